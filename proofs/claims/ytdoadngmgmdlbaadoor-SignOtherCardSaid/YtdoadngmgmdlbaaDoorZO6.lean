/- Texts of this claim, joined (O6). -/
import Derived.Test.YtdoadngmgmdlbaaDoorZO5
import Derived.Great.BuildSlice
import Derived.Lib.LaidTab

set_option linter.unusedVariables false
set_option linter.unusedSimpArgs false
set_option maxHeartbeats 4000000
section
namespace Go.Proofs.YtdoadngmgmdlbaaDoor.Field
open Go Go.RowKit
open Rely Auto
def ordG (fin : Nat→Nat→Nat→Nat→Nat) (E1 E2 E3 E4 e:Nat):Nat→Nat→Nat→Nat→Nat→Nat
  | 0,a,b,c,d=>fin a b c d
  | f+1,a,b,c,d=>ordS E1 E2 E3 E4 (Nat.beq (e/2^f%2) 1) (ordG fin E1 E2 E3 E4 e f) a b c d
theorem QkZ (fin : Nat→Nat→Nat→Nat→Nat) (E1 E2 E3 E4 e a b c d:Nat):ordG fin E1 E2 E3 E4 e 0 a b c d=fin a b c d:=by rw [ordG]
theorem Qla (fin : Nat→Nat→Nat→Nat→Nat) (E1 E2 E3 E4 e f a b c d:Nat):ordG fin E1 E2 E3 E4 e (f+1) a b c d=ordS E1 E2 E3 E4 (Nat.beq (e/2^f%2) 1) (ordG fin E1 E2 E3 E4 e f) a b c d:=by rw [ordG]
theorem Qlb (fin : Nat→Nat→Nat→Nat→Nat) (E1 E2 E3 E4 e:Nat) (h1:E1<PN) (h2:E2<PN) (h3:E3<PN) (h4:E4<PN) (E:W4) (hE:E=Qee (E1,E2,E3,E4)):∀ (f a b c d:Nat),a<PN→b<PN→c<PN→d<PN →
    ∃ r0 r1 r2 r3:Nat,ordG fin E1 E2 E3 E4 e f a b c d=fin r0 r1 r2 r3∧wrun E (Qee (a,b,c,d)) (Qc4 e f)=Qee (r0,r1,r2,r3):=by
  intro f
  induction f with
  | zero=>intro a b c d _ _ _ _; exact ⟨a,b,c,d,QkZ ..,by rw [Qc4,QiM]⟩
  | succ f ih =>
    intro a b c d ha hb hc hd
    obtain ⟨q0,q1,q2,q3,l0,l1,l2,l3,e1,e2⟩:=QhB E1 E2 E3 E4 h1 h2 h3 h4 E hE (Nat.beq (e/2^f%2) 1) (ordG fin E1 E2 E3 E4 e f) a b c d ha hb hc hd
    obtain ⟨r0,r1,r2,r3,e3,e4⟩:=ih q0 q1 q2 q3 l0 l1 l2 l3
    exact ⟨r0,r1,r2,r3,(Qla ..).trans (e1.trans e3),by rw [Qc4,Qhn,e2,e4]⟩
theorem QjA (fin : Nat→Nat→Nat→Nat→Nat) (ks:List Int) (n:Nat) (hbits:bitsB ks=Qc4 n 256) :
    ∃ a b c d:Nat,ordG fin 15112221349535400772501151409588531511454012693041857206046113283949847762202 46316835694926478169428394003475163141307993866256225615783033603165251855960 1 46827403850823179245072216630277197565144205554125654976674165829533817101731 n 256 0 1 1 0=fin a b c d∧Qfn (Qee (a,b,c,d)) (pa ks):=by
  have r:=Qex Qcb (Qgl Qcb) (bitsB ks) pZero_on Qim
  change Qfn _ (climbP BP (bitsB ks)) at r
  rw [Qkx,QiP] at r
  obtain ⟨r0,r1,r2,r3,h1,h2⟩:=Qlb fin 15112221349535400772501151409588531511454012693041857206046113283949847762202 46316835694926478169428394003475163141307993866256225615783033603165251855960 1 46827403850823179245072216630277197565144205554125654976674165829533817101731 n (by decide) (by decide) (by decide) (by decide) _ rfl 256 0 1 1 0 (by decide) (by decide) (by decide) (by decide)
  rw [←hbits] at h2
  rw [h2] at r
  exact ⟨r0,r1,r2,r3,h1,r⟩
def atN (x y a b c d:Nat):Nat:=bif Nat.beq a (c*x%PN)&&Nat.beq b (c*y%PN) then 1 else 2
theorem base_at (ks : List Int) (n x y:Nat) (hbits:bitsB ks=Qc4 n 256) (hx:x<PN) (hy:y<PN) (hrun:ordG (atN x y) 15112221349535400772501151409588531511454012693041857206046113283949847762202 46316835694926478169428394003475163141307993866256225615783033603165251855960 1 46827403850823179245072216630277197565144205554125654976674165829533817101731 n 256 0 1 1 0=1):pa ks=((x:Int),(y:Int)):=by
  obtain ⟨a,b,c,d,h1,r⟩:=QjA (atN x y) ks n hbits
  have on:=Qdn ks
  rw [hrun] at h1
  generalize pa ks=P at r on
  have hq:a=c*x%PN∧b=c*y%PN:=by
    unfold atN at h1
    cases ha:Nat.beq a (c*x%PN) with
    | false=>rw [ha] at h1; simp at h1
    | true =>
      cases hb:Nat.beq b (c*y%PN) with
      | false=>rw [ha,hb] at h1; simp at h1
      | true=>exact ⟨Nat.eq_of_beq_eq_true ha,Nat.eq_of_beq_eq_true hb⟩
  have n:=r.n
  change isN (c:Int) at n
  have hz:(c:Int)%p≠0:=by rw [Qbh n]; exact r.z
  have go:∀ (u:Int) (v t:Nat),isN u→v<PN→(t:Int)=(c:Int)*u%p→t=c*v%PN→u=(v:Int):=fun u v t hu hv e1 e2=>by
    have e3:((c*v%PN:Nat):Int)=(c:Int)*v%p:=Qli c v
    rw [e2,e3] at e1
    have e4:((c:Int)*(u-v))%p=0:=by
      rw [show (c:Int)*(u-v)=c*u-c*v by grind,Int.sub_emod,e1]
      simp
    have e5:=Qg4 ((Qg5 e4).resolve_left hz)
    have hvN:isN (v:Int):=⟨Int.natCast_nonneg v,by rw [←QgN]; exact Int.ofNat_lt.2 hv⟩
    rwa [Qbh hu,Qbh hvN] at e5
  exact Prod.ext (go P.1 x a on.x hx r.hx hq.1) (go P.2 y b on.y hy r.hy hq.2)
def neN (a b c d:Nat):Nat:=bif Nat.beq a 0&&Nat.beq b c then 1 else 2
theorem base_ne (ks : List Int) (n:Nat) (hbits:bitsB ks=Qc4 n 256) (hrun:ordG neN 15112221349535400772501151409588531511454012693041857206046113283949847762202 46316835694926478169428394003475163141307993866256225615783033603165251855960 1 46827403850823179245072216630277197565144205554125654976674165829533817101731 n 256 0 1 1 0=2):pa ks≠QcL:=by
  obtain ⟨a,b,c,d,h1,r⟩:=QjA neN ks n hbits
  rw [hrun] at h1
  intro e
  rw [e] at r
  have hX:(a:Int)=(c:Int)*0%p:=r.hx
  have hY:(b:Int)=(c:Int)*1%p:=r.hy
  have n:=r.n
  change isN (c:Int) at n
  have ha:a=0:=by simp at hX; omega
  have hb:b=c:=by rw [Int.mul_one,Qbh n] at hY; exact Int.ofNat_inj.1 hY
  rw [ha,hb] at h1
  unfold neN at h1
  rw [show Nat.beq 0 0=true from rfl,show Nat.beq c c=true from Nat.beq_refl c] at h1
  exact absurd h1 (by decide)
theorem encP_inj {P Q:Int×Int} (h:OnP P) (k:OnP Q) (e:encP P=encP Q):P=Q:=by
  obtain ⟨h1,h2⟩:=Qpv h.y k.y e
  refine Prod.ext ?_ h1
  have hc:=k.c
  rw [←h1] at hc
  exact Qpx h.x k.x h.c hc h2
end Go.Proofs.YtdoadngmgmdlbaaDoor.Field
namespace Go.Proofs.YtdoadngmgmdlbaaDoor.Sgn
open Go Go.RowKit
open Rely Auto Own Sha5
open Ladder (clamp)
open Field (Qaq resN numA num lims Qca ordL Qb6 QbN QbM Qbc encP Qbs pa Qdn pAdd pNeg mulP QcO okK xK zK mulR BP Qcb numB nmul OnP QcL)
def k7 : List Int:=[7,0,0,0,0,0,0,0,0,0,0,0,0,0,0,0,0,0,0,0,0,0,0,0,0,0,0,0,0,0,0,0]
theorem dig7 : dig k7=[30,99,235,65,17,182,247,76,178,83,156,158,43,100,56,169,221,155,58,236,127,8,57,33,240,97,130,41,171,190,109,223,133,0,0,169,105,225,93,50,128,27,49,80,119,34,43,201,50,214,165,55,186,99,169,213,1,248,60,63,148,211,115,144]:=by decide +kernel
theorem sec7 : secV k7=[24,99,235,65,17,182,247,76,178,83,156,158,43,100,56,169,221,155,58,236,127,8,57,33,240,97,130,41,171,190,109,95]:=by
  unfold secV
  rw [dig7]
  decide +kernel
theorem pre7 : preV k7=[133,0,0,169,105,225,93,50,128,27,49,80,119,34,43,201,50,214,165,55,186,99,169,213,1,248,60,63,148,211,115,144]:=by
  unfold preV
  rw [dig7]
  rfl
theorem pub7 : pubV k7=[162,250,47,74,53,91,162,233,7,165,48,9,233,227,124,173,223,122,199,230,106,8,186,7,99,31,85,48,114,179,242,76]:=by
  unfold pubV
  rw [sec7,Field.base_at [24,99,235,65,17,182,247,76,178,83,156,158,43,100,56,169,221,155,58,236,127,8,57,33,240,97,130,41,171,190,109,95] 43163622891799361314102505944223169546670986980999473268784120504132559397656 20187714700615140322123252784420260477325471643504923403589101600785086395188 34804591973124617498858403915480461027353086822251904420926902256832544242338 (by decide +kernel) (by decide) (by decide) (by decide +kernel)]
  decide +kernel
theorem r7 : sgR k7 [97,98]=[9,117,211,145,147,172,215,196,69,239,17,36,109,136,27,231,19,205,5,176,149,254,130,237,102,181,124,249,83,223,131,1]:=by
  unfold sgR resV
  rw [pre7]
  decide +kernel
theorem f7 : sgF k7 [97,98]=[88,220,12,51,109,77,26,43,33,238,75,152,247,173,26,48,67,116,127,246,2,8,1,74,205,1,113,229,229,248,66,68]:=by
  unfold sgF
  rw [r7,Field.base_at [9,117,211,145,147,172,215,196,69,239,17,36,109,136,27,231,19,205,5,176,149,254,130,237,102,181,124,249,83,223,131,1] 685311167454205173398291671160860818199994811073560760809443716574227952905 31334764600522950466539810408690655280232693241631767212220445267832540044198 30875603441022281803856730662798123229495602649832929132319990546114122931288 (by decide +kernel) (by decide) (by decide) (by decide +kernel)]
  decide +kernel
theorem k7a : sgK k7 [97,98]=[191,137,176,14,22,59,105,160,233,99,53,31,119,199,77,222,195,188,247,51,69,83,49,71,172,4,25,73,106,85,10,14]:=by
  unfold sgK resV
  rw [f7,pub7]
  decide +kernel
theorem k7b : resV (sgF k7 [97,98]++pubV k7++[98])=[11,213,220,147,118,118,129,91,60,181,33,253,36,225,179,172,154,80,193,99,192,147,214,240,152,74,160,78,233,133,128,5]:=by
  unfold resV
  rw [f7,pub7]
  decide +kernel
theorem m7 : pa [159,76,174,155,231,162,47,11,50,143,67,236,20,191,92,21,248,176,168,203,116,171,168,233,60,214,249,162,108,243,142,8]≠QcL:=Field.base_ne _ 3871075125064540017153249593565511684186084678562295577143101991501704350879 (by decide +kernel) (by decide +kernel)
theorem ver7 : verV (pubV k7) (sigV k7 [97,98]) [98]=false:=by
  unfold verV
  rw [Qhp,Qhq,Qj8,(Qha k7).1]
  have hne:eqV (pubV k7) (sgF k7 [97,98]) (sgS k7 [97,98]) (resV (sgF k7 [97,98]++pubV k7++[98]))≠sgF k7 [97,98]:=fun e=>by
    unfold eqV at e
    have hkb:=Qdp (sgF k7 [97,98]++pubV k7++[98])
    rw [k7b] at e hkb
    rw [Qjj k7 _ hkb,QnM,k7a,sec7] at e
    generalize hu:numB [191,137,176,14,22,59,105,160,233,99,53,31,119,199,77,222,195,188,247,51,69,83,49,71,172,4,25,73,106,85,10,14]*numB [24,99,235,65,17,182,247,76,178,83,156,158,43,100,56,169,221,155,58,236,127,8,57,33,240,97,130,41,171,190,109,95]=u at e
    generalize hv:numB [11,213,220,147,118,118,129,91,60,181,33,253,36,225,179,172,154,80,193,99,192,147,214,240,152,74,160,78,233,133,128,5]*numB [24,99,235,65,17,182,247,76,178,83,156,158,43,100,56,169,221,155,58,236,127,8,57,33,240,97,130,41,171,190,109,95]=v at e
    have hR:=Qdn (sgR k7 [97,98])
    have hA:OnP (nmul u BP):=Field.nmul_on Qcb _
    have hB:OnP (nmul v BP):=Field.nmul_on Qcb _
    unfold sgF at e
    have e1:=Field.encP_inj (Field.pAdd_on (Field.pAdd_on hA hR) (Field.pNeg_on hB)) hR e
    generalize pa (sgR k7 [97,98])=R at e1 hR
    -- u B + R - v B = R
    have e2:nmul u BP=nmul v BP:=by
      have h1:=congrArg (fun z=>pAdd z (nmul v BP)) e1
      try simp only at h1
      rw [Field.pAdd_assoc (Field.pAdd_on hA hR) (Field.pNeg_on hB) hB,Field.pAdd_comm (pNeg _) (nmul v BP),Field.pAdd_neg hB,Field.pAdd_zero (Field.pAdd_on hA hR)] at h1
      have h2:=congrArg (fun z=>pAdd z (pNeg R)) h1
      try simp only at h2
      rw [Field.pAdd_assoc hA hR (Field.pNeg_on hR),Field.pAdd_neg hR,Field.pAdd_zero hA,Field.pAdd_comm R (nmul v BP),Field.pAdd_assoc hB hR (Field.pNeg_on hR),Field.pAdd_neg hR,Field.pAdd_zero hB] at h2
      exact h2
    have e3:nmul (u+204956450087291587675963500455654338431229587365018877447990055043383073448384096868951621298659618195474085489996022217861629608554041961735234344930096) BP=nmul (v+204956450087291587675963500455654338431229587365018877447990055043383073448384096868951621298659618195474085489996022217861629608554041961735234344930096) BP:=by
      rw [Field.nmul_add Qcb,Field.nmul_add Qcb,e2]
    have e4:(v+204956450087291587675963500455654338431229587365018877447990055043383073448384096868951621298659618195474085489996022217861629608554041961735234344930096)%ordL.toNat=0:=by
      rw [←hv]
      decide +kernel
    have e5:(u+204956450087291587675963500455654338431229587365018877447990055043383073448384096868951621298659618195474085489996022217861629608554041961735234344930096)%ordL.toNat=3871075125064540017153249593565511684186084678562295577143101991501704350879:=by
      rw [←hu]
      decide +kernel
    rw [←Field.nmul_mod Qcb _ Field.order_mul (v+_),e4,←Field.nmul_mod Qcb _ Field.order_mul (u+_),e5] at e3
    refine m7 ?_
    have hmb:Qaj [159,76,174,155,231,162,47,11,50,143,67,236,20,191,92,21,248,176,168,203,116,171,168,233,60,214,249,162,108,243,142,8]:=by unfold Qaj; decide
    unfold pa
    rw [Field.climb_num Qcb _ hmb,show numB [159,76,174,155,231,162,47,11,50,143,67,236,20,191,92,21,248,176,168,203,116,171,168,233,60,214,249,162,108,243,142,8]=3871075125064540017153249593565511684186084678562295577143101991501704350879 by decide +kernel,e3]
    rfl
  rw [decide_eq_false hne]
  rfl
end Go.Proofs.YtdoadngmgmdlbaaDoor.Sgn
end
section
namespace Go.Proofs.YtdoadngmgmdlbaaDoor.Own
open Go Go.RowKit
open Rely Auto
theorem Qj0 (pl : Nat→Option (Nat×Nat)):∀ (ps:List (Nat×Nat×Value×Array Value)) (pre:List (Array Value)) (rest:Array Value) (off:Nat),(cat pre).size=off→okPl pl off ps→tot ps=rest.size →
    Instr.fill pl (cat pre++rest) (ps.map fun x=>(x.1,x.2.2.1))=some (cat (pre++ps.map fun x=>x.2.2.2))
  | [],pre,rest,off,_,_,ht=>by
    have:rest=#[]:=Array.eq_empty_of_size_eq_zero ht.symm
    subst this
    simp [Instr.fill]
  | (i,n,v,p)::r,pre,rest,off,hoff,⟨h1,h2,h3,h4⟩,ht=>by
    subst h2
    have hn:n≤rest.size:=by rw [←ht,tot]; omega
    simp only [List.map_cons,Instr.fill,h1,h3]
    rw [if_neg (by simp; omega)]
    have hz:(v.cells.zipIdx.foldl (fun cs (x:Value×Nat)=>cs.setIfInBounds (off+x.2) x.1) (cat pre++rest))=cat (pre++[v.cells])++rest.extract n rest.size:=by
      have e1:v.cells.zipIdx=(v.cells.toList.zipIdx 0).toArray:=by
        apply Array.ext'
        simp
      rw [e1,List.foldl_toArray',Qfh]
      · have e2:rest=rest.extract 0 n++rest.extract n rest.size:=by
          rw [Array.extract_append_extract,Nat.max_eq_right hn]
          simp
        have e3:(cat pre++rest)=cat (pre++([rest.extract 0 n]++[rest.extract n rest.size])):=by
          rw [Qba]
          congr 1
        rw [Nat.add_zero,e3]
        have:=Qgw pre [rest.extract 0 n] [v.cells] [rest.extract n rest.size] off hoff (by show v.cells.size=(rest.extract 0 n).size; simp; omega)
        rw [show (cat [v.cells]).toList=v.cells.toList from rfl] at this
        rw [this,←List.append_assoc,Qba (pre++[v.cells])]
        rfl
      · rfl
    have key:=Qj0 pl r (pre++[v.cells]) (rest.extract n rest.size) (off+n) (by rw [Qba]; show (cat pre++v.cells).size=_; simp; omega) h4 (by simp; rw [←ht,tot]; omega)
    rw [←hz] at key
    rw [List.append_assoc] at key
    exact key
theorem Qiu {P : Program} {ρ:Operand→Value} {o:Oper} {w:World} (t e:TypeId) (len:Nat) (parts:Array (Nat×Operand)) (z:Value) (ps:List (Nat×Nat×Value×Array Value))
    (ho:o.op=.buildSlice t len parts) (hv:(parts.map fun (i,x)=>(i,ρ x)).toList=ps.map fun x=>(x.1,x.2.2.1)) (hu:P.underlying t=some (.slice e))
    (hi:(P.info? e).map (fun i=>(i.zero,i.size))=some (some z,32)) (hp:okPl (fun i=>some (i*32,32)) 0 ps) (ht:tot ps=len*32) (h0:0<len) (hl:len≤1000) :
    (execOp ρ o).run P w=.ok (.value (.slice (some ⟨w.heap.size,0,none⟩) len len)) (w.alloc (.cells (cat (ps.map fun x=>x.2.2.2)) e)):=by
  cases hq:P.info? e with
  | none=>rw [hq] at hi; cases hi
  | some i =>
    rw [hq] at hi
    simp only [Option.map_some,Option.some.injEq,Prod.mk.injEq] at hi
    obtain ⟨hz,hs⟩:=hi
    have hf:=Qj0 (fun i=>some (i*32,32)) ps [] ((Array.range (len*32)).map (z.cells[·%z.cells.size]!)) 0 rfl hp (by rw [ht,Array.size_map,Array.size_range])
    rw [show cat []++(Array.range (len*32)).map (z.cells[·%z.cells.size]!)=(Array.range (len*32)).map (z.cells[·%z.cells.size]!) by simp [cat],List.nil_append,←hv] at hf
    have:=run_buildSlice (P:=P) w t e len (parts.map fun (i,x)=>(i,ρ x)) (cat (ps.map fun x=>x.2.2.2)) i z hu hq hz (by rw [hs]; omega) (by rw [hs]; omega) (by rw [hs]; exact hf)
    unfold execOp
    simp only [ho,Sem.run_bind,this,Result.andThen_ok,Sem.run_pure]
end Go.Proofs.YtdoadngmgmdlbaaDoor.Own
end
section
namespace Go.Proofs.YtdoadngmgmdlbaaDoor.Sgn
open Go Go.RowKit
open Rely Auto Own Sha5
open Ladder (clamp)
open Field (Qaq resN numA num lims Qca ordL Qb6 QbN QbM Qbc encP Qbs pa Qdn pAdd pNeg mulP QcO okK xK zK lK mulR BP Qcb numB nmul OnP QcL)
structure Tabs (tc tq tO tB tX tY : TypeId) (w : World) : Prop where
  c:w.heap[5]? = some (.cells (ints .u64 Qc8) tc)
  q:w.heap[4]? = some (.cells (ints .u64 Qbo) tq)
  o:w.heap[3]? = some (.cells Qca tO)
  b:w.heap[2]? = some (.cells (ints .u8 Qb6) tB)
  x:w.heap[0]? = some (.cells (ints .u8 QbN) tX)
  y:w.heap[1]? = some (.cells (ints .u8 QbM) tY)
theorem Tabs.ext {tc tq tO tB tX tY:TypeId} {w W:World} (h:Tabs tc tq tO tB tX tY w) (e:Ext w W):Tabs tc tq tO tB tX tY W:=⟨Qaa h.c e,Qaa h.q e,Qaa h.o e,Qaa h.b e,Qaa h.x e,Qaa h.y e⟩
theorem QnI (xs : List Int) (hx:xs.length=32) (hb:Qaj xs) (tc tq tO tB tX tY:TypeId) (w:World) (hT:Tabs tc tq tO tB tX tY w):Calls Tryd.prog 19 #[.agg (ints .u8 xs)] w (Ret w (.tuple #[.agg (ints .u8 (secV xs)),.agg (ints .u8 (preV xs))])):=by
  unfold secV preV
  exact QpR xs hx hb tc tq w hT.c hT.q
theorem Qrb (xs : List Int) (hxs:xs.length=32) (hbxs:Qaj xs) (gh:Nat) (Th:TypeId) (gp n:Nat) (Tp:TypeId) (ps:List (Value×List Int)) (hn:ps.length=n) (hn9:n≤1000) (hone:∀ u∈ps.map Prod.fst,u.oneCell'=true) (tc tq tO tB tX tY:TypeId) (w:World) (hT:Tabs tc tq tO tB tX tY w) (hheads:w.heap[gh]? = some (.cells (ints .u8 (xs)) Th)) (hrow:w.heap[gp]? = some (.cells (ps.map Prod.fst).toArray Tp)) (hps:∀ p∈ps,RdK .u8 w.heap.size p.2 p.1 w∧Qaj p.2) (t:List Int) (ht:(ps.map Prod.snd).flatten=t) (hlen:t.length≤100000):Calls Tryd.prog 29 #[.slice (some ⟨gp,0,none⟩) n n,.slice (some ⟨gh,0,none⟩) 1 1] w (Ret w (.agg (ints .u8 (resV (xs++t))))):=by
  subst ht
  unfold resV
  exact Qm0 xs hxs hbxs gh Th gp n Tp ps hn hn9 hone tc tq tO w hT.c hT.q hT.o hheads hrow hps hlen
theorem Qqc (xs ys:List Int) (hxs:xs.length=32) (hbxs:Qaj xs) (hys:ys.length=32) (hbys:Qaj ys) (gh:Nat) (Th:TypeId) (gp n:Nat) (Tp:TypeId) (ps:List (Value×List Int)) (hn:ps.length=n) (hn9:n≤1000) (hone:∀ u∈ps.map Prod.fst,u.oneCell'=true) (tc tq tO tB tX tY:TypeId) (w:World) (hT:Tabs tc tq tO tB tX tY w) (hheads:w.heap[gh]? = some (.cells (cat [ints .u8 (xs),ints .u8 (ys)]) Th)) (hrow:w.heap[gp]? = some (.cells (ps.map Prod.fst).toArray Tp)) (hps:∀ p∈ps,RdK .u8 w.heap.size p.2 p.1 w∧Qaj p.2) (t:List Int) (ht:(ps.map Prod.snd).flatten=t) (hlen:t.length≤100000):Calls Tryd.prog 29 #[.slice (some ⟨gp,0,none⟩) n n,.slice (some ⟨gh,0,none⟩) 2 2] w (Ret w (.agg (ints .u8 (resV (xs++ys++t))))):=by
  subst ht
  unfold resV
  exact Qmz xs ys hxs hbxs hys hbys gh Th gp n Tp ps hn hn9 hone tc tq tO w hT.c hT.q hT.o hheads hrow hps hlen
theorem Qo1 (xs : List Int) (hx:xs.length=32) (hb:Qaj xs) (tc tq tO tB tX tY:TypeId) (w:World) (hT:Tabs tc tq tO tB tX tY w):Calls Tryd.prog 10 #[.agg (ints .u8 xs)] w (Ret w (.agg (ints .u8 (encP (pa (secV xs)))))):=by
  refine enter 14 [(0,.agg (ints .u8 (xs)))] Tryd.func10 rfl rfl kj rfl <| sgC fun K1 hK1=>Qah (ints .u8 (xs)) 23 1 rfl kj kj fun g2 W1 l2 e1 r2_1=>?_
  have x1:=Ext.tr (Rely.Ext.refl w) e1
  have b2:=qT (Rely.Ext.refl w).size l2
  refine Qah (ints .u8 (List.replicate 32 0)) 23 2 rfl kj kj fun g3 W2 l3 e2 r3_2=>?_
  have x2:=Ext.tr x1 e2
  refine sgN hK1 <| sgC fun K4 hK4=>Qag (.agg (ints .u8 (xs))) 6 rfl kj (Qac 23 _ g2 23 _ _ (Qaa r2_1 e2) rfl kj kj (isz (n:=32) kj ((Qad _ _).trans hx))) <| Qap (.tuple #[.agg (ints .u8 (secV xs)),.agg (ints .u8 (preV xs))]) 19 #[.agg (ints .u8 (xs))] 7 rfl kj kj (QnI xs hx hb tc tq tO tB tX tY _ (hT.ext x2)) fun W3 e3=>?_
  have x3:=Ext.tr x2 e3
  refine sg 3 kj <| Qah (ints .u8 (List.replicate 32 0)) 23 3 rfl kj kj fun g5 W4 l5 e4 r5_4=>?_
  have x4:=Ext.tr x3 e4
  refine Qah (ints .u8 (List.replicate 32 0)) 23 4 rfl kj kj fun g6 W5 l6 e5 r6_5=>?_
  have r5_5:=(Qaa r5_4 e5)
  refine Qai g5 _ (ints .u8 (secV xs)) 23 r5_5 rfl kj (Qaf 23 _ _ g5 23 _ _ r5_5 rfl kj kj (isz (n:=32) kj ((Qad _ _).trans (Qcm xs))) (eqsz (n:=32) ((Qad _ _).trans (qZ (n:=32))) ((Qad _ _).trans (Qcm xs))) (ints_one _ _)) fun W6 p6 r5_6=>?_
  have r6_6:=(Puts.row p6 r6_5 (Qas r5_4 l6))
  refine Qai g6 _ (ints .u8 (preV xs)) 23 r6_6 rfl kj (Qaf 23 _ _ g6 23 _ _ r6_6 rfl kj kj (isz (n:=32) kj ((Qad _ _).trans (Qdh xs))) (eqsz (n:=32) ((Qad _ _).trans (qZ (n:=32))) ((Qad _ _).trans (Qdh xs))) (ints_one _ _)) fun W7 p7 r6_7=>?_
  have x7:=Puts.ext p7 (Puts.ext p6 (Ext.tr x4 e5) (qT x3.size l5)) (qT x4.size l6)
  refine sgN hK4 <| wp_seq_k fun K7 hK7=>QaC 4 [⟨none,[]⟩,⟨none,[(3,none)]⟩,⟨none,[(10,some 0),(11,some 1)]⟩,⟨none,[(12,some 2)]⟩] kj kj fun F hF=>Qan (.agg (Field.ptA (BP))) 20 #[] kj kj (fun W=>kj) (fun W hR=>Field.ptBase W tX (hT.ext (Rely.Ext.trans (Rely.Ext.trans x7 (Qae _)) hR)).x tY (hT.ext (Rely.Ext.trans (Rely.Ext.trans x7 (Qae _)) hR)).y) <| Qal (.agg (ints .u8 (secV xs))) kj kj (fun W hR=>(Qac 23 _ g5 23 _ _ (Qaa (Qaa (Puts.row p7 r5_6 (Qab r5_4 l6)) (Qae _)) hR) rfl kj kj (isz (n:=32) kj ((Qad _ _).trans (Qcm xs))))) <| Qan (.agg (Field.ptA (pa (secV xs)))) 21 #[.agg (Field.ptA (BP)),.agg (ints .u8 (secV xs))] kj kj (fun W=>kj) (fun W hR=>Field.ptTimes Qcb (secV xs) (Qcm xs) (QcX xs) W tB (hT.ext (Rely.Ext.trans (Rely.Ext.trans x7 (Qae _)) hR)).b) <| Qan (.agg (ints .u8 (encP (pa (secV xs))))) 22 #[.agg (Field.ptA (pa (secV xs)))] kj kj (fun W=>kj) (fun W hR=>Field.ptBytes (Qdn (secV xs)) W) <| Qa2 (hF _ kj fun W8 e8=>?_)
  simp only [ups,up,Kn.val,List.take_succ_cons,List.take_zero,List.drop_succ_cons,List.drop_zero,List.nil_append,List.cons_append]
  clear hF
  have r3_3:=(Qaa r3_2 e3)
  have r3_4:=(Qaa r3_3 e4)
  have r3_8:=(Qaa (Puts.row p7 (Puts.row p6 (Qaa r3_4 e5) (Qab r3_3 l5)) (Qab r3_4 l6)) e8)
  refine Qai g3 _ (ints .u8 (encP (pa (secV xs)))) 23 r3_8 rfl kj (Qaf 23 _ _ g3 23 _ _ r3_8 rfl kj kj (isz (n:=32) kj ((Qad _ _).trans (Qbs _))) (eqsz (n:=32) ((Qad _ _).trans (qZ (n:=32))) ((Qad _ _).trans (Qbs _))) (ints_one _ _)) fun W9 p9 r3_9=>sgN hK7 <| wp_ret ?_
  repeat (first | with_reducible refine goR1 ?_ | with_reducible refine goR2 ?_)
  exact (show bodyPost _ _ _ .ret _ _ from ret1 (.agg (ints .u8 (encP (pa (secV xs))))) rfl (Qa8 g3 23 _ r3_9 kj kj (isz (n:=32) kj ((Qad _ _).trans (Qbs _)))) ⟨rfl,(Puts.ext p9 (Ext.tr x7 e8) (qT x1.size l3))⟩)
theorem QkP (xs : List Int) (hx:xs.length=32) (hb:Qaj xs) (tc tq tO tB tX tY:TypeId) (w:World) (hT:Tabs tc tq tO tB tX tY w):Calls Tryd.prog 10 #[.agg (ints .u8 xs)] w (Ret w (.agg (ints .u8 (pubV xs)))):=by
  unfold pubV
  exact Qo1 xs hx hb tc tq tO tB tX tY w hT
end Go.Proofs.YtdoadngmgmdlbaaDoor.Sgn
end
section
namespace Go.Proofs.YtdoadngmgmdlbaaDoor.Sgn
open Go Go.RowKit
open Rely Auto Own Sha5
open Ladder (clamp)
open Field (Qaq resN numA num lims Qca ordL Qb6 QbN QbM Qbc encP Qbs pa Qdn pAdd pNeg mulP QcO okK xK zK lK mulR BP Qcb numB nmul OnP QcL)
theorem Qo2 (xs : List Int):encP (pa (secV xs))=pubV xs:=by unfold pubV; rfl
theorem QpX (xs t:List Int):resV (preV xs++t)=sgR xs t:=by unfold sgR; rfl
theorem QpZ (xs t:List Int):encP (pa (sgR xs t))=sgF xs t:=by unfold sgF; rfl
theorem QpY (xs t:List Int):resV (sgF xs t++pubV xs++t)=sgK xs t:=by unfold sgK; rfl
theorem QpW (xs t:List Int):Qaq (mulR (sgK xs t) (secV xs) (sgR xs t))=sgS xs t:=by unfold sgS; rfl
theorem Qok (xs t:List Int):sgF xs t++sgS xs t=sigV xs t:=by unfold sigV; rfl
theorem Qpz {z : List Int} (h:z.length=32):(List.replicate 64 (0:Int)).take (0+0)++z.take 32++(List.replicate 64 (0:Int)).drop ((0+0)+32)=z++List.replicate 32 0:=by
  rw [List.take_of_length_le (qE h)]
  rfl
theorem Qp0 {a z:List Int} (ha:a.length=32) (h:z.length=32):(a++List.replicate 32 (0:Int)).take (0+32)++z.take 32++(a++List.replicate 32 (0:Int)).drop ((0+32)+32)=a++z:=by
  rw [List.take_of_length_le (qE h),List.take_left' ha,List.drop_of_length_le (by rw [List.length_append,ha,qZ]; decide),List.append_nil]
theorem Qro {a z:List Int} (ha:a.length=32) (h:z.length=32):(a++z).length=64:=by rw [List.length_append,ha,h]
theorem QpS (xs : List Int) (hx:xs.length=32) (hb:Qaj xs) (gp n:Nat) (Tp:TypeId) (ps:List (Value×List Int)) (hn:ps.length=n) (hn9:n≤1000) (hone:∀ u∈ps.map Prod.fst,u.oneCell'=true) (tc tq tO tB tX tY:TypeId) (w:World) (hT:Tabs tc tq tO tB tX tY w) (hrow:w.heap[gp]? = some (.cells (ps.map Prod.fst).toArray Tp)) (hps:∀ p∈ps,RdK .u8 w.heap.size p.2 p.1 w∧Qaj p.2) (t:List Int) (ht:(ps.map Prod.snd).flatten=t) (hlen:t.length≤100000):Calls Tryd.prog 13 #[.agg (ints .u8 xs),.slice (some ⟨gp,0,none⟩) n n] w (Ret w (.agg (ints .u8 (sigV xs t)))):=by
  refine enter 46 [(0,.agg (ints .u8 (xs))),(1,.slice (some ⟨gp,0,none⟩) n n)] Tryd.func13 rfl rfl kj rfl <| sgC fun K2 hK2=>Qah (ints .u8 (xs)) 23 2 rfl kj kj fun g3 W1 l3 e1 r3_1=>?_
  have x1:=Ext.tr (Rely.Ext.refl w) e1
  have b3:=qT (Rely.Ext.refl w).size l3
  refine Qah (ints .u8 (List.replicate 64 0)) 30 4 rfl kj kj fun g4 W2 l4 e2 r4_2=>?_
  have x2:=Ext.tr x1 e2
  refine sgN hK2 <| sgC fun K5 hK5=>Qag (.agg (ints .u8 (xs))) 14 rfl kj (Qac 23 _ g3 23 _ _ (Qaa r3_1 e2) rfl kj kj (isz (n:=32) kj ((Qad _ _).trans hx))) <| Qap (.tuple #[.agg (ints .u8 (secV xs)),.agg (ints .u8 (preV xs))]) 19 #[.agg (ints .u8 (xs))] 15 rfl kj kj (QnI xs hx hb tc tq tO tB tX tY _ (hT.ext x2)) fun W3 e3=>?_
  have x3:=Ext.tr x2 e3
  refine sg 3 kj <| Qah (ints .u8 (List.replicate 32 0)) 23 5 rfl kj kj fun g6 W4 l6 e4 r6_4=>?_
  have x4:=Ext.tr x3 e4
  refine Qah (ints .u8 (List.replicate 32 0)) 23 6 rfl kj kj fun g7 W5 l7 e5 r7_5=>?_
  have r6_5:=(Qaa r6_4 e5)
  refine Qai g6 _ (ints .u8 (secV xs)) 23 r6_5 rfl kj (Qaf 23 _ _ g6 23 _ _ r6_5 rfl kj kj (isz (n:=32) kj ((Qad _ _).trans (Qcm xs))) (eqsz (n:=32) ((Qad _ _).trans (qZ (n:=32))) ((Qad _ _).trans (Qcm xs))) (ints_one _ _)) fun W6 p6 r6_6=>?_
  have r7_6:=(Puts.row p6 r7_5 (Qas r6_4 l7))
  refine Qai g7 _ (ints .u8 (preV xs)) 23 r7_6 rfl kj (Qaf 23 _ _ g7 23 _ _ r7_6 rfl kj kj (isz (n:=32) kj ((Qad _ _).trans (Qdh xs))) (eqsz (n:=32) ((Qad _ _).trans (qZ (n:=32))) ((Qad _ _).trans (Qdh xs))) (ints_one _ _)) fun W7 p7 r7_7=>?_
  have x7:=Puts.ext p7 (Puts.ext p6 (Ext.tr x4 e5) (qT x3.size l6)) (qT x4.size l7)
  refine sgN hK5 <| wp_seq_k fun K8 hK8=>QaX 5 [⟨none,[]⟩,⟨none,[(5,none)]⟩,⟨none,[(18,some 0),(19,some 1)]⟩,⟨none,[(20,some 2)]⟩,⟨none,[]⟩] [4] kj kj kj fun F hF=>Qan (.agg (Field.ptA (BP))) 20 #[] kj kj (fun W=>kj) (fun W hR=>Field.ptBase W tX (hT.ext (Rely.Ext.trans (Rely.Ext.trans x7 (Qae _)) hR)).x tY (hT.ext (Rely.Ext.trans (Rely.Ext.trans x7 (Qae _)) hR)).y) ?_
  have r6_7:=(Puts.row p7 r6_6 (Qab r6_4 l7))
  refine Qal (.agg (ints .u8 (secV xs))) kj kj (fun W hR=>(Qac 23 _ g6 23 _ _ (Qaa (Qaa r6_7 (Qae _)) hR) rfl kj kj (isz (n:=32) kj ((Qad _ _).trans (Qcm xs))))) <| Qan (.agg (Field.ptA (pa (secV xs)))) 21 #[.agg (Field.ptA (BP)),.agg (ints .u8 (secV xs))] kj kj (fun W=>kj) (fun W hR=>Field.ptTimes Qcb (secV xs) (Qcm xs) (QcX xs) W tB (hT.ext (Rely.Ext.trans (Rely.Ext.trans x7 (Qae _)) hR)).b) <| Qan (.agg (ints .u8 (encP (pa (secV xs))))) 22 #[.agg (Field.ptA (pa (secV xs)))] kj kj (fun W=>kj) (fun W hR=>Field.ptBytes (Qdn (secV xs)) W) <| Qb5 (ints .u8 (List.replicate 32 0)) 23 kj (qR _) kj (fun W=>kj) <| Qa2 (hF _ kj fun W8 e8=>?_)
  simp only [fins,up,List.take_succ_cons,List.take_zero,List.drop_succ_cons,List.drop_zero,List.nil_append,List.cons_append]
  intro g9 l9 r9_8 n9
  clear hF
  refine Qai g9 _ (ints .u8 (encP (pa (secV xs)))) 23 r9_8 rfl kj (Qaf 23 _ _ g9 23 _ _ r9_8 rfl kj kj (isz (n:=32) kj ((Qad _ _).trans (Qbs _))) (eqsz (n:=32) ((Qad _ _).trans (qZ (n:=32))) ((Qad _ _).trans (Qbs _))) (ints_one _ _)) fun W9 p9 r9_9=>?_
  have x9:=Puts.ext p9 (Ext.tr x7 e8) (qT x7.size l9)
  refine sgN hK8 <| wp_seq_k fun K10 hK10=>?_
  have r9_9_11:W9.heap[g9]? = some (.cells (ints .u8 (pubV xs)) 23):=QaJ r9_9 (Qo2 xs)
  refine Qat <| sg 1 kj <| Qag (.agg (ints .u8 (preV xs))) 23 rfl kj (Qac 23 _ g7 23 _ _ (Puts.row p9 (Qaa r7_7 e8) (Qab r7_7 l9)) rfl kj kj (isz (n:=32) kj ((Qad _ _).trans (Qdh xs)))) <| QaW (ints .u8 (preV xs)) 23 1 24 rfl kj (Qiu (P:=Tryd.prog) 94 23 1 _ (.agg (ints .u8 (List.replicate 32 0))) ([(0,32,.agg (ints .u8 (preV xs)),ints .u8 (preV xs))]:List (Nat×Nat×Value×Array Value)) rfl kj kj kj ⟨rfl,rfl,(Qad _ _).trans (Qdh xs),trivial⟩ rfl (by decide) (by decide)) fun g12 W10 l12 e10 r12_10=>?_
  have x10:=Ext.tr x9 e10
  have b12:=qT x9.size l12
  have r1_3:=(Qaa (Qaa (Qaa hrow e1) e2) e3)
  have r1_4:=(Qaa r1_3 e4)
  have r1_7:=(Puts.row p7 (Puts.row p6 (Qaa r1_4 e5) (Qab r1_3 l6)) (Qab r1_4 l7))
  have r1_10:=(Qaa (Puts.row p9 (Qaa r1_7 e8) (Qab r1_7 l9)) e10)
  refine Qap (.agg (ints .u8 (resV ((preV xs)++t)))) 29 #[.slice (some ⟨gp,0,none⟩) n n,.slice (some ⟨g12,0,none⟩) 1 1] 25 rfl kj kj (Qrb (preV xs) (Qdh xs) (QjW xs) g12 _ gp n Tp ps hn hn9 hone tc tq tO tB tX tY _ (hT.ext x10) r12_10 r1_10 (fun p hp=>⟨RdK.here ((hps p hp).1.ext x10),(hps p hp).2⟩) t ht hlen) fun W11 e11=>?_
  have x11:=Ext.tr x10 e11
  refine Qah (ints .u8 (List.replicate 32 0)) 23 8 rfl kj kj fun g13 W12 l13 e12 r13_12=>Qai g13 _ (ints .u8 (resV ((preV xs)++t))) 23 r13_12 rfl kj (Qaf 23 _ _ g13 23 _ _ r13_12 rfl kj kj (isz (n:=32) kj ((Qad _ _).trans (QbY _))) (eqsz (n:=32) ((Qad _ _).trans (qZ (n:=32))) ((Qad _ _).trans (QbY _))) (ints_one _ _)) fun W13 p13 r13_13=>?_
  have x13:=Puts.ext p13 (Ext.tr x11 e12) (qT x11.size l13)
  refine sgN hK10 <| wp_seq_k fun K14 hK14=>?_
  have r13_13_15:W13.heap[g13]? = some (.cells (ints .u8 (sgR xs t)) 23):=QaJ r13_13 (QpX xs t)
  refine QaX 5 [⟨none,[]⟩,⟨none,[(8,none)]⟩,⟨none,[(26,some 0),(27,some 1)]⟩,⟨none,[(28,some 2)]⟩,⟨none,[]⟩] [4] kj kj kj fun F hF=>Qan (.agg (Field.ptA (BP))) 20 #[] kj kj (fun W=>kj) (fun W hR=>Field.ptBase W tX (hT.ext (Rely.Ext.trans (Rely.Ext.trans x13 (Qae _)) hR)).x tY (hT.ext (Rely.Ext.trans (Rely.Ext.trans x13 (Qae _)) hR)).y) <| Qal (.agg (ints .u8 (sgR xs t))) kj kj (fun W hR=>(Qac 23 _ g13 23 _ _ (Qaa (Qaa r13_13_15 (Qae _)) hR) rfl kj kj (isz (n:=32) kj ((Qad _ _).trans (QeM xs t))))) <| Qan (.agg (Field.ptA (pa (sgR xs t)))) 21 #[.agg (Field.ptA (BP)),.agg (ints .u8 (sgR xs t))] kj kj (fun W=>kj) (fun W hR=>Field.ptTimes Qcb (sgR xs t) (QeM xs t) (Qe4 xs t) W tB (hT.ext (Rely.Ext.trans (Rely.Ext.trans x13 (Qae _)) hR)).b) <| Qan (.agg (ints .u8 (encP (pa (sgR xs t))))) 22 #[.agg (Field.ptA (pa (sgR xs t)))] kj kj (fun W=>kj) (fun W hR=>Field.ptBytes (Qdn (sgR xs t)) W) <| Qb5 (ints .u8 (List.replicate 32 0)) 23 kj (qR _) kj (fun W=>kj) <| Qa2 (hF _ kj fun W14 e14=>?_)
  simp only [fins,up,List.take_succ_cons,List.take_zero,List.drop_succ_cons,List.drop_zero,List.nil_append,List.cons_append]
  intro g16 l16 r16_14 n16
  clear hF
  refine Qai g16 _ (ints .u8 (encP (pa (sgR xs t)))) 23 r16_14 rfl kj (Qaf 23 _ _ g16 23 _ _ r16_14 rfl kj kj (isz (n:=32) kj ((Qad _ _).trans (Qbs _))) (eqsz (n:=32) ((Qad _ _).trans (qZ (n:=32))) ((Qad _ _).trans (Qbs _))) (ints_one _ _)) fun W15 p15 r16_15=>?_
  have x15:=Puts.ext p15 (Ext.tr x13 e14) (qT x13.size l16)
  refine sgN hK14 <| wp_seq_k fun K17 hK17=>?_
  have r16_15_18:W15.heap[g16]? = some (.cells (ints .u8 (sgF xs t)) 23):=QaJ r16_15 (QpZ xs t)
  refine Qat <| sg 1 kj <| Qag (.agg (ints .u8 (sgF xs t))) 31 rfl kj (Qac 23 _ g16 23 _ _ r16_15_18 rfl kj kj (isz (n:=32) kj ((Qad _ _).trans (QcC xs t)))) ?_
  have r9_11:=(Qaa (Qaa r9_9_11 e10) e11)
  have r9_13:=(Puts.row p13 (Qaa r9_11 e12) (Qab r9_11 l13))
  refine Qag (.agg (ints .u8 (pubV xs))) 32 rfl kj (Qac 23 _ g9 23 _ _ (Puts.row p15 (Qaa r9_13 e14) (Qab r9_13 l16)) rfl kj kj (isz (n:=32) kj ((Qad _ _).trans (Qbp xs)))) <| QaW (cat [ints .u8 (sgF xs t),ints .u8 (pubV xs)]) 23 2 33 rfl kj (Qiu (P:=Tryd.prog) 94 23 2 _ (.agg (ints .u8 (List.replicate 32 0))) ([(0,32,.agg (ints .u8 (sgF xs t)),ints .u8 (sgF xs t)),(1,32,.agg (ints .u8 (pubV xs)),ints .u8 (pubV xs))]:List (Nat×Nat×Value×Array Value)) rfl kj kj kj ⟨rfl,rfl,(Qad _ _).trans (QcC xs t),rfl,rfl,(Qad _ _).trans (Qbp xs),trivial⟩ rfl (by decide) (by decide)) fun g19 W16 l19 e16 r19_16=>?_
  have x16:=Ext.tr x15 e16
  have b19:=qT x15.size l19
  have r1_11:=(Qaa r1_10 e11)
  have r1_13:=(Puts.row p13 (Qaa r1_11 e12) (Qab r1_11 l13))
  refine Qap (.agg (ints .u8 (resV ((sgF xs t)++(pubV xs)++t)))) 29 #[.slice (some ⟨gp,0,none⟩) n n,.slice (some ⟨g19,0,none⟩) 2 2] 34 rfl kj kj (Qqc (sgF xs t) (pubV xs) (QcC xs t) (Qhr xs t) (Qbp xs) (Qcu xs) g19 _ gp n Tp ps hn hn9 hone tc tq tO tB tX tY _ (hT.ext x16) r19_16 (Qaa (Puts.row p15 (Qaa r1_13 e14) (Qab r1_13 l16)) e16) (fun p hp=>⟨RdK.here ((hps p hp).1.ext x16),(hps p hp).2⟩) t ht hlen) fun W17 e17=>?_
  have x17:=Ext.tr x16 e17
  refine Qah (ints .u8 (List.replicate 32 0)) 23 10 rfl kj kj fun g20 W18 l20 e18 r20_18=>Qai g20 _ (ints .u8 (resV ((sgF xs t)++(pubV xs)++t))) 23 r20_18 rfl kj (Qaf 23 _ _ g20 23 _ _ r20_18 rfl kj kj (isz (n:=32) kj ((Qad _ _).trans (QbY _))) (eqsz (n:=32) ((Qad _ _).trans (qZ (n:=32))) ((Qad _ _).trans (QbY _))) (ints_one _ _)) fun W19 p19 r20_19=>?_
  have x19:=Puts.ext p19 (Ext.tr x17 e18) (qT x17.size l20)
  refine sgN hK17 <| wp_seq_k fun K21 hK21=>?_
  have r20_19_22:W19.heap[g20]? = some (.cells (ints .u8 (sgK xs t)) 23):=QaJ r20_19 (QpY xs t)
  refine Qat <| Qag (.agg (ints .u8 (sgK xs t))) 35 rfl kj (Qac 23 _ g20 23 _ _ r20_19_22 rfl kj kj (isz (n:=32) kj ((Qad _ _).trans (Qk5 xs t)))) ?_
  have r6_11:=(Qaa (Qaa (Puts.row p9 (Qaa r6_7 e8) (Qab r6_7 l9)) e10) e11)
  have r6_13:=(Puts.row p13 (Qaa r6_11 e12) (Qab r6_11 l13))
  have r6_17:=(Qaa (Qaa (Puts.row p15 (Qaa r6_13 e14) (Qab r6_13 l16)) e16) e17)
  refine Qag (.agg (ints .u8 (secV xs))) 36 rfl kj (Qac 23 _ g6 23 _ _ (Puts.row p19 (Qaa r6_17 e18) (Qab r6_17 l20)) rfl kj kj (isz (n:=32) kj ((Qad _ _).trans (Qcm xs)))) ?_
  have r13_17:=(Qaa (Qaa (Puts.row p15 (Qaa r13_13_15 e14) (Qab r13_13_15 l16)) e16) e17)
  refine Qag (.agg (ints .u8 (sgR xs t))) 37 rfl kj (Qac 23 _ g13 23 _ _ (Puts.row p19 (Qaa r13_17 e18) (Qab r13_17 l20)) rfl kj kj (isz (n:=32) kj ((Qad _ _).trans (QeM xs t)))) <| Qap (.agg (ints .u8 (Qaq (mulR (sgK xs t) (secV xs) (sgR xs t))))) 30 #[.agg (ints .u8 (sgK xs t)),.agg (ints .u8 (secV xs)),.agg (ints .u8 (sgR xs t))] 38 rfl kj kj (Field.mulAddC (sgK xs t) (secV xs) (sgR xs t) (Qk5 xs t) (Qf5 xs t) (Qcm xs) (QcX xs) (QeM xs t) (Qe4 xs t) _ tO (hT.ext x19).o) fun W20 e20=>?_
  have x20:=Ext.tr x19 e20
  refine Qah (ints .u8 (List.replicate 32 0)) 23 11 rfl kj kj fun g23 W21 l23 e21 r23_21=>Qai g23 _ (ints .u8 (Qaq (mulR (sgK xs t) (secV xs) (sgR xs t)))) 23 r23_21 rfl kj (Qaf 23 _ _ g23 23 _ _ r23_21 rfl kj kj (isz (n:=32) kj ((Qad _ _).trans (bytesOf_len _))) (eqsz (n:=32) ((Qad _ _).trans (qZ (n:=32))) ((Qad _ _).trans (bytesOf_len _))) (ints_one _ _)) fun W22 p22 r23_22=>?_
  have x22:=Puts.ext p22 (Ext.tr x20 e21) (qT x20.size l23)
  refine sgN hK21 <| wp_seq_k fun K24 hK24=>?_
  have r23_22_25:W22.heap[g23]? = some (.cells (ints .u8 (sgS xs t)) 23):=QaJ r23_22 (QpW xs t)
  refine Qat <| Qah (ints .u8 (List.replicate 64 0)) 30 12 rfl kj kj fun g26 W23 l26 e23 r26_23=>?_
  have b26:=qT x22.size l26
  refine sgN hK24 <| wp_seq_k fun K27 hK27=>Qbk 2 [⟨none,[(12,none)]⟩,⟨none,[(9,none)]⟩] kj kj fun F hF=>QaK (Qau _) (.slice (some ⟨g26,0+0,none⟩) (32-0) (64-0)) kj kj (fun W=>(QbA 30 _ _ _ 0 32 64 g26 0 5 rfl kj kj kj rfl ⟨.i64,kj⟩ (by omega) (by omega) (by omega))) <| QaK (Qau _) (.slice (some ⟨g16,0,none⟩) 32 32) kj kj (fun W=>kj) <| QdL (hF _ fun W24 e24=>?_)
  simp only [List.nil_append,List.cons_append,List.take_succ_cons,List.take_zero,List.drop_succ_cons,List.drop_zero,finE,up]
  clear hF
  have r16_17:=(Qaa (Qaa r16_15_18 e16) e17)
  have r16_20:=(Qaa (Puts.row p19 (Qaa r16_17 e18) (Qab r16_17 l20)) e20)
  have r16_24:=(Qaa (Qaa (Puts.row p22 (Qaa r16_20 e21) (Qab r16_20 l23)) e23) e24)
  have hrd28:RdK .u8 W24.heap.size (sgF xs t) (.slice (some ⟨g16,0,none⟩) 32 32) W24:=Qem 0 (QcC xs t) r16_24 (fun i hi=>by rw [Nat.zero_add]; exact Qar .u8 _ i (by rw [QcC xs t]; exact hi)) (QaB r16_24) (by decide) (by decide)
  refine Qcj (k:=.u8) (e:=5) (z:=sgF xs t) (.tmp 39) (.tmp 40) 27 27 41 rfl kj kj rfl kj (off:=0+0) (dl:=32-0) (dc:=64-0) (n:=32) (xs:=List.replicate 64 0) kj kj hrd28 (Qaa r26_23 e24) (qT (show 0+0+(32-0)≤64 from (by decide)) (qE (qZ (n:=64)).symm)) (by rw [(QcC xs t)]; rfl) fun W25 p25 r26_25=>?_
  have r26_25_29:W25.heap[g26]? = some (.cells (ints .u8 (sgF xs t++List.replicate 32 0)) 30):=QaJ r26_25 (Qpz (QcC xs t))
  refine sgN hK27 <| wp_seq_k fun K30 hK30=>Qbk 2 [⟨none,[(12,none)]⟩,⟨none,[(11,none)]⟩] kj kj fun F hF=>QaK (Qau _) (.slice (some ⟨g26,0+32,none⟩) (64-32) (64-32)) kj kj (fun W=>(QbA 30 _ _ _ 32 64 64 g26 0 5 rfl kj kj kj ⟨.i64,kj⟩ rfl (by omega) (by omega) (by omega))) <| QaK (Qau _) (.slice (some ⟨g23,0,none⟩) 32 32) kj kj (fun W=>kj) <| QdL (hF _ fun W26 e26=>?_)
  simp only [List.nil_append,List.cons_append,List.take_succ_cons,List.take_zero,List.drop_succ_cons,List.drop_zero,finE,up]
  clear hF
  have r23_26:=(Qaa (Puts.row p25 (Qaa (Qaa r23_22_25 e23) e24) (Qab r23_22_25 l26)) e26)
  have hrd31:RdK .u8 W26.heap.size (sgS xs t) (.slice (some ⟨g23,0,none⟩) 32 32) W26:=Qem 0 (Qf4 xs t) r23_26 (fun i hi=>by rw [Nat.zero_add]; exact Qar .u8 _ i (by rw [Qf4 xs t]; exact hi)) (QaB r23_26) (by decide) (by decide)
  refine Qcj (k:=.u8) (e:=5) (z:=sgS xs t) (.tmp 42) (.tmp 43) 27 27 44 rfl kj kj rfl kj (off:=0+32) (dl:=64-32) (dc:=64-32) (n:=32) (xs:=sgF xs t++List.replicate 32 0) kj kj hrd31 (Qaa r26_25_29 e26) (qT (show 0+32+(64-32)≤64 from (by decide)) (qE (Qro (QcC xs t) qZ).symm)) (by rw [(Qf4 xs t)]; rfl) fun W27 p27 r26_27=>?_
  have r26_27_32:W27.heap[g26]? = some (.cells (ints .u8 (sgF xs t++sgS xs t)) 30):=QaJ r26_27 (Qp0 (QcC xs t) (Qf4 xs t))
  refine sgN hK30 <| wp_seq_k fun K33 hK33=>?_
  have r26_27_34:W27.heap[g26]? = some (.cells (ints .u8 (sigV xs t)) 30):=QaJ r26_27_32 (Qok xs t)
  refine Qat <| Qag (.agg (ints .u8 (sigV xs t))) 45 rfl kj (Qac 30 _ g26 30 _ _ r26_27_34 rfl kj kj (isz (n:=64) kj ((Qad _ _).trans (Qbu xs t)))) ?_
  have r4_3:=(Qaa r4_2 e3)
  have r4_4:=(Qaa r4_3 e4)
  have r4_7:=(Puts.row p7 (Puts.row p6 (Qaa r4_4 e5) (Qab r4_3 l6)) (Qab r4_4 l7))
  have r4_11:=(Qaa (Qaa (Puts.row p9 (Qaa r4_7 e8) (Qab r4_7 l9)) e10) e11)
  have r4_13:=(Puts.row p13 (Qaa r4_11 e12) (Qab r4_11 l13))
  have r4_17:=(Qaa (Qaa (Puts.row p15 (Qaa r4_13 e14) (Qab r4_13 l16)) e16) e17)
  have r4_20:=(Qaa (Puts.row p19 (Qaa r4_17 e18) (Qab r4_17 l20)) e20)
  have r4_22:=(Puts.row p22 (Qaa r4_20 e21) (Qab r4_20 l23))
  have r4_27:=(Puts.row p27 (Qaa (Puts.row p25 (Qaa (Qaa r4_22 e23) e24) (Qab r4_22 l26)) e26) (Qab r4_22 l26))
  refine Qai g4 _ (ints .u8 (sigV xs t)) 30 r4_27 rfl kj (Qaf 30 _ _ g4 30 _ _ r4_27 rfl kj kj (isz (n:=64) kj ((Qad _ _).trans (Qbu xs t))) (eqsz (n:=64) ((Qad _ _).trans (qZ (n:=64))) ((Qad _ _).trans (Qbu xs t))) (ints_one _ _)) fun W28 p28 r4_28=>sgN hK33 <| wp_ret ?_
  repeat (first | with_reducible refine goR1 ?_ | with_reducible refine goR2 ?_)
  exact (show bodyPost _ _ _ .ret _ _ from ret1 (.agg (ints .u8 (sigV xs t))) rfl (Qa8 g4 30 _ r4_28 kj kj (isz (n:=64) kj ((Qad _ _).trans (Qbu xs t)))) ⟨rfl,(Puts.ext p28 (Puts.ext p27 (Ext.tr (Puts.ext p25 (Ext.tr (Ext.tr x22 e23) e24) b26) e26) b26) (qT x1.size l4))⟩)
end Go.Proofs.YtdoadngmgmdlbaaDoor.Sgn
end
section
namespace Go.Proofs.YtdoadngmgmdlbaaDoor.Sgn
open Go Go.RowKit
open Rely Auto Own Sha5
open Ladder (clamp)
open Field (Qaq resN numA num lims Qca ordL Qb6 QbN QbM Qbc encP Qbs pa Qdn pAdd pNeg mulP QcO okK xK zK lK mulR BP Qcb numB nmul OnP QcL)
theorem QqG (p : List Int) (hp:p.length=32) (hb:Qaj p) (b:Bool) (ho:okK p=b) (w:World) (tB:TypeId) (hB:w.heap[2]? = some (.cells (ints .u8 Qb6) tB)):Calls Tryd.prog 34 #[.agg (ints .u8 p)] w (Ret w (.tuple #[.agg (Field.ptA (xK p,zK p)),.bool b])):=by
  have c:=Field.pfromC p hp hb w tB hB
  rw [ho,Field.lK_eq] at c
  exact c
theorem canS (s : List Int) (hs:s.length=32) (hb:Qaj s) (b:Bool) (h:canV s=b) (w:World) (tO:TypeId) (hO:w.heap[3]? = some (.cells Qca tO)):Calls Tryd.prog 33 #[.agg (ints .u8 s)] w (Ret w (.bool b)):=by
  subst h
  exact Field.residueBC s hs hb w tO hO
theorem Qoc (p s:List Int) (hp:p.length=32) (hpb:Qaj p) (hs:s.length=64) (hsb:Qaj s) (hc:canV (s.drop 32)=false) (gp n:Nat) (Tp:TypeId) (ps:List (Value×List Int)) (hn:ps.length=n) (hn9:n≤1000) (hone:∀ u∈ps.map Prod.fst,u.oneCell'=true) (tc tq tO tB tX tY:TypeId) (w:World) (hT:Tabs tc tq tO tB tX tY w) (hrow:w.heap[gp]? = some (.cells (ps.map Prod.fst).toArray Tp)) (hps:∀ p∈ps,RdK .u8 w.heap.size p.2 p.1 w∧Qaj p.2) (t:List Int) (ht:(ps.map Prod.snd).flatten=t) (hlen:t.length≤100000):Calls Tryd.prog 16 #[.agg (ints .u8 p),.agg (ints .u8 s),.slice (some ⟨gp,0,none⟩) n n] w (Ret w (.bool false)):=by
  refine enter 44 [(0,.agg (ints .u8 (p))),(1,.agg (ints .u8 (s))),(2,.slice (some ⟨gp,0,none⟩) n n)] Tryd.func16 rfl rfl kj rfl <| sgC fun K2 hK2=>Qah (ints .u8 (p)) 23 3 rfl kj kj fun g3 W1 l3 e1 r3_1=>?_
  have x1:=Ext.tr (Rely.Ext.refl w) e1
  have b3:=qT (Rely.Ext.refl w).size l3
  refine Qah (ints .u8 (s)) 30 4 rfl kj kj fun g4 W2 l4 e2 r4_2=>?_
  have x2:=Ext.tr x1 e2
  have b4:=qT x1.size l4
  refine sg 1 kj <| sgN hK2 <| sgC fun K5 hK5=>Qah (ints .u8 (List.replicate 32 0)) 23 7 rfl kj kj fun g6 W3 l6 e3 r6_3=>?_
  have x3:=Ext.tr x2 e3
  refine Qah (ints .u8 (List.replicate 32 0)) 23 8 rfl kj kj fun g7 W4 l7 e4 r7_4=>sgN hK5 <| wp_seq_k fun K8 hK8=>Qbk 2 [⟨none,[(7,none)]⟩,⟨none,[(4,none)]⟩] kj kj fun F hF=>QaK (Qau _) (.slice (some ⟨g6,0,none⟩) 32 32) kj kj (fun W=>kj) <| QaK (Qau _) (.slice (some ⟨g4,0+0,none⟩) (32-0) (64-0)) kj kj (fun W=>(QbA 30 _ _ _ 0 32 64 g4 0 5 rfl kj kj kj rfl ⟨.i64,kj⟩ (by omega) (by omega) (by omega))) <| QdL (hF _ fun W5 e5=>?_)
  simp only [List.nil_append,List.cons_append,List.take_succ_cons,List.take_zero,List.drop_succ_cons,List.drop_zero,finE,up]
  clear hF
  have r4_5:=(Qaa (Qaa (Qaa r4_2 e3) e4) e5)
  have hrd9:RdK .u8 W5.heap.size (s.take 32) (.slice (some ⟨g4,0+0,none⟩) (32-0) (64-0)) W5:=QdG (l:=0) (h:=32) (n:=64) hs r4_5 (by decide) (by decide) (by decide)
  refine Qcj (k:=.u8) (e:=5) (z:=s.take 32) (.tmp 12) (.tmp 13) 27 27 14 rfl kj kj rfl kj (off:=0) (dl:=32) (dc:=32) (n:=32) (xs:=List.replicate 32 0) kj kj hrd9 (Qaa (Qaa r6_3 e4) e5) (qT (show 0+(32)≤32 from (by omega)) (qE (qZ (n:=32)).symm)) (by rw [(Qbl hs)]; rfl) fun W6 p6 r6_6=>?_
  have r6_6_10:W6.heap[g6]? = some (.cells (ints .u8 (s.take 32)) 23):=QaJ r6_6 (Qdl (Qbl hs))
  refine sgN hK8 <| wp_seq_k fun K11 hK11=>Qbk 2 [⟨none,[(8,none)]⟩,⟨none,[(4,none)]⟩] kj kj fun F hF=>QaK (Qau _) (.slice (some ⟨g7,0,none⟩) 32 32) kj kj (fun W=>kj) <| QaK (Qau _) (.slice (some ⟨g4,0+32,none⟩) (64-32) (64-32)) kj kj (fun W=>(QbA 30 _ _ _ 32 64 64 g4 0 5 rfl kj kj kj ⟨.i64,kj⟩ rfl (by omega) (by omega) (by omega))) <| QdL (hF _ fun W7 e7=>?_)
  simp only [List.nil_append,List.cons_append,List.take_succ_cons,List.take_zero,List.drop_succ_cons,List.drop_zero,finE,up]
  clear hF
  have hrd12:RdK .u8 W7.heap.size (s.drop 32) (.slice (some ⟨g4,0+32,none⟩) (64-32) (64-32)) W7:=by
    have h:=QdG (l:=32) (h:=64) (n:=64) hs (Qaa (Puts.row p6 r4_5 (Qab r4_2 l6)) e7) (by decide) (by decide) (by decide)
    rwa [List.take_of_length_le (by rw [List.length_drop,hs]; decide)] at h
  refine Qcj (k:=.u8) (e:=5) (z:=s.drop 32) (.tmp 15) (.tmp 16) 27 27 17 rfl kj kj rfl kj (off:=0) (dl:=32) (dc:=32) (n:=32) (xs:=List.replicate 32 0) kj kj hrd12 (Qaa (Puts.row p6 (Qaa r7_4 e5) (Qas r6_3 l7)) e7) (qT (show 0+(32)≤32 from (by omega)) (qE (qZ (n:=32)).symm)) (by rw [(Qbf hs)]; rfl) fun W8 p8 r7_8=>?_
  have x8:=Puts.ext p8 (Ext.tr (Puts.ext p6 (Ext.tr (Ext.tr x3 e4) e5) (qT x2.size l6)) e7) (qT x3.size l7)
  have r7_8_13:W8.heap[g7]? = some (.cells (ints .u8 (s.drop 32)) 23):=QaJ r7_8 (Qdl (Qbf hs))
  refine sgN hK11 <| wp_seq_k fun K14 hK14=>sgC fun K15 hK15=>Qag (.agg (ints .u8 (s.drop 32))) 18 rfl kj (Qac 23 _ g7 23 _ _ r7_8_13 rfl kj kj (isz (n:=32) kj ((Qad _ _).trans (Qbf hs)))) <| Qap (.bool false) 33 #[.agg (ints .u8 (s.drop 32))] 19 rfl kj kj (canS (s.drop 32) (Qbf hs) (Qdk hsb 32) false hc _ tO (hT.ext x8).o) fun W9 e9=>sg 1 kj <| sgN hK15 <| cond_true kj <| sgB kj <| wp_ret ?_
  repeat (first | with_reducible refine goR1 ?_ | with_reducible refine goR2 ?_)
  exact (show bodyPost _ _ _ .ret _ _ from ret1 (.bool false) rfl (Qbb kj) ⟨rfl,(Ext.tr x8 e9)⟩)
theorem Qob (p s:List Int) (hp:p.length=32) (hpb:Qaj p) (hs:s.length=64) (hsb:Qaj s) (hc:canV (s.drop 32)=true) (ho:okK p=false) (gp n:Nat) (Tp:TypeId) (ps:List (Value×List Int)) (hn:ps.length=n) (hn9:n≤1000) (hone:∀ u∈ps.map Prod.fst,u.oneCell'=true) (tc tq tO tB tX tY:TypeId) (w:World) (hT:Tabs tc tq tO tB tX tY w) (hrow:w.heap[gp]? = some (.cells (ps.map Prod.fst).toArray Tp)) (hps:∀ p∈ps,RdK .u8 w.heap.size p.2 p.1 w∧Qaj p.2) (t:List Int) (ht:(ps.map Prod.snd).flatten=t) (hlen:t.length≤100000):Calls Tryd.prog 16 #[.agg (ints .u8 p),.agg (ints .u8 s),.slice (some ⟨gp,0,none⟩) n n] w (Ret w (.bool false)):=by
  refine enter 44 [(0,.agg (ints .u8 (p))),(1,.agg (ints .u8 (s))),(2,.slice (some ⟨gp,0,none⟩) n n)] Tryd.func16 rfl rfl kj rfl <| sgC fun K2 hK2=>Qah (ints .u8 (p)) 23 3 rfl kj kj fun g3 W1 l3 e1 r3_1=>?_
  have x1:=Ext.tr (Rely.Ext.refl w) e1
  have b3:=qT (Rely.Ext.refl w).size l3
  refine Qah (ints .u8 (s)) 30 4 rfl kj kj fun g4 W2 l4 e2 r4_2=>?_
  have x2:=Ext.tr x1 e2
  have b4:=qT x1.size l4
  refine sg 1 kj <| sgN hK2 <| sgC fun K5 hK5=>Qah (ints .u8 (List.replicate 32 0)) 23 7 rfl kj kj fun g6 W3 l6 e3 r6_3=>?_
  have x3:=Ext.tr x2 e3
  refine Qah (ints .u8 (List.replicate 32 0)) 23 8 rfl kj kj fun g7 W4 l7 e4 r7_4=>sgN hK5 <| wp_seq_k fun K8 hK8=>Qbk 2 [⟨none,[(7,none)]⟩,⟨none,[(4,none)]⟩] kj kj fun F hF=>QaK (Qau _) (.slice (some ⟨g6,0,none⟩) 32 32) kj kj (fun W=>kj) <| QaK (Qau _) (.slice (some ⟨g4,0+0,none⟩) (32-0) (64-0)) kj kj (fun W=>(QbA 30 _ _ _ 0 32 64 g4 0 5 rfl kj kj kj rfl ⟨.i64,kj⟩ (by omega) (by omega) (by omega))) <| QdL (hF _ fun W5 e5=>?_)
  simp only [List.nil_append,List.cons_append,List.take_succ_cons,List.take_zero,List.drop_succ_cons,List.drop_zero,finE,up]
  clear hF
  have r4_5:=(Qaa (Qaa (Qaa r4_2 e3) e4) e5)
  have hrd9:RdK .u8 W5.heap.size (s.take 32) (.slice (some ⟨g4,0+0,none⟩) (32-0) (64-0)) W5:=QdG (l:=0) (h:=32) (n:=64) hs r4_5 (by decide) (by decide) (by decide)
  refine Qcj (k:=.u8) (e:=5) (z:=s.take 32) (.tmp 12) (.tmp 13) 27 27 14 rfl kj kj rfl kj (off:=0) (dl:=32) (dc:=32) (n:=32) (xs:=List.replicate 32 0) kj kj hrd9 (Qaa (Qaa r6_3 e4) e5) (qT (show 0+(32)≤32 from (by omega)) (qE (qZ (n:=32)).symm)) (by rw [(Qbl hs)]; rfl) fun W6 p6 r6_6=>?_
  have r6_6_10:W6.heap[g6]? = some (.cells (ints .u8 (s.take 32)) 23):=QaJ r6_6 (Qdl (Qbl hs))
  refine sgN hK8 <| wp_seq_k fun K11 hK11=>Qbk 2 [⟨none,[(8,none)]⟩,⟨none,[(4,none)]⟩] kj kj fun F hF=>QaK (Qau _) (.slice (some ⟨g7,0,none⟩) 32 32) kj kj (fun W=>kj) <| QaK (Qau _) (.slice (some ⟨g4,0+32,none⟩) (64-32) (64-32)) kj kj (fun W=>(QbA 30 _ _ _ 32 64 64 g4 0 5 rfl kj kj kj ⟨.i64,kj⟩ rfl (by omega) (by omega) (by omega))) <| QdL (hF _ fun W7 e7=>?_)
  simp only [List.nil_append,List.cons_append,List.take_succ_cons,List.take_zero,List.drop_succ_cons,List.drop_zero,finE,up]
  clear hF
  have hrd12:RdK .u8 W7.heap.size (s.drop 32) (.slice (some ⟨g4,0+32,none⟩) (64-32) (64-32)) W7:=by
    have h:=QdG (l:=32) (h:=64) (n:=64) hs (Qaa (Puts.row p6 r4_5 (Qab r4_2 l6)) e7) (by decide) (by decide) (by decide)
    rwa [List.take_of_length_le (by rw [List.length_drop,hs]; decide)] at h
  refine Qcj (k:=.u8) (e:=5) (z:=s.drop 32) (.tmp 15) (.tmp 16) 27 27 17 rfl kj kj rfl kj (off:=0) (dl:=32) (dc:=32) (n:=32) (xs:=List.replicate 32 0) kj kj hrd12 (Qaa (Puts.row p6 (Qaa r7_4 e5) (Qas r6_3 l7)) e7) (qT (show 0+(32)≤32 from (by omega)) (qE (qZ (n:=32)).symm)) (by rw [(Qbf hs)]; rfl) fun W8 p8 r7_8=>?_
  have x8:=Puts.ext p8 (Ext.tr (Puts.ext p6 (Ext.tr (Ext.tr x3 e4) e5) (qT x2.size l6)) e7) (qT x3.size l7)
  have r7_8_13:W8.heap[g7]? = some (.cells (ints .u8 (s.drop 32)) 23):=QaJ r7_8 (Qdl (Qbf hs))
  refine sgN hK11 <| wp_seq_k fun K14 hK14=>sgC fun K15 hK15=>Qag (.agg (ints .u8 (s.drop 32))) 18 rfl kj (Qac 23 _ g7 23 _ _ r7_8_13 rfl kj kj (isz (n:=32) kj ((Qad _ _).trans (Qbf hs)))) <| Qap (.bool true) 33 #[.agg (ints .u8 (s.drop 32))] 19 rfl kj kj (canS (s.drop 32) (Qbf hs) (Qdk hsb 32) true hc _ tO (hT.ext x8).o) fun W9 e9=>?_
  have x9:=Ext.tr x8 e9
  refine sg 1 kj <| sgN hK15 <| cond_false kj <| wp_skip <| hK14 _ _ <| sgC fun K16 hK16=>?_
  have r3_2:=(Qaa r3_1 e2)
  have r3_3:=(Qaa r3_2 e3)
  refine Qag (.agg (ints .u8 (p))) 22 rfl kj (Qac 23 _ g3 23 _ _ (Qaa (Puts.row p8 (Qaa (Puts.row p6 (Qaa (Qaa r3_3 e4) e5) (Qab r3_2 l6)) e7) (Qab r3_3 l7)) e9) rfl kj kj (isz (n:=32) kj ((Qad _ _).trans hp))) <| Qap (.tuple #[.agg (Field.ptA (xK p,zK p)),.bool false]) 34 #[.agg (ints .u8 (p))] 23 rfl kj kj (QqG p hp hpb false ho _ tB (hT.ext x9).b) fun W10 e10=>?_
  have x10:=Ext.tr x9 e10
  refine sg 3 kj <| Qah (Field.ptA (0,1)) 51 9 rfl kj kj fun g17 W11 l17 e11 r17_11=>Qai g17 _ (Field.ptA ((xK p,zK p))) 51 r17_11 rfl kj (Qaf 51 _ _ g17 51 _ _ r17_11 rfl kj kj (isz (n:=8) kj kj) (eqsz (n:=8) kj kj) kj) fun W12 p12 r17_12=>sg 1 kj <| sgN hK16 <| wp_seq_k fun K18 hK18=>sgB kj <| cond_true kj <| sgB kj <| wp_ret ?_
  repeat (first | with_reducible refine goR1 ?_ | with_reducible refine goR2 ?_)
  exact (show bodyPost _ _ _ .ret _ _ from ret1 (.bool false) rfl (Qbb kj) ⟨rfl,(Puts.ext p12 (Ext.tr x10 e11) (qT x10.size l17))⟩)
theorem Qmk (p s:List Int) (hp:p.length=32) (hpb:Qaj p) (hs:s.length=64) (hsb:Qaj s) (hc:canV (s.drop 32)=true) (ho:okK p=true) (gp n:Nat) (Tp:TypeId) (ps:List (Value×List Int)) (hn:ps.length=n) (hn9:n≤1000) (hone:∀ u∈ps.map Prod.fst,u.oneCell'=true) (tc tq tO tB tX tY:TypeId) (w:World) (hT:Tabs tc tq tO tB tX tY w) (hrow:w.heap[gp]? = some (.cells (ps.map Prod.fst).toArray Tp)) (hps:∀ p∈ps,RdK .u8 w.heap.size p.2 p.1 w∧Qaj p.2) (t:List Int) (ht:(ps.map Prod.snd).flatten=t) (hlen:t.length≤100000):Calls Tryd.prog 16 #[.agg (ints .u8 p),.agg (ints .u8 s),.slice (some ⟨gp,0,none⟩) n n] w (Ret w (.bool (decide (encP (pAdd (pa (s.drop 32)) (pNeg (mulP p (resV (s.take 32++p++t)))))=s.take 32)))):=by
  refine enter 44 [(0,.agg (ints .u8 (p))),(1,.agg (ints .u8 (s))),(2,.slice (some ⟨gp,0,none⟩) n n)] Tryd.func16 rfl rfl kj rfl <| sgC fun K2 hK2=>Qah (ints .u8 (p)) 23 3 rfl kj kj fun g3 W1 l3 e1 r3_1=>?_
  have x1:=Ext.tr (Rely.Ext.refl w) e1
  have b3:=qT (Rely.Ext.refl w).size l3
  refine Qah (ints .u8 (s)) 30 4 rfl kj kj fun g4 W2 l4 e2 r4_2=>?_
  have x2:=Ext.tr x1 e2
  have b4:=qT x1.size l4
  refine sg 1 kj <| sgN hK2 <| sgC fun K5 hK5=>Qah (ints .u8 (List.replicate 32 0)) 23 7 rfl kj kj fun g6 W3 l6 e3 r6_3=>?_
  have x3:=Ext.tr x2 e3
  refine Qah (ints .u8 (List.replicate 32 0)) 23 8 rfl kj kj fun g7 W4 l7 e4 r7_4=>sgN hK5 <| wp_seq_k fun K8 hK8=>Qbk 2 [⟨none,[(7,none)]⟩,⟨none,[(4,none)]⟩] kj kj fun F hF=>QaK (Qau _) (.slice (some ⟨g6,0,none⟩) 32 32) kj kj (fun W=>kj) <| QaK (Qau _) (.slice (some ⟨g4,0+0,none⟩) (32-0) (64-0)) kj kj (fun W=>(QbA 30 _ _ _ 0 32 64 g4 0 5 rfl kj kj kj rfl ⟨.i64,kj⟩ (by omega) (by omega) (by omega))) <| QdL (hF _ fun W5 e5=>?_)
  simp only [List.nil_append,List.cons_append,List.take_succ_cons,List.take_zero,List.drop_succ_cons,List.drop_zero,finE,up]
  clear hF
  have r4_5:=(Qaa (Qaa (Qaa r4_2 e3) e4) e5)
  have hrd9:RdK .u8 W5.heap.size (s.take 32) (.slice (some ⟨g4,0+0,none⟩) (32-0) (64-0)) W5:=QdG (l:=0) (h:=32) (n:=64) hs r4_5 (by decide) (by decide) (by decide)
  refine Qcj (k:=.u8) (e:=5) (z:=s.take 32) (.tmp 12) (.tmp 13) 27 27 14 rfl kj kj rfl kj (off:=0) (dl:=32) (dc:=32) (n:=32) (xs:=List.replicate 32 0) kj kj hrd9 (Qaa (Qaa r6_3 e4) e5) (qT (show 0+(32)≤32 from (by omega)) (qE (qZ (n:=32)).symm)) (by rw [(Qbl hs)]; rfl) fun W6 p6 r6_6=>?_
  have r6_6_10:W6.heap[g6]? = some (.cells (ints .u8 (s.take 32)) 23):=QaJ r6_6 (Qdl (Qbl hs))
  refine sgN hK8 <| wp_seq_k fun K11 hK11=>Qbk 2 [⟨none,[(8,none)]⟩,⟨none,[(4,none)]⟩] kj kj fun F hF=>QaK (Qau _) (.slice (some ⟨g7,0,none⟩) 32 32) kj kj (fun W=>kj) <| QaK (Qau _) (.slice (some ⟨g4,0+32,none⟩) (64-32) (64-32)) kj kj (fun W=>(QbA 30 _ _ _ 32 64 64 g4 0 5 rfl kj kj kj ⟨.i64,kj⟩ rfl (by omega) (by omega) (by omega))) <| QdL (hF _ fun W7 e7=>?_)
  simp only [List.nil_append,List.cons_append,List.take_succ_cons,List.take_zero,List.drop_succ_cons,List.drop_zero,finE,up]
  clear hF
  have hrd12:RdK .u8 W7.heap.size (s.drop 32) (.slice (some ⟨g4,0+32,none⟩) (64-32) (64-32)) W7:=by
    have h:=QdG (l:=32) (h:=64) (n:=64) hs (Qaa (Puts.row p6 r4_5 (Qab r4_2 l6)) e7) (by decide) (by decide) (by decide)
    rwa [List.take_of_length_le (by rw [List.length_drop,hs]; decide)] at h
  refine Qcj (k:=.u8) (e:=5) (z:=s.drop 32) (.tmp 15) (.tmp 16) 27 27 17 rfl kj kj rfl kj (off:=0) (dl:=32) (dc:=32) (n:=32) (xs:=List.replicate 32 0) kj kj hrd12 (Qaa (Puts.row p6 (Qaa r7_4 e5) (Qas r6_3 l7)) e7) (qT (show 0+(32)≤32 from (by omega)) (qE (qZ (n:=32)).symm)) (by rw [(Qbf hs)]; rfl) fun W8 p8 r7_8=>?_
  have x8:=Puts.ext p8 (Ext.tr (Puts.ext p6 (Ext.tr (Ext.tr x3 e4) e5) (qT x2.size l6)) e7) (qT x3.size l7)
  have r7_8_13:W8.heap[g7]? = some (.cells (ints .u8 (s.drop 32)) 23):=QaJ r7_8 (Qdl (Qbf hs))
  refine sgN hK11 <| wp_seq_k fun K14 hK14=>sgC fun K15 hK15=>Qag (.agg (ints .u8 (s.drop 32))) 18 rfl kj (Qac 23 _ g7 23 _ _ r7_8_13 rfl kj kj (isz (n:=32) kj ((Qad _ _).trans (Qbf hs)))) <| Qap (.bool true) 33 #[.agg (ints .u8 (s.drop 32))] 19 rfl kj kj (canS (s.drop 32) (Qbf hs) (Qdk hsb 32) true hc _ tO (hT.ext x8).o) fun W9 e9=>?_
  have x9:=Ext.tr x8 e9
  refine sg 1 kj <| sgN hK15 <| cond_false kj <| wp_skip <| hK14 _ _ <| sgC fun K16 hK16=>?_
  have r3_2:=(Qaa r3_1 e2)
  have r3_3:=(Qaa r3_2 e3)
  have r3_9:=(Qaa (Puts.row p8 (Qaa (Puts.row p6 (Qaa (Qaa r3_3 e4) e5) (Qab r3_2 l6)) e7) (Qab r3_3 l7)) e9)
  refine Qag (.agg (ints .u8 (p))) 22 rfl kj (Qac 23 _ g3 23 _ _ r3_9 rfl kj kj (isz (n:=32) kj ((Qad _ _).trans hp))) <| Qap (.tuple #[.agg (Field.ptA (xK p,zK p)),.bool true]) 34 #[.agg (ints .u8 (p))] 23 rfl kj kj (QqG p hp hpb true ho _ tB (hT.ext x9).b) fun W10 e10=>?_
  have x10:=Ext.tr x9 e10
  refine sg 3 kj <| Qah (Field.ptA (0,1)) 51 9 rfl kj kj fun g17 W11 l17 e11 r17_11=>Qai g17 _ (Field.ptA ((xK p,zK p))) 51 r17_11 rfl kj (Qaf 51 _ _ g17 51 _ _ r17_11 rfl kj kj (isz (n:=8) kj kj) (eqsz (n:=8) kj kj) kj) fun W12 p12 r17_12=>?_
  have x12:=Puts.ext p12 (Ext.tr x10 e11) (qT x10.size l17)
  refine sg 1 kj <| sgN hK16 <| wp_seq_k fun K18 hK18=>sgB kj <| cond_false kj <| wp_skip <| hK18 _ _ <| sgC fun K20 hK20=>sg 1 kj ?_
  have r6_10:=(Qaa (Qaa (Puts.row p8 (Qaa r6_6_10 e7) (Qab r6_3 l7)) e9) e10)
  have r6_12:=(Puts.row p12 (Qaa r6_10 e11) (Qab r6_10 l17))
  refine Qag (.agg (ints .u8 (s.take 32))) 29 rfl kj (Qac 23 _ g6 23 _ _ r6_12 rfl kj kj (isz (n:=32) kj ((Qad _ _).trans (Qbl hs)))) ?_
  have r3_10:=(Qaa r3_9 e10)
  refine Qag (.agg (ints .u8 (p))) 30 rfl kj (Qac 23 _ g3 23 _ _ (Puts.row p12 (Qaa r3_10 e11) (Qab r3_10 l17)) rfl kj kj (isz (n:=32) kj ((Qad _ _).trans hp))) <| QaW (cat [ints .u8 (s.take 32),ints .u8 (p)]) 23 2 31 rfl kj (Qiu (P:=Tryd.prog) 94 23 2 _ (.agg (ints .u8 (List.replicate 32 0))) ([(0,32,.agg (ints .u8 (s.take 32)),ints .u8 (s.take 32)),(1,32,.agg (ints .u8 (p)),ints .u8 (p))]:List (Nat×Nat×Value×Array Value)) rfl kj kj kj ⟨rfl,rfl,(Qad _ _).trans (Qbl hs),rfl,rfl,(Qad _ _).trans hp,trivial⟩ rfl (by decide) (by decide)) fun g21 W13 l21 e13 r21_13=>?_
  have x13:=Ext.tr x12 e13
  have b21:=qT x12.size l21
  have r1_2:=(Qaa (Qaa hrow e1) e2)
  have r1_3:=(Qaa r1_2 e3)
  have r1_10:=(Qaa (Qaa (Puts.row p8 (Qaa (Puts.row p6 (Qaa (Qaa r1_3 e4) e5) (Qab r1_2 l6)) e7) (Qab r1_3 l7)) e9) e10)
  refine Qap (.agg (ints .u8 (resV ((s.take 32)++p++t)))) 29 #[.slice (some ⟨gp,0,none⟩) n n,.slice (some ⟨g21,0,none⟩) 2 2] 32 rfl kj kj (Qqc (s.take 32) p (Qbl hs) (Qez hsb) hp hpb g21 _ gp n Tp ps hn hn9 hone tc tq tO tB tX tY _ (hT.ext x13) r21_13 (Qaa (Puts.row p12 (Qaa r1_10 e11) (Qab r1_10 l17)) e13) (fun p hp=>⟨RdK.here ((hps p hp).1.ext x13),(hps p hp).2⟩) t ht hlen) fun W14 e14=>?_
  have x14:=Ext.tr x13 e14
  refine Qah (ints .u8 (List.replicate 32 0)) 23 11 rfl kj kj fun g22 W15 l22 e15 r22_15=>Qai g22 _ (ints .u8 (resV ((s.take 32)++p++t))) 23 r22_15 rfl kj (Qaf 23 _ _ g22 23 _ _ r22_15 rfl kj kj (isz (n:=32) kj ((Qad _ _).trans (QbY _))) (eqsz (n:=32) ((Qad _ _).trans (qZ (n:=32))) ((Qad _ _).trans (QbY _))) (ints_one _ _)) fun W16 p16 r22_16=>?_
  have x16:=Puts.ext p16 (Ext.tr x14 e15) (qT x14.size l22)
  refine sgN hK20 <| wp_seq_k fun K23 hK23=>QaC 11 [⟨none,[]⟩,⟨none,[(8,none)]⟩,⟨none,[(33,some 0),(34,some 1)]⟩,⟨none,[(9,none)]⟩,⟨none,[(11,none)]⟩,⟨none,[(36,some 3),(37,some 4)]⟩,⟨none,[(38,some 5)]⟩,⟨none,[(35,some 2),(39,some 6)]⟩,⟨none,[(40,some 7)]⟩,⟨none,[(7,none)]⟩,⟨none,[(41,some 8),(42,some 9)]⟩] kj kj fun F hF=>Qan (.agg (Field.ptA (BP))) 20 #[] kj kj (fun W=>kj) (fun W hR=>Field.ptBase W tX (hT.ext (Rely.Ext.trans (Rely.Ext.trans x16 (Qae _)) hR)).x tY (hT.ext (Rely.Ext.trans (Rely.Ext.trans x16 (Qae _)) hR)).y) ?_
  have r7_10:=(Qaa (Qaa r7_8_13 e9) e10)
  have r7_14:=(Qaa (Qaa (Puts.row p12 (Qaa r7_10 e11) (Qab r7_10 l17)) e13) e14)
  refine Qal (.agg (ints .u8 (s.drop 32))) kj kj (fun W hR=>(Qac 23 _ g7 23 _ _ (Qaa (Qaa (Puts.row p16 (Qaa r7_14 e15) (Qab r7_14 l22)) (Qae _)) hR) rfl kj kj (isz (n:=32) kj ((Qad _ _).trans (Qbf hs))))) <| Qan (.agg (Field.ptA (pa (s.drop 32)))) 21 #[.agg (Field.ptA (BP)),.agg (ints .u8 (s.drop 32))] kj kj (fun W=>kj) (fun W hR=>Field.ptTimes Qcb (s.drop 32) (Qbf hs) (Qdk hsb 32) W tB (hT.ext (Rely.Ext.trans (Rely.Ext.trans x16 (Qae _)) hR)).b) ?_
  have r17_14:=(Qaa (Qaa r17_12 e13) e14)
  refine Qal (.agg (Field.ptA ((xK p,zK p)))) kj kj (fun W hR=>(Qac 51 _ g17 51 _ _ (Qaa (Qaa (Puts.row p16 (Qaa r17_14 e15) (Qab r17_14 l22)) (Qae _)) hR) rfl kj kj (isz (n:=8) kj kj))) <| Qal (.agg (ints .u8 (resV ((s.take 32)++p++t)))) kj kj (fun W hR=>(Qac 23 _ g22 23 _ _ (Qaa (Qaa r22_16 (Qae _)) hR) rfl kj kj (isz (n:=32) kj ((Qad _ _).trans (QbY _))))) <| Qan (.agg (Field.ptA (mulP p (resV ((s.take 32)++p++t))))) 21 #[.agg (Field.ptA ((xK p,zK p))),.agg (ints .u8 (resV ((s.take 32)++p++t)))] kj kj (fun W=>kj) (fun W hR=>Field.ptTimes (Field.K_onP p) (resV ((s.take 32)++p++t)) (QbY ((s.take 32)++p++t)) (Qdp ((s.take 32)++p++t)) W tB (hT.ext (Rely.Ext.trans (Rely.Ext.trans x16 (Qae _)) hR)).b) <| Qan (.agg (Field.ptA (pNeg (mulP p (resV ((s.take 32)++p++t)))))) 36 #[.agg (Field.ptA (mulP p (resV ((s.take 32)++p++t))))] kj kj (fun W=>kj) (fun W hR=>Field.ptNeg (QcO p (resV ((s.take 32)++p++t))) W) <| Qan (.agg (Field.ptA (pAdd (pa (s.drop 32)) (pNeg (mulP p (resV ((s.take 32)++p++t))))))) 35 #[.agg (Field.ptA (pa (s.drop 32))),.agg (Field.ptA (pNeg (mulP p (resV ((s.take 32)++p++t)))))] kj kj (fun W=>kj) (fun W hR=>Field.ptAdd (Qdn (s.drop 32)) (Field.pNeg_on (QcO p (resV ((s.take 32)++p++t)))) W tB (hT.ext (Rely.Ext.trans (Rely.Ext.trans x16 (Qae _)) hR)).b) <| Qan (.agg (ints .u8 (encP (pAdd (pa (s.drop 32)) (pNeg (mulP p (resV ((s.take 32)++p++t)))))))) 22 #[.agg (Field.ptA (pAdd (pa (s.drop 32)) (pNeg (mulP p (resV ((s.take 32)++p++t))))))] kj kj (fun W=>kj) (fun W hR=>Field.ptBytes (Field.pAdd_on (Qdn (s.drop 32)) (Field.pNeg_on (QcO p (resV ((s.take 32)++p++t))))) W) ?_
  have r6_14:=(Qaa (Qaa r6_12 e13) e14)
  refine Qal (.agg (ints .u8 (s.take 32))) kj kj (fun W hR=>(Qac 23 _ g6 23 _ _ (Qaa (Qaa (Puts.row p16 (Qaa r6_14 e15) (Qab r6_14 l22)) (Qae _)) hR) rfl kj kj (isz (n:=32) kj ((Qad _ _).trans (Qbl hs))))) <| Qay (.bool (decide (encP (pAdd (pa (s.drop 32)) (pNeg (mulP p (resV ((s.take 32)++p++t)))))=s.take 32))) kj kj (fun W=>(Qcq 23 _ _ _ _ _ (.bool (decide (encP (pAdd (pa (s.drop 32)) (pNeg (mulP p (resV ((s.take 32)++p++t)))))=s.take 32))) rfl kj kj kj (Field.key_eql (encP (pAdd (pa (s.drop 32)) (pNeg (mulP p (resV ((s.take 32)++p++t)))))) (s.take 32) (decide (encP (pAdd (pa (s.drop 32)) (pNeg (mulP p (resV ((s.take 32)++p++t)))))=s.take 32)) (Qbs _) (Qbl hs) rfl _))) <| Qa2 (hF _ kj fun W17 e17=>?_)
  simp only [ups,up,Kn.val,List.take_succ_cons,List.take_zero,List.drop_succ_cons,List.drop_zero,List.nil_append,List.cons_append]
  clear hF
  refine sg 1 kj <| sgN hK23 <| wp_ret ?_
  repeat (first | with_reducible refine goR1 ?_ | with_reducible refine goR2 ?_)
  exact (show bodyPost _ _ _ .ret _ _ from ret1 (.bool (decide (encP (pAdd (pa (s.drop 32)) (pNeg (mulP p (resV ((s.take 32)++p++t)))))=s.take 32))) rfl (Qbb kj) ⟨rfl,(Ext.tr x16 e17)⟩)
theorem Qf0 (p s:List Int) (hp:p.length=32) (hpb:Qaj p) (hs:s.length=64) (hsb:Qaj s) (gp n:Nat) (Tp:TypeId) (ps:List (Value×List Int)) (hn:ps.length=n) (hn9:n≤1000) (hone:∀ u∈ps.map Prod.fst,u.oneCell'=true) (tc tq tO tB tX tY:TypeId) (w:World) (hT:Tabs tc tq tO tB tX tY w) (hrow:w.heap[gp]? = some (.cells (ps.map Prod.fst).toArray Tp)) (hps:∀ p∈ps,RdK .u8 w.heap.size p.2 p.1 w∧Qaj p.2) (t:List Int) (ht:(ps.map Prod.snd).flatten=t) (hlen:t.length≤100000):Calls Tryd.prog 16 #[.agg (ints .u8 p),.agg (ints .u8 s),.slice (some ⟨gp,0,none⟩) n n] w (Ret w (.bool (verV p s t))):=by
  unfold verV
  cases hc:canV (s.drop 32)
  · exact Qoc p s hp hpb hs hsb hc gp n Tp ps hn hn9 hone tc tq tO tB tX tY w hT hrow hps t ht hlen
  · cases ho:okK p
    · exact Qob p s hp hpb hs hsb hc ho gp n Tp ps hn hn9 hone tc tq tO tB tX tY w hT hrow hps t ht hlen
    · unfold eqV
      exact Qmk p s hp hpb hs hsb hc ho gp n Tp ps hn hn9 hone tc tq tO tB tX tY w hT hrow hps t ht hlen
end Go.Proofs.YtdoadngmgmdlbaaDoor.Sgn
end
section
namespace Go.Proofs.YtdoadngmgmdlbaaDoor.Sgn
open Go Go.RowKit
open Rely Auto Own
structure OncU (base n : Nat) (ys : List Int) (W W' : World) : Prop where
  os:W'.os=W.os
  tape:W'.tape=W.tape
  output:W'.output=W.output
  size:W.heap.size≤W'.heap.size
  block:∀ g,g<W.heap.size→W'.heap[g]? = W.heap[g]?∨(base≤g∧∃ cs cs',W.heap[g]? = some (.cells cs 5)∧W'.heap[g]? = some (.cells cs' 5)∧cs'.size=cs.size∧∀ i,cs'[i]? = cs[i]?∨(n≤i∧cs'[i]? = some (.int .u8 (nth ys (i-n)))))
theorem OncU.refl (base n:Nat) (ys:List Int) (W:World):OncU base n ys W W:=⟨rfl,rfl,rfl,qR _,fun _ _=>.inl rfl⟩
theorem OncU.trans {base n:Nat} {ys:List Int} {a b c:World} (h:OncU base n ys a b) (k:OncU base n ys b c):OncU base n ys a c:=by
  refine ⟨k.os.trans h.os,k.tape.trans h.tape,k.output.trans h.output,qT h.size k.size,fun g hg=>?_⟩
  rcases k.block g (qL hg h.size) with h2 | ⟨hb,cs,cs',r1,r2,r3,r4⟩
  · rw [h2]; exact h.block g hg
  · rcases h.block g hg with h1 | ⟨_,ds,ds',s1,s2,s3,s4⟩
    · exact .inr ⟨hb,cs,cs',h1▸r1,r2,r3,r4⟩
    · rw [s2] at r1
      simp only [Option.some.injEq,Obj.cells.injEq,and_true,true_and] at r1
      obtain rfl:=r1
      refine .inr ⟨hb,ds,cs',s1,r2,r3.trans s3,fun i=>?_⟩
      rcases r4 i with r | ⟨r,r'⟩
      · rw [r]; exact s4 i
      · exact .inr ⟨r,r'⟩
theorem OncU.ext {base n:Nat} {ys:List Int} {a b:World} (e:Ext a b):OncU base n ys a b:=⟨e.os,e.tape,e.output,e.size,fun g hg=>.inl (e.block g hg)⟩
theorem OncU.low {n : Nat} {ys:List Int} {w0 W:World} (h:OncU w0.heap.size n ys w0 W):Ext w0 W :=
  ⟨h.os,h.tape,h.output,h.size,fun g hg=>by
    rcases h.block g hg with h | ⟨hb,_⟩
    · exact h
    · omega⟩
theorem Qoo (w0 : World) (n:Nat) (ys:List Int):Rl (OncU w0.heap.size n ys) w0:=⟨OncU.refl _ _ _,OncU.trans,fun _ e=>OncU.ext e,OncU.low⟩
theorem QjI {cs : Array Value} {xs:List Int} {k:IntKind} (h:∀ i,i<xs.length→cs[i]? = some (.int k (nth xs i))):cs.toList.take xs.length=xs.map (Value.int k):=by
  apply List.ext_getElem?
  intro i
  rw [List.getElem?_take]
  by_cases hi:i<xs.length
  · rw [if_pos hi,Array.getElem?_toList,h i hi,List.getElem?_map,List.getElem?_eq_getElem hi]
    simp [nth,hi]
  · rw [if_neg hi,List.getElem?_map,List.getElem?_eq_none (by omega)]; rfl
theorem QgS {base n:Nat} {ys xs:List Int} (hx:∀ i,i<xs.length→n≤i→nth xs i=nth ys (i-n)):QbP (OncU base n ys) (OwnN .u8 5 base xs):=fun v W W' hR h=>by
  rcases Nat.eq_zero_or_pos xs.length with h0 | h0
  · obtain ⟨⟨h1,h2⟩,hm⟩:=h
    refine ⟨⟨h1,?_⟩,hm⟩
    rcases h2 with h2 | ⟨g,c,cur,rfl,q2,q3,q4,q5,q6,q7⟩
    · exact .inl h2
    · rcases hR.block g (QaB q3) with h | ⟨hb,cs,cs',r1,r2,r3,r4⟩
      · exact .inr ⟨g,c,cur,rfl,q2,h.trans q3,q4,q5,q6,q7⟩
      · rw [q3] at r1
        simp only [Option.some.injEq,Obj.cells.injEq,and_true,true_and] at r1
        obtain rfl:=r1
        refine .inr ⟨g,c,cs',rfl,q2,r2,q4,q5,r3.trans q6,?_⟩
        obtain rfl:=List.length_eq_zero_iff.1 h0
        rfl
  · obtain ⟨g,c,cur,rfl,q2,q3,q4,q5,q6,q7⟩:=QkW h h0
    rcases hR.block g (QaB q3) with h2 | ⟨hb,cs,cs',r1,r2,r3,r4⟩
    · exact h.keep fun g' hg=>by
        obtain rfl:g=g':=Option.some.inj hg
        exact h2
    · rw [q3] at r1
      simp only [Option.some.injEq,Obj.cells.injEq,and_true,true_and] at r1
      obtain rfl:=r1
      refine QoM rfl q2 r2 (r3.trans q4) q5 q6 (QjI fun i hi=>?_)
      rcases r4 i with r | ⟨r,r'⟩
      · rw [r]; exact QfE q7 hi
      · rw [r',hx i hi r]
theorem QmS {n : Nat} {ys:List Int} {w0:World}:QbP (OncU w0.heap.size n ys) (NewS w0.heap.size #[] 5 0):=fun v W W' hR ⟨g,h1,h2,h3⟩=>by
  refine ⟨g,h1,h2,?_⟩
  rcases hR.block g (QaB h3) with h | ⟨hb,cs,cs',r1,r2,r3,r4⟩
  · exact h.trans h3
  · rw [h3] at r1
    simp only [Option.some.injEq,Obj.cells.injEq,and_true,true_and] at r1
    obtain rfl:=r1
    rw [r2,Array.eq_empty_of_size_eq_zero r3]
theorem Qhg {P : Program} {b:Nat} {ρ:Operand→Value} {o:Oper} {W:World} (s x:Operand) (t:TypeId) (ho:o.op=.call { callee:=.builtin .append,args:=#[s,x],argTypes:=#[t,t] })
    (ht:P.underlying t=some (.slice 5)) (hi:(P.info? 5).map (fun i=>(i.zero,i.size,i.bytes))=some (some (.int .u8 0),1,b)) (hb8:b≤8) {base B n:Nat} {v y:Value} {xs ys Y:List Int} (hs:ρ s=v) (hx:ρ x=y)
    (h:OwnN .u8 5 base xs v W) (hy:RdK .u8 B ys y W) (hn:xs.length+ys.length≤1000000000) (hbase:base≤W.heap.size) (hY:(∃ g,v=.slice (some ⟨g,0,none⟩) 0 0)∨∃ j,xs.length=n+j∧∀ i,i<ys.length→nth Y (j+i)=nth ys i) :
    ∃ v' W',(execOp ρ o).run P W=.ok (.value v') W'∧OncU base n Y W W'∧OwnN .u8 5 base (xs++ys) v' W':=by
  obtain ⟨i,hq,hi1,hi2,hi3⟩:=QqA hi
  obtain ⟨v2,W2,r2,o2,g2,-⟩:=Qhh (ρ:=ρ) (o:=o) (W:=W) s x t ho ht hi hb8 hs hx h hy hn hbase
  refine ⟨v2,W2,r2,?_,o2⟩
  rcases h.1.2 with ⟨h0,h0'⟩ | ⟨g,c,cur,rfl,q2,q3,q4,q5,q6,q7⟩
  · exact ⟨g2.os,g2.tape,g2.output,g2.size,fun k hk=>.inl (g2.block k hk (by rw [h0]; intro e; cases e))⟩
  · have hc0:(∃ g',(Value.slice (some ⟨g,0,none⟩) xs.length c)=.slice (some ⟨g',0,none⟩) 0 0)→c=0:=fun ⟨g',e'⟩=>by
      simp only [Value.slice.injEq] at e'
      exact e'.2.2
    obtain ⟨a,cap,rfl,y2,y3,y4,y5⟩:=hy
    have hgo:∀ (v':Value) (W':World),(Builtin.append_ #[t,t] o.type #[.slice (some ⟨g,0,none⟩) xs.length c,.slice a ys.length cap]).run P W=.ok v' W'→(execOp ρ o).run P W=.ok (.value v') W':=fun v' W' hr=>by
      unfold execOp
      simp only [ho,resolve,invoke,builtin,Sem.run_bind,Sem.run_pure,Result.andThen_ok,List.map_toArray,List.map_cons,List.map_nil,hs,hx,hr]
    have same:∀ (v':Value) (W':World),(execOp ρ o).run P W=.ok (.value v') W'→W2=W':=fun v' W' hr=>by
      rw [r2] at hr
      injection hr
    refine ⟨g2.os,g2.tape,g2.output,g2.size,fun k hk=>?_⟩
    by_cases hkg:k=g
    · subst hkg
      cases a with
      | none =>
        have hc0:=y4 rfl
        have hy0:ys=[]:=List.length_eq_zero_iff.1 (by omega)
        subst hy0
        subst hc0
        exact .inl (by rw [same _ _ (hgo _ _ (run_append_owned_none (P:=P) W base t o.type 5 i 1 ht hq _ xs.length _ h.1))])
      | some a =>
        have hnews:∀ j u,(ys.map (Value.int .u8))[j]? = some u→W.cell? (a.add j)=some u:=by
          rcases y5 with rfl | ⟨g',o',e1,e2,e3,e4⟩
          · intro j u hu; simp at hu
          · obtain rfl:=Option.some.inj e1
            exact QmX e4
        by_cases hroom:xs.length+ys.length≤c
        · have hr:=run_append_room (P:=P) W t o.type 5 i ht hq k xs.length c cur q3 a ys.length cap (ys.map (Value.int .u8)) (by simp [hi2]) hnews (QmQ _ ys) hroom (by rw [hi2]; simp; omega)
          have hW:=same _ _ (hgo _ _ hr)
          rw [hW]
          refine .inr ⟨q2,_,_,q3,setRow_heap W k cur _ 5 _ q3,?_,fun j=>?_⟩
          · simp only [List.size_toArray,List.length_append,List.length_take,List.length_drop,List.length_map,Array.length_toList,hi2]; omega
          · simp only [List.getElem?_toArray,hi2,Nat.mul_one]
            have hl1:(List.take xs.length cur.toList).length=xs.length:=by
              have e:cur.toList.length=cur.size:=Array.length_toList
              rw [List.length_take,e]; omega
            rw [List.append_assoc]
            rcases Nat.lt_or_ge j xs.length with hj | hj
            · left
              rw [List.getElem?_append_left (by omega),List.getElem?_take,if_pos hj,Array.getElem?_toList]
            · rw [List.getElem?_append_right (by omega),hl1]
              rcases Nat.lt_or_ge (j-xs.length) ys.length with hj2 | hj2
              · right
                rcases hY with hY | ⟨q,hq,hYq⟩
                · have:=hc0 hY; omega
                · refine ⟨by omega,?_⟩
                  rw [List.getElem?_append_left (by rw [List.length_map]; exact hj2),List.getElem?_map,List.getElem?_eq_getElem hj2,show j-n=q+(j-xs.length) by omega,hYq _ hj2]
                  simp [nth,hj2]
              · left
                rw [List.getElem?_append_right (by rw [List.length_map]; exact hj2),List.length_map,List.getElem?_drop,Array.getElem?_toList]
                congr 1; omega
        · have holds:=h.1.cells (g:=k) rfl
          have hr:=run_append_grow (P:=P) W t o.type 5 i (.int .u8 0) ht hq hi1 ⟨k,0,none⟩ xs.length c (xs.map (Value.int .u8)) (by simp [hi2]) (by simpa using holds) a ys.length cap (ys.map (Value.int .u8)) (by simp [hi2]) hnews (by omega) (by omega) (growslice_fits (by omega) (by
            rw [hi3]
            have:(xs.length+ys.length)*b≤1000000000*8:=Nat.mul_le_mul hn hb8
            omega))
          have hW:=same _ _ (hgo _ _ hr)
          rw [hW]
          exact .inl (heap_alloc_old W.drew _ hk)
    · exact .inl (g2.block k hk (fun e=>hkg (Option.some.inj e)))
theorem QfF (a b:List Int) (i:Nat):nth (a++b) (a.length+i)=nth b i:=by
  unfold nth
  rw [List.getD_eq_getElem?_getD,List.getD_eq_getElem?_getD,List.getElem?_append_right (Nat.le_add_right _ _),Nat.add_sub_cancel_left]
theorem QhE (a b:List Int) {i:Nat} (h:i<a.length):nth (a++b) i=nth a i:=by
  unfold nth
  rw [List.getD_eq_getElem?_getD,List.getD_eq_getElem?_getD,List.getElem?_append_left h]
theorem Qqx (a Y:List Int):∀ i,i<a.length→a.length≤i→nth a i=nth Y (i-a.length):=fun i h k=>absurd h (by omega)
theorem Qqw (a b c:List Int):∀ i,i<(a++b).length→a.length≤i→nth (a++b) i=nth (b++c) (i-a.length):=fun i h k=>by
  rw [List.length_append] at h
  obtain ⟨j,rfl⟩:∃ j,i=a.length+j:=⟨i-a.length,by omega⟩
  rw [QfF,Nat.add_sub_cancel_left,QhE b c (by omega)]
theorem Qqv (a b c:List Int):∀ i,i<(a++b++c).length→a.length≤i→nth (a++b++c) i=nth (b++c) (i-a.length):=fun i h k=>by
  obtain ⟨j,rfl⟩:∃ j,i=a.length+j:=⟨i-a.length,by omega⟩
  rw [List.append_assoc,QfF,Nat.add_sub_cancel_left]
theorem Qld {n : Nat} {ys:List Int} {w0:World} {T:TypeId} {cs:Array Value} (hT:T≠5):QbP (OncU w0.heap.size n ys) (NewP w0.heap.size cs T):=fun v W W' hR ⟨g,h1,h2,h3⟩=>by
  refine ⟨g,h1,h2,?_⟩
  rcases hR.block g (QaB h3) with q | ⟨hb,ds,ds',r1,_⟩
  · exact q.trans h3
  · rw [h3] at r1
    simp only [Option.some.injEq,Obj.cells.injEq] at r1
    exact absurd r1.2.1 hT
theorem Qlz (b c:Bool):isB b (.bool c)=(c==b):=rfl
theorem QeV {r0 : Tmp→Value} {E:List Fact} {ρ:Tmp→Value} {W:World} {d:Tmp} {j:Nat}:∀ (rd:List (Tmp×Option Nat)),QbX r0 E ρ W rd→rd.getLast? = some (d,some j)→(E.getD j fun _ _=>True) (ρ d) W
  | [],_,h=>by cases h
  | [(t,some i)],h,e=>by
    obtain ⟨rfl,rfl⟩:t=d∧i=j:=by simpa using e
    exact h.1
  | [(t,none)],h,e=>by simp at e
  | (t,some i)::x::r,h,e=>QeV (x::r) h.2 (by rw [List.getLast?_cons_cons] at e; exact e)
  | (t,none)::x::r,h,e=>QeV (x::r) h.2 (by rw [List.getLast?_cons_cons] at e; exact e)
theorem Qfu {r0 : Tmp→Value} {E:List Fact} {ρ:Tmp→Value} {W:World} {d:Tmp} {j:Nat}:∀ (rd:List (Tmp×Option Nat)) (i:Nat),QbX r0 E ρ W rd→rd[i]? = some (d,some j)→(E.getD j fun _ _=>True) (ρ d) W
  | [],_,_,h=>by simp at h
  | (t,some k)::r,0,h,e=>by
    obtain ⟨rfl,rfl⟩:t=d∧k=j:=by simpa using e
    exact h.1
  | (t,none)::r,0,h,e=>by simp at e
  | (t,some k)::r,i+1,h,e=>Qfu r i h.2 (by simpa using e)
  | (t,none)::r,i+1,h,e=>Qfu r i h.2 (by simpa using e)
theorem Qd4 {r0 : Tmp→Value} {C:List KE} {ρ:Tmp→Value} {W:World} {rd:List (Tmp×Option Nat)} (h:QbX r0 (C.map KE.fact) ρ W rd) (i:Nat) (d:Tmp) (j:Nat) (hi:rd[i]? = some (d,some j)) {v:Value} (hj:C[j]? = some (.is v)):ρ d=v:=by
  have h1:=Qfu rd i h hi
  rw [List.getD_eq_getElem?_getD,List.getElem?_map,hj] at h1
  exact h1
theorem QdX {r0 : Tmp→Value} {C:List KE} {ρ:Tmp→Value} {W:World} {rd:List (Tmp×Option Nat)} (h:QbX r0 (C.map KE.fact) ρ W rd) (i:Nat) (d:Tmp) (j:Nat) (hi:rd[i]? = some (d,some j)) {φ:Fact} (hj:C[j]? = some (.ex φ)):φ (ρ d) W:=by
  have h1:=Qfu rd i h hi
  rw [List.getD_eq_getElem?_getD,List.getElem?_map,hj] at h1
  exact h1
theorem Qnw {P : Program} {R:World→World→Prop} {w0:World} {N:Nat} {L:Env} {F:List KE→Prop} {o:Oper} {os:List Oper} {ss:List Src} {C:List KE} (hRl:Rl R w0) (v:Value) (f:FuncId) {d:Tmp} {b:Bool} {rd:List (Tmp×Option Nat)} (j:Nat)
    (hrd:rd.getLast? = some (d,some j)) (hj:C[j]? = some (.is (.bool b)))
    (h:∀ (ρ:Tmp→Value) (W:World),Ext w0 W→QbX (envN N L) (C.map KE.fact) ρ W rd→∃ args,(execOp (Rely.look ρ) o).run P W=.ok (.enter f args) W∧Calls P f args W (Ret W v))
    (hk:QbT P R w0 N L F os ss (C++[.is v])):QbT P R w0 N L F (o::os) (⟨some (d,b),rd⟩::ss) C :=
  ⟨.is v,trivial,fun ρ W hR hh=>by
    have h1:=QeV rd hh hrd
    rw [List.getD_eq_getElem?_getD,List.getElem?_map,hj] at h1
    have h2:ρ d=.bool b:=h1
    refine Qcs (show isB b (ρ d)=true by rw [h2,Qlz,beq_self_eq_true]) ?_
    obtain ⟨args,h1,h2⟩:=h ρ W (hRl.low hR) hh
    show QcP _ _ _ _ _
    rw [h1]
    exact ⟨hRl.refl _,h2.mono fun _ _ h=>QkG h.const (hRl.ext (hRl.low hR).size)⟩,hk⟩
end Go.Proofs.YtdoadngmgmdlbaaDoor.Sgn
end
section
namespace Go.Proofs.YtdoadngmgmdlbaaDoor.Sgn
open Go Go.RowKit
open Rely Auto Own Sha5
open Ladder (clamp)
open Field (Qaq resN numA num lims Qca ordL Qb6 QbN QbM Qbc encP Qbs pa Qdn pAdd pNeg mulP QcO okK xK zK lK mulR BP Qcb numB nmul OnP QcL)
theorem verE {p s t:List Int} {b:Bool} (e:verV p s t=b) {P:Program} {f:FuncId} {args:Array Value} {w:World} (h:Calls P f args w (Ret w (.bool (verV p s t)))):Calls P f args w (Ret w (.bool b)):=by rw [e] at h; exact h
theorem QnQ : k7.length=32:=rfl
theorem Qjs : Qaj k7:=by unfold Qaj; decide
theorem QnB : Qaj [97,98]:=by unfold Qaj; decide
theorem QpB : Qaj [97]:=by unfold Qaj; decide
theorem QlW : Qaj [98]:=by unfold Qaj; decide
theorem QiL (tc tq tO tB tX tY:TypeId) (w:World) (hT:Tabs tc tq tO tB tX tY w):Calls Tryd.prog 9 #[] w (Ret w (.bool true)):=by
  refine enter 27 [] Tryd.func9 rfl rfl kj rfl <| sgB kj <| sgC fun K2 hK2=>sg 1 kj <| Qap (.agg (ints .u8 (pubV k7))) 10 #[.agg (ints .u8 (k7))] 4 rfl kj kj (QkP k7 QnQ Qjs tc tq tO tB tX tY _ (hT.ext (Rely.Ext.refl w))) fun W1 e1=>?_
  have x1:=Ext.tr (Rely.Ext.refl w) e1
  refine Qah (ints .u8 (List.replicate 32 0)) 23 1 rfl kj kj fun g3 W2 l3 e2 r3_2=>Qai g3 _ (ints .u8 (pubV k7)) 23 r3_2 rfl kj (Qaf 23 _ _ g3 23 _ _ r3_2 rfl kj kj (isz (n:=32) kj ((Qad _ _).trans (Qbp k7))) (eqsz (n:=32) ((Qad _ _).trans (qZ (n:=32))) ((Qad _ _).trans (Qbp k7))) (ints_one _ _)) fun W3 p3 r3_3=>?_
  have x3:=Puts.ext p3 (Ext.tr x1 e2) (qT x1.size l3)
  refine sgN hK2 <| sgC fun K4 hK4=>sg 1 kj <| QaW (ints .u8 ([97])) 5 1 6 rfl kj kj fun g5 W4 l5 e4 r5_4=>Qe5 (xs:=[97]) 27 5 (.tmp 6) 7 rfl rfl kj kj kj kj rfl (show 1≤maxLen by decide) r5_4 fun W5 p5 r5_5 rd6=>?_
  have x5:=Puts.ext p5 (Ext.tr x3 e4) (qT x3.size l5)
  refine QaW (ints .u8 ([98])) 5 1 8 rfl kj kj fun g7 W6 l7 e6 r7_6=>Qe5 (xs:=[98]) 27 5 (.tmp 8) 9 rfl rfl kj kj kj kj rfl (show 1≤maxLen by decide) r7_6 fun W7 p7 r7_7 rd8=>?_
  have x7:=Puts.ext p7 (Ext.tr x5 e6) (qT x5.size l7)
  refine QaW (#[.slice (some ⟨g5,0,none⟩) 1 1,.slice (some ⟨g7,0,none⟩) 1 1]) 27 2 10 rfl kj kj fun g9 W8 l9 e8 r9_8=>?_
  have x8:=Ext.tr x7 e8
  have b9:=qT x7.size l9
  have hps14:∀ p∈([(.slice (some ⟨g5,0,none⟩) 1 1,[97]),(.slice (some ⟨g7,0,none⟩) 1 1,[98])]:List (Value×List Int)),RdK .u8 W8.heap.size p.2 p.1 W8∧Qaj p.2:=by
    intro p hp
    simp only [List.mem_cons,List.not_mem_nil,or_false] at hp
    rcases hp with rfl | rfl
    · exact ⟨RdK.here ((RdK.putsP (rd6.ext e6) p7 (.inr (fun e=>(Qab r5_5 l7) (Option.some.inj e)))).ext e8),QpB⟩
    · exact ⟨RdK.here (rd8.ext e8),QlW⟩
  have hone14:∀ u∈([(.slice (some ⟨g5,0,none⟩) 1 1,[97]),(.slice (some ⟨g7,0,none⟩) 1 1,[98])]:List (Value×List Int)).map Prod.fst,u.oneCell'=true:=by
    intro u hu
    simp only [List.map_cons,List.map_nil,List.mem_cons,List.not_mem_nil,or_false] at hu
    rcases hu with rfl | rfl <;> rfl
  refine Qap (.agg (ints .u8 (sigV k7 ([97,98])))) 13 #[.agg (ints .u8 (k7)),.slice (some ⟨g9,0,none⟩) 2 2] 11 rfl kj kj (QpS k7 QnQ Qjs g9 2 _ ([(.slice (some ⟨g5,0,none⟩) 1 1,[97]),(.slice (some ⟨g7,0,none⟩) 1 1,[98])]:List (Value×List Int)) rfl (by decide) hone14 tc tq tO tB tX tY _ (hT.ext x8) r9_8 hps14 ([97,98]) rfl (by decide)) fun W9 e9=>?_
  have x9:=Ext.tr x8 e9
  refine Qah (ints .u8 (List.replicate 64 0)) 30 2 rfl kj kj fun g15 W10 l15 e10 r15_10=>Qai g15 _ (ints .u8 (sigV k7 ([97,98]))) 30 r15_10 rfl kj (Qaf 30 _ _ g15 30 _ _ r15_10 rfl kj kj (isz (n:=64) kj ((Qad _ _).trans (Qbu k7 ([97,98])))) (eqsz (n:=64) ((Qad _ _).trans (qZ (n:=64))) ((Qad _ _).trans (Qbu k7 ([97,98])))) (ints_one _ _)) fun W11 p11 r15_11=>?_
  have x11:=Puts.ext p11 (Ext.tr x9 e10) (qT x9.size l15)
  refine sgN hK4 <| sgC fun K16 hK16=>?_
  have r3_5:=(Puts.row p5 (Qaa r3_3 e4) (Qab r3_3 l5))
  have r3_9:=(Qaa (Qaa (Puts.row p7 (Qaa r3_5 e6) (Qab r3_5 l7)) e8) e9)
  have r3_11:=(Puts.row p11 (Qaa r3_9 e10) (Qab r3_9 l15))
  refine Qag (.agg (ints .u8 (pubV k7))) 12 rfl kj (Qac 23 _ g3 23 _ _ r3_11 rfl kj kj (isz (n:=32) kj ((Qad _ _).trans (Qbp k7)))) <| Qag (.agg (ints .u8 (sigV k7 ([97,98])))) 13 rfl kj (Qac 30 _ g15 30 _ _ r15_11 rfl kj kj (isz (n:=64) kj ((Qad _ _).trans (Qbu k7 ([97,98]))))) <| QaW (ints .u8 ([97,98])) 5 2 14 rfl kj kj fun g17 W12 l17 e12 r17_12=>Qe5 (xs:=[97,98]) 27 5 (.tmp 14) 15 rfl rfl kj kj kj kj rfl (show 2≤maxLen by decide) r17_12 fun W13 p13 r17_13 rd18=>?_
  have x13:=Puts.ext p13 (Ext.tr x11 e12) (qT x11.size l17)
  refine QaW (#[.slice (some ⟨g17,0,none⟩) 2 2]) 27 1 16 rfl kj kj fun g19 W14 l19 e14 r19_14=>?_
  have x14:=Ext.tr x13 e14
  have b19:=qT x13.size l19
  have hps21:∀ p∈([(.slice (some ⟨g17,0,none⟩) 2 2,[97,98])]:List (Value×List Int)),RdK .u8 W14.heap.size p.2 p.1 W14∧Qaj p.2:=by
    intro p hp
    simp only [List.mem_cons,List.not_mem_nil,or_false] at hp
    rcases hp with rfl
    · exact ⟨RdK.here (rd18.ext e14),QnB⟩
  have hone21:∀ u∈([(.slice (some ⟨g17,0,none⟩) 2 2,[97,98])]:List (Value×List Int)).map Prod.fst,u.oneCell'=true:=by
    intro u hu
    simp only [List.map_cons,List.map_nil,List.mem_cons,List.not_mem_nil,or_false] at hu
    rcases hu with rfl <;> rfl
  refine Qap (.bool true) 16 #[.agg (ints .u8 (pubV k7)),.agg (ints .u8 (sigV k7 ([97,98]))),.slice (some ⟨g19,0,none⟩) 1 1] 17 rfl kj kj (verE (Qkz k7 [97,98]) (Qf0 (pubV k7) (sigV k7 ([97,98])) (Qbp k7) (Qcu k7) (Qbu k7 ([97,98])) (QcB k7 ([97,98])) g19 1 _ ([(.slice (some ⟨g17,0,none⟩) 2 2,[97,98])]:List (Value×List Int)) rfl (by decide) hone21 tc tq tO tB tX tY _ (hT.ext x14) r19_14 hps21 ([97,98]) rfl (by decide))) fun W15 e15=>?_
  have x15:=Ext.tr x14 e15
  refine sg 1 kj <| Qag (.agg (ints .u8 (pubV k7))) 19 rfl kj (Qac 23 _ g3 23 _ _ (Qaa (Qaa (Puts.row p13 (Qaa r3_11 e12) (Qab r3_11 l17)) e14) e15) rfl kj kj (isz (n:=32) kj ((Qad _ _).trans (Qbp k7)))) <| Qag (.agg (ints .u8 (sigV k7 ([97,98])))) 20 rfl kj (Qac 30 _ g15 30 _ _ (Qaa (Qaa (Puts.row p13 (Qaa r15_11 e12) (Qab r15_11 l17)) e14) e15) rfl kj kj (isz (n:=64) kj ((Qad _ _).trans (Qbu k7 ([97,98]))))) <| QaW (ints .u8 ([98])) 5 1 21 rfl kj kj fun g22 W16 l22 e16 r22_16=>Qe5 (xs:=[98]) 27 5 (.tmp 21) 22 rfl rfl kj kj kj kj rfl (show 1≤maxLen by decide) r22_16 fun W17 p17 r22_17 rd23=>?_
  have x17:=Puts.ext p17 (Ext.tr x15 e16) (qT x15.size l22)
  refine QaW (#[.slice (some ⟨g22,0,none⟩) 1 1]) 27 1 23 rfl kj kj fun g24 W18 l24 e18 r24_18=>?_
  have x18:=Ext.tr x17 e18
  have b24:=qT x17.size l24
  have hps26:∀ p∈([(.slice (some ⟨g22,0,none⟩) 1 1,[98])]:List (Value×List Int)),RdK .u8 W18.heap.size p.2 p.1 W18∧Qaj p.2:=by
    intro p hp
    simp only [List.mem_cons,List.not_mem_nil,or_false] at hp
    rcases hp with rfl
    · exact ⟨RdK.here (rd23.ext e18),QlW⟩
  have hone26:∀ u∈([(.slice (some ⟨g22,0,none⟩) 1 1,[98])]:List (Value×List Int)).map Prod.fst,u.oneCell'=true:=by
    intro u hu
    simp only [List.map_cons,List.map_nil,List.mem_cons,List.not_mem_nil,or_false] at hu
    rcases hu with rfl <;> rfl
  refine Qap (.bool false) 16 #[.agg (ints .u8 (pubV k7)),.agg (ints .u8 (sigV k7 ([97,98]))),.slice (some ⟨g24,0,none⟩) 1 1] 24 rfl kj kj (verE ver7 (Qf0 (pubV k7) (sigV k7 ([97,98])) (Qbp k7) (Qcu k7) (Qbu k7 ([97,98])) (QcB k7 ([97,98])) g24 1 _ ([(.slice (some ⟨g22,0,none⟩) 1 1,[98])]:List (Value×List Int)) rfl (by decide) hone26 tc tq tO tB tX tY _ (hT.ext x18) r24_18 hps26 ([98]) rfl (by decide))) fun W19 e19=>sg 3 kj <| sgN hK16 <| wp_ret ?_
  repeat (first | with_reducible refine goR1 ?_ | with_reducible refine goR2 ?_)
  exact (show bodyPost _ _ _ .ret _ _ from ret1 (.bool true) rfl (Qbb kj) ⟨rfl,(Ext.tr x18 e19)⟩)
end Go.Proofs.YtdoadngmgmdlbaaDoor.Sgn
end
section
namespace Go.Proofs.YtdoadngmgmdlbaaDoor.Sgn
open Go Go.RowKit
open Rely Auto Own Sha5
open Ladder (clamp)
open Field (Qaq resN numA num lims Qca ordL Qb6 QbN QbM Qbc encP Qbs pa Qdn pAdd pNeg mulP QcO okK xK zK lK mulR BP Qcb numB nmul OnP QcL)
def w3A (A : Field.W3):Array Value:=cat [ints .i64 (lims A.1),ints .i64 (lims A.2.1),ints .i64 (lims A.2.2)]
structure R3 (A : Field.W3) (P : Int × Int) : Prop where
  is:Field.isW3 A
  rep:Field.RepR' A P
  on:OnP P
@[irreducible] def rT (A : Field.W3) (ks : List Int) : Field.W3 := Field.rruns A Field.Z0 ks 0
def rN (A : Field.W3):Field.W3:=Field.rnegF A.1 A.2.1 A.2.2
def bA : Field.W3:=(Field.bxN,Field.byN,1)
theorem R3.of {P : Int×Int} (h:OnP P):R3 (P.1,P.2,1) P:=⟨⟨h.x,h.y,Field.num_isN 1⟩,Field.rE_rep h,h⟩
theorem QfA : R3 bA BP:=R3.of Qcb
theorem R3.times {A : Field.W3} {P:Int×Int} (h:R3 A P) (ks:List Int):R3 (rT A ks) (Field.climbP P (Field.bitsB ks)):=by
  unfold rT
  rw [Field.rruns_full]
  exact ⟨Field.rrun_is h.is _ ⟨Field.num_isN 0,Field.num_isN 1,Field.num_isN 1⟩,Field.rrun_rep h.on h.rep (Field.bitsB ks) Field.pZero_on Field.Z0_rep,Field.climbP_on h.on _⟩
theorem R3.add {A B:Field.W3} {P Q:Int×Int} (h:R3 A P) (k:R3 B Q):R3 (Field.rad A B) (pAdd P Q):=⟨Field.rad_is h.is k.is,Field.rad_rep h.on k.on h.rep k.rep,Field.pAdd_on h.on k.on⟩
theorem R3.neg {A : Field.W3} {P:Int×Int} (h:R3 A P):R3 (rN A) (pNeg P):=by
  refine ⟨⟨Field.isN_mod _,h.is.2.1,h.is.2.2⟩,⟨h.rep.n,h.rep.z,?_,h.rep.hy⟩,Field.pNeg_on h.on⟩
  show (0-A.1)%Field.p=A.2.2*((0-P.1)%Field.p)%Field.p
  have e:A.1=A.2.2*P.1%Field.p:=h.rep.hx
  rw [e,Field.subR,Field.modR,show A.2.2*(0-P.1)=0-A.2.2*P.1 by grind]
theorem QgH (p : List Int):R3 (xK p,zK p,1) (xK p,zK p):=R3.of (Field.K_onP p)
theorem Qiy {A : Field.W3} {P:Int×Int} (h:R3 A P) (ks:List Int) (hk:ks.length=32) (hkb:Qaj ks) (w:World):Calls Tryd.prog 26 #[.agg (w3A A),.agg (ints .u8 ks)] w (Ret w (.agg (w3A (rT A ks)))):=by
  unfold rT
  exact Field.rtimesC A h.is ks hk hkb w
theorem Qre {A B:Field.W3} {P Q:Int×Int} (h:R3 A P) (k:R3 B Q) (w:World):Calls Tryd.prog 39 #[.agg (w3A A),.agg (w3A B)] w (Ret w (.agg (w3A (Field.rad A B)))):=Field.radC h.is k.is w
theorem Qrd {A : Field.W3} {P:Int×Int} (h:R3 A P) (w:World):Calls Tryd.prog 40 #[.agg (w3A A)] w (Ret w (.agg (w3A (rN A)))):=Field.rnegC _ _ _ h.is.1 h.is.2.1 h.is.2.2 w
theorem QkL {A : Field.W3} {P:Int×Int} (h:R3 A P) (w:World):Calls Tryd.prog 25 #[.agg (w3A A)] w (Ret w (.agg (ints .u8 (encP P)))):=by
  have c:=Field.rbytesC _ _ _ h.is.1 h.is.2.1 h.is.2.2 w
  have r:=h.rep
  have ex:A.1*Field.invN A.2.2%Field.p=P.1:=by rw [r.hx]; exact Field.rep_out r.n r.z h.on.x
  have ey:A.2.1*Field.invN A.2.2%Field.p=P.2:=by rw [r.hy]; exact Field.rep_out r.n r.z h.on.y
  rw [ex,ey] at c
  exact c
theorem QkK (p : List Int) (hp:p.length=32) (hb:Qaj p) (b:Bool) (ho:okK p=b) (w:World):Calls Tryd.prog 37 #[.agg (ints .u8 p)] w (Ret w (.tuple #[.agg (w3A (xK p,zK p,1)),.bool b])):=by
  subst ho
  exact Field.rfromC p hp hb w
theorem from_bx (w : World):Calls Tryd.prog 60 #[.agg (ints .u8 QbN)] w (Ret w (.agg (ints .i64 (lims Field.bxN)))):=by rw [←Field.key_bx]; exact Field.lFrom QbN rfl Field.baseX_bytes w
theorem from_by (w : World):Calls Tryd.prog 60 #[.agg (ints .u8 QbM)] w (Ret w (.agg (ints .i64 (lims Field.byN)))):=by rw [←Field.key_by]; exact Field.lFrom QbM rfl Field.baseY_bytes w
theorem bitsS (bs : List Int) (v:Value) (B:Nat) (w:World) (hn:bs.length≤1000) (hb:Qaj bs) (hr:RdK .u8 B bs v w):Calls Tryd.prog 38 #[v] w (Ret w (.agg (ints .u8 (Qaq (resN bs))))):=by
  obtain ⟨a,cap,rfl,h1,h2,h3,h4⟩:=hr
  refine Field.bitsC a bs.length cap bs rfl hn hb w ?_
  rcases h4 with h4 | ⟨g,o,e1,_,e3,e4⟩
  · exact .inl (by rw [h4]; rfl)
  · exact .inr ⟨g,o,e1,e3,e4⟩
theorem QqJ (xs : List Int) (w:World):Calls Tryd.prog 28 #[.agg (ints .u8 ((dig xs).take 32))] w (Ret w (.agg (ints .u8 (secV xs)))):=by
  unfold secV
  exact Ladder.refClampC _ (Qbl (dig_len xs)) (Qez (dig_bytes xs)) w
theorem Qic {a b:List Int} (h:Qaj a) (k:Qaj b):Qaj (a++b):=fun x hx=>by
  rcases List.mem_append.1 hx with q | q
  · exact h x q
  · exact k x q
theorem QnL (w : World):Calls Tryd.prog 27 #[] w (Ret w (.agg (w3A bA))):=by
  refine enter 7 [] Tryd.func27 rfl rfl kj rfl <| sgC fun K1 hK1=>Qah (w3A (0,0,0)) 60 0 rfl kj kj fun g2 W1 l2 e1 r2_1=>sgN hK1 <| sgC fun K3 hK3=>sg 1 kj <| Qap (.agg (ints .i64 (lims Field.bxN))) 60 #[.agg (ints .u8 (QbN))] 2 rfl kj kj (from_bx _) fun W2 e2=>sg 1 kj <| Qap (.agg (ints .i64 (lims Field.byN))) 60 #[.agg (ints .u8 (QbM))] 4 rfl kj kj (from_by _) fun W3 e3=>sg 2 kj ?_
  have r2_3:=(Qaa (Qaa r2_1 e2) e3)
  refine Qai g2 _ (w3A (bA)) 60 r2_3 rfl kj (Qaf 60 _ _ g2 60 _ _ r2_3 rfl kj kj (isz (n:=48) kj kj) (eqsz (n:=48) kj kj) kj) fun W4 p4 r2_4=>sgN hK3 <| wp_ret ?_
  repeat (first | with_reducible refine goR1 ?_ | with_reducible refine goR2 ?_)
  exact (show bodyPost _ _ _ .ret _ _ from ret1 (.agg (w3A (bA))) rfl (Qa8 g2 60 _ r2_4 kj kj (isz (n:=48) kj kj)) ⟨rfl,(Puts.ext p4 (Ext.tr (Ext.tr (Ext.tr (Rely.Ext.refl w) e1) e2) e3) (qT (Rely.Ext.refl w).size l2))⟩)
theorem Qm5 (t : List Int) (v:Value) (B:Nat) (w:World) (hlen:t.length≤900000000) (htb:Qaj t) (hr:RdK .u8 B t v w):Calls Tryd.prog 31 #[v] w (Ret w (.agg (ints .u8 (Qaq (resN (dig t)))))):=by
  refine enter 8 [(0,v)] Tryd.func31 rfl rfl kj rfl <| sgC fun K1 hK1=>Qah (ints .u8 (List.replicate 32 0)) 23 2 rfl kj kj fun g2 W1 l2 e1 r2_1=>?_
  have x1:=Ext.tr (Rely.Ext.refl w) e1
  refine sgN hK1 <| sgC fun K3 hK3=>sg 1 kj <| Qap (.agg (ints .u8 (dig t))) 24 #[v] 5 rfl kj kj (QnJ t _ _ _ hlen htb (RdK.ext hr x1)) fun W2 e2=>?_
  have x2:=Ext.tr x1 e2
  refine Qah (ints .u8 (List.replicate 64 0)) 30 3 rfl kj kj fun g4 W3 l4 e3 r4_3=>Qai g4 _ (ints .u8 (dig t)) 30 r4_3 rfl kj (Qaf 30 _ _ g4 30 _ _ r4_3 rfl kj kj (isz (n:=64) kj ((Qad _ _).trans (dig_len t))) (eqsz (n:=64) ((Qad _ _).trans (qZ (n:=64))) ((Qad _ _).trans (dig_len t))) (ints_one _ _)) fun W4 p4 r4_4=>sgN hK3 <| sgC fun K5 hK5=>sg 1 kj <| Qap (.agg (ints .u8 (Qaq (resN (dig t))))) 38 #[.slice (some ⟨g4,0,none⟩) 64 64] 7 rfl kj kj (bitsS (dig t) _ _ _ (by rw [dig_len]; decide) (dig_bytes t) (RdK.ext (Qcc (xs:=dig t) (n:=64) (dig_len t) r4_4 (QaB r4_4) (show 64≤maxLen from by decide)) (Rely.Ext.refl _))) fun W5 e5=>?_
  have r2_2:=(Qaa r2_1 e2)
  have r2_5:=(Qaa (Puts.row p4 (Qaa r2_2 e3) (Qab r2_2 l4)) e5)
  refine Qai g2 _ (ints .u8 (Qaq (resN (dig t)))) 23 r2_5 rfl kj (Qaf 23 _ _ g2 23 _ _ r2_5 rfl kj kj (isz (n:=32) kj ((Qad _ _).trans (bytesOf_len _))) (eqsz (n:=32) ((Qad _ _).trans (qZ (n:=32))) ((Qad _ _).trans (bytesOf_len _))) (ints_one _ _)) fun W6 p6 r2_6=>sgN hK5 <| wp_ret ?_
  repeat (first | with_reducible refine goR1 ?_ | with_reducible refine goR2 ?_)
  exact (show bodyPost _ _ _ .ret _ _ from ret1 (.agg (ints .u8 (Qaq (resN (dig t))))) rfl (Qa8 g2 23 _ r2_6 kj kj (isz (n:=32) kj ((Qad _ _).trans (bytesOf_len _)))) ⟨rfl,(Puts.ext p6 (Ext.tr (Puts.ext p4 (Ext.tr x2 e3) (qT x2.size l4)) e5) (qT (Rely.Ext.refl w).size l2))⟩)
theorem Qm4 (t : List Int) (v:Value) (B:Nat) (w:World) (hlen:t.length≤900000000) (htb:Qaj t) (hr:RdK .u8 B t v w):Calls Tryd.prog 31 #[v] w (Ret w (.agg (ints .u8 (resV t)))):=by
  unfold resV
  exact Qm5 t v B w hlen htb hr
theorem Qmw (xs : List Int) (hx:xs.length=32) (hb:Qaj xs) (w:World):Calls Tryd.prog 11 #[.agg (ints .u8 xs)] w (Ret w (.agg (ints .u8 (encP (pa (secV xs)))))):=by
  refine enter 16 [(0,.agg (ints .u8 (xs)))] Tryd.func11 rfl rfl kj rfl <| sgC fun K1 hK1=>Qah (ints .u8 (xs)) 23 1 rfl kj kj fun g2 W1 l2 e1 r2_1=>?_
  have x1:=Ext.tr (Rely.Ext.refl w) e1
  have b2:=qT (Rely.Ext.refl w).size l2
  refine Qah (ints .u8 (List.replicate 32 0)) 23 2 rfl kj kj fun g3 W2 l3 e2 r3_2=>sgN hK1 <| sgC fun K4 hK4=>sg 1 kj ?_
  have r2_2:=(Qaa r2_1 e2)
  refine Qap (.agg (ints .u8 (dig xs))) 24 #[.slice (some ⟨g2,0,none⟩) 32 32] 7 rfl kj kj (QnJ xs _ _ _ (by (try simp only [List.length_append,Qbp,QcC,QeM,Qdh,hx]); omega) hb (Qcc (xs:=xs) (n:=32) hx r2_2 (QaB r2_2) (show 32≤maxLen from by decide))) fun W3 e3=>?_
  refine Qap (.tuple #[.agg (ints .u8 ((dig xs).take 32)),.agg (ints .u8 ((dig xs).drop 32))]) 23 #[.agg (ints .u8 (dig xs))] 8 rfl kj kj ((QgZ (dig xs) (dig_len xs)) _) fun W4 e4=>?_
  have x4:=Ext.tr (Ext.tr (Ext.tr x1 e2) e3) e4
  refine sg 3 kj <| Qah (ints .u8 (List.replicate 32 0)) 23 3 rfl kj kj fun g5 W5 l5 e5 r5_5=>?_
  have x5:=Ext.tr x4 e5
  refine Qah (ints .u8 (List.replicate 32 0)) 23 4 rfl kj kj fun g6 W6 l6 e6 r6_6=>?_
  have r5_6:=(Qaa r5_5 e6)
  refine Qai g5 _ (ints .u8 ((dig xs).take 32)) 23 r5_6 rfl kj (Qaf 23 _ _ g5 23 _ _ r5_6 rfl kj kj (isz (n:=32) kj ((Qad _ _).trans (Qbl (dig_len xs)))) (eqsz (n:=32) ((Qad _ _).trans (qZ (n:=32))) ((Qad _ _).trans (Qbl (dig_len xs)))) (ints_one _ _)) fun W7 p7 r5_7=>?_
  have r6_7:=(Puts.row p7 r6_6 (Qas r5_5 l6))
  refine Qai g6 _ (ints .u8 ((dig xs).drop 32)) 23 r6_7 rfl kj (Qaf 23 _ _ g6 23 _ _ r6_7 rfl kj kj (isz (n:=32) kj ((Qad _ _).trans (Qbf (dig_len xs)))) (eqsz (n:=32) ((Qad _ _).trans (qZ (n:=32))) ((Qad _ _).trans (Qbf (dig_len xs)))) (ints_one _ _)) fun W8 p8 r6_8=>sgN hK4 <| wp_seq_k fun K7 hK7=>QaC 5 [⟨none,[]⟩,⟨none,[(3,none)]⟩,⟨none,[(12,some 1)]⟩,⟨none,[(11,some 0),(13,some 2)]⟩,⟨none,[(14,some 3)]⟩] kj kj fun F hF=>Qan (.agg (w3A (bA))) 27 #[] kj kj (fun W=>kj) (fun W hR=>QnL W) <| Qal (.agg (ints .u8 ((dig xs).take 32))) kj kj (fun W hR=>(Qac 23 _ g5 23 _ _ (Qaa (Qaa (Puts.row p8 r5_7 (Qab r5_5 l6)) (Qae _)) hR) rfl kj kj (isz (n:=32) kj ((Qad _ _).trans (Qbl (dig_len xs)))))) <| Qan (.agg (ints .u8 (secV xs))) 28 #[.agg (ints .u8 ((dig xs).take 32))] kj kj (fun W=>kj) (fun W hR=>QqJ xs W) <| Qan (.agg (w3A (rT bA (secV xs)))) 26 #[.agg (w3A (bA)),.agg (ints .u8 (secV xs))] kj kj (fun W=>kj) (fun W hR=>Qiy QfA (secV xs) (Qcm xs) (QcX xs) W) <| Qan (.agg (ints .u8 (encP (pa (secV xs))))) 25 #[.agg (w3A (rT bA (secV xs)))] kj kj (fun W=>kj) (fun W hR=>QkL (R3.times QfA (secV xs)) W) <| Qa2 (hF _ kj fun W9 e9=>?_)
  simp only [ups,up,Kn.val,List.take_succ_cons,List.take_zero,List.drop_succ_cons,List.drop_zero,List.nil_append,List.cons_append]
  clear hF
  have r3_4:=(Qaa (Qaa r3_2 e3) e4)
  have r3_5:=(Qaa r3_4 e5)
  have r3_9:=(Qaa (Puts.row p8 (Puts.row p7 (Qaa r3_5 e6) (Qab r3_4 l5)) (Qab r3_5 l6)) e9)
  refine Qai g3 _ (ints .u8 (encP (pa (secV xs)))) 23 r3_9 rfl kj (Qaf 23 _ _ g3 23 _ _ r3_9 rfl kj kj (isz (n:=32) kj ((Qad _ _).trans (Qbs _))) (eqsz (n:=32) ((Qad _ _).trans (qZ (n:=32))) ((Qad _ _).trans (Qbs _))) (ints_one _ _)) fun W10 p10 r3_10=>sgN hK7 <| wp_ret ?_
  repeat (first | with_reducible refine goR1 ?_ | with_reducible refine goR2 ?_)
  exact (show bodyPost _ _ _ .ret _ _ from ret1 (.agg (ints .u8 (encP (pa (secV xs))))) rfl (Qa8 g3 23 _ r3_10 kj kj (isz (n:=32) kj ((Qad _ _).trans (Qbs _)))) ⟨rfl,(Puts.ext p10 (Ext.tr (Puts.ext p8 (Puts.ext p7 (Ext.tr x5 e6) (qT x4.size l5)) (qT x5.size l6)) e9) (qT x1.size l3))⟩)
theorem Qmv (xs : List Int) (hx:xs.length=32) (hb:Qaj xs) (w:World):Calls Tryd.prog 11 #[.agg (ints .u8 xs)] w (Ret w (.agg (ints .u8 (pubV xs)))):=by
  unfold pubV
  exact Qmw xs hx hb w
end Go.Proofs.YtdoadngmgmdlbaaDoor.Sgn
end
section
namespace Go.Proofs.YtdoadngmgmdlbaaDoor.Sgn
open Go Go.RowKit
open Rely Auto Own Sha5
open Ladder (clamp)
open Field (Qaq resN numA num lims Qca ordL Qb6 QbN QbM Qbc encP Qbs pa Qdn pAdd pNeg mulP QcO okK xK zK lK mulR BP Qcb numB nmul OnP QcL)
theorem Qmu (p s:List Int) (hp:p.length=32) (hpb:Qaj p) (hs:s.length=64) (hsb:Qaj s) (ho:okK p=false) (t:List Int) (v:Value) (B:Nat) (w:World) (hlen:t.length≤100000) (htb:Qaj t) (hr:RdK .u8 B t v w):Calls Tryd.prog 17 #[.agg (ints .u8 p),.agg (ints .u8 s),v] w (Ret w (.bool false)):=by
  refine enter 51 [(0,.agg (ints .u8 (p))),(1,.agg (ints .u8 (s))),(2,v)] Tryd.func17 rfl rfl kj rfl <| sgC fun K1 hK1=>Qah (ints .u8 (p)) 23 3 rfl kj kj fun g2 W1 l2 e1 r2_1=>?_
  have x1:=Ext.tr (Rely.Ext.refl w) e1
  have b2:=qT (Rely.Ext.refl w).size l2
  refine Qah (ints .u8 (s)) 30 4 rfl kj kj fun g3 W2 l3 e2 r3_2=>?_
  have b3:=qT x1.size l3
  refine sg 1 kj <| sgN hK1 <| sgC fun K4 hK4=>Qag (.agg (ints .u8 (s))) 14 rfl kj (Qac 30 _ g3 30 _ _ r3_2 rfl kj kj (isz (n:=64) kj ((Qad _ _).trans hs))) <| Qap (.tuple #[.agg (ints .u8 ((s).take 32)),.agg (ints .u8 ((s).drop 32))]) 23 #[.agg (ints .u8 (s))] 15 rfl kj kj ((QgZ (s) hs) _) fun W3 e3=>?_
  have x3:=Ext.tr (Ext.tr x1 e2) e3
  refine sg 3 kj <| Qah (ints .u8 (List.replicate 32 0)) 23 7 rfl kj kj fun g5 W4 l5 e4 r5_4=>?_
  have x4:=Ext.tr x3 e4
  refine Qah (ints .u8 (List.replicate 32 0)) 23 8 rfl kj kj fun g6 W5 l6 e5 r6_5=>?_
  have r5_5:=(Qaa r5_4 e5)
  refine Qai g5 _ (ints .u8 ((s).take 32)) 23 r5_5 rfl kj (Qaf 23 _ _ g5 23 _ _ r5_5 rfl kj kj (isz (n:=32) kj ((Qad _ _).trans (Qbl hs))) (eqsz (n:=32) ((Qad _ _).trans (qZ (n:=32))) ((Qad _ _).trans (Qbl hs))) (ints_one _ _)) fun W6 p6 r5_6=>?_
  have r6_6:=(Puts.row p6 r6_5 (Qas r5_4 l6))
  refine Qai g6 _ (ints .u8 ((s).drop 32)) 23 r6_6 rfl kj (Qaf 23 _ _ g6 23 _ _ r6_6 rfl kj kj (isz (n:=32) kj ((Qad _ _).trans (Qbf hs))) (eqsz (n:=32) ((Qad _ _).trans (qZ (n:=32))) ((Qad _ _).trans (Qbf hs))) (ints_one _ _)) fun W7 p7 r6_7=>sgN hK4 <| sgC fun K7 hK7=>?_
  have r2_3:=(Qaa (Qaa r2_1 e2) e3)
  have r2_4:=(Qaa r2_3 e4)
  refine Qag (.agg (ints .u8 (p))) 19 rfl kj (Qac 23 _ g2 23 _ _ (Puts.row p7 (Puts.row p6 (Qaa r2_4 e5) (Qab r2_3 l5)) (Qab r2_4 l6)) rfl kj kj (isz (n:=32) kj ((Qad _ _).trans hp))) <| Qap (.tuple #[.agg (w3A (xK p,zK p,1)),.bool false]) 37 #[.agg (ints .u8 (p))] 20 rfl kj kj (QkK p hp hpb false ho _) fun W8 e8=>?_
  have x8:=Ext.tr (Puts.ext p7 (Puts.ext p6 (Ext.tr x4 e5) (qT x3.size l5)) (qT x4.size l6)) e8
  refine sg 3 kj <| Qah (w3A (0,0,0)) 60 9 rfl kj kj fun g8 W9 l8 e9 r8_9=>Qai g8 _ (w3A (xK p,zK p,1)) 60 r8_9 rfl kj (Qaf 60 _ _ g8 60 _ _ r8_9 rfl kj kj (isz (n:=48) kj kj) (eqsz (n:=48) kj kj) kj) fun W10 p10 r8_10=>sg 1 kj <| sgN hK7 <| wp_seq_k fun K9 hK9=>wp_seq_k fun K10 hK10=>QaC 8 [⟨none,[(10,none)]⟩,⟨none,[(23,some 0)]⟩,⟨none,[(24,some 1)]⟩,⟨some (25,false),[(8,none),(25,some 2)]⟩,⟨some (25,false),[(26,some 3),(25,some 2)]⟩,⟨some (25,false),[(8,none),(25,some 2)]⟩,⟨some (25,false),[(27,some 4),(28,some 5),(25,some 2)]⟩,⟨none,[(25,some 2),(29,some 6)]⟩] kj kj fun F hF=>Qay (.bool false) kj kj (fun W=>kj) <| Qay (.bool true) kj kj (fun W=>kj) ?_
  refine Qay (.bool true) kj kj (fun W=>kj) <| Qfw kj kj <| Qfw kj kj <| Qfw kj kj <| Qfw kj kj <| Qay (.bool true) kj kj (fun W=>kj) <| Qa2 (hF _ kj fun W11 e11=>?_)
  simp only [ups,up,Kn.val,List.take_succ_cons,List.take_zero,List.drop_succ_cons,List.drop_zero,List.nil_append,List.cons_append]
  clear hF
  refine sgN hK10 <| cond_true kj <| sgB kj <| wp_ret ?_
  repeat (first | with_reducible refine goR1 ?_ | with_reducible refine goR2 ?_)
  exact (show bodyPost _ _ _ .ret _ _ from ret1 (.bool false) rfl (Qbb kj) ⟨rfl,(Ext.tr (Puts.ext p10 (Ext.tr x8 e9) (qT x8.size l8)) e11)⟩)
theorem Qmt (p s:List Int) (hp:p.length=32) (hpb:Qaj p) (hs:s.length=64) (hsb:Qaj s) (ho:okK p=true) (hc:canV (s.drop 32)=false) (t:List Int) (v:Value) (B:Nat) (w:World) (hlen:t.length≤100000) (htb:Qaj t) (hr:RdK .u8 B t v w):Calls Tryd.prog 17 #[.agg (ints .u8 p),.agg (ints .u8 s),v] w (Ret w (.bool false)):=by
  refine enter 51 [(0,.agg (ints .u8 (p))),(1,.agg (ints .u8 (s))),(2,v)] Tryd.func17 rfl rfl kj rfl <| sgC fun K1 hK1=>Qah (ints .u8 (p)) 23 3 rfl kj kj fun g2 W1 l2 e1 r2_1=>?_
  have x1:=Ext.tr (Rely.Ext.refl w) e1
  have b2:=qT (Rely.Ext.refl w).size l2
  refine Qah (ints .u8 (s)) 30 4 rfl kj kj fun g3 W2 l3 e2 r3_2=>?_
  have b3:=qT x1.size l3
  refine sg 1 kj <| sgN hK1 <| sgC fun K4 hK4=>Qag (.agg (ints .u8 (s))) 14 rfl kj (Qac 30 _ g3 30 _ _ r3_2 rfl kj kj (isz (n:=64) kj ((Qad _ _).trans hs))) <| Qap (.tuple #[.agg (ints .u8 ((s).take 32)),.agg (ints .u8 ((s).drop 32))]) 23 #[.agg (ints .u8 (s))] 15 rfl kj kj ((QgZ (s) hs) _) fun W3 e3=>?_
  have x3:=Ext.tr (Ext.tr x1 e2) e3
  refine sg 3 kj <| Qah (ints .u8 (List.replicate 32 0)) 23 7 rfl kj kj fun g5 W4 l5 e4 r5_4=>?_
  have x4:=Ext.tr x3 e4
  refine Qah (ints .u8 (List.replicate 32 0)) 23 8 rfl kj kj fun g6 W5 l6 e5 r6_5=>?_
  have r5_5:=(Qaa r5_4 e5)
  refine Qai g5 _ (ints .u8 ((s).take 32)) 23 r5_5 rfl kj (Qaf 23 _ _ g5 23 _ _ r5_5 rfl kj kj (isz (n:=32) kj ((Qad _ _).trans (Qbl hs))) (eqsz (n:=32) ((Qad _ _).trans (qZ (n:=32))) ((Qad _ _).trans (Qbl hs))) (ints_one _ _)) fun W6 p6 r5_6=>?_
  have r6_6:=(Puts.row p6 r6_5 (Qas r5_4 l6))
  refine Qai g6 _ (ints .u8 ((s).drop 32)) 23 r6_6 rfl kj (Qaf 23 _ _ g6 23 _ _ r6_6 rfl kj kj (isz (n:=32) kj ((Qad _ _).trans (Qbf hs))) (eqsz (n:=32) ((Qad _ _).trans (qZ (n:=32))) ((Qad _ _).trans (Qbf hs))) (ints_one _ _)) fun W7 p7 r6_7=>sgN hK4 <| sgC fun K7 hK7=>?_
  have r2_3:=(Qaa (Qaa r2_1 e2) e3)
  have r2_4:=(Qaa r2_3 e4)
  refine Qag (.agg (ints .u8 (p))) 19 rfl kj (Qac 23 _ g2 23 _ _ (Puts.row p7 (Puts.row p6 (Qaa r2_4 e5) (Qab r2_3 l5)) (Qab r2_4 l6)) rfl kj kj (isz (n:=32) kj ((Qad _ _).trans hp))) <| Qap (.tuple #[.agg (w3A (xK p,zK p,1)),.bool true]) 37 #[.agg (ints .u8 (p))] 20 rfl kj kj (QkK p hp hpb true ho _) fun W8 e8=>?_
  have x8:=Ext.tr (Puts.ext p7 (Puts.ext p6 (Ext.tr x4 e5) (qT x3.size l5)) (qT x4.size l6)) e8
  refine sg 3 kj <| Qah (w3A (0,0,0)) 60 9 rfl kj kj fun g8 W9 l8 e9 r8_9=>Qai g8 _ (w3A (xK p,zK p,1)) 60 r8_9 rfl kj (Qaf 60 _ _ g8 60 _ _ r8_9 rfl kj kj (isz (n:=48) kj kj) (eqsz (n:=48) kj kj) kj) fun W10 p10 r8_10=>sg 1 kj <| sgN hK7 <| wp_seq_k fun K9 hK9=>wp_seq_k fun K10 hK10=>QaC 8 [⟨none,[(10,none)]⟩,⟨none,[(23,some 0)]⟩,⟨none,[(24,some 1)]⟩,⟨some (25,false),[(8,none),(25,some 2)]⟩,⟨some (25,false),[(26,some 3),(25,some 2)]⟩,⟨some (25,false),[(8,none),(25,some 2)]⟩,⟨some (25,false),[(27,some 4),(28,some 5),(25,some 2)]⟩,⟨none,[(25,some 2),(29,some 6)]⟩] kj kj fun F hF=>Qay (.bool true) kj kj (fun W=>kj) <| Qay (.bool false) kj kj (fun W=>kj) ?_
  refine Qay (.bool false) kj kj (fun W=>kj) <| Qay (.slice (some ⟨g6,0,none⟩) 32 32) kj kj (fun W=>kj) ?_
  have r6_8:=(Qaa r6_7 e8)
  have r6_10:=(Puts.row p10 (Qaa r6_8 e9) (Qab r6_8 l8))
  refine Qan (.agg (ints .u8 (Qaq (resN ((s).drop 32))))) 38 #[.slice (some ⟨g6,0,none⟩) 32 32] kj kj (fun W=>kj) (fun W hR=>bitsS ((s).drop 32) _ _ W (by rw [Qbf hs]; decide) (Qdk hsb 32) (RdK.ext (Qcc (xs:=(s).drop 32) (n:=32) (Qbf hs) r6_10 (QaB r6_10) (show 32≤maxLen from by decide)) (Rely.Ext.trans (Qae _) hR))) ?_
  refine Qal (.agg (ints .u8 ((s).drop 32))) kj kj (fun W hR=>(Qac 23 _ g6 23 _ _ (Qaa (Qaa r6_10 (Qae _)) hR) rfl kj kj (isz (n:=32) kj ((Qad _ _).trans (Qbf hs))))) <| Qay (.bool true) kj kj (fun W=>(Qbj 23 _ _ _ _ _ (.bool true) rfl kj kj kj (Field.key_neq (Qaq (resN ((s).drop 32))) ((s).drop 32) false (bytesOf_len _) (Qbf hs) hc _))) <| Qay (.bool true) kj kj (fun W=>kj) <| Qa2 (hF _ kj fun W11 e11=>?_)
  simp only [ups,up,Kn.val,List.take_succ_cons,List.take_zero,List.drop_succ_cons,List.drop_zero,List.nil_append,List.cons_append]
  clear hF
  refine sgN hK10 <| cond_true kj <| sgB kj <| wp_ret ?_
  repeat (first | with_reducible refine goR1 ?_ | with_reducible refine goR2 ?_)
  exact (show bodyPost _ _ _ .ret _ _ from ret1 (.bool false) rfl (Qbb kj) ⟨rfl,(Ext.tr (Puts.ext p10 (Ext.tr x8 e9) (qT x8.size l8)) e11)⟩)
theorem QkA (p s:List Int) (hp:p.length=32) (hpb:Qaj p) (hs:s.length=64) (hsb:Qaj s) (ho:okK p=true) (hc:canV (s.drop 32)=true) (t:List Int) (v:Value) (B:Nat) (w:World) (hlen:t.length≤100000) (htb:Qaj t) (hr:RdK .u8 B t v w):Calls Tryd.prog 17 #[.agg (ints .u8 p),.agg (ints .u8 s),v] w (Ret w (.bool (decide (encP (pAdd (pa ((s).drop 32)) (pNeg (mulP p (resV (((s).take 32)++p++t)))))=(s).take 32)))):=by
 refine enter 51 [(0,.agg (ints .u8 (p))),(1,.agg (ints .u8 (s))),(2,v)] Tryd.func17 rfl rfl kj rfl <| sgC fun K1 hK1=>Qah (ints .u8 (p)) 23 3 rfl kj kj fun g2 W1 l2 e1 r2_1=>?_
 have x1:=Ext.tr (Rely.Ext.refl w) e1
 have b2:=qT (Rely.Ext.refl w).size l2
 refine Qah (ints .u8 (s)) 30 4 rfl kj kj fun g3 W2 l3 e2 r3_2=>?_
 have b3:=qT x1.size l3
 refine sg 1 kj <| sgN hK1 <| sgC fun K4 hK4=>Qag (.agg (ints .u8 (s))) 14 rfl kj (Qac 30 _ g3 30 _ _ r3_2 rfl kj kj (isz (n:=64) kj ((Qad _ _).trans hs))) <| Qap (.tuple #[.agg (ints .u8 ((s).take 32)),.agg (ints .u8 ((s).drop 32))]) 23 #[.agg (ints .u8 (s))] 15 rfl kj kj ((QgZ (s) hs) _) fun W3 e3=>?_
 have x3:=Ext.tr (Ext.tr x1 e2) e3
 refine sg 3 kj <| Qah (ints .u8 (List.replicate 32 0)) 23 7 rfl kj kj fun g5 W4 l5 e4 r5_4=>?_
 have x4:=Ext.tr x3 e4
 refine Qah (ints .u8 (List.replicate 32 0)) 23 8 rfl kj kj fun g6 W5 l6 e5 r6_5=>?_
 have r5_5:=(Qaa r5_4 e5)
 refine Qai g5 _ (ints .u8 ((s).take 32)) 23 r5_5 rfl kj (Qaf 23 _ _ g5 23 _ _ r5_5 rfl kj kj (isz (n:=32) kj ((Qad _ _).trans (Qbl hs))) (eqsz (n:=32) ((Qad _ _).trans (qZ (n:=32))) ((Qad _ _).trans (Qbl hs))) (ints_one _ _)) fun W6 p6 r5_6=>?_
 have r6_6:=(Puts.row p6 r6_5 (Qas r5_4 l6))
 refine Qai g6 _ (ints .u8 ((s).drop 32)) 23 r6_6 rfl kj (Qaf 23 _ _ g6 23 _ _ r6_6 rfl kj kj (isz (n:=32) kj ((Qad _ _).trans (Qbf hs))) (eqsz (n:=32) ((Qad _ _).trans (qZ (n:=32))) ((Qad _ _).trans (Qbf hs))) (ints_one _ _)) fun W7 p7 r6_7=>sgN hK4 <| sgC fun K7 hK7=>?_
 have r2_3:=(Qaa (Qaa r2_1 e2) e3)
 have r2_4:=(Qaa r2_3 e4)
 have r2_7:=(Puts.row p7 (Puts.row p6 (Qaa r2_4 e5) (Qab r2_3 l5)) (Qab r2_4 l6))
 refine Qag (.agg (ints .u8 (p))) 19 rfl kj (Qac 23 _ g2 23 _ _ r2_7 rfl kj kj (isz (n:=32) kj ((Qad _ _).trans hp))) <| Qap (.tuple #[.agg (w3A (xK p,zK p,1)),.bool true]) 37 #[.agg (ints .u8 (p))] 20 rfl kj kj (QkK p hp hpb true ho _) fun W8 e8=>?_
 have x8:=Ext.tr (Puts.ext p7 (Puts.ext p6 (Ext.tr x4 e5) (qT x3.size l5)) (qT x4.size l6)) e8
 refine sg 3 kj <| Qah (w3A (0,0,0)) 60 9 rfl kj kj fun g8 W9 l8 e9 r8_9=>Qai g8 _ (w3A (xK p,zK p,1)) 60 r8_9 rfl kj (Qaf 60 _ _ g8 60 _ _ r8_9 rfl kj kj (isz (n:=48) kj kj) (eqsz (n:=48) kj kj) kj) fun W10 p10 r8_10=>sg 1 kj <| sgN hK7 <| wp_seq_k fun K9 hK9=>wp_seq_k fun K10 hK10=>QaC 8 [⟨none,[(10,none)]⟩,⟨none,[(23,some 0)]⟩,⟨none,[(24,some 1)]⟩,⟨some (25,false),[(8,none),(25,some 2)]⟩,⟨some (25,false),[(26,some 3),(25,some 2)]⟩,⟨some (25,false),[(8,none),(25,some 2)]⟩,⟨some (25,false),[(27,some 4),(28,some 5),(25,some 2)]⟩,⟨none,[(25,some 2),(29,some 6)]⟩] kj kj fun F hF=>Qay (.bool true) kj kj (fun W=>kj) <| Qay (.bool false) kj kj (fun W=>kj) ?_
 refine Qay (.bool false) kj kj (fun W=>kj) <| Qay (.slice (some ⟨g6,0,none⟩) 32 32) kj kj (fun W=>kj) ?_
 have r6_8:=(Qaa r6_7 e8)
 have r6_10:=(Puts.row p10 (Qaa r6_8 e9) (Qab r6_8 l8))
 refine Qan (.agg (ints .u8 (Qaq (resN ((s).drop 32))))) 38 #[.slice (some ⟨g6,0,none⟩) 32 32] kj kj (fun W=>kj) (fun W hR=>bitsS ((s).drop 32) _ _ W (by rw [Qbf hs]; decide) (Qdk hsb 32) (RdK.ext (Qcc (xs:=(s).drop 32) (n:=32) (Qbf hs) r6_10 (QaB r6_10) (show 32≤maxLen from by decide)) (Rely.Ext.trans (Qae _) hR))) ?_
 refine Qal (.agg (ints .u8 ((s).drop 32))) kj kj (fun W hR=>(Qac 23 _ g6 23 _ _ (Qaa (Qaa r6_10 (Qae _)) hR) rfl kj kj (isz (n:=32) kj ((Qad _ _).trans (Qbf hs))))) <| Qay (.bool false) kj kj (fun W=>(Qbj 23 _ _ _ _ _ (.bool false) rfl kj kj kj (Field.key_neq (Qaq (resN ((s).drop 32))) ((s).drop 32) true (bytesOf_len _) (Qbf hs) hc _))) <| Qay (.bool false) kj kj (fun W=>kj) <| Qa2 (hF _ kj fun W11 e11=>?_)
 simp only [ups,up,Kn.val,List.take_succ_cons,List.take_zero,List.drop_succ_cons,List.drop_zero,List.nil_append,List.cons_append]
 clear hF
 have x11:=Ext.tr (Puts.ext p10 (Ext.tr x8 e9) (qT x8.size l8)) e11
 refine sgN hK10 <| cond_false kj <| wp_skip <| hK9 _ _ <| wp_seq_k fun K11 hK11=>?_
 have r5_8:=(Qaa (Puts.row p7 r5_6 (Qab r5_4 l6)) e8)
 have r5_11:=(Qaa (Puts.row p10 (Qaa r5_8 e9) (Qab r5_8 l8)) e11)
 have r2_8:=(Qaa r2_7 e8)
 have r2_11:=(Qaa (Puts.row p10 (Qaa r2_8 e9) (Qab r2_8 l8)) e11)
 have r3_3:=(Qaa r3_2 e3)
 have r3_4:=(Qaa r3_3 e4)
 have r3_8:=(Qaa (Puts.row p7 (Puts.row p6 (Qaa r3_4 e5) (Qab r3_3 l5)) (Qab r3_4 l6)) e8)
 have r6_11:=(Qaa r6_10 e11)
 have r8_11:=(Qaa r8_10 e11)
 have hRl:=Qoo W11.drew ((s).take 32).length (p++t)
 refine Qga (OncU W11.drew.heap.size ((s).take 32).length (p++t)) hRl 9 [⟨none,[]⟩,⟨none,[(7,none)]⟩,⟨none,[(31,some 0),(32,some 1)]⟩,⟨none,[(3,none)]⟩,⟨none,[(33,some 2),(34,some 3)]⟩,⟨none,[(2,none)]⟩,⟨none,[(35,some 4),(36,some 5)]⟩,⟨none,[(37,some 6)]⟩,⟨none,[]⟩] kj kj fun F hF=>QhX hRl #[] 5 0 QmS kj kj (fun W=>kj) <| QaK hRl (.slice (some ⟨g5,0,none⟩) 32 32) kj kj (fun W=>kj) <| QlH hRl (OwnN .u8 5 W11.drew.heap.size ((s).take 32)) (QgS (Qqx ((s).take 32) _)) (fun ρ W hR hh=>?_) ?_
 ·skip
  have e32:ρ 32=.slice (some ⟨g5,0,none⟩) 32 32:=(Qd4 hh 1 32 1 rfl kj)
  obtain ⟨gz,ez,lz,rz⟩:NewS W11.drew.heap.size #[] 5 0 (ρ 31) W:=(QdX hh 0 31 0 rfl kj)
  exact Qhg (base:=W11.drew.heap.size) (n:=((s).take 32).length) (Y:=p++t) (b:=1) (xs:=[]) (ys:=(s).take 32) (ρ:=Rely.look ρ) (.tmp 31) (.tmp 32) 27 rfl kj kj (by decide) ez e32 (Qfs (xs:=[]) rfl lz rz (by decide)) (RdK.ext (Qcc (xs:=(s).take 32) (n:=32) (Qbl hs) r5_11 (QaB r5_11) (show 32≤maxLen from by decide)) (Rely.Ext.trans (Qae _) hR)) (by (try simp only [List.length_append,List.length_nil,Qbl hs,hp]); omega) hR.size (.inl ⟨gz,rfl⟩)
 refine QaK hRl (.slice (some ⟨g2,0,none⟩) 32 32) kj kj (fun W=>kj) <| QlH hRl (OwnN .u8 5 W11.drew.heap.size ((s).take 32++p)) (QgS (Qqw ((s).take 32) p t)) (fun ρ W hR hh=>?_) ?_
 ·skip
  have e34:ρ 34=.slice (some ⟨g2,0,none⟩) 32 32:=(Qd4 hh 1 34 3 rfl kj)
  have h33:OwnN .u8 5 W11.drew.heap.size ((s).take 32) (ρ 33) W:=(QdX hh 0 33 2 rfl kj)
  exact Qhg (base:=W11.drew.heap.size) (n:=((s).take 32).length) (Y:=p++t) (b:=1) (xs:=(s).take 32) (ys:=p) (ρ:=Rely.look ρ) (.tmp 33) (.tmp 34) 27 rfl kj kj (by decide) rfl e34 h33 (RdK.ext (Qcc (xs:=p) (n:=32) hp r2_11 (QaB r2_11) (show 32≤maxLen from by decide)) (Rely.Ext.trans (Qae _) hR)) (by (try simp only [List.length_append,List.length_nil,Qbl hs,hp]); omega) hR.size (.inr ⟨0,rfl,fun i hi=>by rw [Nat.zero_add]; exact QhE p t hi⟩)
 refine QaK hRl (v) kj kj (fun W=>kj) <| QlH hRl (OwnN .u8 5 W11.drew.heap.size ((s).take 32++p++t)) (QgS (Qqv ((s).take 32) p t)) (fun ρ W hR hh=>?_) ?_
 ·skip
  have e36:ρ 36=v:=(Qd4 hh 1 36 5 rfl kj)
  have h35:OwnN .u8 5 W11.drew.heap.size ((s).take 32++p) (ρ 35) W:=(QdX hh 0 35 4 rfl kj)
  exact Qhg (base:=W11.drew.heap.size) (n:=((s).take 32).length) (Y:=p++t) (b:=1) (xs:=(s).take 32++p) (ys:=t) (ρ:=Rely.look ρ) (.tmp 35) (.tmp 36) 27 rfl kj kj (by decide) rfl e36 h35 (RdK.ext (RdK.ext hr x11) (Rely.Ext.trans (Qae _) hR)) (by (try simp only [List.length_append,List.length_nil,Qbl hs,hp]); omega) hR.size (.inr ⟨p.length,List.length_append,fun i hi=>QfF _ _ i⟩)
 refine QlI hRl (.agg (ints .u8 (resV (((s).take 32)++p++t)))) 31 (fun ρ W hR hh=>?_) ?_
 ·skip
  have h37:OwnN .u8 5 W11.drew.heap.size ((s).take 32++p++t) (ρ 37) W:=(QdX hh 0 37 6 rfl kj)
  refine ⟨#[ρ 37],Eq.trans (b:=Result.ok (Next.enter 31 #[ρ 37]) W) kj (rfl),?_⟩
  exact Qm4 (((s).take 32)++p++t) _ _ W (by (try simp only [List.length_append,Qbl hs,hp]); omega) (Qic (Qic (Qez hsb) hpb) htb) (OwnN.rd h37)
 refine QqH hRl (ints .u8 (List.replicate 32 0)) 23 (Qld (by decide)) kj kj (fun W=>kj) <| QdL (hF _ fun W12 oo12=>?_)
 have e12:=Rely.Ext.trans (Qae _) (OncU.low oo12)
 simp only [List.nil_append,List.cons_append,List.take_succ_cons,List.take_zero,List.drop_succ_cons,List.drop_zero,finE,up]
 intro vv31 hv31 vv33 hv33 vv35 hv35 vv37 hv37 vv12_ hv12_
 clear hF
 obtain ⟨g12,rfl,l12,r12_12⟩:=hv12_
 refine Qai g12 _ (ints .u8 (resV (((s).take 32)++p++t))) 23 r12_12 rfl kj (Qaf 23 _ _ g12 23 _ _ r12_12 rfl kj kj (isz (n:=32) kj ((Qad _ _).trans (QbY (((s).take 32)++p++t)))) (eqsz (n:=32) ((Qad _ _).trans (qZ (n:=32))) ((Qad _ _).trans (QbY (((s).take 32)++p++t)))) (ints_one _ _)) fun W13 p13 r12_13=>?_
 have x13:=Puts.ext p13 (Ext.tr x11 e12) (qT x11.size l12)
 refine sgN hK11 <| wp_seq_k fun K13 hK13=>QaX 9 [⟨none,[]⟩,⟨none,[(8,none)]⟩,⟨none,[(39,some 0),(40,some 1)]⟩,⟨none,[(9,none)]⟩,⟨none,[(11,none)]⟩,⟨none,[(42,some 3),(43,some 4)]⟩,⟨none,[(44,some 5)]⟩,⟨none,[(41,some 2),(45,some 6)]⟩,⟨none,[]⟩] [8] kj kj kj fun F hF=>Qan (.agg (w3A (bA))) 27 #[] kj kj (fun W=>kj) (fun W hR=>QnL W) <| Qal (.agg (ints .u8 ((s).drop 32))) kj kj (fun W hR=>(Qac 23 _ g6 23 _ _ (Qaa (Qaa (Puts.row p13 (Qaa r6_11 e12) (Qab r6_11 l12)) (Qae _)) hR) rfl kj kj (isz (n:=32) kj ((Qad _ _).trans (Qbf hs))))) <| Qan (.agg (w3A (rT bA ((s).drop 32)))) 26 #[.agg (w3A (bA)),.agg (ints .u8 ((s).drop 32))] kj kj (fun W=>kj) (fun W hR=>Qiy QfA ((s).drop 32) (Qbf hs) (Qdk hsb 32) W) <| Qal (.agg (w3A (xK p,zK p,1))) kj kj (fun W hR=>(Qac 60 _ g8 60 _ _ (Qaa (Qaa (Puts.row p13 (Qaa r8_11 e12) (Qab r8_11 l12)) (Qae _)) hR) rfl kj kj (isz (n:=48) kj kj))) <| Qal (.agg (ints .u8 (resV (((s).take 32)++p++t)))) kj kj (fun W hR=>(Qac 23 _ g12 23 _ _ (Qaa (Qaa r12_13 (Qae _)) hR) rfl kj kj (isz (n:=32) kj ((Qad _ _).trans (QbY (((s).take 32)++p++t)))))) <| Qan (.agg (w3A (rT (xK p,zK p,1) (resV (((s).take 32)++p++t))))) 26 #[.agg (w3A (xK p,zK p,1)),.agg (ints .u8 (resV (((s).take 32)++p++t)))] kj kj (fun W=>kj) (fun W hR=>Qiy (QgH p) (resV (((s).take 32)++p++t)) (QbY (((s).take 32)++p++t)) (Qdp (((s).take 32)++p++t)) W) <| Qan (.agg (w3A (rN (rT (xK p,zK p,1) (resV (((s).take 32)++p++t)))))) 40 #[.agg (w3A (rT (xK p,zK p,1) (resV (((s).take 32)++p++t))))] kj kj (fun W=>kj) (fun W hR=>Qrd (R3.times (QgH p) (resV (((s).take 32)++p++t))) W) ?_
 refine Qan (.agg (w3A (Field.rad (rT bA ((s).drop 32)) (rN (rT (xK p,zK p,1) (resV (((s).take 32)++p++t))))))) 39 #[.agg (w3A (rT bA ((s).drop 32))),.agg (w3A (rN (rT (xK p,zK p,1) (resV (((s).take 32)++p++t)))))] kj kj (fun W=>kj) (fun W hR=>Qre (R3.times QfA ((s).drop 32)) (R3.neg (R3.times (QgH p) (resV (((s).take 32)++p++t)))) W) <| Qb5 (w3A (0,0,0)) 60 kj (qR _) kj (fun W=>kj) <| Qa2 (hF _ kj fun W14 e14=>?_)
 simp only [fins,up,List.take_succ_cons,List.take_zero,List.drop_succ_cons,List.drop_zero,List.nil_append,List.cons_append]
 intro g14 l14 r14_14 n14
 clear hF
 refine Qai g14 _ (w3A (Field.rad (rT bA ((s).drop 32)) (rN (rT (xK p,zK p,1) (resV (((s).take 32)++p++t)))))) 60 r14_14 rfl kj (Qaf 60 _ _ g14 60 _ _ r14_14 rfl kj kj (isz (n:=48) kj kj) (eqsz (n:=48) kj kj) kj) fun W15 p15 r14_15=>sgN hK13 <| wp_seq_k fun K15 hK15=>QaC 4 [⟨none,[(12,none)]⟩,⟨none,[(47,some 0)]⟩,⟨none,[(7,none)]⟩,⟨none,[(48,some 1),(49,some 2)]⟩] kj kj fun F hF=>Qal (.agg (w3A (Field.rad (rT bA ((s).drop 32)) (rN (rT (xK p,zK p,1) (resV (((s).take 32)++p++t))))))) kj kj (fun W hR=>(Qac 60 _ g14 60 _ _ (Qaa (Qaa r14_15 (Qae _)) hR) rfl kj kj (isz (n:=48) kj kj))) <| Qan (.agg (ints .u8 (encP (pAdd (pa ((s).drop 32)) (pNeg (mulP p (resV (((s).take 32)++p++t)))))))) 25 #[.agg (w3A (Field.rad (rT bA ((s).drop 32)) (rN (rT (xK p,zK p,1) (resV (((s).take 32)++p++t))))))] kj kj (fun W=>kj) (fun W hR=>QkL (R3.add (R3.times QfA ((s).drop 32)) (R3.neg (R3.times (QgH p) (resV (((s).take 32)++p++t))))) W) ?_
 have r5_13:=(Puts.row p13 (Qaa r5_11 e12) (Qab r5_11 l12))
 refine Qal (.agg (ints .u8 ((s).take 32))) kj kj (fun W hR=>(Qac 23 _ g5 23 _ _ (Qaa (Qaa (Puts.row p15 (Qaa r5_13 e14) (Qab r5_13 l14)) (Qae _)) hR) rfl kj kj (isz (n:=32) kj ((Qad _ _).trans (Qbl hs))))) <| Qay (.bool (decide (encP (pAdd (pa ((s).drop 32)) (pNeg (mulP p (resV (((s).take 32)++p++t)))))=(s).take 32))) kj kj (fun W=>(Qcq 23 _ _ _ _ _ (.bool (decide (encP (pAdd (pa ((s).drop 32)) (pNeg (mulP p (resV (((s).take 32)++p++t)))))=(s).take 32))) rfl kj kj kj (Field.key_eql (encP (pAdd (pa ((s).drop 32)) (pNeg (mulP p (resV (((s).take 32)++p++t)))))) ((s).take 32) (decide (encP (pAdd (pa ((s).drop 32)) (pNeg (mulP p (resV (((s).take 32)++p++t)))))=(s).take 32)) (Qbs _) (Qbl hs) rfl _))) <| Qa2 (hF _ kj fun W16 e16=>?_)
 simp only [ups,up,Kn.val,List.take_succ_cons,List.take_zero,List.drop_succ_cons,List.drop_zero,List.nil_append,List.cons_append]
 clear hF
 refine sg 1 kj <| sgN hK15 <| wp_ret ?_
 repeat (first | with_reducible refine goR1 ?_ | with_reducible refine goR2 ?_)
 exact (show bodyPost _ _ _ .ret _ _ from ret1 (.bool (decide (encP (pAdd (pa ((s).drop 32)) (pNeg (mulP p (resV (((s).take 32)++p++t)))))=(s).take 32))) rfl (Qbb kj) ⟨rfl,(Ext.tr (Puts.ext p15 (Ext.tr x13 e14) (qT x13.size l14)) e16)⟩)
theorem QiU (p s:List Int) (hp:p.length=32) (hpb:Qaj p) (hs:s.length=64) (hsb:Qaj s) (t:List Int) (v:Value) (B:Nat) (w:World) (hlen:t.length≤100000) (htb:Qaj t) (hr:RdK .u8 B t v w):Calls Tryd.prog 17 #[.agg (ints .u8 p),.agg (ints .u8 s),v] w (Ret w (.bool (verV p s t))):=by
  unfold verV
  cases ho:okK p
  · rw [Bool.false_and,Bool.and_false]
    exact Qmu p s hp hpb hs hsb ho t v B w hlen htb hr
  · cases hc:canV (s.drop 32)
    · exact Qmt p s hp hpb hs hsb ho hc t v B w hlen htb hr
    · unfold eqV
      exact QkA p s hp hpb hs hsb ho hc t v B w hlen htb hr
end Go.Proofs.YtdoadngmgmdlbaaDoor.Sgn
end
section
namespace Go.Proofs.YtdoadngmgmdlbaaDoor.Sgn
open Go Go.RowKit
open Rely Auto Own Sha5
open Ladder (clamp)
open Field (Qaq resN numA num lims Qca ordL Qb6 QbN QbM Qbc encP Qbs pa Qdn pAdd pNeg mulP QcO okK xK zK lK mulR BP Qcb numB nmul OnP QcL)
def k99 : List Int:=[9,9,0,0,0,0,0,0,0,0,0,0,0,0,0,0,0,0,0,0,0,0,0,0,0,0,0,0,0,0,0,0]
theorem Qpk : k99.length=32:=rfl
theorem Qly : Qaj k99:=by unfold Qaj; decide
theorem Qlt (xs : List Int) (hx:xs.length=32) (hb:Qaj xs) (a:List Int) (a_a:Option Addr) (c_a B_a:Nat) (hba:Qaj a) (b:List Int) (a_b:Option Addr) (c_b B_b:Nat) (hbb:Qaj b) (tc tq tO tB tX tY:TypeId) (w:World) (hT:Tabs tc tq tO tB tX tY w) (hra:RdK .u8 B_a a (.slice a_a a.length c_a) w) (hrb:RdK .u8 B_b b (.slice a_b b.length c_b) w) (hl:1000<a.length):Calls Tryd.prog 8 #[.agg (ints .u8 xs),.slice a_a a.length c_a,.slice a_b b.length c_b] w (Ret w (.bool true)):=by
  refine enter 57 [(0,.agg (ints .u8 (xs))),(1,.slice a_a a.length c_a),(2,.slice a_b b.length c_b)] Tryd.func8 rfl rfl kj rfl <| sgC fun K1 hK1=>Qah (ints .u8 (xs)) 23 3 rfl kj kj fun g2 W1 l2 e1 r2_1=>?_
  have x1:=Ext.tr (Rely.Ext.refl w) e1
  have b2:=qT (Rely.Ext.refl w).size l2
  refine sg 1 kj <| sgN hK1 <| wp_seq_k fun K3 hK3=>sgC fun K4 hK4=>Qap (.bool true) 9 #[] 10 rfl kj kj (QiL tc tq tO tB tX tY _ (hT.ext x1)) fun W2 e2=>sg 1 kj <| sgN hK4 <| cond_false kj <| wp_skip <| hK3 _ _ ?_
  refine wp_seq_k fun K5 hK5=>sgC fun K6 hK6=>sg 2 kj <| Qag (.bool true) 14 rfl kj (Qam (u:=.bool (decide (((a.length:Nat):Int)>1000))) kj (congrArg Value.bool (decide_eq_true (by omega)))) <| sg 5 kj <| sgN hK6 <| cond_true kj <| sgB kj <| wp_ret ?_
  repeat (first | with_reducible refine goR1 ?_ | with_reducible refine goR2 ?_)
  exact (show bodyPost _ _ _ .ret _ _ from ret1 (.bool true) rfl (Qbb kj) ⟨rfl,(Ext.tr x1 e2)⟩)
theorem Qls (xs : List Int) (hx:xs.length=32) (hb:Qaj xs) (a:List Int) (a_a:Option Addr) (c_a B_a:Nat) (hba:Qaj a) (b:List Int) (a_b:Option Addr) (c_b B_b:Nat) (hbb:Qaj b) (tc tq tO tB tX tY:TypeId) (w:World) (hT:Tabs tc tq tO tB tX tY w) (hra:RdK .u8 B_a a (.slice a_a a.length c_a) w) (hrb:RdK .u8 B_b b (.slice a_b b.length c_b) w) (hl:a.length≤1000) (hm:1000<b.length):Calls Tryd.prog 8 #[.agg (ints .u8 xs),.slice a_a a.length c_a,.slice a_b b.length c_b] w (Ret w (.bool true)):=by
  refine enter 57 [(0,.agg (ints .u8 (xs))),(1,.slice a_a a.length c_a),(2,.slice a_b b.length c_b)] Tryd.func8 rfl rfl kj rfl <| sgC fun K1 hK1=>Qah (ints .u8 (xs)) 23 3 rfl kj kj fun g2 W1 l2 e1 r2_1=>?_
  have x1:=Ext.tr (Rely.Ext.refl w) e1
  have b2:=qT (Rely.Ext.refl w).size l2
  refine sg 1 kj <| sgN hK1 <| wp_seq_k fun K3 hK3=>sgC fun K4 hK4=>Qap (.bool true) 9 #[] 10 rfl kj kj (QiL tc tq tO tB tX tY _ (hT.ext x1)) fun W2 e2=>sg 1 kj <| sgN hK4 <| cond_false kj <| wp_skip <| hK3 _ _ ?_
  refine wp_seq_k fun K5 hK5=>sgC fun K6 hK6=>sg 2 kj <| Qag (.bool false) 14 rfl kj (Qam (u:=.bool (decide (((a.length:Nat):Int)>1000))) kj (congrArg Value.bool (decide_eq_false (by omega)))) <| sg 3 kj <| Qag (.bool true) 18 rfl kj (Qam (u:=.bool (decide (((b.length:Nat):Int)>1000))) kj (congrArg Value.bool (decide_eq_true (by omega)))) <| sg 1 kj <| sgN hK6 <| cond_true kj <| sgB kj ?_
  refine wp_ret ?_
  repeat (first | with_reducible refine goR1 ?_ | with_reducible refine goR2 ?_)
  exact (show bodyPost _ _ _ .ret _ _ from ret1 (.bool true) rfl (Qbb kj) ⟨rfl,(Ext.tr x1 e2)⟩)
theorem Qlr (xs : List Int) (hx:xs.length=32) (hb:Qaj xs) (a:List Int) (a_a:Option Addr) (c_a B_a:Nat) (hba:Qaj a) (b:List Int) (a_b:Option Addr) (c_b B_b:Nat) (hbb:Qaj b) (tc tq tO tB tX tY:TypeId) (w:World) (hT:Tabs tc tq tO tB tX tY w) (hra:RdK .u8 B_a a (.slice a_a a.length c_a) w) (hrb:RdK .u8 B_b b (.slice a_b b.length c_b) w) (hl:a.length≤1000) (hm:b.length≤1000):Calls Tryd.prog 8 #[.agg (ints .u8 xs),.slice a_a a.length c_a,.slice a_b b.length c_b] w (Ret w (.bool true)):=by
 refine enter 57 [(0,.agg (ints .u8 (xs))),(1,.slice a_a a.length c_a),(2,.slice a_b b.length c_b)] Tryd.func8 rfl rfl kj rfl <| sgC fun K1 hK1=>Qah (ints .u8 (xs)) 23 3 rfl kj kj fun g2 W1 l2 e1 r2_1=>?_
 have x1:=Ext.tr (Rely.Ext.refl w) e1
 have b2:=qT (Rely.Ext.refl w).size l2
 refine sg 1 kj <| sgN hK1 <| wp_seq_k fun K3 hK3=>sgC fun K4 hK4=>Qap (.bool true) 9 #[] 10 rfl kj kj (QiL tc tq tO tB tX tY _ (hT.ext x1)) fun W2 e2=>?_
 have x2:=Ext.tr x1 e2
 refine sg 1 kj <| sgN hK4 <| cond_false kj <| wp_skip <| hK3 _ _ <| wp_seq_k fun K5 hK5=>sgC fun K6 hK6=>sg 2 kj <| Qag (.bool false) 14 rfl kj (Qam (u:=.bool (decide (((a.length:Nat):Int)>1000))) kj (congrArg Value.bool (decide_eq_false (by omega)))) <| sg 3 kj ?_
 refine Qag (.bool false) 18 rfl kj (Qam (u:=.bool (decide (((b.length:Nat):Int)>1000))) kj (congrArg Value.bool (decide_eq_false (by omega)))) <| sg 1 kj <| sgN hK6 <| cond_false kj <| wp_skip <| hK5 _ _ <| sgC fun K7 hK7=>?_
 have r2_2:=(Qaa r2_1 e2)
 refine Qag (.agg (ints .u8 (xs))) 20 rfl kj (Qac 23 _ g2 23 _ _ r2_2 rfl kj kj (isz (n:=32) kj ((Qad _ _).trans hx))) <| sg 1 kj <| QaW (#[.slice a_a a.length c_a]) 27 1 22 rfl kj kj fun g8 W3 l8 e3 r8_3=>?_
 have x3:=Ext.tr x2 e3
 have b8:=qT x2.size l8
 have hps9:∀ p∈([(.slice a_a a.length c_a,a)]:List (Value×List Int)),RdK .u8 W3.heap.size p.2 p.1 W3∧Qaj p.2:=by
  intro p hp
  simp only [List.mem_cons,List.not_mem_nil,or_false] at hp
  rcases hp with rfl
  ·exact ⟨RdK.here (RdK.ext hra x3),hba⟩
 have hone9:∀ u∈([(.slice a_a a.length c_a,a)]:List (Value×List Int)).map Prod.fst,u.oneCell'=true:=by
  intro u hu
  simp only [List.map_cons,List.map_nil,List.mem_cons,List.not_mem_nil,or_false] at hu
  rcases hu with rfl <;> rfl
 refine Qap (.agg (ints .u8 (sigV xs a))) 13 #[.agg (ints .u8 (xs)),.slice (some ⟨g8,0,none⟩) 1 1] 23 rfl kj kj (QpS xs hx hb g8 1 _ ([(.slice a_a a.length c_a,a)]:List (Value×List Int)) rfl (by decide) hone9 tc tq tO tB tX tY _ (hT.ext x3) r8_3 hps9 a (by simp) (by omega)) fun W4 e4=>?_
 have x4:=Ext.tr x3 e4
 refine Qah (ints .u8 (List.replicate 64 0)) 30 7 rfl kj kj fun g10 W5 l10 e5 r10_5=>Qai g10 _ (ints .u8 (sigV xs a)) 30 r10_5 rfl kj (Qaf 30 _ _ g10 30 _ _ r10_5 rfl kj kj (isz (n:=64) kj ((Qad _ _).trans (Qbu xs a))) (eqsz (n:=64) ((Qad _ _).trans (qZ (n:=64))) ((Qad _ _).trans (Qbu xs a))) (ints_one _ _)) fun W6 p6 r10_6=>?_
 have x6:=Puts.ext p6 (Ext.tr x4 e5) (qT x4.size l10)
 refine sgN hK7 <| sgC fun K11 hK11=>?_
 have r2_4:=(Qaa (Qaa r2_2 e3) e4)
 refine Qag (.agg (ints .u8 (xs))) 24 rfl kj (Qac 23 _ g2 23 _ _ (Puts.row p6 (Qaa r2_4 e5) (Qab r2_4 l10)) rfl kj kj (isz (n:=32) kj ((Qad _ _).trans hx))) <| Qap (.agg (ints .u8 (pubV xs))) 10 #[.agg (ints .u8 (xs))] 25 rfl kj kj (QkP xs hx hb tc tq tO tB tX tY _ (hT.ext x6)) fun W7 e7=>?_
 have x7:=Ext.tr x6 e7
 refine Qah (ints .u8 (List.replicate 32 0)) 23 8 rfl kj kj fun g12 W8 l12 e8 r12_8=>Qai g12 _ (ints .u8 (pubV xs)) 23 r12_8 rfl kj (Qaf 23 _ _ g12 23 _ _ r12_8 rfl kj kj (isz (n:=32) kj ((Qad _ _).trans (Qbp xs))) (eqsz (n:=32) ((Qad _ _).trans (qZ (n:=32))) ((Qad _ _).trans (Qbp xs))) (ints_one _ _)) fun W9 p9 r12_9=>sgN hK11 <| sgC fun K13 hK13=>sg 1 kj <| Qap (.agg (ints .u8 (pubV k99))) 11 #[.agg (ints .u8 (k99))] 27 rfl kj kj (Qmv k99 Qpk Qly _) fun W10 e10=>?_
 have x10:=Ext.tr (Puts.ext p9 (Ext.tr x7 e8) (qT x7.size l12)) e10
 refine Qah (ints .u8 (List.replicate 32 0)) 23 9 rfl kj kj fun g14 W11 l14 e11 r14_11=>Qai g14 _ (ints .u8 (pubV k99)) 23 r14_11 rfl kj (Qaf 23 _ _ g14 23 _ _ r14_11 rfl kj kj (isz (n:=32) kj ((Qad _ _).trans (Qbp k99))) (eqsz (n:=32) ((Qad _ _).trans (qZ (n:=32))) ((Qad _ _).trans (Qbp k99))) (ints_one _ _)) fun W12 p12 r14_12=>?_
 have x12:=Puts.ext p12 (Ext.tr x10 e11) (qT x10.size l14)
 refine sgN hK13 <| wp_seq_k fun K15 hK15=>Qbk 27 [⟨none,[(8,none)]⟩,⟨none,[(7,none)]⟩,⟨none,[(2,none)]⟩,⟨none,[(30,some 2)]⟩,⟨none,[(28,some 0),(29,some 1),(31,some 3)]⟩,⟨none,[(8,none)]⟩,⟨none,[(7,none)]⟩,⟨none,[(2,none)]⟩,⟨none,[(33,some 5),(34,some 6),(35,some 7)]⟩,⟨none,[(32,some 4),(36,some 8)]⟩,⟨none,[(37,some 9)]⟩,⟨some (38,true),[(9,none),(38,some 10)]⟩,⟨some (38,true),[(7,none),(38,some 10)]⟩,⟨some (38,true),[(1,none),(38,some 10)]⟩,⟨some (38,true),[(41,some 13),(38,some 10)]⟩,⟨some (38,true),[(39,some 11),(40,some 12),(42,some 14),(38,some 10)]⟩,⟨some (38,true),[(9,none),(38,some 10)]⟩,⟨some (38,true),[(7,none),(38,some 10)]⟩,⟨some (38,true),[(1,none),(38,some 10)]⟩,⟨some (38,true),[(44,some 16),(45,some 17),(46,some 18),(38,some 10)]⟩,⟨some (38,true),[(43,some 15),(47,some 19),(38,some 10)]⟩,⟨none,[(38,some 10),(48,some 20)]⟩,⟨none,[(49,some 21)]⟩,⟨some (50,true),[(8,none),(50,some 22)]⟩,⟨some (50,true),[(7,none),(50,some 22)]⟩,⟨some (50,true),[(1,none),(50,some 22)]⟩,⟨some (50,true),[(53,some 25),(50,some 22)]⟩] kj kj fun F hF=>?_
 have r12_10:=(Qaa r12_9 e10)
 have r12_12:=(Puts.row p12 (Qaa r12_10 e11) (Qab r12_10 l14))
 refine Qb1 (Qau _) (.agg (ints .u8 (pubV xs))) kj kj (fun W hR=>(Qac 23 _ g12 23 _ _ (Qaa (Qaa r12_12 (Qae _)) hR) rfl kj kj (isz (n:=32) kj ((Qad _ _).trans (Qbp xs))))) ?_
 have r10_7:=(Qaa r10_6 e7)
 have r10_10:=(Qaa (Puts.row p9 (Qaa r10_7 e8) (Qab r10_7 l12)) e10)
 have r10_12:=(Puts.row p12 (Qaa r10_10 e11) (Qab r10_10 l14))
 refine Qb1 (Qau _) (.agg (ints .u8 (sigV xs a))) kj kj (fun W hR=>(Qac 30 _ g10 30 _ _ (Qaa (Qaa r10_12 (Qae _)) hR) rfl kj kj (isz (n:=64) kj ((Qad _ _).trans (Qbu xs a))))) <| QaK (Qau _) (.slice a_b b.length c_b) kj kj (fun W=>kj) <| QhX (Qau _) (#[.slice a_b b.length c_b]) 27 1 (NewS.stable _ _ _ _) kj kj (fun W=>kj) <| QlI (Qau _) (.bool (verV (pubV xs) (sigV xs a) b)) 16 (fun ρ W hR hh=>?_) ?_
 ·skip
  have e28:ρ 28=.agg (ints .u8 (pubV xs)):=(Qd4 hh 0 28 0 rfl kj)
  have e29:ρ 29=.agg (ints .u8 (sigV xs a)):=(Qd4 hh 1 29 1 rfl kj)
  obtain ⟨gs31,e31,lo31,rr31⟩:NewS W12.drew.heap.size (#[.slice a_b b.length c_b]) 27 1 (ρ 31) W:=(QdX hh 2 31 3 rfl kj)
  refine ⟨#[.agg (ints .u8 (pubV xs)),.agg (ints .u8 (sigV xs a)),.slice (some ⟨gs31,0,none⟩) 1 1],Eq.trans (b:=Result.ok (Next.enter 16 #[ρ 28,ρ 29,ρ 31]) W) kj (by rw [e28,e29,e31]),?_⟩
  have hps17:∀ p∈([(.slice a_b b.length c_b,b)]:List (Value×List Int)),RdK .u8 W.heap.size p.2 p.1 W∧Qaj p.2:=by
   intro p hp
   simp only [List.mem_cons,List.not_mem_nil,or_false] at hp
   rcases hp with rfl
   ·exact ⟨RdK.here (RdK.ext (RdK.ext hrb x12) (Rely.Ext.trans (Qae _) hR)),hbb⟩
  have hone17:∀ u∈([(.slice a_b b.length c_b,b)]:List (Value×List Int)).map Prod.fst,u.oneCell'=true:=by
   intro u hu
   simp only [List.map_cons,List.map_nil,List.mem_cons,List.not_mem_nil,or_false] at hu
   rcases hu with rfl <;> rfl
  exact Qf0 (pubV xs) (sigV xs a) (Qbp xs) (Qcu xs) (Qbu xs a) (QcB xs a) gs31 1 _ ([(.slice a_b b.length c_b,b)]:List (Value×List Int)) rfl (by decide) hone17 tc tq tO tB tX tY _ (hT.ext (Rely.Ext.trans (Rely.Ext.trans x12 (Qae _)) hR)) rr31 hps17 b (by simp) (by omega)
 refine Qb1 (Qau _) (.agg (ints .u8 (pubV xs))) kj kj (fun W hR=>(Qac 23 _ g12 23 _ _ (Qaa (Qaa r12_12 (Qae _)) hR) rfl kj kj (isz (n:=32) kj ((Qad _ _).trans (Qbp xs))))) <| Qb1 (Qau _) (.agg (ints .u8 (sigV xs a))) kj kj (fun W hR=>(Qac 30 _ g10 30 _ _ (Qaa (Qaa r10_12 (Qae _)) hR) rfl kj kj (isz (n:=64) kj ((Qad _ _).trans (Qbu xs a))))) <| QaK (Qau _) (.slice a_b b.length c_b) kj kj (fun W=>kj) <| Qd6 (Qau _) (.bool (verV (pubV xs) (sigV xs a) b)) 17 #[.agg (ints .u8 (pubV xs)),.agg (ints .u8 (sigV xs a)),.slice a_b b.length c_b] kj kj (fun W=>kj) (fun W hR=>QiU (pubV xs) (sigV xs a) (Qbp xs) (Qcu xs) (Qbu xs a) (QcB xs a) b _ _ W (by omega) hbb (RdK.ext (RdK.ext hrb x12) (Rely.Ext.trans (Qae _) hR))) <| QaK (Qau _) (.bool true) kj kj (fun W=>(Qam (u:=.bool (verV (pubV xs) (sigV xs a) b==verV (pubV xs) (sigV xs a) b)) kj (congrArg Value.bool (beq_self_eq_true _)))) <| QaK (Qau _) (.bool true) kj kj (fun W=>kj) <| Qb1 (Qau _) (.agg (ints .u8 (pubV k99))) kj kj (fun W hR=>(Qac 23 _ g14 23 _ _ (Qaa (Qaa r14_12 (Qae _)) hR) rfl kj kj (isz (n:=32) kj ((Qad _ _).trans (Qbp k99))))) <| Qb1 (Qau _) (.agg (ints .u8 (sigV xs a))) kj kj (fun W hR=>(Qac 30 _ g10 30 _ _ (Qaa (Qaa r10_12 (Qae _)) hR) rfl kj kj (isz (n:=64) kj ((Qad _ _).trans (Qbu xs a))))) <| QaK (Qau _) (.slice a_a a.length c_a) kj kj (fun W=>kj) <| QhX (Qau _) (#[.slice a_a a.length c_a]) 27 1 (NewS.stable _ _ _ _) kj kj (fun W=>kj) ?_
 refine Qnw (Qau _) (.bool (verV (pubV k99) (sigV xs a) a)) 16 10 rfl kj (fun ρ W hR hh=>?_) ?_
 ·skip
  have e39:ρ 39=.agg (ints .u8 (pubV k99)):=(Qd4 hh 0 39 11 rfl kj)
  have e40:ρ 40=.agg (ints .u8 (sigV xs a)):=(Qd4 hh 1 40 12 rfl kj)
  obtain ⟨gs42,e42,lo42,rr42⟩:NewS W12.drew.heap.size (#[.slice a_a a.length c_a]) 27 1 (ρ 42) W:=(QdX hh 2 42 14 rfl kj)
  refine ⟨#[.agg (ints .u8 (pubV k99)),.agg (ints .u8 (sigV xs a)),.slice (some ⟨gs42,0,none⟩) 1 1],Eq.trans (b:=Result.ok (Next.enter 16 #[ρ 39,ρ 40,ρ 42]) W) kj (by rw [e39,e40,e42]),?_⟩
  have hps19:∀ p∈([(.slice a_a a.length c_a,a)]:List (Value×List Int)),RdK .u8 W.heap.size p.2 p.1 W∧Qaj p.2:=by
   intro p hp
   simp only [List.mem_cons,List.not_mem_nil,or_false] at hp
   rcases hp with rfl
   ·exact ⟨RdK.here (RdK.ext (RdK.ext hra x12) (Rely.Ext.trans (Qae _) hR)),hba⟩
  have hone19:∀ u∈([(.slice a_a a.length c_a,a)]:List (Value×List Int)).map Prod.fst,u.oneCell'=true:=by
   intro u hu
   simp only [List.map_cons,List.map_nil,List.mem_cons,List.not_mem_nil,or_false] at hu
   rcases hu with rfl <;> rfl
  exact Qf0 (pubV k99) (sigV xs a) (Qbp k99) (Qcu k99) (Qbu xs a) (QcB xs a) gs42 1 _ ([(.slice a_a a.length c_a,a)]:List (Value×List Int)) rfl (by decide) hone19 tc tq tO tB tX tY _ (hT.ext (Rely.Ext.trans (Rely.Ext.trans x12 (Qae _)) hR)) rr42 hps19 a (by simp) (by omega)
 refine Qb1 (Qau _) (.agg (ints .u8 (pubV k99))) kj kj (fun W hR=>(Qac 23 _ g14 23 _ _ (Qaa (Qaa r14_12 (Qae _)) hR) rfl kj kj (isz (n:=32) kj ((Qad _ _).trans (Qbp k99))))) <| Qb1 (Qau _) (.agg (ints .u8 (sigV xs a))) kj kj (fun W hR=>(Qac 30 _ g10 30 _ _ (Qaa (Qaa r10_12 (Qae _)) hR) rfl kj kj (isz (n:=64) kj ((Qad _ _).trans (Qbu xs a))))) <| QaK (Qau _) (.slice a_a a.length c_a) kj kj (fun W=>kj) <| Qd6 (Qau _) (.bool (verV (pubV k99) (sigV xs a) a)) 17 #[.agg (ints .u8 (pubV k99)),.agg (ints .u8 (sigV xs a)),.slice a_a a.length c_a] kj kj (fun W=>kj) (fun W hR=>QiU (pubV k99) (sigV xs a) (Qbp k99) (Qcu k99) (Qbu xs a) (QcB xs a) a _ _ W (by omega) hba (RdK.ext (RdK.ext hra x12) (Rely.Ext.trans (Qae _) hR))) <| QaK (Qau _) (.bool true) kj kj (fun W=>(Qam (u:=.bool (verV (pubV k99) (sigV xs a) a==verV (pubV k99) (sigV xs a) a)) kj (congrArg Value.bool (beq_self_eq_true _)))) <| QaK (Qau _) (.bool true) kj kj (fun W=>kj) <| QaK (Qau _) (.bool true) kj kj (fun W=>kj) <| Qb1 (Qau _) (.agg (ints .u8 (pubV xs))) kj kj (fun W hR=>(Qac 23 _ g12 23 _ _ (Qaa (Qaa r12_12 (Qae _)) hR) rfl kj kj (isz (n:=32) kj ((Qad _ _).trans (Qbp xs))))) <| Qb1 (Qau _) (.agg (ints .u8 (sigV xs a))) kj kj (fun W hR=>(Qac 30 _ g10 30 _ _ (Qaa (Qaa r10_12 (Qae _)) hR) rfl kj kj (isz (n:=64) kj ((Qad _ _).trans (Qbu xs a))))) <| QaK (Qau _) (.slice a_a a.length c_a) kj kj (fun W=>kj) ?_
 refine QhX (Qau _) (#[.slice a_a a.length c_a]) 27 1 (NewS.stable _ _ _ _) kj kj (fun W=>kj) <| QdL (hF _ fun W13 e13=>?_)
 simp only [List.nil_append,List.cons_append,List.take_succ_cons,List.take_zero,List.drop_succ_cons,List.drop_zero,finE,up]
 intro vv16 hv16 vv18 hv18 vv20 hv20
 clear hF
 have x13:=Ext.tr x12 e13
 obtain ⟨g16,rfl,l16,r16_13⟩:=hv16
 have b16:=qT x12.size l16
 obtain ⟨g18,rfl,l18,r18_13⟩:=hv18
 have b18:=qT x12.size l18
 obtain ⟨g20,rfl,l20,r20_13⟩:=hv20
 have b20:=qT x12.size l20
 have hps21:∀ p∈([(.slice a_a a.length c_a,a)]:List (Value×List Int)),RdK .u8 W13.heap.size p.2 p.1 W13∧Qaj p.2:=by
  intro p hp
  simp only [List.mem_cons,List.not_mem_nil,or_false] at hp
  rcases hp with rfl
  ·exact ⟨RdK.here (RdK.ext hra x13),hba⟩
 have hone21:∀ u∈([(.slice a_a a.length c_a,a)]:List (Value×List Int)).map Prod.fst,u.oneCell'=true:=by
  intro u hu
  simp only [List.map_cons,List.map_nil,List.mem_cons,List.not_mem_nil,or_false] at hu
  rcases hu with rfl <;> rfl
 refine Qap (.bool true) 16 #[.agg (ints .u8 (pubV xs)),.agg (ints .u8 (sigV xs a)),.slice (some ⟨g20,0,none⟩) 1 1] 55 rfl kj kj (verE (Qkz xs a) (Qf0 (pubV xs) (sigV xs a) (Qbp xs) (Qcu xs) (Qbu xs a) (QcB xs a) g20 1 _ ([(.slice a_a a.length c_a,a)]:List (Value×List Int)) rfl (by decide) hone21 tc tq tO tB tX tY _ (hT.ext x13) r20_13 hps21 a (by simp) (by omega))) fun W14 e14=>sg 2 kj <| sgN hK15 <| wp_ret ?_
 repeat (first | with_reducible refine goR1 ?_ | with_reducible refine goR2 ?_)
 exact (show bodyPost _ _ _ .ret _ _ from ret1 (.bool true) rfl (Qbb kj) ⟨rfl,(Ext.tr x13 e14)⟩)
theorem lawOther (xs : List Int) (hx:xs.length=32) (hb:Qaj xs) (a:List Int) (a_a:Option Addr) (c_a B_a:Nat) (hba:Qaj a) (b:List Int) (a_b:Option Addr) (c_b B_b:Nat) (hbb:Qaj b) (tc tq tO tB tX tY:TypeId) (w:World) (hT:Tabs tc tq tO tB tX tY w) (hra:RdK .u8 B_a a (.slice a_a a.length c_a) w) (hrb:RdK .u8 B_b b (.slice a_b b.length c_b) w):Calls Tryd.prog 8 #[.agg (ints .u8 xs),.slice a_a a.length c_a,.slice a_b b.length c_b] w (Ret w (.bool true)):=by
  rcases Nat.lt_or_ge 1000 a.length with hl | hl
  · exact Qlt xs hx hb a a_a c_a B_a hba b a_b c_b B_b hbb tc tq tO tB tX tY w hT hra hrb hl
  · rcases Nat.lt_or_ge 1000 b.length with hm | hm
    · exact Qls xs hx hb a a_a c_a B_a hba b a_b c_b B_b hbb tc tq tO tB tX tY w hT hra hrb hl hm
    · exact Qlr xs hx hb a a_a c_a B_a hba b a_b c_b B_b hbb tc tq tO tB tX tY w hT hra hrb hl hm
end Go.Proofs.YtdoadngmgmdlbaaDoor.Sgn
end
section
namespace Go.Proofs.YtdoadngmgmdlbaaDoor.Auto
open Go Go.RowKit
open Rely
theorem laidVars_at {P : Program} {w:World}:∀ (laid:List (String×DataW Unit)) (ps:List MemPlace) (n:String) (d:DataW Unit),DataW.LaidVars P w laid ps→(n,d)∈laid →
    ∃ g t cs fuel p,P.globalNamed n=some g∧(P.globals[g]?).map (·.type)=some t∧w.var? P n=some cs∧DataW.trod (fun _=>()) P w 0 (fun _=>true) false fuel t cs.toList=some (d,p)∧∀ x∈MemPlace.row ⟨g,0,none⟩ cs.size,x∈ps
  | [],_,_,_,_,h=>by cases h
  | (n0,d0)::r,ps,n,d,⟨g,t,cs,fuel,p,q,h1,h2,h3,h4,h5,h6⟩,h=>by
    subst h6
    rcases List.mem_cons.1 h with h | h
    · cases h
      exact ⟨g,t,cs,fuel,p,h1,h2,h3,h4,fun x hx=>List.mem_append_left _ (List.mem_append_left _ hx)⟩
    · obtain ⟨g',t',cs',fuel',p',a,b,c,e,f⟩:=laidVars_at r q n d h5 h
      exact ⟨g',t',cs',fuel',p',a,b,c,e,fun x hx=>List.mem_append_right _ (f x hx)⟩
theorem laid_row {P : Program} {w:World} {laid:List (String×DataW Unit)} {n:String} {k:IntKind} {zs:List Int} {g:Nat} {t e:TypeId} {m:Nat} (h:laidMet P laid w) (hm:(n,Lib.tabData k zs)∈laid)
    (hg:P.globalNamed n=some g) (hty:(P.globals[g]?).map (·.type)=some t) (ht:P.underlying t=some (.array m e)) (he:P.underlying e=some (.int k)) (hce:P.cellsOf e=1) (hct:P.cellsOf t=m) (h0:0<zs.length) :
    ∃ t,w.heap[g]? = some (.cells (ints k zs) t):=by
  obtain ⟨ps,hL,-,hC⟩:=h
  obtain ⟨g',t',cs,fuel,p,hg',ht',hvar,hd,hin⟩:=laidVars_at _ _ _ _ hL hm
  obtain rfl:=Option.some.inj (hg.symm.trans hg')
  obtain rfl:=Option.some.inj (hty.symm.trans ht')
  have hcs:=Lib.cells_of_tab ht he hce hct hd
  have hsz:0<cs.size:=by rw [←Array.length_toList,hcs,List.length_map]; exact h0
  obtain ⟨⟨c,t2,hc⟩,-⟩:=hC g 0 (hin _ (List.mem_map.2 ⟨0,List.mem_range.2 hsz,rfl⟩))
  unfold World.var? at hvar
  rw [hg] at hvar
  simp only [Option.bind_some,hc,Option.some.injEq] at hvar
  subst hvar
  refine ⟨t2,hc.trans ?_⟩
  rw [show c=ints k zs from by rw [ints,←hcs]]
theorem bytes_wf {bs : List Int} (h:∀ n∈bs,(Lit.int .u8 n).wf=true):Qaj bs:=fun n hn=>by
  have:=h n hn
  simpa [Lit.wf,IntKind.min,IntKind.max,IntKind.signed,IntKind.bits] using this
end Go.Proofs.YtdoadngmgmdlbaaDoor.Auto
end
