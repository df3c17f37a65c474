/- Texts of this claim, joined (P3). -/
import Derived.Test.YtibegnjaphohaaaDoorZP2

set_option linter.unusedVariables false
set_option linter.unusedSimpArgs false
set_option maxHeartbeats 4000000
section
namespace Go.Proofs.YtibegnjaphohaaaDoor.Sha
open Go Go.RowKit
open Rely Auto Own
theorem nb_nil {v : Value}:∀ c∈([]:List Nat),v.ownBlock≠some c:=fun _ h=>by simp at h
theorem nb_cons {v : Value} {g:Nat} {gs:List Nat} (h:v.ownBlock≠some g) (h2:∀ c∈gs,v.ownBlock≠some c):∀ c∈g::gs,v.ownBlock≠some c:=fun c hc=>by
  rcases List.mem_cons.1 hc with e | e
  · rw [e]; exact h
  · exact h2 c e
theorem OwnN.keepsL {k : IntKind} {T:TypeId} {base:Nat} {gs:List Nat} {xs:List Int} {v:Value} {V W:World} (h:OwnN k T base xs v V) (q:Qah gs V W) (hn:∀ c∈gs,v.ownBlock≠some c):OwnN k T base xs v W :=
  h.keep fun g hg=>q.block g (h.lt hg) (fun hm=>hn g hm hg)
theorem Qet (ws : List Wd) {i n:Nat} (h:ws.length=n) (hi:i≤n):((ws.map wv).take i).length=i:=by rw [List.length_take,List.length_map]; omega
theorem Qk3 (ws : List Wd) {i n:Nat} (h:ws.length=n) (hi:i<n):(ws.map wv).take (i+1)=(ws.map wv).take i++[wv (wget ws i)]:=by
  have hl:i<(ws.map wv).length:=by rw [List.length_map]; omega
  rw [List.take_succ_eq_append_getElem hl]
  have:(ws.map wv)[i]=wv (wget ws i):=by
    unfold wget
    rw [List.getElem_map,List.getD_eq_getElem?_getD,List.getElem?_eq_getElem (by omega)]
    rfl
  rw [this]
theorem QdB (ws : List Wd) (i k:Nat) (hk:k<i):nth ((ws.map wv).take i) k=wv (wget ws k):=by
  rw [←QcP]
  unfold nth
  rw [List.getD_eq_getElem?_getD,List.getD_eq_getElem?_getD,List.getElem?_take,if_pos hk]
theorem u32s (x : Int) (h:0≤x∧x<4294967296):IntKind.u32.wrap x=x:=by rw [Qe3]; omega
theorem Qlo (t : List Int):∃ q,(padT t).length=64*q:=by
  refine ⟨(t.length+(1+QaZ t.length+8))/64,?_⟩
  rw [padT,List.length_append,QdC]
  unfold QaZ; omega
theorem Qey (P : List Int) (m k:Nat) (h:k<64):nth ((P.drop (64*m)).take 64) k=nth P (64*m+k):=by
  unfold nth
  rw [List.getD_eq_getElem?_getD,List.getD_eq_getElem?_getD,List.getElem?_take,if_pos h,List.getElem?_drop]
theorem QmY {P b:List Int} {m j:Nat} (hP:Qat P) (hb:b=(P.drop (64*m)).take 64) (hj:j<16) :
    IntKind.u32.wrap (nth P (64*m+4*j)*16777216+nth P (64*m+4*j+1)*65536+nth P (64*m+4*j+2)*256+nth P (64*m+4*j+3))=wv (wget (w64 b) j):=by
  rw [Qit b j hj,hb,Qey _ _ _ (by omega),Qey _ _ _ (by omega),Qey _ _ _ (by omega),Qey _ _ _ (by omega),be4,Qfx,Qe3]
  simp only [Nat.add_assoc]
  congr 1
  omega
theorem QhY {t : List Int} (h:Qat t):Qat (padT t):=fun x hx=>by
  rcases List.mem_append.1 hx with e | e
  · exact h x e
  · exact Qe8 _ x e
set_option maxRecDepth 20000 in
theorem QeC (t : List Int) (v:Value) (B:Nat) (w:World) (hlen:t.length≤900000000) (htb:Qat t) (hr:RdK .u8 B t v w):Calls Tryd.prog 60 #[v] w (Ret w (.agg (ints .u8 (dig t)))):=by
 obtain ⟨a_t,c_t,rfl,-⟩:=id hr
 refine enter 252 [(0,.slice a_t t.length c_t)] Tryd.func60 rfl rfl kj rfl <| sgC fun K1 hK1=>Qap (ints .u8 ([0,0,0,0,0,0,0,0,0,0,0,0,0,0,0,0,0,0,0,0,0,0,0,0,0,0,0,0,0,0,0,0])) 23 2 rfl kj kj fun g2 W1 l2 e1 r2_1=>?_
 have x1:=Ext.tr (Rely.Ext.refl w) e1
 refine sgN hK1 <| sgC fun K3 hK3=>Qa6 (fun v W'=>(fun v W=>∃ g,v=.slice (some ⟨g,0,none⟩) 8 8∧W1.heap.size≤g∧W.heap[g]? = some (.cells (ints .u64 Qam) 77)) v W'∧Ext W1 W') 62 #[] 23 rfl kj kj ((QmX _).mono (by rintro e w' ⟨v,rfl,e1,hv⟩; exact ⟨v,rfl,hv,e1⟩)) fun vv4 W2 hh4=>?_
 obtain ⟨hv4,e2⟩:=hh4
 have x2:=Ext.tr x1 e2
 obtain ⟨gd5,rfl,ld5,rd5_2⟩:=hv4
 have b5:=qT x1.size ld5
 refine sg 1 kj <| sgN hK3 <| sgC fun K6 hK6=>Qap (ints .u32 ([0,0,0,0,0,0,0,0])) 114 4 rfl kj kj fun g7 W3 l7 e3 r7_3=>?_
 have b7:=qT x2.size l7
 refine sgN hK6 <| wp_seq_k fun K8 hK8=>sgB kj <| wp_block <| wp_loop_rounds 9 ?_
 show Code.wp _ _ (Exit.then (Code.rounds _ _ _ 8) _) _ _
 refine wp_seq_k fun K10 hK10=>sgB kj <| cond_true kj <| wp_skip <| hK10 _ _ <| wp_seq_k fun K12 hK12=>wp_block <| Qaf <| sg 3 kj <| Qab (.pointer (some ⟨gd5,0,none⟩)) 31 rfl kj (Qbb 111 _ _ .i64 (0) gd5 8 8 77 rfl kj kj kj kj (by decide)) ?_
 have r5_3:=(Qac rd5_2 e3)
 refine Qab (.int .u64 (nth Qam 0)) 32 rfl kj (Qag 77 _ gd5 0 77 _ (.int .u64 (nth Qam 0)) _ r5_3 rfl kj ((Qbg _ _ _ (Nat.lt_of_lt_of_eq (by decide) (show Qam.length=8 from rfl).symm)).trans (congrArg (fun z=>some (Value.int .u64 z)) rfl)) kj) <| Qab (.int .u64 (nth Qam 0/4294967296)) 33 rfl kj (Qai (u:=.int .u64 (IntKind.u64.wrap (Int.tdiv ((nth Qam 0)) (4294967296)))) kj (congrArg (Value.int .u64) (show IntKind.u64.wrap (Int.tdiv (nth Qam 0) 4294967296)=nth Qam 0/4294967296 by decide +kernel))) <| Qab (.int .u32 (wv S0.a)) 34 rfl kj (Qai (u:=.int .u32 (IntKind.u32.wrap (nth Qam 0/4294967296))) kj (congrArg (Value.int .u32) (show IntKind.u32.wrap (nth Qam 0/4294967296)=wv S0.a by decide +kernel))) <| sg 1 kj <| Qaj g7 _ (ints .u32 ([(wv S0.a),0,0,0,0,0,0,0])) 114 r7_3 rfl kj (Qao 113 _ _ g7 0 114 _ _ r7_3 rfl kj kj kj (show 0<8 by decide)) fun W4 p4 r7_4=>Qak <| hK12 _ _ <| sgA kj ?_
 show Code.rounds _ _ _ 8 _ _
 show Code.wp _ _ (Exit.then (Code.rounds _ _ _ 7) _) _ _
 refine wp_seq_k fun K13 hK13=>sgB kj <| cond_true kj <| wp_skip <| hK13 _ _ <| wp_seq_k fun K15 hK15=>wp_block <| Qaf <| sg 3 kj <| Qab (.pointer (some ⟨gd5,1,none⟩)) 31 rfl kj (Qbb 111 _ _ .i64 (1) gd5 8 8 77 rfl kj kj kj kj (by decide)) ?_
 have r5_4:=(Puts.row p4 r5_3 (Qae rd5_2 l7))
 refine Qab (.int .u64 (nth Qam 1)) 32 rfl kj (Qag 77 _ gd5 1 77 _ (.int .u64 (nth Qam 1)) _ r5_4 rfl kj ((Qbg _ _ _ (Nat.lt_of_lt_of_eq (by decide) (show Qam.length=8 from rfl).symm)).trans (congrArg (fun z=>some (Value.int .u64 z)) rfl)) kj) <| Qab (.int .u64 (nth Qam 1/4294967296)) 33 rfl kj (Qai (u:=.int .u64 (IntKind.u64.wrap (Int.tdiv ((nth Qam 1)) (4294967296)))) kj (congrArg (Value.int .u64) (show IntKind.u64.wrap (Int.tdiv (nth Qam 1) 4294967296)=nth Qam 1/4294967296 by decide +kernel))) <| Qab (.int .u32 (wv S0.b)) 34 rfl kj (Qai (u:=.int .u32 (IntKind.u32.wrap (nth Qam 1/4294967296))) kj (congrArg (Value.int .u32) (show IntKind.u32.wrap (nth Qam 1/4294967296)=wv S0.b by decide +kernel))) <| sg 1 kj <| Qaj g7 _ (ints .u32 ([(wv S0.a),(wv S0.b),0,0,0,0,0,0])) 114 r7_4 rfl kj (Qao 113 _ _ g7 1 114 _ _ r7_4 rfl kj kj kj (show 1<8 by decide)) fun W5 p5 r7_5=>Qak <| hK15 _ _ <| sgA kj ?_
 show Code.rounds _ _ _ 7 _ _
 show Code.wp _ _ (Exit.then (Code.rounds _ _ _ 6) _) _ _
 refine wp_seq_k fun K16 hK16=>sgB kj <| cond_true kj <| wp_skip <| hK16 _ _ <| wp_seq_k fun K18 hK18=>wp_block <| Qaf <| sg 3 kj <| Qab (.pointer (some ⟨gd5,2,none⟩)) 31 rfl kj (Qbb 111 _ _ .i64 (2) gd5 8 8 77 rfl kj kj kj kj (by decide)) ?_
 have r5_5:=(Puts.row p5 r5_4 (Qae rd5_2 l7))
 refine Qab (.int .u64 (nth Qam 2)) 32 rfl kj (Qag 77 _ gd5 2 77 _ (.int .u64 (nth Qam 2)) _ r5_5 rfl kj ((Qbg _ _ _ (Nat.lt_of_lt_of_eq (by decide) (show Qam.length=8 from rfl).symm)).trans (congrArg (fun z=>some (Value.int .u64 z)) rfl)) kj) <| Qab (.int .u64 (nth Qam 2/4294967296)) 33 rfl kj (Qai (u:=.int .u64 (IntKind.u64.wrap (Int.tdiv ((nth Qam 2)) (4294967296)))) kj (congrArg (Value.int .u64) (show IntKind.u64.wrap (Int.tdiv (nth Qam 2) 4294967296)=nth Qam 2/4294967296 by decide +kernel))) <| Qab (.int .u32 (wv S0.c)) 34 rfl kj (Qai (u:=.int .u32 (IntKind.u32.wrap (nth Qam 2/4294967296))) kj (congrArg (Value.int .u32) (show IntKind.u32.wrap (nth Qam 2/4294967296)=wv S0.c by decide +kernel))) <| sg 1 kj <| Qaj g7 _ (ints .u32 ([(wv S0.a),(wv S0.b),(wv S0.c),0,0,0,0,0])) 114 r7_5 rfl kj (Qao 113 _ _ g7 2 114 _ _ r7_5 rfl kj kj kj (show 2<8 by decide)) fun W6 p6 r7_6=>Qak <| hK18 _ _ <| sgA kj ?_
 show Code.rounds _ _ _ 6 _ _
 show Code.wp _ _ (Exit.then (Code.rounds _ _ _ 5) _) _ _
 refine wp_seq_k fun K19 hK19=>sgB kj <| cond_true kj <| wp_skip <| hK19 _ _ <| wp_seq_k fun K21 hK21=>wp_block <| Qaf <| sg 3 kj <| Qab (.pointer (some ⟨gd5,3,none⟩)) 31 rfl kj (Qbb 111 _ _ .i64 (3) gd5 8 8 77 rfl kj kj kj kj (by decide)) ?_
 have r5_6:=(Puts.row p6 r5_5 (Qae rd5_2 l7))
 refine Qab (.int .u64 (nth Qam 3)) 32 rfl kj (Qag 77 _ gd5 3 77 _ (.int .u64 (nth Qam 3)) _ r5_6 rfl kj ((Qbg _ _ _ (Nat.lt_of_lt_of_eq (by decide) (show Qam.length=8 from rfl).symm)).trans (congrArg (fun z=>some (Value.int .u64 z)) rfl)) kj) <| Qab (.int .u64 (nth Qam 3/4294967296)) 33 rfl kj (Qai (u:=.int .u64 (IntKind.u64.wrap (Int.tdiv ((nth Qam 3)) (4294967296)))) kj (congrArg (Value.int .u64) (show IntKind.u64.wrap (Int.tdiv (nth Qam 3) 4294967296)=nth Qam 3/4294967296 by decide +kernel))) <| Qab (.int .u32 (wv S0.d)) 34 rfl kj (Qai (u:=.int .u32 (IntKind.u32.wrap (nth Qam 3/4294967296))) kj (congrArg (Value.int .u32) (show IntKind.u32.wrap (nth Qam 3/4294967296)=wv S0.d by decide +kernel))) <| sg 1 kj <| Qaj g7 _ (ints .u32 ([(wv S0.a),(wv S0.b),(wv S0.c),(wv S0.d),0,0,0,0])) 114 r7_6 rfl kj (Qao 113 _ _ g7 3 114 _ _ r7_6 rfl kj kj kj (show 3<8 by decide)) fun W7 p7 r7_7=>Qak <| hK21 _ _ <| sgA kj ?_
 show Code.rounds _ _ _ 5 _ _
 show Code.wp _ _ (Exit.then (Code.rounds _ _ _ 4) _) _ _
 refine wp_seq_k fun K22 hK22=>sgB kj <| cond_true kj <| wp_skip <| hK22 _ _ <| wp_seq_k fun K24 hK24=>wp_block <| Qaf <| sg 3 kj <| Qab (.pointer (some ⟨gd5,4,none⟩)) 31 rfl kj (Qbb 111 _ _ .i64 (4) gd5 8 8 77 rfl kj kj kj kj (by decide)) ?_
 have r5_7:=(Puts.row p7 r5_6 (Qae rd5_2 l7))
 refine Qab (.int .u64 (nth Qam 4)) 32 rfl kj (Qag 77 _ gd5 4 77 _ (.int .u64 (nth Qam 4)) _ r5_7 rfl kj ((Qbg _ _ _ (Nat.lt_of_lt_of_eq (by decide) (show Qam.length=8 from rfl).symm)).trans (congrArg (fun z=>some (Value.int .u64 z)) rfl)) kj) <| Qab (.int .u64 (nth Qam 4/4294967296)) 33 rfl kj (Qai (u:=.int .u64 (IntKind.u64.wrap (Int.tdiv ((nth Qam 4)) (4294967296)))) kj (congrArg (Value.int .u64) (show IntKind.u64.wrap (Int.tdiv (nth Qam 4) 4294967296)=nth Qam 4/4294967296 by decide +kernel))) <| Qab (.int .u32 (wv S0.e)) 34 rfl kj (Qai (u:=.int .u32 (IntKind.u32.wrap (nth Qam 4/4294967296))) kj (congrArg (Value.int .u32) (show IntKind.u32.wrap (nth Qam 4/4294967296)=wv S0.e by decide +kernel))) <| sg 1 kj <| Qaj g7 _ (ints .u32 ([(wv S0.a),(wv S0.b),(wv S0.c),(wv S0.d),(wv S0.e),0,0,0])) 114 r7_7 rfl kj (Qao 113 _ _ g7 4 114 _ _ r7_7 rfl kj kj kj (show 4<8 by decide)) fun W8 p8 r7_8=>Qak <| hK24 _ _ <| sgA kj ?_
 show Code.rounds _ _ _ 4 _ _
 show Code.wp _ _ (Exit.then (Code.rounds _ _ _ 3) _) _ _
 refine wp_seq_k fun K25 hK25=>sgB kj <| cond_true kj <| wp_skip <| hK25 _ _ <| wp_seq_k fun K27 hK27=>wp_block <| Qaf <| sg 3 kj <| Qab (.pointer (some ⟨gd5,5,none⟩)) 31 rfl kj (Qbb 111 _ _ .i64 (5) gd5 8 8 77 rfl kj kj kj kj (by decide)) ?_
 have r5_8:=(Puts.row p8 r5_7 (Qae rd5_2 l7))
 refine Qab (.int .u64 (nth Qam 5)) 32 rfl kj (Qag 77 _ gd5 5 77 _ (.int .u64 (nth Qam 5)) _ r5_8 rfl kj ((Qbg _ _ _ (Nat.lt_of_lt_of_eq (by decide) (show Qam.length=8 from rfl).symm)).trans (congrArg (fun z=>some (Value.int .u64 z)) rfl)) kj) <| Qab (.int .u64 (nth Qam 5/4294967296)) 33 rfl kj (Qai (u:=.int .u64 (IntKind.u64.wrap (Int.tdiv ((nth Qam 5)) (4294967296)))) kj (congrArg (Value.int .u64) (show IntKind.u64.wrap (Int.tdiv (nth Qam 5) 4294967296)=nth Qam 5/4294967296 by decide +kernel))) <| Qab (.int .u32 (wv S0.f)) 34 rfl kj (Qai (u:=.int .u32 (IntKind.u32.wrap (nth Qam 5/4294967296))) kj (congrArg (Value.int .u32) (show IntKind.u32.wrap (nth Qam 5/4294967296)=wv S0.f by decide +kernel))) <| sg 1 kj <| Qaj g7 _ (ints .u32 ([(wv S0.a),(wv S0.b),(wv S0.c),(wv S0.d),(wv S0.e),(wv S0.f),0,0])) 114 r7_8 rfl kj (Qao 113 _ _ g7 5 114 _ _ r7_8 rfl kj kj kj (show 5<8 by decide)) fun W9 p9 r7_9=>Qak <| hK27 _ _ <| sgA kj ?_
 show Code.rounds _ _ _ 3 _ _
 show Code.wp _ _ (Exit.then (Code.rounds _ _ _ 2) _) _ _
 refine wp_seq_k fun K28 hK28=>sgB kj <| cond_true kj <| wp_skip <| hK28 _ _ <| wp_seq_k fun K30 hK30=>wp_block <| Qaf <| sg 3 kj <| Qab (.pointer (some ⟨gd5,6,none⟩)) 31 rfl kj (Qbb 111 _ _ .i64 (6) gd5 8 8 77 rfl kj kj kj kj (by decide)) ?_
 have r5_9:=(Puts.row p9 r5_8 (Qae rd5_2 l7))
 refine Qab (.int .u64 (nth Qam 6)) 32 rfl kj (Qag 77 _ gd5 6 77 _ (.int .u64 (nth Qam 6)) _ r5_9 rfl kj ((Qbg _ _ _ (Nat.lt_of_lt_of_eq (by decide) (show Qam.length=8 from rfl).symm)).trans (congrArg (fun z=>some (Value.int .u64 z)) rfl)) kj) <| Qab (.int .u64 (nth Qam 6/4294967296)) 33 rfl kj (Qai (u:=.int .u64 (IntKind.u64.wrap (Int.tdiv ((nth Qam 6)) (4294967296)))) kj (congrArg (Value.int .u64) (show IntKind.u64.wrap (Int.tdiv (nth Qam 6) 4294967296)=nth Qam 6/4294967296 by decide +kernel))) <| Qab (.int .u32 (wv S0.g)) 34 rfl kj (Qai (u:=.int .u32 (IntKind.u32.wrap (nth Qam 6/4294967296))) kj (congrArg (Value.int .u32) (show IntKind.u32.wrap (nth Qam 6/4294967296)=wv S0.g by decide +kernel))) <| sg 1 kj <| Qaj g7 _ (ints .u32 ([(wv S0.a),(wv S0.b),(wv S0.c),(wv S0.d),(wv S0.e),(wv S0.f),(wv S0.g),0])) 114 r7_9 rfl kj (Qao 113 _ _ g7 6 114 _ _ r7_9 rfl kj kj kj (show 6<8 by decide)) fun W10 p10 r7_10=>Qak <| hK30 _ _ <| sgA kj ?_
 show Code.rounds _ _ _ 2 _ _
 show Code.wp _ _ (Exit.then (Code.rounds _ _ _ 1) _) _ _
 refine wp_seq_k fun K31 hK31=>sgB kj <| cond_true kj <| wp_skip <| hK31 _ _ <| wp_seq_k fun K33 hK33=>wp_block <| Qaf <| sg 3 kj <| Qab (.pointer (some ⟨gd5,7,none⟩)) 31 rfl kj (Qbb 111 _ _ .i64 (7) gd5 8 8 77 rfl kj kj kj kj (by decide)) ?_
 refine Qab (.int .u64 (nth Qam 7)) 32 rfl kj (Qag 77 _ gd5 7 77 _ (.int .u64 (nth Qam 7)) _ (Puts.row p10 r5_9 (Qae rd5_2 l7)) rfl kj ((Qbg _ _ _ (Nat.lt_of_lt_of_eq (by decide) (show Qam.length=8 from rfl).symm)).trans (congrArg (fun z=>some (Value.int .u64 z)) rfl)) kj) <| Qab (.int .u64 (nth Qam 7/4294967296)) 33 rfl kj (Qai (u:=.int .u64 (IntKind.u64.wrap (Int.tdiv ((nth Qam 7)) (4294967296)))) kj (congrArg (Value.int .u64) (show IntKind.u64.wrap (Int.tdiv (nth Qam 7) 4294967296)=nth Qam 7/4294967296 by decide +kernel))) <| Qab (.int .u32 (wv S0.h)) 34 rfl kj (Qai (u:=.int .u32 (IntKind.u32.wrap (nth Qam 7/4294967296))) kj (congrArg (Value.int .u32) (show IntKind.u32.wrap (nth Qam 7/4294967296)=wv S0.h by decide +kernel))) <| sg 1 kj <| Qaj g7 _ (ints .u32 ([(wv S0.a),(wv S0.b),(wv S0.c),(wv S0.d),(wv S0.e),(wv S0.f),(wv S0.g),(wv S0.h)])) 114 r7_10 rfl kj (Qao 113 _ _ g7 7 114 _ _ r7_10 rfl kj kj kj (show 7<8 by decide)) fun W11 p11 r7_11=>Qak <| hK33 _ _ <| sgA kj ?_
 show Code.rounds _ _ _ 1 _ _
 show Code.wp _ _ (Exit.then (Code.rounds _ _ _ 0) _) _ _
 refine wp_seq_k fun K34 hK34=>sgB kj <| cond_false kj <| wp_exit <| hK8 _ _ <| sgC fun K36 hK36=>Qa6 (fun v W'=>(OwnN .u32 113 W11.heap.size (KK.map wv)) v W'∧Ext W11 W') 63 #[] 36 rfl kj kj ((Qld _).mono (by rintro e w' ⟨v,rfl,e1,hv⟩; exact ⟨v,rfl,hv,e1⟩)) fun vv37 W12 hh37=>?_
 obtain ⟨hv37,e12⟩:=hh37
 have x12:=Ext.tr (Puts.ext p11 (Puts.ext p10 (Puts.ext p9 (Puts.ext p8 (Puts.ext p7 (Puts.ext p6 (Puts.ext p5 (Puts.ext p4 (Ext.tr x2 e3) b7) b7) b7) b7) b7) b7) b7) b7) e12
 obtain ⟨am38,cm38,rfl,-⟩:=id (OwnN.rd hv37)
 have nb38_7:(.slice am38 ((KK.map wv).length) cm38:Value).ownBlock≠some g7:=OwnN.nb hv37 (Qay r7_11)
 refine sg 1 kj <| sgN hK36 <| sgC fun K39 hK39=>sg 1 kj ?_
 have r7_12:=(Qac r7_11 e12)
 refine Qa6 (fun v W'=>(OwnN .u8 5 W12.heap.size (padT t)) v W'∧Ext W12 W') 64 #[.slice a_t t.length c_t,.int .i64 64,.int .i64 8] 38 rfl kj kj ((padC t _ _ _ hlen (RdK.ext hr x12)).mono (by rintro e w' ⟨v,rfl,e1,hv⟩; exact ⟨v,rfl,hv,e1⟩)) fun vv40 W13 hh40=>?_
 obtain ⟨hv40,e13⟩:=hh40
 obtain ⟨am41,cm41,rfl,-⟩:=id (OwnN.rd hv40)
 have nb41_7:(.slice am41 ((padT t).length) cm41:Value).ownBlock≠some g7:=OwnN.nb hv40 (Qay r7_12)
 refine sg 1 kj <| sgN hK39 <| wp_seq_k fun K42 hK42=>sgB kj <| wp_block ?_
 obtain ⟨q,hq⟩:=Qlo t
 have hPl:(padT t).length≤900000200:=by rw [padT,List.length_append,QdC]; unfold QaZ; omega
 have hPb:Qat (padT t):=QhY htb
 refine QaC (fun (s1:Nat)=>[(2,.pointer (some ⟨g2,0,none⟩)),(4,.pointer (some ⟨g7,0,none⟩)),(6,.slice am38 ((KK.map wv).length) cm38),(7,.slice am41 ((padT t).length) cm41),(8,.int .i64 ((64*s1:Nat):Int))]) (fun (s1:Nat) W=>(s1≤q)∧(W.heap[g7]? = some (.cells (ints .u32 ([wv (absorb S0 (padT t) s1).a,wv (absorb S0 (padT t) s1).b,wv (absorb S0 (padT t) s1).c,wv (absorb S0 (padT t) s1).d,wv (absorb S0 (padT t) s1).e,wv (absorb S0 (padT t) s1).f,wv (absorb S0 (padT t) s1).g,wv (absorb S0 (padT t) s1).h])) 114))∧(Qah [g7] W13 W)∧(Ext w W)) (fun (s1:Nat)=>q-s1) 0 ⟨kj,kj,kj,kj,kj,trivial⟩ ⟨(Nat.zero_le _),(Qac r7_12 e13),(Qah.refl [g7] W13),(Ext.tr x12 e13)⟩ fun s1 X1 V1 hI1=>?_
 obtain ⟨m,hs1⟩:∃ z,z=s1:=⟨_,rfl⟩
 subst hs1
 obtain ⟨hm,q7_1,kk1,xx1⟩:=hI1
 replace hm:m≤q:=hm
 replace q7_1:V1.heap[g7]? = some (.cells (ints .u32 ([wv (absorb S0 (padT t) m).a,wv (absorb S0 (padT t) m).b,wv (absorb S0 (padT t) m).c,wv (absorb S0 (padT t) m).d,wv (absorb S0 (padT t) m).e,wv (absorb S0 (padT t) m).f,wv (absorb S0 (padT t) m).g,wv (absorb S0 (padT t) m).h])) 114):=q7_1
 replace kk1:Qah [g7] W13 V1:=kk1
 replace xx1:Ext w V1:=xx1
 have q14:=kk1
 refine wp_seq_k fun K44 hK44=>sgC fun K45 hK45=>sg 3 kj <| Qab (.bool (decide (m<q))) 42 rfl kj (Qai (u:=.bool (decide (((64*m:Nat):Int)<(((padT t).length:Nat):Int)))) kj (congrArg Value.bool (by rw [hq]; exact decide_eq_decide.2 (by omega)))) ?_
 refine sgN hK45 <| Qa3 (t:=decide (m<q)) kj (fun c46=>?_) (fun c46=>?_)
 ·skip
  have hlt42:m<q:=by have:=of_decide_eq_true c46; omega
  obtain ⟨b,hb⟩:∃ z,z=((padT t).drop (64*m)).take 64:=⟨_,rfl⟩
  obtain ⟨s,hs⟩:∃ z,z=absorb S0 (padT t) m:=⟨_,rfl⟩
  have r7_14_47:V1.heap[g7]? = some (.cells (ints .u32 ([wv s.a,wv s.b,wv s.c,wv s.d,wv s.e,wv s.f,wv s.g,wv s.h])) 114):=Qbi q7_1 (by rw [hs])
  refine wp_skip <| hK44 _ _ <| wp_seq_k fun K48 hK48=>wp_block <| sgB kj <| wp_seq_k fun K50 hK50=>sgB kj <| wp_block <| QaC (fun (s2:Nat×Value)=>[(2,.pointer (some ⟨g2,0,none⟩)),(4,.pointer (some ⟨g7,0,none⟩)),(6,.slice am38 ((KK.map wv).length) cm38),(7,.slice am41 ((padT t).length) cm41),(8,.int .i64 ((64*m:Nat):Int)),(9,s2.2),(10,.int .i64 ((s2.1:Nat):Int))]) (fun (s2:Nat×Value) W=>(s2.1≤16)∧(OwnN .u32 113 V1.heap.size (((w64 b).map wv).take s2.1) s2.2 W)∧(Ext V1 W)∧(Ext w W)) (fun (s2:Nat×Value)=>16-s2.1) (0,(.slice none 0 0)) ⟨kj,kj,kj,kj,kj,kj,kj,trivial⟩ ⟨(Nat.zero_le _),(Qb7 _ _ _ _),(Rely.Ext.refl V1),xx1⟩ fun s2 X2 V2 hI2=>?_
  obtain ⟨j,u⟩:=s2
  obtain ⟨hj,hu,kk2,xx2⟩:=hI2
  replace hj:j≤16:=hj
  replace hu:OwnN .u32 113 V1.heap.size (((w64 b).map wv).take j) u V2:=hu
  replace kk2:Ext V1 V2:=kk2
  replace xx2:Ext w V2:=xx2
  have e15:=kk2
  have f53_14:=(OwnN.keepsL hv40 q14 (nb_cons nb41_7 nb_nil))
  have f54_15:=(f53_14.ext e15)
  have hnp_52:(padT t).length=64*q:=hq
  obtain ⟨gcp_52,ocp_52,hap_52,hlp_52,hcp_52⟩:=rdK_open (OwnN.rd f54_15) (by rw [hnp_52]; omega)
  refine wp_seq_k fun K55 hK55=>sgB kj <| Qa3 (t:=decide (((j:Nat):Int)<16)) kj (fun c57=>?_) (fun c57=>?_)
  ·skip
   have hlt46:j<16:=by have:=of_decide_eq_true c57; omega
   refine wp_skip <| hK55 _ _ <| wp_seq_k fun K58 hK58=>wp_block <| sgC fun K59 hK59=>sg 2 kj <| Qab (.int .i64 ((4*j:Nat):Int)) 51 rfl kj (Qai (u:=.int .i64 (IntKind.i64.wrap (4*((j:Nat):Int)))) kj (congrArg (Value.int .i64) (i64n _ _ (by omega) (by omega)))) <| Qab (.int .i64 (((64*m)+(4*j):Nat):Int)) 52 rfl kj (Qai (u:=.int .i64 (IntKind.i64.wrap (((64*m:Nat):Int)+((4*j:Nat):Int)))) kj (congrArg (Value.int .i64) (i64n _ _ (by omega) (by omega)))) <| sg 1 kj <| sgN hK59 ?_
   refine Qbe 31 [⟨none,[(9,none)]⟩,⟨none,[(7,none)]⟩,⟨none,[(11,none)]⟩,⟨none,[(54,some 1),(55,some 2)]⟩,⟨none,[(56,some 3)]⟩,⟨none,[(57,some 4)]⟩,⟨none,[(58,some 5)]⟩,⟨none,[(7,none)]⟩,⟨none,[(11,none)]⟩,⟨none,[(61,some 8)]⟩,⟨none,[(60,some 7),(62,some 9)]⟩,⟨none,[(63,some 10)]⟩,⟨none,[(64,some 11)]⟩,⟨none,[(65,some 12)]⟩,⟨none,[(59,some 6),(66,some 13)]⟩,⟨none,[(7,none)]⟩,⟨none,[(11,none)]⟩,⟨none,[(69,some 16)]⟩,⟨none,[(68,some 15),(70,some 17)]⟩,⟨none,[(71,some 18)]⟩,⟨none,[(72,some 19)]⟩,⟨none,[(73,some 20)]⟩,⟨none,[(67,some 14),(74,some 21)]⟩,⟨none,[(7,none)]⟩,⟨none,[(11,none)]⟩,⟨none,[(77,some 24)]⟩,⟨none,[(76,some 23),(78,some 25)]⟩,⟨none,[(79,some 26)]⟩,⟨none,[(80,some 27)]⟩,⟨none,[(75,some 22),(81,some 28)]⟩,⟨none,[(82,some 29)]⟩] kj kj fun F hF=>Qa7 (Qas _) (u) kj kj (fun W=>by kernel_rfl) <| Qa7 (Qas _) (.slice am41 ((padT t).length) cm41) kj kj (fun W=>by kernel_rfl) <| Qa7 (Qas _) (.int .i64 (((64*m)+(4*j):Nat):Int)) kj kj (fun W=>by kernel_rfl) <| Qa7 (Qas _) (.pointer (some ⟨gcp_52,ocp_52+((64*m)+(4*j)),none⟩)) kj kj (fun W=>(run_indexA 38 _ _ .i64 ((64*m)+(4*j)) gcp_52 ocp_52 ((padT t).length) cm41 5 am41 _ hap_52 rfl rfl kj kj kj kj (Nat.lt_of_lt_of_eq (show (64*m)+(4*j)<64*q by omega) hnp_52.symm))) <| Qbd (Qas _) (.int .u8 (nth (padT t) (((64*m)+(4*j))))) kj kj (fun W hR=>(QaH 5 _ _ (.int .u8 (nth (padT t) (((64*m)+(4*j))))) ((Below.cell (Rely.Ext.trans (Qaz _) hR) hlp_52).trans (hcp_52 ((64*m)+(4*j)) (Nat.lt_of_lt_of_eq (show (64*m)+(4*j)<64*q by omega) hnp_52.symm))) rfl kj kj)) <| Qa7 (Qas _) (.int .u32 (nth (padT t) (64*m+4*j))) kj kj (fun W=>(Qai (u:=.int .u32 (IntKind.u32.wrap (nth (padT t) (((64*m)+(4*j)))))) kj (congrArg (Value.int .u32) (u32s _ (by have:=hPb.nth (64*m+4*j); omega))))) ?_
   refine Qa7 (Qas _) (.int .u32 (nth (padT t) (64*m+4*j)*16777216)) kj kj (fun W=>(Qai (u:=.int .u32 (IntKind.u32.wrap ((nth (padT t) (64*m+4*j))*16777216))) kj (congrArg (Value.int .u32) (u32s _ (by have:=hPb.nth (64*m+4*j); omega))))) ?_
   refine Qa7 (Qas _) (.slice am41 ((padT t).length) cm41) kj kj (fun W=>by kernel_rfl) <| Qa7 (Qas _) (.int .i64 (((64*m)+(4*j):Nat):Int)) kj kj (fun W=>by kernel_rfl) <| Qa7 (Qas _) (.int .i64 ((((64*m)+(4*j))+1:Nat):Int)) kj kj (fun W=>(Qai (u:=.int .i64 (IntKind.i64.wrap ((((64*m)+(4*j):Nat):Int)+1))) kj (congrArg (Value.int .i64) (i64n _ _ (by omega) (by omega))))) <| Qa7 (Qas _) (.pointer (some ⟨gcp_52,ocp_52+(((64*m)+(4*j))+1),none⟩)) kj kj (fun W=>(run_indexA 38 _ _ .i64 (((64*m)+(4*j))+1) gcp_52 ocp_52 ((padT t).length) cm41 5 am41 _ hap_52 rfl rfl kj kj kj kj (Nat.lt_of_lt_of_eq (show ((64*m)+(4*j))+1<64*q by omega) hnp_52.symm))) <| Qbd (Qas _) (.int .u8 (nth (padT t) ((((64*m)+(4*j))+1)))) kj kj (fun W hR=>(QaH 5 _ _ (.int .u8 (nth (padT t) ((((64*m)+(4*j))+1)))) ((Below.cell (Rely.Ext.trans (Qaz _) hR) hlp_52).trans (hcp_52 (((64*m)+(4*j))+1) (Nat.lt_of_lt_of_eq (show ((64*m)+(4*j))+1<64*q by omega) hnp_52.symm))) rfl kj kj)) <| Qa7 (Qas _) (.int .u32 (nth (padT t) (64*m+4*j+1))) kj kj (fun W=>(Qai (u:=.int .u32 (IntKind.u32.wrap (nth (padT t) ((((64*m)+(4*j))+1))))) kj (congrArg (Value.int .u32) (u32s _ (by have:=hPb.nth (64*m+4*j+1); omega))))) ?_
   refine Qa7 (Qas _) (.int .u32 (nth (padT t) (64*m+4*j+1)*65536)) kj kj (fun W=>(Qai (u:=.int .u32 (IntKind.u32.wrap ((nth (padT t) (64*m+4*j+1))*65536))) kj (congrArg (Value.int .u32) (u32s _ (by have:=hPb.nth (64*m+4*j+1); omega))))) ?_
   refine Qa7 (Qas _) (.int .u32 (nth (padT t) (64*m+4*j)*16777216+nth (padT t) (64*m+4*j+1)*65536)) kj kj (fun W=>(Qai (u:=.int .u32 (IntKind.u32.wrap ((nth (padT t) (64*m+4*j)*16777216)+(nth (padT t) (64*m+4*j+1)*65536)))) kj (congrArg (Value.int .u32) (u32s _ (by have:=hPb.nth (64*m+4*j); have:=hPb.nth (64*m+4*j+1); omega))))) ?_
   refine Qa7 (Qas _) (.slice am41 ((padT t).length) cm41) kj kj (fun W=>by kernel_rfl) <| Qa7 (Qas _) (.int .i64 (((64*m)+(4*j):Nat):Int)) kj kj (fun W=>by kernel_rfl) <| Qa7 (Qas _) (.int .i64 ((((64*m)+(4*j))+2:Nat):Int)) kj kj (fun W=>(Qai (u:=.int .i64 (IntKind.i64.wrap ((((64*m)+(4*j):Nat):Int)+2))) kj (congrArg (Value.int .i64) (i64n _ _ (by omega) (by omega))))) <| Qa7 (Qas _) (.pointer (some ⟨gcp_52,ocp_52+(((64*m)+(4*j))+2),none⟩)) kj kj (fun W=>(run_indexA 38 _ _ .i64 (((64*m)+(4*j))+2) gcp_52 ocp_52 ((padT t).length) cm41 5 am41 _ hap_52 rfl rfl kj kj kj kj (Nat.lt_of_lt_of_eq (show ((64*m)+(4*j))+2<64*q by omega) hnp_52.symm))) <| Qbd (Qas _) (.int .u8 (nth (padT t) ((((64*m)+(4*j))+2)))) kj kj (fun W hR=>(QaH 5 _ _ (.int .u8 (nth (padT t) ((((64*m)+(4*j))+2)))) ((Below.cell (Rely.Ext.trans (Qaz _) hR) hlp_52).trans (hcp_52 (((64*m)+(4*j))+2) (Nat.lt_of_lt_of_eq (show ((64*m)+(4*j))+2<64*q by omega) hnp_52.symm))) rfl kj kj)) <| Qa7 (Qas _) (.int .u32 (nth (padT t) (64*m+4*j+2))) kj kj (fun W=>(Qai (u:=.int .u32 (IntKind.u32.wrap (nth (padT t) ((((64*m)+(4*j))+2))))) kj (congrArg (Value.int .u32) (u32s _ (by have:=hPb.nth (64*m+4*j+2); omega))))) ?_
   refine Qa7 (Qas _) (.int .u32 (nth (padT t) (64*m+4*j+2)*256)) kj kj (fun W=>(Qai (u:=.int .u32 (IntKind.u32.wrap ((nth (padT t) (64*m+4*j+2))*256))) kj (congrArg (Value.int .u32) (u32s _ (by have:=hPb.nth (64*m+4*j+2); omega))))) ?_
   refine Qa7 (Qas _) (.int .u32 (nth (padT t) (64*m+4*j)*16777216+nth (padT t) (64*m+4*j+1)*65536+nth (padT t) (64*m+4*j+2)*256)) kj kj (fun W=>(Qai (u:=.int .u32 (IntKind.u32.wrap ((nth (padT t) (64*m+4*j)*16777216+nth (padT t) (64*m+4*j+1)*65536)+(nth (padT t) (64*m+4*j+2)*256)))) kj (congrArg (Value.int .u32) (u32s _ (by have:=hPb.nth (64*m+4*j); have:=hPb.nth (64*m+4*j+1); have:=hPb.nth (64*m+4*j+2); omega))))) ?_
   refine Qa7 (Qas _) (.slice am41 ((padT t).length) cm41) kj kj (fun W=>by kernel_rfl) <| Qa7 (Qas _) (.int .i64 (((64*m)+(4*j):Nat):Int)) kj kj (fun W=>by kernel_rfl) <| Qa7 (Qas _) (.int .i64 ((((64*m)+(4*j))+3:Nat):Int)) kj kj (fun W=>(Qai (u:=.int .i64 (IntKind.i64.wrap ((((64*m)+(4*j):Nat):Int)+3))) kj (congrArg (Value.int .i64) (i64n _ _ (by omega) (by omega))))) <| Qa7 (Qas _) (.pointer (some ⟨gcp_52,ocp_52+(((64*m)+(4*j))+3),none⟩)) kj kj (fun W=>(run_indexA 38 _ _ .i64 (((64*m)+(4*j))+3) gcp_52 ocp_52 ((padT t).length) cm41 5 am41 _ hap_52 rfl rfl kj kj kj kj (Nat.lt_of_lt_of_eq (show ((64*m)+(4*j))+3<64*q by omega) hnp_52.symm))) <| Qbd (Qas _) (.int .u8 (nth (padT t) ((((64*m)+(4*j))+3)))) kj kj (fun W hR=>(QaH 5 _ _ (.int .u8 (nth (padT t) ((((64*m)+(4*j))+3)))) ((Below.cell (Rely.Ext.trans (Qaz _) hR) hlp_52).trans (hcp_52 (((64*m)+(4*j))+3) (Nat.lt_of_lt_of_eq (show ((64*m)+(4*j))+3<64*q by omega) hnp_52.symm))) rfl kj kj)) <| Qa7 (Qas _) (.int .u32 (nth (padT t) (64*m+4*j+3))) kj kj (fun W=>(Qai (u:=.int .u32 (IntKind.u32.wrap (nth (padT t) ((((64*m)+(4*j))+3))))) kj (congrArg (Value.int .u32) (u32s _ (by have:=hPb.nth (64*m+4*j+3); omega))))) ?_
   refine Qa7 (Qas _) (.int .u32 (wv (wget (w64 b) j))) kj kj (fun W=>(Qai (u:=.int .u32 (IntKind.u32.wrap ((nth (padT t) (64*m+4*j)*16777216+nth (padT t) (64*m+4*j+1)*65536+nth (padT t) (64*m+4*j+2)*256)+(nth (padT t) (64*m+4*j+3))))) kj (congrArg (Value.int .u32) (QmY hPb hb hlt46)))) <| QkP (Qas _) (ints .u32 ([(wv (wget (w64 b) j))])) 113 1 (NewS.stable _ _ _ _) kj kj (fun W=>by kernel_rfl) <| Qdk (hF _ fun W16 e16=>?_)
   simp only [List.nil_append,List.cons_append,List.take_succ_cons,List.take_zero,List.drop_succ_cons,List.drop_zero,finE,up]
   intro vv60 hv60
   clear hF
   have x16:=Ext.tr xx2 e16
   obtain ⟨g60,rfl,l60,r60_16⟩:=hv60
   have b60:=qT xx2.size l60
   have y14_16:=(Rely.Ext.trans e15 e16)
   refine QaM (k:=.u32) (T:=113) (xs:=((w64 b).map wv).take j) (ys:=[(wv (wget (w64 b) j))]) (V:=V1) 4 (.tmp 53) (.tmp 83) 115 rfl kj kj (by decide) 84 rfl kj kj kj (hu.ext e16) (QaU (xs:=[(wv (wget (w64 b) j))]) (n:=1) rfl r60_16 (Qay r60_16) (show 1≤maxLen from by decide)) (by rw [Qet _ (QbZ b) (by omega)]; show _+1≤_; omega) y14_16 fun z1 W17 f62 y17 l17=>?_
   have x17:=Ext.low x16 l17 xx1.size
   refine sg 1 kj <| Qak <| hK58 _ _ <| Qaf <| sg 1 kj <| Qab (.int .i64 ((j+1:Nat):Int)) 48 rfl kj (Qai (u:=.int .i64 (IntKind.i64.wrap (((j:Nat):Int)+1))) kj (congrArg (Value.int .i64) (i64n _ _ (by omega) (by omega)))) <| sg 1 kj <| Qak ?_
   repeat (first | with_reducible refine goX1 ?_ | with_reducible refine goX2 ?_ | with_reducible refine goX3 ?_)
   exact Qa4 ((j+1),z1) ⟨kj,kj,kj,kj,kj,kj,kj,trivial⟩ ⟨(by omega),(by rw [Qk3 _ (QbZ b) (by omega)]; exact f62),y17,x17⟩ (by show 16-(j+1)<16-j; omega)
  ·skip
   have heq46:j=16:=by have:=of_decide_eq_false c57; omega
   subst heq46
   refine wp_exit <| hK50 _ _ <| wp_seq_k fun K64 hK64=>sgB kj <| wp_block <| QaC (fun (s3:Nat×Value)=>[(2,.pointer (some ⟨g2,0,none⟩)),(4,.pointer (some ⟨g7,0,none⟩)),(6,.slice am38 ((KK.map wv).length) cm38),(7,.slice am41 ((padT t).length) cm41),(8,.int .i64 ((64*m:Nat):Int)),(9,s3.2),(12,.int .i64 ((s3.1:Nat):Int))]) (fun (s3:Nat×Value) W=>(16≤s3.1)∧(s3.1≤64)∧(OwnN .u32 113 V1.heap.size (((w64 b).map wv).take s3.1) s3.2 W)∧(Below V1.heap.size V2 W)∧(Ext w W)) (fun (s3:Nat×Value)=>64-s3.1) (16,u) ⟨kj,kj,kj,kj,kj,kj,kj,trivial⟩ ⟨(qR _),(show (16:Nat)≤64 by decide),hu,(RowKit.Below.refl _ V2),xx2⟩ fun s3 X3 V3 hI3=>?_
   obtain ⟨i,u⟩:=s3
   obtain ⟨h16,hi,hu,kk3,xx3⟩:=hI3
   replace h16:16≤i:=h16
   replace hi:i≤64:=hi
   replace hu:OwnN .u32 113 V1.heap.size (((w64 b).map wv).take i) u V3:=hu
   replace kk3:Below V1.heap.size V2 V3:=kk3
   replace xx3:Ext w V3:=xx3
   have l16:=kk3
   obtain ⟨a9,c9,rfl,-⟩:=id (OwnN.rd hu)
   have hnw_66:(((w64 b).map wv).take i).length=i:=(Qet _ (QbZ b) hi)
   obtain ⟨gcw_66,ocw_66,haw_66,hlw_66,hcw_66⟩:=rdK_open (OwnN.rd hu) (by rw [hnw_66]; omega)
   refine wp_seq_k fun K67 hK67=>sgB kj <| Qa3 (t:=decide (((i:Nat):Int)<64)) kj (fun c69=>?_) (fun c69=>?_)
   ·skip
    have hlt86:i<64:=by have:=of_decide_eq_true c69; omega
    refine wp_skip <| hK67 _ _ <| wp_seq_k fun K70 hK70=>wp_block <| sgC fun K71 hK71=>sg 2 kj <| Qab (.int .i64 ((i-15:Nat):Int)) 91 rfl kj (Qai (u:=.int .i64 (IntKind.i64.wrap (((i:Nat):Int)-15))) kj (congrArg (Value.int .i64) (i64n _ _ (by omega) (by omega)))) <| Qab (.pointer (some ⟨gcw_66,ocw_66+(i-15),none⟩)) 92 rfl kj (run_indexA 115 _ _ .i64 (i-15) gcw_66 ocw_66 ((((w64 b).map wv).take i).length) c9 113 a9 _ haw_66 rfl rfl kj kj kj kj (Nat.lt_of_lt_of_eq (show i-15<i by omega) hnw_66.symm)) <| Qab (.int .u32 (wv (wget (w64 b) (i-15)))) 93 rfl kj (QaH 113 _ _ (.int .u32 (wv (wget (w64 b) (i-15)))) ((hcw_66 (i-15) (Nat.lt_of_lt_of_eq (show i-15<i by omega) hnw_66.symm)).trans (congrArg (fun z=>some (Value.int .u32 z)) (QdB (w64 b) i (i-15) (by omega)))) rfl kj kj) <| sg 1 kj ?_
    refine sgN hK71 <| sgC fun K72 hK72=>sg 2 kj <| Qab (.int .i64 ((i-2:Nat):Int)) 96 rfl kj (Qai (u:=.int .i64 (IntKind.i64.wrap (((i:Nat):Int)-2))) kj (congrArg (Value.int .i64) (i64n _ _ (by omega) (by omega)))) <| Qab (.pointer (some ⟨gcw_66,ocw_66+(i-2),none⟩)) 97 rfl kj (run_indexA 115 _ _ .i64 (i-2) gcw_66 ocw_66 ((((w64 b).map wv).take i).length) c9 113 a9 _ haw_66 rfl rfl kj kj kj kj (Nat.lt_of_lt_of_eq (show i-2<i by omega) hnw_66.symm)) <| Qab (.int .u32 (wv (wget (w64 b) (i-2)))) 98 rfl kj (QaH 113 _ _ (.int .u32 (wv (wget (w64 b) (i-2)))) ((hcw_66 (i-2) (Nat.lt_of_lt_of_eq (show i-2<i by omega) hnw_66.symm)).trans (congrArg (fun z=>some (Value.int .u32 z)) (QdB (w64 b) i (i-2) (by omega)))) rfl kj kj) <| sg 1 kj <| sgN hK72 <| Qbe 31 [⟨none,[(9,none)]⟩,⟨none,[(14,none)]⟩,⟨none,[(100,some 1)]⟩,⟨none,[(14,none)]⟩,⟨none,[(102,some 3)]⟩,⟨none,[(101,some 2),(103,some 4)]⟩,⟨none,[(14,none)]⟩,⟨none,[(105,some 6)]⟩,⟨none,[(104,some 5),(106,some 7)]⟩,⟨none,[(9,none)]⟩,⟨none,[(12,none)]⟩,⟨none,[(109,some 10)]⟩,⟨none,[(108,some 9),(110,some 11)]⟩,⟨none,[(111,some 12)]⟩,⟨none,[(107,some 8),(112,some 13)]⟩,⟨none,[(13,none)]⟩,⟨none,[(114,some 15)]⟩,⟨none,[(13,none)]⟩,⟨none,[(116,some 17)]⟩,⟨none,[(115,some 16),(117,some 18)]⟩,⟨none,[(13,none)]⟩,⟨none,[(119,some 20)]⟩,⟨none,[(118,some 19),(120,some 21)]⟩,⟨none,[(113,some 14),(121,some 22)]⟩,⟨none,[(9,none)]⟩,⟨none,[(12,none)]⟩,⟨none,[(124,some 25)]⟩,⟨none,[(123,some 24),(125,some 26)]⟩,⟨none,[(126,some 27)]⟩,⟨none,[(122,some 23),(127,some 28)]⟩,⟨none,[(128,some 29)]⟩] kj kj fun F hF=>Qa7 (Qas _) (.slice a9 ((((w64 b).map wv).take i).length) c9) kj kj (fun W=>by kernel_rfl) ?_
    refine Qa7 (Qas _) (.int .u32 (wv (wget (w64 b) (i-2)))) kj kj (fun W=>by kernel_rfl) <| Qd1 (Qas _) (.int .u32 (wv (rr (wget (w64 b) (i-2)) 17))) 65 #[.int .u32 (wv (wget (w64 b) (i-2))),.int .u64 17] kj kj (fun W=>by kernel_rfl) (fun W hR=>(Qfc (wget (w64 b) (i-2)) 17 (17) (by decide) (by decide) (by decide)) W) <| Qa7 (Qas _) (.int .u32 (wv (wget (w64 b) (i-2)))) kj kj (fun W=>by kernel_rfl) <| Qd1 (Qas _) (.int .u32 (wv (rr (wget (w64 b) (i-2)) 19))) 65 #[.int .u32 (wv (wget (w64 b) (i-2))),.int .u64 19] kj kj (fun W=>by kernel_rfl) (fun W hR=>(Qfc (wget (w64 b) (i-2)) 19 (19) (by decide) (by decide) (by decide)) W) <| Qa7 (Qas _) (.int .u32 (wv (((rr (wget (w64 b) (i-2)) 17))^^^((rr (wget (w64 b) (i-2)) 19))))) kj kj (fun W=>(Qai kj (congrArg (Value.int .u32) (w_xor _ _)))) <| Qa7 (Qas _) (.int .u32 (wv (wget (w64 b) (i-2)))) kj kj (fun W=>by kernel_rfl) <| Qa7 (Qas _) (.int .u32 (wv (((wget (w64 b) (i-2)))>>>10))) kj kj (fun W=>(Qa1 .shr _ _ _ _ .u32 .u64 _ _ _ rfl kj kj (QaQ _ _ _ _ _ _ (by decide) (Qba _ _ 10 rfl (by decide))))) <| Qa7 (Qas _) (.int .u32 (wv (((((rr (wget (w64 b) (i-2)) 17))^^^((rr (wget (w64 b) (i-2)) 19))))^^^((((wget (w64 b) (i-2)))>>>10))))) kj kj (fun W=>(Qai kj (congrArg (Value.int .u32) (w_xor _ _)))) <| Qa7 (Qas _) (.slice a9 ((((w64 b).map wv).take i).length) c9) kj kj (fun W=>by kernel_rfl) <| Qa7 (Qas _) (.int .i64 ((i:Nat):Int)) kj kj (fun W=>by kernel_rfl) ?_
    refine Qa7 (Qas _) (.int .i64 ((i-7:Nat):Int)) kj kj (fun W=>(Qai (u:=.int .i64 (IntKind.i64.wrap (((i:Nat):Int)-7))) kj (congrArg (Value.int .i64) (i64n _ _ (by omega) (by omega))))) <| Qa7 (Qas _) (.pointer (some ⟨gcw_66,ocw_66+(i-7),none⟩)) kj kj (fun W=>(run_indexA 115 _ _ .i64 (i-7) gcw_66 ocw_66 ((((w64 b).map wv).take i).length) c9 113 a9 _ haw_66 rfl rfl kj kj kj kj (Nat.lt_of_lt_of_eq (show i-7<i by omega) hnw_66.symm))) <| Qbd (Qas _) (.int .u32 (wv (wget (w64 b) (i-7)))) kj kj (fun W hR=>(QaH 113 _ _ (.int .u32 (wv (wget (w64 b) (i-7)))) (((Below.cell (Rely.Ext.trans (Qaz _) hR) hlw_66).trans (hcw_66 (i-7) (Nat.lt_of_lt_of_eq (show i-7<i by omega) hnw_66.symm))).trans (congrArg (fun z=>some (Value.int .u32 z)) (QdB (w64 b) i (i-7) (by omega)))) rfl kj kj)) <| Qa7 (Qas _) (.int .u32 (wv (((((((rr (wget (w64 b) (i-2)) 17))^^^((rr (wget (w64 b) (i-2)) 19))))^^^((((wget (w64 b) (i-2)))>>>10))))+((wget (w64 b) (i-7)))))) kj kj (fun W=>(Qai kj (congrArg (Value.int .u32) (Qb5 _ _)))) <| Qa7 (Qas _) (.int .u32 (wv (wget (w64 b) (i-15)))) kj kj (fun W=>by kernel_rfl) <| Qd1 (Qas _) (.int .u32 (wv (rr (wget (w64 b) (i-15)) 7))) 65 #[.int .u32 (wv (wget (w64 b) (i-15))),.int .u64 7] kj kj (fun W=>by kernel_rfl) (fun W hR=>(Qfc (wget (w64 b) (i-15)) 7 (7) (by decide) (by decide) (by decide)) W) <| Qa7 (Qas _) (.int .u32 (wv (wget (w64 b) (i-15)))) kj kj (fun W=>by kernel_rfl) <| Qd1 (Qas _) (.int .u32 (wv (rr (wget (w64 b) (i-15)) 18))) 65 #[.int .u32 (wv (wget (w64 b) (i-15))),.int .u64 18] kj kj (fun W=>by kernel_rfl) (fun W hR=>(Qfc (wget (w64 b) (i-15)) 18 (18) (by decide) (by decide) (by decide)) W) <| Qa7 (Qas _) (.int .u32 (wv (((rr (wget (w64 b) (i-15)) 7))^^^((rr (wget (w64 b) (i-15)) 18))))) kj kj (fun W=>(Qai kj (congrArg (Value.int .u32) (w_xor _ _)))) <| Qa7 (Qas _) (.int .u32 (wv (wget (w64 b) (i-15)))) kj kj (fun W=>by kernel_rfl) ?_
    refine Qa7 (Qas _) (.int .u32 (wv (((wget (w64 b) (i-15)))>>>3))) kj kj (fun W=>(Qa1 .shr _ _ _ _ .u32 .u64 _ _ _ rfl kj kj (QaQ _ _ _ _ _ _ (by decide) (Qba _ _ 3 rfl (by decide))))) <| Qa7 (Qas _) (.int .u32 (wv (((((rr (wget (w64 b) (i-15)) 7))^^^((rr (wget (w64 b) (i-15)) 18))))^^^((((wget (w64 b) (i-15)))>>>3))))) kj kj (fun W=>(Qai kj (congrArg (Value.int .u32) (w_xor _ _)))) <| Qa7 (Qas _) (.int .u32 (wv (((((((((rr (wget (w64 b) (i-2)) 17))^^^((rr (wget (w64 b) (i-2)) 19))))^^^((((wget (w64 b) (i-2)))>>>10))))+((wget (w64 b) (i-7)))))+((((((rr (wget (w64 b) (i-15)) 7))^^^((rr (wget (w64 b) (i-15)) 18))))^^^((((wget (w64 b) (i-15)))>>>3))))))) kj kj (fun W=>(Qai kj (congrArg (Value.int .u32) (Qb5 _ _)))) <| Qa7 (Qas _) (.slice a9 ((((w64 b).map wv).take i).length) c9) kj kj (fun W=>by kernel_rfl) <| Qa7 (Qas _) (.int .i64 ((i:Nat):Int)) kj kj (fun W=>by kernel_rfl) <| Qa7 (Qas _) (.int .i64 ((i-16:Nat):Int)) kj kj (fun W=>(Qai (u:=.int .i64 (IntKind.i64.wrap (((i:Nat):Int)-16))) kj (congrArg (Value.int .i64) (i64n _ _ (by omega) (by omega))))) <| Qa7 (Qas _) (.pointer (some ⟨gcw_66,ocw_66+(i-16),none⟩)) kj kj (fun W=>(run_indexA 115 _ _ .i64 (i-16) gcw_66 ocw_66 ((((w64 b).map wv).take i).length) c9 113 a9 _ haw_66 rfl rfl kj kj kj kj (Nat.lt_of_lt_of_eq (show i-16<i by omega) hnw_66.symm))) <| Qbd (Qas _) (.int .u32 (wv (wget (w64 b) (i-16)))) kj kj (fun W hR=>(QaH 113 _ _ (.int .u32 (wv (wget (w64 b) (i-16)))) (((Below.cell (Rely.Ext.trans (Qaz _) hR) hlw_66).trans (hcw_66 (i-16) (Nat.lt_of_lt_of_eq (show i-16<i by omega) hnw_66.symm))).trans (congrArg (fun z=>some (Value.int .u32 z)) (QdB (w64 b) i (i-16) (by omega)))) rfl kj kj)) <| Qa7 (Qas _) (.int .u32 (wv (((((((((((rr (wget (w64 b) (i-2)) 17))^^^((rr (wget (w64 b) (i-2)) 19))))^^^((((wget (w64 b) (i-2)))>>>10))))+((wget (w64 b) (i-7)))))+((((((rr (wget (w64 b) (i-15)) 7))^^^((rr (wget (w64 b) (i-15)) 18))))^^^((((wget (w64 b) (i-15)))>>>3))))))+((wget (w64 b) (i-16)))))) kj kj (fun W=>(Qai kj (congrArg (Value.int .u32) (Qb5 _ _)))) <| QkP (Qas _) (ints .u32 ([(wv (((((((((((rr (wget (w64 b) (i-2)) 17))^^^((rr (wget (w64 b) (i-2)) 19))))^^^((((wget (w64 b) (i-2)))>>>10))))+((wget (w64 b) (i-7)))))+((((((rr (wget (w64 b) (i-15)) 7))^^^((rr (wget (w64 b) (i-15)) 18))))^^^((((wget (w64 b) (i-15)))>>>3))))))+((wget (w64 b) (i-16)))))])) 113 1 (NewS.stable _ _ _ _) kj kj (fun W=>by kernel_rfl) ?_
    refine Qdk (hF _ fun W17 e17=>?_)
    simp only [List.nil_append,List.cons_append,List.take_succ_cons,List.take_zero,List.drop_succ_cons,List.drop_zero,finE,up]
    intro vv73 hv73
    clear hF
    have x17:=Ext.tr xx3 e17
    obtain ⟨g73,rfl,l73,r73_17⟩:=hv73
    have b73:=qT xx3.size l73
    have y14_16:=(Ext.low e15 l16 (Rely.Ext.refl V1).size)
    refine QaM (k:=.u32) (T:=113) (xs:=((w64 b).map wv).take i) (ys:=[(wv (((((((((((rr (wget (w64 b) (i-2)) 17))^^^((rr (wget (w64 b) (i-2)) 19))))^^^((((wget (w64 b) (i-2)))>>>10))))+((wget (w64 b) (i-7)))))+((((((rr (wget (w64 b) (i-15)) 7))^^^((rr (wget (w64 b) (i-15)) 18))))^^^((((wget (w64 b) (i-15)))>>>3))))))+((wget (w64 b) (i-16)))))]) (V:=V1) 4 (.tmp 99) (.tmp 129) 115 rfl kj kj (by decide) 130 rfl kj kj kj (hu.ext e17) (QaU (xs:=[(wv (((((((((((rr (wget (w64 b) (i-2)) 17))^^^((rr (wget (w64 b) (i-2)) 19))))^^^((((wget (w64 b) (i-2)))>>>10))))+((wget (w64 b) (i-7)))))+((((((rr (wget (w64 b) (i-15)) 7))^^^((rr (wget (w64 b) (i-15)) 18))))^^^((((wget (w64 b) (i-15)))>>>3))))))+((wget (w64 b) (i-16)))))]) (n:=1) rfl r73_17 (Qay r73_17) (show 1≤maxLen from by decide)) (by rw [Qet _ (QbZ b) (by omega)]; show _+1≤_; omega) (Rely.Ext.trans y14_16 e17) fun z2 W18 f75 y18 l18=>?_
    have x18:=Ext.low x17 l18 xx1.size
    refine sg 1 kj <| Qak <| hK70 _ _ <| Qaf <| sg 1 kj <| Qab (.int .i64 ((i+1:Nat):Int)) 88 rfl kj (Qai (u:=.int .i64 (IntKind.i64.wrap (((i:Nat):Int)+1))) kj (congrArg (Value.int .i64) (i64n _ _ (by omega) (by omega)))) <| sg 1 kj <| Qak ?_
    repeat (first | with_reducible refine goX1 ?_ | with_reducible refine goX2 ?_ | with_reducible refine goX3 ?_)
    exact Qa4 ((i+1),z2) ⟨kj,kj,kj,kj,kj,kj,kj,trivial⟩ ⟨(by omega),(by omega),(by rw [Qk3 _ (QbZ b) (by omega),Qhb b i h16 hlt86]; exact f75),(RowKit.Below.trans (RowKit.Below.trans l16 (RowKit.Below.mono e17 y14_16.size)) l18),x18⟩ (by show 64-(i+1)<64-i; omega)
   ·skip
    have heq86:i=64:=by have:=of_decide_eq_false c69; omega
    subst heq86
    have nb9_4:(.slice a9 ((((w64 b).map wv).take 64).length) c9:Value).ownBlock≠some g7:=OwnN.nb hu (Qay r7_14_47)
    refine wp_exit <| hK64 _ _ <| sgC fun K77 hK77=>?_
    have f79_14:=(OwnN.keepsL (hv37.ext e13) q14 (nb_cons nb38_7 nb_nil))
    have f81_16:=(OwnN.low (n:=0) (f79_14.ext e15) f79_14 l16)
    have r7_15:=(Qac r7_14_47 e15)
    have r7_16:=(QaS l16 r7_15 (Qay r7_14_47))
    refine Qab (.agg (ints .u32 ([wv s.a,wv s.b,wv s.c,wv s.d,wv s.e,wv s.f,wv s.g,wv s.h]))) 131 rfl kj (Qaq 114 _ g7 114 _ _ r7_16 rfl kj kj (isz (n:=8) kj kj)) <| Qap (ints .u32 ([0,0,0,0,0,0,0,0])) 114 15 rfl kj kj fun g83 W17 l83 e17 r83_17=>?_
    have x17:=Ext.tr xx3 e17
    have b83:=qT xx3.size l83
    refine Qaj g83 _ (ints .u32 ([wv s.a,wv s.b,wv s.c,wv s.d,wv s.e,wv s.f,wv s.g,wv s.h])) 114 r83_17 rfl kj (Qal 114 _ _ g83 114 _ _ r83_17 rfl kj kj (isz (n:=8) kj kj) (eqsz (n:=8) kj kj) (Qau _ _)) fun W18 p18 r83_18=>?_
    have x18:=Puts.ext p18 x17 b83
    refine sgN hK77 <| wp_seq_k fun K84 hK84=>sgB kj <| wp_block ?_
    have nb6_15:(.slice am38 ((KK.map wv).length) cm38:Value).ownBlock≠some g83:=fun e=>by have h1:=OwnN.lt f81_16 e; have h2:=l83; omega
    have nb7_15:(.slice am41 ((padT t).length) cm41:Value).ownBlock≠some g83:=fun e=>by have h1:=OwnN.lt (OwnN.low (n:=0) f54_15 f53_14 l16) e; have h2:=l83; omega
    have nb9_15:(.slice a9 ((((w64 b).map wv).take 64).length) c9:Value).ownBlock≠some g83:=fun e=>by have h1:=OwnN.lt hu e; have h2:=l83; omega
    refine QaC (fun (s4:Nat)=>[(2,.pointer (some ⟨g2,0,none⟩)),(4,.pointer (some ⟨g7,0,none⟩)),(6,.slice am38 ((KK.map wv).length) cm38),(7,.slice am41 ((padT t).length) cm41),(8,.int .i64 ((64*m:Nat):Int)),(9,.slice a9 ((((w64 b).map wv).take 64).length) c9),(15,.pointer (some ⟨g83,0,none⟩)),(16,.int .i64 ((s4:Nat):Int))]) (fun (s4:Nat) W=>(s4≤64)∧(W.heap[g83]? = some (.cells (ints .u32 ([wv (rnds KK (w64 b) s s4).a,wv (rnds KK (w64 b) s s4).b,wv (rnds KK (w64 b) s s4).c,wv (rnds KK (w64 b) s s4).d,wv (rnds KK (w64 b) s s4).e,wv (rnds KK (w64 b) s s4).f,wv (rnds KK (w64 b) s s4).g,wv (rnds KK (w64 b) s s4).h])) 114))∧(Qah [g83] W18 W)∧(Ext w W)) (fun (s4:Nat)=>64-s4) 0 ⟨kj,kj,kj,kj,kj,kj,kj,kj,trivial⟩ ⟨(Nat.zero_le _),r83_18,(Qah.refl [g83] W18),x18⟩ fun s4 X4 V4 hI4=>?_
    obtain ⟨i,hs4⟩:∃ z,z=s4:=⟨_,rfl⟩
    subst hs4
    obtain ⟨hi,q83_4,kk4,xx4⟩:=hI4
    replace hi:i≤64:=hi
    replace q83_4:V4.heap[g83]? = some (.cells (ints .u32 ([wv (rnds KK (w64 b) s i).a,wv (rnds KK (w64 b) s i).b,wv (rnds KK (w64 b) s i).c,wv (rnds KK (w64 b) s i).d,wv (rnds KK (w64 b) s i).e,wv (rnds KK (w64 b) s i).f,wv (rnds KK (w64 b) s i).g,wv (rnds KK (w64 b) s i).h])) 114):=q83_4
    replace kk4:Qah [g83] W18 V4:=kk4
    replace xx4:Ext w V4:=xx4
    have q19:=kk4
    have hnk_86:(KK.map wv).length=64:=(List.length_map ..)
    obtain ⟨gck_86,ock_86,hak_86,hlk_86,hck_86⟩:=rdK_open (OwnN.rd (OwnN.keepsL ((f81_16.ext e17).puts p18 nb6_15) q19 (nb_cons nb6_15 nb_nil))) (by rw [hnk_86]; omega)
    have hnw_90:(((w64 b).map wv).take 64).length=64:=(Qet _ (QbZ b) (qR _))
    obtain ⟨gcw_90,ocw_90,haw_90,hlw_90,hcw_90⟩:=rdK_open (OwnN.rd (OwnN.keepsL ((hu.ext e17).puts p18 nb9_15) q19 (nb_cons nb9_15 nb_nil))) (by rw [hnw_90]; omega)
    refine wp_seq_k fun K94 hK94=>sgB kj <| Qa3 (t:=decide (((i:Nat):Int)<64)) kj (fun c96=>?_) (fun c96=>?_)
    ·skip
     have hlt133:i<64:=by have:=of_decide_eq_true c96; omega
     refine wp_skip <| hK94 _ _ <| wp_seq_k fun K97 hK97=>wp_block <| wp_seq_k fun K98 hK98=>Qbe 36 [⟨none,[(15,none)]⟩,⟨none,[(136,some 0)]⟩,⟨none,[(15,none)]⟩,⟨none,[(138,some 2)]⟩,⟨none,[(139,some 3)]⟩,⟨none,[(15,none)]⟩,⟨none,[(141,some 5)]⟩,⟨none,[(142,some 6)]⟩,⟨none,[(140,some 4),(143,some 7)]⟩,⟨none,[(15,none)]⟩,⟨none,[(145,some 9)]⟩,⟨none,[(146,some 10)]⟩,⟨none,[(144,some 8),(147,some 11)]⟩,⟨none,[(137,some 1),(148,some 12)]⟩,⟨none,[(15,none)]⟩,⟨none,[(150,some 14)]⟩,⟨none,[(15,none)]⟩,⟨none,[(152,some 16)]⟩,⟨none,[(151,some 15),(153,some 17)]⟩,⟨none,[(15,none)]⟩,⟨none,[(155,some 19)]⟩,⟨none,[(156,some 20)]⟩,⟨none,[(15,none)]⟩,⟨none,[(158,some 22)]⟩,⟨none,[(157,some 21),(159,some 23)]⟩,⟨none,[(154,some 18),(160,some 24)]⟩,⟨none,[(149,some 13),(161,some 25)]⟩,⟨none,[(6,none)]⟩,⟨none,[(16,none)]⟩,⟨none,[(163,some 27),(164,some 28)]⟩,⟨none,[(165,some 29)]⟩,⟨none,[(162,some 26),(166,some 30)]⟩,⟨none,[(9,none)]⟩,⟨none,[(16,none)]⟩,⟨none,[(168,some 32),(169,some 33)]⟩,⟨none,[(170,some 34)]⟩] kj kj fun F hF=>Qa7 (Qas _) (.pointer (some ⟨g83,7,none⟩)) kj kj (fun W=>by kernel_rfl) <| Qbd (Qas _) (.int .u32 (wv (rnds KK (w64 b) s i).h)) kj kj (fun W hR=>(Qag 113 _ g83 7 114 _ (.int .u32 (wv (rnds KK (w64 b) s i).h)) _ (Qac (Qac q83_4 (Qaz _)) hR) rfl kj kj kj)) <| Qa7 (Qas _) (.pointer (some ⟨g83,4,none⟩)) kj kj (fun W=>by kernel_rfl) <| Qbd (Qas _) (.int .u32 (wv (rnds KK (w64 b) s i).e)) kj kj (fun W hR=>(Qag 113 _ g83 4 114 _ (.int .u32 (wv (rnds KK (w64 b) s i).e)) _ (Qac (Qac q83_4 (Qaz _)) hR) rfl kj kj kj)) ?_
     refine Qd1 (Qas _) (.int .u32 (wv (rr ((rnds KK (w64 b) s i).e) 6))) 65 #[.int .u32 (wv (rnds KK (w64 b) s i).e),.int .u64 6] kj kj (fun W=>by kernel_rfl) (fun W hR=>(Qfc ((rnds KK (w64 b) s i).e) 6 (6) (by decide) (by decide) (by decide)) W) <| Qa7 (Qas _) (.pointer (some ⟨g83,4,none⟩)) kj kj (fun W=>by kernel_rfl) <| Qbd (Qas _) (.int .u32 (wv (rnds KK (w64 b) s i).e)) kj kj (fun W hR=>(Qag 113 _ g83 4 114 _ (.int .u32 (wv (rnds KK (w64 b) s i).e)) _ (Qac (Qac q83_4 (Qaz _)) hR) rfl kj kj kj)) <| Qd1 (Qas _) (.int .u32 (wv (rr ((rnds KK (w64 b) s i).e) 11))) 65 #[.int .u32 (wv (rnds KK (w64 b) s i).e),.int .u64 11] kj kj (fun W=>by kernel_rfl) (fun W hR=>(Qfc ((rnds KK (w64 b) s i).e) 11 (11) (by decide) (by decide) (by decide)) W) <| Qa7 (Qas _) (.int .u32 (wv (((rr ((rnds KK (w64 b) s i).e) 6))^^^((rr ((rnds KK (w64 b) s i).e) 11))))) kj kj (fun W=>(Qai kj (congrArg (Value.int .u32) (w_xor _ _)))) <| Qa7 (Qas _) (.pointer (some ⟨g83,4,none⟩)) kj kj (fun W=>by kernel_rfl) <| Qbd (Qas _) (.int .u32 (wv (rnds KK (w64 b) s i).e)) kj kj (fun W hR=>(Qag 113 _ g83 4 114 _ (.int .u32 (wv (rnds KK (w64 b) s i).e)) _ (Qac (Qac q83_4 (Qaz _)) hR) rfl kj kj kj)) <| Qd1 (Qas _) (.int .u32 (wv (rr ((rnds KK (w64 b) s i).e) 25))) 65 #[.int .u32 (wv (rnds KK (w64 b) s i).e),.int .u64 25] kj kj (fun W=>by kernel_rfl) (fun W hR=>(Qfc ((rnds KK (w64 b) s i).e) 25 (25) (by decide) (by decide) (by decide)) W) <| Qa7 (Qas _) (.int .u32 (wv (((((rr ((rnds KK (w64 b) s i).e) 6))^^^((rr ((rnds KK (w64 b) s i).e) 11))))^^^((rr ((rnds KK (w64 b) s i).e) 25))))) kj kj (fun W=>(Qai kj (congrArg (Value.int .u32) (w_xor _ _)))) <| Qa7 (Qas _) (.int .u32 (wv (((rnds KK (w64 b) s i).h)+((((((rr ((rnds KK (w64 b) s i).e) 6))^^^((rr ((rnds KK (w64 b) s i).e) 11))))^^^((rr ((rnds KK (w64 b) s i).e) 25))))))) kj kj (fun W=>(Qai kj (congrArg (Value.int .u32) (Qb5 _ _)))) ?_
     refine Qa7 (Qas _) (.pointer (some ⟨g83,4,none⟩)) kj kj (fun W=>by kernel_rfl) <| Qbd (Qas _) (.int .u32 (wv (rnds KK (w64 b) s i).e)) kj kj (fun W hR=>(Qag 113 _ g83 4 114 _ (.int .u32 (wv (rnds KK (w64 b) s i).e)) _ (Qac (Qac q83_4 (Qaz _)) hR) rfl kj kj kj)) <| Qa7 (Qas _) (.pointer (some ⟨g83,5,none⟩)) kj kj (fun W=>by kernel_rfl) <| Qbd (Qas _) (.int .u32 (wv (rnds KK (w64 b) s i).f)) kj kj (fun W hR=>(Qag 113 _ g83 5 114 _ (.int .u32 (wv (rnds KK (w64 b) s i).f)) _ (Qac (Qac q83_4 (Qaz _)) hR) rfl kj kj kj)) <| Qa7 (Qas _) (.int .u32 (wv (((rnds KK (w64 b) s i).e)&&&((rnds KK (w64 b) s i).f)))) kj kj (fun W=>(Qai kj (congrArg (Value.int .u32) (Qfb _ _)))) <| Qa7 (Qas _) (.pointer (some ⟨g83,4,none⟩)) kj kj (fun W=>by kernel_rfl) <| Qbd (Qas _) (.int .u32 (wv (rnds KK (w64 b) s i).e)) kj kj (fun W hR=>(Qag 113 _ g83 4 114 _ (.int .u32 (wv (rnds KK (w64 b) s i).e)) _ (Qac (Qac q83_4 (Qaz _)) hR) rfl kj kj kj)) <| Qa7 (Qas _) (.int .u32 (wv (~~~((rnds KK (w64 b) s i).e)))) kj kj (fun W=>(Qai kj (congrArg (Value.int .u32) (Qng _)))) <| Qa7 (Qas _) (.pointer (some ⟨g83,6,none⟩)) kj kj (fun W=>by kernel_rfl) <| Qbd (Qas _) (.int .u32 (wv (rnds KK (w64 b) s i).g)) kj kj (fun W hR=>(Qag 113 _ g83 6 114 _ (.int .u32 (wv (rnds KK (w64 b) s i).g)) _ (Qac (Qac q83_4 (Qaz _)) hR) rfl kj kj kj)) ?_
     refine Qa7 (Qas _) (.int .u32 (wv (((~~~((rnds KK (w64 b) s i).e)))&&&((rnds KK (w64 b) s i).g)))) kj kj (fun W=>(Qai kj (congrArg (Value.int .u32) (Qfb _ _)))) <| Qa7 (Qas _) (.int .u32 (wv (((((rnds KK (w64 b) s i).e)&&&((rnds KK (w64 b) s i).f)))^^^((((~~~((rnds KK (w64 b) s i).e)))&&&((rnds KK (w64 b) s i).g)))))) kj kj (fun W=>(Qai kj (congrArg (Value.int .u32) (w_xor _ _)))) <| Qa7 (Qas _) (.int .u32 (wv (((((rnds KK (w64 b) s i).h)+((((((rr ((rnds KK (w64 b) s i).e) 6))^^^((rr ((rnds KK (w64 b) s i).e) 11))))^^^((rr ((rnds KK (w64 b) s i).e) 25))))))+((((((rnds KK (w64 b) s i).e)&&&((rnds KK (w64 b) s i).f)))^^^((((~~~((rnds KK (w64 b) s i).e)))&&&((rnds KK (w64 b) s i).g)))))))) kj kj (fun W=>(Qai kj (congrArg (Value.int .u32) (Qb5 _ _)))) <| Qa7 (Qas _) (.slice am38 ((KK.map wv).length) cm38) kj kj (fun W=>by kernel_rfl) <| Qa7 (Qas _) (.int .i64 ((i:Nat):Int)) kj kj (fun W=>by kernel_rfl) <| Qa7 (Qas _) (.pointer (some ⟨gck_86,ock_86+i,none⟩)) kj kj (fun W=>(run_indexA 115 _ _ .i64 i gck_86 ock_86 ((KK.map wv).length) cm38 113 am38 _ hak_86 rfl rfl kj kj kj kj (Nat.lt_of_lt_of_eq (show i<64 by omega) hnk_86.symm))) <| Qbd (Qas _) (.int .u32 (wv (wget KK i))) kj kj (fun W hR=>(QaH 113 _ _ (.int .u32 (wv (wget KK i))) (((Below.cell (Rely.Ext.trans (Qaz _) hR) hlk_86).trans (hck_86 i (Nat.lt_of_lt_of_eq (show i<64 by omega) hnk_86.symm))).trans (congrArg (fun z=>some (Value.int .u32 z)) (QcP _ _))) rfl kj kj)) <| Qa7 (Qas _) (.int .u32 (wv (((((((rnds KK (w64 b) s i).h)+((((((rr ((rnds KK (w64 b) s i).e) 6))^^^((rr ((rnds KK (w64 b) s i).e) 11))))^^^((rr ((rnds KK (w64 b) s i).e) 25))))))+((((((rnds KK (w64 b) s i).e)&&&((rnds KK (w64 b) s i).f)))^^^((((~~~((rnds KK (w64 b) s i).e)))&&&((rnds KK (w64 b) s i).g)))))))+((wget KK i))))) kj kj (fun W=>(Qai kj (congrArg (Value.int .u32) (Qb5 _ _)))) <| Qa7 (Qas _) (.slice a9 ((((w64 b).map wv).take 64).length) c9) kj kj (fun W=>by kernel_rfl) <| Qa7 (Qas _) (.int .i64 ((i:Nat):Int)) kj kj (fun W=>by kernel_rfl) ?_
     refine Qa7 (Qas _) (.pointer (some ⟨gcw_90,ocw_90+i,none⟩)) kj kj (fun W=>(run_indexA 115 _ _ .i64 i gcw_90 ocw_90 ((((w64 b).map wv).take 64).length) c9 113 a9 _ haw_90 rfl rfl kj kj kj kj (Nat.lt_of_lt_of_eq (show i<64 by omega) hnw_90.symm))) <| Qbd (Qas _) (.int .u32 (wv (wget (w64 b) i))) kj kj (fun W hR=>(QaH 113 _ _ (.int .u32 (wv (wget (w64 b) i))) (((Below.cell (Rely.Ext.trans (Qaz _) hR) hlw_90).trans (hcw_90 i (Nat.lt_of_lt_of_eq (show i<64 by omega) hnw_90.symm))).trans (congrArg (fun z=>some (Value.int .u32 z)) (QdB (w64 b) 64 i hlt133))) rfl kj kj)) <| Qdk (hF _ fun W20 e20=>?_)
     simp only [List.nil_append,List.cons_append,List.take_succ_cons,List.take_zero,List.drop_succ_cons,List.drop_zero,finE,up]
     clear hF
     have x20:=Ext.tr xx4 e20
     refine Qab (.int .u32 (wv (((((((((rnds KK (w64 b) s i).h)+((((((rr ((rnds KK (w64 b) s i).e) 6))^^^((rr ((rnds KK (w64 b) s i).e) 11))))^^^((rr ((rnds KK (w64 b) s i).e) 25))))))+((((((rnds KK (w64 b) s i).e)&&&((rnds KK (w64 b) s i).f)))^^^((((~~~((rnds KK (w64 b) s i).e)))&&&((rnds KK (w64 b) s i).g)))))))+((wget KK i))))+((wget (w64 b) i))))) 172 rfl kj (Qai kj (congrArg (Value.int .u32) (Qb5 _ _))) <| sg 1 kj <| sgN hK98 <| wp_seq_k fun K99 hK99=>Qbe 28 [⟨none,[(15,none)]⟩,⟨none,[(173,some 0)]⟩,⟨none,[(174,some 1)]⟩,⟨none,[(15,none)]⟩,⟨none,[(176,some 3)]⟩,⟨none,[(177,some 4)]⟩,⟨none,[(175,some 2),(178,some 5)]⟩,⟨none,[(15,none)]⟩,⟨none,[(180,some 7)]⟩,⟨none,[(181,some 8)]⟩,⟨none,[(179,some 6),(182,some 9)]⟩,⟨none,[(15,none)]⟩,⟨none,[(184,some 11)]⟩,⟨none,[(15,none)]⟩,⟨none,[(186,some 13)]⟩,⟨none,[(185,some 12),(187,some 14)]⟩,⟨none,[(15,none)]⟩,⟨none,[(189,some 16)]⟩,⟨none,[(15,none)]⟩,⟨none,[(191,some 18)]⟩,⟨none,[(190,some 17),(192,some 19)]⟩,⟨none,[(188,some 15),(193,some 20)]⟩,⟨none,[(15,none)]⟩,⟨none,[(195,some 22)]⟩,⟨none,[(15,none)]⟩,⟨none,[(197,some 24)]⟩,⟨none,[(196,some 23),(198,some 25)]⟩,⟨none,[(194,some 21),(199,some 26)]⟩] kj kj fun F hF=>Qa7 (Qas _) (.pointer (some ⟨g83,0,none⟩)) kj kj (fun W=>by kernel_rfl) ?_
     have r83_20:=(Qac q83_4 e20)
     refine Qbd (Qas _) (.int .u32 (wv (rnds KK (w64 b) s i).a)) kj kj (fun W hR=>(Qag 113 _ g83 0 114 _ (.int .u32 (wv (rnds KK (w64 b) s i).a)) _ (Qac (Qac r83_20 (Qaz _)) hR) rfl kj kj kj)) <| Qd1 (Qas _) (.int .u32 (wv (rr ((rnds KK (w64 b) s i).a) 2))) 65 #[.int .u32 (wv (rnds KK (w64 b) s i).a),.int .u64 2] kj kj (fun W=>by kernel_rfl) (fun W hR=>(Qfc ((rnds KK (w64 b) s i).a) 2 (2) (by decide) (by decide) (by decide)) W) <| Qa7 (Qas _) (.pointer (some ⟨g83,0,none⟩)) kj kj (fun W=>by kernel_rfl) <| Qbd (Qas _) (.int .u32 (wv (rnds KK (w64 b) s i).a)) kj kj (fun W hR=>(Qag 113 _ g83 0 114 _ (.int .u32 (wv (rnds KK (w64 b) s i).a)) _ (Qac (Qac r83_20 (Qaz _)) hR) rfl kj kj kj)) <| Qd1 (Qas _) (.int .u32 (wv (rr ((rnds KK (w64 b) s i).a) 13))) 65 #[.int .u32 (wv (rnds KK (w64 b) s i).a),.int .u64 13] kj kj (fun W=>by kernel_rfl) (fun W hR=>(Qfc ((rnds KK (w64 b) s i).a) 13 (13) (by decide) (by decide) (by decide)) W) <| Qa7 (Qas _) (.int .u32 (wv (((rr ((rnds KK (w64 b) s i).a) 2))^^^((rr ((rnds KK (w64 b) s i).a) 13))))) kj kj (fun W=>(Qai kj (congrArg (Value.int .u32) (w_xor _ _)))) <| Qa7 (Qas _) (.pointer (some ⟨g83,0,none⟩)) kj kj (fun W=>by kernel_rfl) <| Qbd (Qas _) (.int .u32 (wv (rnds KK (w64 b) s i).a)) kj kj (fun W hR=>(Qag 113 _ g83 0 114 _ (.int .u32 (wv (rnds KK (w64 b) s i).a)) _ (Qac (Qac r83_20 (Qaz _)) hR) rfl kj kj kj)) <| Qd1 (Qas _) (.int .u32 (wv (rr ((rnds KK (w64 b) s i).a) 22))) 65 #[.int .u32 (wv (rnds KK (w64 b) s i).a),.int .u64 22] kj kj (fun W=>by kernel_rfl) (fun W hR=>(Qfc ((rnds KK (w64 b) s i).a) 22 (22) (by decide) (by decide) (by decide)) W) <| Qa7 (Qas _) (.int .u32 (wv (((((rr ((rnds KK (w64 b) s i).a) 2))^^^((rr ((rnds KK (w64 b) s i).a) 13))))^^^((rr ((rnds KK (w64 b) s i).a) 22))))) kj kj (fun W=>(Qai kj (congrArg (Value.int .u32) (w_xor _ _)))) ?_
     refine Qa7 (Qas _) (.pointer (some ⟨g83,0,none⟩)) kj kj (fun W=>by kernel_rfl) <| Qbd (Qas _) (.int .u32 (wv (rnds KK (w64 b) s i).a)) kj kj (fun W hR=>(Qag 113 _ g83 0 114 _ (.int .u32 (wv (rnds KK (w64 b) s i).a)) _ (Qac (Qac r83_20 (Qaz _)) hR) rfl kj kj kj)) <| Qa7 (Qas _) (.pointer (some ⟨g83,1,none⟩)) kj kj (fun W=>by kernel_rfl) <| Qbd (Qas _) (.int .u32 (wv (rnds KK (w64 b) s i).b)) kj kj (fun W hR=>(Qag 113 _ g83 1 114 _ (.int .u32 (wv (rnds KK (w64 b) s i).b)) _ (Qac (Qac r83_20 (Qaz _)) hR) rfl kj kj kj)) <| Qa7 (Qas _) (.int .u32 (wv (((rnds KK (w64 b) s i).a)&&&((rnds KK (w64 b) s i).b)))) kj kj (fun W=>(Qai kj (congrArg (Value.int .u32) (Qfb _ _)))) <| Qa7 (Qas _) (.pointer (some ⟨g83,0,none⟩)) kj kj (fun W=>by kernel_rfl) <| Qbd (Qas _) (.int .u32 (wv (rnds KK (w64 b) s i).a)) kj kj (fun W hR=>(Qag 113 _ g83 0 114 _ (.int .u32 (wv (rnds KK (w64 b) s i).a)) _ (Qac (Qac r83_20 (Qaz _)) hR) rfl kj kj kj)) <| Qa7 (Qas _) (.pointer (some ⟨g83,2,none⟩)) kj kj (fun W=>by kernel_rfl) <| Qbd (Qas _) (.int .u32 (wv (rnds KK (w64 b) s i).c)) kj kj (fun W hR=>(Qag 113 _ g83 2 114 _ (.int .u32 (wv (rnds KK (w64 b) s i).c)) _ (Qac (Qac r83_20 (Qaz _)) hR) rfl kj kj kj)) <| Qa7 (Qas _) (.int .u32 (wv (((rnds KK (w64 b) s i).a)&&&((rnds KK (w64 b) s i).c)))) kj kj (fun W=>(Qai kj (congrArg (Value.int .u32) (Qfb _ _)))) ?_
     refine Qa7 (Qas _) (.int .u32 (wv (((((rnds KK (w64 b) s i).a)&&&((rnds KK (w64 b) s i).b)))^^^((((rnds KK (w64 b) s i).a)&&&((rnds KK (w64 b) s i).c)))))) kj kj (fun W=>(Qai kj (congrArg (Value.int .u32) (w_xor _ _)))) <| Qa7 (Qas _) (.pointer (some ⟨g83,1,none⟩)) kj kj (fun W=>by kernel_rfl) <| Qbd (Qas _) (.int .u32 (wv (rnds KK (w64 b) s i).b)) kj kj (fun W hR=>(Qag 113 _ g83 1 114 _ (.int .u32 (wv (rnds KK (w64 b) s i).b)) _ (Qac (Qac r83_20 (Qaz _)) hR) rfl kj kj kj)) <| Qa7 (Qas _) (.pointer (some ⟨g83,2,none⟩)) kj kj (fun W=>by kernel_rfl) <| Qbd (Qas _) (.int .u32 (wv (rnds KK (w64 b) s i).c)) kj kj (fun W hR=>(Qag 113 _ g83 2 114 _ (.int .u32 (wv (rnds KK (w64 b) s i).c)) _ (Qac (Qac r83_20 (Qaz _)) hR) rfl kj kj kj)) <| Qa7 (Qas _) (.int .u32 (wv (((rnds KK (w64 b) s i).b)&&&((rnds KK (w64 b) s i).c)))) kj kj (fun W=>(Qai kj (congrArg (Value.int .u32) (Qfb _ _)))) <| Qa7 (Qas _) (.int .u32 (wv (((((((rnds KK (w64 b) s i).a)&&&((rnds KK (w64 b) s i).b)))^^^((((rnds KK (w64 b) s i).a)&&&((rnds KK (w64 b) s i).c)))))^^^((((rnds KK (w64 b) s i).b)&&&((rnds KK (w64 b) s i).c)))))) kj kj (fun W=>(Qai kj (congrArg (Value.int .u32) (w_xor _ _)))) <| Qdk (hF _ fun W21 e21=>?_)
     simp only [List.nil_append,List.cons_append,List.take_succ_cons,List.take_zero,List.drop_succ_cons,List.drop_zero,finE,up]
     clear hF
     have x21:=Ext.tr x20 e21
     refine Qab (.int .u32 (wv (((((((rr ((rnds KK (w64 b) s i).a) 2))^^^((rr ((rnds KK (w64 b) s i).a) 13))))^^^((rr ((rnds KK (w64 b) s i).a) 22))))+((((((((rnds KK (w64 b) s i).a)&&&((rnds KK (w64 b) s i).b)))^^^((((rnds KK (w64 b) s i).a)&&&((rnds KK (w64 b) s i).c)))))^^^((((rnds KK (w64 b) s i).b)&&&((rnds KK (w64 b) s i).c)))))))) 201 rfl kj (Qai kj (congrArg (Value.int .u32) (Qb5 _ _))) <| sg 1 kj <| sgN hK99 <| wp_seq_k fun K100 hK100=>sgB kj <| wp_block <| wp_loop_rounds 9 ?_
     show Code.wp _ _ (Exit.then (Code.rounds _ _ _ 8) _) _ _
     refine wp_seq_k fun K102 hK102=>sgB kj <| cond_true kj <| wp_skip <| hK102 _ _ <| wp_seq_k fun K104 hK104=>wp_block <| Qaf <| sg 4 kj ?_
     have r83_21:=(Qac r83_20 e21)
     refine Qab (.int .u32 (wv (rnds KK (w64 b) s i).g)) 210 rfl kj (Qag 113 _ g83 6 114 _ (.int .u32 (wv (rnds KK (w64 b) s i).g)) _ r83_21 rfl kj kj kj) <| sg 1 kj <| Qaj g83 _ (ints .u32 ([wv (rnds KK (w64 b) s i).a,wv (rnds KK (w64 b) s i).b,wv (rnds KK (w64 b) s i).c,wv (rnds KK (w64 b) s i).d,wv (rnds KK (w64 b) s i).e,wv (rnds KK (w64 b) s i).f,wv (rnds KK (w64 b) s i).g,(wv (rnds KK (w64 b) s i).g)])) 114 r83_21 rfl kj (Qao 113 _ _ g83 7 114 _ _ r83_21 rfl kj kj kj (show 7<8 by decide)) fun W22 p22 r83_22=>?_
     have x22:=Puts.ext p22 x21 b83
     refine Qak <| hK104 _ _ <| sgA kj ?_
     show Code.rounds _ _ _ 8 _ _
     show Code.wp _ _ (Exit.then (Code.rounds _ _ _ 7) _) _ _
     refine wp_seq_k fun K105 hK105=>sgB kj <| cond_true kj <| wp_skip <| hK105 _ _ <| wp_seq_k fun K107 hK107=>wp_block <| Qaf <| sg 4 kj <| Qab (.int .u32 (wv (rnds KK (w64 b) s i).f)) 210 rfl kj (Qag 113 _ g83 5 114 _ (.int .u32 (wv (rnds KK (w64 b) s i).f)) _ r83_22 rfl kj kj kj) ?_
     refine sg 1 kj <| Qaj g83 _ (ints .u32 ([wv (rnds KK (w64 b) s i).a,wv (rnds KK (w64 b) s i).b,wv (rnds KK (w64 b) s i).c,wv (rnds KK (w64 b) s i).d,wv (rnds KK (w64 b) s i).e,wv (rnds KK (w64 b) s i).f,(wv (rnds KK (w64 b) s i).f),(wv (rnds KK (w64 b) s i).g)])) 114 r83_22 rfl kj (Qao 113 _ _ g83 6 114 _ _ r83_22 rfl kj kj kj (show 6<8 by decide)) fun W23 p23 r83_23=>?_
     have x23:=Puts.ext p23 x22 b83
     refine Qak <| hK107 _ _ <| sgA kj ?_
     show Code.rounds _ _ _ 7 _ _
     show Code.wp _ _ (Exit.then (Code.rounds _ _ _ 6) _) _ _
     refine wp_seq_k fun K108 hK108=>sgB kj <| cond_true kj <| wp_skip <| hK108 _ _ <| wp_seq_k fun K110 hK110=>wp_block <| Qaf <| sg 4 kj <| Qab (.int .u32 (wv (rnds KK (w64 b) s i).e)) 210 rfl kj (Qag 113 _ g83 4 114 _ (.int .u32 (wv (rnds KK (w64 b) s i).e)) _ r83_23 rfl kj kj kj) ?_
     refine sg 1 kj <| Qaj g83 _ (ints .u32 ([wv (rnds KK (w64 b) s i).a,wv (rnds KK (w64 b) s i).b,wv (rnds KK (w64 b) s i).c,wv (rnds KK (w64 b) s i).d,wv (rnds KK (w64 b) s i).e,(wv (rnds KK (w64 b) s i).e),(wv (rnds KK (w64 b) s i).f),(wv (rnds KK (w64 b) s i).g)])) 114 r83_23 rfl kj (Qao 113 _ _ g83 5 114 _ _ r83_23 rfl kj kj kj (show 5<8 by decide)) fun W24 p24 r83_24=>?_
     have x24:=Puts.ext p24 x23 b83
     refine Qak <| hK110 _ _ <| sgA kj ?_
     show Code.rounds _ _ _ 6 _ _
     show Code.wp _ _ (Exit.then (Code.rounds _ _ _ 5) _) _ _
     refine wp_seq_k fun K111 hK111=>sgB kj <| cond_true kj <| wp_skip <| hK111 _ _ <| wp_seq_k fun K113 hK113=>wp_block <| Qaf <| sg 4 kj <| Qab (.int .u32 (wv (rnds KK (w64 b) s i).d)) 210 rfl kj (Qag 113 _ g83 3 114 _ (.int .u32 (wv (rnds KK (w64 b) s i).d)) _ r83_24 rfl kj kj kj) ?_
     refine sg 1 kj <| Qaj g83 _ (ints .u32 ([wv (rnds KK (w64 b) s i).a,wv (rnds KK (w64 b) s i).b,wv (rnds KK (w64 b) s i).c,wv (rnds KK (w64 b) s i).d,(wv (rnds KK (w64 b) s i).d),(wv (rnds KK (w64 b) s i).e),(wv (rnds KK (w64 b) s i).f),(wv (rnds KK (w64 b) s i).g)])) 114 r83_24 rfl kj (Qao 113 _ _ g83 4 114 _ _ r83_24 rfl kj kj kj (show 4<8 by decide)) fun W25 p25 r83_25=>?_
     have x25:=Puts.ext p25 x24 b83
     refine Qak <| hK113 _ _ <| sgA kj ?_
     show Code.rounds _ _ _ 5 _ _
     show Code.wp _ _ (Exit.then (Code.rounds _ _ _ 4) _) _ _
     refine wp_seq_k fun K114 hK114=>sgB kj <| cond_true kj <| wp_skip <| hK114 _ _ <| wp_seq_k fun K116 hK116=>wp_block <| Qaf <| sg 4 kj <| Qab (.int .u32 (wv (rnds KK (w64 b) s i).c)) 210 rfl kj (Qag 113 _ g83 2 114 _ (.int .u32 (wv (rnds KK (w64 b) s i).c)) _ r83_25 rfl kj kj kj) ?_
     refine sg 1 kj <| Qaj g83 _ (ints .u32 ([wv (rnds KK (w64 b) s i).a,wv (rnds KK (w64 b) s i).b,wv (rnds KK (w64 b) s i).c,(wv (rnds KK (w64 b) s i).c),(wv (rnds KK (w64 b) s i).d),(wv (rnds KK (w64 b) s i).e),(wv (rnds KK (w64 b) s i).f),(wv (rnds KK (w64 b) s i).g)])) 114 r83_25 rfl kj (Qao 113 _ _ g83 3 114 _ _ r83_25 rfl kj kj kj (show 3<8 by decide)) fun W26 p26 r83_26=>?_
     have x26:=Puts.ext p26 x25 b83
     refine Qak <| hK116 _ _ <| sgA kj ?_
     show Code.rounds _ _ _ 4 _ _
     show Code.wp _ _ (Exit.then (Code.rounds _ _ _ 3) _) _ _
     refine wp_seq_k fun K117 hK117=>sgB kj <| cond_true kj <| wp_skip <| hK117 _ _ <| wp_seq_k fun K119 hK119=>wp_block <| Qaf <| sg 4 kj <| Qab (.int .u32 (wv (rnds KK (w64 b) s i).b)) 210 rfl kj (Qag 113 _ g83 1 114 _ (.int .u32 (wv (rnds KK (w64 b) s i).b)) _ r83_26 rfl kj kj kj) ?_
     refine sg 1 kj <| Qaj g83 _ (ints .u32 ([wv (rnds KK (w64 b) s i).a,wv (rnds KK (w64 b) s i).b,(wv (rnds KK (w64 b) s i).b),(wv (rnds KK (w64 b) s i).c),(wv (rnds KK (w64 b) s i).d),(wv (rnds KK (w64 b) s i).e),(wv (rnds KK (w64 b) s i).f),(wv (rnds KK (w64 b) s i).g)])) 114 r83_26 rfl kj (Qao 113 _ _ g83 2 114 _ _ r83_26 rfl kj kj kj (show 2<8 by decide)) fun W27 p27 r83_27=>?_
     have x27:=Puts.ext p27 x26 b83
     refine Qak <| hK119 _ _ <| sgA kj ?_
     show Code.rounds _ _ _ 3 _ _
     show Code.wp _ _ (Exit.then (Code.rounds _ _ _ 2) _) _ _
     refine wp_seq_k fun K120 hK120=>sgB kj <| cond_true kj <| wp_skip <| hK120 _ _ <| wp_seq_k fun K122 hK122=>wp_block <| Qaf <| sg 4 kj <| Qab (.int .u32 (wv (rnds KK (w64 b) s i).a)) 210 rfl kj (Qag 113 _ g83 0 114 _ (.int .u32 (wv (rnds KK (w64 b) s i).a)) _ r83_27 rfl kj kj kj) ?_
     refine sg 1 kj <| Qaj g83 _ (ints .u32 ([wv (rnds KK (w64 b) s i).a,(wv (rnds KK (w64 b) s i).a),(wv (rnds KK (w64 b) s i).b),(wv (rnds KK (w64 b) s i).c),(wv (rnds KK (w64 b) s i).d),(wv (rnds KK (w64 b) s i).e),(wv (rnds KK (w64 b) s i).f),(wv (rnds KK (w64 b) s i).g)])) 114 r83_27 rfl kj (Qao 113 _ _ g83 1 114 _ _ r83_27 rfl kj kj kj (show 1<8 by decide)) fun W28 p28 r83_28=>?_
     have x28:=Puts.ext p28 x27 b83
     refine Qak <| hK122 _ _ <| sgA kj ?_
     show Code.rounds _ _ _ 2 _ _
     show Code.wp _ _ (Exit.then (Code.rounds _ _ _ 1) _) _ _
     refine wp_seq_k fun K123 hK123=>sgB kj <| cond_false kj <| wp_exit <| hK100 _ _ <| sgC fun K125 hK125=>sg 1 kj <| Qab (.int .u32 (wv (rnds KK (w64 b) s i).d)) 213 rfl kj (Qag 113 _ g83 4 114 _ (.int .u32 (wv (rnds KK (w64 b) s i).d)) _ r83_28 rfl kj kj kj) <| sg 1 kj <| Qab (.int .u32 (wv (((rnds KK (w64 b) s i).d)+((((((((((rnds KK (w64 b) s i).h)+((((((rr ((rnds KK (w64 b) s i).e) 6))^^^((rr ((rnds KK (w64 b) s i).e) 11))))^^^((rr ((rnds KK (w64 b) s i).e) 25))))))+((((((rnds KK (w64 b) s i).e)&&&((rnds KK (w64 b) s i).f)))^^^((((~~~((rnds KK (w64 b) s i).e)))&&&((rnds KK (w64 b) s i).g)))))))+((wget KK i))))+((wget (w64 b) i))))))) 215 rfl kj (Qai kj (congrArg (Value.int .u32) (Qb5 _ _))) ?_
     refine sg 1 kj <| Qaj g83 _ (ints .u32 ([wv (rnds KK (w64 b) s i).a,(wv (rnds KK (w64 b) s i).a),(wv (rnds KK (w64 b) s i).b),(wv (rnds KK (w64 b) s i).c),(wv (((rnds KK (w64 b) s i).d)+((((((((((rnds KK (w64 b) s i).h)+((((((rr ((rnds KK (w64 b) s i).e) 6))^^^((rr ((rnds KK (w64 b) s i).e) 11))))^^^((rr ((rnds KK (w64 b) s i).e) 25))))))+((((((rnds KK (w64 b) s i).e)&&&((rnds KK (w64 b) s i).f)))^^^((((~~~((rnds KK (w64 b) s i).e)))&&&((rnds KK (w64 b) s i).g)))))))+((wget KK i))))+((wget (w64 b) i)))))),(wv (rnds KK (w64 b) s i).e),(wv (rnds KK (w64 b) s i).f),(wv (rnds KK (w64 b) s i).g)])) 114 r83_28 rfl kj (Qao 113 _ _ g83 4 114 _ _ r83_28 rfl kj kj kj (show 4<8 by decide)) fun W29 p29 r83_29=>?_
     have x29:=Puts.ext p29 x28 b83
     refine sgN hK125 <| Qaf <| sg 2 kj <| Qab (.int .u32 (wv (((((((((((rnds KK (w64 b) s i).h)+((((((rr ((rnds KK (w64 b) s i).e) 6))^^^((rr ((rnds KK (w64 b) s i).e) 11))))^^^((rr ((rnds KK (w64 b) s i).e) 25))))))+((((((rnds KK (w64 b) s i).e)&&&((rnds KK (w64 b) s i).f)))^^^((((~~~((rnds KK (w64 b) s i).e)))&&&((rnds KK (w64 b) s i).g)))))))+((wget KK i))))+((wget (w64 b) i))))+((((((((rr ((rnds KK (w64 b) s i).a) 2))^^^((rr ((rnds KK (w64 b) s i).a) 13))))^^^((rr ((rnds KK (w64 b) s i).a) 22))))+((((((((rnds KK (w64 b) s i).a)&&&((rnds KK (w64 b) s i).b)))^^^((((rnds KK (w64 b) s i).a)&&&((rnds KK (w64 b) s i).c)))))^^^((((rnds KK (w64 b) s i).b)&&&((rnds KK (w64 b) s i).c)))))))))) 219 rfl kj (Qai kj (congrArg (Value.int .u32) (Qb5 _ _))) <| sg 1 kj <| Qaj g83 _ (ints .u32 ([(wv (((((((((((rnds KK (w64 b) s i).h)+((((((rr ((rnds KK (w64 b) s i).e) 6))^^^((rr ((rnds KK (w64 b) s i).e) 11))))^^^((rr ((rnds KK (w64 b) s i).e) 25))))))+((((((rnds KK (w64 b) s i).e)&&&((rnds KK (w64 b) s i).f)))^^^((((~~~((rnds KK (w64 b) s i).e)))&&&((rnds KK (w64 b) s i).g)))))))+((wget KK i))))+((wget (w64 b) i))))+((((((((rr ((rnds KK (w64 b) s i).a) 2))^^^((rr ((rnds KK (w64 b) s i).a) 13))))^^^((rr ((rnds KK (w64 b) s i).a) 22))))+((((((((rnds KK (w64 b) s i).a)&&&((rnds KK (w64 b) s i).b)))^^^((((rnds KK (w64 b) s i).a)&&&((rnds KK (w64 b) s i).c)))))^^^((((rnds KK (w64 b) s i).b)&&&((rnds KK (w64 b) s i).c))))))))),(wv (rnds KK (w64 b) s i).a),(wv (rnds KK (w64 b) s i).b),(wv (rnds KK (w64 b) s i).c),(wv (((rnds KK (w64 b) s i).d)+((((((((((rnds KK (w64 b) s i).h)+((((((rr ((rnds KK (w64 b) s i).e) 6))^^^((rr ((rnds KK (w64 b) s i).e) 11))))^^^((rr ((rnds KK (w64 b) s i).e) 25))))))+((((((rnds KK (w64 b) s i).e)&&&((rnds KK (w64 b) s i).f)))^^^((((~~~((rnds KK (w64 b) s i).e)))&&&((rnds KK (w64 b) s i).g)))))))+((wget KK i))))+((wget (w64 b) i)))))),(wv (rnds KK (w64 b) s i).e),(wv (rnds KK (w64 b) s i).f),(wv (rnds KK (w64 b) s i).g)])) 114 r83_29 rfl kj (Qao 113 _ _ g83 0 114 _ _ r83_29 rfl kj kj kj (show 0<8 by decide)) fun W30 p30 r83_30=>?_
     have x30:=Puts.ext p30 x29 b83
     refine Qak <| hK97 _ _ <| Qaf <| sg 1 kj <| Qab (.int .i64 ((i+1:Nat):Int)) 135 rfl kj (Qai (u:=.int .i64 (IntKind.i64.wrap (((i:Nat):Int)+1))) kj (congrArg (Value.int .i64) (i64n _ _ (by omega) (by omega)))) <| sg 1 kj <| Qak ?_
     repeat (first | with_reducible refine goX1 ?_ | with_reducible refine goX2 ?_ | with_reducible refine goX3 ?_)
     exact Qa4 (i+1) ⟨kj,kj,kj,kj,kj,kj,kj,kj,trivial⟩ ⟨(by omega),(Qbi r83_30 (by rw [show rnds KK (w64 b) s (i+1)=rnd (wget KK i) (wget (w64 b) i) (rnds KK (w64 b) s i) from rfl]; generalize rnds KK (w64 b) s i=r; generalize wget KK i=kk; generalize wget (w64 b) i=ww; rfl)),(Qah.puts (Qah.puts (Qah.puts (Qah.puts (Qah.puts (Qah.puts (Qah.puts (Qah.puts (Qah.puts (Qah.step (Qah.step q19 e20) e21) p22 (.inl (by simp))) p23 (.inl (by simp))) p24 (.inl (by simp))) p25 (.inl (by simp))) p26 (.inl (by simp))) p27 (.inl (by simp))) p28 (.inl (by simp))) p29 (.inl (by simp))) p30 (.inl (by simp))),x30⟩ (by omega)
    ·skip
     have heq133:i=64:=by have:=of_decide_eq_false c96; omega
     have r83_19_126:V4.heap[g83]? = some (.cells (ints .u32 ([wv (rnds KK (w64 b) s 64).a,wv (rnds KK (w64 b) s 64).b,wv (rnds KK (w64 b) s 64).c,wv (rnds KK (w64 b) s 64).d,wv (rnds KK (w64 b) s 64).e,wv (rnds KK (w64 b) s 64).f,wv (rnds KK (w64 b) s 64).g,wv (rnds KK (w64 b) s 64).h])) 114):=Qbi q83_4 (by rw [heq133])
     refine wp_exit <| hK84 _ _ <| sgB kj <| wp_block <| wp_loop_rounds 9 ?_
     show Code.wp _ _ (Exit.then (Code.rounds _ _ _ 8) _) _ _
     refine wp_seq_k fun K128 hK128=>sgB kj <| cond_true kj <| wp_skip <| hK128 _ _ <| wp_seq_k fun K130 hK130=>wp_block <| Qbe 8 [⟨none,[(20,none)]⟩,⟨none,[(20,none)]⟩,⟨none,[(4,none),(226,some 1)]⟩,⟨none,[(227,some 2)]⟩,⟨none,[(20,none)]⟩,⟨none,[(15,none),(229,some 4)]⟩,⟨none,[(230,some 5)]⟩,⟨none,[(228,some 3),(231,some 6)]⟩] kj kj fun F hF=>Qa7 (Qas _) (.int .i64 0) kj kj (fun W=>by kernel_rfl) <| Qa7 (Qas _) (.int .i64 0) kj kj (fun W=>by kernel_rfl) ?_
     refine Qa7 (Qas _) (.pointer (some ⟨g7,0,none⟩)) kj kj (fun W=>by kernel_rfl) ?_
     have r7_17:=(Qac r7_16 e17)
     have r7_18:=(Puts.row p18 r7_17 (Qae r7_16 l83))
     have r7_19:=(Qah.row q19 r7_18 (Qax (Qae r7_16 l83) QaJ))
     refine Qbd (Qas _) (.int .u32 (wv s.a)) kj kj (fun W hR=>(Qag 113 _ g7 0 114 _ (.int .u32 (wv s.a)) _ (Qac (Qac r7_19 (Qaz _)) hR) rfl kj kj kj)) <| Qa7 (Qas _) (.int .i64 0) kj kj (fun W=>by kernel_rfl) <| Qa7 (Qas _) (.pointer (some ⟨g83,0,none⟩)) kj kj (fun W=>by kernel_rfl) <| Qbd (Qas _) (.int .u32 (wv (rnds KK (w64 b) s 64).a)) kj kj (fun W hR=>(Qag 113 _ g83 0 114 _ (.int .u32 (wv (rnds KK (w64 b) s 64).a)) _ (Qac (Qac r83_19_126 (Qaz _)) hR) rfl kj kj kj)) <| Qa7 (Qas _) (.int .u32 (wv ((s.a)+((rnds KK (w64 b) s 64).a)))) kj kj (fun W=>(Qai kj (congrArg (Value.int .u32) (Qb5 _ _)))) <| Qdk (hF _ fun W20 e20=>?_)
     simp only [List.nil_append,List.cons_append,List.take_succ_cons,List.take_zero,List.drop_succ_cons,List.drop_zero,finE,up]
     clear hF
     have x20:=Ext.tr xx4 e20
     refine sg 1 kj ?_
     have r7_20:=(Qac r7_19 e20)
     refine Qaj g7 _ (ints .u32 ([(wv ((s.a)+((rnds KK (w64 b) s 64).a))),wv s.b,wv s.c,wv s.d,wv s.e,wv s.f,wv s.g,wv s.h])) 114 r7_20 rfl kj (Qao 113 _ _ g7 0 114 _ _ r7_20 rfl kj kj kj (show 0<8 by decide)) fun W21 p21 r7_21=>?_
     have x21:=Puts.ext p21 x20 b7
     refine Qak <| hK130 _ _ <| sgA kj ?_
     show Code.rounds _ _ _ 8 _ _
     show Code.wp _ _ (Exit.then (Code.rounds _ _ _ 7) _) _ _
     refine wp_seq_k fun K131 hK131=>sgB kj <| cond_true kj <| wp_skip <| hK131 _ _ <| wp_seq_k fun K133 hK133=>wp_block <| Qbe 8 [⟨none,[(20,none)]⟩,⟨none,[(20,none)]⟩,⟨none,[(4,none),(226,some 1)]⟩,⟨none,[(227,some 2)]⟩,⟨none,[(20,none)]⟩,⟨none,[(15,none),(229,some 4)]⟩,⟨none,[(230,some 5)]⟩,⟨none,[(228,some 3),(231,some 6)]⟩] kj kj fun F hF=>Qa7 (Qas _) (.int .i64 1) kj kj (fun W=>by kernel_rfl) <| Qa7 (Qas _) (.int .i64 1) kj kj (fun W=>by kernel_rfl) ?_
     refine Qa7 (Qas _) (.pointer (some ⟨g7,1,none⟩)) kj kj (fun W=>by kernel_rfl) <| Qbd (Qas _) (.int .u32 (wv s.b)) kj kj (fun W hR=>(Qag 113 _ g7 1 114 _ (.int .u32 (wv s.b)) _ (Qac (Qac r7_21 (Qaz _)) hR) rfl kj kj kj)) <| Qa7 (Qas _) (.int .i64 1) kj kj (fun W=>by kernel_rfl) <| Qa7 (Qas _) (.pointer (some ⟨g83,1,none⟩)) kj kj (fun W=>by kernel_rfl) ?_
     have r83_20:=(Qac r83_19_126 e20)
     have r83_21:=(Puts.row p21 r83_20 (Qa8 r7_16 l83))
     refine Qbd (Qas _) (.int .u32 (wv (rnds KK (w64 b) s 64).b)) kj kj (fun W hR=>(Qag 113 _ g83 1 114 _ (.int .u32 (wv (rnds KK (w64 b) s 64).b)) _ (Qac (Qac r83_21 (Qaz _)) hR) rfl kj kj kj)) <| Qa7 (Qas _) (.int .u32 (wv ((s.b)+((rnds KK (w64 b) s 64).b)))) kj kj (fun W=>(Qai kj (congrArg (Value.int .u32) (Qb5 _ _)))) <| Qdk (hF _ fun W22 e22=>?_)
     simp only [List.nil_append,List.cons_append,List.take_succ_cons,List.take_zero,List.drop_succ_cons,List.drop_zero,finE,up]
     clear hF
     have x22:=Ext.tr x21 e22
     refine sg 1 kj ?_
     have r7_22:=(Qac r7_21 e22)
     refine Qaj g7 _ (ints .u32 ([(wv ((s.a)+((rnds KK (w64 b) s 64).a))),(wv ((s.b)+((rnds KK (w64 b) s 64).b))),wv s.c,wv s.d,wv s.e,wv s.f,wv s.g,wv s.h])) 114 r7_22 rfl kj (Qao 113 _ _ g7 1 114 _ _ r7_22 rfl kj kj kj (show 1<8 by decide)) fun W23 p23 r7_23=>?_
     have x23:=Puts.ext p23 x22 b7
     refine Qak <| hK133 _ _ <| sgA kj ?_
     show Code.rounds _ _ _ 7 _ _
     show Code.wp _ _ (Exit.then (Code.rounds _ _ _ 6) _) _ _
     refine wp_seq_k fun K134 hK134=>sgB kj <| cond_true kj <| wp_skip <| hK134 _ _ <| wp_seq_k fun K136 hK136=>wp_block <| Qbe 8 [⟨none,[(20,none)]⟩,⟨none,[(20,none)]⟩,⟨none,[(4,none),(226,some 1)]⟩,⟨none,[(227,some 2)]⟩,⟨none,[(20,none)]⟩,⟨none,[(15,none),(229,some 4)]⟩,⟨none,[(230,some 5)]⟩,⟨none,[(228,some 3),(231,some 6)]⟩] kj kj fun F hF=>Qa7 (Qas _) (.int .i64 2) kj kj (fun W=>by kernel_rfl) <| Qa7 (Qas _) (.int .i64 2) kj kj (fun W=>by kernel_rfl) ?_
     refine Qa7 (Qas _) (.pointer (some ⟨g7,2,none⟩)) kj kj (fun W=>by kernel_rfl) <| Qbd (Qas _) (.int .u32 (wv s.c)) kj kj (fun W hR=>(Qag 113 _ g7 2 114 _ (.int .u32 (wv s.c)) _ (Qac (Qac r7_23 (Qaz _)) hR) rfl kj kj kj)) <| Qa7 (Qas _) (.int .i64 2) kj kj (fun W=>by kernel_rfl) <| Qa7 (Qas _) (.pointer (some ⟨g83,2,none⟩)) kj kj (fun W=>by kernel_rfl) ?_
     have r83_22:=(Qac r83_21 e22)
     have r83_23:=(Puts.row p23 r83_22 (Qa8 r7_16 l83))
     refine Qbd (Qas _) (.int .u32 (wv (rnds KK (w64 b) s 64).c)) kj kj (fun W hR=>(Qag 113 _ g83 2 114 _ (.int .u32 (wv (rnds KK (w64 b) s 64).c)) _ (Qac (Qac r83_23 (Qaz _)) hR) rfl kj kj kj)) <| Qa7 (Qas _) (.int .u32 (wv ((s.c)+((rnds KK (w64 b) s 64).c)))) kj kj (fun W=>(Qai kj (congrArg (Value.int .u32) (Qb5 _ _)))) <| Qdk (hF _ fun W24 e24=>?_)
     simp only [List.nil_append,List.cons_append,List.take_succ_cons,List.take_zero,List.drop_succ_cons,List.drop_zero,finE,up]
     clear hF
     have x24:=Ext.tr x23 e24
     refine sg 1 kj ?_
     have r7_24:=(Qac r7_23 e24)
     refine Qaj g7 _ (ints .u32 ([(wv ((s.a)+((rnds KK (w64 b) s 64).a))),(wv ((s.b)+((rnds KK (w64 b) s 64).b))),(wv ((s.c)+((rnds KK (w64 b) s 64).c))),wv s.d,wv s.e,wv s.f,wv s.g,wv s.h])) 114 r7_24 rfl kj (Qao 113 _ _ g7 2 114 _ _ r7_24 rfl kj kj kj (show 2<8 by decide)) fun W25 p25 r7_25=>?_
     have x25:=Puts.ext p25 x24 b7
     refine Qak <| hK136 _ _ <| sgA kj ?_
     show Code.rounds _ _ _ 6 _ _
     show Code.wp _ _ (Exit.then (Code.rounds _ _ _ 5) _) _ _
     refine wp_seq_k fun K137 hK137=>sgB kj <| cond_true kj <| wp_skip <| hK137 _ _ <| wp_seq_k fun K139 hK139=>wp_block <| Qbe 8 [⟨none,[(20,none)]⟩,⟨none,[(20,none)]⟩,⟨none,[(4,none),(226,some 1)]⟩,⟨none,[(227,some 2)]⟩,⟨none,[(20,none)]⟩,⟨none,[(15,none),(229,some 4)]⟩,⟨none,[(230,some 5)]⟩,⟨none,[(228,some 3),(231,some 6)]⟩] kj kj fun F hF=>Qa7 (Qas _) (.int .i64 3) kj kj (fun W=>by kernel_rfl) <| Qa7 (Qas _) (.int .i64 3) kj kj (fun W=>by kernel_rfl) ?_
     refine Qa7 (Qas _) (.pointer (some ⟨g7,3,none⟩)) kj kj (fun W=>by kernel_rfl) <| Qbd (Qas _) (.int .u32 (wv s.d)) kj kj (fun W hR=>(Qag 113 _ g7 3 114 _ (.int .u32 (wv s.d)) _ (Qac (Qac r7_25 (Qaz _)) hR) rfl kj kj kj)) <| Qa7 (Qas _) (.int .i64 3) kj kj (fun W=>by kernel_rfl) <| Qa7 (Qas _) (.pointer (some ⟨g83,3,none⟩)) kj kj (fun W=>by kernel_rfl) ?_
     have r83_24:=(Qac r83_23 e24)
     have r83_25:=(Puts.row p25 r83_24 (Qa8 r7_16 l83))
     refine Qbd (Qas _) (.int .u32 (wv (rnds KK (w64 b) s 64).d)) kj kj (fun W hR=>(Qag 113 _ g83 3 114 _ (.int .u32 (wv (rnds KK (w64 b) s 64).d)) _ (Qac (Qac r83_25 (Qaz _)) hR) rfl kj kj kj)) <| Qa7 (Qas _) (.int .u32 (wv ((s.d)+((rnds KK (w64 b) s 64).d)))) kj kj (fun W=>(Qai kj (congrArg (Value.int .u32) (Qb5 _ _)))) <| Qdk (hF _ fun W26 e26=>?_)
     simp only [List.nil_append,List.cons_append,List.take_succ_cons,List.take_zero,List.drop_succ_cons,List.drop_zero,finE,up]
     clear hF
     have x26:=Ext.tr x25 e26
     refine sg 1 kj ?_
     have r7_26:=(Qac r7_25 e26)
     refine Qaj g7 _ (ints .u32 ([(wv ((s.a)+((rnds KK (w64 b) s 64).a))),(wv ((s.b)+((rnds KK (w64 b) s 64).b))),(wv ((s.c)+((rnds KK (w64 b) s 64).c))),(wv ((s.d)+((rnds KK (w64 b) s 64).d))),wv s.e,wv s.f,wv s.g,wv s.h])) 114 r7_26 rfl kj (Qao 113 _ _ g7 3 114 _ _ r7_26 rfl kj kj kj (show 3<8 by decide)) fun W27 p27 r7_27=>?_
     have x27:=Puts.ext p27 x26 b7
     refine Qak <| hK139 _ _ <| sgA kj ?_
     show Code.rounds _ _ _ 5 _ _
     show Code.wp _ _ (Exit.then (Code.rounds _ _ _ 4) _) _ _
     refine wp_seq_k fun K140 hK140=>sgB kj <| cond_true kj <| wp_skip <| hK140 _ _ <| wp_seq_k fun K142 hK142=>wp_block <| Qbe 8 [⟨none,[(20,none)]⟩,⟨none,[(20,none)]⟩,⟨none,[(4,none),(226,some 1)]⟩,⟨none,[(227,some 2)]⟩,⟨none,[(20,none)]⟩,⟨none,[(15,none),(229,some 4)]⟩,⟨none,[(230,some 5)]⟩,⟨none,[(228,some 3),(231,some 6)]⟩] kj kj fun F hF=>Qa7 (Qas _) (.int .i64 4) kj kj (fun W=>by kernel_rfl) <| Qa7 (Qas _) (.int .i64 4) kj kj (fun W=>by kernel_rfl) ?_
     refine Qa7 (Qas _) (.pointer (some ⟨g7,4,none⟩)) kj kj (fun W=>by kernel_rfl) <| Qbd (Qas _) (.int .u32 (wv s.e)) kj kj (fun W hR=>(Qag 113 _ g7 4 114 _ (.int .u32 (wv s.e)) _ (Qac (Qac r7_27 (Qaz _)) hR) rfl kj kj kj)) <| Qa7 (Qas _) (.int .i64 4) kj kj (fun W=>by kernel_rfl) <| Qa7 (Qas _) (.pointer (some ⟨g83,4,none⟩)) kj kj (fun W=>by kernel_rfl) ?_
     have r83_26:=(Qac r83_25 e26)
     have r83_27:=(Puts.row p27 r83_26 (Qa8 r7_16 l83))
     refine Qbd (Qas _) (.int .u32 (wv (rnds KK (w64 b) s 64).e)) kj kj (fun W hR=>(Qag 113 _ g83 4 114 _ (.int .u32 (wv (rnds KK (w64 b) s 64).e)) _ (Qac (Qac r83_27 (Qaz _)) hR) rfl kj kj kj)) <| Qa7 (Qas _) (.int .u32 (wv ((s.e)+((rnds KK (w64 b) s 64).e)))) kj kj (fun W=>(Qai kj (congrArg (Value.int .u32) (Qb5 _ _)))) <| Qdk (hF _ fun W28 e28=>?_)
     simp only [List.nil_append,List.cons_append,List.take_succ_cons,List.take_zero,List.drop_succ_cons,List.drop_zero,finE,up]
     clear hF
     have x28:=Ext.tr x27 e28
     refine sg 1 kj ?_
     have r7_28:=(Qac r7_27 e28)
     refine Qaj g7 _ (ints .u32 ([(wv ((s.a)+((rnds KK (w64 b) s 64).a))),(wv ((s.b)+((rnds KK (w64 b) s 64).b))),(wv ((s.c)+((rnds KK (w64 b) s 64).c))),(wv ((s.d)+((rnds KK (w64 b) s 64).d))),(wv ((s.e)+((rnds KK (w64 b) s 64).e))),wv s.f,wv s.g,wv s.h])) 114 r7_28 rfl kj (Qao 113 _ _ g7 4 114 _ _ r7_28 rfl kj kj kj (show 4<8 by decide)) fun W29 p29 r7_29=>?_
     have x29:=Puts.ext p29 x28 b7
     refine Qak <| hK142 _ _ <| sgA kj ?_
     show Code.rounds _ _ _ 4 _ _
     show Code.wp _ _ (Exit.then (Code.rounds _ _ _ 3) _) _ _
     refine wp_seq_k fun K143 hK143=>sgB kj <| cond_true kj <| wp_skip <| hK143 _ _ <| wp_seq_k fun K145 hK145=>wp_block <| Qbe 8 [⟨none,[(20,none)]⟩,⟨none,[(20,none)]⟩,⟨none,[(4,none),(226,some 1)]⟩,⟨none,[(227,some 2)]⟩,⟨none,[(20,none)]⟩,⟨none,[(15,none),(229,some 4)]⟩,⟨none,[(230,some 5)]⟩,⟨none,[(228,some 3),(231,some 6)]⟩] kj kj fun F hF=>Qa7 (Qas _) (.int .i64 5) kj kj (fun W=>by kernel_rfl) <| Qa7 (Qas _) (.int .i64 5) kj kj (fun W=>by kernel_rfl) ?_
     refine Qa7 (Qas _) (.pointer (some ⟨g7,5,none⟩)) kj kj (fun W=>by kernel_rfl) <| Qbd (Qas _) (.int .u32 (wv s.f)) kj kj (fun W hR=>(Qag 113 _ g7 5 114 _ (.int .u32 (wv s.f)) _ (Qac (Qac r7_29 (Qaz _)) hR) rfl kj kj kj)) <| Qa7 (Qas _) (.int .i64 5) kj kj (fun W=>by kernel_rfl) <| Qa7 (Qas _) (.pointer (some ⟨g83,5,none⟩)) kj kj (fun W=>by kernel_rfl) ?_
     have r83_28:=(Qac r83_27 e28)
     have r83_29:=(Puts.row p29 r83_28 (Qa8 r7_16 l83))
     refine Qbd (Qas _) (.int .u32 (wv (rnds KK (w64 b) s 64).f)) kj kj (fun W hR=>(Qag 113 _ g83 5 114 _ (.int .u32 (wv (rnds KK (w64 b) s 64).f)) _ (Qac (Qac r83_29 (Qaz _)) hR) rfl kj kj kj)) <| Qa7 (Qas _) (.int .u32 (wv ((s.f)+((rnds KK (w64 b) s 64).f)))) kj kj (fun W=>(Qai kj (congrArg (Value.int .u32) (Qb5 _ _)))) <| Qdk (hF _ fun W30 e30=>?_)
     simp only [List.nil_append,List.cons_append,List.take_succ_cons,List.take_zero,List.drop_succ_cons,List.drop_zero,finE,up]
     clear hF
     have x30:=Ext.tr x29 e30
     refine sg 1 kj ?_
     have r7_30:=(Qac r7_29 e30)
     refine Qaj g7 _ (ints .u32 ([(wv ((s.a)+((rnds KK (w64 b) s 64).a))),(wv ((s.b)+((rnds KK (w64 b) s 64).b))),(wv ((s.c)+((rnds KK (w64 b) s 64).c))),(wv ((s.d)+((rnds KK (w64 b) s 64).d))),(wv ((s.e)+((rnds KK (w64 b) s 64).e))),(wv ((s.f)+((rnds KK (w64 b) s 64).f))),wv s.g,wv s.h])) 114 r7_30 rfl kj (Qao 113 _ _ g7 5 114 _ _ r7_30 rfl kj kj kj (show 5<8 by decide)) fun W31 p31 r7_31=>?_
     have x31:=Puts.ext p31 x30 b7
     refine Qak <| hK145 _ _ <| sgA kj ?_
     show Code.rounds _ _ _ 3 _ _
     show Code.wp _ _ (Exit.then (Code.rounds _ _ _ 2) _) _ _
     refine wp_seq_k fun K146 hK146=>sgB kj <| cond_true kj <| wp_skip <| hK146 _ _ <| wp_seq_k fun K148 hK148=>wp_block <| Qbe 8 [⟨none,[(20,none)]⟩,⟨none,[(20,none)]⟩,⟨none,[(4,none),(226,some 1)]⟩,⟨none,[(227,some 2)]⟩,⟨none,[(20,none)]⟩,⟨none,[(15,none),(229,some 4)]⟩,⟨none,[(230,some 5)]⟩,⟨none,[(228,some 3),(231,some 6)]⟩] kj kj fun F hF=>Qa7 (Qas _) (.int .i64 6) kj kj (fun W=>by kernel_rfl) <| Qa7 (Qas _) (.int .i64 6) kj kj (fun W=>by kernel_rfl) ?_
     refine Qa7 (Qas _) (.pointer (some ⟨g7,6,none⟩)) kj kj (fun W=>by kernel_rfl) <| Qbd (Qas _) (.int .u32 (wv s.g)) kj kj (fun W hR=>(Qag 113 _ g7 6 114 _ (.int .u32 (wv s.g)) _ (Qac (Qac r7_31 (Qaz _)) hR) rfl kj kj kj)) <| Qa7 (Qas _) (.int .i64 6) kj kj (fun W=>by kernel_rfl) <| Qa7 (Qas _) (.pointer (some ⟨g83,6,none⟩)) kj kj (fun W=>by kernel_rfl) ?_
     have r83_30:=(Qac r83_29 e30)
     have r83_31:=(Puts.row p31 r83_30 (Qa8 r7_16 l83))
     refine Qbd (Qas _) (.int .u32 (wv (rnds KK (w64 b) s 64).g)) kj kj (fun W hR=>(Qag 113 _ g83 6 114 _ (.int .u32 (wv (rnds KK (w64 b) s 64).g)) _ (Qac (Qac r83_31 (Qaz _)) hR) rfl kj kj kj)) <| Qa7 (Qas _) (.int .u32 (wv ((s.g)+((rnds KK (w64 b) s 64).g)))) kj kj (fun W=>(Qai kj (congrArg (Value.int .u32) (Qb5 _ _)))) <| Qdk (hF _ fun W32 e32=>?_)
     simp only [List.nil_append,List.cons_append,List.take_succ_cons,List.take_zero,List.drop_succ_cons,List.drop_zero,finE,up]
     clear hF
     have x32:=Ext.tr x31 e32
     refine sg 1 kj ?_
     have r7_32:=(Qac r7_31 e32)
     refine Qaj g7 _ (ints .u32 ([(wv ((s.a)+((rnds KK (w64 b) s 64).a))),(wv ((s.b)+((rnds KK (w64 b) s 64).b))),(wv ((s.c)+((rnds KK (w64 b) s 64).c))),(wv ((s.d)+((rnds KK (w64 b) s 64).d))),(wv ((s.e)+((rnds KK (w64 b) s 64).e))),(wv ((s.f)+((rnds KK (w64 b) s 64).f))),(wv ((s.g)+((rnds KK (w64 b) s 64).g))),wv s.h])) 114 r7_32 rfl kj (Qao 113 _ _ g7 6 114 _ _ r7_32 rfl kj kj kj (show 6<8 by decide)) fun W33 p33 r7_33=>?_
     have x33:=Puts.ext p33 x32 b7
     refine Qak <| hK148 _ _ <| sgA kj ?_
     show Code.rounds _ _ _ 2 _ _
     show Code.wp _ _ (Exit.then (Code.rounds _ _ _ 1) _) _ _
     refine wp_seq_k fun K149 hK149=>sgB kj <| cond_true kj <| wp_skip <| hK149 _ _ <| wp_seq_k fun K151 hK151=>wp_block <| Qbe 8 [⟨none,[(20,none)]⟩,⟨none,[(20,none)]⟩,⟨none,[(4,none),(226,some 1)]⟩,⟨none,[(227,some 2)]⟩,⟨none,[(20,none)]⟩,⟨none,[(15,none),(229,some 4)]⟩,⟨none,[(230,some 5)]⟩,⟨none,[(228,some 3),(231,some 6)]⟩] kj kj fun F hF=>Qa7 (Qas _) (.int .i64 7) kj kj (fun W=>by kernel_rfl) <| Qa7 (Qas _) (.int .i64 7) kj kj (fun W=>by kernel_rfl) ?_
     refine Qa7 (Qas _) (.pointer (some ⟨g7,7,none⟩)) kj kj (fun W=>by kernel_rfl) <| Qbd (Qas _) (.int .u32 (wv s.h)) kj kj (fun W hR=>(Qag 113 _ g7 7 114 _ (.int .u32 (wv s.h)) _ (Qac (Qac r7_33 (Qaz _)) hR) rfl kj kj kj)) <| Qa7 (Qas _) (.int .i64 7) kj kj (fun W=>by kernel_rfl) <| Qa7 (Qas _) (.pointer (some ⟨g83,7,none⟩)) kj kj (fun W=>by kernel_rfl) <| Qbd (Qas _) (.int .u32 (wv (rnds KK (w64 b) s 64).h)) kj kj (fun W hR=>(Qag 113 _ g83 7 114 _ (.int .u32 (wv (rnds KK (w64 b) s 64).h)) _ (Qac (Qac (Puts.row p33 (Qac r83_31 e32) (Qa8 r7_16 l83)) (Qaz _)) hR) rfl kj kj kj)) <| Qa7 (Qas _) (.int .u32 (wv ((s.h)+((rnds KK (w64 b) s 64).h)))) kj kj (fun W=>(Qai kj (congrArg (Value.int .u32) (Qb5 _ _)))) <| Qdk (hF _ fun W34 e34=>?_)
     simp only [List.nil_append,List.cons_append,List.take_succ_cons,List.take_zero,List.drop_succ_cons,List.drop_zero,finE,up]
     clear hF
     have x34:=Ext.tr x33 e34
     refine sg 1 kj ?_
     have r7_34:=(Qac r7_33 e34)
     refine Qaj g7 _ (ints .u32 ([(wv ((s.a)+((rnds KK (w64 b) s 64).a))),(wv ((s.b)+((rnds KK (w64 b) s 64).b))),(wv ((s.c)+((rnds KK (w64 b) s 64).c))),(wv ((s.d)+((rnds KK (w64 b) s 64).d))),(wv ((s.e)+((rnds KK (w64 b) s 64).e))),(wv ((s.f)+((rnds KK (w64 b) s 64).f))),(wv ((s.g)+((rnds KK (w64 b) s 64).g))),(wv ((s.h)+((rnds KK (w64 b) s 64).h)))])) 114 r7_34 rfl kj (Qao 113 _ _ g7 7 114 _ _ r7_34 rfl kj kj kj (show 7<8 by decide)) fun W35 p35 r7_35=>?_
     have x35:=Puts.ext p35 x34 b7
     refine Qak <| hK151 _ _ <| sgA kj ?_
     show Code.rounds _ _ _ 1 _ _
     show Code.wp _ _ (Exit.then (Code.rounds _ _ _ 0) _) _ _
     refine wp_seq_k fun K152 hK152=>sgB kj <| cond_false kj <| wp_exit <| hK48 _ _ <| Qaf <| sg 1 kj <| Qab (.int .i64 (((64*m)+64:Nat):Int)) 44 rfl kj (Qai (u:=.int .i64 (IntKind.i64.wrap (((64*m:Nat):Int)+64))) kj (congrArg (Value.int .i64) (i64n _ _ (by omega) (by omega)))) <| sg 1 kj <| Qak ?_
     repeat (first | with_reducible refine goX1 ?_ | with_reducible refine goX2 ?_ | with_reducible refine goX3 ?_)
     exact Qa4 (m+1) ⟨kj,kj,kj,kj,kj,trivial⟩ ⟨(by omega),(Qbi r7_35 (by subst hs; subst hb; rfl)),(Qah.puts (Qah.step (Qah.puts (Qah.step (Qah.puts (Qah.step (Qah.puts (Qah.step (Qah.puts (Qah.step (Qah.puts (Qah.step (Qah.puts (Qah.step (Qah.puts (Qah.step (Qah.keeps (Qah.puts (Qah.step (Qah.low (Qah.step q14 e15) l16 (qT (Qah.size q14) (qR _))) e17) p18 (.inr (qT (Qah.size q14) (qT (qT (qT (qR _) e15.size) l16.size) l83)))) q19 (QiT (.inr (qT (Qah.size q14) (qT (qT (qT (qR _) e15.size) l16.size) l83))) QkE)) e20) p21 (.inl (by simp))) e22) p23 (.inl (by simp))) e24) p25 (.inl (by simp))) e26) p27 (.inl (by simp))) e28) p29 (.inl (by simp))) e30) p31 (.inl (by simp))) e32) p33 (.inl (by simp))) e34) p35 (.inl (by simp))),x35⟩ (by omega)
 ·skip
  have heq42:m=q:=by have:=of_decide_eq_false c46; omega
  have r7_14_154:V1.heap[g7]? = some (.cells (ints .u32 ([wv (absorb S0 (padT t) q).a,wv (absorb S0 (padT t) q).b,wv (absorb S0 (padT t) q).c,wv (absorb S0 (padT t) q).d,wv (absorb S0 (padT t) q).e,wv (absorb S0 (padT t) q).f,wv (absorb S0 (padT t) q).g,wv (absorb S0 (padT t) q).h])) 114):=Qbi q7_1 (by rw [heq42])
  refine wp_exit <| hK42 _ _ <| sgC fun K155 hK155=>Qap (ints .u8 ([0,0,0,0,0,0,0,0,0,0,0,0,0,0,0,0,0,0,0,0,0,0,0,0,0,0,0,0,0,0,0,0])) 23 21 rfl kj kj fun g156 W15 l156 e15 r156_15=>?_
  have b156:=qT xx1.size l156
  refine sgN hK155 <| wp_seq_k fun K157 hK157=>sgB kj <| wp_block <| wp_loop_rounds 33 ?_
  show Code.wp _ _ (Exit.then (Code.rounds _ _ _ 32) _) _ _
  refine wp_seq_k fun K159 hK159=>sgB kj <| cond_true kj <| wp_skip <| hK159 _ _ <| wp_seq_k fun K161 hK161=>wp_block <| Qaf <| sg 4 kj ?_
  have r7_15:=(Qac r7_14_154 e15)
  refine Qab (.int .u32 (wv (absorb S0 (padT t) q).a)) 242 rfl kj (Qag 113 _ g7 0 114 _ (.int .u32 (wv (absorb S0 (padT t) q).a)) _ r7_15 rfl kj kj kj) <| sg 5 kj <| Qab (.int .u32 (wv (((absorb S0 (padT t) q).a)>>>24))) 248 rfl kj (Qa1 .shr _ _ _ _ .u32 .u64 _ _ _ rfl kj kj (QaQ _ _ _ _ _ _ (by decide) (Qba _ _ 24 rfl (by decide)))) <| Qab (.int .u8 (db (absorb S0 (padT t) q).a 16777216)) 249 rfl kj (Qai kj (congrArg (Value.int .u8) (QaO (absorb S0 (padT t) q).a 24 16777216 (by decide)))) <| sg 1 kj <| Qaj g156 _ (ints .u8 ([(db (absorb S0 (padT t) q).a 16777216),0,0,0,0,0,0,0,0,0,0,0,0,0,0,0,0,0,0,0,0,0,0,0,0,0,0,0,0,0,0,0])) 23 r156_15 rfl kj (Qao 5 _ _ g156 0 23 _ _ r156_15 rfl kj kj kj (show 0<32 by decide)) fun W16 p16 r156_16=>?_
  have x16:=Puts.ext p16 (Ext.tr xx1 e15) b156
  refine Qak <| hK161 _ _ <| sgA kj ?_
  show Code.rounds _ _ _ 32 _ _
  show Code.wp _ _ (Exit.then (Code.rounds _ _ _ 31) _) _ _
  refine wp_seq_k fun K162 hK162=>sgB kj <| cond_true kj <| wp_skip <| hK162 _ _ <| wp_seq_k fun K164 hK164=>wp_block <| Qaf <| sg 4 kj ?_
  have r7_16:=(Puts.row p16 r7_15 (Qae r7_14_154 l156))
  refine Qab (.int .u32 (wv (absorb S0 (padT t) q).a)) 242 rfl kj (Qag 113 _ g7 0 114 _ (.int .u32 (wv (absorb S0 (padT t) q).a)) _ r7_16 rfl kj kj kj) <| sg 5 kj <| Qab (.int .u32 (wv (((absorb S0 (padT t) q).a)>>>16))) 248 rfl kj (Qa1 .shr _ _ _ _ .u32 .u64 _ _ _ rfl kj kj (QaQ _ _ _ _ _ _ (by decide) (Qba _ _ 16 rfl (by decide)))) <| Qab (.int .u8 (db (absorb S0 (padT t) q).a 65536)) 249 rfl kj (Qai kj (congrArg (Value.int .u8) (QaO (absorb S0 (padT t) q).a 16 65536 (by decide)))) <| sg 1 kj <| Qaj g156 _ (ints .u8 ([(db (absorb S0 (padT t) q).a 16777216),(db (absorb S0 (padT t) q).a 65536),0,0,0,0,0,0,0,0,0,0,0,0,0,0,0,0,0,0,0,0,0,0,0,0,0,0,0,0,0,0])) 23 r156_16 rfl kj (Qao 5 _ _ g156 1 23 _ _ r156_16 rfl kj kj kj (show 1<32 by decide)) fun W17 p17 r156_17=>?_
  have x17:=Puts.ext p17 x16 b156
  refine Qak <| hK164 _ _ <| sgA kj ?_
  show Code.rounds _ _ _ 31 _ _
  show Code.wp _ _ (Exit.then (Code.rounds _ _ _ 30) _) _ _
  refine wp_seq_k fun K165 hK165=>sgB kj <| cond_true kj <| wp_skip <| hK165 _ _ <| wp_seq_k fun K167 hK167=>wp_block <| Qaf <| sg 4 kj ?_
  have r7_17:=(Puts.row p17 r7_16 (Qae r7_14_154 l156))
  refine Qab (.int .u32 (wv (absorb S0 (padT t) q).a)) 242 rfl kj (Qag 113 _ g7 0 114 _ (.int .u32 (wv (absorb S0 (padT t) q).a)) _ r7_17 rfl kj kj kj) <| sg 5 kj <| Qab (.int .u32 (wv (((absorb S0 (padT t) q).a)>>>8))) 248 rfl kj (Qa1 .shr _ _ _ _ .u32 .u64 _ _ _ rfl kj kj (QaQ _ _ _ _ _ _ (by decide) (Qba _ _ 8 rfl (by decide)))) <| Qab (.int .u8 (db (absorb S0 (padT t) q).a 256)) 249 rfl kj (Qai kj (congrArg (Value.int .u8) (QaO (absorb S0 (padT t) q).a 8 256 (by decide)))) <| sg 1 kj <| Qaj g156 _ (ints .u8 ([(db (absorb S0 (padT t) q).a 16777216),(db (absorb S0 (padT t) q).a 65536),(db (absorb S0 (padT t) q).a 256),0,0,0,0,0,0,0,0,0,0,0,0,0,0,0,0,0,0,0,0,0,0,0,0,0,0,0,0,0])) 23 r156_17 rfl kj (Qao 5 _ _ g156 2 23 _ _ r156_17 rfl kj kj kj (show 2<32 by decide)) fun W18 p18 r156_18=>?_
  have x18:=Puts.ext p18 x17 b156
  refine Qak <| hK167 _ _ <| sgA kj ?_
  show Code.rounds _ _ _ 30 _ _
  show Code.wp _ _ (Exit.then (Code.rounds _ _ _ 29) _) _ _
  refine wp_seq_k fun K168 hK168=>sgB kj <| cond_true kj <| wp_skip <| hK168 _ _ <| wp_seq_k fun K170 hK170=>wp_block <| Qaf <| sg 4 kj ?_
  have r7_18:=(Puts.row p18 r7_17 (Qae r7_14_154 l156))
  refine Qab (.int .u32 (wv (absorb S0 (padT t) q).a)) 242 rfl kj (Qag 113 _ g7 0 114 _ (.int .u32 (wv (absorb S0 (padT t) q).a)) _ r7_18 rfl kj kj kj) <| sg 5 kj <| Qab (.int .u32 (wv (((absorb S0 (padT t) q).a)>>>0))) 248 rfl kj (Qa1 .shr _ _ _ _ .u32 .u64 _ _ _ rfl kj kj (QaQ _ _ _ _ _ _ (by decide) (Qba _ _ 0 rfl (by decide)))) <| Qab (.int .u8 (db (absorb S0 (padT t) q).a 1)) 249 rfl kj (Qai kj (congrArg (Value.int .u8) (QaO (absorb S0 (padT t) q).a 0 1 (by decide)))) <| sg 1 kj <| Qaj g156 _ (ints .u8 ([(db (absorb S0 (padT t) q).a 16777216),(db (absorb S0 (padT t) q).a 65536),(db (absorb S0 (padT t) q).a 256),(db (absorb S0 (padT t) q).a 1),0,0,0,0,0,0,0,0,0,0,0,0,0,0,0,0,0,0,0,0,0,0,0,0,0,0,0,0])) 23 r156_18 rfl kj (Qao 5 _ _ g156 3 23 _ _ r156_18 rfl kj kj kj (show 3<32 by decide)) fun W19 p19 r156_19=>Qak <| hK170 _ _ <| sgA kj ?_
  show Code.rounds _ _ _ 29 _ _
  show Code.wp _ _ (Exit.then (Code.rounds _ _ _ 28) _) _ _
  refine wp_seq_k fun K171 hK171=>sgB kj <| cond_true kj <| wp_skip <| hK171 _ _ <| wp_seq_k fun K173 hK173=>wp_block <| Qaf <| sg 4 kj ?_
  have r7_19:=(Puts.row p19 r7_18 (Qae r7_14_154 l156))
  refine Qab (.int .u32 (wv (absorb S0 (padT t) q).b)) 242 rfl kj (Qag 113 _ g7 1 114 _ (.int .u32 (wv (absorb S0 (padT t) q).b)) _ r7_19 rfl kj kj kj) <| sg 5 kj <| Qab (.int .u32 (wv (((absorb S0 (padT t) q).b)>>>24))) 248 rfl kj (Qa1 .shr _ _ _ _ .u32 .u64 _ _ _ rfl kj kj (QaQ _ _ _ _ _ _ (by decide) (Qba _ _ 24 rfl (by decide)))) <| Qab (.int .u8 (db (absorb S0 (padT t) q).b 16777216)) 249 rfl kj (Qai kj (congrArg (Value.int .u8) (QaO (absorb S0 (padT t) q).b 24 16777216 (by decide)))) <| sg 1 kj <| Qaj g156 _ (ints .u8 ([(db (absorb S0 (padT t) q).a 16777216),(db (absorb S0 (padT t) q).a 65536),(db (absorb S0 (padT t) q).a 256),(db (absorb S0 (padT t) q).a 1),(db (absorb S0 (padT t) q).b 16777216),0,0,0,0,0,0,0,0,0,0,0,0,0,0,0,0,0,0,0,0,0,0,0,0,0,0,0])) 23 r156_19 rfl kj (Qao 5 _ _ g156 4 23 _ _ r156_19 rfl kj kj kj (show 4<32 by decide)) fun W20 p20 r156_20=>?_
  have x20:=Puts.ext p20 (Puts.ext p19 x18 b156) b156
  refine Qak <| hK173 _ _ <| sgA kj ?_
  show Code.rounds _ _ _ 28 _ _
  show Code.wp _ _ (Exit.then (Code.rounds _ _ _ 27) _) _ _
  refine wp_seq_k fun K174 hK174=>sgB kj <| cond_true kj <| wp_skip <| hK174 _ _ <| wp_seq_k fun K176 hK176=>wp_block <| Qaf <| sg 4 kj ?_
  have r7_20:=(Puts.row p20 r7_19 (Qae r7_14_154 l156))
  refine Qab (.int .u32 (wv (absorb S0 (padT t) q).b)) 242 rfl kj (Qag 113 _ g7 1 114 _ (.int .u32 (wv (absorb S0 (padT t) q).b)) _ r7_20 rfl kj kj kj) <| sg 5 kj <| Qab (.int .u32 (wv (((absorb S0 (padT t) q).b)>>>16))) 248 rfl kj (Qa1 .shr _ _ _ _ .u32 .u64 _ _ _ rfl kj kj (QaQ _ _ _ _ _ _ (by decide) (Qba _ _ 16 rfl (by decide)))) <| Qab (.int .u8 (db (absorb S0 (padT t) q).b 65536)) 249 rfl kj (Qai kj (congrArg (Value.int .u8) (QaO (absorb S0 (padT t) q).b 16 65536 (by decide)))) <| sg 1 kj <| Qaj g156 _ (ints .u8 ([(db (absorb S0 (padT t) q).a 16777216),(db (absorb S0 (padT t) q).a 65536),(db (absorb S0 (padT t) q).a 256),(db (absorb S0 (padT t) q).a 1),(db (absorb S0 (padT t) q).b 16777216),(db (absorb S0 (padT t) q).b 65536),0,0,0,0,0,0,0,0,0,0,0,0,0,0,0,0,0,0,0,0,0,0,0,0,0,0])) 23 r156_20 rfl kj (Qao 5 _ _ g156 5 23 _ _ r156_20 rfl kj kj kj (show 5<32 by decide)) fun W21 p21 r156_21=>?_
  have x21:=Puts.ext p21 x20 b156
  refine Qak <| hK176 _ _ <| sgA kj ?_
  show Code.rounds _ _ _ 27 _ _
  show Code.wp _ _ (Exit.then (Code.rounds _ _ _ 26) _) _ _
  refine wp_seq_k fun K177 hK177=>sgB kj <| cond_true kj <| wp_skip <| hK177 _ _ <| wp_seq_k fun K179 hK179=>wp_block <| Qaf <| sg 4 kj ?_
  have r7_21:=(Puts.row p21 r7_20 (Qae r7_14_154 l156))
  refine Qab (.int .u32 (wv (absorb S0 (padT t) q).b)) 242 rfl kj (Qag 113 _ g7 1 114 _ (.int .u32 (wv (absorb S0 (padT t) q).b)) _ r7_21 rfl kj kj kj) <| sg 5 kj <| Qab (.int .u32 (wv (((absorb S0 (padT t) q).b)>>>8))) 248 rfl kj (Qa1 .shr _ _ _ _ .u32 .u64 _ _ _ rfl kj kj (QaQ _ _ _ _ _ _ (by decide) (Qba _ _ 8 rfl (by decide)))) <| Qab (.int .u8 (db (absorb S0 (padT t) q).b 256)) 249 rfl kj (Qai kj (congrArg (Value.int .u8) (QaO (absorb S0 (padT t) q).b 8 256 (by decide)))) <| sg 1 kj <| Qaj g156 _ (ints .u8 ([(db (absorb S0 (padT t) q).a 16777216),(db (absorb S0 (padT t) q).a 65536),(db (absorb S0 (padT t) q).a 256),(db (absorb S0 (padT t) q).a 1),(db (absorb S0 (padT t) q).b 16777216),(db (absorb S0 (padT t) q).b 65536),(db (absorb S0 (padT t) q).b 256),0,0,0,0,0,0,0,0,0,0,0,0,0,0,0,0,0,0,0,0,0,0,0,0,0])) 23 r156_21 rfl kj (Qao 5 _ _ g156 6 23 _ _ r156_21 rfl kj kj kj (show 6<32 by decide)) fun W22 p22 r156_22=>?_
  have x22:=Puts.ext p22 x21 b156
  refine Qak <| hK179 _ _ <| sgA kj ?_
  show Code.rounds _ _ _ 26 _ _
  show Code.wp _ _ (Exit.then (Code.rounds _ _ _ 25) _) _ _
  refine wp_seq_k fun K180 hK180=>sgB kj <| cond_true kj <| wp_skip <| hK180 _ _ <| wp_seq_k fun K182 hK182=>wp_block <| Qaf <| sg 4 kj ?_
  have r7_22:=(Puts.row p22 r7_21 (Qae r7_14_154 l156))
  refine Qab (.int .u32 (wv (absorb S0 (padT t) q).b)) 242 rfl kj (Qag 113 _ g7 1 114 _ (.int .u32 (wv (absorb S0 (padT t) q).b)) _ r7_22 rfl kj kj kj) <| sg 5 kj <| Qab (.int .u32 (wv (((absorb S0 (padT t) q).b)>>>0))) 248 rfl kj (Qa1 .shr _ _ _ _ .u32 .u64 _ _ _ rfl kj kj (QaQ _ _ _ _ _ _ (by decide) (Qba _ _ 0 rfl (by decide)))) <| Qab (.int .u8 (db (absorb S0 (padT t) q).b 1)) 249 rfl kj (Qai kj (congrArg (Value.int .u8) (QaO (absorb S0 (padT t) q).b 0 1 (by decide)))) <| sg 1 kj <| Qaj g156 _ (ints .u8 ([(db (absorb S0 (padT t) q).a 16777216),(db (absorb S0 (padT t) q).a 65536),(db (absorb S0 (padT t) q).a 256),(db (absorb S0 (padT t) q).a 1),(db (absorb S0 (padT t) q).b 16777216),(db (absorb S0 (padT t) q).b 65536),(db (absorb S0 (padT t) q).b 256),(db (absorb S0 (padT t) q).b 1),0,0,0,0,0,0,0,0,0,0,0,0,0,0,0,0,0,0,0,0,0,0,0,0])) 23 r156_22 rfl kj (Qao 5 _ _ g156 7 23 _ _ r156_22 rfl kj kj kj (show 7<32 by decide)) fun W23 p23 r156_23=>?_
  have x23:=Puts.ext p23 x22 b156
  refine Qak <| hK182 _ _ <| sgA kj ?_
  show Code.rounds _ _ _ 25 _ _
  show Code.wp _ _ (Exit.then (Code.rounds _ _ _ 24) _) _ _
  refine wp_seq_k fun K183 hK183=>sgB kj <| cond_true kj <| wp_skip <| hK183 _ _ <| wp_seq_k fun K185 hK185=>wp_block <| Qaf <| sg 4 kj ?_
  have r7_23:=(Puts.row p23 r7_22 (Qae r7_14_154 l156))
  refine Qab (.int .u32 (wv (absorb S0 (padT t) q).c)) 242 rfl kj (Qag 113 _ g7 2 114 _ (.int .u32 (wv (absorb S0 (padT t) q).c)) _ r7_23 rfl kj kj kj) <| sg 5 kj <| Qab (.int .u32 (wv (((absorb S0 (padT t) q).c)>>>24))) 248 rfl kj (Qa1 .shr _ _ _ _ .u32 .u64 _ _ _ rfl kj kj (QaQ _ _ _ _ _ _ (by decide) (Qba _ _ 24 rfl (by decide)))) <| Qab (.int .u8 (db (absorb S0 (padT t) q).c 16777216)) 249 rfl kj (Qai kj (congrArg (Value.int .u8) (QaO (absorb S0 (padT t) q).c 24 16777216 (by decide)))) <| sg 1 kj <| Qaj g156 _ (ints .u8 ([(db (absorb S0 (padT t) q).a 16777216),(db (absorb S0 (padT t) q).a 65536),(db (absorb S0 (padT t) q).a 256),(db (absorb S0 (padT t) q).a 1),(db (absorb S0 (padT t) q).b 16777216),(db (absorb S0 (padT t) q).b 65536),(db (absorb S0 (padT t) q).b 256),(db (absorb S0 (padT t) q).b 1),(db (absorb S0 (padT t) q).c 16777216),0,0,0,0,0,0,0,0,0,0,0,0,0,0,0,0,0,0,0,0,0,0,0])) 23 r156_23 rfl kj (Qao 5 _ _ g156 8 23 _ _ r156_23 rfl kj kj kj (show 8<32 by decide)) fun W24 p24 r156_24=>?_
  have x24:=Puts.ext p24 x23 b156
  refine Qak <| hK185 _ _ <| sgA kj ?_
  show Code.rounds _ _ _ 24 _ _
  show Code.wp _ _ (Exit.then (Code.rounds _ _ _ 23) _) _ _
  refine wp_seq_k fun K186 hK186=>sgB kj <| cond_true kj <| wp_skip <| hK186 _ _ <| wp_seq_k fun K188 hK188=>wp_block <| Qaf <| sg 4 kj ?_
  have r7_24:=(Puts.row p24 r7_23 (Qae r7_14_154 l156))
  refine Qab (.int .u32 (wv (absorb S0 (padT t) q).c)) 242 rfl kj (Qag 113 _ g7 2 114 _ (.int .u32 (wv (absorb S0 (padT t) q).c)) _ r7_24 rfl kj kj kj) <| sg 5 kj <| Qab (.int .u32 (wv (((absorb S0 (padT t) q).c)>>>16))) 248 rfl kj (Qa1 .shr _ _ _ _ .u32 .u64 _ _ _ rfl kj kj (QaQ _ _ _ _ _ _ (by decide) (Qba _ _ 16 rfl (by decide)))) <| Qab (.int .u8 (db (absorb S0 (padT t) q).c 65536)) 249 rfl kj (Qai kj (congrArg (Value.int .u8) (QaO (absorb S0 (padT t) q).c 16 65536 (by decide)))) <| sg 1 kj <| Qaj g156 _ (ints .u8 ([(db (absorb S0 (padT t) q).a 16777216),(db (absorb S0 (padT t) q).a 65536),(db (absorb S0 (padT t) q).a 256),(db (absorb S0 (padT t) q).a 1),(db (absorb S0 (padT t) q).b 16777216),(db (absorb S0 (padT t) q).b 65536),(db (absorb S0 (padT t) q).b 256),(db (absorb S0 (padT t) q).b 1),(db (absorb S0 (padT t) q).c 16777216),(db (absorb S0 (padT t) q).c 65536),0,0,0,0,0,0,0,0,0,0,0,0,0,0,0,0,0,0,0,0,0,0])) 23 r156_24 rfl kj (Qao 5 _ _ g156 9 23 _ _ r156_24 rfl kj kj kj (show 9<32 by decide)) fun W25 p25 r156_25=>?_
  have x25:=Puts.ext p25 x24 b156
  refine Qak <| hK188 _ _ <| sgA kj ?_
  show Code.rounds _ _ _ 23 _ _
  show Code.wp _ _ (Exit.then (Code.rounds _ _ _ 22) _) _ _
  refine wp_seq_k fun K189 hK189=>sgB kj <| cond_true kj <| wp_skip <| hK189 _ _ <| wp_seq_k fun K191 hK191=>wp_block <| Qaf <| sg 4 kj ?_
  have r7_25:=(Puts.row p25 r7_24 (Qae r7_14_154 l156))
  refine Qab (.int .u32 (wv (absorb S0 (padT t) q).c)) 242 rfl kj (Qag 113 _ g7 2 114 _ (.int .u32 (wv (absorb S0 (padT t) q).c)) _ r7_25 rfl kj kj kj) <| sg 5 kj <| Qab (.int .u32 (wv (((absorb S0 (padT t) q).c)>>>8))) 248 rfl kj (Qa1 .shr _ _ _ _ .u32 .u64 _ _ _ rfl kj kj (QaQ _ _ _ _ _ _ (by decide) (Qba _ _ 8 rfl (by decide)))) <| Qab (.int .u8 (db (absorb S0 (padT t) q).c 256)) 249 rfl kj (Qai kj (congrArg (Value.int .u8) (QaO (absorb S0 (padT t) q).c 8 256 (by decide)))) <| sg 1 kj <| Qaj g156 _ (ints .u8 ([(db (absorb S0 (padT t) q).a 16777216),(db (absorb S0 (padT t) q).a 65536),(db (absorb S0 (padT t) q).a 256),(db (absorb S0 (padT t) q).a 1),(db (absorb S0 (padT t) q).b 16777216),(db (absorb S0 (padT t) q).b 65536),(db (absorb S0 (padT t) q).b 256),(db (absorb S0 (padT t) q).b 1),(db (absorb S0 (padT t) q).c 16777216),(db (absorb S0 (padT t) q).c 65536),(db (absorb S0 (padT t) q).c 256),0,0,0,0,0,0,0,0,0,0,0,0,0,0,0,0,0,0,0,0,0])) 23 r156_25 rfl kj (Qao 5 _ _ g156 10 23 _ _ r156_25 rfl kj kj kj (show 10<32 by decide)) fun W26 p26 r156_26=>?_
  have x26:=Puts.ext p26 x25 b156
  refine Qak <| hK191 _ _ <| sgA kj ?_
  show Code.rounds _ _ _ 22 _ _
  show Code.wp _ _ (Exit.then (Code.rounds _ _ _ 21) _) _ _
  refine wp_seq_k fun K192 hK192=>sgB kj <| cond_true kj <| wp_skip <| hK192 _ _ <| wp_seq_k fun K194 hK194=>wp_block <| Qaf <| sg 4 kj ?_
  have r7_26:=(Puts.row p26 r7_25 (Qae r7_14_154 l156))
  refine Qab (.int .u32 (wv (absorb S0 (padT t) q).c)) 242 rfl kj (Qag 113 _ g7 2 114 _ (.int .u32 (wv (absorb S0 (padT t) q).c)) _ r7_26 rfl kj kj kj) <| sg 5 kj <| Qab (.int .u32 (wv (((absorb S0 (padT t) q).c)>>>0))) 248 rfl kj (Qa1 .shr _ _ _ _ .u32 .u64 _ _ _ rfl kj kj (QaQ _ _ _ _ _ _ (by decide) (Qba _ _ 0 rfl (by decide)))) <| Qab (.int .u8 (db (absorb S0 (padT t) q).c 1)) 249 rfl kj (Qai kj (congrArg (Value.int .u8) (QaO (absorb S0 (padT t) q).c 0 1 (by decide)))) <| sg 1 kj <| Qaj g156 _ (ints .u8 ([(db (absorb S0 (padT t) q).a 16777216),(db (absorb S0 (padT t) q).a 65536),(db (absorb S0 (padT t) q).a 256),(db (absorb S0 (padT t) q).a 1),(db (absorb S0 (padT t) q).b 16777216),(db (absorb S0 (padT t) q).b 65536),(db (absorb S0 (padT t) q).b 256),(db (absorb S0 (padT t) q).b 1),(db (absorb S0 (padT t) q).c 16777216),(db (absorb S0 (padT t) q).c 65536),(db (absorb S0 (padT t) q).c 256),(db (absorb S0 (padT t) q).c 1),0,0,0,0,0,0,0,0,0,0,0,0,0,0,0,0,0,0,0,0])) 23 r156_26 rfl kj (Qao 5 _ _ g156 11 23 _ _ r156_26 rfl kj kj kj (show 11<32 by decide)) fun W27 p27 r156_27=>?_
  have x27:=Puts.ext p27 x26 b156
  refine Qak <| hK194 _ _ <| sgA kj ?_
  show Code.rounds _ _ _ 21 _ _
  show Code.wp _ _ (Exit.then (Code.rounds _ _ _ 20) _) _ _
  refine wp_seq_k fun K195 hK195=>sgB kj <| cond_true kj <| wp_skip <| hK195 _ _ <| wp_seq_k fun K197 hK197=>wp_block <| Qaf <| sg 4 kj ?_
  have r7_27:=(Puts.row p27 r7_26 (Qae r7_14_154 l156))
  refine Qab (.int .u32 (wv (absorb S0 (padT t) q).d)) 242 rfl kj (Qag 113 _ g7 3 114 _ (.int .u32 (wv (absorb S0 (padT t) q).d)) _ r7_27 rfl kj kj kj) <| sg 5 kj <| Qab (.int .u32 (wv (((absorb S0 (padT t) q).d)>>>24))) 248 rfl kj (Qa1 .shr _ _ _ _ .u32 .u64 _ _ _ rfl kj kj (QaQ _ _ _ _ _ _ (by decide) (Qba _ _ 24 rfl (by decide)))) <| Qab (.int .u8 (db (absorb S0 (padT t) q).d 16777216)) 249 rfl kj (Qai kj (congrArg (Value.int .u8) (QaO (absorb S0 (padT t) q).d 24 16777216 (by decide)))) <| sg 1 kj <| Qaj g156 _ (ints .u8 ([(db (absorb S0 (padT t) q).a 16777216),(db (absorb S0 (padT t) q).a 65536),(db (absorb S0 (padT t) q).a 256),(db (absorb S0 (padT t) q).a 1),(db (absorb S0 (padT t) q).b 16777216),(db (absorb S0 (padT t) q).b 65536),(db (absorb S0 (padT t) q).b 256),(db (absorb S0 (padT t) q).b 1),(db (absorb S0 (padT t) q).c 16777216),(db (absorb S0 (padT t) q).c 65536),(db (absorb S0 (padT t) q).c 256),(db (absorb S0 (padT t) q).c 1),(db (absorb S0 (padT t) q).d 16777216),0,0,0,0,0,0,0,0,0,0,0,0,0,0,0,0,0,0,0])) 23 r156_27 rfl kj (Qao 5 _ _ g156 12 23 _ _ r156_27 rfl kj kj kj (show 12<32 by decide)) fun W28 p28 r156_28=>?_
  have x28:=Puts.ext p28 x27 b156
  refine Qak <| hK197 _ _ <| sgA kj ?_
  show Code.rounds _ _ _ 20 _ _
  show Code.wp _ _ (Exit.then (Code.rounds _ _ _ 19) _) _ _
  refine wp_seq_k fun K198 hK198=>sgB kj <| cond_true kj <| wp_skip <| hK198 _ _ <| wp_seq_k fun K200 hK200=>wp_block <| Qaf <| sg 4 kj ?_
  have r7_28:=(Puts.row p28 r7_27 (Qae r7_14_154 l156))
  refine Qab (.int .u32 (wv (absorb S0 (padT t) q).d)) 242 rfl kj (Qag 113 _ g7 3 114 _ (.int .u32 (wv (absorb S0 (padT t) q).d)) _ r7_28 rfl kj kj kj) <| sg 5 kj <| Qab (.int .u32 (wv (((absorb S0 (padT t) q).d)>>>16))) 248 rfl kj (Qa1 .shr _ _ _ _ .u32 .u64 _ _ _ rfl kj kj (QaQ _ _ _ _ _ _ (by decide) (Qba _ _ 16 rfl (by decide)))) <| Qab (.int .u8 (db (absorb S0 (padT t) q).d 65536)) 249 rfl kj (Qai kj (congrArg (Value.int .u8) (QaO (absorb S0 (padT t) q).d 16 65536 (by decide)))) <| sg 1 kj <| Qaj g156 _ (ints .u8 ([(db (absorb S0 (padT t) q).a 16777216),(db (absorb S0 (padT t) q).a 65536),(db (absorb S0 (padT t) q).a 256),(db (absorb S0 (padT t) q).a 1),(db (absorb S0 (padT t) q).b 16777216),(db (absorb S0 (padT t) q).b 65536),(db (absorb S0 (padT t) q).b 256),(db (absorb S0 (padT t) q).b 1),(db (absorb S0 (padT t) q).c 16777216),(db (absorb S0 (padT t) q).c 65536),(db (absorb S0 (padT t) q).c 256),(db (absorb S0 (padT t) q).c 1),(db (absorb S0 (padT t) q).d 16777216),(db (absorb S0 (padT t) q).d 65536),0,0,0,0,0,0,0,0,0,0,0,0,0,0,0,0,0,0])) 23 r156_28 rfl kj (Qao 5 _ _ g156 13 23 _ _ r156_28 rfl kj kj kj (show 13<32 by decide)) fun W29 p29 r156_29=>?_
  have x29:=Puts.ext p29 x28 b156
  refine Qak <| hK200 _ _ <| sgA kj ?_
  show Code.rounds _ _ _ 19 _ _
  show Code.wp _ _ (Exit.then (Code.rounds _ _ _ 18) _) _ _
  refine wp_seq_k fun K201 hK201=>sgB kj <| cond_true kj <| wp_skip <| hK201 _ _ <| wp_seq_k fun K203 hK203=>wp_block <| Qaf <| sg 4 kj ?_
  have r7_29:=(Puts.row p29 r7_28 (Qae r7_14_154 l156))
  refine Qab (.int .u32 (wv (absorb S0 (padT t) q).d)) 242 rfl kj (Qag 113 _ g7 3 114 _ (.int .u32 (wv (absorb S0 (padT t) q).d)) _ r7_29 rfl kj kj kj) <| sg 5 kj <| Qab (.int .u32 (wv (((absorb S0 (padT t) q).d)>>>8))) 248 rfl kj (Qa1 .shr _ _ _ _ .u32 .u64 _ _ _ rfl kj kj (QaQ _ _ _ _ _ _ (by decide) (Qba _ _ 8 rfl (by decide)))) <| Qab (.int .u8 (db (absorb S0 (padT t) q).d 256)) 249 rfl kj (Qai kj (congrArg (Value.int .u8) (QaO (absorb S0 (padT t) q).d 8 256 (by decide)))) <| sg 1 kj <| Qaj g156 _ (ints .u8 ([(db (absorb S0 (padT t) q).a 16777216),(db (absorb S0 (padT t) q).a 65536),(db (absorb S0 (padT t) q).a 256),(db (absorb S0 (padT t) q).a 1),(db (absorb S0 (padT t) q).b 16777216),(db (absorb S0 (padT t) q).b 65536),(db (absorb S0 (padT t) q).b 256),(db (absorb S0 (padT t) q).b 1),(db (absorb S0 (padT t) q).c 16777216),(db (absorb S0 (padT t) q).c 65536),(db (absorb S0 (padT t) q).c 256),(db (absorb S0 (padT t) q).c 1),(db (absorb S0 (padT t) q).d 16777216),(db (absorb S0 (padT t) q).d 65536),(db (absorb S0 (padT t) q).d 256),0,0,0,0,0,0,0,0,0,0,0,0,0,0,0,0,0])) 23 r156_29 rfl kj (Qao 5 _ _ g156 14 23 _ _ r156_29 rfl kj kj kj (show 14<32 by decide)) fun W30 p30 r156_30=>?_
  have x30:=Puts.ext p30 x29 b156
  refine Qak <| hK203 _ _ <| sgA kj ?_
  show Code.rounds _ _ _ 18 _ _
  show Code.wp _ _ (Exit.then (Code.rounds _ _ _ 17) _) _ _
  refine wp_seq_k fun K204 hK204=>sgB kj <| cond_true kj <| wp_skip <| hK204 _ _ <| wp_seq_k fun K206 hK206=>wp_block <| Qaf <| sg 4 kj ?_
  have r7_30:=(Puts.row p30 r7_29 (Qae r7_14_154 l156))
  refine Qab (.int .u32 (wv (absorb S0 (padT t) q).d)) 242 rfl kj (Qag 113 _ g7 3 114 _ (.int .u32 (wv (absorb S0 (padT t) q).d)) _ r7_30 rfl kj kj kj) <| sg 5 kj <| Qab (.int .u32 (wv (((absorb S0 (padT t) q).d)>>>0))) 248 rfl kj (Qa1 .shr _ _ _ _ .u32 .u64 _ _ _ rfl kj kj (QaQ _ _ _ _ _ _ (by decide) (Qba _ _ 0 rfl (by decide)))) <| Qab (.int .u8 (db (absorb S0 (padT t) q).d 1)) 249 rfl kj (Qai kj (congrArg (Value.int .u8) (QaO (absorb S0 (padT t) q).d 0 1 (by decide)))) <| sg 1 kj <| Qaj g156 _ (ints .u8 ([(db (absorb S0 (padT t) q).a 16777216),(db (absorb S0 (padT t) q).a 65536),(db (absorb S0 (padT t) q).a 256),(db (absorb S0 (padT t) q).a 1),(db (absorb S0 (padT t) q).b 16777216),(db (absorb S0 (padT t) q).b 65536),(db (absorb S0 (padT t) q).b 256),(db (absorb S0 (padT t) q).b 1),(db (absorb S0 (padT t) q).c 16777216),(db (absorb S0 (padT t) q).c 65536),(db (absorb S0 (padT t) q).c 256),(db (absorb S0 (padT t) q).c 1),(db (absorb S0 (padT t) q).d 16777216),(db (absorb S0 (padT t) q).d 65536),(db (absorb S0 (padT t) q).d 256),(db (absorb S0 (padT t) q).d 1),0,0,0,0,0,0,0,0,0,0,0,0,0,0,0,0])) 23 r156_30 rfl kj (Qao 5 _ _ g156 15 23 _ _ r156_30 rfl kj kj kj (show 15<32 by decide)) fun W31 p31 r156_31=>?_
  have x31:=Puts.ext p31 x30 b156
  refine Qak <| hK206 _ _ <| sgA kj ?_
  show Code.rounds _ _ _ 17 _ _
  show Code.wp _ _ (Exit.then (Code.rounds _ _ _ 16) _) _ _
  refine wp_seq_k fun K207 hK207=>sgB kj <| cond_true kj <| wp_skip <| hK207 _ _ <| wp_seq_k fun K209 hK209=>wp_block <| Qaf <| sg 4 kj ?_
  have r7_31:=(Puts.row p31 r7_30 (Qae r7_14_154 l156))
  refine Qab (.int .u32 (wv (absorb S0 (padT t) q).e)) 242 rfl kj (Qag 113 _ g7 4 114 _ (.int .u32 (wv (absorb S0 (padT t) q).e)) _ r7_31 rfl kj kj kj) <| sg 5 kj <| Qab (.int .u32 (wv (((absorb S0 (padT t) q).e)>>>24))) 248 rfl kj (Qa1 .shr _ _ _ _ .u32 .u64 _ _ _ rfl kj kj (QaQ _ _ _ _ _ _ (by decide) (Qba _ _ 24 rfl (by decide)))) <| Qab (.int .u8 (db (absorb S0 (padT t) q).e 16777216)) 249 rfl kj (Qai kj (congrArg (Value.int .u8) (QaO (absorb S0 (padT t) q).e 24 16777216 (by decide)))) <| sg 1 kj <| Qaj g156 _ (ints .u8 ([(db (absorb S0 (padT t) q).a 16777216),(db (absorb S0 (padT t) q).a 65536),(db (absorb S0 (padT t) q).a 256),(db (absorb S0 (padT t) q).a 1),(db (absorb S0 (padT t) q).b 16777216),(db (absorb S0 (padT t) q).b 65536),(db (absorb S0 (padT t) q).b 256),(db (absorb S0 (padT t) q).b 1),(db (absorb S0 (padT t) q).c 16777216),(db (absorb S0 (padT t) q).c 65536),(db (absorb S0 (padT t) q).c 256),(db (absorb S0 (padT t) q).c 1),(db (absorb S0 (padT t) q).d 16777216),(db (absorb S0 (padT t) q).d 65536),(db (absorb S0 (padT t) q).d 256),(db (absorb S0 (padT t) q).d 1),(db (absorb S0 (padT t) q).e 16777216),0,0,0,0,0,0,0,0,0,0,0,0,0,0,0])) 23 r156_31 rfl kj (Qao 5 _ _ g156 16 23 _ _ r156_31 rfl kj kj kj (show 16<32 by decide)) fun W32 p32 r156_32=>?_
  have x32:=Puts.ext p32 x31 b156
  refine Qak <| hK209 _ _ <| sgA kj ?_
  show Code.rounds _ _ _ 16 _ _
  show Code.wp _ _ (Exit.then (Code.rounds _ _ _ 15) _) _ _
  refine wp_seq_k fun K210 hK210=>sgB kj <| cond_true kj <| wp_skip <| hK210 _ _ <| wp_seq_k fun K212 hK212=>wp_block <| Qaf <| sg 4 kj ?_
  have r7_32:=(Puts.row p32 r7_31 (Qae r7_14_154 l156))
  refine Qab (.int .u32 (wv (absorb S0 (padT t) q).e)) 242 rfl kj (Qag 113 _ g7 4 114 _ (.int .u32 (wv (absorb S0 (padT t) q).e)) _ r7_32 rfl kj kj kj) <| sg 5 kj <| Qab (.int .u32 (wv (((absorb S0 (padT t) q).e)>>>16))) 248 rfl kj (Qa1 .shr _ _ _ _ .u32 .u64 _ _ _ rfl kj kj (QaQ _ _ _ _ _ _ (by decide) (Qba _ _ 16 rfl (by decide)))) <| Qab (.int .u8 (db (absorb S0 (padT t) q).e 65536)) 249 rfl kj (Qai kj (congrArg (Value.int .u8) (QaO (absorb S0 (padT t) q).e 16 65536 (by decide)))) <| sg 1 kj <| Qaj g156 _ (ints .u8 ([(db (absorb S0 (padT t) q).a 16777216),(db (absorb S0 (padT t) q).a 65536),(db (absorb S0 (padT t) q).a 256),(db (absorb S0 (padT t) q).a 1),(db (absorb S0 (padT t) q).b 16777216),(db (absorb S0 (padT t) q).b 65536),(db (absorb S0 (padT t) q).b 256),(db (absorb S0 (padT t) q).b 1),(db (absorb S0 (padT t) q).c 16777216),(db (absorb S0 (padT t) q).c 65536),(db (absorb S0 (padT t) q).c 256),(db (absorb S0 (padT t) q).c 1),(db (absorb S0 (padT t) q).d 16777216),(db (absorb S0 (padT t) q).d 65536),(db (absorb S0 (padT t) q).d 256),(db (absorb S0 (padT t) q).d 1),(db (absorb S0 (padT t) q).e 16777216),(db (absorb S0 (padT t) q).e 65536),0,0,0,0,0,0,0,0,0,0,0,0,0,0])) 23 r156_32 rfl kj (Qao 5 _ _ g156 17 23 _ _ r156_32 rfl kj kj kj (show 17<32 by decide)) fun W33 p33 r156_33=>?_
  have x33:=Puts.ext p33 x32 b156
  refine Qak <| hK212 _ _ <| sgA kj ?_
  show Code.rounds _ _ _ 15 _ _
  show Code.wp _ _ (Exit.then (Code.rounds _ _ _ 14) _) _ _
  refine wp_seq_k fun K213 hK213=>sgB kj <| cond_true kj <| wp_skip <| hK213 _ _ <| wp_seq_k fun K215 hK215=>wp_block <| Qaf <| sg 4 kj ?_
  have r7_33:=(Puts.row p33 r7_32 (Qae r7_14_154 l156))
  refine Qab (.int .u32 (wv (absorb S0 (padT t) q).e)) 242 rfl kj (Qag 113 _ g7 4 114 _ (.int .u32 (wv (absorb S0 (padT t) q).e)) _ r7_33 rfl kj kj kj) <| sg 5 kj <| Qab (.int .u32 (wv (((absorb S0 (padT t) q).e)>>>8))) 248 rfl kj (Qa1 .shr _ _ _ _ .u32 .u64 _ _ _ rfl kj kj (QaQ _ _ _ _ _ _ (by decide) (Qba _ _ 8 rfl (by decide)))) <| Qab (.int .u8 (db (absorb S0 (padT t) q).e 256)) 249 rfl kj (Qai kj (congrArg (Value.int .u8) (QaO (absorb S0 (padT t) q).e 8 256 (by decide)))) <| sg 1 kj <| Qaj g156 _ (ints .u8 ([(db (absorb S0 (padT t) q).a 16777216),(db (absorb S0 (padT t) q).a 65536),(db (absorb S0 (padT t) q).a 256),(db (absorb S0 (padT t) q).a 1),(db (absorb S0 (padT t) q).b 16777216),(db (absorb S0 (padT t) q).b 65536),(db (absorb S0 (padT t) q).b 256),(db (absorb S0 (padT t) q).b 1),(db (absorb S0 (padT t) q).c 16777216),(db (absorb S0 (padT t) q).c 65536),(db (absorb S0 (padT t) q).c 256),(db (absorb S0 (padT t) q).c 1),(db (absorb S0 (padT t) q).d 16777216),(db (absorb S0 (padT t) q).d 65536),(db (absorb S0 (padT t) q).d 256),(db (absorb S0 (padT t) q).d 1),(db (absorb S0 (padT t) q).e 16777216),(db (absorb S0 (padT t) q).e 65536),(db (absorb S0 (padT t) q).e 256),0,0,0,0,0,0,0,0,0,0,0,0,0])) 23 r156_33 rfl kj (Qao 5 _ _ g156 18 23 _ _ r156_33 rfl kj kj kj (show 18<32 by decide)) fun W34 p34 r156_34=>?_
  have x34:=Puts.ext p34 x33 b156
  refine Qak <| hK215 _ _ <| sgA kj ?_
  show Code.rounds _ _ _ 14 _ _
  show Code.wp _ _ (Exit.then (Code.rounds _ _ _ 13) _) _ _
  refine wp_seq_k fun K216 hK216=>sgB kj <| cond_true kj <| wp_skip <| hK216 _ _ <| wp_seq_k fun K218 hK218=>wp_block <| Qaf <| sg 4 kj ?_
  have r7_34:=(Puts.row p34 r7_33 (Qae r7_14_154 l156))
  refine Qab (.int .u32 (wv (absorb S0 (padT t) q).e)) 242 rfl kj (Qag 113 _ g7 4 114 _ (.int .u32 (wv (absorb S0 (padT t) q).e)) _ r7_34 rfl kj kj kj) <| sg 5 kj <| Qab (.int .u32 (wv (((absorb S0 (padT t) q).e)>>>0))) 248 rfl kj (Qa1 .shr _ _ _ _ .u32 .u64 _ _ _ rfl kj kj (QaQ _ _ _ _ _ _ (by decide) (Qba _ _ 0 rfl (by decide)))) <| Qab (.int .u8 (db (absorb S0 (padT t) q).e 1)) 249 rfl kj (Qai kj (congrArg (Value.int .u8) (QaO (absorb S0 (padT t) q).e 0 1 (by decide)))) <| sg 1 kj <| Qaj g156 _ (ints .u8 ([(db (absorb S0 (padT t) q).a 16777216),(db (absorb S0 (padT t) q).a 65536),(db (absorb S0 (padT t) q).a 256),(db (absorb S0 (padT t) q).a 1),(db (absorb S0 (padT t) q).b 16777216),(db (absorb S0 (padT t) q).b 65536),(db (absorb S0 (padT t) q).b 256),(db (absorb S0 (padT t) q).b 1),(db (absorb S0 (padT t) q).c 16777216),(db (absorb S0 (padT t) q).c 65536),(db (absorb S0 (padT t) q).c 256),(db (absorb S0 (padT t) q).c 1),(db (absorb S0 (padT t) q).d 16777216),(db (absorb S0 (padT t) q).d 65536),(db (absorb S0 (padT t) q).d 256),(db (absorb S0 (padT t) q).d 1),(db (absorb S0 (padT t) q).e 16777216),(db (absorb S0 (padT t) q).e 65536),(db (absorb S0 (padT t) q).e 256),(db (absorb S0 (padT t) q).e 1),0,0,0,0,0,0,0,0,0,0,0,0])) 23 r156_34 rfl kj (Qao 5 _ _ g156 19 23 _ _ r156_34 rfl kj kj kj (show 19<32 by decide)) fun W35 p35 r156_35=>?_
  have x35:=Puts.ext p35 x34 b156
  refine Qak <| hK218 _ _ <| sgA kj ?_
  show Code.rounds _ _ _ 13 _ _
  show Code.wp _ _ (Exit.then (Code.rounds _ _ _ 12) _) _ _
  refine wp_seq_k fun K219 hK219=>sgB kj <| cond_true kj <| wp_skip <| hK219 _ _ <| wp_seq_k fun K221 hK221=>wp_block <| Qaf <| sg 4 kj ?_
  have r7_35:=(Puts.row p35 r7_34 (Qae r7_14_154 l156))
  refine Qab (.int .u32 (wv (absorb S0 (padT t) q).f)) 242 rfl kj (Qag 113 _ g7 5 114 _ (.int .u32 (wv (absorb S0 (padT t) q).f)) _ r7_35 rfl kj kj kj) <| sg 5 kj <| Qab (.int .u32 (wv (((absorb S0 (padT t) q).f)>>>24))) 248 rfl kj (Qa1 .shr _ _ _ _ .u32 .u64 _ _ _ rfl kj kj (QaQ _ _ _ _ _ _ (by decide) (Qba _ _ 24 rfl (by decide)))) <| Qab (.int .u8 (db (absorb S0 (padT t) q).f 16777216)) 249 rfl kj (Qai kj (congrArg (Value.int .u8) (QaO (absorb S0 (padT t) q).f 24 16777216 (by decide)))) <| sg 1 kj <| Qaj g156 _ (ints .u8 ([(db (absorb S0 (padT t) q).a 16777216),(db (absorb S0 (padT t) q).a 65536),(db (absorb S0 (padT t) q).a 256),(db (absorb S0 (padT t) q).a 1),(db (absorb S0 (padT t) q).b 16777216),(db (absorb S0 (padT t) q).b 65536),(db (absorb S0 (padT t) q).b 256),(db (absorb S0 (padT t) q).b 1),(db (absorb S0 (padT t) q).c 16777216),(db (absorb S0 (padT t) q).c 65536),(db (absorb S0 (padT t) q).c 256),(db (absorb S0 (padT t) q).c 1),(db (absorb S0 (padT t) q).d 16777216),(db (absorb S0 (padT t) q).d 65536),(db (absorb S0 (padT t) q).d 256),(db (absorb S0 (padT t) q).d 1),(db (absorb S0 (padT t) q).e 16777216),(db (absorb S0 (padT t) q).e 65536),(db (absorb S0 (padT t) q).e 256),(db (absorb S0 (padT t) q).e 1),(db (absorb S0 (padT t) q).f 16777216),0,0,0,0,0,0,0,0,0,0,0])) 23 r156_35 rfl kj (Qao 5 _ _ g156 20 23 _ _ r156_35 rfl kj kj kj (show 20<32 by decide)) fun W36 p36 r156_36=>Qak <| hK221 _ _ <| sgA kj ?_
  show Code.rounds _ _ _ 12 _ _
  show Code.wp _ _ (Exit.then (Code.rounds _ _ _ 11) _) _ _
  refine wp_seq_k fun K222 hK222=>sgB kj <| cond_true kj <| wp_skip <| hK222 _ _ <| wp_seq_k fun K224 hK224=>wp_block <| Qaf <| sg 4 kj ?_
  have r7_36:=(Puts.row p36 r7_35 (Qae r7_14_154 l156))
  refine Qab (.int .u32 (wv (absorb S0 (padT t) q).f)) 242 rfl kj (Qag 113 _ g7 5 114 _ (.int .u32 (wv (absorb S0 (padT t) q).f)) _ r7_36 rfl kj kj kj) <| sg 5 kj <| Qab (.int .u32 (wv (((absorb S0 (padT t) q).f)>>>16))) 248 rfl kj (Qa1 .shr _ _ _ _ .u32 .u64 _ _ _ rfl kj kj (QaQ _ _ _ _ _ _ (by decide) (Qba _ _ 16 rfl (by decide)))) <| Qab (.int .u8 (db (absorb S0 (padT t) q).f 65536)) 249 rfl kj (Qai kj (congrArg (Value.int .u8) (QaO (absorb S0 (padT t) q).f 16 65536 (by decide)))) <| sg 1 kj <| Qaj g156 _ (ints .u8 ([(db (absorb S0 (padT t) q).a 16777216),(db (absorb S0 (padT t) q).a 65536),(db (absorb S0 (padT t) q).a 256),(db (absorb S0 (padT t) q).a 1),(db (absorb S0 (padT t) q).b 16777216),(db (absorb S0 (padT t) q).b 65536),(db (absorb S0 (padT t) q).b 256),(db (absorb S0 (padT t) q).b 1),(db (absorb S0 (padT t) q).c 16777216),(db (absorb S0 (padT t) q).c 65536),(db (absorb S0 (padT t) q).c 256),(db (absorb S0 (padT t) q).c 1),(db (absorb S0 (padT t) q).d 16777216),(db (absorb S0 (padT t) q).d 65536),(db (absorb S0 (padT t) q).d 256),(db (absorb S0 (padT t) q).d 1),(db (absorb S0 (padT t) q).e 16777216),(db (absorb S0 (padT t) q).e 65536),(db (absorb S0 (padT t) q).e 256),(db (absorb S0 (padT t) q).e 1),(db (absorb S0 (padT t) q).f 16777216),(db (absorb S0 (padT t) q).f 65536),0,0,0,0,0,0,0,0,0,0])) 23 r156_36 rfl kj (Qao 5 _ _ g156 21 23 _ _ r156_36 rfl kj kj kj (show 21<32 by decide)) fun W37 p37 r156_37=>Qak <| hK224 _ _ <| sgA kj ?_
  show Code.rounds _ _ _ 11 _ _
  show Code.wp _ _ (Exit.then (Code.rounds _ _ _ 10) _) _ _
  refine wp_seq_k fun K225 hK225=>sgB kj <| cond_true kj <| wp_skip <| hK225 _ _ <| wp_seq_k fun K227 hK227=>wp_block <| Qaf <| sg 4 kj ?_
  have r7_37:=(Puts.row p37 r7_36 (Qae r7_14_154 l156))
  refine Qab (.int .u32 (wv (absorb S0 (padT t) q).f)) 242 rfl kj (Qag 113 _ g7 5 114 _ (.int .u32 (wv (absorb S0 (padT t) q).f)) _ r7_37 rfl kj kj kj) <| sg 5 kj <| Qab (.int .u32 (wv (((absorb S0 (padT t) q).f)>>>8))) 248 rfl kj (Qa1 .shr _ _ _ _ .u32 .u64 _ _ _ rfl kj kj (QaQ _ _ _ _ _ _ (by decide) (Qba _ _ 8 rfl (by decide)))) <| Qab (.int .u8 (db (absorb S0 (padT t) q).f 256)) 249 rfl kj (Qai kj (congrArg (Value.int .u8) (QaO (absorb S0 (padT t) q).f 8 256 (by decide)))) <| sg 1 kj <| Qaj g156 _ (ints .u8 ([(db (absorb S0 (padT t) q).a 16777216),(db (absorb S0 (padT t) q).a 65536),(db (absorb S0 (padT t) q).a 256),(db (absorb S0 (padT t) q).a 1),(db (absorb S0 (padT t) q).b 16777216),(db (absorb S0 (padT t) q).b 65536),(db (absorb S0 (padT t) q).b 256),(db (absorb S0 (padT t) q).b 1),(db (absorb S0 (padT t) q).c 16777216),(db (absorb S0 (padT t) q).c 65536),(db (absorb S0 (padT t) q).c 256),(db (absorb S0 (padT t) q).c 1),(db (absorb S0 (padT t) q).d 16777216),(db (absorb S0 (padT t) q).d 65536),(db (absorb S0 (padT t) q).d 256),(db (absorb S0 (padT t) q).d 1),(db (absorb S0 (padT t) q).e 16777216),(db (absorb S0 (padT t) q).e 65536),(db (absorb S0 (padT t) q).e 256),(db (absorb S0 (padT t) q).e 1),(db (absorb S0 (padT t) q).f 16777216),(db (absorb S0 (padT t) q).f 65536),(db (absorb S0 (padT t) q).f 256),0,0,0,0,0,0,0,0,0])) 23 r156_37 rfl kj (Qao 5 _ _ g156 22 23 _ _ r156_37 rfl kj kj kj (show 22<32 by decide)) fun W38 p38 r156_38=>Qak <| hK227 _ _ <| sgA kj ?_
  show Code.rounds _ _ _ 10 _ _
  show Code.wp _ _ (Exit.then (Code.rounds _ _ _ 9) _) _ _
  refine wp_seq_k fun K228 hK228=>sgB kj <| cond_true kj <| wp_skip <| hK228 _ _ <| wp_seq_k fun K230 hK230=>wp_block <| Qaf <| sg 4 kj ?_
  have r7_38:=(Puts.row p38 r7_37 (Qae r7_14_154 l156))
  refine Qab (.int .u32 (wv (absorb S0 (padT t) q).f)) 242 rfl kj (Qag 113 _ g7 5 114 _ (.int .u32 (wv (absorb S0 (padT t) q).f)) _ r7_38 rfl kj kj kj) <| sg 5 kj <| Qab (.int .u32 (wv (((absorb S0 (padT t) q).f)>>>0))) 248 rfl kj (Qa1 .shr _ _ _ _ .u32 .u64 _ _ _ rfl kj kj (QaQ _ _ _ _ _ _ (by decide) (Qba _ _ 0 rfl (by decide)))) <| Qab (.int .u8 (db (absorb S0 (padT t) q).f 1)) 249 rfl kj (Qai kj (congrArg (Value.int .u8) (QaO (absorb S0 (padT t) q).f 0 1 (by decide)))) <| sg 1 kj <| Qaj g156 _ (ints .u8 ([(db (absorb S0 (padT t) q).a 16777216),(db (absorb S0 (padT t) q).a 65536),(db (absorb S0 (padT t) q).a 256),(db (absorb S0 (padT t) q).a 1),(db (absorb S0 (padT t) q).b 16777216),(db (absorb S0 (padT t) q).b 65536),(db (absorb S0 (padT t) q).b 256),(db (absorb S0 (padT t) q).b 1),(db (absorb S0 (padT t) q).c 16777216),(db (absorb S0 (padT t) q).c 65536),(db (absorb S0 (padT t) q).c 256),(db (absorb S0 (padT t) q).c 1),(db (absorb S0 (padT t) q).d 16777216),(db (absorb S0 (padT t) q).d 65536),(db (absorb S0 (padT t) q).d 256),(db (absorb S0 (padT t) q).d 1),(db (absorb S0 (padT t) q).e 16777216),(db (absorb S0 (padT t) q).e 65536),(db (absorb S0 (padT t) q).e 256),(db (absorb S0 (padT t) q).e 1),(db (absorb S0 (padT t) q).f 16777216),(db (absorb S0 (padT t) q).f 65536),(db (absorb S0 (padT t) q).f 256),(db (absorb S0 (padT t) q).f 1),0,0,0,0,0,0,0,0])) 23 r156_38 rfl kj (Qao 5 _ _ g156 23 23 _ _ r156_38 rfl kj kj kj (show 23<32 by decide)) fun W39 p39 r156_39=>Qak <| hK230 _ _ <| sgA kj ?_
  show Code.rounds _ _ _ 9 _ _
  show Code.wp _ _ (Exit.then (Code.rounds _ _ _ 8) _) _ _
  refine wp_seq_k fun K231 hK231=>sgB kj <| cond_true kj <| wp_skip <| hK231 _ _ <| wp_seq_k fun K233 hK233=>wp_block <| Qaf <| sg 4 kj ?_
  have r7_39:=(Puts.row p39 r7_38 (Qae r7_14_154 l156))
  refine Qab (.int .u32 (wv (absorb S0 (padT t) q).g)) 242 rfl kj (Qag 113 _ g7 6 114 _ (.int .u32 (wv (absorb S0 (padT t) q).g)) _ r7_39 rfl kj kj kj) <| sg 5 kj <| Qab (.int .u32 (wv (((absorb S0 (padT t) q).g)>>>24))) 248 rfl kj (Qa1 .shr _ _ _ _ .u32 .u64 _ _ _ rfl kj kj (QaQ _ _ _ _ _ _ (by decide) (Qba _ _ 24 rfl (by decide)))) <| Qab (.int .u8 (db (absorb S0 (padT t) q).g 16777216)) 249 rfl kj (Qai kj (congrArg (Value.int .u8) (QaO (absorb S0 (padT t) q).g 24 16777216 (by decide)))) <| sg 1 kj <| Qaj g156 _ (ints .u8 ([(db (absorb S0 (padT t) q).a 16777216),(db (absorb S0 (padT t) q).a 65536),(db (absorb S0 (padT t) q).a 256),(db (absorb S0 (padT t) q).a 1),(db (absorb S0 (padT t) q).b 16777216),(db (absorb S0 (padT t) q).b 65536),(db (absorb S0 (padT t) q).b 256),(db (absorb S0 (padT t) q).b 1),(db (absorb S0 (padT t) q).c 16777216),(db (absorb S0 (padT t) q).c 65536),(db (absorb S0 (padT t) q).c 256),(db (absorb S0 (padT t) q).c 1),(db (absorb S0 (padT t) q).d 16777216),(db (absorb S0 (padT t) q).d 65536),(db (absorb S0 (padT t) q).d 256),(db (absorb S0 (padT t) q).d 1),(db (absorb S0 (padT t) q).e 16777216),(db (absorb S0 (padT t) q).e 65536),(db (absorb S0 (padT t) q).e 256),(db (absorb S0 (padT t) q).e 1),(db (absorb S0 (padT t) q).f 16777216),(db (absorb S0 (padT t) q).f 65536),(db (absorb S0 (padT t) q).f 256),(db (absorb S0 (padT t) q).f 1),(db (absorb S0 (padT t) q).g 16777216),0,0,0,0,0,0,0])) 23 r156_39 rfl kj (Qao 5 _ _ g156 24 23 _ _ r156_39 rfl kj kj kj (show 24<32 by decide)) fun W40 p40 r156_40=>Qak <| hK233 _ _ <| sgA kj ?_
  show Code.rounds _ _ _ 8 _ _
  show Code.wp _ _ (Exit.then (Code.rounds _ _ _ 7) _) _ _
  refine wp_seq_k fun K234 hK234=>sgB kj <| cond_true kj <| wp_skip <| hK234 _ _ <| wp_seq_k fun K236 hK236=>wp_block <| Qaf <| sg 4 kj ?_
  have r7_40:=(Puts.row p40 r7_39 (Qae r7_14_154 l156))
  refine Qab (.int .u32 (wv (absorb S0 (padT t) q).g)) 242 rfl kj (Qag 113 _ g7 6 114 _ (.int .u32 (wv (absorb S0 (padT t) q).g)) _ r7_40 rfl kj kj kj) <| sg 5 kj <| Qab (.int .u32 (wv (((absorb S0 (padT t) q).g)>>>16))) 248 rfl kj (Qa1 .shr _ _ _ _ .u32 .u64 _ _ _ rfl kj kj (QaQ _ _ _ _ _ _ (by decide) (Qba _ _ 16 rfl (by decide)))) <| Qab (.int .u8 (db (absorb S0 (padT t) q).g 65536)) 249 rfl kj (Qai kj (congrArg (Value.int .u8) (QaO (absorb S0 (padT t) q).g 16 65536 (by decide)))) <| sg 1 kj <| Qaj g156 _ (ints .u8 ([(db (absorb S0 (padT t) q).a 16777216),(db (absorb S0 (padT t) q).a 65536),(db (absorb S0 (padT t) q).a 256),(db (absorb S0 (padT t) q).a 1),(db (absorb S0 (padT t) q).b 16777216),(db (absorb S0 (padT t) q).b 65536),(db (absorb S0 (padT t) q).b 256),(db (absorb S0 (padT t) q).b 1),(db (absorb S0 (padT t) q).c 16777216),(db (absorb S0 (padT t) q).c 65536),(db (absorb S0 (padT t) q).c 256),(db (absorb S0 (padT t) q).c 1),(db (absorb S0 (padT t) q).d 16777216),(db (absorb S0 (padT t) q).d 65536),(db (absorb S0 (padT t) q).d 256),(db (absorb S0 (padT t) q).d 1),(db (absorb S0 (padT t) q).e 16777216),(db (absorb S0 (padT t) q).e 65536),(db (absorb S0 (padT t) q).e 256),(db (absorb S0 (padT t) q).e 1),(db (absorb S0 (padT t) q).f 16777216),(db (absorb S0 (padT t) q).f 65536),(db (absorb S0 (padT t) q).f 256),(db (absorb S0 (padT t) q).f 1),(db (absorb S0 (padT t) q).g 16777216),(db (absorb S0 (padT t) q).g 65536),0,0,0,0,0,0])) 23 r156_40 rfl kj (Qao 5 _ _ g156 25 23 _ _ r156_40 rfl kj kj kj (show 25<32 by decide)) fun W41 p41 r156_41=>Qak <| hK236 _ _ <| sgA kj ?_
  show Code.rounds _ _ _ 7 _ _
  show Code.wp _ _ (Exit.then (Code.rounds _ _ _ 6) _) _ _
  refine wp_seq_k fun K237 hK237=>sgB kj <| cond_true kj <| wp_skip <| hK237 _ _ <| wp_seq_k fun K239 hK239=>wp_block <| Qaf <| sg 4 kj ?_
  have r7_41:=(Puts.row p41 r7_40 (Qae r7_14_154 l156))
  refine Qab (.int .u32 (wv (absorb S0 (padT t) q).g)) 242 rfl kj (Qag 113 _ g7 6 114 _ (.int .u32 (wv (absorb S0 (padT t) q).g)) _ r7_41 rfl kj kj kj) <| sg 5 kj <| Qab (.int .u32 (wv (((absorb S0 (padT t) q).g)>>>8))) 248 rfl kj (Qa1 .shr _ _ _ _ .u32 .u64 _ _ _ rfl kj kj (QaQ _ _ _ _ _ _ (by decide) (Qba _ _ 8 rfl (by decide)))) <| Qab (.int .u8 (db (absorb S0 (padT t) q).g 256)) 249 rfl kj (Qai kj (congrArg (Value.int .u8) (QaO (absorb S0 (padT t) q).g 8 256 (by decide)))) <| sg 1 kj <| Qaj g156 _ (ints .u8 ([(db (absorb S0 (padT t) q).a 16777216),(db (absorb S0 (padT t) q).a 65536),(db (absorb S0 (padT t) q).a 256),(db (absorb S0 (padT t) q).a 1),(db (absorb S0 (padT t) q).b 16777216),(db (absorb S0 (padT t) q).b 65536),(db (absorb S0 (padT t) q).b 256),(db (absorb S0 (padT t) q).b 1),(db (absorb S0 (padT t) q).c 16777216),(db (absorb S0 (padT t) q).c 65536),(db (absorb S0 (padT t) q).c 256),(db (absorb S0 (padT t) q).c 1),(db (absorb S0 (padT t) q).d 16777216),(db (absorb S0 (padT t) q).d 65536),(db (absorb S0 (padT t) q).d 256),(db (absorb S0 (padT t) q).d 1),(db (absorb S0 (padT t) q).e 16777216),(db (absorb S0 (padT t) q).e 65536),(db (absorb S0 (padT t) q).e 256),(db (absorb S0 (padT t) q).e 1),(db (absorb S0 (padT t) q).f 16777216),(db (absorb S0 (padT t) q).f 65536),(db (absorb S0 (padT t) q).f 256),(db (absorb S0 (padT t) q).f 1),(db (absorb S0 (padT t) q).g 16777216),(db (absorb S0 (padT t) q).g 65536),(db (absorb S0 (padT t) q).g 256),0,0,0,0,0])) 23 r156_41 rfl kj (Qao 5 _ _ g156 26 23 _ _ r156_41 rfl kj kj kj (show 26<32 by decide)) fun W42 p42 r156_42=>Qak <| hK239 _ _ <| sgA kj ?_
  show Code.rounds _ _ _ 6 _ _
  show Code.wp _ _ (Exit.then (Code.rounds _ _ _ 5) _) _ _
  refine wp_seq_k fun K240 hK240=>sgB kj <| cond_true kj <| wp_skip <| hK240 _ _ <| wp_seq_k fun K242 hK242=>wp_block <| Qaf <| sg 4 kj ?_
  have r7_42:=(Puts.row p42 r7_41 (Qae r7_14_154 l156))
  refine Qab (.int .u32 (wv (absorb S0 (padT t) q).g)) 242 rfl kj (Qag 113 _ g7 6 114 _ (.int .u32 (wv (absorb S0 (padT t) q).g)) _ r7_42 rfl kj kj kj) <| sg 5 kj <| Qab (.int .u32 (wv (((absorb S0 (padT t) q).g)>>>0))) 248 rfl kj (Qa1 .shr _ _ _ _ .u32 .u64 _ _ _ rfl kj kj (QaQ _ _ _ _ _ _ (by decide) (Qba _ _ 0 rfl (by decide)))) <| Qab (.int .u8 (db (absorb S0 (padT t) q).g 1)) 249 rfl kj (Qai kj (congrArg (Value.int .u8) (QaO (absorb S0 (padT t) q).g 0 1 (by decide)))) <| sg 1 kj <| Qaj g156 _ (ints .u8 ([(db (absorb S0 (padT t) q).a 16777216),(db (absorb S0 (padT t) q).a 65536),(db (absorb S0 (padT t) q).a 256),(db (absorb S0 (padT t) q).a 1),(db (absorb S0 (padT t) q).b 16777216),(db (absorb S0 (padT t) q).b 65536),(db (absorb S0 (padT t) q).b 256),(db (absorb S0 (padT t) q).b 1),(db (absorb S0 (padT t) q).c 16777216),(db (absorb S0 (padT t) q).c 65536),(db (absorb S0 (padT t) q).c 256),(db (absorb S0 (padT t) q).c 1),(db (absorb S0 (padT t) q).d 16777216),(db (absorb S0 (padT t) q).d 65536),(db (absorb S0 (padT t) q).d 256),(db (absorb S0 (padT t) q).d 1),(db (absorb S0 (padT t) q).e 16777216),(db (absorb S0 (padT t) q).e 65536),(db (absorb S0 (padT t) q).e 256),(db (absorb S0 (padT t) q).e 1),(db (absorb S0 (padT t) q).f 16777216),(db (absorb S0 (padT t) q).f 65536),(db (absorb S0 (padT t) q).f 256),(db (absorb S0 (padT t) q).f 1),(db (absorb S0 (padT t) q).g 16777216),(db (absorb S0 (padT t) q).g 65536),(db (absorb S0 (padT t) q).g 256),(db (absorb S0 (padT t) q).g 1),0,0,0,0])) 23 r156_42 rfl kj (Qao 5 _ _ g156 27 23 _ _ r156_42 rfl kj kj kj (show 27<32 by decide)) fun W43 p43 r156_43=>Qak <| hK242 _ _ <| sgA kj ?_
  show Code.rounds _ _ _ 5 _ _
  show Code.wp _ _ (Exit.then (Code.rounds _ _ _ 4) _) _ _
  refine wp_seq_k fun K243 hK243=>sgB kj <| cond_true kj <| wp_skip <| hK243 _ _ <| wp_seq_k fun K245 hK245=>wp_block <| Qaf <| sg 4 kj ?_
  have r7_43:=(Puts.row p43 r7_42 (Qae r7_14_154 l156))
  refine Qab (.int .u32 (wv (absorb S0 (padT t) q).h)) 242 rfl kj (Qag 113 _ g7 7 114 _ (.int .u32 (wv (absorb S0 (padT t) q).h)) _ r7_43 rfl kj kj kj) <| sg 5 kj <| Qab (.int .u32 (wv (((absorb S0 (padT t) q).h)>>>24))) 248 rfl kj (Qa1 .shr _ _ _ _ .u32 .u64 _ _ _ rfl kj kj (QaQ _ _ _ _ _ _ (by decide) (Qba _ _ 24 rfl (by decide)))) <| Qab (.int .u8 (db (absorb S0 (padT t) q).h 16777216)) 249 rfl kj (Qai kj (congrArg (Value.int .u8) (QaO (absorb S0 (padT t) q).h 24 16777216 (by decide)))) <| sg 1 kj <| Qaj g156 _ (ints .u8 ([(db (absorb S0 (padT t) q).a 16777216),(db (absorb S0 (padT t) q).a 65536),(db (absorb S0 (padT t) q).a 256),(db (absorb S0 (padT t) q).a 1),(db (absorb S0 (padT t) q).b 16777216),(db (absorb S0 (padT t) q).b 65536),(db (absorb S0 (padT t) q).b 256),(db (absorb S0 (padT t) q).b 1),(db (absorb S0 (padT t) q).c 16777216),(db (absorb S0 (padT t) q).c 65536),(db (absorb S0 (padT t) q).c 256),(db (absorb S0 (padT t) q).c 1),(db (absorb S0 (padT t) q).d 16777216),(db (absorb S0 (padT t) q).d 65536),(db (absorb S0 (padT t) q).d 256),(db (absorb S0 (padT t) q).d 1),(db (absorb S0 (padT t) q).e 16777216),(db (absorb S0 (padT t) q).e 65536),(db (absorb S0 (padT t) q).e 256),(db (absorb S0 (padT t) q).e 1),(db (absorb S0 (padT t) q).f 16777216),(db (absorb S0 (padT t) q).f 65536),(db (absorb S0 (padT t) q).f 256),(db (absorb S0 (padT t) q).f 1),(db (absorb S0 (padT t) q).g 16777216),(db (absorb S0 (padT t) q).g 65536),(db (absorb S0 (padT t) q).g 256),(db (absorb S0 (padT t) q).g 1),(db (absorb S0 (padT t) q).h 16777216),0,0,0])) 23 r156_43 rfl kj (Qao 5 _ _ g156 28 23 _ _ r156_43 rfl kj kj kj (show 28<32 by decide)) fun W44 p44 r156_44=>Qak <| hK245 _ _ <| sgA kj ?_
  show Code.rounds _ _ _ 4 _ _
  show Code.wp _ _ (Exit.then (Code.rounds _ _ _ 3) _) _ _
  refine wp_seq_k fun K246 hK246=>sgB kj <| cond_true kj <| wp_skip <| hK246 _ _ <| wp_seq_k fun K248 hK248=>wp_block <| Qaf <| sg 4 kj ?_
  have r7_44:=(Puts.row p44 r7_43 (Qae r7_14_154 l156))
  refine Qab (.int .u32 (wv (absorb S0 (padT t) q).h)) 242 rfl kj (Qag 113 _ g7 7 114 _ (.int .u32 (wv (absorb S0 (padT t) q).h)) _ r7_44 rfl kj kj kj) <| sg 5 kj <| Qab (.int .u32 (wv (((absorb S0 (padT t) q).h)>>>16))) 248 rfl kj (Qa1 .shr _ _ _ _ .u32 .u64 _ _ _ rfl kj kj (QaQ _ _ _ _ _ _ (by decide) (Qba _ _ 16 rfl (by decide)))) <| Qab (.int .u8 (db (absorb S0 (padT t) q).h 65536)) 249 rfl kj (Qai kj (congrArg (Value.int .u8) (QaO (absorb S0 (padT t) q).h 16 65536 (by decide)))) <| sg 1 kj <| Qaj g156 _ (ints .u8 ([(db (absorb S0 (padT t) q).a 16777216),(db (absorb S0 (padT t) q).a 65536),(db (absorb S0 (padT t) q).a 256),(db (absorb S0 (padT t) q).a 1),(db (absorb S0 (padT t) q).b 16777216),(db (absorb S0 (padT t) q).b 65536),(db (absorb S0 (padT t) q).b 256),(db (absorb S0 (padT t) q).b 1),(db (absorb S0 (padT t) q).c 16777216),(db (absorb S0 (padT t) q).c 65536),(db (absorb S0 (padT t) q).c 256),(db (absorb S0 (padT t) q).c 1),(db (absorb S0 (padT t) q).d 16777216),(db (absorb S0 (padT t) q).d 65536),(db (absorb S0 (padT t) q).d 256),(db (absorb S0 (padT t) q).d 1),(db (absorb S0 (padT t) q).e 16777216),(db (absorb S0 (padT t) q).e 65536),(db (absorb S0 (padT t) q).e 256),(db (absorb S0 (padT t) q).e 1),(db (absorb S0 (padT t) q).f 16777216),(db (absorb S0 (padT t) q).f 65536),(db (absorb S0 (padT t) q).f 256),(db (absorb S0 (padT t) q).f 1),(db (absorb S0 (padT t) q).g 16777216),(db (absorb S0 (padT t) q).g 65536),(db (absorb S0 (padT t) q).g 256),(db (absorb S0 (padT t) q).g 1),(db (absorb S0 (padT t) q).h 16777216),(db (absorb S0 (padT t) q).h 65536),0,0])) 23 r156_44 rfl kj (Qao 5 _ _ g156 29 23 _ _ r156_44 rfl kj kj kj (show 29<32 by decide)) fun W45 p45 r156_45=>Qak <| hK248 _ _ <| sgA kj ?_
  show Code.rounds _ _ _ 3 _ _
  show Code.wp _ _ (Exit.then (Code.rounds _ _ _ 2) _) _ _
  refine wp_seq_k fun K249 hK249=>sgB kj <| cond_true kj <| wp_skip <| hK249 _ _ <| wp_seq_k fun K251 hK251=>wp_block <| Qaf <| sg 4 kj ?_
  have r7_45:=(Puts.row p45 r7_44 (Qae r7_14_154 l156))
  refine Qab (.int .u32 (wv (absorb S0 (padT t) q).h)) 242 rfl kj (Qag 113 _ g7 7 114 _ (.int .u32 (wv (absorb S0 (padT t) q).h)) _ r7_45 rfl kj kj kj) <| sg 5 kj <| Qab (.int .u32 (wv (((absorb S0 (padT t) q).h)>>>8))) 248 rfl kj (Qa1 .shr _ _ _ _ .u32 .u64 _ _ _ rfl kj kj (QaQ _ _ _ _ _ _ (by decide) (Qba _ _ 8 rfl (by decide)))) <| Qab (.int .u8 (db (absorb S0 (padT t) q).h 256)) 249 rfl kj (Qai kj (congrArg (Value.int .u8) (QaO (absorb S0 (padT t) q).h 8 256 (by decide)))) <| sg 1 kj <| Qaj g156 _ (ints .u8 ([(db (absorb S0 (padT t) q).a 16777216),(db (absorb S0 (padT t) q).a 65536),(db (absorb S0 (padT t) q).a 256),(db (absorb S0 (padT t) q).a 1),(db (absorb S0 (padT t) q).b 16777216),(db (absorb S0 (padT t) q).b 65536),(db (absorb S0 (padT t) q).b 256),(db (absorb S0 (padT t) q).b 1),(db (absorb S0 (padT t) q).c 16777216),(db (absorb S0 (padT t) q).c 65536),(db (absorb S0 (padT t) q).c 256),(db (absorb S0 (padT t) q).c 1),(db (absorb S0 (padT t) q).d 16777216),(db (absorb S0 (padT t) q).d 65536),(db (absorb S0 (padT t) q).d 256),(db (absorb S0 (padT t) q).d 1),(db (absorb S0 (padT t) q).e 16777216),(db (absorb S0 (padT t) q).e 65536),(db (absorb S0 (padT t) q).e 256),(db (absorb S0 (padT t) q).e 1),(db (absorb S0 (padT t) q).f 16777216),(db (absorb S0 (padT t) q).f 65536),(db (absorb S0 (padT t) q).f 256),(db (absorb S0 (padT t) q).f 1),(db (absorb S0 (padT t) q).g 16777216),(db (absorb S0 (padT t) q).g 65536),(db (absorb S0 (padT t) q).g 256),(db (absorb S0 (padT t) q).g 1),(db (absorb S0 (padT t) q).h 16777216),(db (absorb S0 (padT t) q).h 65536),(db (absorb S0 (padT t) q).h 256),0])) 23 r156_45 rfl kj (Qao 5 _ _ g156 30 23 _ _ r156_45 rfl kj kj kj (show 30<32 by decide)) fun W46 p46 r156_46=>Qak <| hK251 _ _ <| sgA kj ?_
  show Code.rounds _ _ _ 2 _ _
  show Code.wp _ _ (Exit.then (Code.rounds _ _ _ 1) _) _ _
  refine wp_seq_k fun K252 hK252=>sgB kj <| cond_true kj <| wp_skip <| hK252 _ _ <| wp_seq_k fun K254 hK254=>wp_block <| Qaf <| sg 4 kj <| Qab (.int .u32 (wv (absorb S0 (padT t) q).h)) 242 rfl kj (Qag 113 _ g7 7 114 _ (.int .u32 (wv (absorb S0 (padT t) q).h)) _ (Puts.row p46 r7_45 (Qae r7_14_154 l156)) rfl kj kj kj) ?_
  refine sg 5 kj <| Qab (.int .u32 (wv (((absorb S0 (padT t) q).h)>>>0))) 248 rfl kj (Qa1 .shr _ _ _ _ .u32 .u64 _ _ _ rfl kj kj (QaQ _ _ _ _ _ _ (by decide) (Qba _ _ 0 rfl (by decide)))) <| Qab (.int .u8 (db (absorb S0 (padT t) q).h 1)) 249 rfl kj (Qai kj (congrArg (Value.int .u8) (QaO (absorb S0 (padT t) q).h 0 1 (by decide)))) <| sg 1 kj <| Qaj g156 _ (ints .u8 ([(db (absorb S0 (padT t) q).a 16777216),(db (absorb S0 (padT t) q).a 65536),(db (absorb S0 (padT t) q).a 256),(db (absorb S0 (padT t) q).a 1),(db (absorb S0 (padT t) q).b 16777216),(db (absorb S0 (padT t) q).b 65536),(db (absorb S0 (padT t) q).b 256),(db (absorb S0 (padT t) q).b 1),(db (absorb S0 (padT t) q).c 16777216),(db (absorb S0 (padT t) q).c 65536),(db (absorb S0 (padT t) q).c 256),(db (absorb S0 (padT t) q).c 1),(db (absorb S0 (padT t) q).d 16777216),(db (absorb S0 (padT t) q).d 65536),(db (absorb S0 (padT t) q).d 256),(db (absorb S0 (padT t) q).d 1),(db (absorb S0 (padT t) q).e 16777216),(db (absorb S0 (padT t) q).e 65536),(db (absorb S0 (padT t) q).e 256),(db (absorb S0 (padT t) q).e 1),(db (absorb S0 (padT t) q).f 16777216),(db (absorb S0 (padT t) q).f 65536),(db (absorb S0 (padT t) q).f 256),(db (absorb S0 (padT t) q).f 1),(db (absorb S0 (padT t) q).g 16777216),(db (absorb S0 (padT t) q).g 65536),(db (absorb S0 (padT t) q).g 256),(db (absorb S0 (padT t) q).g 1),(db (absorb S0 (padT t) q).h 16777216),(db (absorb S0 (padT t) q).h 65536),(db (absorb S0 (padT t) q).h 256),(db (absorb S0 (padT t) q).h 1)])) 23 r156_46 rfl kj (Qao 5 _ _ g156 31 23 _ _ r156_46 rfl kj kj kj (show 31<32 by decide)) fun W47 p47 r156_47=>Qak <| hK254 _ _ <| sgA kj ?_
  show Code.rounds _ _ _ 1 _ _
  show Code.wp _ _ (Exit.then (Code.rounds _ _ _ 0) _) _ _
  refine wp_seq_k fun K255 hK255=>sgB kj <| cond_false kj <| wp_exit <| hK157 _ _ <| sgC fun K257 hK257=>Qab (.agg (ints .u8 ([(db (absorb S0 (padT t) q).a 16777216),(db (absorb S0 (padT t) q).a 65536),(db (absorb S0 (padT t) q).a 256),(db (absorb S0 (padT t) q).a 1),(db (absorb S0 (padT t) q).b 16777216),(db (absorb S0 (padT t) q).b 65536),(db (absorb S0 (padT t) q).b 256),(db (absorb S0 (padT t) q).b 1),(db (absorb S0 (padT t) q).c 16777216),(db (absorb S0 (padT t) q).c 65536),(db (absorb S0 (padT t) q).c 256),(db (absorb S0 (padT t) q).c 1),(db (absorb S0 (padT t) q).d 16777216),(db (absorb S0 (padT t) q).d 65536),(db (absorb S0 (padT t) q).d 256),(db (absorb S0 (padT t) q).d 1),(db (absorb S0 (padT t) q).e 16777216),(db (absorb S0 (padT t) q).e 65536),(db (absorb S0 (padT t) q).e 256),(db (absorb S0 (padT t) q).e 1),(db (absorb S0 (padT t) q).f 16777216),(db (absorb S0 (padT t) q).f 65536),(db (absorb S0 (padT t) q).f 256),(db (absorb S0 (padT t) q).f 1),(db (absorb S0 (padT t) q).g 16777216),(db (absorb S0 (padT t) q).g 65536),(db (absorb S0 (padT t) q).g 256),(db (absorb S0 (padT t) q).g 1),(db (absorb S0 (padT t) q).h 16777216),(db (absorb S0 (padT t) q).h 65536),(db (absorb S0 (padT t) q).h 256),(db (absorb S0 (padT t) q).h 1)]))) 251 rfl kj (Qaq 23 _ g156 23 _ _ r156_47 rfl kj kj (isz (n:=32) kj kj)) ?_
  have r2_2:=(Qac r2_1 e2)
  have r2_14:=(Qah.row q14 (Qac (Qac (Puts.row p11 (Puts.row p10 (Puts.row p9 (Puts.row p8 (Puts.row p7 (Puts.row p6 (Puts.row p5 (Puts.row p4 (Qac r2_2 e3) (Qae r2_2 l7)) (Qae r2_2 l7)) (Qae r2_2 l7)) (Qae r2_2 l7)) (Qae r2_2 l7)) (Qae r2_2 l7)) (Qae r2_2 l7)) (Qae r2_2 l7)) e12) e13) (Qax (Qae r2_2 l7) QaJ))
  have r2_47:=(Puts.row p47 (Puts.row p46 (Puts.row p45 (Puts.row p44 (Puts.row p43 (Puts.row p42 (Puts.row p41 (Puts.row p40 (Puts.row p39 (Puts.row p38 (Puts.row p37 (Puts.row p36 (Puts.row p35 (Puts.row p34 (Puts.row p33 (Puts.row p32 (Puts.row p31 (Puts.row p30 (Puts.row p29 (Puts.row p28 (Puts.row p27 (Puts.row p26 (Puts.row p25 (Puts.row p24 (Puts.row p23 (Puts.row p22 (Puts.row p21 (Puts.row p20 (Puts.row p19 (Puts.row p18 (Puts.row p17 (Puts.row p16 (Qac r2_14 e15) (Qae r2_14 l156)) (Qae r2_14 l156)) (Qae r2_14 l156)) (Qae r2_14 l156)) (Qae r2_14 l156)) (Qae r2_14 l156)) (Qae r2_14 l156)) (Qae r2_14 l156)) (Qae r2_14 l156)) (Qae r2_14 l156)) (Qae r2_14 l156)) (Qae r2_14 l156)) (Qae r2_14 l156)) (Qae r2_14 l156)) (Qae r2_14 l156)) (Qae r2_14 l156)) (Qae r2_14 l156)) (Qae r2_14 l156)) (Qae r2_14 l156)) (Qae r2_14 l156)) (Qae r2_14 l156)) (Qae r2_14 l156)) (Qae r2_14 l156)) (Qae r2_14 l156)) (Qae r2_14 l156)) (Qae r2_14 l156)) (Qae r2_14 l156)) (Qae r2_14 l156)) (Qae r2_14 l156)) (Qae r2_14 l156)) (Qae r2_14 l156)) (Qae r2_14 l156))
  refine Qaj g2 _ (ints .u8 ([(db (absorb S0 (padT t) q).a 16777216),(db (absorb S0 (padT t) q).a 65536),(db (absorb S0 (padT t) q).a 256),(db (absorb S0 (padT t) q).a 1),(db (absorb S0 (padT t) q).b 16777216),(db (absorb S0 (padT t) q).b 65536),(db (absorb S0 (padT t) q).b 256),(db (absorb S0 (padT t) q).b 1),(db (absorb S0 (padT t) q).c 16777216),(db (absorb S0 (padT t) q).c 65536),(db (absorb S0 (padT t) q).c 256),(db (absorb S0 (padT t) q).c 1),(db (absorb S0 (padT t) q).d 16777216),(db (absorb S0 (padT t) q).d 65536),(db (absorb S0 (padT t) q).d 256),(db (absorb S0 (padT t) q).d 1),(db (absorb S0 (padT t) q).e 16777216),(db (absorb S0 (padT t) q).e 65536),(db (absorb S0 (padT t) q).e 256),(db (absorb S0 (padT t) q).e 1),(db (absorb S0 (padT t) q).f 16777216),(db (absorb S0 (padT t) q).f 65536),(db (absorb S0 (padT t) q).f 256),(db (absorb S0 (padT t) q).f 1),(db (absorb S0 (padT t) q).g 16777216),(db (absorb S0 (padT t) q).g 65536),(db (absorb S0 (padT t) q).g 256),(db (absorb S0 (padT t) q).g 1),(db (absorb S0 (padT t) q).h 16777216),(db (absorb S0 (padT t) q).h 65536),(db (absorb S0 (padT t) q).h 256),(db (absorb S0 (padT t) q).h 1)])) 23 r2_47 rfl kj (Qal 23 _ _ g2 23 _ _ r2_47 rfl kj kj (isz (n:=32) kj kj) (eqsz (n:=32) kj kj) (Qau _ _)) fun W48 p48 r2_48=>sgN hK257 <| wp_ret ?_
  repeat (first | with_reducible refine goR1 ?_ | with_reducible refine goR2 ?_)
  exact (show bodyPost _ _ _ .ret _ _ from ret1 (.agg (ints .u8 ([(db (absorb S0 (padT t) q).a 16777216),(db (absorb S0 (padT t) q).a 65536),(db (absorb S0 (padT t) q).a 256),(db (absorb S0 (padT t) q).a 1),(db (absorb S0 (padT t) q).b 16777216),(db (absorb S0 (padT t) q).b 65536),(db (absorb S0 (padT t) q).b 256),(db (absorb S0 (padT t) q).b 1),(db (absorb S0 (padT t) q).c 16777216),(db (absorb S0 (padT t) q).c 65536),(db (absorb S0 (padT t) q).c 256),(db (absorb S0 (padT t) q).c 1),(db (absorb S0 (padT t) q).d 16777216),(db (absorb S0 (padT t) q).d 65536),(db (absorb S0 (padT t) q).d 256),(db (absorb S0 (padT t) q).d 1),(db (absorb S0 (padT t) q).e 16777216),(db (absorb S0 (padT t) q).e 65536),(db (absorb S0 (padT t) q).e 256),(db (absorb S0 (padT t) q).e 1),(db (absorb S0 (padT t) q).f 16777216),(db (absorb S0 (padT t) q).f 65536),(db (absorb S0 (padT t) q).f 256),(db (absorb S0 (padT t) q).f 1),(db (absorb S0 (padT t) q).g 16777216),(db (absorb S0 (padT t) q).g 65536),(db (absorb S0 (padT t) q).g 256),(db (absorb S0 (padT t) q).g 1),(db (absorb S0 (padT t) q).h 16777216),(db (absorb S0 (padT t) q).h 65536),(db (absorb S0 (padT t) q).h 256),(db (absorb S0 (padT t) q).h 1)]))) rfl (QaE g2 23 _ r2_48 kj kj (isz (n:=32) kj kj)) ⟨by rw [show dig t=(absorb S0 (padT t) q).out by unfold dig; rw [hq,Nat.mul_div_cancel_left _ (by decide)]]; rfl,(Puts.ext p48 (Puts.ext p47 (Puts.ext p46 (Puts.ext p45 (Puts.ext p44 (Puts.ext p43 (Puts.ext p42 (Puts.ext p41 (Puts.ext p40 (Puts.ext p39 (Puts.ext p38 (Puts.ext p37 (Puts.ext p36 x35 b156) b156) b156) b156) b156) b156) b156) b156) b156) b156) b156) b156) (qT (Rely.Ext.refl w).size l2))⟩)
end Go.Proofs.YtibegnjaphohaaaDoor.Sha
end
section
namespace Go.Proofs.YtibegnjaphohaaaDoor.Sha
open Go Go.RowKit
open Rely Auto Own
section
variable {ds : List Deferred} {P : Program} {ops : Array Oper} {Q : Exit → Act → World → Prop} {rest : List Oper} {o : Oper} {N : Nat} {L : Env} {W : World}
theorem QbK {k : IntKind} {T:TypeId} (b:Nat) (s x:Operand) (t:TypeId) (ho:o.op=.call { callee:=.builtin .append,args:=#[s,x],argTypes:=#[t,t] })
    (ht:P.underlying t=some (.slice T)) (hi:(P.info? T).map (fun i=>(i.zero,i.size,i.bytes))=some (some (.int k 0),1,b)) (hb8:b≤8) (d:Nat) (hd:o.dst=some d) (hg:Qbr ops o N L=some true) {B:Nat} {v y:Value} {xs ys:List Int} {V:World}
    (hs:Rely.look (envN N L) s=v) (hx:Rely.look (envN N L) x=y)
    (h:OwnN k T V.heap.size xs v W) (hy:RdK k B ys y W) {k2:IntKind} {T2:TypeId} {b2:Nat} {zs:List Int} {z:Value} (h2:OwnN k2 T2 b2 zs z W) (hdz:∀ g,z.ownBlock=some g→v.ownBlock≠some g) (hn:xs.length+ys.length≤1000000000) (hV:Ext V W)
    (kk:∀ (u:Value) (W':World),OwnN k T V.heap.size (xs++ys) u W'→Ext V W'→Below V.heap.size W W'→(OwnN k2 T2 b2 zs z W'∧∀ g,z.ownBlock=some g→u.ownBlock≠some g)→WL P ops Q rest (Qa0 ds N ((d,u)::L)) W'):WL P ops Q (o::rest) (Qa0 ds N L) W:=by
  obtain ⟨v',W',h1,hh2,h3,h4⟩:=QdQ (ρ:=Rely.look (envN N L)) (o:=o) (W:=W) s x t ho ht hi hb8 hs hx h hy hn hV.size
  refine Qbt _ _ d hd hg h1 (kk v' W' hh2 (QfR hV h h3) ⟨h3.os,h3.tape,h3.output,h3.size,fun i hi=>h3.block i (qL hi hV.size) (fun q=>by have:=h.ge q.symm; omega)⟩ ⟨h2.keep fun g hg=>h3.block g (h2.lt hg) (fun q=>hdz g hg q.symm),fun g hg=>?_⟩)
  rcases h4 with h4 | h4
  · rw [h4]; exact hdz g hg
  · rw [h4]; intro e
    have:=Option.some.inj e
    have:=h2.lt hg
    omega
end
theorem Qh2 (n i:Nat) (hn:n≤64):decide (((n+i:Nat):Int)<64)=decide (i<64-n):=decide_eq_decide.2 (by omega)
theorem Qjd {key : List Int} (h:64<key.length):dig key=keyL key:=by rw [keyL,if_pos h]
theorem Qie {key : List Int} (h:¬ 64<key.length):key=keyL key:=by rw [keyL,if_neg h]
theorem QdE (c : Int) (key:List Int) {i:Nat} (h:i<64):(padX c key).take (i+1)=(padX c key).take i++[nth (padX c key) i]:=by
  have hl:i<(padX c key).length:=by rw [Qa9]; exact h
  rw [List.take_succ_eq_append_getElem hl]
  simp [nth,hl]
theorem Qgn (c : Int) (key:List Int):(padX c key).take 64=padX c key:=List.take_of_length_le (qE (Qa9 c key))
set_option maxRecDepth 20000 in
theorem Qns (key text:List Int) (v1 v2:Value) (B B2:Nat) (w:World) (hkl:key.length≤800000000) (htl:text.length≤800000000) (hkb:Qat key) (htb:Qat text) (hk:RdK .u8 B key v1 w) (ht:RdK .u8 B2 text v2 w):Calls Tryd.prog 57 #[v1,v2] w (Ret w (.agg (ints .u8 (hmac key text)))):=by
 obtain ⟨a_key,c_key,rfl,-⟩:=id hk
 obtain ⟨a_text,c_text,rfl,-⟩:=id ht
 refine enter 56 [(0,.slice a_key key.length c_key),(1,.slice a_text text.length c_text)] Tryd.func57 rfl rfl kj rfl <| sgC fun K1 hK1=>Qap (ints .u8 (List.replicate 32 0)) 23 4 rfl kj kj fun g2 W1 l2 e1 r2_1=>?_
 have x1:=Ext.tr (Rely.Ext.refl w) e1
 have b2:=qT (Rely.Ext.refl w).size l2
 refine sgN hK1 <| sgC fun K3 hK3=>QaL (ints .u8 ([])) 5 0 11 rfl kj kj fun g4 W2 l4 e2 r4_2=>?_
 have x2:=Ext.tr x1 e2
 have b4:=qT x1.size l4
 refine sg 1 kj <| QaM (k:=.u8) (T:=5) (xs:=[]) (ys:=key) (V:=W1) 1 (.tmp 11) (.tmp 12) 38 rfl kj kj (by decide) 13 rfl kj kj kj (QbU (xs:=[]) rfl l4 r4_2 (by decide)) (RdK.ext hk x2) (by first | (rw [QaW]; decide) | (simp only [List.length_nil]; omega)) (Rely.Ext.trans (Rely.Ext.refl W1) e2) fun z1 W3 f5 y3 l3=>?_
 have x3:=Ext.low x2 l3 x1.size
 have hu6:OwnN .u8 5 W1.heap.size (key) z1 W3:=by have h:=f5; simpa using h
 obtain ⟨a5_7,c5_7,rfl,-⟩:=id (OwnN.rd hu6)
 refine sg 1 kj <| sgN hK3 <| wp_seq_k fun K8 hK8=>sgB kj <| Qa3 (t:=decide ((((key).length:Nat):Int)>64)) kj (fun c10=>?_) (fun c10=>?_)
 ·skip
  have hlong:64<key.length:=by have:=of_decide_eq_true c10; omega
  refine sgC fun K11 hK11=>sg 1 kj <| Qar (.agg (ints .u8 (dig (key)))) 60 #[.slice a5_7 ((key).length) c5_7] 18 rfl kj kj (QeC (key) _ _ _ (by omega) hkb (OwnN.rd hu6)) fun W4 e4=>?_
  have x4:=Ext.tr x3 e4
  refine Qap (ints .u8 (List.replicate 32 0)) 23 6 rfl kj kj fun g12 W5 l12 e5 r12_5=>?_
  have x5:=Ext.tr x4 e5
  refine Qaj g12 _ (ints .u8 (dig (key))) 23 r12_5 rfl kj (Qal 23 _ _ g12 23 _ _ r12_5 rfl kj kj (isz (n:=32) kj ((Qad _ _).trans (QaW _))) (eqsz (n:=32) ((Qad _ _).trans (List.length_replicate (n:=32))) ((Qad _ _).trans (QaW _))) (Qau _ _)) fun W6 p6 r12_6=>?_
  have x6:=Puts.ext p6 x5 (qT x4.size l12)
  refine sgN hK11 <| Qaf <| QaL (ints .u8 ([])) 5 0 19 rfl kj kj fun g13 W7 l13 e7 r13_7=>?_
  have x7:=Ext.tr x6 e7
  have b13:=qT x6.size l13
  refine sg 1 kj ?_
  have r12_7:=(Qac r12_6 e7)
  refine QaM (k:=.u8) (T:=5) (xs:=[]) (ys:=dig (key)) (V:=W6) 1 (.tmp 19) (.tmp 20) 38 rfl kj kj (by decide) 21 rfl kj kj kj (QbU (xs:=[]) rfl l13 r13_7 (by decide)) (QaU (xs:=dig (key)) (n:=32) (QaW _) r12_7 (Qay r12_7) (show 32≤maxLen from by decide)) (by first | (rw [QaW]; decide) | (simp only [List.length_nil]; omega)) (Rely.Ext.trans (Rely.Ext.refl W6) e7) fun z2 W8 f14 y8 l8=>?_
  have x8:=Ext.low x7 l8 x6.size
  have hu15:OwnN .u8 5 W6.heap.size (dig (key)) z2 W8:=by have h:=f14; simpa using h
  obtain ⟨a5_16,c5_16,rfl,-⟩:=id (OwnN.rd hu15)
  refine sg 1 kj <| Qak <| hK8 _ _ <| wp_seq_k fun K17 hK17=>wp_block ?_
  have hk0:OwnN .u8 5 W6.heap.size (keyL key++List.replicate 0 0) (.slice a5_16 ((dig (key)).length) c5_16) W8:=by rw [List.replicate_zero,List.append_nil,←Qjd hlong]; exact hu15
  have hkl:=QfM key
  refine QaC (fun (s1:Nat×Value)=>[(1,.slice a_text text.length c_text),(4,.pointer (some ⟨g2,0,none⟩)),(5,s1.2)]) (fun (s1:Nat×Value) W=>(s1.1≤64-(keyL key).length)∧(OwnN .u8 5 W6.heap.size (keyL key++List.replicate s1.1 0) s1.2 W)∧(Below W6.heap.size W8 W)∧(Ext w W)) (fun (s1:Nat×Value)=>64-(keyL key).length-s1.1) (0,.slice a5_16 ((dig (key)).length) c5_16) ⟨kj,kj,kj,trivial⟩ ⟨(Nat.zero_le _),hk0,(RowKit.Below.refl _ W8),x8⟩ fun s1 X1 V1 hI1=>?_
  obtain ⟨i,u⟩:=s1
  obtain ⟨hi,hu,kk1,xx1⟩:=hI1
  replace hi:i≤64-(keyL key).length:=hi
  replace hu:OwnN .u8 5 W6.heap.size (keyL key++List.replicate i 0) u V1:=hu
  replace kk1:Below W6.heap.size W8 V1:=kk1
  replace xx1:Ext w V1:=xx1
  have l9:=kk1
  obtain ⟨a5,c5,rfl,-⟩:=id (OwnN.rd hu)
  refine wp_seq_k fun K18 hK18=>sgC fun K19 hK19=>sg 2 kj <| Qab (.bool (decide (i<64-(keyL key).length))) 24 rfl kj (Qai (u:=.bool (decide ((((keyL key++List.replicate i 0).length:Nat):Int)<64))) kj (congrArg Value.bool (by rw [List.length_append,List.length_replicate]; exact Qh2 _ _ hkl))) ?_
  refine sgN hK19 <| Qa3 (t:=decide (i<64-(keyL key).length)) kj (fun c20=>?_) (fun c20=>?_)
  ·skip
   have hlt24:i<64-(keyL key).length:=by have:=of_decide_eq_true c20; omega
   refine wp_skip <| hK18 _ _ <| wp_block <| Qaf <| sg 1 kj <| QaL (ints .u8 ([0])) 5 1 26 rfl kj kj fun g21 W10 l21 e10 r21_10=>?_
   have x10:=Ext.tr xx1 e10
   have b21:=qT xx1.size l21
   have y6_9:=(Ext.low y8 l9 (Rely.Ext.refl W6).size)
   refine QaM (k:=.u8) (T:=5) (xs:=keyL key++List.replicate i 0) (ys:=[0]) (V:=W6) 1 (.tmp 25) (.tmp 26) 38 rfl kj kj (by decide) 27 rfl kj kj kj (hu.ext e10) (QaU (xs:=[0]) (n:=1) rfl r21_10 (Qay r21_10) (show 1≤maxLen from by decide)) (by simp only [List.length_append,List.length_replicate,List.length_cons,List.length_nil]; omega) (Rely.Ext.trans y6_9 e10) fun z3 W11 f23 y11 l11=>?_
   have x11:=Ext.low x10 l11 x6.size
   refine sg 1 kj <| Qak ?_
   repeat (first | with_reducible refine goX1 ?_ | with_reducible refine goX2 ?_ | with_reducible refine goX3 ?_)
   exact Qa4 ((i+1),z3) ⟨kj,kj,kj,trivial⟩ ⟨(by omega),(by rw [List.replicate_succ',←List.append_assoc]; exact f23),(RowKit.Below.trans (RowKit.Below.trans l9 (RowKit.Below.mono e10 y6_9.size)) l11),x11⟩ (by show 64-(keyL key).length-(i+1)<64-(keyL key).length-i; omega)
  ·skip
   have heq24:i=64-(keyL key).length:=by have:=of_decide_eq_false c20; omega
   subst heq24
   have hkB:OwnN .u8 5 W6.heap.size (keyB key) (.slice a5 (keyL key++List.replicate (64-(keyL key).length) 0).length c5) V1:=hu
   refine wp_exit <| hK17 _ _ <| sgB kj <| sgB kj <| wp_seq_k fun K27 hK27=>sgB kj <| wp_block ?_
   have r2_2:=(Qac r2_1 e2)
   have r2_3:=(QaS l3 r2_2 (Qay r2_1))
   have r2_4:=(Qac r2_3 e4)
   have r2_5:=(Qac r2_4 e5)
   have r2_6:=(Puts.row p6 r2_5 (Qae r2_4 l12))
   have r2_7:=(Qac r2_6 e7)
   have r2_8:=(QaS l8 r2_7 (Qay r2_6))
   have r2_9:=(QaS l9 r2_8 (Qay r2_6))
   refine QaC (fun (s2:Nat×Value×Value)=>[(1,.slice a_text text.length c_text),(4,.pointer (some ⟨g2,0,none⟩)),(5,.slice a5 ((keyL key++List.replicate (64-(keyL key).length) 0).length) c5),(7,s2.2.1),(8,s2.2.2),(9,.int .i64 ((s2.1:Nat):Int))]) (fun (s2:Nat×Value×Value) W=>(s2.1≤64)∧(OwnN .u8 5 V1.heap.size ((padX 54 key).take s2.1) s2.2.1 W)∧(OwnN .u8 5 V1.heap.size ((padX 92 key).take s2.1) s2.2.2 W)∧(∀ g,s2.2.2.ownBlock=some g→s2.2.1.ownBlock≠some g)∧(Ext V1 W)∧(Ext w W)) (fun (s2:Nat×Value×Value)=>64-s2.1) (0,(.slice none 0 0),(.slice none 0 0)) ⟨kj,kj,kj,kj,kj,kj,trivial⟩ ⟨(Nat.zero_le _),(Qb7 _ _ _ _),(Qb7 _ _ _ _),(fun g e=>by cases e),(Rely.Ext.refl V1),xx1⟩ fun s2 X2 V2 hI2=>?_
   obtain ⟨i,u,v⟩:=s2
   obtain ⟨hi,hu,hv,hd,kk2,xx2⟩:=hI2
   replace hi:i≤64:=hi
   replace hu:OwnN .u8 5 V1.heap.size ((padX 54 key).take i) u V2:=hu
   replace hv:OwnN .u8 5 V1.heap.size ((padX 92 key).take i) v V2:=hv
   replace hd:∀ g,v.ownBlock=some g→u.ownBlock≠some g:=hd
   replace kk2:Ext V1 V2:=kk2
   replace xx2:Ext w V2:=xx2
   have e10:=kk2
   have f30_10:=(hkB.ext e10)
   have hnk_29:(keyB key).length=64:=(Qbz key)
   obtain ⟨gck_29,ock_29,hak_29,hlk_29,hck_29⟩:=rdK_open (OwnN.rd f30_10) (by rw [hnk_29]; omega)
   refine wp_seq_k fun K31 hK31=>sgB kj <| Qa3 (t:=decide (((i:Nat):Int)<64)) kj (fun c33=>?_) (fun c33=>?_)
   ·skip
    have hlt29:i<64:=by have:=of_decide_eq_true c33; omega
    refine wp_skip <| hK31 _ _ <| wp_seq_k fun K34 hK34=>wp_block <| sgC fun K35 hK35=>sg 3 kj <| Qab (.pointer (some ⟨gck_29,ock_29+i,none⟩)) 35 rfl kj (run_indexA 38 _ _ .i64 i gck_29 ock_29 ((keyL key++List.replicate (64-(keyL key).length) 0).length) c5 5 a5 _ hak_29 rfl rfl kj kj kj kj (Nat.lt_of_lt_of_eq (show i<64 by omega) hnk_29.symm)) <| Qab (.int .u8 (nth (keyB key) (i))) 36 rfl kj (QaH 5 _ _ (.int .u8 (nth (keyB key) (i))) (hck_29 i (Nat.lt_of_lt_of_eq (show i<64 by omega) hnk_29.symm)) rfl kj kj) <| Qab (.int .u8 (nth (padX 54 key) i)) 37 rfl kj (Qai (u:=.int .u8 (bits .xor .u8 ((nth (keyB key) (i))) (54))) kj (congrArg (Value.int .u8) (Qc8 54 key hlt29).symm)) <| QaL (ints .u8 ([(nth (padX 54 key) i)])) 5 1 38 rfl kj kj fun g36 W11 l36 e11 r36_11=>?_
    have x11:=Ext.tr xx2 e11
    have b36:=qT xx2.size l36
    refine QbK (k:=.u8) (T:=5) (xs:=(padX 54 key).take i) (ys:=[(nth (padX 54 key) i)]) (V:=V1) 1 (.tmp 32) (.tmp 38) 38 rfl kj kj (by decide) 39 rfl kj kj kj (hu.ext e11) (QaU (xs:=[(nth (padX 54 key) i)]) (n:=1) rfl r36_11 (Qay r36_11) (show 1≤maxLen from by decide)) (hv.ext e11) hd (by rw [List.length_take,Qa9]; show _+1≤_; omega) (Rely.Ext.trans e10 e11) fun z4 W12 f40 y12 l12 hP37=>?_
    have x12:=Ext.low x11 l12 xx1.size
    refine sg 1 kj <| sgN hK35 <| Qaf ?_
    have hnk_42:(keyB key).length=64:=(Qbz key)
    obtain ⟨gck_42,ock_42,hak_42,hlk_42,hck_42⟩:=rdK_open (OwnN.rd (OwnN.low (n:=0) (f30_10.ext e11) hkB l12)) (by rw [hnk_42]; omega)
    refine sg 3 kj <| Qab (.pointer (some ⟨gck_42,ock_42+i,none⟩)) 43 rfl kj (run_indexA 38 _ _ .i64 i gck_42 ock_42 ((keyL key++List.replicate (64-(keyL key).length) 0).length) c5 5 a5 _ hak_42 rfl rfl kj kj kj kj (Nat.lt_of_lt_of_eq (show i<64 by omega) hnk_42.symm)) <| Qab (.int .u8 (nth (keyB key) (i))) 44 rfl kj (QaH 5 _ _ (.int .u8 (nth (keyB key) (i))) (hck_42 i (Nat.lt_of_lt_of_eq (show i<64 by omega) hnk_42.symm)) rfl kj kj) <| Qab (.int .u8 (nth (padX 92 key) i)) 45 rfl kj (Qai (u:=.int .u8 (bits .xor .u8 ((nth (keyB key) (i))) (92))) kj (congrArg (Value.int .u8) (Qc8 92 key hlt29).symm)) <| QaL (ints .u8 ([(nth (padX 92 key) i)])) 5 1 46 rfl kj kj fun g45 W13 l45 e13 r45_13=>?_
    have x13:=Ext.tr x12 e13
    have b45:=qT x12.size l45
    have y9_13:=(Rely.Ext.trans y12 e13)
    refine QbK (k:=.u8) (T:=5) (xs:=(padX 92 key).take i) (ys:=[(nth (padX 92 key) i)]) (V:=V1) 1 (.tmp 40) (.tmp 46) 38 rfl kj kj (by decide) 47 rfl kj kj kj (hP37.1.ext e13) (QaU (xs:=[(nth (padX 92 key) i)]) (n:=1) rfl r45_13 (Qay r45_13) (show 1≤maxLen from by decide)) (f40.ext e13) (fun g e h=>hP37.2 g h e) (by rw [List.length_take,Qa9]; show _+1≤_; omega) y9_13 fun z5 W14 f49 y14 l14 hP46=>?_
    have x14:=Ext.low x13 l14 xx1.size
    refine sg 1 kj <| Qak <| hK34 _ _ <| Qaf <| sg 1 kj <| Qab (.int .i64 ((i+1:Nat):Int)) 31 rfl kj (Qai (u:=.int .i64 (IntKind.i64.wrap (((i:Nat):Int)+1))) kj (congrArg (Value.int .i64) (i64n _ _ (by omega) (by omega)))) <| sg 1 kj <| Qak ?_
    repeat (first | with_reducible refine goX1 ?_ | with_reducible refine goX2 ?_ | with_reducible refine goX3 ?_)
    exact Qa4 ((i+1),z4,z5) ⟨kj,kj,kj,kj,kj,kj,trivial⟩ ⟨(by omega),(by rw [QdE _ _ hlt29]; exact hP46.1),(by rw [QdE _ _ hlt29]; exact f49),(fun g e h=>hP46.2 g h e),y14,x14⟩ (by show 64-(i+1)<64-i; omega)
   ·skip
    have heq29:i=64:=by have:=of_decide_eq_false c33; omega
    subst heq29
    rw [Qgn] at hu hv
    refine wp_exit <| hK27 _ _ <| sgC fun K51 hK51=>sg 2 kj <| QbK (k:=.u8) (T:=5) (xs:=padX 54 key) (ys:=text) (V:=V1) 1 (.tmp 48) (.tmp 49) 38 rfl kj kj (by decide) 50 rfl kj kj kj hu (RdK.ext ht xx2) hv hd (by rw [Qa9]; omega) e10 fun z6 W11 f53 y11 l11 hP52=>?_
    have x11:=Ext.low xx2 l11 xx1.size
    refine Qar (.agg (ints .u8 (dig (padX 54 key++text)))) 60 #[z6] 51 rfl kj kj (QeC (padX 54 key++text) _ _ _ (by rw [List.length_append,Qa9]; omega) (QbJ (Qcw _ _) htb) (OwnN.rd f53)) fun W12 e12=>?_
    have x12:=Ext.tr x11 e12
    have f55_12:=(hP52.1.ext e12)
    refine Qap (ints .u8 (List.replicate 32 0)) 23 10 rfl kj kj fun g56 W13 l56 e13 r56_13=>?_
    have x13:=Ext.tr x12 e13
    refine Qaj g56 _ (ints .u8 (dig (padX 54 key++text))) 23 r56_13 rfl kj (Qal 23 _ _ g56 23 _ _ r56_13 rfl kj kj (isz (n:=32) kj ((Qad _ _).trans (QaW _))) (eqsz (n:=32) ((Qad _ _).trans (List.length_replicate (n:=32))) ((Qad _ _).trans (QaW _))) (Qau _ _)) fun W14 p14 r56_14=>?_
    have x14:=Puts.ext p14 x13 (qT x12.size l56)
    refine sgN hK51 <| sgC fun K57 hK57=>?_
    have nb10:(v:Value).ownBlock≠some g56:=fun e=>by have h1:=OwnN.lt f55_12 e; have h2:=l56; omega
    refine sg 2 kj ?_
    have y9_12:=(Rely.Ext.trans y11 e12)
    have y9_13:=(Rely.Ext.trans y9_12 e13)
    refine QaM (k:=.u8) (T:=5) (xs:=padX 92 key) (ys:=dig (padX 54 key++text)) (V:=V1) 1 (.tmp 52) (.tmp 53) 38 rfl kj kj (by decide) 54 rfl kj kj kj ((f55_12.ext e13).puts p14 nb10) (QaU (xs:=dig (padX 54 key++text)) (n:=32) (QaW _) r56_14 (Qay r56_14) (show 32≤maxLen from by decide)) (by rw [Qa9,QaW]; decide) (Puts.ext p14 y9_13 (qT y9_12.size l56)) fun z7 W15 f60 y15 l15=>?_
    refine Qar (.agg (ints .u8 (dig (padX 92 key++dig (padX 54 key++text))))) 60 #[z7] 55 rfl kj kj (QeC (padX 92 key++dig (padX 54 key++text)) _ _ _ (by rw [List.length_append,Qa9,QaW]; decide) (QbJ (Qcw _ _) (QdN _)) (OwnN.rd f60)) fun W16 e16=>?_
    have r2_10:=(Qac r2_9 e10)
    have r2_11:=(QaS l11 r2_10 (Qay r2_9))
    have r2_12:=(Qac r2_11 e12)
    have r2_16:=(Qac (QaS l15 (Puts.row p14 (Qac r2_12 e13) (Qae r2_12 l56)) (Qay r2_9)) e16)
    refine Qaj g2 _ (ints .u8 (dig (padX 92 key++dig (padX 54 key++text)))) 23 r2_16 rfl kj (Qal 23 _ _ g2 23 _ _ r2_16 rfl kj kj (isz (n:=32) kj ((Qad _ _).trans (QaW _))) (eqsz (n:=32) ((Qad _ _).trans (List.length_replicate (n:=32))) ((Qad _ _).trans (QaW _))) (Qau _ _)) fun W17 p17 r2_17=>sgN hK57 <| wp_ret ?_
    repeat (first | with_reducible refine goR1 ?_ | with_reducible refine goR2 ?_)
    exact (show bodyPost _ _ _ .ret _ _ from ret1 (.agg (ints .u8 (dig (padX 92 key++dig (padX 54 key++text))))) rfl (QaE g2 23 _ r2_17 kj kj (isz (n:=32) kj ((Qad _ _).trans (QaW _)))) ⟨rfl,(Puts.ext p17 (Ext.tr (Ext.low x14 l15 xx1.size) e16) b2)⟩)
 ·skip
  have hlong:¬ 64<key.length:=by have:=of_decide_eq_false c10; omega
  refine wp_skip <| hK8 _ _ <| wp_seq_k fun K62 hK62=>wp_block ?_
  have hk0:OwnN .u8 5 W1.heap.size (keyL key++List.replicate 0 0) (.slice a5_7 ((key).length) c5_7) W3:=by rw [List.replicate_zero,List.append_nil,←Qie hlong]; exact hu6
  have hkl:=QfM key
  refine QaC (fun (s3:Nat×Value)=>[(1,.slice a_text text.length c_text),(4,.pointer (some ⟨g2,0,none⟩)),(5,s3.2)]) (fun (s3:Nat×Value) W=>(s3.1≤64-(keyL key).length)∧(OwnN .u8 5 W1.heap.size (keyL key++List.replicate s3.1 0) s3.2 W)∧(Below W1.heap.size W3 W)∧(Ext w W)) (fun (s3:Nat×Value)=>64-(keyL key).length-s3.1) (0,.slice a5_7 ((key).length) c5_7) ⟨kj,kj,kj,trivial⟩ ⟨(Nat.zero_le _),hk0,(RowKit.Below.refl _ W3),x3⟩ fun s3 X3 V3 hI3=>?_
  obtain ⟨i,u⟩:=s3
  obtain ⟨hi,hu,kk3,xx3⟩:=hI3
  replace hi:i≤64-(keyL key).length:=hi
  replace hu:OwnN .u8 5 W1.heap.size (keyL key++List.replicate i 0) u V3:=hu
  replace kk3:Below W1.heap.size W3 V3:=kk3
  replace xx3:Ext w V3:=xx3
  have l4:=kk3
  obtain ⟨a5,c5,rfl,-⟩:=id (OwnN.rd hu)
  refine wp_seq_k fun K63 hK63=>sgC fun K64 hK64=>sg 2 kj <| Qab (.bool (decide (i<64-(keyL key).length))) 24 rfl kj (Qai (u:=.bool (decide ((((keyL key++List.replicate i 0).length:Nat):Int)<64))) kj (congrArg Value.bool (by rw [List.length_append,List.length_replicate]; exact Qh2 _ _ hkl))) ?_
  refine sgN hK64 <| Qa3 (t:=decide (i<64-(keyL key).length)) kj (fun c65=>?_) (fun c65=>?_)
  ·skip
   have hlt24:i<64-(keyL key).length:=by have:=of_decide_eq_true c65; omega
   refine wp_skip <| hK63 _ _ <| wp_block <| Qaf <| sg 1 kj <| QaL (ints .u8 ([0])) 5 1 26 rfl kj kj fun g66 W5 l66 e5 r66_5=>?_
   have x5:=Ext.tr xx3 e5
   have b66:=qT xx3.size l66
   have y1_4:=(Ext.low y3 l4 (Rely.Ext.refl W1).size)
   refine QaM (k:=.u8) (T:=5) (xs:=keyL key++List.replicate i 0) (ys:=[0]) (V:=W1) 1 (.tmp 25) (.tmp 26) 38 rfl kj kj (by decide) 27 rfl kj kj kj (hu.ext e5) (QaU (xs:=[0]) (n:=1) rfl r66_5 (Qay r66_5) (show 1≤maxLen from by decide)) (by simp only [List.length_append,List.length_replicate,List.length_cons,List.length_nil]; omega) (Rely.Ext.trans y1_4 e5) fun z8 W6 f68 y6 l6=>?_
   have x6:=Ext.low x5 l6 x1.size
   refine sg 1 kj <| Qak ?_
   repeat (first | with_reducible refine goX1 ?_ | with_reducible refine goX2 ?_ | with_reducible refine goX3 ?_)
   exact Qa4 ((i+1),z8) ⟨kj,kj,kj,trivial⟩ ⟨(by omega),(by rw [List.replicate_succ',←List.append_assoc]; exact f68),(RowKit.Below.trans (RowKit.Below.trans l4 (RowKit.Below.mono e5 y1_4.size)) l6),x6⟩ (by show 64-(keyL key).length-(i+1)<64-(keyL key).length-i; omega)
  ·skip
   have heq24:i=64-(keyL key).length:=by have:=of_decide_eq_false c65; omega
   subst heq24
   have hkB:OwnN .u8 5 W1.heap.size (keyB key) (.slice a5 (keyL key++List.replicate (64-(keyL key).length) 0).length c5) V3:=hu
   refine wp_exit <| hK62 _ _ <| sgB kj <| sgB kj <| wp_seq_k fun K72 hK72=>sgB kj <| wp_block ?_
   have r2_2:=(Qac r2_1 e2)
   have r2_3:=(QaS l3 r2_2 (Qay r2_1))
   have r2_4:=(QaS l4 r2_3 (Qay r2_1))
   refine QaC (fun (s4:Nat×Value×Value)=>[(1,.slice a_text text.length c_text),(4,.pointer (some ⟨g2,0,none⟩)),(5,.slice a5 ((keyL key++List.replicate (64-(keyL key).length) 0).length) c5),(7,s4.2.1),(8,s4.2.2),(9,.int .i64 ((s4.1:Nat):Int))]) (fun (s4:Nat×Value×Value) W=>(s4.1≤64)∧(OwnN .u8 5 V3.heap.size ((padX 54 key).take s4.1) s4.2.1 W)∧(OwnN .u8 5 V3.heap.size ((padX 92 key).take s4.1) s4.2.2 W)∧(∀ g,s4.2.2.ownBlock=some g→s4.2.1.ownBlock≠some g)∧(Ext V3 W)∧(Ext w W)) (fun (s4:Nat×Value×Value)=>64-s4.1) (0,(.slice none 0 0),(.slice none 0 0)) ⟨kj,kj,kj,kj,kj,kj,trivial⟩ ⟨(Nat.zero_le _),(Qb7 _ _ _ _),(Qb7 _ _ _ _),(fun g e=>by cases e),(Rely.Ext.refl V3),xx3⟩ fun s4 X4 V4 hI4=>?_
   obtain ⟨i,u,v⟩:=s4
   obtain ⟨hi,hu,hv,hd,kk4,xx4⟩:=hI4
   replace hi:i≤64:=hi
   replace hu:OwnN .u8 5 V3.heap.size ((padX 54 key).take i) u V4:=hu
   replace hv:OwnN .u8 5 V3.heap.size ((padX 92 key).take i) v V4:=hv
   replace hd:∀ g,v.ownBlock=some g→u.ownBlock≠some g:=hd
   replace kk4:Ext V3 V4:=kk4
   replace xx4:Ext w V4:=xx4
   have e5:=kk4
   have f75_5:=(hkB.ext e5)
   have hnk_74:(keyB key).length=64:=(Qbz key)
   obtain ⟨gck_74,ock_74,hak_74,hlk_74,hck_74⟩:=rdK_open (OwnN.rd f75_5) (by rw [hnk_74]; omega)
   refine wp_seq_k fun K76 hK76=>sgB kj <| Qa3 (t:=decide (((i:Nat):Int)<64)) kj (fun c78=>?_) (fun c78=>?_)
   ·skip
    have hlt29:i<64:=by have:=of_decide_eq_true c78; omega
    refine wp_skip <| hK76 _ _ <| wp_seq_k fun K79 hK79=>wp_block <| sgC fun K80 hK80=>sg 3 kj <| Qab (.pointer (some ⟨gck_74,ock_74+i,none⟩)) 35 rfl kj (run_indexA 38 _ _ .i64 i gck_74 ock_74 ((keyL key++List.replicate (64-(keyL key).length) 0).length) c5 5 a5 _ hak_74 rfl rfl kj kj kj kj (Nat.lt_of_lt_of_eq (show i<64 by omega) hnk_74.symm)) <| Qab (.int .u8 (nth (keyB key) (i))) 36 rfl kj (QaH 5 _ _ (.int .u8 (nth (keyB key) (i))) (hck_74 i (Nat.lt_of_lt_of_eq (show i<64 by omega) hnk_74.symm)) rfl kj kj) <| Qab (.int .u8 (nth (padX 54 key) i)) 37 rfl kj (Qai (u:=.int .u8 (bits .xor .u8 ((nth (keyB key) (i))) (54))) kj (congrArg (Value.int .u8) (Qc8 54 key hlt29).symm)) <| QaL (ints .u8 ([(nth (padX 54 key) i)])) 5 1 38 rfl kj kj fun g81 W6 l81 e6 r81_6=>?_
    have x6:=Ext.tr xx4 e6
    have b81:=qT xx4.size l81
    refine QbK (k:=.u8) (T:=5) (xs:=(padX 54 key).take i) (ys:=[(nth (padX 54 key) i)]) (V:=V3) 1 (.tmp 32) (.tmp 38) 38 rfl kj kj (by decide) 39 rfl kj kj kj (hu.ext e6) (QaU (xs:=[(nth (padX 54 key) i)]) (n:=1) rfl r81_6 (Qay r81_6) (show 1≤maxLen from by decide)) (hv.ext e6) hd (by rw [List.length_take,Qa9]; show _+1≤_; omega) (Rely.Ext.trans e5 e6) fun z9 W7 f85 y7 l7 hP82=>?_
    have x7:=Ext.low x6 l7 xx3.size
    refine sg 1 kj <| sgN hK80 <| Qaf ?_
    have hnk_87:(keyB key).length=64:=(Qbz key)
    obtain ⟨gck_87,ock_87,hak_87,hlk_87,hck_87⟩:=rdK_open (OwnN.rd (OwnN.low (n:=0) (f75_5.ext e6) hkB l7)) (by rw [hnk_87]; omega)
    refine sg 3 kj <| Qab (.pointer (some ⟨gck_87,ock_87+i,none⟩)) 43 rfl kj (run_indexA 38 _ _ .i64 i gck_87 ock_87 ((keyL key++List.replicate (64-(keyL key).length) 0).length) c5 5 a5 _ hak_87 rfl rfl kj kj kj kj (Nat.lt_of_lt_of_eq (show i<64 by omega) hnk_87.symm)) <| Qab (.int .u8 (nth (keyB key) (i))) 44 rfl kj (QaH 5 _ _ (.int .u8 (nth (keyB key) (i))) (hck_87 i (Nat.lt_of_lt_of_eq (show i<64 by omega) hnk_87.symm)) rfl kj kj) <| Qab (.int .u8 (nth (padX 92 key) i)) 45 rfl kj (Qai (u:=.int .u8 (bits .xor .u8 ((nth (keyB key) (i))) (92))) kj (congrArg (Value.int .u8) (Qc8 92 key hlt29).symm)) <| QaL (ints .u8 ([(nth (padX 92 key) i)])) 5 1 46 rfl kj kj fun g90 W8 l90 e8 r90_8=>?_
    have x8:=Ext.tr x7 e8
    have b90:=qT x7.size l90
    have y4_8:=(Rely.Ext.trans y7 e8)
    refine QbK (k:=.u8) (T:=5) (xs:=(padX 92 key).take i) (ys:=[(nth (padX 92 key) i)]) (V:=V3) 1 (.tmp 40) (.tmp 46) 38 rfl kj kj (by decide) 47 rfl kj kj kj (hP82.1.ext e8) (QaU (xs:=[(nth (padX 92 key) i)]) (n:=1) rfl r90_8 (Qay r90_8) (show 1≤maxLen from by decide)) (f85.ext e8) (fun g e h=>hP82.2 g h e) (by rw [List.length_take,Qa9]; show _+1≤_; omega) y4_8 fun z10 W9 f94 y9 l9 hP91=>?_
    have x9:=Ext.low x8 l9 xx3.size
    refine sg 1 kj <| Qak <| hK79 _ _ <| Qaf <| sg 1 kj <| Qab (.int .i64 ((i+1:Nat):Int)) 31 rfl kj (Qai (u:=.int .i64 (IntKind.i64.wrap (((i:Nat):Int)+1))) kj (congrArg (Value.int .i64) (i64n _ _ (by omega) (by omega)))) <| sg 1 kj <| Qak ?_
    repeat (first | with_reducible refine goX1 ?_ | with_reducible refine goX2 ?_ | with_reducible refine goX3 ?_)
    exact Qa4 ((i+1),z9,z10) ⟨kj,kj,kj,kj,kj,kj,trivial⟩ ⟨(by omega),(by rw [QdE _ _ hlt29]; exact hP91.1),(by rw [QdE _ _ hlt29]; exact f94),(fun g e h=>hP91.2 g h e),y9,x9⟩ (by show 64-(i+1)<64-i; omega)
   ·skip
    have heq29:i=64:=by have:=of_decide_eq_false c78; omega
    subst heq29
    rw [Qgn] at hu hv
    refine wp_exit <| hK72 _ _ <| sgC fun K96 hK96=>sg 2 kj <| QbK (k:=.u8) (T:=5) (xs:=padX 54 key) (ys:=text) (V:=V3) 1 (.tmp 48) (.tmp 49) 38 rfl kj kj (by decide) 50 rfl kj kj kj hu (RdK.ext ht xx4) hv hd (by rw [Qa9]; omega) e5 fun z11 W6 f98 y6 l6 hP97=>?_
    have x6:=Ext.low xx4 l6 xx3.size
    refine Qar (.agg (ints .u8 (dig (padX 54 key++text)))) 60 #[z11] 51 rfl kj kj (QeC (padX 54 key++text) _ _ _ (by rw [List.length_append,Qa9]; omega) (QbJ (Qcw _ _) htb) (OwnN.rd f98)) fun W7 e7=>?_
    have x7:=Ext.tr x6 e7
    have f100_7:=(hP97.1.ext e7)
    refine Qap (ints .u8 (List.replicate 32 0)) 23 10 rfl kj kj fun g101 W8 l101 e8 r101_8=>?_
    have x8:=Ext.tr x7 e8
    refine Qaj g101 _ (ints .u8 (dig (padX 54 key++text))) 23 r101_8 rfl kj (Qal 23 _ _ g101 23 _ _ r101_8 rfl kj kj (isz (n:=32) kj ((Qad _ _).trans (QaW _))) (eqsz (n:=32) ((Qad _ _).trans (List.length_replicate (n:=32))) ((Qad _ _).trans (QaW _))) (Qau _ _)) fun W9 p9 r101_9=>?_
    have x9:=Puts.ext p9 x8 (qT x7.size l101)
    refine sgN hK96 <| sgC fun K102 hK102=>?_
    have nb10:(v:Value).ownBlock≠some g101:=fun e=>by have h1:=OwnN.lt f100_7 e; have h2:=l101; omega
    refine sg 2 kj ?_
    have y4_7:=(Rely.Ext.trans y6 e7)
    have y4_8:=(Rely.Ext.trans y4_7 e8)
    refine QaM (k:=.u8) (T:=5) (xs:=padX 92 key) (ys:=dig (padX 54 key++text)) (V:=V3) 1 (.tmp 52) (.tmp 53) 38 rfl kj kj (by decide) 54 rfl kj kj kj ((f100_7.ext e8).puts p9 nb10) (QaU (xs:=dig (padX 54 key++text)) (n:=32) (QaW _) r101_9 (Qay r101_9) (show 32≤maxLen from by decide)) (by rw [Qa9,QaW]; decide) (Puts.ext p9 y4_8 (qT y4_7.size l101)) fun z12 W10 f105 y10 l10=>?_
    have x10:=Ext.low x9 l10 xx3.size
    refine Qar (.agg (ints .u8 (dig (padX 92 key++dig (padX 54 key++text))))) 60 #[z12] 55 rfl kj kj (QeC (padX 92 key++dig (padX 54 key++text)) _ _ _ (by rw [List.length_append,Qa9,QaW]; decide) (QbJ (Qcw _ _) (QdN _)) (OwnN.rd f105)) fun W11 e11=>?_
    have x11:=Ext.tr x10 e11
    have r2_5:=(Qac r2_4 e5)
    have r2_6:=(QaS l6 r2_5 (Qay r2_4))
    have r2_7:=(Qac r2_6 e7)
    have r2_8:=(Qac r2_7 e8)
    have r2_9:=(Puts.row p9 r2_8 (Qae r2_7 l101))
    have r2_10:=(QaS l10 r2_9 (Qay r2_4))
    have r2_11:=(Qac r2_10 e11)
    refine Qaj g2 _ (ints .u8 (dig (padX 92 key++dig (padX 54 key++text)))) 23 r2_11 rfl kj (Qal 23 _ _ g2 23 _ _ r2_11 rfl kj kj (isz (n:=32) kj ((Qad _ _).trans (QaW _))) (eqsz (n:=32) ((Qad _ _).trans (List.length_replicate (n:=32))) ((Qad _ _).trans (QaW _))) (Qau _ _)) fun W12 p12 r2_12=>?_
    have x12:=Puts.ext p12 x11 b2
    refine sgN hK102 <| wp_ret ?_
    repeat (first | with_reducible refine goR1 ?_ | with_reducible refine goR2 ?_)
    exact (show bodyPost _ _ _ .ret _ _ from ret1 (.agg (ints .u8 (dig (padX 92 key++dig (padX 54 key++text))))) rfl (QaE g2 23 _ r2_12 kj kj (isz (n:=32) kj ((Qad _ _).trans (QaW _)))) ⟨rfl,x12⟩)
end Go.Proofs.YtibegnjaphohaaaDoor.Sha
end
section
namespace Go.Proofs.YtibegnjaphohaaaDoor.Sha
open Go Go.RowKit
open Rely Auto Own
section
variable {P : Program} {ρ : Operand → Value} {o : Oper} {w : World}
theorem QgE (t : TypeId) (x z:Operand) (h:Nat) (e:TypeId) (ho:o.op=.slice t x none (some z) none) {a:Option Addr} {len cap:Nat} (hx:ρ x=.slice a len cap)
    (hu:P.underlying t=some (.slice e)) (hs:(P.info? e).map (·.size)=some 1) (kz:IntKind) (hz:ρ z=.int kz (h:Int)) (h2:h≤cap) :
    (execOp ρ o).run P w=.ok (.value (.slice a h cap)) w:=by
  cases hq:P.info? e with
  | none=>simp [hq] at hs
  | some i =>
    have hs':i.size=1:=by simpa [hq] using hs
    unfold execOp
    have hadd:∀ a:Option Addr,Option.map (fun x=>x.add 0) a=a:=fun a=>by
      cases a with
      | none=>rfl
      | some a=>obtain ⟨b,o,s⟩:=a; cases s <;> simp [Addr.add]
    simp [ho,hx,hz,Instr.sliceAt,Instr.slice,Instr.sliceBounds,run_sliceBound,run_underlying hu,sizeOf,typeInfo,hq,hs',h2,hadd]
end
theorem QjT {T : TypeId} {base n c:Nat} {xs:List Int} {a:Option Addr} {W:World} (h:OwnN .u8 T base xs (.slice a xs.length c) W) (hn:n≤xs.length):OwnN .u8 T base (xs.take n) (.slice a n c) W:=by
  have hl:(xs.take n).length=n:=by rw [List.length_take]; omega
  obtain ⟨⟨h1,h2⟩,hm⟩:=h
  rcases h2 with ⟨h2,h3⟩ | ⟨g,c',cur,e,q2,q3,q4,q5,q6,q7⟩
  · simp only [Value.slice.injEq] at h2
    obtain ⟨rfl,h4,rfl⟩:=h2
    obtain rfl:=List.length_eq_zero_iff.1 h4
    obtain rfl:n=0:=by simpa using hn
    exact Qb7 _ _ _ _
  · simp only [Value.slice.injEq] at e
    obtain ⟨rfl,-,rfl⟩:=e
    refine QfB hl q2 q3 (by omega) (by omega) q5 ?_
    have:cur.toList.take n=(cur.toList.take (xs.length*1)).take n:=by rw [List.take_take]; congr 1; omega
    rw [this,q7,List.map_take]
theorem QjH (key info:List Int) (v1 v2:Value) (B B2 n:Nat) (w:World) (hn:n≤8160) (hkl:key.length≤800000000) (hil:info.length≤700000000) (hkb:Qat key) (hib:Qat info) (hk:RdK .u8 B key v1 w) (hi:RdK .u8 B2 info v2 w) :
  Calls Tryd.prog 49 #[v1,v2,.int .i64 ((n:Nat):Int)] w (QbN w (fun v W=>∃ u k,v=.tuple #[u,.bool true]∧n≤32*k∧OwnN .u8 5 w.heap.size ((okm key info k).take n) u W)):=by
 obtain ⟨a_key,c_key,rfl,-⟩:=id hk
 obtain ⟨a_info,c_info,rfl,-⟩:=id hi
 refine enter 44 [(0,.slice a_key key.length c_key),(1,.slice a_info info.length c_info),(2,.int .i64 ((n:Nat):Int))] Tryd.func49 rfl rfl kj rfl ?_
 refine wp_seq_k fun K1 hK1=>?_
 refine Qaf ?_
 refine Qab (.slice none 0 0) 6 rfl kj kj ?_
 refine Qab (.bool false) 7 rfl kj kj ?_
 refine Qak ?_
 refine hK1 _ _ ?_
 refine wp_seq_k fun K2 hK2=>?_
 refine wp_seq_k fun K3 hK3=>?_
 refine Qaf ?_
 refine Qab (.int .i64 ((n:Nat):Int)) 12 rfl kj kj ?_
 refine Qab (.bool false) 13 rfl kj (Qai (u:=.bool (decide (((n:Nat):Int)<0))) kj (congrArg Value.bool (decide_eq_false (by omega)))) ?_
 refine Qab (.bool false) 14 rfl kj kj ?_
 refine Qab (.int .i64 ((n:Nat):Int)) 15 rfl kj kj ?_
 refine Qab (.bool false) 16 rfl kj (Qai (u:=.bool (decide (((n:Nat):Int)>8160))) kj (congrArg Value.bool (decide_eq_false (by omega)))) ?_
 refine Qab (.bool false) 17 rfl kj kj ?_
 refine Qak ?_
 refine hK3 _ _ ?_
 refine cond_false kj ?_
 refine wp_skip ?_
 refine hK2 _ _ ?_
 refine wp_seq_k fun K4 hK4=>?_
 refine Qaf ?_
 refine Qab (.slice none 0 0) 8 rfl kj kj ?_
 refine Qak ?_
 refine hK4 _ _ ?_
 refine wp_seq_k fun K5 hK5=>?_
 refine Qaf ?_
 refine Qab (.slice none 0 0) 9 rfl kj kj ?_
 refine Qak ?_
 refine hK5 _ _ ?_
 refine wp_seq_k fun K6 hK6=>?_
 refine wp_seq_k fun K7 hK7=>?_
 refine Qaf ?_
 refine Qab (.int .i64 1) 10 rfl kj kj ?_
 refine Qak ?_
 refine hK7 _ _ ?_
 refine wp_block ?_
 refine QaC (fun (s1:Nat×Value×Value)=>[(0,.slice a_key key.length c_key),(1,.slice a_info info.length c_info),(2,.int .i64 ((n:Nat):Int)),(8,s1.2.1),(9,s1.2.2),(10,.int .i64 ((s1.1+1:Nat):Int))]) (fun (s1:Nat×Value×Value) W=>(32*s1.1<n+32)∧(OwnN .u8 5 w.heap.size (okm key info s1.1) s1.2.1 W)∧(OwnN .u8 5 w.heap.size (tg key info s1.1) s1.2.2 W)∧(∀ g,s1.2.2.ownBlock=some g→s1.2.1.ownBlock≠some g)∧(Ext w W)∧(Ext w W)) (fun (s1:Nat×Value×Value)=>n-32*s1.1) (0,(.slice none 0 0),(.slice none 0 0)) ⟨rfl,rfl,rfl,rfl,rfl,rfl,trivial⟩ ⟨(show 32*0<n+32 by omega),(Qb7 _ _ _ _),(Qb7 _ _ _ _),(fun g e=>by cases e),(Rely.Ext.refl w),(Rely.Ext.refl w)⟩ fun s1 X1 V1 hI1=>?_
 obtain ⟨k,u,v⟩:=s1
 obtain ⟨hkn,hu,hv,hd,kk1,xx1⟩:=hI1
 replace hkn:32*k<n+32:=hkn
 replace hu:OwnN .u8 5 w.heap.size (okm key info k) u V1:=hu
 replace hv:OwnN .u8 5 w.heap.size (tg key info k) v V1:=hv
 replace hd:∀ g,v.ownBlock=some g→u.ownBlock≠some g:=hd
 replace kk1:Ext w V1:=kk1
 replace xx1:Ext w V1:=xx1
 have e1:=kk1
 obtain ⟨a8,c8,rfl,-⟩:=id (OwnN.rd hu)
 refine wp_seq_k fun K8 hK8=>?_
 refine wp_seq_k fun K9 hK9=>?_
 refine Qaf ?_
 refine Qab (.slice a8 ((okm key info k).length) c8) 18 rfl kj kj ?_
 refine Qab (.int .i64 (((okm key info k).length:Nat):Int)) 19 rfl kj kj ?_
 refine Qab (.int .i64 ((n:Nat):Int)) 20 rfl kj kj ?_
 refine Qab (.bool (decide (32*k<n))) 21 rfl kj (Qai (u:=.bool (decide ((((okm key info k).length:Nat):Int)<((n:Nat):Int)))) kj (congrArg Value.bool (Qkp _ _ _ _))) ?_
 refine Qak ?_
 refine hK9 _ _ ?_
 refine Qa3 (t:=decide (32*k<n)) kj (fun c10=>?_) (fun c10=>?_)
 ·skip
  have hlt:32*k<n:=of_decide_eq_true c10
  refine wp_skip ?_
  refine hK8 _ _ ?_
  refine wp_seq_k fun K11 hK11=>?_
  refine wp_block ?_
  refine wp_seq_k fun K12 hK12=>?_
  refine Qaf ?_
  refine Qab (.slice a_key key.length c_key) 24 rfl kj kj ?_
  refine QaL (ints .u8 ([])) 5 0 25 rfl kj kj fun g13 W2 l13 e2 r13_2=>?_
  have x2:Ext w W2:=Ext.tr xx1 e2
  have b13:w.heap.size≤g13:=qT xx1.size l13
  refine Qab (v) 26 rfl kj kj ?_
  have f14_2:=(hv.ext e2)
  have y1_2:Ext V1 W2:=(Rely.Ext.trans (Rely.Ext.refl V1) e2)
  refine QaM (k:=.u8) (T:=5) (xs:=[]) (ys:=tg key info k) (V:=V1) 1 (.tmp 25) (.tmp 26) 38 rfl kj kj (by decide) 27 rfl kj kj kj (QbU (xs:=[]) rfl l13 r13_2 (by decide)) (OwnN.rd f14_2) (by have:=Qiv key info k; simp only [List.length_append,List.length_cons,List.length_nil]; omega) y1_2 fun z1 W3 f15 y3 l3=>?_
  have x3:Ext w W3:=Ext.low x2 l3 xx1.size
  refine Qab (.slice a_info info.length c_info) 28 rfl kj kj ?_
  refine QaM (k:=.u8) (T:=5) (xs:=[]++tg key info k) (ys:=info) (V:=V1) 1 (.tmp 27) (.tmp 28) 38 rfl kj kj (by decide) 29 rfl kj kj kj f15 (RdK.ext hi x3) (by have:=Qiv key info k; simp only [List.length_append,List.length_cons,List.length_nil]; omega) y3 fun z2 W4 f17 y4 l4=>?_
  have x4:Ext w W4:=Ext.low x3 l4 xx1.size
  refine Qab (.int .i64 ((k+1:Nat):Int)) 30 rfl kj kj ?_
  refine Qab (.int .u8 (((k+1:Nat):Int))) 31 rfl kj (Qai (u:=.int .u8 (IntKind.u8.wrap ((k+1:Nat):Int))) kj (congrArg (Value.int .u8) (u8_n _ (by omega)))) ?_
  refine QaL (ints .u8 ([(((k+1:Nat):Int))])) 5 1 32 rfl kj kj fun g19 W5 l19 e5 r19_5=>?_
  have x5:Ext w W5:=Ext.tr x4 e5
  have b19:w.heap.size≤g19:=qT x4.size l19
  have f20_5:=(f17.ext e5)
  have y1_5:Ext V1 W5:=(Rely.Ext.trans y4 e5)
  refine QaM (k:=.u8) (T:=5) (xs:=[]++tg key info k++info) (ys:=[(((k+1:Nat):Int))]) (V:=V1) 1 (.tmp 29) (.tmp 32) 38 rfl kj kj (by decide) 33 rfl kj kj kj f20_5 (QaU (xs:=[(((k+1:Nat):Int))]) (n:=1) rfl r19_5 (Qay r19_5) (show 1≤maxLen from by decide)) (by have:=Qiv key info k; simp only [List.length_append,List.length_cons,List.length_nil]; omega) y1_5 fun z3 W6 f21 y6 l6=>?_
  have x6:Ext w W6:=Ext.low x5 l6 xx1.size
  have hm23:OwnN .u8 5 V1.heap.size ((tg key info k++info)++[((k+1:Nat):Int)]) z3 W6:=f21
  refine Qar (.agg (ints .u8 (hmac (key) ((tg key info k++info)++[((k+1:Nat):Int)])))) 57 #[.slice a_key key.length c_key,z3] 34 rfl kj kj (Qns key ((tg key info k++info)++[((k+1:Nat):Int)]) _ _ _ _ _ (by omega) (by have:=Qiv key info k; simp only [List.length_append,List.length_cons,List.length_nil]; omega) hkb (QbJ (QbJ (Qf0 _ _ _) hib) (fun x hx=>by rw [List.mem_singleton] at hx; subst hx; omega)) (RdK.ext hk x6) (OwnN.rd hm23)) fun W7 e7=>?_
  have x7:Ext w W7:=Ext.tr x6 e7
  have f24_2:=(hu.ext e2)
  have f25_3:=(OwnN.low (n:=0) f24_2 hu l3)
  have f26_4:=(OwnN.low (n:=0) f25_3 hu l4)
  have f27_5:=(f26_4.ext e5)
  have f28_6:=(OwnN.low (n:=0) f27_5 hu l6)
  have f29_7:=(f28_6.ext e7)
  refine Qap (ints .u8 (List.replicate 32 0)) 23 11 rfl kj kj fun g30 W8 l30 e8 r30_8=>?_
  have x8:Ext w W8:=Ext.tr x7 e8
  have b30:w.heap.size≤g30:=qT x7.size l30
  have nb11:(.slice a8 ((okm key info k).length) c8:Value).ownBlock≠some g30:=fun e=>by have h1:=OwnN.lt f29_7 e; have h2:=l30; omega
  refine Qaj g30 _ (ints .u8 (hmac (key) ((tg key info k++info)++[((k+1:Nat):Int)]))) 23 r30_8 rfl kj (Qal 23 _ _ g30 23 _ _ r30_8 rfl kj kj (isz (n:=32) kj ((Qad _ _).trans (Qb2 _ _))) (eqsz (n:=32) ((Qad _ _).trans (List.length_replicate (n:=32))) ((Qad _ _).trans (Qb2 _ _))) (Qau _ _)) fun W9 p9 r30_9=>?_
  have x9:Ext w W9:=Puts.ext p9 x8 b30
  refine Qak ?_
  refine hK12 _ _ ?_
  refine wp_seq_k fun K31 hK31=>?_
  refine Qaf ?_
  have f32_8:=(f29_7.ext e8)
  have f33_9:=(f32_8.puts p9 nb11)
  refine QaL (ints .u8 ([])) 5 0 35 rfl kj kj fun g34 W10 l34 e10 r34_10=>?_
  have x10:Ext w W10:=Ext.tr x9 e10
  have b34:w.heap.size≤g34:=qT x9.size l34
  refine Qab (.slice (some ⟨g30,0,none⟩) 32 32) 36 rfl kj kj ?_
  have r30_10:=(Qac r30_9 e10)
  have y9_10:Ext W9 W10:=(Rely.Ext.trans (Rely.Ext.refl W9) e10)
  refine QaM (k:=.u8) (T:=5) (xs:=[]) (ys:=hmac (key) ((tg key info k++info)++[((k+1:Nat):Int)])) (V:=W9) 1 (.tmp 35) (.tmp 36) 38 rfl kj kj (by decide) 37 rfl kj kj kj (QbU (xs:=[]) rfl l34 r34_10 (by decide)) (QaU (xs:=hmac (key) ((tg key info k++info)++[((k+1:Nat):Int)])) (n:=32) (Qb2 _ _) r30_10 (Qay r30_10) (show 32≤maxLen from by decide)) (by rw [Qb2]; decide) y9_10 fun z4 W11 f35 y11 l11=>?_
  have x11:Ext w W11:=Ext.low x10 l11 x9.size
  refine Qab (z4) 9 rfl kj kj ?_
  refine Qak ?_
  refine hK31 _ _ ?_
  refine Qaf ?_
  have hz37:OwnN .u8 5 W9.heap.size (tg key info (k+1)) z4 W11:=f35
  have hd37:∀ g,(z4:Value).ownBlock=some g→(.slice a8 ((okm key info k).length) c8:Value).ownBlock≠some g:=fun g e1 e2=>by have h1:=OwnN.ge hz37 e1; have h2:=OwnN.lt f33_9 e2; omega
  refine Qab (.slice a8 ((okm key info k).length) c8) 38 rfl kj kj ?_
  refine Qab (z4) 39 rfl kj kj ?_
  have f38_10:=(f33_9.ext e10)
  have f39_11:=(OwnN.low (n:=0) f38_10 f33_9 l11)
  have y0_2:Ext w W2:=(Rely.Ext.trans e1 e2)
  have y0_3:Ext w W3:=(Ext.low y0_2 l3 e1.size)
  have y0_4:Ext w W4:=(Ext.low y0_3 l4 e1.size)
  have y0_5:Ext w W5:=(Rely.Ext.trans y0_4 e5)
  have y0_6:Ext w W6:=(Ext.low y0_5 l6 e1.size)
  have y0_7:Ext w W7:=(Rely.Ext.trans y0_6 e7)
  have y0_8:Ext w W8:=(Rely.Ext.trans y0_7 e8)
  have y0_9:Ext w W9:=(Puts.ext p9 y0_8 (qT y0_7.size l30))
  have y0_10:Ext w W10:=(Rely.Ext.trans y0_9 e10)
  have y0_11:Ext w W11:=(Ext.low y0_10 l11 y0_9.size)
  refine QbK (k:=.u8) (T:=5) (xs:=okm key info k) (ys:=tg key info (k+1)) (V:=w) 1 (.tmp 38) (.tmp 39) 38 rfl kj kj (by decide) 40 rfl kj kj kj f39_11 (OwnN.rd hz37) hz37 hd37 (by rw [Qd3,tg,Qb2]; omega) y0_11 fun z5 W12 f40 y12 l12 hP=>?_
  have x12:Ext w W12:=Ext.low x11 l12 (Rely.Ext.refl w).size
  refine Qab (z5) 8 rfl kj kj ?_
  refine Qak ?_
  refine hK11 _ _ ?_
  refine Qaf ?_
  refine Qab (.int .i64 ((k+1:Nat):Int)) 22 rfl kj kj ?_
  refine Qab (.int .i64 (((k+1)+1:Nat):Int)) 23 rfl kj (Qai (u:=.int .i64 (IntKind.i64.wrap (((k+1:Nat):Int)+1))) kj (congrArg (Value.int .i64) (i64n _ _ (by omega) (by omega)))) ?_
  refine Qab (.int .i64 (((k+1)+1:Nat):Int)) 10 rfl kj kj ?_
  refine Qak ?_
  repeat (first | with_reducible refine goX1 ?_ | with_reducible refine goX2 ?_ | with_reducible refine goX3 ?_)
  exact Qa4 ((k+1),z5,z4) ⟨rfl,rfl,rfl,rfl,rfl,rfl,trivial⟩ ⟨(by omega),(by rw [okm]; exact f40),(OwnN.base y0_9.size hP.1),hP.2,y12,x12⟩ (by show n-32*(k+1)<n-32*k; omega)
 ·skip
  have hge:n≤32*k:=by have:=of_decide_eq_false c10; omega
  have hcap:n≤c8:=by
   obtain ⟨_,_,e,q2,_⟩:=OwnN.rd hu
   simp only [Value.slice.injEq] at e
   obtain ⟨-,-,rfl⟩:=e
   rw [Qd3] at q2; omega
  refine wp_exit ?_
  refine hK6 _ _ ?_
  refine wp_seq_k fun K42 hK42=>?_
  refine Qaf ?_
  refine Qab (.slice a8 ((okm key info k).length) c8) 41 rfl kj kj ?_
  refine Qab (.int .i64 ((n:Nat):Int)) 42 rfl kj kj ?_
  refine Qab (.slice a8 n c8) 43 rfl kj (QgE (len:=(okm key info k).length) 38 _ _ n 5 rfl kj kj kj .i64 kj hcap) ?_
  refine Qab (.slice a8 n c8) 6 rfl kj kj ?_
  refine Qab (.bool true) 7 rfl kj kj ?_
  refine Qak ?_
  refine hK42 _ _ ?_
  refine wp_ret ?_
  repeat (first | with_reducible refine goR1 ?_ | with_reducible refine goR2 ?_)
  exact (show bodyPost _ _ _ .ret _ _ from ret2 (.slice a8 n c8) (.bool true) rfl (Qa2 kj) (Qa2 kj) ⟨_,rfl,xx1,_,k,rfl,hge,OwnN.base (Rely.Ext.refl w).size (QjT hu (by rw [Qd3]; exact hge))⟩)
end Go.Proofs.YtibegnjaphohaaaDoor.Sha
end
section
namespace Go.Proofs.YtibegnjaphohaaaDoor.Sha
open Go Go.RowKit
open Rely Auto Own
structure Once (base n : Nat) (ys : List Int) (W W' : World) : Prop where
  os:W'.os=W.os
  tape:W'.tape=W.tape
  output:W'.output=W.output
  size:W.heap.size≤W'.heap.size
  block:∀ g,g<W.heap.size→W'.heap[g]? = W.heap[g]?∨(base≤g∧∃ cs cs' T,W.heap[g]? = some (.cells cs T)∧W'.heap[g]? = some (.cells cs' T)∧cs'.size=cs.size∧∀ i,cs'[i]? = cs[i]?∨(n≤i∧cs'[i]? = some (.int .u8 (nth ys (i-n)))))
theorem Once.refl (base n:Nat) (ys:List Int) (W:World):Once base n ys W W:=⟨rfl,rfl,rfl,qR _,fun _ _=>.inl rfl⟩
theorem Once.trans {base n:Nat} {ys:List Int} {a b c:World} (h:Once base n ys a b) (k:Once base n ys b c):Once base n ys a c:=by
  refine ⟨k.os.trans h.os,k.tape.trans h.tape,k.output.trans h.output,qT h.size k.size,fun g hg=>?_⟩
  rcases k.block g (qL hg h.size) with h2 | ⟨hb,cs,cs',T,r1,r2,r3,r4⟩
  · rw [h2]; exact h.block g hg
  · rcases h.block g hg with h1 | ⟨_,ds,ds',T',s1,s2,s3,s4⟩
    · exact .inr ⟨hb,cs,cs',T,h1▸r1,r2,r3,r4⟩
    · rw [s2] at r1
      simp only [Option.some.injEq,Obj.cells.injEq] at r1
      obtain ⟨rfl,rfl,-⟩:=r1
      refine .inr ⟨hb,ds,cs',T',s1,r2,r3.trans s3,fun i=>?_⟩
      rcases r4 i with r | ⟨r,r'⟩
      · rw [r]; exact s4 i
      · exact .inr ⟨r,r'⟩
theorem Once.ext {base n:Nat} {ys:List Int} {a b:World} (e:Ext a b):Once base n ys a b:=⟨e.os,e.tape,e.output,e.size,fun g hg=>.inl (e.block g hg)⟩
theorem Once.low {n : Nat} {ys:List Int} {w0 W:World} (h:Once w0.heap.size n ys w0 W):Ext w0 W :=
  ⟨h.os,h.tape,h.output,h.size,fun g hg=>by
    rcases h.block g hg with h | ⟨hb,_⟩
    · exact h
    · omega⟩
theorem Qiw {cs : Array Value} {xs:List Int} {k:IntKind} (h:∀ i,i<xs.length→cs[i]? = some (.int k (nth xs i))):cs.toList.take xs.length=xs.map (Value.int k):=by
  apply List.ext_getElem?
  intro i
  rw [List.getElem?_take]
  by_cases hi:i<xs.length
  · rw [if_pos hi,Array.getElem?_toList,h i hi,List.getElem?_map,List.getElem?_eq_getElem hi]
    simp [nth,hi]
  · rw [if_neg hi,List.getElem?_map,List.getElem?_eq_none (by omega)]; rfl
theorem QjV {base n:Nat} {ys xs:List Int} {T:TypeId} (hx:∀ i,i<xs.length→n≤i→nth xs i=nth ys (i-n)):QbA (Once base n ys) (OwnN .u8 T base xs):=fun v W W' hR h=>by
  rcases Nat.eq_zero_or_pos xs.length with h0 | h0
  · obtain ⟨⟨h1,h2⟩,hm⟩:=h
    refine ⟨⟨h1,?_⟩,hm⟩
    rcases h2 with h2 | ⟨g,c,cur,rfl,q2,q3,q4,q5,q6,q7⟩
    · exact .inl h2
    · rcases hR.block g (Qay q3) with h | ⟨hb,cs,cs',T',r1,r2,r3,r4⟩
      · exact .inr ⟨g,c,cur,rfl,q2,h.trans q3,q4,q5,q6,q7⟩
      · rw [q3] at r1
        simp only [Option.some.injEq,Obj.cells.injEq] at r1
        obtain ⟨rfl,rfl,-⟩:=r1
        refine .inr ⟨g,c,cs',rfl,q2,r2,q4,q5,r3.trans q6,?_⟩
        obtain rfl:=List.length_eq_zero_iff.1 h0
        rfl
  · obtain ⟨g,c,cur,rfl,q2,q3,q4,q5,q6,q7⟩:=Qdc h h0
    rcases hR.block g (Qay q3) with h2 | ⟨hb,cs,cs',T',r1,r2,r3,r4⟩
    · exact h.keep fun g' hg=>by
        obtain rfl:g=g':=Option.some.inj hg
        exact h2
    · rw [q3] at r1
      simp only [Option.some.injEq,Obj.cells.injEq] at r1
      obtain ⟨rfl,rfl,-⟩:=r1
      refine QfB rfl q2 r2 (r3.trans q4) q5 q6 (Qiw fun i hi=>?_)
      rcases r4 i with r | ⟨r,r'⟩
      · rw [r]; exact Qd4 q7 hi
      · rw [r',hx i hi r]
theorem Qk0 {P : Program} {T:TypeId} {b:Nat} {ρ:Operand→Value} {o:Oper} {W:World} (s x:Operand) (t:TypeId) (ho:o.op=.call { callee:=.builtin .append,args:=#[s,x],argTypes:=#[t,t] })
    (ht:P.underlying t=some (.slice T)) (hi:(P.info? T).map (fun i=>(i.zero,i.size,i.bytes))=some (some (.int .u8 0),1,b)) (hb8:b≤8) {base B n:Nat} {v y:Value} {xs ys Y:List Int} (hs:ρ s=v) (hx:ρ x=y)
    (h:OwnN .u8 T base xs v W) (hy:RdK .u8 B ys y W) (hn:xs.length+ys.length≤1000000000) (hbase:base≤W.heap.size) (hY:(∃ g,v=.slice (some ⟨g,0,none⟩) 0 0)∨(xs.length=n∧ys=Y)) :
    ∃ v' W',(execOp ρ o).run P W=.ok (.value v') W'∧Once base n Y W W'∧OwnN .u8 T base (xs++ys) v' W':=by
  obtain ⟨i,hq,hi1,hi2,hi3⟩:=QlI hi
  obtain ⟨v2,W2,r2,o2,g2,-⟩:=QdQ (ρ:=ρ) (o:=o) (W:=W) s x t ho ht hi hb8 hs hx h hy hn hbase
  refine ⟨v2,W2,r2,?_,o2⟩
  rcases h.1.2 with ⟨h0,h0'⟩ | ⟨g,c,cur,rfl,q2,q3,q4,q5,q6,q7⟩
  · exact ⟨g2.os,g2.tape,g2.output,g2.size,fun k hk=>.inl (g2.block k hk (by rw [h0]; intro e; cases e))⟩
  · have hc0:(∃ g',(Value.slice (some ⟨g,0,none⟩) xs.length c)=.slice (some ⟨g',0,none⟩) 0 0)→c=0:=fun ⟨g',e'⟩=>by
      simp only [Value.slice.injEq] at e'
      exact e'.2.2
    obtain ⟨a,cap,rfl,y2,y3,y4,y5⟩:=hy
    have hgo:∀ (v':Value) (W':World),(Builtin.append_ #[t,t] o.type #[.slice (some ⟨g,0,none⟩) xs.length c,.slice a ys.length cap]).run P W=.ok v' W'→(execOp ρ o).run P W=.ok (.value v') W':=fun v' W' hr=>by
      unfold execOp
      simp only [ho,resolve,invoke,builtin,Sem.run_bind,Sem.run_pure,Result.andThen_ok,List.map_toArray,List.map_cons,List.map_nil,hs,hx,hr]
    have same:∀ (v':Value) (W':World),(execOp ρ o).run P W=.ok (.value v') W'→W2=W':=fun v' W' hr=>by
      rw [r2] at hr
      injection hr
    refine ⟨g2.os,g2.tape,g2.output,g2.size,fun k hk=>?_⟩
    by_cases hkg:k=g
    · subst hkg
      cases a with
      | none =>
        have hc0:=y4 rfl
        have hy0:ys=[]:=List.length_eq_zero_iff.1 (by omega)
        subst hy0
        subst hc0
        exact .inl (by rw [same _ _ (hgo _ _ (run_append_owned_none (P:=P) W base t o.type T i 1 ht hq _ xs.length _ h.1))])
      | some a =>
        have hnews:∀ j u,(ys.map (Value.int .u8))[j]? = some u→W.cell? (a.add j)=some u:=by
          rcases y5 with rfl | ⟨g',o',e1,e2,e3,e4⟩
          · intro j u hu; simp at hu
          · obtain rfl:=Option.some.inj e1
            exact QiV e4
        by_cases hroom:xs.length+ys.length≤c
        · have hr:=run_append_room (P:=P) W t o.type T i ht hq k xs.length c cur q3 a ys.length cap (ys.map (Value.int .u8)) (by simp [hi2]) hnews (QiR _ ys) hroom (by rw [hi2]; simp; omega)
          have hW:=same _ _ (hgo _ _ hr)
          rw [hW]
          refine .inr ⟨q2,_,_,_,q3,setRow_heap W k cur _ T _ q3,?_,fun j=>?_⟩
          · simp only [List.size_toArray,List.length_append,List.length_take,List.length_drop,List.length_map,Array.length_toList,hi2]; omega
          · simp only [List.getElem?_toArray,hi2,Nat.mul_one]
            have hl1:(List.take xs.length cur.toList).length=xs.length:=by
              have e:cur.toList.length=cur.size:=Array.length_toList
              rw [List.length_take,e]; omega
            rw [List.append_assoc]
            rcases Nat.lt_or_ge j xs.length with hj | hj
            · left
              rw [List.getElem?_append_left (by omega),List.getElem?_take,if_pos hj,Array.getElem?_toList]
            · rw [List.getElem?_append_right (by omega),hl1]
              rcases Nat.lt_or_ge (j-xs.length) ys.length with hj2 | hj2
              · right
                rcases hY with hY | ⟨rfl,rfl⟩
                · have:=hc0 hY; omega
                · refine ⟨hj,?_⟩
                  rw [List.getElem?_append_left (by rw [List.length_map]; exact hj2),List.getElem?_map,List.getElem?_eq_getElem hj2]
                  simp [nth,hj2]
              · left
                rw [List.getElem?_append_right (by rw [List.length_map]; exact hj2),List.length_map,List.getElem?_drop,Array.getElem?_toList]
                congr 1; omega
        · have holds:=h.1.cells (g:=k) rfl
          have hr:=run_append_grow (P:=P) W t o.type T i (.int .u8 0) ht hq hi1 ⟨k,0,none⟩ xs.length c (xs.map (Value.int .u8)) (by simp [hi2]) (by simpa using holds) a ys.length cap (ys.map (Value.int .u8)) (by simp [hi2]) hnews (by omega) (by omega) (growslice_fits (by omega) (by
            rw [hi3]
            have:(xs.length+ys.length)*b≤1000000000*8:=Nat.mul_le_mul hn hb8
            omega))
          have hW:=same _ _ (hgo _ _ hr)
          rw [hW]
          exact .inl (heap_alloc_old W.drew _ hk)
    · exact .inl (g2.block k hk (fun e=>hkg (Option.some.inj e)))
end Go.Proofs.YtibegnjaphohaaaDoor.Sha
end
section
namespace Go.Proofs.YtibegnjaphohaaaDoor.Sha
open Go Go.RowKit
open Rely Auto Own
theorem QjG (key info:List Int) (v1 v2:Value) (B B2 n:Nat) (w:World) (hn:n≤8160) (hkl:key.length≤800000000) (hil:info.length≤700000000) (hkb:Qat key) (hib:Qat info) (hk:RdK .u8 B key v1 w) (hi:RdK .u8 B2 info v2 w) :
    Calls Tryd.prog 49 #[v1,v2,.int .i64 ((n:Nat):Int)] w (QbN w (fun v W=>∃ u,v=.tuple #[u,.bool true]∧OwnN .u8 5 w.heap.size (kx key info n) u W)) :=
  (QjH key info v1 v2 B B2 n w hn hkl hil hkb hib hk hi).mono fun e W' ⟨v,h1,h2,u,k,h3,h4,h5⟩=>⟨v,h1,h2,u,h3,QmE key info n k h4▸h5⟩
theorem QgY {P : Program} {ds:List Deferred} {id:Nat} {Q:Exit→Act→World→Prop} {N:Nat} {L:Env} {w:World} {l:List Oper} (R:World→World→Prop) (hrf:∀ W,R W W) (htr:∀ {a b c:World},R a b→R b c→R a c) (n:Nat) (S:List Src) (hm:P.follows .mixedOrders=true) (hok:ok l n N S=true)
    (h:∀ F:List KE→Prop,(∀ C,(∀ W,R w.drew W→finE (fun L W=>WL P l.toArray Q (l.drop n) (Qa0 ds N L) W) (l.take n) C L W)→F C)→Qbs P R w.drew N L F (l.take n) S []) :
    (Code.region id l.toArray true).wp P Q (Qa0 ds N L) w:=by
  refine QcB R n N S hm hok (QcE N L) hrf (fun a b=>htr a b) fun F r0 hr hF=>?_
  rw [QbB] at hr
  subst hr
  have:=h (fun C=>∀ W,R w.drew W→finE (fun L W=>WL P l.toArray Q (l.drop n) (Qa0 ds N L) W) (l.take n) C L W) (fun C h=>h)
  exact Qcm (G:=F) (fun C h=>hF.out fun W hR=>Qjs (Q:=fun a W=>wpList P l.toArray Q (l.drop n) a W) _ _ _ (Qdg (fun L W h=>h.out) _ _ _ _ (h W hR))) _ _ [] this
theorem Once.below {base n:Nat} {ys:List Int} {W W':World} (h:Once base n ys W W') (hb:base≤W.heap.size):Below base W W' :=
  ⟨h.os,h.tape,h.output,h.size,fun g hg=>by
    rcases h.block g (by omega) with h | ⟨hb,_⟩
    · exact h
    · omega⟩
theorem Once.rd {base n B:Nat} {k:IntKind} {ys zs:List Int} {v:Value} {W W':World} (h:Once base n ys W W') (hr:RdK k B zs v W) (hB:B≤base):RdK k B zs v W':=hr.keep h.size fun g hg hl=>by
  rcases h.block g hl with h | ⟨hb,_⟩
  · exact h
  · omega
structure Qct (g base n : Nat) (ys : List Int) (W W' : World) : Prop where
  once:Once base n ys W W'
  other:∀ k,k<W.heap.size→k≠g→W'.heap[k]? = W.heap[k]?
theorem Qct.refl (g base n:Nat) (ys:List Int) (W:World):Qct g base n ys W W:=⟨Once.refl _ _ _ _,fun _ _ _=>rfl⟩
theorem Qct.trans {g base n:Nat} {ys:List Int} {a b c:World} (h:Qct g base n ys a b) (k:Qct g base n ys b c):Qct g base n ys a c:=⟨h.once.trans k.once,fun i hi hn=>(k.other i (qL hi h.once.size) hn).trans (h.other i hi hn)⟩
theorem Qct.ext {g base n:Nat} {ys:List Int} {a b:World} (e:Ext a b):Qct g base n ys a b:=⟨Once.ext e,fun i hi _=>e.block i hi⟩
theorem Qct.row {g base n:Nat} {ys:List Int} {a b:World} {k:Nat} {ob:Obj} (h:Qct g base n ys a b) (r:a.heap[k]? = some ob) (hn:k≠g):b.heap[k]? = some ob:=(h.other k (Qay r) hn).trans r
theorem Qgo {g base n:Nat} {ys xs:List Int} {T:TypeId} (hx:∀ i,i<xs.length→n≤i→nth xs i=nth ys (i-n)):QbA (Qct g base n ys) (OwnN .u8 T base xs):=fun v W W' hR h=>QjV hx v W W' hR.once h
theorem Qfm {g base n b:Nat} {ys xs:List Int} {T:TypeId} {v:Value} {W W':World} (hR:Qct g base n ys W W') (h:OwnN .u8 T b xs v W) (hn:v.ownBlock≠some g):OwnN .u8 T b xs v W':=h.keep fun k hk=>hR.other k (h.lt hk) (fun e=>hn (by rw [hk,e]))
theorem Qj2 {P : Program} {T:TypeId} {ρ:Operand→Value} {o:Oper} {W:World} (s x:Operand) (t:TypeId) (ho:o.op=.call { callee:=.builtin .append,args:=#[s,x],argTypes:=#[t,t] })
    (ht:P.underlying t=some (.slice T)) (hi:(P.info? T).map (fun i=>(i.zero,i.size,i.bytes))=some (some (.int .u8 0),1,1)) {g c base B:Nat} {y:Value} {xs ys:List Int} (hs:ρ s=.slice (some ⟨g,0,none⟩) xs.length c) (hx:ρ x=y)
    (h:OwnN .u8 T base xs (.slice (some ⟨g,0,none⟩) xs.length c) W) (hy:RdK .u8 B ys y W) (hn:xs.length+ys.length≤1000000000) (hbase:base≤W.heap.size) :
    ∃ v' W',(execOp ρ o).run P W=.ok (.value v') W'∧Qct g base xs.length ys W W'∧OwnN .u8 T base (xs++ys) v' W':=by
  obtain ⟨v',W',r,q,p⟩:=Qk0 (ρ:=ρ) (o:=o) (W:=W) (n:=xs.length) (Y:=ys) (b:=1) s x t ho ht hi (by decide) hs hx h hy hn hbase (.inr ⟨rfl,rfl⟩)
  obtain ⟨v2,W2,r2,o2,g2,-⟩:=QdQ (ρ:=ρ) (o:=o) (W:=W) (b:=1) s x t ho ht hi (by decide) hs hx h hy hn hbase
  rw [r] at r2
  injection r2 with _ r3
  subst r3
  exact ⟨v',W',r,⟨q,fun k hk hn=>g2.block k hk (fun e=>hn (Option.some.inj e))⟩,p⟩
theorem run_extractT {P : Program} {ρ:Operand→Value} {o:Oper} {w:World} (x:Operand) (i:Nat) (vs:Array Value) (u:Value) (ho:o.op=.extract x i) (hx:ρ x=.tuple vs) (hi:vs[i]? = some u):(execOp ρ o).run P w=.ok (.value u) w:=by
  unfold execOp
  simp [ho,hx,Instr.extract,hi]
section
variable {P : Program} {R : World → World → Prop} {w0 : World} {N : Nat} {L : Env} {F : List KE → Prop} {o : Oper} {os : List Oper} {s : Src} {ss : List Src} {C : List KE}
theorem Qk2 (φ : Fact) (hφ:QbA R φ) {rd:List (Tmp×Option Nat)}
    (h:∀ (ρ:Tmp→Value) (W:World),R w0 W→Qc1 (envN N L) (C.map KE.fact) ρ W rd→∃ v W',(execOp (Rely.look ρ) o).run P W=.ok (.value v) W'∧R W W'∧φ v W')
    (hk:Qbs P R w0 N L F os ss (C++[.ex φ])):Qbs P R w0 N L F (o::os) (⟨none,rd⟩::ss) C :=
  ⟨.ex φ,hφ,fun ρ W hR hh=>by
    obtain ⟨v,W',h1,h2,h3⟩:=h ρ W hR hh
    show Qcb _ _ _ _ _
    rw [h1]
    exact ⟨h2,h3⟩,hk⟩
theorem Qj5 (hrf : ∀ W,R W W) (hre:∀ {A B:World},Ext A B→R A B) (φ:Fact) (hφ:QbA R φ) (f:FuncId) {rd:List (Tmp×Option Nat)}
    (h:∀ (ρ:Tmp→Value) (W:World),R w0 W→Qc1 (envN N L) (C.map KE.fact) ρ W rd→∃ args,(execOp (Rely.look ρ) o).run P W=.ok (.enter f args) W∧Calls P f args W (QbN W φ))
    (hk:Qbs P R w0 N L F os ss (C++[.ex φ])):Qbs P R w0 N L F (o::os) (⟨none,rd⟩::ss) C :=
  ⟨.ex φ,hφ,fun ρ W hR hh=>by
    obtain ⟨args,h1,h2⟩:=h ρ W hR hh
    show Qcb _ _ _ _ _
    rw [h1]
    exact ⟨hrf _,h2.mono fun _ _ h=>Qk9 h.fact (fun e=>hre e)⟩,hk⟩
end
theorem QjF (sec ctx:List Int) (s:ByteArray) (v2:Value) (B2:Nat) (w:World)   (hsl:sec.length=32) (hsb:Qat sec) (hxb:Qat ctx) (hx:RdK .u8 B2 ctx v2 w) (n:Int) (h:255<(strB s).length):Calls Tryd.prog 37 #[.agg (ints .u8 sec),.string s,v2,.int .i64 n] w (Ret w (.tuple #[.slice none 0 0,.bool false])):=by
  obtain ⟨a_ctx,c_ctx,rfl,-⟩:=id hx
  refine enter 67 [(0,.agg (ints .u8 (sec))),(1,.string s),(2,.slice a_ctx ctx.length c_ctx),(3,.int .i64 n)] Tryd.func37 rfl rfl kj rfl ?_
  refine wp_seq_k fun K1 hK1=>?_
  refine Qaf ?_
  refine Qap (ints .u8 (sec)) 23 4 rfl kj kj fun g2 W1 l2 e1 r2_1=>?_
  have x1:Ext w W1:=Ext.tr (Rely.Ext.refl w) e1
  have b2:w.heap.size≤g2:=qT (Rely.Ext.refl w).size l2
  refine Qab (.slice none 0 0) 8 rfl kj kj ?_
  refine Qab (.bool false) 9 rfl kj kj ?_
  refine Qak ?_
  refine hK1 _ _ ?_
  refine wp_seq_k fun K3 hK3=>?_
  refine wp_seq_k fun K4 hK4=>?_
  refine Qaf ?_
  refine Qab (.string s) 12 rfl kj kj ?_
  refine Qab (.int .i64 (((strB s).length:Nat):Int)) 13 rfl kj (Qai (u:=.int .i64 ((s.size:Nat):Int)) kj (congrArg (fun z:Nat=>Value.int .i64 (z:Int)) (QbQ s).symm)) ?_
  refine Qab (.bool true) 14 rfl kj (Qai (u:=.bool (decide ((((strB s).length:Nat):Int)>255))) kj (congrArg Value.bool (decide_eq_true (by omega)))) ?_
  refine Qab (.bool true) 15 rfl kj kj ?_
  refine QbR 16 rfl kj ?_
  refine QbR 17 rfl kj ?_
  refine QbR 18 rfl kj ?_
  refine Qab (.bool true) 19 rfl kj kj ?_
  refine Qab (.bool true) 20 rfl kj kj ?_
  refine QbR 21 rfl kj ?_
  refine QbR 22 rfl kj ?_
  refine Qab (.bool true) 23 rfl kj kj ?_
  refine Qab (.bool true) 24 rfl kj kj ?_
  refine QbR 25 rfl kj ?_
  refine QbR 26 rfl kj ?_
  refine Qab (.bool true) 27 rfl kj kj ?_
  refine Qak ?_
  refine hK4 _ _ ?_
  refine cond_true kj ?_
  refine wp_seq_k fun K5 hK5=>?_
  refine Qaf ?_
  refine Qab (.slice none 0 0) 8 rfl kj kj ?_
  refine Qab (.bool false) 9 rfl kj kj ?_
  refine Qak ?_
  refine hK5 _ _ ?_
  refine wp_ret ?_
  repeat (first | with_reducible refine goR1 ?_ | with_reducible refine goR2 ?_)
  exact (show bodyPost _ _ _ .ret _ _ from ret2 (.slice none 0 0) (.bool false) rfl (Qa2 kj) (Qa2 kj) ⟨rfl,x1⟩)
theorem QiA (sec ctx:List Int) (s:ByteArray) (v2:Value) (B2:Nat) (w:World)   (hsl:sec.length=32) (hsb:Qat sec) (hxb:Qat ctx) (hx:RdK .u8 B2 ctx v2 w) (n:Nat) (hn:n≤8160) (hl:(strB s).length≤255) (hc2:ctx.length≤65536):Calls Tryd.prog 37 #[.agg (ints .u8 sec),.string s,v2,.int .i64 ((n:Nat):Int)] w (QbN w (fun v W=>∃ u,v=.tuple #[u,.bool true]∧OwnN .u8 5 w.heap.size (kx sec (Qbn (strB s) ctx n) n) u W)):=by
  obtain ⟨a_ctx,c_ctx,rfl,-⟩:=id hx
  refine enter 67 [(0,.agg (ints .u8 (sec))),(1,.string s),(2,.slice a_ctx ctx.length c_ctx),(3,.int .i64 ((n:Nat):Int))] Tryd.func37 rfl rfl kj rfl ?_
  refine wp_seq_k fun K1 hK1=>?_
  refine Qaf ?_
  refine Qap (ints .u8 (sec)) 23 4 rfl kj kj fun g2 W1 l2 e1 r2_1=>?_
  have x1:Ext w W1:=Ext.tr (Rely.Ext.refl w) e1
  have b2:w.heap.size≤g2:=qT (Rely.Ext.refl w).size l2
  refine Qab (.slice none 0 0) 8 rfl kj kj ?_
  refine Qab (.bool false) 9 rfl kj kj ?_
  refine Qak ?_
  refine hK1 _ _ ?_
  refine wp_seq_k fun K3 hK3=>?_
  refine wp_seq_k fun K4 hK4=>?_
  refine Qaf ?_
  refine Qab (.string s) 12 rfl kj kj ?_
  refine Qab (.int .i64 (((strB s).length:Nat):Int)) 13 rfl kj (Qai (u:=.int .i64 ((s.size:Nat):Int)) kj (congrArg (fun z:Nat=>Value.int .i64 (z:Int)) (QbQ s).symm)) ?_
  refine Qab (.bool false) 14 rfl kj (Qai (u:=.bool (decide ((((strB s).length:Nat):Int)>255))) kj (congrArg Value.bool (decide_eq_false (by omega)))) ?_
  refine Qab (.bool false) 15 rfl kj kj ?_
  refine Qab (.slice a_ctx ctx.length c_ctx) 16 rfl kj kj ?_
  refine Qab (.int .i64 ((ctx.length:Nat):Int)) 17 rfl kj kj ?_
  refine Qab (.bool false) 18 rfl kj (Qai (u:=.bool (decide (((ctx.length:Nat):Int)>65536))) kj (congrArg Value.bool (decide_eq_false (by omega)))) ?_
  refine Qab (.bool false) 19 rfl kj kj ?_
  refine Qab (.bool false) 20 rfl kj kj ?_
  refine Qab (.int .i64 ((n:Nat):Int)) 21 rfl kj kj ?_
  refine Qab (.bool false) 22 rfl kj (Qai (u:=.bool (decide (((n:Nat):Int)<0))) kj (congrArg Value.bool (decide_eq_false (by omega)))) ?_
  refine Qab (.bool false) 23 rfl kj kj ?_
  refine Qab (.bool false) 24 rfl kj kj ?_
  refine Qab (.int .i64 ((n:Nat):Int)) 25 rfl kj kj ?_
  refine Qab (.bool false) 26 rfl kj (Qai (u:=.bool (decide (((n:Nat):Int)>8160))) kj (congrArg Value.bool (decide_eq_false (by omega)))) ?_
  refine Qab (.bool false) 27 rfl kj kj ?_
  refine Qak ?_
  refine hK4 _ _ ?_
  refine cond_false kj ?_
  refine wp_skip ?_
  refine hK3 _ _ ?_
  refine wp_seq_k fun K5 hK5=>?_
  refine Qaf ?_
  refine Qab (.slice a_ctx ctx.length c_ctx) 28 rfl kj kj ?_
  refine Qab (.int .i64 ((ctx.length:Nat):Int)) 29 rfl kj kj ?_
  refine Qab (.int .i64 ((ctx.length:Nat):Int)) 10 rfl kj kj ?_
  refine Qak ?_
  refine hK5 _ _ ?_
  refine wp_seq_k fun K6 hK6=>?_
  refine Qaf ?_
  refine Qab (.int .i64 ((n:Nat):Int)) 30 rfl kj kj ?_
  refine Qab (.int .i64 ((n/256:Nat):Int)) 31 rfl kj (Qai (u:=.int .i64 (IntKind.i64.wrap (Int.tdiv (((n:Nat):Int)) (256)))) kj (congrArg (Value.int .i64) (Qed _ 256 (by omega)))) ?_
  refine Qab (.int .u8 (((n/256:Nat):Int))) 32 rfl kj (Qai (u:=.int .u8 (IntKind.u8.wrap ((n/256:Nat):Int))) kj (congrArg (Value.int .u8) (QdP (n/256) (n/256) (by omega)))) ?_
  refine Qab (.int .i64 ((n:Nat):Int)) 33 rfl kj kj ?_
  refine Qab (.int .i64 ((n%256:Nat):Int)) 34 rfl kj (Qai (u:=.int .i64 (Int.tmod (((n:Nat):Int)) (256))) kj (congrArg (Value.int .i64) (Qcz _ 256))) ?_
  refine Qab (.int .u8 (((n%256:Nat):Int))) 35 rfl kj (Qai (u:=.int .u8 (IntKind.u8.wrap ((n%256:Nat):Int))) kj (congrArg (Value.int .u8) (QdP (n%256) (n%256) (by omega)))) ?_
  refine Qab (.string s) 36 rfl kj kj ?_
  refine Qab (.int .i64 (((strB s).length:Nat):Int)) 37 rfl kj (Qai (u:=.int .i64 ((s.size:Nat):Int)) kj (congrArg (fun z:Nat=>Value.int .i64 (z:Int)) (QbQ s).symm)) ?_
  refine Qab (.int .u8 ((((strB s).length:Nat):Int))) 38 rfl kj (Qai (u:=.int .u8 (IntKind.u8.wrap (((strB s).length:Nat):Int))) kj (congrArg (Value.int .u8) (QdP ((strB s).length) ((strB s).length) (by omega)))) ?_
  refine QaL (ints .u8 ([(((n/256:Nat):Int)),(((n%256:Nat):Int)),((((strB s).length:Nat):Int))])) 5 3 39 rfl kj kj fun g7 W2 l7 e2 r7_2=>?_
  have x2:Ext w W2:=Ext.tr x1 e2
  have b7:w.heap.size≤g7:=qT x1.size l7
  refine Qab (.string s) 40 rfl kj kj ?_
  have y1_2:Ext W1 W2:=(Rely.Ext.trans (Rely.Ext.refl W1) e2)
  refine QeA (T:=5) (xs:=[(((n/256:Nat):Int)),(((n%256:Nat):Int)),((((strB s).length:Nat):Int))]) (lab:=s) (V:=W1) (.tmp 39) (.tmp 40) 38 9 rfl kj kj kj 41 rfl kj kj kj (QbU (xs:=[(((n/256:Nat):Int)),(((n%256:Nat):Int)),((((strB s).length:Nat):Int))]) (n:=3) rfl l7 r7_2 (by decide)) (by have:(Qci (strB s) n).length=3:=rfl; (try simp only [List.length_append,List.length_cons,List.length_nil]); omega) y1_2 fun z2 W3 f8 y3 l3=>?_
  have x3:Ext w W3:=Ext.low x2 l3 x1.size
  have hu9:OwnN .u8 5 W1.heap.size (Qci (strB s) n++strB s) z2 W3:=f8
  refine Qab (z2) 11 rfl kj kj ?_
  refine Qak ?_
  refine hK6 _ _ ?_
  refine wp_seq_k fun K10 hK10=>?_
  refine Qaf ?_
  refine Qab (z2) 42 rfl kj kj ?_
  refine Qab (.int .i64 ((ctx.length:Nat):Int)) 43 rfl kj kj ?_
  refine Qab (.int .i64 ((ctx.length/16777216:Nat):Int)) 44 rfl kj (Qai (u:=.int .i64 (IntKind.i64.wrap (Int.tdiv (((ctx.length:Nat):Int)) (16777216)))) kj (congrArg (Value.int .i64) (Qed _ 16777216 (by omega)))) ?_
  refine Qab (.int .u8 (((ctx.length/16777216:Nat):Int))) 45 rfl kj (Qai (u:=.int .u8 (IntKind.u8.wrap ((ctx.length/16777216:Nat):Int))) kj (congrArg (Value.int .u8) (QdP (ctx.length/16777216) (ctx.length/16777216) (by omega)))) ?_
  refine Qab (.int .i64 ((ctx.length:Nat):Int)) 46 rfl kj kj ?_
  refine Qab (.int .i64 ((ctx.length/65536:Nat):Int)) 47 rfl kj (Qai (u:=.int .i64 (IntKind.i64.wrap (Int.tdiv (((ctx.length:Nat):Int)) (65536)))) kj (congrArg (Value.int .i64) (Qed _ 65536 (by omega)))) ?_
  refine Qab (.int .i64 (((ctx.length/65536)%256:Nat):Int)) 48 rfl kj (Qai (u:=.int .i64 (Int.tmod (((ctx.length/65536:Nat):Int)) (256))) kj (congrArg (Value.int .i64) (Qcz _ 256))) ?_
  refine Qab (.int .u8 (((ctx.length/65536%256:Nat):Int))) 49 rfl kj (Qai (u:=.int .u8 (IntKind.u8.wrap (((ctx.length/65536)%256:Nat):Int))) kj (congrArg (Value.int .u8) (QdP (ctx.length/65536%256) (ctx.length/65536%256) (by omega)))) ?_
  refine Qab (.int .i64 ((ctx.length:Nat):Int)) 50 rfl kj kj ?_
  refine Qab (.int .i64 ((ctx.length/256:Nat):Int)) 51 rfl kj (Qai (u:=.int .i64 (IntKind.i64.wrap (Int.tdiv (((ctx.length:Nat):Int)) (256)))) kj (congrArg (Value.int .i64) (Qed _ 256 (by omega)))) ?_
  refine Qab (.int .i64 (((ctx.length/256)%256:Nat):Int)) 52 rfl kj (Qai (u:=.int .i64 (Int.tmod (((ctx.length/256:Nat):Int)) (256))) kj (congrArg (Value.int .i64) (Qcz _ 256))) ?_
  refine Qab (.int .u8 (((ctx.length/256%256:Nat):Int))) 53 rfl kj (Qai (u:=.int .u8 (IntKind.u8.wrap (((ctx.length/256)%256:Nat):Int))) kj (congrArg (Value.int .u8) (QdP (ctx.length/256%256) (ctx.length/256%256) (by omega)))) ?_
  refine Qab (.int .i64 ((ctx.length:Nat):Int)) 54 rfl kj kj ?_
  refine Qab (.int .i64 ((ctx.length%256:Nat):Int)) 55 rfl kj (Qai (u:=.int .i64 (Int.tmod (((ctx.length:Nat):Int)) (256))) kj (congrArg (Value.int .i64) (Qcz _ 256))) ?_
  refine Qab (.int .u8 (((ctx.length%256:Nat):Int))) 56 rfl kj (Qai (u:=.int .u8 (IntKind.u8.wrap ((ctx.length%256:Nat):Int))) kj (congrArg (Value.int .u8) (QdP (ctx.length%256) (ctx.length%256) (by omega)))) ?_
  refine QaL (ints .u8 ([(((ctx.length/16777216:Nat):Int)),(((ctx.length/65536%256:Nat):Int)),(((ctx.length/256%256:Nat):Int)),(((ctx.length%256:Nat):Int))])) 5 4 57 rfl kj kj fun g11 W4 l11 e4 r11_4=>?_
  have x4:Ext w W4:=Ext.tr x3 e4
  have b11:w.heap.size≤g11:=qT x3.size l11
  have f12_4:=(hu9.ext e4)
  have y1_4:Ext W1 W4:=(Rely.Ext.trans y3 e4)
  refine QaM (k:=.u8) (T:=5) (xs:=Qci (strB s) n++strB s) (ys:=[(((ctx.length/16777216:Nat):Int)),(((ctx.length/65536%256:Nat):Int)),(((ctx.length/256%256:Nat):Int)),(((ctx.length%256:Nat):Int))]) (V:=W1) 1 (.tmp 42) (.tmp 57) 38 rfl kj kj (by decide) 58 rfl kj kj kj f12_4 (QaU (xs:=[(((ctx.length/16777216:Nat):Int)),(((ctx.length/65536%256:Nat):Int)),(((ctx.length/256%256:Nat):Int)),(((ctx.length%256:Nat):Int))]) (n:=4) rfl r11_4 (Qay r11_4) (show 4≤maxLen from by decide)) (by have:(Qci (strB s) n).length=3:=rfl; simp only [List.length_append,List.length_cons,List.length_nil]; omega) y1_4 fun z3 W5 f13 y5 l5=>?_
  have x5:Ext w W5:=Ext.low x4 l5 x1.size
  have hu15:OwnN .u8 5 W1.heap.size ((Qci (strB s) n++strB s)++Qd5 ctx.length) z3 W5:=f13
  refine Qab (z3) 11 rfl kj kj ?_
  refine Qak ?_
  refine hK10 _ _ ?_
  refine wp_seq_k fun K16 hK16=>?_
  have hxs:RdK .u8 w.heap.size ctx (.slice a_ctx ctx.length c_ctx) W5:=(RdK.here hx).ext x5
  have hbx:w.heap.size≤W1.heap.size:=x1.size
  have hbW:W1.heap.size≤W5.heap.size:=y5.size
  have hlx:((Qci (strB s) n++strB s)++Qd5 ctx.length).length+ctx.length≤1000000000:=by have:(Qci (strB s) n).length=3:=rfl; have:(Qd5 ctx.length).length=4:=rfl; simp only [List.length_append]; omega
  obtain ⟨gz,cz,curz,hze,hz1,hz2,-,-,-,-⟩:=Qdc hu15 (by have:(Qci (strB s) n).length=3:=rfl; simp only [List.length_append]; omega)
  have hgz:=Qay hz2
  subst hze
  have r2_2:=(Qac r2_1 e2)
  have r2_3:=(QaS l3 r2_2 (Qay r2_1))
  have r2_4:=(Qac r2_3 e4)
  have r2_5:=(QaS l5 r2_4 (Qay r2_1))
  have hn4:g2≠gz:=by have h1:=Qay r2_1; omega
  refine QgY (Qct gz W1.heap.size ((Qci (strB s) n++strB s)++Qd5 ctx.length).length ctx) (Qct.refl _ _ _ _) (fun h k=>Qct.trans h k) 8 [⟨none,[(4,none)]⟩,⟨none,[(11,none)]⟩,⟨none,[(2,none)]⟩,⟨none,[(60,some 1),(61,some 2)]⟩,⟨none,[(3,none)]⟩,⟨none,[(59,some 0),(62,some 3),(63,some 4)]⟩,⟨none,[(64,some 5)]⟩,⟨none,[(64,some 5)]⟩] kj kj fun F hF=>?_
  refine Qfw (Qct.refl _ _ _ _) (.slice (some ⟨g2,0,none⟩) 32 32) kj kj (fun W hR=>by kernel_rfl) ?_
  refine Qfw (Qct.refl _ _ _ _) (.slice (some ⟨gz,0,none⟩) ((Qci (strB s) n++strB s)++Qd5 ctx.length).length cz) kj kj (fun W hR=>by kernel_rfl) ?_
  refine Qfw (Qct.refl _ _ _ _) (.slice a_ctx ctx.length c_ctx) kj kj (fun W hR=>by kernel_rfl) ?_
  refine Qml (OwnN .u8 5 W1.heap.size (((Qci (strB s) n++strB s)++Qd5 ctx.length)++ctx)) (Qgo (fun i hi h=>by unfold nth; rw [List.getD_eq_getElem?_getD,List.getD_eq_getElem?_getD,List.getElem?_append_right h])) kj kj (fun W hR=>Qj2 (.tmp 60) (.tmp 61) 38 (by rfl) kj kj kj kj (Qgo (fun i hi h=>absurd hi (by omega)) _ _ _ hR (hu15.ext (Qaz _))) (hR.once.rd (hxs.ext (Qaz _)) hbx) hlx (qT hbW (qT (Qaz W5).size hR.once.size))) ?_
  refine Qfw (Qct.refl _ _ _ _) (.int .i64 ((n:Nat):Int)) kj kj (fun W hR=>by kernel_rfl) ?_
  refine Qj5 (Qct.refl _ _ _ _) (fun e=>Qct.ext e) (fun v W=>∃ u,v=.tuple #[u,.bool true]∧OwnN .u8 5 w.heap.size (kx sec (Qbn (strB s) ctx n) n) u W∧u.ownBlock≠some gz) (fun v W W' hR h=>by obtain ⟨u,e,h1,h2⟩:=h; exact ⟨u,e,Qfm hR h1 h2,h2⟩) 49 (fun ρ W hR hh=>?_) ?_
  · have e59:ρ 59=.slice (some ⟨g2,0,none⟩) 32 32:=hh.1
    have h62:OwnN .u8 5 W1.heap.size (((Qci (strB s) n++strB s)++Qd5 ctx.length)++ctx) (ρ 62) W:=hh.2.1
    have e63:ρ 63=.int .i64 ((n:Nat):Int):=hh.2.2.1
    have h4:=hR.row (Qac r2_5 (Qaz _)) hn4
    have hWs:w.heap.size≤W.heap.size:=qT x5.size (qT (Qaz W5).size hR.once.size)
    have hgW:gz<W.heap.size:=qL hgz (qT (Qaz W5).size hR.once.size)
    refine ⟨#[.slice (some ⟨g2,0,none⟩) 32 32,ρ 62,.int .i64 ((n:Nat):Int)],Eq.trans (b:=Result.ok (Next.enter 49 #[ρ 59,ρ 62,ρ 63]) W) kj (by rw [e59,e63]),?_⟩
    exact (QjG sec (Qbn (strB s) ctx n) _ _ _ _ n _ hn (by omega) (by rw [Qgz]; omega) hsb (QeO _ _ _ (Qff s) hxb hl hc2 hn) (QaU (xs:=sec) (n:=32) hsl h4 (Qay h4) (by decide)) (OwnN.rd h62)).mono fun e W' ⟨v,q1,q2,u,q3,q4⟩=>⟨v,q1,q2,u,q3,OwnN.base hWs q4,fun e=>by have:=q4.ge e; omega⟩
  refine Qk2 (fun v W=>OwnN .u8 5 w.heap.size (kx sec (Qbn (strB s) ctx n) n) v W∧v.ownBlock≠some gz) (fun v W W' hR h=>⟨Qfm hR h.1 h.2,h.2⟩) (fun ρ W hR hh=>?_) ?_
  · obtain ⟨u,e64,q1,q2⟩:=hh.1
    exact ⟨u,W,run_extractT (.tmp 64) 0 #[u,.bool true] u rfl e64 rfl,Qct.refl _ _ _ _ _,q1,q2⟩
  refine Qk2 (fun v W=>v=.bool true) (fun v W W' hR h=>h) (fun ρ W hR hh=>?_) ?_
  · obtain ⟨u,e64,q1,q2⟩:=hh.1
    exact ⟨.bool true,W,run_extractT (.tmp 64) 1 #[u,.bool true] _ rfl e64 rfl,Qct.refl _ _ _ _ _,rfl⟩
  refine Qdk (hF _ fun W6 hR=>?_)
  simp only [List.nil_append,List.cons_append,List.take_succ_cons,List.take_zero,List.drop_succ_cons,List.drop_zero,finE,up]
  rintro z4 hz4 z64 hz64 z65 ⟨hz65,-⟩ z66 rfl
  clear hF
  have l6:Below W1.heap.size W5 W6:=Qil (hR.once.below (qT hbW (Qaz _).size)) hbW
  have x6:Ext w W6:=Ext.low x5 l6 x1.size
  refine Qab (z65) 8 rfl kj kj ?_
  refine Qab (.bool true) 9 rfl kj kj ?_
  refine Qak ?_
  refine hK16 _ _ ?_
  refine wp_ret ?_
  repeat (first | with_reducible refine goR1 ?_ | with_reducible refine goR2 ?_)
  exact (show bodyPost _ _ _ .ret _ _ from ret2 (z65) (.bool true) rfl (Qa2 kj) (Qa2 kj) ⟨_,rfl,x6,z65,rfl,hz65⟩)
end Go.Proofs.YtibegnjaphohaaaDoor.Sha
end
section
namespace Go.Proofs.YtibegnjaphohaaaDoor.Sha
open Go Go.RowKit
open Rely Auto Own
theorem QiE (sec : List Int) (s:ByteArray) (w:World)   (hsl:sec.length=32) (hsb:Qat sec) (h:(strB s).length≤255):Calls Tryd.prog 26 #[.agg (ints .u8 sec),.string s] w (Ret w (.agg (ints .u8 (Qbx sec (strB s))))):=by
 refine enter 28 [(0,.agg (ints .u8 (sec))),(1,.string s)] Tryd.func26 rfl rfl kj rfl ?_
 refine wp_seq_k fun K1 hK1=>?_
 refine Qaf ?_
 refine Qap (ints .u8 (sec)) 23 2 rfl kj kj fun g2 W1 l2 e1 r2_1=>?_
 have x1:Ext w W1:=Ext.tr (Rely.Ext.refl w) e1
 have b2:w.heap.size≤g2:=qT (Rely.Ext.refl w).size l2
 refine Qap (ints .u8 (List.replicate 32 0)) 23 4 rfl kj kj fun g3 W2 l3 e2 r3_2=>?_
 have x2:Ext w W2:=Ext.tr x1 e2
 have b3:w.heap.size≤g3:=qT x1.size l3
 refine Qak ?_
 refine hK1 _ _ ?_
 refine wp_seq_k fun K4 hK4=>?_
 refine Qaf ?_
 refine Qap (ints .u8 (List.replicate 32 0)) 23 5 rfl kj kj fun g5 W3 l5 e3 r5_3=>?_
 have x3:Ext w W3:=Ext.tr x2 e3
 have b5:w.heap.size≤g5:=qT x2.size l5
 refine Qak ?_
 refine hK4 _ _ ?_
 refine wp_seq_k fun K6 hK6=>?_
 refine Qaf ?_
 have r2_2:=(Qac r2_1 e2)
 have r2_3:=(Qac r2_2 e3)
 refine Qab (.agg (ints .u8 (sec))) 10 rfl kj (Qaq 23 _ g2 23 _ _ r2_3 rfl kj kj (isz (n:=32) kj ((Qad _ _).trans hsl))) ?_
 refine Qab (.string s) 11 rfl kj kj ?_
 refine Qa6 (fun v W'=>(fun v W=>∃ u,v=.tuple #[u,.bool true]∧OwnN .u8 5 W3.heap.size (kx sec (Qbn (strB s) [] 32) 32) u W) v W'∧Ext W3 W') 37 #[.agg (ints .u8 (sec)),.string s,.slice none 0 0,.int .i64 32] 12 rfl kj kj ((QiA sec [] s (.slice none 0 0) _ _ hsl hsb (fun x hx=>by cases hx) (nilrd _) 32 (by decide) h (by decide)).mono (by rintro e w' ⟨v,rfl,e1,hv⟩; exact ⟨v,rfl,hv,e1⟩)) fun vv7 W4 hh7=>?_
 obtain ⟨hv7,e4⟩:=hh7
 have x4:Ext w W4:=Ext.tr x3 e4
 obtain ⟨uu,rfl,huu⟩:=hv7
 obtain ⟨au,cu,rfl,-⟩:=id (OwnN.rd huu)
 have nb5:(Value.slice au (kx sec (Qbn (strB s) [] 32) 32).length cu).ownBlock≠some g5:=fun e=>by have h1:=OwnN.ge huu e; have h2:=Qay r5_3; omega
 refine Qab (.tuple #[.slice au ((kx sec (Qbn (strB s) [] 32) 32).length) cu,.bool true]) 9 rfl kj kj ?_
 refine Qab (.slice au ((kx sec (Qbn (strB s) [] 32) 32).length) cu) 13 rfl kj kj ?_
 refine Qab (.bool true) 14 rfl kj kj ?_
 refine Qab (.slice au ((kx sec (Qbn (strB s) [] 32) 32).length) cu) 6 rfl kj kj ?_
 refine Qab (.bool true) 7 rfl kj kj ?_
 refine Qak ?_
 refine hK6 _ _ ?_
 refine wp_seq_k fun K8 hK8=>?_
 refine wp_seq_k fun K9 hK9=>?_
 refine Qaf ?_
 refine Qab (.int .i64 0) 8 rfl kj kj ?_
 refine Qak ?_
 refine hK9 _ _ ?_
 refine wp_block ?_
 have hkl:=QbD sec (Qbn (strB s) [] 32) 32
 have r5_4:=(Qac r5_3 e4)
 refine QaC (fun (s1:Nat)=>[(0,.agg (ints .u8 (sec))),(1,.string s),(2,.pointer (some ⟨g2,0,none⟩)),(4,.pointer (some ⟨g3,0,none⟩)),(5,.pointer (some ⟨g5,0,none⟩)),(6,.slice au ((kx sec (Qbn (strB s) [] 32) 32).length) cu),(7,.bool true),(8,.int .i64 ((s1:Nat):Int))]) (fun (s1:Nat) W=>(s1≤32)∧(W.heap[g5]? = some (.cells (ints .u8 (Qdh (kx sec (Qbn (strB s) [] 32) 32) 32 s1)) 23))∧(Qah [g5] W4 W)∧(Ext w W)) (fun (s1:Nat)=>32-s1) 0 ⟨rfl,rfl,rfl,rfl,rfl,rfl,rfl,rfl,trivial⟩ ⟨(by decide),(Qbi r5_4 (Qfs (kx sec (Qbn (strB s) [] 32) 32) 32)),(Qah.refl [g5] W4),x4⟩ fun s1 X1 V1 hI1=>?_
 obtain ⟨i,hs1⟩:∃ z,z=s1:=⟨_,rfl⟩
 subst hs1
 obtain ⟨hi,q5_1,kk1,xx1⟩:=hI1
 replace hi:i≤32:=hi
 replace q5_1:V1.heap[g5]? = some (.cells (ints .u8 (Qdh (kx sec (Qbn (strB s) [] 32) 32) 32 i)) 23):=q5_1
 replace kk1:Qah [g5] W4 V1:=kk1
 replace xx1:Ext w V1:=xx1
 have q5:=kk1
 refine wp_seq_k fun K10 hK10=>?_
 refine wp_seq_k fun K11 hK11=>?_
 refine Qaf ?_
 refine Qab (.int .i64 ((i:Nat):Int)) 15 rfl kj kj ?_
 refine Qab (.slice au ((kx sec (Qbn (strB s) [] 32) 32).length) cu) 16 rfl kj kj ?_
 refine Qab (.int .i64 (((kx sec (Qbn (strB s) [] 32) 32).length:Nat):Int)) 17 rfl kj kj ?_
 refine Qab (.bool (decide (((i:Nat):Int)<(((kx sec (Qbn (strB s) [] 32) 32).length:Nat):Int)))) 18 rfl kj kj ?_
 refine Qak ?_
 refine hK11 _ _ ?_
 refine Qa3 (t:=decide (((i:Nat):Int)<(((kx sec (Qbn (strB s) [] 32) 32).length:Nat):Int))) kj (fun c12=>?_) (fun c12=>?_)
 ·skip
  have hlt:i<32:=by have:=of_decide_eq_true c12; omega
  refine wp_skip ?_
  refine hK10 _ _ ?_
  refine wp_seq_k fun K13 hK13=>?_
  refine wp_block ?_
  refine Qaf ?_
  refine Qab (.int .i64 ((i:Nat):Int)) 21 rfl kj kj ?_
  refine Qab (.slice au ((kx sec (Qbn (strB s) [] 32) 32).length) cu) 22 rfl kj kj ?_
  refine Qab (.int .i64 ((i:Nat):Int)) 23 rfl kj kj ?_
  have f15_5:=(OwnN.keepsL huu q5 (nb_cons nb5 nb_nil))
  have hnu_14:(kx sec (Qbn (strB s) [] 32) 32).length=32:=(QbD _ _ _)
  obtain ⟨gcu_14,ocu_14,hau_14,hlu_14,hcu_14⟩:=rdK_open (OwnN.rd f15_5) (by rw [hnu_14]; omega)
  refine Qab (.pointer (some ⟨gcu_14,ocu_14+i,none⟩)) 24 rfl kj (run_indexA 38 _ _ .i64 i gcu_14 ocu_14 ((kx sec (Qbn (strB s) [] 32) 32).length) cu 5 au _ hau_14 rfl rfl kj kj kj kj (Nat.lt_of_lt_of_eq (show i<32 by omega) hnu_14.symm)) ?_
  refine Qab (.int .u8 (nth (kx sec (Qbn (strB s) [] 32) 32) (i))) 25 rfl kj (QaH 5 _ _ (.int .u8 (nth (kx sec (Qbn (strB s) [] 32) 32) (i))) (hcu_14 i (Nat.lt_of_lt_of_eq (show i<32 by omega) hnu_14.symm)) rfl kj kj) ?_
  refine Qab (.pointer (some ⟨g5,i,none⟩)) 26 rfl kj (Qbl _ _ _ .i64 (i) _ 32 5 rfl kj kj kj kj (by omega)) ?_
  refine Qaj g5 _ (ints .u8 ((Qdh (kx sec (Qbn (strB s) [] 32) 32) 32 i).set i (nth (kx sec (Qbn (strB s) [] 32) 32) (i)))) 23 q5_1 rfl kj (Qao 5 _ _ g5 i 23 _ _ q5_1 rfl kj kj kj (Nat.lt_of_lt_of_eq (by omega) (Qg4 _ 32 i (QbD _ _ _) hi).symm)) fun W6 p6 r5_6=>?_
  have x6:Ext w W6:=Puts.ext p6 xx1 b5
  refine Qak ?_
  refine hK13 _ _ ?_
  refine Qaf ?_
  refine Qab (.int .i64 ((i:Nat):Int)) 19 rfl kj kj ?_
  refine Qab (.int .i64 ((i+1:Nat):Int)) 20 rfl kj (Qai (u:=.int .i64 (IntKind.i64.wrap (((i:Nat):Int)+1))) kj (congrArg (Value.int .i64) (i64n _ _ (by omega) (by omega)))) ?_
  refine Qab (.int .i64 ((i+1:Nat):Int)) 8 rfl kj kj ?_
  refine Qak ?_
  repeat (first | with_reducible refine goX1 ?_ | with_reducible refine goX2 ?_ | with_reducible refine goX3 ?_)
  exact Qa4 (i+1) ⟨rfl,rfl,rfl,rfl,rfl,rfl,rfl,rfl,trivial⟩ ⟨(by omega),(Qbi r5_6 (Qft _ 32 i (QbD _ _ _) hlt)),(Qah.puts q5 p6 (.inl (by simp))),x6⟩ (by show 32-(i+1)<32-i; omega)
 ·skip
  have hie:i=32:=by have:=of_decide_eq_false c12; omega
  subst hie
  have r5_5_16:V1.heap[g5]? = some (.cells (ints .u8 (kx sec (Qbn (strB s) [] 32) 32)) 23):=Qbi q5_1 (Qfu _ 32 (QbD _ _ _))
  refine wp_exit ?_
  refine hK8 _ _ ?_
  refine wp_seq_k fun K17 hK17=>?_
  refine Qaf ?_
  refine Qab (.agg (ints .u8 (kx sec (Qbn (strB s) [] 32) 32))) 27 rfl kj (Qaq 23 _ g5 23 _ _ r5_5_16 rfl kj kj (isz (n:=32) kj ((Qad _ _).trans (QbD _ _ _)))) ?_
  have r3_3:=(Qac r3_2 e3)
  have r3_4:=(Qac r3_3 e4)
  have r3_5:=(Qah.row q5 r3_4 (Qax (Qae r3_2 l5) QaJ))
  refine Qaj g3 _ (ints .u8 (kx sec (Qbn (strB s) [] 32) 32)) 23 r3_5 rfl kj (Qal 23 _ _ g3 23 _ _ r3_5 rfl kj kj (isz (n:=32) kj ((Qad _ _).trans (QbD _ _ _))) (eqsz (n:=32) ((Qad _ _).trans (List.length_replicate (n:=32))) ((Qad _ _).trans (QbD _ _ _))) (Qau _ _)) fun W6 p6 r3_6=>?_
  have x6:Ext w W6:=Puts.ext p6 xx1 b3
  refine Qak ?_
  refine hK17 _ _ ?_
  refine wp_ret ?_
  repeat (first | with_reducible refine goR1 ?_ | with_reducible refine goR2 ?_)
  exact (show bodyPost _ _ _ .ret _ _ from ret1 (.agg (ints .u8 (kx sec (Qbn (strB s) [] 32) 32))) rfl (QaE g3 23 _ r3_6 kj kj (isz (n:=32) kj ((Qad _ _).trans (QbD _ _ _)))) ⟨congrArg (fun z=>Ending.returned (.agg (ints .u8 z))) (show _=Qbx sec (strB s) by unfold Qbx; rw [if_pos h]),x6⟩)
theorem QiD (sec : List Int) (s:ByteArray) (w:World)   (hsl:sec.length=32) (hsb:Qat sec) (h:255<(strB s).length):Calls Tryd.prog 26 #[.agg (ints .u8 sec),.string s] w (Ret w (.agg (ints .u8 (Qbx sec (strB s))))):=by
  refine enter 28 [(0,.agg (ints .u8 (sec))),(1,.string s)] Tryd.func26 rfl rfl kj rfl ?_
  refine wp_seq_k fun K1 hK1=>?_
  refine Qaf ?_
  refine Qap (ints .u8 (sec)) 23 2 rfl kj kj fun g2 W1 l2 e1 r2_1=>?_
  have x1:Ext w W1:=Ext.tr (Rely.Ext.refl w) e1
  have b2:w.heap.size≤g2:=qT (Rely.Ext.refl w).size l2
  refine Qap (ints .u8 (List.replicate 32 0)) 23 4 rfl kj kj fun g3 W2 l3 e2 r3_2=>?_
  have x2:Ext w W2:=Ext.tr x1 e2
  have b3:w.heap.size≤g3:=qT x1.size l3
  refine Qak ?_
  refine hK1 _ _ ?_
  refine wp_seq_k fun K4 hK4=>?_
  refine Qaf ?_
  refine Qap (ints .u8 (List.replicate 32 0)) 23 5 rfl kj kj fun g5 W3 l5 e3 r5_3=>?_
  have x3:Ext w W3:=Ext.tr x2 e3
  have b5:w.heap.size≤g5:=qT x2.size l5
  refine Qak ?_
  refine hK4 _ _ ?_
  refine wp_seq_k fun K6 hK6=>?_
  refine Qaf ?_
  have r2_2:=(Qac r2_1 e2)
  have r2_3:=(Qac r2_2 e3)
  refine Qab (.agg (ints .u8 (sec))) 10 rfl kj (Qaq 23 _ g2 23 _ _ r2_3 rfl kj kj (isz (n:=32) kj ((Qad _ _).trans hsl))) ?_
  refine Qab (.string s) 11 rfl kj kj ?_
  refine Qar (.tuple #[.slice none 0 0,.bool false]) 37 #[.agg (ints .u8 (sec)),.string s,.slice none 0 0,.int .i64 32] 12 rfl kj kj ((fun W=>QjF sec [] s (.slice none 0 0) _ W hsl hsb (fun x hx=>by cases hx) (nilrd W) 32 h) _) fun W4 e4=>?_
  have x4:Ext w W4:=Ext.tr x3 e4
  refine Qab (.tuple #[.slice none 0 0,.bool false]) 9 rfl kj kj ?_
  refine Qab (.slice none 0 0) 13 rfl kj kj ?_
  refine Qab (.bool false) 14 rfl kj kj ?_
  refine Qab (.slice none 0 0) 6 rfl kj kj ?_
  refine Qab (.bool false) 7 rfl kj kj ?_
  refine Qak ?_
  refine hK6 _ _ ?_
  refine wp_seq_k fun K7 hK7=>?_
  refine wp_seq_k fun K8 hK8=>?_
  refine Qaf ?_
  refine Qab (.int .i64 0) 8 rfl kj kj ?_
  refine Qak ?_
  refine hK8 _ _ ?_
  refine wp_block ?_
  refine wp_loop_rounds 1 ?_
  show Code.wp _ _ (Exit.then (Code.rounds _ _ _ 0) _) _ _
  refine wp_seq_k fun K9 hK9=>?_
  refine wp_seq_k fun K10 hK10=>?_
  refine Qaf ?_
  refine Qab (.int .i64 0) 15 rfl kj kj ?_
  refine Qab (.slice none 0 0) 16 rfl kj kj ?_
  refine Qab (.int .i64 0) 17 rfl kj kj ?_
  refine Qab (.bool false) 18 rfl kj kj ?_
  refine Qak ?_
  refine hK10 _ _ ?_
  refine cond_false kj ?_
  refine wp_exit ?_
  refine hK7 _ _ ?_
  refine wp_seq_k fun K11 hK11=>?_
  refine Qaf ?_
  have r5_4:=(Qac r5_3 e4)
  refine Qab (.agg (ints .u8 (List.replicate 32 0))) 27 rfl kj (Qaq 23 _ g5 23 _ _ r5_4 rfl kj kj (isz (n:=32) kj ((Qad _ _).trans (List.length_replicate (n:=32))))) ?_
  have r3_3:=(Qac r3_2 e3)
  have r3_4:=(Qac r3_3 e4)
  refine Qaj g3 _ (ints .u8 (List.replicate 32 0)) 23 r3_4 rfl kj (Qal 23 _ _ g3 23 _ _ r3_4 rfl kj kj (isz (n:=32) kj ((Qad _ _).trans (List.length_replicate (n:=32)))) (eqsz (n:=32) ((Qad _ _).trans (List.length_replicate (n:=32))) ((Qad _ _).trans (List.length_replicate (n:=32)))) (Qau _ _)) fun W5 p5 r3_5=>?_
  have x5:Ext w W5:=Puts.ext p5 x4 b3
  refine Qak ?_
  refine hK11 _ _ ?_
  refine wp_ret ?_
  repeat (first | with_reducible refine goR1 ?_ | with_reducible refine goR2 ?_)
  exact (show bodyPost _ _ _ .ret _ _ from ret1 (.agg (ints .u8 (List.replicate 32 0))) rfl (QaE g3 23 _ r3_5 kj kj (isz (n:=32) kj ((Qad _ _).trans (List.length_replicate (n:=32))))) ⟨congrArg (fun z=>Ending.returned (.agg (ints .u8 z))) (show _=Qbx sec (strB s) by unfold Qbx; rw [if_neg (by omega)]),x5⟩)
theorem Qf9 (sec : List Int) (s:ByteArray) (w:World)   (hsl:sec.length=32) (hsb:Qat sec):Calls Tryd.prog 26 #[.agg (ints .u8 sec),.string s] w (Ret w (.agg (ints .u8 (Qbx sec (strB s))))):=by
  by_cases h:(strB s).length≤255
  · exact QiE sec s w hsl hsb h
  · exact QiD sec s w hsl hsb (by omega)
end Go.Proofs.YtibegnjaphohaaaDoor.Sha
end
section
namespace Go.Proofs.YtibegnjaphohaaaDoor.Seat
open Go Go.RowKit
open Rely
def QbH (x n:Int):Bool:=isTree n&&decide (0≤x)&&decide (x≤2*n-2)
def up1 (x k:Int):Int:=if bits .and .i64 (x/2^(k+1).toNat) 1==0 then wrap64 (x+wrap64 (2^k.toNat)) else wrap64 (x-wrap64 (2^k.toNat))
def par (x n:Int):Int :=
  if QbH x n=false then -1 else if x=n-1 then -1 else up1 x (lv x)
theorem QdY : ∀ (a b m n:Nat),2^a*(2*m+1)=2^b*(2*n+1)→a=b
  | 0,0,_,_,_=>rfl
  | 0,b+1,m,n,h=>by
    exfalso
    rw [Nat.pow_succ,Nat.pow_zero,Nat.mul_assoc,Nat.mul_left_comm] at h
    omega
  | a+1,0,m,n,h=>by
    exfalso
    rw [Nat.pow_succ,Nat.pow_zero,Nat.mul_assoc,Nat.mul_left_comm] at h
    omega
  | a+1,b+1,m,n,h=>by
    rw [Nat.pow_succ,Nat.pow_succ,Nat.mul_assoc,Nat.mul_assoc,Nat.mul_left_comm,Nat.mul_left_comm (2^b)] at h
    rw [QdY a b m n (by omega)]
theorem QfI (x : Nat) (h:x≤9223372036854775807):∃ m,x+1=2^lvN x*(2*m+1):=by
  have h0:18446744073709551615-x≠0:=by omega
  have e:lvN x=Lib.ctzFrom 64 (18446744073709551615-x):=by unfold lvN Lib.ctz; rw [if_neg h0]
  obtain ⟨m,hm,hk⟩:=Lib.ctzFrom_spec 64 (18446744073709551615-x) (by omega) (by omega)
  rw [←e] at hm hk
  generalize lvN x=k at *
  have hp:(2:Nat)^k*2^(64-k)=18446744073709551616:=by
    rw [←Nat.pow_add,show k+(64-k)=64 from by omega]
  obtain ⟨q,hq⟩:∃ q,2^(64-k)=2*q:=⟨2^(63-k),by rw [show 64-k=(63-k)+1 from by omega,Nat.pow_succ]; omega⟩
  rw [hq] at hp
  generalize 2^k=p at *
  have h1:p*(2*q)=p*(2*m+1)+(x+1):=by omega
  have h2:2*m+1<2*q:=by
    rcases Nat.lt_or_ge (2*m+1) (2*q) with h | h
    · exact h
    · have:=Nat.mul_le_mul_left p h
      omega
  refine ⟨q-m-1,?_⟩
  have h3:2*q=(2*m+1)+(2*(q-m-1)+1):=by omega
  rw [h3,Nat.mul_add] at h1
  omega
theorem Ql1 (x : Nat) (h:x≤9223372036854775807) (ho:x%2=1):lvN x=lvN (x/2)+1:=by
  obtain ⟨m,hm⟩:=QfI x h
  obtain ⟨n,hn⟩:=QfI (x/2) (by omega)
  refine QdY _ _ m n ?_
  rw [←hm,Nat.pow_succ,Nat.mul_assoc,Nat.mul_left_comm,←hn]
  omega
theorem QjY (x : Nat) (h:x≤9223372036854775807) (ho:x%2=0):lvN x=0:=by
  obtain ⟨m,hm⟩:=QfI x h
  refine QdY _ 0 m (x/2) ?_
  rw [←hm]
  omega
theorem rlevel (x : Int) (hx:i64 x) (w:World):Calls Tryd.prog 42 #[.int .i64 x] w fun e w'=>e=.returned (.int .i64 (lv x))∧w=w':=by
  unfold i64 at hx
  by_cases h:x<0
  · have e:lv x=-1:=by simp [lv,h]
    rw [e]
    go_enter Tryd.func42,Tryd.ntmps42
    go_wp2
    go_ret
    exact ⟨rfl,rfl⟩
  · have e:lv x=(lvN x.toNat:Int):=by simp [lv,h]
    rw [e]
    obtain ⟨n,rfl⟩:=Int.eq_ofNat_of_zero_le (by omega:0≤x)
    rw [Int.toNat_natCast]
    have hn:n≤9223372036854775807:=by omega
    clear e hx h
    go_enter Tryd.func42,Tryd.ntmps42
    go_wp2
    go_loop [0,3] (fun v k=>∃ m c:Nat,m≤n∧v=.int .i64 m∧k=.int .i64 c∧lvN n=c+lvN m∧c≤64) (fun v _=>(intOf v).toNat)
    case atStart=>exact ⟨n,0,qR _,rfl,rfl,by omega,by omega⟩
    case round =>
      obtain ⟨m,c,hm,rfl,rfl,hk,hc⟩:=hrel
      have hl64:=QkF n hn
      by_cases ho:m%2=1
      · have h1:=Ql1 m (by omega) ho
        have K:=Lib.hid hk
        have K1:=Lib.hid h1
        clear hk h1
        go_wp2
        go_round
        case rel=>exact ⟨m/2,c+1,by omega,by go_num,by go_num,by have:=K.out; have:=K1.out; omega,by have:=K.out; have:=K1.out; omega⟩
        case measure=>simp [intOf]; omega
      · have h1:=QjY m (by omega) (by omega)
        have hk':lvN n=c:=by omega
        have K:=Lib.hid hk'
        clear hk h1 hk' hl64
        go_wp2
        go_ret
        exact ⟨by rw [K.out]; rfl,rfl⟩
theorem QeE (k : Nat) (h:k≤62):(2:Int)^k≤4611686018427387904∧1≤(2:Int)^k:=by
  have h1:(2:Nat)^k≤2^62:=Nat.pow_le_pow_right (by decide) h
  have h2:=Nat.two_pow_pos k
  have e:((2:Int)^k)=((2^k:Nat):Int):=by simp
  rw [e]
  have h3:(2:Nat)^62=4611686018427387904:=rfl
  omega
theorem rchildren (x : Int) (hx:i64 x) (w:World):Calls Tryd.prog 30 #[.int .i64 x] w fun e w'=>e=.returned (.tuple #[.int .i64 (kidL x),.int .i64 (kidR x)])∧w=w':=by
  have hl:=rlevel x hx w
  have hb:=Qm6 x hx
  by_cases h:lv x≤0
  · have e1:kidL x=-1:=by simp [kidL,h]
    have e2:kidR x=-1:=by simp [kidR,h]
    rw [e1,e2]
    generalize lv x=k at *
    clear e1 e2
    go_enter Tryd.func30,Tryd.ntmps30
    go_wp2_with (go_at_call 42; refine hl.mono ?_; rintro e w' ⟨rfl,rfl⟩)
    go_ret2
    exact ⟨rfl,rfl⟩
  · have e1:kidL x=wrap64 (x-half (lv x)):=by simp [kidL,h]
    have e2:kidR x=wrap64 (x+half (lv x)):=by simp [kidR,h]
    rw [e1,e2]
    generalize lv x=k at *
    have eh:half k=2^(k.toNat-1):=by
      have:=QeE (k.toNat-1) (by omega)
      unfold half
      exact IntWalk.wrap64_in _ (by omega)
    rw [eh]
    clear e1 e2 eh
    go_enter Tryd.func30,Tryd.ntmps30
    go_wp2_with (go_at_call 42; refine hl.mono ?_; rintro e w' ⟨rfl,rfl⟩)
    go_loop [5,6] (fun p i=>∃ c:Nat,c<k.toNat∧p=.int .i64 (2^c)∧i=.int .i64 (c+1)) (fun _ i=>k.toNat-(intOf i).toNat)
    case atStart=>exact ⟨0,by omega,rfl,rfl⟩
    case round =>
      obtain ⟨c,hc,rfl,rfl⟩:=hrel
      by_cases hlt:(c:Int)+1<k
      · have hp:=QeE (c+1) (by omega)
        have e:(2:Int)^(c+1)=2*2^c:=by rw [Int.pow_succ,Int.mul_comm]
        have E:=Lib.hid e
        clear e
        have hq:=QeE c (by omega)
        have hp':2*(2:Int)^c≤4611686018427387904:=by have:=E.out; omega
        clear hp
        go_wp2
        go_round
        case rel=>exact ⟨c+1,by omega,by rw [E.out],by go_num⟩
        case measure=>simp [intOf]; omega
      · have hck:c=k.toNat-1:=by omega
        have K:=Lib.hid hck
        clear hck
        have hd:decide ((c:Int)+1<k)=false:=decide_eq_false hlt
        go_wp2
        all_goals first | omega | (go_ret2; exact ⟨by rw [←K.out]; rfl,rfl⟩)
theorem sound (n : Int) (w:World):Calls Tryd.prog 10 #[.int .i64 n] w fun e w'=>e=.returned (.bool (isTree n))∧w=w':=by
  by_cases h:n=1∨n=2∨n=4∨n=8∨n=16∨n=32
  · have e:isTree n=true:=by simp only [isTree,Bool.or_eq_true,beq_iff_eq]; omega
    rw [e]
    clear e
    rcases h with rfl | rfl | rfl | rfl | rfl | rfl
    all_goals
      go_enter Tryd.func10,Tryd.ntmps10
      go_wp2
      go_ret
      exact ⟨rfl,rfl⟩
  · have e:isTree n=false:=by
      rw [Bool.eq_false_iff]; intro h'; exact h (isTree_cases h')
    rw [e]
    have h1:(n==1)=false:=by rw [beq_eq_false_iff_ne]; omega
    have h2:(n==2)=false:=by rw [beq_eq_false_iff_ne]; omega
    have h3:(n==4)=false:=by rw [beq_eq_false_iff_ne]; omega
    have h4:(n==8)=false:=by rw [beq_eq_false_iff_ne]; omega
    have h5:(n==16)=false:=by rw [beq_eq_false_iff_ne]; omega
    have h6:(n==32)=false:=by rw [beq_eq_false_iff_ne]; omega
    clear e h
    go_enter Tryd.func10,Tryd.ntmps10
    go_wp2
    go_ret
    exact ⟨rfl,rfl⟩
theorem rnode (x n:Int) (w:World):Calls Tryd.prog 52 #[.int .i64 x,.int .i64 n] w fun e w'=>e=.returned (.bool (QbH x n))∧w=w':=by
  have hn:=sound n w
  cases ht:isTree n with
  | false =>
    have e:QbH x n=false:=by simp [QbH,ht]
    rw [e]
    rw [ht] at hn
    go_enter Tryd.func52,Tryd.ntmps52
    go_wp2_with (go_at_call 10; refine hn.mono ?_; rintro e w' ⟨rfl,rfl⟩)
    go_ret
    exact ⟨rfl,rfl⟩
  | true =>
    rw [ht] at hn
    have hc:=isTree_cases ht
    have hb:1≤n∧n≤32:=by omega
    clear hc
    by_cases hx:0≤x
    · have h1:decide (0≤x)=true:=decide_eq_true hx
      by_cases hl:x≤2*n-2
      · have e:QbH x n=true:=by simp [QbH,ht]; omega
        rw [e]
        have h2:decide (x≤2*n-2)=true:=decide_eq_true hl
        clear ht e
        go_enter Tryd.func52,Tryd.ntmps52
        go_wp2_with (go_at_call 10; refine hn.mono ?_; rintro e w' ⟨rfl,rfl⟩)
        go_ret
        exact ⟨rfl,rfl⟩
      · have e:QbH x n=false:=by simp [QbH,ht]; omega
        rw [e]
        have h2:decide (x≤2*n-2)=false:=decide_eq_false hl
        clear ht e
        go_enter Tryd.func52,Tryd.ntmps52
        go_wp2_with (go_at_call 10; refine hn.mono ?_; rintro e w' ⟨rfl,rfl⟩)
        go_ret
        exact ⟨rfl,rfl⟩
    · have e:QbH x n=false:=by simp [QbH,hx]
      rw [e]
      have h1:decide (0≤x)=false:=decide_eq_false hx
      clear ht e
      go_enter Tryd.func52,Tryd.ntmps52
      go_wp2_with (go_at_call 10; refine hn.mono ?_; rintro e w' ⟨rfl,rfl⟩)
      go_ret
      exact ⟨rfl,rfl⟩
def sizes : List Int:=[1,2,4,8,16,32]
theorem QiY {n : Int} (h:isTree n=true):n∈sizes:=by
  have:=isTree_cases h
  simp only [sizes,List.mem_cons,List.not_mem_nil,or_false]
  exact this
def QfS (f : Int→Int→Bool):Bool:=sizes.all fun n=>(List.range (2*n.toNat-1)).all fun x=>f n x
theorem QdS {f : Int→Int→Bool} (h:QfS f=true) {x n:Int} (hd:QbH x n=true):f n x=true:=by
  simp only [QbH,Bool.and_eq_true,decide_eq_true_eq] at hd
  obtain ⟨⟨ht,h0⟩,h1⟩:=hd
  have hc:=isTree_cases ht
  have h2:=List.all_eq_true.1 (List.all_eq_true.1 h n (QiY ht)) x.toNat (List.mem_range.2 (by omega))
  simpa [Int.toNat_of_nonneg h0] using h2
theorem QfF {x n:Int} (hd:QbH x n=true):0≤x∧x≤62∧x≤2*n-2∧1≤n∧n≤32∧isTree n=true:=by
  simp only [QbH,Bool.and_eq_true,decide_eq_true_eq] at hd
  obtain ⟨⟨ht,h0⟩,h1⟩:=hd
  have hc:=isTree_cases ht
  exact ⟨by omega,by omega,by omega,by omega,by omega,ht⟩
set_option maxRecDepth 100000 in
theorem Qlm : QfS (fun n x=>decide (par x n=-1) || (QbH (par x n) n&&decide (lv (par x n)=lv x+1)))=true:=by decide +kernel
set_option maxRecDepth 100000 in
theorem Qkc : QfS (fun n x=>(List.range (2*n.toNat-1)).all fun p=>((kidL p==x || kidR p==x)==(par x n==p)))=true:=by decide +kernel
theorem QiM {x n:Int} (hd:QbH x n=false):par x n=-1:=by simp [par,hd]
theorem Qhp {x n:Int} (hd:QbH x n=true):par x n=-1∨(QbH (par x n) n=true∧lv (par x n)=lv x+1):=by
  have:=QdS Qlm hd
  simpa using this
theorem Qmy (x n:Int):-1≤par x n∧par x n≤62:=by
  cases hd:QbH x n with
  | false=>rw [QiM hd]; omega
  | true =>
    rcases Qhp hd with h | h
    · omega
    · have:=QfF h.1; omega
theorem Qkb {x n p:Int} (hd:QbH x n=true) (h0:0≤p) (h1:p≤2*n-2):(kidL p==x || kidR p==x)=(par x n==p):=by
  have hb:=QfF hd
  have:=List.all_eq_true.1 (QdS Qkc hd) p.toNat (List.mem_range.2 (by omega))
  simpa [Int.toNat_of_nonneg h0] using this
theorem rparent (x n:Int) (w:World):Calls Tryd.prog 41 #[.int .i64 x,.int .i64 n] w fun e w'=>e=.returned (.int .i64 (par x n))∧w=w':=by
  have hn:=rnode x n w
  cases hd:QbH x n with
  | false =>
    rw [QiM hd]
    rw [hd] at hn
    clear hd
    go_enter Tryd.func41,Tryd.ntmps41
    go_wp2_with (go_at_call 52; refine hn.mono ?_; rintro e w' ⟨rfl,rfl⟩)
    go_ret
    exact ⟨rfl,rfl⟩
  | true =>
    rw [hd] at hn
    have hb:=QfF hd
    have hpb:=Qhp hd
    have hk:∀ p,0≤p→p≤2*n-2→(kidL p==x || kidR p==x)=(par x n==p):=fun p h0 h1=>Qkb hd h0 h1
    have hpn:par x n=-1∨par x n≤2*n-2:=by
      rcases hpb with h | h
      · exact .inl h
      · have:=QfF h.1; omega
    have H:=Lib.hid hk
    have hqb:=(Qmy x n).1
    generalize par x n=q at *
    obtain ⟨N,hN⟩:=Int.eq_ofNat_of_zero_le (by omega:0≤n)
    subst hN
    clear hd hk hpb
    go_enter Tryd.func41,Tryd.ntmps41
    go_wp2_with (go_at_call 52; refine hn.mono ?_; rintro e w' ⟨rfl,rfl⟩)
    go_loop [5] (fun p=>∃ c:Nat,c≤2*N-1∧p=.int .i64 c∧(q=-1∨(c:Int)≤q)) (fun p=>2*N-(intOf p).toNat)
    case atStart=>exact ⟨0,by omega,rfl,by omega⟩
    case round =>
      obtain ⟨c,hc,rfl,hq⟩:=hrel
      by_cases hlt:(c:Int)≤2*(N:Int)-2
      · have hm:=H.out c (by omega) hlt
        have hch:=rchildren c (by unfold i64; omega) w
        generalize kidL c=l at *
        generalize kidR c=r at *
        by_cases hqc:q=c
        · subst hqc
          rw [show ((c:Int)==c)=true from beq_self_eq_true _] at hm
          cases hl:(l==x) with
          | true =>
            clear hm
            go_wp2_with (go_at_call 30; refine hch.mono ?_; rintro e w' ⟨rfl,rfl⟩)
            go_ret
            exact ⟨rfl,rfl⟩
          | false =>
            rw [hl,Bool.false_or] at hm
            go_wp2_with (go_at_call 30; refine hch.mono ?_; rintro e w' ⟨rfl,rfl⟩)
            go_ret
            exact ⟨rfl,rfl⟩
        · rw [show (q==(c:Int))=false from beq_eq_false_iff_ne.2 hqc,Bool.or_eq_false_iff] at hm
          obtain ⟨hl,hr⟩:=hm
          go_wp2_with (go_at_call 30; refine hch.mono ?_; rintro e w' ⟨rfl,rfl⟩)
          go_round
          case rel=>exact ⟨c+1,by omega,by go_num,by omega⟩
          case measure=>simp [intOf]; omega
      · have hq':q=-1:=by omega
        have hd:decide ((c:Int)≤2*(N:Int)-2)=false:=decide_eq_false hlt
        have K:=Lib.hid hq'
        clear hq' hq hpn
        go_wp2
        all_goals first | omega | (go_ret; exact ⟨by rw [K.out]; rfl,rfl⟩)
end Go.Proofs.YtibegnjaphohaaaDoor.Seat
end
section
namespace Go.Proofs.YtibegnjaphohaaaDoor.Seat
open Go Go.RowKit
open Rely Auto Own
theorem quiet {P : Program} {f:FuncId} {args:Array Value} {w:World} {v:Value} (h:Calls P f args w fun e w'=>e=.returned v∧w=w'):Calls P f args w (Ret w v):=h.mono fun e w' ⟨h1,h2⟩=>⟨h1,h2▸Rely.Ext.refl w⟩
def upn (x n:Int):Nat→Int
  | 0=>par x n
  | k+1=>par (upn x n k) n
def upL (x n:Int) (k:Nat):List Int:=(List.range k).map (upn x n)
theorem upL_len (x n:Int) (k:Nat):(upL x n k).length=k:=by unfold upL; rw [List.length_map,List.length_range]
theorem Qj7 (x n:Int) (k:Nat):upL x n (k+1)=upL x n k++[upn x n k]:=by unfold upL; rw [List.range_succ,List.map_append]; rfl
theorem Qhk (x n:Int) (W:World):Calls Tryd.prog 41 #[.int .i64 x,.int .i64 n] W (Ret W (.int .i64 (par x n))):=quiet (rparent x n W)
theorem rpathC (x n:Int) (K:Nat) (hK:K≤6) (hneg:upn x n K<0) (hall:∀ i,i<K→0≤upn x n i) (w:World):Calls Tryd.prog 29 #[.int .i64 x,.int .i64 n] w (QbN w (OwnN .i64 3 w.heap.size (upL x n K))):=by
 refine enter 20 [(0,.int .i64 x),(1,.int .i64 n)] Tryd.func29 rfl rfl kj rfl <| sgB kj <| sgB kj <| wp_seq_k fun K3 hK3=>sgC fun K4 hK4=>sg 2 kj <| Qar (.int .i64 (upn x n 0)) 41 #[.int .i64 x,.int .i64 n] 9 rfl kj kj ((Qhk x n) _) fun W1 e1=>?_
 have x1:=Ext.tr (Rely.Ext.refl w) e1
 refine sg 1 kj <| sgN hK4 <| wp_block <| QaC (fun (s1:Nat×Value)=>[(1,.int .i64 n),(5,s1.2),(6,.int .i64 (upn x n s1.1))]) (fun (s1:Nat×Value) W=>(s1.1≤K)∧(OwnN .i64 3 W1.heap.size (upL x n s1.1) s1.2 W)∧(Ext W1 W)∧(Ext w W)) (fun (s1:Nat×Value)=>K-s1.1) (0,(.slice none 0 0)) ⟨kj,kj,kj,trivial⟩ ⟨(Nat.zero_le _),(Qb7 _ _ _ _),(Rely.Ext.refl W1),x1⟩ fun s1 X1 V1 hI1=>?_
 obtain ⟨k,u⟩:=s1
 obtain ⟨hkk,hu,kk1,xx1⟩:=hI1
 replace hkk:k≤K:=hkk
 replace hu:OwnN .i64 3 W1.heap.size (upL x n k) u V1:=hu
 replace kk1:Ext W1 V1:=kk1
 replace xx1:Ext w V1:=xx1
 have e2:=kk1
 refine wp_seq_k fun K5 hK5=>sgB kj <| Qa3 (t:=decide ((upn x n k)≥0)) kj (fun c7=>?_) (fun c7=>?_)
 ·skip
  have h0:0≤upn x n k:=by have:=of_decide_eq_true c7; omega
  have hkK:k<K:=by
   rcases Nat.lt_or_ge k K with h | h
   ·exact h
   ·rw [show k=K by omega] at h0; omega
  refine wp_skip <| hK5 _ _ <| wp_seq_k fun K8 hK8=>wp_block <| Qaf <| sg 2 kj <| QaL (ints .i64 ([(upn x n k)])) 3 1 17 rfl kj kj fun g9 W3 l9 e3 r9_3=>?_
  have b9:=qT xx1.size l9
  refine QaM (k:=.i64) (T:=3) (xs:=upL x n k) (ys:=[upn x n k]) (V:=W1) 8 (.tmp 15) (.tmp 17) 32 rfl kj kj (by decide) 18 rfl kj kj kj (hu.ext e3) (QaU (xs:=[(upn x n k)]) (n:=1) rfl r9_3 (Qay r9_3) (show 1≤maxLen from by decide)) (by rw [upL_len]; show k+1≤1000000000; omega) (Rely.Ext.trans e2 e3) fun u2 W4 f11 y4 l4=>?_
  refine sg 1 kj <| Qak <| hK8 _ _ <| Qaf <| sg 2 kj <| Qar (.int .i64 (upn x n (k+1))) 41 #[.int .i64 (upn x n k),.int .i64 n] 14 rfl kj kj ((Qhk (upn x n k) n) _) fun W5 e5=>sg 1 kj <| Qak ?_
  repeat (first | with_reducible refine goX1 ?_ | with_reducible refine goX2 ?_ | with_reducible refine goX3 ?_)
  exact Qa4 ((k+1),u2) ⟨kj,kj,kj,trivial⟩ ⟨(by omega),(by rw [Qj7]; exact (f11.ext e5)),(Rely.Ext.trans y4 e5),(Ext.tr (Ext.low (Ext.tr xx1 e3) l4 x1.size) e5)⟩ (by show K-(k+1)<K-k; omega)
 ·skip
  have h0:upn x n k<0:=by have:=of_decide_eq_false c7; omega
  have hkK:k=K:=by
   rcases Nat.lt_or_ge k K with h | h
   ·have:=hall k h; omega
   ·omega
  refine wp_exit <| hK3 _ _ <| sgB kj <| wp_ret ?_
  repeat (first | with_reducible refine goR1 ?_ | with_reducible refine goR2 ?_)
  exact (show bodyPost _ _ _ .ret _ _ from ret1 (u) rfl (Qa2 kj) ⟨u,rfl,xx1,by rw [←hkK]; exact OwnN.base x1.size hu⟩)
end Go.Proofs.YtibegnjaphohaaaDoor.Seat
end
section
namespace Go.Proofs.YtibegnjaphohaaaDoor.Cn
open Go Go.RowKit
open Rely Auto Own Sha
open Go.Proofs.YtibegnjaphohaaaDoor
def Qer (a : Option Addr) (c l:Nat):Option Addr:=if c=l then a else a.map fun z=>z.add l
theorem QhV {P : Program} {ρ:Operand→Value} {o:Oper} {w:World} (t:TypeId) (x z:Operand) (l:Nat) (e:TypeId) (ho:o.op=.slice t x (some z) none none) {a:Option Addr} {len cap:Nat} (hx:ρ x=.slice a len cap)
    (hu:P.underlying t=some (.slice e)) (hs:(P.info? e).map (·.size)=some 1) (kz:IntKind) (hz:ρ z=.int kz (l:Int)) (h1:l≤len) (h2:len≤cap) :
    (execOp ρ o).run P w=.ok (.value (.slice (Qer a cap l) (len-l) (cap-l))) w:=by
  cases hq:P.info? e with
  | none=>simp [hq] at hs
  | some i =>
    have hs':i.size=1:=by simpa [hq] using hs
    unfold execOp Qer
    have hadd:∀ a:Option Addr,Option.map (fun x=>x.add 0) a=a:=fun a=>by
      cases a with
      | none=>rfl
      | some a=>obtain ⟨b,o,s⟩:=a; cases s <;> simp [Addr.add]
    by_cases hc:cap=l
    · simp [ho,hx,hz,Instr.sliceAt,Instr.slice,Instr.sliceBounds,run_sliceBound,run_underlying hu,sizeOf,typeInfo,hq,hs',h1,h2,hadd,hc]
    · simp [ho,hx,hz,Instr.sliceAt,Instr.slice,Instr.sliceBounds,run_sliceBound,run_underlying hu,sizeOf,typeInfo,hq,hs',h1,h2,hadd,hc]
theorem QjL {k : IntKind} {B n c:Nat} {ys:List Int} {a:Option Addr} {W:World} (h:RdK k B ys (.slice a n c) W) (l:Nat) (hl:l≤ys.length):RdK k B (ys.drop l) (.slice (Qer a c l) (n-l) (c-l)) W:=by
  obtain ⟨a',cap,e,h2,h3,h4,h5⟩:=h
  simp only [Value.slice.injEq] at e
  obtain ⟨rfl,rfl,rfl⟩:=e
  refine ⟨_,_,by rw [List.length_drop],by rw [List.length_drop]; omega,by omega,?_,?_⟩
  · intro e
    unfold Qer at e
    split at e
    · omega
    · have:=h4 (by cases a <;> simp_all); omega
  · rcases h5 with h5 | ⟨g,o,rfl,q2,q3,q4⟩
    · left; rw [h5]; simp
    · rcases Nat.lt_or_ge l ys.length with hlt | hge
      · right
        refine ⟨g,o+l,?_,q2,q3,fun i hi=>?_⟩
        · unfold Qer
          rw [if_neg (by omega),Option.map_some]
          simp [Addr.add]
        · rw [List.length_drop] at hi
          rw [Nat.add_assoc,q4 (l+i) (by omega)]
          simp [nth]
      · left; exact List.drop_of_length_le hge
theorem QiN {T : TypeId} {base n c:Nat} {xs:List Int} {a:Option Addr} {W:World} (h:OwnN .i64 T base xs (.slice a xs.length c) W) (hn:n≤xs.length):OwnN .i64 T base (xs.take n) (.slice a n c) W:=by
  have hl:(xs.take n).length=n:=by rw [List.length_take]; omega
  obtain ⟨⟨h1,h2⟩,hm⟩:=h
  rcases h2 with ⟨h2,h3⟩ | ⟨g,c',cur,e,q2,q3,q4,q5,q6,q7⟩
  · simp only [Value.slice.injEq] at h2
    obtain ⟨rfl,h4,rfl⟩:=h2
    obtain rfl:=List.length_eq_zero_iff.1 h4
    obtain rfl:n=0:=by simpa using hn
    exact Qb7 _ _ _ _
  · simp only [Value.slice.injEq] at e
    obtain ⟨rfl,-,rfl⟩:=e
    refine QfB hl q2 q3 (by omega) (by omega) q5 ?_
    have:cur.toList.take n=(cur.toList.take (xs.length*1)).take n:=by rw [List.take_take]; congr 1; omega
    rw [this,q7,List.map_take]
theorem Qij (l : List Int) (hl:l.length=44) (i:Nat) (hi:i<32):(Qdh (l.take 32) 32 i).set i (nth l i)=Qdh (l.take 32) 32 (i+1):=by
  rw [←Qft (l.take 32) 32 i (QaP hl) hi]
  congr 1
  simp [nth,List.getElem?_take,hi]
theorem lftR (s : List Int) (W:World) (hl:s.length=32) (hb:Qat s):Calls Tryd.prog 26 #[.agg (ints .u8 s),.string Qgc] W (Ret W (.agg (ints .u8 (lftV s)))):=by
  unfold lftV; exact Qf9 s Qgc W hl hb
theorem rgtR (s : List Int) (W:World) (hl:s.length=32) (hb:Qat s):Calls Tryd.prog 26 #[.agg (ints .u8 s),.string Qeh] W (Ret W (.agg (ints .u8 (rgtV s)))):=by
  unfold rgtV; exact Qf9 s Qeh W hl hb
theorem nxtR (s : List Int) (W:World) (hl:s.length=32) (hb:Qat s):Calls Tryd.prog 26 #[.agg (ints .u8 s),.string QgD] W (Ret W (.agg (ints .u8 (nxtV s)))):=by
  unfold nxtV; exact Qf9 s QgD W hl hb
theorem QiG (x : Int) (hx:Seat.i64 x) (W:World):Calls Tryd.prog 30 #[.int .i64 x] W (Ret W (.tuple #[.int .i64 (Seat.kidL x),.int .i64 (Seat.kidR x)])):=Seat.quiet (Seat.rchildren x hx W)
end Go.Proofs.YtibegnjaphohaaaDoor.Cn
end
section
namespace Go.Proofs.YtibegnjaphohaaaDoor.Cn
open Go Go.RowKit
open Rely Auto Own Sha
open Go.Proofs.YtibegnjaphohaaaDoor
def hiF (a : Int) (ts:List Int):Int:=ts.foldl (fun a x=>if x>a then x else a) a
theorem Qh7 (a : Int) (ts:List Int) (k:Nat) (hk:k<ts.length):hiF a (ts.take (k+1))=if nth ts k>hiF a (ts.take k) then nth ts k else hiF a (ts.take k):=by
  have h:ts.take (k+1)=ts.take k++[nth ts k]:=by
    rw [List.take_add_one]
    congr 1
    simp [nth,List.getElem?_eq_getElem hk]
  rw [h]
  unfold hiF
  rw [List.foldl_append]
  rfl
theorem QlO (a : Int) (ts:List Int):hiF a (ts.take ts.length)=hiF a ts:=by rw [List.take_length]
theorem QlN (sec : List Int) (hsl:sec.length=32) (pl:Nat) (h_a:Option Addr) (h_n h_c:Nat) (zs:List Int) (hzl:zs.length≤1000000) (a_z:Option Addr) (c_z:Nat) (low:Int) (w:World) (hlo:0≤low∧low≤4294967295) (hz:RdK .i64 w.heap.size zs (.slice a_z zs.length c_z) w):Calls Tryd.prog 36 #[.agg (cat [ints .u8 (sec),#[.int .i64 ((pl:Nat):Int)],#[.slice h_a h_n h_c],#[.slice a_z zs.length c_z],#[.int .i64 low]])] w (Ret w (.int .i64 (hiF (low-1) zs))):=by
 refine enter 28 [(0,.agg (cat [ints .u8 (sec),#[.int .i64 ((pl:Nat):Int)],#[.slice h_a h_n h_c],#[.slice a_z zs.length c_z],#[.int .i64 low]]))] Tryd.func36 rfl rfl kj rfl <| sgC fun K1 hK1=>Qap (cat [ints .u8 (sec),#[.int .i64 ((pl:Nat):Int)],#[.slice h_a h_n h_c],#[.slice a_z zs.length c_z],#[.int .i64 low]]) 34 1 rfl kj kj fun g2 W1 l2 e1 r2_1=>?_
 have b2:=qT (Rely.Ext.refl w).size l2
 refine sg 1 kj <| sgN hK1 <| sgC fun K3 hK3=>sg 1 kj <| Qab (.int .i64 low) 6 rfl kj (Qag 3 _ g2 35 34 _ (.int .i64 low) _ r2_1 rfl kj (Qaw [ints .u8 (sec),#[.int .i64 ((pl:Nat):Int)],#[.slice h_a h_n h_c],#[.slice a_z zs.length c_z]] [#[.int .i64 low]] [] 35 (by rw [Qaa,Qaa,Qaa,Qaa]; simp only [qS,cat,((Qad _ _).trans hsl)]; rfl) 0 _ rfl) kj) ?_
 refine Qab (.int .i64 (low-1)) 7 rfl kj (Qai (u:=.int .i64 (IntKind.i64.wrap (low-1))) kj (congrArg (Value.int .i64) (Qbp _ (by omega)))) <| sg 1 kj <| sgN hK3 <| wp_seq_k fun K4 hK4=>sgB kj <| wp_block <| QaC (fun (s1:Nat)=>[(1,.pointer (some ⟨g2,0,none⟩)),(3,.int .i64 (hiF (low-1) (zs.take s1))),(4,.int .i64 ((s1:Nat):Int))]) (fun (s1:Nat) W=>(s1≤zs.length)∧(Ext W1 W)∧(Ext w W)) (fun (s1:Nat)=>zs.length-s1) 0 ⟨kj,kj,kj,trivial⟩ ⟨(Nat.zero_le _),(Rely.Ext.refl W1),(Ext.tr (Rely.Ext.refl w) e1)⟩ fun s1 X1 V1 hI1=>?_
 obtain ⟨i,hs1⟩:∃ z,z=s1:=⟨_,rfl⟩
 subst hs1
 obtain ⟨hi,kk1,xx1⟩:=hI1
 replace hi:i≤zs.length:=hi
 replace kk1:Ext W1 V1:=kk1
 replace xx1:Ext w V1:=xx1
 have e2:=kk1
 refine wp_seq_k fun K6 hK6=>sgC fun K7 hK7=>sg 2 kj ?_
 have r2_2:=(Qac r2_1 e2)
 refine Qab (.slice a_z zs.length c_z) 10 rfl kj (Qag 32 _ g2 34 34 _ (.slice a_z zs.length c_z) _ r2_2 rfl kj (Qaw [ints .u8 (sec),#[.int .i64 ((pl:Nat):Int)],#[.slice h_a h_n h_c]] [#[.slice a_z zs.length c_z]] [#[.int .i64 low]] 34 (by rw [Qaa,Qaa,Qaa]; simp only [qS,cat,((Qad _ _).trans hsl)]; rfl) 0 _ rfl) kj) ?_
 refine sg 2 kj <| sgN hK7 <| Qa3 (t:=decide (((i:Nat):Int)<((zs.length:Nat):Int))) kj (fun c8=>?_) (fun c8=>?_)
 ·skip
  have hlt12:i<zs.length:=by have:=of_decide_eq_true c8; omega
  refine wp_skip <| hK6 _ _ <| wp_seq_k fun K9 hK9=>wp_block <| sgC fun K10 hK10=>sg 1 kj <| Qab (.slice a_z zs.length c_z) 16 rfl kj (Qag 32 _ g2 34 34 _ (.slice a_z zs.length c_z) _ r2_2 rfl kj (Qaw [ints .u8 (sec),#[.int .i64 ((pl:Nat):Int)],#[.slice h_a h_n h_c]] [#[.slice a_z zs.length c_z]] [#[.int .i64 low]] 34 (by rw [Qaa,Qaa,Qaa]; simp only [qS,cat,((Qad _ _).trans hsl)]; rfl) 0 _ rfl) kj) ?_
  refine sg 1 kj ?_
  have hnz_11:(zs).length=zs.length:=rfl
  obtain ⟨gcz_11,ocz_11,haz_11,hlz_11,hcz_11⟩:=rdK_open (RdK.ext hz xx1) (by rw [hnz_11]; omega)
  refine Qab (.pointer (some ⟨gcz_11,ocz_11+i,none⟩)) 18 rfl kj (run_indexA 32 _ _ .i64 i gcz_11 ocz_11 zs.length c_z 3 a_z _ haz_11 rfl rfl kj kj kj kj (Nat.lt_of_lt_of_eq (show i<zs.length by omega) hnz_11.symm)) <| Qab (.int .i64 (nth (zs) (i))) 19 rfl kj (QaH 3 _ _ (.int .i64 (nth (zs) (i))) (hcz_11 i (Nat.lt_of_lt_of_eq (show i<zs.length by omega) hnz_11.symm)) rfl kj kj) <| sg 2 kj <| sgN hK10 <| Qa3 (t:=decide ((nth (zs) (i))>(hiF (low-1) (zs.take i)))) kj (fun c12=>?_) (fun c12=>?_)
  ·skip
   have hcn:nth zs i>hiF (low-1) (zs.take i):=of_decide_eq_true c12
   refine Qaf <| sg 1 kj <| Qab (.slice a_z zs.length c_z) 23 rfl kj (Qag 32 _ g2 34 34 _ (.slice a_z zs.length c_z) _ r2_2 rfl kj (Qaw [ints .u8 (sec),#[.int .i64 ((pl:Nat):Int)],#[.slice h_a h_n h_c]] [#[.slice a_z zs.length c_z]] [#[.int .i64 low]] 34 (by rw [Qaa,Qaa,Qaa]; simp only [qS,cat,((Qad _ _).trans hsl)]; rfl) 0 _ rfl) kj) ?_
   refine sg 1 kj ?_
   have hnz_13:(zs).length=zs.length:=rfl
   obtain ⟨gcz_13,ocz_13,haz_13,hlz_13,hcz_13⟩:=rdK_open (RdK.ext hz xx1) (by rw [hnz_13]; omega)
   refine Qab (.pointer (some ⟨gcz_13,ocz_13+i,none⟩)) 25 rfl kj (run_indexA 32 _ _ .i64 i gcz_13 ocz_13 zs.length c_z 3 a_z _ haz_13 rfl rfl kj kj kj kj (Nat.lt_of_lt_of_eq (show i<zs.length by omega) hnz_13.symm)) <| Qab (.int .i64 (nth (zs) (i))) 26 rfl kj (QaH 3 _ _ (.int .i64 (nth (zs) (i))) (hcz_13 i (Nat.lt_of_lt_of_eq (show i<zs.length by omega) hnz_13.symm)) rfl kj kj) <| sg 1 kj <| Qak <| hK9 _ _ <| Qaf <| sg 1 kj <| Qab (.int .i64 ((i+1:Nat):Int)) 14 rfl kj (Qai (u:=.int .i64 (IntKind.i64.wrap (((i:Nat):Int)+1))) kj (congrArg (Value.int .i64) (i64n _ _ (by omega) (by omega)))) <| sg 1 kj <| Qak ?_
   repeat (first | with_reducible refine goX1 ?_ | with_reducible refine goX2 ?_ | with_reducible refine goX3 ?_)
   exact Qa4 (i+1) ⟨kj,(congrArg (Value.int .i64) ((Qh7 (low-1) zs i hlt12).trans (if_pos hcn)).symm),kj,trivial⟩ ⟨(by omega),e2,xx1⟩ (by show zs.length-(i+1)<zs.length-i; omega)
  ·skip
   have hcn:¬ nth zs i>hiF (low-1) (zs.take i):=of_decide_eq_false c12
   refine wp_skip <| hK9 _ _ <| Qaf <| sg 1 kj <| Qab (.int .i64 ((i+1:Nat):Int)) 14 rfl kj (Qai (u:=.int .i64 (IntKind.i64.wrap (((i:Nat):Int)+1))) kj (congrArg (Value.int .i64) (i64n _ _ (by omega) (by omega)))) <| sg 1 kj <| Qak ?_
   repeat (first | with_reducible refine goX1 ?_ | with_reducible refine goX2 ?_ | with_reducible refine goX3 ?_)
   exact Qa4 (i+1) ⟨kj,(congrArg (Value.int .i64) ((Qh7 (low-1) zs i hlt12).trans (if_neg hcn)).symm),kj,trivial⟩ ⟨(by omega),e2,xx1⟩ (by show zs.length-(i+1)<zs.length-i; omega)
 ·skip
  have heq12:i=zs.length:=by have:=of_decide_eq_false c8; omega
  refine wp_exit <| hK4 _ _ <| sgB kj <| wp_ret ?_
  repeat (first | with_reducible refine goR1 ?_ | with_reducible refine goR2 ?_)
  exact (show bodyPost _ _ _ .ret _ _ from ret1 (.int .i64 (hiF (low-1) (zs.take i))) rfl (Qa2 kj) ⟨congrArg (fun z=>Ending.returned (.int .i64 z)) (by rw [heq12]; exact QlO _ _),xx1⟩)
theorem QlF (sec : List Int) (hsl:sec.length=32) (pl:Nat) (h_a s_a:Option Addr) (h_n h_c s_n s_c:Nat) (low m:Int) (w:World) (h:m<((pl:Nat):Int)):Calls Tryd.prog 20 #[.agg (cat [ints .u8 (sec),#[.int .i64 ((pl:Nat):Int)],#[.slice h_a h_n h_c],#[.slice s_a s_n s_c],#[.int .i64 low]]),.int .i64 m] w (Ret w (.tuple #[.agg (cat [ints .u8 (sec),#[.int .i64 ((pl:Nat):Int)],#[.slice h_a h_n h_c],#[.slice s_a s_n s_c],#[.int .i64 low]]),.bool false])):=by
  refine enter 21 [(0,.agg (cat [ints .u8 (sec),#[.int .i64 ((pl:Nat):Int)],#[.slice h_a h_n h_c],#[.slice s_a s_n s_c],#[.int .i64 low]])),(1,.int .i64 m)] Tryd.func20 rfl rfl kj rfl <| sgC fun K1 hK1=>Qap (cat [ints .u8 (sec),#[.int .i64 ((pl:Nat):Int)],#[.slice h_a h_n h_c],#[.slice s_a s_n s_c],#[.int .i64 low]]) 34 2 rfl kj kj fun g2 W1 l2 e1 r2_1=>?_
  have x1:=Ext.tr (Rely.Ext.refl w) e1
  have b2:=qT (Rely.Ext.refl w).size l2
  refine Qap (cat [ints .u8 (List.replicate 32 0),#[.int .i64 0],#[.slice none 0 0],#[.slice none 0 0],#[.int .i64 0]]) 34 4 rfl kj kj fun g3 W2 l3 e2 r3_2=>sg 1 kj <| sgN hK1 <| wp_seq_k fun K4 hK4=>sgC fun K5 hK5=>sg 2 kj ?_
  have r2_2:=(Qac r2_1 e2)
  refine Qab (.int .i64 ((pl:Nat):Int)) 8 rfl kj (Qag 3 _ g2 32 34 _ (.int .i64 ((pl:Nat):Int)) _ r2_2 rfl kj (Qaw [ints .u8 (sec)] [#[.int .i64 ((pl:Nat):Int)]] [#[.slice h_a h_n h_c],#[.slice s_a s_n s_c],#[.int .i64 low]] 32 ((Qad _ _).trans hsl) 0 _ rfl) kj) <| Qab (.bool true) 9 rfl kj (Qai (u:=.bool (decide (m<((pl:Nat):Int)))) kj (congrArg Value.bool (decide_eq_true (by omega)))) <| sg 4 kj <| sgN hK5 <| cond_true kj <| sgC fun K6 hK6=>Qab (.agg (cat [ints .u8 (sec),#[.int .i64 ((pl:Nat):Int)],#[.slice h_a h_n h_c],#[.slice s_a s_n s_c],#[.int .i64 low]])) 14 rfl kj (Qaq 34 _ g2 34 _ _ r2_2 rfl kj kj (isz (n:=36) kj (by rw [Qaa,Qaa,Qaa,Qaa,Qaa]; simp only [qS,cat,((Qad _ _).trans hsl)]; rfl))) ?_
  refine Qaj g3 _ (cat [ints .u8 (sec),#[.int .i64 ((pl:Nat):Int)],#[.slice h_a h_n h_c],#[.slice s_a s_n s_c],#[.int .i64 low]]) 34 r3_2 rfl kj (Qal 34 _ _ g3 34 _ _ r3_2 rfl kj kj (isz (n:=36) kj (by rw [Qaa,Qaa,Qaa,Qaa,Qaa]; simp only [qS,cat,((Qad _ _).trans hsl)]; rfl)) (eqsz (n:=36) (by rw [Qaa,Qaa,Qaa,Qaa,Qaa]; simp only [qS,cat,((Qad _ _).trans (List.length_replicate (n:=32)))]; rfl) (by rw [Qaa,Qaa,Qaa,Qaa,Qaa]; simp only [qS,cat,((Qad _ _).trans hsl)]; rfl)) (QaD _ (by intro a ha; simp only [List.mem_cons,List.not_mem_nil,or_false] at ha; rcases ha with rfl | rfl | rfl | rfl | rfl; exact (Qau _ _); exact (Qan _ rfl); exact (Qan _ rfl); exact (Qan _ rfl); exact (Qan _ rfl)))) fun W3 p3 r3_3=>?_
  refine sg 1 kj <| sgN hK6 <| wp_ret ?_
  repeat (first | with_reducible refine goR1 ?_ | with_reducible refine goR2 ?_)
  exact (show bodyPost _ _ _ .ret _ _ from ret2 (.agg (cat [ints .u8 (sec),#[.int .i64 ((pl:Nat):Int)],#[.slice h_a h_n h_c],#[.slice s_a s_n s_c],#[.int .i64 low]])) (.bool false) rfl (QaE g3 34 _ r3_3 kj kj (isz (n:=36) kj (by rw [Qaa,Qaa,Qaa,Qaa,Qaa]; simp only [qS,cat,((Qad _ _).trans hsl)]; rfl))) (Qa2 kj) ⟨rfl,(Puts.ext p3 (Ext.tr x1 e2) (qT x1.size l3))⟩)
theorem QlE (sec : List Int) (hsl:sec.length=32) (pl:Nat) (h_a s_a:Option Addr) (h_n h_c s_n s_c:Nat) (low m:Int) (w:World) (h0:((pl:Nat):Int)≤m) (h:4294967295<m):Calls Tryd.prog 20 #[.agg (cat [ints .u8 (sec),#[.int .i64 ((pl:Nat):Int)],#[.slice h_a h_n h_c],#[.slice s_a s_n s_c],#[.int .i64 low]]),.int .i64 m] w (Ret w (.tuple #[.agg (cat [ints .u8 (sec),#[.int .i64 ((pl:Nat):Int)],#[.slice h_a h_n h_c],#[.slice s_a s_n s_c],#[.int .i64 low]]),.bool false])):=by
  refine enter 21 [(0,.agg (cat [ints .u8 (sec),#[.int .i64 ((pl:Nat):Int)],#[.slice h_a h_n h_c],#[.slice s_a s_n s_c],#[.int .i64 low]])),(1,.int .i64 m)] Tryd.func20 rfl rfl kj rfl <| sgC fun K1 hK1=>Qap (cat [ints .u8 (sec),#[.int .i64 ((pl:Nat):Int)],#[.slice h_a h_n h_c],#[.slice s_a s_n s_c],#[.int .i64 low]]) 34 2 rfl kj kj fun g2 W1 l2 e1 r2_1=>?_
  have x1:=Ext.tr (Rely.Ext.refl w) e1
  have b2:=qT (Rely.Ext.refl w).size l2
  refine Qap (cat [ints .u8 (List.replicate 32 0),#[.int .i64 0],#[.slice none 0 0],#[.slice none 0 0],#[.int .i64 0]]) 34 4 rfl kj kj fun g3 W2 l3 e2 r3_2=>sg 1 kj <| sgN hK1 <| wp_seq_k fun K4 hK4=>sgC fun K5 hK5=>sg 2 kj ?_
  have r2_2:=(Qac r2_1 e2)
  refine Qab (.int .i64 ((pl:Nat):Int)) 8 rfl kj (Qag 3 _ g2 32 34 _ (.int .i64 ((pl:Nat):Int)) _ r2_2 rfl kj (Qaw [ints .u8 (sec)] [#[.int .i64 ((pl:Nat):Int)]] [#[.slice h_a h_n h_c],#[.slice s_a s_n s_c],#[.int .i64 low]] 32 ((Qad _ _).trans hsl) 0 _ rfl) kj) <| Qab (.bool false) 9 rfl kj (Qai (u:=.bool (decide (m<((pl:Nat):Int)))) kj (congrArg Value.bool (decide_eq_false (by omega)))) <| sg 2 kj <| Qab (.bool true) 12 rfl kj (Qai (u:=.bool (decide (m>4294967295))) kj (congrArg Value.bool (decide_eq_true (by omega)))) <| sg 1 kj <| sgN hK5 <| cond_true kj <| sgC fun K6 hK6=>Qab (.agg (cat [ints .u8 (sec),#[.int .i64 ((pl:Nat):Int)],#[.slice h_a h_n h_c],#[.slice s_a s_n s_c],#[.int .i64 low]])) 14 rfl kj (Qaq 34 _ g2 34 _ _ r2_2 rfl kj kj (isz (n:=36) kj (by rw [Qaa,Qaa,Qaa,Qaa,Qaa]; simp only [qS,cat,((Qad _ _).trans hsl)]; rfl))) ?_
  refine Qaj g3 _ (cat [ints .u8 (sec),#[.int .i64 ((pl:Nat):Int)],#[.slice h_a h_n h_c],#[.slice s_a s_n s_c],#[.int .i64 low]]) 34 r3_2 rfl kj (Qal 34 _ _ g3 34 _ _ r3_2 rfl kj kj (isz (n:=36) kj (by rw [Qaa,Qaa,Qaa,Qaa,Qaa]; simp only [qS,cat,((Qad _ _).trans hsl)]; rfl)) (eqsz (n:=36) (by rw [Qaa,Qaa,Qaa,Qaa,Qaa]; simp only [qS,cat,((Qad _ _).trans (List.length_replicate (n:=32)))]; rfl) (by rw [Qaa,Qaa,Qaa,Qaa,Qaa]; simp only [qS,cat,((Qad _ _).trans hsl)]; rfl)) (QaD _ (by intro a ha; simp only [List.mem_cons,List.not_mem_nil,or_false] at ha; rcases ha with rfl | rfl | rfl | rfl | rfl; exact (Qau _ _); exact (Qan _ rfl); exact (Qan _ rfl); exact (Qan _ rfl); exact (Qan _ rfl)))) fun W3 p3 r3_3=>?_
  refine sg 1 kj <| sgN hK6 <| wp_ret ?_
  repeat (first | with_reducible refine goR1 ?_ | with_reducible refine goR2 ?_)
  exact (show bodyPost _ _ _ .ret _ _ from ret2 (.agg (cat [ints .u8 (sec),#[.int .i64 ((pl:Nat):Int)],#[.slice h_a h_n h_c],#[.slice s_a s_n s_c],#[.int .i64 low]])) (.bool false) rfl (QaE g3 34 _ r3_3 kj kj (isz (n:=36) kj (by rw [Qaa,Qaa,Qaa,Qaa,Qaa]; simp only [qS,cat,((Qad _ _).trans hsl)]; rfl))) (Qa2 kj) ⟨rfl,(Puts.ext p3 (Ext.tr x1 e2) (qT x1.size l3))⟩)
theorem QlD (sec : List Int) (hsl:sec.length=32) (pl:Nat) (h_a s_a:Option Addr) (h_n h_c s_n s_c:Nat) (low m:Int) (w:World) (h0:((pl:Nat):Int)≤m) (h:m≤4294967295):Calls Tryd.prog 20 #[.agg (cat [ints .u8 (sec),#[.int .i64 ((pl:Nat):Int)],#[.slice h_a h_n h_c],#[.slice s_a s_n s_c],#[.int .i64 low]]),.int .i64 m] w (Ret w (.tuple #[.agg (cat [ints .u8 (sec),#[.int .i64 m],#[.slice none 0 0],#[.slice s_a s_n s_c],#[.int .i64 m]]),.bool true])):=by
  refine enter 21 [(0,.agg (cat [ints .u8 (sec),#[.int .i64 ((pl:Nat):Int)],#[.slice h_a h_n h_c],#[.slice s_a s_n s_c],#[.int .i64 low]])),(1,.int .i64 m)] Tryd.func20 rfl rfl kj rfl <| sgC fun K1 hK1=>Qap (cat [ints .u8 (sec),#[.int .i64 ((pl:Nat):Int)],#[.slice h_a h_n h_c],#[.slice s_a s_n s_c],#[.int .i64 low]]) 34 2 rfl kj kj fun g2 W1 l2 e1 r2_1=>?_
  have x1:=Ext.tr (Rely.Ext.refl w) e1
  have b2:=qT (Rely.Ext.refl w).size l2
  refine Qap (cat [ints .u8 (List.replicate 32 0),#[.int .i64 0],#[.slice none 0 0],#[.slice none 0 0],#[.int .i64 0]]) 34 4 rfl kj kj fun g3 W2 l3 e2 r3_2=>sg 1 kj <| sgN hK1 <| wp_seq_k fun K4 hK4=>sgC fun K5 hK5=>sg 2 kj ?_
  have r2_2:=(Qac r2_1 e2)
  refine Qab (.int .i64 ((pl:Nat):Int)) 8 rfl kj (Qag 3 _ g2 32 34 _ (.int .i64 ((pl:Nat):Int)) _ r2_2 rfl kj (Qaw [ints .u8 (sec)] [#[.int .i64 ((pl:Nat):Int)]] [#[.slice h_a h_n h_c],#[.slice s_a s_n s_c],#[.int .i64 low]] 32 ((Qad _ _).trans hsl) 0 _ rfl) kj) <| Qab (.bool false) 9 rfl kj (Qai (u:=.bool (decide (m<((pl:Nat):Int)))) kj (congrArg Value.bool (decide_eq_false (by omega)))) <| sg 2 kj <| Qab (.bool false) 12 rfl kj (Qai (u:=.bool (decide (m>4294967295))) kj (congrArg Value.bool (decide_eq_false (by omega)))) <| sg 1 kj <| sgN hK5 <| cond_false kj <| wp_skip <| hK4 _ _ <| sgC fun K6 hK6=>?_
  refine sg 2 kj <| Qaj g2 _ (cat [ints .u8 (sec),#[.int .i64 m],#[.slice h_a h_n h_c],#[.slice s_a s_n s_c],#[.int .i64 low]]) 34 r2_2 rfl kj (Qbf 3 _ _ g2 32 34 [ints .u8 (sec)] [#[.slice h_a h_n h_c],#[.slice s_a s_n s_c],#[.int .i64 low]] _ (.int .i64 m) r2_2 rfl kj kj kj ((Qad _ _).trans hsl) rfl rfl) fun W3 p3 r2_3=>sgN hK6 <| sgC fun K7 hK7=>sg 1 kj <| Qaj g2 _ (cat [ints .u8 (sec),#[.int .i64 m],#[.slice none 0 0],#[.slice s_a s_n s_c],#[.int .i64 low]]) 34 r2_3 rfl kj (Qbf 31 _ _ g2 33 34 [ints .u8 (sec),#[.int .i64 m]] [#[.slice s_a s_n s_c],#[.int .i64 low]] _ (.slice none 0 0) r2_3 rfl kj kj kj (by rw [Qaa,Qaa]; simp only [qS,cat,((Qad _ _).trans hsl)]; rfl) rfl rfl) fun W4 p4 r2_4=>?_
  refine sgN hK7 <| sgC fun K8 hK8=>sg 2 kj <| Qaj g2 _ (cat [ints .u8 (sec),#[.int .i64 m],#[.slice none 0 0],#[.slice s_a s_n s_c],#[.int .i64 m]]) 34 r2_4 rfl kj (Qbf 3 _ _ g2 35 34 [ints .u8 (sec),#[.int .i64 m],#[.slice none 0 0],#[.slice s_a s_n s_c]] [] _ (.int .i64 m) r2_4 rfl kj kj kj (by rw [Qaa,Qaa,Qaa,Qaa]; simp only [qS,cat,((Qad _ _).trans hsl)]; rfl) rfl rfl) fun W5 p5 r2_5=>?_
  refine sgN hK8 <| sgC fun K9 hK9=>Qab (.agg (cat [ints .u8 (sec),#[.int .i64 m],#[.slice none 0 0],#[.slice s_a s_n s_c],#[.int .i64 m]])) 20 rfl kj (Qaq 34 _ g2 34 _ _ r2_5 rfl kj kj (isz (n:=36) kj (by rw [Qaa,Qaa,Qaa,Qaa,Qaa]; simp only [qS,cat,((Qad _ _).trans hsl)]; rfl))) ?_
  have r3_5:=(Puts.row p5 (Puts.row p4 (Puts.row p3 r3_2 (Qa8 r2_1 l3)) (Qa8 r2_1 l3)) (Qa8 r2_1 l3))
  refine Qaj g3 _ (cat [ints .u8 (sec),#[.int .i64 m],#[.slice none 0 0],#[.slice s_a s_n s_c],#[.int .i64 m]]) 34 r3_5 rfl kj (Qal 34 _ _ g3 34 _ _ r3_5 rfl kj kj (isz (n:=36) kj (by rw [Qaa,Qaa,Qaa,Qaa,Qaa]; simp only [qS,cat,((Qad _ _).trans hsl)]; rfl)) (eqsz (n:=36) (by rw [Qaa,Qaa,Qaa,Qaa,Qaa]; simp only [qS,cat,((Qad _ _).trans (List.length_replicate (n:=32)))]; rfl) (by rw [Qaa,Qaa,Qaa,Qaa,Qaa]; simp only [qS,cat,((Qad _ _).trans hsl)]; rfl)) (QaD _ (by intro a ha; simp only [List.mem_cons,List.not_mem_nil,or_false] at ha; rcases ha with rfl | rfl | rfl | rfl | rfl; exact (Qau _ _); exact (Qan _ rfl); exact (Qan _ rfl); exact (Qan _ rfl); exact (Qan _ rfl)))) fun W6 p6 r3_6=>?_
  refine sg 1 kj <| sgN hK9 <| wp_ret ?_
  repeat (first | with_reducible refine goR1 ?_ | with_reducible refine goR2 ?_)
  exact (show bodyPost _ _ _ .ret _ _ from ret2 (.agg (cat [ints .u8 (sec),#[.int .i64 m],#[.slice none 0 0],#[.slice s_a s_n s_c],#[.int .i64 m]])) (.bool true) rfl (QaE g3 34 _ r3_6 kj kj (isz (n:=36) kj (by rw [Qaa,Qaa,Qaa,Qaa,Qaa]; simp only [qS,cat,((Qad _ _).trans hsl)]; rfl))) (Qa2 kj) ⟨rfl,(Puts.ext p6 (Puts.ext p5 (Puts.ext p4 (Puts.ext p3 (Ext.tr x1 e2) b2) b2) b2) (qT x1.size l3))⟩)
end Go.Proofs.YtibegnjaphohaaaDoor.Cn
end
