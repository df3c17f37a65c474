/- Texts of this claim, joined (O3). -/
import Derived.Test.YtibegnjaphohaaaDoorZO2
import Derived.Test.YtibegnjaphohaaaDoorRows
import Derived.Lib.TrailingZeros
import Derived.Laws.Bits64b

section
namespace Go.Proofs.YtibegnjaphohaaaDoor.Cn
open Go Go.RowKit
open Rely Auto Own Sha
set_option linter.unusedVariables false
set_option linter.unusedSimpArgs false
theorem Qf2 {v : Value} : ∀ c ∈ ([] : List Nat), v.ownBlock ≠ some c := fun _ h => by simp at h
theorem Qcr {v : Value} {g : Nat} {gs : List Nat} (h : v.ownBlock ≠ some g) (h2 : ∀ c ∈ gs, v.ownBlock ≠ some c) : ∀ c ∈ g :: gs, v.ownBlock ≠ some c := fun c hc => by
  rcases List.mem_cons.1 hc with e | e
  · rw [e]; exact h
  · exact h2 c e
theorem _root_.Go.Proofs.YtibegnjaphohaaaDoor.Auto.OwnN.keepsL {k : IntKind} {T : TypeId} {base : Nat} {gs : List Nat} {xs : List Int} {v : Value} {V W : World} (h : OwnN k T base xs v V) (q : Qai gs V W) (hn : ∀ c ∈ gs, v.ownBlock ≠ some c) : OwnN k T base xs v W :=
  h.keep fun g hg => q.block g (h.lt hg) (fun hm => hn g hm hg)
theorem Qf3 {k : IntKind} {T : TypeId} {base g : Nat} {xs : List Int} {v : Value} {W : World} (h : OwnN k T base xs v W) (hg : W.heap.size ≤ g) : v.ownBlock ≠ some g := fun e => by have := h.lt e; omega
section
variable {P : Program} {ρ : Operand → Value} {o : Oper} {w : World}
theorem QdQ (t : TypeId) (x : Operand) {kt et : TypeId} {g : Nat} {es : Array MapEntry} {clock : Nat} (ho : o.op = .range t x) (hx : ρ x = .map (some g)) (ht : P.underlying t = some (.map kt et)) (hg : w.heap[g]? = some (.map es clock)) :
    (execOp ρ o).run P w = .ok (.value (.pointer (some ⟨w.heap.size, 0, none⟩))) (w.alloc (.mapIter (some g) clock #[] clock)) := by
  have hgo : (getObj g).run P w = .ok (.map es clock) w := by simp [getObj, Sem.run, hg]
  unfold execOp
  simp only [ho, hx, Instr.range, Sem.run_bind, run_underlying ht, hgo, Result.andThen_ok, Sem.run_pure, run_newObj_alloc]
theorem Qe3 (x : Operand) {r : Nat} {v : Value} {w1 : World} (ho : o.op = .next x false) (hx : ρ x = .pointer (some ⟨r, 0, none⟩)) (h : (Instr.next (.pointer (some ⟨r, 0, none⟩)) false o.type).run P w = .ok v w1) : (execOp ρ o).run P w = .ok (.value v) w1 := by
  unfold execOp
  simp only [ho, hx, Sem.run_bind, h, Result.andThen_ok, Sem.run_pure]
theorem QdR (x : Operand) {r : Nat} {v : Value} (ho : o.op = .entry x) (hx : ρ x = .pointer (some ⟨r, 0, none⟩)) (h : (Instr.entry (.pointer (some ⟨r, 0, none⟩))).run P w = .ok v w) : (execOp ρ o).run P w = .ok (.value v) w := by
  unfold execOp
  simp only [ho, hx, Sem.run_bind, h, Result.andThen_ok, Sem.run_pure]
end
section
variable {ds : List Deferred} {P : Program} {ops : Array Oper} {Q : Exit → Act → World → Prop} {rest : List Oper} {o : Oper} {N : Nat} {L : Env} {w : World}
theorem Qfr (ob : Obj) (mk : Nat → Value) (d : Nat) (hd : o.dst = some d) (hg : QaZ ops o N L = some true) (h : (execOp (Rely.look (envN N L)) o).run P w = .ok (.value (mk w.heap.size)) (w.alloc ob))
    (k : ∀ (g : Nat) (W : World), w.heap.size ≤ g → Ext w W → W.heap[g]? = some ob → WL P ops Q rest (Qaq ds N ((d, mk g) :: L)) W) : WL P ops Q (o :: rest) (Qaq ds N L) w :=
  Qbe _ _ d hd hg h (k _ _ (Nat.le_refl _) (Qbu _ _) (heap_alloc_new _ _))
theorem QdP (v : Value) (w' : World) (hd : o.dst = none) (hg : QaZ ops o N L = some true) (h : (execOp (Rely.look (envN N L)) o).run P w = .ok (.value v) w') (k : WL P ops Q rest (Qaq ds N L) w') : WL P ops Q (o :: rest) (Qaq ds N L) w :=
  QdO hg fun K hK => by
    rw [h]
    show K _ _
    rw [hd, show (Qaq ds N L).put none v = Qaq ds N L from rfl]
    exact hK _ _ k
theorem Qfs (m k : Operand) (t : TypeId) {kt et : TypeId} {g : Nat} {n : Int} {ms : List (Int × Value)} (ho : o.op = .call { callee := .builtin .delete, args := #[m, k], argTypes := #[t, kt] }) (hm : Rely.look (envN N L) m = .map (some g)) (hk : Rely.look (envN N L) k = .int .i64 n)
    (ht : P.underlying t = some (.map kt et)) (hkt : P.underlying kt = some (.int .i64)) (h : MpAt g ms w) (hd : o.dst = none) (hg : QaZ ops o N L = some true)
    (kk : ∀ W', Puts w g W' → MpAt g (ms.filter fun p => p.1 != n) W' → WL P ops Q rest (Qaq ds N L) W') : WL P ops Q (o :: rest) (Qaq ds N L) w := by
  obtain ⟨W', h1, h2, h3⟩ := Qh0 (ρ := Rely.look (envN N L)) (o := o) m k t ho hm hk ht hkt h
  exact QdP _ _ hd hg h1 (kk W' h2 h3)
theorem Qe0 (m k : Operand) (t : TypeId) {kt et : TypeId} {g r : Nat} {lim x : Int} {es0 : Array MapEntry} {c : Nat} {sn : Array Nat} {e : MapEntry} {m0 : List (Int × Value)} (hM : MpW es0 c m0) (ho : o.op = .call { callee := .builtin .delete, args := #[m, k], argTypes := #[t, kt] }) (hm : Rely.look (envN N L) m = .map (some g)) (hk : Rely.look (envN N L) k = .int .i64 x)
    (ht : P.underlying t = some (.map kt et)) (hkt : P.underlying kt = some (.int .i64)) (h : Qcw g r lim es0 c sn e w) (hx : e.key = .int .i64 x) (hl : x < lim) (hd : o.dst = none) (hg : QaZ ops o N L = some true)
    (kk : ∀ W', Puts w g W' → Qci g r lim es0 c (sn.push e.born) W' → WL P ops Q rest (Qaq ds N L) W') : WL P ops Q (o :: rest) (Qaq ds N L) w := by
  obtain ⟨W', h1, h2, h3⟩ := h.drop hM hx hl (P := P) (ty := o.type) ht hkt
  have hr : (execOp (Rely.look (envN N L)) o).run P w = .ok (.value (.tuple #[])) W' := QgC m k t kt ho hm hk h1
  exact QdP _ _ hd hg hr (kk W' h2 h3)
theorem Qey (x : Operand) {g r : Nat} {lim : Int} {es0 : Array MapEntry} {c : Nat} {sn : Array Nat} {m0 : List (Int × Value)} (hM : MpW es0 c m0) (ho : o.op = .next x false) (hx : Rely.look (envN N L) x = .pointer (some ⟨r, 0, none⟩)) (h : Qci g r lim es0 c sn w) (d : Nat) (hd : o.dst = some d) (hg : QaZ ops o N L = some true)
    (k0 : MpAt g (m0.filter fun p => decide (lim ≤ p.1)) w → WL P ops Q rest (Qaq ds N ((d, .tuple #[.bool false]) :: L)) w)
    (k1 : ∀ (e : MapEntry) (y : Int) (W : World), e.key = .int .i64 y → Puts w r W → Qcw g r lim es0 c sn e W → (Instr.entry (.pointer (some ⟨r, 0, none⟩))).run P W = .ok (.tuple #[.int .i64 y, e.val]) W → WL P ops Q rest (Qaq ds N ((d, .tuple #[.bool true, .int .i64 y, e.val]) :: L)) W) : WL P ops Q (o :: rest) (Qaq ds N L) w := by
  rcases h.next hM (P := P) o.type with ⟨h1, h2⟩ | ⟨e, y, W, h1, h2, h3, h4, h5⟩
  · exact Qbe _ _ d hd hg (Qe3 x ho hx h1) (k0 h2)
  · exact Qbe _ _ d hd hg (Qe3 x ho hx h2) (k1 e y W h1 h3 h4 h5)
end
theorem retG {P : Program} {f : FuncId} {a : Array Value} {w : World} {v : Value} (h : Calls P f a w (Ret w v)) : Calls P f a w (Qce w fun u _ => u = v) := h.mono fun e W hh => ⟨v, hh.1, hh.2, rfl⟩
def msNo (ms : List (Int × List Int)) (n : Int) : List (Int × List Int) := ms.filter fun p => p.1 != n
def Qgi (ms : List (Int × List Int)) (lim : Int) : List (Int × List Int) := ms.filter fun p => decide (lim ≤ p.1)
def Qb2 (sec : List Int) (pl n : Nat) : Nat → List (Int × List Int)
  | 0 => []
  | k + 1 => Qb2 sec pl n k ++ (if pl + k < n ∧ n ≤ pl + k + 64 then [(((pl + k : Nat) : Int), keyV (itV sec k))] else [])
theorem QfL (sec : List Int) (pl n : Nat) : ∀ k, ∀ p ∈ Qb2 sec pl n k, ((pl : Nat) : Int) ≤ p.1 ∧ p.1 < ((pl + k : Nat) : Int)
  | 0, p, h => by cases h
  | k + 1, p, h => by
    rw [Qb2, List.mem_append] at h
    rcases h with h | h
    · have := QfL sec pl n k p h; omega
    · split at h
      · rw [List.mem_singleton] at h; subst h; simp only; omega
      · cases h
theorem QfK {sec : List Int} {pl n k : Nat} (h : pl + k < n ∧ n ≤ pl + k + 64) : Qb2 sec pl n (k + 1) = Qb2 sec pl n k ++ [(((pl + k : Nat) : Int), keyV (itV sec k))] := by rw [Qb2, if_pos h]
theorem Qes {sec : List Int} {pl n k : Nat} (h : ¬ (pl + k < n ∧ n ≤ pl + k + 64)) : Qb2 sec pl n (k + 1) = Qb2 sec pl n k := by rw [Qb2, if_neg h, List.append_nil]
theorem Qc0 (q : Int → Bool) (ms : List (Int × List Int)) : (ms.map mpv).filter (fun p => q p.1) = (ms.filter fun p => q p.1).map mpv := Qdw mpv (fun p => q p.1) ms
theorem QgK {ms : List (Int × List Int)} {sec : List Int} {pl n k : Nat} (hlt : ∀ p ∈ ms, p.1 < ((pl : Nat) : Int)) : ((pl + k : Nat) : Int) ∉ ((ms ++ Qb2 sec pl n k).map mpv).map Prod.fst := fun h => by
  rw [List.map_map, List.mem_map] at h
  obtain ⟨p, hp, he⟩ := h
  rw [List.mem_append] at hp
  have he' : p.1 = ((pl + k : Nat) : Int) := he
  rcases hp with hp | hp
  · have := hlt p hp; omega
  · have := (QfL sec pl n k p hp).2; omega
theorem QeG {ms : List (Int × List Int)} {pl : Nat} {n : Int} (hlt : ∀ p ∈ ms, p.1 < ((pl : Nat) : Int)) : ∀ p ∈ msNo ms n, p.1 < ((pl : Nat) : Int) := fun p hp => hlt p (List.mem_filter.1 hp).1
theorem Qec {g r : Nat} {lim : Int} {es0 : Array MapEntry} {c : Nat} {sn : Array Nat} {e : MapEntry} {W W' : World} (h : Qcw g r lim es0 c sn e W) (x : Ext W W') : Qcw g r lim es0 c sn e W' := by
  obtain ⟨es, h1, h2, h3, h4⟩ := h
  exact ⟨es, h1, Qad h2 x, Qad h3 x, h4⟩
theorem Qfz (a b : Nat) (ha : a < 18446744073709551616) (hb : b < 18446744073709551616) : a ||| b < 18446744073709551616 := Nat.or_lt_two_pow (n := 64) ha hb
set_option maxHeartbeats 4000000 in
theorem Qjc (g : Nat) (nx : Int) (B : Nat) (hnx : 0 ≤ nx ∧ nx ≤ 4294967295) (hB : B < 18446744073709551616) (sec : List Int) (pl mg : Nat) (hsec : sec.length = 32) (w : World) (hg : w.heap[g]? = some (.cells (cat [#[.int .i64 nx], #[.int .u64 ((B : Nat) : Int)], ints .u8 (sec), #[.int .i64 ((pl : Nat) : Int)], #[.map (some mg)]]) 84)) (ms : List (Int × List Int)) (hmo : MsOk ms) (hmp : MpAt mg (ms.map mpv) w) (tc tq : TypeId) (hc : w.heap[2]? = some (.cells (ints .u64 QaD) tc)) (hq : w.heap[1]? = some (.cells (ints .u64 Qam) tq)) (hsb : Qao sec) (n : Nat) (hm : n ≤ 4294967294) (hp : pl ≤ 4294967295) (hlt0 : ∀ p ∈ ms, p.1 < ((pl : Nat) : Int)) (hcg : 2 ≠ g) (hsg : 1 ≠ g) (hc0 : chkW nx B ((n : Nat) : Int) = 0) (hn : n < pl) (j : Nat) (hj : nx - 1 - ((n : Nat) : Int) - 1 = (j : Int)) (hj2 : j < 64) : Calls Tryd.prog 33 #[.pointer (some ⟨g, 0, none⟩), .int .i64 ((n : Nat) : Int)] w (fun e W => ∃ v, e = .returned (.tuple #[v, .nilIface]) ∧ Qai [g, mg] w W ∧ W.heap[g]? = some (.cells (cat [#[.int .i64 nx], #[.int .u64 ((B ||| 2 ^ j : Nat) : Int)], ints .u8 (itV sec (n + 1 - pl)), #[.int .i64 ((pl + (n + 1 - pl) : Nat) : Int)], #[.map (some mg)]]) 84) ∧ MpAt mg ((Qgi ((msNo ms ((n : Nat) : Int)) ++ Qb2 sec pl n (n + 1 - pl)) (nx - 1 - 64)).map mpv) W ∧ QbO w.heap.size ((n : Nat) : Int) (lget ms ((n : Nat) : Int)) v W) := by
 have hcm := MpAt.ne hmp hc
 have hsm := MpAt.ne hmp hq
 have hgm := MpAt.ne hmp hg
 have hl_g := Qar hg
 have hl_mg := MpAt.lt hmp
 obtain ⟨es5, cl5, hes5, hM5⟩ := id hmp
 refine enter 97 [(0, .pointer (some ⟨g, 0, none⟩)), (1, .int .i64 ((n : Nat) : Int))] Tryd.func33 rfl rfl kj rfl ?_
 refine wp_seq_k fun K6 hK6 => ?_
 refine Qab ?_
 refine Qas (cat [#[.int .i64 0], ints .u8 (List.replicate 32 0), #[.slice none 0 0]]) 40 4 rfl kj kj fun g7 W1 l7 e1 r7_1 => ?_
 have x1 : Qai [g, mg] w W1 := Qai.step (Qai.refl [g, mg] w) e1
 have b7 : w.heap.size ≤ g7 := Nat.le_trans (Qai.refl [g, mg] w).size l7
 refine Qaa (.nilIface) 5 rfl kj kj ?_
 refine Qac ?_
 refine hK6 _ _ ?_
 refine wp_seq_k fun K8 hK8 => ?_
 refine Qab ?_
 refine Qaa (.pointer (some ⟨g, 0, none⟩)) 9 rfl kj kj ?_
 refine Qaa (.int .i64 ((n : Nat) : Int)) 10 rfl kj kj ?_
 have r2_1 := (Qad hc e1)
 have r3_1 := (Qad hq e1)
 have r1_1 := (Qad hg e1)
 have r4_1 := (Qad hes5 e1)
 refine Qa8 (fun v W' => (QbO W1.heap.size ((n : Nat) : Int) (lget ms ((n : Nat) : Int))) v W' ∧ Ext W1 W') 34 #[.pointer (some ⟨g, 0, none⟩), .int .i64 ((n : Nat) : Int)] 11 rfl kj kj ((Qim g nx B hnx hB sec pl mg hsec _ r1_1 ms hmo ⟨_, _, r4_1, hM5⟩ tc tq r2_1 r3_1 hsb ((n : Nat) : Int) (by omega)).mono (by rintro e w' ⟨v, rfl, e1, hv⟩; exact ⟨v, rfl, hv, e1⟩)) fun vv9 W2 hh9 => ?_
 obtain ⟨hv9, e2⟩ := hh9
 have x2 : Qai [g, mg] w W2 := Qai.step x1 e2
 obtain ⟨u10, rfl, hu10⟩ := hv9
 obtain ⟨a10_, c10_, rfl, -⟩ := id (OwnN.rd hu10)
 have nbg := Qcq hu10 (Qar r1_1)
 have nbm := Qcq hu10 (Qar r4_1)
 refine Qas (cat [#[.int .i64 0], ints .u8 (List.replicate 32 0), #[.slice none 0 0]]) 40 6 rfl kj kj fun g11 W3 l11 e3 r11_3 => ?_
 have x3 : Qai [g, mg] w W3 := Qai.step x2 e3
 have b11 : w.heap.size ≤ g11 := Nat.le_trans x2.size l11
 refine Qaj g11 _ (cat [#[.int .i64 ((n : Nat) : Int)], ints .u8 ((lget ms ((n : Nat) : Int)).take 32), #[.slice a10_ (((lget ms ((n : Nat) : Int)).drop 32).length) c10_]]) 40 r11_3 rfl kj (Qap 40 _ _ g11 40 _ _ r11_3 rfl kj kj (isz (n := 34) kj (by rw [Qae, Qae, Qae]; simp only [Array.size_append, cat, ((Qaf _ _).trans (QaG (QbN hmo _).1))]; rfl)) (eqsz (n := 34) (by rw [Qae, Qae, Qae]; simp only [Array.size_append, cat, ((Qaf _ _).trans (List.length_replicate (n := 32)))]; rfl) (by rw [Qae, Qae, Qae]; simp only [Array.size_append, cat, ((Qaf _ _).trans (QaG (QbN hmo _).1))]; rfl)) (QaY _ (by intro a ha; simp only [List.mem_cons, List.not_mem_nil, or_false] at ha; rcases ha with rfl | rfl | rfl; exact (QaA _ rfl); exact (Qa0 _ _); exact (QaA _ rfl)))) fun W4 p4 r11_4 => ?_
 have x4 : Qai [g, mg] w W4 := Qai.puts x3 p4 (.inr b11)
 refine Qac ?_
 refine hK8 _ _ ?_
 refine wp_seq_k fun K12 hK12 => ?_
 refine wp_seq_k fun K13 hK13 => ?_
 refine Qab ?_
 refine Qaa (.pointer (some ⟨g, 0, none⟩)) 12 rfl kj kj ?_
 refine Qaa (.pointer (some ⟨g, 0, none⟩)) 13 rfl kj kj ?_
 refine Qaa (.pointer (some ⟨g, 0, none⟩)) 14 rfl kj kj ?_
 refine Qaa (.int .i64 ((n : Nat) : Int)) 15 rfl kj kj ?_
 have r1_2 := (Qad r1_1 e2)
 have r1_3 := (Qad r1_2 e3)
 have r1_4 := (Puts.row p4 r1_3 (Nat.ne_of_lt (Nat.lt_of_lt_of_le hl_g b11)))
 refine Qa8 (fun v W' => v = .nilIface ∧ ExtB g W4 W' ∧ W'.heap[g]? = some (.cells (cat [#[.int .i64 nx], #[.int .u64 ((B ||| 2 ^ j : Nat) : Int)], ints .u8 (sec), #[.int .i64 ((pl : Nat) : Int)], #[.map (some mg)]]) 84)) 44 #[.pointer (some ⟨g, 0, none⟩), .int .i64 ((n : Nat) : Int)] 16 rfl kj kj ((Qkd g nx B ((n : Nat) : Int) hnx hB sec pl mg hsec _ r1_4 hc0 j hj hj2).mono fun e w' ⟨h1, h2, h3⟩ => ⟨_, h1, rfl, h2, h3⟩) fun v W5 h => ?_
 obtain ⟨rfl, q5, r1_5⟩ := h
 have x5 : Qai [g, mg] w W5 := Qai.but x4 q5 (.inl (by simp))
 refine Qaa (.nilIface) 7 rfl kj kj ?_
 refine Qac ?_
 refine hK13 _ _ ?_
 refine wp_seq_k fun K14 hK14 => ?_
 refine Qab ?_
 refine Qaa (.nilIface) 17 rfl kj kj ?_
 refine Qaa (.bool false) 18 rfl kj kj ?_
 refine Qac ?_
 refine hK14 _ _ ?_
 refine cond_false kj ?_
 refine wp_skip ?_
 refine hK12 _ _ ?_
 refine wp_seq_k fun K15 hK15 => ?_
 refine Qab ?_
 refine Qaa (.pointer (some ⟨g, 0, none⟩)) 21 rfl kj kj ?_
 refine Qaa (.pointer (some ⟨g, 0, none⟩)) 22 rfl kj kj ?_
 refine Qaa (.pointer (some ⟨g, 35, none⟩)) 23 rfl kj kj ?_
 refine Qaa (.map (some mg)) 24 rfl kj (Qal 82 _ g 35 84 _ (.map (some mg)) _ r1_5 rfl kj (Qat [#[.int .i64 nx], #[.int .u64 ((B ||| 2 ^ j : Nat) : Int)], ints .u8 (sec), #[.int .i64 ((pl : Nat) : Int)]] [#[.map (some mg)]] [] 35 (by rw [Qae, Qae, Qae, Qae]; simp only [Array.size_append, cat, ((Qaf _ _).trans hsec)]; rfl) 0 _ rfl) kj) ?_
 refine Qaa (.int .i64 ((n : Nat) : Int)) 25 rfl kj kj ?_
 have r4_2 := (Qad r4_1 e2)
 have r4_3 := (Qad r4_2 e3)
 have r4_4 := (Puts.row p4 r4_3 (Nat.ne_of_lt (Nat.lt_of_lt_of_le hl_mg b11)))
 have r4_5 := (ExtB.row q5 r4_4 (Ne.symm hgm))
 refine Qfs (n := ((n : Nat) : Int)) (.tmp 24) (.tmp 25) 82 (kt := 3) (et := 93) rfl kj kj kj kj ⟨_, _, r4_5, hM5⟩ rfl kj fun W6 p6 hmp => ?_
 have x6 : Qai [g, mg] w W6 := Qai.puts x5 p6 (.inl (by simp))
 replace hmp : MpAt mg ((msNo ms ((n : Nat) : Int)).map mpv) W6 := by have h9 := hmp; rw [Qc0 (fun x => x != ((n : Nat) : Int))] at h9; exact h9
 obtain ⟨es16, cl16, hes16, hM16⟩ := id hmp
 refine Qac ?_
 refine hK15 _ _ ?_
 refine wp_seq_k fun K17 hK17 => ?_
 refine wp_block ?_
 have n_7_1 : g7 ≠ g := (Ne.symm (Nat.ne_of_lt (Nat.lt_of_lt_of_le hl_g b7)))
 have n_7_4 : g7 ≠ mg := (Ne.symm (Nat.ne_of_lt (Nat.lt_of_lt_of_le hl_mg b7)))
 have n_11_1 : g11 ≠ g := (Ne.symm (Nat.ne_of_lt (Nat.lt_of_lt_of_le hl_g b11)))
 have n_11_4 : g11 ≠ mg := (Ne.symm (Nat.ne_of_lt (Nat.lt_of_lt_of_le hl_mg b11)))
 have r1_6 := (Puts.row p6 r1_5 hgm)
 refine QaM (fun (s1 : Nat) => [(0, .pointer (some ⟨g, 0, none⟩)), (1, .int .i64 ((n : Nat) : Int)), (4, .pointer (some ⟨g7, 0, none⟩)), (5, .nilIface), (6, .pointer (some ⟨g11, 0, none⟩)), (7, .nilIface)]) (fun (s1 : Nat) W => (s1 ≤ n + 1 - pl) ∧ (MpAt mg (((msNo ms ((n : Nat) : Int)) ++ Qb2 sec pl n s1).map mpv) W) ∧ (W.heap[g]? = some (.cells (cat [#[.int .i64 nx], #[.int .u64 ((B ||| 2 ^ j : Nat) : Int)], ints .u8 (itV sec s1), #[.int .i64 ((pl + s1 : Nat) : Int)], #[.map (some mg)]]) 84)) ∧ (Qai [g, mg] W6 W) ∧ (Qai [g, mg] w W)) (fun (s1 : Nat) => n + 1 - pl - s1) 0 ⟨rfl, rfl, rfl, rfl, rfl, rfl, trivial⟩ ⟨(Nat.zero_le _), (by show MpAt mg (((msNo ms ((n : Nat) : Int)) ++ []).map mpv) _; rw [List.append_nil]; exact ⟨_, _, hes16, hM16⟩), r1_6, (Qai.refl [g, mg] W6), x6⟩ fun s1 X1 V1 hI1 => ?_
 obtain ⟨k, hs1⟩ : ∃ z, z = s1 := ⟨_, rfl⟩
 subst hs1
 obtain ⟨hk, hmp, q1_1, kk1, xx1⟩ := hI1
 replace hk : k ≤ n + 1 - pl := hk
 replace hmp : MpAt mg (((msNo ms ((n : Nat) : Int)) ++ Qb2 sec pl n k).map mpv) V1 := hmp
 replace q1_1 : V1.heap[g]? = some (.cells (cat [#[.int .i64 nx], #[.int .u64 ((B ||| 2 ^ j : Nat) : Int)], ints .u8 (itV sec k), #[.int .i64 ((pl + k : Nat) : Int)], #[.map (some mg)]]) 84) := q1_1
 replace kk1 : Qai [g, mg] W6 V1 := kk1
 replace xx1 : Qai [g, mg] w V1 := xx1
 have q7 := kk1
 obtain ⟨es18, cl18, hes18, hM18⟩ := id hmp
 have hkp : pl + k ≤ 4294967295 := by omega
 refine wp_seq_k fun K19 hK19 => ?_
 refine wp_seq_k fun K20 hK20 => ?_
 refine Qab ?_
 refine Qaa (.pointer (some ⟨g, 0, none⟩)) 26 rfl kj kj ?_
 refine Qaa (.pointer (some ⟨g, 0, none⟩)) 27 rfl kj kj ?_
 refine Qaa (.pointer (some ⟨g, 34, none⟩)) 28 rfl kj kj ?_
 refine Qaa (.int .i64 ((pl + k : Nat) : Int)) 29 rfl kj (Qal 3 _ g 34 84 _ (.int .i64 ((pl + k : Nat) : Int)) _ q1_1 rfl kj (Qat [#[.int .i64 nx], #[.int .u64 ((B ||| 2 ^ j : Nat) : Int)], ints .u8 (itV sec k)] [#[.int .i64 ((pl + k : Nat) : Int)]] [#[.map (some mg)]] 34 (by rw [Qae, Qae, Qae]; simp only [Array.size_append, cat, ((Qaf _ _).trans (Qav hsec k))]; rfl) 0 _ rfl) kj) ?_
 refine Qaa (.int .i64 ((n : Nat) : Int)) 30 rfl kj kj ?_
 refine Qaa (.bool (decide (((pl + k : Nat) : Int) ≤ ((n : Nat) : Int)))) 31 rfl kj kj ?_
 refine Qac ?_
 refine hK20 _ _ ?_
 refine QaE (t := decide (((pl + k : Nat) : Int) ≤ ((n : Nat) : Int))) kj (fun c21 => ?_) (fun c21 => ?_)
 ·skip
  have hlt : pl + k ≤ n := by have := of_decide_eq_true c21; omega
  refine wp_skip ?_
  refine hK19 _ _ ?_
  refine wp_block ?_
  refine wp_seq_k fun K22 hK22 => ?_
  refine wp_seq_k fun K23 hK23 => ?_
  rcases (show (pl + k < n ∧ n ≤ pl + k + 64) ∨ (pl + k < n ∧ pl + k + 64 < n) ∨ pl + k = n by omega) with hcc | hcc | hcc
  ·skip
   refine Qab ?_
   refine Qaa (.pointer (some ⟨g, 0, none⟩)) 32 rfl kj kj ?_
   refine Qaa (.pointer (some ⟨g, 0, none⟩)) 33 rfl kj kj ?_
   refine Qaa (.pointer (some ⟨g, 34, none⟩)) 34 rfl kj kj ?_
   refine Qaa (.int .i64 ((pl + k : Nat) : Int)) 35 rfl kj (Qal 3 _ g 34 84 _ (.int .i64 ((pl + k : Nat) : Int)) _ q1_1 rfl kj (Qat [#[.int .i64 nx], #[.int .u64 ((B ||| 2 ^ j : Nat) : Int)], ints .u8 (itV sec k)] [#[.int .i64 ((pl + k : Nat) : Int)]] [#[.map (some mg)]] 34 (by rw [Qae, Qae, Qae]; simp only [Array.size_append, cat, ((Qaf _ _).trans (Qav hsec k))]; rfl) 0 _ rfl) kj) ?_
   refine Qaa (.int .i64 ((n : Nat) : Int)) 36 rfl kj kj ?_
   refine Qaa (.bool true) 37 rfl kj (Qah (u := .bool (decide (((pl + k : Nat) : Int) < ((n : Nat) : Int)))) kj (congrArg Value.bool (decide_eq_true (by omega)))) ?_
   refine Qaa (.bool true) 38 rfl kj kj ?_
   refine Qaa (.pointer (some ⟨g, 0, none⟩)) 39 rfl kj kj ?_
   refine Qaa (.pointer (some ⟨g, 0, none⟩)) 40 rfl kj kj ?_
   refine Qaa (.pointer (some ⟨g, 34, none⟩)) 41 rfl kj kj ?_
   refine Qaa (.int .i64 ((pl + k : Nat) : Int)) 42 rfl kj (Qal 3 _ g 34 84 _ (.int .i64 ((pl + k : Nat) : Int)) _ q1_1 rfl kj (Qat [#[.int .i64 nx], #[.int .u64 ((B ||| 2 ^ j : Nat) : Int)], ints .u8 (itV sec k)] [#[.int .i64 ((pl + k : Nat) : Int)]] [#[.map (some mg)]] 34 (by rw [Qae, Qae, Qae]; simp only [Array.size_append, cat, ((Qaf _ _).trans (Qav hsec k))]; rfl) 0 _ rfl) kj) ?_
   refine Qaa (.int .i64 ((n : Nat) : Int)) 43 rfl kj kj ?_
   refine Qaa (.int .i64 (((n : Nat) : Int) - 64)) 44 rfl kj (Qah (u := .int .i64 (IntKind.i64.wrap (((n : Nat) : Int) - 64))) kj (congrArg (Value.int .i64) (Qbo _ (by omega)))) ?_
   refine Qaa (.bool true) 45 rfl kj (Qah (u := .bool (decide (((pl + k : Nat) : Int) ≥ (((n : Nat) : Int) - 64)))) kj (congrArg Value.bool (decide_eq_true (by omega)))) ?_
   refine Qaa (.bool true) 46 rfl kj kj ?_
   refine Qac ?_
   refine hK23 _ _ ?_
   refine cond_true kj ?_
   refine Go.Proofs.YtibegnjaphohaaaDoor.Wm.region_walkM (fun W => W.heap[g]? = some (.cells (cat [#[.int .i64 nx], #[.int .u64 ((B ||| 2 ^ j : Nat) : Int)], ints .u8 (itV sec k), #[.int .i64 ((pl + k : Nat) : Int)], #[.map (some mg)]]) 84)) 13 kj fun W8 e8 => ⟨Qad q1_1 e8, ?_⟩
   have x8 : Qai [g, mg] w W8 := Qai.step xx1 e8
   refine Go.Proofs.YtibegnjaphohaaaDoor.Wm.wm_val 0 (.pointer (some ⟨g, 0, none⟩)) 47 rfl rfl kj kj (by decide) kj (fun _ _ _ h => h) (fun W hR => by kernel_rfl) ?_
   refine Go.Proofs.YtibegnjaphohaaaDoor.Wm.wm_val 1 (.pointer (some ⟨g, 0, none⟩)) 48 rfl rfl kj kj (by decide) kj (fun _ _ _ h => h) (fun W hR => by kernel_rfl) ?_
   refine Go.Proofs.YtibegnjaphohaaaDoor.Wm.wm_val 2 (.pointer (some ⟨g, 35, none⟩)) 49 rfl rfl kj kj (by decide) kj (fun _ _ _ h => h) (fun W hR => by kernel_rfl) ?_
   refine Go.Proofs.YtibegnjaphohaaaDoor.Wm.wm_val 3 (.map (some mg)) 50 rfl rfl kj kj (by decide) kj (fun _ _ _ h => h) (fun W hR => (Qal 82 _ g 35 84 _ (.map (some mg)) _ hR rfl kj (Qat [#[.int .i64 nx], #[.int .u64 ((B ||| 2 ^ j : Nat) : Int)], ints .u8 (itV sec k), #[.int .i64 ((pl + k : Nat) : Int)]] [#[.map (some mg)]] [] 35 (by rw [Qae, Qae, Qae, Qae]; simp only [Array.size_append, cat, ((Qaf _ _).trans (Qav hsec k))]; rfl) 0 _ rfl) kj)) ?_
   refine Go.Proofs.YtibegnjaphohaaaDoor.Wm.wm_val 4 (.pointer (some ⟨g, 0, none⟩)) 51 rfl rfl kj kj (by decide) kj (fun _ _ _ h => h) (fun W hR => by kernel_rfl) ?_
   refine Go.Proofs.YtibegnjaphohaaaDoor.Wm.wm_val 5 (.pointer (some ⟨g, 0, none⟩)) 52 rfl rfl kj kj (by decide) kj (fun _ _ _ h => h) (fun W hR => by kernel_rfl) ?_
   refine Go.Proofs.YtibegnjaphohaaaDoor.Wm.wm_val 6 (.pointer (some ⟨g, 34, none⟩)) 53 rfl rfl kj kj (by decide) kj (fun _ _ _ h => h) (fun W hR => by kernel_rfl) ?_
   refine Go.Proofs.YtibegnjaphohaaaDoor.Wm.wm_val 7 (.int .i64 ((pl + k : Nat) : Int)) 54 rfl rfl kj kj (by decide) kj (fun _ _ _ h => h) (fun W hR => (Qal 3 _ g 34 84 _ (.int .i64 ((pl + k : Nat) : Int)) _ hR rfl kj (Qat [#[.int .i64 nx], #[.int .u64 ((B ||| 2 ^ j : Nat) : Int)], ints .u8 (itV sec k)] [#[.int .i64 ((pl + k : Nat) : Int)]] [#[.map (some mg)]] 34 (by rw [Qae, Qae, Qae]; simp only [Array.size_append, cat, ((Qaf _ _).trans (Qav hsec k))]; rfl) 0 _ rfl) kj)) ?_
   refine Go.Proofs.YtibegnjaphohaaaDoor.Wm.wm_val 8 (.pointer (some ⟨g, 0, none⟩)) 55 rfl rfl kj kj (by decide) kj (fun _ _ _ h => h) (fun W hR => by kernel_rfl) ?_
   refine Go.Proofs.YtibegnjaphohaaaDoor.Wm.wm_val 9 (.pointer (some ⟨g, 0, none⟩)) 56 rfl rfl kj kj (by decide) kj (fun _ _ _ h => h) (fun W hR => by kernel_rfl) ?_
   refine Go.Proofs.YtibegnjaphohaaaDoor.Wm.wm_val 10 (.pointer (some ⟨g, 2, none⟩)) 57 rfl rfl kj kj (by decide) kj (fun _ _ _ h => h) (fun W hR => by kernel_rfl) ?_
   refine Go.Proofs.YtibegnjaphohaaaDoor.Wm.wm_val 11 (.agg (ints .u8 (itV sec k))) 58 rfl rfl kj kj (by decide) kj (fun _ _ _ h => h) (fun W hR => (Qa3 23 _ g 2 84 _ _ _ hR rfl kj (Qat [#[.int .i64 nx], #[.int .u64 ((B ||| 2 ^ j : Nat) : Int)]] [ints .u8 (itV sec k)] [#[.int .i64 ((pl + k : Nat) : Int)], #[.map (some mg)]] 2 kj) kj (isz (n := 32) kj ((Qaf _ _).trans (Qav hsec k))))) ?_
   have r1_8 := (Qad q1_1 e8)
   have r2_2 := (Qad r2_1 e2)
   have r2_3 := (Qad r2_2 e3)
   have r2_4 := (Puts.row p4 r2_3 (Qag r2_2 l11))
   have r2_5 := (ExtB.row q5 r2_4 hcg)
   have r2_6 := (Puts.row p6 r2_5 hcm)
   have r2_7 := (Qai.row q7 r2_6 (Qan hcg (Qan hcm Qa6)))
   have r2_8 := (Qad r2_7 e8)
   have r3_2 := (Qad r3_1 e2)
   have r3_3 := (Qad r3_2 e3)
   have r3_4 := (Puts.row p4 r3_3 (Qag r3_2 l11))
   have r3_5 := (ExtB.row q5 r3_4 hsg)
   have r3_6 := (Puts.row p6 r3_5 hsm)
   have r3_7 := (Qai.row q7 r3_6 (Qan hsg (Qan hsm Qa6)))
   have r3_8 := (Qad r3_7 e8)
   refine Go.Proofs.YtibegnjaphohaaaDoor.Wm.wm_call 12 kj rfl (fun v W' => (fun v _ => v = .agg (ints .u8 (keyV (itV sec k)))) v W' ∧ Ext W8 W') 45 #[.agg (ints .u8 (itV sec k))] 59 rfl kj kj ((retG (QgO (itV sec k) tc tq _ r2_8 r3_8 (Qav hsec k) (QaU hsb k))).mono (by rintro e w' ⟨v, rfl, e1, hv⟩; exact ⟨v, rfl, hv, e1⟩)) (fun v W h => Qad r1_8 h.2) fun vv24 W9 hh24 => ?_
   obtain ⟨hv24, e9⟩ := hh24
   have x9 : Qai [g, mg] w W9 := Qai.step x8 e9
   subst hv24
   have r1_9 := (Qad r1_8 e9)
   have r4_8 := (Qad hes18 e8)
   have r4_9 := (Qad r4_8 e9)
   refine Go.Proofs.YtibegnjaphohaaaDoor.Wm.wm_last kj kj rfl (fun W' => Puts W9 mg W' ∧ MpAt mg ((((msNo ms ((n : Nat) : Int)) ++ Qb2 sec pl n k).map mpv) ++ [(((pl + k : Nat) : Int), .agg (ints .u8 (keyV (itV sec k))))]) W') rfl kj (Qdr 82 _ _ _ (kt := 3) (et := 93) rfl kj kj kj kj kj ⟨_, _, r4_9, hM18⟩ (QgK (QeG hlt0))) fun W10 hh => ?_
   obtain ⟨p10, hmp⟩ := hh
   have x10 : Qai [g, mg] w W10 := Qai.puts x9 p10 (.inl (by simp))
   replace hmp : MpAt mg (((msNo ms ((n : Nat) : Int)) ++ Qb2 sec pl n (k + 1)).map mpv) W10 := by rw [QfK hcc, ← List.append_assoc, List.map_append]; exact hmp
   obtain ⟨es25, cl25, hes25, hM25⟩ := id hmp
   refine hK22 _ _ ?_
   refine wp_seq_k fun K26 hK26 => ?_
   refine Qab ?_
   refine Qaa (.pointer (some ⟨g, 0, none⟩)) 60 rfl kj kj ?_
   refine Qaa (.pointer (some ⟨g, 0, none⟩)) 61 rfl kj kj ?_
   refine Qaa (.pointer (some ⟨g, 0, none⟩)) 62 rfl kj kj ?_
   refine Qaa (.pointer (some ⟨g, 2, none⟩)) 63 rfl kj kj ?_
   have r1_10 := (Puts.row p10 r1_9 hgm)
   refine Qaa (.agg (ints .u8 (itV sec k))) 64 rfl kj (Qa3 23 _ g 2 84 _ _ _ r1_10 rfl kj (Qat [#[.int .i64 nx], #[.int .u64 ((B ||| 2 ^ j : Nat) : Int)]] [ints .u8 (itV sec k)] [#[.int .i64 ((pl + k : Nat) : Int)], #[.map (some mg)]] 2 kj) kj (isz (n := 32) kj ((Qaf _ _).trans (Qav hsec k)))) ?_
   have r2_9 := (Qad r2_8 e9)
   have r2_10 := (Puts.row p10 r2_9 hcm)
   have r3_9 := (Qad r3_8 e9)
   have r3_10 := (Puts.row p10 r3_9 hsm)
   refine Qau (.agg (ints .u8 (itV sec (k + 1)))) 46 #[.agg (ints .u8 (itV sec k))] 65 rfl kj kj (QdJ (itV sec k) tc tq _ r2_10 r3_10 (Qav hsec k) (QaU hsb k)) fun W11 e11 => ?_
   have x11 : Qai [g, mg] w W11 := Qai.step x10 e11
   refine Qaa (.pointer (some ⟨g, 0, none⟩)) 66 rfl kj kj ?_
   refine Qaa (.pointer (some ⟨g, 2, none⟩)) 67 rfl kj kj ?_
   have r1_11 := (Qad r1_10 e11)
   refine Qaj g _ (cat [#[.int .i64 nx], #[.int .u64 ((B ||| 2 ^ j : Nat) : Int)], ints .u8 (itV sec (k + 1)), #[.int .i64 ((pl + k : Nat) : Int)], #[.map (some mg)]]) 84 r1_11 rfl kj (Qbf 23 _ _ g 2 84 [#[.int .i64 nx], #[.int .u64 ((B ||| 2 ^ j : Nat) : Int)]] [ints .u8 (itV sec k)] [ints .u8 (itV sec (k + 1))] [#[.int .i64 ((pl + k : Nat) : Int)], #[.map (some mg)]] r1_11 rfl kj kj (isz (n := 32) kj ((Qaf _ _).trans (Qav hsec (k + 1)))) kj (eqsz (n := 32) ((Qaf _ _).trans (Qav hsec (k + 1))) ((Qaf _ _).trans (Qav hsec k))) (Qa0 _ _)) fun W12 p12 r1_12 => ?_
   have x12 : Qai [g, mg] w W12 := Qai.puts x11 p12 (.inl (by simp))
   refine Qac ?_
   refine hK26 _ _ ?_
   refine Qab ?_
   refine Qaa (.pointer (some ⟨g, 0, none⟩)) 68 rfl kj kj ?_
   refine Qaa (.pointer (some ⟨g, 0, none⟩)) 69 rfl kj kj ?_
   refine Qaa (.pointer (some ⟨g, 34, none⟩)) 70 rfl kj kj ?_
   refine Qaa (.int .i64 ((pl + k : Nat) : Int)) 71 rfl kj (Qal 3 _ g 34 84 _ (.int .i64 ((pl + k : Nat) : Int)) _ r1_12 rfl kj (Qat [#[.int .i64 nx], #[.int .u64 ((B ||| 2 ^ j : Nat) : Int)], ints .u8 (itV sec (k + 1))] [#[.int .i64 ((pl + k : Nat) : Int)]] [#[.map (some mg)]] 34 (by rw [Qae, Qae, Qae]; simp only [Array.size_append, cat, ((Qaf _ _).trans (Qav hsec (k + 1)))]; rfl) 0 _ rfl) kj) ?_
   refine Qaa (.int .i64 (((pl + (k + 1) : Nat) : Int))) 72 rfl kj (Qah (u := .int .i64 (IntKind.i64.wrap (((pl + k : Nat) : Int) + 1))) kj (congrArg (Value.int .i64) ((Qbo _ (by omega)).trans (by omega)))) ?_
   refine Qaa (.pointer (some ⟨g, 0, none⟩)) 73 rfl kj kj ?_
   refine Qaa (.pointer (some ⟨g, 34, none⟩)) 74 rfl kj kj ?_
   refine Qaj g _ (cat [#[.int .i64 nx], #[.int .u64 ((B ||| 2 ^ j : Nat) : Int)], ints .u8 (itV sec (k + 1)), #[.int .i64 (((pl + (k + 1) : Nat) : Int))], #[.map (some mg)]]) 84 r1_12 rfl kj (Qba 3 _ _ g 34 84 [#[.int .i64 nx], #[.int .u64 ((B ||| 2 ^ j : Nat) : Int)], ints .u8 (itV sec (k + 1))] [#[.map (some mg)]] _ (.int .i64 (((pl + (k + 1) : Nat) : Int))) r1_12 rfl kj kj kj (by rw [Qae, Qae, Qae]; simp only [Array.size_append, cat, ((Qaf _ _).trans (Qav hsec (k + 1)))]; rfl) rfl rfl) fun W13 p13 r1_13 => ?_
   have x13 : Qai [g, mg] w W13 := Qai.puts x12 p13 (.inl (by simp))
   refine Qac ?_
   have r4_11 := (Qad hes25 e11)
   have r4_12 := (Puts.row p12 r4_11 (Ne.symm hgm))
   have r4_13 := (Puts.row p13 r4_12 (Ne.symm hgm))
   repeat (first | with_reducible refine goX1 ?_ | with_reducible refine goX2 ?_ | with_reducible refine goX3 ?_)
   exact QaB (k + 1) ⟨rfl, rfl, rfl, rfl, rfl, rfl, trivial⟩ ⟨(by omega), ⟨_, _, r4_13, hM25⟩, r1_13, (Qai.puts (Qai.puts (Qai.step (Qai.puts (Qai.step (Qai.step q7 e8) e9) p10 (.inl (by simp))) e11) p12 (.inl (by simp))) p13 (.inl (by simp))), x13⟩ (by omega)
  ·skip
   refine Qab ?_
   refine Qaa (.pointer (some ⟨g, 0, none⟩)) 32 rfl kj kj ?_
   refine Qaa (.pointer (some ⟨g, 0, none⟩)) 33 rfl kj kj ?_
   refine Qaa (.pointer (some ⟨g, 34, none⟩)) 34 rfl kj kj ?_
   refine Qaa (.int .i64 ((pl + k : Nat) : Int)) 35 rfl kj (Qal 3 _ g 34 84 _ (.int .i64 ((pl + k : Nat) : Int)) _ q1_1 rfl kj (Qat [#[.int .i64 nx], #[.int .u64 ((B ||| 2 ^ j : Nat) : Int)], ints .u8 (itV sec k)] [#[.int .i64 ((pl + k : Nat) : Int)]] [#[.map (some mg)]] 34 (by rw [Qae, Qae, Qae]; simp only [Array.size_append, cat, ((Qaf _ _).trans (Qav hsec k))]; rfl) 0 _ rfl) kj) ?_
   refine Qaa (.int .i64 ((n : Nat) : Int)) 36 rfl kj kj ?_
   refine Qaa (.bool true) 37 rfl kj (Qah (u := .bool (decide (((pl + k : Nat) : Int) < ((n : Nat) : Int)))) kj (congrArg Value.bool (decide_eq_true (by omega)))) ?_
   refine Qaa (.bool true) 38 rfl kj kj ?_
   refine Qaa (.pointer (some ⟨g, 0, none⟩)) 39 rfl kj kj ?_
   refine Qaa (.pointer (some ⟨g, 0, none⟩)) 40 rfl kj kj ?_
   refine Qaa (.pointer (some ⟨g, 34, none⟩)) 41 rfl kj kj ?_
   refine Qaa (.int .i64 ((pl + k : Nat) : Int)) 42 rfl kj (Qal 3 _ g 34 84 _ (.int .i64 ((pl + k : Nat) : Int)) _ q1_1 rfl kj (Qat [#[.int .i64 nx], #[.int .u64 ((B ||| 2 ^ j : Nat) : Int)], ints .u8 (itV sec k)] [#[.int .i64 ((pl + k : Nat) : Int)]] [#[.map (some mg)]] 34 (by rw [Qae, Qae, Qae]; simp only [Array.size_append, cat, ((Qaf _ _).trans (Qav hsec k))]; rfl) 0 _ rfl) kj) ?_
   refine Qaa (.int .i64 ((n : Nat) : Int)) 43 rfl kj kj ?_
   refine Qaa (.int .i64 (((n : Nat) : Int) - 64)) 44 rfl kj (Qah (u := .int .i64 (IntKind.i64.wrap (((n : Nat) : Int) - 64))) kj (congrArg (Value.int .i64) (Qbo _ (by omega)))) ?_
   refine Qaa (.bool false) 45 rfl kj (Qah (u := .bool (decide (((pl + k : Nat) : Int) ≥ (((n : Nat) : Int) - 64)))) kj (congrArg Value.bool (decide_eq_false (by omega)))) ?_
   refine Qaa (.bool false) 46 rfl kj kj ?_
   refine Qac ?_
   refine hK23 _ _ ?_
   refine cond_false kj ?_
   refine wp_skip ?_
   refine hK22 _ _ ?_
   refine wp_seq_k fun K27 hK27 => ?_
   refine Qab ?_
   refine Qaa (.pointer (some ⟨g, 0, none⟩)) 60 rfl kj kj ?_
   refine Qaa (.pointer (some ⟨g, 0, none⟩)) 61 rfl kj kj ?_
   refine Qaa (.pointer (some ⟨g, 0, none⟩)) 62 rfl kj kj ?_
   refine Qaa (.pointer (some ⟨g, 2, none⟩)) 63 rfl kj kj ?_
   refine Qaa (.agg (ints .u8 (itV sec k))) 64 rfl kj (Qa3 23 _ g 2 84 _ _ _ q1_1 rfl kj (Qat [#[.int .i64 nx], #[.int .u64 ((B ||| 2 ^ j : Nat) : Int)]] [ints .u8 (itV sec k)] [#[.int .i64 ((pl + k : Nat) : Int)], #[.map (some mg)]] 2 kj) kj (isz (n := 32) kj ((Qaf _ _).trans (Qav hsec k)))) ?_
   have r2_2 := (Qad r2_1 e2)
   have r2_3 := (Qad r2_2 e3)
   have r2_4 := (Puts.row p4 r2_3 (Qag r2_2 l11))
   have r2_5 := (ExtB.row q5 r2_4 hcg)
   have r2_6 := (Puts.row p6 r2_5 hcm)
   have r2_7 := (Qai.row q7 r2_6 (Qan hcg (Qan hcm Qa6)))
   have r3_2 := (Qad r3_1 e2)
   have r3_3 := (Qad r3_2 e3)
   have r3_4 := (Puts.row p4 r3_3 (Qag r3_2 l11))
   have r3_5 := (ExtB.row q5 r3_4 hsg)
   have r3_6 := (Puts.row p6 r3_5 hsm)
   have r3_7 := (Qai.row q7 r3_6 (Qan hsg (Qan hsm Qa6)))
   refine Qau (.agg (ints .u8 (itV sec (k + 1)))) 46 #[.agg (ints .u8 (itV sec k))] 65 rfl kj kj (QdJ (itV sec k) tc tq _ r2_7 r3_7 (Qav hsec k) (QaU hsb k)) fun W8 e8 => ?_
   have x8 : Qai [g, mg] w W8 := Qai.step xx1 e8
   refine Qaa (.pointer (some ⟨g, 0, none⟩)) 66 rfl kj kj ?_
   refine Qaa (.pointer (some ⟨g, 2, none⟩)) 67 rfl kj kj ?_
   have r1_8 := (Qad q1_1 e8)
   refine Qaj g _ (cat [#[.int .i64 nx], #[.int .u64 ((B ||| 2 ^ j : Nat) : Int)], ints .u8 (itV sec (k + 1)), #[.int .i64 ((pl + k : Nat) : Int)], #[.map (some mg)]]) 84 r1_8 rfl kj (Qbf 23 _ _ g 2 84 [#[.int .i64 nx], #[.int .u64 ((B ||| 2 ^ j : Nat) : Int)]] [ints .u8 (itV sec k)] [ints .u8 (itV sec (k + 1))] [#[.int .i64 ((pl + k : Nat) : Int)], #[.map (some mg)]] r1_8 rfl kj kj (isz (n := 32) kj ((Qaf _ _).trans (Qav hsec (k + 1)))) kj (eqsz (n := 32) ((Qaf _ _).trans (Qav hsec (k + 1))) ((Qaf _ _).trans (Qav hsec k))) (Qa0 _ _)) fun W9 p9 r1_9 => ?_
   have x9 : Qai [g, mg] w W9 := Qai.puts x8 p9 (.inl (by simp))
   refine Qac ?_
   refine hK27 _ _ ?_
   refine Qab ?_
   refine Qaa (.pointer (some ⟨g, 0, none⟩)) 68 rfl kj kj ?_
   refine Qaa (.pointer (some ⟨g, 0, none⟩)) 69 rfl kj kj ?_
   refine Qaa (.pointer (some ⟨g, 34, none⟩)) 70 rfl kj kj ?_
   refine Qaa (.int .i64 ((pl + k : Nat) : Int)) 71 rfl kj (Qal 3 _ g 34 84 _ (.int .i64 ((pl + k : Nat) : Int)) _ r1_9 rfl kj (Qat [#[.int .i64 nx], #[.int .u64 ((B ||| 2 ^ j : Nat) : Int)], ints .u8 (itV sec (k + 1))] [#[.int .i64 ((pl + k : Nat) : Int)]] [#[.map (some mg)]] 34 (by rw [Qae, Qae, Qae]; simp only [Array.size_append, cat, ((Qaf _ _).trans (Qav hsec (k + 1)))]; rfl) 0 _ rfl) kj) ?_
   refine Qaa (.int .i64 (((pl + (k + 1) : Nat) : Int))) 72 rfl kj (Qah (u := .int .i64 (IntKind.i64.wrap (((pl + k : Nat) : Int) + 1))) kj (congrArg (Value.int .i64) ((Qbo _ (by omega)).trans (by omega)))) ?_
   refine Qaa (.pointer (some ⟨g, 0, none⟩)) 73 rfl kj kj ?_
   refine Qaa (.pointer (some ⟨g, 34, none⟩)) 74 rfl kj kj ?_
   refine Qaj g _ (cat [#[.int .i64 nx], #[.int .u64 ((B ||| 2 ^ j : Nat) : Int)], ints .u8 (itV sec (k + 1)), #[.int .i64 (((pl + (k + 1) : Nat) : Int))], #[.map (some mg)]]) 84 r1_9 rfl kj (Qba 3 _ _ g 34 84 [#[.int .i64 nx], #[.int .u64 ((B ||| 2 ^ j : Nat) : Int)], ints .u8 (itV sec (k + 1))] [#[.map (some mg)]] _ (.int .i64 (((pl + (k + 1) : Nat) : Int))) r1_9 rfl kj kj kj (by rw [Qae, Qae, Qae]; simp only [Array.size_append, cat, ((Qaf _ _).trans (Qav hsec (k + 1)))]; rfl) rfl rfl) fun W10 p10 r1_10 => ?_
   have x10 : Qai [g, mg] w W10 := Qai.puts x9 p10 (.inl (by simp))
   refine Qac ?_
   have r4_8 := (Qad hes18 e8)
   have r4_9 := (Puts.row p9 r4_8 (Ne.symm hgm))
   have r4_10 := (Puts.row p10 r4_9 (Ne.symm hgm))
   repeat (first | with_reducible refine goX1 ?_ | with_reducible refine goX2 ?_ | with_reducible refine goX3 ?_)
   exact QaB (k + 1) ⟨rfl, rfl, rfl, rfl, rfl, rfl, trivial⟩ ⟨(by omega), (by rw [Qes (by omega)]; exact ⟨_, _, r4_10, hM18⟩), r1_10, (Qai.puts (Qai.puts (Qai.step q7 e8) p9 (.inl (by simp))) p10 (.inl (by simp))), x10⟩ (by omega)
  ·skip
   refine Qab ?_
   refine Qaa (.pointer (some ⟨g, 0, none⟩)) 32 rfl kj kj ?_
   refine Qaa (.pointer (some ⟨g, 0, none⟩)) 33 rfl kj kj ?_
   refine Qaa (.pointer (some ⟨g, 34, none⟩)) 34 rfl kj kj ?_
   refine Qaa (.int .i64 ((pl + k : Nat) : Int)) 35 rfl kj (Qal 3 _ g 34 84 _ (.int .i64 ((pl + k : Nat) : Int)) _ q1_1 rfl kj (Qat [#[.int .i64 nx], #[.int .u64 ((B ||| 2 ^ j : Nat) : Int)], ints .u8 (itV sec k)] [#[.int .i64 ((pl + k : Nat) : Int)]] [#[.map (some mg)]] 34 (by rw [Qae, Qae, Qae]; simp only [Array.size_append, cat, ((Qaf _ _).trans (Qav hsec k))]; rfl) 0 _ rfl) kj) ?_
   refine Qaa (.int .i64 ((n : Nat) : Int)) 36 rfl kj kj ?_
   refine Qaa (.bool false) 37 rfl kj (Qah (u := .bool (decide (((pl + k : Nat) : Int) < ((n : Nat) : Int)))) kj (congrArg Value.bool (decide_eq_false (by omega)))) ?_
   refine Qaa (.bool false) 38 rfl kj kj ?_
   refine Qax 39 rfl kj ?_
   refine Qax 40 rfl kj ?_
   refine Qax 41 rfl kj ?_
   refine Qax 42 rfl kj ?_
   refine Qax 43 rfl kj ?_
   refine Qax 44 rfl kj ?_
   refine Qax 45 rfl kj ?_
   refine Qaa (.bool false) 46 rfl kj kj ?_
   refine Qac ?_
   refine hK23 _ _ ?_
   refine cond_false kj ?_
   refine wp_skip ?_
   refine hK22 _ _ ?_
   refine wp_seq_k fun K28 hK28 => ?_
   refine Qab ?_
   refine Qaa (.pointer (some ⟨g, 0, none⟩)) 60 rfl kj kj ?_
   refine Qaa (.pointer (some ⟨g, 0, none⟩)) 61 rfl kj kj ?_
   refine Qaa (.pointer (some ⟨g, 0, none⟩)) 62 rfl kj kj ?_
   refine Qaa (.pointer (some ⟨g, 2, none⟩)) 63 rfl kj kj ?_
   refine Qaa (.agg (ints .u8 (itV sec k))) 64 rfl kj (Qa3 23 _ g 2 84 _ _ _ q1_1 rfl kj (Qat [#[.int .i64 nx], #[.int .u64 ((B ||| 2 ^ j : Nat) : Int)]] [ints .u8 (itV sec k)] [#[.int .i64 ((pl + k : Nat) : Int)], #[.map (some mg)]] 2 kj) kj (isz (n := 32) kj ((Qaf _ _).trans (Qav hsec k)))) ?_
   have r2_2 := (Qad r2_1 e2)
   have r2_3 := (Qad r2_2 e3)
   have r2_4 := (Puts.row p4 r2_3 (Qag r2_2 l11))
   have r2_5 := (ExtB.row q5 r2_4 hcg)
   have r2_6 := (Puts.row p6 r2_5 hcm)
   have r2_7 := (Qai.row q7 r2_6 (Qan hcg (Qan hcm Qa6)))
   have r3_2 := (Qad r3_1 e2)
   have r3_3 := (Qad r3_2 e3)
   have r3_4 := (Puts.row p4 r3_3 (Qag r3_2 l11))
   have r3_5 := (ExtB.row q5 r3_4 hsg)
   have r3_6 := (Puts.row p6 r3_5 hsm)
   have r3_7 := (Qai.row q7 r3_6 (Qan hsg (Qan hsm Qa6)))
   refine Qau (.agg (ints .u8 (itV sec (k + 1)))) 46 #[.agg (ints .u8 (itV sec k))] 65 rfl kj kj (QdJ (itV sec k) tc tq _ r2_7 r3_7 (Qav hsec k) (QaU hsb k)) fun W8 e8 => ?_
   have x8 : Qai [g, mg] w W8 := Qai.step xx1 e8
   refine Qaa (.pointer (some ⟨g, 0, none⟩)) 66 rfl kj kj ?_
   refine Qaa (.pointer (some ⟨g, 2, none⟩)) 67 rfl kj kj ?_
   have r1_8 := (Qad q1_1 e8)
   refine Qaj g _ (cat [#[.int .i64 nx], #[.int .u64 ((B ||| 2 ^ j : Nat) : Int)], ints .u8 (itV sec (k + 1)), #[.int .i64 ((pl + k : Nat) : Int)], #[.map (some mg)]]) 84 r1_8 rfl kj (Qbf 23 _ _ g 2 84 [#[.int .i64 nx], #[.int .u64 ((B ||| 2 ^ j : Nat) : Int)]] [ints .u8 (itV sec k)] [ints .u8 (itV sec (k + 1))] [#[.int .i64 ((pl + k : Nat) : Int)], #[.map (some mg)]] r1_8 rfl kj kj (isz (n := 32) kj ((Qaf _ _).trans (Qav hsec (k + 1)))) kj (eqsz (n := 32) ((Qaf _ _).trans (Qav hsec (k + 1))) ((Qaf _ _).trans (Qav hsec k))) (Qa0 _ _)) fun W9 p9 r1_9 => ?_
   have x9 : Qai [g, mg] w W9 := Qai.puts x8 p9 (.inl (by simp))
   refine Qac ?_
   refine hK28 _ _ ?_
   refine Qab ?_
   refine Qaa (.pointer (some ⟨g, 0, none⟩)) 68 rfl kj kj ?_
   refine Qaa (.pointer (some ⟨g, 0, none⟩)) 69 rfl kj kj ?_
   refine Qaa (.pointer (some ⟨g, 34, none⟩)) 70 rfl kj kj ?_
   refine Qaa (.int .i64 ((pl + k : Nat) : Int)) 71 rfl kj (Qal 3 _ g 34 84 _ (.int .i64 ((pl + k : Nat) : Int)) _ r1_9 rfl kj (Qat [#[.int .i64 nx], #[.int .u64 ((B ||| 2 ^ j : Nat) : Int)], ints .u8 (itV sec (k + 1))] [#[.int .i64 ((pl + k : Nat) : Int)]] [#[.map (some mg)]] 34 (by rw [Qae, Qae, Qae]; simp only [Array.size_append, cat, ((Qaf _ _).trans (Qav hsec (k + 1)))]; rfl) 0 _ rfl) kj) ?_
   refine Qaa (.int .i64 (((pl + (k + 1) : Nat) : Int))) 72 rfl kj (Qah (u := .int .i64 (IntKind.i64.wrap (((pl + k : Nat) : Int) + 1))) kj (congrArg (Value.int .i64) ((Qbo _ (by omega)).trans (by omega)))) ?_
   refine Qaa (.pointer (some ⟨g, 0, none⟩)) 73 rfl kj kj ?_
   refine Qaa (.pointer (some ⟨g, 34, none⟩)) 74 rfl kj kj ?_
   refine Qaj g _ (cat [#[.int .i64 nx], #[.int .u64 ((B ||| 2 ^ j : Nat) : Int)], ints .u8 (itV sec (k + 1)), #[.int .i64 (((pl + (k + 1) : Nat) : Int))], #[.map (some mg)]]) 84 r1_9 rfl kj (Qba 3 _ _ g 34 84 [#[.int .i64 nx], #[.int .u64 ((B ||| 2 ^ j : Nat) : Int)], ints .u8 (itV sec (k + 1))] [#[.map (some mg)]] _ (.int .i64 (((pl + (k + 1) : Nat) : Int))) r1_9 rfl kj kj kj (by rw [Qae, Qae, Qae]; simp only [Array.size_append, cat, ((Qaf _ _).trans (Qav hsec (k + 1)))]; rfl) rfl rfl) fun W10 p10 r1_10 => ?_
   have x10 : Qai [g, mg] w W10 := Qai.puts x9 p10 (.inl (by simp))
   refine Qac ?_
   have r4_8 := (Qad hes18 e8)
   have r4_9 := (Puts.row p9 r4_8 (Ne.symm hgm))
   have r4_10 := (Puts.row p10 r4_9 (Ne.symm hgm))
   repeat (first | with_reducible refine goX1 ?_ | with_reducible refine goX2 ?_ | with_reducible refine goX3 ?_)
   exact QaB (k + 1) ⟨rfl, rfl, rfl, rfl, rfl, rfl, trivial⟩ ⟨(by omega), (by rw [Qes (by omega)]; exact ⟨_, _, r4_10, hM18⟩), r1_10, (Qai.puts (Qai.puts (Qai.step q7 e8) p9 (.inl (by simp))) p10 (.inl (by simp))), x10⟩ (by omega)
 ·skip
  have heq : k = n + 1 - pl := by have := of_decide_eq_false c21; omega
  refine wp_exit ?_
  refine hK17 _ _ ?_
  refine wp_seq_k fun K29 hK29 => ?_
  refine wp_seq_k fun K30 hK30 => ?_
  refine Qab ?_
  refine Qaa (.pointer (some ⟨g, 0, none⟩)) 75 rfl kj kj ?_
  refine Qaa (.pointer (some ⟨g, 0, none⟩)) 76 rfl kj kj ?_
  refine Qaa (.pointer (some ⟨g, 35, none⟩)) 77 rfl kj kj ?_
  refine Qaa (.map (some mg)) 78 rfl kj (Qal 82 _ g 35 84 _ (.map (some mg)) _ q1_1 rfl kj (Qat [#[.int .i64 nx], #[.int .u64 ((B ||| 2 ^ j : Nat) : Int)], ints .u8 (itV sec k), #[.int .i64 ((pl + k : Nat) : Int)]] [#[.map (some mg)]] [] 35 (by rw [Qae, Qae, Qae, Qae]; simp only [Array.size_append, cat, ((Qaf _ _).trans (Qav hsec k))]; rfl) 0 _ rfl) kj) ?_
  refine Qfr (.mapIter (some mg) cl18 #[] cl18) (fun g => .pointer (some ⟨g, 0, none⟩)) 79 rfl kj (QdQ (kt := 3) (et := 93) 82 _ rfl kj kj hes18) fun g32 W8 l32 e8 r32_8 => ?_
  have x8 : Qai [g, mg] w W8 := Qai.step xx1 e8
  have b32 : w.heap.size ≤ g32 := Nat.le_trans xx1.size l32
  have r4_8 := (Qad hes18 e8)
  have hrg0 : Qci mg g32 (nx - 1 - 64) es18 cl18 #[] W8 := Qci.start hM18 r4_8 r32_8
  refine Qac ?_
  refine hK30 _ _ ?_
  refine wp_block ?_
  have r2_2 := (Qad r2_1 e2)
  have r2_3 := (Qad r2_2 e3)
  have r2_4 := (Puts.row p4 r2_3 (Qag r2_2 l11))
  have r2_5 := (ExtB.row q5 r2_4 hcg)
  have r2_6 := (Puts.row p6 r2_5 hcm)
  have r2_7 := (Qai.row q7 r2_6 (Qan hcg (Qan hcm Qa6)))
  have n_2_32 : 2 ≠ g32 := (Qag r2_7 l32)
  have r3_2 := (Qad r3_1 e2)
  have r3_3 := (Qad r3_2 e3)
  have r3_4 := (Puts.row p4 r3_3 (Qag r3_2 l11))
  have r3_5 := (ExtB.row q5 r3_4 hsg)
  have r3_6 := (Puts.row p6 r3_5 hsm)
  have r3_7 := (Qai.row q7 r3_6 (Qan hsg (Qan hsm Qa6)))
  have n_3_32 : 1 ≠ g32 := (Qag r3_7 l32)
  have r7_2 := (Qad r7_1 e2)
  have r7_3 := (Qad r7_2 e3)
  have r7_4 := (Puts.row p4 r7_3 (Qag r7_2 l11))
  have r7_5 := (ExtB.row q5 r7_4 n_7_1)
  have r7_6 := (Puts.row p6 r7_5 n_7_4)
  have r7_7 := (Qai.row q7 r7_6 (Qan n_7_1 (Qan n_7_4 Qa6)))
  have n_7_32 : g7 ≠ g32 := (Qag r7_7 l32)
  have r11_5 := (ExtB.row q5 r11_4 n_11_1)
  have r11_6 := (Puts.row p6 r11_5 n_11_4)
  have r11_7 := (Qai.row q7 r11_6 (Qan n_11_1 (Qan n_11_4 Qa6)))
  have n_11_32 : g11 ≠ g32 := (Qag r11_7 l32)
  have n_32_1 : g32 ≠ g := (Ne.symm (Nat.ne_of_lt (Nat.lt_of_lt_of_le hl_g b32)))
  have n_32_4 : g32 ≠ mg := (Ne.symm (Nat.ne_of_lt (Nat.lt_of_lt_of_le hl_mg b32)))
  refine QaM (fun (s2 : Array Nat) => [(0, .pointer (some ⟨g, 0, none⟩)), (1, .int .i64 ((n : Nat) : Int)), (4, .pointer (some ⟨g7, 0, none⟩)), (5, .nilIface), (6, .pointer (some ⟨g11, 0, none⟩)), (79, .pointer (some ⟨g32, 0, none⟩))]) (fun (s2 : Array Nat) W => (Qci mg g32 (nx - 1 - 64) es18 cl18 s2 W) ∧ (Qai [mg, g32] W8 W) ∧ (Qai [g, mg] w W)) (fun (s2 : Array Nat) => rmu es18 s2) #[] ⟨rfl, rfl, rfl, rfl, rfl, rfl, trivial⟩ ⟨hrg0, (Qai.refl [mg, g32] W8), x8⟩ fun s2 X2 V2 hI2 => ?_
  obtain ⟨sn, hs2⟩ : ∃ z, z = s2 := ⟨_, rfl⟩
  subst hs2
  obtain ⟨hrg, kk2, xx2⟩ := hI2
  replace hrg : Qci mg g32 (nx - 1 - 64) es18 cl18 sn V2 := hrg
  replace kk2 : Qai [mg, g32] W8 V2 := kk2
  replace xx2 : Qai [g, mg] w V2 := xx2
  have q9 := kk2
  refine wp_seq_k fun K33 hK33 => ?_
  refine Qab ?_
  refine Qey (.tmp 79) hM18 rfl kj hrg 80 rfl kj (fun hmp => ?_) (fun e y WN hy pN hst hen => ?_)
  ·skip
   obtain ⟨es34, cl34, hes34, hM34⟩ := id hmp
   refine Qaa (.bool false) 81 rfl kj kj ?_
   refine Qac ?_
   refine hK33 _ _ ?_
   refine wp_seq_k fun K35 hK35 => ?_
   refine cond_false kj ?_
   refine wp_exit ?_
   refine hK29 _ _ ?_
   refine wp_seq_k fun K36 hK36 => ?_
   refine Qab ?_
   have r11_8 := (Qad r11_7 e8)
   have r11_9 := (Qai.row q9 r11_8 (Qan n_11_4 (Qan n_11_32 Qa6)))
   refine Qaa (.agg (cat [#[.int .i64 ((n : Nat) : Int)], ints .u8 ((lget ms ((n : Nat) : Int)).take 32), #[.slice a10_ (((lget ms ((n : Nat) : Int)).drop 32).length) c10_]])) 96 rfl kj (Qay 40 _ g11 40 _ _ r11_9 rfl kj kj (isz (n := 34) kj (by rw [Qae, Qae, Qae]; simp only [Array.size_append, cat, ((Qaf _ _).trans (QaG (QbN hmo _).1))]; rfl))) ?_
   have r7_8 := (Qad r7_7 e8)
   have r7_9 := (Qai.row q9 r7_8 (Qan n_7_4 (Qan n_7_32 Qa6)))
   refine Qaj g7 _ (cat [#[.int .i64 ((n : Nat) : Int)], ints .u8 ((lget ms ((n : Nat) : Int)).take 32), #[.slice a10_ (((lget ms ((n : Nat) : Int)).drop 32).length) c10_]]) 40 r7_9 rfl kj (Qap 40 _ _ g7 40 _ _ r7_9 rfl kj kj (isz (n := 34) kj (by rw [Qae, Qae, Qae]; simp only [Array.size_append, cat, ((Qaf _ _).trans (QaG (QbN hmo _).1))]; rfl)) (eqsz (n := 34) (by rw [Qae, Qae, Qae]; simp only [Array.size_append, cat, ((Qaf _ _).trans (List.length_replicate (n := 32)))]; rfl) (by rw [Qae, Qae, Qae]; simp only [Array.size_append, cat, ((Qaf _ _).trans (QaG (QbN hmo _).1))]; rfl)) (QaY _ (by intro a ha; simp only [List.mem_cons, List.not_mem_nil, or_false] at ha; rcases ha with rfl | rfl | rfl; exact (QaA _ rfl); exact (Qa0 _ _); exact (QaA _ rfl)))) fun W10 p10 r7_10 => ?_
   have x10 : Qai [g, mg] w W10 := Qai.puts xx2 p10 (.inr b7)
   refine Qaa (.nilIface) 5 rfl kj kj ?_
   refine Qac ?_
   refine hK36 _ _ ?_
   refine wp_ret ?_
   repeat (first | with_reducible refine goR1 ?_ | with_reducible refine goR2 ?_)
   have r1_8 := (Qad q1_1 e8)
   have r1_9 := (Qai.row q9 r1_8 (Qan hgm (Qan (Ne.symm n_32_1) Qa6)))
   have r1_10 := (Puts.row p10 r1_9 (Ne.symm n_7_1))
   have r4_10 := (Puts.row p10 hes34 (Ne.symm n_7_4))
   have f37_3 := (hu10.ext e3)
   have f38_4 := (f37_3.puts p4 (Qf3 hu10 l11))
   have f39_5 := (Qfy f38_4 q5 nbg)
   have f40_6 := (f39_5.puts p6 nbm)
   have f41_7 := (OwnN.keepsL f40_6 q7 (Qcr nbg (Qcr nbm Qf2)))
   have f42_8 := (f41_7.ext e8)
   have f43_9 := (OwnN.keepsL f42_8 q9 (Qcr nbm (Qcr (Qf3 f41_7 l32) Qf2)))
   have f44_10 := (f43_9.puts p10 (Qcq hu10 (Qar r7_1)))
   exact (show bodyPost _ _ _ .ret _ _ from ret2 (.agg (cat [#[.int .i64 ((n : Nat) : Int)], ints .u8 ((lget ms ((n : Nat) : Int)).take 32), #[.slice a10_ (((lget ms ((n : Nat) : Int)).drop 32).length) c10_]])) (.nilIface) rfl (QaL g7 40 _ r7_10 kj kj (isz (n := 34) kj (by rw [Qae, Qae, Qae]; simp only [Array.size_append, cat, ((Qaf _ _).trans (QaG (QbN hmo _).1))]; rfl))) (Qa9 kj) ⟨_, rfl, x10, (by rw [← heq]; exact r1_10), (by have h9 : MpAt mg _ _ := ⟨_, _, r4_10, hM34⟩; rw [Qc0 (fun x => decide ((nx - 1 - 64) ≤ x))] at h9; rw [← heq]; exact h9), _, rfl, OwnN.base x1.size f44_10⟩)
  ·skip
   have p10 := pN
   have x10 : Qai [g, mg] w WN := Qai.puts xx2 p10 (.inr b32)
   refine Qaa (.bool true) 81 rfl kj kj ?_
   refine Qac ?_
   refine hK33 _ _ ?_
   refine wp_seq_k fun K45 hK45 => ?_
   refine cond_true kj ?_
   refine wp_skip ?_
   refine hK45 _ _ ?_
   refine wp_block ?_
   refine wp_seq_k fun K46 hK46 => ?_
   refine Qab ?_
   refine Qaa (.tuple #[.int .i64 y, e.val]) 82 rfl kj (QdR _ rfl kj hen) ?_
   refine Qaa (.int .i64 y) 83 rfl kj kj ?_
   refine Qaa (.int .i64 y) 8 rfl kj kj ?_
   refine Qac ?_
   refine hK46 _ _ ?_
   refine wp_seq_k fun K47 hK47 => ?_
   refine Qab ?_
   refine Qaa (.int .i64 y) 84 rfl kj kj ?_
   refine Qaa (.pointer (some ⟨g, 0, none⟩)) 85 rfl kj kj ?_
   refine Qaa (.pointer (some ⟨g, 0, none⟩)) 86 rfl kj kj ?_
   refine Qaa (.pointer (some ⟨g, 0, none⟩)) 87 rfl kj kj ?_
   have r1_8 := (Qad q1_1 e8)
   have r1_9 := (Qai.row q9 r1_8 (Qan hgm (Qan (Ne.symm n_32_1) Qa6)))
   have r1_10 := (Puts.row p10 r1_9 (Ne.symm n_32_1))
   refine Qau (.int .i64 (nx - 1)) 47 #[.pointer (some ⟨g, 0, none⟩)] 88 rfl kj kj (QfM g (nx) (B ||| 2 ^ j) hnx (Qfz _ _ hB (Qfw j hj2)) _ _ mg (Qav hsec k) _ r1_10) fun W11 e11 => ?_
   have x11 : Qai [g, mg] w W11 := Qai.step x10 e11
   refine Qaa (.int .i64 (nx - 1 - 64)) 89 rfl kj (Qah (u := .int .i64 (IntKind.i64.wrap ((nx - 1) - 64))) kj (congrArg (Value.int .i64) (Qbo _ (by omega)))) ?_
   refine Qaa (.bool (decide (y < (nx - 1 - 64)))) 90 rfl kj kj ?_
   refine Qac ?_
   refine hK47 _ _ ?_
   refine QaE (t := decide (y < (nx - 1 - 64))) kj (fun c48 => ?_) (fun c48 => ?_)
   ·skip
    have hcut : (y < (nx - 1 - 64)) := of_decide_eq_true c48
    refine Qab ?_
    refine Qaa (.pointer (some ⟨g, 0, none⟩)) 91 rfl kj kj ?_
    refine Qaa (.pointer (some ⟨g, 0, none⟩)) 92 rfl kj kj ?_
    refine Qaa (.pointer (some ⟨g, 35, none⟩)) 93 rfl kj kj ?_
    have r1_11 := (Qad r1_10 e11)
    refine Qaa (.map (some mg)) 94 rfl kj (Qal 82 _ g 35 84 _ (.map (some mg)) _ r1_11 rfl kj (Qat [#[.int .i64 nx], #[.int .u64 ((B ||| 2 ^ j : Nat) : Int)], ints .u8 (itV sec k), #[.int .i64 ((pl + k : Nat) : Int)]] [#[.map (some mg)]] [] 35 (by rw [Qae, Qae, Qae, Qae]; simp only [Array.size_append, cat, ((Qaf _ _).trans (Qav hsec k))]; rfl) 0 _ rfl) kj) ?_
    refine Qaa (.int .i64 y) 95 rfl kj kj ?_
    refine Qe0 (kt := 3) (et := 93) (.tmp 94) (.tmp 95) 82 hM18 rfl kj kj kj kj (Qec hst e11) hy hcut rfl kj fun W12 p12 hrg2 => ?_
    have x12 : Qai [g, mg] w W12 := Qai.puts x11 p12 (.inl (by simp))
    refine Qac ?_
    repeat (first | with_reducible refine goX1 ?_ | with_reducible refine goX2 ?_ | with_reducible refine goX3 ?_)
    exact QaB (sn.push e.born) ⟨rfl, rfl, rfl, rfl, rfl, rfl, trivial⟩ ⟨hrg2, (Qai.puts (Qai.step (Qai.puts q9 p10 (.inl (by simp))) e11) p12 (.inl (by simp))), x12⟩ (Qcw.mu hst)
   ·skip
    have hcut : ¬ (y < (nx - 1 - 64)) := of_decide_eq_false c48
    refine wp_skip ?_
    repeat (first | with_reducible refine goX1 ?_ | with_reducible refine goX2 ?_ | with_reducible refine goX3 ?_)
    exact QaB (sn.push e.born) ⟨rfl, rfl, rfl, rfl, rfl, rfl, trivial⟩ ⟨(Qcw.stay hM18 (Qec hst e11) (by rw [QgN hy]; exact decide_eq_true (Int.not_lt.1 hcut))), (Qai.step (Qai.puts q9 p10 (.inl (by simp))) e11), x11⟩ (Qcw.mu hst)
set_option maxHeartbeats 4000000 in
theorem Qjb (g : Nat) (nx : Int) (B : Nat) (hnx : 0 ≤ nx ∧ nx ≤ 4294967295) (hB : B < 18446744073709551616) (sec : List Int) (pl mg : Nat) (hsec : sec.length = 32) (w : World) (hg : w.heap[g]? = some (.cells (cat [#[.int .i64 nx], #[.int .u64 ((B : Nat) : Int)], ints .u8 (sec), #[.int .i64 ((pl : Nat) : Int)], #[.map (some mg)]]) 84)) (ms : List (Int × List Int)) (hmo : MsOk ms) (hmp : MpAt mg (ms.map mpv) w) (tc tq : TypeId) (hc : w.heap[2]? = some (.cells (ints .u64 QaD) tc)) (hq : w.heap[1]? = some (.cells (ints .u64 Qam) tq)) (hsb : Qao sec) (n : Nat) (hm : n ≤ 4294967294) (hp : pl ≤ 4294967295) (hlt0 : ∀ p ∈ ms, p.1 < ((pl : Nat) : Int)) (hcg : 2 ≠ g) (hsg : 1 ≠ g) (hc0 : chkW nx B ((n : Nat) : Int) = 0) (hn : pl ≤ n) (a : Nat) (ha : ((n : Nat) : Int) - (nx - 1) = (a : Int)) (ha1 : 1 ≤ a) : Calls Tryd.prog 33 #[.pointer (some ⟨g, 0, none⟩), .int .i64 ((n : Nat) : Int)] w (fun e W => ∃ v, e = .returned (.tuple #[v, .nilIface]) ∧ Qai [g, mg] w W ∧ W.heap[g]? = some (.cells (cat [#[.int .i64 (((n : Nat) : Int) + 1)], #[.int .u64 ((B * 2 ^ a % 18446744073709551616 ||| 1 * 2 ^ (a - 1) % 18446744073709551616 : Nat) : Int)], ints .u8 (itV sec (n + 1 - pl)), #[.int .i64 ((pl + (n + 1 - pl) : Nat) : Int)], #[.map (some mg)]]) 84) ∧ MpAt mg ((Qgi ((msNo ms ((n : Nat) : Int)) ++ Qb2 sec pl n (n + 1 - pl)) (((n : Nat) : Int) + 1 - 1 - 64)).map mpv) W ∧ QbO w.heap.size ((n : Nat) : Int) (keyV (itV sec (n - pl))) v W) := by
 have hcm := MpAt.ne hmp hc
 have hsm := MpAt.ne hmp hq
 have hgm := MpAt.ne hmp hg
 have hl_g := Qar hg
 have hl_mg := MpAt.lt hmp
 obtain ⟨es5, cl5, hes5, hM5⟩ := id hmp
 refine enter 97 [(0, .pointer (some ⟨g, 0, none⟩)), (1, .int .i64 ((n : Nat) : Int))] Tryd.func33 rfl rfl kj rfl ?_
 refine wp_seq_k fun K6 hK6 => ?_
 refine Qab ?_
 refine Qas (cat [#[.int .i64 0], ints .u8 (List.replicate 32 0), #[.slice none 0 0]]) 40 4 rfl kj kj fun g7 W1 l7 e1 r7_1 => ?_
 have x1 : Qai [g, mg] w W1 := Qai.step (Qai.refl [g, mg] w) e1
 have b7 : w.heap.size ≤ g7 := Nat.le_trans (Qai.refl [g, mg] w).size l7
 refine Qaa (.nilIface) 5 rfl kj kj ?_
 refine Qac ?_
 refine hK6 _ _ ?_
 refine wp_seq_k fun K8 hK8 => ?_
 refine Qab ?_
 refine Qaa (.pointer (some ⟨g, 0, none⟩)) 9 rfl kj kj ?_
 refine Qaa (.int .i64 ((n : Nat) : Int)) 10 rfl kj kj ?_
 have r2_1 := (Qad hc e1)
 have r3_1 := (Qad hq e1)
 have r1_1 := (Qad hg e1)
 have r4_1 := (Qad hes5 e1)
 refine Qa8 (fun v W' => (QbO W1.heap.size ((n : Nat) : Int) (keyV (itV sec (n - pl)))) v W' ∧ Ext W1 W') 34 #[.pointer (some ⟨g, 0, none⟩), .int .i64 ((n : Nat) : Int)] 11 rfl kj kj ((Qil g nx B hnx hB sec pl mg hsec _ r1_1 ms hmo ⟨_, _, r4_1, hM5⟩ tc tq r2_1 r3_1 hsb n hp hm (by omega)).mono (by rintro e w' ⟨v, rfl, e1, hv⟩; exact ⟨v, rfl, hv, e1⟩)) fun vv9 W2 hh9 => ?_
 obtain ⟨hv9, e2⟩ := hh9
 have x2 : Qai [g, mg] w W2 := Qai.step x1 e2
 obtain ⟨u10, rfl, hu10⟩ := hv9
 obtain ⟨a10_, c10_, rfl, -⟩ := id (OwnN.rd hu10)
 have nbg := Qcq hu10 (Qar r1_1)
 have nbm := Qcq hu10 (Qar r4_1)
 refine Qas (cat [#[.int .i64 0], ints .u8 (List.replicate 32 0), #[.slice none 0 0]]) 40 6 rfl kj kj fun g11 W3 l11 e3 r11_3 => ?_
 have x3 : Qai [g, mg] w W3 := Qai.step x2 e3
 have b11 : w.heap.size ≤ g11 := Nat.le_trans x2.size l11
 refine Qaj g11 _ (cat [#[.int .i64 ((n : Nat) : Int)], ints .u8 ((keyV (itV sec (n - pl))).take 32), #[.slice a10_ (((keyV (itV sec (n - pl))).drop 32).length) c10_]]) 40 r11_3 rfl kj (Qap 40 _ _ g11 40 _ _ r11_3 rfl kj kj (isz (n := 34) kj (by rw [Qae, Qae, Qae]; simp only [Array.size_append, cat, ((Qaf _ _).trans (QaG (Qa7 _)))]; rfl)) (eqsz (n := 34) (by rw [Qae, Qae, Qae]; simp only [Array.size_append, cat, ((Qaf _ _).trans (List.length_replicate (n := 32)))]; rfl) (by rw [Qae, Qae, Qae]; simp only [Array.size_append, cat, ((Qaf _ _).trans (QaG (Qa7 _)))]; rfl)) (QaY _ (by intro a ha; simp only [List.mem_cons, List.not_mem_nil, or_false] at ha; rcases ha with rfl | rfl | rfl; exact (QaA _ rfl); exact (Qa0 _ _); exact (QaA _ rfl)))) fun W4 p4 r11_4 => ?_
 have x4 : Qai [g, mg] w W4 := Qai.puts x3 p4 (.inr b11)
 refine Qac ?_
 refine hK8 _ _ ?_
 refine wp_seq_k fun K12 hK12 => ?_
 refine wp_seq_k fun K13 hK13 => ?_
 refine Qab ?_
 refine Qaa (.pointer (some ⟨g, 0, none⟩)) 12 rfl kj kj ?_
 refine Qaa (.pointer (some ⟨g, 0, none⟩)) 13 rfl kj kj ?_
 refine Qaa (.pointer (some ⟨g, 0, none⟩)) 14 rfl kj kj ?_
 refine Qaa (.int .i64 ((n : Nat) : Int)) 15 rfl kj kj ?_
 have r1_2 := (Qad r1_1 e2)
 have r1_3 := (Qad r1_2 e3)
 have r1_4 := (Puts.row p4 r1_3 (Nat.ne_of_lt (Nat.lt_of_lt_of_le hl_g b11)))
 refine Qa8 (fun v W' => v = .nilIface ∧ ExtB g W4 W' ∧ W'.heap[g]? = some (.cells (cat [#[.int .i64 (((n : Nat) : Int) + 1)], #[.int .u64 ((B * 2 ^ a % 18446744073709551616 ||| 1 * 2 ^ (a - 1) % 18446744073709551616 : Nat) : Int)], ints .u8 (sec), #[.int .i64 ((pl : Nat) : Int)], #[.map (some mg)]]) 84)) 44 #[.pointer (some ⟨g, 0, none⟩), .int .i64 ((n : Nat) : Int)] 16 rfl kj kj ((Qkc g nx B ((n : Nat) : Int) hnx hB sec pl mg hsec _ r1_4 hc0 (by omega) a ha ha1).mono fun e w' ⟨h1, h2, h3⟩ => ⟨_, h1, rfl, h2, h3⟩) fun v W5 h => ?_
 obtain ⟨rfl, q5, r1_5⟩ := h
 have x5 : Qai [g, mg] w W5 := Qai.but x4 q5 (.inl (by simp))
 refine Qaa (.nilIface) 7 rfl kj kj ?_
 refine Qac ?_
 refine hK13 _ _ ?_
 refine wp_seq_k fun K14 hK14 => ?_
 refine Qab ?_
 refine Qaa (.nilIface) 17 rfl kj kj ?_
 refine Qaa (.bool false) 18 rfl kj kj ?_
 refine Qac ?_
 refine hK14 _ _ ?_
 refine cond_false kj ?_
 refine wp_skip ?_
 refine hK12 _ _ ?_
 refine wp_seq_k fun K15 hK15 => ?_
 refine Qab ?_
 refine Qaa (.pointer (some ⟨g, 0, none⟩)) 21 rfl kj kj ?_
 refine Qaa (.pointer (some ⟨g, 0, none⟩)) 22 rfl kj kj ?_
 refine Qaa (.pointer (some ⟨g, 35, none⟩)) 23 rfl kj kj ?_
 refine Qaa (.map (some mg)) 24 rfl kj (Qal 82 _ g 35 84 _ (.map (some mg)) _ r1_5 rfl kj (Qat [#[.int .i64 (((n : Nat) : Int) + 1)], #[.int .u64 ((B * 2 ^ a % 18446744073709551616 ||| 1 * 2 ^ (a - 1) % 18446744073709551616 : Nat) : Int)], ints .u8 (sec), #[.int .i64 ((pl : Nat) : Int)]] [#[.map (some mg)]] [] 35 (by rw [Qae, Qae, Qae, Qae]; simp only [Array.size_append, cat, ((Qaf _ _).trans hsec)]; rfl) 0 _ rfl) kj) ?_
 refine Qaa (.int .i64 ((n : Nat) : Int)) 25 rfl kj kj ?_
 have r4_2 := (Qad r4_1 e2)
 have r4_3 := (Qad r4_2 e3)
 have r4_4 := (Puts.row p4 r4_3 (Nat.ne_of_lt (Nat.lt_of_lt_of_le hl_mg b11)))
 have r4_5 := (ExtB.row q5 r4_4 (Ne.symm hgm))
 refine Qfs (n := ((n : Nat) : Int)) (.tmp 24) (.tmp 25) 82 (kt := 3) (et := 93) rfl kj kj kj kj ⟨_, _, r4_5, hM5⟩ rfl kj fun W6 p6 hmp => ?_
 have x6 : Qai [g, mg] w W6 := Qai.puts x5 p6 (.inl (by simp))
 replace hmp : MpAt mg ((msNo ms ((n : Nat) : Int)).map mpv) W6 := by have h9 := hmp; rw [Qc0 (fun x => x != ((n : Nat) : Int))] at h9; exact h9
 obtain ⟨es16, cl16, hes16, hM16⟩ := id hmp
 refine Qac ?_
 refine hK15 _ _ ?_
 refine wp_seq_k fun K17 hK17 => ?_
 refine wp_block ?_
 have n_7_1 : g7 ≠ g := (Ne.symm (Nat.ne_of_lt (Nat.lt_of_lt_of_le hl_g b7)))
 have n_7_4 : g7 ≠ mg := (Ne.symm (Nat.ne_of_lt (Nat.lt_of_lt_of_le hl_mg b7)))
 have n_11_1 : g11 ≠ g := (Ne.symm (Nat.ne_of_lt (Nat.lt_of_lt_of_le hl_g b11)))
 have n_11_4 : g11 ≠ mg := (Ne.symm (Nat.ne_of_lt (Nat.lt_of_lt_of_le hl_mg b11)))
 have r1_6 := (Puts.row p6 r1_5 hgm)
 refine QaM (fun (s1 : Nat) => [(0, .pointer (some ⟨g, 0, none⟩)), (1, .int .i64 ((n : Nat) : Int)), (4, .pointer (some ⟨g7, 0, none⟩)), (5, .nilIface), (6, .pointer (some ⟨g11, 0, none⟩)), (7, .nilIface)]) (fun (s1 : Nat) W => (s1 ≤ n + 1 - pl) ∧ (MpAt mg (((msNo ms ((n : Nat) : Int)) ++ Qb2 sec pl n s1).map mpv) W) ∧ (W.heap[g]? = some (.cells (cat [#[.int .i64 (((n : Nat) : Int) + 1)], #[.int .u64 ((B * 2 ^ a % 18446744073709551616 ||| 1 * 2 ^ (a - 1) % 18446744073709551616 : Nat) : Int)], ints .u8 (itV sec s1), #[.int .i64 ((pl + s1 : Nat) : Int)], #[.map (some mg)]]) 84)) ∧ (Qai [g, mg] W6 W) ∧ (Qai [g, mg] w W)) (fun (s1 : Nat) => n + 1 - pl - s1) 0 ⟨rfl, rfl, rfl, rfl, rfl, rfl, trivial⟩ ⟨(Nat.zero_le _), (by show MpAt mg (((msNo ms ((n : Nat) : Int)) ++ []).map mpv) _; rw [List.append_nil]; exact ⟨_, _, hes16, hM16⟩), r1_6, (Qai.refl [g, mg] W6), x6⟩ fun s1 X1 V1 hI1 => ?_
 obtain ⟨k, hs1⟩ : ∃ z, z = s1 := ⟨_, rfl⟩
 subst hs1
 obtain ⟨hk, hmp, q1_1, kk1, xx1⟩ := hI1
 replace hk : k ≤ n + 1 - pl := hk
 replace hmp : MpAt mg (((msNo ms ((n : Nat) : Int)) ++ Qb2 sec pl n k).map mpv) V1 := hmp
 replace q1_1 : V1.heap[g]? = some (.cells (cat [#[.int .i64 (((n : Nat) : Int) + 1)], #[.int .u64 ((B * 2 ^ a % 18446744073709551616 ||| 1 * 2 ^ (a - 1) % 18446744073709551616 : Nat) : Int)], ints .u8 (itV sec k), #[.int .i64 ((pl + k : Nat) : Int)], #[.map (some mg)]]) 84) := q1_1
 replace kk1 : Qai [g, mg] W6 V1 := kk1
 replace xx1 : Qai [g, mg] w V1 := xx1
 have q7 := kk1
 obtain ⟨es18, cl18, hes18, hM18⟩ := id hmp
 have hkp : pl + k ≤ 4294967295 := by omega
 refine wp_seq_k fun K19 hK19 => ?_
 refine wp_seq_k fun K20 hK20 => ?_
 refine Qab ?_
 refine Qaa (.pointer (some ⟨g, 0, none⟩)) 26 rfl kj kj ?_
 refine Qaa (.pointer (some ⟨g, 0, none⟩)) 27 rfl kj kj ?_
 refine Qaa (.pointer (some ⟨g, 34, none⟩)) 28 rfl kj kj ?_
 refine Qaa (.int .i64 ((pl + k : Nat) : Int)) 29 rfl kj (Qal 3 _ g 34 84 _ (.int .i64 ((pl + k : Nat) : Int)) _ q1_1 rfl kj (Qat [#[.int .i64 (((n : Nat) : Int) + 1)], #[.int .u64 ((B * 2 ^ a % 18446744073709551616 ||| 1 * 2 ^ (a - 1) % 18446744073709551616 : Nat) : Int)], ints .u8 (itV sec k)] [#[.int .i64 ((pl + k : Nat) : Int)]] [#[.map (some mg)]] 34 (by rw [Qae, Qae, Qae]; simp only [Array.size_append, cat, ((Qaf _ _).trans (Qav hsec k))]; rfl) 0 _ rfl) kj) ?_
 refine Qaa (.int .i64 ((n : Nat) : Int)) 30 rfl kj kj ?_
 refine Qaa (.bool (decide (((pl + k : Nat) : Int) ≤ ((n : Nat) : Int)))) 31 rfl kj kj ?_
 refine Qac ?_
 refine hK20 _ _ ?_
 refine QaE (t := decide (((pl + k : Nat) : Int) ≤ ((n : Nat) : Int))) kj (fun c21 => ?_) (fun c21 => ?_)
 ·skip
  have hlt : pl + k ≤ n := by have := of_decide_eq_true c21; omega
  refine wp_skip ?_
  refine hK19 _ _ ?_
  refine wp_block ?_
  refine wp_seq_k fun K22 hK22 => ?_
  refine wp_seq_k fun K23 hK23 => ?_
  rcases (show (pl + k < n ∧ n ≤ pl + k + 64) ∨ (pl + k < n ∧ pl + k + 64 < n) ∨ pl + k = n by omega) with hcc | hcc | hcc
  ·skip
   refine Qab ?_
   refine Qaa (.pointer (some ⟨g, 0, none⟩)) 32 rfl kj kj ?_
   refine Qaa (.pointer (some ⟨g, 0, none⟩)) 33 rfl kj kj ?_
   refine Qaa (.pointer (some ⟨g, 34, none⟩)) 34 rfl kj kj ?_
   refine Qaa (.int .i64 ((pl + k : Nat) : Int)) 35 rfl kj (Qal 3 _ g 34 84 _ (.int .i64 ((pl + k : Nat) : Int)) _ q1_1 rfl kj (Qat [#[.int .i64 (((n : Nat) : Int) + 1)], #[.int .u64 ((B * 2 ^ a % 18446744073709551616 ||| 1 * 2 ^ (a - 1) % 18446744073709551616 : Nat) : Int)], ints .u8 (itV sec k)] [#[.int .i64 ((pl + k : Nat) : Int)]] [#[.map (some mg)]] 34 (by rw [Qae, Qae, Qae]; simp only [Array.size_append, cat, ((Qaf _ _).trans (Qav hsec k))]; rfl) 0 _ rfl) kj) ?_
   refine Qaa (.int .i64 ((n : Nat) : Int)) 36 rfl kj kj ?_
   refine Qaa (.bool true) 37 rfl kj (Qah (u := .bool (decide (((pl + k : Nat) : Int) < ((n : Nat) : Int)))) kj (congrArg Value.bool (decide_eq_true (by omega)))) ?_
   refine Qaa (.bool true) 38 rfl kj kj ?_
   refine Qaa (.pointer (some ⟨g, 0, none⟩)) 39 rfl kj kj ?_
   refine Qaa (.pointer (some ⟨g, 0, none⟩)) 40 rfl kj kj ?_
   refine Qaa (.pointer (some ⟨g, 34, none⟩)) 41 rfl kj kj ?_
   refine Qaa (.int .i64 ((pl + k : Nat) : Int)) 42 rfl kj (Qal 3 _ g 34 84 _ (.int .i64 ((pl + k : Nat) : Int)) _ q1_1 rfl kj (Qat [#[.int .i64 (((n : Nat) : Int) + 1)], #[.int .u64 ((B * 2 ^ a % 18446744073709551616 ||| 1 * 2 ^ (a - 1) % 18446744073709551616 : Nat) : Int)], ints .u8 (itV sec k)] [#[.int .i64 ((pl + k : Nat) : Int)]] [#[.map (some mg)]] 34 (by rw [Qae, Qae, Qae]; simp only [Array.size_append, cat, ((Qaf _ _).trans (Qav hsec k))]; rfl) 0 _ rfl) kj) ?_
   refine Qaa (.int .i64 ((n : Nat) : Int)) 43 rfl kj kj ?_
   refine Qaa (.int .i64 (((n : Nat) : Int) - 64)) 44 rfl kj (Qah (u := .int .i64 (IntKind.i64.wrap (((n : Nat) : Int) - 64))) kj (congrArg (Value.int .i64) (Qbo _ (by omega)))) ?_
   refine Qaa (.bool true) 45 rfl kj (Qah (u := .bool (decide (((pl + k : Nat) : Int) ≥ (((n : Nat) : Int) - 64)))) kj (congrArg Value.bool (decide_eq_true (by omega)))) ?_
   refine Qaa (.bool true) 46 rfl kj kj ?_
   refine Qac ?_
   refine hK23 _ _ ?_
   refine cond_true kj ?_
   refine Go.Proofs.YtibegnjaphohaaaDoor.Wm.region_walkM (fun W => W.heap[g]? = some (.cells (cat [#[.int .i64 (((n : Nat) : Int) + 1)], #[.int .u64 ((B * 2 ^ a % 18446744073709551616 ||| 1 * 2 ^ (a - 1) % 18446744073709551616 : Nat) : Int)], ints .u8 (itV sec k), #[.int .i64 ((pl + k : Nat) : Int)], #[.map (some mg)]]) 84)) 13 kj fun W8 e8 => ⟨Qad q1_1 e8, ?_⟩
   have x8 : Qai [g, mg] w W8 := Qai.step xx1 e8
   refine Go.Proofs.YtibegnjaphohaaaDoor.Wm.wm_val 0 (.pointer (some ⟨g, 0, none⟩)) 47 rfl rfl kj kj (by decide) kj (fun _ _ _ h => h) (fun W hR => by kernel_rfl) ?_
   refine Go.Proofs.YtibegnjaphohaaaDoor.Wm.wm_val 1 (.pointer (some ⟨g, 0, none⟩)) 48 rfl rfl kj kj (by decide) kj (fun _ _ _ h => h) (fun W hR => by kernel_rfl) ?_
   refine Go.Proofs.YtibegnjaphohaaaDoor.Wm.wm_val 2 (.pointer (some ⟨g, 35, none⟩)) 49 rfl rfl kj kj (by decide) kj (fun _ _ _ h => h) (fun W hR => by kernel_rfl) ?_
   refine Go.Proofs.YtibegnjaphohaaaDoor.Wm.wm_val 3 (.map (some mg)) 50 rfl rfl kj kj (by decide) kj (fun _ _ _ h => h) (fun W hR => (Qal 82 _ g 35 84 _ (.map (some mg)) _ hR rfl kj (Qat [#[.int .i64 (((n : Nat) : Int) + 1)], #[.int .u64 ((B * 2 ^ a % 18446744073709551616 ||| 1 * 2 ^ (a - 1) % 18446744073709551616 : Nat) : Int)], ints .u8 (itV sec k), #[.int .i64 ((pl + k : Nat) : Int)]] [#[.map (some mg)]] [] 35 (by rw [Qae, Qae, Qae, Qae]; simp only [Array.size_append, cat, ((Qaf _ _).trans (Qav hsec k))]; rfl) 0 _ rfl) kj)) ?_
   refine Go.Proofs.YtibegnjaphohaaaDoor.Wm.wm_val 4 (.pointer (some ⟨g, 0, none⟩)) 51 rfl rfl kj kj (by decide) kj (fun _ _ _ h => h) (fun W hR => by kernel_rfl) ?_
   refine Go.Proofs.YtibegnjaphohaaaDoor.Wm.wm_val 5 (.pointer (some ⟨g, 0, none⟩)) 52 rfl rfl kj kj (by decide) kj (fun _ _ _ h => h) (fun W hR => by kernel_rfl) ?_
   refine Go.Proofs.YtibegnjaphohaaaDoor.Wm.wm_val 6 (.pointer (some ⟨g, 34, none⟩)) 53 rfl rfl kj kj (by decide) kj (fun _ _ _ h => h) (fun W hR => by kernel_rfl) ?_
   refine Go.Proofs.YtibegnjaphohaaaDoor.Wm.wm_val 7 (.int .i64 ((pl + k : Nat) : Int)) 54 rfl rfl kj kj (by decide) kj (fun _ _ _ h => h) (fun W hR => (Qal 3 _ g 34 84 _ (.int .i64 ((pl + k : Nat) : Int)) _ hR rfl kj (Qat [#[.int .i64 (((n : Nat) : Int) + 1)], #[.int .u64 ((B * 2 ^ a % 18446744073709551616 ||| 1 * 2 ^ (a - 1) % 18446744073709551616 : Nat) : Int)], ints .u8 (itV sec k)] [#[.int .i64 ((pl + k : Nat) : Int)]] [#[.map (some mg)]] 34 (by rw [Qae, Qae, Qae]; simp only [Array.size_append, cat, ((Qaf _ _).trans (Qav hsec k))]; rfl) 0 _ rfl) kj)) ?_
   refine Go.Proofs.YtibegnjaphohaaaDoor.Wm.wm_val 8 (.pointer (some ⟨g, 0, none⟩)) 55 rfl rfl kj kj (by decide) kj (fun _ _ _ h => h) (fun W hR => by kernel_rfl) ?_
   refine Go.Proofs.YtibegnjaphohaaaDoor.Wm.wm_val 9 (.pointer (some ⟨g, 0, none⟩)) 56 rfl rfl kj kj (by decide) kj (fun _ _ _ h => h) (fun W hR => by kernel_rfl) ?_
   refine Go.Proofs.YtibegnjaphohaaaDoor.Wm.wm_val 10 (.pointer (some ⟨g, 2, none⟩)) 57 rfl rfl kj kj (by decide) kj (fun _ _ _ h => h) (fun W hR => by kernel_rfl) ?_
   refine Go.Proofs.YtibegnjaphohaaaDoor.Wm.wm_val 11 (.agg (ints .u8 (itV sec k))) 58 rfl rfl kj kj (by decide) kj (fun _ _ _ h => h) (fun W hR => (Qa3 23 _ g 2 84 _ _ _ hR rfl kj (Qat [#[.int .i64 (((n : Nat) : Int) + 1)], #[.int .u64 ((B * 2 ^ a % 18446744073709551616 ||| 1 * 2 ^ (a - 1) % 18446744073709551616 : Nat) : Int)]] [ints .u8 (itV sec k)] [#[.int .i64 ((pl + k : Nat) : Int)], #[.map (some mg)]] 2 kj) kj (isz (n := 32) kj ((Qaf _ _).trans (Qav hsec k))))) ?_
   have r1_8 := (Qad q1_1 e8)
   have r2_2 := (Qad r2_1 e2)
   have r2_3 := (Qad r2_2 e3)
   have r2_4 := (Puts.row p4 r2_3 (Qag r2_2 l11))
   have r2_5 := (ExtB.row q5 r2_4 hcg)
   have r2_6 := (Puts.row p6 r2_5 hcm)
   have r2_7 := (Qai.row q7 r2_6 (Qan hcg (Qan hcm Qa6)))
   have r2_8 := (Qad r2_7 e8)
   have r3_2 := (Qad r3_1 e2)
   have r3_3 := (Qad r3_2 e3)
   have r3_4 := (Puts.row p4 r3_3 (Qag r3_2 l11))
   have r3_5 := (ExtB.row q5 r3_4 hsg)
   have r3_6 := (Puts.row p6 r3_5 hsm)
   have r3_7 := (Qai.row q7 r3_6 (Qan hsg (Qan hsm Qa6)))
   have r3_8 := (Qad r3_7 e8)
   refine Go.Proofs.YtibegnjaphohaaaDoor.Wm.wm_call 12 kj rfl (fun v W' => (fun v _ => v = .agg (ints .u8 (keyV (itV sec k)))) v W' ∧ Ext W8 W') 45 #[.agg (ints .u8 (itV sec k))] 59 rfl kj kj ((retG (QgO (itV sec k) tc tq _ r2_8 r3_8 (Qav hsec k) (QaU hsb k))).mono (by rintro e w' ⟨v, rfl, e1, hv⟩; exact ⟨v, rfl, hv, e1⟩)) (fun v W h => Qad r1_8 h.2) fun vv24 W9 hh24 => ?_
   obtain ⟨hv24, e9⟩ := hh24
   have x9 : Qai [g, mg] w W9 := Qai.step x8 e9
   subst hv24
   have r1_9 := (Qad r1_8 e9)
   have r4_8 := (Qad hes18 e8)
   have r4_9 := (Qad r4_8 e9)
   refine Go.Proofs.YtibegnjaphohaaaDoor.Wm.wm_last kj kj rfl (fun W' => Puts W9 mg W' ∧ MpAt mg ((((msNo ms ((n : Nat) : Int)) ++ Qb2 sec pl n k).map mpv) ++ [(((pl + k : Nat) : Int), .agg (ints .u8 (keyV (itV sec k))))]) W') rfl kj (Qdr 82 _ _ _ (kt := 3) (et := 93) rfl kj kj kj kj kj ⟨_, _, r4_9, hM18⟩ (QgK (QeG hlt0))) fun W10 hh => ?_
   obtain ⟨p10, hmp⟩ := hh
   have x10 : Qai [g, mg] w W10 := Qai.puts x9 p10 (.inl (by simp))
   replace hmp : MpAt mg (((msNo ms ((n : Nat) : Int)) ++ Qb2 sec pl n (k + 1)).map mpv) W10 := by rw [QfK hcc, ← List.append_assoc, List.map_append]; exact hmp
   obtain ⟨es25, cl25, hes25, hM25⟩ := id hmp
   refine hK22 _ _ ?_
   refine wp_seq_k fun K26 hK26 => ?_
   refine Qab ?_
   refine Qaa (.pointer (some ⟨g, 0, none⟩)) 60 rfl kj kj ?_
   refine Qaa (.pointer (some ⟨g, 0, none⟩)) 61 rfl kj kj ?_
   refine Qaa (.pointer (some ⟨g, 0, none⟩)) 62 rfl kj kj ?_
   refine Qaa (.pointer (some ⟨g, 2, none⟩)) 63 rfl kj kj ?_
   have r1_10 := (Puts.row p10 r1_9 hgm)
   refine Qaa (.agg (ints .u8 (itV sec k))) 64 rfl kj (Qa3 23 _ g 2 84 _ _ _ r1_10 rfl kj (Qat [#[.int .i64 (((n : Nat) : Int) + 1)], #[.int .u64 ((B * 2 ^ a % 18446744073709551616 ||| 1 * 2 ^ (a - 1) % 18446744073709551616 : Nat) : Int)]] [ints .u8 (itV sec k)] [#[.int .i64 ((pl + k : Nat) : Int)], #[.map (some mg)]] 2 kj) kj (isz (n := 32) kj ((Qaf _ _).trans (Qav hsec k)))) ?_
   have r2_9 := (Qad r2_8 e9)
   have r2_10 := (Puts.row p10 r2_9 hcm)
   have r3_9 := (Qad r3_8 e9)
   have r3_10 := (Puts.row p10 r3_9 hsm)
   refine Qau (.agg (ints .u8 (itV sec (k + 1)))) 46 #[.agg (ints .u8 (itV sec k))] 65 rfl kj kj (QdJ (itV sec k) tc tq _ r2_10 r3_10 (Qav hsec k) (QaU hsb k)) fun W11 e11 => ?_
   have x11 : Qai [g, mg] w W11 := Qai.step x10 e11
   refine Qaa (.pointer (some ⟨g, 0, none⟩)) 66 rfl kj kj ?_
   refine Qaa (.pointer (some ⟨g, 2, none⟩)) 67 rfl kj kj ?_
   have r1_11 := (Qad r1_10 e11)
   refine Qaj g _ (cat [#[.int .i64 (((n : Nat) : Int) + 1)], #[.int .u64 ((B * 2 ^ a % 18446744073709551616 ||| 1 * 2 ^ (a - 1) % 18446744073709551616 : Nat) : Int)], ints .u8 (itV sec (k + 1)), #[.int .i64 ((pl + k : Nat) : Int)], #[.map (some mg)]]) 84 r1_11 rfl kj (Qbf 23 _ _ g 2 84 [#[.int .i64 (((n : Nat) : Int) + 1)], #[.int .u64 ((B * 2 ^ a % 18446744073709551616 ||| 1 * 2 ^ (a - 1) % 18446744073709551616 : Nat) : Int)]] [ints .u8 (itV sec k)] [ints .u8 (itV sec (k + 1))] [#[.int .i64 ((pl + k : Nat) : Int)], #[.map (some mg)]] r1_11 rfl kj kj (isz (n := 32) kj ((Qaf _ _).trans (Qav hsec (k + 1)))) kj (eqsz (n := 32) ((Qaf _ _).trans (Qav hsec (k + 1))) ((Qaf _ _).trans (Qav hsec k))) (Qa0 _ _)) fun W12 p12 r1_12 => ?_
   have x12 : Qai [g, mg] w W12 := Qai.puts x11 p12 (.inl (by simp))
   refine Qac ?_
   refine hK26 _ _ ?_
   refine Qab ?_
   refine Qaa (.pointer (some ⟨g, 0, none⟩)) 68 rfl kj kj ?_
   refine Qaa (.pointer (some ⟨g, 0, none⟩)) 69 rfl kj kj ?_
   refine Qaa (.pointer (some ⟨g, 34, none⟩)) 70 rfl kj kj ?_
   refine Qaa (.int .i64 ((pl + k : Nat) : Int)) 71 rfl kj (Qal 3 _ g 34 84 _ (.int .i64 ((pl + k : Nat) : Int)) _ r1_12 rfl kj (Qat [#[.int .i64 (((n : Nat) : Int) + 1)], #[.int .u64 ((B * 2 ^ a % 18446744073709551616 ||| 1 * 2 ^ (a - 1) % 18446744073709551616 : Nat) : Int)], ints .u8 (itV sec (k + 1))] [#[.int .i64 ((pl + k : Nat) : Int)]] [#[.map (some mg)]] 34 (by rw [Qae, Qae, Qae]; simp only [Array.size_append, cat, ((Qaf _ _).trans (Qav hsec (k + 1)))]; rfl) 0 _ rfl) kj) ?_
   refine Qaa (.int .i64 (((pl + (k + 1) : Nat) : Int))) 72 rfl kj (Qah (u := .int .i64 (IntKind.i64.wrap (((pl + k : Nat) : Int) + 1))) kj (congrArg (Value.int .i64) ((Qbo _ (by omega)).trans (by omega)))) ?_
   refine Qaa (.pointer (some ⟨g, 0, none⟩)) 73 rfl kj kj ?_
   refine Qaa (.pointer (some ⟨g, 34, none⟩)) 74 rfl kj kj ?_
   refine Qaj g _ (cat [#[.int .i64 (((n : Nat) : Int) + 1)], #[.int .u64 ((B * 2 ^ a % 18446744073709551616 ||| 1 * 2 ^ (a - 1) % 18446744073709551616 : Nat) : Int)], ints .u8 (itV sec (k + 1)), #[.int .i64 (((pl + (k + 1) : Nat) : Int))], #[.map (some mg)]]) 84 r1_12 rfl kj (Qba 3 _ _ g 34 84 [#[.int .i64 (((n : Nat) : Int) + 1)], #[.int .u64 ((B * 2 ^ a % 18446744073709551616 ||| 1 * 2 ^ (a - 1) % 18446744073709551616 : Nat) : Int)], ints .u8 (itV sec (k + 1))] [#[.map (some mg)]] _ (.int .i64 (((pl + (k + 1) : Nat) : Int))) r1_12 rfl kj kj kj (by rw [Qae, Qae, Qae]; simp only [Array.size_append, cat, ((Qaf _ _).trans (Qav hsec (k + 1)))]; rfl) rfl rfl) fun W13 p13 r1_13 => ?_
   have x13 : Qai [g, mg] w W13 := Qai.puts x12 p13 (.inl (by simp))
   refine Qac ?_
   have r4_11 := (Qad hes25 e11)
   have r4_12 := (Puts.row p12 r4_11 (Ne.symm hgm))
   have r4_13 := (Puts.row p13 r4_12 (Ne.symm hgm))
   repeat (first | with_reducible refine goX1 ?_ | with_reducible refine goX2 ?_ | with_reducible refine goX3 ?_)
   exact QaB (k + 1) ⟨rfl, rfl, rfl, rfl, rfl, rfl, trivial⟩ ⟨(by omega), ⟨_, _, r4_13, hM25⟩, r1_13, (Qai.puts (Qai.puts (Qai.step (Qai.puts (Qai.step (Qai.step q7 e8) e9) p10 (.inl (by simp))) e11) p12 (.inl (by simp))) p13 (.inl (by simp))), x13⟩ (by omega)
  ·skip
   refine Qab ?_
   refine Qaa (.pointer (some ⟨g, 0, none⟩)) 32 rfl kj kj ?_
   refine Qaa (.pointer (some ⟨g, 0, none⟩)) 33 rfl kj kj ?_
   refine Qaa (.pointer (some ⟨g, 34, none⟩)) 34 rfl kj kj ?_
   refine Qaa (.int .i64 ((pl + k : Nat) : Int)) 35 rfl kj (Qal 3 _ g 34 84 _ (.int .i64 ((pl + k : Nat) : Int)) _ q1_1 rfl kj (Qat [#[.int .i64 (((n : Nat) : Int) + 1)], #[.int .u64 ((B * 2 ^ a % 18446744073709551616 ||| 1 * 2 ^ (a - 1) % 18446744073709551616 : Nat) : Int)], ints .u8 (itV sec k)] [#[.int .i64 ((pl + k : Nat) : Int)]] [#[.map (some mg)]] 34 (by rw [Qae, Qae, Qae]; simp only [Array.size_append, cat, ((Qaf _ _).trans (Qav hsec k))]; rfl) 0 _ rfl) kj) ?_
   refine Qaa (.int .i64 ((n : Nat) : Int)) 36 rfl kj kj ?_
   refine Qaa (.bool true) 37 rfl kj (Qah (u := .bool (decide (((pl + k : Nat) : Int) < ((n : Nat) : Int)))) kj (congrArg Value.bool (decide_eq_true (by omega)))) ?_
   refine Qaa (.bool true) 38 rfl kj kj ?_
   refine Qaa (.pointer (some ⟨g, 0, none⟩)) 39 rfl kj kj ?_
   refine Qaa (.pointer (some ⟨g, 0, none⟩)) 40 rfl kj kj ?_
   refine Qaa (.pointer (some ⟨g, 34, none⟩)) 41 rfl kj kj ?_
   refine Qaa (.int .i64 ((pl + k : Nat) : Int)) 42 rfl kj (Qal 3 _ g 34 84 _ (.int .i64 ((pl + k : Nat) : Int)) _ q1_1 rfl kj (Qat [#[.int .i64 (((n : Nat) : Int) + 1)], #[.int .u64 ((B * 2 ^ a % 18446744073709551616 ||| 1 * 2 ^ (a - 1) % 18446744073709551616 : Nat) : Int)], ints .u8 (itV sec k)] [#[.int .i64 ((pl + k : Nat) : Int)]] [#[.map (some mg)]] 34 (by rw [Qae, Qae, Qae]; simp only [Array.size_append, cat, ((Qaf _ _).trans (Qav hsec k))]; rfl) 0 _ rfl) kj) ?_
   refine Qaa (.int .i64 ((n : Nat) : Int)) 43 rfl kj kj ?_
   refine Qaa (.int .i64 (((n : Nat) : Int) - 64)) 44 rfl kj (Qah (u := .int .i64 (IntKind.i64.wrap (((n : Nat) : Int) - 64))) kj (congrArg (Value.int .i64) (Qbo _ (by omega)))) ?_
   refine Qaa (.bool false) 45 rfl kj (Qah (u := .bool (decide (((pl + k : Nat) : Int) ≥ (((n : Nat) : Int) - 64)))) kj (congrArg Value.bool (decide_eq_false (by omega)))) ?_
   refine Qaa (.bool false) 46 rfl kj kj ?_
   refine Qac ?_
   refine hK23 _ _ ?_
   refine cond_false kj ?_
   refine wp_skip ?_
   refine hK22 _ _ ?_
   refine wp_seq_k fun K27 hK27 => ?_
   refine Qab ?_
   refine Qaa (.pointer (some ⟨g, 0, none⟩)) 60 rfl kj kj ?_
   refine Qaa (.pointer (some ⟨g, 0, none⟩)) 61 rfl kj kj ?_
   refine Qaa (.pointer (some ⟨g, 0, none⟩)) 62 rfl kj kj ?_
   refine Qaa (.pointer (some ⟨g, 2, none⟩)) 63 rfl kj kj ?_
   refine Qaa (.agg (ints .u8 (itV sec k))) 64 rfl kj (Qa3 23 _ g 2 84 _ _ _ q1_1 rfl kj (Qat [#[.int .i64 (((n : Nat) : Int) + 1)], #[.int .u64 ((B * 2 ^ a % 18446744073709551616 ||| 1 * 2 ^ (a - 1) % 18446744073709551616 : Nat) : Int)]] [ints .u8 (itV sec k)] [#[.int .i64 ((pl + k : Nat) : Int)], #[.map (some mg)]] 2 kj) kj (isz (n := 32) kj ((Qaf _ _).trans (Qav hsec k)))) ?_
   have r2_2 := (Qad r2_1 e2)
   have r2_3 := (Qad r2_2 e3)
   have r2_4 := (Puts.row p4 r2_3 (Qag r2_2 l11))
   have r2_5 := (ExtB.row q5 r2_4 hcg)
   have r2_6 := (Puts.row p6 r2_5 hcm)
   have r2_7 := (Qai.row q7 r2_6 (Qan hcg (Qan hcm Qa6)))
   have r3_2 := (Qad r3_1 e2)
   have r3_3 := (Qad r3_2 e3)
   have r3_4 := (Puts.row p4 r3_3 (Qag r3_2 l11))
   have r3_5 := (ExtB.row q5 r3_4 hsg)
   have r3_6 := (Puts.row p6 r3_5 hsm)
   have r3_7 := (Qai.row q7 r3_6 (Qan hsg (Qan hsm Qa6)))
   refine Qau (.agg (ints .u8 (itV sec (k + 1)))) 46 #[.agg (ints .u8 (itV sec k))] 65 rfl kj kj (QdJ (itV sec k) tc tq _ r2_7 r3_7 (Qav hsec k) (QaU hsb k)) fun W8 e8 => ?_
   have x8 : Qai [g, mg] w W8 := Qai.step xx1 e8
   refine Qaa (.pointer (some ⟨g, 0, none⟩)) 66 rfl kj kj ?_
   refine Qaa (.pointer (some ⟨g, 2, none⟩)) 67 rfl kj kj ?_
   have r1_8 := (Qad q1_1 e8)
   refine Qaj g _ (cat [#[.int .i64 (((n : Nat) : Int) + 1)], #[.int .u64 ((B * 2 ^ a % 18446744073709551616 ||| 1 * 2 ^ (a - 1) % 18446744073709551616 : Nat) : Int)], ints .u8 (itV sec (k + 1)), #[.int .i64 ((pl + k : Nat) : Int)], #[.map (some mg)]]) 84 r1_8 rfl kj (Qbf 23 _ _ g 2 84 [#[.int .i64 (((n : Nat) : Int) + 1)], #[.int .u64 ((B * 2 ^ a % 18446744073709551616 ||| 1 * 2 ^ (a - 1) % 18446744073709551616 : Nat) : Int)]] [ints .u8 (itV sec k)] [ints .u8 (itV sec (k + 1))] [#[.int .i64 ((pl + k : Nat) : Int)], #[.map (some mg)]] r1_8 rfl kj kj (isz (n := 32) kj ((Qaf _ _).trans (Qav hsec (k + 1)))) kj (eqsz (n := 32) ((Qaf _ _).trans (Qav hsec (k + 1))) ((Qaf _ _).trans (Qav hsec k))) (Qa0 _ _)) fun W9 p9 r1_9 => ?_
   have x9 : Qai [g, mg] w W9 := Qai.puts x8 p9 (.inl (by simp))
   refine Qac ?_
   refine hK27 _ _ ?_
   refine Qab ?_
   refine Qaa (.pointer (some ⟨g, 0, none⟩)) 68 rfl kj kj ?_
   refine Qaa (.pointer (some ⟨g, 0, none⟩)) 69 rfl kj kj ?_
   refine Qaa (.pointer (some ⟨g, 34, none⟩)) 70 rfl kj kj ?_
   refine Qaa (.int .i64 ((pl + k : Nat) : Int)) 71 rfl kj (Qal 3 _ g 34 84 _ (.int .i64 ((pl + k : Nat) : Int)) _ r1_9 rfl kj (Qat [#[.int .i64 (((n : Nat) : Int) + 1)], #[.int .u64 ((B * 2 ^ a % 18446744073709551616 ||| 1 * 2 ^ (a - 1) % 18446744073709551616 : Nat) : Int)], ints .u8 (itV sec (k + 1))] [#[.int .i64 ((pl + k : Nat) : Int)]] [#[.map (some mg)]] 34 (by rw [Qae, Qae, Qae]; simp only [Array.size_append, cat, ((Qaf _ _).trans (Qav hsec (k + 1)))]; rfl) 0 _ rfl) kj) ?_
   refine Qaa (.int .i64 (((pl + (k + 1) : Nat) : Int))) 72 rfl kj (Qah (u := .int .i64 (IntKind.i64.wrap (((pl + k : Nat) : Int) + 1))) kj (congrArg (Value.int .i64) ((Qbo _ (by omega)).trans (by omega)))) ?_
   refine Qaa (.pointer (some ⟨g, 0, none⟩)) 73 rfl kj kj ?_
   refine Qaa (.pointer (some ⟨g, 34, none⟩)) 74 rfl kj kj ?_
   refine Qaj g _ (cat [#[.int .i64 (((n : Nat) : Int) + 1)], #[.int .u64 ((B * 2 ^ a % 18446744073709551616 ||| 1 * 2 ^ (a - 1) % 18446744073709551616 : Nat) : Int)], ints .u8 (itV sec (k + 1)), #[.int .i64 (((pl + (k + 1) : Nat) : Int))], #[.map (some mg)]]) 84 r1_9 rfl kj (Qba 3 _ _ g 34 84 [#[.int .i64 (((n : Nat) : Int) + 1)], #[.int .u64 ((B * 2 ^ a % 18446744073709551616 ||| 1 * 2 ^ (a - 1) % 18446744073709551616 : Nat) : Int)], ints .u8 (itV sec (k + 1))] [#[.map (some mg)]] _ (.int .i64 (((pl + (k + 1) : Nat) : Int))) r1_9 rfl kj kj kj (by rw [Qae, Qae, Qae]; simp only [Array.size_append, cat, ((Qaf _ _).trans (Qav hsec (k + 1)))]; rfl) rfl rfl) fun W10 p10 r1_10 => ?_
   have x10 : Qai [g, mg] w W10 := Qai.puts x9 p10 (.inl (by simp))
   refine Qac ?_
   have r4_8 := (Qad hes18 e8)
   have r4_9 := (Puts.row p9 r4_8 (Ne.symm hgm))
   have r4_10 := (Puts.row p10 r4_9 (Ne.symm hgm))
   repeat (first | with_reducible refine goX1 ?_ | with_reducible refine goX2 ?_ | with_reducible refine goX3 ?_)
   exact QaB (k + 1) ⟨rfl, rfl, rfl, rfl, rfl, rfl, trivial⟩ ⟨(by omega), (by rw [Qes (by omega)]; exact ⟨_, _, r4_10, hM18⟩), r1_10, (Qai.puts (Qai.puts (Qai.step q7 e8) p9 (.inl (by simp))) p10 (.inl (by simp))), x10⟩ (by omega)
  ·skip
   refine Qab ?_
   refine Qaa (.pointer (some ⟨g, 0, none⟩)) 32 rfl kj kj ?_
   refine Qaa (.pointer (some ⟨g, 0, none⟩)) 33 rfl kj kj ?_
   refine Qaa (.pointer (some ⟨g, 34, none⟩)) 34 rfl kj kj ?_
   refine Qaa (.int .i64 ((pl + k : Nat) : Int)) 35 rfl kj (Qal 3 _ g 34 84 _ (.int .i64 ((pl + k : Nat) : Int)) _ q1_1 rfl kj (Qat [#[.int .i64 (((n : Nat) : Int) + 1)], #[.int .u64 ((B * 2 ^ a % 18446744073709551616 ||| 1 * 2 ^ (a - 1) % 18446744073709551616 : Nat) : Int)], ints .u8 (itV sec k)] [#[.int .i64 ((pl + k : Nat) : Int)]] [#[.map (some mg)]] 34 (by rw [Qae, Qae, Qae]; simp only [Array.size_append, cat, ((Qaf _ _).trans (Qav hsec k))]; rfl) 0 _ rfl) kj) ?_
   refine Qaa (.int .i64 ((n : Nat) : Int)) 36 rfl kj kj ?_
   refine Qaa (.bool false) 37 rfl kj (Qah (u := .bool (decide (((pl + k : Nat) : Int) < ((n : Nat) : Int)))) kj (congrArg Value.bool (decide_eq_false (by omega)))) ?_
   refine Qaa (.bool false) 38 rfl kj kj ?_
   refine Qax 39 rfl kj ?_
   refine Qax 40 rfl kj ?_
   refine Qax 41 rfl kj ?_
   refine Qax 42 rfl kj ?_
   refine Qax 43 rfl kj ?_
   refine Qax 44 rfl kj ?_
   refine Qax 45 rfl kj ?_
   refine Qaa (.bool false) 46 rfl kj kj ?_
   refine Qac ?_
   refine hK23 _ _ ?_
   refine cond_false kj ?_
   refine wp_skip ?_
   refine hK22 _ _ ?_
   refine wp_seq_k fun K28 hK28 => ?_
   refine Qab ?_
   refine Qaa (.pointer (some ⟨g, 0, none⟩)) 60 rfl kj kj ?_
   refine Qaa (.pointer (some ⟨g, 0, none⟩)) 61 rfl kj kj ?_
   refine Qaa (.pointer (some ⟨g, 0, none⟩)) 62 rfl kj kj ?_
   refine Qaa (.pointer (some ⟨g, 2, none⟩)) 63 rfl kj kj ?_
   refine Qaa (.agg (ints .u8 (itV sec k))) 64 rfl kj (Qa3 23 _ g 2 84 _ _ _ q1_1 rfl kj (Qat [#[.int .i64 (((n : Nat) : Int) + 1)], #[.int .u64 ((B * 2 ^ a % 18446744073709551616 ||| 1 * 2 ^ (a - 1) % 18446744073709551616 : Nat) : Int)]] [ints .u8 (itV sec k)] [#[.int .i64 ((pl + k : Nat) : Int)], #[.map (some mg)]] 2 kj) kj (isz (n := 32) kj ((Qaf _ _).trans (Qav hsec k)))) ?_
   have r2_2 := (Qad r2_1 e2)
   have r2_3 := (Qad r2_2 e3)
   have r2_4 := (Puts.row p4 r2_3 (Qag r2_2 l11))
   have r2_5 := (ExtB.row q5 r2_4 hcg)
   have r2_6 := (Puts.row p6 r2_5 hcm)
   have r2_7 := (Qai.row q7 r2_6 (Qan hcg (Qan hcm Qa6)))
   have r3_2 := (Qad r3_1 e2)
   have r3_3 := (Qad r3_2 e3)
   have r3_4 := (Puts.row p4 r3_3 (Qag r3_2 l11))
   have r3_5 := (ExtB.row q5 r3_4 hsg)
   have r3_6 := (Puts.row p6 r3_5 hsm)
   have r3_7 := (Qai.row q7 r3_6 (Qan hsg (Qan hsm Qa6)))
   refine Qau (.agg (ints .u8 (itV sec (k + 1)))) 46 #[.agg (ints .u8 (itV sec k))] 65 rfl kj kj (QdJ (itV sec k) tc tq _ r2_7 r3_7 (Qav hsec k) (QaU hsb k)) fun W8 e8 => ?_
   have x8 : Qai [g, mg] w W8 := Qai.step xx1 e8
   refine Qaa (.pointer (some ⟨g, 0, none⟩)) 66 rfl kj kj ?_
   refine Qaa (.pointer (some ⟨g, 2, none⟩)) 67 rfl kj kj ?_
   have r1_8 := (Qad q1_1 e8)
   refine Qaj g _ (cat [#[.int .i64 (((n : Nat) : Int) + 1)], #[.int .u64 ((B * 2 ^ a % 18446744073709551616 ||| 1 * 2 ^ (a - 1) % 18446744073709551616 : Nat) : Int)], ints .u8 (itV sec (k + 1)), #[.int .i64 ((pl + k : Nat) : Int)], #[.map (some mg)]]) 84 r1_8 rfl kj (Qbf 23 _ _ g 2 84 [#[.int .i64 (((n : Nat) : Int) + 1)], #[.int .u64 ((B * 2 ^ a % 18446744073709551616 ||| 1 * 2 ^ (a - 1) % 18446744073709551616 : Nat) : Int)]] [ints .u8 (itV sec k)] [ints .u8 (itV sec (k + 1))] [#[.int .i64 ((pl + k : Nat) : Int)], #[.map (some mg)]] r1_8 rfl kj kj (isz (n := 32) kj ((Qaf _ _).trans (Qav hsec (k + 1)))) kj (eqsz (n := 32) ((Qaf _ _).trans (Qav hsec (k + 1))) ((Qaf _ _).trans (Qav hsec k))) (Qa0 _ _)) fun W9 p9 r1_9 => ?_
   have x9 : Qai [g, mg] w W9 := Qai.puts x8 p9 (.inl (by simp))
   refine Qac ?_
   refine hK28 _ _ ?_
   refine Qab ?_
   refine Qaa (.pointer (some ⟨g, 0, none⟩)) 68 rfl kj kj ?_
   refine Qaa (.pointer (some ⟨g, 0, none⟩)) 69 rfl kj kj ?_
   refine Qaa (.pointer (some ⟨g, 34, none⟩)) 70 rfl kj kj ?_
   refine Qaa (.int .i64 ((pl + k : Nat) : Int)) 71 rfl kj (Qal 3 _ g 34 84 _ (.int .i64 ((pl + k : Nat) : Int)) _ r1_9 rfl kj (Qat [#[.int .i64 (((n : Nat) : Int) + 1)], #[.int .u64 ((B * 2 ^ a % 18446744073709551616 ||| 1 * 2 ^ (a - 1) % 18446744073709551616 : Nat) : Int)], ints .u8 (itV sec (k + 1))] [#[.int .i64 ((pl + k : Nat) : Int)]] [#[.map (some mg)]] 34 (by rw [Qae, Qae, Qae]; simp only [Array.size_append, cat, ((Qaf _ _).trans (Qav hsec (k + 1)))]; rfl) 0 _ rfl) kj) ?_
   refine Qaa (.int .i64 (((pl + (k + 1) : Nat) : Int))) 72 rfl kj (Qah (u := .int .i64 (IntKind.i64.wrap (((pl + k : Nat) : Int) + 1))) kj (congrArg (Value.int .i64) ((Qbo _ (by omega)).trans (by omega)))) ?_
   refine Qaa (.pointer (some ⟨g, 0, none⟩)) 73 rfl kj kj ?_
   refine Qaa (.pointer (some ⟨g, 34, none⟩)) 74 rfl kj kj ?_
   refine Qaj g _ (cat [#[.int .i64 (((n : Nat) : Int) + 1)], #[.int .u64 ((B * 2 ^ a % 18446744073709551616 ||| 1 * 2 ^ (a - 1) % 18446744073709551616 : Nat) : Int)], ints .u8 (itV sec (k + 1)), #[.int .i64 (((pl + (k + 1) : Nat) : Int))], #[.map (some mg)]]) 84 r1_9 rfl kj (Qba 3 _ _ g 34 84 [#[.int .i64 (((n : Nat) : Int) + 1)], #[.int .u64 ((B * 2 ^ a % 18446744073709551616 ||| 1 * 2 ^ (a - 1) % 18446744073709551616 : Nat) : Int)], ints .u8 (itV sec (k + 1))] [#[.map (some mg)]] _ (.int .i64 (((pl + (k + 1) : Nat) : Int))) r1_9 rfl kj kj kj (by rw [Qae, Qae, Qae]; simp only [Array.size_append, cat, ((Qaf _ _).trans (Qav hsec (k + 1)))]; rfl) rfl rfl) fun W10 p10 r1_10 => ?_
   have x10 : Qai [g, mg] w W10 := Qai.puts x9 p10 (.inl (by simp))
   refine Qac ?_
   have r4_8 := (Qad hes18 e8)
   have r4_9 := (Puts.row p9 r4_8 (Ne.symm hgm))
   have r4_10 := (Puts.row p10 r4_9 (Ne.symm hgm))
   repeat (first | with_reducible refine goX1 ?_ | with_reducible refine goX2 ?_ | with_reducible refine goX3 ?_)
   exact QaB (k + 1) ⟨rfl, rfl, rfl, rfl, rfl, rfl, trivial⟩ ⟨(by omega), (by rw [Qes (by omega)]; exact ⟨_, _, r4_10, hM18⟩), r1_10, (Qai.puts (Qai.puts (Qai.step q7 e8) p9 (.inl (by simp))) p10 (.inl (by simp))), x10⟩ (by omega)
 ·skip
  have heq : k = n + 1 - pl := by have := of_decide_eq_false c21; omega
  refine wp_exit ?_
  refine hK17 _ _ ?_
  refine wp_seq_k fun K29 hK29 => ?_
  refine wp_seq_k fun K30 hK30 => ?_
  refine Qab ?_
  refine Qaa (.pointer (some ⟨g, 0, none⟩)) 75 rfl kj kj ?_
  refine Qaa (.pointer (some ⟨g, 0, none⟩)) 76 rfl kj kj ?_
  refine Qaa (.pointer (some ⟨g, 35, none⟩)) 77 rfl kj kj ?_
  refine Qaa (.map (some mg)) 78 rfl kj (Qal 82 _ g 35 84 _ (.map (some mg)) _ q1_1 rfl kj (Qat [#[.int .i64 (((n : Nat) : Int) + 1)], #[.int .u64 ((B * 2 ^ a % 18446744073709551616 ||| 1 * 2 ^ (a - 1) % 18446744073709551616 : Nat) : Int)], ints .u8 (itV sec k), #[.int .i64 ((pl + k : Nat) : Int)]] [#[.map (some mg)]] [] 35 (by rw [Qae, Qae, Qae, Qae]; simp only [Array.size_append, cat, ((Qaf _ _).trans (Qav hsec k))]; rfl) 0 _ rfl) kj) ?_
  refine Qfr (.mapIter (some mg) cl18 #[] cl18) (fun g => .pointer (some ⟨g, 0, none⟩)) 79 rfl kj (QdQ (kt := 3) (et := 93) 82 _ rfl kj kj hes18) fun g32 W8 l32 e8 r32_8 => ?_
  have x8 : Qai [g, mg] w W8 := Qai.step xx1 e8
  have b32 : w.heap.size ≤ g32 := Nat.le_trans xx1.size l32
  have r4_8 := (Qad hes18 e8)
  have hrg0 : Qci mg g32 (((n : Nat) : Int) + 1 - 1 - 64) es18 cl18 #[] W8 := Qci.start hM18 r4_8 r32_8
  refine Qac ?_
  refine hK30 _ _ ?_
  refine wp_block ?_
  have r2_2 := (Qad r2_1 e2)
  have r2_3 := (Qad r2_2 e3)
  have r2_4 := (Puts.row p4 r2_3 (Qag r2_2 l11))
  have r2_5 := (ExtB.row q5 r2_4 hcg)
  have r2_6 := (Puts.row p6 r2_5 hcm)
  have r2_7 := (Qai.row q7 r2_6 (Qan hcg (Qan hcm Qa6)))
  have n_2_32 : 2 ≠ g32 := (Qag r2_7 l32)
  have r3_2 := (Qad r3_1 e2)
  have r3_3 := (Qad r3_2 e3)
  have r3_4 := (Puts.row p4 r3_3 (Qag r3_2 l11))
  have r3_5 := (ExtB.row q5 r3_4 hsg)
  have r3_6 := (Puts.row p6 r3_5 hsm)
  have r3_7 := (Qai.row q7 r3_6 (Qan hsg (Qan hsm Qa6)))
  have n_3_32 : 1 ≠ g32 := (Qag r3_7 l32)
  have r7_2 := (Qad r7_1 e2)
  have r7_3 := (Qad r7_2 e3)
  have r7_4 := (Puts.row p4 r7_3 (Qag r7_2 l11))
  have r7_5 := (ExtB.row q5 r7_4 n_7_1)
  have r7_6 := (Puts.row p6 r7_5 n_7_4)
  have r7_7 := (Qai.row q7 r7_6 (Qan n_7_1 (Qan n_7_4 Qa6)))
  have n_7_32 : g7 ≠ g32 := (Qag r7_7 l32)
  have r11_5 := (ExtB.row q5 r11_4 n_11_1)
  have r11_6 := (Puts.row p6 r11_5 n_11_4)
  have r11_7 := (Qai.row q7 r11_6 (Qan n_11_1 (Qan n_11_4 Qa6)))
  have n_11_32 : g11 ≠ g32 := (Qag r11_7 l32)
  have n_32_1 : g32 ≠ g := (Ne.symm (Nat.ne_of_lt (Nat.lt_of_lt_of_le hl_g b32)))
  have n_32_4 : g32 ≠ mg := (Ne.symm (Nat.ne_of_lt (Nat.lt_of_lt_of_le hl_mg b32)))
  refine QaM (fun (s2 : Array Nat) => [(0, .pointer (some ⟨g, 0, none⟩)), (1, .int .i64 ((n : Nat) : Int)), (4, .pointer (some ⟨g7, 0, none⟩)), (5, .nilIface), (6, .pointer (some ⟨g11, 0, none⟩)), (79, .pointer (some ⟨g32, 0, none⟩))]) (fun (s2 : Array Nat) W => (Qci mg g32 (((n : Nat) : Int) + 1 - 1 - 64) es18 cl18 s2 W) ∧ (Qai [mg, g32] W8 W) ∧ (Qai [g, mg] w W)) (fun (s2 : Array Nat) => rmu es18 s2) #[] ⟨rfl, rfl, rfl, rfl, rfl, rfl, trivial⟩ ⟨hrg0, (Qai.refl [mg, g32] W8), x8⟩ fun s2 X2 V2 hI2 => ?_
  obtain ⟨sn, hs2⟩ : ∃ z, z = s2 := ⟨_, rfl⟩
  subst hs2
  obtain ⟨hrg, kk2, xx2⟩ := hI2
  replace hrg : Qci mg g32 (((n : Nat) : Int) + 1 - 1 - 64) es18 cl18 sn V2 := hrg
  replace kk2 : Qai [mg, g32] W8 V2 := kk2
  replace xx2 : Qai [g, mg] w V2 := xx2
  have q9 := kk2
  refine wp_seq_k fun K33 hK33 => ?_
  refine Qab ?_
  refine Qey (.tmp 79) hM18 rfl kj hrg 80 rfl kj (fun hmp => ?_) (fun e y WN hy pN hst hen => ?_)
  ·skip
   obtain ⟨es34, cl34, hes34, hM34⟩ := id hmp
   refine Qaa (.bool false) 81 rfl kj kj ?_
   refine Qac ?_
   refine hK33 _ _ ?_
   refine wp_seq_k fun K35 hK35 => ?_
   refine cond_false kj ?_
   refine wp_exit ?_
   refine hK29 _ _ ?_
   refine wp_seq_k fun K36 hK36 => ?_
   refine Qab ?_
   have r11_8 := (Qad r11_7 e8)
   have r11_9 := (Qai.row q9 r11_8 (Qan n_11_4 (Qan n_11_32 Qa6)))
   refine Qaa (.agg (cat [#[.int .i64 ((n : Nat) : Int)], ints .u8 ((keyV (itV sec (n - pl))).take 32), #[.slice a10_ (((keyV (itV sec (n - pl))).drop 32).length) c10_]])) 96 rfl kj (Qay 40 _ g11 40 _ _ r11_9 rfl kj kj (isz (n := 34) kj (by rw [Qae, Qae, Qae]; simp only [Array.size_append, cat, ((Qaf _ _).trans (QaG (Qa7 _)))]; rfl))) ?_
   have r7_8 := (Qad r7_7 e8)
   have r7_9 := (Qai.row q9 r7_8 (Qan n_7_4 (Qan n_7_32 Qa6)))
   refine Qaj g7 _ (cat [#[.int .i64 ((n : Nat) : Int)], ints .u8 ((keyV (itV sec (n - pl))).take 32), #[.slice a10_ (((keyV (itV sec (n - pl))).drop 32).length) c10_]]) 40 r7_9 rfl kj (Qap 40 _ _ g7 40 _ _ r7_9 rfl kj kj (isz (n := 34) kj (by rw [Qae, Qae, Qae]; simp only [Array.size_append, cat, ((Qaf _ _).trans (QaG (Qa7 _)))]; rfl)) (eqsz (n := 34) (by rw [Qae, Qae, Qae]; simp only [Array.size_append, cat, ((Qaf _ _).trans (List.length_replicate (n := 32)))]; rfl) (by rw [Qae, Qae, Qae]; simp only [Array.size_append, cat, ((Qaf _ _).trans (QaG (Qa7 _)))]; rfl)) (QaY _ (by intro a ha; simp only [List.mem_cons, List.not_mem_nil, or_false] at ha; rcases ha with rfl | rfl | rfl; exact (QaA _ rfl); exact (Qa0 _ _); exact (QaA _ rfl)))) fun W10 p10 r7_10 => ?_
   have x10 : Qai [g, mg] w W10 := Qai.puts xx2 p10 (.inr b7)
   refine Qaa (.nilIface) 5 rfl kj kj ?_
   refine Qac ?_
   refine hK36 _ _ ?_
   refine wp_ret ?_
   repeat (first | with_reducible refine goR1 ?_ | with_reducible refine goR2 ?_)
   have r1_8 := (Qad q1_1 e8)
   have r1_9 := (Qai.row q9 r1_8 (Qan hgm (Qan (Ne.symm n_32_1) Qa6)))
   have r1_10 := (Puts.row p10 r1_9 (Ne.symm n_7_1))
   have r4_10 := (Puts.row p10 hes34 (Ne.symm n_7_4))
   have f37_3 := (hu10.ext e3)
   have f38_4 := (f37_3.puts p4 (Qf3 hu10 l11))
   have f39_5 := (Qfy f38_4 q5 nbg)
   have f40_6 := (f39_5.puts p6 nbm)
   have f41_7 := (OwnN.keepsL f40_6 q7 (Qcr nbg (Qcr nbm Qf2)))
   have f42_8 := (f41_7.ext e8)
   have f43_9 := (OwnN.keepsL f42_8 q9 (Qcr nbm (Qcr (Qf3 f41_7 l32) Qf2)))
   have f44_10 := (f43_9.puts p10 (Qcq hu10 (Qar r7_1)))
   exact (show bodyPost _ _ _ .ret _ _ from ret2 (.agg (cat [#[.int .i64 ((n : Nat) : Int)], ints .u8 ((keyV (itV sec (n - pl))).take 32), #[.slice a10_ (((keyV (itV sec (n - pl))).drop 32).length) c10_]])) (.nilIface) rfl (QaL g7 40 _ r7_10 kj kj (isz (n := 34) kj (by rw [Qae, Qae, Qae]; simp only [Array.size_append, cat, ((Qaf _ _).trans (QaG (Qa7 _)))]; rfl))) (Qa9 kj) ⟨_, rfl, x10, (by rw [← heq]; exact r1_10), (by have h9 : MpAt mg _ _ := ⟨_, _, r4_10, hM34⟩; rw [Qc0 (fun x => decide ((((n : Nat) : Int) + 1 - 1 - 64) ≤ x))] at h9; rw [← heq]; exact h9), _, rfl, OwnN.base x1.size f44_10⟩)
  ·skip
   have p10 := pN
   have x10 : Qai [g, mg] w WN := Qai.puts xx2 p10 (.inr b32)
   refine Qaa (.bool true) 81 rfl kj kj ?_
   refine Qac ?_
   refine hK33 _ _ ?_
   refine wp_seq_k fun K45 hK45 => ?_
   refine cond_true kj ?_
   refine wp_skip ?_
   refine hK45 _ _ ?_
   refine wp_block ?_
   refine wp_seq_k fun K46 hK46 => ?_
   refine Qab ?_
   refine Qaa (.tuple #[.int .i64 y, e.val]) 82 rfl kj (QdR _ rfl kj hen) ?_
   refine Qaa (.int .i64 y) 83 rfl kj kj ?_
   refine Qaa (.int .i64 y) 8 rfl kj kj ?_
   refine Qac ?_
   refine hK46 _ _ ?_
   refine wp_seq_k fun K47 hK47 => ?_
   refine Qab ?_
   refine Qaa (.int .i64 y) 84 rfl kj kj ?_
   refine Qaa (.pointer (some ⟨g, 0, none⟩)) 85 rfl kj kj ?_
   refine Qaa (.pointer (some ⟨g, 0, none⟩)) 86 rfl kj kj ?_
   refine Qaa (.pointer (some ⟨g, 0, none⟩)) 87 rfl kj kj ?_
   have r1_8 := (Qad q1_1 e8)
   have r1_9 := (Qai.row q9 r1_8 (Qan hgm (Qan (Ne.symm n_32_1) Qa6)))
   have r1_10 := (Puts.row p10 r1_9 (Ne.symm n_32_1))
   refine Qau (.int .i64 (((n : Nat) : Int) + 1 - 1)) 47 #[.pointer (some ⟨g, 0, none⟩)] 88 rfl kj kj (QfM g (((n : Nat) : Int) + 1) (B * 2 ^ a % 18446744073709551616 ||| 1 * 2 ^ (a - 1) % 18446744073709551616) (by omega) (Qfz _ _ (Nat.mod_lt _ (by decide)) (Nat.mod_lt _ (by decide))) _ _ mg (Qav hsec k) _ r1_10) fun W11 e11 => ?_
   have x11 : Qai [g, mg] w W11 := Qai.step x10 e11
   refine Qaa (.int .i64 (((n : Nat) : Int) + 1 - 1 - 64)) 89 rfl kj (Qah (u := .int .i64 (IntKind.i64.wrap ((((n : Nat) : Int) + 1 - 1) - 64))) kj (congrArg (Value.int .i64) (Qbo _ (by omega)))) ?_
   refine Qaa (.bool (decide (y < (((n : Nat) : Int) + 1 - 1 - 64)))) 90 rfl kj kj ?_
   refine Qac ?_
   refine hK47 _ _ ?_
   refine QaE (t := decide (y < (((n : Nat) : Int) + 1 - 1 - 64))) kj (fun c48 => ?_) (fun c48 => ?_)
   ·skip
    have hcut : (y < (((n : Nat) : Int) + 1 - 1 - 64)) := of_decide_eq_true c48
    refine Qab ?_
    refine Qaa (.pointer (some ⟨g, 0, none⟩)) 91 rfl kj kj ?_
    refine Qaa (.pointer (some ⟨g, 0, none⟩)) 92 rfl kj kj ?_
    refine Qaa (.pointer (some ⟨g, 35, none⟩)) 93 rfl kj kj ?_
    have r1_11 := (Qad r1_10 e11)
    refine Qaa (.map (some mg)) 94 rfl kj (Qal 82 _ g 35 84 _ (.map (some mg)) _ r1_11 rfl kj (Qat [#[.int .i64 (((n : Nat) : Int) + 1)], #[.int .u64 ((B * 2 ^ a % 18446744073709551616 ||| 1 * 2 ^ (a - 1) % 18446744073709551616 : Nat) : Int)], ints .u8 (itV sec k), #[.int .i64 ((pl + k : Nat) : Int)]] [#[.map (some mg)]] [] 35 (by rw [Qae, Qae, Qae, Qae]; simp only [Array.size_append, cat, ((Qaf _ _).trans (Qav hsec k))]; rfl) 0 _ rfl) kj) ?_
    refine Qaa (.int .i64 y) 95 rfl kj kj ?_
    refine Qe0 (kt := 3) (et := 93) (.tmp 94) (.tmp 95) 82 hM18 rfl kj kj kj kj (Qec hst e11) hy hcut rfl kj fun W12 p12 hrg2 => ?_
    have x12 : Qai [g, mg] w W12 := Qai.puts x11 p12 (.inl (by simp))
    refine Qac ?_
    repeat (first | with_reducible refine goX1 ?_ | with_reducible refine goX2 ?_ | with_reducible refine goX3 ?_)
    exact QaB (sn.push e.born) ⟨rfl, rfl, rfl, rfl, rfl, rfl, trivial⟩ ⟨hrg2, (Qai.puts (Qai.step (Qai.puts q9 p10 (.inl (by simp))) e11) p12 (.inl (by simp))), x12⟩ (Qcw.mu hst)
   ·skip
    have hcut : ¬ (y < (((n : Nat) : Int) + 1 - 1 - 64)) := of_decide_eq_false c48
    refine wp_skip ?_
    repeat (first | with_reducible refine goX1 ?_ | with_reducible refine goX2 ?_ | with_reducible refine goX3 ?_)
    exact QaB (sn.push e.born) ⟨rfl, rfl, rfl, rfl, rfl, rfl, trivial⟩ ⟨(Qcw.stay hM18 (Qec hst e11) (by rw [QgN hy]; exact decide_eq_true (Int.not_lt.1 hcut))), (Qai.step (Qai.puts q9 p10 (.inl (by simp))) e11), x11⟩ (Qcw.mu hst)
end Go.Proofs.YtibegnjaphohaaaDoor.Cn
end
section
namespace Go.Proofs.YtibegnjaphohaaaDoor.Cn
open Go Go.RowKit
open Rely Auto Own Sha
set_option linter.unusedVariables false
set_option linter.unusedSimpArgs false
def hiT (ts : List Int) : Int := ts.foldl (fun a x => if x > a then x else a) (-1)
theorem QcI (ts : List Int) (m : Int) : hiT (ts ++ [m]) = if m > hiT ts then m else hiT ts := by unfold hiT; rw [List.foldl_append]; rfl
theorem QgY (ts : List Int) : ∀ m ∈ ts, m ≤ hiT ts := by
  suffices h : ∀ (r : List Int), (∀ m ∈ r.reverse, m ≤ hiT r.reverse) by have := h ts.reverse; rwa [List.reverse_reverse] at this
  intro r
  induction r with
  | nil => intro m h; cases h
  | cons x r ih =>
    intro m h
    rw [List.reverse_cons] at h ⊢
    rw [QcI]
    rcases List.mem_append.1 h with h | h
    · have := ih m h; split <;> omega
    · have : m = x := by simpa using h
      subst this; split <;> omega
theorem QfC (ts : List Int) : hiT ts = -1 ∨ hiT ts ∈ ts := by
  suffices h : ∀ (r : List Int), (hiT r.reverse = -1 ∨ hiT r.reverse ∈ r.reverse) by have := h ts.reverse; rwa [List.reverse_reverse] at this
  intro r
  induction r with
  | nil => exact .inl rfl
  | cons x r ih =>
    rw [List.reverse_cons, QcI]
    split
    · exact .inr (by simp)
    · rcases ih with h | h
      · exact .inl h
      · exact .inr (List.mem_append_left _ h)
def chkT (ts : List Int) (n : Int) : Int := if n < 0 ∨ 4294967294 < n then 8 else if n < hiT ts - 64 then 11 else if n ∈ ts then 7 else 0
structure WInv (nx : Int) (B : Nat) (ts : List Int) : Prop where
  hnx : 0 ≤ nx ∧ nx ≤ 4294967295
  hB : B < 18446744073709551616
  hhi : hiT ts = nx - 1
  hrng : ∀ m ∈ ts, 0 ≤ m ∧ m < 4294967295
  hbits : ∀ k : Nat, k < 64 → 0 ≤ nx - 2 - k → (B.testBit k = true ↔ (nx - 2 - k) ∈ ts)
theorem QgS : WInv 0 0 [] := ⟨by omega, by decide, rfl, (fun m h => by cases h), (fun k hk h => by omega)⟩
theorem Qiq (B k : Nat) : B / 2 ^ k % 2 = 1 ↔ B.testBit k = true := by rw [Nat.testBit_eq_decide_div_mod_eq]; simp
theorem QfH {nx : Int} {B : Nat} {ts : List Int} (h : WInv nx B ts) (n : Int) : chkW nx B n = chkT ts n := by
  have hh := h.hhi
  unfold chkW chkT
  by_cases h1 : n < 0 ∨ 4294967295 ≤ n
  · rw [if_pos h1, if_pos (by omega)]
  · rw [if_neg h1, if_neg (show ¬ (n < 0 ∨ 4294967294 < n) by omega), hh]
    by_cases h2 : 64 < nx - 1 - n
    · rw [if_pos h2, if_pos (by omega)]
    · rw [if_neg h2, if_neg (show ¬ n < nx - 1 - 64 by omega)]
      by_cases h3 : n ∈ ts
      · have hle := QgY ts n h3
        rw [if_pos h3, if_pos ?_]
        by_cases h4 : nx - 1 - n = 0
        · exact .inl h4
        · refine .inr ⟨by omega, ?_⟩
          obtain ⟨j, hj⟩ := Int.eq_ofNat_of_zero_le (show 0 ≤ nx - 1 - n - 1 by omega)
          rw [hj, Int.toNat_natCast, Qiq, h.hbits j (by omega) (by omega), show nx - 2 - (j : Int) = n by omega]
          exact h3
      · rw [if_neg h3, if_neg ?_]
        rintro (h4 | ⟨h4, h5⟩)
        · rcases QfC ts with h6 | h6
          · omega
          · exact h3 (by rw [show n = hiT ts by omega]; exact h6)
        · obtain ⟨j, hj⟩ := Int.eq_ofNat_of_zero_le (show 0 ≤ nx - 1 - n - 1 by omega)
          rw [hj, Int.toNat_natCast, Qiq, h.hbits j (by omega) (by omega), show nx - 2 - (j : Int) = n by omega] at h5
          exact h3 h5
theorem QcN {ts : List Int} {n : Int} (h : chkT ts n = 0) : 0 ≤ n ∧ n < 4294967295 ∧ hiT ts - 64 ≤ n ∧ n ∉ ts := by
  unfold chkT at h
  split at h
  · omega
  · split at h
    · omega
    · split at h
      · omega
      · exact ⟨by omega, by omega, by omega, by assumption⟩
theorem QjX {nx : Int} {B : Nat} {ts : List Int} (h : WInv nx B ts) {n : Int} (hc : chkT ts n = 0) (j : Nat) (hj : nx - 1 - n - 1 = (j : Int)) (hj2 : j < 64) : WInv nx (B ||| 2 ^ j) (ts ++ [n]) := by
  obtain ⟨h0, h1, h2, h3⟩ := QcN hc
  have hh := h.hhi
  refine ⟨h.hnx, Qfz _ _ h.hB (Qfw j hj2), by rw [QcI, if_neg (by omega)]; exact hh, fun m hm => ?_, fun k hk hp => ?_⟩
  · rcases List.mem_append.1 hm with hm | hm
    · exact h.hrng m hm
    · have : m = n := by simpa using hm
      omega
  · rw [Nat.testBit_or, Nat.testBit_two_pow, Bool.or_eq_true, h.hbits k hk hp, List.mem_append]
    constructor
    · rintro (e | e)
      · exact .inl e
      · have : j = k := by simpa using e
        exact .inr (by simp; omega)
    · rintro (e | e)
      · exact .inl e
      · have : nx - 2 - (k : Int) = n := by simpa using e
        exact .inr (by simp; omega)
theorem QjW {nx : Int} {B : Nat} {ts : List Int} (h : WInv nx B ts) {n : Int} (hc : chkT ts n = 0) (a : Nat) (ha : n - (nx - 1) = (a : Int)) (ha1 : 1 ≤ a) :
    WInv (n + 1) (B * 2 ^ a % 18446744073709551616 ||| 1 * 2 ^ (a - 1) % 18446744073709551616) (ts ++ [n]) := by
  obtain ⟨h0, h1, h2, h3⟩ := QcN hc
  have hh := h.hhi
  have hn := h.hnx
  refine ⟨by omega, Qfz _ _ (Nat.mod_lt _ (by decide)) (Nat.mod_lt _ (by decide)), by rw [QcI, if_pos (by omega)]; omega, fun m hm => ?_, fun k hk hp => ?_⟩
  · rcases List.mem_append.1 hm with hm | hm
    · exact h.hrng m hm
    · have : m = n := by simpa using hm
      omega
  · have e64 : (18446744073709551616 : Nat) = 2 ^ 64 := by decide
    rw [Nat.testBit_or, e64, Nat.testBit_mod_two_pow, Nat.testBit_mod_two_pow, Nat.one_mul, Nat.testBit_two_pow, Nat.mul_comm B, Nat.testBit_two_pow_mul, List.mem_append]
    simp only [hk, decide_true, Bool.true_and, Bool.or_eq_true, Bool.and_eq_true, decide_eq_true_eq, List.mem_singleton, ge_iff_le]
    have hne : ¬ (n + 1 - 2 - (k : Int) = n) := by omega
    constructor
    · rintro (⟨e1, e2⟩ | e)
      · left
        rw [h.hbits (k - a) (by omega) (by omega)] at e2
        rwa [show n + 1 - 2 - (k : Int) = nx - 2 - ((k - a : Nat) : Int) by omega]
      · left
        have : n + 1 - 2 - (k : Int) = hiT ts := by omega
        rw [this]
        exact (QfC ts).resolve_left (by omega)
    · rintro (e | e)
      · have hle := QgY ts _ e
        by_cases hk2 : a ≤ k
        · left
          refine ⟨hk2, ?_⟩
          rw [h.hbits (k - a) (by omega) (by omega)]
          rwa [show nx - 2 - ((k - a : Nat) : Int) = n + 1 - 2 - (k : Int) by omega]
        · right; omega
      · exact absurd e hne
structure MsIs (s0 : List Int) (pl : Nat) (ts : List Int) (ms : List (Int × List Int)) : Prop where
  all : ∀ p ∈ ms, ∃ k : Nat, k < pl ∧ p = (((k : Nat) : Int), keyV (itV s0 k)) ∧ ((k : Nat) : Int) ∉ ts ∧ pl ≤ k + 65
  each : ∀ k : Nat, k < pl → ((k : Nat) : Int) ∉ ts → pl ≤ k + 65 → (((k : Nat) : Int), keyV (itV s0 k)) ∈ ms
structure ChSt (g mg : Nat) (s0 ts : List Int) (pl : Nat) (ms : List (Int × List Int)) (W : World) : Prop where
  len : s0.length = 32
  byt : Qao s0
  row : ∃ B, WInv ((pl : Nat) : Int) B ts ∧ W.heap[g]? = some (.cells (cat [#[.int .i64 ((pl : Nat) : Int)], #[.int .u64 ((B : Nat) : Int)], ints .u8 (itV s0 pl), #[.int .i64 ((pl : Nat) : Int)], #[.map (some mg)]]) 84)
  mp : MpAt mg (ms.map mpv) W
  is : MsIs s0 pl ts ms
theorem ChSt.keep {g mg : Nat} {s0 ts : List Int} {pl : Nat} {ms : List (Int × List Int)} {W W' : World} (h : ChSt g mg s0 ts pl ms W) (e1 : W'.heap[g]? = W.heap[g]?) (e2 : W'.heap[mg]? = W.heap[mg]?) : ChSt g mg s0 ts pl ms W' := by
  obtain ⟨B, h1, h2⟩ := h.row
  exact ⟨h.len, h.byt, ⟨B, h1, e1.trans h2⟩, h.mp.keep e2, h.is⟩
theorem ChSt.glt {g mg : Nat} {s0 ts : List Int} {pl : Nat} {ms : List (Int × List Int)} {W : World} (h : ChSt g mg s0 ts pl ms W) : g < W.heap.size := by obtain ⟨B, h1, h2⟩ := h.row; exact Qar h2
theorem ChSt.ext {g mg : Nat} {s0 ts : List Int} {pl : Nat} {ms : List (Int × List Int)} {W W' : World} (h : ChSt g mg s0 ts pl ms W) (e : Ext W W') : ChSt g mg s0 ts pl ms W' := h.keep (e.block g h.glt) (e.block mg h.mp.lt)
def Qc5 (ms : List (Int × List Int)) (s0 : List Int) (pl n : Nat) : List (Int × List Int) := Qgi (msNo ms ((n : Nat) : Int) ++ Qb2 (itV s0 pl) pl n (n + 1 - pl)) ((((max pl (n + 1)) : Nat) : Int) - 1 - 64)
def chkN (ts : List Int) (pl : Nat) (n : Int) : Int := if chkT ts n ≠ 0 then chkT ts n else if ((pl : Nat) : Int) + 256 < n then 12 else 0
theorem Qhk {pl B : Nat} {ts : List Int} (h : WInv ((pl : Nat) : Int) B ts) (n : Int) : chkC ((pl : Nat) : Int) B pl n = chkN ts pl n := by unfold chkC chkN; rw [QfH h]
theorem QdG {pl : Nat} {ts : List Int} {n : Int} (h : chkN ts pl n = 0) : chkT ts n = 0 ∧ n ≤ ((pl : Nat) : Int) + 256 := by
  unfold chkN at h
  split at h
  · rename_i h1; exact absurd h h1
  · rename_i h1
    split at h
    · cases h
    · exact ⟨by simpa using h1, by omega⟩
theorem MsIs.lt {s0 : List Int} {pl : Nat} {ts : List Int} {ms : List (Int × List Int)} (h : MsIs s0 pl ts ms) : ∀ p ∈ ms, p.1 < ((pl : Nat) : Int) := fun p hp => by
  obtain ⟨k, h1, h2, -⟩ := h.all p hp
  rw [h2]; show ((k : Nat) : Int) < _; omega
theorem MsIs.ok {s0 : List Int} {pl : Nat} {ts : List Int} {ms : List (Int × List Int)} (h : MsIs s0 pl ts ms) : MsOk ms := fun p hp => by
  obtain ⟨k, h1, h2, -⟩ := h.all p hp
  rw [h2]; show (keyV (itV s0 k)).length = 44 ∧ Qao (keyV (itV s0 k)); exact ⟨Qa7 _, QcY _⟩
theorem MsIs.get {s0 : List Int} {pl : Nat} {ts : List Int} {ms : List (Int × List Int)} (h : MsIs s0 pl ts ms) {k : Nat} (h1 : k < pl) (h2 : ((k : Nat) : Int) ∉ ts) (h3 : pl ≤ k + 65) : lget ms ((k : Nat) : Int) = keyV (itV s0 k) := by
  have hm := h.each k h1 h2 h3
  unfold lget
  cases hf : ms.find? (fun p => p.1 == ((k : Nat) : Int)) with
  | none =>
    rw [List.find?_eq_none] at hf
    exact absurd (by simp) (hf _ hm)
  | some p =>
    obtain ⟨j, q1, q2, -⟩ := h.all p (List.mem_of_find?_eq_some hf)
    have hk := List.find?_some hf
    rw [q2] at hk
    have hjk : ((j : Nat) : Int) = ((k : Nat) : Int) := by simpa using hk
    have : j = k := by omega
    subst this
    rw [q2]; rfl
theorem Qf5 (sec : List Int) (pl n : Nat) (p : Int × List Int) : ∀ k, p ∈ Qb2 sec pl n k ↔ ∃ j, j < k ∧ pl + j < n ∧ n ≤ pl + j + 64 ∧ p = (((pl + j : Nat) : Int), keyV (itV sec j))
  | 0 => ⟨fun h => absurd h List.not_mem_nil, fun ⟨j, h, _⟩ => absurd h (Nat.not_lt_zero _)⟩
  | k + 1 => by
    rw [Qb2, List.mem_append, Qf5 sec pl n p k]
    constructor
    · rintro (⟨j, h1, h2⟩ | h)
      · exact ⟨j, by omega, h2⟩
      · split at h
        · rename_i hc; rw [List.mem_singleton] at h; exact ⟨k, by omega, hc.1, hc.2, h⟩
        · cases h
    · rintro ⟨j, h1, h2, h3, h4⟩
      rcases Nat.lt_or_ge j k with h | h
      · exact .inl ⟨j, h, h2, h3, h4⟩
      · obtain rfl : j = k := by omega
        right; rw [if_pos ⟨h2, h3⟩, List.mem_singleton]; exact h4
theorem MsIs.take {s0 : List Int} {pl : Nat} {ts : List Int} {ms : List (Int × List Int)} (h : MsIs s0 pl ts ms) (n : Nat) (lim : Int) (hl : lim = (((max pl (n + 1)) : Nat) : Int) - 1 - 64) (hn : ((n : Nat) : Int) ∉ ts) (hts : ∀ m ∈ ts, m < ((pl : Nat) : Int)) : MsIs s0 (max pl (n + 1)) (ts ++ [((n : Nat) : Int)]) (Qgi (msNo ms ((n : Nat) : Int) ++ Qb2 (itV s0 pl) pl n (n + 1 - pl)) lim) := by
  have key : ∀ p, p ∈ Qgi (msNo ms ((n : Nat) : Int) ++ Qb2 (itV s0 pl) pl n (n + 1 - pl)) lim ↔ ((p ∈ ms ∧ p.1 ≠ ((n : Nat) : Int)) ∨ ∃ j, j < n + 1 - pl ∧ pl + j < n ∧ n ≤ pl + j + 64 ∧ p = (((pl + j : Nat) : Int), keyV (itV (itV s0 pl) j))) ∧ lim ≤ p.1 := fun p => by
    unfold Qgi msNo
    rw [List.mem_filter, List.mem_append, List.mem_filter, Qf5]
    simp only [bne_iff_ne, ne_eq, decide_eq_true_eq]
  refine ⟨fun p hp => ?_, fun k h1 h2 h3 => ?_⟩
  · obtain ⟨hp1, hp2⟩ := (key p).1 hp
    rcases hp1 with ⟨q1, q2⟩ | ⟨j, q1, q2, q3, q4⟩
    · obtain ⟨k, r1, r2, r3, r4⟩ := h.all p q1
      have e1 : p.1 = ((k : Nat) : Int) := by rw [r2]
      refine ⟨k, by omega, r2, fun hm => ?_, by omega⟩
      rcases List.mem_append.1 hm with hm | hm
      · exact r3 hm
      · rw [List.mem_singleton] at hm; exact q2 (e1.trans hm)
    · have e1 : p.1 = ((pl + j : Nat) : Int) := by rw [q4]
      refine ⟨pl + j, by omega, by rw [q4, QcZ], fun hm => ?_, by omega⟩
      rcases List.mem_append.1 hm with hm | hm
      · have := hts _ hm; omega
      · rw [List.mem_singleton] at hm; omega
  · refine (key _).2 ⟨?_, show lim ≤ ((k : Nat) : Int) by omega⟩
    have hk1 : ((k : Nat) : Int) ∉ ts := fun hm => h2 (List.mem_append.2 (.inl hm))
    have hk2 : k ≠ n := fun e => h2 (List.mem_append.2 (.inr (by rw [e]; exact List.mem_singleton.2 rfl)))
    rcases Nat.lt_or_ge k pl with hkp | hkp
    · exact .inl ⟨h.each k hkp hk1 (by omega), show ((k : Nat) : Int) ≠ _ by omega⟩
    · right
      refine ⟨k - pl, by omega, by omega, by omega, ?_⟩
      rw [QcZ, show pl + (k - pl) = k by omega]
theorem QfI {g mg : Nat} {s0 ts : List Int} {pl : Nat} {ms : List (Int × List Int)} {w : World} (h : ChSt g mg s0 ts pl ms w) (n : Int) : Calls Tryd.prog 32 #[.pointer (some ⟨g, 0, none⟩), .int .i64 n] w (Ret w (errV (chkN ts pl n))) := by
  obtain ⟨B, h1, h2⟩ := h.row
  have := QiH g _ B n h1.hnx h1.hB (itV s0 pl) pl mg (Qav h.len pl) w h2 (by have := h1.hnx; omega)
  rw [Qhk h1] at this
  exact this
section
variable {g mg : Nat} {s0 ts : List Int} {pl : Nat} {ms : List (Int × List Int)} {w : World} (tc tq : TypeId)
theorem Qju {B : Nat} (h1 : WInv ((pl : Nat) : Int) B ts) : ∀ m ∈ ts, m < ((pl : Nat) : Int) := fun m hm => by
  have := QgY ts m hm
  have := h1.hhi
  omega
theorem QjT (hc : w.heap[2]? = some (.cells (ints .u64 QaD) tc)) (hq : w.heap[1]? = some (.cells (ints .u64 Qam) tq)) (h : ChSt g mg s0 ts pl ms w) (n : Nat) (hc0 : chkN ts pl ((n : Nat) : Int) = 0) : Calls Tryd.prog 34 #[.pointer (some ⟨g, 0, none⟩), .int .i64 ((n : Nat) : Int)] w (Qce w (QbO w.heap.size ((n : Nat) : Int) (keyV (itV s0 n)))) := by
  obtain ⟨B, h1, h2⟩ := h.row
  obtain ⟨k1, k2⟩ := QdG hc0
  obtain ⟨k3, k4, k5, k6⟩ := QcN k1
  have hhi := h1.hhi
  have hnx := h1.hnx
  rcases Nat.lt_or_ge n pl with hn | hn
  · have := Qim g _ B h1.hnx h1.hB (itV s0 pl) pl mg (Qav h.len pl) w h2 ms h.is.ok h.mp tc tq hc hq (QaU h.byt pl) ((n : Nat) : Int) (by omega)
    rw [h.is.get hn k6 (by omega)] at this
    exact this
  · have := Qil g _ B h1.hnx h1.hB (itV s0 pl) pl mg (Qav h.len pl) w h2 ms h.is.ok h.mp tc tq hc hq (QaU h.byt pl) n (by omega) (by omega) hn
    rw [QcZ, show pl + (n - pl) = n by omega] at this
    exact this
theorem QjH (hc : w.heap[2]? = some (.cells (ints .u64 QaD) tc)) (hq : w.heap[1]? = some (.cells (ints .u64 Qam) tq)) (h : ChSt g mg s0 ts pl ms w) (n : Nat) (hc0 : chkN ts pl ((n : Nat) : Int) = 0) (hcg : 2 ≠ g) (hsg : 1 ≠ g) : Calls Tryd.prog 33 #[.pointer (some ⟨g, 0, none⟩), .int .i64 ((n : Nat) : Int)] w (fun e W => ∃ v, e = .returned (.tuple #[v, .nilIface]) ∧ Qai [g, mg] w W ∧ ChSt g mg s0 (ts ++ [((n : Nat) : Int)]) (max pl (n + 1)) (Qc5 ms s0 pl n) W ∧ QbO w.heap.size ((n : Nat) : Int) (keyV (itV s0 n)) v W) := by
  obtain ⟨B, h1, h2⟩ := h.row
  obtain ⟨k1, k2⟩ := QdG hc0
  obtain ⟨k3, k4, k5, k6⟩ := QcN k1
  have hhi := h1.hhi
  have hnx := h1.hnx
  have hw0 : chkW ((pl : Nat) : Int) B ((n : Nat) : Int) = 0 := by rw [QfH h1]; exact k1
  rcases Nat.lt_or_ge n pl with hn | hn
  · have hne : ((n : Nat) : Int) ≠ ((pl : Nat) : Int) - 1 := fun e => by
      rcases QfC ts with q | q
      · omega
      · rw [hhi, ← e] at q; exact k6 q
    obtain ⟨j, hj⟩ : ∃ j : Nat, ((pl : Nat) : Int) - 1 - ((n : Nat) : Int) - 1 = ((j : Nat) : Int) := ⟨pl - 1 - n - 1, by omega⟩
    refine (Qjc g _ B h1.hnx h1.hB (itV s0 pl) pl mg (Qav h.len pl) w h2 ms h.is.ok h.mp tc tq hc hq (QaU h.byt pl) n (by omega) (by omega) h.is.lt hcg hsg hw0 hn j hj (by omega)).mono ?_
    rintro e W ⟨v, rfl, q1, q2, q3, q4⟩
    have ek : n + 1 - pl = 0 := by omega
    have em : max pl (n + 1) = pl := by omega
    have hI := h.is.take n _ rfl k6 (Qju h1)
    rw [h.is.get hn k6 (by omega)] at q4
    rw [ek] at q2
    rw [show ((pl : Nat) : Int) - 1 - 64 = (((max pl (n + 1)) : Nat) : Int) - 1 - 64 by rw [em]] at q3
    refine ⟨v, rfl, q1, ⟨h.len, h.byt, ?_, q3, hI⟩, q4⟩
    rw [em]
    exact ⟨_, QjX h1 k1 j hj (by omega), q2⟩
  · obtain ⟨a, ha⟩ : ∃ a : Nat, ((n : Nat) : Int) - (((pl : Nat) : Int) - 1) = ((a : Nat) : Int) := ⟨n + 1 - pl, by omega⟩
    refine (Qjb g _ B h1.hnx h1.hB (itV s0 pl) pl mg (Qav h.len pl) w h2 ms h.is.ok h.mp tc tq hc hq (QaU h.byt pl) n (by omega) (by omega) h.is.lt hcg hsg hw0 hn a ha (by omega)).mono ?_
    rintro e W ⟨v, rfl, q1, q2, q3, q4⟩
    have em : max pl (n + 1) = n + 1 := by omega
    have hI := h.is.take n _ rfl k6 (Qju h1)
    rw [QcZ, show pl + (n - pl) = n by omega] at q4
    rw [QcZ, show pl + (n + 1 - pl) = n + 1 by omega] at q2
    have hW := QjW h1 k1 a ha (by omega)
    rw [show ((n : Nat) : Int) + 1 = ((n + 1 : Nat) : Int) by omega] at q2 hW
    rw [show ((n : Nat) : Int) + 1 - 1 - 64 = (((max pl (n + 1)) : Nat) : Int) - 1 - 64 by rw [em]; omega] at q3
    refine ⟨v, rfl, q1, ⟨h.len, h.byt, ?_, q3, hI⟩, q4⟩
    rw [em]
    exact ⟨_, hW, q2⟩
end
end Go.Proofs.YtibegnjaphohaaaDoor.Cn
end
section
namespace Go.Proofs.YtibegnjaphohaaaDoor.Cn
open Go Go.RowKit
open Rely Auto Own Sha
set_option linter.unusedVariables false
set_option linter.unusedSimpArgs false
theorem QeY {P : Program} {ρ : Operand → Value} {o : Oper} {w : World} (ty : TypeId) (x : Operand) (g off : Nat) (t : TypeId) (cs : Array Value) (v : Value) (hg : w.heap[g]? = some (.cells cs t)) (hv : cs[off]? = some v)
    (ho : o.op = .load ty x) (hx : ρ x = .pointer (some ⟨g, off, none⟩)) (hu : aggD P ty = some false) : (execOp ρ o).run P w = .ok (.value v) w := Qal ty x g off t cs v _ hg ho hx hv hu
set_option maxHeartbeats 4000000 in
theorem at_I (gc gl len cap : Nat) (lp : Array Value) (w : World) (hgc : w.heap[gc]? = some (.cells #[.slice (some ⟨gl, 0, none⟩) len cap] 70)) (hgl : w.heap[gl]? = some (.cells lp 75)) (g i : Nat) (hi : i < len) (hli : lp[i]? = some (.pointer (some ⟨g, 0, none⟩))) : Calls Tryd.prog 31 #[.pointer (some ⟨gc, 0, none⟩), .int .i64 ((i : Nat) : Int)] w (Ret w (.pointer (some ⟨g, 0, none⟩))) := by
  refine enter 27 [(0, .pointer (some ⟨gc, 0, none⟩)), (1, .int .i64 ((i : Nat) : Int))] Tryd.func31 rfl rfl kj rfl ?_
  refine wp_seq_k fun K3 hK3 => ?_
  refine Qab ?_
  refine Qaa (.pointer none) 4 rfl kj kj ?_
  refine Qac ?_
  refine hK3 _ _ ?_
  refine wp_seq_k fun K4 hK4 => ?_
  refine wp_seq_k fun K5 hK5 => ?_
  refine Qab ?_
  refine Qaa (.pointer (some ⟨gc, 0, none⟩)) 5 rfl kj kj ?_
  refine Qaa (.bool false) 6 rfl kj kj ?_
  refine Qaa (.bool false) 7 rfl kj kj ?_
  refine Qaa (.int .i64 ((i : Nat) : Int)) 8 rfl kj kj ?_
  refine Qaa (.bool false) 9 rfl kj (Qah (u := .bool (decide (((i : Nat) : Int) < 0))) kj (congrArg Value.bool (decide_eq_false (by omega)))) ?_
  refine Qaa (.bool false) 10 rfl kj kj ?_
  refine Qaa (.bool false) 11 rfl kj kj ?_
  refine Qaa (.int .i64 ((i : Nat) : Int)) 12 rfl kj kj ?_
  refine Qaa (.pointer (some ⟨gc, 0, none⟩)) 13 rfl kj kj ?_
  refine Qaa (.pointer (some ⟨gc, 0, none⟩)) 14 rfl kj kj ?_
  refine Qaa (.pointer (some ⟨gc, 0, none⟩)) 15 rfl kj kj ?_
  refine Qaa (.slice (some ⟨gl, 0, none⟩) len cap) 16 rfl kj (Qal 68 _ gc 0 70 _ (.slice (some ⟨gl, 0, none⟩) len cap) _ hgc rfl kj kj kj) ?_
  refine Qaa (.int .i64 ((len : Nat) : Int)) 17 rfl kj kj ?_
  refine Qaa (.bool false) 18 rfl kj (Qah (u := .bool (decide (((i : Nat) : Int) ≥ ((len : Nat) : Int)))) kj (congrArg Value.bool (decide_eq_false (by omega)))) ?_
  refine Qaa (.bool false) 19 rfl kj kj ?_
  refine Qac ?_
  refine hK5 _ _ ?_
  refine cond_false kj ?_
  refine wp_skip ?_
  refine hK4 _ _ ?_
  refine wp_seq_k fun K6 hK6 => ?_
  refine Qab ?_
  refine Qaa (.pointer (some ⟨gc, 0, none⟩)) 20 rfl kj kj ?_
  refine Qaa (.pointer (some ⟨gc, 0, none⟩)) 21 rfl kj kj ?_
  refine Qaa (.pointer (some ⟨gc, 0, none⟩)) 22 rfl kj kj ?_
  refine Qaa (.slice (some ⟨gl, 0, none⟩) len cap) 23 rfl kj (Qal 68 _ gc 0 70 _ (.slice (some ⟨gl, 0, none⟩) len cap) _ hgc rfl kj kj kj) ?_
  refine Qaa (.int .i64 ((i : Nat) : Int)) 24 rfl kj kj ?_
  refine Qaa (.pointer (some ⟨gl, i, none⟩)) 25 rfl kj (QbC 68 _ _ .i64 i gl len cap 75 rfl kj kj kj kj hi) ?_
  refine Qaa (.pointer (some ⟨g, 0, none⟩)) 26 rfl kj (QeY 75 _ gl i 75 lp (.pointer (some ⟨g, 0, none⟩)) hgl hli rfl kj kj) ?_
  refine Qaa (.pointer (some ⟨g, 0, none⟩)) 4 rfl kj kj ?_
  refine Qac ?_
  refine hK6 _ _ ?_
  refine wp_ret ?_
  repeat (first | with_reducible refine goR1 ?_ | with_reducible refine goR2 ?_)
  exact (show bodyPost _ _ _ .ret _ _ from ret1 (.pointer (some ⟨g, 0, none⟩)) rfl (Qa9 kj) ⟨rfl, (Rely.Ext.refl w)⟩)
set_option maxHeartbeats 4000000 in
theorem at_L (gc gl len cap : Nat) (lp : Array Value) (w : World) (hgc : w.heap[gc]? = some (.cells #[.slice (some ⟨gl, 0, none⟩) len cap] 70)) (hgl : w.heap[gl]? = some (.cells lp 75)) (n : Int) (hn : n < 0) : Calls Tryd.prog 31 #[.pointer (some ⟨gc, 0, none⟩), .int .i64 n] w (Ret w (.pointer none)) := by
  refine enter 27 [(0, .pointer (some ⟨gc, 0, none⟩)), (1, .int .i64 n)] Tryd.func31 rfl rfl kj rfl ?_
  refine wp_seq_k fun K3 hK3 => ?_
  refine Qab ?_
  refine Qaa (.pointer none) 4 rfl kj kj ?_
  refine Qac ?_
  refine hK3 _ _ ?_
  refine wp_seq_k fun K4 hK4 => ?_
  refine wp_seq_k fun K5 hK5 => ?_
  refine Qab ?_
  refine Qaa (.pointer (some ⟨gc, 0, none⟩)) 5 rfl kj kj ?_
  refine Qaa (.bool false) 6 rfl kj kj ?_
  refine Qaa (.bool false) 7 rfl kj kj ?_
  refine Qaa (.int .i64 n) 8 rfl kj kj ?_
  refine Qaa (.bool true) 9 rfl kj (Qah (u := .bool (decide (n < 0))) kj (congrArg Value.bool (decide_eq_true (by omega)))) ?_
  refine Qaa (.bool true) 10 rfl kj kj ?_
  refine Qaa (.bool true) 11 rfl kj kj ?_
  refine Qax 12 rfl kj ?_
  refine Qax 13 rfl kj ?_
  refine Qax 14 rfl kj ?_
  refine Qax 15 rfl kj ?_
  refine Qax 16 rfl kj ?_
  refine Qax 17 rfl kj ?_
  refine Qax 18 rfl kj ?_
  refine Qaa (.bool true) 19 rfl kj kj ?_
  refine Qac ?_
  refine hK5 _ _ ?_
  refine cond_true kj ?_
  refine wp_seq_k fun K6 hK6 => ?_
  refine Qab ?_
  refine Qaa (.pointer none) 4 rfl kj kj ?_
  refine Qac ?_
  refine hK6 _ _ ?_
  refine wp_ret ?_
  repeat (first | with_reducible refine goR1 ?_ | with_reducible refine goR2 ?_)
  exact (show bodyPost _ _ _ .ret _ _ from ret1 (.pointer none) rfl (Qa9 kj) ⟨rfl, (Rely.Ext.refl w)⟩)
set_option maxHeartbeats 4000000 in
theorem at_G (gc gl len cap : Nat) (lp : Array Value) (w : World) (hgc : w.heap[gc]? = some (.cells #[.slice (some ⟨gl, 0, none⟩) len cap] 70)) (hgl : w.heap[gl]? = some (.cells lp 75)) (n : Int) (hn0 : 0 ≤ n) (hn : ((len : Nat) : Int) ≤ n) : Calls Tryd.prog 31 #[.pointer (some ⟨gc, 0, none⟩), .int .i64 n] w (Ret w (.pointer none)) := by
  refine enter 27 [(0, .pointer (some ⟨gc, 0, none⟩)), (1, .int .i64 n)] Tryd.func31 rfl rfl kj rfl ?_
  refine wp_seq_k fun K3 hK3 => ?_
  refine Qab ?_
  refine Qaa (.pointer none) 4 rfl kj kj ?_
  refine Qac ?_
  refine hK3 _ _ ?_
  refine wp_seq_k fun K4 hK4 => ?_
  refine wp_seq_k fun K5 hK5 => ?_
  refine Qab ?_
  refine Qaa (.pointer (some ⟨gc, 0, none⟩)) 5 rfl kj kj ?_
  refine Qaa (.bool false) 6 rfl kj kj ?_
  refine Qaa (.bool false) 7 rfl kj kj ?_
  refine Qaa (.int .i64 n) 8 rfl kj kj ?_
  refine Qaa (.bool false) 9 rfl kj (Qah (u := .bool (decide (n < 0))) kj (congrArg Value.bool (decide_eq_false (by omega)))) ?_
  refine Qaa (.bool false) 10 rfl kj kj ?_
  refine Qaa (.bool false) 11 rfl kj kj ?_
  refine Qaa (.int .i64 n) 12 rfl kj kj ?_
  refine Qaa (.pointer (some ⟨gc, 0, none⟩)) 13 rfl kj kj ?_
  refine Qaa (.pointer (some ⟨gc, 0, none⟩)) 14 rfl kj kj ?_
  refine Qaa (.pointer (some ⟨gc, 0, none⟩)) 15 rfl kj kj ?_
  refine Qaa (.slice (some ⟨gl, 0, none⟩) len cap) 16 rfl kj (Qal 68 _ gc 0 70 _ (.slice (some ⟨gl, 0, none⟩) len cap) _ hgc rfl kj kj kj) ?_
  refine Qaa (.int .i64 ((len : Nat) : Int)) 17 rfl kj kj ?_
  refine Qaa (.bool true) 18 rfl kj (Qah (u := .bool (decide (n ≥ ((len : Nat) : Int)))) kj (congrArg Value.bool (decide_eq_true (by omega)))) ?_
  refine Qaa (.bool true) 19 rfl kj kj ?_
  refine Qac ?_
  refine hK5 _ _ ?_
  refine cond_true kj ?_
  refine wp_seq_k fun K6 hK6 => ?_
  refine Qab ?_
  refine Qaa (.pointer none) 4 rfl kj kj ?_
  refine Qac ?_
  refine hK6 _ _ ?_
  refine wp_ret ?_
  repeat (first | with_reducible refine goR1 ?_ | with_reducible refine goR2 ?_)
  exact (show bodyPost _ _ _ .ret _ _ from ret1 (.pointer none) rfl (Qa9 kj) ⟨rfl, (Rely.Ext.refl w)⟩)
theorem at_O (gc gl len cap : Nat) (lp : Array Value) (w : World) (hgc : w.heap[gc]? = some (.cells #[.slice (some ⟨gl, 0, none⟩) len cap] 70)) (hgl : w.heap[gl]? = some (.cells lp 75)) (n : Int) (hn : n < 0 ∨ ((len : Nat) : Int) ≤ n) : Calls Tryd.prog 31 #[.pointer (some ⟨gc, 0, none⟩), .int .i64 n] w (Ret w (.pointer none)) := by
  by_cases h : n < 0
  · exact at_L gc gl len cap lp w hgc hgl n h
  · exact at_G gc gl len cap lp w hgc hgl n (by omega) (by omega)
set_option maxHeartbeats 4000000 in
theorem Qiy (gc gl len cap : Nat) (lp : Array Value) (w : World) (hgc : w.heap[gc]? = some (.cells #[.slice (some ⟨gl, 0, none⟩) len cap] 70)) (hgl : w.heap[gl]? = some (.cells lp 75)) (g i : Nat) (hi : i < len) (hli : lp[i]? = some (.pointer (some ⟨g, 0, none⟩))) {mg pl : Nat} {s0 ts : List Int} {ms : List (Int × List Int)} (hch : ChSt g mg s0 ts pl ms w) : Calls Tryd.prog 16 #[.pointer (some ⟨gc, 0, none⟩), .int .i64 ((i : Nat) : Int)] w (Ret w (.int .i64 ((pl : Nat) : Int))) := by
  obtain ⟨B, hW, hrg⟩ := hch.row
  refine enter 15 [(0, .pointer (some ⟨gc, 0, none⟩)), (1, .int .i64 ((i : Nat) : Int))] Tryd.func16 rfl rfl kj rfl ?_
  refine wp_seq_k fun K4 hK4 => ?_
  refine Qab ?_
  refine Qaa (.int .i64 0) 4 rfl kj kj ?_
  refine Qac ?_
  refine hK4 _ _ ?_
  refine wp_seq_k fun K5 hK5 => ?_
  refine Qab ?_
  refine Qaa (.pointer (some ⟨gc, 0, none⟩)) 6 rfl kj kj ?_
  refine Qaa (.int .i64 ((i : Nat) : Int)) 7 rfl kj kj ?_
  refine Qau (.pointer (some ⟨g, 0, none⟩)) 31 #[.pointer (some ⟨gc, 0, none⟩), .int .i64 ((i : Nat) : Int)] 8 rfl kj kj (at_I gc gl len cap lp _ hgc hgl g i hi hli) fun W1 e1 => ?_
  have x1 : Ext w W1 := Ext.tr (Rely.Ext.refl w) e1
  refine Qaa (.pointer (some ⟨g, 0, none⟩)) 5 rfl kj kj ?_
  refine Qac ?_
  refine hK5 _ _ ?_
  refine wp_seq_k fun K6 hK6 => ?_
  refine wp_seq_k fun K7 hK7 => ?_
  refine Qab ?_
  refine Qaa (.pointer (some ⟨g, 0, none⟩)) 9 rfl kj kj ?_
  refine Qaa (.bool false) 10 rfl kj kj ?_
  refine Qac ?_
  refine hK7 _ _ ?_
  refine cond_false kj ?_
  refine wp_skip ?_
  refine hK6 _ _ ?_
  refine wp_seq_k fun K8 hK8 => ?_
  refine Qab ?_
  refine Qaa (.pointer (some ⟨g, 0, none⟩)) 11 rfl kj kj ?_
  refine Qaa (.pointer (some ⟨g, 0, none⟩)) 12 rfl kj kj ?_
  refine Qaa (.pointer (some ⟨g, 34, none⟩)) 13 rfl kj kj ?_
  have r3_1 := (Qad hrg e1)
  refine Qaa (.int .i64 ((pl : Nat) : Int)) 14 rfl kj (Qal 3 _ g 34 84 _ (.int .i64 ((pl : Nat) : Int)) _ r3_1 rfl kj (Qat [#[.int .i64 ((pl : Nat) : Int)], #[.int .u64 ((B : Nat) : Int)], ints .u8 (itV s0 pl)] [#[.int .i64 ((pl : Nat) : Int)]] [#[.map (some mg)]] 34 (by rw [Qae, Qae, Qae]; simp only [Array.size_append, cat, ((Qaf _ _).trans (Qav hch.len pl))]; rfl) 0 _ rfl) kj) ?_
  refine Qaa (.int .i64 ((pl : Nat) : Int)) 4 rfl kj kj ?_
  refine Qac ?_
  refine hK8 _ _ ?_
  refine wp_ret ?_
  repeat (first | with_reducible refine goR1 ?_ | with_reducible refine goR2 ?_)
  exact (show bodyPost _ _ _ .ret _ _ from ret1 (.int .i64 ((pl : Nat) : Int)) rfl (Qa9 kj) ⟨rfl, x1⟩)
set_option maxHeartbeats 4000000 in
theorem Qix (gc gl len cap : Nat) (lp : Array Value) (w : World) (hgc : w.heap[gc]? = some (.cells #[.slice (some ⟨gl, 0, none⟩) len cap] 70)) (hgl : w.heap[gl]? = some (.cells lp 75)) (n : Int) (hn : n < 0 ∨ ((len : Nat) : Int) ≤ n) : Calls Tryd.prog 16 #[.pointer (some ⟨gc, 0, none⟩), .int .i64 n] w (Ret w (.int .i64 (-1))) := by
  refine enter 15 [(0, .pointer (some ⟨gc, 0, none⟩)), (1, .int .i64 n)] Tryd.func16 rfl rfl kj rfl ?_
  refine wp_seq_k fun K3 hK3 => ?_
  refine Qab ?_
  refine Qaa (.int .i64 0) 4 rfl kj kj ?_
  refine Qac ?_
  refine hK3 _ _ ?_
  refine wp_seq_k fun K4 hK4 => ?_
  refine Qab ?_
  refine Qaa (.pointer (some ⟨gc, 0, none⟩)) 6 rfl kj kj ?_
  refine Qaa (.int .i64 n) 7 rfl kj kj ?_
  refine Qau (.pointer none) 31 #[.pointer (some ⟨gc, 0, none⟩), .int .i64 n] 8 rfl kj kj (at_O gc gl len cap lp _ hgc hgl n hn) fun W1 e1 => ?_
  have x1 : Ext w W1 := Ext.tr (Rely.Ext.refl w) e1
  refine Qaa (.pointer none) 5 rfl kj kj ?_
  refine Qac ?_
  refine hK4 _ _ ?_
  refine wp_seq_k fun K5 hK5 => ?_
  refine wp_seq_k fun K6 hK6 => ?_
  refine Qab ?_
  refine Qaa (.pointer none) 9 rfl kj kj ?_
  refine Qaa (.bool true) 10 rfl kj kj ?_
  refine Qac ?_
  refine hK6 _ _ ?_
  refine cond_true kj ?_
  refine wp_seq_k fun K7 hK7 => ?_
  refine Qab ?_
  refine Qaa (.int .i64 (-1)) 4 rfl kj kj ?_
  refine Qac ?_
  refine hK7 _ _ ?_
  refine wp_ret ?_
  repeat (first | with_reducible refine goR1 ?_ | with_reducible refine goR2 ?_)
  exact (show bodyPost _ _ _ .ret _ _ from ret1 (.int .i64 (-1)) rfl (Qa9 kj) ⟨rfl, x1⟩)
set_option maxHeartbeats 4000000 in
theorem Qjv (gc gl len cap : Nat) (lp : Array Value) (w : World) (hgc : w.heap[gc]? = some (.cells #[.slice (some ⟨gl, 0, none⟩) len cap] 70)) (hgl : w.heap[gl]? = some (.cells lp 75)) (g i : Nat) (hi : i < len) (hli : lp[i]? = some (.pointer (some ⟨g, 0, none⟩))) {mg pl : Nat} {s0 ts : List Int} {ms : List (Int × List Int)} (hch : ChSt g mg s0 ts pl ms w) : Calls Tryd.prog 17 #[.pointer (some ⟨gc, 0, none⟩), .int .i64 ((i : Nat) : Int)] w (Ret w (.int .i64 ((ms.length : Nat) : Int))) := by
  obtain ⟨B, hW, hrg⟩ := hch.row
  refine enter 16 [(0, .pointer (some ⟨gc, 0, none⟩)), (1, .int .i64 ((i : Nat) : Int))] Tryd.func17 rfl rfl kj rfl ?_
  refine wp_seq_k fun K4 hK4 => ?_
  refine Qab ?_
  refine Qaa (.int .i64 0) 4 rfl kj kj ?_
  refine Qac ?_
  refine hK4 _ _ ?_
  refine wp_seq_k fun K5 hK5 => ?_
  refine Qab ?_
  refine Qaa (.pointer (some ⟨gc, 0, none⟩)) 6 rfl kj kj ?_
  refine Qaa (.int .i64 ((i : Nat) : Int)) 7 rfl kj kj ?_
  refine Qau (.pointer (some ⟨g, 0, none⟩)) 31 #[.pointer (some ⟨gc, 0, none⟩), .int .i64 ((i : Nat) : Int)] 8 rfl kj kj (at_I gc gl len cap lp _ hgc hgl g i hi hli) fun W1 e1 => ?_
  have x1 : Ext w W1 := Ext.tr (Rely.Ext.refl w) e1
  refine Qaa (.pointer (some ⟨g, 0, none⟩)) 5 rfl kj kj ?_
  refine Qac ?_
  refine hK5 _ _ ?_
  refine wp_seq_k fun K6 hK6 => ?_
  refine wp_seq_k fun K7 hK7 => ?_
  refine Qab ?_
  refine Qaa (.pointer (some ⟨g, 0, none⟩)) 9 rfl kj kj ?_
  refine Qaa (.bool false) 10 rfl kj kj ?_
  refine Qac ?_
  refine hK7 _ _ ?_
  refine cond_false kj ?_
  refine wp_skip ?_
  refine hK6 _ _ ?_
  refine wp_seq_k fun K8 hK8 => ?_
  refine Qab ?_
  refine Qaa (.pointer (some ⟨g, 0, none⟩)) 11 rfl kj kj ?_
  refine Qaa (.pointer (some ⟨g, 0, none⟩)) 12 rfl kj kj ?_
  refine Qaa (.pointer (some ⟨g, 35, none⟩)) 13 rfl kj kj ?_
  have r3_1 := (Qad hrg e1)
  refine Qaa (.map (some mg)) 14 rfl kj (Qal 82 _ g 35 84 _ (.map (some mg)) _ r3_1 rfl kj (Qat [#[.int .i64 ((pl : Nat) : Int)], #[.int .u64 ((B : Nat) : Int)], ints .u8 (itV s0 pl), #[.int .i64 ((pl : Nat) : Int)]] [#[.map (some mg)]] [] 35 (by rw [Qae, Qae, Qae, Qae]; simp only [Array.size_append, cat, ((Qaf _ _).trans (Qav hch.len pl))]; rfl) 0 _ rfl) kj) ?_
  refine Qaa (.int .i64 ((ms.length : Nat) : Int)) 15 rfl kj ((Qhz (ms := ms.map mpv) _ 82 (kt := 3) (et := 93) rfl kj kj (MpAt.ext hch.mp x1)).trans (by rw [List.length_map])) ?_
  refine Qaa (.int .i64 ((ms.length : Nat) : Int)) 4 rfl kj kj ?_
  refine Qac ?_
  refine hK8 _ _ ?_
  refine wp_ret ?_
  repeat (first | with_reducible refine goR1 ?_ | with_reducible refine goR2 ?_)
  exact (show bodyPost _ _ _ .ret _ _ from ret1 (.int .i64 ((ms.length : Nat) : Int)) rfl (Qa9 kj) ⟨rfl, x1⟩)
set_option maxHeartbeats 4000000 in
theorem Qjs (gc gl len cap : Nat) (lp : Array Value) (w : World) (hgc : w.heap[gc]? = some (.cells #[.slice (some ⟨gl, 0, none⟩) len cap] 70)) (hgl : w.heap[gl]? = some (.cells lp 75)) (g i : Nat) (hi : i < len) (hli : lp[i]? = some (.pointer (some ⟨g, 0, none⟩))) (tc tq : TypeId) (hc : w.heap[2]? = some (.cells (ints .u64 QaD) tc)) (hq : w.heap[1]? = some (.cells (ints .u64 Qam) tq)) {mg pl : Nat} {s0 ts : List Int} {ms : List (Int × List Int)} (hch : ChSt g mg s0 ts pl ms w) (m : Int) (he : chkN ts pl m ≠ 0) : Calls Tryd.prog 14 #[.pointer (some ⟨gc, 0, none⟩), .int .i64 ((i : Nat) : Int), .int .i64 m] w (Ret w (.tuple #[.agg (cat [#[.int .i64 0], ints .u8 (List.replicate 32 0), #[.slice none 0 0]]), .iface 47 (.int .i64 (chkN ts pl m))])) := by
  refine enter 27 [(0, .pointer (some ⟨gc, 0, none⟩)), (1, .int .i64 ((i : Nat) : Int)), (2, .int .i64 m)] Tryd.func14 rfl rfl kj rfl ?_
  refine wp_seq_k fun K5 hK5 => ?_
  refine Qab ?_
  refine Qas (cat [#[.int .i64 0], ints .u8 (List.replicate 32 0), #[.slice none 0 0]]) 40 6 rfl kj kj fun g6 W1 l6 e1 r6_1 => ?_
  have x1 : Ext w W1 := Ext.tr (Rely.Ext.refl w) e1
  have b6 : w.heap.size ≤ g6 := Nat.le_trans (Rely.Ext.refl w).size l6
  refine Qaa (.nilIface) 7 rfl kj kj ?_
  refine Qac ?_
  refine hK5 _ _ ?_
  refine wp_seq_k fun K7 hK7 => ?_
  refine Qab ?_
  refine Qaa (.pointer (some ⟨gc, 0, none⟩)) 10 rfl kj kj ?_
  refine Qaa (.int .i64 ((i : Nat) : Int)) 11 rfl kj kj ?_
  have r1_1 := (Qad hgc e1)
  have r2_1 := (Qad hgl e1)
  refine Qau (.pointer (some ⟨g, 0, none⟩)) 31 #[.pointer (some ⟨gc, 0, none⟩), .int .i64 ((i : Nat) : Int)] 12 rfl kj kj (at_I gc gl len cap lp _ r1_1 r2_1 g i hi hli) fun W2 e2 => ?_
  have x2 : Ext w W2 := Ext.tr x1 e2
  refine Qaa (.pointer (some ⟨g, 0, none⟩)) 8 rfl kj kj ?_
  refine Qac ?_
  refine hK7 _ _ ?_
  refine wp_seq_k fun K8 hK8 => ?_
  refine wp_seq_k fun K9 hK9 => ?_
  refine Qab ?_
  refine Qaa (.pointer (some ⟨g, 0, none⟩)) 13 rfl kj kj ?_
  refine Qaa (.bool false) 14 rfl kj kj ?_
  refine Qac ?_
  refine hK9 _ _ ?_
  refine cond_false kj ?_
  refine wp_skip ?_
  refine hK8 _ _ ?_
  refine wp_seq_k fun K10 hK10 => ?_
  refine wp_seq_k fun K11 hK11 => ?_
  refine Qab ?_
  refine Qaa (.pointer (some ⟨g, 0, none⟩)) 17 rfl kj kj ?_
  refine Qaa (.int .i64 m) 18 rfl kj kj ?_
  refine Qau (.iface 47 (.int .i64 (chkN ts pl m))) 32 #[.pointer (some ⟨g, 0, none⟩), .int .i64 m] 19 rfl kj kj (Qer he ▸ QfI (hch.ext x2) m) fun W3 e3 => ?_
  have x3 : Ext w W3 := Ext.tr x2 e3
  refine Qaa (.iface 47 (.int .i64 (chkN ts pl m))) 9 rfl kj kj ?_
  refine Qac ?_
  refine hK11 _ _ ?_
  refine wp_seq_k fun K12 hK12 => ?_
  refine Qab ?_
  refine Qaa (.iface 47 (.int .i64 (chkN ts pl m))) 20 rfl kj kj ?_
  refine Qaa (.bool true) 21 rfl kj kj ?_
  refine Qac ?_
  refine hK12 _ _ ?_
  refine cond_true kj ?_
  refine wp_seq_k fun K13 hK13 => ?_
  refine Qab ?_
  refine Qaa (.agg (cat [#[.int .i64 0], ints .u8 (List.replicate 32 0), #[.slice none 0 0]])) 22 rfl kj kj ?_
  refine Qaa (.iface 47 (.int .i64 (chkN ts pl m))) 23 rfl kj kj ?_
  have r6_2 := (Qad r6_1 e2)
  have r6_3 := (Qad r6_2 e3)
  refine Qaj g6 _ (cat [#[.int .i64 0], ints .u8 (List.replicate 32 0), #[.slice none 0 0]]) 40 r6_3 rfl kj (Qap 40 _ _ g6 40 _ _ r6_3 rfl kj kj (isz (n := 34) kj (by rw [Qae, Qae, Qae]; simp only [Array.size_append, cat, ((Qaf _ _).trans (List.length_replicate (n := 32)))]; rfl)) (eqsz (n := 34) (by rw [Qae, Qae, Qae]; simp only [Array.size_append, cat, ((Qaf _ _).trans (List.length_replicate (n := 32)))]; rfl) (by rw [Qae, Qae, Qae]; simp only [Array.size_append, cat, ((Qaf _ _).trans (List.length_replicate (n := 32)))]; rfl)) (QaY _ (by intro a ha; simp only [List.mem_cons, List.not_mem_nil, or_false] at ha; rcases ha with rfl | rfl | rfl; exact (QaA _ rfl); exact (Qa0 _ _); exact (QaA _ rfl)))) fun W4 p4 r6_4 => ?_
  have x4 : Ext w W4 := Puts.ext p4 x3 b6
  refine Qaa (.iface 47 (.int .i64 (chkN ts pl m))) 7 rfl kj kj ?_
  refine Qac ?_
  refine hK13 _ _ ?_
  refine wp_ret ?_
  repeat (first | with_reducible refine goR1 ?_ | with_reducible refine goR2 ?_)
  exact (show bodyPost _ _ _ .ret _ _ from ret2 (.agg (cat [#[.int .i64 0], ints .u8 (List.replicate 32 0), #[.slice none 0 0]])) (.iface 47 (.int .i64 (chkN ts pl m))) rfl (QaL g6 40 _ r6_4 kj kj (isz (n := 34) kj (by rw [Qae, Qae, Qae]; simp only [Array.size_append, cat, ((Qaf _ _).trans (List.length_replicate (n := 32)))]; rfl))) (Qa9 kj) ⟨rfl, x4⟩)
set_option maxHeartbeats 4000000 in
theorem Qjr (gc gl len cap : Nat) (lp : Array Value) (w : World) (hgc : w.heap[gc]? = some (.cells #[.slice (some ⟨gl, 0, none⟩) len cap] 70)) (hgl : w.heap[gl]? = some (.cells lp 75)) (g i : Nat) (hi : i < len) (hli : lp[i]? = some (.pointer (some ⟨g, 0, none⟩))) (tc tq : TypeId) (hc : w.heap[2]? = some (.cells (ints .u64 QaD) tc)) (hq : w.heap[1]? = some (.cells (ints .u64 Qam) tq)) {mg pl : Nat} {s0 ts : List Int} {ms : List (Int × List Int)} (hch : ChSt g mg s0 ts pl ms w) (m : Nat) (he : chkN ts pl ((m : Nat) : Int) = 0) : Calls Tryd.prog 14 #[.pointer (some ⟨gc, 0, none⟩), .int .i64 ((i : Nat) : Int), .int .i64 ((m : Nat) : Int)] w (Qce w (fun v W => ∃ u, v = .tuple #[u, .nilIface] ∧ QbO w.heap.size ((m : Nat) : Int) (keyV (itV s0 m)) u W)) := by
  refine enter 27 [(0, .pointer (some ⟨gc, 0, none⟩)), (1, .int .i64 ((i : Nat) : Int)), (2, .int .i64 ((m : Nat) : Int))] Tryd.func14 rfl rfl kj rfl ?_
  refine wp_seq_k fun K5 hK5 => ?_
  refine Qab ?_
  refine Qas (cat [#[.int .i64 0], ints .u8 (List.replicate 32 0), #[.slice none 0 0]]) 40 6 rfl kj kj fun g6 W1 l6 e1 r6_1 => ?_
  have x1 : Ext w W1 := Ext.tr (Rely.Ext.refl w) e1
  have b6 : w.heap.size ≤ g6 := Nat.le_trans (Rely.Ext.refl w).size l6
  refine Qaa (.nilIface) 7 rfl kj kj ?_
  refine Qac ?_
  refine hK5 _ _ ?_
  refine wp_seq_k fun K7 hK7 => ?_
  refine Qab ?_
  refine Qaa (.pointer (some ⟨gc, 0, none⟩)) 10 rfl kj kj ?_
  refine Qaa (.int .i64 ((i : Nat) : Int)) 11 rfl kj kj ?_
  have r1_1 := (Qad hgc e1)
  have r2_1 := (Qad hgl e1)
  refine Qau (.pointer (some ⟨g, 0, none⟩)) 31 #[.pointer (some ⟨gc, 0, none⟩), .int .i64 ((i : Nat) : Int)] 12 rfl kj kj (at_I gc gl len cap lp _ r1_1 r2_1 g i hi hli) fun W2 e2 => ?_
  have x2 : Ext w W2 := Ext.tr x1 e2
  refine Qaa (.pointer (some ⟨g, 0, none⟩)) 8 rfl kj kj ?_
  refine Qac ?_
  refine hK7 _ _ ?_
  refine wp_seq_k fun K8 hK8 => ?_
  refine wp_seq_k fun K9 hK9 => ?_
  refine Qab ?_
  refine Qaa (.pointer (some ⟨g, 0, none⟩)) 13 rfl kj kj ?_
  refine Qaa (.bool false) 14 rfl kj kj ?_
  refine Qac ?_
  refine hK9 _ _ ?_
  refine cond_false kj ?_
  refine wp_skip ?_
  refine hK8 _ _ ?_
  refine wp_seq_k fun K10 hK10 => ?_
  refine wp_seq_k fun K11 hK11 => ?_
  refine Qab ?_
  refine Qaa (.pointer (some ⟨g, 0, none⟩)) 17 rfl kj kj ?_
  refine Qaa (.int .i64 ((m : Nat) : Int)) 18 rfl kj kj ?_
  refine Qau (.nilIface) 32 #[.pointer (some ⟨g, 0, none⟩), .int .i64 ((m : Nat) : Int)] 19 rfl kj kj (Qc1 he ▸ QfI (hch.ext x2) ((m : Nat) : Int)) fun W3 e3 => ?_
  have x3 : Ext w W3 := Ext.tr x2 e3
  refine Qaa (.nilIface) 9 rfl kj kj ?_
  refine Qac ?_
  refine hK11 _ _ ?_
  refine wp_seq_k fun K12 hK12 => ?_
  refine Qab ?_
  refine Qaa (.nilIface) 20 rfl kj kj ?_
  refine Qaa (.bool false) 21 rfl kj kj ?_
  refine Qac ?_
  refine hK12 _ _ ?_
  refine cond_false kj ?_
  refine wp_skip ?_
  refine hK10 _ _ ?_
  refine wp_seq_k fun K13 hK13 => ?_
  refine Qab ?_
  refine Qaa (.pointer (some ⟨g, 0, none⟩)) 24 rfl kj kj ?_
  refine Qaa (.int .i64 ((m : Nat) : Int)) 25 rfl kj kj ?_
  have r3_1 := (Qad hc e1)
  have r3_2 := (Qad r3_1 e2)
  have r3_3 := (Qad r3_2 e3)
  have r4_1 := (Qad hq e1)
  have r4_2 := (Qad r4_1 e2)
  have r4_3 := (Qad r4_2 e3)
  refine Qa8 (fun v W' => (QbO W3.heap.size ((m : Nat) : Int) (keyV (itV s0 m))) v W' ∧ Ext W3 W') 34 #[.pointer (some ⟨g, 0, none⟩), .int .i64 ((m : Nat) : Int)] 26 rfl kj kj ((QjT tc tq r3_3 r4_3 (hch.ext x3) m he).mono (by rintro e w' ⟨v, rfl, e1, hv⟩; exact ⟨v, rfl, hv, e1⟩)) fun vv14 W4 hh14 => ?_
  obtain ⟨hv14, e4⟩ := hh14
  have x4 : Ext w W4 := Ext.tr x3 e4
  obtain ⟨u15, rfl, hu15⟩ := hv14
  obtain ⟨a15_, c15_, rfl, -⟩ := id (OwnN.rd hu15)
  have r6_2 := (Qad r6_1 e2)
  have r6_3 := (Qad r6_2 e3)
  have r6_4 := (Qad r6_3 e4)
  refine Qaj g6 _ (cat [#[.int .i64 ((m : Nat) : Int)], ints .u8 ((keyV (itV s0 m)).take 32), #[.slice a15_ (((keyV (itV s0 m)).drop 32).length) c15_]]) 40 r6_4 rfl kj (Qap 40 _ _ g6 40 _ _ r6_4 rfl kj kj (isz (n := 34) kj (by rw [Qae, Qae, Qae]; simp only [Array.size_append, cat, ((Qaf _ _).trans (QaG (Qa7 _)))]; rfl)) (eqsz (n := 34) (by rw [Qae, Qae, Qae]; simp only [Array.size_append, cat, ((Qaf _ _).trans (List.length_replicate (n := 32)))]; rfl) (by rw [Qae, Qae, Qae]; simp only [Array.size_append, cat, ((Qaf _ _).trans (QaG (Qa7 _)))]; rfl)) (QaY _ (by intro a ha; simp only [List.mem_cons, List.not_mem_nil, or_false] at ha; rcases ha with rfl | rfl | rfl; exact (QaA _ rfl); exact (Qa0 _ _); exact (QaA _ rfl)))) fun W5 p5 r6_5 => ?_
  have x5 : Ext w W5 := Puts.ext p5 x4 b6
  refine Qaa (.nilIface) 7 rfl kj kj ?_
  refine Qac ?_
  refine hK13 _ _ ?_
  refine wp_ret ?_
  repeat (first | with_reducible refine goR1 ?_ | with_reducible refine goR2 ?_)
  have f16_5 := (hu15.puts p5 (Qcq hu15 (Qar r6_3)))
  exact (show bodyPost _ _ _ .ret _ _ from ret2 (.agg (cat [#[.int .i64 ((m : Nat) : Int)], ints .u8 ((keyV (itV s0 m)).take 32), #[.slice a15_ (((keyV (itV s0 m)).drop 32).length) c15_]])) (.nilIface) rfl (QaL g6 40 _ r6_5 kj kj (isz (n := 34) kj (by rw [Qae, Qae, Qae]; simp only [Array.size_append, cat, ((Qaf _ _).trans (QaG (Qa7 _)))]; rfl))) (Qa9 kj) ⟨_, rfl, x5, _, rfl, _, rfl, OwnN.base x3.size f16_5⟩)
set_option maxHeartbeats 4000000 in
theorem Qja (gc gl len cap : Nat) (lp : Array Value) (w : World) (hgc : w.heap[gc]? = some (.cells #[.slice (some ⟨gl, 0, none⟩) len cap] 70)) (hgl : w.heap[gl]? = some (.cells lp 75)) (g i : Nat) (hi : i < len) (hli : lp[i]? = some (.pointer (some ⟨g, 0, none⟩))) (tc tq : TypeId) (hc : w.heap[2]? = some (.cells (ints .u64 QaD) tc)) (hq : w.heap[1]? = some (.cells (ints .u64 Qam) tq)) {mg pl : Nat} {s0 ts : List Int} {ms : List (Int × List Int)} (hch : ChSt g mg s0 ts pl ms w) (m : Int) (he : chkN ts pl m ≠ 0) : Calls Tryd.prog 13 #[.pointer (some ⟨gc, 0, none⟩), .int .i64 ((i : Nat) : Int), .int .i64 m] w (Ret w (.tuple #[.agg (cat [#[.int .i64 0], ints .u8 (List.replicate 32 0), #[.slice none 0 0]]), .iface 47 (.int .i64 (chkN ts pl m))])) := by
  refine enter 29 [(0, .pointer (some ⟨gc, 0, none⟩)), (1, .int .i64 ((i : Nat) : Int)), (2, .int .i64 m)] Tryd.func13 rfl rfl kj rfl ?_
  refine wp_seq_k fun K5 hK5 => ?_
  refine Qab ?_
  refine Qas (cat [#[.int .i64 0], ints .u8 (List.replicate 32 0), #[.slice none 0 0]]) 40 6 rfl kj kj fun g6 W1 l6 e1 r6_1 => ?_
  have x1 : Ext w W1 := Ext.tr (Rely.Ext.refl w) e1
  have b6 : w.heap.size ≤ g6 := Nat.le_trans (Rely.Ext.refl w).size l6
  refine Qaa (.nilIface) 7 rfl kj kj ?_
  refine Qac ?_
  refine hK5 _ _ ?_
  refine wp_seq_k fun K7 hK7 => ?_
  refine Qab ?_
  refine Qaa (.pointer (some ⟨gc, 0, none⟩)) 10 rfl kj kj ?_
  refine Qaa (.int .i64 ((i : Nat) : Int)) 11 rfl kj kj ?_
  have r1_1 := (Qad hgc e1)
  have r2_1 := (Qad hgl e1)
  refine Qau (.pointer (some ⟨g, 0, none⟩)) 31 #[.pointer (some ⟨gc, 0, none⟩), .int .i64 ((i : Nat) : Int)] 12 rfl kj kj (at_I gc gl len cap lp _ r1_1 r2_1 g i hi hli) fun W2 e2 => ?_
  have x2 : Ext w W2 := Ext.tr x1 e2
  refine Qaa (.pointer (some ⟨g, 0, none⟩)) 8 rfl kj kj ?_
  refine Qac ?_
  refine hK7 _ _ ?_
  refine wp_seq_k fun K8 hK8 => ?_
  refine wp_seq_k fun K9 hK9 => ?_
  refine Qab ?_
  refine Qaa (.pointer (some ⟨g, 0, none⟩)) 13 rfl kj kj ?_
  refine Qaa (.bool false) 14 rfl kj kj ?_
  refine Qac ?_
  refine hK9 _ _ ?_
  refine cond_false kj ?_
  refine wp_skip ?_
  refine hK8 _ _ ?_
  refine wp_seq_k fun K10 hK10 => ?_
  refine wp_seq_k fun K11 hK11 => ?_
  refine Qab ?_
  refine Qaa (.pointer (some ⟨g, 0, none⟩)) 17 rfl kj kj ?_
  refine Qaa (.int .i64 m) 18 rfl kj kj ?_
  refine Qau (.iface 47 (.int .i64 (chkN ts pl m))) 32 #[.pointer (some ⟨g, 0, none⟩), .int .i64 m] 19 rfl kj kj (Qer he ▸ QfI (hch.ext x2) m) fun W3 e3 => ?_
  have x3 : Ext w W3 := Ext.tr x2 e3
  refine Qaa (.iface 47 (.int .i64 (chkN ts pl m))) 9 rfl kj kj ?_
  refine Qac ?_
  refine hK11 _ _ ?_
  refine wp_seq_k fun K12 hK12 => ?_
  refine Qab ?_
  refine Qaa (.iface 47 (.int .i64 (chkN ts pl m))) 20 rfl kj kj ?_
  refine Qaa (.bool true) 21 rfl kj kj ?_
  refine Qac ?_
  refine hK12 _ _ ?_
  refine cond_true kj ?_
  refine wp_seq_k fun K13 hK13 => ?_
  refine Qab ?_
  refine Qaa (.agg (cat [#[.int .i64 0], ints .u8 (List.replicate 32 0), #[.slice none 0 0]])) 22 rfl kj kj ?_
  refine Qaa (.iface 47 (.int .i64 (chkN ts pl m))) 23 rfl kj kj ?_
  have r6_2 := (Qad r6_1 e2)
  have r6_3 := (Qad r6_2 e3)
  refine Qaj g6 _ (cat [#[.int .i64 0], ints .u8 (List.replicate 32 0), #[.slice none 0 0]]) 40 r6_3 rfl kj (Qap 40 _ _ g6 40 _ _ r6_3 rfl kj kj (isz (n := 34) kj (by rw [Qae, Qae, Qae]; simp only [Array.size_append, cat, ((Qaf _ _).trans (List.length_replicate (n := 32)))]; rfl)) (eqsz (n := 34) (by rw [Qae, Qae, Qae]; simp only [Array.size_append, cat, ((Qaf _ _).trans (List.length_replicate (n := 32)))]; rfl) (by rw [Qae, Qae, Qae]; simp only [Array.size_append, cat, ((Qaf _ _).trans (List.length_replicate (n := 32)))]; rfl)) (QaY _ (by intro a ha; simp only [List.mem_cons, List.not_mem_nil, or_false] at ha; rcases ha with rfl | rfl | rfl; exact (QaA _ rfl); exact (Qa0 _ _); exact (QaA _ rfl)))) fun W4 p4 r6_4 => ?_
  have x4 : Ext w W4 := Puts.ext p4 x3 b6
  refine Qaa (.iface 47 (.int .i64 (chkN ts pl m))) 7 rfl kj kj ?_
  refine Qac ?_
  refine hK13 _ _ ?_
  refine wp_ret ?_
  repeat (first | with_reducible refine goR1 ?_ | with_reducible refine goR2 ?_)
  exact (show bodyPost _ _ _ .ret _ _ from ret2 (.agg (cat [#[.int .i64 0], ints .u8 (List.replicate 32 0), #[.slice none 0 0]])) (.iface 47 (.int .i64 (chkN ts pl m))) rfl (QaL g6 40 _ r6_4 kj kj (isz (n := 34) kj (by rw [Qae, Qae, Qae]; simp only [Array.size_append, cat, ((Qaf _ _).trans (List.length_replicate (n := 32)))]; rfl))) (Qa9 kj) ⟨rfl, x4⟩)
set_option maxHeartbeats 4000000 in
theorem Qg2 (gc gl len cap : Nat) (lp : Array Value) (w : World) (hgc : w.heap[gc]? = some (.cells #[.slice (some ⟨gl, 0, none⟩) len cap] 70)) (hgl : w.heap[gl]? = some (.cells lp 75)) (g i : Nat) (hi : i < len) (hli : lp[i]? = some (.pointer (some ⟨g, 0, none⟩))) (tc tq : TypeId) (hc : w.heap[2]? = some (.cells (ints .u64 QaD) tc)) (hq : w.heap[1]? = some (.cells (ints .u64 Qam) tq)) {mg pl : Nat} {s0 ts : List Int} {ms : List (Int × List Int)} (hch : ChSt g mg s0 ts pl ms w) (m : Nat) (he : chkN ts pl ((m : Nat) : Int) = 0) (hcg : 2 ≠ g) (hsg : 1 ≠ g) : Calls Tryd.prog 13 #[.pointer (some ⟨gc, 0, none⟩), .int .i64 ((i : Nat) : Int), .int .i64 ((m : Nat) : Int)] w (fun e W => ∃ v, e = .returned (.tuple #[v, .nilIface]) ∧ Qai [g, mg] w W ∧ ChSt g mg s0 (ts ++ [((m : Nat) : Int)]) (max pl (m + 1)) (Qc5 ms s0 pl m) W ∧ QbO w.heap.size ((m : Nat) : Int) (keyV (itV s0 m)) v W) := by
  refine enter 29 [(0, .pointer (some ⟨gc, 0, none⟩)), (1, .int .i64 ((i : Nat) : Int)), (2, .int .i64 ((m : Nat) : Int))] Tryd.func13 rfl rfl kj rfl ?_
  refine wp_seq_k fun K7 hK7 => ?_
  refine Qab ?_
  refine Qas (cat [#[.int .i64 0], ints .u8 (List.replicate 32 0), #[.slice none 0 0]]) 40 6 rfl kj kj fun g8 W1 l8 e1 r8_1 => ?_
  have x1 : Ext w W1 := Ext.tr (Rely.Ext.refl w) e1
  have b8 : w.heap.size ≤ g8 := Nat.le_trans (Rely.Ext.refl w).size l8
  refine Qaa (.nilIface) 7 rfl kj kj ?_
  refine Qac ?_
  refine hK7 _ _ ?_
  refine wp_seq_k fun K9 hK9 => ?_
  refine Qab ?_
  refine Qaa (.pointer (some ⟨gc, 0, none⟩)) 10 rfl kj kj ?_
  refine Qaa (.int .i64 ((i : Nat) : Int)) 11 rfl kj kj ?_
  have r1_1 := (Qad hgc e1)
  have r2_1 := (Qad hgl e1)
  refine Qau (.pointer (some ⟨g, 0, none⟩)) 31 #[.pointer (some ⟨gc, 0, none⟩), .int .i64 ((i : Nat) : Int)] 12 rfl kj kj (at_I gc gl len cap lp _ r1_1 r2_1 g i hi hli) fun W2 e2 => ?_
  have x2 : Ext w W2 := Ext.tr x1 e2
  refine Qaa (.pointer (some ⟨g, 0, none⟩)) 8 rfl kj kj ?_
  refine Qac ?_
  refine hK9 _ _ ?_
  refine wp_seq_k fun K10 hK10 => ?_
  refine wp_seq_k fun K11 hK11 => ?_
  refine Qab ?_
  refine Qaa (.pointer (some ⟨g, 0, none⟩)) 13 rfl kj kj ?_
  refine Qaa (.bool false) 14 rfl kj kj ?_
  refine Qac ?_
  refine hK11 _ _ ?_
  refine cond_false kj ?_
  refine wp_skip ?_
  refine hK10 _ _ ?_
  refine wp_seq_k fun K12 hK12 => ?_
  refine wp_seq_k fun K13 hK13 => ?_
  refine Qab ?_
  refine Qaa (.pointer (some ⟨g, 0, none⟩)) 17 rfl kj kj ?_
  refine Qaa (.int .i64 ((m : Nat) : Int)) 18 rfl kj kj ?_
  refine Qau (.nilIface) 32 #[.pointer (some ⟨g, 0, none⟩), .int .i64 ((m : Nat) : Int)] 19 rfl kj kj (Qc1 he ▸ QfI (hch.ext x2) ((m : Nat) : Int)) fun W3 e3 => ?_
  have x3 : Ext w W3 := Ext.tr x2 e3
  refine Qaa (.nilIface) 9 rfl kj kj ?_
  refine Qac ?_
  refine hK13 _ _ ?_
  refine wp_seq_k fun K14 hK14 => ?_
  refine Qab ?_
  refine Qaa (.nilIface) 20 rfl kj kj ?_
  refine Qaa (.bool false) 21 rfl kj kj ?_
  refine Qac ?_
  refine hK14 _ _ ?_
  refine cond_false kj ?_
  refine wp_skip ?_
  refine hK12 _ _ ?_
  refine wp_seq_k fun K15 hK15 => ?_
  refine Qab ?_
  refine Qaa (.pointer (some ⟨g, 0, none⟩)) 24 rfl kj kj ?_
  refine Qaa (.int .i64 ((m : Nat) : Int)) 25 rfl kj kj ?_
  have r3_1 := (Qad hc e1)
  have r3_2 := (Qad r3_1 e2)
  have r3_3 := (Qad r3_2 e3)
  have r4_1 := (Qad hq e1)
  have r4_2 := (Qad r4_1 e2)
  have r4_3 := (Qad r4_2 e3)
  refine Qa8 (fun v W' => ∃ u, v = .tuple #[u, .nilIface] ∧ Qai [g, mg] W3 W' ∧ ChSt g mg s0 (ts ++ [((m : Nat) : Int)]) (max pl (m + 1)) (Qc5 ms s0 pl m) W' ∧ QbO W3.heap.size ((m : Nat) : Int) (keyV (itV s0 m)) u W') 33 #[.pointer (some ⟨g, 0, none⟩), .int .i64 ((m : Nat) : Int)] 26 rfl kj kj ((QjH tc tq r3_3 r4_3 (hch.ext x3) m he hcg hsg).mono (by rintro e w' ⟨v, rfl, q1, q2, q3⟩; exact ⟨_, rfl, _, rfl, q1, q2, q3⟩)) fun vv16 W4 hh16 => ?_
  obtain ⟨uu16, rfl, q4, hch2, u16, rfl, hu16⟩ := hh16
  obtain ⟨a16_, c16_, rfl, -⟩ := id (OwnN.rd hu16)
  have x4 : Qai [g, mg] w W4 := Qai.keeps (Qai.step (Qai.refl [g, mg] w) x3) q4 (fun c hc => .inl hc)
  refine Qaa (.agg (cat [#[.int .i64 ((m : Nat) : Int)], ints .u8 ((keyV (itV s0 m)).take 32), #[.slice a16_ (((keyV (itV s0 m)).drop 32).length) c16_]])) 27 rfl kj kj ?_
  refine Qaa (.nilIface) 28 rfl kj kj ?_
  have r8_2 := (Qad r8_1 e2)
  have r8_3 := (Qad r8_2 e3)
  have r8_4 := (Qai.row q4 r8_3 (Qan (Ne.symm (Nat.ne_of_lt (Nat.lt_of_lt_of_le hch.glt b8))) (Qan (Ne.symm (Nat.ne_of_lt (Nat.lt_of_lt_of_le hch.mp.lt b8))) Qa6)))
  refine Qaj g8 _ (cat [#[.int .i64 ((m : Nat) : Int)], ints .u8 ((keyV (itV s0 m)).take 32), #[.slice a16_ (((keyV (itV s0 m)).drop 32).length) c16_]]) 40 r8_4 rfl kj (Qap 40 _ _ g8 40 _ _ r8_4 rfl kj kj (isz (n := 34) kj (by rw [Qae, Qae, Qae]; simp only [Array.size_append, cat, ((Qaf _ _).trans (QaG (Qa7 _)))]; rfl)) (eqsz (n := 34) (by rw [Qae, Qae, Qae]; simp only [Array.size_append, cat, ((Qaf _ _).trans (List.length_replicate (n := 32)))]; rfl) (by rw [Qae, Qae, Qae]; simp only [Array.size_append, cat, ((Qaf _ _).trans (QaG (Qa7 _)))]; rfl)) (QaY _ (by intro a ha; simp only [List.mem_cons, List.not_mem_nil, or_false] at ha; rcases ha with rfl | rfl | rfl; exact (QaA _ rfl); exact (Qa0 _ _); exact (QaA _ rfl)))) fun W5 p5 r8_5 => ?_
  have x5 : Qai [g, mg] w W5 := Qai.puts x4 p5 (.inr b8)
  refine Qaa (.nilIface) 7 rfl kj kj ?_
  refine Qac ?_
  refine hK15 _ _ ?_
  refine wp_ret ?_
  repeat (first | with_reducible refine goR1 ?_ | with_reducible refine goR2 ?_)
  have f17_5 := (hu16.puts p5 (Qcq hu16 (Qar r8_3)))
  exact (show bodyPost _ _ _ .ret _ _ from ret2 (.agg (cat [#[.int .i64 ((m : Nat) : Int)], ints .u8 ((keyV (itV s0 m)).take 32), #[.slice a16_ (((keyV (itV s0 m)).drop 32).length) c16_]])) (.nilIface) rfl (QaL g8 40 _ r8_5 kj kj (isz (n := 34) kj (by rw [Qae, Qae, Qae]; simp only [Array.size_append, cat, ((Qaf _ _).trans (QaG (Qa7 _)))]; rfl))) (Qa9 kj) ⟨_, rfl, x5, (hch2.keep (p5.2.2.2.2 g (Ne.symm (Ne.symm (Nat.ne_of_lt (Nat.lt_of_lt_of_le hch.glt b8))))) (p5.2.2.2.2 mg (Ne.symm (Ne.symm (Nat.ne_of_lt (Nat.lt_of_lt_of_le hch.mp.lt b8)))))), _, rfl, OwnN.base x3.size f17_5⟩)
end Go.Proofs.YtibegnjaphohaaaDoor.Cn
end
section
namespace Go.Proofs.YtibegnjaphohaaaDoor.Seat
set_option linter.unusedVariables false
open Go Go.RowKit
open Rely
def TabAt (w : World) : Prop := 0 < w.heap.size ∧ ∀ j, j < 64 → w.cell? ⟨0, j, none⟩ = some (.int .u8 (Lib.deBruijn64tab.getD j 0))
theorem TabAt.ext {w w' : World} (h : TabAt w) (e : Ext w w') : TabAt w' := ⟨Nat.lt_of_lt_of_le h.1 e.size, fun j hj => by rw [e.cell h.1]; exact h.2 j hj⟩
theorem Qg1 (x k idx : Nat) (w : World) (hx0 : ((x : Int) == 0) = false)
    (key : IntKind.u64.wrap (bits BinOp.and IntKind.u64 (x : Int) (IntKind.u64.wrap (-(x : Int))) * 285870213051353865) / 288230376151711744 = (idx : Int))
    (hi : idx < 64) (hk : k < 64) (hcell : w.cell? ⟨0, idx, none⟩ = some (.int .u8 k)) :
    Calls Tryd.prog 58 #[.int .u64 x] w fun e w' => e = .returned (.int .i64 k) ∧ w = w' := by
  go_enter Tryd.func58, Tryd.ntmps58
  go_wp2_with (simp only [key])
  go_ret
  exact ⟨rfl, rfl⟩
theorem Qhs (x a : Nat) (hx : x < 18446744073709551616) (hx0 : x ≠ 0) (hlow : x &&& (18446744073709551616 - x) = a) :
    IntKind.u64.wrap (bits BinOp.and IntKind.u64 (x : Int) (IntKind.u64.wrap (-(x : Int))) * 285870213051353865) / 288230376151711744 = ((a * 285870213051353865 % 18446744073709551616 / 288230376151711744 : Nat) : Int) := by
  have e1 : IntKind.u64.wrap (-(x : Int)) = ((18446744073709551616 - x : Nat) : Int) := by rw [IntKind.wrap_u64]; omega
  rw [e1, bits_and_u64_nat x _ hx (by omega), hlow, IntKind.wrap_u64]
  omega
theorem tz64 (x : Nat) (hx : x < 18446744073709551616) (hx0 : x ≠ 0) (w : World) (hT : TabAt w) :
    Calls Tryd.prog 58 #[.int .u64 x] w fun e w' => e = .returned (.int .i64 (Lib.ctz 64 x)) ∧ w = w' := by
  obtain ⟨hlow, hk⟩ := Lib.lowest_bit 64 x hx0 hx
  obtain ⟨hi, htab⟩ := Lib.deBruijn64_at _ hk
  have hcell := hT.2 _ hi
  rw [htab] at hcell
  exact Qg1 x _ _ w (by simp; omega) (Qhs x _ hx hx0 hlow) hi hk hcell
def isTree (n : Int) : Bool := n == 1 || n == 2 || n == 4 || n == 8 || n == 16 || n == 32
theorem Qdj {n : Int} (h : isTree n = true) : n = 1 ∨ n = 2 ∨ n = 4 ∨ n = 8 ∨ n = 16 ∨ n = 32 := by
  simp only [isTree, Bool.or_eq_true, beq_iff_eq] at h; omega
theorem Qht (n : Int) (h : n < 1 ∨ 32 < n) (w : World) : Calls Tryd.prog 38 #[.int .i64 n] w fun e w' => e = .returned (.bool (isTree n)) ∧ w = w' := by
  have e : isTree n = false := by
    rw [Bool.eq_false_iff]; intro h'; have := Qdj h'; omega
  rw [e]
  rcases h with h | h
  · have h1 : decide (1 ≤ n) = false := decide_eq_false (by omega)
    go_enter Tryd.func38, Tryd.ntmps38
    go_wp2
    all_goals first | omega | (go_ret; exact ⟨rfl, rfl⟩)
  · have h1 : decide (1 ≤ n) = true := decide_eq_true (by omega)
    have h2 : decide (n ≤ 32) = false := decide_eq_false (by omega)
    go_enter Tryd.func38, Tryd.ntmps38
    go_wp2
    all_goals first | omega | (go_ret; exact ⟨rfl, rfl⟩)
theorem QiQ : ∀ k : Fin 33, (bits .and .i64 (k.val : Int) ((k.val : Int) - 1) == 0) = (k.val == 0 || isTree (k.val : Int)) := by decide +kernel
theorem Qit (n : Int) (h1 : 1 ≤ n) (h2 : n ≤ 32) (w : World) : Calls Tryd.prog 38 #[.int .i64 n] w fun e w' => e = .returned (.bool (isTree n)) ∧ w = w' := by
  have key : (bits .and .i64 n (n - 1) == 0) = isTree n := by
    have := QiQ ⟨n.toNat, by omega⟩
    have e : ((n.toNat : Nat) : Int) = n := by omega
    simp only [e] at this
    rw [this]
    have : (n.toNat == 0) = false := by rw [beq_eq_false_iff_ne]; omega
    rw [this]; rfl
  have h3 : decide (1 ≤ n) = true := decide_eq_true h1
  have h4 : decide (n ≤ 32) = true := decide_eq_true h2
  go_enter Tryd.func38, Tryd.ntmps38
  go_wp2
  all_goals first | omega | (go_ret; exact ⟨rfl, rfl⟩)
theorem tree (n : Int) (w : World) : Calls Tryd.prog 38 #[.int .i64 n] w fun e w' => e = .returned (.bool (isTree n)) ∧ w = w' := by
  by_cases h : 1 ≤ n ∧ n ≤ 32
  · exact Qit n h.1 h.2 w
  · exact Qht n (by omega) w
def i64 (n : Int) : Prop := -9223372036854775808 ≤ n ∧ n ≤ 9223372036854775807
def lvN (x : Nat) : Nat := Lib.ctz 64 (18446744073709551615 - x)
def lv (x : Int) : Int := if x < 0 then -1 else lvN x.toNat
theorem Qjp (x : Nat) (h : x ≤ 9223372036854775807) : lvN x < 64 := (Lib.lowest_bit 64 _ (by omega) (by omega)).2
theorem Qi4 (n : Nat) (h : n < 18446744073709551616) : bits .xor .u64 IntKind.u64.max (n : Int) = 18446744073709551615 - (n : Int) := by
  have e : IntKind.u64.max = ((18446744073709551615 : Nat) : Int) := by decide
  rw [e, u64_xor_nat _ n (by omega) h]
  have e2 : (18446744073709551615 : Nat) ^^^ n = 18446744073709551615 - n := by
    have := BitVec.toNat_not (x := BitVec.ofNat 64 n)
    have h1 : (BitVec.allOnes 64 ^^^ BitVec.ofNat 64 n) = ~~~ (BitVec.ofNat 64 n) := BitVec.allOnes_xor
    have h2 := congrArg BitVec.toNat h1
    rw [BitVec.toNat_xor, this, BitVec.toNat_allOnes, BitVec.toNat_ofNat, Nat.mod_eq_of_lt (by omega : n < 2 ^ 64)] at h2
    exact h2
  rw [e2]
  omega
theorem level (x : Int) (hx : i64 x) (w : World) (hT : TabAt w) : Calls Tryd.prog 50 #[.int .i64 x] w fun e w' => e = .returned (.int .i64 (lv x)) ∧ w = w' := by
  unfold i64 at hx
  by_cases h : x < 0
  · have e : lv x = -1 := by simp [lv, h]
    rw [e]
    go_enter Tryd.func50, Tryd.ntmps50
    go_wp2
    go_ret
    exact ⟨rfl, rfl⟩
  · have e : lv x = (lvN x.toNat : Int) := by simp [lv, h]
    rw [e]
    obtain ⟨n, rfl⟩ := Int.eq_ofNat_of_zero_le (by omega : 0 ≤ x)
    have hz := tz64 (18446744073709551615 - n) (by omega) (by omega) w hT
    have e2 : ((18446744073709551615 - n : Nat) : Int) = 18446744073709551615 - (n : Int) := by omega
    rw [e2, ← Qi4 n (by omega)] at hz
    rw [Int.toNat_natCast]
    have e3 : lvN n = Lib.ctz 64 (18446744073709551615 - n) := rfl
    rw [← e3] at hz
    generalize lvN n = c at *
    clear e e2 e3
    go_enter Tryd.func50, Tryd.ntmps50
    go_wp2_with (go_at_call 58; refine hz.mono ?_; rintro e w' ⟨rfl, rfl⟩)
    go_ret
    exact ⟨rfl, rfl⟩
def half (k : Int) : Int := wrap64 (2 ^ (k.toNat - 1))
def kidL (x : Int) : Int := if lv x ≤ 0 then -1 else wrap64 (x - half (lv x))
def kidR (x : Int) : Int := if lv x ≤ 0 then -1 else wrap64 (x + half (lv x))
theorem QjS (x : Int) (hx : i64 x) : -1 ≤ lv x ∧ lv x ≤ 63 := by
  unfold lv
  split
  · omega
  · have := Qjp x.toNat (by unfold i64 at hx; omega)
    omega
theorem children (x : Int) (hx : i64 x) (w : World) (hT : TabAt w) : Calls Tryd.prog 39 #[.int .i64 x] w fun e w' => e = .returned (.tuple #[.int .i64 (kidL x), .int .i64 (kidR x)]) ∧ w = w' := by
  have hl := level x hx w hT
  have hb := QjS x hx
  by_cases h : lv x ≤ 0
  · have e1 : kidL x = -1 := by simp [kidL, h]
    have e2 : kidR x = -1 := by simp [kidR, h]
    rw [e1, e2]
    generalize lv x = k at *
    clear e1 e2
    go_enter Tryd.func39, Tryd.ntmps39
    go_wp2_with (go_at_call 50; refine hl.mono ?_; rintro e w' ⟨rfl, rfl⟩)
    go_ret2
    exact ⟨rfl, rfl⟩
  · have e1 : kidL x = wrap64 (x - half (lv x)) := by simp [kidL, h]
    have e2 : kidR x = wrap64 (x + half (lv x)) := by simp [kidR, h]
    rw [e1, e2]
    generalize lv x = k at *
    clear e1 e2
    go_enter Tryd.func39, Tryd.ntmps39
    go_wp2_with (go_at_call 50; refine hl.mono ?_; rintro e w' ⟨rfl, rfl⟩)
    go_ret2
    exact ⟨rfl, rfl⟩
theorem root (n : Int) (w : World) : Calls Tryd.prog 27 #[.int .i64 n] w fun e w' => e = .returned (.int .i64 (if isTree n then n - 1 else -1)) ∧ w = w' := by
  have hn := tree n w
  cases ht : isTree n with
  | false =>
    rw [ht] at hn
    clear ht
    go_enter Tryd.func27, Tryd.ntmps27
    go_wp2_with (go_at_call 38; refine hn.mono ?_; rintro e w' ⟨rfl, rfl⟩)
    go_ret
    exact ⟨rfl, rfl⟩
  | true =>
    rw [ht] at hn
    have hc := Qdj ht
    have hb : 1 ≤ n ∧ n ≤ 32 := by omega
    clear hc ht
    go_enter Tryd.func27, Tryd.ntmps27
    go_wp2_with (go_at_call 38; refine hn.mono ?_; rintro e w' ⟨rfl, rfl⟩)
    go_ret
    exact ⟨rfl, rfl⟩
end Go.Proofs.YtibegnjaphohaaaDoor.Seat
end
section
namespace Go.Proofs.YtibegnjaphohaaaDoor.Cn
open Go Go.RowKit
open Rely Auto Own Sha
set_option linter.unusedVariables false
set_option linter.unusedSimpArgs false
open Go.Proofs.YtibegnjaphohaaaDoor
def OwnR (T : TypeId) (base : Nat) (vs : List Value) (v : Value) (W : World) : Prop := W.ownsRow base T 1 v vs.length vs ∧ vs.length ≤ maxLen
theorem OwnR.keep {T : TypeId} {base : Nat} {vs : List Value} {v : Value} {W W' : World} (h : OwnR T base vs v W) (hk : ∀ g, v.ownBlock = some g → W'.heap[g]? = W.heap[g]?) : OwnR T base vs v W' := by
  obtain ⟨⟨h1, h2⟩, hm⟩ := h
  refine ⟨⟨h1, ?_⟩, hm⟩
  rcases h2 with h2 | ⟨g, c, cur, rfl, q2, q3, q4, q5, q6, q7⟩
  · exact .inl h2
  · exact .inr ⟨g, c, cur, rfl, q2, (hk g rfl).trans q3, q4, q5, q6, q7⟩
theorem OwnR.at {T : TypeId} {base : Nat} {vs : List Value} {v : Value} {W : World} (h : OwnR T base vs v W) {g : Nat} (hg : v.ownBlock = some g) : base ≤ g ∧ ∃ cur, W.heap[g]? = some (.cells cur T) := by
  rcases h.1.2 with ⟨rfl, _⟩ | ⟨g', c, cur, rfl, q2, q3, _⟩
  · cases hg
  · obtain rfl : g' = g := Option.some.inj hg
    exact ⟨q2, cur, q3⟩
theorem Qck {W : World} {g : Nat} {c c' : Array Value} {T T' : TypeId} (h : W.heap[g]? = some (.cells c T)) (h' : W.heap[g]? = some (.cells c' T')) (hne : T ≠ T') : False := by
  rw [h] at h'
  simp only [Option.some.injEq, Obj.cells.injEq] at h'
  exact hne h'.2.1
theorem QjY {P : Program} {T : TypeId} {z : Value} {b : Nat} (hi : (P.info? T).map (fun i => (i.zero, i.size, i.bytes)) = some (some z, 1, b)) : ∃ i, P.info? T = some i ∧ i.zero = some z ∧ i.size = 1 ∧ i.bytes = b := by
  cases hq : P.info? T with
  | none => rw [hq] at hi; cases hi
  | some i =>
    rw [hq] at hi
    simp only [Option.map_some, Option.some.injEq, Prod.mk.injEq] at hi
    exact ⟨i, rfl, hi.1, hi.2.1, hi.2.2⟩
theorem Qh1 {P : Program} {ρ : Operand → Value} {o : Oper} {W : World} {T : TypeId} (base b : Nat) (s x : Operand) (t : TypeId) (ho : o.op = .call { callee := .builtin .append, args := #[s, x], argTypes := #[t, t] })
    (ht : P.underlying t = some (.slice T)) (z : Value) (hi : (P.info? T).map (fun i => (i.zero, i.size, i.bytes)) = some (some z, 1, b)) (hz : z.cells.size = 1) (hb : b ≤ 100) {v y : Value} {vs : List Value} {gy c : Nat} {Ty : TypeId}
    (hs : ρ s = v) (hx : ρ x = .slice (some ⟨gy, 0, none⟩) 1 c) (ry : W.heap[gy]? = some (.cells #[y] Ty)) (h1 : y.oneCell' = true)
    (h : OwnR T base vs v W) (hn : vs.length ≤ 100000) (hV : base ≤ W.heap.size) :
    ∃ u W', (execOp ρ o).run P W = .ok (.value u) W' ∧ OwnR T base (vs ++ [y]) u W' ∧ W.grownBy W' v.ownBlock := by
  obtain ⟨i, hq, hi1, hi2, hi3⟩ := QjY hi
  obtain ⟨v', W', hr, h2, h3, _, h5⟩ := run_append_own_at (P := P) W base t o.type T i z 1 b ht hq hi1 hi2 hi3 hz (by omega) v vs.length vs h.1 ⟨gy, 0, none⟩ 1 c [y] (by simp)
    (fun j u hu => by
      cases j with
      | zero =>
        simp only [List.getElem?_cons_zero, Option.some.injEq] at hu
        subst hu
        rw [WideShapes.add_plain]
        exact QbY ry rfl
      | succ j => simp at hu) (fun u hu => by rw [List.mem_singleton.1 hu]; exact h1) (by simp only [maxLen]; omega) (by
        have : (vs.length + 1) * b ≤ 100001 * 100 := Nat.mul_le_mul (by omega) hb
        omega) hV
  refine ⟨v', W', ?_, ⟨by rw [List.length_append]; exact h2, by rw [List.length_append]; simp only [maxLen]; show _ + 1 ≤ _; omega⟩, h3⟩
  unfold execOp
  simp only [ho, resolve, invoke, builtin, Sem.run_bind, Sem.run_pure, Result.andThen_ok, List.map_toArray, List.map_cons, List.map_nil, hs, hx, hr]
structure GP (base gc : Nat) (w W : World) : Prop where
  os : W.os = w.os
  tape : W.tape = w.tape
  output : W.output = w.output
  size : w.heap.size ≤ W.heap.size
  block : ∀ k, k < w.heap.size → k ≠ gc → (k < base ∨ ∀ cs fr, w.heap[k]? ≠ some (.cells cs 75 fr)) → W.heap[k]? = w.heap[k]?
theorem GP.refl (base gc : Nat) (w : World) : GP base gc w w := ⟨rfl, rfl, rfl, Nat.le_refl _, fun _ _ _ _ => rfl⟩
theorem GP.trans {base gc : Nat} {u w W : World} (h : GP base gc u w) (k : GP base gc w W) : GP base gc u W :=
  ⟨k.os.trans h.os, k.tape.trans h.tape, k.output.trans h.output, Nat.le_trans h.size k.size, fun i hi hn hc => by
    have e := h.block i hi hn hc
    refine (k.block i (Nat.lt_of_lt_of_le hi h.size) hn ?_).trans e
    rcases hc with hc | hc
    · exact .inl hc
    · exact .inr fun cs fr => by rw [e]; exact hc cs fr⟩
theorem GP.of_ext {base gc : Nat} {w W : World} (e : Ext w W) : GP base gc w W := ⟨e.os, e.tape, e.output, e.size, fun k hk _ _ => e.block k hk⟩
theorem GP.ext {base gc : Nat} {u w W : World} (h : GP base gc u w) (e : Ext w W) : GP base gc u W := h.trans (GP.of_ext e)
theorem GP.put {base gc g : Nat} {u w W : World} (h : GP base gc u w) (p : Puts w g W) (hg : u.heap.size ≤ g) : GP base gc u W :=
  ⟨p.1.trans h.os, p.2.1.trans h.tape, p.2.2.1.trans h.output, by have := h.size; have := p.2.2.2.1; omega, fun k hk hn hc => (p.2.2.2.2 k (by omega)).trans (h.block k hk hn hc)⟩
theorem GP.putg {base gc : Nat} {u w W : World} (h : GP base gc u w) (p : Puts w gc W) : GP base gc u W :=
  ⟨p.1.trans h.os, p.2.1.trans h.tape, p.2.2.1.trans h.output, by have := h.size; have := p.2.2.2.1; omega, fun k hk hn hc => (p.2.2.2.2 k hn).trans (h.block k hk hn hc)⟩
theorem GP.row {base gc g : Nat} {w W : World} {c : Array Value} {T : TypeId} (h : GP base gc w W) (r : w.heap[g]? = some (.cells c T)) (hT : T ≠ 75) (hn : g ≠ gc) : W.heap[g]? = some (.cells c T) :=
  (h.block g (Qar r) hn (.inr fun cs fr e => by rw [r] at e; simp only [Option.some.injEq, Obj.cells.injEq] at e; exact hT e.2.1)).trans r
theorem GP.low {base gc g : Nat} {w W : World} {ob : Obj} (h : GP base gc w W) (r : w.heap[g]? = some ob) (hb : g < base) (hn : g ≠ gc) : W.heap[g]? = some ob := (h.block g (Qar r) hn (.inl hb)).trans r
theorem GP.grown {base gc : Nat} {w W : World} {vs : List Value} {v : Value} (h : w.grownBy W v.ownBlock) (hv : OwnR 75 base vs v w) : GP base gc w W :=
  ⟨h.os, h.tape, h.output, h.size, fun k hk hn hc => h.block k hk fun e => by
    obtain ⟨h1, cur, h2⟩ := hv.at e.symm
    rcases hc with hc | hc
    · omega
    · exact hc _ _ h2⟩
theorem ChSt.gp {base gc g mg : Nat} {s0 ts : List Int} {pl : Nat} {ms : List (Int × List Int)} {W W' : World} (h : ChSt g mg s0 ts pl ms W) (q : GP base gc W W') (hg : g ≠ gc) (hm : mg ≠ gc) : ChSt g mg s0 ts pl ms W' := by
  obtain ⟨B, h1, h2⟩ := h.row
  obtain ⟨es, c, h3, -⟩ := id h.mp
  exact h.keep ((q.row h2 (by decide) hg).trans h2.symm) (q.block mg (Qar h3) hm (.inr fun cs fr e => by rw [h3] at e; cases e))
def GrS (base gc : Nat) (cs : List (Nat × Nat)) (W : World) : Prop := ∃ v, W.heap[gc]? = some (.cells #[v] 70) ∧ OwnR 75 base (cs.map fun p => Value.pointer (some ⟨p.1, 0, none⟩)) v W
theorem GrS.ext {base gc : Nat} {cs : List (Nat × Nat)} {W W' : World} (h : GrS base gc cs W) (e : Ext W W') : GrS base gc cs W' := by
  obtain ⟨v, h1, h2⟩ := h
  exact ⟨v, Qad h1 e, h2.keep fun g hg => by obtain ⟨-, cur, hc⟩ := h2.at hg; exact e.block g (Qar hc)⟩
def lftV (sec : List Int) : List Int := Qbv sec (strB Qhw)
def rgtV (sec : List Int) : List Int := Qbv sec (strB Qft)
attribute [irreducible] lftV rgtV
theorem QhG (sec : List Int) : (lftV sec).length = 32 := by unfold lftV; exact Qc9 _ _
theorem Qh2 (sec : List Int) : (rgtV sec).length = 32 := by unfold rgtV; exact Qc9 _ _
theorem Qgl (sec : List Int) : Qao (lftV sec) := by unfold lftV; exact Qcc _ _
theorem Qgd (sec : List Int) : Qao (rgtV sec) := by unfold rgtV; exact Qcc _ _
def Qa5 (sec : List Int) : Nat → Nat → List Int
  | 0, _ => sec
  | k + 1, j => if j < 2 ^ k then Qa5 (lftV sec) k j else Qa5 (rgtV sec) k (j - 2 ^ k)
def lvOk : Nat → Int → Bool
  | 0, x => decide (0 ≤ x) && decide (x ≤ 62) && decide (Seat.kidL x < 0)
  | k + 1, x => decide (0 ≤ x) && decide (x ≤ 62) && decide (0 ≤ Seat.kidL x) && lvOk k (Seat.kidL x) && lvOk k (Seat.kidR x)
theorem QgM : ∀ k : Fin 6, lvOk k.val (((2 ^ k.val : Nat) : Int) - 1) = true := by decide +kernel
theorem Qf6 {k : Nat} {x : Int} (h : lvOk k x = true) : 0 ≤ x ∧ x ≤ 62 := by
  cases k <;> (unfold lvOk at h; simp only [Bool.and_eq_true, decide_eq_true_eq] at h)
  · exact h.1
  · exact h.1.1.1
def GrR (base gc : Nat) (cs : List (Nat × Nat)) (sec : List Int) (k : Nat) (W W' : World) : Prop := GP base gc W W' ∧ ∃ ns : List (Nat × Nat), ns.length = 2 ^ k ∧ GrS base gc (cs ++ ns) W' ∧ (∀ j p, ns[j]? = some p → ChSt p.1 p.2 (Qa5 sec k j) [] 0 [] W' ∧ W.heap.size ≤ p.1 ∧ W.heap.size ≤ p.2) ∧ (ns.map Prod.fst).Nodup ∧ (ns.map Prod.snd).Nodup
theorem Qhg (pl : Nat → Option (Nat × Nat)) (i off n : Nat) (v : Value) (pre : List (Array Value)) (mid : Array Value) (post : List (Array Value)) (ps : List (Nat × Value)) (h1 : pl i = some (off, n)) (hoff : (cat pre).size = off) (hm : mid.size = n) (hv : v.cells.size = n) :
    Instr.fill pl (cat (pre ++ ([mid] ++ post))) ((i, v) :: ps) = Instr.fill pl (cat (pre ++ ([v.cells] ++ post))) ps := by
  have hz : (v.cells.zipIdx.foldl (fun cs (x : Value × Nat) => cs.setIfInBounds (off + x.2) x.1) (cat (pre ++ ([mid] ++ post)))) = cat (pre ++ ([v.cells] ++ post)) := by
    have e1 : v.cells.zipIdx = (v.cells.toList.zipIdx 0).toArray := by
      apply Array.ext'
      simp
    rw [e1, List.foldl_toArray', Qcs]
    · rw [Nat.add_zero]
      have := Qdd pre [mid] [v.cells] post off hoff (by show (cat [v.cells]).size = (cat [mid]).size; simp [cat, hm, hv])
      rw [show (cat [v.cells]).toList = v.cells.toList by simp [cat]] at this
      exact this
    · rfl
  rw [Instr.fill, h1]
  simp only
  have hs : (cat (pre ++ ([mid] ++ post))).size = off + (n + (cat post).size) := by rw [QaC, Array.size_append, hoff]; show off + (cat (mid :: post)).size = _; rw [Qae, Array.size_append, hm]
  rw [if_neg (by rw [hv, hs]; simp)]
  show Instr.fill pl (v.cells.zipIdx.foldl (fun cs (x : Value × Nat) => cs.setIfInBounds (off + x.2) x.1) (cat (pre ++ ([mid] ++ post)))) ps = _
  rw [hz]
theorem Qgb {P : Program} {ρ : Operand → Value} {o : Oper} {w : World} (t : TypeId) (parts : Array (Nat × Operand)) (z : Value) (places : Array (Nat × Nat)) (r zc : Array Value) (ps : List (Nat × Value)) (ho : o.op = .build t parts) (hv : (parts.map fun (i, x) => (i, ρ x)).toList = ps) (hzc : z = .agg zc) (hf : Instr.fill (fun i => places[i]?) zc ps = some r)
    (hz : (zeroValue t).run P w = .ok z w) (hu : P.underlying t = some (.struct (P.fieldsOf t))) (hm : ((P.fieldsOf t).mapM fun f => do pure (f.offset, ← sizeOf f.type) : Sem (Array (Nat × Nat))).run P w = .ok places w) :
    (execOp ρ o).run P w = .ok (.value (.agg r)) w := by
  subst hzc
  rw [← hv] at hf
  have hB : (Instr.build t (parts.map fun (i, x) => (i, ρ x))).run P w = .ok (.agg r) w := by
    unfold Instr.build
    rw [Sem.run_bind, hz, Result.andThen_ok, Sem.run_bind, run_underlying hu w, Result.andThen_ok]
    show (Sem.run P _ w) = _
    rw [Sem.run_bind, hm, Result.andThen_ok]
    simp only [show (Value.agg zc).cells = zc from rfl, hf]
    rfl
  unfold execOp
  simp only [ho, Sem.run_bind, hB, Result.andThen_ok, Sem.run_pure]
theorem QeO {base : Nat} {vs : List Value} {v : Value} {W W' : World} {g : Nat} {c : Array Value} {T : TypeId} (h : W.grownBy W' v.ownBlock) (hv : OwnR 75 base vs v W) (r : W.heap[g]? = some (.cells c T)) (hT : T ≠ 75) : W'.heap[g]? = some (.cells c T) :=
  (h.block g (Qar r) fun e => by obtain ⟨-, cur, h2⟩ := hv.at e.symm; exact Qck r h2 hT).trans r
theorem QhX {g gm : Nat} {sec : List Int} {W : World} (hl : sec.length = 32) (hb : Qao sec) (r : W.heap[g]? = some (.cells (cat [#[.int .i64 0], #[.int .u64 0], ints .u8 (sec), #[.int .i64 0], #[.map (some gm)]]) 84)) (hm : W.heap[gm]? = some (.map #[] 0)) : ChSt g gm sec [] 0 [] W :=
  ⟨hl, hb, ⟨0, QgS, r⟩, ⟨_, _, hm, QgL 0⟩, ⟨fun p hp => absurd hp List.not_mem_nil, fun k hk _ _ => absurd hk (Nat.not_lt_zero _)⟩⟩
theorem QiD (pl : Nat → Option (Nat × Nat)) (h1 : pl 1 = some (2, 32)) (h3 : pl 3 = some (35, 1)) (sec : List Int) (hl : sec.length = 32) (gm : Nat) : Instr.fill pl (cat [#[.int .i64 0], #[.int .u64 0], ints .u8 (List.replicate 32 0), #[.int .i64 0], #[.map none]]) [(1, .agg (ints .u8 sec)), (3, .map (some gm))] = some (cat [#[.int .i64 0], #[.int .u64 0], ints .u8 sec, #[.int .i64 0], #[.map (some gm)]]) := by
  refine (Qhg pl 1 2 32 (.agg (ints .u8 sec)) [#[.int .i64 0], #[.int .u64 0]] (ints .u8 (List.replicate 32 0)) [#[.int .i64 0], #[.map none]] [(3, .map (some gm))] h1 rfl (by rw [Qaf]; rfl) ((Qaf _ _).trans hl)).trans ?_
  refine (Qhg pl 3 35 1 (.map (some gm)) [#[.int .i64 0], #[.int .u64 0], ints .u8 sec, #[.int .i64 0]] #[.map none] [] [] h3 (by rw [Qae, Qae, Qae, Qae]; simp only [Array.size_append, cat, (Qaf _ _).trans hl]; rfl) rfl rfl).trans rfl
theorem OwnR.sl {T : TypeId} {base : Nat} {vs : List Value} {v : Value} {W : World} (h : OwnR T base vs v W) : ∃ a n c, v = .slice a n c := by
  rcases h.1.2 with ⟨rfl, _⟩ | ⟨g, c, cur, rfl, _⟩
  · exact ⟨_, _, _, rfl⟩
  · exact ⟨_, _, _, rfl⟩
theorem appG {P : Program} {ρ : Operand → Value} {o : Oper} {W : World} {base gc : Nat} {s x : Operand} {t : TypeId} {v y : Value} {vs : List Value} {gy c g1 g2 : Nat} {Ty T1 T2 : TypeId} {c1 c2 : Array Value} (ho : o.op = .call { callee := .builtin .append, args := #[s, x], argTypes := #[t, t] })
    (ht : P.underlying t = some (.slice 75)) (hi : (P.info? 75).map (fun i => (i.zero, i.size, i.bytes)) = some (some (.pointer none), 1, 8))
    (hs : ρ s = v) (hx : ρ x = .slice (some ⟨gy, 0, none⟩) 1 c) (ry : W.heap[gy]? = some (.cells #[y] Ty)) (h1 : y.oneCell' = true)
    (h : OwnR 75 base vs v W) (hn : vs.length ≤ 100000) (hV : base ≤ W.heap.size) (r1 : W.heap[g1]? = some (.cells c1 T1)) (n1 : T1 ≠ 75) (r2 : W.heap[g2]? = some (.cells c2 T2)) (n2 : T2 ≠ 75) :
    ∃ u W', (execOp ρ o).run P W = .ok (.value u) W' ∧ OwnR 75 base (vs ++ [y]) u W' ∧ GP base gc W W' ∧ W'.heap[g1]? = some (.cells c1 T1) ∧ W'.heap[g2]? = some (.cells c2 T2) := by
  obtain ⟨u, W', q1, q2, q3⟩ := Qh1 (P := P) base 8 s x t ho ht (.pointer none) hi rfl (by decide) hs hx ry h1 h hn hV
  exact ⟨u, W', q1, q2, GP.grown q3 h, QeO q3 h r1 n1, QeO q3 h r2 n2⟩
theorem gr0 {base gc g gm : Nat} {cs : List (Nat × Nat)} {sec : List Int} {w W2 W3 : World} {v0 u1 : Value} (x : GP base gc w W2) (r0 : W2.heap[gc]? = some (.cells #[v0] 70)) (hv : OwnR 75 base ((cs.map fun p => Value.pointer (some ⟨p.1, 0, none⟩)) ++ [.pointer (some ⟨g, 0, none⟩)]) u1 W2)
    (hc : ChSt g gm sec [] 0 [] W2) (p : Puts W2 gc W3) (r : W3.heap[gc]? = some (.cells #[u1] 70)) (lg : w.heap.size ≤ g) (lm : w.heap.size ≤ gm) (hl : gc < w.heap.size) : GrR base gc cs sec 0 w W3 := by
  have hk : ∀ k, k ≠ gc → W3.heap[k]? = W2.heap[k]? := fun k hn => p.2.2.2.2 k hn
  refine ⟨GP.putg x p, [(g, gm)], rfl, ⟨u1, r, ?_⟩, ?_, by simp, by simp⟩
  · rw [List.map_append]
    exact hv.keep fun k hk' => hk k fun e => by obtain ⟨-, cur, h2⟩ := hv.at hk'; rw [e] at h2; exact Qck r0 h2 (by decide)
  · intro j q hj
    cases j with
    | succ j => cases hj
    | zero =>
      obtain rfl : (g, gm) = q := Option.some.inj hj
      exact ⟨hc.keep (hk g (by show g ≠ gc; omega)) (hk gm (by show gm ≠ gc; omega)), lg, lm⟩
theorem Qi8 {sec : List Int} {k j : Nat} (h : j < 2 ^ k) : Qa5 sec (k + 1) j = Qa5 (lftV sec) k j := by rw [Qa5, if_pos h]
theorem Qi7 {sec : List Int} {k j : Nat} : Qa5 sec (k + 1) (2 ^ k + j) = Qa5 (rgtV sec) k j := by rw [Qa5, if_neg (by omega), Nat.add_sub_cancel_left]
theorem grS {base gc k : Nat} {cs n1 : List (Nat × Nat)} {sec : List Int} {w W1 W2 W3 W4 : World} (x : GP base gc w W1) (q1 : GP base gc W1 W2) (l1 : n1.length = 2 ^ k) (c1 : ∀ j p, n1[j]? = some p → ChSt p.1 p.2 (Qa5 (lftV sec) k j) [] 0 [] W2 ∧ W1.heap.size ≤ p.1 ∧ W1.heap.size ≤ p.2) (d1 : (n1.map Prod.fst).Nodup) (d2 : (n1.map Prod.snd).Nodup) (e : GP base gc W2 W3) (h : GrR base gc (cs ++ n1) (rgtV sec) k W3 W4) (hl : gc < w.heap.size) : GrR base gc cs sec (k + 1) w W4 := by
  obtain ⟨q2, n2, l2, g2, c2, d3, d4⟩ := h
  refine ⟨(x.trans q1).trans (e.trans q2), n1 ++ n2, by rw [List.length_append, l1, l2, Nat.pow_succ]; omega, by rw [← List.append_assoc]; exact g2, ?_, ?_, ?_⟩
  · intro j p hj
    rcases Nat.lt_or_ge j (2 ^ k) with hjk | hjk
    · rw [List.getElem?_append_left (by omega)] at hj
      obtain ⟨a1, a2, a3⟩ := c1 j p hj
      have := x.size
      rw [Qi8 hjk]
      exact ⟨a1.gp (e.trans q2) (by omega) (by omega), by omega, by omega⟩
    · rw [List.getElem?_append_right (by omega), l1] at hj
      obtain ⟨a1, a2, a3⟩ := c2 _ p hj
      have := x.size
      have := q1.size
      have := e.size
      rw [show j = 2 ^ k + (j - 2 ^ k) by omega, Qi7]
      exact ⟨a1, by omega, by omega⟩
  · rw [List.map_append]
    refine List.nodup_append.2 ⟨d1, d3, fun a ha b hb he => ?_⟩
    obtain ⟨p, hp, rfl⟩ := List.mem_map.1 ha
    obtain ⟨q, hq, rfl⟩ := List.mem_map.1 hb
    obtain ⟨i, hi⟩ := List.mem_iff_getElem?.1 hp
    obtain ⟨j, hj⟩ := List.mem_iff_getElem?.1 hq
    have h1 := (c1 i p hi).1.glt
    have h2 := (c2 j q hj).2.1
    have := e.size
    omega
  · rw [List.map_append]
    refine List.nodup_append.2 ⟨d2, d4, fun a ha b hb he => ?_⟩
    obtain ⟨p, hp, rfl⟩ := List.mem_map.1 ha
    obtain ⟨q, hq, rfl⟩ := List.mem_map.1 hb
    obtain ⟨i, hi⟩ := List.mem_iff_getElem?.1 hp
    obtain ⟨j, hj⟩ := List.mem_iff_getElem?.1 hq
    have h1 := (c1 i p hi).1.mp.lt
    have h2 := (c2 j q hj).2.2
    have := e.size
    omega
theorem Qjd {base gc : Nat} {w W : World} (h : Seat.TabAt w) (q : GP base gc w W) (hb : 0 < base) (hn : 0 ≠ gc) : Seat.TabAt W :=
  ⟨Nat.lt_of_lt_of_le h.1 q.size, fun j hj => by rw [World.cell?_of_block (q.block _ h.1 hn (.inl hb))]; exact h.2 j hj⟩
theorem Qip (x : Int) (hx : 0 ≤ x ∧ x ≤ 62) (W : World) (hT : Seat.TabAt W) : Calls Tryd.prog 39 #[.int .i64 x] W (Ret W (.tuple #[.int .i64 (Seat.kidL x), .int .i64 (Seat.kidR x)])) :=
  (Seat.children x ⟨by omega, by omega⟩ W hT).mono fun e W' hh => ⟨hh.1, hh.2 ▸ Rely.Ext.refl _⟩
set_option maxHeartbeats 4000000 in
theorem Qjx (base gc : Nat) (cs : List (Nat × Nat)) (sec : List Int) (x : Int) (tc tq : TypeId) (w : World) (hc : w.heap[2]? = some (.cells (ints .u64 QaD) tc)) (hq : w.heap[1]? = some (.cells (ints .u64 Qam) tq)) (hT : Seat.TabAt w) (hsl : sec.length = 32) (hsb : Qao sec) (hb : base ≤ w.heap.size) (hcn : cs.length ≤ 1000) (hgs : GrS base gc cs w) (hlv : lvOk 0 x = true) : Calls Tryd.prog 28 #[.pointer (some ⟨gc, 0, none⟩), .agg (ints .u8 sec), .int .i64 x] w (fun e W => e = .returned (.tuple #[]) ∧ GrR base gc cs sec 0 w W) := by
  obtain ⟨v0, hgc, hv0⟩ := hgs
  have hgcl := Qar hgc
  have hk0 : Seat.kidL x < 0 := by unfold lvOk at hlv; simp only [Bool.and_eq_true, decide_eq_true_eq] at hlv; exact hlv.2
  refine enter 38 [(0, .pointer (some ⟨gc, 0, none⟩)), (1, .agg (ints .u8 (sec))), (2, .int .i64 x)] Tryd.func28 rfl rfl kj rfl ?_
  refine wp_seq_k fun K2 hK2 => ?_
  refine Qab ?_
  refine Qas (ints .u8 (sec)) 23 4 rfl kj kj fun g3 W1 l3 e1 r3_1 => ?_
  have x1 : GP base gc w W1 := GP.ext (GP.refl base gc w) e1
  have b3 : w.heap.size ≤ g3 := Nat.le_trans (GP.refl base gc w).size l3
  refine Qac ?_
  refine hK2 _ _ ?_
  refine wp_seq_k fun K4 hK4 => ?_
  refine Qab ?_
  refine Qaa (.int .i64 x) 9 rfl kj kj ?_
  have y0_1 : Ext w W1 := (Rely.Ext.trans (Rely.Ext.refl w) e1)
  refine Qau (.tuple #[.int .i64 (Seat.kidL x), .int .i64 (Seat.kidR x)]) 39 #[.int .i64 x] 10 rfl kj kj (Qip x (Qf6 hlv) _ (hT.ext y0_1)) fun W2 e2 => ?_
  have x2 : GP base gc w W2 := GP.ext x1 e2
  refine Qaa (.tuple #[.int .i64 (Seat.kidL x), .int .i64 (Seat.kidR x)]) 8 rfl kj kj ?_
  refine Qaa (.int .i64 (Seat.kidL x)) 11 rfl kj kj ?_
  refine Qaa (.int .i64 (Seat.kidR x)) 12 rfl kj kj ?_
  refine Qaa (.int .i64 (Seat.kidL x)) 6 rfl kj kj ?_
  refine Qaa (.int .i64 (Seat.kidR x)) 7 rfl kj kj ?_
  refine Qac ?_
  refine hK4 _ _ ?_
  refine wp_seq_k fun K5 hK5 => ?_
  refine wp_seq_k fun K6 hK6 => ?_
  refine Qab ?_
  refine Qaa (.int .i64 (Seat.kidL x)) 13 rfl kj kj ?_
  refine Qaa (.bool true) 14 rfl kj (Qah (u := .bool (decide ((Seat.kidL x) < 0))) kj (congrArg Value.bool (decide_eq_true hk0))) ?_
  refine Qac ?_
  refine hK6 _ _ ?_
  refine cond_true kj ?_
  refine wp_seq_k fun K7 hK7 => ?_
  have r1_1 := (Qad hgc e1)
  have r1_2 := (Qad r1_1 e2)
  have r3_2 := (Qad r3_1 e2)
  refine Go.Proofs.YtibegnjaphohaaaDoor.Wm.region_walkM (fun W => W.heap[gc]? = some (.cells (#[v0]) 70) ∧ W.heap[g3]? = some (.cells (ints .u8 (sec)) 23)) 13 kj fun W3 e3 => ⟨⟨Qad r1_2 e3, Qad r3_2 e3⟩, ?_⟩
  have x3 : GP base gc w W3 := GP.ext x2 e3
  refine Go.Proofs.YtibegnjaphohaaaDoor.Wm.wm_val 0 (.pointer (some ⟨gc, 0, none⟩)) 15 rfl rfl kj kj (by decide) kj (fun _ _ _ h => h) (fun W hR => by kernel_rfl) ?_
  refine Go.Proofs.YtibegnjaphohaaaDoor.Wm.wm_val 1 (.pointer (some ⟨gc, 0, none⟩)) 16 rfl rfl kj kj (by decide) kj (fun _ _ _ h => h) (fun W hR => by kernel_rfl) ?_
  refine Go.Proofs.YtibegnjaphohaaaDoor.Wm.wm_val 2 (.pointer (some ⟨gc, 0, none⟩)) 17 rfl rfl kj kj (by decide) kj (fun _ _ _ h => h) (fun W hR => by kernel_rfl) ?_
  refine Go.Proofs.YtibegnjaphohaaaDoor.Wm.wm_val 3 (.pointer (some ⟨gc, 0, none⟩)) 18 rfl rfl kj kj (by decide) kj (fun _ _ _ h => h) (fun W hR => by kernel_rfl) ?_
  refine Go.Proofs.YtibegnjaphohaaaDoor.Wm.wm_val 4 (v0) 19 rfl rfl kj kj (by decide) kj (fun _ _ _ h => h) (fun W hR => (Qal 68 _ gc 0 70 _ (v0) _ hR.1 rfl kj kj kj)) ?_
  refine Go.Proofs.YtibegnjaphohaaaDoor.Wm.wm_val 5 (.agg (ints .u8 (sec))) 20 rfl rfl kj kj (by decide) kj (fun _ _ _ h => h) (fun W hR => (Qay 23 _ g3 23 _ _ hR.2 rfl kj kj (isz (n := 32) kj ((Qaf _ _).trans hsl)))) ?_
  have r1_3 := (Qad r1_2 e3)
  have r3_3 := (Qad r3_2 e3)
  refine Go.Proofs.YtibegnjaphohaaaDoor.Wm.wm_run 6 kj rfl (fun v W' => (∃ g, v = .map (some g) ∧ W3.heap.size ≤ g ∧ W'.heap[g]? = some (.map #[] 0)) ∧ Ext W3 W') 21 rfl kj ⟨.map (some W3.heap.size), W3.alloc (.map #[] 0), kj, ⟨_, rfl, Nat.le_refl _, heap_alloc_new _ _⟩, Qbu _ _⟩ (fun v W h => ⟨Qad r1_3 h.2, Qad r3_3 h.2⟩) fun vv8 W4 hh8 => ?_
  obtain ⟨⟨gm, rfl, lgm, hgm⟩, e4⟩ := hh8
  have x4 : GP base gc w W4 := GP.ext x3 e4
  have lgm0 : w.heap.size ≤ gm := Nat.le_trans x3.size lgm
  refine Go.Proofs.YtibegnjaphohaaaDoor.Wm.wm_val 7 (.agg (cat [#[.int .i64 0], #[.int .u64 0], ints .u8 (sec), #[.int .i64 0], #[.map (some gm)]])) 22 rfl rfl kj kj (by decide) kj (fun _ _ _ h => h) (fun W hR => (Qgb 84 _ (.agg (cat [#[.int .i64 0], #[.int .u64 0], ints .u8 (List.replicate 32 0), #[.int .i64 0], #[.map none]])) #[(0, 2), (2, 32), (34, 1), (35, 1)] (cat [#[.int .i64 0], #[.int .u64 0], ints .u8 (sec), #[.int .i64 0], #[.map (some gm)]]) _ [(1, .agg (ints .u8 sec)), (3, .map (some gm))] rfl kj rfl (QiD (fun i => (#[(0, 2), (2, 32), (34, 1), (35, 1)] : Array (Nat × Nat))[i]?) rfl rfl sec hsl gm) kj kj kj)) ?_
  have r1_4 := (Qad r1_3 e4)
  have r3_4 := (Qad r3_3 e4)
  refine Go.Proofs.YtibegnjaphohaaaDoor.Wm.wm_run 8 kj rfl (fun v W' => (∃ g, v = .pointer (some ⟨g, 0, none⟩) ∧ W4.heap.size ≤ g ∧ W'.heap[g]? = some (.cells (cat [#[.int .i64 0], #[.int .u64 0], ints .u8 (sec), #[.int .i64 0], #[.map (some gm)]]) 84)) ∧ Ext W4 W') 23 rfl kj ⟨.pointer (some ⟨W4.heap.size, 0, none⟩), W4.alloc (.cells (cat [#[.int .i64 0], #[.int .u64 0], ints .u8 (sec), #[.int .i64 0], #[.map (some gm)]]) 84), kj, ⟨_, rfl, Nat.le_refl _, heap_alloc_new _ _⟩, Qbu _ _⟩ (fun v W h => ⟨Qad r1_4 h.2, Qad r3_4 h.2⟩) fun vv10 W5 hh10 => ?_
  obtain ⟨⟨g11, rfl, l11, r11_5⟩, e5⟩ := hh10
  have x5 : GP base gc w W5 := GP.ext x4 e5
  have b11 : w.heap.size ≤ g11 := Nat.le_trans x4.size l11
  have r1_5 := (Qad r1_4 e5)
  have r3_5 := (Qad r3_4 e5)
  refine Go.Proofs.YtibegnjaphohaaaDoor.Wm.wm_run 9 kj rfl (fun v W' => (∃ g, v = .slice (some ⟨g, 0, none⟩) 1 1 ∧ W5.heap.size ≤ g ∧ W'.heap[g]? = some (.cells #[.pointer (some ⟨g11, 0, none⟩)] 75)) ∧ Ext W5 W') 24 rfl kj ⟨.slice (some ⟨W5.heap.size, 0, none⟩) 1 1, W5.alloc (.cells #[.pointer (some ⟨g11, 0, none⟩)] 75), kj, ⟨_, rfl, Nat.le_refl _, heap_alloc_new _ _⟩, Qbu _ _⟩ (fun v W h => ⟨Qad r1_5 h.2, Qad r3_5 h.2⟩) fun vv12 W6 hh12 => ?_
  obtain ⟨⟨g13, rfl, l13, r13_6⟩, e6⟩ := hh12
  have x6 : GP base gc w W6 := GP.ext x5 e6
  have r1_6 := (Qad r1_5 e6)
  have r3_6 := (Qad r3_5 e6)
  have r9_5 := (Qad hgm e5)
  have r9_6 := (Qad r9_5 e6)
  have r11_6 := (Qad r11_5 e6)
  have hv1 : OwnR 75 base (cs.map fun p => Value.pointer (some ⟨p.1, 0, none⟩)) v0 W6 := OwnR.keep hv0 fun g hg => by obtain ⟨-, cur, hc9⟩ := hv0.at hg; exact (Rely.Ext.trans (Rely.Ext.trans (Rely.Ext.trans (Rely.Ext.trans (Rely.Ext.trans (Rely.Ext.trans (Rely.Ext.refl w) e1) e2) e3) e4) e5) e6).block g (Qar hc9)
  have hch1 : ChSt g11 gm sec [] 0 [] W6 := QhX hsl hsb r11_6 r9_6
  refine Go.Proofs.YtibegnjaphohaaaDoor.Wm.wm_run 10 kj rfl (fun v W' => OwnR 75 base ((cs.map fun p => Value.pointer (some ⟨p.1, 0, none⟩)) ++ [.pointer (some ⟨g11, 0, none⟩)]) v W' ∧ GP base gc W6 W' ∧ W'.heap[gc]? = some (.cells (#[v0]) 70) ∧ W'.heap[g3]? = some (.cells (ints .u8 (sec)) 23)) 25 rfl kj (appG (c := 1) (s := .tmp 19) (x := .tmp 24) (t := 68) rfl kj kj kj kj r13_6 rfl hv1 (by rw [List.length_map]; omega) (Nat.le_trans hb x6.size) r1_6 (by decide) r3_6 (by decide)) (fun v W h => h.2.2) fun u1 W7 hh14 => ?_
  obtain ⟨hv2, q7, r1_7, r3_7⟩ := hh14
  have x7 : GP base gc w W7 := GP.trans x6 q7
  have hch2 := hch1.gp q7 (by omega) (by omega)
  obtain ⟨ua, un, uc, rfl⟩ := OwnR.sl hv2
  refine Go.Proofs.YtibegnjaphohaaaDoor.Wm.wm_run 11 kj rfl (fun v W' => v = .pointer (some ⟨gc, 0, none⟩) ∧ Ext W7 W') 26 rfl kj ⟨_, _, kj, rfl, Rely.Ext.refl _⟩ (fun v W h => ⟨Qad r1_7 h.2, Qad r3_7 h.2⟩) fun vv15 W8 hh15 => ?_
  obtain ⟨rfl, e8⟩ := hh15
  have x8 : GP base gc w W8 := GP.ext x7 e8
  have hv2_8 := OwnR.keep hv2 fun g hg => by obtain ⟨-, cur, hc9⟩ := OwnR.at hv2 hg; exact e8.block g (Qar hc9)
  have hch2_8 := ChSt.ext hch2 e8
  refine Go.Proofs.YtibegnjaphohaaaDoor.Wm.wm_val 12 (.pointer (some ⟨gc, 0, none⟩)) 27 rfl rfl kj kj (by decide) kj (fun _ _ _ h => h) (fun W hR => by kernel_rfl) ?_
  have r1_8 := (Qad r1_7 e8)
  have r3_8 := (Qad r3_7 e8)
  refine Go.Proofs.YtibegnjaphohaaaDoor.Wm.wm_store gc _ (#[.slice ua un uc]) 70 r1_8 kj kj rfl rfl kj (Qbk 68 _ _ gc 0 70 _ (.slice ua un uc) r1_8 rfl kj kj kj kj kj rfl) fun W9 p9 r1_9 => ?_
  have x9 : GP base gc w W9 := GP.putg x8 p9
  refine hK7 _ _ ?_
  refine wp_ret ?_
  repeat (first | with_reducible refine goR1 ?_ | with_reducible refine goR2 ?_)
  exact (show bodyPost _ _ _ .ret _ _ from ret0 rfl ⟨rfl, gr0 x8 r1_8 hv2_8 hch2_8 p9 r1_9 b11 lgm0 hgcl⟩)
theorem QjU (sec : List Int) (tc tq : TypeId) (w : World) (hc : w.heap[2]? = some (.cells (ints .u64 QaD) tc)) (hq : w.heap[1]? = some (.cells (ints .u64 Qam) tq)) (hsl : sec.length = 32) (hsb : Qao sec) : Calls Tryd.prog 40 #[.agg (ints .u8 sec), .string Qhw] w (Ret w (.agg (ints .u8 (lftV sec)))) := by
  unfold lftV
  exact Qfh sec Qhw tc tq w hc hq hsl hsb
theorem QjO (sec : List Int) (tc tq : TypeId) (w : World) (hc : w.heap[2]? = some (.cells (ints .u64 QaD) tc)) (hq : w.heap[1]? = some (.cells (ints .u64 Qam) tq)) (hsl : sec.length = 32) (hsb : Qao sec) : Calls Tryd.prog 40 #[.agg (ints .u8 sec), .string Qft] w (Ret w (.agg (ints .u8 (rgtV sec)))) := by
  unfold rgtV
  exact Qfh sec Qft tc tq w hc hq hsl hsb
set_option maxHeartbeats 4000000 in
theorem Qjw (k : Nat) (base gc : Nat) (cs : List (Nat × Nat)) (sec : List Int) (x : Int) (tc tq : TypeId) (w : World) (hc : w.heap[2]? = some (.cells (ints .u64 QaD) tc)) (hq : w.heap[1]? = some (.cells (ints .u64 Qam) tq)) (hT : Seat.TabAt w) (hsl : sec.length = 32) (hsb : Qao sec) (hb : base ≤ w.heap.size) (hcn : cs.length + 2 ^ (k + 1) ≤ 1000) (hgs : GrS base gc cs w) (hltc : 2 < base) (hlts : 1 < base) (hltt : 0 < base) (hnec : 2 ≠ gc) (hnes : 1 ≠ gc) (hnet : 0 ≠ gc) (ih : ∀ (cs : List (Nat × Nat)) (sec : List Int) (x : Int) (w : World), w.heap[2]? = some (.cells (ints .u64 QaD) tc) → w.heap[1]? = some (.cells (ints .u64 Qam) tq) → Seat.TabAt w → sec.length = 32 → Qao sec → base ≤ w.heap.size → cs.length + 2 ^ k ≤ 1000 → GrS base gc cs w → lvOk k x = true → Calls Tryd.prog 28 #[.pointer (some ⟨gc, 0, none⟩), .agg (ints .u8 sec), .int .i64 x] w (fun e W => e = .returned (.tuple #[]) ∧ GrR base gc cs sec k w W)) (hlv : lvOk (k + 1) x = true) : Calls Tryd.prog 28 #[.pointer (some ⟨gc, 0, none⟩), .agg (ints .u8 sec), .int .i64 x] w (fun e W => e = .returned (.tuple #[]) ∧ GrR base gc cs sec (k + 1) w W) := by
  have hgcl : gc < w.heap.size := by obtain ⟨v0, hgc, -⟩ := hgs; exact Qar hgc
  have hk0 : 0 ≤ Seat.kidL x := by unfold lvOk at hlv; simp only [Bool.and_eq_true, decide_eq_true_eq] at hlv; exact hlv.1.1.2
  have hlv2 : lvOk k (Seat.kidL x) = true ∧ lvOk k (Seat.kidR x) = true := by rw [lvOk] at hlv; simp only [Bool.and_eq_true, decide_eq_true_eq] at hlv; exact ⟨hlv.1.2, hlv.2⟩
  rw [Nat.pow_succ] at hcn
  refine enter 38 [(0, .pointer (some ⟨gc, 0, none⟩)), (1, .agg (ints .u8 (sec))), (2, .int .i64 x)] Tryd.func28 rfl rfl kj rfl ?_
  refine wp_seq_k fun K4 hK4 => ?_
  refine Qab ?_
  refine Qas (ints .u8 (sec)) 23 4 rfl kj kj fun g5 W1 l5 e1 r5_1 => ?_
  have x1 : GP base gc w W1 := GP.ext (GP.refl base gc w) e1
  have b5 : w.heap.size ≤ g5 := Nat.le_trans (GP.refl base gc w).size l5
  refine Qac ?_
  refine hK4 _ _ ?_
  refine wp_seq_k fun K6 hK6 => ?_
  refine Qab ?_
  refine Qaa (.int .i64 x) 9 rfl kj kj ?_
  have ht1_7 := (hT.ext e1)
  refine Qau (.tuple #[.int .i64 (Seat.kidL x), .int .i64 (Seat.kidR x)]) 39 #[.int .i64 x] 10 rfl kj kj (Qip x (Qf6 hlv) _ ht1_7) fun W2 e2 => ?_
  have x2 : GP base gc w W2 := GP.ext x1 e2
  refine Qaa (.tuple #[.int .i64 (Seat.kidL x), .int .i64 (Seat.kidR x)]) 8 rfl kj kj ?_
  refine Qaa (.int .i64 (Seat.kidL x)) 11 rfl kj kj ?_
  refine Qaa (.int .i64 (Seat.kidR x)) 12 rfl kj kj ?_
  refine Qaa (.int .i64 (Seat.kidL x)) 6 rfl kj kj ?_
  refine Qaa (.int .i64 (Seat.kidR x)) 7 rfl kj kj ?_
  refine Qac ?_
  refine hK6 _ _ ?_
  refine wp_seq_k fun K8 hK8 => ?_
  refine wp_seq_k fun K9 hK9 => ?_
  refine Qab ?_
  refine Qaa (.int .i64 (Seat.kidL x)) 13 rfl kj kj ?_
  refine Qaa (.bool false) 14 rfl kj (Qah (u := .bool (decide ((Seat.kidL x) < 0))) kj (congrArg Value.bool (decide_eq_false (by omega)))) ?_
  refine Qac ?_
  refine hK9 _ _ ?_
  refine cond_false kj ?_
  refine wp_skip ?_
  refine hK8 _ _ ?_
  refine wp_seq_k fun K10 hK10 => ?_
  refine Qab ?_
  refine Qaa (.pointer (some ⟨gc, 0, none⟩)) 28 rfl kj kj ?_
  have r5_2 := (Qad r5_1 e2)
  refine Qaa (.agg (ints .u8 (sec))) 29 rfl kj (Qay 23 _ g5 23 _ _ r5_2 rfl kj kj (isz (n := 32) kj ((Qaf _ _).trans hsl))) ?_
  have r2_1 := (Qad hc e1)
  have r2_2 := (Qad r2_1 e2)
  have r3_1 := (Qad hq e1)
  have r3_2 := (Qad r3_1 e2)
  refine Qau (.agg (ints .u8 (lftV sec))) 40 #[.agg (ints .u8 (sec)), .string Qhw] 30 rfl kj kj (QjU sec tc tq _ r2_2 r3_2 hsl hsb) fun W3 e3 => ?_
  have x3 : GP base gc w W3 := GP.ext x2 e3
  refine Qaa (.int .i64 (Seat.kidL x)) 31 rfl kj kj ?_
  have r2_3 := (Qad r2_2 e3)
  have r3_3 := (Qad r3_2 e3)
  have ht3_11 := ((ht1_7.ext e2).ext e3)
  refine Qa8 (fun v W' => v = .tuple #[] ∧ GrR base gc cs (lftV sec) k W3 W') 28 #[.pointer (some ⟨gc, 0, none⟩), .agg (ints .u8 (lftV sec)), .int .i64 (Seat.kidL x)] 32 rfl kj kj ((ih cs (lftV sec) (Seat.kidL x) W3 r2_3 r3_3 ht3_11 (QhG _) (Qgl _) (Nat.le_trans hb x3.size) (by omega) (GrS.ext (GrS.ext (GrS.ext hgs e1) e2) e3) hlv2.1).mono (by rintro e w' ⟨rfl, h⟩; exact ⟨_, rfl, rfl, h⟩)) fun vv12 W4 hh12 => ?_
  obtain ⟨rfl, q4, n1, l1, hg1, c1, d1, d2⟩ := hh12
  have xa := x3
  have x4 : GP base gc w W4 := GP.trans x3 q4
  refine Qac ?_
  refine hK10 _ _ ?_
  refine Qab ?_
  refine Qaa (.pointer (some ⟨gc, 0, none⟩)) 33 rfl kj kj ?_
  have r5_3 := (Qad r5_2 e3)
  have r5_4 := (GP.row q4 r5_3 (by decide) (Ne.symm (Nat.ne_of_lt (Nat.lt_of_lt_of_le hgcl b5))))
  refine Qaa (.agg (ints .u8 (sec))) 34 rfl kj (Qay 23 _ g5 23 _ _ r5_4 rfl kj kj (isz (n := 32) kj ((Qaf _ _).trans hsl))) ?_
  have r2_4 := (GP.low q4 r2_3 hltc hnec)
  have r3_4 := (GP.low q4 r3_3 hlts hnes)
  refine Qau (.agg (ints .u8 (rgtV sec))) 40 #[.agg (ints .u8 (sec)), .string Qft] 35 rfl kj kj (QjO sec tc tq _ r2_4 r3_4 hsl hsb) fun W5 e5 => ?_
  have x5 : GP base gc w W5 := GP.ext x4 e5
  refine Qaa (.int .i64 (Seat.kidR x)) 36 rfl kj kj ?_
  have r2_5 := (Qad r2_4 e5)
  have r3_5 := (Qad r3_4 e5)
  have ht5_13 := ((Qjd ht3_11 q4 hltt hnet).ext e5)
  refine Qa8 (fun v W' => v = .tuple #[] ∧ GrR base gc (cs ++ n1) (rgtV sec) k W5 W') 28 #[.pointer (some ⟨gc, 0, none⟩), .agg (ints .u8 (rgtV sec)), .int .i64 (Seat.kidR x)] 37 rfl kj kj ((ih (cs ++ n1) (rgtV sec) (Seat.kidR x) W5 r2_5 r3_5 ht5_13 (Qh2 _) (Qgd _) (Nat.le_trans hb x5.size) (by rw [List.length_append, l1]; omega) (GrS.ext hg1 e5) hlv2.2).mono (by rintro e w' ⟨rfl, h⟩; exact ⟨_, rfl, rfl, h⟩)) fun vv14 W6 hh14 => ?_
  obtain ⟨rfl, hr2⟩ := hh14
  have q6 := hr2.1
  have x6 : GP base gc w W6 := GP.trans x5 q6
  refine Qac ?_
  repeat (first | with_reducible refine goX1 ?_ | with_reducible refine goX2 ?_ | with_reducible refine goX3 ?_)
  exact (show bodyPost _ _ _ .normal _ _ from end0 rfl ⟨rfl, grS xa q4 l1 c1 d1 d2 (GP.ext (GP.refl base gc W4) e5) hr2 hgcl⟩)
theorem Qjy (base gc : Nat) (tc tq : TypeId) (hltc : 2 < base) (hlts : 1 < base) (hltt : 0 < base) (hnec : 2 ≠ gc) (hnes : 1 ≠ gc) (hnet : 0 ≠ gc) : ∀ (k : Nat) (cs : List (Nat × Nat)) (sec : List Int) (x : Int) (w : World), w.heap[2]? = some (.cells (ints .u64 QaD) tc) → w.heap[1]? = some (.cells (ints .u64 Qam) tq) → Seat.TabAt w → sec.length = 32 → Qao sec → base ≤ w.heap.size → cs.length + 2 ^ k ≤ 1000 → GrS base gc cs w → lvOk k x = true → Calls Tryd.prog 28 #[.pointer (some ⟨gc, 0, none⟩), .agg (ints .u8 sec), .int .i64 x] w (fun e W => e = .returned (.tuple #[]) ∧ GrR base gc cs sec k w W)
  | 0, cs, sec, x, w, hc, hq, hT, hsl, hsb, hb, hcn, hgs, hlv => Qjx base gc cs sec x tc tq w hc hq hT hsl hsb hb (by omega) hgs hlv
  | k + 1, cs, sec, x, w, hc, hq, hT, hsl, hsb, hb, hcn, hgs, hlv => Qjw k base gc cs sec x tc tq w hc hq hT hsl hsb hb hcn hgs hltc hlts hltt hnec hnes hnet (Qjy base gc tc tq hltc hlts hltt hnec hnes hnet k) hlv
def NewR (sec : List Int) (k : Nat) (w : World) (v : Value) (W : World) : Prop := ∃ (gc gl cap : Nat) (lp : Array Value) (ns : List (Nat × Nat)), v = .pointer (some ⟨gc, 0, none⟩) ∧ w.heap.size ≤ gc ∧ ns.length = 2 ^ k ∧ W.heap[gc]? = some (.cells #[.slice (some ⟨gl, 0, none⟩) (2 ^ k) cap] 70) ∧ W.heap[gl]? = some (.cells lp 75) ∧ (∀ j p, ns[j]? = some p → lp[j]? = some (.pointer (some ⟨p.1, 0, none⟩)) ∧ ChSt p.1 p.2 (Qa5 sec k j) [] 0 [] W ∧ w.heap.size ≤ p.1 ∧ w.heap.size ≤ p.2) ∧ (ns.map Prod.fst).Nodup ∧ (ns.map Prod.snd).Nodup
theorem newR {sec : List Int} {k base gc : Nat} {w W1 W : World} (e : Ext w W1) (hb : base = W1.heap.size) (hl : w.heap.size ≤ gc) (h : GrR base gc [] sec k W1 W) : NewR sec k w (.pointer (some ⟨gc, 0, none⟩)) W := by
  obtain ⟨q, ns, l, ⟨v, h1, h2⟩, c, d1, d2⟩ := h
  rw [List.nil_append] at h2
  have hp : 0 < 2 ^ k := Nat.pow_pos (by decide)
  rcases h2.1.2 with ⟨-, q2⟩ | ⟨gl, cap, cur, rfl, q2, q3, q4, q5, q6, q7⟩
  · rw [List.length_map, l] at q2; omega
  · rw [List.length_map, l] at h1 q7
    refine ⟨gc, gl, cap, cur, ns, rfl, hl, l, h1, q3, fun j p hj => ?_, d1, d2⟩
    obtain ⟨a1, a2, a3⟩ := c j p hj
    have := e.size
    refine ⟨?_, a1, by omega, by omega⟩
    have hjl : j < ns.length := (List.getElem?_eq_some_iff.1 hj).1
    rw [Nat.mul_one] at q7
    have e2 : (cur.toList.take (2 ^ k))[j]? = (ns.map fun p => Value.pointer (some ⟨p.1, 0, none⟩))[j]? := by rw [q7]
    rw [List.getElem?_take_of_lt (by omega), List.getElem?_map, hj] at e2
    rw [← Array.getElem?_toList]
    exact e2
theorem Qjz {gc : Nat} {w W1 W : World} (e : Ext w W1) (q : GP W1.heap.size gc W1 W) (hg : w.heap.size ≤ gc) : Ext w W := ⟨q.os.trans e.os, q.tape.trans e.tape, q.output.trans e.output, Nat.le_trans e.size q.size, fun k hk => (q.block k (Nat.lt_of_lt_of_le hk e.size) (by omega) (.inl (Nat.lt_of_lt_of_le hk e.size))).trans (e.block k hk)⟩
theorem QjN (k : Nat) (hk : k ≤ 5) (W : World) : Calls Tryd.prog 27 #[.int .i64 ((2 ^ k : Nat) : Int)] W (Ret W (.int .i64 (((2 ^ k : Nat) : Int) - 1))) :=
  (Seat.root ((2 ^ k : Nat) : Int) W).mono fun e W' hh => by
    have hh' : e = .returned (.int .i64 (if Seat.isTree ((2 ^ k : Nat) : Int) = true then ((2 ^ k : Nat) : Int) - 1 else -1)) ∧ W = W' := hh
    rw [if_pos ((by decide +kernel : ∀ k : Fin 6, Seat.isTree ((2 ^ k.val : Nat) : Int) = true) ⟨k, by omega⟩)] at hh'
    exact ⟨hh'.1, hh'.2 ▸ Rely.Ext.refl _⟩
set_option maxHeartbeats 4000000 in
theorem newC (k : Nat) (hk : k ≤ 5) (sec : List Int) (tc tq : TypeId) (w : World) (hc : w.heap[2]? = some (.cells (ints .u64 QaD) tc)) (hq : w.heap[1]? = some (.cells (ints .u64 Qam) tq)) (hT : Seat.TabAt w) (hsl : sec.length = 32) (hsb : Qao sec) : Calls Tryd.prog 9 #[.agg (ints .u8 sec), .int .i64 ((2 ^ k : Nat) : Int)] w (Qce w (NewR sec k w)) := by
  refine enter 18 [(0, .agg (ints .u8 (sec))), (1, .int .i64 ((2 ^ k : Nat) : Int))] Tryd.func9 rfl rfl kj rfl ?_
  refine wp_seq_k fun K3 hK3 => ?_
  refine Qab ?_
  refine Qas (ints .u8 (sec)) 23 2 rfl kj kj fun g4 W1 l4 e1 r4_1 => ?_
  have x1 : Ext w W1 := Ext.tr (Rely.Ext.refl w) e1
  have b4 : w.heap.size ≤ g4 := Nat.le_trans (Rely.Ext.refl w).size l4
  refine Qaa (.pointer none) 4 rfl kj kj ?_
  refine Qac ?_
  refine hK3 _ _ ?_
  refine wp_seq_k fun K5 hK5 => ?_
  refine Qab ?_
  refine Qaa (.agg (#[.slice none 0 0])) 7 rfl kj kj ?_
  refine Qas (#[.slice none 0 0]) 70 8 rfl kj kj fun g6 W2 l6 e2 r6_2 => ?_
  have x2 : Ext w W2 := Ext.tr x1 e2
  have b6 : w.heap.size ≤ g6 := Nat.le_trans x1.size l6
  refine Qaa (.pointer (some ⟨g6, 0, none⟩)) 5 rfl kj kj ?_
  refine Qac ?_
  refine hK5 _ _ ?_
  refine wp_seq_k fun K7 hK7 => ?_
  refine wp_seq_k fun K8 hK8 => ?_
  refine Qab ?_
  refine Qaa (.int .i64 ((2 ^ k : Nat) : Int)) 9 rfl kj kj ?_
  refine Qau (.int .i64 (((2 ^ k : Nat) : Int) - 1)) 27 #[.int .i64 ((2 ^ k : Nat) : Int)] 10 rfl kj kj ((QjN k hk) _) fun W3 e3 => ?_
  have x3 : Ext w W3 := Ext.tr x2 e3
  refine Qaa (.int .i64 (((2 ^ k : Nat) : Int) - 1)) 6 rfl kj kj ?_
  refine Qac ?_
  refine hK8 _ _ ?_
  refine wp_seq_k fun K9 hK9 => ?_
  refine Qab ?_
  refine Qaa (.int .i64 (((2 ^ k : Nat) : Int) - 1)) 11 rfl kj kj ?_
  refine Qaa (.bool true) 12 rfl kj (Qah (u := .bool (decide ((((2 ^ k : Nat) : Int) - 1) ≥ 0))) kj (congrArg Value.bool (decide_eq_true (by have : 0 < 2 ^ k := Nat.pow_pos (by decide); omega)))) ?_
  refine Qac ?_
  refine hK9 _ _ ?_
  refine cond_true kj ?_
  refine Qab ?_
  refine Qaa (.pointer (some ⟨g6, 0, none⟩)) 13 rfl kj kj ?_
  have r4_2 := (Qad r4_1 e2)
  have r4_3 := (Qad r4_2 e3)
  refine Qaa (.agg (ints .u8 (sec))) 14 rfl kj (Qay 23 _ g4 23 _ _ r4_3 rfl kj kj (isz (n := 32) kj ((Qaf _ _).trans hsl))) ?_
  refine Qaa (.int .i64 (((2 ^ k : Nat) : Int) - 1)) 15 rfl kj kj ?_
  have r1_1 := (Qad hc e1)
  have r1_2 := (Qad r1_1 e2)
  have r1_3 := (Qad r1_2 e3)
  have r2_1 := (Qad hq e1)
  have r2_2 := (Qad r2_1 e2)
  have r2_3 := (Qad r2_2 e3)
  have r6_3 := (Qad r6_2 e3)
  refine Qa8 (fun v W' => v = .tuple #[] ∧ GrR W3.heap.size g6 [] sec k W3 W') 28 #[.pointer (some ⟨g6, 0, none⟩), .agg (ints .u8 (sec)), .int .i64 (((2 ^ k : Nat) : Int) - 1)] 16 rfl kj kj ((Qjy W3.heap.size g6 tc tq (Qar r1_3) (Qar r2_3) (hT.ext x3).1 (by have := Qar hc; have := b6; omega) (by have := Qar hq; have := b6; omega) (by have := hT.1; have := b6; omega) k [] sec (((2 ^ k : Nat) : Int) - 1) W3 r1_3 r2_3 (hT.ext x3) hsl hsb (Nat.le_refl _) (by have : 2 ^ k ≤ 2 ^ 5 := Nat.pow_le_pow_right (by decide) (by omega); simp only [List.length_nil]; omega) ⟨_, r6_3, ⟨⟨rfl, .inl ⟨rfl, rfl⟩⟩, Nat.zero_le _⟩⟩ (QgM ⟨k, by omega⟩)).mono (by rintro e w' ⟨rfl, h⟩; exact ⟨_, rfl, rfl, h⟩)) fun vv10 W4 hh10 => ?_
  obtain ⟨rfl, hgr⟩ := hh10
  have x4 : Ext w W4 := Qjz x3 hgr.1 b6
  refine Qac ?_
  refine hK7 _ _ ?_
  refine wp_seq_k fun K11 hK11 => ?_
  refine Qab ?_
  refine Qaa (.pointer (some ⟨g6, 0, none⟩)) 17 rfl kj kj ?_
  refine Qaa (.pointer (some ⟨g6, 0, none⟩)) 4 rfl kj kj ?_
  refine Qac ?_
  refine hK11 _ _ ?_
  refine wp_ret ?_
  repeat (first | with_reducible refine goR1 ?_ | with_reducible refine goR2 ?_)
  exact (show bodyPost _ _ _ .ret _ _ from ret1 (.pointer (some ⟨g6, 0, none⟩)) rfl (Qa9 kj) ⟨_, rfl, x4, newR x3 rfl b6 hgr⟩)
end Go.Proofs.YtibegnjaphohaaaDoor.Cn
end
section
namespace Go.Proofs.YtibegnjaphohaaaDoor.Cn
open Go Go.RowKit
open Rely Auto Own Sha
set_option linter.unusedVariables false
set_option linter.unusedSimpArgs false
open Go.Proofs.YtibegnjaphohaaaDoor
theorem QbZ {g mg k : Nat} {s0 ts : List Int} {pl : Nat} {ms : List (Int × List Int)} {W W' : World} {c : Array Value} {T : TypeId} (h : ChSt g mg s0 ts pl ms W) (q : Qai [g, mg] W W') (r : W.heap[k]? = some (.cells c T)) (hT : T ≠ 84) : W'.heap[k]? = some (.cells c T) :=
  Qai.row q r (fun hm => by
    rcases List.mem_cons.1 hm with e | hm
    · obtain ⟨B, -, h2⟩ := h.row
      rw [← e] at h2; exact Qck r h2 hT
    · rw [List.mem_singleton] at hm; exact MpAt.ne h.mp r hm)
theorem ChSt.other {g mg g2 mg2 : Nat} {s0 ts s2 ts2 : List Int} {pl pl2 : Nat} {ms ms2 : List (Int × List Int)} {W W' : World} (h : ChSt g mg s0 ts pl ms W) (q : Qai [g, mg] W W') (h2 : ChSt g2 mg2 s2 ts2 pl2 ms2 W) (n1 : g2 ≠ g) (n2 : mg2 ≠ mg) : ChSt g2 mg2 s2 ts2 pl2 ms2 W' := by
  obtain ⟨B, -, r⟩ := h.row
  obtain ⟨B2, -, r2⟩ := h2.row
  obtain ⟨es, c, hm, -⟩ := id h.mp
  obtain ⟨es2, c2, hm2, -⟩ := id h2.mp
  have a1 : g2 ≠ mg := MpAt.ne h.mp r2
  have a2 : mg2 ≠ g := fun e => by rw [e, r] at hm2; cases hm2
  exact h2.keep (q.block g2 (Qar r2) (fun hh => by rcases List.mem_cons.1 hh with e | hh; exact n1 e; exact a1 (List.mem_singleton.1 hh))) (q.block mg2 (Qar hm2) (fun hh => by rcases List.mem_cons.1 hh with e | hh; exact a2 e; exact n2 (List.mem_singleton.1 hh)))
theorem Qea {g mg : Nat} {w W W' : World} (e : Ext w W) (q : Qai [g, mg] W W') (h1 : w.heap.size ≤ g) (h2 : w.heap.size ≤ mg) : Ext w W' := Qai.ext q e (fun c hc => by
  rcases List.mem_cons.1 hc with rfl | hc
  · exact h1
  · rw [List.mem_singleton] at hc; rw [hc]; exact h2)
set_option maxHeartbeats 4000000 in
theorem Qhm (tc tq : TypeId) (w : World) (hc : w.heap[2]? = some (.cells (ints .u64 QaD) tc)) (hq : w.heap[1]? = some (.cells (ints .u64 Qam) tq)) (hT : Seat.TabAt w) : Calls Tryd.prog 8 #[] w (Ret w (.bool true)) := by
  refine enter 39 [] Tryd.func8 rfl rfl kj rfl ?_
  refine wp_seq_k fun K3 hK3 => ?_
  refine Qab ?_
  refine Qaa (.bool false) 0 rfl kj kj ?_
  refine Qac ?_
  refine hK3 _ _ ?_
  refine wp_seq_k fun K4 hK4 => ?_
  refine Qab ?_
  refine Qaa (.agg (ints .u8 ((1 :: List.replicate 31 0)))) 4 rfl kj kj ?_
  refine Qa8 (fun v W' => (NewR ((1 :: List.replicate 31 0)) 1 w) v W' ∧ Ext w W') 9 #[.agg (ints .u8 ((1 :: List.replicate 31 0))), .int .i64 2] 5 rfl kj kj ((newC 1 (by decide) ((1 :: List.replicate 31 0)) tc tq _ hc hq (hT.ext (Rely.Ext.refl w)) (by decide) (fun x hx => by rcases List.mem_cons.1 hx with rfl | hx; decide; rw [(List.mem_replicate.1 hx).2]; decide)).mono (by rintro e w' ⟨v, rfl, e1, hv⟩; exact ⟨v, rfl, hv, e1⟩)) fun vv5 W1 hh5 => ?_
  obtain ⟨hv5, e1⟩ := hh5
  have x1 : Ext w W1 := Ext.tr (Rely.Ext.refl w) e1
  obtain ⟨gc, gl, cap, lp, ns, rfl, lgc, hns, hgc, hgl, hea, dn1, dn2⟩ := hv5
  obtain ⟨pa, hpa⟩ : ∃ p, ns[0]? = some p := ⟨_, List.getElem?_eq_getElem (show 0 < ns.length by rw [hns]; decide)⟩
  obtain ⟨hla, hsa, loa, lma⟩ := hea _ _ hpa
  obtain ⟨ga, ma⟩ := pa
  replace hsa : ChSt ga ma (Qa5 (1 :: List.replicate 31 0) 1 0) [] 0 [] W1 := hsa
  have lo0a : w.heap.size ≤ ga := Nat.le_trans (Rely.Ext.refl w).size loa
  have lm0a : w.heap.size ≤ ma := Nat.le_trans (Rely.Ext.refl w).size lma
  refine Qaa (.pointer (some ⟨gc, 0, none⟩)) 1 rfl kj kj ?_
  refine Qac ?_
  refine hK4 _ _ ?_
  refine wp_seq_k fun K8 hK8 => ?_
  refine Qab ?_
  refine Qaa (.pointer (some ⟨gc, 0, none⟩)) 7 rfl kj kj ?_
  have r1_1 := (Qad hc e1)
  have r2_1 := (Qad hq e1)
  refine Qa8 (fun v W' => ∃ u, v = .tuple #[u, .nilIface] ∧ Qai [ga, ma] W1 W' ∧ ChSt ga ma (Qa5 (1 :: List.replicate 31 0) 1 0) [2] 3 (Qc5 [] (Qa5 (1 :: List.replicate 31 0) 1 0) 0 2) W' ∧ QbO W1.heap.size 2 (keyV (itV (Qa5 (1 :: List.replicate 31 0) 1 0) 2)) u W') 13 #[.pointer (some ⟨gc, 0, none⟩), .int .i64 0, .int .i64 2] 8 rfl kj kj ((Qg2 gc gl (2 ^ 1) cap lp _ hgc hgl ga 0 (by decide) hla tc tq r1_1 r2_1 hsa 2 (by decide) (Nat.ne_of_lt (Nat.lt_of_lt_of_le (Qar hc) lo0a)) (Nat.ne_of_lt (Nat.lt_of_lt_of_le (Qar hq) lo0a))).mono (by rintro e w' ⟨v, rfl, q1, q2, q3⟩; exact ⟨_, rfl, _, rfl, q1, q2, q3⟩)) fun vv9 W2 hh9 => ?_
  obtain ⟨uu9, rfl, q2, hb_a2, u9, rfl, hu9⟩ := hh9
  obtain ⟨a9_, c9_, rfl, -⟩ := id (OwnN.rd hu9)
  have x2 : Ext w W2 := Qea x1 q2 lo0a lm0a
  have hn12 : ((keyV (itV (Qa5 (1 :: List.replicate 31 0) 1 0) 2)).drop 32).length = 12 := by rw [List.length_drop, Qa7]
  refine Qaa (.tuple #[.agg (cat [#[.int .i64 2], ints .u8 ((keyV (itV (Qa5 (1 :: List.replicate 31 0) 1 0) 2)).take 32), #[.slice a9_ ((keyV (itV (Qa5 (1 :: List.replicate 31 0) 1 0) 2)).drop 32).length c9_]]), .nilIface]) 6 rfl kj kj ?_
  refine Qaa (.agg (cat [#[.int .i64 2], ints .u8 ((keyV (itV (Qa5 (1 :: List.replicate 31 0) 1 0) 2)).take 32), #[.slice a9_ ((keyV (itV (Qa5 (1 :: List.replicate 31 0) 1 0) 2)).drop 32).length c9_]])) 9 rfl kj kj ?_
  refine Qaa (.nilIface) 10 rfl kj kj ?_
  refine Qas (cat [#[.int .i64 0], ints .u8 (List.replicate 32 0), #[.slice none 0 0]]) 40 2 rfl kj kj fun g10 W3 l10 e3 r10_3 => ?_
  have x3 : Ext w W3 := Ext.tr x2 e3
  have b10 : w.heap.size ≤ g10 := Nat.le_trans x2.size l10
  refine Qaj g10 _ (cat [#[.int .i64 2], ints .u8 ((keyV (itV (Qa5 (1 :: List.replicate 31 0) 1 0) 2)).take 32), #[.slice a9_ ((keyV (itV (Qa5 (1 :: List.replicate 31 0) 1 0) 2)).drop 32).length c9_]]) 40 r10_3 rfl kj (Qap 40 _ _ g10 40 _ _ r10_3 rfl kj kj (isz (n := 34) kj (by rw [Qae, Qae, Qae]; simp only [Array.size_append, cat, ((Qaf _ _).trans (QaG (Qa7 _)))]; rfl)) (eqsz (n := 34) (by rw [Qae, Qae, Qae]; simp only [Array.size_append, cat, ((Qaf _ _).trans (List.length_replicate (n := 32)))]; rfl) (by rw [Qae, Qae, Qae]; simp only [Array.size_append, cat, ((Qaf _ _).trans (QaG (Qa7 _)))]; rfl)) (QaY _ (by intro a ha; simp only [List.mem_cons, List.not_mem_nil, or_false] at ha; rcases ha with rfl | rfl | rfl; exact (QaA _ rfl); exact (Qa0 _ _); exact (QaA _ rfl)))) fun W4 p4 r10_4 => ?_
  have x4 : Ext w W4 := Puts.ext p4 x3 b10
  refine Qaa (.nilIface) 3 rfl kj kj ?_
  refine Qac ?_
  refine hK8 _ _ ?_
  refine wp_seq_k fun K11 hK11 => ?_
  refine Qab ?_
  refine Qaa (.nilIface) 11 rfl kj kj ?_
  refine Qaa (.bool true) 12 rfl kj kj ?_
  refine Qaa (.bool true) 13 rfl kj kj ?_
  refine Qaa (.pointer (some ⟨g10, 0, none⟩)) 14 rfl kj kj ?_
  refine Qaa (.int .i64 2) 15 rfl kj (Qal 3 _ g10 0 40 _ (.int .i64 2) _ r10_4 rfl kj (Qat [] [#[.int .i64 2]] [ints .u8 ((keyV (itV (Qa5 (1 :: List.replicate 31 0) 1 0) 2)).take 32), #[.slice a9_ ((keyV (itV (Qa5 (1 :: List.replicate 31 0) 1 0) 2)).drop 32).length c9_]] 0 kj 0 _ rfl) kj) ?_
  refine Qaa (.bool true) 16 rfl kj kj ?_
  refine Qaa (.bool true) 17 rfl kj kj ?_
  refine Qaa (.bool true) 18 rfl kj kj ?_
  refine Qaa (.pointer (some ⟨g10, 33, none⟩)) 19 rfl kj kj ?_
  refine Qaa (.slice a9_ ((keyV (itV (Qa5 (1 :: List.replicate 31 0) 1 0) 2)).drop 32).length c9_) 20 rfl kj (Qal 38 _ g10 33 40 _ (.slice a9_ ((keyV (itV (Qa5 (1 :: List.replicate 31 0) 1 0) 2)).drop 32).length c9_) _ r10_4 rfl kj (Qat [#[.int .i64 2], ints .u8 ((keyV (itV (Qa5 (1 :: List.replicate 31 0) 1 0) 2)).take 32)] [#[.slice a9_ ((keyV (itV (Qa5 (1 :: List.replicate 31 0) 1 0) 2)).drop 32).length c9_]] [] 33 (by rw [Qae, Qae]; simp only [Array.size_append, cat, ((Qaf _ _).trans (QaG (Qa7 _)))]; rfl) 0 _ rfl) kj) ?_
  refine Qaa (.int .i64 ((((keyV (itV (Qa5 (1 :: List.replicate 31 0) 1 0) 2)).drop 32).length : Nat) : Int)) 21 rfl kj kj ?_
  refine Qaa (.bool true) 22 rfl kj (Qah (u := .bool ((((((keyV (itV (Qa5 (1 :: List.replicate 31 0) 1 0) 2)).drop 32).length : Nat) : Int) == 12))) kj (congrArg Value.bool (by rw [hn12]; rfl))) ?_
  refine Qaa (.bool true) 23 rfl kj kj ?_
  refine Qaa (.bool true) 24 rfl kj kj ?_
  refine Qaa (.pointer (some ⟨gc, 0, none⟩)) 25 rfl kj kj ?_
  have r6_2 := (QbZ hsa q2 hgc (by decide))
  have r6_3 := (Qad r6_2 e3)
  have r6_4 := (Puts.row p4 r6_3 (Qag r6_2 l10))
  have r7_2 := (QbZ hsa q2 hgl (by decide))
  have r7_3 := (Qad r7_2 e3)
  have r7_4 := (Puts.row p4 r7_3 (Qag r7_2 l10))
  have ha_3 := (ChSt.ext hb_a2 e3)
  have ha_4 := (ChSt.keep ha_3 (p4.2.2.2.2 _ (Nat.ne_of_lt (Nat.lt_of_lt_of_le (Nat.lt_of_lt_of_le hb_a2.glt (Nat.le_refl _)) l10))) (p4.2.2.2.2 _ (Nat.ne_of_lt (Nat.lt_of_lt_of_le (Nat.lt_of_lt_of_le hb_a2.mp.lt (Nat.le_refl _)) l10))))
  refine Qau (.int .i64 2) 17 #[.pointer (some ⟨gc, 0, none⟩), .int .i64 0] 26 rfl kj kj (Qjv gc gl (2 ^ 1) cap lp _ r6_4 r7_4 ga 0 (by decide) hla ha_4) fun W5 e5 => ?_
  have x5 : Ext w W5 := Ext.tr x4 e5
  refine Qaa (.bool true) 27 rfl kj kj ?_
  refine Qaa (.bool true) 28 rfl kj kj ?_
  refine Qaa (.bool true) 29 rfl kj kj ?_
  refine Qaa (.pointer (some ⟨gc, 0, none⟩)) 30 rfl kj kj ?_
  have r6_5 := (Qad r6_4 e5)
  have r7_5 := (Qad r7_4 e5)
  have ha_5 := (ChSt.ext ha_4 e5)
  refine Qau (.int .i64 3) 16 #[.pointer (some ⟨gc, 0, none⟩), .int .i64 0] 31 rfl kj kj (Qiy gc gl (2 ^ 1) cap lp _ r6_5 r7_5 ga 0 (by decide) hla ha_5) fun W6 e6 => ?_
  have x6 : Ext w W6 := Ext.tr x5 e6
  refine Qaa (.bool true) 32 rfl kj kj ?_
  refine Qaa (.bool true) 33 rfl kj kj ?_
  refine Qaa (.bool true) 34 rfl kj kj ?_
  refine Qaa (.pointer (some ⟨gc, 0, none⟩)) 35 rfl kj kj ?_
  have r6_6 := (Qad r6_5 e6)
  have r7_6 := (Qad r7_5 e6)
  refine Qau (.int .i64 (-1)) 16 #[.pointer (some ⟨gc, 0, none⟩), .int .i64 2] 36 rfl kj kj (Qix gc gl (2 ^ 1) cap lp _ r6_6 r7_6 2 (.inr (by decide))) fun W7 e7 => ?_
  have x7 : Ext w W7 := Ext.tr x6 e7
  refine Qaa (.bool true) 37 rfl kj kj ?_
  refine Qaa (.bool true) 38 rfl kj kj ?_
  refine Qaa (.bool true) 0 rfl kj kj ?_
  refine Qac ?_
  refine hK11 _ _ ?_
  refine wp_ret ?_
  repeat (first | with_reducible refine goR1 ?_ | with_reducible refine goR2 ?_)
  exact (show bodyPost _ _ _ .ret _ _ from ret1 (.bool true) rfl (Qa9 kj) ⟨rfl, x7⟩)
end Go.Proofs.YtibegnjaphohaaaDoor.Cn
end
section
namespace Go.Proofs.YtibegnjaphohaaaDoor.Cn
open Go Go.RowKit
open Rely Auto Own Sha
set_option linter.unusedVariables false
set_option linter.unusedSimpArgs false
open Go.Proofs.YtibegnjaphohaaaDoor
theorem Qh3 {k : IntKind} {B : Nat} {ys : List Int} {a : Option Addr} {n c : Nat} {W : World} (h : RdK k B ys (.slice a n c) W) (h0 : 0 < ys.length) : ∃ g o, a = some ⟨g, o, none⟩ ∧ g < B ∧ ∀ i, i < ys.length → W.cell? ⟨g, o + i, none⟩ = some (.int k (nth ys i)) := by
  obtain ⟨a', cap', e, h2, h3, h4, h5⟩ := h
  simp only [Value.slice.injEq] at e
  obtain ⟨rfl, -, -⟩ := e
  rcases h5 with h5 | ⟨g, o, q1, q2, q3, q4⟩
  · rw [h5] at h0; simp at h0
  · exact ⟨g, o, q1, q2, q4⟩
section
variable {P : Program} {ρ : Operand → Value} {o : Oper} {w : World}
theorem Qga (t : TypeId) (x y : Operand) (k : IntKind) (n g off len cap : Nat) (e : TypeId) (a : Option Addr) (z : Int) (ha : a = some ⟨g, off, none⟩) (hz : z = (n : Int)) (ho : o.op = .indexAddr t x y) (hx : ρ x = .slice a len cap) (hy : ρ y = .int k z)
    (hu : P.underlying t = some (.slice e)) (hs : (P.info? e).map (·.size) = some 1) (hn : n < len) : (execOp ρ o).run P w = .ok (.value (.pointer (some ⟨g, off + n, none⟩))) w := by
  subst ha; subst hz
  exact QcT t x y k n g off len cap e ho hx hy hu hs hn
end
theorem QfQ (n : Int) : 0 ≤ IntKind.u64.wrap n := Int.emod_nonneg _ (by decide)
theorem QgF (at_ : Int) (n : Nat) (hn : 0 < n) : ∃ k : Nat, k < n ∧ Int.tmod (IntKind.u64.wrap at_) ((n : Nat) : Int) = (k : Int) := by
  have h0 := QfQ at_
  have h1 := Int.emod_nonneg (IntKind.u64.wrap at_) (show ((n : Nat) : Int) ≠ 0 by omega)
  have h2 := Int.emod_lt_of_pos (IntKind.u64.wrap at_) (show (0 : Int) < ((n : Nat) : Int) by omega)
  refine ⟨(IntKind.u64.wrap at_ % (n : Int)).toNat, by omega, ?_⟩
  rw [Int.tmod_eq_emod_of_nonneg h0, Int.toNat_of_nonneg h1]
theorem Qej {k : IntKind} {T : TypeId} {base : Nat} {xs : List Int} {v : Value} {W : World} (h : OwnN k T base xs v W) {g : Nat} (hg : v.ownBlock = some g) : ∃ cur, W.heap[g]? = some (.cells cur T) := by
  rcases h.1.2 with ⟨rfl, _⟩ | ⟨g', c, cur, rfl, q2, q3, _⟩
  · cases hg
  · obtain rfl : g' = g := Option.some.inj hg
    exact ⟨cur, q3⟩
theorem Qhy {P : Program} {ρ : Operand → Value} {o : Oper} {w : World} (ts : Array TypeId) (x y : Operand) (k : IntKind) (a b c : Int) (ho : o.op = .call { callee := .builtin .max, args := #[x, y], argTypes := ts }) (hx : ρ x = .int k a) (hy : ρ y = .int k b) (h : (if a < b then b else a) = c) : (execOp ρ o).run P w = .ok (.value (.int k c)) w := by
  subst h
  unfold execOp
  simp only [ho, resolve, invoke, builtin, Sem.run_bind, Sem.run_pure, Result.andThen_ok, List.map_toArray, List.map_cons, List.map_nil, hx, hy, run_max_int2]
def onV (s0 : List Int) (k : Nat) (u : Value) : Value := .agg (cat [#[.int .i64 ((k : Nat) : Int)], ints .u8 ((keyV (itV s0 k)).take 32), #[u]])
def BySt (mB : Nat) (s0 : List Int) (i : Nat) (W : World) : Prop := ∃ es : List (Int × Value), MpAt mB es W ∧ (∀ p ∈ es, ∃ (k : Nat) (u : Value), k < i ∧ p = (((k : Nat) : Int), onV s0 k u) ∧ OwnN .u8 5 0 ((keyV (itV s0 k)).drop 32) u W) ∧ ∀ k, k < i → ∃ v, (((k : Nat) : Int), v) ∈ es
theorem Qd2 {xs : List Int} {u : Value} {W W' : World} {b base : Nat} {c : Array Value} {T : TypeId} (h : OwnN .u8 5 base xs u W) (p : Puts W b W') (r : W.heap[b]? = some (.cells c T)) (hT : T ≠ 5) : OwnN .u8 5 base xs u W' :=
  h.keep fun g hg => p.2.2.2.2 g (fun e => by obtain ⟨cur, hc⟩ := Qej h hg; rw [e] at hc; exact Qck r hc hT)
theorem QcE {xs : List Int} {u : Value} {W W' : World} {b base : Nat} {m : List (Int × Value)} (h : OwnN .u8 5 base xs u W) (p : Puts W b W') (r : MpAt b m W) : OwnN .u8 5 base xs u W' :=
  h.keep fun g hg => p.2.2.2.2 g (fun e => by obtain ⟨cur, hc⟩ := Qej h hg; exact MpAt.ne r hc e)
theorem Qiz {xs : List Int} {u : Value} {W W' : World} {g mg base : Nat} {s0 ts : List Int} {pl : Nat} {ms : List (Int × List Int)} (h : OwnN .u8 5 base xs u W) (hc : ChSt g mg s0 ts pl ms W) (q : Qai [g, mg] W W') : OwnN .u8 5 base xs u W' :=
  h.keep fun k hk => by
    obtain ⟨cur, hr⟩ := Qej h hk
    exact (QbZ hc q hr (by decide)).trans hr.symm
theorem BySt.keepG {mB : Nat} {s0 : List Int} {i : Nat} {W W' : World} (h : BySt mB s0 i W) (hm : W'.heap[mB]? = W.heap[mB]?) (ho : ∀ xs u, OwnN .u8 5 0 xs u W → OwnN .u8 5 0 xs u W') : BySt mB s0 i W' := by
  obtain ⟨es, h1, h2, h3⟩ := h
  exact ⟨es, h1.keep hm, fun p hp => by obtain ⟨k, u, q1, q2, q3⟩ := h2 p hp; exact ⟨k, u, q1, q2, ho _ _ q3⟩, h3⟩
theorem BySt.lt {mB : Nat} {s0 : List Int} {i : Nat} {W : World} (h : BySt mB s0 i W) : mB < W.heap.size := by obtain ⟨es, h1, -⟩ := h; exact h1.lt
theorem BySt.ext {mB : Nat} {s0 : List Int} {i : Nat} {W W' : World} (h : BySt mB s0 i W) (e : Ext W W') : BySt mB s0 i W' := h.keepG (e.block mB h.lt) fun _ _ k => k.ext e
theorem BySt.putc {mB b : Nat} {s0 : List Int} {i : Nat} {W W' : World} {c : Array Value} {T : TypeId} (h : BySt mB s0 i W) (p : Puts W b W') (r : W.heap[b]? = some (.cells c T)) (hT : T ≠ 5) : BySt mB s0 i W' :=
  h.keepG (p.2.2.2.2 mB (by obtain ⟨es, h1, -⟩ := h; exact Ne.symm (MpAt.ne h1 r))) fun _ _ k => Qd2 k p r hT
theorem BySt.putm {mB b : Nat} {s0 : List Int} {i : Nat} {W W' : World} {m : List (Int × Value)} (h : BySt mB s0 i W) (p : Puts W b W') (r : MpAt b m W) (hn : mB ≠ b) : BySt mB s0 i W' :=
  h.keepG (p.2.2.2.2 mB hn) fun _ _ k => QcE k p r
theorem Qjm {mB g mg : Nat} {s0 ts : List Int} {pl : Nat} {ms : List (Int × List Int)} {W W' : World} {es : List (Int × Value)} (h : MpAt mB es W) (hc : ChSt g mg s0 ts pl ms W) (q : Qai [g, mg] W W') (hn : mB ≠ mg) : MpAt mB es W' :=
  h.keep (q.block mB h.lt (fun hh => by
    rcases List.mem_cons.1 hh with e | hh
    · obtain ⟨B, -, r⟩ := hc.row; exact MpAt.ne h r e.symm
    · exact hn (List.mem_singleton.1 hh)))
theorem BySt.tk {mB g mg : Nat} {s0 s2 ts : List Int} {i pl : Nat} {ms : List (Int × List Int)} {W W' : World} (h : BySt mB s0 i W) (hc : ChSt g mg s2 ts pl ms W) (q : Qai [g, mg] W W') (hn : mB ≠ mg) : BySt mB s0 i W' := by
  obtain ⟨es, h1, h2, h3⟩ := h
  exact ⟨es, Qjm h1 hc q hn, fun p hp => by obtain ⟨k, u, q1, q2, q3⟩ := h2 p hp; exact ⟨k, u, q1, q2, Qiz q3 hc q⟩, h3⟩
theorem Qik {m : Nat} {W : World} (r : W.heap[m]? = some (.map #[] 0)) : MpAt m [] W := ⟨_, _, r, QgL 0⟩
theorem QcW {m b : Nat} {W W' : World} {es : List (Int × Value)} {c : Array Value} {T : TypeId} (h : MpAt m es W) (p : Puts W b W') (r : W.heap[b]? = some (.cells c T)) : MpAt m es W' := h.puts p (Ne.symm (MpAt.ne h r))
theorem Qj6 {m : Nat} {s0 : List Int} {W : World} (r : W.heap[m]? = some (.map #[] 0)) : BySt m s0 0 W := ⟨[], Qik r, fun p hp => absurd hp List.not_mem_nil, fun k hk => absurd hk (Nat.not_lt_zero _)⟩
theorem BySt.get {mB : Nat} {s0 : List Int} {i k : Nat} {W : World} (h : BySt mB s0 i W) (hk : k < i) (z : Value) : ∃ es a c, MpAt mB es W ∧ mget es ((k : Nat) : Int) z = onV s0 k (.slice a ((keyV (itV s0 k)).drop 32).length c) ∧ OwnN .u8 5 0 ((keyV (itV s0 k)).drop 32) (.slice a ((keyV (itV s0 k)).drop 32).length c) W := by
  obtain ⟨es, h1, h2, h3⟩ := h
  obtain ⟨v, hv⟩ := h3 k hk
  cases hf : es.find? (fun p => p.1 == ((k : Nat) : Int)) with
  | none =>
    rw [List.find?_eq_none] at hf
    exact absurd (by simp) (hf _ hv)
  | some p =>
    obtain ⟨j, u, q1, q2, q3⟩ := h2 p (List.mem_of_find?_eq_some hf)
    have hp := List.find?_some hf
    rw [q2] at hp
    have hjk : ((j : Nat) : Int) = ((k : Nat) : Int) := by simpa using hp
    have hjk2 : j = k := by omega
    subst hjk2
    obtain ⟨a, c, rfl, -⟩ := id (OwnN.rd q3)
    refine ⟨es, a, c, h1, ?_, q3⟩
    unfold mget
    rw [hf, q2]; rfl
def tmv (n : Int) : Int × Value := (n, .int .i64 1)
theorem QiZ {ts : List Int} {n : Int} (h : n ∈ ts) (z : Value) : mget (ts.map tmv) n z = .int .i64 1 := by
  unfold mget
  cases hf : (ts.map tmv).find? (fun p => p.1 == n) with
  | none =>
    rw [List.find?_eq_none] at hf
    exact absurd (show ((tmv n).1 == n) = true by simp [tmv]) (hf _ (List.mem_map_of_mem h))
  | some p =>
    obtain ⟨x, -, rfl⟩ := List.mem_map.1 (List.mem_of_find?_eq_some hf)
    rfl
theorem Qie {ts : List Int} {n : Int} (h : n ∉ ts) (z : Value) : mget (ts.map tmv) n z = z := by
  unfold mget
  rw [show (ts.map tmv).find? (fun p => p.1 == n) = none from List.find?_eq_none.2 fun p hp q => by
    obtain ⟨x, hx, rfl⟩ := List.mem_map.1 hp
    exact h ((show x = n by simpa [tmv] using q) ▸ hx)]
  rfl
theorem Qiu (ts : List Int) : (ts.map tmv).map Prod.fst = ts := by
  rw [List.map_map]
  exact (List.map_congr_left (fun _ _ => rfl)).trans (List.map_id ts)
def upTo (i : Nat) : List Int := (List.range i).map fun k => ((k : Nat) : Int)
theorem Qgz (i : Nat) : upTo (i + 1) = upTo i ++ [((i : Nat) : Int)] := by unfold upTo; rw [List.range_succ, List.map_append]; rfl
theorem Qg0 {i : Nat} {n : Int} (h : n ∈ upTo i) : n < ((i : Nat) : Int) := by
  unfold upTo at h
  obtain ⟨k, hk, rfl⟩ := List.mem_map.1 h
  have := List.mem_range.1 hk
  omega
theorem Qj4 {i : Nat} (h : i ≤ 1000) : chkN (upTo i) i ((i : Nat) : Int) = 0 := by
  have h1 : ((i : Nat) : Int) ∉ upTo i := fun hm => by have := Qg0 hm; omega
  have h2 : hiT (upTo i) ≤ ((i : Nat) : Int) := by
    rcases QfC (upTo i) with e | e
    · omega
    · have := Qg0 e; omega
  have h0 : chkT (upTo i) ((i : Nat) : Int) = 0 := by
    unfold chkT
    rw [if_neg (by omega), if_neg (by omega), if_neg h1]
  unfold chkN
  rw [if_neg (by rw [h0]; decide), if_neg (by omega)]
theorem Qj5 {ts : List Int} {pl m : Nat} (hm : m < 70) (h : chkN ts pl ((m : Nat) : Int) ≠ 0) : ((m : Nat) : Int) ∈ ts ∨ (((m : Nat) : Int) ∉ ts ∧ ((m : Nat) : Int) < hiT ts - 64) := by
  by_cases h1 : ((m : Nat) : Int) ∈ ts
  · exact .inl h1
  · refine .inr ⟨h1, ?_⟩
    rcases Int.lt_or_le ((m : Nat) : Int) (hiT ts - 64) with h2 | h2
    · exact h2
    · have h0 : chkT ts ((m : Nat) : Int) = 0 := by
        unfold chkT
        rw [if_neg (by omega), if_neg (by omega), if_neg h1]
      unfold chkN at h
      rw [if_neg (by rw [h0]; decide), if_neg (by omega)] at h
      exact absurd rfl h
theorem QiG {g mg pl : Nat} {s0 ts : List Int} {ms : List (Int × List Int)} {W : World} (h : ChSt g mg s0 ts pl ms W) : -1 ≤ hiT ts ∧ hiT ts ≤ 4294967295 := by
  obtain ⟨B, h1, -⟩ := h.row
  have := h1.hnx
  have := h1.hhi
  omega
section
variable {ds : List Deferred} {P : Program} {ops : Array Oper} {Q : Exit → Act → World → Prop} {rest : List Oper} {o : Oper} {N : Nat} {L : Env} {w : World}
theorem Qez (d : Nat) (hd : o.dst = some d) (hg : QaZ ops o N L = some true) (h : (execOp (Rely.look (envN N L)) o).run P w = .ok (.value (.map (some w.heap.size))) (w.alloc (.map #[] 0)))
    (kk : ∀ m W', w.heap.size ≤ m → Ext w W' → W'.heap[m]? = some (.map #[] 0) → WL P ops Q rest (Qaq ds N ((d, .map (some m)) :: L)) W') : WL P ops Q (o :: rest) (Qaq ds N L) w :=
  Qbe _ _ d hd hg h (kk w.heap.size _ (Nat.le_refl _) (Qbu _ _) (heap_alloc_new _ _))
theorem QgA (m k x : Operand) (t : TypeId) {kt et : TypeId} {mB i : Nat} {s0 : List Int} {u : Value} (ho : o.op = .mapUpdate t m k x) (hm : Rely.look (envN N L) m = .map (some mB)) (hk : Rely.look (envN N L) k = .int .i64 ((i : Nat) : Int)) (hx : Rely.look (envN N L) x = onV s0 i u)
    (ht : P.underlying t = some (.map kt et)) (hkt : P.underlying kt = some (.int .i64)) (h : BySt mB s0 i w) (hu : OwnN .u8 5 0 ((keyV (itV s0 i)).drop 32) u w) (hd : o.dst = none) (hg : QaZ ops o N L = some true)
    (kk : ∀ W', Puts w mB W' → BySt mB s0 (i + 1) W' → WL P ops Q rest (Qaq ds N L) W') : WL P ops Q (o :: rest) (Qaq ds N L) w := by
  obtain ⟨es, h1, h2, h3⟩ := h
  obtain ⟨W', r1, r2, r3⟩ := Qdr (ρ := Rely.look (envN N L)) (o := o) t m k x ho hm hk hx ht hkt h1 (fun hin => by
    obtain ⟨p, hp, e⟩ := List.mem_map.1 hin
    obtain ⟨j, v, q1, q2, -⟩ := h2 p hp
    rw [q2] at e
    have : ((j : Nat) : Int) = ((i : Nat) : Int) := e
    omega)
  refine Qd1 W' hd hg r1 (kk W' r2 ⟨_, r3, fun p hp => ?_, fun k hk => ?_⟩)
  · rcases List.mem_append.1 hp with hp | hp
    · obtain ⟨j, v, q1, q2, q3⟩ := h2 p hp
      exact ⟨j, v, by omega, q2, QcE q3 r2 h1⟩
    · rw [List.mem_singleton] at hp
      exact ⟨i, u, by omega, hp, QcE hu r2 h1⟩
  · rcases Nat.lt_or_ge k i with q | q
    · obtain ⟨v, hv⟩ := h3 k q
      exact ⟨v, List.mem_append.2 (.inl hv)⟩
    · obtain rfl : k = i := by omega
      exact ⟨_, List.mem_append.2 (.inr (List.mem_singleton.2 rfl))⟩
theorem Qg7 (m k x : Operand) (t : TypeId) {kt et : TypeId} {mT : Nat} {ts : List Int} {n : Int} (ho : o.op = .mapUpdate t m k x) (hm : Rely.look (envN N L) m = .map (some mT)) (hk : Rely.look (envN N L) k = .int .i64 n) (hx : Rely.look (envN N L) x = .int .i64 1)
    (ht : P.underlying t = some (.map kt et)) (hkt : P.underlying kt = some (.int .i64)) (h : MpAt mT (ts.map tmv) w) (hn : n ∉ ts) (hd : o.dst = none) (hg : QaZ ops o N L = some true)
    (kk : ∀ W', Puts w mT W' → MpAt mT ((ts ++ [n]).map tmv) W' → WL P ops Q rest (Qaq ds N L) W') : WL P ops Q (o :: rest) (Qaq ds N L) w := by
  obtain ⟨W', r1, r2, r3⟩ := Qdr (ρ := Rely.look (envN N L)) (o := o) t m k x ho hm hk hx ht hkt h (by rw [Qiu]; exact hn)
  refine Qd1 W' hd hg r1 (kk W' r2 ?_)
  rw [List.map_append]; exact r3
end
namespace Wmn
open Wm
theorem wm_nil {P : Program} {ops : Array Oper} {Q : Exit → Act → World → Prop} {N : Nat} {L : Env} {w : World} {ds : List Deferred} {fuel m : Nat} {listed : Array Bool} {Rd : World → Prop} (hr : Region.ready .any ops listed = []) (h : Q .normal (Qaq ds N L) w) : WM P ops Q Rd m fuel listed (Qaq ds N L) w := by
  cases fuel with
  | zero => exact ⟨fun _ => ⟨hr, h⟩⟩
  | succ f => exact ⟨fun _ => ⟨fun _ => h, fun i hi => by rw [hr] at hi; cases hi⟩⟩
end Wmn
set_option maxHeartbeats 4000000 in
theorem QjM (x y : Value) (xs ys : List Int) (w : World) (hx : QbG w x xs) (hy : QbG w y ys) : Calls Tryd.prog 24 #[x, y] w (Ret w (.bool (decide (xs = ys)))) := by
  have hse : ((QcD xs).toList == (QcD ys).toList) = decide (xs = ys) := by
    obtain ⟨_, _, _, _, bx, _⟩ := hx
    obtain ⟨_, _, _, _, by', _⟩ := hy
    exact Qg6 bx by'
  refine enter 10 [(0, x), (1, y)] Tryd.func24 rfl rfl kj rfl ?_
  refine wp_seq_k fun K1 hK1 => ?_
  refine Qab ?_
  refine Qaa (.bool false) 4 rfl kj kj ?_
  refine Qac ?_
  refine hK1 _ _ ?_
  refine wp_seq_k fun K2 hK2 => ?_
  refine Qab ?_
  refine Qaa (x) 5 rfl kj kj ?_
  refine Qaa (.string (QcD xs)) 6 rfl kj (Qe6 _ x rfl kj xs hx) ?_
  refine Qaa (y) 7 rfl kj kj ?_
  refine Qaa (.string (QcD ys)) 8 rfl kj (Qe6 _ y rfl kj ys hy) ?_
  refine Qaa (.bool (decide (xs = ys))) 9 rfl kj (Qah (u := .bool ((QcD xs).toList == (QcD ys).toList)) kj (congrArg Value.bool hse)) ?_
  refine Qaa (.bool (decide (xs = ys))) 4 rfl kj kj ?_
  refine Qac ?_
  refine hK2 _ _ ?_
  refine wp_ret ?_
  repeat (first | with_reducible refine goR1 ?_ | with_reducible refine goR2 ?_)
  exact (show bodyPost _ _ _ .ret _ _ from ret1 (.bool (decide (xs = ys))) rfl (Qa9 kj) ⟨rfl, (Rely.Ext.refl w)⟩)
theorem QjL (x y : Value) (xs : List Int) (w : World) (hx : QbG w x xs) (hy : QbG w y xs) : Calls Tryd.prog 24 #[x, y] w (Ret w (.bool true)) := by
  have h := QjM x y xs xs w hx hy
  rwa [decide_eq_true rfl] at h
set_option maxHeartbeats 4000000 in
theorem Qjl (gc gl len cap : Nat) (lp : Array Value) (w : World) (hgc : w.heap[gc]? = some (.cells #[.slice (some ⟨gl, 0, none⟩) len cap] 70)) (hgl : w.heap[gl]? = some (.cells lp 75)) (g i : Nat) (hi : i < len) (hli : lp[i]? = some (.pointer (some ⟨g, 0, none⟩))) (tc tq : TypeId) (hc : w.heap[2]? = some (.cells (ints .u64 QaD) tc)) (hq : w.heap[1]? = some (.cells (ints .u64 Qam) tq)) {mg pl : Nat} {s0 ts : List Int} {ms : List (Int × List Int)} (hch : ChSt g mg s0 ts pl ms w) (he : chkN ts pl ((pl : Nat) : Int) = 0) (hcg : 2 ≠ g) (hsg : 1 ≠ g) : Calls Tryd.prog 12 #[.pointer (some ⟨gc, 0, none⟩), .int .i64 ((i : Nat) : Int)] w (fun e W => ∃ v, e = .returned (.tuple #[v, .nilIface]) ∧ Qai [g, mg] w W ∧ ChSt g mg s0 (ts ++ [((pl : Nat) : Int)]) (max pl (pl + 1)) (Qc5 ms s0 pl pl) W ∧ QbO w.heap.size ((pl : Nat) : Int) (keyV (itV s0 pl)) v W) := by
  obtain ⟨B, hW, hrg⟩ := hch.row
  refine enter 23 [(0, .pointer (some ⟨gc, 0, none⟩)), (1, .int .i64 ((i : Nat) : Int))] Tryd.func12 rfl rfl kj rfl ?_
  refine wp_seq_k fun K7 hK7 => ?_
  refine Qab ?_
  refine Qas (cat [#[.int .i64 0], ints .u8 (List.replicate 32 0), #[.slice none 0 0]]) 40 4 rfl kj kj fun g8 W1 l8 e1 r8_1 => ?_
  have x1 : Ext w W1 := Ext.tr (Rely.Ext.refl w) e1
  have b8 : w.heap.size ≤ g8 := Nat.le_trans (Rely.Ext.refl w).size l8
  refine Qaa (.nilIface) 5 rfl kj kj ?_
  refine Qac ?_
  refine hK7 _ _ ?_
  refine wp_seq_k fun K9 hK9 => ?_
  refine Qab ?_
  refine Qaa (.pointer (some ⟨gc, 0, none⟩)) 7 rfl kj kj ?_
  refine Qaa (.int .i64 ((i : Nat) : Int)) 8 rfl kj kj ?_
  have r1_1 := (Qad hgc e1)
  have r2_1 := (Qad hgl e1)
  refine Qau (.pointer (some ⟨g, 0, none⟩)) 31 #[.pointer (some ⟨gc, 0, none⟩), .int .i64 ((i : Nat) : Int)] 9 rfl kj kj (at_I gc gl len cap lp _ r1_1 r2_1 g i hi hli) fun W2 e2 => ?_
  have x2 : Ext w W2 := Ext.tr x1 e2
  refine Qaa (.pointer (some ⟨g, 0, none⟩)) 6 rfl kj kj ?_
  refine Qac ?_
  refine hK9 _ _ ?_
  refine wp_seq_k fun K10 hK10 => ?_
  refine wp_seq_k fun K11 hK11 => ?_
  refine Qab ?_
  refine Qaa (.pointer (some ⟨g, 0, none⟩)) 10 rfl kj kj ?_
  refine Qaa (.bool false) 11 rfl kj kj ?_
  refine Qac ?_
  refine hK11 _ _ ?_
  refine cond_false kj ?_
  refine wp_skip ?_
  refine hK10 _ _ ?_
  refine wp_seq_k fun K12 hK12 => ?_
  refine Qab ?_
  refine Qaa (.pointer (some ⟨gc, 0, none⟩)) 14 rfl kj kj ?_
  refine Qaa (.int .i64 ((i : Nat) : Int)) 15 rfl kj kj ?_
  refine Qaa (.pointer (some ⟨g, 0, none⟩)) 16 rfl kj kj ?_
  refine Qaa (.pointer (some ⟨g, 0, none⟩)) 17 rfl kj kj ?_
  refine Qaa (.pointer (some ⟨g, 34, none⟩)) 18 rfl kj kj ?_
  have r5_1 := (Qad hrg e1)
  have r5_2 := (Qad r5_1 e2)
  refine Qaa (.int .i64 ((pl : Nat) : Int)) 19 rfl kj (Qal 3 _ g 34 84 _ (.int .i64 ((pl : Nat) : Int)) _ r5_2 rfl kj (Qat [#[.int .i64 ((pl : Nat) : Int)], #[.int .u64 ((B : Nat) : Int)], ints .u8 (itV s0 pl)] [#[.int .i64 ((pl : Nat) : Int)]] [#[.map (some mg)]] 34 (by rw [Qae, Qae, Qae]; simp only [Array.size_append, cat, ((Qaf _ _).trans (Qav hch.len pl))]; rfl) 0 _ rfl) kj) ?_
  have r3_1 := (Qad hc e1)
  have r3_2 := (Qad r3_1 e2)
  have r4_1 := (Qad hq e1)
  have r4_2 := (Qad r4_1 e2)
  have r1_2 := (Qad r1_1 e2)
  have r2_2 := (Qad r2_1 e2)
  refine Qa8 (fun v W' => ∃ u, v = .tuple #[u, .nilIface] ∧ Qai [g, mg] W2 W' ∧ ChSt g mg s0 (ts ++ [((pl : Nat) : Int)]) (max pl (pl + 1)) (Qc5 ms s0 pl pl) W' ∧ QbO W2.heap.size ((pl : Nat) : Int) (keyV (itV s0 pl)) u W') 13 #[.pointer (some ⟨gc, 0, none⟩), .int .i64 ((i : Nat) : Int), .int .i64 ((pl : Nat) : Int)] 20 rfl kj kj ((Qg2 gc gl len cap lp _ r1_2 r2_2 g i hi hli tc tq r3_2 r4_2 (hch.ext x2) pl he hcg hsg).mono (by rintro e w' ⟨v, rfl, q1, q2, q3⟩; exact ⟨_, rfl, _, rfl, q1, q2, q3⟩)) fun vv13 W3 hh13 => ?_
  obtain ⟨uu13, rfl, q3, hch2, u13, rfl, hu13⟩ := hh13
  obtain ⟨a13_, c13_, rfl, -⟩ := id (OwnN.rd hu13)
  have x3 : Qai [g, mg] w W3 := Qai.keeps (Qai.step (Qai.refl [g, mg] w) x2) q3 (fun c hc => .inl hc)
  refine Qaa (.agg (cat [#[.int .i64 ((pl : Nat) : Int)], ints .u8 ((keyV (itV s0 pl)).take 32), #[.slice a13_ (((keyV (itV s0 pl)).drop 32).length) c13_]])) 21 rfl kj kj ?_
  refine Qaa (.nilIface) 22 rfl kj kj ?_
  have r8_2 := (Qad r8_1 e2)
  have r8_3 := (Qai.row q3 r8_2 (Qan (Ne.symm (Nat.ne_of_lt (Nat.lt_of_lt_of_le hch.glt b8))) (Qan (Ne.symm (Nat.ne_of_lt (Nat.lt_of_lt_of_le hch.mp.lt b8))) Qa6)))
  refine Qaj g8 _ (cat [#[.int .i64 ((pl : Nat) : Int)], ints .u8 ((keyV (itV s0 pl)).take 32), #[.slice a13_ (((keyV (itV s0 pl)).drop 32).length) c13_]]) 40 r8_3 rfl kj (Qap 40 _ _ g8 40 _ _ r8_3 rfl kj kj (isz (n := 34) kj (by rw [Qae, Qae, Qae]; simp only [Array.size_append, cat, ((Qaf _ _).trans (QaG (Qa7 _)))]; rfl)) (eqsz (n := 34) (by rw [Qae, Qae, Qae]; simp only [Array.size_append, cat, ((Qaf _ _).trans (List.length_replicate (n := 32)))]; rfl) (by rw [Qae, Qae, Qae]; simp only [Array.size_append, cat, ((Qaf _ _).trans (QaG (Qa7 _)))]; rfl)) (QaY _ (by intro a ha; simp only [List.mem_cons, List.not_mem_nil, or_false] at ha; rcases ha with rfl | rfl | rfl; exact (QaA _ rfl); exact (Qa0 _ _); exact (QaA _ rfl)))) fun W4 p4 r8_4 => ?_
  have x4 : Qai [g, mg] w W4 := Qai.puts x3 p4 (.inr b8)
  refine Qaa (.nilIface) 5 rfl kj kj ?_
  refine Qac ?_
  refine hK12 _ _ ?_
  refine wp_ret ?_
  repeat (first | with_reducible refine goR1 ?_ | with_reducible refine goR2 ?_)
  have f14_4 := (hu13.puts p4 (Qcq hu13 (Qar r8_2)))
  exact (show bodyPost _ _ _ .ret _ _ from ret2 (.agg (cat [#[.int .i64 ((pl : Nat) : Int)], ints .u8 ((keyV (itV s0 pl)).take 32), #[.slice a13_ (((keyV (itV s0 pl)).drop 32).length) c13_]])) (.nilIface) rfl (QaL g8 40 _ r8_4 kj kj (isz (n := 34) kj (by rw [Qae, Qae, Qae]; simp only [Array.size_append, cat, ((Qaf _ _).trans (QaG (Qa7 _)))]; rfl))) (Qa9 kj) ⟨_, rfl, x4, (hch2.keep (p4.2.2.2.2 g (Ne.symm (Ne.symm (Nat.ne_of_lt (Nat.lt_of_lt_of_le hch.glt b8))))) (p4.2.2.2.2 mg (Ne.symm (Ne.symm (Nat.ne_of_lt (Nat.lt_of_lt_of_le hch.mp.lt b8)))))), _, rfl, OwnN.base x2.size f14_4⟩)
end Go.Proofs.YtibegnjaphohaaaDoor.Cn
end
