/- Texts of this claim, joined (D4). -/
import Derived.Test.YtcmaolmofgmkhaaDoorZD3
import Derived.Lib.SmallJoins
import Derived.Lib.LaidTab
import Derived.Deep.Strs

section
namespace Go.Proofs.YtcmaolmofgmkhaaDoor.Te
open Go Go.RowKit
open Rely Auto Own Seat Sha
set_option linter.unusedVariables false
set_option linter.unusedSimpArgs false
theorem QfK (pl : Nat → Option (Nat × Nat)) : ∀ (ps : List (Nat × Nat × Value × Array Value)) (pre : List (Array Value)) (rest : Array Value) (off : Nat), (cat pre).size = off → okPl pl off ps → tot ps = rest.size →
    Instr.fill pl (cat pre ++ rest) (ps.map fun x => (x.1, x.2.2.1)) = some (cat (pre ++ ps.map fun x => x.2.2.2))
  | [], pre, rest, off, _, _, ht => by
    have : rest = #[] := Array.eq_empty_of_size_eq_zero ht.symm
    subst this
    simp [Instr.fill]
  | (i, n, v, p) :: r, pre, rest, off, hoff, ⟨h1, h2, h3, h4⟩, ht => by
    subst h2
    have hn : n ≤ rest.size := by rw [← ht, tot]; omega
    simp only [List.map_cons, Instr.fill, h1, h3]
    rw [if_neg (by simp; omega)]
    have hz : (v.cells.zipIdx.foldl (fun cs (x : Value × Nat) => cs.setIfInBounds (off + x.2) x.1) (cat pre ++ rest)) = cat (pre ++ [v.cells]) ++ rest.extract n rest.size := by
      have e1 : v.cells.zipIdx = (v.cells.toList.zipIdx 0).toArray := by
        apply Array.ext'
        simp
      rw [e1, List.foldl_toArray', Qdn]
      · have e2 : rest = rest.extract 0 n ++ rest.extract n rest.size := by
          rw [Array.extract_append_extract, Nat.max_eq_right hn]
          simp
        have e3 : (cat pre ++ rest) = cat (pre ++ ([rest.extract 0 n] ++ [rest.extract n rest.size])) := by
          rw [QaT]
          congr 1
        rw [Nat.add_zero, e3]
        have := Qge pre [rest.extract 0 n] [v.cells] [rest.extract n rest.size] off hoff (by show v.cells.size = (rest.extract 0 n).size; simp; omega)
        rw [show (cat [v.cells]).toList = v.cells.toList from rfl] at this
        rw [this, ← List.append_assoc, QaT (pre ++ [v.cells])]
        rfl
      · rfl
    have key := QfK pl r (pre ++ [v.cells]) (rest.extract n rest.size) (off + n) (by rw [QaT]; show (cat pre ++ v.cells).size = _; simp; omega) h4 (by simp; rw [← ht, tot]; omega)
    rw [← hz] at key
    rw [List.append_assoc] at key
    exact key
theorem QiG {P : Program} {ρ : Operand → Value} {o : Oper} {w : World} (t e : TypeId) (sz : Nat) (x : Operand) (v : Value) (ho : o.op = .buildSlice t 1 #[(0, x)]) (hx : ρ x = v) (hu : P.underlying t = some (.slice e)) (hs : (P.info? e).map (·.size) = some sz) (hz : ((P.info? e).bind (·.zero)).isSome = true) (hv : v.cells.size = sz) (h0 : 0 < sz) (hl : sz ≤ 2 ^ 24) :
    (execOp ρ o).run P w = .ok (.value (.slice (some ⟨w.heap.size, 0, none⟩) 1 1)) (w.alloc (.cells v.cells e)) := by
  cases hie : P.info? e with
  | none => simp [hie] at hs
  | some ie =>
    simp only [hie, Option.map_some, Option.some.injEq, Option.bind_some] at hs hz
    obtain ⟨z, hzz⟩ := Option.isSome_iff_exists.1 hz
    subst hx
    have hf : Instr.fill (fun i => some (i * ie.size, ie.size)) ((Array.range (1 * ie.size)).map (z.cells[· % z.cells.size]!)) (Array.map (fun p : Nat × Operand => (p.1, ρ p.2)) #[(0, x)]).toList = some (ρ x).cells := by
      have := QfK (fun i => some (i * ie.size, ie.size)) [(0, ie.size, ρ x, (ρ x).cells)] [] ((Array.range (1 * ie.size)).map (z.cells[· % z.cells.size]!)) 0 rfl ⟨by simp, rfl, by rw [hv, hs], trivial⟩ (by simp [tot])
      simpa [cat] using this
    have hr := run_buildSlice w t e 1 (Array.map (fun p : Nat × Operand => (p.1, ρ p.2)) #[(0, x)]) (ρ x).cells ie z hu hie hzz (by rw [hs]; omega) (by rw [hs]; omega) hf
    unfold execOp
    simp only [ho, Sem.run_bind]
    rw [hr]
    rfl
theorem Qbf {base g : Nat} {w W W' : World} (p : Puts W g W') (x : Below base w W) (hg : base ≤ g) : Below base w W' :=
  ⟨p.1.trans x.os, p.2.1.trans x.tape, p.2.2.1.trans x.output, by have := x.size; have := p.2.2.2.1; omega, fun k hk => (p.2.2.2.2 k (by omega)).trans (x.block k hk)⟩
theorem QiL (base : Nat) (W : World) : OwT base [] (.slice none 0 0) W :=
  ⟨fun i hi => absurd hi (Nat.not_lt_zero _), World.ownsRow_nil W base 41 99, fun i hi => absurd hi (Nat.not_lt_zero _), fun i j hi => absurd hi (Nat.not_lt_zero _)⟩
theorem QjX (ts : List NdV) (n : NdV) : fl (ts ++ [n]) = fl ts ++ (cat (ndP n)).toList := by unfold fl; rw [List.flatMap_append]; simp
theorem QcM (ts : List NdV) (n : NdV) {j : Nat} (h : j < ts.length + 1) : ndi (ts ++ [n]) j = if j < ts.length then ndi ts j else n := by
  rw [Qc9]
  split
  · rfl
  · rw [show j - ts.length = 0 by omega]; rfl
theorem Qjx {P : Program} {ρ : Operand → Value} {o : Oper} {W : World} (b : Nat) (s x : Operand) (t : TypeId) (ho : o.op = .call { callee := .builtin .append, args := #[s, x], argTypes := #[t, t] }) (ht : P.underlying t = some (.slice 41))
    (hi : (P.info? 41).map (fun i => (i.zero.map (·.cells.size), i.size, i.bytes)) = some (some 99, 99, b)) (hb8 : b ≤ 1000) {base g : Nat} {v : Value} {ts : List NdV} {n : NdV} (hs : ρ s = v) (hx : ρ x = .slice (some ⟨g, 0, none⟩) 1 1)
    (h : OwT base ts v W) (hn : NdIn base W n) (ha : ∀ j, j < ts.length → ∀ g, ob n = some g → ob (ndi ts j) ≠ some g) (hrow : W.heap[g]? = some (.cells (cat (ndP n)) 41)) (htl : ts.length ≤ 1000000) (hbase : base ≤ W.heap.size) :
    ∃ v' W', (execOp ρ o).run P W = .ok (.value v') W' ∧ OwT base (ts ++ [n]) v' W' ∧ RowKit.Below base W W' := by
  obtain ⟨i, hq, z, hz, hzs, hi2, hi3⟩ : ∃ i, P.info? 41 = some i ∧ ∃ z, i.zero = some z ∧ z.cells.size = 99 ∧ i.size = 99 ∧ i.bytes = b := by
    cases hq : P.info? 41 with
    | none => rw [hq] at hi; cases hi
    | some i =>
      rw [hq] at hi
      simp only [Option.map_some, Option.some.injEq, Prod.mk.injEq] at hi
      obtain ⟨z, hz, hzs⟩ := Option.map_eq_some_iff.1 hi.1
      exact ⟨i, rfl, z, hz, hzs, hi.2.1, hi.2.2⟩
  have hsz := Qbp n hn.1
  obtain ⟨v', W', hr, h2, h3, -, -⟩ := run_append_own_at (P := P) W base t o.type 41 i z 99 b ht hq hz hi2 hi3 hzs (by decide) v ts.length _ h.row ⟨g, 0, none⟩ 1 1 (cat (ndP n)).toList (by rw [Array.length_toList, hsz])
    (fun j u hu => by
      rw [WideShapes.add_plain, Nat.zero_add]
      unfold World.cell?
      simp only [hrow]
      rw [Array.getElem?_toList] at hu
      rw [← hu]; rfl) (fun u hu => (Array.all_eq_true'.1 (QgI n)) u (Array.mem_toList_iff.1 hu)) (by simp only [maxLen]; omega) (by
        have : (ts.length + 1) * b ≤ 1000001 * 1000 := Nat.mul_le_mul (by omega) hb8
        omega) hbase
  have ne : ∀ m : NdV, NdIn base W m → NdIn base W' m := fun m hm => hm.keep fun k hk => h3.block k (hm.lt hk) fun q => by
    obtain ⟨cur, e1⟩ := QbB hm.2.2 hk
    obtain ⟨-, cur2, e2⟩ := h.rowBlock q.symm
    rw [e1] at e2
    simp at e2
  refine ⟨v', W', ?_, ⟨fun k hk => ?_, ?_, fun k hk _ => ?_, fun k j hk hj hkj g => ?_⟩, ⟨h3.os, h3.tape, h3.output, h3.size, fun k hk => h3.block k (Nat.lt_of_lt_of_le hk hbase) fun q => by have := (h.rowBlock q.symm).1; omega⟩⟩
  · unfold execOp
    simp only [ho, resolve, invoke, builtin, Sem.run_bind, Sem.run_pure, Result.andThen_ok, List.map_toArray, List.map_cons, List.map_nil, hs, hx, hr]
  · rw [List.length_append, List.length_singleton] at hk
    rw [QcM ts n hk]
    split
    · next h1 => exact h.ok k h1
    · exact hn.1
  · rw [List.length_append, List.length_singleton, QjX]
    exact h2
  · rw [List.length_append, List.length_singleton] at hk
    rw [QcM ts n hk]
    split
    · next h1 => exact ne _ (h.nd k h1 (by simp))
    · exact ne n hn
  · rw [List.length_append, List.length_singleton] at hk hj
    rw [QcM ts n hk, QcM ts n hj]
    split
    · next h1 =>
      split
      · next h2 => exact h.ap k j h1 h2 hkj g
      · exact fun q1 q2 => ha k h1 g q2 q1
    · split
      · next h2 => exact ha j h2 g
      · omega
section
variable {ds : List Deferred} {P : Program} {ops : Array Oper} {Q : Exit → Act → World → Prop} {rest : List Oper} {o : Oper} {N : Nat} {L : Env} {W : World}
theorem Qhz (b : Nat) (s x : Operand) (t : TypeId) (ho : o.op = .call { callee := .builtin .append, args := #[s, x], argTypes := #[t, t] }) (ht : P.underlying t = some (.slice 41))
    (hi : (P.info? 41).map (fun i => (i.zero.map (·.cells.size), i.size, i.bytes)) = some (some 99, 99, b)) (hb8 : b ≤ 1000) (d : Nat) (hd : o.dst = some d) (hg : Qbh ops o N L = some true) {base g : Nat} {v : Value} {ts : List NdV} {n : NdV} (hs : Rely.look (envN N L) s = v) (hx : Rely.look (envN N L) x = .slice (some ⟨g, 0, none⟩) 1 1)
    (h : OwT base ts v W) (hn : NdIn base W n) (ha : ∀ j, j < ts.length → ∀ g, ob n = some g → ob (ndi ts j) ≠ some g) (hrow : W.heap[g]? = some (.cells (cat (ndP n)) 41)) (htl : ts.length ≤ 1000000) (hbase : base ≤ W.heap.size)
    (kk : ∀ (u : Value) (W' : World), OwT base (ts ++ [n]) u W' → RowKit.Below base W W' → WL P ops Q rest (Qas ds N ((d, u) :: L)) W') : WL P ops Q (o :: rest) (Qas ds N L) W := by
  obtain ⟨v', W', h1, h2, h3⟩ := Qjx (ρ := Rely.look (envN N L)) b s x t ho ht hi hb8 hs hx h hn ha hrow htl hbase
  exact QbO _ _ d hd hg h1 (kk v' W' h2 h3)
end
theorem Qgv {us ts : List NdV} {i : Nat} {n : NdV} (hl : us.length = i) (h : ∀ j, j < i → (ndi us j).n = (ndi ts j).n) (hn : n.n = (ndi ts i).n) : ∀ j, j < i + 1 → (ndi (us ++ [n]) j).n = (ndi ts j).n := fun j hj => by
  rw [QcM us n (by omega)]
  split
  · exact h j (by omega)
  · obtain rfl : j = i := by omega
    exact hn
set_option maxRecDepth 100000 in
set_option maxHeartbeats 4000000 in
theorem Qf6 (ts : List NdV) (a_t : Option Addr) (c_t B1 : Nat) (w : World) (ht : TrAt B1 w a_t ts) (htl : ts.length ≤ 100000) (hmt : ∀ i, i < ts.length → (ndi ts i).n.ms.length ≤ 1000) : Calls Tryd.prog 21 #[.slice a_t ts.length c_t] w (Qci w (fun v W => ∃ us, AsC us ts ∧ OwT w.heap.size us v W)) := by
 refine enter 26 [(0, .slice a_t ts.length c_t)] Tryd.func21 rfl rfl kj rfl ?_
 refine wp_seq_k fun K1 hK1 => ?_
 refine Qab ?_
 refine Qaa (.slice none 0 0) 2 rfl kj kj ?_
 refine Qae ?_
 refine hK1 _ _ ?_
 refine wp_seq_k fun K2 hK2 => ?_
 refine Qab ?_
 refine Qaa (.slice none 0 0) 3 rfl kj kj ?_
 refine Qae ?_
 refine hK2 _ _ ?_
 refine wp_seq_k fun K3 hK3 => ?_
 refine wp_seq_k fun K4 hK4 => ?_
 refine Qab ?_
 refine Qaa (.int .i64 0) 4 rfl kj kj ?_
 refine Qae ?_
 refine hK4 _ _ ?_
 refine wp_block ?_
 refine Qa9 (fun (s1 : Nat × Value × List NdV) => [(0, .slice a_t ts.length c_t), (3, s1.2.1), (4, .int .i64 ((s1.1 : Nat) : Int))]) (fun (s1 : Nat × Value × List NdV) W => (s1.1 ≤ ts.length) ∧ (s1.2.2.length = s1.1) ∧ (∀ j, j < s1.1 → (ndi s1.2.2 j).n = (ndi ts j).n) ∧ (OwT w.heap.size s1.2.2 s1.2.1 W) ∧ (Below w.heap.size w W) ∧ (Ext w W)) (fun (s1 : Nat × Value × List NdV) => ts.length - s1.1) (0, (.slice none 0 0), []) ⟨rfl, rfl, rfl, trivial⟩ ⟨(Nat.zero_le _), rfl, (fun j h => absurd h (Nat.not_lt_zero j)), (QiL _ _), (RowKit.Below.refl _ w), (Rely.Ext.refl w)⟩ fun s1 X1 V1 hI1 => ?_
 obtain ⟨i, u, us⟩ := s1
 obtain ⟨hi, hul, huc, hU, kk1, xx1⟩ := hI1
 replace hi : i ≤ ts.length := hi
 replace hul : us.length = i := hul
 replace huc : ∀ j, j < i → (ndi us j).n = (ndi ts j).n := huc
 replace hU : OwT w.heap.size us u V1 := hU
 replace kk1 : Below w.heap.size w V1 := kk1
 replace xx1 : Ext w V1 := xx1
 have l1 := kk1
 refine wp_seq_k fun K5 hK5 => ?_
 refine wp_seq_k fun K6 hK6 => ?_
 refine Qab ?_
 refine Qaa (.int .i64 ((i : Nat) : Int)) 6 rfl kj kj ?_
 refine Qaa (.slice a_t ts.length c_t) 7 rfl kj kj ?_
 refine Qaa (.int .i64 ((ts.length : Nat) : Int)) 8 rfl kj kj ?_
 refine Qaa (.bool (decide (((i : Nat) : Int) < ((ts.length : Nat) : Int)))) 9 rfl kj kj ?_
 refine Qae ?_
 refine hK6 _ _ ?_
 refine Qax (t := decide (((i : Nat) : Int) < ((ts.length : Nat) : Int))) kj (fun c7 => ?_) (fun c7 => ?_)
 ·skip
  have hlt9 : i < ts.length := by have := of_decide_eq_true c7; omega
  refine wp_skip ?_
  refine hK5 _ _ ?_
  refine wp_seq_k fun K8 hK8 => ?_
  refine wp_block ?_
  refine wp_seq_k fun K9 hK9 => ?_
  refine Qab ?_
  refine Qaa (.slice a_t ts.length c_t) 12 rfl kj kj ?_
  refine Qaa (.int .i64 ((i : Nat) : Int)) 13 rfl kj kj ?_
  obtain ⟨gtT, otT, hat, hnts⟩ := TrAt.ext ht xx1
  have hnt := hnts i (by omega)
  obtain ⟨nt, ent⟩ : ∃ z, z = ndi ts i := ⟨_, rfl⟩
  rw [← ent] at hnt
  have okt := hnt.ok
  have rdt := hnt.rd
  refine Qaa (.pointer (some ⟨gtT, otT + i * 99, none⟩)) 14 rfl kj (Qan 23 _ _ .i64 i gtT otT ts.length c_t 41 99 a_t (hat (by omega)) rfl kj kj kj kj (by omega)) ?_
  refine Qaa (.agg (cat [#[.bool nt.n.us], #[.int .i64 nt.n.nm], ints .u8 (nt.n.key), ints .u8 (nt.n.sg), ints .u8 (nt.n.pa), #[.slice nt.a nt.n.ms.length nt.c]])) 15 rfl kj (QaI 41 _ gtT (otT + i * 99) nt hnt rfl kj kj kj) ?_
  refine Qam (cat [#[.bool false], #[.int .i64 0], ints .u8 (List.replicate 32 0), ints .u8 (List.replicate 32 0), ints .u8 (List.replicate 32 0), #[.slice none 0 0]]) 41 5 rfl kj kj fun g10 W2 l10 e2 r10_2 => ?_
  have x2 : Ext w W2 := Ext.tr xx1 e2
  have b10 : w.heap.size ≤ g10 := Nat.le_trans xx1.size l10
  refine Qaz g10 _ (cat [#[.bool nt.n.us], #[.int .i64 nt.n.nm], ints .u8 (nt.n.key), ints .u8 (nt.n.sg), ints .u8 (nt.n.pa), #[.slice nt.a nt.n.ms.length nt.c]]) 41 r10_2 rfl kj (QaF 41 _ _ g10 41 _ _ r10_2 rfl kj kj (isz (n := 99) kj (by rw [Qac, Qac, Qac, Qac, Qac, Qac]; simp only [Array.size_append, cat, ((Qaf _ _).trans okt.gl), ((Qaf _ _).trans okt.kl), ((Qaf _ _).trans okt.pl)]; rfl)) (eqsz (n := 99) (by rw [Qac, Qac, Qac, Qac, Qac, Qac]; simp only [Array.size_append, cat, ((Qaf _ _).trans (List.length_replicate (n := 32)))]; rfl) (by rw [Qac, Qac, Qac, Qac, Qac, Qac]; simp only [Array.size_append, cat, ((Qaf _ _).trans okt.gl), ((Qaf _ _).trans okt.kl), ((Qaf _ _).trans okt.pl)]; rfl)) (Qbo _ (by intro a ha; simp only [List.mem_cons, List.not_mem_nil, or_false] at ha; rcases ha with rfl | rfl | rfl | rfl | rfl | rfl; exact (Qa3 _ rfl); exact (Qa3 _ rfl); exact (Qa4 _ _); exact (Qa4 _ _); exact (Qa4 _ _); exact (Qa3 _ rfl)))) fun W3 p3 r10_3 => ?_
  have x3 : Ext w W3 := Puts.ext p3 x2 b10
  refine Qae ?_
  refine hK9 _ _ ?_
  refine wp_seq_k fun K11 hK11 => ?_
  refine Qab ?_
  refine Qby (ints .i64 ([])) 3 0 16 rfl kj kj fun g12 W4 l12 e4 r12_4 => ?_
  have x4 : Ext w W4 := Ext.tr x3 e4
  have b12 : w.heap.size ≤ g12 := Nat.le_trans x3.size l12
  refine Qaa (.pointer (some ⟨g10, 98, none⟩)) 17 rfl kj kj ?_
  have r10_4 := (Qag r10_3 e4)
  refine Qaa (.slice nt.a nt.n.ms.length nt.c) 18 rfl kj (Qah 36 _ g10 98 41 _ (.slice nt.a nt.n.ms.length nt.c) _ r10_4 rfl kj (Qak [#[.bool nt.n.us], #[.int .i64 nt.n.nm], ints .u8 (nt.n.key), ints .u8 (nt.n.sg), ints .u8 (nt.n.pa)] [#[.slice nt.a nt.n.ms.length nt.c]] [] 98 (by rw [Qac, Qac, Qac, Qac, Qac]; simp only [Array.size_append, cat, ((Qaf _ _).trans okt.gl), ((Qaf _ _).trans okt.kl), ((Qaf _ _).trans okt.pl)]; rfl) 0 _ rfl) kj) ?_
  have y1_2 : Ext V1 W2 := (Rely.Ext.trans (Rely.Ext.refl V1) e2)
  have y1_3 : Ext V1 W3 := (Puts.ext p3 y1_2 l10)
  have y1_4 : Ext V1 W4 := (Rely.Ext.trans y1_3 e4)
  have y3_4 : Ext W3 W4 := (Rely.Ext.trans (Rely.Ext.refl W3) e4)
  refine QdD (k := .i64) (T := 3) (xs := []) (ys := nt.n.ms) (V := W3) 8 (.tmp 16) (.tmp 18) 36 rfl kj kj (by decide) 19 rfl kj kj kj (QcL (xs := []) rfl l12 r12_4 (by decide)) (RdK.here (RdK.ext rdt y1_4)) (by have h9 := hmt i (by omega); rw [← ent] at h9; simp; omega) y3_4 fun zq W5 f13 y5 l5 => ?_
  have x5 : Ext w W5 := Ext.low x4 l5 x3.size
  have hq5 : OwnN .i64 3 W3.heap.size nt.n.ms zq W5 := f13
  obtain ⟨a5, c5, hz5, -⟩ := id (OwnN.rd hq5)
  subst hz5
  refine Qaa (.pointer (some ⟨g10, 98, none⟩)) 20 rfl kj kj ?_
  have r10_5 := (QaJ l5 r10_4 (Qa1 r10_3))
  refine Qaz g10 _ (cat [#[.bool nt.n.us], #[.int .i64 nt.n.nm], ints .u8 (nt.n.key), ints .u8 (nt.n.sg), ints .u8 (nt.n.pa), #[.slice a5 nt.n.ms.length c5]]) 41 r10_5 rfl kj (Qeb 36 _ _ g10 98 41 [#[.bool nt.n.us], #[.int .i64 nt.n.nm], ints .u8 (nt.n.key), ints .u8 (nt.n.sg), ints .u8 (nt.n.pa)] [] _ (.slice a5 nt.n.ms.length c5) r10_5 rfl kj kj kj (by rw [Qac, Qac, Qac, Qac, Qac]; simp only [Array.size_append, cat, ((Qaf _ _).trans okt.gl), ((Qaf _ _).trans okt.kl), ((Qaf _ _).trans okt.pl)]; rfl) rfl rfl) fun W6 p6 r10_6 => ?_
  have x6 : Ext w W6 := Puts.ext p6 x5 b10
  refine Qae ?_
  refine hK11 _ _ ?_
  refine Qab ?_
  refine Qaa (u) 21 rfl kj kj ?_
  refine Qaa (.agg (cat [#[.bool nt.n.us], #[.int .i64 nt.n.nm], ints .u8 (nt.n.key), ints .u8 (nt.n.sg), ints .u8 (nt.n.pa), #[.slice a5 nt.n.ms.length c5]])) 22 rfl kj (QaQ 41 _ g10 41 _ _ r10_6 rfl kj kj (isz (n := 99) kj (by rw [Qac, Qac, Qac, Qac, Qac, Qac]; simp only [Array.size_append, cat, ((Qaf _ _).trans okt.gl), ((Qaf _ _).trans okt.kl), ((Qaf _ _).trans okt.pl)]; rfl))) ?_
  refine Qg1 (cat (ndP (⟨nt.n, a5, c5⟩ : NdV))) 41 1 1 23 rfl kj (QiG 23 41 99 _ (.agg (cat (ndP (⟨nt.n, a5, c5⟩ : NdV)))) rfl kj kj kj kj (Qbp (⟨nt.n, a5, c5⟩ : NdV) okt) (by decide) (by decide)) fun gz W7 lz e7 rz => ?_
  have x7 : Ext w W7 := Ext.tr x6 e7
  have f14_6 := (hq5.puts p6 (QgJ hq5 (Qa1 r10_3)))
  have f15_7 := (f14_6.ext e7)
  have y1_5 : Ext V1 W5 := (Ext.low y1_4 l5 y1_3.size)
  have y1_6 : Ext V1 W6 := (Puts.ext p6 y1_5 l10)
  have y1_7 : Ext V1 W7 := (Rely.Ext.trans y1_6 e7)
  have hn5 : NdIn w.heap.size W7 (⟨nt.n, a5, c5⟩ : NdV) := ⟨okt, ent ▸ hmt i (by omega), OwnN.base (x3.size) f15_7⟩
  refine Qhz 136 (.tmp 21) (.tmp 23) 23 rfl kj kj (by decide) 24 rfl kj kj kj (OwH.ext hU y1_7) hn5 (fun j hj g h1 h2 => by have h3 := OwnN.ge hq5 h1; have h4 := (hU.nd j (by omega) (by simp)).lt h2; have h5 := (y1_3).size; omega) rz (by omega) (x7).size fun u2 W8 hU2 l8 => ?_
  have x8 : Ext w W8 := Ext.low x7 l8 (Rely.Ext.refl w).size
  refine Qaa (u2) 3 rfl kj kj ?_
  refine Qae ?_
  refine hK8 _ _ ?_
  refine Qab ?_
  refine Qaa (.int .i64 ((i : Nat) : Int)) 10 rfl kj kj ?_
  refine Qaa (.int .i64 ((i + 1 : Nat) : Int)) 11 rfl kj (Qaj (u := .int .i64 (IntKind.i64.wrap (((i : Nat) : Int) + 1))) kj (congrArg (Value.int .i64) (i64n _ _ (by omega) (by omega)))) ?_
  refine Qaa (.int .i64 ((i + 1 : Nat) : Int)) 4 rfl kj kj ?_
  refine Qae ?_
  have y0_1 : Ext w V1 := (Ext.low (Rely.Ext.refl w) l1 (Rely.Ext.refl w).size)
  have y0_2 : Ext w W2 := (Rely.Ext.trans y0_1 e2)
  have y0_3 : Ext w W3 := (Puts.ext p3 y0_2 (Nat.le_trans y0_1.size l10))
  have y0_4 : Ext w W4 := (Rely.Ext.trans y0_3 e4)
  have y0_5 : Ext w W5 := (Ext.low y0_4 l5 y0_3.size)
  have y0_6 : Ext w W6 := (Puts.ext p6 y0_5 (Nat.le_trans y0_1.size l10))
  repeat (first | with_reducible refine goX1 ?_ | with_reducible refine goX2 ?_ | with_reducible refine goX3 ?_)
  exact Qay ((i + 1), u2, (us ++ [(⟨nt.n, a5, c5⟩ : NdV)])) ⟨rfl, rfl, rfl, trivial⟩ ⟨(by omega), (by rw [List.length_append, hul]; rfl), (Qgv hul huc (show nt.n = (ndi ts i).n by rw [ent])), hU2, (RowKit.Below.trans (RowKit.Below.trans (Qbf p6 (RowKit.Below.trans (RowKit.Below.trans (Qbf p3 (RowKit.Below.trans l1 (RowKit.Below.mono e2 y0_1.size)) b10) (RowKit.Below.mono e4 y0_3.size)) (RowKit.Below.mono l5 y0_3.size)) b10) (RowKit.Below.mono e7 y0_6.size)) l8), x8⟩ (by show ts.length - (i + 1) < ts.length - i; omega)
 ·skip
  have heq9 : i = ts.length := by have := of_decide_eq_false c7; omega
  refine wp_exit ?_
  refine hK3 _ _ ?_
  refine wp_seq_k fun K16 hK16 => ?_
  refine Qab ?_
  refine Qaa (u) 25 rfl kj kj ?_
  refine Qaa (u) 2 rfl kj kj ?_
  refine Qae ?_
  refine hK16 _ _ ?_
  refine wp_ret ?_
  repeat (first | with_reducible refine goR1 ?_ | with_reducible refine goR2 ?_)
  exact (show bodyPost _ _ _ .ret _ _ from ret1 (u) rfl (Qar kj) ⟨_, rfl, xx1, us, ⟨by omega, fun j hj => huc j (by omega)⟩, hU⟩)
end Go.Proofs.YtcmaolmofgmkhaaDoor.Te
end
section
namespace Go.Proofs.YtcmaolmofgmkhaaDoor.Te
open Go Go.RowKit
open Rely Auto Own Seat Sha
set_option linter.unusedVariables false
set_option linter.unusedSimpArgs false
theorem QjE (n : NdV) (v : Int) (j : Nat) : (cat (ndP ⟨{ n.n with nm := v }, n.a, n.c⟩))[j]? = if j = 1 then some (.int .i64 v) else (cat (ndP n))[j]? := by
  have key : ∀ m : NdV, cat (ndP m) = #[Value.bool m.n.us] ++ (#[Value.int .i64 m.n.nm] ++ cat [ints .u8 m.n.key, ints .u8 m.n.sg, ints .u8 m.n.pa, #[slv m]]) := fun m => by unfold ndP slv; simp [cat]
  rw [key, key]
  show (#[Value.bool n.n.us] ++ (#[Value.int .i64 v] ++ cat [ints .u8 n.n.key, ints .u8 n.n.sg, ints .u8 n.n.pa, #[slv n]]))[j]? = _
  match j with
  | 0 => rw [if_neg (by decide), Array.getElem?_append_left (by simp), Array.getElem?_append_left (by simp)]
  | 1 =>
    rw [if_pos rfl, Array.getElem?_append_right (by simp), Array.getElem?_append_left (by simp)]; rfl
  | j + 2 =>
    rw [if_neg (by omega), Array.getElem?_append_right (by simp), Array.getElem?_append_right (by simp), Array.getElem?_append_right (by simp), Array.getElem?_append_right (by simp)]
    rfl
theorem QiP (n : NdV) (ms : List Int) (h : ms.length = n.n.ms.length) : cat (ndP ⟨{ n.n with ms := ms }, n.a, n.c⟩) = cat (ndP n) := by
  rw [QcN, QcN]
  unfold slv
  show _ ++ #[Value.slice n.a ms.length n.c] = _
  rw [h]
theorem OwH.upd {base g c i M : Nat} {ts : List NdV} {n : NdV} {W W' : World} {cur cur' : Array Value} (hM : ts.length = M) (t : OwT base ts (.slice (some ⟨g, 0, none⟩) M c) W) (hi : i < M) (r : W.heap[g]? = some (.cells cur 41)) (r' : W'.heap[g]? = some (.cells cur' 41)) (hs : cur'.size = cur.size)
    (hc : ∀ k j, j < 99 → k * 99 + j < cur.size → cur'[k * 99 + j]? = if k = i then (cat (ndP n))[j]? else cur[k * 99 + j]?) (ok : NdOk n.n) (hn : NdIn base W' n) (hk : ∀ k, k < M → k ≠ i → NdIn base W' (ndi ts k)) (hob : ob n = ob (ndi ts i)) : OwT base (ts.set i n) (.slice (some ⟨g, 0, none⟩) M c) W' := by
  subst hM
  obtain ⟨g', c2, cur2, e, q2, q3, q4, q5, q6, q7⟩ := t.opens (by omega)
  simp only [Value.slice.injEq, Option.some.injEq, Addr.mk.injEq] at e
  obtain ⟨⟨rfl, -⟩, -, rfl⟩ := e
  rw [r] at q3
  simp only [Option.some.injEq, Obj.cells.injEq, and_true] at q3
  subst q3
  have := OwH.made (h := none) (ts := ts.set i n) (c := c) q2 r' (by rw [hs]; exact q4) (by rw [List.length_set]; exact q5) q6 (fun k hk2 j hj => by
    rw [List.length_set] at hk2
    rw [Qbb n hi, hc k j hj (by omega)]
    by_cases e : k = i
    · rw [if_pos e, if_pos e]
    · rw [if_neg e, if_neg e, q7 k hk2 j hj]) (fun k hk2 => by
    rw [List.length_set] at hk2
    rw [Qbb n hi]
    by_cases e : k = i
    · rw [if_pos e]; exact ok
    · rw [if_neg e]; exact t.ok k hk2) (fun k hk2 _ => by
    rw [List.length_set] at hk2
    rw [Qbb n hi]
    by_cases e : k = i
    · rw [if_pos e]; exact hn
    · rw [if_neg e]; exact hk k hk2 e) (Qhh hi t.ap fun j hj hji g h1 h2 => t.ap i j hi hj (fun e => hji e.symm) g (hob ▸ h1) h2)
  rwa [List.length_set] at this
def nmS (ts : List NdV) (i : Nat) (v : Int) : List NdV := ts.set i ⟨{ (ndi ts i).n with nm := v }, (ndi ts i).a, (ndi ts i).c⟩
def msS (ts : List NdV) (i j : Nat) (v : Int) : List NdV := ts.set i ⟨{ (ndi ts i).n with ms := (ndi ts i).n.ms.set j v }, (ndi ts i).a, (ndi ts i).c⟩
theorem Qe0 (ts : List NdV) (i : Nat) (v : Int) : (nmS ts i v).length = ts.length := List.length_set ..
theorem Qe1 (ts : List NdV) (i j : Nat) (v : Int) : (msS ts i j v).length = ts.length := List.length_set ..
theorem QfB (ts : List NdV) (i j : Nat) (v : Int) (h : i < ts.length) : (ndi (msS ts i j v) i).n.ms.length = (ndi ts i).n.ms.length := by
  unfold msS
  rw [Qbb _ h, if_pos rfl]
  exact List.length_set ..
theorem OwH.setNm {base g c i M : Nat} {v : Int} {ts : List NdV} {W W' : World} {cur : Array Value} (hM : ts.length = M) (t : OwT base ts (.slice (some ⟨g, 0, none⟩) M c) W) (hi : i < M) (r : W.heap[g]? = some (.cells cur 41)) (p : Puts W g W') (r' : W'.heap[g]? = some (.cells (cur.setIfInBounds (i * 99 + 1) (.int .i64 v)) 41)) :
    OwT base (nmS ts i v) (.slice (some ⟨g, 0, none⟩) M c) W' := by
  have kp : ∀ m : NdV, NdIn base W m → NdIn base W' m := fun m hm => hm.keep fun k hk => p.2.2.2.2 k fun e => by
    obtain ⟨cur2, r2⟩ := QbB hm.2.2 hk
    rw [e, r] at r2
    simp at r2
  have hi0 := t.nd i (by omega) (by simp)
  obtain ⟨g', c2, cur2, e, q2, q3, q4, q5, q6, q7⟩ := t.opens (by omega)
  simp only [Value.slice.injEq, Option.some.injEq, Addr.mk.injEq] at e
  obtain ⟨⟨rfl, -⟩, -, rfl⟩ := e
  rw [r] at q3
  simp only [Option.some.injEq, Obj.cells.injEq, and_true] at q3
  subst q3
  refine OwH.upd hM t hi r r' (Array.size_setIfInBounds ..) (fun k j hj hl => ?_) ⟨hi0.1.kl, hi0.1.gl, hi0.1.pl, hi0.1.kb, hi0.1.gb, hi0.1.pb⟩ (kp ⟨_, _, _⟩ ⟨⟨hi0.1.kl, hi0.1.gl, hi0.1.pl, hi0.1.kb, hi0.1.gb, hi0.1.pb⟩, hi0.2.1, hi0.2.2⟩) (fun k hk _ => kp _ (t.nd k (by omega) (by simp))) rfl
  rw [Array.getElem?_setIfInBounds]
  by_cases e : k = i
  · subst e
    rw [if_pos rfl, QjE]
    by_cases e2 : j = 1
    · rw [if_pos (by omega), if_pos e2, if_pos (by omega)]
    · rw [if_neg (by omega), if_neg e2, q7 k (by omega) j hj]
  · rw [if_neg (by omega), if_neg e]
theorem OwH.setMs {base g c i j b M : Nat} {v : Int} {ts : List NdV} {W W' : World} {cu : Array Value} (hM : ts.length = M) (t : OwT base ts (.slice (some ⟨g, 0, none⟩) M c) W) (hi : i < M) (hj : j < (ndi ts i).n.ms.length) (hb : ob (ndi ts i) = some b) (r : W.heap[b]? = some (.cells cu 3)) (p : Puts W b W') (r' : W'.heap[b]? = some (.cells (cu.setIfInBounds j (.int .i64 v)) 3)) :
    OwT base (msS ts i j v) (.slice (some ⟨g, 0, none⟩) M c) W' := by
  have hi0 := t.nd i (by omega) (by simp)
  obtain ⟨g', c2, cur, e, q2, q3, q4, q5, q6, q7⟩ := t.opens (by omega)
  simp only [Value.slice.injEq, Option.some.injEq, Addr.mk.injEq] at e
  obtain ⟨⟨rfl, -⟩, -, rfl⟩ := e
  have hgb : g ≠ b := fun e => by rw [e, r] at q3; simp at q3
  have hl : ((ndi ts i).n.ms.set j v).length = (ndi ts i).n.ms.length := List.length_set ..
  have hown : NdIn base W' ⟨{ (ndi ts i).n with ms := (ndi ts i).n.ms.set j v }, (ndi ts i).a, (ndi ts i).c⟩ := by
    refine ⟨⟨hi0.1.kl, hi0.1.gl, hi0.1.pl, hi0.1.kb, hi0.1.gb, hi0.1.pb⟩, by rw [hl]; exact hi0.2.1, ?_⟩
    obtain ⟨b', cc, cu', e1, e2, e3, e4, e5, e6, e7⟩ := QdI hi0.2.2 (by omega)
    have hbb : b' = b := by unfold ob at hb; rw [e1] at hb; exact Option.some.inj hb
    subst hbb
    rw [r] at e3
    simp only [Option.some.injEq, Obj.cells.injEq, and_true] at e3
    subst e3
    show OwnN .i64 _ base ((ndi ts i).n.ms.set j v) (.slice (ndi ts i).a ((ndi ts i).n.ms.set j v).length (ndi ts i).c) W'
    rw [hl]
    unfold slv at e1
    rw [e1]
    refine QdJ hl e2 r' (by rw [Array.size_setIfInBounds]; exact e4) e5 e6 ?_
    apply List.ext_getElem?
    intro k
    rw [List.getElem?_take, Array.getElem?_toList, Array.getElem?_setIfInBounds, List.getElem?_map, List.getElem?_set]
    have e8 : k < (ndi ts i).n.ms.length → cu[k]? = some (.int .i64 (nth (ndi ts i).n.ms k)) := fun hk => Qc6 e7 hk
    by_cases hk : k < (ndi ts i).n.ms.length
    · rw [if_pos hk]
      by_cases e : j = k
      · subst e
        rw [if_pos rfl, if_pos (by omega), if_pos rfl, if_pos hk]; rfl
      · rw [if_neg e, if_neg e, e8 hk, List.getElem?_eq_getElem hk]
        unfold nth
        rw [List.getD_eq_getElem?_getD, List.getElem?_eq_getElem hk]; rfl
    · rw [if_neg hk, if_neg (by omega), List.getElem?_eq_none (by omega)]; rfl
  refine OwH.upd hM t hi q3 ((p.2.2.2.2 g hgb).trans q3) rfl (fun k j2 hj2 hl2 => ?_) ⟨hi0.1.kl, hi0.1.gl, hi0.1.pl, hi0.1.kb, hi0.1.gb, hi0.1.pb⟩ hown (fun k hk hki => (t.nd k (by omega) (by simp)).keep fun x hx => p.2.2.2.2 x fun e => t.ap k i (by omega) (by omega) hki x hx (e ▸ hb)) ?_
  · by_cases e : k = i
    · subst e
      rw [if_pos rfl, q7 k (by omega) j2 hj2, QiP (ndi ts k) ((ndi ts k).n.ms.set j v) hl]
    · rw [if_neg e]
  · show Value.ownBlock (.slice (ndi ts i).a ((ndi ts i).n.ms.set j v).length (ndi ts i).c) = _
    rw [hl]; rfl
section
variable {ds : List Deferred} {P : Program} {ops : Array Oper} {Q : Exit → Act → World → Prop} {rest : List Oper} {o : Oper} {N : Nat} {L : Env} {W : World}
theorem QcI (ty : TypeId) (x y : Operand) {base g c i M : Nat} {v : Int} {ts : List NdV} (hM : ts.length = M) (t : OwT base ts (.slice (some ⟨g, 0, none⟩) M c) W) (hi : i < M)
    (ho : o.op = .store ty x y) (hx : Rely.look (envN N L) x = .pointer (some ⟨g, 0 + i * 99 + 1, none⟩)) (hy : Rely.look (envN N L) y = .int .i64 v) (hi1 : (P.info? ty).map (·.size) = some 1) (hd : o.dst = none) (hg : Qbh ops o N L = some true)
    (kk : ∀ W', Puts W g W' → OwT base (nmS ts i v) (.slice (some ⟨g, 0, none⟩) M c) W' → WL P ops Q rest (Qas ds N L) W') : WL P ops Q (o :: rest) (Qas ds N L) W := by
  obtain ⟨g', c2, cur, e, q2, q3, q4, q5, q6, q7⟩ := t.opens (by omega)
  simp only [Value.slice.injEq, Option.some.injEq, Addr.mk.injEq] at e
  obtain ⟨⟨rfl, -⟩, -, rfl⟩ := e
  rw [Nat.zero_add] at hx
  exact Qaz g cur _ _ q3 hd hg (Qaw ty x y g (i * 99 + 1) _ cur (.int .i64 v) q3 ho hx hy hi1 (by simp only [Nat.blt_eq]; omega) rfl rfl) fun W' p r' => kk W' p (t.setNm hM hi q3 p r')
theorem QcJ (ty : TypeId) (x y : Operand) {base g c i j M b : Nat} {v : Int} {ts : List NdV} (hM : ts.length = M) (t : OwT base ts (.slice (some ⟨g, 0, none⟩) M c) W) (hi : i < M) (hj : j < (ndi ts i).n.ms.length) (hb : (ndi ts i).a = some ⟨b, 0, none⟩)
    (ho : o.op = .store ty x y) (hx : Rely.look (envN N L) x = .pointer (some ⟨b, 0 + j, none⟩)) (hy : Rely.look (envN N L) y = .int .i64 v) (hi1 : (P.info? ty).map (·.size) = some 1) (hd : o.dst = none) (hg : Qbh ops o N L = some true)
    (kk : ∀ W', Puts W b W' → base ≤ b → b < W.heap.size → OwT base (msS ts i j v) (.slice (some ⟨g, 0, none⟩) M c) W' → WL P ops Q rest (Qas ds N L) W') : WL P ops Q (o :: rest) (Qas ds N L) W := by
  have hi0 := t.nd i (by omega) (by simp)
  obtain ⟨b', cc, cu, e1, e2, e3, e4, e5, e6, e7⟩ := QdI hi0.2.2 (by omega)
  have hbb : b' = b := by unfold slv at e1; rw [hb] at e1; simp only [Value.slice.injEq, Option.some.injEq, Addr.mk.injEq] at e1; exact e1.1.1.symm
  subst hbb
  rw [Nat.zero_add] at hx
  exact Qaz b' cu _ _ e3 hd hg (Qaw ty x y b' j _ cu (.int .i64 v) e3 ho hx hy hi1 (by simp only [Nat.blt_eq]; omega) rfl rfl) fun W' p r' => kk W' p e2 (Qa1 e3) (t.setMs hM hi hj (by unfold ob; rw [e1]; rfl) e3 p r')
end
theorem OwH.list {base g c i M : Nat} {ts : List NdV} {W : World} (hM : ts.length = M) (t : OwT base ts (.slice (some ⟨g, 0, none⟩) M c) W) (hi : i < M) (h0 : 0 < (ndi ts i).n.ms.length) : ∃ b, (ndi ts i).a = some ⟨b, 0, none⟩ ∧ base ≤ b ∧ b < W.heap.size ∧ ∀ j, j < (ndi ts i).n.ms.length → W.cell? ⟨b, 0 + j, none⟩ = some (.int .i64 (nth (ndi ts i).n.ms j)) := by
  obtain ⟨b, cc, cu, e1, e2, e3, e4, e5, e6, e7⟩ := QdI (t.nd i (by omega) (by simp)).2.2 h0
  unfold slv at e1
  simp only [Value.slice.injEq] at e1
  exact ⟨b, e1.1, e2, Qa1 e3, fun j hj => by rw [Nat.zero_add, Qch e3]; exact Qc6 e7 hj⟩
end Go.Proofs.YtcmaolmofgmkhaaDoor.Te
end
section
namespace Go.Proofs.YtcmaolmofgmkhaaDoor.Te
open Go Go.RowKit
open Rely Auto Own Seat Sha
set_option linter.unusedVariables false
set_option linter.unusedSimpArgs false
theorem QeH (ts : List NdV) {k : Nat} : ∀ {L : Nat}, k ≤ L → ∃ r, Qau ts L = Qau ts k ++ r
  | 0, h => ⟨[], by obtain rfl : k = 0 := by omega
                    simp⟩
  | L + 1, h => by
    by_cases e : k = L + 1
    · exact ⟨[], by rw [e]; simp⟩
    · obtain ⟨r, hr⟩ := QeH ts (show k ≤ L by omega)
      cases hu : (ndi ts (2 * L)).n.us with
      | true => exact ⟨r ++ [L], by rw [QbU hu, hr, List.append_assoc]⟩
      | false => exact ⟨r, by rw [QcF hu, hr]⟩
theorem Qct {ts : List NdV} {k L : Nat} (h : k < L) (hu : (ndi ts (2 * k)).n.us = true) : (Qau ts L)[(Qau ts k).length]? = some k := by
  obtain ⟨r, hr⟩ := QeH ts (show k + 1 ≤ L from h)
  rw [hr, QbU hu, List.append_assoc, List.getElem?_append_right (Nat.le_refl _), Nat.sub_self]; rfl
theorem Qhu (B : Nat) (w : World) (a : Option Addr) : TrAt B w a [] := ⟨0, 0, fun h => absurd h (by decide), fun i hi => absurd hi (Nat.not_lt_zero _)⟩
def MemR (ts : List NdV) (w : World) (v : Value) (W : World) : Prop := ∃ (cs : List NdV) (g1 : Nat) (a : Option Addr) (c : Nat), AsC cs ts ∧ v = .func (.func 66) #[] #[.pointer (some ⟨g1, 0, none⟩)] ∧ w.heap.size ≤ g1 ∧ W.heap[g1]? = some (.cells #[.slice a cs.length c] 23) ∧ OwT w.heap.size cs (.slice a cs.length c) W
set_option maxRecDepth 100000 in
set_option maxHeartbeats 4000000 in
theorem QgO (ts : List NdV) (a_t : Option Addr) (c_t B1 : Nat) (w : World) (ht : TrAt B1 w a_t ts) (htl : ts.length ≤ 100000) (hmt : ∀ i, i < ts.length → (ndi ts i).n.ms.length ≤ 1000) (hT : TabAt w) (h : chkT ts = true) : Calls Tryd.prog 19 #[.slice a_t ts.length c_t] w (Qci w (MemR ts w)) := by
  refine enter 9 [(0, .slice a_t ts.length c_t)] Tryd.func19 rfl rfl kj rfl ?_
  refine wp_seq_k fun K1 hK1 => ?_
  refine Qab ?_
  refine Qaa (.nilFunc) 2 rfl kj kj ?_
  refine Qae ?_
  refine hK1 _ _ ?_
  refine wp_seq_k fun K2 hK2 => ?_
  refine wp_seq_k fun K3 hK3 => ?_
  refine Qab ?_
  refine Qaa (.slice a_t ts.length c_t) 3 rfl kj kj ?_
  refine Qap (.nilIface) 11 #[.slice a_t ts.length c_t] 4 rfl kj kj (QeY ts a_t c_t _ _ (TrAt.ext ht (Rely.Ext.refl w)) htl (fun i hi => Nat.le_trans (hmt i hi) (by decide)) (TabAt.ext hT (Rely.Ext.refl w)) h) fun W1 e1 => ?_
  have x1 : Ext w W1 := Ext.tr (Rely.Ext.refl w) e1
  refine Qaa (.bool false) 5 rfl kj kj ?_
  refine Qae ?_
  refine hK3 _ _ ?_
  refine cond_false kj ?_
  refine wp_skip ?_
  refine hK2 _ _ ?_
  refine wp_seq_k fun K4 hK4 => ?_
  refine Qab ?_
  refine Qaa (.slice a_t ts.length c_t) 6 rfl kj kj ?_
  refine Qa8 (fun v W' => (fun v W => ∃ us, AsC us ts ∧ OwT W1.heap.size us v W ∧ ∃ g, v = .slice (some ⟨g, 0, none⟩) ts.length ts.length) v W' ∧ Ext W1 W') 16 #[.slice a_t ts.length c_t] 7 rfl kj kj ((Qe7 ts a_t _ _ _ (TrAt.ext ht x1) htl hmt).mono (by rintro e w' ⟨v, rfl, e1, hv⟩; exact ⟨v, rfl, hv, e1⟩)) fun vv5 W2 hh5 => ?_
  obtain ⟨hv5, e2⟩ := hh5
  have x2 : Ext w W2 := Ext.tr x1 e2
  obtain ⟨cs, hasC, hOC, gC, rfl⟩ := hv5
  obtain ⟨lgC, cuC, rOC⟩ := hOC.rowBlock (g := gC) rfl
  obtain ⟨aC, haC⟩ : ∃ z, z = some (⟨gC, 0, none⟩ : Addr) := ⟨_, rfl⟩
  obtain ⟨cC, hcC⟩ : ∃ z, z = ts.length := ⟨_, rfl⟩
  have hvC : (Value.slice (some ⟨gC, 0, none⟩) ts.length ts.length) = .slice aC cs.length cC := by rw [hasC.1, haC, hcC]
  rw [hvC] at hOC ⊢
  have htC := hOC.tr
  refine Qa8 (fun v W' => (fun v W => ∃ g1, v = .func (.func 66) #[] #[.pointer (some ⟨g1, 0, none⟩)] ∧ W2.heap.size ≤ g1 ∧ W.heap[g1]? = some (.cells #[.slice aC cs.length cC] 23)) v W' ∧ Ext W2 W') 47 #[.slice aC cs.length cC] 8 rfl kj kj ((Qd1 cs aC cC _).mono (by rintro e w' ⟨v, rfl, e1, hv⟩; exact ⟨v, rfl, hv, e1⟩)) fun vv6 W3 hh6 => ?_
  obtain ⟨hv6, e3⟩ := hh6
  have x3 : Ext w W3 := Ext.tr x2 e3
  obtain ⟨gm1, rfl, lm1, rm1⟩ := hv6
  refine Qaa (.func (.func 66) #[] #[.pointer (some ⟨gm1, 0, none⟩)]) 2 rfl kj kj ?_
  refine Qae ?_
  refine hK4 _ _ ?_
  refine wp_ret ?_
  repeat (first | with_reducible refine goR1 ?_ | with_reducible refine goR2 ?_)
  exact (show bodyPost _ _ _ .ret _ _ from ret1 (.func (.func 66) #[] #[.pointer (some ⟨gm1, 0, none⟩)]) rfl (Qar kj) ⟨_, rfl, x3, cs, gm1, aC, cC, hasC, rfl, Nat.le_trans x2.size lm1, rm1, OwH.low (OwH.ext hOC e3) x1.size⟩)
set_option maxRecDepth 100000 in
set_option maxHeartbeats 4000000 in
theorem QeT (ts : List NdV) (a_t : Option Addr) (c_t B1 : Nat) (w : World) (ht : TrAt B1 w a_t ts) (htl : ts.length ≤ 100000) (hmt : ∀ i, i < ts.length → (ndi ts i).n.ms.length ≤ 1000) (hT : TabAt w) (h : chkT ts = false) : Calls Tryd.prog 19 #[.slice a_t ts.length c_t] w (Qci w (MemR [] w)) := by
  refine enter 9 [(0, .slice a_t ts.length c_t)] Tryd.func19 rfl rfl kj rfl ?_
  refine wp_seq_k fun K1 hK1 => ?_
  refine Qab ?_
  refine Qaa (.nilFunc) 2 rfl kj kj ?_
  refine Qae ?_
  refine hK1 _ _ ?_
  refine wp_seq_k fun K2 hK2 => ?_
  refine wp_seq_k fun K3 hK3 => ?_
  refine Qab ?_
  refine Qaa (.slice a_t ts.length c_t) 3 rfl kj kj ?_
  refine Qap (.iface 30 (.int .i64 3)) 11 #[.slice a_t ts.length c_t] 4 rfl kj kj (QjZ ts a_t c_t _ _ (TrAt.ext ht (Rely.Ext.refl w)) htl (fun i hi => Nat.le_trans (hmt i hi) (by decide)) (TabAt.ext hT (Rely.Ext.refl w)) h) fun W1 e1 => ?_
  have x1 : Ext w W1 := Ext.tr (Rely.Ext.refl w) e1
  refine Qaa (.bool true) 5 rfl kj kj ?_
  refine Qae ?_
  refine hK3 _ _ ?_
  refine cond_true kj ?_
  refine Qab ?_
  refine Qaa (.slice none 0 0) 0 rfl kj kj ?_
  refine Qae ?_
  refine hK2 _ _ ?_
  refine wp_seq_k fun K4 hK4 => ?_
  refine Qab ?_
  refine Qaa (.slice none 0 0) 6 rfl kj kj ?_
  refine Qa8 (fun v W' => (fun v W => ∃ us, AsC us ([] : List NdV) ∧ OwT W1.heap.size us v W ∧ ∃ g, v = .slice (some ⟨g, 0, none⟩) ([] : List NdV).length ([] : List NdV).length) v W' ∧ Ext W1 W') 16 #[.slice none 0 0] 7 rfl kj kj ((Qe7 ([] : List NdV) none _ _ _ (TrAt.ext (Qhu 0 w none) x1) (Nat.zero_le _) (fun i hi => absurd hi (Nat.not_lt_zero _))).mono (by rintro e w' ⟨v, rfl, e1, hv⟩; exact ⟨v, rfl, hv, e1⟩)) fun vv5 W2 hh5 => ?_
  obtain ⟨hv5, e2⟩ := hh5
  have x2 : Ext w W2 := Ext.tr x1 e2
  obtain ⟨cs, hasC, hOC, gC, rfl⟩ := hv5
  obtain ⟨lgC, cuC, rOC⟩ := hOC.rowBlock (g := gC) rfl
  obtain ⟨aC, haC⟩ : ∃ z, z = some (⟨gC, 0, none⟩ : Addr) := ⟨_, rfl⟩
  obtain ⟨cC, hcC⟩ : ∃ z, z = ([] : List NdV).length := ⟨_, rfl⟩
  have hvC : (Value.slice (some ⟨gC, 0, none⟩) ([] : List NdV).length ([] : List NdV).length) = .slice aC cs.length cC := by rw [hasC.1, haC, hcC]
  rw [hvC] at hOC ⊢
  have htC := hOC.tr
  refine Qa8 (fun v W' => (fun v W => ∃ g1, v = .func (.func 66) #[] #[.pointer (some ⟨g1, 0, none⟩)] ∧ W2.heap.size ≤ g1 ∧ W.heap[g1]? = some (.cells #[.slice aC cs.length cC] 23)) v W' ∧ Ext W2 W') 47 #[.slice aC cs.length cC] 8 rfl kj kj ((Qd1 cs aC cC _).mono (by rintro e w' ⟨v, rfl, e1, hv⟩; exact ⟨v, rfl, hv, e1⟩)) fun vv6 W3 hh6 => ?_
  obtain ⟨hv6, e3⟩ := hh6
  have x3 : Ext w W3 := Ext.tr x2 e3
  obtain ⟨gm1, rfl, lm1, rm1⟩ := hv6
  refine Qaa (.func (.func 66) #[] #[.pointer (some ⟨gm1, 0, none⟩)]) 2 rfl kj kj ?_
  refine Qae ?_
  refine hK4 _ _ ?_
  refine wp_ret ?_
  repeat (first | with_reducible refine goR1 ?_ | with_reducible refine goR2 ?_)
  exact (show bodyPost _ _ _ .ret _ _ from ret1 (.func (.func 66) #[] #[.pointer (some ⟨gm1, 0, none⟩)]) rfl (Qar kj) ⟨_, rfl, x3, cs, gm1, aC, cC, hasC, rfl, Nat.le_trans x2.size lm1, rm1, OwH.low (OwH.ext hOC e3) x1.size⟩)
end Go.Proofs.YtcmaolmofgmkhaaDoor.Te
end
section
namespace Go.Proofs.YtcmaolmofgmkhaaDoor.Seat
open Go Go.RowKit
open Rely Auto Own
set_option linter.unusedVariables false
set_option linter.unusedSimpArgs false
theorem QbV {k : IntKind} {B : Nat} {ys : List Int} {v : Value} {W W' : World} {row : Option Nat} (h : RdK k B ys v W) (hg : W.grownBy W' row) (hr : ∀ r, row = some r → ∃ o : Obj, W.heap[r]? = some o ∧ o.isCells = false) : RdK k B ys v W' := by
  obtain ⟨a, cap, rfl, h2, h3, h4, h5⟩ := h
  refine ⟨a, cap, rfl, h2, h3, h4, ?_⟩
  rcases h5 with h5 | ⟨g, o, q1, q2, q3, q4⟩
  · exact .inl h5
  · refine .inr ⟨g, o, q1, q2, Nat.lt_of_lt_of_le q3 hg.size, fun i hi => ?_⟩
    rw [← q4 i hi]
    refine World.cell?_of_block (hg.block g q3 fun e => ?_)
    obtain ⟨ob, h6, h7⟩ := hr g e.symm
    have hc := q4 i hi
    unfold World.cell? at hc
    simp only [h6] at hc
    cases ob <;> first | (cases h7; done) | exact absurd hc (by simp)
theorem Qdz {P : Program} {ρ : Operand → Value} {o : Oper} {w : World} (ts : Array TypeId) (x y : Operand) (k : IntKind) (a b c : Int) (ho : o.op = .call { callee := .builtin .min, args := #[x, y], argTypes := ts }) (hx : ρ x = .int k a) (hy : ρ y = .int k b) (h : (if b < a then b else a) = c) : (execOp ρ o).run P w = .ok (.value (.int k c)) w := by
  subst h
  unfold execOp
  simp only [ho, resolve, invoke, builtin, Sem.run_bind, Sem.run_pure, Result.andThen_ok, List.map_toArray, List.map_cons, List.map_nil, hx, hy, run_min_int2]
theorem RdK.putsO {k : IntKind} {B c : Nat} {ys : List Int} {v : Value} {W W' : World} (h : RdK k B ys v W) (p : Puts W c W') (hn : ys = [] ∨ v.ownBlock ≠ some c) : RdK k B ys v W' := by
  rcases hn with hn | hn
  · obtain ⟨a, cap, rfl, h2, h3, h4, h5⟩ := h
    exact ⟨a, cap, rfl, h2, h3, h4, .inl hn⟩
  · exact h.putsN p hn
end Go.Proofs.YtcmaolmofgmkhaaDoor.Seat
end
section
namespace Go.Proofs.YtcmaolmofgmkhaaDoor.Te
open Go Go.RowKit
open Rely Auto Own Seat Sha
set_option linter.unusedVariables false
set_option linter.unusedSimpArgs false
theorem QjG {k : IntKind} {T T' : TypeId} {base g : Nat} {xs : List Int} {v : Value} {W : World} {c : Array Value} (h : OwnN k T base xs v W) (r : W.heap[g]? = some (.cells c T')) (hne : T ≠ T') : v.ownBlock ≠ some g := fun e => by
  obtain ⟨c2, hc⟩ := QbB h e
  rw [r] at hc
  simp only [Option.some.injEq, Obj.cells.injEq] at hc
  exact hne hc.2.1.symm
section
variable {ds : List Deferred} {P : Program} {ops : Array Oper} {Q : Exit → Act → World → Prop} {rest : List Oper} {o : Oper} {N : Nat} {L : Env} {W : World}
theorem Qfh {k : IntKind} {T : TypeId} (b : Nat) (s x : Operand) (t : TypeId) (ho : o.op = .call { callee := .builtin .append, args := #[s, x], argTypes := #[t, t] })
    (ht : P.underlying t = some (.slice T)) (hi : (P.info? T).map (fun i => (i.zero, i.size, i.bytes)) = some (some (.int k 0), 1, b)) (hb8 : b ≤ 8) (d : Nat) (hd : o.dst = some d) (hg : Qbh ops o N L = some true) {B : Nat} {v y : Value} {xs ys : List Int} {V : World}
    (hs : Rely.look (envN N L) s = v) (hx : Rely.look (envN N L) x = y)
    (h : OwnN k T V.heap.size xs v W) (hy : RdK k B ys y W) (hn : xs.length + ys.length ≤ 1000000000) (hV : Ext V W)
    (kk : ∀ (u : Value) (W' : World), OwnN k T V.heap.size (xs ++ ys) u W' → Ext V W' → Below V.heap.size W W' → (∀ (g : Nat) (c : Array Value) (T' : TypeId), T ≠ T' → W.heap[g]? = some (Obj.cells c T') → W'.heap[g]? = some (Obj.cells c T')) → WL P ops Q rest (Qas ds N ((d, u) :: L)) W') : WL P ops Q (o :: rest) (Qas ds N L) W := by
  obtain ⟨v', W', h1, h2, h3, h4⟩ := QfO (ρ := Rely.look (envN N L)) (o := o) (W := W) s x t ho ht hi hb8 hs hx h hy hn hV.size
  exact QbO _ _ d hd hg h1 (kk v' W' h2 (QgZ hV h h3) ⟨h3.os, h3.tape, h3.output, h3.size, fun i hi => h3.block i (Nat.lt_of_lt_of_le hi hV.size) (fun q => by have := h.ge q.symm; omega)⟩ fun g c T' hT r => (h3.block g (Qa1 r) fun q => by
    obtain ⟨cur, r2⟩ := QbB h q.symm
    rw [r] at r2
    simp only [Option.some.injEq, Obj.cells.injEq] at r2
    exact hT r2.2.1.symm).trans r)
end
def wl (l : List Nat) : List Int := l.map fun z => ((z : Nat) : Int)
theorem QbT (l : List Nat) : (wl l).length = l.length := List.length_map ..
theorem Qj0 (l : List Nat) (k : Nat) : wl (l ++ [k]) = wl l ++ [((k : Nat) : Int)] := by unfold wl; rw [List.map_append]; rfl
theorem Qkk {l : List Nat} {p z : Nat} (hp : p < l.length) (h : nth (wl l) p = ((z : Nat) : Int)) : l[p]? = some z := by
  unfold wl nth at h
  rw [List.getD_eq_getElem?_getD, List.getElem?_map, List.getElem?_eq_getElem hp] at h
  simp only [Option.map_some, Option.getD_some] at h
  rw [List.getElem?_eq_getElem hp]
  congr 1
  omega
theorem Qjz {l : List Nat} {p z : Nat} (hp : p < l.length) (h : nth (wl l) p ≠ ((z : Nat) : Int)) : l[p]? ≠ some z := fun e => h (by
  unfold wl nth
  rw [List.getD_eq_getElem?_getD, List.getElem?_map, e]; rfl)
theorem QcC {gs : List Nat} {V A B : World} {row : Option Nat} (h : QaL gs V A) (hg : A.grownBy B row) (hr : ∀ r, row = some r → ∃ o : Obj, A.heap[r]? = some o ∧ o.isCells = false) : QaL gs V B :=
  ⟨Nat.le_trans h.1 hg.size, fun k cs t fr q n => by
    have h2 := h.2 k cs t fr q n
    rw [hg.block k (Array.getElem?_eq_some_iff.1 h2).1 (fun e => by
      obtain ⟨o, h3, h4⟩ := hr k e.symm
      rw [h2] at h3
      cases h3
      cases h4)]
    exact h2⟩
theorem Qi9 (nd me : NdV) (hok : NdOk nd.n) (hok2 : NdOk me.n) (B1 B2 : Nat) (w : World) (hm1 : nd.n.ms.length ≤ 1000000) (hr1 : RdK .i64 B1 nd.n.ms (.slice nd.a nd.n.ms.length nd.c) w) (hr2 : RdK .i64 B2 me.n.ms (.slice me.a me.n.ms.length me.c) w) (h : nd.n = me.n) : Calls Tryd.prog 20 #[.agg (cat (ndP nd)), .agg (cat (ndP me))] w (Ret w (.bool true)) := by
  have h9 := Qg4 nd me hok hok2 B1 B2 w hm1 (h ▸ hm1) hr1 hr2
  rw [h, Qea] at h9
  exact h9
theorem Qer (k : Int) : ∃ K : Nat, IntKind.u64.wrap k = (K : Int) ∧ K < 18446744073709551616 := by
  have : IntKind.u64.wrap k = k % 2 ^ 64 := rfl
  exact ⟨(k % 2 ^ 64).toNat, by rw [this]; omega, by omega⟩
set_option maxRecDepth 100000 in
set_option maxHeartbeats 4000000 in
theorem QjM (ts : List NdV) (a_t : Option Addr) (c_t B1 : Nat) (w : World) (ht : TrAt B1 w a_t ts) (hT : TabAt w) (hs : ¬ (∀ i, i < ts.length → i ≤ 70 ∧ (ndi ts i).n.ms.length ≤ 50)) (most : Int)  : Calls Tryd.prog 4 #[.slice a_t ts.length c_t, .int .i64 most] w (Ret w (.bool true)) := by
  refine enter 124 [(0, .slice a_t ts.length c_t), (1, .int .i64 most)] Tryd.func4 rfl rfl kj rfl ?_
  refine wp_seq_k fun K1 hK1 => ?_
  refine Qab ?_
  refine Qam (#[.slice a_t ts.length c_t]) 23 2 rfl kj kj fun g2 W1 l2 e1 r2_1 => ?_
  have x1 : Ext w W1 := Ext.tr (Rely.Ext.refl w) e1
  have b2 : w.heap.size ≤ g2 := Nat.le_trans (Rely.Ext.refl w).size l2
  refine Qam (#[.int .i64 most]) 3 3 rfl kj kj fun g3 W2 l3 e2 r3_2 => ?_
  have x2 : Ext w W2 := Ext.tr x1 e2
  have b3 : w.heap.size ≤ g3 := Nat.le_trans x1.size l3
  refine Qam (#[.bool false]) 4 4 rfl kj kj fun g4 W3 l4 e3 r4_3 => ?_
  have x3 : Ext w W3 := Ext.tr x2 e3
  have b4 : w.heap.size ≤ g4 := Nat.le_trans x2.size l4
  refine Qae ?_
  refine hK1 _ _ ?_
  refine wp_seq_k fun K5 hK5 => ?_
  refine wp_seq_k fun K6 hK6 => ?_
  refine Qab ?_
  refine Qap (.bool true) 9 #[] 14 rfl kj kj (QfR _ (TabAt.ext hT x3)) fun W4 e4 => ?_
  have x4 : Ext w W4 := Ext.tr x3 e4
  refine Qaa (.bool false) 15 rfl kj kj ?_
  refine Qae ?_
  refine hK6 _ _ ?_
  refine cond_false kj ?_
  refine wp_skip ?_
  refine hK5 _ _ ?_
  refine wp_seq_k fun K7 hK7 => ?_
  refine wp_seq_k fun K8 hK8 => ?_
  refine Qab ?_
  have r2_2 := (Qag r2_1 e2)
  have r2_3 := (Qag r2_2 e3)
  have r2_4 := (Qag r2_3 e4)
  refine Qaa (.slice a_t ts.length c_t) 16 rfl kj (Qah 23 _ g2 0 23 _ (.slice a_t ts.length c_t) _ r2_4 rfl kj kj kj) ?_
  refine Qap (.bool true) 10 #[.slice a_t ts.length c_t] 17 rfl kj kj (QgQ ts a_t c_t _ _ (TrAt.ext ht x4) hs) fun W5 e5 => ?_
  have x5 : Ext w W5 := Ext.tr x4 e5
  refine Qae ?_
  refine hK8 _ _ ?_
  refine cond_true kj ?_
  refine wp_seq_k fun K9 hK9 => ?_
  refine Qab ?_
  have r4_4 := (Qag r4_3 e4)
  have r4_5 := (Qag r4_4 e5)
  refine Qaz g4 _ (#[.bool true]) 4 r4_5 rfl kj (Qaw 4 _ _ g4 0 4 _ (.bool true) r4_5 rfl kj kj kj kj kj rfl) fun W6 p6 r4_6 => ?_
  have x6 : Ext w W6 := Puts.ext p6 x5 b4
  refine Qae ?_
  refine hK9 _ _ ?_
  refine wp_ret ?_
  repeat (first | with_reducible refine goR1 ?_ | with_reducible refine goR2 ?_)
  exact (show bodyPost _ _ _ .ret _ _ from ret1 (.bool true) rfl (Qbe g4 4 _ (.bool true) r4_6 kj kj rfl) ⟨rfl, x6⟩)
set_option maxRecDepth 100000 in
set_option maxHeartbeats 4000000 in
theorem QjO (ts : List NdV) (a_t : Option Addr) (c_t B1 : Nat) (w : World) (ht : TrAt B1 w a_t ts) (hT : TabAt w) (hs : ∀ i, i < ts.length → i ≤ 70 ∧ (ndi ts i).n.ms.length ≤ 50) (most : Int) (hc : chkT ts = false) (hz : ts.length = 0) : Calls Tryd.prog 4 #[.slice a_t ts.length c_t, .int .i64 most] w (Ret w (.bool true)) := by
 have hl := Qgw hs
 have htl : ts.length ≤ 100000 := by omega
 have hl6 : ts.length ≤ 1000000 := by omega
 have hm6 : ∀ i, i < ts.length → (ndi ts i).n.ms.length ≤ 1000000 := fun i hi => Nat.le_trans (hs i hi).2 (by decide)
 have hm1 : ∀ i, i < ts.length → (ndi ts i).n.ms.length ≤ 1000 := fun i hi => Nat.le_trans (hs i hi).2 (by decide)
 obtain ⟨K, hK, hK2⟩ := Qer most
 obtain ⟨mo, hmo0⟩ : ∃ z, z = 1 + K % 40 := ⟨_, rfl⟩
 refine QcS 124 [(0, .slice a_t ts.length c_t), (1, .int .i64 most)] Tryd.func4 rfl rfl kj rfl ?_
 refine wp_seq_k fun K1 hK1 => ?_
 refine Qab ?_
 refine Qam (#[.slice a_t ts.length c_t]) 23 2 rfl kj kj fun g2 W1 l2 e1 r2_1 => ?_
 have x1 : Ext w W1 := Ext.tr (Rely.Ext.refl w) e1
 have b2 : w.heap.size ≤ g2 := Nat.le_trans (Rely.Ext.refl w).size l2
 refine Qam (#[.int .i64 most]) 3 3 rfl kj kj fun g3 W2 l3 e2 r3_2 => ?_
 have x2 : Ext w W2 := Ext.tr x1 e2
 have b3 : w.heap.size ≤ g3 := Nat.le_trans x1.size l3
 refine Qam (#[.bool false]) 4 4 rfl kj kj fun g4 W3 l4 e3 r4_3 => ?_
 have x3 : Ext w W3 := Ext.tr x2 e3
 have b4 : w.heap.size ≤ g4 := Nat.le_trans x2.size l4
 refine Qae ?_
 refine hK1 _ _ ?_
 refine wp_seq_k fun K5 hK5 => ?_
 refine wp_seq_k fun K6 hK6 => ?_
 refine Qab ?_
 refine Qap (.bool true) 9 #[] 14 rfl kj kj (QfR _ (TabAt.ext hT x3)) fun W4 e4 => ?_
 have x4 : Ext w W4 := Ext.tr x3 e4
 refine Qaa (.bool false) 15 rfl kj kj ?_
 refine Qae ?_
 refine hK6 _ _ ?_
 refine cond_false kj ?_
 refine wp_skip ?_
 refine hK5 _ _ ?_
 refine wp_seq_k fun K7 hK7 => ?_
 refine wp_seq_k fun K8 hK8 => ?_
 refine Qab ?_
 have r2_2 := (Qag r2_1 e2)
 have r2_3 := (Qag r2_2 e3)
 have r2_4 := (Qag r2_3 e4)
 refine Qaa (.slice a_t ts.length c_t) 16 rfl kj (Qah 23 _ g2 0 23 _ (.slice a_t ts.length c_t) _ r2_4 rfl kj kj kj) ?_
 refine Qap (.bool false) 10 #[.slice a_t ts.length c_t] 17 rfl kj kj (QdL ts a_t c_t _ _ (TrAt.ext ht x4) hs) fun W5 e5 => ?_
 have x5 : Ext w W5 := Ext.tr x4 e5
 refine Qae ?_
 refine hK8 _ _ ?_
 refine cond_false kj ?_
 refine wp_skip ?_
 refine hK7 _ _ ?_
 refine wp_seq_k fun K9 hK9 => ?_
 refine Qab ?_
 have r3_3 := (Qag r3_2 e3)
 have r3_4 := (Qag r3_3 e4)
 have r3_5 := (Qag r3_4 e5)
 refine Qaa (.int .i64 most) 18 rfl kj (Qah 3 _ g3 0 3 _ (.int .i64 most) _ r3_5 rfl kj kj kj) ?_
 refine Qaa (.int .u64 (((K : Nat) : Int))) 19 rfl kj (Qaj (u := .int .u64 (IntKind.u64.wrap (most))) kj (congrArg (Value.int .u64) hK)) ?_
 refine Qaa (.int .u64 (((K % 40 : Nat) : Int))) 20 rfl kj (Qaj (u := .int .u64 (Int.tmod (((K : Nat) : Int)) (40))) kj (congrArg (Value.int .u64) (QbM _ 40))) ?_
 refine Qaa (.int .i64 (((K % 40 : Nat) : Int))) 21 rfl kj (Qaj (u := .int .i64 (IntKind.i64.wrap (((K % 40 : Nat) : Int)))) kj (congrArg (Value.int .i64) (i64n _ _ rfl (by omega)))) ?_
 refine Qaa (.int .i64 (((mo : Nat) : Int))) 22 rfl kj (Qaj (u := .int .i64 (IntKind.i64.wrap (1 + ((K % 40 : Nat) : Int)))) kj (congrArg (Value.int .i64) (i64n _ _ (by omega) (by omega)))) ?_
 refine Qaz g3 _ (#[.int .i64 (((mo : Nat) : Int))]) 3 r3_5 rfl kj (Qaw 3 _ _ g3 0 3 _ (.int .i64 (((mo : Nat) : Int))) r3_5 rfl kj kj kj kj kj rfl) fun W6 p6 r3_6 => ?_
 have x6 : Ext w W6 := Puts.ext p6 x5 b3
 refine Qae ?_
 refine hK9 _ _ ?_
 refine wp_seq_k fun K10 hK10 => ?_
 skip
 ·skip
  refine Qab ?_
  refine Qby (ints .i64 ([])) 3 0 23 rfl kj kj fun g11 W7 l11 e7 r11_7 => ?_
  have x7 : Ext w W7 := Ext.tr x6 e7
  have b11 : w.heap.size ≤ g11 := Nat.le_trans x6.size l11
  refine Qam (#[.slice none 0 0]) 36 5 rfl kj kj fun g12 W8 l12 e8 r12_8 => ?_
  have x8 : Ext w W8 := Ext.tr x7 e8
  have b12 : w.heap.size ≤ g12 := Nat.le_trans x7.size l12
  refine Qaz g12 _ (#[.slice (some ⟨g11, 0, none⟩) 0 0]) 36 r12_8 rfl kj (Qaw 36 _ _ g12 0 36 _ (.slice (some ⟨g11, 0, none⟩) 0 0) r12_8 rfl kj kj kj kj kj rfl) fun W9 p9 r12_9 => ?_
  have x9 : Ext w W9 := Puts.ext p9 x8 b12
  refine Qae ?_
  refine hK10 _ _ ?_
  refine wp_seq_k fun K13 hK13 => ?_
  refine wp_seq_k fun K14 hK14 => ?_
  refine Qab ?_
  refine Qaa (.int .i64 0) 6 rfl kj kj ?_
  refine Qae ?_
  refine hK14 _ _ ?_
  refine wp_block ?_
  have r11_8 := (Qag r11_7 e8)
  have r11_9 := (Puts.row p9 r11_8 (Qav r11_7 l12))
  refine Qa9 (fun (s1 : Nat × Value) => [(2, .pointer (some ⟨g2, 0, none⟩)), (3, .pointer (some ⟨g3, 0, none⟩)), (4, .pointer (some ⟨g4, 0, none⟩)), (5, .pointer (some ⟨g12, 0, none⟩)), (6, .int .i64 ((2 * s1.1 : Nat) : Int))]) (fun (s1 : Nat × Value) W => (s1.1 = 0) ∧ (OwnN .i64 3 W6.heap.size (wl (Qau ts s1.1)) s1.2 W) ∧ (W.heap[g12]? = some (.cells (#[s1.2]) 36)) ∧ (Below W6.heap.size W9 W) ∧ (Ext w W)) (fun (s1 : Nat × Value) => 0) (0, (.slice (some ⟨g11, 0, none⟩) 0 0)) ⟨rfl, rfl, rfl, rfl, rfl, trivial⟩ ⟨rfl, (QcL (xs := []) rfl l11 r11_9 (by decide)), r12_9, (RowKit.Below.refl _ W9), x9⟩ fun s1 X1 V1 hI1 => ?_
  obtain ⟨k, u⟩ := s1
  obtain ⟨hk, hu, q12_1, kk1, xx1⟩ := hI1
  replace hk : k = 0 := hk
  replace hu : OwnN .i64 3 W6.heap.size (wl (Qau ts k)) u V1 := hu
  replace q12_1 : V1.heap[g12]? = some (.cells (#[u]) 36) := q12_1
  replace kk1 : Below W6.heap.size W9 V1 := kk1
  replace xx1 : Ext w V1 := xx1
  have l10 := kk1
  refine wp_seq_k fun K15 hK15 => ?_
  refine wp_seq_k fun K16 hK16 => ?_
  refine Qab ?_
  refine Qaa (.int .i64 ((2 * k : Nat) : Int)) 24 rfl kj kj ?_
  have r2_5 := (Qag r2_4 e5)
  have r2_6 := (Puts.row p6 r2_5 (Qav r2_1 l3))
  have r2_7 := (Qag r2_6 e7)
  have r2_8 := (Qag r2_7 e8)
  have r2_9 := (Puts.row p9 r2_8 (Qav r2_7 l12))
  have r2_10 := (QaJ l10 r2_9 (Qa1 r2_6))
  refine Qaa (.slice a_t ts.length c_t) 25 rfl kj (Qah 23 _ g2 0 23 _ (.slice a_t ts.length c_t) _ r2_10 rfl kj kj kj) ?_
  refine Qaa (.int .i64 ((ts.length : Nat) : Int)) 26 rfl kj kj ?_
  refine Qaa (.bool false) 27 rfl kj (Qaj (u := .bool (decide (((2 * k : Nat) : Int) < ((ts.length : Nat) : Int)))) kj (congrArg Value.bool (decide_eq_false (by omega)))) ?_
  refine Qaa (.bool false) 28 rfl kj kj ?_
  refine Qad 29 rfl kj ?_
  refine Qad 30 rfl kj ?_
  refine Qaa (.bool false) 31 rfl kj kj ?_
  refine Qae ?_
  refine hK16 _ _ ?_
  refine cond_false kj ?_
  refine wp_exit ?_
  refine hK13 _ _ ?_
  refine wp_seq_k fun K17 hK17 => ?_
  refine Qab ?_
  refine Qam (#[.int .i64 0]) 3 7 rfl kj kj fun g18 W11 l18 e11 r18_11 => ?_
  have x11 : Ext w W11 := Ext.tr xx1 e11
  have b18 : w.heap.size ≤ g18 := Nat.le_trans xx1.size l18
  refine Qaz g18 _ (#[.int .i64 0]) 3 r18_11 rfl kj (Qaw 3 _ _ g18 0 3 _ (.int .i64 0) r18_11 rfl kj kj kj kj kj rfl) fun W12 p12 r18_12 => ?_
  have x12 : Ext w W12 := Puts.ext p12 x11 b18
  refine Qae ?_
  refine hK17 _ _ ?_
  refine wp_seq_k fun K19 hK19 => ?_
  refine wp_seq_k fun K20 hK20 => ?_
  refine Qab ?_
  have r2_11 := (Qag r2_10 e11)
  have r2_12 := (Puts.row p12 r2_11 (Qav r2_10 l18))
  refine Qaa (.slice a_t ts.length c_t) 44 rfl kj (Qah 23 _ g2 0 23 _ (.slice a_t ts.length c_t) _ r2_12 rfl kj kj kj) ?_
  refine Qa8 (fun v W' => (MemR ([] : List NdV) W12) v W' ∧ Ext W12 W') 19 #[.slice a_t ts.length c_t] 45 rfl kj kj ((QeT ts a_t c_t _ _ (TrAt.ext ht x12) htl hm1 (TabAt.ext hT x12) hc).mono (by rintro e w' ⟨v, rfl, e1, hv⟩; exact ⟨v, rfl, hv, e1⟩)) fun vv21 W13 hh21 => ?_
  obtain ⟨hv21, e13⟩ := hh21
  have x13 : Ext w W13 := Ext.tr x12 e13
  obtain ⟨cs, gm1, aM, cM, hasM, rfl, lm1, rm1, hOM⟩ := hv21
  refine Qae ?_
  refine hK20 _ _ ?_
  refine wp_block ?_
  have n7_2 : g2 ≠ g18 := (Qav r2_10 l18)
  have r3_7 := (Qag r3_6 e7)
  have r3_8 := (Qag r3_7 e8)
  have r3_9 := (Puts.row p9 r3_8 (Qav r3_7 l12))
  have r3_10 := (QaJ l10 r3_9 (Qa1 r3_6))
  have n7_3 : g3 ≠ g18 := (Qav r3_10 l18)
  have r4_4 := (Qag r4_3 e4)
  have r4_5 := (Qag r4_4 e5)
  have r4_6 := (Puts.row p6 r4_5 (QbX r3_2 l4))
  have r4_7 := (Qag r4_6 e7)
  have r4_8 := (Qag r4_7 e8)
  have r4_9 := (Puts.row p9 r4_8 (Qav r4_7 l12))
  have r4_10 := (QaJ l10 r4_9 (Qa1 r4_6))
  have n7_4 : g4 ≠ g18 := (Qav r4_10 l18)
  have n7_5 : g12 ≠ g18 := (Qav q12_1 l18)
  have f22_11 := (hu.ext e11)
  have f23_12 := (f22_11.puts p12 (Qef hu l18))
  have f24_13 := (f23_12.ext e13)
  have nb7 : Value.ownBlock u ≠ some g18 := (Qef hu l18)
  have hkf : Qau ts k = (Qau ts 0) := by rw [hk]
  have hw0 := OwnN.rd f24_13
  rw [hkf] at hw0
  obtain ⟨aw, cw, hvw, -⟩ := id hw0
  subst hvw
  have r2_13 := (Qag r2_12 e13)
  have r3_11 := (Qag r3_10 e11)
  have r3_12 := (Puts.row p12 r3_11 (Qav r3_10 l18))
  have r3_13 := (Qag r3_12 e13)
  have r4_11 := (Qag r4_10 e11)
  have r4_12 := (Puts.row p12 r4_11 (Qav r4_10 l18))
  have r4_13 := (Qag r4_12 e13)
  have r12_11 := (Qag q12_1 e11)
  have r12_12 := (Puts.row p12 r12_11 (Qav q12_1 l18))
  have r12_13 := (Qag r12_12 e13)
  have r18_13 := (Qag r18_12 e13)
  have htM : TrAt W13.heap.size W13 aM cs := hOM.tr
  have hav : AvT (fun g => g ∉ [g18]) aM cs := (QdR hOM).mono fun g hg hm => by have h9 := Qa1 r18_12; rw [List.mem_singleton.1 hm] at hg; omega
  have hn1 : gm1 ∉ [g18] := Qc7 (Nat.ne_of_gt (Nat.lt_of_lt_of_le (Qa1 r18_12) lm1)) Qco
  have hLc : leaves ((cs.length : Nat) : Int) = ((0 : Nat) : Int) := by rw [hasM.1]; rfl
  have hUc : Qau cs 0 = (Qau ts 0) := rfl
  have hcl : cs.length = 0 := hasM.1
  refine Qcb (gf := 66) (lb := #[.pointer (some ⟨gm1, 0, none⟩)]) (enc := fun z : Nat => .int .i64 ((z : Nat) : Int)) (enc2 := fun z : Nat => .agg (cat (ndP (nod cs z)))) kj (enters_of Tryd.func66 kj rfl) (Qcp 2 [g18] gm1 cs aM cM W13.heap.size W13 htM (by omega) 0 hLc (by omega) (by omega) rm1 hn1 hav) (fun h k => QaL.trans h k) QaL.book (Below.refl _ _)
    (fun pre W => ((W.heap[g2]? = some (.cells (#[.slice a_t ts.length c_t]) 23)) ∧ (W.heap[g3]? = some (.cells (#[.int .i64 (((mo : Nat) : Int))]) 3)) ∧ (W.heap[g4]? = some (.cells (#[.bool false]) 4)) ∧ (W.heap[g12]? = some (.cells (#[.slice aw (wl (Qau ts 0)).length cw]) 36)) ∧ (W.heap[g18]? = some (.cells (#[.int .i64 ((pre.length : Nat) : Int)]) 3)) ∧ (RdK .i64 W13.heap.size (wl (Qau ts 0)) (.slice aw (wl (Qau ts 0)).length cw) W) ∧ QaL [g18] W13 W) ∧ pre.length < mo ∧ Ext w W)
    (fun c pre W => ((c = .exit 2 ∧ (W.heap[g2]? = some (.cells (#[.slice a_t ts.length c_t]) 23)) ∧ (W.heap[g3]? = some (.cells (#[.int .i64 (((mo : Nat) : Int))]) 3)) ∧ (W.heap[g4]? = some (.cells (#[.bool false]) 4)) ∧ (W.heap[g12]? = some (.cells (#[.slice aw (wl (Qau ts 0)).length cw]) 36)) ∧ (W.heap[g18]? = some (.cells (#[.int .i64 ((pre.length : Nat) : Int)]) 3)) ∧ (RdK .i64 W13.heap.size (wl (Qau ts 0)) (.slice aw (wl (Qau ts 0)).length cw) W) ∧ pre.length = mo) ∨ (c = .ret ∧ ∃ q z, pre = q ++ [z] ∧ (Qau ts 0)[q.length]? ≠ some z)) ∧ Ext w W) (OwnFrom.and (Own.from (fun s A B row hs hg hr => ⟨Qa5 hs.1 hg hr, Qa5 hs.2.1 hg hr, Qa5 hs.2.2.1 hg hr, Qa5 hs.2.2.2.1 hg hr, Qa5 hs.2.2.2.2.1 hg hr, QbV hs.2.2.2.2.2.1 hg hr, QcC hs.2.2.2.2.2.2 hg hr⟩) _) (OwnFrom.and (Own.from (fun _ _ _ _ hs _ _ => hs) _) (ownFrom_below (Nat.le_refl _) x13.size))) (fun c => OwnFrom.and (Own.from (fun s A B row hs hg hr => by rcases hs with ⟨e, h2, h3, h4, h5, h7, h8, h9⟩ | hs; exact .inl ⟨e, Qa5 h2 hg hr, Qa5 h3 hg hr, Qa5 h4 hg hr, Qa5 h5 hg hr, Qa5 h7 hg hr, QbV h8 hg hr, h9⟩; exact .inr hs) _) (ownFrom_below (Nat.le_refl _) x13.size)) ⟨⟨r2_13, r3_13, r4_13, r12_13, r18_13, RdK.here hw0, QaL.refl _ _⟩, (by show 0 < mo; omega), x13⟩ (fun e => QaL.ext e) (fun pre A B h e => ⟨⟨Qag h.1.1 e, Qag h.1.2.1 e, Qag h.1.2.2.1 e, Qag h.1.2.2.2.1 e, Qag h.1.2.2.2.2.1 e, RdK.ext h.1.2.2.2.2.2.1 e, QaL.trans h.1.2.2.2.2.2.2 (QaL.ext e)⟩, h.2.1, Rely.Ext.trans h.2.2 e⟩) (fun pre W h => h.1.2.2.2.2.2.2.1) (fun z g => [(9, .pointer (some ⟨g, 0, none⟩)), (8, .int .i64 ((z : Nat) : Int)), (47, .agg (cat [#[.bool (nod cs z).n.us], #[.int .i64 ((nod cs z).n.nm)], ints .u8 ((nod cs z).n.key), ints .u8 ((nod cs z).n.sg), ints .u8 ((nod cs z).n.pa), #[.slice ((nod cs z).a) ((nod cs z).n.ms.length) ((nod cs z).c)]])), (46, .int .i64 ((z : Nat) : Int))]) (fun z => (cat [#[.bool (nod cs z).n.us], #[.int .i64 ((nod cs z).n.nm)], ints .u8 ((nod cs z).n.key), ints .u8 ((nod cs z).n.sg), ints .u8 ((nod cs z).n.pa), #[.slice ((nod cs z).a) ((nod cs z).n.ms.length) ((nod cs z).c)]])) 41 (fun l z W K hK => ?_) (fun l pre z gP Wr hgP hI rP hp => ?_) (fun D ys W lD hS hI rD => ?_) (fun D c pre W lD hSp hIx rD => ?_)
  ·skip
   refine wpIn_seq_k fun K301 hK301 => ?_
   refine Qa0 ?_
   refine Qa7 (.int .i64 ((z : Nat) : Int)) 8 rfl (Qal l 1 _) rfl kj kj ?_
   refine QaM ?_
   refine hK301 _ _ ?_
   refine Qa0 ?_
   refine Qd4 (cat [#[.bool false], #[.int .i64 0], ints .u8 (List.replicate 32 0), ints .u8 (List.replicate 32 0), ints .u8 (List.replicate 32 0), #[.slice none 0 0]]) 41 9 rfl (Qal l 1 _) rfl kj kj fun g302 W1 l302 e1 r302_1 => ?_
   have x1 : Ext W W1 := Ext.tr (Rely.Ext.refl W) e1
   have b302 : W.heap.size ≤ g302 := Nat.le_trans (Rely.Ext.refl W).size l302
   refine Qbq g302 _ (cat [#[.bool (nod cs z).n.us], #[.int .i64 ((nod cs z).n.nm)], ints .u8 ((nod cs z).n.key), ints .u8 ((nod cs z).n.sg), ints .u8 ((nod cs z).n.pa), #[.slice ((nod cs z).a) ((nod cs z).n.ms.length) ((nod cs z).c)]]) 41 r302_1 rfl (Qal l 1 _) rfl kj (QaF 41 _ _ g302 41 _ _ r302_1 rfl kj kj (isz (n := 99) kj (by rw [Qac, Qac, Qac, Qac, Qac, Qac]; simp only [Array.size_append, cat, ((Qaf _ _).trans (QaY htM z).1.gl), ((Qaf _ _).trans (QaY htM z).1.kl), ((Qaf _ _).trans (QaY htM z).1.pl)]; rfl)) (eqsz (n := 99) (by rw [Qac, Qac, Qac, Qac, Qac, Qac]; simp only [Array.size_append, cat, ((Qaf _ _).trans (List.length_replicate (n := 32)))]; rfl) (by rw [Qac, Qac, Qac, Qac, Qac, Qac]; simp only [Array.size_append, cat, ((Qaf _ _).trans (QaY htM z).1.gl), ((Qaf _ _).trans (QaY htM z).1.kl), ((Qaf _ _).trans (QaY htM z).1.pl)]; rfl)) (Qbo _ (by intro a ha; simp only [List.mem_cons, List.not_mem_nil, or_false] at ha; rcases ha with rfl | rfl | rfl | rfl | rfl | rfl; exact (Qa3 _ rfl); exact (Qa3 _ rfl); exact (Qa4 _ _); exact (Qa4 _ _); exact (Qa4 _ _); exact (Qa3 _ rfl)))) fun W2 p2 r302_2 => ?_
   have x2 : Ext W W2 := Puts.ext p2 x1 b302
   refine QaM ?_
   have y0_1 : Ext W W1 := (Rely.Ext.trans (Rely.Ext.refl W) e1)
   have y0_2 : Ext W W2 := (Puts.ext p2 y0_1 l302)
   exact hK _ _ l302 y0_2 r302_2
  ·skip
   obtain ⟨⟨q2, q3, q4, q5, q7, hw, hkc⟩, hpm, xx⟩ := hI
   have hp32 : pre.length < 32 := hp
   have htr := TrAt.keepC htM hkc hav
   obtain ⟨okz, rdz⟩ := QaY htr z
   have hl1 : (pre ++ [z]).length = pre.length + 1 := by simp
   refine wpIn_block ?_
   refine wpIn_seq_k fun K507 hK507 => ?_
   refine wpIn_seq_k fun K508 hK508 => ?_
   have hwll : (wl (Qau ts 0)).length = (Qau ts 0).length := QbT _
   skip
   ·skip
    have hq : (Qau ts 0).length ≤ pre.length := Nat.zero_le _
    have hbad : (Qau ts 0)[pre.length]? ≠ some z := by rw [List.getElem?_eq_none (by omega)]; simp
    refine Qb6 19 [⟨none, [(7, none)]⟩, ⟨none, [(5, none)]⟩, ⟨none, [(49, some 1)]⟩, ⟨none, [(48, some 0), (50, some 2)]⟩, ⟨none, [(51, some 3)]⟩, ⟨some (52, false), [(8, none), (52, some 4)]⟩, ⟨some (52, false), [(5, none), (52, some 4)]⟩, ⟨some (52, false), [(7, none), (52, some 4)]⟩, ⟨some (52, false), [(54, some 6), (55, some 7), (52, some 4)]⟩, ⟨some (52, false), [(56, some 8), (52, some 4)]⟩, ⟨some (52, false), [(53, some 5), (57, some 9), (52, some 4)]⟩, ⟨none, [(52, some 4), (58, some 10)]⟩, ⟨none, [(59, some 11)]⟩, ⟨some (60, false), [(9, none), (60, some 12)]⟩, ⟨some (60, false), [(2, none), (60, some 12)]⟩, ⟨some (60, false), [(8, none), (60, some 12)]⟩, ⟨some (60, false), [(63, some 15), (60, some 12)]⟩, ⟨some (60, false), [(62, some 14), (64, some 16), (60, some 12)]⟩, ⟨some (60, false), [(65, some 17), (60, some 12)]⟩] (Qal l 1 _) rfl kj kj fun F hF => ?_
    refine QaH (Qaq _) (.int .i64 ((pre.length : Nat) : Int)) kj kj (fun W hR => (Qah 3 _ g18 0 3 _ (.int .i64 ((pre.length : Nat) : Int)) _ (Qag (Qag q7 (Qat _)) hR) rfl kj kj kj)) ?_
    refine QaH (Qaq _) (.slice aw ((wl (Qau ts 0)).length) cw) kj kj (fun W hR => (Qah 36 _ g12 0 36 _ (.slice aw ((wl (Qau ts 0)).length) cw) _ (Qag (Qag q5 (Qat _)) hR) rfl kj kj kj)) ?_
    refine QaB (Qaq _) (.int .i64 (((wl (Qau ts 0)).length : Nat) : Int)) kj kj (fun W => by kernel_rfl) ?_
    refine QaB (Qaq _) (.bool true) kj kj (fun W => (Qaj (u := .bool (decide (((pre.length : Nat) : Int) ≥ (((wl (Qau ts 0)).length : Nat) : Int)))) kj (congrArg Value.bool (decide_eq_true (by rw [QbT]; omega))))) ?_
    refine QaB (Qaq _) (.bool true) kj kj (fun W => by kernel_rfl) ?_
    refine QaD kj kj ?_
    refine QaD kj kj ?_
    refine QaD kj kj ?_
    refine QaD kj kj ?_
    refine QaD kj kj ?_
    refine QaD kj kj ?_
    refine QaB (Qaq _) (.bool true) kj kj (fun W => by kernel_rfl) ?_
    refine QaB (Qaq _) (.bool true) kj kj (fun W => by kernel_rfl) ?_
    refine QaD kj kj ?_
    refine QaD kj kj ?_
    refine QaD kj kj ?_
    refine QaD kj kj ?_
    refine QaD kj kj ?_
    refine QaD kj kj ?_
    refine Qcr (hF _ fun W1 e1 => ?_)
    simp only [List.nil_append, List.cons_append, List.take_succ_cons, List.take_zero, List.drop_succ_cons, List.drop_zero, finE, up]
    clear hF
    have x1 : Ext w W1 := Ext.tr xx e1
    refine QbS 67 rfl (Qal l 1 _) rfl kj ?_
    refine QbS 68 rfl (Qal l 1 _) rfl kj ?_
    refine Qa7 (.bool true) 69 rfl (Qal l 1 _) rfl kj kj ?_
    refine QaM ?_
    refine hK508 _ _ ?_
    refine QbQ kj ?_
    refine wpIn_seq_k fun K509 hK509 => ?_
    refine Qa0 ?_
    have r503_1 := (Qag q4 e1)
    refine Qbq g4 _ (#[.bool false]) 4 r503_1 rfl (Qal l 1 _) rfl kj (Qaw 4 _ _ g4 0 4 _ (.bool false) r503_1 rfl kj kj kj kj kj rfl) fun W2 p2 r503_2 => ?_
    have x2 : Ext w W2 := Puts.ext p2 x1 b4
    refine QaM ?_
    refine hK509 _ _ ?_
    refine wpIn_ret ?_
    repeat (first | with_reducible refine goR1 ?_ | with_reducible refine goR2 ?_)
    exact ⟨((QaV e1).trans (QaZ p2 r503_1)), .inr ⟨rfl, pre, z, rfl, hbad⟩, x2⟩
  ·obtain ⟨⟨q2, q3, q4, q5, q7, hw, -⟩, hpm, xx⟩ := hI
   subst hS
   have bD : w.heap.size ≤ D := Nat.le_trans x13.size lD
   have hcn : (Qau cs 0).length = (wl (Qau ts 0)).length := by rw [QbT, hUc]
   obtain ⟨NC, hNC⟩ : ∃ z, z = (Qau cs 0).length := ⟨_, rfl⟩
   rw [← hNC] at q7 hpm hcn
   have hmn : NC = mo ∧ mo ≤ (wl (Qau ts 0)).length ∨ NC = (wl (Qau ts 0)).length ∧ NC < mo := .inr ⟨hcn, hpm⟩
   refine hK19 _ _ ?_
   refine wp_seq_k fun K26 hK26 => ?_
   refine Qab ?_
   refine Qaa (.slice a_t ts.length c_t) 75 rfl kj (Qah 23 _ g2 0 23 _ (.slice a_t ts.length c_t) _ q2 rfl kj kj kj) ?_
   refine Qa8 (fun v W' => (fun v W9 => ∃ us, AsC us ts ∧ OwT W.heap.size us v W9) v W' ∧ Ext W W') 21 #[.slice a_t ts.length c_t] 76 rfl kj kj ((Qf6 ts a_t _ _ _ (TrAt.ext ht xx) htl hm1).mono (by rintro e w' ⟨v, rfl, e1, hv⟩; exact ⟨v, rfl, hv, e1⟩)) fun vv27 W15 hh27 => ?_
   obtain ⟨hv27, e15⟩ := hh27
   have x15 : Ext w W15 := Ext.tr xx e15
   obtain ⟨ds, hasD, hOD⟩ := hv27
   obtain ⟨aD, cD, hvD⟩ := hOD.slice
   subst hvD
   have htD := hOD.tr
   refine Qaa (.slice aD ds.length cD) 10 rfl kj kj ?_
   refine Qae ?_
   refine hK26 _ _ ?_
   refine wp_seq_k fun K28 hK28 => ?_
   refine Qab ?_
   have r2_15 := (Qag q2 e15)
   refine Qaa (.slice a_t ts.length c_t) 77 rfl kj (Qah 23 _ g2 0 23 _ (.slice a_t ts.length c_t) _ r2_15 rfl kj kj kj) ?_
   refine Qa8 (fun v W' => (fun v W => ∃ us, AsC us ts ∧ OwT W15.heap.size us v W ∧ ∃ g, v = .slice (some ⟨g, 0, none⟩) ts.length ts.length) v W' ∧ Ext W15 W') 16 #[.slice a_t ts.length c_t] 78 rfl kj kj ((Qe7 ts a_t _ _ _ (TrAt.ext ht x15) htl hm1).mono (by rintro e w' ⟨v, rfl, e1, hv⟩; exact ⟨v, rfl, hv, e1⟩)) fun vv29 W16 hh29 => ?_
   obtain ⟨hv29, e16⟩ := hh29
   have x16 : Ext w W16 := Ext.tr x15 e16
   obtain ⟨us, has, hU, gO, rfl⟩ := hv29
   obtain ⟨lgO, cuO, rO16⟩ := hU.rowBlock (g := gO) rfl
   have bgO : w.heap.size ≤ gO := Nat.le_trans x15.size lgO
   refine Qaa (.slice (some ⟨gO, 0, none⟩) ts.length ts.length) 11 rfl kj kj ?_
   refine Qae ?_
   refine hK28 _ _ ?_
   refine wp_seq_k fun K31 hK31 => ?_
   refine wp_seq_k fun K32 hK32 => ?_
   refine Qab ?_
   refine Qaa (.slice (some ⟨gO, 0, none⟩) ts.length ts.length) 79 rfl kj kj ?_
   refine Qaa (.int .i64 ((ts.length : Nat) : Int)) 80 rfl kj kj ?_
   refine Qaa (.int .i64 0) 81 rfl kj kj ?_
   refine Qae ?_
   refine hK32 _ _ ?_
   refine wp_block ?_
   refine Qa9 (fun (s2 : Nat × List NdV) => [(2, .pointer (some ⟨g2, 0, none⟩)), (3, .pointer (some ⟨g3, 0, none⟩)), (4, .pointer (some ⟨g4, 0, none⟩)), (5, .pointer (some ⟨g12, 0, none⟩)), (7, .pointer (some ⟨g18, 0, none⟩)), (10, .slice aD ds.length cD), (11, .slice (some ⟨gO, 0, none⟩) ts.length ts.length), (80, .int .i64 ((ts.length : Nat) : Int)), (81, .int .i64 ((s2.1 : Nat) : Int))]) (fun (s2 : Nat × List NdV) W => (s2.1 ≤ ts.length) ∧ (s2.2.length = ts.length) ∧ (OwT W15.heap.size s2.2 (.slice (some ⟨gO, 0, none⟩) ts.length ts.length) W) ∧ (Below W15.heap.size W16 W) ∧ (Ext w W)) (fun (s2 : Nat × List NdV) => ts.length - s2.1) (0, us) ⟨rfl, rfl, rfl, rfl, rfl, rfl, rfl, rfl, rfl, trivial⟩ ⟨(Nat.zero_le _), has.1, (OwH.ext hU (Rely.Ext.refl W16)), (RowKit.Below.refl _ W16), x16⟩ fun s2 X2 V2 hI2 => ?_
   obtain ⟨i, vs⟩ := s2
   obtain ⟨hi, hvl, hV, kk2, xx2⟩ := hI2
   replace hi : i ≤ ts.length := hi
   replace hvl : vs.length = ts.length := hvl
   replace hV : OwT W15.heap.size vs (.slice (some ⟨gO, 0, none⟩) ts.length ts.length) V2 := hV
   replace kk2 : Below W15.heap.size W16 V2 := kk2
   replace xx2 : Ext w V2 := xx2
   have l17 := kk2
   refine wp_seq_k fun K33 hK33 => ?_
   refine Qab ?_
   refine Qaa (.bool (decide (((i : Nat) : Int) < ((ts.length : Nat) : Int)))) 82 rfl kj kj ?_
   refine Qae ?_
   refine hK33 _ _ ?_
   refine wp_seq_k fun K34 hK34 => ?_
   refine Qax (t := decide (((i : Nat) : Int) < ((ts.length : Nat) : Int))) kj (fun c35 => ?_) (fun c35 => ?_)
   ·skip
    have hlt82 : i < ts.length := by have := of_decide_eq_true c35; omega
    refine wp_skip ?_
    refine hK34 _ _ ?_
    refine wp_seq_k fun K36 hK36 => ?_
    refine wp_block ?_
    refine wp_seq_k fun K37 hK37 => ?_
    refine Qab ?_
    refine Qaa (.int .i64 ((i : Nat) : Int)) 83 rfl kj kj ?_
    refine Qaa (.int .i64 ((i : Nat) : Int)) 12 rfl kj kj ?_
    refine Qae ?_
    refine hK37 _ _ ?_
    refine wp_seq_k fun K38 hK38 => ?_
    refine Qab ?_
    refine Qaa (.slice (some ⟨gO, 0, none⟩) ts.length ts.length) 84 rfl kj kj ?_
    refine Qaa (.int .i64 ((i : Nat) : Int)) 85 rfl kj kj ?_
    refine Qaa (.pointer (some ⟨gO, 0 + i * 99, none⟩)) 86 rfl kj (Qa6 23 _ _ .i64 i gO 0 ts.length ts.length 41 99 rfl kj kj kj kj (by omega)) ?_
    refine Qaa (.pointer (some ⟨gO, 0 + i * 99 + 1, none⟩)) 87 rfl kj kj ?_
    refine Qaa (.int .i64 (ndi vs i).n.nm) 88 rfl kj (Qai 3 _ _ (.int .i64 (ndi vs i).n.nm) (NdAt.at3 (OwH.node hvl hV (by omega))).2.1 rfl kj kj) ?_
    refine Qaa (.int .i64 (IntKind.i64.wrap ((ndi vs i).n.nm + 1))) 89 rfl kj kj ?_
    refine Qaa (.pointer (some ⟨gO, 0 + i * 99, none⟩)) 90 rfl kj (Qa6 23 _ _ .i64 i gO 0 ts.length ts.length 41 99 rfl kj kj kj kj (by omega)) ?_
    refine Qaa (.pointer (some ⟨gO, 0 + i * 99 + 1, none⟩)) 91 rfl kj kj ?_
    refine QcI (i := i) (v := (IntKind.i64.wrap ((ndi vs i).n.nm + 1))) 3 _ _ hvl hV (by omega) rfl kj kj kj rfl kj fun W18 p18 hV2 => ?_
    obtain ⟨vs2, hvs2⟩ : ∃ z, z = nmS vs i (IntKind.i64.wrap ((ndi vs i).n.nm + 1)) := ⟨_, rfl⟩
    rw [← hvs2] at hV2
    have hvl2 : vs2.length = ts.length := by rw [hvs2, Qe0]; exact hvl
    have x18 : Ext w W18 := Puts.ext p18 xx2 bgO
    refine Qae ?_
    refine hK38 _ _ ?_
    refine wp_seq_k fun K39 hK39 => ?_
    refine Qab ?_
    refine Qaa (.slice (some ⟨gO, 0, none⟩) ts.length ts.length) 92 rfl kj kj ?_
    refine Qaa (.int .i64 ((i : Nat) : Int)) 93 rfl kj kj ?_
    refine Qaa (.pointer (some ⟨gO, 0 + i * 99, none⟩)) 94 rfl kj (Qa6 23 _ _ .i64 i gO 0 ts.length ts.length 41 99 rfl kj kj kj kj (by omega)) ?_
    refine Qaa (.pointer (some ⟨gO, 0 + i * 99 + 98, none⟩)) 95 rfl kj kj ?_
    obtain ⟨nt, ent⟩ : ∃ z, z = ndi vs2 i := ⟨_, rfl⟩
    have hnt : NdAt _ _ gO (0 + i * 99) nt := ent ▸ OwH.node hvl2 hV2 (by omega)
    have hntm : nt.n.ms.length ≤ 1000 := ent ▸ (hV2.nd i (by omega) (by simp)).2.1
    refine Qaa (.slice nt.a nt.n.ms.length nt.c) 96 rfl kj (Qai 36 _ _ (.slice nt.a nt.n.ms.length nt.c) (NdAt.at3 hnt).2.2 rfl kj kj) ?_
    refine Qaa (.int .i64 ((nt.n.ms.length : Nat) : Int)) 97 rfl kj kj ?_
    refine Qaa (.int .i64 0) 98 rfl kj kj ?_
    refine Qae ?_
    refine hK39 _ _ ?_
    refine wp_block ?_
    refine Qa9 (fun (s3 : Nat × List NdV) => [(2, .pointer (some ⟨g2, 0, none⟩)), (3, .pointer (some ⟨g3, 0, none⟩)), (4, .pointer (some ⟨g4, 0, none⟩)), (5, .pointer (some ⟨g12, 0, none⟩)), (7, .pointer (some ⟨g18, 0, none⟩)), (10, .slice aD ds.length cD), (11, .slice (some ⟨gO, 0, none⟩) ts.length ts.length), (12, .int .i64 ((i : Nat) : Int)), (80, .int .i64 ((ts.length : Nat) : Int)), (81, .int .i64 ((i : Nat) : Int)), (97, .int .i64 ((nt.n.ms.length : Nat) : Int)), (98, .int .i64 ((s3.1 : Nat) : Int))]) (fun (s3 : Nat × List NdV) W => (s3.1 ≤ nt.n.ms.length) ∧ (s3.2.length = ts.length) ∧ ((ndi s3.2 i).n.ms.length = nt.n.ms.length) ∧ (OwT W15.heap.size s3.2 (.slice (some ⟨gO, 0, none⟩) ts.length ts.length) W) ∧ (Below W15.heap.size W18 W) ∧ (Ext w W)) (fun (s3 : Nat × List NdV) => nt.n.ms.length - s3.1) (0, vs2) ⟨rfl, rfl, rfl, rfl, rfl, rfl, rfl, rfl, rfl, rfl, rfl, rfl, trivial⟩ ⟨(Nat.zero_le _), hvl2, (by rw [ent]), hV2, (RowKit.Below.refl _ W18), x18⟩ fun s3 X3 V3 hI3 => ?_
    obtain ⟨j, ws⟩ := s3
    obtain ⟨hj, hwl, hwm, hW, kk3, xx3⟩ := hI3
    replace hj : j ≤ nt.n.ms.length := hj
    replace hwl : ws.length = ts.length := hwl
    replace hwm : (ndi ws i).n.ms.length = nt.n.ms.length := hwm
    replace hW : OwT W15.heap.size ws (.slice (some ⟨gO, 0, none⟩) ts.length ts.length) V3 := hW
    replace kk3 : Below W15.heap.size W18 V3 := kk3
    replace xx3 : Ext w V3 := xx3
    have l19 := kk3
    refine wp_seq_k fun K40 hK40 => ?_
    refine Qab ?_
    refine Qaa (.bool (decide (((j : Nat) : Int) < ((nt.n.ms.length : Nat) : Int)))) 99 rfl kj kj ?_
    refine Qae ?_
    refine hK40 _ _ ?_
    refine wp_seq_k fun K41 hK41 => ?_
    refine Qax (t := decide (((j : Nat) : Int) < ((nt.n.ms.length : Nat) : Int))) kj (fun c42 => ?_) (fun c42 => ?_)
    ·skip
     have hlt99 : j < nt.n.ms.length := by have := of_decide_eq_true c42; omega
     refine wp_skip ?_
     refine hK41 _ _ ?_
     refine wp_seq_k fun K43 hK43 => ?_
     refine wp_block ?_
     refine wp_seq_k fun K44 hK44 => ?_
     refine Qab ?_
     refine Qaa (.int .i64 ((j : Nat) : Int)) 100 rfl kj kj ?_
     refine Qaa (.int .i64 ((j : Nat) : Int)) 13 rfl kj kj ?_
     refine Qae ?_
     refine hK44 _ _ ?_
     refine Qab ?_
     refine Qaa (.slice (some ⟨gO, 0, none⟩) ts.length ts.length) 101 rfl kj kj ?_
     refine Qaa (.int .i64 ((i : Nat) : Int)) 102 rfl kj kj ?_
     refine Qaa (.pointer (some ⟨gO, 0 + i * 99, none⟩)) 103 rfl kj (Qa6 23 _ _ .i64 i gO 0 ts.length ts.length 41 99 rfl kj kj kj kj (by omega)) ?_
     refine Qaa (.pointer (some ⟨gO, 0 + i * 99 + 98, none⟩)) 104 rfl kj kj ?_
     obtain ⟨mt, emt⟩ : ∃ z, z = ndi ws i := ⟨_, rfl⟩
     have hmt0 : NdAt _ _ gO (0 + i * 99) mt := emt ▸ OwH.node hwl hW (by omega)
     obtain ⟨bL, hba, hbb, hbs, hbc⟩ := OwH.list hwl hW (i := i) (by omega) (by omega)
     have hjm : j < (ndi ws i).n.ms.length := by omega
     have hba2 := hba
     have hbc2 := hbc
     rw [← emt] at hba2 hbc2
     have hjm2 : j < mt.n.ms.length := emt ▸ hjm
     have hbj := hbc2 j hjm2
     refine Qaa (.slice mt.a mt.n.ms.length mt.c) 105 rfl kj (Qai 36 _ _ (.slice mt.a mt.n.ms.length mt.c) (NdAt.at3 hmt0).2.2 rfl kj kj) ?_
     refine Qaa (.int .i64 ((j : Nat) : Int)) 106 rfl kj kj ?_
     refine Qaa (.pointer (some ⟨bL, 0 + j, none⟩)) 107 rfl kj (QaE 36 _ _ .i64 j bL 0 mt.n.ms.length mt.c 3 mt.a _ hba2 rfl rfl kj kj kj kj hjm2) ?_
     refine Qaa (.int .i64 (nth mt.n.ms j)) 108 rfl kj (Qai 3 _ _ (.int .i64 (nth mt.n.ms j)) hbj rfl kj kj) ?_
     refine Qaa (.int .i64 (IntKind.i64.wrap ((nth mt.n.ms j) + 1))) 109 rfl kj kj ?_
     refine Qaa (.pointer (some ⟨bL, 0 + j, none⟩)) 110 rfl kj (QaE 36 _ _ .i64 j bL 0 mt.n.ms.length mt.c 3 mt.a _ hba2 rfl rfl kj kj kj kj hjm2) ?_
     refine QcJ (i := i) (j := j) (v := (IntKind.i64.wrap ((nth mt.n.ms j) + 1))) 3 _ _ hwl hW (by omega) hjm hba rfl kj kj kj rfl kj fun W20 p20 _ _ hW2 => ?_
     have x20 : Ext w W20 := Puts.ext p20 xx3 (Nat.le_trans x15.size hbb)
     refine Qae ?_
     refine hK43 _ _ ?_
     refine Qab ?_
     refine Qaa (.int .i64 ((j + 1 : Nat) : Int)) 111 rfl kj (Qaj (u := .int .i64 (IntKind.i64.wrap (((j : Nat) : Int) + 1))) kj (congrArg (Value.int .i64) (i64n _ _ (by omega) (by omega)))) ?_
     refine Qaa (.int .i64 ((j + 1 : Nat) : Int)) 98 rfl kj kj ?_
     refine Qae ?_
     repeat (first | with_reducible refine goX1 ?_ | with_reducible refine goX2 ?_ | with_reducible refine goX3 ?_)
     exact Qay ((j + 1), (msS ws i j (IntKind.i64.wrap ((nth mt.n.ms j) + 1)))) ⟨rfl, rfl, rfl, rfl, rfl, rfl, rfl, rfl, rfl, rfl, rfl, rfl, trivial⟩ ⟨(by omega), (by rw [Qe1]; exact hwl), (by rw [QfB _ _ _ _ (by omega)]; exact hwm), hW2, (Qbf p20 l19 hbb), x20⟩ (by show nt.n.ms.length - (j + 1) < nt.n.ms.length - j; omega)
    ·skip
     have heq99 : j = nt.n.ms.length := by have := of_decide_eq_false c42; omega
     refine wp_exit ?_
     refine hK36 _ _ ?_
     refine Qab ?_
     refine Qaa (.int .i64 ((i + 1 : Nat) : Int)) 112 rfl kj (Qaj (u := .int .i64 (IntKind.i64.wrap (((i : Nat) : Int) + 1))) kj (congrArg (Value.int .i64) (i64n _ _ (by omega) (by omega)))) ?_
     refine Qaa (.int .i64 ((i + 1 : Nat) : Int)) 81 rfl kj kj ?_
     refine Qae ?_
     repeat (first | with_reducible refine goX1 ?_ | with_reducible refine goX2 ?_ | with_reducible refine goX3 ?_)
     exact Qay ((i + 1), ws) ⟨rfl, rfl, rfl, rfl, rfl, rfl, rfl, rfl, rfl, trivial⟩ ⟨(by omega), hwl, hW, (RowKit.Below.trans (Qbf p18 l17 lgO) l19), xx3⟩ (by show ts.length - (i + 1) < ts.length - i; omega)
   ·skip
    have heq82 : i = ts.length := by have := of_decide_eq_false c35; omega
    refine wp_exit ?_
    refine hK31 _ _ ?_
    refine wp_seq_k fun K46 hK46 => ?_
    refine Qab ?_
    have r18_15 := (Qag q7 e15)
    have r18_16 := (Qag r18_15 e16)
    have r18_17 := (QaJ l17 r18_16 (Qa1 r18_15))
    refine Qaa (.int .i64 ((NC : Nat) : Int)) 113 rfl kj (Qah 3 _ g18 0 3 _ (.int .i64 ((NC : Nat) : Int)) _ r18_17 rfl kj kj kj) ?_
    have r3_15 := (Qag q3 e15)
    have r3_16 := (Qag r3_15 e16)
    have r3_17 := (QaJ l17 r3_16 (Qa1 r3_15))
    refine Qaa (.int .i64 ((mo : Nat) : Int)) 114 rfl kj (Qah 3 _ g3 0 3 _ (.int .i64 ((mo : Nat) : Int)) _ r3_17 rfl kj kj kj) ?_
    have r12_15 := (Qag q5 e15)
    have r12_16 := (Qag r12_15 e16)
    have r12_17 := (QaJ l17 r12_16 (Qa1 r12_15))
    refine Qaa (.slice aw (wl (Qau ts 0)).length cw) 115 rfl kj (Qah 36 _ g12 0 36 _ (.slice aw (wl (Qau ts 0)).length cw) _ r12_17 rfl kj kj kj) ?_
    refine Qaa (.int .i64 (((wl (Qau ts 0)).length : Nat) : Int)) 116 rfl kj kj ?_
    refine Qaa (.int .i64 ((NC : Nat) : Int)) 117 rfl kj (Qdz #[3, 3] (.tmp 114) (.tmp 116) .i64 ((mo : Nat) : Int) (((wl (Qau ts 0)).length : Nat) : Int) _ rfl kj kj (by split <;> omega)) ?_
    refine Qaa (.bool true) 118 rfl kj (Qaj (u := .bool ((((NC : Nat) : Int) == ((NC : Nat) : Int)))) kj (congrArg Value.bool (beq_self_eq_true _))) ?_
    refine Qaa (.bool true) 119 rfl kj kj ?_
    have r2_16 := (Qag r2_15 e16)
    have r2_17 := (QaJ l17 r2_16 (Qa1 r2_15))
    refine Qaa (.slice a_t ts.length c_t) 120 rfl kj (Qah 23 _ g2 0 23 _ (.slice a_t ts.length c_t) _ r2_17 rfl kj kj kj) ?_
    refine Qaa (.slice aD ds.length cD) 121 rfl kj kj ?_
    have y15_16 : Ext W15 W16 := (Rely.Ext.trans (Rely.Ext.refl W15) e16)
    have y15_17 : Ext W15 V2 := (Ext.low y15_16 l17 (Rely.Ext.refl W15).size)
    refine Qap (.bool true) 15 #[.slice a_t ts.length c_t, .slice aD ds.length cD] 122 rfl kj kj (QeA true ts ds a_t aD c_t cD _ _ _ hl6 (by rw [hasD.1]; exact hl6) hm6 (fun i hi => by rw [hasD.all]; exact hm6 i (by rw [← hasD.1]; exact hi)) (TrAt.ext ht xx2) (TrAt.ext htD y15_17) (Qdy hasD.symm)) fun W18 e18 => ?_
    have x18 : Ext w W18 := Ext.tr xx2 e18
    refine Qaa (.bool true) 123 rfl kj kj ?_
    have r4_15 := (Qag q4 e15)
    have r4_16 := (Qag r4_15 e16)
    have r4_17 := (QaJ l17 r4_16 (Qa1 r4_15))
    have r4_18 := (Qag r4_17 e18)
    refine Qaz g4 _ (#[.bool true]) 4 r4_18 rfl kj (Qaw 4 _ _ g4 0 4 _ (.bool true) r4_18 rfl kj kj kj kj kj rfl) fun W19 p19 r4_19 => ?_
    have x19 : Ext w W19 := Puts.ext p19 x18 b4
    refine Qae ?_
    refine hK46 _ _ ?_
    refine wp_ret ?_
    repeat (first | with_reducible refine goR1 ?_ | with_reducible refine goR2 ?_)
    have r25_15 := (Qag rD e15)
    have r25_16 := (Qag r25_15 e16)
    have r25_17 := (QaJ l17 r25_16 (Qa1 r25_15))
    have r25_18 := (Qag r25_17 e18)
    have r25_19 := (Puts.row p19 r25_18 (Qc8 q4 rD))
    exact (show bodyPostM _ _ _ _ _ .ret _ _ from QdV (.bool true) rfl r25_19 (Qbe g4 4 _ (.bool true) (QbH r4_19 r25_19 _) kj kj rfl) ⟨rfl, Qbv x19 bD r25_19 _⟩)
  ·rcases hIx with ⟨⟨rfl, q2, q3, q4, q5, q7, hw, hpm⟩ | ⟨rfl, q, z, rfl, hbad⟩, xx⟩
   ·obtain ⟨k0, hk0, hus0, e0⟩ := hSp
    have hat := Qct hk0 hus0
    rw [hUc] at hat
    exact absurd hk0 (Nat.not_lt_zero _)
   ·obtain ⟨k0, hk0, hus0, e0⟩ := hSp
    have hat := Qct hk0 hus0
    rw [hUc] at hat
    obtain ⟨rfl, e1⟩ := List.append_inj' e0 rfl
    obtain rfl : z = k0 := by simpa using e1
    exact absurd hat hbad
set_option maxRecDepth 100000 in
set_option maxHeartbeats 4000000 in
theorem QjN (ts : List NdV) (a_t : Option Addr) (c_t B1 : Nat) (w : World) (ht : TrAt B1 w a_t ts) (hT : TabAt w) (hs : ∀ i, i < ts.length → i ≤ 70 ∧ (ndi ts i).n.ms.length ≤ 50) (most : Int) (hc : chkT ts = false) (hz : 0 < ts.length) : Calls Tryd.prog 4 #[.slice a_t ts.length c_t, .int .i64 most] w (Ret w (.bool true)) := by
 have hl := Qgw hs
 have htl : ts.length ≤ 100000 := by omega
 have hl6 : ts.length ≤ 1000000 := by omega
 have hm6 : ∀ i, i < ts.length → (ndi ts i).n.ms.length ≤ 1000000 := fun i hi => Nat.le_trans (hs i hi).2 (by decide)
 have hm1 : ∀ i, i < ts.length → (ndi ts i).n.ms.length ≤ 1000 := fun i hi => Nat.le_trans (hs i hi).2 (by decide)
 obtain ⟨K, hK, hK2⟩ := Qer most
 obtain ⟨mo, hmo0⟩ : ∃ z, z = 1 + K % 40 := ⟨_, rfl⟩
 refine QcS 124 [(0, .slice a_t ts.length c_t), (1, .int .i64 most)] Tryd.func4 rfl rfl kj rfl ?_
 refine wp_seq_k fun K1 hK1 => ?_
 refine Qab ?_
 refine Qam (#[.slice a_t ts.length c_t]) 23 2 rfl kj kj fun g2 W1 l2 e1 r2_1 => ?_
 have x1 : Ext w W1 := Ext.tr (Rely.Ext.refl w) e1
 have b2 : w.heap.size ≤ g2 := Nat.le_trans (Rely.Ext.refl w).size l2
 refine Qam (#[.int .i64 most]) 3 3 rfl kj kj fun g3 W2 l3 e2 r3_2 => ?_
 have x2 : Ext w W2 := Ext.tr x1 e2
 have b3 : w.heap.size ≤ g3 := Nat.le_trans x1.size l3
 refine Qam (#[.bool false]) 4 4 rfl kj kj fun g4 W3 l4 e3 r4_3 => ?_
 have x3 : Ext w W3 := Ext.tr x2 e3
 have b4 : w.heap.size ≤ g4 := Nat.le_trans x2.size l4
 refine Qae ?_
 refine hK1 _ _ ?_
 refine wp_seq_k fun K5 hK5 => ?_
 refine wp_seq_k fun K6 hK6 => ?_
 refine Qab ?_
 refine Qap (.bool true) 9 #[] 14 rfl kj kj (QfR _ (TabAt.ext hT x3)) fun W4 e4 => ?_
 have x4 : Ext w W4 := Ext.tr x3 e4
 refine Qaa (.bool false) 15 rfl kj kj ?_
 refine Qae ?_
 refine hK6 _ _ ?_
 refine cond_false kj ?_
 refine wp_skip ?_
 refine hK5 _ _ ?_
 refine wp_seq_k fun K7 hK7 => ?_
 refine wp_seq_k fun K8 hK8 => ?_
 refine Qab ?_
 have r2_2 := (Qag r2_1 e2)
 have r2_3 := (Qag r2_2 e3)
 have r2_4 := (Qag r2_3 e4)
 refine Qaa (.slice a_t ts.length c_t) 16 rfl kj (Qah 23 _ g2 0 23 _ (.slice a_t ts.length c_t) _ r2_4 rfl kj kj kj) ?_
 refine Qap (.bool false) 10 #[.slice a_t ts.length c_t] 17 rfl kj kj (QdL ts a_t c_t _ _ (TrAt.ext ht x4) hs) fun W5 e5 => ?_
 have x5 : Ext w W5 := Ext.tr x4 e5
 refine Qae ?_
 refine hK8 _ _ ?_
 refine cond_false kj ?_
 refine wp_skip ?_
 refine hK7 _ _ ?_
 refine wp_seq_k fun K9 hK9 => ?_
 refine Qab ?_
 have r3_3 := (Qag r3_2 e3)
 have r3_4 := (Qag r3_3 e4)
 have r3_5 := (Qag r3_4 e5)
 refine Qaa (.int .i64 most) 18 rfl kj (Qah 3 _ g3 0 3 _ (.int .i64 most) _ r3_5 rfl kj kj kj) ?_
 refine Qaa (.int .u64 (((K : Nat) : Int))) 19 rfl kj (Qaj (u := .int .u64 (IntKind.u64.wrap (most))) kj (congrArg (Value.int .u64) hK)) ?_
 refine Qaa (.int .u64 (((K % 40 : Nat) : Int))) 20 rfl kj (Qaj (u := .int .u64 (Int.tmod (((K : Nat) : Int)) (40))) kj (congrArg (Value.int .u64) (QbM _ 40))) ?_
 refine Qaa (.int .i64 (((K % 40 : Nat) : Int))) 21 rfl kj (Qaj (u := .int .i64 (IntKind.i64.wrap (((K % 40 : Nat) : Int)))) kj (congrArg (Value.int .i64) (i64n _ _ rfl (by omega)))) ?_
 refine Qaa (.int .i64 (((mo : Nat) : Int))) 22 rfl kj (Qaj (u := .int .i64 (IntKind.i64.wrap (1 + ((K % 40 : Nat) : Int)))) kj (congrArg (Value.int .i64) (i64n _ _ (by omega) (by omega)))) ?_
 refine Qaz g3 _ (#[.int .i64 (((mo : Nat) : Int))]) 3 r3_5 rfl kj (Qaw 3 _ _ g3 0 3 _ (.int .i64 (((mo : Nat) : Int))) r3_5 rfl kj kj kj kj kj rfl) fun W6 p6 r3_6 => ?_
 have x6 : Ext w W6 := Puts.ext p6 x5 b3
 refine Qae ?_
 refine hK9 _ _ ?_
 refine wp_seq_k fun K10 hK10 => ?_
 skip
 ·skip
  refine Qab ?_
  refine Qby (ints .i64 ([])) 3 0 23 rfl kj kj fun g11 W7 l11 e7 r11_7 => ?_
  have x7 : Ext w W7 := Ext.tr x6 e7
  have b11 : w.heap.size ≤ g11 := Nat.le_trans x6.size l11
  refine Qam (#[.slice none 0 0]) 36 5 rfl kj kj fun g12 W8 l12 e8 r12_8 => ?_
  have x8 : Ext w W8 := Ext.tr x7 e8
  have b12 : w.heap.size ≤ g12 := Nat.le_trans x7.size l12
  refine Qaz g12 _ (#[.slice (some ⟨g11, 0, none⟩) 0 0]) 36 r12_8 rfl kj (Qaw 36 _ _ g12 0 36 _ (.slice (some ⟨g11, 0, none⟩) 0 0) r12_8 rfl kj kj kj kj kj rfl) fun W9 p9 r12_9 => ?_
  have x9 : Ext w W9 := Puts.ext p9 x8 b12
  refine Qae ?_
  refine hK10 _ _ ?_
  refine wp_seq_k fun K13 hK13 => ?_
  refine wp_seq_k fun K14 hK14 => ?_
  refine Qab ?_
  refine Qaa (.int .i64 0) 6 rfl kj kj ?_
  refine Qae ?_
  refine hK14 _ _ ?_
  refine wp_block ?_
  have r11_8 := (Qag r11_7 e8)
  have r11_9 := (Puts.row p9 r11_8 (Qav r11_7 l12))
  refine Qa9 (fun (s1 : Nat × Value) => [(2, .pointer (some ⟨g2, 0, none⟩)), (3, .pointer (some ⟨g3, 0, none⟩)), (4, .pointer (some ⟨g4, 0, none⟩)), (5, .pointer (some ⟨g12, 0, none⟩)), (6, .int .i64 ((2 * s1.1 : Nat) : Int))]) (fun (s1 : Nat × Value) W => (s1.1 = 0) ∧ (OwnN .i64 3 W6.heap.size (wl (Qau ts s1.1)) s1.2 W) ∧ (W.heap[g12]? = some (.cells (#[s1.2]) 36)) ∧ (Below W6.heap.size W9 W) ∧ (Ext w W)) (fun (s1 : Nat × Value) => 0) (0, (.slice (some ⟨g11, 0, none⟩) 0 0)) ⟨rfl, rfl, rfl, rfl, rfl, trivial⟩ ⟨rfl, (QcL (xs := []) rfl l11 r11_9 (by decide)), r12_9, (RowKit.Below.refl _ W9), x9⟩ fun s1 X1 V1 hI1 => ?_
  obtain ⟨k, u⟩ := s1
  obtain ⟨hk, hu, q12_1, kk1, xx1⟩ := hI1
  replace hk : k = 0 := hk
  replace hu : OwnN .i64 3 W6.heap.size (wl (Qau ts k)) u V1 := hu
  replace q12_1 : V1.heap[g12]? = some (.cells (#[u]) 36) := q12_1
  replace kk1 : Below W6.heap.size W9 V1 := kk1
  replace xx1 : Ext w V1 := xx1
  have l10 := kk1
  refine wp_seq_k fun K15 hK15 => ?_
  refine wp_seq_k fun K16 hK16 => ?_
  refine Qab ?_
  refine Qaa (.int .i64 ((2 * k : Nat) : Int)) 24 rfl kj kj ?_
  have r2_5 := (Qag r2_4 e5)
  have r2_6 := (Puts.row p6 r2_5 (Qav r2_1 l3))
  have r2_7 := (Qag r2_6 e7)
  have r2_8 := (Qag r2_7 e8)
  have r2_9 := (Puts.row p9 r2_8 (Qav r2_7 l12))
  have r2_10 := (QaJ l10 r2_9 (Qa1 r2_6))
  refine Qaa (.slice a_t ts.length c_t) 25 rfl kj (Qah 23 _ g2 0 23 _ (.slice a_t ts.length c_t) _ r2_10 rfl kj kj kj) ?_
  refine Qaa (.int .i64 ((ts.length : Nat) : Int)) 26 rfl kj kj ?_
  refine Qaa (.bool true) 27 rfl kj (Qaj (u := .bool (decide (((2 * k : Nat) : Int) < ((ts.length : Nat) : Int)))) kj (congrArg Value.bool (decide_eq_true (by omega)))) ?_
  refine Qaa (.bool true) 28 rfl kj kj ?_
  refine Qaa (.slice a_t ts.length c_t) 29 rfl kj (Qah 23 _ g2 0 23 _ (.slice a_t ts.length c_t) _ r2_10 rfl kj kj kj) ?_
  refine Qap (.bool false) 12 #[.slice a_t ts.length c_t] 30 rfl kj kj (QjV ts a_t c_t _ _ (TrAt.ext ht xx1) htl hm6 false hc) fun W11 e11 => ?_
  have x11 : Ext w W11 := Ext.tr xx1 e11
  refine Qaa (.bool false) 31 rfl kj kj ?_
  refine Qae ?_
  refine hK16 _ _ ?_
  refine cond_false kj ?_
  refine wp_exit ?_
  refine hK13 _ _ ?_
  refine wp_seq_k fun K17 hK17 => ?_
  refine Qab ?_
  refine Qam (#[.int .i64 0]) 3 7 rfl kj kj fun g18 W12 l18 e12 r18_12 => ?_
  have x12 : Ext w W12 := Ext.tr x11 e12
  have b18 : w.heap.size ≤ g18 := Nat.le_trans x11.size l18
  refine Qaz g18 _ (#[.int .i64 0]) 3 r18_12 rfl kj (Qaw 3 _ _ g18 0 3 _ (.int .i64 0) r18_12 rfl kj kj kj kj kj rfl) fun W13 p13 r18_13 => ?_
  have x13 : Ext w W13 := Puts.ext p13 x12 b18
  refine Qae ?_
  refine hK17 _ _ ?_
  refine wp_seq_k fun K19 hK19 => ?_
  refine wp_seq_k fun K20 hK20 => ?_
  refine Qab ?_
  have r2_11 := (Qag r2_10 e11)
  have r2_12 := (Qag r2_11 e12)
  have r2_13 := (Puts.row p13 r2_12 (Qav r2_11 l18))
  refine Qaa (.slice a_t ts.length c_t) 44 rfl kj (Qah 23 _ g2 0 23 _ (.slice a_t ts.length c_t) _ r2_13 rfl kj kj kj) ?_
  refine Qa8 (fun v W' => (MemR ([] : List NdV) W13) v W' ∧ Ext W13 W') 19 #[.slice a_t ts.length c_t] 45 rfl kj kj ((QeT ts a_t c_t _ _ (TrAt.ext ht x13) htl hm1 (TabAt.ext hT x13) hc).mono (by rintro e w' ⟨v, rfl, e1, hv⟩; exact ⟨v, rfl, hv, e1⟩)) fun vv21 W14 hh21 => ?_
  obtain ⟨hv21, e14⟩ := hh21
  have x14 : Ext w W14 := Ext.tr x13 e14
  obtain ⟨cs, gm1, aM, cM, hasM, rfl, lm1, rm1, hOM⟩ := hv21
  refine Qae ?_
  refine hK20 _ _ ?_
  refine wp_block ?_
  have n7_2 : g2 ≠ g18 := (Qav r2_11 l18)
  have r3_7 := (Qag r3_6 e7)
  have r3_8 := (Qag r3_7 e8)
  have r3_9 := (Puts.row p9 r3_8 (Qav r3_7 l12))
  have r3_10 := (QaJ l10 r3_9 (Qa1 r3_6))
  have r3_11 := (Qag r3_10 e11)
  have n7_3 : g3 ≠ g18 := (Qav r3_11 l18)
  have r4_4 := (Qag r4_3 e4)
  have r4_5 := (Qag r4_4 e5)
  have r4_6 := (Puts.row p6 r4_5 (QbX r3_2 l4))
  have r4_7 := (Qag r4_6 e7)
  have r4_8 := (Qag r4_7 e8)
  have r4_9 := (Puts.row p9 r4_8 (Qav r4_7 l12))
  have r4_10 := (QaJ l10 r4_9 (Qa1 r4_6))
  have r4_11 := (Qag r4_10 e11)
  have n7_4 : g4 ≠ g18 := (Qav r4_11 l18)
  have r12_11 := (Qag q12_1 e11)
  have n7_5 : g12 ≠ g18 := (Qav r12_11 l18)
  have f22_11 := (hu.ext e11)
  have f23_12 := (f22_11.ext e12)
  have f24_13 := (f23_12.puts p13 (Qef f22_11 l18))
  have f25_14 := (f24_13.ext e14)
  have nb7 : Value.ownBlock u ≠ some g18 := (Qef f22_11 l18)
  have hkf : Qau ts k = (Qau ts 0) := by rw [hk]
  have hw0 := OwnN.rd f25_14
  rw [hkf] at hw0
  obtain ⟨aw, cw, hvw, -⟩ := id hw0
  subst hvw
  have r2_14 := (Qag r2_13 e14)
  have r3_12 := (Qag r3_11 e12)
  have r3_13 := (Puts.row p13 r3_12 (Qav r3_11 l18))
  have r3_14 := (Qag r3_13 e14)
  have r4_12 := (Qag r4_11 e12)
  have r4_13 := (Puts.row p13 r4_12 (Qav r4_11 l18))
  have r4_14 := (Qag r4_13 e14)
  have r12_12 := (Qag r12_11 e12)
  have r12_13 := (Puts.row p13 r12_12 (Qav r12_11 l18))
  have r12_14 := (Qag r12_13 e14)
  have r18_14 := (Qag r18_13 e14)
  have htM : TrAt W14.heap.size W14 aM cs := hOM.tr
  have hav : AvT (fun g => g ∉ [g18]) aM cs := (QdR hOM).mono fun g hg hm => by have h9 := Qa1 r18_13; rw [List.mem_singleton.1 hm] at hg; omega
  have hn1 : gm1 ∉ [g18] := Qc7 (Nat.ne_of_gt (Nat.lt_of_lt_of_le (Qa1 r18_13) lm1)) Qco
  have hLc : leaves ((cs.length : Nat) : Int) = ((0 : Nat) : Int) := by rw [hasM.1]; rfl
  have hUc : Qau cs 0 = (Qau ts 0) := rfl
  have hcl : cs.length = 0 := hasM.1
  refine Qcb (gf := 66) (lb := #[.pointer (some ⟨gm1, 0, none⟩)]) (enc := fun z : Nat => .int .i64 ((z : Nat) : Int)) (enc2 := fun z : Nat => .agg (cat (ndP (nod cs z)))) kj (enters_of Tryd.func66 kj rfl) (Qcp 2 [g18] gm1 cs aM cM W14.heap.size W14 htM (by omega) 0 hLc (by omega) (by omega) rm1 hn1 hav) (fun h k => QaL.trans h k) QaL.book (Below.refl _ _)
    (fun pre W => ((W.heap[g2]? = some (.cells (#[.slice a_t ts.length c_t]) 23)) ∧ (W.heap[g3]? = some (.cells (#[.int .i64 (((mo : Nat) : Int))]) 3)) ∧ (W.heap[g4]? = some (.cells (#[.bool false]) 4)) ∧ (W.heap[g12]? = some (.cells (#[.slice aw (wl (Qau ts 0)).length cw]) 36)) ∧ (W.heap[g18]? = some (.cells (#[.int .i64 ((pre.length : Nat) : Int)]) 3)) ∧ (RdK .i64 W14.heap.size (wl (Qau ts 0)) (.slice aw (wl (Qau ts 0)).length cw) W) ∧ QaL [g18] W14 W) ∧ pre.length < mo ∧ Ext w W)
    (fun c pre W => ((c = .exit 2 ∧ (W.heap[g2]? = some (.cells (#[.slice a_t ts.length c_t]) 23)) ∧ (W.heap[g3]? = some (.cells (#[.int .i64 (((mo : Nat) : Int))]) 3)) ∧ (W.heap[g4]? = some (.cells (#[.bool false]) 4)) ∧ (W.heap[g12]? = some (.cells (#[.slice aw (wl (Qau ts 0)).length cw]) 36)) ∧ (W.heap[g18]? = some (.cells (#[.int .i64 ((pre.length : Nat) : Int)]) 3)) ∧ (RdK .i64 W14.heap.size (wl (Qau ts 0)) (.slice aw (wl (Qau ts 0)).length cw) W) ∧ pre.length = mo) ∨ (c = .ret ∧ ∃ q z, pre = q ++ [z] ∧ (Qau ts 0)[q.length]? ≠ some z)) ∧ Ext w W) (OwnFrom.and (Own.from (fun s A B row hs hg hr => ⟨Qa5 hs.1 hg hr, Qa5 hs.2.1 hg hr, Qa5 hs.2.2.1 hg hr, Qa5 hs.2.2.2.1 hg hr, Qa5 hs.2.2.2.2.1 hg hr, QbV hs.2.2.2.2.2.1 hg hr, QcC hs.2.2.2.2.2.2 hg hr⟩) _) (OwnFrom.and (Own.from (fun _ _ _ _ hs _ _ => hs) _) (ownFrom_below (Nat.le_refl _) x14.size))) (fun c => OwnFrom.and (Own.from (fun s A B row hs hg hr => by rcases hs with ⟨e, h2, h3, h4, h5, h7, h8, h9⟩ | hs; exact .inl ⟨e, Qa5 h2 hg hr, Qa5 h3 hg hr, Qa5 h4 hg hr, Qa5 h5 hg hr, Qa5 h7 hg hr, QbV h8 hg hr, h9⟩; exact .inr hs) _) (ownFrom_below (Nat.le_refl _) x14.size)) ⟨⟨r2_14, r3_14, r4_14, r12_14, r18_14, RdK.here hw0, QaL.refl _ _⟩, (by show 0 < mo; omega), x14⟩ (fun e => QaL.ext e) (fun pre A B h e => ⟨⟨Qag h.1.1 e, Qag h.1.2.1 e, Qag h.1.2.2.1 e, Qag h.1.2.2.2.1 e, Qag h.1.2.2.2.2.1 e, RdK.ext h.1.2.2.2.2.2.1 e, QaL.trans h.1.2.2.2.2.2.2 (QaL.ext e)⟩, h.2.1, Rely.Ext.trans h.2.2 e⟩) (fun pre W h => h.1.2.2.2.2.2.2.1) (fun z g => [(9, .pointer (some ⟨g, 0, none⟩)), (8, .int .i64 ((z : Nat) : Int)), (47, .agg (cat [#[.bool (nod cs z).n.us], #[.int .i64 ((nod cs z).n.nm)], ints .u8 ((nod cs z).n.key), ints .u8 ((nod cs z).n.sg), ints .u8 ((nod cs z).n.pa), #[.slice ((nod cs z).a) ((nod cs z).n.ms.length) ((nod cs z).c)]])), (46, .int .i64 ((z : Nat) : Int))]) (fun z => (cat [#[.bool (nod cs z).n.us], #[.int .i64 ((nod cs z).n.nm)], ints .u8 ((nod cs z).n.key), ints .u8 ((nod cs z).n.sg), ints .u8 ((nod cs z).n.pa), #[.slice ((nod cs z).a) ((nod cs z).n.ms.length) ((nod cs z).c)]])) 41 (fun l z W K hK => ?_) (fun l pre z gP Wr hgP hI rP hp => ?_) (fun D ys W lD hS hI rD => ?_) (fun D c pre W lD hSp hIx rD => ?_)
  ·skip
   refine wpIn_seq_k fun K301 hK301 => ?_
   refine Qa0 ?_
   refine Qa7 (.int .i64 ((z : Nat) : Int)) 8 rfl (Qal l 1 _) rfl kj kj ?_
   refine QaM ?_
   refine hK301 _ _ ?_
   refine Qa0 ?_
   refine Qd4 (cat [#[.bool false], #[.int .i64 0], ints .u8 (List.replicate 32 0), ints .u8 (List.replicate 32 0), ints .u8 (List.replicate 32 0), #[.slice none 0 0]]) 41 9 rfl (Qal l 1 _) rfl kj kj fun g302 W1 l302 e1 r302_1 => ?_
   have x1 : Ext W W1 := Ext.tr (Rely.Ext.refl W) e1
   have b302 : W.heap.size ≤ g302 := Nat.le_trans (Rely.Ext.refl W).size l302
   refine Qbq g302 _ (cat [#[.bool (nod cs z).n.us], #[.int .i64 ((nod cs z).n.nm)], ints .u8 ((nod cs z).n.key), ints .u8 ((nod cs z).n.sg), ints .u8 ((nod cs z).n.pa), #[.slice ((nod cs z).a) ((nod cs z).n.ms.length) ((nod cs z).c)]]) 41 r302_1 rfl (Qal l 1 _) rfl kj (QaF 41 _ _ g302 41 _ _ r302_1 rfl kj kj (isz (n := 99) kj (by rw [Qac, Qac, Qac, Qac, Qac, Qac]; simp only [Array.size_append, cat, ((Qaf _ _).trans (QaY htM z).1.gl), ((Qaf _ _).trans (QaY htM z).1.kl), ((Qaf _ _).trans (QaY htM z).1.pl)]; rfl)) (eqsz (n := 99) (by rw [Qac, Qac, Qac, Qac, Qac, Qac]; simp only [Array.size_append, cat, ((Qaf _ _).trans (List.length_replicate (n := 32)))]; rfl) (by rw [Qac, Qac, Qac, Qac, Qac, Qac]; simp only [Array.size_append, cat, ((Qaf _ _).trans (QaY htM z).1.gl), ((Qaf _ _).trans (QaY htM z).1.kl), ((Qaf _ _).trans (QaY htM z).1.pl)]; rfl)) (Qbo _ (by intro a ha; simp only [List.mem_cons, List.not_mem_nil, or_false] at ha; rcases ha with rfl | rfl | rfl | rfl | rfl | rfl; exact (Qa3 _ rfl); exact (Qa3 _ rfl); exact (Qa4 _ _); exact (Qa4 _ _); exact (Qa4 _ _); exact (Qa3 _ rfl)))) fun W2 p2 r302_2 => ?_
   have x2 : Ext W W2 := Puts.ext p2 x1 b302
   refine QaM ?_
   have y0_1 : Ext W W1 := (Rely.Ext.trans (Rely.Ext.refl W) e1)
   have y0_2 : Ext W W2 := (Puts.ext p2 y0_1 l302)
   exact hK _ _ l302 y0_2 r302_2
  ·skip
   obtain ⟨⟨q2, q3, q4, q5, q7, hw, hkc⟩, hpm, xx⟩ := hI
   have hp32 : pre.length < 32 := hp
   have htr := TrAt.keepC htM hkc hav
   obtain ⟨okz, rdz⟩ := QaY htr z
   have hl1 : (pre ++ [z]).length = pre.length + 1 := by simp
   refine wpIn_block ?_
   refine wpIn_seq_k fun K507 hK507 => ?_
   refine wpIn_seq_k fun K508 hK508 => ?_
   have hwll : (wl (Qau ts 0)).length = (Qau ts 0).length := QbT _
   skip
   ·skip
    have hq : (Qau ts 0).length ≤ pre.length := Nat.zero_le _
    have hbad : (Qau ts 0)[pre.length]? ≠ some z := by rw [List.getElem?_eq_none (by omega)]; simp
    refine Qb6 19 [⟨none, [(7, none)]⟩, ⟨none, [(5, none)]⟩, ⟨none, [(49, some 1)]⟩, ⟨none, [(48, some 0), (50, some 2)]⟩, ⟨none, [(51, some 3)]⟩, ⟨some (52, false), [(8, none), (52, some 4)]⟩, ⟨some (52, false), [(5, none), (52, some 4)]⟩, ⟨some (52, false), [(7, none), (52, some 4)]⟩, ⟨some (52, false), [(54, some 6), (55, some 7), (52, some 4)]⟩, ⟨some (52, false), [(56, some 8), (52, some 4)]⟩, ⟨some (52, false), [(53, some 5), (57, some 9), (52, some 4)]⟩, ⟨none, [(52, some 4), (58, some 10)]⟩, ⟨none, [(59, some 11)]⟩, ⟨some (60, false), [(9, none), (60, some 12)]⟩, ⟨some (60, false), [(2, none), (60, some 12)]⟩, ⟨some (60, false), [(8, none), (60, some 12)]⟩, ⟨some (60, false), [(63, some 15), (60, some 12)]⟩, ⟨some (60, false), [(62, some 14), (64, some 16), (60, some 12)]⟩, ⟨some (60, false), [(65, some 17), (60, some 12)]⟩] (Qal l 1 _) rfl kj kj fun F hF => ?_
    refine QaH (Qaq _) (.int .i64 ((pre.length : Nat) : Int)) kj kj (fun W hR => (Qah 3 _ g18 0 3 _ (.int .i64 ((pre.length : Nat) : Int)) _ (Qag (Qag q7 (Qat _)) hR) rfl kj kj kj)) ?_
    refine QaH (Qaq _) (.slice aw ((wl (Qau ts 0)).length) cw) kj kj (fun W hR => (Qah 36 _ g12 0 36 _ (.slice aw ((wl (Qau ts 0)).length) cw) _ (Qag (Qag q5 (Qat _)) hR) rfl kj kj kj)) ?_
    refine QaB (Qaq _) (.int .i64 (((wl (Qau ts 0)).length : Nat) : Int)) kj kj (fun W => by kernel_rfl) ?_
    refine QaB (Qaq _) (.bool true) kj kj (fun W => (Qaj (u := .bool (decide (((pre.length : Nat) : Int) ≥ (((wl (Qau ts 0)).length : Nat) : Int)))) kj (congrArg Value.bool (decide_eq_true (by rw [QbT]; omega))))) ?_
    refine QaB (Qaq _) (.bool true) kj kj (fun W => by kernel_rfl) ?_
    refine QaD kj kj ?_
    refine QaD kj kj ?_
    refine QaD kj kj ?_
    refine QaD kj kj ?_
    refine QaD kj kj ?_
    refine QaD kj kj ?_
    refine QaB (Qaq _) (.bool true) kj kj (fun W => by kernel_rfl) ?_
    refine QaB (Qaq _) (.bool true) kj kj (fun W => by kernel_rfl) ?_
    refine QaD kj kj ?_
    refine QaD kj kj ?_
    refine QaD kj kj ?_
    refine QaD kj kj ?_
    refine QaD kj kj ?_
    refine QaD kj kj ?_
    refine Qcr (hF _ fun W1 e1 => ?_)
    simp only [List.nil_append, List.cons_append, List.take_succ_cons, List.take_zero, List.drop_succ_cons, List.drop_zero, finE, up]
    clear hF
    have x1 : Ext w W1 := Ext.tr xx e1
    refine QbS 67 rfl (Qal l 1 _) rfl kj ?_
    refine QbS 68 rfl (Qal l 1 _) rfl kj ?_
    refine Qa7 (.bool true) 69 rfl (Qal l 1 _) rfl kj kj ?_
    refine QaM ?_
    refine hK508 _ _ ?_
    refine QbQ kj ?_
    refine wpIn_seq_k fun K509 hK509 => ?_
    refine Qa0 ?_
    have r503_1 := (Qag q4 e1)
    refine Qbq g4 _ (#[.bool false]) 4 r503_1 rfl (Qal l 1 _) rfl kj (Qaw 4 _ _ g4 0 4 _ (.bool false) r503_1 rfl kj kj kj kj kj rfl) fun W2 p2 r503_2 => ?_
    have x2 : Ext w W2 := Puts.ext p2 x1 b4
    refine QaM ?_
    refine hK509 _ _ ?_
    refine wpIn_ret ?_
    repeat (first | with_reducible refine goR1 ?_ | with_reducible refine goR2 ?_)
    exact ⟨((QaV e1).trans (QaZ p2 r503_1)), .inr ⟨rfl, pre, z, rfl, hbad⟩, x2⟩
  ·obtain ⟨⟨q2, q3, q4, q5, q7, hw, -⟩, hpm, xx⟩ := hI
   subst hS
   have bD : w.heap.size ≤ D := Nat.le_trans x14.size lD
   have hcn : (Qau cs 0).length = (wl (Qau ts 0)).length := by rw [QbT, hUc]
   obtain ⟨NC, hNC⟩ : ∃ z, z = (Qau cs 0).length := ⟨_, rfl⟩
   rw [← hNC] at q7 hpm hcn
   have hmn : NC = mo ∧ mo ≤ (wl (Qau ts 0)).length ∨ NC = (wl (Qau ts 0)).length ∧ NC < mo := .inr ⟨hcn, hpm⟩
   refine hK19 _ _ ?_
   refine wp_seq_k fun K27 hK27 => ?_
   refine Qab ?_
   refine Qaa (.slice a_t ts.length c_t) 75 rfl kj (Qah 23 _ g2 0 23 _ (.slice a_t ts.length c_t) _ q2 rfl kj kj kj) ?_
   refine Qa8 (fun v W' => (fun v W9 => ∃ us, AsC us ts ∧ OwT W.heap.size us v W9) v W' ∧ Ext W W') 21 #[.slice a_t ts.length c_t] 76 rfl kj kj ((Qf6 ts a_t _ _ _ (TrAt.ext ht xx) htl hm1).mono (by rintro e w' ⟨v, rfl, e1, hv⟩; exact ⟨v, rfl, hv, e1⟩)) fun vv28 W16 hh28 => ?_
   obtain ⟨hv28, e16⟩ := hh28
   have x16 : Ext w W16 := Ext.tr xx e16
   obtain ⟨ds, hasD, hOD⟩ := hv28
   obtain ⟨aD, cD, hvD⟩ := hOD.slice
   subst hvD
   have htD := hOD.tr
   refine Qaa (.slice aD ds.length cD) 10 rfl kj kj ?_
   refine Qae ?_
   refine hK27 _ _ ?_
   refine wp_seq_k fun K29 hK29 => ?_
   refine Qab ?_
   have r2_16 := (Qag q2 e16)
   refine Qaa (.slice a_t ts.length c_t) 77 rfl kj (Qah 23 _ g2 0 23 _ (.slice a_t ts.length c_t) _ r2_16 rfl kj kj kj) ?_
   refine Qa8 (fun v W' => (fun v W => ∃ us, AsC us ts ∧ OwT W16.heap.size us v W ∧ ∃ g, v = .slice (some ⟨g, 0, none⟩) ts.length ts.length) v W' ∧ Ext W16 W') 16 #[.slice a_t ts.length c_t] 78 rfl kj kj ((Qe7 ts a_t _ _ _ (TrAt.ext ht x16) htl hm1).mono (by rintro e w' ⟨v, rfl, e1, hv⟩; exact ⟨v, rfl, hv, e1⟩)) fun vv30 W17 hh30 => ?_
   obtain ⟨hv30, e17⟩ := hh30
   have x17 : Ext w W17 := Ext.tr x16 e17
   obtain ⟨us, has, hU, gO, rfl⟩ := hv30
   obtain ⟨lgO, cuO, rO17⟩ := hU.rowBlock (g := gO) rfl
   have bgO : w.heap.size ≤ gO := Nat.le_trans x16.size lgO
   refine Qaa (.slice (some ⟨gO, 0, none⟩) ts.length ts.length) 11 rfl kj kj ?_
   refine Qae ?_
   refine hK29 _ _ ?_
   refine wp_seq_k fun K32 hK32 => ?_
   refine wp_seq_k fun K33 hK33 => ?_
   refine Qab ?_
   refine Qaa (.slice (some ⟨gO, 0, none⟩) ts.length ts.length) 79 rfl kj kj ?_
   refine Qaa (.int .i64 ((ts.length : Nat) : Int)) 80 rfl kj kj ?_
   refine Qaa (.int .i64 0) 81 rfl kj kj ?_
   refine Qae ?_
   refine hK33 _ _ ?_
   refine wp_block ?_
   refine Qa9 (fun (s2 : Nat × List NdV) => [(2, .pointer (some ⟨g2, 0, none⟩)), (3, .pointer (some ⟨g3, 0, none⟩)), (4, .pointer (some ⟨g4, 0, none⟩)), (5, .pointer (some ⟨g12, 0, none⟩)), (7, .pointer (some ⟨g18, 0, none⟩)), (10, .slice aD ds.length cD), (11, .slice (some ⟨gO, 0, none⟩) ts.length ts.length), (80, .int .i64 ((ts.length : Nat) : Int)), (81, .int .i64 ((s2.1 : Nat) : Int))]) (fun (s2 : Nat × List NdV) W => (s2.1 ≤ ts.length) ∧ (s2.2.length = ts.length) ∧ (OwT W16.heap.size s2.2 (.slice (some ⟨gO, 0, none⟩) ts.length ts.length) W) ∧ (Below W16.heap.size W17 W) ∧ (Ext w W)) (fun (s2 : Nat × List NdV) => ts.length - s2.1) (0, us) ⟨rfl, rfl, rfl, rfl, rfl, rfl, rfl, rfl, rfl, trivial⟩ ⟨(Nat.zero_le _), has.1, (OwH.ext hU (Rely.Ext.refl W17)), (RowKit.Below.refl _ W17), x17⟩ fun s2 X2 V2 hI2 => ?_
   obtain ⟨i, vs⟩ := s2
   obtain ⟨hi, hvl, hV, kk2, xx2⟩ := hI2
   replace hi : i ≤ ts.length := hi
   replace hvl : vs.length = ts.length := hvl
   replace hV : OwT W16.heap.size vs (.slice (some ⟨gO, 0, none⟩) ts.length ts.length) V2 := hV
   replace kk2 : Below W16.heap.size W17 V2 := kk2
   replace xx2 : Ext w V2 := xx2
   have l18 := kk2
   refine wp_seq_k fun K34 hK34 => ?_
   refine Qab ?_
   refine Qaa (.bool (decide (((i : Nat) : Int) < ((ts.length : Nat) : Int)))) 82 rfl kj kj ?_
   refine Qae ?_
   refine hK34 _ _ ?_
   refine wp_seq_k fun K35 hK35 => ?_
   refine Qax (t := decide (((i : Nat) : Int) < ((ts.length : Nat) : Int))) kj (fun c36 => ?_) (fun c36 => ?_)
   ·skip
    have hlt82 : i < ts.length := by have := of_decide_eq_true c36; omega
    refine wp_skip ?_
    refine hK35 _ _ ?_
    refine wp_seq_k fun K37 hK37 => ?_
    refine wp_block ?_
    refine wp_seq_k fun K38 hK38 => ?_
    refine Qab ?_
    refine Qaa (.int .i64 ((i : Nat) : Int)) 83 rfl kj kj ?_
    refine Qaa (.int .i64 ((i : Nat) : Int)) 12 rfl kj kj ?_
    refine Qae ?_
    refine hK38 _ _ ?_
    refine wp_seq_k fun K39 hK39 => ?_
    refine Qab ?_
    refine Qaa (.slice (some ⟨gO, 0, none⟩) ts.length ts.length) 84 rfl kj kj ?_
    refine Qaa (.int .i64 ((i : Nat) : Int)) 85 rfl kj kj ?_
    refine Qaa (.pointer (some ⟨gO, 0 + i * 99, none⟩)) 86 rfl kj (Qa6 23 _ _ .i64 i gO 0 ts.length ts.length 41 99 rfl kj kj kj kj (by omega)) ?_
    refine Qaa (.pointer (some ⟨gO, 0 + i * 99 + 1, none⟩)) 87 rfl kj kj ?_
    refine Qaa (.int .i64 (ndi vs i).n.nm) 88 rfl kj (Qai 3 _ _ (.int .i64 (ndi vs i).n.nm) (NdAt.at3 (OwH.node hvl hV (by omega))).2.1 rfl kj kj) ?_
    refine Qaa (.int .i64 (IntKind.i64.wrap ((ndi vs i).n.nm + 1))) 89 rfl kj kj ?_
    refine Qaa (.pointer (some ⟨gO, 0 + i * 99, none⟩)) 90 rfl kj (Qa6 23 _ _ .i64 i gO 0 ts.length ts.length 41 99 rfl kj kj kj kj (by omega)) ?_
    refine Qaa (.pointer (some ⟨gO, 0 + i * 99 + 1, none⟩)) 91 rfl kj kj ?_
    refine QcI (i := i) (v := (IntKind.i64.wrap ((ndi vs i).n.nm + 1))) 3 _ _ hvl hV (by omega) rfl kj kj kj rfl kj fun W19 p19 hV2 => ?_
    obtain ⟨vs2, hvs2⟩ : ∃ z, z = nmS vs i (IntKind.i64.wrap ((ndi vs i).n.nm + 1)) := ⟨_, rfl⟩
    rw [← hvs2] at hV2
    have hvl2 : vs2.length = ts.length := by rw [hvs2, Qe0]; exact hvl
    have x19 : Ext w W19 := Puts.ext p19 xx2 bgO
    refine Qae ?_
    refine hK39 _ _ ?_
    refine wp_seq_k fun K40 hK40 => ?_
    refine Qab ?_
    refine Qaa (.slice (some ⟨gO, 0, none⟩) ts.length ts.length) 92 rfl kj kj ?_
    refine Qaa (.int .i64 ((i : Nat) : Int)) 93 rfl kj kj ?_
    refine Qaa (.pointer (some ⟨gO, 0 + i * 99, none⟩)) 94 rfl kj (Qa6 23 _ _ .i64 i gO 0 ts.length ts.length 41 99 rfl kj kj kj kj (by omega)) ?_
    refine Qaa (.pointer (some ⟨gO, 0 + i * 99 + 98, none⟩)) 95 rfl kj kj ?_
    obtain ⟨nt, ent⟩ : ∃ z, z = ndi vs2 i := ⟨_, rfl⟩
    have hnt : NdAt _ _ gO (0 + i * 99) nt := ent ▸ OwH.node hvl2 hV2 (by omega)
    have hntm : nt.n.ms.length ≤ 1000 := ent ▸ (hV2.nd i (by omega) (by simp)).2.1
    refine Qaa (.slice nt.a nt.n.ms.length nt.c) 96 rfl kj (Qai 36 _ _ (.slice nt.a nt.n.ms.length nt.c) (NdAt.at3 hnt).2.2 rfl kj kj) ?_
    refine Qaa (.int .i64 ((nt.n.ms.length : Nat) : Int)) 97 rfl kj kj ?_
    refine Qaa (.int .i64 0) 98 rfl kj kj ?_
    refine Qae ?_
    refine hK40 _ _ ?_
    refine wp_block ?_
    refine Qa9 (fun (s3 : Nat × List NdV) => [(2, .pointer (some ⟨g2, 0, none⟩)), (3, .pointer (some ⟨g3, 0, none⟩)), (4, .pointer (some ⟨g4, 0, none⟩)), (5, .pointer (some ⟨g12, 0, none⟩)), (7, .pointer (some ⟨g18, 0, none⟩)), (10, .slice aD ds.length cD), (11, .slice (some ⟨gO, 0, none⟩) ts.length ts.length), (12, .int .i64 ((i : Nat) : Int)), (80, .int .i64 ((ts.length : Nat) : Int)), (81, .int .i64 ((i : Nat) : Int)), (97, .int .i64 ((nt.n.ms.length : Nat) : Int)), (98, .int .i64 ((s3.1 : Nat) : Int))]) (fun (s3 : Nat × List NdV) W => (s3.1 ≤ nt.n.ms.length) ∧ (s3.2.length = ts.length) ∧ ((ndi s3.2 i).n.ms.length = nt.n.ms.length) ∧ (OwT W16.heap.size s3.2 (.slice (some ⟨gO, 0, none⟩) ts.length ts.length) W) ∧ (Below W16.heap.size W19 W) ∧ (Ext w W)) (fun (s3 : Nat × List NdV) => nt.n.ms.length - s3.1) (0, vs2) ⟨rfl, rfl, rfl, rfl, rfl, rfl, rfl, rfl, rfl, rfl, rfl, rfl, trivial⟩ ⟨(Nat.zero_le _), hvl2, (by rw [ent]), hV2, (RowKit.Below.refl _ W19), x19⟩ fun s3 X3 V3 hI3 => ?_
    obtain ⟨j, ws⟩ := s3
    obtain ⟨hj, hwl, hwm, hW, kk3, xx3⟩ := hI3
    replace hj : j ≤ nt.n.ms.length := hj
    replace hwl : ws.length = ts.length := hwl
    replace hwm : (ndi ws i).n.ms.length = nt.n.ms.length := hwm
    replace hW : OwT W16.heap.size ws (.slice (some ⟨gO, 0, none⟩) ts.length ts.length) V3 := hW
    replace kk3 : Below W16.heap.size W19 V3 := kk3
    replace xx3 : Ext w V3 := xx3
    have l20 := kk3
    refine wp_seq_k fun K41 hK41 => ?_
    refine Qab ?_
    refine Qaa (.bool (decide (((j : Nat) : Int) < ((nt.n.ms.length : Nat) : Int)))) 99 rfl kj kj ?_
    refine Qae ?_
    refine hK41 _ _ ?_
    refine wp_seq_k fun K42 hK42 => ?_
    refine Qax (t := decide (((j : Nat) : Int) < ((nt.n.ms.length : Nat) : Int))) kj (fun c43 => ?_) (fun c43 => ?_)
    ·skip
     have hlt99 : j < nt.n.ms.length := by have := of_decide_eq_true c43; omega
     refine wp_skip ?_
     refine hK42 _ _ ?_
     refine wp_seq_k fun K44 hK44 => ?_
     refine wp_block ?_
     refine wp_seq_k fun K45 hK45 => ?_
     refine Qab ?_
     refine Qaa (.int .i64 ((j : Nat) : Int)) 100 rfl kj kj ?_
     refine Qaa (.int .i64 ((j : Nat) : Int)) 13 rfl kj kj ?_
     refine Qae ?_
     refine hK45 _ _ ?_
     refine Qab ?_
     refine Qaa (.slice (some ⟨gO, 0, none⟩) ts.length ts.length) 101 rfl kj kj ?_
     refine Qaa (.int .i64 ((i : Nat) : Int)) 102 rfl kj kj ?_
     refine Qaa (.pointer (some ⟨gO, 0 + i * 99, none⟩)) 103 rfl kj (Qa6 23 _ _ .i64 i gO 0 ts.length ts.length 41 99 rfl kj kj kj kj (by omega)) ?_
     refine Qaa (.pointer (some ⟨gO, 0 + i * 99 + 98, none⟩)) 104 rfl kj kj ?_
     obtain ⟨mt, emt⟩ : ∃ z, z = ndi ws i := ⟨_, rfl⟩
     have hmt0 : NdAt _ _ gO (0 + i * 99) mt := emt ▸ OwH.node hwl hW (by omega)
     obtain ⟨bL, hba, hbb, hbs, hbc⟩ := OwH.list hwl hW (i := i) (by omega) (by omega)
     have hjm : j < (ndi ws i).n.ms.length := by omega
     have hba2 := hba
     have hbc2 := hbc
     rw [← emt] at hba2 hbc2
     have hjm2 : j < mt.n.ms.length := emt ▸ hjm
     have hbj := hbc2 j hjm2
     refine Qaa (.slice mt.a mt.n.ms.length mt.c) 105 rfl kj (Qai 36 _ _ (.slice mt.a mt.n.ms.length mt.c) (NdAt.at3 hmt0).2.2 rfl kj kj) ?_
     refine Qaa (.int .i64 ((j : Nat) : Int)) 106 rfl kj kj ?_
     refine Qaa (.pointer (some ⟨bL, 0 + j, none⟩)) 107 rfl kj (QaE 36 _ _ .i64 j bL 0 mt.n.ms.length mt.c 3 mt.a _ hba2 rfl rfl kj kj kj kj hjm2) ?_
     refine Qaa (.int .i64 (nth mt.n.ms j)) 108 rfl kj (Qai 3 _ _ (.int .i64 (nth mt.n.ms j)) hbj rfl kj kj) ?_
     refine Qaa (.int .i64 (IntKind.i64.wrap ((nth mt.n.ms j) + 1))) 109 rfl kj kj ?_
     refine Qaa (.pointer (some ⟨bL, 0 + j, none⟩)) 110 rfl kj (QaE 36 _ _ .i64 j bL 0 mt.n.ms.length mt.c 3 mt.a _ hba2 rfl rfl kj kj kj kj hjm2) ?_
     refine QcJ (i := i) (j := j) (v := (IntKind.i64.wrap ((nth mt.n.ms j) + 1))) 3 _ _ hwl hW (by omega) hjm hba rfl kj kj kj rfl kj fun W21 p21 _ _ hW2 => ?_
     have x21 : Ext w W21 := Puts.ext p21 xx3 (Nat.le_trans x16.size hbb)
     refine Qae ?_
     refine hK44 _ _ ?_
     refine Qab ?_
     refine Qaa (.int .i64 ((j + 1 : Nat) : Int)) 111 rfl kj (Qaj (u := .int .i64 (IntKind.i64.wrap (((j : Nat) : Int) + 1))) kj (congrArg (Value.int .i64) (i64n _ _ (by omega) (by omega)))) ?_
     refine Qaa (.int .i64 ((j + 1 : Nat) : Int)) 98 rfl kj kj ?_
     refine Qae ?_
     repeat (first | with_reducible refine goX1 ?_ | with_reducible refine goX2 ?_ | with_reducible refine goX3 ?_)
     exact Qay ((j + 1), (msS ws i j (IntKind.i64.wrap ((nth mt.n.ms j) + 1)))) ⟨rfl, rfl, rfl, rfl, rfl, rfl, rfl, rfl, rfl, rfl, rfl, rfl, trivial⟩ ⟨(by omega), (by rw [Qe1]; exact hwl), (by rw [QfB _ _ _ _ (by omega)]; exact hwm), hW2, (Qbf p21 l20 hbb), x21⟩ (by show nt.n.ms.length - (j + 1) < nt.n.ms.length - j; omega)
    ·skip
     have heq99 : j = nt.n.ms.length := by have := of_decide_eq_false c43; omega
     refine wp_exit ?_
     refine hK37 _ _ ?_
     refine Qab ?_
     refine Qaa (.int .i64 ((i + 1 : Nat) : Int)) 112 rfl kj (Qaj (u := .int .i64 (IntKind.i64.wrap (((i : Nat) : Int) + 1))) kj (congrArg (Value.int .i64) (i64n _ _ (by omega) (by omega)))) ?_
     refine Qaa (.int .i64 ((i + 1 : Nat) : Int)) 81 rfl kj kj ?_
     refine Qae ?_
     repeat (first | with_reducible refine goX1 ?_ | with_reducible refine goX2 ?_ | with_reducible refine goX3 ?_)
     exact Qay ((i + 1), ws) ⟨rfl, rfl, rfl, rfl, rfl, rfl, rfl, rfl, rfl, trivial⟩ ⟨(by omega), hwl, hW, (RowKit.Below.trans (Qbf p19 l18 lgO) l20), xx3⟩ (by show ts.length - (i + 1) < ts.length - i; omega)
   ·skip
    have heq82 : i = ts.length := by have := of_decide_eq_false c36; omega
    refine wp_exit ?_
    refine hK32 _ _ ?_
    refine wp_seq_k fun K47 hK47 => ?_
    refine Qab ?_
    have r18_16 := (Qag q7 e16)
    have r18_17 := (Qag r18_16 e17)
    have r18_18 := (QaJ l18 r18_17 (Qa1 r18_16))
    refine Qaa (.int .i64 ((NC : Nat) : Int)) 113 rfl kj (Qah 3 _ g18 0 3 _ (.int .i64 ((NC : Nat) : Int)) _ r18_18 rfl kj kj kj) ?_
    have r3_16 := (Qag q3 e16)
    have r3_17 := (Qag r3_16 e17)
    have r3_18 := (QaJ l18 r3_17 (Qa1 r3_16))
    refine Qaa (.int .i64 ((mo : Nat) : Int)) 114 rfl kj (Qah 3 _ g3 0 3 _ (.int .i64 ((mo : Nat) : Int)) _ r3_18 rfl kj kj kj) ?_
    have r12_16 := (Qag q5 e16)
    have r12_17 := (Qag r12_16 e17)
    have r12_18 := (QaJ l18 r12_17 (Qa1 r12_16))
    refine Qaa (.slice aw (wl (Qau ts 0)).length cw) 115 rfl kj (Qah 36 _ g12 0 36 _ (.slice aw (wl (Qau ts 0)).length cw) _ r12_18 rfl kj kj kj) ?_
    refine Qaa (.int .i64 (((wl (Qau ts 0)).length : Nat) : Int)) 116 rfl kj kj ?_
    refine Qaa (.int .i64 ((NC : Nat) : Int)) 117 rfl kj (Qdz #[3, 3] (.tmp 114) (.tmp 116) .i64 ((mo : Nat) : Int) (((wl (Qau ts 0)).length : Nat) : Int) _ rfl kj kj (by split <;> omega)) ?_
    refine Qaa (.bool true) 118 rfl kj (Qaj (u := .bool ((((NC : Nat) : Int) == ((NC : Nat) : Int)))) kj (congrArg Value.bool (beq_self_eq_true _))) ?_
    refine Qaa (.bool true) 119 rfl kj kj ?_
    have r2_17 := (Qag r2_16 e17)
    have r2_18 := (QaJ l18 r2_17 (Qa1 r2_16))
    refine Qaa (.slice a_t ts.length c_t) 120 rfl kj (Qah 23 _ g2 0 23 _ (.slice a_t ts.length c_t) _ r2_18 rfl kj kj kj) ?_
    refine Qaa (.slice aD ds.length cD) 121 rfl kj kj ?_
    have y16_17 : Ext W16 W17 := (Rely.Ext.trans (Rely.Ext.refl W16) e17)
    have y16_18 : Ext W16 V2 := (Ext.low y16_17 l18 (Rely.Ext.refl W16).size)
    refine Qap (.bool true) 15 #[.slice a_t ts.length c_t, .slice aD ds.length cD] 122 rfl kj kj (QeA true ts ds a_t aD c_t cD _ _ _ hl6 (by rw [hasD.1]; exact hl6) hm6 (fun i hi => by rw [hasD.all]; exact hm6 i (by rw [← hasD.1]; exact hi)) (TrAt.ext ht xx2) (TrAt.ext htD y16_18) (Qdy hasD.symm)) fun W19 e19 => ?_
    have x19 : Ext w W19 := Ext.tr xx2 e19
    refine Qaa (.bool true) 123 rfl kj kj ?_
    have r4_16 := (Qag q4 e16)
    have r4_17 := (Qag r4_16 e17)
    have r4_18 := (QaJ l18 r4_17 (Qa1 r4_16))
    have r4_19 := (Qag r4_18 e19)
    refine Qaz g4 _ (#[.bool true]) 4 r4_19 rfl kj (Qaw 4 _ _ g4 0 4 _ (.bool true) r4_19 rfl kj kj kj kj kj rfl) fun W20 p20 r4_20 => ?_
    have x20 : Ext w W20 := Puts.ext p20 x19 b4
    refine Qae ?_
    refine hK47 _ _ ?_
    refine wp_ret ?_
    repeat (first | with_reducible refine goR1 ?_ | with_reducible refine goR2 ?_)
    have r26_16 := (Qag rD e16)
    have r26_17 := (Qag r26_16 e17)
    have r26_18 := (QaJ l18 r26_17 (Qa1 r26_16))
    have r26_19 := (Qag r26_18 e19)
    have r26_20 := (Puts.row p20 r26_19 (Qc8 q4 rD))
    exact (show bodyPostM _ _ _ _ _ .ret _ _ from QdV (.bool true) rfl r26_20 (Qbe g4 4 _ (.bool true) (QbH r4_20 r26_20 _) kj kj rfl) ⟨rfl, Qbv x20 bD r26_20 _⟩)
  ·rcases hIx with ⟨⟨rfl, q2, q3, q4, q5, q7, hw, hpm⟩ | ⟨rfl, q, z, rfl, hbad⟩, xx⟩
   ·obtain ⟨k0, hk0, hus0, e0⟩ := hSp
    have hat := Qct hk0 hus0
    rw [hUc] at hat
    exact absurd hk0 (Nat.not_lt_zero _)
   ·obtain ⟨k0, hk0, hus0, e0⟩ := hSp
    have hat := Qct hk0 hus0
    rw [hUc] at hat
    obtain ⟨rfl, e1⟩ := List.append_inj' e0 rfl
    obtain rfl : z = k0 := by simpa using e1
    exact absurd hat hbad
set_option maxRecDepth 100000 in
set_option maxHeartbeats 4000000 in
theorem QjL (ts : List NdV) (a_t : Option Addr) (c_t B1 : Nat) (w : World) (ht : TrAt B1 w a_t ts) (hT : TabAt w) (hs : ∀ i, i < ts.length → i ≤ 70 ∧ (ndi ts i).n.ms.length ≤ 50) (most : Int) (hc : chkT ts = true) : Calls Tryd.prog 4 #[.slice a_t ts.length c_t, .int .i64 most] w (Ret w (.bool true)) := by
 have hl := Qgw hs
 have htl : ts.length ≤ 100000 := by omega
 have hl6 : ts.length ≤ 1000000 := by omega
 have hm6 : ∀ i, i < ts.length → (ndi ts i).n.ms.length ≤ 1000000 := fun i hi => Nat.le_trans (hs i hi).2 (by decide)
 have hm1 : ∀ i, i < ts.length → (ndi ts i).n.ms.length ≤ 1000 := fun i hi => Nat.le_trans (hs i hi).2 (by decide)
 obtain ⟨K, hK, hK2⟩ := Qer most
 obtain ⟨mo, hmo0⟩ : ∃ z, z = 1 + K % 40 := ⟨_, rfl⟩
 obtain ⟨L, hL, hL3, hlen, hTr⟩ := Qjl htl hc
 refine QcS 124 [(0, .slice a_t ts.length c_t), (1, .int .i64 most)] Tryd.func4 rfl rfl kj rfl ?_
 refine wp_seq_k fun K1 hK1 => ?_
 refine Qab ?_
 refine Qam (#[.slice a_t ts.length c_t]) 23 2 rfl kj kj fun g2 W1 l2 e1 r2_1 => ?_
 have x1 : Ext w W1 := Ext.tr (Rely.Ext.refl w) e1
 have b2 : w.heap.size ≤ g2 := Nat.le_trans (Rely.Ext.refl w).size l2
 refine Qam (#[.int .i64 most]) 3 3 rfl kj kj fun g3 W2 l3 e2 r3_2 => ?_
 have x2 : Ext w W2 := Ext.tr x1 e2
 have b3 : w.heap.size ≤ g3 := Nat.le_trans x1.size l3
 refine Qam (#[.bool false]) 4 4 rfl kj kj fun g4 W3 l4 e3 r4_3 => ?_
 have x3 : Ext w W3 := Ext.tr x2 e3
 have b4 : w.heap.size ≤ g4 := Nat.le_trans x2.size l4
 refine Qae ?_
 refine hK1 _ _ ?_
 refine wp_seq_k fun K5 hK5 => ?_
 refine wp_seq_k fun K6 hK6 => ?_
 refine Qab ?_
 refine Qap (.bool true) 9 #[] 14 rfl kj kj (QfR _ (TabAt.ext hT x3)) fun W4 e4 => ?_
 have x4 : Ext w W4 := Ext.tr x3 e4
 refine Qaa (.bool false) 15 rfl kj kj ?_
 refine Qae ?_
 refine hK6 _ _ ?_
 refine cond_false kj ?_
 refine wp_skip ?_
 refine hK5 _ _ ?_
 refine wp_seq_k fun K7 hK7 => ?_
 refine wp_seq_k fun K8 hK8 => ?_
 refine Qab ?_
 have r2_2 := (Qag r2_1 e2)
 have r2_3 := (Qag r2_2 e3)
 have r2_4 := (Qag r2_3 e4)
 refine Qaa (.slice a_t ts.length c_t) 16 rfl kj (Qah 23 _ g2 0 23 _ (.slice a_t ts.length c_t) _ r2_4 rfl kj kj kj) ?_
 refine Qap (.bool false) 10 #[.slice a_t ts.length c_t] 17 rfl kj kj (QdL ts a_t c_t _ _ (TrAt.ext ht x4) hs) fun W5 e5 => ?_
 have x5 : Ext w W5 := Ext.tr x4 e5
 refine Qae ?_
 refine hK8 _ _ ?_
 refine cond_false kj ?_
 refine wp_skip ?_
 refine hK7 _ _ ?_
 refine wp_seq_k fun K9 hK9 => ?_
 refine Qab ?_
 have r3_3 := (Qag r3_2 e3)
 have r3_4 := (Qag r3_3 e4)
 have r3_5 := (Qag r3_4 e5)
 refine Qaa (.int .i64 most) 18 rfl kj (Qah 3 _ g3 0 3 _ (.int .i64 most) _ r3_5 rfl kj kj kj) ?_
 refine Qaa (.int .u64 (((K : Nat) : Int))) 19 rfl kj (Qaj (u := .int .u64 (IntKind.u64.wrap (most))) kj (congrArg (Value.int .u64) hK)) ?_
 refine Qaa (.int .u64 (((K % 40 : Nat) : Int))) 20 rfl kj (Qaj (u := .int .u64 (Int.tmod (((K : Nat) : Int)) (40))) kj (congrArg (Value.int .u64) (QbM _ 40))) ?_
 refine Qaa (.int .i64 (((K % 40 : Nat) : Int))) 21 rfl kj (Qaj (u := .int .i64 (IntKind.i64.wrap (((K % 40 : Nat) : Int)))) kj (congrArg (Value.int .i64) (i64n _ _ rfl (by omega)))) ?_
 refine Qaa (.int .i64 (((mo : Nat) : Int))) 22 rfl kj (Qaj (u := .int .i64 (IntKind.i64.wrap (1 + ((K % 40 : Nat) : Int)))) kj (congrArg (Value.int .i64) (i64n _ _ (by omega) (by omega)))) ?_
 refine Qaz g3 _ (#[.int .i64 (((mo : Nat) : Int))]) 3 r3_5 rfl kj (Qaw 3 _ _ g3 0 3 _ (.int .i64 (((mo : Nat) : Int))) r3_5 rfl kj kj kj kj kj rfl) fun W6 p6 r3_6 => ?_
 have x6 : Ext w W6 := Puts.ext p6 x5 b3
 refine Qae ?_
 refine hK9 _ _ ?_
 refine wp_seq_k fun K10 hK10 => ?_
 skip
 ·skip
  refine Qab ?_
  refine Qby (ints .i64 ([])) 3 0 23 rfl kj kj fun g11 W7 l11 e7 r11_7 => ?_
  have x7 : Ext w W7 := Ext.tr x6 e7
  have b11 : w.heap.size ≤ g11 := Nat.le_trans x6.size l11
  refine Qam (#[.slice none 0 0]) 36 5 rfl kj kj fun g12 W8 l12 e8 r12_8 => ?_
  have x8 : Ext w W8 := Ext.tr x7 e8
  have b12 : w.heap.size ≤ g12 := Nat.le_trans x7.size l12
  refine Qaz g12 _ (#[.slice (some ⟨g11, 0, none⟩) 0 0]) 36 r12_8 rfl kj (Qaw 36 _ _ g12 0 36 _ (.slice (some ⟨g11, 0, none⟩) 0 0) r12_8 rfl kj kj kj kj kj rfl) fun W9 p9 r12_9 => ?_
  have x9 : Ext w W9 := Puts.ext p9 x8 b12
  refine Qae ?_
  refine hK10 _ _ ?_
  refine wp_seq_k fun K13 hK13 => ?_
  refine wp_seq_k fun K14 hK14 => ?_
  refine Qab ?_
  refine Qaa (.int .i64 0) 6 rfl kj kj ?_
  refine Qae ?_
  refine hK14 _ _ ?_
  refine wp_block ?_
  have r11_8 := (Qag r11_7 e8)
  have r11_9 := (Puts.row p9 r11_8 (Qav r11_7 l12))
  refine Qa9 (fun (s1 : Nat × Value) => [(2, .pointer (some ⟨g2, 0, none⟩)), (3, .pointer (some ⟨g3, 0, none⟩)), (4, .pointer (some ⟨g4, 0, none⟩)), (5, .pointer (some ⟨g12, 0, none⟩)), (6, .int .i64 ((2 * s1.1 : Nat) : Int))]) (fun (s1 : Nat × Value) W => (s1.1 ≤ L) ∧ (OwnN .i64 3 W6.heap.size (wl (Qau ts s1.1)) s1.2 W) ∧ (W.heap[g12]? = some (.cells (#[s1.2]) 36)) ∧ (Below W6.heap.size W9 W) ∧ (Ext w W)) (fun (s1 : Nat × Value) => L + 1 - s1.1) (0, (.slice (some ⟨g11, 0, none⟩) 0 0)) ⟨rfl, rfl, rfl, rfl, rfl, trivial⟩ ⟨(Nat.zero_le _), (QcL (xs := []) rfl l11 r11_9 (by decide)), r12_9, (RowKit.Below.refl _ W9), x9⟩ fun s1 X1 V1 hI1 => ?_
  obtain ⟨k, u⟩ := s1
  obtain ⟨hk, hu, q12_1, kk1, xx1⟩ := hI1
  replace hk : k ≤ L := hk
  replace hu : OwnN .i64 3 W6.heap.size (wl (Qau ts k)) u V1 := hu
  replace q12_1 : V1.heap[g12]? = some (.cells (#[u]) 36) := q12_1
  replace kk1 : Below W6.heap.size W9 V1 := kk1
  replace xx1 : Ext w V1 := xx1
  have l10 := kk1
  refine wp_seq_k fun K15 hK15 => ?_
  refine wp_seq_k fun K16 hK16 => ?_
  rcases Nat.lt_or_ge (2 * k) ts.length with hq | hq
  ·skip
   refine Qab ?_
   refine Qaa (.int .i64 ((2 * k : Nat) : Int)) 24 rfl kj kj ?_
   have r2_5 := (Qag r2_4 e5)
   have r2_6 := (Puts.row p6 r2_5 (Qav r2_1 l3))
   have r2_7 := (Qag r2_6 e7)
   have r2_8 := (Qag r2_7 e8)
   have r2_9 := (Puts.row p9 r2_8 (Qav r2_7 l12))
   have r2_10 := (QaJ l10 r2_9 (Qa1 r2_6))
   refine Qaa (.slice a_t ts.length c_t) 25 rfl kj (Qah 23 _ g2 0 23 _ (.slice a_t ts.length c_t) _ r2_10 rfl kj kj kj) ?_
   refine Qaa (.int .i64 ((ts.length : Nat) : Int)) 26 rfl kj kj ?_
   refine Qaa (.bool true) 27 rfl kj (Qaj (u := .bool (decide (((2 * k : Nat) : Int) < ((ts.length : Nat) : Int)))) kj (congrArg Value.bool (decide_eq_true (by omega)))) ?_
   refine Qaa (.bool true) 28 rfl kj kj ?_
   refine Qaa (.slice a_t ts.length c_t) 29 rfl kj (Qah 23 _ g2 0 23 _ (.slice a_t ts.length c_t) _ r2_10 rfl kj kj kj) ?_
   refine Qap (.bool true) 12 #[.slice a_t ts.length c_t] 30 rfl kj kj (QjV ts a_t c_t _ _ (TrAt.ext ht xx1) htl hm6 true hc) fun W11 e11 => ?_
   have x11 : Ext w W11 := Ext.tr xx1 e11
   refine Qaa (.bool true) 31 rfl kj kj ?_
   refine Qae ?_
   refine hK16 _ _ ?_
   refine cond_true kj ?_
   refine wp_skip ?_
   refine hK15 _ _ ?_
   refine wp_seq_k fun K17 hK17 => ?_
   refine wp_block ?_
   refine wp_seq_k fun K18 hK18 => ?_
   obtain ⟨gyT, oyT, hay, hnys⟩ := TrAt.ext ht x11
   have hny := hnys (2 * k) (by omega)
   obtain ⟨ny, eny⟩ : ∃ z, z = ndi ts (2 * k) := ⟨_, rfl⟩
   rw [← eny] at hny
   have oky := hny.ok
   have rdy := hny.rd
   rcases (show ny.n.us = true ∨ ny.n.us = false from by cases ny.n.us; exact .inr rfl; exact .inl rfl) with hqu | hqu
   ·skip
    refine Qab ?_
    have r2_11 := (Qag r2_10 e11)
    refine Qaa (.slice a_t ts.length c_t) 34 rfl kj (Qah 23 _ g2 0 23 _ (.slice a_t ts.length c_t) _ r2_11 rfl kj kj kj) ?_
    refine Qaa (.int .i64 ((2 * k : Nat) : Int)) 35 rfl kj kj ?_
    refine Qaa (.pointer (some ⟨gyT, oyT + (2 * k) * 99, none⟩)) 36 rfl kj (Qan 23 _ _ .i64 (2 * k) gyT oyT ts.length c_t 41 99 a_t (hay (by omega)) rfl kj kj kj kj (by omega)) ?_
    refine Qaa (.pointer (some ⟨gyT, oyT + (2 * k) * 99, none⟩)) 37 rfl kj kj ?_
    refine Qaa (.bool true) 38 rfl kj (Qai 4 _ _ (.bool true) ((NdAt.at3 hny).1.trans (congrArg (fun z => some (Value.bool z)) hqu)) rfl kj kj) ?_
    refine Qae ?_
    refine hK18 _ _ ?_
    refine cond_true kj ?_
    refine Qab ?_
    have r12_11 := (Qag q12_1 e11)
    refine Qaa (u) 39 rfl kj (Qah 36 _ g12 0 36 _ (u) _ r12_11 rfl kj kj kj) ?_
    refine Qaa (.int .i64 ((2 * k : Nat) : Int)) 40 rfl kj kj ?_
    refine Qaa (.int .i64 (((k : Nat) : Int))) 41 rfl kj (Qaj (u := .int .i64 (IntKind.i64.wrap (Int.tdiv (((2 * k : Nat) : Int)) (2)))) kj (congrArg (Value.int .i64) ((QdN (2 * k) 2 (by omega)).trans (by omega)))) ?_
    refine Qby (ints .i64 ([(((k : Nat) : Int))])) 3 1 42 rfl kj kj fun g19 W12 l19 e12 r19_12 => ?_
    have x12 : Ext w W12 := Ext.tr x11 e12
    have b19 : w.heap.size ≤ g19 := Nat.le_trans x11.size l19
    have r12_12 := (Qag r12_11 e12)
    have f20_11 := (hu.ext e11)
    have f21_12 := (f20_11.ext e12)
    have y6_7 : Ext W6 W7 := (Rely.Ext.trans (Rely.Ext.refl W6) e7)
    have y6_8 : Ext W6 W8 := (Rely.Ext.trans y6_7 e8)
    have y6_9 : Ext W6 W9 := (Puts.ext p9 y6_8 (Nat.le_trans y6_7.size l12))
    have y6_10 : Ext W6 V1 := (Ext.low y6_9 l10 (Rely.Ext.refl W6).size)
    have y6_11 : Ext W6 W11 := (Rely.Ext.trans y6_10 e11)
    have y6_12 : Ext W6 W12 := (Rely.Ext.trans y6_11 e12)
    refine Qfh (k := .i64) (T := 3) (xs := wl (Qau ts k)) (ys := [((k : Nat) : Int)]) (V := W6) 8 (.tmp 39) (.tmp 42) 36 rfl kj kj (by decide) 43 rfl kj kj kj f21_12 (Qh5 (xs := [(((k : Nat) : Int))]) (n := 1) rfl r19_12 (Qa1 r19_12) (show 1 ≤ maxLen from by decide)) (by have h9 := QdA ts k; rw [QbT]; show (Qau ts k).length + 1 ≤ 1000000000; omega) y6_12 fun u2 W13 f22 y13 l13 hrw => ?_
    have x13 : Ext w W13 := Ext.low x12 l13 x6.size
    have r12_13 := hrw _ _ _ (by decide) r12_12
    have nbu := QjG f22 r12_13 (by decide)
    obtain ⟨a2, c2, hv2, -⟩ := id (OwnN.rd f22)
    subst hv2
    refine Qaz g12 _ (#[.slice a2 (wl (Qau ts k) ++ [((k : Nat) : Int)]).length c2]) 36 r12_13 rfl kj (Qaw 36 _ _ g12 0 36 _ (.slice a2 (wl (Qau ts k) ++ [((k : Nat) : Int)]).length c2) r12_13 rfl kj kj kj kj kj rfl) fun W14 p14 r12_14 => ?_
    have x14 : Ext w W14 := Puts.ext p14 x13 b12
    refine Qae ?_
    refine hK17 _ _ ?_
    refine Qab ?_
    refine Qaa (.int .i64 ((2 * k : Nat) : Int)) 32 rfl kj kj ?_
    refine Qaa (.int .i64 (((2 * (k + 1) : Nat) : Int))) 33 rfl kj (Qaj (u := .int .i64 (IntKind.i64.wrap (((2 * k : Nat) : Int) + 2))) kj (congrArg (Value.int .i64) ((IntWalk.i64_in _ (by omega)).trans (by omega)))) ?_
    refine Qaa (.int .i64 (((2 * (k + 1) : Nat) : Int))) 6 rfl kj kj ?_
    refine Qae ?_
    have f23_14 := (f22.puts p14 nbu)
    repeat (first | with_reducible refine goX1 ?_ | with_reducible refine goX2 ?_ | with_reducible refine goX3 ?_)
    exact Qay ((k + 1), (.slice a2 (wl (Qau ts k) ++ [((k : Nat) : Int)]).length c2)) ⟨rfl, rfl, rfl, rfl, rfl, trivial⟩ ⟨(by omega), (by rw [QbU (eny ▸ hqu), Qj0]; exact f23_14), r12_14, (Qbf p14 (RowKit.Below.trans (RowKit.Below.trans (RowKit.Below.trans l10 (RowKit.Below.mono e11 y6_10.size)) (RowKit.Below.mono e12 y6_11.size)) l13) (Nat.le_trans y6_7.size l12)), x14⟩ (by show L + 1 - (k + 1) < L + 1 - k; omega)
   ·skip
    refine Qab ?_
    have r2_11 := (Qag r2_10 e11)
    refine Qaa (.slice a_t ts.length c_t) 34 rfl kj (Qah 23 _ g2 0 23 _ (.slice a_t ts.length c_t) _ r2_11 rfl kj kj kj) ?_
    refine Qaa (.int .i64 ((2 * k : Nat) : Int)) 35 rfl kj kj ?_
    refine Qaa (.pointer (some ⟨gyT, oyT + (2 * k) * 99, none⟩)) 36 rfl kj (Qan 23 _ _ .i64 (2 * k) gyT oyT ts.length c_t 41 99 a_t (hay (by omega)) rfl kj kj kj kj (by omega)) ?_
    refine Qaa (.pointer (some ⟨gyT, oyT + (2 * k) * 99, none⟩)) 37 rfl kj kj ?_
    refine Qaa (.bool false) 38 rfl kj (Qai 4 _ _ (.bool false) ((NdAt.at3 hny).1.trans (congrArg (fun z => some (Value.bool z)) hqu)) rfl kj kj) ?_
    refine Qae ?_
    refine hK18 _ _ ?_
    refine cond_false kj ?_
    refine wp_skip ?_
    refine hK17 _ _ ?_
    refine Qab ?_
    refine Qaa (.int .i64 ((2 * k : Nat) : Int)) 32 rfl kj kj ?_
    refine Qaa (.int .i64 (((2 * (k + 1) : Nat) : Int))) 33 rfl kj (Qaj (u := .int .i64 (IntKind.i64.wrap (((2 * k : Nat) : Int) + 2))) kj (congrArg (Value.int .i64) ((IntWalk.i64_in _ (by omega)).trans (by omega)))) ?_
    refine Qaa (.int .i64 (((2 * (k + 1) : Nat) : Int))) 6 rfl kj kj ?_
    refine Qae ?_
    have f24_11 := (hu.ext e11)
    have r12_11 := (Qag q12_1 e11)
    have y6_7 : Ext W6 W7 := (Rely.Ext.trans (Rely.Ext.refl W6) e7)
    have y6_8 : Ext W6 W8 := (Rely.Ext.trans y6_7 e8)
    have y6_9 : Ext W6 W9 := (Puts.ext p9 y6_8 (Nat.le_trans y6_7.size l12))
    have y6_10 : Ext W6 V1 := (Ext.low y6_9 l10 (Rely.Ext.refl W6).size)
    repeat (first | with_reducible refine goX1 ?_ | with_reducible refine goX2 ?_ | with_reducible refine goX3 ?_)
    exact Qay ((k + 1), u) ⟨rfl, rfl, rfl, rfl, rfl, trivial⟩ ⟨(by omega), (by rw [QcF (eny ▸ hqu)]; exact f24_11), r12_11, (RowKit.Below.trans l10 (RowKit.Below.mono e11 y6_10.size)), x11⟩ (by show L + 1 - (k + 1) < L + 1 - k; omega)
  ·skip
   refine Qab ?_
   refine Qaa (.int .i64 ((2 * k : Nat) : Int)) 24 rfl kj kj ?_
   have r2_5 := (Qag r2_4 e5)
   have r2_6 := (Puts.row p6 r2_5 (Qav r2_1 l3))
   have r2_7 := (Qag r2_6 e7)
   have r2_8 := (Qag r2_7 e8)
   have r2_9 := (Puts.row p9 r2_8 (Qav r2_7 l12))
   have r2_10 := (QaJ l10 r2_9 (Qa1 r2_6))
   refine Qaa (.slice a_t ts.length c_t) 25 rfl kj (Qah 23 _ g2 0 23 _ (.slice a_t ts.length c_t) _ r2_10 rfl kj kj kj) ?_
   refine Qaa (.int .i64 ((ts.length : Nat) : Int)) 26 rfl kj kj ?_
   refine Qaa (.bool false) 27 rfl kj (Qaj (u := .bool (decide (((2 * k : Nat) : Int) < ((ts.length : Nat) : Int)))) kj (congrArg Value.bool (decide_eq_false (by omega)))) ?_
   refine Qaa (.bool false) 28 rfl kj kj ?_
   refine Qad 29 rfl kj ?_
   refine Qad 30 rfl kj ?_
   refine Qaa (.bool false) 31 rfl kj kj ?_
   refine Qae ?_
   refine hK16 _ _ ?_
   refine cond_false kj ?_
   refine wp_exit ?_
   refine hK13 _ _ ?_
   refine wp_seq_k fun K25 hK25 => ?_
   refine Qab ?_
   refine Qam (#[.int .i64 0]) 3 7 rfl kj kj fun g26 W11 l26 e11 r26_11 => ?_
   have x11 : Ext w W11 := Ext.tr xx1 e11
   have b26 : w.heap.size ≤ g26 := Nat.le_trans xx1.size l26
   refine Qaz g26 _ (#[.int .i64 0]) 3 r26_11 rfl kj (Qaw 3 _ _ g26 0 3 _ (.int .i64 0) r26_11 rfl kj kj kj kj kj rfl) fun W12 p12 r26_12 => ?_
   have x12 : Ext w W12 := Puts.ext p12 x11 b26
   refine Qae ?_
   refine hK25 _ _ ?_
   refine wp_seq_k fun K27 hK27 => ?_
   refine wp_seq_k fun K28 hK28 => ?_
   refine Qab ?_
   have r2_11 := (Qag r2_10 e11)
   have r2_12 := (Puts.row p12 r2_11 (Qav r2_10 l26))
   refine Qaa (.slice a_t ts.length c_t) 44 rfl kj (Qah 23 _ g2 0 23 _ (.slice a_t ts.length c_t) _ r2_12 rfl kj kj kj) ?_
   refine Qa8 (fun v W' => (MemR ts W12) v W' ∧ Ext W12 W') 19 #[.slice a_t ts.length c_t] 45 rfl kj kj ((QgO ts a_t c_t _ _ (TrAt.ext ht x12) htl hm1 (TabAt.ext hT x12) hc).mono (by rintro e w' ⟨v, rfl, e1, hv⟩; exact ⟨v, rfl, hv, e1⟩)) fun vv29 W13 hh29 => ?_
   obtain ⟨hv29, e13⟩ := hh29
   have x13 : Ext w W13 := Ext.tr x12 e13
   obtain ⟨cs, gm1, aM, cM, hasM, rfl, lm1, rm1, hOM⟩ := hv29
   refine Qae ?_
   refine hK28 _ _ ?_
   refine wp_block ?_
   have n7_2 : g2 ≠ g26 := (Qav r2_10 l26)
   have r3_7 := (Qag r3_6 e7)
   have r3_8 := (Qag r3_7 e8)
   have r3_9 := (Puts.row p9 r3_8 (Qav r3_7 l12))
   have r3_10 := (QaJ l10 r3_9 (Qa1 r3_6))
   have n7_3 : g3 ≠ g26 := (Qav r3_10 l26)
   have r4_4 := (Qag r4_3 e4)
   have r4_5 := (Qag r4_4 e5)
   have r4_6 := (Puts.row p6 r4_5 (QbX r3_2 l4))
   have r4_7 := (Qag r4_6 e7)
   have r4_8 := (Qag r4_7 e8)
   have r4_9 := (Puts.row p9 r4_8 (Qav r4_7 l12))
   have r4_10 := (QaJ l10 r4_9 (Qa1 r4_6))
   have n7_4 : g4 ≠ g26 := (Qav r4_10 l26)
   have n7_5 : g12 ≠ g26 := (Qav q12_1 l26)
   have f30_11 := (hu.ext e11)
   have f31_12 := (f30_11.puts p12 (Qef hu l26))
   have f32_13 := (f31_12.ext e13)
   have nb7 : Value.ownBlock u ≠ some g26 := (Qef hu l26)
   have hkf : Qau ts k = (Qau ts L) := by rw [show k = L by omega]
   have hw0 := OwnN.rd f32_13
   rw [hkf] at hw0
   obtain ⟨aw, cw, hvw, -⟩ := id hw0
   subst hvw
   have r2_13 := (Qag r2_12 e13)
   have r3_11 := (Qag r3_10 e11)
   have r3_12 := (Puts.row p12 r3_11 (Qav r3_10 l26))
   have r3_13 := (Qag r3_12 e13)
   have r4_11 := (Qag r4_10 e11)
   have r4_12 := (Puts.row p12 r4_11 (Qav r4_10 l26))
   have r4_13 := (Qag r4_12 e13)
   have r12_11 := (Qag q12_1 e11)
   have r12_12 := (Puts.row p12 r12_11 (Qav q12_1 l26))
   have r12_13 := (Qag r12_12 e13)
   have r26_13 := (Qag r26_12 e13)
   have htM : TrAt W13.heap.size W13 aM cs := hOM.tr
   have hav : AvT (fun g => g ∉ [g26]) aM cs := (QdR hOM).mono fun g hg hm => by have h9 := Qa1 r26_12; rw [List.mem_singleton.1 hm] at hg; omega
   have hn1 : gm1 ∉ [g26] := Qc7 (Nat.ne_of_gt (Nat.lt_of_lt_of_le (Qa1 r26_12) lm1)) Qco
   have hLc : leaves ((cs.length : Nat) : Int) = ((L : Nat) : Int) := by rw [hasM.1]; exact hL
   have hUc : Qau cs L = (Qau ts L) := Qeq hasM L
   have hcl : cs.length = ts.length := hasM.1
   refine Qcb (gf := 66) (lb := #[.pointer (some ⟨gm1, 0, none⟩)]) (enc := fun z : Nat => .int .i64 ((z : Nat) : Int)) (enc2 := fun z : Nat => .agg (cat (ndP (nod cs z)))) kj (enters_of Tryd.func66 kj rfl) (Qcp 2 [g26] gm1 cs aM cM W13.heap.size W13 htM (by omega) L hLc (by omega) (by omega) rm1 hn1 hav) (fun h k => QaL.trans h k) QaL.book (Below.refl _ _)
     (fun pre W => ((W.heap[g2]? = some (.cells (#[.slice a_t ts.length c_t]) 23)) ∧ (W.heap[g3]? = some (.cells (#[.int .i64 (((mo : Nat) : Int))]) 3)) ∧ (W.heap[g4]? = some (.cells (#[.bool false]) 4)) ∧ (W.heap[g12]? = some (.cells (#[.slice aw (wl (Qau ts L)).length cw]) 36)) ∧ (W.heap[g26]? = some (.cells (#[.int .i64 ((pre.length : Nat) : Int)]) 3)) ∧ (RdK .i64 W13.heap.size (wl (Qau ts L)) (.slice aw (wl (Qau ts L)).length cw) W) ∧ QaL [g26] W13 W) ∧ pre.length < mo ∧ Ext w W)
     (fun c pre W => ((c = .exit 2 ∧ (W.heap[g2]? = some (.cells (#[.slice a_t ts.length c_t]) 23)) ∧ (W.heap[g3]? = some (.cells (#[.int .i64 (((mo : Nat) : Int))]) 3)) ∧ (W.heap[g4]? = some (.cells (#[.bool false]) 4)) ∧ (W.heap[g12]? = some (.cells (#[.slice aw (wl (Qau ts L)).length cw]) 36)) ∧ (W.heap[g26]? = some (.cells (#[.int .i64 ((pre.length : Nat) : Int)]) 3)) ∧ (RdK .i64 W13.heap.size (wl (Qau ts L)) (.slice aw (wl (Qau ts L)).length cw) W) ∧ pre.length = mo) ∨ (c = .ret ∧ ∃ q z, pre = q ++ [z] ∧ (Qau ts L)[q.length]? ≠ some z)) ∧ Ext w W) (OwnFrom.and (Own.from (fun s A B row hs hg hr => ⟨Qa5 hs.1 hg hr, Qa5 hs.2.1 hg hr, Qa5 hs.2.2.1 hg hr, Qa5 hs.2.2.2.1 hg hr, Qa5 hs.2.2.2.2.1 hg hr, QbV hs.2.2.2.2.2.1 hg hr, QcC hs.2.2.2.2.2.2 hg hr⟩) _) (OwnFrom.and (Own.from (fun _ _ _ _ hs _ _ => hs) _) (ownFrom_below (Nat.le_refl _) x13.size))) (fun c => OwnFrom.and (Own.from (fun s A B row hs hg hr => by rcases hs with ⟨e, h2, h3, h4, h5, h7, h8, h9⟩ | hs; exact .inl ⟨e, Qa5 h2 hg hr, Qa5 h3 hg hr, Qa5 h4 hg hr, Qa5 h5 hg hr, Qa5 h7 hg hr, QbV h8 hg hr, h9⟩; exact .inr hs) _) (ownFrom_below (Nat.le_refl _) x13.size)) ⟨⟨r2_13, r3_13, r4_13, r12_13, r26_13, RdK.here hw0, QaL.refl _ _⟩, (by show 0 < mo; omega), x13⟩ (fun e => QaL.ext e) (fun pre A B h e => ⟨⟨Qag h.1.1 e, Qag h.1.2.1 e, Qag h.1.2.2.1 e, Qag h.1.2.2.2.1 e, Qag h.1.2.2.2.2.1 e, RdK.ext h.1.2.2.2.2.2.1 e, QaL.trans h.1.2.2.2.2.2.2 (QaL.ext e)⟩, h.2.1, Rely.Ext.trans h.2.2 e⟩) (fun pre W h => h.1.2.2.2.2.2.2.1) (fun z g => [(9, .pointer (some ⟨g, 0, none⟩)), (8, .int .i64 ((z : Nat) : Int)), (47, .agg (cat [#[.bool (nod cs z).n.us], #[.int .i64 ((nod cs z).n.nm)], ints .u8 ((nod cs z).n.key), ints .u8 ((nod cs z).n.sg), ints .u8 ((nod cs z).n.pa), #[.slice ((nod cs z).a) ((nod cs z).n.ms.length) ((nod cs z).c)]])), (46, .int .i64 ((z : Nat) : Int))]) (fun z => (cat [#[.bool (nod cs z).n.us], #[.int .i64 ((nod cs z).n.nm)], ints .u8 ((nod cs z).n.key), ints .u8 ((nod cs z).n.sg), ints .u8 ((nod cs z).n.pa), #[.slice ((nod cs z).a) ((nod cs z).n.ms.length) ((nod cs z).c)]])) 41 (fun l z W K hK => ?_) (fun l pre z gP Wr hgP hI rP hp => ?_) (fun D ys W lD hS hI rD => ?_) (fun D c pre W lD hSp hIx rD => ?_)
   ·skip
    refine wpIn_seq_k fun K301 hK301 => ?_
    refine Qa0 ?_
    refine Qa7 (.int .i64 ((z : Nat) : Int)) 8 rfl (Qal l 1 _) rfl kj kj ?_
    refine QaM ?_
    refine hK301 _ _ ?_
    refine Qa0 ?_
    refine Qd4 (cat [#[.bool false], #[.int .i64 0], ints .u8 (List.replicate 32 0), ints .u8 (List.replicate 32 0), ints .u8 (List.replicate 32 0), #[.slice none 0 0]]) 41 9 rfl (Qal l 1 _) rfl kj kj fun g302 W1 l302 e1 r302_1 => ?_
    have x1 : Ext W W1 := Ext.tr (Rely.Ext.refl W) e1
    have b302 : W.heap.size ≤ g302 := Nat.le_trans (Rely.Ext.refl W).size l302
    refine Qbq g302 _ (cat [#[.bool (nod cs z).n.us], #[.int .i64 ((nod cs z).n.nm)], ints .u8 ((nod cs z).n.key), ints .u8 ((nod cs z).n.sg), ints .u8 ((nod cs z).n.pa), #[.slice ((nod cs z).a) ((nod cs z).n.ms.length) ((nod cs z).c)]]) 41 r302_1 rfl (Qal l 1 _) rfl kj (QaF 41 _ _ g302 41 _ _ r302_1 rfl kj kj (isz (n := 99) kj (by rw [Qac, Qac, Qac, Qac, Qac, Qac]; simp only [Array.size_append, cat, ((Qaf _ _).trans (QaY htM z).1.gl), ((Qaf _ _).trans (QaY htM z).1.kl), ((Qaf _ _).trans (QaY htM z).1.pl)]; rfl)) (eqsz (n := 99) (by rw [Qac, Qac, Qac, Qac, Qac, Qac]; simp only [Array.size_append, cat, ((Qaf _ _).trans (List.length_replicate (n := 32)))]; rfl) (by rw [Qac, Qac, Qac, Qac, Qac, Qac]; simp only [Array.size_append, cat, ((Qaf _ _).trans (QaY htM z).1.gl), ((Qaf _ _).trans (QaY htM z).1.kl), ((Qaf _ _).trans (QaY htM z).1.pl)]; rfl)) (Qbo _ (by intro a ha; simp only [List.mem_cons, List.not_mem_nil, or_false] at ha; rcases ha with rfl | rfl | rfl | rfl | rfl | rfl; exact (Qa3 _ rfl); exact (Qa3 _ rfl); exact (Qa4 _ _); exact (Qa4 _ _); exact (Qa4 _ _); exact (Qa3 _ rfl)))) fun W2 p2 r302_2 => ?_
    have x2 : Ext W W2 := Puts.ext p2 x1 b302
    refine QaM ?_
    have y0_1 : Ext W W1 := (Rely.Ext.trans (Rely.Ext.refl W) e1)
    have y0_2 : Ext W W2 := (Puts.ext p2 y0_1 l302)
    exact hK _ _ l302 y0_2 r302_2
   ·skip
    obtain ⟨⟨q2, q3, q4, q5, q7, hw, hkc⟩, hpm, xx⟩ := hI
    have hp32 : pre.length < 32 := hp
    have htr := TrAt.keepC htM hkc hav
    obtain ⟨okz, rdz⟩ := QaY htr z
    have hl1 : (pre ++ [z]).length = pre.length + 1 := by simp
    refine wpIn_block ?_
    refine wpIn_seq_k fun K507 hK507 => ?_
    refine wpIn_seq_k fun K508 hK508 => ?_
    have hwll : (wl (Qau ts L)).length = (Qau ts L).length := QbT _
    rcases (show ((Qau ts L).length ≤ pre.length) ∨ (pre.length < (Qau ts L).length ∧ nth (wl (Qau ts L)) pre.length ≠ ((z : Nat) : Int)) ∨ (pre.length < (Qau ts L).length ∧ nth (wl (Qau ts L)) pre.length = ((z : Nat) : Int)) from by rcases Nat.lt_or_ge pre.length (Qau ts L).length with h8 | h8; by_cases h7 : nth (wl (Qau ts L)) pre.length = ((z : Nat) : Int); exact .inr (.inr ⟨h8, h7⟩); exact .inr (.inl ⟨h8, h7⟩); exact .inl h8) with hq | hq | hq
    ·skip
     have hbad : (Qau ts L)[pre.length]? ≠ some z := by rw [List.getElem?_eq_none (by omega)]; simp
     refine Qb6 19 [⟨none, [(7, none)]⟩, ⟨none, [(5, none)]⟩, ⟨none, [(49, some 1)]⟩, ⟨none, [(48, some 0), (50, some 2)]⟩, ⟨none, [(51, some 3)]⟩, ⟨some (52, false), [(8, none), (52, some 4)]⟩, ⟨some (52, false), [(5, none), (52, some 4)]⟩, ⟨some (52, false), [(7, none), (52, some 4)]⟩, ⟨some (52, false), [(54, some 6), (55, some 7), (52, some 4)]⟩, ⟨some (52, false), [(56, some 8), (52, some 4)]⟩, ⟨some (52, false), [(53, some 5), (57, some 9), (52, some 4)]⟩, ⟨none, [(52, some 4), (58, some 10)]⟩, ⟨none, [(59, some 11)]⟩, ⟨some (60, false), [(9, none), (60, some 12)]⟩, ⟨some (60, false), [(2, none), (60, some 12)]⟩, ⟨some (60, false), [(8, none), (60, some 12)]⟩, ⟨some (60, false), [(63, some 15), (60, some 12)]⟩, ⟨some (60, false), [(62, some 14), (64, some 16), (60, some 12)]⟩, ⟨some (60, false), [(65, some 17), (60, some 12)]⟩] (Qal l 1 _) rfl kj kj fun F hF => ?_
     refine QaH (Qaq _) (.int .i64 ((pre.length : Nat) : Int)) kj kj (fun W hR => (Qah 3 _ g26 0 3 _ (.int .i64 ((pre.length : Nat) : Int)) _ (Qag (Qag q7 (Qat _)) hR) rfl kj kj kj)) ?_
     refine QaH (Qaq _) (.slice aw ((wl (Qau ts L)).length) cw) kj kj (fun W hR => (Qah 36 _ g12 0 36 _ (.slice aw ((wl (Qau ts L)).length) cw) _ (Qag (Qag q5 (Qat _)) hR) rfl kj kj kj)) ?_
     refine QaB (Qaq _) (.int .i64 (((wl (Qau ts L)).length : Nat) : Int)) kj kj (fun W => by kernel_rfl) ?_
     refine QaB (Qaq _) (.bool true) kj kj (fun W => (Qaj (u := .bool (decide (((pre.length : Nat) : Int) ≥ (((wl (Qau ts L)).length : Nat) : Int)))) kj (congrArg Value.bool (decide_eq_true (by rw [QbT]; omega))))) ?_
     refine QaB (Qaq _) (.bool true) kj kj (fun W => by kernel_rfl) ?_
     refine QaD kj kj ?_
     refine QaD kj kj ?_
     refine QaD kj kj ?_
     refine QaD kj kj ?_
     refine QaD kj kj ?_
     refine QaD kj kj ?_
     refine QaB (Qaq _) (.bool true) kj kj (fun W => by kernel_rfl) ?_
     refine QaB (Qaq _) (.bool true) kj kj (fun W => by kernel_rfl) ?_
     refine QaD kj kj ?_
     refine QaD kj kj ?_
     refine QaD kj kj ?_
     refine QaD kj kj ?_
     refine QaD kj kj ?_
     refine QaD kj kj ?_
     refine Qcr (hF _ fun W1 e1 => ?_)
     simp only [List.nil_append, List.cons_append, List.take_succ_cons, List.take_zero, List.drop_succ_cons, List.drop_zero, finE, up]
     clear hF
     have x1 : Ext w W1 := Ext.tr xx e1
     refine QbS 67 rfl (Qal l 1 _) rfl kj ?_
     refine QbS 68 rfl (Qal l 1 _) rfl kj ?_
     refine Qa7 (.bool true) 69 rfl (Qal l 1 _) rfl kj kj ?_
     refine QaM ?_
     refine hK508 _ _ ?_
     refine QbQ kj ?_
     refine wpIn_seq_k fun K509 hK509 => ?_
     refine Qa0 ?_
     have r503_1 := (Qag q4 e1)
     refine Qbq g4 _ (#[.bool false]) 4 r503_1 rfl (Qal l 1 _) rfl kj (Qaw 4 _ _ g4 0 4 _ (.bool false) r503_1 rfl kj kj kj kj kj rfl) fun W2 p2 r503_2 => ?_
     have x2 : Ext w W2 := Puts.ext p2 x1 b4
     refine QaM ?_
     refine hK509 _ _ ?_
     refine wpIn_ret ?_
     repeat (first | with_reducible refine goR1 ?_ | with_reducible refine goR2 ?_)
     exact ⟨((QaV e1).trans (QaZ p2 r503_1)), .inr ⟨rfl, pre, z, rfl, hbad⟩, x2⟩
    ·skip
     have hnx_510 : ((wl (Qau ts L))).length = (wl (Qau ts L)).length := rfl
     obtain ⟨gcx_510, ocx_510, hax_510, hlx_510, hcx_510⟩ := Qb8 (RdK.here hw) (by rw [hnx_510]; omega)
     have hbad := Qjz hq.1 hq.2
     refine Qb6 19 [⟨none, [(7, none)]⟩, ⟨none, [(5, none)]⟩, ⟨none, [(49, some 1)]⟩, ⟨none, [(48, some 0), (50, some 2)]⟩, ⟨none, [(51, some 3)]⟩, ⟨some (52, false), [(8, none), (52, some 4)]⟩, ⟨some (52, false), [(5, none), (52, some 4)]⟩, ⟨some (52, false), [(7, none), (52, some 4)]⟩, ⟨some (52, false), [(54, some 6), (55, some 7), (52, some 4)]⟩, ⟨some (52, false), [(56, some 8), (52, some 4)]⟩, ⟨some (52, false), [(53, some 5), (57, some 9), (52, some 4)]⟩, ⟨none, [(52, some 4), (58, some 10)]⟩, ⟨none, [(59, some 11)]⟩, ⟨some (60, false), [(9, none), (60, some 12)]⟩, ⟨some (60, false), [(2, none), (60, some 12)]⟩, ⟨some (60, false), [(8, none), (60, some 12)]⟩, ⟨some (60, false), [(63, some 15), (60, some 12)]⟩, ⟨some (60, false), [(62, some 14), (64, some 16), (60, some 12)]⟩, ⟨some (60, false), [(65, some 17), (60, some 12)]⟩] (Qal l 1 _) rfl kj kj fun F hF => ?_
     refine QaH (Qaq _) (.int .i64 ((pre.length : Nat) : Int)) kj kj (fun W hR => (Qah 3 _ g26 0 3 _ (.int .i64 ((pre.length : Nat) : Int)) _ (Qag (Qag q7 (Qat _)) hR) rfl kj kj kj)) ?_
     refine QaH (Qaq _) (.slice aw ((wl (Qau ts L)).length) cw) kj kj (fun W hR => (Qah 36 _ g12 0 36 _ (.slice aw ((wl (Qau ts L)).length) cw) _ (Qag (Qag q5 (Qat _)) hR) rfl kj kj kj)) ?_
     refine QaB (Qaq _) (.int .i64 (((wl (Qau ts L)).length : Nat) : Int)) kj kj (fun W => by kernel_rfl) ?_
     refine QaB (Qaq _) (.bool false) kj kj (fun W => (Qaj (u := .bool (decide (((pre.length : Nat) : Int) ≥ (((wl (Qau ts L)).length : Nat) : Int)))) kj (congrArg Value.bool (decide_eq_false (by rw [QbT]; omega))))) ?_
     refine QaB (Qaq _) (.bool false) kj kj (fun W => by kernel_rfl) ?_
     refine QaB (Qaq _) (.int .i64 ((z : Nat) : Int)) kj kj (fun W => by kernel_rfl) ?_
     refine QaH (Qaq _) (.slice aw ((wl (Qau ts L)).length) cw) kj kj (fun W hR => (Qah 36 _ g12 0 36 _ (.slice aw ((wl (Qau ts L)).length) cw) _ (Qag (Qag q5 (Qat _)) hR) rfl kj kj kj)) ?_
     refine QaH (Qaq _) (.int .i64 ((pre.length : Nat) : Int)) kj kj (fun W hR => (Qah 3 _ g26 0 3 _ (.int .i64 ((pre.length : Nat) : Int)) _ (Qag (Qag q7 (Qat _)) hR) rfl kj kj kj)) ?_
     refine QaB (Qaq _) (.pointer (some ⟨gcx_510, ocx_510 + pre.length, none⟩)) kj kj (fun W => (QaE 36 _ _ .i64 pre.length gcx_510 ocx_510 ((wl (Qau ts L)).length) cw 3 aw _ hax_510 rfl rfl kj kj kj kj (Nat.lt_of_lt_of_eq (show pre.length < (wl (Qau ts L)).length by omega) hnx_510.symm))) ?_
     refine QaH (Qaq _) (.int .i64 (nth ((wl (Qau ts L))) (pre.length))) kj kj (fun W hR => (Qai 3 _ _ (.int .i64 (nth ((wl (Qau ts L))) (pre.length))) ((Below.cell (Rely.Ext.trans (Qat _) hR) hlx_510).trans (hcx_510 pre.length (Nat.lt_of_lt_of_eq (show pre.length < (wl (Qau ts L)).length by omega) hnx_510.symm))) rfl kj kj)) ?_
     refine QaB (Qaq _) (.bool true) kj kj (fun W => (Qaj (u := .bool ((((z : Nat) : Int) != (nth ((wl (Qau ts L))) (pre.length))))) kj (congrArg Value.bool (bne_iff_ne.2 (fun e => hq.2 e.symm))))) ?_
     refine QaB (Qaq _) (.bool true) kj kj (fun W => by kernel_rfl) ?_
     refine QaB (Qaq _) (.bool true) kj kj (fun W => by kernel_rfl) ?_
     refine QaD kj kj ?_
     refine QaD kj kj ?_
     refine QaD kj kj ?_
     refine QaD kj kj ?_
     refine QaD kj kj ?_
     refine QaD kj kj ?_
     refine Qcr (hF _ fun W1 e1 => ?_)
     simp only [List.nil_append, List.cons_append, List.take_succ_cons, List.take_zero, List.drop_succ_cons, List.drop_zero, finE, up]
     clear hF
     have x1 : Ext w W1 := Ext.tr xx e1
     refine QbS 67 rfl (Qal l 1 _) rfl kj ?_
     refine QbS 68 rfl (Qal l 1 _) rfl kj ?_
     refine Qa7 (.bool true) 69 rfl (Qal l 1 _) rfl kj kj ?_
     refine QaM ?_
     refine hK508 _ _ ?_
     refine QbQ kj ?_
     refine wpIn_seq_k fun K511 hK511 => ?_
     refine Qa0 ?_
     have r503_1 := (Qag q4 e1)
     refine Qbq g4 _ (#[.bool false]) 4 r503_1 rfl (Qal l 1 _) rfl kj (Qaw 4 _ _ g4 0 4 _ (.bool false) r503_1 rfl kj kj kj kj kj rfl) fun W2 p2 r503_2 => ?_
     have x2 : Ext w W2 := Puts.ext p2 x1 b4
     refine QaM ?_
     refine hK511 _ _ ?_
     refine wpIn_ret ?_
     repeat (first | with_reducible refine goR1 ?_ | with_reducible refine goR2 ?_)
     exact ⟨((QaV e1).trans (QaZ p2 r503_1)), .inr ⟨rfl, pre, z, rfl, hbad⟩, x2⟩
    ·skip
     have hnx_512 : ((wl (Qau ts L))).length = (wl (Qau ts L)).length := rfl
     obtain ⟨gcx_512, ocx_512, hax_512, hlx_512, hcx_512⟩ := Qb8 (RdK.here hw) (by rw [hnx_512]; omega)
     have hz := Qkk hq.1 hq.2
     obtain ⟨hzL, hzu⟩ := QbK.1 (List.mem_of_getElem? hz)
     obtain ⟨gtT, otT, hat, hnts⟩ := TrAt.ext ht xx
     have hnt := hnts (2 * z) (by omega)
     obtain ⟨nt, ent⟩ : ∃ z9, z9 = ndi ts (2 * z) := ⟨_, rfl⟩
     rw [← ent] at hnt
     have okt := hnt.ok
     have rdt := hnt.rd
     have hsm : (nod cs z).n = nt.n := by rw [Qf9 (by omega), ent]; exact hasM.2 _ (by omega)
     have hzm : (nod cs z).n.ms.length ≤ 1000000 := by rw [hsm, ent]; exact hm6 _ (by omega)
     refine Qb6 19 [⟨none, [(7, none)]⟩, ⟨none, [(5, none)]⟩, ⟨none, [(49, some 1)]⟩, ⟨none, [(48, some 0), (50, some 2)]⟩, ⟨none, [(51, some 3)]⟩, ⟨some (52, false), [(8, none), (52, some 4)]⟩, ⟨some (52, false), [(5, none), (52, some 4)]⟩, ⟨some (52, false), [(7, none), (52, some 4)]⟩, ⟨some (52, false), [(54, some 6), (55, some 7), (52, some 4)]⟩, ⟨some (52, false), [(56, some 8), (52, some 4)]⟩, ⟨some (52, false), [(53, some 5), (57, some 9), (52, some 4)]⟩, ⟨none, [(52, some 4), (58, some 10)]⟩, ⟨none, [(59, some 11)]⟩, ⟨some (60, false), [(9, none), (60, some 12)]⟩, ⟨some (60, false), [(2, none), (60, some 12)]⟩, ⟨some (60, false), [(8, none), (60, some 12)]⟩, ⟨some (60, false), [(63, some 15), (60, some 12)]⟩, ⟨some (60, false), [(62, some 14), (64, some 16), (60, some 12)]⟩, ⟨some (60, false), [(65, some 17), (60, some 12)]⟩] (Qal l 1 _) rfl kj kj fun F hF => ?_
     refine QaH (Qaq _) (.int .i64 ((pre.length : Nat) : Int)) kj kj (fun W hR => (Qah 3 _ g26 0 3 _ (.int .i64 ((pre.length : Nat) : Int)) _ (Qag (Qag q7 (Qat _)) hR) rfl kj kj kj)) ?_
     refine QaH (Qaq _) (.slice aw ((wl (Qau ts L)).length) cw) kj kj (fun W hR => (Qah 36 _ g12 0 36 _ (.slice aw ((wl (Qau ts L)).length) cw) _ (Qag (Qag q5 (Qat _)) hR) rfl kj kj kj)) ?_
     refine QaB (Qaq _) (.int .i64 (((wl (Qau ts L)).length : Nat) : Int)) kj kj (fun W => by kernel_rfl) ?_
     refine QaB (Qaq _) (.bool false) kj kj (fun W => (Qaj (u := .bool (decide (((pre.length : Nat) : Int) ≥ (((wl (Qau ts L)).length : Nat) : Int)))) kj (congrArg Value.bool (decide_eq_false (by rw [QbT]; omega))))) ?_
     refine QaB (Qaq _) (.bool false) kj kj (fun W => by kernel_rfl) ?_
     refine QaB (Qaq _) (.int .i64 ((z : Nat) : Int)) kj kj (fun W => by kernel_rfl) ?_
     refine QaH (Qaq _) (.slice aw ((wl (Qau ts L)).length) cw) kj kj (fun W hR => (Qah 36 _ g12 0 36 _ (.slice aw ((wl (Qau ts L)).length) cw) _ (Qag (Qag q5 (Qat _)) hR) rfl kj kj kj)) ?_
     refine QaH (Qaq _) (.int .i64 ((pre.length : Nat) : Int)) kj kj (fun W hR => (Qah 3 _ g26 0 3 _ (.int .i64 ((pre.length : Nat) : Int)) _ (Qag (Qag q7 (Qat _)) hR) rfl kj kj kj)) ?_
     refine QaB (Qaq _) (.pointer (some ⟨gcx_512, ocx_512 + pre.length, none⟩)) kj kj (fun W => (QaE 36 _ _ .i64 pre.length gcx_512 ocx_512 ((wl (Qau ts L)).length) cw 3 aw _ hax_512 rfl rfl kj kj kj kj (Nat.lt_of_lt_of_eq (show pre.length < (wl (Qau ts L)).length by omega) hnx_512.symm))) ?_
     refine QaH (Qaq _) (.int .i64 (nth ((wl (Qau ts L))) (pre.length))) kj kj (fun W hR => (Qai 3 _ _ (.int .i64 (nth ((wl (Qau ts L))) (pre.length))) ((Below.cell (Rely.Ext.trans (Qat _) hR) hlx_512).trans (hcx_512 pre.length (Nat.lt_of_lt_of_eq (show pre.length < (wl (Qau ts L)).length by omega) hnx_512.symm))) rfl kj kj)) ?_
     refine QaB (Qaq _) (.bool false) kj kj (fun W => (Qaj (u := .bool ((((z : Nat) : Int) != (nth ((wl (Qau ts L))) (pre.length))))) kj (congrArg Value.bool (bne_eq_false_iff_eq.2 hq.2.symm)))) ?_
     refine QaB (Qaq _) (.bool false) kj kj (fun W => by kernel_rfl) ?_
     refine QaB (Qaq _) (.bool false) kj kj (fun W => by kernel_rfl) ?_
     refine QaH (Qaq _) (.agg (cat [#[.bool (nod cs z).n.us], #[.int .i64 ((nod cs z).n.nm)], ints .u8 ((nod cs z).n.key), ints .u8 ((nod cs z).n.sg), ints .u8 ((nod cs z).n.pa), #[.slice ((nod cs z).a) ((nod cs z).n.ms.length) ((nod cs z).c)]])) kj kj (fun W hR => (QaQ 41 _ gP 41 _ _ (Qag (Qag rP (Qat _)) hR) rfl kj kj (isz (n := 99) kj (by rw [Qac, Qac, Qac, Qac, Qac, Qac]; simp only [Array.size_append, cat, ((Qaf _ _).trans (QaY htM z).1.gl), ((Qaf _ _).trans (QaY htM z).1.kl), ((Qaf _ _).trans (QaY htM z).1.pl)]; rfl)))) ?_
     refine QaH (Qaq _) (.slice a_t ts.length c_t) kj kj (fun W hR => (Qah 23 _ g2 0 23 _ (.slice a_t ts.length c_t) _ (Qag (Qag q2 (Qat _)) hR) rfl kj kj kj)) ?_
     refine QaB (Qaq _) (.int .i64 ((z : Nat) : Int)) kj kj (fun W => by kernel_rfl) ?_
     refine QaB (Qaq _) (.int .i64 ((2 * z : Nat) : Int)) kj kj (fun W => (Qaj (u := .int .i64 (IntKind.i64.wrap (2 * ((z : Nat) : Int)))) kj (congrArg (Value.int .i64) (i64n _ _ (by omega) (by omega))))) ?_
     refine QaB (Qaq _) (.pointer (some ⟨gtT, otT + (2 * z) * 99, none⟩)) kj kj (fun W => (Qan 23 _ _ .i64 (2 * z) gtT otT ts.length c_t 41 99 a_t (hat (by omega)) rfl kj kj kj kj (by omega))) ?_
     refine QaH (Qaq _) (.agg (cat [#[.bool nt.n.us], #[.int .i64 nt.n.nm], ints .u8 (nt.n.key), ints .u8 (nt.n.sg), ints .u8 (nt.n.pa), #[.slice nt.a nt.n.ms.length nt.c]])) kj kj (fun W hR => (QaI 41 _ gtT (otT + (2 * z) * 99) nt (NdAt.ext hnt (Rely.Ext.trans (Qat _) hR)) rfl kj kj kj)) ?_
     refine Qcr (hF _ fun W1 e1 => ?_)
     simp only [List.nil_append, List.cons_append, List.take_succ_cons, List.take_zero, List.drop_succ_cons, List.drop_zero, finE, up]
     clear hF
     have x1 : Ext w W1 := Ext.tr xx e1
     have y0_1 : Ext Wr W1 := (Rely.Ext.trans (Rely.Ext.refl Wr) e1)
     refine QgV (.bool true) 20 #[.agg (cat [#[.bool (nod cs z).n.us], #[.int .i64 ((nod cs z).n.nm)], ints .u8 ((nod cs z).n.key), ints .u8 ((nod cs z).n.sg), ints .u8 ((nod cs z).n.pa), #[.slice ((nod cs z).a) ((nod cs z).n.ms.length) ((nod cs z).c)]]), .agg (cat [#[.bool nt.n.us], #[.int .i64 nt.n.nm], ints .u8 (nt.n.key), ints .u8 (nt.n.sg), ints .u8 (nt.n.pa), #[.slice nt.a nt.n.ms.length nt.c]])] 67 rfl (Qal l 1 _) rfl kj kj (Qi9 (nod cs z) nt okz okt _ _ _ hzm (RdK.here (RdK.ext rdz y0_1)) (RdK.here (RdK.ext rdt y0_1)) hsm) fun W2 e2 => ?_
     have x2 : Ext w W2 := Ext.tr x1 e2
     refine Qa7 (.bool false) 68 rfl (Qal l 1 _) rfl kj kj ?_
     refine Qa7 (.bool false) 69 rfl (Qal l 1 _) rfl kj kj ?_
     refine QaM ?_
     refine hK508 _ _ ?_
     refine QcP kj ?_
     refine wpIn_skip ?_
     refine hK507 _ _ ?_
     refine wpIn_seq_k fun K513 hK513 => ?_
     refine Qa0 ?_
     have r505_1 := (Qag q7 e1)
     have r505_2 := (Qag r505_1 e2)
     refine Qa7 (.int .i64 ((pre.length : Nat) : Int)) 70 rfl (Qal l 1 _) rfl kj (Qah 3 _ g26 0 3 _ (.int .i64 ((pre.length : Nat) : Int)) _ r505_2 rfl kj kj kj) ?_
     refine Qa7 (.int .i64 ((pre.length + 1 : Nat) : Int)) 71 rfl (Qal l 1 _) rfl kj (Qaj (u := .int .i64 (IntKind.i64.wrap (((pre.length : Nat) : Int) + 1))) kj (congrArg (Value.int .i64) (i64n _ _ (by omega) (by omega)))) ?_
     refine Qbq g26 _ (#[.int .i64 ((pre.length + 1 : Nat) : Int)]) 3 r505_2 rfl (Qal l 1 _) rfl kj (Qaw 3 _ _ g26 0 3 _ (.int .i64 ((pre.length + 1 : Nat) : Int)) r505_2 rfl kj kj kj kj kj rfl) fun W3 p3 r505_3 => ?_
     have x3 : Ext w W3 := Puts.ext p3 x2 b26
     refine QaM ?_
     refine hK513 _ _ ?_
     refine wpIn_seq_k fun K514 hK514 => ?_
     refine Qa0 ?_
     refine Qa7 (.int .i64 ((pre.length + 1 : Nat) : Int)) 72 rfl (Qal l 1 _) rfl kj (Qah 3 _ g26 0 3 _ (.int .i64 ((pre.length + 1 : Nat) : Int)) _ r505_3 rfl kj kj kj) ?_
     have r502_1 := (Qag q3 e1)
     have r502_2 := (Qag r502_1 e2)
     have r502_3 := (Puts.row p3 r502_2 n7_3)
     refine Qa7 (.int .i64 ((mo : Nat) : Int)) 73 rfl (Qal l 1 _) rfl kj (Qah 3 _ g3 0 3 _ (.int .i64 ((mo : Nat) : Int)) _ r502_3 rfl kj kj kj) ?_
     refine Qa7 (.bool ((((pre.length + 1 : Nat) : Int) == ((mo : Nat) : Int)))) 74 rfl (Qal l 1 _) rfl kj kj ?_
     refine QaM ?_
     refine hK514 _ _ ?_
     refine Qbr (t := (((pre.length + 1 : Nat) : Int) == ((mo : Nat) : Int))) kj (fun c515 => ?_) (fun c515 => ?_)
     ·skip
      have hmo : pre.length + 1 = mo := by have := beq_iff_eq.1 c515; omega
      refine wpIn_exit ?_
      repeat (first | with_reducible refine goX1 ?_ | with_reducible refine goXo1 (by decide) ?_ | with_reducible refine goXo2 (by decide) ?_)
      have f516_1 := (hw.ext e1)
      have f517_2 := (f516_1.ext e2)
      have f518_3 := (RdK.putsO f517_2 p3 (.inr nb7))
      have r501_1 := (Qag q2 e1)
      have r501_2 := (Qag r501_1 e2)
      have r501_3 := (Puts.row p3 r501_2 n7_2)
      have r503_1 := (Qag q4 e1)
      have r503_2 := (Qag r503_1 e2)
      have r503_3 := (Puts.row p3 r503_2 n7_4)
      have r504_1 := (Qag q5 e1)
      have r504_2 := (Qag r504_1 e2)
      have r504_3 := (Puts.row p3 r504_2 n7_5)
      have hw2 := f518_3
      exact ⟨(((QaV e1).trans (QaV e2)).trans (QaZ p3 r505_2)), .inl ⟨rfl, r501_3, r502_3, r503_3, r504_3, (by rw [hl1]; exact r505_3), hw2, (by rw [hl1]; exact hmo)⟩, x3⟩
     ·skip
      have hmo : pre.length + 1 ≠ mo := by have := beq_eq_false_iff_ne.1 c515; omega
      refine wpIn_skip ?_
      repeat (first | with_reducible refine goX1 ?_ | with_reducible refine goX2 ?_ | with_reducible refine goX3 ?_)
      have f519_1 := (hw.ext e1)
      have f520_2 := (f519_1.ext e2)
      have f521_3 := (RdK.putsO f520_2 p3 (.inr nb7))
      have hkq : QaL [g26] Wr W3 := QaL.keeps (Qbk.puts (Qbk.step (Qbk.step (Qbk.refl [g26] Wr) e1) e2) p3 (.inl (by simp)))
      have hw2 := f521_3
      have r501_1 := (Qag q2 e1)
      have r501_2 := (Qag r501_1 e2)
      have r501_3 := (Puts.row p3 r501_2 n7_2)
      have r503_1 := (Qag q4 e1)
      have r503_2 := (Qag r503_1 e2)
      have r503_3 := (Puts.row p3 r503_2 n7_4)
      have r504_1 := (Qag q5 e1)
      have r504_2 := (Qag r504_1 e2)
      have r504_3 := (Puts.row p3 r504_2 n7_5)
      exact ⟨(((QaV e1).trans (QaV e2)).trans (QaZ p3 r505_2)), hkq, ⟨r501_3, r502_3, r503_3, r504_3, (by rw [hl1]; exact r505_3), hw2, QaL.trans hkc hkq⟩, (by rw [hl1]; omega), x3⟩
   ·obtain ⟨⟨q2, q3, q4, q5, q7, hw, -⟩, hpm, xx⟩ := hI
    subst hS
    have bD : w.heap.size ≤ D := Nat.le_trans x13.size lD
    have hcn : (Qau cs L).length = (wl (Qau ts L)).length := by rw [QbT, hUc]
    obtain ⟨NC, hNC⟩ : ∃ z, z = (Qau cs L).length := ⟨_, rfl⟩
    rw [← hNC] at q7 hpm hcn
    have hmn : NC = mo ∧ mo ≤ (wl (Qau ts L)).length ∨ NC = (wl (Qau ts L)).length ∧ NC < mo := .inr ⟨hcn, hpm⟩
    refine hK27 _ _ ?_
    refine wp_seq_k fun K34 hK34 => ?_
    refine Qab ?_
    refine Qaa (.slice a_t ts.length c_t) 75 rfl kj (Qah 23 _ g2 0 23 _ (.slice a_t ts.length c_t) _ q2 rfl kj kj kj) ?_
    refine Qa8 (fun v W' => (fun v W9 => ∃ us, AsC us ts ∧ OwT W.heap.size us v W9) v W' ∧ Ext W W') 21 #[.slice a_t ts.length c_t] 76 rfl kj kj ((Qf6 ts a_t _ _ _ (TrAt.ext ht xx) htl hm1).mono (by rintro e w' ⟨v, rfl, e1, hv⟩; exact ⟨v, rfl, hv, e1⟩)) fun vv35 W15 hh35 => ?_
    obtain ⟨hv35, e15⟩ := hh35
    have x15 : Ext w W15 := Ext.tr xx e15
    obtain ⟨ds, hasD, hOD⟩ := hv35
    obtain ⟨aD, cD, hvD⟩ := hOD.slice
    subst hvD
    have htD := hOD.tr
    refine Qaa (.slice aD ds.length cD) 10 rfl kj kj ?_
    refine Qae ?_
    refine hK34 _ _ ?_
    refine wp_seq_k fun K36 hK36 => ?_
    refine Qab ?_
    have r2_15 := (Qag q2 e15)
    refine Qaa (.slice a_t ts.length c_t) 77 rfl kj (Qah 23 _ g2 0 23 _ (.slice a_t ts.length c_t) _ r2_15 rfl kj kj kj) ?_
    refine Qa8 (fun v W' => (fun v W => ∃ us, AsC us ts ∧ OwT W15.heap.size us v W ∧ ∃ g, v = .slice (some ⟨g, 0, none⟩) ts.length ts.length) v W' ∧ Ext W15 W') 16 #[.slice a_t ts.length c_t] 78 rfl kj kj ((Qe7 ts a_t _ _ _ (TrAt.ext ht x15) htl hm1).mono (by rintro e w' ⟨v, rfl, e1, hv⟩; exact ⟨v, rfl, hv, e1⟩)) fun vv37 W16 hh37 => ?_
    obtain ⟨hv37, e16⟩ := hh37
    have x16 : Ext w W16 := Ext.tr x15 e16
    obtain ⟨us, has, hU, gO, rfl⟩ := hv37
    obtain ⟨lgO, cuO, rO16⟩ := hU.rowBlock (g := gO) rfl
    have bgO : w.heap.size ≤ gO := Nat.le_trans x15.size lgO
    refine Qaa (.slice (some ⟨gO, 0, none⟩) ts.length ts.length) 11 rfl kj kj ?_
    refine Qae ?_
    refine hK36 _ _ ?_
    refine wp_seq_k fun K39 hK39 => ?_
    refine wp_seq_k fun K40 hK40 => ?_
    refine Qab ?_
    refine Qaa (.slice (some ⟨gO, 0, none⟩) ts.length ts.length) 79 rfl kj kj ?_
    refine Qaa (.int .i64 ((ts.length : Nat) : Int)) 80 rfl kj kj ?_
    refine Qaa (.int .i64 0) 81 rfl kj kj ?_
    refine Qae ?_
    refine hK40 _ _ ?_
    refine wp_block ?_
    refine Qa9 (fun (s2 : Nat × List NdV) => [(2, .pointer (some ⟨g2, 0, none⟩)), (3, .pointer (some ⟨g3, 0, none⟩)), (4, .pointer (some ⟨g4, 0, none⟩)), (5, .pointer (some ⟨g12, 0, none⟩)), (7, .pointer (some ⟨g26, 0, none⟩)), (10, .slice aD ds.length cD), (11, .slice (some ⟨gO, 0, none⟩) ts.length ts.length), (80, .int .i64 ((ts.length : Nat) : Int)), (81, .int .i64 ((s2.1 : Nat) : Int))]) (fun (s2 : Nat × List NdV) W => (s2.1 ≤ ts.length) ∧ (s2.2.length = ts.length) ∧ (OwT W15.heap.size s2.2 (.slice (some ⟨gO, 0, none⟩) ts.length ts.length) W) ∧ (Below W15.heap.size W16 W) ∧ (Ext w W)) (fun (s2 : Nat × List NdV) => ts.length - s2.1) (0, us) ⟨rfl, rfl, rfl, rfl, rfl, rfl, rfl, rfl, rfl, trivial⟩ ⟨(Nat.zero_le _), has.1, (OwH.ext hU (Rely.Ext.refl W16)), (RowKit.Below.refl _ W16), x16⟩ fun s2 X2 V2 hI2 => ?_
    obtain ⟨i, vs⟩ := s2
    obtain ⟨hi, hvl, hV, kk2, xx2⟩ := hI2
    replace hi : i ≤ ts.length := hi
    replace hvl : vs.length = ts.length := hvl
    replace hV : OwT W15.heap.size vs (.slice (some ⟨gO, 0, none⟩) ts.length ts.length) V2 := hV
    replace kk2 : Below W15.heap.size W16 V2 := kk2
    replace xx2 : Ext w V2 := xx2
    have l17 := kk2
    refine wp_seq_k fun K41 hK41 => ?_
    refine Qab ?_
    refine Qaa (.bool (decide (((i : Nat) : Int) < ((ts.length : Nat) : Int)))) 82 rfl kj kj ?_
    refine Qae ?_
    refine hK41 _ _ ?_
    refine wp_seq_k fun K42 hK42 => ?_
    refine Qax (t := decide (((i : Nat) : Int) < ((ts.length : Nat) : Int))) kj (fun c43 => ?_) (fun c43 => ?_)
    ·skip
     have hlt82 : i < ts.length := by have := of_decide_eq_true c43; omega
     refine wp_skip ?_
     refine hK42 _ _ ?_
     refine wp_seq_k fun K44 hK44 => ?_
     refine wp_block ?_
     refine wp_seq_k fun K45 hK45 => ?_
     refine Qab ?_
     refine Qaa (.int .i64 ((i : Nat) : Int)) 83 rfl kj kj ?_
     refine Qaa (.int .i64 ((i : Nat) : Int)) 12 rfl kj kj ?_
     refine Qae ?_
     refine hK45 _ _ ?_
     refine wp_seq_k fun K46 hK46 => ?_
     refine Qab ?_
     refine Qaa (.slice (some ⟨gO, 0, none⟩) ts.length ts.length) 84 rfl kj kj ?_
     refine Qaa (.int .i64 ((i : Nat) : Int)) 85 rfl kj kj ?_
     refine Qaa (.pointer (some ⟨gO, 0 + i * 99, none⟩)) 86 rfl kj (Qa6 23 _ _ .i64 i gO 0 ts.length ts.length 41 99 rfl kj kj kj kj (by omega)) ?_
     refine Qaa (.pointer (some ⟨gO, 0 + i * 99 + 1, none⟩)) 87 rfl kj kj ?_
     refine Qaa (.int .i64 (ndi vs i).n.nm) 88 rfl kj (Qai 3 _ _ (.int .i64 (ndi vs i).n.nm) (NdAt.at3 (OwH.node hvl hV (by omega))).2.1 rfl kj kj) ?_
     refine Qaa (.int .i64 (IntKind.i64.wrap ((ndi vs i).n.nm + 1))) 89 rfl kj kj ?_
     refine Qaa (.pointer (some ⟨gO, 0 + i * 99, none⟩)) 90 rfl kj (Qa6 23 _ _ .i64 i gO 0 ts.length ts.length 41 99 rfl kj kj kj kj (by omega)) ?_
     refine Qaa (.pointer (some ⟨gO, 0 + i * 99 + 1, none⟩)) 91 rfl kj kj ?_
     refine QcI (i := i) (v := (IntKind.i64.wrap ((ndi vs i).n.nm + 1))) 3 _ _ hvl hV (by omega) rfl kj kj kj rfl kj fun W18 p18 hV2 => ?_
     obtain ⟨vs2, hvs2⟩ : ∃ z, z = nmS vs i (IntKind.i64.wrap ((ndi vs i).n.nm + 1)) := ⟨_, rfl⟩
     rw [← hvs2] at hV2
     have hvl2 : vs2.length = ts.length := by rw [hvs2, Qe0]; exact hvl
     have x18 : Ext w W18 := Puts.ext p18 xx2 bgO
     refine Qae ?_
     refine hK46 _ _ ?_
     refine wp_seq_k fun K47 hK47 => ?_
     refine Qab ?_
     refine Qaa (.slice (some ⟨gO, 0, none⟩) ts.length ts.length) 92 rfl kj kj ?_
     refine Qaa (.int .i64 ((i : Nat) : Int)) 93 rfl kj kj ?_
     refine Qaa (.pointer (some ⟨gO, 0 + i * 99, none⟩)) 94 rfl kj (Qa6 23 _ _ .i64 i gO 0 ts.length ts.length 41 99 rfl kj kj kj kj (by omega)) ?_
     refine Qaa (.pointer (some ⟨gO, 0 + i * 99 + 98, none⟩)) 95 rfl kj kj ?_
     obtain ⟨nt, ent⟩ : ∃ z, z = ndi vs2 i := ⟨_, rfl⟩
     have hnt : NdAt _ _ gO (0 + i * 99) nt := ent ▸ OwH.node hvl2 hV2 (by omega)
     have hntm : nt.n.ms.length ≤ 1000 := ent ▸ (hV2.nd i (by omega) (by simp)).2.1
     refine Qaa (.slice nt.a nt.n.ms.length nt.c) 96 rfl kj (Qai 36 _ _ (.slice nt.a nt.n.ms.length nt.c) (NdAt.at3 hnt).2.2 rfl kj kj) ?_
     refine Qaa (.int .i64 ((nt.n.ms.length : Nat) : Int)) 97 rfl kj kj ?_
     refine Qaa (.int .i64 0) 98 rfl kj kj ?_
     refine Qae ?_
     refine hK47 _ _ ?_
     refine wp_block ?_
     refine Qa9 (fun (s3 : Nat × List NdV) => [(2, .pointer (some ⟨g2, 0, none⟩)), (3, .pointer (some ⟨g3, 0, none⟩)), (4, .pointer (some ⟨g4, 0, none⟩)), (5, .pointer (some ⟨g12, 0, none⟩)), (7, .pointer (some ⟨g26, 0, none⟩)), (10, .slice aD ds.length cD), (11, .slice (some ⟨gO, 0, none⟩) ts.length ts.length), (12, .int .i64 ((i : Nat) : Int)), (80, .int .i64 ((ts.length : Nat) : Int)), (81, .int .i64 ((i : Nat) : Int)), (97, .int .i64 ((nt.n.ms.length : Nat) : Int)), (98, .int .i64 ((s3.1 : Nat) : Int))]) (fun (s3 : Nat × List NdV) W => (s3.1 ≤ nt.n.ms.length) ∧ (s3.2.length = ts.length) ∧ ((ndi s3.2 i).n.ms.length = nt.n.ms.length) ∧ (OwT W15.heap.size s3.2 (.slice (some ⟨gO, 0, none⟩) ts.length ts.length) W) ∧ (Below W15.heap.size W18 W) ∧ (Ext w W)) (fun (s3 : Nat × List NdV) => nt.n.ms.length - s3.1) (0, vs2) ⟨rfl, rfl, rfl, rfl, rfl, rfl, rfl, rfl, rfl, rfl, rfl, rfl, trivial⟩ ⟨(Nat.zero_le _), hvl2, (by rw [ent]), hV2, (RowKit.Below.refl _ W18), x18⟩ fun s3 X3 V3 hI3 => ?_
     obtain ⟨j, ws⟩ := s3
     obtain ⟨hj, hwl, hwm, hW, kk3, xx3⟩ := hI3
     replace hj : j ≤ nt.n.ms.length := hj
     replace hwl : ws.length = ts.length := hwl
     replace hwm : (ndi ws i).n.ms.length = nt.n.ms.length := hwm
     replace hW : OwT W15.heap.size ws (.slice (some ⟨gO, 0, none⟩) ts.length ts.length) V3 := hW
     replace kk3 : Below W15.heap.size W18 V3 := kk3
     replace xx3 : Ext w V3 := xx3
     have l19 := kk3
     refine wp_seq_k fun K48 hK48 => ?_
     refine Qab ?_
     refine Qaa (.bool (decide (((j : Nat) : Int) < ((nt.n.ms.length : Nat) : Int)))) 99 rfl kj kj ?_
     refine Qae ?_
     refine hK48 _ _ ?_
     refine wp_seq_k fun K49 hK49 => ?_
     refine Qax (t := decide (((j : Nat) : Int) < ((nt.n.ms.length : Nat) : Int))) kj (fun c50 => ?_) (fun c50 => ?_)
     ·skip
      have hlt99 : j < nt.n.ms.length := by have := of_decide_eq_true c50; omega
      refine wp_skip ?_
      refine hK49 _ _ ?_
      refine wp_seq_k fun K51 hK51 => ?_
      refine wp_block ?_
      refine wp_seq_k fun K52 hK52 => ?_
      refine Qab ?_
      refine Qaa (.int .i64 ((j : Nat) : Int)) 100 rfl kj kj ?_
      refine Qaa (.int .i64 ((j : Nat) : Int)) 13 rfl kj kj ?_
      refine Qae ?_
      refine hK52 _ _ ?_
      refine Qab ?_
      refine Qaa (.slice (some ⟨gO, 0, none⟩) ts.length ts.length) 101 rfl kj kj ?_
      refine Qaa (.int .i64 ((i : Nat) : Int)) 102 rfl kj kj ?_
      refine Qaa (.pointer (some ⟨gO, 0 + i * 99, none⟩)) 103 rfl kj (Qa6 23 _ _ .i64 i gO 0 ts.length ts.length 41 99 rfl kj kj kj kj (by omega)) ?_
      refine Qaa (.pointer (some ⟨gO, 0 + i * 99 + 98, none⟩)) 104 rfl kj kj ?_
      obtain ⟨mt, emt⟩ : ∃ z, z = ndi ws i := ⟨_, rfl⟩
      have hmt0 : NdAt _ _ gO (0 + i * 99) mt := emt ▸ OwH.node hwl hW (by omega)
      obtain ⟨bL, hba, hbb, hbs, hbc⟩ := OwH.list hwl hW (i := i) (by omega) (by omega)
      have hjm : j < (ndi ws i).n.ms.length := by omega
      have hba2 := hba
      have hbc2 := hbc
      rw [← emt] at hba2 hbc2
      have hjm2 : j < mt.n.ms.length := emt ▸ hjm
      have hbj := hbc2 j hjm2
      refine Qaa (.slice mt.a mt.n.ms.length mt.c) 105 rfl kj (Qai 36 _ _ (.slice mt.a mt.n.ms.length mt.c) (NdAt.at3 hmt0).2.2 rfl kj kj) ?_
      refine Qaa (.int .i64 ((j : Nat) : Int)) 106 rfl kj kj ?_
      refine Qaa (.pointer (some ⟨bL, 0 + j, none⟩)) 107 rfl kj (QaE 36 _ _ .i64 j bL 0 mt.n.ms.length mt.c 3 mt.a _ hba2 rfl rfl kj kj kj kj hjm2) ?_
      refine Qaa (.int .i64 (nth mt.n.ms j)) 108 rfl kj (Qai 3 _ _ (.int .i64 (nth mt.n.ms j)) hbj rfl kj kj) ?_
      refine Qaa (.int .i64 (IntKind.i64.wrap ((nth mt.n.ms j) + 1))) 109 rfl kj kj ?_
      refine Qaa (.pointer (some ⟨bL, 0 + j, none⟩)) 110 rfl kj (QaE 36 _ _ .i64 j bL 0 mt.n.ms.length mt.c 3 mt.a _ hba2 rfl rfl kj kj kj kj hjm2) ?_
      refine QcJ (i := i) (j := j) (v := (IntKind.i64.wrap ((nth mt.n.ms j) + 1))) 3 _ _ hwl hW (by omega) hjm hba rfl kj kj kj rfl kj fun W20 p20 _ _ hW2 => ?_
      have x20 : Ext w W20 := Puts.ext p20 xx3 (Nat.le_trans x15.size hbb)
      refine Qae ?_
      refine hK51 _ _ ?_
      refine Qab ?_
      refine Qaa (.int .i64 ((j + 1 : Nat) : Int)) 111 rfl kj (Qaj (u := .int .i64 (IntKind.i64.wrap (((j : Nat) : Int) + 1))) kj (congrArg (Value.int .i64) (i64n _ _ (by omega) (by omega)))) ?_
      refine Qaa (.int .i64 ((j + 1 : Nat) : Int)) 98 rfl kj kj ?_
      refine Qae ?_
      repeat (first | with_reducible refine goX1 ?_ | with_reducible refine goX2 ?_ | with_reducible refine goX3 ?_)
      exact Qay ((j + 1), (msS ws i j (IntKind.i64.wrap ((nth mt.n.ms j) + 1)))) ⟨rfl, rfl, rfl, rfl, rfl, rfl, rfl, rfl, rfl, rfl, rfl, rfl, trivial⟩ ⟨(by omega), (by rw [Qe1]; exact hwl), (by rw [QfB _ _ _ _ (by omega)]; exact hwm), hW2, (Qbf p20 l19 hbb), x20⟩ (by show nt.n.ms.length - (j + 1) < nt.n.ms.length - j; omega)
     ·skip
      have heq99 : j = nt.n.ms.length := by have := of_decide_eq_false c50; omega
      refine wp_exit ?_
      refine hK44 _ _ ?_
      refine Qab ?_
      refine Qaa (.int .i64 ((i + 1 : Nat) : Int)) 112 rfl kj (Qaj (u := .int .i64 (IntKind.i64.wrap (((i : Nat) : Int) + 1))) kj (congrArg (Value.int .i64) (i64n _ _ (by omega) (by omega)))) ?_
      refine Qaa (.int .i64 ((i + 1 : Nat) : Int)) 81 rfl kj kj ?_
      refine Qae ?_
      repeat (first | with_reducible refine goX1 ?_ | with_reducible refine goX2 ?_ | with_reducible refine goX3 ?_)
      exact Qay ((i + 1), ws) ⟨rfl, rfl, rfl, rfl, rfl, rfl, rfl, rfl, rfl, trivial⟩ ⟨(by omega), hwl, hW, (RowKit.Below.trans (Qbf p18 l17 lgO) l19), xx3⟩ (by show ts.length - (i + 1) < ts.length - i; omega)
    ·skip
     have heq82 : i = ts.length := by have := of_decide_eq_false c43; omega
     refine wp_exit ?_
     refine hK39 _ _ ?_
     refine wp_seq_k fun K54 hK54 => ?_
     refine Qab ?_
     have r26_15 := (Qag q7 e15)
     have r26_16 := (Qag r26_15 e16)
     have r26_17 := (QaJ l17 r26_16 (Qa1 r26_15))
     refine Qaa (.int .i64 ((NC : Nat) : Int)) 113 rfl kj (Qah 3 _ g26 0 3 _ (.int .i64 ((NC : Nat) : Int)) _ r26_17 rfl kj kj kj) ?_
     have r3_15 := (Qag q3 e15)
     have r3_16 := (Qag r3_15 e16)
     have r3_17 := (QaJ l17 r3_16 (Qa1 r3_15))
     refine Qaa (.int .i64 ((mo : Nat) : Int)) 114 rfl kj (Qah 3 _ g3 0 3 _ (.int .i64 ((mo : Nat) : Int)) _ r3_17 rfl kj kj kj) ?_
     have r12_15 := (Qag q5 e15)
     have r12_16 := (Qag r12_15 e16)
     have r12_17 := (QaJ l17 r12_16 (Qa1 r12_15))
     refine Qaa (.slice aw (wl (Qau ts L)).length cw) 115 rfl kj (Qah 36 _ g12 0 36 _ (.slice aw (wl (Qau ts L)).length cw) _ r12_17 rfl kj kj kj) ?_
     refine Qaa (.int .i64 (((wl (Qau ts L)).length : Nat) : Int)) 116 rfl kj kj ?_
     refine Qaa (.int .i64 ((NC : Nat) : Int)) 117 rfl kj (Qdz #[3, 3] (.tmp 114) (.tmp 116) .i64 ((mo : Nat) : Int) (((wl (Qau ts L)).length : Nat) : Int) _ rfl kj kj (by split <;> omega)) ?_
     refine Qaa (.bool true) 118 rfl kj (Qaj (u := .bool ((((NC : Nat) : Int) == ((NC : Nat) : Int)))) kj (congrArg Value.bool (beq_self_eq_true _))) ?_
     refine Qaa (.bool true) 119 rfl kj kj ?_
     have r2_16 := (Qag r2_15 e16)
     have r2_17 := (QaJ l17 r2_16 (Qa1 r2_15))
     refine Qaa (.slice a_t ts.length c_t) 120 rfl kj (Qah 23 _ g2 0 23 _ (.slice a_t ts.length c_t) _ r2_17 rfl kj kj kj) ?_
     refine Qaa (.slice aD ds.length cD) 121 rfl kj kj ?_
     have y15_16 : Ext W15 W16 := (Rely.Ext.trans (Rely.Ext.refl W15) e16)
     have y15_17 : Ext W15 V2 := (Ext.low y15_16 l17 (Rely.Ext.refl W15).size)
     refine Qap (.bool true) 15 #[.slice a_t ts.length c_t, .slice aD ds.length cD] 122 rfl kj kj (QeA true ts ds a_t aD c_t cD _ _ _ hl6 (by rw [hasD.1]; exact hl6) hm6 (fun i hi => by rw [hasD.all]; exact hm6 i (by rw [← hasD.1]; exact hi)) (TrAt.ext ht xx2) (TrAt.ext htD y15_17) (Qdy hasD.symm)) fun W18 e18 => ?_
     have x18 : Ext w W18 := Ext.tr xx2 e18
     refine Qaa (.bool true) 123 rfl kj kj ?_
     have r4_15 := (Qag q4 e15)
     have r4_16 := (Qag r4_15 e16)
     have r4_17 := (QaJ l17 r4_16 (Qa1 r4_15))
     have r4_18 := (Qag r4_17 e18)
     refine Qaz g4 _ (#[.bool true]) 4 r4_18 rfl kj (Qaw 4 _ _ g4 0 4 _ (.bool true) r4_18 rfl kj kj kj kj kj rfl) fun W19 p19 r4_19 => ?_
     have x19 : Ext w W19 := Puts.ext p19 x18 b4
     refine Qae ?_
     refine hK54 _ _ ?_
     refine wp_ret ?_
     repeat (first | with_reducible refine goR1 ?_ | with_reducible refine goR2 ?_)
     have r33_15 := (Qag rD e15)
     have r33_16 := (Qag r33_15 e16)
     have r33_17 := (QaJ l17 r33_16 (Qa1 r33_15))
     have r33_18 := (Qag r33_17 e18)
     have r33_19 := (Puts.row p19 r33_18 (Qc8 q4 rD))
     exact (show bodyPostM _ _ _ _ _ .ret _ _ from QdV (.bool true) rfl r33_19 (Qbe g4 4 _ (.bool true) (QbH r4_19 r33_19 _) kj kj rfl) ⟨rfl, Qbv x19 bD r33_19 _⟩)
   ·rcases hIx with ⟨⟨rfl, q2, q3, q4, q5, q7, hw, hpm⟩ | ⟨rfl, q, z, rfl, hbad⟩, xx⟩
    ·skip
     have bD : w.heap.size ≤ D := Nat.le_trans x13.size lD
     obtain ⟨k0, hk0, hus0, e0⟩ := hSp
     have hat := Qct hk0 hus0
     rw [hUc] at hat
     have hple : pre.length ≤ (wl (Qau ts L)).length := by rw [e0, QbT]; have := (List.getElem?_eq_some_iff.1 hat).1; simp; omega
     obtain ⟨NC, hNC⟩ : ∃ z, z = pre.length := ⟨_, rfl⟩
     rw [← hNC] at q7 hpm hple
     have hmn : NC = mo ∧ mo ≤ (wl (Qau ts L)).length ∨ NC = (wl (Qau ts L)).length ∧ NC < mo := .inl ⟨hpm, hpm ▸ hple⟩
     refine wp_exit ?_
     refine hK27 _ _ ?_
     refine wp_seq_k fun K56 hK56 => ?_
     refine Qab ?_
     refine Qaa (.slice a_t ts.length c_t) 75 rfl kj (Qah 23 _ g2 0 23 _ (.slice a_t ts.length c_t) _ q2 rfl kj kj kj) ?_
     refine Qa8 (fun v W' => (fun v W9 => ∃ us, AsC us ts ∧ OwT W.heap.size us v W9) v W' ∧ Ext W W') 21 #[.slice a_t ts.length c_t] 76 rfl kj kj ((Qf6 ts a_t _ _ _ (TrAt.ext ht xx) htl hm1).mono (by rintro e w' ⟨v, rfl, e1, hv⟩; exact ⟨v, rfl, hv, e1⟩)) fun vv57 W15 hh57 => ?_
     obtain ⟨hv57, e15⟩ := hh57
     have x15 : Ext w W15 := Ext.tr xx e15
     obtain ⟨ds, hasD, hOD⟩ := hv57
     obtain ⟨aD, cD, hvD⟩ := hOD.slice
     subst hvD
     have htD := hOD.tr
     refine Qaa (.slice aD ds.length cD) 10 rfl kj kj ?_
     refine Qae ?_
     refine hK56 _ _ ?_
     refine wp_seq_k fun K58 hK58 => ?_
     refine Qab ?_
     have r2_15 := (Qag q2 e15)
     refine Qaa (.slice a_t ts.length c_t) 77 rfl kj (Qah 23 _ g2 0 23 _ (.slice a_t ts.length c_t) _ r2_15 rfl kj kj kj) ?_
     refine Qa8 (fun v W' => (fun v W => ∃ us, AsC us ts ∧ OwT W15.heap.size us v W ∧ ∃ g, v = .slice (some ⟨g, 0, none⟩) ts.length ts.length) v W' ∧ Ext W15 W') 16 #[.slice a_t ts.length c_t] 78 rfl kj kj ((Qe7 ts a_t _ _ _ (TrAt.ext ht x15) htl hm1).mono (by rintro e w' ⟨v, rfl, e1, hv⟩; exact ⟨v, rfl, hv, e1⟩)) fun vv59 W16 hh59 => ?_
     obtain ⟨hv59, e16⟩ := hh59
     have x16 : Ext w W16 := Ext.tr x15 e16
     obtain ⟨us, has, hU, gO, rfl⟩ := hv59
     obtain ⟨lgO, cuO, rO16⟩ := hU.rowBlock (g := gO) rfl
     have bgO : w.heap.size ≤ gO := Nat.le_trans x15.size lgO
     refine Qaa (.slice (some ⟨gO, 0, none⟩) ts.length ts.length) 11 rfl kj kj ?_
     refine Qae ?_
     refine hK58 _ _ ?_
     refine wp_seq_k fun K61 hK61 => ?_
     refine wp_seq_k fun K62 hK62 => ?_
     refine Qab ?_
     refine Qaa (.slice (some ⟨gO, 0, none⟩) ts.length ts.length) 79 rfl kj kj ?_
     refine Qaa (.int .i64 ((ts.length : Nat) : Int)) 80 rfl kj kj ?_
     refine Qaa (.int .i64 0) 81 rfl kj kj ?_
     refine Qae ?_
     refine hK62 _ _ ?_
     refine wp_block ?_
     refine Qa9 (fun (s4 : Nat × List NdV) => [(2, .pointer (some ⟨g2, 0, none⟩)), (3, .pointer (some ⟨g3, 0, none⟩)), (4, .pointer (some ⟨g4, 0, none⟩)), (5, .pointer (some ⟨g12, 0, none⟩)), (7, .pointer (some ⟨g26, 0, none⟩)), (10, .slice aD ds.length cD), (11, .slice (some ⟨gO, 0, none⟩) ts.length ts.length), (80, .int .i64 ((ts.length : Nat) : Int)), (81, .int .i64 ((s4.1 : Nat) : Int))]) (fun (s4 : Nat × List NdV) W => (s4.1 ≤ ts.length) ∧ (s4.2.length = ts.length) ∧ (OwT W15.heap.size s4.2 (.slice (some ⟨gO, 0, none⟩) ts.length ts.length) W) ∧ (Below W15.heap.size W16 W) ∧ (Ext w W)) (fun (s4 : Nat × List NdV) => ts.length - s4.1) (0, us) ⟨rfl, rfl, rfl, rfl, rfl, rfl, rfl, rfl, rfl, trivial⟩ ⟨(Nat.zero_le _), has.1, (OwH.ext hU (Rely.Ext.refl W16)), (RowKit.Below.refl _ W16), x16⟩ fun s4 X4 V4 hI4 => ?_
     obtain ⟨i, vs⟩ := s4
     obtain ⟨hi, hvl, hV, kk4, xx4⟩ := hI4
     replace hi : i ≤ ts.length := hi
     replace hvl : vs.length = ts.length := hvl
     replace hV : OwT W15.heap.size vs (.slice (some ⟨gO, 0, none⟩) ts.length ts.length) V4 := hV
     replace kk4 : Below W15.heap.size W16 V4 := kk4
     replace xx4 : Ext w V4 := xx4
     have l17 := kk4
     refine wp_seq_k fun K63 hK63 => ?_
     refine Qab ?_
     refine Qaa (.bool (decide (((i : Nat) : Int) < ((ts.length : Nat) : Int)))) 82 rfl kj kj ?_
     refine Qae ?_
     refine hK63 _ _ ?_
     refine wp_seq_k fun K64 hK64 => ?_
     refine Qax (t := decide (((i : Nat) : Int) < ((ts.length : Nat) : Int))) kj (fun c65 => ?_) (fun c65 => ?_)
     ·skip
      have hlt82 : i < ts.length := by have := of_decide_eq_true c65; omega
      refine wp_skip ?_
      refine hK64 _ _ ?_
      refine wp_seq_k fun K66 hK66 => ?_
      refine wp_block ?_
      refine wp_seq_k fun K67 hK67 => ?_
      refine Qab ?_
      refine Qaa (.int .i64 ((i : Nat) : Int)) 83 rfl kj kj ?_
      refine Qaa (.int .i64 ((i : Nat) : Int)) 12 rfl kj kj ?_
      refine Qae ?_
      refine hK67 _ _ ?_
      refine wp_seq_k fun K68 hK68 => ?_
      refine Qab ?_
      refine Qaa (.slice (some ⟨gO, 0, none⟩) ts.length ts.length) 84 rfl kj kj ?_
      refine Qaa (.int .i64 ((i : Nat) : Int)) 85 rfl kj kj ?_
      refine Qaa (.pointer (some ⟨gO, 0 + i * 99, none⟩)) 86 rfl kj (Qa6 23 _ _ .i64 i gO 0 ts.length ts.length 41 99 rfl kj kj kj kj (by omega)) ?_
      refine Qaa (.pointer (some ⟨gO, 0 + i * 99 + 1, none⟩)) 87 rfl kj kj ?_
      refine Qaa (.int .i64 (ndi vs i).n.nm) 88 rfl kj (Qai 3 _ _ (.int .i64 (ndi vs i).n.nm) (NdAt.at3 (OwH.node hvl hV (by omega))).2.1 rfl kj kj) ?_
      refine Qaa (.int .i64 (IntKind.i64.wrap ((ndi vs i).n.nm + 1))) 89 rfl kj kj ?_
      refine Qaa (.pointer (some ⟨gO, 0 + i * 99, none⟩)) 90 rfl kj (Qa6 23 _ _ .i64 i gO 0 ts.length ts.length 41 99 rfl kj kj kj kj (by omega)) ?_
      refine Qaa (.pointer (some ⟨gO, 0 + i * 99 + 1, none⟩)) 91 rfl kj kj ?_
      refine QcI (i := i) (v := (IntKind.i64.wrap ((ndi vs i).n.nm + 1))) 3 _ _ hvl hV (by omega) rfl kj kj kj rfl kj fun W18 p18 hV2 => ?_
      obtain ⟨vs2, hvs2⟩ : ∃ z, z = nmS vs i (IntKind.i64.wrap ((ndi vs i).n.nm + 1)) := ⟨_, rfl⟩
      rw [← hvs2] at hV2
      have hvl2 : vs2.length = ts.length := by rw [hvs2, Qe0]; exact hvl
      have x18 : Ext w W18 := Puts.ext p18 xx4 bgO
      refine Qae ?_
      refine hK68 _ _ ?_
      refine wp_seq_k fun K69 hK69 => ?_
      refine Qab ?_
      refine Qaa (.slice (some ⟨gO, 0, none⟩) ts.length ts.length) 92 rfl kj kj ?_
      refine Qaa (.int .i64 ((i : Nat) : Int)) 93 rfl kj kj ?_
      refine Qaa (.pointer (some ⟨gO, 0 + i * 99, none⟩)) 94 rfl kj (Qa6 23 _ _ .i64 i gO 0 ts.length ts.length 41 99 rfl kj kj kj kj (by omega)) ?_
      refine Qaa (.pointer (some ⟨gO, 0 + i * 99 + 98, none⟩)) 95 rfl kj kj ?_
      obtain ⟨nt, ent⟩ : ∃ z, z = ndi vs2 i := ⟨_, rfl⟩
      have hnt : NdAt _ _ gO (0 + i * 99) nt := ent ▸ OwH.node hvl2 hV2 (by omega)
      have hntm : nt.n.ms.length ≤ 1000 := ent ▸ (hV2.nd i (by omega) (by simp)).2.1
      refine Qaa (.slice nt.a nt.n.ms.length nt.c) 96 rfl kj (Qai 36 _ _ (.slice nt.a nt.n.ms.length nt.c) (NdAt.at3 hnt).2.2 rfl kj kj) ?_
      refine Qaa (.int .i64 ((nt.n.ms.length : Nat) : Int)) 97 rfl kj kj ?_
      refine Qaa (.int .i64 0) 98 rfl kj kj ?_
      refine Qae ?_
      refine hK69 _ _ ?_
      refine wp_block ?_
      refine Qa9 (fun (s5 : Nat × List NdV) => [(2, .pointer (some ⟨g2, 0, none⟩)), (3, .pointer (some ⟨g3, 0, none⟩)), (4, .pointer (some ⟨g4, 0, none⟩)), (5, .pointer (some ⟨g12, 0, none⟩)), (7, .pointer (some ⟨g26, 0, none⟩)), (10, .slice aD ds.length cD), (11, .slice (some ⟨gO, 0, none⟩) ts.length ts.length), (12, .int .i64 ((i : Nat) : Int)), (80, .int .i64 ((ts.length : Nat) : Int)), (81, .int .i64 ((i : Nat) : Int)), (97, .int .i64 ((nt.n.ms.length : Nat) : Int)), (98, .int .i64 ((s5.1 : Nat) : Int))]) (fun (s5 : Nat × List NdV) W => (s5.1 ≤ nt.n.ms.length) ∧ (s5.2.length = ts.length) ∧ ((ndi s5.2 i).n.ms.length = nt.n.ms.length) ∧ (OwT W15.heap.size s5.2 (.slice (some ⟨gO, 0, none⟩) ts.length ts.length) W) ∧ (Below W15.heap.size W18 W) ∧ (Ext w W)) (fun (s5 : Nat × List NdV) => nt.n.ms.length - s5.1) (0, vs2) ⟨rfl, rfl, rfl, rfl, rfl, rfl, rfl, rfl, rfl, rfl, rfl, rfl, trivial⟩ ⟨(Nat.zero_le _), hvl2, (by rw [ent]), hV2, (RowKit.Below.refl _ W18), x18⟩ fun s5 X5 V5 hI5 => ?_
      obtain ⟨j, ws⟩ := s5
      obtain ⟨hj, hwl, hwm, hW, kk5, xx5⟩ := hI5
      replace hj : j ≤ nt.n.ms.length := hj
      replace hwl : ws.length = ts.length := hwl
      replace hwm : (ndi ws i).n.ms.length = nt.n.ms.length := hwm
      replace hW : OwT W15.heap.size ws (.slice (some ⟨gO, 0, none⟩) ts.length ts.length) V5 := hW
      replace kk5 : Below W15.heap.size W18 V5 := kk5
      replace xx5 : Ext w V5 := xx5
      have l19 := kk5
      refine wp_seq_k fun K70 hK70 => ?_
      refine Qab ?_
      refine Qaa (.bool (decide (((j : Nat) : Int) < ((nt.n.ms.length : Nat) : Int)))) 99 rfl kj kj ?_
      refine Qae ?_
      refine hK70 _ _ ?_
      refine wp_seq_k fun K71 hK71 => ?_
      refine Qax (t := decide (((j : Nat) : Int) < ((nt.n.ms.length : Nat) : Int))) kj (fun c72 => ?_) (fun c72 => ?_)
      ·skip
       have hlt99 : j < nt.n.ms.length := by have := of_decide_eq_true c72; omega
       refine wp_skip ?_
       refine hK71 _ _ ?_
       refine wp_seq_k fun K73 hK73 => ?_
       refine wp_block ?_
       refine wp_seq_k fun K74 hK74 => ?_
       refine Qab ?_
       refine Qaa (.int .i64 ((j : Nat) : Int)) 100 rfl kj kj ?_
       refine Qaa (.int .i64 ((j : Nat) : Int)) 13 rfl kj kj ?_
       refine Qae ?_
       refine hK74 _ _ ?_
       refine Qab ?_
       refine Qaa (.slice (some ⟨gO, 0, none⟩) ts.length ts.length) 101 rfl kj kj ?_
       refine Qaa (.int .i64 ((i : Nat) : Int)) 102 rfl kj kj ?_
       refine Qaa (.pointer (some ⟨gO, 0 + i * 99, none⟩)) 103 rfl kj (Qa6 23 _ _ .i64 i gO 0 ts.length ts.length 41 99 rfl kj kj kj kj (by omega)) ?_
       refine Qaa (.pointer (some ⟨gO, 0 + i * 99 + 98, none⟩)) 104 rfl kj kj ?_
       obtain ⟨mt, emt⟩ : ∃ z, z = ndi ws i := ⟨_, rfl⟩
       have hmt0 : NdAt _ _ gO (0 + i * 99) mt := emt ▸ OwH.node hwl hW (by omega)
       obtain ⟨bL, hba, hbb, hbs, hbc⟩ := OwH.list hwl hW (i := i) (by omega) (by omega)
       have hjm : j < (ndi ws i).n.ms.length := by omega
       have hba2 := hba
       have hbc2 := hbc
       rw [← emt] at hba2 hbc2
       have hjm2 : j < mt.n.ms.length := emt ▸ hjm
       have hbj := hbc2 j hjm2
       refine Qaa (.slice mt.a mt.n.ms.length mt.c) 105 rfl kj (Qai 36 _ _ (.slice mt.a mt.n.ms.length mt.c) (NdAt.at3 hmt0).2.2 rfl kj kj) ?_
       refine Qaa (.int .i64 ((j : Nat) : Int)) 106 rfl kj kj ?_
       refine Qaa (.pointer (some ⟨bL, 0 + j, none⟩)) 107 rfl kj (QaE 36 _ _ .i64 j bL 0 mt.n.ms.length mt.c 3 mt.a _ hba2 rfl rfl kj kj kj kj hjm2) ?_
       refine Qaa (.int .i64 (nth mt.n.ms j)) 108 rfl kj (Qai 3 _ _ (.int .i64 (nth mt.n.ms j)) hbj rfl kj kj) ?_
       refine Qaa (.int .i64 (IntKind.i64.wrap ((nth mt.n.ms j) + 1))) 109 rfl kj kj ?_
       refine Qaa (.pointer (some ⟨bL, 0 + j, none⟩)) 110 rfl kj (QaE 36 _ _ .i64 j bL 0 mt.n.ms.length mt.c 3 mt.a _ hba2 rfl rfl kj kj kj kj hjm2) ?_
       refine QcJ (i := i) (j := j) (v := (IntKind.i64.wrap ((nth mt.n.ms j) + 1))) 3 _ _ hwl hW (by omega) hjm hba rfl kj kj kj rfl kj fun W20 p20 _ _ hW2 => ?_
       have x20 : Ext w W20 := Puts.ext p20 xx5 (Nat.le_trans x15.size hbb)
       refine Qae ?_
       refine hK73 _ _ ?_
       refine Qab ?_
       refine Qaa (.int .i64 ((j + 1 : Nat) : Int)) 111 rfl kj (Qaj (u := .int .i64 (IntKind.i64.wrap (((j : Nat) : Int) + 1))) kj (congrArg (Value.int .i64) (i64n _ _ (by omega) (by omega)))) ?_
       refine Qaa (.int .i64 ((j + 1 : Nat) : Int)) 98 rfl kj kj ?_
       refine Qae ?_
       repeat (first | with_reducible refine goX1 ?_ | with_reducible refine goX2 ?_ | with_reducible refine goX3 ?_)
       exact Qay ((j + 1), (msS ws i j (IntKind.i64.wrap ((nth mt.n.ms j) + 1)))) ⟨rfl, rfl, rfl, rfl, rfl, rfl, rfl, rfl, rfl, rfl, rfl, rfl, trivial⟩ ⟨(by omega), (by rw [Qe1]; exact hwl), (by rw [QfB _ _ _ _ (by omega)]; exact hwm), hW2, (Qbf p20 l19 hbb), x20⟩ (by show nt.n.ms.length - (j + 1) < nt.n.ms.length - j; omega)
      ·skip
       have heq99 : j = nt.n.ms.length := by have := of_decide_eq_false c72; omega
       refine wp_exit ?_
       refine hK66 _ _ ?_
       refine Qab ?_
       refine Qaa (.int .i64 ((i + 1 : Nat) : Int)) 112 rfl kj (Qaj (u := .int .i64 (IntKind.i64.wrap (((i : Nat) : Int) + 1))) kj (congrArg (Value.int .i64) (i64n _ _ (by omega) (by omega)))) ?_
       refine Qaa (.int .i64 ((i + 1 : Nat) : Int)) 81 rfl kj kj ?_
       refine Qae ?_
       repeat (first | with_reducible refine goX1 ?_ | with_reducible refine goX2 ?_ | with_reducible refine goX3 ?_)
       exact Qay ((i + 1), ws) ⟨rfl, rfl, rfl, rfl, rfl, rfl, rfl, rfl, rfl, trivial⟩ ⟨(by omega), hwl, hW, (RowKit.Below.trans (Qbf p18 l17 lgO) l19), xx5⟩ (by show ts.length - (i + 1) < ts.length - i; omega)
     ·skip
      have heq82 : i = ts.length := by have := of_decide_eq_false c65; omega
      refine wp_exit ?_
      refine hK61 _ _ ?_
      refine wp_seq_k fun K76 hK76 => ?_
      refine Qab ?_
      have r26_15 := (Qag q7 e15)
      have r26_16 := (Qag r26_15 e16)
      have r26_17 := (QaJ l17 r26_16 (Qa1 r26_15))
      refine Qaa (.int .i64 ((NC : Nat) : Int)) 113 rfl kj (Qah 3 _ g26 0 3 _ (.int .i64 ((NC : Nat) : Int)) _ r26_17 rfl kj kj kj) ?_
      have r3_15 := (Qag q3 e15)
      have r3_16 := (Qag r3_15 e16)
      have r3_17 := (QaJ l17 r3_16 (Qa1 r3_15))
      refine Qaa (.int .i64 ((mo : Nat) : Int)) 114 rfl kj (Qah 3 _ g3 0 3 _ (.int .i64 ((mo : Nat) : Int)) _ r3_17 rfl kj kj kj) ?_
      have r12_15 := (Qag q5 e15)
      have r12_16 := (Qag r12_15 e16)
      have r12_17 := (QaJ l17 r12_16 (Qa1 r12_15))
      refine Qaa (.slice aw (wl (Qau ts L)).length cw) 115 rfl kj (Qah 36 _ g12 0 36 _ (.slice aw (wl (Qau ts L)).length cw) _ r12_17 rfl kj kj kj) ?_
      refine Qaa (.int .i64 (((wl (Qau ts L)).length : Nat) : Int)) 116 rfl kj kj ?_
      refine Qaa (.int .i64 ((NC : Nat) : Int)) 117 rfl kj (Qdz #[3, 3] (.tmp 114) (.tmp 116) .i64 ((mo : Nat) : Int) (((wl (Qau ts L)).length : Nat) : Int) _ rfl kj kj (by split <;> omega)) ?_
      refine Qaa (.bool true) 118 rfl kj (Qaj (u := .bool ((((NC : Nat) : Int) == ((NC : Nat) : Int)))) kj (congrArg Value.bool (beq_self_eq_true _))) ?_
      refine Qaa (.bool true) 119 rfl kj kj ?_
      have r2_16 := (Qag r2_15 e16)
      have r2_17 := (QaJ l17 r2_16 (Qa1 r2_15))
      refine Qaa (.slice a_t ts.length c_t) 120 rfl kj (Qah 23 _ g2 0 23 _ (.slice a_t ts.length c_t) _ r2_17 rfl kj kj kj) ?_
      refine Qaa (.slice aD ds.length cD) 121 rfl kj kj ?_
      have y15_16 : Ext W15 W16 := (Rely.Ext.trans (Rely.Ext.refl W15) e16)
      have y15_17 : Ext W15 V4 := (Ext.low y15_16 l17 (Rely.Ext.refl W15).size)
      refine Qap (.bool true) 15 #[.slice a_t ts.length c_t, .slice aD ds.length cD] 122 rfl kj kj (QeA true ts ds a_t aD c_t cD _ _ _ hl6 (by rw [hasD.1]; exact hl6) hm6 (fun i hi => by rw [hasD.all]; exact hm6 i (by rw [← hasD.1]; exact hi)) (TrAt.ext ht xx4) (TrAt.ext htD y15_17) (Qdy hasD.symm)) fun W18 e18 => ?_
      have x18 : Ext w W18 := Ext.tr xx4 e18
      refine Qaa (.bool true) 123 rfl kj kj ?_
      have r4_15 := (Qag q4 e15)
      have r4_16 := (Qag r4_15 e16)
      have r4_17 := (QaJ l17 r4_16 (Qa1 r4_15))
      have r4_18 := (Qag r4_17 e18)
      refine Qaz g4 _ (#[.bool true]) 4 r4_18 rfl kj (Qaw 4 _ _ g4 0 4 _ (.bool true) r4_18 rfl kj kj kj kj kj rfl) fun W19 p19 r4_19 => ?_
      have x19 : Ext w W19 := Puts.ext p19 x18 b4
      refine Qae ?_
      refine hK76 _ _ ?_
      refine wp_ret ?_
      repeat (first | with_reducible refine goR1 ?_ | with_reducible refine goR2 ?_)
      have r55_15 := (Qag rD e15)
      have r55_16 := (Qag r55_15 e16)
      have r55_17 := (QaJ l17 r55_16 (Qa1 r55_15))
      have r55_18 := (Qag r55_17 e18)
      have r55_19 := (Puts.row p19 r55_18 (Qc8 q4 rD))
      exact (show bodyPostM _ _ _ _ _ .ret _ _ from QdV (.bool true) rfl r55_19 (Qbe g4 4 _ (.bool true) (QbH r4_19 r55_19 _) kj kj rfl) ⟨rfl, Qbv x19 bD r55_19 _⟩)
    ·obtain ⟨k0, hk0, hus0, e0⟩ := hSp
     have hat := Qct hk0 hus0
     rw [hUc] at hat
     obtain ⟨rfl, e1⟩ := List.append_inj' e0 rfl
     obtain rfl : z = k0 := by simpa using e1
     exact absurd hat hbad
theorem lawMembers (ts : List NdV) (a_t : Option Addr) (c_t B1 : Nat) (w : World) (ht : TrAt B1 w a_t ts) (hT : TabAt w) (most : Int) : Calls Tryd.prog 4 #[.slice a_t ts.length c_t, .int .i64 most] w (Ret w (.bool true)) := by
  by_cases hs : ∀ i, i < ts.length → i ≤ 70 ∧ (ndi ts i).n.ms.length ≤ 50
  case neg => exact QjM ts a_t c_t B1 w ht hT hs most
  cases hc : chkT ts with
  | false =>
    rcases Nat.eq_zero_or_pos ts.length with hz | hz
    · exact QjO ts a_t c_t B1 w ht hT hs most hc hz
    · exact QjN ts a_t c_t B1 w ht hT hs most hc hz
  | true => exact QjL ts a_t c_t B1 w ht hT hs most hc
end Go.Proofs.YtcmaolmofgmkhaaDoor.Te
end
section
namespace Go.Proofs.YtcmaolmofgmkhaaDoor.Auto
open Go Go.RowKit Go.WideShapes
open Rely
set_option linter.unusedVariables false
section
variable {H : Type} {enc : TypeId × Value → H} {P : Program} {W w : World} {r : Reach} {base b0 : Nat} {sp : Nat → Bool} {held : Bool}
theorem open_raw {n : Nat} {t e : TypeId} {cs : List Value} {fuel : Nat} {x : DataW H × List MemPlace} (ht : P.underlying t = some (.array n e)) (he : P.underlying e = some (.int .u8)) (hce : P.cellsOf e = 1) (hct : P.cellsOf t = n)
    (hf : DataW.trod enc P w b0 sp held fuel t cs = some x) : ∃ xs : List Int, cs = xs.map (Value.int .u8) ∧ xs.length = n ∧ Qb0 xs := by
  obtain ⟨xs, m, -, -, hl, hn, hx⟩ := DataW.trod_array ht hf
  have hcs : cs.length = n := by simpa [hct] using hl
  have each : ∀ i, i < n → ∃ z : Int, cs[i]? = some (.int .u8 z) ∧ (0 ≤ z ∧ z ≤ 255) := by
    intro i hi
    have h1 := hx i hi
    rw [hce, Nat.mul_one] at h1
    have hlt : i < cs.length := by omega
    have h2 : cs.drop i = cs[i] :: cs.drop (i + 1) := List.drop_eq_getElem_cons hlt
    have h1 : DataW.trod enc P w b0 sp held m e ((cs.drop i).take 1) = xs[i]? := h1
    rw [h2] at h1
    simp only [List.take_succ_cons, List.take_zero] at h1
    obtain ⟨y, hy⟩ : ∃ y, xs[i]? = some y := ⟨xs[i], by simp [hn, hi]⟩
    rw [hy] at h1
    obtain ⟨z, hc, -, hw⟩ := DataW.trod_int he h1
    refine ⟨z, ?_, ?_⟩
    · rw [List.getElem?_eq_getElem hlt]
      simp only [List.cons.injEq] at hc
      rw [hc.1]
    · simpa [Lit.wf, IntKind.min, IntKind.max, IntKind.signed, IntKind.bits] using hw
  have all : ∀ (l : List Value), (∀ i, i < l.length → ∃ z : Int, l[i]? = some (.int .u8 z) ∧ (0 ≤ z ∧ z ≤ 255)) → ∃ zs : List Int, l = zs.map (Value.int .u8) ∧ Qb0 zs := by
    intro l
    induction l with
    | nil => exact fun _ => ⟨[], rfl, fun x hx => by simp at hx⟩
    | cons a l ih =>
      intro h
      obtain ⟨zs, h1, h2⟩ := ih fun i hi => by simpa using h (i + 1) (by simp; omega)
      obtain ⟨z, h3, h4⟩ := h 0 (by simp)
      simp only [List.getElem?_cons_zero, Option.some.injEq] at h3
      refine ⟨z :: zs, by rw [h3, h1]; rfl, fun x hx => ?_⟩
      rcases List.mem_cons.1 hx with e | e
      · rw [e]; exact h4
      · exact h2 x e
  obtain ⟨zs, h1, h2⟩ := all cs fun i hi => each i (by omega)
  exact ⟨zs, h1, by rw [← hcs, h1, List.length_map], h2⟩
end
end Go.Proofs.YtcmaolmofgmkhaaDoor.Auto
end
section
namespace Go.Proofs.YtcmaolmofgmkhaaDoor.Auto
open Go Go.RowKit Go.WideShapes
open Rely
set_option linter.unusedVariables false
section
variable {H : Type} {enc : TypeId × Value → H} {P : Program} {W w : World} {r : Reach} {base b0 : Nat} {sp : Nat → Bool} {held : Bool}
theorem Qhs {t : TypeId} {f0 f1 f2 f3 f4 f5 : Field} {fuel : Nat} {cs : List Value} {x : DataW H × List MemPlace} (ht : P.underlying t = some (.struct #[f0, f1, f2, f3, f4, f5])) (h : DataW.trod enc P w b0 sp held fuel t cs = some x) :
    ∃ y0 y1 y2 y3 y4 y5 n, cs.length = P.cellsOf t ∧ DataW.trod enc P w b0 sp held n f0.type ((cs.drop f0.offset).take (P.cellsOf f0.type)) = some y0 ∧ DataW.trod enc P w b0 sp held n f1.type ((cs.drop f1.offset).take (P.cellsOf f1.type)) = some y1 ∧ DataW.trod enc P w b0 sp held n f2.type ((cs.drop f2.offset).take (P.cellsOf f2.type)) = some y2 ∧ DataW.trod enc P w b0 sp held n f3.type ((cs.drop f3.offset).take (P.cellsOf f3.type)) = some y3 ∧ DataW.trod enc P w b0 sp held n f4.type ((cs.drop f4.offset).take (P.cellsOf f4.type)) = some y4 ∧ DataW.trod enc P w b0 sp held n f5.type ((cs.drop f5.offset).take (P.cellsOf f5.type)) = some y5 := by
  obtain ⟨xs, n, _, rfl, hl, hlen, hf⟩ := DataW.trod_struct ht h
  match xs, hlen with
  | [y0, y1, y2, y3, y4, y5], _ => exact ⟨y0, y1, y2, y3, y4, y5, n, hl, by simpa using hf 0 f0 rfl, by simpa using hf 1 f1 rfl, by simpa using hf 2 f2 rfl, by simpa using hf 3 f3 rfl, by simpa using hf 4 f4 rfl, by simpa using hf 5 f5 rfl⟩
theorem sub_st6 {t : TypeId} {f0 f1 f2 f3 f4 f5 : Field} {fuel : Nat} {cs : List Value} {x : DataW H × List MemPlace} {n0 n1 n2 n3 n4 n5 : Nat} (ht : P.underlying t = some (.struct #[f0, f1, f2, f3, f4, f5]))
    (ho : f0.offset = 0 ∧ f1.offset = n0 ∧ f2.offset = n0 + n1 ∧ f3.offset = n0 + n1 + n2 ∧ f4.offset = n0 + n1 + n2 + n3 ∧ f5.offset = n0 + n1 + n2 + n3 + n4) (hc : P.cellsOf f0.type = n0 ∧ P.cellsOf f1.type = n1 ∧ P.cellsOf f2.type = n2 ∧ P.cellsOf f3.type = n3 ∧ P.cellsOf f4.type = n4 ∧ P.cellsOf f5.type = n5) (hC : P.cellsOf t = n0 + n1 + n2 + n3 + n4 + n5) (h : DataW.trod enc P w b0 sp held fuel t cs = some x) :
    ∃ (X0 X1 X2 X3 X4 X5 : List Value) (y0 y1 y2 y3 y4 y5 : DataW H × List MemPlace) (n : Nat), cs = X0 ++ X1 ++ X2 ++ X3 ++ X4 ++ X5 ∧ DataW.trod enc P w b0 sp held n f0.type X0 = some y0 ∧ DataW.trod enc P w b0 sp held n f1.type X1 = some y1 ∧ DataW.trod enc P w b0 sp held n f2.type X2 = some y2 ∧ DataW.trod enc P w b0 sp held n f3.type X3 = some y3 ∧ DataW.trod enc P w b0 sp held n f4.type X4 = some y4 ∧ DataW.trod enc P w b0 sp held n f5.type X5 = some y5 := by
  obtain ⟨y0, y1, y2, y3, y4, y5, n, hl, h0, h1, h2, h3, h4, h5⟩ := Qhs ht h
  obtain ⟨o0, o1, o2, o3, o4, o5⟩ := ho
  obtain ⟨c0, c1, c2, c3, c4, c5⟩ := hc
  rw [o0, c0] at h0
  rw [o1, c1] at h1
  rw [o2, c2] at h2
  rw [o3, c3] at h3
  rw [o4, c4] at h4
  rw [o5, c5] at h5
  refine ⟨_, _, _, _, _, _, y0, y1, y2, y3, y4, y5, n, ?_, h0, h1, h2, h3, h4, h5⟩
  rw [hC] at hl
  simp only [List.drop_zero]
  have e1 : cs.take (n0) ++ (cs.drop (n0)).take n1 = cs.take (n0 + n1) := by rw [List.take_add (i := n0)]
  have e2 : cs.take (n0 + n1) ++ (cs.drop (n0 + n1)).take n2 = cs.take (n0 + n1 + n2) := by rw [List.take_add (i := n0 + n1)]
  have e3 : cs.take (n0 + n1 + n2) ++ (cs.drop (n0 + n1 + n2)).take n3 = cs.take (n0 + n1 + n2 + n3) := by rw [List.take_add (i := n0 + n1 + n2)]
  have e4 : cs.take (n0 + n1 + n2 + n3) ++ (cs.drop (n0 + n1 + n2 + n3)).take n4 = cs.take (n0 + n1 + n2 + n3 + n4) := by rw [List.take_add (i := n0 + n1 + n2 + n3)]
  have e5 : cs.take (n0 + n1 + n2 + n3 + n4) ++ (cs.drop (n0 + n1 + n2 + n3 + n4)).take n5 = cs.take (n0 + n1 + n2 + n3 + n4 + n5) := by rw [List.take_add (i := n0 + n1 + n2 + n3 + n4)]
  rw [e1, e2, e3, e4, e5, List.take_of_length_le (by omega)]
end
end Go.Proofs.YtcmaolmofgmkhaaDoor.Auto
end
section
namespace Go.Proofs.YtcmaolmofgmkhaaDoor.Auto
open Go Go.RowKit
open Rely
set_option linter.unusedVariables false
end Go.Proofs.YtcmaolmofgmkhaaDoor.Auto
end
section
namespace Go.Proofs.YtcmaolmofgmkhaaDoor.Te
open Go Go.RowKit
open Rely Auto Own Sha
set_option linter.unusedVariables false
set_option linter.unusedSimpArgs false
open Go.WideShapes Go.ChangeShapes Go.ChangeAt Go.Deep
open Go.Proofs.YtcmaolmofgmkhaaDoor
section
variable {H : Type} {enc : TypeId × Value → H} {P : Program} {w : World} {b0 : Nat} {held : Bool}
theorem QhT (x : Addr) (i j : Nat) : (x.add i).add j = x.add (i + j) := by
  by_cases hi : i = 0 <;> by_cases hj : j = 0 <;> simp [Addr.add, hi, hj, Nat.add_assoc]
theorem open_tree {t s e5 e3 : TypeId} {f0 f1 f2 f3 f4 f5 : Field} {ad : Option Addr} {len cap : Nat} {d : DataW H} {p : List MemPlace} (hs : P.underlying t = some (.slice s)) (hss : P.underlying s = some (.struct #[f0, f1, f2, f3, f4, f5]))
    (ho : f0.offset = 0 ∧ f1.offset = 1 ∧ f2.offset = 1 + 1 ∧ f3.offset = 1 + 1 + 32 ∧ f4.offset = 1 + 1 + 32 + 32 ∧ f5.offset = 1 + 1 + 32 + 32 + 32) (hc : P.cellsOf f0.type = 1 ∧ P.cellsOf f1.type = 1 ∧ P.cellsOf f2.type = 32 ∧ P.cellsOf f3.type = 32 ∧ P.cellsOf f4.type = 32 ∧ P.cellsOf f5.type = 1) (hC : P.cellsOf s = 1 + 1 + 32 + 32 + 32 + 1)
    (h0 : P.underlying f0.type = some .bool) (h1 : P.underlying f1.type = some (.int .i64)) (h2 : P.underlying f2.type = some (.array 32 e5)) (h3 : P.underlying f3.type = some (.array 32 e5)) (h4 : P.underlying f4.type = some (.array 32 e5)) (h5 : P.underlying f5.type = some (.slice e3))
    (he5 : P.underlying e5 = some (.int .u8)) (hc5 : P.cellsOf e5 = 1) (he3 : P.underlying e3 = some (.int .i64)) (hc3 : P.cellsOf e3 = 1)
    (h : DataW.Trod enc P w b0 (fun _ => true) held t (.slice ad len cap) d p) :
    ∃ ts : List NdV, ts.length = len ∧ TrAt w.heap.size w ad ts ∧ ∀ n ∈ ts, NdOk n.n := by
  obtain ⟨fuel, hf⟩ := h
  rcases DataW.trod_slice hs hf with ⟨hcs', -⟩ | ⟨x, l, c, elems, rest, n, -, hcs', -, hb, hl, hmx, hlen, hel, -, -⟩
  · simp [Value.cells] at hcs'
    obtain ⟨rfl, rfl, rfl⟩ := hcs'
    exact ⟨[], rfl, ⟨0, 0, fun h => absurd h (by decide), fun i hi => absurd hi (Nat.not_lt_zero _)⟩, fun n hn => by cases hn⟩
  · simp [Value.cells] at hcs'
    obtain ⟨rfl, rfl, rfl⟩ := hcs'
    have key : ∀ i, i < len → ∃ n : NdV, (∀ j u, (cat (ndP n))[j]? = some u → w.cell? (x.add (i * 99 + j)) = some u) ∧ RdK .i64 w.heap.size n.n.ms (.slice n.a n.n.ms.length n.c) w ∧ NdOk n.n := fun i hi => by
      have h9 := hel i hi
      rw [hC, List.getElem?_eq_getElem (by omega)] at h9
      obtain ⟨cs, hc1, hc2⟩ := Option.bind_eq_some_iff.1 h9
      obtain ⟨hn, q1, q2⟩ := World.cells?_some hc1
      obtain ⟨X0, X1, X2, X3, X4, X5, y0, y1, y2, y3, y4, y5, m, hcs, t0, t1, t2, t3, t4, t5⟩ := Auto.sub_st6 hss ho hc hC hc2
      obtain ⟨us, rfl, -⟩ := DataW.trod_bool h0 t0
      obtain ⟨nm, rfl, -, -⟩ := DataW.trod_int h1 t1
      obtain ⟨key, rfl, hkl, hkb⟩ := Auto.open_raw h2 he5 hc5 hc.2.2.1 t2
      obtain ⟨sg, rfl, hgl, hgb⟩ := Auto.open_raw h3 he5 hc5 hc.2.2.2.1 t3
      obtain ⟨pa, rfl, hpl, hpb⟩ := Auto.open_raw h4 he5 hc5 hc.2.2.2.2.1 t4
      have fin : ∀ (a : Option Addr) (ms : List Int) (c : Nat), X5 = [.slice a ms.length c] → RdK .i64 w.heap.size ms (.slice a ms.length c) w → ∃ n : NdV, (∀ j u, (cat (ndP n))[j]? = some u → w.cell? (x.add (i * 99 + j)) = some u) ∧ RdK .i64 w.heap.size n.n.ms (.slice n.a n.n.ms.length n.c) w ∧ NdOk n.n := fun a ms c e r => by
        refine ⟨⟨⟨us, nm, key, sg, pa, ms⟩, a, c⟩, fun j u hu => ?_, r, ⟨hkl, hgl, hpl, hkb, hgb, hpb⟩⟩
        have e9 : (cat (ndP ⟨⟨us, nm, key, sg, pa, ms⟩, a, c⟩)).toList = cs := by
          rw [hcs, e]
          unfold ndP
          simp [cat, Rely.ints]
        rw [← Array.getElem?_toList, e9] at hu
        have hj : j < 99 := by have := (List.getElem?_eq_some_iff.1 hu).1; omega
        have := q2 j hj
        rw [QhT] at this
        rw [this]; exact hu
      rcases open_ints h5 he3 hc3 t5 with ⟨hcv, -⟩ | ⟨y, l, cc, zs, hcv, -, hl2, hm2, hz2, -, hcell, hwz⟩
      · exact fin none [] 0 hcv ⟨none, 0, rfl, Nat.le_refl _, Nat.zero_le _, fun _ => rfl, .inl rfl⟩
      · obtain ⟨r, rl, rf⟩ := Auto.rdK_of_row (k := .i64) (w := w) (a := some y) (len := l) (cap := cc) (zs := zs) (.inr ⟨y, rfl, hl2, hm2, by simpa using hz2, hcell, hwz⟩)
        refine fin (some y) (zs.take l) cc (by rw [rl]; exact hcv) ?_
        rw [rl]; exact r
    rcases Nat.eq_zero_or_pos len with h0' | h0'
    · subst h0'
      exact ⟨[], rfl, ⟨0, 0, fun h => absurd h (by decide), fun i hi => absurd hi (Nat.not_lt_zero _)⟩, fun n hn => by cases hn⟩
    obtain ⟨b, off, spot⟩ := x
    have first : ∀ n : NdV, (cat (ndP n))[0]? = some (.bool n.n.us) := fun n => by
      unfold ndP
      show (#[Value.bool n.n.us] ++ cat _)[0]? = _
      rw [Array.getElem?_append_left (show 0 < 1 by decide)]
      rfl
    obtain ⟨n0, hq, -⟩ := key 0 h0'
    have hq0 := hq 0 _ (first n0)
    have hspot : spot = none := by simpa [Addr.add] using World.cell?_spot hq0
    subst hspot
    rw [WideShapes.add_plain] at hq0
    have hlt : b < w.heap.size := Qdb hq0
    have all : ∀ m, m ≤ len → ∃ ts : List NdV, ts.length = m ∧ ∀ i, i < m → NdAt w.heap.size w b (off + i * 99) (ndi ts i) := by
      intro m
      induction m with
      | zero => exact fun _ => ⟨[], rfl, fun i hi => absurd hi (Nat.not_lt_zero _)⟩
      | succ m ih =>
        intro hm
        obtain ⟨ts, htl, hts⟩ := ih (by omega)
        obtain ⟨n, k1, k2, k3⟩ := key m (by omega)
        refine ⟨ts ++ [n], by rw [List.length_append, htl]; rfl, fun i hi => ?_⟩
        have e : ndi (ts ++ [n]) i = if i < m then ndi ts i else n := by
          unfold ndi
          rw [List.getD_eq_getElem?_getD, List.getD_eq_getElem?_getD]
          split
          · rename_i h; rw [List.getElem?_append_left (by omega)]
          · rename_i h
            rw [List.getElem?_append_right (by omega), show i - ts.length = 0 by omega]; rfl
        rw [e]
        split
        · rename_i h; exact hts i h
        · rename_i h
          obtain rfl : i = m := by omega
          exact ⟨hlt, hlt, fun j u hu => by have := k1 j u hu; rw [WideShapes.add_plain] at this; rw [Nat.add_assoc]; exact this, k2, k3⟩
    obtain ⟨ts, htl, hts⟩ := all len (Nat.le_refl _)
    refine ⟨ts, htl, ⟨b, off, fun _ => rfl, fun i hi => hts i (by omega)⟩, fun n hn => ?_⟩
    obtain ⟨i, hi, e⟩ := List.mem_iff_getElem.1 hn
    have := (hts i (by omega)).ok
    unfold ndi at this
    rw [List.getD_eq_getElem?_getD, List.getElem?_eq_getElem hi] at this
    rw [← e]; exact this
end
end Go.Proofs.YtcmaolmofgmkhaaDoor.Te
end
