/- burrownum's Copy, Same, Kept and Num; parts of slices. -/
import Derived.Test.YtfelfmchachljaaRestB
namespace Go.Proofs.Ytfelfmchachljaa.Sha
open Go Go.RowKit
open Go.Proofs.Ytfelfmchachljaa.Rely Go.Proofs.Ytfelfmchachljaa.Auto Go.Proofs.Ytfelfmchachljaa.Own
set_option linter.unusedVariables false
set_option linter.unusedSimpArgs false

section
variable {P : Program} {ρ : Operand → Value} {o : Oper} {w : World}
theorem run_makeC1 {k : IntKind} (t : TypeId) (x y : Operand) (kl kc : IntKind) (n : Nat) (e : TypeId) (ho : o.op = .makeSlice t x y) (hx : ρ x = .int kl 0) (hy : ρ y = .int kc n)
    (hu : P.underlying t = some (.slice e)) (hi : (P.info? e).map (fun i => (i.zero, i.size, i.bytes)) = some (some (.int k 0), 1, 1)) (hn : n ≤ 1000000000) :
    (execOp ρ o).run P w = .ok (.value (.slice (some ⟨w.heap.size, 0, none⟩) 0 n)) (w.alloc (.cells (ints k (List.replicate n 0)) e)) := by
  cases hq : P.info? e with
  | none => simp [hq] at hi
  | some i =>
    have hz : i.zero = some (.int k 0) ∧ i.size = 1 ∧ i.bytes = 1 := by simpa [hq] using hi
    have hb : (i.bytes : Int) * (n : Int) ≤ 281474976710656 := by rw [hz.2.2]; omega
    have h := run_make w t e i (.int k 0) hu hq hz.1 kl kc 0 (n : Int) (by omega) (by omega) hb (by omega)
    rw [hz.2.1, Int.toNat_natCast, made_ints] at h
    unfold execOp
    simp only [ho, hx, hy, Sem.run_bind, Sem.run_pure, h, Result.andThen_ok]
    rfl
theorem run_sliceH (t : TypeId) (x z : Operand) (h : Nat) (e : TypeId) (ho : o.op = .slice t x none (some z) none) {a : Option Addr} {len cap : Nat} (hx : ρ x = .slice a len cap)
    (hu : P.underlying t = some (.slice e)) (hs : (P.info? e).map (·.size) = some 1) (kz : IntKind) (hz : ρ z = .int kz (h : Int)) (h2 : h ≤ cap) :
    (execOp ρ o).run P w = .ok (.value (.slice a h cap)) w := by
  cases hq : P.info? e with
  | none => simp [hq] at hs
  | some i =>
    have hs' : i.size = 1 := by simpa [hq] using hs
    unfold execOp
    have hadd : ∀ a : Option Addr, Option.map (fun x => x.add 0) a = a := fun a => by
      cases a with
      | none => rfl
      | some a => obtain ⟨b, o, s⟩ := a; cases s <;> simp [Addr.add]
    simp [ho, hx, hz, Instr.sliceAt, Instr.slice, Instr.sliceBounds, run_sliceBound, run_underlying hu, sizeOf, typeInfo, hq, hs', h2, hadd]
end
section
variable {ds : List Deferred} {P : Program} {ops : Array Oper} {Q : Exit → Act → World → Prop} {rest : List Oper} {o : Oper} {N : Nat} {L : Env} {w : World}
theorem seq_makeC1 (cs : Array Value) (T : TypeId) (n d : Nat) (hd : o.dst = some d) (hg : wantB ops o N L = some true) (h : (execOp (Rely.look (envN N L)) o).run P w = .ok (.value (.slice (some ⟨w.heap.size, 0, none⟩) 0 n)) (w.alloc (.cells cs T)))
    (k : ∀ (g : Nat) (W : World), w.heap.size ≤ g → Ext w W → W.heap[g]? = some (.cells cs T) → WL P ops Q rest (actOf ds N ((d, .slice (some ⟨g, 0, none⟩) 0 n) :: L)) W) : WL P ops Q (o :: rest) (actOf ds N L) w :=
  seq_valw _ _ d hd hg h (k _ _ (Nat.le_refl _) (ext_alloc _ _) (heap_alloc_new _ _))
end
/-- a copy with its marks behind it -/
def CopyN (T : TypeId) (base : Nat) (t : List Int) (v : Value) (W : World) : Prop := ∃ g c, v = .slice (some ⟨g, 0, none⟩) t.length c ∧ OwnN .u8 T base (t ++ [165, 90]) (.slice (some ⟨g, 0, none⟩) (t ++ [165, 90]).length c) W
theorem CopyN.ext {T : TypeId} {base : Nat} {t : List Int} {v : Value} {W W' : World} (h : CopyN T base t v W) (e : Ext W W') : CopyN T base t v W' := by
  obtain ⟨g, c, rfl, h2⟩ := h
  exact ⟨g, c, rfl, h2.ext e⟩
theorem CopyN.rd {T : TypeId} {base : Nat} {t : List Int} {v : Value} {W : World} (h : CopyN T base t v W) : RdK .u8 W.heap.size t v W := by
  obtain ⟨g, c, rfl, h2⟩ := h
  obtain ⟨a, cap, e, q2, q3, q4, q5⟩ := OwnN.rd h2
  simp only [Value.slice.injEq] at e
  obtain ⟨rfl, -, rfl⟩ := e
  rw [List.length_append] at q2
  refine ⟨_, _, rfl, by omega, q3, q4, .inr ?_⟩
  rcases q5 with q5 | ⟨g', o, e1, e2, e3, e4⟩
  · simp at q5
  · refine ⟨g', o, e1, e2, e3, fun i hi => ?_⟩
    rw [e4 i (by rw [List.length_append]; omega)]
    simp [nth, List.getElem?_append_left hi]
theorem nth_mark0 (t : List Int) : nth (t ++ [165, 90]) t.length = 165 := by simp [nth]
theorem nth_mark1 (t : List Int) : nth (t ++ [165, 90]) (t.length + 1) = 90 := by simp [nth]
set_option maxHeartbeats 4000000 in
theorem copyC (t : List Int) (v : Value) (B : Nat) (w : World) (hlen : t.length ≤ 900000000) (hr : RdK .u8 B t v w) : Calls Try.prog 37 #[v] w (Gives w (CopyN 5 w.heap.size t)) := by
  obtain ⟨a_t, c_t, rfl, -⟩ := id hr
  refine enter 14 [(0, .slice a_t t.length c_t)] Try.func37 rfl rfl kj rfl ?_
  refine wp_seq_k fun K1 hK1 => ?_
  refine region_lit ?_
  refine seq_val (.slice none 0 0) 2 rfl kj kj ?_
  refine seq_nil ?_
  refine hK1 _ _ ?_
  try clear hK1 K1
  refine wp_seq_k fun K2 hK2 => ?_
  refine region_lit ?_
  refine seq_val (.slice a_t t.length c_t) 3 rfl kj kj ?_
  refine seq_val (.int .i64 ((t.length : Nat) : Int)) 4 rfl kj kj ?_
  refine seq_val (.int .i64 ((t.length + 2 : Nat) : Int)) 5 rfl kj (run_eq (u := .int .i64 (IntKind.i64.wrap (((t.length : Nat) : Int) + 2))) kj (congrArg (Value.int .i64) (i64n _ _ (by omega) (by omega)))) ?_
  refine seq_makeC1 (ints .u8 (List.replicate (t.length + 2) 0)) 5 (t.length + 2) 6 rfl kj (run_makeC1 26 _ _ .i64 .i64 (t.length + 2) 5 rfl kj kj kj kj (by omega)) fun g3 W1 l3 e1 r3_1 => ?_
  have x1 : Ext w W1 := Ext.tr (Rely.Ext.refl w) e1
  have b3 : w.heap.size ≤ g3 := Nat.le_trans (Rely.Ext.refl w).size l3
  have hz0 : OwnN .u8 5 w.heap.size [] (.slice (some ⟨g3, 0, none⟩) 0 (t.length + 2)) W1 := ownN_at (n := 0) rfl l3 r3_1 (by rw [ints_size, List.length_replicate]) (Nat.zero_le _) (by simp only [maxLen]; omega) rfl
  refine seq_val (.slice a_t t.length c_t) 7 rfl kj kj ?_
  have y0_1 : Ext w W1 := (Rely.Ext.trans (Rely.Ext.refl w) e1)
  refine seq_appendN (k := .u8) (T := 5) (xs := []) (ys := t) (V := w) 1 (.tmp 6) (.tmp 7) 26 rfl kj kj (by decide) 8 rfl kj kj kj hz0 (RdK.ext hr x1) (by simp only [List.length_nil]; omega) y0_1 fun z1 W2 f4 y2 l2 => ?_
  have x2 : Ext w W2 := Ext.low x1 l2 (Rely.Ext.refl w).size
  have hu6 : OwnN .u8 5 w.heap.size (t) z1 W2 := f4
  refine seq_makeS (ints .u8 ([165, 90])) 5 2 9 rfl kj kj fun g7 W3 l7 e3 r7_3 => ?_
  have x3 : Ext w W3 := Ext.tr x2 e3
  have b7 : w.heap.size ≤ g7 := Nat.le_trans x2.size l7
  have f8_3 := (hu6.ext e3)
  have y0_3 : Ext w W3 := (Rely.Ext.trans y2 e3)
  refine seq_appendN (k := .u8) (T := 5) (xs := t) (ys := [165, 90]) (V := w) 1 (.tmp 8) (.tmp 9) 26 rfl kj kj (by decide) 10 rfl kj kj kj f8_3 (rdK_ints (xs := [165, 90]) (n := 2) rfl r7_3 (row_lt r7_3) (show 2 ≤ maxLen from by decide)) (by simp only [List.length_cons, List.length_nil]; omega) y0_3 fun z2 W4 f9 y4 l4 => ?_
  have x4 : Ext w W4 := Ext.low x3 l4 (Rely.Ext.refl w).size
  have hu11 : OwnN .u8 5 w.heap.size (t ++ [165, 90]) z2 W4 := f9
  refine seq_val (.slice a_t t.length c_t) 11 rfl kj kj ?_
  refine seq_val (.int .i64 ((t.length : Nat) : Int)) 12 rfl kj kj ?_
  obtain ⟨gz, cz, cur, hzz, hz3, hz4, hz5, hz6, -, -⟩ := ownN_open hu11 (by simp)
  subst hzz
  rw [List.length_append] at hz6
  refine seq_val (.slice (some ⟨gz, 0, none⟩) t.length cz) 13 rfl kj (run_sliceH (len := (t ++ [165, 90]).length) 26 _ _ t.length 5 rfl kj kj kj .i64 kj (by omega)) ?_
  refine seq_val (.slice (some ⟨gz, 0, none⟩) t.length cz) 2 rfl kj kj ?_
  refine seq_nil ?_
  refine hK2 _ _ ?_
  try clear hK2 K2
  refine wp_ret ?_
  repeat (first | with_reducible refine goR1 ?_ | with_reducible refine goR2 ?_)
  exact (show bodyPost _ _ _ .ret _ _ from ret1 (.slice (some ⟨gz, 0, none⟩) t.length cz) rfl (res_tmp kj) ⟨_, rfl, x4, gz, cz, rfl, hu11⟩)
set_option maxHeartbeats 4000000 in
theorem sameC (x y : Value) (xs ys : List Int) (w : World) (hx : BytesAt w x xs) (hy : BytesAt w y ys) : Calls Try.prog 19 #[x, y] w (Ret w (.bool (decide (xs = ys)))) := by
  have hse : ((strOf xs).toList == (strOf ys).toList) = decide (xs = ys) := by
    obtain ⟨_, _, _, _, bx, _⟩ := hx
    obtain ⟨_, _, _, _, by', _⟩ := hy
    exact strOf_beq bx by'
  refine enter 10 [(0, x), (1, y)] Try.func19 rfl rfl kj rfl ?_
  refine wp_seq_k fun K1 hK1 => ?_
  refine region_lit ?_
  refine seq_val (.bool false) 4 rfl kj kj ?_
  refine seq_nil ?_
  refine hK1 _ _ ?_
  try clear hK1 K1
  refine wp_seq_k fun K2 hK2 => ?_
  refine region_lit ?_
  refine seq_val (x) 5 rfl kj kj ?_
  refine seq_val (.string (strOf xs)) 6 rfl kj (run_conv8 _ x rfl kj xs hx) ?_
  refine seq_val (y) 7 rfl kj kj ?_
  refine seq_val (.string (strOf ys)) 8 rfl kj (run_conv8 _ y rfl kj ys hy) ?_
  refine seq_val (.bool (decide (xs = ys))) 9 rfl kj (run_eq (u := .bool ((strOf xs).toList == (strOf ys).toList)) kj (congrArg Value.bool hse)) ?_
  refine seq_val (.bool (decide (xs = ys))) 4 rfl kj kj ?_
  refine seq_nil ?_
  refine hK2 _ _ ?_
  try clear hK2 K2
  refine wp_ret ?_
  repeat (first | with_reducible refine goR1 ?_ | with_reducible refine goR2 ?_)
  exact (show bodyPost _ _ _ .ret _ _ from ret1 (.bool (decide (xs = ys))) rfl (res_tmp kj) ⟨rfl, (Rely.Ext.refl w)⟩)
theorem sameT (x y : Value) (xs ys : List Int) (w : World) (e : xs = ys) (hx : BytesAt w x xs) (hy : BytesAt w y ys) : Calls Try.prog 19 #[x, y] w (Ret w (.bool true)) := by
  have h := sameC x y xs ys w hx hy
  rw [decide_eq_true e] at h
  exact h
def restA (a : Option Addr) (c l : Nat) : Option Addr := if c = l then a else a.map fun z => z.add l
theorem run_sliceD {P : Program} {ρ : Operand → Value} {o : Oper} {w : World} (t : TypeId) (x z : Operand) (l : Nat) (e : TypeId) (ho : o.op = .slice t x (some z) none none) {a : Option Addr} {len cap : Nat} (hx : ρ x = .slice a len cap)
    (hu : P.underlying t = some (.slice e)) (hs : (P.info? e).map (·.size) = some 1) (kz : IntKind) (hz : ρ z = .int kz (l : Int)) (h1 : l ≤ len) (h2 : len ≤ cap) :
    (execOp ρ o).run P w = .ok (.value (.slice (restA a cap l) (len - l) (cap - l))) w := by
  cases hq : P.info? e with
  | none => simp [hq] at hs
  | some i =>
    have hs' : i.size = 1 := by simpa [hq] using hs
    unfold execOp restA
    have hadd : ∀ a : Option Addr, Option.map (fun x => x.add 0) a = a := fun a => by
      cases a with
      | none => rfl
      | some a => obtain ⟨b, o, s⟩ := a; cases s <;> simp [Addr.add]
    by_cases hc : cap = l
    · simp [ho, hx, hz, Instr.sliceAt, Instr.slice, Instr.sliceBounds, run_sliceBound, run_underlying hu, sizeOf, typeInfo, hq, hs', h1, h2, hadd, hc]
    · simp [ho, hx, hz, Instr.sliceAt, Instr.slice, Instr.sliceBounds, run_sliceBound, run_underlying hu, sizeOf, typeInfo, hq, hs', h1, h2, hadd, hc]
theorem rdK_drop {k : IntKind} {B n c : Nat} {ys : List Int} {a : Option Addr} {W : World} (h : RdK k B ys (.slice a n c) W) (l : Nat) (hl : l ≤ ys.length) : RdK k B (ys.drop l) (.slice (restA a c l) (n - l) (c - l)) W := by
  obtain ⟨a', cap, e, h2, h3, h4, h5⟩ := h
  simp only [Value.slice.injEq] at e
  obtain ⟨rfl, rfl, rfl⟩ := e
  refine ⟨_, _, by rw [List.length_drop], by rw [List.length_drop]; omega, by omega, ?_, ?_⟩
  · intro e
    unfold restA at e
    split at e
    · omega
    · have := h4 (by cases a <;> simp_all); omega
  · rcases h5 with h5 | ⟨g, o, rfl, q2, q3, q4⟩
    · left; rw [h5]; simp
    · rcases Nat.lt_or_ge l ys.length with hlt | hge
      · right
        refine ⟨g, o + l, ?_, q2, q3, fun i hi => ?_⟩
        · unfold restA
          rw [if_neg (by omega), Option.map_some]
          simp [Addr.add]
        · rw [List.length_drop] at hi
          rw [Nat.add_assoc, q4 (l + i) (by omega)]
          simp [nth]
      · left; exact List.drop_of_length_le hge
theorem rdK_take {k : IntKind} {B n c : Nat} {ys : List Int} {a : Option Addr} {W : World} (h : RdK k B ys (.slice a n c) W) (l : Nat) (hl : l ≤ ys.length) : RdK k B (ys.take l) (.slice a l c) W := by
  obtain ⟨a', cap, e, h2, h3, h4, h5⟩ := h
  simp only [Value.slice.injEq] at e
  obtain ⟨rfl, rfl, rfl⟩ := e
  have hlen : (ys.take l).length = l := by rw [List.length_take]; omega
  refine ⟨_, _, by rw [hlen], by omega, h3, h4, ?_⟩
  rcases h5 with rfl | ⟨g, off, rfl, q2, q3, q4⟩
  · exact .inl (by simp)
  · refine .inr ⟨g, off, rfl, q2, q3, fun i hi => ?_⟩
    rw [hlen] at hi
    rw [q4 i (by omega)]
    simp [nth, List.getElem?_take, hi]
set_option maxHeartbeats 4000000 in
theorem keptC (t : List Int) (v y : Value) (B base : Nat) (w : World) (hlen : t.length ≤ 900000000) (hb : AreBytes t) (hv : CopyN 5 base t v w) (hr : RdK .u8 B t y w) : Calls Try.prog 44 #[v, y] w (Ret w (.bool true)) := by
  have hrc := hv.rd
  obtain ⟨g, c, rfl, hK⟩ := hv
  obtain ⟨a_t, c_t, rfl, -⟩ := id hr
  have hl2 : (t ++ [165, 90]).length = t.length + 2 := by simp
  have hcap : (t ++ [165, 90]).length ≤ c := by
    obtain ⟨_, _, e, q2, _⟩ := OwnN.rd hK
    simp only [Value.slice.injEq] at e
    obtain ⟨-, -, rfl⟩ := e
    exact q2
  have hcap2 : t.length + 2 ≤ c := by rw [← hl2]; exact hcap
  refine enter 39 [(0, .slice (some ⟨g, 0, none⟩) t.length c), (1, .slice a_t t.length c_t)] Try.func44 rfl rfl kj rfl ?_
  refine wp_seq_k fun K1 hK1 => ?_
  refine region_lit ?_
  refine seq_val (.bool false) 4 rfl kj kj ?_
  refine seq_nil ?_
  refine hK1 _ _ ?_
  try clear hK1 K1
  refine wp_seq_k fun K2 hK2 => ?_
  refine wp_seq_k fun K3 hK3 => ?_
  refine region_lit ?_
  refine seq_val (.slice (some ⟨g, 0, none⟩) t.length c) 6 rfl kj kj ?_
  refine seq_val (.string (strOf t)) 7 rfl kj (run_conv8 _ _ rfl kj t (hrc.bytes hb)) ?_
  refine seq_val (.slice a_t t.length c_t) 8 rfl kj kj ?_
  refine seq_val (.string (strOf t)) 9 rfl kj (run_conv8 _ _ rfl kj t (hr.bytes hb)) ?_
  refine seq_val (.bool false) 10 rfl kj (run_eq (u := .bool (!((strOf t).toList == (strOf t).toList))) kj (congrArg Value.bool (by simp))) ?_
  refine seq_val (.bool false) 11 rfl kj kj ?_
  refine seq_val (.slice (some ⟨g, 0, none⟩) t.length c) 12 rfl kj kj ?_
  refine seq_val (.int .i64 ((c : Nat) : Int)) 13 rfl kj kj ?_
  refine seq_val (.slice a_t t.length c_t) 14 rfl kj kj ?_
  refine seq_val (.int .i64 ((t.length : Nat) : Int)) 15 rfl kj kj ?_
  refine seq_val (.int .i64 ((t.length + 2 : Nat) : Int)) 16 rfl kj (run_eq (u := .int .i64 (IntKind.i64.wrap (((t.length : Nat) : Int) + 2))) kj (congrArg (Value.int .i64) (i64n _ _ (by omega) (by omega)))) ?_
  refine seq_val (.bool false) 17 rfl kj (run_eq (u := .bool (decide (((c : Nat) : Int) < ((t.length + 2 : Nat) : Int)))) kj (congrArg Value.bool (decide_eq_false (by omega)))) ?_
  refine seq_val (.bool false) 18 rfl kj kj ?_
  refine seq_nil ?_
  refine hK3 _ _ ?_
  try clear hK3 K3
  refine cond_false kj ?_
  refine wp_skip ?_
  refine hK2 _ _ ?_
  try clear hK2 K2
  refine wp_seq_k fun K4 hK4 => ?_
  refine region_lit ?_
  refine seq_val (.slice (some ⟨g, 0, none⟩) t.length c) 19 rfl kj kj ?_
  refine seq_val (.slice a_t t.length c_t) 20 rfl kj kj ?_
  refine seq_val (.int .i64 ((t.length : Nat) : Int)) 21 rfl kj kj ?_
  refine seq_val (.int .i64 ((((t ++ [165, 90]).length : Nat) : Int))) 22 rfl kj (run_eq (u := .int .i64 (IntKind.i64.wrap (((t.length : Nat) : Int) + 2))) kj (congrArg (Value.int .i64) (i64n _ _ (by rw [hl2]; omega) (by rw [hl2]; omega)))) ?_
  refine seq_val (.slice (some ⟨g, 0, none⟩) (t ++ [165, 90]).length c) 23 rfl kj (run_sliceH (len := t.length) 26 _ _ (t ++ [165, 90]).length 5 rfl kj kj kj .i64 kj hcap) ?_
  refine seq_val (.slice (some ⟨g, 0, none⟩) ((t ++ [165, 90]).length) c) 5 rfl kj kj ?_
  have hns_5 : (t ++ [165, 90]).length = t.length + 2 := hl2
  obtain ⟨gcs_5, ocs_5, has_5, hls_5, hcs_5⟩ := rdK_open (OwnN.rd hK) (by rw [hns_5]; omega)
  refine seq_nil ?_
  refine hK4 _ _ ?_
  try clear hK4 K4
  refine wp_seq_k fun K6 hK6 => ?_
  refine region_lit ?_
  refine seq_val (.slice (some ⟨g, 0, none⟩) ((t ++ [165, 90]).length) c) 24 rfl kj kj ?_
  refine seq_val (.slice a_t t.length c_t) 25 rfl kj kj ?_
  refine seq_val (.int .i64 ((t.length : Nat) : Int)) 26 rfl kj kj ?_
  refine seq_val (.pointer (some ⟨gcs_5, ocs_5 + t.length, none⟩)) 27 rfl kj (run_indexA 26 _ _ .i64 t.length gcs_5 ocs_5 ((t ++ [165, 90]).length) c 5 (some ⟨g, 0, none⟩) _ has_5 rfl rfl kj kj kj kj (Nat.lt_of_lt_of_eq (show t.length < t.length + 2 by omega) hns_5.symm)) ?_
  refine seq_val (.int .u8 (165)) 28 rfl kj (run_loadCell 5 _ _ (.int .u8 (165)) ((hcs_5 t.length (Nat.lt_of_lt_of_eq (show t.length < t.length + 2 by omega) hns_5.symm)).trans (congrArg (fun z => some (Value.int .u8 z)) (nth_mark0 t))) rfl kj kj) ?_
  refine seq_val (.bool true) 29 rfl kj kj ?_
  refine seq_val (.bool true) 30 rfl kj kj ?_
  refine seq_val (.slice (some ⟨g, 0, none⟩) ((t ++ [165, 90]).length) c) 31 rfl kj kj ?_
  refine seq_val (.slice a_t t.length c_t) 32 rfl kj kj ?_
  refine seq_val (.int .i64 ((t.length : Nat) : Int)) 33 rfl kj kj ?_
  refine seq_val (.int .i64 ((t.length + 1 : Nat) : Int)) 34 rfl kj (run_eq (u := .int .i64 (IntKind.i64.wrap (((t.length : Nat) : Int) + 1))) kj (congrArg (Value.int .i64) (i64n _ _ (by omega) (by omega)))) ?_
  refine seq_val (.pointer (some ⟨gcs_5, ocs_5 + (t.length + 1), none⟩)) 35 rfl kj (run_indexA 26 _ _ .i64 (t.length + 1) gcs_5 ocs_5 ((t ++ [165, 90]).length) c 5 (some ⟨g, 0, none⟩) _ has_5 rfl rfl kj kj kj kj (Nat.lt_of_lt_of_eq (show t.length + 1 < t.length + 2 by omega) hns_5.symm)) ?_
  refine seq_val (.int .u8 (90)) 36 rfl kj (run_loadCell 5 _ _ (.int .u8 (90)) ((hcs_5 (t.length + 1) (Nat.lt_of_lt_of_eq (show t.length + 1 < t.length + 2 by omega) hns_5.symm)).trans (congrArg (fun z => some (Value.int .u8 z)) (nth_mark1 t))) rfl kj kj) ?_
  refine seq_val (.bool true) 37 rfl kj kj ?_
  refine seq_val (.bool true) 38 rfl kj kj ?_
  refine seq_val (.bool true) 4 rfl kj kj ?_
  refine seq_nil ?_
  refine hK6 _ _ ?_
  try clear hK6 K6
  refine wp_ret ?_
  repeat (first | with_reducible refine goR1 ?_ | with_reducible refine goR2 ?_)
  exact (show bodyPost _ _ _ .ret _ _ from ret1 (.bool true) rfl (res_tmp kj) ⟨rfl, (Rely.Ext.refl w)⟩)
set_option maxHeartbeats 4000000 in
theorem numZ (w : World) : Calls Try.prog 93 #[.nilIface] w (Ret w (.int .i64 0)) := by
  refine enter 19 [(0, .nilIface)] Try.func93 rfl rfl kj rfl ?_
  refine wp_seq_k fun K1 hK1 => ?_
  refine region_lit ?_
  refine seq_val (.int .i64 0) 2 rfl kj kj ?_
  refine seq_nil ?_
  refine hK1 _ _ ?_
  try clear hK1 K1
  refine wp_seq_k fun K2 hK2 => ?_
  refine wp_seq_k fun K3 hK3 => ?_
  refine region_lit ?_
  refine seq_val (.nilIface) 5 rfl kj kj ?_
  refine seq_val (.bool true) 6 rfl kj kj ?_
  refine seq_nil ?_
  refine hK3 _ _ ?_
  try clear hK3 K3
  refine cond_true kj ?_
  refine wp_seq_k fun K4 hK4 => ?_
  refine region_lit ?_
  refine seq_val (.int .i64 0) 2 rfl kj kj ?_
  refine seq_nil ?_
  refine hK4 _ _ ?_
  try clear hK4 K4
  refine wp_ret ?_
  repeat (first | with_reducible refine goR1 ?_ | with_reducible refine goR2 ?_)
  exact (show bodyPost _ _ _ .ret _ _ from ret1 (.int .i64 0) rfl (res_tmp kj) ⟨rfl, (Rely.Ext.refl w)⟩)
set_option maxHeartbeats 4000000 in
theorem numE (n : Int) (h0 : n ≠ 0) (w : World) : Calls Try.prog 93 #[.iface 102 (.int .i64 n)] w (Ret w (.int .i64 n)) := by
  refine enter 19 [(0, .iface 102 (.int .i64 n))] Try.func93 rfl rfl kj rfl ?_
  refine wp_seq_k fun K1 hK1 => ?_
  refine region_lit ?_
  refine seq_val (.int .i64 0) 2 rfl kj kj ?_
  refine seq_nil ?_
  refine hK1 _ _ ?_
  try clear hK1 K1
  refine wp_seq_k fun K2 hK2 => ?_
  refine wp_seq_k fun K3 hK3 => ?_
  refine region_lit ?_
  refine seq_val (.iface 102 (.int .i64 n)) 5 rfl kj kj ?_
  refine seq_val (.bool false) 6 rfl kj kj ?_
  refine seq_nil ?_
  refine hK3 _ _ ?_
  try clear hK3 K3
  refine cond_false kj ?_
  refine wp_skip ?_
  refine hK2 _ _ ?_
  try clear hK2 K2
  refine wp_seq_k fun K4 hK4 => ?_
  refine region_lit ?_
  refine seq_val (.iface 102 (.int .i64 n)) 8 rfl kj kj ?_
  refine seq_val (.tuple #[.int .i64 n, .bool true]) 9 rfl kj kj ?_
  refine seq_val (.tuple #[.int .i64 n, .bool true]) 7 rfl kj kj ?_
  refine seq_val (.int .i64 n) 10 rfl kj kj ?_
  refine seq_val (.bool true) 11 rfl kj kj ?_
  refine seq_val (.int .i64 n) 3 rfl kj kj ?_
  refine seq_val (.bool true) 4 rfl kj kj ?_
  refine seq_nil ?_
  refine hK4 _ _ ?_
  try clear hK4 K4
  refine wp_seq_k fun K5 hK5 => ?_
  refine wp_seq_k fun K6 hK6 => ?_
  refine region_lit ?_
  refine seq_val (.bool true) 12 rfl kj kj ?_
  refine seq_val (.bool false) 13 rfl kj kj ?_
  refine seq_val (.bool false) 14 rfl kj kj ?_
  refine seq_val (.int .i64 n) 15 rfl kj kj ?_
  refine seq_val (.bool false) 16 rfl kj (run_eq (u := .bool ((n == 0))) kj (congrArg Value.bool (beq_eq_false_iff_ne.2 h0))) ?_
  refine seq_val (.bool false) 17 rfl kj kj ?_
  refine seq_nil ?_
  refine hK6 _ _ ?_
  try clear hK6 K6
  refine cond_false kj ?_
  refine wp_skip ?_
  refine hK5 _ _ ?_
  try clear hK5 K5
  refine wp_seq_k fun K7 hK7 => ?_
  refine region_lit ?_
  refine seq_val (.int .i64 n) 18 rfl kj kj ?_
  refine seq_val (.int .i64 n) 2 rfl kj kj ?_
  refine seq_nil ?_
  refine hK7 _ _ ?_
  try clear hK7 K7
  refine wp_ret ?_
  repeat (first | with_reducible refine goR1 ?_ | with_reducible refine goR2 ?_)
  exact (show bodyPost _ _ _ .ret _ _ from ret1 (.int .i64 n) rfl (res_tmp kj) ⟨rfl, (Rely.Ext.refl w)⟩)

end Go.Proofs.Ytfelfmchachljaa.Sha
