/- The key schedule: all secrets that follow. -/
import Derived.Test.YtamlhbbphnamnaaDoorSchA
import Derived.Maps.RangeRun
namespace Go.Proofs.YtamlhbbphnamnaaDoor.Sha
open Go Go.RowKit
open Go.Proofs.YtamlhbbphnamnaaDoor.Rely Go.Proofs.YtamlhbbphnamnaaDoor.Auto Go.Proofs.YtamlhbbphnamnaaDoor.Own
set_option linter.unusedVariables false
set_option linter.unusedSimpArgs false

def sWelcome : ByteArray := ⟨#[119, 101, 108, 99, 111, 109, 101]⟩
def sEpoch : ByteArray := ⟨#[101, 112, 111, 99, 104]⟩
def sConfirm : ByteArray := ⟨#[99, 111, 110, 102, 105, 114, 109]⟩
def sPackets : ByteArray := ⟨#[112, 97, 99, 107, 101, 116, 115]⟩
def sExport : ByteArray := ⟨#[101, 120, 112, 111, 114, 116]⟩
def sInit : ByteArray := ⟨#[105, 110, 105, 116]⟩
def sJoiner : ByteArray := ⟨#[106, 111, 105, 110, 101, 114]⟩
theorem fill_pre (pl : Nat → Option (Nat × Nat)) : ∀ (ps : List (Nat × Nat × Value × Array Value)) (pre : List (Array Value)) (rest : Array Value) (off : Nat), (cat pre).size = off → okPl pl off ps → tot ps ≤ rest.size →
    Instr.fill pl (cat pre ++ rest) (ps.map fun x => (x.1, x.2.2.1)) = some (cat (pre ++ ps.map fun x => x.2.2.2) ++ rest.extract (tot ps) rest.size)
  | [], pre, rest, off, _, _, ht => by
    simp [Instr.fill, tot]
  | (i, n, v, p) :: r, pre, rest, off, hoff, ⟨h1, h2, h3, h4⟩, ht => by
    subst h2
    have hn : n ≤ rest.size := by rw [tot] at ht; omega
    simp only [List.map_cons, Instr.fill, h1, h3]
    rw [if_neg (by simp; omega)]
    have hz : (v.cells.zipIdx.foldl (fun cs (x : Value × Nat) => cs.setIfInBounds (off + x.2) x.1) (cat pre ++ rest)) = cat (pre ++ [v.cells]) ++ rest.extract n rest.size := by
      have e1 : v.cells.zipIdx = (v.cells.toList.zipIdx 0).toArray := by
        apply Array.ext'
        simp
      rw [e1, List.foldl_toArray', foldl_splice]
      · have e2 : rest = rest.extract 0 n ++ rest.extract n rest.size := by
          rw [Array.extract_append_extract, Nat.max_eq_right hn]
          simp
        have e3 : (cat pre ++ rest) = cat (pre ++ ([rest.extract 0 n] ++ [rest.extract n rest.size])) := by
          rw [cat_append]
          congr 1
        rw [Nat.add_zero, e3]
        have := cat_splice pre [rest.extract 0 n] [v.cells] [rest.extract n rest.size] off hoff (by show v.cells.size = (rest.extract 0 n).size; simp; omega)
        rw [show (cat [v.cells]).toList = v.cells.toList from rfl] at this
        rw [this, ← List.append_assoc, cat_append (pre ++ [v.cells])]
        rfl
      · rfl
    have key := fill_pre pl r (pre ++ [v.cells]) (rest.extract n rest.size) (off + n) (by rw [cat_append]; show (cat pre ++ v.cells).size = _; simp; omega) h4 (by rw [tot] at ht; simp; omega)
    rw [← hz] at key
    rw [List.append_assoc] at key
    rw [key, tot]
    congr 2
    rw [Array.extract_extract]
    simp
    congr 1
    rw [tot] at ht
    omega
theorem run_buildB {P : Program} {ρ : Operand → Value} {o : Oper} {w : World} (t : TypeId) (parts : Array (Nat × Operand)) (z : Value) (places : Array (Nat × Nat)) (ps : List (Nat × Nat × Value × Array Value)) (rest : List (Array Value))
    (ho : o.op = .build t parts) (hv : (parts.map fun (i, x) => (i, ρ x)).toList = ps.map fun x => (x.1, x.2.2.1)) (hp : okPl (fun i => places[i]?) 0 ps) (ht : tot ps ≤ z.cells.size) (hr : z.cells.extract (tot ps) z.cells.size = cat rest)
    (hz : (zeroValue t).run P w = .ok z w) (hu : P.underlying t = some (.struct (P.fieldsOf t))) (hm : ((P.fieldsOf t).mapM fun f => do pure (f.offset, ← sizeOf f.type) : Sem (Array (Nat × Nat))).run P w = .ok places w) :
    (execOp ρ o).run P w = .ok (.value (.agg (cat ((ps.map fun x => x.2.2.2) ++ rest)))) w := by
  have := fill_pre (fun i => places[i]?) ps [] z.cells 0 rfl hp ht
  rw [show cat [] ++ z.cells = z.cells by simp [cat], List.nil_append, hr, ← cat_append] at this
  rw [← hv] at this
  have hB : (Instr.build t (parts.map fun (i, x) => (i, ρ x))).run P w = .ok (.agg (cat ((ps.map fun x => x.2.2.2) ++ rest))) w := by
    unfold Instr.build
    rw [Sem.run_bind, hz, Result.andThen_ok, Sem.run_bind, run_underlying hu w, Result.andThen_ok]
    show (Sem.run P _ w) = _
    rw [Sem.run_bind, hm, Result.andThen_ok]
    simp only [this]
    rfl
  unfold execOp
  simp only [ho, Sem.run_bind, hB, Result.andThen_ok, Sem.run_pure]
section
variable {ds : List Deferred} {P : Program} {ops : Array Oper} {Q : Exit → Act → World → Prop} {rest : List Oper} {o : Oper} {N : Nat} {L : Env} {w : World}
/-- a new object, and what points to it -/
theorem seq_newO (ob : Obj) (mk : Nat → Value) (d : Nat) (hd : o.dst = some d) (hg : wantB ops o N L = some true) (h : (execOp (Rely.look (envN N L)) o).run P w = .ok (.value (mk w.heap.size)) (w.alloc ob))
    (k : ∀ (g : Nat) (W : World), w.heap.size ≤ g → Ext w W → W.heap[g]? = some ob → WL P ops Q rest (actOf ds N ((d, mk g) :: L)) W) : WL P ops Q (o :: rest) (actOf ds N L) w :=
  seq_valw _ _ d hd hg h (k _ _ (Nat.le_refl _) (ext_alloc _ _) (heap_alloc_new _ _))
theorem seq_turnO (g : Nat) (old ob : Obj) (r : w.heap[g]? = some old) (hd : o.dst = none) (hg : wantB ops o N L = some true) (h : (execOp (Rely.look (envN N L)) o).run P w = .ok .skip (ChangeMaps.setBlock w g ob))
    (k : ∀ W : World, Puts w g W → W.heap[g]? = some ob → WL P ops Q rest (actOf ds N L) W) : WL P ops Q (o :: rest) (actOf ds N L) w :=
  seq_voidw _ hd hg h (k _ ⟨rfl, rfl, rfl, by simp [ChangeMaps.setBlock], fun i hi => by simp only [ChangeMaps.setBlock]; exact Array.getElem?_setIfInBounds_ne (fun e => hi e.symm)⟩ (by simp only [ChangeMaps.setBlock]; exact Array.getElem?_setIfInBounds_self_of_lt (row_lt r)))
end
section
variable {P : Program} {ρ : Operand → Value} {o : Oper} {w : World}
theorem run_insertS (t : TypeId) (m k x : Operand) {kt et : TypeId} {g : Nat} {key val : Value} {es : Array MapEntry} {clock : Nat} (ho : o.op = .insert t m k x) (hm : ρ m = .map (some g)) (hk : ρ k = key) (hx : ρ x = val)
    (ht : P.underlying t = some (.map kt et)) (hg : w.heap[g]? = some (.map es clock)) (hc : ∀ n, n = 10000 → (Instr.checkKey false n kt key).run P w = .ok () w) (hf : (Instr.findKey kt key es.toList).run P w = .ok none w) :
    (execOp ρ o).run P w = .ok .skip (ChangeMaps.setBlock w g (.map (es.push { key := key, val := val, born := clock }) (clock + 1))) := by
  have hs : (setObj g (.map (es.push { key := key, val := val, born := clock }) (clock + 1))).run P w = .ok () (ChangeMaps.setBlock w g (.map (es.push { key := key, val := val, born := clock }) (clock + 1))) := by
    simp [setObj, Sem.run, hg, ChangeMaps.setBlock]
  have hgo : (getObj g).run P w = .ok (.map es clock) w := by simp [getObj, Sem.run, hg]
  have hc' := hc _ rfl
  have hmu : (Instr.mapUpdate t (.map (some g)) key val).run P w = .ok () (ChangeMaps.setBlock w g (.map (es.push { key := key, val := val, born := clock }) (clock + 1))) := by
    unfold Instr.mapUpdate
    rw [Sem.run_bind, run_underlying ht]
    show ((getObj g) >>= _).run P w = _
    rw [Sem.run_bind, hgo]
    show ((Instr.checkKey false 10000 kt key) >>= _).run P w = _
    rw [Sem.run_bind, hc']
    show ((Instr.findKey kt key es.toList) >>= _).run P w = _
    rw [Sem.run_bind, hf]
    exact hs
  unfold execOp
  rw [ho]
  show ((Instr.mapUpdate t (ρ m) (ρ k) (ρ x)) >>= _).run P w = _
  rw [hm, hk, hx, Sem.run_bind, hmu]
  rfl
theorem run_rangeS (t : TypeId) (x : Operand) {kt et : TypeId} {g : Nat} {es : Array MapEntry} {clock : Nat} (ho : o.op = .range t x) (hx : ρ x = .map (some g)) (ht : P.underlying t = some (.map kt et)) (hg : w.heap[g]? = some (.map es clock)) :
    (execOp ρ o).run P w = .ok (.value (.pointer (some ⟨w.heap.size, 0, none⟩))) (w.alloc (.mapIter (some g) clock #[] clock)) := by
  have hgo : (getObj g).run P w = .ok (.map es clock) w := by simp [getObj, Sem.run, hg]
  unfold execOp
  simp only [ho, hx, Instr.range, Sem.run_bind, run_underlying ht, hgo, Result.andThen_ok, Sem.run_pure, run_newObj_alloc]
theorem run_nextS (x : Operand) {r : Nat} {v : Value} {w1 : World} (ho : o.op = .next x false) (hx : ρ x = .pointer (some ⟨r, 0, none⟩)) (h : (Instr.next (.pointer (some ⟨r, 0, none⟩)) false o.type).run P w = .ok v w1) : (execOp ρ o).run P w = .ok (.value v) w1 := by
  unfold execOp
  simp only [ho, hx, Sem.run_bind, h, Result.andThen_ok, Sem.run_pure]
theorem run_entryS (x : Operand) {r : Nat} {v : Value} (ho : o.op = .entry x) (hx : ρ x = .pointer (some ⟨r, 0, none⟩)) (h : (Instr.entry (.pointer (some ⟨r, 0, none⟩))).run P w = .ok v w) : (execOp ρ o).run P w = .ok (.value v) w := by
  unfold execOp
  simp only [ho, hx, Sem.run_bind, h, Result.andThen_ok, Sem.run_pure]
end
theorem puts_set1 {w w1 : World} {g : Nat} {old : Obj} (ob : Obj) (h : w1 = w ∨ w1 = w.drew) (r : w.heap[g]? = some old) : Puts w g (ChangeMaps.setBlock w1 g ob) ∧ (ChangeMaps.setBlock w1 g ob).heap[g]? = some ob := by
  have hh : w1.heap = w.heap ∧ w1.os = w.os ∧ w1.tape = w.tape ∧ w1.output = w.output := by
    rcases h with rfl | rfl
    · exact ⟨rfl, rfl, rfl, rfl⟩
    · exact ⟨rfl, (ext_drew w).os, (ext_drew w).tape, (ext_drew w).output⟩
  refine ⟨⟨hh.2.1, hh.2.2.1, hh.2.2.2, by simp [ChangeMaps.setBlock, hh.1], fun i hi => ?_⟩, ?_⟩
  · simp only [ChangeMaps.setBlock, hh.1]; exact Array.getElem?_setIfInBounds_ne (fun e => hi e.symm)
  · simp only [ChangeMaps.setBlock, hh.1]; exact Array.getElem?_setIfInBounds_self_of_lt (row_lt r)
/-- of a choice of two lists -/
def pick (b : Bool) (x y : List Int) : List Int := bif b then x else y
theorem pick_len (b : Bool) {x y : List Int} {n : Nat} (hx : x.length = n) (hy : y.length = n) : (pick b x y).length = n := by cases b <;> assumption
theorem zer_len : (List.replicate 32 (0 : Int)).length = 32 := by decide
/-- how many are left -/
def cnt4 (a b c d : Bool) : Nat := (bif a then 0 else 1) + (bif b then 0 else 1) + (bif c then 0 else 1) + (bif d then 0 else 1)
theorem born4 (k0 k1 k2 k3 v0 v1 v2 v3 : Value) : ∀ e ∈ (#[⟨k0, v0, 0⟩, ⟨k1, v1, 1⟩, ⟨k2, v2, 2⟩, ⟨k3, v3, 3⟩] : Array MapEntry).toList, e.born < 4 := by
  intro e he
  simp at he
  rcases he with rfl | rfl | rfl | rfl
  · exact (by decide : 0 < 4)
  · exact (by decide : 1 < 4)
  · exact (by decide : 2 < 4)
  · exact (by decide : 3 < 4)
theorem nodup4 (k0 k1 k2 k3 v0 v1 v2 v3 : Value) : ((#[⟨k0, v0, 0⟩, ⟨k1, v1, 1⟩, ⟨k2, v2, 2⟩, ⟨k3, v3, 3⟩] : Array MapEntry).toList.map (·.born)).Nodup := by
  show [0, 1, 2, 3].Nodup
  decide
/-- which of the four were seen -/
def SeenIs (seen : Array Nat) (a b c d : Bool) : Prop := seen.contains 0 = a ∧ seen.contains 1 = b ∧ seen.contains 2 = c ∧ seen.contains 3 = d
theorem seen_0 : SeenIs #[] false false false false := ⟨by simp, by simp, by simp, by simp⟩
theorem seenP0 {seen : Array Nat} {a b c d : Bool} (h : SeenIs seen a b c d) : SeenIs (seen.push 0) true b c d := by
  obtain ⟨h1, h2, h3, h4⟩ := h
  refine ⟨?_, ?_, ?_, ?_⟩ <;> simp [h1, h2, h3, h4] <;> simp_all
theorem seenP1 {seen : Array Nat} {a b c d : Bool} (h : SeenIs seen a b c d) : SeenIs (seen.push 1) a true c d := by
  obtain ⟨h1, h2, h3, h4⟩ := h
  refine ⟨?_, ?_, ?_, ?_⟩ <;> simp [h1, h2, h3, h4] <;> simp_all
theorem seenP2 {seen : Array Nat} {a b c d : Bool} (h : SeenIs seen a b c d) : SeenIs (seen.push 2) a b true d := by
  obtain ⟨h1, h2, h3, h4⟩ := h
  refine ⟨?_, ?_, ?_, ?_⟩ <;> simp [h1, h2, h3, h4] <;> simp_all
theorem seenP3 {seen : Array Nat} {a b c d : Bool} (h : SeenIs seen a b c d) : SeenIs (seen.push 3) a b c true := by
  obtain ⟨h1, h2, h3, h4⟩ := h
  refine ⟨?_, ?_, ?_, ?_⟩ <;> simp [h1, h2, h3, h4] <;> simp_all
theorem left_none (seen : Array Nat) (a b c d : Bool) (h : SeenIs seen a b c d) (k0 k1 k2 k3 v0 v1 v2 v3 : Value) (h0 : (leftOf #[⟨k0, v0, 0⟩, ⟨k1, v1, 1⟩, ⟨k2, v2, 2⟩, ⟨k3, v3, 3⟩] seen).size = 0) : a = true ∧ b = true ∧ c = true ∧ d = true := by
  obtain ⟨h1, h2, h3, h4⟩ := h
  have e : leftOf #[⟨k0, v0, 0⟩, ⟨k1, v1, 1⟩, ⟨k2, v2, 2⟩, ⟨k3, v3, 3⟩] seen = #[] := Array.eq_empty_of_size_eq_zero h0
  unfold leftOf at e
  rw [Array.filter_eq_empty_iff] at e
  have q0 := e ⟨k0, v0, 0⟩ (by simp)
  have q1 := e ⟨k1, v1, 1⟩ (by simp)
  have q2 := e ⟨k2, v2, 2⟩ (by simp)
  have q3 := e ⟨k3, v3, 3⟩ (by simp)
  simp only [h1, h2, h3, h4] at q0 q1 q2 q3
  refine ⟨?_, ?_, ?_, ?_⟩ <;> simp_all
theorem left_one (seen : Array Nat) (a b c d : Bool) (h : SeenIs seen a b c d) (k0 k1 k2 k3 v0 v1 v2 v3 : Value) {e : MapEntry} (he : e ∈ (leftOf #[⟨k0, v0, 0⟩, ⟨k1, v1, 1⟩, ⟨k2, v2, 2⟩, ⟨k3, v3, 3⟩] seen).toList) :
    (e = ⟨k0, v0, 0⟩ ∧ a = false) ∨ (e = ⟨k1, v1, 1⟩ ∧ b = false) ∨ (e = ⟨k2, v2, 2⟩ ∧ c = false) ∨ (e = ⟨k3, v3, 3⟩ ∧ d = false) := by
  obtain ⟨h1, h2, h3, h4⟩ := h
  unfold leftOf at he
  rw [Array.mem_toList_iff, Array.mem_filter] at he
  obtain ⟨hm, hs⟩ := he
  simp at hm
  rcases hm with rfl | rfl | rfl | rfl
  · left; refine ⟨rfl, ?_⟩; simp only [h1] at hs; simpa using hs
  · right; left; refine ⟨rfl, ?_⟩; simp only [h2] at hs; simpa using hs
  · right; right; left; refine ⟨rfl, ?_⟩; simp only [h3] at hs; simpa using hs
  · right; right; right; refine ⟨rfl, ?_⟩; simp only [h4] at hs; simpa using hs
set_option maxRecDepth 100000 in
set_option maxHeartbeats 4000000 in
theorem joinedN (j ctx : List Int) (v2 : Value) (B2 : Nat) (tc tq : TypeId) (w : World) (hc : w.heap[1]? = some (.cells (ints .u64 cubesI) tc)) (hq : w.heap[0]? = some (.cells (ints .u64 squaresI) tq)) (hjl : j.length = 32) (hjb : AreBytes j) (hxb : AreBytes ctx) (hx : RdK .u8 B2 ctx v2 w) (jw ep f3 f4 f5 f6 : List Int) (ejw : jw = deriveV j (strB sWelcome)) (eep : ep = labV j (strB sEpoch) ctx) (ef3 : f3 = deriveV ep (strB sConfirm)) (ef4 : f4 = deriveV ep (strB sPackets)) (ef5 : f5 = deriveV ep (strB sExport)) (ef6 : f6 = deriveV ep (strB sInit)) : Calls Tryd.prog 32 #[.agg (ints .u8 j), v2] w (Ret w (.agg (cat [ints .u8 j, ints .u8 jw, ints .u8 ep, ints .u8 f3, ints .u8 f4, ints .u8 f5, ints .u8 f6]))) := by
  obtain ⟨a_ctx, c_ctx, rfl, -⟩ := id hx
  have ljw : jw.length = 32 := by rw [ejw]; exact deriveV_len _ _
  have lep : ep.length = 32 := by rw [eep]; exact labV_len _ _ _
  have lf3 : f3.length = 32 := by rw [ef3]; exact deriveV_len _ _
  have lf4 : f4.length = 32 := by rw [ef4]; exact deriveV_len _ _
  have lf5 : f5.length = 32 := by rw [ef5]; exact deriveV_len _ _
  have lf6 : f6.length = 32 := by rw [ef6]; exact deriveV_len _ _
  have bep : AreBytes ep := by rw [eep]; exact labV_bytes _ _ _
  refine enter 34 [(0, .agg (ints .u8 (j))), (1, .slice a_ctx ctx.length c_ctx)] Tryd.func32 rfl rfl kj rfl ?_
  refine wp_seq_k fun K3 hK3 => ?_
  refine region_lit ?_
  refine seq_alloc (ints .u8 (j)) 26 2 rfl kj kj fun g4 W1 l4 e1 r4_1 => ?_
  have x1 : Ext w W1 := Ext.tr (Rely.Ext.refl w) e1
  have b4 : w.heap.size ≤ g4 := Nat.le_trans (Rely.Ext.refl w).size l4
  refine seq_alloc (cat [ints .u8 (List.replicate 32 0), ints .u8 (List.replicate 32 0), ints .u8 (List.replicate 32 0), ints .u8 (List.replicate 32 0), ints .u8 (List.replicate 32 0), ints .u8 (List.replicate 32 0), ints .u8 (List.replicate 32 0)]) 56 4 rfl kj kj fun g5 W2 l5 e2 r5_2 => ?_
  have x2 : Ext w W2 := Ext.tr x1 e2
  have b5 : w.heap.size ≤ g5 := Nat.le_trans x1.size l5
  refine seq_nil ?_
  refine hK3 _ _ ?_
  try clear hK3 K3
  refine wp_seq_k fun K6 hK6 => ?_
  refine any_regionE 8 [⟨none, [(2, none)]⟩, ⟨none, [(2, none)]⟩, ⟨none, [(9, some 1)]⟩, ⟨none, [(2, none)]⟩, ⟨none, [(1, none)]⟩, ⟨none, [(11, some 3), (12, some 4)]⟩, ⟨none, [(8, some 0), (10, some 2), (13, some 5)]⟩, ⟨none, []⟩] kj kj fun F hF => ?_
  have r4_2 := (row_ext r4_1 e2)
  refine e_read (rl_ext _) (.agg (ints .u8 (j))) kj kj (fun W hR => (run_load_row 26 _ g4 26 _ _ (row_ext (row_ext r4_2 (ext_drew _)) hR) rfl kj kj (isz (n := 32) kj ((ints_size _ _).trans hjl)))) ?_
  refine e_read (rl_ext _) (.agg (ints .u8 (j))) kj kj (fun W hR => (run_load_row 26 _ g4 26 _ _ (row_ext (row_ext r4_2 (ext_drew _)) hR) rfl kj kj (isz (n := 32) kj ((ints_size _ _).trans hjl)))) ?_
  have r1_1 := (row_ext hc e1)
  have r1_2 := (row_ext r1_1 e2)
  have r2_1 := (row_ext hq e1)
  have r2_2 := (row_ext r2_1 e2)
  refine e_call (rl_ext _) (.agg (ints .u8 (jw))) 49 #[.agg (ints .u8 (j)), .string sWelcome] kj kj (fun W => by kernel_rfl) (fun W hR => (by rw [ejw]; exact deriveC j sWelcome tc tq W (row_ext (row_ext r1_2 (ext_drew _)) hR) (row_ext (row_ext r2_2 (ext_drew _)) hR) hjl hjb)) ?_
  refine e_read (rl_ext _) (.agg (ints .u8 (j))) kj kj (fun W hR => (run_load_row 26 _ g4 26 _ _ (row_ext (row_ext r4_2 (ext_drew _)) hR) rfl kj kj (isz (n := 32) kj ((ints_size _ _).trans hjl)))) ?_
  refine e_val (rl_ext _) (.slice a_ctx ctx.length c_ctx) kj kj (fun W => by kernel_rfl) ?_
  refine e_call (rl_ext _) (.agg (ints .u8 (ep))) 51 #[.agg (ints .u8 (j)), .string sEpoch, .slice a_ctx ctx.length c_ctx] kj kj (fun W => by kernel_rfl) (fun W hR => (by rw [eep]; exact labelledC j ctx sEpoch _ B2 tc tq W (row_ext (row_ext r1_2 (ext_drew _)) hR) (row_ext (row_ext r2_2 (ext_drew _)) hR) hjl hjb hxb ((RdK.ext hx x2).ext (Rely.Ext.trans (ext_drew _) hR)))) ?_
  refine e_val (rl_ext _) (.agg (cat [ints .u8 (j), ints .u8 (jw), ints .u8 (ep), ints .u8 (List.replicate 32 0), ints .u8 (List.replicate 32 0), ints .u8 (List.replicate 32 0), ints .u8 (List.replicate 32 0)])) kj kj (fun W => (run_buildB 56 _ (.agg (cat [ints .u8 (List.replicate 32 0), ints .u8 (List.replicate 32 0), ints .u8 (List.replicate 32 0), ints .u8 (List.replicate 32 0), ints .u8 (List.replicate 32 0), ints .u8 (List.replicate 32 0), ints .u8 (List.replicate 32 0)])) #[(0, 32), (32, 32), (64, 32), (96, 32), (128, 32), (160, 32), (192, 32)] [(0, 32, .agg (ints .u8 (j)), ints .u8 (j)), (1, 32, .agg (ints .u8 (jw)), ints .u8 (jw)), (2, 32, .agg (ints .u8 (ep)), ints .u8 (ep))] [ints .u8 (List.replicate 32 0), ints .u8 (List.replicate 32 0), ints .u8 (List.replicate 32 0), ints .u8 (List.replicate 32 0)] rfl kj ⟨kj, rfl, ((ints_size _ _).trans hjl), kj, rfl, ((ints_size _ _).trans ljw), kj, rfl, ((ints_size _ _).trans lep), trivial⟩ (Nat.le_of_ble_eq_true kj) kj kj kj kj)) ?_
  refine e_newP (rl_ext _) (cat [ints .u8 (List.replicate 32 0), ints .u8 (List.replicate 32 0), ints .u8 (List.replicate 32 0), ints .u8 (List.replicate 32 0), ints .u8 (List.replicate 32 0), ints .u8 (List.replicate 32 0), ints .u8 (List.replicate 32 0)]) 56 (NewP.stable _ _ _) kj kj (fun W => by kernel_rfl) ?_
  refine e_nil (hF _ fun W3 e3 => ?_)
  simp only [List.nil_append, List.cons_append, List.take_succ_cons, List.take_zero, List.drop_succ_cons, List.drop_zero, finE, up]
  intro vv7 hv7
  clear hF
  have x3 : Ext w W3 := Ext.tr x2 e3
  obtain ⟨g7, rfl, l7, r7_3⟩ := hv7
  have b7 : w.heap.size ≤ g7 := Nat.le_trans x2.size l7
  refine seq_store g7 _ (cat [ints .u8 (j), ints .u8 (jw), ints .u8 (ep), ints .u8 (List.replicate 32 0), ints .u8 (List.replicate 32 0), ints .u8 (List.replicate 32 0), ints .u8 (List.replicate 32 0)]) 56 r7_3 rfl kj (run_store_row 56 _ _ g7 56 _ _ r7_3 rfl kj kj (isz (n := 224) kj (by rw [cat_cons, cat_cons, cat_cons, cat_cons, cat_cons, cat_cons, cat_cons]; simp only [Array.size_append, cat, ((ints_size _ _).trans (List.length_replicate (n := 32))), ((ints_size _ _).trans hjl), ((ints_size _ _).trans lep), ((ints_size _ _).trans ljw)]; rfl)) (eqsz (n := 224) (by rw [cat_cons, cat_cons, cat_cons, cat_cons, cat_cons, cat_cons, cat_cons]; simp only [Array.size_append, cat, ((ints_size _ _).trans (List.length_replicate (n := 32)))]; rfl) (by rw [cat_cons, cat_cons, cat_cons, cat_cons, cat_cons, cat_cons, cat_cons]; simp only [Array.size_append, cat, ((ints_size _ _).trans (List.length_replicate (n := 32))), ((ints_size _ _).trans hjl), ((ints_size _ _).trans lep), ((ints_size _ _).trans ljw)]; rfl)) (cat_one _ (by intro a ha; simp only [List.mem_cons, List.not_mem_nil, or_false] at ha; rcases ha with rfl | rfl | rfl | rfl | rfl | rfl | rfl; exact (ints_one _ _); exact (ints_one _ _); exact (ints_one _ _); exact (ints_one _ _); exact (ints_one _ _); exact (ints_one _ _); exact (ints_one _ _)))) fun W4 p4 r7_4 => ?_
  have x4 : Ext w W4 := Puts.ext p4 x3 b7
  refine seq_nil ?_
  refine hK6 _ _ ?_
  try clear hK6 K6
  refine wp_seq_k fun K8 hK8 => ?_
  refine wp_seq_k fun K9 hK9 => ?_
  refine region_lit ?_
  refine seq_newO (.map #[] 0) (fun g => .map (some g)) 15 rfl kj kj fun g10 W5 l10 e5 r10_5 => ?_
  have x5 : Ext w W5 := Ext.tr x4 e5
  have b10 : w.heap.size ≤ g10 := Nat.le_trans x4.size l10
  refine seq_val (.pointer (some ⟨g7, 96, none⟩)) 16 rfl kj kj ?_
  refine seq_turnO g10 _ (.map #[⟨.string sConfirm, .pointer (some ⟨g7, 96, none⟩), 0⟩] 1) r10_5 rfl kj (run_insertS (kt := 9) (et := 86) (es := #[]) (clock := 0) 87 _ _ _ rfl kj kj kj kj r10_5 (fun n hn => by subst hn; kernel_rfl) kj) fun W6 p6 r10_6 => ?_
  have x6 : Ext w W6 := Puts.ext p6 x5 b10
  refine seq_val (.pointer (some ⟨g7, 128, none⟩)) 17 rfl kj kj ?_
  refine seq_turnO g10 _ (.map #[⟨.string sConfirm, .pointer (some ⟨g7, 96, none⟩), 0⟩, ⟨.string sPackets, .pointer (some ⟨g7, 128, none⟩), 1⟩] 2) r10_6 rfl kj (run_insertS (kt := 9) (et := 86) (es := #[⟨.string sConfirm, .pointer (some ⟨g7, 96, none⟩), 0⟩]) (clock := 1) 87 _ _ _ rfl kj kj kj kj r10_6 (fun n hn => by subst hn; kernel_rfl) kj) fun W7 p7 r10_7 => ?_
  have x7 : Ext w W7 := Puts.ext p7 x6 b10
  refine seq_val (.pointer (some ⟨g7, 160, none⟩)) 18 rfl kj kj ?_
  refine seq_turnO g10 _ (.map #[⟨.string sConfirm, .pointer (some ⟨g7, 96, none⟩), 0⟩, ⟨.string sPackets, .pointer (some ⟨g7, 128, none⟩), 1⟩, ⟨.string sExport, .pointer (some ⟨g7, 160, none⟩), 2⟩] 3) r10_7 rfl kj (run_insertS (kt := 9) (et := 86) (es := #[⟨.string sConfirm, .pointer (some ⟨g7, 96, none⟩), 0⟩, ⟨.string sPackets, .pointer (some ⟨g7, 128, none⟩), 1⟩]) (clock := 2) 87 _ _ _ rfl kj kj kj kj r10_7 (fun n hn => by subst hn; kernel_rfl) kj) fun W8 p8 r10_8 => ?_
  have x8 : Ext w W8 := Puts.ext p8 x7 b10
  refine seq_val (.pointer (some ⟨g7, 192, none⟩)) 19 rfl kj kj ?_
  refine seq_turnO g10 _ (.map #[⟨.string sConfirm, .pointer (some ⟨g7, 96, none⟩), 0⟩, ⟨.string sPackets, .pointer (some ⟨g7, 128, none⟩), 1⟩, ⟨.string sExport, .pointer (some ⟨g7, 160, none⟩), 2⟩, ⟨.string sInit, .pointer (some ⟨g7, 192, none⟩), 3⟩] 4) r10_8 rfl kj (run_insertS (kt := 9) (et := 86) (es := #[⟨.string sConfirm, .pointer (some ⟨g7, 96, none⟩), 0⟩, ⟨.string sPackets, .pointer (some ⟨g7, 128, none⟩), 1⟩, ⟨.string sExport, .pointer (some ⟨g7, 160, none⟩), 2⟩]) (clock := 3) 87 _ _ _ rfl kj kj kj kj r10_8 (fun n hn => by subst hn; kernel_rfl) kj) fun W9 p9 r10_9 => ?_
  have x9 : Ext w W9 := Puts.ext p9 x8 b10
  refine seq_val (.map (some g10)) 20 rfl kj kj ?_
  refine seq_newO (.mapIter (some g10) 4 #[] 4) (fun g => .pointer (some ⟨g, 0, none⟩)) 21 rfl kj (run_rangeS (kt := 9) (et := 86) 87 _ rfl kj kj r10_9) fun g11 W10 l11 e10 r11_10 => ?_
  have x10 : Ext w W10 := Ext.tr x9 e10
  have b11 : w.heap.size ≤ g11 := Nat.le_trans x9.size l11
  refine seq_nil ?_
  refine hK9 _ _ ?_
  try clear hK9 K9
  refine wp_block ?_
  have n_7_10 : g7 ≠ g10 := (ne_of_old r7_4 l10)
  have r7_5 := (row_ext r7_4 e5)
  have r7_6 := (Puts.row p6 r7_5 n_7_10)
  have r7_7 := (Puts.row p7 r7_6 n_7_10)
  have r7_8 := (Puts.row p8 r7_7 n_7_10)
  have r7_9 := (Puts.row p9 r7_8 n_7_10)
  have n_7_11 : g7 ≠ g11 := (ne_of_old r7_9 l11)
  have n_10_11 : g10 ≠ g11 := (ne_of_old r10_9 l11)
  have n_10_7 : g10 ≠ g7 := (ne_of_new r7_4 l10)
  have n_11_7 : g11 ≠ g7 := (ne_of_new r7_9 l11)
  have n_11_10 : g11 ≠ g10 := (ne_of_new r10_9 l11)
  have n_5_7 : g5 ≠ g7 := (ne_of_old r5_2 l7)
  have r5_3 := (row_ext r5_2 e3)
  have r5_4 := (Puts.row p4 r5_3 n_5_7)
  have n_5_10 : g5 ≠ g10 := (ne_of_old r5_4 l10)
  have r5_5 := (row_ext r5_4 e5)
  have r5_6 := (Puts.row p6 r5_5 n_5_10)
  have r5_7 := (Puts.row p7 r5_6 n_5_10)
  have r5_8 := (Puts.row p8 r5_7 n_5_10)
  have r5_9 := (Puts.row p9 r5_8 n_5_10)
  have n_5_11 : g5 ≠ g11 := (ne_of_old r5_9 l11)
  have n_7_5 : g7 ≠ g5 := (ne_of_new r5_2 l7)
  have n_4_7 : g4 ≠ g7 := (ne_of_old r4_2 l7)
  have r4_3 := (row_ext r4_2 e3)
  have r4_4 := (Puts.row p4 r4_3 n_4_7)
  have n_4_10 : g4 ≠ g10 := (ne_of_old r4_4 l10)
  have r4_5 := (row_ext r4_4 e5)
  have r4_6 := (Puts.row p6 r4_5 n_4_10)
  have r4_7 := (Puts.row p7 r4_6 n_4_10)
  have r4_8 := (Puts.row p8 r4_7 n_4_10)
  have r4_9 := (Puts.row p9 r4_8 n_4_10)
  have n_4_11 : g4 ≠ g11 := (ne_of_old r4_9 l11)
  have r7_10 := (row_ext r7_9 e10)
  have rz0 : W10.heap[g7]? = some (.cells (cat [ints .u8 (j), ints .u8 (jw), ints .u8 (ep), ints .u8 (pick false f3 (List.replicate 32 0)), ints .u8 (pick false f4 (List.replicate 32 0)), ints .u8 (pick false f5 (List.replicate 32 0)), ints .u8 (pick false f6 (List.replicate 32 0))]) 56) := r7_10
  have r10_10 := (row_ext r10_9 e10)
  refine loop_auto (fun (s1 : Bool × Bool × Bool × Bool × Array Nat) => [(0, .agg (ints .u8 (j))), (1, .slice a_ctx ctx.length c_ctx), (2, .pointer (some ⟨g4, 0, none⟩)), (4, .pointer (some ⟨g5, 0, none⟩)), (5, .pointer (some ⟨g7, 0, none⟩)), (21, .pointer (some ⟨g11, 0, none⟩))]) (fun (s1 : Bool × Bool × Bool × Bool × Array Nat) W => (SeenIs s1.2.2.2.2 s1.1 s1.2.1 s1.2.2.1 s1.2.2.2.1) ∧ (W.heap[g10]? = some (.map #[⟨.string sConfirm, .pointer (some ⟨g7, 96, none⟩), 0⟩, ⟨.string sPackets, .pointer (some ⟨g7, 128, none⟩), 1⟩, ⟨.string sExport, .pointer (some ⟨g7, 160, none⟩), 2⟩, ⟨.string sInit, .pointer (some ⟨g7, 192, none⟩), 3⟩] 4)) ∧ (W.heap[g11]? = some (.mapIter (some g10) 4 s1.2.2.2.2 4)) ∧ (W.heap[g7]? = some (.cells (cat [ints .u8 (j), ints .u8 (jw), ints .u8 (ep), ints .u8 (pick s1.1 f3 (List.replicate 32 0)), ints .u8 (pick s1.2.1 f4 (List.replicate 32 0)), ints .u8 (pick s1.2.2.1 f5 (List.replicate 32 0)), ints .u8 (pick s1.2.2.2.1 f6 (List.replicate 32 0))]) 56)) ∧ (Keeps [g7, g10, g11] W10 W) ∧ (Ext w W)) (fun (s1 : Bool × Bool × Bool × Bool × Array Nat) => cnt4 s1.1 s1.2.1 s1.2.2.1 s1.2.2.2.1) (false, false, false, false, #[]) ⟨rfl, rfl, rfl, rfl, rfl, rfl, trivial⟩ ⟨seen_0, r10_10, r11_10, rz0, (Keeps.refl [g7, g10, g11] W10), x10⟩ fun s1 X1 V1 hI1 => ?_
  obtain ⟨a, b, c, d, seen⟩ := s1
  obtain ⟨hseen, rm, rr, q7_1, kk1, xx1⟩ := hI1
  replace hseen : SeenIs seen a b c d := hseen
  replace rm : V1.heap[g10]? = some (.map #[⟨.string sConfirm, .pointer (some ⟨g7, 96, none⟩), 0⟩, ⟨.string sPackets, .pointer (some ⟨g7, 128, none⟩), 1⟩, ⟨.string sExport, .pointer (some ⟨g7, 160, none⟩), 2⟩, ⟨.string sInit, .pointer (some ⟨g7, 192, none⟩), 3⟩] 4) := rm
  replace rr : V1.heap[g11]? = some (.mapIter (some g10) 4 seen 4) := rr
  replace q7_1 : V1.heap[g7]? = some (.cells (cat [ints .u8 (j), ints .u8 (jw), ints .u8 (ep), ints .u8 (pick a f3 (List.replicate 32 0)), ints .u8 (pick b f4 (List.replicate 32 0)), ints .u8 (pick c f5 (List.replicate 32 0)), ints .u8 (pick d f6 (List.replicate 32 0))]) 56) := q7_1
  replace kk1 : Keeps [g7, g10, g11] W10 V1 := kk1
  replace xx1 : Ext w V1 := xx1
  have q11 := kk1
  refine wp_seq_k fun KA hKA => ?_
  refine region_lit ?_
  rcases run_next_at (P := Tryd.prog) _ 0 g11 g10 4 4 seen #[⟨.string sConfirm, .pointer (some ⟨g7, 96, none⟩), 0⟩, ⟨.string sPackets, .pointer (some ⟨g7, 128, none⟩), 1⟩, ⟨.string sExport, .pointer (some ⟨g7, 160, none⟩), 2⟩, ⟨.string sInit, .pointer (some ⟨g7, 192, none⟩), 3⟩] 4 rr rm (born4 _ _ _ _ _ _ _ _) (Nat.le_refl _) with ⟨hdone, hrun⟩ | ⟨en, hen, w1, hw1, hrun⟩
  · skip
    have hall : a = true ∧ b = true ∧ c = true ∧ d = true := left_none seen a b c d hseen _ _ _ _ _ _ _ _ hdone
    obtain ⟨rfl, rfl, rfl, rfl⟩ := hall
    refine seq_val (.tuple #[.bool false]) 22 rfl kj (run_nextS _ rfl kj hrun) ?_
    refine seq_val (.bool false) 23 rfl kj kj ?_
    refine seq_nil ?_
    refine hKA _ _ ?_
    try clear hKA KA
    refine wp_seq_k fun K12 hK12 => ?_
    refine cond_false kj ?_
    refine wp_exit ?_
    refine hK8 _ _ ?_
    try clear hK8 K8
    refine wp_seq_k fun K13 hK13 => ?_
    refine region_lit ?_
    refine seq_val (.agg (cat [ints .u8 (j), ints .u8 (jw), ints .u8 (ep), ints .u8 (f3), ints .u8 (f4), ints .u8 (f5), ints .u8 (f6)])) 33 rfl kj (run_load_row 56 _ g7 56 _ _ q7_1 rfl kj kj (isz (n := 224) kj (by rw [cat_cons, cat_cons, cat_cons, cat_cons, cat_cons, cat_cons, cat_cons]; simp only [Array.size_append, cat, ((ints_size _ _).trans hjl), ((ints_size _ _).trans lep), ((ints_size _ _).trans lf3), ((ints_size _ _).trans lf4), ((ints_size _ _).trans lf5), ((ints_size _ _).trans lf6), ((ints_size _ _).trans ljw)]; rfl))) ?_
    have r5_10 := (row_ext r5_9 e10)
    have r5_11 := (Keeps.row q11 r5_10 (nm_cons n_5_7 (nm_cons n_5_10 (nm_cons n_5_11 nm_nil))))
    refine seq_store g5 _ (cat [ints .u8 (j), ints .u8 (jw), ints .u8 (ep), ints .u8 (f3), ints .u8 (f4), ints .u8 (f5), ints .u8 (f6)]) 56 r5_11 rfl kj (run_store_row 56 _ _ g5 56 _ _ r5_11 rfl kj kj (isz (n := 224) kj (by rw [cat_cons, cat_cons, cat_cons, cat_cons, cat_cons, cat_cons, cat_cons]; simp only [Array.size_append, cat, ((ints_size _ _).trans hjl), ((ints_size _ _).trans lep), ((ints_size _ _).trans lf3), ((ints_size _ _).trans lf4), ((ints_size _ _).trans lf5), ((ints_size _ _).trans lf6), ((ints_size _ _).trans ljw)]; rfl)) (eqsz (n := 224) (by rw [cat_cons, cat_cons, cat_cons, cat_cons, cat_cons, cat_cons, cat_cons]; simp only [Array.size_append, cat, ((ints_size _ _).trans (List.length_replicate (n := 32)))]; rfl) (by rw [cat_cons, cat_cons, cat_cons, cat_cons, cat_cons, cat_cons, cat_cons]; simp only [Array.size_append, cat, ((ints_size _ _).trans hjl), ((ints_size _ _).trans lep), ((ints_size _ _).trans lf3), ((ints_size _ _).trans lf4), ((ints_size _ _).trans lf5), ((ints_size _ _).trans lf6), ((ints_size _ _).trans ljw)]; rfl)) (cat_one _ (by intro a ha; simp only [List.mem_cons, List.not_mem_nil, or_false] at ha; rcases ha with rfl | rfl | rfl | rfl | rfl | rfl | rfl; exact (ints_one _ _); exact (ints_one _ _); exact (ints_one _ _); exact (ints_one _ _); exact (ints_one _ _); exact (ints_one _ _); exact (ints_one _ _)))) fun W12 p12 r5_12 => ?_
    have x12 : Ext w W12 := Puts.ext p12 xx1 b5
    refine seq_nil ?_
    refine hK13 _ _ ?_
    try clear hK13 K13
    refine wp_ret ?_
    repeat (first | with_reducible refine goR1 ?_ | with_reducible refine goR2 ?_)
    exact (show bodyPost _ _ _ .ret _ _ from ret1 (.agg (cat [ints .u8 (j), ints .u8 (jw), ints .u8 (ep), ints .u8 (f3), ints .u8 (f4), ints .u8 (f5), ints .u8 (f6)])) rfl (res_cell g5 56 _ r5_12 kj kj (isz (n := 224) kj (by rw [cat_cons, cat_cons, cat_cons, cat_cons, cat_cons, cat_cons, cat_cons]; simp only [Array.size_append, cat, ((ints_size _ _).trans hjl), ((ints_size _ _).trans lep), ((ints_size _ _).trans lf3), ((ints_size _ _).trans lf4), ((ints_size _ _).trans lf5), ((ints_size _ _).trans lf6), ((ints_size _ _).trans ljw)]; rfl))) ⟨rfl, x12⟩)
  · skip
    have hpk := left_one seen a b c d hseen _ _ _ _ _ _ _ _ hen
    rcases hpk with ⟨rfl, rfl⟩ | ⟨rfl, rfl⟩ | ⟨rfl, rfl⟩ | ⟨rfl, rfl⟩
    · skip
      obtain ⟨W12, hW12⟩ : ∃ z, z = ChangeMaps.setBlock w1 g11 (.mapIter (some g10) 4 (seen.push 0) 4) := ⟨_, rfl⟩
      obtain ⟨p12, r11_12⟩ := puts_set1 (.mapIter (some g10) 4 (seen.push 0) 4) hw1 rr
      rw [← hW12] at p12 r11_12 hrun
      have x12 : Ext w W12 := Puts.ext p12 xx1 b11
      refine seq_valw (.tuple #[.bool true, .string sConfirm, .pointer (some ⟨g7, 96, none⟩)]) W12 22 rfl kj (run_nextS _ rfl kj hrun) ?_
      refine seq_val (.bool true) 23 rfl kj kj ?_
      refine seq_nil ?_
      refine hKA _ _ ?_
      try clear hKA KA
      refine wp_seq_k fun K14 hK14 => ?_
      refine cond_true kj ?_
      refine wp_skip ?_
      refine hK14 _ _ ?_
      try clear hK14 K14
      refine wp_block ?_
      refine wp_seq_k fun K15 hK15 => ?_
      refine region_lit ?_
      have r10_12 := (Puts.row p12 rm n_10_11)
      refine seq_val (.tuple #[.string sConfirm, .pointer (some ⟨g7, 96, none⟩)]) 24 rfl kj (run_entryS _ rfl kj (run_entry_at _ g11 g10 4 seen _ 4 ⟨.string sConfirm, .pointer (some ⟨g7, 96, none⟩), 0⟩ r11_12 r10_12 (by simp) (nodup4 _ _ _ _ _ _ _ _))) ?_
      refine seq_val (.string sConfirm) 25 rfl kj kj ?_
      refine seq_val (.pointer (some ⟨g7, 96, none⟩)) 26 rfl kj kj ?_
      refine seq_val (.string sConfirm) 6 rfl kj kj ?_
      refine seq_val (.pointer (some ⟨g7, 96, none⟩)) 7 rfl kj kj ?_
      refine seq_nil ?_
      refine hK15 _ _ ?_
      try clear hK15 K15
      refine region_lit ?_
      refine seq_val (.pointer (some ⟨g7, 96, none⟩)) 27 rfl kj kj ?_
      refine seq_val (.pointer (some ⟨g7, 64, none⟩)) 28 rfl kj kj ?_
      have r7_12 := (Puts.row p12 q7_1 n_7_11)
      refine seq_val (.agg (ints .u8 (ep))) 29 rfl kj (run_load_part 26 _ g7 64 56 _ _ _ r7_12 rfl kj (cat_part [ints .u8 (j), ints .u8 (jw)] [ints .u8 (ep)] [ints .u8 (pick false f3 (List.replicate 32 0)), ints .u8 (pick b f4 (List.replicate 32 0)), ints .u8 (pick c f5 (List.replicate 32 0)), ints .u8 (pick d f6 (List.replicate 32 0))] 64 (by rw [cat_cons, cat_cons]; simp only [Array.size_append, cat, ((ints_size _ _).trans hjl), ((ints_size _ _).trans ljw)]; rfl)) kj (isz (n := 32) kj ((ints_size _ _).trans lep))) ?_
      refine seq_val (.string sConfirm) 30 rfl kj kj ?_
      have r1_3 := (row_ext r1_2 e3)
      have r1_4 := (Puts.row p4 r1_3 (ne_of_old r1_2 l7))
      have r1_5 := (row_ext r1_4 e5)
      have r1_6 := (Puts.row p6 r1_5 (ne_of_old r1_4 l10))
      have r1_7 := (Puts.row p7 r1_6 (ne_of_old r1_4 l10))
      have r1_8 := (Puts.row p8 r1_7 (ne_of_old r1_4 l10))
      have r1_9 := (Puts.row p9 r1_8 (ne_of_old r1_4 l10))
      have r1_10 := (row_ext r1_9 e10)
      have r1_11 := (Keeps.row q11 r1_10 (nm_cons (ne_of_old r1_2 l7) (nm_cons (ne_of_old r1_4 l10) (nm_cons (ne_of_old r1_9 l11) nm_nil))))
      have r1_12 := (Puts.row p12 r1_11 (ne_of_old r1_9 l11))
      have r2_3 := (row_ext r2_2 e3)
      have r2_4 := (Puts.row p4 r2_3 (ne_of_old r2_2 l7))
      have r2_5 := (row_ext r2_4 e5)
      have r2_6 := (Puts.row p6 r2_5 (ne_of_old r2_4 l10))
      have r2_7 := (Puts.row p7 r2_6 (ne_of_old r2_4 l10))
      have r2_8 := (Puts.row p8 r2_7 (ne_of_old r2_4 l10))
      have r2_9 := (Puts.row p9 r2_8 (ne_of_old r2_4 l10))
      have r2_10 := (row_ext r2_9 e10)
      have r2_11 := (Keeps.row q11 r2_10 (nm_cons (ne_of_old r2_2 l7) (nm_cons (ne_of_old r2_4 l10) (nm_cons (ne_of_old r2_9 l11) nm_nil))))
      have r2_12 := (Puts.row p12 r2_11 (ne_of_old r2_9 l11))
      refine seq_call (.agg (ints .u8 (f3))) 49 #[.agg (ints .u8 (ep)), .string sConfirm] 31 rfl kj kj ((by rw [ef3]; exact deriveC ep sConfirm tc tq _ r1_12 r2_12 lep bep)) fun W13 e13 => ?_
      have x13 : Ext w W13 := Ext.tr x12 e13
      refine seq_val (.pointer (some ⟨g7, 96, none⟩)) 32 rfl kj kj ?_
      have r7_13 := (row_ext r7_12 e13)
      refine seq_store g7 _ (cat [ints .u8 (j), ints .u8 (jw), ints .u8 (ep), ints .u8 (f3), ints .u8 (pick b f4 (List.replicate 32 0)), ints .u8 (pick c f5 (List.replicate 32 0)), ints .u8 (pick d f6 (List.replicate 32 0))]) 56 r7_13 rfl kj (run_store_cat 26 _ _ g7 96 56 [ints .u8 (j), ints .u8 (jw), ints .u8 (ep)] [ints .u8 (pick false f3 (List.replicate 32 0))] [ints .u8 (f3)] [ints .u8 (pick b f4 (List.replicate 32 0)), ints .u8 (pick c f5 (List.replicate 32 0)), ints .u8 (pick d f6 (List.replicate 32 0))] r7_13 rfl kj kj (isz (n := 32) kj ((ints_size _ _).trans lf3)) (by rw [cat_cons, cat_cons, cat_cons]; simp only [Array.size_append, cat, ((ints_size _ _).trans hjl), ((ints_size _ _).trans lep), ((ints_size _ _).trans ljw)]; rfl) (eqsz (n := 32) ((ints_size _ _).trans lf3) ((ints_size _ _).trans (pick_len _ lf3 zer_len))) (ints_one _ _)) fun W14 p14 r7_14 => ?_
      have x14 : Ext w W14 := Puts.ext p14 x13 b7
      refine seq_nil ?_
      have rz16 : W14.heap[g7]? = some (.cells (cat [ints .u8 (j), ints .u8 (jw), ints .u8 (ep), ints .u8 (pick true f3 (List.replicate 32 0)), ints .u8 (pick b f4 (List.replicate 32 0)), ints .u8 (pick c f5 (List.replicate 32 0)), ints .u8 (pick d f6 (List.replicate 32 0))]) 56) := r7_14
      have r10_13 := (row_ext r10_12 e13)
      have r10_14 := (Puts.row p14 r10_13 n_10_7)
      have r11_13 := (row_ext r11_12 e13)
      have r11_14 := (Puts.row p14 r11_13 n_11_7)
      repeat (first | with_reducible refine goX1 ?_ | with_reducible refine goX2 ?_ | with_reducible refine goX3 ?_)
      exact goes_then (true, b, c, d, (seen.push 0)) ⟨rfl, rfl, rfl, rfl, rfl, rfl, trivial⟩ ⟨(seenP0 hseen), r10_14, r11_14, rz16, (Keeps.puts (Keeps.step (Keeps.puts q11 p12 (.inl (by simp))) e13) p14 (.inl (by simp))), x14⟩ (by simp only [cnt4]; cases b <;> cases c <;> cases d <;> decide)
    · skip
      obtain ⟨W12, hW12⟩ : ∃ z, z = ChangeMaps.setBlock w1 g11 (.mapIter (some g10) 4 (seen.push 1) 4) := ⟨_, rfl⟩
      obtain ⟨p12, r11_12⟩ := puts_set1 (.mapIter (some g10) 4 (seen.push 1) 4) hw1 rr
      rw [← hW12] at p12 r11_12 hrun
      have x12 : Ext w W12 := Puts.ext p12 xx1 b11
      refine seq_valw (.tuple #[.bool true, .string sPackets, .pointer (some ⟨g7, 128, none⟩)]) W12 22 rfl kj (run_nextS _ rfl kj hrun) ?_
      refine seq_val (.bool true) 23 rfl kj kj ?_
      refine seq_nil ?_
      refine hKA _ _ ?_
      try clear hKA KA
      refine wp_seq_k fun K17 hK17 => ?_
      refine cond_true kj ?_
      refine wp_skip ?_
      refine hK17 _ _ ?_
      try clear hK17 K17
      refine wp_block ?_
      refine wp_seq_k fun K18 hK18 => ?_
      refine region_lit ?_
      have r10_12 := (Puts.row p12 rm n_10_11)
      refine seq_val (.tuple #[.string sPackets, .pointer (some ⟨g7, 128, none⟩)]) 24 rfl kj (run_entryS _ rfl kj (run_entry_at _ g11 g10 4 seen _ 4 ⟨.string sPackets, .pointer (some ⟨g7, 128, none⟩), 1⟩ r11_12 r10_12 (by simp) (nodup4 _ _ _ _ _ _ _ _))) ?_
      refine seq_val (.string sPackets) 25 rfl kj kj ?_
      refine seq_val (.pointer (some ⟨g7, 128, none⟩)) 26 rfl kj kj ?_
      refine seq_val (.string sPackets) 6 rfl kj kj ?_
      refine seq_val (.pointer (some ⟨g7, 128, none⟩)) 7 rfl kj kj ?_
      refine seq_nil ?_
      refine hK18 _ _ ?_
      try clear hK18 K18
      refine region_lit ?_
      refine seq_val (.pointer (some ⟨g7, 128, none⟩)) 27 rfl kj kj ?_
      refine seq_val (.pointer (some ⟨g7, 64, none⟩)) 28 rfl kj kj ?_
      have r7_12 := (Puts.row p12 q7_1 n_7_11)
      refine seq_val (.agg (ints .u8 (ep))) 29 rfl kj (run_load_part 26 _ g7 64 56 _ _ _ r7_12 rfl kj (cat_part [ints .u8 (j), ints .u8 (jw)] [ints .u8 (ep)] [ints .u8 (pick a f3 (List.replicate 32 0)), ints .u8 (pick false f4 (List.replicate 32 0)), ints .u8 (pick c f5 (List.replicate 32 0)), ints .u8 (pick d f6 (List.replicate 32 0))] 64 (by rw [cat_cons, cat_cons]; simp only [Array.size_append, cat, ((ints_size _ _).trans hjl), ((ints_size _ _).trans ljw)]; rfl)) kj (isz (n := 32) kj ((ints_size _ _).trans lep))) ?_
      refine seq_val (.string sPackets) 30 rfl kj kj ?_
      have r1_3 := (row_ext r1_2 e3)
      have r1_4 := (Puts.row p4 r1_3 (ne_of_old r1_2 l7))
      have r1_5 := (row_ext r1_4 e5)
      have r1_6 := (Puts.row p6 r1_5 (ne_of_old r1_4 l10))
      have r1_7 := (Puts.row p7 r1_6 (ne_of_old r1_4 l10))
      have r1_8 := (Puts.row p8 r1_7 (ne_of_old r1_4 l10))
      have r1_9 := (Puts.row p9 r1_8 (ne_of_old r1_4 l10))
      have r1_10 := (row_ext r1_9 e10)
      have r1_11 := (Keeps.row q11 r1_10 (nm_cons (ne_of_old r1_2 l7) (nm_cons (ne_of_old r1_4 l10) (nm_cons (ne_of_old r1_9 l11) nm_nil))))
      have r1_12 := (Puts.row p12 r1_11 (ne_of_old r1_9 l11))
      have r2_3 := (row_ext r2_2 e3)
      have r2_4 := (Puts.row p4 r2_3 (ne_of_old r2_2 l7))
      have r2_5 := (row_ext r2_4 e5)
      have r2_6 := (Puts.row p6 r2_5 (ne_of_old r2_4 l10))
      have r2_7 := (Puts.row p7 r2_6 (ne_of_old r2_4 l10))
      have r2_8 := (Puts.row p8 r2_7 (ne_of_old r2_4 l10))
      have r2_9 := (Puts.row p9 r2_8 (ne_of_old r2_4 l10))
      have r2_10 := (row_ext r2_9 e10)
      have r2_11 := (Keeps.row q11 r2_10 (nm_cons (ne_of_old r2_2 l7) (nm_cons (ne_of_old r2_4 l10) (nm_cons (ne_of_old r2_9 l11) nm_nil))))
      have r2_12 := (Puts.row p12 r2_11 (ne_of_old r2_9 l11))
      refine seq_call (.agg (ints .u8 (f4))) 49 #[.agg (ints .u8 (ep)), .string sPackets] 31 rfl kj kj ((by rw [ef4]; exact deriveC ep sPackets tc tq _ r1_12 r2_12 lep bep)) fun W13 e13 => ?_
      have x13 : Ext w W13 := Ext.tr x12 e13
      refine seq_val (.pointer (some ⟨g7, 128, none⟩)) 32 rfl kj kj ?_
      have r7_13 := (row_ext r7_12 e13)
      refine seq_store g7 _ (cat [ints .u8 (j), ints .u8 (jw), ints .u8 (ep), ints .u8 (pick a f3 (List.replicate 32 0)), ints .u8 (f4), ints .u8 (pick c f5 (List.replicate 32 0)), ints .u8 (pick d f6 (List.replicate 32 0))]) 56 r7_13 rfl kj (run_store_cat 26 _ _ g7 128 56 [ints .u8 (j), ints .u8 (jw), ints .u8 (ep), ints .u8 (pick a f3 (List.replicate 32 0))] [ints .u8 (pick false f4 (List.replicate 32 0))] [ints .u8 (f4)] [ints .u8 (pick c f5 (List.replicate 32 0)), ints .u8 (pick d f6 (List.replicate 32 0))] r7_13 rfl kj kj (isz (n := 32) kj ((ints_size _ _).trans lf4)) (by rw [cat_cons, cat_cons, cat_cons, cat_cons]; simp only [Array.size_append, cat, ((ints_size _ _).trans (pick_len _ lf3 zer_len)), ((ints_size _ _).trans hjl), ((ints_size _ _).trans lep), ((ints_size _ _).trans ljw)]; rfl) (eqsz (n := 32) ((ints_size _ _).trans lf4) ((ints_size _ _).trans (pick_len _ lf4 zer_len))) (ints_one _ _)) fun W14 p14 r7_14 => ?_
      have x14 : Ext w W14 := Puts.ext p14 x13 b7
      refine seq_nil ?_
      have rz19 : W14.heap[g7]? = some (.cells (cat [ints .u8 (j), ints .u8 (jw), ints .u8 (ep), ints .u8 (pick a f3 (List.replicate 32 0)), ints .u8 (pick true f4 (List.replicate 32 0)), ints .u8 (pick c f5 (List.replicate 32 0)), ints .u8 (pick d f6 (List.replicate 32 0))]) 56) := r7_14
      have r10_13 := (row_ext r10_12 e13)
      have r10_14 := (Puts.row p14 r10_13 n_10_7)
      have r11_13 := (row_ext r11_12 e13)
      have r11_14 := (Puts.row p14 r11_13 n_11_7)
      repeat (first | with_reducible refine goX1 ?_ | with_reducible refine goX2 ?_ | with_reducible refine goX3 ?_)
      exact goes_then (a, true, c, d, (seen.push 1)) ⟨rfl, rfl, rfl, rfl, rfl, rfl, trivial⟩ ⟨(seenP1 hseen), r10_14, r11_14, rz19, (Keeps.puts (Keeps.step (Keeps.puts q11 p12 (.inl (by simp))) e13) p14 (.inl (by simp))), x14⟩ (by simp only [cnt4]; cases a <;> cases c <;> cases d <;> decide)
    · skip
      obtain ⟨W12, hW12⟩ : ∃ z, z = ChangeMaps.setBlock w1 g11 (.mapIter (some g10) 4 (seen.push 2) 4) := ⟨_, rfl⟩
      obtain ⟨p12, r11_12⟩ := puts_set1 (.mapIter (some g10) 4 (seen.push 2) 4) hw1 rr
      rw [← hW12] at p12 r11_12 hrun
      have x12 : Ext w W12 := Puts.ext p12 xx1 b11
      refine seq_valw (.tuple #[.bool true, .string sExport, .pointer (some ⟨g7, 160, none⟩)]) W12 22 rfl kj (run_nextS _ rfl kj hrun) ?_
      refine seq_val (.bool true) 23 rfl kj kj ?_
      refine seq_nil ?_
      refine hKA _ _ ?_
      try clear hKA KA
      refine wp_seq_k fun K20 hK20 => ?_
      refine cond_true kj ?_
      refine wp_skip ?_
      refine hK20 _ _ ?_
      try clear hK20 K20
      refine wp_block ?_
      refine wp_seq_k fun K21 hK21 => ?_
      refine region_lit ?_
      have r10_12 := (Puts.row p12 rm n_10_11)
      refine seq_val (.tuple #[.string sExport, .pointer (some ⟨g7, 160, none⟩)]) 24 rfl kj (run_entryS _ rfl kj (run_entry_at _ g11 g10 4 seen _ 4 ⟨.string sExport, .pointer (some ⟨g7, 160, none⟩), 2⟩ r11_12 r10_12 (by simp) (nodup4 _ _ _ _ _ _ _ _))) ?_
      refine seq_val (.string sExport) 25 rfl kj kj ?_
      refine seq_val (.pointer (some ⟨g7, 160, none⟩)) 26 rfl kj kj ?_
      refine seq_val (.string sExport) 6 rfl kj kj ?_
      refine seq_val (.pointer (some ⟨g7, 160, none⟩)) 7 rfl kj kj ?_
      refine seq_nil ?_
      refine hK21 _ _ ?_
      try clear hK21 K21
      refine region_lit ?_
      refine seq_val (.pointer (some ⟨g7, 160, none⟩)) 27 rfl kj kj ?_
      refine seq_val (.pointer (some ⟨g7, 64, none⟩)) 28 rfl kj kj ?_
      have r7_12 := (Puts.row p12 q7_1 n_7_11)
      refine seq_val (.agg (ints .u8 (ep))) 29 rfl kj (run_load_part 26 _ g7 64 56 _ _ _ r7_12 rfl kj (cat_part [ints .u8 (j), ints .u8 (jw)] [ints .u8 (ep)] [ints .u8 (pick a f3 (List.replicate 32 0)), ints .u8 (pick b f4 (List.replicate 32 0)), ints .u8 (pick false f5 (List.replicate 32 0)), ints .u8 (pick d f6 (List.replicate 32 0))] 64 (by rw [cat_cons, cat_cons]; simp only [Array.size_append, cat, ((ints_size _ _).trans hjl), ((ints_size _ _).trans ljw)]; rfl)) kj (isz (n := 32) kj ((ints_size _ _).trans lep))) ?_
      refine seq_val (.string sExport) 30 rfl kj kj ?_
      have r1_3 := (row_ext r1_2 e3)
      have r1_4 := (Puts.row p4 r1_3 (ne_of_old r1_2 l7))
      have r1_5 := (row_ext r1_4 e5)
      have r1_6 := (Puts.row p6 r1_5 (ne_of_old r1_4 l10))
      have r1_7 := (Puts.row p7 r1_6 (ne_of_old r1_4 l10))
      have r1_8 := (Puts.row p8 r1_7 (ne_of_old r1_4 l10))
      have r1_9 := (Puts.row p9 r1_8 (ne_of_old r1_4 l10))
      have r1_10 := (row_ext r1_9 e10)
      have r1_11 := (Keeps.row q11 r1_10 (nm_cons (ne_of_old r1_2 l7) (nm_cons (ne_of_old r1_4 l10) (nm_cons (ne_of_old r1_9 l11) nm_nil))))
      have r1_12 := (Puts.row p12 r1_11 (ne_of_old r1_9 l11))
      have r2_3 := (row_ext r2_2 e3)
      have r2_4 := (Puts.row p4 r2_3 (ne_of_old r2_2 l7))
      have r2_5 := (row_ext r2_4 e5)
      have r2_6 := (Puts.row p6 r2_5 (ne_of_old r2_4 l10))
      have r2_7 := (Puts.row p7 r2_6 (ne_of_old r2_4 l10))
      have r2_8 := (Puts.row p8 r2_7 (ne_of_old r2_4 l10))
      have r2_9 := (Puts.row p9 r2_8 (ne_of_old r2_4 l10))
      have r2_10 := (row_ext r2_9 e10)
      have r2_11 := (Keeps.row q11 r2_10 (nm_cons (ne_of_old r2_2 l7) (nm_cons (ne_of_old r2_4 l10) (nm_cons (ne_of_old r2_9 l11) nm_nil))))
      have r2_12 := (Puts.row p12 r2_11 (ne_of_old r2_9 l11))
      refine seq_call (.agg (ints .u8 (f5))) 49 #[.agg (ints .u8 (ep)), .string sExport] 31 rfl kj kj ((by rw [ef5]; exact deriveC ep sExport tc tq _ r1_12 r2_12 lep bep)) fun W13 e13 => ?_
      have x13 : Ext w W13 := Ext.tr x12 e13
      refine seq_val (.pointer (some ⟨g7, 160, none⟩)) 32 rfl kj kj ?_
      have r7_13 := (row_ext r7_12 e13)
      refine seq_store g7 _ (cat [ints .u8 (j), ints .u8 (jw), ints .u8 (ep), ints .u8 (pick a f3 (List.replicate 32 0)), ints .u8 (pick b f4 (List.replicate 32 0)), ints .u8 (f5), ints .u8 (pick d f6 (List.replicate 32 0))]) 56 r7_13 rfl kj (run_store_cat 26 _ _ g7 160 56 [ints .u8 (j), ints .u8 (jw), ints .u8 (ep), ints .u8 (pick a f3 (List.replicate 32 0)), ints .u8 (pick b f4 (List.replicate 32 0))] [ints .u8 (pick false f5 (List.replicate 32 0))] [ints .u8 (f5)] [ints .u8 (pick d f6 (List.replicate 32 0))] r7_13 rfl kj kj (isz (n := 32) kj ((ints_size _ _).trans lf5)) (by rw [cat_cons, cat_cons, cat_cons, cat_cons, cat_cons]; simp only [Array.size_append, cat, ((ints_size _ _).trans (pick_len _ lf3 zer_len)), ((ints_size _ _).trans (pick_len _ lf4 zer_len)), ((ints_size _ _).trans hjl), ((ints_size _ _).trans lep), ((ints_size _ _).trans ljw)]; rfl) (eqsz (n := 32) ((ints_size _ _).trans lf5) ((ints_size _ _).trans (pick_len _ lf5 zer_len))) (ints_one _ _)) fun W14 p14 r7_14 => ?_
      have x14 : Ext w W14 := Puts.ext p14 x13 b7
      refine seq_nil ?_
      have rz22 : W14.heap[g7]? = some (.cells (cat [ints .u8 (j), ints .u8 (jw), ints .u8 (ep), ints .u8 (pick a f3 (List.replicate 32 0)), ints .u8 (pick b f4 (List.replicate 32 0)), ints .u8 (pick true f5 (List.replicate 32 0)), ints .u8 (pick d f6 (List.replicate 32 0))]) 56) := r7_14
      have r10_13 := (row_ext r10_12 e13)
      have r10_14 := (Puts.row p14 r10_13 n_10_7)
      have r11_13 := (row_ext r11_12 e13)
      have r11_14 := (Puts.row p14 r11_13 n_11_7)
      repeat (first | with_reducible refine goX1 ?_ | with_reducible refine goX2 ?_ | with_reducible refine goX3 ?_)
      exact goes_then (a, b, true, d, (seen.push 2)) ⟨rfl, rfl, rfl, rfl, rfl, rfl, trivial⟩ ⟨(seenP2 hseen), r10_14, r11_14, rz22, (Keeps.puts (Keeps.step (Keeps.puts q11 p12 (.inl (by simp))) e13) p14 (.inl (by simp))), x14⟩ (by simp only [cnt4]; cases a <;> cases b <;> cases d <;> decide)
    · skip
      obtain ⟨W12, hW12⟩ : ∃ z, z = ChangeMaps.setBlock w1 g11 (.mapIter (some g10) 4 (seen.push 3) 4) := ⟨_, rfl⟩
      obtain ⟨p12, r11_12⟩ := puts_set1 (.mapIter (some g10) 4 (seen.push 3) 4) hw1 rr
      rw [← hW12] at p12 r11_12 hrun
      have x12 : Ext w W12 := Puts.ext p12 xx1 b11
      refine seq_valw (.tuple #[.bool true, .string sInit, .pointer (some ⟨g7, 192, none⟩)]) W12 22 rfl kj (run_nextS _ rfl kj hrun) ?_
      refine seq_val (.bool true) 23 rfl kj kj ?_
      refine seq_nil ?_
      refine hKA _ _ ?_
      try clear hKA KA
      refine wp_seq_k fun K23 hK23 => ?_
      refine cond_true kj ?_
      refine wp_skip ?_
      refine hK23 _ _ ?_
      try clear hK23 K23
      refine wp_block ?_
      refine wp_seq_k fun K24 hK24 => ?_
      refine region_lit ?_
      have r10_12 := (Puts.row p12 rm n_10_11)
      refine seq_val (.tuple #[.string sInit, .pointer (some ⟨g7, 192, none⟩)]) 24 rfl kj (run_entryS _ rfl kj (run_entry_at _ g11 g10 4 seen _ 4 ⟨.string sInit, .pointer (some ⟨g7, 192, none⟩), 3⟩ r11_12 r10_12 (by simp) (nodup4 _ _ _ _ _ _ _ _))) ?_
      refine seq_val (.string sInit) 25 rfl kj kj ?_
      refine seq_val (.pointer (some ⟨g7, 192, none⟩)) 26 rfl kj kj ?_
      refine seq_val (.string sInit) 6 rfl kj kj ?_
      refine seq_val (.pointer (some ⟨g7, 192, none⟩)) 7 rfl kj kj ?_
      refine seq_nil ?_
      refine hK24 _ _ ?_
      try clear hK24 K24
      refine region_lit ?_
      refine seq_val (.pointer (some ⟨g7, 192, none⟩)) 27 rfl kj kj ?_
      refine seq_val (.pointer (some ⟨g7, 64, none⟩)) 28 rfl kj kj ?_
      have r7_12 := (Puts.row p12 q7_1 n_7_11)
      refine seq_val (.agg (ints .u8 (ep))) 29 rfl kj (run_load_part 26 _ g7 64 56 _ _ _ r7_12 rfl kj (cat_part [ints .u8 (j), ints .u8 (jw)] [ints .u8 (ep)] [ints .u8 (pick a f3 (List.replicate 32 0)), ints .u8 (pick b f4 (List.replicate 32 0)), ints .u8 (pick c f5 (List.replicate 32 0)), ints .u8 (pick false f6 (List.replicate 32 0))] 64 (by rw [cat_cons, cat_cons]; simp only [Array.size_append, cat, ((ints_size _ _).trans hjl), ((ints_size _ _).trans ljw)]; rfl)) kj (isz (n := 32) kj ((ints_size _ _).trans lep))) ?_
      refine seq_val (.string sInit) 30 rfl kj kj ?_
      have r1_3 := (row_ext r1_2 e3)
      have r1_4 := (Puts.row p4 r1_3 (ne_of_old r1_2 l7))
      have r1_5 := (row_ext r1_4 e5)
      have r1_6 := (Puts.row p6 r1_5 (ne_of_old r1_4 l10))
      have r1_7 := (Puts.row p7 r1_6 (ne_of_old r1_4 l10))
      have r1_8 := (Puts.row p8 r1_7 (ne_of_old r1_4 l10))
      have r1_9 := (Puts.row p9 r1_8 (ne_of_old r1_4 l10))
      have r1_10 := (row_ext r1_9 e10)
      have r1_11 := (Keeps.row q11 r1_10 (nm_cons (ne_of_old r1_2 l7) (nm_cons (ne_of_old r1_4 l10) (nm_cons (ne_of_old r1_9 l11) nm_nil))))
      have r1_12 := (Puts.row p12 r1_11 (ne_of_old r1_9 l11))
      have r2_3 := (row_ext r2_2 e3)
      have r2_4 := (Puts.row p4 r2_3 (ne_of_old r2_2 l7))
      have r2_5 := (row_ext r2_4 e5)
      have r2_6 := (Puts.row p6 r2_5 (ne_of_old r2_4 l10))
      have r2_7 := (Puts.row p7 r2_6 (ne_of_old r2_4 l10))
      have r2_8 := (Puts.row p8 r2_7 (ne_of_old r2_4 l10))
      have r2_9 := (Puts.row p9 r2_8 (ne_of_old r2_4 l10))
      have r2_10 := (row_ext r2_9 e10)
      have r2_11 := (Keeps.row q11 r2_10 (nm_cons (ne_of_old r2_2 l7) (nm_cons (ne_of_old r2_4 l10) (nm_cons (ne_of_old r2_9 l11) nm_nil))))
      have r2_12 := (Puts.row p12 r2_11 (ne_of_old r2_9 l11))
      refine seq_call (.agg (ints .u8 (f6))) 49 #[.agg (ints .u8 (ep)), .string sInit] 31 rfl kj kj ((by rw [ef6]; exact deriveC ep sInit tc tq _ r1_12 r2_12 lep bep)) fun W13 e13 => ?_
      have x13 : Ext w W13 := Ext.tr x12 e13
      refine seq_val (.pointer (some ⟨g7, 192, none⟩)) 32 rfl kj kj ?_
      have r7_13 := (row_ext r7_12 e13)
      refine seq_store g7 _ (cat [ints .u8 (j), ints .u8 (jw), ints .u8 (ep), ints .u8 (pick a f3 (List.replicate 32 0)), ints .u8 (pick b f4 (List.replicate 32 0)), ints .u8 (pick c f5 (List.replicate 32 0)), ints .u8 (f6)]) 56 r7_13 rfl kj (run_store_cat 26 _ _ g7 192 56 [ints .u8 (j), ints .u8 (jw), ints .u8 (ep), ints .u8 (pick a f3 (List.replicate 32 0)), ints .u8 (pick b f4 (List.replicate 32 0)), ints .u8 (pick c f5 (List.replicate 32 0))] [ints .u8 (pick false f6 (List.replicate 32 0))] [ints .u8 (f6)] [] r7_13 rfl kj kj (isz (n := 32) kj ((ints_size _ _).trans lf6)) (by rw [cat_cons, cat_cons, cat_cons, cat_cons, cat_cons, cat_cons]; simp only [Array.size_append, cat, ((ints_size _ _).trans (pick_len _ lf3 zer_len)), ((ints_size _ _).trans (pick_len _ lf4 zer_len)), ((ints_size _ _).trans (pick_len _ lf5 zer_len)), ((ints_size _ _).trans hjl), ((ints_size _ _).trans lep), ((ints_size _ _).trans ljw)]; rfl) (eqsz (n := 32) ((ints_size _ _).trans lf6) ((ints_size _ _).trans (pick_len _ lf6 zer_len))) (ints_one _ _)) fun W14 p14 r7_14 => ?_
      have x14 : Ext w W14 := Puts.ext p14 x13 b7
      refine seq_nil ?_
      have rz25 : W14.heap[g7]? = some (.cells (cat [ints .u8 (j), ints .u8 (jw), ints .u8 (ep), ints .u8 (pick a f3 (List.replicate 32 0)), ints .u8 (pick b f4 (List.replicate 32 0)), ints .u8 (pick c f5 (List.replicate 32 0)), ints .u8 (pick true f6 (List.replicate 32 0))]) 56) := r7_14
      have r10_13 := (row_ext r10_12 e13)
      have r10_14 := (Puts.row p14 r10_13 n_10_7)
      have r11_13 := (row_ext r11_12 e13)
      have r11_14 := (Puts.row p14 r11_13 n_11_7)
      repeat (first | with_reducible refine goX1 ?_ | with_reducible refine goX2 ?_ | with_reducible refine goX3 ?_)
      exact goes_then (a, b, c, true, (seen.push 3)) ⟨rfl, rfl, rfl, rfl, rfl, rfl, trivial⟩ ⟨(seenP3 hseen), r10_14, r11_14, rz25, (Keeps.puts (Keeps.step (Keeps.puts q11 p12 (.inl (by simp))) e13) p14 (.inl (by simp))), x14⟩ (by simp only [cnt4]; cases a <;> cases b <;> cases c <;> decide)

end Go.Proofs.YtamlhbbphnamnaaDoor.Sha
