/- Slices of bytes that are one's own: append, and the text of their bytes. -/
import Derived.Test.YtfelfmchachljaaAutoSN
import Derived.Maps.AppendAt
import Derived.ArgAppend
import Derived.Test.YtfelfmchachljaaProg
namespace Go.Proofs.Ytfelfmchachljaa.Own
open Go Go.RowKit
open Go.Proofs.Ytfelfmchachljaa.Rely Go.Proofs.Ytfelfmchachljaa.Auto
set_option linter.unusedVariables false

def ExtB (g : Nat) (w W : World) : Prop := W.os = w.os ∧ W.tape = w.tape ∧ W.output = w.output ∧ w.heap.size ≤ W.heap.size ∧ ∀ k, k < w.heap.size → k ≠ g → W.heap[k]? = w.heap[k]?
theorem ExtB.refl (g : Nat) (w : World) : ExtB g w w := ⟨rfl, rfl, rfl, Nat.le_refl _, fun _ _ _ => rfl⟩
theorem ExtB.ext {g : Nat} {w W W' : World} (h : ExtB g w W) (e : Ext W W') : ExtB g w W' :=
  ⟨e.os.trans h.1, e.tape.trans h.2.1, e.output.trans h.2.2.1, Nat.le_trans h.2.2.2.1 e.size, fun k hk hn => (e.block k (Nat.lt_of_lt_of_le hk h.2.2.2.1)).trans (h.2.2.2.2 k hk hn)⟩
theorem ExtB.puts {g : Nat} {w W W' : World} (h : ExtB g w W) (p : Puts W g W') : ExtB g w W' :=
  ⟨p.1.trans h.1, p.2.1.trans h.2.1, p.2.2.1.trans h.2.2.1, by have := h.2.2.2.1; have := p.2.2.2.1; omega, fun k hk hn => (p.2.2.2.2 k hn).trans (h.2.2.2.2 k hk hn)⟩
theorem ExtB.row {g : Nat} {w W : World} {k : Nat} {ob : Obj} (h : ExtB g w W) (r : w.heap[k]? = some ob) (hn : k ≠ g) : W.heap[k]? = some ob := (h.2.2.2.2 k (by
  rcases Nat.lt_or_ge k w.heap.size with hl | hl
  · exact hl
  · rw [Array.getElem?_eq_none hl] at r; cases r) hn).trans r
theorem ExtB.up {g : Nat} {w0 w W : World} (h : Ext w0 w) (k : ExtB g w W) (lo : w0.heap.size ≤ g) : Ext w0 W :=
  ⟨k.1.trans h.os, k.2.1.trans h.tape, k.2.2.1.trans h.output, Nat.le_trans h.size k.2.2.2.1, fun i hi => (k.2.2.2.2 i (Nat.lt_of_lt_of_le hi h.size) (by omega)).trans (h.block i hi)⟩
theorem ExtB.trans {g : Nat} {a b c : World} (h : ExtB g a b) (k : ExtB g b c) : ExtB g a c :=
  ⟨k.1.trans h.1, k.2.1.trans h.2.1, k.2.2.1.trans h.2.2.1, Nat.le_trans h.2.2.2.1 k.2.2.2.1, fun i hi hn => (k.2.2.2.2 i (Nat.lt_of_lt_of_le hi h.2.2.2.1) hn).trans (h.2.2.2.2 i hi hn)⟩
theorem ExtB.of_grown {W W' : World} {g : Nat} (h : W.grownBy W' (some g)) : ExtB g W W' := ⟨h.os, h.tape, h.output, h.size, fun k hk hn => h.block k hk (fun e => hn (Option.some.inj e))⟩
theorem ext_grown {W W' : World} (h : W.grownBy W' none) : Ext W W' := ⟨h.os, h.tape, h.output, h.size, fun k hk => h.block k hk (fun e => by cases e)⟩
/-- a slice of bytes in a block of one's own, from its first place on -/
def OwnAt (base g c : Nat) (cur : Array Value) (bs : List Int) (W : World) : Prop := base ≤ g ∧ W.heap[g]? = some (.cells cur 5) ∧ cur.size = c ∧ bs.length ≤ c ∧ c ≤ maxLen ∧ cur.toList.take bs.length = bs.map (Value.int .u8)
def OwnB (base : Nat) (bs : List Int) (v : Value) (W : World) : Prop := ∃ (g c : Nat) (cur : Array Value), v = .slice (some ⟨g, 0, none⟩) bs.length c ∧ OwnAt base g c cur bs W
theorem OwnAt.ext {base g c : Nat} {cur : Array Value} {bs : List Int} {W W' : World} (h : OwnAt base g c cur bs W) (e : Ext W W') : OwnAt base g c cur bs W' := ⟨h.1, row_ext h.2.1 e, h.2.2⟩
theorem OwnB.ext {base : Nat} {bs : List Int} {v : Value} {W W' : World} (h : OwnB base bs v W) (e : Ext W W') : OwnB base bs v W' := by
  obtain ⟨g, c, cur, rfl, h⟩ := h
  exact ⟨g, c, cur, rfl, h.ext e⟩
theorem OwnB.stable (base : Nat) (bs : List Int) : Stable Ext (OwnB base bs) := fun _ _ _ hR h => h.ext hR
theorem OwnB.base {a b : Nat} {bs : List Int} {v : Value} {W : World} (hab : a ≤ b) (h : OwnB b bs v W) : OwnB a bs v W := by
  obtain ⟨g, c, cur, rfl, h1, h⟩ := h
  exact ⟨g, c, cur, rfl, Nat.le_trans hab h1, h⟩
theorem OwnAt.cell {base g c : Nat} {cur : Array Value} {bs : List Int} {W : World} (h : OwnAt base g c cur bs W) : ∀ i, i < bs.length → W.cell? ⟨g, i, none⟩ = some (.int .u8 (nth bs i)) := fun i hi => by
  refine row_cell h.2.1 ?_
  have e : (cur.toList.take bs.length)[i]? = (bs.map (Value.int .u8))[i]? := by rw [h.2.2.2.2.2]
  rw [List.getElem?_take_of_lt hi, List.getElem?_map, List.getElem?_eq_getElem hi] at e
  rw [← Array.getElem?_toList, e]
  simp [nth, hi]
theorem OwnB.bytes {base : Nat} {bs : List Int} {v : Value} {W : World} (h : OwnB base bs v W) (hb : AreBytes bs) : BytesAt W v bs := by
  obtain ⟨g, c, cur, rfl, h⟩ := h
  refine ⟨_, _, rfl, Nat.le_trans h.2.2.2.1 h.2.2.2.2.1, hb, .inr ⟨g, 0, rfl, row_lt h.2.1, fun i hi => ?_⟩⟩
  rw [Nat.zero_add]; exact h.cell i hi
theorem own_of_row {base g : Nat} {W : World} (bs : List Int) (hb : base ≤ g) (r : W.heap[g]? = some (.cells (ints .u8 bs) 5)) (hm : bs.length ≤ maxLen) : OwnAt base g bs.length (ints .u8 bs) bs W :=
  ⟨hb, r, by simp [ints], Nat.le_refl _, hm, by simp only [ints]; rw [List.take_of_length_le (by simp)]⟩
theorem ownB_of_row {base g n : Nat} {W : World} (bs : List Int) (hn : bs.length = n) (hb : base ≤ g) (r : W.heap[g]? = some (.cells (ints .u8 bs) 5)) (hm : n ≤ maxLen) : OwnB base bs (.slice (some ⟨g, 0, none⟩) n n) W := by
  subst hn
  exact ⟨g, _, _, rfl, own_of_row bs hb r hm⟩
theorem info8 : (Try.prog.info? 5).map (fun i => (i.zero, i.size, i.bytes)) = some (some (.int .u8 0), 1, 1) := by kernel_rfl
theorem info8' : ∃ i, Try.prog.info? 5 = some i ∧ i.zero = some (.int .u8 0) ∧ i.size = 1 ∧ i.bytes = 1 := by
  have hi := info8
  cases hq : Try.prog.info? 5 with
  | none => rw [hq] at hi; cases hi
  | some i =>
    rw [hq] at hi
    simp only [Option.map_some, Option.some.injEq, Prod.mk.injEq] at hi
    exact ⟨i, rfl, hi.1, hi.2.1, hi.2.2⟩
theorem OwnAt.news {base g c : Nat} {cur : Array Value} {bs : List Int} {W : World} (h : OwnAt base g c cur bs W) : ∀ j u, (bs.map (Value.int .u8))[j]? = some u → W.cell? ((⟨g, 0, none⟩ : Addr).add j) = some u := fun j u hu => by
  have hadd : (⟨g, 0, none⟩ : Addr).add j = ⟨g, j, none⟩ := by unfold Addr.add; split <;> simp_all
  have hj : j < bs.length := by
    rcases Nat.lt_or_ge j bs.length with hj | hj
    · exact hj
    · rw [List.getElem?_eq_none (by simpa using hj)] at hu; cases hu
  rw [hadd, h.cell j hj, ← hu, List.getElem?_map, List.getElem?_eq_getElem hj]
  simp [nth, hj]
theorem ones8 (bs : List Int) : ∀ u ∈ bs.map (Value.int .u8), u.oneCell' = true := fun u hu => by
  obtain ⟨x, _, rfl⟩ := List.mem_map.1 hu
  rfl
/-- append of a slice of one's own to another: the block may be the old one -/
theorem append_own {ρ : Operand → Value} {o : Oper} {W : World} (s x : Operand) (t : TypeId) (ho : o.op = .call { callee := .builtin .append, args := #[s, x], argTypes := #[t, t] })
    (ht : Try.prog.underlying t = some (.slice 5)) {base b2 g c gx cx : Nat} {cur curx : Array Value} {xs ys : List Int} (hs : ρ s = .slice (some ⟨g, 0, none⟩) xs.length c) (hx : ρ x = .slice (some ⟨gx, 0, none⟩) ys.length cx)
    (h : OwnAt base g c cur xs W) (hy : OwnAt b2 gx cx curx ys W) (hn : xs.length + ys.length ≤ 1000000) (h0 : 0 < xs.length + ys.length) (hbase : base ≤ W.heap.size) :
    ∃ g' c' cur' W', (execOp ρ o).run Try.prog W = .ok (.value (.slice (some ⟨g', 0, none⟩) (xs ++ ys).length c')) W' ∧ OwnAt base g' c' cur' (xs ++ ys) W' ∧ ExtB g W W' ∧ (g' = g ∨ g' = W.heap.size) := by
  obtain ⟨hb, r, hc, hle, hmax, htk⟩ := h
  have hown : W.ownsRow base 5 1 (.slice (some ⟨g, 0, none⟩) xs.length c) xs.length (xs.map (Value.int .u8)) :=
    ⟨by simp, .inr ⟨g, c, cur, rfl, hb, r, hle, hmax, by omega, by rw [Nat.mul_one]; exact htk⟩⟩
  obtain ⟨i, hq, hi1, hi2, hi3⟩ := info8'
  obtain ⟨v', W', hr, h2, h3, _, h5⟩ := run_append_own_at (P := Try.prog) W base t o.type 5 i (.int .u8 0) 1 1 ht hq hi1 hi2 hi3 rfl (by omega) _ xs.length (xs.map (Value.int .u8)) hown ⟨gx, 0, none⟩ ys.length cx (ys.map (Value.int .u8)) (by simp)
    hy.news (ones8 ys) (by simp only [maxLen]; omega) (by omega) hbase
  rcases h2.2 with ⟨_, h0'⟩ | ⟨g', c', cur', hv, hb', hg', hle', hmax', hsz', htk'⟩
  · omega
  · subst hv
    refine ⟨g', c', cur', W', ?_, ⟨hb', hg', by omega, by simpa using hle', hmax', by simpa using htk'⟩, ExtB.of_grown h3, h5.imp (fun e => Option.some.inj e) (fun e => Option.some.inj e)⟩
    unfold execOp
    simp only [ho, resolve, invoke, builtin, Sem.run_bind, Sem.run_pure, Result.andThen_ok, List.map_toArray, List.map_cons, List.map_nil, hs, hx, hr]
    simp
/-- append to a slice that is full: a new block -/
theorem append_full {ρ : Operand → Value} {o : Oper} {W : World} (s x : Operand) (t : TypeId) (ho : o.op = .call { callee := .builtin .append, args := #[s, x], argTypes := #[t, t] })
    (ht : Try.prog.underlying t = some (.slice 5)) {base b2 g gx cx : Nat} {cur curx : Array Value} {xs ys : List Int} (hs : ρ s = .slice (some ⟨g, 0, none⟩) xs.length xs.length) (hx : ρ x = .slice (some ⟨gx, 0, none⟩) ys.length cx)
    (h : OwnAt base g xs.length cur xs W) (hy : OwnAt b2 gx cx curx ys W) (hn : xs.length + ys.length ≤ 1000000) (h0 : 0 < ys.length) :
    ∃ g' c' cur' W', (execOp ρ o).run Try.prog W = .ok (.value (.slice (some ⟨g', 0, none⟩) (xs ++ ys).length c')) W' ∧ OwnAt W.heap.size g' c' cur' (xs ++ ys) W' ∧ Ext W W' := by
  obtain ⟨i, hq, hi1, hi2, hi3⟩ := info8'
  obtain ⟨v', W', hr, h2, h3⟩ := run_append_arg_grows (P := Try.prog) W t o.type 5 i (.int .u8 0) 1 1 ht hq hi1 hi2 hi3 rfl (by omega) ⟨g, 0, none⟩ xs.length xs.length (xs.map (Value.int .u8)) (by simp) h.news ⟨gx, 0, none⟩ ys.length cx (ys.map (Value.int .u8)) (by simp)
    hy.news (by omega) (by simp only [maxLen]; omega) (by omega)
  rcases h2.2 with ⟨_, h0'⟩ | ⟨g', c', cur', hv, hb', hg', hle', hmax', hsz', htk'⟩
  · omega
  · subst hv
    refine ⟨g', c', cur', W', ?_, ⟨hb', hg', by omega, by simpa using hle', hmax', by simpa using htk'⟩, ext_grown h3⟩
    unfold execOp
    simp only [ho, resolve, invoke, builtin, Sem.run_bind, Sem.run_pure, Result.andThen_ok, List.map_toArray, List.map_cons, List.map_nil, hs, hx, hr]
    simp
/-- 'the same bytes' by their texts -/
theorem run_conv8 {ρ : Operand → Value} {o : Oper} {W : World} (x : Operand) (v : Value) (ho : o.op = .convert 26 9 x) (hx : ρ x = v) (bs : List Int) (h : BytesAt W v bs) : (execOp ρ o).run Try.prog W = .ok (.value (.string (strOf bs))) W := by
  subst hx
  unfold execOp
  simp only [ho, Sem.run_bind, Sem.run_pure, conv_bytes Try.underlying26 Try.underlying5 Try.underlying9 h, Result.andThen_ok]
def FullB (base : Nat) (bs : List Int) (v : Value) (W : World) : Prop := ∃ (g : Nat) (cur : Array Value), v = .slice (some ⟨g, 0, none⟩) bs.length bs.length ∧ OwnAt base g bs.length cur bs W
theorem step_append_full {ρ : Tmp → Value} {o : Oper} {W : World} (s x : Tmp) (t : TypeId) (ho : o.op = .call { callee := .builtin .append, args := #[.tmp s, .tmp x], argTypes := #[t, t] })
    (ht : Try.prog.underlying t = some (.slice 5)) {base : Nat} {xs ys : List Int} (h3 : FullB base xs (ρ s) W) (h5 : OwnB base ys (ρ x) W) (hn : xs.length + ys.length ≤ 1000000) (h0 : 0 < ys.length) (hb : base ≤ W.heap.size) :
    ∃ v W', (execOp (Rely.look ρ) o).run Try.prog W = .ok (.value v) W' ∧ Ext W W' ∧ OwnB base (xs ++ ys) v W' := by
  obtain ⟨g, cur, e3, o3⟩ := h3
  obtain ⟨gx, cx, curx, e5, o5⟩ := h5
  obtain ⟨g', c', cur', W', hr, ho', hx⟩ := append_full (ρ := Rely.look ρ) (o := o) (W := W) (.tmp s) (.tmp x) t ho ht e3 e5 o3 o5 hn h0
  exact ⟨_, _, hr, hx, OwnB.base hb ⟨_, _, _, rfl, ho'⟩⟩
theorem FullB.stable (base : Nat) (bs : List Int) : Stable Ext (FullB base bs) := fun _ _ _ hR ⟨g, cur, e, h⟩ => ⟨g, cur, e, h.ext hR⟩
/-- the slots behind a region that draws, of each of whose operations a fact is known -/
def finF (Q : Env → World → Prop) : List Oper → List Fact → Env → World → Prop
  | o :: os, φ :: E, L, W => ∀ v, φ v W → finF Q os E (up o.dst v L) W
  | _, _, L, W => Q L W
theorem fin_F {ds : List Deferred} {Q : Act → World → Prop} {N : Nat} {W : World} : ∀ (os : List Oper) (E : List Fact) (L : Env), finF (fun L W => Q (actOf ds N L) W) os E L W → fin Q os E (actOf ds N L) W
  | [], E, L, h => by cases E <;> exact h
  | _ :: _, [], L, h => h
  | o :: os, φ :: E, L, h => by
    intro v hv
    rw [put_up]
    exact fin_F os E _ (h v hv)
theorem finF_mono {Q Q' : Env → World → Prop} (h : ∀ L W, Q L W → Q' L W) : ∀ (os : List Oper) (E : List Fact) (L : Env) (W : World), finF Q os E L W → finF Q' os E L W
  | [], E, L, W, k => by cases E <;> exact h _ _ k
  | _ :: _, [], L, W, k => h _ _ k
  | o :: os, φ :: E, L, W, k => fun v hv => finF_mono h os E _ W (k v hv)
theorem any_regionF {ds : List Deferred} {P : Program} {id : Nat} {Q : Exit → Act → World → Prop} {N : Nat} {L : Env} {w : World} {l : List Oper} (n : Nat) (S : List Src) (hm : P.follows .mixedOrders = true) (hok : ok l n N S = true)
    (h : ∀ F : List Fact → Prop, (∀ E, (∀ W, Ext w W → finF (fun L W => WL P l.toArray Q (l.drop n) (actOf ds N L) W) (l.take n) E L W) → F E) → relies P Ext w.drew (envN N L) F (l.take n) S []) :
    (Code.region id l.toArray true).wp P Q (actOf ds N L) w := by
  refine wp_region_rely Ext n N S hm hok (size_actOf N L) Ext.refl Ext.trans fun F r0 hr hF => ?_
  rw [slots_actOf] at hr
  subst hr
  exact h F fun E hE => hF.out fun W hR => fin_F (Q := fun a W => wpList P l.toArray Q (l.drop n) a W) _ _ _ (finF_mono (fun L W h => h.out) _ _ _ _ (hE W (Rely.Ext.trans (ext_drew w) hR)))
theorem step_run {P : Program} {w0 : World} {r0 : Tmp → Value} {F : List Fact → Prop} {E : List Fact} {o : Oper} {os : List Oper} {ss : List Src} {rd : List (Tmp × Option Nat)} (φ : Fact) (hs : Stable Ext φ)
    (h : ∀ (ρ : Tmp → Value) (W : World), Ext w0 W → Holds r0 E ρ W rd → ∃ v W', (execOp (Rely.look ρ) o).run P W = .ok (.value v) W' ∧ Ext W W' ∧ φ v W')
    (hk : relies P Ext w0 r0 F os ss (E ++ [φ])) : relies P Ext w0 r0 F (o :: os) (⟨none, rd⟩ :: ss) E :=
  step_fact φ hs (fun ρ W hR hh => by
    obtain ⟨v, W', e, h1, h2⟩ := h ρ W hR hh
    show relyUpon _ _ _ _ _
    rw [e]
    exact ⟨h1, h2⟩) hk
theorem step_calls {P : Program} {w0 : World} {r0 : Tmp → Value} {F : List Fact → Prop} {E : List Fact} {o : Oper} {os : List Oper} {ss : List Src} {rd : List (Tmp × Option Nat)} (φ : Fact) (hs : Stable Ext φ) (f : FuncId) (args : Array Value)
    (h : ∀ (ρ : Tmp → Value) (W : World), Ext w0 W → Holds r0 E ρ W rd → (execOp (Rely.look ρ) o).run P W = .ok (.enter f args) W)
    (hc : ∀ W, Ext w0 W → Calls P f args W (Gives W φ))
    (hk : relies P Ext w0 r0 F os ss (E ++ [φ])) : relies P Ext w0 r0 F (o :: os) (⟨none, rd⟩ :: ss) E :=
  step_fact φ hs (fun ρ W hR hh => by
    show relyUpon _ _ _ _ _
    rw [h ρ W hR hh]
    exact ⟨Ext.refl _, (hc W hR).mono fun _ _ h => h.fact⟩) hk
end Go.Proofs.Ytfelfmchachljaa.Own
