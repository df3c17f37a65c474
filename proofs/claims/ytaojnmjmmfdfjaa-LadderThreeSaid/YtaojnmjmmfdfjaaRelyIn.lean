/- XRely's law inside a fence: a region that draws its order, where the walk is a fenced one (ranges over functions). -/
import Derived.Test.YtaojnmjmmfdfjaaRangeKit
namespace Go.Proofs.Ytaojnmjmmfdfjaa.Rely
set_option linter.unusedVariables false
open Go
section
variable {P : Program} {R : World → World → Prop} {w0 : World} {a0 : Act} {Fe : Fence} {nf : Nat}

theorem wpOpIn_of_wanted {ops : Array Oper} {Q : Exit → Act → World → Prop} {i : Nat} {o : Oper} {K : Act → World → Prop} {a : Act} {w : World} (ho : ops[i]? = some o) (hfn : ∀ f, Fe.fn f)
    (h : if Region.wanted o (yielded ops a.tmps) then o.wpIn Fe nf P a w K Q else K (a.put o.dst undef) w) : wpOpIn Fe nf P ops Q i K a w := by
  unfold wpOpIn
  rw [ho]
  simp only
  split at h
  · rename_i hw; rw [if_pos hw]; exact h
  · rename_i hw; rw [if_neg hw]; exact ⟨fun f _ => hfn f, h⟩
theorem relyAt_wpIn {o : Oper} {a : Act} {W : World} {φ : Fact} {K : Act → World → Prop} {Q : Exit → Act → World → Prop} (hnd : ∀ c, o.op ≠ .defer c) (hfn : ∀ f, Fe.fn f) (hdp : Fe.depth.isSome = true → 1 ≤ nf)
    (hC : ∀ {f : FuncId} {args : Array Value} {w : World} {T : Ending → World → Prop}, Calls P f args w T → CallsIn Fe (nf - 1) P f args w T)
    (htr : ∀ {a b c : World}, R a b → R b c → R a c) (h : relyAt P R o (slots a) W φ)
    (hk : ∀ v W', R W W' → φ v W' → K (a.put o.dst v) W') : o.wpIn Fe nf P a W K Q := by
  unfold relyAt at h
  rw [← eval_look] at h
  unfold Oper.wpIn
  rw [Oper.semAt_plain Fe _ _ hnd]
  refine ⟨fun f _ => hfn f, ?_⟩
  generalize (execOp a.eval o).run P W = r at *
  cases r with
  | halt x w => exact h.elim
  | ok n W1 =>
    cases n <;> simp only [relyUpon] at h <;> try exact h.elim
    case value v => exact hk v W1 h.1 h.2
    case skip => exact hk undef W1 h.1 h.2
    case enter f args =>
      obtain ⟨h1, h2⟩ := h
      refine ⟨hdp, CallsIn.mono (hC h2) fun e W2 ⟨v, he, hr, hp⟩ => ?_⟩
      subst he
      exact hk v W2 (htr h1 hr) hp

theorem tail_soundIn {l : List Oper} {n : Nat} {Q : Exit → Act → World → Prop} (hM : tailOk (masks l #[]) n l.length = true) (he : edgesOk 0 l = true) :
    ∀ (fuel m : Nat) (listed : Array Bool) (a : Act) (W : World), n ≤ m → m ≤ l.length → listed.size = l.length → Closed l.toArray listed → (∀ i, i < m → listed.getD i false = true) → (∀ i, m ≤ i → listed.getD i false = false) →
      fuel = l.length - m → wpListIn Fe nf P l.toArray Q (l.drop m) a W → wpAnyIn Fe nf P .any l.toArray Q fuel listed a W := by
  have only : ∀ (m : Nat) (listed : Array Bool), n ≤ m → Closed l.toArray listed → (∀ i, i < m → listed.getD i false = true) → (∀ i, m ≤ i → listed.getD i false = false) → ∀ j ∈ Region.ready .any l.toArray listed, j = m ∧ m < l.length := by
    intro m listed hm hc h1 h2 j hj
    obtain ⟨hu, o, ho, _⟩ := mem_ready.1 hj
    have hjl : j < l.length := by have := (Array.getElem?_eq_some_iff.1 ho).1; simpa using this
    have hjm : m ≤ j := by
      rcases Nat.lt_or_ge j m with h | h
      · have := getD_false_of_true (h1 j h); rw [this] at hu; cases hu
      · exact h
    rcases Nat.eq_or_lt_of_le hjm with h | h
    · exact ⟨h.symm, by omega⟩
    · exfalso
      have h3 := List.all_eq_true.1 hM j (List.mem_range.2 hjl)
      simp only [Bool.or_eq_true, decide_eq_true_eq] at h3
      rcases h3 with h3 | h3
      · omega
      · have h4 := List.all_eq_true.1 h3 m (List.mem_range.2 h)
        have ha := masks_anc l.toArray l #[] (fun j => by simp) (fun j i h => by simp at h) j m h4
        have := anc_of_ready hc hj ha
        rw [h2 m (Nat.le_refl _)] at this
        cases this
  intro fuel
  induction fuel with
  | zero =>
    intro m listed a W hn hm hs hc h1 h2 hf h
    have hml : m = l.length := by omega
    subst hml
    refine ⟨?_, by simpa [wpListIn] using h⟩
    cases hr : Region.ready .any l.toArray listed with
    | nil => rfl
    | cons x xs => have := only _ listed hn hc h1 h2 x (by rw [hr]; exact List.mem_cons_self); omega
  | succ fuel ih =>
    intro m listed a W hn hm hs hc h1 h2 hf h
    have hml : m < l.length := by omega
    obtain ⟨o, ho⟩ : ∃ o, l[m]? = some o := ⟨l[m], by simp [hml]⟩
    have hd : l.drop m = o :: l.drop (m + 1) := by
      rw [List.drop_eq_getElem_cons hml]
      congr 1
      exact Option.some.inj (by rw [← ho]; simp [hml])
    refine ⟨fun hr => ?_, fun j hj => ?_⟩
    · obtain ⟨j, hj⟩ := ready_of_left he (listed := listed) m hml (getD_in (by omega) (h2 m (Nat.le_refl _)))
      rw [hr] at hj; cases hj
    · obtain ⟨rfl, _⟩ := only m listed hn hc h1 h2 j hj
      rw [hd] at h
      have h' : wpOpIn Fe nf P l.toArray Q j (wpListIn Fe nf P l.toArray Q (l.drop (j + 1))) a W := by
        unfold wpOpIn
        have : (l.toArray)[j]? = some o := by simpa using ho
        rw [this]
        exact h
      refine wpOpIn_mono (fun a' W' h2' => ih (j + 1) _ a' W' (by omega) hml (by simp [hs]) (hc.set hj) (fun i hi => ?_) (fun i hi => ?_) (by omega) h2') h'
      · by_cases hij : j = i
        · subst hij; simp [Array.getElem?_setIfInBounds_self_of_lt (show j < listed.size by omega)]
        · rw [getD_set_ne false hij]; exact h1 i (by omega)
      · rw [getD_set_ne false (by omega)]; exact h2 i (by omega)

theorem wpAnyIn_of_rely {l : List Oper} {n N : Nat} {S : List Src} {E : List Fact} {Q : Exit → Act → World → Prop} (hfn : ∀ f, Fe.fn f) (hdp : Fe.depth.isSome = true → 1 ≤ nf) (hC : ∀ {f : FuncId} {args : Array Value} {w : World} {T : Ending → World → Prop}, Calls P f args w T → CallsIn Fe (nf - 1) P f args w T) (hnd : ∀ o ∈ l, ∀ c, o.op ≠ .defer c) (hok : ok l n N S = true) (hN : a0.tmps.size = N) (hrf : ∀ a, R a a) (htr : ∀ {a b c : World}, R a b → R b c → R a c)
    (hE : E.length = (l.take n).length) (hst : ∀ φ ∈ E, Stable R φ)
    (hop : ∀ j o s, (l.take n)[j]? = some o → S[j]? = some s → opOk P R w0 (slots a0) E o s (E.getD j fun _ _ => True))
    (hfin : ∀ W, R w0 W → fin (fun a W => wpListIn Fe nf P l.toArray Q (l.drop n) a W) (l.take n) E a0 W) :
    ∀ (fuel : Nat) (listed : Array Bool) (a : Act) (W : World) (vs : Nat → Value), Inv R w0 a0 l.toArray E n listed a W vs → fuel = left l.toArray listed → wpAnyIn Fe nf P .any l.toArray Q fuel listed a W := by
  simp only [ok, Bool.and_eq_true, decide_eq_true_eq] at hok
  obtain ⟨⟨⟨⟨⟨hn, hsrc⟩, hdst⟩, hedge⟩, htail⟩, hdt⟩ := hok
  have hlen : (l.take n).length = n := by simp [hn]
  have hget : ∀ i, i < n → (l.take n)[i]? = l[i]? := fun i hi => by simp [hi]
  have hgd : ∀ i, (E.getD i fun _ _ => True) = (fun _ _ => True) ∨ (E.getD i fun _ _ => True) ∈ E := fun i => by
    rcases Nat.lt_or_ge i E.length with h | h
    · right; simp [h]
    · left; simp [List.getElem?_eq_none h]
  have hstg : ∀ i, Stable R (E.getD i fun _ _ => True) := fun i => by
    rcases hgd i with h | h
    · rw [h]; exact fun _ _ _ _ _ => trivial
    · exact hst _ h
  have hanc : ∀ j i, ((masks l #[]).getD j 0).testBit i = true → Anc l.toArray i j := masks_anc l.toArray l #[] (fun j => by simp) (fun j i h => by simp at h)
  have count : ∀ (listed : Array Bool), (∀ i, i < n → listed.getD i true = true) → (∀ i, n ≤ i → i < l.length → listed.getD i true = false) → left l.toArray listed = l.length - n := by
    intro listed h1 h2
    unfold left
    simp only [List.size_toArray]
    have : ∀ m, m ≤ l.length → (List.range m).countP (fun i => !listed.getD i true) = m - n := by
      intro m
      induction m with
      | zero => intro _; simp
      | succ m ih =>
        intro hm
        rw [List.range_succ, List.countP_append, ih (by omega), List.countP_singleton]
        by_cases hmn : m < n
        · simp only [h1 m hmn, Bool.not_true, Bool.false_eq_true, if_false]; omega
        · simp only [h2 m (by omega) (by omega), Bool.not_false, if_true]; omega
    exact this l.length (Nat.le_refl _)
  have done : ∀ (fuel : Nat) (listed : Array Bool) (a : Act) (W : World) (vs : Nat → Value), Inv R w0 a0 l.toArray E n listed a W vs → fuel = left l.toArray listed → (∀ i, i < n → listed.getD i true = true) → wpAnyIn Fe nf P .any l.toArray Q fuel listed a W := by
    intro fuel listed a W vs inv hf hall
    have hs : listed.size = l.length := by simpa using inv.size
    have hall' : ∀ i, i < n → listed.getD i false = true := fun i hi => by
      cases hx : listed.getD i false with
      | true => rfl
      | false => have := getD_in (by omega) hx; rw [hall i hi] at this; cases this
    refine tail_soundIn htail hedge fuel n listed a W (Nat.le_refl _) hn hs inv.closed hall' inv.tail (by rw [hf]; exact count listed hall (fun i h1 h2 => getD_in (by omega) (inv.tail i h1))) ?_
    have hq := fin_run (l.take n) E a0 vs 0 (hfin W inv.rel) hE (fun i hi => by
      rw [Nat.zero_add]
      exact inv.facts i (hall' i (by omega)) (by omega))
    have heq : putsFrom (l.take n) vs 0 a0 = a := by
      have hsz := putsFrom_size (l.take n) vs 0 a0
      have ht : (putsFrom (l.take n) vs 0 a0).tmps = a.tmps := by
        refine Array.ext_getElem? fun t => ?_
        by_cases hw : ∃ (i : Nat) (o : Oper), (l.take n)[i]? = some o ∧ o.dst = some t
        · obtain ⟨i, o, hi, ho⟩ := hw
          have hin : i < n := by have := (List.getElem?_eq_some_iff.1 hi).1; omega
          rw [putsFrom_some (l.take n) vs 0 a0 t i o hdst hN hi ho, Nat.zero_add]
          exact (inv.vals i o t (hall' i hin) hin (by rw [hget i hin] at hi; simpa using hi) ho).symm
        · rw [putsFrom_none (l.take n) vs 0 a0 t (fun o ho he => by
            obtain ⟨i, hi⟩ := List.mem_iff_getElem?.1 ho
            exact hw ⟨i, o, hi, he⟩)]
          refine (inv.rest t fun i o _ hin hi he => hw ⟨i, o, by rw [hget i hin]; simpa using hi, he⟩).symm
      have hd := hsz.2.trans inv.defers.symm
      generalize putsFrom (l.take n) vs 0 a0 = b at *
      cases a; cases b
      simp_all
    rw [heq] at hq
    exact hq
  have main : ∀ (fuel : Nat) (listed : Array Bool) (a : Act) (W : World) (vs : Nat → Value), Inv R w0 a0 l.toArray E n listed a W vs → fuel = left l.toArray listed → wpAnyIn Fe nf P .any l.toArray Q fuel listed a W := by
    intro fuel
    induction fuel with
    | zero =>
      intro listed a W vs inv hf
      refine done 0 listed a W vs inv hf fun i hi => ?_
      cases hx : listed.getD i true with
      | true => rfl
      | false =>
        have := left_pos (ops := l.toArray) (by simp; omega) hx
        omega
    | succ fuel ih =>
      intro listed a W vs inv hf
      by_cases hA : ∀ i, i < n → listed.getD i true = true
      · exact done _ listed a W vs inv hf hA
      · have hs : listed.size = l.length := by simpa using inv.size
        obtain ⟨i0, hi0, hu0⟩ : ∃ i, i < n ∧ listed.getD i true = false := by
          refine Classical.byContradiction fun hc => hA fun i hi => ?_
          cases hx : listed.getD i true with
          | true => rfl
          | false => exact absurd ⟨i, hi, hx⟩ hc
        refine ⟨fun hr => ?_, fun j hj => ?_⟩
        · obtain ⟨j, hj⟩ := ready_of_left hedge (listed := listed) i0 (by omega) hu0
          rw [hr] at hj; cases hj
        · obtain ⟨hju, oj, hoj, _⟩ := mem_ready.1 hj
          have hoj' : l[j]? = some oj := by simpa using hoj
          have hjl : j < l.length := (List.getElem?_eq_some_iff.1 hoj').1
          have hjn : j < n := by
            rcases Nat.lt_or_ge j n with h | h
            · exact h
            · exfalso
              have h3 := List.all_eq_true.1 htail j (List.mem_range.2 hjl)
              simp only [Bool.or_eq_true, decide_eq_true_eq] at h3
              rcases h3 with h3 | h3
              · omega
              · have h4 := List.all_eq_true.1 h3 i0 (List.mem_range.2 (by omega))
                have := anc_of_ready inv.closed hj (hanc j i0 h4)
                rw [getD_false_of_true this] at hu0
                cases hu0
          obtain ⟨s, hsj, hso⟩ := srcs_get (l.take n) S 0 hsrc j oj (by rw [hget j hjn]; exact hoj')
          rw [Nat.zero_add] at hso
          simp only [srcOk, Bool.and_eq_true] at hso
          obtain ⟨hg, hrd⟩ := hso
          have hg' : guardOf l.toArray oj = some s.guard := by simpa using hg
          have holds : ∀ (r : List (Tmp × Option Nat)), r.all (readOk l (masks l #[]) j) = true → Holds (slots a0) E (slots a) W r := by
            intro r
            induction r with
            | nil => intro _; trivial
            | cons x r ihr =>
              intro hr
              simp only [List.all_cons, Bool.and_eq_true] at hr
              obtain ⟨t, si⟩ := x
              cases si with
              | none =>
                refine ⟨?_, ihr hr.2⟩
                have h1 := hr.1
                simp only [readOk] at h1
                have h2 : a.tmps[t]? = a0.tmps[t]? := inv.rest t fun i o hli hin hio hd => by
                  have h3 := List.all_eq_true.1 h1 (o, i) (by
                    rw [List.mem_iff_getElem?]
                    refine ⟨i, ?_⟩
                    rw [List.getElem?_zipIdx]
                    have : l[i]? = some o := by simpa using hio
                    simp [this])
                  simp only [hd, bne_self_eq_false, Bool.false_or, Bool.or_eq_true, beq_iff_eq] at h3
                  have hlj : listed.getD j false = true := by
                    rcases h3 with h3 | h3
                    · exact inv.closed.anc (hanc i j h3) hli
                    · rw [← h3]; exact hli
                  rw [getD_false_of_true hlj] at hju
                  cases hju
                simp only [slots, Array.getD_eq_getD_getElem?, h2]
              | some i =>
                refine ⟨?_, ihr hr.2⟩
                have h1 := hr.1
                simp only [readOk, Bool.and_eq_true, decide_eq_true_eq, beq_iff_eq] at h1
                obtain ⟨⟨hij, hbit⟩, hdi⟩ := h1
                have hli := anc_of_ready inv.closed hj (hanc j i hbit)
                obtain ⟨oi, hoi, hdi'⟩ : ∃ oi, l[i]? = some oi ∧ oi.dst = some t := by
                  cases hx : l[i]? with
                  | none => rw [hx] at hdi; cases hdi
                  | some oi => rw [hx] at hdi; exact ⟨oi, rfl, hdi⟩
                have hv := inv.vals i oi t hli (by omega) (by simpa using hoi) hdi'
                have : slots a t = vs i := by simp only [slots, Array.getD_eq_getD_getElem?, hv, Option.getD_some]
                rw [this]
                exact inv.facts i hli (by omega)
          have hopj := hop j oj s (by rw [hget j hjn]; exact hoj') hsj (slots a) W inv.rel (holds s.reads hrd)
          have next : ∀ v W', R W W' → (E.getD j fun _ _ => True) v W' → wpAnyIn Fe nf P .any l.toArray Q fuel (listed.setIfInBounds j true) (a.put oj.dst v) W' := by
            intro v W' hR hφ
            have hjs : j < listed.size := by omega
            have hlist : ∀ i, (listed.setIfInBounds j true).getD i false = true → i = j ∨ listed.getD i false = true := fun i hi => by
              by_cases hij : j = i
              · exact .inl hij.symm
              · rw [getD_set_ne false hij] at hi; exact .inr hi
            refine ih _ _ W' (fun i => if i = j then v else vs i) ⟨by simp [inv.size], inv.closed.set hj, htr inv.rel hR, (put_defers _ _ _).trans inv.defers, (put_size _ _ _).trans inv.asize, ?_, ?_, ?_, ?_⟩ ?_
            · intro i hi hin
              by_cases hij : i = j
              · subst hij; simpa using hφ
              · simp only [hij, if_false]
                rcases hlist i hi with h | h
                · exact absurd h hij
                · exact hstg i _ _ _ hR (inv.facts i h hin)
            · intro i o d hi hin hio hd
              by_cases hij : i = j
              · subst hij
                obtain rfl : o = oj := Option.some.inj (hio.symm.trans hoj)
                rw [hd, put_get_eq _ _ _ (by rw [inv.asize, hN]; exact dsts_lt (l.take n) hdst i o d (by rw [hget i hin]; exact hoj') hd)]
                simp
              · simp only [hij, if_false]
                rcases hlist i hi with h | h
                · exact absurd h hij
                · rw [put_get_ne _ _ _ _ (dsts_ne (l.take n) hdst i j o oj d (by rw [hget i hin]; simpa using hio) (by rw [hget j hjn]; exact hoj') hij hd)]
                  exact inv.vals i o d h hin hio hd
            · intro t ht
              rw [put_get_ne _ _ _ _ (ht j oj (by simp [Array.getElem?_setIfInBounds_self_of_lt hjs]) hjn hoj)]
              exact inv.rest t fun i o hi hin hio => ht i o (getD_set_true hi) hin hio
            · intro i hi
              rw [getD_set_ne false (by omega)]
              exact inv.tail i hi
            · have := left_set hju inv.size
              omega
          refine wpOpIn_of_wanted hoj hfn ?_
          rw [wanted_guard hg']
          by_cases hb : gOk s.guard (slots a) = true
          · rw [if_pos hb]
            refine relyAt_wpIn (R := R) (W := W) (φ := E.getD j fun _ _ => True) (hnd oj (List.mem_of_getElem? hoj')) hfn hdp hC (fun {_ _ _} h1 h2 => htr h1 h2) ?_ next
            cases hgd' : s.guard with
            | none => rw [hgd'] at hopj; exact hopj
            | some db =>
              rw [hgd'] at hopj hb
              exact (if_pos hb).mp hopj
          · rw [if_neg hb]
            refine next undef W (hrf W) ?_
            cases hgd' : s.guard with
            | none => rw [hgd'] at hb; exact absurd rfl hb
            | some db =>
              rw [hgd'] at hopj hb
              exact (if_neg hb).mp hopj
  exact main

/-- what stands behind the region -/
def AfterIn (Fe : Fence) (nf : Nat) {P : Program} {R : World → World → Prop} {Q : Exit → Act → World → Prop} {a : Act} {w : World} {l : List Oper} {n : Nat} (F : List Fact → Prop) : Prop :=
  ∀ E, (∀ W, R w.drew W → fin (fun a W => wpListIn Fe nf P l.toArray Q (l.drop n) a W) (l.take n) E a W) → F E
theorem AfterIn.out {P : Program} {R : World → World → Prop} {Q : Exit → Act → World → Prop} {a : Act} {w : World} {l : List Oper} {n : Nat} {F : List Fact → Prop} (h : AfterIn Fe nf (P := P) (R := R) (Q := Q) (a := a) (w := w) (l := l) (n := n) F) {E : List Fact}
    (k : ∀ W, R w.drew W → fin (fun a W => wpListIn Fe nf P l.toArray Q (l.drop n) a W) (l.take n) E a W) : F E := h E k

/-- THE LAW. 'n': so many operations are taken in whatever order; those behind them wait for all ahead of them and are walked as ever. 'N': the frame's size. -/
theorem wpIn_region_rely {id : Nat} {Q : Exit → Act → World → Prop} {a : Act} {w : World} {l : List Oper} (R : World → World → Prop) (n N : Nat) (S : List Src) (hfn : ∀ f, Fe.fn f) (hdp : Fe.depth.isSome = true → 1 ≤ nf) (hC : ∀ {f : FuncId} {args : Array Value} {w : World} {T : Ending → World → Prop}, Calls P f args w T → CallsIn Fe (nf - 1) P f args w T) (hdf : (l.all fun o => match o.op with | .defer _ => false | _ => true) = true) (hm : P.follows .mixedOrders = true) (hok : ok l n N S = true) (hN : a.tmps.size = N)
    (hrf : ∀ a, R a a) (htr : ∀ {a b c : World}, R a b → R b c → R a c)
    (h : ∀ (F : List Fact → Prop) (r0 : Tmp → Value), r0 = slots a → AfterIn Fe nf (P := P) (R := R) (Q := Q) (a := a) (w := w) (l := l) (n := n) F → relies P R w.drew r0 F (l.take n) S []) : (Code.region id l.toArray true).wpIn Fe nf P Q a w := by
  have hnd : ∀ o ∈ l, ∀ c, o.op ≠ .defer c := fun o ho c hc => by
    have := List.all_eq_true.1 hdf o ho
    rw [hc] at this
    cases this
  have hok' := hok
  simp only [ok, Bool.and_eq_true, decide_eq_true_eq] at hok'
  obtain ⟨⟨⟨⟨⟨hn, hsrc⟩, hdst⟩, hedge⟩, htail⟩, hdt⟩ := hok'
  obtain ⟨E, hl, _, hst, hop, hfin⟩ := relies_found (M := masks l #[]) (l.take n) S [] (h (fun E => ∀ W, R w.drew W → fin (fun a W => wpListIn Fe nf P l.toArray Q (l.drop n) a W) (l.take n) E a W) _ rfl (show AfterIn Fe nf _ from fun _ h => h)) hsrc (fun _ h => by cases h)
  refine wpIn_region_any hm ?_
  have hcount : l.toArray.size = left l.toArray (Array.replicate l.toArray.size false) := by
    unfold left
    have : ∀ m, m ≤ l.toArray.size → (List.range m).countP (fun i => !(Array.replicate l.toArray.size false).getD i true) = m := by
      intro m
      induction m with
      | zero => intro _; simp
      | succ m ih =>
        intro hm
        rw [List.range_succ, List.countP_append, ih (by omega), List.countP_singleton]
        have : (Array.replicate l.toArray.size false).getD m true = false := by simp at hm ⊢; simp [show m < l.length by omega]
        simp only [this, Bool.not_false, if_true]
    exact (this _ (Nat.le_refl _)).symm
  refine wpAnyIn_of_rely (R := R) (w0 := w.drew) (a0 := a) hfn hdp hC hnd hok hN hrf htr (by simpa using hl) hst (fun j o s hj hs => by simpa using hop j o s hj hs) hfin _ _ a _ (fun _ => undef) ⟨by simp, ?_, hrf _, rfl, rfl, ?_, ?_, ?_, ?_⟩ hcount
  · intro j o ho hl
    rw [getD_replicate_false] at hl; cases hl
  · intro i hi; rw [getD_replicate_false] at hi; cases hi
  · intro i o d hi; rw [getD_replicate_false] at hi; cases hi
  · intro t _; rfl
  · intro i _; exact getD_replicate_false _ _
end
end Go.Proofs.Ytaojnmjmmfdfjaa.Rely
