/- The law for a region that draws its order, where it makes variables: the blocks that it makes are apart, whatever the order. -/
import Derived.Test.YtaojnmjmmfdfjaaRely
import Derived.MapKept
namespace Go.Proofs.Ytaojnmjmmfdfjaa.Rely
set_option linter.unusedVariables false
open Go

def allocsOk (l : List Oper) (D : List Nat) : Bool := D.all fun j => match l[j]? with | some o => (match o.op with | .alloc _ => true | _ => false) && o.guard.isNone | none => false
/-- of each block made is known that it lies -/
def Bounds (D : List Nat) (E : List Fact) : Prop := ∀ j ∈ D, ∀ u W, (E.getD j fun _ _ => True) u W → ∃ g, u = .pointer (some ⟨g, 0, none⟩) ∧ g < W.heap.size
def Pairs (D : List Nat) (n : Nat) (listed : Array Bool) (vs : Nat → Value) : Prop :=
  ∀ i k, i ∈ D → k ∈ D → listed.getD i false = true → listed.getD k false = true → i < n → k < n → i ≠ k → vs i ≠ vs k
def finP (Q : Act → World → Prop) (D : List Nat) : List Oper → List Fact → Nat → List Value → Act → World → Prop
  | o :: l, φ :: E, k, acc, a, W => ∀ v, φ v W → (D.contains k = true → ∀ u ∈ acc, u ≠ v) → finP Q D l E (k + 1) (if D.contains k = true then acc ++ [v] else acc) (a.put o.dst v) W
  | _, _, _, _, a, W => Q a W

theorem fin_runP {Q : Act → World → Prop} {W : World} {D : List Nat} : ∀ (os : List Oper) (E : List Fact) (a : Act) (vs : Nat → Value) (k : Nat) (acc : List Value), finP Q D os E k acc a W → E.length = os.length →
    (∀ i, i < os.length → (E.getD i fun _ _ => True) (vs (k + i)) W) → (∀ u ∈ acc, ∃ i, i ∈ D ∧ i < k ∧ u = vs i) → (∀ i j, i ∈ D → j ∈ D → i < k + os.length → j < k + os.length → i ≠ j → vs i ≠ vs j) → Q (putsFrom os vs k a) W
  | [], [], a, vs, k, acc, h, _, _, _, _ => h
  | [], _ :: _, _, _, _, _, _, hl, _, _, _ => by simp at hl
  | _ :: _, [], _, _, _, _, _, hl, _, _, _ => by simp at hl
  | o :: os, φ :: E, a, vs, k, acc, h, hl, hf, ha, hp => by
    have h0 := hf 0 (by simp)
    have hlen : (o :: os).length = os.length + 1 := rfl
    refine fin_runP os E (a.put o.dst (vs k)) vs (k + 1) _ (h (vs k) (by simpa using h0) (fun hk u hu => ?_)) (by simpa using hl) (fun i hi => ?_) (fun u hu => ?_) (fun i j hi hj hin hjn hne => hp i j hi hj (by omega) (by omega) hne)
    · obtain ⟨i, hiD, hik, rfl⟩ := ha u hu
      exact hp i k hiD (by simpa using hk) (by omega) (by omega) (by omega)
    · have := hf (i + 1) (by simpa using hi)
      rw [show k + (i + 1) = k + 1 + i by omega] at this
      simpa using this
    · by_cases hk : D.contains k = true
      · rw [if_pos hk] at hu
        rcases List.mem_append.1 hu with hu | hu
        · obtain ⟨i, h1, h2, h3⟩ := ha u hu
          exact ⟨i, h1, by omega, h3⟩
        · exact ⟨k, by simpa using hk, by omega, List.mem_singleton.1 hu⟩
      · rw [if_neg hk] at hu
        obtain ⟨i, h1, h2, h3⟩ := ha u hu
        exact ⟨i, h1, by omega, h3⟩

section
variable {P : Program} {R : World → World → Prop} {w0 : World} {a0 : Act}
theorem allocs_get {l : List Oper} {D : List Nat} {j : Nat} {o : Oper} (hD : allocsOk l D = true) (hj : j ∈ D) (ho : l[j]? = some o) : (∃ ty, o.op = .alloc ty) ∧ o.guard = none := by
  have h := List.all_eq_true.1 hD j hj
  rw [ho] at h
  simp only [Bool.and_eq_true] at h
  refine ⟨?_, by simpa using h.2⟩
  have h1 := h.1
  cases hop : o.op <;> rw [hop] at h1 <;> first | exact ⟨_, rfl⟩ | cases h1
theorem noguard {l : List Oper} {D : List Nat} {j : Nat} {o : Oper} {g : Option (Tmp × Bool)} (hD : allocsOk l D = true) (hj : j ∈ D) (ho : l[j]? = some o) (hg : guardOf l.toArray o = some g) : g = none := by
  have h := (allocs_get hD hj ho).2
  unfold guardOf at hg
  rw [h] at hg
  simpa using hg.symm
theorem relyAt_fresh {l : List Oper} {D : List Nat} {j : Nat} {o : Oper} {ρ : Tmp → Value} {W : World} {φ : Fact} (hD : allocsOk l D = true) (ho : l[j]? = some o) (h : relyAt P R o ρ W φ) :
    relyAt P R o ρ W (fun v W' => φ v W' ∧ (j ∈ D → v = .pointer (some ⟨W.heap.size, 0, none⟩))) := by
  by_cases hj : j ∈ D
  · obtain ⟨⟨ty, hop⟩, _⟩ := allocs_get hD hj ho
    unfold relyAt execOp at h ⊢
    simp only [hop, Instr.alloc, Sem.run_bind] at h ⊢
    cases hz : (zeroValue ty).run P W with
    | halt x w1 => rw [hz] at h; exact h.elim
    | ok z w1 =>
      obtain rfl := Go.MapKept.run_zeroValue_world hz
      rw [hz] at h
      exact ⟨h.1, h.2, fun _ => rfl⟩
  · unfold relyAt at h ⊢
    generalize (execOp (look ρ) o).run P W = r at *
    cases r with
    | halt x w1 => exact h
    | ok x w1 =>
      cases x <;> try exact h
      case value v => exact ⟨h.1, h.2, fun hc => absurd hc hj⟩
      case skip => exact ⟨h.1, h.2, fun hc => absurd hc hj⟩
      case enter f args => exact ⟨h.1, Calls.mono h.2 fun e W2 ⟨v, he, hr, hp⟩ => ⟨v, he, hr, hp, fun hc => absurd hc hj⟩⟩

theorem wpAny_of_relyD {l : List Oper} {n N : Nat} {S : List Src} {E : List Fact} {D : List Nat} {Q : Exit → Act → World → Prop} (hD : allocsOk l D = true) (hB : Bounds D E) (hok : ok l n N S = true) (hN : a0.tmps.size = N) (hrf : ∀ a, R a a) (htr : ∀ {a b c : World}, R a b → R b c → R a c)
    (hE : E.length = (l.take n).length) (hst : ∀ φ ∈ E, Stable R φ)
    (hop : ∀ j o s, (l.take n)[j]? = some o → S[j]? = some s → opOk P R w0 (slots a0) E o s (E.getD j fun _ _ => True))
    (hfin : ∀ W, R w0 W → finP (fun a W => wpList P l.toArray Q (l.drop n) a W) D (l.take n) E 0 [] a0 W) :
    ∀ (fuel : Nat) (listed : Array Bool) (a : Act) (W : World) (vs : Nat → Value), Inv R w0 a0 l.toArray E n listed a W vs → Pairs D n listed vs → fuel = left l.toArray listed → wpAny P .any l.toArray Q fuel listed a W := by
  simp only [ok, Bool.and_eq_true, decide_eq_true_eq] at hok
  obtain ⟨⟨⟨⟨⟨hn, hsrc⟩, hdst⟩, hedge⟩, htail⟩, hdt⟩ := hok
  have hlen : (l.take n).length = n := by simp [hn]
  have hget : ∀ i, i < n → (l.take n)[i]? = l[i]? := fun i hi => by simp [hi]
  have hgd : ∀ i, (E.getD i fun _ _ => True) = (fun _ _ => True) ∨ (E.getD i fun _ _ => True) ∈ E := fun i => by
    rcases Nat.lt_or_ge i E.length with h | h
    · right; simp [h]
    · left; simp [List.getElem?_eq_none h]
  have hstg : ∀ i, Stable R (E.getD i fun _ _ => True) := fun i => by
    rcases hgd i with h | h
    · rw [h]; exact fun _ _ _ _ _ => trivial
    · exact hst _ h
  have hanc : ∀ j i, ((masks l #[]).getD j 0).testBit i = true → Anc l.toArray i j := masks_anc l.toArray l #[] (fun j => by simp) (fun j i h => by simp at h)
  have count : ∀ (listed : Array Bool), (∀ i, i < n → listed.getD i true = true) → (∀ i, n ≤ i → i < l.length → listed.getD i true = false) → left l.toArray listed = l.length - n := by
    intro listed h1 h2
    unfold left
    simp only [List.size_toArray]
    have : ∀ m, m ≤ l.length → (List.range m).countP (fun i => !listed.getD i true) = m - n := by
      intro m
      induction m with
      | zero => intro _; simp
      | succ m ih =>
        intro hm
        rw [List.range_succ, List.countP_append, ih (by omega), List.countP_singleton]
        by_cases hmn : m < n
        · simp only [h1 m hmn, Bool.not_true, Bool.false_eq_true, if_false]; omega
        · simp only [h2 m (by omega) (by omega), Bool.not_false, if_true]; omega
    exact this l.length (Nat.le_refl _)
  have done : ∀ (fuel : Nat) (listed : Array Bool) (a : Act) (W : World) (vs : Nat → Value), Inv R w0 a0 l.toArray E n listed a W vs → Pairs D n listed vs → fuel = left l.toArray listed → (∀ i, i < n → listed.getD i true = true) → wpAny P .any l.toArray Q fuel listed a W := by
    intro fuel listed a W vs inv hpr hf hall
    have hs : listed.size = l.length := by simpa using inv.size
    have hall' : ∀ i, i < n → listed.getD i false = true := fun i hi => by
      cases hx : listed.getD i false with
      | true => rfl
      | false => have := getD_in (by omega) hx; rw [hall i hi] at this; cases this
    refine tail_sound htail hedge fuel n listed a W (Nat.le_refl _) hn hs inv.closed hall' inv.tail (by rw [hf]; exact count listed hall (fun i h1 h2 => getD_in (by omega) (inv.tail i h1))) ?_
    have hq := fin_runP (D := D) (l.take n) E a0 vs 0 [] (hfin W inv.rel) hE (fun i hi => by
      rw [Nat.zero_add]
      exact inv.facts i (hall' i (by omega)) (by omega)) (fun u hu => by cases hu) (fun i k hi hk hin hkn hne => hpr i k hi hk (hall' i (by omega)) (hall' k (by omega)) (by omega) (by omega) hne)
    have heq : putsFrom (l.take n) vs 0 a0 = a := by
      have hsz := putsFrom_size (l.take n) vs 0 a0
      have ht : (putsFrom (l.take n) vs 0 a0).tmps = a.tmps := by
        refine Array.ext_getElem? fun t => ?_
        by_cases hw : ∃ (i : Nat) (o : Oper), (l.take n)[i]? = some o ∧ o.dst = some t
        · obtain ⟨i, o, hi, ho⟩ := hw
          have hin : i < n := by have := (List.getElem?_eq_some_iff.1 hi).1; omega
          rw [putsFrom_some (l.take n) vs 0 a0 t i o hdst hN hi ho, Nat.zero_add]
          exact (inv.vals i o t (hall' i hin) hin (by rw [hget i hin] at hi; simpa using hi) ho).symm
        · rw [putsFrom_none (l.take n) vs 0 a0 t (fun o ho he => by
            obtain ⟨i, hi⟩ := List.mem_iff_getElem?.1 ho
            exact hw ⟨i, o, hi, he⟩)]
          refine (inv.rest t fun i o _ hin hi he => hw ⟨i, o, by rw [hget i hin]; simpa using hi, he⟩).symm
      have hd := hsz.2.trans inv.defers.symm
      generalize putsFrom (l.take n) vs 0 a0 = b at *
      cases a; cases b
      simp_all
    rw [heq] at hq
    exact hq
  have main : ∀ (fuel : Nat) (listed : Array Bool) (a : Act) (W : World) (vs : Nat → Value), Inv R w0 a0 l.toArray E n listed a W vs → Pairs D n listed vs → fuel = left l.toArray listed → wpAny P .any l.toArray Q fuel listed a W := by
    intro fuel
    induction fuel with
    | zero =>
      intro listed a W vs inv hpr hf
      refine done 0 listed a W vs inv hpr hf fun i hi => ?_
      cases hx : listed.getD i true with
      | true => rfl
      | false =>
        have := left_pos (ops := l.toArray) (by simp; omega) hx
        omega
    | succ fuel ih =>
      intro listed a W vs inv hpr hf
      by_cases hA : ∀ i, i < n → listed.getD i true = true
      · exact done _ listed a W vs inv hpr hf hA
      · have hs : listed.size = l.length := by simpa using inv.size
        obtain ⟨i0, hi0, hu0⟩ : ∃ i, i < n ∧ listed.getD i true = false := by
          refine Classical.byContradiction fun hc => hA fun i hi => ?_
          cases hx : listed.getD i true with
          | true => rfl
          | false => exact absurd ⟨i, hi, hx⟩ hc
        refine ⟨fun hr => ?_, fun j hj => ?_⟩
        · obtain ⟨j, hj⟩ := ready_of_left hedge (listed := listed) i0 (by omega) hu0
          rw [hr] at hj; cases hj
        · obtain ⟨hju, oj, hoj, _⟩ := mem_ready.1 hj
          have hoj' : l[j]? = some oj := by simpa using hoj
          have hjl : j < l.length := (List.getElem?_eq_some_iff.1 hoj').1
          have hjn : j < n := by
            rcases Nat.lt_or_ge j n with h | h
            · exact h
            · exfalso
              have h3 := List.all_eq_true.1 htail j (List.mem_range.2 hjl)
              simp only [Bool.or_eq_true, decide_eq_true_eq] at h3
              rcases h3 with h3 | h3
              · omega
              · have h4 := List.all_eq_true.1 h3 i0 (List.mem_range.2 (by omega))
                have := anc_of_ready inv.closed hj (hanc j i0 h4)
                rw [getD_false_of_true this] at hu0
                cases hu0
          obtain ⟨s, hsj, hso⟩ := srcs_get (l.take n) S 0 hsrc j oj (by rw [hget j hjn]; exact hoj')
          rw [Nat.zero_add] at hso
          simp only [srcOk, Bool.and_eq_true] at hso
          obtain ⟨hg, hrd⟩ := hso
          have hg' : guardOf l.toArray oj = some s.guard := by simpa using hg
          have holds : ∀ (r : List (Tmp × Option Nat)), r.all (readOk l (masks l #[]) j) = true → Holds (slots a0) E (slots a) W r := by
            intro r
            induction r with
            | nil => intro _; trivial
            | cons x r ihr =>
              intro hr
              simp only [List.all_cons, Bool.and_eq_true] at hr
              obtain ⟨t, si⟩ := x
              cases si with
              | none =>
                refine ⟨?_, ihr hr.2⟩
                have h1 := hr.1
                simp only [readOk] at h1
                have h2 : a.tmps[t]? = a0.tmps[t]? := inv.rest t fun i o hli hin hio hd => by
                  have h3 := List.all_eq_true.1 h1 (o, i) (by
                    rw [List.mem_iff_getElem?]
                    refine ⟨i, ?_⟩
                    rw [List.getElem?_zipIdx]
                    have : l[i]? = some o := by simpa using hio
                    simp [this])
                  simp only [hd, bne_self_eq_false, Bool.false_or, Bool.or_eq_true, beq_iff_eq] at h3
                  have hlj : listed.getD j false = true := by
                    rcases h3 with h3 | h3
                    · exact inv.closed.anc (hanc i j h3) hli
                    · rw [← h3]; exact hli
                  rw [getD_false_of_true hlj] at hju
                  cases hju
                simp only [slots, Array.getD_eq_getD_getElem?, h2]
              | some i =>
                refine ⟨?_, ihr hr.2⟩
                have h1 := hr.1
                simp only [readOk, Bool.and_eq_true, decide_eq_true_eq, beq_iff_eq] at h1
                obtain ⟨⟨hij, hbit⟩, hdi⟩ := h1
                have hli := anc_of_ready inv.closed hj (hanc j i hbit)
                obtain ⟨oi, hoi, hdi'⟩ : ∃ oi, l[i]? = some oi ∧ oi.dst = some t := by
                  cases hx : l[i]? with
                  | none => rw [hx] at hdi; cases hdi
                  | some oi => rw [hx] at hdi; exact ⟨oi, rfl, hdi⟩
                have hv := inv.vals i oi t hli (by omega) (by simpa using hoi) hdi'
                have : slots a t = vs i := by simp only [slots, Array.getD_eq_getD_getElem?, hv, Option.getD_some]
                rw [this]
                exact inv.facts i hli (by omega)
          have hopj := hop j oj s (by rw [hget j hjn]; exact hoj') hsj (slots a) W inv.rel (holds s.reads hrd)
          have next : ∀ v W', R W W' → ((E.getD j fun _ _ => True) v W' ∧ (j ∈ D → v = .pointer (some ⟨W.heap.size, 0, none⟩))) → wpAny P .any l.toArray Q fuel (listed.setIfInBounds j true) (a.put oj.dst v) W' := by
            intro v W' hR ⟨hφ, hfresh⟩
            have hjs : j < listed.size := by omega
            have hlist : ∀ i, (listed.setIfInBounds j true).getD i false = true → i = j ∨ listed.getD i false = true := fun i hi => by
              by_cases hij : j = i
              · exact .inl hij.symm
              · rw [getD_set_ne false hij] at hi; exact .inr hi
            refine ih _ _ W' (fun i => if i = j then v else vs i) ⟨by simp [inv.size], inv.closed.set hj, htr inv.rel hR, (put_defers _ _ _).trans inv.defers, (put_size _ _ _).trans inv.asize, ?_, ?_, ?_, ?_⟩ ?_ ?_
            · intro i hi hin
              by_cases hij : i = j
              · subst hij; simpa using hφ
              · simp only [hij, if_false]
                rcases hlist i hi with h | h
                · exact absurd h hij
                · exact hstg i _ _ _ hR (inv.facts i h hin)
            · intro i o d hi hin hio hd
              by_cases hij : i = j
              · subst hij
                obtain rfl : o = oj := Option.some.inj (hio.symm.trans hoj)
                rw [hd, put_get_eq _ _ _ (by rw [inv.asize, hN]; exact dsts_lt (l.take n) hdst i o d (by rw [hget i hin]; exact hoj') hd)]
                simp
              · simp only [hij, if_false]
                rcases hlist i hi with h | h
                · exact absurd h hij
                · rw [put_get_ne _ _ _ _ (dsts_ne (l.take n) hdst i j o oj d (by rw [hget i hin]; simpa using hio) (by rw [hget j hjn]; exact hoj') hij hd)]
                  exact inv.vals i o d h hin hio hd
            · intro t ht
              rw [put_get_ne _ _ _ _ (ht j oj (by simp [Array.getElem?_setIfInBounds_self_of_lt hjs]) hjn hoj)]
              exact inv.rest t fun i o hi hin hio => ht i o (getD_set_true hi) hin hio
            · intro i hi
              rw [getD_set_ne false (by omega)]
              exact inv.tail i hi
            · have old : ∀ k, k ∈ D → listed.getD k false = true → k < n → j ∈ D → vs k ≠ v := fun k hk hl hkn hjD he => by
                obtain ⟨g, hg1, hg2⟩ := hB k hk _ _ (inv.facts k hl hkn)
                rw [hg1, hfresh hjD] at he
                simp only [Value.pointer.injEq, Option.some.injEq, Addr.mk.injEq, and_true] at he
                omega
              intro i k hi hk hli hlk hin hkn hne
              by_cases hij : i = j
              · by_cases hkj : k = j
                · exact absurd (hij.trans hkj.symm) hne
                · simp only [hij, hkj, if_true, if_false]
                  exact (old k hk ((hlist k hlk).resolve_left hkj) hkn (hij ▸ hi)).symm
              · by_cases hkj : k = j
                · simp only [hij, hkj, if_true, if_false]
                  exact old i hi ((hlist i hli).resolve_left hij) hin (hkj ▸ hk)
                · simp only [hij, hkj, if_false]
                  exact hpr i k hi hk ((hlist i hli).resolve_left hij) ((hlist k hlk).resolve_left hkj) hin hkn hne
            · have := left_set hju inv.size
              omega
          refine wpOp_of_wanted hoj ?_
          rw [wanted_guard hg']
          by_cases hb : gOk s.guard (slots a) = true
          · rw [if_pos hb]
            refine relyAt_wp (R := R) (W := W) (φ := fun v W' => (E.getD j fun _ _ => True) v W' ∧ (j ∈ D → v = .pointer (some ⟨W.heap.size, 0, none⟩))) (fun {_ _ _} h1 h2 => htr h1 h2) ?_ next
            cases hgd' : s.guard with
            | none => rw [hgd'] at hopj; exact relyAt_fresh hD hoj' hopj
            | some db =>
              rw [hgd'] at hopj hb
              exact relyAt_fresh hD hoj' ((if_pos hb).mp hopj)
          · rw [if_neg hb]
            refine next undef W (hrf W) ⟨?_, fun hjD => absurd (noguard hD hjD hoj' hg') (fun e => hb (by rw [e]; rfl))⟩
            cases hgd' : s.guard with
            | none => rw [hgd'] at hb; exact absurd rfl hb
            | some db =>
              rw [hgd'] at hopj hb
              exact (if_neg hb).mp hopj
  exact main

/-- what stands behind the region -/
def AfterD {P : Program} {R : World → World → Prop} {Q : Exit → Act → World → Prop} {a : Act} {w : World} {l : List Oper} {n : Nat} {D : List Nat} (F : List Fact → Prop) : Prop :=
  ∀ E, Bounds D E → (∀ W, R w.drew W → finP (fun a W => wpList P l.toArray Q (l.drop n) a W) D (l.take n) E 0 [] a W) → F E
theorem AfterD.out {P : Program} {R : World → World → Prop} {Q : Exit → Act → World → Prop} {a : Act} {w : World} {l : List Oper} {n : Nat} {D : List Nat} {F : List Fact → Prop} (h : AfterD (P := P) (R := R) (Q := Q) (a := a) (w := w) (l := l) (n := n) (D := D) F) {E : List Fact} (b : Bounds D E)
    (k : ∀ W, R w.drew W → finP (fun a W => wpList P l.toArray Q (l.drop n) a W) D (l.take n) E 0 [] a W) : F E := h E b k

/-- THE LAW. 'n': so many operations are taken in whatever order; those behind them wait for all ahead of them and are walked as ever. 'N': the frame's size. -/
theorem wp_region_relyD {id : Nat} {Q : Exit → Act → World → Prop} {a : Act} {w : World} {l : List Oper} (R : World → World → Prop) (n N : Nat) (S : List Src) (D : List Nat) (hD : allocsOk l D = true) (hm : P.follows .mixedOrders = true) (hok : ok l n N S = true) (hN : a.tmps.size = N)
    (hrf : ∀ a, R a a) (htr : ∀ {a b c : World}, R a b → R b c → R a c)
    (h : ∀ (F : List Fact → Prop) (r0 : Tmp → Value), r0 = slots a → AfterD (P := P) (R := R) (Q := Q) (a := a) (w := w) (l := l) (n := n) (D := D) F → relies P R w.drew r0 F (l.take n) S []) : (Code.region id l.toArray true).wp P Q a w := by
  have hok' := hok
  simp only [ok, Bool.and_eq_true, decide_eq_true_eq] at hok'
  obtain ⟨⟨⟨⟨⟨hn, hsrc⟩, hdst⟩, hedge⟩, htail⟩, hdt⟩ := hok'
  obtain ⟨E, hl, _, hst, hop, hB, hfin⟩ := relies_found (M := masks l #[]) (l.take n) S [] (h (fun E => Bounds D E ∧ ∀ W, R w.drew W → finP (fun a W => wpList P l.toArray Q (l.drop n) a W) D (l.take n) E 0 [] a W) _ rfl (show AfterD _ from fun _ b h => ⟨b, h⟩)) hsrc (fun _ h => by cases h)
  refine wp_region_any hm ?_
  have hcount : l.toArray.size = left l.toArray (Array.replicate l.toArray.size false) := by
    unfold left
    have : ∀ m, m ≤ l.toArray.size → (List.range m).countP (fun i => !(Array.replicate l.toArray.size false).getD i true) = m := by
      intro m
      induction m with
      | zero => intro _; simp
      | succ m ih =>
        intro hm
        rw [List.range_succ, List.countP_append, ih (by omega), List.countP_singleton]
        have : (Array.replicate l.toArray.size false).getD m true = false := by simp at hm ⊢; simp [show m < l.length by omega]
        simp only [this, Bool.not_false, if_true]
    exact (this _ (Nat.le_refl _)).symm
  refine wpAny_of_relyD (R := R) (w0 := w.drew) (a0 := a) hD hB hok hN hrf htr (by simpa using hl) hst (fun j o s hj hs => by simpa using hop j o s hj hs) hfin _ _ a _ (fun _ => undef) ⟨by simp, ?_, hrf _, rfl, rfl, ?_, ?_, ?_, ?_⟩ ?_ hcount
  · intro j o ho hl
    rw [getD_replicate_false] at hl; cases hl
  · intro i hi; rw [getD_replicate_false] at hi; cases hi
  · intro i o d hi; rw [getD_replicate_false] at hi; cases hi
  · intro t _; rfl
  · intro i _; exact getD_replicate_false _ _
  · intro i k _ _ hi; rw [getD_replicate_false] at hi; cases hi
end
end Go.Proofs.Ytaojnmjmmfdfjaa.Rely
