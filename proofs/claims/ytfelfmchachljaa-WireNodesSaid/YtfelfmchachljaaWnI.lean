/- A node written is the reference's. -/
import Derived.Test.YtfelfmchachljaaWnH
import Derived.Test.YtfelfmchachljaaWrV
namespace Go.Proofs.Ytfelfmchachljaa.Wr
open Go Go.RowKit
open Go.Proofs.Ytfelfmchachljaa.Rely Go.Proofs.Ytfelfmchachljaa.Auto Go.Proofs.Ytfelfmchachljaa.Own Go.Proofs.Ytfelfmchachljaa.Sha
set_option linter.unusedVariables false
set_option linter.unusedSimpArgs false

def refN (us : Bool) (nm : Int) (key sg pa ms : List Int) : Option (List Int) := if goodV us nm key sg pa ms = true then some (nodeV us nm key sg pa ms) else none
def allN (ms : List Int) : Nat → Bool
  | 0 => true
  | n + 1 => allN ms n && inB (nth ms n) 31
theorem goodN_eq (ms : List Int) : ∀ n, goodN ms n = (risN ms n && allN ms n)
  | 0 => rfl
  | n + 1 => by
    show (goodN ms n && (inB (nth ms n) 31 && ((n == 0) || decide (nth ms (n - 1) < nth ms n)))) = ((risN ms n && ((n == 0) || decide (nth ms (n - 1) < nth ms n))) && (allN ms n && inB (nth ms n) 31))
    rw [goodN_eq ms n]
    cases risN ms n <;> cases allN ms n <;> cases inB (nth ms n) 31 <;> cases ((n == 0) || decide (nth ms (n - 1) < nth ms n)) <;> rfl
theorem all_at (ms : List Int) : ∀ n, allN ms n = true → ∀ i, i < n → inB (nth ms i) 31 = true
  | 0, _, i, hi => absurd hi (Nat.not_lt_zero _)
  | n + 1, h, i, hi => by
    have h' : (allN ms n && inB (nth ms n) 31) = true := h
    rw [Bool.and_eq_true] at h'
    rcases Nat.lt_or_ge i n with h2 | h2
    · exact all_at ms n h'.1 i h2
    · obtain rfl : i = n := by omega
      exact h'.2
theorem ris_ge (ms : List Int) : ∀ n, risN ms n = true → allN ms n = true → ∀ i, i < n → ((i : Nat) : Int) ≤ nth ms i
  | 0, _, _, i, hi => absurd hi (Nat.not_lt_zero _)
  | n + 1, hr, ha, i, hi => by
    have hr' : (risN ms n && ((n == 0) || decide (nth ms (n - 1) < nth ms n))) = true := hr
    have ha' : (allN ms n && inB (nth ms n) 31) = true := ha
    rw [Bool.and_eq_true] at hr' ha'
    rcases Nat.lt_or_ge i n with h2 | h2
    · exact ris_ge ms n hr'.1 ha'.1 i h2
    · obtain rfl : i = n := by omega
      have h0 := inB_rng ha'.2
      by_cases hz : i = 0
      · subst hz; exact h0.1
      · have h3 := hr'.2
        rw [beq_eq_false_iff_ne.2 hz, Bool.false_or, decide_eq_true_eq] at h3
        have h4 := ris_ge ms i hr'.1 ha'.1 (i - 1) (by omega)
        omega
theorem len32 (ms : List Int) (hr : risV ms = true) (ha : allN ms ms.length = true) : ms.length ≤ 32 := by
  rcases Nat.lt_or_ge 32 ms.length with h | h
  · have h1 := ris_ge ms ms.length hr ha 32 h
    have h2 := inB_rng (all_at ms ms.length ha 32 h)
    omega
  · exact h
theorem all_take (ms : List Int) : ∀ n, n ≤ ms.length → allN ms n = (ms.take n).all fun m => inB m 31
  | 0, _ => rfl
  | n + 1, h => by
    have e : ms.take (n + 1) = ms.take n ++ [nth ms n] := by
      rw [List.take_add_one, List.getElem?_eq_getElem (show n < ms.length by omega)]
      unfold nth
      rw [List.getD_eq_getElem?_getD, List.getElem?_eq_getElem (show n < ms.length by omega)]
      rfl
    rw [e, List.all_append, ← all_take ms n (by omega)]
    show (allN ms n && inB (nth ms n) 31) = (allN ms n && (inB (nth ms n) 31 && true))
    rw [Bool.and_true]
theorem leaves_eq (s : Option (List Int)) : ∀ (ms a : List Int), ms.foldl leafS (rawS s a) = bif (ms.all fun m => inB m 31) then rawS s (a ++ ms.map fun m => byV m 0) else none
  | [], a => by show rawS s a = rawS s (a ++ []); rw [List.append_nil]
  | m :: r, a => by
    show r.foldl leafS (leafS (rawS s a) m) = bif (inB m 31 && (r.all fun m => inB m 31)) then rawS s (a ++ byV m 0 :: r.map fun m => byV m 0) else none
    rw [leafS_eq]
    cases inB m 31 with
    | false => exact leaves_none r
    | true =>
      show r.foldl leafS (rawS (rawS s a) (beV m 1)) = _
      rw [rawS_app, leaves_eq s r]
      show _ = bif (r.all fun m => inB m 31) then _ else none
      rw [List.append_assoc]
      rfl
theorem nodeS_eq (us : Bool) (nm : Int) (key sg pa ms : List Int) (hkl : key.length = 32) (hgl : sg.length = 32) (hpl : pa.length = 32) : nodeS (some []) us nm key sg pa ms = refN us nm key sg pa ms := by
  have hall := all_take ms ms.length (Nat.le_refl _)
  rw [List.take_length] at hall
  unfold nodeS refN goodV leavesS
  rw [goodN_eq]
  change _ = if (inB nm 255 && decide (ms.length ≤ 32) && (risV ms && allN ms ms.length && (us || blankV us nm key sg pa ms))) = true then _ else _
  have hs1 : (bif us then numS (some []) 1 1 else numS (mustS (some []) (blankV us nm key sg pa ms)) 0 1) = bif (us || blankV us nm key sg pa ms) then rawS (some []) [bif us then 1 else 0] else none := by
    cases us with
    | true => rfl
    | false =>
      cases blankV false nm key sg pa ms with
      | true => rfl
      | false => rfl
  rw [hs1]
  cases hb : (us || blankV us nm key sg pa ms) with
  | false =>
    rw [if_neg (by rw [Bool.and_false, Bool.and_false]; decide)]
    show ms.foldl leafS (numS (mustS (rawS (rawS (rawS (numS none nm 1) key) sg) pa) (risV ms)) _ 1) = none
    have e1 : numS none nm 1 = none := by rw [numS_eq _ nm 0 255 (by decide) (by decide)]; cases inB nm 255 <;> rfl
    rw [e1]
    have e2 : mustS (rawS (rawS (rawS none key) sg) pa) (risV ms) = none := by cases risV ms <;> rfl
    rw [e2, numS_eq _ _ 0 255 (by decide) (by decide)]
    cases inB ((ms.length : Nat) : Int) 255 <;> exact leaves_none ms
  | true =>
    rw [Bool.and_true]
    show ms.foldl leafS (numS (mustS (rawS (rawS (rawS (numS (rawS (some []) [bif us then 1 else 0]) nm 1) key) sg) pa) (risV ms)) _ 1) = _
    rw [numS_eq _ nm 0 255 (by decide) (by decide)]
    cases hn : inB nm 255 with
    | false =>
      rw [if_neg (by rw [Bool.false_and, Bool.false_and]; decide)]
      have e2 : mustS (rawS (rawS (rawS (bif false then rawS (rawS (some []) [bif us then 1 else 0]) (beV nm (0 + 1)) else none) key) sg) pa) (risV ms) = none := by cases risV ms <;> rfl
      rw [e2, numS_eq _ _ 0 255 (by decide) (by decide)]
      cases inB ((ms.length : Nat) : Int) 255 <;> exact leaves_none ms
    | true =>
      rw [Bool.true_and]
      cases hr : risV ms with
      | false =>
        rw [if_neg (by rw [Bool.false_and, Bool.and_false]; decide)]
        show ms.foldl leafS (numS none _ 1) = none
        rw [numS_eq _ _ 0 255 (by decide) (by decide)]
        cases inB ((ms.length : Nat) : Int) 255 <;> exact leaves_none ms
      | true =>
        rw [Bool.true_and]
        show ms.foldl leafS (numS (rawS (rawS (rawS (rawS (rawS (some []) [bif us then 1 else 0]) (beV nm 1)) key) sg) pa) ((ms.length : Nat) : Int) (0 + 1)) = _
        rw [numS_eq _ _ 0 255 (by decide) (by decide)]
        cases ha : allN ms ms.length with
        | false =>
          rw [if_neg (by rw [Bool.and_false]; decide)]
          cases inB ((ms.length : Nat) : Int) 255 with
          | false => exact leaves_none ms
          | true =>
            show ms.foldl leafS (rawS _ (beV _ (0 + 1))) = none
            rw [leaves_eq, ← hall, ha]
            rfl
        | true =>
          have hl := len32 ms hr ha
          rw [decide_eq_true hl, if_pos (by rfl), show inB ((ms.length : Nat) : Int) 255 = true by unfold inB; simp; omega]
          show ms.foldl leafS (rawS _ (beV _ (0 + 1))) = _
          rw [leaves_eq, ← hall, ha]
          show rawS (rawS (rawS (rawS (rawS (rawS (some []) [bif us then 1 else 0]) (beV nm 1)) key) sg) pa) (beV ((ms.length : Nat) : Int) 1 ++ ms.map fun m => byV m 0) = _
          rw [rawS_app, rawS_app, rawS_app, rawS_app, rawS_app, rawS_fit]
          have e : [bif us then 1 else 0] ++ (beV nm 1 ++ (key ++ (sg ++ (pa ++ (beV ((ms.length : Nat) : Int) 1 ++ ms.map fun m => byV m 0))))) = nodeV us nm key sg pa ms := by
            unfold nodeV nodeH
            simp only [List.append_assoc]
            rfl
          rw [e]
          unfold fitV
          rw [if_pos (by rw [← e]; simp only [List.length_append, List.length_map, beV_len, hkl, hgl, hpl, List.length_cons, List.length_nil]; omega)]
theorem node_bytes (us : Bool) (nm : Int) (key sg pa ms : List Int) (hkb : AreBytes key) (hgb : AreBytes sg) (hpb : AreBytes pa) : AreBytes (nodeV us nm key sg pa ms) := by
  unfold nodeV nodeH
  refine bytes_app (bytes_app (bytes_app (bytes_app (bytes_app ?_ hkb) hgb) hpb) (beV_bytes _ 1)) ?_
  · intro x hx
    rcases List.mem_cons.1 hx with h | h
    · rw [h]; cases us <;> decide
    · exact beV_bytes nm 1 x h
  · intro x hx
    obtain ⟨m, _, rfl⟩ := List.mem_map.1 hx
    exact beV_bytes m 1 _ List.mem_cons_self

end Go.Proofs.Ytfelfmchachljaa.Wr
