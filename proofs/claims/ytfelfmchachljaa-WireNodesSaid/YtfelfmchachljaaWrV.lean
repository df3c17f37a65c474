/- Bytes written are bytes read. -/
import Derived.Test.YtfelfmchachljaaWrQ
namespace Go.Proofs.Ytfelfmchachljaa.Wr
open Go Go.RowKit
open Go.Proofs.Ytfelfmchachljaa.Rely Go.Proofs.Ytfelfmchachljaa.Auto Go.Proofs.Ytfelfmchachljaa.Own Go.Proofs.Ytfelfmchachljaa.Sha
set_option linter.unusedVariables false
set_option linter.unusedSimpArgs false

theorem rawS_app (s : Option (List Int)) (a b : List Int) : rawS (rawS s a) b = rawS s (a ++ b) := by
  cases s with
  | none => rfl
  | some xs =>
    unfold rawS
    simp only [Option.bind_some]
    by_cases h1 : xs.length + a.length ≤ 65536
    · rw [if_pos h1]
      simp only [Option.bind_some, List.length_append]
      by_cases h2 : xs.length + a.length + b.length ≤ 65536
      · rw [if_pos h2, if_pos (by omega), List.append_assoc]
      · rw [if_neg h2, if_neg (by omega)]
    · rw [if_neg h1, if_neg (by rw [List.length_append]; omega)]
      rfl
theorem numR_eq (n : Int) : ∀ (k : Nat) (s : Option (List Int)), numR n (k + 1) s = rawS s (beV n (k + 1))
  | 0, s => rfl
  | k + 1, s => by
    show numR n (k + 1) (rawS s [byV n (k + 1)]) = _
    rw [numR_eq n k, rawS_app]
    rfl
theorem numR_none (n : Int) : ∀ k : Nat, numR n k none = none
  | 0 => rfl
  | k + 1 => numR_none n k
theorem okN_in (n : Int) (k : Nat) (m : Int) (hm : (2 : Int) ^ (8 * k) = m + 1) (h0 : 0 ≤ m) : okN n k = inB n m := by
  unfold okN inB
  rw [hm, Int.fdiv_eq_ediv_of_nonneg _ (by omega), Bool.eq_iff_iff]
  simp only [Bool.and_eq_true, decide_eq_true_eq, beq_iff_eq]
  constructor
  · rintro ⟨h1, h2⟩
    have h3 := Int.lt_ediv_add_one_mul_self n (show 0 < m + 1 by omega)
    rw [h2] at h3
    exact ⟨h1, by omega⟩
  · rintro ⟨h1, h2⟩
    exact ⟨h1, Int.ediv_eq_zero_of_lt h1 (by omega)⟩
theorem numS_eq (s : Option (List Int)) (n : Int) (k : Nat) (m : Int) (hm : (2 : Int) ^ (8 * (k + 1)) = m + 1) (h0 : 0 ≤ m) : numS s n (k + 1) = bif inB n m then rawS s (beV n (k + 1)) else none := by
  unfold numS
  rw [okN_in n (k + 1) m hm h0]
  cases inB n m with
  | true => exact numR_eq n k s
  | false => exact numR_none n (k + 1)
theorem leafS_eq (s : Option (List Int)) (n : Int) : leafS s n = bif inB n 31 then rawS s (beV n 1) else none := by
  unfold leafS
  rw [numS_eq _ n 0 255 (by decide) (by decide)]
  by_cases h : n < 32
  · rw [decide_eq_true h]
    by_cases h0 : 0 ≤ n
    · rw [show inB n 255 = true by unfold inB; simp; omega, show inB n 31 = true by unfold inB; simp; omega]; rfl
    · rw [show inB n 255 = false by unfold inB; simp; omega, show inB n 31 = false by unfold inB; simp; omega]; rfl
  · rw [decide_eq_false h, show inB n 31 = false by unfold inB; simp; omega]
    cases inB n 255 <;> rfl
theorem bytS_eq (s : Option (List Int)) (ys : List Int) : bytS s ys = if ys.length ≤ 65535 then rawS s (rowV ys) else none := by
  unfold bytS
  rw [numS_eq _ _ 1 65535 (by decide) (by decide)]
  by_cases h : ys.length ≤ 65535
  · rw [if_pos h, show inB ((ys.length : Nat) : Int) 65535 = true by unfold inB; simp; omega]
    exact rawS_app _ _ _
  · rw [if_neg h, show inB ((ys.length : Nat) : Int) 65535 = false by unfold inB; simp; omega]
    rfl
theorem rawS_fit (ys : List Int) : rawS (some []) ys = fitV ys := by
  unfold rawS fitV
  simp only [Option.bind_some, List.length_nil, Nat.zero_add, List.nil_append]
theorem welcS_eq (nm : Int) (sealed info : List Int) : welcS (some []) nm sealed info = refW nm sealed info := by
  unfold welcS refW
  rw [bytS_eq, bytS_eq, numS_eq _ nm 0 255 (by decide) (by decide)]
  cases h1 : inB nm 255 with
  | false =>
    rw [if_neg (fun h : false = true ∧ sealed.length ≤ 65535 ∧ info.length ≤ 65535 => Bool.noConfusion h.1)]
    by_cases h3 : info.length ≤ 65535
    · by_cases h2 : sealed.length ≤ 65535
      · rw [if_pos h3, if_pos h2]; rfl
      · rw [if_pos h3, if_neg h2]; rfl
    · rw [if_neg h3]
  | true =>
    by_cases h2 : sealed.length ≤ 65535
    · by_cases h3 : info.length ≤ 65535
      · rw [if_pos h3, if_pos h2, if_pos ⟨rfl, h2, h3⟩]
        show rawS (rawS (rawS (some []) (beV nm 1)) (rowV sealed)) (rowV info) = _
        rw [rawS_app, rawS_app, rawS_fit, ← List.append_assoc]
        rfl
      · rw [if_neg h3, if_neg (fun h : true = true ∧ sealed.length ≤ 65535 ∧ info.length ≤ 65535 => h3 h.2.2)]
    · rw [if_neg (fun h : true = true ∧ sealed.length ≤ 65535 ∧ info.length ≤ 65535 => h2 h.2.1)]
      by_cases h3 : info.length ≤ 65535
      · rw [if_pos h3, if_neg h2]; rfl
      · rw [if_neg h3]
theorem packS_eq (grp : List Int) (ep fr no : Int) (sealed : List Int) : packS (some []) grp ep fr no sealed = refP grp ep fr no sealed := by
  unfold packS refP hgB
  rw [bytS_eq, numS_eq _ no 3 4294967295 (by decide) (by decide), leafS_eq, numS_eq _ ep 3 4294967295 (by decide) (by decide)]
  by_cases h4 : sealed.length ≤ 65535
  · rw [if_pos h4]
    cases h3 : inB no 4294967295 with
    | false => rw [if_neg (fun h => Bool.noConfusion h.2.1)]; rfl
    | true =>
      cases h2 : inB fr 31 with
      | false => rw [if_neg (fun h => by rw [Bool.and_false] at h; exact Bool.noConfusion h.1)]; rfl
      | true =>
        cases h1 : inB ep 4294967295 with
        | false => rw [if_neg (fun h => Bool.noConfusion h.1)]; rfl
        | true =>
          rw [if_pos ⟨rfl, rfl, h4⟩]
          show rawS (rawS (rawS (rawS (rawS (some []) grp) (beV ep 4)) (beV fr 1)) (beV no 4)) (rowV sealed) = _
          rw [rawS_app, rawS_app, rawS_app, rawS_app, rawS_fit]
          unfold headV
          simp only [List.append_assoc]
          rfl
  · rw [if_neg h4, if_neg (fun h => h4 h.2.2)]
theorem takeL_app (a b : List Int) (n : Nat) (h : a.length = n) : takeL (some (a ++ b)) n = a := by
  subst h
  show (if a.length ≤ (a ++ b).length then (a ++ b).take a.length else []) = a
  rw [if_pos (by rw [List.length_append]; omega), List.take_left]
theorem takeS_app (a b : List Int) (n : Nat) (h : a.length = n) : takeS (some (a ++ b)) n = some b := by
  subst h
  show (if a.length ≤ (a ++ b).length then some ((a ++ b).drop a.length) else none) = some b
  rw [if_pos (by rw [List.length_append]; omega), List.drop_left]
theorem big_shift (ys : List Int) : ∀ a : Nat, ys.foldl (fun n b => n * 256 + b.toNat) a = a * 256 ^ ys.length + bigN ys := by
  induction ys with
  | nil => intro a; show a = a * 1 + 0; omega
  | cons y ys ih =>
    intro a
    show ys.foldl _ (a * 256 + y.toNat) = a * 256 ^ (ys.length + 1) + ys.foldl _ (0 * 256 + y.toNat)
    rw [ih, ih, Nat.pow_succ, Nat.add_mul, Nat.zero_mul, Nat.zero_add, Nat.mul_assoc, Nat.mul_comm 256]
    omega
theorem big_be (N : Nat) : ∀ k : Nat, bigN (beV ((N : Nat) : Int) k) = N % 256 ^ k
  | 0 => by show 0 = N % 1; omega
  | k + 1 => by
    show (beV ((N : Nat) : Int) k).foldl _ (0 * 256 + (byV ((N : Nat) : Int) k).toNat) = _
    rw [big_shift, beV_len, big_be N k, Nat.zero_mul, Nat.zero_add]
    have e : (byV ((N : Nat) : Int) k).toNat = N / 256 ^ k % 256 := by
      unfold byV
      have e2 : (2 : Int) ^ (8 * k) = ((256 ^ k : Nat) : Int) := by rw [Int.pow_mul]; simp
      rw [wrap8W, e2, Int.fdiv_eq_ediv_of_nonneg _ (Int.natCast_nonneg _), ← Int.natCast_ediv]
      generalize N / 256 ^ k = q
      omega
    rw [e, Nat.pow_succ, Nat.mod_mul, Nat.mul_comm, Nat.add_comm]
theorem big_in (n : Int) (k : Nat) (h0 : 0 ≤ n) (h1 : n < ((256 ^ k : Nat) : Int)) : ((bigN (beV n k) : Nat) : Int) = n := by
  obtain ⟨N, rfl⟩ := Int.eq_ofNat_of_zero_le h0
  rw [big_be, Nat.mod_eq_of_lt (by omega)]
theorem row_app (ys r : List Int) (h : ys.length ≤ 65535) : rowL (some (rowV ys ++ r)) = ys ∧ rowR (some (rowV ys ++ r)) = some r := by
  have e1 : rowV ys ++ r = beV ((ys.length : Nat) : Int) 2 ++ (ys ++ r) := by unfold rowV; rw [List.append_assoc]
  have e2 : bigN (beV ((ys.length : Nat) : Int) 2) = ys.length := by rw [big_be, Nat.mod_eq_of_lt (by omega)]
  unfold rowL rowR
  rw [e1, takeL_app _ _ 2 (beV_len _ 2), takeS_app _ _ 2 (beV_len _ 2), e2, takeL_app _ _ _ rfl, takeS_app _ _ _ rfl]
  exact ⟨rfl, rfl⟩
theorem startS_some (xs : List Int) (h : xs.length ≤ 65536) : startS xs = some xs := by
  unfold startS
  rw [decide_eq_false (by omega)]
  rfl
theorem welc_back (nm : Int) (sealed info bs : List Int) (h : refW nm sealed info = some bs) : welcR (startS bs) = some [] ∧ wNm (startS bs) = nm ∧ wSe (startS bs) = sealed ∧ wIn (startS bs) = info ∧ bs.length ≤ 65536 ∧ 0 < bs.length := by
  unfold refW at h
  split at h
  · rename_i hc
    obtain ⟨h1, h2, h3⟩ := hc
    unfold fitV at h
    split at h
    · rename_i hf
      obtain rfl := Option.some.inj h
      have hb := inB_rng h1
      have e : [byV nm 0] ++ rowV sealed ++ rowV info = beV nm 1 ++ (rowV sealed ++ (rowV info ++ [])) := by rw [List.append_nil, List.append_assoc]; rfl
      rw [startS_some _ hf]
      refine ⟨?_, ?_, ?_, ?_, hf, by rw [e, List.length_append, beV_len]; omega⟩
      · unfold welcR; rw [e, takeS_app _ _ 1 (beV_len _ 1), (row_app _ _ h2).2, (row_app _ _ h3).2]
      · unfold wNm; rw [e, takeL_app _ _ 1 (beV_len _ 1), big_in nm 1 hb.1 (by omega)]
      · unfold wSe; rw [e, takeS_app _ _ 1 (beV_len _ 1), (row_app _ _ h2).1]
      · unfold wIn; rw [e, takeS_app _ _ 1 (beV_len _ 1), (row_app _ _ h2).2, (row_app _ _ h3).1]
    · cases h
  · cases h
theorem keyV_self (ys : List Int) (h : ys.length = 32) : keyV ys = ys := by
  unfold keyV
  rw [h, show (List.replicate 32 (0 : Int)).drop 32 = [] from rfl, List.append_nil]
theorem pack_back (grp : List Int) (ep fr no : Int) (sealed bs : List Int) (hgl : grp.length = 32) (h : refP grp ep fr no sealed = some bs) : packR (startS bs) = some [] ∧ pGrp (startS bs) = grp ∧ pEp (startS bs) = ep ∧ pFr (startS bs) = fr ∧ pNo (startS bs) = no ∧ pSe (startS bs) = sealed ∧ bs.length ≤ 65536 ∧ 0 < bs.length := by
  unfold refP at h
  split at h
  · rename_i hc
    obtain ⟨h1, h2, h3⟩ := hc
    unfold hgB at h1
    simp only [Bool.and_eq_true] at h1
    unfold fitV at h
    split at h
    · rename_i hf
      obtain rfl := Option.some.inj h
      have b1 := inB_rng h1.1
      have b2 := inB_rng h1.2
      have b3 := inB_rng h2
      have e : headV grp ep fr ++ beV no 4 ++ rowV sealed = grp ++ (beV ep 4 ++ (beV fr 1 ++ (beV no 4 ++ (rowV sealed ++ [])))) := by unfold headV; rw [List.append_nil]; simp only [List.append_assoc]; rfl
      rw [startS_some _ hf, e]
      have s1 : pS1 (some (grp ++ (beV ep 4 ++ (beV fr 1 ++ (beV no 4 ++ (rowV sealed ++ [])))))) = some (beV ep 4 ++ (beV fr 1 ++ (beV no 4 ++ (rowV sealed ++ [])))) := takeS_app _ _ 32 hgl
      have s2 : pS2 (some (grp ++ (beV ep 4 ++ (beV fr 1 ++ (beV no 4 ++ (rowV sealed ++ [])))))) = some (beV fr 1 ++ (beV no 4 ++ (rowV sealed ++ []))) := by unfold pS2; rw [s1]; exact takeS_app _ _ 4 (beV_len _ 4)
      have q : ((bigN (beV fr 1) : Nat) : Int) = fr := big_in fr 1 b2.1 (by omega)
      have s3 : pS3 (some (grp ++ (beV ep 4 ++ (beV fr 1 ++ (beV no 4 ++ (rowV sealed ++ [])))))) = some (beV no 4 ++ (rowV sealed ++ [])) := by
        unfold pS3 leafR
        rw [s2, takeL_app _ _ 1 (beV_len _ 1), q, takeS_app _ _ 1 (beV_len _ 1), decide_eq_true (by omega)]
        rfl
      have s4 : pS4 (some (grp ++ (beV ep 4 ++ (beV fr 1 ++ (beV no 4 ++ (rowV sealed ++ [])))))) = some (rowV sealed ++ []) := by unfold pS4; rw [s3]; exact takeS_app _ _ 4 (beV_len _ 4)
      refine ⟨?_, ?_, ?_, ?_, ?_, ?_, by rw [← e]; exact hf, by rw [List.length_append, hgl]; omega⟩
      · unfold packR; rw [s4, (row_app _ _ h3).2]
      · unfold pGrp; rw [takeL_app _ _ 32 hgl, keyV_self _ hgl]
      · unfold pEp; rw [s1, takeL_app _ _ 4 (beV_len _ 4), big_in ep 4 b1.1 (by omega)]
      · unfold pFr; rw [s2, takeL_app _ _ 1 (beV_len _ 1), q]
      · unfold pNo; rw [s3, takeL_app _ _ 4 (beV_len _ 4), big_in no 4 b3.1 (by omega)]
      · unfold pSe; rw [s4, (row_app _ _ h3).1]
    · cases h
  · cases h

end Go.Proofs.Ytfelfmchachljaa.Wr
