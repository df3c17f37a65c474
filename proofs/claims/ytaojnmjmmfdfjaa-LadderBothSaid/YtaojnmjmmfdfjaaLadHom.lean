/- The highest bit of a clamped key is 0, and its step scales what stands far: what comes of it is the same. -/
import Derived.Test.YtaojnmjmmfdfjaaLadMath2
import Derived.Test.YtaojnmjmmfdfjaaPowF
namespace Go.Proofs.Ytaojnmjmmfdfjaa.Field
open Go Go.RowKit
open Go.Proofs.Ytaojnmjmmfdfjaa.Rely Go.Proofs.Ytaojnmjmmfdfjaa.Auto Go.Proofs.Ytaojnmjmmfdfjaa.Ladder
set_option linter.unusedVariables false

theorem addL (a b : Int) : (a % p + b) % p = (a + b) % p := Int.emod_add_emod ..
theorem addR (a b : Int) : (a + b % p) % p = (a + b) % p := Int.add_emod_emod ..
theorem subL (a b : Int) : (a % p - b) % p = (a - b) % p := Int.emod_sub_emod ..
theorem subR (a b : Int) : (a - b % p) % p = (a - b) % p := Int.sub_emod_emod ..
theorem lstep_poly (u x z y v : Int) : lstep u x z y v = (((x + z) * (x + z) * ((x - z) * (x - z))) % p, (((x + z) * (x + z) - (x - z) * (x - z)) * ((x + z) * (x + z) + ((x + z) * (x + z) - (x - z) * (x - z)) * 121665)) % p,
    (((y - v) * (x + z) + (y + v) * (x - z)) * ((y - v) * (x + z) + (y + v) * (x - z))) % p, (u * (((y - v) * (x + z) - (y + v) * (x - z)) * ((y - v) * (x + z) - (y + v) * (x - z)))) % p) := by
  have e0 := fun a b c : Int => modL a (b * c)
  simp only [lstep, modL, modR, addL, addR, subL, subR]
theorem mod_hom {a b : Int} (h : a = b) : a % p = b % p := by rw [h]
/-- one is the other one, near and far by a number each -/
def Sc (l m : Int) (s t : LSt) : Prop := t.1 = l * s.1 % p ∧ t.2.1 = l * s.2.1 % p ∧ t.2.2.1 = m * s.2.2.1 % p ∧ t.2.2.2 = m * s.2.2.2 % p
theorem lstep_sc (u l m x z y v : Int) : lstep u (l * x % p) (l * z % p) (m * y % p) (m * v % p) =
    ((l * l * (l * l)) * (lstep u x z y v).1 % p, (l * l * (l * l)) * (lstep u x z y v).2.1 % p, (l * m * (l * m)) * (lstep u x z y v).2.2.1 % p, (l * m * (l * m)) * (lstep u x z y v).2.2.2 % p) := by
  rw [lstep_poly u x z y v]
  simp only [modR]
  have h : lstep u (l * x % p) (l * z % p) (m * y % p) (m * v % p) = lstep u (l * x) (l * z) (m * y) (m * v) := by
    unfold lstep
    simp only [addL, addR, subL, subR]
  rw [h, lstep_poly]
  refine Prod.ext ?_ (Prod.ext ?_ (Prod.ext ?_ ?_)) <;> refine mod_hom ?_ <;> grind
theorem rung_sc {u l m : Int} {s t : LSt} (b : Bool) (h : Sc l m s t) : Sc (if b then (m * l * (m * l)) else l * l * (l * l)) (if b then m * m * (m * m) else l * m * (l * m)) (rung u s b) (rung u t b) := by
  obtain ⟨x, z, y, v⟩ := s
  obtain ⟨x', z', y', v'⟩ := t
  obtain ⟨rfl, rfl, rfl, rfl⟩ := h
  cases b
  · simp only [rung, Bool.false_eq_true, if_false, lstep_sc]
    exact ⟨rfl, rfl, rfl, rfl⟩
  · simp only [rung, if_true, lstep_sc]
    exact ⟨rfl, rfl, rfl, rfl⟩
theorem mul_ne {a b : Int} (ha : a % p ≠ 0) (hb : b % p ≠ 0) : a * b % p ≠ 0 := fun h => by
  have hA := inv_mul (a % p) (isN_mod _) ha
  apply hb
  have e : (a % p * invN (a % p) % p) * b % p = invN (a % p) * (a * b % p) % p := by
    rw [modL, modR, Int.mul_assoc, modL, ← Int.mul_assoc, ← Int.mul_assoc, Int.mul_comm a]
  rw [hA, h, Int.one_mul, Int.mul_zero] at e
  rw [e]
  rfl
theorem inv_uniq {y a b : Int} (ha : y * a % p = 1) (hb : y * b % p = 1) : a % p = b % p := by
  have e : (y * a % p) * b % p = (y * b % p) * a % p := by
    rw [modL, modL, Int.mul_assoc, Int.mul_assoc, Int.mul_comm a b]
  rw [ha, hb, Int.one_mul, Int.one_mul] at e
  exact e.symm
theorem out_sc {l x z : Int} (hl : l % p ≠ 0) (hx : isN x) (hz : isN z) : (l * x % p) * invN (l * z % p) % p = x * invN z % p := by
  by_cases h0 : z = 0
  · subst h0
    rw [Int.mul_zero, show (0 : Int) % p = 0 from rfl, inv_zero, Int.mul_zero, Int.mul_zero]
  · have hz0 : z % p ≠ 0 := by rw [Int.emod_eq_of_lt hz.1 hz.2]; exact h0
    have h1 := inv_mul (l * z % p) (isN_mod _) (mul_ne hl hz0)
    have h2 := inv_mul z hz h0
    have h3 := inv_mul (l % p) (isN_mod _) hl
    have h4 : (l * z % p) * (invN (l % p) * invN z) % p = 1 := by
      have e : (l * z % p) * (invN (l % p) * invN z) % p = (l % p * invN (l % p) % p) * (z * invN z % p) % p := by
        rw [modL, modL, modR, Int.mul_assoc (l % p), modL]
        refine mod_hom ?_
        grind
      rw [e, h2, h3]
      rfl
    have h5 := inv_uniq h1 h4
    rw [← modR, h5, modR, modL]
    have e : l * x * (invN (l % p) * invN z) % p = (l % p * invN (l % p) % p) * (x * invN z) % p := by
      rw [modL, Int.mul_assoc (l % p), modL]
      refine mod_hom ?_
      grind
    rw [e, h3, Int.one_mul]
theorem fold_sc (u : Int) : ∀ (bs : List Bool) (l m : Int) (s t : LSt), l % p ≠ 0 → m % p ≠ 0 → Sc l m s t → ∃ l' m', l' % p ≠ 0 ∧ m' % p ≠ 0 ∧ Sc l' m' (bs.foldl (rung u) s) (bs.foldl (rung u) t)
  | [], l, m, s, t, hl, hm, h => ⟨l, m, hl, hm, h⟩
  | b :: bs, l, m, s, t, hl, hm, h => by
    refine fold_sc u bs _ _ _ _ ?_ ?_ (rung_sc b h)
    · cases b
      · exact mul_ne (mul_ne hl hl) (mul_ne hl hl)
      · exact mul_ne (mul_ne hm hl) (mul_ne hm hl)
    · cases b
      · exact mul_ne (mul_ne hl hm) (mul_ne hl hm)
      · exact mul_ne (mul_ne hm hm) (mul_ne hm hm)
/-- of 0 nothing comes but 0 -/
def Dead (s : LSt) : Prop := s.1 = 0 ∧ s.2.1 = 0 ∧ s.2.2.2 = 0
theorem dead_rung (s : LSt) (b : Bool) (h : Dead s) : Dead (rung 0 s b) := by
  obtain ⟨x, z, y, v⟩ := s
  obtain ⟨rfl, rfl, rfl⟩ := h
  cases b
  · simp only [rung, Bool.false_eq_true, if_false, lstep_poly]
    refine ⟨?_, ?_, ?_⟩ <;> simp
  · simp only [rung, if_true, lstep_poly]
    refine ⟨?_, ?_, ?_⟩ <;> simp
theorem dead_fold : ∀ (bs : List Bool) (s : LSt), Dead s → Dead (bs.foldl (rung 0) s)
  | [], _, h => h
  | b :: bs, s, h => dead_fold bs _ (dead_rung s b h)
theorem dead_out {s : LSt} (h : Dead s) : s.1 * invN s.2.1 % p = 0 := by rw [h.1, Int.zero_mul]; rfl
theorem first_step (u : Int) (hu : isN u) : rung u (1, 0, u, 1) false = (1, 0, 4 * u * u % p, 4 * u * 1 % p) := by
  simp only [rung, Bool.false_eq_true, if_false, lstep_poly]
  have e1 : ((1 : Int) + 0) * (1 + 0) * ((1 - 0) * (1 - 0)) % p = 1 := by decide
  have e2 : (((1 : Int) + 0) * (1 + 0) - (1 - 0) * (1 - 0)) * ((1 + 0) * (1 + 0) + ((1 + 0) * (1 + 0) - (1 - 0) * (1 - 0)) * 121665) % p = 0 := by decide
  rw [e1, e2]
  refine Prod.ext rfl (Prod.ext rfl (Prod.ext ?_ ?_)) <;> refine mod_hom ?_ <;> grind
theorem clamp_bits (xs : List Int) (hx : xs.length = 32) (hb : AreBytes xs) : bitB (clamp xs) 255 = false ∧ bitB (clamp xs) 254 = true := by
  have h31 : nth (clamp xs) 31 = nth xs 31 % 64 + 64 := by unfold clamp; exact nth_set_eq _ _ _ (by simp [hx])
  have b := hb.nth 31
  unfold bitB bitAt
  rw [h31]
  rw [show (2 : Int) ^ (255 % 8) = 128 from rfl, show (2 : Int) ^ (254 % 8) = 64 from rfl]
  constructor
  · have : (nth xs 31 % 64 + 64) / 128 % 2 = 0 := by omega
    rw [this]; rfl
  · have : (nth xs 31 % 64 + 64) / 64 % 2 = 1 := by omega
    rw [this]; rfl
theorem bitsB_cons (es : List Int) : bitsB es = bitB es 255 :: bitB es 254 :: (bitsB es).drop 2 := by
  apply List.ext_getElem?
  intro i
  rcases i with _ | _ | i
  · simp [bitsB]
  · simp [bitsB]
  · simp [bitsB, Nat.add_comm 2]
theorem lad_same (u : Int) (hu : isN u) (xs : List Int) (hx : xs.length = 32) (hb : AreBytes xs) : ladOut u (bitsB (clamp xs)) = outN u (crungs u (clamp xs) 0) := by
  obtain ⟨h255, h254⟩ := clamp_bits xs hx hb
  have hc := bitsB_cons (clamp xs)
  rw [h255, h254] at hc
  have hd : ((bitsB (clamp xs)).drop 1).take (255 - 0) = true :: (bitsB (clamp xs)).drop 2 := by
    rw [List.take_of_length_le (by simp [bitsB_len])]
    conv => lhs; rw [hc]
    rfl
  unfold ladOut outN crungs
  rw [hd]
  clear hd
  rw [hc]
  clear hc h255 h254
  generalize (bitsB (clamp xs)).drop 2 = bs
  show (rungs u (false :: true :: bs)).1 * invN (rungs u (false :: true :: bs)).2.1 % p = (rungs u (true :: bs)).1 * invN (rungs u (true :: bs)).2.1 % p
  unfold rungs
  rw [List.foldl_cons]
  by_cases h0 : u = 0
  · subst h0
    have d1 : Dead ((true :: bs).foldl (rung 0) (rung 0 (1, 0, 0, 1) false)) := by
      rw [List.foldl_cons, first_step 0 ⟨by decide, by decide⟩]
      refine dead_fold bs _ ?_
      simp only [rung, if_true, lstep_poly]
      refine ⟨?_, ?_, ?_⟩ <;> decide
    have d2 : Dead ((true :: bs).foldl (rung 0) (1, 0, 0, 1)) := by
      rw [List.foldl_cons]
      refine dead_fold bs _ ?_
      simp only [rung, if_true, lstep_poly]
      refine ⟨?_, ?_, ?_⟩ <;> decide
    rw [dead_out d1, dead_out d2]
  · have hu0 : u % p ≠ 0 := by rw [Int.emod_eq_of_lt hu.1 hu.2]; exact h0
    have hs : Sc 1 (4 * u) (1, 0, u, 1) (rung u (1, 0, u, 1) false) := by
      rw [first_step u hu]
      exact ⟨show (1 : Int) = 1 * 1 % p by decide, show (0 : Int) = 1 * 0 % p by decide, rfl, rfl⟩
    obtain ⟨l', m', hl, hm, h⟩ := fold_sc u (true :: bs) 1 (4 * u) _ _ (by decide) (mul_ne (by decide) hu0) hs
    have hL := rungs_isL u hu (true :: bs)
    unfold rungs at hL
    rw [h.1, h.2.1]
    exact out_sc hl hL.1 hL.2.1
end Go.Proofs.Ytaojnmjmmfdfjaa.Field
