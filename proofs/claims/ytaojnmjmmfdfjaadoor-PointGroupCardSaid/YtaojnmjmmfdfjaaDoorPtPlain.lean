/- Points as pairs of numbers: what the program's functions are of them. -/
import Derived.Test.YtaojnmjmmfdfjaaDoorPtGroup
import Derived.Test.YtaojnmjmmfdfjaaDoorPtTimes
import Derived.Test.YtaojnmjmmfdfjaaDoorPtAdds
namespace Go.Proofs.YtaojnmjmmfdfjaaDoor.Field
open Go Go.RowKit
open Go.Proofs.YtaojnmjmmfdfjaaDoor.Rely Go.Proofs.YtaojnmjmmfdfjaaDoor.Auto
set_option linter.unusedVariables false
set_option maxHeartbeats 4000000

/-! ### Points as pairs of numbers -/
def ptA (P : Int × Int) : Array Value := cat [numA P.1, numA ((P.2 - 1) % p)]
def ptV (P : Int × Int) : Value := .agg (ptA P)
theorem py_pt {P : Int × Int} (h : OnP P) : pyF P.1 ((P.2 - 1) % p) = P.2 := py_back h.y P.1
def encP (P : Int × Int) : List Int := enc P.1 P.2
theorem encP_len (P : Int × Int) : (encP P).length = 32 := enc_len _ _
theorem enc_bytes {x y : Int} (hy : isN y) : AreBytes (enc x y) := by
  have hb : AreBytes (bytesOf y) := fun v hv => by
    unfold bytesOf part at hv
    simp only [List.mem_map, List.mem_range] at hv
    obtain ⟨i, hi, rfl⟩ := hv
    rw [if_pos hi]
    unfold byteAt
    omega
  have hl := last_byte hy
  unfold enc
  split
  · intro v hv
    rcases List.mem_or_eq_of_mem_set hv with h | h
    · exact hb v h
    · omega
  · exact hb
theorem ptBytes {P : Int × Int} (h : OnP P) (w : World) : Calls Tryd.prog 13 #[ptV P] w (Ret w (.agg (ints .u8 (encP P)))) := by
  have := pbytesC P.1 ((P.2 - 1) % p) h.x (isN_mod _) w
  rw [py_pt h] at this
  exact this
theorem rep_out {Z x : Int} (hz : isN Z) (h0 : Z ≠ 0) (hx : isN x) : (Z * x % p) * invN Z % p = x := by
  have h1 := inv_mul Z hz h0
  have e : (Z * x % p) * invN Z % p = (Z * invN Z % p) * x % p := by
    rw [modL, modL]; exact mod_hom (by grind)
  rw [e, h1, Int.one_mul, isN_self hx]
def RepW' (A : W4) (P : Int × Int) : Prop := RepW A.1 A.2.1 A.2.2.1 A.2.2.2 P.1 P.2
def RepR' (A : W3) (P : Int × Int) : Prop := RepR A.1 A.2.1 A.2.2 P.1 P.2
theorem narrow_rep {A : W4} {P : Int × Int} (h : OnP P) (k : RepW' A P) : pnarF A.1 A.2.1 A.2.2.1 A.2.2.2 = (P.1, (P.2 - 1) % p) := by
  rw [pnar_eq, k.hx, k.hy, rep_out k.n k.z h.x, rep_out k.n k.z h.y]
theorem wE_rep {P : Int × Int} (h : OnP P) : RepW' (wE P.1 ((P.2 - 1) % p)) P := by
  have e : wE P.1 ((P.2 - 1) % p) = (P.1, P.2, 1, P.1 * P.2 % p) := by
    show (P.1, pyF P.1 ((P.2 - 1) % p), 1, P.1 * pyF P.1 ((P.2 - 1) % p) % p) = _
    rw [py_pt h]
  rw [e]
  exact ⟨num_isN 1, (by show (1 : Int) ≠ 0; decide), (by show P.1 = 1 * P.1 % p; rw [Int.one_mul, isN_self h.x]), (by show P.2 = 1 * P.2 % p; rw [Int.one_mul, isN_self h.y]), (by show P.1 * P.2 % p = 1 * (P.1 * P.2) % p; rw [Int.one_mul])⟩
theorem wad_rep {A B : W4} {P Q : Int × Int} (h : OnP P) (k : OnP Q) (a : RepW' A P) (b : RepW' B Q) : RepW' (wad A B) (pAdd P Q) := wadd_rep h.c k.c a b
theorem rad_rep {A B : W3} {P Q : Int × Int} (h : OnP P) (k : OnP Q) (a : RepR' A P) (b : RepR' B Q) : RepR' (rad A B) (pAdd P Q) := radd_rep h.c k.c a b
theorem wrun_rep {E : W4} {P : Int × Int} (hP : OnP P) (hE : RepW' E P) : ∀ (bs : List Bool) {Z : W4} {Q : Int × Int}, OnP Q → RepW' Z Q → RepW' (wrun E Z bs) (bs.foldl (fun A b => if b then pAdd (pAdd A A) P else pAdd A A) Q)
  | [], _, _, _, h => h
  | true :: bs, _, _, hQ, h => wrun_rep hP hE bs (pAdd_on (pAdd_on hQ hQ) hP) (wad_rep (pAdd_on hQ hQ) hP (wad_rep hQ hQ h h) hE)
  | false :: bs, _, _, hQ, h => wrun_rep hP hE bs (pAdd_on hQ hQ) (wad_rep hQ hQ h h)
theorem rrun_rep {E : W3} {P : Int × Int} (hP : OnP P) (hE : RepR' E P) : ∀ (bs : List Bool) {Z : W3} {Q : Int × Int}, OnP Q → RepR' Z Q → RepR' (rrun E Z bs) (bs.foldl (fun A b => if b then pAdd (pAdd A A) P else pAdd A A) Q)
  | [], _, _, _, h => h
  | true :: bs, _, _, hQ, h => rrun_rep hP hE bs (pAdd_on (pAdd_on hQ hQ) hP) (rad_rep (pAdd_on hQ hQ) hP (rad_rep hQ hQ h h) hE)
  | false :: bs, _, _, hQ, h => rrun_rep hP hE bs (pAdd_on hQ hQ) (rad_rep hQ hQ h h)
theorem wE_zero : RepW' (wE 0 0) pZero := wE_rep pZero_on
theorem Z0_rep : RepR' Z0 pZero := ⟨num_isN 1, by decide, rfl, rfl⟩
theorem rE_rep {P : Int × Int} (h : OnP P) : RepR' (P.1, P.2, 1) P :=
  ⟨num_isN 1, (by show (1 : Int) ≠ 0; decide), (by show P.1 = 1 * P.1 % p; rw [Int.one_mul, isN_self h.x]), (by show P.2 = 1 * P.2 % p; rw [Int.one_mul, isN_self h.y])⟩
theorem ptTimes {P : Int × Int} (h : OnP P) (ks : List Int) (hk : ks.length = 32) (hkb : AreBytes ks) (w : World) (tB : TypeId) (hB : w.heap[0]? = some (.cells (ints .u8 bendL) tB)) :
    Calls Tryd.prog 20 #[ptV P, .agg (ints .u8 ks)] w (Ret w (ptV (climbP P (bitsB ks)))) := by
  have c := ptimesC P.1 ((P.2 - 1) % p) h.x (isN_mod _) ks hk hkb w tB hB
  have e := narrow_rep (climbP_on h (bitsB ks)) (wrun_rep h (wE_rep h) (bitsB ks) pZero_on wE_zero)
  rw [e] at c
  exact c
theorem ptAdd {P Q : Int × Int} (h : OnP P) (k : OnP Q) (w : World) (tB : TypeId) (hB : w.heap[0]? = some (.cells (ints .u8 bendL) tB)) :
    Calls Tryd.prog 15 #[ptV P, ptV Q] w (Ret w (ptV (pAdd P Q))) := by
  have c := paddC P.1 ((P.2 - 1) % p) Q.1 ((Q.2 - 1) % p) h.x (isN_mod _) k.x (isN_mod _) w tB hB
  have e : paddF P.1 ((P.2 - 1) % p) Q.1 ((Q.2 - 1) % p) = ((pAdd P Q).1, ((pAdd P Q).2 - 1) % p) := narrow_rep (pAdd_on h k) (wad_rep h k (wE_rep h) (wE_rep k))
  rw [e] at c
  exact c
theorem ptNeg {P : Int × Int} (h : OnP P) (w : World) : Calls Tryd.prog 17 #[ptV P] w (Ret w (ptV (pNeg P))) := pngPC P.1 ((P.2 - 1) % p) h.x (isN_mod _) w
theorem less_inj {a b : Int} (ha : isN a) (hb : isN b) (h : (a - 1) % p = (b - 1) % p) : a = b := by
  have e : (a - b) % p = 0 := by
    have := sub_z h
    rw [show a - 1 - (b - 1) = a - b by omega] at this
    exact this
  have := z_sub e
  rwa [isN_self ha, isN_self hb] at this
theorem ptEqual {P Q : Int × Int} (h : OnP P) (k : OnP Q) (w : World) : Calls Tryd.prog 19 #[ptV P, ptV Q] w (Ret w (.bool (decide (P = Q)))) := by
  have c := pequalC P.1 ((P.2 - 1) % p) Q.1 ((Q.2 - 1) % p) h.x (isN_mod _) k.x (isN_mod _) w
  have e : (P.1 == Q.1 && (P.2 - 1) % p == (Q.2 - 1) % p) = decide (P = Q) := by
    by_cases hh : P = Q
    · rw [hh]; simp
    · rw [decide_eq_false hh]
      refine Bool.eq_false_iff.2 fun g => hh ?_
      simp only [Bool.and_eq_true, beq_iff_eq] at g
      exact Prod.ext g.1 (less_inj h.y k.y g.2)
  rw [e] at c
  exact c
theorem ptSame {P Q : Int × Int} (h : OnP P) (e : P = Q) (w : World) : Calls Tryd.prog 19 #[ptV P, ptV Q] w (Ret w (.bool true)) := by
  have c := ptEqual h (e ▸ h) w
  rwa [decide_eq_true e] at c
/-! ### What bytes of a point are -/
theorem leAt_mod (n : Int) : ∀ k, k ≤ 32 → leAt (bytesOf n) 0 k = n % 256 ^ k
  | 0, _ => by simp [leAt, Int.emod_one]
  | k + 1, hk => by
    have q : nth (bytesOf n) (0 + k) = byteAt n k := by unfold nth bytesOf part; simp [show k < 32 by omega]
    rw [leAt, leAt_mod n k (by omega), q, mod_step]
    unfold byteAt
    rw [Int.mul_comm (n / 256 ^ k % 256)]
theorem keyNum_bytes {n : Int} (h : isN n) : keyNum (bytesOf n) = n := by
  have e := leAt_mod n 32 (Nat.le_refl _)
  have l : p < 256 ^ 32 := by decide
  have l2 : p < 57896044618658097711785492504343953926634992332820282019728792003956564819968 := by decide
  have h1 := h.1
  have h2 := h.2
  rw [Int.emod_eq_of_lt h1 (Int.lt_trans h2 l)] at e
  unfold keyNum
  rw [e, Int.emod_eq_of_lt h1 (Int.lt_trans h2 l2), isN_self h]
theorem onC_uK {x y : Int} (h : onC x y) : x * x % p = uK y := by
  unfold uK
  have hw := w_ne y
  have i1 := inv_z hw
  have e : (y * y % p * dN % p + 1) % p = (y * y * dN + 1) % p := by rw [modL, addL]
  have e2 : (y * y % p - 1) % p * invN ((y * y * dN + 1) % p) % p = (y * y - 1) * invN ((y * y * dN + 1) % p) % p := by
    rw [modL, ← modL (y * y % p - 1), subL, modL]
  rw [e, e2]
  refine z_sub ?_
  unfold onC cv at h
  refine zc2 h i1 (c := -invN ((y * y * dN + 1) % p)) (d := -(x * x)) ?_
  grind
theorem evenOf_back {x : Int} (hx : isN x) : (if (x % 2 == 1) = true then pnegF (evenOf x) else evenOf x) = x := by
  unfold evenOf
  by_cases h : x % 2 = 1
  · rw [if_pos (by simp [h]), if_pos h, pneg_val]
    have e : (0 - (0 - x) % p) % p = x % p := by rw [subR]; exact mod_hom (by omega)
    rw [e, isN_self hx]
  · rw [if_neg (by simp [h]), if_neg h]
theorem from_enc {P : Int × Int} (h : OnP P) : okK (encP P) = true ∧ xK (encP P) = P.1 ∧ zK (encP P) = P.2 := by
  have hy : yK (encP P) = P.2 := by
    unfold yK cutK encP
    rw [enc_low h.y, keyNum_bytes h.y]
  have ho : oddK (encP P) = (P.1 % 2 == 1) := by
    have hl := enc_bytes (x := P.1) h.y
    have hb : 0 ≤ nth (enc P.1 P.2) 31 ∧ nth (enc P.1 P.2) 31 ≤ 255 := hl.nth 31
    rw [enc_top h.y]
    unfold oddK encP
    by_cases hh : 128 ≤ nth (enc P.1 P.2) 31
    · rw [decide_eq_true hh, show nth (enc P.1 P.2) 31 / 128 = 1 by omega]; rfl
    · rw [decide_eq_false hh, show nth (enc P.1 P.2) 31 / 128 = 0 by omega]; rfl
  have hc : canK (encP P) = true := by
    unfold canK
    rw [hy]
    unfold cutK encP
    rw [enc_low h.y]
    exact decide_eq_true rfl
  have hs := root_square P.1 h.x
  rw [onC_uK h.c, ← hy] at hs
  have hr : rK (encP P) = evenOf P.1 := hs.2
  have h0 : (oddK (encP P) && rK (encP P) == 0) = false := by
    rw [ho, hr]
    by_cases hp : P.1 % 2 = 1
    · have e := evenOf_odd P.1 h.x hp
      have hlt := h.x.2
      rw [e]
      have : ¬ (p - P.1 = 0) := by omega
      simp [this]
    · simp [hp]
  have hk : okK (encP P) = true := by
    unfold okK
    rw [hc, hs.1, h0]
    rfl
  refine ⟨hk, ?_, ?_⟩
  · unfold xK
    rw [if_pos hk, ho, hr]
    exact evenOf_back h.x
  · unfold zK
    rw [if_pos hk, hy]
theorem ptFrom {P : Int × Int} (h : OnP P) (w : World) (tB : TypeId) (hB : w.heap[0]? = some (.cells (ints .u8 bendL) tB)) :
    Calls Tryd.prog 11 #[.agg (ints .u8 (encP P))] w (Ret w (.tuple #[ptV P, .bool true])) := by
  have c := pfromC (encP P) (encP_len P) (enc_bytes h.y) w tB hB
  obtain ⟨h1, h2, h3⟩ := from_enc h
  rw [h1, lK_eq, h2, h3] at c
  exact c
theorem base_on : OnP (bxN, byN) := ⟨bxN_isN, byN_isN, by unfold onC; decide +kernel⟩
theorem blN_eq : blN = ((bxN, byN).2 - 1) % p := by decide +kernel
theorem ptBase (w : World) (tX : TypeId) (hX : w.heap[1]? = some (.cells (ints .u8 baseXL) tX)) (tY : TypeId) (hY : w.heap[2]? = some (.cells (ints .u8 baseYL) tY)) :
    Calls Tryd.prog 22 #[] w (Ret w (ptV (bxN, byN))) := by
  have c := base_k w tX hX tY hY
  rw [blN_eq] at c
  exact c
theorem K_onP (xs : List Int) : OnP (xK xs, zK xs) := ⟨xK_isN xs, zK_isN xs, K_onC xs⟩
/-! ### The law of multiples -/
def mulP (a ks : List Int) : Int × Int := climbP (xK a, zK a) (bitsB ks)
theorem mulP_on (a ks : List Int) : OnP (mulP a ks) := climbP_on (K_onP a) _
theorem ptTimesK (a ks : List Int) (hk : ks.length = 32) (hkb : AreBytes ks) (w : World) (tB : TypeId) (hB : w.heap[0]? = some (.cells (ints .u8 bendL) tB)) :
    Calls Tryd.prog 20 #[.agg (cat [numA (xK a), numA (lK a)]), .agg (ints .u8 ks)] w (Ret w (ptV (mulP a ks))) := by
  have c := ptTimes (K_onP a) ks hk hkb w tB hB
  rw [lK_eq]
  exact c
theorem rTimesK (a ks : List Int) (hk : ks.length = 32) (hkb : AreBytes ks) (w : World) :
    Calls Tryd.prog 21 #[.agg (cat [ints .i64 (lims (xK a)), ints .i64 (lims (zK a)), ints .i64 (lims 1)]), .agg (ints .u8 ks)] w (Ret w (w3 (rruns (xK a, zK a, 1) Z0 ks 0))) :=
  rtimesC (xK a, zK a, 1) ⟨xK_isN a, zK_isN a, num_isN 1⟩ ks hk hkb w
theorem rrunsK_rep (a ks : List Int) : RepR' (rruns (xK a, zK a, 1) Z0 ks 0) (mulP a ks) := by
  have h := rrun_rep (K_onP a) (rE_rep (K_onP a)) (bitsB ks) pZero_on Z0_rep
  rw [rruns_full]
  unfold mulP climbP
  exact h
theorem rBytesK (a ks : List Int) (w : World) : Calls Tryd.prog 14 #[w3 (rruns (xK a, zK a, 1) Z0 ks 0)] w (Ret w (.agg (ints .u8 (encP (mulP a ks))))) := by
  have r := rrunsK_rep a ks
  have i : isW3 (rruns (xK a, zK a, 1) Z0 ks 0) := rrun_is ⟨xK_isN a, zK_isN a, num_isN 1⟩ _ ⟨num_isN 0, num_isN 1, num_isN 1⟩
  have c := rbytesC _ _ _ i.1 i.2.1 i.2.2 w
  have o := mulP_on a ks
  rw [r.hx, r.hy, rep_out r.n r.z o.x, rep_out r.n r.z o.y] at c
  rw [r.hx.symm, r.hy.symm] at c
  exact c

end Go.Proofs.YtaojnmjmmfdfjaaDoor.Field
