/- Points: which point any bytes are, the program's answer and the document's. -/
import Derived.Test.YtaojnmjmmfdfjaaDoorPtFrom
namespace Go.Proofs.YtaojnmjmmfdfjaaDoor.Field
open Go Go.RowKit
open Go.Proofs.YtaojnmjmmfdfjaaDoor.Rely Go.Proofs.YtaojnmjmmfdfjaaDoor.Auto
set_option linter.unusedVariables false

def cutK (xs : List Int) : List Int := xs.set 31 (nth xs 31 % 128)
def yK (xs : List Int) : Int := keyNum (cutK xs)
def uK (y : Int) : Int := (y * y % p - 1) % p * invN ((y * y % p * dN % p + 1) % p) % p
def rK (xs : List Int) : Int := rootN (uK (yK xs))
def oddK (xs : List Int) : Bool := nth xs 31 / 128 == 1
def canK (xs : List Int) : Bool := decide (bytesOf (yK xs) = cutK xs)
def okK (xs : List Int) : Bool := canK xs && (hasRoot (uK (yK xs)) && !(oddK xs && rK xs == 0))
def xK (xs : List Int) : Int := if okK xs = true then (if oddK xs = true then pnegF (rK xs) else rK xs) else 0
def lK (xs : List Int) : Int := if okK xs = true then (yK xs - 1) % p else 0
def zK (xs : List Int) : Int := if okK xs = true then yK xs else 1
theorem cutK_len {xs : List Int} (hx : xs.length = 32) : (cutK xs).length = 32 := by unfold cutK; rw [List.length_set]; exact hx
theorem cutK_bytes {xs : List Int} (hb : AreBytes xs) : AreBytes (cutK xs) := by
  intro x hx
  rcases List.mem_or_eq_of_mem_set hx with h | h
  · exact hb x h
  · have := hb.nth 31; omega
theorem rK_isN (xs : List Int) : isN (rK xs) := rootN_isN _
theorem yK_isN (xs : List Int) : isN (yK xs) := keyNum_isN _
theorem xK_isN (xs : List Int) : isN (xK xs) := by
  unfold xK
  split
  · split
    · exact pneg_isN _ (rK_isN xs)
    · exact rK_isN xs
  · exact num_isN 0
theorem lK_isN (xs : List Int) : isN (lK xs) := by unfold lK; split; exact isN_mod _; exact num_isN 0
theorem zK_isN (xs : List Int) : isN (zK xs) := by unfold zK; split; exact yK_isN xs; exact num_isN 1
theorem lims0 {r : Int} (h : isN r) (b : Bool) (e : (r == 0) = b) : decide (lims r = lims 0) = b := by
  cases b
  · exact decide_eq_false fun q => by
      have : r = 0 := lims_inj ⟨h.1, Int.lt_trans h.2 (by decide)⟩ (by decide) q
      rw [this] at e
      cases e
  · have : r = 0 := by simpa using e
    rw [this]
    exact decide_eq_true rfl
theorem odd128 {xs : List Int} (hb : AreBytes xs) (b : Bool) (e : oddK xs = b) : decide (nth xs 31 ≥ 128) = b := by
  have h := hb.nth 31
  unfold oddK at e
  cases b
  · exact decide_eq_false fun q => by
      have : nth xs 31 / 128 = 1 := by omega
      rw [this] at e
      cases e
  · have : nth xs 31 / 128 = 1 := by simpa using e
    exact decide_eq_true (by omega)
set_option maxRecDepth 100000 in
theorem pfromC (xs : List Int) (hx : xs.length = 32) (hb : AreBytes xs) (w : World) (tB : TypeId) (hB : w.heap[0]? = some (.cells (ints .u8 bendL) tB)) :
    Calls Tryd.prog 11 #[.agg (ints .u8 xs)] w (Ret w (.tuple #[.agg (cat [numA (xK xs), numA (lK xs)]), .bool (okK xs)])) := by
  have c0 : ∀ W, Calls Tryd.prog 29 #[.agg (ints .u8 (cutK xs))] W (Ret W (num (yK xs))) := fun W => from_ (cutK xs) (cutK_len hx) (cutK_bytes hb) W
  have hy := yK_isN xs
  have cb : ∀ W, Calls Tryd.prog 30 #[num (yK xs)] W (Ret W (.agg (ints .u8 (bytesOf (yK xs))))) := fun W => bytes _ hy W
  have cr : ∀ b, hasRoot (uK (yK xs)) = b → ∀ W, Calls Tryd.prog 36 #[num (uK (yK xs))] W (Ret W (.tuple #[num (rK xs), .bool b])) := fun b e W => by
    have := root (uK (yK xs)) (isN_mod _) W
    rw [e] at this
    exact this
  have c1 := fun W => mul _ _ hy hy W
  have c2 := fun W => mul _ _ (isN_mod (yK xs * yK xs)) dN_isN W
  have c3 := fun W => add _ _ (isN_mod (yK xs * yK xs % p * dN)) (num_isN 1) W
  have c4 := fun W => sub _ _ (isN_mod (yK xs * yK xs)) (num_isN 1) W
  have c5 := fun W => inv _ (isN_mod (yK xs * yK xs % p * dN % p + 1)) W
  have c6 := fun W => mul _ _ (isN_mod (yK xs * yK xs % p - 1)) (invN_isN ((yK xs * yK xs % p * dN % p + 1) % p)) W
  cases hc : canK xs
  · have e : okK xs = false := by unfold okK; rw [hc]; rfl
    unfold xK lK
    rw [e]
    cases ho : oddK xs
    · exact pfrom_A xs _ hx hb (bytes_len _) _ ho hc c0 cb w tB hB
    · exact pfrom_G xs _ hx hb (bytes_len _) _ ho hc c0 cb w tB hB
  · cases hr : hasRoot (uK (yK xs))
    · have e : okK xs = false := by unfold okK; rw [hc, hr]; rfl
      unfold xK lK
      rw [e]
      cases ho : oddK xs
      · exact pfrom_B xs _ hx hb (bytes_len _) _ _ _ _ _ _ _ _ ho hc c0 c1 c2 c3 c4 c5 c6 cb (cr _ hr) w tB hB
      · exact pfrom_C xs _ hx hb (bytes_len _) _ _ _ _ _ _ _ _ ho hc c0 c1 c2 c3 c4 c5 c6 cb (cr _ hr) w tB hB
    · cases ho : oddK xs
      · have e : okK xs = true := by unfold okK; rw [hc, hr, ho]; rfl
        unfold xK lK
        rw [e, ho]
        exact pfrom_F xs _ hx hb (bytes_len _) _ _ _ _ _ _ _ _ _ _ ho hc c0 c1 c2 c3 c4 c5 c6 cb (cr _ hr) (fun W => patC _ _ (rK_isN xs) hy W) w tB hB
      · cases hz : (rK xs == 0)
        · have e : okK xs = true := by unfold okK; rw [hc, hr, ho, hz]; rfl
          unfold xK lK
          rw [e, ho]
          exact pfrom_E xs _ hx hb (bytes_len _) _ _ _ _ _ _ _ _ _ _ _ ho hc (rK_isN xs) hz c0 c1 c2 c3 c4 c5 c6 cb (cr _ hr) (fun W => pnegC _ (rK_isN xs) W) (fun W => patC _ _ (pneg_isN _ (rK_isN xs)) hy W) w tB hB
        · have e : okK xs = false := by unfold okK; rw [hc, hr, ho, hz]; rfl
          unfold xK lK
          rw [e]
          exact pfrom_D xs _ hx hb (bytes_len _) _ _ _ _ _ _ _ _ ho hc (rK_isN xs) hz c0 c1 c2 c3 c4 c5 c6 cb (cr _ hr) w tB hB
set_option maxRecDepth 100000 in
theorem rfromC (xs : List Int) (hx : xs.length = 32) (hb : AreBytes xs) (w : World) :
    Calls Tryd.prog 12 #[.agg (ints .u8 xs)] w (Ret w (.tuple #[.agg (cat [ints .i64 (lims (xK xs)), ints .i64 (lims (zK xs)), ints .i64 (lims 1)]), .bool (okK xs)])) := by
  have c0 : ∀ W, Calls Tryd.prog 39 #[.agg (ints .u8 (cutK xs))] W (Ret W (lnum (yK xs))) := fun W => lFrom (cutK xs) (cutK_len hx) (cutK_bytes hb) W
  have hy := yK_isN xs
  have cb : ∀ W, Calls Tryd.prog 40 #[lnum (yK xs)] W (Ret W (.agg (ints .u8 (bytesOf (yK xs))))) := fun W => lBytes _ W
  have cr : ∀ b, hasRoot (uK (yK xs)) = b → ∀ W, Calls Tryd.prog 45 #[lnum (uK (yK xs))] W (Ret W (.tuple #[lnum (rK xs), .bool b])) := fun b e W => by
    have := lRoot (uK (yK xs)) (isN_mod _) W
    rw [e] at this
    exact this
  have c1 := fun W => lMulN _ _ hy hy W
  have c2 : ∀ W, Calls Tryd.prog 42 #[lnum dN, lnum (yK xs * yK xs % p)] W (Ret W (lnum (yK xs * yK xs % p * dN % p))) := fun W => by
    have := lMulN _ _ dN_isN (isN_mod (yK xs * yK xs)) W
    rw [Int.mul_comm dN] at this
    exact this
  have c3 := fun W => lAddN _ _ (isN_mod (yK xs * yK xs % p * dN)) (num_isN 1) W
  have c4 := fun W => lSubN _ _ (isN_mod (yK xs * yK xs)) (num_isN 1) W
  have c5 := fun W => lInv _ (isN_mod (yK xs * yK xs % p * dN % p + 1)) W
  have c6 := fun W => lMulN _ _ (isN_mod (yK xs * yK xs % p - 1)) (invN_isN ((yK xs * yK xs % p * dN % p + 1) % p)) W
  cases hc : canK xs
  · have e : okK xs = false := by unfold okK; rw [hc]; rfl
    unfold xK zK
    rw [e]
    cases ho : oddK xs
    · exact rfrom_A xs _ hx hb (bytes_len _) _ (odd128 hb _ ho) hc c0 cb w
    · exact rfrom_G xs _ hx hb (bytes_len _) _ (odd128 hb _ ho) hc c0 cb w
  · cases hr : hasRoot (uK (yK xs))
    · have e : okK xs = false := by unfold okK; rw [hc, hr]; rfl
      unfold xK zK
      rw [e]
      cases ho : oddK xs
      · exact rfrom_B xs _ hx hb (bytes_len _) _ _ _ _ _ _ _ _ (odd128 hb _ ho) hc c0 c1 c2 c3 c4 c5 c6 cb (cr _ hr) w
      · exact rfrom_C xs _ hx hb (bytes_len _) _ _ _ _ _ _ _ _ (odd128 hb _ ho) hc c0 c1 c2 c3 c4 c5 c6 cb (cr _ hr) w
    · cases ho : oddK xs
      · have e : okK xs = true := by unfold okK; rw [hc, hr, ho]; rfl
        unfold xK zK
        rw [e, ho]
        exact rfrom_F xs _ hx hb (bytes_len _) _ _ _ _ _ _ _ _ (odd128 hb _ ho) hc c0 c1 c2 c3 c4 c5 c6 cb (cr _ hr) w
      · cases hz : (rK xs == 0)
        · have e : okK xs = true := by unfold okK; rw [hc, hr, ho, hz]; rfl
          unfold xK zK
          rw [e, ho]
          exact rfrom_E xs _ hx hb (bytes_len _) _ _ _ _ _ _ _ _ _ (odd128 hb _ ho) hc (lims0 (rK_isN xs) _ hz) c0 c1 c2 c3 c4 c5 c6 (fun W => lSubN _ _ (num_isN 0) (rK_isN xs) W) cb (cr _ hr) w
        · have e : okK xs = false := by unfold okK; rw [hc, hr, ho, hz]; rfl
          unfold xK zK
          rw [e]
          exact rfrom_D xs _ hx hb (bytes_len _) _ _ _ _ _ _ _ _ (odd128 hb _ ho) hc (lims0 (rK_isN xs) _ hz) c0 c1 c2 c3 c4 c5 c6 cb (cr _ hr) w
end Go.Proofs.YtaojnmjmmfdfjaaDoor.Field
