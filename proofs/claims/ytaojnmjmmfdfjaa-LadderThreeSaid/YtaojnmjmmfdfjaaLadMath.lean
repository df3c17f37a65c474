/- The ladder's numbers. -/
import Derived.Test.YtaojnmjmmfdfjaaLadStep
import Derived.Test.YtaojnmjmmfdfjaaBitsB
import Derived.Test.YtaojnmjmmfdfjaaPowC
import Derived.Test.YtaojnmjmmfdfjaaClamp
namespace Go.Proofs.Ytaojnmjmmfdfjaa.Field
open Go Go.RowKit
open Go.Proofs.Ytaojnmjmmfdfjaa.Rely Go.Proofs.Ytaojnmjmmfdfjaa.Auto Go.Proofs.Ytaojnmjmmfdfjaa.Ladder
set_option linter.unusedVariables false

/-- what stands near is doubled, what stands far is the sum; both differ by u -/
def lstep (u x z y v : Int) : Int × Int × Int × Int :=
  let s0 := (x + z) % p
  let s1 := (x - z) % p
  let s2 := (y + v) % p
  let s3 := (y - v) % p
  let s4 := s0 * s0 % p
  let s5 := s1 * s1 % p
  let s6 := (s4 - s5) % p
  let s7 := s3 * s0 % p
  let s8 := s2 * s1 % p
  let s9 := (s7 + s8) % p
  let s10 := (s7 - s8) % p
  let s11 := s4 * s5 % p
  let s12 := s6 * 121665 % p
  let s13 := (s4 + s12) % p
  let s14 := s6 * s13 % p
  let s15 := s9 * s9 % p
  let s16 := s10 * s10 % p
  let s17 := u * s16 % p
  (s11, s14, s15, s17)
abbrev LSt := Int × Int × Int × Int
def rung (u : Int) (s : LSt) (b : Bool) : LSt :=
  if b then let r := lstep u s.2.2.1 s.2.2.2 s.1 s.2.1; (r.2.2.1, r.2.2.2, r.1, r.2.1) else lstep u s.1 s.2.1 s.2.2.1 s.2.2.2
def rungs (u : Int) (bs : List Bool) : LSt := bs.foldl (rung u) (1, 0, u, 1)
theorem rungs_snoc (u : Int) (bs : List Bool) (b : Bool) : rungs u (bs ++ [b]) = rung u (rungs u bs) b := by simp [rungs]
def isL (s : LSt) : Prop := isN s.1 ∧ isN s.2.1 ∧ isN s.2.2.1 ∧ isN s.2.2.2
theorem lstep_isL (u x z y v : Int) : isL (lstep u x z y v) := ⟨isN_mod _, isN_mod _, isN_mod _, isN_mod _⟩
theorem rung_isL (u : Int) (s : LSt) (b : Bool) : isL (rung u s b) := by
  have h := lstep_isL u s.2.2.1 s.2.2.2 s.1 s.2.1
  cases b
  · exact lstep_isL _ _ _ _ _
  · exact ⟨h.2.2.1, h.2.2.2, h.1, h.2.1⟩
theorem zero_isN : isN 0 := by unfold isN p; decide
theorem rungs_isL (u : Int) (hu : isN u) (bs : List Bool) : isL (rungs u bs) := by
  rcases List.eq_nil_or_concat bs with h | ⟨l, b, h⟩
  · subst h; exact ⟨one_isN, zero_isN, hu, one_isN⟩
  · subst h; rw [List.concat_eq_append, rungs_snoc]; exact rung_isL _ _ _
/-- what comes of u by these bits -/
def ladOut (u : Int) (bs : List Bool) : Int := (rungs u bs).1 * invN (rungs u bs).2.1 % p
theorem small_k (n : Int) (h : 0 ≤ n ∧ n < 1000000) (w : World) : Calls Try.prog 22 #[.int .i64 n] w (Ret w (num n)) := by
  have := small_pos n (by omega) w
  rw [show n % p = n from Int.emod_eq_of_lt h.1 (by unfold p; omega)] at this
  exact this
theorem step (u x z y v : Int) (hu : isN u) (hx : isN x) (hz : isN z) (hy : isN y) (hv : isN v) (w : World) :
    Calls Try.prog 64 #[num u, .agg (cat [numA x, numA z]), .agg (cat [numA y, numA v])] w
      (Ret w (.tuple #[.agg (cat [numA (lstep u x z y v).1, numA (lstep u x z y v).2.1]), .agg (cat [numA (lstep u x z y v).2.2.1, numA (lstep u x z y v).2.2.2])])) := by
  have m : ∀ n : Int, isN (n % p) := isN_mod
  have k : isN 121665 := by unfold isN p; decide
  exact step_core u x z y v _ _ _ _ _ _ _ _ _ _ _ _ _ _ _ _ _ _ (small_k 121665 (by decide)) (add x z hx hz) (sub x z hx hz) (add y v hy hv) (sub y v hy hv) (mul _ _ (m _) (m _)) (mul _ _ (m _) (m _)) (sub _ _ (m _) (m _)) (mul _ _ (m _) (m _)) (mul _ _ (m _) (m _)) (add _ _ (m _) (m _)) (sub _ _ (m _) (m _)) (mul _ _ (m _) (m _)) (mul _ _ (m _) k) (add _ _ (m _) (m _)) (mul _ _ (m _) (m _)) (mul _ _ (m _) (m _)) (mul _ _ (m _) (m _)) (mul _ _ hu (m _)) w
theorem bits_callK (es : List Int) (w : World) : Calls Try.prog 36 #[.agg (ints .u8 es)] w fun e w' => ∃ v, e = .returned v ∧ Ext w w' ∧ ∃ kb, w.heap.size ≤ kb ∧ v = .func (.func 59) #[] #[.pointer (some ⟨kb, 0, none⟩)] ∧ w'.heap[kb]? = some (.cells (ints .u8 es) 23) := by
  have hmf : ∀ (fn : Fn) (first cap : Array Value) (w : World), (Instr.makeFunc fn first cap).run Try.prog w = .ok (.func fn first cap) w := fun _ _ _ _ => rfl
  go_enter Try.func36, Try.ntmps36
  go_wp2_with fail
  exact bodyPost_ret (results_tmp rfl _ _ _) rfl ⟨_, rfl, ext_alloc _ _, w.heap.size, Nat.le_refl _, rfl, heap_alloc_new _ _⟩
theorem hcs_ (xs : List Int) (hx : xs.length = 32) : (ints .u8 (clamp xs)).size = 32 := by rw [ints_size]; simp [clamp, hx]
theorem clamp_bytes (xs : List Int) (hx : xs.length = 32) (hb : AreBytes xs) : AreBytes (clamp xs) := by
  intro z hz
  unfold clamp at hz
  rcases List.mem_or_eq_of_mem_set hz with h | h
  · rcases List.mem_or_eq_of_mem_set h with h | h
    · exact hb z h
    · have := hb.nth 0; omega
  · have := hb.nth 31; omega
end Go.Proofs.Ytaojnmjmmfdfjaa.Field
