/- Poly1305 as a function of lists of bytes; numbers as lists of digits, the lowest first. -/
import Derived.Test.YtjldjdlhllgakaaDoorChX
namespace Go.Proofs.YtjldjdlhllgakaaDoor.Ae
open Go Go.RowKit
open Go.Proofs.YtjldjdlhllgakaaDoor.Rely Go.Proofs.YtjldjdlhllgakaaDoor.Auto Go.Proofs.YtjldjdlhllgakaaDoor.Own Go.Proofs.YtjldjdlhllgakaaDoor.Sha Go.Proofs.YtjldjdlhllgakaaDoor.Cha
set_option linter.unusedVariables false
set_option linter.unusedSimpArgs false

/-- the number of a list of digits, the lowest first -/
def lev : List Int → Int
  | [] => 0
  | a :: t => a + 256 * lev t
def p256 (n : Nat) : Int := 256 ^ n
theorem p256_0 : p256 0 = 1 := rfl
theorem p256_succ (n : Nat) : p256 (n + 1) = 256 * p256 n := by unfold p256; rw [Int.pow_succ, Int.mul_comm]
theorem p256_add (m n : Nat) : p256 (m + n) = p256 m * p256 n := by unfold p256; rw [Int.pow_add]
theorem p256_pos (n : Nat) : 0 < p256 n := Int.pow_pos (by decide)
theorem lev_snoc : ∀ (xs : List Int) (x : Int), lev (xs ++ [x]) = lev xs + x * p256 xs.length
  | [], x => by simp [lev, p256_0]
  | a :: t, x => by
    rw [List.cons_append, lev, lev_snoc t x, lev, List.length_cons, p256_succ]
    grind
theorem lev_app : ∀ (xs ys : List Int), lev (xs ++ ys) = lev xs + p256 xs.length * lev ys
  | [], ys => by simp [lev, p256_0]
  | a :: t, ys => by
    rw [List.cons_append, lev, lev_app t ys, lev, List.length_cons, p256_succ]
    grind
theorem lev_nonneg : ∀ {xs : List Int}, AreBytes xs → 0 ≤ lev xs
  | [], _ => by simp [lev]
  | a :: t, h => by
    have h1 := h a (List.mem_cons_self ..)
    have h2 := lev_nonneg (xs := t) fun x hx => h x (List.mem_cons_of_mem _ hx)
    rw [lev]; omega
theorem lev_lt : ∀ {xs : List Int}, AreBytes xs → lev xs < p256 xs.length
  | [], _ => by simp [lev, p256_0]
  | a :: t, h => by
    have h1 := h a (List.mem_cons_self ..)
    have h2 := lev_lt (xs := t) fun x hx => h x (List.mem_cons_of_mem _ hx)
    rw [lev, List.length_cons, p256_succ]; omega
theorem lev_take_succ (xs : List Int) (i : Nat) (h : i < xs.length) : lev (xs.take (i + 1)) = lev (xs.take i) + nth xs i * p256 i := by
  have e : xs.take (i + 1) = xs.take i ++ [nth xs i] := by
    rw [List.take_add_one, List.getElem?_eq_getElem h]
    simp [nth, h]
  rw [e, lev_snoc, List.length_take, Nat.min_eq_left (by omega)]
theorem lev_take_ge (xs : List Int) (i : Nat) (h : xs.length ≤ i) : lev (xs.take i) = lev xs := by rw [List.take_of_length_le h]
theorem lev_set : ∀ (xs : List Int) (m : Nat) (d : Int), m < xs.length → lev (xs.set m d) = lev xs + (d - nth xs m) * p256 m
  | [], m, d, h => by simp at h
  | a :: t, 0, d, _ => by simp only [List.set_cons_zero, lev, p256_0]; show d + 256 * lev t = a + 256 * lev t + (d - a) * 1; omega
  | a :: t, m + 1, d, h => by
    rw [List.set_cons_succ, lev, lev_set t m d (by simpa using h), lev, p256_succ]
    show a + 256 * (lev t + (d - nth t m) * p256 m) = a + 256 * lev t + (d - nth t m) * (256 * p256 m)
    grind
theorem lev_zeros (n : Nat) : lev (List.replicate n 0) = 0 := by
  induction n with
  | zero => rfl
  | succ n ih => rw [List.replicate_succ, lev, ih]; rfl
theorem ediv_256 (a b : Int) : a / 256 / b = a / (256 * b) := by rw [Int.ediv_ediv, if_neg (by omega)]; exact Int.sub_zero _
/-- a digit of a number -/
theorem lev_digit : ∀ (xs : List Int) (i : Nat), AreBytes xs → nth xs i = lev xs / p256 i % 256
  | [], i, _ => by
    have : nth ([] : List Int) i = 0 := by simp [nth]
    rw [this]; simp [lev]
  | a :: t, 0, h => by
    have h1 := h a (List.mem_cons_self ..)
    show a = lev (a :: t) / 1 % 256
    rw [lev]; omega
  | a :: t, i + 1, h => by
    have h1 := h a (List.mem_cons_self ..)
    show nth t i = _
    rw [lev_digit t i fun x hx => h x (List.mem_cons_of_mem _ hx), lev, p256_succ, ← ediv_256, show (a + 256 * lev t) / 256 = lev t by omega]
theorem bytes_app {a b : List Int} (ha : AreBytes a) (hb : AreBytes b) : AreBytes (a ++ b) := fun x hx => by
  rcases List.mem_append.1 hx with h | h
  · exact ha x h
  · exact hb x h
theorem bytes_one {x : Int} (h0 : 0 ≤ x) (h1 : x ≤ 255) : AreBytes [x] := fun y hy => by rw [List.mem_singleton] at hy; subst hy; exact ⟨h0, h1⟩
theorem bytes_take {a : List Int} (ha : AreBytes a) (n : Nat) : AreBytes (a.take n) := fun x hx => ha x (List.mem_of_mem_take hx)
theorem bytes_drop {a : List Int} (ha : AreBytes a) (n : Nat) : AreBytes (a.drop n) := fun x hx => ha x (List.mem_of_mem_drop hx)
theorem bytes_set {a : List Int} (ha : AreBytes a) (n : Nat) {x : Int} (h0 : 0 ≤ x) (h1 : x ≤ 255) : AreBytes (a.set n x) := fun y hy => by
  rcases List.mem_or_eq_of_mem_set hy with h | h
  · exact ha y h
  · subst h; exact ⟨h0, h1⟩
/-! ### Poly1305 -/
def PP : Int := 1361129467683753853853498429727072845819
/-- what so many pieces of a text come to -/
def polyN (r : Int) (t : List Int) : Nat → Int
  | 0 => 0
  | n + 1 => (polyN r t n + lev (((t.drop (16 * n)).take 16) ++ [1])) * r % PP
def polyT (r : Int) (t : List Int) : Int := polyN r t ((t.length + 15) / 16)
def by16 (v : Int) : List Int := (List.range 16).map fun i => v / p256 i % 256
/-- the mark of a text -/
def tagV (r s : Int) (t : List Int) : List Int := by16 (polyT r t + s)
theorem by16_len (v : Int) : (by16 v).length = 16 := by simp [by16]
theorem by16_bytes (v : Int) : AreBytes (by16 v) := fun x hx => by
  obtain ⟨i, -, rfl⟩ := List.mem_map.1 hx
  omega
theorem by16_nth (v : Int) (i : Nat) (h : i < 16) : nth (by16 v) i = v / p256 i % 256 := by
  unfold nth by16
  rw [List.getD_eq_getElem?_getD, List.getElem?_map, List.getElem?_range h]; rfl
theorem polyN_lt (r : Int) (t : List Int) : ∀ n, 0 ≤ polyN r t n ∧ polyN r t n < PP
  | 0 => by unfold polyN PP; omega
  | n + 1 => by
    unfold polyN
    have h : (PP : Int) = 1361129467683753853853498429727072845819 := rfl
    exact ⟨Int.emod_nonneg _ (by rw [h]; decide), Int.emod_lt_of_pos _ (by rw [h]; decide)⟩
end Go.Proofs.YtjldjdlhllgakaaDoor.Ae
