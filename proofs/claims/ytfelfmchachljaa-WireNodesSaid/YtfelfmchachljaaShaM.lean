/- SHA-256 as a function of lists of bytes. -/
import Derived.Test.YtfelfmchachljaaBaseN
namespace Go.Proofs.Ytfelfmchachljaa.Sha
open Go Go.RowKit
open Go.Proofs.Ytfelfmchachljaa.Rely Go.Proofs.Ytfelfmchachljaa.Auto
set_option linter.unusedVariables false

abbrev Wd := BitVec 32
def wv (x : Wd) : Int := (x.toNat : Int)
/-- a word turned right -/
def rr (x : Wd) (n : Nat) : Wd := x <<< (32 - n) ||| x >>> n
structure S8 where
  a : Wd
  b : Wd
  c : Wd
  d : Wd
  e : Wd
  f : Wd
  g : Wd
  h : Wd
def rnd1 (k w : Wd) (s : S8) : Wd := s.h + (rr s.e 6 ^^^ rr s.e 11 ^^^ rr s.e 25) + ((s.e &&& s.f) ^^^ (~~~s.e &&& s.g)) + k + w
def rnd2 (s : S8) : Wd := (rr s.a 2 ^^^ rr s.a 13 ^^^ rr s.a 22) + ((s.a &&& s.b) ^^^ (s.a &&& s.c) ^^^ (s.b &&& s.c))
def rnd (k w : Wd) (s : S8) : S8 := ⟨rnd1 k w s + rnd2 s, s.a, s.b, s.c, s.d + rnd1 k w s, s.e, s.f, s.g⟩
def sig1 (x : Wd) : Wd := rr x 17 ^^^ rr x 19 ^^^ x >>> 10
def sig0 (x : Wd) : Wd := rr x 7 ^^^ rr x 18 ^^^ x >>> 3
def wget (ws : List Wd) (i : Nat) : Wd := ws.getD i 0
/-- the next word of a list of words -/
def wnext (ws : List Wd) : Wd := let i := ws.length; sig1 (wget ws (i - 2)) + wget ws (i - 7) + sig0 (wget ws (i - 15)) + wget ws (i - 16)
def wmore (ws : List Wd) : Nat → List Wd
  | 0 => ws
  | n + 1 => wmore ws n ++ [wnext (wmore ws n)]
def be4 (a b c d : Int) : Wd := BitVec.ofInt 32 (((a * 256 + b) * 256 + c) * 256 + d)
def w16 (b : List Int) : List Wd := (List.range 16).map fun i => be4 (nth b (4 * i)) (nth b (4 * i + 1)) (nth b (4 * i + 2)) (nth b (4 * i + 3))
def w64 (b : List Int) : List Wd := wmore (w16 b) 48
def rnds (K ws : List Wd) (s : S8) : Nat → S8
  | 0 => s
  | n + 1 => rnd (wget K n) (wget ws n) (rnds K ws s n)
def S8.add (s t : S8) : S8 := ⟨s.a + t.a, s.b + t.b, s.c + t.c, s.d + t.d, s.e + t.e, s.f + t.f, s.g + t.g, s.h + t.h⟩
def cubesN : List Nat := [0x428a2f98d728ae22, 0x7137449123ef65cd, 0xb5c0fbcfec4d3b2f, 0xe9b5dba58189dbbc, 0x3956c25bf348b538, 0x59f111f1b605d019, 0x923f82a4af194f9b, 0xab1c5ed5da6d8118, 0xd807aa98a3030242, 0x12835b0145706fbe, 0x243185be4ee4b28c, 0x550c7dc3d5ffb4e2, 0x72be5d74f27b896f, 0x80deb1fe3b1696b1, 0x9bdc06a725c71235, 0xc19bf174cf692694, 0xe49b69c19ef14ad2, 0xefbe4786384f25e3, 0x0fc19dc68b8cd5b5, 0x240ca1cc77ac9c65, 0x2de92c6f592b0275, 0x4a7484aa6ea6e483, 0x5cb0a9dcbd41fbd4, 0x76f988da831153b5, 0x983e5152ee66dfab, 0xa831c66d2db43210, 0xb00327c898fb213f, 0xbf597fc7beef0ee4, 0xc6e00bf33da88fc2, 0xd5a79147930aa725, 0x06ca6351e003826f, 0x142929670a0e6e70, 0x27b70a8546d22ffc, 0x2e1b21385c26c926, 0x4d2c6dfc5ac42aed, 0x53380d139d95b3df, 0x650a73548baf63de, 0x766a0abb3c77b2a8, 0x81c2c92e47edaee6, 0x92722c851482353b, 0xa2bfe8a14cf10364, 0xa81a664bbc423001, 0xc24b8b70d0f89791, 0xc76c51a30654be30, 0xd192e819d6ef5218, 0xd69906245565a910, 0xf40e35855771202a, 0x106aa07032bbd1b8, 0x19a4c116b8d2d0c8, 0x1e376c085141ab53, 0x2748774cdf8eeb99, 0x34b0bcb5e19b48a8, 0x391c0cb3c5c95a63, 0x4ed8aa4ae3418acb, 0x5b9cca4f7763e373, 0x682e6ff3d6b2b8a3, 0x748f82ee5defb2fc, 0x78a5636f43172f60, 0x84c87814a1f0ab72, 0x8cc702081a6439ec, 0x90befffa23631e28, 0xa4506cebde82bde9, 0xbef9a3f7b2c67915, 0xc67178f2e372532b, 0xca273eceea26619c, 0xd186b8c721c0c207, 0xeada7dd6cde0eb1e, 0xf57d4f7fee6ed178, 0x06f067aa72176fba, 0x0a637dc5a2c898a6, 0x113f9804bef90dae, 0x1b710b35131c471b, 0x28db77f523047d84, 0x32caab7b40c72493, 0x3c9ebe0a15c9bebc, 0x431d67c49c100d4c, 0x4cc5d4becb3e42b6, 0x597f299cfc657e2a, 0x5fcb6fab3ad6faec, 0x6c44198c4a475817]
def KK : List Wd := (cubesN.take 64).map fun n => BitVec.ofNat 32 (n / 4294967296)
def S0 : S8 := ⟨0x6a09e667, 0xbb67ae85, 0x3c6ef372, 0xa54ff53a, 0x510e527f, 0x9b05688c, 0x1f83d9ab, 0x5be0cd19⟩
def blk (s : S8) (b : List Int) : S8 := s.add (rnds KK (w64 b) s 64)
/-- the state behind so many whole blocks of a text -/
def absorb (s : S8) (t : List Int) : Nat → S8
  | 0 => s
  | n + 1 => blk (absorb s t n) ((t.drop (64 * n)).take 64)
def S8.l (s : S8) : List Wd := [s.a, s.b, s.c, s.d, s.e, s.f, s.g, s.h]
def wby (x : Wd) : List Int := [((x.toNat / 16777216 % 256 : Nat) : Int), ((x.toNat / 65536 % 256 : Nat) : Int), ((x.toNat / 256 % 256 : Nat) : Int), ((x.toNat / 1 % 256 : Nat) : Int)]
def S8.out (s : S8) : List Int := s.l.flatMap wby
def be8 (n : Nat) : List Int := [((n / 72057594037927936 % 256 : Nat) : Int), ((n / 281474976710656 % 256 : Nat) : Int), ((n / 1099511627776 % 256 : Nat) : Int), ((n / 4294967296 % 256 : Nat) : Int), ((n / 16777216 % 256 : Nat) : Int), ((n / 65536 % 256 : Nat) : Int), ((n / 256 % 256 : Nat) : Int), ((n / 1 % 256 : Nat) : Int)]
def fillN (n : Nat) : Nat := (64 - (n + 9) % 64) % 64
def tailP (n : Nat) : List Int := 128 :: (List.replicate (fillN n) 0 ++ be8 (8 * n))
def padT (t : List Int) : List Int := t ++ tailP t.length
/-- the digest of a text -/
def dig (t : List Int) : List Int := (absorb S0 (padT t) ((padT t).length / 64)).out

/-- a list that is being filled -/
def fill (xs : List Int) (n m : Nat) : List Int := xs.take m ++ List.replicate (n - m) 0
theorem fill_len {xs : List Int} {n m : Nat} (hx : xs.length = n) (hm : m ≤ n) : (fill xs n m).length = n := by
  simp [fill]; omega
theorem fill_zero (xs : List Int) (n : Nat) : fill xs n 0 = List.replicate n 0 := by simp [fill]
theorem fill_full {xs : List Int} {n : Nat} (hx : xs.length = n) : fill xs n n = xs := by simp [fill, ← hx]
theorem fill_set {xs : List Int} {n m : Nat} (hx : xs.length = n) (hm : m < n) : (fill xs n m).set m (nth xs m) = fill xs n (m + 1) := by
  unfold fill
  have e : n - m = (n - (m + 1)) + 1 := by omega
  rw [e, List.replicate_succ]
  have hl : (xs.take m).length = m := by rw [List.length_take]; omega
  rw [List.set_append_right _ _ (by omega), hl, Nat.sub_self, List.set_cons_zero, List.take_add_one, List.getElem?_eq_getElem (by omega), List.append_assoc]
  simp [nth, show m < xs.length by omega]
theorem fill_get {xs : List Int} {n m j : Nat} (hx : xs.length = n) (hm : m ≤ n) (hj : j < m) : nth (fill xs n m) j = nth xs j := by
  unfold fill nth
  rw [List.getD_eq_getElem?_getD, List.getElem?_append_left (by rw [List.length_take]; omega), List.getElem?_take_of_lt hj, ← List.getD_eq_getElem?_getD]
theorem fill_rest {xs : List Int} {n m j : Nat} (hx : xs.length = n) (hm : m ≤ j) : nth (fill xs n m) j = 0 := by
  unfold fill nth
  rw [List.getD_eq_getElem?_getD]
  rcases Nat.lt_or_ge m n with h | h
  · rw [List.getElem?_append_right (by rw [List.length_take]; omega), List.getElem?_replicate]
    split <;> rfl
  · rw [List.getElem?_eq_none (by simp; omega)]; rfl
theorem nth_set_self {xs : List Int} {i : Nat} {v : Int} (h : i < xs.length) : nth (xs.set i v) i = v := by simp [nth, h]
theorem nth_map (ws : List Wd) (i : Nat) : nth (ws.map wv) i = wv (wget ws i) := by
  simp only [nth, wget, List.getD_eq_getElem?_getD, List.getElem?_map]
  cases ws[i]? <;> rfl
/- words as whole numbers -/
theorem wrap32 (x : Int) : IntKind.u32.wrap x = x % 4294967296 := by
  have : IntKind.u32.wrap x = x % 2 ^ 32 := rfl
  rw [this]; rfl
theorem w_add (x y : Wd) : IntKind.u32.wrap (wv x + wv y) = wv (x + y) := by
  rw [wrap32]; unfold wv; rw [BitVec.toNat_add]; omega
theorem wv_lt (x : Wd) : 0 ≤ wv x ∧ wv x < 4294967296 := by unfold wv; have := x.isLt; omega
theorem ofInt_wv (x : Wd) : BitVec.ofInt 32 (wv x) = x := by
  apply BitVec.eq_of_toNat_eq
  have := x.isLt
  simp only [BitVec.toNat_ofInt, wv]
  omega
theorem wv_ofInt (n : Int) : wv (BitVec.ofInt 32 n) = n % 4294967296 := by
  simp only [wv, BitVec.toNat_ofInt]; omega
theorem w_bits (op : BinOp) (x y : Wd) (z : Wd) (h : z = match op with | .and => x &&& y | .or => x ||| y | .xor => x ^^^ y | _ => x &&& ~~~y) : bits op .u32 (wv x) (wv y) = wv z := by
  subst h
  unfold bits
  show IntKind.u32.wrap _ = _
  rw [wrap32]
  have h1 : BitVec.ofInt IntKind.u32.bits (wv x) = x := ofInt_wv x
  have h2 : BitVec.ofInt IntKind.u32.bits (wv y) = y := ofInt_wv y
  simp only [h1, h2]
  cases op <;> (simp only [wv]; exact Int.emod_eq_of_lt (by omega) (Int.ofNat_lt.2 (BitVec.isLt _)))
theorem w_and (x y : Wd) : bits .and .u32 (wv x) (wv y) = wv (x &&& y) := w_bits .and x y _ rfl
theorem w_or (x y : Wd) : bits .or .u32 (wv x) (wv y) = wv (x ||| y) := w_bits .or x y _ rfl
theorem w_xor (x y : Wd) : bits .xor .u32 (wv x) (wv y) = wv (x ^^^ y) := w_bits .xor x y _ rfl
theorem w_shr (x : Wd) (c : Int) (n : Nat) (hc : c = n) (hn : n ≤ 32) : (wv x).fdiv (2 ^ min c.toNat IntKind.u32.bits) = wv (x >>> n) := by
  subst hc
  have hm : min ((n : Int)).toNat IntKind.u32.bits = n := by show min ((n : Int)).toNat 32 = n; omega
  rw [hm, Int.fdiv_eq_ediv_of_nonneg _ (Int.le_of_lt (Int.pow_pos (by decide)))]
  unfold wv
  rw [BitVec.toNat_ushiftRight, Nat.shiftRight_eq_div_pow, Int.natCast_ediv, Int.natCast_pow]
  rfl
theorem w_shl (x : Wd) (c : Int) (n : Nat) (hc : c = n) (hn : n ≤ 32) : IntKind.u32.wrap (wv x * 2 ^ min c.toNat IntKind.u32.bits) = wv (x <<< n) := by
  subst hc
  have hm : min ((n : Int)).toNat IntKind.u32.bits = n := by show min ((n : Int)).toNat 32 = n; omega
  rw [hm, wrap32]
  unfold wv
  rw [BitVec.toNat_shiftLeft, Nat.shiftLeft_eq]
  have e : ((x.toNat : Nat) : Int) * 2 ^ n = ((x.toNat * 2 ^ n : Nat) : Int) := by rw [Int.natCast_mul, Int.natCast_pow]; rfl
  rw [e]; omega
theorem w_not (x : Wd) : IntKind.u32.wrap (4294967295 - wv x) = wv (~~~x) := by
  rw [wrap32]; unfold wv; rw [BitVec.toNat_not]; have := x.isLt; omega
/-- what is turned: parts that don't meet may be added -/
theorem w_turn (x : Wd) (n : Nat) (h : 0 < n) (hn : n < 32) : x >>> n + x <<< (32 - n) = rr x n := by
  unfold rr
  rw [BitVec.or_comm]
  refine BitVec.add_eq_or_of_and_eq_zero _ _ ?_
  apply BitVec.eq_of_getLsbD_eq
  intro i hi
  simp only [BitVec.getLsbD_and, BitVec.getLsbD_ushiftRight, BitVec.getLsbD_shiftLeft, BitVec.getLsbD_zero]
  rcases Nat.lt_or_ge i (32 - n) with h1 | h1
  · simp [h1]
  · rw [BitVec.getLsbD_of_ge _ _ (show 32 ≤ n + i by omega)]; rfl
end Go.Proofs.Ytfelfmchachljaa.Sha
