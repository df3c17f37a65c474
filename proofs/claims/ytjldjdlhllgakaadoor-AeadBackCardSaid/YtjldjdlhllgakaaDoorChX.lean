/- ChaCha20: what is mixed twice, begun, parted. -/
import Derived.Test.YtjldjdlhllgakaaDoorChM
import Derived.Test.YtjldjdlhllgakaaDoorNumK
namespace Go.Proofs.YtjldjdlhllgakaaDoor.Cha
open Go Go.RowKit
open Go.Proofs.YtjldjdlhllgakaaDoor.Rely Go.Proofs.YtjldjdlhllgakaaDoor.Auto Go.Proofs.YtjldjdlhllgakaaDoor.Own Go.Proofs.YtjldjdlhllgakaaDoor.Sha
set_option linter.unusedVariables false
set_option linter.unusedSimpArgs false

open Go.Proofs.YtjldjdlhllgakaaDoor.Sha
theorem bits8 (x y : Int) : bits .xor .u8 x y = (((BitVec.ofInt 8 x) ^^^ (BitVec.ofInt 8 y)).toNat : Int) := by
  have h : bits .xor .u8 x y = IntKind.u8.wrap (((BitVec.ofInt 8 x) ^^^ (BitVec.ofInt 8 y)).toNat : Int) := rfl
  have h3 : ∀ z : Int, IntKind.u8.wrap z = z % 256 := fun _ => rfl
  rw [h, h3]
  have := ((BitVec.ofInt 8 x) ^^^ (BitVec.ofInt 8 y)).isLt
  omega
theorem bits8_back (a b : Int) (h0 : 0 ≤ a) (h1 : a ≤ 255) : bits .xor .u8 (bits .xor .u8 a b) b = a := by
  rw [bits8, bits8]
  have e : BitVec.ofInt 8 (((BitVec.ofInt 8 a) ^^^ (BitVec.ofInt 8 b)).toNat : Int) = (BitVec.ofInt 8 a) ^^^ (BitVec.ofInt 8 b) := by
    apply BitVec.eq_of_toNat_eq
    rw [BitVec.toNat_ofInt]
    have := ((BitVec.ofInt 8 a) ^^^ (BitVec.ofInt 8 b)).isLt
    omega
  rw [e, BitVec.xor_assoc, BitVec.xor_self, BitVec.xor_zero, BitVec.toNat_ofInt]
  omega
theorem mixV_bytes (ws : List Wd) (num : Int) (text : List Int) : AreBytes (mixV ws num text) := fun n hn => by
  unfold mixV mxv at hn
  obtain ⟨i, -, rfl⟩ := List.mem_map.1 hn
  rw [bits8]
  have := ((BitVec.ofInt 8 (nth text i)) ^^^ (BitVec.ofInt 8 (nth (pieceV ws (num + ((id (i / 64) : Nat) : Int))) (i % 64)))).isLt
  omega
theorem mixV_nth (ws : List Wd) (num : Int) (text : List Int) (i : Nat) (h : i < text.length) : nth (mixV ws num text) i = bits .xor .u8 (nth text i) (nth (pieceV ws (num + ((i / 64 : Nat) : Int))) (i % 64)) := mxv_nth text ws num id text.length i h
theorem nth_ext {xs ys : List Int} (hl : xs.length = ys.length) (h : ∀ i, i < xs.length → nth xs i = nth ys i) : xs = ys := by
  apply List.ext_getElem? 
  intro i
  rcases Nat.lt_or_ge i xs.length with hi | hi
  · have h1 := h i hi
    unfold nth at h1
    rw [List.getD_eq_getElem?_getD, List.getD_eq_getElem?_getD, List.getElem?_eq_getElem hi, List.getElem?_eq_getElem (by omega)] at h1
    rw [List.getElem?_eq_getElem hi, List.getElem?_eq_getElem (by omega)]
    exact congrArg some h1
  · rw [List.getElem?_eq_none hi, List.getElem?_eq_none (by omega)]
/-- mixed twice a text is as it was -/
theorem mix_mix (ws : List Wd) (num : Int) (text : List Int) (hb : AreBytes text) : mixV ws num (mixV ws num text) = text := by
  refine nth_ext (by rw [mixV_len, mixV_len]) fun i hi => ?_
  rw [mixV_len, mixV_len] at hi
  rw [mixV_nth _ _ _ _ (by rw [mixV_len]; exact hi), mixV_nth _ _ _ _ hi]
  have h := bytes_nth hb i
  exact bits8_back _ _ (by omega) (by omega)
theorem nth_take (xs : List Int) (k i : Nat) (h : i < k) : nth (xs.take k) i = nth xs i := by
  unfold nth; rw [List.getD_eq_getElem?_getD, List.getD_eq_getElem?_getD, List.getElem?_take, if_pos h]
theorem nth_drop (xs : List Int) (k i : Nat) : nth (xs.drop k) i = nth xs (k + i) := by
  unfold nth; rw [List.getD_eq_getElem?_getD, List.getD_eq_getElem?_getD, List.getElem?_drop]
theorem mix_take (ws : List Wd) (num : Int) (text : List Int) (k : Nat) (hk : k ≤ text.length) : mixV ws num (text.take k) = (mixV ws num text).take k := by
  refine nth_ext (by rw [mixV_len, List.length_take, List.length_take, mixV_len]) fun i hi => ?_
  rw [mixV_len, List.length_take] at hi
  rw [mixV_nth _ _ _ _ (by rw [List.length_take]; exact hi), nth_take _ _ _ (by omega), nth_take _ _ _ (by omega), mixV_nth _ _ _ _ (by omega)]
theorem mix_join (ws : List Wd) (num : Int) (text : List Int) (q : Nat) (hq : 64 * q ≤ text.length) : mixV ws num text = mixV ws num (text.take (64 * q)) ++ mixV ws (num + ((q : Nat) : Int)) (text.drop (64 * q)) := by
  have hl : (text.take (64 * q)).length = 64 * q := by rw [List.length_take]; omega
  refine nth_ext (by rw [List.length_append, mixV_len, mixV_len, mixV_len, hl, List.length_drop]; omega) fun i hi => ?_
  rw [mixV_len] at hi
  rw [mixV_nth _ _ _ _ hi]
  rcases Nat.lt_or_ge i (64 * q) with h | h
  · have e : nth (mixV ws num (text.take (64 * q)) ++ mixV ws (num + ((q : Nat) : Int)) (text.drop (64 * q))) i = nth (mixV ws num (text.take (64 * q))) i := by
      unfold nth; rw [List.getD_eq_getElem?_getD, List.getD_eq_getElem?_getD, List.getElem?_append_left (by rw [mixV_len, hl]; exact h)]
    rw [e, mixV_nth _ _ _ _ (by rw [hl]; exact h), nth_take _ _ _ h]
  · have e : nth (mixV ws num (text.take (64 * q)) ++ mixV ws (num + ((q : Nat) : Int)) (text.drop (64 * q))) i = nth (mixV ws (num + ((q : Nat) : Int)) (text.drop (64 * q))) (i - 64 * q) := by
      unfold nth; rw [List.getD_eq_getElem?_getD, List.getD_eq_getElem?_getD, List.getElem?_append_right (by rw [mixV_len, hl]; exact h), mixV_len, hl]
    rw [e, mixV_nth _ _ _ _ (by rw [List.length_drop]; omega), nth_drop, show 64 * q + (i - 64 * q) = i by omega, show (i - 64 * q) % 64 = i % 64 by omega, show num + ((q : Nat) : Int) + (((i - 64 * q) / 64 : Nat) : Int) = num + ((i / 64 : Nat) : Int) by omega]
def MixR (base : Nat) (xs : List Int) : Value → World → Prop := fun v W => ∃ u, v = .tuple #[u, .nilIface] ∧ OwnN .u8 5 base xs u W
theorem mixR_stable (base : Nat) (xs : List Int) : Stable Ext (MixR base xs) := fun _ _ _ hR ⟨u, e, h⟩ => ⟨u, e, h.ext hR⟩
theorem MixG (n0 : Nat) (key nonce text : List Int) (v v2 : Value) (B B2 : Nat) (number : Int) (th tq : TypeId) (w : World) (hh : w.heap[0]? = some (.cells (ints .u32 [1634760805, 857760878, 2036477234, 1797285236]) th)) (hq : w.heap[1]? = some (.cells (ints .i64 [0, 4, 8, 12, 1, 5, 9, 13, 2, 6, 10, 14, 3, 7, 11, 15, 0, 5, 10, 15, 1, 6, 11, 12, 2, 7, 8, 13, 3, 4, 9, 14]) tq)) (hkl : key.length = 32) (hn : RdK .u8 B nonce v w) (ht : RdK .u8 B2 text v2 w) (h : nonce.length = 12) (r : Nat) (hr : number + (r : Int) = 4294967296) (h1 : 0 ≤ number) (h2 : number ≤ 4294967295) (hfit : text.length ≤ 64 * r) (htl : text.length ≤ 2000000) (hn0 : n0 ≤ w.heap.size) :
    Calls Tryd.prog 32 #[.agg (ints .u8 key), v, .int .i64 number, v2] w (Gives w (MixR n0 (mixV (startW key nonce) number text))) :=
  (Mix_D key nonce text v v2 B B2 number th tq w hh hq hkl hn ht h r hr h1 h2 hfit htl).mono fun e W' hg => by
    obtain ⟨v', e1, e2, u, e3, e4⟩ := hg
    exact ⟨v', e1, e2, u, e3, e4.base hn0⟩
theorem cat_st (A : List Value) (x y z : Value) : (A ++ [x] ++ [y] ++ [z]).toArray = cat [A.toArray, #[x], #[y], #[z]] := by
  apply Array.ext'
  simp [cat]
theorem u64n (n : Nat) (hn : n < 18446744073709551616) : IntKind.u64.wrap ((n : Nat) : Int) = ((n : Nat) : Int) := by
  have : ∀ z : Int, IntKind.u64.wrap z = z % 2 ^ 64 := fun _ => rfl
  rw [this]; omega
theorem b_remS {P : Program} {w : World} (t : TypeId) (k : IntKind) (a b r : Int) (hb : b ≠ 0) (h : a.tmod b = r) : (binOp .rem t (.int k a) (.int k b)).run P w = .ok (.int k r) w := by
  subst h
  unfold binOp Op.intDiv
  simp [hb]

end Go.Proofs.YtjldjdlhllgakaaDoor.Cha
