/- ChaCha20: a mixed text. -/
import Derived.Test.YtjldjdlhllgakaaDoorChQ
namespace Go.Proofs.YtjldjdlhllgakaaDoor.Cha
open Go Go.RowKit
open Go.Proofs.YtjldjdlhllgakaaDoor.Rely Go.Proofs.YtjldjdlhllgakaaDoor.Auto Go.Proofs.YtjldjdlhllgakaaDoor.Own Go.Proofs.YtjldjdlhllgakaaDoor.Sha
set_option linter.unusedVariables false
set_option linter.unusedSimpArgs false

open Go.Proofs.YtjldjdlhllgakaaDoor.Sha
theorem bytes_nth {b : List Int} (h : AreBytes b) (j : Nat) : 0 ≤ nth b j ∧ nth b j < 256 := by
  unfold nth
  rw [List.getD_eq_getElem?_getD]
  rcases Nat.lt_or_ge j b.length with hj | hj
  · rw [List.getElem?_eq_getElem hj]
    have h1 := h _ (List.getElem_mem hj)
    show 0 ≤ b[j] ∧ b[j] < 256
    omega
  · rw [List.getElem?_eq_none hj]; decide
/-- so much of a text, mixed with the pieces that f says -/
def mxv (text : List Int) (ws : List Wd) (num : Int) (f : Nat → Nat) (m : Nat) : List Int := (List.range m).map fun i => bits .xor .u8 (nth text i) (nth (pieceV ws (num + ((f (i / 64) : Nat) : Int))) (i % 64))
/-- a text, mixed -/
def mixV (ws : List Wd) (num : Int) (text : List Int) : List Int := mxv text ws num id text.length
theorem mxv_len (text : List Int) (ws : List Wd) (num : Int) (f : Nat → Nat) (m : Nat) : (mxv text ws num f m).length = m := by simp [mxv]
theorem mxv_succ (text : List Int) (ws : List Wd) (num : Int) (f : Nat → Nat) (m : Nat) : mxv text ws num f (m + 1) = mxv text ws num f m ++ [bits .xor .u8 (nth text m) (nth (pieceV ws (num + ((f (m / 64) : Nat) : Int))) (m % 64))] := by simp [mxv, List.range_succ]
end Go.Proofs.YtjldjdlhllgakaaDoor.Cha
