/- The bytes of a number, and the number of bytes. -/
import Derived.Test.YtaojnmjmmfdfjaaFieldE
import Derived.LoopN
namespace Go.Proofs.Ytaojnmjmmfdfjaa.Field
open Go Go.RowKit
open Go.Proofs.Ytaojnmjmmfdfjaa.Rely
set_option linter.unusedVariables false

/-- a number's byte -/
def byteAt (n : Int) (i : Nat) : Int := n / 256 ^ i % 256
/-- the first k bytes, and noughts -/
def part (n : Int) (k : Nat) : List Int := (List.range 32).map fun i => if i < k then byteAt n i else 0
def bytesOf (n : Int) : List Int := part n 32

theorem wb0 (x0 x1 x2 x3 : Int) (h0 : isW x0) (h1 : isW x1) (h2 : isW x2) (h3 : isW x3) : x0 / 2 ^ (8 * (0 % 8)) % 256 = byteAt (val x0 x1 x2 x3) 0 := by
  have e : (2 : Int) ^ (8 * (0 % 8)) = 1 := by decide
  have f : (256 : Int) ^ 0 = 1 := by decide
  unfold byteAt
  rw [e, f]
  unfold isW val at *
  omega
theorem wb1 (x0 x1 x2 x3 : Int) (h0 : isW x0) (h1 : isW x1) (h2 : isW x2) (h3 : isW x3) : x0 / 2 ^ (8 * (1 % 8)) % 256 = byteAt (val x0 x1 x2 x3) 1 := by
  have e : (2 : Int) ^ (8 * (1 % 8)) = 256 := by decide
  have f : (256 : Int) ^ 1 = 256 := by decide
  unfold byteAt
  rw [e, f]
  unfold isW val at *
  omega
theorem wb2 (x0 x1 x2 x3 : Int) (h0 : isW x0) (h1 : isW x1) (h2 : isW x2) (h3 : isW x3) : x0 / 2 ^ (8 * (2 % 8)) % 256 = byteAt (val x0 x1 x2 x3) 2 := by
  have e : (2 : Int) ^ (8 * (2 % 8)) = 65536 := by decide
  have f : (256 : Int) ^ 2 = 65536 := by decide
  unfold byteAt
  rw [e, f]
  unfold isW val at *
  omega
theorem wb3 (x0 x1 x2 x3 : Int) (h0 : isW x0) (h1 : isW x1) (h2 : isW x2) (h3 : isW x3) : x0 / 2 ^ (8 * (3 % 8)) % 256 = byteAt (val x0 x1 x2 x3) 3 := by
  have e : (2 : Int) ^ (8 * (3 % 8)) = 16777216 := by decide
  have f : (256 : Int) ^ 3 = 16777216 := by decide
  unfold byteAt
  rw [e, f]
  unfold isW val at *
  omega
theorem wb4 (x0 x1 x2 x3 : Int) (h0 : isW x0) (h1 : isW x1) (h2 : isW x2) (h3 : isW x3) : x0 / 2 ^ (8 * (4 % 8)) % 256 = byteAt (val x0 x1 x2 x3) 4 := by
  have e : (2 : Int) ^ (8 * (4 % 8)) = 4294967296 := by decide
  have f : (256 : Int) ^ 4 = 4294967296 := by decide
  unfold byteAt
  rw [e, f]
  unfold isW val at *
  omega
theorem wb5 (x0 x1 x2 x3 : Int) (h0 : isW x0) (h1 : isW x1) (h2 : isW x2) (h3 : isW x3) : x0 / 2 ^ (8 * (5 % 8)) % 256 = byteAt (val x0 x1 x2 x3) 5 := by
  have e : (2 : Int) ^ (8 * (5 % 8)) = 1099511627776 := by decide
  have f : (256 : Int) ^ 5 = 1099511627776 := by decide
  unfold byteAt
  rw [e, f]
  unfold isW val at *
  omega
theorem wb6 (x0 x1 x2 x3 : Int) (h0 : isW x0) (h1 : isW x1) (h2 : isW x2) (h3 : isW x3) : x0 / 2 ^ (8 * (6 % 8)) % 256 = byteAt (val x0 x1 x2 x3) 6 := by
  have e : (2 : Int) ^ (8 * (6 % 8)) = 281474976710656 := by decide
  have f : (256 : Int) ^ 6 = 281474976710656 := by decide
  unfold byteAt
  rw [e, f]
  unfold isW val at *
  omega
theorem wb7 (x0 x1 x2 x3 : Int) (h0 : isW x0) (h1 : isW x1) (h2 : isW x2) (h3 : isW x3) : x0 / 2 ^ (8 * (7 % 8)) % 256 = byteAt (val x0 x1 x2 x3) 7 := by
  have e : (2 : Int) ^ (8 * (7 % 8)) = 72057594037927936 := by decide
  have f : (256 : Int) ^ 7 = 72057594037927936 := by decide
  unfold byteAt
  rw [e, f]
  unfold isW val at *
  omega
theorem wb8 (x0 x1 x2 x3 : Int) (h0 : isW x0) (h1 : isW x1) (h2 : isW x2) (h3 : isW x3) : x1 / 2 ^ (8 * (8 % 8)) % 256 = byteAt (val x0 x1 x2 x3) 8 := by
  have e : (2 : Int) ^ (8 * (8 % 8)) = 1 := by decide
  have f : (256 : Int) ^ 8 = 18446744073709551616 := by decide
  unfold byteAt
  rw [e, f]
  unfold isW val at *
  omega
theorem wb9 (x0 x1 x2 x3 : Int) (h0 : isW x0) (h1 : isW x1) (h2 : isW x2) (h3 : isW x3) : x1 / 2 ^ (8 * (9 % 8)) % 256 = byteAt (val x0 x1 x2 x3) 9 := by
  have e : (2 : Int) ^ (8 * (9 % 8)) = 256 := by decide
  have f : (256 : Int) ^ 9 = 4722366482869645213696 := by decide
  unfold byteAt
  rw [e, f]
  unfold isW val at *
  omega
theorem wb10 (x0 x1 x2 x3 : Int) (h0 : isW x0) (h1 : isW x1) (h2 : isW x2) (h3 : isW x3) : x1 / 2 ^ (8 * (10 % 8)) % 256 = byteAt (val x0 x1 x2 x3) 10 := by
  have e : (2 : Int) ^ (8 * (10 % 8)) = 65536 := by decide
  have f : (256 : Int) ^ 10 = 1208925819614629174706176 := by decide
  unfold byteAt
  rw [e, f]
  unfold isW val at *
  omega
theorem wb11 (x0 x1 x2 x3 : Int) (h0 : isW x0) (h1 : isW x1) (h2 : isW x2) (h3 : isW x3) : x1 / 2 ^ (8 * (11 % 8)) % 256 = byteAt (val x0 x1 x2 x3) 11 := by
  have e : (2 : Int) ^ (8 * (11 % 8)) = 16777216 := by decide
  have f : (256 : Int) ^ 11 = 309485009821345068724781056 := by decide
  unfold byteAt
  rw [e, f]
  unfold isW val at *
  omega
theorem wb12 (x0 x1 x2 x3 : Int) (h0 : isW x0) (h1 : isW x1) (h2 : isW x2) (h3 : isW x3) : x1 / 2 ^ (8 * (12 % 8)) % 256 = byteAt (val x0 x1 x2 x3) 12 := by
  have e : (2 : Int) ^ (8 * (12 % 8)) = 4294967296 := by decide
  have f : (256 : Int) ^ 12 = 79228162514264337593543950336 := by decide
  unfold byteAt
  rw [e, f]
  unfold isW val at *
  omega
theorem wb13 (x0 x1 x2 x3 : Int) (h0 : isW x0) (h1 : isW x1) (h2 : isW x2) (h3 : isW x3) : x1 / 2 ^ (8 * (13 % 8)) % 256 = byteAt (val x0 x1 x2 x3) 13 := by
  have e : (2 : Int) ^ (8 * (13 % 8)) = 1099511627776 := by decide
  have f : (256 : Int) ^ 13 = 20282409603651670423947251286016 := by decide
  unfold byteAt
  rw [e, f]
  unfold isW val at *
  omega
theorem wb14 (x0 x1 x2 x3 : Int) (h0 : isW x0) (h1 : isW x1) (h2 : isW x2) (h3 : isW x3) : x1 / 2 ^ (8 * (14 % 8)) % 256 = byteAt (val x0 x1 x2 x3) 14 := by
  have e : (2 : Int) ^ (8 * (14 % 8)) = 281474976710656 := by decide
  have f : (256 : Int) ^ 14 = 5192296858534827628530496329220096 := by decide
  unfold byteAt
  rw [e, f]
  unfold isW val at *
  omega
theorem wb15 (x0 x1 x2 x3 : Int) (h0 : isW x0) (h1 : isW x1) (h2 : isW x2) (h3 : isW x3) : x1 / 2 ^ (8 * (15 % 8)) % 256 = byteAt (val x0 x1 x2 x3) 15 := by
  have e : (2 : Int) ^ (8 * (15 % 8)) = 72057594037927936 := by decide
  have f : (256 : Int) ^ 15 = 1329227995784915872903807060280344576 := by decide
  unfold byteAt
  rw [e, f]
  unfold isW val at *
  omega
theorem wb16 (x0 x1 x2 x3 : Int) (h0 : isW x0) (h1 : isW x1) (h2 : isW x2) (h3 : isW x3) : x2 / 2 ^ (8 * (16 % 8)) % 256 = byteAt (val x0 x1 x2 x3) 16 := by
  have e : (2 : Int) ^ (8 * (16 % 8)) = 1 := by decide
  have f : (256 : Int) ^ 16 = 340282366920938463463374607431768211456 := by decide
  unfold byteAt
  rw [e, f]
  unfold isW val at *
  omega
theorem wb17 (x0 x1 x2 x3 : Int) (h0 : isW x0) (h1 : isW x1) (h2 : isW x2) (h3 : isW x3) : x2 / 2 ^ (8 * (17 % 8)) % 256 = byteAt (val x0 x1 x2 x3) 17 := by
  have e : (2 : Int) ^ (8 * (17 % 8)) = 256 := by decide
  have f : (256 : Int) ^ 17 = 87112285931760246646623899502532662132736 := by decide
  unfold byteAt
  rw [e, f]
  unfold isW val at *
  omega
theorem wb18 (x0 x1 x2 x3 : Int) (h0 : isW x0) (h1 : isW x1) (h2 : isW x2) (h3 : isW x3) : x2 / 2 ^ (8 * (18 % 8)) % 256 = byteAt (val x0 x1 x2 x3) 18 := by
  have e : (2 : Int) ^ (8 * (18 % 8)) = 65536 := by decide
  have f : (256 : Int) ^ 18 = 22300745198530623141535718272648361505980416 := by decide
  unfold byteAt
  rw [e, f]
  unfold isW val at *
  omega
theorem wb19 (x0 x1 x2 x3 : Int) (h0 : isW x0) (h1 : isW x1) (h2 : isW x2) (h3 : isW x3) : x2 / 2 ^ (8 * (19 % 8)) % 256 = byteAt (val x0 x1 x2 x3) 19 := by
  have e : (2 : Int) ^ (8 * (19 % 8)) = 16777216 := by decide
  have f : (256 : Int) ^ 19 = 5708990770823839524233143877797980545530986496 := by decide
  unfold byteAt
  rw [e, f]
  unfold isW val at *
  omega
theorem wb20 (x0 x1 x2 x3 : Int) (h0 : isW x0) (h1 : isW x1) (h2 : isW x2) (h3 : isW x3) : x2 / 2 ^ (8 * (20 % 8)) % 256 = byteAt (val x0 x1 x2 x3) 20 := by
  have e : (2 : Int) ^ (8 * (20 % 8)) = 4294967296 := by decide
  have f : (256 : Int) ^ 20 = 1461501637330902918203684832716283019655932542976 := by decide
  unfold byteAt
  rw [e, f]
  unfold isW val at *
  omega
theorem wb21 (x0 x1 x2 x3 : Int) (h0 : isW x0) (h1 : isW x1) (h2 : isW x2) (h3 : isW x3) : x2 / 2 ^ (8 * (21 % 8)) % 256 = byteAt (val x0 x1 x2 x3) 21 := by
  have e : (2 : Int) ^ (8 * (21 % 8)) = 1099511627776 := by decide
  have f : (256 : Int) ^ 21 = 374144419156711147060143317175368453031918731001856 := by decide
  unfold byteAt
  rw [e, f]
  unfold isW val at *
  omega
theorem wb22 (x0 x1 x2 x3 : Int) (h0 : isW x0) (h1 : isW x1) (h2 : isW x2) (h3 : isW x3) : x2 / 2 ^ (8 * (22 % 8)) % 256 = byteAt (val x0 x1 x2 x3) 22 := by
  have e : (2 : Int) ^ (8 * (22 % 8)) = 281474976710656 := by decide
  have f : (256 : Int) ^ 22 = 95780971304118053647396689196894323976171195136475136 := by decide
  unfold byteAt
  rw [e, f]
  unfold isW val at *
  omega
theorem wb23 (x0 x1 x2 x3 : Int) (h0 : isW x0) (h1 : isW x1) (h2 : isW x2) (h3 : isW x3) : x2 / 2 ^ (8 * (23 % 8)) % 256 = byteAt (val x0 x1 x2 x3) 23 := by
  have e : (2 : Int) ^ (8 * (23 % 8)) = 72057594037927936 := by decide
  have f : (256 : Int) ^ 23 = 24519928653854221733733552434404946937899825954937634816 := by decide
  unfold byteAt
  rw [e, f]
  unfold isW val at *
  omega
theorem wb24 (x0 x1 x2 x3 : Int) (h0 : isW x0) (h1 : isW x1) (h2 : isW x2) (h3 : isW x3) : x3 / 2 ^ (8 * (24 % 8)) % 256 = byteAt (val x0 x1 x2 x3) 24 := by
  have e : (2 : Int) ^ (8 * (24 % 8)) = 1 := by decide
  have f : (256 : Int) ^ 24 = 6277101735386680763835789423207666416102355444464034512896 := by decide
  unfold byteAt
  rw [e, f]
  unfold isW val at *
  omega
theorem wb25 (x0 x1 x2 x3 : Int) (h0 : isW x0) (h1 : isW x1) (h2 : isW x2) (h3 : isW x3) : x3 / 2 ^ (8 * (25 % 8)) % 256 = byteAt (val x0 x1 x2 x3) 25 := by
  have e : (2 : Int) ^ (8 * (25 % 8)) = 256 := by decide
  have f : (256 : Int) ^ 25 = 1606938044258990275541962092341162602522202993782792835301376 := by decide
  unfold byteAt
  rw [e, f]
  unfold isW val at *
  omega
theorem wb26 (x0 x1 x2 x3 : Int) (h0 : isW x0) (h1 : isW x1) (h2 : isW x2) (h3 : isW x3) : x3 / 2 ^ (8 * (26 % 8)) % 256 = byteAt (val x0 x1 x2 x3) 26 := by
  have e : (2 : Int) ^ (8 * (26 % 8)) = 65536 := by decide
  have f : (256 : Int) ^ 26 = 411376139330301510538742295639337626245683966408394965837152256 := by decide
  unfold byteAt
  rw [e, f]
  unfold isW val at *
  omega
theorem wb27 (x0 x1 x2 x3 : Int) (h0 : isW x0) (h1 : isW x1) (h2 : isW x2) (h3 : isW x3) : x3 / 2 ^ (8 * (27 % 8)) % 256 = byteAt (val x0 x1 x2 x3) 27 := by
  have e : (2 : Int) ^ (8 * (27 % 8)) = 16777216 := by decide
  have f : (256 : Int) ^ 27 = 105312291668557186697918027683670432318895095400549111254310977536 := by decide
  unfold byteAt
  rw [e, f]
  unfold isW val at *
  omega
theorem wb28 (x0 x1 x2 x3 : Int) (h0 : isW x0) (h1 : isW x1) (h2 : isW x2) (h3 : isW x3) : x3 / 2 ^ (8 * (28 % 8)) % 256 = byteAt (val x0 x1 x2 x3) 28 := by
  have e : (2 : Int) ^ (8 * (28 % 8)) = 4294967296 := by decide
  have f : (256 : Int) ^ 28 = 26959946667150639794667015087019630673637144422540572481103610249216 := by decide
  unfold byteAt
  rw [e, f]
  unfold isW val at *
  omega
theorem wb29 (x0 x1 x2 x3 : Int) (h0 : isW x0) (h1 : isW x1) (h2 : isW x2) (h3 : isW x3) : x3 / 2 ^ (8 * (29 % 8)) % 256 = byteAt (val x0 x1 x2 x3) 29 := by
  have e : (2 : Int) ^ (8 * (29 % 8)) = 1099511627776 := by decide
  have f : (256 : Int) ^ 29 = 6901746346790563787434755862277025452451108972170386555162524223799296 := by decide
  unfold byteAt
  rw [e, f]
  unfold isW val at *
  omega
theorem wb30 (x0 x1 x2 x3 : Int) (h0 : isW x0) (h1 : isW x1) (h2 : isW x2) (h3 : isW x3) : x3 / 2 ^ (8 * (30 % 8)) % 256 = byteAt (val x0 x1 x2 x3) 30 := by
  have e : (2 : Int) ^ (8 * (30 % 8)) = 281474976710656 := by decide
  have f : (256 : Int) ^ 30 = 1766847064778384329583297500742918515827483896875618958121606201292619776 := by decide
  unfold byteAt
  rw [e, f]
  unfold isW val at *
  omega
theorem wb31 (x0 x1 x2 x3 : Int) (h0 : isW x0) (h1 : isW x1) (h2 : isW x2) (h3 : isW x3) : x3 / 2 ^ (8 * (31 % 8)) % 256 = byteAt (val x0 x1 x2 x3) 31 := by
  have e : (2 : Int) ^ (8 * (31 % 8)) = 72057594037927936 := by decide
  have f : (256 : Int) ^ 31 = 452312848583266388373324160190187140051835877600158453279131187530910662656 := by decide
  unfold byteAt
  rw [e, f]
  unfold isW val at *
  omega
theorem word_at (x0 x1 x2 x3 n : Int) (h0 : isW x0) (h1 : isW x1) (h2 : isW x2) (h3 : isW x3) (e : val x0 x1 x2 x3 = n) (k : Nat) (hk : k < 32) :
    ∃ y, isW y ∧ (#[Value.int .u64 x0, .int .u64 x1, .int .u64 x2, .int .u64 x3] : Array Value)[k / 8]? = some (.int .u64 y) ∧ y / 2 ^ (8 * (k % 8)) % 256 = byteAt n k := by
  subst e
  rcases (by omega : k = 0 ∨ k = 1 ∨ k = 2 ∨ k = 3 ∨ k = 4 ∨ k = 5 ∨ k = 6 ∨ k = 7 ∨ k = 8 ∨ k = 9 ∨ k = 10 ∨ k = 11 ∨ k = 12 ∨ k = 13 ∨ k = 14 ∨ k = 15 ∨ k = 16 ∨ k = 17 ∨ k = 18 ∨ k = 19 ∨ k = 20 ∨ k = 21 ∨ k = 22 ∨ k = 23 ∨ k = 24 ∨ k = 25 ∨ k = 26 ∨ k = 27 ∨ k = 28 ∨ k = 29 ∨ k = 30 ∨ k = 31) with rfl | rfl | rfl | rfl | rfl | rfl | rfl | rfl | rfl | rfl | rfl | rfl | rfl | rfl | rfl | rfl | rfl | rfl | rfl | rfl | rfl | rfl | rfl | rfl | rfl | rfl | rfl | rfl | rfl | rfl | rfl | rfl
  · exact ⟨x0, h0, rfl, wb0 x0 x1 x2 x3 h0 h1 h2 h3⟩
  · exact ⟨x0, h0, rfl, wb1 x0 x1 x2 x3 h0 h1 h2 h3⟩
  · exact ⟨x0, h0, rfl, wb2 x0 x1 x2 x3 h0 h1 h2 h3⟩
  · exact ⟨x0, h0, rfl, wb3 x0 x1 x2 x3 h0 h1 h2 h3⟩
  · exact ⟨x0, h0, rfl, wb4 x0 x1 x2 x3 h0 h1 h2 h3⟩
  · exact ⟨x0, h0, rfl, wb5 x0 x1 x2 x3 h0 h1 h2 h3⟩
  · exact ⟨x0, h0, rfl, wb6 x0 x1 x2 x3 h0 h1 h2 h3⟩
  · exact ⟨x0, h0, rfl, wb7 x0 x1 x2 x3 h0 h1 h2 h3⟩
  · exact ⟨x1, h1, rfl, wb8 x0 x1 x2 x3 h0 h1 h2 h3⟩
  · exact ⟨x1, h1, rfl, wb9 x0 x1 x2 x3 h0 h1 h2 h3⟩
  · exact ⟨x1, h1, rfl, wb10 x0 x1 x2 x3 h0 h1 h2 h3⟩
  · exact ⟨x1, h1, rfl, wb11 x0 x1 x2 x3 h0 h1 h2 h3⟩
  · exact ⟨x1, h1, rfl, wb12 x0 x1 x2 x3 h0 h1 h2 h3⟩
  · exact ⟨x1, h1, rfl, wb13 x0 x1 x2 x3 h0 h1 h2 h3⟩
  · exact ⟨x1, h1, rfl, wb14 x0 x1 x2 x3 h0 h1 h2 h3⟩
  · exact ⟨x1, h1, rfl, wb15 x0 x1 x2 x3 h0 h1 h2 h3⟩
  · exact ⟨x2, h2, rfl, wb16 x0 x1 x2 x3 h0 h1 h2 h3⟩
  · exact ⟨x2, h2, rfl, wb17 x0 x1 x2 x3 h0 h1 h2 h3⟩
  · exact ⟨x2, h2, rfl, wb18 x0 x1 x2 x3 h0 h1 h2 h3⟩
  · exact ⟨x2, h2, rfl, wb19 x0 x1 x2 x3 h0 h1 h2 h3⟩
  · exact ⟨x2, h2, rfl, wb20 x0 x1 x2 x3 h0 h1 h2 h3⟩
  · exact ⟨x2, h2, rfl, wb21 x0 x1 x2 x3 h0 h1 h2 h3⟩
  · exact ⟨x2, h2, rfl, wb22 x0 x1 x2 x3 h0 h1 h2 h3⟩
  · exact ⟨x2, h2, rfl, wb23 x0 x1 x2 x3 h0 h1 h2 h3⟩
  · exact ⟨x3, h3, rfl, wb24 x0 x1 x2 x3 h0 h1 h2 h3⟩
  · exact ⟨x3, h3, rfl, wb25 x0 x1 x2 x3 h0 h1 h2 h3⟩
  · exact ⟨x3, h3, rfl, wb26 x0 x1 x2 x3 h0 h1 h2 h3⟩
  · exact ⟨x3, h3, rfl, wb27 x0 x1 x2 x3 h0 h1 h2 h3⟩
  · exact ⟨x3, h3, rfl, wb28 x0 x1 x2 x3 h0 h1 h2 h3⟩
  · exact ⟨x3, h3, rfl, wb29 x0 x1 x2 x3 h0 h1 h2 h3⟩
  · exact ⟨x3, h3, rfl, wb30 x0 x1 x2 x3 h0 h1 h2 h3⟩
  · exact ⟨x3, h3, rfl, wb31 x0 x1 x2 x3 h0 h1 h2 h3⟩
theorem part_get (n : Int) (k : Nat) (hk : k < 32) : (ints .u8 (part n k))[k]? = some (.int .u8 0) := by
  rw [ints_get _ _ _ (by simp [part, hk])]
  simp [nth, part, hk]
theorem part_set (n : Int) (k : Nat) (hk : k < 32) : (ints .u8 (part n k)).setIfInBounds k (.int .u8 (byteAt n k)) = ints .u8 (part n (k + 1)) := by
  rw [ints_set]
  congr 1
  apply List.ext_getElem
  · simp [part]
  · intro i h1 h2
    simp only [part, List.getElem_set, List.getElem_map, List.getElem_range]
    by_cases hi : k = i
    · subst hi; simp
    · simp only [hi, if_false]
      by_cases hl : i < k
      · rw [if_pos hl, if_pos (by omega)]
      · rw [if_neg hl, if_neg (by omega)]

theorem alloc3_mid (w : World) (a b c : Obj) : (((w.alloc a).alloc b).alloc c).heap[w.heap.size + 1]? = some b := by
  rw [Below.heap_alloc _ _ _ (by simp)]
  have := heap_alloc_new (w.alloc a) b
  simpa using this
theorem infoKey : (Try.prog.info? 23).map (·.size) = some 32 := by kernel_rfl
theorem ints_one (k : IntKind) (xs : List Int) : (ints k xs).all (·.oneCell') = true := by simp [ints, Value.oneCell']
theorem bytes (n : Int) (hn : isN n) (w : World) : Calls Try.prog 48 #[num n] w (Ret w (.agg (ints .u8 (bytesOf n)))) := by
  obtain ⟨x0, x1, x2, x3, wx0, wx1, wx2, wx3, ex, eX⟩ := num_open n hn
  rw [eX]
  clear eX
  unfold words
  go_enter Try.func48, Try.ntmps48
  go_wp2_with fail
  go_loopw [5] (fun i wr => ∃ k : Nat, k ≤ 32 ∧ i = .int .i64 k ∧ ∃ b, b.size = 32 ∧ wr = ((w.alloc (.cells #[.int .u64 x0, .int .u64 x1, .int .u64 x2, .int .u64 x3] 29)).alloc (.cells b 23)).alloc (.cells (ints .u8 (part n k)) 23)) (fun i _ => 32 - (intOf i).toNat)
  case atStart => exact ⟨0, by omega, rfl, _, rfl, rfl⟩
  case round =>
    obtain ⟨k, hk, rfl, b, hbs, rfl⟩ := hrel
    by_cases hlt : k < 32
    · obtain ⟨y, wy, hy, hby⟩ := word_at x0 x1 x2 x3 n wx0 wx1 wx2 wx3 ex k hlt
      have hg := part_get n k hlt
      have hs := part_set n k hlt
      go_wp2
      exact ⟨⟨k + 1, by omega, by go_num, b, hbs, rfl⟩, by simp [intOf]; omega⟩
    · obtain rfl : k = 32 := by omega
      have hi : (Try.prog.info? 23).map (·.size) = some (ints .u8 (bytesOf n)).size := by rw [infoKey, ints_size]; rfl
      have hbl : b.size = (ints .u8 (bytesOf n)).size := by rw [hbs, ints_size]; rfl
      go_wp2_with first
        | (with_reducible show wpList _ _ _ ((⟨_, .load 23 _, _, _, _, _⟩ : Oper) :: _) _ _
           refine wpList_load_row rfl 23 _ rfl (w.heap.size + 2) rfl 23 (ints .u8 (bytesOf n)) (0, 0) _ (alloc3_new _ _ _ _) Try.underlying23 rfl hi ?_)
        | (with_reducible show wpList _ _ _ ((⟨_, .store 23 _ _, _, _, _, _⟩ : Oper) :: _) _ _
           refine wpList_store_row rfl 23 _ _ rfl (w.heap.size + 1) (ints .u8 (bytesOf n)) rfl rfl 23 _ (alloc3_mid _ _ _ _) hi hbl (ints_one _ _) ?_)
      exact bodyPost_ret (v := .agg (ints .u8 (bytesOf n))) (results_cell_row (p := 2) rfl _ _ (w.heap.size + 1) 23 (ints .u8 (bytesOf n)) (0, 0) _ rfl (setRow_heap _ _ _ _ _ _ (alloc3_mid _ _ _ _)) Try.underlying23 rfl hi) rfl ⟨rfl, below_setRow (ext3 _ _ _ _) (by omega) _⟩
end Go.Proofs.Ytaojnmjmmfdfjaa.Field
