/-
  DERIVED. GIVEN WITH THE SEED: THE PROGRAM's TIES (one call each: nine closed facts by the kernel) AND EACH ROW's TIE, after the 31st guide's Derived/Test/Toyas{Tie, Card}.lean. No idea stands in it: it is a product of the set-up. Laid BY PROGRAM, IN A SANDBOX (cutbox-door.mjs). By AI agents, Wed Nov 11 2026. No macro, syntax, notation, axiom, sorry.
-/
import Derived.Test.YtbonglpnkoegoaaGreatDoorRows
import Derived.LaidByTextLater
import Derived.SevenTiedAt
import Derived.LaidSub
import Derived.LaidOnce
namespace Go.Proofs.YtbonglpnkoegoaaGreatDoor
open Go
set_option maxRecDepth 100000
theorem seatTie1 : Tryz.prog.laidByTextLater [("math/bits.deBruijn64tab", Rows.laid_math_bits_deBruijn64tab), ("burrow/sha.cubes", Rows.laid_burrow_sha_cubes), ("burrow/sha.squares", Rows.laid_burrow_sha_squares), ("burrow/chacha.heads", Rows.laid_burrow_chacha_heads), ("burrow/chacha.quarters", Rows.laid_burrow_chacha_quarters)] [.data, .data, .data, .data, .data] true :=
  Program.laidByTextLater_by_one 42 8 81 (by kernel_rfl) (by kernel_rfl) (by kernel_rfl) (by kernel_rfl) (by kernel_rfl) (by kernel_rfl) (fun _ _ => by kernel_rfl)
theorem noOwnUnsafe : Tryz.pinned.checked.prog.headLifts.contains "ownunsafe" = false := by kernel_rfl
theorem tie : Tryz.prog.laidByTextLater [("math/bits.deBruijn64tab", Rows.laid_math_bits_deBruijn64tab), ("burrow/sha.cubes", Rows.laid_burrow_sha_cubes), ("burrow/sha.squares", Rows.laid_burrow_sha_squares), ("burrow/chacha.heads", Rows.laid_burrow_chacha_heads), ("burrow/chacha.quarters", Rows.laid_burrow_chacha_quarters)] [.data, .data, .data, .data, .data] true :=
  Program.laidByTextLater.sub seatTie1 ["math/bits.deBruijn64tab", "burrow/sha.cubes", "burrow/sha.squares", "burrow/chacha.heads", "burrow/chacha.quarters"] (by kernel_rfl) (by kernel_rfl)
theorem packetMay_row_tie : Rows.packetMayRow.laidByTextAt .later Tryz.pinned [.data, .data, .data, .data, .data] true :=
  OpenClaim.laidByTextAt_later rfl rfl tie noOwnUnsafe
theorem packetMayUpto_row_tie : Rows.packetMayUptoRow.laidByTextAt .later Tryz.pinned [.data, .data, .data, .data, .data] true :=
  OpenClaim.laidByTextAt_later rfl rfl tie noOwnUnsafe
end Go.Proofs.YtbonglpnkoegoaaGreatDoor
