/- Labelled secrets that are refused. -/
import Derived.Test.YtamlhbbphnamnaaDoorKexG
namespace Go.Proofs.YtamlhbbphnamnaaDoor.Sha
open Go Go.RowKit
open Go.Proofs.YtamlhbbphnamnaaDoor.Rely Go.Proofs.YtamlhbbphnamnaaDoor.Auto Go.Proofs.YtamlhbbphnamnaaDoor.Own
set_option linter.unusedVariables false
set_option linter.unusedSimpArgs false

theorem labelN (sec ctx : List Int) (s : ByteArray) (v2 : Value) (B2 : Nat) (tc tq : TypeId) (w : World) (hc : w.heap[1]? = some (.cells (ints .u64 cubesI) tc)) (hq : w.heap[0]? = some (.cells (ints .u64 squaresI) tq)) (hsl : sec.length = 32) (hsb : AreBytes sec) (hxb : AreBytes ctx) (hx : RdK .u8 B2 ctx v2 w) (n : Int) (h : n < 0 ∨ 8160 < n ∨ 255 < (strB s).length ∨ 65536 < ctx.length) : Calls Tryd.prog 47 #[.agg (ints .u8 sec), .string s, v2, .int .i64 n] w (Ret w (.tuple #[.slice none 0 0, .iface 38 (.int .i64 4)])) := by
  by_cases h1 : n < 0
  · exact label_A sec ctx s v2 B2 tc tq w hc hq hsl hsb hxb hx n h1
  by_cases h2 : 8160 < n
  · exact label_B sec ctx s v2 B2 tc tq w hc hq hsl hsb hxb hx n (by omega) h2
  by_cases h3 : 255 < (strB s).length
  · exact label_C sec ctx s v2 B2 tc tq w hc hq hsl hsb hxb hx n (by omega) (by omega) h3
  · exact label_D sec ctx s v2 B2 tc tq w hc hq hsl hsb hxb hx n (by omega) (by omega) (by omega) (by omega)
theorem rlabelN (sec ctx : List Int) (s : ByteArray) (v2 : Value) (B2 : Nat) (w : World)   (hsl : sec.length = 32) (hsb : AreBytes sec) (hxb : AreBytes ctx) (hx : RdK .u8 B2 ctx v2 w) (n : Int) (h : n < 0 ∨ 8160 < n ∨ 255 < (strB s).length ∨ 65536 < ctx.length) : Calls Tryd.prog 48 #[.agg (ints .u8 sec), .string s, v2, .int .i64 n] w (Ret w (.tuple #[.slice none 0 0, .bool false])) := by
  by_cases h1 : 255 < (strB s).length
  · exact rlabel_A sec ctx s v2 B2 w hsl hsb hxb hx n h1
  by_cases h2 : 65536 < ctx.length
  · exact rlabel_B sec ctx s v2 B2 w hsl hsb hxb hx n (by omega) h2
  by_cases h3 : n < 0
  · exact rlabel_C sec ctx s v2 B2 w hsl hsb hxb hx n (by omega) (by omega) h3
  · exact rlabel_D sec ctx s v2 B2 w hsl hsb hxb hx n (by omega) (by omega) (by omega) (by omega)

end Go.Proofs.YtamlhbbphnamnaaDoor.Sha
