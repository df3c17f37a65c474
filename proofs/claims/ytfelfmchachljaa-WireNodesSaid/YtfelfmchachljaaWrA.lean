/- The writer: must. -/
import Derived.Test.YtfelfmchachljaaWrK
namespace Go.Proofs.Ytfelfmchachljaa.Wr
open Go Go.RowKit
open Go.Proofs.Ytfelfmchachljaa.Rely Go.Proofs.Ytfelfmchachljaa.Auto Go.Proofs.Ytfelfmchachljaa.Own Go.Proofs.Ytfelfmchachljaa.Sha
set_option linter.unusedVariables false
set_option linter.unusedSimpArgs false

set_option maxHeartbeats 4000000 in
theorem must_B (gw : Nat) (u : Value) (ok : Bool) (w : World) (hg : w.heap[gw]? = some (.cells #[u, .bool true] 174)) : Calls Try.prog 98 #[.pointer (some ⟨gw, 0, none⟩), .bool ok] w (fun e W => e = .returned (.tuple #[]) ∧ ExtB gw w W ∧ W.heap[gw]? = some (.cells (cat [#[u], #[.bool true]]) 174)) := by
  refine enter 15 [(0, .pointer (some ⟨gw, 0, none⟩)), (1, .bool ok)] Try.func98 rfl rfl kj rfl ?_
  refine region_lit ?_
  refine seq_val (.pointer (some ⟨gw, 0, none⟩)) 4 rfl kj kj ?_
  refine seq_val (.pointer (some ⟨gw, 0, none⟩)) 5 rfl kj kj ?_
  refine seq_val (.pointer (some ⟨gw, 0, none⟩)) 6 rfl kj kj ?_
  refine seq_val (.pointer (some ⟨gw, 1, none⟩)) 7 rfl kj kj ?_
  refine seq_val (.bool true) 8 rfl kj (run_loadC1 4 _ gw 1 174 _ (.bool true) _ hg rfl kj kj kj) ?_
  refine seq_val (.bool true) 9 rfl kj kj ?_
  refine seq_skip 10 rfl kj ?_
  refine seq_skip 11 rfl kj ?_
  refine seq_val (.bool true) 12 rfl kj kj ?_
  refine seq_val (.pointer (some ⟨gw, 0, none⟩)) 13 rfl kj kj ?_
  refine seq_val (.pointer (some ⟨gw, 1, none⟩)) 14 rfl kj kj ?_
  refine seq_store gw _ (cat [#[u], #[.bool true]]) 174 hg rfl kj (run_storeC1 4 _ _ gw 1 174 _ (.bool true) hg rfl kj kj kj kj kj rfl) fun W1 p1 r1_1 => ?_
  have x1 : ExtB gw w W1 := ExtB.puts (ExtB.refl gw w) p1
  refine seq_nil ?_
  repeat (first | with_reducible refine goX1 ?_ | with_reducible refine goX2 ?_ | with_reducible refine goX3 ?_)
  exact (show bodyPost _ _ _ .normal _ _ from end0 rfl ⟨rfl, x1, r1_1⟩)
set_option maxHeartbeats 4000000 in
theorem must_G (gw : Nat) (u : Value) (ok : Bool) (w : World) (hg : w.heap[gw]? = some (.cells #[u, .bool false] 174)) : Calls Try.prog 98 #[.pointer (some ⟨gw, 0, none⟩), .bool ok] w (fun e W => e = .returned (.tuple #[]) ∧ ExtB gw w W ∧ W.heap[gw]? = some (.cells (cat [#[u], #[.bool (!ok)]]) 174)) := by
  refine enter 15 [(0, .pointer (some ⟨gw, 0, none⟩)), (1, .bool ok)] Try.func98 rfl rfl kj rfl ?_
  refine region_lit ?_
  refine seq_val (.pointer (some ⟨gw, 0, none⟩)) 4 rfl kj kj ?_
  refine seq_val (.pointer (some ⟨gw, 0, none⟩)) 5 rfl kj kj ?_
  refine seq_val (.pointer (some ⟨gw, 0, none⟩)) 6 rfl kj kj ?_
  refine seq_val (.pointer (some ⟨gw, 1, none⟩)) 7 rfl kj kj ?_
  refine seq_val (.bool false) 8 rfl kj (run_loadC1 4 _ gw 1 174 _ (.bool false) _ hg rfl kj kj kj) ?_
  refine seq_val (.bool false) 9 rfl kj kj ?_
  refine seq_val (.bool ok) 10 rfl kj kj ?_
  refine seq_val (.bool (!ok)) 11 rfl kj kj ?_
  refine seq_val (.bool (!ok)) 12 rfl kj kj ?_
  refine seq_val (.pointer (some ⟨gw, 0, none⟩)) 13 rfl kj kj ?_
  refine seq_val (.pointer (some ⟨gw, 1, none⟩)) 14 rfl kj kj ?_
  refine seq_store gw _ (cat [#[u], #[.bool (!ok)]]) 174 hg rfl kj (run_storeC1 4 _ _ gw 1 174 _ (.bool (!ok)) hg rfl kj kj kj kj kj rfl) fun W1 p1 r1_1 => ?_
  have x1 : ExtB gw w W1 := ExtB.puts (ExtB.refl gw w) p1
  refine seq_nil ?_
  repeat (first | with_reducible refine goX1 ?_ | with_reducible refine goX2 ?_ | with_reducible refine goX3 ?_)
  exact (show bodyPost _ _ _ .normal _ _ from end0 rfl ⟨rfl, x1, r1_1⟩)
theorem mustC (gw : Nat) (u : Value) (bad ok : Bool) (w : World) (hg : w.heap[gw]? = some (.cells #[u, .bool bad] 174)) : Calls Try.prog 98 #[.pointer (some ⟨gw, 0, none⟩), .bool ok] w (fun e W => e = .returned (.tuple #[]) ∧ ExtB gw w W ∧ W.heap[gw]? = some (.cells #[u, .bool (bad || !ok)] 174)) := by
  cases bad with
  | true => exact must_B gw u ok w hg
  | false => exact must_G gw u ok w hg
theorem mustW (base gw : Nat) (s : Option (List Int)) (ok : Bool) (w : World) (h : WSt base gw s w) : Calls Try.prog 98 #[.pointer (some ⟨gw, 0, none⟩), .bool ok] w (fun e W => e = .returned (.tuple #[]) ∧ GW base gw w W ∧ WSt base gw (mustS s ok) W) := by
  obtain ⟨u, xs, bad, h1, h2, h3, h4, rfl⟩ := h
  refine (mustC gw u bad ok w h1).mono fun e W hh => ⟨hh.1, GW.of_but hh.2.1, u, xs, _, hh.2.2, ?_, h3, h4, ?_⟩
  · exact h2.keep fun g hg => hh.2.1.2.2.2.2 g (h2.lt hg) (fun e => nb_typ h2 h1 (by decide) (by rw [hg, e]))
  · cases bad <;> cases ok <;> rfl

end Go.Proofs.Ytfelfmchachljaa.Wr
