/- How long a slice is whose reading is of a given bulk. -/
import Derived.Test.YtamlhbbphnamnaaDoorRows
namespace Go.Proofs.YtamlhbbphnamnaaDoor.Auto
open Go
theorem bulk_pos {H : Type} (d : DataW H) : 0 < Rows.uptoBulk d := by
  cases d with
  | lit l => cases l <;> simp [Rows.uptoBulk]
  | _ => simp [Rows.uptoBulk]
theorem bulk_len {H : Type} : ∀ l : List (DataW H), l.length ≤ Rows.uptoBulkAll l
  | [] => Nat.zero_le _
  | d :: r => by
    have h1 := bulk_pos d
    have h2 := bulk_len r
    simp only [Rows.uptoBulkAll, List.length_cons]
    omega
theorem bulk_slice {H : Type} (a b : List (DataW H)) : a.length ≤ Rows.uptoBulk (.slice a b) := by
  have h := bulk_len a
  simp only [Rows.uptoBulk]
  omega
end Go.Proofs.YtamlhbbphnamnaaDoor.Auto
