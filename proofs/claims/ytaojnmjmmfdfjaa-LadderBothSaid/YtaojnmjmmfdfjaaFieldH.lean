/- The fixed fact of the laws of the field. -/
import Derived.Test.YtaojnmjmmfdfjaaFieldG
namespace Go.Proofs.Ytaojnmjmmfdfjaa.Field
open Go Go.RowKit
open Go.Proofs.Ytaojnmjmmfdfjaa.Rely
set_option linter.unusedVariables false

theorem wpList_store_fresh {P : Program} {ops : Array Oper} {rest : List Oper} {o : Oper} {a : Act} {w : World} {Q : Exit → Act → World → Prop} (hgd : o.guard = none) (ty : TypeId) (x y : Operand) (ho : o.op = .store ty x y)
    (cells : Array Value) (hx : a.eval x = .pointer (some ⟨w.heap.size, 0, none⟩)) (hy : a.eval y = .agg cells)
    (t : TypeId) (old : Array Value) (hi : (P.info? ty).map (·.size) = some cells.size)
    (hold : old.size = cells.size) (h1 : cells.all (·.oneCell') = true)
    (h : ∀ w3, Ext w w3 → w3.heap[w.heap.size]? = some (.cells cells t) → wpList P ops Q rest (a.put o.dst undef) w3) : wpList P ops Q (o :: rest) a (w.alloc (.cells old t)) :=
  wpList_store_row hgd ty x y ho w.heap.size cells hx hy t old (heap_alloc_new _ _) hi hold h1 (h _ (below_setRow (ext_alloc _ _) (Nat.le_refl _) _) (setRow_heap _ _ _ _ _ _ (heap_alloc_new _ _)))

theorem alive (w : World) : Calls Try.prog 18 #[] w (Ret w (.bool true)) := by
  have hi : (Try.prog.info? 23).map (·.size) = some (ints .u8 (bytesOf (-1 % p))).size := by rw [infoKey, ints_size]; rfl
  have b0 : (ints .u8 (bytesOf (-1 % p)))[0]? = some (.int .u8 236) := by kernel_rfl
  have b1 : (ints .u8 (bytesOf (-1 % p)))[1]? = some (.int .u8 255) := by kernel_rfl
  have b31 : (ints .u8 (bytesOf (-1 % p)))[31]? = some (.int .u8 127) := by kernel_rfl
  have h42 : nth (bytesOf (7 % p * (6 % p) % p)) 0 = 42 := by kernel_rfl
  have hX : ∀ W, (Instr.index 23 (.agg (ints .u8 (bytesOf (7 % p * (6 % p) % p)))) (.int .i64 0)).run Try.prog W = .ok (.int .u8 42) W := fun W => by
    have := run_index_ints (P := Try.prog) (ki := .i64) W Try.underlying23 Try.underlying5 (by kernel_rfl) (bytesOf (7 % p * (6 % p) % p)) rfl 0 (by decide)
    rw [h42] at this
    exact this
  go_enter Try.func18, Try.ntmps18
  go_wp2_with first
    | (go_at_call 22
       first
         | (with_reducible refine (small_neg (-1) (by decide) _).mono ?_)
           rintro e w1 ⟨rfl, hw1⟩
         | (with_reducible refine (small_pos 7 (by decide) _).mono ?_)
           rintro e w4 ⟨rfl, hw4⟩
         | (with_reducible refine (small_pos 6 (by decide) _).mono ?_)
           rintro e w5 ⟨rfl, hw5⟩)
    | (go_at_call 30
       (with_reducible refine (mul (7 % p) (6 % p) (isN_mod _) (isN_mod _) _).mono ?_)
       rintro e w6 ⟨rfl, hw6⟩)
    | (go_at_call 48
       first
         | (with_reducible refine (bytes (-1 % p) (isN_mod _) _).mono ?_)
           rintro e w2 ⟨rfl, hw2⟩
         | (with_reducible refine (bytes (7 % p * (6 % p) % p) (isN_mod _) _).mono ?_)
           rintro e w7 ⟨rfl, hw7⟩)
    | (with_reducible show wpList _ _ _ ((⟨_, .store 23 _ _, _, _, _, _⟩ : Oper) :: _) _ _
       refine wpList_store_fresh rfl 23 _ _ rfl (ints .u8 (bytesOf (-1 % p))) rfl rfl 23 _ hi rfl (ints_one _ _) ?_
       intro w3 hw3 hrow
       have c0 := (cell_of_row w3 _ 0 _ _ _ hrow).trans b0
       have c1 := (cell_of_row w3 _ 1 _ _ _ hrow).trans b1
       have c31 := (cell_of_row w3 _ 31 _ _ _ hrow).trans b31
       clear hrow)
  go_ret
  exact ⟨rfl, Ext.trans (Ext.trans (Ext.trans hw1 hw2) hw3) (Ext.trans (Ext.trans hw4 hw5) (Ext.trans hw6 hw7))⟩
end Go.Proofs.Ytaojnmjmmfdfjaa.Field
