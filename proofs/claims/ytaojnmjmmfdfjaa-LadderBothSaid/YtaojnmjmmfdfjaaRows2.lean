/- Blocks that hold a row: reading, storing, what stays. -/
import Derived.Test.YtaojnmjmmfdfjaaArr
namespace Go.Proofs.Ytaojnmjmmfdfjaa.Rely
open Go Go.RowKit
set_option linter.unusedVariables false

theorem set_row {W : World} {g : Nat} {cs : Array Value} {t : TypeId} (i : Nat) (v : Value) (h : W.heap[g]? = some (.cells cs t)) : (W.setCell ⟨g, i, none⟩ v).heap[g]? = some (.cells (cs.setIfInBounds i v) t) := by
  simp [World.setCell, Array.getElem?_modify, h]
theorem set_row_other {W : World} {g k : Nat} (i : Nat) (v : Value) (hk : k ≠ g) : (W.setCell ⟨g, i, none⟩ v).heap[k]? = W.heap[k]? := by
  simp [World.setCell, Array.getElem?_modify, Ne.symm hk]
theorem ext_set {w W : World} {g : Nat} (h : Ext w W) (hg : w.heap.size ≤ g) (i : Nat) (v : Value) : Ext w (W.setCell ⟨g, i, none⟩ v) := h.setCell (p := ⟨g, i, none⟩) hg v
theorem row_lt {W : World} {g : Nat} {o : Obj} (h : W.heap[g]? = some o) : g < W.heap.size := (Array.getElem?_eq_some_iff.1 h).1
theorem row_ext {W W' : World} {g : Nat} {o : Obj} (h : W.heap[g]? = some o) (e : Ext W W') : W'.heap[g]? = some o := (e.block _ (row_lt h)).trans h
theorem row_cell {W : World} {g : Nat} {cs : Array Value} {t : TypeId} (h : W.heap[g]? = some (.cells cs t)) {k : Nat} {v : Value} (hk : cs[k]? = some v) : W.cell? ⟨g, k, none⟩ = some v :=
  (cell_of_row W g k cs t _ h).trans hk
theorem row_frozen {W : World} {g : Nat} {cs : Array Value} {t : TypeId} (h : W.heap[g]? = some (.cells cs t)) (k : Nat) : W.frozen? ⟨g, k, none⟩ = false := frozen_of_row W g k cs t h
theorem alloc_new {W : World} (o : Obj) : (W.alloc o).heap[W.heap.size]? = some o := heap_alloc_new W o
theorem ext_more {w W : World} (h : Ext w W) (o : Obj) : Ext w (W.alloc o) := Ext.trans h (ext_alloc W o)
theorem ext_drawn {w W : World} (h : Ext w W) : Ext w W.drew := Ext.trans h (ext_drew W)
theorem ext_setRow {w W : World} {g : Nat} (h : Ext w W) (hg : w.heap.size ≤ g) (cs : Array Value) : Ext w (W.setRow g cs) :=
  ⟨h.os, h.tape, h.output, by simpa using h.size, fun k hk => (setRow_other W g k cs (by omega)).trans (h.block k hk)⟩
end Go.Proofs.Ytaojnmjmmfdfjaa.Rely
