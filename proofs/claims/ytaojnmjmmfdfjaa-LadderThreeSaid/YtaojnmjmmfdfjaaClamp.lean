/- Which bits of a secret key are set: the program's Clamp and the reference's. -/
import Derived.Test.YtaojnmjmmfdfjaaArr
import Derived.Test.YtaojnmjmmfdfjaaRows
namespace Go.Proofs.Ytaojnmjmmfdfjaa.Ladder
open Go Go.RowKit
open Go.Proofs.Ytaojnmjmmfdfjaa.Rely
set_option linter.unusedVariables false

def clamp (xs : List Int) : List Int := (xs.set 0 (nth xs 0 / 8 * 8)).set 31 (nth xs 31 % 64 + 64)
theorem and_f8 : ∀ a : Fin 256, bits .and .u8 (a.val : Int) 248 = (a.val : Int) / 8 * 8 := by decide +kernel
theorem or_40 : ∀ a : Fin 256, bits .or .u8 (bits .and .u8 (a.val : Int) 127) 64 = (a.val : Int) % 64 + 64 := by decide +kernel
theorem and_f8' (a : Int) (h : 0 ≤ a ∧ a ≤ 255) : bits .and .u8 a 248 = a / 8 * 8 := by
  have := and_f8 ⟨a.toNat, by omega⟩
  simpa [Int.toNat_of_nonneg h.1] using this
theorem or_40' (a : Int) (h : 0 ≤ a ∧ a ≤ 255) : bits .or .u8 (bits .and .u8 a 127) 64 = a % 64 + 64 := by
  have := or_40 ⟨a.toNat, by omega⟩
  simpa [Int.toNat_of_nonneg h.1] using this

theorem infoKey : (Try.prog.info? 23).map (·.size) = some 32 := by kernel_rfl

theorem alloc2_fst (w : World) (a b : Obj) : ((w.alloc a).alloc b).heap[w.heap.size]? = some a := by
  rw [Below.heap_alloc _ _ _ (by simp)]
  exact heap_alloc_new w a
theorem alloc2_snd (w : World) (a b : Obj) : ((w.alloc a).alloc b).heap[w.heap.size + 1]? = some b := by
  have := heap_alloc_new (w.alloc a) b
  simpa using this
theorem ints_one (k : IntKind) (xs : List Int) : (ints k xs).all (·.oneCell') = true := by simp [ints, Value.oneCell']

theorem below_setRow {B : Nat} {a w : World} (h : Below B a w) {g : Nat} (hp : B ≤ g) (cs : Array Value) : Below B a (w.setRow g cs) :=
  ⟨h.os, h.tape, h.output, by simpa using h.size, fun k hk => (setRow_other w g k cs (by omega)).trans (h.block k hk)⟩

theorem clampC (xs : List Int) (hl : xs.length = 32) (hb : AreBytes xs) (w : World) :
    Calls Try.prog 39 #[.agg (ints .u8 xs)] w (Ret w (.agg (ints .u8 (clamp xs)))) := by
  have a0 := and_f8' _ (hb.nth 0)
  have a31 := or_40' _ (hb.nth 31)
  have e0 : (ints .u8 xs)[0]? = some (.int .u8 (nth xs 0)) := ints_get _ _ _ (by omega)
  have hi : ∀ (ys : List Int), ys.length = 32 → (Try.prog.info? 23).map (·.size) = some (ints .u8 ys).size := fun ys h => by rw [infoKey, ints_size, h]
  have hset : ∀ (ys : List Int) (i : Nat) (v : Int), (ints .u8 ys).setIfInBounds i (.int .u8 v) = ints .u8 (ys.set i v) := fun ys i v => ints_set _ _ _ _
  have e31 : (ints .u8 (xs.set 0 (nth xs 0 / 8 * 8)))[31]? = some (.int .u8 (nth xs 31)) := by rw [ints_get _ _ _ (by simp; omega), nth_set_ne _ _ _ _ (by decide)]
  have HE0 := Lib.hid e0
  go_enter Try.func39, Try.ntmps39
  go_wp2_with first
    | (with_reducible show wpList _ _ _ ((⟨_, .load 23 _, _, _, _, _⟩ : Oper) :: _) _ _
       refine wpList_load_row rfl 23 _ rfl w.heap.size rfl 23 (ints .u8 (clamp xs)) (0, 0) _ (alloc2_fst _ _ _) Try.underlying23 rfl (hi _ (by simp [clamp, hl])) ?_)
    | (with_reducible show wpList _ _ _ ((⟨_, .store 23 _ _, _, _, _, _⟩ : Oper) :: _) _ _
       refine wpList_store_row rfl 23 _ _ rfl (w.heap.size + 1) (ints .u8 (clamp xs)) rfl rfl 23 _ (alloc2_snd _ _ _) (hi _ (by simp [clamp, hl])) (by simp [ints, clamp, hl]) (ints_one _ _) ?_)
  refine bodyPost_ret (v := .agg (ints .u8 (clamp xs))) (results_cell_row (p := 2) rfl _ _ (w.heap.size + 1) 23 (ints .u8 (clamp xs)) (0, 0) _ rfl (setRow_heap _ _ _ _ _ _ (alloc2_snd _ _ _)) Try.underlying23 rfl (hi _ (by simp [clamp, hl]))) rfl ⟨rfl, ?_⟩
  exact below_setRow (((Below.refl _ _).alloc (Nat.le_refl _) _).alloc (by simp) _) (by omega) _
theorem wrap_u8 (a : Int) (h : 0 ≤ a) (h2 : a < 256) : IntKind.u8.wrap a = a := by
  have e : IntKind.u8.bits = 8 := rfl
  have f : IntKind.u8.signed = false := rfl
  simp [IntKind.wrap, e, f]
  omega

theorem refClampC (xs : List Int) (hl : xs.length = 32) (hb : AreBytes xs) (w : World) :
    Calls Try.prog 40 #[.agg (ints .u8 xs)] w (Ret w (.agg (ints .u8 (clamp xs)))) := by
  have c0 := hb.nth 0
  have c31 := hb.nth 31
  have a0 : IntKind.u8.wrap (nth xs 0 / 8 * 8) = nth xs 0 / 8 * 8 := wrap_u8 _ (by omega) (by omega)
  have a31 : IntKind.u8.wrap (nth xs 31 % 64 + 64) = nth xs 31 % 64 + 64 := wrap_u8 _ (by omega) (by omega)
  have e0 : (ints .u8 xs)[0]? = some (.int .u8 (nth xs 0)) := ints_get _ _ _ (by omega)
  have hi : ∀ (ys : List Int), ys.length = 32 → (Try.prog.info? 23).map (·.size) = some (ints .u8 ys).size := fun ys h => by rw [infoKey, ints_size, h]
  have hset : ∀ (ys : List Int) (i : Nat) (v : Int), (ints .u8 ys).setIfInBounds i (.int .u8 v) = ints .u8 (ys.set i v) := fun ys i v => ints_set _ _ _ _
  have e31 : (ints .u8 (xs.set 0 (nth xs 0 / 8 * 8)))[31]? = some (.int .u8 (nth xs 31)) := by rw [ints_get _ _ _ (by simp; omega), nth_set_ne _ _ _ _ (by decide)]
  have HE0 := Lib.hid e0
  go_enter Try.func40, Try.ntmps40
  go_wp2_with first
    | (with_reducible show wpList _ _ _ ((⟨_, .load 23 _, _, _, _, _⟩ : Oper) :: _) _ _
       refine wpList_load_row rfl 23 _ rfl w.heap.size rfl 23 (ints .u8 (clamp xs)) (0, 0) _ (alloc2_fst _ _ _) Try.underlying23 rfl (hi _ (by simp [clamp, hl])) ?_)
    | (with_reducible show wpList _ _ _ ((⟨_, .store 23 _ _, _, _, _, _⟩ : Oper) :: _) _ _
       refine wpList_store_row rfl 23 _ _ rfl (w.heap.size + 1) (ints .u8 (clamp xs)) rfl rfl 23 _ (alloc2_snd _ _ _) (hi _ (by simp [clamp, hl])) (by simp [ints, clamp, hl]) (ints_one _ _) ?_)
  refine bodyPost_ret (v := .agg (ints .u8 (clamp xs))) (results_cell_row (p := 2) rfl _ _ (w.heap.size + 1) 23 (ints .u8 (clamp xs)) (0, 0) _ rfl (setRow_heap _ _ _ _ _ _ (alloc2_snd _ _ _)) Try.underlying23 rfl (hi _ (by simp [clamp, hl]))) rfl ⟨rfl, ?_⟩
  exact below_setRow (((Below.refl _ _).alloc (Nat.le_refl _) _).alloc (by simp) _) (by omega) _
end Go.Proofs.Ytaojnmjmmfdfjaa.Ladder
