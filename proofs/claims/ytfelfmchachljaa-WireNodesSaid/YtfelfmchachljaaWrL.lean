/- A reader: what is known of it; must, raw. -/
import Derived.Test.YtfelfmchachljaaWrS
import Derived.Test.YtfelfmchachljaaWkR
namespace Go.Proofs.Ytfelfmchachljaa.Wr
open Go Go.RowKit
open Go.Proofs.Ytfelfmchachljaa.Rely Go.Proofs.Ytfelfmchachljaa.Auto Go.Proofs.Ytfelfmchachljaa.Own Go.Proofs.Ytfelfmchachljaa.Sha
set_option linter.unusedVariables false
set_option linter.unusedSimpArgs false

theorem ExtB.tr {g : Nat} {a b c : World} (h : ExtB g a b) (k : ExtB g b c) : ExtB g a c := ⟨k.1.trans h.1, k.2.1.trans h.2.1, k.2.2.1.trans h.2.2.1, Nat.le_trans h.2.2.2.1 k.2.2.2.1, fun i hi hn => (k.2.2.2.2 i (Nat.lt_of_lt_of_le hi h.2.2.2.1) hn).trans (h.2.2.2.2 i hi hn)⟩
/-- the next n bytes -/
def takeL (s : Option (List Int)) (n : Nat) : List Int := match s with
  | none => []
  | some xs => if n ≤ xs.length then xs.take n else []
def takeS (s : Option (List Int)) (n : Nat) : Option (List Int) := s.bind fun xs => if n ≤ xs.length then some (xs.drop n) else none
/-- a reader: what is left to read, or that it is bad -/
def RSt (B gr : Nat) (s : Option (List Int)) (W : World) : Prop := ∃ (u : Value) (xs : List Int) (bad : Bool), W.heap[gr]? = some (.cells #[u, .bool bad] 179) ∧ RdK .u8 B xs u W ∧ AreBytes xs ∧ s = bif bad then none else some xs
theorem RSt.lt {B gr : Nat} {s : Option (List Int)} {W : World} (h : RSt B gr s W) : gr < W.heap.size := by
  obtain ⟨u, xs, bad, h1, -⟩ := h
  exact row_lt h1
theorem RSt.keep {B gr : Nat} {s : Option (List Int)} {w W : World} (h : RSt B gr s w) (hB : B ≤ gr) (hs : w.heap.size ≤ W.heap.size) (hk : ∀ k, k ≤ gr → k < w.heap.size → W.heap[k]? = w.heap[k]?) : RSt B gr s W := by
  obtain ⟨u, xs, bad, h1, h2, h3⟩ := h
  exact ⟨u, xs, bad, (hk gr (Nat.le_refl _) (row_lt h1)).trans h1, h2.keep hs fun g hg hl => hk g (by omega) hl, h3⟩
theorem RSt.bytes {B gr : Nat} {s : Option (List Int)} {W : World} (h : RSt B gr s W) (n : Nat) : AreBytes (takeL s n) := by
  obtain ⟨u, xs, bad, -, -, h3, rfl⟩ := h
  cases bad with
  | true => exact fun x hx => by cases hx
  | false =>
    show AreBytes (if n ≤ xs.length then xs.take n else [])
    split
    · exact fun x hx => h3 x (List.mem_of_mem_take hx)
    · exact fun x hx => by cases hx
theorem RSt.ext {B gr : Nat} {s : Option (List Int)} {w W : World} (h : RSt B gr s w) (hB : B ≤ gr) (e : Ext w W) : RSt B gr s W := h.keep hB e.size fun k _ hl => e.block k hl
theorem RSt.put {B gr g : Nat} {s : Option (List Int)} {w W : World} (h : RSt B gr s w) (hB : B ≤ gr) (p : Puts w g W) (hg : gr < g) : RSt B gr s W := h.keep hB (by have := p.2.2.2.1; omega) fun k hk _ => p.2.2.2.2 k (by omega)
theorem RSt.low {B gr n : Nat} {s : Option (List Int)} {w W : World} (h : RSt B gr s w) (hB : B ≤ gr) (l : Below n w W) (hg : gr < n) : RSt B gr s W := h.keep hB l.size fun k hk _ => l.block k (by omega)
theorem takeL_le (s : Option (List Int)) (n : Nat) : (takeL s n).length ≤ n := by
  unfold takeL
  cases s with
  | none => exact Nat.zero_le _
  | some xs =>
    show (if n ≤ xs.length then xs.take n else []).length ≤ n
    split
    · rw [List.length_take]; omega
    · exact Nat.zero_le _
/-- what a reader's function answers -/
def GivesR (B gr : Nat) (w : World) (s : Option (List Int)) (φ : Value → World → Prop) (e : Ending) (W : World) : Prop := ∃ v, e = .returned v ∧ ExtB gr w W ∧ RSt B gr s W ∧ φ v W
theorem nilRd (B : Nat) (W : World) : RdK .u8 B [] (.slice none 0 0) W := ⟨none, 0, rfl, Nat.zero_le _, Nat.zero_le _, fun _ => rfl, .inl rfl⟩
theorem bytes_nil : AreBytes [] := fun x hx => by cases hx
theorem bytes_take {xs : List Int} (h : AreBytes xs) (n : Nat) : AreBytes (xs.take n) := fun x hx => h x (List.mem_of_mem_take hx)
theorem bytes_drop {xs : List Int} (h : AreBytes xs) (n : Nat) : AreBytes (xs.drop n) := fun x hx => h x (List.mem_of_mem_drop hx)
set_option maxHeartbeats 4000000 in
theorem rmust_B (gr : Nat) (u : Value) (ok : Bool) (w : World) (hg : w.heap[gr]? = some (.cells #[u, .bool true] 179)) : Calls Try.prog 103 #[.pointer (some ⟨gr, 0, none⟩), .bool ok] w (fun e W => e = .returned (.tuple #[]) ∧ ExtB gr w W ∧ W.heap[gr]? = some (.cells (cat [#[u], #[.bool true]]) 179)) := by
  refine enter 15 [(0, .pointer (some ⟨gr, 0, none⟩)), (1, .bool ok)] Try.func103 rfl rfl kj rfl ?_
  refine region_lit ?_
  refine seq_val (.pointer (some ⟨gr, 0, none⟩)) 4 rfl kj kj ?_
  refine seq_val (.pointer (some ⟨gr, 0, none⟩)) 5 rfl kj kj ?_
  refine seq_val (.pointer (some ⟨gr, 0, none⟩)) 6 rfl kj kj ?_
  refine seq_val (.pointer (some ⟨gr, 1, none⟩)) 7 rfl kj kj ?_
  refine seq_val (.bool true) 8 rfl kj (run_loadC1 4 _ gr 1 179 _ (.bool true) _ hg rfl kj kj kj) ?_
  refine seq_val (.bool true) 9 rfl kj kj ?_
  refine seq_skip 10 rfl kj ?_
  refine seq_skip 11 rfl kj ?_
  refine seq_val (.bool true) 12 rfl kj kj ?_
  refine seq_val (.pointer (some ⟨gr, 0, none⟩)) 13 rfl kj kj ?_
  refine seq_val (.pointer (some ⟨gr, 1, none⟩)) 14 rfl kj kj ?_
  refine seq_store gr _ (cat [#[u], #[.bool true]]) 179 hg rfl kj (run_storeC1 4 _ _ gr 1 179 _ (.bool true) hg rfl kj kj kj kj kj rfl) fun W1 p1 r1_1 => ?_
  have x1 : ExtB gr w W1 := ExtB.puts (ExtB.refl gr w) p1
  refine seq_nil ?_
  repeat (first | with_reducible refine goX1 ?_ | with_reducible refine goX2 ?_ | with_reducible refine goX3 ?_)
  exact (show bodyPost _ _ _ .normal _ _ from end0 rfl ⟨rfl, x1, r1_1⟩)
set_option maxHeartbeats 4000000 in
theorem rmust_G (gr : Nat) (u : Value) (ok : Bool) (w : World) (hg : w.heap[gr]? = some (.cells #[u, .bool false] 179)) : Calls Try.prog 103 #[.pointer (some ⟨gr, 0, none⟩), .bool ok] w (fun e W => e = .returned (.tuple #[]) ∧ ExtB gr w W ∧ W.heap[gr]? = some (.cells (cat [#[u], #[.bool (!ok)]]) 179)) := by
  refine enter 15 [(0, .pointer (some ⟨gr, 0, none⟩)), (1, .bool ok)] Try.func103 rfl rfl kj rfl ?_
  refine region_lit ?_
  refine seq_val (.pointer (some ⟨gr, 0, none⟩)) 4 rfl kj kj ?_
  refine seq_val (.pointer (some ⟨gr, 0, none⟩)) 5 rfl kj kj ?_
  refine seq_val (.pointer (some ⟨gr, 0, none⟩)) 6 rfl kj kj ?_
  refine seq_val (.pointer (some ⟨gr, 1, none⟩)) 7 rfl kj kj ?_
  refine seq_val (.bool false) 8 rfl kj (run_loadC1 4 _ gr 1 179 _ (.bool false) _ hg rfl kj kj kj) ?_
  refine seq_val (.bool false) 9 rfl kj kj ?_
  refine seq_val (.bool ok) 10 rfl kj kj ?_
  refine seq_val (.bool (!ok)) 11 rfl kj kj ?_
  refine seq_val (.bool (!ok)) 12 rfl kj kj ?_
  refine seq_val (.pointer (some ⟨gr, 0, none⟩)) 13 rfl kj kj ?_
  refine seq_val (.pointer (some ⟨gr, 1, none⟩)) 14 rfl kj kj ?_
  refine seq_store gr _ (cat [#[u], #[.bool (!ok)]]) 179 hg rfl kj (run_storeC1 4 _ _ gr 1 179 _ (.bool (!ok)) hg rfl kj kj kj kj kj rfl) fun W1 p1 r1_1 => ?_
  have x1 : ExtB gr w W1 := ExtB.puts (ExtB.refl gr w) p1
  refine seq_nil ?_
  repeat (first | with_reducible refine goX1 ?_ | with_reducible refine goX2 ?_ | with_reducible refine goX3 ?_)
  exact (show bodyPost _ _ _ .normal _ _ from end0 rfl ⟨rfl, x1, r1_1⟩)
theorem rmustC (gr : Nat) (u : Value) (bad ok : Bool) (w : World) (hg : w.heap[gr]? = some (.cells #[u, .bool bad] 179)) : Calls Try.prog 103 #[.pointer (some ⟨gr, 0, none⟩), .bool ok] w (fun e W => e = .returned (.tuple #[]) ∧ ExtB gr w W ∧ W.heap[gr]? = some (.cells #[u, .bool (bad || !ok)] 179)) := by
  cases bad with
  | true => exact rmust_B gr u ok w hg
  | false => exact rmust_G gr u ok w hg
theorem rmustR (B gr : Nat) (s : Option (List Int)) (ok : Bool) (w : World) (hB : B ≤ gr) (h : RSt B gr s w) : Calls Try.prog 103 #[.pointer (some ⟨gr, 0, none⟩), .bool ok] w (GivesR B gr w (mustS s ok) fun v _ => v = .tuple #[]) := by
  obtain ⟨u, xs, bad, h1, h2, h3, rfl⟩ := h
  refine (rmustC gr u bad ok w h1).mono fun e W hh => ⟨_, hh.1, hh.2.1, ⟨u, xs, _, hh.2.2, h2.extB hh.2.1 hB, h3, ?_⟩, rfl⟩
  cases bad <;> cases ok <;> rfl
set_option maxHeartbeats 4000000 in
theorem rraw_A (B gr : Nat) (a_u : Option Addr) (c_u : Nat) (xs : List Int) (n : Nat) (w : World) (hB : B ≤ gr) (hg : w.heap[gr]? = some (.cells #[.slice a_u xs.length c_u, .bool true] 179)) (ho : RdK .u8 B xs (.slice a_u xs.length c_u) w) (hcu : xs.length ≤ c_u) (ok : Bool) (hok : decide (((n : Nat) : Int) ≤ ((xs.length : Nat) : Int)) = ok) :
    Calls Try.prog 124 #[.pointer (some ⟨gr, 0, none⟩), .int .i64 ((n : Nat) : Int)] w (fun e W => e = .returned (.slice none 0 0) ∧ ExtB gr w W ∧ W.heap[gr]? = some (.cells (cat [#[.slice a_u xs.length c_u], #[.bool true]]) 179)) := by
  refine enter 35 [(0, .pointer (some ⟨gr, 0, none⟩)), (1, .int .i64 ((n : Nat) : Int))] Try.func124 rfl rfl kj rfl ?_
  refine wp_seq_k fun K2 hK2 => ?_
  refine region_lit ?_
  refine seq_val (.slice none 0 0) 4 rfl kj kj ?_
  refine seq_nil ?_
  refine hK2 _ _ ?_
  try clear hK2 K2
  refine wp_seq_k fun K3 hK3 => ?_
  refine region_lit ?_
  refine seq_val (.pointer (some ⟨gr, 0, none⟩)) 6 rfl kj kj ?_
  refine seq_val (.pointer (some ⟨gr, 0, none⟩)) 7 rfl kj kj ?_
  refine seq_val (.pointer (some ⟨gr, 0, none⟩)) 8 rfl kj kj ?_
  refine seq_val (.pointer (some ⟨gr, 0, none⟩)) 9 rfl kj kj ?_
  refine seq_val (.slice a_u xs.length c_u) 10 rfl kj (run_loadC1 26 _ gr 0 179 _ (.slice a_u xs.length c_u) _ hg rfl kj kj kj) ?_
  refine seq_val (.int .i64 ((xs.length : Nat) : Int)) 11 rfl kj kj ?_
  refine seq_val (.int .i64 ((n : Nat) : Int)) 12 rfl kj kj ?_
  refine seq_val (.bool (ok)) 13 rfl kj (run_eq (u := .bool (decide (((xs.length : Nat) : Int) ≥ ((n : Nat) : Int)))) kj (congrArg Value.bool hok)) ?_
  refine seq_callR (fun v W' => v = .tuple #[] ∧ ExtB gr w W' ∧ W'.heap[gr]? = some (.cells (cat [#[.slice a_u xs.length c_u], #[.bool true]]) 179)) 103 #[.pointer (some ⟨gr, 0, none⟩), .bool (ok)] 14 rfl kj kj ((rmustC gr _ _ _ _ hg).mono (by intro e w' h; exact ⟨_, h.1, rfl, h.2⟩)) fun v W1 h4 => ?_
  obtain ⟨rfl, q1, r1_1⟩ := h4
  have x1 : ExtB gr w W1 := ExtB.tr (ExtB.refl gr w) q1
  refine seq_nil ?_
  refine hK3 _ _ ?_
  try clear hK3 K3
  refine wp_seq_k fun K5 hK5 => ?_
  refine wp_seq_k fun K6 hK6 => ?_
  refine region_lit ?_
  refine seq_val (.pointer (some ⟨gr, 0, none⟩)) 15 rfl kj kj ?_
  refine seq_val (.pointer (some ⟨gr, 0, none⟩)) 16 rfl kj kj ?_
  refine seq_val (.pointer (some ⟨gr, 1, none⟩)) 17 rfl kj kj ?_
  refine seq_val (.bool true) 18 rfl kj (run_loadC1 4 _ gr 1 179 _ (.bool true) _ r1_1 rfl kj kj kj) ?_
  refine seq_nil ?_
  refine hK6 _ _ ?_
  try clear hK6 K6
  refine cond_true kj ?_
  refine wp_seq_k fun K7 hK7 => ?_
  refine region_lit ?_
  refine seq_val (.slice none 0 0) 4 rfl kj kj ?_
  refine seq_nil ?_
  refine hK7 _ _ ?_
  try clear hK7 K7
  refine wp_ret ?_
  repeat (first | with_reducible refine goR1 ?_ | with_reducible refine goR2 ?_)
  exact (show bodyPost _ _ _ .ret _ _ from ret1 (.slice none 0 0) rfl (res_tmp kj) ⟨rfl, x1, r1_1⟩)
set_option maxHeartbeats 4000000 in
theorem rraw_B (B gr : Nat) (a_u : Option Addr) (c_u : Nat) (xs : List Int) (n : Nat) (w : World) (hB : B ≤ gr) (hg : w.heap[gr]? = some (.cells #[.slice a_u xs.length c_u, .bool false] 179)) (ho : RdK .u8 B xs (.slice a_u xs.length c_u) w) (hcu : xs.length ≤ c_u) (h : xs.length < n) :
    Calls Try.prog 124 #[.pointer (some ⟨gr, 0, none⟩), .int .i64 ((n : Nat) : Int)] w (fun e W => e = .returned (.slice none 0 0) ∧ ExtB gr w W ∧ W.heap[gr]? = some (.cells (cat [#[.slice a_u xs.length c_u], #[.bool true]]) 179)) := by
  refine enter 35 [(0, .pointer (some ⟨gr, 0, none⟩)), (1, .int .i64 ((n : Nat) : Int))] Try.func124 rfl rfl kj rfl ?_
  refine wp_seq_k fun K2 hK2 => ?_
  refine region_lit ?_
  refine seq_val (.slice none 0 0) 4 rfl kj kj ?_
  refine seq_nil ?_
  refine hK2 _ _ ?_
  try clear hK2 K2
  refine wp_seq_k fun K3 hK3 => ?_
  refine region_lit ?_
  refine seq_val (.pointer (some ⟨gr, 0, none⟩)) 6 rfl kj kj ?_
  refine seq_val (.pointer (some ⟨gr, 0, none⟩)) 7 rfl kj kj ?_
  refine seq_val (.pointer (some ⟨gr, 0, none⟩)) 8 rfl kj kj ?_
  refine seq_val (.pointer (some ⟨gr, 0, none⟩)) 9 rfl kj kj ?_
  refine seq_val (.slice a_u xs.length c_u) 10 rfl kj (run_loadC1 26 _ gr 0 179 _ (.slice a_u xs.length c_u) _ hg rfl kj kj kj) ?_
  refine seq_val (.int .i64 ((xs.length : Nat) : Int)) 11 rfl kj kj ?_
  refine seq_val (.int .i64 ((n : Nat) : Int)) 12 rfl kj kj ?_
  refine seq_val (.bool false) 13 rfl kj (run_eq (u := .bool (decide (((xs.length : Nat) : Int) ≥ ((n : Nat) : Int)))) kj (congrArg Value.bool (decide_eq_false (by omega)))) ?_
  refine seq_callR (fun v W' => v = .tuple #[] ∧ ExtB gr w W' ∧ W'.heap[gr]? = some (.cells (cat [#[.slice a_u xs.length c_u], #[.bool true]]) 179)) 103 #[.pointer (some ⟨gr, 0, none⟩), .bool false] 14 rfl kj kj ((rmustC gr _ _ _ _ hg).mono (by intro e w' h; exact ⟨_, h.1, rfl, h.2⟩)) fun v W1 h4 => ?_
  obtain ⟨rfl, q1, r1_1⟩ := h4
  have x1 : ExtB gr w W1 := ExtB.tr (ExtB.refl gr w) q1
  refine seq_nil ?_
  refine hK3 _ _ ?_
  try clear hK3 K3
  refine wp_seq_k fun K5 hK5 => ?_
  refine wp_seq_k fun K6 hK6 => ?_
  refine region_lit ?_
  refine seq_val (.pointer (some ⟨gr, 0, none⟩)) 15 rfl kj kj ?_
  refine seq_val (.pointer (some ⟨gr, 0, none⟩)) 16 rfl kj kj ?_
  refine seq_val (.pointer (some ⟨gr, 1, none⟩)) 17 rfl kj kj ?_
  refine seq_val (.bool true) 18 rfl kj (run_loadC1 4 _ gr 1 179 _ (.bool true) _ r1_1 rfl kj kj kj) ?_
  refine seq_nil ?_
  refine hK6 _ _ ?_
  try clear hK6 K6
  refine cond_true kj ?_
  refine wp_seq_k fun K7 hK7 => ?_
  refine region_lit ?_
  refine seq_val (.slice none 0 0) 4 rfl kj kj ?_
  refine seq_nil ?_
  refine hK7 _ _ ?_
  try clear hK7 K7
  refine wp_ret ?_
  repeat (first | with_reducible refine goR1 ?_ | with_reducible refine goR2 ?_)
  exact (show bodyPost _ _ _ .ret _ _ from ret1 (.slice none 0 0) rfl (res_tmp kj) ⟨rfl, x1, r1_1⟩)
set_option maxHeartbeats 4000000 in
theorem rraw_C (B gr : Nat) (a_u : Option Addr) (c_u : Nat) (xs : List Int) (n : Nat) (w : World) (hB : B ≤ gr) (hg : w.heap[gr]? = some (.cells #[.slice a_u xs.length c_u, .bool false] 179)) (ho : RdK .u8 B xs (.slice a_u xs.length c_u) w) (hcu : xs.length ≤ c_u) (h : n ≤ xs.length) :
    Calls Try.prog 124 #[.pointer (some ⟨gr, 0, none⟩), .int .i64 ((n : Nat) : Int)] w (fun e W => e = .returned (.slice a_u n c_u) ∧ ExtB gr w W ∧ W.heap[gr]? = some (.cells (cat [#[.slice (restA a_u c_u n) (xs.length - n) (c_u - n)], #[.bool false]]) 179)) := by
  refine enter 35 [(0, .pointer (some ⟨gr, 0, none⟩)), (1, .int .i64 ((n : Nat) : Int))] Try.func124 rfl rfl kj rfl ?_
  refine wp_seq_k fun K2 hK2 => ?_
  refine region_lit ?_
  refine seq_val (.slice none 0 0) 4 rfl kj kj ?_
  refine seq_nil ?_
  refine hK2 _ _ ?_
  try clear hK2 K2
  refine wp_seq_k fun K3 hK3 => ?_
  refine region_lit ?_
  refine seq_val (.pointer (some ⟨gr, 0, none⟩)) 6 rfl kj kj ?_
  refine seq_val (.pointer (some ⟨gr, 0, none⟩)) 7 rfl kj kj ?_
  refine seq_val (.pointer (some ⟨gr, 0, none⟩)) 8 rfl kj kj ?_
  refine seq_val (.pointer (some ⟨gr, 0, none⟩)) 9 rfl kj kj ?_
  refine seq_val (.slice a_u xs.length c_u) 10 rfl kj (run_loadC1 26 _ gr 0 179 _ (.slice a_u xs.length c_u) _ hg rfl kj kj kj) ?_
  refine seq_val (.int .i64 ((xs.length : Nat) : Int)) 11 rfl kj kj ?_
  refine seq_val (.int .i64 ((n : Nat) : Int)) 12 rfl kj kj ?_
  refine seq_val (.bool true) 13 rfl kj (run_eq (u := .bool (decide (((xs.length : Nat) : Int) ≥ ((n : Nat) : Int)))) kj (congrArg Value.bool (decide_eq_true (by omega)))) ?_
  refine seq_callR (fun v W' => v = .tuple #[] ∧ ExtB gr w W' ∧ W'.heap[gr]? = some (.cells (cat [#[.slice a_u xs.length c_u], #[.bool false]]) 179)) 103 #[.pointer (some ⟨gr, 0, none⟩), .bool true] 14 rfl kj kj ((rmustC gr _ _ _ _ hg).mono (by intro e w' h; exact ⟨_, h.1, rfl, h.2⟩)) fun v W1 h4 => ?_
  obtain ⟨rfl, q1, r1_1⟩ := h4
  have x1 : ExtB gr w W1 := ExtB.tr (ExtB.refl gr w) q1
  refine seq_nil ?_
  refine hK3 _ _ ?_
  try clear hK3 K3
  refine wp_seq_k fun K5 hK5 => ?_
  refine wp_seq_k fun K6 hK6 => ?_
  refine region_lit ?_
  refine seq_val (.pointer (some ⟨gr, 0, none⟩)) 15 rfl kj kj ?_
  refine seq_val (.pointer (some ⟨gr, 0, none⟩)) 16 rfl kj kj ?_
  refine seq_val (.pointer (some ⟨gr, 1, none⟩)) 17 rfl kj kj ?_
  refine seq_val (.bool false) 18 rfl kj (run_loadC1 4 _ gr 1 179 _ (.bool false) _ r1_1 rfl kj kj kj) ?_
  refine seq_nil ?_
  refine hK6 _ _ ?_
  try clear hK6 K6
  refine cond_false kj ?_
  refine wp_skip ?_
  refine hK5 _ _ ?_
  try clear hK5 K5
  refine wp_seq_k fun K7 hK7 => ?_
  refine region_lit ?_
  refine seq_val (.pointer (some ⟨gr, 0, none⟩)) 19 rfl kj kj ?_
  refine seq_val (.pointer (some ⟨gr, 0, none⟩)) 20 rfl kj kj ?_
  refine seq_val (.pointer (some ⟨gr, 0, none⟩)) 21 rfl kj kj ?_
  refine seq_val (.slice a_u xs.length c_u) 22 rfl kj (run_loadC1 26 _ gr 0 179 _ (.slice a_u xs.length c_u) _ r1_1 rfl kj kj kj) ?_
  refine seq_val (.int .i64 ((n : Nat) : Int)) 23 rfl kj kj ?_
  refine seq_val (.slice a_u n c_u) 24 rfl kj (run_sliceH 26 _ _ n 5 rfl (a := a_u) (len := xs.length) (cap := c_u) kj kj kj .i64 kj (by omega)) ?_
  refine seq_val (.slice a_u n c_u) 5 rfl kj kj ?_
  refine seq_nil ?_
  refine hK7 _ _ ?_
  try clear hK7 K7
  refine wp_seq_k fun K8 hK8 => ?_
  refine region_lit ?_
  refine seq_val (.pointer (some ⟨gr, 0, none⟩)) 25 rfl kj kj ?_
  refine seq_val (.pointer (some ⟨gr, 0, none⟩)) 26 rfl kj kj ?_
  refine seq_val (.pointer (some ⟨gr, 0, none⟩)) 27 rfl kj kj ?_
  refine seq_val (.pointer (some ⟨gr, 0, none⟩)) 28 rfl kj kj ?_
  refine seq_val (.slice a_u xs.length c_u) 29 rfl kj (run_loadC1 26 _ gr 0 179 _ (.slice a_u xs.length c_u) _ r1_1 rfl kj kj kj) ?_
  refine seq_val (.int .i64 ((n : Nat) : Int)) 30 rfl kj kj ?_
  refine seq_val (.slice (restA a_u c_u n) (xs.length - n) (c_u - n)) 31 rfl kj (run_sliceD 26 _ _ n 5 rfl (a := a_u) (len := xs.length) (cap := c_u) kj kj kj .i64 kj h hcu) ?_
  refine seq_val (.pointer (some ⟨gr, 0, none⟩)) 32 rfl kj kj ?_
  refine seq_val (.pointer (some ⟨gr, 0, none⟩)) 33 rfl kj kj ?_
  refine seq_store gr _ (cat [#[.slice (restA a_u c_u n) (xs.length - n) (c_u - n)], #[.bool false]]) 179 r1_1 rfl kj (run_storeC1 26 _ _ gr 0 179 _ (.slice (restA a_u c_u n) (xs.length - n) (c_u - n)) r1_1 rfl kj kj kj kj kj rfl) fun W2 p2 r1_2 => ?_
  have x2 : ExtB gr w W2 := ExtB.puts x1 p2
  refine seq_nil ?_
  refine hK8 _ _ ?_
  try clear hK8 K8
  refine wp_seq_k fun K9 hK9 => ?_
  refine region_lit ?_
  refine seq_val (.slice a_u n c_u) 34 rfl kj kj ?_
  refine seq_val (.slice a_u n c_u) 4 rfl kj kj ?_
  refine seq_nil ?_
  refine hK9 _ _ ?_
  try clear hK9 K9
  refine wp_ret ?_
  repeat (first | with_reducible refine goR1 ?_ | with_reducible refine goR2 ?_)
  exact (show bodyPost _ _ _ .ret _ _ from ret1 (.slice a_u n c_u) rfl (res_tmp kj) ⟨rfl, x2, r1_2⟩)
theorem rrawR (B gr : Nat) (s : Option (List Int)) (n : Nat) (w : World) (hB : B ≤ gr) (h : RSt B gr s w) : Calls Try.prog 124 #[.pointer (some ⟨gr, 0, none⟩), .int .i64 ((n : Nat) : Int)] w (GivesR B gr w (takeS s n) fun v W => RdK .u8 B (takeL s n) v W ∧ AreBytes (takeL s n)) := by
  obtain ⟨u, xs, bad, h1, h2, h3, rfl⟩ := h
  obtain ⟨a_u, c_u, rfl, hcu, -⟩ := id h2
  cases bad with
  | true => exact (rraw_A B gr a_u c_u xs n w hB h1 h2 hcu _ rfl).mono fun e W ⟨a, b, c⟩ => ⟨_, a, b, ⟨_, xs, true, c, h2.extB b hB, h3, rfl⟩, nilRd _ _, bytes_nil⟩
  | false =>
    by_cases hf : n ≤ xs.length
    · refine (rraw_C B gr a_u c_u xs n w hB h1 h2 hcu hf).mono fun e W ⟨a, b, c⟩ => ⟨_, a, b, ⟨_, xs.drop n, false, c, rdK_drop (h2.extB b hB) n hf, bytes_drop h3 n, if_pos hf⟩, ?_⟩
      show RdK .u8 B (if n ≤ xs.length then xs.take n else []) _ W ∧ AreBytes (if n ≤ xs.length then xs.take n else [])
      rw [if_pos hf]
      exact ⟨rdK_take (h2.extB b hB) n hf, bytes_take h3 n⟩
    · refine (rraw_B B gr a_u c_u xs n w hB h1 h2 hcu (by omega)).mono fun e W ⟨a, b, c⟩ => ⟨_, a, b, ⟨_, xs, true, c, h2.extB b hB, h3, if_neg hf⟩, ?_⟩
      show RdK .u8 B (if n ≤ xs.length then xs.take n else []) _ W ∧ AreBytes (if n ≤ xs.length then xs.take n else [])
      rw [if_neg hf]
      exact ⟨nilRd _ _, bytes_nil⟩

end Go.Proofs.Ytfelfmchachljaa.Wr
