/- The writer: raw. -/
import Derived.Test.YtfelfmchachljaaWrA
namespace Go.Proofs.Ytfelfmchachljaa.Wr
open Go Go.RowKit
open Go.Proofs.Ytfelfmchachljaa.Rely Go.Proofs.Ytfelfmchachljaa.Auto Go.Proofs.Ytfelfmchachljaa.Own Go.Proofs.Ytfelfmchachljaa.Sha
set_option linter.unusedVariables false
set_option linter.unusedSimpArgs false

section
variable {ds : List Deferred} {P : Program} {ops : Array Oper} {Q : Exit → Act → World → Prop} {rest : List Oper} {o : Oper} {N : Nat} {L : Env} {W : World}
theorem seq_appendW (base gw b : Nat) (s x : Operand) (t : TypeId) (ho : o.op = .call { callee := .builtin .append, args := #[s, x], argTypes := #[t, t] })
    (ht : P.underlying t = some (.slice 5)) (hi : (P.info? 5).map (fun i => (i.zero, i.size, i.bytes)) = some (some (.int .u8 0), 1, b)) (hb8 : b ≤ 8) (d : Nat) (hd : o.dst = some d) (hg : wantB ops o N L = some true) {B : Nat} {v y : Value} {xs ys : List Int}
    (hs : Rely.look (envN N L) s = v) (hx : Rely.look (envN N L) x = y) (h : OwnN .u8 5 base xs v W) (hy : RdK .u8 B ys y W) (hn : xs.length + ys.length ≤ 1000000000) (hV : base ≤ W.heap.size) {c : Array Value} (r : W.heap[gw]? = some (.cells c 174))
    (kk : ∀ (u : Value) (W' : World), OwnN .u8 5 base (xs ++ ys) u W' → GW base gw W W' → W'.heap[gw]? = some (.cells c 174) → WL P ops Q rest (actOf ds N ((d, u) :: L)) W') : WL P ops Q (o :: rest) (actOf ds N L) W := by
  obtain ⟨v', W', h1, h2, h3, h4⟩ := append_N (ρ := Rely.look (envN N L)) (o := o) (W := W) s x t ho ht hi hb8 hs hx h hy hn hV
  refine seq_valw _ _ d hd hg h1 (kk v' W' h2 ⟨h3.os, h3.tape, h3.output, h3.size, fun i hi hne hc => h3.block i hi (fun q => ?_)⟩ ((h3.block gw (row_lt r) (fun q => nb_typ h r (by decide) q.symm)).trans r))
  rcases hc with hc | hc
  · have := h.ge q.symm; omega
  · obtain ⟨cur, e⟩ := own_typ h q.symm
    exact hc cur _ e
end
set_option maxHeartbeats 4000000 in
theorem raw_A (base gw : Nat) (u v : Value) (xs ys : List Int) (w : World) (hbw : base ≤ w.heap.size) (hg : w.heap[gw]? = some (.cells #[u, .bool true] 174)) (ho : OwnN .u8 5 base xs u w) (hxl : xs.length ≤ 65536) (hyl : ys.length ≤ 1000000) (hst : ∀ W, ExtB gw w W → RdK .u8 W.heap.size ys v W) (ok : Bool) (hok : decide (((xs.length + ys.length : Nat) : Int) ≤ 65536) = ok) :
    Calls Try.prog 104 #[.pointer (some ⟨gw, 0, none⟩), v] w (fun e W => e = .returned (.tuple #[]) ∧ GW base gw w W ∧ ∃ u', W.heap[gw]? = some (.cells (cat [#[u'], #[.bool true]]) 174) ∧ OwnN .u8 5 base (xs) u' W) := by
  obtain ⟨a_u, c_u, rfl, -⟩ := id (OwnN.rd ho)
  obtain ⟨a_y, c_y, rfl, -⟩ := id (hst _ (ExtB.refl gw w))
  refine enter 29 [(0, .pointer (some ⟨gw, 0, none⟩)), (1, .slice a_y ys.length c_y)] Try.func104 rfl rfl kj rfl ?_
  refine wp_seq_k fun K2 hK2 => ?_
  refine region_lit ?_
  refine seq_val (.pointer (some ⟨gw, 0, none⟩)) 4 rfl kj kj ?_
  refine seq_val (.pointer (some ⟨gw, 0, none⟩)) 5 rfl kj kj ?_
  refine seq_val (.pointer (some ⟨gw, 0, none⟩)) 6 rfl kj kj ?_
  refine seq_val (.pointer (some ⟨gw, 0, none⟩)) 7 rfl kj kj ?_
  refine seq_val (.slice a_u xs.length c_u) 8 rfl kj (run_loadC1 26 _ gw 0 174 _ (.slice a_u xs.length c_u) _ hg rfl kj kj kj) ?_
  refine seq_val (.int .i64 ((xs.length : Nat) : Int)) 9 rfl kj kj ?_
  refine seq_val (.slice a_y ys.length c_y) 10 rfl kj kj ?_
  refine seq_val (.int .i64 ((ys.length : Nat) : Int)) 11 rfl kj kj ?_
  refine seq_val (.int .i64 ((xs.length + ys.length : Nat) : Int)) 12 rfl kj (run_eq (u := .int .i64 (IntKind.i64.wrap (((xs.length : Nat) : Int) + ((ys.length : Nat) : Int)))) kj (congrArg (Value.int .i64) (i64n _ _ (by omega) (by omega)))) ?_
  refine seq_val (.bool (ok)) 13 rfl kj (run_eq (u := .bool (decide (((xs.length + ys.length : Nat) : Int) ≤ 65536))) kj (congrArg Value.bool hok)) ?_
  refine seq_callR (fun v W' => v = .tuple #[] ∧ ExtB gw w W' ∧ W'.heap[gw]? = some (.cells (cat [#[.slice a_u xs.length c_u], #[.bool true]]) 174)) 98 #[.pointer (some ⟨gw, 0, none⟩), .bool (ok)] 14 rfl kj kj ((mustC gw _ _ _ _ hg).mono (by intro e w' h; exact ⟨_, h.1, rfl, h.2⟩)) fun v W1 h3 => ?_
  obtain ⟨rfl, q1, r1_1⟩ := h3
  have x1 : GW base gw w W1 := GW.trans (GW.refl base gw w) (GW.of_but q1)
  refine seq_nil ?_
  refine hK2 _ _ ?_
  try clear hK2 K2
  refine wp_seq_k fun K4 hK4 => ?_
  refine region_lit ?_
  refine seq_val (.pointer (some ⟨gw, 0, none⟩)) 15 rfl kj kj ?_
  refine seq_val (.pointer (some ⟨gw, 0, none⟩)) 16 rfl kj kj ?_
  refine seq_val (.pointer (some ⟨gw, 1, none⟩)) 17 rfl kj kj ?_
  refine seq_val (.bool true) 18 rfl kj (run_loadC1 4 _ gw 1 174 _ (.bool true) _ r1_1 rfl kj kj kj) ?_
  refine seq_val (.bool false) 19 rfl kj kj ?_
  refine seq_nil ?_
  refine hK4 _ _ ?_
  try clear hK4 K4
  refine cond_false kj ?_
  refine wp_skip ?_
  repeat (first | with_reducible refine goX1 ?_ | with_reducible refine goX2 ?_ | with_reducible refine goX3 ?_)
  have f5_1 := (ownN_but ho q1 (nb_typ ho hg (by decide)))
  exact (show bodyPost _ _ _ .normal _ _ from end0 rfl ⟨rfl, x1, _, r1_1, f5_1⟩)
set_option maxHeartbeats 4000000 in
theorem raw_B (base gw : Nat) (u v : Value) (xs ys : List Int) (w : World) (hbw : base ≤ w.heap.size) (hg : w.heap[gw]? = some (.cells #[u, .bool false] 174)) (ho : OwnN .u8 5 base xs u w) (hxl : xs.length ≤ 65536) (hyl : ys.length ≤ 1000000) (hst : ∀ W, ExtB gw w W → RdK .u8 W.heap.size ys v W) (h : 65536 < xs.length + ys.length) :
    Calls Try.prog 104 #[.pointer (some ⟨gw, 0, none⟩), v] w (fun e W => e = .returned (.tuple #[]) ∧ GW base gw w W ∧ ∃ u', W.heap[gw]? = some (.cells (cat [#[u'], #[.bool true]]) 174) ∧ OwnN .u8 5 base (xs) u' W) := by
  obtain ⟨a_u, c_u, rfl, -⟩ := id (OwnN.rd ho)
  obtain ⟨a_y, c_y, rfl, -⟩ := id (hst _ (ExtB.refl gw w))
  refine enter 29 [(0, .pointer (some ⟨gw, 0, none⟩)), (1, .slice a_y ys.length c_y)] Try.func104 rfl rfl kj rfl ?_
  refine wp_seq_k fun K2 hK2 => ?_
  refine region_lit ?_
  refine seq_val (.pointer (some ⟨gw, 0, none⟩)) 4 rfl kj kj ?_
  refine seq_val (.pointer (some ⟨gw, 0, none⟩)) 5 rfl kj kj ?_
  refine seq_val (.pointer (some ⟨gw, 0, none⟩)) 6 rfl kj kj ?_
  refine seq_val (.pointer (some ⟨gw, 0, none⟩)) 7 rfl kj kj ?_
  refine seq_val (.slice a_u xs.length c_u) 8 rfl kj (run_loadC1 26 _ gw 0 174 _ (.slice a_u xs.length c_u) _ hg rfl kj kj kj) ?_
  refine seq_val (.int .i64 ((xs.length : Nat) : Int)) 9 rfl kj kj ?_
  refine seq_val (.slice a_y ys.length c_y) 10 rfl kj kj ?_
  refine seq_val (.int .i64 ((ys.length : Nat) : Int)) 11 rfl kj kj ?_
  refine seq_val (.int .i64 ((xs.length + ys.length : Nat) : Int)) 12 rfl kj (run_eq (u := .int .i64 (IntKind.i64.wrap (((xs.length : Nat) : Int) + ((ys.length : Nat) : Int)))) kj (congrArg (Value.int .i64) (i64n _ _ (by omega) (by omega)))) ?_
  refine seq_val (.bool false) 13 rfl kj (run_eq (u := .bool (decide (((xs.length + ys.length : Nat) : Int) ≤ 65536))) kj (congrArg Value.bool (decide_eq_false (by omega)))) ?_
  refine seq_callR (fun v W' => v = .tuple #[] ∧ ExtB gw w W' ∧ W'.heap[gw]? = some (.cells (cat [#[.slice a_u xs.length c_u], #[.bool true]]) 174)) 98 #[.pointer (some ⟨gw, 0, none⟩), .bool false] 14 rfl kj kj ((mustC gw _ _ _ _ hg).mono (by intro e w' h; exact ⟨_, h.1, rfl, h.2⟩)) fun v W1 h3 => ?_
  obtain ⟨rfl, q1, r1_1⟩ := h3
  have x1 : GW base gw w W1 := GW.trans (GW.refl base gw w) (GW.of_but q1)
  refine seq_nil ?_
  refine hK2 _ _ ?_
  try clear hK2 K2
  refine wp_seq_k fun K4 hK4 => ?_
  refine region_lit ?_
  refine seq_val (.pointer (some ⟨gw, 0, none⟩)) 15 rfl kj kj ?_
  refine seq_val (.pointer (some ⟨gw, 0, none⟩)) 16 rfl kj kj ?_
  refine seq_val (.pointer (some ⟨gw, 1, none⟩)) 17 rfl kj kj ?_
  refine seq_val (.bool true) 18 rfl kj (run_loadC1 4 _ gw 1 174 _ (.bool true) _ r1_1 rfl kj kj kj) ?_
  refine seq_val (.bool false) 19 rfl kj kj ?_
  refine seq_nil ?_
  refine hK4 _ _ ?_
  try clear hK4 K4
  refine cond_false kj ?_
  refine wp_skip ?_
  repeat (first | with_reducible refine goX1 ?_ | with_reducible refine goX2 ?_ | with_reducible refine goX3 ?_)
  have f5_1 := (ownN_but ho q1 (nb_typ ho hg (by decide)))
  exact (show bodyPost _ _ _ .normal _ _ from end0 rfl ⟨rfl, x1, _, r1_1, f5_1⟩)
set_option maxHeartbeats 4000000 in
theorem raw_C (base gw : Nat) (u v : Value) (xs ys : List Int) (w : World) (hbw : base ≤ w.heap.size) (hg : w.heap[gw]? = some (.cells #[u, .bool false] 174)) (ho : OwnN .u8 5 base xs u w) (hxl : xs.length ≤ 65536) (hyl : ys.length ≤ 1000000) (hst : ∀ W, ExtB gw w W → RdK .u8 W.heap.size ys v W) (h : xs.length + ys.length ≤ 65536) :
    Calls Try.prog 104 #[.pointer (some ⟨gw, 0, none⟩), v] w (fun e W => e = .returned (.tuple #[]) ∧ GW base gw w W ∧ ∃ u', W.heap[gw]? = some (.cells (cat [#[u'], #[.bool false]]) 174) ∧ OwnN .u8 5 base (xs ++ ys) u' W) := by
  obtain ⟨a_u, c_u, rfl, -⟩ := id (OwnN.rd ho)
  obtain ⟨a_y, c_y, rfl, -⟩ := id (hst _ (ExtB.refl gw w))
  refine enter 29 [(0, .pointer (some ⟨gw, 0, none⟩)), (1, .slice a_y ys.length c_y)] Try.func104 rfl rfl kj rfl ?_
  refine wp_seq_k fun K2 hK2 => ?_
  refine region_lit ?_
  refine seq_val (.pointer (some ⟨gw, 0, none⟩)) 4 rfl kj kj ?_
  refine seq_val (.pointer (some ⟨gw, 0, none⟩)) 5 rfl kj kj ?_
  refine seq_val (.pointer (some ⟨gw, 0, none⟩)) 6 rfl kj kj ?_
  refine seq_val (.pointer (some ⟨gw, 0, none⟩)) 7 rfl kj kj ?_
  refine seq_val (.slice a_u xs.length c_u) 8 rfl kj (run_loadC1 26 _ gw 0 174 _ (.slice a_u xs.length c_u) _ hg rfl kj kj kj) ?_
  refine seq_val (.int .i64 ((xs.length : Nat) : Int)) 9 rfl kj kj ?_
  refine seq_val (.slice a_y ys.length c_y) 10 rfl kj kj ?_
  refine seq_val (.int .i64 ((ys.length : Nat) : Int)) 11 rfl kj kj ?_
  refine seq_val (.int .i64 ((xs.length + ys.length : Nat) : Int)) 12 rfl kj (run_eq (u := .int .i64 (IntKind.i64.wrap (((xs.length : Nat) : Int) + ((ys.length : Nat) : Int)))) kj (congrArg (Value.int .i64) (i64n _ _ (by omega) (by omega)))) ?_
  refine seq_val (.bool true) 13 rfl kj (run_eq (u := .bool (decide (((xs.length + ys.length : Nat) : Int) ≤ 65536))) kj (congrArg Value.bool (decide_eq_true (by omega)))) ?_
  refine seq_callR (fun v W' => v = .tuple #[] ∧ ExtB gw w W' ∧ W'.heap[gw]? = some (.cells (cat [#[.slice a_u xs.length c_u], #[.bool false]]) 174)) 98 #[.pointer (some ⟨gw, 0, none⟩), .bool true] 14 rfl kj kj ((mustC gw _ _ _ _ hg).mono (by intro e w' h; exact ⟨_, h.1, rfl, h.2⟩)) fun v W1 h3 => ?_
  obtain ⟨rfl, q1, r1_1⟩ := h3
  have x1 : GW base gw w W1 := GW.trans (GW.refl base gw w) (GW.of_but q1)
  refine seq_nil ?_
  refine hK2 _ _ ?_
  try clear hK2 K2
  refine wp_seq_k fun K4 hK4 => ?_
  refine region_lit ?_
  refine seq_val (.pointer (some ⟨gw, 0, none⟩)) 15 rfl kj kj ?_
  refine seq_val (.pointer (some ⟨gw, 0, none⟩)) 16 rfl kj kj ?_
  refine seq_val (.pointer (some ⟨gw, 1, none⟩)) 17 rfl kj kj ?_
  refine seq_val (.bool false) 18 rfl kj (run_loadC1 4 _ gw 1 174 _ (.bool false) _ r1_1 rfl kj kj kj) ?_
  refine seq_val (.bool true) 19 rfl kj kj ?_
  refine seq_nil ?_
  refine hK4 _ _ ?_
  try clear hK4 K4
  refine cond_true kj ?_
  refine region_lit ?_
  refine seq_val (.pointer (some ⟨gw, 0, none⟩)) 20 rfl kj kj ?_
  refine seq_val (.pointer (some ⟨gw, 0, none⟩)) 21 rfl kj kj ?_
  refine seq_val (.pointer (some ⟨gw, 0, none⟩)) 22 rfl kj kj ?_
  refine seq_val (.pointer (some ⟨gw, 0, none⟩)) 23 rfl kj kj ?_
  refine seq_val (.slice a_u xs.length c_u) 24 rfl kj (run_loadC1 26 _ gw 0 174 _ (.slice a_u xs.length c_u) _ r1_1 rfl kj kj kj) ?_
  refine seq_val (.slice a_y ys.length c_y) 25 rfl kj kj ?_
  have f5_1 := (ownN_but ho q1 (nb_typ ho hg (by decide)))
  refine seq_appendW base gw 1 (.tmp 24) (.tmp 25) 26 rfl kj kj (by decide) 26 rfl kj kj kj f5_1 (hst _ q1) (by omega) (Nat.le_trans hbw x1.size) r1_1 fun u2 W2 ho2 q2 r1_2 => ?_
  have x2 : GW base gw w W2 := GW.trans x1 q2
  have hnb2 : u2.ownBlock ≠ some gw := nb_typ ho2 r1_2 (by decide)
  obtain ⟨a2_, c2_, rfl, -⟩ := id (OwnN.rd ho2)
  refine seq_val (.pointer (some ⟨gw, 0, none⟩)) 27 rfl kj kj ?_
  refine seq_val (.pointer (some ⟨gw, 0, none⟩)) 28 rfl kj kj ?_
  refine seq_store gw _ (cat [#[.slice a2_ ((xs ++ ys).length) c2_], #[.bool false]]) 174 r1_2 rfl kj (run_storeC1 26 _ _ gw 0 174 _ (.slice a2_ ((xs ++ ys).length) c2_) r1_2 rfl kj kj kj kj kj rfl) fun W3 p3 r1_3 => ?_
  have x3 : GW base gw w W3 := GW.putg x2 p3
  refine seq_nil ?_
  repeat (first | with_reducible refine goX1 ?_ | with_reducible refine goX2 ?_ | with_reducible refine goX3 ?_)
  have f7_3 := (ho2.puts p3 hnb2)
  exact (show bodyPost _ _ _ .normal _ _ from end0 rfl ⟨rfl, x3, _, r1_3, f7_3⟩)
theorem rawW (base gw : Nat) (s : Option (List Int)) (ys : List Int) (v : Value) (w : World) (hbw : base ≤ w.heap.size) (h : WSt base gw s w) (hyl : ys.length ≤ 1000000) (hyb : AreBytes ys) (hst : ∀ W, ExtB gw w W → RdK .u8 W.heap.size ys v W) : Calls Try.prog 104 #[.pointer (some ⟨gw, 0, none⟩), v] w (fun e W => e = .returned (.tuple #[]) ∧ GW base gw w W ∧ WSt base gw (rawS s ys) W) := by
  obtain ⟨u, xs, bad, h1, h2, h3, h4, rfl⟩ := h
  cases bad with
  | true =>
    refine (raw_A base gw u v xs ys w hbw h1 h2 h3 hyl hst _ rfl).mono fun e W ⟨a, b, u', c, d⟩ => ⟨a, b, u', xs, true, c, d, h3, h4, rfl⟩
  | false =>
    by_cases hf : xs.length + ys.length ≤ 65536
    · refine (raw_C base gw u v xs ys w hbw h1 h2 h3 hyl hst hf).mono fun e W ⟨a, b, u', c, d⟩ => ⟨a, b, u', xs ++ ys, false, c, d, by rw [List.length_append]; omega, bytes_app h4 hyb, ?_⟩
      show rawS (some xs) ys = some (xs ++ ys)
      exact if_pos hf
    · refine (raw_B base gw u v xs ys w hbw h1 h2 h3 hyl hst (by omega)).mono fun e W ⟨a, b, u', c, d⟩ => ⟨a, b, u', xs, true, c, d, h3, h4, ?_⟩
      show rawS (some xs) ys = none
      exact if_neg hf

end Go.Proofs.Ytfelfmchachljaa.Wr
