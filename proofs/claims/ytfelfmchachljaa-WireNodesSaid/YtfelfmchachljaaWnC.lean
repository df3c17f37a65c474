/- A list of leaves is written. -/
import Derived.Test.YtfelfmchachljaaWnB
namespace Go.Proofs.Ytfelfmchachljaa.Wr
open Go Go.RowKit
open Go.Proofs.Ytfelfmchachljaa.Rely Go.Proofs.Ytfelfmchachljaa.Auto Go.Proofs.Ytfelfmchachljaa.Own Go.Proofs.Ytfelfmchachljaa.Sha
set_option linter.unusedVariables false
set_option linter.unusedSimpArgs false

/-- a list of leaves is written -/
def leavesS (s : Option (List Int)) (ms : List Int) : Option (List Int) := ms.foldl leafS (numS s ((ms.length : Nat) : Int) 1)
theorem leafS_none (n : Int) : leafS none n = none := by rw [leafS_eq]; cases inB n 31 <;> rfl
theorem leaves_none : ∀ ms : List Int, ms.foldl leafS none = none
  | [] => rfl
  | m :: r => by rw [List.foldl_cons, leafS_none]; exact leaves_none r
theorem drop_nth (ms : List Int) (i : Nat) (h : i < ms.length) : ms.drop i = nth ms i :: ms.drop (i + 1) := by
  rw [List.drop_eq_getElem_cons h]
  congr 1
  unfold nth
  rw [List.getD_eq_getElem?_getD, List.getElem?_eq_getElem h]
  rfl
theorem rd_gwK {k : IntKind} {base gw : Nat} {w W : World} {ys : List Int} {v : Value} (h : RdK k base ys v w) (q : GW base gw w W) (hb : base ≤ gw) : RdK k base ys v W := h.keep q.size fun g hg hl => q.block g hl (by omega) (.inl hg)
set_option maxHeartbeats 4000000 in
theorem putLeavesW (base gw : Nat) (s : Option (List Int)) (ms : List Int) (a_m : Option Addr) (c_m : Nat) (w : World) (hbw : base ≤ w.heap.size) (hbg : base ≤ gw) (h : WSt base gw s w) (hml : ms.length ≤ 1000000) (hm : RdK .i64 base ms (.slice a_m ms.length c_m) w) : Calls Try.prog 122 #[.pointer (some ⟨gw, 0, none⟩), .slice a_m ms.length c_m, .func (.func 106) #[] #[]] w (fun e W => e = .returned (.tuple #[]) ∧ GW base gw w W ∧ WSt base gw (leavesS s ms) W) := by
  have hgw := h.lt
  refine enter 27 [(0, .pointer (some ⟨gw, 0, none⟩)), (1, .slice a_m ms.length c_m), (2, .func (.func 106) #[] #[])] Try.func122 rfl rfl kj rfl ?_
  refine wp_seq_k fun K1 hK1 => ?_
  refine region_lit ?_
  refine seq_val (.pointer (some ⟨gw, 0, none⟩)) 8 rfl kj kj ?_
  refine seq_val (.slice a_m ms.length c_m) 9 rfl kj kj ?_
  refine seq_val (.int .i64 ((ms.length : Nat) : Int)) 10 rfl kj kj ?_
  refine seq_callR (fun v W' => v = .tuple #[] ∧ GW base gw w W' ∧ WSt base gw (numS s ((ms.length : Nat) : Int) 1) W') 105 #[.pointer (some ⟨gw, 0, none⟩), .int .i64 ((ms.length : Nat) : Int), .int .i64 1] 11 rfl kj kj ((numberW base gw s ((ms.length : Nat) : Int) 1 _ (Nat.le_trans hbw (GW.refl base gw w).size) h (by decide)).mono (by rintro e w' ⟨rfl, h1, h2⟩; exact ⟨_, rfl, rfl, h1, h2⟩)) fun v2 W1 h2 => ?_
  obtain ⟨rfl, q1, ws2⟩ := h2
  have x1 : GW base gw w W1 := GW.trans (GW.refl base gw w) q1
  refine seq_nil ?_
  refine hK1 _ _ ?_
  try clear hK1 K1
  refine wp_seq_k fun K3 hK3 => ?_
  refine region_lit ?_
  refine seq_val (.slice a_m ms.length c_m) 12 rfl kj kj ?_
  refine seq_val (.int .i64 ((ms.length : Nat) : Int)) 13 rfl kj kj ?_
  refine seq_val (.int .i64 0) 14 rfl kj kj ?_
  refine seq_nil ?_
  refine hK3 _ _ ?_
  try clear hK3 K3
  refine wp_block ?_
  refine loop_auto (fun (s1 : Nat × Option (List Int)) => [(0, .pointer (some ⟨gw, 0, none⟩)), (2, .func (.func 106) #[] #[]), (12, .slice a_m ms.length c_m), (13, .int .i64 ((ms.length : Nat) : Int)), (14, .int .i64 ((s1.1 : Nat) : Int))]) (fun (s1 : Nat × Option (List Int)) W => (s1.1 ≤ ms.length) ∧ (WSt base gw s1.2 W) ∧ ((ms.drop s1.1).foldl leafS s1.2 = leavesS s ms) ∧ (GW base gw w W)) (fun (s1 : Nat × Option (List Int)) => ms.length - s1.1) (0, numS s ((ms.length : Nat) : Int) 1) ⟨rfl, rfl, rfl, rfl, rfl, trivial⟩ ⟨(Nat.zero_le _), ws2, rfl, x1⟩ fun s1 X1 V1 hI1 => ?_
  obtain ⟨i, sc⟩ := s1
  obtain ⟨hi, hws, hnum, xx1⟩ := hI1
  replace hi : i ≤ ms.length := hi
  replace hws : WSt base gw sc V1 := hws
  replace hnum : (ms.drop i).foldl leafS sc = leavesS s ms := hnum
  replace xx1 : GW base gw w V1 := xx1
  refine wp_seq_k fun K4 hK4 => ?_
  refine region_lit ?_
  refine seq_val (.bool (decide (((i : Nat) : Int) < ((ms.length : Nat) : Int)))) 15 rfl kj kj ?_
  refine seq_nil ?_
  refine hK4 _ _ ?_
  try clear hK4 K4
  refine wp_seq_k fun K5 hK5 => ?_
  refine cond_split (t := decide (((i : Nat) : Int) < ((ms.length : Nat) : Int))) kj (fun c6 => ?_) (fun c6 => ?_)
  · skip
    have hlt15 : i < ms.length := by have := of_decide_eq_true c6; omega
    have hnm_7 : (ms).length = ms.length := rfl
    obtain ⟨gcm_7, ocm_7, ham_7, hlm_7, hcm_7⟩ := rdK_open (RdK.here (rd_gwK hm xx1 hbg)) (by rw [hnm_7]; omega)
    obtain ⟨u8, xs8, bad, rb8, -, -, -, hsc⟩ := id hws
    refine wp_skip ?_
    refine hK5 _ _ ?_
    try clear hK5 K5
    refine wp_seq_k fun K10 hK10 => ?_
    refine wp_block ?_
    refine wp_seq_k fun K11 hK11 => ?_
    refine region_lit ?_
    refine seq_val (.pointer (some ⟨gcm_7, ocm_7 + i, none⟩)) 16 rfl kj (run_indexA 41 _ _ .i64 i gcm_7 ocm_7 ms.length c_m 3 a_m _ ham_7 rfl rfl kj kj kj kj (Nat.lt_of_lt_of_eq (show i < ms.length by omega) hnm_7.symm)) ?_
    refine seq_val (.int .i64 (nth (ms) (i))) 17 rfl kj (run_loadCell 3 _ _ (.int .i64 (nth (ms) (i))) (hcm_7 i (Nat.lt_of_lt_of_eq (show i < ms.length by omega) hnm_7.symm)) rfl kj kj) ?_
    refine seq_val (.int .i64 (nth (ms) (i))) 7 rfl kj kj ?_
    refine seq_nil ?_
    refine hK11 _ _ ?_
    try clear hK11 K11
    refine wp_seq_k fun K12 hK12 => ?_
    refine wp_seq_k fun K13 hK13 => ?_
    refine region_lit ?_
    refine seq_val (.pointer (some ⟨gw, 0, none⟩)) 18 rfl kj kj ?_
    refine seq_val (.pointer (some ⟨gw, 0, none⟩)) 19 rfl kj kj ?_
    refine seq_val (.pointer (some ⟨gw, 1, none⟩)) 20 rfl kj kj ?_
    refine seq_val (.bool bad) 21 rfl kj (run_loadC1 4 _ gw 1 174 _ (.bool bad) _ rb8 rfl kj kj kj) ?_
    refine seq_nil ?_
    refine hK13 _ _ ?_
    try clear hK13 K13
    refine cond_split (t := bad) kj (fun c14 => ?_) (fun c14 => ?_)
    · skip
      have hbad : bad = true := c14
      have h9 : sc = none := by rw [hsc, hbad]; rfl
      have h8 : leavesS s ms = none := by rw [← hnum, h9]; exact leaves_none _
      refine wp_ret ?_
      repeat (first | with_reducible refine goR1 ?_ | with_reducible refine goR2 ?_)
      exact (show bodyPost _ _ _ .ret _ _ from ret0 rfl ⟨rfl, xx1, by rw [h8]; rw [h9] at hws; exact hws⟩)
    · skip
      refine wp_skip ?_
      refine hK12 _ _ ?_
      try clear hK12 K12
      refine region_lit ?_
      refine seq_val (.func (.func 106) #[] #[]) 22 rfl kj kj ?_
      refine seq_val (.pointer (some ⟨gw, 0, none⟩)) 23 rfl kj kj ?_
      refine seq_val (.int .i64 (nth (ms) (i))) 24 rfl kj kj ?_
      refine seq_callR (fun v W' => v = .tuple #[] ∧ GW base gw V1 W' ∧ WSt base gw (leafS sc (nth ms i)) W') 106 #[.pointer (some ⟨gw, 0, none⟩), .int .i64 (nth (ms) (i))] 25 rfl kj kj ((leafW base gw sc (nth ms i) _ (Nat.le_trans hbw xx1.size) hws).mono (by rintro e w' ⟨rfl, h1, h2⟩; exact ⟨_, rfl, rfl, h1, h2⟩)) fun v15 W3 h15 => ?_
      obtain ⟨rfl, q3, ws15⟩ := h15
      have x3 : GW base gw w W3 := GW.trans xx1 q3
      refine seq_nil ?_
      refine hK10 _ _ ?_
      try clear hK10 K10
      refine region_lit ?_
      refine seq_val (.int .i64 ((i + 1 : Nat) : Int)) 26 rfl kj (run_eq (u := .int .i64 (IntKind.i64.wrap (((i : Nat) : Int) + 1))) kj (congrArg (Value.int .i64) (i64n _ _ (by omega) (by omega)))) ?_
      refine seq_val (.int .i64 ((i + 1 : Nat) : Int)) 14 rfl kj kj ?_
      refine seq_nil ?_
      repeat (first | with_reducible refine goX1 ?_ | with_reducible refine goX2 ?_ | with_reducible refine goX3 ?_)
      exact goes_then ((i + 1), leafS sc (nth ms i)) ⟨rfl, rfl, rfl, rfl, rfl, trivial⟩ ⟨(by omega), ws15, (by rw [← hnum, drop_nth ms i hlt15]; rfl), x3⟩ (by omega)
  · skip
    have heq15 : i = ms.length := by have := of_decide_eq_false c6; omega
    refine wp_exit ?_
    repeat (first | with_reducible refine goX1 ?_ | with_reducible refine goX2 ?_ | with_reducible refine goX3 ?_)
    exact (show bodyPost _ _ _ .normal _ _ from end0 rfl ⟨rfl, xx1, by have h9 : sc = leavesS s ms := (by have h7 := hnum; rw [heq15, List.drop_length] at h7; exact h7); rw [h9] at hws; exact hws⟩)

end Go.Proofs.Ytfelfmchachljaa.Wr
