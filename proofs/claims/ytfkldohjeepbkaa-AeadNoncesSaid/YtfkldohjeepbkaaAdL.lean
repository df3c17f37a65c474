/- The law AeadNonces. -/
import Derived.Test.YtfkldohjeepbkaaApA
namespace Go.Proofs.Ytfkldohjeepbkaa.Ad
open Go Go.RowKit
open Go.Proofs.Ytfkldohjeepbkaa.Rely Go.Proofs.Ytfkldohjeepbkaa.Auto Go.Proofs.Ytfkldohjeepbkaa.Own
set_option linter.unusedVariables false

theorem sameT (x y : Value) (xs : List Int) (w : World) (hx : BytesAt w x xs) (hy : BytesAt w y xs) : Calls Try.prog 6 #[x, y] w (Ret w (.bool true)) := by
  have h := sameC x y xs xs w hx hy
  rwa [decide_eq_true rfl] at h
theorem z_bytes (n : Int) : AreBytes ([0, 0, 0, 0] ++ leN n) := fun x hx => by
  rcases List.mem_append.1 hx with h | h
  · simp at h; omega
  · exact leN_bytes n x h
theorem apart2 {base gl ga gb ca cb : Nat} {cura curb : Array Value} {xs ys : List Int} {w : World} (hx : xs.length = 12) (hy : ys.length = 12) (hbase : base ≤ w.heap.size) (hrow : w.heap[gl]? = some (.cells #[.slice (some ⟨ga, 0, none⟩) 12 ca, .slice (some ⟨gb, 0, none⟩) 12 cb] 22))
    (ha : OwnAt base ga ca cura xs w) (hb : OwnAt base gb cb curb ys w) (hne : ga ≠ gb) : Calls Try.prog 8 #[.slice (some ⟨gl, 0, none⟩) 2 2] w fun e w' => e = .returned (.bool true) ∧ Below base w w' := by
  refine apartC base gl 2 (fun i => if i = 0 then .slice (some ⟨ga, 0, none⟩) 12 ca else .slice (some ⟨gb, 0, none⟩) 12 cb) (fun _ => 12) _ w hbase hrow (fun i hi => ?_) (by omega) (fun i hi => by omega) (fun i hi => ?_) (fun i j hi hj hn he => ?_)
  · rcases (show i = 0 ∨ i = 1 by omega) with rfl | rfl <;> rfl
  · rcases (show i = 0 ∨ i = 1 by omega) with rfl | rfl
    · exact ⟨xs, hx, .inr ⟨ga, ca, cura, by rw [hx]; rfl, ha⟩⟩
    · exact ⟨ys, hy, .inr ⟨gb, cb, curb, by rw [hy]; rfl, hb⟩⟩
  · rcases (show i = 0 ∨ i = 1 by omega) with rfl | rfl <;> rcases (show j = 0 ∨ j = 1 by omega) with rfl | rfl
    · exact absurd rfl hn
    · exact absurd (Option.some.inj he) hne
    · exact absurd (Option.some.inj he).symm hne
    · exact absurd rfl hn
set_option maxHeartbeats 4000000 in
theorem lawN (n : Int) (w : World) : Calls Try.prog 3 #[.int .i64 n] w (Ret w (.bool true)) := by
  refine enter 34 [(0, .int .i64 n)] Try.func3 rfl rfl (by kernel_rfl) rfl ?_
  refine wp_seq_k fun K1 hK1 => ?_
  refine region_lit ?_
  refine seq_val (.bool false) 2 rfl (by kernel_rfl) (by kernel_rfl) ?_
  refine seq_nil ?_
  refine hK1 _ _ ?_
  try clear hK1 K1
  refine wp_seq_k fun K2 hK2 => ?_
  refine region_lit ?_
  refine seq_callR (fun v W' => OwnB w.heap.size ([0, 0, 0, 0] ++ leN 258) v W' ∧ Ext w W') 5 #[.int .i64 258] 4 rfl (by kernel_rfl) (by kernel_rfl) ((nonceC 258 _).mono (by rintro e w' ⟨v, rfl, e1, hv⟩; exact ⟨v, rfl, hv, e1⟩)) fun v W1 h => ?_
  obtain ⟨⟨g1, c1, cur1, rfl, hO1⟩, e1⟩ := h
  have x1 : Ext w W1 := Ext.tr (Rely.Ext.refl w) e1
  refine seq_val (.slice (some ⟨g1, 0, none⟩) 12 c1) 3 rfl (by kernel_rfl) (by kernel_rfl) ?_
  refine seq_nil ?_
  refine hK2 _ _ ?_
  try clear hK2 K2
  refine wp_seq_k fun K4 hK4 => ?_
  refine region_lit ?_
  refine seq_val (.slice (some ⟨g1, 0, none⟩) 12 c1) 5 rfl (by kernel_rfl) (by kernel_rfl) ?_
  refine seq_val (.int .i64 12) 6 rfl (by kernel_rfl) (by kernel_rfl) ?_
  refine seq_val (.bool true) 7 rfl (by kernel_rfl) (by kernel_rfl) ?_
  refine seq_val (.bool true) 8 rfl (by kernel_rfl) (by kernel_rfl) ?_
  refine seq_val (.slice (some ⟨g1, 0, none⟩) 12 c1) 9 rfl (by kernel_rfl) (by kernel_rfl) ?_
  have hc10 := hO1.cell 4 (show 4 < 12 by decide)
  replace hc10 : W1.cell? ⟨g1, 4, none⟩ = some (.int .u8 2) := hc10
  refine seq_val (.pointer (some ⟨g1, 4, none⟩)) 10 rfl (by kernel_rfl) (run_indexS0 22 _ _ .i64 (4) g1 12 c1 5 rfl (by kernel_rfl) (by kernel_rfl) (by kernel_rfl) (by kernel_rfl) (by decide)) ?_
  refine seq_val (.int .u8 2) 11 rfl (by kernel_rfl) (run_loadCell 5 _ _ (.int .u8 2) hc10 rfl (by kernel_rfl) (by kernel_rfl)) ?_
  refine seq_val (.bool true) 12 rfl (by kernel_rfl) (by kernel_rfl) ?_
  refine seq_val (.bool true) 13 rfl (by kernel_rfl) (by kernel_rfl) ?_
  refine seq_val (.bool true) 14 rfl (by kernel_rfl) (by kernel_rfl) ?_
  refine seq_val (.slice (some ⟨g1, 0, none⟩) 12 c1) 15 rfl (by kernel_rfl) (by kernel_rfl) ?_
  have hc16 := hO1.cell 5 (show 5 < 12 by decide)
  replace hc16 : W1.cell? ⟨g1, 5, none⟩ = some (.int .u8 1) := hc16
  refine seq_val (.pointer (some ⟨g1, 5, none⟩)) 16 rfl (by kernel_rfl) (run_indexS0 22 _ _ .i64 (5) g1 12 c1 5 rfl (by kernel_rfl) (by kernel_rfl) (by kernel_rfl) (by kernel_rfl) (by decide)) ?_
  refine seq_val (.int .u8 1) 17 rfl (by kernel_rfl) (run_loadCell 5 _ _ (.int .u8 1) hc16 rfl (by kernel_rfl) (by kernel_rfl)) ?_
  refine seq_val (.bool true) 18 rfl (by kernel_rfl) (by kernel_rfl) ?_
  refine seq_val (.bool true) 19 rfl (by kernel_rfl) (by kernel_rfl) ?_
  refine seq_val (.bool true) 20 rfl (by kernel_rfl) (by kernel_rfl) ?_
  refine seq_val (.int .i64 n) 21 rfl (by kernel_rfl) (by kernel_rfl) ?_
  refine seq_callR (fun v W' => OwnB W1.heap.size ([0, 0, 0, 0] ++ leN n) v W' ∧ Ext W1 W') 5 #[.int .i64 n] 22 rfl (by kernel_rfl) (by kernel_rfl) ((nonceC n _).mono (by rintro e w' ⟨v, rfl, e1, hv⟩; exact ⟨v, rfl, hv, e1⟩)) fun v W2 h => ?_
  obtain ⟨⟨g2, c2, cur2, rfl, hO2⟩, e2⟩ := h
  have x2 : Ext w W2 := Ext.tr x1 e2
  refine seq_val (.int .i64 n) 23 rfl (by kernel_rfl) (by kernel_rfl) ?_
  refine seq_callR (fun v W' => OwnB W2.heap.size ([0, 0, 0, 0] ++ leN n) v W' ∧ Ext W2 W') 7 #[.int .i64 n] 24 rfl (by kernel_rfl) (by kernel_rfl) ((refNonceC n _).mono (by rintro e w' ⟨v, rfl, e1, hv⟩; exact ⟨v, rfl, hv, e1⟩)) fun v W3 h => ?_
  obtain ⟨⟨g3, c3, cur3, rfl, hO3⟩, e3⟩ := h
  have x3 : Ext w W3 := Ext.tr x2 e3
  refine seq_call (.bool true) 6 #[.slice (some ⟨g2, 0, none⟩) 12 c2, .slice (some ⟨g3, 0, none⟩) 12 c3] 25 rfl (by kernel_rfl) (by kernel_rfl) (sameT _ _ ([0, 0, 0, 0] ++ leN n) _ (OwnB.bytes ⟨_, _, _, rfl, (hO2.ext e3)⟩ (z_bytes n)) (OwnB.bytes ⟨_, _, _, rfl, hO3⟩ (z_bytes n))) fun W4 e4 => ?_
  have x4 : Ext w W4 := Ext.tr x3 e4
  refine seq_val (.bool true) 26 rfl (by kernel_rfl) (by kernel_rfl) ?_
  refine seq_val (.bool true) 27 rfl (by kernel_rfl) (by kernel_rfl) ?_
  refine seq_val (.int .i64 n) 28 rfl (by kernel_rfl) (by kernel_rfl) ?_
  refine seq_callR (fun v W' => OwnB W4.heap.size ([0, 0, 0, 0] ++ leN n) v W' ∧ Ext W4 W') 5 #[.int .i64 n] 29 rfl (by kernel_rfl) (by kernel_rfl) ((nonceC n _).mono (by rintro e w' ⟨v, rfl, e1, hv⟩; exact ⟨v, rfl, hv, e1⟩)) fun v W5 h => ?_
  obtain ⟨⟨g5, c5, cur5, rfl, hO5⟩, e5⟩ := h
  have x5 : Ext w W5 := Ext.tr x4 e5
  refine seq_val (.slice (some ⟨g1, 0, none⟩) 12 c1) 30 rfl (by kernel_rfl) (by kernel_rfl) ?_
  refine seq_makeS (#[.slice (some ⟨g5, 0, none⟩) 12 c5, .slice (some ⟨g1, 0, none⟩) 12 c1]) 22 2 31 rfl (by kernel_rfl) (by kernel_rfl) fun g10 W6 l10 e6 r10_6 => ?_
  have x6 : Ext w W6 := Ext.tr x5 e6
  have b10 : w.heap.size ≤ g10 := Nat.le_trans x5.size l10
  refine seq_callR (fun v W' => v = .bool true ∧ Below w.heap.size W6 W') 8 #[.slice (some ⟨g10, 0, none⟩) 2 2] 32 rfl (by kernel_rfl) (by kernel_rfl) ((apart2 (xs := ([0, 0, 0, 0] ++ leN n)) (ys := ([0, 0, 0, 0] ++ leN 258)) rfl rfl x6.size r10_6 (show OwnAt w.heap.size g5 c5 _ ([0, 0, 0, 0] ++ leN n) _ from ⟨Nat.le_trans x4.size (hO5.ext e6).1, (hO5.ext e6).2⟩) (show OwnAt w.heap.size g1 c1 _ ([0, 0, 0, 0] ++ leN 258) _ from ⟨Nat.le_trans (Rely.Ext.refl w).size (((((hO1.ext e2).ext e3).ext e4).ext e5).ext e6).1, (((((hO1.ext e2).ext e3).ext e4).ext e5).ext e6).2⟩) (by have h1 := hO5.1; have h2 := row_lt ((((hO1.ext e2).ext e3).ext e4)).2.1; omega)).mono (by rintro e w' ⟨h1, h2⟩; exact ⟨_, h1, rfl, h2⟩)) fun v W7 h => ?_
  obtain ⟨rfl, bb⟩ := h
  have x7 : Ext w W7 := Below.trans x6 bb
  refine seq_val (.bool true) 33 rfl (by kernel_rfl) (by kernel_rfl) ?_
  refine seq_val (.bool true) 2 rfl (by kernel_rfl) (by kernel_rfl) ?_
  refine seq_nil ?_
  refine hK4 _ _ ?_
  try clear hK4 K4
  refine wp_ret ?_
  repeat (first | with_reducible refine goR1 ?_ | with_reducible refine goR2 ?_)
  exact (show bodyPost _ _ _ .ret _ _ from ret1 (.bool true) rfl (res_tmp (by kernel_rfl)) ⟨rfl, x7⟩)

end Go.Proofs.Ytfkldohjeepbkaa.Ad
