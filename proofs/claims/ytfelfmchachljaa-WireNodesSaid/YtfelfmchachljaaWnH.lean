/- The reference: a node's bytes. -/
import Derived.Test.YtfelfmchachljaaWnG
namespace Go.Proofs.Ytfelfmchachljaa.Wr
open Go Go.RowKit
open Go.Proofs.Ytfelfmchachljaa.Rely Go.Proofs.Ytfelfmchachljaa.Auto Go.Proofs.Ytfelfmchachljaa.Own Go.Proofs.Ytfelfmchachljaa.Sha
set_option linter.unusedVariables false
set_option linter.unusedSimpArgs false

open Go.Proofs.Ytfelfmchachljaa.Wk
section
variable {P : Program} {ops : Array Oper} {Q : Exit → Act → World → Prop} {o : Oper} {N : Nat} {L : Env} {w V : World} {ds : List Deferred} {fuel : Nat} {listed : Array Bool}
theorem wo_appendT {k : IntKind} {T : TypeId} (b : Nat) (s x : Operand) (t : TypeId) (ho2 : o.op = .call { callee := .builtin .append, args := #[s, x], argTypes := #[t, t] })
    (ht : P.underlying t = some (.slice T)) (hi : (P.info? T).map (fun i => (i.zero, i.size, i.bytes)) = some (some (.int k 0), 1, b)) (hb8 : b ≤ 8) (d : Nat) (hd : o.dst = some d) (j : Nat) (ho : ops[j]? = some o) (hg : wantB ops o N L = some true) {B : Nat} {v y : Value} {xs ys : List Int}
    (hs : Rely.look (envN N L) s = v) (hx : Rely.look (envN N L) x = y)
    (h : OwnN k T V.heap.size xs v w) (hy : RdK k B ys y w) (hn : xs.length + ys.length ≤ 1000000000) (hV : Ext V w)
    (kk : ∀ (u : Value) (W' : World), OwnN k T V.heap.size (xs ++ ys) u W' → Ext V W' → Below V.heap.size w W' → WB P ops Q (fun _ => True) fuel (listed.setIfInBounds j true) (actOf ds N ((d, u) :: L)) W') : WO P ops Q (fun _ => True) j fuel listed (actOf ds N L) w := by
  obtain ⟨v', W', h1, h2, h3, h4⟩ := append_N (ρ := Rely.look (envN N L)) (o := o) (W := w) s x t ho2 ht hi hb8 hs hx h hy hn hV.size
  exact wo_run ho (fun u W' => OwnN k T V.heap.size (xs ++ ys) u W' ∧ Ext V W' ∧ Below V.heap.size w W') d hd hg ⟨v', W', h1, h2, ext_own hV h h3, ⟨h3.os, h3.tape, h3.output, h3.size, fun i hi => h3.block i (Nat.lt_of_lt_of_le hi hV.size) (fun q => by have := h.ge q.symm; omega)⟩⟩ (fun _ _ _ => trivial) fun u W' h => kk u W' h.1 h.2.1 h.2.2
end
/-- a node's bytes -/
def nodeH (us : Bool) (nm : Int) (key sg pa : List Int) (n : Nat) : List Int := [bif us then 1 else 0, byV nm 0] ++ key ++ sg ++ pa ++ [byV ((n : Nat) : Int) 0]
def nodeV (us : Bool) (nm : Int) (key sg pa ms : List Int) : List Int := nodeH us nm key sg pa ms.length ++ ms.map fun m => byV m 0
theorem nodeV_step (H ms : List Int) (i : Nat) (h : i < ms.length) : H ++ (ms.take (i + 1)).map (fun m => byV m 0) = H ++ (ms.take i).map (fun m => byV m 0) ++ [byV (nth ms i) 0] := by
  have e : ms.take (i + 1) = ms.take i ++ [nth ms i] := by
    rw [List.take_add_one, List.getElem?_eq_getElem h]
    unfold nth
    rw [List.getD_eq_getElem?_getD, List.getElem?_eq_getElem h]
    rfl
  rw [e, List.map_append, ← List.append_assoc]
  rfl
set_option maxHeartbeats 4000000 in
theorem rnode_true (nm : Int) (key sg pa ms : List Int) (a_m : Option Addr) (c_m : Nat) (w : World) (hkl : key.length = 32) (hgl : sg.length = 32) (hpl : pa.length = 32) (hml : ms.length ≤ 1000000) (hm : RdK .i64 w.heap.size ms (.slice a_m ms.length c_m) w) : Calls Try.prog 97 #[.agg (cat [#[.bool true], #[.int .i64 nm], ints .u8 (key), ints .u8 (sg), ints .u8 (pa), #[.slice a_m ms.length c_m]])] w (Gives w (OwnN .u8 5 w.heap.size (nodeV true nm key sg pa ms))) := by
  refine enter 47 [(0, .agg (cat [#[.bool true], #[.int .i64 nm], ints .u8 (key), ints .u8 (sg), ints .u8 (pa), #[.slice a_m ms.length c_m]]))] Try.func97 rfl rfl kj rfl ?_
  refine wp_seq_k fun K1 hK1 => ?_
  refine region_lit ?_
  refine seq_alloc (cat [#[.bool true], #[.int .i64 nm], ints .u8 (key), ints .u8 (sg), ints .u8 (pa), #[.slice a_m ms.length c_m]]) 43 1 rfl kj kj fun g2 W1 l2 e1 r2_1 => ?_
  have x1 : Ext w W1 := Ext.tr (Rely.Ext.refl w) e1
  have b2 : w.heap.size ≤ g2 := Nat.le_trans (Rely.Ext.refl w).size l2
  refine seq_val (.slice none 0 0) 2 rfl kj kj ?_
  refine seq_nil ?_
  refine hK1 _ _ ?_
  try clear hK1 K1
  refine wp_seq_k fun K3 hK3 => ?_
  refine region_lit ?_
  refine seq_val (.pointer (some ⟨g2, 1, none⟩)) 5 rfl kj kj ?_
  refine seq_val (.int .i64 nm) 6 rfl kj (run_loadC1 3 _ g2 1 43 _ (.int .i64 nm) _ r2_1 rfl kj (cat_part [#[.bool true]] [#[.int .i64 nm]] [ints .u8 (key), ints .u8 (sg), ints .u8 (pa), #[.slice a_m ms.length c_m]] 1 kj 0 _ rfl) kj) ?_
  refine seq_val (.int .u8 (byV nm 0)) 7 rfl kj (run_eq (u := .int .u8 (IntKind.u8.wrap (nm))) kj (congrArg (Value.int .u8) (byV0 nm))) ?_
  refine seq_makeS (ints .u8 ([0, (byV nm 0)])) 5 2 8 rfl kj kj fun g4 W2 l4 e2 r4_2 => ?_
  have x2 : Ext w W2 := Ext.tr x1 e2
  have b4 : w.heap.size ≤ g4 := Nat.le_trans x1.size l4
  refine seq_val (.slice (some ⟨g4, 0, none⟩) 2 2) 3 rfl kj kj ?_
  refine seq_nil ?_
  refine hK3 _ _ ?_
  try clear hK3 K3
  refine wp_seq_k fun K5 hK5 => ?_
  refine wp_seq_k fun K6 hK6 => ?_
  refine region_lit ?_
  refine seq_val (.pointer (some ⟨g2, 0, none⟩)) 9 rfl kj kj ?_
  have r2_2 := (row_ext r2_1 e2)
  refine seq_val (.bool true) 10 rfl kj (run_loadC1 4 _ g2 0 43 _ (.bool true) _ r2_2 rfl kj (cat_part [] [#[.bool true]] [#[.int .i64 nm], ints .u8 (key), ints .u8 (sg), ints .u8 (pa), #[.slice a_m ms.length c_m]] 0 kj 0 _ rfl) kj) ?_
  refine seq_nil ?_
  refine hK6 _ _ ?_
  try clear hK6 K6
  refine cond_true kj ?_
  refine region_lit ?_
  refine seq_val (.slice (some ⟨g4, 0, none⟩) 2 2) 11 rfl kj kj ?_
  refine seq_val (.pointer (some ⟨g4, 0, none⟩)) 12 rfl kj (run_indexS0 26 _ _ .i64 (0) g4 2 2 5 rfl kj kj kj kj (by decide)) ?_
  refine seq_store g4 _ (ints .u8 (([0, (byV nm 0)]).set 0 1)) 5 r4_2 rfl kj (run_storeI 5 _ _ g4 0 5 _ _ r4_2 rfl kj kj kj (Nat.lt_of_lt_of_eq (show 0 < 2 by decide) rfl.symm)) fun W3 p3 r4_3 => ?_
  have x3 : Ext w W3 := Puts.ext p3 x2 b4
  refine seq_nil ?_
  refine hK5 _ _ ?_
  try clear hK5 K5
  refine wp_seq_k fun K7 hK7 => ?_
  refine region_walkG (fun _ => True) kj fun W4 e4 => ⟨trivial, ?_⟩
  have x4 : Ext w W4 := Ext.tr x3 e4
  refine wb_val 0 (.slice (some ⟨g4, 0, none⟩) 2 2) 13 rfl rfl kj kj (fun _ _ _ h => h) (fun W hR => by kernel_rfl) ?_
  refine wb_val 1 (.pointer (some ⟨g2, 2, none⟩)) 14 rfl rfl kj kj (fun _ _ _ h => h) (fun W hR => by kernel_rfl) ?_
  refine wb_val 2 (.slice (some ⟨g2, 2, none⟩) 32 32) 15 rfl rfl kj kj (fun _ _ _ h => h) (fun W hR => by kernel_rfl) ?_
  refine wb_val 4 (.pointer (some ⟨g2, 34, none⟩)) 17 rfl rfl kj kj (fun _ _ _ h => h) (fun W hR => by kernel_rfl) ?_
  refine wb_val 5 (.slice (some ⟨g2, 34, none⟩) 32 32) 18 rfl rfl kj kj (fun _ _ _ h => h) (fun W hR => by kernel_rfl) ?_
  refine wb_val 7 (.pointer (some ⟨g2, 66, none⟩)) 20 rfl rfl kj kj (fun _ _ _ h => h) (fun W hR => by kernel_rfl) ?_
  refine wb_val 8 (.slice (some ⟨g2, 66, none⟩) 32 32) 21 rfl rfl kj kj (fun _ _ _ h => h) (fun W hR => by kernel_rfl) ?_
  refine wb_one 3 kj ?_
  have r4_4 := (row_ext r4_3 e4)
  have r2_3 := (Puts.row p3 r2_2 (ne_of_old r2_1 l4))
  have r2_4 := (row_ext r2_3 e4)
  have y1_2 : Ext W1 W2 := (Rely.Ext.trans (Rely.Ext.refl W1) e2)
  have y1_3 : Ext W1 W3 := (Puts.ext p3 y1_2 l4)
  have y1_4 : Ext W1 W4 := (Rely.Ext.trans y1_3 e4)
  refine wo_appendT (k := .u8) (T := 5) (xs := ([0, (byV nm 0)]).set 0 1) (ys := key) (V := W1) 1 (.tmp 13) (.tmp 15) 26 rfl kj kj (by decide) 16 rfl 3 rfl kj kj kj (ownN_row (xs := ([0, (byV nm 0)]).set 0 1) rfl l4 r4_4 (show 2 ≤ maxLen by decide)) (rdK_row 2 hkl r2_4 (fun i hi => get_part [#[.bool true], #[.int .i64 nm]] [ints .u8 (sg), ints .u8 (pa), #[.slice a_m ms.length c_m]] key 2 i (2 + i) kj rfl (by rw [hkl]; exact hi)) (row_lt r2_4) (Nat.le_refl _) (by decide)) (by simp only [List.length_append, List.length_cons, List.length_nil, List.length_map, List.length_take, List.length_set, nodeH, hkl, hgl, hpl]; omega) y1_4 fun z1 W5 f8 y5 l5 => ?_
  have x5 : Ext w W5 := Ext.low x4 l5 x1.size
  refine wb_one 6 kj ?_
  have r2_5 := (low_row l5 r2_4 (row_lt r2_1))
  refine wo_appendT (k := .u8) (T := 5) (xs := ([0, (byV nm 0)]).set 0 1 ++ key) (ys := sg) (V := W1) 1 (.tmp 16) (.tmp 18) 26 rfl kj kj (by decide) 19 rfl 6 rfl kj kj kj f8 (rdK_row 34 hgl r2_5 (fun i hi => get_part [#[.bool true], #[.int .i64 nm], ints .u8 (key)] [ints .u8 (pa), #[.slice a_m ms.length c_m]] sg 34 i (34 + i) (by rw [cat_cons, cat_cons, cat_cons]; simp only [Array.size_append, cat, ((ints_size _ _).trans hkl)]; rfl) rfl (by rw [hgl]; exact hi)) (row_lt r2_5) (Nat.le_refl _) (by decide)) (by simp only [List.length_append, List.length_cons, List.length_nil, List.length_map, List.length_take, List.length_set, nodeH, hkl, hgl, hpl]; omega) y5 fun z2 W6 f10 y6 l6 => ?_
  have x6 : Ext w W6 := Ext.low x5 l6 x1.size
  refine wb_one 9 kj ?_
  have r2_6 := (low_row l6 r2_5 (row_lt r2_1))
  refine wo_appendT (k := .u8) (T := 5) (xs := ([0, (byV nm 0)]).set 0 1 ++ key ++ sg) (ys := pa) (V := W1) 1 (.tmp 19) (.tmp 21) 26 rfl kj kj (by decide) 22 rfl 9 rfl kj kj kj f10 (rdK_row 66 hpl r2_6 (fun i hi => get_part [#[.bool true], #[.int .i64 nm], ints .u8 (key), ints .u8 (sg)] [#[.slice a_m ms.length c_m]] pa 66 i (66 + i) (by rw [cat_cons, cat_cons, cat_cons, cat_cons]; simp only [Array.size_append, cat, ((ints_size _ _).trans hgl), ((ints_size _ _).trans hkl)]; rfl) rfl (by rw [hpl]; exact hi)) (row_lt r2_6) (Nat.le_refl _) (by decide)) (by simp only [List.length_append, List.length_cons, List.length_nil, List.length_map, List.length_take, List.length_set, nodeH, hkl, hgl, hpl]; omega) y6 fun z3 W7 f12 y7 l7 => ?_
  have x7 : Ext w W7 := Ext.low x6 l7 x1.size
  refine wb_val 10 (z3) 3 rfl rfl kj kj (fun _ _ _ h => h) (fun W hR => by kernel_rfl) ?_
  refine wb_nil kj ?_
  refine hK7 _ _ ?_
  try clear hK7 K7
  refine wp_seq_k fun K14 hK14 => ?_
  refine region_lit ?_
  refine seq_val (z3) 23 rfl kj kj ?_
  refine seq_val (.pointer (some ⟨g2, 98, none⟩)) 24 rfl kj kj ?_
  have r2_7 := (low_row l7 r2_6 (row_lt r2_1))
  refine seq_val (.slice a_m ms.length c_m) 25 rfl kj (run_loadC1 41 _ g2 98 43 _ (.slice a_m ms.length c_m) _ r2_7 rfl kj (cat_part [#[.bool true], #[.int .i64 nm], ints .u8 (key), ints .u8 (sg), ints .u8 (pa)] [#[.slice a_m ms.length c_m]] [] 98 (by rw [cat_cons, cat_cons, cat_cons, cat_cons, cat_cons]; simp only [Array.size_append, cat, ((ints_size _ _).trans hgl), ((ints_size _ _).trans hkl), ((ints_size _ _).trans hpl)]; rfl) 0 _ rfl) kj) ?_
  refine seq_val (.int .i64 ((ms.length : Nat) : Int)) 26 rfl kj kj ?_
  refine seq_val (.int .u8 (byV ((ms.length : Nat) : Int) 0)) 27 rfl kj (run_eq (u := .int .u8 (IntKind.u8.wrap ((ms.length : Nat) : Int))) kj (congrArg (Value.int .u8) (byV0 _))) ?_
  refine seq_makeS (ints .u8 ([(byV ((ms.length : Nat) : Int) 0)])) 5 1 28 rfl kj kj fun g15 W8 l15 e8 r15_8 => ?_
  have x8 : Ext w W8 := Ext.tr x7 e8
  have b15 : w.heap.size ≤ g15 := Nat.le_trans x7.size l15
  have f16_8 := (f12.ext e8)
  have y1_8 : Ext W1 W8 := (Rely.Ext.trans y7 e8)
  refine seq_appendN (k := .u8) (T := 5) (xs := ([0, (byV nm 0)]).set 0 1 ++ key ++ sg ++ pa) (ys := [(byV ((ms.length : Nat) : Int) 0)]) (V := W1) 1 (.tmp 23) (.tmp 28) 26 rfl kj kj (by decide) 29 rfl kj kj kj f16_8 (rdK_ints (xs := [(byV ((ms.length : Nat) : Int) 0)]) (n := 1) rfl r15_8 (row_lt r15_8) (show 1 ≤ maxLen from by decide)) (by simp only [List.length_append, List.length_cons, List.length_nil, List.length_map, List.length_take, List.length_set, nodeH, hkl, hgl, hpl]; omega) y1_8 fun z4 W9 f17 y9 l9 => ?_
  have x9 : Ext w W9 := Ext.low x8 l9 x1.size
  refine seq_val (z4) 3 rfl kj kj ?_
  refine seq_nil ?_
  refine hK14 _ _ ?_
  try clear hK14 K14
  refine wp_seq_k fun K19 hK19 => ?_
  refine wp_seq_k fun K20 hK20 => ?_
  refine region_lit ?_
  refine seq_val (.int .i64 0) 4 rfl kj kj ?_
  refine seq_nil ?_
  refine hK20 _ _ ?_
  try clear hK20 K20
  refine wp_block ?_
  refine loop_auto (fun (s1 : Nat × Value) => [(1, .pointer (some ⟨g2, 0, none⟩)), (3, s1.2), (4, .int .i64 ((s1.1 : Nat) : Int))]) (fun (s1 : Nat × Value) W => (s1.1 ≤ ms.length) ∧ (OwnN .u8 5 W1.heap.size (nodeH true nm key sg pa ms.length ++ (ms.take s1.1).map (fun m => byV m 0)) s1.2 W) ∧ (Below W1.heap.size W9 W) ∧ (Ext w W)) (fun (s1 : Nat × Value) => ms.length - s1.1) (0, z4) ⟨rfl, rfl, rfl, trivial⟩ ⟨(Nat.zero_le _), (by rw [List.take_zero, List.map_nil, List.append_nil]; exact f17), (RowKit.Below.refl _ W9), x9⟩ fun s1 X1 V1 hI1 => ?_
  obtain ⟨i, u⟩ := s1
  obtain ⟨hi, hu, kk1, xx1⟩ := hI1
  replace hi : i ≤ ms.length := hi
  replace hu : OwnN .u8 5 W1.heap.size (nodeH true nm key sg pa ms.length ++ (ms.take i).map (fun m => byV m 0)) u V1 := hu
  replace kk1 : Below W1.heap.size W9 V1 := kk1
  replace xx1 : Ext w V1 := xx1
  have l10 := kk1
  refine wp_seq_k fun K21 hK21 => ?_
  refine wp_seq_k fun K22 hK22 => ?_
  refine region_lit ?_
  refine seq_val (.int .i64 ((i : Nat) : Int)) 30 rfl kj kj ?_
  refine seq_val (.pointer (some ⟨g2, 98, none⟩)) 31 rfl kj kj ?_
  have r2_8 := (row_ext r2_7 e8)
  have r2_9 := (low_row l9 r2_8 (row_lt r2_1))
  have r2_10 := (low_row l10 r2_9 (row_lt r2_1))
  refine seq_val (.slice a_m ms.length c_m) 32 rfl kj (run_loadC1 41 _ g2 98 43 _ (.slice a_m ms.length c_m) _ r2_10 rfl kj (cat_part [#[.bool true], #[.int .i64 nm], ints .u8 (key), ints .u8 (sg), ints .u8 (pa)] [#[.slice a_m ms.length c_m]] [] 98 (by rw [cat_cons, cat_cons, cat_cons, cat_cons, cat_cons]; simp only [Array.size_append, cat, ((ints_size _ _).trans hgl), ((ints_size _ _).trans hkl), ((ints_size _ _).trans hpl)]; rfl) 0 _ rfl) kj) ?_
  refine seq_val (.int .i64 ((ms.length : Nat) : Int)) 33 rfl kj kj ?_
  refine seq_val (.bool (decide (((i : Nat) : Int) < ((ms.length : Nat) : Int)))) 34 rfl kj kj ?_
  refine seq_nil ?_
  refine hK22 _ _ ?_
  try clear hK22 K22
  refine cond_split (t := decide (((i : Nat) : Int) < ((ms.length : Nat) : Int))) kj (fun c23 => ?_) (fun c23 => ?_)
  · skip
    have hlt34 : i < ms.length := by have := of_decide_eq_true c23; omega
    have hnm_24 : (ms).length = ms.length := rfl
    obtain ⟨gcm_24, ocm_24, ham_24, hlm_24, hcm_24⟩ := rdK_open (RdK.here (RdK.ext hm xx1)) (by rw [hnm_24]; omega)
    refine wp_skip ?_
    refine hK21 _ _ ?_
    try clear hK21 K21
    refine wp_seq_k fun K25 hK25 => ?_
    refine wp_block ?_
    refine region_lit ?_
    refine seq_val (u) 37 rfl kj kj ?_
    refine seq_val (.pointer (some ⟨g2, 98, none⟩)) 38 rfl kj kj ?_
    refine seq_val (.slice a_m ms.length c_m) 39 rfl kj (run_loadC1 41 _ g2 98 43 _ (.slice a_m ms.length c_m) _ r2_10 rfl kj (cat_part [#[.bool true], #[.int .i64 nm], ints .u8 (key), ints .u8 (sg), ints .u8 (pa)] [#[.slice a_m ms.length c_m]] [] 98 (by rw [cat_cons, cat_cons, cat_cons, cat_cons, cat_cons]; simp only [Array.size_append, cat, ((ints_size _ _).trans hgl), ((ints_size _ _).trans hkl), ((ints_size _ _).trans hpl)]; rfl) 0 _ rfl) kj) ?_
    refine seq_val (.int .i64 ((i : Nat) : Int)) 40 rfl kj kj ?_
    refine seq_val (.pointer (some ⟨gcm_24, ocm_24 + i, none⟩)) 41 rfl kj (run_indexA 41 _ _ .i64 i gcm_24 ocm_24 ms.length c_m 3 a_m _ ham_24 rfl rfl kj kj kj kj (Nat.lt_of_lt_of_eq (show i < ms.length by omega) hnm_24.symm)) ?_
    refine seq_val (.int .i64 (nth (ms) (i))) 42 rfl kj (run_loadCell 3 _ _ (.int .i64 (nth (ms) (i))) (hcm_24 i (Nat.lt_of_lt_of_eq (show i < ms.length by omega) hnm_24.symm)) rfl kj kj) ?_
    refine seq_val (.int .u8 (byV (nth ms i) 0)) 43 rfl kj (run_eq (u := .int .u8 (IntKind.u8.wrap (nth (ms) (i)))) kj (congrArg (Value.int .u8) (byV0 _))) ?_
    refine seq_makeS (ints .u8 ([(byV (nth ms i) 0)])) 5 1 44 rfl kj kj fun g26 W11 l26 e11 r26_11 => ?_
    have x11 : Ext w W11 := Ext.tr xx1 e11
    have b26 : w.heap.size ≤ g26 := Nat.le_trans xx1.size l26
    have f27_11 := (hu.ext e11)
    have y1_10 : Ext W1 V1 := (Ext.low y9 l10 (Rely.Ext.refl W1).size)
    have y1_11 : Ext W1 W11 := (Rely.Ext.trans y1_10 e11)
    refine seq_appendN (k := .u8) (T := 5) (xs := nodeH true nm key sg pa ms.length ++ (ms.take i).map (fun m => byV m 0)) (ys := [(byV (nth ms i) 0)]) (V := W1) 1 (.tmp 37) (.tmp 44) 26 rfl kj kj (by decide) 45 rfl kj kj kj f27_11 (rdK_ints (xs := [(byV (nth ms i) 0)]) (n := 1) rfl r26_11 (row_lt r26_11) (show 1 ≤ maxLen from by decide)) (by simp only [List.length_append, List.length_cons, List.length_nil, List.length_map, List.length_take, List.length_set, nodeH, hkl, hgl, hpl]; omega) y1_11 fun z5 W12 f28 y12 l12 => ?_
    have x12 : Ext w W12 := Ext.low x11 l12 x1.size
    refine seq_val (z5) 3 rfl kj kj ?_
    refine seq_nil ?_
    refine hK25 _ _ ?_
    try clear hK25 K25
    refine region_lit ?_
    refine seq_val (.int .i64 ((i : Nat) : Int)) 35 rfl kj kj ?_
    refine seq_val (.int .i64 ((i + 1 : Nat) : Int)) 36 rfl kj (run_eq (u := .int .i64 (IntKind.i64.wrap (((i : Nat) : Int) + 1))) kj (congrArg (Value.int .i64) (i64n _ _ (by omega) (by omega)))) ?_
    refine seq_val (.int .i64 ((i + 1 : Nat) : Int)) 4 rfl kj kj ?_
    refine seq_nil ?_
    repeat (first | with_reducible refine goX1 ?_ | with_reducible refine goX2 ?_ | with_reducible refine goX3 ?_)
    exact goes_then ((i + 1), z5) ⟨rfl, rfl, rfl, trivial⟩ ⟨(by omega), (by rw [nodeV_step _ ms i hlt34]; exact f28), (RowKit.Below.trans (RowKit.Below.trans l10 (RowKit.Below.mono e11 y1_10.size)) l12), x12⟩ (by omega)
  · skip
    have heq34 : i = ms.length := by have := of_decide_eq_false c23; omega
    refine wp_exit ?_
    refine hK19 _ _ ?_
    try clear hK19 K19
    refine wp_seq_k fun K30 hK30 => ?_
    refine region_lit ?_
    refine seq_val (u) 46 rfl kj kj ?_
    refine seq_val (u) 2 rfl kj kj ?_
    refine seq_nil ?_
    refine hK30 _ _ ?_
    try clear hK30 K30
    refine wp_ret ?_
    repeat (first | with_reducible refine goR1 ?_ | with_reducible refine goR2 ?_)
    exact (show bodyPost _ _ _ .ret _ _ from ret1 (u) rfl (res_tmp kj) ⟨_, rfl, xx1, OwnN.base x1.size (show OwnN .u8 5 _ (nodeV true nm key sg pa ms) _ _ by have h7 := hu; rw [heq34, List.take_length] at h7; exact h7)⟩)
set_option maxHeartbeats 4000000 in
theorem rnode_false (nm : Int) (key sg pa ms : List Int) (a_m : Option Addr) (c_m : Nat) (w : World) (hkl : key.length = 32) (hgl : sg.length = 32) (hpl : pa.length = 32) (hml : ms.length ≤ 1000000) (hm : RdK .i64 w.heap.size ms (.slice a_m ms.length c_m) w) : Calls Try.prog 97 #[.agg (cat [#[.bool false], #[.int .i64 nm], ints .u8 (key), ints .u8 (sg), ints .u8 (pa), #[.slice a_m ms.length c_m]])] w (Gives w (OwnN .u8 5 w.heap.size (nodeV false nm key sg pa ms))) := by
  refine enter 47 [(0, .agg (cat [#[.bool false], #[.int .i64 nm], ints .u8 (key), ints .u8 (sg), ints .u8 (pa), #[.slice a_m ms.length c_m]]))] Try.func97 rfl rfl kj rfl ?_
  refine wp_seq_k fun K1 hK1 => ?_
  refine region_lit ?_
  refine seq_alloc (cat [#[.bool false], #[.int .i64 nm], ints .u8 (key), ints .u8 (sg), ints .u8 (pa), #[.slice a_m ms.length c_m]]) 43 1 rfl kj kj fun g2 W1 l2 e1 r2_1 => ?_
  have x1 : Ext w W1 := Ext.tr (Rely.Ext.refl w) e1
  have b2 : w.heap.size ≤ g2 := Nat.le_trans (Rely.Ext.refl w).size l2
  refine seq_val (.slice none 0 0) 2 rfl kj kj ?_
  refine seq_nil ?_
  refine hK1 _ _ ?_
  try clear hK1 K1
  refine wp_seq_k fun K3 hK3 => ?_
  refine region_lit ?_
  refine seq_val (.pointer (some ⟨g2, 1, none⟩)) 5 rfl kj kj ?_
  refine seq_val (.int .i64 nm) 6 rfl kj (run_loadC1 3 _ g2 1 43 _ (.int .i64 nm) _ r2_1 rfl kj (cat_part [#[.bool false]] [#[.int .i64 nm]] [ints .u8 (key), ints .u8 (sg), ints .u8 (pa), #[.slice a_m ms.length c_m]] 1 kj 0 _ rfl) kj) ?_
  refine seq_val (.int .u8 (byV nm 0)) 7 rfl kj (run_eq (u := .int .u8 (IntKind.u8.wrap (nm))) kj (congrArg (Value.int .u8) (byV0 nm))) ?_
  refine seq_makeS (ints .u8 ([0, (byV nm 0)])) 5 2 8 rfl kj kj fun g4 W2 l4 e2 r4_2 => ?_
  have x2 : Ext w W2 := Ext.tr x1 e2
  have b4 : w.heap.size ≤ g4 := Nat.le_trans x1.size l4
  refine seq_val (.slice (some ⟨g4, 0, none⟩) 2 2) 3 rfl kj kj ?_
  refine seq_nil ?_
  refine hK3 _ _ ?_
  try clear hK3 K3
  refine wp_seq_k fun K5 hK5 => ?_
  refine wp_seq_k fun K6 hK6 => ?_
  refine region_lit ?_
  refine seq_val (.pointer (some ⟨g2, 0, none⟩)) 9 rfl kj kj ?_
  have r2_2 := (row_ext r2_1 e2)
  refine seq_val (.bool false) 10 rfl kj (run_loadC1 4 _ g2 0 43 _ (.bool false) _ r2_2 rfl kj (cat_part [] [#[.bool false]] [#[.int .i64 nm], ints .u8 (key), ints .u8 (sg), ints .u8 (pa), #[.slice a_m ms.length c_m]] 0 kj 0 _ rfl) kj) ?_
  refine seq_nil ?_
  refine hK6 _ _ ?_
  try clear hK6 K6
  refine cond_false kj ?_
  refine wp_skip ?_
  refine hK5 _ _ ?_
  try clear hK5 K5
  refine wp_seq_k fun K7 hK7 => ?_
  refine region_walkG (fun _ => True) kj fun W3 e3 => ⟨trivial, ?_⟩
  have x3 : Ext w W3 := Ext.tr x2 e3
  refine wb_val 0 (.slice (some ⟨g4, 0, none⟩) 2 2) 13 rfl rfl kj kj (fun _ _ _ h => h) (fun W hR => by kernel_rfl) ?_
  refine wb_val 1 (.pointer (some ⟨g2, 2, none⟩)) 14 rfl rfl kj kj (fun _ _ _ h => h) (fun W hR => by kernel_rfl) ?_
  refine wb_val 2 (.slice (some ⟨g2, 2, none⟩) 32 32) 15 rfl rfl kj kj (fun _ _ _ h => h) (fun W hR => by kernel_rfl) ?_
  refine wb_val 4 (.pointer (some ⟨g2, 34, none⟩)) 17 rfl rfl kj kj (fun _ _ _ h => h) (fun W hR => by kernel_rfl) ?_
  refine wb_val 5 (.slice (some ⟨g2, 34, none⟩) 32 32) 18 rfl rfl kj kj (fun _ _ _ h => h) (fun W hR => by kernel_rfl) ?_
  refine wb_val 7 (.pointer (some ⟨g2, 66, none⟩)) 20 rfl rfl kj kj (fun _ _ _ h => h) (fun W hR => by kernel_rfl) ?_
  refine wb_val 8 (.slice (some ⟨g2, 66, none⟩) 32 32) 21 rfl rfl kj kj (fun _ _ _ h => h) (fun W hR => by kernel_rfl) ?_
  refine wb_one 3 kj ?_
  have r4_3 := (row_ext r4_2 e3)
  have r2_3 := (row_ext r2_2 e3)
  have y1_2 : Ext W1 W2 := (Rely.Ext.trans (Rely.Ext.refl W1) e2)
  have y1_3 : Ext W1 W3 := (Rely.Ext.trans y1_2 e3)
  refine wo_appendT (k := .u8) (T := 5) (xs := [0, (byV nm 0)]) (ys := key) (V := W1) 1 (.tmp 13) (.tmp 15) 26 rfl kj kj (by decide) 16 rfl 3 rfl kj kj kj (ownN_row (xs := [0, (byV nm 0)]) rfl l4 r4_3 (show 2 ≤ maxLen by decide)) (rdK_row 2 hkl r2_3 (fun i hi => get_part [#[.bool false], #[.int .i64 nm]] [ints .u8 (sg), ints .u8 (pa), #[.slice a_m ms.length c_m]] key 2 i (2 + i) kj rfl (by rw [hkl]; exact hi)) (row_lt r2_3) (Nat.le_refl _) (by decide)) (by simp only [List.length_append, List.length_cons, List.length_nil, List.length_map, List.length_take, List.length_set, nodeH, hkl, hgl, hpl]; omega) y1_3 fun z1 W4 f8 y4 l4 => ?_
  have x4 : Ext w W4 := Ext.low x3 l4 x1.size
  refine wb_one 6 kj ?_
  have r2_4 := (low_row l4 r2_3 (row_lt r2_1))
  refine wo_appendT (k := .u8) (T := 5) (xs := [0, (byV nm 0)] ++ key) (ys := sg) (V := W1) 1 (.tmp 16) (.tmp 18) 26 rfl kj kj (by decide) 19 rfl 6 rfl kj kj kj f8 (rdK_row 34 hgl r2_4 (fun i hi => get_part [#[.bool false], #[.int .i64 nm], ints .u8 (key)] [ints .u8 (pa), #[.slice a_m ms.length c_m]] sg 34 i (34 + i) (by rw [cat_cons, cat_cons, cat_cons]; simp only [Array.size_append, cat, ((ints_size _ _).trans hkl)]; rfl) rfl (by rw [hgl]; exact hi)) (row_lt r2_4) (Nat.le_refl _) (by decide)) (by simp only [List.length_append, List.length_cons, List.length_nil, List.length_map, List.length_take, List.length_set, nodeH, hkl, hgl, hpl]; omega) y4 fun z2 W5 f10 y5 l5 => ?_
  have x5 : Ext w W5 := Ext.low x4 l5 x1.size
  refine wb_one 9 kj ?_
  have r2_5 := (low_row l5 r2_4 (row_lt r2_1))
  refine wo_appendT (k := .u8) (T := 5) (xs := [0, (byV nm 0)] ++ key ++ sg) (ys := pa) (V := W1) 1 (.tmp 19) (.tmp 21) 26 rfl kj kj (by decide) 22 rfl 9 rfl kj kj kj f10 (rdK_row 66 hpl r2_5 (fun i hi => get_part [#[.bool false], #[.int .i64 nm], ints .u8 (key), ints .u8 (sg)] [#[.slice a_m ms.length c_m]] pa 66 i (66 + i) (by rw [cat_cons, cat_cons, cat_cons, cat_cons]; simp only [Array.size_append, cat, ((ints_size _ _).trans hgl), ((ints_size _ _).trans hkl)]; rfl) rfl (by rw [hpl]; exact hi)) (row_lt r2_5) (Nat.le_refl _) (by decide)) (by simp only [List.length_append, List.length_cons, List.length_nil, List.length_map, List.length_take, List.length_set, nodeH, hkl, hgl, hpl]; omega) y5 fun z3 W6 f12 y6 l6 => ?_
  have x6 : Ext w W6 := Ext.low x5 l6 x1.size
  refine wb_val 10 (z3) 3 rfl rfl kj kj (fun _ _ _ h => h) (fun W hR => by kernel_rfl) ?_
  refine wb_nil kj ?_
  refine hK7 _ _ ?_
  try clear hK7 K7
  refine wp_seq_k fun K14 hK14 => ?_
  refine region_lit ?_
  refine seq_val (z3) 23 rfl kj kj ?_
  refine seq_val (.pointer (some ⟨g2, 98, none⟩)) 24 rfl kj kj ?_
  have r2_6 := (low_row l6 r2_5 (row_lt r2_1))
  refine seq_val (.slice a_m ms.length c_m) 25 rfl kj (run_loadC1 41 _ g2 98 43 _ (.slice a_m ms.length c_m) _ r2_6 rfl kj (cat_part [#[.bool false], #[.int .i64 nm], ints .u8 (key), ints .u8 (sg), ints .u8 (pa)] [#[.slice a_m ms.length c_m]] [] 98 (by rw [cat_cons, cat_cons, cat_cons, cat_cons, cat_cons]; simp only [Array.size_append, cat, ((ints_size _ _).trans hgl), ((ints_size _ _).trans hkl), ((ints_size _ _).trans hpl)]; rfl) 0 _ rfl) kj) ?_
  refine seq_val (.int .i64 ((ms.length : Nat) : Int)) 26 rfl kj kj ?_
  refine seq_val (.int .u8 (byV ((ms.length : Nat) : Int) 0)) 27 rfl kj (run_eq (u := .int .u8 (IntKind.u8.wrap ((ms.length : Nat) : Int))) kj (congrArg (Value.int .u8) (byV0 _))) ?_
  refine seq_makeS (ints .u8 ([(byV ((ms.length : Nat) : Int) 0)])) 5 1 28 rfl kj kj fun g15 W7 l15 e7 r15_7 => ?_
  have x7 : Ext w W7 := Ext.tr x6 e7
  have b15 : w.heap.size ≤ g15 := Nat.le_trans x6.size l15
  have f16_7 := (f12.ext e7)
  have y1_7 : Ext W1 W7 := (Rely.Ext.trans y6 e7)
  refine seq_appendN (k := .u8) (T := 5) (xs := [0, (byV nm 0)] ++ key ++ sg ++ pa) (ys := [(byV ((ms.length : Nat) : Int) 0)]) (V := W1) 1 (.tmp 23) (.tmp 28) 26 rfl kj kj (by decide) 29 rfl kj kj kj f16_7 (rdK_ints (xs := [(byV ((ms.length : Nat) : Int) 0)]) (n := 1) rfl r15_7 (row_lt r15_7) (show 1 ≤ maxLen from by decide)) (by simp only [List.length_append, List.length_cons, List.length_nil, List.length_map, List.length_take, List.length_set, nodeH, hkl, hgl, hpl]; omega) y1_7 fun z4 W8 f17 y8 l8 => ?_
  have x8 : Ext w W8 := Ext.low x7 l8 x1.size
  refine seq_val (z4) 3 rfl kj kj ?_
  refine seq_nil ?_
  refine hK14 _ _ ?_
  try clear hK14 K14
  refine wp_seq_k fun K19 hK19 => ?_
  refine wp_seq_k fun K20 hK20 => ?_
  refine region_lit ?_
  refine seq_val (.int .i64 0) 4 rfl kj kj ?_
  refine seq_nil ?_
  refine hK20 _ _ ?_
  try clear hK20 K20
  refine wp_block ?_
  refine loop_auto (fun (s1 : Nat × Value) => [(1, .pointer (some ⟨g2, 0, none⟩)), (3, s1.2), (4, .int .i64 ((s1.1 : Nat) : Int))]) (fun (s1 : Nat × Value) W => (s1.1 ≤ ms.length) ∧ (OwnN .u8 5 W1.heap.size (nodeH false nm key sg pa ms.length ++ (ms.take s1.1).map (fun m => byV m 0)) s1.2 W) ∧ (Below W1.heap.size W8 W) ∧ (Ext w W)) (fun (s1 : Nat × Value) => ms.length - s1.1) (0, z4) ⟨rfl, rfl, rfl, trivial⟩ ⟨(Nat.zero_le _), (by rw [List.take_zero, List.map_nil, List.append_nil]; exact f17), (RowKit.Below.refl _ W8), x8⟩ fun s1 X1 V1 hI1 => ?_
  obtain ⟨i, u⟩ := s1
  obtain ⟨hi, hu, kk1, xx1⟩ := hI1
  replace hi : i ≤ ms.length := hi
  replace hu : OwnN .u8 5 W1.heap.size (nodeH false nm key sg pa ms.length ++ (ms.take i).map (fun m => byV m 0)) u V1 := hu
  replace kk1 : Below W1.heap.size W8 V1 := kk1
  replace xx1 : Ext w V1 := xx1
  have l9 := kk1
  refine wp_seq_k fun K21 hK21 => ?_
  refine wp_seq_k fun K22 hK22 => ?_
  refine region_lit ?_
  refine seq_val (.int .i64 ((i : Nat) : Int)) 30 rfl kj kj ?_
  refine seq_val (.pointer (some ⟨g2, 98, none⟩)) 31 rfl kj kj ?_
  have r2_7 := (row_ext r2_6 e7)
  have r2_8 := (low_row l8 r2_7 (row_lt r2_1))
  have r2_9 := (low_row l9 r2_8 (row_lt r2_1))
  refine seq_val (.slice a_m ms.length c_m) 32 rfl kj (run_loadC1 41 _ g2 98 43 _ (.slice a_m ms.length c_m) _ r2_9 rfl kj (cat_part [#[.bool false], #[.int .i64 nm], ints .u8 (key), ints .u8 (sg), ints .u8 (pa)] [#[.slice a_m ms.length c_m]] [] 98 (by rw [cat_cons, cat_cons, cat_cons, cat_cons, cat_cons]; simp only [Array.size_append, cat, ((ints_size _ _).trans hgl), ((ints_size _ _).trans hkl), ((ints_size _ _).trans hpl)]; rfl) 0 _ rfl) kj) ?_
  refine seq_val (.int .i64 ((ms.length : Nat) : Int)) 33 rfl kj kj ?_
  refine seq_val (.bool (decide (((i : Nat) : Int) < ((ms.length : Nat) : Int)))) 34 rfl kj kj ?_
  refine seq_nil ?_
  refine hK22 _ _ ?_
  try clear hK22 K22
  refine cond_split (t := decide (((i : Nat) : Int) < ((ms.length : Nat) : Int))) kj (fun c23 => ?_) (fun c23 => ?_)
  · skip
    have hlt34 : i < ms.length := by have := of_decide_eq_true c23; omega
    have hnm_24 : (ms).length = ms.length := rfl
    obtain ⟨gcm_24, ocm_24, ham_24, hlm_24, hcm_24⟩ := rdK_open (RdK.here (RdK.ext hm xx1)) (by rw [hnm_24]; omega)
    refine wp_skip ?_
    refine hK21 _ _ ?_
    try clear hK21 K21
    refine wp_seq_k fun K25 hK25 => ?_
    refine wp_block ?_
    refine region_lit ?_
    refine seq_val (u) 37 rfl kj kj ?_
    refine seq_val (.pointer (some ⟨g2, 98, none⟩)) 38 rfl kj kj ?_
    refine seq_val (.slice a_m ms.length c_m) 39 rfl kj (run_loadC1 41 _ g2 98 43 _ (.slice a_m ms.length c_m) _ r2_9 rfl kj (cat_part [#[.bool false], #[.int .i64 nm], ints .u8 (key), ints .u8 (sg), ints .u8 (pa)] [#[.slice a_m ms.length c_m]] [] 98 (by rw [cat_cons, cat_cons, cat_cons, cat_cons, cat_cons]; simp only [Array.size_append, cat, ((ints_size _ _).trans hgl), ((ints_size _ _).trans hkl), ((ints_size _ _).trans hpl)]; rfl) 0 _ rfl) kj) ?_
    refine seq_val (.int .i64 ((i : Nat) : Int)) 40 rfl kj kj ?_
    refine seq_val (.pointer (some ⟨gcm_24, ocm_24 + i, none⟩)) 41 rfl kj (run_indexA 41 _ _ .i64 i gcm_24 ocm_24 ms.length c_m 3 a_m _ ham_24 rfl rfl kj kj kj kj (Nat.lt_of_lt_of_eq (show i < ms.length by omega) hnm_24.symm)) ?_
    refine seq_val (.int .i64 (nth (ms) (i))) 42 rfl kj (run_loadCell 3 _ _ (.int .i64 (nth (ms) (i))) (hcm_24 i (Nat.lt_of_lt_of_eq (show i < ms.length by omega) hnm_24.symm)) rfl kj kj) ?_
    refine seq_val (.int .u8 (byV (nth ms i) 0)) 43 rfl kj (run_eq (u := .int .u8 (IntKind.u8.wrap (nth (ms) (i)))) kj (congrArg (Value.int .u8) (byV0 _))) ?_
    refine seq_makeS (ints .u8 ([(byV (nth ms i) 0)])) 5 1 44 rfl kj kj fun g26 W10 l26 e10 r26_10 => ?_
    have x10 : Ext w W10 := Ext.tr xx1 e10
    have b26 : w.heap.size ≤ g26 := Nat.le_trans xx1.size l26
    have f27_10 := (hu.ext e10)
    have y1_9 : Ext W1 V1 := (Ext.low y8 l9 (Rely.Ext.refl W1).size)
    have y1_10 : Ext W1 W10 := (Rely.Ext.trans y1_9 e10)
    refine seq_appendN (k := .u8) (T := 5) (xs := nodeH false nm key sg pa ms.length ++ (ms.take i).map (fun m => byV m 0)) (ys := [(byV (nth ms i) 0)]) (V := W1) 1 (.tmp 37) (.tmp 44) 26 rfl kj kj (by decide) 45 rfl kj kj kj f27_10 (rdK_ints (xs := [(byV (nth ms i) 0)]) (n := 1) rfl r26_10 (row_lt r26_10) (show 1 ≤ maxLen from by decide)) (by simp only [List.length_append, List.length_cons, List.length_nil, List.length_map, List.length_take, List.length_set, nodeH, hkl, hgl, hpl]; omega) y1_10 fun z5 W11 f28 y11 l11 => ?_
    have x11 : Ext w W11 := Ext.low x10 l11 x1.size
    refine seq_val (z5) 3 rfl kj kj ?_
    refine seq_nil ?_
    refine hK25 _ _ ?_
    try clear hK25 K25
    refine region_lit ?_
    refine seq_val (.int .i64 ((i : Nat) : Int)) 35 rfl kj kj ?_
    refine seq_val (.int .i64 ((i + 1 : Nat) : Int)) 36 rfl kj (run_eq (u := .int .i64 (IntKind.i64.wrap (((i : Nat) : Int) + 1))) kj (congrArg (Value.int .i64) (i64n _ _ (by omega) (by omega)))) ?_
    refine seq_val (.int .i64 ((i + 1 : Nat) : Int)) 4 rfl kj kj ?_
    refine seq_nil ?_
    repeat (first | with_reducible refine goX1 ?_ | with_reducible refine goX2 ?_ | with_reducible refine goX3 ?_)
    exact goes_then ((i + 1), z5) ⟨rfl, rfl, rfl, trivial⟩ ⟨(by omega), (by rw [nodeV_step _ ms i hlt34]; exact f28), (RowKit.Below.trans (RowKit.Below.trans l9 (RowKit.Below.mono e10 y1_9.size)) l11), x11⟩ (by omega)
  · skip
    have heq34 : i = ms.length := by have := of_decide_eq_false c23; omega
    refine wp_exit ?_
    refine hK19 _ _ ?_
    try clear hK19 K19
    refine wp_seq_k fun K30 hK30 => ?_
    refine region_lit ?_
    refine seq_val (u) 46 rfl kj kj ?_
    refine seq_val (u) 2 rfl kj kj ?_
    refine seq_nil ?_
    refine hK30 _ _ ?_
    try clear hK30 K30
    refine wp_ret ?_
    repeat (first | with_reducible refine goR1 ?_ | with_reducible refine goR2 ?_)
    exact (show bodyPost _ _ _ .ret _ _ from ret1 (u) rfl (res_tmp kj) ⟨_, rfl, xx1, OwnN.base x1.size (show OwnN .u8 5 _ (nodeV false nm key sg pa ms) _ _ by have h7 := hu; rw [heq34, List.take_length] at h7; exact h7)⟩)
theorem rnodeC (us : Bool) (nm : Int) (key sg pa ms : List Int) (a_m : Option Addr) (c_m : Nat) (w : World) (hkl : key.length = 32) (hgl : sg.length = 32) (hpl : pa.length = 32) (hml : ms.length ≤ 1000000) (hm : RdK .i64 w.heap.size ms (.slice a_m ms.length c_m) w) : Calls Try.prog 97 #[.agg (cat [#[.bool us], #[.int .i64 nm], ints .u8 (key), ints .u8 (sg), ints .u8 (pa), #[.slice a_m ms.length c_m]])] w (Gives w (OwnN .u8 5 w.heap.size (nodeV us nm key sg pa ms))) := by
  cases us with
  | true => exact rnode_true nm key sg pa ms a_m c_m w hkl hgl hpl hml hm
  | false => exact rnode_false nm key sg pa ms a_m c_m w hkl hgl hpl hml hm

end Go.Proofs.Ytfelfmchachljaa.Wr
