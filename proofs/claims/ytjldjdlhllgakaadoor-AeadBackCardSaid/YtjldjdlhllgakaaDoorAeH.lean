/- The mark of a context and a mixed text. -/
import Derived.Test.YtjldjdlhllgakaaDoorAeG
import Derived.Laws.Externs
import Derived.Shelf.Spec.BitsCarry
import Derived.Shelf.Bits.Mul64
import Derived.Laws.Bits64b
namespace Go.Proofs.YtjldjdlhllgakaaDoor.Ae
open Go Go.RowKit
open Go.Proofs.YtjldjdlhllgakaaDoor.Rely Go.Proofs.YtjldjdlhllgakaaDoor.Auto Go.Proofs.YtjldjdlhllgakaaDoor.Own Go.Proofs.YtjldjdlhllgakaaDoor.Sha
set_option linter.unusedVariables false
set_option linter.unusedSimpArgs false

open Go.Proofs.YtjldjdlhllgakaaDoor.Sha Go.Proofs.YtjldjdlhllgakaaDoor.Cha
theorem run_bs {P : Program} {ρ : Operand → Value} {o : Oper} {w : World} (t : TypeId) (n : Nat) (parts : Array (Nat × Operand)) (vs : Array (Nat × Value)) (ho : o.op = .buildSlice t n parts) (hv : (parts.map fun (i, x) => (i, ρ x)) = vs) {s : Value} {w' : World} (h : (Instr.buildSlice t n vs).run P w = .ok s w') :
    (execOp ρ o).run P w = .ok (.value s) w' := by
  unfold execOp
  simp only [ho, hv, Sem.run_bind, h, Result.andThen_ok, Sem.run_pure]
theorem run_sap {P : Program} {ρ : Operand → Value} {o : Oper} {w : World} (t : TypeId) (x : Operand) (n : Nat) (e : TypeId) {a : Option Addr} {len cap : Nat} (ho : o.op = .sliceToArrayPointer t x) (hx : ρ x = .slice a len cap) (hu : P.underlying t = some (.array n e)) (h : n ≤ len) :
    (execOp ρ o).run P w = .ok (.value (.pointer a)) w := by
  unfold execOp
  simp [ho, hx, Instr.arrayAt, run_underlying hu, Nat.not_lt.2 h]
theorem ints_pre {k : IntKind} {xs : List Int} {n : Nat} : ∀ j v, (ints k (xs.take n))[j]? = some v → (ints k xs)[0 + j]? = some v := fun j v hv => by
  rw [Nat.zero_add]
  have hj : j < (xs.take n).length := by
    have := (Array.getElem?_eq_some_iff.1 hv).1
    rwa [ints_size] at this
  have hj2 : j < n ∧ j < xs.length := by rw [List.length_take] at hj; omega
  rw [← hv, ints_get _ _ _ hj, ints_get _ _ _ hj2.2, nth_take _ _ _ hj2.1]
theorem pieceV_bytes (ws : List Wd) (n : Int) : AreBytes (pieceV ws n) := fun x hx => by
  unfold pieceV pieceB at hx
  obtain ⟨i, -, rfl⟩ := List.mem_map.1 hx
  omega
/-- the key of one mark -/
def otk (key nonce : List Int) : List Int := (pieceV (startW key nonce) 0).take 32
theorem otk_len (key nonce : List Int) : (otk key nonce).length = 32 := by unfold otk; rw [List.length_take, pieceV_len]; rfl
theorem otk_bytes (key nonce : List Int) : AreBytes (otk key nonce) := bytes_take (pieceV_bytes _ _) 32
/-- noughts to a whole piece -/
def padV (xs : List Int) : List Int := List.replicate ((16 - xs.length % 16) % 16) 0
theorem padV_len (xs : List Int) : (padV xs).length = (16 - xs.length % 16) % 16 := List.length_replicate
theorem padV_bytes (xs : List Int) : AreBytes (padV xs) := fun x hx => by
  have := List.eq_of_mem_replicate hx
  subst this
  exact ⟨by decide, by decide⟩
/-- what is marked: a context and a mixed text -/
def authT (ctx mixed : List Int) : List Int := ctx ++ padV ctx ++ mixed ++ padV mixed ++ (by8 ((ctx.length : Nat) : Int) ++ by8 ((mixed.length : Nat) : Int))
def authV (key nonce ctx mixed : List Int) : List Int := tagV (rOf (otk key nonce)) (sOf (otk key nonce)) (authT ctx mixed)
theorem authV_len (key nonce ctx mixed : List Int) : (authV key nonce ctx mixed).length = 16 := by16_len _
theorem zerosG (n0 : Nat) (xs : List Int) (v : Value) (B : Nat) (w : World) (h : RdK .u8 B xs v w) (hn0 : n0 ≤ w.heap.size) : Calls Tryd.prog 44 #[v] w (Gives w (OwnN .u8 5 n0 (padV xs))) :=
  (zerosC xs v B w h).mono fun e W' hg => by
    obtain ⟨v', e1, e2, e3⟩ := hg
    exact ⟨v', e1, e2, e3.base hn0⟩
set_option maxRecDepth 100000 in
set_option maxHeartbeats 4000000 in
theorem markOfC (key nonce ctx mixed : List Int) (v v2 v3 : Value) (B B2 B3 : Nat) (th tq : TypeId) (w : World) (hh : w.heap[0]? = some (.cells (ints .u32 [1634760805, 857760878, 2036477234, 1797285236]) th)) (hq : w.heap[1]? = some (.cells (ints .i64 [0, 4, 8, 12, 1, 5, 9, 13, 2, 6, 10, 14, 3, 7, 11, 15, 0, 5, 10, 15, 1, 6, 11, 12, 2, 7, 8, 13, 3, 4, 9, 14]) tq)) (hkl : key.length = 32) (hn : RdK .u8 B nonce v w) (hc : RdK .u8 B2 ctx v2 w) (hm : RdK .u8 B3 mixed v3 w) (h : nonce.length = 12) (hcb : AreBytes ctx) (hmb : AreBytes mixed) (hcl : ctx.length ≤ 2000000) (hml : mixed.length ≤ 2000000) :
    Calls Tryd.prog 33 #[.agg (ints .u8 key), v, v2, v3] w (Ret w (.tuple #[.agg (ints .u8 (authV key nonce ctx mixed)), .nilIface])) := by
  obtain ⟨a_n, c_n, rfl, -⟩ := id hn
  obtain ⟨a_c, c_c, rfl, -⟩ := id hc
  obtain ⟨a_m, c_m, rfl, -⟩ := id hm
  refine enter 42 [(0, .agg (ints .u8 (key))), (1, .slice a_n nonce.length c_n), (2, .slice a_c ctx.length c_c), (3, .slice a_m mixed.length c_m)] Tryd.func33 rfl rfl kj rfl ?_
  refine wp_seq_k fun K3 hK3 => ?_
  refine region_lit ?_
  refine seq_alloc (ints .u8 (key)) 23 4 rfl kj kj fun g4 W1 l4 e1 r4_1 => ?_
  have x1 : Ext w W1 := Ext.tr (Rely.Ext.refl w) e1
  have b4 : w.heap.size ≤ g4 := Nat.le_trans (Rely.Ext.refl w).size l4
  refine seq_alloc (ints .u8 (List.replicate 16 0)) 27 8 rfl kj kj fun g5 W2 l5 e2 r5_2 => ?_
  have x2 : Ext w W2 := Ext.tr x1 e2
  have b5 : w.heap.size ≤ g5 := Nat.le_trans x1.size l5
  refine seq_val (.nilIface) 9 rfl kj kj ?_
  refine seq_nil ?_
  refine hK3 _ _ ?_
  try clear hK3 K3
  refine wp_seq_k fun K6 hK6 => ?_
  refine region_lit ?_
  have r4_2 := (row_ext r4_1 e2)
  refine seq_val (.agg (ints .u8 (key))) 14 rfl kj (run_load_row 23 _ g4 23 _ _ r4_2 rfl kj kj (isz (n := 32) kj ((ints_size _ _).trans hkl))) ?_
  refine seq_val (.slice a_n nonce.length c_n) 15 rfl kj kj ?_
  have r2_1 := (row_ext hh e1)
  have r2_2 := (row_ext r2_1 e2)
  have r1_1 := (row_ext hq e1)
  have r1_2 := (row_ext r1_1 e2)
  refine seq_call (.tuple #[.agg (ints .u8 (pieceV (startW key nonce) (0))), .nilIface]) 43 #[.agg (ints .u8 (key)), .slice a_n nonce.length c_n, .int .i64 0] 16 rfl kj kj ((Piece_D key nonce _ _ 0 th tq _ r2_2 r1_2 hkl (RdK.ext hn x2) h (by decide) (by decide))) fun W3 e3 => ?_
  have x3 : Ext w W3 := Ext.tr x2 e3
  refine seq_val (.tuple #[.agg (ints .u8 (pieceV (startW key nonce) (0))), .nilIface]) 13 rfl kj kj ?_
  refine seq_val (.agg (ints .u8 (pieceV (startW key nonce) (0)))) 17 rfl kj kj ?_
  refine seq_val (.nilIface) 18 rfl kj kj ?_
  refine seq_alloc (ints .u8 (List.replicate 64 0)) 78 10 rfl kj kj fun g7 W4 l7 e4 r7_4 => ?_
  have x4 : Ext w W4 := Ext.tr x3 e4
  have b7 : w.heap.size ≤ g7 := Nat.le_trans x3.size l7
  refine seq_store g7 _ (ints .u8 (pieceV (startW key nonce) (0))) 78 r7_4 rfl kj (run_store_row 78 _ _ g7 78 _ _ r7_4 rfl kj kj (isz (n := 64) kj ((ints_size _ _).trans (pieceV_len _ _))) (eqsz (n := 64) ((ints_size _ _).trans (List.length_replicate (n := 64))) ((ints_size _ _).trans (pieceV_len _ _))) (ints_one _ _)) fun W5 p5 r7_5 => ?_
  have x5 : Ext w W5 := Puts.ext p5 x4 b7
  refine seq_val (.nilIface) 11 rfl kj kj ?_
  refine seq_nil ?_
  refine hK6 _ _ ?_
  try clear hK6 K6
  refine wp_seq_k fun K8 hK8 => ?_
  refine wp_seq_k fun K9 hK9 => ?_
  refine region_lit ?_
  refine seq_val (.nilIface) 19 rfl kj kj ?_
  refine seq_val (.bool false) 20 rfl kj kj ?_
  refine seq_nil ?_
  refine hK9 _ _ ?_
  try clear hK9 K9
  refine cond_false kj ?_
  refine wp_skip ?_
  refine hK8 _ _ ?_
  try clear hK8 K8
  refine wp_seq_k fun K10 hK10 => ?_
  refine region_lit ?_
  refine seq_val (.slice a_c ctx.length c_c) 23 rfl kj kj ?_
  refine seq_val (.int .i64 ((ctx.length : Nat) : Int)) 24 rfl kj kj ?_
  refine seq_callR (fun v W' => (OwnN .u8 5 W5.heap.size (by8 ((ctx.length : Nat) : Int))) v W' ∧ Ext W5 W') 37 #[.int .i64 ((ctx.length : Nat) : Int)] 25 rfl kj kj ((littleC (ctx.length) _).mono (by rintro e w' ⟨v, rfl, e1, hv⟩; exact ⟨v, rfl, hv, e1⟩)) fun vv11 W6 hh11 => ?_
  obtain ⟨hv11, e6⟩ := hh11
  have x6 : Ext w W6 := Ext.tr x5 e6
  obtain ⟨a25_, c25_, rfl, -⟩ := id (OwnN.rd hv11)
  refine seq_val (.slice a_m mixed.length c_m) 26 rfl kj kj ?_
  refine seq_val (.int .i64 ((mixed.length : Nat) : Int)) 27 rfl kj kj ?_
  refine seq_callR (fun v W' => (OwnN .u8 5 W6.heap.size (by8 ((mixed.length : Nat) : Int))) v W' ∧ Ext W6 W') 37 #[.int .i64 ((mixed.length : Nat) : Int)] 28 rfl kj kj ((littleC (mixed.length) _).mono (by rintro e w' ⟨v, rfl, e1, hv⟩; exact ⟨v, rfl, hv, e1⟩)) fun vv12 W7 hh12 => ?_
  obtain ⟨hv12, e7⟩ := hh12
  have x7 : Ext w W7 := Ext.tr x6 e7
  obtain ⟨a28_, c28_, rfl, -⟩ := id (OwnN.rd hv12)
  have f13_7 := (hv11.ext e7)
  have y5_6 : Ext W5 W6 := (Rely.Ext.trans (Rely.Ext.refl W5) e6)
  have y5_7 : Ext W5 W7 := (Rely.Ext.trans y5_6 e7)
  refine seq_appendN (k := .u8) (T := 5) (xs := by8 ((ctx.length : Nat) : Int)) (ys := by8 ((mixed.length : Nat) : Int)) (V := W5) 1 (.tmp 25) (.tmp 28) 24 rfl kj kj (by decide) 29 rfl kj kj kj f13_7 (OwnN.rd hv12) (by rw [by8_len, by8_len]; decide) y5_7 fun zl W8 f14 y8 l8 => ?_
  have x8 : Ext w W8 := Ext.low x7 l8 x5.size
  obtain ⟨a29_, c29_, rfl, -⟩ := id (OwnN.rd f14)
  refine seq_val (.slice a29_ ((by8 ((ctx.length : Nat) : Int) ++ by8 ((mixed.length : Nat) : Int)).length) c29_) 12 rfl kj kj ?_
  refine seq_nil ?_
  refine hK10 _ _ ?_
  try clear hK10 K10
  refine wp_seq_k fun K16 hK16 => ?_
  refine any_regionE 11 [⟨none, [(10, none)]⟩, ⟨none, [(30, some 0)]⟩, ⟨none, [(31, some 1)]⟩, ⟨none, [(2, none)]⟩, ⟨none, [(2, none)]⟩, ⟨none, [(34, some 4)]⟩, ⟨none, [(3, none)]⟩, ⟨none, [(3, none)]⟩, ⟨none, [(37, some 7)]⟩, ⟨none, [(12, none)]⟩, ⟨none, [(33, some 3), (35, some 5), (36, some 6), (38, some 8), (39, some 9)]⟩] kj kj fun F hF => ?_
  refine e_val (rl_ext _) (.slice (some ⟨g7, 0 + 0, none⟩) (32 - 0) (64 - 0)) kj kj (fun W => (run_sliceA 78 _ _ _ 0 32 64 g7 0 5 rfl kj kj kj rfl ⟨.i64, by kernel_rfl⟩ (by omega) (by omega) (by omega))) ?_
  refine e_val (rl_ext _) (.pointer (some ⟨g7, 0, none⟩)) kj kj (fun W => (run_sap 23 _ 32 5 (len := 32) (cap := 64) rfl kj kj (by decide))) ?_
  have r7_6 := (row_ext r7_5 e6)
  have r7_7 := (row_ext r7_6 e7)
  have r7_8 := (low_row l8 r7_7 (row_lt r7_5))
  refine e_read (rl_ext _) (.agg (ints .u8 (otk key nonce))) kj kj (fun W hR => (run_load_part 23 _ g7 0 78 _ (ints .u8 (otk key nonce)) _ (row_ext (row_ext r7_8 (ext_drew _)) hR) rfl kj (ints_pre (xs := pieceV (startW key nonce) (0)) (n := 32)) kj (isz (n := 32) kj ((ints_size _ _).trans (otk_len _ _))))) ?_
  refine e_val (rl_ext _) (.slice a_c ctx.length c_c) kj kj (fun W => by kernel_rfl) ?_
  refine e_val (rl_ext _) (.slice a_c ctx.length c_c) kj kj (fun W => by kernel_rfl) ?_
  refine e_callG (rl_ext _) (OwnN .u8 5 W8.heap.size (padV ctx)) (OwnN.stable _ _ _ _) 44 #[.slice a_c ctx.length c_c] kj kj (fun W => by kernel_rfl) (fun W hR => (zerosG W8.heap.size ctx _ _ _ (RdK.ext (RdK.ext hc x8) (Rely.Ext.trans (ext_drew _) hR)) (Rely.Ext.trans (ext_drew _) hR).size)) ?_
  refine e_val (rl_ext _) (.slice a_m mixed.length c_m) kj kj (fun W => by kernel_rfl) ?_
  refine e_val (rl_ext _) (.slice a_m mixed.length c_m) kj kj (fun W => by kernel_rfl) ?_
  refine e_callG (rl_ext _) (OwnN .u8 5 W8.heap.size (padV mixed)) (OwnN.stable _ _ _ _) 44 #[.slice a_m mixed.length c_m] kj kj (fun W => by kernel_rfl) (fun W hR => (zerosG W8.heap.size mixed _ _ _ (RdK.ext (RdK.ext hm x8) (Rely.Ext.trans (ext_drew _) hR)) (Rely.Ext.trans (ext_drew _) hR).size)) ?_
  refine e_val (rl_ext _) (.slice a29_ ((by8 ((ctx.length : Nat) : Int) ++ by8 ((mixed.length : Nat) : Int)).length) c29_) kj kj (fun W => by kernel_rfl) ?_
  refine e_runX (rl_ext _) (fun v W => ∃ g za35_19 za38_19, v = .slice (some ⟨g, 0, none⟩) 5 5 ∧ W8.heap.size ≤ g ∧ W.heap[g]? = some (.cells #[.slice a_c ctx.length c_c, za35_19, .slice a_m mixed.length c_m, za38_19, .slice a29_ ((by8 ((ctx.length : Nat) : Int) ++ by8 ((mixed.length : Nat) : Int)).length) c29_] 24) ∧ (OwnN .u8 5 W8.heap.size (padV ctx)) za35_19 W ∧ (OwnN .u8 5 W8.heap.size (padV mixed)) za38_19 W) (fun _ _ _ hR ⟨g, za35_19, za38_19, h1, h2, h3, qza35_19, qza38_19⟩ => ⟨g, za35_19, za38_19, h1, h2, row_ext h3 hR, (OwnN.stable _ _ _ _) _ _ _ hR qza35_19, (OwnN.stable _ _ _ _) _ _ _ hR qza38_19⟩) (fun ρ W hR hh => ?_) ?_
  · skip
    have e33 : ρ 33 = .slice a_c ctx.length c_c := hh.1
    obtain ⟨ar35, cr35, e35, -⟩ := id (OwnN.rd hh.2.1)
    have e36 : ρ 36 = .slice a_m mixed.length c_m := hh.2.2.1
    obtain ⟨ar38, cr38, e38, -⟩ := id (OwnN.rd hh.2.2.2.1)
    have e39 : ρ 39 = .slice a29_ ((by8 ((ctx.length : Nat) : Int) ++ by8 ((mixed.length : Nat) : Int)).length) c29_ := hh.2.2.2.2.1
    refine ⟨_, _, run_bs 42 5 _ _ rfl (Eq.trans (b := #[(0, ρ 33), (1, ρ 35), (2, ρ 36), (3, ρ 38), (4, ρ 39)]) kj (by rw [e33, e35, e36, e38, e39])) (s := .slice (some ⟨W.heap.size, 0, none⟩) 5 5) (w' := W.alloc (.cells #[.slice a_c ctx.length c_c, .slice ar35 (padV ctx).length cr35, .slice a_m mixed.length c_m, .slice ar38 (padV mixed).length cr38, .slice a29_ ((by8 ((ctx.length : Nat) : Int) ++ by8 ((mixed.length : Nat) : Int)).length) c29_] 24)) kj, ext_alloc _ _, ⟨W.heap.size, ρ 35, ρ 38, rfl, (Rely.Ext.trans (ext_drew _) hR).size, ?_, (OwnN.stable _ _ _ _) _ _ _ (ext_alloc _ _) hh.2.1, (OwnN.stable _ _ _ _) _ _ _ (ext_alloc _ _) hh.2.2.2.1⟩⟩
    rw [e35, e38]; exact heap_alloc_new _ _
  refine e_nil (hF _ fun W9 e9 => ?_)
  simp only [List.nil_append, List.cons_append, List.take_succ_cons, List.take_zero, List.drop_succ_cons, List.drop_zero, finE, up]
  intro vv17 hv17 vv18 hv18 vv19 hv19
  clear hF
  have x9 : Ext w W9 := Ext.tr x8 e9
  obtain ⟨g20, za35_19, za38_19, rfl, l20, r20_9, qza35_19, qza38_19⟩ := hv19
  have b20 : w.heap.size ≤ g20 := Nat.le_trans x8.size l20
  obtain ⟨a35b_, c35b_, rfl, -⟩ := id (OwnN.rd qza35_19)
  obtain ⟨a38b_, c38b_, rfl, -⟩ := id (OwnN.rd qza38_19)
  have f21_9 := (f14.ext e9)
  refine seq_call (.agg (ints .u8 (authV key nonce ctx mixed))) 11 #[.agg (ints .u8 (otk key nonce)), .slice (some ⟨g20, 0, none⟩) 5 5] 41 rfl kj kj ((mark5C (otk key nonce) ctx (padV ctx) mixed (padV mixed) (by8 ((ctx.length : Nat) : Int) ++ by8 ((mixed.length : Nat) : Int)) _ _ _ _ _ _ _ _ (otk_len _ _) (otk_bytes _ _) (Nat.le_refl _) (RdK.here (RdK.ext hc x9)) hcb (by omega) (RdK.here (OwnN.rd qza35_19)) (padV_bytes _) (by rw [padV_len]; omega) (RdK.here (RdK.ext hm x9)) hmb (by omega) (RdK.here (OwnN.rd qza38_19)) (padV_bytes _) (by rw [padV_len]; omega) (RdK.here (OwnN.rd f21_9)) (bytes_app (by8_bytes _) (by8_bytes _)) (by rw [List.length_append, by8_len, by8_len]; decide) r20_9)) fun W10 e10 => ?_
  have x10 : Ext w W10 := Ext.tr x9 e10
  have r5_3 := (row_ext r5_2 e3)
  have r5_4 := (row_ext r5_3 e4)
  have r5_5 := (Puts.row p5 r5_4 (ne_of_old r5_3 l7))
  have r5_6 := (row_ext r5_5 e6)
  have r5_7 := (row_ext r5_6 e7)
  have r5_8 := (low_row l8 r5_7 (row_lt r5_5))
  have r5_9 := (row_ext r5_8 e9)
  have r5_10 := (row_ext r5_9 e10)
  refine seq_store g5 _ (ints .u8 (authV key nonce ctx mixed)) 27 r5_10 rfl kj (run_store_row 27 _ _ g5 27 _ _ r5_10 rfl kj kj (isz (n := 16) kj ((ints_size _ _).trans (authV_len _ _ _ _))) (eqsz (n := 16) ((ints_size _ _).trans (List.length_replicate (n := 16))) ((ints_size _ _).trans (authV_len _ _ _ _))) (ints_one _ _)) fun W11 p11 r5_11 => ?_
  have x11 : Ext w W11 := Puts.ext p11 x10 b5
  refine seq_val (.nilIface) 9 rfl kj kj ?_
  refine seq_nil ?_
  refine hK16 _ _ ?_
  try clear hK16 K16
  refine wp_ret ?_
  repeat (first | with_reducible refine goR1 ?_ | with_reducible refine goR2 ?_)
  exact (show bodyPost _ _ _ .ret _ _ from ret2 (.agg (ints .u8 (authV key nonce ctx mixed))) (.nilIface) rfl (res_cell g5 27 _ r5_11 kj kj (isz (n := 16) kj ((ints_size _ _).trans (authV_len _ _ _ _)))) (res_tmp kj) ⟨rfl, x11⟩)

end Go.Proofs.YtjldjdlhllgakaaDoor.Ae
