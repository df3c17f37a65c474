/- The law NoiseShakes (the fixed fact: two shake hands, read what was written and come to the same keys; two who know one another's public keys, with any two secret keys, any two draws, any two payloads and any prologue, read what was written, and come to the same keys and the same hash, and are done) returns true for every four keys and every three slices of bytes, of any length (beyond 1024 for a payload and 1000 for the prologue it claims nothing), nil, overlapping or of any capacity, and changes nothing of its world, in any world in which package sha's two tables and package chacha's two tables lie as they are laid (card). -/
import Derived.Test.YtlcjklafldaemaaGreatDoorCards
import Derived.Test.YtlcjklafldaemaaGreatDoorTie
import Derived.Test.YtlcjklafldaemaaGreatDoorZS5
import Derived.WalkKit
import Derived.ProofKit
import Derived.OpenShut
import Derived.ShutString
import Derived.ChangeOld
import Derived.Below
import Derived.Deep.DeepHandedRow
import Derived.Lib.LaidTab
import Derived.Lib.SmallJoins
namespace Go.Proofs.YtlcjklafldaemaaGreatDoor.noiseShakesF
open Go.ChangeShapes Go.WideShapes Go.ChangeAt Go.RowKit
open Go.Proofs.YtlcjklafldaemaaGreatDoor.Rely
set_option linter.unusedVariables false

theorem own : ownKnob Tryz.prog.godebug = none := by kernel_rfl
theorem laidOut : laidOutB Tryz.prog = true := by kernel_rfl
open Go.Proofs.YtlcjklafldaemaaGreatDoor.Auto Go.Proofs.YtlcjklafldaemaaGreatDoor.Sha in
theorem rowC {W : World} (h : laidMetH Tryz.prog Rows.noiseShakesRow.laid W) : ∃ t, W.heap[1]? = some (.cells (ints .u64 QbI) t) :=
  QhA (P := Tryz.prog) (laid := Rows.noiseShakesRow.laid) (n := "burrow/sha.cubes") (t := 146) (e := 115) (m := 80) (k := .u64) (zs := QbI) h (List.Mem.head _) (by kernel_rfl) (by kernel_rfl) (by kernel_rfl) (by kernel_rfl) (by kernel_rfl) (by kernel_rfl) (by decide)
open Go.Proofs.YtlcjklafldaemaaGreatDoor.Auto Go.Proofs.YtlcjklafldaemaaGreatDoor.Sha in
theorem rowS {W : World} (h : laidMetH Tryz.prog Rows.noiseShakesRow.laid W) : ∃ t, W.heap[0]? = some (.cells (ints .u64 Qbf) t) :=
  QhA (P := Tryz.prog) (laid := Rows.noiseShakesRow.laid) (n := "burrow/sha.squares") (t := 116) (e := 115) (m := 8) (k := .u64) (zs := Qbf) h (List.Mem.tail _ (List.Mem.head _)) (by kernel_rfl) (by kernel_rfl) (by kernel_rfl) (by kernel_rfl) (by kernel_rfl) (by kernel_rfl) (by decide)
open Go.Proofs.YtlcjklafldaemaaGreatDoor.Auto in
theorem rowH {W : World} (h : laidMetH Tryz.prog Rows.noiseShakesRow.laid W) : ∃ t, W.heap[2]? = some (.cells (ints .u32 [1634760805, 857760878, 2036477234, 1797285236]) t) :=
  QhA (P := Tryz.prog) (laid := Rows.noiseShakesRow.laid) (n := "burrow/chacha.heads") (t := 205) (e := 110) (m := 4) (k := .u32) (zs := [1634760805, 857760878, 2036477234, 1797285236]) h (List.Mem.tail _ (List.Mem.tail _ (List.Mem.head _))) (by kernel_rfl) (by kernel_rfl) (by kernel_rfl) (by kernel_rfl) (by kernel_rfl) (by kernel_rfl) (by decide)
open Go.Proofs.YtlcjklafldaemaaGreatDoor.Auto in
theorem rowQ {W : World} (h : laidMetH Tryz.prog Rows.noiseShakesRow.laid W) : ∃ t, W.heap[3]? = some (.cells (ints .i64 [0, 4, 8, 12, 1, 5, 9, 13, 2, 6, 10, 14, 3, 7, 11, 15, 0, 5, 10, 15, 1, 6, 11, 12, 2, 7, 8, 13, 3, 4, 9, 14]) t) :=
  Qme (P := Tryz.prog) (laid := Rows.noiseShakesRow.laid) (n := "burrow/chacha.quarters") (t := 208) (e := 207) (i := 3) (m1 := 8) (m := 4) (k := .i64) (zss := [[0, 4, 8, 12], [1, 5, 9, 13], [2, 6, 10, 14], [3, 7, 11, 15], [0, 5, 10, 15], [1, 6, 11, 12], [2, 7, 8, 13], [3, 4, 9, 14]]) h (List.Mem.tail _ (List.Mem.tail _ (List.Mem.tail _ (List.Mem.head _)))) (by kernel_rfl) (by kernel_rfl) (by kernel_rfl) (by kernel_rfl) (by kernel_rfl) (by kernel_rfl) (by kernel_rfl) (by kernel_rfl) (by decide)

set_option maxRecDepth 100000 in
theorem contract (H : Type) (enc : TypeId × Value → H) (W : World) (base : Nat) (args : Array Value) (ds gs : List (DataW H)) (before : List MemPlace)
    (hval : ∀ (j : Nat) t v, Tryz.f4.params[j]? = some t → args[j]? = some v → Value.okWide Tryz.prog W .any base t v)
    (hW : DataW.Whole enc Tryz.prog Tryz.f4.params.toList Rows.noiseShakesSpec.vars false W args.toList ds gs before) (hL : laidMetH Tryz.prog Rows.noiseShakesRow.laid W) :
    Calls Tryz.prog 4 args W fun e W' => ∃ v, e = .returned v ∧ Rows.noiseShakesSpec.post enc Tryz.prog Tryz.f4 false true false false W args v W' := by
  have hW' := hW
  obtain ⟨p, q, hA0, hV, rfl, hfz, hnd⟩ := hW
  have hA : DataW.TrodAll enc Tryz.prog W 0 (fun _ => true) true Tryz.f4.params.toList args.toList ds p := hA0
  rw [Tryz.params4] at hA hval
  obtain ⟨v0, vs0, d0, ds0, p0, q0, hargs, rfl, rfl, h0, r0⟩ := trodAll_cons hA
  obtain ⟨rfl, rfl, rfl⟩ := trodAll_nil r0
  obtain rfl : args = #[v0] := by cases args; simp_all
  obtain ⟨rfl, rfl⟩ := trodVars_none hV
  have k0 := h0
  have lt0 : ∀ x ∈ p0, x.block < W.heap.size := by obtain ⟨m, hm⟩ := k0; exact DataW.trod_lt m _ _ _ hm
  obtain ⟨L0_0, L0_1, L0_2, L0_3, L0_4, L0_5, L0_6, y0_0, y0_1, y0_2, y0_3, y0_4, y0_5, y0_6, m0, rfl, hy0_0, hy0_1, hy0_2, hy0_3, hy0_4, hy0_5, hy0_6⟩ := Go.Proofs.YtlcjklafldaemaaGreatDoor.Auto.open_st7 (n0 := 32) (n1 := 32) (n2 := 32) (n3 := 32) (n4 := 1) (n5 := 1) (n6 := 1) Tryz.underlying63 ⟨by kernel_rfl, by kernel_rfl, by kernel_rfl, by kernel_rfl, by kernel_rfl, by kernel_rfl, by kernel_rfl⟩ ⟨by kernel_rfl, by kernel_rfl, by kernel_rfl, by kernel_rfl, by kernel_rfl, by kernel_rfl, by kernel_rfl⟩ (by kernel_rfl) (hval 0 63 v0 rfl rfl) h0
  obtain ⟨z0_0, rfl, hz0_0, w0_0⟩ := Go.Proofs.YtlcjklafldaemaaGreatDoor.Auto.open_raw Tryz.underlying23 Tryz.underlying5 (by kernel_rfl) (by kernel_rfl) hy0_0
  obtain ⟨z0_1, rfl, hz0_1, w0_1⟩ := Go.Proofs.YtlcjklafldaemaaGreatDoor.Auto.open_raw Tryz.underlying23 Tryz.underlying5 (by kernel_rfl) (by kernel_rfl) hy0_1
  obtain ⟨z0_2, rfl, hz0_2, w0_2⟩ := Go.Proofs.YtlcjklafldaemaaGreatDoor.Auto.open_raw Tryz.underlying23 Tryz.underlying5 (by kernel_rfl) (by kernel_rfl) hy0_2
  obtain ⟨z0_3, rfl, hz0_3, w0_3⟩ := Go.Proofs.YtlcjklafldaemaaGreatDoor.Auto.open_raw Tryz.underlying23 Tryz.underlying5 (by kernel_rfl) (by kernel_rfl) hy0_3
  obtain ⟨a0_4, len0_4, cap0_4, z0_4, e0_4, w0_4⟩ : ∃ a len cap zs, L0_4 = [.slice a len cap] ∧ Qoe .u8 W a len cap zs := by
    rcases open_ints Tryz.underlying24 Tryz.underlying5 (by kernel_rfl) hy0_4 with ⟨hcs, _⟩ | ⟨x, l, c, zs, hcs, _, hl, hm, hz, _, hcell, hwz⟩
    · exact ⟨none, 0, 0, [], hcs, .inl ⟨rfl, rfl, rfl, rfl⟩⟩
    · exact ⟨_, _, _, zs, hcs, .inr ⟨_, rfl, hl, hm, by simpa using hz, hcell, hwz⟩⟩
  subst e0_4
  obtain ⟨a0_5, len0_5, cap0_5, z0_5, e0_5, w0_5⟩ : ∃ a len cap zs, L0_5 = [.slice a len cap] ∧ Qoe .u8 W a len cap zs := by
    rcases open_ints Tryz.underlying24 Tryz.underlying5 (by kernel_rfl) hy0_5 with ⟨hcs, _⟩ | ⟨x, l, c, zs, hcs, _, hl, hm, hz, _, hcell, hwz⟩
    · exact ⟨none, 0, 0, [], hcs, .inl ⟨rfl, rfl, rfl, rfl⟩⟩
    · exact ⟨_, _, _, zs, hcs, .inr ⟨_, rfl, hl, hm, by simpa using hz, hcell, hwz⟩⟩
  subst e0_5
  obtain ⟨a0_6, len0_6, cap0_6, z0_6, e0_6, w0_6⟩ : ∃ a len cap zs, L0_6 = [.slice a len cap] ∧ Qoe .u8 W a len cap zs := by
    rcases open_ints Tryz.underlying24 Tryz.underlying5 (by kernel_rfl) hy0_6 with ⟨hcs, _⟩ | ⟨x, l, c, zs, hcs, _, hl, hm, hz, _, hcell, hwz⟩
    · exact ⟨none, 0, 0, [], hcs, .inl ⟨rfl, rfl, rfl, rfl⟩⟩
    · exact ⟨_, _, _, zs, hcs, .inr ⟨_, rfl, hl, hm, by simpa using hz, hcell, hwz⟩⟩
  subst e0_6
  clear hA0
  have walk : Calls Tryz.prog 4 #[.agg (z0_0.map (Value.int .u8) ++ z0_1.map (Value.int .u8) ++ z0_2.map (Value.int .u8) ++ z0_3.map (Value.int .u8) ++ [Value.slice a0_4 len0_4 cap0_4] ++ [Value.slice a0_5 len0_5 cap0_5] ++ [Value.slice a0_6 len0_6 cap0_6]).toArray] W fun e w' => e = .returned (.bool true) ∧ Below W.heap.size W w' := by
    obtain ⟨tC, hC⟩ := rowC hL
    obtain ⟨tS, hS⟩ := rowS hL
    obtain ⟨tH, hH⟩ := rowH hL
    obtain ⟨tQ, hQ⟩ := rowQ hL
    obtain ⟨r0_4, l0_4, f0_4⟩ := Go.Proofs.YtlcjklafldaemaaGreatDoor.Auto.rdK_of_row w0_4
    obtain ⟨r0_5, l0_5, f0_5⟩ := Go.Proofs.YtlcjklafldaemaaGreatDoor.Auto.rdK_of_row w0_5
    obtain ⟨r0_6, l0_6, f0_6⟩ := Go.Proofs.YtlcjklafldaemaaGreatDoor.Auto.rdK_of_row w0_6
    have h := Go.Proofs.YtlcjklafldaemaaGreatDoor.No.shakeC z0_0 z0_1 z0_2 z0_3 (z0_4.take len0_4) (z0_5.take len0_5) (z0_6.take len0_6) hz0_0 w0_0 hz0_1 w0_1 hz0_2 w0_2 hz0_3 w0_3 (Go.Proofs.YtlcjklafldaemaaGreatDoor.Auto.bytes_wf f0_4) (Go.Proofs.YtlcjklafldaemaaGreatDoor.Auto.bytes_wf f0_5) (Go.Proofs.YtlcjklafldaemaaGreatDoor.Auto.bytes_wf f0_6) tC tS tH tQ _ ⟨hC, hS, hH, hQ⟩ a0_4 cap0_4 (by rw [l0_4]; exact Go.Proofs.YtlcjklafldaemaaGreatDoor.Auto.RdK.here r0_4) a0_5 cap0_5 (by rw [l0_5]; exact Go.Proofs.YtlcjklafldaemaaGreatDoor.Auto.RdK.here r0_5) a0_6 cap0_6 (by rw [l0_6]; exact Go.Proofs.YtlcjklafldaemaaGreatDoor.Auto.RdK.here r0_6)
    rw [l0_4, l0_5, l0_6] at h
    have e : ∀ (x y z t : List Int) (v v2 v3 : Value), (List.map (Value.int .u8) x ++ List.map (Value.int .u8) y ++ List.map (Value.int .u8) z ++ List.map (Value.int .u8) t ++ [v] ++ [v2] ++ [v3]).toArray = Go.Proofs.YtlcjklafldaemaaGreatDoor.Auto.cat [Go.Proofs.YtlcjklafldaemaaGreatDoor.Rely.ints .u8 x, Go.Proofs.YtlcjklafldaemaaGreatDoor.Rely.ints .u8 y, Go.Proofs.YtlcjklafldaemaaGreatDoor.Rely.ints .u8 z, Go.Proofs.YtlcjklafldaemaaGreatDoor.Rely.ints .u8 t, #[v], #[v2], #[v3]] := fun x y z t v v2 v3 => by
      apply Array.ext'
      simp [Go.Proofs.YtlcjklafldaemaaGreatDoor.Auto.cat, Go.Proofs.YtlcjklafldaemaaGreatDoor.Rely.ints]
    rw [e]
    exact h
  refine walk.mono fun e W' ⟨he, bel⟩ => ?_
  subst he
  exact ⟨_, rfl, _, _, _, [], _, [], hW', trodAll_mk1 (shut_bool Tryz.underlying4 _), (trodAll_cons_mk (Below.trod laidOut (by kernel_rfl) (of_decide_eq_true (by kernel_rfl)) k0 bel lt0) trodAll_mk0), rfl, bel.frame _, fun h => by cases h⟩

noncomputable def laidWorld (os : Os) : World :=
  { World.holding Tryz.prog os ⟨#[], #[], []⟩ with heap := (((((World.holding Tryz.prog os ⟨#[], #[], []⟩).heap.modify 1 fun
      | .cells _ t frozen => .cells #[.int .u64 4794697086780616226, .int .u64 8158064640168781261, .int .u64 13096744586834688815, .int .u64 16840607885511220156, .int .u64 4131703408338449720, .int .u64 6480981068601479193, .int .u64 10538285296894168987, .int .u64 12329834152419229976, .int .u64 15566598209576043074, .int .u64 1334009975649890238, .int .u64 2608012711638119052, .int .u64 6128411473006802146, .int .u64 8268148722764581231, .int .u64 9286055187155687089, .int .u64 11230858885718282805, .int .u64 13951009754708518548, .int .u64 16472876342353939154, .int .u64 17275323862435702243, .int .u64 1135362057144423861, .int .u64 2597628984639134821, .int .u64 3308224258029322869, .int .u64 5365058923640841347, .int .u64 6679025012923562964, .int .u64 8573033837759648693, .int .u64 10970295158949994411, .int .u64 12119686244451234320, .int .u64 12683024718118986047, .int .u64 13788192230050041572, .int .u64 14330467153632333762, .int .u64 15395433587784984357, .int .u64 489312712824947311, .int .u64 1452737877330783856, .int .u64 2861767655752347644, .int .u64 3322285676063803686, .int .u64 5560940570517711597, .int .u64 5996557281743188959, .int .u64 7280758554555802590, .int .u64 8532644243296465576, .int .u64 9350256976987008742, .int .u64 10552545826968843579, .int .u64 11727347734174303076, .int .u64 12113106623233404929, .int .u64 14000437183269869457, .int .u64 14369950271660146224, .int .u64 15101387698204529176, .int .u64 15463397548674623760, .int .u64 17586052441742319658, .int .u64 1182934255886127544, .int .u64 1847814050463011016, .int .u64 2177327727835720531, .int .u64 2830643537854262169, .int .u64 3796741975233480872, .int .u64 4115178125766777443, .int .u64 5681478168544905931, .int .u64 6601373596472566643, .int .u64 7507060721942968483, .int .u64 8399075790359081724, .int .u64 8693463985226723168, .int .u64 9568029438360202098, .int .u64 10144078919501101548, .int .u64 10430055236837252648, .int .u64 11840083180663258601, .int .u64 13761210420658862357, .int .u64 14299343276471374635, .int .u64 14566680578165727644, .int .u64 15097957966210449927, .int .u64 16922976911328602910, .int .u64 17689382322260857208, .int .u64 500013540394364858, .int .u64 748580250866718886, .int .u64 1242879168328830382, .int .u64 1977374033974150939, .int .u64 2944078676154940804, .int .u64 3659926193048069267, .int .u64 4368137639120453308, .int .u64 4836135668995329356, .int .u64 5532061633213252278, .int .u64 6448918945643986474, .int .u64 6902733635092675308, .int .u64 7801388544844847127] t frozen
      | o => o).modify 0 fun
      | .cells _ t frozen => .cells #[.int .u64 7640891576956012808, .int .u64 13503953896175478587, .int .u64 4354685564936845355, .int .u64 11912009170470909681, .int .u64 5840696475078001361, .int .u64 11170449401992604703, .int .u64 2270897969802886507, .int .u64 6620516959819538809] t frozen
      | o => o).modify 2 fun
      | .cells _ t frozen => .cells #[.int .u32 1634760805, .int .u32 857760878, .int .u32 2036477234, .int .u32 1797285236] t frozen
      | o => o).modify 3 fun
      | .cells _ t frozen => .cells #[.int .i64 0, .int .i64 4, .int .i64 8, .int .i64 12, .int .i64 1, .int .i64 5, .int .i64 9, .int .i64 13, .int .i64 2, .int .i64 6, .int .i64 10, .int .i64 14, .int .i64 3, .int .i64 7, .int .i64 11, .int .i64 15, .int .i64 0, .int .i64 5, .int .i64 10, .int .i64 15, .int .i64 1, .int .i64 6, .int .i64 11, .int .i64 12, .int .i64 2, .int .i64 7, .int .i64 8, .int .i64 13, .int .i64 3, .int .i64 4, .int .i64 9, .int .i64 14] t frozen
      | o => o) }
theorem laid_met (os : Os) : laidMet Tryz.prog Rows.noiseShakesRow.laid ((laidWorld os).forCall (fun _ _ => 0) ⟨#[], #[Value.agg (Array.replicate 32 (Value.int .u8 0) ++ Array.replicate 32 (Value.int .u8 0) ++ Array.replicate 32 (Value.int .u8 0) ++ Array.replicate 32 (Value.int .u8 0) ++ #[Value.slice none 0 0] ++ #[Value.slice none 0 0] ++ #[Value.slice none 0 0])], []⟩).memory :=
  laidMet_of_run' 8 (by kernel_rfl) (by kernel_rfl)
theorem reads (os : Os) {H : Type} (enc : TypeId × Value → H) : ∃ places, DataW.whole enc Tryz.prog ((laidWorld os).forCall (fun _ _ => 0) ⟨#[], #[Value.agg (Array.replicate 32 (Value.int .u8 0) ++ Array.replicate 32 (Value.int .u8 0) ++ Array.replicate 32 (Value.int .u8 0) ++ Array.replicate 32 (Value.int .u8 0) ++ #[Value.slice none 0 0] ++ #[Value.slice none 0 0] ++ #[Value.slice none 0 0])], []⟩).memory Tryz.f4.params.toList Rows.noiseShakesSpec.vars false (#[Value.agg (Array.replicate 32 (Value.int .u8 0) ++ Array.replicate 32 (Value.int .u8 0) ++ Array.replicate 32 (Value.int .u8 0) ++ Array.replicate 32 (Value.int .u8 0) ++ #[Value.slice none 0 0] ++ #[Value.slice none 0 0] ++ #[Value.slice none 0 0])]).toList 8 = some ([.agg [.agg (List.replicate 32 (.lit (.int .u8 0))), .agg (List.replicate 32 (.lit (.int .u8 0))), .agg (List.replicate 32 (.lit (.int .u8 0))), .agg (List.replicate 32 (.lit (.int .u8 0))), .nil, .nil, .nil]], [], places) :=
  ⟨[], by kernel_rfl⟩

set_option maxRecDepth 100000 in
theorem lifted (os : Os) (started : os.Started) (H : Type) (enc : TypeId × Value → H) (F : Stop.Interp) :
    ReturnsInHanded {} Tryz.checked os 4 .any ((OpenSpec.ofChange Rows.noiseShakesSpec).preRow enc Tryz.prog Tryz.f4 Rows.noiseShakesRow.domain false Rows.noiseShakesRow.laid) (((OpenSpec.ofChange Rows.noiseShakesSpec).at F).post enc Tryz.prog Tryz.f4 false true false false) := by
  obtain ⟨places, hx⟩ := reads os enc
  refine returnsInHanded_of_row (C := Tryz.checked) (s := OpenSpec.ofChange Rows.noiseShakesSpec) own started (by kernel_rfl) Tryz.func4
    (witness_row_at (enc := enc) (C := Tryz.checked) false (laidWorld os) #[Value.agg (Array.replicate 32 (Value.int .u8 0) ++ Array.replicate 32 (Value.int .u8 0) ++ Array.replicate 32 (Value.int .u8 0) ++ Array.replicate 32 (Value.int .u8 0) ++ #[Value.slice none 0 0] ++ #[Value.slice none 0 0] ++ #[Value.slice none 0 0])] rfl (by kernel_rfl) (by kernel_rfl) (by kernel_rfl)
      (OpenSpec.preRow_of_cond 8 hx (by kernel_rfl) (fun k hk => by cases hk) (by kernel_rfl) (laid_met os))) ?_
  intro W base args ds gs before hval hW _ hcond _ hL _ _
  exact contract H enc W base args ds gs before hval hW hL

theorem said : Rows.NoiseShakesSaid :=
  OpenClaim.holds_of_cond 4 Tryz.f4 rfl rfl rfl rfl rfl rfl rfl ⟨rfl, rfl, rfl, rfl, rfl⟩ rfl rfl rfl rfl rfl (by kernel_rfl) Tryz.func4 (by kernel_rfl)
    (of_decide_eq_true (by kernel_rfl)) (by unfold Func.isWrapper; first | (rw [if_pos (by decide +kernel)]; kernel_rfl) | (rw [if_neg (by decide +kernel)]; exact ⟨rfl, rfl⟩))
    (fun os started H enc _ F => by rw [OpenClaim.pre_eq_preRow]; exact lifted os started H enc F)

theorem plain (f : FuncId) (fn : Func) (hf : Tryz.pinned.checked.prog.funcNamed "burrow/burrowlaw11.NoiseShakes" = some f) (hfn : Tryz.pinned.checked.prog.funcs[f]? = some fn) :
    true = Tryz.pinned.checked.prog.looks [] ∧ ∀ (j : Nat) t, fn.params[j]? = some t → Tryz.pinned.checked.prog.wantsStandIn t = false := by
  obtain rfl : f = 4 := Option.some.inj ((show Tryz.prog.funcNamed "burrow/burrowlaw11.NoiseShakes" = some 4 by kernel_rfl).symm.trans hf) |>.symm
  obtain rfl : fn = Tryz.f4 := (Option.some.inj (Tryz.func4.symm.trans hfn)).symm
  refine ⟨by kernel_rfl, fun j t ht => ?_⟩
  rw [Tryz.params4] at ht
  have ht' := Array.mem_of_getElem? ht
  simp only [List.mem_toArray, List.mem_cons, List.not_mem_nil, or_false] at ht'
  subst ht'
  exact (show Tryz.prog.wantsStandIn 63 = false by kernel_rfl)

theorem card : Rows.NoiseShakesCardSaid :=
  Claim7.holds_tied_plain_at .later [] _ _ _ _ said (fun _ h => by cases h) (by kernel_rfl) (fun _ h => by cases h) noiseShakes_row_tie rfl ⟨rfl, rfl⟩ (by kernel_rfl) rfl plain (by kernel_rfl)
end Go.Proofs.YtlcjklafldaemaaGreatDoor.noiseShakesF
