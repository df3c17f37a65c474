/- The reference's mark. -/
import Derived.Test.YtjldjdlhllgakaaDoorAeT
namespace Go.Proofs.YtjldjdlhllgakaaDoor.Ae
open Go Go.RowKit
open Go.Proofs.YtjldjdlhllgakaaDoor.Rely Go.Proofs.YtjldjdlhllgakaaDoor.Auto Go.Proofs.YtjldjdlhllgakaaDoor.Own Go.Proofs.YtjldjdlhllgakaaDoor.Sha
set_option linter.unusedVariables false
set_option linter.unusedSimpArgs false

open Go.Proofs.YtjldjdlhllgakaaDoor.Sha Go.Proofs.YtjldjdlhllgakaaDoor.Cha
theorem run_sliceE {P : Program} {ρ : Operand → Value} {o : Oper} {w : World} (t : TypeId) (x y z : Operand) (l h : Nat) (e : TypeId) (ho : o.op = .slice t x (some y) (some z) none) {a : Option Addr} {len cap : Nat} (hx : ρ x = .slice a len cap)
    (hu : P.underlying t = some (.slice e)) (hs : (P.info? e).map (·.size) = some 1) (ky kz : IntKind) (hy : ρ y = .int ky (l : Int)) (hz : ρ z = .int kz (h : Int)) (h1 : l ≤ h) (h2 : h ≤ cap) :
    (execOp ρ o).run P w = .ok (.value (.slice (restA a cap l) (h - l) (cap - l))) w := by
  cases hq : P.info? e with
  | none => simp [hq] at hs
  | some i =>
    have hs' : i.size = 1 := by simpa [hq] using hs
    unfold execOp restA
    have hadd : ∀ a : Option Addr, Option.map (fun x => x.add 0) a = a := fun a => by
      cases a with
      | none => rfl
      | some a => obtain ⟨b, o, s⟩ := a; cases s <;> simp [Addr.add]
    by_cases hc : cap = l
    · have h3 : h = l := by omega
      subst h3
      simp [ho, hx, hy, hz, Instr.sliceAt, Instr.slice, Instr.sliceBounds, run_sliceBound, run_underlying hu, sizeOf, typeInfo, hq, hs', hadd, hc]
    · simp [ho, hx, hy, hz, Instr.sliceAt, Instr.slice, Instr.sliceBounds, run_sliceBound, run_underlying hu, sizeOf, typeInfo, hq, hs', h1, h2, hadd, hc]
theorem rdK_arr {k : IntKind} {T : TypeId} {g n l h : Nat} {xs : List Int} {W : World} (hn : xs.length = n) (r : W.heap[g]? = some (.cells (ints k xs) T)) (h1 : l ≤ h) (h2 : h ≤ n) (h3 : n ≤ maxLen) : RdK k W.heap.size ((xs.drop l).take (h - l)) (.slice (some ⟨g, l, none⟩) (h - l) (n - l)) W :=
  rdK_row l (by rw [List.length_take, List.length_drop]; omega) r (fun i hi => by rw [nth_take _ _ _ hi, nth_drop]; exact ints_get k xs (l + i) (by omega)) (row_lt r) (by omega) (by omega)
/-- the bits of a key that aren't used are cleared -/
def clampR (b : List Int) : List Int :=
  let b1 := b.set 3 (nth b 3 % 16)
  let b2 := b1.set 7 (nth b1 7 % 16)
  let b3 := b2.set 11 (nth b2 11 % 16)
  let b4 := b3.set 15 (nth b3 15 % 16)
  let b5 := b4.set 4 (nth b4 4 / 4 * 4)
  let b6 := b5.set 8 (nth b5 8 / 4 * 4)
  b6.set 12 (nth b6 12 / 4 * 4)
def rOf (key : List Int) : Int := lev (clampR ((key.drop 0).take (16 - 0)))
def sOf (key : List Int) : Int := lev ((key.drop 16).take (32 - 16))
theorem small_next {x c r q y : Int} (h : x % PP = q) (hy : y % PP = (x + c) * r % PP) : y % PP = (q + c) * r % PP := by
  rw [hy, ← h, Int.mul_emod (x + c), Int.add_emod x c, Int.mul_emod (x % PP + c), Int.add_emod (x % PP) c, Int.emod_emod_of_dvd x (Int.dvd_refl PP)]
theorem more_A {xs zs : List Int} (hx : lev xs < 1361129467683753853853498429727072845824) (hb : AreBytes zs) (hv : lev zs = lev xs + lev [5]) (h17 : 17 ≤ zs.length) (h4 : 4 ≤ nth zs 16) : lev (zs.set 16 (nth zs 16 % 4)) = lev xs % PP := by
  have h1 := lev_digit zs 16 hb
  rw [p16] at h1
  have h2 : lev [5] = 5 := rfl
  rw [h2] at hv
  have h3 := lev_nonneg hb
  have h6 : nth zs 16 = 4 := by omega
  have h7 : 1361129467683753853853498429727072845819 ≤ lev xs := by omega
  rw [lev_set zs 16 _ (by omega), p16, h6]
  unfold PP
  omega
theorem more_B {xs zs : List Int} (hx0 : 0 ≤ lev xs) (hb : AreBytes zs) (hv : lev zs = lev xs + lev [5]) (hlt : lev xs < 1361129467683753853853498429727072845824) (h : zs.length < 17 ∨ nth zs 16 < 4) : lev xs = lev xs % PP := by
  have h2 : lev [5] = 5 := rfl
  rw [h2] at hv
  have h1 := lev_digit zs 16 hb
  rw [p16] at h1
  have h5 : zs.length < 17 → nth zs 16 = 0 := fun h => nth_ge zs 16 (by omega)
  unfold PP
  rcases h with h | h
  · have := h5 h; omega
  · omega
theorem by16_full {zs : List Int} (hb : AreBytes zs) {i : Nat} (hi : i ≤ 16) (h : i = 16 ∨ zs.length ≤ i) : fillL (by16 (lev zs)) 16 i = by16 (lev zs) := by
  apply nth_ext
  · rw [fillL_len _ 16 _ (by16_len _) hi, by16_len]
  · intro j hj
    rw [fillL_len _ 16 _ (by16_len _) hi] at hj
    unfold fillL
    rcases Nat.lt_or_ge j i with hji | hji
    · have e : nth ((by16 (lev zs)).take i ++ List.replicate (16 - i) 0) j = nth ((by16 (lev zs)).take i) j := by
        unfold nth; rw [List.getD_eq_getElem?_getD, List.getD_eq_getElem?_getD, List.getElem?_append_left (by rw [List.length_take, by16_len]; omega)]
      rw [e, nth_take _ _ _ hji]
    · rcases h with h | h
      · omega
      · rw [by16_nth _ _ hj, ← lev_digit zs j hb, nth_ge zs j (by omega)]
        unfold nth
        rw [List.getD_eq_getElem?_getD, List.getElem?_append_right (by rw [List.length_take, by16_len]; omega), List.getElem?_replicate]
        split <;> rfl
theorem by16_wrap {zs : List Int} (hb : AreBytes zs) {i : Nat} (hi : i < 16) : IntKind.u8.wrap (nth zs i) = nth (by16 (lev zs)) i := by
  have h := bytes_nth hb i
  have h3 : ∀ z : Int, IntKind.u8.wrap z = z % 256 := fun _ => rfl
  rw [by16_nth _ _ hi, ← lev_digit zs i hb, h3]
  omega
theorem part_eq (t : List Int) (n e : Nat) (h : e = 16 * n + 16 ∨ (e = t.length ∧ t.length < 16 * n + 16)) : (t.drop (16 * n)).take (e - 16 * n) = (t.drop (16 * n)).take 16 := by
  rcases h with h | ⟨h, h2⟩
  · rw [h, show 16 * n + 16 - 16 * n = 16 by omega]
  · rw [List.take_of_length_le (by rw [List.length_drop]; omega), List.take_of_length_le (by rw [List.length_drop]; omega)]
set_option maxRecDepth 100000 in
set_option maxHeartbeats 4000000 in
theorem rmarkC (key text : List Int) (v : Value) (B : Nat) (w : World) (hkl : key.length = 32) (hkb : AreBytes key) (htb : AreBytes text) (ht : RdK .u8 B text v w) (hl : text.length ≤ 3000000) :
    Calls Tryd.prog 12 #[.agg (ints .u8 key), v] w (Ret w (.agg (ints .u8 (tagV (rOf key) (sOf key) text)))) := by
  obtain ⟨a_t, c_t, rfl, -⟩ := id ht
  have hcap : text.length ≤ c_t := by
    obtain ⟨_, _, e, q2, _⟩ := id ht
    simp only [Value.slice.injEq] at e
    obtain ⟨-, -, rfl⟩ := e
    exact q2
  refine enter 113 [(0, .agg (ints .u8 (key))), (1, .slice a_t text.length c_t)] Tryd.func12 rfl rfl kj rfl ?_
  refine wp_seq_k fun K1 hK1 => ?_
  refine region_lit ?_
  refine seq_alloc (ints .u8 (key)) 23 2 rfl kj kj fun g2 W1 l2 e1 r2_1 => ?_
  have x1 : Ext w W1 := Ext.tr (Rely.Ext.refl w) e1
  have b2 : w.heap.size ≤ g2 := Nat.le_trans (Rely.Ext.refl w).size l2
  refine seq_alloc (ints .u8 (List.replicate 16 0)) 27 4 rfl kj kj fun g3 W2 l3 e2 r3_2 => ?_
  have x2 : Ext w W2 := Ext.tr x1 e2
  have b3 : w.heap.size ≤ g3 := Nat.le_trans x1.size l3
  refine seq_nil ?_
  refine hK1 _ _ ?_
  try clear hK1 K1
  refine wp_seq_k fun K4 hK4 => ?_
  refine region_lit ?_
  refine seq_val (.slice (some ⟨g2, 0 + 0, none⟩) (16 - 0) (32 - 0)) 16 rfl kj (run_sliceA 23 _ _ _ 0 16 32 g2 0 5 rfl kj kj kj rfl ⟨.i64, by kernel_rfl⟩ (by omega) (by omega) (by omega)) ?_
  have r2_2 := (row_ext r2_1 e2)
  refine seq_callR (fun v W' => (OwnN .i64 3 W2.heap.size ((key.drop 0).take (16 - 0))) v W' ∧ Ext W2 W') 27 #[.slice (some ⟨g2, 0 + 0, none⟩) (16 - 0) (32 - 0)] 17 rfl kj kj ((numbersC ((key.drop 0).take (16 - 0)) _ _ _ (rdK_arr (l := 0) (h := 16) hkl r2_2 (by decide) (by decide) (by decide)) (by rw [List.length_take]; omega) (bytes_take (bytes_drop hkb 0) _)).mono (by rintro e w' ⟨v, rfl, e1, hv⟩; exact ⟨v, rfl, hv, e1⟩)) fun vv6 W3 hh6 => ?_
  obtain ⟨hv6, e3⟩ := hh6
  have x3 : Ext w W3 := Ext.tr x2 e3
  obtain ⟨an5, cn5, hvn5, -⟩ := id (OwnN.rd hv6)
  subst hvn5
  refine seq_val (.slice an5 (((key.drop 0).take (16 - 0)).length) cn5) 5 rfl kj kj ?_
  obtain ⟨r0, er0⟩ : ∃ z, z = (key.drop 0).take (16 - 0) := ⟨_, rfl⟩
  have hr0 : r0.length = 16 := by rw [er0, List.length_take, List.length_drop, hkl]; rfl
  have hr0b : AreBytes r0 := er0 ▸ bytes_take (bytes_drop hkb 0) _
  have hor : OwnN .i64 3 W2.heap.size r0 (.slice an5 (((key.drop 0).take (16 - 0)).length) cn5) W3 := er0 ▸ hv6
  obtain ⟨gr, cr, rr_, evr, lr, rowr, hcr⟩ := ownN_rest hor hr0 (by decide)
  rw [evr]
  refine seq_nil ?_
  refine hK4 _ _ ?_
  try clear hK4 K4
  refine wp_seq_k fun K8 hK8 => ?_
  refine wp_seq_k fun K9 hK9 => ?_
  refine region_lit ?_
  refine seq_val (.int .i64 3) 6 rfl kj kj ?_
  refine seq_nil ?_
  refine hK9 _ _ ?_
  try clear hK9 K9
  refine wp_block ?_
  refine wp_loop_rounds 5 ?_
  show Code.wp _ _ (Exit.then (Code.rounds _ _ _ 4) _) _ _
  refine wp_seq_k fun K10 hK10 => ?_
  refine wp_seq_k fun K11 hK11 => ?_
  refine region_lit ?_
  refine seq_val (.int .i64 3) 18 rfl kj kj ?_
  refine seq_val (.bool true) 19 rfl kj kj ?_
  refine seq_nil ?_
  refine hK11 _ _ ?_
  try clear hK11 K11
  refine cond_true kj ?_
  refine wp_skip ?_
  refine hK10 _ _ ?_
  try clear hK10 K10
  refine wp_seq_k fun K12 hK12 => ?_
  refine wp_block ?_
  have hxr0 := bytes_nth hr0b 3
  refine region_lit ?_
  refine seq_val (.slice (some ⟨gr, 0, none⟩) 16 cr) 22 rfl kj kj ?_
  refine seq_val (.int .i64 3) 23 rfl kj kj ?_
  refine seq_val (.slice (some ⟨gr, 0, none⟩) 16 cr) 24 rfl kj kj ?_
  refine seq_val (.int .i64 3) 25 rfl kj kj ?_
  refine seq_val (.pointer (some ⟨gr, 3, none⟩)) 26 rfl kj (run_indexS0 54 _ _ .i64 (3) gr 16 cr 3 rfl kj kj kj kj (by decide)) ?_
  refine seq_val (.int .i64 (nth (r0) 3)) 27 rfl kj (run_loadC1 3 _ gr 3 3 _ (.int .i64 (nth (r0) 3)) _ rowr rfl kj (rest_get (Nat.lt_of_lt_of_eq (by decide) hr0.symm)) kj) ?_
  refine seq_val (.int .i64 (nth r0 3 % 16)) 28 rfl kj (run_eq (u := .int .i64 (Int.tmod ((nth (r0) 3)) (16))) kj (congrArg (Value.int .i64) (show Int.tmod (nth r0 3) 16 = nth r0 3 % 16 from Int.tmod_eq_emod_of_nonneg (by omega)))) ?_
  refine seq_val (.pointer (some ⟨gr, 3, none⟩)) 29 rfl kj (run_indexS0 54 _ _ .i64 (3) gr 16 cr 3 rfl kj kj kj kj (by decide)) ?_
  refine seq_store gr _ (ints .i64 ((r0).set 3 (nth r0 3 % 16)) ++ rr_) 3 rowr rfl kj (run_storeRest 3 _ _ gr 3 3 _ _ _ rowr rfl kj kj kj (Nat.lt_of_lt_of_eq (by decide) hr0.symm)) fun W4 p4 r7_4 => ?_
  have x4 : Ext w W4 := Puts.ext p4 x3 (Nat.le_trans x2.size lr)
  obtain ⟨r1, er1⟩ : ∃ z, z = (r0).set 3 (nth r0 3 % 16) := ⟨_, rfl⟩
  have hr1 : r1.length = 16 := by rw [er1, List.length_set, hr0]
  have hbr1 := bytes_nth hr0b 3
  have hr1b : AreBytes r1 := er1 ▸ bytes_set hr0b _ (by omega) (by omega)
  have r7_4_13 : W4.heap[gr]? = some (.cells (ints .i64 (r1) ++ rr_) 3) := row_eqR r7_4 (by rw [er1])
  refine seq_nil ?_
  refine hK12 _ _ ?_
  try clear hK12 K12
  refine region_lit ?_
  refine seq_val (.int .i64 3) 20 rfl kj kj ?_
  refine seq_val (.int .i64 7) 21 rfl kj kj ?_
  refine seq_val (.int .i64 7) 6 rfl kj kj ?_
  refine seq_nil ?_
  show Code.rounds _ _ _ 4 _ _
  show Code.wp _ _ (Exit.then (Code.rounds _ _ _ 3) _) _ _
  refine wp_seq_k fun K14 hK14 => ?_
  refine wp_seq_k fun K15 hK15 => ?_
  refine region_lit ?_
  refine seq_val (.int .i64 7) 18 rfl kj kj ?_
  refine seq_val (.bool true) 19 rfl kj kj ?_
  refine seq_nil ?_
  refine hK15 _ _ ?_
  try clear hK15 K15
  refine cond_true kj ?_
  refine wp_skip ?_
  refine hK14 _ _ ?_
  try clear hK14 K14
  refine wp_seq_k fun K16 hK16 => ?_
  refine wp_block ?_
  have hxr1 := bytes_nth hr1b 7
  refine region_lit ?_
  refine seq_val (.slice (some ⟨gr, 0, none⟩) 16 cr) 22 rfl kj kj ?_
  refine seq_val (.int .i64 7) 23 rfl kj kj ?_
  refine seq_val (.slice (some ⟨gr, 0, none⟩) 16 cr) 24 rfl kj kj ?_
  refine seq_val (.int .i64 7) 25 rfl kj kj ?_
  refine seq_val (.pointer (some ⟨gr, 7, none⟩)) 26 rfl kj (run_indexS0 54 _ _ .i64 (7) gr 16 cr 3 rfl kj kj kj kj (by decide)) ?_
  refine seq_val (.int .i64 (nth (r1) 7)) 27 rfl kj (run_loadC1 3 _ gr 7 3 _ (.int .i64 (nth (r1) 7)) _ r7_4_13 rfl kj (rest_get (Nat.lt_of_lt_of_eq (by decide) hr1.symm)) kj) ?_
  refine seq_val (.int .i64 (nth r1 7 % 16)) 28 rfl kj (run_eq (u := .int .i64 (Int.tmod ((nth (r1) 7)) (16))) kj (congrArg (Value.int .i64) (show Int.tmod (nth r1 7) 16 = nth r1 7 % 16 from Int.tmod_eq_emod_of_nonneg (by omega)))) ?_
  refine seq_val (.pointer (some ⟨gr, 7, none⟩)) 29 rfl kj (run_indexS0 54 _ _ .i64 (7) gr 16 cr 3 rfl kj kj kj kj (by decide)) ?_
  refine seq_store gr _ (ints .i64 ((r1).set 7 (nth r1 7 % 16)) ++ rr_) 3 r7_4_13 rfl kj (run_storeRest 3 _ _ gr 7 3 _ _ _ r7_4_13 rfl kj kj kj (Nat.lt_of_lt_of_eq (by decide) hr1.symm)) fun W5 p5 r7_5 => ?_
  have x5 : Ext w W5 := Puts.ext p5 x4 (Nat.le_trans x2.size lr)
  obtain ⟨r2, er2⟩ : ∃ z, z = (r1).set 7 (nth r1 7 % 16) := ⟨_, rfl⟩
  have hr2 : r2.length = 16 := by rw [er2, List.length_set, hr1]
  have hbr2 := bytes_nth hr1b 7
  have hr2b : AreBytes r2 := er2 ▸ bytes_set hr1b _ (by omega) (by omega)
  have r7_5_17 : W5.heap[gr]? = some (.cells (ints .i64 (r2) ++ rr_) 3) := row_eqR r7_5 (by rw [er2])
  refine seq_nil ?_
  refine hK16 _ _ ?_
  try clear hK16 K16
  refine region_lit ?_
  refine seq_val (.int .i64 7) 20 rfl kj kj ?_
  refine seq_val (.int .i64 11) 21 rfl kj kj ?_
  refine seq_val (.int .i64 11) 6 rfl kj kj ?_
  refine seq_nil ?_
  show Code.rounds _ _ _ 3 _ _
  show Code.wp _ _ (Exit.then (Code.rounds _ _ _ 2) _) _ _
  refine wp_seq_k fun K18 hK18 => ?_
  refine wp_seq_k fun K19 hK19 => ?_
  refine region_lit ?_
  refine seq_val (.int .i64 11) 18 rfl kj kj ?_
  refine seq_val (.bool true) 19 rfl kj kj ?_
  refine seq_nil ?_
  refine hK19 _ _ ?_
  try clear hK19 K19
  refine cond_true kj ?_
  refine wp_skip ?_
  refine hK18 _ _ ?_
  try clear hK18 K18
  refine wp_seq_k fun K20 hK20 => ?_
  refine wp_block ?_
  have hxr2 := bytes_nth hr2b 11
  refine region_lit ?_
  refine seq_val (.slice (some ⟨gr, 0, none⟩) 16 cr) 22 rfl kj kj ?_
  refine seq_val (.int .i64 11) 23 rfl kj kj ?_
  refine seq_val (.slice (some ⟨gr, 0, none⟩) 16 cr) 24 rfl kj kj ?_
  refine seq_val (.int .i64 11) 25 rfl kj kj ?_
  refine seq_val (.pointer (some ⟨gr, 11, none⟩)) 26 rfl kj (run_indexS0 54 _ _ .i64 (11) gr 16 cr 3 rfl kj kj kj kj (by decide)) ?_
  refine seq_val (.int .i64 (nth (r2) 11)) 27 rfl kj (run_loadC1 3 _ gr 11 3 _ (.int .i64 (nth (r2) 11)) _ r7_5_17 rfl kj (rest_get (Nat.lt_of_lt_of_eq (by decide) hr2.symm)) kj) ?_
  refine seq_val (.int .i64 (nth r2 11 % 16)) 28 rfl kj (run_eq (u := .int .i64 (Int.tmod ((nth (r2) 11)) (16))) kj (congrArg (Value.int .i64) (show Int.tmod (nth r2 11) 16 = nth r2 11 % 16 from Int.tmod_eq_emod_of_nonneg (by omega)))) ?_
  refine seq_val (.pointer (some ⟨gr, 11, none⟩)) 29 rfl kj (run_indexS0 54 _ _ .i64 (11) gr 16 cr 3 rfl kj kj kj kj (by decide)) ?_
  refine seq_store gr _ (ints .i64 ((r2).set 11 (nth r2 11 % 16)) ++ rr_) 3 r7_5_17 rfl kj (run_storeRest 3 _ _ gr 11 3 _ _ _ r7_5_17 rfl kj kj kj (Nat.lt_of_lt_of_eq (by decide) hr2.symm)) fun W6 p6 r7_6 => ?_
  have x6 : Ext w W6 := Puts.ext p6 x5 (Nat.le_trans x2.size lr)
  obtain ⟨r3, er3⟩ : ∃ z, z = (r2).set 11 (nth r2 11 % 16) := ⟨_, rfl⟩
  have hr3 : r3.length = 16 := by rw [er3, List.length_set, hr2]
  have hbr3 := bytes_nth hr2b 11
  have hr3b : AreBytes r3 := er3 ▸ bytes_set hr2b _ (by omega) (by omega)
  have r7_6_21 : W6.heap[gr]? = some (.cells (ints .i64 (r3) ++ rr_) 3) := row_eqR r7_6 (by rw [er3])
  refine seq_nil ?_
  refine hK20 _ _ ?_
  try clear hK20 K20
  refine region_lit ?_
  refine seq_val (.int .i64 11) 20 rfl kj kj ?_
  refine seq_val (.int .i64 15) 21 rfl kj kj ?_
  refine seq_val (.int .i64 15) 6 rfl kj kj ?_
  refine seq_nil ?_
  show Code.rounds _ _ _ 2 _ _
  show Code.wp _ _ (Exit.then (Code.rounds _ _ _ 1) _) _ _
  refine wp_seq_k fun K22 hK22 => ?_
  refine wp_seq_k fun K23 hK23 => ?_
  refine region_lit ?_
  refine seq_val (.int .i64 15) 18 rfl kj kj ?_
  refine seq_val (.bool true) 19 rfl kj kj ?_
  refine seq_nil ?_
  refine hK23 _ _ ?_
  try clear hK23 K23
  refine cond_true kj ?_
  refine wp_skip ?_
  refine hK22 _ _ ?_
  try clear hK22 K22
  refine wp_seq_k fun K24 hK24 => ?_
  refine wp_block ?_
  have hxr3 := bytes_nth hr3b 15
  refine region_lit ?_
  refine seq_val (.slice (some ⟨gr, 0, none⟩) 16 cr) 22 rfl kj kj ?_
  refine seq_val (.int .i64 15) 23 rfl kj kj ?_
  refine seq_val (.slice (some ⟨gr, 0, none⟩) 16 cr) 24 rfl kj kj ?_
  refine seq_val (.int .i64 15) 25 rfl kj kj ?_
  refine seq_val (.pointer (some ⟨gr, 15, none⟩)) 26 rfl kj (run_indexS0 54 _ _ .i64 (15) gr 16 cr 3 rfl kj kj kj kj (by decide)) ?_
  refine seq_val (.int .i64 (nth (r3) 15)) 27 rfl kj (run_loadC1 3 _ gr 15 3 _ (.int .i64 (nth (r3) 15)) _ r7_6_21 rfl kj (rest_get (Nat.lt_of_lt_of_eq (by decide) hr3.symm)) kj) ?_
  refine seq_val (.int .i64 (nth r3 15 % 16)) 28 rfl kj (run_eq (u := .int .i64 (Int.tmod ((nth (r3) 15)) (16))) kj (congrArg (Value.int .i64) (show Int.tmod (nth r3 15) 16 = nth r3 15 % 16 from Int.tmod_eq_emod_of_nonneg (by omega)))) ?_
  refine seq_val (.pointer (some ⟨gr, 15, none⟩)) 29 rfl kj (run_indexS0 54 _ _ .i64 (15) gr 16 cr 3 rfl kj kj kj kj (by decide)) ?_
  refine seq_store gr _ (ints .i64 ((r3).set 15 (nth r3 15 % 16)) ++ rr_) 3 r7_6_21 rfl kj (run_storeRest 3 _ _ gr 15 3 _ _ _ r7_6_21 rfl kj kj kj (Nat.lt_of_lt_of_eq (by decide) hr3.symm)) fun W7 p7 r7_7 => ?_
  have x7 : Ext w W7 := Puts.ext p7 x6 (Nat.le_trans x2.size lr)
  obtain ⟨r4, er4⟩ : ∃ z, z = (r3).set 15 (nth r3 15 % 16) := ⟨_, rfl⟩
  have hr4 : r4.length = 16 := by rw [er4, List.length_set, hr3]
  have hbr4 := bytes_nth hr3b 15
  have hr4b : AreBytes r4 := er4 ▸ bytes_set hr3b _ (by omega) (by omega)
  have r7_7_25 : W7.heap[gr]? = some (.cells (ints .i64 (r4) ++ rr_) 3) := row_eqR r7_7 (by rw [er4])
  refine seq_nil ?_
  refine hK24 _ _ ?_
  try clear hK24 K24
  refine region_lit ?_
  refine seq_val (.int .i64 15) 20 rfl kj kj ?_
  refine seq_val (.int .i64 19) 21 rfl kj kj ?_
  refine seq_val (.int .i64 19) 6 rfl kj kj ?_
  refine seq_nil ?_
  show Code.rounds _ _ _ 1 _ _
  show Code.wp _ _ (Exit.then (Code.rounds _ _ _ 0) _) _ _
  refine wp_seq_k fun K26 hK26 => ?_
  refine wp_seq_k fun K27 hK27 => ?_
  refine region_lit ?_
  refine seq_val (.int .i64 19) 18 rfl kj kj ?_
  refine seq_val (.bool false) 19 rfl kj kj ?_
  refine seq_nil ?_
  refine hK27 _ _ ?_
  try clear hK27 K27
  refine cond_false kj ?_
  refine wp_exit ?_
  refine hK8 _ _ ?_
  try clear hK8 K8
  refine wp_seq_k fun K28 hK28 => ?_
  refine wp_seq_k fun K29 hK29 => ?_
  refine region_lit ?_
  refine seq_val (.int .i64 4) 7 rfl kj kj ?_
  refine seq_nil ?_
  refine hK29 _ _ ?_
  try clear hK29 K29
  refine wp_block ?_
  refine wp_loop_rounds 4 ?_
  show Code.wp _ _ (Exit.then (Code.rounds _ _ _ 3) _) _ _
  refine wp_seq_k fun K30 hK30 => ?_
  refine wp_seq_k fun K31 hK31 => ?_
  refine region_lit ?_
  refine seq_val (.int .i64 4) 30 rfl kj kj ?_
  refine seq_val (.bool true) 31 rfl kj kj ?_
  refine seq_nil ?_
  refine hK31 _ _ ?_
  try clear hK31 K31
  refine cond_true kj ?_
  refine wp_skip ?_
  refine hK30 _ _ ?_
  try clear hK30 K30
  refine wp_seq_k fun K32 hK32 => ?_
  refine wp_block ?_
  have hxr4 := bytes_nth hr4b 4
  refine region_lit ?_
  refine seq_val (.slice (some ⟨gr, 0, none⟩) 16 cr) 34 rfl kj kj ?_
  refine seq_val (.int .i64 4) 35 rfl kj kj ?_
  refine seq_val (.slice (some ⟨gr, 0, none⟩) 16 cr) 36 rfl kj kj ?_
  refine seq_val (.int .i64 4) 37 rfl kj kj ?_
  refine seq_val (.pointer (some ⟨gr, 4, none⟩)) 38 rfl kj (run_indexS0 54 _ _ .i64 (4) gr 16 cr 3 rfl kj kj kj kj (by decide)) ?_
  refine seq_val (.int .i64 (nth (r4) 4)) 39 rfl kj (run_loadC1 3 _ gr 4 3 _ (.int .i64 (nth (r4) 4)) _ r7_7_25 rfl kj (rest_get (Nat.lt_of_lt_of_eq (by decide) hr4.symm)) kj) ?_
  refine seq_val (.int .i64 (nth r4 4 / 4)) 40 rfl kj (run_eq (u := .int .i64 (IntKind.i64.wrap (Int.tdiv ((nth (r4) 4)) (4)))) kj (congrArg (Value.int .i64) (by rw [show Int.tdiv (nth r4 4) 4 = nth r4 4 / 4 from Int.tdiv_eq_ediv_of_nonneg (by omega)]; exact IntWalk.i64_in _ (by omega)))) ?_
  refine seq_val (.int .i64 (nth r4 4 / 4 * 4)) 41 rfl kj (run_eq (u := .int .i64 (IntKind.i64.wrap ((nth r4 4 / 4) * 4))) kj (congrArg (Value.int .i64) (IntWalk.i64_in _ (by omega)))) ?_
  refine seq_val (.pointer (some ⟨gr, 4, none⟩)) 42 rfl kj (run_indexS0 54 _ _ .i64 (4) gr 16 cr 3 rfl kj kj kj kj (by decide)) ?_
  refine seq_store gr _ (ints .i64 ((r4).set 4 (nth r4 4 / 4 * 4)) ++ rr_) 3 r7_7_25 rfl kj (run_storeRest 3 _ _ gr 4 3 _ _ _ r7_7_25 rfl kj kj kj (Nat.lt_of_lt_of_eq (by decide) hr4.symm)) fun W8 p8 r7_8 => ?_
  have x8 : Ext w W8 := Puts.ext p8 x7 (Nat.le_trans x2.size lr)
  obtain ⟨r5, er5⟩ : ∃ z, z = (r4).set 4 (nth r4 4 / 4 * 4) := ⟨_, rfl⟩
  have hr5 : r5.length = 16 := by rw [er5, List.length_set, hr4]
  have hbr5 := bytes_nth hr4b 4
  have hr5b : AreBytes r5 := er5 ▸ bytes_set hr4b _ (by omega) (by omega)
  have r7_8_33 : W8.heap[gr]? = some (.cells (ints .i64 (r5) ++ rr_) 3) := row_eqR r7_8 (by rw [er5])
  refine seq_nil ?_
  refine hK32 _ _ ?_
  try clear hK32 K32
  refine region_lit ?_
  refine seq_val (.int .i64 4) 32 rfl kj kj ?_
  refine seq_val (.int .i64 8) 33 rfl kj kj ?_
  refine seq_val (.int .i64 8) 7 rfl kj kj ?_
  refine seq_nil ?_
  show Code.rounds _ _ _ 3 _ _
  show Code.wp _ _ (Exit.then (Code.rounds _ _ _ 2) _) _ _
  refine wp_seq_k fun K34 hK34 => ?_
  refine wp_seq_k fun K35 hK35 => ?_
  refine region_lit ?_
  refine seq_val (.int .i64 8) 30 rfl kj kj ?_
  refine seq_val (.bool true) 31 rfl kj kj ?_
  refine seq_nil ?_
  refine hK35 _ _ ?_
  try clear hK35 K35
  refine cond_true kj ?_
  refine wp_skip ?_
  refine hK34 _ _ ?_
  try clear hK34 K34
  refine wp_seq_k fun K36 hK36 => ?_
  refine wp_block ?_
  have hxr5 := bytes_nth hr5b 8
  refine region_lit ?_
  refine seq_val (.slice (some ⟨gr, 0, none⟩) 16 cr) 34 rfl kj kj ?_
  refine seq_val (.int .i64 8) 35 rfl kj kj ?_
  refine seq_val (.slice (some ⟨gr, 0, none⟩) 16 cr) 36 rfl kj kj ?_
  refine seq_val (.int .i64 8) 37 rfl kj kj ?_
  refine seq_val (.pointer (some ⟨gr, 8, none⟩)) 38 rfl kj (run_indexS0 54 _ _ .i64 (8) gr 16 cr 3 rfl kj kj kj kj (by decide)) ?_
  refine seq_val (.int .i64 (nth (r5) 8)) 39 rfl kj (run_loadC1 3 _ gr 8 3 _ (.int .i64 (nth (r5) 8)) _ r7_8_33 rfl kj (rest_get (Nat.lt_of_lt_of_eq (by decide) hr5.symm)) kj) ?_
  refine seq_val (.int .i64 (nth r5 8 / 4)) 40 rfl kj (run_eq (u := .int .i64 (IntKind.i64.wrap (Int.tdiv ((nth (r5) 8)) (4)))) kj (congrArg (Value.int .i64) (by rw [show Int.tdiv (nth r5 8) 4 = nth r5 8 / 4 from Int.tdiv_eq_ediv_of_nonneg (by omega)]; exact IntWalk.i64_in _ (by omega)))) ?_
  refine seq_val (.int .i64 (nth r5 8 / 4 * 4)) 41 rfl kj (run_eq (u := .int .i64 (IntKind.i64.wrap ((nth r5 8 / 4) * 4))) kj (congrArg (Value.int .i64) (IntWalk.i64_in _ (by omega)))) ?_
  refine seq_val (.pointer (some ⟨gr, 8, none⟩)) 42 rfl kj (run_indexS0 54 _ _ .i64 (8) gr 16 cr 3 rfl kj kj kj kj (by decide)) ?_
  refine seq_store gr _ (ints .i64 ((r5).set 8 (nth r5 8 / 4 * 4)) ++ rr_) 3 r7_8_33 rfl kj (run_storeRest 3 _ _ gr 8 3 _ _ _ r7_8_33 rfl kj kj kj (Nat.lt_of_lt_of_eq (by decide) hr5.symm)) fun W9 p9 r7_9 => ?_
  have x9 : Ext w W9 := Puts.ext p9 x8 (Nat.le_trans x2.size lr)
  obtain ⟨r6, er6⟩ : ∃ z, z = (r5).set 8 (nth r5 8 / 4 * 4) := ⟨_, rfl⟩
  have hr6 : r6.length = 16 := by rw [er6, List.length_set, hr5]
  have hbr6 := bytes_nth hr5b 8
  have hr6b : AreBytes r6 := er6 ▸ bytes_set hr5b _ (by omega) (by omega)
  have r7_9_37 : W9.heap[gr]? = some (.cells (ints .i64 (r6) ++ rr_) 3) := row_eqR r7_9 (by rw [er6])
  refine seq_nil ?_
  refine hK36 _ _ ?_
  try clear hK36 K36
  refine region_lit ?_
  refine seq_val (.int .i64 8) 32 rfl kj kj ?_
  refine seq_val (.int .i64 12) 33 rfl kj kj ?_
  refine seq_val (.int .i64 12) 7 rfl kj kj ?_
  refine seq_nil ?_
  show Code.rounds _ _ _ 2 _ _
  show Code.wp _ _ (Exit.then (Code.rounds _ _ _ 1) _) _ _
  refine wp_seq_k fun K38 hK38 => ?_
  refine wp_seq_k fun K39 hK39 => ?_
  refine region_lit ?_
  refine seq_val (.int .i64 12) 30 rfl kj kj ?_
  refine seq_val (.bool true) 31 rfl kj kj ?_
  refine seq_nil ?_
  refine hK39 _ _ ?_
  try clear hK39 K39
  refine cond_true kj ?_
  refine wp_skip ?_
  refine hK38 _ _ ?_
  try clear hK38 K38
  refine wp_seq_k fun K40 hK40 => ?_
  refine wp_block ?_
  have hxr6 := bytes_nth hr6b 12
  refine region_lit ?_
  refine seq_val (.slice (some ⟨gr, 0, none⟩) 16 cr) 34 rfl kj kj ?_
  refine seq_val (.int .i64 12) 35 rfl kj kj ?_
  refine seq_val (.slice (some ⟨gr, 0, none⟩) 16 cr) 36 rfl kj kj ?_
  refine seq_val (.int .i64 12) 37 rfl kj kj ?_
  refine seq_val (.pointer (some ⟨gr, 12, none⟩)) 38 rfl kj (run_indexS0 54 _ _ .i64 (12) gr 16 cr 3 rfl kj kj kj kj (by decide)) ?_
  refine seq_val (.int .i64 (nth (r6) 12)) 39 rfl kj (run_loadC1 3 _ gr 12 3 _ (.int .i64 (nth (r6) 12)) _ r7_9_37 rfl kj (rest_get (Nat.lt_of_lt_of_eq (by decide) hr6.symm)) kj) ?_
  refine seq_val (.int .i64 (nth r6 12 / 4)) 40 rfl kj (run_eq (u := .int .i64 (IntKind.i64.wrap (Int.tdiv ((nth (r6) 12)) (4)))) kj (congrArg (Value.int .i64) (by rw [show Int.tdiv (nth r6 12) 4 = nth r6 12 / 4 from Int.tdiv_eq_ediv_of_nonneg (by omega)]; exact IntWalk.i64_in _ (by omega)))) ?_
  refine seq_val (.int .i64 (nth r6 12 / 4 * 4)) 41 rfl kj (run_eq (u := .int .i64 (IntKind.i64.wrap ((nth r6 12 / 4) * 4))) kj (congrArg (Value.int .i64) (IntWalk.i64_in _ (by omega)))) ?_
  refine seq_val (.pointer (some ⟨gr, 12, none⟩)) 42 rfl kj (run_indexS0 54 _ _ .i64 (12) gr 16 cr 3 rfl kj kj kj kj (by decide)) ?_
  refine seq_store gr _ (ints .i64 ((r6).set 12 (nth r6 12 / 4 * 4)) ++ rr_) 3 r7_9_37 rfl kj (run_storeRest 3 _ _ gr 12 3 _ _ _ r7_9_37 rfl kj kj kj (Nat.lt_of_lt_of_eq (by decide) hr6.symm)) fun W10 p10 r7_10 => ?_
  have x10 : Ext w W10 := Puts.ext p10 x9 (Nat.le_trans x2.size lr)
  obtain ⟨r7, er7⟩ : ∃ z, z = (r6).set 12 (nth r6 12 / 4 * 4) := ⟨_, rfl⟩
  have hr7 : r7.length = 16 := by rw [er7, List.length_set, hr6]
  have hbr7 := bytes_nth hr6b 12
  have hr7b : AreBytes r7 := er7 ▸ bytes_set hr6b _ (by omega) (by omega)
  have r7_10_41 : W10.heap[gr]? = some (.cells (ints .i64 (r7) ++ rr_) 3) := row_eqR r7_10 (by rw [er7])
  refine seq_nil ?_
  refine hK40 _ _ ?_
  try clear hK40 K40
  refine region_lit ?_
  refine seq_val (.int .i64 12) 32 rfl kj kj ?_
  refine seq_val (.int .i64 16) 33 rfl kj kj ?_
  refine seq_val (.int .i64 16) 7 rfl kj kj ?_
  refine seq_nil ?_
  show Code.rounds _ _ _ 1 _ _
  show Code.wp _ _ (Exit.then (Code.rounds _ _ _ 0) _) _ _
  refine wp_seq_k fun K42 hK42 => ?_
  refine wp_seq_k fun K43 hK43 => ?_
  refine region_lit ?_
  refine seq_val (.int .i64 16) 30 rfl kj kj ?_
  refine seq_val (.bool false) 31 rfl kj kj ?_
  refine seq_nil ?_
  refine hK43 _ _ ?_
  try clear hK43 K43
  refine cond_false kj ?_
  refine wp_exit ?_
  refine hK28 _ _ ?_
  try clear hK28 K28
  refine wp_seq_k fun K44 hK44 => ?_
  refine region_lit ?_
  refine seq_val (.slice none 0 0) 8 rfl kj kj ?_
  refine seq_nil ?_
  refine hK44 _ _ ?_
  try clear hK44 K44
  refine wp_seq_k fun K45 hK45 => ?_
  refine wp_seq_k fun K46 hK46 => ?_
  refine region_lit ?_
  refine seq_val (.int .i64 0) 9 rfl kj kj ?_
  refine seq_nil ?_
  refine hK46 _ _ ?_
  try clear hK46 K46
  refine wp_block ?_
  obtain ⟨rl, erl⟩ : ∃ z, z = r7 := ⟨_, rfl⟩
  have hrl : rl.length = 16 := erl ▸ hr7
  have hrlb : AreBytes rl := erl ▸ hr7b
  have hrOf : lev rl = rOf key := by unfold rOf clampR; rw [← er0, erl, er7, er6, er5, er4, er3, er2, er1]
  have r7_10_47 : W10.heap[gr]? = some (.cells (ints .i64 (rl) ++ rr_) 3) := row_eqR r7_10_41 (by rw [erl])
  refine loop_auto (fun (s1 : Nat × List Int × Value) => [(1, .slice a_t text.length c_t), (2, .pointer (some ⟨g2, 0, none⟩)), (4, .pointer (some ⟨g3, 0, none⟩)), (5, .slice (some ⟨gr, 0, none⟩) 16 cr), (8, s1.2.2), (9, .int .i64 ((16 * s1.1 : Nat) : Int))]) (fun (s1 : Nat × List Int × Value) W => (AreBytes s1.2.1) ∧ (lev s1.2.1 % PP = polyN (rOf key) text s1.1) ∧ (lev s1.2.1 < 1361129467683753853853498429727072845824) ∧ (s1.2.1.length ≤ 17) ∧ (16 * s1.1 < text.length + 16) ∧ (RdK .i64 W.heap.size s1.2.1 s1.2.2 W) ∧ (Ext W10 W) ∧ (Ext w W)) (fun (s1 : Nat × List Int × Value) => text.length + 16 - 16 * s1.1) (0, [], (.slice none 0 0)) ⟨rfl, rfl, rfl, rfl, rfl, rfl, trivial⟩ ⟨(fun x hx => by cases hx), (by show (0 : Int) % PP = 0; rfl), (by show (0 : Int) < _; decide), (Nat.zero_le _), (show 16 * 0 < text.length + 16 by omega), (OwnN.rd (ownN_nil .i64 0 0 _)), (Rely.Ext.refl W10), x10⟩ fun s1 X1 V1 hI1 => ?_
  obtain ⟨n, xs, v⟩ := s1
  obtain ⟨hsb, hsm, hslt, hsl, hn, hrs, kk1, xx1⟩ := hI1
  replace hsb : AreBytes xs := hsb
  replace hsm : lev xs % PP = polyN (rOf key) text n := hsm
  replace hslt : lev xs < 1361129467683753853853498429727072845824 := hslt
  replace hsl : xs.length ≤ 17 := hsl
  replace hn : 16 * n < text.length + 16 := hn
  replace hrs : RdK .i64 V1.heap.size xs v V1 := hrs
  replace kk1 : Ext W10 V1 := kk1
  replace xx1 : Ext w V1 := xx1
  have e11 := kk1
  obtain ⟨ax, cx, rfl, -⟩ := id hrs
  refine wp_seq_k fun K48 hK48 => ?_
  refine wp_seq_k fun K49 hK49 => ?_
  refine region_lit ?_
  refine seq_val (.int .i64 ((16 * n : Nat) : Int)) 43 rfl kj kj ?_
  refine seq_val (.slice a_t text.length c_t) 44 rfl kj kj ?_
  refine seq_val (.int .i64 ((text.length : Nat) : Int)) 45 rfl kj kj ?_
  refine seq_val (.bool (decide (((16 * n : Nat) : Int) < ((text.length : Nat) : Int)))) 46 rfl kj kj ?_
  refine seq_nil ?_
  refine hK49 _ _ ?_
  try clear hK49 K49
  refine cond_split (t := decide (((16 * n : Nat) : Int) < ((text.length : Nat) : Int))) kj (fun c50 => ?_) (fun c50 => ?_)
  · skip
    have hlt46 : 16 * n < text.length := by have := of_decide_eq_true c50; omega
    refine wp_skip ?_
    refine hK48 _ _ ?_
    try clear hK48 K48
    refine wp_seq_k fun K51 hK51 => ?_
    refine wp_block ?_
    refine wp_seq_k fun K52 hK52 => ?_
    refine region_lit ?_
    refine seq_val (.int .i64 ((16 * n : Nat) : Int)) 49 rfl kj kj ?_
    refine seq_val (.int .i64 (((16 * n) + 16 : Nat) : Int)) 50 rfl kj (run_eq (u := .int .i64 (IntKind.i64.wrap (((16 * n : Nat) : Int) + 16))) kj (congrArg (Value.int .i64) (i64n _ _ (by omega) (by omega)))) ?_
    refine seq_val (.int .i64 (((16 * n) + 16 : Nat) : Int)) 10 rfl kj kj ?_
    refine seq_nil ?_
    refine hK52 _ _ ?_
    try clear hK52 K52
    refine wp_seq_k fun K53 hK53 => ?_
    refine wp_seq_k fun K54 hK54 => ?_
    refine region_lit ?_
    refine seq_val (.int .i64 (((16 * n) + 16 : Nat) : Int)) 51 rfl kj kj ?_
    refine seq_val (.slice a_t text.length c_t) 52 rfl kj kj ?_
    refine seq_val (.int .i64 ((text.length : Nat) : Int)) 53 rfl kj kj ?_
    refine seq_val (.bool (decide ((((16 * n) + 16 : Nat) : Int) > ((text.length : Nat) : Int)))) 54 rfl kj kj ?_
    refine seq_nil ?_
    refine hK54 _ _ ?_
    try clear hK54 K54
    refine cond_split (t := decide ((((16 * n) + 16 : Nat) : Int) > ((text.length : Nat) : Int))) kj (fun c55 => ?_) (fun c55 => ?_)
    · skip
      have hpe : text.length < 16 * n + 16 := by have := of_decide_eq_true c55; omega
      have hpart := part_eq text n text.length (.inr ⟨rfl, hpe⟩)
      refine region_lit ?_
      refine seq_val (.slice a_t text.length c_t) 55 rfl kj kj ?_
      refine seq_val (.int .i64 ((text.length : Nat) : Int)) 56 rfl kj kj ?_
      refine seq_val (.int .i64 ((text.length : Nat) : Int)) 10 rfl kj kj ?_
      refine seq_nil ?_
      refine hK53 _ _ ?_
      try clear hK53 K53
      refine wp_seq_k fun K56 hK56 => ?_
      refine region_lit ?_
      refine seq_val (.slice a_t text.length c_t) 57 rfl kj kj ?_
      refine seq_val (.int .i64 ((16 * n : Nat) : Int)) 58 rfl kj kj ?_
      refine seq_val (.int .i64 ((text.length : Nat) : Int)) 59 rfl kj kj ?_
      refine seq_val (.slice (restA a_t c_t (16 * n)) (text.length - 16 * n) (c_t - 16 * n)) 60 rfl kj (run_sliceE (len := text.length) 24 _ _ _ (16 * n) (text.length) 5 rfl kj kj kj .i64 .i64 kj kj (by omega) (by omega)) ?_
      refine seq_callR (fun v W' => (OwnN .i64 3 V1.heap.size ((text.drop (16 * n)).take (text.length - (16 * n)))) v W' ∧ Ext V1 W') 27 #[.slice (restA a_t c_t (16 * n)) (text.length - 16 * n) (c_t - 16 * n)] 61 rfl kj kj ((numbersC ((text.drop (16 * n)).take (text.length - (16 * n))) _ _ _ (rdK_take (rdK_drop (RdK.ext ht xx1) (16 * n) (by omega)) (text.length - (16 * n)) (by rw [List.length_drop]; omega)) (by rw [List.length_take]; omega) (bytes_take (bytes_drop htb _) _)).mono (by rintro e w' ⟨v, rfl, e1, hv⟩; exact ⟨v, rfl, hv, e1⟩)) fun vv58 W12 hh58 => ?_
      obtain ⟨hv58, e12⟩ := hh58
      have x12 : Ext w W12 := Ext.tr xx1 e12
      obtain ⟨an57, cn57, hvn57, -⟩ := id (OwnN.rd hv58)
      subst hvn57
      refine seq_makeS (ints .i64 ([1])) 3 1 62 rfl kj kj fun g59 W13 l59 e13 r59_13 => ?_
      have x13 : Ext w W13 := Ext.tr x12 e13
      have b59 : w.heap.size ≤ g59 := Nat.le_trans x12.size l59
      have f60_13 := (hv58.ext e13)
      have y11_12 : Ext V1 W12 := (Rely.Ext.trans (Rely.Ext.refl V1) e12)
      have y11_13 : Ext V1 W13 := (Rely.Ext.trans y11_12 e13)
      refine seq_appendN (k := .i64) (T := 3) (xs := (text.drop (16 * n)).take (text.length - (16 * n))) (ys := [1]) (V := V1) 8 (.tmp 61) (.tmp 62) 54 rfl kj kj (by decide) 63 rfl kj kj kj f60_13 (rdK_ints (xs := [1]) (n := 1) rfl r59_13 (row_lt r59_13) (show 1 ≤ maxLen from by decide)) (by rw [List.length_take]; show _ + 1 ≤ _; omega) y11_13 fun y1_ W14 f61 y14 l14 => ?_
      have x14 : Ext w W14 := Ext.low x13 l14 xx1.size
      obtain ⟨pc, epc⟩ : ∃ z : List Int, z = (text.drop (16 * n)).take (text.length - (16 * n)) ++ [1] := ⟨_, rfl⟩
      have hpcb : AreBytes pc := epc ▸ bytes_app (bytes_take (bytes_drop htb _) _) (bytes_one (by decide) (by decide))
      have hpcl : pc.length ≤ 17 := by rw [epc, List.length_append, List.length_take]; show _ + 1 ≤ 17; omega
      have hap63 : OwnN .i64 3 V1.heap.size pc y1_ W14 := epc ▸ f61
      obtain ⟨ap63, cp63, hvp63, -⟩ := id (OwnN.rd hap63)
      subst hvp63
      refine seq_val (.slice ap63 pc.length cp63) 11 rfl kj kj ?_
      refine seq_nil ?_
      refine hK56 _ _ ?_
      try clear hK56 K56
      refine region_lit ?_
      refine seq_val (.slice ax xs.length cx) 64 rfl kj kj ?_
      refine seq_val (.slice ap63 pc.length cp63) 65 rfl kj kj ?_
      have f65_12 := (hrs.ext e12)
      have f66_13 := (f65_12.ext e13)
      have f67_14 := (RdK.low f66_13 hrs l14)
      refine seq_callR (fun v W' => (DigR W14.heap.size (lev (xs) + lev (pc)) (max (xs).length (pc).length + 1)) v W' ∧ Ext W14 W') 31 #[.slice ax xs.length cx, .slice ap63 pc.length cp63] 66 rfl kj kj ((rplusC (xs) (pc) _ _ _ _ _ f67_14 (OwnN.rd hap63) (by first | omega | (rw [List.length_take]; omega)) (by first | omega | (rw [List.length_take]; omega)) hsb hpcb).mono (by rintro e w' ⟨v, rfl, e1, hv⟩; exact ⟨v, rfl, hv, e1⟩)) fun vv68 W15 hh68 => ?_
      obtain ⟨hv68, e15⟩ := hh68
      have x15 : Ext w W15 := Ext.tr x14 e15
      obtain ⟨zs64, hzb64, hzv64, hzl64, hzo64⟩ := hv68
      obtain ⟨az64, cz64, rfl, -⟩ := id (OwnN.rd hzo64)
      refine seq_callR (fun v W' => (fun v W => ∃ m, m ≤ zs64.length ∧ v = .slice az64 m cz64 ∧ lev (zs64.take m) = lev zs64 ∧ (m = 0 ∨ nth zs64 (m - 1) ≠ 0)) v W' ∧ Ext W15 W') 29 #[.slice az64 zs64.length cz64] 67 rfl kj kj ((rtrimC zs64 _ _ _ _ (OwnN.rd hzo64) (by omega)).mono (by rintro e w' ⟨v, rfl, e1, hv⟩; exact ⟨v, rfl, hv, e1⟩)) fun vv70 W16 hh70 => ?_
      obtain ⟨hv70, e16⟩ := hh70
      have x16 : Ext w W16 := Ext.tr x15 e16
      obtain ⟨m69, hm69, rfl, hv69, ht69⟩ := hv70
      have htl69 : (zs64.take m69).length = m69 := by rw [List.length_take]; omega
      refine seq_val (.slice (some ⟨gr, 0, none⟩) 16 cr) 68 rfl kj kj ?_
      have f72_16 := (hzo64.ext e16)
      have r7_11 := (row_ext r7_10_47 e11)
      have r7_12 := (row_ext r7_11 e12)
      have r7_13 := (row_ext r7_12 e13)
      have r7_14 := (low_row l14 r7_13 (row_lt r7_11))
      have r7_15 := (row_ext r7_14 e15)
      have r7_16 := (row_ext r7_15 e16)
      refine seq_callR (fun v W' => (DigR W16.heap.size (lev (zs64.take m69) * lev rl) ((zs64.take m69).length + rl.length + 1)) v W' ∧ Ext W16 W') 30 #[.slice az64 m69 cz64, .slice (some ⟨gr, 0, none⟩) 16 cr] 69 rfl kj kj ((rtimesC (zs64.take m69) rl _ _ _ _ _ (rdK_take (OwnN.rd f72_16) m69 hm69) (rdK_rest hrl r7_16 hcr) (by first | omega | (rw [List.length_take]; omega)) (by omega) (bytes_take hzb64 m69) hrlb).mono (by rintro e w' ⟨v, rfl, e1, hv⟩; exact ⟨v, rfl, hv, e1⟩)) fun vv73 W17 hh73 => ?_
      obtain ⟨hv73, e17⟩ := hh73
      have x17 : Ext w W17 := Ext.tr x16 e17
      obtain ⟨zs71, hzb71, hzv71, hzl71, hzo71⟩ := hv73
      obtain ⟨az71, cz71, rfl, -⟩ := id (OwnN.rd hzo71)
      refine seq_callR (fun v W' => (fun v W => ∃ m, m ≤ zs71.length ∧ v = .slice az71 m cz71 ∧ lev (zs71.take m) = lev zs71 ∧ (m = 0 ∨ nth zs71 (m - 1) ≠ 0)) v W' ∧ Ext W17 W') 29 #[.slice az71 zs71.length cz71] 70 rfl kj kj ((rtrimC zs71 _ _ _ _ (OwnN.rd hzo71) (by omega)).mono (by rintro e w' ⟨v, rfl, e1, hv⟩; exact ⟨v, rfl, hv, e1⟩)) fun vv75 W18 hh75 => ?_
      obtain ⟨hv75, e18⟩ := hh75
      have x18 : Ext w W18 := Ext.tr x17 e18
      obtain ⟨m74, hm74, rfl, hv74, ht74⟩ := hv75
      have htl74 : (zs71.take m74).length = m74 := by rw [List.length_take]; omega
      have f77_18 := (hzo71.ext e18)
      refine seq_callR (fun v W' => (fun v W => ∃ zs : List Int, AreBytes zs ∧ lev zs % PP = lev (zs71.take m74) % PP ∧ lev zs < 1361129467683753853853498429727072845824 ∧ zs.length ≤ 17 ∧ RdK .i64 W.heap.size zs v W) v W' ∧ Ext W18 W') 28 #[.slice az71 m74 cz71] 71 rfl kj kj ((rsmallC (zs71.take m74) _ _ _ (rdK_take (OwnN.rd f77_18) m74 hm74) (by rw [List.length_take]; omega) (bytes_take hzb71 m74) (trimmed_take hm74 ht74)).mono (by rintro e w' ⟨v, rfl, e1, hv⟩; exact ⟨v, rfl, hv, e1⟩)) fun vv78 W19 hh78 => ?_
      obtain ⟨hv78, e19⟩ := hh78
      have x19 : Ext w W19 := Ext.tr x18 e19
      obtain ⟨xs2, hsb2, hsm2, hslt2, hsl2, hrs2⟩ := hv78
      refine seq_val (vv78) 8 rfl kj kj ?_
      refine seq_nil ?_
      refine hK51 _ _ ?_
      try clear hK51 K51
      refine region_lit ?_
      refine seq_val (.int .i64 ((16 * n : Nat) : Int)) 47 rfl kj kj ?_
      refine seq_val (.int .i64 (((16 * n) + 16 : Nat) : Int)) 48 rfl kj (run_eq (u := .int .i64 (IntKind.i64.wrap (((16 * n : Nat) : Int) + 16))) kj (congrArg (Value.int .i64) (i64n _ _ (by omega) (by omega)))) ?_
      refine seq_val (.int .i64 (((16 * n) + 16 : Nat) : Int)) 9 rfl kj kj ?_
      refine seq_nil ?_
      have hstep : lev xs2 % PP = polyN (rOf key) text (n + 1) := by
        unfold polyN
        refine small_next hsm ?_
        rw [hsm2]
        congr 1
        rw [hv74, hzv71, hv69, hzv64, hrOf, epc, hpart]
      have y10_12 : Ext W10 W12 := (Rely.Ext.trans e11 e12)
      have y10_13 : Ext W10 W13 := (Rely.Ext.trans y10_12 e13)
      have y10_14 : Ext W10 W14 := (Ext.low y10_13 l14 e11.size)
      have y10_15 : Ext W10 W15 := (Rely.Ext.trans y10_14 e15)
      have y10_16 : Ext W10 W16 := (Rely.Ext.trans y10_15 e16)
      have y10_17 : Ext W10 W17 := (Rely.Ext.trans y10_16 e17)
      have y10_18 : Ext W10 W18 := (Rely.Ext.trans y10_17 e18)
      have y10_19 : Ext W10 W19 := (Rely.Ext.trans y10_18 e19)
      repeat (first | with_reducible refine goX1 ?_ | with_reducible refine goX2 ?_ | with_reducible refine goX3 ?_)
      exact goes_then ((n + 1), xs2, vv78) ⟨rfl, rfl, rfl, rfl, rfl, rfl, trivial⟩ ⟨hsb2, hstep, hslt2, hsl2, (show 16 * (n + 1) < text.length + 16 by omega), (RdK.here (RdK.ext hrs2 (Rely.Ext.refl W19))), y10_19, x19⟩ (by show text.length + 16 - 16 * (n + 1) < text.length + 16 - 16 * n; omega)
    · skip
      have hpe : 16 * n + 16 ≤ text.length := by have := of_decide_eq_false c55; omega
      have hpart := part_eq text n (16 * n + 16) (.inl rfl)
      refine wp_skip ?_
      refine hK53 _ _ ?_
      try clear hK53 K53
      refine wp_seq_k fun K79 hK79 => ?_
      refine region_lit ?_
      refine seq_val (.slice a_t text.length c_t) 57 rfl kj kj ?_
      refine seq_val (.int .i64 ((16 * n : Nat) : Int)) 58 rfl kj kj ?_
      refine seq_val (.int .i64 (((16 * n) + 16 : Nat) : Int)) 59 rfl kj kj ?_
      refine seq_val (.slice (restA a_t c_t (16 * n)) ((16 * n) + 16 - 16 * n) (c_t - 16 * n)) 60 rfl kj (run_sliceE (len := text.length) 24 _ _ _ (16 * n) ((16 * n) + 16) 5 rfl kj kj kj .i64 .i64 kj kj (by omega) (by omega)) ?_
      refine seq_callR (fun v W' => (OwnN .i64 3 V1.heap.size ((text.drop (16 * n)).take (((16 * n) + 16) - (16 * n)))) v W' ∧ Ext V1 W') 27 #[.slice (restA a_t c_t (16 * n)) ((16 * n) + 16 - 16 * n) (c_t - 16 * n)] 61 rfl kj kj ((numbersC ((text.drop (16 * n)).take (((16 * n) + 16) - (16 * n))) _ _ _ (rdK_take (rdK_drop (RdK.ext ht xx1) (16 * n) (by omega)) (((16 * n) + 16) - (16 * n)) (by rw [List.length_drop]; omega)) (by rw [List.length_take]; omega) (bytes_take (bytes_drop htb _) _)).mono (by rintro e w' ⟨v, rfl, e1, hv⟩; exact ⟨v, rfl, hv, e1⟩)) fun vv81 W12 hh81 => ?_
      obtain ⟨hv81, e12⟩ := hh81
      have x12 : Ext w W12 := Ext.tr xx1 e12
      obtain ⟨an80, cn80, hvn80, -⟩ := id (OwnN.rd hv81)
      subst hvn80
      refine seq_makeS (ints .i64 ([1])) 3 1 62 rfl kj kj fun g82 W13 l82 e13 r82_13 => ?_
      have x13 : Ext w W13 := Ext.tr x12 e13
      have b82 : w.heap.size ≤ g82 := Nat.le_trans x12.size l82
      have f83_13 := (hv81.ext e13)
      have y11_12 : Ext V1 W12 := (Rely.Ext.trans (Rely.Ext.refl V1) e12)
      have y11_13 : Ext V1 W13 := (Rely.Ext.trans y11_12 e13)
      refine seq_appendN (k := .i64) (T := 3) (xs := (text.drop (16 * n)).take (((16 * n) + 16) - (16 * n))) (ys := [1]) (V := V1) 8 (.tmp 61) (.tmp 62) 54 rfl kj kj (by decide) 63 rfl kj kj kj f83_13 (rdK_ints (xs := [1]) (n := 1) rfl r82_13 (row_lt r82_13) (show 1 ≤ maxLen from by decide)) (by rw [List.length_take]; show _ + 1 ≤ _; omega) y11_13 fun y2_ W14 f84 y14 l14 => ?_
      have x14 : Ext w W14 := Ext.low x13 l14 xx1.size
      obtain ⟨pc, epc⟩ : ∃ z : List Int, z = (text.drop (16 * n)).take (((16 * n) + 16) - (16 * n)) ++ [1] := ⟨_, rfl⟩
      have hpcb : AreBytes pc := epc ▸ bytes_app (bytes_take (bytes_drop htb _) _) (bytes_one (by decide) (by decide))
      have hpcl : pc.length ≤ 17 := by rw [epc, List.length_append, List.length_take]; show _ + 1 ≤ 17; omega
      have hap86 : OwnN .i64 3 V1.heap.size pc y2_ W14 := epc ▸ f84
      obtain ⟨ap86, cp86, hvp86, -⟩ := id (OwnN.rd hap86)
      subst hvp86
      refine seq_val (.slice ap86 pc.length cp86) 11 rfl kj kj ?_
      refine seq_nil ?_
      refine hK79 _ _ ?_
      try clear hK79 K79
      refine region_lit ?_
      refine seq_val (.slice ax xs.length cx) 64 rfl kj kj ?_
      refine seq_val (.slice ap86 pc.length cp86) 65 rfl kj kj ?_
      have f88_12 := (hrs.ext e12)
      have f89_13 := (f88_12.ext e13)
      have f90_14 := (RdK.low f89_13 hrs l14)
      refine seq_callR (fun v W' => (DigR W14.heap.size (lev (xs) + lev (pc)) (max (xs).length (pc).length + 1)) v W' ∧ Ext W14 W') 31 #[.slice ax xs.length cx, .slice ap86 pc.length cp86] 66 rfl kj kj ((rplusC (xs) (pc) _ _ _ _ _ f90_14 (OwnN.rd hap86) (by first | omega | (rw [List.length_take]; omega)) (by first | omega | (rw [List.length_take]; omega)) hsb hpcb).mono (by rintro e w' ⟨v, rfl, e1, hv⟩; exact ⟨v, rfl, hv, e1⟩)) fun vv91 W15 hh91 => ?_
      obtain ⟨hv91, e15⟩ := hh91
      have x15 : Ext w W15 := Ext.tr x14 e15
      obtain ⟨zs87, hzb87, hzv87, hzl87, hzo87⟩ := hv91
      obtain ⟨az87, cz87, rfl, -⟩ := id (OwnN.rd hzo87)
      refine seq_callR (fun v W' => (fun v W => ∃ m, m ≤ zs87.length ∧ v = .slice az87 m cz87 ∧ lev (zs87.take m) = lev zs87 ∧ (m = 0 ∨ nth zs87 (m - 1) ≠ 0)) v W' ∧ Ext W15 W') 29 #[.slice az87 zs87.length cz87] 67 rfl kj kj ((rtrimC zs87 _ _ _ _ (OwnN.rd hzo87) (by omega)).mono (by rintro e w' ⟨v, rfl, e1, hv⟩; exact ⟨v, rfl, hv, e1⟩)) fun vv93 W16 hh93 => ?_
      obtain ⟨hv93, e16⟩ := hh93
      have x16 : Ext w W16 := Ext.tr x15 e16
      obtain ⟨m92, hm92, rfl, hv92, ht92⟩ := hv93
      have htl92 : (zs87.take m92).length = m92 := by rw [List.length_take]; omega
      refine seq_val (.slice (some ⟨gr, 0, none⟩) 16 cr) 68 rfl kj kj ?_
      have f95_16 := (hzo87.ext e16)
      have r7_11 := (row_ext r7_10_47 e11)
      have r7_12 := (row_ext r7_11 e12)
      have r7_13 := (row_ext r7_12 e13)
      have r7_14 := (low_row l14 r7_13 (row_lt r7_11))
      have r7_15 := (row_ext r7_14 e15)
      have r7_16 := (row_ext r7_15 e16)
      refine seq_callR (fun v W' => (DigR W16.heap.size (lev (zs87.take m92) * lev rl) ((zs87.take m92).length + rl.length + 1)) v W' ∧ Ext W16 W') 30 #[.slice az87 m92 cz87, .slice (some ⟨gr, 0, none⟩) 16 cr] 69 rfl kj kj ((rtimesC (zs87.take m92) rl _ _ _ _ _ (rdK_take (OwnN.rd f95_16) m92 hm92) (rdK_rest hrl r7_16 hcr) (by first | omega | (rw [List.length_take]; omega)) (by omega) (bytes_take hzb87 m92) hrlb).mono (by rintro e w' ⟨v, rfl, e1, hv⟩; exact ⟨v, rfl, hv, e1⟩)) fun vv96 W17 hh96 => ?_
      obtain ⟨hv96, e17⟩ := hh96
      have x17 : Ext w W17 := Ext.tr x16 e17
      obtain ⟨zs94, hzb94, hzv94, hzl94, hzo94⟩ := hv96
      obtain ⟨az94, cz94, rfl, -⟩ := id (OwnN.rd hzo94)
      refine seq_callR (fun v W' => (fun v W => ∃ m, m ≤ zs94.length ∧ v = .slice az94 m cz94 ∧ lev (zs94.take m) = lev zs94 ∧ (m = 0 ∨ nth zs94 (m - 1) ≠ 0)) v W' ∧ Ext W17 W') 29 #[.slice az94 zs94.length cz94] 70 rfl kj kj ((rtrimC zs94 _ _ _ _ (OwnN.rd hzo94) (by omega)).mono (by rintro e w' ⟨v, rfl, e1, hv⟩; exact ⟨v, rfl, hv, e1⟩)) fun vv98 W18 hh98 => ?_
      obtain ⟨hv98, e18⟩ := hh98
      have x18 : Ext w W18 := Ext.tr x17 e18
      obtain ⟨m97, hm97, rfl, hv97, ht97⟩ := hv98
      have htl97 : (zs94.take m97).length = m97 := by rw [List.length_take]; omega
      have f100_18 := (hzo94.ext e18)
      refine seq_callR (fun v W' => (fun v W => ∃ zs : List Int, AreBytes zs ∧ lev zs % PP = lev (zs94.take m97) % PP ∧ lev zs < 1361129467683753853853498429727072845824 ∧ zs.length ≤ 17 ∧ RdK .i64 W.heap.size zs v W) v W' ∧ Ext W18 W') 28 #[.slice az94 m97 cz94] 71 rfl kj kj ((rsmallC (zs94.take m97) _ _ _ (rdK_take (OwnN.rd f100_18) m97 hm97) (by rw [List.length_take]; omega) (bytes_take hzb94 m97) (trimmed_take hm97 ht97)).mono (by rintro e w' ⟨v, rfl, e1, hv⟩; exact ⟨v, rfl, hv, e1⟩)) fun vv101 W19 hh101 => ?_
      obtain ⟨hv101, e19⟩ := hh101
      have x19 : Ext w W19 := Ext.tr x18 e19
      obtain ⟨xs2, hsb2, hsm2, hslt2, hsl2, hrs2⟩ := hv101
      refine seq_val (vv101) 8 rfl kj kj ?_
      refine seq_nil ?_
      refine hK51 _ _ ?_
      try clear hK51 K51
      refine region_lit ?_
      refine seq_val (.int .i64 ((16 * n : Nat) : Int)) 47 rfl kj kj ?_
      refine seq_val (.int .i64 (((16 * n) + 16 : Nat) : Int)) 48 rfl kj (run_eq (u := .int .i64 (IntKind.i64.wrap (((16 * n : Nat) : Int) + 16))) kj (congrArg (Value.int .i64) (i64n _ _ (by omega) (by omega)))) ?_
      refine seq_val (.int .i64 (((16 * n) + 16 : Nat) : Int)) 9 rfl kj kj ?_
      refine seq_nil ?_
      have hstep : lev xs2 % PP = polyN (rOf key) text (n + 1) := by
        unfold polyN
        refine small_next hsm ?_
        rw [hsm2]
        congr 1
        rw [hv97, hzv94, hv92, hzv87, hrOf, epc, hpart]
      have y10_12 : Ext W10 W12 := (Rely.Ext.trans e11 e12)
      have y10_13 : Ext W10 W13 := (Rely.Ext.trans y10_12 e13)
      have y10_14 : Ext W10 W14 := (Ext.low y10_13 l14 e11.size)
      have y10_15 : Ext W10 W15 := (Rely.Ext.trans y10_14 e15)
      have y10_16 : Ext W10 W16 := (Rely.Ext.trans y10_15 e16)
      have y10_17 : Ext W10 W17 := (Rely.Ext.trans y10_16 e17)
      have y10_18 : Ext W10 W18 := (Rely.Ext.trans y10_17 e18)
      have y10_19 : Ext W10 W19 := (Rely.Ext.trans y10_18 e19)
      repeat (first | with_reducible refine goX1 ?_ | with_reducible refine goX2 ?_ | with_reducible refine goX3 ?_)
      exact goes_then ((n + 1), xs2, vv101) ⟨rfl, rfl, rfl, rfl, rfl, rfl, trivial⟩ ⟨hsb2, hstep, hslt2, hsl2, (show 16 * (n + 1) < text.length + 16 by omega), (RdK.here (RdK.ext hrs2 (Rely.Ext.refl W19))), y10_19, x19⟩ (by show text.length + 16 - 16 * (n + 1) < text.length + 16 - 16 * n; omega)
  · skip
    have heq46 : text.length ≤ 16 * n := by have := of_decide_eq_false c50; omega
    have hnn : n = (text.length + 15) / 16 := by omega
    refine wp_exit ?_
    refine hK45 _ _ ?_
    try clear hK45 K45
    refine wp_seq_k fun K102 hK102 => ?_
    refine wp_seq_k fun K103 hK103 => ?_
    refine region_lit ?_
    refine seq_val (.slice ax xs.length cx) 72 rfl kj kj ?_
    refine seq_makeS (ints .i64 ([5])) 3 1 73 rfl kj kj fun g104 W12 l104 e12 r104_12 => ?_
    have x12 : Ext w W12 := Ext.tr xx1 e12
    have b104 : w.heap.size ≤ g104 := Nat.le_trans xx1.size l104
    have h5l : ([5] : List Int).length = 1 := rfl
    have f106_12 := (hrs.ext e12)
    refine seq_callR (fun v W' => (DigR W12.heap.size (lev (xs) + lev ([5])) (max (xs).length ([5]).length + 1)) v W' ∧ Ext W12 W') 31 #[.slice ax xs.length cx, .slice (some ⟨g104, 0, none⟩) 1 1] 74 rfl kj kj ((rplusC (xs) ([5]) _ _ _ _ _ f106_12 (rdK_ints (xs := [5]) (n := 1) rfl r104_12 (row_lt r104_12) (show 1 ≤ maxLen from by decide)) (by first | omega | (rw [List.length_take]; omega)) (by decide) hsb (bytes_one (by decide) (by decide))).mono (by rintro e w' ⟨v, rfl, e1, hv⟩; exact ⟨v, rfl, hv, e1⟩)) fun vv107 W13 hh107 => ?_
    obtain ⟨hv107, e13⟩ := hh107
    have x13 : Ext w W13 := Ext.tr x12 e13
    obtain ⟨zs105, hzb105, hzv105, hzl105, hzo105⟩ := hv107
    obtain ⟨az105, cz105, rfl, -⟩ := id (OwnN.rd hzo105)
    refine seq_val (.slice az105 zs105.length cz105) 12 rfl kj kj ?_
    refine seq_nil ?_
    refine hK103 _ _ ?_
    try clear hK103 K103
    refine wp_seq_k fun K108 hK108 => ?_
    rcases (show (17 ≤ zs105.length ∧ 4 ≤ nth zs105 16) ∨ (17 ≤ zs105.length ∧ nth zs105 16 < 4) ∨ zs105.length < 17 by omega) with hq | hq | hq
    · skip
      obtain ⟨gm, cm, rm_, evm, lm, rowm, hcm⟩ := ownN_rest hzo105 (rfl : zs105.length = zs105.length) (by omega)
      rw [evm]
      have hys := more_A hslt hzb105 hzv105 hq.1 hq.2
      have hzb16 := bytes_nth hzb105 16
      have hysb : AreBytes (zs105.set 16 (nth zs105 16 % 4)) := bytes_set hzb105 _ (by omega) (by omega)
      have hysl : (zs105.set 16 (nth zs105 16 % 4)).length ≤ 1000 := by rw [List.length_set]; omega
      refine region_lit ?_
      refine seq_val (.slice (some ⟨gm, 0, none⟩) zs105.length cm) 75 rfl kj kj ?_
      refine seq_val (.int .i64 ((zs105.length : Nat) : Int)) 76 rfl kj kj ?_
      refine seq_val (.bool true) 77 rfl kj (run_eq (u := .bool (decide (((zs105.length : Nat) : Int) ≥ 17))) kj (congrArg Value.bool (decide_eq_true (by omega)))) ?_
      refine seq_val (.bool true) 78 rfl kj kj ?_
      refine seq_val (.slice (some ⟨gm, 0, none⟩) zs105.length cm) 79 rfl kj kj ?_
      refine seq_val (.pointer (some ⟨gm, 16, none⟩)) 80 rfl kj (run_indexS0 54 _ _ .i64 (16) gm zs105.length cm 3 rfl kj kj kj kj (by omega)) ?_
      refine seq_val (.int .i64 (nth (zs105) 16)) 81 rfl kj (run_loadC1 3 _ gm 16 3 _ (.int .i64 (nth (zs105) 16)) _ rowm rfl kj (rest_get (Nat.lt_of_lt_of_eq (by omega) (rfl).symm)) kj) ?_
      refine seq_val (.bool true) 82 rfl kj (run_eq (u := .bool (decide ((nth (zs105) 16) ≥ 4))) kj (congrArg Value.bool (decide_eq_true (by omega)))) ?_
      refine seq_val (.bool true) 83 rfl kj kj ?_
      refine seq_nil ?_
      refine hK108 _ _ ?_
      try clear hK108 K108
      refine cond_true kj ?_
      refine wp_seq_k fun K110 hK110 => ?_
      refine region_lit ?_
      refine seq_val (.slice (some ⟨gm, 0, none⟩) zs105.length cm) 84 rfl kj kj ?_
      refine seq_val (.slice (some ⟨gm, 0, none⟩) zs105.length cm) 85 rfl kj kj ?_
      refine seq_val (.pointer (some ⟨gm, 16, none⟩)) 86 rfl kj (run_indexS0 54 _ _ .i64 (16) gm zs105.length cm 3 rfl kj kj kj kj (by omega)) ?_
      refine seq_val (.int .i64 (nth (zs105) 16)) 87 rfl kj (run_loadC1 3 _ gm 16 3 _ (.int .i64 (nth (zs105) 16)) _ rowm rfl kj (rest_get (Nat.lt_of_lt_of_eq (by omega) (rfl).symm)) kj) ?_
      refine seq_val (.int .i64 (nth zs105 16 % 4)) 88 rfl kj (run_eq (u := .int .i64 (Int.tmod ((nth (zs105) 16)) (4))) kj (congrArg (Value.int .i64) (show Int.tmod (nth zs105 16) 4 = nth zs105 16 % 4 from Int.tmod_eq_emod_of_nonneg (by omega)))) ?_
      refine seq_val (.pointer (some ⟨gm, 16, none⟩)) 89 rfl kj (run_indexS0 54 _ _ .i64 (16) gm zs105.length cm 3 rfl kj kj kj kj (by omega)) ?_
      refine seq_store gm _ (ints .i64 ((zs105).set 16 (nth zs105 16 % 4)) ++ rm_) 3 rowm rfl kj (run_storeRest 3 _ _ gm 16 3 _ _ _ rowm rfl kj kj kj (Nat.lt_of_lt_of_eq (by omega) (rfl).symm)) fun W14 p14 r109_14 => ?_
      have x14 : Ext w W14 := Puts.ext p14 x13 (Nat.le_trans x12.size lm)
      refine seq_nil ?_
      refine hK110 _ _ ?_
      try clear hK110 K110
      refine region_lit ?_
      refine seq_val (.slice (some ⟨gm, 0, none⟩) zs105.length cm) 90 rfl kj kj ?_
      refine seq_val (.slice (some ⟨gm, 0, none⟩) zs105.length cm) 8 rfl kj kj ?_
      refine seq_nil ?_
      refine hK102 _ _ ?_
      try clear hK102 K102
      refine wp_seq_k fun K111 hK111 => ?_
      refine region_lit ?_
      refine seq_val (.slice (some ⟨gm, 0, none⟩) zs105.length cm) 91 rfl kj kj ?_
      refine seq_val (.slice (some ⟨g2, 0 + 16, none⟩) (32 - 16) (32 - 16)) 92 rfl kj (run_sliceA 23 _ _ _ 16 32 32 g2 0 5 rfl kj kj kj ⟨.i64, by kernel_rfl⟩ rfl (by omega) (by omega) (by omega)) ?_
      have r2_3 := (row_ext r2_2 e3)
      have r2_4 := (Puts.row p4 r2_3 (ne_of_old r2_2 lr))
      have r2_5 := (Puts.row p5 r2_4 (ne_of_old r2_2 lr))
      have r2_6 := (Puts.row p6 r2_5 (ne_of_old r2_2 lr))
      have r2_7 := (Puts.row p7 r2_6 (ne_of_old r2_2 lr))
      have r2_8 := (Puts.row p8 r2_7 (ne_of_old r2_2 lr))
      have r2_9 := (Puts.row p9 r2_8 (ne_of_old r2_2 lr))
      have r2_10 := (Puts.row p10 r2_9 (ne_of_old r2_2 lr))
      have r2_11 := (row_ext r2_10 e11)
      have r2_12 := (row_ext r2_11 e12)
      have r2_13 := (row_ext r2_12 e13)
      have r2_14 := (Puts.row p14 r2_13 (ne_of_old r2_12 lm))
      refine seq_callR (fun v W' => (OwnN .i64 3 W14.heap.size ((key.drop 16).take (32 - 16))) v W' ∧ Ext W14 W') 27 #[.slice (some ⟨g2, 0 + 16, none⟩) (32 - 16) (32 - 16)] 93 rfl kj kj ((numbersC ((key.drop 16).take (32 - 16)) _ _ _ (rdK_arr (l := 16) (h := 32) hkl r2_14 (by decide) (by decide) (by decide)) (by rw [List.length_take]; omega) (bytes_take (bytes_drop hkb 16) _)).mono (by rintro e w' ⟨v, rfl, e1, hv⟩; exact ⟨v, rfl, hv, e1⟩)) fun vv113 W15 hh113 => ?_
      obtain ⟨hv113, e15⟩ := hh113
      have x15 : Ext w W15 := Ext.tr x14 e15
      obtain ⟨an112, cn112, hvn112, -⟩ := id (OwnN.rd hv113)
      subst hvn112
      have r109_15 := (row_ext r109_14 e15)
      refine seq_callR (fun v W' => (DigR W15.heap.size (lev ((zs105).set 16 (nth zs105 16 % 4)) + lev ((key.drop 16).take (32 - 16))) (max ((zs105).set 16 (nth zs105 16 % 4)).length ((key.drop 16).take (32 - 16)).length + 1)) v W' ∧ Ext W15 W') 31 #[.slice (some ⟨gm, 0, none⟩) zs105.length cm, .slice an112 (((key.drop 16).take (32 - 16)).length) cn112] 94 rfl kj kj ((rplusC ((zs105).set 16 (nth zs105 16 % 4)) ((key.drop 16).take (32 - 16)) _ _ _ _ _ (rdK_rest ((List.length_set ..).trans (rfl)) r109_15 hcm) (OwnN.rd hv113) (by omega) (by first | omega | (rw [List.length_take]; omega)) hysb (bytes_take (bytes_drop hkb 16) _)).mono (by rintro e w' ⟨v, rfl, e1, hv⟩; exact ⟨v, rfl, hv, e1⟩)) fun vv115 W16 hh115 => ?_
      obtain ⟨hv115, e16⟩ := hh115
      have x16 : Ext w W16 := Ext.tr x15 e16
      obtain ⟨zs114, hzb114, hzv114, hzl114, hzo114⟩ := hv115
      obtain ⟨az114, cz114, rfl, -⟩ := id (OwnN.rd hzo114)
      refine seq_val (.slice az114 zs114.length cz114) 13 rfl kj kj ?_
      refine seq_nil ?_
      refine hK111 _ _ ?_
      try clear hK111 K111
      refine wp_seq_k fun K116 hK116 => ?_
      refine region_lit ?_
      refine seq_alloc (ints .u8 (List.replicate 16 0)) 27 14 rfl kj kj fun g117 W17 l117 e17 r117_17 => ?_
      have x17 : Ext w W17 := Ext.tr x16 e17
      have b117 : w.heap.size ≤ g117 := Nat.le_trans x16.size l117
      refine seq_nil ?_
      refine hK116 _ _ ?_
      try clear hK116 K116
      refine wp_seq_k fun K118 hK118 => ?_
      refine wp_seq_k fun K119 hK119 => ?_
      refine region_lit ?_
      refine seq_val (.int .i64 0) 15 rfl kj kj ?_
      refine seq_nil ?_
      refine hK119 _ _ ?_
      try clear hK119 K119
      refine wp_block ?_
      have f120_17 := (hzo114.ext e17)
      have hal : lev zs114 = polyT (rOf key) text + sOf key := by rw [hzv114, hys, hsm, hnn]; rfl
      refine loop_auto (fun (s2 : Nat) => [(4, .pointer (some ⟨g3, 0, none⟩)), (13, .slice az114 zs114.length cz114), (14, .pointer (some ⟨g117, 0, none⟩)), (15, .int .i64 ((s2 : Nat) : Int))]) (fun (s2 : Nat) W => (s2 ≤ 16) ∧ (W.heap[g117]? = some (.cells (ints .u8 (fillL (by16 (lev zs114)) 16 s2)) 27)) ∧ (Keeps [g117] W17 W) ∧ (Ext w W)) (fun (s2 : Nat) => 16 - s2) 0 ⟨rfl, rfl, rfl, rfl, trivial⟩ ⟨(Nat.zero_le _), (row_eq r117_17 (fillL_zero _ 16)), (Keeps.refl [g117] W17), x17⟩ fun s2 X2 V2 hI2 => ?_
      obtain ⟨i, hs2⟩ : ∃ z, z = s2 := ⟨_, rfl⟩
      subst hs2
      obtain ⟨hi, q117_2, kk2, xx2⟩ := hI2
      replace hi : i ≤ 16 := hi
      replace q117_2 : V2.heap[g117]? = some (.cells (ints .u8 (fillL (by16 (lev zs114)) 16 i)) 27) := q117_2
      replace kk2 : Keeps [g117] W17 V2 := kk2
      replace xx2 : Ext w V2 := xx2
      have q18 := kk2
      refine wp_seq_k fun K121 hK121 => ?_
      refine wp_seq_k fun K122 hK122 => ?_
      rcases (show (i < 16 ∧ i < zs114.length) ∨ (i < 16 ∧ zs114.length ≤ i) ∨ i = 16 by omega) with hq | hq | hq
      · skip
        have hi16 : i < 16 := hq.1
        have hil : i < zs114.length := hq.2
        have f124_18 := (OwnN.keepsL f120_17 q18 (nb_cons (nb_new hzo114 l117) nb_nil))
        obtain ⟨gro123, oro123, haro123, -, hlro123, hcro123⟩ := rdK_at (OwnN.rd f124_18) (by omega)
        refine region_lit ?_
        refine seq_val (.int .i64 ((i : Nat) : Int)) 95 rfl kj kj ?_
        refine seq_val (.bool true) 96 rfl kj (run_eq (u := .bool (decide (((i : Nat) : Int) < 16))) kj (congrArg Value.bool (decide_eq_true (by omega)))) ?_
        refine seq_val (.bool true) 97 rfl kj kj ?_
        refine seq_val (.int .i64 ((i : Nat) : Int)) 98 rfl kj kj ?_
        refine seq_val (.slice az114 zs114.length cz114) 99 rfl kj kj ?_
        refine seq_val (.int .i64 ((zs114.length : Nat) : Int)) 100 rfl kj kj ?_
        refine seq_val (.bool true) 101 rfl kj (run_eq (u := .bool (decide (((i : Nat) : Int) < ((zs114.length : Nat) : Int)))) kj (congrArg Value.bool (decide_eq_true (by omega)))) ?_
        refine seq_val (.bool true) 102 rfl kj kj ?_
        refine seq_nil ?_
        refine hK122 _ _ ?_
        try clear hK122 K122
        refine cond_true kj ?_
        refine wp_skip ?_
        refine hK121 _ _ ?_
        try clear hK121 K121
        refine wp_seq_k fun K125 hK125 => ?_
        refine wp_block ?_
        refine region_lit ?_
        refine seq_val (.int .i64 ((i : Nat) : Int)) 105 rfl kj kj ?_
        refine seq_val (.slice az114 zs114.length cz114) 106 rfl kj kj ?_
        refine seq_val (.int .i64 ((i : Nat) : Int)) 107 rfl kj kj ?_
        refine seq_val (.pointer (some ⟨gro123, oro123 + i, none⟩)) 108 rfl kj (run_indexA 54 _ _ .i64 i gro123 oro123 zs114.length cz114 3 az114 _ haro123 rfl rfl kj kj kj kj (Nat.lt_of_lt_of_eq (show i < (zs114).length by omega) (rfl : (zs114).length = (zs114).length).symm)) ?_
        refine seq_val (.int .i64 (nth (zs114) (i))) 109 rfl kj (run_loadCell 3 _ _ (.int .i64 (nth (zs114) (i))) (hcro123 i (Nat.lt_of_lt_of_eq (show i < (zs114).length by omega) (rfl : (zs114).length = (zs114).length).symm)) rfl kj kj) ?_
        refine seq_val (.int .u8 (nth (by16 (lev zs114)) i)) 110 rfl kj (run_eq (u := .int .u8 (IntKind.u8.wrap (nth (zs114) (i)))) kj (congrArg (Value.int .u8) (by16_wrap hzb114 hi16))) ?_
        refine seq_val (.pointer (some ⟨g117, i, none⟩)) 111 rfl kj (run_index0 _ _ _ .i64 (i) _ 16 5 rfl kj kj kj kj (by omega)) ?_
        refine seq_store g117 _ (ints .u8 ((fillL (by16 (lev zs114)) 16 i).set i (nth (by16 (lev zs114)) i))) 27 q117_2 rfl kj (run_storeI 5 _ _ g117 i 27 _ _ q117_2 rfl kj kj kj (Nat.lt_of_lt_of_eq (by omega) (fillL_len _ 16 _ (by16_len _) hi).symm)) fun W19 p19 r117_19 => ?_
        have x19 : Ext w W19 := Puts.ext p19 xx2 b117
        refine seq_nil ?_
        refine hK125 _ _ ?_
        try clear hK125 K125
        refine region_lit ?_
        refine seq_val (.int .i64 ((i : Nat) : Int)) 103 rfl kj kj ?_
        refine seq_val (.int .i64 ((i + 1 : Nat) : Int)) 104 rfl kj (run_eq (u := .int .i64 (IntKind.i64.wrap (((i : Nat) : Int) + 1))) kj (congrArg (Value.int .i64) (i64n _ _ (by omega) (by omega)))) ?_
        refine seq_val (.int .i64 ((i + 1 : Nat) : Int)) 15 rfl kj kj ?_
        refine seq_nil ?_
        repeat (first | with_reducible refine goX1 ?_ | with_reducible refine goX2 ?_ | with_reducible refine goX3 ?_)
        exact goes_then (i + 1) ⟨rfl, rfl, rfl, rfl, trivial⟩ ⟨(show i + 1 ≤ 16 by omega), (row_eq r117_19 (fillL_step _ 16 i (by16_len _) hi16)), (Keeps.puts q18 p19 (.inl (by simp))), x19⟩ (by show 16 - (i + 1) < 16 - i; omega)
      · skip
        have r117_18_126 : V2.heap[g117]? = some (.cells (ints .u8 (by16 (lev zs114))) 27) := row_eq q117_2 (by16_full hzb114 hi (.inr hq.2))
        refine region_lit ?_
        refine seq_val (.int .i64 ((i : Nat) : Int)) 95 rfl kj kj ?_
        refine seq_val (.bool true) 96 rfl kj (run_eq (u := .bool (decide (((i : Nat) : Int) < 16))) kj (congrArg Value.bool (decide_eq_true (by omega)))) ?_
        refine seq_val (.bool true) 97 rfl kj kj ?_
        refine seq_val (.int .i64 ((i : Nat) : Int)) 98 rfl kj kj ?_
        refine seq_val (.slice az114 zs114.length cz114) 99 rfl kj kj ?_
        refine seq_val (.int .i64 ((zs114.length : Nat) : Int)) 100 rfl kj kj ?_
        refine seq_val (.bool false) 101 rfl kj (run_eq (u := .bool (decide (((i : Nat) : Int) < ((zs114.length : Nat) : Int)))) kj (congrArg Value.bool (decide_eq_false (by omega)))) ?_
        refine seq_val (.bool false) 102 rfl kj kj ?_
        refine seq_nil ?_
        refine hK122 _ _ ?_
        try clear hK122 K122
        refine cond_false kj ?_
        refine wp_exit ?_
        refine hK118 _ _ ?_
        try clear hK118 K118
        refine wp_seq_k fun K127 hK127 => ?_
        refine region_lit ?_
        refine seq_val (.agg (ints .u8 (by16 (lev zs114)))) 112 rfl kj (run_load_row 27 _ g117 27 _ _ r117_18_126 rfl kj kj (isz (n := 16) kj ((ints_size _ _).trans (by16_len _)))) ?_
        have r3_3 := (row_ext r3_2 e3)
        have r3_4 := (Puts.row p4 r3_3 (ne_of_old r3_2 lr))
        have r3_5 := (Puts.row p5 r3_4 (ne_of_old r3_2 lr))
        have r3_6 := (Puts.row p6 r3_5 (ne_of_old r3_2 lr))
        have r3_7 := (Puts.row p7 r3_6 (ne_of_old r3_2 lr))
        have r3_8 := (Puts.row p8 r3_7 (ne_of_old r3_2 lr))
        have r3_9 := (Puts.row p9 r3_8 (ne_of_old r3_2 lr))
        have r3_10 := (Puts.row p10 r3_9 (ne_of_old r3_2 lr))
        have r3_11 := (row_ext r3_10 e11)
        have r3_12 := (row_ext r3_11 e12)
        have r3_13 := (row_ext r3_12 e13)
        have r3_14 := (Puts.row p14 r3_13 (ne_of_old r3_12 lm))
        have r3_15 := (row_ext r3_14 e15)
        have r3_16 := (row_ext r3_15 e16)
        have r3_17 := (row_ext r3_16 e17)
        have r3_18 := (Keeps.row q18 r3_17 (nm_cons (ne_of_old r3_16 l117) nm_nil))
        refine seq_store g3 _ (ints .u8 (by16 (lev zs114))) 27 r3_18 rfl kj (run_store_row 27 _ _ g3 27 _ _ r3_18 rfl kj kj (isz (n := 16) kj ((ints_size _ _).trans (by16_len _))) (eqsz (n := 16) ((ints_size _ _).trans (List.length_replicate (n := 16))) ((ints_size _ _).trans (by16_len _))) (ints_one _ _)) fun W19 p19 r3_19 => ?_
        have x19 : Ext w W19 := Puts.ext p19 xx2 b3
        refine seq_nil ?_
        refine hK127 _ _ ?_
        try clear hK127 K127
        refine wp_ret ?_
        repeat (first | with_reducible refine goR1 ?_ | with_reducible refine goR2 ?_)
        exact (show bodyPost _ _ _ .ret _ _ from ret1 (.agg (ints .u8 (by16 (lev zs114)))) rfl (res_cell g3 27 _ r3_19 kj kj (isz (n := 16) kj ((ints_size _ _).trans (by16_len _)))) ⟨by unfold tagV; rw [hal], x19⟩)
      · skip
        have r117_18_128 : V2.heap[g117]? = some (.cells (ints .u8 (by16 (lev zs114))) 27) := row_eq q117_2 (by16_full hzb114 hi (.inl hq))
        refine region_lit ?_
        refine seq_val (.int .i64 ((i : Nat) : Int)) 95 rfl kj kj ?_
        refine seq_val (.bool false) 96 rfl kj (run_eq (u := .bool (decide (((i : Nat) : Int) < 16))) kj (congrArg Value.bool (decide_eq_false (by omega)))) ?_
        refine seq_val (.bool false) 97 rfl kj kj ?_
        refine seq_skip 98 rfl kj ?_
        refine seq_skip 99 rfl kj ?_
        refine seq_skip 100 rfl kj ?_
        refine seq_skip 101 rfl kj ?_
        refine seq_val (.bool false) 102 rfl kj kj ?_
        refine seq_nil ?_
        refine hK122 _ _ ?_
        try clear hK122 K122
        refine cond_false kj ?_
        refine wp_exit ?_
        refine hK118 _ _ ?_
        try clear hK118 K118
        refine wp_seq_k fun K129 hK129 => ?_
        refine region_lit ?_
        refine seq_val (.agg (ints .u8 (by16 (lev zs114)))) 112 rfl kj (run_load_row 27 _ g117 27 _ _ r117_18_128 rfl kj kj (isz (n := 16) kj ((ints_size _ _).trans (by16_len _)))) ?_
        have r3_3 := (row_ext r3_2 e3)
        have r3_4 := (Puts.row p4 r3_3 (ne_of_old r3_2 lr))
        have r3_5 := (Puts.row p5 r3_4 (ne_of_old r3_2 lr))
        have r3_6 := (Puts.row p6 r3_5 (ne_of_old r3_2 lr))
        have r3_7 := (Puts.row p7 r3_6 (ne_of_old r3_2 lr))
        have r3_8 := (Puts.row p8 r3_7 (ne_of_old r3_2 lr))
        have r3_9 := (Puts.row p9 r3_8 (ne_of_old r3_2 lr))
        have r3_10 := (Puts.row p10 r3_9 (ne_of_old r3_2 lr))
        have r3_11 := (row_ext r3_10 e11)
        have r3_12 := (row_ext r3_11 e12)
        have r3_13 := (row_ext r3_12 e13)
        have r3_14 := (Puts.row p14 r3_13 (ne_of_old r3_12 lm))
        have r3_15 := (row_ext r3_14 e15)
        have r3_16 := (row_ext r3_15 e16)
        have r3_17 := (row_ext r3_16 e17)
        have r3_18 := (Keeps.row q18 r3_17 (nm_cons (ne_of_old r3_16 l117) nm_nil))
        refine seq_store g3 _ (ints .u8 (by16 (lev zs114))) 27 r3_18 rfl kj (run_store_row 27 _ _ g3 27 _ _ r3_18 rfl kj kj (isz (n := 16) kj ((ints_size _ _).trans (by16_len _))) (eqsz (n := 16) ((ints_size _ _).trans (List.length_replicate (n := 16))) ((ints_size _ _).trans (by16_len _))) (ints_one _ _)) fun W19 p19 r3_19 => ?_
        have x19 : Ext w W19 := Puts.ext p19 xx2 b3
        refine seq_nil ?_
        refine hK129 _ _ ?_
        try clear hK129 K129
        refine wp_ret ?_
        repeat (first | with_reducible refine goR1 ?_ | with_reducible refine goR2 ?_)
        exact (show bodyPost _ _ _ .ret _ _ from ret1 (.agg (ints .u8 (by16 (lev zs114)))) rfl (res_cell g3 27 _ r3_19 kj kj (isz (n := 16) kj ((ints_size _ _).trans (by16_len _)))) ⟨by unfold tagV; rw [hal], x19⟩)
    · skip
      obtain ⟨gm, cm, rm_, evm, lm, rowm, hcm⟩ := ownN_rest hzo105 (rfl : zs105.length = zs105.length) (by omega)
      rw [evm]
      have hys := more_B (lev_nonneg hsb) hzb105 hzv105 hslt (.inr hq.2)
      refine region_lit ?_
      refine seq_val (.slice (some ⟨gm, 0, none⟩) zs105.length cm) 75 rfl kj kj ?_
      refine seq_val (.int .i64 ((zs105.length : Nat) : Int)) 76 rfl kj kj ?_
      refine seq_val (.bool true) 77 rfl kj (run_eq (u := .bool (decide (((zs105.length : Nat) : Int) ≥ 17))) kj (congrArg Value.bool (decide_eq_true (by omega)))) ?_
      refine seq_val (.bool true) 78 rfl kj kj ?_
      refine seq_val (.slice (some ⟨gm, 0, none⟩) zs105.length cm) 79 rfl kj kj ?_
      refine seq_val (.pointer (some ⟨gm, 16, none⟩)) 80 rfl kj (run_indexS0 54 _ _ .i64 (16) gm zs105.length cm 3 rfl kj kj kj kj (by omega)) ?_
      refine seq_val (.int .i64 (nth (zs105) 16)) 81 rfl kj (run_loadC1 3 _ gm 16 3 _ (.int .i64 (nth (zs105) 16)) _ rowm rfl kj (rest_get (Nat.lt_of_lt_of_eq (by omega) (rfl).symm)) kj) ?_
      refine seq_val (.bool false) 82 rfl kj (run_eq (u := .bool (decide ((nth (zs105) 16) ≥ 4))) kj (congrArg Value.bool (decide_eq_false (by omega)))) ?_
      refine seq_val (.bool false) 83 rfl kj kj ?_
      refine seq_nil ?_
      refine hK108 _ _ ?_
      try clear hK108 K108
      refine cond_false kj ?_
      refine wp_skip ?_
      refine hK102 _ _ ?_
      try clear hK102 K102
      refine wp_seq_k fun K131 hK131 => ?_
      refine region_lit ?_
      refine seq_val (.slice ax xs.length cx) 91 rfl kj kj ?_
      refine seq_val (.slice (some ⟨g2, 0 + 16, none⟩) (32 - 16) (32 - 16)) 92 rfl kj (run_sliceA 23 _ _ _ 16 32 32 g2 0 5 rfl kj kj kj ⟨.i64, by kernel_rfl⟩ rfl (by omega) (by omega) (by omega)) ?_
      have r2_3 := (row_ext r2_2 e3)
      have r2_4 := (Puts.row p4 r2_3 (ne_of_old r2_2 lr))
      have r2_5 := (Puts.row p5 r2_4 (ne_of_old r2_2 lr))
      have r2_6 := (Puts.row p6 r2_5 (ne_of_old r2_2 lr))
      have r2_7 := (Puts.row p7 r2_6 (ne_of_old r2_2 lr))
      have r2_8 := (Puts.row p8 r2_7 (ne_of_old r2_2 lr))
      have r2_9 := (Puts.row p9 r2_8 (ne_of_old r2_2 lr))
      have r2_10 := (Puts.row p10 r2_9 (ne_of_old r2_2 lr))
      have r2_11 := (row_ext r2_10 e11)
      have r2_12 := (row_ext r2_11 e12)
      have r2_13 := (row_ext r2_12 e13)
      refine seq_callR (fun v W' => (OwnN .i64 3 W13.heap.size ((key.drop 16).take (32 - 16))) v W' ∧ Ext W13 W') 27 #[.slice (some ⟨g2, 0 + 16, none⟩) (32 - 16) (32 - 16)] 93 rfl kj kj ((numbersC ((key.drop 16).take (32 - 16)) _ _ _ (rdK_arr (l := 16) (h := 32) hkl r2_13 (by decide) (by decide) (by decide)) (by rw [List.length_take]; omega) (bytes_take (bytes_drop hkb 16) _)).mono (by rintro e w' ⟨v, rfl, e1, hv⟩; exact ⟨v, rfl, hv, e1⟩)) fun vv133 W14 hh133 => ?_
      obtain ⟨hv133, e14⟩ := hh133
      have x14 : Ext w W14 := Ext.tr x13 e14
      obtain ⟨an132, cn132, hvn132, -⟩ := id (OwnN.rd hv133)
      subst hvn132
      have f135_13 := (f106_12.ext e13)
      have f136_14 := (f135_13.ext e14)
      refine seq_callR (fun v W' => (DigR W14.heap.size (lev (xs) + lev ((key.drop 16).take (32 - 16))) (max (xs).length ((key.drop 16).take (32 - 16)).length + 1)) v W' ∧ Ext W14 W') 31 #[.slice ax xs.length cx, .slice an132 (((key.drop 16).take (32 - 16)).length) cn132] 94 rfl kj kj ((rplusC (xs) ((key.drop 16).take (32 - 16)) _ _ _ _ _ f136_14 (OwnN.rd hv133) (by first | omega | (rw [List.length_take]; omega)) (by first | omega | (rw [List.length_take]; omega)) hsb (bytes_take (bytes_drop hkb 16) _)).mono (by rintro e w' ⟨v, rfl, e1, hv⟩; exact ⟨v, rfl, hv, e1⟩)) fun vv137 W15 hh137 => ?_
      obtain ⟨hv137, e15⟩ := hh137
      have x15 : Ext w W15 := Ext.tr x14 e15
      obtain ⟨zs134, hzb134, hzv134, hzl134, hzo134⟩ := hv137
      obtain ⟨az134, cz134, rfl, -⟩ := id (OwnN.rd hzo134)
      refine seq_val (.slice az134 zs134.length cz134) 13 rfl kj kj ?_
      refine seq_nil ?_
      refine hK131 _ _ ?_
      try clear hK131 K131
      refine wp_seq_k fun K138 hK138 => ?_
      refine region_lit ?_
      refine seq_alloc (ints .u8 (List.replicate 16 0)) 27 14 rfl kj kj fun g139 W16 l139 e16 r139_16 => ?_
      have x16 : Ext w W16 := Ext.tr x15 e16
      have b139 : w.heap.size ≤ g139 := Nat.le_trans x15.size l139
      refine seq_nil ?_
      refine hK138 _ _ ?_
      try clear hK138 K138
      refine wp_seq_k fun K140 hK140 => ?_
      refine wp_seq_k fun K141 hK141 => ?_
      refine region_lit ?_
      refine seq_val (.int .i64 0) 15 rfl kj kj ?_
      refine seq_nil ?_
      refine hK141 _ _ ?_
      try clear hK141 K141
      refine wp_block ?_
      have f142_16 := (hzo134.ext e16)
      have hal : lev zs134 = polyT (rOf key) text + sOf key := by rw [hzv134, hys, hsm, hnn]; rfl
      refine loop_auto (fun (s3 : Nat) => [(4, .pointer (some ⟨g3, 0, none⟩)), (13, .slice az134 zs134.length cz134), (14, .pointer (some ⟨g139, 0, none⟩)), (15, .int .i64 ((s3 : Nat) : Int))]) (fun (s3 : Nat) W => (s3 ≤ 16) ∧ (W.heap[g139]? = some (.cells (ints .u8 (fillL (by16 (lev zs134)) 16 s3)) 27)) ∧ (Keeps [g139] W16 W) ∧ (Ext w W)) (fun (s3 : Nat) => 16 - s3) 0 ⟨rfl, rfl, rfl, rfl, trivial⟩ ⟨(Nat.zero_le _), (row_eq r139_16 (fillL_zero _ 16)), (Keeps.refl [g139] W16), x16⟩ fun s3 X3 V3 hI3 => ?_
      obtain ⟨i, hs3⟩ : ∃ z, z = s3 := ⟨_, rfl⟩
      subst hs3
      obtain ⟨hi, q139_3, kk3, xx3⟩ := hI3
      replace hi : i ≤ 16 := hi
      replace q139_3 : V3.heap[g139]? = some (.cells (ints .u8 (fillL (by16 (lev zs134)) 16 i)) 27) := q139_3
      replace kk3 : Keeps [g139] W16 V3 := kk3
      replace xx3 : Ext w V3 := xx3
      have q17 := kk3
      refine wp_seq_k fun K143 hK143 => ?_
      refine wp_seq_k fun K144 hK144 => ?_
      rcases (show (i < 16 ∧ i < zs134.length) ∨ (i < 16 ∧ zs134.length ≤ i) ∨ i = 16 by omega) with hq | hq | hq
      · skip
        have hi16 : i < 16 := hq.1
        have hil : i < zs134.length := hq.2
        have f146_17 := (OwnN.keepsL f142_16 q17 (nb_cons (nb_new hzo134 l139) nb_nil))
        obtain ⟨gro145, oro145, haro145, -, hlro145, hcro145⟩ := rdK_at (OwnN.rd f146_17) (by omega)
        refine region_lit ?_
        refine seq_val (.int .i64 ((i : Nat) : Int)) 95 rfl kj kj ?_
        refine seq_val (.bool true) 96 rfl kj (run_eq (u := .bool (decide (((i : Nat) : Int) < 16))) kj (congrArg Value.bool (decide_eq_true (by omega)))) ?_
        refine seq_val (.bool true) 97 rfl kj kj ?_
        refine seq_val (.int .i64 ((i : Nat) : Int)) 98 rfl kj kj ?_
        refine seq_val (.slice az134 zs134.length cz134) 99 rfl kj kj ?_
        refine seq_val (.int .i64 ((zs134.length : Nat) : Int)) 100 rfl kj kj ?_
        refine seq_val (.bool true) 101 rfl kj (run_eq (u := .bool (decide (((i : Nat) : Int) < ((zs134.length : Nat) : Int)))) kj (congrArg Value.bool (decide_eq_true (by omega)))) ?_
        refine seq_val (.bool true) 102 rfl kj kj ?_
        refine seq_nil ?_
        refine hK144 _ _ ?_
        try clear hK144 K144
        refine cond_true kj ?_
        refine wp_skip ?_
        refine hK143 _ _ ?_
        try clear hK143 K143
        refine wp_seq_k fun K147 hK147 => ?_
        refine wp_block ?_
        refine region_lit ?_
        refine seq_val (.int .i64 ((i : Nat) : Int)) 105 rfl kj kj ?_
        refine seq_val (.slice az134 zs134.length cz134) 106 rfl kj kj ?_
        refine seq_val (.int .i64 ((i : Nat) : Int)) 107 rfl kj kj ?_
        refine seq_val (.pointer (some ⟨gro145, oro145 + i, none⟩)) 108 rfl kj (run_indexA 54 _ _ .i64 i gro145 oro145 zs134.length cz134 3 az134 _ haro145 rfl rfl kj kj kj kj (Nat.lt_of_lt_of_eq (show i < (zs134).length by omega) (rfl : (zs134).length = (zs134).length).symm)) ?_
        refine seq_val (.int .i64 (nth (zs134) (i))) 109 rfl kj (run_loadCell 3 _ _ (.int .i64 (nth (zs134) (i))) (hcro145 i (Nat.lt_of_lt_of_eq (show i < (zs134).length by omega) (rfl : (zs134).length = (zs134).length).symm)) rfl kj kj) ?_
        refine seq_val (.int .u8 (nth (by16 (lev zs134)) i)) 110 rfl kj (run_eq (u := .int .u8 (IntKind.u8.wrap (nth (zs134) (i)))) kj (congrArg (Value.int .u8) (by16_wrap hzb134 hi16))) ?_
        refine seq_val (.pointer (some ⟨g139, i, none⟩)) 111 rfl kj (run_index0 _ _ _ .i64 (i) _ 16 5 rfl kj kj kj kj (by omega)) ?_
        refine seq_store g139 _ (ints .u8 ((fillL (by16 (lev zs134)) 16 i).set i (nth (by16 (lev zs134)) i))) 27 q139_3 rfl kj (run_storeI 5 _ _ g139 i 27 _ _ q139_3 rfl kj kj kj (Nat.lt_of_lt_of_eq (by omega) (fillL_len _ 16 _ (by16_len _) hi).symm)) fun W18 p18 r139_18 => ?_
        have x18 : Ext w W18 := Puts.ext p18 xx3 b139
        refine seq_nil ?_
        refine hK147 _ _ ?_
        try clear hK147 K147
        refine region_lit ?_
        refine seq_val (.int .i64 ((i : Nat) : Int)) 103 rfl kj kj ?_
        refine seq_val (.int .i64 ((i + 1 : Nat) : Int)) 104 rfl kj (run_eq (u := .int .i64 (IntKind.i64.wrap (((i : Nat) : Int) + 1))) kj (congrArg (Value.int .i64) (i64n _ _ (by omega) (by omega)))) ?_
        refine seq_val (.int .i64 ((i + 1 : Nat) : Int)) 15 rfl kj kj ?_
        refine seq_nil ?_
        repeat (first | with_reducible refine goX1 ?_ | with_reducible refine goX2 ?_ | with_reducible refine goX3 ?_)
        exact goes_then (i + 1) ⟨rfl, rfl, rfl, rfl, trivial⟩ ⟨(show i + 1 ≤ 16 by omega), (row_eq r139_18 (fillL_step _ 16 i (by16_len _) hi16)), (Keeps.puts q17 p18 (.inl (by simp))), x18⟩ (by show 16 - (i + 1) < 16 - i; omega)
      · skip
        have r139_17_148 : V3.heap[g139]? = some (.cells (ints .u8 (by16 (lev zs134))) 27) := row_eq q139_3 (by16_full hzb134 hi (.inr hq.2))
        refine region_lit ?_
        refine seq_val (.int .i64 ((i : Nat) : Int)) 95 rfl kj kj ?_
        refine seq_val (.bool true) 96 rfl kj (run_eq (u := .bool (decide (((i : Nat) : Int) < 16))) kj (congrArg Value.bool (decide_eq_true (by omega)))) ?_
        refine seq_val (.bool true) 97 rfl kj kj ?_
        refine seq_val (.int .i64 ((i : Nat) : Int)) 98 rfl kj kj ?_
        refine seq_val (.slice az134 zs134.length cz134) 99 rfl kj kj ?_
        refine seq_val (.int .i64 ((zs134.length : Nat) : Int)) 100 rfl kj kj ?_
        refine seq_val (.bool false) 101 rfl kj (run_eq (u := .bool (decide (((i : Nat) : Int) < ((zs134.length : Nat) : Int)))) kj (congrArg Value.bool (decide_eq_false (by omega)))) ?_
        refine seq_val (.bool false) 102 rfl kj kj ?_
        refine seq_nil ?_
        refine hK144 _ _ ?_
        try clear hK144 K144
        refine cond_false kj ?_
        refine wp_exit ?_
        refine hK140 _ _ ?_
        try clear hK140 K140
        refine wp_seq_k fun K149 hK149 => ?_
        refine region_lit ?_
        refine seq_val (.agg (ints .u8 (by16 (lev zs134)))) 112 rfl kj (run_load_row 27 _ g139 27 _ _ r139_17_148 rfl kj kj (isz (n := 16) kj ((ints_size _ _).trans (by16_len _)))) ?_
        have r3_3 := (row_ext r3_2 e3)
        have r3_4 := (Puts.row p4 r3_3 (ne_of_old r3_2 lr))
        have r3_5 := (Puts.row p5 r3_4 (ne_of_old r3_2 lr))
        have r3_6 := (Puts.row p6 r3_5 (ne_of_old r3_2 lr))
        have r3_7 := (Puts.row p7 r3_6 (ne_of_old r3_2 lr))
        have r3_8 := (Puts.row p8 r3_7 (ne_of_old r3_2 lr))
        have r3_9 := (Puts.row p9 r3_8 (ne_of_old r3_2 lr))
        have r3_10 := (Puts.row p10 r3_9 (ne_of_old r3_2 lr))
        have r3_11 := (row_ext r3_10 e11)
        have r3_12 := (row_ext r3_11 e12)
        have r3_13 := (row_ext r3_12 e13)
        have r3_14 := (row_ext r3_13 e14)
        have r3_15 := (row_ext r3_14 e15)
        have r3_16 := (row_ext r3_15 e16)
        have r3_17 := (Keeps.row q17 r3_16 (nm_cons (ne_of_old r3_15 l139) nm_nil))
        refine seq_store g3 _ (ints .u8 (by16 (lev zs134))) 27 r3_17 rfl kj (run_store_row 27 _ _ g3 27 _ _ r3_17 rfl kj kj (isz (n := 16) kj ((ints_size _ _).trans (by16_len _))) (eqsz (n := 16) ((ints_size _ _).trans (List.length_replicate (n := 16))) ((ints_size _ _).trans (by16_len _))) (ints_one _ _)) fun W18 p18 r3_18 => ?_
        have x18 : Ext w W18 := Puts.ext p18 xx3 b3
        refine seq_nil ?_
        refine hK149 _ _ ?_
        try clear hK149 K149
        refine wp_ret ?_
        repeat (first | with_reducible refine goR1 ?_ | with_reducible refine goR2 ?_)
        exact (show bodyPost _ _ _ .ret _ _ from ret1 (.agg (ints .u8 (by16 (lev zs134)))) rfl (res_cell g3 27 _ r3_18 kj kj (isz (n := 16) kj ((ints_size _ _).trans (by16_len _)))) ⟨by unfold tagV; rw [hal], x18⟩)
      · skip
        have r139_17_150 : V3.heap[g139]? = some (.cells (ints .u8 (by16 (lev zs134))) 27) := row_eq q139_3 (by16_full hzb134 hi (.inl hq))
        refine region_lit ?_
        refine seq_val (.int .i64 ((i : Nat) : Int)) 95 rfl kj kj ?_
        refine seq_val (.bool false) 96 rfl kj (run_eq (u := .bool (decide (((i : Nat) : Int) < 16))) kj (congrArg Value.bool (decide_eq_false (by omega)))) ?_
        refine seq_val (.bool false) 97 rfl kj kj ?_
        refine seq_skip 98 rfl kj ?_
        refine seq_skip 99 rfl kj ?_
        refine seq_skip 100 rfl kj ?_
        refine seq_skip 101 rfl kj ?_
        refine seq_val (.bool false) 102 rfl kj kj ?_
        refine seq_nil ?_
        refine hK144 _ _ ?_
        try clear hK144 K144
        refine cond_false kj ?_
        refine wp_exit ?_
        refine hK140 _ _ ?_
        try clear hK140 K140
        refine wp_seq_k fun K151 hK151 => ?_
        refine region_lit ?_
        refine seq_val (.agg (ints .u8 (by16 (lev zs134)))) 112 rfl kj (run_load_row 27 _ g139 27 _ _ r139_17_150 rfl kj kj (isz (n := 16) kj ((ints_size _ _).trans (by16_len _)))) ?_
        have r3_3 := (row_ext r3_2 e3)
        have r3_4 := (Puts.row p4 r3_3 (ne_of_old r3_2 lr))
        have r3_5 := (Puts.row p5 r3_4 (ne_of_old r3_2 lr))
        have r3_6 := (Puts.row p6 r3_5 (ne_of_old r3_2 lr))
        have r3_7 := (Puts.row p7 r3_6 (ne_of_old r3_2 lr))
        have r3_8 := (Puts.row p8 r3_7 (ne_of_old r3_2 lr))
        have r3_9 := (Puts.row p9 r3_8 (ne_of_old r3_2 lr))
        have r3_10 := (Puts.row p10 r3_9 (ne_of_old r3_2 lr))
        have r3_11 := (row_ext r3_10 e11)
        have r3_12 := (row_ext r3_11 e12)
        have r3_13 := (row_ext r3_12 e13)
        have r3_14 := (row_ext r3_13 e14)
        have r3_15 := (row_ext r3_14 e15)
        have r3_16 := (row_ext r3_15 e16)
        have r3_17 := (Keeps.row q17 r3_16 (nm_cons (ne_of_old r3_15 l139) nm_nil))
        refine seq_store g3 _ (ints .u8 (by16 (lev zs134))) 27 r3_17 rfl kj (run_store_row 27 _ _ g3 27 _ _ r3_17 rfl kj kj (isz (n := 16) kj ((ints_size _ _).trans (by16_len _))) (eqsz (n := 16) ((ints_size _ _).trans (List.length_replicate (n := 16))) ((ints_size _ _).trans (by16_len _))) (ints_one _ _)) fun W18 p18 r3_18 => ?_
        have x18 : Ext w W18 := Puts.ext p18 xx3 b3
        refine seq_nil ?_
        refine hK151 _ _ ?_
        try clear hK151 K151
        refine wp_ret ?_
        repeat (first | with_reducible refine goR1 ?_ | with_reducible refine goR2 ?_)
        exact (show bodyPost _ _ _ .ret _ _ from ret1 (.agg (ints .u8 (by16 (lev zs134)))) rfl (res_cell g3 27 _ r3_18 kj kj (isz (n := 16) kj ((ints_size _ _).trans (by16_len _)))) ⟨by unfold tagV; rw [hal], x18⟩)
    · skip
      have hys := more_B (lev_nonneg hsb) hzb105 hzv105 hslt (.inl hq)
      refine region_lit ?_
      refine seq_val (.slice az105 zs105.length cz105) 75 rfl kj kj ?_
      refine seq_val (.int .i64 ((zs105.length : Nat) : Int)) 76 rfl kj kj ?_
      refine seq_val (.bool false) 77 rfl kj (run_eq (u := .bool (decide (((zs105.length : Nat) : Int) ≥ 17))) kj (congrArg Value.bool (decide_eq_false (by omega)))) ?_
      refine seq_val (.bool false) 78 rfl kj kj ?_
      refine seq_skip 79 rfl kj ?_
      refine seq_skip 80 rfl kj ?_
      refine seq_skip 81 rfl kj ?_
      refine seq_skip 82 rfl kj ?_
      refine seq_val (.bool false) 83 rfl kj kj ?_
      refine seq_nil ?_
      refine hK108 _ _ ?_
      try clear hK108 K108
      refine cond_false kj ?_
      refine wp_skip ?_
      refine hK102 _ _ ?_
      try clear hK102 K102
      refine wp_seq_k fun K152 hK152 => ?_
      refine region_lit ?_
      refine seq_val (.slice ax xs.length cx) 91 rfl kj kj ?_
      refine seq_val (.slice (some ⟨g2, 0 + 16, none⟩) (32 - 16) (32 - 16)) 92 rfl kj (run_sliceA 23 _ _ _ 16 32 32 g2 0 5 rfl kj kj kj ⟨.i64, by kernel_rfl⟩ rfl (by omega) (by omega) (by omega)) ?_
      have r2_3 := (row_ext r2_2 e3)
      have r2_4 := (Puts.row p4 r2_3 (ne_of_old r2_2 lr))
      have r2_5 := (Puts.row p5 r2_4 (ne_of_old r2_2 lr))
      have r2_6 := (Puts.row p6 r2_5 (ne_of_old r2_2 lr))
      have r2_7 := (Puts.row p7 r2_6 (ne_of_old r2_2 lr))
      have r2_8 := (Puts.row p8 r2_7 (ne_of_old r2_2 lr))
      have r2_9 := (Puts.row p9 r2_8 (ne_of_old r2_2 lr))
      have r2_10 := (Puts.row p10 r2_9 (ne_of_old r2_2 lr))
      have r2_11 := (row_ext r2_10 e11)
      have r2_12 := (row_ext r2_11 e12)
      have r2_13 := (row_ext r2_12 e13)
      refine seq_callR (fun v W' => (OwnN .i64 3 W13.heap.size ((key.drop 16).take (32 - 16))) v W' ∧ Ext W13 W') 27 #[.slice (some ⟨g2, 0 + 16, none⟩) (32 - 16) (32 - 16)] 93 rfl kj kj ((numbersC ((key.drop 16).take (32 - 16)) _ _ _ (rdK_arr (l := 16) (h := 32) hkl r2_13 (by decide) (by decide) (by decide)) (by rw [List.length_take]; omega) (bytes_take (bytes_drop hkb 16) _)).mono (by rintro e w' ⟨v, rfl, e1, hv⟩; exact ⟨v, rfl, hv, e1⟩)) fun vv154 W14 hh154 => ?_
      obtain ⟨hv154, e14⟩ := hh154
      have x14 : Ext w W14 := Ext.tr x13 e14
      obtain ⟨an153, cn153, hvn153, -⟩ := id (OwnN.rd hv154)
      subst hvn153
      have f156_13 := (f106_12.ext e13)
      have f157_14 := (f156_13.ext e14)
      refine seq_callR (fun v W' => (DigR W14.heap.size (lev (xs) + lev ((key.drop 16).take (32 - 16))) (max (xs).length ((key.drop 16).take (32 - 16)).length + 1)) v W' ∧ Ext W14 W') 31 #[.slice ax xs.length cx, .slice an153 (((key.drop 16).take (32 - 16)).length) cn153] 94 rfl kj kj ((rplusC (xs) ((key.drop 16).take (32 - 16)) _ _ _ _ _ f157_14 (OwnN.rd hv154) (by first | omega | (rw [List.length_take]; omega)) (by first | omega | (rw [List.length_take]; omega)) hsb (bytes_take (bytes_drop hkb 16) _)).mono (by rintro e w' ⟨v, rfl, e1, hv⟩; exact ⟨v, rfl, hv, e1⟩)) fun vv158 W15 hh158 => ?_
      obtain ⟨hv158, e15⟩ := hh158
      have x15 : Ext w W15 := Ext.tr x14 e15
      obtain ⟨zs155, hzb155, hzv155, hzl155, hzo155⟩ := hv158
      obtain ⟨az155, cz155, rfl, -⟩ := id (OwnN.rd hzo155)
      refine seq_val (.slice az155 zs155.length cz155) 13 rfl kj kj ?_
      refine seq_nil ?_
      refine hK152 _ _ ?_
      try clear hK152 K152
      refine wp_seq_k fun K159 hK159 => ?_
      refine region_lit ?_
      refine seq_alloc (ints .u8 (List.replicate 16 0)) 27 14 rfl kj kj fun g160 W16 l160 e16 r160_16 => ?_
      have x16 : Ext w W16 := Ext.tr x15 e16
      have b160 : w.heap.size ≤ g160 := Nat.le_trans x15.size l160
      refine seq_nil ?_
      refine hK159 _ _ ?_
      try clear hK159 K159
      refine wp_seq_k fun K161 hK161 => ?_
      refine wp_seq_k fun K162 hK162 => ?_
      refine region_lit ?_
      refine seq_val (.int .i64 0) 15 rfl kj kj ?_
      refine seq_nil ?_
      refine hK162 _ _ ?_
      try clear hK162 K162
      refine wp_block ?_
      have f163_16 := (hzo155.ext e16)
      have hal : lev zs155 = polyT (rOf key) text + sOf key := by rw [hzv155, hys, hsm, hnn]; rfl
      refine loop_auto (fun (s4 : Nat) => [(4, .pointer (some ⟨g3, 0, none⟩)), (13, .slice az155 zs155.length cz155), (14, .pointer (some ⟨g160, 0, none⟩)), (15, .int .i64 ((s4 : Nat) : Int))]) (fun (s4 : Nat) W => (s4 ≤ 16) ∧ (W.heap[g160]? = some (.cells (ints .u8 (fillL (by16 (lev zs155)) 16 s4)) 27)) ∧ (Keeps [g160] W16 W) ∧ (Ext w W)) (fun (s4 : Nat) => 16 - s4) 0 ⟨rfl, rfl, rfl, rfl, trivial⟩ ⟨(Nat.zero_le _), (row_eq r160_16 (fillL_zero _ 16)), (Keeps.refl [g160] W16), x16⟩ fun s4 X4 V4 hI4 => ?_
      obtain ⟨i, hs4⟩ : ∃ z, z = s4 := ⟨_, rfl⟩
      subst hs4
      obtain ⟨hi, q160_4, kk4, xx4⟩ := hI4
      replace hi : i ≤ 16 := hi
      replace q160_4 : V4.heap[g160]? = some (.cells (ints .u8 (fillL (by16 (lev zs155)) 16 i)) 27) := q160_4
      replace kk4 : Keeps [g160] W16 V4 := kk4
      replace xx4 : Ext w V4 := xx4
      have q17 := kk4
      refine wp_seq_k fun K164 hK164 => ?_
      refine wp_seq_k fun K165 hK165 => ?_
      rcases (show (i < 16 ∧ i < zs155.length) ∨ (i < 16 ∧ zs155.length ≤ i) ∨ i = 16 by omega) with hq | hq | hq
      · skip
        have hi16 : i < 16 := hq.1
        have hil : i < zs155.length := hq.2
        have f167_17 := (OwnN.keepsL f163_16 q17 (nb_cons (nb_new hzo155 l160) nb_nil))
        obtain ⟨gro166, oro166, haro166, -, hlro166, hcro166⟩ := rdK_at (OwnN.rd f167_17) (by omega)
        refine region_lit ?_
        refine seq_val (.int .i64 ((i : Nat) : Int)) 95 rfl kj kj ?_
        refine seq_val (.bool true) 96 rfl kj (run_eq (u := .bool (decide (((i : Nat) : Int) < 16))) kj (congrArg Value.bool (decide_eq_true (by omega)))) ?_
        refine seq_val (.bool true) 97 rfl kj kj ?_
        refine seq_val (.int .i64 ((i : Nat) : Int)) 98 rfl kj kj ?_
        refine seq_val (.slice az155 zs155.length cz155) 99 rfl kj kj ?_
        refine seq_val (.int .i64 ((zs155.length : Nat) : Int)) 100 rfl kj kj ?_
        refine seq_val (.bool true) 101 rfl kj (run_eq (u := .bool (decide (((i : Nat) : Int) < ((zs155.length : Nat) : Int)))) kj (congrArg Value.bool (decide_eq_true (by omega)))) ?_
        refine seq_val (.bool true) 102 rfl kj kj ?_
        refine seq_nil ?_
        refine hK165 _ _ ?_
        try clear hK165 K165
        refine cond_true kj ?_
        refine wp_skip ?_
        refine hK164 _ _ ?_
        try clear hK164 K164
        refine wp_seq_k fun K168 hK168 => ?_
        refine wp_block ?_
        refine region_lit ?_
        refine seq_val (.int .i64 ((i : Nat) : Int)) 105 rfl kj kj ?_
        refine seq_val (.slice az155 zs155.length cz155) 106 rfl kj kj ?_
        refine seq_val (.int .i64 ((i : Nat) : Int)) 107 rfl kj kj ?_
        refine seq_val (.pointer (some ⟨gro166, oro166 + i, none⟩)) 108 rfl kj (run_indexA 54 _ _ .i64 i gro166 oro166 zs155.length cz155 3 az155 _ haro166 rfl rfl kj kj kj kj (Nat.lt_of_lt_of_eq (show i < (zs155).length by omega) (rfl : (zs155).length = (zs155).length).symm)) ?_
        refine seq_val (.int .i64 (nth (zs155) (i))) 109 rfl kj (run_loadCell 3 _ _ (.int .i64 (nth (zs155) (i))) (hcro166 i (Nat.lt_of_lt_of_eq (show i < (zs155).length by omega) (rfl : (zs155).length = (zs155).length).symm)) rfl kj kj) ?_
        refine seq_val (.int .u8 (nth (by16 (lev zs155)) i)) 110 rfl kj (run_eq (u := .int .u8 (IntKind.u8.wrap (nth (zs155) (i)))) kj (congrArg (Value.int .u8) (by16_wrap hzb155 hi16))) ?_
        refine seq_val (.pointer (some ⟨g160, i, none⟩)) 111 rfl kj (run_index0 _ _ _ .i64 (i) _ 16 5 rfl kj kj kj kj (by omega)) ?_
        refine seq_store g160 _ (ints .u8 ((fillL (by16 (lev zs155)) 16 i).set i (nth (by16 (lev zs155)) i))) 27 q160_4 rfl kj (run_storeI 5 _ _ g160 i 27 _ _ q160_4 rfl kj kj kj (Nat.lt_of_lt_of_eq (by omega) (fillL_len _ 16 _ (by16_len _) hi).symm)) fun W18 p18 r160_18 => ?_
        have x18 : Ext w W18 := Puts.ext p18 xx4 b160
        refine seq_nil ?_
        refine hK168 _ _ ?_
        try clear hK168 K168
        refine region_lit ?_
        refine seq_val (.int .i64 ((i : Nat) : Int)) 103 rfl kj kj ?_
        refine seq_val (.int .i64 ((i + 1 : Nat) : Int)) 104 rfl kj (run_eq (u := .int .i64 (IntKind.i64.wrap (((i : Nat) : Int) + 1))) kj (congrArg (Value.int .i64) (i64n _ _ (by omega) (by omega)))) ?_
        refine seq_val (.int .i64 ((i + 1 : Nat) : Int)) 15 rfl kj kj ?_
        refine seq_nil ?_
        repeat (first | with_reducible refine goX1 ?_ | with_reducible refine goX2 ?_ | with_reducible refine goX3 ?_)
        exact goes_then (i + 1) ⟨rfl, rfl, rfl, rfl, trivial⟩ ⟨(show i + 1 ≤ 16 by omega), (row_eq r160_18 (fillL_step _ 16 i (by16_len _) hi16)), (Keeps.puts q17 p18 (.inl (by simp))), x18⟩ (by show 16 - (i + 1) < 16 - i; omega)
      · skip
        have r160_17_169 : V4.heap[g160]? = some (.cells (ints .u8 (by16 (lev zs155))) 27) := row_eq q160_4 (by16_full hzb155 hi (.inr hq.2))
        refine region_lit ?_
        refine seq_val (.int .i64 ((i : Nat) : Int)) 95 rfl kj kj ?_
        refine seq_val (.bool true) 96 rfl kj (run_eq (u := .bool (decide (((i : Nat) : Int) < 16))) kj (congrArg Value.bool (decide_eq_true (by omega)))) ?_
        refine seq_val (.bool true) 97 rfl kj kj ?_
        refine seq_val (.int .i64 ((i : Nat) : Int)) 98 rfl kj kj ?_
        refine seq_val (.slice az155 zs155.length cz155) 99 rfl kj kj ?_
        refine seq_val (.int .i64 ((zs155.length : Nat) : Int)) 100 rfl kj kj ?_
        refine seq_val (.bool false) 101 rfl kj (run_eq (u := .bool (decide (((i : Nat) : Int) < ((zs155.length : Nat) : Int)))) kj (congrArg Value.bool (decide_eq_false (by omega)))) ?_
        refine seq_val (.bool false) 102 rfl kj kj ?_
        refine seq_nil ?_
        refine hK165 _ _ ?_
        try clear hK165 K165
        refine cond_false kj ?_
        refine wp_exit ?_
        refine hK161 _ _ ?_
        try clear hK161 K161
        refine wp_seq_k fun K170 hK170 => ?_
        refine region_lit ?_
        refine seq_val (.agg (ints .u8 (by16 (lev zs155)))) 112 rfl kj (run_load_row 27 _ g160 27 _ _ r160_17_169 rfl kj kj (isz (n := 16) kj ((ints_size _ _).trans (by16_len _)))) ?_
        have r3_3 := (row_ext r3_2 e3)
        have r3_4 := (Puts.row p4 r3_3 (ne_of_old r3_2 lr))
        have r3_5 := (Puts.row p5 r3_4 (ne_of_old r3_2 lr))
        have r3_6 := (Puts.row p6 r3_5 (ne_of_old r3_2 lr))
        have r3_7 := (Puts.row p7 r3_6 (ne_of_old r3_2 lr))
        have r3_8 := (Puts.row p8 r3_7 (ne_of_old r3_2 lr))
        have r3_9 := (Puts.row p9 r3_8 (ne_of_old r3_2 lr))
        have r3_10 := (Puts.row p10 r3_9 (ne_of_old r3_2 lr))
        have r3_11 := (row_ext r3_10 e11)
        have r3_12 := (row_ext r3_11 e12)
        have r3_13 := (row_ext r3_12 e13)
        have r3_14 := (row_ext r3_13 e14)
        have r3_15 := (row_ext r3_14 e15)
        have r3_16 := (row_ext r3_15 e16)
        have r3_17 := (Keeps.row q17 r3_16 (nm_cons (ne_of_old r3_15 l160) nm_nil))
        refine seq_store g3 _ (ints .u8 (by16 (lev zs155))) 27 r3_17 rfl kj (run_store_row 27 _ _ g3 27 _ _ r3_17 rfl kj kj (isz (n := 16) kj ((ints_size _ _).trans (by16_len _))) (eqsz (n := 16) ((ints_size _ _).trans (List.length_replicate (n := 16))) ((ints_size _ _).trans (by16_len _))) (ints_one _ _)) fun W18 p18 r3_18 => ?_
        have x18 : Ext w W18 := Puts.ext p18 xx4 b3
        refine seq_nil ?_
        refine hK170 _ _ ?_
        try clear hK170 K170
        refine wp_ret ?_
        repeat (first | with_reducible refine goR1 ?_ | with_reducible refine goR2 ?_)
        exact (show bodyPost _ _ _ .ret _ _ from ret1 (.agg (ints .u8 (by16 (lev zs155)))) rfl (res_cell g3 27 _ r3_18 kj kj (isz (n := 16) kj ((ints_size _ _).trans (by16_len _)))) ⟨by unfold tagV; rw [hal], x18⟩)
      · skip
        have r160_17_171 : V4.heap[g160]? = some (.cells (ints .u8 (by16 (lev zs155))) 27) := row_eq q160_4 (by16_full hzb155 hi (.inl hq))
        refine region_lit ?_
        refine seq_val (.int .i64 ((i : Nat) : Int)) 95 rfl kj kj ?_
        refine seq_val (.bool false) 96 rfl kj (run_eq (u := .bool (decide (((i : Nat) : Int) < 16))) kj (congrArg Value.bool (decide_eq_false (by omega)))) ?_
        refine seq_val (.bool false) 97 rfl kj kj ?_
        refine seq_skip 98 rfl kj ?_
        refine seq_skip 99 rfl kj ?_
        refine seq_skip 100 rfl kj ?_
        refine seq_skip 101 rfl kj ?_
        refine seq_val (.bool false) 102 rfl kj kj ?_
        refine seq_nil ?_
        refine hK165 _ _ ?_
        try clear hK165 K165
        refine cond_false kj ?_
        refine wp_exit ?_
        refine hK161 _ _ ?_
        try clear hK161 K161
        refine wp_seq_k fun K172 hK172 => ?_
        refine region_lit ?_
        refine seq_val (.agg (ints .u8 (by16 (lev zs155)))) 112 rfl kj (run_load_row 27 _ g160 27 _ _ r160_17_171 rfl kj kj (isz (n := 16) kj ((ints_size _ _).trans (by16_len _)))) ?_
        have r3_3 := (row_ext r3_2 e3)
        have r3_4 := (Puts.row p4 r3_3 (ne_of_old r3_2 lr))
        have r3_5 := (Puts.row p5 r3_4 (ne_of_old r3_2 lr))
        have r3_6 := (Puts.row p6 r3_5 (ne_of_old r3_2 lr))
        have r3_7 := (Puts.row p7 r3_6 (ne_of_old r3_2 lr))
        have r3_8 := (Puts.row p8 r3_7 (ne_of_old r3_2 lr))
        have r3_9 := (Puts.row p9 r3_8 (ne_of_old r3_2 lr))
        have r3_10 := (Puts.row p10 r3_9 (ne_of_old r3_2 lr))
        have r3_11 := (row_ext r3_10 e11)
        have r3_12 := (row_ext r3_11 e12)
        have r3_13 := (row_ext r3_12 e13)
        have r3_14 := (row_ext r3_13 e14)
        have r3_15 := (row_ext r3_14 e15)
        have r3_16 := (row_ext r3_15 e16)
        have r3_17 := (Keeps.row q17 r3_16 (nm_cons (ne_of_old r3_15 l160) nm_nil))
        refine seq_store g3 _ (ints .u8 (by16 (lev zs155))) 27 r3_17 rfl kj (run_store_row 27 _ _ g3 27 _ _ r3_17 rfl kj kj (isz (n := 16) kj ((ints_size _ _).trans (by16_len _))) (eqsz (n := 16) ((ints_size _ _).trans (List.length_replicate (n := 16))) ((ints_size _ _).trans (by16_len _))) (ints_one _ _)) fun W18 p18 r3_18 => ?_
        have x18 : Ext w W18 := Puts.ext p18 xx4 b3
        refine seq_nil ?_
        refine hK172 _ _ ?_
        try clear hK172 K172
        refine wp_ret ?_
        repeat (first | with_reducible refine goR1 ?_ | with_reducible refine goR2 ?_)
        exact (show bodyPost _ _ _ .ret _ _ from ret1 (.agg (ints .u8 (by16 (lev zs155)))) rfl (res_cell g3 27 _ r3_18 kj kj (isz (n := 16) kj ((ints_size _ _).trans (by16_len _)))) ⟨by unfold tagV; rw [hal], x18⟩)

end Go.Proofs.YtjldjdlhllgakaaDoor.Ae
