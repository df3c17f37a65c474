/- The iterator of the tags. -/
import Derived.Test.YtamlhbbphnamnaaDoorAutoH
import Derived.Test.YtamlhbbphnamnaaDoorRexA
namespace Go.Proofs.YtamlhbbphnamnaaDoor.Sha
open Go Go.RowKit
open Go.Proofs.YtamlhbbphnamnaaDoor.Rely Go.Proofs.YtamlhbbphnamnaaDoor.Auto Go.Proofs.YtamlhbbphnamnaaDoor.Own
set_option linter.unusedVariables false
set_option linter.unusedSimpArgs false

set_option maxHeartbeats 4000000 in
theorem tags_stops (m : Nat) (gs : List Nat) (g1 g2 B : Nat) (key info : List Int) (a_key a_info : Option Addr) (c_key c_info : Nat) (tc tq : TypeId) (w : World) (hkl : key.length ≤ 800000000) (hil : info.length ≤ 700000000) (hkb : AreBytes key) (hib : AreBytes info)
    (hBw : B ≤ w.heap.size) (hgs : ∀ c ∈ gs, B ≤ c) (hgl : ∀ c ∈ gs, c < w.heap.size) (hkw : RdK .u8 B key (.slice a_key key.length c_key) w) (hiw : RdK .u8 B info (.slice a_info info.length c_info) w)
    (hcw : w.heap[1]? = some (.cells (ints .u64 cubesI) tc)) (hqw : w.heap[0]? = some (.cells (ints .u64 squaresI) tq)) (r1w : w.heap[g1]? = some (.cells #[.slice a_key key.length c_key] 22)) (r2w : w.heap[g2]? = some (.cells #[.slice a_info info.length c_info] 22)) (n1 : g1 ∉ gs) (n2 : g2 ∉ gs) (nc : 1 ∉ gs) (nq : 0 ∉ gs) :
    SeqStopsK Fence.wide m Tryd.prog 59 #[.pointer (some ⟨g1, 0, none⟩), .pointer (some ⟨g2, 0, none⟩)] (fun i : Nat => #[Value.agg (ints .u8 (tg key info (i + 1)))]) (KeepC gs) (fun ys => ys = List.range 255) (fun ys => ∃ k, ys = List.range k ∧ k ≤ 255) 256 w := fun l J Jx Wi hW hJ hJx hY h0 => by
  refine callsIn_wide.2 ?_
  have hwi := hW.size
  have hBi : B ≤ Wi.heap.size := Nat.le_trans hBw hwi
  have hk := hkw.ext hW
  have hi := hiw.ext hW
  have hc := row_ext hcw hW
  have hq := row_ext hqw hW
  have r1 := row_ext r1w hW
  have r2 := row_ext r2w hW
  refine enter 24 [(0, .func (.yield l) #[] #[]), (1, .pointer (some ⟨g1, 0, none⟩)), (2, .pointer (some ⟨g2, 0, none⟩))] Tryd.func59 rfl rfl kj rfl ?_
  refine wp_seq_k fun K5 hK5 => ?_
  refine region_lit ?_
  refine seq_val (.slice none 0 0) 4 rfl kj kj ?_
  refine seq_nil ?_
  refine hK5 _ _ ?_
  try clear hK5 K5
  refine wp_seq_k fun K6 hK6 => ?_
  refine region_lit ?_
  refine seq_val (.int .i64 1) 5 rfl kj kj ?_
  refine seq_nil ?_
  refine hK6 _ _ ?_
  try clear hK6 K6
  refine wp_block ?_
  refine loop_auto (fun (s1 : Nat × Value) => [(0, .func (.yield l) #[] #[]), (1, .pointer (some ⟨g1, 0, none⟩)), (2, .pointer (some ⟨g2, 0, none⟩)), (4, s1.2), (5, .int .i64 ((s1.1 + 1 : Nat) : Int))]) (fun (s1 : Nat × Value) W => (s1.1 ≤ 255) ∧ (J (List.range s1.1) W) ∧ (W.heap[g1]? = some (.cells #[.slice a_key key.length c_key] 22)) ∧ (W.heap[g2]? = some (.cells #[.slice a_info info.length c_info] 22)) ∧ (W.heap[1]? = some (.cells (ints .u64 cubesI) tc)) ∧ (W.heap[0]? = some (.cells (ints .u64 squaresI) tq)) ∧ (RdK .u8 B key (.slice a_key key.length c_key) W) ∧ (RdK .u8 B info (.slice a_info info.length c_info) W) ∧ (OwnN .u8 26 Wi.heap.size (tg key info s1.1) s1.2 W) ∧ (Grew Wi W)) (fun (s1 : Nat × Value) => 255 - s1.1) (0, (.slice none 0 0)) ⟨rfl, rfl, rfl, rfl, rfl, trivial⟩ ⟨(by decide), (show J (List.range 0) _ from h0), r1, r2, hc, hq, hk, hi, (ownN_nil _ _ _ _), (Grew.refl Wi)⟩ fun s1 X1 V1 hI1 => ?_
  obtain ⟨k, v⟩ := s1
  obtain ⟨hkl_, hJ1, rr1, rr2, rrc, rrq, hk1, hi1, hv, xx1⟩ := hI1
  replace hkl_ : k ≤ 255 := hkl_
  replace hJ1 : J (List.range k) V1 := hJ1
  replace rr1 : V1.heap[g1]? = some (.cells #[.slice a_key key.length c_key] 22) := rr1
  replace rr2 : V1.heap[g2]? = some (.cells #[.slice a_info info.length c_info] 22) := rr2
  replace rrc : V1.heap[1]? = some (.cells (ints .u64 cubesI) tc) := rrc
  replace rrq : V1.heap[0]? = some (.cells (ints .u64 squaresI) tq) := rrq
  replace hk1 : RdK .u8 B key (.slice a_key key.length c_key) V1 := hk1
  replace hi1 : RdK .u8 B info (.slice a_info info.length c_info) V1 := hi1
  replace hv : OwnN .u8 26 Wi.heap.size (tg key info k) v V1 := hv
  replace xx1 : Grew Wi V1 := xx1
  obtain ⟨a4, c4, rfl, -⟩ := id (OwnN.rd hv)
  refine wp_seq_k fun K7 hK7 => ?_
  refine wp_seq_k fun K8 hK8 => ?_
  refine region_lit ?_
  refine seq_val (.int .i64 ((k + 1 : Nat) : Int)) 7 rfl kj kj ?_
  refine seq_val (.bool (decide (((k + 1 : Nat) : Int) ≤ 255))) 8 rfl kj kj ?_
  refine seq_nil ?_
  refine hK8 _ _ ?_
  try clear hK8 K8
  refine cond_split (t := decide (((k + 1 : Nat) : Int) ≤ 255)) kj (fun c9 => ?_) (fun c9 => ?_)
  · skip
    have hlt : k + 1 ≤ 255 := by have := of_decide_eq_true c9; omega
    have htl := tg_le key info k
    have hl1 : [((k + 1 : Nat) : Int)].length = 1 := rfl
    refine wp_skip ?_
    refine hK7 _ _ ?_
    try clear hK7 K7
    refine wp_seq_k fun K10 hK10 => ?_
    refine wp_block ?_
    refine wp_seq_k fun K11 hK11 => ?_
    refine region_lit ?_
    refine seq_val (.slice a_key key.length c_key) 11 rfl kj (run_loadC1 22 _ g1 0 22 _ (.slice a_key key.length c_key) _ rr1 rfl kj kj kj) ?_
    refine seq_val (.slice a4 ((tg key info k).length) c4) 12 rfl kj kj ?_
    refine seq_val (.slice a_info info.length c_info) 13 rfl kj (run_loadC1 22 _ g2 0 22 _ (.slice a_info info.length c_info) _ rr2 rfl kj kj kj) ?_
    refine seq_val (.int .i64 ((k + 1 : Nat) : Int)) 14 rfl kj kj ?_
    refine seq_val (.int .u8 (((k + 1 : Nat) : Int))) 15 rfl kj (run_eq (u := .int .u8 (IntKind.u8.wrap ((k + 1 : Nat) : Int))) kj (congrArg (Value.int .u8) (u8_n _ (by omega)))) ?_
    refine seq_makeS (ints .u8 ([(((k + 1 : Nat) : Int))])) 5 1 16 rfl kj kj fun g12 W2 l12 e2 r12_2 => ?_
    have x2 : Grew Wi W2 := Grew.ext xx1 e2
    have b12 : Wi.heap.size ≤ g12 := Nat.le_trans xx1.size l12
    refine seq_makeS (#[.slice a4 ((tg key info k).length) c4, .slice a_info info.length c_info, .slice (some ⟨g12, 0, none⟩) 1 1]) 22 3 17 rfl kj kj fun g13 W3 l13 e3 r13_3 => ?_
    have x3 : Grew Wi W3 := Grew.ext x2 e3
    have b13 : Wi.heap.size ≤ g13 := Nat.le_trans x2.size l13
    have f15_2 := (hk1.ext e2)
    have f16_3 := (f15_2.ext e3)
    have f17_2 := (hv.ext e2)
    have f18_3 := (f17_2.ext e3)
    have f19_2 := (hi1.ext e2)
    have f20_3 := (f19_2.ext e3)
    have r12_3 := (row_ext r12_2 e3)
    have r1_2 := (row_ext rrc e2)
    have r1_3 := (row_ext r1_2 e3)
    have r2_2 := (row_ext rrq e2)
    have r2_3 := (row_ext r2_2 e3)
    have hps14 : ∀ p ∈ ([(.slice a4 ((tg key info k).length) c4, tg key info k), (.slice a_info info.length c_info, info), (.slice (some ⟨g12, 0, none⟩) 1 1, [(((k + 1 : Nat) : Int))])] : List (Value × List Int)), RdK .u8 W3.heap.size p.2 p.1 W3 ∧ AreBytes p.2 := by
      intro p hp
      simp only [List.mem_cons, List.not_mem_nil, or_false] at hp
      rcases hp with rfl | rfl | rfl
      · exact ⟨RdK.here (OwnN.rd f18_3), (tg_bytes _ _ _)⟩
      · exact ⟨RdK.here f20_3, hib⟩
      · exact ⟨RdK.here (rdK_ints (xs := [(((k + 1 : Nat) : Int))]) (n := 1) rfl r12_3 (row_lt r12_3) (show 1 ≤ maxLen from by decide)), (fun x hx => by rw [List.mem_singleton] at hx; subst hx; omega)⟩
    have htg14 := tagC (key) (.slice a_key key.length c_key) _ g13 3 _ ([(.slice a4 ((tg key info k).length) c4, tg key info k), (.slice a_info info.length c_info, info), (.slice (some ⟨g12, 0, none⟩) 1 1, [(((k + 1 : Nat) : Int))])] : List (Value × List Int)) rfl (by decide) tc tq W3 r1_3 r2_3 hkb (by omega) f16_3 r13_3 hps14 (by simp only [List.map_cons, List.map_nil, List.flatten_cons, List.flatten_nil, List.append_nil, List.length_append]; omega)
    rw [show ((List.map Prod.snd ([(.slice a4 ((tg key info k).length) c4, tg key info k), (.slice a_info info.length c_info, info), (.slice (some ⟨g12, 0, none⟩) 1 1, [(((k + 1 : Nat) : Int))])] : List (Value × List Int))).flatten) = (tg key info k) ++ info ++ ([(((k + 1 : Nat) : Int))]) by simp only [List.map_cons, List.map_nil, List.flatten_cons, List.flatten_nil, List.append_nil, List.append_assoc]] at htg14
    refine seq_call (.agg (ints .u8 (hmac (key) ((tg key info k) ++ info ++ ([(((k + 1 : Nat) : Int))]))))) 15 #[.slice a_key key.length c_key, .slice (some ⟨g13, 0, none⟩) 3 3] 18 rfl kj kj htg14 fun W4 e4 => ?_
    have x4 : Grew Wi W4 := Grew.ext x3 e4
    refine seq_alloc (ints .u8 (List.replicate 32 0)) 26 6 rfl kj kj fun g21 W5 l21 e5 r21_5 => ?_
    have x5 : Grew Wi W5 := Grew.ext x4 e5
    have b21 : Wi.heap.size ≤ g21 := Nat.le_trans x4.size l21
    refine seq_store g21 _ (ints .u8 (hmac (key) ((tg key info k) ++ info ++ ([(((k + 1 : Nat) : Int))])))) 26 r21_5 rfl kj (run_store_row 26 _ _ g21 26 _ _ r21_5 rfl kj kj (isz (n := 32) kj ((ints_size _ _).trans (hmac_len _ _))) (eqsz (n := 32) ((ints_size _ _).trans (List.length_replicate (n := 32))) ((ints_size _ _).trans (hmac_len _ _))) (ints_one _ _)) fun W6 p6 r21_6 => ?_
    have x6 : Grew Wi W6 := Grew.puts x5 p6
    have r21_6_22 : W6.heap[g21]? = some (.cells (ints .u8 (tg key info (k + 1))) 26) := row_eq r21_6 rfl
    refine seq_nil ?_
    refine hK11 _ _ ?_
    try clear hK11 K11
    refine wp_seq_k fun K23 hK23 => ?_
    refine wp_seq_k fun K24 hK24 => ?_
    refine (wpIn_wide (n := m)).1 ?_
    refine region_litIn ?_
    refine in_val (.func (.yield l) #[] #[]) 19 rfl (free_wide0 _ _) rfl kj kj ?_
    refine in_val (.agg (ints .u8 (tg key info (k + 1)))) 20 rfl (free_wide0 _ _) rfl kj (run_load_row 26 _ g21 26 _ _ r21_6_22 rfl kj kj (isz (n := 32) kj ((ints_size _ _).trans (hmac_len _ _)))) ?_
    have y1_2 : Ext V1 W2 := (Rely.Ext.trans (Rely.Ext.refl V1) e2)
    have y1_3 : Ext V1 W3 := (Rely.Ext.trans y1_2 e3)
    have y1_4 : Ext V1 W4 := (Rely.Ext.trans y1_3 e4)
    have y1_5 : Ext V1 W5 := (Rely.Ext.trans y1_4 e5)
    have y1_6 : Ext V1 W6 := (Puts.ext p6 y1_5 (Nat.le_trans y1_4.size l21))
    have f26_6 := abides_ext hJ hJ1 y1_6
    refine in_yield (m := m) (l := l) (args := #[.agg (ints .u8 (tg key info (k + 1)))]) 21 rfl rfl kj kj (hY (List.range k) k W6 f26_6 (by rw [List.length_range]; omega)) (fun W' hA => ?_) (fun W' hA => ?_)
    · skip
      obtain ⟨W7, hW7⟩ : ∃ z, z = W' := ⟨_, rfl⟩
      rw [← hW7] at hA ⊢
      obtain ⟨hj25, hk25⟩ := hA
      have x7 : Grew Wi W7 := Grew.keepC x6 hk25
      refine in_val (.bool false) 22 rfl (free_wide0 _ _) rfl kj kj ?_
      refine in_nil ?_
      refine hK24 _ _ ?_
      try clear hK24 K24
      refine cond_false kj ?_
      refine wp_skip ?_
      refine hK23 _ _ ?_
      try clear hK23 K23
      refine region_lit ?_
      refine seq_val (.slice (some ⟨g21, 0, none⟩) 32 32) 23 rfl kj kj ?_
      refine seq_val (.slice (some ⟨g21, 0, none⟩) 32 32) 4 rfl kj kj ?_
      refine seq_nil ?_
      refine hK10 _ _ ?_
      try clear hK10 K10
      refine region_lit ?_
      refine seq_val (.int .i64 ((k + 1 : Nat) : Int)) 9 rfl kj kj ?_
      refine seq_val (.int .i64 (((k + 1) + 1 : Nat) : Int)) 10 rfl kj (run_eq (u := .int .i64 (IntKind.i64.wrap (((k + 1 : Nat) : Int) + 1))) kj (congrArg (Value.int .i64) (i64n _ _ (by omega) (by omega)))) ?_
      refine seq_val (.int .i64 (((k + 1) + 1 : Nat) : Int)) 5 rfl kj kj ?_
      refine seq_nil ?_
      have r3_2 := (row_ext rr1 e2)
      have r3_3 := (row_ext r3_2 e3)
      have r3_4 := (row_ext r3_3 e4)
      have r3_5 := (row_ext r3_4 e5)
      have r3_6 := (Puts.row p6 r3_5 (ne_of_old r3_4 l21))
      have r3_7 := (KeepC.row hk25 r3_6 n1)
      have r4_2 := (row_ext rr2 e2)
      have r4_3 := (row_ext r4_2 e3)
      have r4_4 := (row_ext r4_3 e4)
      have r4_5 := (row_ext r4_4 e5)
      have r4_6 := (Puts.row p6 r4_5 (ne_of_old r4_4 l21))
      have r4_7 := (KeepC.row hk25 r4_6 n2)
      have r1_4 := (row_ext r1_3 e4)
      have r1_5 := (row_ext r1_4 e5)
      have r1_6 := (Puts.row p6 r1_5 (ne_of_old r1_4 l21))
      have r1_7 := (KeepC.row hk25 r1_6 nc)
      have r2_4 := (row_ext r2_3 e4)
      have r2_5 := (row_ext r2_4 e5)
      have r2_6 := (Puts.row p6 r2_5 (ne_of_old r2_4 l21))
      have r2_7 := (KeepC.row hk25 r2_6 nq)
      have f27_4 := (f16_3.ext e4)
      have f28_5 := (f27_4.ext e5)
      have f29_6 := (f28_5.puts p6 (Nat.le_trans hBi b21))
      have f30_7 := (RdK.keepC f29_6 hk25 hgs)
      have f31_4 := (f20_3.ext e4)
      have f32_5 := (f31_4.ext e5)
      have f33_6 := (f32_5.puts p6 (Nat.le_trans hBi b21))
      have f34_7 := (RdK.keepC f33_6 hk25 hgs)
      have r21_7 := (KeepC.row hk25 r21_6_22 (fun hm => by have h1 := hgl _ hm; have h2 := b21; omega))
      repeat (first | with_reducible refine goX1 ?_ | with_reducible refine goX2 ?_ | with_reducible refine goX3 ?_)
      exact goes_then ((k + 1), .slice (some ⟨g21, 0, none⟩) 32 32) ⟨rfl, rfl, rfl, rfl, rfl, trivial⟩ ⟨(by omega), (by rw [List.range_succ]; exact hj25), r3_7, r4_7, r1_7, r2_7, f30_7, f34_7, (ownN_row (xs := tg key info (k + 1)) (hmac_len _ _) b21 r21_7 (by decide)), x7⟩ (by show 255 - (k + 1) < 255 - k; omega)
    · skip
      obtain ⟨W7, hW7⟩ : ∃ z, z = W' := ⟨_, rfl⟩
      rw [← hW7] at hA ⊢
      refine in_val (.bool true) 22 rfl (free_wide0 _ _) rfl kj kj ?_
      refine in_nil ?_
      refine hK24 _ _ ?_
      try clear hK24 K24
      refine cond_true kj ?_
      refine wp_ret ?_
      repeat (first | with_reducible refine goR1 ?_ | with_reducible refine goR2 ?_)
      exact (show bodyPost _ _ _ .ret _ _ from ret0 rfl ⟨⟨_, rfl⟩, .inr ⟨_, ⟨k + 1, List.range_succ.symm, hlt⟩, hA⟩⟩)
  · skip
    have hke : k = 255 := by have := of_decide_eq_false c9; omega
    refine wp_exit ?_
    repeat (first | with_reducible refine goX1 ?_ | with_reducible refine goX2 ?_ | with_reducible refine goX3 ?_)
    exact (show bodyPost _ _ _ .normal _ _ from end0 rfl ⟨⟨_, rfl⟩, .inl ⟨_, congrArg List.range hke, hJ1⟩⟩)

end Go.Proofs.YtamlhbbphnamnaaDoor.Sha
