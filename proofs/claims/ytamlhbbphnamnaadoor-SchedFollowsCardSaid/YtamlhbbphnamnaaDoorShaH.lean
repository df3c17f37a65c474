/- SHA-256: the digest of parts. -/
import Derived.Test.YtamlhbbphnamnaaDoorShaG
namespace Go.Proofs.YtamlhbbphnamnaaDoor.Sha
open Go Go.RowKit
open Go.Proofs.YtamlhbbphnamnaaDoor.Rely Go.Proofs.YtamlhbbphnamnaaDoor.Auto Go.Proofs.YtamlhbbphnamnaaDoor.Own
set_option linter.unusedVariables false
set_option linter.unusedSimpArgs false

def pat (ps : List (Value × List Int)) (i : Nat) : Value × List Int := ps.getD i (undef, [])
def flat (ps : List (Value × List Int)) (i : Nat) : List Int := ((ps.take i).map Prod.snd).flatten
theorem pat_eq {ps : List (Value × List Int)} {i : Nat} (h : i < ps.length) : pat ps i = ps[i] := by simp [pat, h]
theorem pat_mem {ps : List (Value × List Int)} {i : Nat} (h : i < ps.length) : pat ps i ∈ ps := by rw [pat_eq h]; exact List.getElem_mem h
theorem ps_get {ps : List (Value × List Int)} {i : Nat} (h : i < ps.length) : (ps.map Prod.fst).toArray[i]? = some (pat ps i).1 := by
  rw [pat_eq h]; simp [h]
theorem flat_succ {ps : List (Value × List Int)} {i : Nat} (h : i < ps.length) : flat ps (i + 1) = flat ps i ++ (pat ps i).2 := by
  unfold flat
  rw [List.take_add_one, List.getElem?_eq_getElem h, pat_eq h, List.map_append, List.flatten_append]
  show _ ++ [ps[i].2].flatten = _
  rw [List.flatten_singleton]
theorem flat_full {ps : List (Value × List Int)} {n : Nat} (h : ps.length = n) : flat ps n = (ps.map Prod.snd).flatten := by
  subst h; simp [flat]
theorem flat_le {ps : List (Value × List Int)} {i : Nat} (h : i < ps.length) : (flat ps i).length + (pat ps i).2.length ≤ ((ps.map Prod.snd).flatten).length := by
  have e : (flat ps (i + 1)).length = (flat ps i).length + (pat ps i).2.length := by rw [flat_succ h, List.length_append]
  rw [← e]
  have : (ps.map Prod.snd).flatten = flat ps (i + 1) ++ ((ps.drop (i + 1)).map Prod.snd).flatten := by
    unfold flat
    rw [← List.flatten_append, ← List.map_append, List.take_append_drop]
  rw [this, List.length_append]; omega
theorem out_len (s : S8) : s.out.length = 32 := rfl
theorem dig_len (t : List Int) : (dig t).length = 32 := out_len _
set_option maxHeartbeats 4000000 in
theorem shortC (gp n : Nat) (Tp : TypeId) (ps : List (Value × List Int)) (hn : ps.length = n) (hn9 : n ≤ 1000000) (tc tq : TypeId) (w : World) (hc : w.heap[1]? = some (.cells (ints .u64 cubesI) tc)) (hq : w.heap[0]? = some (.cells (ints .u64 squaresI) tq)) (hrow : w.heap[gp]? = some (.cells (ps.map Prod.fst).toArray Tp)) (hps : ∀ p ∈ ps, RdK .u8 w.heap.size p.2 p.1 w ∧ AreBytes p.2) (hlen : ((ps.map Prod.snd).flatten).length ≤ 900000000) : Calls Tryd.prog 26 #[.slice (some ⟨gp, 0, none⟩) n n] w (Ret w (.agg (ints .u8 (dig ((ps.map Prod.snd).flatten))))) := by
  refine enter 19 [(0, .slice (some ⟨gp, 0, none⟩) n n)] Tryd.func26 rfl rfl kj rfl ?_
  refine wp_seq_k fun K4 hK4 => ?_
  refine region_lit ?_
  refine seq_alloc (ints .u8 (List.replicate 32 0)) 26 2 rfl kj kj fun g5 W1 l5 e1 r5_1 => ?_
  have x1 : Ext w W1 := Ext.tr (Rely.Ext.refl w) e1
  have b5 : w.heap.size ≤ g5 := Nat.le_trans (Rely.Ext.refl w).size l5
  refine seq_nil ?_
  refine hK4 _ _ ?_
  try clear hK4 K4
  refine wp_seq_k fun K6 hK6 => ?_
  refine region_lit ?_
  have r2_1 := (row_ext hq e1)
  refine seq_callR (fun v W' => (fun v W => ∃ g, v = .pointer (some ⟨g, 0, none⟩) ∧ W1.heap.size ≤ g ∧ HasD g [] W) v W' ∧ Ext W1 W') 41 #[] 6 rfl kj kj ((newC tq _ r2_1).mono (by rintro e w' ⟨v, rfl, e1, hv⟩; exact ⟨v, rfl, hv, e1⟩)) fun vv7 W2 hh7 => ?_
  obtain ⟨hv7, e2⟩ := hh7
  have x2 : Ext w W2 := Ext.tr x1 e2
  obtain ⟨gd8, rfl, ld8, hD8⟩ := hv7
  have b8 : w.heap.size ≤ gd8 := Nat.le_trans x1.size ld8
  refine seq_val (.pointer (some ⟨gd8, 0, none⟩)) 3 rfl kj kj ?_
  refine seq_nil ?_
  refine hK6 _ _ ?_
  try clear hK6 K6
  refine wp_seq_k fun K9 hK9 => ?_
  refine wp_seq_k fun K10 hK10 => ?_
  refine region_lit ?_
  refine seq_val (.slice (some ⟨gp, 0, none⟩) n n) 7 rfl kj kj ?_
  refine seq_val (.int .i64 ((n : Nat) : Int)) 8 rfl kj kj ?_
  refine seq_val (.int .i64 0) 9 rfl kj kj ?_
  refine seq_nil ?_
  refine hK10 _ _ ?_
  try clear hK10 K10
  refine wp_block ?_
  refine loop_auto (fun (s1 : Nat) => [(7, .slice (some ⟨gp, 0, none⟩) n n), (8, .int .i64 ((n : Nat) : Int)), (9, .int .i64 ((s1 : Nat) : Int)), (3, .pointer (some ⟨gd8, 0, none⟩)), (2, .pointer (some ⟨g5, 0, none⟩))]) (fun (s1 : Nat) W => (s1 ≤ n) ∧ (HasD gd8 (flat ps s1) W) ∧ (Keeps [gd8] W2 W) ∧ (Ext w W)) (fun (s1 : Nat) => n - s1) 0 ⟨rfl, rfl, rfl, rfl, rfl, trivial⟩ ⟨(Nat.zero_le _), (show HasD _ (flat ps 0) _ from hD8), (Keeps.refl [gd8] W2), x2⟩ fun s1 X1 V1 hI1 => ?_
  obtain ⟨i, hs1⟩ : ∃ z, z = s1 := ⟨_, rfl⟩
  subst hs1
  obtain ⟨hi, hDi, kk1, xx1⟩ := hI1
  replace hi : i ≤ n := hi
  replace hDi : HasD gd8 (flat ps i) V1 := hDi
  replace kk1 : Keeps [gd8] W2 V1 := kk1
  replace xx1 : Ext w V1 := xx1
  have q3 := kk1
  refine wp_seq_k fun K11 hK11 => ?_
  refine region_lit ?_
  refine seq_val (.bool (decide (((i : Nat) : Int) < ((n : Nat) : Int)))) 10 rfl kj kj ?_
  refine seq_nil ?_
  refine hK11 _ _ ?_
  try clear hK11 K11
  refine wp_seq_k fun K12 hK12 => ?_
  refine cond_split (t := decide (((i : Nat) : Int) < ((n : Nat) : Int))) kj (fun c13 => ?_) (fun c13 => ?_)
  · skip
    have hlt10 : i < n := by have := of_decide_eq_true c13; omega
    refine wp_skip ?_
    refine hK12 _ _ ?_
    try clear hK12 K12
    refine wp_seq_k fun K14 hK14 => ?_
    refine wp_block ?_
    refine wp_seq_k fun K15 hK15 => ?_
    refine region_lit ?_
    have hi2 : i < ps.length := by omega
    refine seq_val (.pointer (some ⟨gp, i, none⟩)) 11 rfl kj (run_indexS0 40 _ _ .i64 i gp n n 22 rfl kj kj kj kj hlt10) ?_
    have r3_1 := (row_ext hrow e1)
    have r3_2 := (row_ext r3_1 e2)
    have r3_3 := (Keeps.row q3 r3_2 (nm_cons (ne_of_old r3_1 ld8) nm_nil))
    refine seq_val ((pat ps i).1) 12 rfl kj (run_loadCell 22 _ _ ((pat ps i).1) (row_cell r3_3 (ps_get hi2)) rfl kj kj) ?_
    refine seq_val ((pat ps i).1) 5 rfl kj kj ?_
    refine seq_nil ?_
    refine hK15 _ _ ?_
    try clear hK15 K15
    refine region_lit ?_
    refine seq_val (.pointer (some ⟨gd8, 0, none⟩)) 13 rfl kj kj ?_
    refine seq_val ((pat ps i).1) 14 rfl kj kj ?_
    have r1_1 := (row_ext hc e1)
    have r1_2 := (row_ext r1_1 e2)
    have r1_3 := (Keeps.row q3 r1_2 (nm_cons (ne_of_old r1_1 ld8) nm_nil))
    have hp6 := (hps _ (pat_mem hi2)).1.ext xx1
    have hl6 := flat_le hi2
    refine seq_callR (fun v W' => v = .tuple #[] ∧ ExtB gd8 V1 W' ∧ HasD gd8 ((flat ps i) ++ (pat ps i).2) W') 42 #[.pointer (some ⟨gd8, 0, none⟩), (pat ps i).1] 15 rfl kj kj ((addC gd8 _ _ _ _ tc _ r1_3 (Nat.ne_of_lt (Nat.lt_of_lt_of_le (row_lt hc) b8)) (hp6.nb b8) (hps _ (pat_mem hi2)).2 (by omega) hDi hp6).mono fun e w' h => ⟨_, h.1, rfl, h.2⟩) fun v W4 h => ?_
    obtain ⟨rfl, q4, hDn⟩ := h
    have x4 : Ext w W4 := ExtB.up xx1 q4 b8
    refine seq_nil ?_
    refine hK14 _ _ ?_
    try clear hK14 K14
    refine region_lit ?_
    refine seq_val (.int .i64 ((i + 1 : Nat) : Int)) 16 rfl kj (run_eq (u := .int .i64 (IntKind.i64.wrap (((i : Nat) : Int) + 1))) kj (congrArg (Value.int .i64) (i64n _ _ (by omega) (by omega)))) ?_
    refine seq_val (.int .i64 ((i + 1 : Nat) : Int)) 9 rfl kj kj ?_
    refine seq_nil ?_
    repeat (first | with_reducible refine goX1 ?_ | with_reducible refine goX2 ?_ | with_reducible refine goX3 ?_)
    exact goes_then (i + 1) ⟨rfl, rfl, rfl, rfl, rfl, trivial⟩ ⟨(by omega), (by rw [flat_succ hi2]; exact hDn), (Keeps.but q3 q4 (.inl (by simp))), x4⟩ (by omega)
  · skip
    have heq10 : i = n := by have := of_decide_eq_false c13; omega
    refine wp_exit ?_
    refine hK9 _ _ ?_
    try clear hK9 K9
    refine wp_seq_k fun K16 hK16 => ?_
    refine region_lit ?_
    refine seq_val (.pointer (some ⟨gd8, 0, none⟩)) 17 rfl kj kj ?_
    have r1_1 := (row_ext hc e1)
    have r1_2 := (row_ext r1_1 e2)
    have r1_3 := (Keeps.row q3 r1_2 (nm_cons (ne_of_old r1_1 ld8) nm_nil))
    refine seq_call (.agg (ints .u8 (dig (flat ps i)))) 43 #[.pointer (some ⟨gd8, 0, none⟩)] 18 rfl kj kj (sumC gd8 _ tc _ r1_3 (by rw [heq10, flat_full hn]; exact hlen) hDi) fun W4 e4 => ?_
    have x4 : Ext w W4 := Ext.tr xx1 e4
    have r5_2 := (row_ext r5_1 e2)
    have r5_3 := (Keeps.row q3 r5_2 (nm_cons (ne_of_old r5_1 ld8) nm_nil))
    have r5_4 := (row_ext r5_3 e4)
    refine seq_store g5 _ (ints .u8 (dig (flat ps i))) 26 r5_4 rfl kj (run_store_row 26 _ _ g5 26 _ _ r5_4 rfl kj kj (isz (n := 32) kj ((ints_size _ _).trans (dig_len _))) (eqsz (n := 32) ((ints_size _ _).trans (List.length_replicate (n := 32))) ((ints_size _ _).trans (dig_len _))) (ints_one _ _)) fun W5 p5 r5_5 => ?_
    have x5 : Ext w W5 := Puts.ext p5 x4 b5
    refine seq_nil ?_
    refine hK16 _ _ ?_
    try clear hK16 K16
    refine wp_ret ?_
    repeat (first | with_reducible refine goR1 ?_ | with_reducible refine goR2 ?_)
    exact (show bodyPost _ _ _ .ret _ _ from ret1 (.agg (ints .u8 (dig (flat ps i)))) rfl (res_cell g5 26 _ r5_5 kj kj (isz (n := 32) kj ((ints_size _ _).trans (dig_len _)))) ⟨by rw [heq10, flat_full hn], x5⟩)

end Go.Proofs.YtamlhbbphnamnaaDoor.Sha
