/- kdf.Extract. -/
import Derived.Test.YtamlhbbphnamnaaDoorKdfD
namespace Go.Proofs.YtamlhbbphnamnaaDoor.Sha
open Go Go.RowKit
open Go.Proofs.YtamlhbbphnamnaaDoor.Rely Go.Proofs.YtamlhbbphnamnaaDoor.Auto Go.Proofs.YtamlhbbphnamnaaDoor.Own
set_option linter.unusedVariables false
set_option linter.unusedSimpArgs false

set_option maxHeartbeats 4000000 in
theorem extractC (salt text : List Int) (v1 v2 : Value) (B B2 : Nat) (tc tq : TypeId) (w : World) (hc : w.heap[1]? = some (.cells (ints .u64 cubesI) tc)) (hq : w.heap[0]? = some (.cells (ints .u64 squaresI) tq)) (hkl : salt.length ≤ 800000000) (htl : text.length ≤ 800000000) (hkb : AreBytes salt) (htb : AreBytes text) (hk : RdK .u8 B salt v1 w) (ht : RdK .u8 B2 text v2 w) : Calls Tryd.prog 17 #[v1, v2] w (Ret w (.agg (ints .u8 (hmac salt text)))) := by
  obtain ⟨a_salt, c_salt, rfl, -⟩ := id hk
  obtain ⟨a_text, c_text, rfl, -⟩ := id ht
  refine enter 9 [(0, .slice a_salt salt.length c_salt), (1, .slice a_text text.length c_text)] Tryd.func17 rfl rfl kj rfl ?_
  refine wp_seq_k fun K3 hK3 => ?_
  refine region_lit ?_
  refine seq_alloc (ints .u8 (List.replicate 32 0)) 26 4 rfl kj kj fun g4 W1 l4 e1 r4_1 => ?_
  have x1 : Ext w W1 := Ext.tr (Rely.Ext.refl w) e1
  have b4 : w.heap.size ≤ g4 := Nat.le_trans (Rely.Ext.refl w).size l4
  refine seq_nil ?_
  refine hK3 _ _ ?_
  try clear hK3 K3
  refine wp_seq_k fun K5 hK5 => ?_
  refine region_lit ?_
  refine seq_val (.slice a_salt salt.length c_salt) 5 rfl kj kj ?_
  refine seq_val (.slice a_text text.length c_text) 6 rfl kj kj ?_
  refine seq_makeS (#[.slice a_text text.length c_text]) 22 1 7 rfl kj kj fun g6 W2 l6 e2 r6_2 => ?_
  have x2 : Ext w W2 := Ext.tr x1 e2
  have b6 : w.heap.size ≤ g6 := Nat.le_trans x1.size l6
  have r1_1 := (row_ext hc e1)
  have r1_2 := (row_ext r1_1 e2)
  have r2_1 := (row_ext hq e1)
  have r2_2 := (row_ext r2_1 e2)
  have hps7 : ∀ p ∈ ([(.slice a_text text.length c_text, text)] : List (Value × List Int)), RdK .u8 W2.heap.size p.2 p.1 W2 ∧ AreBytes p.2 := by
    intro p hp
    simp only [List.mem_cons, List.not_mem_nil, or_false] at hp
    rcases hp with rfl
    · exact ⟨RdK.here (RdK.ext ht x2), htb⟩
  have htg7 := tagC (salt) (.slice a_salt salt.length c_salt) _ g6 1 _ ([(.slice a_text text.length c_text, text)] : List (Value × List Int)) rfl (by decide) tc tq W2 r1_2 r2_2 hkb (by omega) (RdK.ext hk x2) r6_2 hps7 (by simp only [List.map_cons, List.map_nil, List.flatten_cons, List.flatten_nil, List.append_nil, List.length_append]; omega)
  rw [show ((List.map Prod.snd ([(.slice a_text text.length c_text, text)] : List (Value × List Int))).flatten) = text by simp only [List.map_cons, List.map_nil, List.flatten_cons, List.flatten_nil, List.append_nil]] at htg7
  refine seq_call (.agg (ints .u8 (hmac (salt) (text)))) 15 #[.slice a_salt salt.length c_salt, .slice (some ⟨g6, 0, none⟩) 1 1] 8 rfl kj kj htg7 fun W3 e3 => ?_
  have x3 : Ext w W3 := Ext.tr x2 e3
  have r4_2 := (row_ext r4_1 e2)
  have r4_3 := (row_ext r4_2 e3)
  refine seq_store g4 _ (ints .u8 (hmac (salt) (text))) 26 r4_3 rfl kj (run_store_row 26 _ _ g4 26 _ _ r4_3 rfl kj kj (isz (n := 32) kj ((ints_size _ _).trans (hmac_len _ _))) (eqsz (n := 32) ((ints_size _ _).trans (List.length_replicate (n := 32))) ((ints_size _ _).trans (hmac_len _ _))) (ints_one _ _)) fun W4 p4 r4_4 => ?_
  have x4 : Ext w W4 := Puts.ext p4 x3 b4
  refine seq_nil ?_
  refine hK5 _ _ ?_
  try clear hK5 K5
  refine wp_ret ?_
  repeat (first | with_reducible refine goR1 ?_ | with_reducible refine goR2 ?_)
  exact (show bodyPost _ _ _ .ret _ _ from ret1 (.agg (ints .u8 (hmac (salt) (text)))) rfl (res_cell g4 26 _ r4_4 kj kj (isz (n := 32) kj ((ints_size _ _).trans (hmac_len _ _)))) ⟨rfl, x4⟩)

end Go.Proofs.YtamlhbbphnamnaaDoor.Sha
