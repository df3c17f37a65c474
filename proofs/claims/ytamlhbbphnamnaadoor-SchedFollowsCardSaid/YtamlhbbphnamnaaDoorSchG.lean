/- The key schedule: the law SchedContexts. -/
import Derived.Test.YtamlhbbphnamnaaDoorSchF
namespace Go.Proofs.YtamlhbbphnamnaaDoor.Sha
open Go Go.RowKit
open Go.Proofs.YtamlhbbphnamnaaDoor.Rely Go.Proofs.YtamlhbbphnamnaaDoor.Auto Go.Proofs.YtamlhbbphnamnaaDoor.Own
set_option linter.unusedVariables false
set_option linter.unusedSimpArgs false

theorem cat_stB (A C D : List Value) (x : Value) : (A ++ [x] ++ C ++ D).toArray = cat [A.toArray, #[x], C.toArray, D.toArray] := by
  apply Array.ext'
  simp [cat]
set_option maxHeartbeats 4000000 in
theorem lawCtx (g t c : List Int) (e : Int) (tc tq : TypeId) (w : World) (hc : w.heap[1]? = some (.cells (ints .u64 cubesI) tc)) (hq : w.heap[0]? = some (.cells (ints .u64 squaresI) tq)) (hgl : g.length = 32) (htl : t.length = 32) (hcl : c.length = 32) (hgb : AreBytes g) (htb : AreBytes t) (hcb : AreBytes c) : Calls Tryd.prog 8 #[.agg (cat [ints .u8 g, #[.int .i64 e], ints .u8 t, ints .u8 c])] w (Ret w (.bool true)) := by
  refine enter 25 [(0, .agg (cat [ints .u8 (g), #[.int .i64 e], ints .u8 (t), ints .u8 (c)]))] Tryd.func8 rfl rfl kj rfl ?_
  refine wp_seq_k fun K3 hK3 => ?_
  refine region_lit ?_
  refine seq_alloc (cat [ints .u8 (g), #[.int .i64 e], ints .u8 (t), ints .u8 (c)]) 52 1 rfl kj kj fun g4 W1 l4 e1 r4_1 => ?_
  have x1 : Ext w W1 := Ext.tr (Rely.Ext.refl w) e1
  have b4 : w.heap.size ≤ g4 := Nat.le_trans (Rely.Ext.refl w).size l4
  refine seq_val (.bool false) 2 rfl kj kj ?_
  refine seq_nil ?_
  refine hK3 _ _ ?_
  try clear hK3 K3
  refine wp_seq_k fun K5 hK5 => ?_
  refine any_regionE 20 [⟨none, []⟩, ⟨none, [(3, some 0)]⟩, ⟨some (4, true), [(1, none), (4, some 1)]⟩, ⟨some (4, true), [(5, some 2), (4, some 1)]⟩, ⟨some (4, true), [(1, none), (4, some 1)]⟩, ⟨some (4, true), [(7, some 4), (4, some 1)]⟩, ⟨some (4, true), [(1, none), (4, some 1)]⟩, ⟨some (4, true), [(9, some 6), (4, some 1)]⟩, ⟨some (4, true), [(1, none), (4, some 1)]⟩, ⟨some (4, true), [(11, some 8), (4, some 1)]⟩, ⟨some (4, true), [(6, some 3), (8, some 5), (10, some 7), (12, some 9), (4, some 1)]⟩, ⟨some (4, true), [(1, none), (4, some 1)]⟩, ⟨some (4, true), [(14, some 11), (4, some 1)]⟩, ⟨some (4, true), [(1, none), (4, some 1)]⟩, ⟨some (4, true), [(16, some 13), (4, some 1)]⟩, ⟨some (4, true), [(1, none), (4, some 1)]⟩, ⟨some (4, true), [(18, some 15), (4, some 1)]⟩, ⟨some (4, true), [(1, none), (4, some 1)]⟩, ⟨some (4, true), [(20, some 17), (4, some 1)]⟩, ⟨some (4, true), [(15, some 12), (17, some 14), (19, some 16), (21, some 18), (4, some 1)]⟩] kj kj fun F hF => ?_
  have r1_1 := (row_ext hc e1)
  have r2_1 := (row_ext hq e1)
  refine e_call (rl_ext _) (.bool true) 27 #[] kj kj (fun W => by kernel_rfl) (fun W hR => alive18 tc tq W (row_ext (row_ext r1_1 (ext_drew _)) hR) (row_ext (row_ext r2_1 (ext_drew _)) hR)) ?_
  refine e_val (rl_ext _) (.bool true) kj kj (fun W => by kernel_rfl) ?_
  refine e_val (rl_ext _) (.pointer (some ⟨g4, 0, none⟩)) kj kj (fun W => by kernel_rfl) ?_
  refine e_read (rl_ext _) (.agg (ints .u8 (g))) kj kj (fun W hR => (run_load_part 26 _ g4 0 52 _ _ _ (row_ext (row_ext r4_1 (ext_drew _)) hR) rfl kj (cat_part [] [ints .u8 (g)] [#[.int .i64 e], ints .u8 (t), ints .u8 (c)] 0 kj) kj (isz (n := 32) kj ((ints_size _ _).trans hgl)))) ?_
  refine e_val (rl_ext _) (.pointer (some ⟨g4, 32, none⟩)) kj kj (fun W => by kernel_rfl) ?_
  refine e_read (rl_ext _) (.int .i64 e) kj kj (fun W hR => (run_loadC1 3 _ g4 32 52 _ (.int .i64 e) _ (row_ext (row_ext r4_1 (ext_drew _)) hR) rfl kj (cat_part [ints .u8 (g)] [#[.int .i64 e]] [ints .u8 (t), ints .u8 (c)] 32 ((ints_size _ _).trans hgl) 0 _ rfl) kj)) ?_
  refine e_val (rl_ext _) (.pointer (some ⟨g4, 33, none⟩)) kj kj (fun W => by kernel_rfl) ?_
  refine e_read (rl_ext _) (.agg (ints .u8 (t))) kj kj (fun W hR => (run_load_part 26 _ g4 33 52 _ _ _ (row_ext (row_ext r4_1 (ext_drew _)) hR) rfl kj (cat_part [ints .u8 (g), #[.int .i64 e]] [ints .u8 (t)] [ints .u8 (c)] 33 (by rw [cat_cons, cat_cons]; simp only [Array.size_append, cat, ((ints_size _ _).trans hgl)]; rfl)) kj (isz (n := 32) kj ((ints_size _ _).trans htl)))) ?_
  refine e_val (rl_ext _) (.pointer (some ⟨g4, 65, none⟩)) kj kj (fun W => by kernel_rfl) ?_
  refine e_read (rl_ext _) (.agg (ints .u8 (c))) kj kj (fun W hR => (run_load_part 26 _ g4 65 52 _ _ _ (row_ext (row_ext r4_1 (ext_drew _)) hR) rfl kj (cat_part [ints .u8 (g), #[.int .i64 e], ints .u8 (t)] [ints .u8 (c)] [] 65 (by rw [cat_cons, cat_cons, cat_cons]; simp only [Array.size_append, cat, ((ints_size _ _).trans hgl), ((ints_size _ _).trans htl)]; rfl)) kj (isz (n := 32) kj ((ints_size _ _).trans hcl)))) ?_
  refine e_callG (rl_ext _) (OwnN .u8 5 0 (ctxL g e t c)) (OwnN.stable _ _ _ _) 28 #[.agg (ints .u8 (g)), .int .i64 e, .agg (ints .u8 (t)), .agg (ints .u8 (c))] kj kj (fun W => by kernel_rfl) (fun W hR => ((contextC g t c e W hgl htl hcl).mono fun e2 W2 ⟨v2, q1, q2, q3⟩ => ⟨v2, q1, q2, OwnN.base (Nat.zero_le _) q3⟩)) ?_
  refine e_val (rl_ext _) (.pointer (some ⟨g4, 0, none⟩)) kj kj (fun W => by kernel_rfl) ?_
  refine e_read (rl_ext _) (.agg (ints .u8 (g))) kj kj (fun W hR => (run_load_part 26 _ g4 0 52 _ _ _ (row_ext (row_ext r4_1 (ext_drew _)) hR) rfl kj (cat_part [] [ints .u8 (g)] [#[.int .i64 e], ints .u8 (t), ints .u8 (c)] 0 kj) kj (isz (n := 32) kj ((ints_size _ _).trans hgl)))) ?_
  refine e_val (rl_ext _) (.pointer (some ⟨g4, 32, none⟩)) kj kj (fun W => by kernel_rfl) ?_
  refine e_read (rl_ext _) (.int .i64 e) kj kj (fun W hR => (run_loadC1 3 _ g4 32 52 _ (.int .i64 e) _ (row_ext (row_ext r4_1 (ext_drew _)) hR) rfl kj (cat_part [ints .u8 (g)] [#[.int .i64 e]] [ints .u8 (t), ints .u8 (c)] 32 ((ints_size _ _).trans hgl) 0 _ rfl) kj)) ?_
  refine e_val (rl_ext _) (.pointer (some ⟨g4, 33, none⟩)) kj kj (fun W => by kernel_rfl) ?_
  refine e_read (rl_ext _) (.agg (ints .u8 (t))) kj kj (fun W hR => (run_load_part 26 _ g4 33 52 _ _ _ (row_ext (row_ext r4_1 (ext_drew _)) hR) rfl kj (cat_part [ints .u8 (g), #[.int .i64 e]] [ints .u8 (t)] [ints .u8 (c)] 33 (by rw [cat_cons, cat_cons]; simp only [Array.size_append, cat, ((ints_size _ _).trans hgl)]; rfl)) kj (isz (n := 32) kj ((ints_size _ _).trans htl)))) ?_
  refine e_val (rl_ext _) (.pointer (some ⟨g4, 65, none⟩)) kj kj (fun W => by kernel_rfl) ?_
  refine e_read (rl_ext _) (.agg (ints .u8 (c))) kj kj (fun W hR => (run_load_part 26 _ g4 65 52 _ _ _ (row_ext (row_ext r4_1 (ext_drew _)) hR) rfl kj (cat_part [ints .u8 (g), #[.int .i64 e], ints .u8 (t)] [ints .u8 (c)] [] 65 (by rw [cat_cons, cat_cons, cat_cons]; simp only [Array.size_append, cat, ((ints_size _ _).trans hgl), ((ints_size _ _).trans htl)]; rfl)) kj (isz (n := 32) kj ((ints_size _ _).trans hcl)))) ?_
  refine e_callG (rl_ext _) (OwnN .u8 5 0 (ctxL g e t c)) (OwnN.stable _ _ _ _) 29 #[.agg (ints .u8 (g)), .int .i64 e, .agg (ints .u8 (t)), .agg (ints .u8 (c))] kj kj (fun W => by kernel_rfl) (fun W hR => ((rcontextC g t c e W hgl htl hcl).mono fun e2 W2 ⟨v2, q1, q2, q3⟩ => ⟨v2, q1, q2, OwnN.base (Nat.zero_le _) q3⟩)) ?_
  refine e_nil (hF _ fun W2 e2 => ?_)
  simp only [List.nil_append, List.cons_append, List.take_succ_cons, List.take_zero, List.drop_succ_cons, List.drop_zero, finE, up]
  intro vv6 hv6 vv7 hv7
  clear hF
  have x2 : Ext w W2 := Ext.tr x1 e2
  obtain ⟨au8, cu8, rfl, -⟩ := id (OwnN.rd hv6)
  obtain ⟨au9, cu9, rfl, -⟩ := id (OwnN.rd hv7)
  refine seq_call (.bool true) 21 #[.slice au8 ((ctxL g e t c).length) cu8, .slice au9 ((ctxL g e t c).length) cu9] 23 rfl kj kj (sameT _ _ (ctxL g e t c) _ (RdK.bytes (OwnN.rd hv6) (ctxL_bytes _ _ _ _ hgb htb hcb)) (RdK.bytes (OwnN.rd hv7) (ctxL_bytes _ _ _ _ hgb htb hcb))) fun W3 e3 => ?_
  have x3 : Ext w W3 := Ext.tr x2 e3
  refine seq_val (.bool true) 24 rfl kj kj ?_
  refine seq_val (.bool true) 2 rfl kj kj ?_
  refine seq_nil ?_
  refine hK5 _ _ ?_
  try clear hK5 K5
  refine wp_ret ?_
  repeat (first | with_reducible refine goR1 ?_ | with_reducible refine goR2 ?_)
  exact (show bodyPost _ _ _ .ret _ _ from ret1 (.bool true) rfl (res_tmp kj) ⟨rfl, x3⟩)

end Go.Proofs.YtamlhbbphnamnaaDoor.Sha
