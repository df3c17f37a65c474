/- HMAC: the law KdfKeys. -/
import Derived.Test.YtamlhbbphnamnaaDoorKdfC
import Derived.Test.YtamlhbbphnamnaaDoorAppZ
namespace Go.Proofs.YtamlhbbphnamnaaDoor.Sha
open Go Go.RowKit
open Go.Proofs.YtamlhbbphnamnaaDoor.Rely Go.Proofs.YtamlhbbphnamnaaDoor.Auto Go.Proofs.YtamlhbbphnamnaaDoor.Own
set_option linter.unusedVariables false
set_option linter.unusedSimpArgs false

theorem bytes_app {a b : List Int} (ha : AreBytes a) (hb : AreBytes b) : AreBytes (a ++ b) := fun x hx => by
  rcases List.mem_append.1 hx with h | h
  · exact ha x h
  · exact hb x h
theorem hmac_congr {a b : List Int} (t : List Int) (h : keyB a = keyB b) : hmac a t = hmac b t := by unfold hmac padX; rw [h]
theorem hmac_long {key : List Int} (t : List Int) (h : 64 < key.length) : hmac key t = hmac (dig key) t := by
  refine hmac_congr t ?_
  have hd := dig_len key
  unfold keyB keyL
  rw [if_pos h, if_neg (by omega)]
theorem hmac_short {key : List Int} (t : List Int) (h : ¬ 64 < key.length) : hmac key t = hmac (key ++ List.replicate (64 - key.length) 0) t := by
  refine hmac_congr t ?_
  have hl : (key ++ List.replicate (64 - key.length) (0 : Int)).length = 64 := by simp; omega
  unfold keyB keyL
  rw [if_neg h, if_neg (by omega), hl, Nat.sub_self, List.replicate_zero, List.append_nil]
section
variable {ds : List Deferred} {P : Program} {ops : Array Oper} {Q : Exit → Act → World → Prop} {rest : List Oper} {o : Oper} {N : Nat} {L : Env} {W : World}
theorem seq_appendM {k : IntKind} {T : TypeId} (b : Nat) (s x : Operand) (t : TypeId) (ho : o.op = .call { callee := .builtin .append, args := #[s, x], argTypes := #[t, t] })
    (ht : P.underlying t = some (.slice T)) (hi : (P.info? T).map (fun i => (i.zero, i.size, i.bytes)) = some (some (.int k 0), 1, b)) (hb8 : b ≤ 8) (d : Nat) (hd : o.dst = some d) (hg : wantB ops o N L = some true) {B : Nat} {v y : Value} {xs ys : List Int} {V : World}
    (hs : Rely.look (envN N L) s = v) (hx : Rely.look (envN N L) x = y)
    (h : OwnN k T V.heap.size xs v W) (hy : RdK k B ys y W) (hn : xs.length + ys.length ≤ 1000000000) (hV : Ext V W)
    (kk : ∀ (u : Value) (W' : World), OwnN k T V.heap.size (xs ++ ys) u W' → Ext V W' → Below V.heap.size W W' → (v ≠ .slice none 0 0 → u ≠ .slice none 0 0) → WL P ops Q rest (actOf ds N ((d, u) :: L)) W') : WL P ops Q (o :: rest) (actOf ds N L) W := by
  obtain ⟨v', W', h1, h2, h3, h4⟩ := append_N (ρ := Rely.look (envN N L)) (o := o) (W := W) s x t ho ht hi hb8 hs hx h hy hn hV.size
  refine seq_valw _ _ d hd hg h1 (kk v' W' h2 (ext_own hV h h3) ⟨h3.os, h3.tape, h3.output, h3.size, fun i hi => h3.block i (Nat.lt_of_lt_of_le hi hV.size) (fun q => by have := h.ge q.symm; omega)⟩ fun hv hu => ?_)
  rcases h.1.2 with ⟨h0, _⟩ | ⟨g, c, cur, rfl, _⟩
  · exact hv h0
  · subst hu
    rcases h4 with h4 | h4 <;> cases h4
theorem seq_appendZ {k kn : IntKind} {T : TypeId} (b : Nat) (s x : Operand) (t tn : TypeId) (ho : o.op = .call { callee := .builtin .append, args := #[s, x], argTypes := #[t, tn] })
    (ht : P.underlying t = some (.slice T)) (htn : P.underlying tn = some (.int kn)) (hi : (P.info? T).map (fun i => (i.zero, i.size, i.bytes)) = some (some (.int k 0), 1, b)) (hb8 : b ≤ 8) (d : Nat) (hd : o.dst = some d) (hg : wantB ops o N L = some true) {v : Value} {xs : List Int} {V : World} {n : Nat}
    (hs : Rely.look (envN N L) s = v) (hx : Rely.look (envN N L) x = .int .i64 (n : Int)) (h : OwnN k T V.heap.size xs v W) (hn : xs.length + n ≤ 1000000000) (hV : Ext V W) (hnil : v ≠ .slice none 0 0)
    (kk : ∀ (u : Value) (W' : World), OwnN k T V.heap.size (xs ++ List.replicate n 0) u W' → Ext V W' → Below V.heap.size W W' → WL P ops Q rest (actOf ds N ((d, u) :: L)) W') : WL P ops Q (o :: rest) (actOf ds N L) W := by
  rcases h.1.2 with ⟨h0, _⟩ | ⟨g, c, cur, rfl, h2, h3, h4, h5, h6, h7⟩
  · exact absurd h0 hnil
  · obtain ⟨v', W', e1, e2, e3⟩ := append_Z (ρ := Rely.look (envN N L)) (o := o) (W := W) s x t tn ho ht htn hi hb8 hs hx h2 h3 (by omega) h4 h5 (by simpa using h7) hn hV.size
    exact seq_valw _ _ d hd hg e1 (kk v' W' e2 (ext_own hV h e3) ⟨e3.os, e3.tape, e3.output, e3.size, fun i hi => e3.block i (Nat.lt_of_lt_of_le hi hV.size) (fun q => by have := Option.some.inj q; omega)⟩)
end
set_option maxHeartbeats 4000000 in
theorem keys_A (key text : List Int) (v1 v2 : Value) (B : Nat) (tc tq : TypeId) (w : World) (hc : w.heap[1]? = some (.cells (ints .u64 cubesI) tc)) (hq : w.heap[0]? = some (.cells (ints .u64 squaresI) tq)) (hkb : AreBytes key) (htb : AreBytes text) (hk : RdK .u8 B key v1 w) (ht : RdK .u8 B text v2 w) (h : 1000 < key.length) : Calls Tryd.prog 7 #[v1, v2] w (Ret w (.bool true)) := by
  obtain ⟨a_key, c_key, rfl, -⟩ := id hk
  obtain ⟨a_text, c_text, rfl, -⟩ := id ht
  refine enter 46 [(0, .slice a_key key.length c_key), (1, .slice a_text text.length c_text)] Tryd.func7 rfl rfl (by kernel_rfl) rfl ?_
  refine wp_seq_k fun K3 hK3 => ?_
  refine region_lit ?_
  refine seq_val (.bool false) 4 rfl (by kernel_rfl) (by kernel_rfl) ?_
  refine seq_nil ?_
  refine hK3 _ _ ?_
  try clear hK3 K3
  refine wp_seq_k fun K4 hK4 => ?_
  refine wp_seq_k fun K5 hK5 => ?_
  refine region_lit ?_
  refine seq_call (.bool true) 13 #[] 6 rfl (by kernel_rfl) (by kernel_rfl) (alive02 tc tq _ hc hq) fun W1 e1 => ?_
  have x1 : Ext w W1 := Ext.tr (Rely.Ext.refl w) e1
  refine seq_val (.bool false) 7 rfl (by kernel_rfl) (by kernel_rfl) ?_
  refine seq_nil ?_
  refine hK5 _ _ ?_
  try clear hK5 K5
  refine cond_false (by kernel_rfl) ?_
  refine wp_skip ?_
  refine hK4 _ _ ?_
  try clear hK4 K4
  refine wp_seq_k fun K6 hK6 => ?_
  refine wp_seq_k fun K7 hK7 => ?_
  refine region_lit ?_
  refine seq_val (.slice a_key key.length c_key) 8 rfl (by kernel_rfl) (by kernel_rfl) ?_
  refine seq_val (.int .i64 ((key.length : Nat) : Int)) 9 rfl (by kernel_rfl) (by kernel_rfl) ?_
  refine seq_val (.bool true) 10 rfl (by kernel_rfl) (run_eq (u := .bool (decide (((key.length : Nat) : Int) > 1000))) (by kernel_rfl) (congrArg Value.bool (decide_eq_true (by omega)))) ?_
  refine seq_val (.bool true) 11 rfl (by kernel_rfl) (by kernel_rfl) ?_
  refine seq_skip 12 rfl (by kernel_rfl) ?_
  refine seq_skip 13 rfl (by kernel_rfl) ?_
  refine seq_skip 14 rfl (by kernel_rfl) ?_
  refine seq_val (.bool true) 15 rfl (by kernel_rfl) (by kernel_rfl) ?_
  refine seq_nil ?_
  refine hK7 _ _ ?_
  try clear hK7 K7
  refine cond_true (by kernel_rfl) ?_
  refine wp_seq_k fun K8 hK8 => ?_
  refine region_lit ?_
  refine seq_val (.bool true) 4 rfl (by kernel_rfl) (by kernel_rfl) ?_
  refine seq_nil ?_
  refine hK8 _ _ ?_
  try clear hK8 K8
  refine wp_ret ?_
  repeat (first | with_reducible refine goR1 ?_ | with_reducible refine goR2 ?_)
  exact (show bodyPost _ _ _ .ret _ _ from ret1 (.bool true) rfl (res_tmp (by kernel_rfl)) ⟨rfl, x1⟩)
set_option maxHeartbeats 4000000 in
theorem keys_B (key text : List Int) (v1 v2 : Value) (B : Nat) (tc tq : TypeId) (w : World) (hc : w.heap[1]? = some (.cells (ints .u64 cubesI) tc)) (hq : w.heap[0]? = some (.cells (ints .u64 squaresI) tq)) (hkb : AreBytes key) (htb : AreBytes text) (hk : RdK .u8 B key v1 w) (ht : RdK .u8 B text v2 w) (h1 : key.length ≤ 1000) (h : 1000 < text.length) : Calls Tryd.prog 7 #[v1, v2] w (Ret w (.bool true)) := by
  obtain ⟨a_key, c_key, rfl, -⟩ := id hk
  obtain ⟨a_text, c_text, rfl, -⟩ := id ht
  refine enter 46 [(0, .slice a_key key.length c_key), (1, .slice a_text text.length c_text)] Tryd.func7 rfl rfl (by kernel_rfl) rfl ?_
  refine wp_seq_k fun K3 hK3 => ?_
  refine region_lit ?_
  refine seq_val (.bool false) 4 rfl (by kernel_rfl) (by kernel_rfl) ?_
  refine seq_nil ?_
  refine hK3 _ _ ?_
  try clear hK3 K3
  refine wp_seq_k fun K4 hK4 => ?_
  refine wp_seq_k fun K5 hK5 => ?_
  refine region_lit ?_
  refine seq_call (.bool true) 13 #[] 6 rfl (by kernel_rfl) (by kernel_rfl) (alive02 tc tq _ hc hq) fun W1 e1 => ?_
  have x1 : Ext w W1 := Ext.tr (Rely.Ext.refl w) e1
  refine seq_val (.bool false) 7 rfl (by kernel_rfl) (by kernel_rfl) ?_
  refine seq_nil ?_
  refine hK5 _ _ ?_
  try clear hK5 K5
  refine cond_false (by kernel_rfl) ?_
  refine wp_skip ?_
  refine hK4 _ _ ?_
  try clear hK4 K4
  refine wp_seq_k fun K6 hK6 => ?_
  refine wp_seq_k fun K7 hK7 => ?_
  refine region_lit ?_
  refine seq_val (.slice a_key key.length c_key) 8 rfl (by kernel_rfl) (by kernel_rfl) ?_
  refine seq_val (.int .i64 ((key.length : Nat) : Int)) 9 rfl (by kernel_rfl) (by kernel_rfl) ?_
  refine seq_val (.bool false) 10 rfl (by kernel_rfl) (run_eq (u := .bool (decide (((key.length : Nat) : Int) > 1000))) (by kernel_rfl) (congrArg Value.bool (decide_eq_false (by omega)))) ?_
  refine seq_val (.bool false) 11 rfl (by kernel_rfl) (by kernel_rfl) ?_
  refine seq_val (.slice a_text text.length c_text) 12 rfl (by kernel_rfl) (by kernel_rfl) ?_
  refine seq_val (.int .i64 ((text.length : Nat) : Int)) 13 rfl (by kernel_rfl) (by kernel_rfl) ?_
  refine seq_val (.bool true) 14 rfl (by kernel_rfl) (run_eq (u := .bool (decide (((text.length : Nat) : Int) > 1000))) (by kernel_rfl) (congrArg Value.bool (decide_eq_true (by omega)))) ?_
  refine seq_val (.bool true) 15 rfl (by kernel_rfl) (by kernel_rfl) ?_
  refine seq_nil ?_
  refine hK7 _ _ ?_
  try clear hK7 K7
  refine cond_true (by kernel_rfl) ?_
  refine wp_seq_k fun K8 hK8 => ?_
  refine region_lit ?_
  refine seq_val (.bool true) 4 rfl (by kernel_rfl) (by kernel_rfl) ?_
  refine seq_nil ?_
  refine hK8 _ _ ?_
  try clear hK8 K8
  refine wp_ret ?_
  repeat (first | with_reducible refine goR1 ?_ | with_reducible refine goR2 ?_)
  exact (show bodyPost _ _ _ .ret _ _ from ret1 (.bool true) rfl (res_tmp (by kernel_rfl)) ⟨rfl, x1⟩)
set_option maxHeartbeats 4000000 in
theorem keys_C (key text : List Int) (v1 v2 : Value) (B : Nat) (tc tq : TypeId) (w : World) (hc : w.heap[1]? = some (.cells (ints .u64 cubesI) tc)) (hq : w.heap[0]? = some (.cells (ints .u64 squaresI) tq)) (hkb : AreBytes key) (htb : AreBytes text) (hk : RdK .u8 B key v1 w) (ht : RdK .u8 B text v2 w) (h1 : key.length ≤ 1000) (h2 : text.length ≤ 1000) : Calls Tryd.prog 7 #[v1, v2] w (Ret w (.bool true)) := by
  obtain ⟨a_key, c_key, rfl, -⟩ := id hk
  obtain ⟨a_text, c_text, rfl, -⟩ := id ht
  refine enter 46 [(0, .slice a_key key.length c_key), (1, .slice a_text text.length c_text)] Tryd.func7 rfl rfl (by kernel_rfl) rfl ?_
  refine wp_seq_k fun K3 hK3 => ?_
  refine region_lit ?_
  refine seq_val (.bool false) 4 rfl (by kernel_rfl) (by kernel_rfl) ?_
  refine seq_nil ?_
  refine hK3 _ _ ?_
  try clear hK3 K3
  refine wp_seq_k fun K4 hK4 => ?_
  refine wp_seq_k fun K5 hK5 => ?_
  refine region_lit ?_
  refine seq_call (.bool true) 13 #[] 6 rfl (by kernel_rfl) (by kernel_rfl) (alive02 tc tq _ hc hq) fun W1 e1 => ?_
  have x1 : Ext w W1 := Ext.tr (Rely.Ext.refl w) e1
  refine seq_val (.bool false) 7 rfl (by kernel_rfl) (by kernel_rfl) ?_
  refine seq_nil ?_
  refine hK5 _ _ ?_
  try clear hK5 K5
  refine cond_false (by kernel_rfl) ?_
  refine wp_skip ?_
  refine hK4 _ _ ?_
  try clear hK4 K4
  refine wp_seq_k fun K6 hK6 => ?_
  refine wp_seq_k fun K7 hK7 => ?_
  refine region_lit ?_
  refine seq_val (.slice a_key key.length c_key) 8 rfl (by kernel_rfl) (by kernel_rfl) ?_
  refine seq_val (.int .i64 ((key.length : Nat) : Int)) 9 rfl (by kernel_rfl) (by kernel_rfl) ?_
  refine seq_val (.bool false) 10 rfl (by kernel_rfl) (run_eq (u := .bool (decide (((key.length : Nat) : Int) > 1000))) (by kernel_rfl) (congrArg Value.bool (decide_eq_false (by omega)))) ?_
  refine seq_val (.bool false) 11 rfl (by kernel_rfl) (by kernel_rfl) ?_
  refine seq_val (.slice a_text text.length c_text) 12 rfl (by kernel_rfl) (by kernel_rfl) ?_
  refine seq_val (.int .i64 ((text.length : Nat) : Int)) 13 rfl (by kernel_rfl) (by kernel_rfl) ?_
  refine seq_val (.bool false) 14 rfl (by kernel_rfl) (run_eq (u := .bool (decide (((text.length : Nat) : Int) > 1000))) (by kernel_rfl) (congrArg Value.bool (decide_eq_false (by omega)))) ?_
  refine seq_val (.bool false) 15 rfl (by kernel_rfl) (by kernel_rfl) ?_
  refine seq_nil ?_
  refine hK7 _ _ ?_
  try clear hK7 K7
  refine cond_false (by kernel_rfl) ?_
  refine wp_skip ?_
  refine hK6 _ _ ?_
  try clear hK6 K6
  refine wp_seq_k fun K8 hK8 => ?_
  refine region_lit ?_
  refine seq_val (.slice a_key key.length c_key) 16 rfl (by kernel_rfl) (by kernel_rfl) ?_
  refine seq_makeS (#[.slice a_key key.length c_key]) 22 1 17 rfl (by kernel_rfl) (by kernel_rfl) fun g9 W2 l9 e2 r9_2 => ?_
  have x2 : Ext w W2 := Ext.tr x1 e2
  have b9 : w.heap.size ≤ g9 := Nat.le_trans x1.size l9
  have r1_1 := (row_ext hc e1)
  have r1_2 := (row_ext r1_1 e2)
  have r2_1 := (row_ext hq e1)
  have r2_2 := (row_ext r2_1 e2)
  have hps10 : ∀ p ∈ ([(.slice a_key key.length c_key, key)] : List (Value × List Int)), RdK .u8 W2.heap.size p.2 p.1 W2 ∧ AreBytes p.2 := by
    intro p hp
    simp only [List.mem_cons, List.not_mem_nil, or_false] at hp
    rcases hp with rfl
    · exact ⟨RdK.here (RdK.ext hk x2), hkb⟩
  have hsh10 := shortC g9 1 _ ([(.slice a_key key.length c_key, key)] : List (Value × List Int)) rfl (by decide) tc tq W2 r1_2 r2_2 r9_2 hps10 (by simp only [List.map_cons, List.map_nil, List.flatten_cons, List.flatten_nil, List.append_nil, List.length_append]; omega)
  rw [show ((List.map Prod.snd ([(.slice a_key key.length c_key, key)] : List (Value × List Int))).flatten) = key by simp only [List.map_cons, List.map_nil, List.flatten_cons, List.flatten_nil, List.append_nil]] at hsh10
  refine seq_call (.agg (ints .u8 (dig (key)))) 26 #[.slice (some ⟨g9, 0, none⟩) 1 1] 18 rfl (by kernel_rfl) (by kernel_rfl) hsh10 fun W3 e3 => ?_
  have x3 : Ext w W3 := Ext.tr x2 e3
  refine seq_alloc (ints .u8 (List.replicate 32 0)) 26 5 rfl (by kernel_rfl) (by kernel_rfl) fun g11 W4 l11 e4 r11_4 => ?_
  have x4 : Ext w W4 := Ext.tr x3 e4
  have b11 : w.heap.size ≤ g11 := Nat.le_trans x3.size l11
  refine seq_store g11 _ (ints .u8 (dig (key))) 26 r11_4 rfl (by kernel_rfl) (run_store_row 26 _ _ g11 26 _ _ r11_4 rfl (by kernel_rfl) (by kernel_rfl) (isz (n := 32) (by kernel_rfl) ((ints_size _ _).trans (dig_len _))) (eqsz (n := 32) ((ints_size _ _).trans (List.length_replicate (n := 32))) ((ints_size _ _).trans (dig_len _))) (ints_one _ _)) fun W5 p5 r11_5 => ?_
  have x5 : Ext w W5 := Puts.ext p5 x4 b11
  refine seq_nil ?_
  refine hK8 _ _ ?_
  try clear hK8 K8
  refine wp_seq_k fun K12 hK12 => ?_
  refine wp_seq_k fun K13 hK13 => ?_
  refine region_lit ?_
  refine seq_val (.slice a_key key.length c_key) 19 rfl (by kernel_rfl) (by kernel_rfl) ?_
  refine seq_val (.int .i64 ((key.length : Nat) : Int)) 20 rfl (by kernel_rfl) (by kernel_rfl) ?_
  refine seq_val (.bool (decide (((key.length : Nat) : Int) > 64))) 21 rfl (by kernel_rfl) (by kernel_rfl) ?_
  refine seq_nil ?_
  refine hK13 _ _ ?_
  try clear hK13 K13
  refine cond_split (t := decide (((key.length : Nat) : Int) > 64)) (by kernel_rfl) (fun c14 => ?_) (fun c14 => ?_)
  · skip
    have hlong : 64 < key.length := by have := of_decide_eq_true c14; omega
    refine wp_seq_k fun K15 hK15 => ?_
    refine any_regionE 7 [⟨none, [(0, none)]⟩, ⟨none, [(1, none)]⟩, ⟨none, [(23, some 1)]⟩, ⟨none, [(22, some 0), (24, some 2)]⟩, ⟨none, [(5, none)]⟩, ⟨none, [(1, none)]⟩, ⟨none, [(27, some 5)]⟩] (by kernel_rfl) (by kernel_rfl) fun F hF => ?_
    refine e_val (rl_ext _) (.slice a_key key.length c_key) (by kernel_rfl) (by kernel_rfl) (fun W => by kernel_rfl) ?_
    refine e_val (rl_ext _) (.slice a_text text.length c_text) (by kernel_rfl) (by kernel_rfl) (fun W => by kernel_rfl) ?_
    refine e_newS (rl_ext _) (#[.slice a_text text.length c_text]) 22 1 (NewS.stable _ _ _ _) (by kernel_rfl) (by kernel_rfl) (fun W => by kernel_rfl) ?_
    have r1_3 := (row_ext r1_2 e3)
    have r1_4 := (row_ext r1_3 e4)
    have r1_5 := (Puts.row p5 r1_4 (ne_of_old r1_3 l11))
    have r2_3 := (row_ext r2_2 e3)
    have r2_4 := (row_ext r2_3 e4)
    have r2_5 := (Puts.row p5 r2_4 (ne_of_old r2_3 l11))
    refine e_callX (rl_ext _) (.agg (ints .u8 (hmac (key) (text)))) 15 (fun ρ W hR hh => ?_) ?_
    · skip
      have e22 : ρ 22 = .slice a_key key.length c_key := hh.1
      obtain ⟨gs24, e24, lo24, rr24⟩ : NewS W5.drew.heap.size (#[.slice a_text text.length c_text]) 22 1 (ρ 24) W := hh.2.1
      refine ⟨#[.slice a_key key.length c_key, .slice (some ⟨gs24, 0, none⟩) 1 1], Eq.trans (b := Result.ok (Next.enter 15 #[ρ 22, ρ 24]) W) (by kernel_rfl) (by rw [e22, e24]), ?_⟩
      have hps17 : ∀ p ∈ ([(.slice a_text text.length c_text, text)] : List (Value × List Int)), RdK .u8 W.heap.size p.2 p.1 W ∧ AreBytes p.2 := by
        intro p hp
        simp only [List.mem_cons, List.not_mem_nil, or_false] at hp
        rcases hp with rfl
        · exact ⟨RdK.here (((RdK.ext ht x5)).ext (Rely.Ext.trans (ext_drew _) hR)), htb⟩
      have htg17 := tagC (key) (.slice a_key key.length c_key) _ gs24 1 _ ([(.slice a_text text.length c_text, text)] : List (Value × List Int)) rfl (by decide) tc tq W (row_ext (row_ext r1_5 (ext_drew _)) hR) (row_ext (row_ext r2_5 (ext_drew _)) hR) hkb (by omega) (((RdK.ext hk x5)).ext (Rely.Ext.trans (ext_drew _) hR)) rr24 hps17 (by simp only [List.map_cons, List.map_nil, List.flatten_cons, List.flatten_nil, List.append_nil, List.length_append]; omega)
      rw [show ((List.map Prod.snd ([(.slice a_text text.length c_text, text)] : List (Value × List Int))).flatten) = text by simp only [List.map_cons, List.map_nil, List.flatten_cons, List.flatten_nil, List.append_nil]] at htg17
      exact htg17
    refine e_val (rl_ext _) (.slice (some ⟨g11, 0, none⟩) 32 32) (by kernel_rfl) (by kernel_rfl) (fun W => by kernel_rfl) ?_
    refine e_val (rl_ext _) (.slice a_text text.length c_text) (by kernel_rfl) (by kernel_rfl) (fun W => by kernel_rfl) ?_
    refine e_newS (rl_ext _) (#[.slice a_text text.length c_text]) 22 1 (NewS.stable _ _ _ _) (by kernel_rfl) (by kernel_rfl) (fun W => by kernel_rfl) ?_
    refine e_nil (hF _ fun W6 e6 => ?_)
    simp only [List.nil_append, List.cons_append, List.take_succ_cons, List.take_zero, List.drop_succ_cons, List.drop_zero, finE, up]
    intro vv16 hv16 vv18 hv18
    clear hF
    have x6 : Ext w W6 := Ext.tr x5 e6
    obtain ⟨g16, rfl, l16, r16_6⟩ := hv16
    have b16 : w.heap.size ≤ g16 := Nat.le_trans x5.size l16
    obtain ⟨g18, rfl, l18, r18_6⟩ := hv18
    have b18 : w.heap.size ≤ g18 := Nat.le_trans x5.size l18
    have r11_6 := (row_ext r11_5 e6)
    have r1_6 := (row_ext r1_5 e6)
    have r2_6 := (row_ext r2_5 e6)
    have hps19 : ∀ p ∈ ([(.slice a_text text.length c_text, text)] : List (Value × List Int)), RdK .u8 W6.heap.size p.2 p.1 W6 ∧ AreBytes p.2 := by
      intro p hp
      simp only [List.mem_cons, List.not_mem_nil, or_false] at hp
      rcases hp with rfl
      · exact ⟨RdK.here (RdK.ext ht x6), htb⟩
    have htg19 := tagC (dig (key)) (.slice (some ⟨g11, 0, none⟩) 32 32) _ g18 1 _ ([(.slice a_text text.length c_text, text)] : List (Value × List Int)) rfl (by decide) tc tq W6 r1_6 r2_6 (dig_bytes _) (by rw [(dig_len _)]; decide) (rdK_ints (xs := dig (key)) (n := 32) (dig_len _) r11_6 (row_lt r11_6) (show 32 ≤ maxLen from by decide)) r18_6 hps19 (by simp only [List.map_cons, List.map_nil, List.flatten_cons, List.flatten_nil, List.append_nil, List.length_append]; omega)
    rw [show ((List.map Prod.snd ([(.slice a_text text.length c_text, text)] : List (Value × List Int))).flatten) = text by simp only [List.map_cons, List.map_nil, List.flatten_cons, List.flatten_nil, List.append_nil]] at htg19
    refine seq_call (.agg (ints .u8 (hmac (dig (key)) (text)))) 15 #[.slice (some ⟨g11, 0, none⟩) 32 32, .slice (some ⟨g18, 0, none⟩) 1 1] 29 rfl (by kernel_rfl) (by kernel_rfl) htg19 fun W7 e7 => ?_
    have x7 : Ext w W7 := Ext.tr x6 e7
    refine seq_val (.bool true) 30 rfl (by kernel_rfl) (run_eql_agg 26 _ _ _ _ _ (.bool true) rfl (by kernel_rfl) (by kernel_rfl) (by kernel_rfl) (eql_lists 26 (e := 5) (k := .u8) (hmac (key) (text)) (hmac (dig (key)) (text)) (decide_eq_true (hmac_long text hlong)) (hmac_len _ _) (hmac_len _ _) (by kernel_rfl) (by kernel_rfl) (by kernel_rfl) _)) ?_
    refine seq_val (.bool true) 4 rfl (by kernel_rfl) (by kernel_rfl) ?_
    refine seq_nil ?_
    refine hK15 _ _ ?_
    try clear hK15 K15
    refine wp_ret ?_
    repeat (first | with_reducible refine goR1 ?_ | with_reducible refine goR2 ?_)
    exact (show bodyPost _ _ _ .ret _ _ from ret1 (.bool true) rfl (res_tmp (by kernel_rfl)) ⟨rfl, x7⟩)
  · skip
    have hlong : ¬ 64 < key.length := by have := of_decide_eq_false c14; omega
    refine wp_skip ?_
    refine hK12 _ _ ?_
    try clear hK12 K12
    refine wp_seq_k fun K20 hK20 => ?_
    refine region_lit ?_
    refine seq_val (.slice a_key key.length c_key) 31 rfl (by kernel_rfl) (by kernel_rfl) ?_
    refine seq_val (.slice a_text text.length c_text) 32 rfl (by kernel_rfl) (by kernel_rfl) ?_
    refine seq_makeS (#[.slice a_text text.length c_text]) 22 1 33 rfl (by kernel_rfl) (by kernel_rfl) fun g21 W6 l21 e6 r21_6 => ?_
    have x6 : Ext w W6 := Ext.tr x5 e6
    have b21 : w.heap.size ≤ g21 := Nat.le_trans x5.size l21
    have r1_3 := (row_ext r1_2 e3)
    have r1_4 := (row_ext r1_3 e4)
    have r1_5 := (Puts.row p5 r1_4 (ne_of_old r1_3 l11))
    have r1_6 := (row_ext r1_5 e6)
    have r2_3 := (row_ext r2_2 e3)
    have r2_4 := (row_ext r2_3 e4)
    have r2_5 := (Puts.row p5 r2_4 (ne_of_old r2_3 l11))
    have r2_6 := (row_ext r2_5 e6)
    have hps22 : ∀ p ∈ ([(.slice a_text text.length c_text, text)] : List (Value × List Int)), RdK .u8 W6.heap.size p.2 p.1 W6 ∧ AreBytes p.2 := by
      intro p hp
      simp only [List.mem_cons, List.not_mem_nil, or_false] at hp
      rcases hp with rfl
      · exact ⟨RdK.here (RdK.ext ht x6), htb⟩
    have htg22 := tagC (key) (.slice a_key key.length c_key) _ g21 1 _ ([(.slice a_text text.length c_text, text)] : List (Value × List Int)) rfl (by decide) tc tq W6 r1_6 r2_6 hkb (by omega) (RdK.ext hk x6) r21_6 hps22 (by simp only [List.map_cons, List.map_nil, List.flatten_cons, List.flatten_nil, List.append_nil, List.length_append]; omega)
    rw [show ((List.map Prod.snd ([(.slice a_text text.length c_text, text)] : List (Value × List Int))).flatten) = text by simp only [List.map_cons, List.map_nil, List.flatten_cons, List.flatten_nil, List.append_nil]] at htg22
    refine seq_call (.agg (ints .u8 (hmac (key) (text)))) 15 #[.slice a_key key.length c_key, .slice (some ⟨g21, 0, none⟩) 1 1] 34 rfl (by kernel_rfl) (by kernel_rfl) htg22 fun W7 e7 => ?_
    have x7 : Ext w W7 := Ext.tr x6 e7
    refine seq_makeS (ints .u8 ([])) 5 0 35 rfl (by kernel_rfl) (by kernel_rfl) fun g23 W8 l23 e8 r23_8 => ?_
    have x8 : Ext w W8 := Ext.tr x7 e8
    have b23 : w.heap.size ≤ g23 := Nat.le_trans x7.size l23
    refine seq_val (.slice a_key key.length c_key) 36 rfl (by kernel_rfl) (by kernel_rfl) ?_
    have y7_8 : Ext W7 W8 := (Rely.Ext.trans (Rely.Ext.refl W7) e8)
    refine seq_appendM (k := .u8) (T := 5) (xs := []) (ys := key) (V := W7) 1 (.tmp 35) (.tmp 36) 22 rfl (by kernel_rfl) (by kernel_rfl) (by decide) 37 rfl (by kernel_rfl) (by kernel_rfl) (by kernel_rfl) (ownN_row (xs := []) rfl l23 r23_8 (by decide)) (RdK.ext hk x8) (by simp; omega) y7_8 fun u1 W9 f24 y9 l9 hnn => ?_
    have x9 : Ext w W9 := Ext.low x8 l9 x7.size
    have hu25 : OwnN .u8 5 W7.heap.size key u1 W9 := f24
    refine seq_val (.slice a_key key.length c_key) 38 rfl (by kernel_rfl) (by kernel_rfl) ?_
    refine seq_val (.int .i64 ((key.length : Nat) : Int)) 39 rfl (by kernel_rfl) (by kernel_rfl) ?_
    refine seq_val (.int .i64 (((64 - key.length : Nat) : Int))) 40 rfl (by kernel_rfl) (run_eq (u := .int .i64 (IntKind.i64.wrap (64 - ((key.length : Nat) : Int)))) (by kernel_rfl) (congrArg (Value.int .i64) (i64n _ _ (by omega) (by omega)))) ?_
    refine seq_appendZ (k := .u8) (T := 5) (xs := key) (V := W7) 1 (.tmp 37) (.tmp 40) 22 3 (kn := .i64) rfl (by kernel_rfl) (by kernel_rfl) (by kernel_rfl) (by decide) 41 rfl (by kernel_rfl) (by kernel_rfl) (n := 64 - key.length) (by kernel_rfl) hu25 (by omega) y9 (hnn (by simp)) fun u2 W10 hu26 y10 l10 => ?_
    have x10 : Ext w W10 := Ext.low x9 l10 x7.size
    refine seq_val (.slice a_text text.length c_text) 42 rfl (by kernel_rfl) (by kernel_rfl) ?_
    refine seq_makeS (#[.slice a_text text.length c_text]) 22 1 43 rfl (by kernel_rfl) (by kernel_rfl) fun g27 W11 l27 e11 r27_11 => ?_
    have x11 : Ext w W11 := Ext.tr x10 e11
    have b27 : w.heap.size ≤ g27 := Nat.le_trans x10.size l27
    have f29_11 := (hu26.ext e11)
    have r1_7 := (row_ext r1_6 e7)
    have r1_8 := (row_ext r1_7 e8)
    have r1_9 := (low_row l9 r1_8 (row_lt r1_7))
    have r1_10 := (low_row l10 r1_9 (row_lt r1_7))
    have r1_11 := (row_ext r1_10 e11)
    have r2_7 := (row_ext r2_6 e7)
    have r2_8 := (row_ext r2_7 e8)
    have r2_9 := (low_row l9 r2_8 (row_lt r2_7))
    have r2_10 := (low_row l10 r2_9 (row_lt r2_7))
    have r2_11 := (row_ext r2_10 e11)
    have hps28 : ∀ p ∈ ([(.slice a_text text.length c_text, text)] : List (Value × List Int)), RdK .u8 W11.heap.size p.2 p.1 W11 ∧ AreBytes p.2 := by
      intro p hp
      simp only [List.mem_cons, List.not_mem_nil, or_false] at hp
      rcases hp with rfl
      · exact ⟨RdK.here (RdK.ext ht x11), htb⟩
    have htg28 := tagC (key ++ List.replicate (64 - key.length) 0) (u2) _ g27 1 _ ([(.slice a_text text.length c_text, text)] : List (Value × List Int)) rfl (by decide) tc tq W11 r1_11 r2_11 (bytes_app hkb (bytes_zeros _)) (by simp only [List.length_append, List.length_replicate]; omega) (OwnN.rd f29_11) r27_11 hps28 (by simp only [List.map_cons, List.map_nil, List.flatten_cons, List.flatten_nil, List.append_nil, List.length_append]; omega)
    rw [show ((List.map Prod.snd ([(.slice a_text text.length c_text, text)] : List (Value × List Int))).flatten) = text by simp only [List.map_cons, List.map_nil, List.flatten_cons, List.flatten_nil, List.append_nil]] at htg28
    refine seq_call (.agg (ints .u8 (hmac (key ++ List.replicate (64 - key.length) 0) (text)))) 15 #[u2, .slice (some ⟨g27, 0, none⟩) 1 1] 44 rfl (by kernel_rfl) (by kernel_rfl) htg28 fun W12 e12 => ?_
    have x12 : Ext w W12 := Ext.tr x11 e12
    refine seq_val (.bool true) 45 rfl (by kernel_rfl) (run_eql_agg 26 _ _ _ _ _ (.bool true) rfl (by kernel_rfl) (by kernel_rfl) (by kernel_rfl) (eql_lists 26 (e := 5) (k := .u8) (hmac (key) (text)) (hmac (key ++ List.replicate (64 - key.length) 0) (text)) (decide_eq_true (hmac_short text hlong)) (hmac_len _ _) (hmac_len _ _) (by kernel_rfl) (by kernel_rfl) (by kernel_rfl) _)) ?_
    refine seq_val (.bool true) 4 rfl (by kernel_rfl) (by kernel_rfl) ?_
    refine seq_nil ?_
    refine hK20 _ _ ?_
    try clear hK20 K20
    refine wp_ret ?_
    repeat (first | with_reducible refine goR1 ?_ | with_reducible refine goR2 ?_)
    exact (show bodyPost _ _ _ .ret _ _ from ret1 (.bool true) rfl (res_tmp (by kernel_rfl)) ⟨rfl, x12⟩)
theorem lawKeys (key text : List Int) (v1 v2 : Value) (B : Nat) (tc tq : TypeId) (w : World) (hc : w.heap[1]? = some (.cells (ints .u64 cubesI) tc)) (hq : w.heap[0]? = some (.cells (ints .u64 squaresI) tq)) (hkb : AreBytes key) (htb : AreBytes text) (hk : RdK .u8 B key v1 w) (ht : RdK .u8 B text v2 w) : Calls Tryd.prog 7 #[v1, v2] w (Ret w (.bool true)) := by
  by_cases h1 : 1000 < key.length
  · exact keys_A key text v1 v2 B tc tq w hc hq hkb htb hk ht h1
  by_cases h2 : 1000 < text.length
  · exact keys_B key text v1 v2 B tc tq w hc hq hkb htb hk ht (by omega) h2
  · exact keys_C key text v1 v2 B tc tq w hc hq hkb htb hk ht (by omega) (by omega)

end Go.Proofs.YtamlhbbphnamnaaDoor.Sha
