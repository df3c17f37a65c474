/- Expanding: what the laws are said with. -/
import Derived.Test.YtamlhbbphnamnaaDoorKexB
import Derived.Test.YtamlhbbphnamnaaDoorOwnV
namespace Go.Proofs.YtamlhbbphnamnaaDoor.Sha
open Go Go.RowKit
open Go.Proofs.YtamlhbbphnamnaaDoor.Rely Go.Proofs.YtamlhbbphnamnaaDoor.Auto Go.Proofs.YtamlhbbphnamnaaDoor.Own
set_option linter.unusedVariables false
set_option linter.unusedSimpArgs false

/-- what a secret is expanded to -/
def kx (key info : List Int) (n : Nat) : List Int := (okm key info n).take n
theorem okm_pre (key info : List Int) (n : Nat) : ∀ (k d : Nat), n ≤ 32 * k → (okm key info (k + d)).take n = (okm key info k).take n
  | k, 0, _ => rfl
  | k, d + 1, h => by
    rw [show k + (d + 1) = (k + d) + 1 by omega, okm, List.take_append_of_le_length (by rw [okm_len]; omega), okm_pre key info n k d h]
theorem kx_of (key info : List Int) (n k : Nat) (h : n ≤ 32 * k) : (okm key info k).take n = kx key info n := by
  unfold kx
  rcases Nat.le_total k n with h1 | h1
  · obtain ⟨d, rfl⟩ : ∃ d, n = k + d := ⟨n - k, by omega⟩
    exact (okm_pre key info _ k d h).symm
  · obtain ⟨d, rfl⟩ : ∃ d, k = n + d := ⟨k - n, by omega⟩
    exact okm_pre key info _ n d (by omega)
theorem kx_len (key info : List Int) (n : Nat) : (kx key info n).length = n := by unfold kx; rw [List.length_take, okm_len]; omega
theorem okm_bytes (key info : List Int) : ∀ k, AreBytes (okm key info k)
  | 0 => fun x hx => by cases hx
  | k + 1 => bytes_app (okm_bytes key info k) (tg_bytes key info (k + 1))
theorem kx_bytes (key info : List Int) (n : Nat) : AreBytes (kx key info n) := fun x hx => okm_bytes key info n x (List.mem_of_mem_take hx)
theorem kx_begin (key info : List Int) (n m : Nat) (h : n ≤ m) : (kx key info m).take n = kx key info n := by
  rw [← kx_of key info m m (by omega), ← kx_of key info n m (by omega), List.take_take, Nat.min_eq_left h]
theorem kexpandX (key info : List Int) (v1 v2 : Value) (B B2 n : Nat) (tc tq : TypeId) (w : World) (hc : w.heap[1]? = some (.cells (ints .u64 cubesI) tc)) (hq : w.heap[0]? = some (.cells (ints .u64 squaresI) tq)) (hn : n ≤ 8160) (hkl : key.length ≤ 800000000) (hil : info.length ≤ 700000000) (hkb : AreBytes key) (hib : AreBytes info) (hk : RdK .u8 B key v1 w) (hi : RdK .u8 B2 info v2 w) :
    Calls Tryd.prog 19 #[v1, v2, .int .i64 ((n : Nat) : Int)] w (Gives w (fun v W => ∃ u, v = .tuple #[u, .nilIface] ∧ OwnN .u8 5 w.heap.size (kx key info n) u W)) :=
  (kexpandC key info v1 v2 B B2 n tc tq w hc hq hn hkl hil hkb hib hk hi).mono fun e W' ⟨v, h1, h2, u, k, h3, h4, h5⟩ => ⟨v, h1, h2, u, h3, kx_of key info n k h4 ▸ h5⟩
theorem rexpandX (key info : List Int) (v1 v2 : Value) (B B2 n : Nat) (w : World) (hn : n ≤ 8160) (hkl : key.length ≤ 800000000) (hil : info.length ≤ 700000000) (hkb : AreBytes key) (hib : AreBytes info) (hk : RdK .u8 B key v1 w) (hi : RdK .u8 B2 info v2 w) :
    Calls Tryd.prog 20 #[v1, v2, .int .i64 ((n : Nat) : Int)] w (Gives w (fun v W => ∃ u, v = .tuple #[u, .bool true] ∧ OwnN .u8 5 w.heap.size (kx key info n) u W)) :=
  (rexpandC key info v1 v2 B B2 n w hn hkl hil hkb hib hk hi).mono fun e W' ⟨v, h1, h2, u, k, h3, h4, h5⟩ => ⟨v, h1, h2, u, h3, kx_of key info n k h4 ▸ h5⟩
theorem OwnN.v {base : Nat} {xs : List Int} {v : Value} {W : World} (h : OwnN .u8 5 base xs v W) : OwnV base xs v W := by
  rcases h.1.2 with ⟨h0, h1⟩ | ⟨g, c, cur, h1, h2, h3, h4, h5, h6, h7⟩
  · exact .inl ⟨h0, List.length_eq_zero_iff.1 h1⟩
  · exact .inr ⟨g, c, cur, h1, h2, h3, by omega, h4, h5, by simpa using h7⟩
theorem CopyN.own {base : Nat} {xs : List Int} {v : Value} {W : World} (h : CopyN 5 base xs v W) : OwnN .u8 5 base xs v W := by
  obtain ⟨g, c, rfl, h2⟩ := h
  have h3 := own_take h2 (n := xs.length) (by simp)
  rwa [List.take_left] at h3
theorem sameT (x y : Value) (xs : List Int) (w : World) (hx : BytesAt w x xs) (hy : BytesAt w y xs) : Calls Tryd.prog 21 #[x, y] w (Ret w (.bool true)) := by
  have h := sameC x y xs xs w hx hy
  rwa [decide_eq_true rfl] at h
theorem nil_bytes (W : World) : BytesAt W (.slice none 0 0) [] := (OwnN.rd (ownN_nil .u8 5 0 W)).bytes (fun x hx => by cases hx)
set_option maxHeartbeats 4000000 in
theorem num4 (w : World) : Calls Tryd.prog 46 #[.iface 38 (.int .i64 4)] w (Ret w (.int .i64 4)) := by
  refine enter 19 [(0, .iface 38 (.int .i64 4))] Tryd.func46 rfl rfl kj rfl ?_
  refine wp_seq_k fun K1 hK1 => ?_
  refine region_lit ?_
  refine seq_val (.int .i64 0) 2 rfl kj kj ?_
  refine seq_nil ?_
  refine hK1 _ _ ?_
  try clear hK1 K1
  refine wp_seq_k fun K2 hK2 => ?_
  refine wp_seq_k fun K3 hK3 => ?_
  refine region_lit ?_
  refine seq_val (.iface 38 (.int .i64 4)) 5 rfl kj kj ?_
  refine seq_val (.bool false) 6 rfl kj kj ?_
  refine seq_nil ?_
  refine hK3 _ _ ?_
  try clear hK3 K3
  refine cond_false kj ?_
  refine wp_skip ?_
  refine hK2 _ _ ?_
  try clear hK2 K2
  refine wp_seq_k fun K4 hK4 => ?_
  refine region_lit ?_
  refine seq_val (.iface 38 (.int .i64 4)) 8 rfl kj kj ?_
  refine seq_val (.tuple #[.int .i64 4, .bool true]) 9 rfl kj kj ?_
  refine seq_val (.tuple #[.int .i64 4, .bool true]) 7 rfl kj kj ?_
  refine seq_val (.int .i64 4) 10 rfl kj kj ?_
  refine seq_val (.bool true) 11 rfl kj kj ?_
  refine seq_val (.int .i64 4) 3 rfl kj kj ?_
  refine seq_val (.bool true) 4 rfl kj kj ?_
  refine seq_nil ?_
  refine hK4 _ _ ?_
  try clear hK4 K4
  refine wp_seq_k fun K5 hK5 => ?_
  refine wp_seq_k fun K6 hK6 => ?_
  refine region_lit ?_
  refine seq_val (.bool true) 12 rfl kj kj ?_
  refine seq_val (.bool false) 13 rfl kj kj ?_
  refine seq_val (.bool false) 14 rfl kj kj ?_
  refine seq_val (.int .i64 4) 15 rfl kj kj ?_
  refine seq_val (.bool false) 16 rfl kj kj ?_
  refine seq_val (.bool false) 17 rfl kj kj ?_
  refine seq_nil ?_
  refine hK6 _ _ ?_
  try clear hK6 K6
  refine cond_false kj ?_
  refine wp_skip ?_
  refine hK5 _ _ ?_
  try clear hK5 K5
  refine wp_seq_k fun K7 hK7 => ?_
  refine region_lit ?_
  refine seq_val (.int .i64 4) 18 rfl kj kj ?_
  refine seq_val (.int .i64 4) 2 rfl kj kj ?_
  refine seq_nil ?_
  refine hK7 _ _ ?_
  try clear hK7 K7
  refine wp_ret ?_
  repeat (first | with_reducible refine goR1 ?_ | with_reducible refine goR2 ?_)
  exact (show bodyPost _ _ _ .ret _ _ from ret1 (.int .i64 4) rfl (res_tmp kj) ⟨rfl, (Rely.Ext.refl w)⟩)
set_option maxHeartbeats 4000000 in
theorem is4 (w : World) : Calls Tryd.prog 22 #[.iface 38 (.int .i64 4), .int .i64 4] w (Ret w (.bool true)) := by
  refine enter 9 [(0, .iface 38 (.int .i64 4)), (1, .int .i64 4)] Tryd.func22 rfl rfl kj rfl ?_
  refine wp_seq_k fun K1 hK1 => ?_
  refine region_lit ?_
  refine seq_val (.bool false) 4 rfl kj kj ?_
  refine seq_nil ?_
  refine hK1 _ _ ?_
  try clear hK1 K1
  refine wp_seq_k fun K2 hK2 => ?_
  refine region_lit ?_
  refine seq_val (.iface 38 (.int .i64 4)) 5 rfl kj kj ?_
  refine seq_call (.int .i64 4) 46 #[.iface 38 (.int .i64 4)] 6 rfl kj kj ((num4) _) fun W1 e1 => ?_
  have x1 : Ext w W1 := Ext.tr (Rely.Ext.refl w) e1
  refine seq_val (.int .i64 4) 7 rfl kj kj ?_
  refine seq_val (.bool true) 8 rfl kj kj ?_
  refine seq_val (.bool true) 4 rfl kj kj ?_
  refine seq_nil ?_
  refine hK2 _ _ ?_
  try clear hK2 K2
  refine wp_ret ?_
  repeat (first | with_reducible refine goR1 ?_ | with_reducible refine goR2 ?_)
  exact (show bodyPost _ _ _ .ret _ _ from ret1 (.bool true) rfl (res_tmp kj) ⟨rfl, x1⟩)

end Go.Proofs.YtamlhbbphnamnaaDoor.Sha
