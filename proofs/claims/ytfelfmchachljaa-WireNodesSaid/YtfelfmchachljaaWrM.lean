/- A reader: numbers, leaves. -/
import Derived.Test.YtfelfmchachljaaWrL
namespace Go.Proofs.Ytfelfmchachljaa.Wr
open Go Go.RowKit
open Go.Proofs.Ytfelfmchachljaa.Rely Go.Proofs.Ytfelfmchachljaa.Auto Go.Proofs.Ytfelfmchachljaa.Own Go.Proofs.Ytfelfmchachljaa.Sha
set_option linter.unusedVariables false
set_option linter.unusedSimpArgs false

/-- a number of bytes, the highest first -/
def bigN (ys : List Int) : Nat := ys.foldl (fun n b => n * 256 + b.toNat) 0
theorem bigN_step (ys : List Int) (i : Nat) (h : i < ys.length) : bigN (ys.take (i + 1)) = bigN (ys.take i) * 256 + (nth ys i).toNat := by
  have e : ys.take (i + 1) = ys.take i ++ [nth ys i] := by
    rw [List.take_add_one, List.getElem?_eq_getElem h]
    unfold nth
    rw [List.getD_eq_getElem?_getD, List.getElem?_eq_getElem h]
    rfl
  unfold bigN
  rw [e, List.foldl_append]
  rfl
theorem big_lt (ys : List Int) (hb : AreBytes ys) : ∀ a : Nat, ys.foldl (fun n b => n * 256 + b.toNat) a < (a + 1) * 256 ^ ys.length := by
  induction ys with
  | nil => intro a; show a < (a + 1) * 1; omega
  | cons y ys ih =>
    intro a
    have h1 := ih (fun x hx => hb x (List.mem_cons_of_mem _ hx)) (a * 256 + y.toNat)
    have h2 := hb y List.mem_cons_self
    refine Nat.lt_of_lt_of_le h1 ?_
    rw [List.length_cons, Nat.pow_succ, Nat.mul_comm (256 ^ ys.length) 256, ← Nat.mul_assoc]
    exact Nat.mul_le_mul_right _ (by omega)
theorem bigN_lt (ys : List Int) (hb : AreBytes ys) (n : Nat) (hn : ys.length ≤ n) : bigN ys < 256 ^ n := by
  have h := big_lt ys hb 0
  rw [Nat.zero_add, Nat.one_mul] at h
  exact Nat.lt_of_lt_of_le h (Nat.pow_le_pow_right (by decide) hn)
theorem bigN_lt4 (ys : List Int) (hb : AreBytes ys) (hn : ys.length ≤ 4) : bigN ys < 4294967296 := bigN_lt ys hb 4 hn
theorem or_byte (a b c : Nat) (hb : b < 256) (hc : a * 256 + b = c) (hs : c < 4611686018427387904) : bits .or .i64 ((a * 256 : Nat) : Int) ((b : Nat) : Int) = ((c : Nat) : Int) := by
  have h : bits .or .i64 ((a * 256 : Nat) : Int) ((b : Nat) : Int) = IntKind.i64.wrap (((BitVec.ofInt 64 ((a * 256 : Nat) : Int)) ||| (BitVec.ofInt 64 ((b : Nat) : Int))).toNat : Int) := rfl
  rw [h, BitVec.toNat_or, BitVec.toNat_ofInt, BitVec.toNat_ofInt]
  have e1 : (((a * 256 : Nat) : Int) % ((2 ^ 64 : Nat) : Int)).toNat = 2 ^ 8 * a := by omega
  have e2 : (((b : Nat) : Int) % ((2 ^ 64 : Nat) : Int)).toNat = b := by omega
  rw [e1, e2, ← Nat.two_pow_add_eq_or_of_lt (i := 8) (by omega) a, show 2 ^ 8 * a + b = c by omega]
  exact IntWalk.i64_in _ (by omega)
theorem shl_byte8 (a : Nat) (h : a * 256 < 4611686018427387904) : IntKind.i64.wrap (((a : Nat) : Int) * 2 ^ min (8 : Int).toNat IntKind.i64.bits) = ((a * 256 : Nat) : Int) := by
  rw [show (2 : Int) ^ min (8 : Int).toNat IntKind.i64.bits = 256 by decide]
  exact (IntWalk.i64_in _ (by omega)).trans (by omega)
theorem byteN {ys : List Int} (hb : AreBytes ys) (i : Nat) : IntKind.i64.wrap (nth ys i) = (((nth ys i).toNat : Nat) : Int) ∧ (nth ys i).toNat < 256 := by
  have h : 0 ≤ nth ys i ∧ nth ys i ≤ 255 := by
    unfold nth
    rw [List.getD_eq_getElem?_getD]
    cases e : ys[i]? with
    | none => exact ⟨Int.le_refl _, by decide⟩
    | some x => exact hb x (List.mem_of_getElem? e)
  exact ⟨(IntWalk.i64_in _ (by omega)).trans (by omega), by omega⟩
set_option maxHeartbeats 4000000 in
theorem rnumberR (B gr : Nat) (s : Option (List Int)) (size : Nat) (w : World) (hB : B ≤ gr) (h : RSt B gr s w) (hsz : size ≤ 4) : Calls Try.prog 110 #[.pointer (some ⟨gr, 0, none⟩), .int .i64 ((size : Nat) : Int)] w (GivesR B gr w (takeS s size) fun v _ => v = .int .i64 ((bigN (takeL s size) : Nat) : Int)) := by
  have hgr := h.lt
  refine enter 23 [(0, .pointer (some ⟨gr, 0, none⟩)), (1, .int .i64 ((size : Nat) : Int))] Try.func110 rfl rfl kj rfl ?_
  refine wp_seq_k fun K1 hK1 => ?_
  refine region_lit ?_
  refine seq_val (.int .i64 0) 4 rfl kj kj ?_
  refine seq_nil ?_
  refine hK1 _ _ ?_
  try clear hK1 K1
  refine wp_seq_k fun K2 hK2 => ?_
  refine region_lit ?_
  refine seq_val (.int .i64 0) 5 rfl kj kj ?_
  refine seq_nil ?_
  refine hK2 _ _ ?_
  try clear hK2 K2
  refine wp_seq_k fun K3 hK3 => ?_
  refine wp_seq_k fun K4 hK4 => ?_
  refine region_lit ?_
  refine seq_val (.pointer (some ⟨gr, 0, none⟩)) 8 rfl kj kj ?_
  refine seq_val (.int .i64 ((size : Nat) : Int)) 9 rfl kj kj ?_
  refine seq_callR (fun v W' => ExtB gr w W' ∧ RSt B gr (takeS (s) size) W' ∧ (fun (v : Value) (W : World) => RdK .u8 B (takeL (s) size) v W ∧ AreBytes (takeL (s) size)) v W') 124 #[.pointer (some ⟨gr, 0, none⟩), .int .i64 ((size : Nat) : Int)] 10 rfl kj kj (rrawR B gr _ size _ hB h) fun vv5 W1 hh5 => ?_
  obtain ⟨q1, rs5, hv5⟩ := hh5
  have x1 : ExtB gr w W1 := ExtB.tr (ExtB.refl gr w) q1
  obtain ⟨hr, hyb⟩ := hv5
  have hyl := takeL_le s size
  obtain ⟨ys, hys⟩ : ∃ z, z = takeL s size := ⟨_, rfl⟩
  rw [← hys] at hr hyb hyl
  obtain ⟨a_y, c_y, rfl, -⟩ := id hr
  refine seq_val (.int .i64 ((ys.length : Nat) : Int)) 11 rfl kj kj ?_
  refine seq_val (.int .i64 0) 12 rfl kj kj ?_
  refine seq_nil ?_
  refine hK4 _ _ ?_
  try clear hK4 K4
  refine wp_block ?_
  refine loop_auto (fun (s1 : Nat) => [(5, .int .i64 ((bigN (ys.take s1) : Nat) : Int)), (10, .slice a_y ys.length c_y), (11, .int .i64 ((ys.length : Nat) : Int)), (12, .int .i64 ((s1 : Nat) : Int))]) (fun (s1 : Nat) W => (s1 ≤ ys.length) ∧ (Ext W1 W) ∧ (ExtB gr w W)) (fun (s1 : Nat) => ys.length - s1) 0 ⟨rfl, rfl, rfl, rfl, trivial⟩ ⟨(Nat.zero_le _), (Rely.Ext.refl W1), x1⟩ fun s1 X1 V1 hI1 => ?_
  obtain ⟨i, hs1⟩ : ∃ z, z = s1 := ⟨_, rfl⟩
  subst hs1
  obtain ⟨hi, kk1, xx1⟩ := hI1
  replace hi : i ≤ ys.length := hi
  replace kk1 : Ext W1 V1 := kk1
  replace xx1 : ExtB gr w V1 := xx1
  have e2 := kk1
  refine wp_seq_k fun K6 hK6 => ?_
  refine region_lit ?_
  refine seq_val (.bool (decide (((i : Nat) : Int) < ((ys.length : Nat) : Int)))) 13 rfl kj kj ?_
  refine seq_nil ?_
  refine hK6 _ _ ?_
  try clear hK6 K6
  refine wp_seq_k fun K7 hK7 => ?_
  refine cond_split (t := decide (((i : Nat) : Int) < ((ys.length : Nat) : Int))) kj (fun c8 => ?_) (fun c8 => ?_)
  · skip
    have hlt13 : i < ys.length := by have := of_decide_eq_true c8; omega
    have f10_2 := (hr.ext e2)
    have hny_9 : (ys).length = ys.length := rfl
    obtain ⟨gcy_9, ocy_9, hay_9, hly_9, hcy_9⟩ := rdK_open f10_2 (by rw [hny_9]; omega)
    have hq := bigN_step ys i hlt13
    have hq1 := bigN_lt4 (ys.take i) (bytes_take hyb i) (by rw [List.length_take]; omega)
    obtain ⟨hq2, hq3⟩ := byteN hyb i
    refine wp_skip ?_
    refine hK7 _ _ ?_
    try clear hK7 K7
    refine wp_seq_k fun K11 hK11 => ?_
    refine wp_block ?_
    refine wp_seq_k fun K12 hK12 => ?_
    refine region_lit ?_
    refine seq_val (.pointer (some ⟨gcy_9, ocy_9 + i, none⟩)) 14 rfl kj (run_indexA 26 _ _ .i64 i gcy_9 ocy_9 ys.length c_y 5 a_y _ hay_9 rfl rfl kj kj kj kj (Nat.lt_of_lt_of_eq (show i < ys.length by omega) hny_9.symm)) ?_
    refine seq_val (.int .u8 (nth (ys) (i))) 15 rfl kj (run_loadCell 5 _ _ (.int .u8 (nth (ys) (i))) (hcy_9 i (Nat.lt_of_lt_of_eq (show i < ys.length by omega) hny_9.symm)) rfl kj kj) ?_
    refine seq_val (.int .u8 (nth (ys) (i))) 7 rfl kj kj ?_
    refine seq_nil ?_
    refine hK12 _ _ ?_
    try clear hK12 K12
    refine region_lit ?_
    refine seq_val (.int .i64 ((bigN (ys.take i) : Nat) : Int)) 16 rfl kj kj ?_
    refine seq_val (.int .i64 (((bigN (ys.take i) * 256 : Nat) : Int))) 17 rfl kj (run_bin .shl _ _ _ _ .i64 .u64 _ _ _ rfl kj kj (b_shl _ _ _ _ _ _ (by decide) (shl_byte8 _ (by omega)))) ?_
    refine seq_val (.int .u8 (nth (ys) (i))) 18 rfl kj kj ?_
    refine seq_val (.int .i64 ((((nth ys i).toNat : Nat) : Int))) 19 rfl kj (run_eq (u := .int .i64 (IntKind.i64.wrap (nth (ys) (i)))) kj (congrArg (Value.int .i64) hq2)) ?_
    refine seq_val (.int .i64 (((bigN (ys.take (i + 1)) : Nat) : Int))) 20 rfl kj (run_eq (u := .int .i64 (bits .or .i64 (((bigN (ys.take i) * 256 : Nat) : Int)) ((((nth ys i).toNat : Nat) : Int)))) kj (congrArg (Value.int .i64) (or_byte _ _ _ hq3 hq.symm (by omega)))) ?_
    refine seq_val (.int .i64 (((bigN (ys.take (i + 1)) : Nat) : Int))) 5 rfl kj kj ?_
    refine seq_nil ?_
    refine hK11 _ _ ?_
    try clear hK11 K11
    refine region_lit ?_
    refine seq_val (.int .i64 ((i + 1 : Nat) : Int)) 21 rfl kj (run_eq (u := .int .i64 (IntKind.i64.wrap (((i : Nat) : Int) + 1))) kj (congrArg (Value.int .i64) (i64n _ _ (by omega) (by omega)))) ?_
    refine seq_val (.int .i64 ((i + 1 : Nat) : Int)) 12 rfl kj kj ?_
    refine seq_nil ?_
    repeat (first | with_reducible refine goX1 ?_ | with_reducible refine goX2 ?_ | with_reducible refine goX3 ?_)
    exact goes_then (i + 1) ⟨rfl, rfl, rfl, rfl, trivial⟩ ⟨(by omega), e2, xx1⟩ (by omega)
  · skip
    have heq13 : i = ys.length := by have := of_decide_eq_false c8; omega
    refine wp_exit ?_
    refine hK3 _ _ ?_
    try clear hK3 K3
    refine wp_seq_k fun K13 hK13 => ?_
    refine region_lit ?_
    refine seq_val (.int .i64 ((bigN (ys.take i) : Nat) : Int)) 22 rfl kj kj ?_
    refine seq_val (.int .i64 ((bigN (ys.take i) : Nat) : Int)) 4 rfl kj kj ?_
    refine seq_nil ?_
    refine hK13 _ _ ?_
    try clear hK13 K13
    refine wp_ret ?_
    repeat (first | with_reducible refine goR1 ?_ | with_reducible refine goR2 ?_)
    have rs14 := (RSt.ext rs5 hB e2)
    exact (show bodyPost _ _ _ .ret _ _ from ret1 (.int .i64 ((bigN (ys.take i) : Nat) : Int)) rfl (res_tmp kj) ⟨_, rfl, xx1, rs14, by rw [heq13, List.take_length, hys]⟩)
/-- a leaf's number: what is left then -/
def leafR (s : Option (List Int)) : Option (List Int) := mustS (takeS s 1) (decide (((bigN (takeL s 1) : Nat) : Int) < 32))
set_option maxHeartbeats 4000000 in
theorem rleafR (B gr : Nat) (s : Option (List Int)) (w : World) (hB : B ≤ gr) (h : RSt B gr s w) : Calls Try.prog 111 #[.pointer (some ⟨gr, 0, none⟩)] w (GivesR B gr w (leafR s) fun v _ => v = .int .i64 ((bigN (takeL s 1) : Nat) : Int)) := by
  have hgr := h.lt
  refine enter 11 [(0, .pointer (some ⟨gr, 0, none⟩))] Try.func111 rfl rfl kj rfl ?_
  refine wp_seq_k fun K1 hK1 => ?_
  refine region_lit ?_
  refine seq_val (.int .i64 0) 2 rfl kj kj ?_
  refine seq_nil ?_
  refine hK1 _ _ ?_
  try clear hK1 K1
  refine wp_seq_k fun K2 hK2 => ?_
  refine region_lit ?_
  refine seq_val (.pointer (some ⟨gr, 0, none⟩)) 4 rfl kj kj ?_
  refine seq_callR (fun v W' => ExtB gr w W' ∧ RSt B gr (takeS (s) 1) W' ∧ (fun (v : Value) (_ : World) => v = .int .i64 ((bigN (takeL (s) 1) : Nat) : Int)) v W') 110 #[.pointer (some ⟨gr, 0, none⟩), .int .i64 1] 5 rfl kj kj (rnumberR B gr _ 1 _ hB h (by decide)) fun vv3 W1 hh3 => ?_
  obtain ⟨q1, rs3, hv3⟩ := hh3
  have x1 : ExtB gr w W1 := ExtB.tr (ExtB.refl gr w) q1
  subst hv3
  refine seq_val (.int .i64 ((bigN (takeL (s) 1) : Nat) : Int)) 3 rfl kj kj ?_
  refine seq_nil ?_
  refine hK2 _ _ ?_
  try clear hK2 K2
  refine wp_seq_k fun K4 hK4 => ?_
  refine region_lit ?_
  refine seq_val (.pointer (some ⟨gr, 0, none⟩)) 6 rfl kj kj ?_
  refine seq_val (.int .i64 ((bigN (takeL (s) 1) : Nat) : Int)) 7 rfl kj kj ?_
  refine seq_val (.bool (decide (((bigN (takeL (s) 1) : Nat) : Int) < 32))) 8 rfl kj kj ?_
  refine seq_callR (fun v W' => ExtB gr W1 W' ∧ RSt B gr (mustS (takeS (s) 1) (decide (((bigN (takeL (s) 1) : Nat) : Int) < 32))) W' ∧ (fun (v : Value) (_ : World) => v = .tuple #[]) v W') 103 #[.pointer (some ⟨gr, 0, none⟩), .bool (decide (((bigN (takeL (s) 1) : Nat) : Int) < 32))] 9 rfl kj kj (rmustR B gr _ (decide (((bigN (takeL (s) 1) : Nat) : Int) < 32)) _ hB rs3) fun vv5 W2 hh5 => ?_
  obtain ⟨q2, rs5, hv5⟩ := hh5
  have x2 : ExtB gr w W2 := ExtB.tr x1 q2
  subst hv5
  refine seq_nil ?_
  refine hK4 _ _ ?_
  try clear hK4 K4
  refine wp_seq_k fun K6 hK6 => ?_
  refine region_lit ?_
  refine seq_val (.int .i64 ((bigN (takeL (s) 1) : Nat) : Int)) 10 rfl kj kj ?_
  refine seq_val (.int .i64 ((bigN (takeL (s) 1) : Nat) : Int)) 2 rfl kj kj ?_
  refine seq_nil ?_
  refine hK6 _ _ ?_
  try clear hK6 K6
  refine wp_ret ?_
  repeat (first | with_reducible refine goR1 ?_ | with_reducible refine goR2 ?_)
  exact (show bodyPost _ _ _ .ret _ _ from ret1 (.int .i64 ((bigN (takeL (s) 1) : Nat) : Int)) rfl (res_tmp kj) ⟨_, rfl, x2, rs5, rfl⟩)

end Go.Proofs.Ytfelfmchachljaa.Wr
