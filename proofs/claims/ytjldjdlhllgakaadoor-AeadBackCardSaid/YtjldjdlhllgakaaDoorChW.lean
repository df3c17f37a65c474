/- ChaCha20: the quarter round. -/
import Derived.Test.YtjldjdlhllgakaaDoorIter
import Derived.Test.YtjldjdlhllgakaaDoorAppZ
namespace Go.Proofs.YtjldjdlhllgakaaDoor.Cha
open Go Go.RowKit
open Go.Proofs.YtjldjdlhllgakaaDoor.Rely Go.Proofs.YtjldjdlhllgakaaDoor.Auto Go.Proofs.YtjldjdlhllgakaaDoor.Own Go.Proofs.YtjldjdlhllgakaaDoor.Sha
set_option linter.unusedVariables false
set_option linter.unusedSimpArgs false

open Go.Proofs.YtjldjdlhllgakaaDoor.Sha
section
variable {P : Program} {fn : Func} {R : Ending → World → Prop} {N : Nat} {L : Env} {w : World}
theorem run_results4 {r s t q : ResultVar} {u v x y : Value} (hr : fn.results = #[r, s, t, q]) (h : ResIs P w N L r u) (k : ResIs P w N L s v) (l : ResIs P w N L t x) (m : ResIs P w N L q y) : (results fn (actOf [] N L).tmps).run P w = .ok (.tuple #[u, v, x, y]) w := by
  rw [results_eq, hr]
  simp [run_resOne h, run_resOne k, run_resOne l, run_resOne m, Sem.run_bind]
theorem ret4 {r s t q : ResultVar} (u v x y : Value) (hr : fn.results = #[r, s, t, q]) (h : ResIs P w N L r u) (k : ResIs P w N L s v) (l : ResIs P w N L t x) (m : ResIs P w N L q y) (z : R (.returned (.tuple #[u, v, x, y])) w) : bodyPost P fn R .ret (actOf [] N L) w := bodyPost_ret (run_results4 hr h k l m) rfl z
end
/-- a word turned left -/
def rl (x : Wd) (n : Nat) : Wd := x <<< n ||| x >>> (32 - n)
theorem u64_id (n : Nat) (hn : n < 32) : IntKind.u64.wrap ((n : Nat) : Int) = ((n : Nat) : Int) := by
  have : ∀ z : Int, IntKind.u64.wrap z = z % 2 ^ 64 := fun _ => rfl
  rw [this]; omega
theorem and31p : ∀ n : Nat, n < 32 → bits .and .u64 ((n : Nat) : Int) 31 = ((n : Nat) : Int) := by
  have h : ∀ n : Fin 32, bits .and .u64 ((n.1 : Nat) : Int) 31 = ((n.1 : Nat) : Int) := by decide
  intro n hn
  exact h ⟨n, hn⟩
theorem u64_left (n : Nat) (hn : n < 32) : IntKind.u64.wrap (32 - ((n : Nat) : Int)) = ((32 - n : Nat) : Int) := by
  have : ∀ z : Int, IntKind.u64.wrap z = z % 2 ^ 64 := fun _ => rfl
  rw [this]; omega
def qA (a b : Wd) : Wd := a + b
def qD (a b d : Wd) : Wd := rl (d ^^^ (a + b)) 16
def qC (a b c d : Wd) : Wd := c + qD a b d
def qB (a b c d : Wd) : Wd := rl (b ^^^ qC a b c d) 12
def qA2 (a b c d : Wd) : Wd := qA a b + qB a b c d
def qD2 (a b c d : Wd) : Wd := rl (qD a b d ^^^ qA2 a b c d) 8
def qC2 (a b c d : Wd) : Wd := qC a b c d + qD2 a b c d
def qB2 (a b c d : Wd) : Wd := rl (qB a b c d ^^^ qC2 a b c d) 7
set_option maxHeartbeats 4000000 in
theorem rotL (x : Wd) (n : Nat) (m : Int) (hm : m = (n : Int)) (hn : n < 32) (w : World) : Calls Tryd.prog 60 #[.int .u32 (wv x), .int .i64 m] w (Ret w (.int .u32 (wv (rl x n)))) := by
  subst hm
  refine enter 17 [(0, .int .u32 (wv x)), (1, .int .i64 ((n : Nat) : Int))] Tryd.func60 rfl rfl kj rfl ?_
  refine wp_seq_k fun K1 hK1 => ?_
  refine region_lit ?_
  refine seq_val (.int .u32 0) 4 rfl kj kj ?_
  refine seq_nil ?_
  refine hK1 _ _ ?_
  try clear hK1 K1
  refine wp_seq_k fun K2 hK2 => ?_
  refine region_lit ?_
  refine seq_val (.int .i64 ((n : Nat) : Int)) 6 rfl kj kj ?_
  refine seq_val (.int .u64 (((n : Nat) : Int))) 7 rfl kj (run_eq (u := .int .u64 (IntKind.u64.wrap ((n : Nat) : Int))) kj (congrArg (Value.int .u64) (u64_id n hn))) ?_
  refine seq_val (.int .u64 (((n : Nat) : Int))) 8 rfl kj (run_eq (u := .int .u64 (bits .and .u64 (((n : Nat) : Int)) (31))) kj (congrArg (Value.int .u64) (and31p n hn))) ?_
  refine seq_val (.int .u64 (((n : Nat) : Int))) 5 rfl kj kj ?_
  refine seq_nil ?_
  refine hK2 _ _ ?_
  try clear hK2 K2
  refine wp_seq_k fun K3 hK3 => ?_
  refine region_lit ?_
  refine seq_val (.int .u32 (wv x)) 9 rfl kj kj ?_
  refine seq_val (.int .u64 (((n : Nat) : Int))) 10 rfl kj kj ?_
  refine seq_val (.int .u32 (wv (x <<< n))) 11 rfl kj (run_bin .shl _ _ _ _ .u32 .u64 _ _ _ rfl kj kj (b_shl _ _ _ _ _ _ (by omega) (w_shl x _ n rfl (by omega)))) ?_
  refine seq_val (.int .u32 (wv x)) 12 rfl kj kj ?_
  refine seq_val (.int .u64 (((n : Nat) : Int))) 13 rfl kj kj ?_
  refine seq_val (.int .u64 (((32 - n : Nat) : Int))) 14 rfl kj (run_eq (u := .int .u64 (IntKind.u64.wrap (32 - ((n : Nat) : Int)))) kj (congrArg (Value.int .u64) (u64_left n hn))) ?_
  refine seq_val (.int .u32 (wv (x >>> (32 - n)))) 15 rfl kj (run_bin .shr _ _ _ _ .u32 .u64 _ _ _ rfl kj kj (b_shr _ _ _ _ _ _ (by omega) (w_shr x _ (32 - n) rfl (by omega)))) ?_
  refine seq_val (.int .u32 (wv (((x <<< n)) ||| ((x >>> (32 - n)))))) 16 rfl kj (run_eq (u := .int .u32 (bits .or .u32 (wv (x <<< n)) (wv (x >>> (32 - n))))) kj (congrArg (Value.int .u32) (w_or _ _))) ?_
  refine seq_val (.int .u32 (wv (((x <<< n)) ||| ((x >>> (32 - n)))))) 4 rfl kj kj ?_
  refine seq_nil ?_
  refine hK3 _ _ ?_
  try clear hK3 K3
  refine wp_ret ?_
  repeat (first | with_reducible refine goR1 ?_ | with_reducible refine goR2 ?_)
  exact (show bodyPost _ _ _ .ret _ _ from ret1 (.int .u32 (wv (((x <<< n)) ||| ((x >>> (32 - n)))))) rfl (res_tmp kj) ⟨rfl, (Rely.Ext.refl w)⟩)
set_option maxHeartbeats 4000000 in
theorem quarterC (a b c d : Wd) (w : World) : Calls Tryd.prog 58 #[.int .u32 (wv a), .int .u32 (wv b), .int .u32 (wv c), .int .u32 (wv d)] w (Ret w (.tuple #[.int .u32 (wv (qA2 a b c d)), .int .u32 (wv (qB2 a b c d)), .int .u32 (wv (qC2 a b c d)), .int .u32 (wv (qD2 a b c d))])) := by
  refine enter 44 [(0, .int .u32 (wv a)), (1, .int .u32 (wv b)), (2, .int .u32 (wv c)), (3, .int .u32 (wv d))] Tryd.func58 rfl rfl kj rfl ?_
  refine wp_seq_k fun K1 hK1 => ?_
  refine region_lit ?_
  refine seq_val (.int .u32 0) 8 rfl kj kj ?_
  refine seq_val (.int .u32 0) 9 rfl kj kj ?_
  refine seq_val (.int .u32 0) 10 rfl kj kj ?_
  refine seq_val (.int .u32 0) 11 rfl kj kj ?_
  refine seq_nil ?_
  refine hK1 _ _ ?_
  try clear hK1 K1
  refine wp_seq_k fun K2 hK2 => ?_
  refine region_lit ?_
  refine seq_val (.int .u32 (wv a)) 12 rfl kj kj ?_
  refine seq_val (.int .u32 (wv b)) 13 rfl kj kj ?_
  refine seq_val (.int .u32 (wv ((a) + (b)))) 14 rfl kj (run_eq (u := .int .u32 (IntKind.u32.wrap (wv a + wv b))) kj (congrArg (Value.int .u32) (w_add _ _))) ?_
  refine seq_val (.int .u32 (wv ((a) + (b)))) 0 rfl kj kj ?_
  refine seq_nil ?_
  refine hK2 _ _ ?_
  try clear hK2 K2
  refine wp_seq_k fun K3 hK3 => ?_
  refine region_lit ?_
  refine seq_val (.int .u32 (wv d)) 15 rfl kj kj ?_
  refine seq_val (.int .u32 (wv ((a) + (b)))) 16 rfl kj kj ?_
  refine seq_val (.int .u32 (wv ((d) ^^^ (((a) + (b)))))) 17 rfl kj (run_eq (u := .int .u32 (bits .xor .u32 (wv d) (wv ((a) + (b))))) kj (congrArg (Value.int .u32) (w_xor _ _))) ?_
  refine seq_call (.int .u32 (wv (rl ((d) ^^^ (((a) + (b)))) 16))) 60 #[.int .u32 (wv ((d) ^^^ (((a) + (b))))), .int .i64 16] 18 rfl kj kj ((rotL ((d) ^^^ (((a) + (b)))) 16 16 rfl (by decide)) _) fun W1 e1 => ?_
  have x1 : Ext w W1 := Ext.tr (Rely.Ext.refl w) e1
  refine seq_val (.int .u32 (wv (rl ((d) ^^^ (((a) + (b)))) 16))) 3 rfl kj kj ?_
  refine seq_nil ?_
  refine hK3 _ _ ?_
  try clear hK3 K3
  refine wp_seq_k fun K4 hK4 => ?_
  refine region_lit ?_
  refine seq_val (.int .u32 (wv c)) 19 rfl kj kj ?_
  refine seq_val (.int .u32 (wv (rl ((d) ^^^ (((a) + (b)))) 16))) 20 rfl kj kj ?_
  refine seq_val (.int .u32 (wv ((c) + ((rl ((d) ^^^ (((a) + (b)))) 16))))) 21 rfl kj (run_eq (u := .int .u32 (IntKind.u32.wrap (wv c + wv (rl ((d) ^^^ (((a) + (b)))) 16)))) kj (congrArg (Value.int .u32) (w_add _ _))) ?_
  refine seq_val (.int .u32 (wv ((c) + ((rl ((d) ^^^ (((a) + (b)))) 16))))) 2 rfl kj kj ?_
  refine seq_nil ?_
  refine hK4 _ _ ?_
  try clear hK4 K4
  refine wp_seq_k fun K5 hK5 => ?_
  refine region_lit ?_
  refine seq_val (.int .u32 (wv b)) 22 rfl kj kj ?_
  refine seq_val (.int .u32 (wv ((c) + ((rl ((d) ^^^ (((a) + (b)))) 16))))) 23 rfl kj kj ?_
  refine seq_val (.int .u32 (wv ((b) ^^^ (((c) + ((rl ((d) ^^^ (((a) + (b)))) 16))))))) 24 rfl kj (run_eq (u := .int .u32 (bits .xor .u32 (wv b) (wv ((c) + ((rl ((d) ^^^ (((a) + (b)))) 16)))))) kj (congrArg (Value.int .u32) (w_xor _ _))) ?_
  refine seq_call (.int .u32 (wv (rl ((b) ^^^ (((c) + ((rl ((d) ^^^ (((a) + (b)))) 16))))) 12))) 60 #[.int .u32 (wv ((b) ^^^ (((c) + ((rl ((d) ^^^ (((a) + (b)))) 16)))))), .int .i64 12] 25 rfl kj kj ((rotL ((b) ^^^ (((c) + ((rl ((d) ^^^ (((a) + (b)))) 16))))) 12 12 rfl (by decide)) _) fun W2 e2 => ?_
  have x2 : Ext w W2 := Ext.tr x1 e2
  refine seq_val (.int .u32 (wv (rl ((b) ^^^ (((c) + ((rl ((d) ^^^ (((a) + (b)))) 16))))) 12))) 1 rfl kj kj ?_
  refine seq_nil ?_
  refine hK5 _ _ ?_
  try clear hK5 K5
  refine wp_seq_k fun K6 hK6 => ?_
  refine region_lit ?_
  refine seq_val (.int .u32 (wv ((a) + (b)))) 26 rfl kj kj ?_
  refine seq_val (.int .u32 (wv (rl ((b) ^^^ (((c) + ((rl ((d) ^^^ (((a) + (b)))) 16))))) 12))) 27 rfl kj kj ?_
  refine seq_val (.int .u32 (wv ((((a) + (b))) + ((rl ((b) ^^^ (((c) + ((rl ((d) ^^^ (((a) + (b)))) 16))))) 12))))) 28 rfl kj (run_eq (u := .int .u32 (IntKind.u32.wrap (wv ((a) + (b)) + wv (rl ((b) ^^^ (((c) + ((rl ((d) ^^^ (((a) + (b)))) 16))))) 12)))) kj (congrArg (Value.int .u32) (w_add _ _))) ?_
  refine seq_val (.int .u32 (wv ((((a) + (b))) + ((rl ((b) ^^^ (((c) + ((rl ((d) ^^^ (((a) + (b)))) 16))))) 12))))) 0 rfl kj kj ?_
  refine seq_nil ?_
  refine hK6 _ _ ?_
  try clear hK6 K6
  refine wp_seq_k fun K7 hK7 => ?_
  refine region_lit ?_
  refine seq_val (.int .u32 (wv (rl ((d) ^^^ (((a) + (b)))) 16))) 29 rfl kj kj ?_
  refine seq_val (.int .u32 (wv ((((a) + (b))) + ((rl ((b) ^^^ (((c) + ((rl ((d) ^^^ (((a) + (b)))) 16))))) 12))))) 30 rfl kj kj ?_
  refine seq_val (.int .u32 (wv (((rl ((d) ^^^ (((a) + (b)))) 16)) ^^^ (((((a) + (b))) + ((rl ((b) ^^^ (((c) + ((rl ((d) ^^^ (((a) + (b)))) 16))))) 12))))))) 31 rfl kj (run_eq (u := .int .u32 (bits .xor .u32 (wv (rl ((d) ^^^ (((a) + (b)))) 16)) (wv ((((a) + (b))) + ((rl ((b) ^^^ (((c) + ((rl ((d) ^^^ (((a) + (b)))) 16))))) 12)))))) kj (congrArg (Value.int .u32) (w_xor _ _))) ?_
  refine seq_call (.int .u32 (wv (rl (((rl ((d) ^^^ (((a) + (b)))) 16)) ^^^ (((((a) + (b))) + ((rl ((b) ^^^ (((c) + ((rl ((d) ^^^ (((a) + (b)))) 16))))) 12))))) 8))) 60 #[.int .u32 (wv (((rl ((d) ^^^ (((a) + (b)))) 16)) ^^^ (((((a) + (b))) + ((rl ((b) ^^^ (((c) + ((rl ((d) ^^^ (((a) + (b)))) 16))))) 12)))))), .int .i64 8] 32 rfl kj kj ((rotL (((rl ((d) ^^^ (((a) + (b)))) 16)) ^^^ (((((a) + (b))) + ((rl ((b) ^^^ (((c) + ((rl ((d) ^^^ (((a) + (b)))) 16))))) 12))))) 8 8 rfl (by decide)) _) fun W3 e3 => ?_
  have x3 : Ext w W3 := Ext.tr x2 e3
  refine seq_val (.int .u32 (wv (rl (((rl ((d) ^^^ (((a) + (b)))) 16)) ^^^ (((((a) + (b))) + ((rl ((b) ^^^ (((c) + ((rl ((d) ^^^ (((a) + (b)))) 16))))) 12))))) 8))) 3 rfl kj kj ?_
  refine seq_nil ?_
  refine hK7 _ _ ?_
  try clear hK7 K7
  refine wp_seq_k fun K8 hK8 => ?_
  refine region_lit ?_
  refine seq_val (.int .u32 (wv ((c) + ((rl ((d) ^^^ (((a) + (b)))) 16))))) 33 rfl kj kj ?_
  refine seq_val (.int .u32 (wv (rl (((rl ((d) ^^^ (((a) + (b)))) 16)) ^^^ (((((a) + (b))) + ((rl ((b) ^^^ (((c) + ((rl ((d) ^^^ (((a) + (b)))) 16))))) 12))))) 8))) 34 rfl kj kj ?_
  refine seq_val (.int .u32 (wv ((((c) + ((rl ((d) ^^^ (((a) + (b)))) 16)))) + ((rl (((rl ((d) ^^^ (((a) + (b)))) 16)) ^^^ (((((a) + (b))) + ((rl ((b) ^^^ (((c) + ((rl ((d) ^^^ (((a) + (b)))) 16))))) 12))))) 8))))) 35 rfl kj (run_eq (u := .int .u32 (IntKind.u32.wrap (wv ((c) + ((rl ((d) ^^^ (((a) + (b)))) 16))) + wv (rl (((rl ((d) ^^^ (((a) + (b)))) 16)) ^^^ (((((a) + (b))) + ((rl ((b) ^^^ (((c) + ((rl ((d) ^^^ (((a) + (b)))) 16))))) 12))))) 8)))) kj (congrArg (Value.int .u32) (w_add _ _))) ?_
  refine seq_val (.int .u32 (wv ((((c) + ((rl ((d) ^^^ (((a) + (b)))) 16)))) + ((rl (((rl ((d) ^^^ (((a) + (b)))) 16)) ^^^ (((((a) + (b))) + ((rl ((b) ^^^ (((c) + ((rl ((d) ^^^ (((a) + (b)))) 16))))) 12))))) 8))))) 2 rfl kj kj ?_
  refine seq_nil ?_
  refine hK8 _ _ ?_
  try clear hK8 K8
  refine wp_seq_k fun K9 hK9 => ?_
  refine region_lit ?_
  refine seq_val (.int .u32 (wv (rl ((b) ^^^ (((c) + ((rl ((d) ^^^ (((a) + (b)))) 16))))) 12))) 36 rfl kj kj ?_
  refine seq_val (.int .u32 (wv ((((c) + ((rl ((d) ^^^ (((a) + (b)))) 16)))) + ((rl (((rl ((d) ^^^ (((a) + (b)))) 16)) ^^^ (((((a) + (b))) + ((rl ((b) ^^^ (((c) + ((rl ((d) ^^^ (((a) + (b)))) 16))))) 12))))) 8))))) 37 rfl kj kj ?_
  refine seq_val (.int .u32 (wv (((rl ((b) ^^^ (((c) + ((rl ((d) ^^^ (((a) + (b)))) 16))))) 12)) ^^^ (((((c) + ((rl ((d) ^^^ (((a) + (b)))) 16)))) + ((rl (((rl ((d) ^^^ (((a) + (b)))) 16)) ^^^ (((((a) + (b))) + ((rl ((b) ^^^ (((c) + ((rl ((d) ^^^ (((a) + (b)))) 16))))) 12))))) 8))))))) 38 rfl kj (run_eq (u := .int .u32 (bits .xor .u32 (wv (rl ((b) ^^^ (((c) + ((rl ((d) ^^^ (((a) + (b)))) 16))))) 12)) (wv ((((c) + ((rl ((d) ^^^ (((a) + (b)))) 16)))) + ((rl (((rl ((d) ^^^ (((a) + (b)))) 16)) ^^^ (((((a) + (b))) + ((rl ((b) ^^^ (((c) + ((rl ((d) ^^^ (((a) + (b)))) 16))))) 12))))) 8)))))) kj (congrArg (Value.int .u32) (w_xor _ _))) ?_
  refine seq_call (.int .u32 (wv (rl (((rl ((b) ^^^ (((c) + ((rl ((d) ^^^ (((a) + (b)))) 16))))) 12)) ^^^ (((((c) + ((rl ((d) ^^^ (((a) + (b)))) 16)))) + ((rl (((rl ((d) ^^^ (((a) + (b)))) 16)) ^^^ (((((a) + (b))) + ((rl ((b) ^^^ (((c) + ((rl ((d) ^^^ (((a) + (b)))) 16))))) 12))))) 8))))) 7))) 60 #[.int .u32 (wv (((rl ((b) ^^^ (((c) + ((rl ((d) ^^^ (((a) + (b)))) 16))))) 12)) ^^^ (((((c) + ((rl ((d) ^^^ (((a) + (b)))) 16)))) + ((rl (((rl ((d) ^^^ (((a) + (b)))) 16)) ^^^ (((((a) + (b))) + ((rl ((b) ^^^ (((c) + ((rl ((d) ^^^ (((a) + (b)))) 16))))) 12))))) 8)))))), .int .i64 7] 39 rfl kj kj ((rotL (((rl ((b) ^^^ (((c) + ((rl ((d) ^^^ (((a) + (b)))) 16))))) 12)) ^^^ (((((c) + ((rl ((d) ^^^ (((a) + (b)))) 16)))) + ((rl (((rl ((d) ^^^ (((a) + (b)))) 16)) ^^^ (((((a) + (b))) + ((rl ((b) ^^^ (((c) + ((rl ((d) ^^^ (((a) + (b)))) 16))))) 12))))) 8))))) 7 7 rfl (by decide)) _) fun W4 e4 => ?_
  have x4 : Ext w W4 := Ext.tr x3 e4
  refine seq_val (.int .u32 (wv (rl (((rl ((b) ^^^ (((c) + ((rl ((d) ^^^ (((a) + (b)))) 16))))) 12)) ^^^ (((((c) + ((rl ((d) ^^^ (((a) + (b)))) 16)))) + ((rl (((rl ((d) ^^^ (((a) + (b)))) 16)) ^^^ (((((a) + (b))) + ((rl ((b) ^^^ (((c) + ((rl ((d) ^^^ (((a) + (b)))) 16))))) 12))))) 8))))) 7))) 1 rfl kj kj ?_
  refine seq_nil ?_
  refine hK9 _ _ ?_
  try clear hK9 K9
  refine wp_seq_k fun K10 hK10 => ?_
  refine region_lit ?_
  refine seq_val (.int .u32 (wv ((((a) + (b))) + ((rl ((b) ^^^ (((c) + ((rl ((d) ^^^ (((a) + (b)))) 16))))) 12))))) 40 rfl kj kj ?_
  refine seq_val (.int .u32 (wv (rl (((rl ((b) ^^^ (((c) + ((rl ((d) ^^^ (((a) + (b)))) 16))))) 12)) ^^^ (((((c) + ((rl ((d) ^^^ (((a) + (b)))) 16)))) + ((rl (((rl ((d) ^^^ (((a) + (b)))) 16)) ^^^ (((((a) + (b))) + ((rl ((b) ^^^ (((c) + ((rl ((d) ^^^ (((a) + (b)))) 16))))) 12))))) 8))))) 7))) 41 rfl kj kj ?_
  refine seq_val (.int .u32 (wv ((((c) + ((rl ((d) ^^^ (((a) + (b)))) 16)))) + ((rl (((rl ((d) ^^^ (((a) + (b)))) 16)) ^^^ (((((a) + (b))) + ((rl ((b) ^^^ (((c) + ((rl ((d) ^^^ (((a) + (b)))) 16))))) 12))))) 8))))) 42 rfl kj kj ?_
  refine seq_val (.int .u32 (wv (rl (((rl ((d) ^^^ (((a) + (b)))) 16)) ^^^ (((((a) + (b))) + ((rl ((b) ^^^ (((c) + ((rl ((d) ^^^ (((a) + (b)))) 16))))) 12))))) 8))) 43 rfl kj kj ?_
  refine seq_val (.int .u32 (wv ((((a) + (b))) + ((rl ((b) ^^^ (((c) + ((rl ((d) ^^^ (((a) + (b)))) 16))))) 12))))) 8 rfl kj kj ?_
  refine seq_val (.int .u32 (wv (rl (((rl ((b) ^^^ (((c) + ((rl ((d) ^^^ (((a) + (b)))) 16))))) 12)) ^^^ (((((c) + ((rl ((d) ^^^ (((a) + (b)))) 16)))) + ((rl (((rl ((d) ^^^ (((a) + (b)))) 16)) ^^^ (((((a) + (b))) + ((rl ((b) ^^^ (((c) + ((rl ((d) ^^^ (((a) + (b)))) 16))))) 12))))) 8))))) 7))) 9 rfl kj kj ?_
  refine seq_val (.int .u32 (wv ((((c) + ((rl ((d) ^^^ (((a) + (b)))) 16)))) + ((rl (((rl ((d) ^^^ (((a) + (b)))) 16)) ^^^ (((((a) + (b))) + ((rl ((b) ^^^ (((c) + ((rl ((d) ^^^ (((a) + (b)))) 16))))) 12))))) 8))))) 10 rfl kj kj ?_
  refine seq_val (.int .u32 (wv (rl (((rl ((d) ^^^ (((a) + (b)))) 16)) ^^^ (((((a) + (b))) + ((rl ((b) ^^^ (((c) + ((rl ((d) ^^^ (((a) + (b)))) 16))))) 12))))) 8))) 11 rfl kj kj ?_
  refine seq_nil ?_
  refine hK10 _ _ ?_
  try clear hK10 K10
  refine wp_ret ?_
  repeat (first | with_reducible refine goR1 ?_ | with_reducible refine goR2 ?_)
  exact (show bodyPost _ _ _ .ret _ _ from ret4 (.int .u32 (wv ((((a) + (b))) + ((rl ((b) ^^^ (((c) + ((rl ((d) ^^^ (((a) + (b)))) 16))))) 12))))) (.int .u32 (wv (rl (((rl ((b) ^^^ (((c) + ((rl ((d) ^^^ (((a) + (b)))) 16))))) 12)) ^^^ (((((c) + ((rl ((d) ^^^ (((a) + (b)))) 16)))) + ((rl (((rl ((d) ^^^ (((a) + (b)))) 16)) ^^^ (((((a) + (b))) + ((rl ((b) ^^^ (((c) + ((rl ((d) ^^^ (((a) + (b)))) 16))))) 12))))) 8))))) 7))) (.int .u32 (wv ((((c) + ((rl ((d) ^^^ (((a) + (b)))) 16)))) + ((rl (((rl ((d) ^^^ (((a) + (b)))) 16)) ^^^ (((((a) + (b))) + ((rl ((b) ^^^ (((c) + ((rl ((d) ^^^ (((a) + (b)))) 16))))) 12))))) 8))))) (.int .u32 (wv (rl (((rl ((d) ^^^ (((a) + (b)))) 16)) ^^^ (((((a) + (b))) + ((rl ((b) ^^^ (((c) + ((rl ((d) ^^^ (((a) + (b)))) 16))))) 12))))) 8))) rfl (res_tmp kj) (res_tmp kj) (res_tmp kj) (res_tmp kj) ⟨rfl, x4⟩)
set_option maxHeartbeats 4000000 in
theorem check_A (nonce : List Int) (v : Value) (B : Nat) (number : Int) (w : World) (hn : RdK .u8 B nonce v w) (h : nonce.length ≠ 12) : Calls Tryd.prog 41 #[v, .int .i64 number] w (Ret w (.iface 45 (.int .i64 1))) := by
  obtain ⟨a_n, c_n, rfl, -⟩ := id hn
  refine enter 16 [(0, .slice a_n nonce.length c_n), (1, .int .i64 number)] Tryd.func41 rfl rfl kj rfl ?_
  refine wp_seq_k fun K1 hK1 => ?_
  refine region_lit ?_
  refine seq_val (.nilIface) 4 rfl kj kj ?_
  refine seq_nil ?_
  refine hK1 _ _ ?_
  try clear hK1 K1
  refine wp_seq_k fun K2 hK2 => ?_
  refine wp_seq_k fun K3 hK3 => ?_
  refine region_lit ?_
  refine seq_val (.slice a_n nonce.length c_n) 5 rfl kj kj ?_
  refine seq_val (.int .i64 ((nonce.length : Nat) : Int)) 6 rfl kj kj ?_
  refine seq_val (.bool true) 7 rfl kj (run_eq (u := .bool ((((nonce.length : Nat) : Int) != 12))) kj (congrArg Value.bool (by simp; omega))) ?_
  refine seq_nil ?_
  refine hK3 _ _ ?_
  try clear hK3 K3
  refine cond_true kj ?_
  refine wp_seq_k fun K4 hK4 => ?_
  refine region_lit ?_
  refine seq_val (.iface 45 (.int .i64 1)) 8 rfl kj kj ?_
  refine seq_val (.iface 45 (.int .i64 1)) 4 rfl kj kj ?_
  refine seq_nil ?_
  refine hK4 _ _ ?_
  try clear hK4 K4
  refine wp_ret ?_
  repeat (first | with_reducible refine goR1 ?_ | with_reducible refine goR2 ?_)
  exact (show bodyPost _ _ _ .ret _ _ from ret1 (.iface 45 (.int .i64 1)) rfl (res_tmp kj) ⟨rfl, (Rely.Ext.refl w)⟩)
set_option maxHeartbeats 4000000 in
theorem check_B (nonce : List Int) (v : Value) (B : Nat) (number : Int) (w : World) (hn : RdK .u8 B nonce v w) (h : nonce.length = 12) (h1 : number < 0) : Calls Tryd.prog 41 #[v, .int .i64 number] w (Ret w (.iface 45 (.int .i64 8))) := by
  obtain ⟨a_n, c_n, rfl, -⟩ := id hn
  refine enter 16 [(0, .slice a_n nonce.length c_n), (1, .int .i64 number)] Tryd.func41 rfl rfl kj rfl ?_
  refine wp_seq_k fun K1 hK1 => ?_
  refine region_lit ?_
  refine seq_val (.nilIface) 4 rfl kj kj ?_
  refine seq_nil ?_
  refine hK1 _ _ ?_
  try clear hK1 K1
  refine wp_seq_k fun K2 hK2 => ?_
  refine wp_seq_k fun K3 hK3 => ?_
  refine region_lit ?_
  refine seq_val (.slice a_n nonce.length c_n) 5 rfl kj kj ?_
  refine seq_val (.int .i64 ((nonce.length : Nat) : Int)) 6 rfl kj kj ?_
  refine seq_val (.bool false) 7 rfl kj (run_eq (u := .bool ((((nonce.length : Nat) : Int) != 12))) kj (congrArg Value.bool (by simp; omega))) ?_
  refine seq_nil ?_
  refine hK3 _ _ ?_
  try clear hK3 K3
  refine cond_false kj ?_
  refine wp_skip ?_
  refine hK2 _ _ ?_
  try clear hK2 K2
  refine wp_seq_k fun K4 hK4 => ?_
  refine wp_seq_k fun K5 hK5 => ?_
  refine region_lit ?_
  refine seq_val (.int .i64 number) 9 rfl kj kj ?_
  refine seq_val (.bool true) 10 rfl kj (run_eq (u := .bool (decide (number < 0))) kj (congrArg Value.bool (decide_eq_true (by omega)))) ?_
  refine seq_val (.bool true) 11 rfl kj kj ?_
  refine seq_skip 12 rfl kj ?_
  refine seq_skip 13 rfl kj ?_
  refine seq_val (.bool true) 14 rfl kj kj ?_
  refine seq_nil ?_
  refine hK5 _ _ ?_
  try clear hK5 K5
  refine cond_true kj ?_
  refine wp_seq_k fun K6 hK6 => ?_
  refine region_lit ?_
  refine seq_val (.iface 45 (.int .i64 8)) 15 rfl kj kj ?_
  refine seq_val (.iface 45 (.int .i64 8)) 4 rfl kj kj ?_
  refine seq_nil ?_
  refine hK6 _ _ ?_
  try clear hK6 K6
  refine wp_ret ?_
  repeat (first | with_reducible refine goR1 ?_ | with_reducible refine goR2 ?_)
  exact (show bodyPost _ _ _ .ret _ _ from ret1 (.iface 45 (.int .i64 8)) rfl (res_tmp kj) ⟨rfl, (Rely.Ext.refl w)⟩)
set_option maxHeartbeats 4000000 in
theorem check_C (nonce : List Int) (v : Value) (B : Nat) (number : Int) (w : World) (hn : RdK .u8 B nonce v w) (h : nonce.length = 12) (h1 : 0 ≤ number) (h2 : 4294967295 < number) : Calls Tryd.prog 41 #[v, .int .i64 number] w (Ret w (.iface 45 (.int .i64 8))) := by
  obtain ⟨a_n, c_n, rfl, -⟩ := id hn
  refine enter 16 [(0, .slice a_n nonce.length c_n), (1, .int .i64 number)] Tryd.func41 rfl rfl kj rfl ?_
  refine wp_seq_k fun K1 hK1 => ?_
  refine region_lit ?_
  refine seq_val (.nilIface) 4 rfl kj kj ?_
  refine seq_nil ?_
  refine hK1 _ _ ?_
  try clear hK1 K1
  refine wp_seq_k fun K2 hK2 => ?_
  refine wp_seq_k fun K3 hK3 => ?_
  refine region_lit ?_
  refine seq_val (.slice a_n nonce.length c_n) 5 rfl kj kj ?_
  refine seq_val (.int .i64 ((nonce.length : Nat) : Int)) 6 rfl kj kj ?_
  refine seq_val (.bool false) 7 rfl kj (run_eq (u := .bool ((((nonce.length : Nat) : Int) != 12))) kj (congrArg Value.bool (by simp; omega))) ?_
  refine seq_nil ?_
  refine hK3 _ _ ?_
  try clear hK3 K3
  refine cond_false kj ?_
  refine wp_skip ?_
  refine hK2 _ _ ?_
  try clear hK2 K2
  refine wp_seq_k fun K4 hK4 => ?_
  refine wp_seq_k fun K5 hK5 => ?_
  refine region_lit ?_
  refine seq_val (.int .i64 number) 9 rfl kj kj ?_
  refine seq_val (.bool false) 10 rfl kj (run_eq (u := .bool (decide (number < 0))) kj (congrArg Value.bool (decide_eq_false (by omega)))) ?_
  refine seq_val (.bool false) 11 rfl kj kj ?_
  refine seq_val (.int .i64 number) 12 rfl kj kj ?_
  refine seq_val (.bool true) 13 rfl kj (run_eq (u := .bool (decide (number > 4294967295))) kj (congrArg Value.bool (decide_eq_true (by omega)))) ?_
  refine seq_val (.bool true) 14 rfl kj kj ?_
  refine seq_nil ?_
  refine hK5 _ _ ?_
  try clear hK5 K5
  refine cond_true kj ?_
  refine wp_seq_k fun K6 hK6 => ?_
  refine region_lit ?_
  refine seq_val (.iface 45 (.int .i64 8)) 15 rfl kj kj ?_
  refine seq_val (.iface 45 (.int .i64 8)) 4 rfl kj kj ?_
  refine seq_nil ?_
  refine hK6 _ _ ?_
  try clear hK6 K6
  refine wp_ret ?_
  repeat (first | with_reducible refine goR1 ?_ | with_reducible refine goR2 ?_)
  exact (show bodyPost _ _ _ .ret _ _ from ret1 (.iface 45 (.int .i64 8)) rfl (res_tmp kj) ⟨rfl, (Rely.Ext.refl w)⟩)
set_option maxHeartbeats 4000000 in
theorem check_D (nonce : List Int) (v : Value) (B : Nat) (number : Int) (w : World) (hn : RdK .u8 B nonce v w) (h : nonce.length = 12) (h1 : 0 ≤ number) (h2 : number ≤ 4294967295) : Calls Tryd.prog 41 #[v, .int .i64 number] w (Ret w (.nilIface)) := by
  obtain ⟨a_n, c_n, rfl, -⟩ := id hn
  refine enter 16 [(0, .slice a_n nonce.length c_n), (1, .int .i64 number)] Tryd.func41 rfl rfl kj rfl ?_
  refine wp_seq_k fun K1 hK1 => ?_
  refine region_lit ?_
  refine seq_val (.nilIface) 4 rfl kj kj ?_
  refine seq_nil ?_
  refine hK1 _ _ ?_
  try clear hK1 K1
  refine wp_seq_k fun K2 hK2 => ?_
  refine wp_seq_k fun K3 hK3 => ?_
  refine region_lit ?_
  refine seq_val (.slice a_n nonce.length c_n) 5 rfl kj kj ?_
  refine seq_val (.int .i64 ((nonce.length : Nat) : Int)) 6 rfl kj kj ?_
  refine seq_val (.bool false) 7 rfl kj (run_eq (u := .bool ((((nonce.length : Nat) : Int) != 12))) kj (congrArg Value.bool (by simp; omega))) ?_
  refine seq_nil ?_
  refine hK3 _ _ ?_
  try clear hK3 K3
  refine cond_false kj ?_
  refine wp_skip ?_
  refine hK2 _ _ ?_
  try clear hK2 K2
  refine wp_seq_k fun K4 hK4 => ?_
  refine wp_seq_k fun K5 hK5 => ?_
  refine region_lit ?_
  refine seq_val (.int .i64 number) 9 rfl kj kj ?_
  refine seq_val (.bool false) 10 rfl kj (run_eq (u := .bool (decide (number < 0))) kj (congrArg Value.bool (decide_eq_false (by omega)))) ?_
  refine seq_val (.bool false) 11 rfl kj kj ?_
  refine seq_val (.int .i64 number) 12 rfl kj kj ?_
  refine seq_val (.bool false) 13 rfl kj (run_eq (u := .bool (decide (number > 4294967295))) kj (congrArg Value.bool (decide_eq_false (by omega)))) ?_
  refine seq_val (.bool false) 14 rfl kj kj ?_
  refine seq_nil ?_
  refine hK5 _ _ ?_
  try clear hK5 K5
  refine cond_false kj ?_
  refine wp_skip ?_
  refine hK4 _ _ ?_
  try clear hK4 K4
  refine wp_seq_k fun K6 hK6 => ?_
  refine region_lit ?_
  refine seq_val (.nilIface) 4 rfl kj kj ?_
  refine seq_nil ?_
  refine hK6 _ _ ?_
  try clear hK6 K6
  refine wp_ret ?_
  repeat (first | with_reducible refine goR1 ?_ | with_reducible refine goR2 ?_)
  exact (show bodyPost _ _ _ .ret _ _ from ret1 (.nilIface) rfl (res_tmp kj) ⟨rfl, (Rely.Ext.refl w)⟩)
theorem rdK_at {k : IntKind} {B : Nat} {ys : List Int} {a : Option Addr} {n c : Nat} {W : World} (h : RdK k B ys (.slice a n c) W) (h0 : 0 < ys.length) : ∃ g o, a = some ⟨g, o, none⟩ ∧ g < B ∧ g < W.heap.size ∧ ∀ i, i < ys.length → W.cell? ⟨g, o + i, none⟩ = some (.int k (nth ys i)) := by
  obtain ⟨a', cap', e, h2, h3, h4, h5⟩ := h
  simp only [Value.slice.injEq] at e
  obtain ⟨rfl, -, -⟩ := e
  rcases h5 with h5 | ⟨g, o, q1, q2, q3, q4⟩
  · rw [h5] at h0; simp at h0
  · exact ⟨g, o, q1, q2, q3, q4⟩
theorem convW (b : List Int) (i : Nat) : IntKind.u32.wrap (nth b i) = wv (BitVec.ofInt 32 (nth b i)) := by rw [Go.Proofs.YtjldjdlhllgakaaDoor.Sha.wrap32, wv_ofInt]
/-- four bytes as a word, the lowest first -/
def le4 (b : List Int) : Wd := BitVec.ofInt 32 (nth b 0) ||| BitVec.ofInt 32 (nth b 1) <<< 8 ||| BitVec.ofInt 32 (nth b 2) <<< 16 ||| BitVec.ofInt 32 (nth b 3) <<< 24
theorem aliveQ : wv (qA2 286331153 16909060 2609737539 19088743) = 3928658676 ∧ wv (qB2 286331153 16909060 2609737539 19088743) = 3407673550 ∧ wv (qC2 286331153 16909060 2609737539 19088743) = 1166100270 ∧ wv (qD2 286331153 16909060 2609737539 19088743) = 1484899515 := by decide +kernel
theorem aliveQC (w : World) : Calls Tryd.prog 58 #[.int .u32 286331153, .int .u32 16909060, .int .u32 2609737539, .int .u32 19088743] w (Ret w (.tuple #[.int .u32 3928658676, .int .u32 3407673550, .int .u32 1166100270, .int .u32 1484899515])) := by
  have h := quarterC 286331153 16909060 2609737539 19088743 w
  obtain ⟨h1, h2, h3, h4⟩ := aliveQ
  rw [h1, h2, h3, h4] at h
  exact h
set_option maxHeartbeats 4000000 in
theorem wordC (b : List Int) (v : Value) (B : Nat) (w : World) (hb : RdK .u8 B b v w) (hl : b.length = 4) : Calls Tryd.prog 57 #[v] w (Ret w (.int .u32 (wv (le4 b)))) := by
  obtain ⟨a_b, c_b, rfl, -⟩ := id hb
  obtain ⟨gb, ob, rfl, -, hgb, hcb⟩ := rdK_at hb (by omega)
  refine enter 25 [(0, .slice (some ⟨gb, ob, none⟩) b.length c_b)] Tryd.func57 rfl rfl kj rfl ?_
  refine wp_seq_k fun K1 hK1 => ?_
  refine region_lit ?_
  refine seq_val (.int .u32 0) 2 rfl kj kj ?_
  refine seq_nil ?_
  refine hK1 _ _ ?_
  try clear hK1 K1
  refine wp_seq_k fun K2 hK2 => ?_
  refine any_regionE 21 [⟨none, [(0, none)]⟩, ⟨none, [(3, some 0)]⟩, ⟨none, [(4, some 1)]⟩, ⟨none, [(5, some 2)]⟩, ⟨none, [(0, none)]⟩, ⟨none, [(7, some 4)]⟩, ⟨none, [(8, some 5)]⟩, ⟨none, [(9, some 6)]⟩, ⟨none, [(10, some 7)]⟩, ⟨none, [(6, some 3), (11, some 8)]⟩, ⟨none, [(0, none)]⟩, ⟨none, [(13, some 10)]⟩, ⟨none, [(14, some 11)]⟩, ⟨none, [(15, some 12)]⟩, ⟨none, [(16, some 13)]⟩, ⟨none, [(12, some 9), (17, some 14)]⟩, ⟨none, [(0, none)]⟩, ⟨none, [(19, some 16)]⟩, ⟨none, [(20, some 17)]⟩, ⟨none, [(21, some 18)]⟩, ⟨none, [(22, some 19)]⟩] kj kj fun F hF => ?_
  refine e_val (rl_ext _) (.slice (some ⟨gb, ob, none⟩) b.length c_b) kj kj (fun W => by kernel_rfl) ?_
  refine e_val (rl_ext _) (.pointer (some ⟨gb, ob + 0, none⟩)) kj kj (fun W => (run_indexS 24 _ _ .i64 (0) gb ob b.length c_b 5 rfl kj kj kj kj (by omega))) ?_
  refine e_read (rl_ext _) (.int .u8 (nth (b) (0))) kj kj (fun W hR => (run_loadCell 5 _ _ (.int .u8 (nth (b) (0))) ((Below.cell (Rely.Ext.trans (Rely.Ext.trans (Rely.Ext.refl w) (ext_drew _)) hR) hgb).trans (hcb 0 (by omega))) rfl kj kj)) ?_
  refine e_val (rl_ext _) (.int .u32 (wv (BitVec.ofInt 32 (nth b 0)))) kj kj (fun W => (run_eq (u := .int .u32 (IntKind.u32.wrap (nth (b) (0)))) kj (congrArg (Value.int .u32) (convW b 0)))) ?_
  refine e_val (rl_ext _) (.slice (some ⟨gb, ob, none⟩) b.length c_b) kj kj (fun W => by kernel_rfl) ?_
  refine e_val (rl_ext _) (.pointer (some ⟨gb, ob + 1, none⟩)) kj kj (fun W => (run_indexS 24 _ _ .i64 (1) gb ob b.length c_b 5 rfl kj kj kj kj (by omega))) ?_
  refine e_read (rl_ext _) (.int .u8 (nth (b) (1))) kj kj (fun W hR => (run_loadCell 5 _ _ (.int .u8 (nth (b) (1))) ((Below.cell (Rely.Ext.trans (Rely.Ext.trans (Rely.Ext.refl w) (ext_drew _)) hR) hgb).trans (hcb 1 (by omega))) rfl kj kj)) ?_
  refine e_val (rl_ext _) (.int .u32 (wv (BitVec.ofInt 32 (nth b 1)))) kj kj (fun W => (run_eq (u := .int .u32 (IntKind.u32.wrap (nth (b) (1)))) kj (congrArg (Value.int .u32) (convW b 1)))) ?_
  refine e_val (rl_ext _) (.int .u32 (wv (BitVec.ofInt 32 (nth b 1) <<< 8))) kj kj (fun W => (run_bin .shl _ _ _ _ .u32 .u64 _ _ _ rfl kj kj (b_shl _ _ _ _ _ _ (by decide) (w_shl _ _ 8 rfl (by decide))))) ?_
  refine e_val (rl_ext _) (.int .u32 (wv (((BitVec.ofInt 32 (nth b 0))) ||| ((BitVec.ofInt 32 (nth b 1) <<< 8))))) kj kj (fun W => (run_eq (u := .int .u32 (bits .or .u32 (wv (BitVec.ofInt 32 (nth b 0))) (wv (BitVec.ofInt 32 (nth b 1) <<< 8)))) kj (congrArg (Value.int .u32) (w_or _ _)))) ?_
  refine e_val (rl_ext _) (.slice (some ⟨gb, ob, none⟩) b.length c_b) kj kj (fun W => by kernel_rfl) ?_
  refine e_val (rl_ext _) (.pointer (some ⟨gb, ob + 2, none⟩)) kj kj (fun W => (run_indexS 24 _ _ .i64 (2) gb ob b.length c_b 5 rfl kj kj kj kj (by omega))) ?_
  refine e_read (rl_ext _) (.int .u8 (nth (b) (2))) kj kj (fun W hR => (run_loadCell 5 _ _ (.int .u8 (nth (b) (2))) ((Below.cell (Rely.Ext.trans (Rely.Ext.trans (Rely.Ext.refl w) (ext_drew _)) hR) hgb).trans (hcb 2 (by omega))) rfl kj kj)) ?_
  refine e_val (rl_ext _) (.int .u32 (wv (BitVec.ofInt 32 (nth b 2)))) kj kj (fun W => (run_eq (u := .int .u32 (IntKind.u32.wrap (nth (b) (2)))) kj (congrArg (Value.int .u32) (convW b 2)))) ?_
  refine e_val (rl_ext _) (.int .u32 (wv (BitVec.ofInt 32 (nth b 2) <<< 16))) kj kj (fun W => (run_bin .shl _ _ _ _ .u32 .u64 _ _ _ rfl kj kj (b_shl _ _ _ _ _ _ (by decide) (w_shl _ _ 16 rfl (by decide))))) ?_
  refine e_val (rl_ext _) (.int .u32 (wv (((((BitVec.ofInt 32 (nth b 0))) ||| ((BitVec.ofInt 32 (nth b 1) <<< 8)))) ||| ((BitVec.ofInt 32 (nth b 2) <<< 16))))) kj kj (fun W => (run_eq (u := .int .u32 (bits .or .u32 (wv (((BitVec.ofInt 32 (nth b 0))) ||| ((BitVec.ofInt 32 (nth b 1) <<< 8)))) (wv (BitVec.ofInt 32 (nth b 2) <<< 16)))) kj (congrArg (Value.int .u32) (w_or _ _)))) ?_
  refine e_val (rl_ext _) (.slice (some ⟨gb, ob, none⟩) b.length c_b) kj kj (fun W => by kernel_rfl) ?_
  refine e_val (rl_ext _) (.pointer (some ⟨gb, ob + 3, none⟩)) kj kj (fun W => (run_indexS 24 _ _ .i64 (3) gb ob b.length c_b 5 rfl kj kj kj kj (by omega))) ?_
  refine e_read (rl_ext _) (.int .u8 (nth (b) (3))) kj kj (fun W hR => (run_loadCell 5 _ _ (.int .u8 (nth (b) (3))) ((Below.cell (Rely.Ext.trans (Rely.Ext.trans (Rely.Ext.refl w) (ext_drew _)) hR) hgb).trans (hcb 3 (by omega))) rfl kj kj)) ?_
  refine e_val (rl_ext _) (.int .u32 (wv (BitVec.ofInt 32 (nth b 3)))) kj kj (fun W => (run_eq (u := .int .u32 (IntKind.u32.wrap (nth (b) (3)))) kj (congrArg (Value.int .u32) (convW b 3)))) ?_
  refine e_val (rl_ext _) (.int .u32 (wv (BitVec.ofInt 32 (nth b 3) <<< 24))) kj kj (fun W => (run_bin .shl _ _ _ _ .u32 .u64 _ _ _ rfl kj kj (b_shl _ _ _ _ _ _ (by decide) (w_shl _ _ 24 rfl (by decide))))) ?_
  refine e_nil (hF _ fun W1 e1 => ?_)
  simp only [List.nil_append, List.cons_append, List.take_succ_cons, List.take_zero, List.drop_succ_cons, List.drop_zero, finE, up]
  clear hF
  have x1 : Ext w W1 := Ext.tr (Rely.Ext.refl w) e1
  refine seq_val (.int .u32 (wv (((((((BitVec.ofInt 32 (nth b 0))) ||| ((BitVec.ofInt 32 (nth b 1) <<< 8)))) ||| ((BitVec.ofInt 32 (nth b 2) <<< 16)))) ||| ((BitVec.ofInt 32 (nth b 3) <<< 24))))) 24 rfl kj (run_eq (u := .int .u32 (bits .or .u32 (wv (((((BitVec.ofInt 32 (nth b 0))) ||| ((BitVec.ofInt 32 (nth b 1) <<< 8)))) ||| ((BitVec.ofInt 32 (nth b 2) <<< 16)))) (wv (BitVec.ofInt 32 (nth b 3) <<< 24)))) kj (congrArg (Value.int .u32) (w_or _ _))) ?_
  refine seq_val (.int .u32 (wv (((((((BitVec.ofInt 32 (nth b 0))) ||| ((BitVec.ofInt 32 (nth b 1) <<< 8)))) ||| ((BitVec.ofInt 32 (nth b 2) <<< 16)))) ||| ((BitVec.ofInt 32 (nth b 3) <<< 24))))) 2 rfl kj kj ?_
  refine seq_nil ?_
  refine hK2 _ _ ?_
  try clear hK2 K2
  refine wp_ret ?_
  repeat (first | with_reducible refine goR1 ?_ | with_reducible refine goR2 ?_)
  exact (show bodyPost _ _ _ .ret _ _ from ret1 (.int .u32 (wv (((((((BitVec.ofInt 32 (nth b 0))) ||| ((BitVec.ofInt 32 (nth b 1) <<< 8)))) ||| ((BitVec.ofInt 32 (nth b 2) <<< 16)))) ||| ((BitVec.ofInt 32 (nth b 3) <<< 24))))) rfl (res_tmp kj) ⟨rfl, x1⟩)

end Go.Proofs.YtjldjdlhllgakaaDoor.Cha
