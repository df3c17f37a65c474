/- Labelled secrets. -/
import Derived.Test.YtamlhbbphnamnaaDoorKexC
import Derived.Test.YtamlhbbphnamnaaDoorOnce
import Derived.Lib.AppendStr
namespace Go.Proofs.YtamlhbbphnamnaaDoor.Sha
open Go Go.RowKit
open Go.Proofs.YtamlhbbphnamnaaDoor.Rely Go.Proofs.YtamlhbbphnamnaaDoor.Auto Go.Proofs.YtamlhbbphnamnaaDoor.Own
set_option linter.unusedVariables false
set_option linter.unusedSimpArgs false

/-- a text's bytes -/
def strB (s : ByteArray) : List Int := s.data.toList.map fun b => (b.toNat : Int)
theorem strB_len (s : ByteArray) : (strB s).length = s.size := by unfold strB; rw [List.length_map, Array.length_toList]; rfl
theorem strB_bytes (s : ByteArray) : AreBytes (strB s) := fun x hx => by
  unfold strB at hx
  obtain ⟨b, -, rfl⟩ := List.mem_map.1 hx
  have := b.toNat_lt
  omega
theorem strB_cells (s : ByteArray) : Lib.strCells s = (strB s).map (Value.int .u8) := by unfold Lib.strCells strB; rw [List.map_map]; rfl
theorem append_S {P : Program} {T : TypeId} {ρ : Operand → Value} {o : Oper} {W : World} (s x : Operand) (t u : TypeId) (ho : o.op = .call { callee := .builtin .append, args := #[s, x], argTypes := #[t, u] })
    (ht : P.underlying t = some (.slice T)) (hu : P.underlying u = some .string) (hi : (P.info? T).map (fun i => (i.zero, i.size, i.bytes)) = some (some (.int .u8 0), 1, 1)) {base : Nat} {v : Value} {xs : List Int} {lab : ByteArray} (hs : ρ s = v) (hx : ρ x = .string lab)
    (h : OwnN .u8 T base xs v W) (hn : xs.length + (strB lab).length ≤ 1000000000) (hbase : base ≤ W.heap.size) :
    ∃ v' W', (execOp ρ o).run P W = .ok (.value v') W' ∧ OwnN .u8 T base (xs ++ strB lab) v' W' ∧ W.grownBy W' v.ownBlock := by
  obtain ⟨i, hq, hi1, hi2, hi3⟩ := infoK hi
  rw [strB_len] at hn
  obtain ⟨v', W', hr, h2, h3, _⟩ := Lib.run_append_own_string (P := P) W base t u o.type T i ht hu hq hi1 hi2 hi3 v xs.length (xs.map (Value.int .u8)) h.1 lab (by simp only [maxLen]; omega) (by omega) hbase
  refine ⟨v', W', ?_, ⟨?_, by rw [List.length_append, strB_len]; simp only [maxLen]; omega⟩, h3⟩
  · unfold execOp
    simp only [ho, resolve, invoke, builtin, Sem.run_bind, Sem.run_pure, Result.andThen_ok, List.map_toArray, List.map_cons, List.map_nil, hs, hx, hr]
  · rw [List.length_append, List.map_append, strB_len, ← strB_cells]; exact h2
section
variable {ds : List Deferred} {P : Program} {ops : Array Oper} {Q : Exit → Act → World → Prop} {rest : List Oper} {o : Oper} {N : Nat} {L : Env} {W : World}
theorem seq_appendS {T : TypeId} (s x : Operand) (t u : TypeId) (ho : o.op = .call { callee := .builtin .append, args := #[s, x], argTypes := #[t, u] })
    (ht : P.underlying t = some (.slice T)) (hu : P.underlying u = some .string) (hi : (P.info? T).map (fun i => (i.zero, i.size, i.bytes)) = some (some (.int .u8 0), 1, 1)) (d : Nat) (hd : o.dst = some d) (hg : wantB ops o N L = some true) {v : Value} {xs : List Int} {lab : ByteArray} {V : World}
    (hs : Rely.look (envN N L) s = v) (hx : Rely.look (envN N L) x = .string lab)
    (h : OwnN .u8 T V.heap.size xs v W) (hn : xs.length + (strB lab).length ≤ 1000000000) (hV : Ext V W)
    (kk : ∀ (z : Value) (W' : World), OwnN .u8 T V.heap.size (xs ++ strB lab) z W' → Ext V W' → Below V.heap.size W W' → WL P ops Q rest (actOf ds N ((d, z) :: L)) W') : WL P ops Q (o :: rest) (actOf ds N L) W := by
  obtain ⟨v', W', h1, h2, h3⟩ := append_S (ρ := Rely.look (envN N L)) (o := o) (W := W) s x t u ho ht hu hi hs hx h hn hV.size
  exact seq_valw _ _ d hd hg h1 (kk v' W' h2 (ext_own hV h h3) ⟨h3.os, h3.tape, h3.output, h3.size, fun i hi => h3.block i (Nat.lt_of_lt_of_le hi hV.size) (fun q => by have := h.ge q.symm; omega)⟩)
end
theorem any_regionX {P : Program} {ds : List Deferred} {id : Nat} {Q : Exit → Act → World → Prop} {N : Nat} {L : Env} {w : World} {l : List Oper} (R : World → World → Prop) (hrf : ∀ W, R W W) (htr : ∀ {a b c : World}, R a b → R b c → R a c) (n : Nat) (S : List Src) (hm : P.follows .mixedOrders = true) (hok : ok l n N S = true)
    (h : ∀ F : List KE → Prop, (∀ C, (∀ W, R w.drew W → finE (fun L W => WL P l.toArray Q (l.drop n) (actOf ds N L) W) (l.take n) C L W) → F C) → stepsE P R w.drew N L F (l.take n) S []) :
    (Code.region id l.toArray true).wp P Q (actOf ds N L) w := by
  refine wp_region_rely R n N S hm hok (size_actOf N L) hrf (fun a b => htr a b) fun F r0 hr hF => ?_
  rw [slots_actOf] at hr
  subst hr
  have := h (fun C => ∀ W, R w.drew W → finE (fun L W => WL P l.toArray Q (l.drop n) (actOf ds N L) W) (l.take n) C L W) (fun C h => h)
  exact stepsE_relies (G := F) (fun C h => hF.out fun W hR => fin_E (Q := fun a W => wpList P l.toArray Q (l.drop n) a W) _ _ _ (finE_mono (fun L W h => h.out) _ _ _ _ (h W hR))) _ _ [] this
theorem Once.below {base n : Nat} {ys : List Int} {W W' : World} (h : Once base n ys W W') (hb : base ≤ W.heap.size) : Below base W W' :=
  ⟨h.os, h.tape, h.output, h.size, fun g hg => by
    rcases h.block g (by omega) with h | ⟨hb, _⟩
    · exact h
    · omega⟩
theorem Once.rd {base n B : Nat} {k : IntKind} {ys zs : List Int} {v : Value} {W W' : World} (h : Once base n ys W W') (hr : RdK k B zs v W) (hB : B ≤ base) : RdK k B zs v W' := hr.keep h.size fun g hg hl => by
  rcases h.block g hl with h | ⟨hb, _⟩
  · exact h
  · omega
/-- one block alone changes so -/
structure OnceB (g base n : Nat) (ys : List Int) (W W' : World) : Prop where
  once : Once base n ys W W'
  other : ∀ k, k < W.heap.size → k ≠ g → W'.heap[k]? = W.heap[k]?
theorem OnceB.refl (g base n : Nat) (ys : List Int) (W : World) : OnceB g base n ys W W := ⟨Once.refl _ _ _ _, fun _ _ _ => rfl⟩
theorem OnceB.trans {g base n : Nat} {ys : List Int} {a b c : World} (h : OnceB g base n ys a b) (k : OnceB g base n ys b c) : OnceB g base n ys a c := ⟨h.once.trans k.once, fun i hi hn => (k.other i (Nat.lt_of_lt_of_le hi h.once.size) hn).trans (h.other i hi hn)⟩
theorem OnceB.ext {g base n : Nat} {ys : List Int} {a b : World} (e : Ext a b) : OnceB g base n ys a b := ⟨Once.ext e, fun i hi _ => e.block i hi⟩
theorem OnceB.row {g base n : Nat} {ys : List Int} {a b : World} {k : Nat} {ob : Obj} (h : OnceB g base n ys a b) (r : a.heap[k]? = some ob) (hn : k ≠ g) : b.heap[k]? = some ob := (h.other k (row_lt r) hn).trans r
theorem onceB_own {g base n : Nat} {ys xs : List Int} {T : TypeId} (hx : ∀ i, i < xs.length → n ≤ i → nth xs i = nth ys (i - n)) : Stable (OnceB g base n ys) (OwnN .u8 T base xs) := fun v W W' hR h => once_own hx v W W' hR.once h
theorem onceB_else {g base n b : Nat} {ys xs : List Int} {T : TypeId} {v : Value} {W W' : World} (hR : OnceB g base n ys W W') (h : OwnN .u8 T b xs v W) (hn : v.ownBlock ≠ some g) : OwnN .u8 T b xs v W' := h.keep fun k hk => hR.other k (h.lt hk) (fun e => hn (by rw [hk, e]))
theorem append_OB {P : Program} {T : TypeId} {ρ : Operand → Value} {o : Oper} {W : World} (s x : Operand) (t : TypeId) (ho : o.op = .call { callee := .builtin .append, args := #[s, x], argTypes := #[t, t] })
    (ht : P.underlying t = some (.slice T)) (hi : (P.info? T).map (fun i => (i.zero, i.size, i.bytes)) = some (some (.int .u8 0), 1, 1)) {g c base B : Nat} {y : Value} {xs ys : List Int} (hs : ρ s = .slice (some ⟨g, 0, none⟩) xs.length c) (hx : ρ x = y)
    (h : OwnN .u8 T base xs (.slice (some ⟨g, 0, none⟩) xs.length c) W) (hy : RdK .u8 B ys y W) (hn : xs.length + ys.length ≤ 1000000000) (hbase : base ≤ W.heap.size) :
    ∃ v' W', (execOp ρ o).run P W = .ok (.value v') W' ∧ OnceB g base xs.length ys W W' ∧ OwnN .u8 T base (xs ++ ys) v' W' := by
  obtain ⟨v', W', r, q, p⟩ := append_O (ρ := ρ) (o := o) (W := W) (n := xs.length) (Y := ys) (b := 1) s x t ho ht hi (by decide) hs hx h hy hn hbase (.inr ⟨rfl, rfl⟩)
  obtain ⟨v2, W2, r2, o2, g2, -⟩ := append_N (ρ := ρ) (o := o) (W := W) (b := 1) s x t ho ht hi (by decide) hs hx h hy hn hbase
  rw [r] at r2
  injection r2 with _ r3
  subst r3
  exact ⟨v', W', r, ⟨q, fun k hk hn => g2.block k hk (fun e => hn (Option.some.inj e))⟩, p⟩
theorem run_extractT {P : Program} {ρ : Operand → Value} {o : Oper} {w : World} (x : Operand) (i : Nat) (vs : Array Value) (u : Value) (ho : o.op = .extract x i) (hx : ρ x = .tuple vs) (hi : vs[i]? = some u) : (execOp ρ o).run P w = .ok (.value u) w := by
  unfold execOp
  simp [ho, hx, Instr.extract, hi]
section
variable {P : Program} {R : World → World → Prop} {w0 : World} {N : Nat} {L : Env} {F : List KE → Prop} {o : Oper} {os : List Oper} {s : Src} {ss : List Src} {C : List KE}
theorem x_runX (φ : Fact) (hφ : Stable R φ) {rd : List (Tmp × Option Nat)}
    (h : ∀ (ρ : Tmp → Value) (W : World), R w0 W → Holds (envN N L) (C.map KE.fact) ρ W rd → ∃ v W', (execOp (Rely.look ρ) o).run P W = .ok (.value v) W' ∧ R W W' ∧ φ v W')
    (hk : stepsE P R w0 N L F os ss (C ++ [.ex φ])) : stepsE P R w0 N L F (o :: os) (⟨none, rd⟩ :: ss) C :=
  ⟨.ex φ, hφ, fun ρ W hR hh => by
    obtain ⟨v, W', h1, h2, h3⟩ := h ρ W hR hh
    show relyUpon _ _ _ _ _
    rw [h1]
    exact ⟨h2, h3⟩, hk⟩
theorem x_callGX (hrf : ∀ W, R W W) (hre : ∀ {A B : World}, Ext A B → R A B) (φ : Fact) (hφ : Stable R φ) (f : FuncId) {rd : List (Tmp × Option Nat)}
    (h : ∀ (ρ : Tmp → Value) (W : World), R w0 W → Holds (envN N L) (C.map KE.fact) ρ W rd → ∃ args, (execOp (Rely.look ρ) o).run P W = .ok (.enter f args) W ∧ Calls P f args W (Gives W φ))
    (hk : stepsE P R w0 N L F os ss (C ++ [.ex φ])) : stepsE P R w0 N L F (o :: os) (⟨none, rd⟩ :: ss) C :=
  ⟨.ex φ, hφ, fun ρ W hR hh => by
    obtain ⟨args, h1, h2⟩ := h ρ W hR hh
    show relyUpon _ _ _ _ _
    rw [h1]
    exact ⟨hrf _, h2.mono fun _ _ h => retsRl h.fact (fun e => hre e)⟩, hk⟩
end
theorem below_drew {n : Nat} {W W' : World} (h : Below n W.drew W') (hn : n ≤ W.heap.size) : Below n W W' := Below.trans ((ext_drew W).mono hn) h
theorem shrN (a : Nat) (s : Int) (c : Nat) (h : (2 : Int) ^ min s.toNat IntKind.i64.bits = (c : Int)) : ((a : Nat) : Int).fdiv (2 ^ min s.toNat IntKind.i64.bits) = ((a / c : Nat) : Int) := by
  rw [h, Int.fdiv_eq_ediv_of_nonneg _ (by omega)]; exact (Int.natCast_ediv a c).symm
theorem byteM (a b : Nat) (h : a % 256 = b) : IntKind.u8.wrap ((a : Nat) : Int) = ((b : Nat) : Int) := by rw [byteN, h]
/-- the info of a label -/
def infoA (lab : List Int) (n : Nat) : List Int := [((n / 256 : Nat) : Int), ((n % 256 : Nat) : Int), ((lab.length : Nat) : Int)]
def infoC (c : Nat) : List Int := [((c / 16777216 : Nat) : Int), ((c / 65536 % 256 : Nat) : Int), ((c / 256 % 256 : Nat) : Int), ((c % 256 : Nat) : Int)]
def infoL (lab ctx : List Int) (n : Nat) : List Int := infoA lab n ++ lab ++ infoC ctx.length ++ ctx
theorem infoL_len (lab ctx : List Int) (n : Nat) : (infoL lab ctx n).length = lab.length + ctx.length + 7 := by
  unfold infoL infoA infoC
  simp only [List.length_append, List.length_cons, List.length_nil]; omega
theorem infoL_bytes (lab ctx : List Int) (n : Nat) (hl : AreBytes lab) (hc : AreBytes ctx) (h1 : lab.length ≤ 255) (h2 : ctx.length ≤ 65536) (h3 : n ≤ 8160) : AreBytes (infoL lab ctx n) := by
  unfold infoL infoA infoC
  refine bytes_app (bytes_app (bytes_app ?_ hl) ?_) hc
  · intro x hx
    simp only [List.mem_cons, List.not_mem_nil, or_false] at hx
    omega
  · intro x hx
    simp only [List.mem_cons, List.not_mem_nil, or_false] at hx
    omega
theorem app_of {P : Program} {ρ : Operand → Value} {o : Oper} {W : World} {T : TypeId} {base n : Nat} {zs Y : List Int} (h : ∃ v' W', (execOp ρ o).run P W = .ok (.value v') W' ∧ Once base n Y W W' ∧ OwnN .u8 T base zs v' W') :
    ∃ v W', (execOp ρ o).run P W = .ok (.value v) W' ∧ Once base n Y W W' ∧ OwnN .u8 T base zs v W' := h
set_option maxHeartbeats 4000000 in
theorem label_A (sec ctx : List Int) (s : ByteArray) (v2 : Value) (B2 : Nat) (tc tq : TypeId) (w : World) (hc : w.heap[1]? = some (.cells (ints .u64 cubesI) tc)) (hq : w.heap[0]? = some (.cells (ints .u64 squaresI) tq)) (hsl : sec.length = 32) (hsb : AreBytes sec) (hxb : AreBytes ctx) (hx : RdK .u8 B2 ctx v2 w) (n : Int) (h : n < 0) : Calls Tryd.prog 47 #[.agg (ints .u8 sec), .string s, v2, .int .i64 n] w (Ret w (.tuple #[.slice none 0 0, .iface 38 (.int .i64 4)])) := by
  obtain ⟨a_ctx, c_ctx, rfl, -⟩ := id hx
  refine enter 75 [(0, .agg (ints .u8 (sec))), (1, .string s), (2, .slice a_ctx ctx.length c_ctx), (3, .int .i64 n)] Tryd.func47 rfl rfl kj rfl ?_
  refine wp_seq_k fun K3 hK3 => ?_
  refine region_lit ?_
  refine seq_alloc (ints .u8 (sec)) 26 4 rfl kj kj fun g4 W1 l4 e1 r4_1 => ?_
  have x1 : Ext w W1 := Ext.tr (Rely.Ext.refl w) e1
  have b4 : w.heap.size ≤ g4 := Nat.le_trans (Rely.Ext.refl w).size l4
  refine seq_val (.slice none 0 0) 8 rfl kj kj ?_
  refine seq_val (.nilIface) 9 rfl kj kj ?_
  refine seq_nil ?_
  refine hK3 _ _ ?_
  try clear hK3 K3
  refine wp_seq_k fun K5 hK5 => ?_
  refine wp_seq_k fun K6 hK6 => ?_
  refine region_lit ?_
  refine seq_val (.int .i64 n) 12 rfl kj kj ?_
  refine seq_val (.bool true) 13 rfl kj (run_eq (u := .bool (decide (n < 0))) kj (congrArg Value.bool (decide_eq_true (by omega)))) ?_
  refine seq_val (.bool true) 14 rfl kj kj ?_
  refine seq_skip 15 rfl kj ?_
  refine seq_skip 16 rfl kj ?_
  refine seq_val (.bool true) 17 rfl kj kj ?_
  refine seq_val (.bool true) 18 rfl kj kj ?_
  refine seq_skip 19 rfl kj ?_
  refine seq_skip 20 rfl kj ?_
  refine seq_skip 21 rfl kj ?_
  refine seq_val (.bool true) 22 rfl kj kj ?_
  refine seq_val (.bool true) 23 rfl kj kj ?_
  refine seq_skip 24 rfl kj ?_
  refine seq_skip 25 rfl kj ?_
  refine seq_skip 26 rfl kj ?_
  refine seq_val (.bool true) 27 rfl kj kj ?_
  refine seq_nil ?_
  refine hK6 _ _ ?_
  try clear hK6 K6
  refine cond_true kj ?_
  refine wp_seq_k fun K7 hK7 => ?_
  refine region_lit ?_
  refine seq_val (.iface 38 (.int .i64 4)) 28 rfl kj kj ?_
  refine seq_val (.slice none 0 0) 8 rfl kj kj ?_
  refine seq_val (.iface 38 (.int .i64 4)) 9 rfl kj kj ?_
  refine seq_nil ?_
  refine hK7 _ _ ?_
  try clear hK7 K7
  refine wp_ret ?_
  repeat (first | with_reducible refine goR1 ?_ | with_reducible refine goR2 ?_)
  exact (show bodyPost _ _ _ .ret _ _ from ret2 (.slice none 0 0) (.iface 38 (.int .i64 4)) rfl (res_tmp kj) (res_tmp kj) ⟨rfl, x1⟩)
set_option maxHeartbeats 4000000 in
theorem label_B (sec ctx : List Int) (s : ByteArray) (v2 : Value) (B2 : Nat) (tc tq : TypeId) (w : World) (hc : w.heap[1]? = some (.cells (ints .u64 cubesI) tc)) (hq : w.heap[0]? = some (.cells (ints .u64 squaresI) tq)) (hsl : sec.length = 32) (hsb : AreBytes sec) (hxb : AreBytes ctx) (hx : RdK .u8 B2 ctx v2 w) (n : Int) (h0 : 0 ≤ n) (h : 8160 < n) : Calls Tryd.prog 47 #[.agg (ints .u8 sec), .string s, v2, .int .i64 n] w (Ret w (.tuple #[.slice none 0 0, .iface 38 (.int .i64 4)])) := by
  obtain ⟨a_ctx, c_ctx, rfl, -⟩ := id hx
  refine enter 75 [(0, .agg (ints .u8 (sec))), (1, .string s), (2, .slice a_ctx ctx.length c_ctx), (3, .int .i64 n)] Tryd.func47 rfl rfl kj rfl ?_
  refine wp_seq_k fun K3 hK3 => ?_
  refine region_lit ?_
  refine seq_alloc (ints .u8 (sec)) 26 4 rfl kj kj fun g4 W1 l4 e1 r4_1 => ?_
  have x1 : Ext w W1 := Ext.tr (Rely.Ext.refl w) e1
  have b4 : w.heap.size ≤ g4 := Nat.le_trans (Rely.Ext.refl w).size l4
  refine seq_val (.slice none 0 0) 8 rfl kj kj ?_
  refine seq_val (.nilIface) 9 rfl kj kj ?_
  refine seq_nil ?_
  refine hK3 _ _ ?_
  try clear hK3 K3
  refine wp_seq_k fun K5 hK5 => ?_
  refine wp_seq_k fun K6 hK6 => ?_
  refine region_lit ?_
  refine seq_val (.int .i64 n) 12 rfl kj kj ?_
  refine seq_val (.bool false) 13 rfl kj (run_eq (u := .bool (decide (n < 0))) kj (congrArg Value.bool (decide_eq_false (by omega)))) ?_
  refine seq_val (.bool false) 14 rfl kj kj ?_
  refine seq_val (.int .i64 n) 15 rfl kj kj ?_
  refine seq_val (.bool true) 16 rfl kj (run_eq (u := .bool (decide (n > 8160))) kj (congrArg Value.bool (decide_eq_true (by omega)))) ?_
  refine seq_val (.bool true) 17 rfl kj kj ?_
  refine seq_val (.bool true) 18 rfl kj kj ?_
  refine seq_skip 19 rfl kj ?_
  refine seq_skip 20 rfl kj ?_
  refine seq_skip 21 rfl kj ?_
  refine seq_val (.bool true) 22 rfl kj kj ?_
  refine seq_val (.bool true) 23 rfl kj kj ?_
  refine seq_skip 24 rfl kj ?_
  refine seq_skip 25 rfl kj ?_
  refine seq_skip 26 rfl kj ?_
  refine seq_val (.bool true) 27 rfl kj kj ?_
  refine seq_nil ?_
  refine hK6 _ _ ?_
  try clear hK6 K6
  refine cond_true kj ?_
  refine wp_seq_k fun K7 hK7 => ?_
  refine region_lit ?_
  refine seq_val (.iface 38 (.int .i64 4)) 28 rfl kj kj ?_
  refine seq_val (.slice none 0 0) 8 rfl kj kj ?_
  refine seq_val (.iface 38 (.int .i64 4)) 9 rfl kj kj ?_
  refine seq_nil ?_
  refine hK7 _ _ ?_
  try clear hK7 K7
  refine wp_ret ?_
  repeat (first | with_reducible refine goR1 ?_ | with_reducible refine goR2 ?_)
  exact (show bodyPost _ _ _ .ret _ _ from ret2 (.slice none 0 0) (.iface 38 (.int .i64 4)) rfl (res_tmp kj) (res_tmp kj) ⟨rfl, x1⟩)
set_option maxHeartbeats 4000000 in
theorem label_C (sec ctx : List Int) (s : ByteArray) (v2 : Value) (B2 : Nat) (tc tq : TypeId) (w : World) (hc : w.heap[1]? = some (.cells (ints .u64 cubesI) tc)) (hq : w.heap[0]? = some (.cells (ints .u64 squaresI) tq)) (hsl : sec.length = 32) (hsb : AreBytes sec) (hxb : AreBytes ctx) (hx : RdK .u8 B2 ctx v2 w) (n : Int) (h0 : 0 ≤ n) (h1 : n ≤ 8160) (h : 255 < (strB s).length) : Calls Tryd.prog 47 #[.agg (ints .u8 sec), .string s, v2, .int .i64 n] w (Ret w (.tuple #[.slice none 0 0, .iface 38 (.int .i64 4)])) := by
  obtain ⟨a_ctx, c_ctx, rfl, -⟩ := id hx
  refine enter 75 [(0, .agg (ints .u8 (sec))), (1, .string s), (2, .slice a_ctx ctx.length c_ctx), (3, .int .i64 n)] Tryd.func47 rfl rfl kj rfl ?_
  refine wp_seq_k fun K3 hK3 => ?_
  refine region_lit ?_
  refine seq_alloc (ints .u8 (sec)) 26 4 rfl kj kj fun g4 W1 l4 e1 r4_1 => ?_
  have x1 : Ext w W1 := Ext.tr (Rely.Ext.refl w) e1
  have b4 : w.heap.size ≤ g4 := Nat.le_trans (Rely.Ext.refl w).size l4
  refine seq_val (.slice none 0 0) 8 rfl kj kj ?_
  refine seq_val (.nilIface) 9 rfl kj kj ?_
  refine seq_nil ?_
  refine hK3 _ _ ?_
  try clear hK3 K3
  refine wp_seq_k fun K5 hK5 => ?_
  refine wp_seq_k fun K6 hK6 => ?_
  refine region_lit ?_
  refine seq_val (.int .i64 n) 12 rfl kj kj ?_
  refine seq_val (.bool false) 13 rfl kj (run_eq (u := .bool (decide (n < 0))) kj (congrArg Value.bool (decide_eq_false (by omega)))) ?_
  refine seq_val (.bool false) 14 rfl kj kj ?_
  refine seq_val (.int .i64 n) 15 rfl kj kj ?_
  refine seq_val (.bool false) 16 rfl kj (run_eq (u := .bool (decide (n > 8160))) kj (congrArg Value.bool (decide_eq_false (by omega)))) ?_
  refine seq_val (.bool false) 17 rfl kj kj ?_
  refine seq_val (.bool false) 18 rfl kj kj ?_
  refine seq_val (.string s) 19 rfl kj kj ?_
  refine seq_val (.int .i64 (((strB s).length : Nat) : Int)) 20 rfl kj (run_eq (u := .int .i64 ((s.size : Nat) : Int)) kj (congrArg (fun z : Nat => Value.int .i64 (z : Int)) (strB_len s).symm)) ?_
  refine seq_val (.bool true) 21 rfl kj (run_eq (u := .bool (decide ((((strB s).length : Nat) : Int) > 255))) kj (congrArg Value.bool (decide_eq_true (by omega)))) ?_
  refine seq_val (.bool true) 22 rfl kj kj ?_
  refine seq_val (.bool true) 23 rfl kj kj ?_
  refine seq_skip 24 rfl kj ?_
  refine seq_skip 25 rfl kj ?_
  refine seq_skip 26 rfl kj ?_
  refine seq_val (.bool true) 27 rfl kj kj ?_
  refine seq_nil ?_
  refine hK6 _ _ ?_
  try clear hK6 K6
  refine cond_true kj ?_
  refine wp_seq_k fun K7 hK7 => ?_
  refine region_lit ?_
  refine seq_val (.iface 38 (.int .i64 4)) 28 rfl kj kj ?_
  refine seq_val (.slice none 0 0) 8 rfl kj kj ?_
  refine seq_val (.iface 38 (.int .i64 4)) 9 rfl kj kj ?_
  refine seq_nil ?_
  refine hK7 _ _ ?_
  try clear hK7 K7
  refine wp_ret ?_
  repeat (first | with_reducible refine goR1 ?_ | with_reducible refine goR2 ?_)
  exact (show bodyPost _ _ _ .ret _ _ from ret2 (.slice none 0 0) (.iface 38 (.int .i64 4)) rfl (res_tmp kj) (res_tmp kj) ⟨rfl, x1⟩)
set_option maxHeartbeats 4000000 in
theorem label_D (sec ctx : List Int) (s : ByteArray) (v2 : Value) (B2 : Nat) (tc tq : TypeId) (w : World) (hc : w.heap[1]? = some (.cells (ints .u64 cubesI) tc)) (hq : w.heap[0]? = some (.cells (ints .u64 squaresI) tq)) (hsl : sec.length = 32) (hsb : AreBytes sec) (hxb : AreBytes ctx) (hx : RdK .u8 B2 ctx v2 w) (n : Int) (h0 : 0 ≤ n) (h1 : n ≤ 8160) (h2 : (strB s).length ≤ 255) (h : 65536 < ctx.length) : Calls Tryd.prog 47 #[.agg (ints .u8 sec), .string s, v2, .int .i64 n] w (Ret w (.tuple #[.slice none 0 0, .iface 38 (.int .i64 4)])) := by
  obtain ⟨a_ctx, c_ctx, rfl, -⟩ := id hx
  refine enter 75 [(0, .agg (ints .u8 (sec))), (1, .string s), (2, .slice a_ctx ctx.length c_ctx), (3, .int .i64 n)] Tryd.func47 rfl rfl kj rfl ?_
  refine wp_seq_k fun K3 hK3 => ?_
  refine region_lit ?_
  refine seq_alloc (ints .u8 (sec)) 26 4 rfl kj kj fun g4 W1 l4 e1 r4_1 => ?_
  have x1 : Ext w W1 := Ext.tr (Rely.Ext.refl w) e1
  have b4 : w.heap.size ≤ g4 := Nat.le_trans (Rely.Ext.refl w).size l4
  refine seq_val (.slice none 0 0) 8 rfl kj kj ?_
  refine seq_val (.nilIface) 9 rfl kj kj ?_
  refine seq_nil ?_
  refine hK3 _ _ ?_
  try clear hK3 K3
  refine wp_seq_k fun K5 hK5 => ?_
  refine wp_seq_k fun K6 hK6 => ?_
  refine region_lit ?_
  refine seq_val (.int .i64 n) 12 rfl kj kj ?_
  refine seq_val (.bool false) 13 rfl kj (run_eq (u := .bool (decide (n < 0))) kj (congrArg Value.bool (decide_eq_false (by omega)))) ?_
  refine seq_val (.bool false) 14 rfl kj kj ?_
  refine seq_val (.int .i64 n) 15 rfl kj kj ?_
  refine seq_val (.bool false) 16 rfl kj (run_eq (u := .bool (decide (n > 8160))) kj (congrArg Value.bool (decide_eq_false (by omega)))) ?_
  refine seq_val (.bool false) 17 rfl kj kj ?_
  refine seq_val (.bool false) 18 rfl kj kj ?_
  refine seq_val (.string s) 19 rfl kj kj ?_
  refine seq_val (.int .i64 (((strB s).length : Nat) : Int)) 20 rfl kj (run_eq (u := .int .i64 ((s.size : Nat) : Int)) kj (congrArg (fun z : Nat => Value.int .i64 (z : Int)) (strB_len s).symm)) ?_
  refine seq_val (.bool false) 21 rfl kj (run_eq (u := .bool (decide ((((strB s).length : Nat) : Int) > 255))) kj (congrArg Value.bool (decide_eq_false (by omega)))) ?_
  refine seq_val (.bool false) 22 rfl kj kj ?_
  refine seq_val (.bool false) 23 rfl kj kj ?_
  refine seq_val (.slice a_ctx ctx.length c_ctx) 24 rfl kj kj ?_
  refine seq_val (.int .i64 ((ctx.length : Nat) : Int)) 25 rfl kj kj ?_
  refine seq_val (.bool true) 26 rfl kj (run_eq (u := .bool (decide (((ctx.length : Nat) : Int) > 65536))) kj (congrArg Value.bool (decide_eq_true (by omega)))) ?_
  refine seq_val (.bool true) 27 rfl kj kj ?_
  refine seq_nil ?_
  refine hK6 _ _ ?_
  try clear hK6 K6
  refine cond_true kj ?_
  refine wp_seq_k fun K7 hK7 => ?_
  refine region_lit ?_
  refine seq_val (.iface 38 (.int .i64 4)) 28 rfl kj kj ?_
  refine seq_val (.slice none 0 0) 8 rfl kj kj ?_
  refine seq_val (.iface 38 (.int .i64 4)) 9 rfl kj kj ?_
  refine seq_nil ?_
  refine hK7 _ _ ?_
  try clear hK7 K7
  refine wp_ret ?_
  repeat (first | with_reducible refine goR1 ?_ | with_reducible refine goR2 ?_)
  exact (show bodyPost _ _ _ .ret _ _ from ret2 (.slice none 0 0) (.iface 38 (.int .i64 4)) rfl (res_tmp kj) (res_tmp kj) ⟨rfl, x1⟩)
set_option maxHeartbeats 4000000 in
theorem labelC (sec ctx : List Int) (s : ByteArray) (v2 : Value) (B2 : Nat) (tc tq : TypeId) (w : World) (hc : w.heap[1]? = some (.cells (ints .u64 cubesI) tc)) (hq : w.heap[0]? = some (.cells (ints .u64 squaresI) tq)) (hsl : sec.length = 32) (hsb : AreBytes sec) (hxb : AreBytes ctx) (hx : RdK .u8 B2 ctx v2 w) (n : Nat) (hn : n ≤ 8160) (hl : (strB s).length ≤ 255) (hc2 : ctx.length ≤ 65536) : Calls Tryd.prog 47 #[.agg (ints .u8 sec), .string s, v2, .int .i64 ((n : Nat) : Int)] w (Gives w (fun v W => ∃ u, v = .tuple #[u, .nilIface] ∧ OwnN .u8 5 w.heap.size (kx sec (infoL (strB s) ctx n) n) u W)) := by
  obtain ⟨a_ctx, c_ctx, rfl, -⟩ := id hx
  refine enter 75 [(0, .agg (ints .u8 (sec))), (1, .string s), (2, .slice a_ctx ctx.length c_ctx), (3, .int .i64 ((n : Nat) : Int))] Tryd.func47 rfl rfl kj rfl ?_
  refine wp_seq_k fun K3 hK3 => ?_
  refine region_lit ?_
  refine seq_alloc (ints .u8 (sec)) 26 4 rfl kj kj fun g4 W1 l4 e1 r4_1 => ?_
  have x1 : Ext w W1 := Ext.tr (Rely.Ext.refl w) e1
  have b4 : w.heap.size ≤ g4 := Nat.le_trans (Rely.Ext.refl w).size l4
  refine seq_val (.slice none 0 0) 8 rfl kj kj ?_
  refine seq_val (.nilIface) 9 rfl kj kj ?_
  refine seq_nil ?_
  refine hK3 _ _ ?_
  try clear hK3 K3
  refine wp_seq_k fun K5 hK5 => ?_
  refine wp_seq_k fun K6 hK6 => ?_
  refine region_lit ?_
  refine seq_val (.int .i64 ((n : Nat) : Int)) 12 rfl kj kj ?_
  refine seq_val (.bool false) 13 rfl kj (run_eq (u := .bool (decide (((n : Nat) : Int) < 0))) kj (congrArg Value.bool (decide_eq_false (by omega)))) ?_
  refine seq_val (.bool false) 14 rfl kj kj ?_
  refine seq_val (.int .i64 ((n : Nat) : Int)) 15 rfl kj kj ?_
  refine seq_val (.bool false) 16 rfl kj (run_eq (u := .bool (decide (((n : Nat) : Int) > 8160))) kj (congrArg Value.bool (decide_eq_false (by omega)))) ?_
  refine seq_val (.bool false) 17 rfl kj kj ?_
  refine seq_val (.bool false) 18 rfl kj kj ?_
  refine seq_val (.string s) 19 rfl kj kj ?_
  refine seq_val (.int .i64 (((strB s).length : Nat) : Int)) 20 rfl kj (run_eq (u := .int .i64 ((s.size : Nat) : Int)) kj (congrArg (fun z : Nat => Value.int .i64 (z : Int)) (strB_len s).symm)) ?_
  refine seq_val (.bool false) 21 rfl kj (run_eq (u := .bool (decide ((((strB s).length : Nat) : Int) > 255))) kj (congrArg Value.bool (decide_eq_false (by omega)))) ?_
  refine seq_val (.bool false) 22 rfl kj kj ?_
  refine seq_val (.bool false) 23 rfl kj kj ?_
  refine seq_val (.slice a_ctx ctx.length c_ctx) 24 rfl kj kj ?_
  refine seq_val (.int .i64 ((ctx.length : Nat) : Int)) 25 rfl kj kj ?_
  refine seq_val (.bool false) 26 rfl kj (run_eq (u := .bool (decide (((ctx.length : Nat) : Int) > 65536))) kj (congrArg Value.bool (decide_eq_false (by omega)))) ?_
  refine seq_val (.bool false) 27 rfl kj kj ?_
  refine seq_nil ?_
  refine hK6 _ _ ?_
  try clear hK6 K6
  refine cond_false kj ?_
  refine wp_skip ?_
  refine hK5 _ _ ?_
  try clear hK5 K5
  refine wp_seq_k fun K7 hK7 => ?_
  refine region_lit ?_
  refine seq_val (.string s) 29 rfl kj kj ?_
  refine seq_val (.int .i64 (((strB s).length : Nat) : Int)) 30 rfl kj (run_eq (u := .int .i64 ((s.size : Nat) : Int)) kj (congrArg (fun z : Nat => Value.int .i64 (z : Int)) (strB_len s).symm)) ?_
  refine seq_val (.int .i64 ((7 + ((strB s).length) : Nat) : Int)) 31 rfl kj (run_eq (u := .int .i64 (IntKind.i64.wrap (7 + (((strB s).length : Nat) : Int)))) kj (congrArg (Value.int .i64) (i64n _ _ (by omega) (by omega)))) ?_
  refine seq_val (.slice a_ctx ctx.length c_ctx) 32 rfl kj kj ?_
  refine seq_val (.int .i64 ((ctx.length : Nat) : Int)) 33 rfl kj kj ?_
  refine seq_val (.int .i64 (((7 + ((strB s).length)) + ctx.length : Nat) : Int)) 34 rfl kj (run_eq (u := .int .i64 (IntKind.i64.wrap (((7 + ((strB s).length) : Nat) : Int) + ((ctx.length : Nat) : Int)))) kj (congrArg (Value.int .i64) (i64n _ _ (by omega) (by omega)))) ?_
  refine seq_makeC (ints .u8 (List.replicate (7 + (strB s).length + ctx.length) 0)) 5 (7 + (strB s).length + ctx.length) 35 rfl kj (run_makeC 22 _ _ .i64 .i64 (7 + (strB s).length + ctx.length) 5 rfl kj kj kj kj (by omega)) fun g8 W2 l8 e2 r8_2 => ?_
  have x2 : Ext w W2 := Ext.tr x1 e2
  have b8 : w.heap.size ≤ g8 := Nat.le_trans x1.size l8
  have hz0 : OwnN .u8 5 W1.heap.size [] (.slice (some ⟨g8, 0, none⟩) 0 (7 + (strB s).length + ctx.length)) W2 := ownN_at (n := 0) rfl l8 r8_2 (by rw [ints_size, List.length_replicate]) (Nat.zero_le _) (by simp only [maxLen]; omega) rfl
  refine seq_val (.slice (some ⟨g8, 0, none⟩) 0 (7 + (strB s).length + ctx.length)) 10 rfl kj kj ?_
  refine seq_nil ?_
  refine hK7 _ _ ?_
  try clear hK7 K7
  refine wp_seq_k fun K9 hK9 => ?_
  refine region_lit ?_
  refine seq_val (.slice (some ⟨g8, 0, none⟩) 0 (7 + (strB s).length + ctx.length)) 36 rfl kj kj ?_
  refine seq_val (.int .i64 ((n : Nat) : Int)) 37 rfl kj kj ?_
  refine seq_val (.int .i64 (((n / 256 : Nat) : Int))) 38 rfl kj (run_bin .shr _ _ _ _ .i64 .u64 _ _ _ rfl kj kj (b_shr _ _ _ _ _ _ (by decide) (shrN n 8 256 (by decide)))) ?_
  refine seq_val (.int .u8 (((n / 256 : Nat) : Int))) 39 rfl kj (run_eq (u := .int .u8 (IntKind.u8.wrap (((n / 256 : Nat) : Int)))) kj (congrArg (Value.int .u8) (byteM (n / 256) (n / 256) (by omega)))) ?_
  refine seq_val (.int .i64 ((n : Nat) : Int)) 40 rfl kj kj ?_
  refine seq_val (.int .u8 (((n % 256 : Nat) : Int))) 41 rfl kj (run_eq (u := .int .u8 (IntKind.u8.wrap ((n : Nat) : Int))) kj (congrArg (Value.int .u8) (byteM (n) (n % 256) (by omega)))) ?_
  refine seq_val (.string s) 42 rfl kj kj ?_
  refine seq_val (.int .i64 (((strB s).length : Nat) : Int)) 43 rfl kj (run_eq (u := .int .i64 ((s.size : Nat) : Int)) kj (congrArg (fun z : Nat => Value.int .i64 (z : Int)) (strB_len s).symm)) ?_
  refine seq_val (.int .u8 ((((strB s).length : Nat) : Int))) 44 rfl kj (run_eq (u := .int .u8 (IntKind.u8.wrap (((strB s).length : Nat) : Int))) kj (congrArg (Value.int .u8) (byteM ((strB s).length) ((strB s).length) (by omega)))) ?_
  refine seq_makeS (ints .u8 ([(((n / 256 : Nat) : Int)), (((n % 256 : Nat) : Int)), ((((strB s).length : Nat) : Int))])) 5 3 45 rfl kj kj fun g10 W3 l10 e3 r10_3 => ?_
  have x3 : Ext w W3 := Ext.tr x2 e3
  have b10 : w.heap.size ≤ g10 := Nat.le_trans x2.size l10
  have f11_3 := (hz0.ext e3)
  have y1_2 : Ext W1 W2 := (Rely.Ext.trans (Rely.Ext.refl W1) e2)
  have y1_3 : Ext W1 W3 := (Rely.Ext.trans y1_2 e3)
  refine seq_appendN (k := .u8) (T := 5) (xs := []) (ys := [(((n / 256 : Nat) : Int)), (((n % 256 : Nat) : Int)), ((((strB s).length : Nat) : Int))]) (V := W1) 1 (.tmp 36) (.tmp 45) 22 rfl kj kj (by decide) 46 rfl kj kj kj f11_3 (rdK_ints (xs := [(((n / 256 : Nat) : Int)), (((n % 256 : Nat) : Int)), ((((strB s).length : Nat) : Int))]) (n := 3) rfl r10_3 (row_lt r10_3) (show 3 ≤ maxLen from by decide)) (by have : (infoA (strB s) n).length = 3 := rfl; have : (infoC ctx.length).length = 4 := rfl; simp only [List.length_append, List.length_cons, List.length_nil]; omega) y1_3 fun z1 W4 f12 y4 l4 => ?_
  have x4 : Ext w W4 := Ext.low x3 l4 x1.size
  have hu14 : OwnN .u8 5 W1.heap.size (infoA (strB s) n) z1 W4 := f12
  refine seq_val (z1) 10 rfl kj kj ?_
  refine seq_nil ?_
  refine hK9 _ _ ?_
  try clear hK9 K9
  refine wp_seq_k fun K15 hK15 => ?_
  refine region_lit ?_
  refine seq_val (z1) 47 rfl kj kj ?_
  refine seq_val (.string s) 48 rfl kj kj ?_
  refine seq_appendS (T := 5) (xs := infoA (strB s) n) (lab := s) (V := W1) (.tmp 47) (.tmp 48) 22 9 rfl kj kj kj 49 rfl kj kj kj hu14 (by have : (infoA (strB s) n).length = 3 := rfl; (try simp only [List.length_append, List.length_cons, List.length_nil]); omega) y4 fun z2 W5 f16 y5 l5 => ?_
  have x5 : Ext w W5 := Ext.low x4 l5 x1.size
  have hu17 : OwnN .u8 5 W1.heap.size (infoA (strB s) n ++ strB s) z2 W5 := f16
  refine seq_val (z2) 10 rfl kj kj ?_
  refine seq_nil ?_
  refine hK15 _ _ ?_
  try clear hK15 K15
  refine wp_seq_k fun K18 hK18 => ?_
  refine region_lit ?_
  refine seq_val (.slice a_ctx ctx.length c_ctx) 50 rfl kj kj ?_
  refine seq_val (.int .i64 ((ctx.length : Nat) : Int)) 51 rfl kj kj ?_
  refine seq_val (.int .i64 ((ctx.length : Nat) : Int)) 11 rfl kj kj ?_
  refine seq_nil ?_
  refine hK18 _ _ ?_
  try clear hK18 K18
  refine wp_seq_k fun K19 hK19 => ?_
  refine region_lit ?_
  refine seq_val (z2) 52 rfl kj kj ?_
  refine seq_val (.int .i64 ((ctx.length : Nat) : Int)) 53 rfl kj kj ?_
  refine seq_val (.int .i64 (((ctx.length / 16777216 : Nat) : Int))) 54 rfl kj (run_bin .shr _ _ _ _ .i64 .u64 _ _ _ rfl kj kj (b_shr _ _ _ _ _ _ (by decide) (shrN ctx.length 24 16777216 (by decide)))) ?_
  refine seq_val (.int .u8 (((ctx.length / 16777216 : Nat) : Int))) 55 rfl kj (run_eq (u := .int .u8 (IntKind.u8.wrap (((ctx.length / 16777216 : Nat) : Int)))) kj (congrArg (Value.int .u8) (byteM (ctx.length / 16777216) (ctx.length / 16777216) (by omega)))) ?_
  refine seq_val (.int .i64 ((ctx.length : Nat) : Int)) 56 rfl kj kj ?_
  refine seq_val (.int .i64 (((ctx.length / 65536 : Nat) : Int))) 57 rfl kj (run_bin .shr _ _ _ _ .i64 .u64 _ _ _ rfl kj kj (b_shr _ _ _ _ _ _ (by decide) (shrN ctx.length 16 65536 (by decide)))) ?_
  refine seq_val (.int .u8 (((ctx.length / 65536 % 256 : Nat) : Int))) 58 rfl kj (run_eq (u := .int .u8 (IntKind.u8.wrap (((ctx.length / 65536 : Nat) : Int)))) kj (congrArg (Value.int .u8) (byteM (ctx.length / 65536) (ctx.length / 65536 % 256) (by omega)))) ?_
  refine seq_val (.int .i64 ((ctx.length : Nat) : Int)) 59 rfl kj kj ?_
  refine seq_val (.int .i64 (((ctx.length / 256 : Nat) : Int))) 60 rfl kj (run_bin .shr _ _ _ _ .i64 .u64 _ _ _ rfl kj kj (b_shr _ _ _ _ _ _ (by decide) (shrN ctx.length 8 256 (by decide)))) ?_
  refine seq_val (.int .u8 (((ctx.length / 256 % 256 : Nat) : Int))) 61 rfl kj (run_eq (u := .int .u8 (IntKind.u8.wrap (((ctx.length / 256 : Nat) : Int)))) kj (congrArg (Value.int .u8) (byteM (ctx.length / 256) (ctx.length / 256 % 256) (by omega)))) ?_
  refine seq_val (.int .i64 ((ctx.length : Nat) : Int)) 62 rfl kj kj ?_
  refine seq_val (.int .u8 (((ctx.length % 256 : Nat) : Int))) 63 rfl kj (run_eq (u := .int .u8 (IntKind.u8.wrap ((ctx.length : Nat) : Int))) kj (congrArg (Value.int .u8) (byteM (ctx.length) (ctx.length % 256) (by omega)))) ?_
  refine seq_makeS (ints .u8 ([(((ctx.length / 16777216 : Nat) : Int)), (((ctx.length / 65536 % 256 : Nat) : Int)), (((ctx.length / 256 % 256 : Nat) : Int)), (((ctx.length % 256 : Nat) : Int))])) 5 4 64 rfl kj kj fun g20 W6 l20 e6 r20_6 => ?_
  have x6 : Ext w W6 := Ext.tr x5 e6
  have b20 : w.heap.size ≤ g20 := Nat.le_trans x5.size l20
  have f21_6 := (hu17.ext e6)
  have y1_6 : Ext W1 W6 := (Rely.Ext.trans y5 e6)
  refine seq_appendN (k := .u8) (T := 5) (xs := infoA (strB s) n ++ strB s) (ys := [(((ctx.length / 16777216 : Nat) : Int)), (((ctx.length / 65536 % 256 : Nat) : Int)), (((ctx.length / 256 % 256 : Nat) : Int)), (((ctx.length % 256 : Nat) : Int))]) (V := W1) 1 (.tmp 52) (.tmp 64) 22 rfl kj kj (by decide) 65 rfl kj kj kj f21_6 (rdK_ints (xs := [(((ctx.length / 16777216 : Nat) : Int)), (((ctx.length / 65536 % 256 : Nat) : Int)), (((ctx.length / 256 % 256 : Nat) : Int)), (((ctx.length % 256 : Nat) : Int))]) (n := 4) rfl r20_6 (row_lt r20_6) (show 4 ≤ maxLen from by decide)) (by have : (infoA (strB s) n).length = 3 := rfl; have : (infoC ctx.length).length = 4 := rfl; simp only [List.length_append, List.length_cons, List.length_nil]; omega) y1_6 fun z3 W7 f22 y7 l7 => ?_
  have x7 : Ext w W7 := Ext.low x6 l7 x1.size
  have hu24 : OwnN .u8 5 W1.heap.size ((infoA (strB s) n ++ strB s) ++ infoC ctx.length) z3 W7 := f22
  refine seq_val (z3) 10 rfl kj kj ?_
  refine seq_nil ?_
  refine hK19 _ _ ?_
  try clear hK19 K19
  refine wp_seq_k fun K25 hK25 => ?_
  refine region_lit ?_
  refine seq_val (z3) 66 rfl kj kj ?_
  refine seq_val (.slice a_ctx ctx.length c_ctx) 67 rfl kj kj ?_
  refine seq_appendN (k := .u8) (T := 5) (xs := (infoA (strB s) n ++ strB s) ++ infoC ctx.length) (ys := ctx) (V := W1) 1 (.tmp 66) (.tmp 67) 22 rfl kj kj (by decide) 68 rfl kj kj kj hu24 (RdK.ext hx x7) (by have : (infoA (strB s) n).length = 3 := rfl; have : (infoC ctx.length).length = 4 := rfl; simp only [List.length_append, List.length_cons, List.length_nil]; omega) y7 fun z4 W8 f26 y8 l8 => ?_
  have x8 : Ext w W8 := Ext.low x7 l8 x1.size
  have hu28 : OwnN .u8 5 W1.heap.size (infoL (strB s) ctx n) z4 W8 := f26
  refine seq_val (z4) 10 rfl kj kj ?_
  refine seq_nil ?_
  refine hK25 _ _ ?_
  try clear hK25 K25
  refine wp_seq_k fun K29 hK29 => ?_
  refine region_lit ?_
  refine seq_val (.slice (some ⟨g4, 0, none⟩) 32 32) 69 rfl kj kj ?_
  refine seq_val (z4) 70 rfl kj kj ?_
  refine seq_val (.int .i64 ((n : Nat) : Int)) 71 rfl kj kj ?_
  obtain ⟨ai30, ci30, hai30, -⟩ := id (OwnN.rd hu28)
  have r1_1 := (row_ext hc e1)
  have r1_2 := (row_ext r1_1 e2)
  have r1_3 := (row_ext r1_2 e3)
  have r1_4 := (low_row l4 r1_3 (row_lt r1_1))
  have r1_5 := (low_row l5 r1_4 (row_lt r1_1))
  have r1_6 := (row_ext r1_5 e6)
  have r1_7 := (low_row l7 r1_6 (row_lt r1_1))
  have r1_8 := (low_row l8 r1_7 (row_lt r1_1))
  have r2_1 := (row_ext hq e1)
  have r2_2 := (row_ext r2_1 e2)
  have r2_3 := (row_ext r2_2 e3)
  have r2_4 := (low_row l4 r2_3 (row_lt r2_1))
  have r2_5 := (low_row l5 r2_4 (row_lt r2_1))
  have r2_6 := (row_ext r2_5 e6)
  have r2_7 := (low_row l7 r2_6 (row_lt r2_1))
  have r2_8 := (low_row l8 r2_7 (row_lt r2_1))
  have r4_2 := (row_ext r4_1 e2)
  have r4_3 := (row_ext r4_2 e3)
  have r4_4 := (low_row l4 r4_3 (row_lt r4_1))
  have r4_5 := (low_row l5 r4_4 (row_lt r4_1))
  have r4_6 := (row_ext r4_5 e6)
  have r4_7 := (low_row l7 r4_6 (row_lt r4_1))
  have r4_8 := (low_row l8 r4_7 (row_lt r4_1))
  refine seq_callR (fun v W' => (fun v W => ∃ u, v = .tuple #[u, .nilIface] ∧ OwnN .u8 5 W8.heap.size (kx sec (infoL (strB s) ctx n) n) u W) v W' ∧ Ext W8 W') 19 #[.slice (some ⟨g4, 0, none⟩) 32 32, z4, .int .i64 ((n : Nat) : Int)] 72 rfl kj kj ((kexpandX sec (infoL (strB s) ctx n) _ _ _ _ n tc tq _ r1_8 r2_8 hn (by omega) (by rw [infoL_len]; omega) hsb (infoL_bytes _ _ _ (strB_bytes s) hxb hl hc2 hn) (rdK_ints (xs := sec) (n := 32) hsl r4_8 (row_lt r4_8) (show 32 ≤ maxLen from by decide)) (OwnN.rd hu28)).mono (by rintro e w' ⟨v, rfl, e1, hv⟩; exact ⟨v, rfl, hv, e1⟩)) fun vv31 W9 hh31 => ?_
  obtain ⟨hv31, e9⟩ := hh31
  have x9 : Ext w W9 := Ext.tr x8 e9
  obtain ⟨uu, rfl, huu⟩ := hv31
  refine seq_val (uu) 73 rfl kj kj ?_
  refine seq_val (.nilIface) 74 rfl kj kj ?_
  refine seq_val (uu) 8 rfl kj kj ?_
  refine seq_val (.nilIface) 9 rfl kj kj ?_
  refine seq_nil ?_
  refine hK29 _ _ ?_
  try clear hK29 K29
  refine wp_ret ?_
  repeat (first | with_reducible refine goR1 ?_ | with_reducible refine goR2 ?_)
  exact (show bodyPost _ _ _ .ret _ _ from ret2 (uu) (.nilIface) rfl (res_tmp kj) (res_tmp kj) ⟨_, rfl, x9, uu, rfl, OwnN.base x8.size huu⟩)
set_option maxHeartbeats 4000000 in
theorem rlabel_A (sec ctx : List Int) (s : ByteArray) (v2 : Value) (B2 : Nat) (w : World)   (hsl : sec.length = 32) (hsb : AreBytes sec) (hxb : AreBytes ctx) (hx : RdK .u8 B2 ctx v2 w) (n : Int) (h : 255 < (strB s).length) : Calls Tryd.prog 48 #[.agg (ints .u8 sec), .string s, v2, .int .i64 n] w (Ret w (.tuple #[.slice none 0 0, .bool false])) := by
  obtain ⟨a_ctx, c_ctx, rfl, -⟩ := id hx
  refine enter 67 [(0, .agg (ints .u8 (sec))), (1, .string s), (2, .slice a_ctx ctx.length c_ctx), (3, .int .i64 n)] Tryd.func48 rfl rfl kj rfl ?_
  refine wp_seq_k fun K1 hK1 => ?_
  refine region_lit ?_
  refine seq_alloc (ints .u8 (sec)) 26 4 rfl kj kj fun g2 W1 l2 e1 r2_1 => ?_
  have x1 : Ext w W1 := Ext.tr (Rely.Ext.refl w) e1
  have b2 : w.heap.size ≤ g2 := Nat.le_trans (Rely.Ext.refl w).size l2
  refine seq_val (.slice none 0 0) 8 rfl kj kj ?_
  refine seq_val (.bool false) 9 rfl kj kj ?_
  refine seq_nil ?_
  refine hK1 _ _ ?_
  try clear hK1 K1
  refine wp_seq_k fun K3 hK3 => ?_
  refine wp_seq_k fun K4 hK4 => ?_
  refine region_lit ?_
  refine seq_val (.string s) 12 rfl kj kj ?_
  refine seq_val (.int .i64 (((strB s).length : Nat) : Int)) 13 rfl kj (run_eq (u := .int .i64 ((s.size : Nat) : Int)) kj (congrArg (fun z : Nat => Value.int .i64 (z : Int)) (strB_len s).symm)) ?_
  refine seq_val (.bool true) 14 rfl kj (run_eq (u := .bool (decide ((((strB s).length : Nat) : Int) > 255))) kj (congrArg Value.bool (decide_eq_true (by omega)))) ?_
  refine seq_val (.bool true) 15 rfl kj kj ?_
  refine seq_skip 16 rfl kj ?_
  refine seq_skip 17 rfl kj ?_
  refine seq_skip 18 rfl kj ?_
  refine seq_val (.bool true) 19 rfl kj kj ?_
  refine seq_val (.bool true) 20 rfl kj kj ?_
  refine seq_skip 21 rfl kj ?_
  refine seq_skip 22 rfl kj ?_
  refine seq_val (.bool true) 23 rfl kj kj ?_
  refine seq_val (.bool true) 24 rfl kj kj ?_
  refine seq_skip 25 rfl kj ?_
  refine seq_skip 26 rfl kj ?_
  refine seq_val (.bool true) 27 rfl kj kj ?_
  refine seq_nil ?_
  refine hK4 _ _ ?_
  try clear hK4 K4
  refine cond_true kj ?_
  refine wp_seq_k fun K5 hK5 => ?_
  refine region_lit ?_
  refine seq_val (.slice none 0 0) 8 rfl kj kj ?_
  refine seq_val (.bool false) 9 rfl kj kj ?_
  refine seq_nil ?_
  refine hK5 _ _ ?_
  try clear hK5 K5
  refine wp_ret ?_
  repeat (first | with_reducible refine goR1 ?_ | with_reducible refine goR2 ?_)
  exact (show bodyPost _ _ _ .ret _ _ from ret2 (.slice none 0 0) (.bool false) rfl (res_tmp kj) (res_tmp kj) ⟨rfl, x1⟩)
set_option maxHeartbeats 4000000 in
theorem rlabel_B (sec ctx : List Int) (s : ByteArray) (v2 : Value) (B2 : Nat) (w : World)   (hsl : sec.length = 32) (hsb : AreBytes sec) (hxb : AreBytes ctx) (hx : RdK .u8 B2 ctx v2 w) (n : Int) (h0 : (strB s).length ≤ 255) (h : 65536 < ctx.length) : Calls Tryd.prog 48 #[.agg (ints .u8 sec), .string s, v2, .int .i64 n] w (Ret w (.tuple #[.slice none 0 0, .bool false])) := by
  obtain ⟨a_ctx, c_ctx, rfl, -⟩ := id hx
  refine enter 67 [(0, .agg (ints .u8 (sec))), (1, .string s), (2, .slice a_ctx ctx.length c_ctx), (3, .int .i64 n)] Tryd.func48 rfl rfl kj rfl ?_
  refine wp_seq_k fun K1 hK1 => ?_
  refine region_lit ?_
  refine seq_alloc (ints .u8 (sec)) 26 4 rfl kj kj fun g2 W1 l2 e1 r2_1 => ?_
  have x1 : Ext w W1 := Ext.tr (Rely.Ext.refl w) e1
  have b2 : w.heap.size ≤ g2 := Nat.le_trans (Rely.Ext.refl w).size l2
  refine seq_val (.slice none 0 0) 8 rfl kj kj ?_
  refine seq_val (.bool false) 9 rfl kj kj ?_
  refine seq_nil ?_
  refine hK1 _ _ ?_
  try clear hK1 K1
  refine wp_seq_k fun K3 hK3 => ?_
  refine wp_seq_k fun K4 hK4 => ?_
  refine region_lit ?_
  refine seq_val (.string s) 12 rfl kj kj ?_
  refine seq_val (.int .i64 (((strB s).length : Nat) : Int)) 13 rfl kj (run_eq (u := .int .i64 ((s.size : Nat) : Int)) kj (congrArg (fun z : Nat => Value.int .i64 (z : Int)) (strB_len s).symm)) ?_
  refine seq_val (.bool false) 14 rfl kj (run_eq (u := .bool (decide ((((strB s).length : Nat) : Int) > 255))) kj (congrArg Value.bool (decide_eq_false (by omega)))) ?_
  refine seq_val (.bool false) 15 rfl kj kj ?_
  refine seq_val (.slice a_ctx ctx.length c_ctx) 16 rfl kj kj ?_
  refine seq_val (.int .i64 ((ctx.length : Nat) : Int)) 17 rfl kj kj ?_
  refine seq_val (.bool true) 18 rfl kj (run_eq (u := .bool (decide (((ctx.length : Nat) : Int) > 65536))) kj (congrArg Value.bool (decide_eq_true (by omega)))) ?_
  refine seq_val (.bool true) 19 rfl kj kj ?_
  refine seq_val (.bool true) 20 rfl kj kj ?_
  refine seq_skip 21 rfl kj ?_
  refine seq_skip 22 rfl kj ?_
  refine seq_val (.bool true) 23 rfl kj kj ?_
  refine seq_val (.bool true) 24 rfl kj kj ?_
  refine seq_skip 25 rfl kj ?_
  refine seq_skip 26 rfl kj ?_
  refine seq_val (.bool true) 27 rfl kj kj ?_
  refine seq_nil ?_
  refine hK4 _ _ ?_
  try clear hK4 K4
  refine cond_true kj ?_
  refine wp_seq_k fun K5 hK5 => ?_
  refine region_lit ?_
  refine seq_val (.slice none 0 0) 8 rfl kj kj ?_
  refine seq_val (.bool false) 9 rfl kj kj ?_
  refine seq_nil ?_
  refine hK5 _ _ ?_
  try clear hK5 K5
  refine wp_ret ?_
  repeat (first | with_reducible refine goR1 ?_ | with_reducible refine goR2 ?_)
  exact (show bodyPost _ _ _ .ret _ _ from ret2 (.slice none 0 0) (.bool false) rfl (res_tmp kj) (res_tmp kj) ⟨rfl, x1⟩)
set_option maxHeartbeats 4000000 in
theorem rlabel_C (sec ctx : List Int) (s : ByteArray) (v2 : Value) (B2 : Nat) (w : World)   (hsl : sec.length = 32) (hsb : AreBytes sec) (hxb : AreBytes ctx) (hx : RdK .u8 B2 ctx v2 w) (n : Int) (h0 : (strB s).length ≤ 255) (h1 : ctx.length ≤ 65536) (h : n < 0) : Calls Tryd.prog 48 #[.agg (ints .u8 sec), .string s, v2, .int .i64 n] w (Ret w (.tuple #[.slice none 0 0, .bool false])) := by
  obtain ⟨a_ctx, c_ctx, rfl, -⟩ := id hx
  refine enter 67 [(0, .agg (ints .u8 (sec))), (1, .string s), (2, .slice a_ctx ctx.length c_ctx), (3, .int .i64 n)] Tryd.func48 rfl rfl kj rfl ?_
  refine wp_seq_k fun K1 hK1 => ?_
  refine region_lit ?_
  refine seq_alloc (ints .u8 (sec)) 26 4 rfl kj kj fun g2 W1 l2 e1 r2_1 => ?_
  have x1 : Ext w W1 := Ext.tr (Rely.Ext.refl w) e1
  have b2 : w.heap.size ≤ g2 := Nat.le_trans (Rely.Ext.refl w).size l2
  refine seq_val (.slice none 0 0) 8 rfl kj kj ?_
  refine seq_val (.bool false) 9 rfl kj kj ?_
  refine seq_nil ?_
  refine hK1 _ _ ?_
  try clear hK1 K1
  refine wp_seq_k fun K3 hK3 => ?_
  refine wp_seq_k fun K4 hK4 => ?_
  refine region_lit ?_
  refine seq_val (.string s) 12 rfl kj kj ?_
  refine seq_val (.int .i64 (((strB s).length : Nat) : Int)) 13 rfl kj (run_eq (u := .int .i64 ((s.size : Nat) : Int)) kj (congrArg (fun z : Nat => Value.int .i64 (z : Int)) (strB_len s).symm)) ?_
  refine seq_val (.bool false) 14 rfl kj (run_eq (u := .bool (decide ((((strB s).length : Nat) : Int) > 255))) kj (congrArg Value.bool (decide_eq_false (by omega)))) ?_
  refine seq_val (.bool false) 15 rfl kj kj ?_
  refine seq_val (.slice a_ctx ctx.length c_ctx) 16 rfl kj kj ?_
  refine seq_val (.int .i64 ((ctx.length : Nat) : Int)) 17 rfl kj kj ?_
  refine seq_val (.bool false) 18 rfl kj (run_eq (u := .bool (decide (((ctx.length : Nat) : Int) > 65536))) kj (congrArg Value.bool (decide_eq_false (by omega)))) ?_
  refine seq_val (.bool false) 19 rfl kj kj ?_
  refine seq_val (.bool false) 20 rfl kj kj ?_
  refine seq_val (.int .i64 n) 21 rfl kj kj ?_
  refine seq_val (.bool true) 22 rfl kj (run_eq (u := .bool (decide (n < 0))) kj (congrArg Value.bool (decide_eq_true (by omega)))) ?_
  refine seq_val (.bool true) 23 rfl kj kj ?_
  refine seq_val (.bool true) 24 rfl kj kj ?_
  refine seq_skip 25 rfl kj ?_
  refine seq_skip 26 rfl kj ?_
  refine seq_val (.bool true) 27 rfl kj kj ?_
  refine seq_nil ?_
  refine hK4 _ _ ?_
  try clear hK4 K4
  refine cond_true kj ?_
  refine wp_seq_k fun K5 hK5 => ?_
  refine region_lit ?_
  refine seq_val (.slice none 0 0) 8 rfl kj kj ?_
  refine seq_val (.bool false) 9 rfl kj kj ?_
  refine seq_nil ?_
  refine hK5 _ _ ?_
  try clear hK5 K5
  refine wp_ret ?_
  repeat (first | with_reducible refine goR1 ?_ | with_reducible refine goR2 ?_)
  exact (show bodyPost _ _ _ .ret _ _ from ret2 (.slice none 0 0) (.bool false) rfl (res_tmp kj) (res_tmp kj) ⟨rfl, x1⟩)
set_option maxHeartbeats 4000000 in
theorem rlabel_D (sec ctx : List Int) (s : ByteArray) (v2 : Value) (B2 : Nat) (w : World)   (hsl : sec.length = 32) (hsb : AreBytes sec) (hxb : AreBytes ctx) (hx : RdK .u8 B2 ctx v2 w) (n : Int) (h0 : (strB s).length ≤ 255) (h1 : ctx.length ≤ 65536) (h2 : 0 ≤ n) (h : 8160 < n) : Calls Tryd.prog 48 #[.agg (ints .u8 sec), .string s, v2, .int .i64 n] w (Ret w (.tuple #[.slice none 0 0, .bool false])) := by
  obtain ⟨a_ctx, c_ctx, rfl, -⟩ := id hx
  refine enter 67 [(0, .agg (ints .u8 (sec))), (1, .string s), (2, .slice a_ctx ctx.length c_ctx), (3, .int .i64 n)] Tryd.func48 rfl rfl kj rfl ?_
  refine wp_seq_k fun K1 hK1 => ?_
  refine region_lit ?_
  refine seq_alloc (ints .u8 (sec)) 26 4 rfl kj kj fun g2 W1 l2 e1 r2_1 => ?_
  have x1 : Ext w W1 := Ext.tr (Rely.Ext.refl w) e1
  have b2 : w.heap.size ≤ g2 := Nat.le_trans (Rely.Ext.refl w).size l2
  refine seq_val (.slice none 0 0) 8 rfl kj kj ?_
  refine seq_val (.bool false) 9 rfl kj kj ?_
  refine seq_nil ?_
  refine hK1 _ _ ?_
  try clear hK1 K1
  refine wp_seq_k fun K3 hK3 => ?_
  refine wp_seq_k fun K4 hK4 => ?_
  refine region_lit ?_
  refine seq_val (.string s) 12 rfl kj kj ?_
  refine seq_val (.int .i64 (((strB s).length : Nat) : Int)) 13 rfl kj (run_eq (u := .int .i64 ((s.size : Nat) : Int)) kj (congrArg (fun z : Nat => Value.int .i64 (z : Int)) (strB_len s).symm)) ?_
  refine seq_val (.bool false) 14 rfl kj (run_eq (u := .bool (decide ((((strB s).length : Nat) : Int) > 255))) kj (congrArg Value.bool (decide_eq_false (by omega)))) ?_
  refine seq_val (.bool false) 15 rfl kj kj ?_
  refine seq_val (.slice a_ctx ctx.length c_ctx) 16 rfl kj kj ?_
  refine seq_val (.int .i64 ((ctx.length : Nat) : Int)) 17 rfl kj kj ?_
  refine seq_val (.bool false) 18 rfl kj (run_eq (u := .bool (decide (((ctx.length : Nat) : Int) > 65536))) kj (congrArg Value.bool (decide_eq_false (by omega)))) ?_
  refine seq_val (.bool false) 19 rfl kj kj ?_
  refine seq_val (.bool false) 20 rfl kj kj ?_
  refine seq_val (.int .i64 n) 21 rfl kj kj ?_
  refine seq_val (.bool false) 22 rfl kj (run_eq (u := .bool (decide (n < 0))) kj (congrArg Value.bool (decide_eq_false (by omega)))) ?_
  refine seq_val (.bool false) 23 rfl kj kj ?_
  refine seq_val (.bool false) 24 rfl kj kj ?_
  refine seq_val (.int .i64 n) 25 rfl kj kj ?_
  refine seq_val (.bool true) 26 rfl kj (run_eq (u := .bool (decide (n > 8160))) kj (congrArg Value.bool (decide_eq_true (by omega)))) ?_
  refine seq_val (.bool true) 27 rfl kj kj ?_
  refine seq_nil ?_
  refine hK4 _ _ ?_
  try clear hK4 K4
  refine cond_true kj ?_
  refine wp_seq_k fun K5 hK5 => ?_
  refine region_lit ?_
  refine seq_val (.slice none 0 0) 8 rfl kj kj ?_
  refine seq_val (.bool false) 9 rfl kj kj ?_
  refine seq_nil ?_
  refine hK5 _ _ ?_
  try clear hK5 K5
  refine wp_ret ?_
  repeat (first | with_reducible refine goR1 ?_ | with_reducible refine goR2 ?_)
  exact (show bodyPost _ _ _ .ret _ _ from ret2 (.slice none 0 0) (.bool false) rfl (res_tmp kj) (res_tmp kj) ⟨rfl, x1⟩)
set_option maxHeartbeats 4000000 in
theorem rlabelC (sec ctx : List Int) (s : ByteArray) (v2 : Value) (B2 : Nat) (w : World)   (hsl : sec.length = 32) (hsb : AreBytes sec) (hxb : AreBytes ctx) (hx : RdK .u8 B2 ctx v2 w) (n : Nat) (hn : n ≤ 8160) (hl : (strB s).length ≤ 255) (hc2 : ctx.length ≤ 65536) : Calls Tryd.prog 48 #[.agg (ints .u8 sec), .string s, v2, .int .i64 ((n : Nat) : Int)] w (Gives w (fun v W => ∃ u, v = .tuple #[u, .bool true] ∧ OwnN .u8 5 w.heap.size (kx sec (infoL (strB s) ctx n) n) u W)) := by
  obtain ⟨a_ctx, c_ctx, rfl, -⟩ := id hx
  refine enter 67 [(0, .agg (ints .u8 (sec))), (1, .string s), (2, .slice a_ctx ctx.length c_ctx), (3, .int .i64 ((n : Nat) : Int))] Tryd.func48 rfl rfl kj rfl ?_
  refine wp_seq_k fun K1 hK1 => ?_
  refine region_lit ?_
  refine seq_alloc (ints .u8 (sec)) 26 4 rfl kj kj fun g2 W1 l2 e1 r2_1 => ?_
  have x1 : Ext w W1 := Ext.tr (Rely.Ext.refl w) e1
  have b2 : w.heap.size ≤ g2 := Nat.le_trans (Rely.Ext.refl w).size l2
  refine seq_val (.slice none 0 0) 8 rfl kj kj ?_
  refine seq_val (.bool false) 9 rfl kj kj ?_
  refine seq_nil ?_
  refine hK1 _ _ ?_
  try clear hK1 K1
  refine wp_seq_k fun K3 hK3 => ?_
  refine wp_seq_k fun K4 hK4 => ?_
  refine region_lit ?_
  refine seq_val (.string s) 12 rfl kj kj ?_
  refine seq_val (.int .i64 (((strB s).length : Nat) : Int)) 13 rfl kj (run_eq (u := .int .i64 ((s.size : Nat) : Int)) kj (congrArg (fun z : Nat => Value.int .i64 (z : Int)) (strB_len s).symm)) ?_
  refine seq_val (.bool false) 14 rfl kj (run_eq (u := .bool (decide ((((strB s).length : Nat) : Int) > 255))) kj (congrArg Value.bool (decide_eq_false (by omega)))) ?_
  refine seq_val (.bool false) 15 rfl kj kj ?_
  refine seq_val (.slice a_ctx ctx.length c_ctx) 16 rfl kj kj ?_
  refine seq_val (.int .i64 ((ctx.length : Nat) : Int)) 17 rfl kj kj ?_
  refine seq_val (.bool false) 18 rfl kj (run_eq (u := .bool (decide (((ctx.length : Nat) : Int) > 65536))) kj (congrArg Value.bool (decide_eq_false (by omega)))) ?_
  refine seq_val (.bool false) 19 rfl kj kj ?_
  refine seq_val (.bool false) 20 rfl kj kj ?_
  refine seq_val (.int .i64 ((n : Nat) : Int)) 21 rfl kj kj ?_
  refine seq_val (.bool false) 22 rfl kj (run_eq (u := .bool (decide (((n : Nat) : Int) < 0))) kj (congrArg Value.bool (decide_eq_false (by omega)))) ?_
  refine seq_val (.bool false) 23 rfl kj kj ?_
  refine seq_val (.bool false) 24 rfl kj kj ?_
  refine seq_val (.int .i64 ((n : Nat) : Int)) 25 rfl kj kj ?_
  refine seq_val (.bool false) 26 rfl kj (run_eq (u := .bool (decide (((n : Nat) : Int) > 8160))) kj (congrArg Value.bool (decide_eq_false (by omega)))) ?_
  refine seq_val (.bool false) 27 rfl kj kj ?_
  refine seq_nil ?_
  refine hK4 _ _ ?_
  try clear hK4 K4
  refine cond_false kj ?_
  refine wp_skip ?_
  refine hK3 _ _ ?_
  try clear hK3 K3
  refine wp_seq_k fun K5 hK5 => ?_
  refine region_lit ?_
  refine seq_val (.slice a_ctx ctx.length c_ctx) 28 rfl kj kj ?_
  refine seq_val (.int .i64 ((ctx.length : Nat) : Int)) 29 rfl kj kj ?_
  refine seq_val (.int .i64 ((ctx.length : Nat) : Int)) 10 rfl kj kj ?_
  refine seq_nil ?_
  refine hK5 _ _ ?_
  try clear hK5 K5
  refine wp_seq_k fun K6 hK6 => ?_
  refine region_lit ?_
  refine seq_val (.int .i64 ((n : Nat) : Int)) 30 rfl kj kj ?_
  refine seq_val (.int .i64 ((n / 256 : Nat) : Int)) 31 rfl kj (run_eq (u := .int .i64 (IntKind.i64.wrap (Int.tdiv (((n : Nat) : Int)) (256)))) kj (congrArg (Value.int .i64) (i64_quo _ 256 (by omega)))) ?_
  refine seq_val (.int .u8 (((n / 256 : Nat) : Int))) 32 rfl kj (run_eq (u := .int .u8 (IntKind.u8.wrap ((n / 256 : Nat) : Int))) kj (congrArg (Value.int .u8) (byteM (n / 256) (n / 256) (by omega)))) ?_
  refine seq_val (.int .i64 ((n : Nat) : Int)) 33 rfl kj kj ?_
  refine seq_val (.int .i64 ((n % 256 : Nat) : Int)) 34 rfl kj (run_eq (u := .int .i64 (Int.tmod (((n : Nat) : Int)) (256))) kj (congrArg (Value.int .i64) (nat_rem _ 256))) ?_
  refine seq_val (.int .u8 (((n % 256 : Nat) : Int))) 35 rfl kj (run_eq (u := .int .u8 (IntKind.u8.wrap ((n % 256 : Nat) : Int))) kj (congrArg (Value.int .u8) (byteM (n % 256) (n % 256) (by omega)))) ?_
  refine seq_val (.string s) 36 rfl kj kj ?_
  refine seq_val (.int .i64 (((strB s).length : Nat) : Int)) 37 rfl kj (run_eq (u := .int .i64 ((s.size : Nat) : Int)) kj (congrArg (fun z : Nat => Value.int .i64 (z : Int)) (strB_len s).symm)) ?_
  refine seq_val (.int .u8 ((((strB s).length : Nat) : Int))) 38 rfl kj (run_eq (u := .int .u8 (IntKind.u8.wrap (((strB s).length : Nat) : Int))) kj (congrArg (Value.int .u8) (byteM ((strB s).length) ((strB s).length) (by omega)))) ?_
  refine seq_makeS (ints .u8 ([(((n / 256 : Nat) : Int)), (((n % 256 : Nat) : Int)), ((((strB s).length : Nat) : Int))])) 5 3 39 rfl kj kj fun g7 W2 l7 e2 r7_2 => ?_
  have x2 : Ext w W2 := Ext.tr x1 e2
  have b7 : w.heap.size ≤ g7 := Nat.le_trans x1.size l7
  refine seq_val (.string s) 40 rfl kj kj ?_
  have y1_2 : Ext W1 W2 := (Rely.Ext.trans (Rely.Ext.refl W1) e2)
  refine seq_appendS (T := 5) (xs := [(((n / 256 : Nat) : Int)), (((n % 256 : Nat) : Int)), ((((strB s).length : Nat) : Int))]) (lab := s) (V := W1) (.tmp 39) (.tmp 40) 22 9 rfl kj kj kj 41 rfl kj kj kj (ownN_row (xs := [(((n / 256 : Nat) : Int)), (((n % 256 : Nat) : Int)), ((((strB s).length : Nat) : Int))]) (n := 3) rfl l7 r7_2 (by decide)) (by have : (infoA (strB s) n).length = 3 := rfl; (try simp only [List.length_append, List.length_cons, List.length_nil]); omega) y1_2 fun z2 W3 f8 y3 l3 => ?_
  have x3 : Ext w W3 := Ext.low x2 l3 x1.size
  have hu9 : OwnN .u8 5 W1.heap.size (infoA (strB s) n ++ strB s) z2 W3 := f8
  refine seq_val (z2) 11 rfl kj kj ?_
  refine seq_nil ?_
  refine hK6 _ _ ?_
  try clear hK6 K6
  refine wp_seq_k fun K10 hK10 => ?_
  refine region_lit ?_
  refine seq_val (z2) 42 rfl kj kj ?_
  refine seq_val (.int .i64 ((ctx.length : Nat) : Int)) 43 rfl kj kj ?_
  refine seq_val (.int .i64 ((ctx.length / 16777216 : Nat) : Int)) 44 rfl kj (run_eq (u := .int .i64 (IntKind.i64.wrap (Int.tdiv (((ctx.length : Nat) : Int)) (16777216)))) kj (congrArg (Value.int .i64) (i64_quo _ 16777216 (by omega)))) ?_
  refine seq_val (.int .u8 (((ctx.length / 16777216 : Nat) : Int))) 45 rfl kj (run_eq (u := .int .u8 (IntKind.u8.wrap ((ctx.length / 16777216 : Nat) : Int))) kj (congrArg (Value.int .u8) (byteM (ctx.length / 16777216) (ctx.length / 16777216) (by omega)))) ?_
  refine seq_val (.int .i64 ((ctx.length : Nat) : Int)) 46 rfl kj kj ?_
  refine seq_val (.int .i64 ((ctx.length / 65536 : Nat) : Int)) 47 rfl kj (run_eq (u := .int .i64 (IntKind.i64.wrap (Int.tdiv (((ctx.length : Nat) : Int)) (65536)))) kj (congrArg (Value.int .i64) (i64_quo _ 65536 (by omega)))) ?_
  refine seq_val (.int .i64 (((ctx.length / 65536) % 256 : Nat) : Int)) 48 rfl kj (run_eq (u := .int .i64 (Int.tmod (((ctx.length / 65536 : Nat) : Int)) (256))) kj (congrArg (Value.int .i64) (nat_rem _ 256))) ?_
  refine seq_val (.int .u8 (((ctx.length / 65536 % 256 : Nat) : Int))) 49 rfl kj (run_eq (u := .int .u8 (IntKind.u8.wrap (((ctx.length / 65536) % 256 : Nat) : Int))) kj (congrArg (Value.int .u8) (byteM (ctx.length / 65536 % 256) (ctx.length / 65536 % 256) (by omega)))) ?_
  refine seq_val (.int .i64 ((ctx.length : Nat) : Int)) 50 rfl kj kj ?_
  refine seq_val (.int .i64 ((ctx.length / 256 : Nat) : Int)) 51 rfl kj (run_eq (u := .int .i64 (IntKind.i64.wrap (Int.tdiv (((ctx.length : Nat) : Int)) (256)))) kj (congrArg (Value.int .i64) (i64_quo _ 256 (by omega)))) ?_
  refine seq_val (.int .i64 (((ctx.length / 256) % 256 : Nat) : Int)) 52 rfl kj (run_eq (u := .int .i64 (Int.tmod (((ctx.length / 256 : Nat) : Int)) (256))) kj (congrArg (Value.int .i64) (nat_rem _ 256))) ?_
  refine seq_val (.int .u8 (((ctx.length / 256 % 256 : Nat) : Int))) 53 rfl kj (run_eq (u := .int .u8 (IntKind.u8.wrap (((ctx.length / 256) % 256 : Nat) : Int))) kj (congrArg (Value.int .u8) (byteM (ctx.length / 256 % 256) (ctx.length / 256 % 256) (by omega)))) ?_
  refine seq_val (.int .i64 ((ctx.length : Nat) : Int)) 54 rfl kj kj ?_
  refine seq_val (.int .i64 ((ctx.length % 256 : Nat) : Int)) 55 rfl kj (run_eq (u := .int .i64 (Int.tmod (((ctx.length : Nat) : Int)) (256))) kj (congrArg (Value.int .i64) (nat_rem _ 256))) ?_
  refine seq_val (.int .u8 (((ctx.length % 256 : Nat) : Int))) 56 rfl kj (run_eq (u := .int .u8 (IntKind.u8.wrap ((ctx.length % 256 : Nat) : Int))) kj (congrArg (Value.int .u8) (byteM (ctx.length % 256) (ctx.length % 256) (by omega)))) ?_
  refine seq_makeS (ints .u8 ([(((ctx.length / 16777216 : Nat) : Int)), (((ctx.length / 65536 % 256 : Nat) : Int)), (((ctx.length / 256 % 256 : Nat) : Int)), (((ctx.length % 256 : Nat) : Int))])) 5 4 57 rfl kj kj fun g11 W4 l11 e4 r11_4 => ?_
  have x4 : Ext w W4 := Ext.tr x3 e4
  have b11 : w.heap.size ≤ g11 := Nat.le_trans x3.size l11
  have f12_4 := (hu9.ext e4)
  have y1_4 : Ext W1 W4 := (Rely.Ext.trans y3 e4)
  refine seq_appendN (k := .u8) (T := 5) (xs := infoA (strB s) n ++ strB s) (ys := [(((ctx.length / 16777216 : Nat) : Int)), (((ctx.length / 65536 % 256 : Nat) : Int)), (((ctx.length / 256 % 256 : Nat) : Int)), (((ctx.length % 256 : Nat) : Int))]) (V := W1) 1 (.tmp 42) (.tmp 57) 22 rfl kj kj (by decide) 58 rfl kj kj kj f12_4 (rdK_ints (xs := [(((ctx.length / 16777216 : Nat) : Int)), (((ctx.length / 65536 % 256 : Nat) : Int)), (((ctx.length / 256 % 256 : Nat) : Int)), (((ctx.length % 256 : Nat) : Int))]) (n := 4) rfl r11_4 (row_lt r11_4) (show 4 ≤ maxLen from by decide)) (by have : (infoA (strB s) n).length = 3 := rfl; simp only [List.length_append, List.length_cons, List.length_nil]; omega) y1_4 fun z3 W5 f13 y5 l5 => ?_
  have x5 : Ext w W5 := Ext.low x4 l5 x1.size
  have hu15 : OwnN .u8 5 W1.heap.size ((infoA (strB s) n ++ strB s) ++ infoC ctx.length) z3 W5 := f13
  refine seq_val (z3) 11 rfl kj kj ?_
  refine seq_nil ?_
  refine hK10 _ _ ?_
  try clear hK10 K10
  refine wp_seq_k fun K16 hK16 => ?_
  have hxs : RdK .u8 w.heap.size ctx (.slice a_ctx ctx.length c_ctx) W5 := (RdK.here hx).ext x5
  have hbx : w.heap.size ≤ W1.heap.size := x1.size
  have hbW : W1.heap.size ≤ W5.heap.size := y5.size
  have hlx : ((infoA (strB s) n ++ strB s) ++ infoC ctx.length).length + ctx.length ≤ 1000000000 := by have : (infoA (strB s) n).length = 3 := rfl; have : (infoC ctx.length).length = 4 := rfl; simp only [List.length_append]; omega
  obtain ⟨gz, cz, curz, hze, hz1, hz2, -, -, -, -⟩ := ownN_open hu15 (by have : (infoA (strB s) n).length = 3 := rfl; simp only [List.length_append]; omega)
  have hgz := row_lt hz2
  subst hze
  have r2_2 := (row_ext r2_1 e2)
  have r2_3 := (low_row l3 r2_2 (row_lt r2_1))
  have r2_4 := (row_ext r2_3 e4)
  have r2_5 := (low_row l5 r2_4 (row_lt r2_1))
  have hn4 : g2 ≠ gz := by have h1 := row_lt r2_1; omega
  refine any_regionX (OnceB gz W1.heap.size ((infoA (strB s) n ++ strB s) ++ infoC ctx.length).length ctx) (OnceB.refl _ _ _ _) (fun h k => OnceB.trans h k) 8 [⟨none, [(4, none)]⟩, ⟨none, [(11, none)]⟩, ⟨none, [(2, none)]⟩, ⟨none, [(60, some 1), (61, some 2)]⟩, ⟨none, [(3, none)]⟩, ⟨none, [(59, some 0), (62, some 3), (63, some 4)]⟩, ⟨none, [(64, some 5)]⟩, ⟨none, [(64, some 5)]⟩] kj kj fun F hF => ?_
  refine x_val (OnceB.refl _ _ _ _) (.slice (some ⟨g2, 0, none⟩) 32 32) kj kj (fun W hR => by kernel_rfl) ?_
  refine x_val (OnceB.refl _ _ _ _) (.slice (some ⟨gz, 0, none⟩) ((infoA (strB s) n ++ strB s) ++ infoC ctx.length).length cz) kj kj (fun W hR => by kernel_rfl) ?_
  refine x_val (OnceB.refl _ _ _ _) (.slice a_ctx ctx.length c_ctx) kj kj (fun W hR => by kernel_rfl) ?_
  refine x_put (OwnN .u8 5 W1.heap.size (((infoA (strB s) n ++ strB s) ++ infoC ctx.length) ++ ctx)) (onceB_own (fun i hi h => by unfold nth; rw [List.getD_eq_getElem?_getD, List.getD_eq_getElem?_getD, List.getElem?_append_right h])) kj kj (fun W hR => append_OB (.tmp 60) (.tmp 61) 22 (by rfl) kj kj kj kj (onceB_own (fun i hi h => absurd hi (by omega)) _ _ _ hR (hu15.ext (ext_drew _))) (hR.once.rd (hxs.ext (ext_drew _)) hbx) hlx (Nat.le_trans hbW (Nat.le_trans (ext_drew W5).size hR.once.size))) ?_
  refine x_val (OnceB.refl _ _ _ _) (.int .i64 ((n : Nat) : Int)) kj kj (fun W hR => by kernel_rfl) ?_
  refine x_callGX (OnceB.refl _ _ _ _) (fun e => OnceB.ext e) (fun v W => ∃ u, v = .tuple #[u, .bool true] ∧ OwnN .u8 5 w.heap.size (kx sec (infoL (strB s) ctx n) n) u W ∧ u.ownBlock ≠ some gz) (fun v W W' hR h => by obtain ⟨u, e, h1, h2⟩ := h; exact ⟨u, e, onceB_else hR h1 h2, h2⟩) 20 (fun ρ W hR hh => ?_) ?_
  · have e59 : ρ 59 = .slice (some ⟨g2, 0, none⟩) 32 32 := hh.1
    have h62 : OwnN .u8 5 W1.heap.size (((infoA (strB s) n ++ strB s) ++ infoC ctx.length) ++ ctx) (ρ 62) W := hh.2.1
    have e63 : ρ 63 = .int .i64 ((n : Nat) : Int) := hh.2.2.1
    have h4 := hR.row (row_ext r2_5 (ext_drew _)) hn4
    have hWs : w.heap.size ≤ W.heap.size := Nat.le_trans x5.size (Nat.le_trans (ext_drew W5).size hR.once.size)
    have hgW : gz < W.heap.size := Nat.lt_of_lt_of_le hgz (Nat.le_trans (ext_drew W5).size hR.once.size)
    refine ⟨#[.slice (some ⟨g2, 0, none⟩) 32 32, ρ 62, .int .i64 ((n : Nat) : Int)], Eq.trans (b := Result.ok (Next.enter 20 #[ρ 59, ρ 62, ρ 63]) W) kj (by rw [e59, e63]), ?_⟩
    exact (rexpandX sec (infoL (strB s) ctx n) _ _ _ _ n _ hn (by omega) (by rw [infoL_len]; omega) hsb (infoL_bytes _ _ _ (strB_bytes s) hxb hl hc2 hn) (rdK_ints (xs := sec) (n := 32) hsl h4 (row_lt h4) (by decide)) (OwnN.rd h62)).mono fun e W' ⟨v, q1, q2, u, q3, q4⟩ => ⟨v, q1, q2, u, q3, OwnN.base hWs q4, fun e => by have := q4.ge e; omega⟩
  refine x_runX (fun v W => OwnN .u8 5 w.heap.size (kx sec (infoL (strB s) ctx n) n) v W ∧ v.ownBlock ≠ some gz) (fun v W W' hR h => ⟨onceB_else hR h.1 h.2, h.2⟩) (fun ρ W hR hh => ?_) ?_
  · obtain ⟨u, e64, q1, q2⟩ := hh.1
    exact ⟨u, W, run_extractT (.tmp 64) 0 #[u, .bool true] u rfl e64 rfl, OnceB.refl _ _ _ _ _, q1, q2⟩
  refine x_runX (fun v W => v = .bool true) (fun v W W' hR h => h) (fun ρ W hR hh => ?_) ?_
  · obtain ⟨u, e64, q1, q2⟩ := hh.1
    exact ⟨.bool true, W, run_extractT (.tmp 64) 1 #[u, .bool true] _ rfl e64 rfl, OnceB.refl _ _ _ _ _, rfl⟩
  refine e_nil (hF _ fun W6 hR => ?_)
  simp only [List.nil_append, List.cons_append, List.take_succ_cons, List.take_zero, List.drop_succ_cons, List.drop_zero, finE, up]
  rintro z4 hz4 z64 hz64 z65 ⟨hz65, -⟩ z66 rfl
  clear hF
  have l6 : Below W1.heap.size W5 W6 := below_drew (hR.once.below (Nat.le_trans hbW (ext_drew _).size)) hbW
  have x6 : Ext w W6 := Ext.low x5 l6 x1.size
  refine seq_val (z65) 8 rfl kj kj ?_
  refine seq_val (.bool true) 9 rfl kj kj ?_
  refine seq_nil ?_
  refine hK16 _ _ ?_
  try clear hK16 K16
  refine wp_ret ?_
  repeat (first | with_reducible refine goR1 ?_ | with_reducible refine goR2 ?_)
  exact (show bodyPost _ _ _ .ret _ _ from ret2 (z65) (.bool true) rfl (res_tmp kj) (res_tmp kj) ⟨_, rfl, x6, z65, rfl, hz65⟩)

end Go.Proofs.YtamlhbbphnamnaaDoor.Sha
