/- HMAC as a function of lists of bytes; copying into an array. -/
import Derived.Test.YtamlhbbphnamnaaDoorShaH
namespace Go.Proofs.YtamlhbbphnamnaaDoor.Sha
open Go Go.RowKit
open Go.Proofs.YtamlhbbphnamnaaDoor.Rely Go.Proofs.YtamlhbbphnamnaaDoor.Auto Go.Proofs.YtamlhbbphnamnaaDoor.Own
set_option linter.unusedVariables false

theorem wby_bytes (x : Wd) : AreBytes (wby x) := fun y hy => by
  simp only [wby, List.mem_cons, List.not_mem_nil, or_false] at hy
  rcases hy with h | h | h | h <;> omega
theorem dig_bytes (t : List Int) : AreBytes (dig t) := fun y hy => by
  unfold dig S8.out at hy
  obtain ⟨x, _, h⟩ := List.mem_flatMap.1 hy
  exact wby_bytes x y h
def xorb (c x : Int) : Int := bits .xor .u8 x c
theorem xorb_byte (c x : Int) : 0 ≤ xorb c x ∧ xorb c x ≤ 255 := by
  unfold xorb bits
  have : ∀ z : Int, IntKind.u8.wrap z = z % 2 ^ 8 := fun _ => rfl
  rw [this]; omega
def keyL (key : List Int) : List Int := if 64 < key.length then dig key else key
def keyB (key : List Int) : List Int := keyL key ++ List.replicate (64 - (keyL key).length) 0
def padX (c : Int) (key : List Int) : List Int := (keyB key).map (xorb c)
def hmac (key t : List Int) : List Int := dig (padX 92 key ++ dig (padX 54 key ++ t))
theorem keyL_len (key : List Int) : (keyL key).length ≤ 64 := by
  unfold keyL
  split
  · rw [dig_len]; decide
  · omega
theorem keyB_len (key : List Int) : (keyB key).length = 64 := by
  have := keyL_len key
  simp [keyB]; omega
theorem padX_len (c : Int) (key : List Int) : (padX c key).length = 64 := by rw [padX, List.length_map, keyB_len]
theorem padX_bytes (c : Int) (key : List Int) : AreBytes (padX c key) := fun y hy => by
  obtain ⟨x, _, rfl⟩ := List.mem_map.1 hy
  exact xorb_byte c x
theorem keyL_bytes {key : List Int} (h : AreBytes key) : AreBytes (keyL key) := by
  unfold keyL
  split
  · exact dig_bytes key
  · exact h
theorem nth_padX (c : Int) (key : List Int) {i : Nat} (h : i < 64) : nth (padX c key) i = bits .xor .u8 (nth (keyB key) i) c := by
  have hl := keyB_len key
  show nth ((keyB key).map (xorb c)) i = xorb c (nth (keyB key) i)
  simp [nth, List.getD_eq_getElem?_getD, show i < (keyB key).length by omega]
theorem hmac_len (key t : List Int) : (hmac key t).length = 32 := dig_len _
theorem hmac_bytes (key t : List Int) : AreBytes (hmac key t) := dig_bytes _
/-- a list of which the first m are put in -/
def puts (xs ys : List Int) (m : Nat) : List Int := xs.take m ++ ys.drop m
theorem puts_len {xs ys : List Int} {n m : Nat} (hx : xs.length = n) (hy : ys.length = n) (hm : m ≤ n) : (puts xs ys m).length = n := by simp [puts]; omega
theorem puts_zero (xs ys : List Int) : puts xs ys 0 = ys := by simp [puts]
theorem puts_full {xs ys : List Int} {n : Nat} (hx : xs.length = n) (hy : ys.length = n) : puts xs ys n = xs := by
  unfold puts
  rw [List.take_of_length_le (by omega), List.drop_of_length_le (by omega), List.append_nil]
theorem puts_set {xs ys : List Int} {n m : Nat} (hx : xs.length = n) (hy : ys.length = n) (hm : m < n) : (puts xs ys m).set m (nth xs m) = puts xs ys (m + 1) := by
  unfold puts
  have hl : (xs.take m).length = m := by rw [List.length_take]; omega
  rw [List.set_append_right _ _ (by omega), hl, Nat.sub_self, List.drop_eq_getElem_cons (by omega), List.set_cons_zero, List.take_add_one, List.getElem?_eq_getElem (by omega), List.append_assoc]
  simp [nth, show m < xs.length by omega]
section
variable {ds : List Deferred} {P : Program} {ops : Array Oper} {Q : Exit → Act → World → Prop} {rest : List Oper} {o : Oper} {N : Nat} {L : Env} {W : World}
/-- copy into a part of a row of integers -/
theorem seq_copyI {k : IntKind} {e : TypeId} (x y : Operand) (tx ty : TypeId) (d : Nat) (ho : o.op = .call { callee := .builtin .copy, args := #[x, y], argTypes := #[tx, ty] }) (hu : P.underlying tx = some (.slice e)) (hsz : (P.info? e).map (·.size) = some 1) (hd : o.dst = some d) (hgd : wantB ops o N L = some true)
    {g off dl dc n B : Nat} {xs z : List Int} {v : Value} {T : TypeId} (hx : Rely.look (envN N L) x = .slice (some ⟨g, off, none⟩) dl dc) (hy : Rely.look (envN N L) y = v) (hr : RdK k B z v W)
    (hg : W.heap[g]? = some (.cells (ints k xs) T)) (hq : off + dl ≤ xs.length) (hn : n = min z.length dl)
    (kk : ∀ W' : World, Puts W g W' → W'.heap[g]? = some (.cells (ints k (xs.take off ++ z.take n ++ xs.drop (off + n))) T) → WL P ops Q rest (actOf ds N ((d, .int .i64 ((n : Nat) : Int)) :: L)) W') : WL P ops Q (o :: rest) (actOf ds N L) W := by
  obtain ⟨a, cap, rfl, y2, y3, y4, y5⟩ := hr
  have hgo : ∀ W', (Builtin.copy_ #[tx, ty] o.type #[.slice (some ⟨g, off, none⟩) dl dc, .slice a z.length cap]).run P W = .ok (goInt n) W' → (execOp (Rely.look (envN N L)) o).run P W = .ok (.value (.int .i64 ((n : Nat) : Int))) W' := fun W' h => by
    unfold execOp
    simp only [ho, resolve, invoke, builtin, Sem.run_bind, Sem.run_pure, Result.andThen_ok, List.map_toArray, List.map_cons, List.map_nil, hx, hy, h, goInt]
  rcases Nat.eq_zero_or_pos n with h0 | h0
  · refine seq_valw _ _ d hd hgd (hgo W ?_) (kk W ⟨rfl, rfl, rfl, rfl, fun _ _ => rfl⟩ ?_)
    · rw [h0]; exact run_copy_none W tx ty o.type e _ _ _ _ _ _ hu hsz (hn.symm.trans h0)
    · rw [h0, List.take_zero, List.append_nil, Nat.add_zero, List.take_append_drop]; exact hg
  · obtain ⟨gz, oz, rfl, z2, z3, z4⟩ := y5.resolve_left (fun e => by rw [e] at hn; simp at hn; omega)
    have hlen : ((z.take n).map (Value.int k)).length = n := by simp; omega
    have h := run_copy_row (P := P) W tx ty o.type e g off dl dc ⟨gz, oz, none⟩ z.length cap (ints k xs) T ((z.take n).map (Value.int k)) hu hsz hg (by rw [hlen]; exact hn)
      (newsK (k := k) (ys := z.take n) fun i hi => by
        rw [List.length_take] at hi
        rw [z4 i (by omega)]
        simp [nth, show i < n by omega]) (by rw [hlen, ints_size]; omega) (onesK k _)
    rw [hlen] at h
    have e1 : ((ints k xs).toList.take off ++ (z.take n).map (Value.int k) ++ (ints k xs).toList.drop (off + n)).toArray = ints k (xs.take off ++ z.take n ++ xs.drop (off + n)) := by
      apply Array.ext'
      show (xs.map (Value.int k)).take off ++ (z.take n).map (Value.int k) ++ (xs.map (Value.int k)).drop (off + n) = (xs.take off ++ z.take n ++ xs.drop (off + n)).map (Value.int k)
      simp only [List.map_append, List.map_take, List.map_drop]
    rw [e1] at h
    exact seq_valw _ _ d hd hgd (hgo _ h) (kk _ (puts_setRow _ _ _) (setRow_heap _ _ _ _ _ _ hg))
end
theorem keyB_long {key : List Int} (h : 64 < key.length) : (List.replicate 64 (0 : Int)).take 0 ++ (dig key).take 32 ++ (List.replicate 64 (0 : Int)).drop (0 + 32) = keyB key := by
  have hd := dig_len key
  unfold keyB keyL
  rw [if_pos h, hd, List.take_zero, List.nil_append, List.take_of_length_le (by omega), List.drop_replicate]
theorem keyB_short {key : List Int} (h : ¬ 64 < key.length) (n : Nat) (hn : n = min key.length 64) : (List.replicate 64 (0 : Int)).take 0 ++ key.take n ++ (List.replicate 64 (0 : Int)).drop (0 + n) = keyB key := by
  unfold keyB keyL
  rw [if_neg h, List.take_zero, List.nil_append, List.take_of_length_le (by omega), List.drop_replicate, show 64 - (0 + n) = 64 - key.length by omega]
end Go.Proofs.YtamlhbbphnamnaaDoor.Sha
