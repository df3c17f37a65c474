/- What the ladder's functions are said with. -/
import Derived.Test.YtaojnmjmmfdfjaaLadClimb
import Derived.Test.YtaojnmjmmfdfjaaLadCome
import Derived.Test.YtaojnmjmmfdfjaaLadEval
namespace Go.Proofs.Ytaojnmjmmfdfjaa.Field
open Go Go.RowKit
open Go.Proofs.Ytaojnmjmmfdfjaa.Rely Go.Proofs.Ytaojnmjmmfdfjaa.Auto Go.Proofs.Ytaojnmjmmfdfjaa.Ladder
set_option linter.unusedVariables false

def pubL (xs : List Int) : List Int := bytesOf (outN 9 (crungs 9 (clamp xs) 0))
def agN (xs ps : List Int) : Int := outN (keyNum ps) (crungs (keyNum ps) (clamp xs) 0)
theorem climb_ref (xs : List Int) (hx : xs.length = 32) (hb : AreBytes xs) (u : Int) (hu : isN u) (w : World) : Calls Try.prog 61 #[.agg (ints .u8 xs), num u] w (Ret w (num (outN u (crungs u (clamp xs) 0)))) := by
  have := climb xs hx hb u hu w
  rw [lad_same u hu xs hx hb] at this
  exact this
theorem lsmall_k (n : Int) (h : 0 ≤ n ∧ n < 1000000) (w : World) : Calls Try.prog 23 #[.int .i64 n] w (Ret w (lnum n)) := by
  have := lSmall_pos n (by omega) w
  rw [show n % p = n from Int.emod_eq_of_lt h.1 (by unfold p; omega)] at this
  exact this
theorem equal_is (a : Int) (b : Bool) (ha : isN a) (h0 : isN 0) (h : (a == 0) = b) (w : World) : Calls Try.prog 29 #[num a, num 0] w (Ret w (.bool b)) := by
  have := equal a 0 ha h0 w
  rw [h] at this
  exact this
theorem eql_is {P : Program} (t : TypeId) {e : TypeId} {k : IntKind} (xs ys : List Int) (b : Bool) {n : Nat} (hx : xs.length = n) (hy : ys.length = n) (ht : P.underlying t = some (.array n e)) (he : P.underlying e = some (.int k)) (hc : P.cellsOf e = 1) (h : decide (xs = ys) = b) (w : World) :
    (binOp .eql t (.agg (ints k xs)) (.agg (ints k ys))).run P w = .ok (.bool b) w := by
  rw [eql_ints w ht he hc xs ys hx hy, h]
theorem eql_same {P : Program} (t : TypeId) {e : TypeId} {k : IntKind} (xs : List Int) {n : Nat} (hx : xs.length = n) (ht : P.underlying t = some (.array n e)) (he : P.underlying e = some (.int k)) (hc : P.cellsOf e = 1) (w : World) :
    (binOp .eql t (.agg (ints k xs)) (.agg (ints k xs))).run P w = .ok (.bool true) w :=
  eql_is t xs xs true hx hx ht he hc (decide_eq_true rfl) w
theorem bytesOf_zero : bytesOf 0 = List.replicate 32 0 := by decide +kernel
theorem bytes_mod (m : Nat) (h : ∀ i, i < 32 → m / 256 ^ i % 256 = 0) : ∀ k, k ≤ 32 → m % 256 ^ k = 0
  | 0, _ => by rw [Nat.pow_zero, Nat.mod_one]
  | k + 1, hk => by rw [Nat.pow_succ, Nat.mod_mul, bytes_mod m h k (by omega), h k (by omega), Nat.mul_zero]
theorem bytesOf_inj0 {n : Int} (hn : isN n) (h : bytesOf n = List.replicate 32 0) : n = 0 := by
  obtain ⟨m, rfl⟩ := Int.eq_ofNat_of_zero_le hn.1
  have hb : ∀ i, i < 32 → m / 256 ^ i % 256 = 0 := fun i hi => by
    have h1 : (bytesOf (m : Int))[i]? = some (byteAt m i) := by
      unfold bytesOf part
      rw [List.getElem?_map, List.getElem?_range hi]
      simp [hi]
    rw [h, List.getElem?_replicate, if_pos hi] at h1
    have h2 : byteAt (m : Int) i = ((m / 256 ^ i % 256 : Nat) : Int) := by unfold byteAt; simp
    have h3 := Option.some.inj h1
    rw [h2] at h3
    omega
  have h1 := bytes_mod m hb 32 (Nat.le_refl _)
  have hlt : m < 256 ^ 32 := by
    have := hn.2
    unfold p at this
    omega
  rw [Nat.mod_eq_of_lt hlt] at h1
  omega
theorem zero_bytes_eq {n : Int} (h : (n == 0) = true) : bytesOf n = List.replicate 32 0 := by
  have : n = 0 := by simpa using h
  rw [this]
  exact bytesOf_zero
theorem zero_bytes_1 {xs ps : List Int} (h : (agN xs ps == 0) = true) : decide (bytesOf (agN xs ps) = List.replicate 32 0) = true := decide_eq_true (zero_bytes_eq h)
theorem zero_bytes_0 {xs ps : List Int} (h : (agN xs ps == 0) = false) : decide (bytesOf (agN xs ps) = List.replicate 32 0) = false := decide_eq_false fun e => by
  have : agN xs ps = 0 := bytesOf_inj0 (isN_mod _) e
  rw [this] at h
  cases h
theorem pubL_len (xs : List Int) : (pubL xs).length = 32 := bytesOf_len _
theorem zlen : (List.replicate 32 (0 : Int)).length = 32 := by decide
theorem one_len : one32.length = 32 := by decide
theorem nine_isN : isN 9 := by unfold isN p; decide
theorem one_bytes : AreBytes one32 := by
  intro x hx
  unfold one32 at hx
  simp at hx
  omega
theorem one_pub : pubL one32 = bytesOf 52573937849532372069814888178136277301931757964231753054399601207743438775599 := by unfold pubL; rw [one_out]
theorem one_0 : nth (pubL one32) 0 = 47 := by rw [one_pub]; decide +kernel
theorem one_1 : nth (pubL one32) 1 = 229 := by rw [one_pub]; decide +kernel
theorem one_31 : nth (pubL one32) 31 = 116 := by rw [one_pub]; decide +kernel
theorem run_part_cat {P : Program} {w : World} (t : TypeId) (pre mid post : List (Array Value)) (off n : Nat) (ho : (cat pre).size = off) (hs : (cat mid).size = n) (ha : aggD P t = some true) (hi : (P.info? t).map (·.size) = some n) : (Go.part t (cat (pre ++ (mid ++ post))) off).run P w = .ok (.agg (cat mid)) w := by
  unfold aggD at ha
  cases hd : P.underlying t with
  | none => rw [hd] at ha; cases ha
  | some d =>
    rw [hd] at ha
    have hdd : aggB d = true := Option.some.inj ha
    have hagg : (isAgg t).run P w = .ok true w := by
      unfold isAgg
      rw [Sem.run_bind, run_underlying hd w]
      cases d <;> first | rfl | cases hdd
    have hsz : (sizeOf t).run P w = .ok n w := by
      cases hq : P.info? t with
      | none => simp [hq] at hi
      | some i =>
        have : i.size = n := by simpa [hq] using hi
        simp [sizeOf, typeInfo, hq, this]
    have he : (cat (pre ++ (mid ++ post))).extract off (off + n) = cat mid := by
      rw [cat_append, cat_append]
      subst ho hs
      simp
    unfold Go.part
    simp [hagg, hsz, he]
theorem eqFields_cons {P : Program} {w : World} {f : Go.Field} {fs : List Go.Field} {d : Nat} {xs ys : Array Value} (hn : f.name ≠ "_") (a b : Value) (ha : (Go.part f.type xs f.offset).run P w = .ok a w) (hb : (Go.part f.type ys f.offset).run P w = .ok b w)
    (he : (Op.equalIn d f.type a b).run P w = .ok true w) : (Op.eqFields d xs ys (f :: fs)).run P w = (Op.eqFields d xs ys fs).run P w := by
  rw [Op.eqFields, if_pos hn]
  simp only [Sem.run_bind, ha, hb, he, Result.andThen_ok, Bool.not_true, Bool.false_eq_true, if_false]
theorem eql_pair (xs ys : List Int) (hx : xs.length = 32) (hy : ys.length = 32) (w : World) : (binOp .eql 57 (.agg (cat [ints .u8 xs, ints .u8 ys])) (.agg (cat [ints .u8 xs, ints .u8 ys]))).run Try.prog w = .ok (.bool true) w := by
  have sx : (cat [ints .u8 xs]).size = 32 := by show (ints .u8 xs).size = 32; rw [ints_size, hx]
  have sy : (cat [ints .u8 ys]).size = 32 := by show (ints .u8 ys).size = 32; rw [ints_size, hy]
  obtain ⟨f0, f1, hf, h0n, h1n, h0t, h1t, h0o, h1o⟩ : ∃ f0 f1 : Go.Field, (Try.prog.fieldsOf 57).toList = [f0, f1] ∧ (f0.name ≠ "_") ∧ (f1.name ≠ "_") ∧ f0.type = 23 ∧ f1.type = 23 ∧ f0.offset = 0 ∧ f1.offset = 32 := by
    refine ⟨_, _, (by kernel_rfl : (Try.prog.fieldsOf 57).toList = [{ name := "Secret", type := 23, offset := 0, byteOffset := 0, embedded := false, tag := "", pkgPath := "" }, { name := "Public", type := 23, offset := 32, byteOffset := 32, embedded := false, tag := "", pkgPath := "" }]), by decide, by decide, rfl, rfl, rfl, rfl⟩
  have p0 : (Go.part 23 (cat [ints .u8 xs, ints .u8 ys]) 0).run Try.prog w = .ok (.agg (ints .u8 xs)) w := run_part_cat 23 [] [ints .u8 xs] [ints .u8 ys] 0 32 rfl sx (by kernel_rfl) (by kernel_rfl)
  have p1 : (Go.part 23 (cat [ints .u8 xs, ints .u8 ys]) 32).run Try.prog w = .ok (.agg (ints .u8 ys)) w := run_part_cat 23 [ints .u8 xs] [ints .u8 ys] [] 32 32 sx sy (by kernel_rfl) (by kernel_rfl)
  have e0 : ∀ D : Nat, (Op.equalIn (D + 2) 23 (.agg (ints .u8 xs)) (.agg (ints .u8 xs))).run Try.prog w = .ok true w := fun D => by
    rw [equalIn_ints (P := Try.prog) w D (t := 23) (e := 5) (k := .u8) (by kernel_rfl) (by kernel_rfl) (by kernel_rfl) xs xs hx hx, decide_eq_true rfl]
  have e1 : ∀ D : Nat, (Op.equalIn (D + 2) 23 (.agg (ints .u8 ys)) (.agg (ints .u8 ys))).run Try.prog w = .ok true w := fun D => by
    rw [equalIn_ints (P := Try.prog) w D (t := 23) (e := 5) (k := .u8) (by kernel_rfl) (by kernel_rfl) (by kernel_rfl) ys ys hy hy, decide_eq_true rfl]
  have key : ∀ D : Nat, (Op.eqFields (D + 2) (cat [ints .u8 xs, ints .u8 ys]) (cat [ints .u8 xs, ints .u8 ys]) [f0, f1]).run Try.prog w = .ok true w := fun D => by
    rw [eqFields_cons h0n (.agg (ints .u8 xs)) (.agg (ints .u8 xs)) (by rw [h0t, h0o]; exact p0) (by rw [h0t, h0o]; exact p0) (by rw [h0t]; exact e0 D), eqFields_cons h1n (.agg (ints .u8 ys)) (.agg (ints .u8 ys)) (by rw [h1t, h1o]; exact p1) (by rw [h1t, h1o]; exact p1) (by rw [h1t]; exact e1 D)]
    rfl
  rw [run_eql_struct]
  obtain ⟨D, hD⟩ : ∃ D : Nat, 10000 = (D + 2) + 1 := ⟨9997, rfl⟩
  rw [hD, run_equalIn_struct w (D + 2) 57 _ _ (by kernel_rfl) (by kernel_rfl), hf, key]
  rfl
end Go.Proofs.Ytaojnmjmmfdfjaa.Field
