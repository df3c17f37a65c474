/- ChaCha20's quarter round: the program's and the reference's. -/
import Derived.Test.YticjghmgbmjkiaaBytes
import Derived.Test.YticjghmgbmjkiaaRows
namespace Go.Proofs.Yticjghmgbmjkiaa.Cha
set_option linter.unusedVariables false
open Go Go.RowKit
open Go.Proofs.Yticjghmgbmjkiaa.Rely

/-- a word, turned left -/
def rotl (x k : Int) : Int := (x * 2 ^ k.toNat % 4294967296 + x / 2 ^ (32 - k).toNat) % 4294967296
def xor32 (a b : Int) : Int := bits .xor .u32 a b

theorem shl_or (x k : Nat) (hx : x < 4294967296) (hk : k ≤ 32) : (x * 2 ^ k % 4294967296) ||| (x / 2 ^ (32 - k)) = x * 2 ^ k % 4294967296 + x / 2 ^ (32 - k) := by
  have e : (4294967296 : Nat) = 2 ^ (32 - k) * 2 ^ k := by rw [← Nat.pow_add]; rw [show 32 - k + k = 32 from by omega]
  have h1 : x * 2 ^ k % 4294967296 = (x % 2 ^ (32 - k)) * 2 ^ k := by rw [e, Nat.mul_mod_mul_right]
  have h2 : x / 2 ^ (32 - k) < 2 ^ k := by
    rw [Nat.div_lt_iff_lt_mul (Nat.two_pow_pos _)]; rw [Nat.mul_comm, ← e]; exact hx
  rw [h1, nat_join k _ _ (Nat.mul_mod_left _ _) h2]

theorem rot_bits (x k : Int) (hx : 0 ≤ x ∧ x ≤ 4294967295) (hk : 0 ≤ k ∧ k ≤ 31) :
    bits .or .u32 (x * 2 ^ k.toNat % 4294967296) (x / 2 ^ (32 - k).toNat) = rotl x k := by
  obtain ⟨x, rfl⟩ := Int.eq_ofNat_of_zero_le hx.1
  obtain ⟨k, rfl⟩ := Int.eq_ofNat_of_zero_le hk.1
  have e32 : (32 - (k : Int)).toNat = 32 - k := by omega
  have h2 : x / 2 ^ (32 - k) ≤ x := Nat.div_le_self _ _
  have hx' : x < 4294967296 := by omega
  have ho := shl_or x k hx' (by omega)
  have hlt : x * 2 ^ k % 4294967296 + x / 2 ^ (32 - k) < 4294967296 := by
    rw [← ho]; exact Nat.or_lt_two_pow (n := 32) (by omega) (by omega)
  unfold rotl
  rw [e32, Int.toNat_natCast]
  have c1 : ((x : Int) * 2 ^ k % 4294967296) = ((x * 2 ^ k % 4294967296 : Nat) : Int) := by simp
  have c2 : ((x : Int) / 2 ^ (32 - k)) = ((x / 2 ^ (32 - k) : Nat) : Int) := by simp
  rw [c1, c2, u32_or_nat _ _ (by omega) (by omega), ho]
  omega

def Is32 (x : Int) : Prop := 0 ≤ x ∧ x ≤ 4294967295
theorem rotl_bd (x k : Int) : Is32 (rotl x k) := by unfold rotl Is32; omega
theorem xor32_bd (a b : Int) : Is32 (xor32 a b) := by
  unfold xor32 bits Is32
  simp only [IntKind.wrap_u32]; omega
theorem mod_bd (a : Int) : Is32 (a % 4294967296) := by unfold Is32; omega

theorem and31 (k : Int) (hk : 0 ≤ k ∧ k ≤ 31) : bits .and .u64 k 31 = k := by
  rw [u64_and k 31 (by omega) (by omega) (by omega) (by omega)]
  have : k.toNat &&& 31 = k.toNat % 32 := Nat.and_two_pow_sub_one_eq_mod _ 5
  show ((k.toNat &&& 31 : Nat) : Int) = k
  omega

theorem rot (x k : Int) (hx : Is32 x) (hk : 0 ≤ k ∧ k ≤ 31) (w : World) :
    Calls Try.prog 7 #[.int .u32 x, .int .i64 k] w fun e w' => e = .returned (.int .u32 (rotl x k)) ∧ w = w' := by
  have h31 := and31 k hk
  have hr := rot_bits x k hx hk
  unfold Is32 at hx
  go_enter Try.func7, Try.ntmps7
  go_wp2
  go_ret
  exact ⟨rfl, rfl⟩

theorem turn (x k : Int) (hk : 0 ≤ k ∧ k ≤ 31) (w : World) :
    Calls Try.prog 9 #[.int .u32 x, .int .u64 k] w fun e w' => e = .returned (.int .u32 (rotl x k)) ∧ w = w' := by
  go_enter Try.func9, Try.ntmps9
  go_wp2
  go_ret
  exact ⟨rfl, rfl⟩

theorem turnR (x k : Int) (hk : 0 ≤ k ∧ k ≤ 31) (w : World) : Calls Try.prog 9 #[.int .u32 x, .int .u64 k] w (Ret w (.int .u32 (rotl x k))) :=
  (turn x k hk w).mono fun _ _ ⟨h1, h2⟩ => ⟨h1, h2 ▸ Ext.refl _⟩

/-- four words -/
structure Q4 where
  a : Int
  b : Int
  c : Int
  d : Int
/-- half a quarter round, by these two steps -/
def half (s t : Int) (q : Q4) : Q4 :=
  let a := (q.a + q.b) % 4294967296
  let d := rotl (xor32 q.d a) s
  let c := (q.c + d) % 4294967296
  let b := rotl (xor32 q.b c) t
  ⟨a, b, c, d⟩
def qr (q : Q4) : Q4 := half 8 7 (half 16 12 q)

theorem quarter (a b c d : Int) (w : World) :
    Calls Try.prog 4 #[.int .u32 a, .int .u32 b, .int .u32 c, .int .u32 d] w fun e w' =>
      e = .returned (.tuple #[.int .u32 (qr ⟨a, b, c, d⟩).a, .int .u32 (qr ⟨a, b, c, d⟩).b, .int .u32 (qr ⟨a, b, c, d⟩).c, .int .u32 (qr ⟨a, b, c, d⟩).d]) ∧ w = w' := by
  have hx : ∀ a b, bits .xor .u32 a b = xor32 a b := fun _ _ => rfl
  go_enter Try.func4, Try.ntmps4
  go_wp2_with (go_at_call 7; refine (rot _ _ (xor32_bd _ _) (by omega) _).mono ?_; rintro e w' ⟨rfl, rfl⟩)
  go_returns
  refine ⟨?_, rfl⟩
  simp [qr, half]

/-- w' is as w, but for block B and new ones -/
structure Only (B : Nat) (w w' : World) : Prop where
  os : w'.os = w.os
  tape : w'.tape = w.tape
  output : w'.output = w.output
  size : w.heap.size ≤ w'.heap.size
  block : ∀ k, k < w.heap.size → k ≠ B → w'.heap[k]? = w.heap[k]?
theorem Only.refl (B : Nat) (w : World) : Only B w w := ⟨rfl, rfl, rfl, Nat.le_refl _, fun _ _ _ => rfl⟩
theorem Only.trans {B : Nat} {a b c : World} (h : Only B a b) (k : Only B b c) : Only B a c :=
  ⟨k.os.trans h.os, k.tape.trans h.tape, k.output.trans h.output, Nat.le_trans h.size k.size, fun i hi hn => (k.block i (Nat.lt_of_lt_of_le hi h.size) hn).trans (h.block i hi hn)⟩
theorem Only.of_ext {B : Nat} {a b : World} (h : Ext a b) : Only B a b := ⟨h.os, h.tape, h.output, h.size, fun i hi _ => h.block i hi⟩
theorem Only.store {B i : Nat} (a : World) (v : Value) : Only B a (a.setCell ⟨B, i, none⟩ v) :=
  ⟨rfl, rfl, rfl, by simp [World.setCell], fun k _ hk => Below.heap_setCell _ _ _ _ (by simpa using hk)⟩
/-- a block that was made on the way: to whom it was not there, all is as it was -/
theorem Only.ext {B : Nat} {w a b : World} (h : Ext w a) (hB : w.heap.size ≤ B) (k : Only B a b) : Ext w b :=
  ⟨k.os.trans h.os, k.tape.trans h.tape, k.output.trans h.output, Nat.le_trans h.size k.size, fun i hi => (k.block i (Nat.lt_of_lt_of_le hi h.size) (by omega)).trans (h.block i hi)⟩

/-- block B is a row of words; these cells of it -/
def Row (w : World) (B : Nat) (cur : Array Value) : Prop := w.heap[B]? = some (.cells cur 22 (0, 0))
theorem Row.lt {w : World} {B : Nat} {cur : Array Value} (h : Row w B cur) : B < w.heap.size := (Array.getElem?_eq_some_iff.1 h).1
theorem Row.ext {w w' : World} {B : Nat} {cur : Array Value} (h : Row w B cur) (e : Ext w w') : Row w' B cur := by
  unfold Row; rw [e.block B h.lt]; exact h
theorem Row.cell {w : World} {B : Nat} {cur : Array Value} (h : Row w B cur) (i : Nat) : w.cell? ⟨B, i, none⟩ = cur[i]? := by
  unfold Row at h; simp [World.cell?, h]
theorem Row.frozen {w : World} {B : Nat} {cur : Array Value} (h : Row w B cur) (i : Nat) : w.frozen? ⟨B, i, none⟩ = false := by
  unfold Row at h; simp [World.frozen?, h]
theorem Row.store {w : World} {B : Nat} {cur : Array Value} (h : Row w B cur) (i : Nat) (v : Value) : Row (w.setCell ⟨B, i, none⟩ v) B (cur.setIfInBounds i v) := by
  unfold Row at h ⊢
  simp [World.setCell, Array.getElem?_modify, h]

/-- the four places hold these words -/
def Has (cur : Array Value) (ia ib ic id : Nat) (q : Q4) : Prop :=
  cur[ia]? = some (.int .u32 q.a) ∧ cur[ib]? = some (.int .u32 q.b) ∧ cur[ic]? = some (.int .u32 q.c) ∧ cur[id]? = some (.int .u32 q.d)
/-- the rest of the row is as it was -/
def Else (cur cur' : Array Value) (ia ib ic id : Nat) : Prop := cur'.size = cur.size ∧ ∀ i, i ≠ ia → i ≠ ib → i ≠ ic → i ≠ id → cur'[i]? = cur[i]?
/-- where the four words stand behind the call -/
def At (w0 : World) (B : Nat) (cur : Array Value) (ia ib ic id : Nat) (q : Q4) (w : World) : Prop :=
  Only B w0 w ∧ ∃ cur', Row w B cur' ∧ Has cur' ia ib ic id q ∧ Else cur cur' ia ib ic id

def stepS (k : Nat) : Int := if k = 0 then 16 else 8
def stepT (k : Nat) : Int := if k = 0 then 12 else 7
def qs (q : Q4) : Nat → Q4
  | 0 => q
  | k + 1 => half (stepS k) (stepT k) (qs q k)

theorem stepS_bd (k : Nat) : 0 ≤ stepS k ∧ stepS k ≤ 31 := by unfold stepS; split <;> omega
theorem stepT_bd (k : Nat) : 0 ≤ stepT k ∧ stepT k ≤ 31 := by unfold stepT; split <;> omega
/-- the table of steps -/
def Steps (w : World) (S : Nat) : Prop := w.heap[S]? = some (.cells #[.int .u64 16, .int .u64 12, .int .u64 8, .int .u64 7] 33 (0, 0))
theorem Steps.cell {w : World} {S : Nat} (h : Steps w S) {k : Nat} (hk : k < 2) : w.cell? ⟨S, (2 * (k : Int)).toNat, none⟩ = some (.int .u64 (stepS k)) ∧ w.cell? ⟨S, (2 * (k : Int) + 1).toNat, none⟩ = some (.int .u64 (stepT k)) := by
  unfold Steps at h
  simp only [World.cell?, h]
  obtain rfl | rfl : k = 0 ∨ k = 1 := by omega
  · exact ⟨rfl, rfl⟩
  · exact ⟨rfl, rfl⟩
/-- what is known between two statements of the round -/
structure Mid (w : World) (B S ia ib ic id : Nat) (cur : Array Value) (wr : World) (q : Q4) : Prop where
  only : Only B w wr
  row : ∃ c, Row wr B c ∧ Has c ia ib ic id q ∧ Else cur c ia ib ic id
  steps : Steps wr S
/-- what is read -/
theorem Mid.reads {w wr W : World} {B S ia ib ic id : Nat} {cur : Array Value} {q : Q4} (h : Mid w B S ia ib ic id cur wr q) (e : Ext wr.drew W) :
    (W.cell? ⟨B, ia, none⟩ = some (.int .u32 q.a) ∧ W.cell? ⟨B, ib, none⟩ = some (.int .u32 q.b) ∧ W.cell? ⟨B, ic, none⟩ = some (.int .u32 q.c) ∧ W.cell? ⟨B, id, none⟩ = some (.int .u32 q.d)) ∧
    (∀ i, W.frozen? ⟨B, i, none⟩ = false) ∧ Steps W S := by
  obtain ⟨c, hr, hh, -⟩ := h.row
  have hr' : Row W B c := hr.ext (Ext.trans (ext_drew wr) e)
  have hs : S < wr.heap.size := (Array.getElem?_eq_some_iff.1 h.steps).1
  exact ⟨⟨by rw [hr'.cell]; exact hh.1, by rw [hr'.cell]; exact hh.2.1, by rw [hr'.cell]; exact hh.2.2.1, by rw [hr'.cell]; exact hh.2.2.2⟩, fun i => hr'.frozen i, by unfold Steps; rw [e.block S hs]; exact h.steps⟩
theorem set_ne (c : Array Value) {i j : Nat} (v : Value) (h : i ≠ j) : (c.setIfInBounds i v)[j]? = c[j]? := Array.getElem?_setIfInBounds_ne h
theorem set_eq (c : Array Value) {i : Nat} (v u : Value) (h : c[i]? = some u) : (c.setIfInBounds i v)[i]? = some v :=
  Array.getElem?_setIfInBounds_self_of_lt (Array.getElem?_eq_some_iff.1 h).1
/-- a store of one of the four words -/
theorem Mid.store {w wr W : World} {B S ia ib ic id : Nat} {cur : Array Value} {q q' : Q4} (h : Mid w B S ia ib ic id cur wr q) (e : Ext wr.drew W) (hBS : B < S) (i : Nat) (v : Value) (hi : i = ia ∨ i = ib ∨ i = ic ∨ i = id)
    (hq : ∀ c, Has c ia ib ic id q → Has (c.setIfInBounds i v) ia ib ic id q') : Mid w B S ia ib ic id cur (W.setCell ⟨B, i, none⟩ v) q' := by
  obtain ⟨c, hr, hh, hz, he⟩ := h.row
  have e' : Ext wr W := Ext.trans (ext_drew wr) e
  have hs : S < wr.heap.size := (Array.getElem?_eq_some_iff.1 h.steps).1
  refine ⟨h.only.trans ((Only.of_ext e').trans (Only.store W v)), ⟨_, (hr.ext e').store i v, hq c hh, by simpa using hz, fun j h1 h2 h3 h4 => ?_⟩, ?_⟩
  · rw [set_ne c v (by omega)]; exact he j h1 h2 h3 h4
  · unfold Steps
    rw [Below.heap_setCell _ _ _ _ (by simp; omega), e'.block S hs]; exact h.steps

set_option maxHeartbeats 1000000 in
theorem rquarter (B n cap ia ib ic id : Nat) (cur : Array Value) (q : Q4) (hn : n ≤ maxLen) (ha : ia < n) (hb : ib < n) (hc : ic < n) (hd : id < n) (hds : ia ≠ ib ∧ ia ≠ ic ∧ ia ≠ id ∧ ib ≠ ic ∧ ib ≠ id ∧ ic ≠ id) (w : World) (hR : Row w B cur) (hH : Has cur ia ib ic id q) :
    Calls Try.prog 8 #[.slice (some ⟨B, 0, none⟩) n cap, .int .i64 ia, .int .i64 ib, .int .i64 ic, .int .i64 id] w fun e w' => e = .returned (.tuple #[]) ∧ At w B cur ia ib ic id (qr q) w' := by
  have hx : ∀ a b, bits .xor .u32 a b = xor32 a b := fun _ _ => rfl
  unfold maxLen at hn
  have hBl := hR.lt
  go_enter Try.func8, Try.ntmps8
  go_wp2
  obtain ⟨w1, hw1⟩ : ∃ w1, w.alloc (.cells #[.int .u64 16, .int .u64 12, .int .u64 8, .int .u64 7] 33) = w1 := ⟨_, rfl⟩
  rw [hw1]
  have hx1 : Ext w w1 := by rw [← hw1]; exact ext_alloc _ _
  have hs1 : Hid (Steps w1 w.heap.size) := by rw [Hid, ← hw1]; exact Array.getElem?_push_size
  clear hw1
  generalize hS : w.heap.size = S at *
  have hBS : B < S := by omega
  clear hS
  go_loopw [11] (fun i wr => ∃ k : Nat, k ≤ 2 ∧ i = .int .i64 (2 * k) ∧ Hid (Mid w B S ia ib ic id cur wr (qs q k))) (fun i _ => 4 - (intOf i).toNat)
  case atStart => exact ⟨0, by omega, rfl, ⟨Only.of_ext hx1, ⟨cur, hR.ext hx1, hH, rfl, fun _ _ _ _ _ => rfl⟩, hs1⟩⟩
  case round =>
    obtain ⟨k, hk, rfl, hM⟩ := hrel
    by_cases hlt : k < 2
    · clear hs1 hx1 hR hH hBl
      generalize hqk : qs q k = qk at *
      have HQ := Lib.hid hqk
      clear hqk
      obtain ⟨a, b, c, d⟩ := qk
      have hM := hM.out
      have hwr : IntKind.i64.wrap (2 * (k : Int) + 1) = 2 * (k : Int) + 1 := IntWalk.i64_in _ (by omega)
      have hwb : 2 * (k : Int) + 1 < 4 := by omega
      have hwc : 0 ≤ 2 * (k : Int) + 1 := by omega
      have hwr : IntKind.i64.wrap (2 * (k : Int) + 1) = 2 * (k : Int) + 1 := IntWalk.i64_in _ (by omega)
      go_wp2
      refine wp_region_rely Ext 12 76 [⟨none, [(0, none)]⟩, ⟨none, [(1, none)]⟩, ⟨none, [(0, none)]⟩, ⟨none, [(1, none)]⟩, ⟨none, [(19, some 2), (20, some 3)]⟩, ⟨none, [(21, some 4)]⟩, ⟨none, [(0, none)]⟩, ⟨none, [(2, none)]⟩, ⟨none, [(23, some 6), (24, some 7)]⟩, ⟨none, [(25, some 8)]⟩, ⟨none, [(22, some 5), (26, some 9)]⟩, ⟨none, [(17, some 0), (18, some 1)]⟩] (by kernel_rfl) (by kernel_rfl) rfl Ext.refl Ext.trans (fun F r0 hr hF => ?_)
      have f0 : r0 0 = .slice (some ⟨B, 0, none⟩) n cap := by rw [hr]; rfl
      have f1 : r0 1 = .int .i64 ia := by rw [hr]; rfl
      have f2 : r0 2 = .int .i64 ib := by rw [hr]; rfl
      clear hr
      simp only [List.take_succ_cons, List.take_zero]
      have HM := Lib.hid hM
      clear hM
      repeat
        (try simp only [List.cons_append, List.nil_append]
         apply step_const
         (intro ρ W hR hh
          obtain ⟨⟨ra, rb, rc, rd⟩, -, hSt⟩ := HM.out.reads hR
          have s12 := hSt.cell hlt
          clear hSt
          simp only [Holds, List.getD_cons_zero, List.getD_cons_succ] at hh
          simp only [guarded, relyAt]
          go_simp
          first
            | exact ⟨Ext.refl _, rfl⟩
            | (with_reducible refine ⟨Ext.refl _, Calls.mono (turnR _ _ (stepT_bd k) _) ?_⟩; exact fun _ _ h => h.const)))
      try simp only [List.cons_append, List.nil_append]
      refine hF.out fun W hR => ?_
      simp only [List.take_succ_cons, List.take_zero, List.drop_succ_cons, List.drop_zero, fin, forall_eq, Act.put, List.setIfInBounds_toArray, List.set_cons_zero, List.set_cons_succ]
      clear hF
      obtain ⟨⟨ra, rb, rc, rd⟩, hfz, -⟩ := HM.out.reads hR
      have hz := hfz ia
      clear hfz
      clear f0
      clear f1
      clear f2
      go_wp2_with fail
      clear ra rb rc rd hz
      have hM := HM.out.store (q' := (⟨(a + b) % 4294967296, b, c, d⟩ : Q4)) hR hBS ia (.int .u32 ((a + b) % 4294967296)) (by omega) (fun c hc => ⟨set_eq _ _ _ hc.1, by rw [set_ne _ _ (by omega)]; exact hc.2.1, by rw [set_ne _ _ (by omega)]; exact hc.2.2.1, by rw [set_ne _ _ (by omega)]; exact hc.2.2.2⟩)
      clear hR HM
      generalize W.setCell _ _ = w2 at *
      clear W F r0
      generalize hE0 : (a + b) % 4294967296 = a1 at *
      have E0 := Lib.hid hE0
      clear hE0
      refine wp_region_rely Ext 17 76 [⟨none, [(0, none)]⟩, ⟨none, [(4, none)]⟩, ⟨none, [(0, none)]⟩, ⟨none, [(4, none)]⟩, ⟨none, [(31, some 2), (32, some 3)]⟩, ⟨none, [(33, some 4)]⟩, ⟨none, [(0, none)]⟩, ⟨none, [(1, none)]⟩, ⟨none, [(35, some 6), (36, some 7)]⟩, ⟨none, [(37, some 8)]⟩, ⟨none, [(34, some 5), (38, some 9)]⟩, ⟨none, [(10, none)]⟩, ⟨none, [(11, none)]⟩, ⟨none, [(40, some 11), (41, some 12)]⟩, ⟨none, [(42, some 13)]⟩, ⟨none, [(39, some 10), (43, some 14)]⟩, ⟨none, [(29, some 0), (30, some 1)]⟩] (by kernel_rfl) (by kernel_rfl) rfl Ext.refl Ext.trans (fun F r0 hr hF => ?_)
      have f0 : r0 0 = .slice (some ⟨B, 0, none⟩) n cap := by rw [hr]; rfl
      have f1 : r0 1 = .int .i64 ia := by rw [hr]; rfl
      have f4 : r0 4 = .int .i64 id := by rw [hr]; rfl
      have f10 : r0 10 = .slice (some ⟨S, 0, none⟩) 4 4 := by rw [hr]; rfl
      have f11 : r0 11 = .int .i64 (2 * k) := by rw [hr]; rfl
      clear hr
      simp only [List.take_succ_cons, List.take_zero]
      have HM := Lib.hid hM
      clear hM
      repeat
        (try simp only [List.cons_append, List.nil_append]
         apply step_const
         (intro ρ W hR hh
          obtain ⟨⟨ra, rb, rc, rd⟩, -, hSt⟩ := HM.out.reads hR
          have s12 := hSt.cell hlt
          clear hSt
          simp only [Holds, List.getD_cons_zero, List.getD_cons_succ] at hh
          simp only [guarded, relyAt]
          go_simp
          first
            | exact ⟨Ext.refl _, rfl⟩
            | (with_reducible refine ⟨Ext.refl _, Calls.mono (turnR _ _ (stepS_bd k) _) ?_⟩; exact fun _ _ h => h.const)))
      try simp only [List.cons_append, List.nil_append]
      refine hF.out fun W hR => ?_
      simp only [List.take_succ_cons, List.take_zero, List.drop_succ_cons, List.drop_zero, fin, forall_eq, Act.put, List.setIfInBounds_toArray, List.set_cons_zero, List.set_cons_succ]
      clear hF
      obtain ⟨⟨ra, rb, rc, rd⟩, hfz, -⟩ := HM.out.reads hR
      have hz := hfz id
      clear hfz
      clear f0
      clear f1
      clear f4
      clear f10
      clear f11
      go_wp2_with fail
      clear ra rb rc rd hz
      have hM := HM.out.store (q' := (⟨a1, b, c, rotl (xor32 d a1) (stepS k)⟩ : Q4)) hR hBS id (.int .u32 (rotl (xor32 d a1) (stepS k))) (by omega) (fun c hc => ⟨by rw [set_ne _ _ (by omega)]; exact hc.1, by rw [set_ne _ _ (by omega)]; exact hc.2.1, by rw [set_ne _ _ (by omega)]; exact hc.2.2.1, set_eq _ _ _ hc.2.2.2⟩)
      clear hR HM
      generalize W.setCell _ _ = w3 at *
      clear W F r0
      generalize hE1 : rotl (xor32 d a1) (stepS k) = d1 at *
      have E1 := Lib.hid hE1
      clear hE1
      refine wp_region_rely Ext 12 76 [⟨none, [(0, none)]⟩, ⟨none, [(3, none)]⟩, ⟨none, [(0, none)]⟩, ⟨none, [(3, none)]⟩, ⟨none, [(48, some 2), (49, some 3)]⟩, ⟨none, [(50, some 4)]⟩, ⟨none, [(0, none)]⟩, ⟨none, [(4, none)]⟩, ⟨none, [(52, some 6), (53, some 7)]⟩, ⟨none, [(54, some 8)]⟩, ⟨none, [(51, some 5), (55, some 9)]⟩, ⟨none, [(46, some 0), (47, some 1)]⟩] (by kernel_rfl) (by kernel_rfl) rfl Ext.refl Ext.trans (fun F r0 hr hF => ?_)
      have f0 : r0 0 = .slice (some ⟨B, 0, none⟩) n cap := by rw [hr]; rfl
      have f3 : r0 3 = .int .i64 ic := by rw [hr]; rfl
      have f4 : r0 4 = .int .i64 id := by rw [hr]; rfl
      clear hr
      simp only [List.take_succ_cons, List.take_zero]
      have HM := Lib.hid hM
      clear hM
      repeat
        (try simp only [List.cons_append, List.nil_append]
         apply step_const
         (intro ρ W hR hh
          obtain ⟨⟨ra, rb, rc, rd⟩, -, hSt⟩ := HM.out.reads hR
          have s12 := hSt.cell hlt
          clear hSt
          simp only [Holds, List.getD_cons_zero, List.getD_cons_succ] at hh
          simp only [guarded, relyAt]
          go_simp
          first
            | exact ⟨Ext.refl _, rfl⟩
            | (with_reducible refine ⟨Ext.refl _, Calls.mono (turnR _ _ (stepT_bd k) _) ?_⟩; exact fun _ _ h => h.const)))
      try simp only [List.cons_append, List.nil_append]
      refine hF.out fun W hR => ?_
      simp only [List.take_succ_cons, List.take_zero, List.drop_succ_cons, List.drop_zero, fin, forall_eq, Act.put, List.setIfInBounds_toArray, List.set_cons_zero, List.set_cons_succ]
      clear hF
      obtain ⟨⟨ra, rb, rc, rd⟩, hfz, -⟩ := HM.out.reads hR
      have hz := hfz ic
      clear hfz
      clear f0
      clear f3
      clear f4
      go_wp2_with fail
      clear ra rb rc rd hz
      have hM := HM.out.store (q' := (⟨a1, b, (c + d1) % 4294967296, d1⟩ : Q4)) hR hBS ic (.int .u32 ((c + d1) % 4294967296)) (by omega) (fun c hc => ⟨by rw [set_ne _ _ (by omega)]; exact hc.1, by rw [set_ne _ _ (by omega)]; exact hc.2.1, set_eq _ _ _ hc.2.2.1, by rw [set_ne _ _ (by omega)]; exact hc.2.2.2⟩)
      clear hR HM
      generalize W.setCell _ _ = w4 at *
      clear W F r0
      generalize hE2 : (c + d1) % 4294967296 = c1 at *
      have E2 := Lib.hid hE2
      clear hE2
      refine wp_region_rely Ext 18 76 [⟨none, [(0, none)]⟩, ⟨none, [(2, none)]⟩, ⟨none, [(0, none)]⟩, ⟨none, [(2, none)]⟩, ⟨none, [(60, some 2), (61, some 3)]⟩, ⟨none, [(62, some 4)]⟩, ⟨none, [(0, none)]⟩, ⟨none, [(3, none)]⟩, ⟨none, [(64, some 6), (65, some 7)]⟩, ⟨none, [(66, some 8)]⟩, ⟨none, [(63, some 5), (67, some 9)]⟩, ⟨none, [(10, none)]⟩, ⟨none, [(11, none)]⟩, ⟨none, [(70, some 12)]⟩, ⟨none, [(69, some 11), (71, some 13)]⟩, ⟨none, [(72, some 14)]⟩, ⟨none, [(68, some 10), (73, some 15)]⟩, ⟨none, [(58, some 0), (59, some 1)]⟩] (by kernel_rfl) (by kernel_rfl) rfl Ext.refl Ext.trans (fun F r0 hr hF => ?_)
      have f0 : r0 0 = .slice (some ⟨B, 0, none⟩) n cap := by rw [hr]; rfl
      have f2 : r0 2 = .int .i64 ib := by rw [hr]; rfl
      have f3 : r0 3 = .int .i64 ic := by rw [hr]; rfl
      have f10 : r0 10 = .slice (some ⟨S, 0, none⟩) 4 4 := by rw [hr]; rfl
      have f11 : r0 11 = .int .i64 (2 * k) := by rw [hr]; rfl
      clear hr
      simp only [List.take_succ_cons, List.take_zero]
      have HM := Lib.hid hM
      clear hM
      repeat
        (try simp only [List.cons_append, List.nil_append]
         apply step_const
         (intro ρ W hR hh
          obtain ⟨⟨ra, rb, rc, rd⟩, -, hSt⟩ := HM.out.reads hR
          have s12 := hSt.cell hlt
          clear hSt
          simp only [Holds, List.getD_cons_zero, List.getD_cons_succ] at hh
          simp only [guarded, relyAt]
          go_simp
          first
            | exact ⟨Ext.refl _, rfl⟩
            | (with_reducible refine ⟨Ext.refl _, Calls.mono (turnR _ _ (stepT_bd k) _) ?_⟩; exact fun _ _ h => h.const)))
      try simp only [List.cons_append, List.nil_append]
      refine hF.out fun W hR => ?_
      simp only [List.take_succ_cons, List.take_zero, List.drop_succ_cons, List.drop_zero, fin, forall_eq, Act.put, List.setIfInBounds_toArray, List.set_cons_zero, List.set_cons_succ]
      clear hF
      obtain ⟨⟨ra, rb, rc, rd⟩, hfz, -⟩ := HM.out.reads hR
      have hz := hfz ib
      clear hfz
      clear f0
      clear f2
      clear f3
      clear f10
      clear f11
      go_wp2_with fail
      clear ra rb rc rd hz
      have hM := HM.out.store (q' := (⟨a1, rotl (xor32 b c1) (stepT k), c1, d1⟩ : Q4)) hR hBS ib (.int .u32 (rotl (xor32 b c1) (stepT k))) (by omega) (fun c hc => ⟨by rw [set_ne _ _ (by omega)]; exact hc.1, set_eq _ _ _ hc.2.1, by rw [set_ne _ _ (by omega)]; exact hc.2.2.1, by rw [set_ne _ _ (by omega)]; exact hc.2.2.2⟩)
      clear hR HM
      generalize W.setCell _ _ = w5 at *
      clear W F r0
      generalize hE3 : rotl (xor32 b c1) (stepT k) = b1 at *
      have E3 := Lib.hid hE3
      clear hE3
      go_wp2
      go_roundw
      case rel =>
        refine ⟨k + 1, by omega, by go_num, ?_⟩
        have e : qs q (k + 1) = ⟨a1, b1, c1, d1⟩ := by
          show half (stepS k) (stepT k) (qs q k) = _
          rw [HQ.out]
          simp only [half, E0.out, E1.out, E2.out, E3.out]
        rw [e]
        exact hM
      case measure => simp [intOf]; omega
    · obtain rfl : k = 2 := by omega
      have hM' : Hid (Mid w B S ia ib ic id cur wr (qr q)) := hM.out
      clear hM hs1 hx1 hR hH
      go_wp2
      go_returns
      exact ⟨rfl, hM'.out.only, hM'.out.row⟩

theorem rQuarter (a b c d : Int) (w : World) :
    Calls Try.prog 5 #[.int .u32 a, .int .u32 b, .int .u32 c, .int .u32 d] w fun e w' =>
      ∃ cap, e = .returned (.slice (some ⟨w.heap.size, 0, none⟩) 4 cap) ∧ Ext w w' ∧ ∃ cur, Row w' w.heap.size cur ∧ Has cur 0 1 2 3 (qr ⟨a, b, c, d⟩) := by
  have hq : Calls Try.prog 8 #[.slice (some ⟨w.heap.size, 0, none⟩) 4 4, .int .i64 0, .int .i64 1, .int .i64 2, .int .i64 3] (w.alloc (.cells #[.int .u32 a, .int .u32 b, .int .u32 c, .int .u32 d] 22))
      fun e w' => e = .returned (.tuple #[]) ∧ At (w.alloc (.cells #[.int .u32 a, .int .u32 b, .int .u32 c, .int .u32 d] 22)) w.heap.size #[.int .u32 a, .int .u32 b, .int .u32 c, .int .u32 d] 0 1 2 3 (qr ⟨a, b, c, d⟩) w' :=
    rquarter w.heap.size 4 4 0 1 2 3 #[.int .u32 a, .int .u32 b, .int .u32 c, .int .u32 d] ⟨a, b, c, d⟩ (by decide) (by decide) (by decide) (by decide) (by decide) (by decide) _ Array.getElem?_push_size ⟨rfl, rfl, rfl, rfl⟩
  go_enter Try.func5, Try.ntmps5
  go_wp2_with (go_at_call 8; (with_reducible refine hq.mono ?_); rintro e w' ⟨rfl, hAt⟩)
  go_ret
  obtain ⟨hO, cur, hRow, hHas, -⟩ := hAt
  exact ⟨4, rfl, Only.ext (ext_alloc _ _) (Nat.le_refl _) hO, cur, hRow, hHas⟩

theorem alive (w : World) : Calls Try.prog 6 #[] w fun e w' => e = .returned (.bool true) ∧ w = w' := by
  have hq := quarter 0x11111111 0x01020304 0x9b8d6f43 0x01234567 w
  rw [show (qr ⟨0x11111111, 0x01020304, 0x9b8d6f43, 0x01234567⟩).a = 0xea2a92f4 from by decide +kernel, show (qr ⟨0x11111111, 0x01020304, 0x9b8d6f43, 0x01234567⟩).b = 0xcb1cf8ce from by decide +kernel,
    show (qr ⟨0x11111111, 0x01020304, 0x9b8d6f43, 0x01234567⟩).c = 0x4581472e from by decide +kernel, show (qr ⟨0x11111111, 0x01020304, 0x9b8d6f43, 0x01234567⟩).d = 0x5881c4bb from by decide +kernel] at hq
  go_enter Try.func6, Try.ntmps6
  go_wp2_with (go_at_call 4; (with_reducible refine hq.mono ?_); rintro e w' ⟨rfl, rfl⟩)
  go_ret
  exact ⟨rfl, rfl⟩
end Go.Proofs.Yticjghmgbmjkiaa.Cha
