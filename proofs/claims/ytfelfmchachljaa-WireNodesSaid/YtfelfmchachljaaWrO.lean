/- A reader: packets, welcomes. -/
import Derived.Test.YtfelfmchachljaaWrN
namespace Go.Proofs.Ytfelfmchachljaa.Wr
open Go Go.RowKit
open Go.Proofs.Ytfelfmchachljaa.Rely Go.Proofs.Ytfelfmchachljaa.Auto Go.Proofs.Ytfelfmchachljaa.Own Go.Proofs.Ytfelfmchachljaa.Sha
set_option linter.unusedVariables false
set_option linter.unusedSimpArgs false

theorem fill_cat (pl : Nat → Option (Nat × Nat)) : ∀ (ps : List (Nat × Nat × Value × Array Value)) (pre : List (Array Value)) (rest : Array Value) (off : Nat), (cat pre).size = off → okPl pl off ps → tot ps = rest.size →
    Instr.fill pl (cat pre ++ rest) (ps.map fun x => (x.1, x.2.2.1)) = some (cat (pre ++ ps.map fun x => x.2.2.2))
  | [], pre, rest, off, _, _, ht => by
    have : rest = #[] := Array.eq_empty_of_size_eq_zero ht.symm
    subst this
    simp [Instr.fill]
  | (i, n, v, p) :: r, pre, rest, off, hoff, ⟨h1, h2, h3, h4⟩, ht => by
    subst h2
    have hn : n ≤ rest.size := by rw [← ht, tot]; omega
    simp only [List.map_cons, Instr.fill, h1, h3]
    rw [if_neg (by simp; omega)]
    have hz : (v.cells.zipIdx.foldl (fun cs (x : Value × Nat) => cs.setIfInBounds (off + x.2) x.1) (cat pre ++ rest)) = cat (pre ++ [v.cells]) ++ rest.extract n rest.size := by
      have e1 : v.cells.zipIdx = (v.cells.toList.zipIdx 0).toArray := by
        apply Array.ext'
        simp
      rw [e1, List.foldl_toArray', foldl_splice]
      · have e2 : rest = rest.extract 0 n ++ rest.extract n rest.size := by
          rw [Array.extract_append_extract, Nat.max_eq_right hn]
          simp
        have e3 : (cat pre ++ rest) = cat (pre ++ ([rest.extract 0 n] ++ [rest.extract n rest.size])) := by
          rw [cat_append]
          congr 1
        rw [Nat.add_zero, e3]
        have := cat_splice pre [rest.extract 0 n] [v.cells] [rest.extract n rest.size] off hoff (by show v.cells.size = (rest.extract 0 n).size; simp; omega)
        rw [show (cat [v.cells]).toList = v.cells.toList from rfl] at this
        rw [this, ← List.append_assoc, cat_append (pre ++ [v.cells])]
        rfl
      · rfl
    have key := fill_cat pl r (pre ++ [v.cells]) (rest.extract n rest.size) (off + n) (by rw [cat_append]; show (cat pre ++ v.cells).size = _; simp; omega) h4 (by simp; rw [← ht, tot]; omega)
    rw [← hz] at key
    rw [List.append_assoc] at key
    exact key
theorem run_buildC {P : Program} {ρ : Operand → Value} {o : Oper} {w : World} (t : TypeId) (parts : Array (Nat × Operand)) (z : Value) (places : Array (Nat × Nat)) (ps : List (Nat × Nat × Value × Array Value))
    (ho : o.op = .build t parts) (hv : (parts.map fun (i, x) => (i, ρ x)).toList = ps.map fun x => (x.1, x.2.2.1)) (hp : okPl (fun i => places[i]?) 0 ps) (ht : tot ps = z.cells.size)
    (hz : (zeroValue t).run P w = .ok z w) (hu : P.underlying t = some (.struct (P.fieldsOf t))) (hm : ((P.fieldsOf t).mapM fun f => do pure (f.offset, ← sizeOf f.type) : Sem (Array (Nat × Nat))).run P w = .ok places w) :
    (execOp ρ o).run P w = .ok (.value (.agg (cat (ps.map fun x => x.2.2.2)))) w := by
  have := fill_cat (fun i => places[i]?) ps [] z.cells 0 rfl hp ht
  rw [show cat [] ++ z.cells = z.cells by simp [cat], List.nil_append] at this
  rw [← hv] at this
  have hB : (Instr.build t (parts.map fun (i, x) => (i, ρ x))).run P w = .ok (.agg (cat (ps.map fun x => x.2.2.2))) w := by
    unfold Instr.build
    rw [Sem.run_bind, hz, Result.andThen_ok, Sem.run_bind, run_underlying hu w, Result.andThen_ok]
    show (Sem.run P _ w) = _
    rw [Sem.run_bind, hm, Result.andThen_ok]
    simp only [this]
    rfl
  unfold execOp
  simp only [ho, Sem.run_bind, hB, Result.andThen_ok, Sem.run_pure]
/-- what a reader reads of a packet -/
def pS1 (s : Option (List Int)) : Option (List Int) := takeS s 32
def pS2 (s : Option (List Int)) : Option (List Int) := takeS (pS1 s) 4
def pS3 (s : Option (List Int)) : Option (List Int) := leafR (pS2 s)
def pS4 (s : Option (List Int)) : Option (List Int) := takeS (pS3 s) 4
def pGrp (s : Option (List Int)) : List Int := keyV (takeL s 32)
def pEp (s : Option (List Int)) : Int := ((bigN (takeL (pS1 s) 4) : Nat) : Int)
def pFr (s : Option (List Int)) : Int := ((bigN (takeL (pS2 s) 1) : Nat) : Int)
def pNo (s : Option (List Int)) : Int := ((bigN (takeL (pS3 s) 4) : Nat) : Int)
def pSe (s : Option (List Int)) : List Int := rowL (pS4 s)
def packR (s : Option (List Int)) : Option (List Int) := rowR (pS4 s)
def wNm (s : Option (List Int)) : Int := ((bigN (takeL s 1) : Nat) : Int)
def wSe (s : Option (List Int)) : List Int := rowL (takeS s 1)
def wIn (s : Option (List Int)) : List Int := rowL (rowR (takeS s 1))
def welcR (s : Option (List Int)) : Option (List Int) := rowR (rowR (takeS s 1))
set_option maxHeartbeats 4000000 in
theorem rpacketR (B gr : Nat) (s : Option (List Int)) (w : World) (hB : B ≤ gr) (h : RSt B gr s w) : Calls Try.prog 84 #[.pointer (some ⟨gr, 0, none⟩)] w (GivesR B gr w (packR s) fun v W => ∃ (a_s : Option Addr) (c_s : Nat), v = .agg (cat [ints .u8 (pGrp s), #[.int .i64 (pEp s)], #[.int .i64 (pFr s)], #[.int .i64 (pNo s)], #[.slice a_s (pSe s).length c_s]]) ∧ OwnN .u8 5 w.heap.size (pSe s) (.slice a_s (pSe s).length c_s) W ∧ AreBytes (pSe s) ∧ (pSe s).length ≤ 65535) := by
  have hgr := h.lt
  refine enter 14 [(0, .pointer (some ⟨gr, 0, none⟩))] Try.func84 rfl rfl kj rfl ?_
  refine wp_seq_k fun K1 hK1 => ?_
  refine region_lit ?_
  refine seq_alloc (cat [(Array.replicate 32 (.int .u8 0)), #[.int .i64 0], #[.int .i64 0], #[.int .i64 0], #[.slice none 0 0]]) 81 2 rfl kj kj fun g2 W1 l2 e1 r2_1 => ?_
  have x1 : ExtB gr w W1 := ExtB.ext (ExtB.refl gr w) e1
  have b2 : w.heap.size ≤ g2 := Nat.le_trans (ExtB.refl gr w).size l2
  refine seq_nil ?_
  refine hK1 _ _ ?_
  try clear hK1 K1
  refine wp_seq_k fun K3 hK3 => ?_
  refine region_lit ?_
  refine seq_val (.pointer (some ⟨gr, 0, none⟩)) 3 rfl kj kj ?_
  have rs4 := (RSt.ext h hB e1)
  refine seq_callR (fun v W' => ExtB gr W1 W' ∧ RSt B gr (takeS (s) 32) W' ∧ (fun (v : Value) (_ : World) => v = .agg (ints .u8 (keyV (takeL (s) 32)))) v W') 109 #[.pointer (some ⟨gr, 0, none⟩)] 4 rfl kj kj (rkeyR B gr _ _ hB rs4) fun vv5 W2 hh5 => ?_
  obtain ⟨q2, rs5, hv5⟩ := hh5
  have x2 : ExtB gr w W2 := ExtB.tr x1 q2
  subst hv5
  refine seq_val (.pointer (some ⟨gr, 0, none⟩)) 5 rfl kj kj ?_
  refine seq_callR (fun v W' => ExtB gr W2 W' ∧ RSt B gr (takeS (takeS (s) 32) 4) W' ∧ (fun (v : Value) (_ : World) => v = .int .i64 ((bigN (takeL (takeS (s) 32) 4) : Nat) : Int)) v W') 110 #[.pointer (some ⟨gr, 0, none⟩), .int .i64 4] 6 rfl kj kj (rnumberR B gr _ 4 _ hB rs5 (by decide)) fun vv6 W3 hh6 => ?_
  obtain ⟨q3, rs6, hv6⟩ := hh6
  have x3 : ExtB gr w W3 := ExtB.tr x2 q3
  subst hv6
  refine seq_val (.pointer (some ⟨gr, 0, none⟩)) 7 rfl kj kj ?_
  refine seq_callR (fun v W' => ExtB gr W3 W' ∧ RSt B gr (leafR (takeS (takeS (s) 32) 4)) W' ∧ (fun (v : Value) (_ : World) => v = .int .i64 ((bigN (takeL (takeS (takeS (s) 32) 4) 1) : Nat) : Int)) v W') 111 #[.pointer (some ⟨gr, 0, none⟩)] 8 rfl kj kj (rleafR B gr _ _ hB rs6) fun vv7 W4 hh7 => ?_
  obtain ⟨q4, rs7, hv7⟩ := hh7
  have x4 : ExtB gr w W4 := ExtB.tr x3 q4
  subst hv7
  refine seq_val (.pointer (some ⟨gr, 0, none⟩)) 9 rfl kj kj ?_
  refine seq_callR (fun v W' => ExtB gr W4 W' ∧ RSt B gr (takeS (leafR (takeS (takeS (s) 32) 4)) 4) W' ∧ (fun (v : Value) (_ : World) => v = .int .i64 ((bigN (takeL (leafR (takeS (takeS (s) 32) 4)) 4) : Nat) : Int)) v W') 110 #[.pointer (some ⟨gr, 0, none⟩), .int .i64 4] 10 rfl kj kj (rnumberR B gr _ 4 _ hB rs7 (by decide)) fun vv8 W5 hh8 => ?_
  obtain ⟨q5, rs8, hv8⟩ := hh8
  have x5 : ExtB gr w W5 := ExtB.tr x4 q5
  subst hv8
  refine seq_val (.pointer (some ⟨gr, 0, none⟩)) 11 rfl kj kj ?_
  refine seq_callR (fun v W' => ExtB gr W5 W' ∧ RSt B gr (rowR (takeS (leafR (takeS (takeS (s) 32) 4)) 4)) W' ∧ (fun (v : Value) (W : World) => OwnN .u8 5 W5.heap.size (rowL (takeS (leafR (takeS (takeS (s) 32) 4)) 4)) v W ∧ AreBytes (rowL (takeS (leafR (takeS (takeS (s) 32) 4)) 4)) ∧ (rowL (takeS (leafR (takeS (takeS (s) 32) 4)) 4)).length ≤ 65535) v W') 118 #[.pointer (some ⟨gr, 0, none⟩)] 12 rfl kj kj (rbytesR B gr _ _ hB rs8) fun vv9 W6 hh9 => ?_
  obtain ⟨q6, rs9, hv9⟩ := hh9
  have x6 : ExtB gr w W6 := ExtB.tr x5 q6
  obtain ⟨ho10, hb10, hl10⟩ := hv9
  obtain ⟨a10_, c10_, rfl, -⟩ := id (OwnN.rd ho10)
  refine seq_val (.agg (cat [ints .u8 (keyV (takeL (s) 32)), #[.int .i64 ((bigN (takeL (takeS (s) 32) 4) : Nat) : Int)], #[.int .i64 ((bigN (takeL (takeS (takeS (s) 32) 4) 1) : Nat) : Int)], #[.int .i64 ((bigN (takeL (leafR (takeS (takeS (s) 32) 4)) 4) : Nat) : Int)], #[.slice a10_ ((rowL (takeS (leafR (takeS (takeS (s) 32) 4)) 4)).length) c10_]])) 13 rfl kj (run_buildC 81 _ (.agg (cat [(Array.replicate 32 (.int .u8 0)), #[.int .i64 0], #[.int .i64 0], #[.int .i64 0], #[.slice none 0 0]])) #[(0, 32), (32, 1), (33, 1), (34, 1), (35, 1)] [(0, 32, .agg (ints .u8 (keyV (takeL (s) 32))), ints .u8 (keyV (takeL (s) 32))), (1, 1, .int .i64 ((bigN (takeL (takeS (s) 32) 4) : Nat) : Int), #[.int .i64 ((bigN (takeL (takeS (s) 32) 4) : Nat) : Int)]), (2, 1, .int .i64 ((bigN (takeL (takeS (takeS (s) 32) 4) 1) : Nat) : Int), #[.int .i64 ((bigN (takeL (takeS (takeS (s) 32) 4) 1) : Nat) : Int)]), (3, 1, .int .i64 ((bigN (takeL (leafR (takeS (takeS (s) 32) 4)) 4) : Nat) : Int), #[.int .i64 ((bigN (takeL (leafR (takeS (takeS (s) 32) 4)) 4) : Nat) : Int)]), (4, 1, .slice a10_ ((rowL (takeS (leafR (takeS (takeS (s) 32) 4)) 4)).length) c10_, #[.slice a10_ ((rowL (takeS (leafR (takeS (takeS (s) 32) 4)) 4)).length) c10_])] rfl kj ⟨kj, rfl, ((ints_size _ _).trans (keyV_len _ (takeL_le (s) 32))), kj, rfl, kj, kj, rfl, kj, kj, rfl, kj, kj, rfl, kj, trivial⟩ kj kj kj kj) ?_
  have r2_2 := (ExtB.row q2 r2_1 (Ne.symm (Nat.ne_of_lt (Nat.lt_of_lt_of_le hgr b2))))
  have r2_3 := (ExtB.row q3 r2_2 (Ne.symm (Nat.ne_of_lt (Nat.lt_of_lt_of_le hgr b2))))
  have r2_4 := (ExtB.row q4 r2_3 (Ne.symm (Nat.ne_of_lt (Nat.lt_of_lt_of_le hgr b2))))
  have r2_5 := (ExtB.row q5 r2_4 (Ne.symm (Nat.ne_of_lt (Nat.lt_of_lt_of_le hgr b2))))
  have r2_6 := (ExtB.row q6 r2_5 (Ne.symm (Nat.ne_of_lt (Nat.lt_of_lt_of_le hgr b2))))
  refine seq_store g2 _ (cat [ints .u8 (keyV (takeL (s) 32)), #[.int .i64 ((bigN (takeL (takeS (s) 32) 4) : Nat) : Int)], #[.int .i64 ((bigN (takeL (takeS (takeS (s) 32) 4) 1) : Nat) : Int)], #[.int .i64 ((bigN (takeL (leafR (takeS (takeS (s) 32) 4)) 4) : Nat) : Int)], #[.slice a10_ ((rowL (takeS (leafR (takeS (takeS (s) 32) 4)) 4)).length) c10_]]) 81 r2_6 rfl kj (run_store_row 81 _ _ g2 81 _ _ r2_6 rfl kj kj (isz (n := 36) kj (by rw [cat_cons, cat_cons, cat_cons, cat_cons, cat_cons]; simp only [Array.size_append, cat, ((ints_size _ _).trans (keyV_len _ (takeL_le (s) 32)))]; rfl)) (eqsz (n := 36) kj (by rw [cat_cons, cat_cons, cat_cons, cat_cons, cat_cons]; simp only [Array.size_append, cat, ((ints_size _ _).trans (keyV_len _ (takeL_le (s) 32)))]; rfl)) (cat_one _ (by intro a ha; simp only [List.mem_cons, List.not_mem_nil, or_false] at ha; rcases ha with rfl | rfl | rfl | rfl | rfl; exact (ints_one _ _); exact (one_leaf _ rfl); exact (one_leaf _ rfl); exact (one_leaf _ rfl); exact (one_leaf _ rfl)))) fun W7 p7 r2_7 => ?_
  have x7 : ExtB gr w W7 := ExtB.putsN x6 p7 b2
  refine seq_nil ?_
  refine hK3 _ _ ?_
  try clear hK3 K3
  refine wp_ret ?_
  repeat (first | with_reducible refine goR1 ?_ | with_reducible refine goR2 ?_)
  have f11_7 := (ho10.puts p7 (nb_old ho10 (row_lt r2_5)))
  have rs12 := (RSt.put rs9 hB p7 (Nat.lt_of_lt_of_le hgr b2))
  exact (show bodyPost _ _ _ .ret _ _ from ret1 (.agg (cat [ints .u8 (keyV (takeL (s) 32)), #[.int .i64 ((bigN (takeL (takeS (s) 32) 4) : Nat) : Int)], #[.int .i64 ((bigN (takeL (takeS (takeS (s) 32) 4) 1) : Nat) : Int)], #[.int .i64 ((bigN (takeL (leafR (takeS (takeS (s) 32) 4)) 4) : Nat) : Int)], #[.slice a10_ ((rowL (takeS (leafR (takeS (takeS (s) 32) 4)) 4)).length) c10_]])) rfl (res_cell g2 81 _ r2_7 kj kj (isz (n := 36) kj (by rw [cat_cons, cat_cons, cat_cons, cat_cons, cat_cons]; simp only [Array.size_append, cat, ((ints_size _ _).trans (keyV_len _ (takeL_le (s) 32)))]; rfl))) ⟨_, rfl, x7, rs12, _, _, rfl, ⟨OwnN.base x5.2.2.2.1 f11_7, hb10, hl10⟩⟩)
set_option maxHeartbeats 4000000 in
theorem rwelcomeR (B gr : Nat) (s : Option (List Int)) (w : World) (hB : B ≤ gr) (h : RSt B gr s w) : Calls Try.prog 80 #[.pointer (some ⟨gr, 0, none⟩)] w (GivesR B gr w (welcR s) fun v W => ∃ (a_s : Option Addr) (c_s : Nat) (a_i : Option Addr) (c_i : Nat), v = .agg (cat [#[.int .i64 (wNm s)], #[.slice a_s (wSe s).length c_s], #[.slice a_i (wIn s).length c_i]]) ∧ (OwnN .u8 5 w.heap.size (wSe s) (.slice a_s (wSe s).length c_s) W ∧ AreBytes (wSe s) ∧ (wSe s).length ≤ 65535) ∧ OwnN .u8 5 w.heap.size (wIn s) (.slice a_i (wIn s).length c_i) W ∧ AreBytes (wIn s) ∧ (wIn s).length ≤ 65535) := by
  have hgr := h.lt
  refine enter 10 [(0, .pointer (some ⟨gr, 0, none⟩))] Try.func80 rfl rfl kj rfl ?_
  refine wp_seq_k fun K1 hK1 => ?_
  refine region_lit ?_
  refine seq_alloc (cat [#[.int .i64 0], #[.slice none 0 0], #[.slice none 0 0]]) 74 2 rfl kj kj fun g2 W1 l2 e1 r2_1 => ?_
  have x1 : ExtB gr w W1 := ExtB.ext (ExtB.refl gr w) e1
  have b2 : w.heap.size ≤ g2 := Nat.le_trans (ExtB.refl gr w).size l2
  refine seq_nil ?_
  refine hK1 _ _ ?_
  try clear hK1 K1
  refine wp_seq_k fun K3 hK3 => ?_
  refine region_lit ?_
  refine seq_val (.pointer (some ⟨gr, 0, none⟩)) 3 rfl kj kj ?_
  have rs4 := (RSt.ext h hB e1)
  refine seq_callR (fun v W' => ExtB gr W1 W' ∧ RSt B gr (takeS (s) 1) W' ∧ (fun (v : Value) (_ : World) => v = .int .i64 ((bigN (takeL (s) 1) : Nat) : Int)) v W') 110 #[.pointer (some ⟨gr, 0, none⟩), .int .i64 1] 4 rfl kj kj (rnumberR B gr _ 1 _ hB rs4 (by decide)) fun vv5 W2 hh5 => ?_
  obtain ⟨q2, rs5, hv5⟩ := hh5
  have x2 : ExtB gr w W2 := ExtB.tr x1 q2
  subst hv5
  refine seq_val (.pointer (some ⟨gr, 0, none⟩)) 5 rfl kj kj ?_
  refine seq_callR (fun v W' => ExtB gr W2 W' ∧ RSt B gr (rowR (takeS (s) 1)) W' ∧ (fun (v : Value) (W : World) => OwnN .u8 5 W2.heap.size (rowL (takeS (s) 1)) v W ∧ AreBytes (rowL (takeS (s) 1)) ∧ (rowL (takeS (s) 1)).length ≤ 65535) v W') 118 #[.pointer (some ⟨gr, 0, none⟩)] 6 rfl kj kj (rbytesR B gr _ _ hB rs5) fun vv6 W3 hh6 => ?_
  obtain ⟨q3, rs6, hv6⟩ := hh6
  have x3 : ExtB gr w W3 := ExtB.tr x2 q3
  obtain ⟨ho7, hb7, hl7⟩ := hv6
  obtain ⟨a7_, c7_, rfl, -⟩ := id (OwnN.rd ho7)
  refine seq_val (.pointer (some ⟨gr, 0, none⟩)) 7 rfl kj kj ?_
  refine seq_callR (fun v W' => ExtB gr W3 W' ∧ RSt B gr (rowR (rowR (takeS (s) 1))) W' ∧ (fun (v : Value) (W : World) => OwnN .u8 5 W3.heap.size (rowL (rowR (takeS (s) 1))) v W ∧ AreBytes (rowL (rowR (takeS (s) 1))) ∧ (rowL (rowR (takeS (s) 1))).length ≤ 65535) v W') 118 #[.pointer (some ⟨gr, 0, none⟩)] 8 rfl kj kj (rbytesR B gr _ _ hB rs6) fun vv8 W4 hh8 => ?_
  obtain ⟨q4, rs8, hv8⟩ := hh8
  have x4 : ExtB gr w W4 := ExtB.tr x3 q4
  obtain ⟨ho9, hb9, hl9⟩ := hv8
  obtain ⟨a9_, c9_, rfl, -⟩ := id (OwnN.rd ho9)
  refine seq_val (.agg (cat [#[.int .i64 ((bigN (takeL (s) 1) : Nat) : Int)], #[.slice a7_ ((rowL (takeS (s) 1)).length) c7_], #[.slice a9_ ((rowL (rowR (takeS (s) 1))).length) c9_]])) 9 rfl kj kj ?_
  have r2_2 := (ExtB.row q2 r2_1 (Ne.symm (Nat.ne_of_lt (Nat.lt_of_lt_of_le hgr b2))))
  have r2_3 := (ExtB.row q3 r2_2 (Ne.symm (Nat.ne_of_lt (Nat.lt_of_lt_of_le hgr b2))))
  have r2_4 := (ExtB.row q4 r2_3 (Ne.symm (Nat.ne_of_lt (Nat.lt_of_lt_of_le hgr b2))))
  refine seq_store g2 _ (cat [#[.int .i64 ((bigN (takeL (s) 1) : Nat) : Int)], #[.slice a7_ ((rowL (takeS (s) 1)).length) c7_], #[.slice a9_ ((rowL (rowR (takeS (s) 1))).length) c9_]]) 74 r2_4 rfl kj (run_store_row 74 _ _ g2 74 _ _ r2_4 rfl kj kj (isz (n := 3) kj kj) (eqsz (n := 3) kj kj) kj) fun W5 p5 r2_5 => ?_
  have x5 : ExtB gr w W5 := ExtB.putsN x4 p5 b2
  refine seq_nil ?_
  refine hK3 _ _ ?_
  try clear hK3 K3
  refine wp_ret ?_
  repeat (first | with_reducible refine goR1 ?_ | with_reducible refine goR2 ?_)
  have f10_4 := (ownN_but ho7 q4 (nb_old ho7 (Nat.lt_of_lt_of_le hgr x2.2.2.2.1)))
  have f11_5 := (f10_4.puts p5 (nb_old ho7 (row_lt r2_2)))
  have f12_5 := (ho9.puts p5 (nb_old ho9 (row_lt r2_3)))
  have rs13 := (RSt.put rs8 hB p5 (Nat.lt_of_lt_of_le hgr b2))
  exact (show bodyPost _ _ _ .ret _ _ from ret1 (.agg (cat [#[.int .i64 ((bigN (takeL (s) 1) : Nat) : Int)], #[.slice a7_ ((rowL (takeS (s) 1)).length) c7_], #[.slice a9_ ((rowL (rowR (takeS (s) 1))).length) c9_]])) rfl (res_cell g2 74 _ r2_5 kj kj (isz (n := 3) kj kj)) ⟨_, rfl, x5, rs13, _, _, _, _, rfl, ⟨OwnN.base x2.2.2.2.1 f11_5, hb7, hl7⟩, ⟨OwnN.base x3.2.2.2.1 f12_5, hb9, hl9⟩⟩)

end Go.Proofs.Ytfelfmchachljaa.Wr
