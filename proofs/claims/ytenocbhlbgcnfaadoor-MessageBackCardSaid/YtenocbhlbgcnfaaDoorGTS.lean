/-
  Texts of this claim.
-/
import Derived.Lib.MakeNoZero
import Derived.Test.YtenocbhlbgcnfaaDoorGTW
import Derived.Test.YtenocbhlbgcnfaaDoorGTV
import Derived.Test.YtenocbhlbgcnfaaDoorGTE
import Derived.Test.YtenocbhlbgcnfaaDoorGTO
namespace Go.Proofs.YtenocbhlbgcnfaaDoor
theorem take_getD {α : Type} {l : List α} {k : Nat} (d : α) (h : k < l.length) : l.take (k + 1) = l.take k ++ [l.getD k d] := by
  rw [List.take_add_one, List.getElem?_eq_getElem h]; simp [List.getD, List.getElem?_eq_getElem h]
/-- With commas between. -/
def joinB : List (List UInt8) → List UInt8
  | [] => []
  | x :: r => x ++ (r.map ([44] ++ ·)).flatten
def sumB (l : List (List UInt8)) : Nat := (l.map List.length).sum
theorem joinB_one (x : List UInt8) : joinB [x] = x := by simp [joinB]
theorem joinB_take {l : List (List UInt8)} {k : Nat} (h : k < l.length) : joinB (l.take (k + 1)) = (joinB (l.take k) ++ (if k = 0 then [] else [44])) ++ l.getD k [] := by
  cases l with
  | nil => simp at h
  | cons x r =>
    cases k with
    | zero => simp [joinB]
    | succ k =>
      have hk : k < r.length := by simpa using h
      simp only [List.take_succ_cons, joinB, List.getD_cons_succ, if_neg (Nat.succ_ne_zero k)]
      rw [take_getD [] hk, List.map_append, List.flatten_append]
      simp
theorem joinB_take_s {l : List (List UInt8)} {k : Nat} (h : k + 1 < l.length) : joinB (l.take (k + 2)) = (joinB (l.take (k + 1)) ++ [44]) ++ l.getD (k + 1) [] := by
  rw [joinB_take h, if_neg (Nat.succ_ne_zero k)]
theorem joinB_take1 {l : List (List UInt8)} (h : 0 < l.length) : joinB (l.take 1) = l.getD 0 [] := by
  rw [joinB_take h]; simp [joinB]
theorem sumB_take {l : List (List UInt8)} {k : Nat} (h : k < l.length) : sumB (l.take (k + 1)) = sumB (l.take k) + (l.getD k []).length := by
  unfold sumB
  rw [take_getD [] h, List.map_append, List.sum_append]
  rfl
theorem sumB_take_le (l : List (List UInt8)) (k : Nat) : sumB (l.take k) ≤ sumB l := by
  unfold sumB
  induction l generalizing k with
  | nil => simp
  | cons x r ih =>
    cases k with
    | zero => simp
    | succ k => simp only [List.take_succ_cons, List.map_cons, List.sum_cons]; exact Nat.add_le_add_left (ih k) _
theorem getD_le_sumB (l : List (List UInt8)) (k : Nat) : (l.getD k []).length ≤ sumB l := by
  rcases Nat.lt_or_ge k l.length with h | h
  · have := sumB_take h; have := sumB_take_le l (k + 1); omega
  · simp [List.getD, List.getElem?_eq_none h]
theorem joinB_len : ∀ (l : List (List UInt8)), (joinB l).length = sumB l + (l.length - 1)
  | [] => rfl
  | x :: r => by
    have : ∀ (r : List (List UInt8)), ((r.map ([44] ++ ·)).flatten).length = sumB r + r.length := by
      intro r
      induction r with
      | nil => rfl
      | cons y r ih => simp only [List.map_cons, List.flatten_cons, List.length_append, ih, sumB, List.sum_cons, List.length_cons, List.length_nil]; omega
    simp only [joinB, List.length_append, this, sumB, List.map_cons, List.sum_cons, List.length_cons]; omega
theorem joinB_take_le (l : List (List UInt8)) (k : Nat) : (joinB (l.take k)).length ≤ sumB l + l.length := by
  rw [joinB_len]
  have := sumB_take_le l k
  have : (l.take k).length ≤ l.length := by rw [List.length_take]; omega
  omega
theorem quo_ok {m : Nat} (h1 : 1 ≤ m) (h2 : m ≤ 1000000000) : ¬ (1 : Int) ≥ Int.tdiv 9223372036854775807 (m : Int) := by
  have h3 : Int.tdiv 9223372036854775807 (m : Int) = ((9223372036854775807 / m : Nat) : Int) := rfl
  rw [h3]
  have h4 : 2 ≤ 9223372036854775807 / m := by
    rw [Nat.le_div_iff_mul_le (by omega)]; omega
  omega
/-- Short ones: the first k of a list. -/
def fewN (l : List (List UInt8)) (k : Nat) : List (List UInt8) := (l.take k).map (List.take 70)
def fewL (l : List (List UInt8)) : List (List UInt8) := fewN l 6
theorem drop_get {l : List (List UInt8)} {k : Nat} (h : k < l.length) : (l.drop k)[0]? = some (l.getD k []) := by
  rw [List.getElem?_drop, Nat.add_zero, List.getElem?_eq_getElem h]; simp [List.getD, List.getElem?_eq_getElem h]
theorem drop_get1 {l : List (List UInt8)} {k : Nat} (h : k + 1 < l.length) : (((l.drop 1).take (l.length - 1)).drop k)[0]? = some (l.getD (k + 1) []) := by
  rw [List.getElem?_drop, Nat.add_zero, List.getElem?_take, if_pos (by omega), List.getElem?_drop, Nat.add_comm 1 k, List.getElem?_eq_getElem h]; simp [List.getD, List.getElem?_eq_getElem h]
end Go.Proofs.YtenocbhlbgcnfaaDoor
namespace Go.Proofs.YtenocbhlbgcnfaaDoor
open Go.RowKit
theorem Rel.dsl_inv {E : Emb} {y : Value} {l : List (List UInt8)} (h : Rel E (.dsl l) y) : (∃ L a o c s, E.d a = some (L, s) ∧ (∀ (i : Nat) x, l[i]? = some x → L (o + i) = some (.string ⟨x.toArray⟩)) ∧ l.length ≤ c ∧ c ≤ maxLen ∧ o + c ≤ s ∧ y = .slice (some ⟨a, o, none⟩) l.length c) ∨ (∃ ad, l = [] ∧ y = .slice ad 0 0) := by
  cases h with
  | dsl _ L a o c s h h1 h2 h3 h4 => exact .inl ⟨L, a, o, c, s, h, h1, h2, h3, h4, rfl⟩
  | dsl0 ad => exact .inr ⟨ad, rfl, rfl⟩
  | agg _ _ _ h => cases h
theorem Rel.dptr_inv {E : Emb} {y : Value} {l : List (List UInt8)} (h : Rel E (.dptr l) y) : ∃ L a o s, E.d a = some (L, s) ∧ (∀ (i : Nat) x, l[i]? = some x → L (o + i) = some (.string ⟨x.toArray⟩)) ∧ 0 < l.length ∧ y = .pointer (some ⟨a, o, none⟩) := by
  cases h with
  | dptr _ L a o s h h1 h2 => exact ⟨L, a, o, s, h, h1, h2, rfl⟩
  | agg _ _ _ h => cases h
section
variable {P : Program} {T : Nat → Option AV} {H : Hp} {nm : Nat} {wr : Bool} {d : Option Tmp} {ty : TypeId} {ps : String} {af : Array Edge} {gd : Option (Nat × Bool)} {t e : TypeId} {x y : Operand} {i : Nat} {l : List (List UInt8)} {dd : TypeDesc}
theorem op_len_dsl (ht : P.underlying t = some (.slice e)) (hx : aev T x = some (.dsl l)) :
    OpSem P T H ⟨d, .call { callee := .builtin .len, args := #[x], argTypes := #[t] }, ty, ps, af, gd⟩ nm wr (.i64 (l.length : Int)) [] :=
  op_len_run hx fun E y w hr => by
    rcases hr.dsl_inv with ⟨L, a, o, c, s, _, _, _, _, _, rfl⟩ | ⟨ad, rfl, rfl⟩
    · simp [Builtin.len_, run_underlying ht, goInt]
    · simp [Builtin.len_, run_underlying ht, goInt]
theorem op_indexAddr_dsl {j : Int} (ht : P.underlying t = some (.slice e)) (hz : (P.info? e).map (·.size) = some 1) (hx : aev T x = some (.dsl l)) (hy : aev T y = some (.i64 j)) (hj : j = (i : Int)) (hlt : i < l.length) :
    OpSem P T H ⟨d, .indexAddr t x y, ty, ps, af, gd⟩ nm wr (.dptr (l.drop i)) [] :=
  .quiet fun E a w h => by
    subst hj
    have h2 := (h y mem22 _ hy).i64_inv
    rcases (h x mem21 _ hx).dsl_inv with ⟨L, q, o, c, s, h1, h3, _, _, _, h4⟩ | ⟨ad, rfl, _⟩
    · refine ⟨.pointer (some ⟨q, o + i, none⟩), ?_, .dptr _ L q (o + i) s h1 ?_ (by rw [List.length_drop]; omega)⟩
      · have hin : (0 : Int) ≤ (i : Int) ∧ (i : Int) < (l.length : Int) := by omega
        simp [execOp, h2, h4, Instr.indexAt, asIntOf, run_underlying ht, hin, run_sizeOf_is hz, add_at, hlt]
      · intro k v hk
        rw [List.getElem?_drop] at hk
        rw [Nat.add_assoc]; exact h3 _ _ hk
    · exact absurd hlt (by simp)
/-- A string of a place that lies still. -/
theorem op_load_dptr {v : List UInt8} (hu : P.underlying t = some dd) (hna : (match dd with | .struct _ | .array _ _ => true | _ => false) = false) (hx : aev T x = some (.dptr l)) (hv : l[0]? = some v) :
    OpSem P T H ⟨d, .load t x, ty, ps, af, gd⟩ nm wr (.str v) [] :=
  .reads fun E S a w h hR => by
    obtain ⟨L, q, o, s, h1, h2, h3, h4⟩ := (h x mem1 _ hx).dptr_inv
    obtain ⟨⟨arr, tq, fz, g1, _, g3⟩, _⟩ := hR.deep q L s h1
    have hL : L o = some (.string ⟨v.toArray⟩) := h2 0 v hv
    have hc : w.cell? ⟨q, o, none⟩ = some (.string ⟨v.toArray⟩) := (cell_of_row w q o arr tq fz g1).trans (g3 o _ hL)
    refine ⟨_, ?_, .str v⟩
    simp [execOp, h4, Instr.loadAt, Instr.sureAddr, loadVar, run_isAgg_no hu hna, hc]
theorem op_slice_dsl {lo hi : Option Operand} {p q : Nat} (ht : P.underlying t = some (.slice e)) (hz : (P.info? e).map (·.size) = some 1) (hx : aev T x = some (.dsl l)) (hl : bnd T 0 lo p) (hh : bnd T l.length hi q) (h1 : p ≤ q) (h2 : q ≤ l.length) (h3 : p < l.length) :
    OpSem P T H ⟨d, .slice t x lo hi none, ty, ps, af, gd⟩ nm wr (.dsl ((l.drop p).take (q - p))) [] :=
  .quiet fun E a w hop => by
    rcases (hop x (by simp [Op.operands]) _ hx).dsl_inv with ⟨L, lc, o, c, s, g1, g2, g3, g4, g5, g6⟩ | ⟨ad, rfl, _⟩
    · have hb := run_sliceBounds_ok (P := P) (sl := true) (cap := c) (fun q hq u hu => hop q (mem_slice q hq) u hu) hl hh h1 (by omega) w
      have hc : ¬ c = p := by omega
      have hlen : ((l.drop p).take (q - p)).length = q - p := by rw [List.length_take, List.length_drop]; omega
      have hr := Rel.dsl (E := E) ((l.drop p).take (q - p)) L lc (o + p) (c - p) s g1 (fun k v hk => by
        rw [List.getElem?_take] at hk
        split at hk
        · rw [List.getElem?_drop] at hk
          rw [Nat.add_assoc]; exact g2 _ _ hk
        · cases hk) (by rw [hlen]; omega) (by omega) (by omega)
      rw [hlen] at hr
      refine ⟨.slice (some ⟨lc, o + p, none⟩) (q - p) (c - p), ?_, hr⟩
      simp [execOp, g6, Instr.sliceAt, Instr.slice, run_underlying ht, hb, run_sizeOf_is hz, hc, add_at]
    · exact absurd h3 (by simp)
end
theorem nil_dsl (E : Emb) (y : Value) (h : Rel E .nilsl y) : Rel E (.dsl []) y := by rw [h.nilsl_inv]; exact .dsl0 _
theorem Rel.fsl_inv {E : Emb} {y : Value} {cs : List AV} {n z : Nat} (h : Rel E (.fsl cs n z) y) : (∃ (L : Nat → Option Value) (g : Nat → Value) (a o c s : Nat), E.d a = some (L, s) ∧ cs.length = n * z ∧ (∀ x ∈ cs, x.still = true) ∧ (∀ (i : Nat), i < cs.length → L (o + i) = some (g i)) ∧ (∀ (i : Nat) x, cs[i]? = some x → Rel E x (g i)) ∧ n ≤ c ∧ c ≤ maxLen ∧ o + c * z ≤ s ∧ y = .slice (some ⟨a, o, none⟩) n c) ∨ (∃ ad, cs = [] ∧ n = 0 ∧ y = .slice ad 0 0) := by
  cases h with
  | fsl _ _ _ L g a o c s h h0 h1 h2 h3 h4 h5 h6 => exact .inl ⟨L, g, a, o, c, s, h, h0, h1, h2, h3, h4, h5, h6, rfl⟩
  | fsl0 z ad => exact .inr ⟨ad, rfl, rfl, rfl⟩
  | agg _ _ _ h => cases h
theorem Rel.fptr_inv {E : Emb} {y : Value} {cs : List AV} (h : Rel E (.fptr cs) y) : ∃ (L : Nat → Option Value) (g : Nat → Value) (a o s : Nat), E.d a = some (L, s) ∧ (∀ x ∈ cs, x.still = true) ∧ (∀ (i : Nat), i < cs.length → L (o + i) = some (g i)) ∧ (∀ (i : Nat) x, cs[i]? = some x → Rel E x (g i)) ∧ 0 < cs.length ∧ y = .pointer (some ⟨a, o, none⟩) := by
  cases h with
  | fptr _ L g a o s h h1 h2 h3 h4 => exact ⟨L, g, a, o, s, h, h1, h2, h3, h4, rfl⟩
  | agg _ _ _ h => cases h
/-- Strings that lie still, in the one way and in the other. -/
theorem fsl_dsl {l : List (List UInt8)} {n : Nat} (hn : n = l.length) (E : Emb) (y : Value) (h : Rel E (.fsl (l.map .str) n 1) y) : Rel E (.dsl l) y := by
  subst hn
  rcases h.fsl_inv with ⟨L, g, a, o, c, s, h1, h2, h3, h4, h5, h6, h7, h8, rfl⟩ | ⟨ad, h1, h2, rfl⟩
  · refine .dsl l L a o c s h1 (fun i x hx => ?_) h6 h7 (by omega)
    have hi : i < (l.map AV.str).length := by rw [List.length_map]; exact (List.getElem?_eq_some_iff.1 hx).1
    rw [h4 i hi, (h5 i (.str x) (by simp [hx])).str_inv]
  · obtain rfl : l = [] := List.eq_nil_of_length_eq_zero h2
    exact .dsl0 ad
theorem nil_fsl (z : Nat) (E : Emb) (y : Value) (h : Rel E .nilsl y) : Rel E (.fsl [] 0 z) y := by rw [h.nilsl_inv]; exact .fsl0 z _
theorem dsl_fsl (l : List (List UInt8)) (E : Emb) (y : Value) (h : Rel E (.dsl l) y) : Rel E (.fsl (l.map .str) l.length 1) y := by
  rcases h.dsl_inv with ⟨L, a, o, c, s, h1, h2, h3, h4, h5, rfl⟩ | ⟨ad, rfl, rfl⟩
  · refine .fsl _ _ _ L (fun i => .string ⟨(l.getD i []).toArray⟩) a o c s h1 (by simp) (fun x hx => by obtain ⟨q, _, rfl⟩ := List.mem_map.1 hx; rfl) (fun i hi => ?_) (fun i x hx => ?_) h3 h4 (by omega)
    · rw [List.length_map] at hi
      exact h2 i _ (by rw [List.getD_eq_getElem?_getD, List.getElem?_eq_getElem hi]; rfl)
    · obtain ⟨q, hq, rfl⟩ := get_map_some hx
      rw [List.getD_eq_getElem?_getD, hq]; exact .str q
  · exact .fsl0 1 ad
section
variable {P : Program} {T : Nat → Option AV} {H : Hp} {nm : Nat} {wr : Bool} {d : Option Tmp} {ty : TypeId} {ps : String} {af : Array Edge} {gd : Option (Nat × Bool)} {t e : TypeId} {x y : Operand} {i n z : Nat} {cs : List AV} {dd : TypeDesc}
theorem op_len_fsl (ht : P.underlying t = some (.slice e)) (hx : aev T x = some (.fsl cs n z)) :
    OpSem P T H ⟨d, .call { callee := .builtin .len, args := #[x], argTypes := #[t] }, ty, ps, af, gd⟩ nm wr (.i64 (n : Int)) [] :=
  op_len_run hx fun E y w hr => by
    rcases hr.fsl_inv with ⟨L, g, a, o, c, s, _, _, _, _, _, _, _, _, rfl⟩ | ⟨ad, _, rfl, rfl⟩
    · simp [Builtin.len_, run_underlying ht, goInt]
    · simp [Builtin.len_, run_underlying ht, goInt]
theorem op_indexAddr_fsl {j : Int} (ht : P.underlying t = some (.slice e)) (hz : (P.info? e).map (·.size) = some z) (hz0 : 0 < z) (hx : aev T x = some (.fsl cs n z)) (hy : aev T y = some (.i64 j)) (hj : j = (i : Int)) (hlt : i < n) :
    OpSem P T H ⟨d, .indexAddr t x y, ty, ps, af, gd⟩ nm wr (.fptr (cs.drop (i * z))) [] :=
  .quiet fun E a w h => by
    subst hj
    have h2 := (h y mem22 _ hy).i64_inv
    rcases (h x mem21 _ hx).fsl_inv with ⟨L, g, q, o, c, s, h1, h3, h4, h5, h6, h7, h8, h9, h10⟩ | ⟨ad, _, rfl, _⟩
    · have hiz : i * z + z ≤ n * z := by rw [← Nat.succ_mul]; exact Nat.mul_le_mul_right _ hlt
      refine ⟨.pointer (some ⟨q, o + i * z, none⟩), ?_, .fptr _ L (fun k => g (i * z + k)) q (o + i * z) s h1 (fun x hx => h4 x (List.mem_of_mem_drop hx)) (fun k hk => ?_) (fun k v hk => ?_) (by rw [List.length_drop]; omega)⟩
      · have hin : (0 : Int) ≤ (i : Int) ∧ (i : Int) < (n : Int) := by omega
        simp [execOp, h2, h10, Instr.indexAt, asIntOf, run_underlying ht, hin, run_sizeOf_is hz, add_at, hlt]
      · rw [List.length_drop] at hk
        rw [Nat.add_assoc]; exact h5 _ (by omega)
      · rw [List.getElem?_drop] at hk
        exact h6 _ _ hk
    · exact absurd hlt (Nat.not_lt_zero _)
/-- A cell of a place that lies still. -/
theorem op_load_fptr {v : AV} (hu : P.underlying t = some dd) (hna : (match dd with | .struct _ | .array _ _ => true | _ => false) = false) (hx : aev T x = some (.fptr cs)) (hv : cs[0]? = some v) :
    OpSem P T H ⟨d, .load t x, ty, ps, af, gd⟩ nm wr v [] :=
  .reads fun E S a w h hR => by
    obtain ⟨L, g, q, o, s, h1, h2, h3, h4, h5, h6⟩ := (h x mem1 _ hx).fptr_inv
    obtain ⟨⟨arr, tq, fz, g1, _, g3⟩, _⟩ := hR.deep q L s h1
    have hc : w.cell? ⟨q, o, none⟩ = some (g 0) := (cell_of_row w q o arr tq fz g1).trans (g3 o _ (h3 0 h5))
    refine ⟨_, ?_, h4 0 v hv⟩
    simp [execOp, h6, Instr.loadAt, Instr.sureAddr, loadVar, run_isAgg_no hu hna, hc]
theorem op_slice_fsl {lo hi : Option Operand} {p q : Nat} (ht : P.underlying t = some (.slice e)) (hz : (P.info? e).map (·.size) = some z) (hx : aev T x = some (.fsl cs n z)) (hl : bnd T 0 lo p) (hh : bnd T n hi q) (h1 : p ≤ q) (h2 : q ≤ n) (h3 : p < n) :
    OpSem P T H ⟨d, .slice t x lo hi none, ty, ps, af, gd⟩ nm wr (.fsl ((cs.drop (p * z)).take ((q - p) * z)) (q - p) z) [] :=
  .quiet fun E a w hop => by
    rcases (hop x (by simp [Op.operands]) _ hx).fsl_inv with ⟨L, g, lc, o, c, s, g1, g2, g3, g4, g5, g6, g7, g8, g9⟩ | ⟨ad, _, rfl, _⟩
    · have hb := run_sliceBounds_ok (P := P) (sl := true) (cap := c) (fun q hq u hu => hop q (mem_slice q hq) u hu) hl hh h1 (by omega) w
      have hc : ¬ c = p := by omega
      have e1 : (q - p) * z + p * z = q * z := by rw [← Nat.add_mul]; congr 1; omega
      have e2 : q * z ≤ n * z := Nat.mul_le_mul_right _ h2
      have e3 : (c - p) * z + p * z = c * z := by rw [← Nat.add_mul]; congr 1; omega
      have hlen : ((cs.drop (p * z)).take ((q - p) * z)).length = (q - p) * z := by rw [List.length_take, List.length_drop]; omega
      refine ⟨.slice (some ⟨lc, o + p * z, none⟩) (q - p) (c - p), ?_, .fsl _ _ _ L (fun k => g (p * z + k)) lc (o + p * z) (c - p) s g1 hlen (fun x hx => g3 x (List.mem_of_mem_drop (List.mem_of_mem_take hx))) (fun k hk => ?_) (fun k v hk => ?_) (by omega) (by omega) (by omega)⟩
      · simp [execOp, g9, Instr.sliceAt, Instr.slice, run_underlying ht, hb, run_sizeOf_is hz, hc, add_at]
      · rw [hlen] at hk
        rw [Nat.add_assoc]; exact g4 _ (by omega)
      · rw [List.getElem?_take] at hk
        split at hk
        · rw [List.getElem?_drop] at hk; exact g5 _ _ hk
        · cases hk
    · exact absurd h3 (Nat.not_lt_zero _)
end
/-- An own block is written no more: its name goes, a slice of it says what it holds. -/
theorem StLe.freezeF {nt : Nat} {T : List (Nat × AV)} {H : List (Nat × Option ABlk)} {nx t b o n z e : Nat} {c : AV} (hn : 1000 ≤ nx) (ht : lk T t = some (.sl b o n z)) (hb : hget H b = some ⟨c, e, true⟩) (hl : o + n * z ≤ c.list.length) (hst : ∀ x ∈ c.list, x.still = true) (hmm : c.isMap = false := by first | rfl | assumption | exact AV.map_parts (by assumption)) :
    StLe nt ⟨T, H, nx⟩ ⟨(t, .fsl ((c.list.drop o).take (n * z)) n z) :: T, (b, none) :: H, nx⟩ := by
  refine ⟨hn, fun E S n0 a w hR => ?_⟩
  obtain ⟨q, s, h1, arr, tq, fz, g1, g2, _, _, g5⟩ := hR.rh.blkR hb hmm
  have hd : E.d q = none := by
    cases hq : E.d q with
    | none => rfl
    | some p => exact absurd h1 ((hR.rh.deep q p.1 p.2 hq).2 b _ s hb rfl)
  have hlen : ((c.list.drop o).take (n * z)).length = n * z := by rw [List.length_take, List.length_drop]; omega
  have hle : E.le ⟨E.f, fun p => if p = q then some (fun i => arr[i]?, s) else E.d p⟩ := ⟨fun _ _ h => h, fun p r hp => by
    show (if p = q then some (fun i => arr[i]?, s) else E.d p) = some r
    rw [if_neg (fun h => by rw [h, hd] at hp; cases hp)]; exact hp⟩
  have hup : ∀ m, hget ((b, none) :: H) m = if m = b then none else hget H m := fun m => by
    have := upd_one b none (hget H) m
    rw [upd_hget] at this
    exact this
  have hsub : ∀ m k, hget ((b, none) :: H) m = some k → m ≠ b ∧ hget H m = some k := fun m k h => by
    rw [hup] at h
    split at h
    · cases h
    · rename_i h0; exact ⟨h0, h⟩
  refine ⟨⟨E.f, fun p => if p = q then some (fun i => arr[i]?, s) else E.d p⟩, ⟨fun _ _ => rfl, fun p => ?_⟩, fun t' v ht' => ?_, hR.nt, hR.df, ⟨fun m k hk => ?_, fun m m' k k' l1 s1 s2 q1 q2 q3 q4 q5 => ?_, fun m k l1 s1 q1 q2 q3 => ?_, fun p L' s1 hp => ?_⟩, hR.fr, hR.gl, hR.hS, hR.h0⟩
  · by_cases c : p = q
    · subst c; exact .inr ⟨hd, hR.rh.own b _ p s hb rfl h1⟩
    · exact .inl (if_neg c)
  · simp only [lk] at ht'
    split at ht'
    · rename_i e1
      injection ht' with ht'; subst ht'
      have e2 := Nat.eq_of_beq_eq_true e1
      subst e2
      rcases (hR.rt t _ ht).sl_inv with ⟨l1, s1, cp, q1, q2, q3, q4, q5⟩ | ⟨ad, q1, q5⟩
      · rw [h1] at q1; injection q1 with q1; injection q1 with e1 e2; subst e1; subst e2
        rw [q5]
        refine .fsl _ _ _ (fun i => arr[i]?) (fun i => (arr[o + i]?).getD default) q o cp s (if_pos rfl) hlen (fun x hx => hst x (List.mem_of_mem_drop (List.mem_of_mem_take hx))) (fun k hk => ?_) (fun k v hk => ?_) q2 q3 (by omega)
        · rw [hlen] at hk
          obtain ⟨_, y, p1, _⟩ := g5 (o + k) _ (List.getElem?_eq_getElem (show o + k < c.list.length by omega))
          show arr[o + k]? = _
          rw [p1]; rfl
        · rw [List.getElem?_take] at hk
          split at hk
          · rw [List.getElem?_drop] at hk
            obtain ⟨_, y, p1, p2⟩ := g5 (o + k) v hk
            show Rel _ v ((arr[o + k]?).getD default)
            rw [p1]; exact p2.mono hle
          · cases hk
      · rw [q5]
        subst q1
        rw [show ((c.list.drop o).take (0 * z)) = [] by rw [Nat.zero_mul, List.take_zero]]
        exact .fsl0 z ad
    · exact (hR.rt t' v ht').mono hle
  · obtain ⟨_, hk'⟩ := hsub m k hk
    obtain ⟨l1, s1, q1, q2⟩ := hR.rh.blk m k hk'
    exact ⟨l1, s1, q1, q2.mono hle rfl⟩
  · exact hR.rh.inj m m' k k' l1 s1 s2 (hsub _ _ q1).2 (hsub _ _ q2).2 q3 q4 q5
  · exact hR.rh.own m k l1 s1 (hsub _ _ q1).2 q2 q3
  · by_cases c : p = q
    · subst c
      have hp' : (if p = p then some (fun i => arr[i]?, s) else E.d p) = some (L', s1) := hp
      rw [if_pos rfl] at hp'; injection hp' with hp'; injection hp' with e1 e2; subst e1; subst e2
      refine ⟨⟨arr, tq, fz, g1, g2, fun i x hx => hx⟩, fun m k s2 q1 q2 q3 => ?_⟩
      exact (hsub _ _ q1).1 (hR.rh.inj b m _ k p s s2 hb (hsub _ _ q1).2 rfl h1 q3).symm
    · have hp' : (if p = q then some (fun i => arr[i]?, s) else E.d p) = some (L', s1) := hp
      rw [if_neg c] at hp'
      exact ⟨(hR.rh.deep p L' s1 hp').1, fun m k s2 q1 => (hR.rh.deep p L' s1 hp').2 m k s2 (hsub _ _ q1).2⟩
/-- An own block of strings is written no more: its name goes, a slice of it says what it holds. -/
theorem Ev.freeze {P : Program} {nt : Nat} {cd : Code} {post : Exit → St → Prop} {T : List (Nat × AV)} {H : List (Nat × Option ABlk)} {nx t b o n e : Nat} {L : List (List UInt8)} (hn : 1000 ≤ nx) (ht : lk T t = some (.sl b o n 1)) (hb : hget H b = some ⟨.aggS L, e, true⟩) (hl : o + n ≤ L.length)
    (h : Ev P nt cd ⟨(t, .dsl ((L.drop o).take n)) :: T, (b, none) :: H, nx⟩ post) : Ev P nt cd ⟨T, H, nx⟩ post := by
  refine Ev.weak (StLe.freezeF hn ht hb (by have e9 : (L.map AV.str).length = L.length := List.length_map _; show _ ≤ (L.map AV.str).length; omega) (fun x hx => by obtain ⟨q, _, rfl⟩ := List.mem_map.1 (show x ∈ L.map AV.str from hx); rfl)) ?_
  refine Ev.asR (T1 := []) (.dsl ((L.drop o).take n)) (fun E y hr => fsl_dsl (n := n) (by rw [List.length_take, List.length_drop]; omega) E y (by
    have e : ((AV.aggS L).list.drop o).take (n * 1) = ((L.drop o).take n).map .str := by show ((L.map AV.str).drop o).take (n * 1) = _; rw [Nat.mul_one, List.map_take, List.map_drop]
    rwa [e] at hr)) ?_
  exact h
end Go.Proofs.YtenocbhlbgcnfaaDoor
namespace Go.Proofs.YtenocbhlbgcnfaaDoor
open Go.RowKit
section
variable {P : Program} {T : Nat → Option AV} {H : Hp} {nm : Nat} {wr : Bool} {d : Option Tmp} {ty : TypeId} {ps : String} {af : Array Edge} {gd : Option (Nat × Bool)} {x : Operand} {c : AV}
/-- bytealg.MakeNoZero: a new block of bytes, of which nothing is known. -/
theorem op_makeNoZero {f : FuncId} {fn : Func} {ts p1 : Array TypeId} {r1 e : TypeId} {j : Int} {n : Nat} (hf : P.funcs[f]? = some fn) (hname : (fn.name == "runtime.NumGoroutine") = false) (hb : fn.body.isNone = true) (hnx : (Extern.findNext fn).isNone = true)
    (he : (Extern.find fn) = some (Extern.BytealgMakeNoZero.makeNoZero p1 #[r1])) (ht : P.underlying r1 = some (.slice e)) (hx : aev T x = some (.i64 j)) (hj : j = (n : Int)) (hn : n ≤ 1000000000) (hc : c.list = []) (hm0 : c.isMap = false := by first | rfl | assumption | exact AV.map_parts (by assumption)) :
    OpSem P T H ⟨d, .call { callee := .value (.func f), args := #[x], argTypes := ts }, ty, ps, af, gd⟩ nm wr (.sl nm 0 n 1) [(nm, some ⟨c, e, true⟩)] :=
  .allocs fun E S a w h hR => by
    subst hj
    have e1 := (h x (by simp [Op.operands, Call.operands]) _ hx).i64_inv
    obtain ⟨cs, hrun, hle, hmax⟩ := Lib.run_makeNoZero (P := P) w p1 r1 e ht n (by omega)
    have hr2 : (callFunc f #[a.eval x]).run P w = .ok (.value (.slice (some ⟨w.heap.size, 0, none⟩) n cs.size)) (w.drew.drew.alloc (.cells cs e)) := by rw [e1]; exact run_callFunc_ext hf hname hb hnx he hrun
    refine ⟨_, cs, (0, 0), w.drew.drew, run_exec_func (by simpa using hr2), rfl, rfl, rfl, rfl, (by first | exact DrOk.refl _ | exact (DrOk.refl _).drew | exact (DrOk.refl _).drew.drew), .sl _ _ _ _ _ _ _ (Emb.put_same _ _ _) hle (hmax (by unfold maxLen; omega)) (by omega), FzOk.zero _ _, by rw [hc]; simp, fun i q hq => by rw [hc] at hq; simp at hq⟩
end
end Go.Proofs.YtenocbhlbgcnfaaDoor
namespace Go.Proofs.YtenocbhlbgcnfaaDoor
open Go.RowKit
set_option maxRecDepth 100000 in
theorem jcc0_ev  : Meets Tryd.prog 62 [.ptr 500 0] [(500, some ⟨.agg [.val (.pointer none), .nilsl], 54, true⟩)] (.tup []) [(500, some ⟨.agg [.ptr 500 0, .nilsl], 54, true⟩)] := by
 refine meets_of_ev (nt := 20) Tryd.func62 rfl rfl (Nat.le_of_ble_eq_true rfl) ?_
 refine .seq ?_
 refine .region ?_
 refine .q (op_move rfl) trivial rfl ?_
 refine .q (op_nilCheck rfl) trivial rfl ?_
 refine .q (op_fieldAddr (m := 0) Tryd.underlying54 rfl (by kernel_rfl) rfl) trivial rfl ?_
 refine .as (.ptr 500 0) rfl ?_
 refine .q (op_load Tryd.underlying51 rfl rfl rfl rfl (by first | omega | (simp only [AV.len]; omega) | (simp only [AV.len]; omega) | assumption | (simp [AV.len]; done))) trivial rfl ?_
 refine .q (op_eqNilPtr Tryd.underlying51 rfl rfl rfl) trivial rfl ?_
 refine .nil ?_
 show Ev _ _ _ _ _
 refine .cond_true rfl (rfl) ?_
 refine .region ?_
 refine .q (op_move rfl) trivial rfl ?_
 refine .q (op_move rfl) trivial rfl ?_
 refine .q (op_toUnsafe Tryd.underlying51 Tryd.underlying117 (by kernel_rfl) rfl rfl rfl) trivial rfl ?_
 refine .q (op_noEscape Tryd.func68 (by kernel_rfl) (by kernel_rfl) (by kernel_rfl) rfl rfl) trivial rfl ?_
 refine .q (op_fromUnsafe Tryd.underlying117 Tryd.underlying51 (by kernel_rfl) rfl rfl (by decide) rfl (by kernel_rfl) (by kernel_rfl) (by kernel_rfl)) trivial rfl ?_
 refine .q (op_nilCheck rfl) trivial rfl ?_
 refine .q (op_fieldAddr (m := 0) Tryd.underlying54 rfl (by kernel_rfl) rfl) trivial rfl ?_
 refine .as (.ptr 500 0) rfl ?_
 refine .w (op_store (by kernel_rfl) rfl rfl rfl rfl rfl (by first | omega | (simp only [AV.len]; omega) | (simp only [AV.len]; omega) | assumption | (simp [AV.len]; done))) trivial rfl ?_
 refine .nil ?_
 show RetOk _ _ _ _ _ _ _
 exact ret0 rfl (.inr rfl) ⟨rfl, trivial⟩
set_option maxRecDepth 100000 in
theorem jcc2_ev (n : Nat) : Meets Tryd.prog 62 [.ptr 500 0] [(500, some ⟨.agg [.ptr 500 0, .sl 501 0 (n) 1], 54, false⟩)] (.tup []) [(500, some ⟨.agg [.ptr 500 0, .sl 501 0 (n) 1], 54, false⟩)] := by
 refine meets_of_ev (nt := 20) Tryd.func62 rfl rfl (Nat.le_of_ble_eq_true rfl) ?_
 refine .seq ?_
 refine .region ?_
 refine .q (op_move rfl) trivial rfl ?_
 refine .q (op_nilCheck rfl) trivial rfl ?_
 refine .q (op_fieldAddr (m := 0) Tryd.underlying54 rfl (by kernel_rfl) rfl) trivial rfl ?_
 refine .as (.ptr 500 0) rfl ?_
 refine .q (op_load Tryd.underlying51 rfl rfl rfl rfl (by first | omega | (simp only [AV.len]; omega) | (simp only [AV.len]; omega) | assumption | (simp [AV.len]; done))) trivial rfl ?_
 refine .q (op_eqPtrNil Tryd.underlying51 rfl rfl rfl) trivial rfl ?_
 refine .nil ?_
 show Ev _ _ _ _ _
 refine .cond_false rfl (rfl) ?_
 refine .seq ?_
 refine .region ?_
 refine .q (op_move rfl) trivial rfl ?_
 refine .q (op_nilCheck rfl) trivial rfl ?_
 refine .q (op_fieldAddr (m := 0) Tryd.underlying54 rfl (by kernel_rfl) rfl) trivial rfl ?_
 refine .as (.ptr 500 0) rfl ?_
 refine .q (op_load Tryd.underlying51 rfl rfl rfl rfl (by first | omega | (simp only [AV.len]; omega) | (simp only [AV.len]; omega) | assumption | (simp [AV.len]; done))) trivial rfl ?_
 refine .q (op_move rfl) trivial rfl ?_
 refine .q (op_eqPtrSame Tryd.underlying51 (by kernel_rfl) rfl rfl rfl) trivial rfl ?_
 refine .nil ?_
 show Ev _ _ _ _ _
 refine .cond_false rfl (rfl) ?_
 refine .skip ?_
 show RetOk _ _ _ _ _ _ _
 exact ret0 rfl (.inr rfl) ⟨rfl, trivial⟩
set_option maxRecDepth 100000 in
theorem jws2_ev (l : List UInt8) (n : Nat) (hn : n = l.length) (h : n ≤ 1000000000) (s : List UInt8) (hs : s.length ≤ 1000000000) : Meets Tryd.prog 61 [.ptr 500 0, .str s] [(500, some ⟨.agg [.ptr 500 0, .sl 501 0 (n) 1], 54, true⟩), (501, some ⟨.aggB l, 5, true⟩)] (.tup [.i64 (s.length : Int), .val .nilIface]) [(500, some ⟨.agg [.ptr 500 0, .sl 1000 0 (n + s.length) 1], 54, true⟩), (1000, some ⟨.aggB (l ++ s), 5, true⟩)] := by
 refine meets_of_ev (nt := 19) Tryd.func61 rfl rfl (Nat.le_of_ble_eq_true rfl) ?_
 refine .seq ?_
 refine .region ?_
 refine .q (op_assign rfl) trivial rfl ?_
 refine .q (op_assign rfl) trivial rfl ?_
 refine .nil ?_
 show Ev _ _ _ _ _
 refine .seq ?_
 refine .region ?_
 refine .q (op_move rfl) trivial rfl ?_
 refine .q (op_call (U := []) [(500, 500), (501, 501)] [] (jcc2_ev n) Tryd.func62 (by kernel_rfl) rfl rfl rfl (⟨⟨_, rfl, rfl, rfl⟩, trivial⟩) (⟨⟨_, _, rfl, rfl, rfl, rfl, (fun h => by cases h), rfl⟩, trivial⟩) (trivial) (⟨(fun h => by cases h), trivial⟩) rfl) trivial rfl ?_
 refine .nil ?_
 show Ev _ _ _ _ _
 refine .seq ?_
 refine .region ?_
 refine .q (op_move rfl) trivial rfl ?_
 refine .q (op_move rfl) trivial rfl ?_
 refine .q (op_nilCheck rfl) trivial rfl ?_
 refine .q (op_fieldAddr (m := 0) Tryd.underlying54 rfl (by kernel_rfl) rfl) trivial rfl ?_
 refine .as (.ptr 500 1) rfl ?_
 refine .q (op_load Tryd.underlying52 rfl rfl rfl rfl (by first | omega | (simp only [AV.len]; omega) | (simp only [AV.len]; omega) | assumption | (simp [AV.len]; done))) trivial rfl ?_
 refine .q (op_move rfl) trivial rfl ?_
 refine .a (ap_catS Tryd.underlying52 inf5 Tryd.underlying9 rfl rfl rfl (hn) (by omega)) trivial rfl ?_
 refine .q (op_nilCheck rfl) trivial rfl ?_
 refine .q (op_fieldAddr (m := 0) Tryd.underlying54 rfl (by kernel_rfl) rfl) trivial rfl ?_
 refine .as (.ptr 500 1) rfl ?_
 refine .w (op_store (by kernel_rfl) rfl rfl rfl rfl rfl (by first | omega | (simp only [AV.len]; omega) | (simp only [AV.len]; omega) | assumption | (simp [AV.len]; done))) trivial rfl ?_
 refine .nil ?_
 show Ev _ _ _ _ _
 refine .seq ?_
 refine .region ?_
 refine .q (op_move rfl) trivial rfl ?_
 refine .q (op_len_str Tryd.underlying9 rfl) trivial rfl ?_
 refine .q (op_assign rfl) trivial rfl ?_
 refine .q (op_assign rfl) trivial rfl ?_
 refine .nil ?_
 show Ev _ _ _ _ _
 refine .ret ?_
 show RetOk _ _ _ _ _ _ _
 exact ret2v rfl (.inl rfl) rfl rfl rfl rfl ⟨rfl, rfl, trivial⟩
set_option maxRecDepth 100000 in
theorem jst2_ev (l : List UInt8) (n : Nat) (hn : n = l.length) (h0 : 0 < n) (h : n ≤ 1000000000) : Meets Tryd.prog 48 [.ptr 500 0] [(500, some ⟨.agg [.ptr 500 0, .sl 501 0 (n) 1], 54, false⟩), (501, some ⟨.aggB l, 5, true⟩)] (.str l) [(500, some ⟨.agg [.ptr 500 0, .sl 501 0 (n) 1], 54, false⟩), (501, some ⟨.aggB l, (frz + 5), false⟩)] := by
 refine meets_of_ev (nt := 14) Tryd.func48 rfl rfl (Nat.le_of_ble_eq_true rfl) ?_
 refine .seq ?_
 refine .region ?_
 refine .q (op_assign rfl) trivial rfl ?_
 refine .nil ?_
 show Ev _ _ _ _ _
 refine .seq ?_
 refine .drawn [[], [0], [0, 1], [0, 1, 2], [0, 1, 2, 3], [], [5], [5, 6], [5, 6, 7], [5, 6, 7, 8], [0, 1, 2, 3, 4, 5, 6, 7, 8, 9], [0, 1, 2, 3, 4, 5, 6, 7, 8, 9, 10]] [3, 8, 10] [10] (by kernel_rfl) (by kernel_rfl) rfl ?_
 show DK _ [0, 1, 2, 3, 4, 5, 6, 7, 8, 9, 10, 11] _ _ _
 refine .q rfl (op_move rfl) trivial ?_
 refine .q rfl (op_nilCheck rfl) trivial ?_
 refine .q rfl (op_fieldAddr (m := 0) Tryd.underlying54 rfl (by kernel_rfl) rfl) trivial ?_
 refine .as (.ptr 500 1) rfl ?_
 refine .q rfl (op_load Tryd.underlying52 rfl rfl rfl rfl (by first | omega | (simp only [AV.len]; omega) | (simp only [AV.len]; omega) | assumption | (simp [AV.len]; done))) trivial ?_
 refine .q rfl (op_sliceData rfl (h0)) trivial ?_
 refine .q rfl (op_move rfl) trivial ?_
 refine .q rfl (op_nilCheck rfl) trivial ?_
 refine .q rfl (op_fieldAddr (m := 0) Tryd.underlying54 rfl (by kernel_rfl) rfl) trivial ?_
 refine .as (.ptr 500 1) rfl ?_
 refine .q rfl (op_load Tryd.underlying52 rfl rfl rfl rfl (by first | omega | (simp only [AV.len]; omega) | (simp only [AV.len]; omega) | assumption | (simp [AV.len]; done))) trivial ?_
 refine .q rfl (op_len_sl Tryd.underlying52 rfl) trivial ?_
 refine .a rfl (op_unsafeString (e := 5) Tryd.underlying114 (by kernel_rfl) rfl rfl (congrArg Int.ofNat hn) rfl rfl rfl (by decide) (by decide) rfl (by omega) (by omega)) trivial rfl rfl ?_
 refine .q rfl (op_assign rfl) trivial ?_
 refine .nil ?_
 show Ev _ _ _ _ _
 refine .ret ?_
 show RetOk _ _ _ _ _ _ _
 exact ret1v rfl (.inl rfl) rfl rfl ⟨rfl, rfl, trivial⟩
set_option maxRecDepth 100000 in
theorem jgrow_ev (n : Nat) (h : n ≤ 1000000000) : Meets Tryd.prog 67 [.ptr 500 0, .i64 (n : Int)] [(500, some ⟨.agg [.ptr 500 0, .nilsl], 54, true⟩)] (.tup []) [(500, some ⟨.agg [.ptr 500 0, .sl 1064 0 (0) 1], 54, true⟩), (1064, some ⟨.aggB [], 5, true⟩)] := by
 refine meets_of_ev (nt := 30) Tryd.func67 rfl rfl (Nat.le_of_ble_eq_true rfl) ?_
 refine .seq ?_
 refine .drawn [[], [0], [0, 1], [0, 1, 2], [0, 1, 2, 3], [0, 1, 2, 3, 4], [], [0, 1, 2, 3, 4, 5, 6], [0, 1, 2, 3, 4, 5, 6, 7], [], [9], [9, 10], [9, 10, 11], [9, 10, 11, 12], [0, 1, 2, 3, 4, 5, 6, 7, 8, 9, 10, 11, 12, 13], [0, 1, 2, 3, 4, 5, 6, 7, 8, 9, 10, 11, 12, 13, 14]] [3, 8, 12] [] (by kernel_rfl) (by kernel_rfl) rfl ?_
 show DK _ [0, 1, 2, 3, 4, 5, 6, 7, 8, 9, 10, 11, 12, 13, 14, 15] _ _ _
 refine .q rfl (op_move rfl) trivial ?_
 refine .q rfl (op_nilCheck rfl) trivial ?_
 refine .q rfl (op_fieldAddr (m := 0) Tryd.underlying54 rfl (by kernel_rfl) rfl) trivial ?_
 refine .as (.ptr 500 1) rfl ?_
 refine .q rfl (op_load Tryd.underlying52 rfl rfl rfl rfl (by first | omega | (simp only [AV.len]; omega) | (simp only [AV.len]; omega) | assumption | (simp [AV.len]; done))) trivial ?_
 refine .q rfl (op_cap_nil Tryd.underlying52 rfl) trivial ?_
 refine .q rfl (op_mulI rfl rfl ⟨by omega, by omega⟩) trivial ?_
 refine .q rfl (op_move rfl) trivial ?_
 refine .q rfl (op_addI rfl rfl ⟨by omega, by omega⟩) trivial ?_
 refine .a rfl (op_makeNoZero (p1 := #[3]) (n := n) (c := .aggB []) Tryd.func74 (by kernel_rfl) (by kernel_rfl) (by kernel_rfl) (by kernel_rfl) Tryd.underlying52 rfl (by omega) (by omega) rfl) trivial rfl rfl ?_
 refine .q rfl (op_move rfl) trivial ?_
 refine .q rfl (op_nilCheck rfl) trivial ?_
 refine .q rfl (op_fieldAddr (m := 0) Tryd.underlying54 rfl (by kernel_rfl) rfl) trivial ?_
 refine .as (.ptr 500 1) rfl ?_
 refine .q rfl (op_load Tryd.underlying52 rfl rfl rfl rfl (by first | omega | (simp only [AV.len]; omega) | (simp only [AV.len]; omega) | assumption | (simp [AV.len]; done))) trivial ?_
 refine .q rfl (op_len_nil Tryd.underlying52 rfl) trivial ?_
 refine .q rfl (ap_slice_sl_hi Tryd.underlying52 inf5.sz rfl (bnd_some rfl (l := 0) rfl) (by omega)) trivial ?_
 refine .q rfl (op_assign rfl) trivial ?_
 refine .nil ?_
 show Ev _ _ _ _ _
 refine .seq ?_
 refine .region ?_
 refine .q (op_move rfl) trivial rfl ?_
 refine .q (op_move rfl) trivial rfl ?_
 refine .q (op_nilCheck rfl) trivial rfl ?_
 refine .q (op_fieldAddr (m := 0) Tryd.underlying54 rfl (by kernel_rfl) rfl) trivial rfl ?_
 refine .as (.ptr 500 1) rfl ?_
 refine .q (op_load Tryd.underlying52 rfl rfl rfl rfl (by first | omega | (simp only [AV.len]; omega) | (simp only [AV.len]; omega) | assumption | (simp [AV.len]; done))) trivial rfl ?_
 refine .a (op_copy (q := 0) (c' := .aggB []) Tryd.underlying52 inf5.sz rfl rfl rfl (srcs_nil rfl) (by decide) rfl rfl) trivial rfl ?_
 refine .nil ?_
 show Ev _ _ _ _ _
 refine .region ?_
 refine .q (op_move rfl) trivial rfl ?_
 refine .q (op_move rfl) trivial rfl ?_
 refine .q (op_nilCheck rfl) trivial rfl ?_
 refine .q (op_fieldAddr (m := 0) Tryd.underlying54 rfl (by kernel_rfl) rfl) trivial rfl ?_
 refine .as (.ptr 500 1) rfl ?_
 refine .w (op_store (by kernel_rfl) rfl rfl rfl rfl rfl (by first | omega | (simp only [AV.len]; omega) | (simp only [AV.len]; omega) | assumption | (simp [AV.len]; done))) trivial rfl ?_
 refine .nil ?_
 show RetOk _ _ _ _ _ _ _
 exact ret0 rfl (.inr rfl) ⟨rfl, rfl, trivial⟩
set_option maxRecDepth 100000 in
theorem jGrow_ev (n : Nat) (h : n ≤ 1000000000) (h0 : 0 < n) : Meets Tryd.prog 60 [.ptr 500 0, .i64 (n : Int)] [(500, some ⟨.agg [.val (.pointer none), .nilsl], 54, true⟩)] (.tup []) [(500, some ⟨.agg [.ptr 500 0, .sl 1112 0 (0) 1], 54, true⟩), (1112, some ⟨.aggB [], 5, true⟩)] := by
 refine meets_of_ev (nt := 25) Tryd.func60 rfl rfl (Nat.le_of_ble_eq_true rfl) ?_
 refine .seq ?_
 refine .region ?_
 refine .q (op_move rfl) trivial rfl ?_
 refine .a (op_call (U := [(500, some ⟨.agg [.ptr 500 0, .nilsl], 54, true⟩)]) [(500, 500)] [] (jcc0_ev) Tryd.func62 (by kernel_rfl) rfl rfl rfl (⟨⟨_, rfl, rfl, rfl⟩, trivial⟩) (⟨⟨_, _, rfl, rfl, rfl, rfl, id, rfl⟩, trivial⟩) (⟨⟨500, _, rfl, rfl, rfl, rfl, .inr ⟨rfl, _, rfl, rfl⟩⟩, trivial⟩) (⟨(fun _ => ⟨500, _, rfl, rfl⟩), trivial⟩) rfl) trivial rfl ?_
 refine .nil ?_
 show Ev _ _ _ _ _
 refine .seq ?_
 refine .seq ?_
 refine .region ?_
 refine .q (op_move rfl) trivial rfl ?_
 refine .q (op_cmpI rfl rfl rfl) trivial rfl ?_
 refine .nil ?_
 show Ev _ _ _ _ _
 refine .cond_false rfl (decide_eq_false (by omega)) ?_
 refine .skip ?_
 show Ev _ _ _ _ _
 refine .seq ?_
 refine .drawn [[], [0], [0, 1], [0, 1, 2], [0, 1, 2, 3], [], [5], [5, 6], [5, 6, 7], [5, 6, 7, 8], [0, 1, 2, 3, 4, 5, 6, 7, 8, 9], [], [0, 1, 2, 3, 4, 5, 6, 7, 8, 9, 10, 11]] [3, 8] [] (by kernel_rfl) (by kernel_rfl) rfl ?_
 show DK _ [0, 1, 2, 3, 4, 5, 6, 7, 8, 9, 10, 11, 12] _ _ _
 refine .q rfl (op_move rfl) trivial ?_
 refine .q rfl (op_nilCheck rfl) trivial ?_
 refine .q rfl (op_fieldAddr (m := 0) Tryd.underlying54 rfl (by kernel_rfl) rfl) trivial ?_
 refine .as (.ptr 500 1) rfl ?_
 refine .q rfl (op_load Tryd.underlying52 rfl rfl rfl rfl (by first | omega | (simp only [AV.len]; omega) | (simp only [AV.len]; omega) | assumption | (simp [AV.len]; done))) trivial ?_
 refine .q rfl (op_cap_nil Tryd.underlying52 rfl) trivial ?_
 refine .q rfl (op_move rfl) trivial ?_
 refine .q rfl (op_nilCheck rfl) trivial ?_
 refine .q rfl (op_fieldAddr (m := 0) Tryd.underlying54 rfl (by kernel_rfl) rfl) trivial ?_
 refine .as (.ptr 500 1) rfl ?_
 refine .q rfl (op_load Tryd.underlying52 rfl rfl rfl rfl (by first | omega | (simp only [AV.len]; omega) | (simp only [AV.len]; omega) | assumption | (simp [AV.len]; done))) trivial ?_
 refine .q rfl (op_len_nil Tryd.underlying52 rfl) trivial ?_
 refine .q rfl (op_subI rfl rfl ⟨by omega, by omega⟩) trivial ?_
 refine .q rfl (op_move rfl) trivial ?_
 refine .q rfl (op_cmpI rfl rfl rfl) trivial ?_
 refine .nil ?_
 show Ev _ _ _ _ _
 refine .cond_true rfl (decide_eq_true (by omega)) ?_
 refine .region ?_
 refine .q (op_move rfl) trivial rfl ?_
 refine .q (op_move rfl) trivial rfl ?_
 refine .a (op_call (U := [(500, some ⟨.agg [.ptr 500 0, .sl 1112 0 (0) 1], 54, true⟩), (1112, some ⟨.aggB [], 5, true⟩)]) [(500, 500)] [(1112, 1064)] (jgrow_ev n h) Tryd.func67 (by kernel_rfl) rfl rfl rfl (⟨⟨_, rfl, rfl, rfl⟩, ⟨_, rfl, rfl, rfl⟩, trivial⟩) (⟨⟨_, _, rfl, rfl, rfl, rfl, id, rfl⟩, trivial⟩) (⟨⟨500, _, rfl, rfl, rfl, rfl, .inr ⟨rfl, _, rfl, rfl⟩⟩, ⟨1064, _, rfl, rfl, rfl, rfl, .inl rfl⟩, trivial⟩) (⟨(fun _ => ⟨500, _, rfl, rfl⟩), trivial⟩) rfl) trivial rfl ?_
 refine .nil ?_
 show RetOk _ _ _ _ _ _ _
 exact ret0 rfl (.inr rfl) ⟨rfl, rfl, trivial⟩
set_option maxRecDepth 100000 in
theorem join_0 (ls : List (List UInt8)) (h0 : ls.length = 0) : Meets Tryd.prog 38 [.dsl ls, .str [44]] [] (.str []) [] := by
 refine meets_of_ev (nt := 75) Tryd.func38 rfl rfl (Nat.le_of_ble_eq_true rfl) ?_
 refine .seq ?_
 refine .region ?_
 refine .q (op_assign rfl) trivial rfl ?_
 refine .nil ?_
 show Ev _ _ _ _ _
 refine .seq ?_
 refine .seq ?_
 refine .region ?_
 refine .q (op_move rfl) trivial rfl ?_
 refine .q (op_len_dsl Tryd.underlying23 rfl) trivial rfl ?_
 refine .nil ?_
 show Ev _ _ _ _ _
 refine .block ?_
 refine .seq ?_
 refine .region ?_
 refine .q (op_cmpI rfl rfl rfl) trivial rfl ?_
 refine .q (op_assign rfl) trivial rfl ?_
 refine .nil ?_
 show Ev _ _ _ _ _
 refine .cond_true rfl (decide_eq_true (by omega)) ?_
 refine .seq ?_
 refine .region ?_
 refine .q (op_assign rfl) trivial rfl ?_
 refine .nil ?_
 show Ev _ _ _ _ _
 refine .ret ?_
 show RetOk _ _ _ _ _ _ _
 exact ret1v rfl (.inl rfl) rfl rfl trivial
set_option maxRecDepth 100000 in
theorem join_1 (ls : List (List UInt8)) (h0 : ls.length = 1) : Meets Tryd.prog 38 [.dsl ls, .str [44]] [] (.str (ls.getD 0 [])) [] := by
 refine meets_of_ev (nt := 75) Tryd.func38 rfl rfl (Nat.le_of_ble_eq_true rfl) ?_
 refine .seq ?_
 refine .region ?_
 refine .q (op_assign rfl) trivial rfl ?_
 refine .nil ?_
 show Ev _ _ _ _ _
 refine .seq ?_
 refine .seq ?_
 refine .region ?_
 refine .q (op_move rfl) trivial rfl ?_
 refine .q (op_len_dsl Tryd.underlying23 rfl) trivial rfl ?_
 refine .nil ?_
 show Ev _ _ _ _ _
 refine .block ?_
 refine .seq ?_
 refine .region ?_
 refine .q (op_cmpI rfl rfl rfl) trivial rfl ?_
 refine .q (op_assign rfl) trivial rfl ?_
 refine .nil ?_
 show Ev _ _ _ _ _
 refine .cond_false rfl (decide_eq_false (by omega)) ?_
 refine .seq ?_
 refine .region ?_
 refine .q (op_cmpI rfl rfl rfl) trivial rfl ?_
 refine .q (op_assign rfl) trivial rfl ?_
 refine .nil ?_
 show Ev _ _ _ _ _
 refine .cond_true rfl (decide_eq_true (by omega)) ?_
 refine .seq ?_
 refine .region ?_
 refine .q (op_move rfl) trivial rfl ?_
 refine .q (op_indexAddr_dsl Tryd.underlying23 inf9.sz rfl rfl (i := 0) rfl (by first | omega | (simp only [AV.len]; omega) | (simp only [AV.len, List.length_set]; omega) | assumption | (simp [AV.len]; done))) trivial rfl ?_
 refine .q (op_load_dptr Tryd.underlying9 rfl rfl (drop_get (by omega))) trivial rfl ?_
 refine .q (op_assign rfl) trivial rfl ?_
 refine .nil ?_
 show Ev _ _ _ _ _
 refine .ret ?_
 show RetOk _ _ _ _ _ _ _
 exact ret1v rfl (.inl rfl) rfl rfl trivial
set_option maxRecDepth 100000 in
theorem join_2 (ls : List (List UInt8)) (h1 : ls.length ≤ 1000000) (h2 : sumB ls ≤ 1000000) (h0 : 2 ≤ ls.length) : Meets Tryd.prog 38 [.dsl ls, .str [44]] [] (.str (joinB ls)) [] := by
 have hst : sumB (ls.take ls.length) = sumB ls := by rw [List.take_length]
 have hjn2 := joinB_len ls
 have hg0 := getD_le_sumB ls 0
 refine meets_of_ev (nt := 75) Tryd.func38 rfl rfl (Nat.le_of_ble_eq_true rfl) ?_
 refine .seq ?_
 refine .region ?_
 refine .q (op_assign rfl) trivial rfl ?_
 refine .nil ?_
 show Ev _ _ _ _ _
 refine .seq ?_
 refine .seq ?_
 refine .region ?_
 refine .q (op_move rfl) trivial rfl ?_
 refine .q (op_len_dsl Tryd.underlying23 rfl) trivial rfl ?_
 refine .nil ?_
 show Ev _ _ _ _ _
 refine .block ?_
 refine .seq ?_
 refine .region ?_
 refine .q (op_cmpI rfl rfl rfl) trivial rfl ?_
 refine .q (op_assign rfl) trivial rfl ?_
 refine .nil ?_
 show Ev _ _ _ _ _
 refine .cond_false rfl (decide_eq_false (by omega)) ?_
 refine .seq ?_
 refine .region ?_
 refine .q (op_cmpI rfl rfl rfl) trivial rfl ?_
 refine .q (op_assign rfl) trivial rfl ?_
 refine .nil ?_
 show Ev _ _ _ _ _
 refine .cond_false rfl (decide_eq_false (by omega)) ?_
 refine .skip ?_
 show Ev _ _ _ _ _
 refine .seq ?_
 refine .region ?_
 refine .q (op_assign rfl) trivial rfl ?_
 refine .nil ?_
 show Ev _ _ _ _ _
 refine .seq ?_
 refine .seq ?_
 refine .region ?_
 refine .q (op_move rfl) trivial rfl ?_
 refine .q (op_len_str Tryd.underlying9 rfl) trivial rfl ?_
 refine .q (op_cmpI rfl rfl rfl) trivial rfl ?_
 refine .nil ?_
 show Ev _ _ _ _ _
 refine .cond_true rfl (rfl) ?_
 refine .seq ?_
 refine .seq ?_
 refine .region ?_
 refine .q (op_move rfl) trivial rfl ?_
 refine .q (op_len_str Tryd.underlying9 rfl) trivial rfl ?_
 refine .q (op_move rfl) trivial rfl ?_
 refine .q (op_len_dsl Tryd.underlying23 rfl) trivial rfl ?_
 refine .q (op_subI rfl rfl ⟨by omega, by omega⟩) trivial rfl ?_
 refine .as (.i64 ((ls.length - 1 : Nat) : Int)) (congrArg AV.i64 (by omega)) ?_
 refine .q (op_quoI rfl rfl ⟨by have hq := quo_ok (m := ls.length - 1) (by omega) (by omega); omega, ⟨by have hq := quo_ok (m := ls.length - 1) (by omega) (by omega); omega, by have hq := quo_ok (m := ls.length - 1) (by omega) (by omega); omega⟩, by have hq := quo_ok (m := ls.length - 1) (by omega) (by omega); omega⟩) trivial rfl ?_
 refine .q (op_cmpI rfl rfl rfl) trivial rfl ?_
 refine .nil ?_
 show Ev _ _ _ _ _
 refine .cond_false rfl (decide_eq_false (quo_ok (by omega) (by omega))) ?_
 refine .skip ?_
 show Ev _ _ _ _ _
 refine .region ?_
 refine .q (op_move rfl) trivial rfl ?_
 refine .q (op_move rfl) trivial rfl ?_
 refine .q (op_len_str Tryd.underlying9 rfl) trivial rfl ?_
 refine .q (op_move rfl) trivial rfl ?_
 refine .q (op_len_dsl Tryd.underlying23 rfl) trivial rfl ?_
 refine .q (op_subI rfl rfl ⟨by omega, by omega⟩) trivial rfl ?_
 refine .as (.i64 ((ls.length - 1 : Nat) : Int)) (congrArg AV.i64 (by omega)) ?_
 refine .q (op_mulI rfl rfl ⟨by simp only [List.length_cons, List.length_nil]; omega, by simp only [List.length_cons, List.length_nil]; omega⟩) trivial rfl ?_
 refine .q (op_addI rfl rfl ⟨by simp only [List.length_cons, List.length_nil]; omega, by simp only [List.length_cons, List.length_nil]; omega⟩) trivial rfl ?_
 refine .q (op_assign rfl) trivial rfl ?_
 refine .as (.i64 ((sumB (ls.take 0) + (ls.length - 1) : Nat) : Int)) (congrArg AV.i64 (by simp [sumB])) ?_
 refine .nil ?_
 show Ev _ _ _ _ _
 refine .seq ?_
 refine .seq ?_
 refine .region ?_
 refine .q (op_move rfl) trivial rfl ?_
 refine .q (op_len_dsl Tryd.underlying23 rfl) trivial rfl ?_
 refine .q (op_move rfl) trivial rfl ?_
 refine .nil ?_
 show Ev _ _ _ _ _
 refine .block ?_
 refine Ev.loop (ι := { k : Nat // k ≤ ls.length }) (fun q => ⟨[(0, .dsl ls), (1, .str [44]), (5, .i64 ((sumB (ls.take q.1) + (ls.length - 1) : Nat) : Int)), (39, .dsl ls), (40, .i64 ((ls.length : Nat) : Int)), (41, .i64 ((q.1 : Nat) : Int))], [], 1000⟩) (fun q => ls.length - q.1) ⟨0, Nat.zero_le _⟩ (StLe.mk [] rfl rfl ⟨⟨_, rfl, by first | rfl | (simp only [AV.ren]; congr 1; omega), rfl⟩, ⟨_, rfl, by first | rfl | (simp only [AV.ren]; congr 1; omega), rfl⟩, ⟨_, rfl, by first | rfl | (simp only [AV.ren]; congr 1; omega), rfl⟩, ⟨_, rfl, by first | rfl | (simp only [AV.ren]; congr 1; omega), rfl⟩, ⟨_, rfl, by first | rfl | (simp only [AV.ren]; congr 1; omega), rfl⟩, ⟨_, rfl, by first | rfl | (simp only [AV.ren]; congr 1; omega), rfl⟩, trivial⟩ trivial) ?_
 rintro ⟨k, hk⟩
 try dsimp only
 have hsk := sumB_take_le ls k
 have hgk := getD_le_sumB ls k
 refine .seq ?_
 refine .region ?_
 refine .q (op_cmpI rfl rfl rfl) trivial rfl ?_
 refine .nil ?_
 show Ev _ _ _ _ _
 refine .seq ?_
 refine .cond rfl (fun hc42 => ?_) (fun hc42 => ?_)
 ·simp only [decide_eq_true_eq] at hc42
  refine .skip ?_
  show Ev _ _ _ _ _
  refine .seq ?_
  refine .block ?_
  refine .seq ?_
  refine .region ?_
  have hlt : k < ls.length := by omega
  refine .q (op_indexAddr_dsl Tryd.underlying23 inf9.sz rfl rfl rfl (by first | omega | (simp only [AV.len]; omega) | (simp only [AV.len, List.length_set]; omega) | assumption | (simp [AV.len]; done))) trivial rfl ?_
  refine .q (op_load_dptr Tryd.underlying9 rfl rfl (drop_get (by omega))) trivial rfl ?_
  refine .q (op_assign rfl) trivial rfl ?_
  refine .nil ?_
  show Ev _ _ _ _ _
  refine .seq ?_
  refine .seq ?_
  refine .region ?_
  refine .q (op_move rfl) trivial rfl ?_
  refine .q (op_len_str Tryd.underlying9 rfl) trivial rfl ?_
  refine .q (op_move rfl) trivial rfl ?_
  refine .q (op_subI rfl rfl ⟨by omega, by omega⟩) trivial rfl ?_
  refine .q (op_cmpI rfl rfl rfl) trivial rfl ?_
  refine .nil ?_
  show Ev _ _ _ _ _
  refine .cond_false rfl (decide_eq_false (by omega)) ?_
  refine .skip ?_
  show Ev _ _ _ _ _
  refine .region ?_
  refine .q (op_move rfl) trivial rfl ?_
  refine .q (op_move rfl) trivial rfl ?_
  refine .q (op_len_str Tryd.underlying9 rfl) trivial rfl ?_
  refine .q (op_addI rfl rfl ⟨by omega, by omega⟩) trivial rfl ?_
  refine .q (op_assign rfl) trivial rfl ?_
  refine .nil ?_
  show Ev _ _ _ _ _
  refine .region ?_
  refine .q (op_addI rfl rfl ⟨by omega, by omega⟩) trivial rfl ?_
  refine .q (op_move rfl) trivial rfl ?_
  refine .nil ?_
  exact ⟨⟨k + 1, by omega⟩, by (try dsimp only); omega, StLe.mk [] rfl rfl ⟨⟨_, rfl, by rfl, rfl⟩, ⟨_, rfl, by rfl, rfl⟩, ⟨_, rfl, by (simp only [AV.ren]; rw [sumB_take hlt]; exact congrArg AV.i64 (by omega)), rfl⟩, ⟨_, rfl, by rfl, rfl⟩, ⟨_, rfl, by rfl, rfl⟩, ⟨_, rfl, by rfl, rfl⟩, trivial⟩ trivial⟩
 ·simp only [decide_eq_false_iff_not] at hc42
  refine .exit ?_
  show Ev _ _ _ _ _
  have ek : k = ls.length := by omega
  subst ek
  refine .seq ?_
  refine .region ?_
  refine .a (op_allocRow zero54 rel_zero54 rfl) trivial rfl ?_
  refine .nil ?_
  show Ev _ _ _ _ _
  refine .seq ?_
  refine .region ?_
  refine .q (op_move rfl) trivial rfl ?_
  refine .a (op_call (U := [(1000, some ⟨.agg [.ptr 1000 0, .sl 1008 0 (0) 1], 54, true⟩), (1008, some ⟨.aggB [], 5, true⟩)]) [(500, 1000)] [(1008, 1112)] (jGrow_ev (sumB (ls.take ls.length) + (ls.length - 1)) (by omega) (by omega)) Tryd.func60 (by kernel_rfl) rfl rfl rfl (⟨⟨_, rfl, rfl, rfl⟩, ⟨_, rfl, rfl, rfl⟩, trivial⟩) (⟨⟨_, _, rfl, rfl, rfl, rfl, id, rfl⟩, trivial⟩) (⟨⟨500, _, rfl, rfl, rfl, rfl, .inr ⟨rfl, _, rfl, rfl⟩⟩, ⟨1112, _, rfl, rfl, rfl, rfl, .inl rfl⟩, trivial⟩) (⟨(fun _ => ⟨1000, _, rfl, rfl⟩), trivial⟩) rfl) trivial rfl ?_
  refine .nil ?_
  show Ev _ _ _ _ _
  refine .seq ?_
  refine .region ?_
  refine .q (op_move rfl) trivial rfl ?_
  refine .q (op_indexAddr_dsl Tryd.underlying23 inf9.sz rfl rfl (i := 0) rfl (by first | omega | (simp only [AV.len]; omega) | (simp only [AV.len, List.length_set]; omega) | assumption | (simp [AV.len]; done))) trivial rfl ?_
  refine .q (op_load_dptr Tryd.underlying9 rfl rfl (drop_get (by omega))) trivial rfl ?_
  refine .a (op_call (U := [(1000, some ⟨.agg [.ptr 1000 0, .sl 1016 0 (0 + (ls.getD 0 []).length) 1], 54, true⟩), (1016, some ⟨.aggB ([] ++ (ls.getD 0 [])), 5, true⟩), (1008, none)]) [(500, 1000), (501, 1008)] [(1016, 1000)] (jws2_ev [] (0) (by first | rfl | exact hjn | (simp only [List.length_append, List.length_cons, List.length_nil]; done) | (simp only [List.length_append, List.length_cons, List.length_nil]; omega)) (by omega) (ls.getD 0 []) (by first | omega | decide)) Tryd.func61 (by kernel_rfl) rfl rfl rfl (⟨⟨_, rfl, rfl, rfl⟩, ⟨_, rfl, rfl, rfl⟩, trivial⟩) (⟨⟨_, _, rfl, rfl, rfl, rfl, id, rfl⟩, ⟨_, _, rfl, rfl, rfl, rfl, id, rfl⟩, trivial⟩) (⟨⟨500, _, rfl, rfl, rfl, rfl, .inr ⟨rfl, _, rfl, rfl⟩⟩, ⟨1000, _, rfl, rfl, rfl, rfl, .inl rfl⟩, trivial⟩) (⟨(fun _ => ⟨1000, _, rfl, rfl⟩), (fun _ => ⟨1008, _, rfl, rfl⟩), trivial⟩) rfl) trivial rfl ?_
  refine .nil ?_
  show Ev _ _ _ _ _
  refine .seq ?_
  refine .seq ?_
  refine .region ?_
  refine .q (op_move rfl) trivial rfl ?_
  refine .q (op_slice_dsl Tryd.underlying23 inf9.sz rfl (bnd_some rfl (l := 1) rfl) rfl (by first | omega | (simp only [AV.len]; omega) | (simp only [AV.len, List.length_set]; omega) | assumption | (simp [AV.len]; done)) (by first | omega | (simp only [AV.len]; omega) | (simp only [AV.len, List.length_set]; omega) | assumption | (simp [AV.len]; done)) (by first | omega | (simp only [AV.len]; omega) | (simp only [AV.len, List.length_set]; omega) | assumption | (simp [AV.len]; done))) trivial rfl ?_
  refine .as (.dsl ((ls.drop 1).take (ls.length - 1))) rfl ?_
  refine .q (op_len_dsl Tryd.underlying23 rfl) trivial rfl ?_
  refine .as (.i64 ((ls.length - 1 : Nat) : Int)) (congrArg AV.i64 (by rw [List.length_take, List.length_drop]; omega)) ?_
  refine .q (op_move rfl) trivial rfl ?_
  refine .nil ?_
  show Ev _ _ _ _ _
  refine .block ?_
  refine Ev.loop (ι := { k : Nat // k < ls.length }) (fun k => ⟨[(1, .str [44]), (8, .ptr 1000 0), (63, .dsl ((ls.drop 1).take (ls.length - 1))), (64, .i64 ((ls.length - 1 : Nat) : Int)), (65, .i64 ((k.1 : Nat) : Int))], [(1000, some ⟨.agg [.ptr 1000 0, .sl 1024 0 ((joinB (ls.take (k.1 + 1))).length) 1], 54, true⟩), (1024, some ⟨.aggB (joinB (ls.take (k.1 + 1))), 5, true⟩)], 1032⟩) (fun k => ls.length - k.1) ⟨0, by omega⟩ (StLe.mk [(1000, 1000), (1024, 1016)] rfl rfl ⟨⟨_, rfl, by first | rfl | (simp only [AV.ren]; congr 1; omega), rfl⟩, ⟨_, rfl, by first | rfl | (simp only [AV.ren]; congr 1; omega), rfl⟩, ⟨_, rfl, by first | rfl | (simp only [AV.ren]; congr 1; omega), rfl⟩, ⟨_, rfl, by first | rfl | (simp only [AV.ren]; congr 1; omega), rfl⟩, ⟨_, rfl, by first | rfl | (simp only [AV.ren]; congr 1; omega), rfl⟩, trivial⟩ ⟨⟨_, _, rfl, rfl, by (simp only [AV.ren, AV.renL]; rw [joinB_take1 (by omega), Nat.zero_add]; rfl), rfl, id, rfl⟩, ⟨_, _, rfl, rfl, by (rw [joinB_take1 (by omega)]; rfl), rfl, id, rfl⟩, trivial⟩) ?_
  rintro ⟨k, hk⟩
  try dsimp only
  have hjn : (joinB (ls.take (k + 1))).length = (joinB (ls.take (k + 1))).length := rfl
  have hjl := joinB_take_le ls (k + 1)
  have hgk := getD_le_sumB ls (k + 1)
  refine .seq ?_
  refine .region ?_
  refine .q (op_cmpI rfl rfl rfl) trivial rfl ?_
  refine .nil ?_
  show Ev _ _ _ _ _
  refine .seq ?_
  refine .cond rfl (fun hc66 => ?_) (fun hc66 => ?_)
  ·simp only [decide_eq_true_eq] at hc66
   refine .skip ?_
   show Ev _ _ _ _ _
   refine .seq ?_
   refine .block ?_
   refine .seq ?_
   refine .region ?_
   have hlt : k + 1 < ls.length := by omega
   refine .q (op_indexAddr_dsl Tryd.underlying23 inf9.sz rfl rfl rfl (by rw [List.length_take, List.length_drop]; omega)) trivial rfl ?_
   refine .q (op_load_dptr Tryd.underlying9 rfl rfl (drop_get1 hlt)) trivial rfl ?_
   refine .q (op_assign rfl) trivial rfl ?_
   refine .nil ?_
   show Ev _ _ _ _ _
   refine .seq ?_
   refine .region ?_
   refine .q (op_move rfl) trivial rfl ?_
   refine .a (op_call (U := [(1000, some ⟨.agg [.ptr 1000 0, .sl 1032 0 ((joinB (ls.take (k + 1))).length + 1) 1], 54, true⟩), (1032, some ⟨.aggB ((joinB (ls.take (k + 1))) ++ [44]), 5, true⟩), (1024, none)]) [(500, 1000), (501, 1024)] [(1032, 1000)] (jws2_ev (joinB (ls.take (k + 1))) ((joinB (ls.take (k + 1))).length) (by first | rfl | exact hjn | (simp only [List.length_append, List.length_cons, List.length_nil]; done) | (simp only [List.length_append, List.length_cons, List.length_nil]; omega)) (by omega) [44] (by first | omega | decide)) Tryd.func61 (by kernel_rfl) rfl rfl rfl (⟨⟨_, rfl, rfl, rfl⟩, ⟨_, rfl, rfl, rfl⟩, trivial⟩) (⟨⟨_, _, rfl, rfl, rfl, rfl, id, rfl⟩, ⟨_, _, rfl, rfl, rfl, rfl, id, rfl⟩, trivial⟩) (⟨⟨500, _, rfl, rfl, rfl, rfl, .inr ⟨rfl, _, rfl, rfl⟩⟩, ⟨1000, _, rfl, rfl, rfl, rfl, .inl rfl⟩, trivial⟩) (⟨(fun _ => ⟨1000, _, rfl, rfl⟩), (fun _ => ⟨1024, _, rfl, rfl⟩), trivial⟩) rfl) trivial rfl ?_
   refine .nil ?_
   show Ev _ _ _ _ _
   refine .region ?_
   refine .q (op_move rfl) trivial rfl ?_
   refine .a (op_call (U := [(1000, some ⟨.agg [.ptr 1000 0, .sl 1040 0 ((joinB (ls.take (k + 1))).length + 1 + (ls.getD (k + 1) []).length) 1], 54, true⟩), (1040, some ⟨.aggB (((joinB (ls.take (k + 1))) ++ [44]) ++ (ls.getD (k + 1) [])), 5, true⟩), (1032, none)]) [(500, 1000), (501, 1032)] [(1040, 1000)] (jws2_ev ((joinB (ls.take (k + 1))) ++ [44]) ((joinB (ls.take (k + 1))).length + 1) (by first | rfl | exact hjn | (simp only [List.length_append, List.length_cons, List.length_nil]; done) | (simp only [List.length_append, List.length_cons, List.length_nil]; omega)) (by omega) (ls.getD (k + 1) []) (by first | omega | decide)) Tryd.func61 (by kernel_rfl) rfl rfl rfl (⟨⟨_, rfl, rfl, rfl⟩, ⟨_, rfl, rfl, rfl⟩, trivial⟩) (⟨⟨_, _, rfl, rfl, rfl, rfl, id, rfl⟩, ⟨_, _, rfl, rfl, rfl, rfl, id, rfl⟩, trivial⟩) (⟨⟨500, _, rfl, rfl, rfl, rfl, .inr ⟨rfl, _, rfl, rfl⟩⟩, ⟨1000, _, rfl, rfl, rfl, rfl, .inl rfl⟩, trivial⟩) (⟨(fun _ => ⟨1000, _, rfl, rfl⟩), (fun _ => ⟨1032, _, rfl, rfl⟩), trivial⟩) rfl) trivial rfl ?_
   refine .nil ?_
   show Ev _ _ _ _ _
   refine .region ?_
   refine .q (op_addI rfl rfl ⟨by omega, by omega⟩) trivial rfl ?_
   refine .q (op_move rfl) trivial rfl ?_
   refine .nil ?_
   exact ⟨⟨k + 1, by omega⟩, by show ls.length - (k + 1) < ls.length - k; omega, StLe.mk [(1000, 1000), (1024, 1040)] rfl rfl ⟨⟨_, rfl, by first | rfl | (simp only [AV.ren]; congr 1; omega), rfl⟩, ⟨_, rfl, by first | rfl | (simp only [AV.ren]; congr 1; omega), rfl⟩, ⟨_, rfl, by first | rfl | (simp only [AV.ren]; congr 1; omega), rfl⟩, ⟨_, rfl, by first | rfl | (simp only [AV.ren]; congr 1; omega), rfl⟩, ⟨_, rfl, by first | rfl | (simp only [AV.ren]; congr 1; omega), rfl⟩, trivial⟩ ⟨⟨_, _, rfl, rfl, by (simp only [AV.ren, AV.renL]; rw [joinB_take_s hlt]; simp only [List.length_append, List.length_cons, List.length_nil]; rfl), rfl, id, rfl⟩, ⟨_, _, rfl, rfl, by (rw [joinB_take_s hlt]; rfl), rfl, id, rfl⟩, trivial⟩⟩
  ·simp only [decide_eq_false_iff_not] at hc66
   refine .exit ?_
   show Ev _ _ _ _ _
   have ek : k + 1 = ls.length := by omega
   refine Ev.weak (st2 := ⟨[(8, .ptr 1000 0)], [(1000, some ⟨.agg [.ptr 1000 0, .sl 1024 0 ((joinB ls).length) 1], 54, true⟩), (1024, some ⟨.aggB (joinB ls), 5, true⟩)], 1032⟩) (StLe.mk [(1000, 1000), (1024, 1024)] rfl rfl ⟨⟨_, rfl, by first | rfl | (simp only [AV.ren]; congr 1; omega), rfl⟩, trivial⟩ ⟨⟨_, _, rfl, rfl, by (simp only [AV.ren, AV.renL]; rw [ek, List.take_length]; rfl), rfl, id, rfl⟩, ⟨_, _, rfl, rfl, by (rw [ek, List.take_length]; rfl), rfl, id, rfl⟩, trivial⟩) ?_
   show Ev _ _ _ _ _
   refine .seq ?_
   refine .region ?_
   refine .a (op_call (U := [(1024, some ⟨.aggB (joinB ls), (frz + 5), false⟩)]) [(500, 1000), (501, 1024)] [] (jst2_ev (joinB ls) (joinB ls).length rfl (by omega) (by omega)) Tryd.func48 (by kernel_rfl) rfl rfl rfl (⟨⟨_, rfl, rfl, rfl⟩, trivial⟩) (⟨⟨_, _, rfl, rfl, rfl, rfl, (fun h => by cases h), rfl⟩, ⟨_, _, rfl, rfl, rfl, rfl, id, rfl⟩, trivial⟩) (⟨⟨501, _, rfl, rfl, rfl, rfl, .inr ⟨rfl, _, rfl, rfl⟩⟩, trivial⟩) (⟨(fun h => by cases h), (fun _ => ⟨1024, _, rfl, rfl⟩), trivial⟩) rfl) trivial rfl ?_
   refine .q (op_assign rfl) trivial rfl ?_
   refine .nil ?_
   show Ev _ _ _ _ _
   refine .ret ?_
   show RetOk _ _ _ _ _ _ _
   exact ret1v rfl (.inl rfl) rfl rfl trivial
theorem join_ev (ls : List (List UInt8)) (h1 : ls.length ≤ 1000000) (h2 : sumB ls ≤ 1000000) : Meets Tryd.prog 38 [.dsl ls, .str [44]] [] (.str (joinB ls)) [] := by
 rcases Nat.lt_or_ge ls.length 2 with h | h
 ·rcases Nat.lt_or_ge ls.length 1 with h3 | h3
  ·have e : ls = [] := List.eq_nil_of_length_eq_zero (by omega)
   have := join_0 ls (by omega)
   rw [e] at this ⊢; exact this
  ·have := join_1 ls (by omega)
   rwa [show ls.getD 0 [] = joinB ls by
    match ls, h, h3 with
    | [x], _, _ => exact (joinB_one x).symm] at this
 ·exact join_2 ls h1 h2 h
end Go.Proofs.YtenocbhlbgcnfaaDoor
namespace Go.Proofs.YtenocbhlbgcnfaaDoor
open Go.RowKit
def dvB (x : UInt64) : Nat → UInt64
  | 0 => x
  | k + 1 => dvB x k / 256
/-- The last k bytes of a number. -/
def tlB (x : UInt64) : Nat → List UInt8
  | 0 => []
  | k + 1 => (dvB x k % 256).toUInt8 :: tlB x k
theorem length_tlB (x : UInt64) (k : Nat) : (tlB x k).length = k := by induction k with | zero => rfl | succ k ih => simp [tlB, ih]
set_option maxRecDepth 100000 in
theorem rnumB_ev (x : UInt64) (n : Nat) (hn : n ≤ 1000000) : Meets Tryd.prog 26 [.u64 x, .i64 (n : Int)] [] (.str (tlB x n)) [] := by
 refine meets_of_ev (nt := 23) Tryd.func26 rfl rfl (Nat.le_of_ble_eq_true rfl) ?_
 refine .seq ?_
 refine .region ?_
 refine .q (op_assign rfl) trivial rfl ?_
 refine .nil ?_
 show Ev _ _ _ _ _
 refine .seq ?_
 refine .region ?_
 refine .a (ap_build0 (z := 1) (c := .aggB []) Tryd.underlying52 inf5 rfl) trivial rfl ?_
 refine .q (op_assign rfl) trivial rfl ?_
 refine .nil ?_
 show Ev _ _ _ _ _
 refine .seq ?_
 refine .seq ?_
 refine .region ?_
 refine .q (op_assign rfl) trivial rfl ?_
 refine .nil ?_
 show Ev _ _ _ _ _
 refine .block ?_
 refine Ev.loop (ι := { k : Nat // k ≤ n }) (fun q => ⟨[(0, .u64 (dvB x q.1)), (1, .i64 (n : Int)), (5, .sl 1000 0 q.1 1), (6, .i64 ((q.1 : Nat) : Int))], [(1000, some ⟨.aggB (tlB x q.1), 5, true⟩)], 1008⟩) (fun q => n - q.1) ⟨0, Nat.zero_le _⟩ (StLe.mk [(1000, 1000)] rfl rfl ⟨⟨_, rfl, by first | rfl | (simp only [AV.ren]; congr 1; omega), rfl⟩, ⟨_, rfl, by first | rfl | (simp only [AV.ren]; congr 1; omega), rfl⟩, ⟨_, rfl, by first | rfl | (simp only [AV.ren]; congr 1; omega), rfl⟩, ⟨_, rfl, by first | rfl | (simp only [AV.ren]; congr 1; omega), rfl⟩, trivial⟩ ⟨⟨_, _, rfl, rfl, rfl, rfl, id, rfl⟩, trivial⟩) ?_
 rintro ⟨k, hk⟩
 try dsimp only
 have hl := length_tlB x k
 refine .seq ?_
 refine .seq ?_
 refine .region ?_
 refine .q (op_move rfl) trivial rfl ?_
 refine .q (op_move rfl) trivial rfl ?_
 refine .q (op_cmpI rfl rfl rfl) trivial rfl ?_
 refine .nil ?_
 show Ev _ _ _ _ _
 refine .cond rfl (fun hc10 => ?_) (fun hc10 => ?_)
 ·simp only [decide_eq_true_eq] at hc10
  refine .skip ?_
  show Ev _ _ _ _ _
  refine .seq ?_
  refine .block ?_
  refine .seq ?_
  refine .region ?_
  refine .q (op_move rfl) trivial rfl ?_
  refine .q (op_rem64 rfl rfl (by decide)) trivial rfl ?_
  refine .q (op_conv Tryd.underlying62 Tryd.underlying5 rfl rfl) trivial rfl ?_
  refine .a (ap_build (us := [_]) (c := .aggB [_]) Tryd.underlying52 inf5 rfl (by decide) (by decide) ⟨rfl, rfl, rfl, trivial⟩ rfl) trivial rfl ?_
  refine .q (op_move rfl) trivial rfl ?_
  refine .a (ap_cat Tryd.underlying52 inf5 rfl rfl rfl rfl (by first | rfl | omega | (simp only [AV.len, List.length_cons, List.length_nil, length_tlB]; done) | (simp only [AV.len, List.length_cons, List.length_nil, length_tlB]; omega)) rfl rfl (by first | rfl | omega | (simp only [AV.len, length_tlB]; done) | (simp only [AV.len, List.length_cons, List.length_nil, length_tlB]; omega)) rfl (by first | rfl | omega | (simp only [AV.len, List.length_cons, List.length_nil, length_tlB]; done) | (simp only [AV.len, List.length_cons, List.length_nil, length_tlB]; omega))) trivial rfl ?_
  refine .q (op_assign rfl) trivial rfl ?_
  refine .nil ?_
  show Ev _ _ _ _ _
  refine .region ?_
  refine .q (op_move rfl) trivial rfl ?_
  refine .q (op_quo64 rfl rfl (by decide)) trivial rfl ?_
  refine .q (op_assign rfl) trivial rfl ?_
  refine .nil ?_
  show Ev _ _ _ _ _
  refine .region ?_
  refine .q (op_move rfl) trivial rfl ?_
  refine .q (op_addI rfl rfl ⟨by omega, by omega⟩) trivial rfl ?_
  refine .q (op_assign rfl) trivial rfl ?_
  refine .nil ?_
  exact ⟨⟨k + 1, by omega⟩, by (try dsimp only); omega, StLe.mk [(1000, 1016)] rfl rfl ⟨⟨_, rfl, by rfl, rfl⟩, ⟨_, rfl, by rfl, rfl⟩, ⟨_, rfl, by (exact congrArg (fun z => AV.sl 1000 0 z 1) (by simp only [List.length_cons, List.length_nil, length_tlB]; omega)), rfl⟩, ⟨_, rfl, by rfl, rfl⟩, trivial⟩ ⟨⟨_, _, rfl, rfl, rfl, rfl, id, rfl⟩, trivial⟩⟩
 ·simp only [decide_eq_false_iff_not] at hc10
  refine .exit ?_
  show Ev _ _ _ _ _
  refine .seq ?_
  refine .region ?_
  refine .q (op_move rfl) trivial rfl ?_
  refine .q (op_bytes_str Tryd.underlying52 Tryd.underlying5 Tryd.underlying9 rfl rfl rfl (by rw [length_tlB]; omega)) trivial rfl ?_
  refine .q (op_assign rfl) trivial rfl ?_
  refine .nil ?_
  show Ev _ _ _ _ _
  refine .ret ?_
  show RetOk _ _ _ _ _ _ _
  have e : k = n := by omega
  subst e
  exact ret1v rfl (.inl rfl) rfl (by rw [List.drop_zero, List.take_of_length_le (by rw [length_tlB]; omega)]) trivial
def lenR (s : List UInt8) : List UInt8 := tlB (UInt64.ofInt (s.length : Int)) 4
def textR (s : List UInt8) : List UInt8 := lenR s ++ s
set_option maxRecDepth 100000 in
theorem rtextB_ev (s : List UInt8) (hs : s.length ≤ 1000000) : Meets Tryd.prog 27 [.str s] [] (.str (textR s)) [] := by
 refine meets_of_ev (nt := 9) Tryd.func27 rfl rfl (Nat.le_of_ble_eq_true rfl) ?_
 refine .seq ?_
 refine .region ?_
 refine .q (op_assign rfl) trivial rfl ?_
 refine .nil ?_
 show Ev _ _ _ _ _
 refine .seq ?_
 refine .region ?_
 refine .q (op_move rfl) trivial rfl ?_
 refine .q (op_len_str Tryd.underlying9 rfl) trivial rfl ?_
 refine .q (op_conv Tryd.underlying3 Tryd.underlying62 rfl rfl) trivial rfl ?_
 refine .q (op_call (U := []) [] [] (rnumB_ev _ 4 (by decide)) Tryd.func26 (by kernel_rfl) rfl rfl rfl (⟨⟨_, rfl, rfl, rfl⟩, ⟨_, rfl, rfl, rfl⟩, trivial⟩) (trivial) (trivial) (trivial) rfl) trivial rfl ?_
 refine .q (op_move rfl) trivial rfl ?_
 refine .q (op_addS rfl rfl (by simp only [length_tlB]; omega)) trivial rfl ?_
 refine .q (op_assign rfl) trivial rfl ?_
 refine .nil ?_
 show Ev _ _ _ _ _
 refine .ret ?_
 show RetOk _ _ _ _ _ _ _
 exact ret1v rfl (.inl rfl) rfl rfl trivial
end Go.Proofs.YtenocbhlbgcnfaaDoor
namespace Go.Proofs.YtenocbhlbgcnfaaDoor
open Go.RowKit
/-- What is not known, then the cells. -/
def offC (o : Nat) (cs : List AV) : List AV := List.replicate o .hole ++ cs
/-- A cell that names no block. -/
def AV.flatV : AV → Bool
  | .u8 _ | .u32 _ | .u64 _ | .i64 _ | .bool _ | .str _ | .hole | .dsl _ => true
  | _ => false
/-- Rows of the elements of a list, one behind the other. -/
def rowsC {α : Type} (f : α → List AV) (l : List α) : List AV := l.flatMap f
section
variable {α : Type} {f : α → List AV} {z : Nat}
end
end Go.Proofs.YtenocbhlbgcnfaaDoor
namespace Go.Proofs.YtenocbhlbgcnfaaDoor
open Go.RowKit
def namesB (l : List (List UInt8)) : List UInt8 := textB (joinB l)
theorem length_namesB (l : List (List UInt8)) : (namesB l).length = 4 + (joinB l).length := length_textB _
theorem low_byte {x y : UInt64} {k : Nat} (hk : k < 8) (h : x.toNat / 2 ^ (8 * k) % 256 = y.toNat / 2 ^ (8 * k) % 256) : (dvB x k % 256).toUInt8 = (y >>> UInt64.ofNat (8 * k)).toUInt8 := by
  have hd : ∀ k, (dvB x k).toNat = x.toNat / 2 ^ (8 * k) := by
    intro k
    induction k with
    | zero => simp [dvB]
    | succ k ih =>
      show (dvB x k / 256).toNat = _
      rw [UInt64.toNat_div, ih, show 8 * (k + 1) = 8 * k + 8 by omega, Nat.pow_add, ← Nat.div_div_eq_div_mul]; rfl
  apply UInt8.toNat_inj.1
  rw [UInt64.toNat_toUInt8, UInt64.toNat_toUInt8, UInt64.toNat_shiftRight, UInt64.toNat_ofNat_of_lt' (show 8 * k < 2 ^ 64 by omega), Nat.mod_eq_of_lt (show 8 * k < 64 by omega), Nat.shiftRight_eq_div_pow, UInt64.toNat_mod, hd]
  have e : (256 : UInt64).toNat = 256 := rfl
  rw [e]
  omega
theorem tl_num4 {x y : UInt64} (h : y.toNat = x.toNat % 4294967296) : tlB x 4 = numB y 4 4 := by
  have k0 := low_byte (x := x) (y := y) (k := 0) (by decide) (by rw [h]; show x.toNat / 1 % 256 = x.toNat % 4294967296 / 1 % 256; omega)
  have k1 := low_byte (x := x) (y := y) (k := 1) (by decide) (by rw [h]; show x.toNat / 256 % 256 = x.toNat % 4294967296 / 256 % 256; omega)
  have k2 := low_byte (x := x) (y := y) (k := 2) (by decide) (by rw [h]; show x.toNat / 65536 % 256 = x.toNat % 4294967296 / 65536 % 256; omega)
  have k3 := low_byte (x := x) (y := y) (k := 3) (by decide) (by rw [h]; show x.toNat / 16777216 % 256 = x.toNat % 4294967296 / 16777216 % 256; omega)
  simp only [tlB, k0, k1, k2, k3]
  rfl
theorem textR_eq {s : List UInt8} (hs : s.length ≤ 1000000000) : textR s = textB s := by
  unfold textR textB lenR lenB
  rw [tl_num4 (y := (ofI32 (s.length : Int)).toUInt64) (by
    rw [UInt32.toNat_toUInt64]
    have h2 := ofI32_toNat (s.length : Int)
    have h1 := ofI64_toNat (s.length : Int)
    have h3 : (UInt64.ofInt (s.length : Int)).toNat = s.length := by
      have : (ofI64 (s.length : Int)) = UInt64.ofInt (s.length : Int) := rfl
      rw [← this]; omega
    rw [h3]; omega)]
set_option maxRecDepth 100000 in
theorem names2_ev (ls : List (List UInt8)) (h1 : ls.length ≤ 1000000) (h2 : sumB ls ≤ 1000000) (l : List UInt8) (n : Nat) (hn : n = l.length) (h : n ≤ 500000000) : Meets Tryd.prog 44 [.ptr 500 0, .dsl ls] [(500, some ⟨.agg [.ptr 500 0, .sl 501 0 (n) 1], 56, true⟩), (501, some ⟨.aggB l, 5, true⟩)] (.ptr 500 0) [(500, some ⟨.agg [.ptr 500 0, .sl 1000 0 (n + (4 + (joinB ls).length)) 1], 56, true⟩), (1000, some ⟨.aggB (l ++ namesB ls), 5, true⟩)] := by
 have hjn2 := joinB_len ls
 refine meets_of_ev (nt := 9) Tryd.func44 rfl rfl (Nat.le_of_ble_eq_true rfl) ?_
 refine .seq ?_
 refine .region ?_
 refine .q (op_assign rfl) trivial rfl ?_
 refine .nil ?_
 show Ev _ _ _ _ _
 refine .seq ?_
 refine .region ?_
 refine .q (op_move rfl) trivial rfl ?_
 refine .q (op_move rfl) trivial rfl ?_
 refine .q (op_call (U := []) [] [] (join_ev ls h1 h2) Tryd.func38 (by kernel_rfl) rfl rfl rfl (⟨⟨_, rfl, rfl, rfl⟩, ⟨_, rfl, rfl, rfl⟩, trivial⟩) (trivial) (trivial) (trivial) rfl) trivial rfl ?_
 refine .a (op_call (U := [(500, some ⟨.agg [.ptr 500 0, .sl 1000 0 (n + (4 + (joinB ls).length)) 1], 56, true⟩), (1000, some ⟨.aggB (l ++ namesB ls), 5, true⟩), (501, none)]) [(500, 500), (501, 501)] [(1000, 1008)] (text2_ev (joinB ls) (by omega) (l) (n) (by first | exact hn | (simp [length_numB, length_lenB, length_textB]; done) | (simp [length_numB, length_lenB, length_textB]; omega) | omega | decide +kernel) (by omega)) Tryd.func64 (by kernel_rfl) rfl rfl rfl (⟨⟨_, rfl, rfl, rfl⟩, ⟨_, rfl, rfl, rfl⟩, trivial⟩) (⟨⟨_, _, rfl, rfl, rfl, rfl, id, rfl⟩, ⟨_, _, rfl, rfl, rfl, rfl, id, rfl⟩, trivial⟩) (⟨⟨500, _, rfl, rfl, rfl, rfl, .inr ⟨rfl, _, rfl, rfl⟩⟩, ⟨1008, _, rfl, rfl, rfl, rfl, .inl rfl⟩, trivial⟩) (⟨(fun _ => ⟨500, _, rfl, rfl⟩), (fun _ => ⟨501, _, rfl, rfl⟩), trivial⟩) rfl) trivial rfl ?_
 refine .q (op_assign rfl) trivial rfl ?_
 refine .nil ?_
 show Ev _ _ _ _ _
 refine .ret ?_
 show RetOk _ _ _ _ _ _ _
 exact ret1v rfl (.inl rfl) rfl rfl ⟨(by first | rfl | (simp only [List.append_assoc, Nat.add_assoc, textB, bigB]; rfl)), (by first | rfl | (simp only [List.append_assoc, Nat.add_assoc, textB, bigB]; rfl)), trivial⟩
set_option maxRecDepth 100000 in
theorem rnamesB_ev (ls : List (List UInt8)) (h1 : ls.length ≤ 100000) (h2 : sumB ls ≤ 100000) : Meets Tryd.prog 22 [.dsl ls] [] (.str (namesB ls)) [] := by
 have hjf := joinB_take_le ls ls.length
 have hjg := joinB_len ls
 refine meets_of_ev (nt := 23) Tryd.func22 rfl rfl (Nat.le_of_ble_eq_true rfl) ?_
 refine .seq ?_
 refine .region ?_
 refine .q (op_assign rfl) trivial rfl ?_
 refine .nil ?_
 show Ev _ _ _ _ _
 refine .seq ?_
 refine .region ?_
 refine .q (op_assign rfl) trivial rfl ?_
 refine .nil ?_
 show Ev _ _ _ _ _
 refine .seq ?_
 refine .seq ?_
 refine .region ?_
 refine .q (op_move rfl) trivial rfl ?_
 refine .q (op_len_dsl Tryd.underlying23 rfl) trivial rfl ?_
 refine .q (op_move rfl) trivial rfl ?_
 refine .nil ?_
 show Ev _ _ _ _ _
 refine .block ?_
 refine Ev.loop (ι := { k : Nat // k ≤ ls.length }) (fun q => ⟨[(3, .str (joinB (ls.take q.1))), (6, .dsl ls), (7, .i64 ((ls.length : Nat) : Int)), (8, .i64 ((q.1 : Nat) : Int))], [], 1000⟩) (fun q => ls.length - q.1) ⟨0, Nat.zero_le _⟩ (StLe.mk [] rfl rfl ⟨⟨_, rfl, by first | rfl | (simp only [AV.ren]; congr 1; omega), rfl⟩, ⟨_, rfl, by first | rfl | (simp only [AV.ren]; congr 1; omega), rfl⟩, ⟨_, rfl, by first | rfl | (simp only [AV.ren]; congr 1; omega), rfl⟩, ⟨_, rfl, by first | rfl | (simp only [AV.ren]; congr 1; omega), rfl⟩, trivial⟩ trivial) ?_
 rintro ⟨k, hk⟩
 try dsimp only
 have hjl := joinB_take_le ls k
 have hgk := getD_le_sumB ls k
 refine .seq ?_
 refine .region ?_
 refine .q (op_cmpI rfl rfl rfl) trivial rfl ?_
 refine .nil ?_
 show Ev _ _ _ _ _
 refine .seq ?_
 refine .cond rfl (fun hc9 => ?_) (fun hc9 => ?_)
 ·simp only [decide_eq_true_eq] at hc9
  refine .skip ?_
  show Ev _ _ _ _ _
  refine .seq ?_
  refine .block ?_
  refine .seq ?_
  refine .region ?_
  have hlt : k < ls.length := by omega
  refine .q (op_move rfl) trivial rfl ?_
  refine .q (op_indexAddr_dsl Tryd.underlying23 inf9.sz rfl rfl rfl (by first | omega | (simp only [AV.len]; omega) | (simp only [AV.len, List.length_set]; omega) | assumption | (simp [AV.len]; done))) trivial rfl ?_
  refine .q (op_load_dptr Tryd.underlying9 rfl rfl (drop_get (by omega))) trivial rfl ?_
  refine .q (op_assign rfl) trivial rfl ?_
  refine .q (op_assign rfl) trivial rfl ?_
  refine .nil ?_
  show Ev _ _ _ _ _
  refine .seq ?_
  refine .seq ?_
  refine .region ?_
  refine .q (op_move rfl) trivial rfl ?_
  refine .q (op_cmpI rfl rfl rfl) trivial rfl ?_
  refine .nil ?_
  show Ev _ _ _ _ _
  refine .cond rfl (fun hc14 => ?_) (fun hc14 => ?_)
  ·simp only [decide_eq_true_eq] at hc14
   refine .region ?_
   refine .q (op_move rfl) trivial rfl ?_
   refine .q (op_addS rfl rfl (by simp only [List.length_cons, List.length_nil]; omega)) trivial rfl ?_
   refine .q (op_assign rfl) trivial rfl ?_
   refine .nil ?_
   show Ev _ _ _ _ _
   refine .region ?_
   refine .q (op_move rfl) trivial rfl ?_
   refine .q (op_move rfl) trivial rfl ?_
   refine .q (op_addS rfl rfl (by first | omega | (simp only [List.length_append, List.length_cons, List.length_nil]; omega))) trivial rfl ?_
   refine .q (op_assign rfl) trivial rfl ?_
   refine .nil ?_
   show Ev _ _ _ _ _
   refine .region ?_
   refine .q (op_addI rfl rfl ⟨by omega, by omega⟩) trivial rfl ?_
   refine .q (op_move rfl) trivial rfl ?_
   refine .nil ?_
   exact ⟨⟨k + 1, by omega⟩, by (try dsimp only); omega, StLe.mk [] rfl rfl ⟨⟨_, rfl, by (simp only [AV.ren]; rw [joinB_take hlt]; first | (rw [if_neg (by omega)]; done) | (rw [if_pos (by omega), List.append_nil]; done)), rfl⟩, ⟨_, rfl, by rfl, rfl⟩, ⟨_, rfl, by rfl, rfl⟩, ⟨_, rfl, by rfl, rfl⟩, trivial⟩ trivial⟩
  ·simp only [decide_eq_false_iff_not] at hc14
   refine .skip ?_
   show Ev _ _ _ _ _
   refine .region ?_
   refine .q (op_move rfl) trivial rfl ?_
   refine .q (op_move rfl) trivial rfl ?_
   refine .q (op_addS rfl rfl (by first | omega | (simp only [List.length_append, List.length_cons, List.length_nil]; omega))) trivial rfl ?_
   refine .q (op_assign rfl) trivial rfl ?_
   refine .nil ?_
   show Ev _ _ _ _ _
   refine .region ?_
   refine .q (op_addI rfl rfl ⟨by omega, by omega⟩) trivial rfl ?_
   refine .q (op_move rfl) trivial rfl ?_
   refine .nil ?_
   exact ⟨⟨k + 1, by omega⟩, by (try dsimp only); omega, StLe.mk [] rfl rfl ⟨⟨_, rfl, by (simp only [AV.ren]; rw [joinB_take hlt]; first | (rw [if_neg (by omega)]; done) | (rw [if_pos (by omega), List.append_nil]; done)), rfl⟩, ⟨_, rfl, by rfl, rfl⟩, ⟨_, rfl, by rfl, rfl⟩, ⟨_, rfl, by rfl, rfl⟩, trivial⟩ trivial⟩
 ·simp only [decide_eq_false_iff_not] at hc9
  refine .exit ?_
  show Ev _ _ _ _ _
  have ek : k = ls.length := by omega
  subst ek
  refine .seq ?_
  refine .region ?_
  refine .q (op_move rfl) trivial rfl ?_
  refine .q (op_call (U := []) [] [] (rtextB_ev (joinB (ls.take ls.length)) (by omega)) Tryd.func27 (by kernel_rfl) rfl rfl rfl (⟨⟨_, rfl, rfl, rfl⟩, trivial⟩) (trivial) (trivial) (trivial) rfl) trivial rfl ?_
  refine .q (op_assign rfl) trivial rfl ?_
  refine .nil ?_
  show Ev _ _ _ _ _
  refine .ret ?_
  show RetOk _ _ _ _ _ _ _
  exact ret1v rfl (.inl rfl) rfl (congrArg AV.str (by rw [List.take_length, textR_eq (by omega)]; rfl)) trivial
end Go.Proofs.YtenocbhlbgcnfaaDoor
