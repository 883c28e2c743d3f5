/-
  Fields, equal rows, and the types of the program.
-/
import Derived.ChangeKeysEq
import Derived.Test.YtjhpelajhkhlcaaDoorProg
import Derived.WalkKit
import Derived.Test.YtjhpelajhkhlcaaDoorGB
namespace Go.Proofs.YtjhpelajhkhlcaaDoor
open Go.RowKit
section
variable {P : Program} {T : Nat → Option AV} {H : Hp} {nm : Nat} {wr : Bool} {v u u1 u2 : AV} {d : Option Tmp} {ty : TypeId} {ps : String} {af : Array Edge} {gd : Option (Nat × Bool)}
/-- The address of a field. -/
theorem op_fieldAddr {s : TypeId} {x : Operand} {b o k m : Nat} {fs : Array Field} {f : Field} (hu : P.underlying s = some (.struct fs)) (hf : fs[k]? = some f) (hz : (P.info? f.type).map (·.size) = some (m + 1)) (hx : aev T x = some (.ptr b o)) :
    OpSem P T H ⟨d, .fieldAddr s x k, ty, ps, af, gd⟩ nm wr (.ptr b (o + f.offset)) [] :=
  .quiet fun E a w h => by
    obtain ⟨l, sz, h1, h3⟩ := (h x mem1 _ hx).ptr_inv
    refine ⟨.pointer (some ⟨l, o + f.offset, none⟩), ?_, .ptr _ _ _ _ h1⟩
    simp [execOp, h3, Instr.fieldAt, Instr.sureAddr, run_underlying hu, hf, fieldPlace, run_sizeOf_is hz, add_at]
theorem op_neg64 {t : TypeId} {x : Operand} {a : UInt64} (hx : aev T x = some (.u64 a)) : OpSem P T H ⟨d, .unOp .neg t x, ty, ps, af, gd⟩ nm wr (.u64 (0 - a)) [] :=
  .quiet fun E ac w h' => by
    have e := (h' x mem1 _ hx).u64_inv
    have e2 := sub_n64 0 a
    unfold n64 at e2
    refine ⟨.int .u64 (IntKind.u64.wrap (0 - (a.toNat : Int))), by simp only [execOp, e]; rfl, ?_⟩
    have e3 : IntKind.u64.wrap (0 - (a.toNat : Int)) = ((0 - a : UInt64).toNat : Int) := e2
    rw [e3]; exact .u64 _
theorem op_andNot64 {t t' : TypeId} {x y : Operand} {a b : UInt64} (hx : aev T x = some (.u64 a)) (hy : aev T y = some (.u64 b)) : OpSem P T H ⟨d, .binOp .andNot t x y t', ty, ps, af, gd⟩ nm wr (.u64 (a &&& ~~~b)) [] :=
  op_bin hx hy fun E y1 y2 w h1 h2 => by
    rw [h1.u64_inv, h2.u64_inv]
    have e : bits .andNot .u64 (n64 a) (n64 b) = n64 (a &&& ~~~b) := by
      rw [← wrap_n64 (a &&& ~~~b)]
      show IntKind.u64.wrap ↑((BitVec.ofInt 64 (n64 a)) &&& ~~~(BitVec.ofInt 64 (n64 b))).toNat = _
      rw [ofInt_n64, ofInt_n64]; rfl
    unfold n64 at e
    exact ⟨.int .u64 (bits .andNot .u64 (n64 a) (n64 b)), rfl, by unfold n64; rw [e]; exact .u64 _⟩
theorem op_andNot8 {t t' : TypeId} {x y : Operand} {a b : UInt8} (hx : aev T x = some (.u8 a)) (hy : aev T y = some (.u8 b)) : OpSem P T H ⟨d, .binOp .andNot t x y t', ty, ps, af, gd⟩ nm wr (.u8 (a &&& ~~~b)) [] :=
  op_bin hx hy fun E y1 y2 w h1 h2 => by
    rw [h1.u8_inv, h2.u8_inv]
    have e : bits .andNot .u8 (n8 a) (n8 b) = n8 (a &&& ~~~b) := by
      rw [← wrap_n8 (a &&& ~~~b)]
      show IntKind.u8.wrap ↑((BitVec.ofInt 8 (n8 a)) &&& ~~~(BitVec.ofInt 8 (n8 b))).toNat = _
      rw [ofInt_n8, ofInt_n8]; rfl
    unfold n8 at e
    exact ⟨.int .u8 (bits .andNot .u8 (n8 a) (n8 b)), rfl, by unfold n8; rw [e]; exact .u8 _⟩
end
/-! Rows of numbers, compared. -/
section
variable {P : Program} {w : World}
theorem run_part_one {e : TypeId} {dd : TypeDesc} (hu : P.underlying e = some dd) (hna : (match dd with | .struct _ | .array _ _ => true | _ => false) = false) {cs : Array Value} {i : Nat} {v : Value} (h : cs[i]? = some v) : (part e cs i).run P w = .ok v w := by
  simp [part, run_isAgg_no hu hna, h]
theorem eqItems_ints {e : TypeId} {q k : IntKind} (he : P.underlying e = some (.int q)) (d : Nat) (l1 l2 : List Int) : ∀ (is : List Nat), (∀ i ∈ is, i < l1.length ∧ i < l2.length) →
    (Op.eqItems (d + 1) e 1 (l1.map (Value.int k)).toArray (l2.map (Value.int k)).toArray is).run P w = .ok (decide (∀ i ∈ is, l1.getD i 0 = l2.getD i 0)) w
  | [], _ => by simp [Op.eqItems]
  | i :: is, h => by
    obtain ⟨h1, h2⟩ := h i List.mem_cons_self
    have ih := eqItems_ints (k := k) he d l1 l2 is (fun j hj => h j (List.mem_cons_of_mem _ hj))
    have p1 : (part e (l1.map (Value.int k)).toArray (i * 1)).run P w = .ok (.int k (l1.getD i 0)) w := run_part_one he rfl (by simp [List.getD_eq_getElem?_getD, h1])
    have p2 : (part e (l2.map (Value.int k)).toArray (i * 1)).run P w = .ok (.int k (l2.getD i 0)) w := run_part_one he rfl (by simp [List.getD_eq_getElem?_getD, h2])
    simp only [Op.eqItems, Sem.run_bind, p1, p2, Result.andThen_ok, run_equalIn_int w d e k q _ _ he]
    by_cases c : l1.getD i 0 = l2.getD i 0
    · rw [beq_iff_eq.2 c]
      simp only [Bool.not_true, Bool.false_eq_true, if_false, ih]
      congr 1
      refine decide_eq_decide.2 ⟨fun h j hj => ?_, fun h j hj => h j (List.mem_cons_of_mem _ hj)⟩
      rcases List.mem_cons.1 hj with rfl | hj
      · exact c
      · exact h j hj
    · rw [beq_eq_false_iff_ne.2 c]
      simp only [Bool.not_false, if_true, Sem.run_pure]
      congr 1
      exact (decide_eq_false (fun h => c (h i List.mem_cons_self))).symm
theorem range_all {l1 l2 : List Int} (n : Nat) (h1 : l1.length = n) (h2 : l2.length = n) : (∀ i ∈ List.range n, l1.getD i 0 = l2.getD i 0) ↔ l1 = l2 := by
  constructor
  · intro h
    refine List.ext_getElem (by omega) fun i a b => ?_
    have := h i (List.mem_range.2 (by omega))
    simpa [List.getD_eq_getElem?_getD, a, b] using this
  · rintro rfl i _; rfl
theorem run_equalIn_ints {t e : TypeId} {q k : IntKind} {n d : Nat} (hu : P.underlying t = some (.array n e)) (he : P.underlying e = some (.int q)) (hi : (P.info? e).map (·.size) = some 1) (l1 l2 : List Int) (h1 : l1.length = n) (h2 : l2.length = n) :
    (Op.equalIn (d + 2) t (.agg (l1.map (Value.int k)).toArray) (.agg (l2.map (Value.int k)).toArray)).run P w = .ok (decide (l1 = l2)) w := by
  cases hq : P.info? e with
  | none => rw [hq] at hi; cases hi
  | some i =>
    have hc : P.cellsOf e = 1 := by
      unfold Program.cellsOf; rw [hq] at hi ⊢; simpa using hi
    rw [run_equalIn_array w (d + 1) _ _ hu hq, hc, eqItems_ints he d l1 l2 _ (fun j hj => by have := List.mem_range.1 hj; omega)]
    congr 1
    exact decide_eq_decide.2 (range_all n h1 h2)
theorem run_part_row {t e : TypeId} {n : Nat} (hu : P.underlying t = some (.array n e)) (hz : (P.info? t).map (·.size) = some n) {cs : Array Value} (h : cs.size = n) : (part t cs 0).run P w = .ok (.agg cs) w := by
  have : cs.extract 0 n = cs := by rw [← h]; exact Array.extract_size
  simp [part, run_isAgg_yes hu rfl, run_sizeOf_is hz, this]
/-- A struct of one array of numbers. -/
theorem run_equalIn_box {t e : TypeId} {q k : IntKind} {n d : Nat} {f : Field} (hs : P.underlying t = some (.struct (P.fieldsOf t))) (hp : P.stoodInHeld t = false) (hf : P.fieldsOf t = #[f]) (hn : f.name ≠ "_") (ho : f.offset = 0)
    (hu : P.underlying f.type = some (.array n e)) (hz : (P.info? f.type).map (·.size) = some n) (he : P.underlying e = some (.int q)) (hi : (P.info? e).map (·.size) = some 1) (l1 l2 : List Int) (h1 : l1.length = n) (h2 : l2.length = n) :
    (Op.equalIn (d + 3) t (.agg (l1.map (Value.int k)).toArray) (.agg (l2.map (Value.int k)).toArray)).run P w = .ok (decide (l1 = l2)) w := by
  have p1 : (part f.type (l1.map (Value.int k)).toArray f.offset).run P w = .ok (.agg (l1.map (Value.int k)).toArray) w := by rw [ho]; exact run_part_row hu hz (by simp [h1])
  have p2 : (part f.type (l2.map (Value.int k)).toArray f.offset).run P w = .ok (.agg (l2.map (Value.int k)).toArray) w := by rw [ho]; exact run_part_row hu hz (by simp [h2])
  rw [run_equalIn_struct w (d + 2) t _ _ hs hp, hf]
  simp only [Op.eqFields, hn, ne_eq, not_false_eq_true, if_true, Sem.run_bind, p1, p2, Result.andThen_ok, run_equalIn_ints hu he hi l1 l2 h1 h2]
  cases decide (l1 = l2) <;> simp
theorem eq_of_run {t t' : TypeId} {x y : Operand} {X Y : Array Value} {r : Bool} (hm : P.eqGuardType P.depth t = false) (h : (Op.equalIn (9997 + 3) t (.agg X) (.agg Y)).run P w = .ok r w) :
    (do eqGuard .eql t x y (.agg X) (.agg Y); binOp .eql t (.agg X) (.agg Y) : Sem Value).run P w = .ok (.bool r) w := by
  rw [Sem.run_bind, run_eqGuard_agg _ _ _ _ _ _ _ hm, Result.andThen_ok, run_eql_struct]
  show ((Op.equalIn (9997 + 3) t (.agg X) (.agg Y)).run P w).andThen _ = _
  rw [h]; rfl
theorem neq_of_run {t t' : TypeId} {x y : Operand} {X Y : Array Value} {r : Bool} (hm : P.eqGuardType P.depth t = false) (h : (Op.equalIn (9997 + 3) t (.agg X) (.agg Y)).run P w = .ok r w) :
    (do eqGuard .neq t x y (.agg X) (.agg Y); binOp .neq t (.agg X) (.agg Y) : Sem Value).run P w = .ok (.bool (!r)) w := by
  rw [Sem.run_bind, run_eqGuard_agg _ _ _ _ _ _ _ hm, Result.andThen_ok, run_neq_struct]
  show ((Op.equalIn (9997 + 3) t (.agg X) (.agg Y)).run P w).andThen _ = _
  rw [h]; rfl
theorem row64_inv {E : Emb} {l : List UInt64} {v : Value} (h : Rel E (.agg64 l) v) : v = .agg ((l.map fun x => (x.toNat : Int)).map (Value.int .u64)).toArray := by
  obtain ⟨ds, rfl, h1, h2, h3⟩ := h.agg_inv (cs := l.map .u64) rfl
  congr 1
  apply Array.ext_getElem?
  intro i
  by_cases hi : i < l.length
  · have hd : i < ds.size := by rw [← h1]; simpa using hi
    have := h3 i (.u64 l[i]) ds[i] (by simp [hi]) (by simp [hd])
    have := this.u64_inv
    rw [Array.getElem?_eq_getElem hd, this]
    simp [hi]
  · rw [Array.getElem?_eq_none (by rw [← h1]; simp; omega), Array.getElem?_eq_none (by simp; omega)]
theorem row8_inv {E : Emb} {l : List UInt8} {v : Value} (h : Rel E (.aggB l) v) : v = .agg ((l.map fun x => (x.toNat : Int)).map (Value.int .u8)).toArray := by
  rw [relB_inv h]; simp
theorem map64_eq (a b : List UInt64) : decide ((a.map fun x => (x.toNat : Int)) = b.map fun x => (x.toNat : Int)) = (a == b) := by
  rw [Bool.eq_iff_iff, decide_eq_true_eq, beq_iff_eq]
  refine ⟨fun h => ?_, fun h => by rw [h]⟩
  exact (List.map_inj_right (fun x y (h : (x.toNat : Int) = y.toNat) => UInt64.toNat_inj.1 (by omega))).1 h
theorem map8_eq (a b : List UInt8) : decide ((a.map fun x => (x.toNat : Int)) = b.map fun x => (x.toNat : Int)) = (a == b) := by
  rw [Bool.eq_iff_iff, decide_eq_true_eq, beq_iff_eq]
  refine ⟨fun h => ?_, fun h => by rw [h]⟩
  exact (List.map_inj_right (fun x y (h : (x.toNat : Int) = y.toNat) => UInt8.toNat_inj.1 (by omega))).1 h
end
section
variable {P : Program} {T : Nat → Option AV} {H : Hp} {nm : Nat} {wr : Bool} {d : Option Tmp} {ty : TypeId} {ps : String} {af : Array Edge} {gd : Option (Nat × Bool)}
/-- Two structs of one array of words are held against each other. -/
theorem op_eqBox {t t' e : TypeId} {x y : Operand} {q : IntKind} {n : Nat} {f : Field} {a b : List UInt64} (hm : P.eqGuardType P.depth t = false) (hs : P.underlying t = some (.struct (P.fieldsOf t))) (hp : P.stoodInHeld t = false) (hf : P.fieldsOf t = #[f]) (hn : f.name ≠ "_") (ho : f.offset = 0)
    (hu : P.underlying f.type = some (.array n e)) (hz : (P.info? f.type).map (·.size) = some n) (he : P.underlying e = some (.int q)) (hi : (P.info? e).map (·.size) = some 1) (hx : aev T x = some (.agg64 a)) (hy : aev T y = some (.agg64 b)) (ha : a.length = n) (hb : b.length = n) :
    OpSem P T H ⟨d, .binOp .eql t x y t', ty, ps, af, gd⟩ nm wr (.bool (a == b)) [] :=
  op_bin hx hy fun E y1 y2 w h1 h2 => by
    rw [row64_inv h1, row64_inv h2]
    refine ⟨.bool (a == b), eq_of_run (t' := t') hm ?_, .bool _⟩
    rw [run_equalIn_box hs hp hf hn ho hu hz he hi _ _ (by simp [ha]) (by simp [hb]), map64_eq]
theorem op_neqBox {t t' e : TypeId} {x y : Operand} {q : IntKind} {n : Nat} {f : Field} {a b : List UInt64} (hm : P.eqGuardType P.depth t = false) (hs : P.underlying t = some (.struct (P.fieldsOf t))) (hp : P.stoodInHeld t = false) (hf : P.fieldsOf t = #[f]) (hn : f.name ≠ "_") (ho : f.offset = 0)
    (hu : P.underlying f.type = some (.array n e)) (hz : (P.info? f.type).map (·.size) = some n) (he : P.underlying e = some (.int q)) (hi : (P.info? e).map (·.size) = some 1) (hx : aev T x = some (.agg64 a)) (hy : aev T y = some (.agg64 b)) (ha : a.length = n) (hb : b.length = n) :
    OpSem P T H ⟨d, .binOp .neq t x y t', ty, ps, af, gd⟩ nm wr (.bool (a != b)) [] :=
  op_bin hx hy fun E y1 y2 w h1 h2 => by
    rw [row64_inv h1, row64_inv h2]
    refine ⟨.bool (a != b), neq_of_run (t' := t') hm ?_, .bool _⟩
    rw [run_equalIn_box hs hp hf hn ho hu hz he hi _ _ (by simp [ha]) (by simp [hb]), map64_eq]
/-- Two arrays of bytes are held against each other. -/
theorem op_eqRow8 {t t' e : TypeId} {x y : Operand} {q : IntKind} {n : Nat} {a b : List UInt8} (hm : P.eqGuardType P.depth t = false) (hu : P.underlying t = some (.array n e)) (he : P.underlying e = some (.int q)) (hi : (P.info? e).map (·.size) = some 1) (hx : aev T x = some (.aggB a)) (hy : aev T y = some (.aggB b)) (ha : a.length = n) (hb : b.length = n) :
    OpSem P T H ⟨d, .binOp .eql t x y t', ty, ps, af, gd⟩ nm wr (.bool (a == b)) [] :=
  op_bin hx hy fun E y1 y2 w h1 h2 => by
    rw [row8_inv h1, row8_inv h2]
    refine ⟨.bool (a == b), eq_of_run (t' := t') hm ?_, .bool _⟩
    rw [run_equalIn_ints (d := 9998) hu he hi _ _ (by simp [ha]) (by simp [hb]), map8_eq]
theorem op_neqRow8 {t t' e : TypeId} {x y : Operand} {q : IntKind} {n : Nat} {a b : List UInt8} (hm : P.eqGuardType P.depth t = false) (hu : P.underlying t = some (.array n e)) (he : P.underlying e = some (.int q)) (hi : (P.info? e).map (·.size) = some 1) (hx : aev T x = some (.aggB a)) (hy : aev T y = some (.aggB b)) (ha : a.length = n) (hb : b.length = n) :
    OpSem P T H ⟨d, .binOp .neq t x y t', ty, ps, af, gd⟩ nm wr (.bool (a != b)) [] :=
  op_bin hx hy fun E y1 y2 w h1 h2 => by
    rw [row8_inv h1, row8_inv h2]
    refine ⟨.bool (a != b), neq_of_run (t' := t') hm ?_, .bool _⟩
    rw [run_equalIn_ints (d := 9998) hu he hi _ _ (by simp [ha]) (by simp [hb]), map8_eq]
end
end Go.Proofs.YtjhpelajhkhlcaaDoor
namespace Go.Proofs.YtjhpelajhkhlcaaDoor
open Go.RowKit
section
variable {P : Program} {T : Nat → Option AV} {H : Hp} {nm : Nat} {wr : Bool} {d : Option Tmp} {ty t : TypeId} {ps : String} {af : Array Edge} {gd : Option (Nat × Bool)}
theorem run_zero {zc : Array Value} (hz : (P.info? t).map (·.zero) = some (some (.agg zc))) (w : World) : (zeroValue t).run P w = .ok (.agg zc) w := by
  cases hq : P.info? t with
  | none => simp [hq] at hz
  | some i => simp [hq] at hz; simp [zeroValue, typeInfo, hq, hz]
theorem foldset (l : List Value) : ∀ (k : Nat) (cs : Array Value), k + l.length ≤ cs.size → ((l.zipIdx k).foldl (fun cs x => cs.setIfInBounds x.2 x.1) cs).size = cs.size ∧ ∀ i, ((l.zipIdx k).foldl (fun cs x => cs.setIfInBounds x.2 x.1) cs)[i]? = if k ≤ i ∧ i < k + l.length then l[i - k]? else cs[i]? := by
  induction l with
  | nil => intro k cs _; exact ⟨rfl, fun i => by rw [if_neg (by simp)]; rfl⟩
  | cons c l ih =>
    intro k cs h
    simp only [List.length_cons] at h
    obtain ⟨h1, h2⟩ := ih (k + 1) (cs.setIfInBounds k c) (by simp; omega)
    simp only [List.zipIdx_cons, List.foldl_cons]
    refine ⟨by rw [h1]; simp, fun i => ?_⟩
    rw [h2 i]
    simp only [List.length_cons]
    by_cases e : k = i
    · subst e
      rw [if_neg (by omega), if_pos (by omega), Nat.sub_self, Array.getElem?_setIfInBounds]
      rw [if_pos rfl, if_pos (by omega)]; rfl
    · by_cases e2 : k + 1 ≤ i ∧ i < k + 1 + l.length
      · rw [if_pos e2, if_pos (by omega), show i - k = (i - (k + 1)) + 1 by omega]; rfl
      · rw [if_neg e2, if_neg (by omega), Array.getElem?_setIfInBounds, if_neg e]
theorem foldset_all (ds zc : Array Value) (h : zc.size = ds.size) : ds.zipIdx.foldl (fun cs x => cs.setIfInBounds x.2 x.1) zc = ds := by
  rw [← Array.foldl_toList, Array.toList_zipIdx]
  obtain ⟨_, h2⟩ := foldset ds.toList 0 zc (by simp; omega)
  refine Array.ext_getElem? fun i => ?_
  rw [h2 i]
  by_cases c : i < ds.size
  · rw [if_pos (by simp; omega)]; simp
  · rw [if_neg (by simp; omega), Array.getElem?_eq_none (by omega), Array.getElem?_eq_none (by omega)]
/-- An empty literal of a struct of one field. -/
theorem op_buildBox0 {zc : Array Value} {r0 : AV} {f : Field} {n : Nat} (hu : P.underlying t = some (.struct #[f])) (hf : (P.info? f.type).map (·.size) = some n) (hz : (P.info? t).map (·.zero) = some (some (.agg zc))) (hr0 : Rel (fun _ => none) r0 (.agg zc)) :
    OpSem P T H ⟨d, .build t #[], ty, ps, af, gd⟩ nm wr r0 [] :=
  .quiet fun E a w h => by
    refine ⟨.agg zc, ?_, hr0.mono (fun _ _ h => by cases h)⟩
    simp [execOp, Instr.build, run_zero hz, run_underlying hu, Value.cells, run_sizeOf_is hf, Instr.fill]
/-- A struct whose one field is a row. -/
theorem op_buildBox1 {zc : Array Value} {x : Operand} {l : List UInt64} {f : Field} (hu : P.underlying t = some (.struct #[f])) (ho : f.offset = 0) (hf : (P.info? f.type).map (·.size) = some l.length) (hz : (P.info? t).map (·.zero) = some (some (.agg zc))) (hs : zc.size = l.length) (hx : aev T x = some (.agg64 l)) :
    OpSem P T H ⟨d, .build t #[(0, x)], ty, ps, af, gd⟩ nm wr (.agg64 l) [] :=
  .quiet fun E a w h => by
    have h1 := h x (by simp [Op.operands]) _ hx
    refine ⟨a.eval x, ?_, h1⟩
    obtain ⟨ds, hd, hl, _⟩ := h1.agg_inv (cs := l.map .u64) rfl
    have hl : ds.size = l.length := by rw [← hl]; simp
    rw [hd]
    have e : Instr.fill (fun i => (#[(f.offset, l.length)] : Array (Nat × Nat))[i]?) zc [(0, .agg ds)] = some ds := by
      have := foldset_all ds zc (by omega)
      simp [Instr.fill, Value.cells, ho, hl, hs]
      simpa [hl] using this
    simp only [execOp, Sem.run_bind, Instr.build, run_zero hz, Result.andThen_ok, run_underlying hu, Value.cells]
    have em : (#[f].mapM (fun f => do pure (f.offset, ← sizeOf f.type) : Field → Sem (Nat × Nat))).run P w = .ok #[(f.offset, l.length)] w := by
      simp [run_sizeOf_is hf]
    rw [em]
    simp only [Result.andThen_ok]
    have e2 : (#[((0 : Nat), x)].map fun (i, x) => (i, a.eval x)).toList = [(0, .agg ds)] := by simp [hd]
    rw [e2, e]
    simp
/-- math/bits.Sub64. -/
theorem op_sub64 {f : FuncId} {fn : Func} {x y z : Operand} {ts : Array TypeId} {a b c : UInt64} (hf : P.funcs[f]? = some fn) (hname : (fn.name == "runtime.NumGoroutine") = false) (hb : fn.body.isNone = true) (hn : (Extern.findNext fn).isNone = true)
    (he : (Extern.find fn) = some (fun args => do
      let (x, y, b) ← Extern.MathBitsCarry.three "Sub64" args
      pure (Extern.MathBitsCarry.pair ((x + Extern.MathBitsCarry.m64 - y - b) % Extern.MathBitsCarry.m64) (if x < y + b then 1 else 0))))
    (hx : aev T x = some (.u64 a)) (hy : aev T y = some (.u64 b)) (hz : aev T z = some (.u64 c)) (hc : c.toNat ≤ 1) :
    OpSem P T H ⟨d, .call { callee := .value (.func f), args := #[x, y, z], argTypes := ts }, ty, ps, af, gd⟩ nm wr (.tup [.u64 (a - b - c), .u64 (UInt64.ofNat (if a.toNat < b.toNat + c.toNat then 1 else 0))]) [] :=
  .quiet fun E ac w h => by
    have h1 := (h x (by simp [Op.operands, Call.operands]) _ hx).u64_inv
    have h2 := (h y (by simp [Op.operands, Call.operands]) _ hy).u64_inv
    have h3 := (h z (by simp [Op.operands, Call.operands]) _ hz).u64_inv
    have ha := a.toNat_lt
    have hb' := b.toNat_lt
    have hbor : (UInt64.ofNat (if a.toNat < b.toNat + c.toNat then 1 else 0)).toNat = if a.toNat < b.toNat + c.toNat then 1 else 0 := by
      split <;> rfl
    have hsum : (a - b - c).toNat = (a.toNat + 18446744073709551616 - b.toNat - c.toNat) % 18446744073709551616 := by
      rw [UInt64.toNat_sub, UInt64.toNat_sub]; omega
    have hrun : (callFunc f #[.int .u64 (a.toNat : Int), .int .u64 (b.toNat : Int), .int .u64 (c.toNat : Int)]).run P w = .ok (.value (.tuple #[.int .u64 ((a - b - c).toNat : Int), .int .u64 ((UInt64.ofNat (if a.toNat < b.toNat + c.toNat then 1 else 0)).toNat : Int)])) w := by
      refine run_callFunc_ext hf hname hb hn he ?_
      rw [hbor, hsum]
      have hc' : ¬ (1 < c.toNat) := by omega
      have e3 : ∀ X Y Z : Value, Extern.MathBitsCarry.three "Sub64" #[X, Y, Z] = (do
          let c := (← asInt Z).toNat
          if c > 1 then unsupported (.noEntry ("extern/math/bits." ++ "Sub64" ++ ": a carry that is neither 0 nor 1"))
          pure ((← asInt X).toNat, (← asInt Y).toNat, c)) := fun _ _ _ => rfl
      have hm : Extern.MathBitsCarry.m64 = 18446744073709551616 := rfl
      simp only [e3, asInt, asIntOf, Sem.run_bind, Sem.run_pure, Result.andThen_ok, Int.toNat_natCast, Sem.run_ite, gt_iff_lt, if_neg hc', Extern.MathBitsCarry.pair, hm]
      rfl
    obtain ⟨Y, hY⟩ : ∃ Y, Y = Value.tuple #[.int .u64 ((a - b - c).toNat : Int), .int .u64 ((UInt64.ofNat (if a.toNat < b.toNat + c.toNat then 1 else 0)).toNat : Int)] := ⟨_, rfl⟩
    rw [← hY] at hrun
    have hmap : (#[x, y, z] : Array Operand).map ac.eval = #[.int .u64 (a.toNat : Int), .int .u64 (b.toNat : Int), .int .u64 (c.toNat : Int)] := by simp only [List.map_toArray, List.map_cons, List.map_nil, h1, h2, h3]
    rw [← hmap] at hrun
    clear hmap hbor hsum
    refine ⟨Y, ?_, ?_⟩
    · exact run_exec_func hrun
    · rw [hY]
      refine .tup _ _ rfl fun i p q hp hq => ?_
      match i, hp, hq with
      | 0, hp, hq => simp only [List.getElem?_cons_zero, Option.some.injEq] at hp; subst hp; injection hq with hq; subst hq; exact .u64 _
      | 1, hp, hq => simp only [List.getElem?_cons_succ, List.getElem?_cons_zero, Option.some.injEq] at hp; subst hp; injection hq with hq; subst hq; exact .u64 _
      | i + 2, hp, _ => simp at hp
end
end Go.Proofs.YtjhpelajhkhlcaaDoor
namespace Go.Proofs.YtjhpelajhkhlcaaDoor
open Go.RowKit
section
variable {P : Program} {nt : Nat} {st : St} {ops rest : List Oper} {post : St → Prop} {op : Op} {d : Tmp} {ty : TypeId} {ps : String} {af : Array Edge} {gd : Option (Nat × Bool)}
def WantsU (ops : List Oper) (T : List (Nat × AV)) : Option (Nat × Bool) → Prop
  | none => False
  | some (j, _) => ∃ g, (ops[j]?).bind (·.dst) = some g ∧ lk T g = some (.val undef)
/-- An operation that waits for one that was not made is not made. -/
theorem EvL.noU (hg : WantsU ops st.T gd) (hd : Nat.blt d nt = true) (hr : EvL P nt ops rest ⟨(d, .val undef) :: st.T, st.H, st.nx⟩ post) :
    EvL P nt ops (⟨some d, op, ty, ps, af, gd⟩ :: rest) st post := by
  intro E S n0 a w Q hn hR hQ
  have hw : Region.wanted (⟨some d, op, ty, ps, af, gd⟩ : Oper) (yielded ops.toArray a.tmps) = false := by
    cases gd with
    | none => exact hg.elim
    | some p =>
      obtain ⟨j, want⟩ := p
      obtain ⟨g, h1, h2⟩ := hg
      have h3 := (hR.rt g _ h2).val_inv
      have h4 : yielded ops.toArray a.tmps j = none := by
        unfold yielded
        rw [List.getElem?_toArray, h1]
        rw [Array.getD_eq_getD_getElem?] at h3
        cases hq : a.tmps[g]? with
        | none => simp [hq]
        | some y => rw [hq] at h3; simp at h3; subst h3; simp [hq, undef]
      show (yielded ops.toArray a.tmps j == some want) = false
      rw [h4]; rfl
  unfold wpList
  rw [if_neg (by rw [hw]; simp)]
  exact hr E S n0 _ w Q hn (hR.put (blt_true hd) (.val _)) hQ
end
end Go.Proofs.YtjhpelajhkhlcaaDoor
namespace Go.Proofs.YtjhpelajhkhlcaaDoor
open Go.RowKit
theorem Meets.alias {P : Program} {f : FuncId} {n m : Nat} {l r : List Int} {e e2 : Nat} {ow : Bool}
    (hm : Meets P f [.sl 500 0 n 1, .sl 501 0 n 1] [(500, some ⟨.aggI l, e, false⟩), (501, some ⟨.aggI l, e, false⟩)] (.sl 1000 0 m 1) [(1000, some ⟨.aggI r, e2, ow⟩)]) :
    Meets P f [.sl 500 0 n 1, .sl 500 0 n 1] [(500, some ⟨.aggI l, e, false⟩)] (.sl 1000 0 m 1) [(1000, some ⟨.aggI r, e2, ow⟩)] := by
  intro E S n0 vals w h1 h2 h3 h4 h5 h6 h7
  let E2 : Emb := fun b => if b = 501 then E 500 else E b
  have q500 : E2 500 = E 500 := by show (if (500 : Nat) = 501 then _ else _) = _; rw [if_neg (by decide)]
  have q501 : E2 501 = E 500 := by show (if (501 : Nat) = 501 then _ else _) = _; rw [if_pos rfl]
  have up : ∀ {x : AV} {y : Value} {b : Nat}, x.names = [b] → b ≠ 501 → Rel E x y → Rel E2 (x.ren id) y := fun {x y b} hx hb h => h.ren fun c hc p hp => by
    rw [hx] at hc
    have : c = b := by simpa using hc
    subst this
    show (if c = 501 then E 500 else E c) = some p
    rw [if_neg hb]; exact hp
  have up1 : ∀ {y : Value}, Rel E (.sl 500 0 n 1) y → Rel E2 (.sl 501 0 n 1) y := fun {y} h => by
    refine h.ren (r := fun _ => 501) fun c hc p hp => ?_
    have : c = 500 := by simpa [AV.names] using hc
    subst this
    exact q501.trans hp
  have hb : ∀ {b : Nat} {k : ABlk}, hget [(500, some ⟨.aggI l, e, false⟩)] b = some k → b = 500 ∧ k = ⟨.aggI l, e, false⟩ := fun {b k} h => by
    have := hget_mem h
    simpa using this
  have bat : ∀ {k : ABlk} {q s : Nat}, k = ⟨.aggI l, e, false⟩ → BAt E k w q s → BAt E2 k w q s := fun {k q s} hk h => by
    subst hk
    exact h.ren (r := id) (fun c hc => by simp [AV.names] at hc) false (fun h => by cases h)
  have hR : RH E2 S (hget [(500, some ⟨.aggI l, e, false⟩), (501, some ⟨.aggI l, e, false⟩)]) w := by
    obtain ⟨q, s, g1, g2⟩ := h5.blk 500 ⟨.aggI l, e, false⟩ rfl
    refine ⟨fun b k hk => ?_, fun b b' k k' q s s' hk _ ho => ?_, fun b k q s hk ho => ?_⟩
    · have := hget_mem hk
      simp only [List.mem_cons, Prod.mk.injEq, Option.some.injEq, List.not_mem_nil, or_false] at this
      rcases this with ⟨rfl, rfl⟩ | ⟨rfl, rfl⟩
      · exact ⟨q, s, q500.trans g1, bat rfl g2⟩
      · exact ⟨q, s, q501.trans g1, bat rfl g2⟩
    · have := hget_mem hk
      simp only [List.mem_cons, Prod.mk.injEq, Option.some.injEq, List.not_mem_nil, or_false] at this
      rcases this with ⟨rfl, rfl⟩ | ⟨rfl, rfl⟩ <;> cases ho
    · have := hget_mem hk
      simp only [List.mem_cons, Prod.mk.injEq, Option.some.injEq, List.not_mem_nil, or_false] at this
      rcases this with ⟨rfl, rfl⟩ | ⟨rfl, rfl⟩ <;> cases ho
  refine (hm E2 S n0 vals w (fun g hg => ?_) (fun b hb => ?_) h3 (fun i x y hx hy => ?_) hR h6 h7).mono fun ed w' hh => ?_
  · obtain ⟨s, hs⟩ := h1 g hg
    exact ⟨s, by show (if g = 501 then E 500 else E g) = _; rw [if_neg (by omega)]; exact hs⟩
  · show (if b = 501 then E 500 else E b) = none
    rw [if_neg (by omega)]; exact h2 b hb
  · match i, hx with
    | 0, hx => injection hx with hx; subst hx; exact up rfl (by decide) (h4 0 _ y rfl hy)
    | 1, hx => injection hx with hx; subst hx; exact up1 (h4 1 _ y rfl hy)
    | i + 2, hx => simp at hx
  · obtain ⟨y, E', g1, g2, g3, g4, g5⟩ := hh
    let E3 : Emb := fun b => if b = 501 then E 501 else E' b
    have r1000 : E3 1000 = E' 1000 := by show (if (1000 : Nat) = 501 then _ else _) = _; rw [if_neg (by decide)]
    have hb3 : ∀ {b : Nat} {k : ABlk}, hget [(1000, some ⟨.aggI r, e2, ow⟩)] b = some k → b = 1000 ∧ k = ⟨.aggI r, e2, ow⟩ := fun {b k} h => by
      have := hget_mem h
      simpa using this
    refine ⟨y, E3, g1, fun b hb => ?_, ?_, ⟨fun b k hk => ?_, fun b b' k k' q s s' hk hk' ho hq hq' => ?_, fun b k q s hk ho hq => ?_⟩, g5⟩
    · show (if b = 501 then E 501 else E' b) = E b
      by_cases c : b = 501
      · rw [if_pos c, c]
      · rw [if_neg c, g2 b hb]; show (if b = 501 then E 500 else E b) = E b; rw [if_neg c]
    · exact g3.ren (r := id) fun c hc p hp => by
        have : c = 1000 := by simpa [AV.names] using hc
        subst this
        exact r1000.trans hp
    · obtain ⟨rfl, rfl⟩ := hb3 hk
      obtain ⟨q, s, t1, t2⟩ := g4.blk 1000 _ hk
      exact ⟨q, s, r1000.trans t1, t2.ren (r := id) (fun c hc => by simp [AV.names] at hc) ow id⟩
    · obtain ⟨rfl, rfl⟩ := hb3 hk
      obtain ⟨rfl, _⟩ := hb3 hk'
      rfl
    · obtain ⟨rfl, rfl⟩ := hb3 hk
      exact g4.own 1000 _ q s hk ho (r1000.symm.trans hq)
end Go.Proofs.YtjhpelajhkhlcaaDoor
namespace Go.Proofs.YtjhpelajhkhlcaaDoor
theorem inf3 : Inf Tryd.prog 3 1 (.int .i64 0) := Inf.mk (b := 8) (by kernel_rfl) (by decide) rfl
theorem rel_zero3 : Rel (fun _ => none) (.i64 0) (.int .i64 0) := Rel.i64 0
theorem inf4 : Inf Tryd.prog 4 1 (.bool false) := Inf.mk (b := 1) (by kernel_rfl) (by decide) rfl
theorem rel_zero4 : Rel (fun _ => none) (.bool false) (.bool false) := Rel.bool false
theorem inf5 : Inf Tryd.prog 5 1 (.int .u8 0) := Inf.mk (b := 1) (by kernel_rfl) (by decide) rfl
theorem rel_zero5 : Rel (fun _ => none) (.u8 0) (.int .u8 0) := Rel.u8 0
theorem inf9 : Inf Tryd.prog 9 1 (.string ⟨#[]⟩) := Inf.mk (b := 16) (by kernel_rfl) (by decide) rfl
theorem rel_zero9 : Rel (fun _ => none) (.str []) (.string ⟨#[]⟩) := Rel.str []
theorem inf45 : Inf Tryd.prog 45 1 (.int .u64 0) := Inf.mk (b := 8) (by kernel_rfl) (by decide) rfl
theorem rel_zero45 : Rel (fun _ => none) (.u64 0) (.int .u64 0) := Rel.u64 0
theorem inf80 : Inf Tryd.prog 80 1 (.int .u32 0) := Inf.mk (b := 4) (by kernel_rfl) (by decide) rfl
theorem rel_zero80 : Rel (fun _ => none) (.u32 0) (.int .u32 0) := Rel.u32 0
theorem sz22 : (Tryd.prog.info? 22).map (·.size) = some 32 := by kernel_rfl
theorem zero22 : (Tryd.prog.info? 22).map (·.zero) = some (some (.agg (Array.replicate 32 (.int .u8 0)))) := by kernel_rfl
theorem rel_zero22 : Rel (fun _ => none) (.aggB (List.replicate 32 0)) (.agg (Array.replicate 32 (.int .u8 0))) := rz_B _ 32
theorem sz25 : (Tryd.prog.info? 25).map (·.size) = some 16 := by kernel_rfl
theorem zero25 : (Tryd.prog.info? 25).map (·.zero) = some (some (.agg (Array.replicate 16 (.int .u8 0)))) := by kernel_rfl
theorem rel_zero25 : Rel (fun _ => none) (.aggB (List.replicate 16 0)) (.agg (Array.replicate 16 (.int .u8 0))) := rz_B _ 16
theorem sz31 : (Tryd.prog.info? 31).map (·.size) = some 12 := by kernel_rfl
theorem zero31 : (Tryd.prog.info? 31).map (·.zero) = some (some (.agg (Array.replicate 12 (.int .u8 0)))) := by kernel_rfl
theorem rel_zero31 : Rel (fun _ => none) (.aggB (List.replicate 12 0)) (.agg (Array.replicate 12 (.int .u8 0))) := rz_B _ 12
theorem sz46 : (Tryd.prog.info? 46).map (·.size) = some 4 := by kernel_rfl
theorem zero46 : (Tryd.prog.info? 46).map (·.zero) = some (some (.agg (Array.replicate 4 (.int .u64 0)))) := by kernel_rfl
theorem rel_zero46 : Rel (fun _ => none) (.agg64 (List.replicate 4 0)) (.agg (Array.replicate 4 (.int .u64 0))) := rz_64 _ 4
theorem sz48 : (Tryd.prog.info? 48).map (·.size) = some 4 := by kernel_rfl
theorem zero48 : (Tryd.prog.info? 48).map (·.zero) = some (some (.agg (Array.replicate 4 (.int .u64 0)))) := by kernel_rfl
theorem rel_zero48 : Rel (fun _ => none) (.agg64 (List.replicate 4 0)) (.agg (Array.replicate 4 (.int .u64 0))) := rz_64 _ 4
theorem sz81 : (Tryd.prog.info? 81).map (·.size) = some 64 := by kernel_rfl
theorem zero81 : (Tryd.prog.info? 81).map (·.zero) = some (some (.agg (Array.replicate 64 (.int .u8 0)))) := by kernel_rfl
theorem rel_zero81 : Rel (fun _ => none) (.aggB (List.replicate 64 0)) (.agg (Array.replicate 64 (.int .u8 0))) := rz_B _ 64
theorem sz84 : (Tryd.prog.info? 84).map (·.size) = some 5 := by kernel_rfl
theorem zero84 : (Tryd.prog.info? 84).map (·.zero) = some (some (.agg (Array.replicate 5 (.int .u64 0)))) := by kernel_rfl
theorem rel_zero84 : Rel (fun _ => none) (.agg64 (List.replicate 5 0)) (.agg (Array.replicate 5 (.int .u64 0))) := rz_64 _ 5
theorem sz85 : (Tryd.prog.info? 85).map (·.size) = some 5 := by kernel_rfl
theorem zero85 : (Tryd.prog.info? 85).map (·.zero) = some (some (.agg (Array.replicate 5 (.int .u64 0)))) := by kernel_rfl
theorem rel_zero85 : Rel (fun _ => none) (.agg64 (List.replicate 5 0)) (.agg (Array.replicate 5 (.int .u64 0))) := rz_64 _ 5
theorem sz87 : (Tryd.prog.info? 87).map (·.size) = some 17 := by kernel_rfl
theorem zero87 : (Tryd.prog.info? 87).map (·.zero) = some (some (.agg (Array.replicate 17 (.int .u8 0)))) := by kernel_rfl
theorem rel_zero87 : Rel (fun _ => none) (.aggB (List.replicate 17 0)) (.agg (Array.replicate 17 (.int .u8 0))) := rz_B _ 17
theorem sz107 : (Tryd.prog.info? 107).map (·.size) = some 8 := by kernel_rfl
theorem zero107 : (Tryd.prog.info? 107).map (·.zero) = some (some (.agg (Array.replicate 8 (.int .u64 0)))) := by kernel_rfl
theorem rel_zero107 : Rel (fun _ => none) (.agg64 (List.replicate 8 0)) (.agg (Array.replicate 8 (.int .u64 0))) := rz_64 _ 8
theorem sz117 : (Tryd.prog.info? 117).map (·.size) = some 8 := by kernel_rfl
theorem zero117 : (Tryd.prog.info? 117).map (·.zero) = some (some (.agg (Array.replicate 8 (.int .u32 0)))) := by kernel_rfl
theorem rel_zero117 : Rel (fun _ => none) (.agg32 (List.replicate 8 0)) (.agg (Array.replicate 8 (.int .u32 0))) := rz_32 _ 8
theorem sz122 : (Tryd.prog.info? 122).map (·.size) = some 16 := by kernel_rfl
theorem zero122 : (Tryd.prog.info? 122).map (·.zero) = some (some (.agg (Array.replicate 16 (.int .u32 0)))) := by kernel_rfl
theorem rel_zero122 : Rel (fun _ => none) (.agg32 (List.replicate 16 0)) (.agg (Array.replicate 16 (.int .u32 0))) := rz_32 _ 16
theorem sz126 : (Tryd.prog.info? 126).map (·.size) = some 4 := by kernel_rfl
theorem zero126 : (Tryd.prog.info? 126).map (·.zero) = some (some (.agg (Array.replicate 4 (.int .i64 0)))) := by kernel_rfl
theorem rel_zero126 : Rel (fun _ => none) (.aggI (List.replicate 4 0)) (.agg (Array.replicate 4 (.int .i64 0))) := rz_I _ 4
theorem sz139 : (Tryd.prog.info? 139).map (·.size) = some 8 := by kernel_rfl
theorem zero139 : (Tryd.prog.info? 139).map (·.zero) = some (some (.agg (Array.replicate 8 (.int .u64 0)))) := by kernel_rfl
theorem rel_zero139 : Rel (fun _ => none) (.agg64 (List.replicate 8 0)) (.agg (Array.replicate 8 (.int .u64 0))) := rz_64 _ 8
theorem sz148 : (Tryd.prog.info? 148).map (·.size) = some 64 := by kernel_rfl
theorem zero148 : (Tryd.prog.info? 148).map (·.zero) = some (some (.agg (Array.replicate 64 (.int .u32 0)))) := by kernel_rfl
theorem rel_zero148 : Rel (fun _ => none) (.agg32 (List.replicate 64 0)) (.agg (Array.replicate 64 (.int .u32 0))) := rz_32 _ 64
end Go.Proofs.YtjhpelajhkhlcaaDoor
namespace Go.Proofs.YtjhpelajhkhlcaaDoor
open Go.RowKit
set_option maxRecDepth 100000 in
theorem cut_ev (s : List UInt8) (n : Nat) (_hs : s.length ≤ maxLen) (_hn : n ≤ 1000) : Meets Tryd.prog 18 [.str s, .i64 n] [] (.str (s.take n)) [] := by
  refine meets_of_ev (nt := 13) Tryd.func18 rfl rfl (Nat.le_of_ble_eq_true rfl) ?_
  refine .seq ?_
  refine .region ?_
  refine .q (op_assign rfl) trivial rfl ?_
  refine .nil ?_
  show Ev _ _ _ _ _
  refine .seq ?_
  refine .seq ?_
  refine .region ?_
  refine .q (op_move rfl) trivial rfl ?_
  refine .q (op_len_str Tryd.underlying9 rfl) trivial rfl ?_
  refine .q (op_move rfl) trivial rfl ?_
  refine .q (op_cmpI rfl rfl rfl) trivial rfl ?_
  refine .nil ?_
  show Ev _ _ _ _ _
  refine .cond rfl (fun hc8 => ?_) (fun hc8 => ?_)
  · first | replace hc8 := of_decide_eq_true hc8 | replace hc8 := of_decide_eq_false hc8 | replace hc8 := eq_of_beq hc8 | replace hc8 := ne_of_beq_false hc8 | simp only [bne_iff_ne, ne_eq] at hc8 | simp only [bne_eq_false_iff_eq] at hc8
    refine .seq ?_
    refine .region ?_
    refine .q (op_move rfl) trivial rfl ?_
    refine .q (op_move rfl) trivial rfl ?_
    refine .q (ap_slice_str_hi Tryd.underlying9 rfl (bnd_some rfl rfl) (by first | omega | (simp only [AV.len]; omega) | (simp only [AV.len, List.length_set]; omega) | assumption | (simp [AV.len]; done))) trivial rfl ?_
    refine .q (op_assign rfl) trivial rfl ?_
    refine .nil ?_
    show Ev _ _ _ _ _
    refine .ret ?_
    show RetOk _ _ _ _ _ _ _
    first
      | exact ret1v rfl (.inl rfl) rfl (congrArg AV.str (by first | rfl | (rw [List.take_of_length_le (by omega)]))) trivial
      | exact ret1v rfl (.inl rfl) rfl rfl trivial
  · first | replace hc8 := of_decide_eq_true hc8 | replace hc8 := of_decide_eq_false hc8 | replace hc8 := eq_of_beq hc8 | replace hc8 := ne_of_beq_false hc8 | simp only [bne_iff_ne, ne_eq] at hc8 | simp only [bne_eq_false_iff_eq] at hc8
    refine .skip ?_
    show Ev _ _ _ _ _
    refine .seq ?_
    refine .region ?_
    refine .q (op_move rfl) trivial rfl ?_
    refine .q (op_assign rfl) trivial rfl ?_
    refine .nil ?_
    show Ev _ _ _ _ _
    refine .ret ?_
    show RetOk _ _ _ _ _ _ _
    first
      | exact ret1v rfl (.inl rfl) rfl (congrArg AV.str (by first | rfl | (rw [List.take_of_length_le (by omega)]))) trivial
      | exact ret1v rfl (.inl rfl) rfl rfl trivial
end Go.Proofs.YtjhpelajhkhlcaaDoor
