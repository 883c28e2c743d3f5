/-
  Texts of this claim.
-/
import Derived.ChangeKeysEq
import Derived.LaidEql
import Derived.LaidEqlPtr
import Derived.Laws.Pointers
import Derived.Stop.Asserts
import Derived.Lib.Builder
import Derived.Lib.UnsafeStr
import Derived.Lib.Bytealg
import Derived.LoopN
import Derived.OwnWalk
import Derived.Test.YtdpdmgbdipokdaaDoorProg
import Derived.WalkKit
import Derived.Test.YtdpdmgbdipokdaaDoorGTB
namespace Go.Proofs.YtdpdmgbdipokdaaDoor
open Go.RowKit
section
variable {P : Program} {T : Nat → Option AV} {H : Hp} {nm : Nat} {wr : Bool} {v u u1 u2 : AV} {d : Option Tmp} {ty : TypeId} {ps : String} {af : Array Edge} {gd : Option (Nat × Bool)}
/-- The address of a field. -/
theorem op_fieldAddr {s : TypeId} {x : Operand} {b o k m : Nat} {fs : Array Field} {f : Field} (hu : P.underlying s = some (.struct fs)) (hf : fs[k]? = some f) (hz : (P.info? f.type).map (·.size) = some (m + 1)) (hx : aev T x = some (.ptr b o)) :
    OpSem P T H ⟨d, .fieldAddr s x k, ty, ps, af, gd⟩ nm wr (.ptr b (o + f.offset)) [] :=
  .quiet fun E a w h => by
    obtain ⟨l, sz, h1, h3⟩ := (h x mem1 _ hx).ptr_inv
    refine ⟨.pointer (some ⟨l, o + f.offset, none⟩), ?_, .ptr _ _ _ _ h1⟩
    simp [execOp, h3, Instr.fieldAt, Instr.sureAddr, run_underlying hu, hf, fieldPlace, run_sizeOf_is hz, add_at]
theorem op_neg64 {t : TypeId} {x : Operand} {a : UInt64} (hx : aev T x = some (.u64 a)) : OpSem P T H ⟨d, .unOp .neg t x, ty, ps, af, gd⟩ nm wr (.u64 (0 - a)) [] :=
  .quiet fun E ac w h' => by
    have e := (h' x mem1 _ hx).u64_inv
    have e2 := sub_n64 0 a
    unfold n64 at e2
    refine ⟨.int .u64 (IntKind.u64.wrap (0 - (a.toNat : Int))), by simp only [execOp, e]; rfl, ?_⟩
    have e3 : IntKind.u64.wrap (0 - (a.toNat : Int)) = ((0 - a : UInt64).toNat : Int) := e2
    rw [e3]; exact .u64 _
theorem op_andNot64 {t t' : TypeId} {x y : Operand} {a b : UInt64} (hx : aev T x = some (.u64 a)) (hy : aev T y = some (.u64 b)) : OpSem P T H ⟨d, .binOp .andNot t x y t', ty, ps, af, gd⟩ nm wr (.u64 (a &&& ~~~b)) [] :=
  op_bin hx hy fun E y1 y2 w h1 h2 => by
    rw [h1.u64_inv, h2.u64_inv]
    have e : bits .andNot .u64 (n64 a) (n64 b) = n64 (a &&& ~~~b) := by
      rw [← wrap_n64 (a &&& ~~~b)]
      show IntKind.u64.wrap ↑((BitVec.ofInt 64 (n64 a)) &&& ~~~(BitVec.ofInt 64 (n64 b))).toNat = _
      rw [ofInt_n64, ofInt_n64]; rfl
    unfold n64 at e
    exact ⟨.int .u64 (bits .andNot .u64 (n64 a) (n64 b)), rfl, by unfold n64; rw [e]; exact .u64 _⟩
theorem op_andNot8 {t t' : TypeId} {x y : Operand} {a b : UInt8} (hx : aev T x = some (.u8 a)) (hy : aev T y = some (.u8 b)) : OpSem P T H ⟨d, .binOp .andNot t x y t', ty, ps, af, gd⟩ nm wr (.u8 (a &&& ~~~b)) [] :=
  op_bin hx hy fun E y1 y2 w h1 h2 => by
    rw [h1.u8_inv, h2.u8_inv]
    have e : bits .andNot .u8 (n8 a) (n8 b) = n8 (a &&& ~~~b) := by
      rw [← wrap_n8 (a &&& ~~~b)]
      show IntKind.u8.wrap ↑((BitVec.ofInt 8 (n8 a)) &&& ~~~(BitVec.ofInt 8 (n8 b))).toNat = _
      rw [ofInt_n8, ofInt_n8]; rfl
    unfold n8 at e
    exact ⟨.int .u8 (bits .andNot .u8 (n8 a) (n8 b)), rfl, by unfold n8; rw [e]; exact .u8 _⟩
end
/-! Rows of numbers, compared. -/
section
variable {P : Program} {w : World}
theorem run_part_one {e : TypeId} {dd : TypeDesc} (hu : P.underlying e = some dd) (hna : (match dd with | .struct _ | .array _ _ => true | _ => false) = false) {cs : Array Value} {i : Nat} {v : Value} (h : cs[i]? = some v) : (part e cs i).run P w = .ok v w := by
  simp [part, run_isAgg_no hu hna, h]
theorem eqItems_ints {e : TypeId} {q k : IntKind} (he : P.underlying e = some (.int q)) (d : Nat) (l1 l2 : List Int) : ∀ (is : List Nat), (∀ i ∈ is, i < l1.length ∧ i < l2.length) →
    (Op.eqItems (d + 1) e 1 (l1.map (Value.int k)).toArray (l2.map (Value.int k)).toArray is).run P w = .ok (decide (∀ i ∈ is, l1.getD i 0 = l2.getD i 0)) w
  | [], _ => by simp [Op.eqItems]
  | i :: is, h => by
    obtain ⟨h1, h2⟩ := h i List.mem_cons_self
    have ih := eqItems_ints (k := k) he d l1 l2 is (fun j hj => h j (List.mem_cons_of_mem _ hj))
    have p1 : (part e (l1.map (Value.int k)).toArray (i * 1)).run P w = .ok (.int k (l1.getD i 0)) w := run_part_one he rfl (by simp [List.getD_eq_getElem?_getD, h1])
    have p2 : (part e (l2.map (Value.int k)).toArray (i * 1)).run P w = .ok (.int k (l2.getD i 0)) w := run_part_one he rfl (by simp [List.getD_eq_getElem?_getD, h2])
    simp only [Op.eqItems, Sem.run_bind, p1, p2, Result.andThen_ok, run_equalIn_int w d e k q _ _ he]
    by_cases c : l1.getD i 0 = l2.getD i 0
    · rw [beq_iff_eq.2 c]
      simp only [Bool.not_true, Bool.false_eq_true, if_false, ih]
      congr 1
      refine decide_eq_decide.2 ⟨fun h j hj => ?_, fun h j hj => h j (List.mem_cons_of_mem _ hj)⟩
      rcases List.mem_cons.1 hj with rfl | hj
      · exact c
      · exact h j hj
    · rw [beq_eq_false_iff_ne.2 c]
      simp only [Bool.not_false, if_true, Sem.run_pure]
      congr 1
      exact (decide_eq_false (fun h => c (h i List.mem_cons_self))).symm
theorem range_all {l1 l2 : List Int} (n : Nat) (h1 : l1.length = n) (h2 : l2.length = n) : (∀ i ∈ List.range n, l1.getD i 0 = l2.getD i 0) ↔ l1 = l2 := by
  constructor
  · intro h
    refine List.ext_getElem (by omega) fun i a b => ?_
    have := h i (List.mem_range.2 (by omega))
    simpa [List.getD_eq_getElem?_getD, a, b] using this
  · rintro rfl i _; rfl
theorem run_equalIn_ints {t e : TypeId} {q k : IntKind} {n d : Nat} (hu : P.underlying t = some (.array n e)) (he : P.underlying e = some (.int q)) (hi : (P.info? e).map (·.size) = some 1) (l1 l2 : List Int) (h1 : l1.length = n) (h2 : l2.length = n) :
    (Op.equalIn (d + 2) t (.agg (l1.map (Value.int k)).toArray) (.agg (l2.map (Value.int k)).toArray)).run P w = .ok (decide (l1 = l2)) w := by
  cases hq : P.info? e with
  | none => rw [hq] at hi; cases hi
  | some i =>
    have hc : P.cellsOf e = 1 := by
      unfold Program.cellsOf; rw [hq] at hi ⊢; simpa using hi
    rw [run_equalIn_array w (d + 1) _ _ hu hq, hc, eqItems_ints he d l1 l2 _ (fun j hj => by have := List.mem_range.1 hj; omega)]
    congr 1
    exact decide_eq_decide.2 (range_all n h1 h2)
theorem run_part_row {t e : TypeId} {n : Nat} (hu : P.underlying t = some (.array n e)) (hz : (P.info? t).map (·.size) = some n) {cs : Array Value} (h : cs.size = n) : (part t cs 0).run P w = .ok (.agg cs) w := by
  have : cs.extract 0 n = cs := by rw [← h]; exact Array.extract_size
  simp [part, run_isAgg_yes hu rfl, run_sizeOf_is hz, this]
/-- A struct of one array of numbers. -/
theorem run_equalIn_box {t e : TypeId} {q k : IntKind} {n d : Nat} {f : Field} (hs : P.underlying t = some (.struct (P.fieldsOf t))) (hp : P.stoodInHeld t = false) (hf : P.fieldsOf t = #[f]) (hn : f.name ≠ "_") (ho : f.offset = 0)
    (hu : P.underlying f.type = some (.array n e)) (hz : (P.info? f.type).map (·.size) = some n) (he : P.underlying e = some (.int q)) (hi : (P.info? e).map (·.size) = some 1) (l1 l2 : List Int) (h1 : l1.length = n) (h2 : l2.length = n) :
    (Op.equalIn (d + 3) t (.agg (l1.map (Value.int k)).toArray) (.agg (l2.map (Value.int k)).toArray)).run P w = .ok (decide (l1 = l2)) w := by
  have p1 : (part f.type (l1.map (Value.int k)).toArray f.offset).run P w = .ok (.agg (l1.map (Value.int k)).toArray) w := by rw [ho]; exact run_part_row hu hz (by simp [h1])
  have p2 : (part f.type (l2.map (Value.int k)).toArray f.offset).run P w = .ok (.agg (l2.map (Value.int k)).toArray) w := by rw [ho]; exact run_part_row hu hz (by simp [h2])
  rw [run_equalIn_struct w (d + 2) t _ _ hs hp, hf]
  simp only [Op.eqFields, hn, ne_eq, not_false_eq_true, if_true, Sem.run_bind, p1, p2, Result.andThen_ok, run_equalIn_ints hu he hi l1 l2 h1 h2]
  cases decide (l1 = l2) <;> simp
theorem eq_of_run {t : TypeId} {x y : Operand} {X Y : Array Value} {r : Bool} (hm : P.eqGuardType P.depth t = false) (h : (Op.equalIn (9997 + 3) t (.agg X) (.agg Y)).run P w = .ok r w) :
    (do eqGuard .eql t x y (.agg X) (.agg Y); binOp .eql t (.agg X) (.agg Y) : Sem Value).run P w = .ok (.bool r) w := by
  rw [Sem.run_bind, run_eqGuard_agg _ _ _ _ _ _ _ hm, Result.andThen_ok, run_eql_struct]
  show ((Op.equalIn (9997 + 3) t (.agg X) (.agg Y)).run P w).andThen _ = _
  rw [h]; rfl
theorem neq_of_run {t : TypeId} {x y : Operand} {X Y : Array Value} {r : Bool} (hm : P.eqGuardType P.depth t = false) (h : (Op.equalIn (9997 + 3) t (.agg X) (.agg Y)).run P w = .ok r w) :
    (do eqGuard .neq t x y (.agg X) (.agg Y); binOp .neq t (.agg X) (.agg Y) : Sem Value).run P w = .ok (.bool (!r)) w := by
  rw [Sem.run_bind, run_eqGuard_agg _ _ _ _ _ _ _ hm, Result.andThen_ok, run_neq_struct]
  show ((Op.equalIn (9997 + 3) t (.agg X) (.agg Y)).run P w).andThen _ = _
  rw [h]; rfl
theorem row64_inv {E : Emb} {l : List UInt64} {v : Value} (h : Rel E (.agg64 l) v) : v = .agg ((l.map fun x => (x.toNat : Int)).map (Value.int .u64)).toArray := by
  obtain ⟨ds, rfl, h1, h2, h3⟩ := h.agg_inv (cs := l.map .u64) rfl
  congr 1
  apply Array.ext_getElem?
  intro i
  by_cases hi : i < l.length
  · have hd : i < ds.size := by rw [← h1]; simpa using hi
    have := h3 i (.u64 l[i]) ds[i] (by simp [hi]) (by simp [hd])
    have := this.u64_inv
    rw [Array.getElem?_eq_getElem hd, this]
    simp [hi]
  · rw [Array.getElem?_eq_none (by rw [← h1]; simp; omega), Array.getElem?_eq_none (by simp; omega)]
theorem row8_inv {E : Emb} {l : List UInt8} {v : Value} (h : Rel E (.aggB l) v) : v = .agg ((l.map fun x => (x.toNat : Int)).map (Value.int .u8)).toArray := by
  rw [relB_inv h]; simp
theorem map64_eq (a b : List UInt64) : decide ((a.map fun x => (x.toNat : Int)) = b.map fun x => (x.toNat : Int)) = (a == b) := by
  rw [Bool.eq_iff_iff, decide_eq_true_eq, beq_iff_eq]
  refine ⟨fun h => ?_, fun h => by rw [h]⟩
  exact (List.map_inj_right (fun x y (h : (x.toNat : Int) = y.toNat) => UInt64.toNat_inj.1 (by omega))).1 h
theorem map8_eq (a b : List UInt8) : decide ((a.map fun x => (x.toNat : Int)) = b.map fun x => (x.toNat : Int)) = (a == b) := by
  rw [Bool.eq_iff_iff, decide_eq_true_eq, beq_iff_eq]
  refine ⟨fun h => ?_, fun h => by rw [h]⟩
  exact (List.map_inj_right (fun x y (h : (x.toNat : Int) = y.toNat) => UInt8.toNat_inj.1 (by omega))).1 h
end
section
variable {P : Program} {T : Nat → Option AV} {H : Hp} {nm : Nat} {wr : Bool} {d : Option Tmp} {ty : TypeId} {ps : String} {af : Array Edge} {gd : Option (Nat × Bool)}
/-- Two structs of one array of words are held against each other. -/
theorem op_eqBox {t t' e : TypeId} {x y : Operand} {q : IntKind} {n : Nat} {f : Field} {a b : List UInt64} (hm : P.eqGuardType P.depth t = false) (hs : P.underlying t = some (.struct (P.fieldsOf t))) (hp : P.stoodInHeld t = false) (hf : P.fieldsOf t = #[f]) (hn : f.name ≠ "_") (ho : f.offset = 0)
    (hu : P.underlying f.type = some (.array n e)) (hz : (P.info? f.type).map (·.size) = some n) (he : P.underlying e = some (.int q)) (hi : (P.info? e).map (·.size) = some 1) (hx : aev T x = some (.agg64 a)) (hy : aev T y = some (.agg64 b)) (ha : a.length = n) (hb : b.length = n) :
    OpSem P T H ⟨d, .binOp .eql t x y t', ty, ps, af, gd⟩ nm wr (.bool (a == b)) [] :=
  op_bin hx hy fun E y1 y2 w h1 h2 => by
    rw [row64_inv h1, row64_inv h2]
    refine ⟨.bool (a == b), eq_of_run hm ?_, .bool _⟩
    rw [run_equalIn_box hs hp hf hn ho hu hz he hi _ _ (by simp [ha]) (by simp [hb]), map64_eq]
theorem op_neqBox {t t' e : TypeId} {x y : Operand} {q : IntKind} {n : Nat} {f : Field} {a b : List UInt64} (hm : P.eqGuardType P.depth t = false) (hs : P.underlying t = some (.struct (P.fieldsOf t))) (hp : P.stoodInHeld t = false) (hf : P.fieldsOf t = #[f]) (hn : f.name ≠ "_") (ho : f.offset = 0)
    (hu : P.underlying f.type = some (.array n e)) (hz : (P.info? f.type).map (·.size) = some n) (he : P.underlying e = some (.int q)) (hi : (P.info? e).map (·.size) = some 1) (hx : aev T x = some (.agg64 a)) (hy : aev T y = some (.agg64 b)) (ha : a.length = n) (hb : b.length = n) :
    OpSem P T H ⟨d, .binOp .neq t x y t', ty, ps, af, gd⟩ nm wr (.bool (a != b)) [] :=
  op_bin hx hy fun E y1 y2 w h1 h2 => by
    rw [row64_inv h1, row64_inv h2]
    refine ⟨.bool (a != b), neq_of_run hm ?_, .bool _⟩
    rw [run_equalIn_box hs hp hf hn ho hu hz he hi _ _ (by simp [ha]) (by simp [hb]), map64_eq]
/-- Two arrays of bytes are held against each other. -/
theorem op_eqRow8 {t t' e : TypeId} {x y : Operand} {q : IntKind} {n : Nat} {a b : List UInt8} (hm : P.eqGuardType P.depth t = false) (hu : P.underlying t = some (.array n e)) (he : P.underlying e = some (.int q)) (hi : (P.info? e).map (·.size) = some 1) (hx : aev T x = some (.aggB a)) (hy : aev T y = some (.aggB b)) (ha : a.length = n) (hb : b.length = n) :
    OpSem P T H ⟨d, .binOp .eql t x y t', ty, ps, af, gd⟩ nm wr (.bool (a == b)) [] :=
  op_bin hx hy fun E y1 y2 w h1 h2 => by
    rw [row8_inv h1, row8_inv h2]
    refine ⟨.bool (a == b), eq_of_run hm ?_, .bool _⟩
    rw [run_equalIn_ints (d := 9998) hu he hi _ _ (by simp [ha]) (by simp [hb]), map8_eq]
theorem op_neqRow8 {t t' e : TypeId} {x y : Operand} {q : IntKind} {n : Nat} {a b : List UInt8} (hm : P.eqGuardType P.depth t = false) (hu : P.underlying t = some (.array n e)) (he : P.underlying e = some (.int q)) (hi : (P.info? e).map (·.size) = some 1) (hx : aev T x = some (.aggB a)) (hy : aev T y = some (.aggB b)) (ha : a.length = n) (hb : b.length = n) :
    OpSem P T H ⟨d, .binOp .neq t x y t', ty, ps, af, gd⟩ nm wr (.bool (a != b)) [] :=
  op_bin hx hy fun E y1 y2 w h1 h2 => by
    rw [row8_inv h1, row8_inv h2]
    refine ⟨.bool (a != b), neq_of_run hm ?_, .bool _⟩
    rw [run_equalIn_ints (d := 9998) hu he hi _ _ (by simp [ha]) (by simp [hb]), map8_eq]
end
end Go.Proofs.YtdpdmgbdipokdaaDoor
namespace Go.Proofs.YtdpdmgbdipokdaaDoor
open Go.RowKit
section
variable {P : Program} {T : Nat → Option AV} {H : Hp} {nm : Nat} {wr : Bool} {d : Option Tmp} {ty t : TypeId} {ps : String} {af : Array Edge} {gd : Option (Nat × Bool)}
theorem run_zero {zc : Array Value} (hz : (P.info? t).map (·.zero) = some (some (.agg zc))) (w : World) : (zeroValue t).run P w = .ok (.agg zc) w := by
  cases hq : P.info? t with
  | none => simp [hq] at hz
  | some i => simp [hq] at hz; simp [zeroValue, typeInfo, hq, hz]
theorem foldset (l : List Value) : ∀ (k : Nat) (cs : Array Value), k + l.length ≤ cs.size → ((l.zipIdx k).foldl (fun cs x => cs.setIfInBounds x.2 x.1) cs).size = cs.size ∧ ∀ i, ((l.zipIdx k).foldl (fun cs x => cs.setIfInBounds x.2 x.1) cs)[i]? = if k ≤ i ∧ i < k + l.length then l[i - k]? else cs[i]? := by
  induction l with
  | nil => intro k cs _; exact ⟨rfl, fun i => by rw [if_neg (by simp)]; rfl⟩
  | cons c l ih =>
    intro k cs h
    simp only [List.length_cons] at h
    obtain ⟨h1, h2⟩ := ih (k + 1) (cs.setIfInBounds k c) (by simp; omega)
    simp only [List.zipIdx_cons, List.foldl_cons]
    refine ⟨by rw [h1]; simp, fun i => ?_⟩
    rw [h2 i]
    simp only [List.length_cons]
    by_cases e : k = i
    · subst e
      rw [if_neg (by omega), if_pos (by omega), Nat.sub_self, Array.getElem?_setIfInBounds]
      rw [if_pos rfl, if_pos (by omega)]; rfl
    · by_cases e2 : k + 1 ≤ i ∧ i < k + 1 + l.length
      · rw [if_pos e2, if_pos (by omega), show i - k = (i - (k + 1)) + 1 by omega]; rfl
      · rw [if_neg e2, if_neg (by omega), Array.getElem?_setIfInBounds, if_neg e]
theorem foldset_all (ds zc : Array Value) (h : zc.size = ds.size) : ds.zipIdx.foldl (fun cs x => cs.setIfInBounds x.2 x.1) zc = ds := by
  rw [← Array.foldl_toList, Array.toList_zipIdx]
  obtain ⟨_, h2⟩ := foldset ds.toList 0 zc (by simp; omega)
  refine Array.ext_getElem? fun i => ?_
  rw [h2 i]
  by_cases c : i < ds.size
  · rw [if_pos (by simp; omega)]; simp
  · rw [if_neg (by simp; omega), Array.getElem?_eq_none (by omega), Array.getElem?_eq_none (by omega)]
/-- An empty literal of a struct of one field. -/
theorem op_buildBox0 {zc : Array Value} {r0 : AV} {f : Field} {n : Nat} (hu : P.underlying t = some (.struct #[f])) (hf : (P.info? f.type).map (·.size) = some n) (hz : (P.info? t).map (·.zero) = some (some (.agg zc))) (hr0 : Rel Emb.nil r0 (.agg zc)) :
    OpSem P T H ⟨d, .build t #[], ty, ps, af, gd⟩ nm wr r0 [] :=
  .quiet fun E a w h => by
    refine ⟨.agg zc, ?_, hr0.mono (Emb.nil_le _)⟩
    simp [execOp, Instr.build, run_zero hz, run_underlying hu, Value.cells, run_sizeOf_is hf, Instr.fill]
/-- A struct whose one field is a row. -/
theorem op_buildBox1 {zc : Array Value} {x : Operand} {l : List UInt64} {f : Field} (hu : P.underlying t = some (.struct #[f])) (ho : f.offset = 0) (hf : (P.info? f.type).map (·.size) = some l.length) (hz : (P.info? t).map (·.zero) = some (some (.agg zc))) (hs : zc.size = l.length) (hx : aev T x = some (.agg64 l)) :
    OpSem P T H ⟨d, .build t #[(0, x)], ty, ps, af, gd⟩ nm wr (.agg64 l) [] :=
  .quiet fun E a w h => by
    have h1 := h x (by simp [Op.operands]) _ hx
    refine ⟨a.eval x, ?_, h1⟩
    obtain ⟨ds, hd, hl, _⟩ := h1.agg_inv (cs := l.map .u64) rfl
    have hl : ds.size = l.length := by rw [← hl]; simp
    rw [hd]
    have e : Instr.fill (fun i => (#[(f.offset, l.length)] : Array (Nat × Nat))[i]?) zc [(0, .agg ds)] = some ds := by
      have := foldset_all ds zc (by omega)
      simp [Instr.fill, Value.cells, ho, hl, hs]
      simpa [hl] using this
    simp only [execOp, Sem.run_bind, Instr.build, run_zero hz, Result.andThen_ok, run_underlying hu, Value.cells]
    have em : (#[f].mapM (fun f => do pure (f.offset, ← sizeOf f.type) : Field → Sem (Nat × Nat))).run P w = .ok #[(f.offset, l.length)] w := by
      simp [run_sizeOf_is hf]
    rw [em]
    simp only [Result.andThen_ok]
    have e2 : (#[((0 : Nat), x)].map fun (i, x) => (i, a.eval x)).toList = [(0, .agg ds)] := by simp [hd]
    rw [e2, e]
    simp
/-- math/bits.Sub64. -/
theorem op_sub64 {f : FuncId} {fn : Func} {x y z : Operand} {ts : Array TypeId} {a b c : UInt64} (hf : P.funcs[f]? = some fn) (hname : (fn.name == "runtime.NumGoroutine") = false) (hb : fn.body.isNone = true) (hn : (Extern.findNext fn).isNone = true)
    (he : (Extern.find fn) = some (fun args => do
      let (x, y, b) ← Extern.MathBitsCarry.three "Sub64" args
      pure (Extern.MathBitsCarry.pair ((x + Extern.MathBitsCarry.m64 - y - b) % Extern.MathBitsCarry.m64) (if x < y + b then 1 else 0))))
    (hx : aev T x = some (.u64 a)) (hy : aev T y = some (.u64 b)) (hz : aev T z = some (.u64 c)) (hc : c.toNat ≤ 1) :
    OpSem P T H ⟨d, .call { callee := .value (.func f), args := #[x, y, z], argTypes := ts }, ty, ps, af, gd⟩ nm wr (.tup [.u64 (a - b - c), .u64 (UInt64.ofNat (if a.toNat < b.toNat + c.toNat then 1 else 0))]) [] :=
  .quiet fun E ac w h => by
    have h1 := (h x (by simp [Op.operands, Call.operands]) _ hx).u64_inv
    have h2 := (h y (by simp [Op.operands, Call.operands]) _ hy).u64_inv
    have h3 := (h z (by simp [Op.operands, Call.operands]) _ hz).u64_inv
    have ha := a.toNat_lt
    have hb' := b.toNat_lt
    have hbor : (UInt64.ofNat (if a.toNat < b.toNat + c.toNat then 1 else 0)).toNat = if a.toNat < b.toNat + c.toNat then 1 else 0 := by
      split <;> rfl
    have hsum : (a - b - c).toNat = (a.toNat + 18446744073709551616 - b.toNat - c.toNat) % 18446744073709551616 := by
      rw [UInt64.toNat_sub, UInt64.toNat_sub]; omega
    have hrun : (callFunc f #[.int .u64 (a.toNat : Int), .int .u64 (b.toNat : Int), .int .u64 (c.toNat : Int)]).run P w = .ok (.value (.tuple #[.int .u64 ((a - b - c).toNat : Int), .int .u64 ((UInt64.ofNat (if a.toNat < b.toNat + c.toNat then 1 else 0)).toNat : Int)])) w := by
      refine run_callFunc_ext hf hname hb hn he ?_
      rw [hbor, hsum]
      have hc' : ¬ (1 < c.toNat) := by omega
      have e3 : ∀ X Y Z : Value, Extern.MathBitsCarry.three "Sub64" #[X, Y, Z] = (do
          let c := (← asInt Z).toNat
          if c > 1 then unsupported (.noEntry ("extern/math/bits." ++ "Sub64" ++ ": a carry that is neither 0 nor 1"))
          pure ((← asInt X).toNat, (← asInt Y).toNat, c)) := fun _ _ _ => rfl
      have hm : Extern.MathBitsCarry.m64 = 18446744073709551616 := rfl
      simp only [e3, asInt, asIntOf, Sem.run_bind, Sem.run_pure, Result.andThen_ok, Int.toNat_natCast, Sem.run_ite, gt_iff_lt, if_neg hc', Extern.MathBitsCarry.pair, hm]
      rfl
    obtain ⟨Y, hY⟩ : ∃ Y, Y = Value.tuple #[.int .u64 ((a - b - c).toNat : Int), .int .u64 ((UInt64.ofNat (if a.toNat < b.toNat + c.toNat then 1 else 0)).toNat : Int)] := ⟨_, rfl⟩
    rw [← hY] at hrun
    have hmap : (#[x, y, z] : Array Operand).map ac.eval = #[.int .u64 (a.toNat : Int), .int .u64 (b.toNat : Int), .int .u64 (c.toNat : Int)] := by simp only [List.map_toArray, List.map_cons, List.map_nil, h1, h2, h3]
    rw [← hmap] at hrun
    clear hmap hbor hsum
    refine ⟨Y, ?_, ?_⟩
    · exact run_exec_func hrun
    · rw [hY]
      refine .tup _ _ rfl fun i p q hp hq => ?_
      match i, hp, hq with
      | 0, hp, hq => simp only [List.getElem?_cons_zero, Option.some.injEq] at hp; subst hp; injection hq with hq; subst hq; exact .u64 _
      | 1, hp, hq => simp only [List.getElem?_cons_succ, List.getElem?_cons_zero, Option.some.injEq] at hp; subst hp; injection hq with hq; subst hq; exact .u64 _
      | i + 2, hp, _ => simp at hp
end
end Go.Proofs.YtdpdmgbdipokdaaDoor
namespace Go.Proofs.YtdpdmgbdipokdaaDoor
open Go.RowKit
section
variable {P : Program} {T : Nat → Option AV} {H : Hp} {nm : Nat} {wr : Bool} {d : Option Tmp} {ty t : TypeId} {ps : String} {af : Array Edge} {gd : Option (Nat × Bool)}
/-- A part of a row. -/
theorem op_loadPart {dd : TypeDesc} {x : Operand} {b o m : Nat} {k : ABlk} {r : AV} {cs : List AV} (hu : P.underlying t = some dd) (hna : (match dd with | .struct _ | .array _ _ => true | _ => false) = true) (hz : (P.info? t).map (·.size) = some m) (hx : aev T x = some (.ptr b o)) (hk : H b = some k) (hc : r.parts = some cs) (hm : cs.length = m) (hr : cs = (k.c.list.drop o).take m) (hlt : o + m ≤ k.c.len) (hw0 : r.rowWhole = true := by rfl) (hmp : k.c.isMap = false := by first | rfl | assumption | exact AV.map_parts (by assumption)) :
    OpSem P T H ⟨d, .load t x, ty, ps, af, gd⟩ nm wr r [] :=
  .reads fun E S a w h hR => by
    obtain ⟨l, s, h1, h2⟩ := (h x mem1 _ hx).ptr_inv
    obtain ⟨l', s', h3, h4⟩ := hR.blkR hk hmp
    rw [h1] at h3; injection h3 with h3; injection h3 with e1 e2; subst e1; subst e2
    obtain ⟨arr, tq, fz, g1, g2, g3, g4, g5⟩ := h4
    have hkl : k.c.list.length = k.c.len := len_list _
    have hload := run_loadCells_list (P := P) w ⟨l, o, none⟩ ((arr.toList.drop o).take m) (fun j v hj => by
      rw [add_at, cell_of_row w l (o + j) arr tq fz g1]
      rw [List.getElem?_take] at hj
      split at hj
      · rw [List.getElem?_drop] at hj; simpa using hj
      · cases hj)
    have hlen2 : ((arr.toList.drop o).take m).length = m := by simp; omega
    rw [hlen2] at hload
    refine ⟨.agg ((arr.toList.drop o).take m).toArray, ?_, ?_⟩
    · simp [execOp, h2, Instr.loadAt, Instr.sureAddr, loadVar, run_isAgg_yes hu hna, run_sizeOf_is hz, hload]
    · have key : ∀ (i : Nat) x, cs[i]? = some x → i < m ∧ k.c.list[o + i]? = some x := fun i x hx => by
        have hi : i < m := by rw [← hm]; exact (List.getElem?_eq_some_iff.1 hx).1
        rw [hr, List.getElem?_take, if_pos hi, List.getElem?_drop] at hx
        exact ⟨hi, hx⟩
      refine .agg _ cs _ hc (by simp; omega) (fun x hx => ?_) (fun i x y hx hy => ?_)
      · obtain ⟨i, hi, rfl⟩ := List.mem_iff_getElem.1 hx
        exact cell_one hw0 (by rw [AV.list, hc]; exact List.getElem?_eq_getElem hi) (g5 (o + i) _ (key i _ (List.getElem?_eq_getElem hi)).2).1
      · obtain ⟨hi, hx2⟩ := key i x hx
        obtain ⟨_, y', h6, h7⟩ := g5 (o + i) x hx2
        simp only [List.getElem?_toArray, List.getElem?_take, hi, if_true, List.getElem?_drop] at hy
        rw [Array.getElem?_toList, h6] at hy
        injection hy with hy; subst hy; exact h7
theorem foldset_app (xs ys zc : Array Value) (h : zc.size = xs.size + ys.size) : (ys.zipIdx.foldl (fun cs x => cs.setIfInBounds (xs.size + x.2) x.1) (xs.zipIdx.foldl (fun cs x => cs.setIfInBounds x.2 x.1) zc)) = xs ++ ys := by
  have e : ∀ (l : List Value) (k n : Nat) (cs : Array Value), (l.zipIdx k).foldl (fun cs x => cs.setIfInBounds (n + x.2) x.1) cs = (l.zipIdx (n + k)).foldl (fun cs x => cs.setIfInBounds x.2 x.1) cs := by
    intro l
    induction l with
    | nil => intro k n cs; rfl
    | cons a l ih => intro k n cs; simp only [List.zipIdx_cons, List.foldl_cons]; rw [ih (k + 1) n]; rfl
  rw [← Array.foldl_toList, ← Array.foldl_toList, Array.toList_zipIdx, Array.toList_zipIdx, e ys.toList 0 xs.size]
  obtain ⟨h1, h2⟩ := foldset xs.toList 0 zc (by simp; omega)
  obtain ⟨_, h4⟩ := foldset ys.toList xs.size ((xs.toList.zipIdx 0).foldl (fun cs x => cs.setIfInBounds x.2 x.1) zc) (by rw [h1]; simp; omega)
  refine Array.ext_getElem? fun i => ?_
  rw [Nat.add_zero, h4 i]
  by_cases c : xs.size ≤ i ∧ i < xs.size + ys.toList.length
  · rw [if_pos c, Array.getElem?_append_right c.1]; simp
  · rw [if_neg c, h2 i]
    by_cases c2 : i < xs.size
    · rw [if_pos (by simp; omega), Array.getElem?_append_left c2]; simp
    · rw [if_neg (by simp; omega), Array.getElem?_eq_none (by simp at c; omega), Array.getElem?_eq_none (by simp at c ⊢; omega)]
theorem agg64_app {E : Emb} {a b : List UInt64} {da db : Array Value} (ha : Rel E (.agg64 a) (.agg da)) (hb : Rel E (.agg64 b) (.agg db)) : Rel E (.agg64 (a ++ b)) (.agg (da ++ db)) := by
  have ea := row64_inv ha
  have eb := row64_inv hb
  injection ea with ea; injection eb with eb
  subst ea; subst eb
  have e : (.agg (((a.map fun x => (x.toNat : Int)).map (Value.int .u64)).toArray ++ ((b.map fun x => (x.toNat : Int)).map (Value.int .u64)).toArray) : Value) = .agg (((a ++ b).map fun x => (x.toNat : Int)).map (Value.int .u64)).toArray := by simp
  rw [e]
  refine .agg _ ((a ++ b).map .u64) _ rfl (by simp) (fun x hx => ?_) (fun i x y hx hy => ?_)
  · obtain ⟨z, _, rfl⟩ := List.mem_map.1 hx; rfl
  · obtain ⟨z, hz, rfl⟩ := get_map_some (l := a ++ b) hx
    rw [List.getElem?_toArray, List.getElem?_map, List.getElem?_map, hz] at hy
    simp only [Option.map_some, Option.some.injEq] at hy
    subst hy; exact .u64 _
/-- A struct of two rows. -/
theorem op_buildPair {zc : Array Value} {x y : Operand} {l r : List UInt64} {f g : Field} (hu : P.underlying t = some (.struct #[f, g])) (ho : f.offset = 0) (ho2 : g.offset = l.length) (hf : (P.info? f.type).map (·.size) = some l.length) (hg : (P.info? g.type).map (·.size) = some r.length) (hz : (P.info? t).map (·.zero) = some (some (.agg zc))) (hs : zc.size = l.length + r.length) (hx : aev T x = some (.agg64 l)) (hy : aev T y = some (.agg64 r)) :
    OpSem P T H ⟨d, .build t #[(0, x), (1, y)], ty, ps, af, gd⟩ nm wr (.agg64 (l ++ r)) [] :=
  .quiet fun E a w h => by
    have h1 := h x (by simp [Op.operands]) _ hx
    have h2 := h y (by simp [Op.operands]) _ hy
    obtain ⟨dl', hd, hl, _⟩ := h1.agg_inv (cs := l.map .u64) rfl
    obtain ⟨dr, hd2, hl2, _⟩ := h2.agg_inv (cs := r.map .u64) rfl
    have hl : dl'.size = l.length := by rw [← hl]; simp
    have hl2 : dr.size = r.length := by rw [← hl2]; simp
    rw [hd] at h1; rw [hd2] at h2
    refine ⟨.agg (dl' ++ dr), ?_, agg64_app h1 h2⟩
    have key := foldset_app dl' dr zc (by omega)
    have e : Instr.fill (fun i => (#[(f.offset, l.length), (g.offset, r.length)] : Array (Nat × Nat))[i]?) zc [(0, .agg dl'), (1, .agg dr)] = some (dl' ++ dr) := by
      have s1 : (dl'.zipIdx.foldl (fun cs x => cs.setIfInBounds x.2 x.1) zc).size = zc.size := by
        rw [← Array.foldl_toList, Array.toList_zipIdx]; exact (foldset dl'.toList 0 zc (by simp; omega)).1
      show (if dl'.size ≠ l.length || f.offset + dl'.size > zc.size then none else
        (if dr.size ≠ r.length || g.offset + dr.size > (dl'.zipIdx.foldl (fun cs x => cs.setIfInBounds (f.offset + x.2) x.1) zc).size then none else
          some (dr.zipIdx.foldl (fun cs x => cs.setIfInBounds (g.offset + x.2) x.1) (dl'.zipIdx.foldl (fun cs x => cs.setIfInBounds (f.offset + x.2) x.1) zc)))) = _
      have z : (fun (cs : Array Value) (x : Value × Nat) => cs.setIfInBounds (f.offset + x.2) x.1) = fun cs x => cs.setIfInBounds x.2 x.1 := by funext cs x; rw [ho, Nat.zero_add]
      rw [z, if_neg (by rw [ho]; simp; omega), if_neg (by rw [ho2, s1]; simp; omega), ho2, ← hl, key]
    simp only [execOp, Sem.run_bind, Instr.build, run_zero hz, Result.andThen_ok, run_underlying hu, Value.cells]
    have em : (#[f, g].mapM (fun f => do pure (f.offset, ← sizeOf f.type) : Field → Sem (Nat × Nat))).run P w = .ok #[(f.offset, l.length), (g.offset, r.length)] w := by
      simp [run_sizeOf_is hf, run_sizeOf_is hg]
    rw [em]
    simp only [Result.andThen_ok]
    have e2 : (#[((0 : Nat), x), (1, y)].map fun (i, x) => (i, a.eval x)).toList = [(0, .agg dl'), (1, .agg dr)] := by simp [hd, hd2]
    rw [e2, e]
    simp
/-- A struct of two rows, of which the first is given. -/
theorem op_buildFirst {x : Operand} {l r : List UInt64} {f g : Field} (hu : P.underlying t = some (.struct #[f, g])) (ho : f.offset = 0) (hf : (P.info? f.type).map (·.size) = some l.length) (hg : (P.info? g.type).map (·.size) = some r.length) (hz : (P.info? t).map (·.zero) = some (some (.agg (Array.replicate (l.length + r.length) (.int .u64 0))))) (hr : r = List.replicate r.length 0) (hx : aev T x = some (.agg64 l)) :
    OpSem P T H ⟨d, .build t #[(0, x)], ty, ps, af, gd⟩ nm wr (.agg64 (l ++ r)) [] :=
  .quiet fun E a w h => by
    have h1 := h x (by simp [Op.operands]) _ hx
    obtain ⟨dl', hd, hl, _⟩ := h1.agg_inv (cs := l.map .u64) rfl
    have hl : dl'.size = l.length := by rw [← hl]; simp
    rw [hd] at h1
    have hz2 : Rel E (.agg64 r) (.agg (Array.replicate r.length (.int .u64 0))) := by
      have := rz_64 E r.length
      rw [← hr] at this; exact this
    refine ⟨.agg (dl' ++ Array.replicate r.length (.int .u64 0)), ?_, agg64_app h1 hz2⟩
    have e : Instr.fill (fun i => (#[(f.offset, l.length), (g.offset, r.length)] : Array (Nat × Nat))[i]?) (Array.replicate (l.length + r.length) (.int .u64 0)) [(0, .agg dl')] = some (dl' ++ Array.replicate r.length (.int .u64 0)) := by
      have key : dl'.zipIdx.foldl (fun cs x => cs.setIfInBounds x.2 x.1) (Array.replicate (l.length + r.length) (.int .u64 0)) = dl' ++ Array.replicate r.length (.int .u64 0) := by
        rw [← Array.foldl_toList, Array.toList_zipIdx]
        obtain ⟨_, h2⟩ := foldset dl'.toList 0 (Array.replicate (l.length + r.length) (.int .u64 0)) (by simp; omega)
        refine Array.ext_getElem? fun i => ?_
        rw [h2 i]
        by_cases c : i < dl'.size
        · rw [if_pos (by simp; omega), Array.getElem?_append_left c]; simp
        · rw [if_neg (by simp; omega), Array.getElem?_append_right (by omega), Array.getElem?_replicate, Array.getElem?_replicate]
          by_cases c2 : i < l.length + r.length
          · rw [if_pos c2, if_pos (by omega)]
          · rw [if_neg c2, if_neg (by omega)]
      show (if dl'.size ≠ l.length || f.offset + dl'.size > (Array.replicate (l.length + r.length) (Value.int .u64 0)).size then none else
          some (dl'.zipIdx.foldl (fun cs x => cs.setIfInBounds (f.offset + x.2) x.1) (Array.replicate (l.length + r.length) (.int .u64 0)))) = _
      have z : (fun (cs : Array Value) (x : Value × Nat) => cs.setIfInBounds (f.offset + x.2) x.1) = fun cs x => cs.setIfInBounds x.2 x.1 := by funext cs x; rw [ho, Nat.zero_add]
      rw [z, if_neg (by rw [ho]; simp; omega), key]
    simp only [execOp, Sem.run_bind, Instr.build, run_zero hz, Result.andThen_ok, run_underlying hu, Value.cells]
    have em : (#[f, g].mapM (fun f => do pure (f.offset, ← sizeOf f.type) : Field → Sem (Nat × Nat))).run P w = .ok #[(f.offset, l.length), (g.offset, r.length)] w := by
      simp [run_sizeOf_is hf, run_sizeOf_is hg]
    rw [em]
    simp only [Result.andThen_ok]
    have e2 : (#[((0 : Nat), x)].map fun (i, x) => (i, a.eval x)).toList = [(0, .agg dl')] := by simp [hd]
    rw [e2, e]
    simp
end
end Go.Proofs.YtdpdmgbdipokdaaDoor
namespace Go.Proofs.YtdpdmgbdipokdaaDoor
open Go.RowKit
/-- The cells of a value as they lie in a row. -/
def AV.cells (a : AV) : List AV := match a.parts with
  | some cs => cs
  | none => [a]
def setAt (l : List AV) (o : Nat) (cs : List AV) : List AV := l.take o ++ (cs ++ l.drop (o + cs.length))
def fillA (pl : List (Nat × Nat)) : List AV → List (Nat × AV) → Option (List AV)
  | l, [] => some l
  | l, (i, v) :: r => match pl[i]? with
    | none => none
    | some (o, s) => match Nat.beq v.cells.length s && Nat.ble (o + s) l.length && v.cells.all AV.one with
      | true => fillA pl (setAt l o v.cells) r
      | false => none
/-- Cells that read as these values. -/
def RowRel (E : Emb) (l : List AV) (arr : Array Value) : Prop := l.length = arr.size ∧ (∀ x ∈ l, x.one = true) ∧ ∀ (i : Nat) x y, l[i]? = some x → arr[i]? = some y → Rel E x y
theorem rowrel_of {E : Emb} {v : AV} {y : Value} (h : Rel E v y) (h1 : v.cells.all AV.one = true) : RowRel E v.cells y.cells := by
  unfold AV.cells at *
  cases hp : v.parts with
  | some cs =>
    obtain ⟨ds, e, g1, g2, g3⟩ := h.agg_inv hp
    subst e
    exact ⟨g1, g2, g3⟩
  | none =>
    simp only [hp, List.all_cons, List.all_nil, Bool.and_true] at h1
    have e : y.cells = #[y] := by
      have := h.one h1
      cases y <;> first | rfl | (simp [Value.oneCell'] at this)
    simp only [e]
    refine ⟨rfl, fun x hx => by simp at hx; rw [hx]; exact h1, fun i x y' hx hy => ?_⟩
    match i, hx, hy with
    | 0, hx, hy => simp at hx hy; subst hx; subst hy; exact h
    | i + 1, hx, _ => simp at hx
theorem foldset_at (ys zc : Array Value) (o : Nat) (h : o + ys.size ≤ zc.size) : (ys.zipIdx.foldl (fun cs x => cs.setIfInBounds (o + x.2) x.1) zc).size = zc.size ∧ ∀ i, (ys.zipIdx.foldl (fun cs x => cs.setIfInBounds (o + x.2) x.1) zc)[i]? = if o ≤ i ∧ i < o + ys.size then ys[i - o]? else zc[i]? := by
  have e : ∀ (l : List Value) (k n : Nat) (cs : Array Value), (l.zipIdx k).foldl (fun cs x => cs.setIfInBounds (n + x.2) x.1) cs = (l.zipIdx (n + k)).foldl (fun cs x => cs.setIfInBounds x.2 x.1) cs := by
    intro l
    induction l with
    | nil => intro k n cs; rfl
    | cons a l ih => intro k n cs; simp only [List.zipIdx_cons, List.foldl_cons]; rw [ih (k + 1) n]; rfl
  rw [← Array.foldl_toList, Array.toList_zipIdx, e ys.toList 0 o, Nat.add_zero]
  obtain ⟨h1, h2⟩ := foldset ys.toList o zc (by simpa using h)
  exact ⟨h1, fun i => by rw [h2 i]; simp⟩
theorem rowrel_set {E : Emb} {l : List AV} {arr : Array Value} {cs : List AV} {ys : Array Value} {o : Nat} (h : RowRel E l arr) (h2 : RowRel E cs ys) (ho : o + cs.length ≤ l.length) : RowRel E (setAt l o cs) (ys.zipIdx.foldl (fun cs x => cs.setIfInBounds (o + x.2) x.1) arr) := by
  obtain ⟨a1, a2, a3⟩ := h
  obtain ⟨b1, b2, b3⟩ := h2
  obtain ⟨f1, f2⟩ := foldset_at ys arr o (by omega)
  refine ⟨?_, fun x hx => ?_, fun i x y hx hy => ?_⟩
  · rw [f1]; simp only [setAt, List.length_append, List.length_take, List.length_drop]; omega
  · simp only [setAt, List.mem_append] at hx
    rcases hx with hx | hx | hx
    · exact a2 x (List.mem_of_mem_take hx)
    · exact b2 x hx
    · exact a2 x (List.mem_of_mem_drop hx)
  · rw [f2 i] at hy
    simp only [setAt] at hx
    have hto : (l.take o).length = o := by rw [List.length_take]; omega
    by_cases c1 : i < o
    · rw [if_neg (by omega)] at hy
      rw [List.getElem?_append_left (by omega), List.getElem?_take, if_pos c1] at hx
      exact a3 i x y hx hy
    · rw [List.getElem?_append_right (by omega), hto] at hx
      by_cases c2 : i < o + cs.length
      · rw [if_pos (by omega)] at hy
        rw [List.getElem?_append_left (by omega)] at hx
        exact b3 _ x y hx hy
      · rw [if_neg (by omega)] at hy
        rw [List.getElem?_append_right (by omega), List.getElem?_drop, show o + cs.length + (i - o - cs.length) = i by omega] at hx
        exact a3 i x y hx hy
theorem fillA_spec {E : Emb} {pl : Array (Nat × Nat)} : ∀ (vs : List (Nat × AV)) (ys : List (Nat × Value)) (l : List AV) (arr : Array Value) (r : List AV), RowRel E l arr → vs.length = ys.length → (∀ (i : Nat) p q, vs[i]? = some p → ys[i]? = some q → p.1 = q.1 ∧ Rel E p.2 q.2) → fillA pl.toList l vs = some r →
    ∃ arr', Instr.fill (fun i => pl[i]?) arr ys = some arr' ∧ RowRel E r arr'
  | [], [], l, arr, r, h, _, _, hf => by injection hf with hf; subst hf; exact ⟨arr, rfl, h⟩
  | (i, v) :: vs, (j, y) :: ys, l, arr, r, h, hl, hr, hf => by
    obtain ⟨e, hv⟩ := hr 0 _ _ rfl rfl
    simp only at e hv; subst e
    unfold fillA at hf
    rw [Array.getElem?_toList] at hf
    cases hp : pl[i]? with
    | none => rw [hp] at hf; cases hf
    | some p =>
      obtain ⟨o, s⟩ := p
      rw [hp] at hf
      simp only at hf
      split at hf
      · rename_i hc
        simp only [Bool.and_eq_true] at hc
        obtain ⟨⟨c1, c2⟩, c3⟩ := hc
        have c1 := Nat.eq_of_beq_eq_true c1
        have c2 := Nat.le_of_ble_eq_true c2
        have hrow := rowrel_of hv c3
        have hs : y.cells.size = s := by rw [← hrow.1]; exact c1
        have hsz : arr.size = l.length := h.1.symm
        obtain ⟨arr', g1, g2⟩ := fillA_spec vs ys (setAt l o v.cells) _ r (rowrel_set (o := o) h hrow (by omega)) (by simpa using hl) (fun k p q hp hq => hr (k + 1) p q hp hq) hf
        refine ⟨arr', ?_, g2⟩
        show (match (fun i => pl[i]?) i with
          | none => none
          | some (off, size) => if y.cells.size ≠ size || off + y.cells.size > arr.size then none else Instr.fill (fun i => pl[i]?) (y.cells.zipIdx.foldl (fun cs x => cs.setIfInBounds (off + x.2) x.1) arr) ys) = some arr'
        simp only [hp]
        rw [if_neg (by simp; omega)]
        exact g1
      · cases hf
  | [], _ :: _, _, _, _, _, hl, _, _ => by simp at hl
  | _ :: _, [], _, _, _, _, hl, _, _ => by simp at hl
def opsA (T : Nat → Option AV) : List (Nat × Operand) → Option (List (Nat × AV))
  | [] => some []
  | (i, x) :: r => match aev T x, opsA T r with
    | some v, some vs => some ((i, v) :: vs)
    | _, _ => none
theorem opsA_spec {T : Nat → Option AV} {E : Emb} {f : Operand → Value} : ∀ (ps : List (Nat × Operand)) (vs : List (Nat × AV)), opsA T ps = some vs → (∀ p ∈ ps, ∀ u, aev T p.2 = some u → Rel E u (f p.2)) → vs.length = ps.length ∧ ∀ (i : Nat) p q, vs[i]? = some p → (ps.map fun (i, x) => (i, f x))[i]? = some q → p.1 = q.1 ∧ Rel E p.2 q.2
  | [], vs, h, _ => by injection h with h; subst h; exact ⟨rfl, fun i p q hp => by cases hp⟩
  | (i, x) :: r, vs, h, hr => by
    unfold opsA at h
    split at h
    · rename_i v vs' h1 h2
      injection h with h; subst h
      obtain ⟨g1, g2⟩ := opsA_spec r vs' h2 (fun p hp => hr p (List.mem_cons_of_mem _ hp))
      refine ⟨by simp [g1], fun k p q hp hq => ?_⟩
      cases k with
      | zero => simp at hp hq; subst hp; subst hq; exact ⟨rfl, hr _ (List.mem_cons_self ..) _ h1⟩
      | succ k => simp at hp hq; exact g2 k p q hp (by simpa using hq)
    · cases h
def placesA (P : Program) : List Field → Option (List (Nat × Nat))
  | [] => some []
  | f :: r => match (P.info? f.type).map (·.size), placesA P r with
    | some s, some pl => some ((f.offset, s) :: pl)
    | _, _ => none
theorem placesA_run {P : Program} (w : World) : ∀ (fs : List Field) (pl : List (Nat × Nat)), placesA P fs = some pl → (fs.mapM (fun f => do pure (f.offset, ← sizeOf f.type) : Field → Sem (Nat × Nat))).run P w = .ok pl w
  | [], pl, h => by injection h with h; subst h; simp
  | f :: r, pl, h => by
    unfold placesA at h
    split at h
    · rename_i s pl' h1 h2
      injection h with h; subst h
      have ih := placesA_run w r pl' h2
      rw [List.mapM_cons]
      simp only [Sem.run_bind, run_sizeOf_is h1, Result.andThen_ok, Sem.run_pure, ih]
    · cases h
section
variable {P : Program} {T : Nat → Option AV} {H : Hp} {nm : Nat} {wr : Bool} {d : Option Tmp} {ty t : TypeId} {ps : String} {af : Array Edge} {gd : Option (Nat × Bool)}
/-- A struct built of some of its fields. -/
theorem op_buildS {zc : Array Value} {z0 r : AV} {fs : Array Field} {pl : List (Nat × Nat)} {ops : Array (Nat × Operand)} {vs : List (Nat × AV)} {cs : List AV} (hu : P.underlying t = some (.struct fs)) (hpl : placesA P fs.toList = some pl) (hz : (P.info? t).map (·.zero) = some (some (.agg zc))) (hz0 : Rel Emb.nil z0 (.agg zc)) (hp0 : z0.parts.isSome = true)
    (hv : opsA T ops.toList = some vs) (hf : fillA pl z0.list vs = some cs) (hr : r.parts = some cs) : OpSem P T H ⟨d, .build t ops, ty, ps, af, gd⟩ nm wr r [] :=
  .quiet fun E a w h => by
    obtain ⟨g1, g2⟩ := opsA_spec (E := E) (f := a.eval) ops.toList vs hv (fun p hp u hu => h p.2 (by
      simp only [Op.operands]
      first
      | exact List.mem_toArray.2 (List.mem_map.2 ⟨p, hp, rfl⟩)
      | (simp; exact ⟨p.1, by simpa using hp⟩)) u hu)
    have hrow : RowRel E z0.list zc := by
      have hz1 : Rel E z0 (.agg zc) := hz0.mono (Emb.nil_le _)
      unfold AV.list
      cases hq : z0.parts with
      | none => rw [hq] at hp0; cases hp0
      | some l =>
        obtain ⟨ds, e, g1, g2, g3⟩ := hz1.agg_inv hq
        injection e with e; subst e
        exact ⟨g1, g2, g3⟩
    obtain ⟨arr', k1, k2⟩ := fillA_spec (pl := pl.toArray) vs (ops.toList.map fun (i, x) => (i, a.eval x)) z0.list zc cs hrow (by rw [g1]; simp) g2 hf
    refine ⟨.agg arr', ?_, .agg _ cs _ hr k2.1 k2.2.1 k2.2.2⟩
    have em : (fs.mapM (fun f => do pure (f.offset, ← sizeOf f.type) : Field → Sem (Nat × Nat))).run P w = .ok pl.toArray w := by
      have := placesA_run (P := P) w fs.toList pl hpl
      rw [Array.mapM_eq_mapM_toList, map_eq_pure_bind, Sem.run_bind, this]
      rfl
    simp only [execOp, Sem.run_bind, Instr.build, run_zero hz, Result.andThen_ok, run_underlying hu, Value.cells]
    rw [em]
    simp only [Result.andThen_ok]
    have e2 : (ops.map fun (i, x) => (i, a.eval x)).toList = ops.toList.map fun (i, x) => (i, a.eval x) := by simp
    rw [e2, k1]
    simp
/-- Bytes marked as a string's: nobody owns them any more. -/
theorem op_mark {e : TypeId} {x : Operand} {b o n z : Nat} {k : ABlk} (hs : P.underlying t = some (.slice e)) (he : P.underlying e = some (.int .u8)) (hx : aev T x = some (.sl b o n z)) (hn0 : 0 < n) (hk : H b = some k) (hown : k.own = true) (hne0 : Nat.beq k.elem errT = false := by rfl) (hlt0 : Nat.blt k.elem frz = true := by rfl) (hmp : k.c.isMap = false := by first | rfl | assumption | exact AV.map_parts (by assumption)) : OpSem P T H ⟨d, .convert t t x, ty, ps, af, gd⟩ nm true (.sl b o n z) [(b, some { k with own := false })] := by
  intro E S n0 H2 a w hS hn0' _ _ hwr hle hop hR hf K Q hK
  have hne : k.elem ≠ errT := fun h => by rw [h] at hne0; simp at hne0
  have hlt : k.elem < frz := blt_true hlt0
  have e0 := hwr rfl; subst e0
  have hrx := hop x (by simp [Op.operands]) _ hx
  obtain ⟨l, s, h3, arr, tq, fz, g1, g2, g3, g4, g5⟩ := hR.blkR hk hmp
  rcases hrx.sl_inv with ⟨lc, s', cp, q1, q2, q3, q4, q5⟩ | ⟨ad, hz0, q5⟩
  · rw [q1] at h3; injection h3 with h3; injection h3 with e1 e2; subst e1; subst e2
    obtain ⟨w', hw'⟩ : ∃ w', w' = w.freeze ⟨lc, arr.size, none⟩ 1 := ⟨_, rfl⟩
    have hsh : w.shape? lc = some (tq, arr.size) := by simp [World.shape?, g1]
    have hrun : (convert t t (a.eval x)).run P w = .ok (a.eval x) w' := by
      rw [q5, hw']
      simp [convert, run_underlying hs, run_underlying he, markStringish, hsh]
    have hl : ∃ fz', w'.heap[lc]? = some (.cells arr tq fz') := by
      rw [hw']
      unfold World.freeze
      rw [if_neg (by decide)]
      simp only [Array.getElem?_modify, if_true, g1, Option.map_some]
      exact ⟨_, rfl⟩
    have ho : ∀ j, j ≠ lc → w'.heap[j]? = w.heap[j]? := fun j hj => by
      rw [hw']
      unfold World.freeze
      rw [if_neg (by decide)]
      simp only [Array.getElem?_modify]
      rw [if_neg (fun h => hj h.symm)]
    have hsz : w'.heap.size = w.heap.size := by
      rw [hw']
      unfold World.freeze
      rw [if_neg (by decide)]
      simp
    have hfr : w'.os = w.os ∧ w'.tape = w.tape ∧ w'.output = w.output := by
      rw [hw']
      unfold World.freeze
      rw [if_neg (by decide)]
      exact ⟨rfl, rfl, rfl⟩
    have hdr : DrOk w w' := by
      rw [hw']
      unfold World.freeze
      rw [if_neg (by decide)]
      exact .same rfl
    obtain ⟨fz', hl⟩ := hl
    unfold Oper.wp
    have hex : (execOp a.eval ⟨d, .convert t t x, ty, ps, af, gd⟩).run P w = .ok (.value (a.eval x)) w' := by
      simp [execOp, hrun]
    rw [hex]
    refine hK (a.eval x) w' E (fun _ _ => rfl) (Emb.dx_refl _ _) hrx ⟨fun n' k' hn => ?_, fun n1 n2 k1 k2 l1 s1 s1' f1 f2 f3 f4 f5 => ?_, fun n1 k1 l1 s1 f1 f2 f3 => ?_, fun a1 L1 s9 ha => ?_⟩ ⟨hfr.1, hfr.2.1, hfr.2.2, Nat.le_of_eq hsz.symm, fun j hj hns => ho j (fun e => hns (by rw [e]; exact hR.own b k lc s' hk hown q1)), hdr⟩
    rotate_right 1
    · have hd := hR.deep a1 L1 s9 ha
      refine ⟨hd.1.mono (ho a1 (fun e => hd.2 b k s' hk hown (by rw [q1, e]))), fun n2 k2 s2 h1 h2 => ?_⟩
      rw [upd_one] at h1
      split at h1
      · injection h1 with h1; subst h1; cases h2
      · exact hd.2 n2 k2 s2 h1 h2
    · rw [upd_one] at hn
      split at hn
      · rename_i e; subst e; injection hn with hn; subst hn
        exact ⟨lc, s', q1, .row hmp ⟨arr, tq, fz', hl, g2, ⟨⟨(fun h => by cases h), fun h => absurd h hne, fun _ h => absurd h (Nat.not_le.2 hlt)⟩, .inr (.inl ⟨g3.2.is hne hlt, .inr hlt⟩)⟩, g4, g5⟩⟩
      · rename_i e
        obtain ⟨l1, s1, f1, f2⟩ := hR.blk n' k' hn
        exact ⟨l1, s1, f1, f2.mono (Emb.le_refl _) (ho l1 (fun el => by subst el; exact e (hR.inj b n' k k' l1 s' s1 hk hn hown q1 f1).symm))⟩
    · rw [upd_one] at f1 f2
      by_cases c1 : n1 = b
      · rw [if_pos c1] at f1; injection f1 with f1; subst f1; cases f3
      · rw [if_neg c1] at f1
        by_cases c2 : n2 = b
        · subst c2
          exact hR.inj n1 n2 k1 k l1 s1 s1' f1 hk f3 f4 f5
        · rw [if_neg c2] at f2
          exact hR.inj n1 n2 k1 k2 l1 s1 s1' f1 f2 f3 f4 f5
    · rw [upd_one] at f1
      split at f1
      · injection f1 with f1; subst f1; cases f2
      · exact hR.own n1 k1 l1 s1 f1 f2 f3
  · omega
end
/-- A slot may be written in any way that stands for no less. -/
theorem Ev.asR {P : Program} {nt : Nat} {c : Code} {T1 T2 : List (Nat × AV)} {H : List (Nat × Option ABlk)} {nx : Nat} {post : Exit → St → Prop} {s : Nat} {v : AV} (v' : AV) (hv : ∀ E y, Rel E v y → Rel E v' y) (h : Ev P nt c ⟨T1 ++ (s, v') :: T2, H, nx⟩ post) : Ev P nt c ⟨T1 ++ (s, v) :: T2, H, nx⟩ post :=
  fun E S n0 a w hn hR => h E S n0 a w hn ⟨fun t u ht => by
    have hl := lk_append T1 ((s, v') :: T2) t
    rw [hl] at ht
    cases hq : lk T1 t with
    | some u' =>
      rw [hq] at ht; injection ht with ht; subst ht
      exact hR.rt t _ (by rw [lk_append, hq]; rfl)
    | none =>
      rw [hq] at ht
      simp only [Option.none_or, lk] at ht
      split at ht
      · rename_i e
        injection ht with ht; subst ht
        exact hv _ _ (hR.rt t v (by rw [lk_append, hq]; simp only [Option.none_or, lk, e]))
      · rename_i e
        exact hR.rt t u (by rw [lk_append, hq]; simp only [Option.none_or, lk, e]; exact ht), hR.nt, hR.df, hR.rh, hR.fr, hR.gl, hR.hS, hR.h0⟩
/-- nil is an empty slice. -/
theorem rel_nil_sl {E : Emb} {y : Value} (h : Rel E .nilsl y) (b o z : Nat) : Rel E (.sl b o 0 z) y := by rw [h.nilsl_inv]; exact .sl0 _ _ _ _
/-- A block that nobody owns, under a second name, of it the head. -/
theorem Ev.twin {P : Program} {nt : Nat} {c : Code} {T : List (Nat × AV)} {H : List (Nat × Option ABlk)} {nx : Nat} {post : Exit → St → Prop} {b m e : Nat} {k c' : AV} (hb : hget H b = some ⟨k, e, false⟩) (hc : c'.list = k.list.take m) (h : Ev P nt c ⟨T, (nx, some ⟨c', e, false⟩) :: H, nx + 8⟩ post) (hm1 : k.isMap = false := by first | rfl | assumption | exact AV.map_parts (by assumption)) (hm2 : c'.isMap = false := by first | rfl | assumption | exact AV.map_parts (by assumption)) : Ev P nt c ⟨T, H, nx⟩ post := by
  intro E S n0 a w hn hR
  obtain ⟨l, s, h1, h2⟩ := hR.rh.blkR hb hm1
  have hnx : E nx = none := hR.fr nx (Nat.le_refl _)
  have hle := Emb.put_le (E := E) (b := nx) (p := (l, s)) hnx
  have old : ∀ n k', hget H n = some k' → n ≠ nx := fun n k' hk e => by
    subst e; obtain ⟨l, s, h1, _⟩ := hR.rh.blk n k' hk; rw [hnx] at h1; cases h1
  have hup : ∀ n, hget ((nx, some ⟨c', e, false⟩) :: H) n = if n = nx then some ⟨c', e, false⟩ else hget H n := fun n => by
    have := upd_one nx (some ⟨c', e, false⟩) (hget H) n
    rw [upd_hget] at this
    exact this
  have hR2 : RS (E.put nx (l, s)) S n0 nt ⟨T, (nx, some ⟨c', e, false⟩) :: H, nx + 8⟩ a w := by
    refine ⟨fun t u ht => (hR.rt t u ht).mono hle, hR.nt, hR.df, ⟨fun n k' hk => ?_, fun n n' k1 k2 q s1 s2 g1 g2 g3 g4 g5 => ?_, fun n k' q s1 g1 g2 g3 => ?_, fun a1 L1 s9 ha => ⟨(hR.rh.deep a1 L1 s9 ha).1, fun n k' s2 g1 g2 g3 => ?_⟩⟩, fun n hn' => ?_, fun g hg => ?_, hR.hS, hR.h0⟩
    rotate_left 3
    · rw [hup] at g1
      by_cases e1 : n = nx
      · rw [if_pos e1] at g1; injection g1 with g1; subst g1; cases g2
      · rw [if_neg e1] at g1
        rw [Emb.put_other _ _ e1] at g3
        exact (hR.rh.deep a1 L1 s9 ha).2 n k' s2 g1 g2 g3
    rotate_right 3
    · rw [hup] at hk
      split at hk
      · rename_i e1; subst e1; injection hk with hk; subst hk
        obtain ⟨arr, tq, fz, q1, q2, q3, q4, q5⟩ := h2
        refine ⟨l, s, Emb.put_same _ _ _, .row hm2 ⟨arr, tq, fz, q1, q2, ⟨⟨fun h => (by cases h), q3.1.z, fun _ h h' => ⟨(q3.1.f rfl h h').1, by rw [hc, List.length_take]; have h9 : k.list.length ≤ fz.2 := (q3.1.f rfl h h').2; omega⟩⟩, q3.2⟩, ?_, fun i x hx => ?_⟩⟩
        · rw [hc, List.length_take]; have : k.list.length ≤ s := q4; omega
        · rw [hc, List.getElem?_take] at hx
          split at hx
          · obtain ⟨p1, y, p2, p3⟩ := q5 i x hx
            exact ⟨p1, y, p2, p3.mono hle⟩
          · cases hx
      · obtain ⟨q, s1, g1, g2⟩ := hR.rh.blk n k' hk
        exact ⟨q, s1, hle.1 _ _ g1, g2.mono hle rfl⟩
    · rw [hup] at g1 g2
      by_cases e1 : n = nx
      · rw [if_pos e1] at g1; injection g1 with g1; subst g1; cases g3
      · rw [if_neg e1] at g1
        rw [Emb.put_other _ _ e1] at g4
        by_cases e2 : n' = nx
        · subst e2
          rw [Emb.put_same] at g5; injection g5 with g5; injection g5 with e3 e4; subst e3; subst e4
          have := hR.rh.inj n b k1 _ _ _ _ g1 hb g3 g4 h1
          subst this
          rw [hb] at g1; injection g1 with g1; subst g1; cases g3
        · rw [if_neg e2] at g2
          rw [Emb.put_other _ _ e2] at g5
          exact hR.rh.inj n n' k1 k2 q s1 s2 g1 g2 g3 g4 g5
    · rw [hup] at g1
      by_cases e1 : n = nx
      · rw [if_pos e1] at g1; injection g1 with g1; subst g1; cases g2
      · rw [if_neg e1] at g1
        rw [Emb.put_other _ _ e1] at g3
        exact hR.rh.own n k' q s1 g1 g2 g3
    · have : n ≠ nx := by have : nx + 8 ≤ n := hn'; omega
      rw [Emb.put_other _ _ this]; exact hR.fr n (by have : nx + 8 ≤ n := hn'; show nx ≤ n; omega)
    · have hg2 : g < nx := by have : 1000 ≤ nx := hn; omega
      obtain ⟨s1, q⟩ := hR.gl g hg
      exact ⟨s1, hle.1 _ _ q⟩
  exact wp_mono (h _ S n0 a w (by have : 1000 ≤ nx := hn; show 1000 ≤ nx + 8; omega) hR2) fun e a' w' hD => Done.trans ⟨fun b hb => Emb.put_other _ _ (by have : 1000 ≤ nx := hn; omega), Emb.dx_refl _ _⟩ (Fr.refl _ _) hD
end Go.Proofs.YtdpdmgbdipokdaaDoor
namespace Go.Proofs.YtdpdmgbdipokdaaDoor
open Go.RowKit
section
variable {P : Program} {T : Nat → Option AV} {H : Hp} {nm : Nat} {wr : Bool} {v u u1 u2 : AV} {d : Option Tmp} {ty : TypeId} {ps : String} {af : Array Edge} {gd : Option (Nat × Bool)} {t t2 te : TypeId} {x y : Operand} {b o : Nat}
theorem run_eqP_nil (hp : P.underlying t = some (.pointer te)) (p : Option Addr) (w : World) : (Op.equalIn 10000 t (.pointer p) (.pointer none)).run P w = .ok p.isNone w := by
  have h : ∀ d : Nat, (Op.equalIn (d + 1) t (.pointer p) (.pointer none)).run P w = .ok p.isNone w := fun d => by
    cases p <;> simp [Op.equalIn, run_underlying hp]
  exact h 9999
/-- A pointer beside nil. -/
theorem op_eqPtrNil {op : BinOp} {t' : TypeId} (hp : P.underlying t = some (.pointer te)) (hx : aev T x = some (.ptr b o)) (hy : aev T y = some (.val (.pointer none))) (hv : (match op with | .eql => some (AV.bool false) | .neq => some (.bool true) | _ => none) = some v) :
    OpSem P T H ⟨d, .binOp op t x y t', ty, ps, af, gd⟩ nm wr v [] :=
  op_bin hx hy fun E y1 y2 w h1 h2 => by
    obtain ⟨l, s, _, h3⟩ := h1.ptr_inv
    rw [h3, h2.val_inv]
    have e := run_eqP_nil hp (some ⟨l, o, none⟩) w
    cases op <;> simp only [Option.some.injEq, reduceCtorEq] at hv <;> subst hv
    · exact ⟨.bool false, by simp [eqGuard, binOp, Op.equal, Op.maxDepth, e], .bool _⟩
    · exact ⟨.bool true, by simp [eqGuard, binOp, Op.equal, Op.maxDepth, e], .bool _⟩
theorem op_eqNilPtr {op : BinOp} {t' : TypeId} (hp : P.underlying t = some (.pointer te)) (hx : aev T x = some (.val (.pointer none))) (hy : aev T y = some (.val (.pointer none))) (hv : (match op with | .eql => some (AV.bool true) | .neq => some (.bool false) | _ => none) = some v) :
    OpSem P T H ⟨d, .binOp op t x y t', ty, ps, af, gd⟩ nm wr v [] :=
  op_bin hx hy fun E y1 y2 w h1 h2 => by
    rw [h1.val_inv, h2.val_inv]
    have e := run_eqP_nil hp none w
    cases op <;> simp only [Option.some.injEq, reduceCtorEq] at hv <;> subst hv
    · exact ⟨.bool true, by simp [eqGuard, binOp, Op.equal, Op.maxDepth, e], .bool _⟩
    · exact ⟨.bool false, by simp [eqGuard, binOp, Op.equal, Op.maxDepth, e], .bool _⟩
/-- A pointer beside itself. -/
theorem op_eqPtrSame {op : BinOp} {t' : TypeId} (hp : P.underlying t = some (.pointer te)) (hte : (P.info? te).isSome = true) (hx : aev T x = some (.ptr b o)) (hy : aev T y = some (.ptr b o)) (hv : (match op with | .eql => some (AV.bool true) | .neq => some (.bool false) | _ => none) = some v) :
    OpSem P T H ⟨d, .binOp op t x y t', ty, ps, af, gd⟩ nm wr v [] :=
  op_bin hx hy fun E y1 y2 w h1 h2 => by
    obtain ⟨l, s, g1, h3⟩ := h1.ptr_inv
    obtain ⟨l', s', g2, h4⟩ := h2.ptr_inv
    rw [g1] at g2; injection g2 with g2; injection g2 with e1 e2; subst e1
    obtain ⟨j, hj⟩ := Option.isSome_iff_exists.1 hte
    have e0 : ∀ d : Nat, (Op.equalIn (d + 1) t (.pointer (some ⟨l, o, none⟩)) (.pointer (some ⟨l, o, none⟩))).run P w = .ok true w := fun d => by
      simp [Op.equalIn, run_underlying hp, sizeOf, typeInfo, hj, run_sameAddr_same]
    have e := e0 9999
    rw [h3, h4]
    cases op <;> simp only [Option.some.injEq, reduceCtorEq] at hv <;> subst hv
    · exact ⟨.bool true, by simp [eqGuard, binOp, Op.equal, Op.maxDepth, e], .bool _⟩
    · exact ⟨.bool false, by simp [eqGuard, binOp, Op.equal, Op.maxDepth, e], .bool _⟩
/-- Where the sentinel with a number has its cell. -/
def offE (eo : Nat → Nat × Nat) : Nat → Nat × Nat
  | 0 => (0, 0)
  | n + 1 => eo n
theorem run_eqI_nil {ms : Array (String × TypeId)} (hi : P.underlying t = some (.interface ms)) (w : World) (v : Value) (hv : v = .nilIface ∨ ∃ a b, v = .iface a b) : (Op.equalIn 10000 t v .nilIface).run P w = .ok (match v with | .nilIface => true | _ => false) w := by
  have h : ∀ d : Nat, (Op.equalIn (d + 1) t v .nilIface).run P w = .ok (match v with | .nilIface => true | _ => false) w := fun d => by
    rcases hv with rfl | ⟨a, b, rfl⟩ <;> simp [Op.equalIn, run_underlying hi]
  exact h 9999
/-- An error beside the literal nil. -/
theorem op_eqErrNil {op : BinOp} {t' tp : TypeId} {e : Nat} {o : Nat × Nat} {ms : Array (String × TypeId)} (hi : P.underlying t = some (.interface ms)) (hx : aev T x = some (.err tp e o)) (hv : (match op with | .eql => some (AV.bool (e == 0)) | .neq => some (.bool (e != 0)) | _ => none) = some v) :
    OpSem P T H ⟨d, .binOp op t x (.const .nilIface) t', ty, ps, af, gd⟩ nm wr v [] :=
  op_bin hx (show aev T (.const .nilIface) = some (.val .nilIface) from rfl) fun E y1 y2 w h1 h2 => by
    rw [h2.val_inv]
    have hq : (y1 = .nilIface ∧ e = 0) ∨ ((∃ a b, y1 = .iface a b) ∧ e ≠ 0) := by
      rcases h1.err_inv with ⟨h3, h4⟩ | ⟨n, s, h3, _, _, h4⟩
      · exact .inl ⟨h4, h3⟩
      · exact .inr ⟨⟨_, _, h4⟩, by omega⟩
    rcases hq with ⟨rfl, rfl⟩ | ⟨⟨a, b, rfl⟩, he⟩
    · have e := run_eqI_nil hi w .nilIface (.inl rfl)
      cases op <;> simp only [Option.some.injEq, reduceCtorEq] at hv <;> subst hv
      · exact ⟨.bool true, by simp [eqGuard, binOp, Op.equal, Op.maxDepth, e], .bool _⟩
      · exact ⟨.bool false, by simp [eqGuard, binOp, Op.equal, Op.maxDepth, e], .bool _⟩
    · have e2 := run_eqI_nil hi w (.iface a b) (.inr ⟨a, b, rfl⟩)
      have h0 : (e == 0) = false := by simpa using he
      cases op <;> simp only [Option.some.injEq, reduceCtorEq] at hv <;> subst hv
      · rw [h0]; exact ⟨.bool false, by simp [eqGuard, binOp, Op.equal, Op.maxDepth, e2], .bool _⟩
      · rw [show (e != 0) = true by simpa using he]; exact ⟨.bool true, by simp [eqGuard, binOp, Op.equal, Op.maxDepth, e2], .bool _⟩
/-- Any other error beside the literal nil. -/
theorem op_eqIfcNil {op : BinOp} {t' tp : TypeId} {u : AV} {ms : Array (String × TypeId)} (hi : P.underlying t = some (.interface ms)) (hx : aev T x = some (.ifc tp u)) (hv : (match op with | .eql => some (AV.bool false) | .neq => some (.bool true) | _ => none) = some v) :
    OpSem P T H ⟨d, .binOp op t x (.const .nilIface) t', ty, ps, af, gd⟩ nm wr v [] :=
  op_bin hx (show aev T (.const .nilIface) = some (.val .nilIface) from rfl) fun E y1 y2 w h1 h2 => by
    rw [h2.val_inv]
    obtain ⟨b, rfl, _⟩ := h1.ifc_inv
    have e2 := run_eqI_nil hi w (.iface tp b) (.inr ⟨tp, b, rfl⟩)
    cases op <;> simp only [Option.some.injEq, reduceCtorEq] at hv <;> subst hv
    · exact ⟨.bool false, by simp [eqGuard, binOp, Op.equal, Op.maxDepth, e2], .bool _⟩
    · exact ⟨.bool true, by simp [eqGuard, binOp, Op.equal, Op.maxDepth, e2], .bool _⟩
theorem op_eqNilNil {op : BinOp} {t' : TypeId} {ms : Array (String × TypeId)} (hi : P.underlying t = some (.interface ms)) (hx : aev T x = some (.val .nilIface)) (hv : (match op with | .eql => some (AV.bool true) | .neq => some (.bool false) | _ => none) = some v) :
    OpSem P T H ⟨d, .binOp op t x (.const .nilIface) t', ty, ps, af, gd⟩ nm wr v [] :=
  op_bin hx (show aev T (.const .nilIface) = some (.val .nilIface) from rfl) fun E y1 y2 w h1 h2 => by
    rw [h2.val_inv, h1.val_inv]
    have e2 := run_eqI_nil hi w .nilIface (.inl rfl)
    cases op <;> simp only [Option.some.injEq, reduceCtorEq] at hv <;> subst hv
    · exact ⟨.bool true, by simp [eqGuard, binOp, Op.equal, Op.maxDepth, e2], .bool _⟩
    · exact ⟨.bool false, by simp [eqGuard, binOp, Op.equal, Op.maxDepth, e2], .bool _⟩
/-- A struct out of a row that is held by value. -/
theorem op_index_rowS {cs : List AV} {j : Int} {i n z : Nat} {dd : TypeDesc} {e : TypeId} (ht : P.underlying t = some (.array n e)) (he : P.underlying e = some dd) (hna : (match dd with | .struct _ | .array _ _ => true | _ => false) = true) (hz : (P.info? e).map (·.size) = some z) (hx : aev T x = some u) (hc : u.parts = some cs)
    (hy : aev T y = some (.i64 j)) (hj : j = (i : Int)) (hlt : i * z + z ≤ cs.length) (hn : i < n) :
    OpSem P T H ⟨d, .index t x y, ty, ps, af, gd⟩ nm wr (.agg ((cs.drop (i * z)).take z)) [] :=
  .quiet fun E a w h => by
    subst hj
    obtain ⟨ds, q1, q2, q3, q4⟩ := (h x mem21 _ hx).agg_inv hc
    have h2 := (h y mem22 _ hy).i64_inv
    have hp : (part e ds (i * z)).run P w = .ok (.agg (ds.extract (i * z) (i * z + z))) w := by simp [part, run_isAgg_yes he hna, run_sizeOf_is hz]
    refine ⟨.agg (ds.extract (i * z) (i * z + z)), ?_, .agg _ _ _ rfl (by simp; omega) (fun q hq => q3 q (List.mem_of_mem_drop (List.mem_of_mem_take hq))) (fun k q v hq hv => ?_)⟩
    · have hin : (0 : Int) ≤ (i : Int) ∧ (i : Int) < (n : Int) := by omega
      simp [execOp, q1, h2, Instr.index, asIntOf, run_underlying ht, hin, run_sizeOf_is hz, hp, hn]
    · rw [List.getElem?_take] at hq
      split at hq
      · rw [List.getElem?_drop] at hq
        rw [Array.getElem?_extract] at hv
        split at hv
        · exact q4 _ q v hq hv
        · cases hv
      · cases hq
/-- An integer's last bits. -/
theorem op_maskI {j : Int} {m : Nat} {t' : TypeId} (hx : aev T x = some (.i64 j)) (hy : aev T y = some (.i64 (m : Int))) (hm : m = 3 ∨ m = 15) : OpSem P T H ⟨d, .binOp .and t x y t', ty, ps, af, gd⟩ nm wr (.i64 (j % ((m + 1 : Nat) : Int))) [] :=
  op_bin hx hy fun E y1 y2 w h1 h2 => by
    rw [h1.i64_inv, h2.i64_inv]
    refine ⟨.int .i64 (IntKind.i64.wrap ((BitVec.ofInt 64 j &&& BitVec.ofInt 64 m).toNat : Int)), rfl, ?_⟩
    have e : (BitVec.ofInt 64 j &&& BitVec.ofInt 64 m).toNat = (j % ((m + 1 : Nat) : Int)).toNat := by
      rw [BitVec.toNat_and, BitVec.toNat_ofInt, BitVec.toNat_ofInt]
      rcases hm with rfl | rfl
      · rw [show (((3 : Nat) : Int) % ((2 ^ 64 : Nat) : Int)).toNat = 2 ^ 2 - 1 by decide, Nat.and_two_pow_sub_one_eq_mod]; omega
      · rw [show (((15 : Nat) : Int) % ((2 ^ 64 : Nat) : Int)).toNat = 2 ^ 4 - 1 by decide, Nat.and_two_pow_sub_one_eq_mod]; omega
    have hb : 0 ≤ j % ((m + 1 : Nat) : Int) ∧ j % ((m + 1 : Nat) : Int) ≤ 15 := by rcases hm with rfl | rfl <;> omega
    rw [e, wrap_in ⟨by omega, by omega⟩]
    rw [show (((j % ((m + 1 : Nat) : Int)).toNat : Nat) : Int) = j % ((m + 1 : Nat) : Int) by omega]
    exact .i64 _
/-- The value written last, said in any weaker way. -/
theorem EvL.asR {P : Program} {nt : Nat} {ops rest : List Oper} {T : List (Nat × AV)} {H : List (Nat × Option ABlk)} {nx d : Nat} {q : St → Prop} {v : AV} (v' : AV) (hv : ∀ E y, Rel E v y → Rel E v' y) (h : EvL P nt ops rest ⟨(d, v') :: T, H, nx⟩ q) : EvL P nt ops rest ⟨(d, v) :: T, H, nx⟩ q := by
  intro E S n0 a w Q hn hR hK
  refine h E S n0 a w Q hn ⟨fun t u hu => ?_, hR.nt, hR.df, hR.rh, hR.fr, hR.gl, hR.hS, hR.h0⟩ hK
  simp only [lk] at hu
  split at hu
  · rename_i e; injection hu with hu; subst hu
    exact hv _ _ (hR.rt t v (by simp only [lk, e]))
  · rename_i e; exact hR.rt t u (by simp only [lk, e]; exact hu)
theorem nil_err (t : Nat) (o : Nat × Nat) (E : Emb) (y : Value) (h : Rel E (.val .nilIface) y) : Rel E (.err t 0 o) y := by rw [h.val_inv]; exact .err0 _ _
/-- unsafe.Pointer(p), where a cell stands at p. -/
theorem op_toUnsafe {k : ABlk} (hs : P.underlying t = some (.pointer te)) (hd : P.underlying t2 = some .unsafePointer) (hsz : (P.info? te).map (fun i => decide (i.size = 0)) = some false) (hx : aev T x = some (.ptr b o)) (hk : H b = some k) (hlt : Nat.blt o k.c.len = true) :
    OpSem P T H ⟨d, .convert t t2 x, ty, ps, af, gd⟩ nm wr (.ptr b o) [] :=
  .reads fun E S a w h hR => by
    obtain ⟨l, s, h1, h2⟩ := (h x mem1 _ hx).ptr_inv
    obtain ⟨l', s', h3, h4⟩ := hR.blkR hk (map_lt (blt_true hlt))
    rw [h1] at h3; injection h3 with h3; injection h3 with e1 e2; subst e1
    have hl : o < k.c.list.length := by rw [len_list]; exact blt_true hlt
    obtain ⟨_, yv, hc, _⟩ := h4.cell (List.getElem?_eq_getElem hl)
    have hr := run_convert_to_unsafe hs hd hsz hc
    refine ⟨.pointer (some ⟨l, o, none⟩), ?_, .ptr _ _ _ _ h1⟩
    simp [execOp, h2, hr]
theorem rowAt_mono (fits : TypeId → Bool) {d e c c' off n : Nat} (h : c ≤ c') (hr : rowAt P fits d e c off n = true) : rowAt P fits d e c' off n = true := by
  cases d with
  | zero => exact hr
  | succ d =>
    unfold rowAt at hr ⊢
    dsimp only at hr ⊢
    split at hr
    · cases hr
    · rename_i hs
      rw [if_neg hs]
      simp only [Bool.or_eq_true, Bool.and_eq_true, decide_eq_true_eq] at hr ⊢
      rcases hr with ⟨⟨h1, h2⟩, h3⟩ | ⟨h1, h2⟩
      · exact .inl ⟨⟨h1, by omega⟩, h3⟩
      · exact .inr ⟨by omega, h2⟩
theorem liesAt_mono {d e c c' off u n : Nat} (h : c ≤ c') (hr : liesAt P d e c off u n = true) : liesAt P d e c' off u n = true := by
  induction d generalizing u n with
  | zero => exact hr
  | succ d ih =>
    unfold liesAt at hr ⊢
    simp only [Bool.or_eq_true] at hr ⊢
    rcases hr with hr | hr
    · exact .inl (rowAt_mono _ h hr)
    · right
      split at hr
      · rename_i m u' hq
        exact ih hr
      · cases hr
/-- A pointer out of unsafe.Pointer, where a variable of its type lies. -/
theorem op_fromUnsafe {k : ABlk} (hs : P.underlying t = some .unsafePointer) (hd : P.underlying t2 = some (.pointer te)) (hte : (P.info? te).isSome = true) (hx : aev T x = some (.ptr b o)) (hk : H b = some k) (hne : k.elem ≠ errT) (hlt0 : Nat.blt k.elem frz = true) (hsz : Nat.ble (P.cellsOf k.elem) k.c.len = true) (hpos : Nat.blt 0 (P.cellsOf k.elem) = true)
    (hl : liesAt P P.depth k.elem 1 o te 1 = true) : OpSem P T H ⟨d, .convert t t2 x, ty, ps, af, gd⟩ nm wr (.ptr b o) [] :=
  .reads fun E S a w h hR => by
    obtain ⟨l, s, h1, h2⟩ := (h x mem1 _ hx).ptr_inv
    obtain ⟨l', s', h3, arr, tq, fz, g1, g2, g3, g4, g5⟩ := hR.blkR hk (map_lt (Nat.lt_of_lt_of_le (blt_true hpos) (Nat.le_of_ble_eq_true hsz)))
    rw [h1] at h3; injection h3 with h3; injection h3 with e1 e2; subst e1
    obtain ⟨j, hj⟩ := Option.isSome_iff_exists.1 hte
    have htq : tq = k.elem := g3.2.is hne (blt_true hlt0)
    have hsh : w.shape? l = some (k.elem, arr.size) := by simp [World.shape?, g1, htq]
    have hcount : 1 ≤ arr.size / P.cellsOf k.elem := by
      rw [len_list] at g4
      exact (Nat.le_div_iff_mul_le (blt_true hpos)).2 (by have := Nat.le_of_ble_eq_true hsz; omega)
    have hr := Lib.run_from_unsafe (P := P) (w := w) (src := t) (dst := t2) ⟨l, o, none⟩ hs hd hj hsh (liesAt_mono hcount hl)
    refine ⟨.pointer (some ⟨l, o, none⟩), ?_, .ptr _ _ _ _ h1⟩
    simp [execOp, h2, hr]
/-- internal/abi.NoEscape: the pointer as it is. -/
theorem op_noEscape {f : FuncId} {fn : Func} {ts : Array TypeId} (hf : P.funcs[f]? = some fn) (hname : (fn.name == "runtime.NumGoroutine") = false) (hb : fn.body.isNone = true) (hn : (Extern.findNext fn).isNone = true)
    (he : (Extern.find fn) = some Extern.AbiNoEscape.same) (hx : aev T x = some u) : OpSem P T H ⟨d, .call { callee := .value (.func f), args := #[x], argTypes := ts }, ty, ps, af, gd⟩ nm wr u [] :=
  .quiet fun E ac w h => by
    have hr := h x (by simp [Op.operands, Call.operands]) _ hx
    have hrun : (callFunc f #[ac.eval x]).run P w = .ok (.value (ac.eval x)) w := run_callFunc_ext hf hname hb hn he rfl
    exact ⟨ac.eval x, run_exec_func (by simpa using hrun), hr⟩
/-- unsafe.SliceData. -/
theorem op_sliceData {ts : Array TypeId} {n z : Nat} (hx : aev T x = some (.sl b o n z)) (hn : 0 < n) : OpSem P T H ⟨d, .call { callee := .builtin .unsafeSliceData, args := #[x], argTypes := ts }, ty, ps, af, gd⟩ nm wr (.ptr b o) [] :=
  .quiet fun E a w h => by
    rcases (h x (by simp [Op.operands, Call.operands]) _ hx).sl_inv with ⟨l, s, c, q1, q2, q3, q4, q5⟩ | ⟨ad, q1, _⟩
    · have hr := Lib.run_unsafeSliceData_row (P := P) (w := w) ts ty ⟨l, o, none⟩ n c (by omega)
      exact ⟨.pointer (some ⟨l, o, none⟩), by simp [execOp, resolve, invoke, builtin, q5, hr], .ptr _ _ _ _ q1⟩
    · omega
theorem op_sliceDataNil {ts : Array TypeId} (hx : aev T x = some .nilsl) : OpSem P T H ⟨d, .call { callee := .builtin .unsafeSliceData, args := #[x], argTypes := ts }, ty, ps, af, gd⟩ nm wr (.val (.pointer none)) [] :=
  .quiet fun E a w h => by
    have e := (h x (by simp [Op.operands, Call.operands]) _ hx).nilsl_inv
    have hr := Lib.run_unsafeSliceData_nil (P := P) (w := w) ts ty 0 0
    exact ⟨.pointer none, by simp [execOp, resolve, invoke, builtin, e, hr], .val _⟩
theorem op_stringNil {pt it : TypeId} (hx : aev T x = some (.val (.pointer none))) (hy : aev T y = some (.i64 0)) : OpSem P T H ⟨d, .call { callee := .builtin .unsafeString, args := #[x, y], argTypes := #[pt, it] }, ty, ps, af, gd⟩ nm wr (.str []) [] :=
  .quiet fun E a w h => by
    have e := (h x (by simp [Op.operands, Call.operands]) _ hx).val_inv
    have e2 := (h y (by simp [Op.operands, Call.operands]) _ hy).i64_inv
    have hr := Lib.run_unsafeString_none (P := P) (w := w) pt it ty none
    exact ⟨.string .empty, by simp [execOp, resolve, invoke, builtin, e, e2, hr], .str []⟩
theorem frz_ne (e : Nat) : frz + e ≠ errT := fun h => by
  have h' : (2000000 : Nat) + e = (1000000 : Nat) := h
  omega
/-- unsafe.String of a buffer's bytes: from here on they are nobody's to write. -/
theorem op_unsafeString {pt it e : TypeId} {k : ABlk} {l : List UInt8} {j : Int} (hp : P.underlying pt = some (.pointer e)) (hcl : P.cellsOf e = 1) (hx : aev T x = some (.ptr b 0)) (hy : aev T y = some (.i64 j)) (hj : j = (l.length : Int)) (hk : H b = some k) (hown : k.own = true) (hke : k.elem = e) (hne0 : e ≠ errT) (hlt0 : e < frz) (hc : k.c = .aggB l) (h0 : 0 < l.length) (hlim : l.length ≤ 9223372036854775807) :
    OpSem P T H ⟨d, .call { callee := .builtin .unsafeString, args := #[x, y], argTypes := #[pt, it] }, ty, ps, af, gd⟩ nm true (.str l) [(b, some ⟨.aggB l, frz + e, false⟩)] := by
  intro E S n0 H2 a w hS hn0' _ _ hwr hle hop hR hf K Q hK
  have hne : k.elem ≠ errT := hke ▸ hne0
  have e0 := hwr rfl; subst e0
  obtain ⟨lc, s', q1, hrx⟩ := (hop x (by simp [Op.operands, Call.operands]) _ hx).ptr_inv
  have hry := (hop y (by simp [Op.operands, Call.operands]) _ hy).i64_inv
  obtain ⟨l', s, h3, arr, tq, fz, g1, g2, g3, g4, g5⟩ := hR.blkR hk (by rw [hc]; rfl)
  rw [q1] at h3; injection h3 with h3; injection h3 with e1 e2; subst e1; subst e2
  subst hj
  have htq : tq = e := (g3.2.is hne (by rw [hke]; exact hlt0)).trans hke
  subst htq
  have hsh : w.shape? lc = some (tq, arr.size) := by simp [World.shape?, g1]
  have hlen : l.length ≤ arr.size := by rw [g2]; have := g4; rw [hc] at this; simpa [AV.list, AV.parts] using this
  have hrun := Lib.run_unsafeString_row (P := P) w pt it ty tq hp hcl lc arr.size hsh l (fun h => by simp [h] at h0) hlen (by omega) (fun i x hi => by
    rw [add_at, Nat.zero_add, cell_of_row w lc i arr tq fz g1]
    obtain ⟨_, yv, r1, r2⟩ := g5 i (.u8 x) (by rw [hc]; simp [AV.list, AV.parts, hi])
    rw [r1, r2.u8_inv])
  obtain ⟨w', hw'⟩ : ∃ w', w' = w.freeze ⟨lc, 0, none⟩ l.length := ⟨_, rfl⟩
  rw [← hw'] at hrun
  have hl : ∃ fz' : Nat × Nat, w'.heap[lc]? = some (.cells arr tq fz') ∧ fz'.1 = 0 ∧ l.length ≤ fz'.2 := by
    rw [hw']
    unfold World.freeze
    rw [if_neg (by omega)]
    simp only [Array.getElem?_modify, if_true, g1, Option.map_some]
    refine ⟨_, rfl, ?_, ?_⟩
    · split <;> simp
    · split <;> simp <;> omega
  have ho : ∀ j, j ≠ lc → w'.heap[j]? = w.heap[j]? := fun j hj => by
    rw [hw']
    unfold World.freeze
    rw [if_neg (by omega)]
    simp only [Array.getElem?_modify]
    rw [if_neg (fun h => hj h.symm)]
  have hsz : w'.heap.size = w.heap.size := by
    rw [hw']
    unfold World.freeze
    rw [if_neg (by omega)]
    simp
  have hfr : w'.os = w.os ∧ w'.tape = w.tape ∧ w'.output = w.output := by
    rw [hw']
    unfold World.freeze
    rw [if_neg (by omega)]
    exact ⟨rfl, rfl, rfl⟩
  have hdr : DrOk w w' := by
    rw [hw']
    unfold World.freeze
    rw [if_neg (by omega)]
    exact .same rfl
  obtain ⟨fz', hl, hz1, hz2⟩ := hl
  unfold Oper.wp
  have hex : (execOp a.eval ⟨d, .call { callee := .builtin .unsafeString, args := #[x, y], argTypes := #[pt, it] }, ty, ps, af, gd⟩).run P w = .ok (.value (.string ⟨l.toArray⟩)) w' := by
    simp [execOp, resolve, invoke, builtin, hrx, hry, hrun]
  rw [hex]
  refine hK _ w' E (fun _ _ => rfl) (Emb.dx_refl _ _) (.str l) ⟨fun n' k' hn => ?_, fun n1 n2 k1 k2 l1 s1 s1' f1 f2 f3 f4 f5 => ?_, fun n1 k1 l1 s1 f1 f2 f3 => ?_, fun a1 L1 s9 ha => ?_⟩ ⟨hfr.1, hfr.2.1, hfr.2.2, Nat.le_of_eq hsz.symm, fun j hj hns => ho j (fun e => hns (by rw [e]; exact hR.own b k lc _ hk hown q1)), hdr⟩
  rotate_right 1
  · have hd := hR.deep a1 L1 s9 ha
    refine ⟨hd.1.mono (ho a1 (fun e => hd.2 b k _ hk hown (by rw [q1, e]))), fun n2 k2 s2 h1 h2 => ?_⟩
    rw [upd_one] at h1
    split at h1
    · injection h1 with h1; subst h1; cases h2
    · exact hd.2 n2 k2 s2 h1 h2
  · rw [upd_one] at hn
    split at hn
    · rename_i e; subst e; injection hn with hn; subst hn
      exact ⟨lc, _, q1, .row rfl ⟨arr, tq, fz', hl, g2, ⟨⟨(fun h => by cases h), fun h => absurd h (frz_ne tq), fun _ _ _ => ⟨hz1, by simpa [AV.list, AV.parts] using hz2⟩⟩, .inr (.inr (.inl rfl))⟩, by rw [hc] at g4; exact g4, by rw [hc] at g5; exact g5⟩⟩
    · rename_i e
      obtain ⟨l1, s1, f1, f2⟩ := hR.blk n' k' hn
      exact ⟨l1, s1, f1, f2.mono (Emb.le_refl _) (ho l1 (fun el => by subst el; exact e (hR.inj b n' k k' l1 _ s1 hk hn hown q1 f1).symm))⟩
  · rw [upd_one] at f1 f2
    split at f1
    · injection f1 with f1; subst f1; cases f3
    · split at f2
      · rename_i e1 e2; subst e2; injection f2 with f2; subst f2
        exact hR.inj n1 n2 k1 k l1 s1 s1' f1 hk f3 f4 f5
      · exact hR.inj n1 n2 k1 k2 l1 s1 s1' f1 f2 f3 f4 f5
  · rw [upd_one] at f1
    split at f1
    · injection f1 with f1; subst f1; cases f2
    · exact hR.own n1 k1 l1 s1 f1 f2 f3
/-- .. read once more. -/
theorem op_unsafeString2 {pt it e : TypeId} {l : List UInt8} {j : Int} (hp : P.underlying pt = some (.pointer e)) (hcl : P.cellsOf e = 1) (hx : aev T x = some (.ptr b 0)) (hy : aev T y = some (.i64 j)) (hj : j = (l.length : Int)) (hk : H b = some ⟨.aggB l, frz + e, false⟩) (hlt0 : e < frz) (h0 : 0 < l.length) (hlim : l.length ≤ 9223372036854775807) :
    OpSem P T H ⟨d, .call { callee := .builtin .unsafeString, args := #[x, y], argTypes := #[pt, it] }, ty, ps, af, gd⟩ nm wr (.str l) [] :=
  .reads fun E S a w h hR => by
  obtain ⟨lc, s', q1, hrx⟩ := (h x (by simp [Op.operands, Call.operands]) _ hx).ptr_inv
  have hry := (h y (by simp [Op.operands, Call.operands]) _ hy).i64_inv
  obtain ⟨l', s, h3, arr, tq, fz, g1, g2, g3, g4, g5⟩ := hR.blkR hk rfl
  rw [q1] at h3; injection h3 with h3; injection h3 with e1 e2; subst e1; subst e2
  subst hj
  have hany : frz + e < anyT := Nat.lt_of_lt_of_le (Nat.add_lt_add_left hlt0 frz) (by decide)
  have htq : tq = e := by
    rcases g3.2 with h | ⟨_, h⟩ | h | h
    · exact absurd h (frz_ne e)
    · rcases h with h | h
      · cases h
      · exact absurd h (Nat.not_lt.2 (Nat.le_add_right _ _))
    · exact (Nat.add_left_cancel h).symm
    · exact absurd h (Nat.ne_of_lt hany)
  subst htq
  obtain ⟨hz1, hz2⟩ := g3.1.f rfl (Nat.le_add_right _ _) hany
  have hz2' : l.length ≤ fz.2 := by simpa [AV.list, AV.parts] using hz2
  have hsh : w.shape? lc = some (tq, arr.size) := by simp [World.shape?, g1]
  have hlen : l.length ≤ arr.size := by rw [g2]; simpa [AV.list, AV.parts] using g4
  have hrun := Lib.run_unsafeString_row (P := P) w pt it ty tq hp hcl lc arr.size hsh l (fun h => by simp [h] at h0) hlen (by omega) (fun i x hi => by
    rw [add_at, Nat.zero_add, cell_of_row w lc i arr tq fz g1]
    obtain ⟨_, yv, r1, r2⟩ := g5 i (.u8 x) (by simp [AV.list, AV.parts, hi])
    rw [r1, r2.u8_inv])
  have hsame : w.freeze ⟨lc, 0, none⟩ l.length = w := by
    unfold World.freeze
    rw [if_neg (by omega)]
    obtain ⟨lo, hi⟩ := fz
    simp only at hz1 hz2'
    subst hz1
    have h0' : ((0 : Nat) == hi) = false := by simp; omega
    refine congrArg (fun h => { w with heap := h }) (Array.ext_getElem? fun i => ?_)
    rw [Array.getElem?_modify]
    split
    · rename_i e; subst e
      rw [g1]
      simp only [Option.map_some, h0', Bool.false_eq_true, if_false, Nat.min_self, Nat.zero_add, Option.some.injEq, Obj.cells.injEq, Prod.mk.injEq, true_and]
      omega
    · rfl
  rw [hsame] at hrun
  exact ⟨.string ⟨l.toArray⟩, by simp [execOp, resolve, invoke, builtin, hrx, hry, hrun], .str l⟩
end
section
variable {P : Program} {T : Nat → Option AV} {H : Hp} {nm : Nat} {wr : Bool} {d : Option Tmp} {ty : TypeId} {ps : String} {af : Array Edge} {gd : Option (Nat × Bool)} {t t2 e : TypeId} {x y : Operand} {b n z : Nat} {zv : Value}
theorem ap_catS {l s : List UInt8} (ht : P.underlying t = some (.slice e)) (hi : Inf P e 1 zv) (ht2 : P.underlying t2 = some .string) (hx : aev T x = some (.sl b 0 n 1)) (hk : H b = some ⟨.aggB l, e, true⟩) (hy : aev T y = some (.str s)) (hn : n = l.length) (hlim : n + s.length ≤ 10000000000) :
    OpSem P T H ⟨d, .call { callee := .builtin .append, args := #[x, y], argTypes := #[t, t2] }, ty, ps, af, gd⟩ nm wr (.sl nm 0 (n + s.length) 1) [(nm, some ⟨.aggB (l ++ s), e, true⟩), (b, none)] :=
  ap_append ht ht2 (.inl rfl) hi hx hk rfl rfl (by simp [AV.len, hn]) (srcs_str hy) (by simp [AV.list, AV.parts]) hlim
theorem ap_catS_nil {s : List UInt8} (ht : P.underlying t = some (.slice e)) (hi : Inf P e 1 zv) (ht2 : P.underlying t2 = some .string) (hx : aev T x = some .nilsl) (hy : aev T y = some (.str s)) (h0 : 0 < s.length) (hlim : s.length ≤ 10000000000) :
    OpSem P T H ⟨d, .call { callee := .builtin .append, args := #[x, y], argTypes := #[t, t2] }, ty, ps, af, gd⟩ nm wr (.sl nm 0 s.length 1) [(nm, some ⟨.aggB s, e, true⟩)] :=
  ap_append_nil ht ht2 (.inl rfl) hi hx (srcs_str hy) (by simp [AV.list, AV.parts]) h0 hlim
end
theorem op_makeFunc {P : Program} {T : Nat → Option AV} {H : Hp} {f : FuncId} {cap : Array Operand} {caps : List AV} {d ty ps af gd} {nm : Nat} {wr : Bool} (hl : caps.length = cap.size) (hc : ∀ (i : Nat) x u, cap[i]? = some x → caps[i]? = some u → aev T x = some u) :
    OpSem P T H ⟨d, .makeFunc (.func f) #[] cap, ty, ps, af, gd⟩ nm wr (.clo f caps) [] :=
  .quiet fun E a w hop => by
    refine ⟨.func (.func f) #[] (cap.map a.eval), by simp [execOp, Instr.makeFunc], .clo _ _ _ (by simpa using hl) (fun i x y hx hy => ?_)⟩
    obtain ⟨hq, rfl⟩ := Array.getElem?_eq_some_iff.1 hy
    have hi : i < cap.size := by simpa using hq
    have hcx := hc i cap[i] x (Array.getElem?_eq_getElem hi) hx
    simp only [Array.getElem_map]
    exact hop cap[i] (by simp [Op.operands]) x hcx
theorem op_makeFunc1 {P : Program} {T : Nat → Option AV} {H : Hp} {f : FuncId} {x : Operand} {u : AV} {d ty ps af gd} {nm : Nat} {wr : Bool} (hx : aev T x = some u) :
    OpSem P T H ⟨d, .makeFunc (.func f) #[] #[x], ty, ps, af, gd⟩ nm wr (.clo f [u]) [] :=
  op_makeFunc rfl (fun i x' u' h1 h2 => by
    match i with
    | 0 => simp at h1 h2; subst h1; subst h2; exact hx
    | i + 1 => simp at h1)
/-- bytealg.CountString. -/
theorem op_countStr {P : Program} {T : Nat → Option AV} {H : Hp} {nm : Nat} {wr : Bool} {d : Option Tmp} {ty : TypeId} {ps : String} {af : Array Edge} {gd : Option (Nat × Bool)} {x y : Operand} {s : List UInt8} {c : UInt8} {f : FuncId} {fn : Func} {ts : Array TypeId} (hf : P.funcs[f]? = some fn) (hname : (fn.name == "runtime.NumGoroutine") = false) (hb : fn.body.isNone = true) (hn : (Extern.findNext fn).isNone = true)
    (he : (Extern.find fn) = some Extern.BytealgCount.count) (hx : aev T x = some (.str s)) (hy : aev T y = some (.u8 c)) : OpSem P T H ⟨d, .call { callee := .value (.func f), args := #[x, y], argTypes := ts }, ty, ps, af, gd⟩ nm wr (.i64 ((s.count c : Nat) : Int)) [] :=
  .quiet fun E ac w h => by
    have h1 := (h x (by simp [Op.operands, Call.operands]) _ hx).str_inv
    have h2 := (h y (by simp [Op.operands, Call.operands]) _ hy).u8_inv
    have e := Lib.run_countString (P := P) ⟨s.toArray⟩ (c.toNat : Int) w
    rw [show ((c.toNat : Int).toNat).toUInt8 = c by simp] at e
    have hrun : (callFunc f #[ac.eval x, ac.eval y]).run P w = .ok (.value (.int .i64 ((s.count c : Nat) : Int))) w := by rw [h1, h2]; exact run_callFunc_ext hf hname hb hn he e
    exact ⟨_, run_exec_func (by simpa using hrun), .i64 _⟩
/-- bytealg.IndexByteString. -/
theorem op_indexByteStr {P : Program} {T : Nat → Option AV} {H : Hp} {nm : Nat} {wr : Bool} {d : Option Tmp} {ty : TypeId} {ps : String} {af : Array Edge} {gd : Option (Nat × Bool)} {x y : Operand} {s : List UInt8} {c : UInt8} {f : FuncId} {fn : Func} {ts : Array TypeId} (hf : P.funcs[f]? = some fn) (hname : (fn.name == "runtime.NumGoroutine") = false) (hb : fn.body.isNone = true) (hn : (Extern.findNext fn).isNone = true)
    (he : (Extern.find fn) = some Extern.BytealgIndexByte.indexByte) (hx : aev T x = some (.str s)) (hy : aev T y = some (.u8 c)) : OpSem P T H ⟨d, .call { callee := .value (.func f), args := #[x, y], argTypes := ts }, ty, ps, af, gd⟩ nm wr (.i64 (Lib.indexByte s c)) [] :=
  .quiet fun E ac w h => by
    have h1 := (h x (by simp [Op.operands, Call.operands]) _ hx).str_inv
    have h2 := (h y (by simp [Op.operands, Call.operands]) _ hy).u8_inv
    have e := Lib.run_indexByteString (P := P) ⟨s.toArray⟩ (c.toNat : Int) w
    rw [show ((c.toNat : Int).toNat).toUInt8 = c by simp] at e
    have hrun : (callFunc f #[ac.eval x, ac.eval y]).run P w = .ok (.value (.int .i64 (Lib.indexByte s c))) w := by rw [h1, h2]; exact run_callFunc_ext hf hname hb hn he e
    exact ⟨_, run_exec_func (by simpa using hrun), .i64 _⟩
/-- So many rounds of a loop, the last of which leaves it. -/
def EvR (P : Program) (nt : Nat) (c : Code) (post : Exit → St → Prop) : Nat → St → Prop
  | 0, _ => False
  | n + 1, st => Ev P nt c st (thenA (fun st' => EvR P nt c post n st') post)
theorem Ev.rounds {P : Program} {nt : Nat} {c : Code} {st : St} {post : Exit → St → Prop} (n : Nat) (h : EvR P nt c post n st) : Ev P nt (.loop c) st post := by
  intro E S n0 a w hn hR
  refine wp_loop_rounds n ?_
  have key : ∀ (n : Nat) (st : St) (E1 : Emb) (a1 : Act) (w1 : World), EvR P nt c post n st → 1000 ≤ st.nx → RS E1 S n0 nt st a1 w1 → Emb.kp S E E1 → Fr S w w1 →
      Code.rounds P c (Done E S n0 nt (fun e st' => 1000 ≤ st'.nx ∧ post e st') w) n a1 w1 := by
    intro n
    induction n with
    | zero => intro st E1 a1 w1 h; exact h.elim
    | succ n ih =>
      intro st E1 a1 w1 h hn1 hR1 hE1 hF1
      rw [rounds_succ]
      refine wp_mono (h E1 S n0 a1 w1 hn1 hR1) fun e a' w' hD => ?_
      cases e with
      | normal =>
        obtain ⟨st', E', ⟨hn', h1⟩, h2, h3, h4⟩ := hD
        exact ih st' E' a' w' h1 hn' h3 (hE1.trans h2) (hF1.trans h4)
      | _ => exact Done.trans hE1 hF1 hD
  exact key n st E a w h hn hR (Emb.kp_refl _ _) (Fr.refl _ _)
/-- A row's value, cell by cell. -/
def RelAll (E : Emb) : List AV → List Value → Prop
  | [], [] => True
  | x :: xs, y :: ys => Rel E x y ∧ RelAll E xs ys
  | _, _ => False
theorem RelAll.spec {E : Emb} : ∀ {cs : List AV} {ds : List Value}, RelAll E cs ds → cs.length = ds.length ∧ ∀ (i : Nat) x y, cs[i]? = some x → ds[i]? = some y → Rel E x y
  | [], [], _ => ⟨rfl, fun i x y h => by simp at h⟩
  | [], _ :: _, h => h.elim
  | _ :: _, [], h => h.elim
  | x :: xs, y :: ys, h => by
    obtain ⟨h1, h2⟩ := h.2.spec
    refine ⟨by simp [h1], fun i u v hu hv => ?_⟩
    cases i with
    | zero => simp at hu hv; subst hu; subst hv; exact h.1
    | succ i => simp at hu hv; exact h2 i u v hu hv
theorem rel_agg {E : Emb} {cs : List AV} {ds : List Value} (h1 : cs.all AV.one = true) (h : RelAll E cs ds) : Rel E (.agg cs) (.agg ds.toArray) :=
  .agg _ cs ds.toArray rfl (by simpa using h.spec.1) (List.all_eq_true.1 h1) (fun i x y hx hy => h.spec.2 i x y hx (by simpa using hy))
/-- The cells of a literal that gives them all, in their order. -/
def idxd : Nat → List AV → List (Nat × AV)
  | _, [] => []
  | k, u :: r => (k, u) :: idxd (k + 1) r
theorem putAll_full : ∀ (us done rest : List AV), rest.length = us.length → us.all AV.one = true → putAll (.agg (done ++ rest)) (idxd done.length us) = some (.agg (done ++ us))
  | [], done, rest, h, _ => by
    have : rest = [] := List.eq_nil_of_length_eq_zero h
    subst this; rfl
  | u :: us, done, [], h, _ => by simp at h
  | u :: us, done, q :: rest, h, h1 => by
    simp only [List.all_cons, Bool.and_eq_true] at h1
    have hp : AV.put (.agg (done ++ q :: rest)) done.length u = some (.agg ((done ++ [u]) ++ rest)) := by
      simp only [AV.put, h1.1]
      congr 2
      rw [List.set_append_right _ _ (Nat.le_refl _)]; simp
    simp only [idxd, putAll, hp]
    have := putAll_full us (done ++ [u]) rest (by simpa using h) h1.2
    simpa using this
theorem op_buildFull {P : Program} {T : Nat → Option AV} {H : Hp} {nm : Nat} {wr : Bool} {d : Option Tmp} {ty : TypeId} {ps : String} {af : Array Edge} {gd : Option (Nat × Bool)} {t e : TypeId} {n : Nat} {parts : Array (Nat × Operand)} {zv : Value} {u0 : AV} (us : List AV) (hu : P.underlying t = some (.array n e)) (hsz : (P.info? e).map (·.size) = some 1) (hz : (P.info? t).map (·.zero) = some (some (.agg (Array.replicate n zv)))) (hr0 : Rel Emb.nil u0 zv) (h0 : u0.one = true)
    (hp : PartsEv T n parts.toList (idxd 0 us)) (hl : us.length = n) (h1 : us.all AV.one = true) : OpSem P T H ⟨d, .build t parts, ty, ps, af, gd⟩ nm wr (.agg us) [] :=
  op_buildArr (us := idxd 0 us) (r0 := .agg (List.replicate n u0)) hu hsz hz (.agg _ _ _ rfl (by simp) (fun x hx => by rw [(List.mem_replicate.1 hx).2]; exact h0) (fun i x y hx hy => by
    rw [List.getElem?_replicate] at hx
    rw [Array.getElem?_replicate] at hy
    split at hx
    · rename_i hi
      rw [if_pos hi] at hy
      injection hx with hx; injection hy with hy; subst hx; subst hy; exact hr0
    · cases hx)) rfl (by simp) hp (by simpa using putAll_full us [] (List.replicate n u0) (by simp [hl]) h1)
end Go.Proofs.YtdpdmgbdipokdaaDoor
namespace Go.Proofs.YtdpdmgbdipokdaaDoor
open Go.RowKit
theorem ret3v {P : Program} {nt : Nat} {st : St} {fn : Func} {t u q : Tmp} {v1 v2 v3 v1' v2' v3' : AV} {H1 : List (Nat × Option ABlk)} {e : Exit} (hr : fn.results = #[.tmp t, .tmp u, .tmp q]) (he : e = .ret ∨ e = .normal) (hv : lk st.T t = some v1') (hu : lk st.T u = some v2') (hq : lk st.T q = some v3') (h1 : v1' = v1) (h2 : v2' = v2) (h3 : v3' = v3) (hH : HSub (hget st.H) H1) : RetOk P fn nt (.tup [v1, v2, v3]) H1 e st := by
  subst h1; subst h2; subst h3
  exact ⟨he, hH.spec, fun _ _ _ a w hR => ⟨_, results_tmp3 hr a.tmps P w, .tup _ _ rfl fun i x y hx hy => by
    match i, hx, hy with
    | 0, hx, hy => simp at hx hy; subst hx; subst hy; have := hR.rt t v1' hv; simpa using this
    | 1, hx, hy => simp at hx hy; subst hx; subst hy; have := hR.rt u v2' hu; simpa using this
    | 2, hx, hy => simp at hx hy; subst hx; subst hy; have := hR.rt q v3' hq; simpa using this
    | i + 3, hx, _ => simp at hx⟩⟩
section
variable {P : Program} {T : Nat → Option AV} {H : Hp} {nm : Nat} {wr : Bool} {d : Option Tmp} {ty t t2 e : TypeId} {ps : String} {af : Array Edge} {gd : Option (Nat × Bool)} {x y : Operand} {zv : Value}
/-- append(nil, ""...): nothing at all. -/
theorem op_catS_nil0 (ht : P.underlying t = some (.slice e)) (hi : Inf P e 1 zv) (ht2 : P.underlying t2 = some .string) (hx : aev T x = some .nilsl) (hy : aev T y = some (.str [])) :
    OpSem P T H ⟨d, .call { callee := .builtin .append, args := #[x, y], argTypes := #[t, t2] }, ty, ps, af, gd⟩ nm wr .nilsl [] :=
  .reads fun E S a w h hR => by
    obtain ⟨ie, hie, _, hsz, _, _⟩ := hi
    obtain ⟨news, hn, _, hl⟩ := (srcs_str (P := P) (H := H) hy).2 E S a w (fun u hu => h y (by simp [Op.operands, Call.operands]) _ hu) hR
    obtain ⟨h1, h2⟩ := hl w rfl
    have h3 := h2 0 (Nat.le_refl _)
    have e1 := (h x (by simp [Op.operands, Call.operands]) _ hx).nilsl_inv
    refine ⟨.slice none 0 0, ?_, .nilsl⟩
    have hrun : (Builtin.append_ #[t, t2] ty #[.slice none 0 0, a.eval y]).run P w = .ok (.slice none 0 0) w := by
      simp [Builtin.append_, run_underlying ht, run_underlying ht2, sizeOf, typeInfo, hie, hsz, h1, h3]
    simp [execOp, resolve, invoke, builtin, e1, hrun]
end
end Go.Proofs.YtdpdmgbdipokdaaDoor
namespace Go.Proofs.YtdpdmgbdipokdaaDoor
open Go.RowKit
section
variable {P : Program} {T : Nat → Option AV} {H : Hp} {nm : Nat} {wr : Bool} {d : Option Tmp} {ty : TypeId} {ps : String} {af : Array Edge} {gd : Option (Nat × Bool)}
theorem op_toArrPtr {t el : TypeId} {x : Operand} {b o n N : Nat} (hu : P.underlying t = some (.array N el)) (hx : aev T x = some (.sl b o n 1)) (h0 : 0 < n) (hn : N ≤ n) : OpSem P T H ⟨d, .sliceToArrayPointer t x, ty, ps, af, gd⟩ nm wr (.ptr b o) [] :=
  .quiet fun E a w h => by
    rcases (h x mem1 _ hx).sl_inv with ⟨l, s, c, q1, q2, q3, q4, q5⟩ | ⟨ad, q1, q2⟩
    · exact ⟨.pointer (some ⟨l, o, none⟩), by simp [execOp, q5, Instr.arrayAt, run_underlying hu, Nat.not_lt.2 hn], .ptr _ _ _ _ q1⟩
    · omega
theorem op_loadB {t : TypeId} {dd : TypeDesc} {x : Operand} {b o m e : Nat} {l : List UInt8} {ow : Bool} (hu : P.underlying t = some dd) (hna : (match dd with | .struct _ | .array _ _ => true | _ => false) = true) (hz : (P.info? t).map (·.size) = some m) (hx : aev T x = some (.ptr b o)) (hk : H b = some ⟨.aggB l, e, ow⟩) (hlt : o + m ≤ l.length) :
    OpSem P T H ⟨d, .load t x, ty, ps, af, gd⟩ nm wr (.aggB ((l.drop o).take m)) [] :=
  op_loadPart (cs := ((l.drop o).take m).map AV.u8) hu hna hz hx hk rfl (by simp; omega) (by simp [AV.list, AV.parts, List.map_drop, List.map_take]) hlt
end
end Go.Proofs.YtdpdmgbdipokdaaDoor
namespace Go.Proofs.YtdpdmgbdipokdaaDoor
open Go.RowKit
section
variable {P : Program} {T : Nat → Option AV} {H : Hp} {nm : Nat} {wr : Bool} {d : Option Tmp} {ty t : TypeId} {ps : String} {af : Array Edge} {gd : Option (Nat × Bool)} {x y : Operand} {b o m : Nat} {k : ABlk} {u : AV}
/-- A part of a row is stored. -/
theorem op_storePart {cs : List AV} {c' : AV} (hz : (P.info? t).map (·.size) = some m) (hx : aev T x = some (.ptr b o)) (hy : aev T y = some u) (hk : H b = some k) (hown : k.own = true) (hc : u.parts = some cs) (hm : cs.length = m) (hlt : o + m ≤ k.c.len) (hc' : c'.list = k.c.list.take o ++ (cs ++ k.c.list.drop (o + m))) (hmp : k.c.isMap = false := by first | rfl | assumption | exact AV.map_parts (by assumption)) (hmc : c'.isMap = false := by first | rfl | assumption | exact AV.map_parts (by assumption)) :
    OpSem P T H ⟨d, .store t x y, ty, ps, af, gd⟩ nm wr (.val undef) [(b, some { k with c := c' })] := by
  intro E S n0 H2 a w hS hn _ _ hwr hle hop hR hf K Q hK
  replace hk := hle b k hk
  obtain ⟨l, s, h1, h2⟩ := (hop x mem21 _ hx).ptr_inv
  obtain ⟨l', s', h3, h4⟩ := hR.blkR hk hmp
  rw [h1] at h3; injection h3 with h3; injection h3 with e1 e2; subst e1; subst e2
  obtain ⟨arr, tq, fz, g1, g2, g3, g4, g5⟩ := h4
  obtain ⟨ds, q1, q2, q3, q4⟩ := (hop y mem22 _ hy).agg_inv hc
  have hll := len_list k.c
  have hds : ds.size = m := by omega
  obtain ⟨arr', hr, hs, hv⟩ := run_storeCells_gen P l o tq fz ds.toList 0 arr w g1 (by rw [g2]; exact g3.1.w hown) (by simp; omega) (fun z hz => by
    obtain ⟨i, hi, rfl⟩ := List.mem_iff_getElem.1 hz
    have hi' : i < cs.length := by simp at hi; omega
    have hi2 : i < ds.size := by simpa using hi
    have := (q4 i cs[i] ds[i] (List.getElem?_eq_getElem hi') (Array.getElem?_eq_getElem hi2)).one (q3 _ (List.getElem_mem hi'))
    simpa using this)
  unfold Oper.wp
  have hrun : (execOp a.eval ⟨d, .store t x y, ty, ps, af, gd⟩).run P w = .ok .skip (w.setRow l arr') := by
    simp [execOp, h2, q1, Instr.storeAt, Instr.sureAddr, storeVar, run_sizeOf_is hz, Value.cells, hds, hr]
  rw [hrun]
  have hlen : c'.list.length = k.c.list.length := by rw [hc']; simp; omega
  refine hK undef _ E (fun _ _ => rfl) (Emb.dx_refl _ _) (.val _) (hR.write hk hown h1 arr arr' tq fz g1 hs c' (by omega) fun i q hq => ?_) (Fr.setRow w l arr' (hR.own b k l s hk hown h1))
  rw [hc'] at hq
  rw [hv]
  by_cases hi : i < o
  · rw [List.getElem?_append_left (by simp; omega), List.getElem?_take, if_pos hi] at hq
    rw [if_neg (by omega)]
    exact g5 i q hq
  · have ht : (k.c.list.take o).length = o := by rw [List.length_take]; omega
    rw [List.getElem?_append_right (by omega), ht] at hq
    by_cases hi2 : i - o < cs.length
    · rw [List.getElem?_append_left hi2] at hq
      refine ⟨AV.cell_of (q3 q (List.mem_of_getElem? hq)), ds[i - o]'(by omega), ?_, q4 (i - o) q _ hq (Array.getElem?_eq_getElem (by omega))⟩
      rw [if_pos (by simp; omega)]
      rw [show i - (o + 0) = i - o by omega]
      simp [show i - o < ds.size by omega]
    · rw [List.getElem?_append_right (by omega), List.getElem?_drop] at hq
      rw [if_neg (by simp; omega)]
      rw [show o + m + (i - o - cs.length) = i by omega] at hq
      exact g5 i q hq
end
end Go.Proofs.YtdpdmgbdipokdaaDoor
namespace Go.Proofs.YtdpdmgbdipokdaaDoor
theorem inf3 : Inf Tryd.prog 3 1 (.int .i64 0) := Inf.mk (b := 8) (by kernel_rfl) (by decide) rfl
theorem rel_zero3 : Rel Emb.nil (.i64 0) (.int .i64 0) := Rel.i64 0
theorem inf4 : Inf Tryd.prog 4 1 (.bool false) := Inf.mk (b := 1) (by kernel_rfl) (by decide) rfl
theorem rel_zero4 : Rel Emb.nil (.bool false) (.bool false) := Rel.bool false
theorem inf5 : Inf Tryd.prog 5 1 (.int .u8 0) := Inf.mk (b := 1) (by kernel_rfl) (by decide) rfl
theorem rel_zero5 : Rel Emb.nil (.u8 0) (.int .u8 0) := Rel.u8 0
theorem inf9 : Inf Tryd.prog 9 1 (.string ⟨#[]⟩) := Inf.mk (b := 16) (by kernel_rfl) (by decide) rfl
theorem rel_zero9 : Rel Emb.nil (.str []) (.string ⟨#[]⟩) := Rel.str []
theorem inf87 : Inf Tryd.prog 87 1 (.int .u32 0) := Inf.mk (b := 4) (by kernel_rfl) (by decide) rfl
theorem rel_zero87 : Rel Emb.nil (.u32 0) (.int .u32 0) := Rel.u32 0
theorem sz22 : (Tryd.prog.info? 22).map (·.size) = some 32 := by kernel_rfl
theorem zero22 : (Tryd.prog.info? 22).map (·.zero) = some (some (.agg (Array.replicate 32 (.int .u8 0)))) := by kernel_rfl
theorem rel_zero22 : Rel Emb.nil (.aggB (List.replicate 32 0)) (.agg (Array.replicate 32 (.int .u8 0))) := rz_B _ 32
theorem sz25 : (Tryd.prog.info? 25).map (·.size) = some 16 := by kernel_rfl
theorem zero25 : (Tryd.prog.info? 25).map (·.zero) = some (some (.agg (Array.replicate 16 (.int .u8 0)))) := by kernel_rfl
theorem rel_zero25 : Rel Emb.nil (.aggB (List.replicate 16 0)) (.agg (Array.replicate 16 (.int .u8 0))) := rz_B _ 16
theorem sz44 : (Tryd.prog.info? 44).map (·.size) = some 256 := by kernel_rfl
theorem zero44 : (Tryd.prog.info? 44).map (·.zero) = some (some (.agg (Array.replicate 256 (.int .u8 0)))) := by kernel_rfl
theorem rel_zero44 : Rel Emb.nil (.aggB (List.replicate 256 0)) (.agg (Array.replicate 256 (.int .u8 0))) := rz_B _ 256
theorem sz62 : (Tryd.prog.info? 62).map (·.size) = some 4 := by kernel_rfl
theorem zero62 : (Tryd.prog.info? 62).map (·.zero) = some (some (.agg (Array.replicate 4 (.int .u8 0)))) := by kernel_rfl
theorem rel_zero62 : Rel Emb.nil (.aggB (List.replicate 4 0)) (.agg (Array.replicate 4 (.int .u8 0))) := rz_B _ 4
theorem sz24 : (Tryd.prog.info? 24).map (·.size) = some 33 := by kernel_rfl
theorem zero24 : (Tryd.prog.info? 24).map (·.zero) = some (some (.agg #[.int .u8 0, .int .u8 0, .int .u8 0, .int .u8 0, .int .u8 0, .int .u8 0, .int .u8 0, .int .u8 0, .int .u8 0, .int .u8 0, .int .u8 0, .int .u8 0, .int .u8 0, .int .u8 0, .int .u8 0, .int .u8 0, .int .u8 0, .int .u8 0, .int .u8 0, .int .u8 0, .int .u8 0, .int .u8 0, .int .u8 0, .int .u8 0, .int .u8 0, .int .u8 0, .int .u8 0, .int .u8 0, .int .u8 0, .int .u8 0, .int .u8 0, .int .u8 0, .int .i64 0])) := by kernel_rfl
theorem rel_zero24 : Rel Emb.nil (.agg [.u8 0, .u8 0, .u8 0, .u8 0, .u8 0, .u8 0, .u8 0, .u8 0, .u8 0, .u8 0, .u8 0, .u8 0, .u8 0, .u8 0, .u8 0, .u8 0, .u8 0, .u8 0, .u8 0, .u8 0, .u8 0, .u8 0, .u8 0, .u8 0, .u8 0, .u8 0, .u8 0, .u8 0, .u8 0, .u8 0, .u8 0, .u8 0, .i64 0]) (.agg #[.int .u8 0, .int .u8 0, .int .u8 0, .int .u8 0, .int .u8 0, .int .u8 0, .int .u8 0, .int .u8 0, .int .u8 0, .int .u8 0, .int .u8 0, .int .u8 0, .int .u8 0, .int .u8 0, .int .u8 0, .int .u8 0, .int .u8 0, .int .u8 0, .int .u8 0, .int .u8 0, .int .u8 0, .int .u8 0, .int .u8 0, .int .u8 0, .int .u8 0, .int .u8 0, .int .u8 0, .int .u8 0, .int .u8 0, .int .u8 0, .int .u8 0, .int .u8 0, .int .i64 0]) := rel_agg rfl ⟨.u8 0, .u8 0, .u8 0, .u8 0, .u8 0, .u8 0, .u8 0, .u8 0, .u8 0, .u8 0, .u8 0, .u8 0, .u8 0, .u8 0, .u8 0, .u8 0, .u8 0, .u8 0, .u8 0, .u8 0, .u8 0, .u8 0, .u8 0, .u8 0, .u8 0, .u8 0, .u8 0, .u8 0, .u8 0, .u8 0, .u8 0, .u8 0, .i64 0, trivial⟩
theorem sz46 : (Tryd.prog.info? 46).map (·.size) = some 512 := by kernel_rfl
theorem zero46 : (Tryd.prog.info? 46).map (·.zero) = some (some (.agg (Array.replicate 512 (.int .u8 0)))) := by kernel_rfl
theorem rel_zero46 : Rel Emb.nil (.aggB (List.replicate 512 0)) (.agg (Array.replicate 512 (.int .u8 0))) := rz_B _ 512
end Go.Proofs.YtdpdmgbdipokdaaDoor
