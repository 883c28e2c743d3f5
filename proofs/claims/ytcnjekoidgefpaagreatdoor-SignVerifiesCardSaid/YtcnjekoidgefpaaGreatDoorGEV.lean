/-
  Fields, equal rows, structs, and the types of the program.
-/
import Derived.ChangeKeysEq
import Derived.LaidEql
import Derived.LaidEqlPtr
import Derived.Laws.Pointers
import Derived.Stop.Asserts
import Derived.Lib.Builder
import Derived.Lib.UnsafeStr
import Derived.Lib.Bytealg
import Derived.LoopN
import Derived.Test.YtcnjekoidgefpaaGreatDoorProg
import Derived.WalkKit
import Derived.Test.YtcnjekoidgefpaaGreatDoorGBV
namespace Go.Proofs.YtcnjekoidgefpaaGreatDoor
open Go.RowKit
section
variable {P : Program} {T : Nat → Option AV} {H : Hp} {nm : Nat} {wr : Bool} {v u u1 u2 : AV} {d : Option Tmp} {ty : TypeId} {ps : String} {af : Array Edge} {gd : Option (Nat × Bool)}
theorem eZ {s : TypeId} {x : Operand} {b o k m : Nat} {fs : Array Field} {f : Field} (hu : P.underlying s = some (.struct fs)) (hf : fs[k]? = some f) (hz : (P.info? f.type).map (·.size) = some (m + 1)) (hx : aev T x = some (.ptr b o)) :
    zZ P T H ⟨d, .fieldAddr s x k, ty, ps, af, gd⟩ nm wr (.ptr b (o + f.offset)) [] :=
  .quiet fun E a w h => by
    obtain ⟨l, sz, h1, h3⟩ := (h x mem1 _ hx).ptr_inv
    refine ⟨.pointer (some ⟨l, o + f.offset, none⟩), ?_, .ptr _ _ _ _ h1⟩
    simp [execOp, h3, Instr.fieldAt, Instr.sureAddr, run_underlying hu, hf, fieldPlace, oY hz, aT]
theorem op_neg64 {t : TypeId} {x : Operand} {a : UInt64} (hx : aev T x = some (.u64 a)) : zZ P T H ⟨d, .unOp .neg t x, ty, ps, af, gd⟩ nm wr (.u64 (0 - a)) [] :=
  .quiet fun E ac w h' => by
    have e := (h' x mem1 _ hx).u64_inv
    have e2 := sub_n64 0 a
    unfold n64 at e2
    refine ⟨.int .u64 (IntKind.u64.wrap (0 - (a.toNat : Int))), by simp only [execOp, e]; rfl, ?_⟩
    have e3 : IntKind.u64.wrap (0 - (a.toNat : Int)) = ((0 - a : UInt64).toNat : Int) := e2
    rw [e3]; exact .u64 _
theorem kO {t t' : TypeId} {x y : Operand} {a b : UInt64} (hx : aev T x = some (.u64 a)) (hy : aev T y = some (.u64 b)) : zZ P T H ⟨d, .binOp .andNot t x y t', ty, ps, af, gd⟩ nm wr (.u64 (a &&& ~~~b)) [] :=
  wW hx hy fun E y1 y2 w h1 h2 => by
    rw [h1.u64_inv, h2.u64_inv]
    have e : bits .andNot .u64 (n64 a) (n64 b) = n64 (a &&& ~~~b) := by
      rw [← oQ (a &&& ~~~b)]
      show IntKind.u64.wrap ↑((BitVec.ofInt 64 (n64 a)) &&& ~~~(BitVec.ofInt 64 (n64 b))).toNat = _
      rw [jU, jU]; rfl
    unfold n64 at e
    exact ⟨.int .u64 (bits .andNot .u64 (n64 a) (n64 b)), rfl, by unfold n64; rw [e]; exact .u64 _⟩
theorem op_andNot8 {t t' : TypeId} {x y : Operand} {a b : UInt8} (hx : aev T x = some (.u8 a)) (hy : aev T y = some (.u8 b)) : zZ P T H ⟨d, .binOp .andNot t x y t', ty, ps, af, gd⟩ nm wr (.u8 (a &&& ~~~b)) [] :=
  wW hx hy fun E y1 y2 w h1 h2 => by
    rw [h1.u8_inv, h2.u8_inv]
    have e : bits .andNot .u8 (n8 a) (n8 b) = n8 (a &&& ~~~b) := by
      rw [← dM (a &&& ~~~b)]
      show IntKind.u8.wrap ↑((BitVec.ofInt 8 (n8 a)) &&& ~~~(BitVec.ofInt 8 (n8 b))).toNat = _
      rw [wT, wT]; rfl
    unfold n8 at e
    exact ⟨.int .u8 (bits .andNot .u8 (n8 a) (n8 b)), rfl, by unfold n8; rw [e]; exact .u8 _⟩
end
/-! Rows of numbers, compared. -/
section
variable {P : Program} {w : World}
theorem kL {e : TypeId} {dd : TypeDesc} (hu : P.underlying e = some dd) (hna : (match dd with | .struct _ | .array _ _ => true | _ => false) = false) {cs : Array Value} {i : Nat} {v : Value} (h : cs[i]? = some v) : (part e cs i).run P w = .ok v w := by
  simp [part, lL hu hna, h]
theorem vL {e : TypeId} {q k : IntKind} (he : P.underlying e = some (.int q)) (d : Nat) (l1 l2 : List Int) : ∀ (is : List Nat), (∀ i ∈ is, i < l1.length ∧ i < l2.length) →
    (Op.eqItems (d + 1) e 1 (l1.map (Value.int k)).toArray (l2.map (Value.int k)).toArray is).run P w = .ok (decide (∀ i ∈ is, l1.getD i 0 = l2.getD i 0)) w
  | [], _ => by simp [Op.eqItems]
  | i :: is, h => by
    obtain ⟨h1, h2⟩ := h i List.mem_cons_self
    have ih := vL (k := k) he d l1 l2 is (fun j hj => h j (List.mem_cons_of_mem _ hj))
    have p1 : (part e (l1.map (Value.int k)).toArray (i * 1)).run P w = .ok (.int k (l1.getD i 0)) w := kL he rfl (by simp [List.getD_eq_getElem?_getD, h1])
    have p2 : (part e (l2.map (Value.int k)).toArray (i * 1)).run P w = .ok (.int k (l2.getD i 0)) w := kL he rfl (by simp [List.getD_eq_getElem?_getD, h2])
    simp only [Op.eqItems, Sem.run_bind, p1, p2, Result.andThen_ok, run_equalIn_int w d e k q _ _ he]
    by_cases c : l1.getD i 0 = l2.getD i 0
    · rw [beq_iff_eq.2 c]
      simp only [Bool.not_true, Bool.false_eq_true, if_false, ih]
      congr 1
      refine decide_eq_decide.2 ⟨fun h j hj => ?_, fun h j hj => h j (List.mem_cons_of_mem _ hj)⟩
      rcases List.mem_cons.1 hj with rfl | hj
      · exact c
      · exact h j hj
    · rw [beq_eq_false_iff_ne.2 c]
      simp only [Bool.not_false, if_true, Sem.run_pure]
      congr 1
      exact (decide_eq_false (fun h => c (h i List.mem_cons_self))).symm
theorem range_all {l1 l2 : List Int} (n : Nat) (h1 : l1.length = n) (h2 : l2.length = n) : (∀ i ∈ List.range n, l1.getD i 0 = l2.getD i 0) ↔ l1 = l2 := by
  constructor
  · intro h
    refine List.ext_getElem (by omega) fun i a b => ?_
    have := h i (List.mem_range.2 (by omega))
    simpa [List.getD_eq_getElem?_getD, a, b] using this
  · rintro rfl i _; rfl
theorem nT {t e : TypeId} {q k : IntKind} {n d : Nat} (hu : P.underlying t = some (.array n e)) (he : P.underlying e = some (.int q)) (hi : (P.info? e).map (·.size) = some 1) (l1 l2 : List Int) (h1 : l1.length = n) (h2 : l2.length = n) :
    (Op.equalIn (d + 2) t (.agg (l1.map (Value.int k)).toArray) (.agg (l2.map (Value.int k)).toArray)).run P w = .ok (decide (l1 = l2)) w := by
  cases hq : P.info? e with
  | none => rw [hq] at hi; cases hi
  | some i =>
    have hc : P.cellsOf e = 1 := by
      unfold Program.cellsOf; rw [hq] at hi ⊢; simpa using hi
    rw [run_equalIn_array w (d + 1) _ _ hu hq, hc, vL he d l1 l2 _ (fun j hj => by have := List.mem_range.1 hj; omega)]
    congr 1
    exact decide_eq_decide.2 (range_all n h1 h2)
theorem jL {t e : TypeId} {n : Nat} (hu : P.underlying t = some (.array n e)) (hz : (P.info? t).map (·.size) = some n) {cs : Array Value} (h : cs.size = n) : (part t cs 0).run P w = .ok (.agg cs) w := by
  have : cs.extract 0 n = cs := by rw [← h]; exact Array.extract_size
  simp [part, lQ hu rfl, oY hz, this]
theorem sP {t e : TypeId} {q k : IntKind} {n d : Nat} {f : Field} (hs : P.underlying t = some (.struct (P.fieldsOf t))) (hp : P.stoodInHeld t = false) (hf : P.fieldsOf t = #[f]) (hn : f.name ≠ "_") (ho : f.offset = 0)
    (hu : P.underlying f.type = some (.array n e)) (hz : (P.info? f.type).map (·.size) = some n) (he : P.underlying e = some (.int q)) (hi : (P.info? e).map (·.size) = some 1) (l1 l2 : List Int) (h1 : l1.length = n) (h2 : l2.length = n) :
    (Op.equalIn (d + 3) t (.agg (l1.map (Value.int k)).toArray) (.agg (l2.map (Value.int k)).toArray)).run P w = .ok (decide (l1 = l2)) w := by
  have p1 : (part f.type (l1.map (Value.int k)).toArray f.offset).run P w = .ok (.agg (l1.map (Value.int k)).toArray) w := by rw [ho]; exact jL hu hz (by simp [h1])
  have p2 : (part f.type (l2.map (Value.int k)).toArray f.offset).run P w = .ok (.agg (l2.map (Value.int k)).toArray) w := by rw [ho]; exact jL hu hz (by simp [h2])
  rw [run_equalIn_struct w (d + 2) t _ _ hs hp, hf]
  simp only [Op.eqFields, hn, ne_eq, not_false_eq_true, if_true, Sem.run_bind, p1, p2, Result.andThen_ok, nT hu he hi l1 l2 h1 h2]
  cases decide (l1 = l2) <;> simp
theorem eq_of_run {t : TypeId} {x y : Operand} {X Y : Array Value} {r : Bool} (hm : P.eqGuardType P.depth t = false) (h : (Op.equalIn (9997 + 3) t (.agg X) (.agg Y)).run P w = .ok r w) :
    (do eqGuard .eql t x y (.agg X) (.agg Y); binOp .eql t (.agg X) (.agg Y) : Sem Value).run P w = .ok (.bool r) w := by
  rw [Sem.run_bind, run_eqGuard_agg _ _ _ _ _ _ _ hm, Result.andThen_ok, run_eql_struct]
  show ((Op.equalIn (9997 + 3) t (.agg X) (.agg Y)).run P w).andThen _ = _
  rw [h]; rfl
theorem neq_of_run {t : TypeId} {x y : Operand} {X Y : Array Value} {r : Bool} (hm : P.eqGuardType P.depth t = false) (h : (Op.equalIn (9997 + 3) t (.agg X) (.agg Y)).run P w = .ok r w) :
    (do eqGuard .neq t x y (.agg X) (.agg Y); binOp .neq t (.agg X) (.agg Y) : Sem Value).run P w = .ok (.bool (!r)) w := by
  rw [Sem.run_bind, run_eqGuard_agg _ _ _ _ _ _ _ hm, Result.andThen_ok, run_neq_struct]
  show ((Op.equalIn (9997 + 3) t (.agg X) (.agg Y)).run P w).andThen _ = _
  rw [h]; rfl
theorem qO {E : Emb} {l : List UInt64} {v : Value} (h : Rel E (.agg64 l) v) : v = .agg ((l.map fun x => (x.toNat : Int)).map (Value.int .u64)).toArray := by
  obtain ⟨ds, rfl, h1, h2, h3⟩ := h.agg_inv (cs := l.map .u64) rfl
  congr 1
  apply Array.ext_getElem?
  intro i
  by_cases hi : i < l.length
  · have hd : i < ds.size := by rw [← h1]; simpa using hi
    have := h3 i (.u64 l[i]) ds[i] (by simp [hi]) (by simp [hd])
    have := this.u64_inv
    rw [Array.getElem?_eq_getElem hd, this]
    simp [hi]
  · rw [Array.getElem?_eq_none (by rw [← h1]; simp; omega), Array.getElem?_eq_none (by simp; omega)]
theorem wM {E : Emb} {l : List UInt8} {v : Value} (h : Rel E (.aggB l) v) : v = .agg ((l.map fun x => (x.toNat : Int)).map (Value.int .u8)).toArray := by
  rw [relB_inv h]; simp
theorem map64_eq (a b : List UInt64) : decide ((a.map fun x => (x.toNat : Int)) = b.map fun x => (x.toNat : Int)) = (a == b) := by
  rw [Bool.eq_iff_iff, decide_eq_true_eq, beq_iff_eq]
  refine ⟨fun h => ?_, fun h => by rw [h]⟩
  exact (List.map_inj_right (fun x y (h : (x.toNat : Int) = y.toNat) => UInt64.toNat_inj.1 (by omega))).1 h
theorem map8_eq (a b : List UInt8) : decide ((a.map fun x => (x.toNat : Int)) = b.map fun x => (x.toNat : Int)) = (a == b) := by
  rw [Bool.eq_iff_iff, decide_eq_true_eq, beq_iff_eq]
  refine ⟨fun h => ?_, fun h => by rw [h]⟩
  exact (List.map_inj_right (fun x y (h : (x.toNat : Int) = y.toNat) => UInt8.toNat_inj.1 (by omega))).1 h
end
section
variable {P : Program} {T : Nat → Option AV} {H : Hp} {nm : Nat} {wr : Bool} {d : Option Tmp} {ty : TypeId} {ps : String} {af : Array Edge} {gd : Option (Nat × Bool)}
theorem op_eqBox {t t' e : TypeId} {x y : Operand} {q : IntKind} {n : Nat} {f : Field} {a b : List UInt64} (hm : P.eqGuardType P.depth t = false) (hs : P.underlying t = some (.struct (P.fieldsOf t))) (hp : P.stoodInHeld t = false) (hf : P.fieldsOf t = #[f]) (hn : f.name ≠ "_") (ho : f.offset = 0)
    (hu : P.underlying f.type = some (.array n e)) (hz : (P.info? f.type).map (·.size) = some n) (he : P.underlying e = some (.int q)) (hi : (P.info? e).map (·.size) = some 1) (hx : aev T x = some (.agg64 a)) (hy : aev T y = some (.agg64 b)) (ha : a.length = n) (hb : b.length = n) :
    zZ P T H ⟨d, .binOp .eql t x y t', ty, ps, af, gd⟩ nm wr (.bool (a == b)) [] :=
  wW hx hy fun E y1 y2 w h1 h2 => by
    rw [qO h1, qO h2]
    refine ⟨.bool (a == b), eq_of_run hm ?_, .bool _⟩
    rw [sP hs hp hf hn ho hu hz he hi _ _ (by simp [ha]) (by simp [hb]), map64_eq]
theorem op_neqBox {t t' e : TypeId} {x y : Operand} {q : IntKind} {n : Nat} {f : Field} {a b : List UInt64} (hm : P.eqGuardType P.depth t = false) (hs : P.underlying t = some (.struct (P.fieldsOf t))) (hp : P.stoodInHeld t = false) (hf : P.fieldsOf t = #[f]) (hn : f.name ≠ "_") (ho : f.offset = 0)
    (hu : P.underlying f.type = some (.array n e)) (hz : (P.info? f.type).map (·.size) = some n) (he : P.underlying e = some (.int q)) (hi : (P.info? e).map (·.size) = some 1) (hx : aev T x = some (.agg64 a)) (hy : aev T y = some (.agg64 b)) (ha : a.length = n) (hb : b.length = n) :
    zZ P T H ⟨d, .binOp .neq t x y t', ty, ps, af, gd⟩ nm wr (.bool (a != b)) [] :=
  wW hx hy fun E y1 y2 w h1 h2 => by
    rw [qO h1, qO h2]
    refine ⟨.bool (a != b), neq_of_run hm ?_, .bool _⟩
    rw [sP hs hp hf hn ho hu hz he hi _ _ (by simp [ha]) (by simp [hb]), map64_eq]
theorem op_eqRow8 {t t' e : TypeId} {x y : Operand} {q : IntKind} {n : Nat} {a b : List UInt8} (hm : P.eqGuardType P.depth t = false) (hu : P.underlying t = some (.array n e)) (he : P.underlying e = some (.int q)) (hi : (P.info? e).map (·.size) = some 1) (hx : aev T x = some (.aggB a)) (hy : aev T y = some (.aggB b)) (ha : a.length = n) (hb : b.length = n) :
    zZ P T H ⟨d, .binOp .eql t x y t', ty, ps, af, gd⟩ nm wr (.bool (a == b)) [] :=
  wW hx hy fun E y1 y2 w h1 h2 => by
    rw [wM h1, wM h2]
    refine ⟨.bool (a == b), eq_of_run hm ?_, .bool _⟩
    rw [nT (d := 9998) hu he hi _ _ (by simp [ha]) (by simp [hb]), map8_eq]
theorem gP {t t' e : TypeId} {x y : Operand} {q : IntKind} {n : Nat} {a b : List UInt8} (hm : P.eqGuardType P.depth t = false) (hu : P.underlying t = some (.array n e)) (he : P.underlying e = some (.int q)) (hi : (P.info? e).map (·.size) = some 1) (hx : aev T x = some (.aggB a)) (hy : aev T y = some (.aggB b)) (ha : a.length = n) (hb : b.length = n) :
    zZ P T H ⟨d, .binOp .neq t x y t', ty, ps, af, gd⟩ nm wr (.bool (a != b)) [] :=
  wW hx hy fun E y1 y2 w h1 h2 => by
    rw [wM h1, wM h2]
    refine ⟨.bool (a != b), neq_of_run hm ?_, .bool _⟩
    rw [nT (d := 9998) hu he hi _ _ (by simp [ha]) (by simp [hb]), map8_eq]
end
end Go.Proofs.YtcnjekoidgefpaaGreatDoor
namespace Go.Proofs.YtcnjekoidgefpaaGreatDoor
open Go.RowKit
section
variable {P : Program} {T : Nat → Option AV} {H : Hp} {nm : Nat} {wr : Bool} {d : Option Tmp} {ty t : TypeId} {ps : String} {af : Array Edge} {gd : Option (Nat × Bool)}
theorem run_zero {zc : Array Value} (hz : (P.info? t).map (·.zero) = some (some (.agg zc))) (w : World) : (zeroValue t).run P w = .ok (.agg zc) w := by
  cases hq : P.info? t with
  | none => simp [hq] at hz
  | some i => simp [hq] at hz; simp [zeroValue, typeInfo, hq, hz]
theorem foldset (l : List Value) : ∀ (k : Nat) (cs : Array Value), k + l.length ≤ cs.size → ((l.zipIdx k).foldl (fun cs x => cs.setIfInBounds x.2 x.1) cs).size = cs.size ∧ ∀ i, ((l.zipIdx k).foldl (fun cs x => cs.setIfInBounds x.2 x.1) cs)[i]? = if k ≤ i ∧ i < k + l.length then l[i - k]? else cs[i]? := by
  induction l with
  | nil => intro k cs _; exact ⟨rfl, fun i => by rw [if_neg (by simp)]; rfl⟩
  | cons c l ih =>
    intro k cs h
    simp only [List.length_cons] at h
    obtain ⟨h1, h2⟩ := ih (k + 1) (cs.setIfInBounds k c) (by simp; omega)
    simp only [List.zipIdx_cons, List.foldl_cons]
    refine ⟨by rw [h1]; simp, fun i => ?_⟩
    rw [h2 i]
    simp only [List.length_cons]
    by_cases e : k = i
    · subst e
      rw [if_neg (by omega), if_pos (by omega), Nat.sub_self, Array.getElem?_setIfInBounds]
      rw [if_pos rfl, if_pos (by omega)]; rfl
    · by_cases e2 : k + 1 ≤ i ∧ i < k + 1 + l.length
      · rw [if_pos e2, if_pos (by omega), show i - k = (i - (k + 1)) + 1 by omega]; rfl
      · rw [if_neg e2, if_neg (by omega), Array.getElem?_setIfInBounds, if_neg e]
theorem foldset_all (ds zc : Array Value) (h : zc.size = ds.size) : ds.zipIdx.foldl (fun cs x => cs.setIfInBounds x.2 x.1) zc = ds := by
  rw [← Array.foldl_toList, Array.toList_zipIdx]
  obtain ⟨_, h2⟩ := foldset ds.toList 0 zc (by simp; omega)
  refine Array.ext_getElem? fun i => ?_
  rw [h2 i]
  by_cases c : i < ds.size
  · rw [if_pos (by simp; omega)]; simp
  · rw [if_neg (by simp; omega), Array.getElem?_eq_none (by omega), Array.getElem?_eq_none (by omega)]
theorem qL {zc : Array Value} {r0 : AV} {f : Field} {n : Nat} (hu : P.underlying t = some (.struct #[f])) (hf : (P.info? f.type).map (·.size) = some n) (hz : (P.info? t).map (·.zero) = some (some (.agg zc))) (hr0 : Rel (fun _ => none) r0 (.agg zc)) :
    zZ P T H ⟨d, .build t #[], ty, ps, af, gd⟩ nm wr r0 [] :=
  .quiet fun E a w h => by
    refine ⟨.agg zc, ?_, hr0.mono (fun _ _ h => by cases h)⟩
    simp [execOp, Instr.build, run_zero hz, run_underlying hu, Value.cells, oY hf, Instr.fill]
theorem pL {zc : Array Value} {x : Operand} {l : List UInt64} {f : Field} (hu : P.underlying t = some (.struct #[f])) (ho : f.offset = 0) (hf : (P.info? f.type).map (·.size) = some l.length) (hz : (P.info? t).map (·.zero) = some (some (.agg zc))) (hs : zc.size = l.length) (hx : aev T x = some (.agg64 l)) :
    zZ P T H ⟨d, .build t #[(0, x)], ty, ps, af, gd⟩ nm wr (.agg64 l) [] :=
  .quiet fun E a w h => by
    have h1 := h x (by simp [Op.operands]) _ hx
    refine ⟨a.eval x, ?_, h1⟩
    obtain ⟨ds, hd, hl, _⟩ := h1.agg_inv (cs := l.map .u64) rfl
    have hl : ds.size = l.length := by rw [← hl]; simp
    rw [hd]
    have e : Instr.fill (fun i => (#[(f.offset, l.length)] : Array (Nat × Nat))[i]?) zc [(0, .agg ds)] = some ds := by
      have := foldset_all ds zc (by omega)
      simp [Instr.fill, Value.cells, ho, hl, hs]
      simpa [hl] using this
    simp only [execOp, Sem.run_bind, Instr.build, run_zero hz, Result.andThen_ok, run_underlying hu, Value.cells]
    have em : (#[f].mapM (fun f => do pure (f.offset, ← sizeOf f.type) : Field → Sem (Nat × Nat))).run P w = .ok #[(f.offset, l.length)] w := by
      simp [oY hf]
    rw [em]
    simp only [Result.andThen_ok]
    have e2 : (#[((0 : Nat), x)].map fun (i, x) => (i, a.eval x)).toList = [(0, .agg ds)] := by simp [hd]
    rw [e2, e]
    simp
theorem op_sub64 {f : FuncId} {fn : Func} {x y z : Operand} {ts : Array TypeId} {a b c : UInt64} (hf : P.funcs[f]? = some fn) (hname : (fn.name == "runtime.NumGoroutine") = false) (hb : fn.body.isNone = true) (hn : (Extern.findNext fn).isNone = true)
    (he : (Extern.find fn) = some (fun args => do
      let (x, y, b) ← Extern.MathBitsCarry.three "Sub64" args
      pure (Extern.MathBitsCarry.pair ((x + Extern.MathBitsCarry.m64 - y - b) % Extern.MathBitsCarry.m64) (if x < y + b then 1 else 0))))
    (hx : aev T x = some (.u64 a)) (hy : aev T y = some (.u64 b)) (hz : aev T z = some (.u64 c)) (hc : c.toNat ≤ 1) :
    zZ P T H ⟨d, .call { callee := .value (.func f), args := #[x, y, z], argTypes := ts }, ty, ps, af, gd⟩ nm wr (.tup [.u64 (a - b - c), .u64 (UInt64.ofNat (if a.toNat < b.toNat + c.toNat then 1 else 0))]) [] :=
  .quiet fun E ac w h => by
    have h1 := (h x (by simp [Op.operands, Call.operands]) _ hx).u64_inv
    have h2 := (h y (by simp [Op.operands, Call.operands]) _ hy).u64_inv
    have h3 := (h z (by simp [Op.operands, Call.operands]) _ hz).u64_inv
    have ha := a.toNat_lt
    have hb' := b.toNat_lt
    have hbor : (UInt64.ofNat (if a.toNat < b.toNat + c.toNat then 1 else 0)).toNat = if a.toNat < b.toNat + c.toNat then 1 else 0 := by
      split <;> rfl
    have hsum : (a - b - c).toNat = (a.toNat + 18446744073709551616 - b.toNat - c.toNat) % 18446744073709551616 := by
      rw [UInt64.toNat_sub, UInt64.toNat_sub]; omega
    have hrun : (callFunc f #[.int .u64 (a.toNat : Int), .int .u64 (b.toNat : Int), .int .u64 (c.toNat : Int)]).run P w = .ok (.value (.tuple #[.int .u64 ((a - b - c).toNat : Int), .int .u64 ((UInt64.ofNat (if a.toNat < b.toNat + c.toNat then 1 else 0)).toNat : Int)])) w := by
      refine sQ hf hname hb hn he ?_
      rw [hbor, hsum]
      have hc' : ¬ (1 < c.toNat) := by omega
      have e3 : ∀ X Y Z : Value, Extern.MathBitsCarry.three "Sub64" #[X, Y, Z] = (do
          let c := (← asInt Z).toNat
          if c > 1 then unsupported (.noEntry ("extern/math/bits." ++ "Sub64" ++ ": a carry that is neither 0 nor 1"))
          pure ((← asInt X).toNat, (← asInt Y).toNat, c)) := fun _ _ _ => rfl
      have hm : Extern.MathBitsCarry.m64 = 18446744073709551616 := rfl
      simp only [e3, asInt, asIntOf, Sem.run_bind, Sem.run_pure, Result.andThen_ok, Int.toNat_natCast, Sem.run_ite, gt_iff_lt, if_neg hc', Extern.MathBitsCarry.pair, hm]
      rfl
    obtain ⟨Y, hY⟩ : ∃ Y, Y = Value.tuple #[.int .u64 ((a - b - c).toNat : Int), .int .u64 ((UInt64.ofNat (if a.toNat < b.toNat + c.toNat then 1 else 0)).toNat : Int)] := ⟨_, rfl⟩
    rw [← hY] at hrun
    have hmap : (#[x, y, z] : Array Operand).map ac.eval = #[.int .u64 (a.toNat : Int), .int .u64 (b.toNat : Int), .int .u64 (c.toNat : Int)] := by simp only [List.map_toArray, List.map_cons, List.map_nil, h1, h2, h3]
    rw [← hmap] at hrun
    clear hmap hbor hsum
    refine ⟨Y, ?_, ?_⟩
    · exact cN hrun
    · rw [hY]
      refine .tup _ _ rfl fun i p q hp hq => ?_
      match i, hp, hq with
      | 0, hp, hq => simp only [List.getElem?_cons_zero, Option.some.injEq] at hp; subst hp; injection hq with hq; subst hq; exact .u64 _
      | 1, hp, hq => simp only [List.getElem?_cons_succ, List.getElem?_cons_zero, Option.some.injEq] at hp; subst hp; injection hq with hq; subst hq; exact .u64 _
      | i + 2, hp, _ => simp at hp
end
end Go.Proofs.YtcnjekoidgefpaaGreatDoor
namespace Go.Proofs.YtcnjekoidgefpaaGreatDoor
open Go.RowKit
theorem kZ.alias {P : Program} {f : FuncId} {n m : Nat} {l r : List Int} {e e2 : Nat} {ow : Bool}
    (hm : kZ P f [.sl 500 0 n 1, .sl 501 0 n 1] [(500, some ⟨.aggI l, e, false⟩), (501, some ⟨.aggI l, e, false⟩)] (.sl 1000 0 m 1) [(1000, some ⟨.aggI r, e2, ow⟩)]) :
    kZ P f [.sl 500 0 n 1, .sl 500 0 n 1] [(500, some ⟨.aggI l, e, false⟩)] (.sl 1000 0 m 1) [(1000, some ⟨.aggI r, e2, ow⟩)] := by
  intro E S n0 vals w h1 h2 h3 h4 h5 h6 h7
  let E2 : Emb := fun b => if b = 501 then E 500 else E b
  have q500 : E2 500 = E 500 := by show (if (500 : Nat) = 501 then _ else _) = _; rw [if_neg (by decide)]
  have q501 : E2 501 = E 500 := by show (if (501 : Nat) = 501 then _ else _) = _; rw [if_pos rfl]
  have up : ∀ {x : AV} {y : Value} {b : Nat}, x.names = [b] → b ≠ 501 → Rel E x y → Rel E2 (x.ren id) y := fun {x y b} hx hb h => h.ren (fun b hb p hp => by show (if b = 501 then E 500 else E b) = some p; rw [if_neg (by omega)]; exact hp) fun c hc p hp => by
    rw [hx] at hc
    have : c = b := by simpa using hc
    subst this
    show (if c = 501 then E 500 else E c) = some p
    rw [if_neg hb]; exact hp
  have up1 : ∀ {y : Value}, Rel E (.sl 500 0 n 1) y → Rel E2 (.sl 501 0 n 1) y := fun {y} h => by
    refine h.ren (r := fun _ => 501) (fun b hb p hp => by show (if b = 501 then E 500 else E b) = some p; rw [if_neg (by omega)]; exact hp) fun c hc p hp => ?_
    have : c = 500 := by simpa [AV.names] using hc
    subst this
    exact q501.trans hp
  have hb : ∀ {b : Nat} {k : ABlk}, hget [(500, some ⟨.aggI l, e, false⟩)] b = some k → b = 500 ∧ k = ⟨.aggI l, e, false⟩ := fun {b k} h => by
    have := kW h
    simpa using this
  have bat : ∀ {k : ABlk} {q s : Nat}, k = ⟨.aggI l, e, false⟩ → BAt E k w q s → BAt E2 k w q s := fun {k q s} hk h => by
    subst hk
    exact h.ren (r := id) (fun b hb p hp => by show (if b = 501 then E 500 else E b) = some p; rw [if_neg (by omega)]; exact hp) (fun c hc => by simp [AV.names] at hc) false (fun h => by cases h) (fun h => by cases h)
  have hR : RH E2 S (hget [(500, some ⟨.aggI l, e, false⟩), (501, some ⟨.aggI l, e, false⟩)]) w := by
    obtain ⟨q, s, g1, g2⟩ := h5.blk 500 ⟨.aggI l, e, false⟩ rfl
    refine ⟨fun b k hk => ?_, fun b b' k k' q s s' hk _ ho => ?_, fun b k q s hk ho => ?_⟩
    · have := kW hk
      simp only [List.mem_cons, Prod.mk.injEq, Option.some.injEq, List.not_mem_nil, or_false] at this
      rcases this with ⟨rfl, rfl⟩ | ⟨rfl, rfl⟩
      · exact ⟨q, s, q500.trans g1, bat rfl g2⟩
      · exact ⟨q, s, q501.trans g1, bat rfl g2⟩
    · have := kW hk
      simp only [List.mem_cons, Prod.mk.injEq, Option.some.injEq, List.not_mem_nil, or_false] at this
      rcases this with ⟨rfl, rfl⟩ | ⟨rfl, rfl⟩ <;> cases ho
    · have := kW hk
      simp only [List.mem_cons, Prod.mk.injEq, Option.some.injEq, List.not_mem_nil, or_false] at this
      rcases this with ⟨rfl, rfl⟩ | ⟨rfl, rfl⟩ <;> cases ho
  refine (hm E2 S n0 vals w (fun g hg => ?_) (fun b hb => ?_) h3 (fun i x y hx hy => ?_) hR h6 h7).mono fun ed w' hh => ?_
  · obtain ⟨s, hs⟩ := h1 g hg
    exact ⟨s, by show (if g = 501 then E 500 else E g) = _; rw [if_neg (by omega)]; exact hs⟩
  · show (if b = 501 then E 500 else E b) = none
    rw [if_neg (by omega)]; exact h2 b hb
  · match i, hx with
    | 0, hx => injection hx with hx; subst hx; exact up rfl (by decide) (h4 0 _ y rfl hy)
    | 1, hx => injection hx with hx; subst hx; exact up1 (h4 1 _ y rfl hy)
    | i + 2, hx => simp at hx
  · obtain ⟨y, E', g1, g2, g3, g4, g5⟩ := hh
    let E3 : Emb := fun b => if b = 501 then E 501 else E' b
    have r1000 : E3 1000 = E' 1000 := by show (if (1000 : Nat) = 501 then _ else _) = _; rw [if_neg (by decide)]
    have hb3 : ∀ {b : Nat} {k : ABlk}, hget [(1000, some ⟨.aggI r, e2, ow⟩)] b = some k → b = 1000 ∧ k = ⟨.aggI r, e2, ow⟩ := fun {b k} h => by
      have := kW h
      simpa using this
    refine ⟨y, E3, g1, fun b hb => ?_, ?_, ⟨fun b k hk => ?_, fun b b' k k' q s s' hk hk' ho hq hq' => ?_, fun b k q s hk ho hq => ?_⟩, g5⟩
    · show (if b = 501 then E 501 else E' b) = E b
      by_cases c : b = 501
      · rw [if_pos c, c]
      · rw [if_neg c, g2 b hb]; show (if b = 501 then E 500 else E b) = E b; rw [if_neg c]
    · exact g3.ren (r := id) (fun b hb p hp => by show (if b = 501 then E 501 else E' b) = some p; rw [if_neg (by omega)]; exact hp) fun c hc p hp => by
        have : c = 1000 := by simpa [AV.names] using hc
        subst this
        exact r1000.trans hp
    · obtain ⟨rfl, rfl⟩ := hb3 hk
      obtain ⟨q, s, t1, t2⟩ := g4.blk 1000 _ hk
      exact ⟨q, s, r1000.trans t1, t2.ren (r := id) (fun b hb p hp => by show (if b = 501 then E 501 else E' b) = some p; rw [if_neg (by omega)]; exact hp) (fun c hc => by simp [AV.names] at hc) ow id (fun h1 h2 => by rw [show ow = true from h1] at h2; cases h2)⟩
    · obtain ⟨rfl, rfl⟩ := hb3 hk
      obtain ⟨rfl, _⟩ := hb3 hk'
      rfl
    · obtain ⟨rfl, rfl⟩ := hb3 hk
      exact g4.own 1000 _ q s hk ho (r1000.symm.trans hq)
end Go.Proofs.YtcnjekoidgefpaaGreatDoor
namespace Go.Proofs.YtcnjekoidgefpaaGreatDoor
open Go.RowKit
section
variable {P : Program} {T : Nat → Option AV} {H : Hp} {nm : Nat} {wr : Bool} {d : Option Tmp} {ty t : TypeId} {ps : String} {af : Array Edge} {gd : Option (Nat × Bool)}
theorem tZ {dd : TypeDesc} {x : Operand} {b o m : Nat} {k : ABlk} {r : AV} {cs : List AV} (hu : P.underlying t = some dd) (hna : (match dd with | .struct _ | .array _ _ => true | _ => false) = true) (hz : (P.info? t).map (·.size) = some m) (hx : aev T x = some (.ptr b o)) (hk : H b = some k) (hc : r.parts = some cs) (hm : cs.length = m) (hr : cs = (k.c.list.drop o).take m) (hlt : o + m ≤ k.c.len) (hw0 : r.rowWhole = true := by rfl) :
    zZ P T H ⟨d, .load t x, ty, ps, af, gd⟩ nm wr r [] :=
  .reads fun E S a w h hR => by
    obtain ⟨l, s, h1, h2⟩ := (h x mem1 _ hx).ptr_inv
    obtain ⟨l', s', h3, h4⟩ := hR.blk b k hk
    rw [h1] at h3; injection h3 with h3; injection h3 with e1 e2; subst e1; subst e2
    obtain ⟨arr, tq, fz, g1, g2, g3, g4, g5⟩ := h4
    have hkl : k.c.list.length = k.c.len := pV _
    have hload := run_loadCells_list (P := P) w ⟨l, o, none⟩ ((arr.toList.drop o).take m) (fun j v hj => by
      rw [aT, cell_of_row w l (o + j) arr tq fz g1]
      rw [List.getElem?_take] at hj
      split at hj
      · rw [List.getElem?_drop] at hj; simpa using hj
      · cases hj)
    have hlen2 : ((arr.toList.drop o).take m).length = m := by simp; omega
    rw [hlen2] at hload
    refine ⟨.agg ((arr.toList.drop o).take m).toArray, ?_, ?_⟩
    · simp [execOp, h2, Instr.loadAt, Instr.sureAddr, loadVar, lQ hu hna, oY hz, hload]
    · have key : ∀ (i : Nat) x, cs[i]? = some x → i < m ∧ k.c.list[o + i]? = some x := fun i x hx => by
        have hi : i < m := by rw [← hm]; exact (List.getElem?_eq_some_iff.1 hx).1
        rw [hr, List.getElem?_take, if_pos hi, List.getElem?_drop] at hx
        exact ⟨hi, hx⟩
      refine .agg _ cs _ hc (by simp; omega) (fun x hx => ?_) (fun i x y hx hy => ?_)
      · obtain ⟨i, hi, rfl⟩ := List.mem_iff_getElem.1 hx
        exact dL hw0 (by rw [AV.list, hc]; exact List.getElem?_eq_getElem hi) (g5 (o + i) _ (key i _ (List.getElem?_eq_getElem hi)).2).1
      · obtain ⟨hi, hx2⟩ := key i x hx
        obtain ⟨_, y', h6, h7⟩ := g5 (o + i) x hx2
        simp only [List.getElem?_toArray, List.getElem?_take, hi, if_true, List.getElem?_drop] at hy
        rw [Array.getElem?_toList, h6] at hy
        injection hy with hy; subst hy; exact h7
end
end Go.Proofs.YtcnjekoidgefpaaGreatDoor
namespace Go.Proofs.YtcnjekoidgefpaaGreatDoor
open Go.RowKit
def AV.cells (a : AV) : List AV := match a.parts with
  | some cs => cs
  | none => [a]
def setAt (l : List AV) (o : Nat) (cs : List AV) : List AV := l.take o ++ (cs ++ l.drop (o + cs.length))
def fillA (pl : List (Nat × Nat)) : List AV → List (Nat × AV) → Option (List AV)
  | l, [] => some l
  | l, (i, v) :: r => match pl[i]? with
    | none => none
    | some (o, s) => match Nat.beq v.cells.length s && Nat.ble (o + s) l.length && v.cells.all AV.one with
      | true => fillA pl (setAt l o v.cells) r
      | false => none
def jN (E : Emb) (l : List AV) (arr : Array Value) : Prop := l.length = arr.size ∧ (∀ x ∈ l, x.one = true) ∧ ∀ (i : Nat) x y, l[i]? = some x → arr[i]? = some y → Rel E x y
theorem rowrel_of {E : Emb} {v : AV} {y : Value} (h : Rel E v y) (h1 : v.cells.all AV.one = true) : jN E v.cells y.cells := by
  unfold AV.cells at *
  cases hp : v.parts with
  | some cs =>
    obtain ⟨ds, e, g1, g2, g3⟩ := h.agg_inv hp
    subst e
    exact ⟨g1, g2, g3⟩
  | none =>
    simp only [hp, List.all_cons, List.all_nil, Bool.and_true] at h1
    have e : y.cells = #[y] := by
      have := h.one h1
      cases y <;> first | rfl | (simp [Value.oneCell'] at this)
    simp only [e]
    refine ⟨rfl, fun x hx => by simp at hx; rw [hx]; exact h1, fun i x y' hx hy => ?_⟩
    match i, hx, hy with
    | 0, hx, hy => simp at hx hy; subst hx; subst hy; exact h
    | i + 1, hx, _ => simp at hx
theorem foldset_at (ys zc : Array Value) (o : Nat) (h : o + ys.size ≤ zc.size) : (ys.zipIdx.foldl (fun cs x => cs.setIfInBounds (o + x.2) x.1) zc).size = zc.size ∧ ∀ i, (ys.zipIdx.foldl (fun cs x => cs.setIfInBounds (o + x.2) x.1) zc)[i]? = if o ≤ i ∧ i < o + ys.size then ys[i - o]? else zc[i]? := by
  have e : ∀ (l : List Value) (k n : Nat) (cs : Array Value), (l.zipIdx k).foldl (fun cs x => cs.setIfInBounds (n + x.2) x.1) cs = (l.zipIdx (n + k)).foldl (fun cs x => cs.setIfInBounds x.2 x.1) cs := by
    intro l
    induction l with
    | nil => intro k n cs; rfl
    | cons a l ih => intro k n cs; simp only [List.zipIdx_cons, List.foldl_cons]; rw [ih (k + 1) n]; rfl
  rw [← Array.foldl_toList, Array.toList_zipIdx, e ys.toList 0 o, Nat.add_zero]
  obtain ⟨h1, h2⟩ := foldset ys.toList o zc (by simpa using h)
  exact ⟨h1, fun i => by rw [h2 i]; simp⟩
theorem rowrel_set {E : Emb} {l : List AV} {arr : Array Value} {cs : List AV} {ys : Array Value} {o : Nat} (h : jN E l arr) (h2 : jN E cs ys) (ho : o + cs.length ≤ l.length) : jN E (setAt l o cs) (ys.zipIdx.foldl (fun cs x => cs.setIfInBounds (o + x.2) x.1) arr) := by
  obtain ⟨a1, a2, a3⟩ := h
  obtain ⟨b1, b2, b3⟩ := h2
  obtain ⟨f1, f2⟩ := foldset_at ys arr o (by omega)
  refine ⟨?_, fun x hx => ?_, fun i x y hx hy => ?_⟩
  · rw [f1]; simp only [setAt, List.length_append, List.length_take, List.length_drop]; omega
  · simp only [setAt, List.mem_append] at hx
    rcases hx with hx | hx | hx
    · exact a2 x (List.mem_of_mem_take hx)
    · exact b2 x hx
    · exact a2 x (List.mem_of_mem_drop hx)
  · rw [f2 i] at hy
    simp only [setAt] at hx
    have hto : (l.take o).length = o := by rw [List.length_take]; omega
    by_cases c1 : i < o
    · rw [if_neg (by omega)] at hy
      rw [List.getElem?_append_left (by omega), List.getElem?_take, if_pos c1] at hx
      exact a3 i x y hx hy
    · rw [List.getElem?_append_right (by omega), hto] at hx
      by_cases c2 : i < o + cs.length
      · rw [if_pos (by omega)] at hy
        rw [List.getElem?_append_left (by omega)] at hx
        exact b3 _ x y hx hy
      · rw [if_neg (by omega)] at hy
        rw [List.getElem?_append_right (by omega), List.getElem?_drop, show o + cs.length + (i - o - cs.length) = i by omega] at hx
        exact a3 i x y hx hy
theorem fillA_spec {E : Emb} {pl : Array (Nat × Nat)} : ∀ (vs : List (Nat × AV)) (ys : List (Nat × Value)) (l : List AV) (arr : Array Value) (r : List AV), jN E l arr → vs.length = ys.length → (∀ (i : Nat) p q, vs[i]? = some p → ys[i]? = some q → p.1 = q.1 ∧ Rel E p.2 q.2) → fillA pl.toList l vs = some r →
    ∃ arr', Instr.fill (fun i => pl[i]?) arr ys = some arr' ∧ jN E r arr'
  | [], [], l, arr, r, h, _, _, hf => by injection hf with hf; subst hf; exact ⟨arr, rfl, h⟩
  | (i, v) :: vs, (j, y) :: ys, l, arr, r, h, hl, hr, hf => by
    obtain ⟨e, hv⟩ := hr 0 _ _ rfl rfl
    simp only at e hv; subst e
    unfold fillA at hf
    rw [Array.getElem?_toList] at hf
    cases hp : pl[i]? with
    | none => rw [hp] at hf; cases hf
    | some p =>
      obtain ⟨o, s⟩ := p
      rw [hp] at hf
      simp only at hf
      split at hf
      · rename_i hc
        simp only [Bool.and_eq_true] at hc
        obtain ⟨⟨c1, c2⟩, c3⟩ := hc
        have c1 := Nat.eq_of_beq_eq_true c1
        have c2 := Nat.le_of_ble_eq_true c2
        have hrow := rowrel_of hv c3
        have hs : y.cells.size = s := by rw [← hrow.1]; exact c1
        have hsz : arr.size = l.length := h.1.symm
        obtain ⟨arr', g1, g2⟩ := fillA_spec vs ys (setAt l o v.cells) _ r (rowrel_set (o := o) h hrow (by omega)) (by simpa using hl) (fun k p q hp hq => hr (k + 1) p q hp hq) hf
        refine ⟨arr', ?_, g2⟩
        show (match (fun i => pl[i]?) i with
          | none => none
          | some (off, size) => if y.cells.size ≠ size || off + y.cells.size > arr.size then none else Instr.fill (fun i => pl[i]?) (y.cells.zipIdx.foldl (fun cs x => cs.setIfInBounds (off + x.2) x.1) arr) ys) = some arr'
        simp only [hp]
        rw [if_neg (by simp; omega)]
        exact g1
      · cases hf
  | [], _ :: _, _, _, _, _, hl, _, _ => by simp at hl
  | _ :: _, [], _, _, _, _, hl, _, _ => by simp at hl
def opsA (T : Nat → Option AV) : List (Nat × Operand) → Option (List (Nat × AV))
  | [] => some []
  | (i, x) :: r => match aev T x, opsA T r with
    | some v, some vs => some ((i, v) :: vs)
    | _, _ => none
theorem opsA_spec {T : Nat → Option AV} {E : Emb} {f : Operand → Value} : ∀ (ps : List (Nat × Operand)) (vs : List (Nat × AV)), opsA T ps = some vs → (∀ p ∈ ps, ∀ u, aev T p.2 = some u → Rel E u (f p.2)) → vs.length = ps.length ∧ ∀ (i : Nat) p q, vs[i]? = some p → (ps.map fun (i, x) => (i, f x))[i]? = some q → p.1 = q.1 ∧ Rel E p.2 q.2
  | [], vs, h, _ => by injection h with h; subst h; exact ⟨rfl, fun i p q hp => by cases hp⟩
  | (i, x) :: r, vs, h, hr => by
    unfold opsA at h
    split at h
    · rename_i v vs' h1 h2
      injection h with h; subst h
      obtain ⟨g1, g2⟩ := opsA_spec r vs' h2 (fun p hp => hr p (List.mem_cons_of_mem _ hp))
      refine ⟨by simp [g1], fun k p q hp hq => ?_⟩
      cases k with
      | zero => simp at hp hq; subst hp; subst hq; exact ⟨rfl, hr _ (List.mem_cons_self ..) _ h1⟩
      | succ k => simp at hp hq; exact g2 k p q hp (by simpa using hq)
    · cases h
def mJ (P : Program) : List Field → Option (List (Nat × Nat))
  | [] => some []
  | f :: r => match (P.info? f.type).map (·.size), mJ P r with
    | some s, some pl => some ((f.offset, s) :: pl)
    | _, _ => none
theorem yK {P : Program} (w : World) : ∀ (fs : List Field) (pl : List (Nat × Nat)), mJ P fs = some pl → (fs.mapM (fun f => do pure (f.offset, ← sizeOf f.type) : Field → Sem (Nat × Nat))).run P w = .ok pl w
  | [], pl, h => by injection h with h; subst h; simp
  | f :: r, pl, h => by
    unfold mJ at h
    split at h
    · rename_i s pl' h1 h2
      injection h with h; subst h
      have ih := yK w r pl' h2
      rw [List.mapM_cons]
      simp only [Sem.run_bind, oY h1, Result.andThen_ok, Sem.run_pure, ih]
    · cases h
section
variable {P : Program} {T : Nat → Option AV} {H : Hp} {nm : Nat} {wr : Bool} {d : Option Tmp} {ty t : TypeId} {ps : String} {af : Array Edge} {gd : Option (Nat × Bool)}
theorem vY {zc : Array Value} {z0 r : AV} {fs : Array Field} {pl : List (Nat × Nat)} {ops : Array (Nat × Operand)} {vs : List (Nat × AV)} {cs : List AV} (hu : P.underlying t = some (.struct fs)) (hpl : mJ P fs.toList = some pl) (hz : (P.info? t).map (·.zero) = some (some (.agg zc))) (hz0 : Rel (fun _ => none) z0 (.agg zc)) (hp0 : z0.parts.isSome = true)
    (hv : opsA T ops.toList = some vs) (hf : fillA pl z0.list vs = some cs) (hr : r.parts = some cs) : zZ P T H ⟨d, .build t ops, ty, ps, af, gd⟩ nm wr r [] :=
  .quiet fun E a w h => by
    obtain ⟨g1, g2⟩ := opsA_spec (E := E) (f := a.eval) ops.toList vs hv (fun p hp u hu => h p.2 (by
      simp only [Op.operands]
      first
      | exact List.mem_toArray.2 (List.mem_map.2 ⟨p, hp, rfl⟩)
      | (simp; exact ⟨p.1, by simpa using hp⟩)) u hu)
    have hrow : jN E z0.list zc := by
      have hz1 : Rel E z0 (.agg zc) := hz0.mono (fun _ _ h => by cases h)
      unfold AV.list
      cases hq : z0.parts with
      | none => rw [hq] at hp0; cases hp0
      | some l =>
        obtain ⟨ds, e, g1, g2, g3⟩ := hz1.agg_inv hq
        injection e with e; subst e
        exact ⟨g1, g2, g3⟩
    obtain ⟨arr', k1, k2⟩ := fillA_spec (pl := pl.toArray) vs (ops.toList.map fun (i, x) => (i, a.eval x)) z0.list zc cs hrow (by rw [g1]; simp) g2 hf
    refine ⟨.agg arr', ?_, .agg _ cs _ hr k2.1 k2.2.1 k2.2.2⟩
    have em : (fs.mapM (fun f => do pure (f.offset, ← sizeOf f.type) : Field → Sem (Nat × Nat))).run P w = .ok pl.toArray w := by
      have := yK (P := P) w fs.toList pl hpl
      rw [Array.mapM_eq_mapM_toList, map_eq_pure_bind, Sem.run_bind, this]
      rfl
    simp only [execOp, Sem.run_bind, Instr.build, run_zero hz, Result.andThen_ok, run_underlying hu, Value.cells]
    rw [em]
    simp only [Result.andThen_ok]
    have e2 : (ops.map fun (i, x) => (i, a.eval x)).toList = ops.toList.map fun (i, x) => (i, a.eval x) := by simp
    rw [e2, k1]
    simp
theorem op_mark {e : TypeId} {x : Operand} {b o n z : Nat} {k : ABlk} (hs : P.underlying t = some (.slice e)) (he : P.underlying e = some (.int .u8)) (hx : aev T x = some (.sl b o n z)) (hn0 : 0 < n) (hk : H b = some k) (hown : k.own = true) (hne0 : Nat.beq k.elem errT = false := by rfl) (hlt0 : Nat.blt k.elem frz = true := by rfl) : zZ P T H ⟨d, .convert t t x, ty, ps, af, gd⟩ nm true (.sl b o n z) [(b, some { k with own := false })] := by
  intro E S n0 H2 a w hS hn0' _ _ hwr hle hop hR hf K Q hK
  have hne : k.elem ≠ errT := fun h => by rw [h] at hne0; simp at hne0
  have hlt : k.elem < frz := xY hlt0
  have e0 := hwr rfl; subst e0
  have hrx := hop x (by simp [Op.operands]) _ hx
  obtain ⟨l, s, h3, arr, tq, fz, g1, g2, g3, g4, g5⟩ := hR.blk b k hk
  rcases hrx.sl_inv with ⟨lc, s', cp, q1, q2, q3, q4, q5⟩ | ⟨ad, hz0, q5⟩
  · rw [q1] at h3; injection h3 with h3; injection h3 with e1 e2; subst e1; subst e2
    obtain ⟨w', hw'⟩ : ∃ w', w' = w.freeze ⟨lc, arr.size, none⟩ 1 := ⟨_, rfl⟩
    have hsh : w.shape? lc = some (tq, arr.size) := by simp [World.shape?, g1]
    have hrun : (convert t t (a.eval x)).run P w = .ok (a.eval x) w' := by
      rw [q5, hw']
      simp [convert, run_underlying hs, run_underlying he, markStringish, hsh]
    have hl : ∃ fz', w'.heap[lc]? = some (.cells arr tq fz') := by
      rw [hw']
      unfold World.freeze
      rw [if_neg (by decide)]
      simp only [Array.getElem?_modify, if_true, g1, Option.map_some]
      exact ⟨_, rfl⟩
    have ho : ∀ j, j ≠ lc → w'.heap[j]? = w.heap[j]? := fun j hj => by
      rw [hw']
      unfold World.freeze
      rw [if_neg (by decide)]
      simp only [Array.getElem?_modify]
      rw [if_neg (fun h => hj h.symm)]
    have hsz : w'.heap.size = w.heap.size := by
      rw [hw']
      unfold World.freeze
      rw [if_neg (by decide)]
      simp
    have hfr : w'.os = w.os ∧ w'.tape = w.tape ∧ w'.output = w.output := by
      rw [hw']
      unfold World.freeze
      rw [if_neg (by decide)]
      exact ⟨rfl, rfl, rfl⟩
    obtain ⟨fz', hl⟩ := hl
    unfold Oper.wp
    have hex : (execOp a.eval ⟨d, .convert t t x, ty, ps, af, gd⟩).run P w = .ok (.value (a.eval x)) w' := by
      simp [execOp, hrun]
    rw [hex]
    refine hK (a.eval x) w' E (fun _ _ => rfl) hrx ⟨fun n' k' hn => ?_, fun n1 n2 k1 k2 l1 s1 s1' f1 f2 f3 f4 f5 => ?_, fun n1 k1 l1 s1 f1 f2 f3 => ?_⟩ ⟨hfr.1, hfr.2.1, hfr.2.2, Nat.le_of_eq hsz.symm, fun j hj hns => ho j (fun e => hns (by rw [e]; exact hR.own b k lc s' hk hown q1))⟩
    · rw [sV] at hn
      split at hn
      · rename_i e; subst e; injection hn with hn; subst hn
        exact ⟨lc, s', q1, arr, tq, fz', hl, g2, ⟨⟨(fun h => by cases h), fun h => absurd h hne, fun _ h => absurd h (Nat.not_le.2 hlt)⟩, .inr (.inl ⟨g3.2.is hne hlt, .inr hlt⟩)⟩, g4, g5⟩
      · rename_i e
        obtain ⟨l1, s1, f1, f2⟩ := hR.blk n' k' hn
        exact ⟨l1, s1, f1, f2.mono (fun _ _ h => h) (ho l1 (fun el => by subst el; exact e (hR.inj b n' k k' l1 s' s1 hk hn hown q1 f1).symm))⟩
    · rw [sV] at f1 f2
      by_cases c1 : n1 = b
      · rw [if_pos c1] at f1; injection f1 with f1; subst f1; cases f3
      · rw [if_neg c1] at f1
        by_cases c2 : n2 = b
        · subst c2
          exact hR.inj n1 n2 k1 k l1 s1 s1' f1 hk f3 f4 f5
        · rw [if_neg c2] at f2
          exact hR.inj n1 n2 k1 k2 l1 s1 s1' f1 f2 f3 f4 f5
    · rw [sV] at f1
      split at f1
      · injection f1 with f1; subst f1; cases f2
      · exact hR.own n1 k1 l1 s1 f1 f2 f3
  · omega
end
theorem rel_nil_sl {E : Emb} {y : Value} (h : Rel E .nilsl y) (b o z : Nat) : Rel E (.sl b o 0 z) y := by rw [h.nilsl_inv]; exact .sl0 _ _ _ _
theorem Ev.twin {P : Program} {nt : Nat} {c : Code} {T : List (Nat × AV)} {H : List (Nat × Option ABlk)} {nx : Nat} {post : Exit → St → Prop} {b m e : Nat} {k c' : AV} (hb : hget H b = some ⟨k, e, false⟩) (hc : c'.list = k.list.take m) (h : Ev P nt c ⟨T, (nx, some ⟨c', e, false⟩) :: H, nx + 8⟩ post) : Ev P nt c ⟨T, H, nx⟩ post := by
  intro E S n0 a w hn hR
  obtain ⟨l, s, h1, h2⟩ := hR.rh.blk b _ hb
  have hnx : E nx = none := hR.fr nx (Nat.le_refl _)
  have hle := Emb.put_le (E := E) (b := nx) (p := (l, s)) hnx
  have old : ∀ n k', hget H n = some k' → n ≠ nx := fun n k' hk e => by
    subst e; obtain ⟨l, s, h1, _⟩ := hR.rh.blk n k' hk; rw [hnx] at h1; cases h1
  have hup : ∀ n, hget ((nx, some ⟨c', e, false⟩) :: H) n = if n = nx then some ⟨c', e, false⟩ else hget H n := fun n => by
    have := sV nx (some ⟨c', e, false⟩) (hget H) n
    rw [qM] at this
    exact this
  have hR2 : RS (E.put nx (l, s)) S n0 nt ⟨T, (nx, some ⟨c', e, false⟩) :: H, nx + 8⟩ a w := by
    refine ⟨fun t u ht => (hR.rt t u ht).mono hle, hR.nt, hR.df, ⟨fun n k' hk => ?_, fun n n' k1 k2 q s1 s2 g1 g2 g3 g4 g5 => ?_, fun n k' q s1 g1 g2 g3 => ?_⟩, fun n hn' => ?_, fun g hg => ?_, hR.hS, hR.h0⟩
    · rw [hup] at hk
      split at hk
      · rename_i e1; subst e1; injection hk with hk; subst hk
        obtain ⟨arr, tq, fz, q1, q2, q3, q4, q5⟩ := h2
        refine ⟨l, s, Emb.put_same _ _ _, arr, tq, fz, q1, q2, ⟨⟨fun h => (by cases h), q3.1.z, fun _ h h' => ⟨(q3.1.f rfl h h').1, by rw [hc, List.length_take]; have h9 : k.list.length ≤ fz.2 := (q3.1.f rfl h h').2; omega⟩⟩, q3.2⟩, ?_, fun i x hx => ?_⟩
        · rw [hc, List.length_take]; have : k.list.length ≤ s := q4; omega
        · rw [hc, List.getElem?_take] at hx
          split at hx
          · obtain ⟨p1, y, p2, p3⟩ := q5 i x hx
            exact ⟨p1, y, p2, p3.mono hle⟩
          · cases hx
      · obtain ⟨q, s1, g1, g2⟩ := hR.rh.blk n k' hk
        exact ⟨q, s1, hle _ _ g1, g2.mono hle rfl⟩
    · rw [hup] at g1 g2
      by_cases e1 : n = nx
      · rw [if_pos e1] at g1; injection g1 with g1; subst g1; cases g3
      · rw [if_neg e1] at g1
        rw [Emb.put_other _ _ e1] at g4
        by_cases e2 : n' = nx
        · subst e2
          rw [Emb.put_same] at g5; injection g5 with g5; injection g5 with e3 e4; subst e3; subst e4
          have := hR.rh.inj n b k1 _ _ _ _ g1 hb g3 g4 h1
          subst this
          rw [hb] at g1; injection g1 with g1; subst g1; cases g3
        · rw [if_neg e2] at g2
          rw [Emb.put_other _ _ e2] at g5
          exact hR.rh.inj n n' k1 k2 q s1 s2 g1 g2 g3 g4 g5
    · rw [hup] at g1
      by_cases e1 : n = nx
      · rw [if_pos e1] at g1; injection g1 with g1; subst g1; cases g2
      · rw [if_neg e1] at g1
        rw [Emb.put_other _ _ e1] at g3
        exact hR.rh.own n k' q s1 g1 g2 g3
    · have : n ≠ nx := by have : nx + 8 ≤ n := hn'; omega
      rw [Emb.put_other _ _ this]; exact hR.fr n (by have : nx + 8 ≤ n := hn'; show nx ≤ n; omega)
    · have hg2 : g < nx := by have : 1000 ≤ nx := hn; omega
      obtain ⟨s1, q⟩ := hR.gl g hg
      exact ⟨s1, hle _ _ q⟩
  exact wp_mono (h _ S n0 a w (by have : 1000 ≤ nx := hn; show 1000 ≤ nx + 8; omega) hR2) fun e a' w' hD => Done.trans (fun b hb => Emb.put_other _ _ (by have : 1000 ≤ nx := hn; omega)) (Fr.refl _ _) hD
end Go.Proofs.YtcnjekoidgefpaaGreatDoor
namespace Go.Proofs.YtcnjekoidgefpaaGreatDoor
open Go.RowKit
section
variable {P : Program} {T : Nat → Option AV} {H : Hp} {nm : Nat} {wr : Bool} {v u u1 u2 : AV} {d : Option Tmp} {ty : TypeId} {ps : String} {af : Array Edge} {gd : Option (Nat × Bool)} {t t2 te : TypeId} {x y : Operand} {b o : Nat}
theorem op_maskI {j : Int} {m : Nat} {t' : TypeId} (hx : aev T x = some (.i64 j)) (hy : aev T y = some (.i64 (m : Int))) (hm : m = 3 ∨ m = 15) : zZ P T H ⟨d, .binOp .and t x y t', ty, ps, af, gd⟩ nm wr (.i64 (j % ((m + 1 : Nat) : Int))) [] :=
  wW hx hy fun E y1 y2 w h1 h2 => by
    rw [h1.i64_inv, h2.i64_inv]
    refine ⟨.int .i64 (IntKind.i64.wrap ((BitVec.ofInt 64 j &&& BitVec.ofInt 64 m).toNat : Int)), rfl, ?_⟩
    have e : (BitVec.ofInt 64 j &&& BitVec.ofInt 64 m).toNat = (j % ((m + 1 : Nat) : Int)).toNat := by
      rw [BitVec.toNat_and, BitVec.toNat_ofInt, BitVec.toNat_ofInt]
      rcases hm with rfl | rfl
      · rw [show (((3 : Nat) : Int) % ((2 ^ 64 : Nat) : Int)).toNat = 2 ^ 2 - 1 by decide, Nat.and_two_pow_sub_one_eq_mod]; omega
      · rw [show (((15 : Nat) : Int) % ((2 ^ 64 : Nat) : Int)).toNat = 2 ^ 4 - 1 by decide, Nat.and_two_pow_sub_one_eq_mod]; omega
    have hb : 0 ≤ j % ((m + 1 : Nat) : Int) ∧ j % ((m + 1 : Nat) : Int) ≤ 15 := by rcases hm with rfl | rfl <;> omega
    rw [e, oT ⟨by omega, by omega⟩]
    rw [show (((j % ((m + 1 : Nat) : Int)).toNat : Nat) : Int) = j % ((m + 1 : Nat) : Int) by omega]
    exact .i64 _
theorem EvL.asR {P : Program} {nt : Nat} {ops rest : List Oper} {T : List (Nat × AV)} {H : List (Nat × Option ABlk)} {nx d : Nat} {q : St → Prop} {v : AV} (v' : AV) (hv : ∀ E y, Rel E v y → Rel E v' y) (h : EvL P nt ops rest ⟨(d, v') :: T, H, nx⟩ q) : EvL P nt ops rest ⟨(d, v) :: T, H, nx⟩ q := by
  intro E S n0 a w Q hn hR hK
  refine h E S n0 a w Q hn ⟨fun t u hu => ?_, hR.nt, hR.df, hR.rh, hR.fr, hR.gl, hR.hS, hR.h0⟩ hK
  simp only [lk] at hu
  split at hu
  · rename_i e; injection hu with hu; subst hu
    exact hv _ _ (hR.rt t v (by simp only [lk, e]))
  · rename_i e; exact hR.rt t u (by simp only [lk, e]; exact hu)
end
section
variable {P : Program} {T : Nat → Option AV} {H : Hp} {nm : Nat} {wr : Bool} {d : Option Tmp} {ty : TypeId} {ps : String} {af : Array Edge} {gd : Option (Nat × Bool)} {t t2 e : TypeId} {x y : Operand} {b n z : Nat} {zv : Value}
end
theorem op_makeFunc {P : Program} {T : Nat → Option AV} {H : Hp} {f : FuncId} {cap : Array Operand} {caps : List AV} {d ty ps af gd} {nm : Nat} {wr : Bool} (hl : caps.length = cap.size) (hc : ∀ (i : Nat) x u, cap[i]? = some x → caps[i]? = some u → aev T x = some u) :
    zZ P T H ⟨d, .makeFunc (.func f) #[] cap, ty, ps, af, gd⟩ nm wr (.clo f caps) [] :=
  .quiet fun E a w hop => by
    refine ⟨.func (.func f) #[] (cap.map a.eval), by simp [execOp, Instr.makeFunc], .clo _ _ _ (by simpa using hl) (fun i x y hx hy => ?_)⟩
    obtain ⟨hq, rfl⟩ := Array.getElem?_eq_some_iff.1 hy
    have hi : i < cap.size := by simpa using hq
    have hcx := hc i cap[i] x (Array.getElem?_eq_getElem hi) hx
    simp only [Array.getElem_map]
    exact hop cap[i] (by simp [Op.operands]) x hcx
theorem op_makeFunc1 {P : Program} {T : Nat → Option AV} {H : Hp} {f : FuncId} {x : Operand} {u : AV} {d ty ps af gd} {nm : Nat} {wr : Bool} (hx : aev T x = some u) :
    zZ P T H ⟨d, .makeFunc (.func f) #[] #[x], ty, ps, af, gd⟩ nm wr (.clo f [u]) [] :=
  op_makeFunc rfl (fun i x' u' h1 h2 => by
    match i with
    | 0 => simp at h1 h2; subst h1; subst h2; exact hx
    | i + 1 => simp at h1)
def EvR (P : Program) (nt : Nat) (c : Code) (post : Exit → St → Prop) : Nat → St → Prop
  | 0, _ => False
  | n + 1, st => Ev P nt c st (thenA (fun st' => EvR P nt c post n st') post)
theorem Ev.rounds {P : Program} {nt : Nat} {c : Code} {st : St} {post : Exit → St → Prop} (n : Nat) (h : EvR P nt c post n st) : Ev P nt (.loop c) st post := by
  intro E S n0 a w hn hR
  refine wp_loop_rounds n ?_
  have key : ∀ (n : Nat) (st : St) (E1 : Emb) (a1 : Act) (w1 : World), EvR P nt c post n st → 1000 ≤ st.nx → RS E1 S n0 nt st a1 w1 → (∀ b, b < 1000 → E1 b = E b) → Fr S w w1 →
      Code.rounds P c (Done E S n0 nt (fun e st' => 1000 ≤ st'.nx ∧ post e st') w) n a1 w1 := by
    intro n
    induction n with
    | zero => intro st E1 a1 w1 h; exact h.elim
    | succ n ih =>
      intro st E1 a1 w1 h hn1 hR1 hE1 hF1
      rw [rounds_succ]
      refine wp_mono (h E1 S n0 a1 w1 hn1 hR1) fun e a' w' hD => ?_
      cases e with
      | normal =>
        obtain ⟨st', E', ⟨hn', h1⟩, h2, h3, h4⟩ := hD
        exact ih st' E' a' w' h1 hn' h3 (fun b hb => (h2 b hb).trans (hE1 b hb)) (hF1.trans h4)
      | _ => exact Done.trans hE1 hF1 hD
  exact key n st E a w h hn hR (fun _ _ => rfl) (Fr.refl _ _)
def RelAll (E : Emb) : List AV → List Value → Prop
  | [], [] => True
  | x :: xs, y :: ys => Rel E x y ∧ RelAll E xs ys
  | _, _ => False
theorem RelAll.spec {E : Emb} : ∀ {cs : List AV} {ds : List Value}, RelAll E cs ds → cs.length = ds.length ∧ ∀ (i : Nat) x y, cs[i]? = some x → ds[i]? = some y → Rel E x y
  | [], [], _ => ⟨rfl, fun i x y h => by simp at h⟩
  | [], _ :: _, h => h.elim
  | _ :: _, [], h => h.elim
  | x :: xs, y :: ys, h => by
    obtain ⟨h1, h2⟩ := h.2.spec
    refine ⟨by simp [h1], fun i u v hu hv => ?_⟩
    cases i with
    | zero => simp at hu hv; subst hu; subst hv; exact h.1
    | succ i => simp at hu hv; exact h2 i u v hu hv
theorem rel_agg {E : Emb} {cs : List AV} {ds : List Value} (h1 : cs.all AV.one = true) (h : RelAll E cs ds) : Rel E (.agg cs) (.agg ds.toArray) :=
  .agg _ cs ds.toArray rfl (by simpa using h.spec.1) (List.all_eq_true.1 h1) (fun i x y hx hy => h.spec.2 i x y hx (by simpa using hy))
end Go.Proofs.YtcnjekoidgefpaaGreatDoor
namespace Go.Proofs.YtcnjekoidgefpaaGreatDoor
theorem inf3 : Inf Tryz.prog 3 1 (.int .i64 0) := Inf.mk (b := 8) (by kernel_rfl) (by decide) rfl
theorem rel_zero3 : Rel (fun _ => none) (.i64 0) (.int .i64 0) := Rel.i64 0
theorem inf4 : Inf Tryz.prog 4 1 (.bool false) := Inf.mk (b := 1) (by kernel_rfl) (by decide) rfl
theorem inf5 : Inf Tryz.prog 5 1 (.int .u8 0) := Inf.mk (b := 1) (by kernel_rfl) (by decide) rfl
theorem rel_zero5 : Rel (fun _ => none) (.u8 0) (.int .u8 0) := Rel.u8 0
theorem inf9 : Inf Tryz.prog 9 1 (.string ⟨#[]⟩) := Inf.mk (b := 16) (by kernel_rfl) (by decide) rfl
theorem qZ : Inf Tryz.prog 52 1 (.int .u64 0) := Inf.mk (b := 8) (by kernel_rfl) (by decide) rfl
theorem inf85 : Inf Tryz.prog 85 1 (.slice none 0 0) := Inf.mk (b := 24) (by kernel_rfl) (by decide) rfl
theorem sz22 : (Tryz.prog.info? 22).map (·.size) = some 32 := by kernel_rfl
theorem xX : (Tryz.prog.info? 22).map (·.zero) = some (some (.agg (Array.replicate 32 (.int .u8 0)))) := by kernel_rfl
theorem kY : Rel (fun _ => none) (.aggB (List.replicate 32 0)) (.agg (Array.replicate 32 (.int .u8 0))) := rz_B _ 32
theorem sz29 : (Tryz.prog.info? 29).map (·.size) = some 64 := by kernel_rfl
theorem dQ : (Tryz.prog.info? 29).map (·.zero) = some (some (.agg (Array.replicate 64 (.int .u8 0)))) := by kernel_rfl
theorem kV : Rel (fun _ => none) (.aggB (List.replicate 64 0)) (.agg (Array.replicate 64 (.int .u8 0))) := rz_B _ 64
theorem sz53 : (Tryz.prog.info? 53).map (·.size) = some 4 := by kernel_rfl
theorem zero53 : (Tryz.prog.info? 53).map (·.zero) = some (some (.agg (Array.replicate 4 (.int .u64 0)))) := by kernel_rfl
theorem rel_zero53 : Rel (fun _ => none) (.agg64 (List.replicate 4 0)) (.agg (Array.replicate 4 (.int .u64 0))) := vN _ 4
theorem sz55 : (Tryz.prog.info? 55).map (·.size) = some 4 := by kernel_rfl
theorem jY : (Tryz.prog.info? 55).map (·.zero) = some (some (.agg (Array.replicate 4 (.int .u64 0)))) := by kernel_rfl
theorem pZ : Rel (fun _ => none) (.agg64 (List.replicate 4 0)) (.agg (Array.replicate 4 (.int .u64 0))) := vN _ 4
theorem sz57 : (Tryz.prog.info? 57).map (·.size) = some 8 := by kernel_rfl
theorem gW : (Tryz.prog.info? 57).map (·.zero) = some (some (.agg (Array.replicate 8 (.int .u64 0)))) := by kernel_rfl
theorem nY : Rel (fun _ => none) (.agg64 (List.replicate 8 0)) (.agg (Array.replicate 8 (.int .u64 0))) := vN _ 8
theorem sz65 : (Tryz.prog.info? 65).map (·.size) = some 16 := by kernel_rfl
theorem eT : (Tryz.prog.info? 65).map (·.zero) = some (some (.agg (Array.replicate 16 (.int .u64 0)))) := by kernel_rfl
theorem oW : Rel (fun _ => none) (.agg64 (List.replicate 16 0)) (.agg (Array.replicate 16 (.int .u64 0))) := vN _ 16
theorem sz86 : (Tryz.prog.info? 86).map (·.size) = some 8 := by kernel_rfl
theorem iI : (Tryz.prog.info? 86).map (·.zero) = some (some (.agg (Array.replicate 8 (.int .u64 0)))) := by kernel_rfl
theorem eR : Rel (fun _ => none) (.agg64 (List.replicate 8 0)) (.agg (Array.replicate 8 (.int .u64 0))) := vN _ 8
theorem sz91 : (Tryz.prog.info? 91).map (·.size) = some 8 := by kernel_rfl
theorem zero91 : (Tryz.prog.info? 91).map (·.zero) = some (some (.agg (Array.replicate 8 (.int .u64 0)))) := by kernel_rfl
theorem kN : Rel (fun _ => none) (.agg64 (List.replicate 8 0)) (.agg (Array.replicate 8 (.int .u64 0))) := vN _ 8
theorem sz94 : (Tryz.prog.info? 94).map (·.size) = some 4 := by kernel_rfl
theorem tQ : (Tryz.prog.info? 94).map (·.zero) = some (some (.agg (Array.replicate 4 (.int .u64 0)))) := by kernel_rfl
theorem uV : Rel (fun _ => none) (.agg64 (List.replicate 4 0)) (.agg (Array.replicate 4 (.int .u64 0))) := vN _ 4
theorem uN : (Tryz.prog.info? 102).map (·.size) = some 12 := by kernel_rfl
theorem cM : (Tryz.prog.info? 102).map (·.zero) = some (some (.agg (Array.replicate 12 (.int .u64 0)))) := by kernel_rfl
theorem aS : Rel (fun _ => none) (.agg64 (List.replicate 12 0)) (.agg (Array.replicate 12 (.int .u64 0))) := vN _ 12
theorem sz118 : (Tryz.prog.info? 118).map (·.size) = some 80 := by kernel_rfl
theorem zero118 : (Tryz.prog.info? 118).map (·.zero) = some (some (.agg (Array.replicate 80 (.int .u64 0)))) := by kernel_rfl
theorem iO : Rel (fun _ => none) (.agg64 (List.replicate 80 0)) (.agg (Array.replicate 80 (.int .u64 0))) := vN _ 80
end Go.Proofs.YtcnjekoidgefpaaGreatDoor
