/-
  Single operations over abstract values: what they yield. Nothing of the program is named here.
-/
import Derived.Test.YtaenhghihhhikaaDoorAe1
import Derived.Test.YtaenhghihhhikaaDoorU
import Derived.Laws.Slices
import Derived.Laws.Strings
import Derived.Laws.Strings2
import Derived.Laws.StructEq
namespace Go.Proofs.YtaenhghihhhikaaDoor
open Go.RowKit

def cst : Value → Option AV
  | .int .u8 (.ofNat m) => match Nat.blt m 256 with
    | true => some (.u8 (UInt8.ofNat m))
    | false => none
  | .int .u32 (.ofNat m) => match Nat.blt m 4294967296 with
    | true => some (.u32 (UInt32.ofNat m))
    | false => none
  | .int .u64 (.ofNat m) => match Nat.blt m 18446744073709551616 with
    | true => some (.u64 (UInt64.ofNat m))
    | false => none
  | .int .i64 n => some (.i64 n)
  | .bool b => some (.bool b)
  | .string s => some (.str s.data.toList)
  | .slice none 0 0 => some .nilsl
  | v => some (.val v)
theorem blt_true {m n : Nat} (h : Nat.blt m n = true) : m < n := Nat.le_of_ble_eq_true h
theorem rel_cst (E : Emb) (v : Value) (u : AV) (hu : cst v = some u) : Rel E u v := by
  unfold cst at hu
  split at hu
  · rename_i m
    split at hu
    · rename_i h
      have := blt_true h
      have e := Rel.u8 (E := E) (UInt8.ofNat m)
      rw [UInt8.toNat_ofNat_of_lt' (by simpa using this)] at e
      injection hu with hu; subst hu; exact e
    · cases hu
  · rename_i m
    split at hu
    · rename_i h
      have := blt_true h
      have e := Rel.u32 (E := E) (UInt32.ofNat m)
      rw [UInt32.toNat_ofNat_of_lt' (by simpa using this)] at e
      injection hu with hu; subst hu; exact e
    · cases hu
  · rename_i m
    split at hu
    · rename_i h
      have := blt_true h
      have e := Rel.u64 (E := E) (UInt64.ofNat m)
      rw [UInt64.toNat_ofNat_of_lt' (by simpa using this)] at e
      injection hu with hu; subst hu; exact e
    · cases hu
  all_goals (injection hu with hu; subst hu)
  · exact .i64 _
  · exact .bool _
  · exact .str _
  · exact .nilsl
  · exact .val _
def aev (T : Nat → Option AV) : Operand → Option AV
  | .tmp t => T t
  | .const v => cst v
  | .global g => match Nat.blt g 500 with
    | true => some (.ptr g 0)
    | false => none
  | .func f => some (.val (.func (.func f) #[] #[]))

/-- What an operation does, whatever else the world holds: it yields v and gives the names U anew. -/
def OpSem (P : Program) (T : Nat → Option AV) (H : Hp) (o : Oper) (nm : Nat) (wr : Bool) (v : AV) (U : List (Nat × Option ABlk)) : Prop :=
  ∀ (E : Emb) (S : Nat → Prop) (n0 : Nat) (H2 : Hp) (a : Act) (w : World),
    (∀ k, n0 ≤ k → S k) → n0 ≤ w.heap.size → 1000 ≤ nm → (∀ g, g < 500 → ∃ s, E g = some (g, s)) → (wr = true → H2 = H) → (∀ b k, H b = some k → H2 b = some k) →
    (∀ x ∈ o.op.operands, ∀ u, aev T x = some u → Rel E u (a.eval x)) → RH E S H2 w → (∀ b, nm ≤ b → b < nm + 8 → E b = none) →
    ∀ (K : Act → World → Prop) (Q : Exit → Act → World → Prop),
      (∀ y w' E', (∀ b, (lk U b = none ∨ ¬ (nm ≤ b ∧ b < nm + 8)) → E' b = E b) → Rel E' v y → RH E' S (upd U H2) w' → Fr S w w' → K (a.put o.dst y) w') → o.wp P a w K Q

section
variable {P : Program} {T : Nat → Option AV} {H : Hp} {o : Oper} {nm : Nat} {wr : Bool} {v u u1 u2 u3 : AV} {d : Option Tmp} {ty : TypeId} {ps : String} {af : Array Edge} {gd : Option (Nat × Bool)}
theorem OpSem.quiet (h : ∀ (E : Emb) (a : Act) (w : World), (∀ x ∈ o.op.operands, ∀ u, aev T x = some u → Rel E u (a.eval x)) → ∃ y, (execOp a.eval o).run P w = .ok (.value y) w ∧ Rel E v y) : OpSem P T H o nm wr v [] := by
  intro E S n0 H2 a w _ _ _ _ _ _ hop hR _ K Q hK
  obtain ⟨y, hy, hv⟩ := h E a w hop
  unfold Oper.wp
  rw [hy]
  exact hK y w E (fun _ _ => rfl) hv hR (Fr.refl _ _)
theorem OpSem.reads (h : ∀ (E : Emb) (S : Nat → Prop) (a : Act) (w : World), (∀ x ∈ o.op.operands, ∀ u, aev T x = some u → Rel E u (a.eval x)) → RH E S H w → ∃ y, (execOp a.eval o).run P w = .ok (.value y) w ∧ Rel E v y) : OpSem P T H o nm wr v [] := by
  intro E S n0 H2 a w _ _ _ _ _ hle hop hR _ K Q hK
  obtain ⟨y, hy, hv⟩ := h E S a w hop (hR.less hle)
  unfold Oper.wp
  rw [hy]
  exact hK y w E (fun _ _ => rfl) hv hR (Fr.refl _ _)
/-- One new block, under the name nm. -/
theorem OpSem.allocs {k : ABlk} (h : ∀ (E : Emb) (S : Nat → Prop) (a : Act) (w : World), (∀ x ∈ o.op.operands, ∀ u, aev T x = some u → Rel E u (a.eval x)) → RH E S H w →
      ∃ (y : Value) (arr : Array Value) (fz : Nat × Nat) (w1 : World), (execOp a.eval o).run P w = .ok (.value y) (w1.alloc (.cells arr k.elem fz)) ∧ w1.heap = w.heap ∧ w1.os = w.os ∧ w1.tape = w.tape ∧ w1.output = w.output ∧ Rel (E.put nm (w.heap.size, arr.size)) v y ∧
        (∀ i, i < arr.size → ¬ (fz.1 ≤ i ∧ i < fz.2)) ∧ k.c.list.length ≤ arr.size ∧ (∀ (i : Nat) x, k.c.list[i]? = some x → x.one = true ∧ ∃ y, arr[i]? = some y ∧ Rel E x y)) : OpSem P T H o nm wr v [(nm, some k)] := by
  intro E S n0 H2 a w hS hn _ _ _ hle hop hR hf K Q hK
  obtain ⟨y, arr, fz, w1, hy, e1, e2, e3, e4, hv, h1, h2, h3⟩ := h E S a w hop (hR.less hle)
  have hs : w1.heap.size = w.heap.size := by rw [e1]
  have hR1 : RH E S H2 w1 := hR.same fun l _ => by rw [e1]
  have hR2 := hR1.alloc (by rw [hs]; exact hS _ hn) (hf nm (Nat.le_refl _) (by omega)) k arr fz h1 h2 h3
  unfold Oper.wp
  rw [hy]
  refine hK y _ (E.put nm (w.heap.size, arr.size)) (fun b hb => Emb.put_other _ _ (fun e => by
    subst e
    rcases hb with hb | hb
    · simp [lk] at hb
    · exact hb ⟨Nat.le_refl _, by omega⟩)) hv (by rw [hs] at hR2; exact hR2) ?_
  exact Fr.trans ⟨e2, e3, e4, by omega, fun k _ _ => by rw [e1]⟩ (Fr.alloc S w1 _)
theorem mem1 {x : Operand} : x ∈ #[x] := by simp
theorem mem21 {x y : Operand} : x ∈ #[x, y] := by simp
theorem mem22 {x y : Operand} : y ∈ #[x, y] := by simp
theorem op_move {x : Operand} (hx : aev T x = some v) : OpSem P T H ⟨d, .move x, ty, ps, af, gd⟩ nm wr v [] :=
  .quiet fun _ a _ h => ⟨a.eval x, rfl, h x mem1 v hx⟩
theorem op_assign {x : Operand} (hx : aev T x = some v) : OpSem P T H ⟨d, .assign x, ty, ps, af, gd⟩ nm wr v [] :=
  .quiet fun _ a _ h => ⟨a.eval x, rfl, h x mem1 v hx⟩
theorem op_pick_true {c x y : Operand} {b : Bool} (hc : aev T c = some (.bool b)) (hb : b = true) (hx : aev T x = some v) : OpSem P T H ⟨d, .pick c x y, ty, ps, af, gd⟩ nm wr v [] :=
  .quiet fun _ a _ h => by
    have e := (h c (by simp [Op.operands]) _ hc).bool_inv
    subst hb
    exact ⟨a.eval x, by simp [execOp, e, asBool], h x (by simp [Op.operands]) v hx⟩
theorem op_pick_false {c x y : Operand} {b : Bool} (hc : aev T c = some (.bool b)) (hb : b = false) (hy : aev T y = some v) : OpSem P T H ⟨d, .pick c x y, ty, ps, af, gd⟩ nm wr v [] :=
  .quiet fun _ a _ h => by
    have e := (h c (by simp [Op.operands]) _ hc).bool_inv
    subst hb
    exact ⟨a.eval y, by simp [execOp, e, asBool], h y (by simp [Op.operands]) v hy⟩
/-- A choice whose two sides are known, of one kind. -/
theorem op_pick_bool {c x y : Operand} {b b1 b2 : Bool} (hc : aev T c = some (.bool b)) (hx : aev T x = some (.bool b1)) (hy : aev T y = some (.bool b2)) : OpSem P T H ⟨d, .pick c x y, ty, ps, af, gd⟩ nm wr (.bool (if b then b1 else b2)) [] :=
  .quiet fun _ a _ h => by
    have e := (h c (by simp [Op.operands]) _ hc).bool_inv
    have e1 := (h x (by simp [Op.operands]) _ hx).bool_inv
    have e2 := (h y (by simp [Op.operands]) _ hy).bool_inv
    exact ⟨.bool (if b then b1 else b2), by cases b <;> simp [execOp, e, e1, e2, asBool], .bool _⟩
theorem op_bin {op : BinOp} {t t' : TypeId} {x y : Operand} (hx : aev T x = some u1) (hy : aev T y = some u2)
    (hb : ∀ (E : Emb) (y1 y2 : Value) (w : World), Rel E u1 y1 → Rel E u2 y2 → ∃ z, (do eqGuard op t x y y1 y2; binOp op t y1 y2 : Sem Value).run P w = .ok z w ∧ Rel E v z) :
    OpSem P T H ⟨d, .binOp op t x y t', ty, ps, af, gd⟩ nm wr v [] :=
  .quiet fun E a w h => by
    obtain ⟨z, hz, hr⟩ := hb E _ _ w (h x mem21 _ hx) (h y mem22 _ hy)
    refine ⟨z, ?_, hr⟩
    simp only [execOp, Sem.run_bind] at hz ⊢
    cases he : (eqGuard op t x y (a.eval x) (a.eval y)).run P w with
    | ok u w' =>
      rw [he] at hz
      simp only [Result.andThen_ok] at hz ⊢
      rw [hz]; rfl
    | halt h w' => rw [he] at hz; cases hz

def shiftBy : AV → Option Nat
  | .u8 x => some x.toNat
  | .u32 x => some x.toNat
  | .u64 x => some x.toNat
  | .i64 (.ofNat n) => some n
  | _ => none
theorem shiftBy_inv {E : Emb} {u : AV} {n : Nat} {y : Value} (h : shiftBy u = some n) (hr : Rel E u y) : ∃ k, y = .int k (n : Int) := by
  unfold shiftBy at h
  split at h
  · injection h with h; subst h; exact ⟨_, hr.u8_inv⟩
  · injection h with h; subst h; exact ⟨_, hr.u32_inv⟩
  · injection h with h; subst h; exact ⟨_, hr.u64_inv⟩
  · injection h with h; subst h; exact ⟨_, hr.i64_inv⟩
  · cases h

def bin8 (op : BinOp) (x y : UInt8) : Option AV := match op with
  | .add => some (.u8 (x + y))
  | .sub => some (.u8 (x - y))
  | .mul => some (.u8 (x * y))
  | .and => some (.u8 (x &&& y))
  | .or => some (.u8 (x ||| y))
  | .xor => some (.u8 (x ^^^ y))
  | .eql => some (.bool (x == y))
  | .neq => some (.bool (x != y))
  | .lss => some (.bool (decide (x < y)))
  | .leq => some (.bool (decide (x ≤ y)))
  | .gtr => some (.bool (decide (y < x)))
  | .geq => some (.bool (decide (y ≤ x)))
  | _ => none
theorem op_bin8 {op : BinOp} {t t' : TypeId} {x y : Operand} {a b : UInt8} (hx : aev T x = some (.u8 a)) (hy : aev T y = some (.u8 b)) (hv : bin8 op a b = some v) :
    OpSem P T H ⟨d, .binOp op t x y t', ty, ps, af, gd⟩ nm wr v [] :=
  op_bin hx hy fun E y1 y2 w h1 h2 => by
    rw [h1.u8_inv, h2.u8_inv]
    have hi : ((a.toNat : Int) == (b.toNat : Int)) = (a == b) := by
      rw [Bool.eq_iff_iff]; simp only [beq_iff_eq]; exact n8_inj (a := a) (b := b)
    cases op <;> simp only [bin8, Option.some.injEq, reduceCtorEq] at hv <;> subst hv
    · exact ⟨_, rfl, by have := add_n8 a b; unfold n8 at this; rw [this]; exact .u8 _⟩
    · exact ⟨_, rfl, by have := sub_n8 a b; unfold n8 at this; rw [this]; exact .u8 _⟩
    · exact ⟨_, rfl, by have := mul_n8 a b; unfold n8 at this; rw [this]; exact .u8 _⟩
    · exact ⟨.int .u8 (bits .and .u8 (n8 a) (n8 b)), rfl, by rw [and_n8]; exact .u8 _⟩
    · exact ⟨.int .u8 (bits .or .u8 (n8 a) (n8 b)), rfl, by rw [or_n8]; exact .u8 _⟩
    · exact ⟨.int .u8 (bits .xor .u8 (n8 a) (n8 b)), rfl, by rw [xor_n8]; exact .u8 _⟩
    · exact ⟨.bool ((a.toNat : Int) == (b.toNat : Int)), rfl, by rw [hi]; exact .bool _⟩
    · exact ⟨.bool ((a.toNat : Int) != (b.toNat : Int)), rfl, by unfold bne; rw [hi]; exact .bool _⟩
    · exact ⟨.bool (decide ((a.toNat : Int) < (b.toNat : Int))), rfl, by rw [show decide ((a.toNat : Int) < (b.toNat : Int)) = decide (a < b) by simp [UInt8.lt_iff_toNat_lt]]; exact .bool _⟩
    · exact ⟨.bool (decide ((a.toNat : Int) ≤ (b.toNat : Int))), rfl, by rw [show decide ((a.toNat : Int) ≤ (b.toNat : Int)) = decide (a ≤ b) by simp [UInt8.le_iff_toNat_le]]; exact .bool _⟩
    · exact ⟨.bool (decide ((a.toNat : Int) > (b.toNat : Int))), rfl, by rw [show decide ((a.toNat : Int) > (b.toNat : Int)) = decide (b < a) by simp [UInt8.lt_iff_toNat_lt]]; exact .bool _⟩
    · exact ⟨.bool (decide ((a.toNat : Int) ≥ (b.toNat : Int))), rfl, by rw [show decide ((a.toNat : Int) ≥ (b.toNat : Int)) = decide (b ≤ a) by simp [UInt8.le_iff_toNat_le]]; exact .bool _⟩
theorem op_quo8 {t t' : TypeId} {x y : Operand} {a b : UInt8} (hx : aev T x = some (.u8 a)) (hy : aev T y = some (.u8 b)) (hb : b ≠ 0) :
    OpSem P T H ⟨d, .binOp .quo t x y t', ty, ps, af, gd⟩ nm wr (.u8 (a / b)) [] :=
  op_bin hx hy fun E y1 y2 w h1 h2 => by
    rw [h1.u8_inv, h2.u8_inv]
    have hb' : b.toNat ≠ 0 := fun e => hb (UInt8.toNat_inj.1 (by simpa using e))
    have e : IntKind.u8.wrap ((a.toNat : Int).tdiv (b.toNat : Int)) = (((a / b).toNat : Nat) : Int) := by
      have h1 := a.toNat_lt
      have h2 : (a.toNat : Int) / (b.toNat : Int) ≤ (a.toNat : Int) := Int.ediv_le_self _ (by omega)
      have h3 : 0 ≤ (a.toNat : Int) / (b.toNat : Int) := Int.ediv_nonneg (by omega) (by omega)
      rw [wrap_u8, Int.tdiv_eq_ediv_of_nonneg (by omega), UInt8.toNat_div]
      simp only [Int.natCast_ediv]
      exact Int.emod_eq_of_lt h3 (by omega)
    refine ⟨.int .u8 (IntKind.u8.wrap ((a.toNat : Int).tdiv (b.toNat : Int))), ?_, by rw [e]; exact .u8 _⟩
    have hb2 : ¬ ((b.toNat : Int) = 0) := by omega
    simp only [eqGuard, binOp, Op.intDiv, if_neg hb2]
    rfl
theorem op_rem8 {t t' : TypeId} {x y : Operand} {a b : UInt8} (hx : aev T x = some (.u8 a)) (hy : aev T y = some (.u8 b)) (hb : b ≠ 0) :
    OpSem P T H ⟨d, .binOp .rem t x y t', ty, ps, af, gd⟩ nm wr (.u8 (a % b)) [] :=
  op_bin hx hy fun E y1 y2 w h1 h2 => by
    rw [h1.u8_inv, h2.u8_inv]
    have hb' : b.toNat ≠ 0 := fun e => hb (UInt8.toNat_inj.1 (by simpa using e))
    have e : (a.toNat : Int).tmod (b.toNat : Int) = (((a % b).toNat : Nat) : Int) := by
      rw [Int.tmod_eq_emod_of_nonneg (by omega), UInt8.toNat_mod]; simp
    refine ⟨.int .u8 ((a.toNat : Int).tmod (b.toNat : Int)), ?_, by rw [e]; exact .u8 _⟩
    have hb2 : ¬ ((b.toNat : Int) = 0) := by omega
    simp only [eqGuard, binOp, Op.intDiv, if_neg hb2]
    rfl
/-- A number that may stand behind a shift. -/
theorem op_shl8 {t t' : TypeId} {x y : Operand} {a : UInt8} {n : Nat} (hx : aev T x = some (.u8 a)) (hy : aev T y = some u2) (hn : shiftBy u2 = some n) (h64 : n < 8) :
    OpSem P T H ⟨d, .binOp .shl t x y t', ty, ps, af, gd⟩ nm wr (.u8 (a <<< UInt8.ofNat n)) [] :=
  op_bin hx hy fun E y1 y2 w h1 h2 => by
    obtain ⟨k, rfl⟩ := shiftBy_inv hn h2
    rw [h1.u8_inv]
    have e := shl_n8 a n h64
    unfold n8 at e
    refine ⟨.int .u8 (IntKind.u8.wrap ((a.toNat : Int) * 2 ^ n)), ?_, by rw [wrap_u8, e]; exact .u8 _⟩
    simp [eqGuard, binOp, Op.shift, IntKind.bits, Nat.min_eq_left (Nat.le_of_lt h64)]
theorem op_shr8 {t t' : TypeId} {x y : Operand} {a : UInt8} {n : Nat} (hx : aev T x = some (.u8 a)) (hy : aev T y = some u2) (hn : shiftBy u2 = some n) (h64 : n < 8) :
    OpSem P T H ⟨d, .binOp .shr t x y t', ty, ps, af, gd⟩ nm wr (.u8 (a >>> UInt8.ofNat n)) [] :=
  op_bin hx hy fun E y1 y2 w h1 h2 => by
    obtain ⟨k, rfl⟩ := shiftBy_inv hn h2
    rw [h1.u8_inv]
    have e := shr_n8 a n h64
    unfold n8 at e
    have e2 : (a.toNat : Int).fdiv (2 ^ n) = (a.toNat : Int) / 2 ^ n := Int.fdiv_eq_ediv_of_nonneg _ (Int.le_of_lt (Int.pow_pos (by decide)))
    refine ⟨.int .u8 ((a.toNat : Int) / 2 ^ n), ?_, by rw [e]; exact .u8 _⟩
    simp [eqGuard, binOp, Op.shift, IntKind.bits, Nat.min_eq_left (Nat.le_of_lt h64), e2]
theorem op_not8 {t : TypeId} {x : Operand} {a : UInt8} (hx : aev T x = some (.u8 a)) : OpSem P T H ⟨d, .unOp .xor t x, ty, ps, af, gd⟩ nm wr (.u8 (~~~a)) [] :=
  .quiet fun E ac w h => by
    have e := (h x mem1 _ hx).u8_inv
    refine ⟨.int .u8 (bits .xor .u8 IntKind.u8.max (n8 a)), ?_, by rw [not_n8]; exact .u8 _⟩
    simp only [execOp, e]
    rfl

def bin32 (op : BinOp) (x y : UInt32) : Option AV := match op with
  | .add => some (.u32 (x + y))
  | .sub => some (.u32 (x - y))
  | .mul => some (.u32 (x * y))
  | .and => some (.u32 (x &&& y))
  | .or => some (.u32 (x ||| y))
  | .xor => some (.u32 (x ^^^ y))
  | .eql => some (.bool (x == y))
  | .neq => some (.bool (x != y))
  | .lss => some (.bool (decide (x < y)))
  | .leq => some (.bool (decide (x ≤ y)))
  | .gtr => some (.bool (decide (y < x)))
  | .geq => some (.bool (decide (y ≤ x)))
  | _ => none
theorem op_bin32 {op : BinOp} {t t' : TypeId} {x y : Operand} {a b : UInt32} (hx : aev T x = some (.u32 a)) (hy : aev T y = some (.u32 b)) (hv : bin32 op a b = some v) :
    OpSem P T H ⟨d, .binOp op t x y t', ty, ps, af, gd⟩ nm wr v [] :=
  op_bin hx hy fun E y1 y2 w h1 h2 => by
    rw [h1.u32_inv, h2.u32_inv]
    have hi : ((a.toNat : Int) == (b.toNat : Int)) = (a == b) := by
      rw [Bool.eq_iff_iff]; simp only [beq_iff_eq]; exact n32_inj (a := a) (b := b)
    cases op <;> simp only [bin32, Option.some.injEq, reduceCtorEq] at hv <;> subst hv
    · exact ⟨_, rfl, by have := add_n32 a b; unfold n32 at this; rw [this]; exact .u32 _⟩
    · exact ⟨_, rfl, by have := sub_n32 a b; unfold n32 at this; rw [this]; exact .u32 _⟩
    · exact ⟨_, rfl, by have := mul_n32 a b; unfold n32 at this; rw [this]; exact .u32 _⟩
    · exact ⟨.int .u32 (bits .and .u32 (n32 a) (n32 b)), rfl, by rw [and_n32]; exact .u32 _⟩
    · exact ⟨.int .u32 (bits .or .u32 (n32 a) (n32 b)), rfl, by rw [or_n32]; exact .u32 _⟩
    · exact ⟨.int .u32 (bits .xor .u32 (n32 a) (n32 b)), rfl, by rw [xor_n32]; exact .u32 _⟩
    · exact ⟨.bool ((a.toNat : Int) == (b.toNat : Int)), rfl, by rw [hi]; exact .bool _⟩
    · exact ⟨.bool ((a.toNat : Int) != (b.toNat : Int)), rfl, by unfold bne; rw [hi]; exact .bool _⟩
    · exact ⟨.bool (decide ((a.toNat : Int) < (b.toNat : Int))), rfl, by rw [show decide ((a.toNat : Int) < (b.toNat : Int)) = decide (a < b) by simp [UInt32.lt_iff_toNat_lt]]; exact .bool _⟩
    · exact ⟨.bool (decide ((a.toNat : Int) ≤ (b.toNat : Int))), rfl, by rw [show decide ((a.toNat : Int) ≤ (b.toNat : Int)) = decide (a ≤ b) by simp [UInt32.le_iff_toNat_le]]; exact .bool _⟩
    · exact ⟨.bool (decide ((a.toNat : Int) > (b.toNat : Int))), rfl, by rw [show decide ((a.toNat : Int) > (b.toNat : Int)) = decide (b < a) by simp [UInt32.lt_iff_toNat_lt]]; exact .bool _⟩
    · exact ⟨.bool (decide ((a.toNat : Int) ≥ (b.toNat : Int))), rfl, by rw [show decide ((a.toNat : Int) ≥ (b.toNat : Int)) = decide (b ≤ a) by simp [UInt32.le_iff_toNat_le]]; exact .bool _⟩
theorem op_quo32 {t t' : TypeId} {x y : Operand} {a b : UInt32} (hx : aev T x = some (.u32 a)) (hy : aev T y = some (.u32 b)) (hb : b ≠ 0) :
    OpSem P T H ⟨d, .binOp .quo t x y t', ty, ps, af, gd⟩ nm wr (.u32 (a / b)) [] :=
  op_bin hx hy fun E y1 y2 w h1 h2 => by
    rw [h1.u32_inv, h2.u32_inv]
    have hb' : b.toNat ≠ 0 := fun e => hb (UInt32.toNat_inj.1 (by simpa using e))
    have e : IntKind.u32.wrap ((a.toNat : Int).tdiv (b.toNat : Int)) = (((a / b).toNat : Nat) : Int) := by
      have h1 := a.toNat_lt
      have h2 : (a.toNat : Int) / (b.toNat : Int) ≤ (a.toNat : Int) := Int.ediv_le_self _ (by omega)
      have h3 : 0 ≤ (a.toNat : Int) / (b.toNat : Int) := Int.ediv_nonneg (by omega) (by omega)
      rw [wrap_u32, Int.tdiv_eq_ediv_of_nonneg (by omega), UInt32.toNat_div]
      simp only [Int.natCast_ediv]
      exact Int.emod_eq_of_lt h3 (by omega)
    refine ⟨.int .u32 (IntKind.u32.wrap ((a.toNat : Int).tdiv (b.toNat : Int))), ?_, by rw [e]; exact .u32 _⟩
    have hb2 : ¬ ((b.toNat : Int) = 0) := by omega
    simp only [eqGuard, binOp, Op.intDiv, if_neg hb2]
    rfl
theorem op_rem32 {t t' : TypeId} {x y : Operand} {a b : UInt32} (hx : aev T x = some (.u32 a)) (hy : aev T y = some (.u32 b)) (hb : b ≠ 0) :
    OpSem P T H ⟨d, .binOp .rem t x y t', ty, ps, af, gd⟩ nm wr (.u32 (a % b)) [] :=
  op_bin hx hy fun E y1 y2 w h1 h2 => by
    rw [h1.u32_inv, h2.u32_inv]
    have hb' : b.toNat ≠ 0 := fun e => hb (UInt32.toNat_inj.1 (by simpa using e))
    have e : (a.toNat : Int).tmod (b.toNat : Int) = (((a % b).toNat : Nat) : Int) := by
      rw [Int.tmod_eq_emod_of_nonneg (by omega), UInt32.toNat_mod]; simp
    refine ⟨.int .u32 ((a.toNat : Int).tmod (b.toNat : Int)), ?_, by rw [e]; exact .u32 _⟩
    have hb2 : ¬ ((b.toNat : Int) = 0) := by omega
    simp only [eqGuard, binOp, Op.intDiv, if_neg hb2]
    rfl
/-- A number that may stand behind a shift. -/
theorem op_shl32 {t t' : TypeId} {x y : Operand} {a : UInt32} {n : Nat} (hx : aev T x = some (.u32 a)) (hy : aev T y = some u2) (hn : shiftBy u2 = some n) (h64 : n < 32) :
    OpSem P T H ⟨d, .binOp .shl t x y t', ty, ps, af, gd⟩ nm wr (.u32 (a <<< UInt32.ofNat n)) [] :=
  op_bin hx hy fun E y1 y2 w h1 h2 => by
    obtain ⟨k, rfl⟩ := shiftBy_inv hn h2
    rw [h1.u32_inv]
    have e := shl_n32 a n h64
    unfold n32 at e
    refine ⟨.int .u32 (IntKind.u32.wrap ((a.toNat : Int) * 2 ^ n)), ?_, by rw [wrap_u32, e]; exact .u32 _⟩
    simp [eqGuard, binOp, Op.shift, IntKind.bits, Nat.min_eq_left (Nat.le_of_lt h64)]
theorem op_shr32 {t t' : TypeId} {x y : Operand} {a : UInt32} {n : Nat} (hx : aev T x = some (.u32 a)) (hy : aev T y = some u2) (hn : shiftBy u2 = some n) (h64 : n < 32) :
    OpSem P T H ⟨d, .binOp .shr t x y t', ty, ps, af, gd⟩ nm wr (.u32 (a >>> UInt32.ofNat n)) [] :=
  op_bin hx hy fun E y1 y2 w h1 h2 => by
    obtain ⟨k, rfl⟩ := shiftBy_inv hn h2
    rw [h1.u32_inv]
    have e := shr_n32 a n h64
    unfold n32 at e
    have e2 : (a.toNat : Int).fdiv (2 ^ n) = (a.toNat : Int) / 2 ^ n := Int.fdiv_eq_ediv_of_nonneg _ (Int.le_of_lt (Int.pow_pos (by decide)))
    refine ⟨.int .u32 ((a.toNat : Int) / 2 ^ n), ?_, by rw [e]; exact .u32 _⟩
    simp [eqGuard, binOp, Op.shift, IntKind.bits, Nat.min_eq_left (Nat.le_of_lt h64), e2]
theorem op_not32 {t : TypeId} {x : Operand} {a : UInt32} (hx : aev T x = some (.u32 a)) : OpSem P T H ⟨d, .unOp .xor t x, ty, ps, af, gd⟩ nm wr (.u32 (~~~a)) [] :=
  .quiet fun E ac w h => by
    have e := (h x mem1 _ hx).u32_inv
    refine ⟨.int .u32 (bits .xor .u32 IntKind.u32.max (n32 a)), ?_, by rw [not_n32]; exact .u32 _⟩
    simp only [execOp, e]
    rfl

def bin64 (op : BinOp) (x y : UInt64) : Option AV := match op with
  | .add => some (.u64 (x + y))
  | .sub => some (.u64 (x - y))
  | .mul => some (.u64 (x * y))
  | .and => some (.u64 (x &&& y))
  | .or => some (.u64 (x ||| y))
  | .xor => some (.u64 (x ^^^ y))
  | .eql => some (.bool (x == y))
  | .neq => some (.bool (x != y))
  | .lss => some (.bool (decide (x < y)))
  | .leq => some (.bool (decide (x ≤ y)))
  | .gtr => some (.bool (decide (y < x)))
  | .geq => some (.bool (decide (y ≤ x)))
  | _ => none
theorem op_bin64 {op : BinOp} {t t' : TypeId} {x y : Operand} {a b : UInt64} (hx : aev T x = some (.u64 a)) (hy : aev T y = some (.u64 b)) (hv : bin64 op a b = some v) :
    OpSem P T H ⟨d, .binOp op t x y t', ty, ps, af, gd⟩ nm wr v [] :=
  op_bin hx hy fun E y1 y2 w h1 h2 => by
    rw [h1.u64_inv, h2.u64_inv]
    have hi : ((a.toNat : Int) == (b.toNat : Int)) = (a == b) := by
      rw [Bool.eq_iff_iff]; simp only [beq_iff_eq]; exact n64_inj (a := a) (b := b)
    cases op <;> simp only [bin64, Option.some.injEq, reduceCtorEq] at hv <;> subst hv
    · exact ⟨_, rfl, by have := add_n64 a b; unfold n64 at this; rw [this]; exact .u64 _⟩
    · exact ⟨_, rfl, by have := sub_n64 a b; unfold n64 at this; rw [this]; exact .u64 _⟩
    · exact ⟨_, rfl, by have := mul_n64 a b; unfold n64 at this; rw [this]; exact .u64 _⟩
    · exact ⟨.int .u64 (bits .and .u64 (n64 a) (n64 b)), rfl, by rw [and_n64]; exact .u64 _⟩
    · exact ⟨.int .u64 (bits .or .u64 (n64 a) (n64 b)), rfl, by rw [or_n64]; exact .u64 _⟩
    · exact ⟨.int .u64 (bits .xor .u64 (n64 a) (n64 b)), rfl, by rw [xor_n64]; exact .u64 _⟩
    · exact ⟨.bool ((a.toNat : Int) == (b.toNat : Int)), rfl, by rw [hi]; exact .bool _⟩
    · exact ⟨.bool ((a.toNat : Int) != (b.toNat : Int)), rfl, by unfold bne; rw [hi]; exact .bool _⟩
    · exact ⟨.bool (decide ((a.toNat : Int) < (b.toNat : Int))), rfl, by rw [show decide ((a.toNat : Int) < (b.toNat : Int)) = decide (a < b) by simp [UInt64.lt_iff_toNat_lt]]; exact .bool _⟩
    · exact ⟨.bool (decide ((a.toNat : Int) ≤ (b.toNat : Int))), rfl, by rw [show decide ((a.toNat : Int) ≤ (b.toNat : Int)) = decide (a ≤ b) by simp [UInt64.le_iff_toNat_le]]; exact .bool _⟩
    · exact ⟨.bool (decide ((a.toNat : Int) > (b.toNat : Int))), rfl, by rw [show decide ((a.toNat : Int) > (b.toNat : Int)) = decide (b < a) by simp [UInt64.lt_iff_toNat_lt]]; exact .bool _⟩
    · exact ⟨.bool (decide ((a.toNat : Int) ≥ (b.toNat : Int))), rfl, by rw [show decide ((a.toNat : Int) ≥ (b.toNat : Int)) = decide (b ≤ a) by simp [UInt64.le_iff_toNat_le]]; exact .bool _⟩
theorem op_quo64 {t t' : TypeId} {x y : Operand} {a b : UInt64} (hx : aev T x = some (.u64 a)) (hy : aev T y = some (.u64 b)) (hb : b ≠ 0) :
    OpSem P T H ⟨d, .binOp .quo t x y t', ty, ps, af, gd⟩ nm wr (.u64 (a / b)) [] :=
  op_bin hx hy fun E y1 y2 w h1 h2 => by
    rw [h1.u64_inv, h2.u64_inv]
    have hb' : b.toNat ≠ 0 := fun e => hb (UInt64.toNat_inj.1 (by simpa using e))
    have e : IntKind.u64.wrap ((a.toNat : Int).tdiv (b.toNat : Int)) = (((a / b).toNat : Nat) : Int) := by
      have h1 := a.toNat_lt
      have h2 : (a.toNat : Int) / (b.toNat : Int) ≤ (a.toNat : Int) := Int.ediv_le_self _ (by omega)
      have h3 : 0 ≤ (a.toNat : Int) / (b.toNat : Int) := Int.ediv_nonneg (by omega) (by omega)
      rw [wrap_u64, Int.tdiv_eq_ediv_of_nonneg (by omega), UInt64.toNat_div]
      simp only [Int.natCast_ediv]
      exact Int.emod_eq_of_lt h3 (by omega)
    refine ⟨.int .u64 (IntKind.u64.wrap ((a.toNat : Int).tdiv (b.toNat : Int))), ?_, by rw [e]; exact .u64 _⟩
    have hb2 : ¬ ((b.toNat : Int) = 0) := by omega
    simp only [eqGuard, binOp, Op.intDiv, if_neg hb2]
    rfl
theorem op_rem64 {t t' : TypeId} {x y : Operand} {a b : UInt64} (hx : aev T x = some (.u64 a)) (hy : aev T y = some (.u64 b)) (hb : b ≠ 0) :
    OpSem P T H ⟨d, .binOp .rem t x y t', ty, ps, af, gd⟩ nm wr (.u64 (a % b)) [] :=
  op_bin hx hy fun E y1 y2 w h1 h2 => by
    rw [h1.u64_inv, h2.u64_inv]
    have hb' : b.toNat ≠ 0 := fun e => hb (UInt64.toNat_inj.1 (by simpa using e))
    have e : (a.toNat : Int).tmod (b.toNat : Int) = (((a % b).toNat : Nat) : Int) := by
      rw [Int.tmod_eq_emod_of_nonneg (by omega), UInt64.toNat_mod]; simp
    refine ⟨.int .u64 ((a.toNat : Int).tmod (b.toNat : Int)), ?_, by rw [e]; exact .u64 _⟩
    have hb2 : ¬ ((b.toNat : Int) = 0) := by omega
    simp only [eqGuard, binOp, Op.intDiv, if_neg hb2]
    rfl
/-- A number that may stand behind a shift. -/
theorem op_shl64 {t t' : TypeId} {x y : Operand} {a : UInt64} {n : Nat} (hx : aev T x = some (.u64 a)) (hy : aev T y = some u2) (hn : shiftBy u2 = some n) (h64 : n < 64) :
    OpSem P T H ⟨d, .binOp .shl t x y t', ty, ps, af, gd⟩ nm wr (.u64 (a <<< UInt64.ofNat n)) [] :=
  op_bin hx hy fun E y1 y2 w h1 h2 => by
    obtain ⟨k, rfl⟩ := shiftBy_inv hn h2
    rw [h1.u64_inv]
    have e := shl_n64 a n h64
    unfold n64 at e
    refine ⟨.int .u64 (IntKind.u64.wrap ((a.toNat : Int) * 2 ^ n)), ?_, by rw [wrap_u64, e]; exact .u64 _⟩
    simp [eqGuard, binOp, Op.shift, IntKind.bits, Nat.min_eq_left (Nat.le_of_lt h64)]
theorem op_shr64 {t t' : TypeId} {x y : Operand} {a : UInt64} {n : Nat} (hx : aev T x = some (.u64 a)) (hy : aev T y = some u2) (hn : shiftBy u2 = some n) (h64 : n < 64) :
    OpSem P T H ⟨d, .binOp .shr t x y t', ty, ps, af, gd⟩ nm wr (.u64 (a >>> UInt64.ofNat n)) [] :=
  op_bin hx hy fun E y1 y2 w h1 h2 => by
    obtain ⟨k, rfl⟩ := shiftBy_inv hn h2
    rw [h1.u64_inv]
    have e := shr_n64 a n h64
    unfold n64 at e
    have e2 : (a.toNat : Int).fdiv (2 ^ n) = (a.toNat : Int) / 2 ^ n := Int.fdiv_eq_ediv_of_nonneg _ (Int.le_of_lt (Int.pow_pos (by decide)))
    refine ⟨.int .u64 ((a.toNat : Int) / 2 ^ n), ?_, by rw [e]; exact .u64 _⟩
    simp [eqGuard, binOp, Op.shift, IntKind.bits, Nat.min_eq_left (Nat.le_of_lt h64), e2]
theorem op_not64 {t : TypeId} {x : Operand} {a : UInt64} (hx : aev T x = some (.u64 a)) : OpSem P T H ⟨d, .unOp .xor t x, ty, ps, af, gd⟩ nm wr (.u64 (~~~a)) [] :=
  .quiet fun E ac w h => by
    have e := (h x mem1 _ hx).u64_inv
    refine ⟨.int .u64 (bits .xor .u64 IntKind.u64.max (n64 a)), ?_, by rw [not_n64]; exact .u64 _⟩
    simp only [execOp, e]
    rfl

def InI (x : Int) : Prop := -9223372036854775808 ≤ x ∧ x ≤ 9223372036854775807
theorem wrap_in {x : Int} (h : InI x) : IntKind.i64.wrap x = x := by
  unfold InI at h
  simp only [IntKind.wrap, IntKind.bits, IntKind.signed]
  simp
  split <;> omega
section
variable {t t' : TypeId} {x y : Operand} {a b : Int}
theorem op_addI (hx : aev T x = some (.i64 a)) (hy : aev T y = some (.i64 b)) (h : InI (a + b)) : OpSem P T H ⟨d, .binOp .add t x y t', ty, ps, af, gd⟩ nm wr (.i64 (a + b)) [] :=
  op_bin hx hy fun E y1 y2 w h1 h2 => by
    rw [h1.i64_inv, h2.i64_inv]
    exact ⟨_, rfl, by rw [wrap_in h]; exact .i64 _⟩
theorem op_subI (hx : aev T x = some (.i64 a)) (hy : aev T y = some (.i64 b)) (h : InI (a - b)) : OpSem P T H ⟨d, .binOp .sub t x y t', ty, ps, af, gd⟩ nm wr (.i64 (a - b)) [] :=
  op_bin hx hy fun E y1 y2 w h1 h2 => by
    rw [h1.i64_inv, h2.i64_inv]
    exact ⟨_, rfl, by rw [wrap_in h]; exact .i64 _⟩
theorem op_mulI (hx : aev T x = some (.i64 a)) (hy : aev T y = some (.i64 b)) (h : InI (a * b)) : OpSem P T H ⟨d, .binOp .mul t x y t', ty, ps, af, gd⟩ nm wr (.i64 (a * b)) [] :=
  op_bin hx hy fun E y1 y2 w h1 h2 => by
    rw [h1.i64_inv, h2.i64_inv]
    exact ⟨_, rfl, by rw [wrap_in h]; exact .i64 _⟩
theorem op_quoI (hx : aev T x = some (.i64 a)) (hy : aev T y = some (.i64 b)) (h : 0 ≤ a ∧ InI a ∧ 0 < b) : OpSem P T H ⟨d, .binOp .quo t x y t', ty, ps, af, gd⟩ nm wr (.i64 (a / b)) [] :=
  op_bin hx hy fun E y1 y2 w h1 h2 => by
    rw [h1.i64_inv, h2.i64_inv]
    refine ⟨.int .i64 (IntKind.i64.wrap (a.tdiv b)), ?_, ?_⟩
    · simp [eqGuard, binOp, Op.intDiv, show ¬ (b = 0) by omega]
    · have h3 : 0 ≤ a / b := Int.ediv_nonneg h.1 (by omega)
      have h4 : a / b ≤ a := Int.ediv_le_self _ h.1
      rw [Int.tdiv_eq_ediv_of_nonneg h.1, wrap_in ⟨by omega, by have := h.2.1.2; omega⟩]
      exact .i64 _
theorem op_remI (hx : aev T x = some (.i64 a)) (hy : aev T y = some (.i64 b)) (h : 0 ≤ a ∧ 0 < b) : OpSem P T H ⟨d, .binOp .rem t x y t', ty, ps, af, gd⟩ nm wr (.i64 (a % b)) [] :=
  op_bin hx hy fun E y1 y2 w h1 h2 => by
    rw [h1.i64_inv, h2.i64_inv]
    refine ⟨.int .i64 (a.tmod b), ?_, by rw [Int.tmod_eq_emod_of_nonneg h.1]; exact .i64 _⟩
    simp [eqGuard, binOp, Op.intDiv, show ¬ (b = 0) by omega]
theorem op_shlI {n : Nat} (hx : aev T x = some (.i64 a)) (hy : aev T y = some u2) (hn : shiftBy u2 = some n) (h : n < 64 ∧ InI (a * 2 ^ n)) : OpSem P T H ⟨d, .binOp .shl t x y t', ty, ps, af, gd⟩ nm wr (.i64 (a * 2 ^ n)) [] :=
  op_bin hx hy fun E y1 y2 w h1 h2 => by
    obtain ⟨k, rfl⟩ := shiftBy_inv hn h2
    rw [h1.i64_inv]
    refine ⟨.int .i64 (IntKind.i64.wrap (a * 2 ^ n)), ?_, by rw [wrap_in h.2]; exact .i64 _⟩
    simp [eqGuard, binOp, Op.shift, IntKind.bits, Nat.min_eq_left (Nat.le_of_lt h.1)]
theorem op_shrI {n : Nat} (hx : aev T x = some (.i64 a)) (hy : aev T y = some u2) (hn : shiftBy u2 = some n) (h : n < 64) : OpSem P T H ⟨d, .binOp .shr t x y t', ty, ps, af, gd⟩ nm wr (.i64 (a / 2 ^ n)) [] :=
  op_bin hx hy fun E y1 y2 w h1 h2 => by
    obtain ⟨k, rfl⟩ := shiftBy_inv hn h2
    rw [h1.i64_inv]
    have e2 : a.fdiv (2 ^ n) = a / 2 ^ n := Int.fdiv_eq_ediv_of_nonneg _ (Int.le_of_lt (Int.pow_pos (by decide)))
    refine ⟨.int .i64 (a / 2 ^ n), ?_, .i64 _⟩
    simp [eqGuard, binOp, Op.shift, IntKind.bits, Nat.min_eq_left (Nat.le_of_lt h), e2]
def cmpI (op : BinOp) (x y : Int) : Option AV := match op with
  | .eql => some (.bool (x == y))
  | .neq => some (.bool (x != y))
  | .lss => some (.bool (decide (x < y)))
  | .leq => some (.bool (decide (x ≤ y)))
  | .gtr => some (.bool (decide (y < x)))
  | .geq => some (.bool (decide (y ≤ x)))
  | _ => none
theorem op_cmpI {op : BinOp} (hx : aev T x = some (.i64 a)) (hy : aev T y = some (.i64 b)) (hv : cmpI op a b = some v) :
    OpSem P T H ⟨d, .binOp op t x y t', ty, ps, af, gd⟩ nm wr v [] :=
  op_bin hx hy fun E y1 y2 w h1 h2 => by
    rw [h1.i64_inv, h2.i64_inv]
    cases op <;> simp only [cmpI, Option.some.injEq, reduceCtorEq] at hv <;> subst hv <;> exact ⟨_, rfl, .bool _⟩
theorem op_andI {n m : Nat} (hx : aev T x = some (.i64 n)) (hy : aev T y = some (.i64 m)) (h : n ≤ 9223372036854775807 ∧ m ≤ 9223372036854775807) : OpSem P T H ⟨d, .binOp .and t x y t', ty, ps, af, gd⟩ nm wr (.i64 ((n &&& m : Nat) : Int)) [] :=
  op_bin hx hy fun E y1 y2 w h1 h2 => by
    rw [h1.i64_inv, h2.i64_inv]
    refine ⟨.int .i64 (IntKind.i64.wrap ((BitVec.ofInt 64 n &&& BitVec.ofInt 64 m).toNat : Int)), rfl, ?_⟩
    have e : (BitVec.ofInt 64 n &&& BitVec.ofInt 64 m).toNat = n &&& m := by
      rw [BitVec.toNat_and, BitVec.toNat_ofInt, BitVec.toNat_ofInt]
      congr 1 <;> omega
    have hle : n &&& m ≤ n := Nat.and_le_left
    rw [e, wrap_in ⟨by omega, by omega⟩]
    exact .i64 _
theorem op_eqB {op : BinOp} {p q : Bool} (hu : P.underlying t = some .bool) (hx : aev T x = some (.bool p)) (hy : aev T y = some (.bool q)) (hv : (match op with | .eql => some (AV.bool (p == q)) | .neq => some (.bool (p != q)) | _ => none) = some v) :
    OpSem P T H ⟨d, .binOp op t x y t', ty, ps, af, gd⟩ nm wr v [] :=
  op_bin hx hy fun E y1 y2 w h1 h2 => by
    rw [h1.bool_inv, h2.bool_inv]
    cases op <;> simp only [Option.some.injEq, reduceCtorEq] at hv <;> subst hv
    · refine ⟨.bool (p == q), ?_, .bool _⟩
      have e : (Op.equalIn 10000 t (.bool p) (.bool q)).run P w = .ok (p == q) w := run_equalIn_bool' w 9999 t p q hu
      simp [eqGuard, binOp, Op.equal, Op.maxDepth, e, bne]
    · refine ⟨.bool (p != q), ?_, .bool _⟩
      have e : (Op.equalIn 10000 t (.bool p) (.bool q)).run P w = .ok (p == q) w := run_equalIn_bool' w 9999 t p q hu
      simp [eqGuard, binOp, Op.equal, Op.maxDepth, e, bne]
end
theorem op_negI {t : TypeId} {x : Operand} {a : Int} (hx : aev T x = some (.i64 a)) (h : InI (0 - a)) : OpSem P T H ⟨d, .unOp .neg t x, ty, ps, af, gd⟩ nm wr (.i64 (0 - a)) [] :=
  .quiet fun E ac w h' => by
    have e := (h' x mem1 _ hx).i64_inv
    exact ⟨.int .i64 (IntKind.i64.wrap (0 - a)), by simp only [execOp, e]; rfl, by rw [wrap_in h]; exact .i64 _⟩
theorem op_notB {t : TypeId} {x : Operand} {p : Bool} (hx : aev T x = some (.bool p)) : OpSem P T H ⟨d, .unOp .not t x, ty, ps, af, gd⟩ nm wr (.bool (!p)) [] :=
  .quiet fun E ac w h' => by
    have e := (h' x mem1 _ hx).bool_inv
    exact ⟨.bool (!p), by simp only [execOp, e]; rfl, .bool _⟩
end
end Go.Proofs.YtaenhghihhhikaaDoor
