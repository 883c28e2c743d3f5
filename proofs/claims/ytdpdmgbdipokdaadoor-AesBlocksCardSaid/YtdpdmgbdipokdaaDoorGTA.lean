/-
  Texts of this claim.
-/
import Derived.WalkKit
import Derived.Laws.Slices
import Derived.Laws.Strings
import Derived.Laws.Strings2
import Derived.Laws.StructEq
import Derived.Great.BuildSlice
import Derived.Laws.Concat
import Derived.Laws.OwnMore
import Derived.Conc.MuLone
import Derived.Test.YtdpdmgbdipokdaaDoorGTH
namespace Go.Proofs.YtdpdmgbdipokdaaDoor
open Go.RowKit

def n8 (u : UInt8) : Int := (u.toNat : Int)
def n32 (u : UInt32) : Int := (u.toNat : Int)
def n64 (u : UInt64) : Int := (u.toNat : Int)
theorem n8_def (u : UInt8) : n8 u = (u.toNat : Int) := rfl
theorem n32_def (u : UInt32) : n32 u = (u.toNat : Int) := rfl
theorem n64_def (u : UInt64) : n64 u = (u.toNat : Int) := rfl
theorem fold8 (u : UInt8) : ((u.toNat : Nat) : Int) = n8 u := rfl
abbrev U8 (u : UInt8) : Value := .int .u8 (n8 u)
abbrev U32 (u : UInt32) : Value := .int .u32 (n32 u)
abbrev U64 (u : UInt64) : Value := .int .u64 (n64 u)


theorem wrap_u8 (n : Int) : IntKind.u8.wrap n = n % 256 := by simp [IntKind.wrap, IntKind.bits, IntKind.signed]
theorem n8_nonneg (a : UInt8) : 0 ≤ n8 a := by unfold n8; omega
theorem n8_lt (a : UInt8) : n8 a < 256 := by have := a.toNat_lt; unfold n8; omega
theorem n8_inj {a b : UInt8} : n8 a = n8 b ↔ a = b := by
  unfold n8
  constructor
  · intro h; exact UInt8.toNat_inj.1 (by omega)
  · rintro rfl; rfl
theorem ofInt_n8 (a : UInt8) : BitVec.ofInt 8 (n8 a) = a.toBitVec := by
  unfold n8; apply BitVec.eq_of_toNat_eq; simp
theorem wrap_n8 (a : UInt8) : IntKind.u8.wrap (n8 a) = n8 a := by
  have h0 := n8_nonneg a; have := n8_lt a; rw [wrap_u8]; omega
theorem add_n8 (a b : UInt8) : IntKind.u8.wrap (n8 a + n8 b) = n8 (a + b) := by
  rw [wrap_u8]; unfold n8; rw [UInt8.toNat_add]; omega
theorem add_n8' (a b : UInt8) : (n8 a + n8 b) % 256 = n8 (a + b) := by
  unfold n8; rw [UInt8.toNat_add]; omega
theorem sub_n8 (a b : UInt8) : IntKind.u8.wrap (n8 a - n8 b) = n8 (a - b) := by
  have := a.toNat_lt; have := b.toNat_lt
  rw [wrap_u8]; unfold n8; rw [UInt8.toNat_sub]; omega
theorem mul_n8 (a b : UInt8) : IntKind.u8.wrap (n8 a * n8 b) = n8 (a * b) := by
  rw [wrap_u8]; unfold n8; rw [UInt8.toNat_mul, ← Int.natCast_mul]; omega
theorem not_n8 (a : UInt8) : bits .xor .u8 IntKind.u8.max (n8 a) = n8 (~~~a) := by
  rw [← wrap_n8 (~~~a)]
  show IntKind.u8.wrap ↑((BitVec.ofInt 8 IntKind.u8.max) ^^^ (BitVec.ofInt 8 (n8 a))).toNat = _
  rw [ofInt_n8, show BitVec.ofInt 8 IntKind.u8.max = BitVec.allOnes 8 by decide, BitVec.allOnes_xor]; rfl
theorem shl_n8 (a : UInt8) (s : Nat) (hs : s < 8) : (n8 a * 2 ^ s) % 256 = n8 (a <<< UInt8.ofNat s) := by
  unfold n8
  rw [UInt8.toNat_shiftLeft, Nat.shiftLeft_eq, UInt8.toNat_ofNat', Nat.mod_eq_of_lt (b := 2 ^ 8) (Nat.lt_trans hs (by decide)), Nat.mod_eq_of_lt (b := 8) hs]
  have : ((2 ^ s : Nat) : Int) = 2 ^ s := by simp
  rw [← this, ← Int.natCast_mul]
  omega
theorem shr_n8 (a : UInt8) (s : Nat) (hs : s < 8) : n8 a / 2 ^ s = n8 (a >>> UInt8.ofNat s) := by
  unfold n8
  rw [UInt8.toNat_shiftRight, Nat.shiftRight_eq_div_pow, UInt8.toNat_ofNat', Nat.mod_eq_of_lt (b := 2 ^ 8) (Nat.lt_trans hs (by decide)), Nat.mod_eq_of_lt (b := 8) hs]
  have : ((2 ^ s : Nat) : Int) = 2 ^ s := by simp
  rw [← this]
  omega
theorem lit_n8 (n : Nat) (h : n < 256) : (n : Int) = n8 (UInt8.ofNat n) := by
  unfold n8; rw [UInt8.toNat_ofNat', Nat.mod_eq_of_lt (b := 2 ^ 8) h]

theorem and_n8 (a b : UInt8) : bits .and .u8 (n8 a) (n8 b) = n8 (a &&& b) := by
  rw [← wrap_n8 (a &&& b)]
  show IntKind.u8.wrap ↑((BitVec.ofInt 8 (n8 a)) &&& (BitVec.ofInt 8 (n8 b))).toNat = _
  rw [ofInt_n8, ofInt_n8]; rfl
theorem or_n8 (a b : UInt8) : bits .or .u8 (n8 a) (n8 b) = n8 (a ||| b) := by
  rw [← wrap_n8 (a ||| b)]
  show IntKind.u8.wrap ↑((BitVec.ofInt 8 (n8 a)) ||| (BitVec.ofInt 8 (n8 b))).toNat = _
  rw [ofInt_n8, ofInt_n8]; rfl
theorem xor_n8 (a b : UInt8) : bits .xor .u8 (n8 a) (n8 b) = n8 (a ^^^ b) := by
  rw [← wrap_n8 (a ^^^ b)]
  show IntKind.u8.wrap ↑((BitVec.ofInt 8 (n8 a)) ^^^ (BitVec.ofInt 8 (n8 b))).toNat = _
  rw [ofInt_n8, ofInt_n8]; rfl

theorem wrap_u32 (n : Int) : IntKind.u32.wrap n = n % 4294967296 := by simp [IntKind.wrap, IntKind.bits, IntKind.signed]
theorem n32_nonneg (a : UInt32) : 0 ≤ n32 a := by unfold n32; omega
theorem n32_lt (a : UInt32) : n32 a < 4294967296 := by have := a.toNat_lt; unfold n32; omega
theorem n32_inj {a b : UInt32} : n32 a = n32 b ↔ a = b := by
  unfold n32
  constructor
  · intro h; exact UInt32.toNat_inj.1 (by omega)
  · rintro rfl; rfl
theorem ofInt_n32 (a : UInt32) : BitVec.ofInt 32 (n32 a) = a.toBitVec := by
  unfold n32; apply BitVec.eq_of_toNat_eq; simp
theorem wrap_n32 (a : UInt32) : IntKind.u32.wrap (n32 a) = n32 a := by
  have h0 := n32_nonneg a; have := n32_lt a; rw [wrap_u32]; omega
theorem add_n32 (a b : UInt32) : IntKind.u32.wrap (n32 a + n32 b) = n32 (a + b) := by
  rw [wrap_u32]; unfold n32; rw [UInt32.toNat_add]; omega
theorem add_n32' (a b : UInt32) : (n32 a + n32 b) % 4294967296 = n32 (a + b) := by
  unfold n32; rw [UInt32.toNat_add]; omega
theorem sub_n32 (a b : UInt32) : IntKind.u32.wrap (n32 a - n32 b) = n32 (a - b) := by
  have := a.toNat_lt; have := b.toNat_lt
  rw [wrap_u32]; unfold n32; rw [UInt32.toNat_sub]; omega
theorem mul_n32 (a b : UInt32) : IntKind.u32.wrap (n32 a * n32 b) = n32 (a * b) := by
  rw [wrap_u32]; unfold n32; rw [UInt32.toNat_mul, ← Int.natCast_mul]; omega
theorem not_n32 (a : UInt32) : bits .xor .u32 IntKind.u32.max (n32 a) = n32 (~~~a) := by
  rw [← wrap_n32 (~~~a)]
  show IntKind.u32.wrap ↑((BitVec.ofInt 32 IntKind.u32.max) ^^^ (BitVec.ofInt 32 (n32 a))).toNat = _
  rw [ofInt_n32, show BitVec.ofInt 32 IntKind.u32.max = BitVec.allOnes 32 by decide, BitVec.allOnes_xor]; rfl
theorem shl_n32 (a : UInt32) (s : Nat) (hs : s < 32) : (n32 a * 2 ^ s) % 4294967296 = n32 (a <<< UInt32.ofNat s) := by
  unfold n32
  rw [UInt32.toNat_shiftLeft, Nat.shiftLeft_eq, UInt32.toNat_ofNat', Nat.mod_eq_of_lt (b := 2 ^ 32) (Nat.lt_trans hs (by decide)), Nat.mod_eq_of_lt (b := 32) hs]
  have : ((2 ^ s : Nat) : Int) = 2 ^ s := by simp
  rw [← this, ← Int.natCast_mul]
  omega
theorem shr_n32 (a : UInt32) (s : Nat) (hs : s < 32) : n32 a / 2 ^ s = n32 (a >>> UInt32.ofNat s) := by
  unfold n32
  rw [UInt32.toNat_shiftRight, Nat.shiftRight_eq_div_pow, UInt32.toNat_ofNat', Nat.mod_eq_of_lt (b := 2 ^ 32) (Nat.lt_trans hs (by decide)), Nat.mod_eq_of_lt (b := 32) hs]
  have : ((2 ^ s : Nat) : Int) = 2 ^ s := by simp
  rw [← this]
  omega
theorem lit_n32 (n : Nat) (h : n < 4294967296) : (n : Int) = n32 (UInt32.ofNat n) := by
  unfold n32; rw [UInt32.toNat_ofNat', Nat.mod_eq_of_lt (b := 2 ^ 32) h]

theorem and_n32 (a b : UInt32) : bits .and .u32 (n32 a) (n32 b) = n32 (a &&& b) := by
  rw [← wrap_n32 (a &&& b)]
  show IntKind.u32.wrap ↑((BitVec.ofInt 32 (n32 a)) &&& (BitVec.ofInt 32 (n32 b))).toNat = _
  rw [ofInt_n32, ofInt_n32]; rfl
theorem or_n32 (a b : UInt32) : bits .or .u32 (n32 a) (n32 b) = n32 (a ||| b) := by
  rw [← wrap_n32 (a ||| b)]
  show IntKind.u32.wrap ↑((BitVec.ofInt 32 (n32 a)) ||| (BitVec.ofInt 32 (n32 b))).toNat = _
  rw [ofInt_n32, ofInt_n32]; rfl
theorem xor_n32 (a b : UInt32) : bits .xor .u32 (n32 a) (n32 b) = n32 (a ^^^ b) := by
  rw [← wrap_n32 (a ^^^ b)]
  show IntKind.u32.wrap ↑((BitVec.ofInt 32 (n32 a)) ^^^ (BitVec.ofInt 32 (n32 b))).toNat = _
  rw [ofInt_n32, ofInt_n32]; rfl

theorem wrap_u64 (n : Int) : IntKind.u64.wrap n = n % 18446744073709551616 := by simp [IntKind.wrap, IntKind.bits, IntKind.signed]
theorem n64_nonneg (a : UInt64) : 0 ≤ n64 a := by unfold n64; omega
theorem n64_lt (a : UInt64) : n64 a < 18446744073709551616 := by have := a.toNat_lt; unfold n64; omega
theorem n64_inj {a b : UInt64} : n64 a = n64 b ↔ a = b := by
  unfold n64
  constructor
  · intro h; exact UInt64.toNat_inj.1 (by omega)
  · rintro rfl; rfl
theorem ofInt_n64 (a : UInt64) : BitVec.ofInt 64 (n64 a) = a.toBitVec := by
  unfold n64; apply BitVec.eq_of_toNat_eq; simp
theorem wrap_n64 (a : UInt64) : IntKind.u64.wrap (n64 a) = n64 a := by
  have h0 := n64_nonneg a; have := n64_lt a; rw [wrap_u64]; omega
theorem add_n64 (a b : UInt64) : IntKind.u64.wrap (n64 a + n64 b) = n64 (a + b) := by
  rw [wrap_u64]; unfold n64; rw [UInt64.toNat_add]; omega
theorem add_n64' (a b : UInt64) : (n64 a + n64 b) % 18446744073709551616 = n64 (a + b) := by
  unfold n64; rw [UInt64.toNat_add]; omega
theorem sub_n64 (a b : UInt64) : IntKind.u64.wrap (n64 a - n64 b) = n64 (a - b) := by
  have := a.toNat_lt; have := b.toNat_lt
  rw [wrap_u64]; unfold n64; rw [UInt64.toNat_sub]; omega
theorem mul_n64 (a b : UInt64) : IntKind.u64.wrap (n64 a * n64 b) = n64 (a * b) := by
  rw [wrap_u64]; unfold n64; rw [UInt64.toNat_mul, ← Int.natCast_mul]; omega
theorem not_n64 (a : UInt64) : bits .xor .u64 IntKind.u64.max (n64 a) = n64 (~~~a) := by
  rw [← wrap_n64 (~~~a)]
  show IntKind.u64.wrap ↑((BitVec.ofInt 64 IntKind.u64.max) ^^^ (BitVec.ofInt 64 (n64 a))).toNat = _
  rw [ofInt_n64, show BitVec.ofInt 64 IntKind.u64.max = BitVec.allOnes 64 by decide, BitVec.allOnes_xor]; rfl
theorem shl_n64 (a : UInt64) (s : Nat) (hs : s < 64) : (n64 a * 2 ^ s) % 18446744073709551616 = n64 (a <<< UInt64.ofNat s) := by
  unfold n64
  rw [UInt64.toNat_shiftLeft, Nat.shiftLeft_eq, UInt64.toNat_ofNat', Nat.mod_eq_of_lt (b := 2 ^ 64) (Nat.lt_trans hs (by decide)), Nat.mod_eq_of_lt (b := 64) hs]
  have : ((2 ^ s : Nat) : Int) = 2 ^ s := by simp
  rw [← this, ← Int.natCast_mul]
  omega
theorem shr_n64 (a : UInt64) (s : Nat) (hs : s < 64) : n64 a / 2 ^ s = n64 (a >>> UInt64.ofNat s) := by
  unfold n64
  rw [UInt64.toNat_shiftRight, Nat.shiftRight_eq_div_pow, UInt64.toNat_ofNat', Nat.mod_eq_of_lt (b := 2 ^ 64) (Nat.lt_trans hs (by decide)), Nat.mod_eq_of_lt (b := 64) hs]
  have : ((2 ^ s : Nat) : Int) = 2 ^ s := by simp
  rw [← this]
  omega
theorem lit_n64 (n : Nat) (h : n < 18446744073709551616) : (n : Int) = n64 (UInt64.ofNat n) := by
  unfold n64; rw [UInt64.toNat_ofNat', Nat.mod_eq_of_lt (b := 2 ^ 64) h]

theorem and_n64 (a b : UInt64) : bits .and .u64 (n64 a) (n64 b) = n64 (a &&& b) := by
  rw [← wrap_n64 (a &&& b)]
  show IntKind.u64.wrap ↑((BitVec.ofInt 64 (n64 a)) &&& (BitVec.ofInt 64 (n64 b))).toNat = _
  rw [ofInt_n64, ofInt_n64]; rfl
theorem or_n64 (a b : UInt64) : bits .or .u64 (n64 a) (n64 b) = n64 (a ||| b) := by
  rw [← wrap_n64 (a ||| b)]
  show IntKind.u64.wrap ↑((BitVec.ofInt 64 (n64 a)) ||| (BitVec.ofInt 64 (n64 b))).toNat = _
  rw [ofInt_n64, ofInt_n64]; rfl
theorem xor_n64 (a b : UInt64) : bits .xor .u64 (n64 a) (n64 b) = n64 (a ^^^ b) := by
  rw [← wrap_n64 (a ^^^ b)]
  show IntKind.u64.wrap ↑((BitVec.ofInt 64 (n64 a)) ^^^ (BitVec.ofInt 64 (n64 b))).toNat = _
  rw [ofInt_n64, ofInt_n64]; rfl

theorem n32_of_n8 (a : UInt8) : n8 a = n32 a.toUInt32 := by unfold n8 n32; simp
theorem n64_of_n8 (a : UInt8) : n8 a = n64 a.toUInt64 := by unfold n8 n64; simp
theorem n8_of_n32 (a : UInt32) : IntKind.u8.wrap (n32 a) = n8 a.toUInt8 := by rw [wrap_u8]; unfold n8 n32; simp
theorem n8_of_n64 (a : UInt64) : IntKind.u8.wrap (n64 a) = n8 a.toUInt8 := by rw [wrap_u8]; unfold n8 n64; simp
theorem n64_of_n32 (a : UInt32) : n32 a = n64 a.toUInt64 := by unfold n32 n64; simp
end Go.Proofs.YtdpdmgbdipokdaaDoor
namespace Go.Proofs.YtdpdmgbdipokdaaDoor
open Go.RowKit

def cst : Value → Option AV
  | .int .u8 (.ofNat m) => match Nat.blt m 256 with
    | true => some (.u8 (UInt8.ofNat m))
    | false => none
  | .int .u32 (.ofNat m) => match Nat.blt m 4294967296 with
    | true => some (.u32 (UInt32.ofNat m))
    | false => none
  | .int .u64 (.ofNat m) => match Nat.blt m 18446744073709551616 with
    | true => some (.u64 (UInt64.ofNat m))
    | false => none
  | .int .i64 n => some (.i64 n)
  | .bool b => some (.bool b)
  | .string s => some (.str s.data.toList)
  | .slice none 0 0 => some .nilsl
  | v => some (.val v)
theorem blt_true {m n : Nat} (h : Nat.blt m n = true) : m < n := Nat.le_of_ble_eq_true h
theorem rel_cst (E : Emb) (v : Value) (u : AV) (hu : cst v = some u) : Rel E u v := by
  unfold cst at hu
  split at hu
  · rename_i m
    split at hu
    · rename_i h
      have := blt_true h
      have e := Rel.u8 (E := E) (UInt8.ofNat m)
      rw [UInt8.toNat_ofNat_of_lt' (by simpa using this)] at e
      injection hu with hu; subst hu; exact e
    · cases hu
  · rename_i m
    split at hu
    · rename_i h
      have := blt_true h
      have e := Rel.u32 (E := E) (UInt32.ofNat m)
      rw [UInt32.toNat_ofNat_of_lt' (by simpa using this)] at e
      injection hu with hu; subst hu; exact e
    · cases hu
  · rename_i m
    split at hu
    · rename_i h
      have := blt_true h
      have e := Rel.u64 (E := E) (UInt64.ofNat m)
      rw [UInt64.toNat_ofNat_of_lt' (by simpa using this)] at e
      injection hu with hu; subst hu; exact e
    · cases hu
  all_goals (injection hu with hu; subst hu)
  · exact .i64 _
  · exact .bool _
  · exact .str _
  · exact .nilsl
  · exact .val _
def aev (T : Nat → Option AV) : Operand → Option AV
  | .tmp t => T t
  | .const v => cst v
  | .global g => match Nat.blt g 400 with
    | true => some (.ptr g 0)
    | false => none
  | .func f => some (.val (.func (.func f) #[] #[]))

/-- What an operation does, whatever else the world holds: it yields v and gives the names U anew. -/
def OpSem (P : Program) (T : Nat → Option AV) (H : Hp) (o : Oper) (nm : Nat) (wr : Bool) (v : AV) (U : List (Nat × Option ABlk)) : Prop :=
  ∀ (E : Emb) (S : Nat → Prop) (n0 : Nat) (H2 : Hp) (a : Act) (w : World),
    (∀ k, n0 ≤ k → S k) → n0 ≤ w.heap.size → 1000 ≤ nm → (∀ g, g < 400 → ∃ s, E g = some (g, s)) → (wr = true → H2 = H) → (∀ b k, H b = some k → H2 b = some k) →
    (∀ x ∈ o.op.operands, ∀ u, aev T x = some u → Rel E u (a.eval x)) → RH E S H2 w → (∀ b, nm ≤ b → b < nm + 8 → E b = none) →
    ∀ (K : Act → World → Prop) (Q : Exit → Act → World → Prop),
      (∀ y w' E', (∀ b, (lk U b = none ∨ ¬ (nm ≤ b ∧ b < nm + 8)) → E' b = E b) → Emb.dx S E E' → Rel E' v y → RH E' S (upd U H2) w' → Fr S w w' → K (a.put o.dst y) w') → o.wp P a w K Q

section
variable {P : Program} {T : Nat → Option AV} {H : Hp} {o : Oper} {nm : Nat} {wr : Bool} {v u u1 u2 u3 : AV} {d : Option Tmp} {ty : TypeId} {ps : String} {af : Array Edge} {gd : Option (Nat × Bool)}
theorem OpSem.quiet (h : ∀ (E : Emb) (a : Act) (w : World), (∀ x ∈ o.op.operands, ∀ u, aev T x = some u → Rel E u (a.eval x)) → ∃ y, (execOp a.eval o).run P w = .ok (.value y) w ∧ Rel E v y) : OpSem P T H o nm wr v [] := by
  intro E S n0 H2 a w _ _ _ _ _ _ hop hR _ K Q hK
  obtain ⟨y, hy, hv⟩ := h E a w hop
  unfold Oper.wp
  rw [hy]
  exact hK y w E (fun _ _ => rfl) (Emb.dx_refl _ _) hv hR (Fr.refl _ _)
theorem OpSem.reads (h : ∀ (E : Emb) (S : Nat → Prop) (a : Act) (w : World), (∀ x ∈ o.op.operands, ∀ u, aev T x = some u → Rel E u (a.eval x)) → RH E S H w → ∃ y, (execOp a.eval o).run P w = .ok (.value y) w ∧ Rel E v y) : OpSem P T H o nm wr v [] := by
  intro E S n0 H2 a w _ _ _ _ _ hle hop hR _ K Q hK
  obtain ⟨y, hy, hv⟩ := h E S a w hop (hR.less hle)
  unfold Oper.wp
  rw [hy]
  exact hK y w E (fun _ _ => rfl) (Emb.dx_refl _ _) hv hR (Fr.refl _ _)
/-- One new block, under the name nm. -/
theorem OpSem.allocs {k : ABlk} (h : ∀ (E : Emb) (S : Nat → Prop) (a : Act) (w : World), (∀ x ∈ o.op.operands, ∀ u, aev T x = some u → Rel E u (a.eval x)) → RH E S H w →
      ∃ (y : Value) (arr : Array Value) (fz : Nat × Nat) (w1 : World), (execOp a.eval o).run P w = .ok (.value y) (w1.alloc (.cells arr k.elem fz)) ∧ w1.heap = w.heap ∧ w1.os = w.os ∧ w1.tape = w.tape ∧ w1.output = w.output ∧ DrOk w w1 ∧ Rel (E.put nm (w.heap.size, arr.size)) v y ∧
        FzOk k fz arr.size ∧ k.c.list.length ≤ arr.size ∧ (∀ (i : Nat) x, k.c.list[i]? = some x → x.one = true ∧ ∃ y, arr[i]? = some y ∧ Rel E x y)) (ho : k.own = true := by rfl) (hm : k.c.isMap = false := by first | rfl | assumption | exact AV.map_parts (by assumption)) : OpSem P T H o nm wr v [(nm, some k)] := by
  intro E S n0 H2 a w hS hn _ _ _ hle hop hR hf K Q hK
  obtain ⟨y, arr, fz, w1, hy, e1, e2, e3, e4, e5, hv, h1, h2, h3⟩ := h E S a w hop (hR.less hle)
  have hs : w1.heap.size = w.heap.size := by rw [e1]
  have hR1 : RH E S H2 w1 := hR.same fun l _ => by rw [e1]
  have hR2 := hR1.alloc (by rw [hs]; exact hS _ hn) (hf nm (Nat.le_refl _) (by omega)) k arr fz h1 h2 h3 ho hm
  unfold Oper.wp
  rw [hy]
  refine hK y _ (E.put nm (w.heap.size, arr.size)) (fun b hb => Emb.put_other _ _ (fun e => by
    subst e
    rcases hb with hb | hb
    · simp [lk] at hb
    · exact hb ⟨Nat.le_refl _, by omega⟩)) (Emb.dx_refl _ _) hv (by rw [hs] at hR2; exact hR2) ?_
  exact Fr.trans ⟨e2, e3, e4, by omega, fun k _ _ => by rw [e1], e5⟩ (Fr.alloc S w1 _)
theorem mem1 {x : Operand} : x ∈ #[x] := by simp
theorem mem21 {x y : Operand} : x ∈ #[x, y] := by simp
theorem mem22 {x y : Operand} : y ∈ #[x, y] := by simp
theorem op_move {x : Operand} (hx : aev T x = some v) : OpSem P T H ⟨d, .move x, ty, ps, af, gd⟩ nm wr v [] :=
  .quiet fun _ a _ h => ⟨a.eval x, rfl, h x mem1 v hx⟩
theorem op_assign {x : Operand} (hx : aev T x = some v) : OpSem P T H ⟨d, .assign x, ty, ps, af, gd⟩ nm wr v [] :=
  .quiet fun _ a _ h => ⟨a.eval x, rfl, h x mem1 v hx⟩
theorem op_pick_true {c x y : Operand} {b : Bool} (hc : aev T c = some (.bool b)) (hb : b = true) (hx : aev T x = some v) : OpSem P T H ⟨d, .pick c x y, ty, ps, af, gd⟩ nm wr v [] :=
  .quiet fun _ a _ h => by
    have e := (h c (by simp [Op.operands]) _ hc).bool_inv
    subst hb
    exact ⟨a.eval x, by simp [execOp, e, asBool], h x (by simp [Op.operands]) v hx⟩
theorem op_pick_false {c x y : Operand} {b : Bool} (hc : aev T c = some (.bool b)) (hb : b = false) (hy : aev T y = some v) : OpSem P T H ⟨d, .pick c x y, ty, ps, af, gd⟩ nm wr v [] :=
  .quiet fun _ a _ h => by
    have e := (h c (by simp [Op.operands]) _ hc).bool_inv
    subst hb
    exact ⟨a.eval y, by simp [execOp, e, asBool], h y (by simp [Op.operands]) v hy⟩
/-- A choice whose two sides are known, of one kind. -/
theorem op_pick_bool {c x y : Operand} {b b1 b2 : Bool} (hc : aev T c = some (.bool b)) (hx : aev T x = some (.bool b1)) (hy : aev T y = some (.bool b2)) : OpSem P T H ⟨d, .pick c x y, ty, ps, af, gd⟩ nm wr (.bool (if b then b1 else b2)) [] :=
  .quiet fun _ a _ h => by
    have e := (h c (by simp [Op.operands]) _ hc).bool_inv
    have e1 := (h x (by simp [Op.operands]) _ hx).bool_inv
    have e2 := (h y (by simp [Op.operands]) _ hy).bool_inv
    exact ⟨.bool (if b then b1 else b2), by cases b <;> simp [execOp, e, e1, e2, asBool], .bool _⟩
theorem op_bin {op : BinOp} {t t' : TypeId} {x y : Operand} (hx : aev T x = some u1) (hy : aev T y = some u2)
    (hb : ∀ (E : Emb) (y1 y2 : Value) (w : World), Rel E u1 y1 → Rel E u2 y2 → ∃ z, (do eqGuard op t x y y1 y2; binOp op t y1 y2 : Sem Value).run P w = .ok z w ∧ Rel E v z) :
    OpSem P T H ⟨d, .binOp op t x y t', ty, ps, af, gd⟩ nm wr v [] :=
  .quiet fun E a w h => by
    obtain ⟨z, hz, hr⟩ := hb E _ _ w (h x mem21 _ hx) (h y mem22 _ hy)
    refine ⟨z, ?_, hr⟩
    simp only [execOp, Sem.run_bind] at hz ⊢
    cases he : (eqGuard op t x y (a.eval x) (a.eval y)).run P w with
    | ok u w' =>
      rw [he] at hz
      simp only [Result.andThen_ok] at hz ⊢
      rw [hz]; rfl
    | halt h w' => rw [he] at hz; cases hz

def shiftBy : AV → Option Nat
  | .u8 x => some x.toNat
  | .u32 x => some x.toNat
  | .u64 x => some x.toNat
  | .i64 (.ofNat n) => some n
  | _ => none
theorem shiftBy_inv {E : Emb} {u : AV} {n : Nat} {y : Value} (h : shiftBy u = some n) (hr : Rel E u y) : ∃ k, y = .int k (n : Int) := by
  unfold shiftBy at h
  split at h
  · injection h with h; subst h; exact ⟨_, hr.u8_inv⟩
  · injection h with h; subst h; exact ⟨_, hr.u32_inv⟩
  · injection h with h; subst h; exact ⟨_, hr.u64_inv⟩
  · injection h with h; subst h; exact ⟨_, hr.i64_inv⟩
  · cases h

def bin8 (op : BinOp) (x y : UInt8) : Option AV := match op with
  | .add => some (.u8 (x + y))
  | .sub => some (.u8 (x - y))
  | .mul => some (.u8 (x * y))
  | .and => some (.u8 (x &&& y))
  | .or => some (.u8 (x ||| y))
  | .xor => some (.u8 (x ^^^ y))
  | .eql => some (.bool (x == y))
  | .neq => some (.bool (x != y))
  | .lss => some (.bool (decide (x < y)))
  | .leq => some (.bool (decide (x ≤ y)))
  | .gtr => some (.bool (decide (y < x)))
  | .geq => some (.bool (decide (y ≤ x)))
  | _ => none
theorem op_bin8 {op : BinOp} {t t' : TypeId} {x y : Operand} {a b : UInt8} (hx : aev T x = some (.u8 a)) (hy : aev T y = some (.u8 b)) (hv : bin8 op a b = some v) :
    OpSem P T H ⟨d, .binOp op t x y t', ty, ps, af, gd⟩ nm wr v [] :=
  op_bin hx hy fun E y1 y2 w h1 h2 => by
    rw [h1.u8_inv, h2.u8_inv]
    have hi : ((a.toNat : Int) == (b.toNat : Int)) = (a == b) := by
      rw [Bool.eq_iff_iff]; simp only [beq_iff_eq]; exact n8_inj (a := a) (b := b)
    cases op <;> simp only [bin8, Option.some.injEq, reduceCtorEq] at hv <;> subst hv
    · exact ⟨_, rfl, by have := add_n8 a b; unfold n8 at this; rw [this]; exact .u8 _⟩
    · exact ⟨_, rfl, by have := sub_n8 a b; unfold n8 at this; rw [this]; exact .u8 _⟩
    · exact ⟨_, rfl, by have := mul_n8 a b; unfold n8 at this; rw [this]; exact .u8 _⟩
    · exact ⟨.int .u8 (bits .and .u8 (n8 a) (n8 b)), rfl, by rw [and_n8]; exact .u8 _⟩
    · exact ⟨.int .u8 (bits .or .u8 (n8 a) (n8 b)), rfl, by rw [or_n8]; exact .u8 _⟩
    · exact ⟨.int .u8 (bits .xor .u8 (n8 a) (n8 b)), rfl, by rw [xor_n8]; exact .u8 _⟩
    · exact ⟨.bool ((a.toNat : Int) == (b.toNat : Int)), rfl, by rw [hi]; exact .bool _⟩
    · exact ⟨.bool ((a.toNat : Int) != (b.toNat : Int)), rfl, by unfold bne; rw [hi]; exact .bool _⟩
    · exact ⟨.bool (decide ((a.toNat : Int) < (b.toNat : Int))), rfl, by rw [show decide ((a.toNat : Int) < (b.toNat : Int)) = decide (a < b) by simp [UInt8.lt_iff_toNat_lt]]; exact .bool _⟩
    · exact ⟨.bool (decide ((a.toNat : Int) ≤ (b.toNat : Int))), rfl, by rw [show decide ((a.toNat : Int) ≤ (b.toNat : Int)) = decide (a ≤ b) by simp [UInt8.le_iff_toNat_le]]; exact .bool _⟩
    · exact ⟨.bool (decide ((a.toNat : Int) > (b.toNat : Int))), rfl, by rw [show decide ((a.toNat : Int) > (b.toNat : Int)) = decide (b < a) by simp [UInt8.lt_iff_toNat_lt]]; exact .bool _⟩
    · exact ⟨.bool (decide ((a.toNat : Int) ≥ (b.toNat : Int))), rfl, by rw [show decide ((a.toNat : Int) ≥ (b.toNat : Int)) = decide (b ≤ a) by simp [UInt8.le_iff_toNat_le]]; exact .bool _⟩
theorem op_quo8 {t t' : TypeId} {x y : Operand} {a b : UInt8} (hx : aev T x = some (.u8 a)) (hy : aev T y = some (.u8 b)) (hb : b ≠ 0) :
    OpSem P T H ⟨d, .binOp .quo t x y t', ty, ps, af, gd⟩ nm wr (.u8 (a / b)) [] :=
  op_bin hx hy fun E y1 y2 w h1 h2 => by
    rw [h1.u8_inv, h2.u8_inv]
    have hb' : b.toNat ≠ 0 := fun e => hb (UInt8.toNat_inj.1 (by simpa using e))
    have e : IntKind.u8.wrap ((a.toNat : Int).tdiv (b.toNat : Int)) = (((a / b).toNat : Nat) : Int) := by
      have h1 := a.toNat_lt
      have h2 : (a.toNat : Int) / (b.toNat : Int) ≤ (a.toNat : Int) := Int.ediv_le_self _ (by omega)
      have h3 : 0 ≤ (a.toNat : Int) / (b.toNat : Int) := Int.ediv_nonneg (by omega) (by omega)
      rw [wrap_u8, Int.tdiv_eq_ediv_of_nonneg (by omega), UInt8.toNat_div]
      simp only [Int.natCast_ediv]
      exact Int.emod_eq_of_lt h3 (by omega)
    refine ⟨.int .u8 (IntKind.u8.wrap ((a.toNat : Int).tdiv (b.toNat : Int))), ?_, by rw [e]; exact .u8 _⟩
    have hb2 : ¬ ((b.toNat : Int) = 0) := by omega
    simp only [eqGuard, binOp, Op.intDiv, if_neg hb2]
    rfl
theorem op_rem8 {t t' : TypeId} {x y : Operand} {a b : UInt8} (hx : aev T x = some (.u8 a)) (hy : aev T y = some (.u8 b)) (hb : b ≠ 0) :
    OpSem P T H ⟨d, .binOp .rem t x y t', ty, ps, af, gd⟩ nm wr (.u8 (a % b)) [] :=
  op_bin hx hy fun E y1 y2 w h1 h2 => by
    rw [h1.u8_inv, h2.u8_inv]
    have hb' : b.toNat ≠ 0 := fun e => hb (UInt8.toNat_inj.1 (by simpa using e))
    have e : (a.toNat : Int).tmod (b.toNat : Int) = (((a % b).toNat : Nat) : Int) := by
      rw [Int.tmod_eq_emod_of_nonneg (by omega), UInt8.toNat_mod]; simp
    refine ⟨.int .u8 ((a.toNat : Int).tmod (b.toNat : Int)), ?_, by rw [e]; exact .u8 _⟩
    have hb2 : ¬ ((b.toNat : Int) = 0) := by omega
    simp only [eqGuard, binOp, Op.intDiv, if_neg hb2]
    rfl
/-- A number that may stand behind a shift. -/
theorem op_shl8 {t t' : TypeId} {x y : Operand} {a : UInt8} {n : Nat} (hx : aev T x = some (.u8 a)) (hy : aev T y = some u2) (hn : shiftBy u2 = some n) (h64 : n < 8) :
    OpSem P T H ⟨d, .binOp .shl t x y t', ty, ps, af, gd⟩ nm wr (.u8 (a <<< UInt8.ofNat n)) [] :=
  op_bin hx hy fun E y1 y2 w h1 h2 => by
    obtain ⟨k, rfl⟩ := shiftBy_inv hn h2
    rw [h1.u8_inv]
    have e := shl_n8 a n h64
    unfold n8 at e
    refine ⟨.int .u8 (IntKind.u8.wrap ((a.toNat : Int) * 2 ^ n)), ?_, by rw [wrap_u8, e]; exact .u8 _⟩
    simp [eqGuard, binOp]
theorem op_shr8 {t t' : TypeId} {x y : Operand} {a : UInt8} {n : Nat} (hx : aev T x = some (.u8 a)) (hy : aev T y = some u2) (hn : shiftBy u2 = some n) (h64 : n < 8) :
    OpSem P T H ⟨d, .binOp .shr t x y t', ty, ps, af, gd⟩ nm wr (.u8 (a >>> UInt8.ofNat n)) [] :=
  op_bin hx hy fun E y1 y2 w h1 h2 => by
    obtain ⟨k, rfl⟩ := shiftBy_inv hn h2
    rw [h1.u8_inv]
    have e := shr_n8 a n h64
    unfold n8 at e
    have e2 : (a.toNat : Int).fdiv (2 ^ n) = (a.toNat : Int) / 2 ^ n := Int.fdiv_eq_ediv_of_nonneg _ (Int.le_of_lt (Int.pow_pos (by decide)))
    refine ⟨.int .u8 ((a.toNat : Int) / 2 ^ n), ?_, by rw [e]; exact .u8 _⟩
    simp [eqGuard, binOp]
theorem op_not8 {t : TypeId} {x : Operand} {a : UInt8} (hx : aev T x = some (.u8 a)) : OpSem P T H ⟨d, .unOp .xor t x, ty, ps, af, gd⟩ nm wr (.u8 (~~~a)) [] :=
  .quiet fun E ac w h => by
    have e := (h x mem1 _ hx).u8_inv
    refine ⟨.int .u8 (bits .xor .u8 IntKind.u8.max (n8 a)), ?_, by rw [not_n8]; exact .u8 _⟩
    simp only [execOp, e]
    rfl

def bin32 (op : BinOp) (x y : UInt32) : Option AV := match op with
  | .add => some (.u32 (x + y))
  | .sub => some (.u32 (x - y))
  | .mul => some (.u32 (x * y))
  | .and => some (.u32 (x &&& y))
  | .or => some (.u32 (x ||| y))
  | .xor => some (.u32 (x ^^^ y))
  | .eql => some (.bool (x == y))
  | .neq => some (.bool (x != y))
  | .lss => some (.bool (decide (x < y)))
  | .leq => some (.bool (decide (x ≤ y)))
  | .gtr => some (.bool (decide (y < x)))
  | .geq => some (.bool (decide (y ≤ x)))
  | _ => none
theorem op_bin32 {op : BinOp} {t t' : TypeId} {x y : Operand} {a b : UInt32} (hx : aev T x = some (.u32 a)) (hy : aev T y = some (.u32 b)) (hv : bin32 op a b = some v) :
    OpSem P T H ⟨d, .binOp op t x y t', ty, ps, af, gd⟩ nm wr v [] :=
  op_bin hx hy fun E y1 y2 w h1 h2 => by
    rw [h1.u32_inv, h2.u32_inv]
    have hi : ((a.toNat : Int) == (b.toNat : Int)) = (a == b) := by
      rw [Bool.eq_iff_iff]; simp only [beq_iff_eq]; exact n32_inj (a := a) (b := b)
    cases op <;> simp only [bin32, Option.some.injEq, reduceCtorEq] at hv <;> subst hv
    · exact ⟨_, rfl, by have := add_n32 a b; unfold n32 at this; rw [this]; exact .u32 _⟩
    · exact ⟨_, rfl, by have := sub_n32 a b; unfold n32 at this; rw [this]; exact .u32 _⟩
    · exact ⟨_, rfl, by have := mul_n32 a b; unfold n32 at this; rw [this]; exact .u32 _⟩
    · exact ⟨.int .u32 (bits .and .u32 (n32 a) (n32 b)), rfl, by rw [and_n32]; exact .u32 _⟩
    · exact ⟨.int .u32 (bits .or .u32 (n32 a) (n32 b)), rfl, by rw [or_n32]; exact .u32 _⟩
    · exact ⟨.int .u32 (bits .xor .u32 (n32 a) (n32 b)), rfl, by rw [xor_n32]; exact .u32 _⟩
    · exact ⟨.bool ((a.toNat : Int) == (b.toNat : Int)), rfl, by rw [hi]; exact .bool _⟩
    · exact ⟨.bool ((a.toNat : Int) != (b.toNat : Int)), rfl, by unfold bne; rw [hi]; exact .bool _⟩
    · exact ⟨.bool (decide ((a.toNat : Int) < (b.toNat : Int))), rfl, by rw [show decide ((a.toNat : Int) < (b.toNat : Int)) = decide (a < b) by simp [UInt32.lt_iff_toNat_lt]]; exact .bool _⟩
    · exact ⟨.bool (decide ((a.toNat : Int) ≤ (b.toNat : Int))), rfl, by rw [show decide ((a.toNat : Int) ≤ (b.toNat : Int)) = decide (a ≤ b) by simp [UInt32.le_iff_toNat_le]]; exact .bool _⟩
    · exact ⟨.bool (decide ((a.toNat : Int) > (b.toNat : Int))), rfl, by rw [show decide ((a.toNat : Int) > (b.toNat : Int)) = decide (b < a) by simp [UInt32.lt_iff_toNat_lt]]; exact .bool _⟩
    · exact ⟨.bool (decide ((a.toNat : Int) ≥ (b.toNat : Int))), rfl, by rw [show decide ((a.toNat : Int) ≥ (b.toNat : Int)) = decide (b ≤ a) by simp [UInt32.le_iff_toNat_le]]; exact .bool _⟩
theorem op_quo32 {t t' : TypeId} {x y : Operand} {a b : UInt32} (hx : aev T x = some (.u32 a)) (hy : aev T y = some (.u32 b)) (hb : b ≠ 0) :
    OpSem P T H ⟨d, .binOp .quo t x y t', ty, ps, af, gd⟩ nm wr (.u32 (a / b)) [] :=
  op_bin hx hy fun E y1 y2 w h1 h2 => by
    rw [h1.u32_inv, h2.u32_inv]
    have hb' : b.toNat ≠ 0 := fun e => hb (UInt32.toNat_inj.1 (by simpa using e))
    have e : IntKind.u32.wrap ((a.toNat : Int).tdiv (b.toNat : Int)) = (((a / b).toNat : Nat) : Int) := by
      have h1 := a.toNat_lt
      have h2 : (a.toNat : Int) / (b.toNat : Int) ≤ (a.toNat : Int) := Int.ediv_le_self _ (by omega)
      have h3 : 0 ≤ (a.toNat : Int) / (b.toNat : Int) := Int.ediv_nonneg (by omega) (by omega)
      rw [wrap_u32, Int.tdiv_eq_ediv_of_nonneg (by omega), UInt32.toNat_div]
      simp only [Int.natCast_ediv]
      exact Int.emod_eq_of_lt h3 (by omega)
    refine ⟨.int .u32 (IntKind.u32.wrap ((a.toNat : Int).tdiv (b.toNat : Int))), ?_, by rw [e]; exact .u32 _⟩
    have hb2 : ¬ ((b.toNat : Int) = 0) := by omega
    simp only [eqGuard, binOp, Op.intDiv, if_neg hb2]
    rfl
theorem op_rem32 {t t' : TypeId} {x y : Operand} {a b : UInt32} (hx : aev T x = some (.u32 a)) (hy : aev T y = some (.u32 b)) (hb : b ≠ 0) :
    OpSem P T H ⟨d, .binOp .rem t x y t', ty, ps, af, gd⟩ nm wr (.u32 (a % b)) [] :=
  op_bin hx hy fun E y1 y2 w h1 h2 => by
    rw [h1.u32_inv, h2.u32_inv]
    have hb' : b.toNat ≠ 0 := fun e => hb (UInt32.toNat_inj.1 (by simpa using e))
    have e : (a.toNat : Int).tmod (b.toNat : Int) = (((a % b).toNat : Nat) : Int) := by
      rw [Int.tmod_eq_emod_of_nonneg (by omega), UInt32.toNat_mod]; simp
    refine ⟨.int .u32 ((a.toNat : Int).tmod (b.toNat : Int)), ?_, by rw [e]; exact .u32 _⟩
    have hb2 : ¬ ((b.toNat : Int) = 0) := by omega
    simp only [eqGuard, binOp, Op.intDiv, if_neg hb2]
    rfl
/-- A number that may stand behind a shift. -/
theorem op_shl32 {t t' : TypeId} {x y : Operand} {a : UInt32} {n : Nat} (hx : aev T x = some (.u32 a)) (hy : aev T y = some u2) (hn : shiftBy u2 = some n) (h64 : n < 32) :
    OpSem P T H ⟨d, .binOp .shl t x y t', ty, ps, af, gd⟩ nm wr (.u32 (a <<< UInt32.ofNat n)) [] :=
  op_bin hx hy fun E y1 y2 w h1 h2 => by
    obtain ⟨k, rfl⟩ := shiftBy_inv hn h2
    rw [h1.u32_inv]
    have e := shl_n32 a n h64
    unfold n32 at e
    refine ⟨.int .u32 (IntKind.u32.wrap ((a.toNat : Int) * 2 ^ n)), ?_, by rw [wrap_u32, e]; exact .u32 _⟩
    simp [eqGuard, binOp]
theorem op_shr32 {t t' : TypeId} {x y : Operand} {a : UInt32} {n : Nat} (hx : aev T x = some (.u32 a)) (hy : aev T y = some u2) (hn : shiftBy u2 = some n) (h64 : n < 32) :
    OpSem P T H ⟨d, .binOp .shr t x y t', ty, ps, af, gd⟩ nm wr (.u32 (a >>> UInt32.ofNat n)) [] :=
  op_bin hx hy fun E y1 y2 w h1 h2 => by
    obtain ⟨k, rfl⟩ := shiftBy_inv hn h2
    rw [h1.u32_inv]
    have e := shr_n32 a n h64
    unfold n32 at e
    have e2 : (a.toNat : Int).fdiv (2 ^ n) = (a.toNat : Int) / 2 ^ n := Int.fdiv_eq_ediv_of_nonneg _ (Int.le_of_lt (Int.pow_pos (by decide)))
    refine ⟨.int .u32 ((a.toNat : Int) / 2 ^ n), ?_, by rw [e]; exact .u32 _⟩
    simp [eqGuard, binOp]
theorem op_not32 {t : TypeId} {x : Operand} {a : UInt32} (hx : aev T x = some (.u32 a)) : OpSem P T H ⟨d, .unOp .xor t x, ty, ps, af, gd⟩ nm wr (.u32 (~~~a)) [] :=
  .quiet fun E ac w h => by
    have e := (h x mem1 _ hx).u32_inv
    refine ⟨.int .u32 (bits .xor .u32 IntKind.u32.max (n32 a)), ?_, by rw [not_n32]; exact .u32 _⟩
    simp only [execOp, e]
    rfl

def bin64 (op : BinOp) (x y : UInt64) : Option AV := match op with
  | .add => some (.u64 (x + y))
  | .sub => some (.u64 (x - y))
  | .mul => some (.u64 (x * y))
  | .and => some (.u64 (x &&& y))
  | .or => some (.u64 (x ||| y))
  | .xor => some (.u64 (x ^^^ y))
  | .eql => some (.bool (x == y))
  | .neq => some (.bool (x != y))
  | .lss => some (.bool (decide (x < y)))
  | .leq => some (.bool (decide (x ≤ y)))
  | .gtr => some (.bool (decide (y < x)))
  | .geq => some (.bool (decide (y ≤ x)))
  | _ => none
theorem op_bin64 {op : BinOp} {t t' : TypeId} {x y : Operand} {a b : UInt64} (hx : aev T x = some (.u64 a)) (hy : aev T y = some (.u64 b)) (hv : bin64 op a b = some v) :
    OpSem P T H ⟨d, .binOp op t x y t', ty, ps, af, gd⟩ nm wr v [] :=
  op_bin hx hy fun E y1 y2 w h1 h2 => by
    rw [h1.u64_inv, h2.u64_inv]
    have hi : ((a.toNat : Int) == (b.toNat : Int)) = (a == b) := by
      rw [Bool.eq_iff_iff]; simp only [beq_iff_eq]; exact n64_inj (a := a) (b := b)
    cases op <;> simp only [bin64, Option.some.injEq, reduceCtorEq] at hv <;> subst hv
    · exact ⟨_, rfl, by have := add_n64 a b; unfold n64 at this; rw [this]; exact .u64 _⟩
    · exact ⟨_, rfl, by have := sub_n64 a b; unfold n64 at this; rw [this]; exact .u64 _⟩
    · exact ⟨_, rfl, by have := mul_n64 a b; unfold n64 at this; rw [this]; exact .u64 _⟩
    · exact ⟨.int .u64 (bits .and .u64 (n64 a) (n64 b)), rfl, by rw [and_n64]; exact .u64 _⟩
    · exact ⟨.int .u64 (bits .or .u64 (n64 a) (n64 b)), rfl, by rw [or_n64]; exact .u64 _⟩
    · exact ⟨.int .u64 (bits .xor .u64 (n64 a) (n64 b)), rfl, by rw [xor_n64]; exact .u64 _⟩
    · exact ⟨.bool ((a.toNat : Int) == (b.toNat : Int)), rfl, by rw [hi]; exact .bool _⟩
    · exact ⟨.bool ((a.toNat : Int) != (b.toNat : Int)), rfl, by unfold bne; rw [hi]; exact .bool _⟩
    · exact ⟨.bool (decide ((a.toNat : Int) < (b.toNat : Int))), rfl, by rw [show decide ((a.toNat : Int) < (b.toNat : Int)) = decide (a < b) by simp [UInt64.lt_iff_toNat_lt]]; exact .bool _⟩
    · exact ⟨.bool (decide ((a.toNat : Int) ≤ (b.toNat : Int))), rfl, by rw [show decide ((a.toNat : Int) ≤ (b.toNat : Int)) = decide (a ≤ b) by simp [UInt64.le_iff_toNat_le]]; exact .bool _⟩
    · exact ⟨.bool (decide ((a.toNat : Int) > (b.toNat : Int))), rfl, by rw [show decide ((a.toNat : Int) > (b.toNat : Int)) = decide (b < a) by simp [UInt64.lt_iff_toNat_lt]]; exact .bool _⟩
    · exact ⟨.bool (decide ((a.toNat : Int) ≥ (b.toNat : Int))), rfl, by rw [show decide ((a.toNat : Int) ≥ (b.toNat : Int)) = decide (b ≤ a) by simp [UInt64.le_iff_toNat_le]]; exact .bool _⟩
theorem op_quo64 {t t' : TypeId} {x y : Operand} {a b : UInt64} (hx : aev T x = some (.u64 a)) (hy : aev T y = some (.u64 b)) (hb : b ≠ 0) :
    OpSem P T H ⟨d, .binOp .quo t x y t', ty, ps, af, gd⟩ nm wr (.u64 (a / b)) [] :=
  op_bin hx hy fun E y1 y2 w h1 h2 => by
    rw [h1.u64_inv, h2.u64_inv]
    have hb' : b.toNat ≠ 0 := fun e => hb (UInt64.toNat_inj.1 (by simpa using e))
    have e : IntKind.u64.wrap ((a.toNat : Int).tdiv (b.toNat : Int)) = (((a / b).toNat : Nat) : Int) := by
      have h1 := a.toNat_lt
      have h2 : (a.toNat : Int) / (b.toNat : Int) ≤ (a.toNat : Int) := Int.ediv_le_self _ (by omega)
      have h3 : 0 ≤ (a.toNat : Int) / (b.toNat : Int) := Int.ediv_nonneg (by omega) (by omega)
      rw [wrap_u64, Int.tdiv_eq_ediv_of_nonneg (by omega), UInt64.toNat_div]
      simp only [Int.natCast_ediv]
      exact Int.emod_eq_of_lt h3 (by omega)
    refine ⟨.int .u64 (IntKind.u64.wrap ((a.toNat : Int).tdiv (b.toNat : Int))), ?_, by rw [e]; exact .u64 _⟩
    have hb2 : ¬ ((b.toNat : Int) = 0) := by omega
    simp only [eqGuard, binOp, Op.intDiv, if_neg hb2]
    rfl
theorem op_rem64 {t t' : TypeId} {x y : Operand} {a b : UInt64} (hx : aev T x = some (.u64 a)) (hy : aev T y = some (.u64 b)) (hb : b ≠ 0) :
    OpSem P T H ⟨d, .binOp .rem t x y t', ty, ps, af, gd⟩ nm wr (.u64 (a % b)) [] :=
  op_bin hx hy fun E y1 y2 w h1 h2 => by
    rw [h1.u64_inv, h2.u64_inv]
    have hb' : b.toNat ≠ 0 := fun e => hb (UInt64.toNat_inj.1 (by simpa using e))
    have e : (a.toNat : Int).tmod (b.toNat : Int) = (((a % b).toNat : Nat) : Int) := by
      rw [Int.tmod_eq_emod_of_nonneg (by omega), UInt64.toNat_mod]; simp
    refine ⟨.int .u64 ((a.toNat : Int).tmod (b.toNat : Int)), ?_, by rw [e]; exact .u64 _⟩
    have hb2 : ¬ ((b.toNat : Int) = 0) := by omega
    simp only [eqGuard, binOp, Op.intDiv, if_neg hb2]
    rfl
/-- A number that may stand behind a shift. -/
theorem op_shl64 {t t' : TypeId} {x y : Operand} {a : UInt64} {n : Nat} (hx : aev T x = some (.u64 a)) (hy : aev T y = some u2) (hn : shiftBy u2 = some n) (h64 : n < 64) :
    OpSem P T H ⟨d, .binOp .shl t x y t', ty, ps, af, gd⟩ nm wr (.u64 (a <<< UInt64.ofNat n)) [] :=
  op_bin hx hy fun E y1 y2 w h1 h2 => by
    obtain ⟨k, rfl⟩ := shiftBy_inv hn h2
    rw [h1.u64_inv]
    have e := shl_n64 a n h64
    unfold n64 at e
    refine ⟨.int .u64 (IntKind.u64.wrap ((a.toNat : Int) * 2 ^ n)), ?_, by rw [wrap_u64, e]; exact .u64 _⟩
    simp [eqGuard, binOp]
theorem op_shr64 {t t' : TypeId} {x y : Operand} {a : UInt64} {n : Nat} (hx : aev T x = some (.u64 a)) (hy : aev T y = some u2) (hn : shiftBy u2 = some n) (h64 : n < 64) :
    OpSem P T H ⟨d, .binOp .shr t x y t', ty, ps, af, gd⟩ nm wr (.u64 (a >>> UInt64.ofNat n)) [] :=
  op_bin hx hy fun E y1 y2 w h1 h2 => by
    obtain ⟨k, rfl⟩ := shiftBy_inv hn h2
    rw [h1.u64_inv]
    have e := shr_n64 a n h64
    unfold n64 at e
    have e2 : (a.toNat : Int).fdiv (2 ^ n) = (a.toNat : Int) / 2 ^ n := Int.fdiv_eq_ediv_of_nonneg _ (Int.le_of_lt (Int.pow_pos (by decide)))
    refine ⟨.int .u64 ((a.toNat : Int) / 2 ^ n), ?_, by rw [e]; exact .u64 _⟩
    simp [eqGuard, binOp]
theorem op_not64 {t : TypeId} {x : Operand} {a : UInt64} (hx : aev T x = some (.u64 a)) : OpSem P T H ⟨d, .unOp .xor t x, ty, ps, af, gd⟩ nm wr (.u64 (~~~a)) [] :=
  .quiet fun E ac w h => by
    have e := (h x mem1 _ hx).u64_inv
    refine ⟨.int .u64 (bits .xor .u64 IntKind.u64.max (n64 a)), ?_, by rw [not_n64]; exact .u64 _⟩
    simp only [execOp, e]
    rfl

def InI (x : Int) : Prop := -9223372036854775808 ≤ x ∧ x ≤ 9223372036854775807
theorem wrap_in {x : Int} (h : InI x) : IntKind.i64.wrap x = x := by
  unfold InI at h
  simp only [IntKind.wrap, IntKind.bits, IntKind.signed]
  simp
  split <;> omega
section
variable {t t' : TypeId} {x y : Operand} {a b : Int}
theorem op_addI (hx : aev T x = some (.i64 a)) (hy : aev T y = some (.i64 b)) (h : InI (a + b)) : OpSem P T H ⟨d, .binOp .add t x y t', ty, ps, af, gd⟩ nm wr (.i64 (a + b)) [] :=
  op_bin hx hy fun E y1 y2 w h1 h2 => by
    rw [h1.i64_inv, h2.i64_inv]
    exact ⟨_, rfl, by rw [wrap_in h]; exact .i64 _⟩
theorem op_subI (hx : aev T x = some (.i64 a)) (hy : aev T y = some (.i64 b)) (h : InI (a - b)) : OpSem P T H ⟨d, .binOp .sub t x y t', ty, ps, af, gd⟩ nm wr (.i64 (a - b)) [] :=
  op_bin hx hy fun E y1 y2 w h1 h2 => by
    rw [h1.i64_inv, h2.i64_inv]
    exact ⟨_, rfl, by rw [wrap_in h]; exact .i64 _⟩
theorem op_mulI (hx : aev T x = some (.i64 a)) (hy : aev T y = some (.i64 b)) (h : InI (a * b)) : OpSem P T H ⟨d, .binOp .mul t x y t', ty, ps, af, gd⟩ nm wr (.i64 (a * b)) [] :=
  op_bin hx hy fun E y1 y2 w h1 h2 => by
    rw [h1.i64_inv, h2.i64_inv]
    exact ⟨_, rfl, by rw [wrap_in h]; exact .i64 _⟩
theorem op_quoI (hx : aev T x = some (.i64 a)) (hy : aev T y = some (.i64 b)) (h : 0 ≤ a ∧ InI a ∧ 0 < b) : OpSem P T H ⟨d, .binOp .quo t x y t', ty, ps, af, gd⟩ nm wr (.i64 (a / b)) [] :=
  op_bin hx hy fun E y1 y2 w h1 h2 => by
    rw [h1.i64_inv, h2.i64_inv]
    refine ⟨.int .i64 (IntKind.i64.wrap (a.tdiv b)), ?_, ?_⟩
    · simp [eqGuard, binOp, Op.intDiv, show ¬ (b = 0) by omega]
    · have h3 : 0 ≤ a / b := Int.ediv_nonneg h.1 (by omega)
      have h4 : a / b ≤ a := Int.ediv_le_self _ h.1
      rw [Int.tdiv_eq_ediv_of_nonneg h.1, wrap_in ⟨by omega, by have := h.2.1.2; omega⟩]
      exact .i64 _
theorem op_remI (hx : aev T x = some (.i64 a)) (hy : aev T y = some (.i64 b)) (h : 0 ≤ a ∧ 0 < b) : OpSem P T H ⟨d, .binOp .rem t x y t', ty, ps, af, gd⟩ nm wr (.i64 (a % b)) [] :=
  op_bin hx hy fun E y1 y2 w h1 h2 => by
    rw [h1.i64_inv, h2.i64_inv]
    refine ⟨.int .i64 (a.tmod b), ?_, by rw [Int.tmod_eq_emod_of_nonneg h.1]; exact .i64 _⟩
    simp [eqGuard, binOp, Op.intDiv, show ¬ (b = 0) by omega]
theorem op_shlI {n : Nat} (hx : aev T x = some (.i64 a)) (hy : aev T y = some u2) (hn : shiftBy u2 = some n) (h : n < 64 ∧ InI (a * 2 ^ n)) : OpSem P T H ⟨d, .binOp .shl t x y t', ty, ps, af, gd⟩ nm wr (.i64 (a * 2 ^ n)) [] :=
  op_bin hx hy fun E y1 y2 w h1 h2 => by
    obtain ⟨k, rfl⟩ := shiftBy_inv hn h2
    rw [h1.i64_inv]
    refine ⟨.int .i64 (IntKind.i64.wrap (a * 2 ^ n)), ?_, by rw [wrap_in h.2]; exact .i64 _⟩
    simp [eqGuard, binOp]
theorem op_shrI {n : Nat} (hx : aev T x = some (.i64 a)) (hy : aev T y = some u2) (hn : shiftBy u2 = some n) (h : n < 64) : OpSem P T H ⟨d, .binOp .shr t x y t', ty, ps, af, gd⟩ nm wr (.i64 (a / 2 ^ n)) [] :=
  op_bin hx hy fun E y1 y2 w h1 h2 => by
    obtain ⟨k, rfl⟩ := shiftBy_inv hn h2
    rw [h1.i64_inv]
    have e2 : a.fdiv (2 ^ n) = a / 2 ^ n := Int.fdiv_eq_ediv_of_nonneg _ (Int.le_of_lt (Int.pow_pos (by decide)))
    refine ⟨.int .i64 (a / 2 ^ n), ?_, .i64 _⟩
    simp [eqGuard, binOp]
def cmpI (op : BinOp) (x y : Int) : Option AV := match op with
  | .eql => some (.bool (x == y))
  | .neq => some (.bool (x != y))
  | .lss => some (.bool (decide (x < y)))
  | .leq => some (.bool (decide (x ≤ y)))
  | .gtr => some (.bool (decide (y < x)))
  | .geq => some (.bool (decide (y ≤ x)))
  | _ => none
theorem op_cmpI {op : BinOp} (hx : aev T x = some (.i64 a)) (hy : aev T y = some (.i64 b)) (hv : cmpI op a b = some v) :
    OpSem P T H ⟨d, .binOp op t x y t', ty, ps, af, gd⟩ nm wr v [] :=
  op_bin hx hy fun E y1 y2 w h1 h2 => by
    rw [h1.i64_inv, h2.i64_inv]
    cases op <;> simp only [cmpI, Option.some.injEq, reduceCtorEq] at hv <;> subst hv <;> exact ⟨_, rfl, .bool _⟩
theorem op_andI {n m : Nat} (hx : aev T x = some (.i64 n)) (hy : aev T y = some (.i64 m)) (h : n ≤ 9223372036854775807 ∧ m ≤ 9223372036854775807) : OpSem P T H ⟨d, .binOp .and t x y t', ty, ps, af, gd⟩ nm wr (.i64 ((n &&& m : Nat) : Int)) [] :=
  op_bin hx hy fun E y1 y2 w h1 h2 => by
    rw [h1.i64_inv, h2.i64_inv]
    refine ⟨.int .i64 (IntKind.i64.wrap ((BitVec.ofInt 64 n &&& BitVec.ofInt 64 m).toNat : Int)), rfl, ?_⟩
    have e : (BitVec.ofInt 64 n &&& BitVec.ofInt 64 m).toNat = n &&& m := by
      rw [BitVec.toNat_and, BitVec.toNat_ofInt, BitVec.toNat_ofInt]
      congr 1 <;> omega
    have hle : n &&& m ≤ n := Nat.and_le_left
    rw [e, wrap_in ⟨by omega, by omega⟩]
    exact .i64 _
theorem op_eqB {op : BinOp} {p q : Bool} (hu : P.underlying t = some .bool) (hx : aev T x = some (.bool p)) (hy : aev T y = some (.bool q)) (hv : (match op with | .eql => some (AV.bool (p == q)) | .neq => some (.bool (p != q)) | _ => none) = some v) :
    OpSem P T H ⟨d, .binOp op t x y t', ty, ps, af, gd⟩ nm wr v [] :=
  op_bin hx hy fun E y1 y2 w h1 h2 => by
    rw [h1.bool_inv, h2.bool_inv]
    cases op <;> simp only [Option.some.injEq, reduceCtorEq] at hv <;> subst hv
    · refine ⟨.bool (p == q), ?_, .bool _⟩
      have e : (Op.equalIn 10000 t (.bool p) (.bool q)).run P w = .ok (p == q) w := run_equalIn_bool' w 9999 t p q hu
      simp [eqGuard, binOp, Op.equal, Op.maxDepth, e]
    · refine ⟨.bool (p != q), ?_, .bool _⟩
      have e : (Op.equalIn 10000 t (.bool p) (.bool q)).run P w = .ok (p == q) w := run_equalIn_bool' w 9999 t p q hu
      simp [eqGuard, binOp, Op.equal, Op.maxDepth, e, bne]
end
theorem op_negI {t : TypeId} {x : Operand} {a : Int} (hx : aev T x = some (.i64 a)) (h : InI (0 - a)) : OpSem P T H ⟨d, .unOp .neg t x, ty, ps, af, gd⟩ nm wr (.i64 (0 - a)) [] :=
  .quiet fun E ac w h' => by
    have e := (h' x mem1 _ hx).i64_inv
    exact ⟨.int .i64 (IntKind.i64.wrap (0 - a)), by simp only [execOp, e]; rfl, by rw [wrap_in h]; exact .i64 _⟩
theorem op_notB {t : TypeId} {x : Operand} {p : Bool} (hx : aev T x = some (.bool p)) : OpSem P T H ⟨d, .unOp .not t x, ty, ps, af, gd⟩ nm wr (.bool (!p)) [] :=
  .quiet fun E ac w h' => by
    have e := (h' x mem1 _ hx).bool_inv
    exact ⟨.bool (!p), by simp only [execOp, e]; rfl, .bool _⟩
end
end Go.Proofs.YtdpdmgbdipokdaaDoor
namespace Go.Proofs.YtdpdmgbdipokdaaDoor
open Go.RowKit

mutual
/-- The value with other names for its blocks. -/
def AV.ren (r : Nat → Nat) : AV → AV
  | .ptr b o => .ptr (r b) o
  | .sl b o n z => .sl (r b) o n z
  | .slk b o n c x => .slk (r b) o n c x
  | .agg cs => .agg (AV.renL r cs)
  | .tup cs => .tup (AV.renL r cs)
  | .ifc t v => .ifc t (v.ren r)
  | .clo f cs => .clo f (AV.renL r cs)
  | .err t e o => .err t e o
  | .u8 x => .u8 x
  | .u32 x => .u32 x
  | .u64 x => .u64 x
  | .i64 x => .i64 x
  | .bool x => .bool x
  | .str x => .str x
  | .nilsl => .nilsl
  | .aggB x => .aggB x
  | .agg32 x => .agg32 x
  | .agg64 x => .agg64 x
  | .aggI x => .aggI x
  | .aggS x => .aggS x
  | .aggT x => .aggT x
  | .aggD x => .aggD x
  | .val x => .val x
  | .hole => .hole
  | .dsl l => .dsl l
  | .dptr l => .dptr l
  | .fsl cs n z => .fsl cs n z
  | .fptr cs => .fptr cs
  | .mp b => .mp (r b)
  | .mapc ks vs bs clk => .mapc ks (AV.renL r vs) bs clk
  | .mapv l clk => .mapv l clk
  | .iter b si se la => .iter (r b) si se la
def AV.renL (r : Nat → Nat) : List AV → List AV
  | [] => []
  | x :: l => x.ren r :: AV.renL r l
end
mutual
def AV.names : AV → List Nat
  | .ptr b _ => [b]
  | .sl b _ _ _ => [b]
  | .slk b _ _ _ _ => [b]
  | .agg cs => AV.namesL cs
  | .tup cs => AV.namesL cs
  | .ifc _ v => v.names
  | .clo _ cs => AV.namesL cs
  | .mp b => [b]
  | .mapc _ vs _ _ => AV.namesL vs
  | .iter b _ _ _ => [b]
  | _ => []
def AV.namesL : List AV → List Nat
  | [] => []
  | x :: l => x.names ++ AV.namesL l
end
theorem renL_eq (r : Nat → Nat) (l : List AV) : AV.renL r l = l.map (AV.ren r) := by
  induction l with
  | nil => rfl
  | cons x l ih => simp [AV.renL, ih]
theorem names_mem {l : List AV} {x : AV} (hx : x ∈ l) : ∀ b ∈ x.names, b ∈ AV.namesL l := by
  induction l with
  | nil => cases hx
  | cons y l ih =>
    intro b hb
    simp only [AV.namesL, List.mem_append]
    rcases List.mem_cons.1 hx with rfl | h
    · exact .inl hb
    · exact .inr (ih h b hb)
theorem ren_cell (r : Nat → Nat) (x : AV) : (x.ren r).cell = x.cell := by cases x <;> rfl
theorem ren_one (r : Nat → Nat) (x : AV) : (x.ren r).one = x.one := by cases x <;> rfl
theorem parts_ren (r : Nat → Nat) {a : AV} {cs : List AV} (h : a.parts = some cs) : (a.ren r).parts = some (cs.map (AV.ren r)) := by
  cases a with
  | agg l => simp only [AV.parts, Option.some.injEq] at h; subst h; simp [AV.ren, AV.parts, renL_eq]
  | aggB l => simp only [AV.parts, Option.some.injEq] at h; subst h; simp [AV.ren, AV.parts]
  | agg32 l => simp only [AV.parts, Option.some.injEq] at h; subst h; simp [AV.ren, AV.parts]
  | agg64 l => simp only [AV.parts, Option.some.injEq] at h; subst h; simp [AV.ren, AV.parts]
  | aggI l => simp only [AV.parts, Option.some.injEq] at h; subst h; simp [AV.ren, AV.parts]
  | aggS l => simp only [AV.parts, Option.some.injEq] at h; subst h; simp [AV.ren, AV.parts]
  | aggT l => simp only [AV.parts, Option.some.injEq] at h; subst h; simp [AV.ren, AV.parts]
  | aggD l => simp only [AV.parts, Option.some.injEq] at h; subst h; simp [AV.ren, AV.parts]
  | _ => cases h
theorem parts_names {a : AV} {cs : List AV} (h : a.parts = some cs) {x : AV} (hx : x ∈ cs) : ∀ b ∈ x.names, b ∈ a.names := by
  cases a with
  | agg l => simp only [AV.parts, Option.some.injEq] at h; subst h; exact names_mem hx
  | aggB l => simp only [AV.parts, Option.some.injEq] at h; subst h; obtain ⟨y, _, rfl⟩ := List.mem_map.1 hx; intro b hb; cases hb
  | agg32 l => simp only [AV.parts, Option.some.injEq] at h; subst h; obtain ⟨y, _, rfl⟩ := List.mem_map.1 hx; intro b hb; cases hb
  | agg64 l => simp only [AV.parts, Option.some.injEq] at h; subst h; obtain ⟨y, _, rfl⟩ := List.mem_map.1 hx; intro b hb; cases hb
  | aggI l => simp only [AV.parts, Option.some.injEq] at h; subst h; obtain ⟨y, _, rfl⟩ := List.mem_map.1 hx; intro b hb; cases hb
  | aggS l => simp only [AV.parts, Option.some.injEq] at h; subst h; obtain ⟨y, _, rfl⟩ := List.mem_map.1 hx; intro b hb; cases hb
  | aggT l => simp only [AV.parts, Option.some.injEq] at h; subst h; obtain ⟨y, _, rfl⟩ := List.mem_map.1 hx; intro b hb; cases hb
  | aggD l => simp only [AV.parts, Option.some.injEq] at h; subst h; obtain ⟨y, _, rfl⟩ := List.mem_map.1 hx; intro b hb; cases hb
  | _ => cases h
theorem get_map_some {α β : Type} {f : α → β} {l : List α} {i : Nat} {x : β} (h : (l.map f)[i]? = some x) : ∃ y, l[i]? = some y ∧ x = f y := by
  rw [List.getElem?_map] at h
  cases hy : l[i]? with
  | none => rw [hy] at h; cases h
  | some y => rw [hy] at h; injection h with h; exact ⟨y, rfl, h.symm⟩
theorem still_ren {x : AV} (h : x.still = true) (r : Nat → Nat) : x.ren r = x := by cases x <;> first | rfl | cases h
theorem still_names {x : AV} (h : x.still = true) : x.names = [] := by cases x <;> first | rfl | cases h
theorem Rel.ren {E E' : Emb} {r : Nat → Nat} {a : AV} {y : Value} (h : Rel E a y) (hlow : (∀ b, b < 500 → ∀ p, E b = some p → E' b = some p) ∧ E.dle E') (hn : ∀ b ∈ a.names, ∀ p, E b = some p → E' (r b) = some p) : Rel E' (a.ren r) y := by
  induction h with
  | u8 x => exact .u8 x
  | u32 x => exact .u32 x
  | u64 x => exact .u64 x
  | i64 x => exact .i64 x
  | bool b => exact .bool b
  | str s => exact .str s
  | ptr b o l s h => exact .ptr _ o l s (hn b (by simp [AV.names]) _ h)
  | sl b o n z l s c h h1 h2 h3 => exact .sl _ o n z l s c (hn b (by simp [AV.names]) _ h) h1 h2 h3
  | sl0 b o z ad => exact .sl0 _ o z ad
  | slk b o n c c' l s x h h1 h2 h3 h4 h5 => exact .slk _ o n c c' l s x (hn b (by simp [AV.names]) _ h) h1 h2 h3 h4 h5
  | nilsl => exact .nilsl
  | agg a cs ds h1 h2 h3 _ ih =>
    refine .agg _ (cs.map (AV.ren r)) ds (parts_ren r h1) (by simpa using h2) (fun x hx => ?_) (fun i x y hx hy => ?_)
    · obtain ⟨z, hz, rfl⟩ := List.mem_map.1 hx; rw [ren_one]; exact h3 z hz
    · obtain ⟨z, hz, rfl⟩ := get_map_some hx
      exact ih i z y hz hy (fun b hb => hn b (parts_names h1 (List.mem_of_getElem? hz) b hb))
  | tup cs ds h2 _ ih =>
    simp only [AV.ren, renL_eq]
    refine .tup _ ds (by simpa using h2) (fun i x y hx hy => ?_)
    obtain ⟨z, hz, rfl⟩ := get_map_some hx
    exact ih i z y hz hy (fun b hb => hn b (by simp only [AV.names]; exact names_mem (List.mem_of_getElem? hz) b hb))
  | ifc t x y _ ih => exact .ifc t _ y (ih hn)
  | clo f cs ds h2 _ ih =>
    simp only [AV.ren, renL_eq]
    refine .clo f _ ds (by simpa using h2) (fun i x y hx hy => ?_)
    obtain ⟨z, hz, rfl⟩ := get_map_some hx
    exact ih i z y hz hy (fun b hb => hn b (by simp only [AV.names]; exact names_mem (List.mem_of_getElem? hz) b hb))
  | err0 t o => exact .err0 t o
  | errS t n o s h0 h => exact .errS t n o s h0 (hlow.1 _ (by omega) _ h)
  | val v => exact .val v
  | hole v => exact .hole v
  | dsl l L a o c s h h1 h2 h3 h4 => exact .dsl l L a o c s (hlow.2 _ _ h) h1 h2 h3 h4
  | dsl0 ad => exact .dsl0 ad
  | dptr l L a o s h h1 h2 => exact .dptr l L a o s (hlow.2 _ _ h) h1 h2
  | fsl cs n z L g a o c s h h0 h1 h2 _ h4 h5 h6 ih => exact .fsl cs n z L g a o c s (hlow.2 _ _ h) h0 h1 h2 (fun i x hx => by
      have := ih i x hx (fun b hb => by rw [still_names (h1 x (List.mem_of_getElem? hx))] at hb; cases hb)
      rwa [still_ren (h1 x (List.mem_of_getElem? hx))] at this) h4 h5 h6
  | fsl0 z ad => exact .fsl0 z ad
  | fptr cs L g a o s h h1 h2 _ h4 ih => exact .fptr cs L g a o s (hlow.2 _ _ h) h1 h2 (fun i x hx => by
      have := ih i x hx (fun b hb => by rw [still_names (h1 x (List.mem_of_getElem? hx))] at hb; cases hb)
      rwa [still_ren (h1 x (List.mem_of_getElem? hx))] at this) h4
  | mp b l h => exact .mp _ l (hn b (by simp [AV.names]) _ h)
theorem list_ren (r : Nat → Nat) (a : AV) : (a.ren r).list = a.list.map (AV.ren r) := by
  cases a <;> simp [AV.ren, AV.list, AV.parts, renL_eq]
theorem list_names {a : AV} {x : AV} (hx : x ∈ a.list) : ∀ b ∈ x.names, b ∈ a.names := by
  cases h : a.parts with
  | none => simp [AV.list, h] at hx
  | some cs => simp only [AV.list, h, Option.getD_some] at hx; exact parts_names h hx
theorem BAt.ren {E E' : Emb} {r : Nat → Nat} {k : ABlk} {w : World} {l s : Nat} (h : BAt E k w l s) (hlow : (∀ b, b < 500 → ∀ p, E b = some p → E' b = some p) ∧ E.dle E') (hn : ∀ b ∈ k.c.names, ∀ p, E b = some p → E' (r b) = some p) (ow : Bool) (how : ow = true → k.own = true) (hlo : k.own = true → ow = false → k.elem < frz) : BAt E' ⟨k.c.ren r, k.elem, ow⟩ w l s := by
  obtain ⟨arr, tq, fz, h1, h2, h3, h4, h5⟩ := h
  refine ⟨arr, tq, fz, h1, h2, ⟨⟨fun h => h3.1.w (how h), h3.1.z, fun h h' h'' => by
      cases hk : k.own with
      | true => exact absurd h' (Nat.not_le.2 (hlo hk h))
      | false => simpa [list_ren] using h3.1.f hk h' h''⟩, ?_⟩, by simpa [list_ren] using h4, fun i x hx => ?_⟩
  · rcases h3.2 with h | ⟨h, h'⟩ | h
    · exact .inl h
    · refine .inr (.inl ⟨h, ?_⟩)
      cases how2 : ow with
      | true => exact .inl rfl
      | false =>
        right
        rcases h' with h' | h'
        · exact hlo h' how2
        · exact h'
    · exact .inr (.inr h)
  simp only [list_ren] at hx
  obtain ⟨z, hz, rfl⟩ := get_map_some hx
  obtain ⟨h6, y, h7, h8⟩ := h5 i z hz
  exact ⟨by rw [ren_cell]; exact h6, y, h7, h8.ren hlow (fun b hb => hn b (list_names (List.mem_of_getElem? hz) b hb))⟩

theorem ents_ren (r : Nat → Nat) {c : AV} {ks : List Value} {vs : List AV} {bs : List Nat} {clk : Nat} (h : c.ents = some (ks, vs, bs, clk)) : (c.ren r).ents = some (ks, vs.map (AV.ren r), bs, clk) := by
  cases c with
  | mapc k v b q => simp only [AV.ents, Option.some.injEq, Prod.mk.injEq] at h; obtain ⟨rfl, rfl, rfl, rfl⟩ := h; simp [AV.ren, AV.ents, renL_eq]
  | mapv l q => simp only [AV.ents, Option.some.injEq, Prod.mk.injEq] at h; obtain ⟨rfl, rfl, rfl, rfl⟩ := h; simp [AV.ren, AV.ents]
  | _ => cases h
theorem ents_names {c : AV} {ks : List Value} {vs : List AV} {bs : List Nat} {clk : Nat} (h : c.ents = some (ks, vs, bs, clk)) {x : AV} (hx : x ∈ vs) : ∀ b ∈ x.names, b ∈ c.names := by
  cases c with
  | mapc k v b q => simp only [AV.ents, Option.some.injEq, Prod.mk.injEq] at h; obtain ⟨rfl, rfl, rfl, rfl⟩ := h; exact names_mem hx
  | mapv l q => simp only [AV.ents, Option.some.injEq, Prod.mk.injEq] at h; obtain ⟨rfl, rfl, rfl, rfl⟩ := h; obtain ⟨y, _, rfl⟩ := List.mem_map.1 hx; intro b hb; cases hb
  | _ => cases h
theorem ren_isMap (r : Nat → Nat) (c : AV) : (c.ren r).isMap = c.isMap := by cases c <;> rfl
theorem KAt.ren {E E' : Emb} {r : Nat → Nat} {k : ABlk} {w : World} {l s : Nat} (h : KAt E k w l s) (hlow : (∀ b, b < 500 → ∀ p, E b = some p → E' b = some p) ∧ E.dle E') (hn : ∀ b ∈ k.c.names, ∀ p, E b = some p → E' (r b) = some p) (ow : Bool) (how : ow = true → k.own = true) (hlo : k.own = true → ow = false → k.elem < frz) : KAt E' ⟨k.c.ren r, k.elem, ow⟩ w l s := by
  cases h with
  | map ks vs bs clk h1 h2 h3 =>
    obtain ⟨es, g1, g2, g3, g4, g5⟩ := h3
    refine .map ks _ bs clk (ents_ren r h1) h2 ⟨es, g1, g2, by simpa using g3, g4, fun i e he => ⟨(g5 i e he).1, (g5 i e he).2.1, ?_⟩⟩
    obtain ⟨x, q1, q2⟩ := (g5 i e he).2.2
    exact ⟨x.ren r, by rw [List.getElem?_map, q1]; rfl, q2.ren hlow fun b hb => hn b (ents_names h1 (List.mem_of_getElem? q1) b hb)⟩
  | iter b si se la h1 h2 h3 =>
    obtain ⟨lm, g1, g2⟩ := h3
    exact .iter (r b) si se la (by show k.c.ren r = _; rw [h1]; rfl) h2 ⟨lm, hn b (by rw [h1]; simp [AV.names]) _ g1, g2⟩
  | row h1 h2 => exact .row (by show (k.c.ren r).isMap = false; rw [ren_isMap]; exact h1) (h2.ren hlow hn ow how hlo)
structure St where
  T : List (Nat × AV)
  H : List (Nat × Option ABlk)
  nx : Nat
structure RS (E : Emb) (S : Nat → Prop) (n0 nt : Nat) (st : St) (a : Act) (w : World) : Prop where
  rt : ∀ t v, lk st.T t = some v → Rel E v (a.tmps.getD t undef)
  nt : a.tmps.size = nt
  df : a.defers = []
  rh : RH E S (hget st.H) w
  fr : ∀ b, st.nx ≤ b → E b = none
  gl : ∀ g, g < 400 → ∃ s, E g = some (g, s)
  hS : ∀ k, n0 ≤ k → S k
  h0 : n0 ≤ w.heap.size
theorem RS.aev {E : Emb} {S : Nat → Prop} {n0 nt : Nat} {st : St} {a : Act} {w : World} (h : RS E S n0 nt st a w) (x : Operand) (u : AV) (hx : aev (lk st.T) x = some u) : Rel E u (a.eval x) := by
  cases x with
  | tmp t => exact h.rt t u hx
  | const v => exact rel_cst E v u hx
  | global g =>
    simp only [Go.Proofs.YtdpdmgbdipokdaaDoor.aev] at hx
    split at hx
    · rename_i hg
      injection hx with hx; subst hx
      obtain ⟨s, hs⟩ := h.gl g (blt_true hg)
      exact .ptr g 0 g s hs
    · cases hx
  | func f => simp only [Go.Proofs.YtdpdmgbdipokdaaDoor.aev, Option.some.injEq] at hx; subst hx; exact .val _
/-- What is so when a piece of code has been left: in a way that post allows. -/
def Done (E : Emb) (S : Nat → Prop) (n0 nt : Nat) (post : Exit → St → Prop) (w : World) (e : Exit) (a' : Act) (w' : World) : Prop :=
  ∃ st' E', post e st' ∧ Emb.kp S E E' ∧ RS E' S n0 nt st' a' w' ∧ Fr S w w'
def Ev (P : Program) (nt : Nat) (c : Code) (st : St) (post : Exit → St → Prop) : Prop :=
  ∀ E S n0 a w, 1000 ≤ st.nx → RS E S n0 nt st a w → c.wp P (Done E S n0 nt (fun e st' => 1000 ≤ st'.nx ∧ post e st') w) a w
def EvL (P : Program) (nt : Nat) (ops l : List Oper) (st : St) (post : St → Prop) : Prop :=
  ∀ E S n0 a w (Q : Exit → Act → World → Prop), 1000 ≤ st.nx → RS E S n0 nt st a w →
    (∀ st' E' a' w', 1000 ≤ st'.nx → post st' → Emb.kp S E E' → RS E' S n0 nt st' a' w' → Fr S w w' → Q .normal a' w') → wpList P ops.toArray Q l a w

theorem Done.trans {E E1 : Emb} {S : Nat → Prop} {n0 nt : Nat} {post : Exit → St → Prop} {w w1 w2 : World} {e : Exit} {a : Act} (hE : Emb.kp S E E1) (hF : Fr S w w1) (h : Done E1 S n0 nt post w1 e a w2) : Done E S n0 nt post w e a w2 := by
  obtain ⟨st', E', h1, h2, h3, h4⟩ := h
  exact ⟨st', E', h1, hE.trans h2, h3, hF.trans h4⟩
section
variable {P : Program} {nt : Nat} {st : St} {post : Exit → St → Prop}
def thenA (nxt : St → Prop) (post : Exit → St → Prop) : Exit → St → Prop
  | .normal, st => nxt st
  | e, st => post e st
def inA (id : Nat) (post : Exit → St → Prop) : Exit → St → Prop
  | .exit id', st => if id' = id then post .normal st else post (.exit id') st
  | e, st => post e st
theorem Ev.mono {c : Code} {post' : Exit → St → Prop} (h : Ev P nt c st post) (hp : ∀ e st', post e st' → post' e st') : Ev P nt c st post' :=
  fun E S n0 a w hn hR => wp_mono (h E S n0 a w hn hR) fun _ _ _ ⟨st', E', h1, h2⟩ => ⟨st', E', ⟨h1.1, hp _ _ h1.2⟩, h2⟩
theorem Ev.seq {x y : Code} (h : Ev P nt x st (thenA (fun st' => Ev P nt y st' post) post)) : Ev P nt (.seq x y) st post := by
  intro E S n0 a w hn hR
  refine wp_seq (wp_mono (h E S n0 a w hn hR) fun e a' w' hD => ?_)
  obtain ⟨st', E', ⟨hn', h1⟩, h2, h3, h4⟩ := hD
  cases e with
  | normal => exact wp_mono (h1 E' S n0 a' w' hn' h3) fun e a'' w'' hD' => Done.trans h2 h4 hD'
  | _ => exact ⟨st', E', ⟨hn', h1⟩, h2, h3, h4⟩
theorem Ev.region {id : Nat} {l : List Oper} (h : EvL P nt l l st (post .normal)) : Ev P nt (.region id l.toArray false) st post := by
  intro E S n0 a w hn hR
  exact wp_region_lit (h E S n0 a w _ hn hR fun st' E' a' w' h1 h2 h3 h4 h5 => ⟨st', E', ⟨h1, h2⟩, h3, h4, h5⟩)
theorem Ev.cond_true {c : Operand} {x y : Code} {b : Bool} (hc : aev (lk st.T) c = some (.bool b)) (hb : b = true) (h : Ev P nt x st post) : Ev P nt (.cond c x y) st post :=
  fun E S n0 a w hn hR => wp_cond_true (by have := (hR.aev c _ hc).bool_inv; rw [this, hb]) (h E S n0 a w hn hR)
theorem Ev.cond_false {c : Operand} {x y : Code} {b : Bool} (hc : aev (lk st.T) c = some (.bool b)) (hb : b = false) (h : Ev P nt y st post) : Ev P nt (.cond c x y) st post :=
  fun E S n0 a w hn hR => wp_cond_false (by have := (hR.aev c _ hc).bool_inv; rw [this, hb]) (h E S n0 a w hn hR)
theorem Ev.cond {c : Operand} {x y : Code} {b : Bool} (hc : aev (lk st.T) c = some (.bool b)) (h1 : b = true → Ev P nt x st post) (h2 : b = false → Ev P nt y st post) : Ev P nt (.cond c x y) st post := by
  cases b with
  | true => exact .cond_true hc rfl (h1 rfl)
  | false => exact .cond_false hc rfl (h2 rfl)
theorem Ev.skip (h : post .normal st) : Ev P nt .skip st post := fun E _ _ _ _ hn hR => wp_skip ⟨st, E, ⟨hn, h⟩, Emb.kp_refl _ _, hR, Fr.refl _ _⟩
theorem Ev.exit {id : Nat} (h : post (.exit id) st) : Ev P nt (.exit id) st post := fun E _ _ _ _ hn hR => wp_exit ⟨st, E, ⟨hn, h⟩, Emb.kp_refl _ _, hR, Fr.refl _ _⟩
theorem Ev.ret (h : post .ret st) : Ev P nt .ret st post := fun E _ _ _ _ hn hR => wp_ret ⟨st, E, ⟨hn, h⟩, Emb.kp_refl _ _, hR, Fr.refl _ _⟩
theorem Ev.block {id : Nat} {c : Code} (h : Ev P nt c st (inA id post)) : Ev P nt (.block id c) st post := by
  intro E S n0 a w hn hR
  refine wp_block (wp_mono (h E S n0 a w hn hR) fun e a' w' hD => ?_)
  obtain ⟨st', E', ⟨hn', h1⟩, h2⟩ := hD
  cases e with
  | exit id' =>
    unfold Exit.inBlock
    unfold inA at h1
    by_cases e : id' = id
    · simp only [e, if_true] at h1 ⊢; exact ⟨st', E', ⟨hn', h1⟩, h2⟩
    · simp only [e, if_false] at h1 ⊢; exact ⟨st', E', ⟨hn', h1⟩, h2⟩
  | _ => exact ⟨st', E', ⟨hn', h1⟩, h2⟩
theorem wp_loop_ix {c : Code} {ι : Type} {Q : Exit → Act → World → Prop} (I : ι → Act → World → Prop) (μ : ι → Nat)
    (round : ∀ i a w, I i a w → c.wp P (Exit.then (fun a' w' => ∃ j, μ j < μ i ∧ I j a' w') Q) a w) (i : ι) (a : Act) (w : World) (h0 : I i a w) : (Code.loop c).wp P Q a w := by
  intro b k cs
  have key : ∀ n i a w, μ i = n → I i a w → ∃ e a' w', Q e a' w' ∧ Arrives P (lone (b.at a (.code c :: .inLoop c :: k)) cs w) b k cs e a' w' := by
    intro n
    induction n using Nat.strongRecOn with
    | _ n ih =>
      intro i a w hn hI
      obtain ⟨e, a1, w1, hq, harr⟩ := round i a w hI b (.inLoop c :: k) cs
      cases e with
      | normal =>
        obtain ⟨j, hlt, hj⟩ := hq
        obtain ⟨e2, a2, w2, hq2, harr2⟩ := ih (μ j) (hn ▸ hlt) j a1 w1 rfl hj
        exact ⟨e2, a2, w2, hq2, .of_steps (Steps.trans harr (.one step_inLoop)) harr2⟩
      | exit id => exact ⟨_, a1, w1, hq, .pass (x := .inLoop c) rfl (fun _ _ => .inl (by simp)) harr⟩
      | goto l => exact ⟨_, a1, w1, hq, .pass (x := .inLoop c) rfl (fun _ _ => .inl (by simp)) harr⟩
      | ret => exact ⟨_, a1, w1, hq, .pass (x := .inLoop c) rfl (fun _ _ => .inl (by simp)) harr⟩
      | panic ch => exact ⟨_, a1, w1, hq, .pass (x := .inLoop c) rfl (fun _ _ => .inl (by simp)) harr⟩
      | outgrown => exact ⟨_, a1, w1, hq, .pass (x := .inLoop c) rfl (fun _ _ => .inl (by simp)) harr⟩
  obtain ⟨e, a', w', hq, harr⟩ := key _ i a w rfl h0
  exact ⟨e, a', w', hq, .of_steps (.one step_loop) harr⟩
/-- What st says, st2 says in other names, or less. -/
def StLe (nt : Nat) (st st2 : St) : Prop := 1000 ≤ st2.nx ∧ ∀ E S n0 a w, RS E S n0 nt st a w → ∃ E2, Emb.kp S E E2 ∧ RS E2 S n0 nt st2 a w
theorem StLe.refl (h : 1000 ≤ st.nx) : StLe nt st st := ⟨h, fun E _ _ _ _ hR => ⟨E, Emb.kp_refl _ _, hR⟩⟩
theorem Ev.weak {c : Code} {st2 : St} (h : StLe nt st st2) (h2 : Ev P nt c st2 post) : Ev P nt c st post := by
  intro E S n0 a w _ hR
  obtain ⟨E2, hE, hR2⟩ := h.2 E S n0 a w hR
  exact wp_mono (h2 E2 S n0 a w h.1 hR2) fun e a' w' hD => Done.trans hE (Fr.refl _ _) hD
/-- A loop: at every round's head the state is one of I. -/
theorem Ev.loop {c : Code} {ι : Type} (I : ι → St) (μ : ι → Nat) (i0 : ι) (h0 : StLe nt st (I i0))
    (round : ∀ i, Ev P nt c (I i) (thenA (fun st' => ∃ j, μ j < μ i ∧ StLe nt st' (I j)) post)) : Ev P nt (.loop c) st post := by
  refine .weak h0 ?_
  intro E S n0 a w hn0 hR
  refine wp_loop_ix (fun i a' w' => 1000 ≤ (I i).nx ∧ ∃ E', Emb.kp S E E' ∧ RS E' S n0 nt (I i) a' w' ∧ Fr S w w') μ ?_ i0 a w ⟨hn0, E, Emb.kp_refl _ _, hR, Fr.refl _ _⟩
  rintro i a1 w1 ⟨hn1, E1, hE1, hR1, hF1⟩
  refine wp_mono (round i E1 S n0 a1 w1 hn1 hR1) fun e a' w' hD => ?_
  cases e with
  | normal =>
    obtain ⟨st', E', ⟨_, j, hj, hle⟩, h2, h3, h4⟩ := hD
    obtain ⟨E2, hE2, hR2⟩ := hle.2 E' S n0 a' w' h3
    exact ⟨j, hj, hle.1, E2, (hE1.trans h2).trans hE2, hR2, hF1.trans h4⟩
  | _ => exact Done.trans hE1 hF1 hD
/-- Old names to new ones, out of a list of pairs (new, old). -/
def back (L : List (Nat × Nat)) (b : Nat) : Nat := match Nat.blt b 1000 with
  | true => b
  | false => match lk (L.map fun p => (p.2, p.1)) b with
    | some c => c
    | none => 0
def nmOk (L : List (Nat × Nat)) : List Nat → Bool
  | [] => true
  | b :: r => (match Nat.blt b 1000 with
    | true => true
    | false => match lk L (back L b) with
      | some b' => Nat.beq b' b && Nat.ble 1000 (back L b)
      | none => false) && nmOk L r
def TLe (f : Nat → Option AV) (L : List (Nat × Nat)) : List (Nat × AV) → Prop
  | [] => True
  | (t, v2) :: r => (∃ v, f t = some v ∧ v.ren (back L) = v2 ∧ nmOk L v.names = true) ∧ TLe f L r
def src (L : List (Nat × Nat)) (c : Nat) : Option Nat := match Nat.blt c 1000 with
  | true => some c
  | false => lk L c
def HLe (F : Hp) (L : List (Nat × Nat)) : List (Nat × Option ABlk) → Prop
  | [] => True
  | (_, none) :: r => HLe F L r
  | (c, some k2) :: r => (∃ b k, src L c = some b ∧ F b = some k ∧ k.c.ren (back L) = k2.c ∧ ElemLe k k2 ∧ (k2.own = true → k.own = true) ∧ nmOk L k.c.names = true) ∧ HLe F L r
def LOk (L : List (Nat × Nat)) (nx : Nat) : Bool := L.all (fun p => Nat.ble 1000 p.1 && Nat.ble 1000 p.2 && Nat.blt p.1 nx) && decide (L.map Prod.snd).Nodup
theorem lk_mem {α : Type} {l : List (Nat × α)} {n : Nat} {v : α} (h : lk l n = some v) : (n, v) ∈ l := by
  induction l with
  | nil => cases h
  | cons p l ih =>
    obtain ⟨k, u⟩ := p
    simp only [lk] at h
    split at h
    · rename_i e; injection h with h; subst h; rw [Nat.eq_of_beq_eq_true e]; exact List.mem_cons_self
    · exact List.mem_cons_of_mem _ (ih h)
theorem hget_mem {l : List (Nat × Option ABlk)} {n : Nat} {k : ABlk} (h : hget l n = some k) : (n, some k) ∈ l := by
  simp only [hget, upd] at h
  cases hl : lk l n with
  | none => rw [hl] at h; cases h
  | some r => rw [hl] at h; subst h; exact lk_mem hl
theorem nmOk_spec {L : List (Nat × Nat)} {E : Emb} : ∀ {ns : List Nat}, nmOk L ns = true → ∀ b ∈ ns, ∀ p, E b = some p → (match src L (back L b) with | some c => E c | none => none) = some p
  | [], _, b, hb => by cases hb
  | n :: r, h, b, hb => by
    simp only [nmOk, Bool.and_eq_true] at h
    rcases List.mem_cons.1 hb with rfl | hb
    · intro p hp
      have h1 := h.1
      cases hlt : Nat.blt b 1000 with
      | true => simp only [back, hlt, src]; exact hp
      | false =>
        simp only [hlt] at h1
        cases hl : lk L (back L b) with
        | none => rw [hl] at h1; cases h1
        | some b' =>
          rw [hl] at h1
          simp only [Bool.and_eq_true] at h1
          have e := Nat.eq_of_beq_eq_true h1.1
          subst e
          have h2 : Nat.blt (back L b') 1000 = false := by
            have := Nat.le_of_ble_eq_true h1.2
            cases hq : Nat.blt (back L b') 1000 with
            | false => rfl
            | true => have := blt_true hq; omega
          simp only [src, h2, hl]
          exact hp
    · exact nmOk_spec h.2 b hb
theorem TLe.spec {f : Nat → Option AV} {L : List (Nat × Nat)} : ∀ {l : List (Nat × AV)}, TLe f L l → ∀ t v2, (t, v2) ∈ l → ∃ v, f t = some v ∧ v.ren (back L) = v2 ∧ nmOk L v.names = true
  | [], _, _, _, h => by cases h
  | (t', v') :: r, h, t, v2, hm => by
    rcases List.mem_cons.1 hm with e | hm
    · injection e with e1 e2; subst e1; subst e2; exact h.1
    · exact TLe.spec h.2 t v2 hm
theorem HLe.spec {F : Hp} {L : List (Nat × Nat)} : ∀ {l : List (Nat × Option ABlk)}, HLe F L l → ∀ c k2, (c, some k2) ∈ l →
    ∃ b k, src L c = some b ∧ F b = some k ∧ k.c.ren (back L) = k2.c ∧ ElemLe k k2 ∧ (k2.own = true → k.own = true) ∧ nmOk L k.c.names = true
  | [], _, _, _, h => by cases h
  | (c', none) :: r, h, c, k2, hm => by
    rcases List.mem_cons.1 hm with e | hm
    · injection e with _ e2; cases e2
    · exact HLe.spec (l := r) h c k2 hm
  | (c', some k') :: r, h, c, k2, hm => by
    rcases List.mem_cons.1 hm with e | hm
    · injection e with e1 e2; injection e2 with e2; subst e1; subst e2; exact h.1
    · exact HLe.spec h.2 c k2 hm
theorem lk_inj {L : List (Nat × Nat)} (h : (L.map Prod.snd).Nodup) {c c' b : Nat} (h1 : lk L c = some b) (h2 : lk L c' = some b) : c = c' := by
  induction L with
  | nil => cases h1
  | cons p L ih =>
    obtain ⟨k, u⟩ := p
    simp only [List.map_cons, List.nodup_cons] at h
    simp only [lk] at h1 h2
    split at h1
    · rename_i e1; injection h1 with h1; subst h1
      split at h2
      · rename_i e2; rw [← Nat.eq_of_beq_eq_true e1, ← Nat.eq_of_beq_eq_true e2]
      · exact absurd (List.mem_map.2 ⟨_, lk_mem h2, rfl⟩) h.1
    · split at h2
      · injection h2 with h2; subst h2
        exact absurd (List.mem_map.2 ⟨_, lk_mem h1, rfl⟩) h.1
      · exact ih h.2 h1 h2
/-- Less is said, in other names: L pairs the new names with the old ones. -/
theorem StLe.mk {st2 : St} (L : List (Nat × Nat)) (hL : LOk L st2.nx = true) (hn : Nat.ble 1000 st2.nx = true) (hT : TLe (lk st.T) L st2.T) (hH : HLe (hget st.H) L st2.H) : StLe nt st st2 := by
  simp only [LOk, Bool.and_eq_true, List.all_eq_true, decide_eq_true_eq] at hL
  obtain ⟨hL1, hL2⟩ := hL
  have hsrc : ∀ c b, src L c = some b → (c < 1000 ∧ b = c) ∨ (1000 ≤ c ∧ 1000 ≤ b ∧ lk L c = some b) := fun c b h => by
    unfold src at h
    split at h
    · rename_i e; injection h with h; exact .inl ⟨blt_true e, h.symm⟩
    · have := hL1 _ (lk_mem h)
      exact .inr ⟨Nat.le_of_ble_eq_true this.1.1, Nat.le_of_ble_eq_true this.1.2, h⟩
  refine ⟨Nat.le_of_ble_eq_true hn, fun E S n0 a w hR => ?_⟩
  have hlowE : (∀ b, b < 500 → ∀ p, E b = some p → (⟨fun c => match src L c with | some b => E b | none => none, E.d⟩ : Emb) b = some p) ∧ E.dle ⟨fun c => match src L c with | some b => E b | none => none, E.d⟩ := ⟨fun b hb p hp => by
    have h1 : Nat.blt b 1000 = true := Nat.ble_eq_true_of_le (by omega)
    simpa [src, h1] using hp, fun _ _ h => h⟩
  refine ⟨⟨fun c => match src L c with | some b => E b | none => none, E.d⟩, ⟨fun b hb => ?_, fun _ => .inl rfl⟩, ?_⟩
  · have : Nat.blt b 1000 = true := Nat.ble_eq_true_of_le hb
    simp [src, this]
  · refine ⟨fun t v2 h => ?_, hR.nt, hR.df, ⟨fun c k2 h => ?_, fun c c' k2 k2' l s s' h1 h2 h3 h4 h5 => ?_, fun c k2 l s h1 h2 h3 => ?_, fun a L' s ha => ⟨(hR.rh.deep a L' s ha).1, fun c k2 s' h1 h2 h3 => ?_⟩⟩, fun b hb => ?_, fun g hg => ?_, hR.hS, hR.h0⟩
    · obtain ⟨v, h1, rfl, h3⟩ := hT.spec t v2 (lk_mem h)
      exact (hR.rt t v h1).ren hlowE fun b hb p hp => nmOk_spec h3 b hb p hp
    · obtain ⟨b, k, h1, h2, h3, h4, h5, h6⟩ := hH.spec c k2 (hget_mem h)
      obtain ⟨l, s, h7, h8⟩ := hR.rh.blk b k h2
      refine ⟨l, s, by simp only [h1]; exact h7, ?_⟩
      have := h8.ren (E' := ⟨fun c => match src L c with | some b => E b | none => none, E.d⟩) (r := back L) hlowE (fun b hb p hp => nmOk_spec h6 b hb p hp) k2.own h5 h4.lose
      rw [h3, h4.elem] at this
      exact this
    · obtain ⟨b, k, g1, g2, _, _, g5, _⟩ := hH.spec c k2 (hget_mem h1)
      obtain ⟨b', k', g1', g2', _, _, _, _⟩ := hH.spec c' k2' (hget_mem h2)
      simp only [g1] at h4
      simp only [g1'] at h5
      have e := hR.rh.inj b b' k k' l s s' g2 g2' (g5 h3) h4 h5
      subst e
      rcases hsrc c b g1 with ⟨q1, q2⟩ | ⟨q1, q2, q3⟩ <;> rcases hsrc c' b g1' with ⟨r1, r2⟩ | ⟨r1, r2, r3⟩
      · omega
      · omega
      · omega
      · exact lk_inj hL2 q3 r3
    · obtain ⟨b, k, g1, g2, _, _, g5, _⟩ := hH.spec c k2 (hget_mem h1)
      simp only [g1] at h3
      exact hR.rh.own b k l s g2 (g5 h2) h3
    · obtain ⟨b, k, g1, g2, _, _, g5, _⟩ := hH.spec c k2 (hget_mem h1)
      simp only [g1] at h3
      exact (hR.rh.deep a L' s ha).2 b k s' g2 (g5 h2) h3
    · have h1 : Nat.blt b 1000 = false := by
        cases hq : Nat.blt b 1000 with
        | false => rfl
        | true => have := blt_true hq; have := Nat.le_of_ble_eq_true hn; omega
      have h2 : lk L b = none := by
        cases hl : lk L b with
        | none => rfl
        | some x => have := hL1 _ (lk_mem hl); have := blt_true this.2; simp only at this; omega
      simp [src, h1, h2]
    · have : Nat.blt g 1000 = true := Nat.ble_eq_true_of_le (by omega)
      simp only [src, this]
      exact hR.gl g hg

/-- A function called with these values, where these blocks are known, yields v, and these blocks are known then. -/
def Meets (P : Program) (f : FuncId) (args : List AV) (H0 : List (Nat × Option ABlk)) (v : AV) (H1 : List (Nat × Option ABlk)) : Prop :=
  ∀ (E : Emb) (S : Nat → Prop) (n0 : Nat) (vals : Array Value) (w : World), (∀ g, g < 400 → ∃ s, E g = some (g, s)) → (∀ b, 1000 ≤ b → E b = none) →
    args.length = vals.size → (∀ (i : Nat) x y, args[i]? = some x → vals[i]? = some y → Rel E x y) → RH E S (hget H0) w → (∀ k, n0 ≤ k → S k) → n0 ≤ w.heap.size →
    Calls P f vals w fun e w' => ∃ y E', e = .returned y ∧ Emb.kp S E E' ∧ Rel E' v y ∧ RH E' S (hget H1) w' ∧ Fr S w w'
def argT (i : Nat) : List AV → List (Nat × AV)
  | [] => []
  | x :: r => (i, x) :: argT (i + 1) r
theorem argT_spec : ∀ (l : List AV) (i t : Nat) (v : AV), lk (argT i l) t = some v → i ≤ t ∧ l[t - i]? = some v
  | [], _, _, _, h => by cases h
  | x :: r, i, t, v, h => by
    simp only [argT, lk] at h
    split at h
    · rename_i e; injection h with h; have := Nat.eq_of_beq_eq_true e; subst this; subst h; exact ⟨Nat.le_refl _, by simp⟩
    · obtain ⟨h1, h2⟩ := argT_spec r (i + 1) t v h
      refine ⟨by omega, ?_⟩
      rw [show t - i = (t - (i + 1)) + 1 by omega]
      simpa using h2
/-- What is returned. -/
def RetOk (P : Program) (fn : Func) (nt : Nat) (v : AV) (H1 : List (Nat × Option ABlk)) (e : Exit) (st : St) : Prop :=
  (e = .ret ∨ e = .normal) ∧ (∀ b k, hget H1 b = some k → hget st.H b = some k) ∧
    ∀ E S n0 a w, RS E S n0 nt st a w → ∃ y, (results fn a.tmps).run P w = .ok y w ∧ Rel E v y
theorem meets_of_ev {f : FuncId} {fn : Func} {c : Code} {args : List AV} {H0 H1 : List (Nat × Option ABlk)} {v : AV} (hf : P.funcs[f]? = some fn) (hb : fn.body = some c) (hnt : fn.ntmps = nt) (hle : args.length ≤ nt)
    (h : Ev P nt c ⟨argT 0 args, H0, 1000⟩ (RetOk P fn nt v H1)) : Meets P f args H0 v H1 := by
  intro E S n0 vals w hg hfr hl hr hH hS h0
  refine calls_of_wp hf hb (wp_mono (h E S n0 _ w (Nat.le_refl _) ⟨fun t u ht => ?_, ?_, rfl, hH, hfr, hg, hS, h0⟩) fun e a' w' hD => ?_)
  · obtain ⟨_, h2⟩ := argT_spec args 0 t u ht
    rw [Nat.sub_zero] at h2
    have hlt : t < vals.size := by rw [← hl]; exact (List.getElem?_eq_some_iff.1 h2).1
    have e : (vals ++ Array.replicate (fn.ntmps - vals.size) undef).getD t undef = vals[t] := by
      rw [Array.getD_eq_getD_getElem?, Array.getElem?_append_left hlt, Array.getElem?_eq_getElem hlt]; rfl
    show Rel E u ((vals ++ Array.replicate (fn.ntmps - vals.size) undef).getD t undef)
    rw [e]
    exact hr t u _ h2 (Array.getElem?_eq_getElem hlt)
  · show (vals ++ Array.replicate (fn.ntmps - vals.size) undef).size = nt
    simp only [Array.size_append, Array.size_replicate]; omega
  · obtain ⟨st', E', ⟨_, h1, h2, h3⟩, h4, h5, h6⟩ := hD
    obtain ⟨y, hy, hv⟩ := h3 E' S n0 a' w' h5
    have hB : bodyPost P fn (fun e w' => ∃ y E', e = .returned y ∧ Emb.kp S E E' ∧ Rel E' v y ∧ RH E' S (hget H1) w' ∧ Fr S w w') .ret a' w' :=
      ⟨h5.df, y, hy, y, E', rfl, h4, hv, h5.rh.less h2, h6⟩
    rcases h1 with rfl | rfl <;> exact hB
theorem ret1 {fn : Func} {t : Tmp} {v : AV} {H1 : List (Nat × Option ABlk)} {e : Exit} (hr : fn.results = #[.tmp t]) (he : e = .ret ∨ e = .normal) (hv : lk st.T t = some v) (hH : ∀ b k, hget H1 b = some k → hget st.H b = some k) : RetOk P fn nt v H1 e st :=
  ⟨he, hH, fun _ _ _ a w hR => ⟨_, results_tmp hr a.tmps P w, hR.rt t v hv⟩⟩
theorem ret2 {fn : Func} {t u : Tmp} {v1 v2 : AV} {H1 : List (Nat × Option ABlk)} {e : Exit} (hr : fn.results = #[.tmp t, .tmp u]) (he : e = .ret ∨ e = .normal) (hv : lk st.T t = some v1) (hu : lk st.T u = some v2) (hH : ∀ b k, hget H1 b = some k → hget st.H b = some k) : RetOk P fn nt (.tup [v1, v2]) H1 e st :=
  ⟨he, hH, fun _ _ _ a w hR => ⟨_, results_tmp2 hr a.tmps P w, .tup _ _ rfl fun i x y hx hy => by
    match i, hx, hy with
    | 0, hx, hy => simp at hx hy; subst hx; subst hy; have := hR.rt t v1 hv; simpa using this
    | 1, hx, hy => simp at hx hy; subst hx; subst hy; have := hR.rt u v2 hu; simpa using this
    | i + 2, hx, _ => simp at hx⟩⟩
/-- Known blocks, one by one. -/
def HSub (F : Hp) : List (Nat × Option ABlk) → Prop
  | [] => True
  | (_, none) :: r => HSub F r
  | (b, some k) :: r => F b = some k ∧ HSub F r
theorem HSub.spec {F : Hp} : ∀ {l : List (Nat × Option ABlk)}, HSub F l → ∀ b k, hget l b = some k → F b = some k := by
  intro l h b k hb
  have hm := hget_mem hb
  clear hb
  induction l with
  | nil => cases hm
  | cons p l ih =>
    obtain ⟨c, r⟩ := p
    cases r with
    | none =>
      rcases List.mem_cons.1 hm with e | hm
      · injection e with _ e2; cases e2
      · exact ih h hm
    | some k' =>
      rcases List.mem_cons.1 hm with e | hm
      · injection e with e1 e2; injection e2 with e2; subst e1; subst e2; exact h.1
      · exact ih h.2 hm
theorem hsub_nil {F : Hp} : ∀ b k, hget [] b = some k → F b = some k := fun _ _ h => by cases h

/-! Lists of operations, in the text's order. -/
theorem EvL.nil {ops : List Oper} {post : St → Prop} (h : post st) : EvL P nt ops [] st post :=
  fun E _ _ a w _ hn hR hQ => wpList_nil (hQ st E a w hn h (Emb.kp_refl _ _) hR (Fr.refl _ _))
theorem put_getD {a : Act} {d : Tmp} {y : Value} {t : Nat} (hd : d < a.tmps.size) : (a.put (some d) y).tmps.getD t undef = if d = t then y else a.tmps.getD t undef := by
  simp only [Act.put, Array.getD_eq_getD_getElem?, Array.getElem?_setIfInBounds]
  by_cases e : d = t
  · subst e; simp [hd]
  · simp [e]
theorem RS.put {E : Emb} {S : Nat → Prop} {n0 : Nat} {a : Act} {w : World} (h : RS E S n0 nt st a w) {d : Tmp} (hd : d < nt) {v : AV} {y : Value} (hv : Rel E v y) : RS E S n0 nt ⟨(d, v) :: st.T, st.H, st.nx⟩ (a.put (some d) y) w := by
  refine ⟨fun t u ht => ?_, ?_, h.df, h.rh, h.fr, h.gl, h.hS, h.h0⟩
  · rw [put_getD (by rw [h.nt]; exact hd)]
    simp only [lk] at ht
    split at ht
    · rename_i e; injection ht with ht; subst ht; rw [if_pos (Nat.eq_of_beq_eq_true e)]; exact hv
    · rename_i e
      rw [if_neg (fun h => by subst h; simp at e)]
      exact h.rt t u ht
  · simp [Act.put, h.nt]
theorem evl_step {ops rest : List Oper} {post : St → Prop} {o : Oper} {v : AV} {U : List (Nat × Option ABlk)} {wr : Bool} {d : Tmp} {T' : List (Nat × AV)} {nx' : Nat}
    (hw : ∀ (E : Emb) (S : Nat → Prop) (n0 : Nat) (a : Act) (w : World), RS E S n0 nt st a w → Region.wanted o (yielded ops.toArray a.tmps) = true)
    (hd : o.dst = some d ∧ T' = (d, v) :: st.T ∧ d < nt ∨ o.dst = none ∧ T' = st.T) (hnx : st.nx ≤ nx' ∧ ∀ b, nx' ≤ b → b < st.nx + 8 → lk U b = none)
    (h : OpSem P (lk st.T) (hget st.H) o st.nx wr v U) (hr : EvL P nt ops rest ⟨T', U ++ st.H, nx'⟩ post) : EvL P nt ops (o :: rest) st post := by
  intro E S n0 a w Q hn hR hQ
  unfold wpList
  rw [if_pos (hw E S n0 a w hR)]
  refine .inl ?_
  refine h E S n0 (hget st.H) a w hR.hS hR.h0 hn hR.gl (fun _ => rfl) (fun _ _ h => h) (fun x _ u hu => hR.aev x u hu) hR.rh (fun b hb _ => hR.fr b hb) _ _ fun y w' E' hE hX hv hH hF => ?_
  have hle : ∀ b p, E b = some p → E' b = some p := fun b p hp => by
    rw [hE b (.inr (fun hb => by rw [hR.fr b hb.1] at hp; cases hp))]; exact hp
  have base : RS E' S n0 nt ⟨st.T, U ++ st.H, nx'⟩ a w' := by
    refine ⟨fun t u ht => (hR.rt t u ht).mono ⟨hle, hX.dle⟩, hR.nt, hR.df, by rw [← upd_hget]; exact hH, fun b hb => ?_, fun g hg => (hR.gl g hg).imp fun s hs => hle _ _ hs, hR.hS, Nat.le_trans hR.h0 hF.size⟩
    have hb' : nx' ≤ b := hb
    by_cases hq : b < st.nx + 8
    · rw [hE b (.inl (hnx.2 b hb' hq))]; exact hR.fr b (by omega)
    · rw [hE b (.inr (by omega))]; exact hR.fr b (by omega)
  have hR' : RS E' S n0 nt ⟨T', U ++ st.H, nx'⟩ (a.put o.dst y) w' := by
    rcases hd with ⟨e, rfl, hlt⟩ | ⟨e, rfl⟩
    · rw [e]; exact base.put hlt hv
    · rw [e]; exact base
  have hlow : ∀ b, b < 1000 → E' b = E b := fun b hb => hE b (.inr (by omega))
  exact hr E' S n0 (a.put o.dst y) w' Q (Nat.le_trans hn hnx.1) hR' fun st' E'' a'' w'' h1 h2 h3 h4 h5 => hQ st' E'' a'' w'' h1 h2 (Emb.kp.trans ⟨hlow, hX⟩ h3) h4 (hF.trans h5)
section
variable {ops rest : List Oper} {post : St → Prop} {op : Op} {v : AV} {wr : Bool} {d : Tmp} {ty : TypeId} {ps : String} {af : Array Edge} {U : List (Nat × Option ABlk)} {gd : Option (Nat × Bool)}
/-- Is the operation wanted: its guard, as it is known. -/
def Wants (ops : List Oper) (T : List (Nat × AV)) : Option (Nat × Bool) → Prop
  | none => True
  | some (j, want) => ∃ g, (ops[j]?).bind (·.dst) = some g ∧ lk T g = some (.bool want)
def WantsNo (ops : List Oper) (T : List (Nat × AV)) : Option (Nat × Bool) → Prop
  | none => False
  | some (j, want) => ∃ g, (ops[j]?).bind (·.dst) = some g ∧ lk T g = some (.bool (!want))
theorem yielded_of {a : Act} {E : Emb} {S : Nat → Prop} {n0 : Nat} {w : World} (hR : RS E S n0 nt st a w) {j g : Nat} {b : Bool} (h1 : (ops[j]?).bind (·.dst) = some g) (h2 : lk st.T g = some (.bool b)) : yielded ops.toArray a.tmps j = some b := by
  have h3 := (hR.rt g _ h2).bool_inv
  have h4 : a.tmps[g]? = some (.bool b) := by
    rw [Array.getD_eq_getD_getElem?] at h3
    cases hq : a.tmps[g]? with
    | none => rw [hq] at h3; cases h3
    | some y => rw [hq] at h3; simp at h3; rw [h3]
  unfold yielded
  rw [List.getElem?_toArray, h1]
  simp [h4]
theorem Wants.ok {o : Oper} (h : Wants ops st.T o.guard) (E : Emb) (S : Nat → Prop) (n0 : Nat) (a : Act) (w : World) (hR : RS E S n0 nt st a w) : Region.wanted o (yielded ops.toArray a.tmps) = true := by
  unfold Region.wanted
  unfold Wants at h
  split
  · rfl
  · rename_i j want hg
    rw [hg] at h
    obtain ⟨g, h1, h2⟩ := h
    rw [yielded_of hR h1 h2]; simp
theorem WantsNo.ok {o : Oper} (h : WantsNo ops st.T o.guard) (E : Emb) (S : Nat → Prop) (n0 : Nat) (a : Act) (w : World) (hR : RS E S n0 nt st a w) : Region.wanted o (yielded ops.toArray a.tmps) = false := by
  unfold Region.wanted
  unfold WantsNo at h
  split
  · rename_i hg; rw [hg] at h; exact h.elim
  · rename_i j want hg
    rw [hg] at h
    obtain ⟨g, h1, h2⟩ := h
    rw [yielded_of hR h1 h2]; simp
/-- An operation that makes no block. -/
theorem EvL.q (h : OpSem P (lk st.T) (hget st.H) ⟨some d, op, ty, ps, af, gd⟩ st.nx true v []) (hg : Wants ops st.T gd) (hd : Nat.blt d nt = true) (hr : EvL P nt ops rest ⟨(d, v) :: st.T, st.H, st.nx⟩ post) :
    EvL P nt ops (⟨some d, op, ty, ps, af, gd⟩ :: rest) st post :=
  evl_step (Wants.ok hg) (.inl ⟨rfl, rfl, blt_true hd⟩) ⟨Nat.le_refl _, fun _ _ _ => rfl⟩ h hr
/-- An operation that writes, and yields nothing. -/
theorem EvL.w (h : OpSem P (lk st.T) (hget st.H) ⟨none, op, ty, ps, af, gd⟩ st.nx true v U) (hg : Wants ops st.T gd) (hU : (U.all fun p => Nat.blt p.1 st.nx) = true) (hr : EvL P nt ops rest ⟨st.T, U ++ st.H, st.nx⟩ post) :
    EvL P nt ops (⟨none, op, ty, ps, af, gd⟩ :: rest) st post :=
  evl_step (d := 0) (Wants.ok hg) (.inr ⟨rfl, rfl⟩) ⟨Nat.le_refl _, fun b h1 _ => by
    cases hl : lk U b with
    | none => rfl
    | some r => have := blt_true (List.all_eq_true.1 hU _ (lk_mem hl)); simp only at this; omega⟩ h hr
/-- An operation that makes blocks. -/
theorem EvL.a (h : OpSem P (lk st.T) (hget st.H) ⟨some d, op, ty, ps, af, gd⟩ st.nx true v U) (hg : Wants ops st.T gd) (hd : Nat.blt d nt = true) (hr : EvL P nt ops rest ⟨(d, v) :: st.T, U ++ st.H, st.nx + 8⟩ post) :
    EvL P nt ops (⟨some d, op, ty, ps, af, gd⟩ :: rest) st post :=
  evl_step (Wants.ok hg) (.inl ⟨rfl, rfl, blt_true hd⟩) ⟨Nat.le_add_right _ _, fun b h1 h2 => by omega⟩ h hr
/-- The same where the guard's operation was not made. -/
def WantsU (ops : List Oper) (T : List (Nat × AV)) : Option (Nat × Bool) → Prop
  | none => False
  | some (j, _) => ∃ g, (ops[j]?).bind (·.dst) = some g ∧ lk T g = some (.val undef)
theorem WantsU.ok {o : Oper} (h : WantsU ops st.T o.guard) (E : Emb) (S : Nat → Prop) (n0 : Nat) (a : Act) (w : World) (hR : RS E S n0 nt st a w) : Region.wanted o (yielded ops.toArray a.tmps) = false := by
  unfold Region.wanted
  unfold WantsU at h
  split
  · rename_i hg; rw [hg] at h; exact h.elim
  · rename_i j want hg
    rw [hg] at h
    obtain ⟨g, h1, h2⟩ := h
    have h3 := (hR.rt g _ h2).val_inv
    have : yielded ops.toArray a.tmps j = none := by
      unfold yielded
      rw [List.getElem?_toArray, h1]
      rw [Array.getD_eq_getD_getElem?] at h3
      cases hq : a.tmps[g]? with
      | none => simp [hq]
      | some y => rw [hq] at h3; simp at h3; subst h3; simp [hq, undef]
    rw [this]; rfl
theorem EvL.noU (hg : WantsU ops st.T gd) (hd : Nat.blt d nt = true) (hr : EvL P nt ops rest ⟨(d, .val undef) :: st.T, st.H, st.nx⟩ post) :
    EvL P nt ops (⟨some d, op, ty, ps, af, gd⟩ :: rest) st post := by
  intro E S n0 a w Q hn hR hQ
  unfold wpList
  rw [if_neg (by rw [hg.ok E S n0 a w hR]; simp)]
  exact hr E S n0 _ w Q hn (hR.put (blt_true hd) (.val _)) hQ
/-- An operation whose guard says no. -/
theorem EvL.no (hg : WantsNo ops st.T gd) (hd : Nat.blt d nt = true) (hr : EvL P nt ops rest ⟨(d, .val undef) :: st.T, st.H, st.nx⟩ post) :
    EvL P nt ops (⟨some d, op, ty, ps, af, gd⟩ :: rest) st post := by
  intro E S n0 a w Q hn hR hQ
  unfold wpList
  rw [if_neg (by rw [hg.ok E S n0 a w hR]; simp)]
  exact hr E S n0 _ w Q hn (hR.put (blt_true hd) (.val _)) hQ
end
end
end Go.Proofs.YtdpdmgbdipokdaaDoor
namespace Go.Proofs.YtdpdmgbdipokdaaDoor
open Go.RowKit

def AV.len : AV → Nat
  | .agg cs => cs.length
  | .aggB l => l.length
  | .agg32 l => l.length
  | .agg64 l => l.length
  | .aggI l => l.length
  | .aggS l => l.length
  | .aggT l => l.length
  | .aggD l => l.length
  | _ => 0
theorem map_lt {c : AV} {o : Nat} (h : o < c.len) : c.isMap = false := by cases c <;> first | rfl | (simp [AV.len] at h)
theorem len_list (a : AV) : a.list.length = a.len := by cases a <;> simp [AV.list, AV.parts, AV.len]
def AV.nth : AV → Nat → Option AV
  | .agg cs, i => cs[i]?
  | .aggB l, i => some (.u8 (l.getD i 0))
  | .agg32 l, i => some (.u32 (l.getD i 0))
  | .agg64 l, i => some (.u64 (l.getD i 0))
  | .aggI l, i => some (.i64 (l.getD i 0))
  | .aggS l, i => some (.str (l.getD i []))
  | .aggT l, i => some (.bool (l.getD i false))
  | .aggD l, i => some (.dsl (l.getD i []))
  | _, _ => none
theorem map_nth {α : Type} {f : α → AV} {l : List α} {z : α} {i : Nat} (h : i < l.length) : (l.map f)[i]? = some (f (l.getD i z)) := by
  simp [List.getD_eq_getElem?_getD, h]
theorem nth_list {a : AV} {i : Nat} {v : AV} (h : a.nth i = some v) (hi : i < a.len) : a.list[i]? = some v := by
  cases a with
  | agg cs => exact h
  | aggB l => simp only [AV.nth, Option.some.injEq] at h; subst h; exact map_nth hi
  | agg32 l => simp only [AV.nth, Option.some.injEq] at h; subst h; exact map_nth hi
  | agg64 l => simp only [AV.nth, Option.some.injEq] at h; subst h; exact map_nth hi
  | aggI l => simp only [AV.nth, Option.some.injEq] at h; subst h; exact map_nth hi
  | aggS l => simp only [AV.nth, Option.some.injEq] at h; subst h; exact map_nth hi
  | aggT l => simp only [AV.nth, Option.some.injEq] at h; subst h; exact map_nth hi
  | aggD l => simp only [AV.nth, Option.some.injEq] at h; subst h; exact map_nth hi
  | _ => cases h
/-- The row with one cell replaced. -/
def AV.put : AV → Nat → AV → Option AV
  | .agg cs, i, v => match v.one with
    | true => some (.agg (cs.set i v))
    | false => none
  | .aggB l, i, .u8 x => some (.aggB (l.set i x))
  | .agg32 l, i, .u32 x => some (.agg32 (l.set i x))
  | .agg64 l, i, .u64 x => some (.agg64 (l.set i x))
  | .aggI l, i, .i64 x => some (.aggI (l.set i x))
  | .aggS l, i, .str x => some (.aggS (l.set i x))
  | .aggT l, i, .bool x => some (.aggT (l.set i x))
  | .aggD l, i, .dsl x => some (.aggD (l.set i x))
  | _, _, _ => none
theorem put_list {a a' v : AV} {i : Nat} (h : a.put i v = some a') : a'.list = a.list.set i v ∧ v.one = true ∧ a'.len = a.len := by
  unfold AV.put at h
  split at h
  · split at h
    · rename_i e; injection h with h; subst h; exact ⟨rfl, e, by simp [AV.len]⟩
    · cases h
  all_goals first
    | (injection h with h; subst h; exact ⟨by simp [AV.list, AV.parts, List.map_set], rfl, by simp [AV.len]⟩)
    | cases h
/-- Two rows, one behind the other. -/
def AV.cat : AV → AV → Option AV
  | .agg l, .agg m => some (.agg (l ++ m))
  | .aggB l, .aggB m => some (.aggB (l ++ m))
  | .agg32 l, .agg32 m => some (.agg32 (l ++ m))
  | .agg64 l, .agg64 m => some (.agg64 (l ++ m))
  | .aggI l, .aggI m => some (.aggI (l ++ m))
  | .aggS l, .aggS m => some (.aggS (l ++ m))
  | .aggT l, .aggT m => some (.aggT (l ++ m))
  | .aggD l, .aggD m => some (.aggD (l ++ m))
  | _, _ => none
theorem cat_map {a b c : AV} (h : a.cat b = some c) : a.isMap = false ∧ b.isMap = false ∧ c.isMap = false := by
  unfold AV.cat at h
  split at h <;> first | (injection h with h; subst h; exact ⟨rfl, rfl, rfl⟩) | cases h
theorem cat_list {a b c : AV} (h : a.cat b = some c) : c.list = a.list ++ b.list := by
  unfold AV.cat at h
  split at h <;> first
    | (injection h with h; subst h; simp [AV.list, AV.parts])
    | cases h

section
variable {P : Program} {T : Nat → Option AV} {H : Hp} {nm : Nat} {wr : Bool} {v u u1 u2 : AV} {d : Option Tmp} {ty : TypeId} {ps : String} {af : Array Edge} {gd : Option (Nat × Bool)} {t t' e : TypeId} {x y : Operand} {dd : TypeDesc} {b o n z i m : Nat} {k : ABlk}
theorem add_at (l o i : Nat) : (⟨l, o, none⟩ : Addr).add i = ⟨l, o + i, none⟩ := by unfold Addr.add; split <;> simp_all
theorem run_isAgg_no (hu : P.underlying t = some dd) (hna : (match dd with | .struct _ | .array _ _ => true | _ => false) = false) (w : World) : (isAgg t).run P w = .ok false w := by
  unfold isAgg
  simp only [Sem.run_bind, run_underlying hu, Result.andThen_ok]
  cases dd <;> first | rfl | cases hna
theorem run_isAgg_yes (hu : P.underlying t = some dd) (hna : (match dd with | .struct _ | .array _ _ => true | _ => false) = true) (w : World) : (isAgg t).run P w = .ok true w := by
  unfold isAgg
  simp only [Sem.run_bind, run_underlying hu, Result.andThen_ok]
  cases dd <;> first | rfl | cases hna
theorem run_sizeOf_is (hz : (P.info? e).map (·.size) = some z) (w : World) : (sizeOf e).run P w = .ok z w := by
  cases hq : P.info? e with
  | none => simp [hq] at hz
  | some i => simp [hq] at hz; simp [sizeOf, typeInfo, hq, hz]
theorem op_load (hu : P.underlying t = some dd) (hna : (match dd with | .struct _ | .array _ _ => true | _ => false) = false) (hx : aev T x = some (.ptr b o)) (hk : H b = some k) (hv : k.c.nth o = some v) (hlt : o < k.c.len) :
    OpSem P T H ⟨d, .load t x, ty, ps, af, gd⟩ nm wr v [] :=
  .reads fun E S a w h hR => by
    obtain ⟨l, s, h1, h2⟩ := (h x mem1 _ hx).ptr_inv
    obtain ⟨l', s', h3, h4⟩ := hR.blkR hk (map_lt hlt)
    rw [h1] at h3; injection h3 with h3; injection h3 with e1 e2; subst e1; subst e2
    obtain ⟨_, y, h5, h6⟩ := h4.cell (nth_list hv hlt)
    refine ⟨y, ?_, h6⟩
    simp [execOp, h2, Instr.loadAt, Instr.sureAddr, loadVar, run_isAgg_no hu hna, h5]
/-- A whole row. -/
theorem op_loadRow {cs : List AV} (hu : P.underlying t = some dd) (hna : (match dd with | .struct _ | .array _ _ => true | _ => false) = true) (hz : (P.info? t).map (·.size) = some m) (hx : aev T x = some (.ptr b 0)) (hk : H b = some k) (hc : k.c.parts = some cs) (hlt : k.c.len = m) (hw : k.c.rowWhole = true := by rfl) :
    OpSem P T H ⟨d, .load t x, ty, ps, af, gd⟩ nm wr k.c [] :=
  .reads fun E S a w h hR => by
    obtain ⟨l, s, h1, h2⟩ := (h x mem1 _ hx).ptr_inv
    obtain ⟨l', s', h3, h4⟩ := hR.blkR hk (AV.map_parts hc)
    rw [h1] at h3; injection h3 with h3; injection h3 with e1 e2; subst e1; subst e2
    obtain ⟨arr, tq, fz, g1, g2, g3, g4, g5⟩ := h4
    have hl : k.c.list = cs := by simp [AV.list, hc]
    rw [hl] at g4 g5
    have hlen : cs.length = m := by rw [← hl, len_list]; exact hlt
    have hr := run_loadCells_list (P := P) w ⟨l, 0, none⟩ (arr.toList.take m) (fun j v hj => by
      rw [add_at, Nat.zero_add, cell_of_row w l j arr tq fz g1]
      rw [List.getElem?_take] at hj
      split at hj
      · simpa using hj
      · cases hj)
    have hlen2 : (arr.toList.take m).length = m := by simp; omega
    rw [hlen2] at hr
    refine ⟨.agg (arr.toList.take m).toArray, ?_, ?_⟩
    · simp [execOp, h2, Instr.loadAt, Instr.sureAddr, loadVar, run_isAgg_yes hu hna, run_sizeOf_is hz, hr]
    · refine .agg _ cs _ hc (by simp; omega) (fun x hx => ?_) (fun i x y hx hy => ?_)
      · obtain ⟨i, hi, rfl⟩ := List.mem_iff_getElem.1 hx
        exact cell_one hw (by rw [hl]; exact List.getElem?_eq_getElem hi) (g5 i _ (List.getElem?_eq_getElem hi)).1
      · obtain ⟨_, y', h6, h7⟩ := g5 i x hx
        have hi : i < m := by rw [← hlen]; exact (List.getElem?_eq_some_iff.1 hx).1
        simp only [List.getElem?_toArray, List.getElem?_take, hi, if_true] at hy
        rw [Array.getElem?_toList, h6] at hy
        injection hy with hy; subst hy; exact h7
theorem run_storeCells_gen (P : Program) (l off : Nat) (elem : TypeId) (fz : Nat × Nat) : ∀ (vs : List Value) (i : Nat) (arr : Array Value) (w : World), w.heap[l]? = some (.cells arr elem fz) → (∀ j, j < arr.size → ¬ (fz.1 ≤ j ∧ j < fz.2)) →
    off + i + vs.length ≤ arr.size → (∀ u ∈ vs, u.oneCell' = true) → ∃ arr', (storeCells ⟨l, off, none⟩ vs i).run P w = .ok () (w.setRow l arr') ∧ arr'.size = arr.size ∧
      (∀ j, arr'[j]? = if off + i ≤ j ∧ j < off + i + vs.length then vs[j - (off + i)]? else arr[j]?) := by
  intro vs
  induction vs with
  | nil =>
    intro i arr w hg _ _ _
    refine ⟨arr, ?_, rfl, fun j => by simp; intro h1 h2; omega⟩
    have hheap : (w.setRow l arr).heap = w.heap := by
      unfold World.setRow
      apply Array.ext_getElem?
      intro j
      rw [Array.getElem?_modify]
      by_cases e : l = j
      · subst e; simp [hg]
      · simp [e]
    have : w.setRow l arr = w := by
      cases w
      simp only [World.setRow] at hheap ⊢
      rw [hheap]
    simp [storeCells, this]
  | cons v vs ih =>
    intro i arr w hg hf hle h1
    have hlt : off + i < arr.size := by simp at hle; omega
    have hc : w.cell? ⟨l, off + i, none⟩ = arr[off + i]? := cell_of_row w l (off + i) arr elem fz hg
    rw [Array.getElem?_eq_getElem hlt] at hc
    have hfr : w.frozen? ⟨l, off + i, none⟩ = false := by
      have := hf (off + i) hlt
      unfold World.frozen?
      simp only [hg]
      cases h : (decide (fz.1 ≤ off + i) && decide (off + i < fz.2)) with
      | false => rfl
      | true => simp at h; exact absurd h this
    have hset : (w.setCell ⟨l, off + i, none⟩ v).heap[l]? = some (.cells (arr.setIfInBounds (off + i) v) elem fz) := by
      simp [World.setCell, Array.getElem?_modify, hg]
    obtain ⟨arr', hr, hs, hv⟩ := ih (i + 1) (arr.setIfInBounds (off + i) v) (w.setCell ⟨l, off + i, none⟩ v) hset (by simpa using hf) (by simp at hle ⊢; omega) (fun u hu => h1 u (List.mem_cons_of_mem _ hu))
    refine ⟨arr', ?_, by simpa using hs, fun j => ?_⟩
    · have hst := run_store P w ⟨l, off + i, none⟩ v .plain (h1 v List.mem_cons_self)
      rw [hc] at hst
      simp only [hfr, Bool.false_eq_true, if_false] at hst
      have heq : (w.setCell ⟨l, off + i, none⟩ v).setRow l arr' = w.setRow l arr' := by
        unfold World.setRow World.setCell
        simp only
        congr 1
        apply Array.ext_getElem?
        intro j
        rw [Array.getElem?_modify, Array.getElem?_modify, Array.getElem?_modify]
        by_cases e : l = j
        · subst e; simp [hg]
        · simp [e]
      simp only [storeCells, Sem.run_bind, add_at, hst, Result.andThen_ok, hr, heq]
    · rw [hv j]
      by_cases e1 : off + (i + 1) ≤ j ∧ j < off + (i + 1) + vs.length
      · rw [if_pos e1, if_pos (by simp; omega)]
        rw [show j - (off + i) = (j - (off + (i + 1))) + 1 by omega]; simp
      · rw [if_neg e1, Array.getElem?_setIfInBounds]
        by_cases e2 : off + i = j
        · subst e2; simp [hlt]
        · rw [if_neg e2, if_neg (by simp; omega)]
theorem op_store {c' : AV} (hz : (P.info? t).map (·.size) = some 1) (hx : aev T x = some (.ptr b o)) (hy : aev T y = some u) (hk : H b = some k) (hown : k.own = true) (hc : k.c.put o u = some c') (hlt : o < k.c.len) :
    OpSem P T H ⟨d, .store t x y, ty, ps, af, gd⟩ nm wr (.val undef) [(b, some { k with c := c' })] := by
  intro E S n0 H2 a w hS hn _ _ hwr hle hop hR hf K Q hK
  have hRl := hR.less hle
  replace hk := hle b k hk
  obtain ⟨l, s, h1, h2⟩ := (hop x mem21 _ hx).ptr_inv
  obtain ⟨l', s', h3, h4⟩ := hR.blkR hk (map_lt hlt)
  rw [h1] at h3; injection h3 with h3; injection h3 with e1 e2; subst e1; subst e2
  obtain ⟨arr, tq, fz, g1, g2, g3, g4, g5⟩ := h4
  have hu := hop y mem22 _ hy
  obtain ⟨p1, p2, p3⟩ := put_list hc
  have hone := hu.one p2
  have hll := len_list k.c
  obtain ⟨arr', hr, hs, hv⟩ := run_storeCells_gen P l o tq fz [a.eval y] 0 arr w g1 (by rw [g2]; exact g3.1.w hown) (by simp; omega) (by simp [hone])
  have hcells : (a.eval y).cells = #[a.eval y] := by
    cases hq : a.eval y <;> first | rfl | (rw [hq] at hone; cases hone)
  unfold Oper.wp
  have hrun : (execOp a.eval ⟨d, .store t x y, ty, ps, af, gd⟩).run P w = .ok .skip (w.setRow l arr') := by
    simp [execOp, h2, Instr.storeAt, Instr.sureAddr, storeVar, run_sizeOf_is hz, hcells, hr]
  rw [hrun]
  refine hK undef _ E (fun _ _ => rfl) (Emb.dx_refl _ _) (.val _) (hR.write hk hown h1 arr arr' tq fz g1 hs c' (by rw [len_list, p3]; omega) (fun i q hq => ?_) (map_lt (o := o) (by rw [p3]; exact hlt))) (Fr.setRow w l arr' (hR.own b k l s hk hown h1))
  rw [p1, List.getElem?_set] at hq
  by_cases ei : o = i
  · subst ei
    rw [if_pos rfl, if_pos (by omega)] at hq
    injection hq with hq; subst hq
    refine ⟨AV.cell_of p2, a.eval y, ?_, hu⟩
    rw [hv]; simp
  · rw [if_neg ei] at hq
    obtain ⟨q1, q2, q3, q4⟩ := g5 i q hq
    refine ⟨q1, q2, ?_, q4⟩
    rw [hv, if_neg (by simp; omega)]; exact q3
/-- A whole row is stored. -/
theorem op_storeRow {cs : List AV} (hz : (P.info? t).map (·.size) = some m) (hx : aev T x = some (.ptr b 0)) (hy : aev T y = some u) (hk : H b = some k) (hown : k.own = true) (hc : u.parts = some cs) (hm : u.len = m) (hlt : k.c.len = m) (hmp : k.c.isMap = false := by first | rfl | assumption | exact AV.map_parts (by assumption)) :
    OpSem P T H ⟨d, .store t x y, ty, ps, af, gd⟩ nm wr (.val undef) [(b, some { k with c := u })] := by
  intro E S n0 H2 a w hS hn _ _ hwr hle hop hR hf K Q hK
  have hRl := hR.less hle
  replace hk := hle b k hk
  obtain ⟨l, s, h1, h2⟩ := (hop x mem21 _ hx).ptr_inv
  obtain ⟨l', s', h3, h4⟩ := hR.blkR hk hmp
  rw [h1] at h3; injection h3 with h3; injection h3 with e1 e2; subst e1; subst e2
  obtain ⟨arr, tq, fz, g1, g2, g3, g4, g5⟩ := h4
  obtain ⟨ds, q1, q2, q3, q4⟩ := (hop y mem22 _ hy).agg_inv hc
  have hl : u.list = cs := by simp [AV.list, hc]
  have hll := len_list k.c
  have hlu := len_list u
  rw [hl] at hlu
  have hds : ds.size = m := by omega
  obtain ⟨arr', hr, hs, hv⟩ := run_storeCells_gen P l 0 tq fz ds.toList 0 arr w g1 (by rw [g2]; exact g3.1.w hown) (by simp; omega) (fun z hz => by
    obtain ⟨i, hi, rfl⟩ := List.mem_iff_getElem.1 hz
    have hi' : i < cs.length := by simp at hi; omega
    have hi2 : i < ds.size := by simpa using hi
    have := (q4 i cs[i] ds[i] (List.getElem?_eq_getElem hi') (Array.getElem?_eq_getElem hi2)).one (q3 _ (List.getElem_mem hi'))
    simpa using this)
  unfold Oper.wp
  have hrun : (execOp a.eval ⟨d, .store t x y, ty, ps, af, gd⟩).run P w = .ok .skip (w.setRow l arr') := by
    simp [execOp, h2, q1, Instr.storeAt, Instr.sureAddr, storeVar, run_sizeOf_is hz, Value.cells, hds, hr]
  rw [hrun]
  refine hK undef _ E (fun _ _ => rfl) (Emb.dx_refl _ _) (.val _) (hR.write hk hown h1 arr arr' tq fz g1 hs u (by rw [hl]; omega) (fun i q hq => ?_) (AV.map_parts hc)) (Fr.setRow w l arr' (hR.own b k l s hk hown h1))
  rw [hl] at hq
  have hi : i < cs.length := (List.getElem?_eq_some_iff.1 hq).1
  have hi2 : i < ds.size := by omega
  refine ⟨AV.cell_of (q3 q (List.mem_of_getElem? hq)), ds[i], ?_, q4 i q ds[i] hq (Array.getElem?_eq_getElem hi2)⟩
  rw [hv, if_pos (by simp; omega)]; simp [hi2]
theorem row_cells {E : Emb} {cs : List AV} {yv : Value} (hc : u.parts = some cs) (hr : Rel E u yv) : ∃ ds, yv = .agg ds ∧ u.list.length ≤ ds.size ∧ (∀ (i : Nat) x, u.list[i]? = some x → x.one = true ∧ ∃ y, ds[i]? = some y ∧ Rel E x y) := by
  obtain ⟨ds, q1, q2, q3, q4⟩ := hr.agg_inv hc
  have hl : u.list = cs := by simp [AV.list, hc]
  refine ⟨ds, q1, by rw [hl]; omega, fun i x hx => ?_⟩
  rw [hl] at hx
  have hi : i < ds.size := by rw [← q2]; exact (List.getElem?_eq_some_iff.1 hx).1
  exact ⟨q3 x (List.mem_of_getElem? hx), ds[i], Array.getElem?_eq_getElem hi, q4 i x _ hx (Array.getElem?_eq_getElem hi)⟩
/-- A variable for a row. -/
theorem op_boxRow {cs : List AV} (hx : aev T x = some u) (hc : u.parts = some cs) : OpSem P T H ⟨d, .box t x, ty, ps, af, gd⟩ nm wr (.ptr nm 0) [(nm, some ⟨u, t, true⟩)] :=
  .allocs fun E S a w h hR => by
    obtain ⟨ds, q1, q2, q3⟩ := row_cells hc (h x mem1 _ hx)
    exact ⟨.pointer (some ⟨w.heap.size, 0, none⟩), ds, (0, 0), w, by simp [execOp, Instr.box, newVar, newRow, q1, Value.cells], rfl, rfl, rfl, rfl, (by first | exact DrOk.refl _ | exact (DrOk.refl _).drew | exact (DrOk.refl _).drew.drew), .ptr _ _ _ _ (Emb.put_same _ _ _), FzOk.zero _ _, q2, q3⟩
theorem op_boxOne (hx : aev T x = some u) (hc : u.one = true) : OpSem P T H ⟨d, .box t x, ty, ps, af, gd⟩ nm wr (.ptr nm 0) [(nm, some ⟨.agg [u], t, true⟩)] :=
  .allocs fun E S a w h hR => by
    have hr := h x mem1 _ hx
    have hone := hr.one hc
    have hcells : (a.eval x).cells = #[a.eval x] := by
      cases hq : a.eval x <;> first | rfl | (rw [hq] at hone; cases hone)
    refine ⟨.pointer (some ⟨w.heap.size, 0, none⟩), #[a.eval x], (0, 0), w, by simp [execOp, Instr.box, newVar, newRow, hcells], rfl, rfl, rfl, rfl, (by first | exact DrOk.refl _ | exact (DrOk.refl _).drew | exact (DrOk.refl _).drew.drew), .ptr _ _ _ _ (Emb.put_same _ _ _), FzOk.zero _ _, by simp [AV.list, AV.parts], fun i q hq => ?_⟩
    match i, hq with
    | 0, hq => simp [AV.list, AV.parts] at hq; subst hq; exact ⟨hc, a.eval x, rfl, hr⟩
    | i + 1, hq => simp [AV.list, AV.parts] at hq
/-- A new variable with its zero value: a row. -/
theorem op_allocRow {cs : List AV} {zv : Value} (hz : (P.info? t).map (·.zero) = some (some zv)) (hr : Rel Emb.nil u zv) (hc : u.parts = some cs) : OpSem P T H ⟨d, .alloc t, ty, ps, af, gd⟩ nm wr (.ptr nm 0) [(nm, some ⟨u, t, true⟩)] :=
  .allocs fun E S a w h hR => by
    obtain ⟨ds, q1, q2, q3⟩ := row_cells hc (hr.mono (Emb.nil_le E))
    have hzr : (zeroValue t).run P w = .ok zv w := by
      cases hq : P.info? t with
      | none => simp [hq] at hz
      | some i => simp [hq] at hz; simp [zeroValue, typeInfo, hq, hz]
    exact ⟨.pointer (some ⟨w.heap.size, 0, none⟩), ds, (0, 0), w, by simp [execOp, Instr.alloc, newVar, newRow, hzr, q1, Value.cells], rfl, rfl, rfl, rfl, (by first | exact DrOk.refl _ | exact (DrOk.refl _).drew | exact (DrOk.refl _).drew.drew), .ptr _ _ _ _ (Emb.put_same _ _ _), FzOk.zero _ _, q2, q3⟩
theorem op_allocOne {zv : Value} (hz : (P.info? t).map (·.zero) = some (some zv)) (hr : Rel Emb.nil u zv) (hc : u.one = true) : OpSem P T H ⟨d, .alloc t, ty, ps, af, gd⟩ nm wr (.ptr nm 0) [(nm, some ⟨.agg [u], t, true⟩)] :=
  .allocs fun E S a w h hR => by
    have hr' := hr.mono (Emb.nil_le E)
    have hone := hr.one hc
    have hcells : zv.cells = #[zv] := by
      cases hq : zv <;> first | rfl | (rw [hq] at hone; cases hone)
    have hzr : (zeroValue t).run P w = .ok zv w := by
      cases hq : P.info? t with
      | none => simp [hq] at hz
      | some i => simp [hq] at hz; simp [zeroValue, typeInfo, hq, hz]
    refine ⟨.pointer (some ⟨w.heap.size, 0, none⟩), #[zv], (0, 0), w, by simp [execOp, Instr.alloc, newVar, newRow, hzr, hcells], rfl, rfl, rfl, rfl, (by first | exact DrOk.refl _ | exact (DrOk.refl _).drew | exact (DrOk.refl _).drew.drew), .ptr _ _ _ _ (Emb.put_same _ _ _), FzOk.zero _ _, by simp [AV.list, AV.parts], fun i q hq => ?_⟩
    match i, hq with
    | 0, hq => simp [AV.list, AV.parts] at hq; subst hq; exact ⟨hc, zv, rfl, hr'⟩
    | i + 1, hq => simp [AV.list, AV.parts] at hq

/-! Lengths, indices, slices. -/
theorem op_len_run {i : Int} (hx : aev T x = some u) (h : ∀ (E : Emb) (y : Value) (w : World), Rel E u y → (Builtin.len_ #[t] ty #[y]).run P w = .ok (.int .i64 i) w) :
    OpSem P T H ⟨d, .call { callee := .builtin .len, args := #[x], argTypes := #[t] }, ty, ps, af, gd⟩ nm wr (.i64 i) [] :=
  .quiet fun E a w hop => by
    have hr := hop x (by simp [Op.operands, Call.operands]) _ hx
    exact ⟨.int .i64 i, by simp [execOp, resolve, invoke, builtin, h E _ w hr], .i64 _⟩
theorem op_len_str {s : List UInt8} (ht : P.underlying t = some .string) (hx : aev T x = some (.str s)) :
    OpSem P T H ⟨d, .call { callee := .builtin .len, args := #[x], argTypes := #[t] }, ty, ps, af, gd⟩ nm wr (.i64 (s.length : Int)) [] :=
  op_len_run hx fun E y w hr => by
    have hs : (⟨s.toArray⟩ : ByteArray).size = s.length := by simp [ByteArray.size]
    rw [hr.str_inv]; simp [Builtin.len_, run_underlying ht, goInt, hs]
theorem op_len_sl (ht : P.underlying t = some (.slice e)) (hx : aev T x = some (.sl b o n z)) :
    OpSem P T H ⟨d, .call { callee := .builtin .len, args := #[x], argTypes := #[t] }, ty, ps, af, gd⟩ nm wr (.i64 (n : Int)) [] :=
  op_len_run hx fun E y w hr => by
    rcases hr.sl_inv with ⟨l, s, c, _, _, _, _, e⟩ | ⟨ad, h0, e⟩
    · rw [e]; simp [Builtin.len_, run_underlying ht, goInt]
    · rw [e, h0]; simp [Builtin.len_, run_underlying ht, goInt]
theorem op_len_nil (ht : P.underlying t = some (.slice e)) (hx : aev T x = some .nilsl) :
    OpSem P T H ⟨d, .call { callee := .builtin .len, args := #[x], argTypes := #[t] }, ty, ps, af, gd⟩ nm wr (.i64 0) [] :=
  op_len_run hx fun E y w hr => by rw [hr.nilsl_inv]; simp [Builtin.len_, run_underlying ht, goInt]
theorem op_len_arr (ht : P.underlying t = some (.array n e)) (hx : aev T x = some u) :
    OpSem P T H ⟨d, .call { callee := .builtin .len, args := #[x], argTypes := #[t] }, ty, ps, af, gd⟩ nm wr (.i64 (n : Int)) [] :=
  op_len_run hx fun E y w hr => by simp [Builtin.len_, run_underlying ht, goInt]
theorem op_index_str {s : List UInt8} {j : Int} (ht : P.underlying t = some .string) (hx : aev T x = some (.str s)) (hy : aev T y = some (.i64 j)) (hj : j = (i : Int)) (hlt : i < s.length) :
    OpSem P T H ⟨d, .index t x y, ty, ps, af, gd⟩ nm wr (.u8 (s.getD i 0)) [] :=
  .quiet fun E a w h => by
    subst hj
    have h1 := (h x mem21 _ hx).str_inv
    have h2 := (h y mem22 _ hy).i64_inv
    refine ⟨.int .u8 ((s.getD i 0).toNat : Int), ?_, .u8 _⟩
    have hg : (⟨s.toArray⟩ : ByteArray)[i]? = some (s.getD i 0) := by
      have hsz : i < (⟨s.toArray⟩ : ByteArray).size := by simpa [ByteArray.size] using hlt
      rw [getElem?_pos (⟨s.toArray⟩ : ByteArray) i hsz]
      simp [List.getD_eq_getElem?_getD, hlt]
      rfl
    simp [execOp, h1, h2, Instr.index, asIntOf, run_underlying ht, hg]
/-- A cell of a row that is held by value. -/
theorem op_index_row {cs : List AV} {j : Int} {n : Nat} (ht : P.underlying t = some (.array n e)) (he : P.underlying e = some dd) (hna : (match dd with | .struct _ | .array _ _ => true | _ => false) = false) (hz : (P.info? e).map (·.size) = some 1) (hx : aev T x = some u) (hc : u.parts = some cs)
    (hy : aev T y = some (.i64 j)) (hj : j = (i : Int)) (hv : u.nth i = some v) (hlt : i < u.len) (hn : i < n) :
    OpSem P T H ⟨d, .index t x y, ty, ps, af, gd⟩ nm wr v [] :=
  .quiet fun E a w h => by
    subst hj
    obtain ⟨ds, q1, q2, q3⟩ := row_cells hc (h x mem21 _ hx)
    have h2 := (h y mem22 _ hy).i64_inv
    obtain ⟨_, yv, h3, h4⟩ := q3 i v (nth_list hv hlt)
    refine ⟨yv, ?_, h4⟩
    have hp : (part e ds i).run P w = .ok yv w := by simp [part, run_isAgg_no he hna, h3]
    have hin : (0 : Int) ≤ (i : Int) ∧ (i : Int) < (n : Int) := by omega
    simp [execOp, q1, h2, Instr.index, asIntOf, run_underlying ht, hin, run_sizeOf_is hz, hp, hn]
theorem op_indexAddr {j : Int} (ht : P.underlying t = some (.slice e)) (hz : (P.info? e).map (·.size) = some z) (hx : aev T x = some (.sl b o n z)) (hy : aev T y = some (.i64 j)) (hj : j = (i : Int)) (hlt : i < n) :
    OpSem P T H ⟨d, .indexAddr t x y, ty, ps, af, gd⟩ nm wr (.ptr b (o + i * z)) [] :=
  .quiet fun E a w h => by
    subst hj
    have h2 := (h y mem22 _ hy).i64_inv
    rcases (h x mem21 _ hx).sl_inv with ⟨l, s, c, h1, _, _, _, h3⟩ | ⟨ad, h0, _⟩
    · refine ⟨.pointer (some ⟨l, o + i * z, none⟩), ?_, .ptr _ _ _ _ h1⟩
      have hin : (0 : Int) ≤ (i : Int) ∧ (i : Int) < (n : Int) := by omega
      simp [execOp, h2, h3, Instr.indexAt, asIntOf, run_underlying ht, hin, run_sizeOf_is hz, add_at, hlt]
    · omega
theorem op_indexAddr_arr {j : Int} (ht : P.underlying t = some (.array n e)) (hz : (P.info? e).map (·.size) = some z) (hx : aev T x = some (.ptr b o)) (hy : aev T y = some (.i64 j)) (hj : j = (i : Int)) (hlt : i < n) :
    OpSem P T H ⟨d, .indexAddr t x y, ty, ps, af, gd⟩ nm wr (.ptr b (o + i * z)) [] :=
  .quiet fun E a w h => by
    subst hj
    have h2 := (h y mem22 _ hy).i64_inv
    obtain ⟨l, s, h1, h3⟩ := (h x mem21 _ hx).ptr_inv
    refine ⟨.pointer (some ⟨l, o + i * z, none⟩), ?_, .ptr _ _ _ _ h1⟩
    have hin : (0 : Int) ≤ (i : Int) ∧ (i : Int) < (n : Int) := by omega
    simp [execOp, h2, h3, Instr.indexAt, Instr.sureAddr, asIntOf, run_underlying ht, hin, run_sizeOf_is hz, add_at, hlt]
/-- A bound of a slice expression: none, or a number. -/
def bnd (T : Nat → Option AV) (dflt : Nat) : Option Operand → Nat → Prop
  | none, l => l = dflt
  | some x, l => ∃ j, aev T x = some (.i64 j) ∧ j = (l : Int)
theorem bnd_some {x : Operand} {j : Int} {l dflt : Nat} (h : aev T x = some (.i64 j)) (hj : j = (l : Int)) : bnd T dflt (some x) l := ⟨j, h, hj⟩
theorem run_sliceBounds_ok {lo hi : Option Operand} {l h len cap : Nat} {sl : Bool} {a : Act} {E : Emb} (hb : ∀ q, (lo = some q ∨ hi = some q) → ∀ u, aev T q = some u → Rel E u (a.eval q)) (hl : bnd T 0 lo l) (hh : bnd T len hi h) (h1 : l ≤ h) (h2 : h ≤ cap) (w : World) :
    (Instr.sliceBounds sl len cap (lo.map a.eval) (hi.map a.eval) none).run P w = .ok (l, h, cap) w := by
  cases lo with
  | none =>
    simp only [bnd] at hl; subst hl
    cases hi with
    | none => simp only [bnd] at hh; subst hh; simp [Instr.sliceBounds]
    | some q =>
      obtain ⟨j, hj, rfl⟩ := hh
      have e1 := (hb q (.inr rfl) _ hj).i64_inv
      simp [Instr.sliceBounds, e1, Instr.sliceBound, asIntOf, h2]
  | some p =>
    obtain ⟨j, hj, rfl⟩ := hl
    have e2 := (hb p (.inl rfl) _ hj).i64_inv
    cases hi with
    | none => simp only [bnd] at hh; subst hh; simp [Instr.sliceBounds, e2, Instr.sliceBound, asIntOf, h1]
    | some q =>
      obtain ⟨j, hj, rfl⟩ := hh
      have e1 := (hb q (.inr rfl) _ hj).i64_inv
      simp [Instr.sliceBounds, e1, e2, Instr.sliceBound, asIntOf, h1, h2]
theorem mem_slice {lo hi : Option Operand} : ∀ q, (lo = some q ∨ hi = some q) → q ∈ (Op.slice t x lo hi none).operands := by
  intro q hq
  simp only [Op.operands]
  rcases hq with rfl | rfl <;> simp
theorem op_slice_str {s : List UInt8} {lo hi : Option Operand} {l h : Nat} (ht : P.underlying t = some .string) (hx : aev T x = some (.str s)) (hl : bnd T 0 lo l) (hh : bnd T s.length hi h) (h1 : l ≤ h) (h2 : h ≤ s.length) :
    OpSem P T H ⟨d, .slice t x lo hi none, ty, ps, af, gd⟩ nm wr (.str ((s.drop l).take (h - l))) [] :=
  .quiet fun E a w hop => by
    have h3 := (hop x (by simp [Op.operands]) _ hx).str_inv
    have hb := run_sliceBounds_ok (P := P) (sl := false) (cap := s.length) (fun q hq u hu => hop q (mem_slice q hq) u hu) hl hh h1 h2 w
    have hs : (⟨s.toArray⟩ : ByteArray).size = s.length := by simp [ByteArray.size]
    refine ⟨.string ⟨((s.drop l).take (h - l)).toArray⟩, ?_, .str _⟩
    have he : (⟨s.toArray⟩ : ByteArray).extract l h = ⟨((s.drop l).take (h - l)).toArray⟩ := by
      apply ByteArray.ext
      rw [ByteArray.data_extract]
      simp [List.extract_eq_take_drop]
    simp [execOp, h3, Instr.sliceAt, Instr.slice, run_underlying ht, hs, hb, he]
theorem op_slice_sl {lo hi : Option Operand} {l h : Nat} (ht : P.underlying t = some (.slice e)) (hz : (P.info? e).map (·.size) = some z) (hx : aev T x = some (.sl b o n z)) (hl : bnd T 0 lo l) (hh : bnd T n hi h) (h1 : l ≤ h) (h2 : h ≤ n) :
    OpSem P T H ⟨d, .slice t x lo hi none, ty, ps, af, gd⟩ nm wr (.sl b (o + l * z) (h - l) z) [] :=
  .quiet fun E a w hop => by
    rcases (hop x (by simp [Op.operands]) _ hx).sl_inv with ⟨lc, s, c, g1, g2, g3, g4, g5⟩ | ⟨ad, h0, g5⟩
    · have hb := run_sliceBounds_ok (P := P) (sl := true) (cap := c) (fun q hq u hu => hop q (mem_slice q hq) u hu) hl hh h1 (by omega) w
      by_cases hc : c = l
      · subst hc
        refine ⟨.slice (some ⟨lc, o, none⟩) (h - c) (c - c), ?_, ?_⟩
        · simp [execOp, g5, Instr.sliceAt, Instr.slice, run_underlying ht, hb, run_sizeOf_is hz]
        · rw [show h - c = 0 by omega, show c - c = 0 by omega]; exact .sl0 _ _ _ _
      · refine ⟨.slice (some ⟨lc, o + l * z, none⟩) (h - l) (c - l), ?_, .sl _ _ _ _ lc s _ g1 (by omega) (by omega) ?_⟩
        · simp [execOp, g5, Instr.sliceAt, Instr.slice, run_underlying ht, hb, run_sizeOf_is hz, hc, add_at]
        · have : l * z + (c - l) * z = c * z := by rw [← Nat.add_mul]; congr 1; omega
          omega
    · have hb := run_sliceBounds_ok (P := P) (sl := true) (cap := 0) (fun q hq u hu => hop q (mem_slice q hq) u hu) hl hh h1 (by omega) w
      subst h0
      refine ⟨.slice ad 0 0, ?_, ?_⟩
      · have e1 : l = 0 := by omega
        have e2 : h = 0 := by omega
        subst e1; subst e2
        cases ad <;> simp [execOp, g5, Instr.sliceAt, Instr.slice, run_underlying ht, hb, run_sizeOf_is hz]
      · rw [show h - l = 0 by omega]; exact .sl0 _ _ _ _
/-- A slice of a variable that is an array. -/
theorem op_slice_arr {lo hi : Option Operand} {l h : Nat} (ht : P.underlying t = some (.array n e)) (hz : (P.info? e).map (·.size) = some z) (hx : aev T x = some (.ptr b o)) (hk : H b = some k) (hlen : o + n * z ≤ k.c.len) (hnm : n ≤ maxLen) (hl : bnd T 0 lo l) (hh : bnd T n hi h) (h1 : l ≤ h) (h2 : h ≤ n) (hmp : k.c.isMap = false := by first | rfl | assumption | exact AV.map_parts (by assumption)) :
    OpSem P T H ⟨d, .slice t x lo hi none, ty, ps, af, gd⟩ nm wr (.sl b (o + l * z) (h - l) z) [] :=
  .reads fun E S a w hop hR => by
    obtain ⟨lc, s, g1, g5⟩ := (hop x (by simp [Op.operands]) _ hx).ptr_inv
    obtain ⟨l', s', h3, arr, tq, fz, _, q2, _, q4, _⟩ := hR.blkR hk hmp
    rw [g1] at h3; injection h3 with h3; injection h3 with e1 e2; subst e1; subst e2
    rw [len_list] at q4
    have hb := run_sliceBounds_ok (P := P) (sl := false) (cap := n) (fun q hq u hu => hop q (mem_slice q hq) u hu) hl hh h1 h2 w
    by_cases hc : n = l
    · subst hc
      refine ⟨.slice (some ⟨lc, o, none⟩) (h - n) (n - n), ?_, ?_⟩
      · simp [execOp, g5, Instr.sliceAt, Instr.sureAddr, run_underlying ht, hb, run_sizeOf_is hz]
      · rw [show h - n = 0 by omega, show n - n = 0 by omega]; exact .sl0 _ _ _ _
    · refine ⟨.slice (some ⟨lc, o + l * z, none⟩) (h - l) (n - l), ?_, .sl _ _ _ _ lc s _ g1 (by omega) (by omega) ?_⟩
      · simp [execOp, g5, Instr.sliceAt, Instr.sureAddr, run_underlying ht, hb, run_sizeOf_is hz, hc, add_at]
      · have : l * z + (n - l) * z = n * z := by rw [← Nat.add_mul]; congr 1; omega
        omega
theorem op_nilCheck (hx : aev T x = some (.ptr b o)) : OpSem P T H ⟨d, .nilCheck x, ty, ps, af, gd⟩ nm wr (.ptr b o) [] :=
  .quiet fun E a w h => by
    obtain ⟨l, s, h1, h3⟩ := (h x mem1 _ hx).ptr_inv
    exact ⟨_, by simp [execOp, h3], .ptr _ _ _ _ h1⟩
theorem op_extract {cs : List AV} (hx : aev T x = some (.tup cs)) (hv : cs[i]? = some v) : OpSem P T H ⟨d, .extract x i, ty, ps, af, gd⟩ nm wr v [] :=
  .quiet fun E a w h => by
    obtain ⟨ds, q1, q2, q3⟩ := (h x mem1 _ hx).tup_inv
    have hi : i < ds.size := by rw [← q2]; exact (List.getElem?_eq_some_iff.1 hv).1
    exact ⟨ds[i], by simp [execOp, q1, Instr.extract, hi], q3 i v _ hv (Array.getElem?_eq_getElem hi)⟩
end
end Go.Proofs.YtdpdmgbdipokdaaDoor
namespace Go.Proofs.YtdpdmgbdipokdaaDoor
open Go.RowKit

section
variable {P : Program} {T : Nat → Option AV} {H : Hp} {nm : Nat} {wr : Bool} {v u u1 u2 c c' : AV} {d : Option Tmp} {ty : TypeId} {ps : String} {af : Array Edge} {gd : Option (Nat × Bool)} {t t' t2 e : TypeId} {x y : Operand} {dd d2 : TypeDesc} {b o n z i m b2 : Nat} {k k2 : ABlk}
/-! Conversions. -/
def ofI8 (n : Int) : UInt8 := UInt8.ofNat (n % 256).toNat
def ofI32 (n : Int) : UInt32 := UInt32.ofNat (n % 4294967296).toNat
def ofI64 (n : Int) : UInt64 := UInt64.ofNat (n % 18446744073709551616).toNat
theorem ofI8_toNat (n : Int) : ((ofI8 n).toNat : Int) = n % 256 := by unfold ofI8; rw [UInt8.toNat_ofNat_of_lt' (by simp; omega)]; omega
theorem ofI32_toNat (n : Int) : ((ofI32 n).toNat : Int) = n % 4294967296 := by unfold ofI32; rw [UInt32.toNat_ofNat_of_lt' (by simp; omega)]; omega
theorem ofI64_toNat (n : Int) : ((ofI64 n).toNat : Int) = n % 18446744073709551616 := by unfold ofI64; rw [UInt64.toNat_ofNat_of_lt' (by simp; omega)]; omega
def convTo : IntKind → AV → Option AV
  | .u8, .u8 x => some (.u8 x)
  | .u8, .u32 x => some (.u8 x.toUInt8)
  | .u8, .u64 x => some (.u8 x.toUInt8)
  | .u8, .i64 x => some (.u8 (ofI8 x))
  | .u32, .u8 x => some (.u32 x.toUInt32)
  | .u32, .u32 x => some (.u32 x)
  | .u32, .u64 x => some (.u32 x.toUInt32)
  | .u32, .i64 x => some (.u32 (ofI32 x))
  | .u64, .u8 x => some (.u64 x.toUInt64)
  | .u64, .u32 x => some (.u64 x.toUInt64)
  | .u64, .u64 x => some (.u64 x)
  | .u64, .i64 x => some (.u64 (ofI64 x))
  | .i64, .u8 x => some (.i64 (x.toNat : Int))
  | .i64, .u32 x => some (.i64 (x.toNat : Int))
  | _, _ => none
theorem convTo_num {kd : IntKind} (h : convTo kd u = some v) {E : Emb} {yv : Value} (hr : Rel E u yv) : ∃ k n, yv = .int k n ∧ Rel E v (.int kd (kd.wrap n)) := by
  unfold convTo at h
  split at h <;> first | cases h | (injection h with h; subst h)
  · exact ⟨_, _, hr.u8_inv, by have := wrap_n8 ‹UInt8›; unfold n8 at this; rw [this]; exact .u8 _⟩
  · exact ⟨_, _, hr.u32_inv, by have := n8_of_n32 ‹UInt32›; unfold n8 n32 at this; rw [this]; exact .u8 _⟩
  · exact ⟨_, _, hr.u64_inv, by have := n8_of_n64 ‹UInt64›; unfold n8 n64 at this; rw [this]; exact .u8 _⟩
  · exact ⟨_, _, hr.i64_inv, by rw [wrap_u8, ← ofI8_toNat]; exact .u8 _⟩
  · rename_i x; exact ⟨_, _, hr.u8_inv, by have h1 := x.toNat_lt; rw [wrap_u32, Int.emod_eq_of_lt (by omega) (by omega), ← UInt8.toNat_toUInt32]; exact .u32 _⟩
  · exact ⟨_, _, hr.u32_inv, by have := wrap_n32 ‹UInt32›; unfold n32 at this; rw [this]; exact .u32 _⟩
  · rename_i x; exact ⟨_, _, hr.u64_inv, by
      have e : (x.toNat : Int) % 4294967296 = ((x.toUInt32.toNat : Nat) : Int) := by rw [UInt64.toNat_toUInt32]; omega
      rw [wrap_u32, e]; exact .u32 _⟩
  · exact ⟨_, _, hr.i64_inv, by rw [wrap_u32, ← ofI32_toNat]; exact .u32 _⟩
  · rename_i x; exact ⟨_, _, hr.u8_inv, by have h1 := x.toNat_lt; rw [wrap_u64, Int.emod_eq_of_lt (by omega) (by omega), ← UInt8.toNat_toUInt64]; exact .u64 _⟩
  · rename_i x; exact ⟨_, _, hr.u32_inv, by have h1 := x.toNat_lt; rw [wrap_u64, Int.emod_eq_of_lt (by omega) (by omega), ← UInt32.toNat_toUInt64]; exact .u64 _⟩
  · exact ⟨_, _, hr.u64_inv, by have := wrap_n64 ‹UInt64›; unfold n64 at this; rw [this]; exact .u64 _⟩
  · exact ⟨_, _, hr.i64_inv, by rw [wrap_u64, ← ofI64_toNat]; exact .u64 _⟩
  · rename_i x; exact ⟨_, _, hr.u8_inv, by have h1 := x.toNat_lt; rw [wrap_in ⟨by omega, by omega⟩]; exact .i64 _⟩
  · rename_i x; exact ⟨_, _, hr.u32_inv, by have h1 := x.toNat_lt; rw [wrap_in ⟨by omega, by omega⟩]; exact .i64 _⟩
theorem run_conv_int {kd kk : IntKind} {nn : Int} (hs : P.underlying t = some dd) (hd : P.underlying t2 = some (.int kd)) (w : World) : (convert t t2 (.int kk nn)).run P w = .ok (.int kd (kd.wrap nn)) w := by
  unfold convert
  simp only [Sem.run_bind, run_underlying hs, run_underlying hd, Result.andThen_ok]
  cases dd <;> rfl
theorem op_conv {kd : IntKind} (hs : P.underlying t = some dd) (hd : P.underlying t2 = some (.int kd)) (hx : aev T x = some u) (hv : convTo kd u = some v) : OpSem P T H ⟨d, .convert t t2 x, ty, ps, af, gd⟩ nm wr v [] :=
  .quiet fun E a w h => by
    obtain ⟨kk, nn, e1, e2⟩ := convTo_num hv (h x mem1 _ hx)
    exact ⟨_, by simp [execOp, e1, run_conv_int hs hd], e2⟩
theorem op_convI {_kd : IntKind} {j : Int} (hs : P.underlying t = some dd) (hd : P.underlying t2 = some (.int .i64)) (hx : aev T x = some (.i64 j)) (hj : InI j) : OpSem P T H ⟨d, .convert t t2 x, ty, ps, af, gd⟩ nm wr (.i64 j) [] :=
  .quiet fun E a w h => by
    have e := (h x mem1 _ hx).i64_inv
    exact ⟨.int .i64 j, by simp [execOp, e, run_conv_int hs hd, wrap_in hj], .i64 _⟩
theorem op_conv64I {q : UInt64} (hs : P.underlying t = some dd) (hd : P.underlying t2 = some (.int .i64)) (hx : aev T x = some (.u64 q)) (hj : q.toNat ≤ 9223372036854775807) : OpSem P T H ⟨d, .convert t t2 x, ty, ps, af, gd⟩ nm wr (.i64 (q.toNat : Int)) [] :=
  .quiet fun E a w h => by
    have e := (h x mem1 _ hx).u64_inv
    exact ⟨.int .i64 (q.toNat : Int), by simp [execOp, e, run_conv_int hs hd, wrap_in (show InI (q.toNat : Int) from ⟨by omega, by omega⟩)], .i64 _⟩
theorem op_conv_str {s : List UInt8} (hs : P.underlying t = some dd) (hd : P.underlying t2 = some .string) (hx : aev T x = some (.str s)) : OpSem P T H ⟨d, .convert t t2 x, ty, ps, af, gd⟩ nm wr (.str s) [] :=
  .quiet fun E a w h => by
    have e := (h x mem1 _ hx).str_inv
    refine ⟨.string ⟨s.toArray⟩, ?_, .str _⟩
    have : (convert t t2 (.string ⟨s.toArray⟩)).run P w = .ok (.string ⟨s.toArray⟩) w := by
      unfold convert
      simp only [Sem.run_bind, run_underlying hs, run_underlying hd, Result.andThen_ok]
      cases dd <;> rfl
    simp [execOp, e, this]
/-- string(bytes). -/
theorem op_bytes_str {l : List UInt8} (hs : P.underlying t = some (.slice e)) (he : P.underlying e = some (.int .u8)) (hd : P.underlying t2 = some .string) (hx : aev T x = some (.sl b o n 1)) (hk : H b = some k) (hc : k.c = .aggB l) (hlen : o + n ≤ l.length) :
    OpSem P T H ⟨d, .convert t t2 x, ty, ps, af, gd⟩ nm wr (.str ((l.drop o).take n)) [] :=
  .reads fun E S a w h hR => by
    have hn : ((l.drop o).take n).length = n := by simp; omega
    obtain ⟨l', s', h3, h4⟩ := hR.blkR hk (by rw [hc]; rfl)
    have hcell : ∀ i, i < l.length → w.cell? ⟨l', i, none⟩ = some (.int .u8 ((l.getD i 0).toNat : Int)) := fun i hi => by
      obtain ⟨_, y, h5, h6⟩ := h4.cell (i := i) (x := .u8 (l.getD i 0)) (by rw [hc]; exact map_nth hi)
      rw [h5, h6.u8_inv]
    rcases (h x mem1 _ hx).sl_inv with ⟨lc, s, c, g1, g2, g3, g4, g5⟩ | ⟨ad, h0, g5⟩
    · rw [g1] at h3; injection h3 with h3; injection h3 with e1 _; subst e1
      have := run_convert_bytes_back (P := P) w t t2 e ⟨lc, o, none⟩ c ((l.drop o).take n) hs he hd (fun j hj => by
        have hj' : j < n := by rw [hn] at hj; exact hj
        rw [add_at, hcell _ (by omega)]
        have : l[o + j]? = some (((l.drop o).take n)[j]) := by
          rw [← List.getElem?_eq_getElem hj, List.getElem?_take, if_pos hj', List.getElem?_drop]
        rw [List.getD_eq_getElem?_getD, this]; rfl)
      rw [hn] at this
      exact ⟨_, by simp [execOp, g5, this], .str _⟩
    · subst h0
      rw [List.take_zero]
      cases ad with
      | some ad =>
        have := run_convert_bytes_back (P := P) w t t2 e ad 0 [] hs he hd (fun j hj => by cases hj)
        simp only [List.length_nil] at this
        exact ⟨_, by simp only [execOp, g5, Sem.run_bind, this]; rfl, .str _⟩
      | none =>
        have : (convert t t2 (.slice none 0 0)).run P w = .ok (.string ⟨([] : List UInt8).toArray⟩) w := by
          unfold convert
          simp only [Sem.run_bind, run_underlying hs, run_underlying hd, Result.andThen_ok, run_underlying he]
          rfl
        exact ⟨_, by simp [execOp, g5, this], .str _⟩
theorem op_nil_str (hs : P.underlying t = some (.slice e)) (he : P.underlying e = some (.int .u8)) (hd : P.underlying t2 = some .string) (hx : aev T x = some .nilsl) : OpSem P T H ⟨d, .convert t t2 x, ty, ps, af, gd⟩ nm wr (.str []) [] :=
  .quiet fun E a w h => by
    have e1 := (h x mem1 _ hx).nilsl_inv
    refine ⟨.string ⟨([] : List UInt8).toArray⟩, ?_, .str _⟩
    have : (convert t t2 (.slice none 0 0)).run P w = .ok (.string ⟨([] : List UInt8).toArray⟩) w := by
      unfold convert
      simp only [Sem.run_bind, run_underlying hs, run_underlying hd, Result.andThen_ok, run_underlying he]
      rfl
    simp [execOp, e1, this]
/-- []byte(string). -/
theorem op_str_bytes {s : List UInt8} (hs : P.underlying t = some .string) (hd : P.underlying t2 = some (.slice e)) (he : P.underlying e = some (.int .u8)) (hx : aev T x = some (.str s)) (hlen : s.length ≤ maxLen) (hne : e ≠ errT := by decide) :
    OpSem P T H ⟨d, .convert t t2 x, ty, ps, af, gd⟩ nm wr (.sl nm 0 s.length 1) [(nm, some ⟨.aggB s, e, true⟩)] :=
  .allocs fun E S a w h hR => by
    have e1 := (h x mem1 _ hx).str_inv
    have hr := run_bytes_of_string (P := P) w t t2 e ⟨s.toArray⟩ hs hd he
    have hsz : (⟨s.toArray⟩ : ByteArray).size = s.length := by simp [ByteArray.size]
    have hcap := grownCap_ge w s.length 0 e
    have hcap2 := grownCap_le_maxLen w s.length 0 e hlen
    rw [hsz] at hr
    have hrow : ∀ cap, (bytesRow (⟨s.toArray⟩ : ByteArray) cap).size = s.length + (cap - s.length) := fun cap => by simp [bytesRow, hsz]
    refine ⟨_, _, _, w.drew, by simp only [execOp, e1, Sem.run_bind, hr]; rfl, rfl, rfl, rfl, rfl, (by first | exact DrOk.refl _ | exact (DrOk.refl _).drew | exact (DrOk.refl _).drew.drew), .sl _ _ _ _ _ _ _ (Emb.put_same _ _ _) hcap hcap2 (by rw [hrow]; omega), ⟨fun _ i hi h => by have := h.1; omega, fun h => absurd h hne, fun h => by cases h⟩, ?_, fun i q hq => ?_⟩
    · rw [hrow]; simp [AV.list, AV.parts]
    · have hi : i < s.length := by have := (List.getElem?_eq_some_iff.1 hq).1; simpa [AV.list, AV.parts] using this
      have hq2 : q = .u8 (s.getD i 0) := by
        have := map_nth (f := AV.u8) (z := 0) hi
        simp only [AV.list, AV.parts, Option.getD_some] at hq
        rw [this] at hq; injection hq with hq; exact hq.symm
      subst hq2
      refine ⟨rfl, .int .u8 ((s.getD i 0).toNat : Int), ?_, .u8 _⟩
      simp only [bytesRow, Array.getElem?_append, Array.size_map]
      have hi2 : i < (⟨s.toArray⟩ : ByteArray).data.size := by simpa using hi
      rw [if_pos hi2, Array.getElem?_map, Array.getElem?_eq_getElem hi2]
      simp [List.getD_eq_getElem?_getD, hi]
/-! Strings. -/
theorem op_addS {s1 s2 : List UInt8} (hx : aev T x = some (.str s1)) (hy : aev T y = some (.str s2)) (h : s1.length + s2.length ≤ 9223372036854775807) : OpSem P T H ⟨d, .binOp .add t x y t', ty, ps, af, gd⟩ nm wr (.str (s1 ++ s2)) [] :=
  op_bin hx hy fun E y1 y2 w h1 h2 => by
    rw [h1.str_inv, h2.str_inv]
    have := run_string_add_sum (P := P) w ⟨s1.toArray⟩ ⟨s2.toArray⟩ (by simp [ByteArray.size]; omega)
    have e : (⟨s1.toArray⟩ ++ ⟨s2.toArray⟩ : ByteArray) = ⟨(s1 ++ s2).toArray⟩ := by apply ByteArray.ext; simp
    rw [e] at this
    exact ⟨_, by simp [eqGuard, binOp, this], .str _⟩
theorem bytes_list (s : List UInt8) : (⟨s.toArray⟩ : ByteArray).toList = s := by rw [ByteArray.toList_eq]
theorem op_eqS {op : BinOp} {s1 s2 : List UInt8} (hx : aev T x = some (.str s1)) (hy : aev T y = some (.str s2)) (hv : (match op with | .eql => some (AV.bool (s1 == s2)) | .neq => some (.bool (s1 != s2)) | _ => none) = some v) :
    OpSem P T H ⟨d, .binOp op t x y t', ty, ps, af, gd⟩ nm wr v [] :=
  op_bin hx hy fun E y1 y2 w h1 h2 => by
    rw [h1.str_inv, h2.str_inv]
    cases op <;> simp only [Option.some.injEq, reduceCtorEq] at hv <;> subst hv
    · exact ⟨.bool (s1 == s2), by simp [eqGuard, binOp, Op.stringOp], .bool _⟩
    · exact ⟨.bool (s1 != s2), by simp [eqGuard, binOp, Op.stringOp, bne], .bool _⟩
theorem op_minI {p q : Int} {ts : Array TypeId} (hx : aev T x = some (.i64 p)) (hy : aev T y = some (.i64 q)) : OpSem P T H ⟨d, .call { callee := .builtin .min, args := #[x, y], argTypes := ts }, ty, ps, af, gd⟩ nm wr (.i64 (min p q)) [] :=
  .quiet fun E a w h => by
    have e1 := (h x (by simp [Op.operands, Call.operands]) _ hx).i64_inv
    have e2 := (h y (by simp [Op.operands, Call.operands]) _ hy).i64_inv
    refine ⟨.int .i64 (min p q), ?_, .i64 _⟩
    have : (if q < p then q else p) = min p q := by simp only [Int.min_def]; split <;> split <;> omega
    simp [execOp, resolve, invoke, builtin, Builtin.min_, Builtin.min2, e1, e2, this]
theorem op_maxI {p q : Int} {ts : Array TypeId} (hx : aev T x = some (.i64 p)) (hy : aev T y = some (.i64 q)) : OpSem P T H ⟨d, .call { callee := .builtin .max, args := #[x, y], argTypes := ts }, ty, ps, af, gd⟩ nm wr (.i64 (max p q)) [] :=
  .quiet fun E a w h => by
    have e1 := (h x (by simp [Op.operands, Call.operands]) _ hx).i64_inv
    have e2 := (h y (by simp [Op.operands, Call.operands]) _ hy).i64_inv
    refine ⟨.int .i64 (max p q), ?_, .i64 _⟩
    have : (if p < q then q else p) = max p q := by simp only [Int.max_def]; split <;> split <;> omega
    simp [execOp, resolve, invoke, builtin, Builtin.max_, Builtin.max2, e1, e2, this]

/-! New slices. -/
def partsOk (T : Nat → Option AV) : List (Nat × Operand) → Nat → List AV → Prop
  | [], _, [] => True
  | (i, x) :: r, j, u :: us => i = j ∧ aev T x = some u ∧ u.one = true ∧ partsOk T r (j + 1) us
  | _, _, _ => False
theorem fill_one {T : Nat → Option AV} {E : Emb} {a : Act} : ∀ (l : List (Nat × Operand)) (j : Nat) (us : List AV) (cells : Array Value), partsOk T l j us → (∀ p ∈ l, ∀ u, aev T p.2 = some u → Rel E u (a.eval p.2)) → j + us.length ≤ cells.size →
    ∃ cells', Instr.fill (fun i => some (i * 1, 1)) cells (l.map fun p => (p.1, a.eval p.2)) = some cells' ∧ cells'.size = cells.size ∧ (∀ i, i < j → cells'[i]? = cells[i]?) ∧ ∀ (i : Nat) q, us[i]? = some q → q.one = true ∧ ∃ y, cells'[j + i]? = some y ∧ Rel E q y
  | [], j, [], cells, _, _, _ => ⟨cells, rfl, rfl, fun _ _ => rfl, fun i q hq => by simp at hq⟩
  | [], _, _ :: _, _, h, _, _ => h.elim
  | _ :: _, _, [], _, h, _, _ => h.elim
  | (i, x) :: r, j, u :: us, cells, h, hr, hsz => by
    obtain ⟨rfl, h1, h2, h3⟩ := h
    have hrel := hr (i, x) List.mem_cons_self u h1
    have hone := hrel.one h2
    have hcells : (a.eval x).cells = #[a.eval x] := by
      cases hq : a.eval x <;> first | rfl | (rw [hq] at hone; cases hone)
    simp at hsz
    obtain ⟨cells', g1, g2, g3, g4⟩ := fill_one r (i + 1) us (cells.setIfInBounds i (a.eval x)) h3 (fun p hp => hr p (List.mem_cons_of_mem _ hp)) (by simp; omega)
    refine ⟨cells', ?_, by simpa using g2, fun j hj => ?_, fun j q hq => ?_⟩
    · simp only [List.map_cons, Instr.fill, hcells]
      rw [if_neg (by simp; omega)]
      simpa using g1
    · rw [g3 j (by omega), Array.getElem?_setIfInBounds, if_neg (by omega)]
    · match j, hq with
      | 0, hq =>
        simp at hq; subst hq
        refine ⟨h2, a.eval x, ?_, hrel⟩
        rw [Nat.add_zero, g3 i (by omega), Array.getElem?_setIfInBounds, if_pos rfl, if_pos (by omega)]
      | j + 1, hq =>
        have := g4 j q (by simpa using hq)
        rwa [show i + 1 + j = i + (j + 1) by omega] at this
theorem op_buildSlice {us : List AV} {ie : TypeInfo} {zv : Value} {len : Nat} {parts : Array (Nat × Operand)} (hu : P.underlying t = some (.slice e)) (hie : P.info? e = some ie) (hz : ie.zero = some zv) (hsz : ie.size = 1) (hlen : us.length = len) (hpos : 0 < len) (hsm : len ≤ 65536)
    (hp : partsOk T parts.toList 0 us) (hc : c.list = us) (hm0 : c.isMap = false := by first | rfl | assumption | exact AV.map_parts (by assumption)) : OpSem P T H ⟨d, .buildSlice t len parts, ty, ps, af, gd⟩ nm wr (.sl nm 0 len 1) [(nm, some ⟨c, e, true⟩)] :=
  .allocs fun E S a w h hR => by
    obtain ⟨cells', g1, g2, _, g4⟩ := fill_one (E := E) (a := a) parts.toList 0 us ((Array.range (len * ie.size)).map (zv.cells[· % zv.cells.size]!)) hp (fun p hp => h p.2 (by simp only [Op.operands]; simp; exact ⟨p.1, by simpa using hp⟩)) (by simp [hsz, hlen])
    have hf : Instr.fill (fun i => some (i * ie.size, ie.size)) ((Array.range (len * ie.size)).map (zv.cells[· % zv.cells.size]!)) (parts.map fun (i, x) => (i, a.eval x)).toList = some cells' := by
      rw [hsz] at g1 ⊢; rw [Array.toList_map]; exact g1
    have hr := run_buildSlice (P := P) w t e len _ cells' ie zv hu hie hz (by rw [hsz]; omega) (by rw [hsz]; omega) hf
    have hs' : cells'.size = len := by rw [g2]; simp [hsz]
    refine ⟨_, cells', (0, 0), w, by simp only [execOp, Sem.run_bind, hr]; rfl, rfl, rfl, rfl, rfl, (by first | exact DrOk.refl _ | exact (DrOk.refl _).drew | exact (DrOk.refl _).drew.drew), .sl _ _ _ _ _ _ _ (Emb.put_same _ _ _) (Nat.le_refl _) (by unfold maxLen; omega) (by omega), FzOk.zero _ _, by rw [hc]; omega, fun i q hq => ?_⟩
    rw [hc] at hq
    have := g4 i q hq
    rwa [Nat.zero_add] at this
theorem op_buildSlice0 {ie : TypeInfo} (hu : P.underlying t = some (.slice e)) (hie : P.info? e = some ie) (hc : c.list = []) (hm0 : c.isMap = false := by first | rfl | assumption | exact AV.map_parts (by assumption)) : OpSem P T H ⟨d, .buildSlice t 0 #[], ty, ps, af, gd⟩ nm wr (.sl nm 0 0 z) [(nm, some ⟨c, e, true⟩)] :=
  .allocs fun E S a w h hR => by
    have hr : (Instr.buildSlice t 0 #[]).run P w = .ok (.slice (some ⟨w.heap.size, 0, none⟩) 0 0) (w.alloc (.cells #[] e)) := by
      simp [Instr.buildSlice, run_underlying hu, sizeOf, typeInfo, hie, newRow, Instr.fill, Array.range_zero']
    exact ⟨_, #[], (0, 0), w, by simp only [execOp, Sem.run_bind]; rw [show (Array.map (fun x : Nat × Operand => (x.fst, a.eval x.snd)) #[]) = #[] by simp, hr]; rfl, rfl, rfl, rfl, rfl, (by first | exact DrOk.refl _ | exact (DrOk.refl _).drew | exact (DrOk.refl _).drew.drew), .sl _ _ _ _ _ _ _ (Emb.put_same _ _ _) (Nat.le_refl _) (by unfold maxLen; omega) (by simp), FzOk.zero _ _, by rw [hc]; simp, fun i q hq => by rw [hc] at hq; simp at hq⟩
theorem op_makeSlice {ie : TypeInfo} {zv : Value} {jl jc : Int} (ht : P.underlying t = some (.slice e)) (hi : P.info? e = some ie) (hz : ie.zero = some zv) (hsz : ie.size = 1) (hby : ie.bytes ≤ 64) (hx : aev T x = some (.i64 jl)) (hy : aev T y = some (.i64 jc)) (hl : jl = (n : Int)) (hcc : jc = (n : Int)) (hn : n ≤ 1000000000)
    (hr0 : Rel Emb.nil u zv) (h1 : u.one = true) (hc : c.list = List.replicate n u) (hm0 : c.isMap = false := by first | rfl | assumption | exact AV.map_parts (by assumption)) : OpSem P T H ⟨d, .makeSlice t x y, ty, ps, af, gd⟩ nm wr (.sl nm 0 n 1) [(nm, some ⟨c, e, true⟩)] :=
  .allocs fun E S a w h hR => by
    subst hl; subst hcc
    have e1 := (h x mem21 _ hx).i64_inv
    have e2 := (h y mem22 _ hy).i64_inv
    have hbb : (ie.bytes : Int) * (n : Int) ≤ 281474976710656 := by
      have : ((ie.bytes * n : Nat) : Int) ≤ ((64 * 1000000000 : Nat) : Int) := Int.ofNat_le.2 (Nat.mul_le_mul hby hn)
      rw [Int.natCast_mul] at this; omega
    have hr := run_make (P := P) w t e ie zv ht hi hz .i64 .i64 n n (by omega) (Int.le_refl _) hbb (by omega)
    simp only [Int.toNat_natCast, hsz, Nat.mul_one] at hr
    have hr' := hr0.mono (Emb.nil_le E)
    have hone := hr0.one h1
    have hcells : zv.cells = #[zv] := by
      cases hq : zv <;> first | rfl | (rw [hq] at hone; cases hone)
    rw [hcells] at hr
    have htl := toList_madeCells_one zv n
    refine ⟨_, madeCells #[zv] n, (0, 0), w, by simp only [execOp, e1, e2, Sem.run_bind, hr]; rfl, rfl, rfl, rfl, rfl, (by first | exact DrOk.refl _ | exact (DrOk.refl _).drew | exact (DrOk.refl _).drew.drew), .sl _ _ _ _ _ _ _ (Emb.put_same _ _ _) (Nat.le_refl _) (by unfold maxLen; omega) (by rw [size_madeCells]; omega), FzOk.zero _ _, by rw [hc, size_madeCells]; simp, fun i q hq => ?_⟩
    rw [hc, List.getElem?_replicate] at hq
    split at hq
    · rename_i hi; injection hq with hq; subst hq
      refine ⟨h1, zv, ?_, hr'⟩
      rw [← Array.getElem?_toList, htl, List.getElem?_replicate, if_pos hi]
    · cases hq
end
end Go.Proofs.YtdpdmgbdipokdaaDoor
namespace Go.Proofs.YtdpdmgbdipokdaaDoor
open Go.RowKit

section
variable {P : Program} {T : Nat → Option AV} {H : Hp} {nm : Nat} {wr : Bool} {v u u1 u2 c c' : AV} {d : Option Tmp} {ty : TypeId} {ps : String} {af : Array Edge} {gd : Option (Nat × Bool)} {t t' t2 e : TypeId} {x y : Operand} {dd d2 : TypeDesc} {b o n z i m b2 o2 cp : Nat} {k k2 : ABlk}
/-- One of the call's own blocks goes over to a new name. -/
theorem RH.move {E : Emb} {S : Nat → Prop} {w : World} {kk : ABlk} (h : RH E S (upd [(b, some kk)] H) w) {l s : Nat} (he : E b = some (l, s)) (hn : E nm = none) : RH (E.put nm (l, s)) S (upd [(nm, some kk), (b, none)] H) w := by
  have hle := Emb.put_le (E := E) (b := nm) (p := (l, s)) hn
  have hbn : b ≠ nm := fun e => by subst e; rw [hn] at he; cases he
  have key : ∀ q kq, upd [(nm, some kk), (b, none)] H q = some kq → (q = nm ∧ kq = kk) ∨ (q ≠ nm ∧ q ≠ b ∧ H q = some kq) := fun q kq hq => by
    have e : upd [(nm, some kk), (b, none)] H = upd [(nm, some kk)] (upd [(b, none)] H) := by
      funext r; simp only [upd, lk]; cases Nat.beq nm r <;> rfl
    rw [e, upd_one] at hq
    split at hq
    · rename_i e; injection hq with hq; exact .inl ⟨e, hq.symm⟩
    · rename_i e1
      rw [upd_one] at hq
      split at hq
      · cases hq
      · rename_i e2; exact .inr ⟨e1, e2, hq⟩
  have old : ∀ q kq, q ≠ b → H q = some kq → upd [(b, some kk)] H q = some kq := fun q kq hq h => by rw [upd_one, if_neg hq]; exact h
  have self : upd [(b, some kk)] H b = some kk := by rw [upd_one, if_pos rfl]
  have ne : ∀ q kq, q ≠ b → H q = some kq → q ≠ nm := fun q kq hq hh e => by
    subst e; obtain ⟨l', s', h1, _⟩ := h.blk q kq (old q kq hq hh); rw [hn] at h1; cases h1
  refine ⟨fun q kq hq => ?_, fun q q' k1 k2 l1 s1 s2 h1 h2 h3 h4 h5 => ?_, fun q kq l1 s1 h1 h2 h3 => ?_, fun a L s2 ha => ⟨(h.deep a L s2 ha).1, fun q kq s1 h1 h2 h3 => ?_⟩⟩
  rotate_right 1
  · rcases key q kq h1 with ⟨rfl, rfl⟩ | ⟨e1, e2, e3⟩
    · rw [Emb.put_same] at h3; injection h3 with h3; injection h3 with h3 _; subst h3
      exact (h.deep l L s2 ha).2 b kq s self h2 he
    · rw [Emb.put_other _ _ e1] at h3
      exact (h.deep a L s2 ha).2 q kq s1 (old _ _ e2 e3) h2 h3
  · rcases key q kq hq with ⟨rfl, rfl⟩ | ⟨e1, e2, e3⟩
    · obtain ⟨l', s', g1, g2⟩ := h.blk b kq self
      rw [he] at g1; injection g1 with g1; injection g1 with g1 g3; subst g1; subst g3
      exact ⟨l, s, Emb.put_same _ _ _, g2.mono hle rfl⟩
    · obtain ⟨l', s', g1, g2⟩ := h.blk q kq (old q kq e2 e3)
      exact ⟨l', s', hle.1 _ _ g1, g2.mono hle rfl⟩
  · rcases key q k1 h1 with ⟨rfl, rfl⟩ | ⟨e1, e2, e3⟩ <;> rcases key q' k2 h2 with ⟨rfl, rfl⟩ | ⟨f1, f2, f3⟩
    · rfl
    · rw [Emb.put_same] at h4; rw [Emb.put_other _ _ f1] at h5
      injection h4 with h4; injection h4 with h4 _; subst h4
      exact absurd (h.inj b q' k1 k2 l s s2 self (old _ _ f2 f3) h3 he h5).symm f2
    · rw [Emb.put_same] at h5; rw [Emb.put_other _ _ e1] at h4
      injection h5 with h5; injection h5 with h5 _; subst h5
      exact absurd (h.inj q b k1 k2 l s1 s (old _ _ e2 e3) self h3 h4 he) e2
    · rw [Emb.put_other _ _ e1] at h4; rw [Emb.put_other _ _ f1] at h5
      exact h.inj q q' k1 k2 l1 s1 s2 (old _ _ e2 e3) (old _ _ f2 f3) h3 h4 h5
  · rcases key q kq h1 with ⟨rfl, rfl⟩ | ⟨e1, e2, e3⟩
    · rw [Emb.put_same] at h3; injection h3 with h3; injection h3 with h3 _; subst h3
      exact h.own b kq l s self h2 he
    · rw [Emb.put_other _ _ e1] at h3
      exact h.own q kq l1 s1 (old _ _ e2 e3) h2 h3
/-- What append may take from: a string or a slice. -/
def notInt (d : TypeDesc) : Prop := d = .string ∨ ∃ e, d = .slice e
/-- What append and copy take from: m elements of z cells each, which read as cs. -/
def Srcs (P : Program) (T : Nat → Option AV) (H : Hp) (y : Operand) (z m : Nat) (cs : List AV) : Prop :=
  cs.length = m * z ∧ ∀ (E : Emb) (S : Nat → Prop) (a : Act) (w : World), (∀ u, aev T y = some u → Rel E u (a.eval y)) → RH E S H w →
    ∃ news : List Value, news.length = m * z ∧ (∀ (i : Nat) q, cs[i]? = some q → q.one = true ∧ ∃ yv, news[i]? = some yv ∧ Rel E q yv) ∧
      ∀ w' : World, w'.heap = w.heap → (Builtin.lenOf (a.eval y)).run P w' = .ok m w' ∧ ∀ r, r ≤ m → (Builtin.firstCells z r (a.eval y)).run P w' = .ok (news.take (r * z)).toArray w'
theorem srcs_sl (hy : aev T y = some (.sl b o m z)) (hk : H b = some k) (hlen : o + m * z ≤ k.c.len) (hw0 : k.c.rowWhole = true := by rfl) (hmp : k.c.isMap = false := by first | rfl | assumption | exact AV.map_parts (by assumption)) : Srcs P T H y z m ((k.c.list.drop o).take (m * z)) := by
  have hl := len_list k.c
  refine ⟨by simp; omega, fun E S a w hop hR => ?_⟩
  obtain ⟨l', s', h3, arr, tq, fz, g1, g2, g3, g4, g5⟩ := hR.blkR hk hmp
  rcases (hop _ hy).sl_inv with ⟨lc, s, c, q1, q2, q3, q4, q5⟩ | ⟨ad, h0, q5⟩
  · rw [q1] at h3; injection h3 with h3; injection h3 with e1 e2; subst e1; subst e2
    refine ⟨(arr.toList.drop o).take (m * z), by simp; omega, fun i q hq => ?_, fun w' hw => ⟨by rw [q5]; rfl, fun r hr => ?_⟩⟩
    · rw [List.getElem?_take] at hq ⊢
      split at hq
      · rename_i hi
        rw [if_pos hi]
        rw [List.getElem?_drop] at hq ⊢
        obtain ⟨p1, yv, p2, p3⟩ := g5 (o + i) q hq
        exact ⟨cell_one hw0 hq p1, yv, by simpa using p2, p3⟩
      · cases hq
    · rw [q5]
      have hrz : r * z ≤ m * z := Nat.mul_le_mul_right _ hr
      have hlen2 : (((arr.toList.drop o).take (m * z)).take (r * z)).length = r * z := by simp; omega
      exact run_firstCells_some (P := P) w' z r ⟨lc, o, none⟩ m c _ hlen2 (fun j v hj => by
        rw [add_at, World.cell?_of_block (w := w) (a := ⟨lc, o + j, none⟩) (by rw [hw]), cell_of_row w lc (o + j) arr tq fz g1]
        rw [List.getElem?_take] at hj
        split at hj
        · rw [List.getElem?_take] at hj
          split at hj
          · rw [List.getElem?_drop] at hj; simpa using hj
          · cases hj
        · cases hj)
  · subst h0
    refine ⟨[], by simp, fun i q hq => by simp at hq, fun w' hw => ⟨by rw [q5]; rfl, fun r hr => ?_⟩⟩
    have hr0 : r = 0 := by omega
    subst hr0
    rw [q5]
    cases ad with
    | none => simp [Builtin.firstCells]
    | some ad =>
      have := run_firstCells_some (P := P) w' z 0 ad 0 0 [] (by simp) (fun j v hj => by cases hj)
      simpa using this
theorem srcs_str {s : List UInt8} (hy : aev T y = some (.str s)) : Srcs P T H y 1 s.length (s.map .u8) := by
  refine ⟨by simp, fun E S a w hop hR => ?_⟩
  have e1 := (hop _ hy).str_inv
  refine ⟨s.map fun q => .int .u8 (q.toNat : Int), by simp, fun i q hq => ?_, fun w' hw => ⟨by rw [e1]; simp [Builtin.lenOf, ByteArray.size], fun r hr => ?_⟩⟩
  · obtain ⟨p, hp, rfl⟩ := get_map_some hq
    exact ⟨rfl, .int .u8 (p.toNat : Int), by simp [hp], .u8 _⟩
  · rw [e1]
    simp only [Builtin.firstCells, Sem.run_pure, Nat.mul_one]
    congr 1
    apply Array.ext'
    rw [ByteArray.data_extract]
    simp [List.extract_eq_take_drop, List.map_take]
theorem srcs_nil (hy : aev T y = some .nilsl) : Srcs P T H y z 0 [] := by
  refine ⟨by simp, fun E S a w hop hR => ?_⟩
  have e1 := (hop _ hy).nilsl_inv
  refine ⟨[], by simp, fun i q hq => by simp at hq, fun w' hw => ⟨by rw [e1]; rfl, fun r hr => ?_⟩⟩
  have hr0 : r = 0 := by omega
  subst hr0
  rw [e1]; simp [Builtin.firstCells]
theorem run_app_room (w w' : World) {i : TypeInfo} (ht : P.underlying t = some (.slice e)) (ht2 : P.underlying t2 = some d2) (hd2 : notInt d2) (hi : P.info? e = some i)
    (ad : Addr) (n cp m : Nat) (yv : Value) (news : List Value) (hlen : (Builtin.lenOf yv).run P w = .ok m w) (hf : (Builtin.firstCells i.size m yv).run P w = .ok news.toArray w) (hroom : n + m ≤ cp)
    (hst : (storeCells (ad.add (n * i.size)) news).run P w = .ok () w') :
    (Builtin.append_ #[t, t2] ty #[.slice (some ad) n cp, yv]).run P w = .ok (.slice (some ad) (n + m) cp) w' := by
  rcases hd2 with rfl | ⟨e2, rfl⟩ <;> simp [Builtin.append_, run_underlying ht, run_underlying ht2, sizeOf, typeInfo, hi, hlen, hroom, hf, hst]
theorem run_app_grow (w : World) {i : TypeInfo} {zv : Value} (ht : P.underlying t = some (.slice e)) (ht2 : P.underlying t2 = some d2) (hd2 : notInt d2) (hi : P.info? e = some i) (hz : i.zero = some zv)
    (sv : Value) (base : Option Addr) (hsv : sv = .slice base n cp) (m : Nat) (yv : Value) (olds news : List Value)
    (hlen : (Builtin.lenOf yv).run P w = .ok m w) (hf : (Builtin.firstCells i.size m yv).run P w.drew = .ok news.toArray w.drew) (hfo : (Builtin.firstCells i.size n sv).run P w.drew = .ok olds.toArray w.drew) (hroom : cp < n + m)
    (h63 : n + m ≤ 9223372036854775807) (hfit : (n + m) * i.bytes ≤ 140737488355328) :
    (Builtin.append_ #[t, t2] ty #[sv, yv]).run P w = .ok (.slice (some ⟨w.heap.size, 0, none⟩) (n + m) (grownCap w (n + m) cp e))
      (w.drew.alloc (.cells (olds.toArray ++ news.toArray ++ Builtin.zeroCells zv.cells (grownCap w (n + m) cp e - (n + m))) e)) := by
  subst hsv
  have hn : ¬ (n + m ≤ cp) := by omega
  have h63' : ¬ (9223372036854775807 < ((n : Int) + (m : Int))) := by omega
  have h48 := growslice_fits hroom hfit
  have h48' : ¬ (281474976710656 < Builtin.nextslicecap (n + m) cp * i.bytes) := by omega
  rcases hd2 with rfl | ⟨e2, rfl⟩ <;> simp [Builtin.append_, run_underlying ht, run_underlying ht2, sizeOf, typeInfo, zeroValue, hi, hz, hlen, hn, h63', h48', Question.forced, hf, hfo, newRow, grownCap] <;> exact congrArg (fun q => w.drew.alloc (Obj.cells q e)) (Array.ext' (by simp))
/-- append to one of the call's own slices, which is known whole. -/
theorem op_append {ie : TypeInfo} {zv : Value} {cs : List AV} (ht : P.underlying t = some (.slice e)) (ht2 : P.underlying t2 = some d2) (hd2 : notInt d2) (hi : P.info? e = some ie) (hz : ie.zero = some zv) (hzs : zv.cells.size = ie.size) (hsz : ie.size = z) (hby : ie.bytes ≤ 4096)
    (hx : aev T x = some (.sl b 0 n z)) (hk : H b = some k) (hown : k.own = true) (hke : k.elem = e) (hn : k.c.len = n * z) (hs : Srcs P T H y z m cs) (hc : c'.list = k.c.list ++ cs) (hlim : n + m ≤ 10000000000) (hmp : k.c.isMap = false := by first | rfl | assumption | exact AV.map_parts (by assumption)) (hmc : c'.isMap = false := by first | rfl | assumption | exact AV.map_parts (by assumption)) :
    OpSem P T H ⟨d, .call { callee := .builtin .append, args := #[x, y], argTypes := #[t, t2] }, ty, ps, af, gd⟩ nm wr (.sl nm 0 (n + m) z) [(nm, some ⟨c', e, true⟩), (b, none)] := by
  intro E S n0 H2 a w hS hn0 _ _ hwr hle hop hR hf K Q hK
  have hRl := hR.less hle
  replace hk := hle b k hk
  subst hsz
  have hfit : (n + m) * ie.bytes ≤ 140737488355328 := by
    have := Nat.mul_le_mul hlim hby; omega
  have hrx := hop x (by simp [Op.operands, Call.operands]) _ hx
  obtain ⟨hcl, hsr⟩ := hs
  obtain ⟨news, s1, s2, s3⟩ := hsr E S a w (fun u hu => hop y (by simp [Op.operands, Call.operands]) u hu) hRl
  obtain ⟨l', s', h3, arr, tq, fz, g1, g2, g3, g4, g5⟩ := hR.blkR hk hmp
  have hll := len_list k.c
  have hone : ∀ q ∈ news, q.oneCell' = true := fun q hq => by
    obtain ⟨i, hi, rfl⟩ := List.mem_iff_getElem.1 hq
    have hi' : i < cs.length := by omega
    obtain ⟨p1, yv, p2, p3⟩ := s2 i cs[i] (List.getElem?_eq_getElem hi')
    rw [List.getElem?_eq_getElem hi] at p2; injection p2 with p2
    rw [p2]; exact p3.one p1
  have hEn := hf nm (Nat.le_refl _) (by omega)
  have hbn : b ≠ nm := fun e => by subst e; rw [hEn] at h3; cases h3
  have hc'len : c'.list.length = (n + m) * ie.size := by rw [hc, List.length_append, hll, hn, hcl, Nat.add_mul]
  have hput : ∀ q p, (∀ r, (lk [(nm, some (⟨c', e, true⟩ : ABlk)), (b, none)] r = none ∨ ¬ (nm ≤ r ∧ r < nm + 8)) → (E.put nm (q, p)) r = E r) := fun q p r hr => by
    refine Emb.put_other _ _ (fun e => ?_)
    subst e
    rcases hr with hr | hr
    · simp [lk] at hr
    · exact hr ⟨Nat.le_refl _, by omega⟩
  have hrunop : ∀ vv ww, (Builtin.append_ #[t, t2] ty #[a.eval x, a.eval y]).run P w = .ok vv ww → (execOp a.eval ⟨d, .call { callee := .builtin .append, args := #[x, y], argTypes := #[t, t2] }, ty, ps, af, gd⟩).run P w = .ok (.value vv) ww := fun vv ww hh => by
    simp [execOp, resolve, invoke, builtin, hh]
  have hmz : news.take (m * ie.size) = news := List.take_of_length_le (by omega)
  -- the state that is left in place
  have inplace : ∀ (ad : Option Addr) (cp : Nat), a.eval x = .slice ad n cp → n + m ≤ cp → cp ≤ maxLen → (ad = some ⟨l', 0, none⟩ ∧ cp * ie.size ≤ s' ∨ cp = 0) → ∃ y' w' E', (Builtin.append_ #[t, t2] ty #[a.eval x, a.eval y]).run P w = .ok y' w' ∧
      (∀ r, (lk [(nm, some (⟨c', e, true⟩ : ABlk)), (b, none)] r = none ∨ ¬ (nm ≤ r ∧ r < nm + 8)) → E' r = E r) ∧ Rel E' (.sl nm 0 (n + m) ie.size) y' ∧ RH E' S (upd [(nm, some ⟨c', e, true⟩), (b, none)] H2) w' ∧ Fr S w w' ∧ Emb.dx S E E' := by
    intro ad cp hax hroom hcpm had
    have hS' : S l' := hR.own b k l' s' hk hown h3
    rcases had with ⟨rfl, hfits⟩ | rfl
    · have hle2 : (n + m) * ie.size ≤ cp * ie.size := Nat.mul_le_mul_right _ hroom
      rw [Nat.add_mul] at hle2
      obtain ⟨arr', hr, hsz', hv⟩ := run_storeCells_gen P l' (n * ie.size) tq fz news 0 arr w g1 (by rw [g2]; exact g3.1.w hown) (by omega) hone
      have hst : (storeCells ((⟨l', 0, none⟩ : Addr).add (n * ie.size)) news).run P w = .ok () (w.setRow l' arr') := by rw [add_at, Nat.zero_add]; exact hr
      have h4 := s3 w rfl
      have hff := h4.2 m (Nat.le_refl _)
      rw [hmz] at hff
      have hrun := run_app_room (P := P) (ty := ty) w _ ht ht2 hd2 hi ⟨l', 0, none⟩ n cp m (a.eval y) news h4.1 hff hroom hst
      refine ⟨_, _, E.put nm (l', s'), by rw [hax]; exact hrun, hput _ _, .sl _ _ _ _ l' s' cp (Emb.put_same _ _ _) hroom hcpm (by omega), ?_, Fr.setRow w l' arr' hS', Emb.dx_refl _ _⟩
      have hw := hR.write hk hown h3 arr arr' tq fz g1 hsz' c' (by rw [hc'len, Nat.add_mul]; omega) (fun i q hq => by
        rw [hc] at hq
        rw [hv]
        by_cases hi : i < k.c.list.length
        · rw [List.getElem?_append_left hi] at hq
          rw [if_neg (by omega)]
          exact g5 i q hq
        · rw [List.getElem?_append_right (by omega)] at hq
          have hi2 : i - k.c.list.length < cs.length := (List.getElem?_eq_some_iff.1 hq).1
          rw [if_pos (by omega)]
          have := s2 _ q hq
          rw [show i - k.c.list.length = i - (n * ie.size + 0) by omega] at this
          exact ⟨AV.cell_of this.1, this.2⟩)
      have := RH.move (nm := nm) (kk := { k with c := c' }) hw h3 hEn
      rwa [show ({ k with c := c' } : ABlk) = ⟨c', e, true⟩ by rw [← hke, ← hown]] at this
    · have hnz : n = 0 := by omega
      have hmz0 : m = 0 := by omega
      subst hnz; subst hmz0
      have hn0' : news = [] := List.eq_nil_of_length_eq_zero (by simpa using s1)
      subst hn0'
      have h4 := s3 w rfl
      have hff := h4.2 0 (Nat.le_refl _)
      simp only [Nat.zero_mul, List.take_zero] at hff
      have hrun : (Builtin.append_ #[t, t2] ty #[.slice ad 0 0, a.eval y]).run P w = .ok (.slice ad 0 0) w := by
        cases ad with
        | some ad => exact run_app_room (P := P) (ty := ty) w w ht ht2 hd2 hi ad 0 0 0 (a.eval y) [] h4.1 hff (Nat.le_refl _) (by simp [storeCells])
        | none => rcases hd2 with rfl | ⟨e2, rfl⟩ <;> simp [Builtin.append_, run_underlying ht, run_underlying ht2, sizeOf, typeInfo, hi, h4.1, hff]
      refine ⟨_, _, E.put nm (l', s'), by rw [hax]; exact hrun, hput _ _, .sl0 _ _ _ _, ?_, Fr.refl _ _, Emb.dx_refl _ _⟩
      have hcn : c'.list = [] := List.eq_nil_of_length_eq_zero (by rw [hc'len]; simp)
      have hw : RH E S (upd [(b, some { k with c := c' })] H2) w := by
        have hself : w.setRow l' arr = w := by
          obtain ⟨arr2, r1, r2, r3⟩ := run_storeCells_gen P l' 0 tq fz [] 0 arr w g1 (by rw [g2]; exact g3.1.w hown) (by simp) (by simp)
          have : arr2 = arr := Array.ext_getElem? fun j => by rw [r3 j, if_neg (by simp)]
          subst this
          simp [storeCells] at r1
          exact r1.symm
        have := hR.write hk hown h3 arr arr tq fz g1 rfl c' (by rw [hcn]; simp) (fun i q hq => by rw [hcn] at hq; simp at hq)
        rwa [hself] at this
      have := RH.move (nm := nm) (kk := { k with c := c' }) hw h3 hEn
      rwa [show ({ k with c := c' } : ABlk) = ⟨c', e, true⟩ by rw [← hke, ← hown]] at this
  have grow : ∀ (ad : Option Addr) (cp : Nat), a.eval x = .slice ad n cp → cp < n + m → (∀ (j : Nat) v, (arr.toList.take (n * ie.size))[j]? = some v → ∃ q, ad = some q ∧ w.cell? (q.add j) = some v) → (ad = none → n = 0) → ∃ y' w' E', (Builtin.append_ #[t, t2] ty #[a.eval x, a.eval y]).run P w = .ok y' w' ∧
      (∀ r, (lk [(nm, some (⟨c', e, true⟩ : ABlk)), (b, none)] r = none ∨ ¬ (nm ≤ r ∧ r < nm + 8)) → E' r = E r) ∧ Rel E' (.sl nm 0 (n + m) ie.size) y' ∧ RH E' S (upd [(nm, some ⟨c', e, true⟩), (b, none)] H2) w' ∧ Fr S w w' ∧ Emb.dx S E E' := by
    intro ad cp hax hroom hcell hnone
    have h4 := s3 w rfl
    have h5 := (s3 w.drew rfl).2 m (Nat.le_refl _)
    rw [hmz] at h5
    have hol : (arr.toList.take (n * ie.size)).length = n * ie.size := by simp; omega
    have hfo : (Builtin.firstCells ie.size n (a.eval x)).run P w.drew = .ok (arr.toList.take (n * ie.size)).toArray w.drew := by
      rw [hax]
      cases ad with
      | some ad =>
        refine run_firstCells_some (P := P) w.drew ie.size n ad n cp (arr.toList.take (n * ie.size)) hol fun j v hj => ?_
        obtain ⟨q, hq, hc⟩ := hcell j v hj
        injection hq with hq; subst hq; exact hc
      | none => rw [hnone rfl]; simp [Builtin.firstCells]
    have hrun := run_app_grow (P := P) (ty := ty) w ht ht2 hd2 hi hz (a.eval x) ad hax m (a.eval y) (arr.toList.take (n * ie.size)) news h4.1 h5 hfo hroom (by omega) hfit
    have hcap := grownCap_ge w (n + m) cp e
    have hcap2 := grownCap_le_maxLen w (n + m) cp e (by unfold maxLen; omega)
    have hR' : RH E S (upd [(b, none)] H2) w.drew := (hR.less fun q kq hq => by
      rw [upd_one] at hq
      split at hq
      · cases hq
      · exact hq).drew
    have hsize : ((arr.toList.take (n * ie.size)).toArray ++ news.toArray ++ Builtin.zeroCells zv.cells (grownCap w (n + m) cp e - (n + m))).size = grownCap w (n + m) cp e * ie.size := by
      simp only [Array.size_append, List.size_toArray, hol, s1, size_zeroCells, hzs, ← Nat.add_mul]
      congr 1; omega
    have hal := hR'.allocC (b := nm) (hS _ hn0) hEn ⟨c', e, true⟩ ((arr.toList.take (n * ie.size)).toArray ++ news.toArray ++ Builtin.zeroCells zv.cells (grownCap w (n + m) cp e - (n + m))) (0, 0) (FzOk.zero _ _)
      (by rw [hc'len, hsize]; exact Nat.mul_le_mul_right _ hcap) (fun i q hq => by
        have hq' : (k.c.list ++ cs)[i]? = some q := by rw [← hc]; exact hq
        by_cases hi : i < k.c.list.length
        · rw [List.getElem?_append_left hi] at hq'
          obtain ⟨p1, yv, p2, p3⟩ := g5 i q hq'
          refine ⟨p1, yv, ?_, p3⟩
          rw [Array.append_assoc, Array.getElem?_append_left (by simp; omega)]
          simp only [List.getElem?_toArray, List.getElem?_take]
          rw [if_pos (by omega)]; simpa using p2
        · rw [List.getElem?_append_right (by omega)] at hq'
          obtain ⟨p1, yv, p2, p3⟩ := s2 _ q hq'
          have hi2 : i - k.c.list.length < cs.length := (List.getElem?_eq_some_iff.1 hq').1
          refine ⟨AV.cell_of p1, yv, ?_, p3⟩
          rw [Array.append_assoc, Array.getElem?_append_right (by simp; omega), Array.getElem?_append_left (by simp; omega)]
          simp only [List.size_toArray, hol, List.getElem?_toArray]
          rwa [show i - n * ie.size = i - k.c.list.length by omega])
    have e2 : upd [(nm, some (⟨c', e, true⟩ : ABlk)), (b, none)] H2 = upd [(nm, some ⟨c', e, true⟩)] (upd [(b, none)] H2) := by
      funext r; simp only [upd, lk]; cases Nat.beq nm r <;> rfl
    replace hal := hal rfl
    rw [← e2] at hal
    refine ⟨_, _, _, hrun, ?_, ?_, hal, (Fr.refl S w).drew.trans (Fr.alloc S w.drew _), Emb.dx_refl _ _⟩
    · exact hput _ _
    · exact .sl _ _ _ _ _ _ _ (Emb.put_same _ _ _) hcap hcap2 (by rw [hsize]; omega)
  have both : ∃ y' w' E', (Builtin.append_ #[t, t2] ty #[a.eval x, a.eval y]).run P w = .ok y' w' ∧
      (∀ r, (lk [(nm, some (⟨c', e, true⟩ : ABlk)), (b, none)] r = none ∨ ¬ (nm ≤ r ∧ r < nm + 8)) → E' r = E r) ∧ Rel E' (.sl nm 0 (n + m) ie.size) y' ∧ RH E' S (upd [(nm, some ⟨c', e, true⟩), (b, none)] H2) w' ∧ Fr S w w' ∧ Emb.dx S E E' := by
    rcases hrx.sl_inv with ⟨lc, s, cp, q1, q2, q3, q4, q5⟩ | ⟨ad, hz0, q5⟩
    · rw [q1] at h3; injection h3 with h3; injection h3 with e1 e2; subst e1; subst e2
      by_cases hroom : n + m ≤ cp
      · exact inplace _ cp q5 hroom q3 (.inl ⟨rfl, by omega⟩)
      · refine grow _ cp q5 (by omega) (fun j v hj => ⟨_, rfl, ?_⟩) (fun h => by cases h)
        rw [add_at, Nat.zero_add, cell_of_row w lc j arr tq fz g1]
        rw [List.getElem?_take] at hj
        split at hj
        · simpa using hj
        · cases hj
    · subst hz0
      by_cases hroom : 0 + m ≤ 0
      · exact inplace ad 0 q5 hroom (Nat.zero_le _) (.inr rfl)
      · exact grow ad 0 q5 (by omega) (fun j v hj => by simp at hj) (fun _ => rfl)
  obtain ⟨y', w', E', r1, r2, r3, r4, r5, r6⟩ := both
  unfold Oper.wp
  rw [hrunop _ _ r1]
  exact hK y' w' E' r2 r6 r3 r4 r5
/-- append to nil, of one element or more. -/
theorem op_append_nil {ie : TypeInfo} {zv : Value} {cs : List AV} (ht : P.underlying t = some (.slice e)) (ht2 : P.underlying t2 = some d2) (hd2 : notInt d2) (hi : P.info? e = some ie) (hz : ie.zero = some zv) (hzs : zv.cells.size = ie.size) (hsz : ie.size = z) (hby : ie.bytes ≤ 4096)
    (hx : aev T x = some .nilsl) (hs : Srcs P T H y z m cs) (hc : c'.list = cs) (h0 : 0 < m) (hlim : m ≤ 10000000000) (hm0 : c'.isMap = false := by first | rfl | assumption | exact AV.map_parts (by assumption)) :
    OpSem P T H ⟨d, .call { callee := .builtin .append, args := #[x, y], argTypes := #[t, t2] }, ty, ps, af, gd⟩ nm wr (.sl nm 0 m z) [(nm, some ⟨c', e, true⟩)] :=
  .allocs fun E S a w hop hR => by
    subst hsz
    have e1 := (hop x (by simp [Op.operands, Call.operands]) _ hx).nilsl_inv
    obtain ⟨hcl, hsr⟩ := hs
    obtain ⟨news, s1, s2, s3⟩ := hsr E S a w (fun u hu => hop y (by simp [Op.operands, Call.operands]) u hu) hR
    have hmz : news.take (m * ie.size) = news := List.take_of_length_le (by omega)
    have hfit : (0 + m) * ie.bytes ≤ 140737488355328 := by
      have := Nat.mul_le_mul hlim hby; rw [Nat.zero_add]; omega
    have h4 := s3 w rfl
    have h5 := (s3 w.drew rfl).2 m (Nat.le_refl _)
    rw [hmz] at h5
    have hrun := run_app_grow (P := P) (ty := ty) (n := 0) (cp := 0) w ht ht2 hd2 hi hz (a.eval x) none e1 m (a.eval y) [] news h4.1 h5 (by rw [e1]; simp [Builtin.firstCells]) (by omega) (by omega) hfit
    rw [Nat.zero_add] at hrun
    have hcap := grownCap_ge w m 0 e
    have hcap2 := grownCap_le_maxLen w m 0 e (by unfold maxLen; omega)
    have hsize : (([] : List Value).toArray ++ news.toArray ++ Builtin.zeroCells zv.cells (grownCap w m 0 e - m)).size = grownCap w m 0 e * ie.size := by
      simp only [Array.size_append, List.size_toArray, List.length_nil, s1, size_zeroCells, hzs, Nat.zero_add, ← Nat.add_mul]
      congr 1; omega
    refine ⟨_, _, (0, 0), w.drew, by simp [execOp, resolve, invoke, builtin, hrun]; rfl, rfl, rfl, rfl, rfl, (by first | exact DrOk.refl _ | exact (DrOk.refl _).drew | exact (DrOk.refl _).drew.drew), .sl _ _ _ _ _ _ _ (Emb.put_same _ _ _) hcap hcap2 ?_, FzOk.zero _ _, ?_, fun i q hq => ?_⟩
    · have := hsize; simp at this ⊢; omega
    · rw [hc, hcl]
      have := hsize; simp at this ⊢; rw [this]; exact Nat.mul_le_mul_right _ hcap
    · rw [hc] at hq
      obtain ⟨p1, yv, p2, p3⟩ := s2 i q hq
      have hi : i < news.length := (List.getElem?_eq_some_iff.1 p2).1
      refine ⟨p1, yv, ?_, p3⟩
      rw [Array.getElem?_append_left (by simpa using hi)]
      simpa using p2
end
end Go.Proofs.YtdpdmgbdipokdaaDoor
