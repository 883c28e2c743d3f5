/-
  Words: the model's numbers of 8, 32 and 64 bits as Lean's UInt8, UInt32, UInt64, each behind a plain name. Nothing of the program is named here.
-/
import Derived.WalkKit
namespace Go.Proofs.YtaenhghihhhikaaDoor
open Go.RowKit

def n8 (u : UInt8) : Int := (u.toNat : Int)
def n32 (u : UInt32) : Int := (u.toNat : Int)
def n64 (u : UInt64) : Int := (u.toNat : Int)
theorem n8_def (u : UInt8) : n8 u = (u.toNat : Int) := rfl
theorem n32_def (u : UInt32) : n32 u = (u.toNat : Int) := rfl
theorem n64_def (u : UInt64) : n64 u = (u.toNat : Int) := rfl
theorem fold8 (u : UInt8) : ((u.toNat : Nat) : Int) = n8 u := rfl
abbrev U8 (u : UInt8) : Value := .int .u8 (n8 u)
abbrev U32 (u : UInt32) : Value := .int .u32 (n32 u)
abbrev U64 (u : UInt64) : Value := .int .u64 (n64 u)


theorem wrap_u8 (n : Int) : IntKind.u8.wrap n = n % 256 := by simp [IntKind.wrap, IntKind.bits, IntKind.signed]
theorem n8_nonneg (a : UInt8) : 0 ≤ n8 a := by unfold n8; omega
theorem n8_lt (a : UInt8) : n8 a < 256 := by have := a.toNat_lt; unfold n8; omega
theorem n8_inj {a b : UInt8} : n8 a = n8 b ↔ a = b := by
  unfold n8
  constructor
  · intro h; exact UInt8.toNat_inj.1 (by omega)
  · rintro rfl; rfl
theorem ofInt_n8 (a : UInt8) : BitVec.ofInt 8 (n8 a) = a.toBitVec := by
  unfold n8; apply BitVec.eq_of_toNat_eq; simp
theorem wrap_n8 (a : UInt8) : IntKind.u8.wrap (n8 a) = n8 a := by
  have h0 := n8_nonneg a; have := n8_lt a; rw [wrap_u8]; omega
theorem add_n8 (a b : UInt8) : IntKind.u8.wrap (n8 a + n8 b) = n8 (a + b) := by
  rw [wrap_u8]; unfold n8; rw [UInt8.toNat_add]; omega
theorem add_n8' (a b : UInt8) : (n8 a + n8 b) % 256 = n8 (a + b) := by
  unfold n8; rw [UInt8.toNat_add]; omega
theorem sub_n8 (a b : UInt8) : IntKind.u8.wrap (n8 a - n8 b) = n8 (a - b) := by
  have := a.toNat_lt; have := b.toNat_lt
  rw [wrap_u8]; unfold n8; rw [UInt8.toNat_sub]; omega
theorem mul_n8 (a b : UInt8) : IntKind.u8.wrap (n8 a * n8 b) = n8 (a * b) := by
  rw [wrap_u8]; unfold n8; rw [UInt8.toNat_mul, ← Int.natCast_mul]; omega
theorem not_n8 (a : UInt8) : bits .xor .u8 IntKind.u8.max (n8 a) = n8 (~~~a) := by
  rw [← wrap_n8 (~~~a)]
  show IntKind.u8.wrap ↑((BitVec.ofInt 8 IntKind.u8.max) ^^^ (BitVec.ofInt 8 (n8 a))).toNat = _
  rw [ofInt_n8, show BitVec.ofInt 8 IntKind.u8.max = BitVec.allOnes 8 by decide, BitVec.allOnes_xor]; rfl
theorem shl_n8 (a : UInt8) (s : Nat) (hs : s < 8) : (n8 a * 2 ^ s) % 256 = n8 (a <<< UInt8.ofNat s) := by
  unfold n8
  rw [UInt8.toNat_shiftLeft, Nat.shiftLeft_eq, UInt8.toNat_ofNat', Nat.mod_eq_of_lt (b := 2 ^ 8) (Nat.lt_trans hs (by decide)), Nat.mod_eq_of_lt (b := 8) hs]
  have : ((2 ^ s : Nat) : Int) = 2 ^ s := by simp
  rw [← this, ← Int.natCast_mul]
  omega
theorem shr_n8 (a : UInt8) (s : Nat) (hs : s < 8) : n8 a / 2 ^ s = n8 (a >>> UInt8.ofNat s) := by
  unfold n8
  rw [UInt8.toNat_shiftRight, Nat.shiftRight_eq_div_pow, UInt8.toNat_ofNat', Nat.mod_eq_of_lt (b := 2 ^ 8) (Nat.lt_trans hs (by decide)), Nat.mod_eq_of_lt (b := 8) hs]
  have : ((2 ^ s : Nat) : Int) = 2 ^ s := by simp
  rw [← this]
  omega
theorem lit_n8 (n : Nat) (h : n < 256) : (n : Int) = n8 (UInt8.ofNat n) := by
  unfold n8; rw [UInt8.toNat_ofNat', Nat.mod_eq_of_lt (b := 2 ^ 8) h]

theorem and_n8 (a b : UInt8) : bits .and .u8 (n8 a) (n8 b) = n8 (a &&& b) := by
  rw [← wrap_n8 (a &&& b)]
  show IntKind.u8.wrap ↑((BitVec.ofInt 8 (n8 a)) &&& (BitVec.ofInt 8 (n8 b))).toNat = _
  rw [ofInt_n8, ofInt_n8]; rfl
theorem or_n8 (a b : UInt8) : bits .or .u8 (n8 a) (n8 b) = n8 (a ||| b) := by
  rw [← wrap_n8 (a ||| b)]
  show IntKind.u8.wrap ↑((BitVec.ofInt 8 (n8 a)) ||| (BitVec.ofInt 8 (n8 b))).toNat = _
  rw [ofInt_n8, ofInt_n8]; rfl
theorem xor_n8 (a b : UInt8) : bits .xor .u8 (n8 a) (n8 b) = n8 (a ^^^ b) := by
  rw [← wrap_n8 (a ^^^ b)]
  show IntKind.u8.wrap ↑((BitVec.ofInt 8 (n8 a)) ^^^ (BitVec.ofInt 8 (n8 b))).toNat = _
  rw [ofInt_n8, ofInt_n8]; rfl

theorem wrap_u32 (n : Int) : IntKind.u32.wrap n = n % 4294967296 := by simp [IntKind.wrap, IntKind.bits, IntKind.signed]
theorem n32_nonneg (a : UInt32) : 0 ≤ n32 a := by unfold n32; omega
theorem n32_lt (a : UInt32) : n32 a < 4294967296 := by have := a.toNat_lt; unfold n32; omega
theorem n32_inj {a b : UInt32} : n32 a = n32 b ↔ a = b := by
  unfold n32
  constructor
  · intro h; exact UInt32.toNat_inj.1 (by omega)
  · rintro rfl; rfl
theorem ofInt_n32 (a : UInt32) : BitVec.ofInt 32 (n32 a) = a.toBitVec := by
  unfold n32; apply BitVec.eq_of_toNat_eq; simp
theorem wrap_n32 (a : UInt32) : IntKind.u32.wrap (n32 a) = n32 a := by
  have h0 := n32_nonneg a; have := n32_lt a; rw [wrap_u32]; omega
theorem add_n32 (a b : UInt32) : IntKind.u32.wrap (n32 a + n32 b) = n32 (a + b) := by
  rw [wrap_u32]; unfold n32; rw [UInt32.toNat_add]; omega
theorem add_n32' (a b : UInt32) : (n32 a + n32 b) % 4294967296 = n32 (a + b) := by
  unfold n32; rw [UInt32.toNat_add]; omega
theorem sub_n32 (a b : UInt32) : IntKind.u32.wrap (n32 a - n32 b) = n32 (a - b) := by
  have := a.toNat_lt; have := b.toNat_lt
  rw [wrap_u32]; unfold n32; rw [UInt32.toNat_sub]; omega
theorem mul_n32 (a b : UInt32) : IntKind.u32.wrap (n32 a * n32 b) = n32 (a * b) := by
  rw [wrap_u32]; unfold n32; rw [UInt32.toNat_mul, ← Int.natCast_mul]; omega
theorem not_n32 (a : UInt32) : bits .xor .u32 IntKind.u32.max (n32 a) = n32 (~~~a) := by
  rw [← wrap_n32 (~~~a)]
  show IntKind.u32.wrap ↑((BitVec.ofInt 32 IntKind.u32.max) ^^^ (BitVec.ofInt 32 (n32 a))).toNat = _
  rw [ofInt_n32, show BitVec.ofInt 32 IntKind.u32.max = BitVec.allOnes 32 by decide, BitVec.allOnes_xor]; rfl
theorem shl_n32 (a : UInt32) (s : Nat) (hs : s < 32) : (n32 a * 2 ^ s) % 4294967296 = n32 (a <<< UInt32.ofNat s) := by
  unfold n32
  rw [UInt32.toNat_shiftLeft, Nat.shiftLeft_eq, UInt32.toNat_ofNat', Nat.mod_eq_of_lt (b := 2 ^ 32) (Nat.lt_trans hs (by decide)), Nat.mod_eq_of_lt (b := 32) hs]
  have : ((2 ^ s : Nat) : Int) = 2 ^ s := by simp
  rw [← this, ← Int.natCast_mul]
  omega
theorem shr_n32 (a : UInt32) (s : Nat) (hs : s < 32) : n32 a / 2 ^ s = n32 (a >>> UInt32.ofNat s) := by
  unfold n32
  rw [UInt32.toNat_shiftRight, Nat.shiftRight_eq_div_pow, UInt32.toNat_ofNat', Nat.mod_eq_of_lt (b := 2 ^ 32) (Nat.lt_trans hs (by decide)), Nat.mod_eq_of_lt (b := 32) hs]
  have : ((2 ^ s : Nat) : Int) = 2 ^ s := by simp
  rw [← this]
  omega
theorem lit_n32 (n : Nat) (h : n < 4294967296) : (n : Int) = n32 (UInt32.ofNat n) := by
  unfold n32; rw [UInt32.toNat_ofNat', Nat.mod_eq_of_lt (b := 2 ^ 32) h]

theorem and_n32 (a b : UInt32) : bits .and .u32 (n32 a) (n32 b) = n32 (a &&& b) := by
  rw [← wrap_n32 (a &&& b)]
  show IntKind.u32.wrap ↑((BitVec.ofInt 32 (n32 a)) &&& (BitVec.ofInt 32 (n32 b))).toNat = _
  rw [ofInt_n32, ofInt_n32]; rfl
theorem or_n32 (a b : UInt32) : bits .or .u32 (n32 a) (n32 b) = n32 (a ||| b) := by
  rw [← wrap_n32 (a ||| b)]
  show IntKind.u32.wrap ↑((BitVec.ofInt 32 (n32 a)) ||| (BitVec.ofInt 32 (n32 b))).toNat = _
  rw [ofInt_n32, ofInt_n32]; rfl
theorem xor_n32 (a b : UInt32) : bits .xor .u32 (n32 a) (n32 b) = n32 (a ^^^ b) := by
  rw [← wrap_n32 (a ^^^ b)]
  show IntKind.u32.wrap ↑((BitVec.ofInt 32 (n32 a)) ^^^ (BitVec.ofInt 32 (n32 b))).toNat = _
  rw [ofInt_n32, ofInt_n32]; rfl

theorem wrap_u64 (n : Int) : IntKind.u64.wrap n = n % 18446744073709551616 := by simp [IntKind.wrap, IntKind.bits, IntKind.signed]
theorem n64_nonneg (a : UInt64) : 0 ≤ n64 a := by unfold n64; omega
theorem n64_lt (a : UInt64) : n64 a < 18446744073709551616 := by have := a.toNat_lt; unfold n64; omega
theorem n64_inj {a b : UInt64} : n64 a = n64 b ↔ a = b := by
  unfold n64
  constructor
  · intro h; exact UInt64.toNat_inj.1 (by omega)
  · rintro rfl; rfl
theorem ofInt_n64 (a : UInt64) : BitVec.ofInt 64 (n64 a) = a.toBitVec := by
  unfold n64; apply BitVec.eq_of_toNat_eq; simp
theorem wrap_n64 (a : UInt64) : IntKind.u64.wrap (n64 a) = n64 a := by
  have h0 := n64_nonneg a; have := n64_lt a; rw [wrap_u64]; omega
theorem add_n64 (a b : UInt64) : IntKind.u64.wrap (n64 a + n64 b) = n64 (a + b) := by
  rw [wrap_u64]; unfold n64; rw [UInt64.toNat_add]; omega
theorem add_n64' (a b : UInt64) : (n64 a + n64 b) % 18446744073709551616 = n64 (a + b) := by
  unfold n64; rw [UInt64.toNat_add]; omega
theorem sub_n64 (a b : UInt64) : IntKind.u64.wrap (n64 a - n64 b) = n64 (a - b) := by
  have := a.toNat_lt; have := b.toNat_lt
  rw [wrap_u64]; unfold n64; rw [UInt64.toNat_sub]; omega
theorem mul_n64 (a b : UInt64) : IntKind.u64.wrap (n64 a * n64 b) = n64 (a * b) := by
  rw [wrap_u64]; unfold n64; rw [UInt64.toNat_mul, ← Int.natCast_mul]; omega
theorem not_n64 (a : UInt64) : bits .xor .u64 IntKind.u64.max (n64 a) = n64 (~~~a) := by
  rw [← wrap_n64 (~~~a)]
  show IntKind.u64.wrap ↑((BitVec.ofInt 64 IntKind.u64.max) ^^^ (BitVec.ofInt 64 (n64 a))).toNat = _
  rw [ofInt_n64, show BitVec.ofInt 64 IntKind.u64.max = BitVec.allOnes 64 by decide, BitVec.allOnes_xor]; rfl
theorem shl_n64 (a : UInt64) (s : Nat) (hs : s < 64) : (n64 a * 2 ^ s) % 18446744073709551616 = n64 (a <<< UInt64.ofNat s) := by
  unfold n64
  rw [UInt64.toNat_shiftLeft, Nat.shiftLeft_eq, UInt64.toNat_ofNat', Nat.mod_eq_of_lt (b := 2 ^ 64) (Nat.lt_trans hs (by decide)), Nat.mod_eq_of_lt (b := 64) hs]
  have : ((2 ^ s : Nat) : Int) = 2 ^ s := by simp
  rw [← this, ← Int.natCast_mul]
  omega
theorem shr_n64 (a : UInt64) (s : Nat) (hs : s < 64) : n64 a / 2 ^ s = n64 (a >>> UInt64.ofNat s) := by
  unfold n64
  rw [UInt64.toNat_shiftRight, Nat.shiftRight_eq_div_pow, UInt64.toNat_ofNat', Nat.mod_eq_of_lt (b := 2 ^ 64) (Nat.lt_trans hs (by decide)), Nat.mod_eq_of_lt (b := 64) hs]
  have : ((2 ^ s : Nat) : Int) = 2 ^ s := by simp
  rw [← this]
  omega
theorem lit_n64 (n : Nat) (h : n < 18446744073709551616) : (n : Int) = n64 (UInt64.ofNat n) := by
  unfold n64; rw [UInt64.toNat_ofNat', Nat.mod_eq_of_lt (b := 2 ^ 64) h]

theorem and_n64 (a b : UInt64) : bits .and .u64 (n64 a) (n64 b) = n64 (a &&& b) := by
  rw [← wrap_n64 (a &&& b)]
  show IntKind.u64.wrap ↑((BitVec.ofInt 64 (n64 a)) &&& (BitVec.ofInt 64 (n64 b))).toNat = _
  rw [ofInt_n64, ofInt_n64]; rfl
theorem or_n64 (a b : UInt64) : bits .or .u64 (n64 a) (n64 b) = n64 (a ||| b) := by
  rw [← wrap_n64 (a ||| b)]
  show IntKind.u64.wrap ↑((BitVec.ofInt 64 (n64 a)) ||| (BitVec.ofInt 64 (n64 b))).toNat = _
  rw [ofInt_n64, ofInt_n64]; rfl
theorem xor_n64 (a b : UInt64) : bits .xor .u64 (n64 a) (n64 b) = n64 (a ^^^ b) := by
  rw [← wrap_n64 (a ^^^ b)]
  show IntKind.u64.wrap ↑((BitVec.ofInt 64 (n64 a)) ^^^ (BitVec.ofInt 64 (n64 b))).toNat = _
  rw [ofInt_n64, ofInt_n64]; rfl

theorem n32_of_n8 (a : UInt8) : n8 a = n32 a.toUInt32 := by unfold n8 n32; simp
theorem n64_of_n8 (a : UInt8) : n8 a = n64 a.toUInt64 := by unfold n8 n64; simp
theorem n8_of_n32 (a : UInt32) : IntKind.u8.wrap (n32 a) = n8 a.toUInt8 := by rw [wrap_u8]; unfold n8 n32; simp
theorem n8_of_n64 (a : UInt64) : IntKind.u8.wrap (n64 a) = n8 a.toUInt8 := by rw [wrap_u8]; unfold n8 n64; simp
theorem n64_of_n32 (a : UInt32) : n32 a = n64 a.toUInt64 := by unfold n32 n64; simp
end Go.Proofs.YtaenhghihhhikaaDoor
