/-
  The reference's hashes are the hashes: plain mathematics, nothing of the program.
-/
import Derived.Test.YtghjndcbnnbloaaDoorRu32
import Derived.Test.YtghjndcbnnbloaaDoorRu64
import Derived.Test.YtghjndcbnnbloaaDoorSm32
import Derived.Test.YtghjndcbnnbloaaDoorSm64
namespace Go.Proofs.YtghjndcbnnbloaaDoor
theorem or64_step (x : UInt64) (b : UInt8) : x * 256 + b.toUInt64 = (x <<< UInt64.ofNat 8) ||| b.toUInt64 := by
  apply UInt64.toNat_inj.1
  have hb := b.toNat_lt
  have hx := x.toNat_lt
  rw [UInt64.toNat_or, UInt64.toNat_shiftLeft, UInt64.toNat_add, UInt64.toNat_mul]
  show (x.toNat * 256 % 2 ^ 64 + b.toNat) % 2 ^ 64 = (x.toNat <<< 8 % 2 ^ 64) ||| b.toNat
  have e : x.toNat <<< 8 % 2 ^ 64 = (x.toNat % 2 ^ 56) <<< 8 := by
    rw [Nat.shiftLeft_eq, Nat.shiftLeft_eq]; omega
  rw [e, ← Nat.shiftLeft_add_eq_or_of_lt (show b.toNat < 2 ^ 8 by omega), Nat.shiftLeft_eq]
  omega
theorem or32_step (x : UInt32) (b : UInt8) : x * 256 + b.toUInt32 = (x <<< UInt32.ofNat 8) ||| b.toUInt32 := by
  apply UInt32.toNat_inj.1
  have hb := b.toNat_lt
  have hx := x.toNat_lt
  rw [UInt32.toNat_or, UInt32.toNat_shiftLeft, UInt32.toNat_add, UInt32.toNat_mul]
  show (x.toNat * 256 % 2 ^ 32 + b.toNat) % 2 ^ 32 = (x.toNat <<< 8 % 2 ^ 32) ||| b.toNat
  have e : x.toNat <<< 8 % 2 ^ 32 = (x.toNat % 2 ^ 24) <<< 8 := by
    rw [Nat.shiftLeft_eq, Nat.shiftLeft_eq]; omega
  rw [e, ← Nat.shiftLeft_add_eq_or_of_lt (show b.toNat < 2 ^ 8 by omega), Nat.shiftLeft_eq]
  omega
theorem rbe_be64 (l : List UInt8) : rbe l = be64 l := by
  unfold rbe be64
  congr 1
  funext x b
  exact or64_step x b
theorem foldl_be32 (l : List UInt8) : ∀ (x : UInt64), (l.foldl (fun x b => x * 256 + b.toUInt64) x).toUInt32 = l.foldl (fun x b => (x <<< UInt32.ofNat 8) ||| b.toUInt32) x.toUInt32 := by
  induction l with
  | nil => intro x; rfl
  | cons b l ih =>
    intro x
    rw [List.foldl_cons, List.foldl_cons, ih]
    congr 1
    rw [← or32_step, UInt64.toUInt32_add, UInt64.toUInt32_mul]
    simp
theorem rbe_be32 (l : List UInt8) : (rbe l).toUInt32 = be32 l := foldl_be32 l 0
theorem rcut64 (x : UInt64) : rcut 64 x = x := rfl
theorem rcut32 (x : UInt64) : rcut 32 x = x.toUInt32.toUInt64 := by
  apply UInt64.toNat_inj.1
  show (x % 4294967296).toNat = _
  rw [UInt64.toNat_mod]
  simp
theorem rright64 (x : UInt64) (n : Nat) : rright 64 x n = rotr64 x n := UInt64.or_comm _ _
theorem rthree64_f (x : UInt64) (a b c : Nat) : rthree 64 x a b c false = rotr64 x a ^^^ rotr64 x b ^^^ rotr64 x c := by
  simp [rthree, rright64]
theorem rthree64_t (x : UInt64) (a b c : Nat) : rthree 64 x a b c true = rotr64 x a ^^^ rotr64 x b ^^^ (x >>> UInt64.ofNat c) := by
  simp [rthree, rright64]
theorem rright32 (u : UInt32) (n : Nat) (h0 : 0 < n) (hn : n < 32) : rright 32 u.toUInt64 n = (rotr32 u n).toUInt64 := by
  unfold rright
  rw [rcut32]
  congr 1
  rw [UInt64.toUInt32_or, UInt32.or_comm]
  unfold rotr32
  have hu := u.toNat_lt
  congr 1
  · apply UInt32.toNat_inj.1
    rw [UInt64.toNat_toUInt32, UInt64.toNat_shiftLeft, UInt32.toNat_shiftLeft]
    have e1 : (UInt64.ofNat (32 - n)).toNat % 64 = 32 - n := by simp; omega
    have e2 : (UInt32.ofNat (32 - n)).toNat % 32 = 32 - n := by simp; omega
    rw [e1, e2, UInt32.toNat_toUInt64]
    rw [Nat.mod_mod_of_dvd _ (by decide)]
  · apply UInt32.toNat_inj.1
    rw [UInt64.toNat_toUInt32, UInt64.toNat_shiftRight, UInt32.toNat_shiftRight]
    have e1 : (UInt64.ofNat n).toNat % 64 = n := by simp; omega
    have e2 : (UInt32.ofNat n).toNat % 32 = n := by simp; omega
    rw [e1, e2, UInt32.toNat_toUInt64, Nat.mod_eq_of_lt]
    exact Nat.lt_of_le_of_lt (Nat.shiftRight_le _ _) hu
theorem rshift32 (u : UInt32) (n : Nat) (hn : n < 32) : u.toUInt64 >>> UInt64.ofNat n = (u >>> UInt32.ofNat n).toUInt64 := by
  apply UInt64.toNat_inj.1
  rw [UInt64.toNat_shiftRight, UInt32.toNat_toUInt64, UInt32.toNat_toUInt64, UInt32.toNat_shiftRight]
  have e1 : (UInt64.ofNat n).toNat % 64 = n := by simp; omega
  have e2 : (UInt32.ofNat n).toNat % 32 = n := by simp; omega
  rw [e1, e2]
theorem rthree32_f (u : UInt32) (a b c : Nat) (ha : 0 < a) (ha' : a < 32) (hb : 0 < b) (hb' : b < 32) (hc : 0 < c) (hc' : c < 32) :
    rthree 32 u.toUInt64 a b c false = (rotr32 u a ^^^ rotr32 u b ^^^ rotr32 u c).toUInt64 := by
  unfold rthree
  rw [rright32 u a ha ha', rright32 u b hb hb', if_neg (by decide), rright32 u c hc hc', UInt32.toUInt64_xor, UInt32.toUInt64_xor]
theorem rthree32_t (u : UInt32) (a b c : Nat) (ha : 0 < a) (ha' : a < 32) (hb : 0 < b) (hb' : b < 32) (hc' : c < 32) :
    rthree 32 u.toUInt64 a b c true = (rotr32 u a ^^^ rotr32 u b ^^^ (u >>> UInt32.ofNat c)).toUInt64 := by
  unfold rthree
  rw [rright32 u a ha ha', rright32 u b hb hb', if_pos rfl, rshift32 u c hc', UInt32.toUInt64_xor, UInt32.toUInt64_xor]
end Go.Proofs.YtghjndcbnnbloaaDoor
