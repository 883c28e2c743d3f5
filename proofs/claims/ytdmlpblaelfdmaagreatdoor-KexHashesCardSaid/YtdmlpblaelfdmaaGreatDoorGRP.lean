/-
  The reference numbers in digits of 16 bits, walked over abstract values.
-/
import Derived.Test.YtdmlpblaelfdmaaGreatDoorGAP
import Derived.Test.YtdmlpblaelfdmaaGreatDoorGEP
import Derived.Test.YtdmlpblaelfdmaaGreatDoorGBP
namespace Go.Proofs.YtdmlpblaelfdmaaGreatDoor
/-- How many digits a number has. -/
def dl (v : Nat) : Nat := if h : v = 0 then 0 else dl (v / 65536) + 1
termination_by v
decreasing_by omega
end Go.Proofs.YtdmlpblaelfdmaaGreatDoor
namespace Go.Proofs.YtdmlpblaelfdmaaGreatDoor
open Go.RowKit
end Go.Proofs.YtdmlpblaelfdmaaGreatDoor
namespace Go.Proofs.YtdmlpblaelfdmaaGreatDoor
/-- The lowest n bytes, the lowest first. -/
def bsN (v : Nat) : Nat → List UInt8
  | 0 => []
  | i + 1 => bsN v i ++ [UInt8.ofNat (v / 256 ^ i % 256)]
theorem length_bsN (v n : Nat) : (bsN v n).length = n := by induction n with | zero => rfl | succ n ih => simp [bsN, ih]
end Go.Proofs.YtdmlpblaelfdmaaGreatDoor
