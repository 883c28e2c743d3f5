/-
  Texts of this claim.
-/
import Derived.Test.YtcnjekoidgefpaaGreatDoorGEC
namespace Go.Proofs.YtcnjekoidgefpaaGreatDoor
open Go.RowKit
end Go.Proofs.YtcnjekoidgefpaaGreatDoor
