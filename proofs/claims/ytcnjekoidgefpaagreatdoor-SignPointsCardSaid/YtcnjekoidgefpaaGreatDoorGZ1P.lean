/-
  Texts of this claim.
-/
import Derived.Test.YtcnjekoidgefpaaGreatDoorGEP
namespace Go.Proofs.YtcnjekoidgefpaaGreatDoor
open Go.RowKit
end Go.Proofs.YtcnjekoidgefpaaGreatDoor
