/-
  Texts of this claim.
-/
import Derived.Test.YtcnjekoidgefpaaGreatDoorGXDP
namespace Go.Proofs.YtcnjekoidgefpaaGreatDoor
open Go.RowKit
end Go.Proofs.YtcnjekoidgefpaaGreatDoor
