/-
  Texts of this claim.
-/
import Derived.Test.YtcnjekoidgefpaaGreatDoorGTJP
namespace Go.Proofs.YtcnjekoidgefpaaGreatDoor
open Go.RowKit
end Go.Proofs.YtcnjekoidgefpaaGreatDoor
