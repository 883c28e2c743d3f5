/-
  Texts of this claim.
-/
import Derived.Test.YtdmlpblaelfdmaaGreatDoorGKS
namespace Go.Proofs.YtdmlpblaelfdmaaGreatDoor
open Go.RowKit
end Go.Proofs.YtdmlpblaelfdmaaGreatDoor
