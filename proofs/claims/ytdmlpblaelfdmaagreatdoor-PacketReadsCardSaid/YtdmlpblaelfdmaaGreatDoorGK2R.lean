/-
  Texts of this claim.
-/
import Derived.Test.YtdmlpblaelfdmaaGreatDoorGKR
namespace Go.Proofs.YtdmlpblaelfdmaaGreatDoor
open Go.RowKit
end Go.Proofs.YtdmlpblaelfdmaaGreatDoor
