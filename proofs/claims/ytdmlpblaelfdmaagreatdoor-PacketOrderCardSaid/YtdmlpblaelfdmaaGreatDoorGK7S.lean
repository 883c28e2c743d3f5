/-
  Texts of this claim.
-/
import Derived.Test.YtdmlpblaelfdmaaGreatDoorGK6S
import Derived.Test.YtdmlpblaelfdmaaGreatDoorGES
import Derived.Test.YtdmlpblaelfdmaaGreatDoorGKS
namespace Go.Proofs.YtdmlpblaelfdmaaGreatDoor
open Go.RowKit
end Go.Proofs.YtdmlpblaelfdmaaGreatDoor
