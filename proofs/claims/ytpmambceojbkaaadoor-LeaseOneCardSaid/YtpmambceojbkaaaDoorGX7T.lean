/-
  Texts of this claim.
-/
import Derived.Test.YtpmambceojbkaaaDoorGX6T
namespace Go.Proofs.YtpmambceojbkaaaDoor
open Go.RowKit
end Go.Proofs.YtpmambceojbkaaaDoor
