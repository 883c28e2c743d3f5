/-
  Texts of this claim.
-/
import Derived.Test.YticickigndgpcaaDoorGX6A
namespace Go.Proofs.YticickigndgpcaaDoor
open Go.RowKit
end Go.Proofs.YticickigndgpcaaDoor
