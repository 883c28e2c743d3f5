/-
  Texts of this claim.
-/
import Derived.Test.YticickigndgpcaaDoorGX3A
namespace Go.Proofs.YticickigndgpcaaDoor
open Go.RowKit
end Go.Proofs.YticickigndgpcaaDoor
