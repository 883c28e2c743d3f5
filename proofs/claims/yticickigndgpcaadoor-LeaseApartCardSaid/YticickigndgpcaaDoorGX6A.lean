/-
  Texts of this claim.
-/
import Derived.Test.YticickigndgpcaaDoorGX5A
import Derived.Test.YticickigndgpcaaDoorGKA
namespace Go.Proofs.YticickigndgpcaaDoor
open Go.RowKit
end Go.Proofs.YticickigndgpcaaDoor
