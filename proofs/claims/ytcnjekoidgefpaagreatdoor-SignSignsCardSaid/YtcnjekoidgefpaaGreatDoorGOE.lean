/-
  The listed limbs of L.
-/
import Derived.Test.YtcnjekoidgefpaaGreatDoorGKNE
import Derived.Test.YtcnjekoidgefpaaGreatDoorGT2E
namespace Go.Proofs.YtcnjekoidgefpaaGreatDoor
open Go.ChangeShapes Go.WideShapes Go.ChangeAt Go.RowKit
theorem laidO_eq : (Rows.laid_speakeasy_scalar_order : DataW Unit) = Lib.tabData .u64 (zX.map fun x => (x.toNat : Int)) := by kernel_rfl
theorem bat_order {W : World} {rest : List (String × DataW Unit)} (h : laidMet Tryz.prog (("speakeasy/scalar.order", Rows.laid_speakeasy_scalar_order) :: rest) W) : ∃ e, BAt (topE W) ⟨.agg64 zX, e, false⟩ W 2 (bV W 2) := by
  rw [laidO_eq] at h
  exact laid_words (by kernel_rfl) (by kernel_rfl) rfl h
end Go.Proofs.YtcnjekoidgefpaaGreatDoor
