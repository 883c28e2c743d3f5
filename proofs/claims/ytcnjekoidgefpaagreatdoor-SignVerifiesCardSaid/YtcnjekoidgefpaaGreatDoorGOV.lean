/-
  The listed limbs of L.
-/
import Derived.Test.YtcnjekoidgefpaaGreatDoorGKNV
import Derived.Test.YtcnjekoidgefpaaGreatDoorGT2V
namespace Go.Proofs.YtcnjekoidgefpaaGreatDoor
open Go.ChangeShapes Go.WideShapes Go.ChangeAt Go.RowKit
theorem laidO_eq : (Rows.laid_speakeasy_scalar_order : DataW Unit) = Lib.tabData .u64 (nW.map fun x => (x.toNat : Int)) := by kernel_rfl
theorem bat_order {W : World} {rest : List (String × DataW Unit)} (h : laidMet Tryz.prog (("speakeasy/scalar.order", Rows.laid_speakeasy_scalar_order) :: rest) W) : ∃ e, BAt (topE W) ⟨.agg64 nW, e, false⟩ W 2 (mU W 2) := by
  rw [laidO_eq] at h
  exact tN (by kernel_rfl) (by kernel_rfl) rfl h
end Go.Proofs.YtcnjekoidgefpaaGreatDoor
