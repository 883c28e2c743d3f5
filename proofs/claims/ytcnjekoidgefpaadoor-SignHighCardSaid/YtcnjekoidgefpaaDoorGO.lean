/-
  The listed limbs of L.
-/
import Derived.Test.YtcnjekoidgefpaaDoorGKN
import Derived.Test.YtcnjekoidgefpaaDoorGT2
namespace Go.Proofs.YtcnjekoidgefpaaDoor
open Go.ChangeShapes Go.WideShapes Go.ChangeAt Go.RowKit
theorem laidO_eq : (Rows.laid_speakeasy_scalar_order : DataW Unit) = Lib.tabData .u64 (orderL.map fun x => (x.toNat : Int)) := by kernel_rfl
theorem bat_order {W : World} {rest : List (String × DataW Unit)} (h : laidMet Tryd.prog (("speakeasy/scalar.order", Rows.laid_speakeasy_scalar_order) :: rest) W) : ∃ e, BAt (topE W) ⟨.agg64 orderL, e, false⟩ W 7 (sizeAt W 7) := by
  rw [laidO_eq] at h
  exact laid_words (by kernel_rfl) (by kernel_rfl) rfl h
theorem ho_laid {w : World} {e : Nat} (h : BAt (topE w) ⟨.agg64 orderL, e, false⟩ w 7 (sizeAt w 7)) : ∀ b k, hget (HO e) b = some k → b < 500 ∧ k.own = false ∧ BAt (topE w) k w b (sizeAt w b) := by
  intro b k hk
  have hm := hget_mem hk
  simp only [HO, List.mem_singleton, Prod.mk.injEq, Option.some.injEq] at hm
  obtain ⟨rfl, rfl⟩ := hm
  exact ⟨by decide, rfl, h⟩
end Go.Proofs.YtcnjekoidgefpaaDoor
