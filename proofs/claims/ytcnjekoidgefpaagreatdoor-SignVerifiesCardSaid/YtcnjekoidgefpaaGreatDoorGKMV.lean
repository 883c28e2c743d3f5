/-
  Texts of this claim.
-/
import Derived.Test.YtcnjekoidgefpaaGreatDoorGKNV
import Derived.Test.YtcnjekoidgefpaaGreatDoorGFVV
import Derived.Test.YtcnjekoidgefpaaGreatDoorGSV
namespace Go.Proofs.YtcnjekoidgefpaaGreatDoor
open Go.ChangeShapes Go.WideShapes Go.ChangeAt Go.RowKit
theorem laidM_eq : (Rows.laid_speakeasy_field_minus1Root : DataW Unit) = Lib.tabData .u64 (bU.map fun x => (x.toNat : Int)) := by kernel_rfl
theorem bat_minus {W : World} {rest : List (String × DataW Unit)} (h : laidMet Tryz.prog (("speakeasy/field.minus1Root", Rows.laid_speakeasy_field_minus1Root) :: rest) W) : ∃ e, BAt (topE W) ⟨.agg64 bU, e, false⟩ W 3 (mU W 3) := by
  rw [laidM_eq] at h
  exact tN (by kernel_rfl) (by kernel_rfl) rfl h
theorem cells80w : Tryz.prog.cellsOf 118 = 80 := by kernel_rfl
theorem laidK5_eq : (Rows.laid_speakeasy_sha2_k512 : DataW Unit) = Lib.tabData .u64 (K512.map fun x => (x.toNat : Int)) := by kernel_rfl
theorem bat_k512 {W : World} {rest : List (String × DataW Unit)} (h : laidMet Tryz.prog (("speakeasy/sha2.k512", Rows.laid_speakeasy_sha2_k512) :: rest) W) : ∃ e, BAt (topE W) ⟨.agg64 K512, e, false⟩ W 1 (mU W 1) := by
  rw [laidK5_eq] at h
  obtain ⟨ps, ⟨g', t', cs, fuel, p, q, hg', ht', hvar, hd, _, _⟩, _⟩ := h
  have hg : Tryz.prog.globalNamed "speakeasy/sha2.k512" = some 1 := by kernel_rfl
  have ht : (Tryz.prog.globals[1]?).map (·.type) = some 118 := by kernel_rfl
  obtain rfl := Option.some.inj (hg.symm.trans hg')
  obtain rfl := Option.some.inj (ht.symm.trans ht')
  have hc := Lib.cells_of_tab Tryz.underlying118 Tryz.underlying52 cellsU cells80w hd
  refine bat_words (by decide) fun i hi => ?_
  rw [World.var?_cell (P := Tryz.prog) hg hvar i]
  have e2 : cs[i]? = cs.toList[i]? := by simp
  rw [e2, hc]
  simp [List.getD_eq_getElem?_getD, hi]
end Go.Proofs.YtcnjekoidgefpaaGreatDoor
