/-
  Texts of this claim.
-/
import Derived.Test.YtcnjekoidgefpaaGreatDoorGCV
import Derived.Test.YtcnjekoidgefpaaGreatDoorGFV
namespace Go.Proofs.YtcnjekoidgefpaaGreatDoor
open Go.ChangeShapes Go.WideShapes Go.ChangeAt Go.RowKit
theorem bat_words {w : World} {g : Nat} {l : List UInt64} {E : Emb} (h0 : 0 < l.length) (h : ∀ i, i < l.length → w.cell? ⟨g, i, none⟩ = some (.int .u64 ((l.getD i 0).toNat : Int))) : ∃ e, BAt E ⟨.agg64 l, e, false⟩ w g (mU w g) := by
  have hc := h 0 h0
  unfold World.cell? at hc
  split at hc
  · rename_i arr e fz hb
    refine ⟨anyT, arr, e, fz, hb, by simp [mU, hb], ⟨⟨fun h => (by cases h), fun h => absurd h (show anyT ≠ errT by decide), fun _ _ h => absurd h (Nat.lt_irrefl _)⟩, .inr (.inr (.inr rfl))⟩, ?_, fun i x hx => ?_⟩
    · have := h (l.length - 1) (by omega)
      rw [cell_of_row w g _ arr e fz hb] at this
      have := (Array.getElem?_eq_some_iff.1 this).1
      simp [AV.list, AV.parts, mU, hb]; omega
    · obtain ⟨y, hy, rfl⟩ := jV (l := l) hx
      have hi := (List.getElem?_eq_some_iff.1 hy).1
      have := h i hi
      rw [cell_of_row w g _ arr e fz hb] at this
      refine ⟨rfl, .int .u64 (y.toNat : Int), ?_, .u64 y⟩
      rw [this]
      simp [List.getD_eq_getElem?_getD, hy]
  · cases hc
theorem cellsU : Tryz.prog.cellsOf 52 = 1 := by kernel_rfl
theorem cellsP : Tryz.prog.cellsOf 53 = 4 := by kernel_rfl
theorem tN {W : World} {name : String} {g : Nat} {l : List UInt64} {rest : List (String × DataW Unit)} (hg : Tryz.prog.globalNamed name = some g) (ht : (Tryz.prog.globals[g]?).map (·.type) = some 53) (hl : l.length = 4)
    (h : laidMet Tryz.prog ((name, Lib.tabData .u64 (l.map fun x => (x.toNat : Int))) :: rest) W) : ∃ e, BAt (topE W) ⟨.agg64 l, e, false⟩ W g (mU W g) := by
  obtain ⟨ps, ⟨g', t', cs, fuel, p, q, hg', ht', hvar, hd, _, _⟩, _⟩ := h
  obtain rfl := Option.some.inj (hg.symm.trans hg')
  obtain rfl := Option.some.inj (ht.symm.trans ht')
  have hc := Lib.cells_of_tab Tryz.underlying53 Tryz.underlying52 cellsU cellsP hd
  refine bat_words (by omega) fun i hi => ?_
  rw [World.var?_cell (P := Tryz.prog) hg hvar i]
  have e2 : cs[i]? = cs.toList[i]? := by simp
  rw [e2, hc]
  simp [List.getD_eq_getElem?_getD, hi]
theorem laidP_eq : (Rows.laid_speakeasy_field_prime : DataW Unit) = Lib.tabData .u64 (oX.map fun x => (x.toNat : Int)) := by kernel_rfl
theorem bat_prime {W : World} {rest : List (String × DataW Unit)} (h : laidMet Tryz.prog (("speakeasy/field.prime", Rows.laid_speakeasy_field_prime) :: rest) W) : ∃ e, BAt (topE W) ⟨.agg64 oX, e, false⟩ W 0 (mU W 0) := by
  rw [laidP_eq] at h
  exact tN (by kernel_rfl) (by kernel_rfl) rfl h
end Go.Proofs.YtcnjekoidgefpaaGreatDoor
