/-
  Texts of this claim.
-/
import Derived.Test.YtcnjekoidgefpaaDoorGC
import Derived.Test.YtcnjekoidgefpaaDoorGF
namespace Go.Proofs.YtcnjekoidgefpaaDoor
open Go.ChangeShapes Go.WideShapes Go.ChangeAt Go.RowKit
theorem bat_words {w : World} {g : Nat} {l : List UInt64} {E : Emb} (h0 : 0 < l.length) (h : ∀ i, i < l.length → w.cell? ⟨g, i, none⟩ = some (.int .u64 ((l.getD i 0).toNat : Int))) : ∃ e, BAt E ⟨.agg64 l, e, false⟩ w g (sizeAt w g) := by
  have hc := h 0 h0
  unfold World.cell? at hc
  split at hc
  · rename_i arr e fz hb
    refine ⟨anyT, arr, e, fz, hb, by simp [sizeAt, hb], ⟨⟨fun h => (by cases h), fun h => absurd h (show anyT ≠ errT by decide), fun _ _ h => absurd h (Nat.lt_irrefl _)⟩, .inr (.inr (.inr rfl))⟩, ?_, fun i x hx => ?_⟩
    · have := h (l.length - 1) (by omega)
      rw [cell_of_row w g _ arr e fz hb] at this
      have := (Array.getElem?_eq_some_iff.1 this).1
      simp [AV.list, AV.parts, sizeAt, hb]; omega
    · obtain ⟨y, hy, rfl⟩ := get_map_some (l := l) hx
      have hi := (List.getElem?_eq_some_iff.1 hy).1
      have := h i hi
      rw [cell_of_row w g _ arr e fz hb] at this
      refine ⟨rfl, .int .u64 (y.toNat : Int), ?_, .u64 y⟩
      rw [this]
      simp [List.getD_eq_getElem?_getD, hy]
  · cases hc
theorem cellsU : Tryd.prog.cellsOf 37 = 1 := by kernel_rfl
theorem cellsP : Tryd.prog.cellsOf 69 = 4 := by kernel_rfl
/-- A listed variable of four words reads as these words. -/
theorem laid_words {W : World} {name : String} {g : Nat} {l : List UInt64} {rest : List (String × DataW Unit)} (hg : Tryd.prog.globalNamed name = some g) (ht : (Tryd.prog.globals[g]?).map (·.type) = some 69) (hl : l.length = 4)
    (h : laidMet Tryd.prog ((name, Lib.tabData .u64 (l.map fun x => (x.toNat : Int))) :: rest) W) : ∃ e, BAt (topE W) ⟨.agg64 l, e, false⟩ W g (sizeAt W g) := by
  obtain ⟨ps, ⟨g', t', cs, fuel, p, q, hg', ht', hvar, hd, _, _⟩, _⟩ := h
  obtain rfl := Option.some.inj (hg.symm.trans hg')
  obtain rfl := Option.some.inj (ht.symm.trans ht')
  have hc := Lib.cells_of_tab Tryd.underlying69 Tryd.underlying37 cellsU cellsP hd
  refine bat_words (by omega) fun i hi => ?_
  rw [World.var?_cell (P := Tryd.prog) hg hvar i]
  have e2 : cs[i]? = cs.toList[i]? := by simp
  rw [e2, hc]
  simp [List.getD_eq_getElem?_getD, hi]
theorem laidP_eq : (Rows.laid_speakeasy_field_prime : DataW Unit) = Lib.tabData .u64 (primeL.map fun x => (x.toNat : Int)) := by kernel_rfl
theorem bat_prime {W : World} {rest : List (String × DataW Unit)} (h : laidMet Tryd.prog (("speakeasy/field.prime", Rows.laid_speakeasy_field_prime) :: rest) W) : ∃ e, BAt (topE W) ⟨.agg64 primeL, e, false⟩ W 4 (sizeAt W 4) := by
  rw [laidP_eq] at h
  exact laid_words (by kernel_rfl) (by kernel_rfl) rfl h
theorem hp_laid {w : World} {e : Nat} (h : BAt (topE w) ⟨.agg64 primeL, e, false⟩ w 4 (sizeAt w 4)) : ∀ b k, hget (HP e) b = some k → b < 500 ∧ k.own = false ∧ BAt (topE w) k w b (sizeAt w b) := by
  intro b k hk
  have hm := hget_mem hk
  simp only [HP, List.mem_singleton, Prod.mk.injEq, Option.some.injEq] at hm
  obtain ⟨rfl, rfl⟩ := hm
  exact ⟨by decide, rfl, h⟩
end Go.Proofs.YtcnjekoidgefpaaDoor
