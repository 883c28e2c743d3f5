/-
  Texts of this claim.
-/
import Derived.Test.YtidjfinookikcaaDoorGQC
import Derived.Test.YtidjfinookikcaaDoorGQX
namespace Go.Proofs.YtidjfinookikcaaDoor
open Go.ChangeShapes Go.WideShapes Go.ChangeAt Go.RowKit

theorem gQ : Tryd.prog.globalNamed "speakeasy/chacha.quarters" = some 3 := by kernel_rfl
theorem tQ : (Tryd.prog.globals[3]?).map (·.type) = some 108 := by kernel_rfl
theorem cellsI : Tryd.prog.cellsOf 3 = 1 := by kernel_rfl
theorem cellsQ1 : Tryd.prog.cellsOf 107 = 4 := by kernel_rfl
theorem cellsQ : Tryd.prog.cellsOf 108 = 32 := by kernel_rfl
def rowQ {H : Type} (i : Nat) : DataW H := Lib.tabData .i64 [(qAt i 0 : Int), qAt i 1, qAt i 2, qAt i 3]
theorem laidQ_eq : (Rows.laid_speakeasy_chacha_quarters : DataW Unit) = .agg ((List.range 8).map rowQ) := by kernel_rfl
theorem tabQ {W : World} {rest : List (String × DataW Unit)} (h : laidMet Tryd.prog (("speakeasy/chacha.quarters", Rows.laid_speakeasy_chacha_quarters) :: rest) W) : QAt W := by
  rw [laidQ_eq] at h
  obtain ⟨ps, ⟨g', t', cs, fuel, p, q, hg', ht', hvar, hd, _, _⟩, _⟩ := h
  obtain rfl := Option.some.inj (gQ.symm.trans hg')
  obtain rfl := Option.some.inj (tQ.symm.trans ht')
  cases fuel with
  | zero => simp [DataW.trod] at hd
  | succ m =>
    rw [DataW.trod_step] at hd
    unfold DataW.trodStep at hd
    simp only [Tryd.underlying108] at hd
    split at hd
    · rename_i hs
      simp only [Option.map_eq_some_iff] at hd
      obtain ⟨ys, hy, e1⟩ := hd
      simp only [Prod.mk.injEq, DataW.agg.injEq] at e1
      intro i j hi hj
      obtain ⟨y, hyi, hyt⟩ := Lib.mapM_at hy i i (by simp [hi])
      have hy1 : y.1 = rowQ i := by
        have := congrArg (fun l => l[i]?) e1.1
        simp only [List.getElem?_map, hyi, Option.map_some, List.getElem?_range hi, Option.some.injEq] at this
        exact this
      obtain ⟨y1, y2⟩ := y
      subst hy1
      rw [cellsQ1] at hyt
      have hc := Lib.cells_of_tab Tryd.underlying107 Tryd.underlying3 cellsI cellsQ1 hyt
      have hv := World.var?_cell (P := Tryd.prog) gQ hvar (4 * i + j)
      rw [hv]
      have hcj := congrArg (fun l => l[j]?) hc
      simp only [List.getElem?_take, if_pos hj, List.getElem?_drop] at hcj
      rw [Nat.mul_comm 4 i]
      have e2 : cs[i * 4 + j]? = cs.toList[i * 4 + j]? := by simp
      rw [e2, hcj]
      match j, hj with
      | 0, _ => rfl
      | 1, _ => rfl
      | 2, _ => rfl
      | 3, _ => rfl
    · cases hd
end Go.Proofs.YtidjfinookikcaaDoor
