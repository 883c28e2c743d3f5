/-
  Texts of this claim.
-/
import Derived.LaidHandle
import Derived.Test.YtaelhapmikijnaaGreatDoorGE1
import Derived.Test.YtaelhapmikijnaaGreatDoorGK1
namespace Go.Proofs.YtaelhapmikijnaaGreatDoor
open Go.ChangeShapes Go.WideShapes Go.ChangeAt Go.RowKit
theorem laidMetH_two {P : Program} {l : List (String × DataW Unit)} {w : World} (h : laidMetH P l w) : laidMet P (l.filter fun x => x.2.handleName?.isNone) w ∧ handlesMet P (l.filter fun x => x.2.handleName?.isSome) w := by
  unfold laidMetH at h
  generalize hfl : (l.filter fun x => x.2.handleName?.isSome) = fl at h ⊢
  cases fl with
  | nil =>
    have e : (l.filter fun x => x.2.handleName?.isNone) = l := by
      rw [List.filter_eq_self]
      intro x hx
      have := (List.filter_eq_nil_iff.1 hfl) x hx
      cases hn : x.2.handleName? with
      | none => rfl
      | some s => rw [hn] at this; exact absurd rfl this
    rw [e]
    exact ⟨h, fun x hx => by cases hx⟩
  | cons a r => exact h
theorem bat_val1 {w : World} {g : Nat} {v : Value} {E : Emb} (h1 : v.oneCell' = true) (h : w.cell? ⟨g, 0, none⟩ = some v) : BAt E ⟨.agg [.val v], anyT, false⟩ w g (sizeAt w g) := by
  have hc := h
  unfold World.cell? at hc
  split at hc
  · rename_i arr e fz hb
    have h0 := h
    rw [cell_of_row w g _ arr e fz hb] at h0
    refine ⟨arr, e, fz, hb, by simp [sizeAt, hb], ⟨⟨fun h => (by cases h), fun h => absurd h (show anyT ≠ errT by decide), fun _ _ h => absurd h (Nat.lt_irrefl _)⟩, .inr (.inr (.inr rfl))⟩, ?_, fun i x hx => ?_⟩
    · have := (Array.getElem?_eq_some_iff.1 h0).1
      simp [AV.list, AV.parts, sizeAt, hb]; omega
    · match i, hx with
      | 0, hx =>
        injection hx with hx
        subst hx
        exact ⟨AV.cell_of h1, v, h0, .val v⟩
      | i + 1, hx => cases hx
  · cases hc
theorem et_global : Tryz.prog.globalNamed "errors.errorType" = some 21 := by kernel_rfl
theorem et_rtype : (Tryz.prog.cutTypes.find? (·.1 == "internal/reflectlite.rtype")).map (·.2) = some 127 := by kernel_rfl
theorem et_row : ((List.range 195).filter fun t => Tryz.prog.rowNamed t [101, 114, 114, 111, 114]) = [30] := by kernel_rfl
theorem et_size : Tryz.prog.types.size = 195 := by kernel_rfl
theorem et_handle : typeHandle Tryz.prog 30 = .pointer (some ⟨25, 30, none⟩) := by kernel_rfl
theorem handle_cell {W : World} {r : List (String × DataW Unit)} (h : handlesMet Tryz.prog (("errors.errorType", Rows.laid_errors_errorType) :: r) W) : W.cell? ⟨21, 0, none⟩ = some (.iface 127 (.agg #[.pointer (some ⟨25, 30, none⟩)])) := by
  obtain ⟨name, u, ty, e1, e2, e3, e4, e5⟩ := h _ (List.mem_cons_self ..)
  have en : name = [101, 114, 114, 111, 114] := (Option.some.inj e1).symm
  subst en
  obtain rfl := Option.some.inj (et_rtype.symm.trans e2)
  have hm : ty ∈ (List.range 195).filter fun t => Tryz.prog.rowNamed t [101, 114, 114, 111, 114] := List.mem_filter.2 ⟨List.mem_range.2 (by rw [← et_size]; exact e3), e4⟩
  rw [et_row] at hm
  obtain rfl := List.mem_singleton.1 hm
  rw [et_handle] at e5
  simpa using World.var?_cell et_global e5 0
theorem bat_handle {W : World} {E : Emb} {r : List (String × DataW Unit)} (h : handlesMet Tryz.prog (("errors.errorType", Rows.laid_errors_errorType) :: r) W) : BAt E ⟨hndE, anyT, false⟩ W 21 (sizeAt W 21) := bat_val1 rfl (handle_cell h)
end Go.Proofs.YtaelhapmikijnaaGreatDoor
