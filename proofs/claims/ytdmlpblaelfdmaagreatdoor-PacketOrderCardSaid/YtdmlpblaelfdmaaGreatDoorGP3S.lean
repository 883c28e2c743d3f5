/-
  Texts of this claim.
-/
import Derived.Test.YtdmlpblaelfdmaaGreatDoorGE1S
import Derived.Test.YtdmlpblaelfdmaaGreatDoorGX1S
namespace Go.Proofs.YtdmlpblaelfdmaaGreatDoor
open Go.ChangeShapes Go.WideShapes Go.RowKit
theorem bat_ints_any {E : Emb} {w : World} {g : Nat} {l : List Int} (h0 : 0 < l.length) (h : ∀ i, i < l.length → w.cell? ⟨g, i, none⟩ = some (.int .i64 (l.getD i 0))) : BAt E ⟨.aggI l, anyT, false⟩ w g (sizeAt w g) := by
  have hc := h 0 h0
  unfold World.cell? at hc
  split at hc
  · rename_i arr e fz hb
    refine ⟨arr, e, fz, hb, by simp [sizeAt, hb], ⟨⟨fun h => (by cases h), fun h => absurd h (show anyT ≠ errT by decide), fun _ _ h => absurd h (Nat.lt_irrefl _)⟩, .inr (.inr (.inr rfl))⟩, ?_, fun i x hx => ?_⟩
    · have := h (l.length - 1) (by omega)
      rw [cell_of_row w g _ arr e fz hb] at this
      have := (Array.getElem?_eq_some_iff.1 this).1
      simp [AV.list, AV.parts, sizeAt, hb]; omega
    · obtain ⟨y, hy, rfl⟩ := get_map_some (l := l) hx
      have hi := (List.getElem?_eq_some_iff.1 hy).1
      have := h i hi
      rw [cell_of_row w g _ arr e fz hb] at this
      refine ⟨rfl, .int .i64 y, ?_, .i64 y⟩
      rw [this]
      simp [List.getD_eq_getElem?_getD, hy]
  · cases hc
theorem quarters_any {E : Emb} {w : World} (hQ : QAt w) : BAt E ⟨.aggI qsTab, anyT, false⟩ w 22 (sizeAt w 22) := by
  refine bat_ints_any (l := qsTab) (by decide) fun i hi => ?_
  have hi' : i < 32 := by simpa [qsTab] using hi
  have h1 := hQ (i / 4) (i % 4) (by omega) (by omega)
  rw [show 4 * (i / 4) + i % 4 = i by omega] at h1
  rw [h1]
  have h2 : qsTab[i]? = some (qAt (i / 4) (i % 4) : Int) := by simp [qsTab, hi']
  rw [List.getD_eq_getElem?_getD, h2]; rfl
end Go.Proofs.YtdmlpblaelfdmaaGreatDoor
