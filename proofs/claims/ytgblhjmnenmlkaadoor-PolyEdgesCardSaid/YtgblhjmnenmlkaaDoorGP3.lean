/-
  Texts of this claim.
-/
import Derived.Test.YtgblhjmnenmlkaaDoorGP2
import Derived.Test.YtgblhjmnenmlkaaDoorGE1
import Derived.Test.YtgblhjmnenmlkaaDoorGX
namespace Go.Proofs.YtgblhjmnenmlkaaDoor
open Go.ChangeShapes Go.WideShapes Go.RowKit
theorem bat_ints_any {E : Emb} {w : World} {g : Nat} {l : List Int} (h0 : 0 < l.length) (h : ∀ i, i < l.length → w.cell? ⟨g, i, none⟩ = some (.int .i64 (l.getD i 0))) : BAt E ⟨.aggI l, anyT, false⟩ w g (sizeAt w g) := by
  have hc := h 0 h0
  unfold World.cell? at hc
  split at hc
  · rename_i arr e fz hb
    refine ⟨arr, e, fz, hb, by simp [sizeAt, hb], ⟨⟨fun h => (by cases h), fun h => absurd h (show anyT ≠ errT by decide), fun _ _ h => absurd h (Nat.lt_irrefl _)⟩, .inr (.inr (.inr rfl))⟩, ?_, fun i x hx => ?_⟩
    · have := h (l.length - 1) (by omega)
      rw [cell_of_row w g _ arr e fz hb] at this
      have := (Array.getElem?_eq_some_iff.1 this).1
      simp [AV.list, AV.parts, sizeAt, hb]; omega
    · obtain ⟨y, hy, rfl⟩ := get_map_some (l := l) hx
      have hi := (List.getElem?_eq_some_iff.1 hy).1
      have := h i hi
      rw [cell_of_row w g _ arr e fz hb] at this
      refine ⟨rfl, .int .i64 y, ?_, .i64 y⟩
      rw [this]
      simp [List.getD_eq_getElem?_getD, hy]
  · cases hc
theorem quarters_any {E : Emb} {w : World} (hQ : QAt w) : BAt E ⟨.aggI qsTab, anyT, false⟩ w 21 (sizeAt w 21) := by
  refine bat_ints_any (l := qsTab) (by decide) fun i hi => ?_
  have hi' : i < 32 := by simpa [qsTab] using hi
  have h1 := hQ (i / 4) (i % 4) (by omega) (by omega)
  rw [show 4 * (i / 4) + i % 4 = i by omega] at h1
  rw [h1]
  have h2 : qsTab[i]? = some (qAt (i / 4) (i % 4) : Int) := by simp [qsTab, hi']
  rw [List.getD_eq_getElem?_getD, h2]; rfl
theorem polyOpens_all (key : List UInt8) (s extra : ByteArray) (W : World) (hk : key.length = 32) (hs : s.size ≤ maxLen) (he : extra.size ≤ maxLen) (hQ : QAt W) (h : laidMet Tryd.prog Rows.polyOpensRow.laid W) :
    Calls Tryd.prog 4 #[.agg (key.map U8).toArray, .string s, .string extra] W fun e W' => e = .returned (.bool true) ∧ Below W.heap.size W W' := by
  have h1 := laidMet_tail h
  obtain ⟨eo, hd, hkn⟩ := laid_errs h1
  refine walk_of_meets_at (errE W eo) (errE_glob _ _) (errE_top _ _) (polyOpens_ev eo hd anyT key s.data.toList extra.data.toList hk hs he) rfl (fun i x y hx hy => ?_) (known.spec ⟨⟨rfl, 21, sizeAt W 21, by simp [errE], quarters_any hQ⟩, hkn⟩)
  match i, hx, hy with
  | 0, hx, hy => injection hx with hx; injection hy with hy; subst hx; subst hy; exact rel_bytes _ _
  | 1, hx, hy => injection hx with hx; injection hy with hy; subst hx; subst hy; exact .str _
  | 2, hx, hy => injection hx with hx; injection hy with hy; subst hx; subst hy; exact .str _
  | i + 3, hx, _ => simp at hx
end Go.Proofs.YtgblhjmnenmlkaaDoor
