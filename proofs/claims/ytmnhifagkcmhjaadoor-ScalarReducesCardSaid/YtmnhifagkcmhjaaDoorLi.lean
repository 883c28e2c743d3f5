/-
  The law ScalarReduces over worlds.
-/
import Derived.Test.YtmnhifagkcmhjaaDoorGO
import Derived.Test.YtmnhifagkcmhjaaDoorSe
namespace Go.Proofs.YtmnhifagkcmhjaaDoor
open Go.ChangeShapes Go.WideShapes Go.ChangeAt Go.RowKit
theorem scalarReduces_any (s : ByteArray) (w : World) (hs : s.size ≤ maxLen) (hP : ∃ e, BAt (topE w) ⟨.agg64 orderL, e, false⟩ w 22 (sizeAt w 22)) :
    Calls Tryd.prog 3 #[.string s] w fun e w' => e = .returned (.bool true) ∧ Below w.heap.size w w' := by
  obtain ⟨e, he⟩ := hP
  refine walk_of_meets (scalarReduces_ev e s.data.toList hs) rfl (fun i x y hx hy => ?_) (ho_laid he)
  match i, hx, hy with
  | 0, hx, hy => injection hx with hx; injection hy with hy; subst hx; subst hy; exact .str _
  | i + 1, hx, _ => simp at hx
end Go.Proofs.YtmnhifagkcmhjaaDoor
