/-
  The law ScalarFits over worlds.
-/
import Derived.Test.YtmnhifagkcmhjaaDoorGO
import Derived.Test.YtmnhifagkcmhjaaDoorSi
namespace Go.Proofs.YtmnhifagkcmhjaaDoor
open Go.ChangeShapes Go.WideShapes Go.ChangeAt Go.RowKit
theorem scalarFits_any (K : List UInt8) (w : World) (hK : K.length = 32) (hP : ∃ e, BAt (topE w) ⟨.agg64 orderL, e, false⟩ w 22 (sizeAt w 22)) :
    Calls Tryd.prog 5 #[.agg (K.map U8).toArray] w fun e w' => e = .returned (.bool true) ∧ Below w.heap.size w w' := by
  obtain ⟨e, he⟩ := hP
  refine walk_of_meets (scalarFits_ev e K hK) rfl (fun i x y hx hy => ?_) (ho_laid he)
  match i, hx, hy with
  | 0, hx, hy => injection hx with hx; injection hy with hy; subst hx; subst hy; exact rel_bytes _ _
  | i + 1, hx, _ => simp at hx
end Go.Proofs.YtmnhifagkcmhjaaDoor
