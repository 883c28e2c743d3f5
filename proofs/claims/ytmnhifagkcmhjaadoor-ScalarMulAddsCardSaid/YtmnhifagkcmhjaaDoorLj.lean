/-
  The law ScalarMulAdds over worlds.
-/
import Derived.Test.YtmnhifagkcmhjaaDoorGO
import Derived.Test.YtmnhifagkcmhjaaDoorSf
namespace Go.Proofs.YtmnhifagkcmhjaaDoor
open Go.ChangeShapes Go.WideShapes Go.ChangeAt Go.RowKit
theorem scalarMulAdds_any (x : List UInt8) (y : List UInt8) (z : List UInt8) (w : World) (hx : x.length = 32) (hy : y.length = 32) (hz : z.length = 32) (hP : ∃ e, BAt (topE w) ⟨.agg64 orderL, e, false⟩ w 22 (sizeAt w 22)) :
    Calls Tryd.prog 4 #[.agg (x.map U8).toArray, .agg (y.map U8).toArray, .agg (z.map U8).toArray] w fun e w' => e = .returned (.bool true) ∧ Below w.heap.size w w' := by
  obtain ⟨e, he⟩ := hP
  refine walk_of_meets (scalarMulAdds_ev e x y z hx hy hz) rfl (fun i x y hx hy => ?_) (ho_laid he)
  match i, hx, hy with
  | 0, hx, hy => injection hx with hx; injection hy with hy; subst hx; subst hy; exact rel_bytes _ _
  | 1, hx, hy => injection hx with hx; injection hy with hy; subst hx; subst hy; exact rel_bytes _ _
  | 2, hx, hy => injection hx with hx; injection hy with hy; subst hx; subst hy; exact rel_bytes _ _
  | i + 3, hx, _ => simp at hx
end Go.Proofs.YtmnhifagkcmhjaaDoor
