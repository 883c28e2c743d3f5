/-
  The law CurveTwo over worlds.
-/
import Derived.Test.YtmnhifagkcmhjaaDoorGL
import Derived.Test.YtmnhifagkcmhjaaDoorQk
namespace Go.Proofs.YtmnhifagkcmhjaaDoor
open Go.ChangeShapes Go.WideShapes Go.ChangeAt Go.RowKit
theorem curveTwo_any (a : List UInt8) (b : List UInt8) (w0 : World) (ha : a.length = 32) (hb : b.length = 32) (hP : ∃ e, BAt (topE w0) ⟨.agg64 primeL, e, false⟩ w0 0 (sizeAt w0 0)) :
    Calls Tryd.prog 13 #[.agg (a.map U8).toArray, .agg (b.map U8).toArray] w0 fun e w' => e = .returned (.bool true) ∧ Below w0.heap.size w0 w' := by
  obtain ⟨e, he⟩ := hP
  refine walk_of_meets (curveTwo_ev e a b ha hb) rfl (fun i x y hx hy => ?_) (hp_laid he)
  match i, hx, hy with
  | 0, hx, hy => injection hx with hx; injection hy with hy; subst hx; subst hy; exact rel_bytes _ _
  | 1, hx, hy => injection hx with hx; injection hy with hy; subst hx; subst hy; exact rel_bytes _ _
  | i + 2, hx, _ => simp at hx
end Go.Proofs.YtmnhifagkcmhjaaDoor
