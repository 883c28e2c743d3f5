/-
  The law CurveThree over worlds.
-/
import Derived.Test.YtmnhifagkcmhjaaDoorGL
import Derived.Test.YtmnhifagkcmhjaaDoorQl
namespace Go.Proofs.YtmnhifagkcmhjaaDoor
open Go.ChangeShapes Go.WideShapes Go.ChangeAt Go.RowKit
theorem curveThree_any (a : List UInt8) (b : List UInt8) (c : List UInt8) (w0 : World) (ha : a.length = 32) (hb : b.length = 32) (hc : c.length = 32) (hP : ∃ e, BAt (topE w0) ⟨.agg64 primeL, e, false⟩ w0 0 (sizeAt w0 0)) :
    Calls Tryd.prog 15 #[.agg (a.map U8).toArray, .agg (b.map U8).toArray, .agg (c.map U8).toArray] w0 fun e w' => e = .returned (.bool true) ∧ Below w0.heap.size w0 w' := by
  obtain ⟨e, he⟩ := hP
  refine walk_of_meets (curveThree_ev e a b c ha hb hc) rfl (fun i x y hx hy => ?_) (hp_laid he)
  match i, hx, hy with
  | 0, hx, hy => injection hx with hx; injection hy with hy; subst hx; subst hy; exact rel_bytes _ _
  | 1, hx, hy => injection hx with hx; injection hy with hy; subst hx; subst hy; exact rel_bytes _ _
  | 2, hx, hy => injection hx with hx; injection hy with hy; subst hx; subst hy; exact rel_bytes _ _
  | i + 3, hx, _ => simp at hx
end Go.Proofs.YtmnhifagkcmhjaaDoor
