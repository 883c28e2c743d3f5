/-
  Texts of this claim.
-/
import Derived.Test.YtgblhjmnenmlkaaDoorGD3
import Derived.Test.YtgblhjmnenmlkaaDoorGP3
namespace Go.Proofs.YtgblhjmnenmlkaaDoor
open Go.ChangeShapes Go.WideShapes Go.RowKit
set_option maxRecDepth 100000 in
theorem packetLong_all (n : Int) (b : Bool) (W : World) (hQ : QAt W) (h : laidMet Tryd.prog Rows.packetLongRow.laid W) :
    Calls Tryd.prog 8 #[.int .i64 n, .bool b] W fun e W' => e = .returned (.bool true) ∧ Below W.heap.size W W' := by
  have h1 := laidMet_tail h
  obtain ⟨eo, hd, hkn⟩ := laid_errs h1
  refine walk_of_meets_at (errE W eo) (errE_glob _ _) (errE_top _ _) (packetLong_ev eo hd anyT n b) rfl (fun i x y hx hy => ?_) (known.spec ⟨⟨rfl, 21, sizeAt W 21, by simp [errE], quarters_any hQ⟩, hkn⟩)
  match i, hx, hy with
  | 0, hx, hy => injection hx with hx; injection hy with hy; subst hx; subst hy; exact .i64 _
  | 1, hx, hy => injection hx with hx; injection hy with hy; subst hx; subst hy; exact .bool _
  | i + 2, hx, _ => simp at hx
end Go.Proofs.YtgblhjmnenmlkaaDoor
