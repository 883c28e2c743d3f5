/-
  A law of layer 6 over worlds.
-/
import Derived.Test.YtjhpelajhkhlcaaDoorGL
import Derived.Test.YtjhpelajhkhlcaaDoorGK
namespace Go.Proofs.YtjhpelajhkhlcaaDoor
open Go.ChangeShapes Go.WideShapes Go.ChangeAt Go.RowKit
theorem curveMults_any (K Q : List UInt8) (w : World) (hK : K.length = 32) (hQ : Q.length = 32) (hP : ∃ e, BAt (topE w) ⟨.agg64 primeL, e, false⟩ w 20 (sizeAt w 20)) :
    Calls Tryd.prog 12 #[.agg (K.map U8).toArray, .agg (Q.map U8).toArray] w fun e w' => e = .returned (.bool true) ∧ Below w.heap.size w w' := by
  obtain ⟨e, he⟩ := hP
  refine walk_of_meets (curveMults_ev e K Q hK hQ) rfl (fun i x y hx hy => ?_) (hp_laid he)
  match i, hx, hy with
  | 0, hx, hy => injection hx with hx; injection hy with hy; subst hx; subst hy; exact rel_bytes _ _
  | 1, hx, hy => injection hx with hx; injection hy with hy; subst hx; subst hy; exact rel_bytes _ _
  | i + 2, hx, _ => simp at hx
end Go.Proofs.YtjhpelajhkhlcaaDoor
