/-
  A law of layer 5 over worlds.
-/
import Derived.Test.YtjhpelajhkhlcaaDoorGL
import Derived.Test.YtjhpelajhkhlcaaDoorGQ
namespace Go.Proofs.YtjhpelajhkhlcaaDoor
open Go.ChangeShapes Go.WideShapes Go.ChangeAt Go.RowKit
theorem fieldSums_any (s t : ByteArray) (w : World) (hs : s.size ≤ maxLen) (ht : t.size ≤ maxLen) (hP : ∃ e, BAt (topE w) ⟨.agg64 primeL, e, false⟩ w 20 (sizeAt w 20)) :
    Calls Tryd.prog 8 #[.string s, .string t] w fun e w' => e = .returned (.bool true) ∧ Below w.heap.size w w' := by
  obtain ⟨e, he⟩ := hP
  refine walk_of_meets (fieldSums_ev e s.data.toList t.data.toList hs ht) rfl (fun i x y hx hy => ?_) (hp_laid he)
  match i, hx, hy with
  | 0, hx, hy => injection hx with hx; injection hy with hy; subst hx; subst hy; exact .str _
  | 1, hx, hy => injection hx with hx; injection hy with hy; subst hx; subst hy; exact .str _
  | i + 2, hx, _ => simp at hx
end Go.Proofs.YtjhpelajhkhlcaaDoor
