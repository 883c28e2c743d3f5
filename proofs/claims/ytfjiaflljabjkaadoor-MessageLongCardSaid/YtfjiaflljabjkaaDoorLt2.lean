/-
  The law MessageLong over worlds.
-/
import Derived.Test.YtfjiaflljabjkaaDoorGL
import Derived.Test.YtfjiaflljabjkaaDoorGQ
namespace Go.Proofs.YtfjiaflljabjkaaDoor
open Go.RowKit
theorem messageLong_all (kind n : Int) (W : World) (h : laidMet Tryd.prog Rows.messageLongRow.laid W) : Calls Tryd.prog 10 #[.int .i64 kind, .int .i64 n] W fun e W' => e = .returned (.bool true) ∧ Below W.heap.size W W' := by
  have h1 := laidMet_tail h
  obtain ⟨eo, hd, hk⟩ := laid_errs h1
  have h2 := laidMet_tail h1
  have h3 := laidMet_tail h2
  have h4 := laidMet_tail h3
  have h5 := laidMet_tail h4
  have h6 := laidMet_tail h5
  have h7 := laidMet_tail h6
  have h8 := laidMet_tail h7
  have h9 := laidMet_tail h8
  have h10 := laidMet_tail h9
  have h11 := laidMet_tail h10
  have h12 := laidMet_tail h11
  have h13 := laidMet_tail h12
  have h14 := laidMet_tail h13
  have h15 := laidMet_tail h14
  have h16 := laidMet_tail h15
  have h17 := laidMet_tail h16
  have h18 := laidMet_tail h17
  have h19 := laidMet_tail h18
  have h20 := laidMet_tail h19
  have h21 := laidMet_tail h20
  refine walk_of_meets_at (errE W eo) (errE_glob _ _) (errE_top _ _) (messageLong_ev eo hd kind n) rfl (fun i x y hx hy => ?_) (known.spec (known_app hk ⟨known_kinds h21, trivial⟩))
  match i, hx, hy with
  | 0, hx, hy => injection hx with hx; injection hy with hy; subst hx; subst hy; exact .i64 _
  | 1, hx, hy => injection hx with hx; injection hy with hy; subst hx; subst hy; exact .i64 _
  | i + 2, hx, _ => simp at hx
end Go.Proofs.YtfjiaflljabjkaaDoor
