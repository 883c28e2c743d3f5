/-
  Texts of this claim.
-/
import Derived.Test.YtdmlpblaelfdmaaGreatDoorGXLP
import Derived.Test.YtdmlpblaelfdmaaGreatDoorGODP
namespace Go.Proofs.YtdmlpblaelfdmaaGreatDoor
open Go.ChangeShapes Go.WideShapes Go.ChangeAt Go.RowKit
theorem kexDerives_any (a b : List UInt8) (n : Int) (W : World) (ha : a.length = 32) (hb : b.length = 32) (h : laidMetH Tryz.prog Rows.kexDerivesRow.laid W) :
    Calls Tryz.prog 8 #[.agg (a.map U8).toArray, .agg (b.map U8).toArray, .int .i64 n] W fun e W' => e = .returned (.bool true) ∧ Below W.heap.size W W' := by
  obtain ⟨eo, hd, hkn⟩ := kex_env h
  refine walk_of_meets_at (errE W eo) (errE_glob _ _) (errE_top _ _) (kexDerives_ev anyT anyT anyT a b n ha hb eo hd) rfl (fun i x y hx hy => ?_) (known.spec hkn)
  match i, hx, hy with
  | 0, hx, hy => injection hx with hx; injection hy with hy; subst hx; subst hy; exact rel_bytes _ _
  | 1, hx, hy => injection hx with hx; injection hy with hy; subst hx; subst hy; exact rel_bytes _ _
  | 2, hx, hy => injection hx with hx; injection hy with hy; subst hx; subst hy; exact .i64 _
  | i + 3, hx, _ => simp at hx
end Go.Proofs.YtdmlpblaelfdmaaGreatDoor
