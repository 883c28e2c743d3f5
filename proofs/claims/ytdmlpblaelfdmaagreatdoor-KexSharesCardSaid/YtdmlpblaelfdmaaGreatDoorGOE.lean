/-
  Texts of this claim.
-/
import Derived.Test.YtdmlpblaelfdmaaGreatDoorGOC
import Derived.Test.YtdmlpblaelfdmaaGreatDoorGOD
namespace Go.Proofs.YtdmlpblaelfdmaaGreatDoor
open Go.ChangeShapes Go.WideShapes Go.ChangeAt Go.RowKit
theorem kexShares_any (K Q : List UInt8) (W : World) (hK : K.length = 32) (hQ : Q.length = 32) (h : laidMetH Tryz.prog Rows.kexSharesRow.laid W) :
    Calls Tryz.prog 10 #[.agg (K.map U8).toArray, .agg (Q.map U8).toArray] W fun e W' => e = .returned (.bool true) ∧ Below W.heap.size W W' := by
  obtain ⟨eo, hd, hkn⟩ := kex_env h
  refine walk_of_meets_at (errE W eo) (errE_glob _ _) (errE_top _ _) (kexShares_ev anyT anyT anyT K Q hK hQ eo hd) rfl (fun i x y hx hy => ?_) (known.spec hkn)
  match i, hx, hy with
  | 0, hx, hy => injection hx with hx; injection hy with hy; subst hx; subst hy; exact rel_bytes _ _
  | 1, hx, hy => injection hx with hx; injection hy with hy; subst hx; subst hy; exact rel_bytes _ _
  | i + 2, hx, _ => simp at hx
end Go.Proofs.YtdmlpblaelfdmaaGreatDoor
