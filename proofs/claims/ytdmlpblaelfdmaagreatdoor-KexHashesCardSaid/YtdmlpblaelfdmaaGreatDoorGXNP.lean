/-
  Texts of this claim.
-/
import Derived.Test.YtdmlpblaelfdmaaGreatDoorGXKP
import Derived.Test.YtdmlpblaelfdmaaGreatDoorGXIP
namespace Go.Proofs.YtdmlpblaelfdmaaGreatDoor
open Go.ChangeShapes Go.WideShapes Go.ChangeAt Go.RowKit
set_option maxRecDepth 100000 in
theorem kexHashes_all {H : Type} {enc : TypeId × Value → H} {v : Value} {d : DataW H} {ps : List MemPlace} (W : World) {b0 : Nat} (hv : Value.okWide Tryz.prog W .any b0 60 v) (ht : DataW.Trod enc Tryz.prog W 0 (fun _ => true) true 60 v d ps) (h : laidMetH Tryz.prog Rows.kexHashesRow.laid W) :
  Calls Tryz.prog 7 #[v] W fun e W' => e = .returned (.bool true) ∧ Below W.heap.size W W' := by
 obtain ⟨eo, hd, hkn⟩ := kex_env h
 obtain ⟨l0, l1, i0, i1, hh, p0, p1, sec, ⟨z0, z1, z2, z3, z4⟩, ⟨y0, y1, y2⟩, hr⟩ := exch_arg W hv ht
 refine walk_of_meets_at (errE W eo) (errE_glob _ _) (errE_top _ _) (kexHashes_ev anyT anyT anyT _ _ _ _ _ p0 p1 sec z0 z1 z2 z3 z4 y0 y1 y2 eo hd) rfl (fun i x y hx hy => ?_) (known.spec hkn)
 match i, hx, hy with
 | 0, hx, hy => injection hx with hx; injection hy with hy; subst hx; subst hy; exact hr _
 | i + 1, hx, _ => simp at hx
end Go.Proofs.YtdmlpblaelfdmaaGreatDoor
