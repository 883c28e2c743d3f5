/-
  Texts of this claim.
-/
import Derived.Test.YtdmlpblaelfdmaaGreatDoorGD6
import Derived.Test.YtdmlpblaelfdmaaGreatDoorGP3
import Derived.Test.YtdmlpblaelfdmaaGreatDoorGL3
namespace Go.Proofs.YtdmlpblaelfdmaaGreatDoor
open Go.ChangeShapes Go.WideShapes Go.RowKit
set_option maxRecDepth 100000 in
theorem packetWrites_all {H : Type} {enc : TypeId × Value → H} {v : Value} {d : DataW H} {ps : List MemPlace} (W : World) {b0 : Nat} (hv : Value.okWide Tryz.prog W .any b0 22 v)
  (ht : DataW.Trod enc Tryz.prog W 0 (fun _ => true) true 22 v d ps) (hQ : QAt W) (h : laidMet Tryz.prog Rows.packetWritesRow.laid W) :
  Calls Tryz.prog 3 #[v] W fun e W' => e = .returned (.bool true) ∧ Below W.heap.size W W' := by
 have h1 := laidMet_tail h
 obtain ⟨eo, hd, hkn⟩ := laid_errs h1
 have c34 : Tryz.prog.cellsOf 31 = 34 := by kernel_rfl
 have cl : Tryz.prog.cellsOf 4 = 1 := by kernel_rfl
 have cB : Tryz.prog.cellsOf 24 = 32 := by kernel_rfl
 have cb : Tryz.prog.cellsOf 5 = 1 := by kernel_rfl
 have cs_ : Tryz.prog.cellsOf 9 = 1 := by kernel_rfl
 obtain ⟨l, b, o, hl, hr, hb⟩ := items_arg (P := Tryz.prog) (W := W) (eo := eo) Tryz.underlying22 Tryz.underlying31 c34 rfl rfl rfl rfl rfl rfl Tryz.underlying4 Tryz.underlying24 Tryz.underlying5 Tryz.underlying9 cl cB cb cs_ hv ht (blk_of hkn)
 refine walk_of_meets_at (argE W eo b) (argE_glob _ _ _) (argE_top _ _ _) (packetWrites_ev eo hd anyT o l hl) rfl (fun i x y hx hy => ?_) (known.spec ⟨⟨rfl, 22, sizeAt W 22, argE_le W eo b _ _ (by simp [errE]), quarters_any hQ⟩, known_app (known.mono (argE_le W eo b) hkn) ⟨⟨rfl, b, sizeAt W b, argE_450 W eo b, hb⟩, trivial⟩⟩)
 match i, hx, hy with
 | 0, hx, hy => injection hx with hx; injection hy with hy; subst hx; subst hy; exact hr
 | i + 1, hx, _ => simp at hx
end Go.Proofs.YtdmlpblaelfdmaaGreatDoor
