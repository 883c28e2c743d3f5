/-
  Texts of this claim.
-/
import Derived.Test.YtdhpfkojodgadaaDoorGX5
import Derived.Test.YtdhpfkojodgadaaDoorGW5
namespace Go.Proofs.YtdhpfkojodgadaaDoor
open Go.ChangeShapes Go.WideShapes Go.ChangeAt Go.RowKit
set_option maxRecDepth 100000 in
theorem flowBuffers_all {H : Type} {enc : TypeId × Value → H} (n : Int) {v : Value} {d : DataW H} {ps : List MemPlace} (W : World) {b0 : Nat} (hv : Value.okWide Tryd.prog W .any b0 23 v)
  (ht : DataW.Trod enc Tryd.prog W 0 (fun _ => true) true 23 v d ps) (h : laidMet Tryd.prog Rows.flowBuffersRow.laid W) :
  Calls Tryd.prog 6 #[.int .i64 n, v] W fun e W' => e = .returned (.bool true) ∧ Below W.heap.size W W' := by
 obtain ⟨eo, hd, hkn⟩ := laid_errs h
 have c3 : Tryd.prog.cellsOf 28 = 3 := by kernel_rfl
 have ci : Tryd.prog.cellsOf 3 = 1 := by kernel_rfl
 have cs_ : Tryd.prog.cellsOf 9 = 1 := by kernel_rfl
 obtain ⟨l, b, o, hl, hr, hb⟩ := actw_arg (P := Tryd.prog) (W := W) (eo := eo) Tryd.underlying23 Tryd.underlying28 c3 rfl rfl rfl rfl rfl rfl Tryd.underlying3 Tryd.underlying9 ci cs_ hv ht (blk_of hkn)
 refine walk_of_meets_at (argE W eo b) (argE_glob _ _ _) (argE_top _ _ _) (flowBuffers_ev eo hd n o l hl) rfl (fun i x y hx hy => ?_) (known.spec (known_app (known.mono (argE_le W eo b) hkn) ⟨⟨rfl, b, sizeAt W b, argE_450 W eo b, hb⟩, trivial⟩))
 match i, hx, hy with
 | 0, hx, hy => injection hx with hx; injection hy with hy; subst hx; subst hy; exact .i64 _
 | 1, hx, hy => injection hx with hx; injection hy with hy; subst hx; subst hy; exact hr
 | i + 2, hx, _ => simp at hx
end Go.Proofs.YtdhpfkojodgadaaDoor
