/-
  Texts of this claim.
-/
import Derived.Test.YteefpaiefphdpaaDoorGJ7
import Derived.Test.YteefpaiefphdpaaDoorGE1
import Derived.Test.YteefpaiefphdpaaDoorGL1
namespace Go.Proofs.YteefpaiefphdpaaDoor
open Go.ChangeShapes Go.WideShapes Go.RowKit
set_option maxRecDepth 100000 in
theorem helloReads_all {H : Type} {enc : TypeId × Value → H} (c : Bool) (s : ByteArray) (hs : s.size ≤ maxLen) {v : Value} {d : DataW H} {ps : List MemPlace} (W : World) {b0 : Nat} (hv : Value.okWide Tryd.prog W .any b0 56 v)
  (ht : DataW.Trod enc Tryd.prog W 0 (fun _ => true) true 56 v d ps) (h : laidMet Tryd.prog Rows.helloReadsRow.laid W) :
  Calls Tryd.prog 7 #[.bool c, .string s, v] W fun e W' => e = .returned (.bool true) ∧ Below W.heap.size W W' := by
 obtain ⟨eo, hd, hk⟩ := laid_errs h
 have hq := blk_of hk
 have hci : Tryd.prog.cellsOf 3 = 1 := by kernel_rfl
 obtain ⟨l, b, o, hl, hr, hb⟩ := ints_arg (P := Tryd.prog) (W := W) (eo := eo) Tryd.underlying56 Tryd.underlying3 hci hv ht hq
 refine walk_of_meets_at (argE W eo b) (argE_glob _ _ _) (argE_top _ _ _) (helloReads_ev eo hd c s.data.toList hs o l hl) rfl (fun i x y hx hy => ?_) (known.spec (known_app (known.mono (argE_le W eo b) hk) ⟨⟨rfl, b, sizeAt W b, argE_450 W eo b, hb⟩, trivial⟩))
 match i, hx, hy with
 | 0, hx, hy => injection hx with hx; injection hy with hy; subst hx; subst hy; exact .bool _
 | 1, hx, hy => injection hx with hx; injection hy with hy; subst hx; subst hy; exact .str _
 | 2, hx, hy => injection hx with hx; injection hy with hy; subst hx; subst hy; exact hr
 | i + 3, hx, _ => simp at hx
end Go.Proofs.YteefpaiefphdpaaDoor
