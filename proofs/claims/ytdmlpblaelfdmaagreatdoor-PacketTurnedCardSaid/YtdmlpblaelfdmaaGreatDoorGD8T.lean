/-
  Texts of this claim.
-/
import Derived.Test.YtdmlpblaelfdmaaGreatDoorGDCT
import Derived.Test.YtdmlpblaelfdmaaGreatDoorGE1T
import Derived.Test.YtdmlpblaelfdmaaGreatDoorGP3T
namespace Go.Proofs.YtdmlpblaelfdmaaGreatDoor
open Go.ChangeShapes Go.WideShapes Go.RowKit
set_option maxRecDepth 100000 in
theorem packetTurned_all (key : List UInt8) (s : ByteArray) (at_ : Int) (W : World) (hk : key.length = 32) (hs : s.size ≤ maxLen) (hQ : QAt W) (h : laidMet Tryz.prog Rows.packetTurnedRow.laid W) :
  Calls Tryz.prog 5 #[.agg (key.map U8).toArray, .string s, .int .i64 at_] W fun e W' => e = .returned (.bool true) ∧ Below W.heap.size W W' := by
 have h1 := laidMet_tail h
 obtain ⟨eo, hd, hkn⟩ := laid_errs h1
 refine walk_of_meets_at (errE W eo) (errE_glob _ _) (errE_top _ _) (packetTurned_ev eo hd anyT key hk s.data.toList hs at_) rfl (fun i x y hx hy => ?_) (known.spec ⟨⟨rfl, 22, sizeAt W 22, by simp [errE], quarters_any hQ⟩, hkn⟩)
 match i, hx, hy with
 | 0, hx, hy => injection hx with hx; injection hy with hy; subst hx; subst hy; exact rel_bytes _ _
 | 1, hx, hy => injection hx with hx; injection hy with hy; subst hx; subst hy; exact .str _
 | 2, hx, hy => injection hx with hx; injection hy with hy; subst hx; subst hy; exact .i64 _
 | i + 3, hx, _ => simp at hx
end Go.Proofs.YtdmlpblaelfdmaaGreatDoor
