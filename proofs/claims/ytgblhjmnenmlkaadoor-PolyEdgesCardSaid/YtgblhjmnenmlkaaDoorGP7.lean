/-
  Texts of this claim.
-/
import Derived.Test.YtgblhjmnenmlkaaDoorGP6
import Derived.Test.YtgblhjmnenmlkaaDoorGP3
import Derived.Test.YtgblhjmnenmlkaaDoorGL1
namespace Go.Proofs.YtgblhjmnenmlkaaDoor
open Go.ChangeShapes Go.WideShapes Go.RowKit
set_option maxRecDepth 100000 in
theorem polyEdges_all {H : Type} {enc : TypeId × Value → H} (key : List UInt8) (hk : key.length = 32) {v : Value} {d : DataW H} {ps : List MemPlace} (W : World) {b0 : Nat} (hv : Value.okWide Tryd.prog W .any b0 23 v)
    (ht : DataW.Trod enc Tryd.prog W 0 (fun _ => true) true 23 v d ps) (hQ : QAt W) :
    Calls Tryd.prog 3 #[.agg (key.map U8).toArray, v] W fun e W' => e = .returned (.bool true) ∧ Below W.heap.size W W' := by
  have hq : ∃ (b : Nat) (arr : Array Value) (t : TypeId) (fz : Nat × Nat), W.heap[b]? = some (.cells arr t fz) := by
    obtain ⟨arr, t, fz, hb, _⟩ := quarters_any (E := fun _ => none) hQ
    exact ⟨_, arr, t, fz, hb⟩
  have hci : Tryd.prog.cellsOf 5 = 1 := by kernel_rfl
  obtain ⟨l, b, o, hl, hr, hb⟩ := bytes_arg (P := Tryd.prog) (W := W) (eo := fun _ => (0, 0)) Tryd.underlying23 Tryd.underlying5 hci hv ht hq
  refine walk_of_meets_at (argE W (fun _ => (0, 0)) b) (argE_glob _ _ _) (argE_top _ _ _) (polyEdges_ev anyT key hk o l hl) rfl (fun i x y hx hy => ?_) (known.spec ⟨⟨rfl, 21, sizeAt W 21, argE_le W _ b _ _ (by simp [errE]), quarters_any hQ⟩, ⟨rfl, b, sizeAt W b, argE_450 W _ b, hb⟩, trivial⟩)
  match i, hx, hy with
  | 0, hx, hy => injection hx with hx; injection hy with hy; subst hx; subst hy; exact rel_bytes _ _
  | 1, hx, hy => injection hx with hx; injection hy with hy; subst hx; subst hy; exact hr
  | i + 2, hx, _ => simp at hx
end Go.Proofs.YtgblhjmnenmlkaaDoor
