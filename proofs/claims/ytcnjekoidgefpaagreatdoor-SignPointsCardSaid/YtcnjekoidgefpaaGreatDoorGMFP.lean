/-
  Texts of this claim.
-/
import Derived.Test.YtcnjekoidgefpaaGreatDoorGKMP
import Derived.Test.YtcnjekoidgefpaaGreatDoorGOP
import Derived.Test.YtcnjekoidgefpaaGreatDoorGKUP
namespace Go.Proofs.YtcnjekoidgefpaaGreatDoor
open Go.ChangeShapes Go.WideShapes Go.ChangeAt Go.RowKit
theorem signPoints_any (a : List UInt8) (w : World) (ha : a.length = 32) (hP : ∃ e, BAt (topE w) ⟨.agg64 primeL, e, false⟩ w 0 (sizeAt w 0)) (hM : ∃ e, BAt (topE w) ⟨.agg64 minusL, e, false⟩ w 3 (sizeAt w 3)) (hK : ∃ e, BAt (topE w) ⟨.agg64 K512, e, false⟩ w 1 (sizeAt w 1)) (hO : ∃ e, BAt (topE w) ⟨.agg64 orderL, e, false⟩ w 2 (sizeAt w 2)) :
    Calls Tryz.prog 6 #[.agg (a.map U8).toArray] w fun e w' => e = .returned (.bool true) ∧ Below w.heap.size w w' := by
  obtain ⟨e, he⟩ := hP
  obtain ⟨e2, he2⟩ := hM
  obtain ⟨ek, hek⟩ := hK
  obtain ⟨eo, heo⟩ := hO
  refine walk_of_meets (signPoints_ev e e2 ek eo a ha) rfl (fun i x y hx hy => ?_) (fun b k hk => ?_)
  · match i, hx, hy with
    | 0, hx, hy => injection hx with hx; injection hy with hy; subst hx; subst hy; exact rel_bytes _ _
    | i + 1, hx, _ => simp at hx
  · have hm := hget_mem hk
    simp only [List.mem_cons, List.not_mem_nil, or_false, Prod.mk.injEq, Option.some.injEq] at hm
    rcases hm with ⟨rfl, rfl⟩ | ⟨rfl, rfl⟩ | ⟨rfl, rfl⟩ | ⟨rfl, rfl⟩
    · exact ⟨by decide, rfl, he⟩
    · exact ⟨by decide, rfl, he2⟩
    · exact ⟨by decide, rfl, hek⟩
    · exact ⟨by decide, rfl, heo⟩
end Go.Proofs.YtcnjekoidgefpaaGreatDoor
