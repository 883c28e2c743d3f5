/-
  Texts of this claim.
-/
import Derived.Test.YtcnjekoidgefpaaGreatDoorGKMC
import Derived.Test.YtcnjekoidgefpaaGreatDoorGOC
import Derived.Test.YtcnjekoidgefpaaGreatDoorGKUC
namespace Go.Proofs.YtcnjekoidgefpaaGreatDoor
open Go.ChangeShapes Go.WideShapes Go.ChangeAt Go.RowKit
theorem signKeys_any (a : List UInt8) (w : World) (ha : a.length = 32) (hP : ∃ e, BAt (topE w) ⟨.agg64 jX, e, false⟩ w 0 (bV w 0)) (hM : ∃ e, BAt (topE w) ⟨.agg64 kV, e, false⟩ w 3 (bV w 3)) (hK : ∃ e, BAt (topE w) ⟨.agg64 K512, e, false⟩ w 1 (bV w 1)) (hO : ∃ e, BAt (topE w) ⟨.agg64 zX, e, false⟩ w 2 (bV w 2)) :
    Calls Tryz.prog 3 #[.agg (a.map U8).toArray] w fun e w' => e = .returned (.bool true) ∧ Below w.heap.size w w' := by
  obtain ⟨e, he⟩ := hP
  obtain ⟨e2, he2⟩ := hM
  obtain ⟨ek, hek⟩ := hK
  obtain ⟨eo, heo⟩ := hO
  refine walk_of_meets (signKeys_ev e e2 ek eo a ha) rfl (fun i x y hx hy => ?_) (fun b k hk => ?_)
  · match i, hx, hy with
    | 0, hx, hy => injection hx with hx; injection hy with hy; subst hx; subst hy; exact rel_bytes _ _
    | i + 1, hx, _ => simp at hx
  · have hm := fW hk
    simp only [List.mem_cons, List.not_mem_nil, or_false, Prod.mk.injEq, Option.some.injEq] at hm
    rcases hm with ⟨rfl, rfl⟩ | ⟨rfl, rfl⟩ | ⟨rfl, rfl⟩ | ⟨rfl, rfl⟩
    · exact ⟨by decide, rfl, he⟩
    · exact ⟨by decide, rfl, he2⟩
    · exact ⟨by decide, rfl, hek⟩
    · exact ⟨by decide, rfl, heo⟩
end Go.Proofs.YtcnjekoidgefpaaGreatDoor
