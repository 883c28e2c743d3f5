/-
  Texts of this claim.
-/
import Derived.Test.YtcnjekoidgefpaaGreatDoorGKME
import Derived.Test.YtcnjekoidgefpaaGreatDoorGOE
import Derived.Test.YtcnjekoidgefpaaGreatDoorGKWE
namespace Go.Proofs.YtcnjekoidgefpaaGreatDoor
open Go.ChangeShapes Go.WideShapes Go.ChangeAt Go.RowKit
theorem signSigns_any (a : List UInt8) (m : ByteArray) (w : World) (ha : a.length = 32) (hm0 : m.size ≤ maxLen) (hP : ∃ e, BAt (topE w) ⟨.agg64 jX, e, false⟩ w 0 (bV w 0)) (hM : ∃ e, BAt (topE w) ⟨.agg64 kV, e, false⟩ w 3 (bV w 3)) (hK : ∃ e, BAt (topE w) ⟨.agg64 K512, e, false⟩ w 1 (bV w 1)) (hO : ∃ e, BAt (topE w) ⟨.agg64 zX, e, false⟩ w 2 (bV w 2)) :
    Calls Tryz.prog 4 #[.agg (a.map U8).toArray, .string m] w fun e w' => e = .returned (.bool true) ∧ Below w.heap.size w w' := by
  obtain ⟨e, he⟩ := hP
  obtain ⟨e2, he2⟩ := hM
  obtain ⟨ek, hek⟩ := hK
  obtain ⟨eo, heo⟩ := hO
  refine walk_of_meets (signSigns_ev e e2 ek eo a m.data.toList ha hm0) rfl (fun i x y hx hy => ?_) (fun b k hk => ?_)
  · match i, hx, hy with
    | 0, hx, hy => injection hx with hx; injection hy with hy; subst hx; subst hy; exact rel_bytes _ _
    | 1, hx, hy => injection hx with hx; injection hy with hy; subst hx; subst hy; exact .str _
    | i + 2, hx, _ => simp at hx
  · have hm := fW hk
    simp only [List.mem_cons, List.not_mem_nil, or_false, Prod.mk.injEq, Option.some.injEq] at hm
    rcases hm with ⟨rfl, rfl⟩ | ⟨rfl, rfl⟩ | ⟨rfl, rfl⟩ | ⟨rfl, rfl⟩
    · exact ⟨by decide, rfl, he⟩
    · exact ⟨by decide, rfl, he2⟩
    · exact ⟨by decide, rfl, hek⟩
    · exact ⟨by decide, rfl, heo⟩
end Go.Proofs.YtcnjekoidgefpaaGreatDoor
