/-
  Texts of this claim.
-/
import Derived.Test.YtcnjekoidgefpaaDoorGKM
import Derived.Test.YtcnjekoidgefpaaDoorGO
import Derived.Test.YtcnjekoidgefpaaDoorGKQ
namespace Go.Proofs.YtcnjekoidgefpaaDoor
open Go.ChangeShapes Go.WideShapes Go.ChangeAt Go.RowKit
theorem signHigh_any (a : List UInt8) (m : ByteArray) (w : World) (ha : a.length = 32) (hm : m.size ≤ maxLen) (hP : ∃ e, BAt (topE w) ⟨.agg64 primeL, e, false⟩ w 4 (sizeAt w 4)) (hM : ∃ e, BAt (topE w) ⟨.agg64 minusL, e, false⟩ w 9 (sizeAt w 9)) (hK : ∃ e, BAt (topE w) ⟨.agg64 K512, e, false⟩ w 6 (sizeAt w 6)) (hO : ∃ e, BAt (topE w) ⟨.agg64 orderL, e, false⟩ w 7 (sizeAt w 7)) :
    Calls Tryd.prog 3 #[.agg (a.map U8).toArray, .string m] w fun e w' => e = .returned (.bool true) ∧ Below w.heap.size w w' := by
  obtain ⟨e, he⟩ := hP
  obtain ⟨e2, he2⟩ := hM
  obtain ⟨ek, hek⟩ := hK
  obtain ⟨eo, heo⟩ := hO
  refine walk_of_meets (signHigh_ev e e2 ek eo a m.data.toList ha hm) rfl (fun i x y hx hy => ?_) (fun b k hk => ?_)
  · match i, hx, hy with
    | 0, hx, hy => injection hx with hx; injection hy with hy; subst hx; subst hy; exact rel_bytes _ _
    | 1, hx, hy => injection hx with hx; injection hy with hy; subst hx; subst hy; exact .str _
    | i + 2, hx, _ => simp at hx
  · have hm := hget_mem hk
    simp only [List.mem_cons, List.not_mem_nil, or_false, Prod.mk.injEq, Option.some.injEq] at hm
    rcases hm with ⟨rfl, rfl⟩ | ⟨rfl, rfl⟩ | ⟨rfl, rfl⟩ | ⟨rfl, rfl⟩
    · exact ⟨by decide, rfl, he⟩
    · exact ⟨by decide, rfl, he2⟩
    · exact ⟨by decide, rfl, hek⟩
    · exact ⟨by decide, rfl, heo⟩
end Go.Proofs.YtcnjekoidgefpaaDoor
