/-
  The reference's Sum256 and Sum512, walked: they are the hashes of Sm.
-/
import Derived.Test.YtghjndcbnnbloaaDoorEr
namespace Go.Proofs.YtghjndcbnnbloaaDoor
open Go.RowKit
theorem refSum256_any (S0 : ByteArray) (w : World) (hs : S0.size ≤ 1000000) :
    Calls Tryd.prog 14 #[.string S0] w fun e w' => e = .returned (.string ⟨(sha256 S0.data.toList).toArray⟩) ∧ Below w.heap.size w w' := by
  go_enter Tryd.func14, Tryd.ntmps14
  go_wp2_with fail
  refine (refSum32_pad S0 w hs).mono ?_
  rintro e w' ⟨rfl, hb⟩
  rw [rsum32_eq]
  go_wp2
  go_ret
  exact ⟨rfl, hb⟩
theorem refSum512_any (S0 : ByteArray) (w : World) (hs : S0.size ≤ 1000000) :
    Calls Tryd.prog 15 #[.string S0] w fun e w' => e = .returned (.string ⟨(sha512 S0.data.toList).toArray⟩) ∧ Below w.heap.size w w' := by
  go_enter Tryd.func15, Tryd.ntmps15
  go_wp2_with fail
  refine (refSum64_pad S0 w hs).mono ?_
  rintro e w' ⟨rfl, hb⟩
  rw [rsum64_eq]
  go_wp2
  go_ret
  exact ⟨rfl, hb⟩
end Go.Proofs.YtghjndcbnnbloaaDoor
