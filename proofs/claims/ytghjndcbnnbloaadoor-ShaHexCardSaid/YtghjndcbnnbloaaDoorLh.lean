/-
  The law ShaHex, walked.
-/
import Derived.Test.YtghjndcbnnbloaaDoorAw
import Derived.Test.YtghjndcbnnbloaaDoorHr
namespace Go.Proofs.YtghjndcbnnbloaaDoor
open Go.RowKit

theorem size_hexS (t : ByteArray) : (ByteArray.mk (hexL t.data.toList).toArray).size = 2 * t.size := by
  show (hexL t.data.toList).toArray.size = _
  rw [List.size_toArray, length_hexL]; rfl

set_option maxHeartbeats 400000 in
theorem shaHex_any (s : ByteArray) (w : World) (hs : s.size ≤ maxLen) (hK : KAt32 w) (hK2 : KAt64 w) :
    Calls Tryd.prog 6 #[.string s] w fun e w' => e = .returned (.bool true) ∧ Below w.heap.size w w' := by
  go_enter Tryd.func6, Tryd.ntmps6
  go_wp2_with fail
  refine (awake_any w hK hK2).mono ?_
  rintro e w1 ⟨rfl, hb1⟩
  go_wp2_with fail
  refine (cut_any s 200 w1 hs (by omega) (by omega)).mono ?_
  rintro e w2 ⟨t, rfl, ht, hq, rfl⟩
  clear hq
  have hsz := size_hexS t
  have h1 := fun W => hex_any t W (by omega)
  have h2 := fun W => refHex_any t W (by omega)
  generalize (ByteArray.mk (hexL t.data.toList).toArray) = H at hsz h1 h2
  have H1 := hid h1
  have H2 := hid h2
  clear h1 h2
  go_wp2_with fail
  refine (H1.out w1).mono ?_
  rintro e w3 ⟨rfl, hb3⟩
  have hb13 : Below w.heap.size w w3 := hb1.trans (hb3.mono hb1.size)
  go_wp2_with fail
  refine (H2.out w3).mono ?_
  rintro e w4 ⟨rfl, hb4⟩
  have hb14 : Below w.heap.size w w4 := hb13.trans (hb4.mono hb13.size)
  clear hb3 hb4 hb13
  go_wp2_with fail
  refine (H1.out w4).mono ?_
  rintro e w5 ⟨rfl, hb5⟩
  have hb15 : Below w.heap.size w w5 := hb14.trans (hb5.mono hb14.size)
  clear hb5 hb14
  go_wp2
  go_ret
  exact ⟨by simp, hb15⟩
end Go.Proofs.YtghjndcbnnbloaaDoor
