/-
  The fixed facts of layer 2 (awake), walked.
-/
import Derived.Test.YtghjndcbnnbloaaDoorSd
import Derived.Test.YtghjndcbnnbloaaDoorSa
namespace Go.Proofs.YtghjndcbnnbloaaDoor
open Go.RowKit
def foxL : List UInt8 := [84, 104, 101, 32, 113, 117, 105, 99, 107, 32, 98, 114, 111, 119, 110, 32, 102, 111, 120, 32, 106, 117, 109, 112, 115, 32, 111, 118, 101, 114, 32, 116, 104, 101, 32, 108, 97, 122, 121, 32, 100, 111, 103]
def foxH : List UInt8 := [102, 55, 98, 99, 56, 51, 102, 52, 51, 48, 53, 51, 56, 52, 50, 52, 98, 49, 51, 50, 57, 56, 101, 54, 97, 97, 54, 102, 98, 49, 52, 51, 101, 102, 52, 100, 53, 57, 97, 49, 52, 57, 52, 54, 49, 55, 53, 57, 57, 55, 52, 55, 57, 100, 98, 99, 50, 100, 49, 97, 51, 99, 100, 56]
theorem hex_fox : hexL (hmacL [107, 101, 121] foxL) = foxH := by decide +kernel
theorem length_spreadL (K lab : List UInt8) (n : Nat) : (spreadL K lab n).length = n := by
  unfold spreadL; rw [List.length_take, length_outP]; omega
theorem same_refl (a : ByteArray) (w : World) (ha : a.size ≤ maxLen) :
    Calls Tryd.prog 21 #[.string a, .string a] w fun e w' => e = .returned (.bool true) ∧ Below w.heap.size w w' := by
  have h := same_any a a w ha ha
  rw [show decide (a.data.toList = a.data.toList) = true from decide_eq_true rfl] at h
  exact h
set_option maxHeartbeats 1000000 in
set_option maxRecDepth 100000 in
theorem awake2_any (w : World) (hK : KAt32 w) :
    Calls Tryd.prog 18 #[] w fun e w' => e = .returned (.bool true) ∧ Below w.heap.size w w' := by
  obtain ⟨w1, hw1, hbel1, hb1, hsz1⟩ := one_new w 9 #[.string ⟨#[84, 104, 101, 32, 113, 117, 105, 99, 107, 32, 98, 114, 111, 119, 110, 32, 102, 111, 120, 32, 106, 117, 109, 112, 115, 32, 111, 118, 101, 114, 32, 116, 104, 101, 32, 108, 97, 122, 121, 32, 100, 111, 103]⟩]
  have HW1 := hid hw1
  clear hw1 hsz1
  have hfl : flat [ByteArray.mk #[84, 104, 101, 32, 113, 117, 105, 99, 107, 32, 98, 114, 111, 119, 110, 32, 102, 111, 120, 32, 106, 117, 109, 112, 115, 32, 111, 118, 101, 114, 32, 116, 104, 101, 32, 108, 97, 122, 121, 32, 100, 111, 103]] = foxL := rfl
  have HFL := hid hfl
  clear hfl
  go_enter Tryd.func18, Tryd.ntmps18
  go_wp2_with fail
  rw [← HW1.out]
  clear HW1
  refine (hmac_any ⟨#[107, 101, 121]⟩ (some ⟨w.heap.size, 0, none⟩) 1 1 [⟨#[84, 104, 101, 32, 113, 117, 105, 99, 107, 32, 98, 114, 111, 119, 110, 32, 102, 111, 120, 32, 106, 117, 109, 112, 115, 32, 111, 118, 101, 114, 32, 116, 104, 101, 32, 108, 97, 122, 121, 32, 100, 111, 103]⟩] w1 (strs_one hb1) (by decide) (by omega) (by decide) (hK.below hbel1 hK.lt)).mono ?_
  rintro e w2 ⟨rfl, hbel2⟩
  rw [HFL.out, show (ByteArray.mk #[107, 101, 121]).data.toList = [107, 101, 121] from rfl]
  have hD : (hmacL [107, 101, 121] foxL).length = 32 := length_hmacL _ _
  have hDx : hexL (hmacL [107, 101, 121] foxL) = foxH := hex_fox
  obtain ⟨D, hDe⟩ : ∃ D, D = hmacL [107, 101, 121] foxL := ⟨_, rfl⟩
  rw [← hDe] at hD hDx ⊢
  have HD := hid hD
  have HDX := hid hDx
  clear hD hDx hDe HFL
  have hb02 : Below w.heap.size w w2 := hbel1.trans (hbel2.mono hbel1.size)
  have hsz2 := hb02.size
  clear hbel1 hbel2 hb1
  go_wp2_with (first
    | (refine wpList_store_blk rfl 24 (.tmp 1) (.tmp 3) rfl w2.heap.size _ rfl rfl 24 _ (Blk.new w2 24 _) (size24 _ HD.out) (by simp [HD.out]) (oneCell_bytes32 _) ?_
       intro w3 h3 hg3
       have hb03 : Below w.heap.size w w3 := below_grown (hb02.alloc hsz2 _) hg3 (by simp; omega) hsz2
       clear hg3)
    | (refine wpList_string_of w3 rfl 28 9 5 (.tmp 4) rfl Tryd.underlying28 Tryd.underlying5 Tryd.underlying9 w2.heap.size 0 32 32 D rfl HD.out (bytes_of_list' h3) ?_))
  have hx := hex_any ⟨D.toArray⟩ w3 (by show D.toArray.size ≤ _; rw [List.size_toArray, HD.out]; omega)
  rw [show hexL (ByteArray.mk D.toArray).data.toList = foxH from HDX.out, show (ByteArray.mk foxH.toArray) = ⟨#[102, 55, 98, 99, 56, 51, 102, 52, 51, 48, 53, 51, 56, 52, 50, 52, 98, 49, 51, 50, 57, 56, 101, 54, 97, 97, 54, 102, 98, 49, 52, 51, 101, 102, 52, 100, 53, 57, 97, 49, 52, 57, 52, 54, 49, 55, 53, 57, 57, 55, 52, 55, 57, 100, 98, 99, 50, 100, 49, 97, 51, 99, 100, 56]⟩ from rfl] at hx
  refine hx.mono ?_
  rintro e w4 ⟨rfl, hbel4⟩
  have hb04 : Below w.heap.size w w4 := hb03.trans (hbel4.mono hb03.size)
  clear hbel4 hb03 hx h3 hb02
  go_wp2_with fail
  refine (same_refl ⟨#[97]⟩ w4 (by decide)).mono ?_
  rintro e w5 ⟨rfl, hbel5⟩
  have hb05 : Below w.heap.size w w5 := hb04.trans (hbel5.mono hb04.size)
  clear hbel5 hb04
  go_wp2_with fail
  refine (spread_any ⟨#[107]⟩ ⟨#[108]⟩ 40 w5 (by decide) (by decide) (by decide) (hK.below hb05 hK.lt)).mono ?_
  rintro e w6 ⟨rfl, hbel6⟩
  obtain ⟨R, hR⟩ : ∃ R : ByteArray, R = ⟨(spreadL (ByteArray.mk #[107]).data.toList (ByteArray.mk #[108]).data.toList (40 : Int).toNat).toArray⟩ := ⟨_, rfl⟩
  have hRs : R.size = 40 := by rw [hR]; show (spreadL _ _ _).toArray.size = 40; rw [List.size_toArray, length_spreadL]; rfl
  rw [← hR]
  have hb06 : Below w.heap.size w w6 := hb05.trans (hbel6.mono hb05.size)
  clear hR hbel6 hb05
  go_wp2
  go_ret
  exact ⟨rfl, hb06⟩
end Go.Proofs.YtghjndcbnnbloaaDoor
