/-
  The law HmacSpreads, walked.
-/
import Derived.Test.YtghjndcbnnbloaaDoorA2
import Derived.Test.YtghjndcbnnbloaaDoorRs2
namespace Go.Proofs.YtghjndcbnnbloaaDoor
open Go.RowKit
theorem outP_prefix (K lab : List UInt8) (i j : Nat) : (outP K lab (i + j)).take (32 * i) = outP K lab i := by
  induction j with
  | zero => rw [Nat.add_zero, List.take_of_length_le (by rw [length_outP]; omega)]
  | succ j ih =>
    rw [← Nat.add_assoc, outP, List.take_append_of_le_length (by rw [length_outP]; omega), ih]
theorem spreadL_prefix (K lab : List UInt8) (m k : Nat) : (spreadL K lab (m + k)).take m = spreadL K lab m := by
  unfold spreadL
  obtain ⟨j, hj⟩ : ∃ j, (m + k + 31) / 32 = (m + 31) / 32 + j := ⟨(m + k + 31) / 32 - (m + 31) / 32, by omega⟩
  rw [List.take_take, Nat.min_eq_left (by omega), hj]
  have h := outP_prefix K lab ((m + 31) / 32) j
  rw [← h, List.take_take, Nat.min_eq_left (by omega)]
set_option maxHeartbeats 1000000 in
set_option maxRecDepth 100000 in
theorem hmacSpreads_mid (k0 l0 : ByteArray) (m : Nat) (hm : m ≤ 300) (hp : 0 < m) (w : World) (hk0 : k0.size ≤ maxLen) (hl0 : l0.size ≤ maxLen) (hK : KAt32 w) :
    Calls Tryd.prog 9 #[.string k0, .string l0, .int .i64 m] w fun e w' => e = .returned (.bool true) ∧ Below w.heap.size w w' := by
  go_enter Tryd.func9, Tryd.ntmps9
  go_wp2_with fail
  refine (awake2_any w hK).mono ?_
  rintro e w0 ⟨rfl, hbw0⟩
  go_wp2_with fail
  refine (cut_any k0 80 w0 hk0 (by omega) (by omega)).mono ?_
  rintro e w0' ⟨K, rfl, hKs, hKq, rfl⟩
  have hK2 : K.size ≤ 80 := by omega
  clear hKq hKs
  go_wp2_with fail
  refine (cut_any l0 40 w0 hl0 (by omega) (by omega)).mono ?_
  rintro e w0' ⟨lab, rfl, hLs, hLq, rfl⟩
  have hL2 : lab.size ≤ 40 := by omega
  clear hLq hLs
  obtain ⟨S, hS⟩ : ∃ S, S = spreadL K.data.toList lab.data.toList m := ⟨_, rfl⟩
  obtain ⟨T, hT⟩ : ∃ T, T = spreadL K.data.toList lab.data.toList (m + 40) := ⟨_, rfl⟩
  have HSL : Hid (S.length = m) := hid (by rw [hS]; exact length_spreadL _ _ _)
  have HTL : Hid (T.length = m + 40) := hid (by rw [hT]; exact length_spreadL _ _ _)
  have HP : Hid (T.take m = S) := hid (by rw [hT, hS]; exact spreadL_prefix _ _ _ _)
  have hc1 : ∀ W, KAt32 W → Calls Tryd.prog 22 #[.string K, .string lab, .int .i64 m] W fun e w' => e = .returned (.string ⟨S.toArray⟩) ∧ Below W.heap.size W w' := fun W hW => by
    have h := spread_any K lab m W (by omega) (by omega) (by omega) hW
    rw [show (m : Int).toNat = m by omega, ← hS] at h
    exact h
  have hc2 : ∀ W, KAt32 W → Calls Tryd.prog 22 #[.string K, .string lab, .int .i64 (m + 40)] W fun e w' => e = .returned (.string ⟨T.toArray⟩) ∧ Below W.heap.size W w' := fun W hW => by
    have h := spread_any K lab (m + 40) W (by omega) (by omega) (by omega) hW
    rw [show (m + 40 : Int).toNat = m + 40 by omega, ← hT] at h
    exact h
  have hc3 : ∀ W, Calls Tryd.prog 23 #[.string K, .string lab, .int .i64 m] W fun e w' => e = .returned (.string ⟨S.toArray⟩) ∧ Below W.heap.size W w' := fun W => by
    have h := refSpread_nat K lab m W (by omega) (by omega) (by omega)
    rw [← hS] at h
    exact h
  have HC1 := hid hc1
  have HC2 := hid hc2
  have HC3 := hid hc3
  clear hc1 hc2 hc3 hS hT
  go_wp2_with fail
  refine (HC1.out w0 (hK.below hbw0 hK.lt)).mono ?_
  rintro e w1 ⟨rfl, hbel1⟩
  have hb01 : Below w.heap.size w w1 := hbw0.trans (hbel1.mono hbw0.size)
  clear hbel1 hbw0
  go_wp2_with fail
  refine (HC2.out w1 (hK.below hb01 hK.lt)).mono ?_
  rintro e w2 ⟨rfl, hbel2⟩
  have hb02 : Below w.heap.size w w2 := hb01.trans (hbel2.mono hb01.size)
  clear hbel2 hb01

  go_wp2_with fail
  refine (HC3.out w2).mono ?_
  rintro e w3 ⟨rfl, hbel3⟩
  have hb03 : Below w.heap.size w w3 := hb02.trans (hbel3.mono hb02.size)
  clear hbel3 hb02
  have hTl : (T.length : Int) = m + 40 := by rw [HTL.out]; omega
  
  have hTx : (⟨T.toArray⟩ : ByteArray).extract 0 m = ⟨S.toArray⟩ := by
    apply ByteArray.ext
    rw [ByteArray.data_extract]
    apply Array.toList_inj.1
    simpa using HP.out
  go_wp2
  go_ret
  exact ⟨rfl, hb03⟩
set_option maxHeartbeats 1000000 in
set_option maxRecDepth 100000 in
theorem hmacSpreads_hi (k0 l0 : ByteArray) (n : Int) (hn : 300 < n) (w : World) (hk0 : k0.size ≤ maxLen) (hl0 : l0.size ≤ maxLen) (hK : KAt32 w) :
    Calls Tryd.prog 9 #[.string k0, .string l0, .int .i64 n] w fun e w' => e = .returned (.bool true) ∧ Below w.heap.size w w' := by
  go_enter Tryd.func9, Tryd.ntmps9
  go_wp2_with fail
  refine (awake2_any w hK).mono ?_
  rintro e w0 ⟨rfl, hbw0⟩
  go_wp2_with fail
  refine (cut_any k0 80 w0 hk0 (by omega) (by omega)).mono ?_
  rintro e w0' ⟨K, rfl, hKs, hKq, rfl⟩
  have hK2 : K.size ≤ 80 := by omega
  clear hKq hKs
  go_wp2_with fail
  refine (cut_any l0 40 w0 hl0 (by omega) (by omega)).mono ?_
  rintro e w0' ⟨lab, rfl, hLs, hLq, rfl⟩
  have hL2 : lab.size ≤ 40 := by omega
  clear hLq hLs
  obtain ⟨S, hS⟩ : ∃ S, S = spreadL K.data.toList lab.data.toList 300 := ⟨_, rfl⟩
  obtain ⟨T, hT⟩ : ∃ T, T = spreadL K.data.toList lab.data.toList (300 + 40) := ⟨_, rfl⟩
  have HSL : Hid (S.length = 300) := hid (by rw [hS]; exact length_spreadL _ _ _)
  have HTL : Hid (T.length = 300 + 40) := hid (by rw [hT]; exact length_spreadL _ _ _)
  have HP : Hid (T.take 300 = S) := hid (by rw [hT, hS]; exact spreadL_prefix _ _ _ _)
  have hc1 : ∀ W, KAt32 W → Calls Tryd.prog 22 #[.string K, .string lab, .int .i64 300] W fun e w' => e = .returned (.string ⟨S.toArray⟩) ∧ Below W.heap.size W w' := fun W hW => by
    have h := spread_any K lab 300 W (by omega) (by omega) (by omega) hW
    rw [show (300 : Int).toNat = 300 by omega, ← hS] at h
    exact h
  have hc2 : ∀ W, KAt32 W → Calls Tryd.prog 22 #[.string K, .string lab, .int .i64 (300 + 40)] W fun e w' => e = .returned (.string ⟨T.toArray⟩) ∧ Below W.heap.size W w' := fun W hW => by
    have h := spread_any K lab (300 + 40) W (by omega) (by omega) (by omega) hW
    rw [show (300 + 40 : Int).toNat = 300 + 40 by omega, ← hT] at h
    exact h
  have hc3 : ∀ W, Calls Tryd.prog 23 #[.string K, .string lab, .int .i64 300] W fun e w' => e = .returned (.string ⟨S.toArray⟩) ∧ Below W.heap.size W w' := fun W => by
    have h := refSpread_nat K lab 300 W (by omega) (by omega) (by omega)
    rw [← hS] at h
    exact h
  have HC1 := hid hc1
  have HC2 := hid hc2
  have HC3 := hid hc3
  clear hc1 hc2 hc3 hS hT
  go_wp2_with fail
  refine (HC1.out w0 (hK.below hbw0 hK.lt)).mono ?_
  rintro e w1 ⟨rfl, hbel1⟩
  have hb01 : Below w.heap.size w w1 := hbw0.trans (hbel1.mono hbw0.size)
  clear hbel1 hbw0
  go_wp2_with fail
  refine (HC2.out w1 (hK.below hb01 hK.lt)).mono ?_
  rintro e w2 ⟨rfl, hbel2⟩
  have hb02 : Below w.heap.size w w2 := hb01.trans (hbel2.mono hb01.size)
  clear hbel2 hb01

  go_wp2_with fail
  refine (HC3.out w2).mono ?_
  rintro e w3 ⟨rfl, hbel3⟩
  have hb03 : Below w.heap.size w w3 := hb02.trans (hbel3.mono hb02.size)
  clear hbel3 hb02
  have hTl : (T.length : Int) = 300 + 40 := by rw [HTL.out]; omega
  
  have hTx : (⟨T.toArray⟩ : ByteArray).extract 0 300 = ⟨S.toArray⟩ := by
    apply ByteArray.ext
    rw [ByteArray.data_extract]
    apply Array.toList_inj.1
    simpa using HP.out
  go_wp2
  go_ret
  exact ⟨rfl, hb03⟩
set_option maxHeartbeats 1000000 in
set_option maxRecDepth 100000 in
theorem hmacSpreads_zero (k0 l0 : ByteArray)  (w : World) (hk0 : k0.size ≤ maxLen) (hl0 : l0.size ≤ maxLen) (hK : KAt32 w) :
    Calls Tryd.prog 9 #[.string k0, .string l0, .int .i64 0] w fun e w' => e = .returned (.bool true) ∧ Below w.heap.size w w' := by
  go_enter Tryd.func9, Tryd.ntmps9
  go_wp2_with fail
  refine (awake2_any w hK).mono ?_
  rintro e w0 ⟨rfl, hbw0⟩
  go_wp2_with fail
  refine (cut_any k0 80 w0 hk0 (by omega) (by omega)).mono ?_
  rintro e w0' ⟨K, rfl, hKs, hKq, rfl⟩
  have hK2 : K.size ≤ 80 := by omega
  clear hKq hKs
  go_wp2_with fail
  refine (cut_any l0 40 w0 hl0 (by omega) (by omega)).mono ?_
  rintro e w0' ⟨lab, rfl, hLs, hLq, rfl⟩
  have hL2 : lab.size ≤ 40 := by omega
  clear hLq hLs
  obtain ⟨S, hS⟩ : ∃ S, S = spreadL K.data.toList lab.data.toList 0 := ⟨_, rfl⟩
  obtain ⟨T, hT⟩ : ∃ T, T = spreadL K.data.toList lab.data.toList (0 + 40) := ⟨_, rfl⟩
  have HSL : Hid (S.length = 0) := hid (by rw [hS]; exact length_spreadL _ _ _)
  have HTL : Hid (T.length = 0 + 40) := hid (by rw [hT]; exact length_spreadL _ _ _)
  have HP : Hid (T.take 0 = S) := hid (by rw [hT, hS]; exact spreadL_prefix _ _ _ _)
  have hc1 : ∀ W, KAt32 W → Calls Tryd.prog 22 #[.string K, .string lab, .int .i64 0] W fun e w' => e = .returned (.string ⟨S.toArray⟩) ∧ Below W.heap.size W w' := fun W hW => by
    have h := spread_any K lab 0 W (by omega) (by omega) (by omega) hW
    rw [show (0 : Int).toNat = 0 by omega, ← hS] at h
    exact h
  have hc2 : ∀ W, KAt32 W → Calls Tryd.prog 22 #[.string K, .string lab, .int .i64 (0 + 40)] W fun e w' => e = .returned (.string ⟨T.toArray⟩) ∧ Below W.heap.size W w' := fun W hW => by
    have h := spread_any K lab (0 + 40) W (by omega) (by omega) (by omega) hW
    rw [show (0 + 40 : Int).toNat = 0 + 40 by omega, ← hT] at h
    exact h
  have hc3 : ∀ W, Calls Tryd.prog 23 #[.string K, .string lab, .int .i64 0] W fun e w' => e = .returned (.string ⟨S.toArray⟩) ∧ Below W.heap.size W w' := fun W => by
    have h := refSpread_nat K lab 0 W (by omega) (by omega) (by omega)
    rw [← hS] at h
    exact h
  have HC1 := hid hc1
  have HC2 := hid hc2
  have HC3 := hid hc3
  clear hc1 hc2 hc3 hS hT
  go_wp2_with fail
  refine (HC1.out w0 (hK.below hbw0 hK.lt)).mono ?_
  rintro e w1 ⟨rfl, hbel1⟩
  have hb01 : Below w.heap.size w w1 := hbw0.trans (hbel1.mono hbw0.size)
  clear hbel1 hbw0
  go_wp2_with fail
  refine (HC2.out w1 (hK.below hb01 hK.lt)).mono ?_
  rintro e w2 ⟨rfl, hbel2⟩
  have hb02 : Below w.heap.size w w2 := hb01.trans (hbel2.mono hb01.size)
  clear hbel2 hb01

  go_wp2_with fail
  refine (HC3.out w2).mono ?_
  rintro e w3 ⟨rfl, hbel3⟩
  have hb03 : Below w.heap.size w w3 := hb02.trans (hbel3.mono hb02.size)
  clear hbel3 hb02
  have hTl : (T.length : Int) = 0 + 40 := by rw [HTL.out]; omega
  have hSe : S.isEmpty = true := by rw [List.eq_nil_of_length_eq_zero HSL.out]; rfl
  have hTx : (⟨T.toArray⟩ : ByteArray).extract 0 0 = ⟨S.toArray⟩ := by
    apply ByteArray.ext
    rw [ByteArray.data_extract]
    apply Array.toList_inj.1
    simpa using HP.out
  go_wp2
  go_ret
  exact ⟨rfl, hb03⟩
set_option maxHeartbeats 1000000 in
set_option maxRecDepth 100000 in
theorem hmacSpreads_neg (k0 l0 : ByteArray) (n : Int) (hn : n < 0) (w : World) (hk0 : k0.size ≤ maxLen) (hl0 : l0.size ≤ maxLen) (hK : KAt32 w) :
    Calls Tryd.prog 9 #[.string k0, .string l0, .int .i64 n] w fun e w' => e = .returned (.bool true) ∧ Below w.heap.size w w' := by
  go_enter Tryd.func9, Tryd.ntmps9
  go_wp2_with fail
  refine (awake2_any w hK).mono ?_
  rintro e w0 ⟨rfl, hbw0⟩
  go_wp2_with fail
  refine (cut_any k0 80 w0 hk0 (by omega) (by omega)).mono ?_
  rintro e w0' ⟨K, rfl, hKs, hKq, rfl⟩
  have hK2 : K.size ≤ 80 := by omega
  clear hKq hKs
  go_wp2_with fail
  refine (cut_any l0 40 w0 hl0 (by omega) (by omega)).mono ?_
  rintro e w0' ⟨lab, rfl, hLs, hLq, rfl⟩
  have hL2 : lab.size ≤ 40 := by omega
  clear hLq hLs
  obtain ⟨S, hS⟩ : ∃ S, S = spreadL K.data.toList lab.data.toList 0 := ⟨_, rfl⟩
  obtain ⟨T, hT⟩ : ∃ T, T = spreadL K.data.toList lab.data.toList (0 + 40) := ⟨_, rfl⟩
  have HSL : Hid (S.length = 0) := hid (by rw [hS]; exact length_spreadL _ _ _)
  have HTL : Hid (T.length = 0 + 40) := hid (by rw [hT]; exact length_spreadL _ _ _)
  have HP : Hid (T.take 0 = S) := hid (by rw [hT, hS]; exact spreadL_prefix _ _ _ _)
  have hc1 : ∀ W, KAt32 W → Calls Tryd.prog 22 #[.string K, .string lab, .int .i64 0] W fun e w' => e = .returned (.string ⟨S.toArray⟩) ∧ Below W.heap.size W w' := fun W hW => by
    have h := spread_any K lab 0 W (by omega) (by omega) (by omega) hW
    rw [show (0 : Int).toNat = 0 by omega, ← hS] at h
    exact h
  have hc2 : ∀ W, KAt32 W → Calls Tryd.prog 22 #[.string K, .string lab, .int .i64 (0 + 40)] W fun e w' => e = .returned (.string ⟨T.toArray⟩) ∧ Below W.heap.size W w' := fun W hW => by
    have h := spread_any K lab (0 + 40) W (by omega) (by omega) (by omega) hW
    rw [show (0 + 40 : Int).toNat = 0 + 40 by omega, ← hT] at h
    exact h
  have hc3 : ∀ W, Calls Tryd.prog 23 #[.string K, .string lab, .int .i64 0] W fun e w' => e = .returned (.string ⟨S.toArray⟩) ∧ Below W.heap.size W w' := fun W => by
    have h := refSpread_nat K lab 0 W (by omega) (by omega) (by omega)
    rw [← hS] at h
    exact h
  have HC1 := hid hc1
  have HC2 := hid hc2
  have HC3 := hid hc3
  clear hc1 hc2 hc3 hS hT
  go_wp2_with fail
  refine (HC1.out w0 (hK.below hbw0 hK.lt)).mono ?_
  rintro e w1 ⟨rfl, hbel1⟩
  have hb01 : Below w.heap.size w w1 := hbw0.trans (hbel1.mono hbw0.size)
  clear hbel1 hbw0
  go_wp2_with fail
  refine (HC2.out w1 (hK.below hb01 hK.lt)).mono ?_
  rintro e w2 ⟨rfl, hbel2⟩
  have hb02 : Below w.heap.size w w2 := hb01.trans (hbel2.mono hb01.size)
  clear hbel2 hb01
  go_wp2_with fail
  refine (spread_lo K lab n w2 (by omega)).mono ?_
  rintro e w2' ⟨rfl, hbel2⟩
  have hb02' : Below w.heap.size w w2' := hb02.trans (hbel2.mono hb02.size)
  clear hbel2 hb02
  obtain ⟨w2, rfl⟩ : ∃ w2 : World, w2 = w2' := ⟨_, rfl⟩
  have hb02 := hb02'
  clear hb02'
  go_wp2_with fail
  refine (HC3.out w2).mono ?_
  rintro e w3 ⟨rfl, hbel3⟩
  have hb03 : Below w.heap.size w w3 := hb02.trans (hbel3.mono hb02.size)
  clear hbel3 hb02
  have hTl : (T.length : Int) = 0 + 40 := by rw [HTL.out]; omega
  have hSe : S.isEmpty = true := by rw [List.eq_nil_of_length_eq_zero HSL.out]; rfl
  have hTx : (⟨T.toArray⟩ : ByteArray).extract 0 0 = ⟨S.toArray⟩ := by
    apply ByteArray.ext
    rw [ByteArray.data_extract]
    apply Array.toList_inj.1
    simpa using HP.out
  go_wp2
  go_ret
  exact ⟨rfl, hb03⟩
theorem hmacSpreads_any (k0 l0 : ByteArray) (n : Int) (w : World) (hk0 : k0.size ≤ maxLen) (hl0 : l0.size ≤ maxLen) (hK : KAt32 w) :
    Calls Tryd.prog 9 #[.string k0, .string l0, .int .i64 n] w fun e w' => e = .returned (.bool true) ∧ Below w.heap.size w w' := by
  by_cases h1 : 300 < n
  · exact hmacSpreads_hi k0 l0 n h1 w hk0 hl0 hK
  · by_cases h2 : n < 0
    · exact hmacSpreads_neg k0 l0 n h2 w hk0 hl0 hK
    · obtain ⟨m, rfl⟩ := Int.eq_ofNat_of_zero_le (show 0 ≤ n by omega)
      by_cases h3 : 0 < m
      · exact hmacSpreads_mid k0 l0 m (by omega) h3 w hk0 hl0 hK
      · obtain rfl : m = 0 := by omega
        exact hmacSpreads_zero k0 l0 w hk0 hl0 hK
end Go.Proofs.YtghjndcbnnbloaaDoor
