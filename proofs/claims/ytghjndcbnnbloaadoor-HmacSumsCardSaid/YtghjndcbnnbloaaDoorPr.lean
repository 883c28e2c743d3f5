/-
  The reference's pad, Sum, walked: the keyed hash.
-/
import Derived.Test.YtghjndcbnnbloaaDoorHm
import Derived.Test.YtghjndcbnnbloaaDoorRf
namespace Go.Proofs.YtghjndcbnnbloaaDoor
open Go.RowKit
attribute [local go_sem] xor_n8
theorem app_data' (S T : ByteArray) : (S ++ T).data.toList = S.data.toList ++ T.data.toList := by
  rw [ByteArray.data_append, Array.toList_append]
theorem mask_take (m : UInt8) (B : List UInt8) (k : Nat) (h : k < B.length) : maskL m (B.take (k + 1)) = maskL m (B.take k) ++ [B[k] ^^^ m] := by
  rw [List.take_succ_eq_append_getElem h, maskL, List.map_append]; rfl
def PadRel (w : World) (m : UInt8) (B : List UInt8) (V i : Value) (wr : World) : Prop :=
  ∃ k g c : Nat, k ≤ 64 ∧ i = .int .i64 k ∧ V = .slice (some ⟨g, 0, none⟩) k c ∧ wr.ownsRow w.heap.size 5 1 (.slice (some ⟨g, 0, none⟩) k c) k ((maskL m (B.take k)).map U8) ∧ Below w.heap.size w wr
theorem keyB_get (K : List UInt8) (k : Nat) (_hk : k < 64) : (keyB K).getD k 0 = if h : k < (keyL K).length then (keyL K)[k] else 0 := by
  unfold keyB
  split
  · next h => simp [List.getD_eq_getElem?_getD, List.getElem?_append_left h, h]
  · next h =>
    rw [List.getD_eq_getElem?_getD, List.getElem?_append_right (by omega), List.getElem?_replicate]
    split <;> rfl
set_option maxHeartbeats 1000000 in
theorem refPad_long (K : ByteArray) (m : UInt8) (w : World) (hs : K.size ≤ 1000000) (hlt : 64 < K.size) :
    Calls Tryd.prog 35 #[.string K, U8 m] w fun e w' => e = .returned (.string ⟨(maskL m (keyB K.data.toList)).toArray⟩) ∧ Below w.heap.size w w' := by
  obtain ⟨i5, hi5, hy0, hy1, hy2⟩ := info_parts info5
  obtain ⟨B, hB⟩ : ∃ B, B = keyB K.data.toList := ⟨_, rfl⟩
  have hlB := length_keyB K.data.toList
  have hkl : keyL K.data.toList = sha256 K.data.toList := by unfold keyL; rw [if_pos (show 64 < K.data.toList.length from hlt)]
  obtain ⟨S, hS⟩ : ∃ S : ByteArray, S = ⟨(sha256 K.data.toList).toArray⟩ := ⟨_, rfl⟩
  have hSl : keyL K.data.toList = S.data.toList := by rw [hS, hkl]
  have hSs : S.size = 32 := by rw [hS]; show (sha256 K.data.toList).toArray.size = 32; rw [List.size_toArray, length_sha256]
  have hrS := fun W => refSum256_any K W hs
  rw [← hS] at hrS
  rw [← hB] at hlB
  have HRS := hid hrS
  have HKL := hid hSl
  have HLB := hid hlB
  have HB := hid hB
  have hSb : S.size ≤ 64 := by omega
  clear hkl hS hSl hrS hlB hB hSs
  go_enter Tryd.func35, Tryd.ntmps35
  go_wp2_with fail
  refine (HRS.out _).mono ?_
  rintro e w0 ⟨rfl, hb0⟩
  go_wp2
  go_loopw [5, 6] (fun V i wr => PadRel w m B V i wr) (fun _ i _ => 64 - (intOf i).toNat)
  case atStart => exact ⟨0, _, 0, Nat.zero_le _, rfl, rfl, own_lit _ 5 #[] 0 rfl (by decide) _ (hb0.size), hb0.alloc hb0.size _⟩
  case round =>
    obtain ⟨k, g, c, hk, rfl, rfl, hown, hbel⟩ := hrel
    by_cases hlt6 : k < 64
    · have hd : decide ((k : Int) < 64) = true := decide_eq_true (by omega)
      have hkB : k < B.length := by rw [HLB.out]; exact hlt6
      have hget := keyB_get K.data.toList k hlt6
      rw [← HB.out, HKL.out, List.getD_eq_getElem?_getD, List.getElem?_eq_getElem hkB, Option.getD_some] at hget
      have hnext := mask_take m B k hkB
      by_cases hkS : k < S.size
      · rw [dif_pos (show k < S.data.toList.length from hkS)] at hget
        have hz : ((S[k].toNat : Nat) : Int) = n8 S[k] := rfl
        have hbk : B[k] = S[k] := hget
        rw [hbk] at hnext
        have HNX := hid hnext
        have hds : decide ((k : Int) < S.size) = true := decide_eq_true (by omega)
        clear hnext hget hbk
        go_wp2_with (at_builtin; refine step_append rfl (.tmp 25) (.tmp 29) 28 rfl w.heap.size 5 i5 _ 1 Tryd.underlying28 hi5 hy0 hy1 hy2 rfl (by omega) _ k _ rfl (hown.alloc _) _ 0 1 1 [U8 (S[k] ^^^ m)] rfl rfl (new_one _ 5 _) (by simp [Value.oneCell']) (by omega) (by omega) (by have := hbel.size; simp; omega) ?_; intro g2 c2 w2 hown2 _ hb2)
        go_roundw
        case rel => exact ⟨k + 1, g2, c2, by omega, by go_num, rfl, by rw [HNX.out, List.map_append]; exact hown2, (hbel.alloc hbel.size _).trans hb2⟩
        case measure => simp [intOf]; omega
      · rw [dif_neg (show ¬ k < S.data.toList.length from hkS)] at hget
        rw [hget, UInt8.zero_xor] at hnext
        have HNX := hid hnext
        have hds : decide ((k : Int) < S.size) = false := decide_eq_false (by omega)
        have h0x : bits .xor .u8 0 (n8 m) = n8 m := (xor_n8 0 m).trans (by rw [UInt8.zero_xor])
        clear hnext hget
        go_wp2_with (at_builtin; refine step_append rfl (.tmp 25) (.tmp 29) 28 rfl w.heap.size 5 i5 _ 1 Tryd.underlying28 hi5 hy0 hy1 hy2 rfl (by omega) _ k _ rfl (hown.alloc _) _ 0 1 1 [U8 m] rfl rfl (new_one _ 5 _) (by simp [Value.oneCell']) (by omega) (by omega) (by have := hbel.size; simp; omega) ?_; intro g2 c2 w2 hown2 _ hb2)
        go_roundw
        case rel => exact ⟨k + 1, g2, c2, by omega, by go_num, rfl, by rw [HNX.out, List.map_append]; exact hown2, (hbel.alloc hbel.size _).trans hb2⟩
        case measure => simp [intOf]; omega
    · have hd : decide ((k : Int) < 64) = false := decide_eq_false (by omega)
      have hlM : (maskL m B).length = 64 := by rw [length_maskL, HLB.out]
      obtain ⟨M, hM⟩ : ∃ M, M = maskL m B := ⟨_, rfl⟩
      have hbM : Bytes wr g 0 M := fun q hq => by
        have hq2 : q < k := by rw [hM, hlM] at hq; omega
        rw [Nat.zero_add, own_cell hown q hq2, List.take_of_length_le (by rw [HLB.out]; omega), ← hM, List.getElem?_map, List.getElem?_eq_getElem hq]; rfl
      have hMk : M.length = k := by rw [hM, hlM]; omega
      have HM := hid hM
      have HMK := hid hMk
      clear hM hMk hlM hown
      go_wp2_with (refine wpList_string_of _ rfl 28 9 5 (.tmp 31) rfl Tryd.underlying28 Tryd.underlying5 Tryd.underlying9 g 0 _ c M rfl HMK.out hbM ?_)
      go_ret
      exact ⟨by rw [← HB.out, ← HM.out]; rfl, hbel⟩
set_option maxHeartbeats 1000000 in
theorem refPad_short (K : ByteArray) (m : UInt8) (w : World) (hs : K.size ≤ 1000000) (hlt : K.size ≤ 64) :
    Calls Tryd.prog 35 #[.string K, U8 m] w fun e w' => e = .returned (.string ⟨(maskL m (keyB K.data.toList)).toArray⟩) ∧ Below w.heap.size w w' := by
  obtain ⟨i5, hi5, hy0, hy1, hy2⟩ := info_parts info5
  obtain ⟨B, hB⟩ : ∃ B, B = keyB K.data.toList := ⟨_, rfl⟩
  have hlB := length_keyB K.data.toList
  have hkl : keyL K.data.toList = K.data.toList := by unfold keyL; rw [if_neg (show ¬ 64 < K.data.toList.length from by show ¬ 64 < K.size; omega)]
  rw [← hB] at hlB
  have HKL := hid hkl
  have HLB := hid hlB
  have HB := hid hB
  have hb0 : Below w.heap.size w w := Below.refl _ _
  clear hkl hlB hB
  go_enter Tryd.func35, Tryd.ntmps35
  go_wp2
  go_loopw [5, 6] (fun V i wr => PadRel w m B V i wr) (fun _ i _ => 64 - (intOf i).toNat)
  case atStart => exact ⟨0, _, 0, Nat.zero_le _, rfl, rfl, own_lit _ 5 #[] 0 rfl (by decide) _ (hb0.size), hb0.alloc hb0.size _⟩
  case round =>
    obtain ⟨k, g, c, hk, rfl, rfl, hown, hbel⟩ := hrel
    by_cases hlt6 : k < 64
    · have hd : decide ((k : Int) < 64) = true := decide_eq_true (by omega)
      have hkB : k < B.length := by rw [HLB.out]; exact hlt6
      have hget := keyB_get K.data.toList k hlt6
      rw [← HB.out, HKL.out, List.getD_eq_getElem?_getD, List.getElem?_eq_getElem hkB, Option.getD_some] at hget
      have hnext := mask_take m B k hkB
      by_cases hkS : k < K.size
      · rw [dif_pos (show k < K.data.toList.length from hkS)] at hget
        have hz : ((K[k].toNat : Nat) : Int) = n8 K[k] := rfl
        have hbk : B[k] = K[k] := hget
        rw [hbk] at hnext
        have HNX := hid hnext
        have hds : decide ((k : Int) < K.size) = true := decide_eq_true (by omega)
        clear hnext hget hbk
        go_wp2_with (at_builtin; refine step_append rfl (.tmp 25) (.tmp 29) 28 rfl w.heap.size 5 i5 _ 1 Tryd.underlying28 hi5 hy0 hy1 hy2 rfl (by omega) _ k _ rfl (hown.alloc _) _ 0 1 1 [U8 (K[k] ^^^ m)] rfl rfl (new_one _ 5 _) (by simp [Value.oneCell']) (by omega) (by omega) (by have := hbel.size; simp; omega) ?_; intro g2 c2 w2 hown2 _ hb2)
        go_roundw
        case rel => exact ⟨k + 1, g2, c2, by omega, by go_num, rfl, by rw [HNX.out, List.map_append]; exact hown2, (hbel.alloc hbel.size _).trans hb2⟩
        case measure => simp [intOf]; omega
      · rw [dif_neg (show ¬ k < K.data.toList.length from hkS)] at hget
        rw [hget, UInt8.zero_xor] at hnext
        have HNX := hid hnext
        have hds : decide ((k : Int) < K.size) = false := decide_eq_false (by omega)
        have h0x : bits .xor .u8 0 (n8 m) = n8 m := (xor_n8 0 m).trans (by rw [UInt8.zero_xor])
        clear hnext hget
        go_wp2_with (at_builtin; refine step_append rfl (.tmp 25) (.tmp 29) 28 rfl w.heap.size 5 i5 _ 1 Tryd.underlying28 hi5 hy0 hy1 hy2 rfl (by omega) _ k _ rfl (hown.alloc _) _ 0 1 1 [U8 m] rfl rfl (new_one _ 5 _) (by simp [Value.oneCell']) (by omega) (by omega) (by have := hbel.size; simp; omega) ?_; intro g2 c2 w2 hown2 _ hb2)
        go_roundw
        case rel => exact ⟨k + 1, g2, c2, by omega, by go_num, rfl, by rw [HNX.out, List.map_append]; exact hown2, (hbel.alloc hbel.size _).trans hb2⟩
        case measure => simp [intOf]; omega
    · have hd : decide ((k : Int) < 64) = false := decide_eq_false (by omega)
      have hlM : (maskL m B).length = 64 := by rw [length_maskL, HLB.out]
      obtain ⟨M, hM⟩ : ∃ M, M = maskL m B := ⟨_, rfl⟩
      have hbM : Bytes wr g 0 M := fun q hq => by
        have hq2 : q < k := by rw [hM, hlM] at hq; omega
        rw [Nat.zero_add, own_cell hown q hq2, List.take_of_length_le (by rw [HLB.out]; omega), ← hM, List.getElem?_map, List.getElem?_eq_getElem hq]; rfl
      have hMk : M.length = k := by rw [hM, hlM]; omega
      have HM := hid hM
      have HMK := hid hMk
      clear hM hMk hlM hown
      go_wp2_with (refine wpList_string_of _ rfl 28 9 5 (.tmp 31) rfl Tryd.underlying28 Tryd.underlying5 Tryd.underlying9 g 0 _ c M rfl HMK.out hbM ?_)
      go_ret
      exact ⟨by rw [← HB.out, ← HM.out]; rfl, hbel⟩
theorem refPad_any (K : ByteArray) (m : UInt8) (w : World) (hs : K.size ≤ 1000000) :
    Calls Tryd.prog 35 #[.string K, U8 m] w fun e w' => e = .returned (.string ⟨(maskL m (keyB K.data.toList)).toArray⟩) ∧ Below w.heap.size w w' := by
  by_cases hlt : 64 < K.size
  · exact refPad_long K m w hs hlt
  · exact refPad_short K m w hs (by omega)
theorem refHmac_any (K T : ByteArray) (w : World) (hs : K.size ≤ 1000000) (ht : T.size ≤ 900000) :
    Calls Tryd.prog 20 #[.string K, .string T] w fun e w' => e = .returned (.string ⟨(hmacL K.data.toList T.data.toList).toArray⟩) ∧ Below w.heap.size w w' := by
  obtain ⟨B, hB⟩ : ∃ B, B = keyB K.data.toList := ⟨_, rfl⟩
  have h1 := fun W => refPad_any K 92 W hs
  have h2 := fun W => refPad_any K 54 W hs
  have hlB := length_keyB K.data.toList
  rw [← hB] at h1 h2 hlB
  obtain ⟨M, hM⟩ : ∃ M : ByteArray, M = ⟨(maskL 54 B).toArray⟩ := ⟨_, rfl⟩
  obtain ⟨N, hN⟩ : ∃ N : ByteArray, N = ⟨(maskL 92 B).toArray⟩ := ⟨_, rfl⟩
  have hMs : M.size = 64 := by rw [hM]; show (maskL 54 B).toArray.size = 64; rw [List.size_toArray, length_maskL, hlB]
  have hMl : M.data.toList = maskL 54 B := by rw [hM]
  have hNs : N.size = 64 := by rw [hN]; show (maskL 92 B).toArray.size = 64; rw [List.size_toArray, length_maskL, hlB]
  have hNl : N.data.toList = maskL 92 B := by rw [hN]
  rw [← hM] at h2
  rw [← hN] at h1
  have h3 := fun W => refSum256_any (M ++ T) W (by rw [ByteArray.size_append]; omega)
  obtain ⟨R, hR⟩ : ∃ R : ByteArray, R = ⟨(sha256 (M ++ T).data.toList).toArray⟩ := ⟨_, rfl⟩
  have hRs : R.size = 32 := by rw [hR]; show (sha256 (M ++ T).data.toList).toArray.size = 32; rw [List.size_toArray, length_sha256]
  have hRl : R.data.toList = sha256 (M ++ T).data.toList := by rw [hR]
  rw [← hR] at h3
  have h4 := fun W => refSum256_any (N ++ R) W (by rw [ByteArray.size_append]; omega)
  have hX : sha256 (N ++ R).data.toList = hmacL K.data.toList T.data.toList := by
    rw [app_data', hNl, hRl, app_data', hMl, hB]; rfl
  rw [hX] at h4
  have H1 := hid h1
  have H2 := hid h2
  have H3 := hid h3
  have H4 := hid h4
  have hMT : M.size + T.size ≤ 1000000 := by omega
  have hNR : N.size + R.size ≤ 1000000 := by omega
  clear h1 h2 h3 h4 hX hR hRs hRl hN hNs hNl hM hMs hMl hB hlB
  go_enter Tryd.func20, Tryd.ntmps20
  go_wp2_with fail
  refine (H1.out _).mono ?_
  rintro e w1 ⟨rfl, hb1⟩
  go_wp2_with fail
  refine (H2.out _).mono ?_
  rintro e w2 ⟨rfl, hb2⟩
  have hb02 : Below w.heap.size w w2 := hb1.trans (hb2.mono hb1.size)
  go_wp2_with fail
  refine (H3.out _).mono ?_
  rintro e w3 ⟨rfl, hb3⟩
  have hb03 : Below w.heap.size w w3 := hb02.trans (hb3.mono hb02.size)
  go_wp2_with fail
  refine (H4.out _).mono ?_
  rintro e w4 ⟨rfl, hb4⟩
  have hb04 : Below w.heap.size w w4 := hb03.trans (hb4.mono hb03.size)
  go_wp2
  go_ret
  exact ⟨rfl, hb04⟩
end Go.Proofs.YtghjndcbnnbloaaDoor
