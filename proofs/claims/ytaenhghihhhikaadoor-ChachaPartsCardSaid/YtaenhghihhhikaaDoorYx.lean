/-
  The reference's Xor of the stream cipher, walked.
-/
import Derived.Test.YtaenhghihhhikaaDoorYb
import Derived.Test.YtaenhghihhhikaaDoorYs
namespace Go.Proofs.YtaenhghihhhikaaDoor
open Go.RowKit

def XR (w : World) (K N S : ByteArray) (C : UInt32) (n : Nat) (V b i : Value) (wr : World) : Prop :=
  ∃ (j : Nat) (B : List UInt8), j ≤ n ∧ i = .int .i64 j ∧ b = .string ⟨B.toArray⟩ ∧ Own wr w.heap.size 5 U8 V ((cXor K.data.toList C N.data.toList S.data.toList).take j) ∧ Below w.heap.size w wr ∧ (j = 0 ∨ B = cBlock K.data.toList (C + UInt32.ofNat ((j - 1) / 64)) N.data.toList)
theorem cXor_take (key nonce s : List UInt8) (C : UInt32) (i : Nat) (h : i < s.length) : (cXor key C nonce s).take (i + 1) = (cXor key C nonce s).take i ++ [s.getD i 0 ^^^ (cBlock key (C + UInt32.ofNat (i / 64)) nonce).getD (i % 64) 0] := by
  have h2 : i < (cXor key C nonce s).length := by rw [length_cXor]; exact h
  have e := get_cXor key C nonce s i h
  rw [List.getElem?_eq_getElem h2] at e
  rw [List.take_succ_eq_append_getElem h2, Option.some.inj e, List.getD_eq_getElem?_getD (l := s), List.getElem?_eq_getElem h]
  rfl
set_option maxHeartbeats 1000000 in
set_option maxRecDepth 100000 in
theorem refCxor_any (K N S : ByteArray) (C : UInt32) (w : World) (hK : K.size = 32) (hN : N.size = 12) (hS : S.size ≤ 1000000) :
    Calls Tryd.prog 17 #[.string K, .int .u64 (n32 C), .string N, .string S] w fun e w' => e = .returned (.string ⟨(cXor K.data.toList C N.data.toList S.data.toList).toArray⟩) ∧ Below w.heap.size w w' := by
  obtain ⟨i8, hi8, hy0, hy1, hy2⟩ := info_parts infoU8
  have H8 := hid (And.intro hi8 (And.intro hy0 (And.intro hy1 hy2)))
  clear hi8 hy0 hy1 hy2
  have HK := hid hK
  have HN := hid hN
  clear hK hN
  go_enter Tryd.func17, Tryd.ntmps17
  have hone : Own (w.alloc (.cells #[] 5)) w.heap.size 5 U8 (.slice (some ⟨w.heap.size, 0, none⟩) 0 0) ((cXor K.data.toList C N.data.toList S.data.toList).take 0) := Own.new (α := UInt8) w w.heap.size 5 U8 [] (Nat.le_refl _) (Nat.zero_le _)
  go_wp2
  go_loopw [9, 10, 11] (fun V b i wr => XR w K N S C S.size V b i wr) (fun _ _ i _ => S.size - (intOf i).toNat)
  case atStart => exact ⟨0, [], Nat.zero_le _, rfl, rfl, hone, (Below.refl _ _).alloc (Nat.le_refl _) _, Or.inl rfl⟩
  case round =>
    clear hone
    obtain ⟨i, B0, hi, rfl, rfl, hown, hbel, hor⟩ := hrel
    by_cases hlt : i < S.size
    · have hd : decide ((i : Int) < (S.size : Int)) = true := by simp; omega
      have hnx := cXor_take K.data.toList N.data.toList S.data.toList C i hlt
      have hln : ((cXor K.data.toList C N.data.toList S.data.toList).take i).length = i := by rw [List.length_take, length_cXor]; exact Nat.min_eq_left hi
      have HLN := hid hln
      have hbx := byte_at S i hlt
      obtain ⟨x, hx⟩ : ∃ x, x = S.data.toList.getD i 0 := ⟨_, rfl⟩
      rw [← hx] at hnx hbx
      have hi0 : (0 : Int) ≤ i := by omega
      have hi1 : (i : Int) < S.size := by omega
      have htm : (i : Int).tmod 64 = (i : Int) % 64 := Int.tmod_eq_emod_of_nonneg (by omega)
      have hm0 : (0 : Int) ≤ (i : Int).tmod 64 := by rw [htm]; omega
      by_cases h64 : i % 64 = 0
      · have ht : ((i : Int) % 64 == 0) = true := by simp; omega
        have hq : IntKind.u64.wrap ((i : Int) / 64) = (i : Int) / 64 := by rw [wrap_u64]; omega
        have hc0 := n32_nonneg C
        have hc1 := n32_lt C
        have hs : IntKind.u64.wrap (n32 C + (i : Int) / 64) = n32 C + (i : Int) / 64 := by rw [wrap_u64]; omega
        have hc : (n32 C + (i : Int) / 64) % 4294967296 = n32 (C + UInt32.ofNat (i / 64)) := by
          rw [← add_n32', ← lit_n32 _ (by omega)]; omega
        have HNX0 := hid hnx
        have HX := hid hx
        have HBX := hid hbx
        have HCC := hid hc
        clear hnx hx hbx hln hor hc
        go_wp2_with fail
        refine (refCblock_any K N (C + UInt32.ofNat (i / 64)) _ wr HK.out HN.out (by omega) HCC.out).mono ?_
        rintro e w1 ⟨rfl, hb1⟩
        have hown1 := hown.below hb1 (Nat.le_refl _)
        have hbel1 := hbel.trans (hb1.mono hbel.size)
        obtain ⟨B, hB⟩ : ∃ B, B = cBlock K.data.toList (C + UInt32.ofNat (i / 64)) N.data.toList := ⟨_, rfl⟩
        rw [← hB]
        have hnx := HNX0.out
        rw [← hB] at hnx
        have hBl : (ByteArray.mk B.toArray).size = 64 := by show B.toArray.size = 64; rw [List.size_toArray, hB, length_cBlock]
        have hbyl : i % 64 < (ByteArray.mk B.toArray).size := by rw [hBl]; omega
        have hby := byte_at ⟨B.toArray⟩ (i % 64) hbyl
        obtain ⟨y, hy⟩ : ∃ y, y = B.getD (i % 64) 0 := ⟨_, rfl⟩
        rw [← hy] at hnx
        have HB := hid (show B = cBlock K.data.toList (C + UInt32.ofNat (i / 64)) N.data.toList from hB)
        have HNX := hid hnx
        have hbz : (i : Int).tmod 64 < (B.length : Int) := by rw [htm, hB, length_cBlock]; omega
        have HV : Hid (∀ g0 g1, Value.int .u8 (bits .xor .u8 ((S[i]'g0).toNat : Int) (((ByteArray.mk B.toArray)[((i : Int).tmod 64).toNat]'g1).toNat : Int)) = U8 (x ^^^ y)) := hid (by
          intro g0 g1
          have t1 : ((i : Int).tmod 64).toNat = i % 64 := by rw [htm]; omega
          have e1 : ((S[i]'g0).toNat : Int) = n8 x := HBX.out
          have e2 : (((ByteArray.mk B.toArray)[((i : Int).tmod 64).toNat]'g1).toNat : Int) = n8 y := by
            simp only [t1, hby, hy]
          rw [e1, e2, xor_n8])
        clear hnx hB hy hby hBl htm hown hbel hb1 HNX0 ht hq hs hc0 hc1
        go_wp2
        refine wp_region_held_drew (S := fun _ => True) (by kernel_rfl) trivial (fun hHeldw => ?_)
        refine wpAnyH_take (i := 0) (oi := _) (v := ?vw0) rfl (by kernel_rfl) (by kernel_rfl) (by kernel_rfl) (fun _ _ _ h => h) (Or.inl ⟨by rfl, ?hyw0⟩) hHeldw ?_
        case hyw0 => (intro w hSw; go_simp; rfl)
        try simp only [Act.put]
        refine wpAnyH_take (i := 1) (oi := _) (v := ?vw1) rfl (by kernel_rfl) (by kernel_rfl) (by kernel_rfl) (fun _ _ _ h => h) (Or.inl ⟨by rfl, ?hyw1⟩) hHeldw ?_
        case hyw1 => (intro w hSw; go_simp; rfl)
        try simp only [Act.put]
        refine wpAnyH_take (i := 2) (oi := _) (v := ?vw2) rfl (by kernel_rfl) (by kernel_rfl) (by kernel_rfl) (fun _ _ _ h => h) (Or.inl ⟨by rfl, ?hyw2⟩) hHeldw ?_
        case hyw2 => (intro w hSw; go_simp; rfl)
        try simp only [Act.put]
        refine wpAnyH_take (i := 3) (oi := _) (v := ?vw3) rfl (by kernel_rfl) (by kernel_rfl) (by kernel_rfl) (fun _ _ _ h => h) (Or.inl ⟨by rfl, ?hyw3⟩) hHeldw ?_
        case hyw3 => (intro w hSw; go_simp; rfl)
        try simp only [Act.put]
        refine wpAnyH_take (i := 4) (oi := _) (v := ?vw4) rfl (by kernel_rfl) (by kernel_rfl) (by kernel_rfl) (fun _ _ _ h => h) (Or.inl ⟨by rfl, ?hyw4⟩) hHeldw ?_
        case hyw4 => (intro w hSw; go_simp; rfl)
        try simp only [Act.put]
        refine wpAnyH_take (i := 5) (oi := _) (v := ?vw5) rfl (by kernel_rfl) (by kernel_rfl) (by kernel_rfl) (fun _ _ _ h => h) (Or.inl ⟨by rfl, ?hyw5⟩) hHeldw ?_
        case hyw5 => (intro w hSw; go_simp; rfl)
        try simp only [Act.put]
        refine wpAnyH_take (i := 6) (oi := _) (v := ?vw6) rfl (by kernel_rfl) (by kernel_rfl) (by kernel_rfl) (fun _ _ _ h => h) (Or.inl ⟨by rfl, ?hyw6⟩) hHeldw ?_
        case hyw6 => (intro w hSw; go_simp; rfl)
        try simp only [Act.put]
        refine wpAnyH_take (i := 7) (oi := _) (v := ?vw7) rfl (by kernel_rfl) (by kernel_rfl) (by kernel_rfl) (fun _ _ _ h => h) (Or.inl ⟨by rfl, ?hyw7⟩) hHeldw ?_
        case hyw7 => (intro w hSw; go_simp; rfl)
        try simp only [Act.put]
        refine wpAnyH_take (i := 8) (oi := _) (v := ?vw8) rfl (by kernel_rfl) (by kernel_rfl) (by kernel_rfl) (fun _ _ _ h => h) (Or.inl ⟨by rfl, ?hyw8⟩) hHeldw ?_
        case hyw8 => (intro w hSw; go_simp; rfl)
        try simp only [Act.put]
        refine wpAnyH_ready (rs := [9]) (by kernel_rfl) (by simp) ?_
        refine AllReadyH.cons (o := _) rfl (fun Kc hcont => ?_) AllReadyH.nil
        go_simp
        refine hcont.out _ _ trivial (fun hHeldw1 => ?_)
        clear hcont Kc
        refine wpAnyH_ready (rs := [10]) (by kernel_rfl) (by simp) ?_
        refine AllReadyH.cons (o := _) rfl (fun Kc hcont => ?_) AllReadyH.nil
        refine step_append_lit rfl (.tmp 30) (.tmp 39) 28 rfl w.heap.size 5 _ _ 1 U8 (fun _ => rfl) Tryd.underlying28 H8.out.1 H8.out.2.1 H8.out.2.2.1 H8.out.2.2.2 rfl (by omega) _ _ [x ^^^ y] 1 rfl rfl (hown1.drew.alloc _) _ 0 1 rfl (new_lit _ _ _ _ (by rw [HV.out]; rfl)) (by rw [HLN.out]; omega) (by simp <;> exact Nat.le_succ_of_le hbel1.size) ?_
        intro V2 wz hown2 _ hbz
        refine hcont.out _ _ trivial (fun hHeldw2 => ?_)
        clear hcont Kc
        refine wpAnyH_take (i := 11) (oi := _) (v := ?vw11) rfl (by kernel_rfl) (by kernel_rfl) (by kernel_rfl) (fun _ _ _ h => h) (Or.inl ⟨by rfl, ?hyw11⟩) hHeldw2 ?_
        case hyw11 => (intro w hSw; go_simp; rfl)
        try simp only [Act.put]
        refine wpAnyH_done (by kernel_rfl) ?_ _
        have hsz := hbel1.size
        have hbel2 : Below w.heap.size w wz := ((hbel1.drew).alloc (by simpa using hsz) _).trans hbz
        clear hbz
        go_wp2
        go_roundw
        case rel => exact ⟨i + 1, B, by omega, by go_num, rfl, by rw [HNX.out]; exact hown2, hbel2, Or.inr (by rw [HB.out]; congr 3)⟩
        case measure => simp [intOf]; omega
      · have hB : B0 = cBlock K.data.toList (C + UInt32.ofNat (i / 64)) N.data.toList := by
          rcases hor with h | h
          · omega
          · rw [h]; congr 3; omega
        have hcm : True := trivial
        have ht : ((i : Int) % 64 == 0) = false := by simp; omega
        have HBX := hid hbx
        have hnx0 := hnx
        clear hnx
        obtain ⟨B, rfl⟩ : ∃ B, B = B0 := ⟨_, rfl⟩
        have hnx := hnx0
        rw [← hB] at hnx
        have hBl : (ByteArray.mk B.toArray).size = 64 := by show B.toArray.size = 64; rw [List.size_toArray, hB, length_cBlock]
        have hbyl : i % 64 < (ByteArray.mk B.toArray).size := by rw [hBl]; omega
        have hby := byte_at ⟨B.toArray⟩ (i % 64) hbyl
        obtain ⟨y, hy⟩ : ∃ y, y = B.getD (i % 64) 0 := ⟨_, rfl⟩
        rw [← hy] at hnx
        have HB := hid (show B = cBlock K.data.toList (C + UInt32.ofNat (i / 64)) N.data.toList from hB)
        have HNX := hid hnx
        have hbz : (i : Int).tmod 64 < (B.length : Int) := by rw [htm, hB, length_cBlock]; omega
        have HV : Hid (∀ g0 g1, Value.int .u8 (bits .xor .u8 ((S[i]'g0).toNat : Int) (((ByteArray.mk B.toArray)[((i : Int).tmod 64).toNat]'g1).toNat : Int)) = U8 (x ^^^ y)) := hid (by
          intro g0 g1
          have t1 : ((i : Int).tmod 64).toNat = i % 64 := by rw [htm]; omega
          have e1 : ((S[i]'g0).toNat : Int) = n8 x := HBX.out
          have e2 : (((ByteArray.mk B.toArray)[((i : Int).tmod 64).toNat]'g1).toNat : Int) = n8 y := by
            simp only [t1, hby, hy]
          rw [e1, e2, xor_n8])
        clear hnx hB hy hby hBl htm hx hbx hln hor hcm
        clear hnx0
        go_wp2
        refine wp_region_held_drew (S := fun _ => True) (by kernel_rfl) trivial (fun hHeldv => ?_)
        refine wpAnyH_take (i := 0) (oi := _) (v := ?vv0) rfl (by kernel_rfl) (by kernel_rfl) (by kernel_rfl) (fun _ _ _ h => h) (Or.inl ⟨by rfl, ?hyv0⟩) hHeldv ?_
        case hyv0 => (intro w hSw; go_simp; rfl)
        try simp only [Act.put]
        refine wpAnyH_take (i := 1) (oi := _) (v := ?vv1) rfl (by kernel_rfl) (by kernel_rfl) (by kernel_rfl) (fun _ _ _ h => h) (Or.inl ⟨by rfl, ?hyv1⟩) hHeldv ?_
        case hyv1 => (intro w hSw; go_simp; rfl)
        try simp only [Act.put]
        refine wpAnyH_take (i := 2) (oi := _) (v := ?vv2) rfl (by kernel_rfl) (by kernel_rfl) (by kernel_rfl) (fun _ _ _ h => h) (Or.inl ⟨by rfl, ?hyv2⟩) hHeldv ?_
        case hyv2 => (intro w hSw; go_simp; rfl)
        try simp only [Act.put]
        refine wpAnyH_take (i := 3) (oi := _) (v := ?vv3) rfl (by kernel_rfl) (by kernel_rfl) (by kernel_rfl) (fun _ _ _ h => h) (Or.inl ⟨by rfl, ?hyv3⟩) hHeldv ?_
        case hyv3 => (intro w hSw; go_simp; rfl)
        try simp only [Act.put]
        refine wpAnyH_take (i := 4) (oi := _) (v := ?vv4) rfl (by kernel_rfl) (by kernel_rfl) (by kernel_rfl) (fun _ _ _ h => h) (Or.inl ⟨by rfl, ?hyv4⟩) hHeldv ?_
        case hyv4 => (intro w hSw; go_simp; rfl)
        try simp only [Act.put]
        refine wpAnyH_take (i := 5) (oi := _) (v := ?vv5) rfl (by kernel_rfl) (by kernel_rfl) (by kernel_rfl) (fun _ _ _ h => h) (Or.inl ⟨by rfl, ?hyv5⟩) hHeldv ?_
        case hyv5 => (intro w hSw; go_simp; rfl)
        try simp only [Act.put]
        refine wpAnyH_take (i := 6) (oi := _) (v := ?vv6) rfl (by kernel_rfl) (by kernel_rfl) (by kernel_rfl) (fun _ _ _ h => h) (Or.inl ⟨by rfl, ?hyv6⟩) hHeldv ?_
        case hyv6 => (intro w hSw; go_simp; rfl)
        try simp only [Act.put]
        refine wpAnyH_take (i := 7) (oi := _) (v := ?vv7) rfl (by kernel_rfl) (by kernel_rfl) (by kernel_rfl) (fun _ _ _ h => h) (Or.inl ⟨by rfl, ?hyv7⟩) hHeldv ?_
        case hyv7 => (intro w hSw; go_simp; rfl)
        try simp only [Act.put]
        refine wpAnyH_take (i := 8) (oi := _) (v := ?vv8) rfl (by kernel_rfl) (by kernel_rfl) (by kernel_rfl) (fun _ _ _ h => h) (Or.inl ⟨by rfl, ?hyv8⟩) hHeldv ?_
        case hyv8 => (intro w hSw; go_simp; rfl)
        try simp only [Act.put]
        refine wpAnyH_ready (rs := [9]) (by kernel_rfl) (by simp) ?_
        refine AllReadyH.cons (o := _) rfl (fun Kc hcont => ?_) AllReadyH.nil
        go_simp
        refine hcont.out _ _ trivial (fun hHeldv1 => ?_)
        clear hcont Kc
        refine wpAnyH_ready (rs := [10]) (by kernel_rfl) (by simp) ?_
        refine AllReadyH.cons (o := _) rfl (fun Kc hcont => ?_) AllReadyH.nil
        refine step_append_lit rfl (.tmp 30) (.tmp 39) 28 rfl w.heap.size 5 _ _ 1 U8 (fun _ => rfl) Tryd.underlying28 H8.out.1 H8.out.2.1 H8.out.2.2.1 H8.out.2.2.2 rfl (by omega) _ _ [x ^^^ y] 1 rfl rfl (hown.drew.alloc _) _ 0 1 rfl (new_lit _ _ _ _ (by rw [HV.out]; rfl)) (by rw [HLN.out]; omega) (by simp <;> exact Nat.le_succ_of_le hbel.size) ?_
        intro V2 wz hown2 _ hbz
        refine hcont.out _ _ trivial (fun hHeldv2 => ?_)
        clear hcont Kc
        refine wpAnyH_take (i := 11) (oi := _) (v := ?vv11) rfl (by kernel_rfl) (by kernel_rfl) (by kernel_rfl) (fun _ _ _ h => h) (Or.inl ⟨by rfl, ?hyv11⟩) hHeldv2 ?_
        case hyv11 => (intro w hSw; go_simp; rfl)
        try simp only [Act.put]
        refine wpAnyH_done (by kernel_rfl) ?_ _
        have hsz := hbel.size
        have hbel2 : Below w.heap.size w wz := ((hbel.drew).alloc (by simpa using hsz) _).trans hbz
        clear hbz
        go_wp2
        go_roundw
        case rel => exact ⟨i + 1, B, by omega, by go_num, rfl, by rw [HNX.out]; exact hown2, hbel2, Or.inr (by rw [HB.out]; congr 3)⟩
        case measure => simp [intOf]; omega
    · have hd : decide ((i : Int) < (S.size : Int)) = false := by simp; omega
      rw [List.take_of_length_le (by rw [length_cXor]; show S.size ≤ i; omega)] at hown
      go_wp2_with (refine wpList_string_own rfl 28 9 5 (.tmp 41) rfl Tryd.underlying28 Tryd.underlying5 Tryd.underlying9 _ _ _ hown rfl ?_)
      go_ret
      exact ⟨rfl, hbel⟩
end Go.Proofs.YtaenhghihhhikaaDoor
