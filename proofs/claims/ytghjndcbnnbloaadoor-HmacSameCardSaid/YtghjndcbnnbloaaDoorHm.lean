/-
  The keyed hash as plain functions; masked and keyBlock, walked.
-/
import Derived.Test.YtghjndcbnnbloaaDoorAw
import Derived.Deep.Cut
namespace Go.Proofs.YtghjndcbnnbloaaDoor
open Go.RowKit
attribute [local go_sem] xor_n8
def keyL (K : List UInt8) : List UInt8 := if 64 < K.length then sha256 K else K
def keyB (K : List UInt8) : List UInt8 := keyL K ++ List.replicate (64 - (keyL K).length) 0
def maskL (m : UInt8) (B : List UInt8) : List UInt8 := B.map (fun b => b ^^^ m)
def hmacL (K T : List UInt8) : List UInt8 := sha256 (maskL 92 (keyB K) ++ sha256 (maskL 54 (keyB K) ++ T))
theorem length_keyL (K : List UInt8) : (keyL K).length ≤ 64 := by
  unfold keyL; split
  · rw [length_sha256]; omega
  · omega
theorem length_keyB (K : List UInt8) : (keyB K).length = 64 := by
  have := length_keyL K
  simp [keyB]; omega
theorem length_maskL (m : UInt8) (B : List UInt8) : (maskL m B).length = B.length := by simp [maskL]
theorem length_hmacL (K T : List UInt8) : (hmacL K T).length = 32 := length_sha256 _
theorem mix_start (B : List UInt8) (hB : B.length = 64) (g : Nat → Value) : (B.map U8).toArray = mixF (fun j => U8 (B.getD j 0)) g 64 0 := by
  apply Array.ext_getElem?
  intro j
  by_cases hj : j < 64
  · rw [get_mixF _ _ _ _ _ hj]; simp [hB, hj]
  · rw [Array.getElem?_eq_none (by simp; omega), Array.getElem?_eq_none (by rw [size_mixF]; omega)]
theorem mix_mask (B : List UInt8) (hB : B.length = 64) (m : UInt8) (f : Nat → Value) : mixF f (fun j => U8 (B.getD j 0 ^^^ m)) 64 64 = ((maskL m B).map U8).toArray := by
  apply Array.ext_getElem?
  intro j
  by_cases hj : j < 64
  · rw [get_mixF _ _ _ _ _ hj]; simp [maskL, hB, hj]
  · rw [Array.getElem?_eq_none (by rw [size_mixF]; omega), Array.getElem?_eq_none (by simp [maskL]; omega)]
set_option maxHeartbeats 1000000 in
set_option maxRecDepth 100000 in
theorem masked_any (B : List UInt8) (m : UInt8) (w : World) (hB : B.length = 64) :
    Calls Tryd.prog 34 #[.agg (B.map U8).toArray, U8 m] w fun e w' => e = .returned (.string ⟨(maskL m B).toArray⟩) ∧ Below w.heap.size w w' := by
  obtain ⟨F, hF⟩ : ∃ F : Nat → UInt8, F = fun j => B.getD j 0 := ⟨_, rfl⟩
  have hs0 : (B.map U8).toArray = mixF (fun j => U8 (F j)) (fun j => U8 (F j ^^^ m)) 64 0 := by rw [hF]; exact mix_start B hB _
  have hs1 : mixF (fun j => U8 (F j)) (fun j => U8 (F j ^^^ m)) 64 64 = ((maskL m B).map U8).toArray := by rw [hF]; exact mix_mask B hB m _
  have hlM : (maskL m B).length = 64 := by rw [length_maskL, hB]
  obtain ⟨M, hM⟩ : ∃ M, M = maskL m B := ⟨_, rfl⟩
  rw [← hM] at hs1 hlM
  rw [hs0, ← hM]
  have HS1 := hid hs1
  have HLM := hid hlM
  clear hs0 hF hs1 hlM hM
  go_enter Tryd.func34, Tryd.ntmps34
  go_wp2
  go_loopw [6] (fun i wr => ∃ k : Nat, k ≤ 64 ∧ i = .int .i64 k ∧ Below w.heap.size w wr ∧ Blk wr w.heap.size 26 (mixF (fun j => U8 (F j)) (fun j => U8 (F j ^^^ m)) 64 k)) (fun i _ => 64 - (intOf i).toNat)
  case atStart => exact ⟨0, Nat.zero_le _, rfl, (Below.refl _ _).alloc (Nat.le_refl _) _, Blk.new w 26 _⟩
  case round =>
    obtain ⟨k, hk, rfl, hbel, hblk⟩ := hrel
    by_cases hlt : k < 64
    · have hd : decide ((k : Int) < 64) = true := decide_eq_true (by omega)
      have hc : wr.cell? ⟨w.heap.size, k, none⟩ = some (U8 (F k)) := by
        rw [hblk.cell, get_mixF _ _ _ _ _ hlt]; simp
      have hf := hblk.frozen k
      have hnew : Blk (wr.setCell ⟨w.heap.size, k, none⟩ (U8 (F k ^^^ m))) w.heap.size 26 (mixF (fun j => U8 (F j)) (fun j => U8 (F j ^^^ m)) 64 (k + 1)) := by
        rw [← set_mixF]; exact hblk.set_ k _
      have HN := hid hnew
      clear hnew hblk
      go_wp2
      go_roundw
      case rel => exact ⟨k + 1, by omega, by go_num, hbel.setCell (Nat.le_refl _) _, HN.out⟩
      case measure => simp [intOf]; omega
    · have hd : decide ((k : Int) < 64) = false := decide_eq_false (by omega)
      have hb : Bytes wr w.heap.size 0 M := bytes_of_list' (by rw [show k = 64 by omega, HS1.out] at hblk; exact hblk)
      clear hblk
      go_wp2_with (refine wpList_string_of _ rfl 28 9 5 (.tmp 16) rfl Tryd.underlying28 Tryd.underlying5 Tryd.underlying9 w.heap.size 0 64 64 M rfl HLM.out hb ?_)
      go_ret
      exact ⟨rfl, hbel⟩
theorem key_cells (k : List UInt8) (n : Nat) (hn : n = k.length) : (List.replicate 64 (0 : UInt8)).take 0 ++ k.take n ++ (List.replicate 64 (0 : UInt8)).drop (0 + n) = k ++ List.replicate (64 - k.length) 0 := by
  subst hn
  rw [List.take_zero, List.nil_append, List.take_of_length_le (Nat.le_refl _), Nat.zero_add, List.drop_replicate]
set_option maxHeartbeats 1000000 in
set_option maxRecDepth 100000 in
theorem keyBlock_any (K : ByteArray) (w : World) (hs : K.size ≤ 1000000) (hK : KAt32 w) :
    Calls Tryd.prog 32 #[.string K] w fun e w' => e = .returned (.agg ((keyB K.data.toList).map U8).toArray) ∧ Below w.heap.size w w' := by
  have hlB := length_keyB K.data.toList
  by_cases hlt : 64 < K.size
  · have hkl : keyL K.data.toList = sha256 K.data.toList := by unfold keyL; rw [if_pos (show 64 < K.data.toList.length from hlt)]
    obtain ⟨B, hB⟩ : ∃ B, B = keyB K.data.toList := ⟨_, rfl⟩
    obtain ⟨D, hD⟩ : ∃ D, D = sha256 K.data.toList := ⟨_, rfl⟩
    have hlD : D.length = 32 := by rw [hD]; exact length_sha256 _
    have hkb : (List.replicate 64 (0 : UInt8)).take 0 ++ (ByteArray.mk D.toArray).data.toList.take (ByteArray.mk D.toArray).size ++ (List.replicate 64 (0 : UInt8)).drop (0 + (ByteArray.mk D.toArray).size) = B := by
      rw [hB, keyB, hkl, ← hD]
      exact key_cells D _ rfl
    obtain ⟨S, hS⟩ : ∃ S, S = ByteArray.mk D.toArray := ⟨_, rfl⟩
    rw [← hS] at hkb
    have hSs : S.size = 32 := by rw [hS]; exact hlD
    have hSm : S.size = min S.size 64 := by omega
    rw [← hB] at hlB ⊢
    have HLB := hid hlB
    have HKB := hid hkb
    have HD := hid hlD
    have HDX := hid hD
    have HSX := hid hS
    have HMN := hid hSm
    have hSle : S.size ≤ 64 := by omega
    clear hlB hkb hkl hlD hD hB hS hSm hSs
    obtain ⟨w1, hw1, hbel1, hz1, hz2, hsz1⟩ := two_rows w 26 26 #[Value.int IntKind.u8 0, Value.int IntKind.u8 0, Value.int IntKind.u8 0, Value.int IntKind.u8 0, Value.int IntKind.u8 0, Value.int IntKind.u8 0, Value.int IntKind.u8 0, Value.int IntKind.u8 0, Value.int IntKind.u8 0, Value.int IntKind.u8 0, Value.int IntKind.u8 0, Value.int IntKind.u8 0, Value.int IntKind.u8 0, Value.int IntKind.u8 0, Value.int IntKind.u8 0, Value.int IntKind.u8 0, Value.int IntKind.u8 0, Value.int IntKind.u8 0, Value.int IntKind.u8 0, Value.int IntKind.u8 0, Value.int IntKind.u8 0, Value.int IntKind.u8 0, Value.int IntKind.u8 0, Value.int IntKind.u8 0, Value.int IntKind.u8 0, Value.int IntKind.u8 0, Value.int IntKind.u8 0, Value.int IntKind.u8 0, Value.int IntKind.u8 0, Value.int IntKind.u8 0, Value.int IntKind.u8 0, Value.int IntKind.u8 0, Value.int IntKind.u8 0, Value.int IntKind.u8 0, Value.int IntKind.u8 0, Value.int IntKind.u8 0, Value.int IntKind.u8 0, Value.int IntKind.u8 0, Value.int IntKind.u8 0, Value.int IntKind.u8 0, Value.int IntKind.u8 0, Value.int IntKind.u8 0, Value.int IntKind.u8 0, Value.int IntKind.u8 0, Value.int IntKind.u8 0, Value.int IntKind.u8 0, Value.int IntKind.u8 0, Value.int IntKind.u8 0, Value.int IntKind.u8 0, Value.int IntKind.u8 0, Value.int IntKind.u8 0, Value.int IntKind.u8 0, Value.int IntKind.u8 0, Value.int IntKind.u8 0, Value.int IntKind.u8 0, Value.int IntKind.u8 0, Value.int IntKind.u8 0, Value.int IntKind.u8 0, Value.int IntKind.u8 0, Value.int IntKind.u8 0, Value.int IntKind.u8 0, Value.int IntKind.u8 0, Value.int IntKind.u8 0, Value.int IntKind.u8 0] #[Value.int IntKind.u8 0, Value.int IntKind.u8 0, Value.int IntKind.u8 0, Value.int IntKind.u8 0, Value.int IntKind.u8 0, Value.int IntKind.u8 0, Value.int IntKind.u8 0, Value.int IntKind.u8 0, Value.int IntKind.u8 0, Value.int IntKind.u8 0, Value.int IntKind.u8 0, Value.int IntKind.u8 0, Value.int IntKind.u8 0, Value.int IntKind.u8 0, Value.int IntKind.u8 0, Value.int IntKind.u8 0, Value.int IntKind.u8 0, Value.int IntKind.u8 0, Value.int IntKind.u8 0, Value.int IntKind.u8 0, Value.int IntKind.u8 0, Value.int IntKind.u8 0, Value.int IntKind.u8 0, Value.int IntKind.u8 0, Value.int IntKind.u8 0, Value.int IntKind.u8 0, Value.int IntKind.u8 0, Value.int IntKind.u8 0, Value.int IntKind.u8 0, Value.int IntKind.u8 0, Value.int IntKind.u8 0, Value.int IntKind.u8 0, Value.int IntKind.u8 0, Value.int IntKind.u8 0, Value.int IntKind.u8 0, Value.int IntKind.u8 0, Value.int IntKind.u8 0, Value.int IntKind.u8 0, Value.int IntKind.u8 0, Value.int IntKind.u8 0, Value.int IntKind.u8 0, Value.int IntKind.u8 0, Value.int IntKind.u8 0, Value.int IntKind.u8 0, Value.int IntKind.u8 0, Value.int IntKind.u8 0, Value.int IntKind.u8 0, Value.int IntKind.u8 0, Value.int IntKind.u8 0, Value.int IntKind.u8 0, Value.int IntKind.u8 0, Value.int IntKind.u8 0, Value.int IntKind.u8 0, Value.int IntKind.u8 0, Value.int IntKind.u8 0, Value.int IntKind.u8 0, Value.int IntKind.u8 0, Value.int IntKind.u8 0, Value.int IntKind.u8 0, Value.int IntKind.u8 0, Value.int IntKind.u8 0, Value.int IntKind.u8 0, Value.int IntKind.u8 0, Value.int IntKind.u8 0]
    obtain ⟨w2, hw2, hbel2, hb2, hsz2⟩ := one_new w1 9 #[.string K]
    have hb2' : Blk w2 (w.heap.size + 1 + 1) 9 #[.string K] := by rw [hsz1] at hb2; exact hb2
    have HW1 := hid hw1
    have HW2 := hid hw2
    have hsz1' : w.heap.size + 2 ≤ w1.heap.size := by omega
    have hb02 : Below w.heap.size w w2 := hbel1.trans (hbel2.mono (by omega))
    have hz12 := hz1.below hbel2 hz1.lt
    have hz22 := hz2.below hbel2 hz2.lt
    clear hw1 hw2 hsz1 hb2 hz1 hz2
    go_enter Tryd.func32, Tryd.ntmps32
    go_wp2_with fail
    rw [← HW1.out, ← HW2.out]
    clear HW1 HW2
    refine (sum256_any 1 1 (some ⟨w.heap.size + 1 + 1, 0, none⟩) [K] w2 (strs_one hb2') (hK.below hb02 hK.lt) (by omega) (by simp [sumLen]; omega)).mono ?_
    rintro e w3 ⟨rfl, hbel3⟩
    rw [flat_one, ← HDX.out]
    have hb03 : Below w.heap.size w w3 := hb02.trans (hbel3.mono hb02.size)
    have hz13 := hz12.below hbel3 hz12.lt
    have hz23 := hz22.below hbel3 hz22.lt
    have hsz3 := hz23.lt
    clear hbel3 hz12 hz22 hb02 hbel1 hbel2 hb2'
    go_upto_region 5 with (first
      | (refine wpList_store_blk rfl 24 (.tmp 4) (.tmp 10) rfl w3.heap.size _ rfl rfl 24 _ (Blk.new w3 24 _) (size24 _ HD.out) (by simp [HD.out]) (oneCell_bytes32 _) ?_
         intro w5 h51 hg5
         have hz14 := (hz13.alloc _).gro hg5 (by omega)
         have hz24 := (hz23.alloc _).gro hg5 (by omega)
         have hb05 : Below w.heap.size w w5 := below_grown (hb03.alloc hb03.size _) hg5 (by have := hb03.size; simp; omega) hb03.size
         clear hg5 hz13 hz23)
      | (refine wpList_string_of w5 rfl 28 9 5 (.tmp 11) rfl Tryd.underlying28 Tryd.underlying5 Tryd.underlying9 w3.heap.size 0 32 32 D rfl HD.out (bytes_of_list' h51) ?_
         rw [← HSX.out]
         clear h51))
    go_wp2_with (first
      | (refine wpList_load_blk rfl 26 (.tmp 3) rfl (w.heap.size + 1) rfl 26 _ _ hc2 Tryd.underlying26 rfl (size26 _ HLB.out) ?_)
      | (refine wpList_store_blk rfl 26 (.tmp 2) (.tmp 16) rfl w.heap.size _ rfl rfl 26 _ hr1 (size26 _ HLB.out) (by simp [HLB.out]) (oneCell_bytes64 _) ?_
         intro wz hbz hgz
         have hbelz := below_grown hbc hgz hbc.size (Nat.le_refl _))
      | (refine wpList_copy_head w5 rfl (.tmp 13) (.tmp 14) 28 9 5 rfl Tryd.underlying28 (by kernel_rfl) (w.heap.size + 1) 0 64 64 S (List.replicate 64 0) 26 S.size rfl rfl HMN.out (blk_cast hz24 (by kernel_rfl)) (by rw [List.length_replicate]; omega) ?_
         intro wc hcB hgr
         have hr1 := hz14.gro hgr (by omega)
         have hbc : Below w.heap.size w wc := below_grown hb05 hgr hb05.size (by omega)
         have hc2 : Blk wc (w.heap.size + 1) 26 (B.map U8).toArray := by rw [HKB.out] at hcB; exact hcB
         clear hcB hgr))
    exact bodyPost_ret (results_cell_row rfl _ _ w.heap.size 26 _ (0, 0) _ rfl hbz Tryd.underlying26 rfl (size26 _ HLB.out)) rfl ⟨rfl, hbelz⟩
  · have hkl : keyL K.data.toList = K.data.toList := by unfold keyL; rw [if_neg (show ¬ 64 < K.data.toList.length from hlt)]
    obtain ⟨B, hB⟩ : ∃ B, B = keyB K.data.toList := ⟨_, rfl⟩
    have hkb : (List.replicate 64 (0 : UInt8)).take 0 ++ K.data.toList.take K.size ++ (List.replicate 64 (0 : UInt8)).drop (0 + K.size) = B := by
      rw [hB, keyB, hkl]
      exact key_cells _ _ rfl
    have hSm : K.size = min K.size 64 := by omega
    rw [← hB] at hlB ⊢
    have HLB := hid hlB
    have HKB := hid hkb
    have HMN := hid hSm
    clear hlB hkb hkl hB hSm
    obtain ⟨w1, hw1, hbel1, hz1, hz2, hsz1⟩ := two_rows w 26 26 #[Value.int IntKind.u8 0, Value.int IntKind.u8 0, Value.int IntKind.u8 0, Value.int IntKind.u8 0, Value.int IntKind.u8 0, Value.int IntKind.u8 0, Value.int IntKind.u8 0, Value.int IntKind.u8 0, Value.int IntKind.u8 0, Value.int IntKind.u8 0, Value.int IntKind.u8 0, Value.int IntKind.u8 0, Value.int IntKind.u8 0, Value.int IntKind.u8 0, Value.int IntKind.u8 0, Value.int IntKind.u8 0, Value.int IntKind.u8 0, Value.int IntKind.u8 0, Value.int IntKind.u8 0, Value.int IntKind.u8 0, Value.int IntKind.u8 0, Value.int IntKind.u8 0, Value.int IntKind.u8 0, Value.int IntKind.u8 0, Value.int IntKind.u8 0, Value.int IntKind.u8 0, Value.int IntKind.u8 0, Value.int IntKind.u8 0, Value.int IntKind.u8 0, Value.int IntKind.u8 0, Value.int IntKind.u8 0, Value.int IntKind.u8 0, Value.int IntKind.u8 0, Value.int IntKind.u8 0, Value.int IntKind.u8 0, Value.int IntKind.u8 0, Value.int IntKind.u8 0, Value.int IntKind.u8 0, Value.int IntKind.u8 0, Value.int IntKind.u8 0, Value.int IntKind.u8 0, Value.int IntKind.u8 0, Value.int IntKind.u8 0, Value.int IntKind.u8 0, Value.int IntKind.u8 0, Value.int IntKind.u8 0, Value.int IntKind.u8 0, Value.int IntKind.u8 0, Value.int IntKind.u8 0, Value.int IntKind.u8 0, Value.int IntKind.u8 0, Value.int IntKind.u8 0, Value.int IntKind.u8 0, Value.int IntKind.u8 0, Value.int IntKind.u8 0, Value.int IntKind.u8 0, Value.int IntKind.u8 0, Value.int IntKind.u8 0, Value.int IntKind.u8 0, Value.int IntKind.u8 0, Value.int IntKind.u8 0, Value.int IntKind.u8 0, Value.int IntKind.u8 0, Value.int IntKind.u8 0] #[Value.int IntKind.u8 0, Value.int IntKind.u8 0, Value.int IntKind.u8 0, Value.int IntKind.u8 0, Value.int IntKind.u8 0, Value.int IntKind.u8 0, Value.int IntKind.u8 0, Value.int IntKind.u8 0, Value.int IntKind.u8 0, Value.int IntKind.u8 0, Value.int IntKind.u8 0, Value.int IntKind.u8 0, Value.int IntKind.u8 0, Value.int IntKind.u8 0, Value.int IntKind.u8 0, Value.int IntKind.u8 0, Value.int IntKind.u8 0, Value.int IntKind.u8 0, Value.int IntKind.u8 0, Value.int IntKind.u8 0, Value.int IntKind.u8 0, Value.int IntKind.u8 0, Value.int IntKind.u8 0, Value.int IntKind.u8 0, Value.int IntKind.u8 0, Value.int IntKind.u8 0, Value.int IntKind.u8 0, Value.int IntKind.u8 0, Value.int IntKind.u8 0, Value.int IntKind.u8 0, Value.int IntKind.u8 0, Value.int IntKind.u8 0, Value.int IntKind.u8 0, Value.int IntKind.u8 0, Value.int IntKind.u8 0, Value.int IntKind.u8 0, Value.int IntKind.u8 0, Value.int IntKind.u8 0, Value.int IntKind.u8 0, Value.int IntKind.u8 0, Value.int IntKind.u8 0, Value.int IntKind.u8 0, Value.int IntKind.u8 0, Value.int IntKind.u8 0, Value.int IntKind.u8 0, Value.int IntKind.u8 0, Value.int IntKind.u8 0, Value.int IntKind.u8 0, Value.int IntKind.u8 0, Value.int IntKind.u8 0, Value.int IntKind.u8 0, Value.int IntKind.u8 0, Value.int IntKind.u8 0, Value.int IntKind.u8 0, Value.int IntKind.u8 0, Value.int IntKind.u8 0, Value.int IntKind.u8 0, Value.int IntKind.u8 0, Value.int IntKind.u8 0, Value.int IntKind.u8 0, Value.int IntKind.u8 0, Value.int IntKind.u8 0, Value.int IntKind.u8 0, Value.int IntKind.u8 0]
    have HW1 := hid hw1
    clear hw1 hsz1
    go_enter Tryd.func32, Tryd.ntmps32
    go_upto_region 5 with (fail)
    go_wp2_with (first
      | (refine wpList_load_blk rfl 26 (.tmp 3) rfl (w.heap.size + 1) rfl 26 _ _ hc2 Tryd.underlying26 rfl (size26 _ HLB.out) ?_)
      | (refine wpList_store_blk rfl 26 (.tmp 2) (.tmp 16) rfl w.heap.size _ rfl rfl 26 _ hr1 (size26 _ HLB.out) (by simp [HLB.out]) (oneCell_bytes64 _) ?_
         intro wz hbz hgz
         have hbelz := below_grown hbc hgz hbc.size (Nat.le_refl _))
      | (rw [← HW1.out]; refine wpList_copy_head w1 rfl (.tmp 13) (.tmp 14) 28 9 5 rfl Tryd.underlying28 (by kernel_rfl) (w.heap.size + 1) 0 64 64 K (List.replicate 64 0) 26 K.size rfl rfl HMN.out (blk_cast hz2 (by kernel_rfl)) (by rw [List.length_replicate]; omega) ?_
         intro wc hcB hgr
         have hr1 := hz1.gro hgr (by omega)
         have hbc : Below w.heap.size w wc := below_grown hbel1 hgr hbel1.size (by omega)
         have hc2 : Blk wc (w.heap.size + 1) 26 (B.map U8).toArray := by rw [HKB.out] at hcB; exact hcB
         clear hcB hgr))
    exact bodyPost_ret (results_cell_row rfl _ _ w.heap.size 26 _ (0, 0) _ rfl hbz Tryd.underlying26 rfl (size26 _ HLB.out)) rfl ⟨rfl, hbelz⟩
end Go.Proofs.YtghjndcbnnbloaaDoor
