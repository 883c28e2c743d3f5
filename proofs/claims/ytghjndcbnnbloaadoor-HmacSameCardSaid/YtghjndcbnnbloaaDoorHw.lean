/-
  Hex, walked.
-/
import Derived.Test.YtghjndcbnnbloaaDoorPd
import Derived.Test.YtghjndcbnnbloaaDoorHx
namespace Go.Proofs.YtghjndcbnnbloaaDoor
open Go.RowKit
theorem len_data' (s : ByteArray) : s.data.toList.length = s.size := rfl
theorem bytes_of_list' {w : World} {g t : Nat} {L : List UInt8} (h : Blk w g t (L.map U8).toArray) : Bytes w g 0 L := fun j hj => by
  rw [h.cell, Nat.zero_add]; simp [hj]

set_option maxHeartbeats 1000000 in
theorem hex_any (s : ByteArray) (w : World) (hs : s.size ≤ 1000000) :
    Calls Tryd.prog 16 #[.string s] w fun e w' => e = .returned (.string ⟨(hexL s.data.toList).toArray⟩) ∧ Below w.heap.size w w' := by
  obtain ⟨i0, hi, hz0, hz1, hz2⟩ := info_parts info5
  go_enter Tryd.func16, Tryd.ntmps16
  go_wp2_with (at_make; refine wpList_make_blk w rfl (.tmp 7) (.tmp 7) 28 rfl 5 i0 _ rfl Tryd.underlying28 hi hz0 hz1 _ _ _ _ (2 * s.size) rfl rfl ?c1 ?c2 ?c3 ?c4 ?_)
  case c1 => omega
  case c2 => omega
  case c3 => rw [hz2]; omega
  case c4 => unfold maxLen; omega
  intro w1 hb1 hbel1 hlt1
  go_wp2
  go_loopw [11] (fun i wr => ∃ k : Nat, k ≤ s.size ∧ i = .int .i64 k ∧ Below w.heap.size w wr ∧ Blk wr w.heap.size 5 (mixF (fun _ => U8 0) (fun j => U8 (hexAt s.data.toList j)) (2 * s.size) (2 * k))) (fun i _ => s.size - (intOf i).toNat)
  case atStart => exact ⟨0, Nat.zero_le _, rfl, hbel1, blk_cast hb1 (by apply Array.ext_getElem?; intro j; by_cases hj : j < 2 * s.size <;> simp [mixF, hj] <;> rfl)⟩
  case round =>
    obtain ⟨k, hk, rfl, hbel, hb⟩ := hrel
    by_cases hlt : k < s.size
    · have hu := s[k].toNat_lt
      obtain ⟨u0, hc0⟩ : ∃ u, wr.cell? ⟨w.heap.size, 2 * k, none⟩ = some u := by
        rw [hb.cell, get_mixF _ _ _ _ _ (by omega)]; exact ⟨_, rfl⟩
      obtain ⟨u1, hc1⟩ : ∃ u, wr.cell? ⟨w.heap.size, 2 * k + 1, none⟩ = some u := by
        rw [hb.cell, get_mixF _ _ _ _ _ (by omega)]; exact ⟨_, rfl⟩
      have hf0 := hb.frozen (2 * k)
      have hf1 := hb.frozen (2 * k + 1)
      have hg0 : ∀ h : s[k].toNat / 16 < (ByteArray.mk #[48, 49, 50, 51, 52, 53, 54, 55, 56, 57, 97, 98, 99, 100, 101, 102]).size, Value.int .u8 ((((ByteArray.mk #[48, 49, 50, 51, 52, 53, 54, 55, 56, 57, 97, 98, 99, 100, 101, 102])[s[k].toNat / 16]'h).toNat : Nat) : Int) = U8 (hexAt s.data.toList (2 * k)) := by
        intro h
        rw [hex_idx, ofNat_div16]
        unfold hexAt
        rw [if_pos (by omega), show 2 * k / 2 = k by omega, List.getD_eq_getElem?_getD, List.getElem?_eq_getElem (by rw [len_data']; exact hlt)]
        rfl
      have hg1 : ∀ h : s[k].toNat % 16 < (ByteArray.mk #[48, 49, 50, 51, 52, 53, 54, 55, 56, 57, 97, 98, 99, 100, 101, 102]).size, Value.int .u8 ((((ByteArray.mk #[48, 49, 50, 51, 52, 53, 54, 55, 56, 57, 97, 98, 99, 100, 101, 102])[s[k].toNat % 16]'h).toNat : Nat) : Int) = U8 (hexAt s.data.toList (2 * k + 1)) := by
        intro h
        rw [hex_idx, ofNat_mod16]
        unfold hexAt
        rw [if_neg (by omega), show (2 * k + 1) / 2 = k by omega, List.getD_eq_getElem?_getD, List.getElem?_eq_getElem (by rw [len_data']; exact hlt)]
        rfl
      have HG0 := hid hg0
      have HG1 := hid hg1
      clear hg0 hg1
      go_wp2
      go_roundw
      case rel =>
        refine ⟨k + 1, by omega, by go_num, (hbel.setCell (Nat.le_refl _) _).setCell (Nat.le_refl _) _, blk_cast ((hb.set_ (2 * k) _).set_ (2 * k + 1) _) ?_⟩
        rw [HG0.out, HG1.out, show 2 * (k + 1) = 2 * k + 1 + 1 by omega, ← set_mixF, ← set_mixF]
      case measure => simp [intOf]; omega
    · have hb2 : Blk wr w.heap.size 5 ((hexL s.data.toList).map U8).toArray := by
        rw [show k = s.size by omega, hexL_cells _ _ (by rw [len_data'])] at hb; exact hb
      have hby : Bytes wr w.heap.size 0 (hexL s.data.toList) := bytes_of_list' hb2
      have hL := length_hexL s.data.toList
      rw [len_data'] at hL
      have HL := hid hL
      clear hL hb hb2
      go_wp2_with (refine wpList_string_of wr rfl 28 9 5 (.tmp 34) rfl Tryd.underlying28 Tryd.underlying5 Tryd.underlying9 w.heap.size 0 _ _ (hexL s.data.toList) rfl HL.out hby ?_)
      go_ret
      exact ⟨rfl, hbel⟩
end Go.Proofs.YtghjndcbnnbloaaDoor
