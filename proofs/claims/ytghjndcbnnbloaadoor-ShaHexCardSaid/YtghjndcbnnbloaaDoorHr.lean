/-
  The reference's Hex, walked.
-/
import Derived.Test.YtghjndcbnnbloaaDoorPd
import Derived.Test.YtghjndcbnnbloaaDoorHx
namespace Go.Proofs.YtghjndcbnnbloaaDoor
open Go.RowKit
theorem bytes_of_list' {w : World} {g t : Nat} {L : List UInt8} (h : Blk w g t (L.map U8).toArray) : Bytes w g 0 L := fun j hj => by
  rw [h.cell, Nat.zero_add]; simp [hj]
def HexIn (w : World) (g : Nat) (l ds : List UInt8) (k : Nat) (o i : Value) (wr : World) : Prop :=
  ∃ (j : Nat) (S : ByteArray), j ≤ 2 ∧ i = .int .i64 j ∧ o = .string S ∧ S.data.toList = hexL (l.take k) ++ (ds.take j).map hexDigit ∧ Below w.heap.size w wr ∧ Blk wr g 5 (ds.map U8).toArray
def HexOut (w : World) (l : List UInt8) (o i : Value) (wr : World) : Prop :=
  ∃ (k : Nat) (S : ByteArray), k ≤ l.length ∧ i = .int .i64 k ∧ o = .string S ∧ S.data.toList = hexL (l.take k) ∧ Below w.heap.size w wr
theorem hexDigit_lo (d : UInt8) (h : n8 d < 10) : 48 + n8 d = n8 (hexDigit d) := by
  have h2 : d < 10 := by unfold n8 at h; rw [UInt8.lt_iff_toNat_lt]; show d.toNat < 10; omega
  unfold hexDigit; rw [if_pos h2]; unfold n8 at h ⊢; rw [UInt8.toNat_add]; show (48 : Int) + _ = ((48 + d.toNat) % 256 : Nat); omega
theorem hexDigit_hi (d : UInt8) (h : 10 ≤ n8 d) (h16 : n8 d < 16) : 87 + n8 d = n8 (hexDigit d) := by
  have h2 : ¬ d < 10 := by unfold n8 at h; rw [UInt8.lt_iff_toNat_lt]; show ¬ d.toNat < 10; omega
  unfold hexDigit; rw [if_neg h2]; unfold n8 at h h16 ⊢; rw [UInt8.toNat_add]; show (87 : Int) + _ = ((87 + d.toNat) % 256 : Nat); omega
theorem n8_div16 (b : UInt8) : (b.toNat : Int) / 16 % 256 = n8 (b / 16) := by unfold n8; rw [UInt8.toNat_div]; have := b.toNat_lt; show _ = ((b.toNat / 16 : Nat) : Int); omega
theorem n8_mod16 (b : UInt8) : (b.toNat : Int) % 16 = n8 (b % 16) := by unfold n8; rw [UInt8.toNat_mod]; have := b.toNat_lt; show _ = ((b.toNat % 16 : Nat) : Int); omega
theorem lt16 (b : UInt8) (j : Nat) (h : j < 2) : n8 ([b / 16, b % 16].getD j 0) < 16 := by
  have := b.toNat_lt
  match j, h with
  | 0, _ => show n8 (b / 16) < 16; rw [← n8_div16]; omega
  | 1, _ => show n8 (b % 16) < 16; rw [← n8_mod16]; omega
theorem hex_step (l : List UInt8) (k j : Nat) (b : UInt8) (S : ByteArray) (hj : j < 2) (h : S.data.toList = hexL (l.take k) ++ ([b / 16, b % 16].take j).map hexDigit) :
    (S ++ ⟨#[hexDigit ([b / 16, b % 16].getD j 0)]⟩).data.toList = hexL (l.take k) ++ ([b / 16, b % 16].take (j + 1)).map hexDigit := by
  rw [ByteArray.data_append, Array.toList_append, h]
  match j, hj with
  | 0, _ => simp
  | 1, _ => simp
set_option maxHeartbeats 1000000 in
theorem refHex_any (s : ByteArray) (w : World) (hs : s.size ≤ 1000000) :
    Calls Tryd.prog 17 #[.string s] w fun e w' => e = .returned (.string ⟨(hexL s.data.toList).toArray⟩) ∧ Below w.heap.size w w' := by
  have hsl : s.data.toList.length = s.size := rfl
  go_enter Tryd.func17, Tryd.ntmps17
  go_wp2
  go_loopw [3, 4] (fun o i wr => HexOut w s.data.toList o i wr) (fun _ i _ => s.size - (intOf i).toNat)
  case atStart => exact ⟨0, _, Nat.zero_le _, rfl, rfl, rfl, Below.refl _ _⟩
  case round =>
    obtain ⟨k, S, hk, rfl, rfl, hS, hbel⟩ := hrel
    rw [hsl] at hk
    have HS := hid hS
    clear hS
    by_cases hlt : k < s.size
    · have hd : decide ((k : Int) < (s.size : Int)) = true := by simp; omega
      go_wp2
      go_region
      obtain ⟨wo, rfl⟩ : ∃ wo : World, wo = wr := ⟨_, rfl⟩
      have hbk : Blk (wo.alloc (.cells #[.int .u8 ((s[k].toNat : Int) / 16 % 256), .int .u8 ((s[k].toNat : Int) % 16)] 5)).drew wo.heap.size 5 (([s[k] / 16, s[k] % 16].map U8).toArray) := by
        rw [n8_div16, n8_mod16]; exact (Blk.new wo 5 _).drew
      go_wp2
      go_loopw [3, 23] (fun o i wx => HexIn w wo.heap.size s.data.toList [s[k] / 16, s[k] % 16] k o i wx) (fun _ i _ => 2 - (intOf i).toNat)
      case atStart => exact ⟨0, S, by omega, rfl, rfl, by rw [HS.out]; simp, (hbel.alloc hbel.size _).drew, hbk⟩
      case round =>
        clear hbk HS
        obtain ⟨j, S2, hj, rfl, rfl, hS, hbel2, hbk⟩ := hrel
        have HS := hid hS
        clear hS
        have hsz : S2.size ≤ 4000000 := by
          have : S2.data.toList.length = S2.size := rfl
          rw [← this, HS.out, List.length_append, length_hexL, List.length_map, List.length_take, List.length_take]
          omega
        by_cases hlt2 : j < 2
        · have hl16 := lt16 s[k] j hlt2
          have hgd : (([s[k] / 16, s[k] % 16].map U8).toArray)[j]? = some (U8 ([s[k] / 16, s[k] % 16].getD j 0)) := by
            match j, hlt2 with
            | 0, _ => rfl
            | 1, _ => rfl
          have hc := (hbk.cell j).trans hgd
          have hst := hid (hex_step s.data.toList k j s[k] S2 hlt2 HS.out)
          obtain ⟨d, hdd⟩ : ∃ d, d = [s[k] / 16, s[k] % 16].getD j 0 := ⟨_, rfl⟩
          rw [← hdd] at hc hst hl16
          clear hdd hgd
          have h0 := n8_nonneg d
          have hone : ∀ X : Int, X = n8 (hexDigit d) → Bytes (wr.alloc (.cells #[.int .u8 X] 5)) wr.heap.size 0 [hexDigit d] := fun X e => by
            subst e; exact bytes_of_list' (L := [hexDigit d]) (Blk.new wr 5 _)
          have hsz1 : (ByteArray.mk #[hexDigit d]).size = 1 := rfl
          by_cases h10 : n8 d < 10
          · have hv := hexDigit_lo d h10
            have HV := hid hv
            clear hv
            go_wp2_with (refine wpList_string_of _ rfl 28 9 5 (.tmp 32) rfl Tryd.underlying28 Tryd.underlying5 Tryd.underlying9 wr.heap.size 0 1 1 [hexDigit d] rfl rfl (hone _ HV.out) ?_)
            go_roundw
            case rel => exact ⟨j + 1, _, by omega, by go_num, rfl, hst.out, hbel2.alloc hbel2.size _, hbk.alloc _⟩
            case measure => simp [intOf]; omega
          · have hv := hexDigit_hi d (by omega) hl16
            have HV := hid hv
            clear hv
            go_wp2_with (refine wpList_string_of _ rfl 28 9 5 (.tmp 38) rfl Tryd.underlying28 Tryd.underlying5 Tryd.underlying9 wr.heap.size 0 1 1 [hexDigit d] rfl rfl (hone _ HV.out) ?_)
            go_roundw
            case rel => exact ⟨j + 1, _, by omega, by go_num, rfl, hst.out, hbel2.alloc hbel2.size _, hbk.alloc _⟩
            case measure => simp [intOf]; omega
        · have hd2 : decide ((j : Int) < 2) = false := decide_eq_false (by omega)
          have hS3 : S2.data.toList = hexL (s.data.toList.take (k + 1)) := by
            rw [HS.out, hexL_succ _ _ (by rw [hsl]; exact hlt), show j = 2 by omega]; rfl
          have HS3 := hid hS3
          clear hS3 hbk
          go_wp2
          go_roundw
          case rel => exact ⟨k + 1, S2, by rw [hsl]; omega, by go_num, rfl, HS3.out, hbel2⟩
          case measure => simp [intOf]; omega
    · have hd : decide ((k : Int) < (s.size : Int)) = false := by simp; omega
      have hS3 : S = ⟨(hexL s.data.toList).toArray⟩ := by
        have := HS.out
        rw [List.take_of_length_le (by rw [hsl]; omega)] at this
        apply ByteArray.ext
        rw [← this]
      have HS3 := hid hS3
      clear hS3
      go_wp2
      go_ret
      exact ⟨by rw [← HS3.out]; rfl, hbel⟩
end Go.Proofs.YtghjndcbnnbloaaDoor
