/-
  Words read from bytes (readWord) and written to bytes (putWord), walked.
-/
import Derived.Test.YtghjndcbnnbloaaDoorProg
import Derived.Test.YtghjndcbnnbloaaDoorM
import Derived.Test.YtghjndcbnnbloaaDoorSp
import Derived.WalkSpells
import Derived.WalkLawsBesides
import Derived.Deep.QuietTactic
import Derived.BigQuiet
import Derived.Lib.Hide
namespace Go.Proofs.YtghjndcbnnbloaaDoor
open Go.RowKit

attribute [local go_sem] and_n32 or_n32 xor_n32 not_n32 add_n32 add_n32' wrap_n32 and_n64 or_n64 xor_n64 not_n64 add_n64 add_n64' wrap_n64

set_option maxHeartbeats 400000 in
theorem readWord32_any (b o c : Nat) (bs : List UInt8) (w : World) (hb : Bytes w b o bs) (hl : bs.length ≤ 1000) :
    Calls Tryd.prog 46 #[.slice (some ⟨b, o, none⟩) bs.length c] w fun e w' => e = .returned (U32 (be32 bs)) ∧ w = w' := by
  go_enter Tryd.func46, Tryd.ntmps46
  go_wp2
  go_loop [3, 7] (fun x i => ∃ k : Nat, k ≤ bs.length ∧ i = .int .i64 k ∧ x = U32 (be32 (bs.take k))) (fun _ i => bs.length - (intOf i).toNat)
  case atStart => exact ⟨0, Nat.zero_le _, rfl, rfl⟩
  case round =>
    obtain ⟨k, hk, rfl, rfl⟩ := hrel
    by_cases hlt : k < bs.length
    · have hc := hb k hlt
      have hs : n32 (be32 (bs.take k)) * 256 % 4294967296 = n32 (be32 (bs.take k) <<< UInt32.ofNat 8) := by have := shl_n32 (be32 (bs.take k)) 8 (by omega); simpa using this
      have hz := n32_of_n8 bs[k]
      go_wp2
      go_round
      case rel => exact ⟨k + 1, by omega, by go_num, by rw [be32_succ _ _ hlt]⟩
      case measure => simp [intOf]; omega
    · go_wp2
      obtain rfl : k = bs.length := by omega
      go_ret
      exact ⟨by rw [List.take_length]; rfl, rfl⟩

set_option maxHeartbeats 400000 in
theorem readWord64_any (b o c : Nat) (bs : List UInt8) (w : World) (hb : Bytes w b o bs) (hl : bs.length ≤ 1000) :
    Calls Tryd.prog 48 #[.slice (some ⟨b, o, none⟩) bs.length c] w fun e w' => e = .returned (U64 (be64 bs)) ∧ w = w' := by
  go_enter Tryd.func48, Tryd.ntmps48
  go_wp2
  go_loop [3, 7] (fun x i => ∃ k : Nat, k ≤ bs.length ∧ i = .int .i64 k ∧ x = U64 (be64 (bs.take k))) (fun _ i => bs.length - (intOf i).toNat)
  case atStart => exact ⟨0, Nat.zero_le _, rfl, rfl⟩
  case round =>
    obtain ⟨k, hk, rfl, rfl⟩ := hrel
    by_cases hlt : k < bs.length
    · have hc := hb k hlt
      have hs : n64 (be64 (bs.take k)) * 256 % 18446744073709551616 = n64 (be64 (bs.take k) <<< UInt64.ofNat 8) := by have := shl_n64 (be64 (bs.take k)) 8 (by omega); simpa using this
      have hz := n64_of_n8 bs[k]
      rw [← wrap_u64] at hs
      go_wp2
      go_round
      case rel => exact ⟨k + 1, by omega, by go_num, by rw [be64_succ _ _ hlt]⟩
      case measure => simp [intOf]; omega
    · go_wp2
      obtain rfl : k = bs.length := by omega
      go_ret
      exact ⟨by rw [List.take_length]; rfl, rfl⟩

end Go.Proofs.YtghjndcbnnbloaaDoor
