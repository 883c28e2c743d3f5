/-
  The words of ChaCha20: read, written, turned and mixed, walked.
-/
import Derived.Test.YtaenhghihhhikaaDoorProg
import Derived.Test.YtaenhghihhhikaaDoorXc
import Derived.WalkSpells
import Derived.WalkLawsBesides
import Derived.Deep.QuietTactic
import Derived.BigQuiet
import Derived.Lib.Hide
namespace Go.Proofs.YtaenhghihhhikaaDoor
open Go.RowKit

attribute [local go_sem] and_n32 or_n32 xor_n32 add_n32 add_n32' wrap_n32

theorem and_31 (n : Nat) (h1 : 1 ≤ n) (h2 : n < 32) : bits BinOp.and IntKind.u64 (n : Int) 31 = (n : Int) := by
  have e : ∀ m : Fin 32, m.val ≠ 0 → bits BinOp.and IntKind.u64 (m.val : Int) 31 = (m.val : Int) := by decide +kernel
  exact e ⟨n, h2⟩ (by simpa using Nat.one_le_iff_ne_zero.1 h1)
set_option maxHeartbeats 400000 in
theorem rotl32_any (u : UInt32) (n : Nat) (w : World) (h1 : 1 ≤ n) (h2 : n < 32) :
    Calls Tryd.prog 80 #[U32 u, .int .i64 (n : Int)] w fun e w' => e = .returned (U32 (rotl32 u n)) ∧ w = w' := by
  have hA := and_31 n h1 h2
  have hW : IntKind.u64.wrap (n : Int) = (n : Int) := by rw [wrap_u64]; omega
  have hB : min n 32 = n := by omega
  have hD : IntKind.u64.wrap (32 - (n : Int)) = ((32 - n : Nat) : Int) := by rw [wrap_u64]; omega
  have hE : min (32 - n) 32 = 32 - n := by omega
  have hF := shl_n32 u n h2
  have hG := shr_n32 u (32 - n) (by omega)
  go_enter Tryd.func80, Tryd.ntmps80
  go_wp2
  go_ret
  exact ⟨rfl, rfl⟩
theorem rotl32_int (u : UInt32) (n : Int) (w : World) (h1 : 1 ≤ n) (h2 : n < 32) :
    Calls Tryd.prog 80 #[U32 u, .int .i64 n] w fun e w' => e = .returned (U32 (rotl32 u n.toNat)) ∧ w = w' := by
  obtain ⟨m, rfl⟩ := Int.eq_ofNat_of_zero_le (show 0 ≤ n by omega)
  exact rotl32_any u m w (by omega) (by omega)
set_option maxHeartbeats 400000 in
theorem mix_any (x y z : UInt32) (n : Int) (w : World) (h1 : 1 ≤ n) (h2 : n < 32) :
    Calls Tryd.prog 64 #[U32 x, U32 y, U32 z, .int .i64 n] w fun e w' => e = .returned (.tuple #[U32 (x + y), U32 (rotl32 (z ^^^ (x + y)) n.toNat)]) ∧ w = w' := by
  go_enter Tryd.func64, Tryd.ntmps64
  go_wp2_with (go_at_call 80; refine (rotl32_int _ _ _ h1 h2).mono ?_; rintro e w' ⟨rfl, rfl⟩)
  go_ret2
  exact ⟨rfl, rfl⟩

theorem byteL_eq (x : UInt32) (k : Nat) (h : k < 4) : IntKind.u8.wrap (n32 x / 2 ^ (8 * k)) = n8 (byteL x k) := by
  rw [shr_n32 x (8 * k) (by omega), n8_of_n32]; rfl
def putL (cs : Array Value) (o : Nat) (x : UInt32) : Nat → Array Value
  | 0 => cs
  | k + 1 => (putL cs o x k).setIfInBounds (o + k) (U8 (byteL x k))
theorem size_putL (cs : Array Value) (o : Nat) (x : UInt32) (k : Nat) : (putL cs o x k).size = cs.size := by
  induction k with
  | zero => rfl
  | succ k ih => simp [putL, ih]
set_option maxHeartbeats 400000 in
theorem putWordC_any (b o n c : Nat) (t : TypeId) (cs : Array Value) (x : UInt32) (w : World) (hb : Blk w b t cs) (hn : n ≤ 4) (hs : o + n ≤ cs.size) :
    Calls Tryd.prog 31 #[.slice (some ⟨b, o, none⟩) n c, U32 x] w fun e w' => e = .returned (.tuple #[]) ∧ w.grownBy w' (some b) ∧ Blk w' b t (putL cs o x n) := by
  go_enter Tryd.func31, Tryd.ntmps31
  go_wp2
  go_loopw [7] (fun i wr => ∃ k : Nat, k ≤ n ∧ i = .int .i64 k ∧ w.grownBy wr (some b) ∧ Blk wr b t (putL cs o x k)) (fun i _ => n - (intOf i).toNat)
  case atStart => exact ⟨0, Nat.zero_le _, rfl, grown_refl _ _, hb⟩
  case round =>
    obtain ⟨k, hk, rfl, hg, hbk⟩ := hrel
    by_cases hlt : k < n
    · obtain ⟨u, hc⟩ : ∃ u, wr.cell? ⟨b, o + k, none⟩ = some u := by
        rw [hbk.cell, Array.getElem?_eq_getElem (by rw [size_putL]; omega)]; exact ⟨_, rfl⟩
      have hf := hbk.frozen (o + k)
      have hr := byteL_eq x k (by omega)
      have hm : min (8 * k) 32 = 8 * k := by omega
      go_wp2
      go_roundw
      case rel => exact ⟨k + 1, by omega, by go_num, grown_setCell hg _ _, hbk.set_ _ _⟩
      case measure => simp [intOf]; omega
    · go_wp2
      obtain rfl : k = n := by omega
      go_end0
      exact ⟨rfl, hg, hbk⟩
theorem le32_shl (b : UInt8) (k : Nat) (h : k < 4) : n8 b * 2 ^ (8 * k) % 4294967296 = n32 (b.toUInt32 <<< UInt32.ofNat (8 * k)) := by
  rw [n32_of_n8, shl_n32 _ _ (by omega)]
set_option maxHeartbeats 400000 in
theorem readWordC_any (b o c : Nat) (bs : List UInt8) (w : World) (hb : Bytes w b o bs) (hl : bs.length = 4) :
    Calls Tryd.prog 63 #[.slice (some ⟨b, o, none⟩) 4 c] w fun e w' => e = .returned (U32 (le32 bs 4)) ∧ w = w' := by
  go_enter Tryd.func63, Tryd.ntmps63
  go_wp2
  go_loop [3, 7] (fun x i => ∃ k : Nat, k ≤ 4 ∧ i = .int .i64 k ∧ x = U32 (le32 bs k)) (fun _ i => 4 - (intOf i).toNat)
  case atStart => exact ⟨0, Nat.zero_le _, rfl, rfl⟩
  case round =>
    obtain ⟨k, hk, rfl, rfl⟩ := hrel
    by_cases hlt : k < 4
    · have hc := hb k (by omega)
      have hg : bs[k] = bs.getD k 0 := by simp [List.getD_eq_getElem?_getD, List.getElem?_eq_getElem (show k < bs.length by omega)]
      rw [hg] at hc
      obtain ⟨x, hx⟩ : ∃ x, x = bs.getD k 0 := ⟨_, rfl⟩
      rw [← hx] at hc
      have HX := hid hx
      clear hx hg
      have hs := le32_shl x k hlt
      have hz := n32_of_n8 x
      have hm : min (8 * k) 32 = 8 * k := by omega
      rw [hz] at hs
      go_wp2
      go_round
      case rel => exact ⟨k + 1, by omega, by go_num, by rw [le32, ← HX.out, show UInt32.ofNat (8 * k) = 8 * UInt32.ofNat k by simp]⟩
      case measure => simp [intOf]; omega
    · go_wp2
      obtain rfl : k = 4 := by omega
      go_ret
      exact ⟨rfl, rfl⟩
end Go.Proofs.YtaenhghihhhikaaDoor
