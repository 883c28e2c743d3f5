/-
  The reference's turn of a word by doubling, walked.
-/
import Derived.Test.YtaenhghihhhikaaDoorXw
namespace Go.Proofs.YtaenhghihhhikaaDoor
open Go.RowKit

theorem rotl32_bv (x : UInt32) (n : Nat) (h1 : 1 ≤ n) (h : n < 32) : (rotl32 x n).toBitVec = x.toBitVec.rotateLeft n := by
  unfold rotl32
  apply BitVec.eq_of_getLsbD_eq
  intro i hi
  rw [BitVec.getLsbD_rotateLeft]
  simp only [UInt32.toBitVec_or, UInt32.toBitVec_shiftLeft, UInt32.toBitVec_shiftRight, UInt32.toBitVec_ofNat', BitVec.getLsbD_or]
  have e1 : (BitVec.ofNat 32 n % 32).toNat = n := by simp [BitVec.toNat_umod, Nat.mod_eq_of_lt (show n < 4294967296 by omega), Nat.mod_eq_of_lt h]
  have e2 : (BitVec.ofNat 32 (32 - n) % 32).toNat = 32 - n := by simp [BitVec.toNat_umod, Nat.mod_eq_of_lt (show 32 - n < 4294967296 by omega), Nat.mod_eq_of_lt (show 32 - n < 32 by omega)]
  rw [BitVec.shiftLeft_eq', BitVec.ushiftRight_eq', e1, e2, BitVec.getLsbD_shiftLeft, BitVec.getLsbD_ushiftRight, Nat.mod_eq_of_lt h]
  by_cases hlt : i < n
  · simp [hlt, hi]
  · simp [hlt, hi, BitVec.getLsbD_of_ge x.toBitVec (32 - n + i) (by omega)]
theorem rotl32_step (x : UInt32) (n : Nat) (h1 : 1 ≤ n) (h : n + 1 < 32) : rotl32 (rotl32 x n) 1 = rotl32 x (n + 1) := by
  apply UInt32.toBitVec_inj.1
  rw [rotl32_bv _ 1 (by omega) (by omega), rotl32_bv _ n h1 (by omega), rotl32_bv _ (n + 1) (by omega) h]
  apply BitVec.eq_of_getLsbD_eq
  intro i hi
  simp only [BitVec.getLsbD_rotateLeft, Nat.mod_eq_of_lt (show 1 < 32 by omega), Nat.mod_eq_of_lt (show n < 32 by omega), Nat.mod_eq_of_lt h]
  by_cases h0 : i < 1
  · have h3 : ¬ 32 - 1 + i < n := by omega
    have h4 : i < n + 1 := by omega
    have h5 : 32 - 1 + i < 32 := by omega
    simp only [h0, h3, h4, h5, decide_true, decide_false, cond_true, cond_false, Bool.true_and]
    congr 1; omega
  · by_cases h2 : i - 1 < n
    · have h4 : i < n + 1 := by omega
      simp only [h0, h2, h4, hi, decide_true, decide_false, cond_true, cond_false, Bool.true_and]
      congr 1; omega
    · have h4 : ¬ i < n + 1 := by omega
      have h5 : i - 1 < 32 := by omega
      simp only [h0, h2, h4, h5, hi, decide_true, decide_false, cond_false, Bool.true_and]
      congr 1; omega
def rotI (x : UInt32) : Nat → UInt32
  | 0 => x
  | n + 1 => rotl32 (rotI x n) 1
theorem rotI_eq (x : UInt32) (n : Nat) (h1 : 1 ≤ n) (h : n < 32) : rotI x n = rotl32 x n := by
  induction n with
  | zero => omega
  | succ n ih =>
    by_cases h0 : n = 0
    · subst h0; rfl
    · rw [rotI, ih (by omega) (by omega), rotl32_step x n (by omega) h]
theorem rot1_lo (x : UInt32) (h : n32 x * 2 < 4294967296) : n32 x * 2 = n32 (rotl32 x 1) := by
  have e : (rotl32 x 1).toNat = x.toNat <<< 1 % 4294967296 ||| x.toNat >>> 31 := rfl
  unfold n32 at h ⊢
  rw [e, Nat.shiftLeft_eq, Nat.shiftRight_eq_div_pow, show x.toNat / 2 ^ 31 = 0 by omega, Nat.or_zero]
  omega
theorem rot1_hi (x : UInt32) (h : ¬ n32 x * 2 < 4294967296) : n32 x * 2 - 4294967296 + 1 = n32 (rotl32 x 1) := by
  have e : (rotl32 x 1).toNat = x.toNat <<< 1 % 4294967296 ||| x.toNat >>> 31 := rfl
  have hlt := x.toNat_lt
  unfold n32 at h ⊢
  have e2 : x.toNat * 2 ^ 1 % 4294967296 = (x.toNat - 2147483648) <<< 1 := by rw [Nat.shiftLeft_eq]; omega
  rw [e, Nat.shiftLeft_eq, Nat.shiftRight_eq_div_pow, show x.toNat / 2 ^ 31 = 1 by omega, e2, ← Nat.shiftLeft_add_eq_or_of_lt (by omega : 1 < 2 ^ 1), Nat.shiftLeft_eq]
  omega
set_option maxHeartbeats 400000 in
theorem left_any (x : UInt32) (n : Nat) (w : World) (h : n < 1000) :
    Calls Tryd.prog 65 #[.int .u64 (n32 x), .int .i64 (n : Int)] w fun e w' => e = .returned (.int .u64 (n32 (rotI x n))) ∧ w = w' := by
  go_enter Tryd.func65, Tryd.ntmps65
  go_wp2
  go_loop [0, 5] (fun v i => ∃ k : Nat, k ≤ n ∧ i = .int .i64 k ∧ v = .int .u64 (n32 (rotI x k))) (fun _ i => n - (intOf i).toNat)
  case atStart => exact ⟨0, Nat.zero_le _, rfl, rfl⟩
  case round =>
    obtain ⟨k, hk, rfl, rfl⟩ := hrel
    by_cases hlt : k < n
    · obtain ⟨y, hy⟩ : ∃ y, y = rotI x k := ⟨_, rfl⟩
      have hn : rotI x (k + 1) = rotl32 y 1 := by rw [rotI, hy]
      rw [← hy]
      have HN := hid hn
      clear hn hy
      have h0 := n32_nonneg y
      have h1 := n32_lt y
      have hw : IntKind.u64.wrap (n32 y * 2) = n32 y * 2 := by rw [wrap_u64]; omega
      by_cases hc : n32 y * 2 < 4294967296
      · have hd : decide (4294967296 ≤ n32 y * 2) = false := by simp; omega
        have hr := hid (rot1_lo y hc)
        go_wp2
        go_round
        case rel => exact ⟨k + 1, by omega, by go_num, by rw [HN.out, ← hr.out]⟩
        case measure => simp [intOf]; omega
      · have hd : decide (4294967296 ≤ n32 y * 2) = true := by simp; omega
        have hw2 : IntKind.u64.wrap (n32 y * 2 - 4294967296) = n32 y * 2 - 4294967296 := by rw [wrap_u64]; omega
        have hw3 : IntKind.u64.wrap (n32 y * 2 - 4294967296 + 1) = n32 y * 2 - 4294967296 + 1 := by rw [wrap_u64]; omega
        have hr := hid (rot1_hi y hc)
        go_wp2
        go_round
        case rel => exact ⟨k + 1, by omega, by go_num, by rw [HN.out, ← hr.out]⟩
        case measure => simp [intOf]; omega
    · go_wp2
      obtain rfl : k = n := by omega
      go_ret
      exact ⟨rfl, rfl⟩
end Go.Proofs.YtaenhghihhhikaaDoor
