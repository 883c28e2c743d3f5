/-
  Texts of this claim.
-/
import Derived.Test.YtcnjekoidgefpaaDoorGKR
import Derived.Test.YtcnjekoidgefpaaDoorGR1
namespace Go.Proofs.YtcnjekoidgefpaaDoor
open Go.RowKit
theorem dn_lt2 (n v i : Nat) : 0 ≤ (dn n v).getD i 0 ∧ (dn n v).getD i 0 < 65536 := by
  rcases Nat.lt_or_ge i n with h | h
  · rw [dn_getk _ _ _ h]; have := dk_lt v i; omega
  · rw [List.getD_eq_getElem?_getD, List.getElem?_eq_none (by rw [length_dn]; exact h)]; simp
end Go.Proofs.YtcnjekoidgefpaaDoor
namespace Go.Proofs.YtcnjekoidgefpaaDoor
/-- A number whose digit k is another one. -/
def sd (X k d : Nat) : Nat := X - dk X k * 65536 ^ k + d * 65536 ^ k
theorem dk_mul_le (X k : Nat) : dk X k * 65536 ^ k ≤ X :=
  Nat.le_trans (Nat.mul_le_mul_right _ (Nat.mod_le _ _)) (Nat.div_mul_le_self X (65536 ^ k))
theorem sd_add (X k d : Nat) : sd X k d + dk X k * 65536 ^ k = X + d * 65536 ^ k := by
  have := dk_mul_le X k
  unfold sd
  omega
theorem dk_succ (X k : Nat) : dk X (k + 1) = dk (X / 65536) k := by
  unfold dk
  rw [Nat.div_div_eq_div_mul, Nat.pow_succ, Nat.mul_comm (65536 ^ k)]
theorem sd_succ (X k d : Nat) : sd X (k + 1) d = 65536 * sd (X / 65536) k d + X % 65536 := by
  have h1 := sd_add X (k + 1) d
  have h2 := sd_add (X / 65536) k d
  rw [dk_succ, Nat.pow_succ, ← Nat.mul_assoc, ← Nat.mul_assoc] at h1
  omega
theorem dn_set (N X k d : Nat) (hk : k < N) (hd : d < 65536) : (dn N X).set k (d : Int) = dn N (sd X k d) := by
  induction k generalizing N X with
  | zero =>
    obtain ⟨n, rfl⟩ : ∃ n, N = n + 1 := ⟨N - 1, by omega⟩
    have h1 := sd_add X 0 d
    have h2 : dk X 0 = X % 65536 := by simp [dk]
    rw [h2, Nat.pow_zero, Nat.mul_one, Nat.mul_one] at h1
    simp only [dn, List.set_cons_zero]
    rw [show sd X 0 d % 65536 = d by omega, show sd X 0 d / 65536 = X / 65536 by omega]
  | succ k ih =>
    obtain ⟨n, rfl⟩ : ∃ n, N = n + 1 := ⟨N - 1, by omega⟩
    simp only [dn, List.set_cons_succ]
    rw [ih n (X / 65536) (by omega), sd_succ]
    rw [show (65536 * sd (X / 65536) k d + X % 65536) % 65536 = X % 65536 by omega, show (65536 * sd (X / 65536) k d + X % 65536) / 65536 = sd (X / 65536) k d by omega]
theorem dn_setI (N X k : Nat) (d : Int) (x : Nat) (hk : k < N) (h : d = ((x % 65536 : Nat) : Int)) : (dn N X).set k d = dn N (sd X k (x % 65536)) := by
  rw [h]; exact dn_set _ _ _ _ hk (Nat.mod_lt _ (by decide))
theorem mod_next (v k : Nat) : v % 65536 ^ (k + 1) = v % 65536 ^ k + 65536 ^ k * dk v k := by
  rw [Nat.pow_succ, Nat.mod_mul]; rfl
theorem carry_step {X c k E : Nat} (h : X + c * 65536 ^ k = E) (A x : Nat) (hx : x = dk X k + A + c) : sd X k (x % 65536) + x / 65536 * 65536 ^ (k + 1) = E + A * 65536 ^ k := by
  have h1 := sd_add X k (x % 65536)
  rw [Nat.pow_succ]
  generalize hP : 65536 ^ k = P at *
  have e1 : x / 65536 * (P * 65536) + x % 65536 * P = x * P := by
    have e2 : x / 65536 * (P * 65536) = x / 65536 * 65536 * P := by simp only [Nat.mul_comm, Nat.mul_left_comm]
    rw [e2, ← Nat.add_mul]; congr 1; omega
  have e3 : x * P = dk X k * P + A * P + c * P := by rw [hx, Nat.add_mul, Nat.add_mul]
  omega
theorem mul_step {X c i j A b E : Nat} (h : X + c * 65536 ^ (i + j) = E + 65536 ^ i * (A * (b % 65536 ^ j))) (x : Nat) (hx : x = dk X (i + j) + A * dk b j + c) :
    sd X (i + j) (x % 65536) + x / 65536 * 65536 ^ (i + (j + 1)) = E + 65536 ^ i * (A * (b % 65536 ^ (j + 1))) := by
  have h1 := carry_step h (A * dk b j) x hx
  rw [Nat.add_assoc] at h1
  rw [h1, mod_next, Nat.mul_add, Nat.mul_add, Nat.pow_add]
  have e : A * dk b j * (65536 ^ i * 65536 ^ j) = 65536 ^ i * (A * (65536 ^ j * dk b j)) := by ac_rfl
  omega
theorem mul_row {a b i X c : Nat} (h : X + c * 65536 ^ (i + dl b) = a % 65536 ^ i * b + 65536 ^ i * (dk a i * (b % 65536 ^ dl b))) : X + c * 65536 ^ (i + dl b) = a % 65536 ^ (i + 1) * b := by
  rw [h, Nat.mod_eq_of_lt (dl_lt b), mod_next, Nat.add_mul, Nat.mul_assoc]
theorem row_lt (a b i : Nat) : a % 65536 ^ (i + 1) * b < 65536 ^ (i + 1 + dl b) := by
  rw [Nat.pow_add 65536 (i + 1)]
  have h1 := Nat.mod_lt a (show 0 < 65536 ^ (i + 1) from Nat.pow_pos (by decide))
  have h2 := dl_lt b
  exact Nat.mul_lt_mul_of_lt_of_le h1 (Nat.le_of_lt h2) (Nat.lt_of_le_of_lt (Nat.zero_le _) h2)
theorem carry_in {a b i k X c : Nat} (h : X + c * 65536 ^ k = a % 65536 ^ (i + 1) * b) (hc : 0 < c) : k < i + 1 + dl b := by
  have h1 := row_lt a b i
  have h2 : 65536 ^ k ≤ c * 65536 ^ k := Nat.le_mul_of_pos_left _ hc
  rcases Nat.lt_or_ge k (i + 1 + dl b) with h3 | h3
  · exact h3
  · have := Nat.pow_le_pow_right (show 0 < 65536 by decide) h3; omega
theorem mul_lt (a b : Nat) : a * b < 65536 ^ (dl a + dl b + 1) := by
  have h1 := dl_lt a
  have h2 := dl_lt b
  have h3 : a * b < 65536 ^ dl a * 65536 ^ dl b := Nat.mul_lt_mul_of_lt_of_le h1 (Nat.le_of_lt h2) (Nat.lt_of_le_of_lt (Nat.zero_le _) h2)
  rw [Nat.pow_succ, Nat.pow_add]
  omega
theorem mul_end {a b X : Nat} (h : X = a % 65536 ^ dl a * b) : X = a * b := by
  rw [h, Nat.mod_eq_of_lt (dl_lt a)]
theorem dk_mul_lt (a b i j : Nat) : dk a i * dk b j ≤ 65535 * 65535 := Nat.mul_le_mul (by have := dk_lt a i; omega) (by have := dk_lt b j; omega)
end Go.Proofs.YtcnjekoidgefpaaDoor
namespace Go.Proofs.YtcnjekoidgefpaaDoor
open Go.RowKit
theorem dn_zeros (n : Nat) : dn n 0 = List.replicate n 0 := by
  induction n with
  | zero => rfl
  | succ n ih => simp [dn, ih, List.replicate_succ]
end Go.Proofs.YtcnjekoidgefpaaDoor
namespace Go.Proofs.YtcnjekoidgefpaaDoor
open Go.RowKit
theorem dl_mono2 {a b : Nat} (h : a ≤ b) : dl a ≤ dl b := dl_le (Nat.lt_of_le_of_lt h (dl_lt b))
theorem low_eq (a n : Nat) : a - a / 2 ^ n * 2 ^ n = a % 2 ^ n := by
  have := Nat.div_add_mod a (2 ^ n)
  rw [Nat.mul_comm] at this
  omega
end Go.Proofs.YtcnjekoidgefpaaDoor
