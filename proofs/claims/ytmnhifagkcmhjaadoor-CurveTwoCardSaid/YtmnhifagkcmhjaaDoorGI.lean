/-
  2^255 - 19 is prime.
-/
import Derived.Test.YtmnhifagkcmhjaaDoorGF
namespace Go.Proofs.YtmnhifagkcmhjaaDoor
/-! Primes: Fermat, and a test by a great prime factor of N - 1. -/
def Prm (p : Nat) : Prop := 1 < p ∧ ∀ d, d ∣ p → d = 1 ∨ d = p
theorem prm_factor : ∀ n, 1 < n → ∃ r, Prm r ∧ r ∣ n := by
  intro n
  induction n using Nat.strongRecOn with
  | _ n ih =>
    intro h
    by_cases hp : Prm n
    · exact ⟨n, hp, Nat.dvd_refl n⟩
    · have : ∃ d, d ∣ n ∧ d ≠ 1 ∧ d ≠ n := by
        refine Classical.byContradiction fun hc => hp ⟨h, fun d hd => ?_⟩
        refine Classical.byContradiction fun hd2 => hc ⟨d, hd, fun e => hd2 (.inl e), fun e => hd2 (.inr e)⟩
      obtain ⟨d, hd, h1, h2⟩ := this
      have hle := Nat.le_of_dvd (by omega) hd
      have hpos := Nat.pos_of_dvd_of_pos hd (by omega)
      obtain ⟨r, hr, hrd⟩ := ih d (by omega) (by omega)
      exact ⟨r, hr, Nat.dvd_trans hrd hd⟩
theorem prm_of_small {n : Nat} (h : 1 < n) (hs : ∀ r, Prm r → r ∣ n → r * r ≤ n → False) : Prm n := by
  refine ⟨h, fun d hd => ?_⟩
  refine Classical.byContradiction fun hc => ?_
  have h1 : d ≠ 1 := fun e => hc (.inl e)
  have h2 : d ≠ n := fun e => hc (.inr e)
  obtain ⟨e, he⟩ := hd
  have hd0 : d ≠ 0 := fun z => by rw [z, Nat.zero_mul] at he; omega
  have he0 : e ≠ 0 := fun z => by rw [z, Nat.mul_zero] at he; omega
  have he1 : e ≠ 1 := fun z => by rw [z, Nat.mul_one] at he; omega
  rcases Nat.le_total d e with hle | hle
  · obtain ⟨r, hr, hrd⟩ := prm_factor d (by omega)
    have hrle := Nat.le_of_dvd (by omega) hrd
    refine hs r hr (Nat.dvd_trans hrd ⟨e, he⟩) ?_
    rw [he]; exact Nat.mul_le_mul hrle (Nat.le_trans hrle hle)
  · obtain ⟨r, hr, hrd⟩ := prm_factor e (by omega)
    have hrle := Nat.le_of_dvd (by omega) hrd
    refine hs r hr (Nat.dvd_trans hrd ⟨d, by rw [he, Nat.mul_comm]⟩) ?_
    rw [he]; exact Nat.mul_le_mul (Nat.le_trans hrle hle) hrle
theorem Prm.coprime {p k : Nat} (hp : Prm p) (h : ¬ p ∣ k) : Nat.gcd p k = 1 := by
  rcases hp.2 (Nat.gcd p k) (Nat.gcd_dvd_left p k) with h1 | h1
  · exact h1
  · exact absurd (h1 ▸ Nat.gcd_dvd_right p k) h
theorem Prm.split {p a b : Nat} (hp : Prm p) (h : p ∣ a * b) : p ∣ a ∨ p ∣ b := by
  by_cases ha : p ∣ a
  · exact .inl ha
  · exact .inr (Nat.Coprime.dvd_of_dvd_mul_left (hp.coprime ha) h)
/-- Binomials. -/
def bin : Nat → Nat → Nat
  | _, 0 => 1
  | 0, _ + 1 => 0
  | n + 1, k + 1 => bin n k + bin n (k + 1)
theorem bin_over (n k : Nat) (h : n < k) : bin n k = 0 := by
  induction n generalizing k with
  | zero => obtain ⟨k, rfl⟩ : ∃ j, k = j + 1 := ⟨k - 1, by omega⟩; rfl
  | succ n ih =>
    obtain ⟨k, rfl⟩ : ∃ j, k = j + 1 := ⟨k - 1, by omega⟩
    simp only [bin]; rw [ih k (by omega), ih (k + 1) (by omega)]
theorem bin_self (n : Nat) : bin n n = 1 := by
  induction n with
  | zero => rfl
  | succ n ih => simp only [bin]; rw [ih, bin_over n (n + 1) (by omega)]
theorem bin_mul (n k : Nat) : (k + 1) * bin (n + 1) (k + 1) = (n + 1) * bin n k := by
  induction n generalizing k with
  | zero =>
    cases k with
    | zero => rfl
    | succ k => simp [bin]
  | succ n ih =>
    cases k with
    | zero =>
      have := ih 0
      simp only [bin, Nat.zero_add, Nat.one_mul, Nat.mul_one] at *
      omega
    | succ k =>
      have h1 := ih k
      have h2 := ih (k + 1)
      have e : bin (n + 2) (k + 2) = bin (n + 1) (k + 1) + bin (n + 1) (k + 2) := rfl
      have e2 : bin (n + 1) (k + 1) = bin n k + bin n (k + 1) := rfl
      rw [e, Nat.mul_add, h2]
      have : (k + 1 + 1) * bin (n + 1) (k + 1) = (k + 1) * bin (n + 1) (k + 1) + bin (n + 1) (k + 1) := by rw [Nat.add_mul, Nat.one_mul]
      rw [this, h1]
      conv => rhs; rw [e2]
      conv => lhs; rw [e2]
      grind
/-- The sum of bin n k * a^k, k < m. -/
def bs (n a : Nat) : Nat → Nat
  | 0 => 0
  | m + 1 => bs n a m + bin n m * a ^ m
theorem bs_step (n a m : Nat) : bs (n + 1) a (m + 1) = bs n a (m + 1) + a * bs n a m := by
  induction m with
  | zero => simp [bs, bin]
  | succ m ih =>
    have e1 : bs (n + 1) a (m + 2) = bs (n + 1) a (m + 1) + bin (n + 1) (m + 1) * a ^ (m + 1) := rfl
    have e2 : bs n a (m + 2) = bs n a (m + 1) + bin n (m + 1) * a ^ (m + 1) := rfl
    have e3 : bs n a (m + 1) = bs n a m + bin n m * a ^ m := rfl
    have e4 : bin (n + 1) (m + 1) = bin n m + bin n (m + 1) := rfl
    rw [e1, ih, e2, e4]
    conv => rhs; rw [e3]
    conv => lhs; rw [e3]
    rw [Nat.pow_succ]
    grind
theorem bs_pow (n a : Nat) : bs n a (n + 1) = (a + 1) ^ n := by
  induction n with
  | zero => simp [bs, bin]
  | succ n ih =>
    rw [bs_step, show bs n a (n + 2) = bs n a (n + 1) + bin n (n + 1) * a ^ (n + 1) from rfl, bin_over n (n + 1) (by omega), ih, Nat.pow_succ]
    grind
theorem bin_prm {p k : Nat} (hp : Prm p) (h0 : 0 < k) (h1 : k < p) : p ∣ bin p k := by
  obtain ⟨q, rfl⟩ : ∃ q, p = q + 1 := ⟨p - 1, by have := hp.1; omega⟩
  obtain ⟨j, rfl⟩ : ∃ j, k = j + 1 := ⟨k - 1, by omega⟩
  have h := bin_mul q j
  have hd : q + 1 ∣ (j + 1) * bin (q + 1) (j + 1) := ⟨bin q j, h⟩
  rcases hp.split hd with h2 | h2
  · have := Nat.le_of_dvd (by omega) h2; omega
  · exact h2
theorem bs_prm {p : Nat} (hp : Prm p) (a m : Nat) (h : m < p) : bs p a (m + 1) % p = 1 % p := by
  induction m with
  | zero =>
    simp only [bs]
    obtain ⟨q, rfl⟩ : ∃ q, p = q + 1 := ⟨p - 1, by omega⟩
    simp [bin]
  | succ m ih =>
    rw [show bs p a (m + 1 + 1) = bs p a (m + 1) + bin p (m + 1) * a ^ (m + 1) from rfl]
    obtain ⟨c, hc⟩ := bin_prm hp (show 0 < m + 1 by omega) h
    rw [hc, Nat.mul_assoc, Nat.add_mul_mod_self_left, ih (by omega)]
theorem fermat {p : Nat} (hp : Prm p) (a : Nat) : a ^ p % p = a % p := by
  induction a with
  | zero => rw [Nat.zero_pow (by have := hp.1; omega)]
  | succ a ih =>
    obtain ⟨q, hq⟩ : ∃ q, p = q + 1 := ⟨p - 1, by have := hp.1; omega⟩
    rw [← bs_pow, show bs p a (p + 1) = bs p a p + bin p p * a ^ p from rfl, bin_self, Nat.one_mul]
    rw [Nat.add_mod, ih]
    have := bs_prm hp a q (by omega)
    rw [← hq] at this
    rw [this, ← Nat.add_mod, Nat.add_comm]
theorem mod_sub_zero {a b p : Nat} (h : a % p = b % p) (hle : b ≤ a) : p ∣ a - b := by
  have h1 := Nat.div_add_mod a p
  have h2 := Nat.div_add_mod b p
  refine ⟨a / p - b / p, ?_⟩
  rw [Nat.mul_sub]; omega
theorem mod_of_sub {a b p : Nat} (h : p ∣ a - b) (hle : b ≤ a) : a % p = b % p := by
  obtain ⟨c, hc⟩ := h
  rw [show a = b + p * c by omega, Nat.add_mul_mod_self_left]
/-- One factor is struck. -/
theorem cancel {p a b c : Nat} (hp : Prm p) (hc : ¬ p ∣ c) (h : c * a % p = c * b % p) : a % p = b % p := by
  rcases Nat.le_total b a with hle | hle
  · have := mod_sub_zero h (Nat.mul_le_mul_left c hle)
    rw [← Nat.mul_sub] at this
    rcases hp.split this with h1 | h1
    · exact absurd h1 hc
    · exact mod_of_sub h1 hle
  · have := mod_sub_zero h.symm (Nat.mul_le_mul_left c hle)
    rw [← Nat.mul_sub] at this
    rcases hp.split this with h1 | h1
    · exact absurd h1 hc
    · exact (mod_of_sub h1 hle).symm
theorem fermat1 {p : Nat} (hp : Prm p) {a : Nat} (h : ¬ p ∣ a) : a ^ (p - 1) % p = 1 := by
  have h1 : a * a ^ (p - 1) % p = a * 1 % p := by
    rw [← Nat.pow_succ', show (p - 1).succ = p by have := hp.1; omega, Nat.mul_one]; exact fermat hp a
  rw [cancel hp h h1]
  exact Nat.mod_eq_of_lt hp.1
/-- Powers that are 1 have 1 at the greatest common divisor of the exponents. -/
theorem pow_gcd {r b : Nat} (hr : 1 < r) (m n : Nat) (hm : b ^ m % r = 1) (hn : b ^ n % r = 1) : b ^ Nat.gcd m n % r = 1 := by
  induction m, n using Nat.gcd.induction with
  | H0 n => rw [Nat.gcd_zero_left]; exact hn
  | H1 m n hpos ih =>
    rw [Nat.gcd_rec]
    refine ih ?_ hm
    have e : b ^ n = (b ^ m) ^ (n / m) * b ^ (n % m) := by rw [← Nat.pow_mul, ← Nat.pow_add, Nat.div_add_mod]
    rw [e, Nat.mul_mod, Nat.pow_mod, hm, Nat.one_pow, Nat.mod_eq_of_lt hr, Nat.one_mul, Nat.mod_mod] at hn
    exact hn
theorem mod_dvd {x n r : Nat} (hr : r ∣ n) (h : x % n = 1) (h1 : 1 < r) : x % r = 1 := by
  rw [← Nat.mod_mod_of_dvd x hr, h]; exact Nat.mod_eq_of_lt h1
/-- Powers modulo n, by squares. -/
def pm (n : Nat) : Nat → Nat → Nat → Nat
  | 0, _, _ => 1 % n
  | f + 1, a, e => if e % 2 = 1 then a * pm n f (a * a % n) (e / 2) % n else pm n f (a * a % n) (e / 2)
theorem pm_spec (n : Nat) (f a e : Nat) (h : e < 2 ^ f) : pm n f a e = a ^ e % n := by
  induction f generalizing a e with
  | zero => have : e = 0 := by simpa using h
            subst this; rfl
  | succ f ih =>
    have ih := ih (a * a % n) (e / 2) (by rw [Nat.pow_succ] at h; omega)
    have e2 : (a * a % n) ^ (e / 2) % n = a ^ (2 * (e / 2)) % n := by rw [← Nat.pow_mod, Nat.pow_mul, Nat.pow_two]
    simp only [pm]
    rw [ih, e2]
    split
    · rename_i h1
      conv => rhs; rw [show e = 2 * (e / 2) + 1 by omega, Nat.pow_succ']
      rw [Nat.mul_mod, Nat.mod_mod, ← Nat.mul_mod]
    · rename_i h1
      rw [show 2 * (e / 2) = e by omega]
def noDiv (n q : Nat) : Nat → Bool
  | 0 => true
  | k + 1 => decide (n % (1 + (k + 1) * q) ≠ 0) && noDiv n q k
theorem dvd_pow_one (a : Nat) {q : Nat} (h : 0 < q) : a ∣ a ^ q := ⟨a ^ (q - 1), by rw [← Nat.pow_succ', show (q - 1).succ = q by omega]⟩
theorem noDiv_spec {n q m : Nat} (h : noDiv n q m = true) {k : Nat} (h0 : 0 < k) (hk : k ≤ m) : ¬ (1 + k * q) ∣ n := by
  induction m with
  | zero => omega
  | succ m ih =>
    simp only [noDiv, Bool.and_eq_true, decide_eq_true_eq] at h
    by_cases e : k = m + 1
    · subst e; exact fun hd => h.1 (Nat.mod_eq_zero_of_dvd hd)
    · exact ih h.2 (by omega)
/-- N is prime if N - 1 has a great prime factor q. -/
theorem pock {n q a m : Nat} (f : Nat) (hq : Prm q) (hn : 1 < n) (hf : n - 1 < 2 ^ f) (hd : (n - 1) % q = 0) (h1 : pm n f a (n - 1) = 1) (h2 : Nat.gcd (pm n f a ((n - 1) / q) + (n - 1)) n = 1)
    (hm : n < (1 + (m + 1) * q) * (1 + (m + 1) * q)) (hk : noDiv n q m = true) : Prm n := by
  refine prm_of_small hn fun r hr hrn hrr => ?_
  rw [pm_spec n f a (n - 1) hf] at h1
  rw [pm_spec n f a _ (Nat.lt_of_le_of_lt (Nat.div_le_self _ _) hf)] at h2
  have hr1 := hr.1
  have hq1 := hq.1
  have a1 : a ^ (n - 1) % r = 1 := mod_dvd hrn h1 hr1
  have hb : (a ^ ((n - 1) / q)) ^ q = a ^ (n - 1) := by
    rw [← Nat.pow_mul, Nat.div_mul_cancel (Nat.dvd_of_mod_eq_zero hd)]
  have bq : (a ^ ((n - 1) / q)) ^ q % r = 1 := by rw [hb]; exact a1
  have bn : a ^ ((n - 1) / q) % r ≠ 1 := fun hc => by
    have : r ∣ a ^ ((n - 1) / q) % n + (n - 1) := by
      refine Nat.dvd_of_mod_eq_zero ?_
      rw [Nat.add_mod, Nat.mod_mod_of_dvd _ hrn, hc, ← Nat.mod_eq_of_lt hr1, ← Nat.add_mod, Nat.mod_eq_of_lt hr1, show 1 + (n - 1) = n by omega]
      exact Nat.mod_eq_zero_of_dvd hrn
    have := Nat.dvd_gcd this hrn
    rw [h2] at this
    have := Nat.le_of_dvd (by omega) this
    omega
  have hra : ¬ r ∣ a ^ ((n - 1) / q) := fun hc => by
    have : (a ^ ((n - 1) / q)) ^ q % r = 0 := Nat.mod_eq_zero_of_dvd (Nat.dvd_trans hc (dvd_pow_one _ (by omega)))
    omega
  have br := fermat1 hr hra
  have hqr : q ∣ r - 1 := by
    refine Classical.byContradiction fun hc => bn ?_
    have := pow_gcd hr1 q (r - 1) bq br
    rw [hq.coprime hc, Nat.pow_one] at this
    exact this
  obtain ⟨k, hk2⟩ := hqr
  have hk0 : 0 < k := by
    rcases Nat.eq_zero_or_pos k with h | h
    · subst h; omega
    · exact h
  have hrk : r = 1 + k * q := by rw [Nat.mul_comm]; omega
  by_cases c : k ≤ m
  · exact noDiv_spec hk hk0 c (hrk ▸ hrn)
  · have : 1 + (m + 1) * q ≤ r := by rw [hrk]; have := Nat.mul_le_mul_right q (show m + 1 ≤ k by omega); omega
    have := Nat.mul_le_mul this this
    omega
theorem prm_trial {n : Nat} (m : Nat) (h : 1 < n) (hm : n < (m + 1) * (m + 1)) (ht : ((List.range m).all fun i => decide (i = 0 ∨ n % (i + 1) ≠ 0)) = true) : Prm n := by
  refine prm_of_small h fun r hr hrn hrr => ?_
  have hr1 := hr.1
  have : r < m + 1 := by
    rcases Nat.lt_or_ge r (m + 1) with h | h
    · exact h
    · have := Nat.mul_le_mul h h; omega
  have := List.all_eq_true.1 ht (r - 1) (by simp; omega)
  simp only [decide_eq_true_eq] at this
  rcases this with h1 | h1
  · omega
  · rw [show r - 1 + 1 = r by omega] at h1
    exact h1 (Nat.mod_eq_zero_of_dvd hrn)
theorem prm5 : Prm 8574133 := prm_trial 2929 (by decide) (by decide) (by decide +kernel)
theorem prm4 : Prm 1919519569386763 := pock (q := 8574133) (a := 2) (m := 5) 64 prm5 (by decide) (by decide +kernel) (by decide +kernel) (by decide +kernel) (by decide +kernel) (by decide +kernel) (by decide +kernel)
theorem prm2 : Prm 75445702479781427272750846543864801 := pock (q := 1919519569386763) (a := 7) (m := 143) 128 prm4 (by decide +kernel) (by decide +kernel) (by decide +kernel) (by decide +kernel) (by decide +kernel) (by decide +kernel) (by decide +kernel)
theorem prm1 : Prm 74058212732561358302231226437062788676166966415465897661863160754340907 := pock (q := 75445702479781427272750846543864801) (a := 2) (m := 3) 256 prm2 (by decide +kernel) (by decide +kernel) (by decide +kernel) (by decide +kernel) (by decide +kernel) (by decide +kernel) (by decide +kernel)
theorem prm_fp : Prm fp := pock (q := 74058212732561358302231226437062788676166966415465897661863160754340907) (a := 2) (m := 0) 256 prm1 (by decide +kernel) (by decide +kernel) (by decide +kernel) (by decide +kernel) (by decide +kernel) (by decide +kernel) (by decide +kernel)
end Go.Proofs.YtmnhifagkcmhjaaDoor
