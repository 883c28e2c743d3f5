/-
  Texts of this claim.
-/
import Derived.Test.YtcnjekoidgefpaaGreatDoorGFV
import Derived.Test.YtcnjekoidgefpaaGreatDoorGF1V
import Derived.Test.YtcnjekoidgefpaaGreatDoorGZ1V
namespace Go.Proofs.YtcnjekoidgefpaaGreatDoor
/-! Primes: Fermat, and a test by a great prime factor of N - 1. -/
def Prm (p : Nat) : Prop := 1 < p ∧ ∀ d, d ∣ p → d = 1 ∨ d = p
theorem prm_factor : ∀ n, 1 < n → ∃ r, Prm r ∧ r ∣ n := by
  intro n
  induction n using Nat.strongRecOn with
  | _ n ih =>
    intro h
    by_cases hp : Prm n
    · exact ⟨n, hp, Nat.dvd_refl n⟩
    · have : ∃ d, d ∣ n ∧ d ≠ 1 ∧ d ≠ n := by
        refine Classical.byContradiction fun hc => hp ⟨h, fun d hd => ?_⟩
        refine Classical.byContradiction fun hd2 => hc ⟨d, hd, fun e => hd2 (.inl e), fun e => hd2 (.inr e)⟩
      obtain ⟨d, hd, h1, h2⟩ := this
      have hle := Nat.le_of_dvd (by omega) hd
      have hpos := Nat.pos_of_dvd_of_pos hd (by omega)
      obtain ⟨r, hr, hrd⟩ := ih d (by omega) (by omega)
      exact ⟨r, hr, Nat.dvd_trans hrd hd⟩
theorem oL {n : Nat} (h : 1 < n) (hs : ∀ r, Prm r → r ∣ n → r * r ≤ n → False) : Prm n := by
  refine ⟨h, fun d hd => ?_⟩
  refine Classical.byContradiction fun hc => ?_
  have h1 : d ≠ 1 := fun e => hc (.inl e)
  have h2 : d ≠ n := fun e => hc (.inr e)
  obtain ⟨e, he⟩ := hd
  have hd0 : d ≠ 0 := fun z => by rw [z, Nat.zero_mul] at he; omega
  have he0 : e ≠ 0 := fun z => by rw [z, Nat.mul_zero] at he; omega
  have he1 : e ≠ 1 := fun z => by rw [z, Nat.mul_one] at he; omega
  rcases Nat.le_total d e with hle | hle
  · obtain ⟨r, hr, hrd⟩ := prm_factor d (by omega)
    have hrle := Nat.le_of_dvd (by omega) hrd
    refine hs r hr (Nat.dvd_trans hrd ⟨e, he⟩) ?_
    rw [he]; exact Nat.mul_le_mul hrle (Nat.le_trans hrle hle)
  · obtain ⟨r, hr, hrd⟩ := prm_factor e (by omega)
    have hrle := Nat.le_of_dvd (by omega) hrd
    refine hs r hr (Nat.dvd_trans hrd ⟨d, by rw [he, Nat.mul_comm]⟩) ?_
    rw [he]; exact Nat.mul_le_mul (Nat.le_trans hrle hle) hrle
theorem Prm.coprime {p k : Nat} (hp : Prm p) (h : ¬ p ∣ k) : Nat.gcd p k = 1 := by
  rcases hp.2 (Nat.gcd p k) (Nat.gcd_dvd_left p k) with h1 | h1
  · exact h1
  · exact absurd (h1 ▸ Nat.gcd_dvd_right p k) h
theorem Prm.split {p a b : Nat} (hp : Prm p) (h : p ∣ a * b) : p ∣ a ∨ p ∣ b := by
  by_cases ha : p ∣ a
  · exact .inl ha
  · exact .inr (Nat.Coprime.dvd_of_dvd_mul_left (hp.coprime ha) h)
def bin : Nat → Nat → Nat
  | _, 0 => 1
  | 0, _ + 1 => 0
  | n + 1, k + 1 => bin n k + bin n (k + 1)
theorem bin_over (n k : Nat) (h : n < k) : bin n k = 0 := by
  induction n generalizing k with
  | zero => obtain ⟨k, rfl⟩ : ∃ j, k = j + 1 := ⟨k - 1, by omega⟩; rfl
  | succ n ih =>
    obtain ⟨k, rfl⟩ : ∃ j, k = j + 1 := ⟨k - 1, by omega⟩
    simp only [bin]; rw [ih k (by omega), ih (k + 1) (by omega)]
theorem bin_self (n : Nat) : bin n n = 1 := by
  induction n with
  | zero => rfl
  | succ n ih => simp only [bin]; rw [ih, bin_over n (n + 1) (by omega)]
theorem bin_mul (n k : Nat) : (k + 1) * bin (n + 1) (k + 1) = (n + 1) * bin n k := by
  induction n generalizing k with
  | zero =>
    cases k with
    | zero => rfl
    | succ k => simp [bin]
  | succ n ih =>
    cases k with
    | zero =>
      have := ih 0
      simp only [bin, Nat.zero_add, Nat.one_mul, Nat.mul_one] at *
      omega
    | succ k =>
      have h1 := ih k
      have h2 := ih (k + 1)
      have e : bin (n + 2) (k + 2) = bin (n + 1) (k + 1) + bin (n + 1) (k + 2) := rfl
      have e2 : bin (n + 1) (k + 1) = bin n k + bin n (k + 1) := rfl
      rw [e, Nat.mul_add, h2]
      have : (k + 1 + 1) * bin (n + 1) (k + 1) = (k + 1) * bin (n + 1) (k + 1) + bin (n + 1) (k + 1) := by rw [Nat.add_mul, Nat.one_mul]
      rw [this, h1]
      conv => rhs; rw [e2]
      conv => lhs; rw [e2]
      grind
def bs (n a : Nat) : Nat → Nat
  | 0 => 0
  | m + 1 => bs n a m + bin n m * a ^ m
theorem bs_step (n a m : Nat) : bs (n + 1) a (m + 1) = bs n a (m + 1) + a * bs n a m := by
  induction m with
  | zero => simp [bs, bin]
  | succ m ih =>
    have e1 : bs (n + 1) a (m + 2) = bs (n + 1) a (m + 1) + bin (n + 1) (m + 1) * a ^ (m + 1) := rfl
    have e2 : bs n a (m + 2) = bs n a (m + 1) + bin n (m + 1) * a ^ (m + 1) := rfl
    have e3 : bs n a (m + 1) = bs n a m + bin n m * a ^ m := rfl
    have e4 : bin (n + 1) (m + 1) = bin n m + bin n (m + 1) := rfl
    rw [e1, ih, e2, e4]
    conv => rhs; rw [e3]
    conv => lhs; rw [e3]
    rw [Nat.pow_succ]
    grind
theorem bs_pow (n a : Nat) : bs n a (n + 1) = (a + 1) ^ n := by
  induction n with
  | zero => simp [bs, bin]
  | succ n ih =>
    rw [bs_step, show bs n a (n + 2) = bs n a (n + 1) + bin n (n + 1) * a ^ (n + 1) from rfl, bin_over n (n + 1) (by omega), ih, Nat.pow_succ]
    grind
theorem bin_prm {p k : Nat} (hp : Prm p) (h0 : 0 < k) (h1 : k < p) : p ∣ bin p k := by
  obtain ⟨q, rfl⟩ : ∃ q, p = q + 1 := ⟨p - 1, by have := hp.1; omega⟩
  obtain ⟨j, rfl⟩ : ∃ j, k = j + 1 := ⟨k - 1, by omega⟩
  have h := bin_mul q j
  have hd : q + 1 ∣ (j + 1) * bin (q + 1) (j + 1) := ⟨bin q j, h⟩
  rcases hp.split hd with h2 | h2
  · have := Nat.le_of_dvd (by omega) h2; omega
  · exact h2
theorem bs_prm {p : Nat} (hp : Prm p) (a m : Nat) (h : m < p) : bs p a (m + 1) % p = 1 % p := by
  induction m with
  | zero =>
    simp only [bs]
    obtain ⟨q, rfl⟩ : ∃ q, p = q + 1 := ⟨p - 1, by omega⟩
    simp [bin]
  | succ m ih =>
    rw [show bs p a (m + 1 + 1) = bs p a (m + 1) + bin p (m + 1) * a ^ (m + 1) from rfl]
    obtain ⟨c, hc⟩ := bin_prm hp (show 0 < m + 1 by omega) h
    rw [hc, Nat.mul_assoc, Nat.add_mul_mod_self_left, ih (by omega)]
theorem fermat {p : Nat} (hp : Prm p) (a : Nat) : a ^ p % p = a % p := by
  induction a with
  | zero => rw [Nat.zero_pow (by have := hp.1; omega)]
  | succ a ih =>
    obtain ⟨q, hq⟩ : ∃ q, p = q + 1 := ⟨p - 1, by have := hp.1; omega⟩
    rw [← bs_pow, show bs p a (p + 1) = bs p a p + bin p p * a ^ p from rfl, bin_self, Nat.one_mul]
    rw [Nat.add_mod, ih]
    have := bs_prm hp a q (by omega)
    rw [← hq] at this
    rw [this, ← Nat.add_mod, Nat.add_comm]
theorem pS {a b p : Nat} (h : a % p = b % p) (hle : b ≤ a) : p ∣ a - b := by
  have h1 := Nat.div_add_mod a p
  have h2 := Nat.div_add_mod b p
  refine ⟨a / p - b / p, ?_⟩
  rw [Nat.mul_sub]; omega
theorem jP {a b p : Nat} (h : p ∣ a - b) (hle : b ≤ a) : a % p = b % p := by
  obtain ⟨c, hc⟩ := h
  rw [show a = b + p * c by omega, Nat.add_mul_mod_self_left]
theorem cancel {p a b c : Nat} (hp : Prm p) (hc : ¬ p ∣ c) (h : c * a % p = c * b % p) : a % p = b % p := by
  rcases Nat.le_total b a with hle | hle
  · have := pS h (Nat.mul_le_mul_left c hle)
    rw [← Nat.mul_sub] at this
    rcases hp.split this with h1 | h1
    · exact absurd h1 hc
    · exact jP h1 hle
  · have := pS h.symm (Nat.mul_le_mul_left c hle)
    rw [← Nat.mul_sub] at this
    rcases hp.split this with h1 | h1
    · exact absurd h1 hc
    · exact (jP h1 hle).symm
theorem mS {p : Nat} (hp : Prm p) {a : Nat} (h : ¬ p ∣ a) : a ^ (p - 1) % p = 1 := by
  have h1 : a * a ^ (p - 1) % p = a * 1 % p := by
    rw [← Nat.pow_succ', show (p - 1).succ = p by have := hp.1; omega, Nat.mul_one]; exact fermat hp a
  rw [cancel hp h h1]
  exact Nat.mod_eq_of_lt hp.1
theorem pow_gcd {r b : Nat} (hr : 1 < r) (m n : Nat) (hm : b ^ m % r = 1) (hn : b ^ n % r = 1) : b ^ Nat.gcd m n % r = 1 := by
  induction m, n using Nat.gcd.induction with
  | H0 n => rw [Nat.gcd_zero_left]; exact hn
  | H1 m n hpos ih =>
    rw [Nat.gcd_rec]
    refine ih ?_ hm
    have e : b ^ n = (b ^ m) ^ (n / m) * b ^ (n % m) := by rw [← Nat.pow_mul, ← Nat.pow_add, Nat.div_add_mod]
    rw [e, Nat.mul_mod, Nat.pow_mod, hm, Nat.one_pow, Nat.mod_eq_of_lt hr, Nat.one_mul, Nat.mod_mod] at hn
    exact hn
theorem mod_dvd {x n r : Nat} (hr : r ∣ n) (h : x % n = 1) (h1 : 1 < r) : x % r = 1 := by
  rw [← Nat.mod_mod_of_dvd x hr, h]; exact Nat.mod_eq_of_lt h1
def pm (n : Nat) : Nat → Nat → Nat → Nat
  | 0, _, _ => 1 % n
  | f + 1, a, e => if e % 2 = 1 then a * pm n f (a * a % n) (e / 2) % n else pm n f (a * a % n) (e / 2)
theorem gM (n : Nat) (f a e : Nat) (h : e < 2 ^ f) : pm n f a e = a ^ e % n := by
  induction f generalizing a e with
  | zero => have : e = 0 := by simpa using h
            subst this; rfl
  | succ f ih =>
    have ih := ih (a * a % n) (e / 2) (by rw [Nat.pow_succ] at h; omega)
    have e2 : (a * a % n) ^ (e / 2) % n = a ^ (2 * (e / 2)) % n := by rw [← Nat.pow_mod, Nat.pow_mul, Nat.pow_two]
    simp only [pm]
    rw [ih, e2]
    split
    · rename_i h1
      conv => rhs; rw [show e = 2 * (e / 2) + 1 by omega, Nat.pow_succ']
      rw [Nat.mul_mod, Nat.mod_mod, ← Nat.mul_mod]
    · rename_i h1
      rw [show 2 * (e / 2) = e by omega]
def noDiv (n q : Nat) : Nat → Bool
  | 0 => true
  | k + 1 => decide (n % (1 + (k + 1) * q) ≠ 0) && noDiv n q k
theorem dvd_pow_one (a : Nat) {q : Nat} (h : 0 < q) : a ∣ a ^ q := ⟨a ^ (q - 1), by rw [← Nat.pow_succ', show (q - 1).succ = q by omega]⟩
theorem noDiv_spec {n q m : Nat} (h : noDiv n q m = true) {k : Nat} (h0 : 0 < k) (hk : k ≤ m) : ¬ (1 + k * q) ∣ n := by
  induction m with
  | zero => omega
  | succ m ih =>
    simp only [noDiv, Bool.and_eq_true, decide_eq_true_eq] at h
    by_cases e : k = m + 1
    · subst e; exact fun hd => h.1 (Nat.mod_eq_zero_of_dvd hd)
    · exact ih h.2 (by omega)
theorem pock {n q a m : Nat} (f : Nat) (hq : Prm q) (hn : 1 < n) (hf : n - 1 < 2 ^ f) (hd : (n - 1) % q = 0) (h1 : pm n f a (n - 1) = 1) (h2 : Nat.gcd (pm n f a ((n - 1) / q) + (n - 1)) n = 1)
    (hm : n < (1 + (m + 1) * q) * (1 + (m + 1) * q)) (hk : noDiv n q m = true) : Prm n := by
  refine oL hn fun r hr hrn hrr => ?_
  rw [gM n f a (n - 1) hf] at h1
  rw [gM n f a _ (Nat.lt_of_le_of_lt (Nat.div_le_self _ _) hf)] at h2
  have hr1 := hr.1
  have hq1 := hq.1
  have a1 : a ^ (n - 1) % r = 1 := mod_dvd hrn h1 hr1
  have hb : (a ^ ((n - 1) / q)) ^ q = a ^ (n - 1) := by
    rw [← Nat.pow_mul, Nat.div_mul_cancel (Nat.dvd_of_mod_eq_zero hd)]
  have bq : (a ^ ((n - 1) / q)) ^ q % r = 1 := by rw [hb]; exact a1
  have bn : a ^ ((n - 1) / q) % r ≠ 1 := fun hc => by
    have : r ∣ a ^ ((n - 1) / q) % n + (n - 1) := by
      refine Nat.dvd_of_mod_eq_zero ?_
      rw [Nat.add_mod, Nat.mod_mod_of_dvd _ hrn, hc, ← Nat.mod_eq_of_lt hr1, ← Nat.add_mod, Nat.mod_eq_of_lt hr1, show 1 + (n - 1) = n by omega]
      exact Nat.mod_eq_zero_of_dvd hrn
    have := Nat.dvd_gcd this hrn
    rw [h2] at this
    have := Nat.le_of_dvd (by omega) this
    omega
  have hra : ¬ r ∣ a ^ ((n - 1) / q) := fun hc => by
    have : (a ^ ((n - 1) / q)) ^ q % r = 0 := Nat.mod_eq_zero_of_dvd (Nat.dvd_trans hc (dvd_pow_one _ (by omega)))
    omega
  have br := mS hr hra
  have hqr : q ∣ r - 1 := by
    refine Classical.byContradiction fun hc => bn ?_
    have := pow_gcd hr1 q (r - 1) bq br
    rw [hq.coprime hc, Nat.pow_one] at this
    exact this
  obtain ⟨k, hk2⟩ := hqr
  have hk0 : 0 < k := by
    rcases Nat.eq_zero_or_pos k with h | h
    · subst h; omega
    · exact h
  have hrk : r = 1 + k * q := by rw [Nat.mul_comm]; omega
  by_cases c : k ≤ m
  · exact noDiv_spec hk hk0 c (hrk ▸ hrn)
  · have : 1 + (m + 1) * q ≤ r := by rw [hrk]; have := Nat.mul_le_mul_right q (show m + 1 ≤ k by omega); omega
    have := Nat.mul_le_mul this this
    omega
theorem prm_trial {n : Nat} (m : Nat) (h : 1 < n) (hm : n < (m + 1) * (m + 1)) (ht : ((List.range m).all fun i => decide (i = 0 ∨ n % (i + 1) ≠ 0)) = true) : Prm n := by
  refine oL h fun r hr hrn hrr => ?_
  have hr1 := hr.1
  have : r < m + 1 := by
    rcases Nat.lt_or_ge r (m + 1) with h | h
    · exact h
    · have := Nat.mul_le_mul h h; omega
  have := List.all_eq_true.1 ht (r - 1) (by simp; omega)
  simp only [decide_eq_true_eq] at this
  rcases this with h1 | h1
  · omega
  · rw [show r - 1 + 1 = r by omega] at h1
    exact h1 (Nat.mod_eq_zero_of_dvd hrn)
theorem prm5 : Prm 8574133 := prm_trial 2929 (by decide) (by decide) (by decide +kernel)
theorem prm4 : Prm 1919519569386763 := pock (q := 8574133) (a := 2) (m := 5) 64 prm5 (by decide) (by decide +kernel) (by decide +kernel) (by decide +kernel) (by decide +kernel) (by decide +kernel) (by decide +kernel)
theorem prm2 : Prm 75445702479781427272750846543864801 := pock (q := 1919519569386763) (a := 7) (m := 143) 128 prm4 (by decide +kernel) (by decide +kernel) (by decide +kernel) (by decide +kernel) (by decide +kernel) (by decide +kernel) (by decide +kernel)
theorem prm1 : Prm 74058212732561358302231226437062788676166966415465897661863160754340907 := pock (q := 75445702479781427272750846543864801) (a := 2) (m := 3) 256 prm2 (by decide +kernel) (by decide +kernel) (by decide +kernel) (by decide +kernel) (by decide +kernel) (by decide +kernel) (by decide +kernel)
theorem vP : Prm fp := pock (q := 74058212732561358302231226437062788676166966415465897661863160754340907) (a := 2) (m := 0) 256 prm1 (by decide +kernel) (by decide +kernel) (by decide +kernel) (by decide +kernel) (by decide +kernel) (by decide +kernel) (by decide +kernel)
end Go.Proofs.YtcnjekoidgefpaaGreatDoor
namespace Go.Proofs.YtcnjekoidgefpaaGreatDoor
open Go.RowKit
end Go.Proofs.YtcnjekoidgefpaaGreatDoor
namespace Go.Proofs.YtcnjekoidgefpaaGreatDoor
open Go.RowKit
theorem pI (a m n : Nat) : (a ^ m % fp) * (a ^ n % fp) % fp = a ^ (m + n) % fp := by rw [← Nat.mul_mod, Nat.pow_add]
theorem pw_add1 (a m : Nat) : (a ^ m % fp) * a % fp = a ^ (m + 1) % fp := by rw [Nat.mod_mul_mod, Nat.pow_succ]
theorem pw_pow (a m k : Nat) : (a ^ m % fp) ^ k % fp = a ^ (m * k) % fp := by rw [← Nat.pow_mod, Nat.pow_mul]
theorem sq_start (x : Nat) (h : x < fp) : x = x ^ (2 ^ 0) % fp := by rw [Nat.pow_zero, Nat.pow_one, Nat.mod_eq_of_lt h]
theorem sq_step (x j : Nat) : (x ^ (2 ^ j) % fp) * (x ^ (2 ^ j) % fp) % fp = x ^ (2 ^ (j + 1)) % fp := by
  rw [pI, Nat.pow_succ, Nat.mul_two]
theorem nN (a : Nat) (h : a < fp) : a = a ^ (2 ^ 1 - 1) % fp := by rw [show 2 ^ 1 - 1 = 1 from rfl, Nat.pow_one, Nat.mod_eq_of_lt h]
theorem ones_exp (h : Nat) : (2 ^ h - 1) * 2 ^ h + (2 ^ h - 1) = 2 ^ (2 * h) - 1 := by
  have e : 2 ^ (2 * h) = 2 ^ h * 2 ^ h := by rw [← Nat.pow_add, Nat.two_mul]
  have p : 0 < 2 ^ h := Nat.pow_pos (by decide)
  rw [e]
  generalize 2 ^ h = x at *
  obtain ⟨y, rfl⟩ : ∃ y, x = y + 1 := ⟨x - 1, by omega⟩
  rw [Nat.add_sub_cancel, Nat.add_mul, Nat.mul_add]; omega
theorem ones_odd (h : Nat) : (2 ^ (2 * h) - 1 + (2 ^ (2 * h) - 1)) + 1 = 2 ^ (2 * h + 1) - 1 := by
  have p : 0 < 2 ^ (2 * h) := Nat.pow_pos (by decide)
  rw [Nat.pow_succ]; omega
set_option maxRecDepth 100000 in
theorem dP (x n : Nat) (hx : x < fp) (hn : n ≤ 1000) : kZ Tryz.prog 116 [.agg64 (fl x), .i64 (n : Int)] [] (.agg64 (fl (x ^ (2 ^ n) % fp))) [] := by
 refine mt (nt := 12) Tryz.func116 rfl rfl rfl <| .r <| .y (lZ rfl rfl) rfl <| .y (dZ jY pZ rfl) rfl <| .nil <| .seq <| .r <| .m rfl rfl <| .m rfl rfl <| .nil <| .block <| Ev.loop (ι := { j : Nat // j ≤ n }) (fun j => ⟨[(2, .ptr 1000 0), (4, .ptr 1008 0), (5, .i64 (n : Int)), (6, .i64 ((j.1 : Nat) : Int))], [(1000, some ⟨.agg64 (fl (x ^ (2 ^ j.1) % fp)), 55, true⟩), (1008, some ⟨.agg64 (List.replicate 4 0), 55, true⟩)], 1016⟩) (fun j => n - j.1) ⟨0, Nat.zero_le _⟩ (StLe.mk [(1000, 1000), (1008, 1008)] rfl rfl ⟨⟨_, rfl, by first | rfl | (simp only [AV.ren]; congr 1; omega), rfl⟩, ⟨_, rfl, by first | rfl | (simp only [AV.ren]; congr 1; omega), rfl⟩, ⟨_, rfl, by first | rfl | (simp only [AV.ren]; congr 1; omega), rfl⟩, ⟨_, rfl, by first | rfl | (simp only [AV.ren]; congr 1; omega), rfl⟩, trivial⟩ ⟨⟨_, _, rfl, rfl, by (show AV.agg64 (fl x) = _; exact congrArg (fun z => AV.agg64 (fl z)) (sq_start x hx)), rfl, id, rfl⟩, ⟨_, _, rfl, rfl, by first | rfl | (simp only [AV.ren]; congr 1; omega), rfl, id, rfl⟩, trivial⟩) ?_
 rintro ⟨j, hj⟩
 dsimp only
 refine .r <| .x (gZ rfl rfl rfl) rfl <| .nil <| .seq <| .cond rfl (fun hc7 => ?_) (fun hc7 => ?_)
 ·simp only [decide_eq_true_eq] at hc7
  refine .skip <| .seq <| .block <| .region <| .x (bZ Tryz.underlying55 rfl sz55 rfl rfl rfl (rfl)) rfl <| .x (aZ (U := []) [] [] (pW _ (rY _)) Tryz.func52 (by kernel_rfl) rfl rfl rfl (⟨⟨_, rfl, rfl, rfl⟩, trivial⟩) (trivial) (trivial) (trivial) rfl) rfl <| .w (cZ sz55 rfl rfl rfl rfl rfl (rfl) (rfl)) trivial rfl <| .nil <| .region <| .x (jZ rfl rfl ⟨by omega, by omega⟩) rfl <| .m rfl rfl <| .nil ?_
  exact ⟨⟨j + 1, by omega⟩, by show n - (j + 1) < n - j; omega, StLe.mk [(1000, 1000), (1008, 1008)] rfl rfl ⟨⟨_, rfl, by first | rfl | (simp only [AV.ren]; congr 1; omega), rfl⟩, ⟨_, rfl, by first | rfl | (simp only [AV.ren]; congr 1; omega), rfl⟩, ⟨_, rfl, by first | rfl | (simp only [AV.ren]; congr 1; omega), rfl⟩, ⟨_, rfl, by first | rfl | (simp only [AV.ren]; congr 1; omega), rfl⟩, trivial⟩ ⟨⟨_, _, rfl, rfl, by exact congrArg (fun z => AV.agg64 (fl z)) (sq_step x j), rfl, id, rfl⟩, ⟨_, _, rfl, rfl, by first | rfl | (simp only [AV.ren]; congr 1; omega), rfl, id, rfl⟩, trivial⟩⟩
 ·simp only [decide_eq_false_iff_not] at hc7
  refine .exit ?_
  have ej : j = n := by omega
  refine Ev.weak (st2 := ⟨[(2, .ptr 1000 0), (4, .ptr 1008 0), (5, .i64 (n : Int)), (6, .i64 (((n) : Nat) : Int))], [(1000, some ⟨.agg64 (fl (x ^ (2 ^ (n)) % fp)), 55, true⟩), (1008, some ⟨.agg64 (List.replicate 4 0), 55, true⟩)], 1016⟩) (StLe.mk [(1000, 1000), (1008, 1008)] rfl rfl ⟨⟨_, rfl, by first | (simp only [AV.ren]; done) | (simp only [AV.ren]; rw [ej]; done) | rfl, rfl⟩, ⟨_, rfl, by first | (simp only [AV.ren]; done) | (simp only [AV.ren]; rw [ej]; done) | rfl, rfl⟩, ⟨_, rfl, by first | (simp only [AV.ren]; done) | (simp only [AV.ren]; rw [ej]; done) | rfl, rfl⟩, ⟨_, rfl, by first | (simp only [AV.ren]; done) | (simp only [AV.ren]; rw [ej]; done) | rfl, rfl⟩, trivial⟩ ⟨⟨_, _, rfl, rfl, by first | (simp only [AV.ren]; done) | (simp only [AV.ren]; rw [ej]; done) | rfl, rfl, id, rfl⟩, ⟨_, _, rfl, rfl, by first | (simp only [AV.ren]; done) | (simp only [AV.ren]; rw [ej]; done) | rfl, rfl, id, rfl⟩, trivial⟩) <| .r <| .x (bZ Tryz.underlying55 rfl sz55 rfl rfl rfl (rfl)) rfl <| .w (cZ sz55 rfl rfl rfl rfl rfl (rfl) (rfl)) trivial rfl <| .nil <| .ret ?_
  exact yY rfl (.inl rfl) ⟨_, _, _, _, rfl, rfl, rfl, rfl, (rfl), Tryz.underlying55, rfl, sz55⟩ trivial
set_option maxRecDepth 100000 in
theorem ones_ev (a : Nat) (ha : a < fp) (n : Nat) (h1 : 1 ≤ n) (h2 : n ≤ 1000) : kZ Tryz.prog 117 [.agg64 (fl a), .i64 (n : Int)] [] (.agg64 (fl (a ^ (2 ^ n - 1) % fp))) [] := by
 revert h1 h2
 refine Nat.strongRecOn n ?_
 clear n
 intro n ih h1 h2
 refine mt (nt := 28) Tryz.func117 rfl rfl rfl <| .r <| .y (lZ rfl rfl) rfl <| .y (dZ jY pZ rfl) rfl <| .nil <| .seq <| .r <| .m rfl rfl <| .x (gZ rfl rfl rfl) rfl <| .nil <| .cond rfl (fun hc8 => ?_) (fun hc8 => ?_)
 ·simp only [beq_iff_eq] at hc8
  refine .r <| .x (bZ Tryz.underlying55 rfl sz55 rfl rfl rfl (rfl)) rfl <| .w (cZ sz55 rfl rfl rfl rfl rfl (rfl) (rfl)) trivial rfl <| .nil <| .ret ?_
  first
   | (exact yY rfl (.inl rfl) ⟨_, _, _, _, rfl, rfl, rfl, rfl, (rfl), Tryz.underlying55, rfl, sz55⟩ trivial)
   | (refine Eq.mp (congrArg (fun z => xS _ _ _ (AV.agg64 (fl z)) _ _ _) (show a = a ^ (2 ^ n - 1) % fp by rw [show n = 1 by omega]; exact nN a ha)) ?_; exact yY rfl (.inl rfl) ⟨_, _, _, _, rfl, rfl, rfl, rfl, (rfl), Tryz.underlying55, rfl, sz55⟩ trivial)
   | (refine Eq.mp (congrArg (fun z => xS _ _ _ (AV.agg64 (fl (a ^ (2 ^ z - 1) % fp))) _ _ _) (show 2 * (n / 2) = n by omega)) ?_; exact yY rfl (.inl rfl) ⟨_, _, _, _, rfl, rfl, rfl, rfl, (rfl), Tryz.underlying55, rfl, sz55⟩ trivial)
 ·simp only [ne_eq, beq_eq_false_iff_ne] at hc8
  refine .skip <| .r <| .x (bZ Tryz.underlying55 rfl sz55 rfl rfl rfl (rfl)) rfl <| .m rfl rfl <| .x (pY rfl rfl ⟨by omega, ⟨by omega, by omega⟩, by omega⟩) rfl <| .as (.i64 ((n / 2 : Nat) : Int)) (congrArg AV.i64 (by omega)) <| .x (aZ (U := []) [] [] (ih (n / 2) (by omega) (by omega) (by omega)) Tryz.func117 (by kernel_rfl) rfl rfl rfl (⟨⟨_, rfl, rfl, rfl⟩, ⟨_, rfl, rfl, rfl⟩, trivial⟩) (trivial) (trivial) (trivial) rfl) rfl <| .as (.agg64 (fl (a ^ (2 ^ (n / 2) - 1) % fp))) rfl <| .y (dZ jY pZ rfl) rfl <| .w (cZ sz55 rfl rfl rfl rfl rfl (rfl) (rfl)) trivial rfl <| .nil <| .seq <| .drawn [[], [], [1], [0, 1, 2], [], [0, 1, 2, 3, 4], [], [0, 1, 2, 3, 4, 5, 6]] [0, 3, 4, 5, 6, 7] [7] (by kernel_rfl) (by kernel_rfl) rfl <| .x rfl (bZ Tryz.underlying55 rfl sz55 rfl rfl rfl (rfl)) <| .m rfl rfl <| .x rfl (pY rfl rfl ⟨by omega, ⟨by omega, by omega⟩, by omega⟩) <| .as (.i64 ((n / 2 : Nat) : Int)) (congrArg AV.i64 (by omega)) <| .x rfl (aZ (U := []) [] [] (dP (a ^ (2 ^ (n / 2) - 1) % fp) (n / 2) (rY _) (by omega)) Tryz.func116 (by kernel_rfl) rfl rfl rfl (⟨⟨_, rfl, rfl, rfl⟩, ⟨_, rfl, rfl, rfl⟩, trivial⟩) (trivial) (trivial) (trivial) rfl) <| .as (.agg64 (fl (a ^ ((2 ^ (n / 2) - 1) * 2 ^ (n / 2)) % fp))) (congrArg (fun z => AV.agg64 (fl z)) (pw_pow a _ _)) <| .x rfl (bZ Tryz.underlying55 rfl sz55 rfl rfl rfl (rfl)) <| .x rfl (aZ (U := []) [] [] (rX _ _ (rY _) (rY _)) Tryz.func55 (by kernel_rfl) rfl rfl rfl (⟨⟨_, rfl, rfl, rfl⟩, ⟨_, rfl, rfl, rfl⟩, trivial⟩) (trivial) (trivial) (trivial) rfl) <| .as (.agg64 (fl (a ^ (2 ^ (2 * (n / 2)) - 1) % fp))) (congrArg (fun z => AV.agg64 (fl z)) (by rw [pI, ones_exp])) <| .a rfl (dZ jY pZ rfl) trivial rfl rfl <| .w rfl (cZ sz55 rfl rfl rfl rfl rfl (rfl) (rfl)) trivial rfl rfl <| .nil <| .seq <| .r <| .m rfl rfl <| .x (qY rfl rfl ⟨by omega, by omega⟩) rfl <| .x (gZ rfl rfl rfl) rfl <| .nil <| .cond rfl (fun hc22 => ?_) (fun hc22 => ?_)
  ·simp only [beq_iff_eq] at hc22
   refine .drawn [[], [0], [], [0, 1, 2], [0, 1, 2, 3]] [0, 1, 2, 3, 4] [4] (by kernel_rfl) (by kernel_rfl) rfl <| .x rfl (bZ Tryz.underlying55 rfl sz55 rfl rfl rfl (rfl)) <| .x rfl (aZ (U := []) [] [] (pW _ (rY _)) Tryz.func52 (by kernel_rfl) rfl rfl rfl (⟨⟨_, rfl, rfl, rfl⟩, trivial⟩) (trivial) (trivial) (trivial) rfl) <| .as (.agg64 (fl (a ^ ((2 ^ (2 * (n / 2)) - 1) + (2 ^ (2 * (n / 2)) - 1)) % fp))) (congrArg (fun z => AV.agg64 (fl z)) (pI a _ _)) <| .x rfl (bZ Tryz.underlying55 rfl sz55 rfl rfl rfl (rfl)) <| .x rfl (aZ (U := []) [] [] (rX _ _ (rY _) ha) Tryz.func55 (by kernel_rfl) rfl rfl rfl (⟨⟨_, rfl, rfl, rfl⟩, ⟨_, rfl, rfl, rfl⟩, trivial⟩) (trivial) (trivial) (trivial) rfl) <| .as (.agg64 (fl (a ^ (2 ^ n - 1) % fp))) (congrArg (fun z => AV.agg64 (fl z)) (by rw [pw_add1, ones_odd, show 2 * (n / 2) + 1 = n by omega])) <| .w rfl (cZ sz55 rfl rfl rfl rfl rfl (rfl) (rfl)) trivial rfl rfl <| .nil <| .r <| .x (bZ Tryz.underlying55 rfl sz55 rfl rfl rfl (rfl)) rfl <| .w (cZ sz55 rfl rfl rfl rfl rfl (rfl) (rfl)) trivial rfl <| .nil <| .ret ?_
   first
    | (exact yY rfl (.inl rfl) ⟨_, _, _, _, rfl, rfl, rfl, rfl, (rfl), Tryz.underlying55, rfl, sz55⟩ trivial)
    | (refine Eq.mp (congrArg (fun z => xS _ _ _ (AV.agg64 (fl z)) _ _ _) (show a = a ^ (2 ^ n - 1) % fp by rw [show n = 1 by omega]; exact nN a ha)) ?_; exact yY rfl (.inl rfl) ⟨_, _, _, _, rfl, rfl, rfl, rfl, (rfl), Tryz.underlying55, rfl, sz55⟩ trivial)
    | (refine Eq.mp (congrArg (fun z => xS _ _ _ (AV.agg64 (fl (a ^ (2 ^ z - 1) % fp))) _ _ _) (show 2 * (n / 2) = n by omega)) ?_; exact yY rfl (.inl rfl) ⟨_, _, _, _, rfl, rfl, rfl, rfl, (rfl), Tryz.underlying55, rfl, sz55⟩ trivial)
  ·simp only [ne_eq, beq_eq_false_iff_ne] at hc22
   refine .skip <| .r <| .x (bZ Tryz.underlying55 rfl sz55 rfl rfl rfl (rfl)) rfl <| .w (cZ sz55 rfl rfl rfl rfl rfl (rfl) (rfl)) trivial rfl <| .nil <| .ret ?_
   first
    | (exact yY rfl (.inl rfl) ⟨_, _, _, _, rfl, rfl, rfl, rfl, (rfl), Tryz.underlying55, rfl, sz55⟩ trivial)
    | (refine Eq.mp (congrArg (fun z => xS _ _ _ (AV.agg64 (fl z)) _ _ _) (show a = a ^ (2 ^ n - 1) % fp by rw [show n = 1 by omega]; exact nN a ha)) ?_; exact yY rfl (.inl rfl) ⟨_, _, _, _, rfl, rfl, rfl, rfl, (rfl), Tryz.underlying55, rfl, sz55⟩ trivial)
    | (refine Eq.mp (congrArg (fun z => xS _ _ _ (AV.agg64 (fl (a ^ (2 ^ z - 1) % fp))) _ _ _) (show 2 * (n / 2) = n by omega)) ?_; exact yY rfl (.inl rfl) ⟨_, _, _, _, rfl, rfl, rfl, rfl, (rfl), Tryz.underlying55, rfl, sz55⟩ trivial)
theorem ones_gen (a : Nat) (ha : a < fp) (n : Nat) (h1 : 1 ≤ n) (h2 : n ≤ 1000) (e0 : Nat) (h0 : 2 ^ n - 1 = e0) : kZ Tryz.prog 117 [.agg64 (fl a), .i64 (n : Int)] [] (.agg64 (fl (a ^ e0 % fp))) [] := h0 ▸ ones_ev a ha n h1 h2
theorem pw_powE (a m k e : Nat) (h : m * k = e) : (a ^ m % fp) ^ k % fp = a ^ e % fp := by rw [pw_pow, h]
theorem pw_addE (a m k e : Nat) (h : m + k = e) : (a ^ m % fp) * (a ^ k % fp) % fp = a ^ e % fp := by rw [pI, h]
theorem inv_exp : (2 ^ 250 - 1) * 2 ^ 5 + ((1 + 1) * 2 ^ 2 + (1 + 1) + 1) = fp - 2 := by decide +kernel
theorem root_exp : (2 ^ 250 - 1) * 2 ^ 2 + 1 = (fp - 5) / 8 := by decide +kernel
set_option maxRecDepth 100000 in
theorem finvert_gen (a : Nat) (ha : a < fp) (e0 e1 e2 : Nat) (h0 : 2 ^ 250 - 1 = e0) (h1 : e0 * 2 ^ 5 = e1) (h2 : e1 + ((1 + 1) * 2 ^ 2 + (1 + 1) + 1) = e2) : kZ Tryz.prog 81 [.agg64 (fl a)] [] (.agg64 (fl (a ^ e2 % fp))) [] := by
 refine mt (nt := 18) Tryz.func81 rfl rfl rfl <| .r <| .y (lZ rfl rfl) rfl <| .y (dZ jY pZ rfl) rfl <| .nil <| .r <| .x (bZ Tryz.underlying55 rfl sz55 rfl rfl rfl (rfl)) rfl <| .x (aZ (U := []) [] [] (pW a ha) Tryz.func52 (by kernel_rfl) rfl rfl rfl (⟨⟨_, rfl, rfl, rfl⟩, trivial⟩) (trivial) (trivial) (trivial) rfl) rfl <| .as (.agg64 (fl (a ^ (1 + 1) % fp))) (congrArg (fun z => AV.agg64 (fl z)) (by rw [Nat.pow_succ, Nat.pow_one])) <| .y (dZ jY pZ rfl) rfl <| .w (cZ sz55 rfl rfl rfl rfl rfl (rfl) (rfl)) trivial rfl <| .nil <| .seq <| .drawn [[], [0], [], [0, 1, 2], [], [0, 1, 2, 3, 4], [], [0, 1, 2, 3, 4, 5, 6]] [0, 1, 2, 3, 4, 5, 6, 7] [7] (by kernel_rfl) (by kernel_rfl) rfl <| .x rfl (bZ Tryz.underlying55 rfl sz55 rfl rfl rfl (rfl)) <| .x rfl (aZ (U := []) [] [] (dP (a ^ (1 + 1) % fp) 2 (rY _) (by decide)) Tryz.func116 (by kernel_rfl) rfl rfl rfl (⟨⟨_, rfl, rfl, rfl⟩, ⟨_, rfl, rfl, rfl⟩, trivial⟩) (trivial) (trivial) (trivial) rfl) <| .as (.agg64 (fl (a ^ ((1 + 1) * 2 ^ 2) % fp))) (congrArg (fun z => AV.agg64 (fl z)) (pw_pow a _ _)) <| .x rfl (bZ Tryz.underlying55 rfl sz55 rfl rfl rfl (rfl)) <| .x rfl (aZ (U := []) [] [] (rX _ _ (rY _) (rY _)) Tryz.func55 (by kernel_rfl) rfl rfl rfl (⟨⟨_, rfl, rfl, rfl⟩, ⟨_, rfl, rfl, rfl⟩, trivial⟩) (trivial) (trivial) (trivial) rfl) <| .as (.agg64 (fl (a ^ ((1 + 1) * 2 ^ 2 + (1 + 1)) % fp))) (congrArg (fun z => AV.agg64 (fl z)) (pI a _ _)) <| .x rfl (bZ Tryz.underlying55 rfl sz55 rfl rfl rfl (rfl)) <| .x rfl (aZ (U := []) [] [] (rX _ _ (rY _) ha) Tryz.func55 (by kernel_rfl) rfl rfl rfl (⟨⟨_, rfl, rfl, rfl⟩, ⟨_, rfl, rfl, rfl⟩, trivial⟩) (trivial) (trivial) (trivial) rfl) <| .as (.agg64 (fl (a ^ ((1 + 1) * 2 ^ 2 + (1 + 1) + 1) % fp))) (congrArg (fun z => AV.agg64 (fl z)) (pw_add1 a _)) <| .a rfl (dZ jY pZ rfl) trivial rfl rfl <| .w rfl (cZ sz55 rfl rfl rfl rfl rfl (rfl) (rfl)) trivial rfl rfl <| .nil <| .seq <| .drawn [[], [0], [0, 1], [], [0, 1, 2, 3], [0, 1, 2, 3, 4]] [0, 1, 2, 3, 4, 5] [5] (by kernel_rfl) (by kernel_rfl) rfl <| .x rfl (bZ Tryz.underlying55 rfl sz55 rfl rfl rfl (rfl)) <| .x rfl (aZ (U := []) [] [] (ones_gen a ha 250 (by decide) (by decide) e0 h0) Tryz.func117 (by kernel_rfl) rfl rfl rfl (⟨⟨_, rfl, rfl, rfl⟩, ⟨_, rfl, rfl, rfl⟩, trivial⟩) (trivial) (trivial) (trivial) rfl) <| .as (.agg64 (fl (a ^ e0 % fp))) rfl <| .x rfl (aZ (U := []) [] [] (dP (a ^ e0 % fp) 5 (rY _) (by decide)) Tryz.func116 (by kernel_rfl) rfl rfl rfl (⟨⟨_, rfl, rfl, rfl⟩, ⟨_, rfl, rfl, rfl⟩, trivial⟩) (trivial) (trivial) (trivial) rfl) <| .as (.agg64 (fl (a ^ e1 % fp))) (congrArg (fun z => AV.agg64 (fl z)) (pw_powE a _ _ _ h1)) <| .x rfl (bZ Tryz.underlying55 rfl sz55 rfl rfl rfl (rfl)) <| .x rfl (aZ (U := []) [] [] (rX _ _ (rY _) (rY _)) Tryz.func55 (by kernel_rfl) rfl rfl rfl (⟨⟨_, rfl, rfl, rfl⟩, ⟨_, rfl, rfl, rfl⟩, trivial⟩) (trivial) (trivial) (trivial) rfl) <| .as (.agg64 (fl (a ^ e2 % fp))) (congrArg (fun z => AV.agg64 (fl z)) (pw_addE a _ _ _ h2)) <| .w rfl (cZ sz55 rfl rfl rfl rfl rfl (rfl) (rfl)) trivial rfl rfl <| .nil <| .ret ?_
 exact yY rfl (.inl rfl) ⟨_, _, _, _, rfl, rfl, rfl, rfl, (rfl), Tryz.underlying55, rfl, sz55⟩ trivial
theorem finvert_ev (a : Nat) (ha : a < fp) : kZ Tryz.prog 81 [.agg64 (fl a)] [] (.agg64 (fl (a ^ (fp - 2) % fp))) [] := finvert_gen a ha _ _ _ rfl rfl inv_exp
end Go.Proofs.YtcnjekoidgefpaaGreatDoor
namespace Go.Proofs.YtcnjekoidgefpaaGreatDoor
theorem fpos : 0 < fp := by decide
def kb (K : List UInt8) (i : Nat) : Bool := decide ((K.getD (i / 8) 0).toNat / 2 ^ (i % 8) % 2 = 1)
def usL (K : List UInt8) : List UInt8 := (((K.set 0 (K.getD 0 0 &&& ~~~(UInt8.ofNat 7))).set 31 ((K.set 0 (K.getD 0 0 &&& ~~~(UInt8.ofNat 7))).getD 31 0 &&& ~~~(UInt8.ofNat 128)))).set 31 ((((K.set 0 (K.getD 0 0 &&& ~~~(UInt8.ofNat 7))).set 31 ((K.set 0 (K.getD 0 0 &&& ~~~(UInt8.ofNat 7))).getD 31 0 &&& ~~~(UInt8.ofNat 128)))).getD 31 0 ||| UInt8.ofNat 64)
theorem length_usL (K : List UInt8) : (usL K).length = K.length := by simp [usL]
theorem shr8_toNat (x : UInt8) (s : Nat) (hs : s < 8) : (x >>> UInt8.ofNat s).toNat = x.toNat / 2 ^ s := by
  rw [UInt8.toNat_shiftRight, Nat.shiftRight_eq_div_pow, UInt8.toNat_ofNat', Nat.mod_eq_of_lt (b := 2 ^ 8) (Nat.lt_trans hs (by decide)), Nat.mod_eq_of_lt (b := 8) hs]
theorem bit_prog (K : List UInt8) (i : Nat) : ((K.getD (i / 8) 0 >>> UInt8.ofNat (i % 8)) &&& UInt8.ofNat 1 == UInt8.ofNat 1) = kb K i := by
  unfold kb
  rw [Bool.eq_iff_iff, beq_iff_eq, decide_eq_true_eq, ← UInt8.toNat_inj, UInt8.toNat_and, show (UInt8.ofNat 1).toNat = 2 ^ 1 - 1 from rfl, Nat.and_two_pow_sub_one_eq_mod, shr8_toNat _ _ (Nat.mod_lt _ (by decide))]
end Go.Proofs.YtcnjekoidgefpaaGreatDoor
