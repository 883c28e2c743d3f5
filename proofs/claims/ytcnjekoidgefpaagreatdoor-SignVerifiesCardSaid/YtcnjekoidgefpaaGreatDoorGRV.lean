/-
  The reference numbers in digits of 16 bits, walked over abstract values.
-/
import Derived.Test.YtcnjekoidgefpaaGreatDoorGAV
namespace Go.Proofs.YtcnjekoidgefpaaGreatDoor
def dn : Nat → Nat → List Int
  | 0, _ => []
  | n + 1, v => ((v % 65536 : Nat) : Int) :: dn n (v / 65536)
theorem gY (n v : Nat) : (dn n v).length = n := by
  induction n generalizing v with
  | zero => rfl
  | succ n ih => simp [dn, ih]
theorem dn_get (n v i : Nat) (h : i < n) : (dn n v).getD i 0 = ((v / 65536 ^ i % 65536 : Nat) : Int) := by
  induction n generalizing v i with
  | zero => omega
  | succ n ih =>
    cases i with
    | zero => simp [dn]
    | succ i =>
      have := ih (v / 65536) i (by omega)
      simp only [dn, List.getD_cons_succ, this]
      rw [Nat.div_div_eq_div_mul, Nat.pow_succ, Nat.mul_comm (65536 ^ i)]
theorem rT (n v : Nat) : dn (n + 1) v = dn n v ++ [((v / 65536 ^ n % 65536 : Nat) : Int)] := by
  induction n generalizing v with
  | zero => simp [dn]
  | succ n ih =>
    rw [dn, ih (v / 65536)]
    simp only [dn, List.cons_append]
    rw [Nat.div_div_eq_div_mul, Nat.pow_succ, Nat.mul_comm (65536 ^ n)]
def dl (v : Nat) : Nat := if h : v = 0 then 0 else dl (v / 65536) + 1
termination_by v
decreasing_by omega
def dg (v : Nat) : List Int := dn (dl v) v
theorem fU : dl 0 = 0 := by rw [dl]; simp
theorem dl_pos {v : Nat} (h : v ≠ 0) : dl v = dl (v / 65536) + 1 := by rw [dl]; simp [h]
theorem dX (v : Nat) : (dg v).length = dl v := gY _ _
theorem bW (v : Nat) : v < 65536 ^ dl v := by
  induction v using Nat.strongRecOn with
  | _ v ih =>
    by_cases h : v = 0
    · subst h; rw [fU]; decide
    · have := ih (v / 65536) (by omega)
      rw [dl_pos h, Nat.pow_succ]
      omega
theorem qX {v n : Nat} (h : v < 65536 ^ n) : dl v ≤ n := by
  induction n generalizing v with
  | zero => have : v = 0 := by simpa using h
            subst this; rw [fU]; exact Nat.le_refl _
  | succ n ih =>
    by_cases h0 : v = 0
    · subst h0; rw [fU]; omega
    · rw [dl_pos h0]
      have := ih (v := v / 65536) (by rw [Nat.pow_succ] at h; omega)
      omega
theorem dl_ge {v n : Nat} (h : 65536 ^ n ≤ v) : n < dl v := by
  rcases Nat.lt_or_ge n (dl v) with h1 | h1
  · exact h1
  · have h2 := bW v
    have h3 := Nat.pow_le_pow_right (show 0 < 65536 by decide) h1
    omega
theorem dn_high {v i : Nat} (h : dl v ≤ i) : v / 65536 ^ i % 65536 = 0 := by
  have h1 := bW v
  have h2 := Nat.pow_le_pow_right (show 0 < 65536 by decide) h
  rw [Nat.div_eq_of_lt (by omega)]
theorem dn_take (n m v : Nat) (h : m ≤ n) : (dn n v).take m = dn m v := by
  induction m generalizing n v with
  | zero => simp [dn]
  | succ m ih =>
    obtain ⟨k, rfl⟩ : ∃ k, n = k + 1 := ⟨n - 1, by omega⟩
    simp only [dn, List.take_succ_cons]
    rw [ih k _ (by omega)]
def tl (l : List Int) (o : Nat) : Nat → Nat
  | 0 => 0
  | n + 1 => if l.getD (o + n) 0 = 0 then tl l o n else n + 1
theorem tl_zero (l : List Int) (o k : Nat) (hk : 0 < k) (h : l.getD (o + (k - 1)) 0 = 0) : tl l o (k - 1) = tl l o k := by
  obtain ⟨j, rfl⟩ : ∃ j, k = j + 1 := ⟨k - 1, by omega⟩
  rw [Nat.add_sub_cancel] at h
  rw [Nat.add_sub_cancel]; simp only [tl]; rw [if_pos h]
theorem tl_stop (l : List Int) (o k : Nat) (h : k = 0 ∨ ¬ l.getD (o + (k - 1)) 0 = 0) : tl l o k = k := by
  rcases h with rfl | h
  · rfl
  · cases k with
    | zero => rfl
    | succ j => rw [Nat.add_sub_cancel] at h; simp only [tl]; rw [if_neg h]
theorem tl_dn (n v k : Nat) (hk : k ≤ n) (h : v < 65536 ^ k) : tl (dn n v) 0 k = dl v := by
  induction k with
  | zero =>
    have : v = 0 := by simpa using h
    subst this; rw [fU]; rfl
  | succ k ih =>
    simp only [tl]
    rw [Nat.zero_add, dn_get _ _ _ (by omega)]
    have hq : v / 65536 ^ k < 65536 := by
      rw [Nat.div_lt_iff_lt_mul (Nat.pow_pos (by decide)), Nat.mul_comm, ← Nat.pow_succ]; exact h
    rw [Nat.mod_eq_of_lt hq]
    by_cases h0 : v / 65536 ^ k = 0
    · rw [if_pos (by rw [h0]; rfl)]
      refine ih (by omega) ?_
      rcases Nat.lt_or_ge v (65536 ^ k) with h1 | h1
      · exact h1
      · have := Nat.div_pos h1 (Nat.pow_pos (by decide)); omega
    · rw [if_neg (by omega)]
      have h1 : 65536 ^ k ≤ v := by
        rcases Nat.lt_or_ge v (65536 ^ k) with h1 | h1
        · rw [Nat.div_eq_of_lt h1] at h0; exact absurd rfl h0
        · exact h1
      have h2 := dl_ge h1
      have h3 := qX h
      omega
theorem div_pos_iff (x k : Nat) : 0 < x / 65536 ^ k ↔ k < dl x := by
  constructor
  · intro h
    rcases Nat.lt_or_ge x (65536 ^ k) with h1 | h1
    · rw [Nat.div_eq_of_lt h1] at h; omega
    · exact dl_ge h1
  · intro h
    rcases Nat.lt_or_ge x (65536 ^ k) with h1 | h1
    · have := qX h1; omega
    · exact Nat.div_pos h1 (Nat.pow_pos (by decide))
theorem add_div (a b n : Nat) : (a % 65536 ^ n + b % 65536 ^ n) / 65536 ^ n + a / 65536 ^ n % 65536 + b / 65536 ^ n % 65536 = ((a + b) / 65536 ^ n) % 65536 + 65536 * ((a % 65536 ^ (n + 1) + b % 65536 ^ (n + 1)) / 65536 ^ (n + 1)) := by
  have hp : 0 < 65536 ^ n := Nat.pow_pos (by decide)
  generalize hP : 65536 ^ n = P at *
  have e1 := Nat.div_add_mod a P
  have e2 := Nat.div_add_mod b P
  have hab : (a + b) / P = a / P + b / P + (a % P + b % P) / P := by
    have : a + b = (a % P + b % P) + P * (a / P + b / P) := by rw [Nat.mul_add]; omega
    rw [this, Nat.add_mul_div_left _ _ hp]; omega
  have hs : (a % (65536 ^ (n + 1)) + b % (65536 ^ (n + 1))) / 65536 ^ (n + 1) = (a / P % 65536 + b / P % 65536 + (a % P + b % P) / P) / 65536 := by
    rw [Nat.pow_succ, hP, Nat.mod_mul, Nat.mod_mul, ← Nat.div_div_eq_div_mul]
    congr 1
    have : a % P + P * (a / P % 65536) + (b % P + P * (b / P % 65536)) = (a % P + b % P) + P * (a / P % 65536 + b / P % 65536) := by rw [Nat.mul_add]; omega
    rw [this, Nat.add_mul_div_left _ _ hp]; omega
  rw [hs, hab]
  omega
def dk (v k : Nat) : Nat := v / 65536 ^ k % 65536
def ck (a b k : Nat) : Nat := (a % 65536 ^ k + b % 65536 ^ k) / 65536 ^ k
theorem qU (v k : Nat) : dk v k < 65536 := Nat.mod_lt _ (by decide)
theorem iM {v k : Nat} (h : dl v ≤ k) : dk v k = 0 := dn_high h
theorem aW (n v i : Nat) (h : i < n) : (dn n v).getD i 0 = (dk v i : Int) := dn_get n v i h
theorem tX (n v : Nat) : dn (n + 1) v = dn n v ++ [(dk v n : Int)] := rT n v
theorem ck_zero (a b : Nat) : ck a b 0 = 0 := by simp [ck, Nat.mod_one]
theorem add_step (a b k : Nat) : ck a b k + dk a k + dk b k = dk (a + b) k + 65536 * ck a b (k + 1) := add_div a b k
theorem ck_le (a b k : Nat) : ck a b k ≤ 1 := by
  unfold ck
  have hp : 0 < 65536 ^ k := Nat.pow_pos (by decide)
  have h1 := Nat.mod_lt a hp
  have h2 := Nat.mod_lt b hp
  have h3 : (a % 65536 ^ k + b % 65536 ^ k) / 65536 ^ k < 2 := by rw [Nat.div_lt_iff_lt_mul hp]; omega
  omega
theorem add_end {a b k : Nat} (h1 : dl a ≤ k) (h2 : dl b ≤ k) (h3 : ck a b k = 0) : a + b < 65536 ^ k := by
  have hp : 0 < 65536 ^ k := Nat.pow_pos (by decide)
  have e1 := Nat.lt_of_lt_of_le (bW a) (Nat.pow_le_pow_right (show 0 < 65536 by decide) h1)
  have e2 := Nat.lt_of_lt_of_le (bW b) (Nat.pow_le_pow_right (show 0 < 65536 by decide) h2)
  unfold ck at h3
  rw [Nat.mod_eq_of_lt e1, Nat.mod_eq_of_lt e2] at h3
  rcases Nat.lt_or_ge (a + b) (65536 ^ k) with h | h
  · exact h
  · have := Nat.div_pos h hp; omega
theorem ck_end {a b k : Nat} (h1 : dl a ≤ k) (h2 : dl b ≤ k) : ck a b (k + 1) = 0 := by
  have e1 := Nat.lt_of_lt_of_le (bW a) (Nat.pow_le_pow_right (show 0 < 65536 by decide) h1)
  have e2 := Nat.lt_of_lt_of_le (bW b) (Nat.pow_le_pow_right (show 0 < 65536 by decide) h2)
  have hp : 0 < 65536 ^ k := Nat.pow_pos (by decide)
  unfold ck
  rw [Nat.pow_succ]
  have h3 : a % (65536 ^ k * 65536) ≤ a := Nat.mod_le _ _
  have h4 : b % (65536 ^ k * 65536) ≤ b := Nat.mod_le _ _
  exact Nat.div_eq_of_lt (by omega)
theorem ck_prev {a b k : Nat} (h1 : dl a < k) (h2 : dl b < k) : ck a b k = 0 := by
  obtain ⟨j, rfl⟩ : ∃ j, k = j + 1 := ⟨k - 1, by omega⟩
  exact ck_end (by omega) (by omega)
end Go.Proofs.YtcnjekoidgefpaaGreatDoor
namespace Go.Proofs.YtcnjekoidgefpaaGreatDoor
def bsN (v : Nat) : Nat → List UInt8
  | 0 => []
  | i + 1 => bsN v i ++ [UInt8.ofNat (v / 256 ^ i % 256)]
theorem fY (v n : Nat) : (bsN v n).length = n := by induction n with | zero => rfl | succ n ih => simp [bsN, ih]
theorem dk_byte (v i : Nat) : (if i % 2 = 1 then dk v (i / 2) / 256 else dk v (i / 2)) % 256 = v / 256 ^ i % 256 := by
  have hpow : 65536 ^ (i / 2) = 256 ^ (2 * (i / 2)) := by rw [Nat.pow_mul]
  unfold dk
  by_cases h : i % 2 = 1
  · rw [if_pos h]
    have e : 256 ^ i = 65536 ^ (i / 2) * 256 := by rw [hpow, ← Nat.pow_succ]; congr 1; omega
    rw [e, ← Nat.div_div_eq_div_mul]
    generalize v / 65536 ^ (i / 2) = x
    omega
  · rw [if_neg h]
    have e : 256 ^ i = 65536 ^ (i / 2) := by rw [hpow]; congr 1; omega
    rw [e]
    generalize v / 65536 ^ (i / 2) = x
    omega
def bk (a b k : Nat) : Nat := if a % 65536 ^ k < b % 65536 ^ k then 1 else 0
theorem bk_zero (a b : Nat) : bk a b 0 = 0 := by simp [bk, Nat.mod_one]
theorem sub_step {a b : Nat} (h : b ≤ a) (k : Nat) : dk (a - b) k + dk b k + bk a b k = dk a k + 65536 * bk a b (k + 1) := by
  unfold dk bk
  have hp : 0 < 65536 ^ k := Nat.pow_pos (by decide)
  rw [Nat.pow_succ]
  generalize 65536 ^ k = P at *
  have e1 := Nat.div_add_mod a P
  have e2 := Nat.div_add_mod b P
  have m1 := Nat.mod_lt a hp
  have m2 := Nat.mod_lt b hp
  have ma : a % (P * 65536) = a % P + P * (a / P % 65536) := Nat.mod_mul
  have mb : b % (P * 65536) = b % P + P * (b / P % 65536) := Nat.mod_mul
  have hle : b / P ≤ a / P := Nat.div_le_div_right h
  have hd : (a - b) / P = a / P - b / P - (if a % P < b % P then 1 else 0) := by
    split
    · rename_i hlt
      have hne : b / P < a / P := by
        rcases Nat.lt_or_ge (b / P) (a / P) with h1 | h1
        · exact h1
        · have : a / P = b / P := by omega
          rw [this] at e1; omega
      have : a - b = (P + a % P - b % P) + P * (a / P - b / P - 1) := by
        rw [Nat.mul_sub, Nat.mul_sub, Nat.mul_one]
        have h3 : P * (b / P) + P ≤ P * (a / P) := by rw [← Nat.mul_succ]; exact Nat.mul_le_mul_left _ hne
        omega
      rw [this, Nat.add_mul_div_left _ _ hp, Nat.div_eq_of_lt (by omega)]; omega
    · rename_i hlt
      have : a - b = (a % P - b % P) + P * (a / P - b / P) := by
        rw [Nat.mul_sub]
        have h3 : P * (b / P) ≤ P * (a / P) := Nat.mul_le_mul_left _ hle
        omega
      rw [this, Nat.add_mul_div_left _ _ hp, Nat.div_eq_of_lt (by omega)]; omega
  rw [hd, ma, mb]
  have hle2 : (if a % P < b % P then 1 else 0) ≤ a / P - b / P := by
    split
    · rename_i hlt
      rcases Nat.lt_or_ge (b / P) (a / P) with h1 | h1
      · omega
      · have : a / P = b / P := by omega
        rw [this] at e1; omega
    · omega
  have hcmp : (a % P + P * (a / P % 65536) < b % P + P * (b / P % 65536)) ↔ (a / P % 65536 < b / P % 65536 + (if a % P < b % P then 1 else 0)) := by
    generalize a / P % 65536 = x
    generalize b / P % 65536 = y
    rcases Nat.lt_trichotomy x y with h1 | h1 | h1
    · have h2 : P * x + P ≤ P * y := by rw [← Nat.mul_succ]; exact Nat.mul_le_mul_left _ h1
      constructor
      · intro _; split <;> omega
      · intro _; omega
    · subst h1
      constructor
      · intro h2; rw [if_pos (by omega)]; omega
      · intro h2; split at h2 <;> omega
    · have h2 : P * y + P ≤ P * x := by rw [← Nat.mul_succ]; exact Nat.mul_le_mul_left _ h1
      constructor
      · intro h3; omega
      · intro h3; split at h3 <;> omega
  simp only [hcmp]
  have hc1 : (if a % P < b % P then 1 else 0 : Nat) ≤ 1 := by split <;> omega
  clear ma mb hd hcmp e1 e2 m1 m2
  generalize (if a % P < b % P then 1 else 0 : Nat) = c at *
  generalize a / P = A at *
  generalize b / P = D at *
  split <;> omega
theorem bk_le (a b k : Nat) : bk a b k ≤ 1 := by unfold bk; split <;> omega
theorem sub_lt {a b : Nat} : a - b < 65536 ^ dl a := Nat.lt_of_le_of_lt (Nat.sub_le _ _) (bW a)
theorem dl_pow (n : Nat) : dl (2 ^ n) = n / 16 + 1 := by
  have e : ∀ m, (65536 : Nat) ^ m = 2 ^ (16 * m) := fun m => by rw [Nat.pow_mul]
  have h1 : 2 ^ n < 65536 ^ (n / 16 + 1) := by rw [e]; exact Nat.pow_lt_pow_right (by decide) (by omega)
  have h2 : 65536 ^ (n / 16) ≤ 2 ^ n := by rw [e]; exact Nat.pow_le_pow_right (by decide) (by omega)
  have := qX h1
  have := dl_ge h2
  omega
theorem dg_pow (n : Nat) : (List.replicate (n / 16 + 1) (0 : Int)).set (n / 16) (1 * 2 ^ (n % 16)) = dg (2 ^ n) := by
  have e : ∀ m, (65536 : Nat) ^ m = 2 ^ (16 * m) := fun m => by rw [Nat.pow_mul]
  have hd : 2 ^ n / 65536 ^ (n / 16) = 2 ^ (n % 16) := by
    rw [e, Nat.pow_div (by omega) (by decide)]; congr 1; omega
  unfold dg
  rw [dl_pow, rT, hd]
  have hlt : 2 ^ (n % 16) < 65536 := Nat.pow_lt_pow_right (n := 16) (by decide) (by omega)
  rw [Nat.mod_eq_of_lt hlt]
  have hz : dn (n / 16) (2 ^ n) = List.replicate (n / 16) 0 := by
    apply List.ext_getElem (by simp [gY])
    intro i h1 h2
    have hi : i < n / 16 := by simpa using h2
    have h3 := dn_get (n / 16) (2 ^ n) i hi
    rw [List.getD_eq_getElem?_getD, List.getElem?_eq_getElem h1] at h3
    simp only [Option.getD_some] at h3
    rw [h3, List.getElem_replicate, e, Nat.pow_div (by omega) (by decide)]
    have : 2 ^ (n - 16 * i) % 65536 = 0 := by
      obtain ⟨k, hk⟩ : ∃ k, n - 16 * i = 16 + k := ⟨n - 16 * i - 16, by omega⟩
      rw [hk, Nat.pow_add]
      exact Nat.mul_mod_right _ _
    rw [this]; rfl
  rw [hz, List.replicate_succ', List.set_append_right _ _ (by simp)]
  simp
theorem half_step (a n k : Nat) : (dk a (n / 16 + k) + 65536 * dk a (n / 16 + k + 1)) / 2 ^ (n % 16) % 65536 = dk (a / 2 ^ n) k := by
  unfold dk
  have e : ∀ m, (65536 : Nat) ^ m = 2 ^ (16 * m) := fun m => by rw [Nat.pow_mul]
  have hs : (2 : Nat) ^ n * 65536 ^ k = 65536 ^ (n / 16 + k) * 2 ^ (n % 16) := by
    rw [e, e, ← Nat.pow_add, ← Nat.pow_add]; congr 1; omega
  have h1 : a / 2 ^ n / 65536 ^ k = a / 65536 ^ (n / 16 + k) / 2 ^ (n % 16) := by
    rw [Nat.div_div_eq_div_mul, hs, ← Nat.div_div_eq_div_mul]
  have h2 : a / 65536 ^ (n / 16 + k + 1) = a / 65536 ^ (n / 16 + k) / 65536 := by rw [Nat.pow_succ, ← Nat.div_div_eq_div_mul]
  rw [h1, h2]
  generalize a / 65536 ^ (n / 16 + k) = x
  have h3 : x % 65536 + 65536 * (x / 65536 % 65536) = x % 4294967296 := by omega
  rw [h3]
  have hm : n % 16 < 16 := Nat.mod_lt _ (by decide)
  generalize n % 16 = m at *
  have : ∀ m, m < 16 → x % 4294967296 / 2 ^ m % 65536 = x / 2 ^ m % 65536 := by
    intro m hm
    have hm2 : m = 0 ∨ m = 1 ∨ m = 2 ∨ m = 3 ∨ m = 4 ∨ m = 5 ∨ m = 6 ∨ m = 7 ∨ m = 8 ∨ m = 9 ∨ m = 10 ∨ m = 11 ∨ m = 12 ∨ m = 13 ∨ m = 14 ∨ m = 15 := by omega
    rcases hm2 with rfl | rfl | rfl | rfl | rfl | rfl | rfl | rfl | rfl | rfl | rfl | rfl | rfl | rfl | rfl | rfl <;> omega
  exact this m hm
theorem sO {a n : Nat} (h : dl a ≤ n / 16) : a / 2 ^ n = 0 := by
  have h1 := bW a
  have h2 : 65536 ^ dl a ≤ 2 ^ n := by rw [show (65536 : Nat) = 2 ^ 16 from rfl, ← Nat.pow_mul]; exact Nat.pow_le_pow_right (by decide) (by omega)
  exact Nat.div_eq_of_lt (by omega)
theorem half_lt (a n : Nat) : a / 2 ^ n < 65536 ^ (dl a - n / 16) ∨ dl a ≤ n / 16 := by
  rcases Nat.lt_or_ge (n / 16) (dl a) with h | h
  · left
    rw [Nat.div_lt_iff_lt_mul (Nat.pow_pos (by decide))]
    have h1 := bW a
    have h2 : 65536 ^ dl a ≤ 65536 ^ (dl a - n / 16) * 2 ^ n := by
      rw [show (65536 : Nat) = 2 ^ 16 from rfl, ← Nat.pow_mul, ← Nat.pow_mul, ← Nat.pow_add]; exact Nat.pow_le_pow_right (by decide) (by omega)
    omega
  · right; exact h
end Go.Proofs.YtcnjekoidgefpaaGreatDoor
