/-
  Texts of this claim.
-/
import Derived.Test.YtcnjekoidgefpaaGreatDoorGRV
import Derived.Test.YtcnjekoidgefpaaGreatDoorGPV
namespace Go.Proofs.YtcnjekoidgefpaaGreatDoor
def leN (s : List UInt8) : Nat → Nat
  | 0 => 0
  | i + 1 => leN s i + 256 ^ i * (s.getD i 0).toNat
theorem cU (s : List UInt8) (i : Nat) : leN s i < 256 ^ i := by
  induction i with
  | zero => simp [leN]
  | succ i ih =>
    have h := (s.getD i 0).toNat_lt
    simp only [leN, Nat.pow_succ]
    have h2 : 256 ^ i * (s.getD i 0).toNat ≤ 256 ^ i * 255 := Nat.mul_le_mul_left _ (by omega)
    omega
theorem pow_two (m : Nat) : (256 : Nat) ^ (2 * m) = 65536 ^ m := by rw [Nat.pow_mul]
theorem dn_low (m x d : Nat) : dn m (x + 65536 ^ m * d) = dn m x := by
  induction m generalizing x d with
  | zero => rfl
  | succ m ih =>
    simp only [dn]
    have e : x + 65536 ^ (m + 1) * d = x + 65536 * (65536 ^ m * d) := by rw [Nat.pow_succ, Nat.mul_comm (65536 ^ m), Nat.mul_assoc]
    rw [e, Nat.add_mul_mod_self_left, Nat.add_mul_div_left _ _ (by decide), ih]
theorem of_even (s : List UInt8) (m : Nat) : dn m (leN s (2 * m)) ++ [((s.getD (2 * m) 0).toNat : Int)] = dn (m + 1) (leN s (2 * m + 1)) := by
  have h1 := cU s (2 * m)
  have h2 := (s.getD (2 * m) 0).toNat_lt
  rw [pow_two] at h1
  rw [rT]
  simp only [leN, pow_two]
  rw [dn_low, Nat.add_mul_div_left _ _ (Nat.pow_pos (by decide)), Nat.div_eq_of_lt h1, Nat.zero_add, Nat.mod_eq_of_lt (by omega)]
theorem of_odd (s : List UInt8) (m : Nat) : (dn (m + 1) (leN s (2 * m + 1))).set m (((dn (m + 1) (leN s (2 * m + 1))).getD m 0) + 256 * ((s.getD (2 * m + 1) 0).toNat : Int)) = dn (m + 1) (leN s (2 * m + 2)) := by
  have h1 := cU s (2 * m + 1)
  have h2 := (s.getD (2 * m + 1) 0).toNat_lt
  rw [Nat.pow_succ, pow_two] at h1
  rw [dn_get _ _ _ (by omega)]
  have e : leN s (2 * m + 2) = leN s (2 * m + 1) + 65536 ^ m * (256 * (s.getD (2 * m + 1) 0).toNat) := by
    show leN s (2 * m + 1) + 256 ^ (2 * m + 1) * (s.getD (2 * m + 1) 0).toNat = _
    rw [Nat.pow_succ, pow_two, Nat.mul_assoc]
  rw [e, rT m (leN s (2 * m + 1)), rT m (leN s (2 * m + 1) + _), dn_low, List.set_append_right _ _ (by rw [gY]; omega), gY, Nat.sub_self]
  rw [Nat.add_mul_div_left _ _ (Nat.pow_pos (by decide))]
  have h3 : leN s (2 * m + 1) / 65536 ^ m < 256 := by rw [Nat.div_lt_iff_lt_mul (Nat.pow_pos (by decide))]; omega
  generalize leN s (2 * m + 1) / 65536 ^ m = y at *
  simp only [List.set_cons_zero]
  congr 2
  rw [Nat.mod_eq_of_lt (by omega), Nat.mod_eq_of_lt (by omega)]
  omega
theorem vR (s : List UInt8) (i : Nat) : leN s i < 65536 ^ ((i + 1) / 2) := by
  have h := cU s i
  have h2 : 256 ^ i ≤ 65536 ^ ((i + 1) / 2) := by rw [← pow_two]; exact Nat.pow_le_pow_right (by decide) (by omega)
  omega
def cmpN (a b : Nat) : Int := if a < b then -1 else if b < a then 1 else 0
theorem gQ {a b k : Nat} (h : a / 65536 ^ (k + 1) = b / 65536 ^ (k + 1)) (hd : dk a k < dk b k) : a < b := by
  rw [Nat.pow_succ, ← Nat.div_div_eq_div_mul, ← Nat.div_div_eq_div_mul] at h
  unfold dk at hd
  have : a / 65536 ^ k < b / 65536 ^ k := by
    generalize a / 65536 ^ k = x at *
    generalize b / 65536 ^ k = y at *
    omega
  rcases Nat.lt_or_ge a b with h1 | h1
  · exact h1
  · have := Nat.div_le_div_right (c := 65536 ^ k) h1; omega
theorem cmp_eq {a b k : Nat} (h : a / 65536 ^ (k + 1) = b / 65536 ^ (k + 1)) (hd : dk a k = dk b k) : a / 65536 ^ k = b / 65536 ^ k := by
  rw [Nat.pow_succ, ← Nat.div_div_eq_div_mul, ← Nat.div_div_eq_div_mul] at h
  unfold dk at hd
  generalize a / 65536 ^ k = x at *
  generalize b / 65536 ^ k = y at *
  omega
theorem dl_mono {a b : Nat} (h : a ≤ b) : dl a ≤ dl b := qX (Nat.lt_of_le_of_lt h (bW b))
theorem iQ {a b : Nat} (h : dl a < dl b) : a < b := by
  rcases Nat.lt_or_ge a b with h1 | h1
  · exact h1
  · have := dl_mono h1; omega
theorem lM {a b : Nat} (h : a < b) : cmpN a b = -1 := by unfold cmpN; rw [if_pos h]
theorem mM {a b : Nat} (h : b < a) : cmpN a b = 1 := by unfold cmpN; rw [if_neg (by omega), if_pos h]
theorem nM {a b : Nat} (h : a = b) : cmpN a b = 0 := by unfold cmpN; rw [if_neg (by omega), if_neg (by omega)]
theorem div_top {a : Nat} : a / 65536 ^ dl a = 0 := Nat.div_eq_of_lt (bW a)
end Go.Proofs.YtcnjekoidgefpaaGreatDoor
namespace Go.Proofs.YtcnjekoidgefpaaGreatDoor
def lb (x : List UInt64) (i : Nat) : Nat := (x.getD i 0).toNat
theorem fN (x : List UInt64) (i j : Nat) (v : UInt64) (h : i < x.length) : lb (x.set i v) j = if i = j then v.toNat else lb x j := by
  unfold lb
  rw [List.getD_eq_getElem?_getD, List.getElem?_set]
  by_cases e : i = j
  · rw [if_pos e, if_pos e, if_pos h]; rfl
  · rw [if_neg e, if_neg e, List.getD_eq_getElem?_getD]
theorem add_noov (a b : UInt64) (h : a.toNat + b.toNat < 18446744073709551616) : (a + b).toNat = a.toNat + b.toNat := by
  rw [UInt64.toNat_add]; exact Nat.mod_eq_of_lt h
end Go.Proofs.YtcnjekoidgefpaaGreatDoor
namespace Go.Proofs.YtcnjekoidgefpaaGreatDoor
theorem or_add64 (a b : UInt64) (k : Nat) (ha : a.toNat < 2 ^ k) (hb : 2 ^ k ∣ b.toNat) : (a ||| b).toNat = a.toNat + b.toNat := by
  obtain ⟨c, hc⟩ := hb
  rw [UInt64.toNat_or, hc, Nat.or_comm, ← Nat.two_pow_add_eq_or_of_lt ha, Nat.add_comm]
theorem shl_toNat (x : UInt64) (s : Nat) (hs : s < 64) : (x <<< UInt64.ofNat s).toNat = x.toNat * 2 ^ s % 2 ^ 64 := by
  rw [UInt64.toNat_shiftLeft, Nat.shiftLeft_eq, UInt64.toNat_ofNat', Nat.mod_eq_of_lt (b := 2 ^ 64) (Nat.lt_trans hs (by decide)), Nat.mod_eq_of_lt (b := 64) hs]
theorem rS (x : UInt64) (s : Nat) (hs : s < 64) : (x >>> UInt64.ofNat s).toNat = x.toNat / 2 ^ s := by
  rw [UInt64.toNat_shiftRight, Nat.shiftRight_eq_div_pow, UInt64.toNat_ofNat', Nat.mod_eq_of_lt (b := 2 ^ 64) (Nat.lt_trans hs (by decide)), Nat.mod_eq_of_lt (b := 64) hs]
theorem pO (b : List UInt8) (n : Nat) (hn : n ≤ 8) : (rwN b n).toNat = leN b n := by
  induction n with
  | zero => rfl
  | succ n ih =>
    have h := (b.getD n 0).toNat_lt
    have ih := ih (by omega)
    have h1 := cU b n
    have e : (256 : Nat) ^ n = 2 ^ (8 * n) := by rw [Nat.pow_mul]
    have hs : ((b.getD n 0).toUInt64 <<< UInt64.ofNat (8 * n)).toNat = 2 ^ (8 * n) * (b.getD n 0).toNat := by
      rw [shl_toNat _ _ (by omega), UInt8.toNat_toUInt64, Nat.mul_comm]
      refine Nat.mod_eq_of_lt ?_
      have : 2 ^ (8 * n) * (b.getD n 0).toNat < 2 ^ (8 * n) * 2 ^ 8 := Nat.mul_lt_mul_of_pos_left h (Nat.pow_pos (by decide))
      rw [← Nat.pow_add] at this
      exact Nat.lt_of_lt_of_le this (Nat.pow_le_pow_right (by decide) (by omega))
    simp only [rwN, leN]
    rw [or_add64 _ _ (8 * n) (by rw [ih, ← e]; exact h1) ⟨_, hs⟩, hs, ih, e]
theorem getD_drop0 (b : List UInt8) (o i : Nat) : (b.drop o).getD i 0 = b.getD (o + i) 0 := by
  simp [List.getD_eq_getElem?_getD, List.getElem?_drop]
theorem lS (b : List UInt8) (o n : Nat) : leN b (o + n) = leN b o + 256 ^ o * leN (b.drop o) n := by
  induction n with
  | zero => simp [leN]
  | succ n ih =>
    rw [← Nat.add_assoc]
    simp only [leN]
    rw [ih, getD_drop0, Nat.mul_add, Nat.pow_add, Nat.mul_assoc, Nat.add_assoc]
theorem uS (a b : List UInt8) (n : Nat) (h : ∀ i, i < n → a.getD i 0 = b.getD i 0) : leN a n = leN b n := by
  induction n with
  | zero => rfl
  | succ n ih => simp only [leN]; rw [ih (fun i hi => h i (by omega)), h n (by omega)]
theorem leN_over (b : List UInt8) (n m : Nat) (h : b.length ≤ n) : leN b (n + m) = leN b n := by
  rw [lS]
  have : leN (b.drop n) m = 0 := by
    rw [List.drop_eq_nil_of_le h]
    induction m with
    | zero => rfl
    | succ m ih => simp only [leN]; rw [ih]; simp
  rw [this]; simp
theorem cO (a b : UInt64) (h : a.toNat * b.toNat < 18446744073709551616) : (a * b).toNat = a.toNat * b.toNat := by
  rw [UInt64.toNat_mul]; exact Nat.mod_eq_of_lt h
theorem byte_of (x : UInt64) (n : Nat) (hn : n < 8) : (x >>> UInt64.ofNat (8 * n)).toUInt8 = UInt8.ofNat (x.toNat / 256 ^ n % 256) := by
  refine UInt8.toNat_inj.1 ?_
  have e : (2 : Nat) ^ (8 * n) = 256 ^ n := by rw [Nat.pow_mul]
  rw [UInt64.toNat_toUInt8, rS _ _ (by omega), UInt8.toNat_ofNat', e]
  generalize x.toNat / 256 ^ n = y
  omega
theorem pw_get (l : List UInt8) (o : Nat) (x : UInt64) (n : Nat) (hn : n ≤ 8) (h : o + n ≤ l.length) (i : Nat) : (pwN l o x n).getD i 0 = if o ≤ i ∧ i < o + n then UInt8.ofNat (x.toNat / 256 ^ (i - o) % 256) else l.getD i 0 := by
  induction n with
  | zero => rw [if_neg (by omega)]; rfl
  | succ n ih =>
    simp only [pwN]
    rw [List.getD_eq_getElem?_getD, List.getElem?_set]
    by_cases e : o + n = i
    · rw [if_pos e, if_pos (by rw [kP]; omega), if_pos (by omega), byte_of _ _ (by omega)]
      rw [show i - o = n by omega]; rfl
    · rw [if_neg e, ← List.getD_eq_getElem?_getD, ih (by omega) (by omega)]
      by_cases h2 : o ≤ i ∧ i < o + n
      · rw [if_pos h2, if_pos (by omega)]
      · rw [if_neg h2, if_neg (by omega)]
theorem bs_get (v n i : Nat) (h : i < n) : (bsN v n).getD i 0 = UInt8.ofNat (v / 256 ^ i % 256) := by
  induction n with
  | zero => omega
  | succ n ih =>
    simp only [bsN]
    rw [List.getD_eq_getElem?_getD]
    by_cases e : i < n
    · rw [List.getElem?_append_left (by rw [fY]; exact e), ← List.getD_eq_getElem?_getD, ih e]
    · have : i = n := by omega
      subst this
      rw [List.getElem?_append_right (by rw [fY]; omega), fY, Nat.sub_self]; rfl
theorem ext_getD (a b : List UInt8) (h : a.length = b.length) (he : ∀ i, i < a.length → a.getD i 0 = b.getD i 0) : a = b := by
  refine List.ext_getElem? fun i => ?_
  by_cases hi : i < a.length
  · have := he i hi
    rw [List.getD_eq_getElem?_getD, List.getD_eq_getElem?_getD, List.getElem?_eq_getElem hi, List.getElem?_eq_getElem (by omega)] at this
    rw [List.getElem?_eq_getElem hi, List.getElem?_eq_getElem (by omega)]
    simpa using this
  · rw [List.getElem?_eq_none (by omega), List.getElem?_eq_none (by omega)]
theorem low_byte (a w i : Nat) (h : i < 8) : (a + 2 ^ 64 * w) / 256 ^ i % 256 = a / 256 ^ i % 256 := by
  have e : 2 ^ 64 * w = 256 ^ i * (256 * (256 ^ (7 - i) * w)) := by
    rw [← Nat.mul_assoc, ← Nat.mul_assoc, Nat.mul_assoc (256 ^ i), ← Nat.pow_succ', ← Nat.pow_add, show i + (7 - i + 1) = 8 by omega]
  rw [e, Nat.add_mul_div_left _ _ (Nat.pow_pos (by decide)), Nat.add_mul_mod_self_left]
theorem getD_over (l : List UInt8) (i : Nat) (h : l.length ≤ i) : l.getD i 0 = 0 := by
  rw [List.getD_eq_getElem?_getD, List.getElem?_eq_none h]; rfl
theorem getD_app (l z : List UInt8) (i : Nat) : (l ++ z).getD i 0 = if i < l.length then l.getD i 0 else z.getD (i - l.length) 0 := by
  by_cases h : i < l.length
  · rw [if_pos h, List.getD_eq_getElem?_getD, List.getElem?_append_left h, ← List.getD_eq_getElem?_getD]
  · rw [if_neg h, List.getD_eq_getElem?_getD, List.getElem?_append_right (by omega), ← List.getD_eq_getElem?_getD]
end Go.Proofs.YtcnjekoidgefpaaGreatDoor
