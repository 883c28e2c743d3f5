/-
  The scalars of the program, walked.
-/
import Derived.Test.YtmnhifagkcmhjaaDoorGF
namespace Go.Proofs.YtmnhifagkcmhjaaDoor
def scL : Nat := 7237005577332262213973186563042994240857116359379907606001950938285454250989
theorem scL_eq : scL = 2 ^ 252 + 27742317777372353535851937790883648493 := by decide +kernel
theorem scL_pos : 0 < scL := by decide
def orderL : List UInt64 := [UInt64.ofNat 6346243789798364141, UInt64.ofNat 1503914060200516822, UInt64.ofNat 0, UInt64.ofNat 1152921504606846976]
/-- x - L, with the borrow. -/
def moN (x : List UInt64) : Nat → List UInt64 × UInt64
  | 0 => (x, UInt64.ofNat 0)
  | n + 1 => ((moN x n).1.set n ((moN x n).1.getD n 0 - orderL.getD n 0 - (moN x n).2), borW ((moN x n).1.getD n 0) (orderL.getD n 0) (moN x n).2)
theorem length_moN (x : List UInt64) (n : Nat) : (moN x n).1.length = x.length := by induction n with | zero => rfl | succ n ih => simp [moN, ih]
theorem moN_borrow (x : List UInt64) (n : Nat) : (moN x n).2.toNat ≤ 1 := by
  induction n with
  | zero => exact Nat.zero_le _
  | succ n ih => simp only [moN]; exact (dif3 _ _ _ ih).2
theorem mo_vl (x : List UInt64) (hx : x.length = 4) : vl (moN x 4).1 + scL = vl x + 115792089237316195423570985008687907853269984665640564039457584007913129639936 * (moN x 4).2.toNat := by
  obtain ⟨x0, x1, x2, x3, rfl⟩ := list4 x hx
  obtain ⟨p0, h0⟩ : ∃ p, p = UInt64.ofNat 6346243789798364141 := ⟨_, rfl⟩
  obtain ⟨p1, h1⟩ : ∃ p, p = UInt64.ofNat 1503914060200516822 := ⟨_, rfl⟩
  obtain ⟨p2, h2⟩ : ∃ p, p = UInt64.ofNat 0 := ⟨_, rfl⟩
  obtain ⟨p3, h3⟩ : ∃ p, p = UInt64.ofNat 1152921504606846976 := ⟨_, rfl⟩
  obtain ⟨c0, hc⟩ : ∃ p, p = UInt64.ofNat 0 := ⟨_, rfl⟩
  have hp : orderL = [p0, p1, p2, p3] := by rw [h0, h1, h2, h3]; rfl
  have q0 : p0.toNat = 6346243789798364141 := by rw [h0]; rfl
  have q1 : p1.toNat = 1503914060200516822 := by rw [h1]; rfl
  have q2 : p2.toNat = 0 := by rw [h2]; rfl
  have q3 : p3.toNat = 1152921504606846976 := by rw [h3]; rfl
  have qc : c0.toNat = 0 := by rw [hc]; rfl
  obtain ⟨d0, e0⟩ : ∃ d, d = x0 - p0 - c0 := ⟨_, rfl⟩
  obtain ⟨b0, f0⟩ : ∃ d, d = borW x0 p0 c0 := ⟨_, rfl⟩
  obtain ⟨d1, e1⟩ : ∃ d, d = x1 - p1 - b0 := ⟨_, rfl⟩
  obtain ⟨b1, f1⟩ : ∃ d, d = borW x1 p1 b0 := ⟨_, rfl⟩
  obtain ⟨d2, e2⟩ : ∃ d, d = x2 - p2 - b1 := ⟨_, rfl⟩
  obtain ⟨b2, f2⟩ : ∃ d, d = borW x2 p2 b1 := ⟨_, rfl⟩
  obtain ⟨d3, e3⟩ : ∃ d, d = x3 - p3 - b2 := ⟨_, rfl⟩
  obtain ⟨b3, f3⟩ : ∃ d, d = borW x3 p3 b2 := ⟨_, rfl⟩
  have e : moN [x0, x1, x2, x3] 4 = ([d0, d1, d2, d3], b3) := by
    simp only [moN, hp, ← hc, List.set_cons_zero, List.set_cons_succ, List.getD_cons_zero, List.getD_cons_succ]
    simp only [← e0, ← f0, ← e1, ← f1, ← e2, ← f2, ← e3, ← f3]
  rw [e]
  obtain ⟨s0, t0⟩ := dif3 x0 p0 c0 (by rw [qc]; omega)
  rw [← e0, ← f0] at s0; rw [← f0] at t0
  obtain ⟨s1, t1⟩ := dif3 x1 p1 b0 t0
  rw [← e1, ← f1] at s1; rw [← f1] at t1
  obtain ⟨s2, t2⟩ := dif3 x2 p2 b1 t1
  rw [← e2, ← f2] at s2; rw [← f2] at t2
  obtain ⟨s3, t3⟩ := dif3 x3 p3 b2 t2
  rw [← e3, ← f3] at s3; rw [← f3] at t3
  clear e e0 e1 e2 e3 f0 f1 f2 f3 hp h0 h1 h2 h3 hc
  unfold vl scL
  simp only [lbs]
  rw [q0, qc] at s0; rw [q1] at s1; rw [q2] at s2; rw [q3] at s3
  omega
theorem mo_fl (a : Nat) (ha : a < 115792089237316195423570985008687907853269984665640564039457584007913129639936) : (moN (fl a) 4).1 = fl ((a + (115792089237316195423570985008687907853269984665640564039457584007913129639936 - scL)) % 115792089237316195423570985008687907853269984665640564039457584007913129639936) ∧ (moN (fl a) 4).2 = UInt64.ofNat (if a < scL then 1 else 0) := by
  have h := mo_vl (fl a) rfl
  rw [vl_fl a ha] at h
  have hb := moN_borrow (fl a) 4
  have hv := vl_lt (moN (fl a) 4).1
  constructor
  · refine fl_of _ _ (by rw [length_moN]; rfl) ?_
    unfold scL at *
    omega
  · apply UInt64.toNat_inj.1
    by_cases c : a < scL
    · rw [if_pos c, show (UInt64.ofNat 1).toNat = 1 from rfl]; unfold scL at *; omega
    · rw [if_neg c, zero64]; unfold scL at *; omega
/-- x, or x - L. -/
theorem lo_fl (a : Nat) (ha : a < 2 * scL) : selN (0 - UInt64.ofNat (if a < scL then 1 else 0)) (fl a) (fl ((a + (115792089237316195423570985008687907853269984665640564039457584007913129639936 - scL)) % 115792089237316195423570985008687907853269984665640564039457584007913129639936)) 4 = fl (a % scL) := by
  by_cases c : a < scL
  · rw [if_pos c, show (0 : UInt64) - UInt64.ofNat 1 = UInt64.ofNat 18446744073709551615 from rfl, sel_ones _ _ rfl rfl, Nat.mod_eq_of_lt c]
  · rw [if_neg c, show (0 : UInt64) - UInt64.ofNat 0 = UInt64.ofNat 0 from rfl, sel_zeros _ _ rfl rfl]
    refine congrArg fl ?_
    have : a % scL = a - scL := by rw [Nat.mod_eq_sub_mod (by omega), Nat.mod_eq_of_lt (by omega)]
    rw [this]
    unfold scL at *
    omega
/-- Twice x, and a bit. -/
def tpN (x : List UInt64) (b : UInt64) : Nat → List UInt64 × UInt64
  | 0 => (x, b)
  | n + 1 => ((tpN x b n).1.set n (((tpN x b n).1.getD n 0 <<< UInt64.ofNat 1) ||| (tpN x b n).2), (tpN x b n).1.getD n 0 >>> UInt64.ofNat 63)
theorem length_tpN (x : List UInt64) (b : UInt64) (n : Nat) : (tpN x b n).1.length = x.length := by induction n with | zero => rfl | succ n ih => simp [tpN, ih]
theorem shl_or (x b : UInt64) (hb : b.toNat ≤ 1) : ((x <<< UInt64.ofNat 1) ||| b).toNat + 18446744073709551616 * (x >>> UInt64.ofNat 63).toNat = 2 * x.toNat + b.toNat ∧ (x >>> UInt64.ofNat 63).toNat ≤ 1 := by
  have hx := x.toNat_lt
  have e1 : (x >>> UInt64.ofNat 63).toNat = x.toNat / 9223372036854775808 := by rw [shr_toNat x 63 (by decide)]
  have e2 : ((x <<< UInt64.ofNat 1) ||| b).toNat = 2 * x.toNat % 18446744073709551616 + b.toNat := by
    rw [UInt64.toNat_or, UInt64.toNat_shiftLeft, show (UInt64.ofNat 1).toNat % 64 = 1 from rfl, Nat.shiftLeft_eq, Nat.pow_one, Nat.mul_comm x.toNat 2, show (2 : Nat) ^ 64 = 18446744073709551616 from rfl]
    have h2 : 2 * x.toNat % 18446744073709551616 = 2 ^ 1 * (x.toNat % 9223372036854775808) := by omega
    rw [h2, ← Nat.two_pow_add_eq_or_of_lt (i := 1) (by omega)]
  rw [e1, e2]
  omega
theorem tp_fl (a : Nat) (b : UInt64) (hb : b.toNat ≤ 1) (ha : 2 * a + 1 < 115792089237316195423570985008687907853269984665640564039457584007913129639936) : (tpN (fl a) b 4).1 = fl (2 * a + b.toNat) := by
  refine fl_of _ _ (by rw [length_tpN]; rfl) ?_
  have hv := vl_fl a (by omega)
  obtain ⟨x0, x1, x2, x3, hx⟩ := list4 (fl a) rfl
  rw [hx] at hv ⊢
  have e : (tpN [x0, x1, x2, x3] b 4).1 = [(x0 <<< UInt64.ofNat 1) ||| b, (x1 <<< UInt64.ofNat 1) ||| (x0 >>> UInt64.ofNat 63), (x2 <<< UInt64.ofNat 1) ||| (x1 >>> UInt64.ofNat 63), (x3 <<< UInt64.ofNat 1) ||| (x2 >>> UInt64.ofNat 63)] := by
    simp only [tpN, List.set_cons_zero, List.set_cons_succ, List.getD_cons_zero, List.getD_cons_succ]
  rw [e]
  obtain ⟨s0, t0⟩ := shl_or x0 b hb
  obtain ⟨s1, t1⟩ := shl_or x1 _ t0
  obtain ⟨s2, t2⟩ := shl_or x2 _ t1
  obtain ⟨s3, t3⟩ := shl_or x3 _ t2
  unfold vl at hv ⊢
  simp only [lbs] at hv ⊢
  omega
/-- The limbs of a wide number. -/
def wl (n : Nat) : List UInt64 := fl n ++ fl (n / 115792089237316195423570985008687907853269984665640564039457584007913129639936)
theorem length_wl (n : Nat) : (wl n).length = 8 := rfl
theorem wl_get (n k : Nat) (h : k < 8) : (wl n).getD k 0 = UInt64.ofNat (n / 18446744073709551616 ^ k) := by
  match k, h with
  | 0, _ => show UInt64.ofNat n = _; rw [Nat.pow_zero, Nat.div_one]
  | 1, _ => show UInt64.ofNat (n / 18446744073709551616) = _; rw [Nat.pow_one]
  | 2, _ => rfl
  | 3, _ => rfl
  | 4, _ => rfl
  | 5, _ => show UInt64.ofNat (n / 115792089237316195423570985008687907853269984665640564039457584007913129639936 / 18446744073709551616) = _; rw [Nat.div_div_eq_div_mul]
  | 6, _ => show UInt64.ofNat (n / 115792089237316195423570985008687907853269984665640564039457584007913129639936 / 340282366920938463463374607431768211456) = _; rw [Nat.div_div_eq_div_mul]
  | 7, _ => show UInt64.ofNat (n / 115792089237316195423570985008687907853269984665640564039457584007913129639936 / 6277101735386680763835789423207666416102355444464034512896) = _; rw [Nat.div_div_eq_div_mul]
  | k + 8, h => omega
theorem wl_bit (n k : Nat) (h : k < 512) : ((wl n).getD (k / 64) 0 >>> UInt64.ofNat (k % 64)) &&& UInt64.ofNat 1 = UInt64.ofNat (n / 2 ^ k % 2) := by
  rw [wl_get _ _ (by omega)]
  apply UInt64.toNat_inj.1
  rw [UInt64.toNat_and, show (UInt64.ofNat 1).toNat = 2 ^ 1 - 1 from rfl, Nat.and_two_pow_sub_one_eq_mod, shr_toNat _ _ (Nat.mod_lt _ (by decide)), ofNat_64, ofNat_64, Nat.pow_one]
  have e : n / 2 ^ k = n / 18446744073709551616 ^ (k / 64) / 2 ^ (k % 64) := by
    rw [Nat.div_div_eq_div_mul, show (18446744073709551616 : Nat) = 2 ^ 64 from rfl, ← Nat.pow_mul, ← Nat.pow_add, Nat.div_add_mod]
  rw [e]
  have h2 : ∀ m j : Nat, j < 64 → m % 18446744073709551616 / 2 ^ j % 2 = m / 2 ^ j % 2 := fun m j hj => by
    have e1 : (18446744073709551616 : Nat) = 2 ^ j * 2 ^ (64 - j) := by rw [← Nat.pow_add, Nat.add_sub_cancel' (by omega)]
    have e2 : (2 : Nat) ^ (64 - j) = 2 * 2 ^ (63 - j) := by rw [← Nat.pow_succ', show (63 - j).succ = 64 - j by omega]
    rw [e1, Nat.mod_mul_right_div_self, e2, Nat.mod_mul_right_mod]
  rw [h2 _ _ (Nat.mod_lt _ (by decide)), Nat.mod_eq_of_lt (show n / 18446744073709551616 ^ (k / 64) / 2 ^ (k % 64) % 2 < 18446744073709551616 by omega)]
/-- The remainder, bit by bit. -/
def rdN (x : Nat) : Nat → Nat
  | 0 => 0
  | i + 1 => (2 * rdN x i + x / 2 ^ (511 - i) % 2) % scL
theorem rdN_lt (x i : Nat) : rdN x i < scL := by
  cases i with
  | zero => exact scL_pos
  | succ i => exact Nat.mod_lt _ scL_pos
theorem rdN_eq (x : Nat) (i N : Nat) (hN : N = 512) (hx : x < 2 ^ N) (hi : i ≤ N) : rdN x i = x / 2 ^ (N - i) % scL := by
  induction i with
  | zero => rw [Nat.sub_zero, Nat.div_eq_of_lt hx, Nat.zero_mod]; rfl
  | succ i ih =>
    have e0 : 511 - i = N - (i + 1) := by omega
    simp only [rdN]
    rw [ih (by omega), e0]
    have e : x / 2 ^ (N - (i + 1)) = 2 * (x / 2 ^ (N - i)) + x / 2 ^ (N - (i + 1)) % 2 := by
      have : x / 2 ^ (N - i) = x / 2 ^ (N - (i + 1)) / 2 := by rw [Nat.div_div_eq_div_mul, ← Nat.pow_succ, show (N - (i + 1)).succ = N - i by omega]
      omega
    rw [Nat.add_mod, Nat.mul_mod_mod, ← Nat.add_mod, ← e]
theorem rdN_all (x N : Nat) (hN : N = 512) (hx : x < 2 ^ N) : rdN x N = x % scL := by rw [rdN_eq x N N hN hx (Nat.le_refl _), Nat.sub_self, Nat.pow_zero, Nat.div_one]
theorem pow_gen (a b c N : Nat) (h : N = a * b) (hc : 2 ^ a = c) : c ^ b = 2 ^ N := by rw [h, Nat.pow_mul, hc]
theorem pow_512 (N : Nat) (h : N = 512) : (256 : Nat) ^ 64 = 2 ^ N := pow_gen 8 64 256 N h rfl
theorem rdN_end (x : Nat) (hx : x < 256 ^ 64) : rdN x 512 = x % scL := rdN_all x 512 rfl (by rw [← pow_512 512 rfl]; exact hx)
/-- x times y, plus z. -/
def psO (a b z : List UInt64) : Nat → List UInt64
  | 0 => z ++ List.replicate 4 0
  | i + 1 => (mulI a b i (psO a b z i) 4).1.set (i + 4) (mulI a b i (psO a b z i) 4).2
theorem length_psO (a b z : List UInt64) (hz : z.length = 4) (n : Nat) : (psO a b z n).length = 8 := by induction n with | zero => simp [psO, hz] | succ n ih => simp [psO, length_mulI, ih]
theorem psO_spec (a b z : List UInt64) (hz : z.length = 4) (i : Nat) (hi : i ≤ 4) : vn (psO a b z i) 8 = vn a i * vn b 4 + vn z 4 ∧ ∀ k, i + 4 ≤ k → lb (psO a b z i) k = 0 := by
  induction i with
  | zero =>
    obtain ⟨z0, z1, z2, z3, rfl⟩ := list4 z hz
    refine ⟨by simp [psO, vn, lb], fun k hk => ?_⟩
    unfold psO lb
    rw [List.getD_eq_getElem?_getD, List.getElem?_append_right (by simp; omega), List.getElem?_replicate]
    split <;> rfl
  | succ i ih =>
    obtain ⟨h1, h2⟩ := ih (by omega)
    have hl := length_psO a b z hz i
    obtain ⟨g1, g2⟩ := mulI_spec a b i (psO a b z i) hl 4 (by omega)
    have hl2 := length_mulI a b i (psO a b z i) 4
    refine ⟨?_, fun k hk => ?_⟩
    · have hv := vn_set (mulI a b i (psO a b z i) 4).1 (i + 4) (mulI a b i (psO a b z i) 4).2 8 (by omega) (by omega)
      rw [g2 (i + 4) (Nat.le_refl _), h2 (i + 4) (Nat.le_refl _)] at hv
      simp only [psO]
      rw [show vn a (i + 1) = vn a i + 18446744073709551616 ^ i * lb a i from rfl, Nat.add_mul, Nat.mul_assoc]
      omega
    · simp only [psO]
      rw [lb_set _ _ _ _ (by omega), if_neg (by omega), g2 k (by omega), h2 k (by omega)]
theorem list8 {α : Type} (x : List α) (h : x.length = 8) : ∃ a b c d e f g i, x = [a, b, c, d, e, f, g, i] := by
  match x, h with
  | [a, b, c, d, e, f, g, i], _ => exact ⟨a, b, c, d, e, f, g, i, rfl⟩
theorem wl_of (x : List UInt64) (h : x.length = 8) : x = wl (vn x 8) := by
  obtain ⟨a, b, c, d, e, f, g, i, rfl⟩ := list8 x h
  have h1 : vn [a, b, c, d, e, f, g, i] 8 = vl [a, b, c, d] + 115792089237316195423570985008687907853269984665640564039457584007913129639936 * vl [e, f, g, i] := by
    simp only [vn, vl, lb, List.getD_cons_zero, List.getD_cons_succ]; omega
  have h2 := vl_lt [a, b, c, d]
  have h3 := fl_vl [a, b, c, d] rfl
  have h4 := fl_vl [e, f, g, i] rfl
  have e1 : fl (vn [a, b, c, d, e, f, g, i] 8) = fl (vl [a, b, c, d]) := by
    rw [h1]
    generalize vl [e, f, g, i] = q at *
    generalize vl [a, b, c, d] = r at *
    unfold fl
    congr 1
    · apply UInt64.toNat_inj.1; rw [ofNat_64, ofNat_64]; omega
    congr 1
    · apply UInt64.toNat_inj.1; rw [ofNat_64, ofNat_64]; omega
    congr 1
    · apply UInt64.toNat_inj.1; rw [ofNat_64, ofNat_64]; omega
    congr 1
    · apply UInt64.toNat_inj.1; rw [ofNat_64, ofNat_64]; omega
  have e2 : vn [a, b, c, d, e, f, g, i] 8 / 115792089237316195423570985008687907853269984665640564039457584007913129639936 = vl [e, f, g, i] := by rw [h1]; omega
  unfold wl
  rw [e1, e2, h3, h4]
  rfl
theorem ps_fl (a b z : Nat) (ha : a < 115792089237316195423570985008687907853269984665640564039457584007913129639936) (hb : b < 115792089237316195423570985008687907853269984665640564039457584007913129639936) (hz : z < 115792089237316195423570985008687907853269984665640564039457584007913129639936) : psO (fl a) (fl b) (fl z) 4 = wl (a * b + z) := by
  have h := (psO_spec (fl a) (fl b) (fl z) rfl 4 (Nat.le_refl _)).1
  rw [vn4, vn4, vn4, vl_fl a ha, vl_fl b hb, vl_fl z hz] at h
  rw [← h]
  exact wl_of _ (length_psO _ _ _ rfl _)
/-- The limbs of 64 bytes. -/
def owN (b : List UInt8) : Nat → List UInt64
  | 0 => List.replicate 8 0
  | i + 1 => (owN b i).set i (rwN (b.drop (8 * i)) 8)
theorem length_owN (b : List UInt8) (n : Nat) : (owN b n).length = 8 := by induction n with | zero => rfl | succ n ih => simp [owN, ih]
def pad64 (s : List UInt8) : List UInt8 := s.take 64 ++ List.replicate (64 - min s.length 64) 0
theorem length_pad64 (s : List UInt8) : (pad64 s).length = 64 := by unfold pad64; simp; omega
theorem leN_pad64 (s : List UInt8) : leN (pad64 s) 64 = leN s 64 := by
  refine leN_congr _ _ _ fun i hi => ?_
  unfold pad64
  rw [getD_app]
  by_cases c : i < (s.take 64).length
  · rw [if_pos c]
    simp only [List.length_take] at c
    rw [List.getD_eq_getElem?_getD, List.getElem?_take, if_pos (by omega), ← List.getD_eq_getElem?_getD]
  · rw [if_neg c]
    simp only [List.length_take] at c
    rw [List.getD_eq_getElem?_getD, List.getElem?_replicate, List.getD_eq_getElem?_getD, List.getElem?_eq_none (show s.length ≤ i by omega)]
    split <;> rfl
theorem ow_wl (b : List UInt8) : owN b 8 = wl (leN b 64) := by
  have e : owN b 8 = [rwN (b.drop 0) 8, rwN (b.drop 8) 8, rwN (b.drop 16) 8, rwN (b.drop 24) 8, rwN (b.drop 32) 8, rwN (b.drop 40) 8, rwN (b.drop 48) 8, rwN (b.drop 56) 8] := by
    simp only [owN, List.replicate, List.set_cons_zero, List.set_cons_succ]
  have h0 := ofN_vl b
  have h1 := ofN_vl (b.drop 32)
  have e0 : ofN b 4 = [rwN (b.drop 0) 8, rwN (b.drop 8) 8, rwN (b.drop 16) 8, rwN (b.drop 24) 8] := by
    simp only [ofN, List.replicate, List.set_cons_zero, List.set_cons_succ]
  have e1 : ofN (b.drop 32) 4 = [rwN (b.drop 32) 8, rwN (b.drop 40) 8, rwN (b.drop 48) 8, rwN (b.drop 56) 8] := by
    simp only [ofN, List.replicate, List.set_cons_zero, List.set_cons_succ, List.drop_drop, Nat.reduceMul, Nat.reduceAdd]
  have e2 : owN b 8 = ofN b 4 ++ ofN (b.drop 32) 4 := by rw [e, e0, e1]; rfl
  have hl0 := length_ofN b 4
  have hl1 := length_ofN (b.drop 32) 4
  have h2 := leN_add b 32 32
  rw [show (256 : Nat) ^ 32 = 115792089237316195423570985008687907853269984665640564039457584007913129639936 from rfl] at h2
  rw [wl_of (owN b 8) (length_owN b 8)]
  congr 1
  rw [e2]
  obtain ⟨a, b', c, d, ha⟩ := list4 _ hl0
  obtain ⟨f, g, i, j, hf⟩ := list4 _ hl1
  rw [ha] at h0 ⊢
  rw [hf] at h1 ⊢
  rw [show (64 : Nat) = 32 + 32 from rfl, h2, ← h0, ← h1]
  simp only [vn, vl, lb, List.cons_append, List.nil_append, List.getD_cons_zero, List.getD_cons_succ]
  omega
theorem of_fl (b : List UInt8) : ofN b 4 = fl (leN b 32) := fl_of _ _ (length_ofN b 4) (ofN_vl b)
end Go.Proofs.YtmnhifagkcmhjaaDoor
namespace Go.Proofs.YtmnhifagkcmhjaaDoor
open Go.RowKit
theorem zero_fl : List.replicate 4 (0 : UInt64) = fl 0 := by decide
def HO (e : Nat) : List (Nat × Option ABlk) := [(22, some ⟨.agg64 orderL, e, false⟩)]
set_option maxRecDepth 100000 in
theorem smd_ev (x y m n : UInt64) : Meets Tryd.prog 134 [.u64 x, .u64 y, .u64 m, .u64 n] [] (.tup [.u64 (mdH x y m n), .u64 (mdL x y m n)]) [] := by
  refine meets_of_ev (nt := 36) Tryd.func134 rfl rfl (Nat.le_of_ble_eq_true rfl) ?_
  refine .seq ?_
  refine .region ?_
  refine .q (op_assign rfl) trivial rfl ?_
  refine .q (op_assign rfl) trivial rfl ?_
  refine .nil ?_
  show Ev _ _ _ _ _
  refine .seq ?_
  refine .region ?_
  refine .q (op_move rfl) trivial rfl ?_
  refine .q (op_move rfl) trivial rfl ?_
  refine .q (op_call (U := []) [] [] (mul64_ev x y) Tryd.func153 (by kernel_rfl) rfl rfl rfl (⟨⟨_, rfl, rfl, rfl⟩, ⟨_, rfl, rfl, rfl⟩, trivial⟩) (trivial) (trivial) (trivial) rfl) trivial rfl ?_
  refine .q (op_move rfl) trivial rfl ?_
  refine .q (op_extract rfl rfl) trivial rfl ?_
  refine .q (op_extract rfl rfl) trivial rfl ?_
  refine .q (op_assign rfl) trivial rfl ?_
  refine .q (op_assign rfl) trivial rfl ?_
  refine .nil ?_
  show Ev _ _ _ _ _
  refine .seq ?_
  refine .region ?_
  refine .q (op_move rfl) trivial rfl ?_
  refine .q (op_move rfl) trivial rfl ?_
  refine .q (op_add64 Tryd.func97 (by kernel_rfl) (by kernel_rfl) (by kernel_rfl) (by kernel_rfl) rfl rfl rfl (by decide)) trivial rfl ?_
  refine .q (op_move rfl) trivial rfl ?_
  refine .q (op_extract rfl rfl) trivial rfl ?_
  refine .q (op_extract rfl rfl) trivial rfl ?_
  refine .q (op_assign rfl) trivial rfl ?_
  refine .q (op_assign rfl) trivial rfl ?_
  refine .nil ?_
  show Ev _ _ _ _ _
  refine .seq ?_
  refine .region ?_
  refine .q (op_move rfl) trivial rfl ?_
  refine .q (op_move rfl) trivial rfl ?_
  refine .q (op_bin64 rfl rfl rfl) trivial rfl ?_
  refine .q (op_assign rfl) trivial rfl ?_
  refine .nil ?_
  show Ev _ _ _ _ _
  refine .seq ?_
  refine .region ?_
  refine .q (op_move rfl) trivial rfl ?_
  refine .q (op_move rfl) trivial rfl ?_
  refine .q (op_add64 Tryd.func97 (by kernel_rfl) (by kernel_rfl) (by kernel_rfl) (by kernel_rfl) rfl rfl rfl (by decide)) trivial rfl ?_
  refine .q (op_move rfl) trivial rfl ?_
  refine .q (op_extract rfl rfl) trivial rfl ?_
  refine .q (op_extract rfl rfl) trivial rfl ?_
  refine .q (op_assign rfl) trivial rfl ?_
  refine .q (op_assign rfl) trivial rfl ?_
  refine .nil ?_
  show Ev _ _ _ _ _
  refine .seq ?_
  refine .region ?_
  refine .q (op_move rfl) trivial rfl ?_
  refine .q (op_move rfl) trivial rfl ?_
  refine .q (op_bin64 rfl rfl rfl) trivial rfl ?_
  refine .q (op_move rfl) trivial rfl ?_
  refine .q (op_assign rfl) trivial rfl ?_
  refine .q (op_assign rfl) trivial rfl ?_
  refine .nil ?_
  show Ev _ _ _ _ _
  refine .ret ?_
  show RetOk _ _ _ _ _ _ _
  exact ret2v rfl (.inl rfl) rfl rfl (congrArg AV.u64 (md_eq x y m n).2) (congrArg AV.u64 (md_eq x y m n).1) trivial
set_option maxRecDepth 100000 in
theorem minus_ev0 (e : Nat) (x : List UInt64) (hx : x.length = 4) : Meets Tryd.prog 73 [.agg64 x] (HO e) (.tup [.agg64 (moN x 4).1, .u64 (moN x 4).2]) [] := by
  refine meets_of_ev (nt := 25) Tryd.func73 rfl rfl (Nat.le_of_ble_eq_true rfl) ?_
  refine .seq ?_
  refine .region ?_
  refine .a (op_boxRow rfl rfl) trivial rfl ?_
  refine .a (op_allocRow zero95 rel_zero95 rfl) trivial rfl ?_
  refine .q (op_assign rfl) trivial rfl ?_
  refine .nil ?_
  show Ev _ _ _ _ _
  refine .seq ?_
  refine .region ?_
  refine .q (op_assign rfl) trivial rfl ?_
  refine .nil ?_
  show Ev _ _ _ _ _
  refine .seq ?_
  refine .seq ?_
  refine .region ?_
  refine .q (op_move rfl) trivial rfl ?_
  refine .nil ?_
  show Ev _ _ _ _ _
  refine .block ?_
  refine Ev.loop (ι := { j : Nat // j ≤ 4 }) (fun j => ⟨[(1, .ptr 1000 0), (2, .ptr 1008 0), (4, .u64 (moN x j.1).2), (6, .i64 ((j.1 : Nat) : Int))], [(1000, some ⟨.agg64 (moN x j.1).1, 95, true⟩), (1008, some ⟨.agg64 (List.replicate 4 0), 95, true⟩), (22, some ⟨.agg64 orderL, e, false⟩)], 1016⟩) (fun j => 4 - j.1) ⟨0, Nat.zero_le _⟩ (StLe.mk [(1000, 1000), (1008, 1008)] rfl rfl ⟨⟨_, rfl, by first | rfl | (simp only [AV.ren]; congr 1; omega), rfl⟩, ⟨_, rfl, by first | rfl | (simp only [AV.ren]; congr 1; omega), rfl⟩, ⟨_, rfl, by first | rfl | (simp only [AV.ren]; congr 1; omega), rfl⟩, ⟨_, rfl, by first | rfl | (simp only [AV.ren]; congr 1; omega), rfl⟩, trivial⟩ ⟨⟨_, _, rfl, rfl, by first | rfl | (simp only [AV.ren]; congr 1; omega), rfl, id, rfl⟩, ⟨_, _, rfl, rfl, by first | rfl | (simp only [AV.ren]; congr 1; omega), rfl, id, rfl⟩, ⟨_, _, rfl, rfl, by first | rfl | (simp only [AV.ren]; congr 1; omega), rfl, id, rfl⟩, trivial⟩) ?_
  rintro ⟨j, hj⟩
  dsimp only
  have hl : (moN x j).1.length = 4 := by rw [length_moN]; exact hx
  have hb := moN_borrow x j
  have ho4 : orderL.length = 4 := rfl
  refine .seq ?_
  refine .region ?_
  refine .q (op_cmpI rfl rfl rfl) trivial rfl ?_
  refine .nil ?_
  show Ev _ _ _ _ _
  refine .seq ?_
  refine .cond rfl (fun hc7 => ?_) (fun hc7 => ?_)
  · first | replace hc7 := of_decide_eq_true hc7 | replace hc7 := of_decide_eq_false hc7 | replace hc7 := eq_of_beq hc7 | replace hc7 := ne_of_beq_false hc7 | simp only [bne_iff_ne, ne_eq] at hc7 | simp only [bne_eq_false_iff_eq] at hc7
    refine .skip ?_
    show Ev _ _ _ _ _
    refine .seq ?_
    refine .block ?_
    refine .seq ?_
    refine .region ?_
    refine .q (op_move rfl) trivial rfl ?_
    refine .q (op_assign rfl) trivial rfl ?_
    refine .nil ?_
    show Ev _ _ _ _ _
    refine .drawn [[], [], [1], [1, 2], [], [4], [4, 5], [], [1, 2, 3, 4, 5, 6, 7], [1, 2, 3, 4, 5, 6, 7, 8], [1, 2, 3, 4, 5, 6, 7, 8, 9], [1, 2, 3, 4, 5, 6, 7, 8, 9], [0, 1, 2, 3, 4, 5, 6, 7, 8, 9, 10], [0, 1, 2, 3, 4, 5, 6, 7, 8, 9, 10, 12], [0, 1, 2, 3, 4, 5, 6, 7, 8, 9, 10, 11, 12, 13]] [3, 6, 8, 13] [13] (by kernel_rfl) (by kernel_rfl) rfl ?_
    show DK _ [0, 1, 2, 3, 4, 5, 6, 7, 8, 9, 10, 11, 12, 13, 14] _ _ _
    refine .q rfl (op_move rfl) trivial ?_
    refine .q rfl (op_move rfl) trivial ?_
    refine .q rfl (ap_idx_arr Tryd.underlying95 inf45.sz rfl rfl rfl (by first | omega | (simp only [AV.len]; omega) | (simp only [AV.len, List.length_set]; omega) | assumption | (simp [AV.len]; done))) trivial ?_
    refine .q rfl (op_load Tryd.underlying45 rfl rfl rfl rfl (by first | omega | (simp only [AV.len]; omega) | (simp only [AV.len, List.length_set]; omega) | assumption | (simp [AV.len]; done))) trivial ?_
    refine .q rfl (op_move rfl) trivial ?_
    refine .q rfl (ap_idx_arr Tryd.underlying46 inf45.sz rfl rfl rfl (by first | omega | (simp only [AV.len]; omega) | (simp only [AV.len, List.length_set]; omega) | assumption | (simp [AV.len]; done))) trivial ?_
    refine .q rfl (op_load Tryd.underlying45 rfl rfl rfl rfl (by first | omega | (simp only [AV.len]; omega) | (simp only [AV.len, List.length_set]; omega) | assumption | (simp [AV.len]; done))) trivial ?_
    refine .q rfl (op_move rfl) trivial ?_
    refine .q rfl (op_sub64 Tryd.func100 (by kernel_rfl) (by kernel_rfl) (by kernel_rfl) (by kernel_rfl) rfl rfl rfl (hb)) trivial ?_
    refine .q rfl (op_move rfl) trivial ?_
    refine .q rfl (op_extract rfl rfl) trivial ?_
    refine .q rfl (op_extract rfl rfl) trivial ?_
    refine .q rfl (ap_idx_arr Tryd.underlying95 inf45.sz rfl rfl rfl (by first | omega | (simp only [AV.len]; omega) | (simp only [AV.len, List.length_set]; omega) | assumption | (simp [AV.len]; done))) trivial ?_
    refine .w rfl (op_store inf45.sz rfl rfl rfl rfl rfl (by first | omega | (simp only [AV.len]; omega) | (simp only [AV.len, List.length_set]; omega) | assumption | (simp [AV.len]; done))) trivial rfl rfl ?_
    refine .q rfl (op_assign rfl) trivial ?_
    refine .nil ?_
    show Ev _ _ _ _ _
    refine .region ?_
    refine .q (op_addI rfl rfl ⟨by first | omega | (simp only [AV.len]; omega) | (simp only [AV.len, List.length_set]; omega) | assumption | (simp [AV.len]; done), by first | omega | (simp only [AV.len]; omega) | (simp only [AV.len, List.length_set]; omega) | assumption | (simp [AV.len]; done)⟩) trivial rfl ?_
    refine .q (op_move rfl) trivial rfl ?_
    refine .nil ?_
    exact ⟨⟨j + 1, by omega⟩, by show 4 - (j + 1) < 4 - j; omega, StLe.mk [(1000, 1000), (1008, 1008)] rfl rfl ⟨⟨_, rfl, by first | rfl | (simp only [AV.ren]; congr 1; omega), rfl⟩, ⟨_, rfl, by first | rfl | (simp only [AV.ren]; congr 1; omega), rfl⟩, ⟨_, rfl, by first | rfl | (simp only [AV.ren]; congr 1; omega), rfl⟩, ⟨_, rfl, by first | rfl | (simp only [AV.ren]; congr 1; omega), rfl⟩, trivial⟩ ⟨⟨_, _, rfl, rfl, by first | rfl | (simp only [AV.ren]; congr 1; omega), rfl, id, rfl⟩, ⟨_, _, rfl, rfl, by first | rfl | (simp only [AV.ren]; congr 1; omega), rfl, id, rfl⟩, ⟨_, _, rfl, rfl, by first | rfl | (simp only [AV.ren]; congr 1; omega), rfl, id, rfl⟩, trivial⟩⟩
  · first | replace hc7 := of_decide_eq_true hc7 | replace hc7 := of_decide_eq_false hc7 | replace hc7 := eq_of_beq hc7 | replace hc7 := ne_of_beq_false hc7 | simp only [bne_iff_ne, ne_eq] at hc7 | simp only [bne_eq_false_iff_eq] at hc7
    refine .exit ?_
    show Ev _ _ _ _ _
    have ej : j = 4 := by omega
    refine Ev.weak (st2 := ⟨[(1, .ptr 1000 0), (2, .ptr 1008 0), (4, .u64 (moN x (4)).2), (6, .i64 (((4) : Nat) : Int))], [(1000, some ⟨.agg64 (moN x (4)).1, 95, true⟩), (1008, some ⟨.agg64 (List.replicate 4 0), 95, true⟩), (22, some ⟨.agg64 orderL, e, false⟩)], 1016⟩) (StLe.mk [(1000, 1000), (1008, 1008)] rfl rfl ⟨⟨_, rfl, by first | (simp only [AV.ren]; done) | (simp only [AV.ren]; rw [ej]; done) | rfl, rfl⟩, ⟨_, rfl, by first | (simp only [AV.ren]; done) | (simp only [AV.ren]; rw [ej]; done) | rfl, rfl⟩, ⟨_, rfl, by first | (simp only [AV.ren]; done) | (simp only [AV.ren]; rw [ej]; done) | rfl, rfl⟩, ⟨_, rfl, by first | (simp only [AV.ren]; done) | (simp only [AV.ren]; rw [ej]; done) | rfl, rfl⟩, trivial⟩ ⟨⟨_, _, rfl, rfl, by first | (simp only [AV.ren]; done) | (simp only [AV.ren]; rw [ej]; done) | rfl, rfl, id, rfl⟩, ⟨_, _, rfl, rfl, by first | (simp only [AV.ren]; done) | (simp only [AV.ren]; rw [ej]; done) | rfl, rfl, id, rfl⟩, ⟨_, _, rfl, rfl, by first | (simp only [AV.ren]; done) | (simp only [AV.ren]; rw [ej]; done) | rfl, rfl, id, rfl⟩, trivial⟩) ?_
    refine .seq ?_
    refine .region ?_
    refine .q (op_loadRow Tryd.underlying95 rfl sz95 rfl rfl rfl (by simp only [AV.len, length_moN]; exact hx)) trivial rfl ?_
    refine .q (op_move rfl) trivial rfl ?_
    refine .w (op_storeRow sz95 rfl rfl rfl rfl rfl (by first | rfl | (simp only [AV.len, length_moN]; exact hx)) (by first | rfl | (simp only [AV.len, length_moN]; exact hx))) trivial rfl ?_
    refine .q (op_assign rfl) trivial rfl ?_
    refine .nil ?_
    show Ev _ _ _ _ _
    refine .ret ?_
    show RetOk _ _ _ _ _ _ _
    exact retc2 rfl (.inl rfl) ⟨_, _, _, _, rfl, rfl, rfl, rfl, (by simp only [AV.len, length_moN]; exact hx), Tryd.underlying95, rfl, sz95⟩ rfl trivial
theorem minus_ev (e a : Nat) (ha : a < 115792089237316195423570985008687907853269984665640564039457584007913129639936) : Meets Tryd.prog 73 [.agg64 (fl a)] (HO e) (.tup [.agg64 (fl ((a + (115792089237316195423570985008687907853269984665640564039457584007913129639936 - scL)) % 115792089237316195423570985008687907853269984665640564039457584007913129639936)), .u64 (UInt64.ofNat (if a < scL then 1 else 0))]) [] :=
  (minus_ev0 e (fl a) rfl).as (by rw [(mo_fl a ha).1, (mo_fl a ha).2])
set_option maxRecDepth 100000 in
theorem less_ev (e a : Nat) (ha : a < 2 * scL) : Meets Tryd.prog 131 [.agg64 (fl a)] (HO e) (.agg64 (fl (a % scL))) [] := by
  refine meets_of_ev (nt := 33) Tryd.func131 rfl rfl (Nat.le_of_ble_eq_true rfl) ?_
  refine .seq ?_
  refine .region ?_
  refine .a (op_boxRow rfl rfl) trivial rfl ?_
  refine .a (op_allocRow zero95 rel_zero95 rfl) trivial rfl ?_
  refine .nil ?_
  show Ev _ _ _ _ _
  refine .seq ?_
  refine .region ?_
  refine .q (op_loadRow Tryd.underlying95 rfl sz95 rfl rfl rfl (rfl)) trivial rfl ?_
  refine .q (op_call (U := []) [] [] (minus_ev e a (by unfold scL at ha; omega)) Tryd.func73 (by kernel_rfl) rfl rfl rfl (⟨⟨_, rfl, rfl, rfl⟩, trivial⟩) (⟨⟨_, _, rfl, rfl, rfl, rfl, id, rfl⟩, trivial⟩) (trivial) (⟨(fun h => by cases h), trivial⟩) rfl) trivial rfl ?_
  refine .q (op_move rfl) trivial rfl ?_
  refine .q (op_extract rfl rfl) trivial rfl ?_
  refine .q (op_extract rfl rfl) trivial rfl ?_
  refine .a (op_allocRow zero95 rel_zero95 rfl) trivial rfl ?_
  refine .w (op_storeRow sz95 rfl rfl rfl rfl rfl (rfl) (rfl)) trivial rfl ?_
  refine .q (op_assign rfl) trivial rfl ?_
  refine .nil ?_
  show Ev _ _ _ _ _
  refine .seq ?_
  refine .region ?_
  refine .q (op_move rfl) trivial rfl ?_
  refine .q (op_neg64 rfl) trivial rfl ?_
  refine .q (op_assign rfl) trivial rfl ?_
  refine .nil ?_
  show Ev _ _ _ _ _
  refine .seq ?_
  refine .seq ?_
  refine .region ?_
  refine .q (op_move rfl) trivial rfl ?_
  refine .nil ?_
  show Ev _ _ _ _ _
  refine .block ?_
  refine Ev.loop (ι := { j : Nat // j ≤ 4 }) (fun j => ⟨[(1, .ptr 1000 0), (2, .ptr 1008 0), (3, .ptr 1040 0), (5, .u64 (0 - UInt64.ofNat (if a < scL then 1 else 0))), (14, .i64 ((j.1 : Nat) : Int))], [(1000, some ⟨.agg64 (fl a), 95, true⟩), (1008, some ⟨.agg64 (List.replicate 4 0), 95, true⟩), (1040, some ⟨.agg64 (selN (0 - UInt64.ofNat (if a < scL then 1 else 0)) (fl a) (fl ((a + (115792089237316195423570985008687907853269984665640564039457584007913129639936 - scL)) % 115792089237316195423570985008687907853269984665640564039457584007913129639936)) j.1), 95, true⟩), (22, some ⟨.agg64 orderL, e, false⟩)], 1072⟩) (fun j => 4 - j.1) ⟨0, Nat.zero_le _⟩ (StLe.mk [(1000, 1000), (1008, 1008), (1040, 1016)] rfl rfl ⟨⟨_, rfl, by first | rfl | (simp only [AV.ren]; congr 1; omega), rfl⟩, ⟨_, rfl, by first | rfl | (simp only [AV.ren]; congr 1; omega), rfl⟩, ⟨_, rfl, by first | rfl | (simp only [AV.ren]; congr 1; omega), rfl⟩, ⟨_, rfl, by first | rfl | (simp only [AV.ren]; congr 1; omega), rfl⟩, ⟨_, rfl, by first | rfl | (simp only [AV.ren]; congr 1; omega), rfl⟩, trivial⟩ ⟨⟨_, _, rfl, rfl, by first | rfl | (simp only [AV.ren]; congr 1; omega), rfl, id, rfl⟩, ⟨_, _, rfl, rfl, by first | rfl | (simp only [AV.ren]; congr 1; omega), rfl, id, rfl⟩, ⟨_, _, rfl, rfl, by first | rfl | (simp only [AV.ren]; congr 1; omega), rfl, id, rfl⟩, ⟨_, _, rfl, rfl, by first | rfl | (simp only [AV.ren]; congr 1; omega), rfl, id, rfl⟩, trivial⟩) ?_
  rintro ⟨j, hj⟩
  dsimp only
  have hl : (selN (0 - UInt64.ofNat (if a < scL then 1 else 0)) (fl a) (fl ((a + (115792089237316195423570985008687907853269984665640564039457584007913129639936 - scL)) % 115792089237316195423570985008687907853269984665640564039457584007913129639936)) j).length = 4 := length_selN _ _ _ j
  have hlf : (fl a).length = 4 := rfl
  refine .seq ?_
  refine .region ?_
  refine .q (op_cmpI rfl rfl rfl) trivial rfl ?_
  refine .nil ?_
  show Ev _ _ _ _ _
  refine .seq ?_
  refine .cond rfl (fun hc15 => ?_) (fun hc15 => ?_)
  · first | replace hc15 := of_decide_eq_true hc15 | replace hc15 := of_decide_eq_false hc15 | replace hc15 := eq_of_beq hc15 | replace hc15 := ne_of_beq_false hc15 | simp only [bne_iff_ne, ne_eq] at hc15 | simp only [bne_eq_false_iff_eq] at hc15
    refine .skip ?_
    show Ev _ _ _ _ _
    refine .seq ?_
    refine .block ?_
    refine .seq ?_
    refine .region ?_
    refine .q (op_move rfl) trivial rfl ?_
    refine .q (op_assign rfl) trivial rfl ?_
    refine .nil ?_
    show Ev _ _ _ _ _
    refine .drawn [[], [0], [0, 1], [], [], [4], [4, 5], [], [7], [7, 8], [4, 5, 6, 7, 8, 9], [3, 4, 5, 6, 7, 8, 9, 10], [0, 1, 2, 3, 4, 5, 6, 7, 8, 9, 10, 11], [0, 1, 2, 3, 4, 5, 6, 7, 8, 9, 10, 11, 12], [0, 1, 2, 3, 4, 5, 6, 7, 8, 9, 10, 11, 12, 13]] [2, 6, 9, 14] [14] (by kernel_rfl) (by kernel_rfl) rfl ?_
    show DK _ [0, 1, 2, 3, 4, 5, 6, 7, 8, 9, 10, 11, 12, 13, 14] _ _ _
    refine .q rfl (op_move rfl) trivial ?_
    refine .q rfl (ap_idx_arr Tryd.underlying95 inf45.sz rfl rfl rfl (by first | omega | (simp only [AV.len]; omega) | (simp only [AV.len, List.length_set]; omega) | assumption | (simp [AV.len]; done))) trivial ?_
    refine .q rfl (op_load Tryd.underlying45 rfl rfl rfl rfl (by first | omega | (simp only [AV.len]; omega) | (simp only [AV.len, List.length_set]; omega) | assumption | (simp [AV.len]; done))) trivial ?_
    refine .q rfl (op_move rfl) trivial ?_
    refine .q rfl (op_move rfl) trivial ?_
    refine .q rfl (ap_idx_arr Tryd.underlying95 inf45.sz rfl rfl rfl (by first | omega | (simp only [AV.len]; omega) | (simp only [AV.len, List.length_set]; omega) | assumption | (simp [AV.len]; done))) trivial ?_
    refine .q rfl (op_load Tryd.underlying45 rfl rfl rfl rfl (by first | omega | (simp only [AV.len]; omega) | (simp only [AV.len, List.length_set]; omega) | assumption | (simp [AV.len]; done))) trivial ?_
    refine .q rfl (op_move rfl) trivial ?_
    refine .q rfl (ap_idx_arr Tryd.underlying95 inf45.sz rfl rfl rfl (by first | omega | (simp only [AV.len]; omega) | (simp only [AV.len, List.length_set]; omega) | assumption | (simp [AV.len]; done))) trivial ?_
    refine .q rfl (op_load Tryd.underlying45 rfl rfl rfl rfl (by first | omega | (simp only [AV.len]; omega) | (simp only [AV.len, List.length_set]; omega) | assumption | (simp [AV.len]; done))) trivial ?_
    refine .q rfl (op_bin64 rfl rfl rfl) trivial ?_
    refine .q rfl (op_bin64 rfl rfl rfl) trivial ?_
    refine .q rfl (op_bin64 rfl rfl rfl) trivial ?_
    refine .q rfl (ap_idx_arr Tryd.underlying95 inf45.sz rfl rfl rfl (by first | omega | (simp only [AV.len]; omega) | (simp only [AV.len, List.length_set]; omega) | assumption | (simp [AV.len]; done))) trivial ?_
    refine .w rfl (op_store inf45.sz rfl rfl rfl rfl rfl (by first | omega | (simp only [AV.len]; omega) | (simp only [AV.len, List.length_set]; omega) | assumption | (simp [AV.len]; done))) trivial rfl rfl ?_
    refine .nil ?_
    show Ev _ _ _ _ _
    refine .region ?_
    refine .q (op_addI rfl rfl ⟨by first | omega | (simp only [AV.len]; omega) | (simp only [AV.len, List.length_set]; omega) | assumption | (simp [AV.len]; done), by first | omega | (simp only [AV.len]; omega) | (simp only [AV.len, List.length_set]; omega) | assumption | (simp [AV.len]; done)⟩) trivial rfl ?_
    refine .q (op_move rfl) trivial rfl ?_
    refine .nil ?_
    exact ⟨⟨j + 1, by omega⟩, by show 4 - (j + 1) < 4 - j; omega, StLe.mk [(1000, 1000), (1008, 1008), (1040, 1040)] rfl rfl ⟨⟨_, rfl, by first | rfl | (simp only [AV.ren]; congr 1; omega), rfl⟩, ⟨_, rfl, by first | rfl | (simp only [AV.ren]; congr 1; omega), rfl⟩, ⟨_, rfl, by first | rfl | (simp only [AV.ren]; congr 1; omega), rfl⟩, ⟨_, rfl, by first | rfl | (simp only [AV.ren]; congr 1; omega), rfl⟩, ⟨_, rfl, by first | rfl | (simp only [AV.ren]; congr 1; omega), rfl⟩, trivial⟩ ⟨⟨_, _, rfl, rfl, by first | rfl | (simp only [AV.ren]; congr 1; omega), rfl, id, rfl⟩, ⟨_, _, rfl, rfl, by first | rfl | (simp only [AV.ren]; congr 1; omega), rfl, id, rfl⟩, ⟨_, _, rfl, rfl, by first | rfl | (simp only [AV.ren]; congr 1; omega), rfl, id, rfl⟩, ⟨_, _, rfl, rfl, by first | rfl | (simp only [AV.ren]; congr 1; omega), rfl, id, rfl⟩, trivial⟩⟩
  · first | replace hc15 := of_decide_eq_true hc15 | replace hc15 := of_decide_eq_false hc15 | replace hc15 := eq_of_beq hc15 | replace hc15 := ne_of_beq_false hc15 | simp only [bne_iff_ne, ne_eq] at hc15 | simp only [bne_eq_false_iff_eq] at hc15
    refine .exit ?_
    show Ev _ _ _ _ _
    have ej : j = 4 := by omega
    refine Ev.weak (st2 := ⟨[(1, .ptr 1000 0), (2, .ptr 1008 0), (3, .ptr 1040 0), (5, .u64 (0 - UInt64.ofNat (if a < scL then 1 else 0))), (14, .i64 (((4) : Nat) : Int))], [(1000, some ⟨.agg64 (fl a), 95, true⟩), (1008, some ⟨.agg64 (List.replicate 4 0), 95, true⟩), (1040, some ⟨.agg64 (selN (0 - UInt64.ofNat (if a < scL then 1 else 0)) (fl a) (fl ((a + (115792089237316195423570985008687907853269984665640564039457584007913129639936 - scL)) % 115792089237316195423570985008687907853269984665640564039457584007913129639936)) (4)), 95, true⟩), (22, some ⟨.agg64 orderL, e, false⟩)], 1072⟩) (StLe.mk [(1000, 1000), (1008, 1008), (1040, 1040)] rfl rfl ⟨⟨_, rfl, by first | (simp only [AV.ren]; done) | (simp only [AV.ren]; rw [ej]; done) | rfl, rfl⟩, ⟨_, rfl, by first | (simp only [AV.ren]; done) | (simp only [AV.ren]; rw [ej]; done) | rfl, rfl⟩, ⟨_, rfl, by first | (simp only [AV.ren]; done) | (simp only [AV.ren]; rw [ej]; done) | rfl, rfl⟩, ⟨_, rfl, by first | (simp only [AV.ren]; done) | (simp only [AV.ren]; rw [ej]; done) | rfl, rfl⟩, ⟨_, rfl, by first | (simp only [AV.ren]; done) | (simp only [AV.ren]; rw [ej]; done) | rfl, rfl⟩, trivial⟩ ⟨⟨_, _, rfl, rfl, by first | (simp only [AV.ren]; done) | (simp only [AV.ren]; rw [ej]; done) | rfl, rfl, id, rfl⟩, ⟨_, _, rfl, rfl, by first | (simp only [AV.ren]; done) | (simp only [AV.ren]; rw [ej]; done) | rfl, rfl, id, rfl⟩, ⟨_, _, rfl, rfl, by first | (simp only [AV.ren]; done) | (simp only [AV.ren]; rw [ej]; done) | rfl, rfl, id, rfl⟩, ⟨_, _, rfl, rfl, by first | (simp only [AV.ren]; done) | (simp only [AV.ren]; rw [ej]; done) | rfl, rfl, id, rfl⟩, trivial⟩) ?_
    refine .seq ?_
    refine .region ?_
    refine .q (op_loadRow Tryd.underlying95 rfl sz95 rfl rfl rfl (length_selN _ _ _ 4)) trivial rfl ?_
    refine .as (.agg64 (fl (a % scL))) (congrArg AV.agg64 (lo_fl a ha)) ?_
    refine .w (op_storeRow sz95 rfl rfl rfl rfl rfl (rfl) (rfl)) trivial rfl ?_
    refine .nil ?_
    show Ev _ _ _ _ _
    refine .ret ?_
    show RetOk _ _ _ _ _ _ _
    exact retc1 rfl (.inl rfl) ⟨_, _, _, _, rfl, rfl, rfl, rfl, (rfl), Tryd.underlying95, rfl, sz95⟩ trivial
set_option maxRecDepth 100000 in
theorem twice_ev (a : Nat) (b : UInt64) (hb : b.toNat ≤ 1) (ha : 2 * a + 1 < 115792089237316195423570985008687907853269984665640564039457584007913129639936) : Meets Tryd.prog 132 [.agg64 (fl a), .u64 b] [] (.agg64 (fl (2 * a + b.toNat))) [] := by
  refine meets_of_ev (nt := 23) Tryd.func132 rfl rfl (Nat.le_of_ble_eq_true rfl) ?_
  refine .seq ?_
  refine .region ?_
  refine .a (op_boxRow rfl rfl) trivial rfl ?_
  refine .a (op_allocRow zero95 rel_zero95 rfl) trivial rfl ?_
  refine .nil ?_
  show Ev _ _ _ _ _
  refine .seq ?_
  refine .seq ?_
  refine .region ?_
  refine .q (op_move rfl) trivial rfl ?_
  refine .nil ?_
  show Ev _ _ _ _ _
  refine .block ?_
  refine Ev.loop (ι := { j : Nat // j ≤ 4 }) (fun j => ⟨[(2, .ptr 1000 0), (4, .ptr 1008 0), (1, .u64 (tpN (fl a) b j.1).2), (6, .i64 ((j.1 : Nat) : Int))], [(1000, some ⟨.agg64 (tpN (fl a) b j.1).1, 95, true⟩), (1008, some ⟨.agg64 (List.replicate 4 0), 95, true⟩)], 1016⟩) (fun j => 4 - j.1) ⟨0, Nat.zero_le _⟩ (StLe.mk [(1000, 1000), (1008, 1008)] rfl rfl ⟨⟨_, rfl, by first | rfl | (simp only [AV.ren]; congr 1; omega), rfl⟩, ⟨_, rfl, by first | rfl | (simp only [AV.ren]; congr 1; omega), rfl⟩, ⟨_, rfl, by first | rfl | (simp only [AV.ren]; congr 1; omega), rfl⟩, ⟨_, rfl, by first | rfl | (simp only [AV.ren]; congr 1; omega), rfl⟩, trivial⟩ ⟨⟨_, _, rfl, rfl, by first | rfl | (simp only [AV.ren]; congr 1; omega), rfl, id, rfl⟩, ⟨_, _, rfl, rfl, by first | rfl | (simp only [AV.ren]; congr 1; omega), rfl, id, rfl⟩, trivial⟩) ?_
  rintro ⟨j, hj⟩
  dsimp only
  have hl : (tpN (fl a) b j).1.length = 4 := by rw [length_tpN]; rfl
  refine .seq ?_
  refine .region ?_
  refine .q (op_cmpI rfl rfl rfl) trivial rfl ?_
  refine .nil ?_
  show Ev _ _ _ _ _
  refine .seq ?_
  refine .cond rfl (fun hc7 => ?_) (fun hc7 => ?_)
  · first | replace hc7 := of_decide_eq_true hc7 | replace hc7 := of_decide_eq_false hc7 | replace hc7 := eq_of_beq hc7 | replace hc7 := ne_of_beq_false hc7 | simp only [bne_iff_ne, ne_eq] at hc7 | simp only [bne_eq_false_iff_eq] at hc7
    refine .skip ?_
    show Ev _ _ _ _ _
    refine .seq ?_
    refine .block ?_
    refine .seq ?_
    refine .region ?_
    refine .q (op_move rfl) trivial rfl ?_
    refine .q (op_assign rfl) trivial rfl ?_
    refine .nil ?_
    show Ev _ _ _ _ _
    refine .drawn [[], [], [1], [1, 2], [1, 2, 3], [], [1, 2, 3, 4, 5], [], [7], [7, 8], [7, 8, 9], [0, 1, 2, 3, 4, 5, 6, 7, 8, 9], [0, 1, 2, 3, 4, 5, 6, 7, 8, 9, 11], [0, 1, 2, 3, 4, 5, 6, 7, 8, 9, 10, 11, 12]] [3, 9, 12] [12] (by kernel_rfl) (by kernel_rfl) rfl ?_
    show DK _ [0, 1, 2, 3, 4, 5, 6, 7, 8, 9, 10, 11, 12, 13] _ _ _
    refine .q rfl (op_move rfl) trivial ?_
    refine .q rfl (op_move rfl) trivial ?_
    refine .q rfl (ap_idx_arr Tryd.underlying95 inf45.sz rfl rfl rfl (by first | omega | (simp only [AV.len]; omega) | (simp only [AV.len, List.length_set]; omega) | assumption | (simp [AV.len]; done))) trivial ?_
    refine .q rfl (op_load Tryd.underlying45 rfl rfl rfl rfl (by first | omega | (simp only [AV.len]; omega) | (simp only [AV.len, List.length_set]; omega) | assumption | (simp [AV.len]; done))) trivial ?_
    refine .q rfl (op_shl64 (n := 1) rfl rfl rfl (by decide)) trivial ?_
    refine .q rfl (op_move rfl) trivial ?_
    refine .q rfl (op_bin64 rfl rfl rfl) trivial ?_
    refine .q rfl (op_move rfl) trivial ?_
    refine .q rfl (ap_idx_arr Tryd.underlying95 inf45.sz rfl rfl rfl (by first | omega | (simp only [AV.len]; omega) | (simp only [AV.len, List.length_set]; omega) | assumption | (simp [AV.len]; done))) trivial ?_
    refine .q rfl (op_load Tryd.underlying45 rfl rfl rfl rfl (by first | omega | (simp only [AV.len]; omega) | (simp only [AV.len, List.length_set]; omega) | assumption | (simp [AV.len]; done))) trivial ?_
    refine .q rfl (op_shr64 (n := 63) rfl rfl rfl (by decide)) trivial ?_
    refine .q rfl (ap_idx_arr Tryd.underlying95 inf45.sz rfl rfl rfl (by first | omega | (simp only [AV.len]; omega) | (simp only [AV.len, List.length_set]; omega) | assumption | (simp [AV.len]; done))) trivial ?_
    refine .w rfl (op_store inf45.sz rfl rfl rfl rfl rfl (by first | omega | (simp only [AV.len]; omega) | (simp only [AV.len, List.length_set]; omega) | assumption | (simp [AV.len]; done))) trivial rfl rfl ?_
    refine .q rfl (op_assign rfl) trivial ?_
    refine .nil ?_
    show Ev _ _ _ _ _
    refine .region ?_
    refine .q (op_addI rfl rfl ⟨by first | omega | (simp only [AV.len]; omega) | (simp only [AV.len, List.length_set]; omega) | assumption | (simp [AV.len]; done), by first | omega | (simp only [AV.len]; omega) | (simp only [AV.len, List.length_set]; omega) | assumption | (simp [AV.len]; done)⟩) trivial rfl ?_
    refine .q (op_move rfl) trivial rfl ?_
    refine .nil ?_
    exact ⟨⟨j + 1, by omega⟩, by show 4 - (j + 1) < 4 - j; omega, StLe.mk [(1000, 1000), (1008, 1008)] rfl rfl ⟨⟨_, rfl, by first | rfl | (simp only [AV.ren]; congr 1; omega), rfl⟩, ⟨_, rfl, by first | rfl | (simp only [AV.ren]; congr 1; omega), rfl⟩, ⟨_, rfl, by first | rfl | (simp only [AV.ren]; congr 1; omega), rfl⟩, ⟨_, rfl, by first | rfl | (simp only [AV.ren]; congr 1; omega), rfl⟩, trivial⟩ ⟨⟨_, _, rfl, rfl, by first | rfl | (simp only [AV.ren]; congr 1; omega), rfl, id, rfl⟩, ⟨_, _, rfl, rfl, by first | rfl | (simp only [AV.ren]; congr 1; omega), rfl, id, rfl⟩, trivial⟩⟩
  · first | replace hc7 := of_decide_eq_true hc7 | replace hc7 := of_decide_eq_false hc7 | replace hc7 := eq_of_beq hc7 | replace hc7 := ne_of_beq_false hc7 | simp only [bne_iff_ne, ne_eq] at hc7 | simp only [bne_eq_false_iff_eq] at hc7
    refine .exit ?_
    show Ev _ _ _ _ _
    have ej : j = 4 := by omega
    refine Ev.weak (st2 := ⟨[(2, .ptr 1000 0), (4, .ptr 1008 0), (1, .u64 (tpN (fl a) b (4)).2), (6, .i64 (((4) : Nat) : Int))], [(1000, some ⟨.agg64 (tpN (fl a) b (4)).1, 95, true⟩), (1008, some ⟨.agg64 (List.replicate 4 0), 95, true⟩)], 1016⟩) (StLe.mk [(1000, 1000), (1008, 1008)] rfl rfl ⟨⟨_, rfl, by first | (simp only [AV.ren]; done) | (simp only [AV.ren]; rw [ej]; done) | rfl, rfl⟩, ⟨_, rfl, by first | (simp only [AV.ren]; done) | (simp only [AV.ren]; rw [ej]; done) | rfl, rfl⟩, ⟨_, rfl, by first | (simp only [AV.ren]; done) | (simp only [AV.ren]; rw [ej]; done) | rfl, rfl⟩, ⟨_, rfl, by first | (simp only [AV.ren]; done) | (simp only [AV.ren]; rw [ej]; done) | rfl, rfl⟩, trivial⟩ ⟨⟨_, _, rfl, rfl, by first | (simp only [AV.ren]; done) | (simp only [AV.ren]; rw [ej]; done) | rfl, rfl, id, rfl⟩, ⟨_, _, rfl, rfl, by first | (simp only [AV.ren]; done) | (simp only [AV.ren]; rw [ej]; done) | rfl, rfl, id, rfl⟩, trivial⟩) ?_
    refine .seq ?_
    refine .region ?_
    refine .q (op_loadRow Tryd.underlying95 rfl sz95 rfl rfl rfl (by simp only [AV.len, length_tpN]; rfl)) trivial rfl ?_
    refine .as (.agg64 (fl (2 * a + b.toNat))) (congrArg AV.agg64 (tp_fl a b hb ha)) ?_
    refine .w (op_storeRow sz95 rfl rfl rfl rfl rfl (rfl) (rfl)) trivial rfl ?_
    refine .nil ?_
    show Ev _ _ _ _ _
    refine .ret ?_
    show RetOk _ _ _ _ _ _ _
    exact retc1 rfl (.inl rfl) ⟨_, _, _, _, rfl, rfl, rfl, rfl, (rfl), Tryd.underlying95, rfl, sz95⟩ trivial
set_option maxRecDepth 100000 in
theorem sreduced_ev (e x : Nat) (hx : x < 256 ^ 64) : Meets Tryd.prog 70 [.agg64 (wl x)] (HO e) (.agg64 (fl (x % scL))) [] := by
  refine meets_of_ev (nt := 24) Tryd.func70 rfl rfl (Nat.le_of_ble_eq_true rfl) ?_
  refine .seq ?_
  refine .region ?_
  refine .a (op_boxRow rfl rfl) trivial rfl ?_
  refine .a (op_allocRow zero95 rel_zero95 rfl) trivial rfl ?_
  refine .nil ?_
  show Ev _ _ _ _ _
  refine .seq ?_
  refine .region ?_
  refine .a (op_allocRow zero95 rel_zero95 rfl) trivial rfl ?_
  refine .nil ?_
  show Ev _ _ _ _ _
  refine .seq ?_
  refine .seq ?_
  refine .region ?_
  refine .q (op_move rfl) trivial rfl ?_
  refine .nil ?_
  show Ev _ _ _ _ _
  refine .block ?_
  refine Ev.loop (ι := { j : Nat // j ≤ 512 }) (fun j => ⟨[(1, .ptr 1000 0), (2, .ptr 1008 0), (3, .ptr 1016 0), (6, .i64 ((j.1 : Nat) : Int))], [(1000, some ⟨.agg64 (wl x), 92, true⟩), (1008, some ⟨.agg64 (List.replicate 4 0), 95, true⟩), (1016, some ⟨.agg64 (fl (rdN x j.1)), 95, true⟩), (22, some ⟨.agg64 orderL, e, false⟩)], 1024⟩) (fun j => 512 - j.1) ⟨0, Nat.zero_le _⟩ (StLe.mk [(1000, 1000), (1008, 1008), (1016, 1016)] rfl rfl ⟨⟨_, rfl, by first | rfl | (simp only [AV.ren]; congr 1; omega), rfl⟩, ⟨_, rfl, by first | rfl | (simp only [AV.ren]; congr 1; omega), rfl⟩, ⟨_, rfl, by first | rfl | (simp only [AV.ren]; congr 1; omega), rfl⟩, ⟨_, rfl, by first | rfl | (simp only [AV.ren]; congr 1; omega), rfl⟩, trivial⟩ ⟨⟨_, _, rfl, rfl, by first | rfl | (simp only [AV.ren]; congr 1; omega), rfl, id, rfl⟩, ⟨_, _, rfl, rfl, by first | rfl | (simp only [AV.ren]; congr 1; omega), rfl, id, rfl⟩, ⟨_, _, rfl, rfl, by (show AV.agg64 _ = AV.agg64 _; exact congrArg AV.agg64 zero_fl), rfl, id, rfl⟩, ⟨_, _, rfl, rfl, by first | rfl | (simp only [AV.ren]; congr 1; omega), rfl, id, rfl⟩, trivial⟩) ?_
  rintro ⟨j, hj⟩
  dsimp only
  have hr := rdN_lt x j
  have hbt : (UInt64.ofNat (x / 2 ^ (511 - j) % 2)).toNat = x / 2 ^ (511 - j) % 2 := by rw [ofNat_64, Nat.mod_eq_of_lt (by omega)]
  have hlw : (wl x).length = 8 := rfl
  refine .seq ?_
  refine .region ?_
  refine .q (op_cmpI rfl rfl rfl) trivial rfl ?_
  refine .nil ?_
  show Ev _ _ _ _ _
  refine .seq ?_
  refine .cond rfl (fun hc7 => ?_) (fun hc7 => ?_)
  · first | replace hc7 := of_decide_eq_true hc7 | replace hc7 := of_decide_eq_false hc7 | replace hc7 := eq_of_beq hc7 | replace hc7 := ne_of_beq_false hc7 | simp only [bne_iff_ne, ne_eq] at hc7 | simp only [bne_eq_false_iff_eq] at hc7
    refine .skip ?_
    show Ev _ _ _ _ _
    refine .seq ?_
    refine .block ?_
    refine .seq ?_
    refine .region ?_
    refine .q (op_move rfl) trivial rfl ?_
    refine .q (op_assign rfl) trivial rfl ?_
    refine .nil ?_
    show Ev _ _ _ _ _
    refine .seq ?_
    refine .region ?_
    refine .q (op_move rfl) trivial rfl ?_
    refine .q (op_subI rfl rfl ⟨by first | omega | (simp only [AV.len]; omega) | (simp only [AV.len, List.length_set]; omega) | assumption | (simp [AV.len]; done), by first | omega | (simp only [AV.len]; omega) | (simp only [AV.len, List.length_set]; omega) | assumption | (simp [AV.len]; done)⟩) trivial rfl ?_
    refine .as (.i64 ((511 - j : Nat) : Int)) (congrArg AV.i64 (by omega)) ?_
    refine .q (op_assign rfl) trivial rfl ?_
    refine .nil ?_
    show Ev _ _ _ _ _
    refine .drawn [[], [], [1], [1, 2], [1, 2, 3], [], [5], [1, 2, 3, 4, 5, 6], [1, 2, 3, 4, 5, 6, 7], [0, 1, 2, 3, 4, 5, 6, 7, 8], [0, 1, 2, 3, 4, 5, 6, 7, 8, 9], [0, 1, 2, 3, 4, 5, 6, 7, 8, 9, 10]] [0, 4, 9, 10, 11] [11] (by kernel_rfl) (by kernel_rfl) rfl ?_
    show DK _ [0, 1, 2, 3, 4, 5, 6, 7, 8, 9, 10, 11] _ _ _
    refine .q rfl (op_loadRow Tryd.underlying95 rfl sz95 rfl rfl rfl (rfl)) trivial ?_
    refine .q rfl (op_move rfl) trivial ?_
    refine .q rfl (op_quoI rfl rfl ⟨by first | omega | (simp only [AV.len]; omega) | (simp only [AV.len, List.length_set]; omega) | assumption | (simp [AV.len]; done), ⟨by first | omega | (simp only [AV.len]; omega) | (simp only [AV.len, List.length_set]; omega) | assumption | (simp [AV.len]; done), by first | omega | (simp only [AV.len]; omega) | (simp only [AV.len, List.length_set]; omega) | assumption | (simp [AV.len]; done)⟩, by first | omega | (simp only [AV.len]; omega) | (simp only [AV.len, List.length_set]; omega) | assumption | (simp [AV.len]; done)⟩) trivial ?_
    refine .q rfl (ap_idx_arr Tryd.underlying92 inf45.sz rfl rfl (i := (511 - j) / 64) (by omega) (by omega)) trivial ?_
    refine .q rfl (op_load Tryd.underlying45 rfl rfl rfl rfl (by show (511 - j) / 64 < (wl x).length; omega)) trivial ?_
    refine .q rfl (op_move rfl) trivial ?_
    refine .q rfl (op_remI rfl rfl ⟨by first | omega | (simp only [AV.len]; omega) | (simp only [AV.len, List.length_set]; omega) | assumption | (simp [AV.len]; done), by first | omega | (simp only [AV.len]; omega) | (simp only [AV.len, List.length_set]; omega) | assumption | (simp [AV.len]; done)⟩) trivial ?_
    refine .q rfl (op_shr64 (n := (511 - j) % 64) rfl rfl (by simp only [shiftBy]; rw [show (((511 - j : Nat) : Int)) % 64 = (((511 - j) % 64 : Nat) : Int) by omega]) (by omega)) trivial ?_
    refine .q rfl (op_bin64 rfl rfl rfl) trivial ?_
    refine .as (.u64 (UInt64.ofNat (x / 2 ^ (511 - j) % 2))) (congrArg AV.u64 (wl_bit x (511 - j) (by omega))) ?_
    refine .q rfl (op_call (U := []) [] [] (twice_ev (rdN x j) (UInt64.ofNat (x / 2 ^ (511 - j) % 2)) (by rw [hbt]; omega) (by unfold scL at hr; omega)) Tryd.func132 (by kernel_rfl) rfl rfl rfl (⟨⟨_, rfl, rfl, rfl⟩, ⟨_, rfl, rfl, rfl⟩, trivial⟩) (trivial) (trivial) (trivial) rfl) trivial ?_
    refine .as (.agg64 (fl (2 * rdN x j + x / 2 ^ (511 - j) % 2))) (by rw [hbt]; rfl) ?_
    refine .q rfl (op_call (U := []) [] [] (less_ev e (2 * rdN x j + x / 2 ^ (511 - j) % 2) (by omega)) Tryd.func131 (by kernel_rfl) rfl rfl rfl (⟨⟨_, rfl, rfl, rfl⟩, trivial⟩) (⟨⟨_, _, rfl, rfl, rfl, rfl, id, rfl⟩, trivial⟩) (trivial) (⟨(fun h => by cases h), trivial⟩) rfl) trivial ?_
    refine .w rfl (op_storeRow sz95 rfl rfl rfl rfl rfl (rfl) (rfl)) trivial rfl rfl ?_
    refine .nil ?_
    show Ev _ _ _ _ _
    refine .region ?_
    refine .q (op_addI rfl rfl ⟨by first | omega | (simp only [AV.len]; omega) | (simp only [AV.len, List.length_set]; omega) | assumption | (simp [AV.len]; done), by first | omega | (simp only [AV.len]; omega) | (simp only [AV.len, List.length_set]; omega) | assumption | (simp [AV.len]; done)⟩) trivial rfl ?_
    refine .q (op_move rfl) trivial rfl ?_
    refine .nil ?_
    exact ⟨⟨j + 1, by omega⟩, by show 512 - (j + 1) < 512 - j; omega, StLe.mk [(1000, 1000), (1008, 1008), (1016, 1016)] rfl rfl ⟨⟨_, rfl, by first | rfl | (simp only [AV.ren]; congr 1; omega), rfl⟩, ⟨_, rfl, by first | rfl | (simp only [AV.ren]; congr 1; omega), rfl⟩, ⟨_, rfl, by first | rfl | (simp only [AV.ren]; congr 1; omega), rfl⟩, ⟨_, rfl, by first | rfl | (simp only [AV.ren]; congr 1; omega), rfl⟩, trivial⟩ ⟨⟨_, _, rfl, rfl, by first | rfl | (simp only [AV.ren]; congr 1; omega), rfl, id, rfl⟩, ⟨_, _, rfl, rfl, by first | rfl | (simp only [AV.ren]; congr 1; omega), rfl, id, rfl⟩, ⟨_, _, rfl, rfl, by first | rfl | (simp only [AV.ren]; congr 1; omega), rfl, id, rfl⟩, ⟨_, _, rfl, rfl, by first | rfl | (simp only [AV.ren]; congr 1; omega), rfl, id, rfl⟩, trivial⟩⟩
  · first | replace hc7 := of_decide_eq_true hc7 | replace hc7 := of_decide_eq_false hc7 | replace hc7 := eq_of_beq hc7 | replace hc7 := ne_of_beq_false hc7 | simp only [bne_iff_ne, ne_eq] at hc7 | simp only [bne_eq_false_iff_eq] at hc7
    refine .exit ?_
    show Ev _ _ _ _ _
    have ej : j = 512 := by omega
    refine Ev.weak (st2 := ⟨[(1, .ptr 1000 0), (2, .ptr 1008 0), (3, .ptr 1016 0), (6, .i64 (((512) : Nat) : Int))], [(1000, some ⟨.agg64 (wl x), 92, true⟩), (1008, some ⟨.agg64 (List.replicate 4 0), 95, true⟩), (1016, some ⟨.agg64 (fl (rdN x (512))), 95, true⟩), (22, some ⟨.agg64 orderL, e, false⟩)], 1024⟩) (StLe.mk [(1000, 1000), (1008, 1008), (1016, 1016)] rfl rfl ⟨⟨_, rfl, by first | (simp only [AV.ren]; done) | (simp only [AV.ren]; rw [ej]; done) | rfl, rfl⟩, ⟨_, rfl, by first | (simp only [AV.ren]; done) | (simp only [AV.ren]; rw [ej]; done) | rfl, rfl⟩, ⟨_, rfl, by first | (simp only [AV.ren]; done) | (simp only [AV.ren]; rw [ej]; done) | rfl, rfl⟩, ⟨_, rfl, by first | (simp only [AV.ren]; done) | (simp only [AV.ren]; rw [ej]; done) | rfl, rfl⟩, trivial⟩ ⟨⟨_, _, rfl, rfl, by first | (simp only [AV.ren]; done) | (simp only [AV.ren]; rw [ej]; done) | rfl, rfl, id, rfl⟩, ⟨_, _, rfl, rfl, by first | (simp only [AV.ren]; done) | (simp only [AV.ren]; rw [ej]; done) | rfl, rfl, id, rfl⟩, ⟨_, _, rfl, rfl, by first | (simp only [AV.ren]; done) | (simp only [AV.ren]; rw [ej]; done) | rfl, rfl, id, rfl⟩, ⟨_, _, rfl, rfl, by first | (simp only [AV.ren]; done) | (simp only [AV.ren]; rw [ej]; done) | rfl, rfl, id, rfl⟩, trivial⟩) ?_
    refine .seq ?_
    refine .region ?_
    refine .q (op_loadRow Tryd.underlying95 rfl sz95 rfl rfl rfl (rfl)) trivial rfl ?_
    refine .as (.agg64 (fl (x % scL))) (by rw [rdN_end x hx]) ?_
    refine .w (op_storeRow sz95 rfl rfl rfl rfl rfl (rfl) (rfl)) trivial rfl ?_
    refine .nil ?_
    show Ev _ _ _ _ _
    refine .ret ?_
    show RetOk _ _ _ _ _ _ _
    exact retc1 rfl (.inl rfl) ⟨_, _, _, _, rfl, rfl, rfl, rfl, (rfl), Tryd.underlying95, rfl, sz95⟩ trivial
set_option maxRecDepth 100000 in
theorem psum_ev (a b z : Nat) (ha : a < 115792089237316195423570985008687907853269984665640564039457584007913129639936) (hb : b < 115792089237316195423570985008687907853269984665640564039457584007913129639936) (hz : z < 115792089237316195423570985008687907853269984665640564039457584007913129639936) : Meets Tryd.prog 75 [.agg64 (fl a), .agg64 (fl b), .agg64 (fl z)] [] (.agg64 (wl (a * b + z))) [] := by
  refine meets_of_ev (nt := 47) Tryd.func75 rfl rfl (Nat.le_of_ble_eq_true rfl) ?_
  refine .seq ?_
  refine .region ?_
  refine .a (op_boxRow rfl rfl) trivial rfl ?_
  refine .a (op_boxRow rfl rfl) trivial rfl ?_
  refine .a (op_boxRow rfl rfl) trivial rfl ?_
  refine .a (op_allocRow zero92 rel_zero92 rfl) trivial rfl ?_
  refine .nil ?_
  show Ev _ _ _ _ _
  refine .seq ?_
  refine .region ?_
  refine .a (op_allocRow zero92 rel_zero92 rfl) trivial rfl ?_
  refine .nil ?_
  show Ev _ _ _ _ _
  refine .seq ?_
  refine .drawn [[], [], [0, 1]] [0, 1, 2] [2] (by kernel_rfl) (by kernel_rfl) rfl ?_
  show DK _ [0, 1, 2] _ _ _
  refine .q rfl (ap_slice_arr_hi Tryd.underlying92 inf45.sz rfl rfl (by first | decide | (simp [AV.len]; done)) (by decide) rfl (by first | decide | (simp [AV.len]; done))) trivial ?_
  refine .q rfl (ap_slice_arr_hi Tryd.underlying95 inf45.sz rfl rfl (by first | decide | exact Nat.le_refl 4) (by decide) rfl (by first | decide | exact Nat.le_refl 4)) trivial ?_
  refine .a rfl (op_copy (q := 4) (c' := .agg64 (psO (fl a) (fl b) (fl z) 0)) Tryd.underlying154 inf45.sz rfl rfl rfl (srcs_sl rfl rfl (by first | decide | exact Nat.le_refl 4)) (by first | decide | exact Nat.le_refl 4) (by first | rfl | omega) (rfl)) trivial rfl rfl ?_
  refine .nil ?_
  show Ev _ _ _ _ _
  refine .seq ?_
  refine .seq ?_
  refine .region ?_
  refine .q (op_move rfl) trivial rfl ?_
  refine .nil ?_
  show Ev _ _ _ _ _
  refine .block ?_
  refine Ev.loop (ι := { j : Nat // j ≤ 4 }) (fun j => ⟨[(3, .ptr 1000 0), (4, .ptr 1008 0), (5, .ptr 1016 0), (6, .ptr 1024 0), (7, .ptr 1032 0), (14, .i64 ((j.1 : Nat) : Int))], [(1000, some ⟨.agg64 (fl a), 95, true⟩), (1008, some ⟨.agg64 (fl b), 95, true⟩), (1016, some ⟨.agg64 (fl z), 95, true⟩), (1024, some ⟨.agg64 (List.replicate 8 0), 92, true⟩), (1032, some ⟨.agg64 (psO (fl a) (fl b) (fl z) j.1), 92, true⟩)], 1064⟩) (fun j => 4 - j.1) ⟨0, Nat.zero_le _⟩ (StLe.mk [(1000, 1000), (1008, 1008), (1016, 1016), (1024, 1024), (1032, 1032)] rfl rfl ⟨⟨_, rfl, by first | rfl | (simp only [AV.ren]; congr 1; omega), rfl⟩, ⟨_, rfl, by first | rfl | (simp only [AV.ren]; congr 1; omega), rfl⟩, ⟨_, rfl, by first | rfl | (simp only [AV.ren]; congr 1; omega), rfl⟩, ⟨_, rfl, by first | rfl | (simp only [AV.ren]; congr 1; omega), rfl⟩, ⟨_, rfl, by first | rfl | (simp only [AV.ren]; congr 1; omega), rfl⟩, ⟨_, rfl, by first | rfl | (simp only [AV.ren]; congr 1; omega), rfl⟩, trivial⟩ ⟨⟨_, _, rfl, rfl, by first | rfl | (simp only [AV.ren]; congr 1; omega), rfl, id, rfl⟩, ⟨_, _, rfl, rfl, by first | rfl | (simp only [AV.ren]; congr 1; omega), rfl, id, rfl⟩, ⟨_, _, rfl, rfl, by first | rfl | (simp only [AV.ren]; congr 1; omega), rfl, id, rfl⟩, ⟨_, _, rfl, rfl, by first | rfl | (simp only [AV.ren]; congr 1; omega), rfl, id, rfl⟩, ⟨_, _, rfl, rfl, by first | rfl | (simp only [AV.ren]; congr 1; omega), rfl, id, rfl⟩, trivial⟩) ?_
  rintro ⟨i, hi⟩
  dsimp only
  have hlo : (psO (fl a) (fl b) (fl z) i).length = 8 := length_psO _ _ _ rfl i
  have hlf : ∀ q, (fl q).length = 4 := fun _ => rfl
  refine .seq ?_
  refine .region ?_
  refine .q (op_cmpI rfl rfl rfl) trivial rfl ?_
  refine .nil ?_
  show Ev _ _ _ _ _
  refine .seq ?_
  refine .cond rfl (fun hc15 => ?_) (fun hc15 => ?_)
  · first | replace hc15 := of_decide_eq_true hc15 | replace hc15 := of_decide_eq_false hc15 | replace hc15 := eq_of_beq hc15 | replace hc15 := ne_of_beq_false hc15 | simp only [bne_iff_ne, ne_eq] at hc15 | simp only [bne_eq_false_iff_eq] at hc15
    refine .skip ?_
    show Ev _ _ _ _ _
    refine .seq ?_
    refine .block ?_
    refine .seq ?_
    refine .region ?_
    refine .q (op_move rfl) trivial rfl ?_
    refine .q (op_assign rfl) trivial rfl ?_
    refine .nil ?_
    show Ev _ _ _ _ _
    refine .seq ?_
    refine .region ?_
    refine .q (op_assign rfl) trivial rfl ?_
    refine .nil ?_
    show Ev _ _ _ _ _
    refine .seq ?_
    refine .seq ?_
    refine .region ?_
    refine .q (op_move rfl) trivial rfl ?_
    refine .nil ?_
    show Ev _ _ _ _ _
    refine .block ?_
    refine Ev.loop (ι := { j : Nat // j ≤ 4 }) (fun j => ⟨[(3, .ptr 1000 0), (4, .ptr 1008 0), (5, .ptr 1016 0), (6, .ptr 1024 0), (7, .ptr 1032 0), (8, .i64 ((i : Nat) : Int)), (14, .i64 ((i : Nat) : Int)), (9, .u64 (mulI (fl a) (fl b) i (psO (fl a) (fl b) (fl z) i) j.1).2), (17, .i64 ((j.1 : Nat) : Int))], [(1000, some ⟨.agg64 (fl a), 95, true⟩), (1008, some ⟨.agg64 (fl b), 95, true⟩), (1016, some ⟨.agg64 (fl z), 95, true⟩), (1024, some ⟨.agg64 (List.replicate 8 0), 92, true⟩), (1032, some ⟨.agg64 (mulI (fl a) (fl b) i (psO (fl a) (fl b) (fl z) i) j.1).1, 92, true⟩)], 1064⟩) (fun j => 4 - j.1) ⟨0, Nat.zero_le _⟩ (StLe.mk [(1000, 1000), (1008, 1008), (1016, 1016), (1024, 1024), (1032, 1032)] rfl rfl ⟨⟨_, rfl, by first | rfl | (simp only [AV.ren]; congr 1; omega), rfl⟩, ⟨_, rfl, by first | rfl | (simp only [AV.ren]; congr 1; omega), rfl⟩, ⟨_, rfl, by first | rfl | (simp only [AV.ren]; congr 1; omega), rfl⟩, ⟨_, rfl, by first | rfl | (simp only [AV.ren]; congr 1; omega), rfl⟩, ⟨_, rfl, by first | rfl | (simp only [AV.ren]; congr 1; omega), rfl⟩, ⟨_, rfl, by first | rfl | (simp only [AV.ren]; congr 1; omega), rfl⟩, ⟨_, rfl, by first | rfl | (simp only [AV.ren]; congr 1; omega), rfl⟩, ⟨_, rfl, by first | rfl | (simp only [AV.ren]; congr 1; omega), rfl⟩, ⟨_, rfl, by first | rfl | (simp only [AV.ren]; congr 1; omega), rfl⟩, trivial⟩ ⟨⟨_, _, rfl, rfl, by first | rfl | (simp only [AV.ren]; congr 1; omega), rfl, id, rfl⟩, ⟨_, _, rfl, rfl, by first | rfl | (simp only [AV.ren]; congr 1; omega), rfl, id, rfl⟩, ⟨_, _, rfl, rfl, by first | rfl | (simp only [AV.ren]; congr 1; omega), rfl, id, rfl⟩, ⟨_, _, rfl, rfl, by first | rfl | (simp only [AV.ren]; congr 1; omega), rfl, id, rfl⟩, ⟨_, _, rfl, rfl, by first | rfl | (simp only [AV.ren]; congr 1; omega), rfl, id, rfl⟩, trivial⟩) ?_
    rintro ⟨j, hj⟩
    dsimp only
    have hli : (mulI (fl a) (fl b) i (psO (fl a) (fl b) (fl z) i) j).1.length = 8 := by rw [length_mulI]; exact hlo
    refine .seq ?_
    refine .region ?_
    refine .q (op_cmpI rfl rfl rfl) trivial rfl ?_
    refine .nil ?_
    show Ev _ _ _ _ _
    refine .seq ?_
    refine .cond rfl (fun hc18 => ?_) (fun hc18 => ?_)
    · first | replace hc18 := of_decide_eq_true hc18 | replace hc18 := of_decide_eq_false hc18 | replace hc18 := eq_of_beq hc18 | replace hc18 := ne_of_beq_false hc18 | simp only [bne_iff_ne, ne_eq] at hc18 | simp only [bne_eq_false_iff_eq] at hc18
      refine .skip ?_
      show Ev _ _ _ _ _
      refine .seq ?_
      refine .block ?_
      refine .seq ?_
      refine .region ?_
      refine .q (op_move rfl) trivial rfl ?_
      refine .q (op_assign rfl) trivial rfl ?_
      refine .nil ?_
      show Ev _ _ _ _ _
      refine .drawn [[], [], [0, 1], [], [3], [3, 4], [], [6], [6, 7], [], [], [9, 10], [9, 10, 11], [9, 10, 11, 12], [], [3, 4, 5, 6, 7, 8, 9, 10, 11, 12, 13, 14], [3, 4, 5, 6, 7, 8, 9, 10, 11, 12, 13, 14, 15], [3, 4, 5, 6, 7, 8, 9, 10, 11, 12, 13, 14, 15, 16], [3, 4, 5, 6, 7, 8, 9, 10, 11, 12, 13, 14, 15, 16], [3, 4, 5, 6, 7, 8, 9, 10, 11, 12, 13, 14, 15, 16, 17], [0, 1, 2, 3, 4, 5, 6, 7, 8, 9, 10, 11, 12, 13, 14, 15, 16, 17, 18, 19], [0, 1, 2, 3, 4, 5, 6, 7, 8, 9, 10, 11, 12, 13, 14, 15, 16, 17, 18, 19, 20]] [5, 8, 13, 15, 21] [21] (by kernel_rfl) (by kernel_rfl) rfl ?_
      show DK _ [0, 1, 2, 3, 4, 5, 6, 7, 8, 9, 10, 11, 12, 13, 14, 15, 16, 17, 18, 19, 20, 21] _ _ _
      refine .q rfl (op_move rfl) trivial ?_
      refine .q rfl (op_move rfl) trivial ?_
      refine .q rfl (op_addI rfl rfl ⟨by first | omega | (simp only [AV.len]; omega) | (simp only [AV.len, List.length_set]; omega) | assumption | (simp [AV.len]; done), by first | omega | (simp only [AV.len]; omega) | (simp only [AV.len, List.length_set]; omega) | assumption | (simp [AV.len]; done)⟩) trivial ?_
      refine .q rfl (op_move rfl) trivial ?_
      refine .q rfl (ap_idx_arr Tryd.underlying95 inf45.sz rfl rfl rfl (by first | omega | (simp only [AV.len]; omega) | (simp only [AV.len, List.length_set]; omega) | assumption | (simp [AV.len]; done))) trivial ?_
      refine .q rfl (op_load Tryd.underlying45 rfl rfl rfl rfl (by show _ < 4; omega)) trivial ?_
      refine .q rfl (op_move rfl) trivial ?_
      refine .q rfl (ap_idx_arr Tryd.underlying95 inf45.sz rfl rfl rfl (by first | omega | (simp only [AV.len]; omega) | (simp only [AV.len, List.length_set]; omega) | assumption | (simp [AV.len]; done))) trivial ?_
      refine .q rfl (op_load Tryd.underlying45 rfl rfl rfl rfl (by show _ < 4; omega)) trivial ?_
      refine .q rfl (op_move rfl) trivial ?_
      refine .q rfl (op_move rfl) trivial ?_
      refine .q rfl (op_addI rfl rfl ⟨by first | omega | (simp only [AV.len]; omega) | (simp only [AV.len, List.length_set]; omega) | assumption | (simp [AV.len]; done), by first | omega | (simp only [AV.len]; omega) | (simp only [AV.len, List.length_set]; omega) | assumption | (simp [AV.len]; done)⟩) trivial ?_
      refine .q rfl (ap_idx_arr Tryd.underlying92 inf45.sz rfl rfl (i := i + j) (by omega) (by omega)) trivial ?_
      refine .q rfl (op_load Tryd.underlying45 rfl rfl rfl rfl (by first | omega | (simp only [AV.len]; omega) | (simp only [AV.len, List.length_set]; omega) | assumption | (simp [AV.len]; done))) trivial ?_
      refine .q rfl (op_move rfl) trivial ?_
      refine .q rfl (op_call (U := []) [] [] (smd_ev _ _ _ _) Tryd.func134 (by kernel_rfl) rfl rfl rfl (⟨⟨_, rfl, rfl, rfl⟩, ⟨_, rfl, rfl, rfl⟩, ⟨_, rfl, rfl, rfl⟩, ⟨_, rfl, rfl, rfl⟩, trivial⟩) (trivial) (trivial) (trivial) rfl) trivial ?_
      refine .q rfl (op_move rfl) trivial ?_
      refine .q rfl (op_extract rfl rfl) trivial ?_
      refine .q rfl (op_extract rfl rfl) trivial ?_
      refine .q rfl (op_assign rfl) trivial ?_
      refine .q rfl (ap_idx_arr Tryd.underlying92 inf45.sz rfl rfl (i := i + j) (by omega) (by omega)) trivial ?_
      refine .w rfl (op_store inf45.sz rfl rfl rfl rfl rfl (by first | omega | (simp only [AV.len]; omega) | (simp only [AV.len, List.length_set]; omega) | assumption | (simp [AV.len]; done))) trivial rfl rfl ?_
      refine .nil ?_
      show Ev _ _ _ _ _
      refine .region ?_
      refine .q (op_addI rfl rfl ⟨by first | omega | (simp only [AV.len]; omega) | (simp only [AV.len, List.length_set]; omega) | assumption | (simp [AV.len]; done), by first | omega | (simp only [AV.len]; omega) | (simp only [AV.len, List.length_set]; omega) | assumption | (simp [AV.len]; done)⟩) trivial rfl ?_
      refine .q (op_move rfl) trivial rfl ?_
      refine .nil ?_
      exact ⟨⟨j + 1, by omega⟩, by show 4 - (j + 1) < 4 - j; omega, StLe.mk [(1000, 1000), (1008, 1008), (1016, 1016), (1024, 1024), (1032, 1032)] rfl rfl ⟨⟨_, rfl, by first | rfl | (simp only [AV.ren]; congr 1; omega), rfl⟩, ⟨_, rfl, by first | rfl | (simp only [AV.ren]; congr 1; omega), rfl⟩, ⟨_, rfl, by first | rfl | (simp only [AV.ren]; congr 1; omega), rfl⟩, ⟨_, rfl, by first | rfl | (simp only [AV.ren]; congr 1; omega), rfl⟩, ⟨_, rfl, by first | rfl | (simp only [AV.ren]; congr 1; omega), rfl⟩, ⟨_, rfl, by first | rfl | (simp only [AV.ren]; congr 1; omega), rfl⟩, ⟨_, rfl, by first | rfl | (simp only [AV.ren]; congr 1; omega), rfl⟩, ⟨_, rfl, by first | rfl | (simp only [AV.ren]; congr 1; omega), rfl⟩, ⟨_, rfl, by first | rfl | (simp only [AV.ren]; congr 1; omega), rfl⟩, trivial⟩ ⟨⟨_, _, rfl, rfl, by first | rfl | (simp only [AV.ren]; congr 1; omega), rfl, id, rfl⟩, ⟨_, _, rfl, rfl, by first | rfl | (simp only [AV.ren]; congr 1; omega), rfl, id, rfl⟩, ⟨_, _, rfl, rfl, by first | rfl | (simp only [AV.ren]; congr 1; omega), rfl, id, rfl⟩, ⟨_, _, rfl, rfl, by first | rfl | (simp only [AV.ren]; congr 1; omega), rfl, id, rfl⟩, ⟨_, _, rfl, rfl, by first | rfl | (simp only [AV.ren]; congr 1; omega), rfl, id, rfl⟩, trivial⟩⟩
    · first | replace hc18 := of_decide_eq_true hc18 | replace hc18 := of_decide_eq_false hc18 | replace hc18 := eq_of_beq hc18 | replace hc18 := ne_of_beq_false hc18 | simp only [bne_iff_ne, ne_eq] at hc18 | simp only [bne_eq_false_iff_eq] at hc18
      refine .exit ?_
      show Ev _ _ _ _ _
      have ej : j = 4 := by omega
      refine Ev.weak (st2 := ⟨[(3, .ptr 1000 0), (4, .ptr 1008 0), (5, .ptr 1016 0), (6, .ptr 1024 0), (7, .ptr 1032 0), (8, .i64 ((i : Nat) : Int)), (14, .i64 ((i : Nat) : Int)), (9, .u64 (mulI (fl a) (fl b) i (psO (fl a) (fl b) (fl z) i) (4)).2), (17, .i64 (((4) : Nat) : Int))], [(1000, some ⟨.agg64 (fl a), 95, true⟩), (1008, some ⟨.agg64 (fl b), 95, true⟩), (1016, some ⟨.agg64 (fl z), 95, true⟩), (1024, some ⟨.agg64 (List.replicate 8 0), 92, true⟩), (1032, some ⟨.agg64 (mulI (fl a) (fl b) i (psO (fl a) (fl b) (fl z) i) (4)).1, 92, true⟩)], 1064⟩) (StLe.mk [(1000, 1000), (1008, 1008), (1016, 1016), (1024, 1024), (1032, 1032)] rfl rfl ⟨⟨_, rfl, by first | (simp only [AV.ren]; done) | (simp only [AV.ren]; rw [ej]; done) | rfl, rfl⟩, ⟨_, rfl, by first | (simp only [AV.ren]; done) | (simp only [AV.ren]; rw [ej]; done) | rfl, rfl⟩, ⟨_, rfl, by first | (simp only [AV.ren]; done) | (simp only [AV.ren]; rw [ej]; done) | rfl, rfl⟩, ⟨_, rfl, by first | (simp only [AV.ren]; done) | (simp only [AV.ren]; rw [ej]; done) | rfl, rfl⟩, ⟨_, rfl, by first | (simp only [AV.ren]; done) | (simp only [AV.ren]; rw [ej]; done) | rfl, rfl⟩, ⟨_, rfl, by first | (simp only [AV.ren]; done) | (simp only [AV.ren]; rw [ej]; done) | rfl, rfl⟩, ⟨_, rfl, by first | (simp only [AV.ren]; done) | (simp only [AV.ren]; rw [ej]; done) | rfl, rfl⟩, ⟨_, rfl, by first | (simp only [AV.ren]; done) | (simp only [AV.ren]; rw [ej]; done) | rfl, rfl⟩, ⟨_, rfl, by first | (simp only [AV.ren]; done) | (simp only [AV.ren]; rw [ej]; done) | rfl, rfl⟩, trivial⟩ ⟨⟨_, _, rfl, rfl, by first | (simp only [AV.ren]; done) | (simp only [AV.ren]; rw [ej]; done) | rfl, rfl, id, rfl⟩, ⟨_, _, rfl, rfl, by first | (simp only [AV.ren]; done) | (simp only [AV.ren]; rw [ej]; done) | rfl, rfl, id, rfl⟩, ⟨_, _, rfl, rfl, by first | (simp only [AV.ren]; done) | (simp only [AV.ren]; rw [ej]; done) | rfl, rfl, id, rfl⟩, ⟨_, _, rfl, rfl, by first | (simp only [AV.ren]; done) | (simp only [AV.ren]; rw [ej]; done) | rfl, rfl, id, rfl⟩, ⟨_, _, rfl, rfl, by first | (simp only [AV.ren]; done) | (simp only [AV.ren]; rw [ej]; done) | rfl, rfl, id, rfl⟩, trivial⟩) ?_
      refine .region ?_
      refine .q (op_move rfl) trivial rfl ?_
      refine .q (op_addI rfl rfl ⟨by first | omega | (simp only [AV.len]; omega) | (simp only [AV.len, List.length_set]; omega) | assumption | (simp [AV.len]; done), by first | omega | (simp only [AV.len]; omega) | (simp only [AV.len, List.length_set]; omega) | assumption | (simp [AV.len]; done)⟩) trivial rfl ?_
      refine .q (op_move rfl) trivial rfl ?_
      refine .q (ap_idx_arr Tryd.underlying92 inf45.sz rfl rfl (i := i + 4) (by omega) (by omega)) trivial rfl ?_
      refine .w (op_store inf45.sz rfl rfl rfl rfl rfl (by show i + 4 < (mulI (fl a) (fl b) i (psO (fl a) (fl b) (fl z) i) 4).1.length; rw [length_mulI]; omega)) trivial rfl ?_
      refine .nil ?_
      show Ev _ _ _ _ _
      refine .region ?_
      refine .q (op_addI rfl rfl ⟨by first | omega | (simp only [AV.len]; omega) | (simp only [AV.len, List.length_set]; omega) | assumption | (simp [AV.len]; done), by first | omega | (simp only [AV.len]; omega) | (simp only [AV.len, List.length_set]; omega) | assumption | (simp [AV.len]; done)⟩) trivial rfl ?_
      refine .q (op_move rfl) trivial rfl ?_
      refine .nil ?_
      exact ⟨⟨i + 1, by omega⟩, by show 4 - (i + 1) < 4 - i; omega, StLe.mk [(1000, 1000), (1008, 1008), (1016, 1016), (1024, 1024), (1032, 1032)] rfl rfl ⟨⟨_, rfl, by first | rfl | (simp only [AV.ren]; congr 1; omega), rfl⟩, ⟨_, rfl, by first | rfl | (simp only [AV.ren]; congr 1; omega), rfl⟩, ⟨_, rfl, by first | rfl | (simp only [AV.ren]; congr 1; omega), rfl⟩, ⟨_, rfl, by first | rfl | (simp only [AV.ren]; congr 1; omega), rfl⟩, ⟨_, rfl, by first | rfl | (simp only [AV.ren]; congr 1; omega), rfl⟩, ⟨_, rfl, by first | rfl | (simp only [AV.ren]; congr 1; omega), rfl⟩, trivial⟩ ⟨⟨_, _, rfl, rfl, by first | rfl | (simp only [AV.ren]; congr 1; omega), rfl, id, rfl⟩, ⟨_, _, rfl, rfl, by first | rfl | (simp only [AV.ren]; congr 1; omega), rfl, id, rfl⟩, ⟨_, _, rfl, rfl, by first | rfl | (simp only [AV.ren]; congr 1; omega), rfl, id, rfl⟩, ⟨_, _, rfl, rfl, by first | rfl | (simp only [AV.ren]; congr 1; omega), rfl, id, rfl⟩, ⟨_, _, rfl, rfl, by first | rfl | (simp only [AV.ren]; congr 1; omega), rfl, id, rfl⟩, trivial⟩⟩
  · first | replace hc15 := of_decide_eq_true hc15 | replace hc15 := of_decide_eq_false hc15 | replace hc15 := eq_of_beq hc15 | replace hc15 := ne_of_beq_false hc15 | simp only [bne_iff_ne, ne_eq] at hc15 | simp only [bne_eq_false_iff_eq] at hc15
    refine .exit ?_
    show Ev _ _ _ _ _
    have ei : i = 4 := by omega
    refine Ev.weak (st2 := ⟨[(3, .ptr 1000 0), (4, .ptr 1008 0), (5, .ptr 1016 0), (6, .ptr 1024 0), (7, .ptr 1032 0), (14, .i64 (((4) : Nat) : Int))], [(1000, some ⟨.agg64 (fl a), 95, true⟩), (1008, some ⟨.agg64 (fl b), 95, true⟩), (1016, some ⟨.agg64 (fl z), 95, true⟩), (1024, some ⟨.agg64 (List.replicate 8 0), 92, true⟩), (1032, some ⟨.agg64 (psO (fl a) (fl b) (fl z) (4)), 92, true⟩)], 1064⟩) (StLe.mk [(1000, 1000), (1008, 1008), (1016, 1016), (1024, 1024), (1032, 1032)] rfl rfl ⟨⟨_, rfl, by first | (simp only [AV.ren]; done) | (simp only [AV.ren]; rw [ei]; done) | rfl, rfl⟩, ⟨_, rfl, by first | (simp only [AV.ren]; done) | (simp only [AV.ren]; rw [ei]; done) | rfl, rfl⟩, ⟨_, rfl, by first | (simp only [AV.ren]; done) | (simp only [AV.ren]; rw [ei]; done) | rfl, rfl⟩, ⟨_, rfl, by first | (simp only [AV.ren]; done) | (simp only [AV.ren]; rw [ei]; done) | rfl, rfl⟩, ⟨_, rfl, by first | (simp only [AV.ren]; done) | (simp only [AV.ren]; rw [ei]; done) | rfl, rfl⟩, ⟨_, rfl, by first | (simp only [AV.ren]; done) | (simp only [AV.ren]; rw [ei]; done) | rfl, rfl⟩, trivial⟩ ⟨⟨_, _, rfl, rfl, by first | (simp only [AV.ren]; done) | (simp only [AV.ren]; rw [ei]; done) | rfl, rfl, id, rfl⟩, ⟨_, _, rfl, rfl, by first | (simp only [AV.ren]; done) | (simp only [AV.ren]; rw [ei]; done) | rfl, rfl, id, rfl⟩, ⟨_, _, rfl, rfl, by first | (simp only [AV.ren]; done) | (simp only [AV.ren]; rw [ei]; done) | rfl, rfl, id, rfl⟩, ⟨_, _, rfl, rfl, by first | (simp only [AV.ren]; done) | (simp only [AV.ren]; rw [ei]; done) | rfl, rfl, id, rfl⟩, ⟨_, _, rfl, rfl, by first | (simp only [AV.ren]; done) | (simp only [AV.ren]; rw [ei]; done) | rfl, rfl, id, rfl⟩, trivial⟩) ?_
    refine .seq ?_
    refine .region ?_
    refine .q (op_loadRow Tryd.underlying92 rfl sz92 rfl rfl rfl (by show (psO (fl a) (fl b) (fl z) 4).length = 8; exact length_psO _ _ _ rfl 4)) trivial rfl ?_
    refine .as (.agg64 (wl (a * b + z))) (congrArg AV.agg64 (ps_fl a b z ha hb hz)) ?_
    refine .w (op_storeRow sz92 rfl rfl rfl rfl rfl (rfl) (rfl)) trivial rfl ?_
    refine .nil ?_
    show Ev _ _ _ _ _
    refine .ret ?_
    show RetOk _ _ _ _ _ _ _
    exact retc1 rfl (.inl rfl) ⟨_, _, _, _, rfl, rfl, rfl, rfl, (rfl), Tryd.underlying92, rfl, sz92⟩ trivial
set_option maxRecDepth 100000 in
theorem sreadWord_ev (l : List UInt8) (o n e : Nat) (h : o + n ≤ l.length) (hn : n ≤ 8) : Meets Tryd.prog 68 [.sl 500 o n 1] [(500, some ⟨.aggB l, e, false⟩)] (.u64 (rwN (l.drop o) n)) [(500, some ⟨.aggB l, e, false⟩)] := by
  refine meets_of_ev (nt := 22) Tryd.func68 rfl rfl (Nat.le_of_ble_eq_true rfl) ?_
  refine .seq ?_
  refine .region ?_
  refine .q (op_assign rfl) trivial rfl ?_
  refine .nil ?_
  show Ev _ _ _ _ _
  refine .seq ?_
  refine .region ?_
  refine .q (op_assign rfl) trivial rfl ?_
  refine .nil ?_
  show Ev _ _ _ _ _
  refine .seq ?_
  refine .seq ?_
  refine .region ?_
  refine .q (op_move rfl) trivial rfl ?_
  refine .q (op_len_sl Tryd.underlying26 rfl) trivial rfl ?_
  refine .q (op_move rfl) trivial rfl ?_
  refine .nil ?_
  show Ev _ _ _ _ _
  refine .block ?_
  refine Ev.loop (ι := { j : Nat // j ≤ n }) (fun j => ⟨[(0, .sl 500 o n 1), (3, .u64 (rwN (l.drop o) j.1)), (6, .i64 (n : Int)), (7, .i64 ((j.1 : Nat) : Int))], [(500, some ⟨.aggB l, e, false⟩)], 1000⟩) (fun j => n - j.1) ⟨0, Nat.zero_le _⟩ (StLe.mk [] rfl rfl ⟨⟨_, rfl, by first | rfl | (simp only [AV.ren]; congr 1; omega), rfl⟩, ⟨_, rfl, by first | rfl | (simp only [AV.ren]; congr 1; omega), rfl⟩, ⟨_, rfl, by first | rfl | (simp only [AV.ren]; congr 1; omega), rfl⟩, ⟨_, rfl, by first | rfl | (simp only [AV.ren]; congr 1; omega), rfl⟩, trivial⟩ ⟨⟨_, _, rfl, rfl, by first | rfl | (simp only [AV.ren]; congr 1; omega), rfl, id, rfl⟩, trivial⟩) ?_
  rintro ⟨j, hj⟩
  dsimp only
  refine .seq ?_
  refine .region ?_
  refine .q (op_cmpI rfl rfl rfl) trivial rfl ?_
  refine .nil ?_
  show Ev _ _ _ _ _
  refine .seq ?_
  refine .cond rfl (fun hc8 => ?_) (fun hc8 => ?_)
  · first | replace hc8 := of_decide_eq_true hc8 | replace hc8 := of_decide_eq_false hc8 | replace hc8 := eq_of_beq hc8 | replace hc8 := ne_of_beq_false hc8 | simp only [bne_iff_ne, ne_eq] at hc8 | simp only [bne_eq_false_iff_eq] at hc8
    refine .skip ?_
    show Ev _ _ _ _ _
    refine .seq ?_
    refine .block ?_
    refine .seq ?_
    refine .region ?_
    refine .q (op_move rfl) trivial rfl ?_
    refine .q (op_assign rfl) trivial rfl ?_
    refine .nil ?_
    show Ev _ _ _ _ _
    refine .region ?_
    refine .q (op_move rfl) trivial rfl ?_
    refine .q (op_move rfl) trivial rfl ?_
    refine .q (op_move rfl) trivial rfl ?_
    refine .q (ap_idx Tryd.underlying26 inf5.sz rfl rfl rfl (by first | omega | (simp only [AV.len]; omega) | (simp only [AV.len, List.length_set]; omega) | assumption | (simp [AV.len]; done))) trivial rfl ?_
    refine .q (op_load Tryd.underlying5 rfl rfl rfl rfl (by first | omega | (simp only [AV.len]; omega) | (simp only [AV.len, List.length_set]; omega) | assumption | (simp [AV.len]; done))) trivial rfl ?_
    refine .q (op_conv Tryd.underlying5 Tryd.underlying45 rfl rfl) trivial rfl ?_
    refine .q (op_move rfl) trivial rfl ?_
    refine .q (op_mulI rfl rfl ⟨by first | omega | (simp only [AV.len]; omega) | (simp only [AV.len, List.length_set]; omega) | assumption | (simp [AV.len]; done), by first | omega | (simp only [AV.len]; omega) | (simp only [AV.len, List.length_set]; omega) | assumption | (simp [AV.len]; done)⟩) trivial rfl ?_
    refine .q (op_shl64 (n := 8 * j) rfl rfl (by simp only [shiftBy]; rw [show (8 : Int) * (j : Int) = ((8 * j : Nat) : Int) by omega]) (by omega)) trivial rfl ?_
    refine .q (op_bin64 rfl rfl rfl) trivial rfl ?_
    refine .q (op_assign rfl) trivial rfl ?_
    refine .nil ?_
    show Ev _ _ _ _ _
    refine .region ?_
    refine .q (op_addI rfl rfl ⟨by first | omega | (simp only [AV.len]; omega) | (simp only [AV.len, List.length_set]; omega) | assumption | (simp [AV.len]; done), by first | omega | (simp only [AV.len]; omega) | (simp only [AV.len, List.length_set]; omega) | assumption | (simp [AV.len]; done)⟩) trivial rfl ?_
    refine .q (op_move rfl) trivial rfl ?_
    refine .nil ?_
    exact ⟨⟨j + 1, by omega⟩, by show n - (j + 1) < n - j; omega, StLe.mk [] rfl rfl ⟨⟨_, rfl, by first | rfl | (simp only [AV.ren]; congr 1; omega), rfl⟩, ⟨_, rfl, by (simp only [AV.ren, rwN, List.getD_eq_getElem?_getD, List.getElem?_drop]), rfl⟩, ⟨_, rfl, by first | rfl | (simp only [AV.ren]; congr 1; omega), rfl⟩, ⟨_, rfl, by first | rfl | (simp only [AV.ren]; congr 1; omega), rfl⟩, trivial⟩ ⟨⟨_, _, rfl, rfl, by first | rfl | (simp only [AV.ren]; congr 1; omega), rfl, id, rfl⟩, trivial⟩⟩
  · first | replace hc8 := of_decide_eq_true hc8 | replace hc8 := of_decide_eq_false hc8 | replace hc8 := eq_of_beq hc8 | replace hc8 := ne_of_beq_false hc8 | simp only [bne_iff_ne, ne_eq] at hc8 | simp only [bne_eq_false_iff_eq] at hc8
    refine .exit ?_
    show Ev _ _ _ _ _
    have ej : j = n := by omega
    refine Ev.weak (st2 := ⟨[(0, .sl 500 o n 1), (3, .u64 (rwN (l.drop o) (n))), (6, .i64 (n : Int)), (7, .i64 (((n) : Nat) : Int))], [(500, some ⟨.aggB l, e, false⟩)], 1000⟩) (StLe.mk [] rfl rfl ⟨⟨_, rfl, by first | (simp only [AV.ren]; done) | (simp only [AV.ren]; rw [ej]; done) | rfl, rfl⟩, ⟨_, rfl, by first | (simp only [AV.ren]; done) | (simp only [AV.ren]; rw [ej]; done) | rfl, rfl⟩, ⟨_, rfl, by first | (simp only [AV.ren]; done) | (simp only [AV.ren]; rw [ej]; done) | rfl, rfl⟩, ⟨_, rfl, by first | (simp only [AV.ren]; done) | (simp only [AV.ren]; rw [ej]; done) | rfl, rfl⟩, trivial⟩ ⟨⟨_, _, rfl, rfl, by first | (simp only [AV.ren]; done) | (simp only [AV.ren]; rw [ej]; done) | rfl, rfl, id, rfl⟩, trivial⟩) ?_
    refine .seq ?_
    refine .region ?_
    refine .q (op_move rfl) trivial rfl ?_
    refine .q (op_assign rfl) trivial rfl ?_
    refine .nil ?_
    show Ev _ _ _ _ _
    refine .ret ?_
    show RetOk _ _ _ _ _ _ _
    exact ret1v rfl (.inl rfl) rfl rfl ⟨rfl, trivial⟩
set_option maxRecDepth 100000 in
theorem sputWord_ev (l : List UInt8) (o n e : Nat) (x : UInt64) (h : o + n ≤ l.length) (hn : n ≤ 8) : Meets Tryd.prog 130 [.sl 500 o n 1, .u64 x] [(500, some ⟨.aggB l, e, true⟩)] (.tup []) [(500, some ⟨.aggB (pwN l o x n), e, true⟩)] := by
  refine meets_of_ev (nt := 19) Tryd.func130 rfl rfl (Nat.le_of_ble_eq_true rfl) ?_
  refine .seq ?_
  refine .region ?_
  refine .q (op_move rfl) trivial rfl ?_
  refine .q (op_len_sl Tryd.underlying26 rfl) trivial rfl ?_
  refine .q (op_move rfl) trivial rfl ?_
  refine .nil ?_
  show Ev _ _ _ _ _
  refine .block ?_
  refine Ev.loop (ι := { j : Nat // j ≤ n }) (fun j => ⟨[(0, .sl 500 o n 1), (1, .u64 x), (6, .i64 (n : Int)), (7, .i64 ((j.1 : Nat) : Int))], [(500, some ⟨.aggB (pwN l o x j.1), e, true⟩)], 1000⟩) (fun j => n - j.1) ⟨0, Nat.zero_le _⟩ (StLe.mk [] rfl rfl ⟨⟨_, rfl, by first | rfl | (simp only [AV.ren]; congr 1; omega), rfl⟩, ⟨_, rfl, by first | rfl | (simp only [AV.ren]; congr 1; omega), rfl⟩, ⟨_, rfl, by first | rfl | (simp only [AV.ren]; congr 1; omega), rfl⟩, ⟨_, rfl, by first | rfl | (simp only [AV.ren]; congr 1; omega), rfl⟩, trivial⟩ ⟨⟨_, _, rfl, rfl, by first | rfl | (simp only [AV.ren]; congr 1; omega), rfl, id, rfl⟩, trivial⟩) ?_
  rintro ⟨j, hj⟩
  dsimp only
  have hl : (pwN l o x j).length = l.length := length_pwN l o x j
  refine .seq ?_
  refine .region ?_
  refine .q (op_cmpI rfl rfl rfl) trivial rfl ?_
  refine .nil ?_
  show Ev _ _ _ _ _
  refine .seq ?_
  refine .cond rfl (fun hc8 => ?_) (fun hc8 => ?_)
  · first | replace hc8 := of_decide_eq_true hc8 | replace hc8 := of_decide_eq_false hc8 | replace hc8 := eq_of_beq hc8 | replace hc8 := ne_of_beq_false hc8 | simp only [bne_iff_ne, ne_eq] at hc8 | simp only [bne_eq_false_iff_eq] at hc8
    refine .skip ?_
    show Ev _ _ _ _ _
    refine .seq ?_
    refine .block ?_
    refine .seq ?_
    refine .region ?_
    refine .q (op_move rfl) trivial rfl ?_
    refine .q (op_assign rfl) trivial rfl ?_
    refine .nil ?_
    show Ev _ _ _ _ _
    refine .region ?_
    refine .q (op_move rfl) trivial rfl ?_
    refine .q (op_move rfl) trivial rfl ?_
    refine .q (op_move rfl) trivial rfl ?_
    refine .q (op_move rfl) trivial rfl ?_
    refine .q (op_mulI rfl rfl ⟨by first | omega | (simp only [AV.len]; omega) | (simp only [AV.len, List.length_set]; omega) | assumption | (simp [AV.len]; done), by first | omega | (simp only [AV.len]; omega) | (simp only [AV.len, List.length_set]; omega) | assumption | (simp [AV.len]; done)⟩) trivial rfl ?_
    refine .q (op_shr64 (n := 8 * j) rfl rfl (by simp only [shiftBy]; rw [show (8 : Int) * (j : Int) = ((8 * j : Nat) : Int) by omega]) (by omega)) trivial rfl ?_
    refine .q (op_conv Tryd.underlying45 Tryd.underlying5 rfl rfl) trivial rfl ?_
    refine .q (ap_idx Tryd.underlying26 inf5.sz rfl rfl rfl (by first | omega | (simp only [AV.len]; omega) | (simp only [AV.len, List.length_set]; omega) | assumption | (simp [AV.len]; done))) trivial rfl ?_
    refine .w (op_store inf5.sz rfl rfl rfl rfl rfl (by simp only [AV.len]; omega)) trivial rfl ?_
    refine .nil ?_
    show Ev _ _ _ _ _
    refine .region ?_
    refine .q (op_addI rfl rfl ⟨by first | omega | (simp only [AV.len]; omega) | (simp only [AV.len, List.length_set]; omega) | assumption | (simp [AV.len]; done), by first | omega | (simp only [AV.len]; omega) | (simp only [AV.len, List.length_set]; omega) | assumption | (simp [AV.len]; done)⟩) trivial rfl ?_
    refine .q (op_move rfl) trivial rfl ?_
    refine .nil ?_
    exact ⟨⟨j + 1, by omega⟩, by show n - (j + 1) < n - j; omega, StLe.mk [] rfl rfl ⟨⟨_, rfl, by first | rfl | (simp only [AV.ren]; congr 1; omega), rfl⟩, ⟨_, rfl, by first | rfl | (simp only [AV.ren]; congr 1; omega), rfl⟩, ⟨_, rfl, by first | rfl | (simp only [AV.ren]; congr 1; omega), rfl⟩, ⟨_, rfl, by first | rfl | (simp only [AV.ren]; congr 1; omega), rfl⟩, trivial⟩ ⟨⟨_, _, rfl, rfl, by first | rfl | (simp only [AV.ren]; congr 1; omega), rfl, id, rfl⟩, trivial⟩⟩
  · first | replace hc8 := of_decide_eq_true hc8 | replace hc8 := of_decide_eq_false hc8 | replace hc8 := eq_of_beq hc8 | replace hc8 := ne_of_beq_false hc8 | simp only [bne_iff_ne, ne_eq] at hc8 | simp only [bne_eq_false_iff_eq] at hc8
    refine .exit ?_
    show RetOk _ _ _ _ _ _ _
    have ej : j = n := by omega
    exact ret0 rfl (.inr rfl) ⟨by rw [ej]; rfl, trivial⟩
set_option maxRecDepth 100000 in
theorem sread_ev (K : List UInt8) (hK : K.length = 32) : Meets Tryd.prog 74 [.aggB K] [] (.agg64 (fl (leN K 32))) [] := by
  refine meets_of_ev (nt := 19) Tryd.func74 rfl rfl (Nat.le_of_ble_eq_true rfl) ?_
  refine .seq ?_
  refine .region ?_
  refine .a (op_boxRow rfl rfl) trivial rfl ?_
  refine .a (op_allocRow zero95 rel_zero95 rfl) trivial rfl ?_
  refine .nil ?_
  show Ev _ _ _ _ _
  refine .seq ?_
  refine .region ?_
  refine .a (op_allocRow zero95 rel_zero95 rfl) trivial rfl ?_
  refine .nil ?_
  show Ev _ _ _ _ _
  refine .seq ?_
  refine .seq ?_
  refine .region ?_
  refine .q (op_move rfl) trivial rfl ?_
  refine .nil ?_
  show Ev _ _ _ _ _
  refine .block ?_
  refine Ev.loop (ι := { j : Nat // j ≤ 4 }) (fun j => ⟨[(1, .ptr 1000 0), (2, .ptr 1008 0), (3, .ptr 1016 0), (5, .i64 ((j.1 : Nat) : Int))], [(1000, some ⟨.aggB K, 24, true⟩), (1008, some ⟨.agg64 (List.replicate 4 0), 95, true⟩), (1016, some ⟨.agg64 (ofN K j.1), 95, true⟩)], 1024⟩) (fun j => 4 - j.1) ⟨0, Nat.zero_le _⟩ (StLe.mk [(1000, 1000), (1008, 1008), (1016, 1016)] rfl rfl ⟨⟨_, rfl, by first | rfl | (simp only [AV.ren]; congr 1; omega), rfl⟩, ⟨_, rfl, by first | rfl | (simp only [AV.ren]; congr 1; omega), rfl⟩, ⟨_, rfl, by first | rfl | (simp only [AV.ren]; congr 1; omega), rfl⟩, ⟨_, rfl, by first | rfl | (simp only [AV.ren]; congr 1; omega), rfl⟩, trivial⟩ ⟨⟨_, _, rfl, rfl, by first | rfl | (simp only [AV.ren]; congr 1; omega), rfl, id, rfl⟩, ⟨_, _, rfl, rfl, by first | rfl | (simp only [AV.ren]; congr 1; omega), rfl, id, rfl⟩, ⟨_, _, rfl, rfl, by first | rfl | (simp only [AV.ren]; congr 1; omega), rfl, id, rfl⟩, trivial⟩) ?_
  rintro ⟨j, hj⟩
  dsimp only
  have hl : (ofN K j).length = 4 := length_ofN _ j
  refine .seq ?_
  refine .region ?_
  refine .q (op_cmpI rfl rfl rfl) trivial rfl ?_
  refine .nil ?_
  show Ev _ _ _ _ _
  refine .seq ?_
  refine .cond rfl (fun hc6 => ?_) (fun hc6 => ?_)
  · first | replace hc6 := of_decide_eq_true hc6 | replace hc6 := of_decide_eq_false hc6 | replace hc6 := eq_of_beq hc6 | replace hc6 := ne_of_beq_false hc6 | simp only [bne_iff_ne, ne_eq] at hc6 | simp only [bne_eq_false_iff_eq] at hc6
    refine .skip ?_
    show Ev _ _ _ _ _
    refine .seq ?_
    refine .block ?_
    refine .seq ?_
    refine .region ?_
    refine .q (op_move rfl) trivial rfl ?_
    refine .q (op_assign rfl) trivial rfl ?_
    refine .nil ?_
    show Ev _ _ _ _ _
    refine .region ?_
    refine .q (op_move rfl) trivial rfl ?_
    refine .q (op_move rfl) trivial rfl ?_
    refine .q (op_mulI rfl rfl ⟨by first | omega | (simp only [AV.len]; omega) | (simp only [AV.len, List.length_set]; omega) | assumption | (simp [AV.len]; done), by first | omega | (simp only [AV.len]; omega) | (simp only [AV.len, List.length_set]; omega) | assumption | (simp [AV.len]; done)⟩) trivial rfl ?_
    refine .q (op_move rfl) trivial rfl ?_
    refine .q (op_addI rfl rfl ⟨by first | omega | (simp only [AV.len]; omega) | (simp only [AV.len, List.length_set]; omega) | assumption | (simp [AV.len]; done), by first | omega | (simp only [AV.len]; omega) | (simp only [AV.len, List.length_set]; omega) | assumption | (simp [AV.len]; done)⟩) trivial rfl ?_
    refine .q (op_mulI rfl rfl ⟨by first | omega | (simp only [AV.len]; omega) | (simp only [AV.len, List.length_set]; omega) | assumption | (simp [AV.len]; done), by first | omega | (simp only [AV.len]; omega) | (simp only [AV.len, List.length_set]; omega) | assumption | (simp [AV.len]; done)⟩) trivial rfl ?_
    refine .q (op_slice_arr Tryd.underlying24 inf5.sz rfl rfl (by first | omega | (simp only [AV.len]; omega)) (by decide) (bnd_some rfl (l := 8 * j) (by omega)) (bnd_some rfl (l := 8 * (j + 1)) (by omega)) (by first | omega | (simp only [AV.len]; omega)) (by first | omega | (simp only [AV.len]; omega))) trivial rfl ?_
    refine .as (.sl 1000 (8 * j) 8 1) (slice_as (by omega) (by omega)) ?_
    refine .q (op_call (U := []) [(500, 1000)] [] (sreadWord_ev K (8 * j) 8 24 (by omega) (by omega)) Tryd.func68 (by kernel_rfl) rfl rfl rfl (⟨⟨_, rfl, rfl, rfl⟩, trivial⟩) (⟨⟨_, _, rfl, rfl, rfl, rfl, (fun h => by cases h), rfl⟩, trivial⟩) (trivial) (⟨(fun h => by cases h), trivial⟩) rfl) trivial rfl ?_
    refine .q (ap_idx_arr Tryd.underlying95 inf45.sz rfl rfl rfl (by first | omega | (simp only [AV.len]; omega) | (simp only [AV.len, List.length_set]; omega) | assumption | (simp [AV.len]; done))) trivial rfl ?_
    refine .w (op_store inf45.sz rfl rfl rfl rfl rfl (by first | omega | (simp only [AV.len]; omega) | (simp only [AV.len, List.length_set]; omega) | assumption | (simp [AV.len]; done))) trivial rfl ?_
    refine .nil ?_
    show Ev _ _ _ _ _
    refine .region ?_
    refine .q (op_addI rfl rfl ⟨by first | omega | (simp only [AV.len]; omega) | (simp only [AV.len, List.length_set]; omega) | assumption | (simp [AV.len]; done), by first | omega | (simp only [AV.len]; omega) | (simp only [AV.len, List.length_set]; omega) | assumption | (simp [AV.len]; done)⟩) trivial rfl ?_
    refine .q (op_move rfl) trivial rfl ?_
    refine .nil ?_
    exact ⟨⟨j + 1, by omega⟩, by show 4 - (j + 1) < 4 - j; omega, StLe.mk [(1000, 1000), (1008, 1008), (1016, 1016)] rfl rfl ⟨⟨_, rfl, by first | rfl | (simp only [AV.ren]; congr 1; omega), rfl⟩, ⟨_, rfl, by first | rfl | (simp only [AV.ren]; congr 1; omega), rfl⟩, ⟨_, rfl, by first | rfl | (simp only [AV.ren]; congr 1; omega), rfl⟩, ⟨_, rfl, by first | rfl | (simp only [AV.ren]; congr 1; omega), rfl⟩, trivial⟩ ⟨⟨_, _, rfl, rfl, by first | rfl | (simp only [AV.ren]; congr 1; omega), rfl, id, rfl⟩, ⟨_, _, rfl, rfl, by first | rfl | (simp only [AV.ren]; congr 1; omega), rfl, id, rfl⟩, ⟨_, _, rfl, rfl, by first | rfl | (simp only [AV.ren]; congr 1; omega), rfl, id, rfl⟩, trivial⟩⟩
  · first | replace hc6 := of_decide_eq_true hc6 | replace hc6 := of_decide_eq_false hc6 | replace hc6 := eq_of_beq hc6 | replace hc6 := ne_of_beq_false hc6 | simp only [bne_iff_ne, ne_eq] at hc6 | simp only [bne_eq_false_iff_eq] at hc6
    refine .exit ?_
    show Ev _ _ _ _ _
    have ej : j = 4 := by omega
    refine Ev.weak (st2 := ⟨[(1, .ptr 1000 0), (2, .ptr 1008 0), (3, .ptr 1016 0), (5, .i64 (((4) : Nat) : Int))], [(1000, some ⟨.aggB K, 24, true⟩), (1008, some ⟨.agg64 (List.replicate 4 0), 95, true⟩), (1016, some ⟨.agg64 (ofN K (4)), 95, true⟩)], 1024⟩) (StLe.mk [(1000, 1000), (1008, 1008), (1016, 1016)] rfl rfl ⟨⟨_, rfl, by first | (simp only [AV.ren]; done) | (simp only [AV.ren]; rw [ej]; done) | rfl, rfl⟩, ⟨_, rfl, by first | (simp only [AV.ren]; done) | (simp only [AV.ren]; rw [ej]; done) | rfl, rfl⟩, ⟨_, rfl, by first | (simp only [AV.ren]; done) | (simp only [AV.ren]; rw [ej]; done) | rfl, rfl⟩, ⟨_, rfl, by first | (simp only [AV.ren]; done) | (simp only [AV.ren]; rw [ej]; done) | rfl, rfl⟩, trivial⟩ ⟨⟨_, _, rfl, rfl, by first | (simp only [AV.ren]; done) | (simp only [AV.ren]; rw [ej]; done) | rfl, rfl, id, rfl⟩, ⟨_, _, rfl, rfl, by first | (simp only [AV.ren]; done) | (simp only [AV.ren]; rw [ej]; done) | rfl, rfl, id, rfl⟩, ⟨_, _, rfl, rfl, by first | (simp only [AV.ren]; done) | (simp only [AV.ren]; rw [ej]; done) | rfl, rfl, id, rfl⟩, trivial⟩) ?_
    refine .seq ?_
    refine .region ?_
    refine .q (op_loadRow Tryd.underlying95 rfl sz95 rfl rfl rfl (length_ofN K 4)) trivial rfl ?_
    refine .as (.agg64 (fl (leN K 32))) (congrArg AV.agg64 (of_fl K)) ?_
    refine .w (op_storeRow sz95 rfl rfl rfl rfl rfl (rfl) (rfl)) trivial rfl ?_
    refine .nil ?_
    show Ev _ _ _ _ _
    refine .ret ?_
    show RetOk _ _ _ _ _ _ _
    exact retc1 rfl (.inl rfl) ⟨_, _, _, _, rfl, rfl, rfl, rfl, (rfl), Tryd.underlying95, rfl, sz95⟩ trivial
set_option maxHeartbeats 400000 in
set_option maxRecDepth 100000 in
theorem swritten_ev (a : Nat) : Meets Tryd.prog 69 [.agg64 (fl a)] [] (.aggB (bsN a 32)) [] := by
  refine meets_of_ev (nt := 20) Tryd.func69 rfl rfl (Nat.le_of_ble_eq_true rfl) ?_
  refine .seq ?_
  refine .region ?_
  refine .a (op_boxRow rfl rfl) trivial rfl ?_
  refine .a (op_allocRow zero24 rel_zero24 rfl) trivial rfl ?_
  refine .nil ?_
  show Ev _ _ _ _ _
  refine .seq ?_
  refine .region ?_
  refine .a (op_allocRow zero24 rel_zero24 rfl) trivial rfl ?_
  refine .nil ?_
  show Ev _ _ _ _ _
  refine .seq ?_
  refine .seq ?_
  refine .region ?_
  refine .q (op_move rfl) trivial rfl ?_
  refine .nil ?_
  show Ev _ _ _ _ _
  refine .block ?_
  refine Ev.loop (ι := { j : Nat // j ≤ 4 }) (fun j => ⟨[(1, .ptr 1000 0), (2, .ptr 1008 0), (3, .ptr 1016 0), (5, .i64 ((j.1 : Nat) : Int))], [(1000, some ⟨.agg64 (fl a), 95, true⟩), (1008, some ⟨.aggB (List.replicate 32 0), 24, true⟩), (1016, some ⟨.aggB (byN (fl a) j.1), 24, true⟩)], 1024⟩) (fun j => 4 - j.1) ⟨0, Nat.zero_le _⟩ (StLe.mk [(1000, 1000), (1008, 1008), (1016, 1016)] rfl rfl ⟨⟨_, rfl, by first | rfl | (simp only [AV.ren]; congr 1; omega), rfl⟩, ⟨_, rfl, by first | rfl | (simp only [AV.ren]; congr 1; omega), rfl⟩, ⟨_, rfl, by first | rfl | (simp only [AV.ren]; congr 1; omega), rfl⟩, ⟨_, rfl, by first | rfl | (simp only [AV.ren]; congr 1; omega), rfl⟩, trivial⟩ ⟨⟨_, _, rfl, rfl, by first | rfl | (simp only [AV.ren]; congr 1; omega), rfl, id, rfl⟩, ⟨_, _, rfl, rfl, by first | rfl | (simp only [AV.ren]; congr 1; omega), rfl, id, rfl⟩, ⟨_, _, rfl, rfl, by first | rfl | (simp only [AV.ren]; congr 1; omega), rfl, id, rfl⟩, trivial⟩) ?_
  rintro ⟨j, hj⟩
  dsimp only
  have hlp : (byN (fl a) j).length = 32 := length_byN _ j
  have hlf : (fl a).length = 4 := rfl
  refine .seq ?_
  refine .region ?_
  refine .q (op_cmpI rfl rfl rfl) trivial rfl ?_
  refine .nil ?_
  show Ev _ _ _ _ _
  refine .seq ?_
  refine .cond rfl (fun hc6 => ?_) (fun hc6 => ?_)
  · first | replace hc6 := of_decide_eq_true hc6 | replace hc6 := of_decide_eq_false hc6 | replace hc6 := eq_of_beq hc6 | replace hc6 := ne_of_beq_false hc6 | simp only [bne_iff_ne, ne_eq] at hc6 | simp only [bne_eq_false_iff_eq] at hc6
    refine .skip ?_
    show Ev _ _ _ _ _
    refine .seq ?_
    refine .block ?_
    refine .seq ?_
    refine .region ?_
    refine .q (op_move rfl) trivial rfl ?_
    refine .q (op_assign rfl) trivial rfl ?_
    refine .nil ?_
    show Ev _ _ _ _ _
    refine .drawn [[], [0], [], [2], [2, 3], [0, 1, 2, 3, 4], [], [6], [6, 7], [0, 1, 2, 3, 4, 5, 6, 7, 8]] [5, 8, 9] [9] (by kernel_rfl) (by kernel_rfl) rfl ?_
    show DK _ [0, 1, 2, 3, 4, 5, 6, 7, 8, 9] _ _ _
    refine .q rfl (op_move rfl) trivial ?_
    refine .q rfl (op_mulI rfl rfl ⟨by first | omega | (simp only [AV.len]; omega) | (simp only [AV.len, List.length_set]; omega) | assumption | (simp [AV.len]; done), by first | omega | (simp only [AV.len]; omega) | (simp only [AV.len, List.length_set]; omega) | assumption | (simp [AV.len]; done)⟩) trivial ?_
    refine .q rfl (op_move rfl) trivial ?_
    refine .q rfl (op_addI rfl rfl ⟨by first | omega | (simp only [AV.len]; omega) | (simp only [AV.len, List.length_set]; omega) | assumption | (simp [AV.len]; done), by first | omega | (simp only [AV.len]; omega) | (simp only [AV.len, List.length_set]; omega) | assumption | (simp [AV.len]; done)⟩) trivial ?_
    refine .q rfl (op_mulI rfl rfl ⟨by first | omega | (simp only [AV.len]; omega) | (simp only [AV.len, List.length_set]; omega) | assumption | (simp [AV.len]; done), by first | omega | (simp only [AV.len]; omega) | (simp only [AV.len, List.length_set]; omega) | assumption | (simp [AV.len]; done)⟩) trivial ?_
    refine .q rfl (op_slice_arr Tryd.underlying24 inf5.sz rfl rfl (by first | omega | (simp only [AV.len]; omega)) (by decide) (bnd_some rfl (l := 8 * j) (by omega)) (bnd_some rfl (l := 8 * (j + 1)) (by omega)) (by first | omega | (simp only [AV.len]; omega)) (by first | omega | (simp only [AV.len]; omega))) trivial ?_
    refine .as (.sl 1016 (8 * j) 8 1) (slice_as (by omega) (by omega)) ?_
    refine .q rfl (op_move rfl) trivial ?_
    refine .q rfl (ap_idx_arr Tryd.underlying95 inf45.sz rfl rfl rfl (by first | omega | (simp only [AV.len]; omega) | (simp only [AV.len, List.length_set]; omega) | assumption | (simp [AV.len]; done))) trivial ?_
    refine .q rfl (op_load Tryd.underlying45 rfl rfl rfl rfl (by first | omega | (simp only [AV.len]; omega) | (simp only [AV.len, List.length_set]; omega) | assumption | (simp [AV.len]; done))) trivial ?_
    refine .a rfl (op_call (U := [(1016, some ⟨.aggB (byN (fl a) (j + 1)), 24, true⟩)]) [(500, 1016)] [] (sputWord_ev (byN (fl a) j) (8 * j) 8 24 ((fl a).getD j 0) (by rw [length_byN]; omega) (by omega)) Tryd.func130 (by kernel_rfl) rfl rfl rfl (⟨⟨_, rfl, rfl, rfl⟩, ⟨_, rfl, rfl, rfl⟩, trivial⟩) (⟨⟨_, _, rfl, rfl, rfl, rfl, id, rfl⟩, trivial⟩) (⟨⟨500, _, rfl, rfl, rfl, rfl, .inr ⟨rfl, _, rfl, rfl⟩⟩, trivial⟩) (⟨(fun _ => ⟨1016, _, rfl, rfl⟩), trivial⟩) rfl) trivial rfl rfl ?_
    refine .nil ?_
    show Ev _ _ _ _ _
    refine .region ?_
    refine .q (op_addI rfl rfl ⟨by first | omega | (simp only [AV.len]; omega) | (simp only [AV.len, List.length_set]; omega) | assumption | (simp [AV.len]; done), by first | omega | (simp only [AV.len]; omega) | (simp only [AV.len, List.length_set]; omega) | assumption | (simp [AV.len]; done)⟩) trivial rfl ?_
    refine .q (op_move rfl) trivial rfl ?_
    refine .nil ?_
    exact ⟨⟨j + 1, by omega⟩, by show 4 - (j + 1) < 4 - j; omega, StLe.mk [(1000, 1000), (1008, 1008), (1016, 1016)] rfl rfl ⟨⟨_, rfl, by first | rfl | (simp only [AV.ren]; congr 1; omega), rfl⟩, ⟨_, rfl, by first | rfl | (simp only [AV.ren]; congr 1; omega), rfl⟩, ⟨_, rfl, by first | rfl | (simp only [AV.ren]; congr 1; omega), rfl⟩, ⟨_, rfl, by first | rfl | (simp only [AV.ren]; congr 1; omega), rfl⟩, trivial⟩ ⟨⟨_, _, rfl, rfl, by first | rfl | (simp only [AV.ren]; congr 1; omega), rfl, id, rfl⟩, ⟨_, _, rfl, rfl, by first | rfl | (simp only [AV.ren]; congr 1; omega), rfl, id, rfl⟩, ⟨_, _, rfl, rfl, by first | rfl | (simp only [AV.ren]; congr 1; omega), rfl, id, rfl⟩, trivial⟩⟩
  · first | replace hc6 := of_decide_eq_true hc6 | replace hc6 := of_decide_eq_false hc6 | replace hc6 := eq_of_beq hc6 | replace hc6 := ne_of_beq_false hc6 | simp only [bne_iff_ne, ne_eq] at hc6 | simp only [bne_eq_false_iff_eq] at hc6
    refine .exit ?_
    show Ev _ _ _ _ _
    have ej : j = 4 := by omega
    refine Ev.weak (st2 := ⟨[(1, .ptr 1000 0), (2, .ptr 1008 0), (3, .ptr 1016 0), (5, .i64 (((4) : Nat) : Int))], [(1000, some ⟨.agg64 (fl a), 95, true⟩), (1008, some ⟨.aggB (List.replicate 32 0), 24, true⟩), (1016, some ⟨.aggB (byN (fl a) (4)), 24, true⟩)], 1024⟩) (StLe.mk [(1000, 1000), (1008, 1008), (1016, 1016)] rfl rfl ⟨⟨_, rfl, by first | (simp only [AV.ren]; done) | (simp only [AV.ren]; rw [ej]; done) | rfl, rfl⟩, ⟨_, rfl, by first | (simp only [AV.ren]; done) | (simp only [AV.ren]; rw [ej]; done) | rfl, rfl⟩, ⟨_, rfl, by first | (simp only [AV.ren]; done) | (simp only [AV.ren]; rw [ej]; done) | rfl, rfl⟩, ⟨_, rfl, by first | (simp only [AV.ren]; done) | (simp only [AV.ren]; rw [ej]; done) | rfl, rfl⟩, trivial⟩ ⟨⟨_, _, rfl, rfl, by first | (simp only [AV.ren]; done) | (simp only [AV.ren]; rw [ej]; done) | rfl, rfl, id, rfl⟩, ⟨_, _, rfl, rfl, by first | (simp only [AV.ren]; done) | (simp only [AV.ren]; rw [ej]; done) | rfl, rfl, id, rfl⟩, ⟨_, _, rfl, rfl, by first | (simp only [AV.ren]; done) | (simp only [AV.ren]; rw [ej]; done) | rfl, rfl, id, rfl⟩, trivial⟩) ?_
    refine .seq ?_
    refine .region ?_
    refine .q (op_loadRow Tryd.underlying24 rfl sz24 rfl rfl rfl (by show (byN (fl a) 4).length = 32; exact length_byN _ _)) trivial rfl ?_
    refine .as (.aggB (bsN a 32)) (congrArg AV.aggB (bytes64_spec a)) ?_
    refine .w (op_storeRow sz24 rfl rfl rfl rfl rfl (by simp [AV.len, length_bsN]) (by simp [AV.len])) trivial rfl ?_
    refine .nil ?_
    show Ev _ _ _ _ _
    refine .ret ?_
    show RetOk _ _ _ _ _ _ _
    exact retc1 rfl (.inl rfl) ⟨_, _, _, _, rfl, rfl, rfl, rfl, (length_bsN a 32), Tryd.underlying24, rfl, sz24⟩ trivial
end Go.Proofs.YtmnhifagkcmhjaaDoor
namespace Go.Proofs.YtmnhifagkcmhjaaDoor
open Go.RowKit
set_option maxHeartbeats 400000 in
set_option maxRecDepth 100000 in
theorem sReduce_ev (e : Nat) (s : List UInt8) (hs : s.length ≤ 1000000) : Meets Tryd.prog 19 [.str s] (HO e) (.aggB (bsN (leN s 64 % scL) 32)) [] := by
  obtain ⟨R, hR⟩ : ∃ R, R = bsN (leN s 64 % scL) 32 := ⟨_, rfl⟩
  have hlR : R.length = 32 := by rw [hR]; exact length_bsN _ 32
  rw [← hR]
  refine meets_of_ev (nt := 25) Tryd.func19 rfl rfl (Nat.le_of_ble_eq_true rfl) ?_
  refine .seq ?_
  refine .region ?_
  refine .a (op_allocRow zero24 rel_zero24 rfl) trivial rfl ?_
  refine .nil ?_
  show Ev _ _ _ _ _
  refine .seq ?_
  refine .region ?_
  refine .a (op_allocRow zero36 rel_zero36 rfl) trivial rfl ?_
  refine .nil ?_
  show Ev _ _ _ _ _
  refine .seq ?_
  refine .region ?_
  refine .q (ap_slice_arr_hi Tryd.underlying36 inf5.sz rfl rfl (by first | omega | decide | (simp [AV.len]; done)) (by decide) rfl (by first | omega | decide | (simp [AV.len]; done))) trivial rfl ?_
  refine .q (op_move rfl) trivial rfl ?_
  refine .a (op_copy (q := (min s.length 64)) (c' := .aggB (pad64 s)) Tryd.underlying26 inf5.sz rfl rfl rfl (srcs_str rfl) (by first | omega | decide | (simp [AV.len]; done)) (by first | rfl | omega) (by simp only [AV.list, AV.parts, Option.getD_some, pad64, List.map_append, List.map_replicate, List.take_zero, List.nil_append, List.drop_replicate, Nat.zero_add, List.map_take]; congr 1; rw [List.take_eq_take_iff]; simp; omega)) trivial rfl ?_
  refine .nil ?_
  show Ev _ _ _ _ _
  refine .seq ?_
  refine .region ?_
  refine .a (op_allocRow zero92 rel_zero92 rfl) trivial rfl ?_
  refine .nil ?_
  show Ev _ _ _ _ _
  refine .seq ?_
  refine .seq ?_
  refine .region ?_
  refine .q (op_move rfl) trivial rfl ?_
  refine .nil ?_
  show Ev _ _ _ _ _
  refine .block ?_
  refine Ev.loop (ι := { j : Nat // j ≤ 8 }) (fun j => ⟨[(2, .ptr 1000 0), (3, .ptr 1008 0), (4, .ptr 1024 0), (9, .i64 ((j.1 : Nat) : Int))], [(1000, some ⟨.aggB (List.replicate 32 0), 24, true⟩), (1008, some ⟨.aggB (pad64 s), 36, true⟩), (1024, some ⟨.agg64 (owN (pad64 s) j.1), 92, true⟩), (22, some ⟨.agg64 orderL, e, false⟩)], 1032⟩) (fun j => 8 - j.1) ⟨0, Nat.zero_le _⟩ (StLe.mk [(1000, 1000), (1008, 1008), (1024, 1024)] rfl rfl ⟨⟨_, rfl, by first | rfl | (simp only [AV.ren]; congr 1; omega), rfl⟩, ⟨_, rfl, by first | rfl | (simp only [AV.ren]; congr 1; omega), rfl⟩, ⟨_, rfl, by first | rfl | (simp only [AV.ren]; congr 1; omega), rfl⟩, ⟨_, rfl, by first | rfl | (simp only [AV.ren]; congr 1; omega), rfl⟩, trivial⟩ ⟨⟨_, _, rfl, rfl, by first | rfl | (simp only [AV.ren]; congr 1; omega), rfl, id, rfl⟩, ⟨_, _, rfl, rfl, by first | rfl | (simp only [AV.ren]; congr 1; omega), rfl, id, rfl⟩, ⟨_, _, rfl, rfl, by first | rfl | (simp only [AV.ren]; congr 1; omega), rfl, id, rfl⟩, ⟨_, _, rfl, rfl, by first | rfl | (simp only [AV.ren]; congr 1; omega), rfl, id, rfl⟩, trivial⟩) ?_
  rintro ⟨j, hj⟩
  dsimp only
  have hl : (owN (pad64 s) j).length = 8 := length_owN _ j
  have hlp : (pad64 s).length = 64 := length_pad64 s
  refine .seq ?_
  refine .region ?_
  refine .q (op_cmpI rfl rfl rfl) trivial rfl ?_
  refine .nil ?_
  show Ev _ _ _ _ _
  refine .seq ?_
  refine .cond rfl (fun hc10 => ?_) (fun hc10 => ?_)
  · first | replace hc10 := of_decide_eq_true hc10 | replace hc10 := of_decide_eq_false hc10 | replace hc10 := eq_of_beq hc10 | replace hc10 := ne_of_beq_false hc10 | simp only [bne_iff_ne, ne_eq] at hc10 | simp only [bne_eq_false_iff_eq] at hc10
    refine .skip ?_
    show Ev _ _ _ _ _
    refine .seq ?_
    refine .block ?_
    refine .seq ?_
    refine .region ?_
    refine .q (op_move rfl) trivial rfl ?_
    refine .q (op_assign rfl) trivial rfl ?_
    refine .nil ?_
    show Ev _ _ _ _ _
    refine .region ?_
    refine .q (op_move rfl) trivial rfl ?_
    refine .q (op_move rfl) trivial rfl ?_
    refine .q (op_mulI rfl rfl ⟨by first | omega | (simp only [AV.len]; omega) | (simp only [AV.len, List.length_set]; omega) | assumption | (simp [AV.len]; done), by first | omega | (simp only [AV.len]; omega) | (simp only [AV.len, List.length_set]; omega) | assumption | (simp [AV.len]; done)⟩) trivial rfl ?_
    refine .q (op_move rfl) trivial rfl ?_
    refine .q (op_addI rfl rfl ⟨by first | omega | (simp only [AV.len]; omega) | (simp only [AV.len, List.length_set]; omega) | assumption | (simp [AV.len]; done), by first | omega | (simp only [AV.len]; omega) | (simp only [AV.len, List.length_set]; omega) | assumption | (simp [AV.len]; done)⟩) trivial rfl ?_
    refine .q (op_mulI rfl rfl ⟨by first | omega | (simp only [AV.len]; omega) | (simp only [AV.len, List.length_set]; omega) | assumption | (simp [AV.len]; done), by first | omega | (simp only [AV.len]; omega) | (simp only [AV.len, List.length_set]; omega) | assumption | (simp [AV.len]; done)⟩) trivial rfl ?_
    refine .q (op_slice_arr Tryd.underlying36 inf5.sz rfl rfl (by first | omega | (simp only [AV.len]; omega)) (by decide) (bnd_some rfl (l := 8 * j) (by omega)) (bnd_some rfl (l := 8 * (j + 1)) (by omega)) (by first | omega | (simp only [AV.len]; omega)) (by first | omega | (simp only [AV.len]; omega))) trivial rfl ?_
    refine .as (.sl 1008 (8 * j) 8 1) (slice_as (by omega) (by omega)) ?_
    refine .q (op_call (U := []) [(500, 1008)] [] (sreadWord_ev (pad64 s) (8 * j) 8 36 (by rw [length_pad64]; omega) (by omega)) Tryd.func68 (by kernel_rfl) rfl rfl rfl (⟨⟨_, rfl, rfl, rfl⟩, trivial⟩) (⟨⟨_, _, rfl, rfl, rfl, rfl, (fun h => by cases h), rfl⟩, trivial⟩) (trivial) (⟨(fun h => by cases h), trivial⟩) rfl) trivial rfl ?_
    refine .q (ap_idx_arr Tryd.underlying92 inf45.sz rfl rfl rfl (by first | omega | (simp only [AV.len]; omega) | (simp only [AV.len, List.length_set]; omega) | assumption | (simp [AV.len]; done))) trivial rfl ?_
    refine .w (op_store inf45.sz rfl rfl rfl rfl rfl (by first | omega | (simp only [AV.len]; omega) | (simp only [AV.len, List.length_set]; omega) | assumption | (simp [AV.len]; done))) trivial rfl ?_
    refine .nil ?_
    show Ev _ _ _ _ _
    refine .region ?_
    refine .q (op_addI rfl rfl ⟨by first | omega | (simp only [AV.len]; omega) | (simp only [AV.len, List.length_set]; omega) | assumption | (simp [AV.len]; done), by first | omega | (simp only [AV.len]; omega) | (simp only [AV.len, List.length_set]; omega) | assumption | (simp [AV.len]; done)⟩) trivial rfl ?_
    refine .q (op_move rfl) trivial rfl ?_
    refine .nil ?_
    exact ⟨⟨j + 1, by omega⟩, by show 8 - (j + 1) < 8 - j; omega, StLe.mk [(1000, 1000), (1008, 1008), (1024, 1024)] rfl rfl ⟨⟨_, rfl, by first | rfl | (simp only [AV.ren]; congr 1; omega), rfl⟩, ⟨_, rfl, by first | rfl | (simp only [AV.ren]; congr 1; omega), rfl⟩, ⟨_, rfl, by first | rfl | (simp only [AV.ren]; congr 1; omega), rfl⟩, ⟨_, rfl, by first | rfl | (simp only [AV.ren]; congr 1; omega), rfl⟩, trivial⟩ ⟨⟨_, _, rfl, rfl, by first | rfl | (simp only [AV.ren]; congr 1; omega), rfl, id, rfl⟩, ⟨_, _, rfl, rfl, by first | rfl | (simp only [AV.ren]; congr 1; omega), rfl, id, rfl⟩, ⟨_, _, rfl, rfl, by first | rfl | (simp only [AV.ren]; congr 1; omega), rfl, id, rfl⟩, ⟨_, _, rfl, rfl, by first | rfl | (simp only [AV.ren]; congr 1; omega), rfl, id, rfl⟩, trivial⟩⟩
  · first | replace hc10 := of_decide_eq_true hc10 | replace hc10 := of_decide_eq_false hc10 | replace hc10 := eq_of_beq hc10 | replace hc10 := ne_of_beq_false hc10 | simp only [bne_iff_ne, ne_eq] at hc10 | simp only [bne_eq_false_iff_eq] at hc10
    refine .exit ?_
    show Ev _ _ _ _ _
    have ej : j = 8 := by omega
    refine Ev.weak (st2 := ⟨[(2, .ptr 1000 0), (3, .ptr 1008 0), (4, .ptr 1024 0), (9, .i64 (((8) : Nat) : Int))], [(1000, some ⟨.aggB (List.replicate 32 0), 24, true⟩), (1008, some ⟨.aggB (pad64 s), 36, true⟩), (1024, some ⟨.agg64 (owN (pad64 s) (8)), 92, true⟩), (22, some ⟨.agg64 orderL, e, false⟩)], 1032⟩) (StLe.mk [(1000, 1000), (1008, 1008), (1024, 1024)] rfl rfl ⟨⟨_, rfl, by first | (simp only [AV.ren]; done) | (simp only [AV.ren]; rw [ej]; done) | rfl, rfl⟩, ⟨_, rfl, by first | (simp only [AV.ren]; done) | (simp only [AV.ren]; rw [ej]; done) | rfl, rfl⟩, ⟨_, rfl, by first | (simp only [AV.ren]; done) | (simp only [AV.ren]; rw [ej]; done) | rfl, rfl⟩, ⟨_, rfl, by first | (simp only [AV.ren]; done) | (simp only [AV.ren]; rw [ej]; done) | rfl, rfl⟩, trivial⟩ ⟨⟨_, _, rfl, rfl, by first | (simp only [AV.ren]; done) | (simp only [AV.ren]; rw [ej]; done) | rfl, rfl, id, rfl⟩, ⟨_, _, rfl, rfl, by first | (simp only [AV.ren]; done) | (simp only [AV.ren]; rw [ej]; done) | rfl, rfl, id, rfl⟩, ⟨_, _, rfl, rfl, by first | (simp only [AV.ren]; done) | (simp only [AV.ren]; rw [ej]; done) | rfl, rfl, id, rfl⟩, ⟨_, _, rfl, rfl, by first | (simp only [AV.ren]; done) | (simp only [AV.ren]; rw [ej]; done) | rfl, rfl, id, rfl⟩, trivial⟩) ?_
    refine .seq ?_
    refine .region ?_
    refine .q (op_loadRow Tryd.underlying92 rfl sz92 rfl rfl rfl (length_owN _ 8)) trivial rfl ?_
    refine .as (.agg64 (wl (leN s 64))) (congrArg AV.agg64 (by rw [ow_wl, leN_pad64])) ?_
    refine .q (op_call (U := []) [] [] (sreduced_ev e (leN s 64) (leN_lt s 64)) Tryd.func70 (by kernel_rfl) rfl rfl rfl (⟨⟨_, rfl, rfl, rfl⟩, trivial⟩) (⟨⟨_, _, rfl, rfl, rfl, rfl, id, rfl⟩, trivial⟩) (trivial) (⟨(fun h => by cases h), trivial⟩) rfl) trivial rfl ?_
    refine .q (op_call (U := []) [] [] (swritten_ev _) Tryd.func69 (by kernel_rfl) rfl rfl rfl (⟨⟨_, rfl, rfl, rfl⟩, trivial⟩) (trivial) (trivial) (trivial) rfl) trivial rfl ?_
    refine .as (.aggB R) (by rw [hR]; rfl) ?_
    refine .w (op_storeRow sz24 rfl rfl rfl rfl rfl (by first | rfl | exact hlR) (by first | rfl | exact hlR)) trivial rfl ?_
    refine .nil ?_
    show Ev _ _ _ _ _
    refine .ret ?_
    show RetOk _ _ _ _ _ _ _
    exact retc1 rfl (.inl rfl) ⟨_, _, _, _, rfl, rfl, rfl, rfl, (hlR), Tryd.underlying24, rfl, sz24⟩ trivial
theorem ps_lt (x y z : List UInt8) : leN x 32 * leN y 32 + leN z 32 < 256 ^ 64 := by
  have hx := leN_lt x 32
  have hy := leN_lt y 32
  have hz := leN_lt z 32
  have h := Nat.mul_le_mul (Nat.le_sub_one_of_lt hx) (Nat.le_sub_one_of_lt hy)
  rw [show (256 : Nat) ^ 32 = 115792089237316195423570985008687907853269984665640564039457584007913129639936 from rfl] at *
  have e : (256 : Nat) ^ 64 = 256 ^ 32 * 256 ^ 32 := by rw [← Nat.pow_add]
  rw [show (256 : Nat) ^ 32 = 115792089237316195423570985008687907853269984665640564039457584007913129639936 from rfl] at e
  omega
set_option maxRecDepth 100000 in
theorem sMulAdd_ev (e : Nat) (x y z : List UInt8) (hx : x.length = 32) (hy : y.length = 32) (hz : z.length = 32) : Meets Tryd.prog 22 [.aggB x, .aggB y, .aggB z] (HO e) (.aggB (bsN ((leN x 32 * leN y 32 + leN z 32) % scL) 32)) [] := by
  obtain ⟨R, hR⟩ : ∃ R, R = bsN ((leN x 32 * leN y 32 + leN z 32) % scL) 32 := ⟨_, rfl⟩
  have hlR : R.length = 32 := by rw [hR]; exact length_bsN _ 32
  rw [← hR]
  refine meets_of_ev (nt := 16) Tryd.func22 rfl rfl (Nat.le_of_ble_eq_true rfl) ?_
  refine .seq ?_
  refine .region ?_
  refine .a (op_boxRow rfl rfl) trivial rfl ?_
  refine .a (op_boxRow rfl rfl) trivial rfl ?_
  refine .a (op_boxRow rfl rfl) trivial rfl ?_
  refine .a (op_allocRow zero24 rel_zero24 rfl) trivial rfl ?_
  refine .nil ?_
  show Ev _ _ _ _ _
  refine .seq ?_
  refine .drawn [[], [0], [], [0, 1, 2], [], [0, 1, 2, 3, 4], [0, 1, 2, 3, 4, 5], [0, 1, 2, 3, 4, 5, 6], [0, 1, 2, 3, 4, 5, 6, 7], [0, 1, 2, 3, 4, 5, 6, 7, 8]] [0, 1, 2, 3, 4, 5, 6, 7, 8, 9] [9] (by kernel_rfl) (by kernel_rfl) rfl ?_
  show DK _ [0, 1, 2, 3, 4, 5, 6, 7, 8, 9] _ _ _
  refine .q rfl (op_loadRow Tryd.underlying24 rfl sz24 rfl rfl rfl (by first | exact hx | (simp only [AV.len]; omega))) trivial ?_
  refine .q rfl (op_call (U := []) [] [] (sread_ev x hx) Tryd.func74 (by kernel_rfl) rfl rfl rfl (⟨⟨_, rfl, rfl, rfl⟩, trivial⟩) (trivial) (trivial) (trivial) rfl) trivial ?_
  refine .q rfl (op_loadRow Tryd.underlying24 rfl sz24 rfl rfl rfl (by first | exact hy | (simp only [AV.len]; omega))) trivial ?_
  refine .q rfl (op_call (U := []) [] [] (sread_ev y hy) Tryd.func74 (by kernel_rfl) rfl rfl rfl (⟨⟨_, rfl, rfl, rfl⟩, trivial⟩) (trivial) (trivial) (trivial) rfl) trivial ?_
  refine .q rfl (op_loadRow Tryd.underlying24 rfl sz24 rfl rfl rfl (by first | exact hz | (simp only [AV.len]; omega))) trivial ?_
  refine .q rfl (op_call (U := []) [] [] (sread_ev z hz) Tryd.func74 (by kernel_rfl) rfl rfl rfl (⟨⟨_, rfl, rfl, rfl⟩, trivial⟩) (trivial) (trivial) (trivial) rfl) trivial ?_
  refine .q rfl (op_call (U := []) [] [] (psum_ev (leN x 32) (leN y 32) (leN z 32) (by have := leN_lt x 32; rwa [show (256 : Nat) ^ 32 = 115792089237316195423570985008687907853269984665640564039457584007913129639936 from rfl] at this) (by have := leN_lt y 32; rwa [show (256 : Nat) ^ 32 = 115792089237316195423570985008687907853269984665640564039457584007913129639936 from rfl] at this) (by have := leN_lt z 32; rwa [show (256 : Nat) ^ 32 = 115792089237316195423570985008687907853269984665640564039457584007913129639936 from rfl] at this)) Tryd.func75 (by kernel_rfl) rfl rfl rfl (⟨⟨_, rfl, rfl, rfl⟩, ⟨_, rfl, rfl, rfl⟩, ⟨_, rfl, rfl, rfl⟩, trivial⟩) (trivial) (trivial) (trivial) rfl) trivial ?_
  refine .q rfl (op_call (U := []) [] [] (sreduced_ev e (leN x 32 * leN y 32 + leN z 32) (ps_lt x y z)) Tryd.func70 (by kernel_rfl) rfl rfl rfl (⟨⟨_, rfl, rfl, rfl⟩, trivial⟩) (⟨⟨_, _, rfl, rfl, rfl, rfl, id, rfl⟩, trivial⟩) (trivial) (⟨(fun h => by cases h), trivial⟩) rfl) trivial ?_
  refine .q rfl (op_call (U := []) [] [] (swritten_ev _) Tryd.func69 (by kernel_rfl) rfl rfl rfl (⟨⟨_, rfl, rfl, rfl⟩, trivial⟩) (trivial) (trivial) (trivial) rfl) trivial ?_
  refine .as (.aggB R) (by rw [hR]; rfl) ?_
  refine .w rfl (op_storeRow sz24 rfl rfl rfl rfl rfl (by first | rfl | exact hlR) (by first | rfl | exact hlR)) trivial rfl rfl ?_
  refine .nil ?_
  show Ev _ _ _ _ _
  refine .ret ?_
  show RetOk _ _ _ _ _ _ _
  exact retc1 rfl (.inl rfl) ⟨_, _, _, _, rfl, rfl, rfl, rfl, (hlR), Tryd.underlying24, rfl, sz24⟩ trivial
theorem fits_bit (a : Nat) : (UInt64.ofNat (if a < scL then 1 else 0) == UInt64.ofNat 1) = decide (a < scL) := by
  by_cases c : a < scL
  · rw [if_pos c, decide_eq_true c]; rfl
  · rw [if_neg c, decide_eq_false c]; rfl
set_option maxRecDepth 100000 in
theorem sFits_ev (e : Nat) (K : List UInt8) (hK : K.length = 32) : Meets Tryd.prog 21 [.aggB K] (HO e) (.bool (decide (leN K 32 < scL))) [] := by
  refine meets_of_ev (nt := 13) Tryd.func21 rfl rfl (Nat.le_of_ble_eq_true rfl) ?_
  refine .seq ?_
  refine .region ?_
  refine .a (op_boxRow rfl rfl) trivial rfl ?_
  refine .q (op_assign rfl) trivial rfl ?_
  refine .nil ?_
  show Ev _ _ _ _ _
  refine .seq ?_
  refine .region ?_
  refine .q (op_loadRow Tryd.underlying24 rfl sz24 rfl rfl rfl (by first | exact hK | (simp only [AV.len]; omega))) trivial rfl ?_
  refine .q (op_call (U := []) [] [] (sread_ev K hK) Tryd.func74 (by kernel_rfl) rfl rfl rfl (⟨⟨_, rfl, rfl, rfl⟩, trivial⟩) (trivial) (trivial) (trivial) rfl) trivial rfl ?_
  refine .q (op_call (U := []) [] [] (minus_ev e (leN K 32) (by have := leN_lt K 32; rwa [show (256 : Nat) ^ 32 = 115792089237316195423570985008687907853269984665640564039457584007913129639936 from rfl] at this)) Tryd.func73 (by kernel_rfl) rfl rfl rfl (⟨⟨_, rfl, rfl, rfl⟩, trivial⟩) (⟨⟨_, _, rfl, rfl, rfl, rfl, id, rfl⟩, trivial⟩) (trivial) (⟨(fun h => by cases h), trivial⟩) rfl) trivial rfl ?_
  refine .q (op_move rfl) trivial rfl ?_
  refine .q (op_extract rfl rfl) trivial rfl ?_
  refine .q (op_extract rfl rfl) trivial rfl ?_
  refine .a (op_allocRow zero95 rel_zero95 rfl) trivial rfl ?_
  refine .w (op_storeRow sz95 rfl rfl rfl rfl rfl (rfl) (rfl)) trivial rfl ?_
  refine .q (op_assign rfl) trivial rfl ?_
  refine .nil ?_
  show Ev _ _ _ _ _
  refine .seq ?_
  refine .region ?_
  refine .q (op_move rfl) trivial rfl ?_
  refine .q (op_bin64 rfl rfl rfl) trivial rfl ?_
  refine .q (op_assign rfl) trivial rfl ?_
  refine .nil ?_
  show Ev _ _ _ _ _
  refine .ret ?_
  show RetOk _ _ _ _ _ _ _
  exact ret1v rfl (.inl rfl) rfl (congrArg AV.bool (fits_bit (leN K 32))) trivial
end Go.Proofs.YtmnhifagkcmhjaaDoor
