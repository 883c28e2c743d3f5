/-
  The scalars of the program, walked.
-/
import Derived.Test.YtcnjekoidgefpaaGreatDoorGFV
namespace Go.Proofs.YtcnjekoidgefpaaGreatDoor
def scL : Nat := 7237005577332262213973186563042994240857116359379907606001950938285454250989
theorem iJ : 0 < scL := by decide
def nW : List UInt64 := [UInt64.ofNat 6346243789798364141, UInt64.ofNat 1503914060200516822, UInt64.ofNat 0, UInt64.ofNat 1152921504606846976]
def moN (x : List UInt64) : Nat → List UInt64 × UInt64
  | 0 => (x, UInt64.ofNat 0)
  | n + 1 => ((moN x n).1.set n ((moN x n).1.getD n 0 - nW.getD n 0 - (moN x n).2), borW ((moN x n).1.getD n 0) (nW.getD n 0) (moN x n).2)
theorem iR (x : List UInt64) (n : Nat) : (moN x n).1.length = x.length := by induction n with | zero => rfl | succ n ih => simp [moN, ih]
theorem moN_borrow (x : List UInt64) (n : Nat) : (moN x n).2.toNat ≤ 1 := by
  induction n with
  | zero => exact Nat.zero_le _
  | succ n ih => simp only [moN]; exact (dif3 _ _ _ ih).2
theorem mo_vl (x : List UInt64) (hx : x.length = 4) : vl (moN x 4).1 + scL = vl x + 115792089237316195423570985008687907853269984665640564039457584007913129639936 * (moN x 4).2.toNat := by
  obtain ⟨x0, x1, x2, x3, rfl⟩ := jS x hx
  obtain ⟨p0, h0⟩ : ∃ p, p = UInt64.ofNat 6346243789798364141 := ⟨_, rfl⟩
  obtain ⟨p1, h1⟩ : ∃ p, p = UInt64.ofNat 1503914060200516822 := ⟨_, rfl⟩
  obtain ⟨p2, h2⟩ : ∃ p, p = UInt64.ofNat 0 := ⟨_, rfl⟩
  obtain ⟨p3, h3⟩ : ∃ p, p = UInt64.ofNat 1152921504606846976 := ⟨_, rfl⟩
  obtain ⟨c0, hc⟩ : ∃ p, p = UInt64.ofNat 0 := ⟨_, rfl⟩
  have hp : nW = [p0, p1, p2, p3] := by rw [h0, h1, h2, h3]; rfl
  have q0 : p0.toNat = 6346243789798364141 := by rw [h0]; rfl
  have q1 : p1.toNat = 1503914060200516822 := by rw [h1]; rfl
  have q2 : p2.toNat = 0 := by rw [h2]; rfl
  have q3 : p3.toNat = 1152921504606846976 := by rw [h3]; rfl
  have qc : c0.toNat = 0 := by rw [hc]; rfl
  obtain ⟨d0, e0⟩ : ∃ d, d = x0 - p0 - c0 := ⟨_, rfl⟩
  obtain ⟨b0, f0⟩ : ∃ d, d = borW x0 p0 c0 := ⟨_, rfl⟩
  obtain ⟨d1, e1⟩ : ∃ d, d = x1 - p1 - b0 := ⟨_, rfl⟩
  obtain ⟨b1, f1⟩ : ∃ d, d = borW x1 p1 b0 := ⟨_, rfl⟩
  obtain ⟨d2, e2⟩ : ∃ d, d = x2 - p2 - b1 := ⟨_, rfl⟩
  obtain ⟨b2, f2⟩ : ∃ d, d = borW x2 p2 b1 := ⟨_, rfl⟩
  obtain ⟨d3, e3⟩ : ∃ d, d = x3 - p3 - b2 := ⟨_, rfl⟩
  obtain ⟨b3, f3⟩ : ∃ d, d = borW x3 p3 b2 := ⟨_, rfl⟩
  have e : moN [x0, x1, x2, x3] 4 = ([d0, d1, d2, d3], b3) := by
    simp only [moN, hp, ← hc, List.set_cons_zero, List.set_cons_succ, List.getD_cons_zero, List.getD_cons_succ]
    simp only [← e0, ← f0, ← e1, ← f1, ← e2, ← f2, ← e3, ← f3]
  rw [e]
  obtain ⟨s0, t0⟩ := dif3 x0 p0 c0 (by rw [qc]; omega)
  rw [← e0, ← f0] at s0; rw [← f0] at t0
  obtain ⟨s1, t1⟩ := dif3 x1 p1 b0 t0
  rw [← e1, ← f1] at s1; rw [← f1] at t1
  obtain ⟨s2, t2⟩ := dif3 x2 p2 b1 t1
  rw [← e2, ← f2] at s2; rw [← f2] at t2
  obtain ⟨s3, t3⟩ := dif3 x3 p3 b2 t2
  rw [← e3, ← f3] at s3; rw [← f3] at t3
  clear e e0 e1 e2 e3 f0 f1 f2 f3 hp h0 h1 h2 h3 hc
  unfold vl scL
  simp only [lbs]
  rw [q0, qc] at s0; rw [q1] at s1; rw [q2] at s2; rw [q3] at s3
  omega
theorem mo_fl (a : Nat) (ha : a < 115792089237316195423570985008687907853269984665640564039457584007913129639936) : (moN (fl a) 4).1 = fl ((a + (115792089237316195423570985008687907853269984665640564039457584007913129639936 - scL)) % 115792089237316195423570985008687907853269984665640564039457584007913129639936) ∧ (moN (fl a) 4).2 = UInt64.ofNat (if a < scL then 1 else 0) := by
  have h := mo_vl (fl a) rfl
  rw [mR a ha] at h
  have hb := moN_borrow (fl a) 4
  have hv := vl_lt (moN (fl a) 4).1
  constructor
  · refine fl_of _ _ (by rw [iR]; rfl) ?_
    unfold scL at *
    omega
  · apply UInt64.toNat_inj.1
    by_cases c : a < scL
    · rw [if_pos c, show (UInt64.ofNat 1).toNat = 1 from rfl]; unfold scL at *; omega
    · rw [if_neg c, qR]; unfold scL at *; omega
theorem lo_fl (a : Nat) (ha : a < 2 * scL) : selN (0 - UInt64.ofNat (if a < scL then 1 else 0)) (fl a) (fl ((a + (115792089237316195423570985008687907853269984665640564039457584007913129639936 - scL)) % 115792089237316195423570985008687907853269984665640564039457584007913129639936)) 4 = fl (a % scL) := by
  by_cases c : a < scL
  · rw [if_pos c, show (0 : UInt64) - UInt64.ofNat 1 = UInt64.ofNat 18446744073709551615 from rfl, sel_ones _ _ rfl rfl, Nat.mod_eq_of_lt c]
  · rw [if_neg c, show (0 : UInt64) - UInt64.ofNat 0 = UInt64.ofNat 0 from rfl, iK _ _ rfl rfl]
    refine congrArg fl ?_
    have : a % scL = a - scL := by rw [Nat.mod_eq_sub_mod (by omega), Nat.mod_eq_of_lt (by omega)]
    rw [this]
    unfold scL at *
    omega
def tpN (x : List UInt64) (b : UInt64) : Nat → List UInt64 × UInt64
  | 0 => (x, b)
  | n + 1 => ((tpN x b n).1.set n (((tpN x b n).1.getD n 0 <<< UInt64.ofNat 1) ||| (tpN x b n).2), (tpN x b n).1.getD n 0 >>> UInt64.ofNat 63)
theorem rN (x : List UInt64) (b : UInt64) (n : Nat) : (tpN x b n).1.length = x.length := by induction n with | zero => rfl | succ n ih => simp [tpN, ih]
theorem shl_or (x b : UInt64) (hb : b.toNat ≤ 1) : ((x <<< UInt64.ofNat 1) ||| b).toNat + 18446744073709551616 * (x >>> UInt64.ofNat 63).toNat = 2 * x.toNat + b.toNat ∧ (x >>> UInt64.ofNat 63).toNat ≤ 1 := by
  have hx := x.toNat_lt
  have e1 : (x >>> UInt64.ofNat 63).toNat = x.toNat / 9223372036854775808 := by rw [rS x 63 (by decide)]
  have e2 : ((x <<< UInt64.ofNat 1) ||| b).toNat = 2 * x.toNat % 18446744073709551616 + b.toNat := by
    rw [UInt64.toNat_or, UInt64.toNat_shiftLeft, show (UInt64.ofNat 1).toNat % 64 = 1 from rfl, Nat.shiftLeft_eq, Nat.pow_one, Nat.mul_comm x.toNat 2, show (2 : Nat) ^ 64 = 18446744073709551616 from rfl]
    have h2 : 2 * x.toNat % 18446744073709551616 = 2 ^ 1 * (x.toNat % 9223372036854775808) := by omega
    rw [h2, ← Nat.two_pow_add_eq_or_of_lt (i := 1) (by omega)]
  rw [e1, e2]
  omega
theorem tp_fl (a : Nat) (b : UInt64) (hb : b.toNat ≤ 1) (ha : 2 * a + 1 < 115792089237316195423570985008687907853269984665640564039457584007913129639936) : (tpN (fl a) b 4).1 = fl (2 * a + b.toNat) := by
  refine fl_of _ _ (by rw [rN]; rfl) ?_
  have hv := mR a (by omega)
  obtain ⟨x0, x1, x2, x3, hx⟩ := jS (fl a) rfl
  rw [hx] at hv ⊢
  have e : (tpN [x0, x1, x2, x3] b 4).1 = [(x0 <<< UInt64.ofNat 1) ||| b, (x1 <<< UInt64.ofNat 1) ||| (x0 >>> UInt64.ofNat 63), (x2 <<< UInt64.ofNat 1) ||| (x1 >>> UInt64.ofNat 63), (x3 <<< UInt64.ofNat 1) ||| (x2 >>> UInt64.ofNat 63)] := by
    simp only [tpN, List.set_cons_zero, List.set_cons_succ, List.getD_cons_zero, List.getD_cons_succ]
  rw [e]
  obtain ⟨s0, t0⟩ := shl_or x0 b hb
  obtain ⟨s1, t1⟩ := shl_or x1 _ t0
  obtain ⟨s2, t2⟩ := shl_or x2 _ t1
  obtain ⟨s3, t3⟩ := shl_or x3 _ t2
  unfold vl at hv ⊢
  simp only [lbs] at hv ⊢
  omega
def wl (n : Nat) : List UInt64 := fl n ++ fl (n / 115792089237316195423570985008687907853269984665640564039457584007913129639936)
theorem wl_get (n k : Nat) (h : k < 8) : (wl n).getD k 0 = UInt64.ofNat (n / 18446744073709551616 ^ k) := by
  match k, h with
  | 0, _ => show UInt64.ofNat n = _; rw [Nat.pow_zero, Nat.div_one]
  | 1, _ => show UInt64.ofNat (n / 18446744073709551616) = _; rw [Nat.pow_one]
  | 2, _ => rfl
  | 3, _ => rfl
  | 4, _ => rfl
  | 5, _ => show UInt64.ofNat (n / 115792089237316195423570985008687907853269984665640564039457584007913129639936 / 18446744073709551616) = _; rw [Nat.div_div_eq_div_mul]
  | 6, _ => show UInt64.ofNat (n / 115792089237316195423570985008687907853269984665640564039457584007913129639936 / 340282366920938463463374607431768211456) = _; rw [Nat.div_div_eq_div_mul]
  | 7, _ => show UInt64.ofNat (n / 115792089237316195423570985008687907853269984665640564039457584007913129639936 / 6277101735386680763835789423207666416102355444464034512896) = _; rw [Nat.div_div_eq_div_mul]
  | k + 8, h => omega
theorem wl_bit (n k : Nat) (h : k < 512) : ((wl n).getD (k / 64) 0 >>> UInt64.ofNat (k % 64)) &&& UInt64.ofNat 1 = UInt64.ofNat (n / 2 ^ k % 2) := by
  rw [wl_get _ _ (by omega)]
  apply UInt64.toNat_inj.1
  rw [UInt64.toNat_and, show (UInt64.ofNat 1).toNat = 2 ^ 1 - 1 from rfl, Nat.and_two_pow_sub_one_eq_mod, rS _ _ (Nat.mod_lt _ (by decide)), eX, eX, Nat.pow_one]
  have e : n / 2 ^ k = n / 18446744073709551616 ^ (k / 64) / 2 ^ (k % 64) := by
    rw [Nat.div_div_eq_div_mul, show (18446744073709551616 : Nat) = 2 ^ 64 from rfl, ← Nat.pow_mul, ← Nat.pow_add, Nat.div_add_mod]
  rw [e]
  have h2 : ∀ m j : Nat, j < 64 → m % 18446744073709551616 / 2 ^ j % 2 = m / 2 ^ j % 2 := fun m j hj => by
    have e1 : (18446744073709551616 : Nat) = 2 ^ j * 2 ^ (64 - j) := by rw [← Nat.pow_add, Nat.add_sub_cancel' (by omega)]
    have e2 : (2 : Nat) ^ (64 - j) = 2 * 2 ^ (63 - j) := by rw [← Nat.pow_succ', show (63 - j).succ = 64 - j by omega]
    rw [e1, Nat.mod_mul_right_div_self, e2, Nat.mod_mul_right_mod]
  rw [h2 _ _ (Nat.mod_lt _ (by decide)), Nat.mod_eq_of_lt (show n / 18446744073709551616 ^ (k / 64) / 2 ^ (k % 64) % 2 < 18446744073709551616 by omega)]
def rdN (x : Nat) : Nat → Nat
  | 0 => 0
  | i + 1 => (2 * rdN x i + x / 2 ^ (511 - i) % 2) % scL
theorem rdN_lt (x i : Nat) : rdN x i < scL := by
  cases i with
  | zero => exact iJ
  | succ i => exact Nat.mod_lt _ iJ
theorem rdN_eq (x : Nat) (i N : Nat) (hN : N = 512) (hx : x < 2 ^ N) (hi : i ≤ N) : rdN x i = x / 2 ^ (N - i) % scL := by
  induction i with
  | zero => rw [Nat.sub_zero, Nat.div_eq_of_lt hx, Nat.zero_mod]; rfl
  | succ i ih =>
    have e0 : 511 - i = N - (i + 1) := by omega
    simp only [rdN]
    rw [ih (by omega), e0]
    have e : x / 2 ^ (N - (i + 1)) = 2 * (x / 2 ^ (N - i)) + x / 2 ^ (N - (i + 1)) % 2 := by
      have : x / 2 ^ (N - i) = x / 2 ^ (N - (i + 1)) / 2 := by rw [Nat.div_div_eq_div_mul, ← Nat.pow_succ, show (N - (i + 1)).succ = N - i by omega]
      omega
    rw [Nat.add_mod, Nat.mul_mod_mod, ← Nat.add_mod, ← e]
theorem rdN_all (x N : Nat) (hN : N = 512) (hx : x < 2 ^ N) : rdN x N = x % scL := by rw [rdN_eq x N N hN hx (Nat.le_refl _), Nat.sub_self, Nat.pow_zero, Nat.div_one]
theorem pow_gen (a b c N : Nat) (h : N = a * b) (hc : 2 ^ a = c) : c ^ b = 2 ^ N := by rw [h, Nat.pow_mul, hc]
theorem pow_512 (N : Nat) (h : N = 512) : (256 : Nat) ^ 64 = 2 ^ N := pow_gen 8 64 256 N h rfl
theorem rdN_end (x : Nat) (hx : x < 256 ^ 64) : rdN x 512 = x % scL := rdN_all x 512 rfl (by rw [← pow_512 512 rfl]; exact hx)
def psO (a b z : List UInt64) : Nat → List UInt64
  | 0 => z ++ List.replicate 4 0
  | i + 1 => (mulI a b i (psO a b z i) 4).1.set (i + 4) (mulI a b i (psO a b z i) 4).2
theorem lP (a b z : List UInt64) (hz : z.length = 4) (n : Nat) : (psO a b z n).length = 8 := by induction n with | zero => simp [psO, hz] | succ n ih => simp [psO, gV, ih]
theorem psO_spec (a b z : List UInt64) (hz : z.length = 4) (i : Nat) (hi : i ≤ 4) : vn (psO a b z i) 8 = vn a i * vn b 4 + vn z 4 ∧ ∀ k, i + 4 ≤ k → lb (psO a b z i) k = 0 := by
  induction i with
  | zero =>
    obtain ⟨z0, z1, z2, z3, rfl⟩ := jS z hz
    refine ⟨by simp [psO, vn, lb], fun k hk => ?_⟩
    unfold psO lb
    rw [List.getD_eq_getElem?_getD, List.getElem?_append_right (by simp; omega), List.getElem?_replicate]
    split <;> rfl
  | succ i ih =>
    obtain ⟨h1, h2⟩ := ih (by omega)
    have hl := lP a b z hz i
    obtain ⟨g1, g2⟩ := mulI_spec a b i (psO a b z i) hl 4 (by omega)
    have hl2 := gV a b i (psO a b z i) 4
    refine ⟨?_, fun k hk => ?_⟩
    · have hv := vn_set (mulI a b i (psO a b z i) 4).1 (i + 4) (mulI a b i (psO a b z i) 4).2 8 (by omega) (by omega)
      rw [g2 (i + 4) (Nat.le_refl _), h2 (i + 4) (Nat.le_refl _)] at hv
      simp only [psO]
      rw [show vn a (i + 1) = vn a i + 18446744073709551616 ^ i * lb a i from rfl, Nat.add_mul, Nat.mul_assoc]
      omega
    · simp only [psO]
      rw [fN _ _ _ _ (by omega), if_neg (by omega), g2 k (by omega), h2 k (by omega)]
theorem list8 {α : Type} (x : List α) (h : x.length = 8) : ∃ a b c d e f g i, x = [a, b, c, d, e, f, g, i] := by
  match x, h with
  | [a, b, c, d, e, f, g, i], _ => exact ⟨a, b, c, d, e, f, g, i, rfl⟩
theorem wl_of (x : List UInt64) (h : x.length = 8) : x = wl (vn x 8) := by
  obtain ⟨a, b, c, d, e, f, g, i, rfl⟩ := list8 x h
  have h1 : vn [a, b, c, d, e, f, g, i] 8 = vl [a, b, c, d] + 115792089237316195423570985008687907853269984665640564039457584007913129639936 * vl [e, f, g, i] := by
    simp only [vn, vl, lb, List.getD_cons_zero, List.getD_cons_succ]; omega
  have h2 := vl_lt [a, b, c, d]
  have h3 := fl_vl [a, b, c, d] rfl
  have h4 := fl_vl [e, f, g, i] rfl
  have e1 : fl (vn [a, b, c, d, e, f, g, i] 8) = fl (vl [a, b, c, d]) := by
    rw [h1]
    generalize vl [e, f, g, i] = q at *
    generalize vl [a, b, c, d] = r at *
    unfold fl
    congr 1
    · apply UInt64.toNat_inj.1; rw [eX, eX]; omega
    congr 1
    · apply UInt64.toNat_inj.1; rw [eX, eX]; omega
    congr 1
    · apply UInt64.toNat_inj.1; rw [eX, eX]; omega
    congr 1
    · apply UInt64.toNat_inj.1; rw [eX, eX]; omega
  have e2 : vn [a, b, c, d, e, f, g, i] 8 / 115792089237316195423570985008687907853269984665640564039457584007913129639936 = vl [e, f, g, i] := by rw [h1]; omega
  unfold wl
  rw [e1, e2, h3, h4]
  rfl
theorem ps_fl (a b z : Nat) (ha : a < 115792089237316195423570985008687907853269984665640564039457584007913129639936) (hb : b < 115792089237316195423570985008687907853269984665640564039457584007913129639936) (hz : z < 115792089237316195423570985008687907853269984665640564039457584007913129639936) : psO (fl a) (fl b) (fl z) 4 = wl (a * b + z) := by
  have h := (psO_spec (fl a) (fl b) (fl z) rfl 4 (Nat.le_refl _)).1
  rw [vn4, vn4, vn4, mR a ha, mR b hb, mR z hz] at h
  rw [← h]
  exact wl_of _ (lP _ _ _ rfl _)
def owN (b : List UInt8) : Nat → List UInt64
  | 0 => List.replicate 8 0
  | i + 1 => (owN b i).set i (rwN (b.drop (8 * i)) 8)
theorem sN (b : List UInt8) (n : Nat) : (owN b n).length = 8 := by induction n with | zero => rfl | succ n ih => simp [owN, ih]
def nQ (s : List UInt8) : List UInt8 := s.take 64 ++ List.replicate (64 - min s.length 64) 0
theorem sL (s : List UInt8) : (nQ s).length = 64 := by unfold nQ; simp; omega
theorem leN_pad64 (s : List UInt8) : leN (nQ s) 64 = leN s 64 := by
  refine uS _ _ _ fun i hi => ?_
  unfold nQ
  rw [getD_app]
  by_cases c : i < (s.take 64).length
  · rw [if_pos c]
    simp only [List.length_take] at c
    rw [List.getD_eq_getElem?_getD, List.getElem?_take, if_pos (by omega), ← List.getD_eq_getElem?_getD]
  · rw [if_neg c]
    simp only [List.length_take] at c
    rw [List.getD_eq_getElem?_getD, List.getElem?_replicate, List.getD_eq_getElem?_getD, List.getElem?_eq_none (show s.length ≤ i by omega)]
    split <;> rfl
theorem ow_wl (b : List UInt8) : owN b 8 = wl (leN b 64) := by
  have e : owN b 8 = [rwN (b.drop 0) 8, rwN (b.drop 8) 8, rwN (b.drop 16) 8, rwN (b.drop 24) 8, rwN (b.drop 32) 8, rwN (b.drop 40) 8, rwN (b.drop 48) 8, rwN (b.drop 56) 8] := by
    simp only [owN, List.replicate, List.set_cons_zero, List.set_cons_succ]
  have h0 := ofN_vl b
  have h1 := ofN_vl (b.drop 32)
  have e0 : ofN b 4 = [rwN (b.drop 0) 8, rwN (b.drop 8) 8, rwN (b.drop 16) 8, rwN (b.drop 24) 8] := by
    simp only [ofN, List.replicate, List.set_cons_zero, List.set_cons_succ]
  have e1 : ofN (b.drop 32) 4 = [rwN (b.drop 32) 8, rwN (b.drop 40) 8, rwN (b.drop 48) 8, rwN (b.drop 56) 8] := by
    simp only [ofN, List.replicate, List.set_cons_zero, List.set_cons_succ, List.drop_drop, Nat.reduceMul, Nat.reduceAdd]
  have e2 : owN b 8 = ofN b 4 ++ ofN (b.drop 32) 4 := by rw [e, e0, e1]; rfl
  have hl0 := xW b 4
  have hl1 := xW (b.drop 32) 4
  have h2 := lS b 32 32
  rw [show (256 : Nat) ^ 32 = 115792089237316195423570985008687907853269984665640564039457584007913129639936 from rfl] at h2
  rw [wl_of (owN b 8) (sN b 8)]
  congr 1
  rw [e2]
  obtain ⟨a, b', c, d, ha⟩ := jS _ hl0
  obtain ⟨f, g, i, j, hf⟩ := jS _ hl1
  rw [ha] at h0 ⊢
  rw [hf] at h1 ⊢
  rw [show (64 : Nat) = 32 + 32 from rfl, h2, ← h0, ← h1]
  simp only [vn, vl, lb, List.cons_append, List.nil_append, List.getD_cons_zero, List.getD_cons_succ]
  omega
theorem of_fl (b : List UInt8) : ofN b 4 = fl (leN b 32) := fl_of _ _ (xW b 4) (ofN_vl b)
end Go.Proofs.YtcnjekoidgefpaaGreatDoor
