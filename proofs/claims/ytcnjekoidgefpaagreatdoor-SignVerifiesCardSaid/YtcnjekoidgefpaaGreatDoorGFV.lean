/-
  The field of 2^255 - 19 of the program, walked, and as numbers.
-/
import Derived.Lib.Mul64
import Derived.Test.YtcnjekoidgefpaaGreatDoorGR1V
import Derived.Test.YtcnjekoidgefpaaGreatDoorGEV
namespace Go.Proofs.YtcnjekoidgefpaaGreatDoor
/-! Numbers modulo 2^255 - 19, in four limbs of 64 bits. -/
def fp : Nat := 57896044618658097711785492504343953926634992332820282019728792003956564819949
theorem fp_eq : fp = 2 ^ 255 - 19 := by decide
def vn (l : List UInt64) : Nat → Nat
  | 0 => 0
  | n + 1 => vn l n + 18446744073709551616 ^ n * lb l n
def fl (n : Nat) : List UInt64 := [UInt64.ofNat n, UInt64.ofNat (n / 18446744073709551616), UInt64.ofNat (n / 340282366920938463463374607431768211456), UInt64.ofNat (n / 6277101735386680763835789423207666416102355444464034512896)]
theorem jS {α : Type} (x : List α) (h : x.length = 4) : ∃ a b c d, x = [a, b, c, d] := by
  match x, h with
  | [a, b, c, d], _ => exact ⟨a, b, c, d, rfl⟩
theorem lbs (a b c d : UInt64) : lb [a, b, c, d] 0 = a.toNat ∧ lb [a, b, c, d] 1 = b.toNat ∧ lb [a, b, c, d] 2 = c.toNat ∧ lb [a, b, c, d] 3 = d.toNat := ⟨rfl, rfl, rfl, rfl⟩
def vl (x : List UInt64) : Nat := lb x 0 + 18446744073709551616 * lb x 1 + 340282366920938463463374607431768211456 * lb x 2 + 6277101735386680763835789423207666416102355444464034512896 * lb x 3
theorem vn4 (x : List UInt64) : vn x 4 = vl x := by simp only [vn, vl]; omega
theorem wO (x : List UInt64) (i : Nat) : lb x i < 18446744073709551616 := (x.getD i 0).toNat_lt
theorem vl_lt (x : List UInt64) : vl x < 115792089237316195423570985008687907853269984665640564039457584007913129639936 := by
  have h0 := wO x 0
  have h1 := wO x 1
  have h2 := wO x 2
  have h3 := wO x 3
  unfold vl; omega
theorem eX (n : Nat) : (UInt64.ofNat n).toNat = n % 18446744073709551616 := UInt64.toNat_ofNat'
theorem mR (n : Nat) (h : n < 115792089237316195423570985008687907853269984665640564039457584007913129639936) : vl (fl n) = n := by
  show (UInt64.ofNat n).toNat + 18446744073709551616 * (UInt64.ofNat (n / 18446744073709551616)).toNat + 340282366920938463463374607431768211456 * (UInt64.ofNat (n / 340282366920938463463374607431768211456)).toNat + 6277101735386680763835789423207666416102355444464034512896 * (UInt64.ofNat (n / 6277101735386680763835789423207666416102355444464034512896)).toNat = n
  simp only [eX]
  omega
theorem fl_vl (x : List UInt64) (h : x.length = 4) : fl (vl x) = x := by
  obtain ⟨a, b, c, d, rfl⟩ := jS x h
  have ha := a.toNat_lt
  have hb := b.toNat_lt
  have hc := c.toNat_lt
  have hd := d.toNat_lt
  have hv : vl [a, b, c, d] = a.toNat + 18446744073709551616 * b.toNat + 340282366920938463463374607431768211456 * c.toNat + 6277101735386680763835789423207666416102355444464034512896 * d.toNat := rfl
  unfold fl
  congr 1
  · apply UInt64.toNat_inj.1; rw [eX, hv]; omega
  congr 1
  · apply UInt64.toNat_inj.1; rw [eX, hv]; omega
  congr 1
  · apply UInt64.toNat_inj.1; rw [eX, hv]; omega
  congr 1
  · apply UInt64.toNat_inj.1; rw [eX, hv]; omega
theorem fl_of (x : List UInt64) (n : Nat) (h : x.length = 4) (hv : vl x = n) : x = fl n := by rw [← hv, fl_vl x h]
theorem fl_inj {a b : Nat} (ha : a < 115792089237316195423570985008687907853269984665640564039457584007913129639936) (hb : b < 115792089237316195423570985008687907853269984665640564039457584007913129639936) (h : fl a = fl b) : a = b := by
  rw [← mR a ha, ← mR b hb, h]
/-! Sums. -/
def dT (x : List UInt64) (c : UInt64) : Nat → List UInt64 × UInt64
  | 0 => (x, c)
  | n + 1 => ((dT x c n).1.set n ((dT x c n).1.getD n 0 + (dT x c n).2 + UInt64.ofNat 0), carW ((dT x c n).1.getD n 0) (dT x c n).2 (UInt64.ofNat 0))
def adN (x y : List UInt64) : Nat → List UInt64 × UInt64
  | 0 => (x, UInt64.ofNat 0)
  | n + 1 => ((adN x y n).1.set n ((adN x y n).1.getD n 0 + y.getD n 0 + (adN x y n).2), carW ((adN x y n).1.getD n 0) (y.getD n 0) (adN x y n).2)
def borW (a b c : UInt64) : UInt64 := UInt64.ofNat (if a.toNat < b.toNat + c.toNat then 1 else 0)
def oX : List UInt64 := [UInt64.ofNat 18446744073709551597, UInt64.ofNat 18446744073709551615, UInt64.ofNat 18446744073709551615, UInt64.ofNat 9223372036854775807]
def sbY (y : List UInt64) : Nat → List UInt64 × UInt64
  | 0 => (y, UInt64.ofNat 0)
  | n + 1 => ((sbY y n).1.set n (oX.getD n 0 - (sbY y n).1.getD n 0 - (sbY y n).2), borW (oX.getD n 0) ((sbY y n).1.getD n 0) (sbY y n).2)
def sbX (x y : List UInt64) : Nat → List UInt64 × UInt64
  | 0 => (x, UInt64.ofNat 0)
  | n + 1 => ((sbX x y n).1.set n ((sbX x y n).1.getD n 0 + (sbY y (n + 1)).1.getD n 0 + (sbX x y n).2), carW ((sbX x y n).1.getD n 0) ((sbY y (n + 1)).1.getD n 0) (sbX x y n).2)
theorem yW (x : List UInt64) (c : UInt64) (n : Nat) : (dT x c n).1.length = x.length := by induction n with | zero => rfl | succ n ih => simp [dT, ih]
theorem kR (x y : List UInt64) (n : Nat) : (adN x y n).1.length = x.length := by induction n with | zero => rfl | succ n ih => simp [adN, ih]
theorem length_sbY (y : List UInt64) (n : Nat) : (sbY y n).1.length = y.length := by induction n with | zero => rfl | succ n ih => simp [sbY, ih]
theorem gR (x y : List UInt64) (n : Nat) : (sbX x y n).1.length = x.length := by induction n with | zero => rfl | succ n ih => simp [sbX, ih]
theorem sum3 (a b c : UInt64) (hc : c.toNat ≤ 18446744073709551615) : (a + b + c).toNat = (a.toNat + b.toNat + c.toNat) % 18446744073709551616 ∧ (carW a b c).toNat = (a.toNat + b.toNat + c.toNat) / 18446744073709551616 := by
  have ha := a.toNat_lt
  have hb := b.toNat_lt
  constructor
  · rw [UInt64.toNat_add, UInt64.toNat_add]; omega
  · unfold carW; rw [UInt64.toNat_ofNat_of_lt' (by show _ < 18446744073709551616; omega)]
theorem dif3 (a b c : UInt64) (hc : c.toNat ≤ 1) : (a - b - c).toNat + b.toNat + c.toNat = a.toNat + 18446744073709551616 * (borW a b c).toNat ∧ (borW a b c).toNat ≤ 1 := by
  have ha := a.toNat_lt
  have hb := b.toNat_lt
  unfold borW
  rw [UInt64.toNat_sub, UInt64.toNat_sub]
  by_cases h : a.toNat < b.toNat + c.toNat
  · rw [if_pos h, show (UInt64.ofNat 1).toNat = 1 from rfl]; omega
  · rw [if_neg h, show (UInt64.ofNat 0).toNat = 0 from rfl]; omega
theorem qR : (UInt64.ofNat 0).toNat = 0 := rfl
theorem plus_spec (x : List UInt64) (c : UInt64) (h : x.length = 4) : vl (dT x c 4).1 = (vl x + c.toNat) % 115792089237316195423570985008687907853269984665640564039457584007913129639936 := by
  obtain ⟨x0, x1, x2, x3, rfl⟩ := jS x h
  have e : (dT [x0, x1, x2, x3] c 4).1 = [x0 + c + UInt64.ofNat 0, x1 + carW x0 c (UInt64.ofNat 0) + UInt64.ofNat 0, x2 + carW x1 (carW x0 c (UInt64.ofNat 0)) (UInt64.ofNat 0) + UInt64.ofNat 0, x3 + carW x2 (carW x1 (carW x0 c (UInt64.ofNat 0)) (UInt64.ofNat 0)) (UInt64.ofNat 0) + UInt64.ofNat 0] := by
    simp only [dT, List.set_cons_zero, List.set_cons_succ, List.getD_cons_zero, List.getD_cons_succ]
  rw [e]
  have z := qR
  obtain ⟨a0, b0⟩ := sum3 x0 c (UInt64.ofNat 0) (by rw [z]; omega)
  generalize carW x0 c (UInt64.ofNat 0) = c0 at *
  obtain ⟨a1, b1⟩ := sum3 x1 c0 (UInt64.ofNat 0) (by rw [z]; omega)
  generalize carW x1 c0 (UInt64.ofNat 0) = c1 at *
  obtain ⟨a2, b2⟩ := sum3 x2 c1 (UInt64.ofNat 0) (by rw [z]; omega)
  generalize carW x2 c1 (UInt64.ofNat 0) = c2 at *
  obtain ⟨a3, _⟩ := sum3 x3 c2 (UInt64.ofNat 0) (by rw [z]; omega)
  have h0 := x0.toNat_lt
  have h1 := x1.toNat_lt
  have h2 := x2.toNat_lt
  have h3 := x3.toNat_lt
  have hc := c.toNat_lt
  unfold vl
  simp only [lbs]
  rw [a0, a1, a2, a3]
  rw [z] at *
  omega
theorem ad_spec (x y : List UInt64) (hx : x.length = 4) (hy : y.length = 4) : vl (adN x y 4).1 = (vl x + vl y) % 115792089237316195423570985008687907853269984665640564039457584007913129639936 := by
  obtain ⟨x0, x1, x2, x3, rfl⟩ := jS x hx
  obtain ⟨y0, y1, y2, y3, rfl⟩ := jS y hy
  have e : (adN [x0, x1, x2, x3] [y0, y1, y2, y3] 4).1 = [x0 + y0 + UInt64.ofNat 0, x1 + y1 + carW x0 y0 (UInt64.ofNat 0), x2 + y2 + carW x1 y1 (carW x0 y0 (UInt64.ofNat 0)), x3 + y3 + carW x2 y2 (carW x1 y1 (carW x0 y0 (UInt64.ofNat 0)))] := by
    simp only [adN, List.set_cons_zero, List.set_cons_succ, List.getD_cons_zero, List.getD_cons_succ]
  rw [e]
  have z := qR
  have m : ∀ a : UInt64, a.toNat ≤ 18446744073709551615 := fun a => by have := a.toNat_lt; omega
  obtain ⟨a0, b0⟩ := sum3 x0 y0 (UInt64.ofNat 0) (m _)
  generalize carW x0 y0 (UInt64.ofNat 0) = c0 at *
  obtain ⟨a1, b1⟩ := sum3 x1 y1 c0 (m _)
  generalize carW x1 y1 c0 = c1 at *
  obtain ⟨a2, b2⟩ := sum3 x2 y2 c1 (m _)
  generalize carW x2 y2 c1 = c2 at *
  obtain ⟨a3, _⟩ := sum3 x3 y3 c2 (m _)
  have h0 := x0.toNat_lt
  have h1 := x1.toNat_lt
  have h2 := x2.toNat_lt
  have h3 := x3.toNat_lt
  have g0 := y0.toNat_lt
  have g1 := y1.toNat_lt
  have g2 := y2.toNat_lt
  have g3 := y3.toNat_lt
  unfold vl
  simp only [lbs]
  rw [a0, a1, a2, a3]
  rw [z] at *
  omega
theorem sb_spec (x y : List UInt64) (hx : x.length = 4) (hy : y.length = 4) (hv : vl y < fp) : vl (sbX x y 4).1 = (vl x + (fp - vl y)) % 115792089237316195423570985008687907853269984665640564039457584007913129639936 := by
  obtain ⟨x0, x1, x2, x3, rfl⟩ := jS x hx
  obtain ⟨y0, y1, y2, y3, rfl⟩ := jS y hy
  obtain ⟨p0, h0⟩ : ∃ p, p = UInt64.ofNat 18446744073709551597 := ⟨_, rfl⟩
  obtain ⟨p1, h1⟩ : ∃ p, p = UInt64.ofNat 18446744073709551615 := ⟨_, rfl⟩
  obtain ⟨p3, h3⟩ : ∃ p, p = UInt64.ofNat 9223372036854775807 := ⟨_, rfl⟩
  have hp : oX = [p0, p1, p1, p3] := by rw [h0, h1, h3]; rfl
  have q0 : p0.toNat = 18446744073709551597 := by rw [h0]; rfl
  have q1 : p1.toNat = 18446744073709551615 := by rw [h1]; rfl
  have q3 : p3.toNat = 9223372036854775807 := by rw [h3]; rfl
  clear h0 h1 h3
  have z := qR
  obtain ⟨d0, e0⟩ : ∃ d, d = p0 - y0 - UInt64.ofNat 0 := ⟨_, rfl⟩
  obtain ⟨b0, f0⟩ : ∃ d, d = borW p0 y0 (UInt64.ofNat 0) := ⟨_, rfl⟩
  obtain ⟨d1, e1⟩ : ∃ d, d = p1 - y1 - b0 := ⟨_, rfl⟩
  obtain ⟨b1, f1⟩ : ∃ d, d = borW p1 y1 b0 := ⟨_, rfl⟩
  obtain ⟨d2, e2⟩ : ∃ d, d = p1 - y2 - b1 := ⟨_, rfl⟩
  obtain ⟨b2, f2⟩ : ∃ d, d = borW p1 y2 b1 := ⟨_, rfl⟩
  obtain ⟨d3, e3⟩ : ∃ d, d = p3 - y3 - b2 := ⟨_, rfl⟩
  have e : (sbX [x0, x1, x2, x3] [y0, y1, y2, y3] 4).1 = [x0 + d0 + UInt64.ofNat 0, x1 + d1 + carW x0 d0 (UInt64.ofNat 0), x2 + d2 + carW x1 d1 (carW x0 d0 (UInt64.ofNat 0)), x3 + d3 + carW x2 d2 (carW x1 d1 (carW x0 d0 (UInt64.ofNat 0)))] := by
    simp only [sbX, sbY, hp, List.set_cons_zero, List.set_cons_succ, List.getD_cons_zero, List.getD_cons_succ]
    simp only [← e0, ← f0, ← e1, ← f1, ← e2, ← f2, ← e3]
  rw [e]
  have m : ∀ a : UInt64, a.toNat ≤ 18446744073709551615 := fun a => by have := a.toNat_lt; omega
  obtain ⟨s0, t0⟩ := dif3 p0 y0 (UInt64.ofNat 0) (by rw [z]; omega)
  rw [← e0, ← f0] at s0; rw [← f0] at t0
  obtain ⟨s1, t1⟩ := dif3 p1 y1 b0 t0
  rw [← e1, ← f1] at s1; rw [← f1] at t1
  obtain ⟨s2, t2⟩ := dif3 p1 y2 b1 t1
  rw [← e2, ← f2] at s2; rw [← f2] at t2
  obtain ⟨s3, t3⟩ := dif3 p3 y3 b2 t2
  rw [← e3] at s3
  clear e e0 e1 e2 e3 f0 f1 f2 hp
  obtain ⟨a0, r0⟩ := sum3 x0 d0 (UInt64.ofNat 0) (m _)
  generalize carW x0 d0 (UInt64.ofNat 0) = c0 at *
  obtain ⟨a1, r1⟩ := sum3 x1 d1 c0 (m _)
  generalize carW x1 d1 c0 = c1 at *
  obtain ⟨a2, r2⟩ := sum3 x2 d2 c1 (m _)
  generalize carW x2 d2 c1 = c2 at *
  obtain ⟨a3, _⟩ := sum3 x3 d3 c2 (m _)
  have k0 := d0.toNat_lt
  have k1 := d1.toNat_lt
  have k2 := d2.toNat_lt
  have k3 := d3.toNat_lt
  have hv2 : vl [y0, y1, y2, y3] = y0.toNat + 18446744073709551616 * y1.toNat + 340282366920938463463374607431768211456 * y2.toNat + 6277101735386680763835789423207666416102355444464034512896 * y3.toNat := rfl
  have hvx : vl [x0, x1, x2, x3] = x0.toNat + 18446744073709551616 * x1.toNat + 340282366920938463463374607431768211456 * x2.toNat + 6277101735386680763835789423207666416102355444464034512896 * x3.toNat := rfl
  unfold fp at *
  have hd : d0.toNat + 18446744073709551616 * d1.toNat + 340282366920938463463374607431768211456 * d2.toNat + 6277101735386680763835789423207666416102355444464034512896 * d3.toNat = 57896044618658097711785492504343953926634992332820282019728792003956564819949 - vl [y0, y1, y2, y3] := by
    rw [hv2] at hv ⊢
    rw [z, q0] at s0
    rw [q1] at s1 s2
    rw [q3] at s3
    clear a0 a1 a2 a3 r0 r1 r2
    omega
  rw [← hd, hvx]
  unfold vl
  simp only [lbs]
  rw [a0, a1, a2, a3]
  rw [z] at *
  clear hd hvx hv2 hv s0 s1 s2 s3
  have h0 := x0.toNat_lt
  have h1 := x1.toNat_lt
  have h2 := x2.toNat_lt
  have h3 := x3.toNat_lt
  omega
theorem neg_bit (b : UInt64) (h : b.toNat ≤ 1) : 0 - b = if b.toNat = 1 then UInt64.ofNat 18446744073709551615 else UInt64.ofNat 0 := by
  have : b = UInt64.ofNat 0 ∨ b = UInt64.ofNat 1 := by
    rcases Nat.lt_or_ge b.toNat 1 with h1 | h1
    · exact .inl (UInt64.toNat_inj.1 (by rw [qR]; omega))
    · exact .inr (UInt64.toNat_inj.1 (by rw [show (UInt64.ofNat 1).toNat = 1 from rfl]; omega))
  rcases this with rfl | rfl <;> decide
theorem sel_all (a b : UInt64) : a ^^^ (UInt64.ofNat 18446744073709551615 &&& (a ^^^ b)) = b := by
  have : UInt64.ofNat 18446744073709551615 &&& (a ^^^ b) = a ^^^ b := by
    apply UInt64.toNat_inj.1
    have h := (a ^^^ b).toNat_lt
    rw [UInt64.toNat_and, show (UInt64.ofNat 18446744073709551615).toNat = 2 ^ 64 - 1 from rfl, Nat.and_comm, Nat.and_two_pow_sub_one_eq_mod]
    exact Nat.mod_eq_of_lt h
  rw [this, ← UInt64.xor_assoc, UInt64.xor_self, UInt64.zero_xor]
theorem sel_none (a b : UInt64) : a ^^^ (UInt64.ofNat 0 &&& (a ^^^ b)) = a := by
  have : UInt64.ofNat 0 &&& (a ^^^ b) = 0 := by
    apply UInt64.toNat_inj.1
    rw [UInt64.toNat_and, qR, Nat.zero_and]; rfl
  rw [this, UInt64.xor_zero]
def zU (a : UInt64) : UInt64 := a &&& ~~~(UInt64.ofNat 9223372036854775808)
theorem topOff_toNat (a : UInt64) : (zU a).toNat = a.toNat % 9223372036854775808 := by
  unfold zU
  rw [UInt64.toNat_and, show (~~~(UInt64.ofNat 9223372036854775808)).toNat = 2 ^ 63 - 1 by decide, Nat.and_two_pow_sub_one_eq_mod]
def selN (mask : UInt64) (l x : List UInt64) : Nat → List UInt64
  | 0 => x
  | n + 1 => (selN mask l x n).set n ((selN mask l x n).getD n 0 ^^^ (mask &&& ((selN mask l x n).getD n 0 ^^^ l.getD n 0)))
theorem aV (m : UInt64) (l x : List UInt64) (n : Nat) : (selN m l x n).length = x.length := by induction n with | zero => rfl | succ n ih => simp [selN, ih]
theorem sel_ones (l x : List UInt64) (hl : l.length = 4) (hx : x.length = 4) : selN (UInt64.ofNat 18446744073709551615) l x 4 = l := by
  obtain ⟨l0, l1, l2, l3, rfl⟩ := jS l hl
  obtain ⟨x0, x1, x2, x3, rfl⟩ := jS x hx
  simp only [selN, List.set_cons_zero, List.set_cons_succ, List.getD_cons_zero, List.getD_cons_succ, sel_all]
theorem iK (l x : List UInt64) (hl : l.length = 4) (hx : x.length = 4) : selN (UInt64.ofNat 0) l x 4 = x := by
  obtain ⟨l0, l1, l2, l3, rfl⟩ := jS l hl
  obtain ⟨x0, x1, x2, x3, rfl⟩ := jS x hx
  simp only [selN, List.set_cons_zero, List.set_cons_succ, List.getD_cons_zero, List.getD_cons_succ, sel_none]
def zW (x : List UInt64) : List UInt64 := (dT x (UInt64.ofNat 19) 4).1
def dI (x : List UInt64) : UInt64 := 0 - ((zW x).getD 3 0 >>> UInt64.ofNat 63)
def redL (x : List UInt64) : List UInt64 := selN (dI x) ((zW x).set 3 (zU ((zW x).getD 3 0))) x 4
theorem fS (x : List UInt64) : (redL x).length = x.length := aV _ _ _ _
theorem vl_top (x : List UInt64) (h : x.length = 4) : vl (x.set 3 (zU (x.getD 3 0))) = vl x % 57896044618658097711785492504343953926634992332820282019728792003956564819968 := by
  obtain ⟨a, b, c, d, rfl⟩ := jS x h
  show a.toNat + 18446744073709551616 * b.toNat + 340282366920938463463374607431768211456 * c.toNat + 6277101735386680763835789423207666416102355444464034512896 * (zU d).toNat = (a.toNat + 18446744073709551616 * b.toNat + 340282366920938463463374607431768211456 * c.toNat + 6277101735386680763835789423207666416102355444464034512896 * d.toNat) % _
  rw [topOff_toNat]
  have h0 := a.toNat_lt
  have h1 := b.toNat_lt
  have h2 := c.toNat_lt
  have h3 := d.toNat_lt
  omega
theorem eP (x : List UInt64) (h : x.length = 4) (hv : vl x < 2 * fp) : redL x = fl (vl x % fp) := by
  have hp := plus_spec x (UInt64.ofNat 19) h
  have hl : (zW x).length = 4 := by unfold zW; rw [yW, h]
  have ht := vl_top (zW x) hl
  rw [show (UInt64.ofNat 19).toNat = 19 from rfl] at hp
  unfold fp at *
  have hp : vl (zW x) = vl x + 19 := by rw [show vl (zW x) = _ from hp]; omega
  have hs : ((zW x).getD 3 0 >>> UInt64.ofNat 63).toNat = vl (zW x) / 57896044618658097711785492504343953926634992332820282019728792003956564819968 := by
    rw [rS _ _ (by decide)]
    have h0 := wO (zW x) 0
    have h1 := wO (zW x) 1
    have h2 := wO (zW x) 2
    unfold vl
    show lb (zW x) 3 / 9223372036854775808 = _
    omega
  unfold redL dI
  rw [neg_bit _ (by rw [hs, hp]; omega), hs, hp]
  by_cases c : (vl x + 19) / 57896044618658097711785492504343953926634992332820282019728792003956564819968 = 1
  · rw [if_pos c, sel_ones _ _ (by rw [List.length_set, hl]) h]
    refine fl_of _ _ (by rw [List.length_set, hl]) ?_
    rw [ht, hp]; omega
  · rw [if_neg c, iK _ _ (by rw [List.length_set, hl]) h]
    refine fl_of _ _ h ?_
    omega
/-! Products. -/
def mdN (x y m n : UInt64) : Nat := x.toNat * y.toNat + m.toNat + n.toNat
def mdH (x y m n : UInt64) : UInt64 := UInt64.ofNat (mdN x y m n / 18446744073709551616)
def mdL (x y m n : UInt64) : UInt64 := UInt64.ofNat (mdN x y m n)
theorem mul_lt64 (x y : UInt64) : x.toNat * y.toNat ≤ 340282366920938463426481119284349108225 := by
  have hx := x.toNat_lt
  have hy := y.toNat_lt
  exact Nat.mul_le_mul (show x.toNat ≤ 18446744073709551615 by omega) (show y.toNat ≤ 18446744073709551615 by omega)
theorem md_spec (x y m n : UInt64) : (mdL x y m n).toNat + 18446744073709551616 * (mdH x y m n).toNat = x.toNat * y.toNat + m.toNat + n.toNat := by
  have hm := m.toNat_lt
  have hn := n.toNat_lt
  have hxy := mul_lt64 x y
  unfold mdL mdH
  rw [eX, eX]
  unfold mdN
  omega
def mulI (a b : List UInt64) (i : Nat) (p : List UInt64) : Nat → List UInt64 × UInt64
  | 0 => (p, UInt64.ofNat 0)
  | j + 1 => ((mulI a b i p j).1.set (i + j) (mdL (a.getD i 0) (b.getD j 0) ((mulI a b i p j).1.getD (i + j) 0) (mulI a b i p j).2), mdH (a.getD i 0) (b.getD j 0) ((mulI a b i p j).1.getD (i + j) 0) (mulI a b i p j).2)
def mulO (a b : List UInt64) : Nat → List UInt64
  | 0 => List.replicate 8 0
  | i + 1 => (mulI a b i (mulO a b i) 4).1.set (i + 4) (mulI a b i (mulO a b i) 4).2
theorem gV (a b : List UInt64) (i : Nat) (p : List UInt64) (n : Nat) : (mulI a b i p n).1.length = p.length := by induction n with | zero => rfl | succ n ih => simp [mulI, ih]
theorem cQ (a b : List UInt64) (n : Nat) : (mulO a b n).length = 8 := by induction n with | zero => rfl | succ n ih => simp [mulO, gV, ih]
theorem vn_set_ge (l : List UInt64) (k : Nat) (x : UInt64) (n : Nat) (h : n ≤ k) (hk : k < l.length) : vn (l.set k x) n = vn l n := by
  induction n with
  | zero => rfl
  | succ n ih => simp only [vn]; rw [ih (by omega), fN _ _ _ _ hk, if_neg (by omega)]
theorem vn_set (l : List UInt64) (k : Nat) (x : UInt64) (n : Nat) (h : k < n) (hk : k < l.length) : vn (l.set k x) n + 18446744073709551616 ^ k * lb l k = vn l n + 18446744073709551616 ^ k * x.toNat := by
  induction n with
  | zero => omega
  | succ n ih =>
    simp only [vn]
    by_cases e : k = n
    · subst e
      rw [vn_set_ge _ _ _ _ (Nat.le_refl _) hk, fN _ _ _ _ hk, if_pos rfl]
      omega
    · have := ih (by omega)
      rw [fN _ _ _ _ hk, if_neg (by omega)]
      omega
theorem mulI_spec (a b : List UInt64) (i : Nat) (p : List UInt64) (hp : p.length = 8) (j : Nat) (hj : i + j ≤ 8) :
    vn (mulI a b i p j).1 8 + 18446744073709551616 ^ (i + j) * (mulI a b i p j).2.toNat = vn p 8 + 18446744073709551616 ^ i * (lb a i * vn b j) ∧ ∀ k, i + j ≤ k → lb (mulI a b i p j).1 k = lb p k := by
  induction j with
  | zero => exact ⟨by simp only [mulI, vn, qR]; omega, fun _ _ => rfl⟩
  | succ j ih =>
    obtain ⟨h1, h2⟩ := ih (by omega)
    have hl := gV a b i p j
    have hs := md_spec (a.getD i 0) (b.getD j 0) ((mulI a b i p j).1.getD (i + j) 0) (mulI a b i p j).2
    have hv := vn_set (mulI a b i p j).1 (i + j) (mdL (a.getD i 0) (b.getD j 0) ((mulI a b i p j).1.getD (i + j) 0) (mulI a b i p j).2) 8 (by omega) (by omega)
    refine ⟨?_, fun k hk => ?_⟩
    · simp only [mulI]
      rw [show vn b (j + 1) = vn b j + 18446744073709551616 ^ j * lb b j from rfl]
      change (mdL _ _ _ _).toNat + _ = lb a i * lb b j + lb (mulI a b i p j).1 (i + j) + (mulI a b i p j).2.toNat at hs
      generalize mdL (a.getD i 0) (b.getD j 0) ((mulI a b i p j).1.getD (i + j) 0) (mulI a b i p j).2 = lo at *
      generalize mdH (a.getD i 0) (b.getD j 0) ((mulI a b i p j).1.getD (i + j) 0) (mulI a b i p j).2 = hi at *
      have e1 : 18446744073709551616 ^ (i + (j + 1)) = 18446744073709551616 ^ (i + j) * 18446744073709551616 := by rw [← Nat.add_assoc, Nat.pow_succ]
      have e2 : (18446744073709551616 : Nat) ^ i * (lb a i * (vn b j + 18446744073709551616 ^ j * lb b j)) = 18446744073709551616 ^ i * (lb a i * vn b j) + 18446744073709551616 ^ (i + j) * (lb a i * lb b j) := by
        rw [Nat.pow_add]; grind
      rw [e1, e2]
      have e3 := congrArg (18446744073709551616 ^ (i + j) * ·) hs
      simp only [Nat.mul_add] at e3
      rw [Nat.mul_assoc]
      omega
    · simp only [mulI]
      rw [fN _ _ _ _ (by omega), if_neg (by omega)]
      exact h2 k (by omega)
theorem mulO_spec (a b : List UInt64) (i : Nat) (hi : i ≤ 4) : vn (mulO a b i) 8 = vn a i * vn b 4 ∧ ∀ k, i + 4 ≤ k → lb (mulO a b i) k = 0 := by
  induction i with
  | zero =>
    refine ⟨by simp [mulO, vn, lb], fun k _ => ?_⟩
    unfold mulO lb
    rw [List.getD_eq_getElem?_getD, List.getElem?_replicate]
    split <;> rfl
  | succ i ih =>
    obtain ⟨h1, h2⟩ := ih (by omega)
    have hl := cQ a b i
    obtain ⟨g1, g2⟩ := mulI_spec a b i (mulO a b i) hl 4 (by omega)
    have hl2 := gV a b i (mulO a b i) 4
    refine ⟨?_, fun k hk => ?_⟩
    · have hv := vn_set (mulI a b i (mulO a b i) 4).1 (i + 4) (mulI a b i (mulO a b i) 4).2 8 (by omega) (by omega)
      rw [g2 (i + 4) (Nat.le_refl _), h2 (i + 4) (Nat.le_refl _)] at hv
      simp only [mulO]
      rw [show vn a (i + 1) = vn a i + 18446744073709551616 ^ i * lb a i from rfl, Nat.add_mul, Nat.mul_assoc, ← h1]
      omega
    · simp only [mulO]
      rw [fN _ _ _ _ (by omega), if_neg (by omega), g2 k (by omega), h2 k (by omega)]
def fdN (p : List UInt64) : Nat → List UInt64 × UInt64
  | 0 => (List.replicate 4 0, UInt64.ofNat 0)
  | i + 1 => ((fdN p i).1.set i (mdL (UInt64.ofNat 38) (p.getD (i + 4) 0) (p.getD i 0) (fdN p i).2), mdH (UInt64.ofNat 38) (p.getD (i + 4) 0) (p.getD i 0) (fdN p i).2)
theorem lV (p : List UInt64) (n : Nat) : (fdN p n).1.length = 4 := by induction n with | zero => rfl | succ n ih => simp [fdN, ih]
theorem fd_spec (p : List UInt64) (i : Nat) (hi : i ≤ 4) : vn (fdN p i).1 i + 18446744073709551616 ^ i * (fdN p i).2.toNat = 38 * vn (p.drop 4) i + vn p i := by
  induction i with
  | zero => simp [fdN, vn]
  | succ i ih =>
    have ih := ih (by omega)
    have hl := lV p i
    have hs := md_spec (UInt64.ofNat 38) (p.getD (i + 4) 0) (p.getD i 0) (fdN p i).2
    simp only [fdN, vn]
    rw [vn_set_ge _ _ _ _ (Nat.le_refl _) (by omega), fN _ _ _ _ (by omega), if_pos rfl]
    have hd : lb (p.drop 4) i = (p.getD (i + 4) 0).toNat := by
      unfold lb; rw [List.getD_eq_getElem?_getD, List.getElem?_drop, Nat.add_comm 4 i, ← List.getD_eq_getElem?_getD]
    rw [hd, show lb p i = (p.getD i 0).toNat from rfl]
    rw [show (UInt64.ofNat 38).toNat = 38 from rfl] at hs
    have e3 := congrArg (18446744073709551616 ^ i * ·) hs
    simp only [Nat.mul_add] at e3
    rw [Nat.pow_succ, Nat.mul_assoc]
    have e4 : 18446744073709551616 ^ i * (38 * (p.getD (i + 4) 0).toNat) = 38 * (18446744073709551616 ^ i * (p.getD (i + 4) 0).toNat) := by grind
    rw [e4] at e3
    omega
def eI (p : List UInt64) : UInt64 := ((fdN p 4).2 <<< UInt64.ofNat 1) ||| ((fdN p 4).1.getD 3 0 >>> UInt64.ofNat 63)
def fI (p : List UInt64) : List UInt64 := redL (dT ((fdN p 4).1.set 3 (zU ((fdN p 4).1.getD 3 0))) (UInt64.ofNat 19 * eI p) 4).1
theorem fold64_spec (p : List UInt64) (hv : vn p 8 < fp * fp) : fI p = fl (vn p 8 % fp) := by
  have h := fd_spec p 4 (Nat.le_refl _)
  have e8 : vn p 8 = vn p 4 + 18446744073709551616 ^ 4 * vn (p.drop 4) 4 := by
    have hd : ∀ i, lb (p.drop 4) i = lb p (4 + i) := fun i => by
      unfold lb; rw [List.getD_eq_getElem?_getD, List.getElem?_drop, ← List.getD_eq_getElem?_getD]
    simp only [vn, hd, Nat.reduceAdd]
    omega
  have hl := lV p 4
  rw [vn4, vn4, vn4, show (18446744073709551616 : Nat) ^ 4 = 115792089237316195423570985008687907853269984665640564039457584007913129639936 from rfl] at h
  rw [vn4, vn4, show (18446744073709551616 : Nat) ^ 4 = 115792089237316195423570985008687907853269984665640564039457584007913129639936 from rfl] at e8
  have b4 := vl_lt p
  have bd := vl_lt (p.drop 4)
  have bf := vl_lt (fdN p 4).1
  have ht := vl_top _ hl
  rw [show fp * fp = 3351951982485649274893506249551461531869841455148098344430890360930441007518386744200468574541725856922507964546621512713438470702986642486608412251521024 - 38 * 57896044618658097711785492504343953926634992332820282019728792003956564819968 + 361 from rfl] at hv
  have hc : (fdN p 4).2.toNat ≤ 10 := by omega
  have h63 : ((fdN p 4).1.getD 3 0 >>> UInt64.ofNat 63).toNat = vl (fdN p 4).1 / 57896044618658097711785492504343953926634992332820282019728792003956564819968 := by
    rw [rS _ _ (by decide)]
    have h0 := wO (fdN p 4).1 0
    have h1 := wO (fdN p 4).1 1
    have h2 := wO (fdN p 4).1 2
    unfold vl
    show lb (fdN p 4).1 3 / 9223372036854775808 = _
    omega
  have hsh : ((fdN p 4).2 <<< UInt64.ofNat 1).toNat = 2 * (fdN p 4).2.toNat := by
    rw [shl_toNat _ _ (by decide)]; omega
  have hh : (eI p).toNat = vl (fdN p 4).1 / 57896044618658097711785492504343953926634992332820282019728792003956564819968 + 2 * (fdN p 4).2.toNat := by
    unfold eI
    rw [UInt64.or_comm, or_add64 _ _ 1 (by rw [h63]; omega) (by rw [hsh]; exact ⟨_, rfl⟩), h63, hsh]
  have hm : (UInt64.ofNat 19 * eI p).toNat = 19 * (eI p).toNat := by
    rw [cO _ _ (by rw [show (UInt64.ofNat 19).toNat = 19 from rfl, hh]; omega)]; rfl
  have hps := plus_spec ((fdN p 4).1.set 3 (zU ((fdN p 4).1.getD 3 0))) (UInt64.ofNat 19 * eI p) (by rw [List.length_set, hl])
  rw [ht, hm, hh] at hps
  unfold fI
  generalize vl (fdN p 4).1 = w at *
  generalize (fdN p 4).2.toNat = c at *
  rw [Nat.mod_eq_of_lt (by omega)] at hps
  rw [eP _ (by rw [yW, List.length_set, hl]) (by rw [hps]; unfold fp; omega), hps]
  congr 1
  have key : vn p 8 = (w % 57896044618658097711785492504343953926634992332820282019728792003956564819968 + 19 * (w / 57896044618658097711785492504343953926634992332820282019728792003956564819968 + 2 * c)) + fp * ((w / 57896044618658097711785492504343953926634992332820282019728792003956564819968 + 2 * c) + 2 * vl (p.drop 4)) := by
    rw [e8]; unfold fp; omega
  rw [key, Nat.add_mul_mod_self_left]
def mulL (a b : List UInt64) : List UInt64 := fI (mulO a b 4)
theorem mul64_spec (a b : Nat) (ha : a < fp) (hb : b < fp) : mulL (fl a) (fl b) = fl (a * b % fp) := by
  have h := (mulO_spec (fl a) (fl b) 4 (Nat.le_refl _)).1
  have h4 : fp < 115792089237316195423570985008687907853269984665640564039457584007913129639936 := by decide
  rw [vn4, vn4, mR a (by omega), mR b (by omega)] at h
  unfold mulL
  rw [fold64_spec _ (by rw [h]; exact Nat.mul_lt_mul_of_lt_of_lt ha hb), h]
/-! Calls of the program's field, as numbers. -/
theorem fp_lt : fp < 115792089237316195423570985008687907853269984665640564039457584007913129639936 := by decide
def addL (a b : List UInt64) : List UInt64 := redL (adN a b 4).1
def subL (a b : List UInt64) : List UInt64 := redL (sbX a b 4).1
theorem add64_spec (a b : Nat) (ha : a < fp) (hb : b < fp) : addL (fl a) (fl b) = fl ((a + b) % fp) := by
  have h := ad_spec (fl a) (fl b) rfl rfl
  have hp := fp_lt
  rw [mR a (by omega), mR b (by omega)] at h
  unfold fp at ha hb
  rw [Nat.mod_eq_of_lt (by omega)] at h
  unfold addL
  rw [eP _ (by rw [kR]; rfl) (by rw [h]; unfold fp; omega), h]
theorem sub64_spec (a b : Nat) (ha : a < fp) (hb : b < fp) : subL (fl a) (fl b) = fl ((a + (fp - b)) % fp) := by
  have hp := fp_lt
  have h := sb_spec (fl a) (fl b) rfl rfl (by rw [mR b (by omega)]; exact hb)
  rw [mR a (by omega), mR b (by omega)] at h
  rw [Nat.mod_eq_of_lt (by unfold fp at *; omega)] at h
  unfold subL
  rw [eP _ (by rw [gR]; rfl) (by rw [h]; omega), h]
def ofN (b : List UInt8) : Nat → List UInt64
  | 0 => List.replicate 4 0
  | i + 1 => (ofN b i).set i (rwN (b.drop (8 * i)) 8)
theorem xW (b : List UInt8) (n : Nat) : (ofN b n).length = 4 := by induction n with | zero => rfl | succ n ih => simp [ofN, ih]
def yU (s : List UInt8) : List UInt8 := s.take 32 ++ List.replicate (32 - min s.length 32) 0
theorem tL (s : List UInt8) : (yU s).length = 32 := by unfold yU; simp; omega
def ofL (s : List UInt8) : List UInt64 := redL ((ofN (yU s) 4).set 3 (zU ((ofN (yU s) 4).getD 3 0)))
def ofV (s : List UInt8) : Nat := leN s 32 % 57896044618658097711785492504343953926634992332820282019728792003956564819968 % fp
theorem leN_pad (s : List UInt8) : leN (yU s) 32 = leN s 32 := by
  refine uS _ _ _ fun i hi => ?_
  unfold yU
  rw [getD_app]
  by_cases c : i < (s.take 32).length
  · rw [if_pos c]
    rw [List.getD_eq_getElem?_getD, List.getElem?_take, if_pos hi, ← List.getD_eq_getElem?_getD]
  · rw [if_neg c]
    have : s.length ≤ i := by rw [List.length_take] at c; omega
    rw [getD_over s i this, List.getD_eq_getElem?_getD, List.getElem?_replicate]
    split <;> rfl
theorem ofN_vl (b : List UInt8) : vl (ofN b 4) = leN b 32 := by
  have h0 := lS b 8 24
  have h1 := lS b 16 16
  have h2 := lS b 24 8
  have h3 := lS b 8 8
  have h4 := lS b 16 8
  have e : ofN b 4 = [rwN (b.drop 0) 8, rwN (b.drop 8) 8, rwN (b.drop 16) 8, rwN (b.drop 24) 8] := by
    simp only [ofN, List.replicate, List.set_cons_zero, List.set_cons_succ]
  rw [e]
  unfold vl
  simp only [lbs]
  rw [pO _ _ (by decide), pO _ _ (by decide), pO _ _ (by decide), pO _ _ (by decide), List.drop_zero]
  simp only [Nat.reduceAdd] at h0 h1 h2 h3 h4
  rw [show (256 : Nat) ^ 24 = 6277101735386680763835789423207666416102355444464034512896 from rfl] at h2
  rw [show (256 : Nat) ^ 16 = 340282366920938463463374607431768211456 from rfl] at h4
  rw [show (256 : Nat) ^ 8 = 18446744073709551616 from rfl] at h3
  omega
theorem of64_spec (s : List UInt8) : ofL s = fl (ofV s) := by
  have hl := xW (yU s) 4
  have ht := vl_top _ hl
  rw [ofN_vl, leN_pad] at ht
  unfold ofL
  rw [eP _ (by rw [List.length_set, hl]) (by rw [ht]; unfold fp; omega), ht]
  rfl
theorem gT (s : List UInt8) : ofV s < fp := Nat.mod_lt _ (by decide)
def byN (a : List UInt64) : Nat → List UInt8
  | 0 => List.replicate 32 0
  | i + 1 => pwN (byN a i) (8 * i) (a.getD i 0) 8
theorem vV (a : List UInt64) (n : Nat) : (byN a n).length = 32 := by induction n with | zero => rfl | succ n ih => simp [byN, kP, ih]
theorem byN_get (a : List UInt64) (i : Nat) (hi : i ≤ 4) (k : Nat) : (byN a i).getD k 0 = if k < 8 * i then UInt8.ofNat ((a.getD (k / 8) 0).toNat / 256 ^ (k % 8) % 256) else 0 := by
  induction i with
  | zero =>
    rw [if_neg (by omega)]
    unfold byN
    rw [List.getD_eq_getElem?_getD, List.getElem?_replicate]
    split <;> rfl
  | succ i ih =>
    simp only [byN]
    rw [pw_get _ _ _ _ (by decide) (by rw [vV]; omega), ih (by omega)]
    by_cases c : 8 * i ≤ k ∧ k < 8 * i + 8
    · rw [if_pos c, if_pos (by omega), show k - 8 * i = k % 8 by omega, show k / 8 = i by omega]
    · rw [if_neg c]
      by_cases c2 : k < 8 * i
      · rw [if_pos c2, if_pos (by omega)]
      · rw [if_neg c2, if_neg (by omega)]
theorem lb_fl (v q : Nat) (hq : q < 4) : lb (fl v) q = v / 18446744073709551616 ^ q % 18446744073709551616 := by
  match q, hq with
  | 0, _ => show (UInt64.ofNat v).toNat = v / 1 % _; rw [eX]; omega
  | 1, _ => show (UInt64.ofNat (v / 18446744073709551616)).toNat = v / 18446744073709551616 % _; rw [eX]
  | 2, _ => show (UInt64.ofNat (v / 340282366920938463463374607431768211456)).toNat = v / 340282366920938463463374607431768211456 % _; rw [eX]
  | 3, _ => show (UInt64.ofNat (v / 6277101735386680763835789423207666416102355444464034512896)).toNat = v / 6277101735386680763835789423207666416102355444464034512896 % _; rw [eX]
theorem wL (v : Nat) : byN (fl v) 4 = bsN v 32 := by
  refine ext_getD _ _ (by rw [vV, fY]) fun k hk => ?_
  rw [vV] at hk
  rw [byN_get _ _ (by decide), if_pos (by omega), bs_get _ _ _ hk]
  congr 1
  change lb (fl v) (k / 8) / 256 ^ (k % 8) % 256 = _
  rw [lb_fl _ _ (by omega)]
  have e : v / 256 ^ k = v / 18446744073709551616 ^ (k / 8) / 256 ^ (k % 8) := by
    rw [Nat.div_div_eq_div_mul, show (18446744073709551616 : Nat) = 256 ^ 8 from rfl, ← Nat.pow_mul, ← Nat.pow_add, Nat.div_add_mod]
  rw [e]
  generalize v / 18446744073709551616 ^ (k / 8) = x
  conv => rhs; rw [show x = x % 18446744073709551616 + 2 ^ 64 * (x / 18446744073709551616) by omega, low_byte _ _ _ (Nat.mod_lt _ (by decide))]
theorem small64 (n : UInt64) : [n, 0, 0, 0] = fl n.toNat := by
  refine fl_of _ _ rfl ?_
  show n.toNat + 18446744073709551616 * 0 + 340282366920938463463374607431768211456 * 0 + 6277101735386680763835789423207666416102355444464034512896 * 0 = _
  omega
theorem odd64 (v : Nat) : ((fl v).getD 0 0 &&& UInt64.ofNat 1 == UInt64.ofNat 1) = decide (v % 2 = 1) := by
  have : ((fl v).getD 0 0 &&& UInt64.ofNat 1).toNat = v % 2 := by
    rw [UInt64.toNat_and, show (UInt64.ofNat 1).toNat = 2 ^ 1 - 1 from rfl, Nat.and_two_pow_sub_one_eq_mod]
    show lb (fl v) 0 % 2 = _
    rw [lb_fl _ _ (by decide)]; omega
  rw [Bool.eq_iff_iff, beq_iff_eq, decide_eq_true_eq, ← UInt64.toNat_inj, this]
  rfl
theorem fl_eq (a b : Nat) (ha : a < fp) (hb : b < fp) : (fl a == fl b) = decide (a = b) := by
  have hp := fp_lt
  rw [Bool.eq_iff_iff, beq_iff_eq, decide_eq_true_eq]
  exact ⟨fun h => fl_inj (by omega) (by omega) h, fun h => by rw [h]⟩
end Go.Proofs.YtcnjekoidgefpaaGreatDoor
namespace Go.Proofs.YtcnjekoidgefpaaGreatDoor
open Go.RowKit
def HP (e : Nat) : List (Nat × Option ABlk) := [(0, some ⟨.agg64 oX, e, false⟩)]
theorem adN_carry (x y : List UInt64) (n : Nat) : (adN x y n).2.toNat ≤ 1 := by
  induction n with
  | zero => exact Nat.zero_le _
  | succ n ih =>
    have h := (sum3 ((adN x y n).1.getD n 0) (y.getD n 0) (adN x y n).2 (by omega)).2
    have h1 := ((adN x y n).1.getD n 0).toNat_lt
    have h2 := (y.getD n 0).toNat_lt
    simp only [adN]
    rw [h]; omega
theorem cJ (x y : List UInt64) : (addL x y).length = x.length := by unfold addL; rw [fS, kR]
theorem bJ (x y : List UInt64) : (subL x y).length = x.length := by unfold subL; rw [fS, gR]
theorem sbY_borrow (y : List UInt64) (n : Nat) : (sbY y n).2.toNat ≤ 1 := by
  induction n with
  | zero => exact Nat.zero_le _
  | succ n ih => simp only [sbY]; exact (dif3 _ _ _ ih).2
theorem sbX_carry (x y : List UInt64) (n : Nat) : (sbX x y n).2.toNat ≤ 1 := by
  induction n with
  | zero => exact Nat.zero_le _
  | succ n ih =>
    have h := (sum3 ((sbX x y n).1.getD n 0) ((sbY y (n + 1)).1.getD n 0) (sbX x y n).2 (by omega)).2
    have h1 := ((sbX x y n).1.getD n 0).toNat_lt
    have h2 := ((sbY y (n + 1)).1.getD n 0).toNat_lt
    simp only [sbX]
    rw [h]; omega
def hiW (x y : UInt64) : UInt64 := UInt64.ofNat (x.toNat * y.toNat / 18446744073709551616)
def m32 : UInt64 := UInt64.ofNat 4294967295
theorem zO (a : UInt64) : (a &&& m32).toNat = a.toNat % 4294967296 := by
  rw [UInt64.toNat_and, show m32.toNat = 2 ^ 32 - 1 from rfl, Nat.and_two_pow_sub_one_eq_mod]
theorem hi_eq (x y : UInt64) :
    (x >>> UInt64.ofNat 32) * (y >>> UInt64.ofNat 32) + (((x >>> UInt64.ofNat 32) * (y &&& m32) + (((x &&& m32) * (y &&& m32)) >>> UInt64.ofNat 32)) >>> UInt64.ofNat 32) +
      (((((x >>> UInt64.ofNat 32) * (y &&& m32) + (((x &&& m32) * (y &&& m32)) >>> UInt64.ofNat 32)) &&& m32) + (x &&& m32) * (y >>> UInt64.ofNat 32)) >>> UInt64.ofNat 32) = hiW x y := by
  have hx := x.toNat_lt
  have hy := y.toNat_lt
  obtain ⟨b1, b2, b3, b4⟩ := Lib.mul64_hi x.toNat y.toNat hx hy
  have ba := Lib.half_mul_le (a := x.toNat / 4294967296) (b := y.toNat / 4294967296) (by omega) (by omega)
  have bb := Lib.half_mul_le (a := x.toNat / 4294967296) (b := y.toNat % 4294967296) (by omega) (by omega)
  have bc := Lib.half_mul_le (a := x.toNat % 4294967296) (b := y.toNat / 4294967296) (by omega) (by omega)
  have s : ∀ a : UInt64, (a >>> UInt64.ofNat 32).toNat = a.toNat / 4294967296 := fun a => rS a 32 (by decide)
  have e1 : ((x &&& m32) * (y &&& m32)).toNat = (x.toNat % 4294967296) * (y.toNat % 4294967296) := by rw [cO _ _ (by rw [zO, zO]; exact b1), zO, zO]
  have e2 : ((x >>> UInt64.ofNat 32) * (y &&& m32)).toNat = (x.toNat / 4294967296) * (y.toNat % 4294967296) := by rw [cO _ _ (by rw [s, zO]; omega), s, zO]
  have e3 : ((x &&& m32) * (y >>> UInt64.ofNat 32)).toNat = (x.toNat % 4294967296) * (y.toNat / 4294967296) := by rw [cO _ _ (by rw [s, zO]; omega), s, zO]
  have e4 : ((x >>> UInt64.ofNat 32) * (y >>> UInt64.ofNat 32)).toNat = (x.toNat / 4294967296) * (y.toNat / 4294967296) := by rw [cO _ _ (by rw [s, s]; omega), s, s]
  generalize (x &&& m32) * (y &&& m32) = X1 at *
  generalize (x >>> UInt64.ofNat 32) * (y &&& m32) = X2 at *
  generalize (x &&& m32) * (y >>> UInt64.ofNat 32) = X3 at *
  generalize (x >>> UInt64.ofNat 32) * (y >>> UInt64.ofNat 32) = X4 at *
  have e5 : (X2 + (X1 >>> UInt64.ofNat 32)).toNat = X2.toNat + X1.toNat / 4294967296 := by rw [add_noov _ _ (by rw [s, e1, e2]; exact b2), s]
  generalize X2 + (X1 >>> UInt64.ofNat 32) = X5 at *
  have e6 : ((X5 &&& m32) + X3).toNat = X5.toNat % 4294967296 + X3.toNat := by rw [add_noov _ _ (by rw [zO, e5, e3, e1, e2]; exact b3), zO]
  generalize (X5 &&& m32) + X3 = X6 at *
  apply UInt64.toNat_inj.1
  unfold hiW
  rw [eX, ← b4, ← e1, ← e2, ← e3, ← e4, ← e5, ← e6]
  rw [UInt64.toNat_add, UInt64.toNat_add, s, s]
  omega
set_option maxRecDepth 100000 in
theorem mul64_ev (x y : UInt64) : kZ Tryz.prog 119 [.u64 x, .u64 y] [] (.tup [.u64 (hiW x y), .u64 (x * y)]) [] := by
 refine mt (nt := 51) Tryz.func119 rfl rfl rfl <| .r <| .s rfl rfl <| .s rfl rfl <| .nil <| .r <| .m rfl rfl <| .x (mZ rfl rfl rfl) rfl <| .s rfl rfl <| .nil <| .r <| .m rfl rfl <| .x (lX (n := 32) rfl rfl rfl (by omega)) rfl <| .s rfl rfl <| .nil <| .r <| .m rfl rfl <| .x (mZ rfl rfl rfl) rfl <| .s rfl rfl <| .nil <| .r <| .m rfl rfl <| .x (lX (n := 32) rfl rfl rfl (by omega)) rfl <| .s rfl rfl <| .nil <| .r <| .m rfl rfl <| .m rfl rfl <| .x (mZ rfl rfl rfl) rfl <| .s rfl rfl <| .nil <| .r <| .m rfl rfl <| .m rfl rfl <| .x (mZ rfl rfl rfl) rfl <| .m rfl rfl <| .x (lX (n := 32) rfl rfl rfl (by omega)) rfl <| .x (mZ rfl rfl rfl) rfl <| .s rfl rfl <| .nil <| .r <| .m rfl rfl <| .x (mZ rfl rfl rfl) rfl <| .s rfl rfl <| .nil <| .r <| .m rfl rfl <| .x (lX (n := 32) rfl rfl rfl (by omega)) rfl <| .s rfl rfl <| .nil <| .r <| .m rfl rfl <| .m rfl rfl <| .m rfl rfl <| .x (mZ rfl rfl rfl) rfl <| .x (mZ rfl rfl rfl) rfl <| .s rfl rfl <| .nil <| .r <| .m rfl rfl <| .m rfl rfl <| .x (mZ rfl rfl rfl) rfl <| .m rfl rfl <| .x (mZ rfl rfl rfl) rfl <| .m rfl rfl <| .x (lX (n := 32) rfl rfl rfl (by omega)) rfl <| .x (mZ rfl rfl rfl) rfl <| .s rfl rfl <| .nil <| .r <| .m rfl rfl <| .m rfl rfl <| .x (mZ rfl rfl rfl) rfl <| .s rfl rfl <| .nil <| .ret ?_
 exact tK rfl (.inl rfl) rfl rfl (congrArg AV.u64 (hi_eq x y)) rfl trivial
theorem md_eq (x y m n : UInt64) : x * y + m + UInt64.ofNat 0 + n + UInt64.ofNat 0 = mdL x y m n ∧ hiW x y + carW (x * y) m (UInt64.ofNat 0) + carW (x * y + m + UInt64.ofNat 0) n (UInt64.ofNat 0) = mdH x y m n := by
 have z := qR
 have hm := m.toNat_lt
 have hn := n.toNat_lt
 have hxy := mul_lt64 x y
 have e1 : (x * y).toNat = x.toNat * y.toNat % 18446744073709551616 := UInt64.toNat_mul x y
 have e2 : (hiW x y).toNat = x.toNat * y.toNat / 18446744073709551616 := by unfold hiW; rw [eX]; omega
 obtain ⟨s1, c1⟩ := sum3 (x * y) m (UInt64.ofNat 0) (by rw [z]; omega)
 obtain ⟨s2, c2⟩ := sum3 (x * y + m + UInt64.ofNat 0) n (UInt64.ofNat 0) (by rw [z]; omega)
 constructor
 ·apply UInt64.toNat_inj.1
  unfold mdL mdN
  rw [s2, s1, e1, z, eX]; omega
 ·apply UInt64.toNat_inj.1
  unfold mdH mdN
  rw [UInt64.toNat_add, UInt64.toNat_add, c2, c1, s1, e1, e2, z, eX]; omega
set_option maxRecDepth 100000 in
theorem md_ev (x y m n : UInt64) : kZ Tryz.prog 100 [.u64 x, .u64 y, .u64 m, .u64 n] [] (.tup [.u64 (mdH x y m n), .u64 (mdL x y m n)]) [] := by
 refine mt (nt := 36) Tryz.func100 rfl rfl rfl <| .r <| .s rfl rfl <| .s rfl rfl <| .nil <| .r <| .m rfl rfl <| .m rfl rfl <| .x (aZ (U := []) [] [] (mul64_ev x y) Tryz.func119 (by kernel_rfl) rfl rfl rfl (⟨⟨_, rfl, rfl, rfl⟩, ⟨_, rfl, rfl, rfl⟩, trivial⟩) (trivial) (trivial) (trivial) rfl) rfl <| .m rfl rfl <| .x (nZ rfl rfl) rfl <| .x (nZ rfl rfl) rfl <| .s rfl rfl <| .s rfl rfl <| .nil <| .r <| .m rfl rfl <| .m rfl rfl <| .x (cR Tryz.func99 (by kernel_rfl) (by kernel_rfl) (by kernel_rfl) (by kernel_rfl) rfl rfl rfl (by decide)) rfl <| .m rfl rfl <| .x (nZ rfl rfl) rfl <| .x (nZ rfl rfl) rfl <| .s rfl rfl <| .s rfl rfl <| .nil <| .r <| .m rfl rfl <| .m rfl rfl <| .x (mZ rfl rfl rfl) rfl <| .s rfl rfl <| .nil <| .r <| .m rfl rfl <| .m rfl rfl <| .x (cR Tryz.func99 (by kernel_rfl) (by kernel_rfl) (by kernel_rfl) (by kernel_rfl) rfl rfl rfl (by decide)) rfl <| .m rfl rfl <| .x (nZ rfl rfl) rfl <| .x (nZ rfl rfl) rfl <| .s rfl rfl <| .s rfl rfl <| .nil <| .r <| .m rfl rfl <| .m rfl rfl <| .x (mZ rfl rfl rfl) rfl <| .m rfl rfl <| .s rfl rfl <| .s rfl rfl <| .nil <| .ret ?_
 exact tK rfl (.inl rfl) rfl rfl (congrArg AV.u64 (md_eq x y m n).2) (congrArg AV.u64 (md_eq x y m n).1) trivial
set_option maxRecDepth 100000 in
theorem fplus_ev (x : List UInt64) (c : UInt64) (hx : x.length = 4) : kZ Tryz.prog 118 [.agg64 x, .u64 c] [] (.agg64 (dT x c 4).1) [] := by
 refine mt (nt := 25) Tryz.func118 rfl rfl rfl <| .r <| .y (lZ rfl rfl) rfl <| .y (dZ jY pZ rfl) rfl <| .nil <| .r <| .m rfl rfl <| .s rfl rfl <| .nil <| .seq <| .r <| .m rfl rfl <| .nil <| .block <| Ev.loop (ι := { j : Nat // j ≤ 4 }) (fun j => ⟨[(2, .ptr 1000 0), (4, .ptr 1008 0), (5, .u64 (dT x c j.1).2), (8, .i64 ((j.1 : Nat) : Int))], [(1000, some ⟨.agg64 (dT x c j.1).1, 55, true⟩), (1008, some ⟨.agg64 (List.replicate 4 0), 55, true⟩)], 1016⟩) (fun j => 4 - j.1) ⟨0, Nat.zero_le _⟩ (StLe.mk [(1000, 1000), (1008, 1008)] rfl rfl ⟨⟨_, rfl, by first | rfl | (simp only [AV.ren]; congr 1; omega), rfl⟩, ⟨_, rfl, by first | rfl | (simp only [AV.ren]; congr 1; omega), rfl⟩, ⟨_, rfl, by first | rfl | (simp only [AV.ren]; congr 1; omega), rfl⟩, ⟨_, rfl, by first | rfl | (simp only [AV.ren]; congr 1; omega), rfl⟩, trivial⟩ ⟨⟨_, _, rfl, rfl, by first | rfl | (simp only [AV.ren]; congr 1; omega), rfl, id, rfl⟩, ⟨_, _, rfl, rfl, by first | rfl | (simp only [AV.ren]; congr 1; omega), rfl, id, rfl⟩, trivial⟩) ?_
 rintro ⟨j, hj⟩
 dsimp only
 have hl : (dT x c j).1.length = 4 := by rw [yW]; exact hx
 refine .r <| .x (gZ rfl rfl rfl) rfl <| .nil <| .seq <| .cond rfl (fun hc9 => ?_) (fun hc9 => ?_)
 ·simp only [decide_eq_true_eq] at hc9
  refine .skip <| .seq <| .block <| .r <| .m rfl rfl <| .s rfl rfl <| .nil <| .region <| .m rfl rfl <| .m rfl rfl <| .x (eZ (m := 3) Tryz.underlying55 rfl sz53 rfl) rfl <| .x (iZ Tryz.underlying53 qZ.sz rfl rfl rfl (by omega)) rfl <| .x (fZ Tryz.underlying52 rfl rfl rfl rfl (by simp only [AV.len]; omega)) rfl <| .m rfl rfl <| .x (cR Tryz.func99 (by kernel_rfl) (by kernel_rfl) (by kernel_rfl) (by kernel_rfl) rfl rfl rfl (by decide)) rfl <| .m rfl rfl <| .x (nZ rfl rfl) rfl <| .x (nZ rfl rfl) rfl <| .x (eZ (m := 3) Tryz.underlying55 rfl sz53 rfl) rfl <| .x (iZ Tryz.underlying53 qZ.sz rfl rfl rfl (by omega)) rfl <| .w (iY qZ.sz rfl rfl rfl rfl rfl (by simp only [AV.len]; omega)) trivial rfl <| .s rfl rfl <| .nil <| .region <| .x (jZ rfl rfl ⟨by omega, by omega⟩) rfl <| .m rfl rfl <| .nil ?_
  exact ⟨⟨j + 1, by omega⟩, by show 4 - (j + 1) < 4 - j; omega, StLe.mk [(1000, 1000), (1008, 1008)] rfl rfl ⟨⟨_, rfl, by first | rfl | (simp only [AV.ren]; congr 1; omega), rfl⟩, ⟨_, rfl, by first | rfl | (simp only [AV.ren]; congr 1; omega), rfl⟩, ⟨_, rfl, by first | rfl | (simp only [AV.ren]; congr 1; omega), rfl⟩, ⟨_, rfl, by first | rfl | (simp only [AV.ren]; congr 1; omega), rfl⟩, trivial⟩ ⟨⟨_, _, rfl, rfl, by first | rfl | (simp only [AV.ren]; congr 1; omega), rfl, id, rfl⟩, ⟨_, _, rfl, rfl, by first | rfl | (simp only [AV.ren]; congr 1; omega), rfl, id, rfl⟩, trivial⟩⟩
 ·simp only [decide_eq_false_iff_not] at hc9
  refine .exit ?_
  have ej : j = 4 := by omega
  refine Ev.weak (st2 := ⟨[(2, .ptr 1000 0), (4, .ptr 1008 0), (5, .u64 (dT x c (4)).2), (8, .i64 (((4) : Nat) : Int))], [(1000, some ⟨.agg64 (dT x c (4)).1, 55, true⟩), (1008, some ⟨.agg64 (List.replicate 4 0), 55, true⟩)], 1016⟩) (StLe.mk [(1000, 1000), (1008, 1008)] rfl rfl ⟨⟨_, rfl, by first | (simp only [AV.ren]; done) | (simp only [AV.ren]; rw [ej]; done) | rfl, rfl⟩, ⟨_, rfl, by first | (simp only [AV.ren]; done) | (simp only [AV.ren]; rw [ej]; done) | rfl, rfl⟩, ⟨_, rfl, by first | (simp only [AV.ren]; done) | (simp only [AV.ren]; rw [ej]; done) | rfl, rfl⟩, ⟨_, rfl, by first | (simp only [AV.ren]; done) | (simp only [AV.ren]; rw [ej]; done) | rfl, rfl⟩, trivial⟩ ⟨⟨_, _, rfl, rfl, by first | (simp only [AV.ren]; done) | (simp only [AV.ren]; rw [ej]; done) | rfl, rfl, id, rfl⟩, ⟨_, _, rfl, rfl, by first | (simp only [AV.ren]; done) | (simp only [AV.ren]; rw [ej]; done) | rfl, rfl, id, rfl⟩, trivial⟩) <| .r <| .x (bZ Tryz.underlying55 rfl sz55 rfl rfl rfl (by simp only [AV.len, yW]; exact hx)) rfl <| .w (cZ sz55 rfl rfl rfl rfl rfl (by simp only [AV.len, yW]; exact hx) (by rfl)) trivial rfl <| .nil <| .ret ?_
  exact yY rfl (.inl rfl) ⟨_, _, _, _, rfl, rfl, rfl, rfl, (by simp only [AV.len, yW]; exact hx), Tryz.underlying55, rfl, sz55⟩ trivial
set_option maxRecDepth 100000 in
theorem nS (x : List UInt64) (hx : x.length = 4) : kZ Tryz.prog 93 [.agg64 x] [] (.agg64 (redL x)) [] := by
 have hll : (zW x).length = 4 := by unfold zW; rw [yW]; exact hx
 refine mt (nt := 42) Tryz.func93 rfl rfl rfl <| .r <| .y (lZ rfl rfl) rfl <| .y (dZ jY pZ rfl) rfl <| .nil <| .r <| .x (bZ Tryz.underlying55 rfl sz55 rfl rfl rfl (hx)) rfl <| .x (aZ (U := []) [] [] (fplus_ev x (UInt64.ofNat 19) hx) Tryz.func118 (by kernel_rfl) rfl rfl rfl (⟨⟨_, rfl, rfl, rfl⟩, ⟨_, rfl, rfl, rfl⟩, trivial⟩) (trivial) (trivial) (trivial) rfl) rfl <| .as (.agg64 (zW x)) rfl <| .y (dZ jY pZ rfl) rfl <| .w (cZ sz55 rfl rfl rfl rfl rfl (by exact hll) (by rfl)) trivial rfl <| .nil <| .r <| .x (eZ (m := 3) Tryz.underlying55 rfl sz53 rfl) rfl <| .x (iZ Tryz.underlying53 qZ.sz rfl rfl rfl (by simp; done)) rfl <| .x (fZ Tryz.underlying52 rfl rfl rfl rfl (by show 3 < (zW x).length; omega)) rfl <| .x (lX (n := 63) rfl rfl rfl (by omega)) rfl <| .x (op_neg64 rfl) rfl <| .s rfl rfl <| .nil <| .r <| .x (eZ (m := 3) Tryz.underlying55 rfl sz53 rfl) rfl <| .x (iZ Tryz.underlying53 qZ.sz rfl rfl rfl (by simp; done)) rfl <| .x (fZ Tryz.underlying52 rfl rfl rfl rfl (by show 3 < (zW x).length; omega)) rfl <| .x (kO rfl rfl) rfl <| .x (eZ (m := 3) Tryz.underlying55 rfl sz53 rfl) rfl <| .x (iZ Tryz.underlying53 qZ.sz rfl rfl rfl (by simp; done)) rfl <| .w (iY qZ.sz rfl rfl rfl rfl rfl (by show 3 < (zW x).length; omega)) trivial rfl <| .nil <| .seq <| .r <| .m rfl rfl <| .nil <| .block <| Ev.loop (ι := { j : Nat // j ≤ 4 }) (fun j => ⟨[(1, .ptr 1000 0), (2, .ptr 1008 0), (3, .ptr 1016 0), (4, .u64 (dI x)), (19, .i64 ((j.1 : Nat) : Int))], [(1000, some ⟨.agg64 (selN (dI x) ((zW x).set 3 (zU ((zW x).getD 3 0))) x j.1), 55, true⟩), (1008, some ⟨.agg64 (List.replicate 4 0), 55, true⟩), (1016, some ⟨.agg64 ((zW x).set 3 (zU ((zW x).getD 3 0))), 55, true⟩)], 1024⟩) (fun j => 4 - j.1) ⟨0, Nat.zero_le _⟩ (StLe.mk [(1000, 1000), (1008, 1008), (1016, 1016)] rfl rfl ⟨⟨_, rfl, by first | rfl | (simp only [AV.ren]; congr 1; omega), rfl⟩, ⟨_, rfl, by first | rfl | (simp only [AV.ren]; congr 1; omega), rfl⟩, ⟨_, rfl, by first | rfl | (simp only [AV.ren]; congr 1; omega), rfl⟩, ⟨_, rfl, by first | rfl | (simp only [AV.ren]; congr 1; omega), rfl⟩, ⟨_, rfl, by first | rfl | (simp only [AV.ren]; congr 1; omega), rfl⟩, trivial⟩ ⟨⟨_, _, rfl, rfl, by first | rfl | (simp only [AV.ren]; congr 1; omega), rfl, id, rfl⟩, ⟨_, _, rfl, rfl, by first | rfl | (simp only [AV.ren]; congr 1; omega), rfl, id, rfl⟩, ⟨_, _, rfl, rfl, by first | rfl | (simp only [AV.ren]; congr 1; omega), rfl, id, rfl⟩, trivial⟩) ?_
 rintro ⟨j, hj⟩
 dsimp only
 have hl : (selN (dI x) ((zW x).set 3 (zU ((zW x).getD 3 0))) x j).length = 4 := by rw [aV]; exact hx
 have hl2 : ((zW x).set 3 (zU ((zW x).getD 3 0))).length = 4 := by rw [List.length_set]; exact hll
 refine .r <| .x (gZ rfl rfl rfl) rfl <| .nil <| .seq <| .cond rfl (fun hc20 => ?_) (fun hc20 => ?_)
 ·simp only [decide_eq_true_eq] at hc20
  refine .skip <| .seq <| .block <| .r <| .m rfl rfl <| .s rfl rfl <| .nil <| .drawn [[], [], [0, 1], [0, 1, 2], [], [], [], [5, 6], [5, 6, 7], [], [], [9, 10], [9, 10, 11], [5, 6, 7, 8, 9, 10, 11, 12], [4, 5, 6, 7, 8, 9, 10, 11, 12, 13], [0, 1, 2, 3, 4, 5, 6, 7, 8, 9, 10, 11, 12, 13, 14], [], [0, 1, 2, 3, 4, 5, 6, 7, 8, 9, 10, 11, 12, 13, 14, 15, 16], [0, 1, 2, 3, 4, 5, 6, 7, 8, 9, 10, 11, 12, 13, 14, 15, 16, 17]] [3, 8, 12, 18] [18] (by kernel_rfl) (by kernel_rfl) rfl <| .m rfl rfl <| .x rfl (eZ (m := 3) Tryz.underlying55 rfl sz53 rfl) <| .x rfl (iZ Tryz.underlying53 qZ.sz rfl rfl rfl (by omega)) <| .x rfl (fZ Tryz.underlying52 rfl rfl rfl rfl (by simp only [AV.len]; omega)) <| .m rfl rfl <| .m rfl rfl <| .x rfl (eZ (m := 3) Tryz.underlying55 rfl sz53 rfl) <| .x rfl (iZ Tryz.underlying53 qZ.sz rfl rfl rfl (by omega)) <| .x rfl (fZ Tryz.underlying52 rfl rfl rfl rfl (by simp only [AV.len]; omega)) <| .m rfl rfl <| .x rfl (eZ (m := 3) Tryz.underlying55 rfl sz53 rfl) <| .x rfl (iZ Tryz.underlying53 qZ.sz rfl rfl rfl (by omega)) <| .x rfl (fZ Tryz.underlying52 rfl rfl rfl rfl (by simp only [AV.len]; omega)) <| .x rfl (mZ rfl rfl rfl) <| .x rfl (mZ rfl rfl rfl) <| .x rfl (mZ rfl rfl rfl) <| .x rfl (eZ (m := 3) Tryz.underlying55 rfl sz53 rfl) <| .x rfl (iZ Tryz.underlying53 qZ.sz rfl rfl rfl (by omega)) <| .w rfl (iY qZ.sz rfl rfl rfl rfl rfl (by simp only [AV.len]; omega)) trivial rfl rfl <| .nil <| .region <| .x (jZ rfl rfl ⟨by omega, by omega⟩) rfl <| .m rfl rfl <| .nil ?_
  exact ⟨⟨j + 1, by omega⟩, by show 4 - (j + 1) < 4 - j; omega, StLe.mk [(1000, 1000), (1008, 1008), (1016, 1016)] rfl rfl ⟨⟨_, rfl, by first | rfl | (simp only [AV.ren]; congr 1; omega), rfl⟩, ⟨_, rfl, by first | rfl | (simp only [AV.ren]; congr 1; omega), rfl⟩, ⟨_, rfl, by first | rfl | (simp only [AV.ren]; congr 1; omega), rfl⟩, ⟨_, rfl, by first | rfl | (simp only [AV.ren]; congr 1; omega), rfl⟩, ⟨_, rfl, by first | rfl | (simp only [AV.ren]; congr 1; omega), rfl⟩, trivial⟩ ⟨⟨_, _, rfl, rfl, by first | rfl | (simp only [AV.ren]; congr 1; omega), rfl, id, rfl⟩, ⟨_, _, rfl, rfl, by first | rfl | (simp only [AV.ren]; congr 1; omega), rfl, id, rfl⟩, ⟨_, _, rfl, rfl, by first | rfl | (simp only [AV.ren]; congr 1; omega), rfl, id, rfl⟩, trivial⟩⟩
 ·simp only [decide_eq_false_iff_not] at hc20
  refine .exit ?_
  have ej : j = 4 := by omega
  refine Ev.weak (st2 := ⟨[(1, .ptr 1000 0), (2, .ptr 1008 0), (3, .ptr 1016 0), (4, .u64 (dI x)), (19, .i64 (((4) : Nat) : Int))], [(1000, some ⟨.agg64 (selN (dI x) ((zW x).set 3 (zU ((zW x).getD 3 0))) x (4)), 55, true⟩), (1008, some ⟨.agg64 (List.replicate 4 0), 55, true⟩), (1016, some ⟨.agg64 ((zW x).set 3 (zU ((zW x).getD 3 0))), 55, true⟩)], 1024⟩) (StLe.mk [(1000, 1000), (1008, 1008), (1016, 1016)] rfl rfl ⟨⟨_, rfl, by first | (simp only [AV.ren]; done) | (simp only [AV.ren]; rw [ej]; done) | rfl, rfl⟩, ⟨_, rfl, by first | (simp only [AV.ren]; done) | (simp only [AV.ren]; rw [ej]; done) | rfl, rfl⟩, ⟨_, rfl, by first | (simp only [AV.ren]; done) | (simp only [AV.ren]; rw [ej]; done) | rfl, rfl⟩, ⟨_, rfl, by first | (simp only [AV.ren]; done) | (simp only [AV.ren]; rw [ej]; done) | rfl, rfl⟩, ⟨_, rfl, by first | (simp only [AV.ren]; done) | (simp only [AV.ren]; rw [ej]; done) | rfl, rfl⟩, trivial⟩ ⟨⟨_, _, rfl, rfl, by first | (simp only [AV.ren]; done) | (simp only [AV.ren]; rw [ej]; done) | rfl, rfl, id, rfl⟩, ⟨_, _, rfl, rfl, by first | (simp only [AV.ren]; done) | (simp only [AV.ren]; rw [ej]; done) | rfl, rfl, id, rfl⟩, ⟨_, _, rfl, rfl, by first | (simp only [AV.ren]; done) | (simp only [AV.ren]; rw [ej]; done) | rfl, rfl, id, rfl⟩, trivial⟩) <| .r <| .x (bZ Tryz.underlying55 rfl sz55 rfl rfl rfl (by simp only [AV.len, aV]; exact hx)) rfl <| .w (cZ sz55 rfl rfl rfl rfl rfl (by simp only [AV.len, aV]; exact hx) (by rfl)) trivial rfl <| .nil <| .ret ?_
  exact yY rfl (.inl rfl) ⟨_, _, _, _, rfl, rfl, rfl, rfl, ((fS x).trans hx), Tryz.underlying55, rfl, sz55⟩ trivial
set_option maxRecDepth 100000 in
theorem add64_ev (x y : List UInt64) (hx : x.length = 4) (hy : y.length = 4) : kZ Tryz.prog 56 [.agg64 x, .agg64 y] [] (.agg64 (addL x y)) [] := by
 refine mt (nt := 29) Tryz.func56 rfl rfl rfl <| .r <| .y (lZ rfl rfl) rfl <| .y (lZ rfl rfl) rfl <| .y (dZ jY pZ rfl) rfl <| .nil <| .r <| .s rfl rfl <| .nil <| .seq <| .r <| .m rfl rfl <| .nil <| .block <| Ev.loop (ι := { j : Nat // j ≤ 4 }) (fun j => ⟨[(2, .ptr 1000 0), (3, .ptr 1008 0), (4, .ptr 1016 0), (5, .u64 (adN x y j.1).2), (7, .i64 ((j.1 : Nat) : Int))], [(1000, some ⟨.agg64 (adN x y j.1).1, 55, true⟩), (1008, some ⟨.agg64 y, 55, true⟩), (1016, some ⟨.agg64 (List.replicate 4 0), 55, true⟩)], 1024⟩) (fun j => 4 - j.1) ⟨0, Nat.zero_le _⟩ (StLe.mk [(1000, 1000), (1008, 1008), (1016, 1016)] rfl rfl ⟨⟨_, rfl, by first | rfl | (simp only [AV.ren]; congr 1; omega), rfl⟩, ⟨_, rfl, by first | rfl | (simp only [AV.ren]; congr 1; omega), rfl⟩, ⟨_, rfl, by first | rfl | (simp only [AV.ren]; congr 1; omega), rfl⟩, ⟨_, rfl, by first | rfl | (simp only [AV.ren]; congr 1; omega), rfl⟩, ⟨_, rfl, by first | rfl | (simp only [AV.ren]; congr 1; omega), rfl⟩, trivial⟩ ⟨⟨_, _, rfl, rfl, by first | rfl | (simp only [AV.ren]; congr 1; omega), rfl, id, rfl⟩, ⟨_, _, rfl, rfl, by first | rfl | (simp only [AV.ren]; congr 1; omega), rfl, id, rfl⟩, ⟨_, _, rfl, rfl, by first | rfl | (simp only [AV.ren]; congr 1; omega), rfl, id, rfl⟩, trivial⟩) ?_
 rintro ⟨j, hj⟩
 dsimp only
 have hl : (adN x y j).1.length = 4 := by rw [kR]; exact hx
 have hcy := adN_carry x y j
 refine .r <| .x (gZ rfl rfl rfl) rfl <| .nil <| .seq <| .cond rfl (fun hc8 => ?_) (fun hc8 => ?_)
 ·simp only [decide_eq_true_eq] at hc8
  refine .skip <| .seq <| .block <| .r <| .m rfl rfl <| .s rfl rfl <| .nil <| .drawn [[], [], [], [1, 2], [1, 2, 3], [], [], [5, 6], [5, 6, 7], [], [1, 2, 3, 4, 5, 6, 7, 8, 9], [1, 2, 3, 4, 5, 6, 7, 8, 9, 10], [1, 2, 3, 4, 5, 6, 7, 8, 9, 10, 11], [1, 2, 3, 4, 5, 6, 7, 8, 9, 10, 11], [], [0, 1, 2, 3, 4, 5, 6, 7, 8, 9, 10, 11, 12, 14], [0, 1, 2, 3, 4, 5, 6, 7, 8, 9, 10, 11, 12, 14, 15], [0, 1, 2, 3, 4, 5, 6, 7, 8, 9, 10, 11, 12, 13, 14, 15, 16]] [4, 8, 10, 16] [16] (by kernel_rfl) (by kernel_rfl) rfl <| .m rfl rfl <| .m rfl rfl <| .x rfl (eZ (m := 3) Tryz.underlying55 rfl sz53 rfl) <| .x rfl (iZ Tryz.underlying53 qZ.sz rfl rfl rfl (by omega)) <| .x rfl (fZ Tryz.underlying52 rfl rfl rfl rfl (by simp only [AV.len]; omega)) <| .m rfl rfl <| .x rfl (eZ (m := 3) Tryz.underlying55 rfl sz53 rfl) <| .x rfl (iZ Tryz.underlying53 qZ.sz rfl rfl rfl (by omega)) <| .x rfl (fZ Tryz.underlying52 rfl rfl rfl rfl (by simp only [AV.len]; omega)) <| .m rfl rfl <| .x rfl (cR Tryz.func99 (by kernel_rfl) (by kernel_rfl) (by kernel_rfl) (by kernel_rfl) rfl rfl rfl (hcy)) <| .m rfl rfl <| .x rfl (nZ rfl rfl) <| .x rfl (nZ rfl rfl) <| .x rfl (eZ (m := 3) Tryz.underlying55 rfl sz53 rfl) <| .x rfl (iZ Tryz.underlying53 qZ.sz rfl rfl rfl (by omega)) <| .w rfl (iY qZ.sz rfl rfl rfl rfl rfl (by simp only [AV.len]; omega)) trivial rfl rfl <| .x rfl (uZ rfl) <| .nil <| .region <| .x (jZ rfl rfl ⟨by omega, by omega⟩) rfl <| .m rfl rfl <| .nil ?_
  exact ⟨⟨j + 1, by omega⟩, by show 4 - (j + 1) < 4 - j; omega, StLe.mk [(1000, 1000), (1008, 1008), (1016, 1016)] rfl rfl ⟨⟨_, rfl, by first | rfl | (simp only [AV.ren]; congr 1; omega), rfl⟩, ⟨_, rfl, by first | rfl | (simp only [AV.ren]; congr 1; omega), rfl⟩, ⟨_, rfl, by first | rfl | (simp only [AV.ren]; congr 1; omega), rfl⟩, ⟨_, rfl, by first | rfl | (simp only [AV.ren]; congr 1; omega), rfl⟩, ⟨_, rfl, by first | rfl | (simp only [AV.ren]; congr 1; omega), rfl⟩, trivial⟩ ⟨⟨_, _, rfl, rfl, by first | rfl | (simp only [AV.ren]; congr 1; omega), rfl, id, rfl⟩, ⟨_, _, rfl, rfl, by first | rfl | (simp only [AV.ren]; congr 1; omega), rfl, id, rfl⟩, ⟨_, _, rfl, rfl, by first | rfl | (simp only [AV.ren]; congr 1; omega), rfl, id, rfl⟩, trivial⟩⟩
 ·simp only [decide_eq_false_iff_not] at hc8
  refine .exit ?_
  have ej : j = 4 := by omega
  refine Ev.weak (st2 := ⟨[(2, .ptr 1000 0), (3, .ptr 1008 0), (4, .ptr 1016 0), (5, .u64 (adN x y (4)).2), (7, .i64 (((4) : Nat) : Int))], [(1000, some ⟨.agg64 (adN x y (4)).1, 55, true⟩), (1008, some ⟨.agg64 y, 55, true⟩), (1016, some ⟨.agg64 (List.replicate 4 0), 55, true⟩)], 1024⟩) (StLe.mk [(1000, 1000), (1008, 1008), (1016, 1016)] rfl rfl ⟨⟨_, rfl, by first | (simp only [AV.ren]; done) | (simp only [AV.ren]; rw [ej]; done) | rfl, rfl⟩, ⟨_, rfl, by first | (simp only [AV.ren]; done) | (simp only [AV.ren]; rw [ej]; done) | rfl, rfl⟩, ⟨_, rfl, by first | (simp only [AV.ren]; done) | (simp only [AV.ren]; rw [ej]; done) | rfl, rfl⟩, ⟨_, rfl, by first | (simp only [AV.ren]; done) | (simp only [AV.ren]; rw [ej]; done) | rfl, rfl⟩, ⟨_, rfl, by first | (simp only [AV.ren]; done) | (simp only [AV.ren]; rw [ej]; done) | rfl, rfl⟩, trivial⟩ ⟨⟨_, _, rfl, rfl, by first | (simp only [AV.ren]; done) | (simp only [AV.ren]; rw [ej]; done) | rfl, rfl, id, rfl⟩, ⟨_, _, rfl, rfl, by first | (simp only [AV.ren]; done) | (simp only [AV.ren]; rw [ej]; done) | rfl, rfl, id, rfl⟩, ⟨_, _, rfl, rfl, by first | (simp only [AV.ren]; done) | (simp only [AV.ren]; rw [ej]; done) | rfl, rfl, id, rfl⟩, trivial⟩) <| .r <| .x (bZ Tryz.underlying55 rfl sz55 rfl rfl rfl (by simp only [AV.len, kR]; exact hx)) rfl <| .x (aZ (U := []) [] [] (nS _ (by rw [kR]; exact hx)) Tryz.func93 (by kernel_rfl) rfl rfl rfl (⟨⟨_, rfl, rfl, rfl⟩, trivial⟩) (trivial) (trivial) (trivial) rfl) rfl <| .as (.agg64 (addL x y)) rfl <| .w (cZ sz55 rfl rfl rfl rfl rfl (by exact (cJ x y).trans hx) (by rfl)) trivial rfl <| .nil <| .ret ?_
  exact yY rfl (.inl rfl) ⟨_, _, _, _, rfl, rfl, rfl, rfl, ((cJ x y).trans hx), Tryz.underlying55, rfl, sz55⟩ trivial
set_option maxRecDepth 100000 in
theorem sub64_ev (e : Nat) (x y : List UInt64) (hx : x.length = 4) (hy : y.length = 4) : kZ Tryz.prog 54 [.agg64 x, .agg64 y] (HP e) (.agg64 (subL x y)) [] := by
 refine mt (nt := 45) Tryz.func54 rfl rfl rfl <| .r <| .y (lZ rfl rfl) rfl <| .y (lZ rfl rfl) rfl <| .y (dZ jY pZ rfl) rfl <| .nil <| .r <| .s rfl rfl <| .s rfl rfl <| .nil <| .seq <| .r <| .m rfl rfl <| .nil <| .block <| Ev.loop (ι := { j : Nat // j ≤ 4 }) (fun j => ⟨[(2, .ptr 1000 0), (3, .ptr 1008 0), (4, .ptr 1016 0), (5, .u64 (sbY y j.1).2), (6, .u64 (sbX x y j.1).2), (8, .i64 ((j.1 : Nat) : Int))], [(1000, some ⟨.agg64 (sbX x y j.1).1, 55, true⟩), (1008, some ⟨.agg64 (sbY y j.1).1, 55, true⟩), (1016, some ⟨.agg64 (List.replicate 4 0), 55, true⟩), (0, some ⟨.agg64 oX, e, false⟩)], 1024⟩) (fun j => 4 - j.1) ⟨0, Nat.zero_le _⟩ (StLe.mk [(1000, 1000), (1008, 1008), (1016, 1016)] rfl rfl ⟨⟨_, rfl, by first | rfl | (simp only [AV.ren]; congr 1; omega), rfl⟩, ⟨_, rfl, by first | rfl | (simp only [AV.ren]; congr 1; omega), rfl⟩, ⟨_, rfl, by first | rfl | (simp only [AV.ren]; congr 1; omega), rfl⟩, ⟨_, rfl, by first | rfl | (simp only [AV.ren]; congr 1; omega), rfl⟩, ⟨_, rfl, by first | rfl | (simp only [AV.ren]; congr 1; omega), rfl⟩, ⟨_, rfl, by first | rfl | (simp only [AV.ren]; congr 1; omega), rfl⟩, trivial⟩ ⟨⟨_, _, rfl, rfl, by first | rfl | (simp only [AV.ren]; congr 1; omega), rfl, id, rfl⟩, ⟨_, _, rfl, rfl, by first | rfl | (simp only [AV.ren]; congr 1; omega), rfl, id, rfl⟩, ⟨_, _, rfl, rfl, by first | rfl | (simp only [AV.ren]; congr 1; omega), rfl, id, rfl⟩, ⟨_, _, rfl, rfl, by first | rfl | (simp only [AV.ren]; congr 1; omega), rfl, id, rfl⟩, trivial⟩) ?_
 rintro ⟨j, hj⟩
 dsimp only
 have hl : (sbX x y j).1.length = 4 := by rw [gR]; exact hx
 have hl2 : (sbY y j).1.length = 4 := by rw [length_sbY]; exact hy
 have hl3 : (sbY y (j + 1)).1.length = 4 := by rw [length_sbY]; exact hy
 have hp4 : oX.length = 4 := rfl
 have hcy := sbX_carry x y j
 have hbo := sbY_borrow y j
 refine .r <| .x (gZ rfl rfl rfl) rfl <| .nil <| .seq <| .cond rfl (fun hc9 => ?_) (fun hc9 => ?_)
 ·simp only [decide_eq_true_eq] at hc9
  refine .skip <| .seq <| .block <| .r <| .m rfl rfl <| .s rfl rfl <| .nil <| .seq <| .drawn [[], [], [1], [1, 2], [], [], [4, 5], [4, 5, 6], [], [1, 2, 3, 4, 5, 6, 7, 8], [1, 2, 3, 4, 5, 6, 7, 8, 9], [1, 2, 3, 4, 5, 6, 7, 8, 9, 10], [1, 2, 3, 4, 5, 6, 7, 8, 9, 10], [], [0, 1, 2, 3, 4, 5, 6, 7, 8, 9, 10, 11, 13], [0, 1, 2, 3, 4, 5, 6, 7, 8, 9, 10, 11, 13, 14], [0, 1, 2, 3, 4, 5, 6, 7, 8, 9, 10, 11, 12, 13, 14, 15]] [3, 7, 9, 15] [15] (by kernel_rfl) (by kernel_rfl) rfl <| .m rfl rfl <| .m rfl rfl <| .x rfl (iZ Tryz.underlying53 qZ.sz rfl rfl rfl (by omega)) <| .x rfl (fZ Tryz.underlying52 rfl rfl rfl rfl (by simp only [AV.len]; omega)) <| .m rfl rfl <| .x rfl (eZ (m := 3) Tryz.underlying55 rfl sz53 rfl) <| .x rfl (iZ Tryz.underlying53 qZ.sz rfl rfl rfl (by omega)) <| .x rfl (fZ Tryz.underlying52 rfl rfl rfl rfl (by show j < (sbY y j).1.length; omega)) <| .m rfl rfl <| .x rfl (op_sub64 Tryz.func98 (by kernel_rfl) (by kernel_rfl) (by kernel_rfl) (by kernel_rfl) rfl rfl rfl (hbo)) <| .m rfl rfl <| .x rfl (nZ rfl rfl) <| .x rfl (nZ rfl rfl) <| .x rfl (eZ (m := 3) Tryz.underlying55 rfl sz53 rfl) <| .x rfl (iZ Tryz.underlying53 qZ.sz rfl rfl rfl (by omega)) <| .w rfl (iY qZ.sz rfl rfl rfl rfl rfl (by simp only [AV.len]; omega)) trivial rfl rfl <| .x rfl (uZ rfl) <| .nil <| .drawn [[], [], [], [1, 2], [1, 2, 3], [], [], [5, 6], [5, 6, 7], [], [1, 2, 3, 4, 5, 6, 7, 8, 9], [1, 2, 3, 4, 5, 6, 7, 8, 9, 10], [1, 2, 3, 4, 5, 6, 7, 8, 9, 10, 11], [1, 2, 3, 4, 5, 6, 7, 8, 9, 10, 11], [], [0, 1, 2, 3, 4, 5, 6, 7, 8, 9, 10, 11, 12, 14], [0, 1, 2, 3, 4, 5, 6, 7, 8, 9, 10, 11, 12, 14, 15], [0, 1, 2, 3, 4, 5, 6, 7, 8, 9, 10, 11, 12, 13, 14, 15, 16]] [4, 8, 10, 16] [16] (by kernel_rfl) (by kernel_rfl) rfl <| .m rfl rfl <| .m rfl rfl <| .x rfl (eZ (m := 3) Tryz.underlying55 rfl sz53 rfl) <| .x rfl (iZ Tryz.underlying53 qZ.sz rfl rfl rfl (by omega)) <| .x rfl (fZ Tryz.underlying52 rfl rfl rfl rfl (by simp only [AV.len]; omega)) <| .m rfl rfl <| .x rfl (eZ (m := 3) Tryz.underlying55 rfl sz53 rfl) <| .x rfl (iZ Tryz.underlying53 qZ.sz rfl rfl rfl (by omega)) <| .x rfl (fZ Tryz.underlying52 rfl rfl rfl rfl (by simp only [AV.len, List.length_set]; omega)) <| .m rfl rfl <| .x rfl (cR Tryz.func99 (by kernel_rfl) (by kernel_rfl) (by kernel_rfl) (by kernel_rfl) rfl rfl rfl (hcy)) <| .m rfl rfl <| .x rfl (nZ rfl rfl) <| .x rfl (nZ rfl rfl) <| .x rfl (eZ (m := 3) Tryz.underlying55 rfl sz53 rfl) <| .x rfl (iZ Tryz.underlying53 qZ.sz rfl rfl rfl (by omega)) <| .w rfl (iY qZ.sz rfl rfl rfl rfl rfl (by simp only [AV.len]; omega)) trivial rfl rfl <| .x rfl (uZ rfl) <| .nil <| .region <| .x (jZ rfl rfl ⟨by omega, by omega⟩) rfl <| .m rfl rfl <| .nil ?_
  exact ⟨⟨j + 1, by omega⟩, by show 4 - (j + 1) < 4 - j; omega, StLe.mk [(1000, 1000), (1008, 1008), (1016, 1016)] rfl rfl ⟨⟨_, rfl, by first | rfl | (simp only [AV.ren]; congr 1; omega), rfl⟩, ⟨_, rfl, by first | rfl | (simp only [AV.ren]; congr 1; omega), rfl⟩, ⟨_, rfl, by first | rfl | (simp only [AV.ren]; congr 1; omega), rfl⟩, ⟨_, rfl, by first | rfl | (simp only [AV.ren]; congr 1; omega), rfl⟩, ⟨_, rfl, by first | rfl | (simp only [AV.ren]; congr 1; omega), rfl⟩, ⟨_, rfl, by first | rfl | (simp only [AV.ren]; congr 1; omega), rfl⟩, trivial⟩ ⟨⟨_, _, rfl, rfl, by first | rfl | (simp only [AV.ren]; congr 1; omega), rfl, id, rfl⟩, ⟨_, _, rfl, rfl, by first | rfl | (simp only [AV.ren]; congr 1; omega), rfl, id, rfl⟩, ⟨_, _, rfl, rfl, by first | rfl | (simp only [AV.ren]; congr 1; omega), rfl, id, rfl⟩, ⟨_, _, rfl, rfl, by first | rfl | (simp only [AV.ren]; congr 1; omega), rfl, id, rfl⟩, trivial⟩⟩
 ·simp only [decide_eq_false_iff_not] at hc9
  refine .exit ?_
  have ej : j = 4 := by omega
  refine Ev.weak (st2 := ⟨[(2, .ptr 1000 0), (3, .ptr 1008 0), (4, .ptr 1016 0), (5, .u64 (sbY y (4)).2), (6, .u64 (sbX x y (4)).2), (8, .i64 (((4) : Nat) : Int))], [(1000, some ⟨.agg64 (sbX x y (4)).1, 55, true⟩), (1008, some ⟨.agg64 (sbY y (4)).1, 55, true⟩), (1016, some ⟨.agg64 (List.replicate 4 0), 55, true⟩), (0, some ⟨.agg64 oX, e, false⟩)], 1024⟩) (StLe.mk [(1000, 1000), (1008, 1008), (1016, 1016)] rfl rfl ⟨⟨_, rfl, by first | (simp only [AV.ren]; done) | (simp only [AV.ren]; rw [ej]; done) | rfl, rfl⟩, ⟨_, rfl, by first | (simp only [AV.ren]; done) | (simp only [AV.ren]; rw [ej]; done) | rfl, rfl⟩, ⟨_, rfl, by first | (simp only [AV.ren]; done) | (simp only [AV.ren]; rw [ej]; done) | rfl, rfl⟩, ⟨_, rfl, by first | (simp only [AV.ren]; done) | (simp only [AV.ren]; rw [ej]; done) | rfl, rfl⟩, ⟨_, rfl, by first | (simp only [AV.ren]; done) | (simp only [AV.ren]; rw [ej]; done) | rfl, rfl⟩, ⟨_, rfl, by first | (simp only [AV.ren]; done) | (simp only [AV.ren]; rw [ej]; done) | rfl, rfl⟩, trivial⟩ ⟨⟨_, _, rfl, rfl, by first | (simp only [AV.ren]; done) | (simp only [AV.ren]; rw [ej]; done) | rfl, rfl, id, rfl⟩, ⟨_, _, rfl, rfl, by first | (simp only [AV.ren]; done) | (simp only [AV.ren]; rw [ej]; done) | rfl, rfl, id, rfl⟩, ⟨_, _, rfl, rfl, by first | (simp only [AV.ren]; done) | (simp only [AV.ren]; rw [ej]; done) | rfl, rfl, id, rfl⟩, ⟨_, _, rfl, rfl, by first | (simp only [AV.ren]; done) | (simp only [AV.ren]; rw [ej]; done) | rfl, rfl, id, rfl⟩, trivial⟩) <| .r <| .x (bZ Tryz.underlying55 rfl sz55 rfl rfl rfl (by simp only [AV.len, gR]; exact hx)) rfl <| .x (aZ (U := []) [] [] (nS _ (by rw [gR]; exact hx)) Tryz.func93 (by kernel_rfl) rfl rfl rfl (⟨⟨_, rfl, rfl, rfl⟩, trivial⟩) (trivial) (trivial) (trivial) rfl) rfl <| .as (.agg64 (subL x y)) rfl <| .w (cZ sz55 rfl rfl rfl rfl rfl (by exact (bJ x y).trans hx) (by rfl)) trivial rfl <| .nil <| .ret ?_
  exact yY rfl (.inl rfl) ⟨_, _, _, _, rfl, rfl, rfl, rfl, ((bJ x y).trans hx), Tryz.underlying55, rfl, sz55⟩ trivial
end Go.Proofs.YtcnjekoidgefpaaGreatDoor
