/-
  The ladder on Curve25519 as numbers.
-/
import Derived.Test.YtmnhifagkcmhjaaDoorGF
import Derived.Test.YtmnhifagkcmhjaaDoorGI
namespace Go.Proofs.YtmnhifagkcmhjaaDoor
theorem fpos : 0 < fp := by decide
def uS (x1 z1 x2 z2 : Nat) : Nat := (x1 * x2 % fp + (fp - z1 * z2 % fp)) % fp
def vS (x1 z1 x2 z2 : Nat) : Nat := (x1 * z2 % fp + (fp - z1 * x2 % fp)) % fp
def csX (x1 z1 x2 z2 : Nat) : Nat := uS x1 z1 x2 z2 * uS x1 z1 x2 z2 % fp
def csZ (x x1 z1 x2 z2 : Nat) : Nat := x * (vS x1 z1 x2 z2 * vS x1 z1 x2 z2 % fp) % fp
def dU (x z : Nat) : Nat := (x * x % fp + (fp - z * z % fp)) % fp
def dblX (x z : Nat) : Nat := dU x z * dU x z % fp
def dblZ (x z : Nat) : Nat := (4 * (x * z % fp) % fp) * (((x * x % fp + 486662 * (x * z % fp) % fp) % fp + z * z % fp) % fp) % fp
theorem dblZ_ref (x z : Nat) : (4 * (x * z % fp) % fp) * (((x * x % fp + z * z % fp) % fp + 486662 * (x * z % fp) % fp) % fp) % fp = dblZ x z := by
  unfold dblZ
  rw [Nat.mod_add_mod, Nat.mod_add_mod, Nat.add_right_comm]
/-- One round of the ladder: p and q, of which q - p is the point x. -/
def lstep (b : Bool) (x : Nat) (s : Nat × Nat × Nat × Nat) : Nat × Nat × Nat × Nat :=
  (if b then csX s.1 s.2.1 s.2.2.1 s.2.2.2 else dblX (if b then s.2.2.1 else s.1) (if b then s.2.2.2 else s.2.1),
   if b then csZ x s.1 s.2.1 s.2.2.1 s.2.2.2 else dblZ (if b then s.2.2.1 else s.1) (if b then s.2.2.2 else s.2.1),
   if b then dblX (if b then s.2.2.1 else s.1) (if b then s.2.2.2 else s.2.1) else csX s.1 s.2.1 s.2.2.1 s.2.2.2,
   if b then dblZ (if b then s.2.2.1 else s.1) (if b then s.2.2.2 else s.2.1) else csZ x s.1 s.2.1 s.2.2.1 s.2.2.2)
/-- Bit i of a scalar. -/
def kb (K : List UInt8) (i : Nat) : Bool := decide ((K.getD (i / 8) 0).toNat / 2 ^ (i % 8) % 2 = 1)
def lad (K : List UInt8) (x : Nat) : Nat → Nat × Nat × Nat × Nat
  | 0 => (1, 0, x, 1)
  | i + 1 => lstep (kb K (255 - i)) x (lad K x i)
theorem lstep_lt (b : Bool) (x : Nat) (s : Nat × Nat × Nat × Nat) : (lstep b x s).1 < fp ∧ (lstep b x s).2.1 < fp ∧ (lstep b x s).2.2.1 < fp ∧ (lstep b x s).2.2.2 < fp := by
  have h1 : ∀ a, a % fp < fp := fun a => Nat.mod_lt _ fpos
  cases b <;> exact ⟨h1 _, h1 _, h1 _, h1 _⟩
theorem lad_lt (K : List UInt8) (x : Nat) (hx : x < fp) (i : Nat) : (lad K x i).1 < fp ∧ (lad K x i).2.1 < fp ∧ (lad K x i).2.2.1 < fp ∧ (lad K x i).2.2.2 < fp := by
  cases i with
  | zero => exact ⟨show 1 < fp by decide, fpos, hx, show 1 < fp by decide⟩
  | succ i => exact lstep_lt _ _ _
/-- The scalar times the point. -/
def tmV (K : List UInt8) (x : Nat) : Nat := (lad K x 256).1 * ((lad K x 256).2.1 ^ (fp - 2) % fp) % fp
theorem tmV_lt (K : List UInt8) (x : Nat) : tmV K x < fp := Nat.mod_lt _ fpos
/-- The scalar as it counts. -/
def usL (K : List UInt8) : List UInt8 := (((K.set 0 (K.getD 0 0 &&& ~~~(UInt8.ofNat 7))).set 31 ((K.set 0 (K.getD 0 0 &&& ~~~(UInt8.ofNat 7))).getD 31 0 &&& ~~~(UInt8.ofNat 128)))).set 31 ((((K.set 0 (K.getD 0 0 &&& ~~~(UInt8.ofNat 7))).set 31 ((K.set 0 (K.getD 0 0 &&& ~~~(UInt8.ofNat 7))).getD 31 0 &&& ~~~(UInt8.ofNat 128)))).getD 31 0 ||| UInt8.ofNat 64)
def usR (K : List UInt8) : List UInt8 := (K.set 0 (K.getD 0 0 / UInt8.ofNat 8 * UInt8.ofNat 8)).set 31 ((K.set 0 (K.getD 0 0 / UInt8.ofNat 8 * UInt8.ofNat 8)).getD 31 0 % UInt8.ofNat 64 + UInt8.ofNat 64)
theorem length_usL (K : List UInt8) : (usL K).length = K.length := by simp [usL]
theorem length_usR (K : List UInt8) : (usR K).length = K.length := by simp [usR]
theorem all8 (p : UInt8 → Bool) (h : ∀ n : Fin 256, p (UInt8.ofNat n.val) = true) (x : UInt8) : p x = true := by
  have := h ⟨x.toNat, x.toNat_lt⟩
  simpa using this
theorem low3 (x : UInt8) : x &&& ~~~(UInt8.ofNat 7) = x / UInt8.ofNat 8 * UInt8.ofNat 8 := by
  have := all8 (fun x => x &&& ~~~(UInt8.ofNat 7) == x / UInt8.ofNat 8 * UInt8.ofNat 8) (by decide +kernel) x
  simpa using this
theorem top2 (x : UInt8) : (x &&& ~~~(UInt8.ofNat 128)) ||| UInt8.ofNat 64 = x % UInt8.ofNat 64 + UInt8.ofNat 64 := by
  have := all8 (fun x => (x &&& ~~~(UInt8.ofNat 128)) ||| UInt8.ofNat 64 == x % UInt8.ofNat 64 + UInt8.ofNat 64) (by decide +kernel) x
  simpa using this
theorem us_eq (K : List UInt8) (h : K.length = 32) : usL K = usR K := by
  unfold usL usR
  rw [low3]
  have h31 : 31 < (K.set 0 (K.getD 0 0 / UInt8.ofNat 8 * UInt8.ofNat 8)).length := by simp [h]
  generalize K.set 0 (K.getD 0 0 / UInt8.ofNat 8 * UInt8.ofNat 8) = L at *
  rw [List.set_set, show (L.set 31 (L.getD 31 0 &&& ~~~(UInt8.ofNat 128))).getD 31 0 = L.getD 31 0 &&& ~~~(UInt8.ofNat 128) by simp [List.getD_eq_getElem?_getD, h31], top2]
/-- A bit, as the program asks for it, and as the reference does. -/
theorem shr8_toNat (x : UInt8) (s : Nat) (hs : s < 8) : (x >>> UInt8.ofNat s).toNat = x.toNat / 2 ^ s := by
  rw [UInt8.toNat_shiftRight, Nat.shiftRight_eq_div_pow, UInt8.toNat_ofNat', Nat.mod_eq_of_lt (b := 2 ^ 8) (Nat.lt_trans hs (by decide)), Nat.mod_eq_of_lt (b := 8) hs]
theorem bit_prog (K : List UInt8) (i : Nat) : ((K.getD (i / 8) 0 >>> UInt8.ofNat (i % 8)) &&& UInt8.ofNat 1 == UInt8.ofNat 1) = kb K i := by
  unfold kb
  rw [Bool.eq_iff_iff, beq_iff_eq, decide_eq_true_eq, ← UInt8.toNat_inj, UInt8.toNat_and, show (UInt8.ofNat 1).toNat = 2 ^ 1 - 1 from rfl, Nat.and_two_pow_sub_one_eq_mod, shr8_toNat _ _ (Nat.mod_lt _ (by decide))]
theorem bit_ref (K : List UInt8) (i : Nat) : ((K.getD (i / 8) 0 >>> UInt8.ofNat (i % 8)) % UInt8.ofNat 2 == UInt8.ofNat 1) = kb K i := by
  unfold kb
  rw [Bool.eq_iff_iff, beq_iff_eq, decide_eq_true_eq, ← UInt8.toNat_inj, UInt8.toNat_mod, shr8_toNat _ _ (Nat.mod_lt _ (by decide))]
  rfl
end Go.Proofs.YtmnhifagkcmhjaaDoor
namespace Go.Proofs.YtmnhifagkcmhjaaDoor
theorem leN_bsN (v n : Nat) : leN (bsN v n) n = v % 256 ^ n := by
  induction n with
  | zero => simp [leN, Nat.mod_one]
  | succ n ih =>
    have e : leN (bsN v (n + 1)) n = leN (bsN v n) n := leN_congr _ _ _ fun i hi => by
      simp only [bsN]; rw [getD_app, if_pos (by rw [length_bsN]; exact hi)]
    simp only [leN]
    rw [e, ih, bs_get v (n + 1) n (by omega)]
    have h := Nat.mod_lt (v / 256 ^ n) (show 0 < 256 by decide)
    rw [UInt8.toNat_ofNat_of_lt' (by simpa using h), Nat.pow_succ, Nat.mod_mul]
theorem of_bytes (v : Nat) (h : v < fp) : ofV (bsN v 32) = v := by
  have h2 : (256 : Nat) ^ 32 = 115792089237316195423570985008687907853269984665640564039457584007913129639936 := by decide
  unfold ofV
  rw [leN_bsN, h2]
  unfold fp at *
  omega
theorem bsN_inj {a b : Nat} (ha : a < fp) (hb : b < fp) (h : bsN a 32 = bsN b 32) : a = b := by rw [← of_bytes a ha, ← of_bytes b hb, h]
def pk (s : Nat × Nat × Nat × Nat) : Nat := s.1 + 115792089237316195423570985008687907853269984665640564039457584007913129639936 * (s.2.1 + 115792089237316195423570985008687907853269984665640564039457584007913129639936 * (s.2.2.1 + 115792089237316195423570985008687907853269984665640564039457584007913129639936 * s.2.2.2))
def up (n : Nat) : Nat × Nat × Nat × Nat := (n % 115792089237316195423570985008687907853269984665640564039457584007913129639936, n / 115792089237316195423570985008687907853269984665640564039457584007913129639936 % 115792089237316195423570985008687907853269984665640564039457584007913129639936, n / 115792089237316195423570985008687907853269984665640564039457584007913129639936 / 115792089237316195423570985008687907853269984665640564039457584007913129639936 % 115792089237316195423570985008687907853269984665640564039457584007913129639936, n / 115792089237316195423570985008687907853269984665640564039457584007913129639936 / 115792089237316195423570985008687907853269984665640564039457584007913129639936 / 115792089237316195423570985008687907853269984665640564039457584007913129639936)
theorem up_pk (s : Nat × Nat × Nat × Nat) (h1 : s.1 < fp) (h2 : s.2.1 < fp) (h3 : s.2.2.1 < fp) : up (pk s) = s := by
  obtain ⟨a, b, c, d⟩ := s
  unfold up pk fp at *
  simp only at *
  refine Prod.ext ?_ (Prod.ext ?_ (Prod.ext ?_ ?_))
  · show _ % _ = a; omega
  · show _ / _ % _ = b; omega
  · show _ / _ / _ % _ = c; omega
  · show _ / _ / _ / _ = d; omega
def ladP (K : List UInt8) (x : Nat) : Nat → Nat
  | 0 => pk (1, 0, x, 1)
  | i + 1 => pk (lstep (kb K (255 - i)) x (up (ladP K x i)))
theorem ladP_eq (K : List UInt8) (x : Nat) (hx : x < fp) (i : Nat) : ladP K x i = pk (lad K x i) := by
  induction i with
  | zero => rfl
  | succ i ih =>
    have h := lad_lt K x hx i
    simp only [ladP, lad]
    rw [ih, up_pk _ h.1 h.2.1 h.2.2.1]
def tmC (K : List UInt8) (x : Nat) : Nat := (up (ladP K x 256)).1 * pm fp 256 (up (ladP K x 256)).2.1 (fp - 2) % fp
theorem tmC_eq (K : List UInt8) (x : Nat) (hx : x < fp) : tmV K x = tmC K x := by
  have h := lad_lt K x hx 256
  unfold tmV tmC
  rw [ladP_eq K x hx, up_pk _ h.1 h.2.1 h.2.2.1, pm_spec fp 256 _ (fp - 2) (by decide)]
def ka6 : List UInt8 := [0, 0, 0, 0, 0, 0, 0, 0, 7, 0, 0, 0, 0, 0, 0, 0, 0, 0, 0, 0, 0, 0, 0, 0, 0, 0, 0, 0, 0, 0, 0, 0]
def kb6 : List UInt8 := [0, 0, 0, 0, 0, 0, 0, 0, 0, 0, 0, 0, 0, 0, 0, 0, 0, 0, 0, 0, 9, 0, 0, 0, 0, 0, 0, 0, 0, 0, 0, 0]
theorem fact6a : tmC (usL ka6) (tmC (usL kb6) 9) = tmC (usL kb6) (tmC (usL ka6) 9) := by decide +kernel
theorem fact6b : tmC (usL ka6) (tmC (usL kb6) 9) ≠ 0 := by decide +kernel
theorem fact6c : tmC (usL ka6) 9 ≠ tmC (usL kb6) 9 := by decide +kernel
end Go.Proofs.YtmnhifagkcmhjaaDoor
