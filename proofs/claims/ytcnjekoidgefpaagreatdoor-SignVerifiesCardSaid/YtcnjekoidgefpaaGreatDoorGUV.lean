/-
  The group of the Edwards curve, and the ladder as its multiplication.
-/
import Derived.Test.YtcnjekoidgefpaaGreatDoorGF2V
import Derived.Test.YtcnjekoidgefpaaGreatDoorGF3V
namespace Go.Proofs.YtcnjekoidgefpaaGreatDoor
def iV : Nat := 19681161376707505956807079304988542015446066515923890162744021073123829784752
theorem iV_sq : iV * iV % fp = fp - 1 := by decide +kernel
theorem iV_lt : iV < fp := by decide +kernel
theorem root_num {p E u v : Nat} (hp : p = 8 * E + 5) (h1 : v ^ (p - 1) % p = 1) : (u * v ^ (p - 2)) ^ (E + 1) % p = (u * v ^ 3 * (u * v ^ 7) ^ E) % p := by
  have e1 : (u * v ^ (p - 2)) ^ (E + 1) = (u * v ^ 3 * (u * v ^ 7) ^ E) * (v ^ (p - 1)) ^ E := by
    rw [Nat.mul_pow, Nat.mul_pow, ← Nat.pow_mul, ← Nat.pow_mul, ← Nat.pow_mul, Nat.pow_succ]
    have e2 : (p - 2) * (E + 1) = 3 + 7 * E + (p - 1) * E := by
      rw [hp, show 8 * E + 5 - 2 = 8 * E + 3 by omega, show 8 * E + 5 - 1 = 8 * E + 4 by omega]
      grind
    rw [e2, Nat.pow_add, Nat.pow_add]
    grind
  rw [e1, Nat.mul_mod, Nat.pow_mod (v ^ (p - 1)), h1, Nat.one_pow]
  have hp1 : 1 % p = 1 := Nat.mod_eq_of_lt (by omega)
  rw [hp1, Nat.mul_one, Nat.mod_mod]
theorem root_back {p u v : Nat} (hp : 2 ≤ p) (h1 : v ^ (p - 1) % p = 1) : (u * v ^ (p - 2)) * v % p = u % p := by
  rw [Nat.mul_assoc, ← Nat.pow_succ, show (p - 2).succ = p - 1 by omega, Nat.mul_mod, h1, Nat.mul_one, Nat.mod_mod]
theorem root_ok {p u v q : Nat} (hp : 2 ≤ p) (h1 : v ^ (p - 1) % p = 1) : q * v % p = u % p ↔ q % p = u * v ^ (p - 2) % p := by
  constructor
  · intro h
    have e : q * v * v ^ (p - 2) % p = u * v ^ (p - 2) % p := by rw [Nat.mul_mod, h, ← Nat.mul_mod]
    rw [← e, Nat.mul_assoc, ← Nat.pow_succ', show (p - 2).succ = p - 1 by omega, Nat.mul_mod, h1, Nat.mul_one, Nat.mod_mod]
  · intro h
    rw [Nat.mul_mod, h, ← Nat.mul_mod, root_back hp h1]
theorem aQ {p a b : Nat} (ha : a ≤ p) (hp : 0 < p) : (p - a) * b % p = (p - a * b % p) % p := by
  have h : ((p - a) * b + a * b) % p = 0 := by rw [← Nat.add_mul, Nat.sub_add_cancel ha, Nat.mul_mod_right]
  have h2 := Nat.mod_lt (a * b) hp
  have h3 := Nat.mod_lt ((p - a) * b) hp
  rw [Nat.add_mod] at h
  by_cases c : a * b % p = 0
  · rw [c, Nat.add_zero, Nat.mod_mod] at h
    rw [h, c, Nat.sub_zero, Nat.mod_self]
  · have : (p - a * b % p) % p = p - a * b % p := Nat.mod_eq_of_lt (by omega)
    rw [this]
    by_cases d : (p - a) * b % p + a * b % p < p
    · rw [Nat.mod_eq_of_lt d] at h; omega
    · rw [Nat.mod_eq_sub_mod (by omega), Nat.mod_eq_of_lt (by omega)] at h; omega
theorem cube_mod (v p : Nat) : v * v % p * v % p = v ^ 3 % p := by
  rw [Nat.mod_mul_mod, show v ^ 3 = v * v * v by grind]
theorem prog_root (p E u v : Nat) : (u * (v * v % p * v % p) % p) * (((u * ((v * v % p * v % p) * (v * v % p * v % p) % p) % p) * v % p) ^ E % p) % p = (u * v ^ 3 * (u * v ^ 7) ^ E) % p := by
  have h1 : ((u * ((v ^ 3 % p) * (v ^ 3 % p) % p) % p) * v % p) = u * v ^ 7 % p := by
    rw [← Nat.mul_mod, Nat.mul_mod_mod, Nat.mod_mul_mod, show u * (v ^ 3 * v ^ 3) * v = u * v ^ 7 by grind]
  have h2 : u * (v ^ 3 % p) % p = u * v ^ 3 % p := Nat.mul_mod_mod _ _ _
  rw [cube_mod, h1, h2, ← Nat.pow_mod, ← Nat.mul_mod]
theorem ref_root (p E u v : Nat) : (u * (v ^ (p - 2) % p) % p) ^ (E + 1) % p = (u * v ^ (p - 2)) ^ (E + 1) % p := by
  have h : u * (v ^ (p - 2) % p) % p = u * v ^ (p - 2) % p := Nat.mul_mod_mod _ _ _
  rw [h, ← Nat.pow_mod]
theorem fp_E : fp = 8 * ((fp - 5) / 8) + 5 := by decide +kernel
theorem fp_E1 : (fp + 3) / 2 ^ 3 = (fp - 5) / 8 + 1 := by decide +kernel
theorem not_dvd {v p : Nat} (h0 : v ≠ 0) (h : v < p) : ¬ p ∣ v := fun hd => by have := Nat.le_of_dvd (by omega) hd; omega
theorem root_same (u v : Nat) (h0 : v ≠ 0) (hv : v < fp) : (u * (v * v % fp * v % fp) % fp) * (((u * ((v * v % fp * v % fp) * (v * v % fp * v % fp) % fp) % fp) * v % fp) ^ ((fp - 5) / 8) % fp) % fp = (u * (v ^ (fp - 2) % fp) % fp) ^ ((fp + 3) / 2 ^ 3) % fp := by
  rw [prog_root, fp_E1, ref_root, root_num fp_E (mS vP (not_dvd h0 hv))]
end Go.Proofs.YtcnjekoidgefpaaGreatDoor
namespace Go.Proofs.YtcnjekoidgefpaaGreatDoor
theorem zR {p y : Nat} (hy : y < p) : (p - (p - y) % p) % p = y := by
  by_cases h : y = 0
  · rw [h, Nat.sub_zero, Nat.mod_self, Nat.sub_zero, Nat.mod_self]
  · rw [Nat.mod_eq_of_lt (show p - y < p by omega), show p - (p - y) = y by omega, Nat.mod_eq_of_lt hy]
theorem fp_odd : fp % 2 = 1 := by decide +kernel
theorem fp_pos2 : 0 < fp := by decide
def sgN (r : Nat) : Nat := if decide (r % 2 = 1) then (fp - r) % fp else r
theorem sg_lt {r : Nat} (h : r < fp) : sgN r < fp := by
  unfold sgN; split
  · exact Nat.mod_lt _ fp_pos2
  · exact h
theorem sg_even {r : Nat} (h : r < fp) : sgN r % 2 = 0 := by
  unfold sgN; split
  · rename_i c
    have c := of_decide_eq_true c
    have := fp_odd
    rw [Nat.mod_eq_of_lt (show fp - r < fp by omega)]; omega
  · rename_i c
    have : ¬ r % 2 = 1 := fun e => c (decide_eq_true e)
    omega
theorem neg_sq {p r : Nat} (h : r < p) : (p - r) % p * ((p - r) % p) % p = r * r % p := by
  have hp : 0 < p := by omega
  rw [← Nat.mul_mod, aQ (Nat.le_of_lt h) hp, Nat.mul_comm r, aQ (Nat.le_of_lt h) hp, zR (Nat.mod_lt _ hp)]
theorem sg_sq {r : Nat} (h : r < fp) : sgN r * sgN r % fp = r * r % fp := by
  unfold sgN; split
  · exact neg_sq h
  · rfl
theorem iV_neg (r : Nat) : (r * iV % fp) * (r * iV % fp) % fp = (fp - r * r % fp) % fp := by
  have h : r * iV * (r * iV) = (iV * iV) * (r * r) := by rw [Nat.mul_mul_mul_comm, Nat.mul_comm]
  rw [← Nat.mul_mod, h, Nat.mul_mod, iV_sq, ← Nat.mod_eq_of_lt (show fp - 1 < fp by decide), ← Nat.mul_mod, aQ (by decide) fp_pos2, Nat.one_mul]
theorem q_pos {u v r : Nat} (hu : u < fp) (h0 : v ≠ 0) (hv : v < fp) : r * r % fp * v % fp = u ↔ r * r % fp = u * (v ^ (fp - 2) % fp) % fp := by
  have h := root_ok (u := u) (q := r * r) (p := fp) (by decide) (mS vP (not_dvd h0 hv))
  rw [Nat.mod_mul_mod, Nat.mul_mod_mod, ← h, Nat.mod_eq_of_lt hu]
theorem q_neg {u v r : Nat} (hu : u < fp) (h0 : v ≠ 0) (hv : v < fp) : r * r % fp * v % fp = (fp - u) % fp ↔ r * r % fp = (fp - u * (v ^ (fp - 2) % fp) % fp) % fp := by
  have h := root_ok (u := fp - u) (q := r * r) (p := fp) (by decide) (mS vP (not_dvd h0 hv))
  rw [Nat.mod_mul_mod, Nat.mul_mod_mod, h, aQ (Nat.le_of_lt hu) fp_pos2]
end Go.Proofs.YtcnjekoidgefpaaGreatDoor
namespace Go.Proofs.YtcnjekoidgefpaaGreatDoor
instance : NeZero fp := ⟨by decide⟩
abbrev ZF := Fin fp
theorem rR (a b c : ZF) : a * b * c = a * (b * c) := by grind -lia
theorem fT (a b : ZF) : a * b = b * a := by grind -lia
theorem uP (a : ZF) : a * 1 = a := by grind -lia
theorem z_onem (a : ZF) : 1 * a = a := by grind -lia
theorem z_zm (a : ZF) : 0 * a = 0 := by grind -lia
theorem z_mz (a : ZF) : a * 0 = 0 := by grind -lia
theorem z_az (a : ZF) : a + 0 = a := by grind -lia
def zf (n : Nat) : ZF := ⟨n % fp, Nat.mod_lt _ (by decide)⟩
theorem zf_val (n : Nat) : (zf n).val = n % fp := rfl
theorem zf_eq {a b : Nat} : zf a = zf b ↔ a % fp = b % fp := ⟨fun h => congrArg Fin.val h, fun h => Fin.ext h⟩
theorem tP {a b : Nat} (ha : a < fp) (hb : b < fp) (h : zf a = zf b) : a = b := by
  have := zf_eq.1 h
  rwa [Nat.mod_eq_of_lt ha, Nat.mod_eq_of_lt hb] at this
theorem xL (a : Nat) : zf (a % fp) = zf a := zf_eq.2 (Nat.mod_mod _ _)
theorem zf_add (a b : Nat) : zf (a + b) = zf a + zf b := Fin.ext (by show (a + b) % fp = (a % fp + b % fp) % fp; rw [← Nat.add_mod])
theorem dN (a b : Nat) : zf (a * b) = zf a * zf b := Fin.ext (by show (a * b) % fp = (a % fp * (b % fp)) % fp; rw [← Nat.mul_mod])
theorem pR : zf 0 = 0 := Fin.ext (by decide)
theorem lU : zf 1 = 1 := Fin.ext (by decide)
theorem zf_fp : zf fp = 0 := Fin.ext (by decide)
theorem zf_eq0 {a : Nat} (h : a < fp) : zf a = 0 ↔ a = 0 := ⟨fun e => tP h (by decide) (e.trans pR.symm), fun e => by rw [e, pR]⟩
theorem iU (x : ZF) : zf x.val = x := Fin.ext (Nat.mod_eq_of_lt x.isLt)
theorem zf_neg {b : Nat} (hb : b ≤ fp) : zf (fp - b) = - zf b := by
  have h : zf (fp - b) + zf b = 0 := by rw [← zf_add, Nat.sub_add_cancel hb, zf_fp]
  grind -lia
theorem zf_sub {a b : Nat} (hb : b ≤ fp) : zf (a + (fp - b)) = zf a - zf b := by rw [zf_add, zf_neg hb]; grind -lia
theorem zf_m (a b : Nat) : zf (a * b % fp) = zf a * zf b := by rw [xL, dN]
theorem zf_a (a b : Nat) : zf ((a + b) % fp) = zf a + zf b := by rw [xL, zf_add]
theorem zf_s {a b : Nat} (hb : b < fp) : zf ((a + (fp - b)) % fp) = zf a - zf b := by rw [xL, zf_sub (Nat.le_of_lt hb)]
theorem zf_n {b : Nat} (hb : b < fp) : zf ((fp - b) % fp) = - zf b := by rw [xL, zf_neg (Nat.le_of_lt hb)]
def zinv (x : ZF) : ZF := zf (x.val ^ (fp - 2))
theorem fp_two : 2 ≤ fp := by decide
theorem yR {x : ZF} (h : x ≠ 0) : ¬ fp ∣ x.val := fun hd => by
  have hx := x.isLt
  have h0 : x.val ≠ 0 := fun e => h (Fin.ext e)
  have := Nat.le_of_dvd (by omega) hd
  omega
theorem zinv_ok (x : ZF) (h : x ≠ 0) : x * zinv x = 1 := by
  have h1 := mS vP (yR h)
  have e : x * zinv x = zf (x.val * x.val ^ (fp - 2)) := by rw [dN, iU]; rfl
  rw [e, ← lU, zf_eq, ← Nat.pow_succ', show (fp - 2).succ = fp - 1 by have := fp_two; omega, h1]
  decide
theorem z_dom (a b : ZF) (h : a * b = 0) : a = 0 ∨ b = 0 := by
  have h1 : (a.val * b.val) % fp = 0 := by
    have := congrArg Fin.val h
    rwa [Fin.val_mul] at this
  have key : ∀ c : ZF, fp ∣ c.val → c = 0 := fun c hc => Classical.byContradiction fun hn => yR hn hc
  rcases vP.split (Nat.dvd_of_mod_eq_zero h1) with h2 | h2
  · exact .inl (key a h2)
  · exact .inr (key b h2)
def dV : Nat := 37095705934669439343138083508754565189542113879843219016388785533085940283555
theorem yO : dV < fp := by decide +kernel
theorem dV_pow_gen (n : Nat) (e : n = (fp - 1) / 2) : dV ^ n % fp = fp - 1 := by
  subst e
  rw [← gM fp 256 dV ((fp - 1) / 2) (by decide +kernel)]
  decide +kernel
theorem d_euler (n m s t : Nat) (em : m = (fp - 1) / 2) (e1 : n = 2 * m) (hs : s ^ n % fp = 1) (ht : t ^ n % fp = 1) (h : dV * (s * s) % fp = t * t % fp) : False := by
  have g : ∀ m : Nat, (dV * (s * s)) ^ m % fp = (t * t) ^ m % fp := fun m => by rw [Nat.pow_mod, h, ← Nat.pow_mod]
  have g := g m
  rw [Nat.mul_pow, ← Nat.pow_two, ← Nat.pow_two, ← Nat.pow_mul, ← Nat.pow_mul, ← e1, Nat.mul_mod, hs, ht, dV_pow_gen m em, Nat.mul_one] at g
  revert g
  decide
theorem z_d (s t : ZF) (hs : s ≠ 0) : zf dV * (s * s) ≠ t * t := by
  intro h
  have h1 : dV * (s.val * s.val) % fp = t.val * t.val % fp := by
    have e1 : zf dV * (s * s) = zf (dV * (s.val * s.val)) := by rw [dN, dN, iU]
    have e2 : t * t = zf (t.val * t.val) := by rw [dN, iU]
    rw [e1, e2] at h
    exact zf_eq.1 h
  by_cases ht : t = 0
  · subst ht
    have h2 : zf dV * (s * s) = 0 := by rw [h]; exact z_zm 0
    rcases z_dom _ _ h2 with h3 | h3
    · have := (zf_eq0 yO).1 h3
      revert this; decide
    · rcases z_dom _ _ h3 with h4 | h4 <;> exact hs h4
  · exact d_euler (fp - 1) ((fp - 1) / 2) s.val t.val rfl (by decide +kernel) (mS vP (yR hs)) (mS vP (yR ht)) h1
end Go.Proofs.YtcnjekoidgefpaaGreatDoor
namespace Go.Proofs.YtcnjekoidgefpaaGreatDoor
namespace Ed
structure Fld where
  inv : ZF → ZF
  d : ZF
  i : ZF
  hinv : ∀ a, a ≠ 0 → a * inv a = 1
  dom : ∀ a b : ZF, a * b = 0 → a = 0 ∨ b = 0
  hi : i * i = -1
  hd : ∀ s t : ZF, s ≠ 0 → d * (s * s) ≠ t * t
  h10 : (1 : ZF) ≠ 0
  h2 : (2 : ZF) ≠ 0
section
def On (d : ZF) (p : ZF × ZF) : Prop := p.2 * p.2 - p.1 * p.1 = 1 + d * (p.1 * p.1) * (p.2 * p.2)
theorem Fld.nz (K : Fld) {a b : ZF} (ha : a ≠ 0) (hb : b ≠ 0) : a * b ≠ 0 := fun h => (K.dom a b h).elim ha hb
theorem Fld.can (K : Fld) {a b c : ZF} (ha : a ≠ 0) (h : a * b = a * c) : b = c := by
  have := K.dom a (b - c) (by grind -lia)
  grind -lia
theorem complete (K : Fld) {x1 y1 x2 y2 : ZF} (h1 : On K.d (x1, y1)) (h2 : On K.d (x2, y2)) {e : ZF} (he : e = K.d * (x1 * x2) * (y1 * y2)) (h : e * e = 1) : False := by
  have hd := K.hd
  have hi := K.hi
  unfold On at h1 h2
  dsimp only at h1 h2
  have h10 := K.h10
  have e0 : e ≠ 0 := fun h0 => h10 (by rw [← h, h0]; grind -lia)
  have nx1 : x1 ≠ 0 := fun h0 => e0 (by rw [he, h0]; grind -lia)
  have ny1 : y1 ≠ 0 := fun h0 => e0 (by rw [he, h0]; grind -lia)
  have ny2 : y2 ≠ 0 := fun h0 => e0 (by rw [he, h0]; grind -lia)
  have nxy := K.nz nx1 ny1
  have p1 : K.d * ((x1 * y1 * (K.i * x2 + y2)) * (x1 * y1 * (K.i * x2 + y2))) = (K.i * x1 + e * y1) * (K.i * x1 + e * y1) := by grind -lia
  have p2 : K.d * ((x1 * y1 * (K.i * x2 - y2)) * (x1 * y1 * (K.i * x2 - y2))) = (K.i * x1 - e * y1) * (K.i * x1 - e * y1) := by grind -lia
  have q1 : K.i * x2 + y2 = 0 := Classical.byContradiction fun hn => hd _ _ (K.nz nxy hn) p1
  have q2 : K.i * x2 - y2 = 0 := Classical.byContradiction fun hn => hd _ _ (K.nz nxy hn) p2
  have : (2 : ZF) * y2 = 0 := by grind -lia
  exact (K.dom _ _ this).elim K.h2 ny2
def tt (d : ZF) (p q : ZF × ZF) : ZF := d * (p.1 * q.1) * (p.2 * q.2)
def add (K : Fld) (p q : ZF × ZF) : ZF × ZF := ((p.1 * q.2 + q.1 * p.2) * K.inv (1 + tt K.d p q), (p.2 * q.2 + p.1 * q.1) * K.inv (1 - tt K.d p q))
theorem den (K : Fld) {p q : ZF × ZF} (h1 : On K.d p) (h2 : On K.d q) : 1 + tt K.d p q ≠ 0 ∧ 1 - tt K.d p q ≠ 0 := by
  obtain ⟨x1, y1⟩ := p
  obtain ⟨x2, y2⟩ := q
  constructor
  · intro h
    exact complete K h1 h2 (e := tt K.d (x1, y1) (x2, y2)) rfl (by grind -lia)
  · intro h
    exact complete K h1 h2 (e := tt K.d (x1, y1) (x2, y2)) rfl (by grind -lia)
theorem yT (K : Fld) {p q : ZF × ZF} (h1 : On K.d p) (h2 : On K.d q) : (add K p q).1 * (1 + tt K.d p q) = p.1 * q.2 + q.1 * p.2 ∧ (add K p q).2 * (1 - tt K.d p q) = p.2 * q.2 + p.1 * q.1 := by
  obtain ⟨d1, d2⟩ := den K h1 h2
  have e1 := K.hinv _ d1
  have e2 := K.hinv _ d2
  constructor
  · show (p.1 * q.2 + q.1 * p.2) * K.inv (1 + tt K.d p q) * (1 + tt K.d p q) = _
    rw [rR, fT (K.inv _), e1, uP]
  · show (p.2 * q.2 + p.1 * q.1) * K.inv (1 - tt K.d p q) * (1 - tt K.d p q) = _
    rw [rR, fT (K.inv _), e2, uP]
theorem add_uniq (K : Fld) {p q r : ZF × ZF} (h1 : On K.d p) (h2 : On K.d q) (e1 : r.1 * (1 + tt K.d p q) = p.1 * q.2 + q.1 * p.2) (e2 : r.2 * (1 - tt K.d p q) = p.2 * q.2 + p.1 * q.1) : r = add K p q := by
  obtain ⟨d1, d2⟩ := den K h1 h2
  obtain ⟨f1, f2⟩ := yT K h1 h2
  apply Prod.ext
  · exact K.can d1 (by rw [fT, e1, ← f1, fT])
  · exact K.can d2 (by rw [fT, e2, ← f2, fT])
theorem closed_poly (d x1 y1 x2 y2 t : ZF) (h1 : y1 * y1 - x1 * x1 = 1 + d * (x1 * x1) * (y1 * y1)) (h2 : y2 * y2 - x2 * x2 = 1 + d * (x2 * x2) * (y2 * y2)) (ht : t = d * (x1 * x2) * (y1 * y2)) :
    (y1 * y2 + x1 * x2) * (y1 * y2 + x1 * x2) * ((1 + t) * (1 + t)) - (x1 * y2 + x2 * y1) * (x1 * y2 + x2 * y1) * ((1 - t) * (1 - t)) = (1 + t) * (1 + t) * ((1 - t) * (1 - t)) + d * ((x1 * y2 + x2 * y1) * (x1 * y2 + x2 * y1)) * ((y1 * y2 + x1 * x2) * (y1 * y2 + x1 * x2)) := by
  grind -lia
theorem add_on (K : Fld) {p q : ZF × ZF} (h1 : On K.d p) (h2 : On K.d q) : On K.d (add K p q) := by
  obtain ⟨d1, d2⟩ := den K h1 h2
  obtain ⟨f1, f2⟩ := yT K h1 h2
  have g := closed_poly K.d p.1 p.2 q.1 q.2 (tt K.d p q) h1 h2 rfl
  rw [← f1, ← f2] at g
  unfold On
  generalize (add K p q).1 = x at *
  generalize (add K p q).2 = y at *
  generalize tt K.d p q = t at *
  have n := K.nz (K.nz d1 d1) (K.nz d2 d2)
  refine K.can n ?_
  clear f1 f2 d1 d2 n h1 h2
  grind -lia
theorem assoc_x (d x1 y1 x2 y2 x3 y3 t s : ZF) (h1 : y1 * y1 - x1 * x1 = 1 + d * (x1 * x1) * (y1 * y1)) (h2 : y2 * y2 - x2 * x2 = 1 + d * (x2 * x2) * (y2 * y2)) (h3 : y3 * y3 - x3 * x3 = 1 + d * (x3 * x3) * (y3 * y3)) (ht : t = d * (x1 * x2) * (y1 * y2)) (hs : s = d * (x2 * x3) * (y2 * y3)) :
    ((x1 * y2 + x2 * y1) * (1 - t) * y3 + x3 * ((y1 * y2 + x1 * x2) * (1 + t))) * ((1 + s) * (1 - s) + d * (x1 * (x2 * y3 + x3 * y2)) * (y1 * (y2 * y3 + x2 * x3)))
    = (x1 * ((y2 * y3 + x2 * x3) * (1 + s)) + (x2 * y3 + x3 * y2) * (1 - s) * y1) * ((1 + t) * (1 - t) + d * ((x1 * y2 + x2 * y1) * x3) * ((y1 * y2 + x1 * x2) * y3)) := by
  grind -lia
theorem assoc_y (d x1 y1 x2 y2 x3 y3 t s : ZF) (h1 : y1 * y1 - x1 * x1 = 1 + d * (x1 * x1) * (y1 * y1)) (h2 : y2 * y2 - x2 * x2 = 1 + d * (x2 * x2) * (y2 * y2)) (h3 : y3 * y3 - x3 * x3 = 1 + d * (x3 * x3) * (y3 * y3)) (ht : t = d * (x1 * x2) * (y1 * y2)) (hs : s = d * (x2 * x3) * (y2 * y3)) :
    ((y1 * y2 + x1 * x2) * (1 + t) * y3 + (x1 * y2 + x2 * y1) * (1 - t) * x3) * ((1 + s) * (1 - s) - d * (x1 * (x2 * y3 + x3 * y2)) * (y1 * (y2 * y3 + x2 * x3)))
    = (y1 * ((y2 * y3 + x2 * x3) * (1 + s)) + x1 * ((x2 * y3 + x3 * y2) * (1 - s))) * ((1 + t) * (1 - t) - d * ((x1 * y2 + x2 * y1) * x3) * ((y1 * y2 + x1 * x2) * y3)) := by
  grind -lia
theorem frac {K : Fld} {x x' N N' D D' : ZF} (h : x * D = N) (h' : x' * D' = N') (hd : D ≠ 0) (hd' : D' ≠ 0) (e : N * D' = N' * D) : x = x' :=
  K.can (K.nz hd hd') (by grind -lia)
theorem add_assoc (K : Fld) {p q r : ZF × ZF} (h1 : On K.d p) (h2 : On K.d q) (h3 : On K.d r) : add K (add K p q) r = add K p (add K q r) := by
  have o12 := add_on K h1 h2
  have o23 := add_on K h2 h3
  obtain ⟨d1, d2⟩ := den K h1 h2
  obtain ⟨d3, d4⟩ := den K h2 h3
  obtain ⟨d5, d6⟩ := den K o12 h3
  obtain ⟨d7, d8⟩ := den K h1 o23
  obtain ⟨a1, a2⟩ := yT K h1 h2
  obtain ⟨a3, a4⟩ := yT K h2 h3
  obtain ⟨a5, a6⟩ := yT K o12 h3
  obtain ⟨a7, a8⟩ := yT K h1 o23
  have gx := assoc_x K.d p.1 p.2 q.1 q.2 r.1 r.2 (tt K.d p q) (tt K.d q r) h1 h2 h3 rfl rfl
  have gy := assoc_y K.d p.1 p.2 q.1 q.2 r.1 r.2 (tt K.d p q) (tt K.d q r) h1 h2 h3 rfl rfl
  have e5 : tt K.d (add K p q) r = K.d * ((add K p q).1 * r.1) * ((add K p q).2 * r.2) := rfl
  have e7 : tt K.d p (add K q r) = K.d * (p.1 * (add K q r).1) * (p.2 * (add K q r).2) := rfl
  generalize tt K.d (add K p q) r = t5 at *
  generalize tt K.d p (add K q r) = t7 at *
  generalize tt K.d p q = t at *
  generalize tt K.d q r = s at *
  have n1 := K.nz d1 d2
  have n2 := K.nz d3 d4
  apply Prod.ext
  · refine frac (K := K) (D := (1 + t) * (1 - t) * (1 + t5)) (D' := (1 + s) * (1 - s) * (1 + t7)) rfl rfl (K.nz n1 d5) (K.nz n2 d7) ?_
    have b1 : (1 + t) * (1 - t) * (1 + t5) = (1 + t) * (1 - t) + K.d * ((p.1 * q.2 + q.1 * p.2) * r.1) * ((p.2 * q.2 + p.1 * q.1) * r.2) := by
      rw [← a1, ← a2, e5]; grind -lia
    have b2 : (1 + s) * (1 - s) * (1 + t7) = (1 + s) * (1 - s) + K.d * (p.1 * (q.1 * r.2 + r.1 * q.2)) * (p.2 * (q.2 * r.2 + q.1 * r.1)) := by
      rw [← a3, ← a4, e7]; grind -lia
    have b3 : (add K (add K p q) r).1 * ((1 + t) * (1 - t) * (1 + t5)) = (p.1 * q.2 + q.1 * p.2) * (1 - t) * r.2 + r.1 * ((p.2 * q.2 + p.1 * q.1) * (1 + t)) := by
      rw [← a1, ← a2, fT _ (1 + t5), ← rR, a5]; grind -lia
    have b4 : (add K p (add K q r)).1 * ((1 + s) * (1 - s) * (1 + t7)) = p.1 * ((q.2 * r.2 + q.1 * r.1) * (1 + s)) + (q.1 * r.2 + r.1 * q.2) * (1 - s) * p.2 := by
      rw [← a3, ← a4, fT _ (1 + t7), ← rR, a7]; grind -lia
    rw [b3, b4, b1, b2]; exact gx
  · refine frac (K := K) (D := (1 + t) * (1 - t) * (1 - t5)) (D' := (1 + s) * (1 - s) * (1 - t7)) rfl rfl (K.nz n1 d6) (K.nz n2 d8) ?_
    have b1 : (1 + t) * (1 - t) * (1 - t5) = (1 + t) * (1 - t) - K.d * ((p.1 * q.2 + q.1 * p.2) * r.1) * ((p.2 * q.2 + p.1 * q.1) * r.2) := by
      rw [← a1, ← a2, e5]; grind -lia
    have b2 : (1 + s) * (1 - s) * (1 - t7) = (1 + s) * (1 - s) - K.d * (p.1 * (q.1 * r.2 + r.1 * q.2)) * (p.2 * (q.2 * r.2 + q.1 * r.1)) := by
      rw [← a3, ← a4, e7]; grind -lia
    have b3 : (add K (add K p q) r).2 * ((1 + t) * (1 - t) * (1 - t5)) = (p.2 * q.2 + p.1 * q.1) * (1 + t) * r.2 + (p.1 * q.2 + q.1 * p.2) * (1 - t) * r.1 := by
      rw [← a1, ← a2, fT _ (1 - t5), ← rR, a6]; grind -lia
    have b4 : (add K p (add K q r)).2 * ((1 + s) * (1 - s) * (1 - t7)) = p.2 * ((q.2 * r.2 + q.1 * r.1) * (1 + s)) + p.1 * ((q.1 * r.2 + r.1 * q.2) * (1 - s)) := by
      rw [← a3, ← a4, fT _ (1 - t7), ← rR, a8]; grind -lia
    rw [b3, b4, b1, b2]; exact gy
theorem add_comm (K : Fld) (p q : ZF × ZF) : add K p q = add K q p := by
  have e : tt K.d p q = tt K.d q p := by unfold tt; grind -lia
  unfold add
  rw [e]
  congr 2 <;> grind -lia
def o : ZF × ZF := (0, 1)
theorem o_on (d : ZF) : On d o := by unfold On o; grind -lia
theorem add_o (K : Fld) {p : ZF × ZF} (h : On K.d p) : add K p o = p := by
  refine (add_uniq K h (o_on _) ?_ ?_).symm <;> (unfold tt o; grind -lia)
def neg (p : ZF × ZF) : ZF × ZF := (-p.1, p.2)
theorem neg_on {d : ZF} {p : ZF × ZF} (h : On d p) : On d (neg p) := by unfold On neg at *; grind -lia
theorem add_neg (K : Fld) {p : ZF × ZF} (h : On K.d p) : add K p (neg p) = o := by
  refine (add_uniq K h (neg_on h) ?_ ?_).symm <;> (unfold On at h; unfold tt o neg; grind -lia)
def sm (K : Fld) (p : ZF × ZF) : Nat → ZF × ZF
  | 0 => o
  | n + 1 => add K (sm K p n) p
theorem sm_on (K : Fld) {p : ZF × ZF} (h : On K.d p) (n : Nat) : On K.d (sm K p n) := by
  induction n with
  | zero => exact o_on _
  | succ n ih => exact add_on K ih h
theorem sm_add (K : Fld) {p : ZF × ZF} (h : On K.d p) (m n : Nat) : sm K p (m + n) = add K (sm K p m) (sm K p n) := by
  induction n with
  | zero => exact (add_o K (sm_on K h m)).symm
  | succ n ih => rw [← Nat.add_assoc]; simp only [sm]; rw [ih, add_assoc K (sm_on K h m) (sm_on K h n) h]
theorem sm_one (K : Fld) {p : ZF × ZF} (h : On K.d p) : sm K p 1 = p := by
  show add K o p = p
  rw [add_comm, add_o K h]
theorem sm_mul (K : Fld) {p : ZF × ZF} (h : On K.d p) (m n : Nat) : sm K (sm K p m) n = sm K p (m * n) := by
  induction n with
  | zero => rfl
  | succ n ih => rw [Nat.mul_succ, sm_add K h]; simp only [sm]; rw [ih]
theorem sm_o (K : Fld) (n : Nat) : sm K o n = o := by
  induction n with
  | zero => rfl
  | succ n ih => simp only [sm]; rw [ih, add_o K (o_on _)]
theorem sm_neg (K : Fld) {p : ZF × ZF} (h : On K.d p) (n : Nat) : add K (sm K p n) (sm K (neg p) n) = o := by
  induction n with
  | zero => exact add_o K (o_on _)
  | succ n ih =>
    have h1 := sm_on K h n
    have h2 := sm_on K (neg_on h) n
    simp only [sm]
    rw [add_comm K (sm K (neg p) n), add_assoc K h1 h (add_on K (neg_on h) h2), ← add_assoc K h (neg_on h) h2, add_neg K h, add_comm K o, add_o K h2, ih]
end
end Ed
end Go.Proofs.YtcnjekoidgefpaaGreatDoor
namespace Go.Proofs.YtcnjekoidgefpaaGreatDoor
namespace Ed
section
structure Rp (d : ZF) (X Y Z : ZF) (p : ZF × ZF) : Prop where
  on : On d p
  nz : Z ≠ 0
  x : X = p.1 * Z
  y : Y = p.2 * Z
structure Rt (d : ZF) (X Y Z T : ZF) (p : ZF × ZF) : Prop extends Rp d X Y Z p where
  t : T = p.1 * p.2 * Z
theorem rp_of {K : Fld} {d : ZF} {X Y Z c : ZF} {p q : ZF × ZF} (hd : d = K.d) (hp : On d p) (hq : On d q) (hc : c ≠ 0) (hX : X * (c * (1 + tt d p q)) = (c * (p.1 * q.2 + q.1 * p.2)) * Z) (hY : Y * (c * (1 - tt d p q)) = (c * (p.2 * q.2 + p.1 * q.1)) * Z) (hZ : Z ≠ 0) : Rp d X Y Z (add K p q) := by
  subst hd
  obtain ⟨d1, d2⟩ := den K hp hq
  obtain ⟨a1, a2⟩ := yT K hp hq
  refine ⟨add_on K hp hq, hZ, ?_, ?_⟩
  · refine K.can (K.nz hc d1) ?_
    rw [fT, hX, ← a1]; grind -lia
  · refine K.can (K.nz hc d2) ?_
    rw [fT, hY, ← a2]; grind -lia
theorem rp_add {K : Fld} {X1 Y1 Z1 X2 Y2 Z2 : ZF} {p q : ZF × ZF} (h1 : Rp K.d X1 Y1 Z1 p) (h2 : Rp K.d X2 Y2 Z2 q) :
    Rp K.d ((Z1 * Z2 * ((Z1 * Z2) * (Z1 * Z2) - K.d * (X1 * X2 * (Y1 * Y2)))) * ((X1 + Y1) * (X2 + Y2) - X1 * X2 - Y1 * Y2))
      ((Z1 * Z2 * ((Z1 * Z2) * (Z1 * Z2) + K.d * (X1 * X2 * (Y1 * Y2)))) * (X1 * X2 + Y1 * Y2))
      (((Z1 * Z2) * (Z1 * Z2) - K.d * (X1 * X2 * (Y1 * Y2))) * ((Z1 * Z2) * (Z1 * Z2) + K.d * (X1 * X2 * (Y1 * Y2)))) (add K p q) := by
  obtain ⟨o1, n1, x1, y1⟩ := h1
  obtain ⟨o2, n2, x2, y2⟩ := h2
  obtain ⟨d1, d2⟩ := den K o1 o2
  have hz := K.nz n1 n2
  have hz2 := K.nz hz hz
  have e1 : (Z1 * Z2) * (Z1 * Z2) + K.d * (X1 * X2 * (Y1 * Y2)) = (Z1 * Z2) * (Z1 * Z2) * (1 + tt K.d p q) := by rw [x1, y1, x2, y2]; unfold tt; grind -lia
  have e2 : (Z1 * Z2) * (Z1 * Z2) - K.d * (X1 * X2 * (Y1 * Y2)) = (Z1 * Z2) * (Z1 * Z2) * (1 - tt K.d p q) := by rw [x1, y1, x2, y2]; unfold tt; grind -lia
  rw [e1, e2]
  refine rp_of (K := K) (c := 1) rfl o1 o2 K.h10 ?_ ?_ (K.nz (K.nz hz2 d2) (K.nz hz2 d1))
  · rw [x1, y1, x2, y2]; generalize tt K.d p q = t; grind -lia
  · rw [x1, y1, x2, y2]; generalize tt K.d p q = t; grind -lia
theorem rt_of {K : Fld} {x1 x2 y1 y2 c : ZF} {p q : ZF × ZF} (hp : On K.d p) (hq : On K.d q) (hc : c ≠ 0) (e1 : x1 = c * (p.1 * q.2 + q.1 * p.2)) (e2 : x2 = c * (1 + tt K.d p q)) (e3 : y1 = c * (p.2 * q.2 + p.1 * q.1)) (e4 : y2 = c * (1 - tt K.d p q)) :
    Rt K.d (x1 * y2) (y1 * x2) (x2 * y2) (x1 * y1) (add K p q) := by
  obtain ⟨d1, d2⟩ := den K hp hq
  obtain ⟨a1, a2⟩ := yT K hp hq
  have n2 : x2 ≠ 0 := by rw [e2]; exact K.nz hc d1
  have n4 : y2 ≠ 0 := by rw [e4]; exact K.nz hc d2
  refine ⟨⟨add_on K hp hq, K.nz n2 n4, ?_, ?_⟩, ?_⟩
  · rw [e1, e2, ← a1]; grind -lia
  · rw [e3, e4, ← a2]; grind -lia
  · rw [e1, e2, e3, e4, ← a1, ← a2]; grind -lia
theorem rt_plus {K : Fld} {X Y Z T : ZF} {p q : ZF × ZF} (h : Rt K.d X Y Z T p) (hq : On K.d q) :
    Rt K.d (((Y + X) * (q.2 + q.1) - (Y - X) * (q.2 - q.1)) * (Z + Z - T * (q.1 * q.2 * K.d + q.1 * q.2 * K.d)))
      (((Y + X) * (q.2 + q.1) + (Y - X) * (q.2 - q.1)) * (Z + Z + T * (q.1 * q.2 * K.d + q.1 * q.2 * K.d)))
      ((Z + Z + T * (q.1 * q.2 * K.d + q.1 * q.2 * K.d)) * (Z + Z - T * (q.1 * q.2 * K.d + q.1 * q.2 * K.d)))
      (((Y + X) * (q.2 + q.1) - (Y - X) * (q.2 - q.1)) * ((Y + X) * (q.2 + q.1) + (Y - X) * (q.2 - q.1))) (add K p q) := by
  obtain ⟨⟨o1, n1, x1, y1⟩, t1⟩ := h
  refine rt_of (c := 2 * Z) o1 hq (K.nz K.h2 n1) ?_ ?_ ?_ ?_
  · rw [x1, y1]; grind -lia
  · rw [t1]; unfold tt; grind -lia
  · rw [x1, y1]; grind -lia
  · rw [t1]; unfold tt; grind -lia
theorem rt_twice {K : Fld} {X Y Z T : ZF} {p : ZF × ZF} (h : Rt K.d X Y Z T p) :
    Rt K.d (((X + Y) * (X + Y) - (Y * Y + X * X)) * (Z * Z + Z * Z - (Y * Y - X * X)))
      ((Y * Y + X * X) * (Y * Y - X * X))
      ((Y * Y - X * X) * (Z * Z + Z * Z - (Y * Y - X * X)))
      (((X + Y) * (X + Y) - (Y * Y + X * X)) * (Y * Y + X * X)) (add K p p) := by
  obtain ⟨⟨o1, n1, x1, y1⟩, t1⟩ := h
  have o := o1
  unfold On at o
  refine rt_of (c := Z * Z) o1 o1 (K.nz n1 n1) ?_ ?_ ?_ ?_
  · rw [x1, y1]; grind -lia
  · rw [x1, y1]; unfold tt; grind -lia
  · rw [x1, y1]; grind -lia
  · rw [x1, y1]; unfold tt; grind -lia
theorem rp_inv {d X Y Z : ZF} {p : ZF × ZF} (h : Rp d X Y Z p) {i : ZF} (hi : Z * i = 1) : X * i = p.1 ∧ Y * i = p.2 := by
  obtain ⟨_, _, x, y⟩ := h
  constructor
  · rw [x, rR, hi, uP]
  · rw [y, rR, hi, uP]
end
end Ed
end Go.Proofs.YtcnjekoidgefpaaGreatDoor
namespace Go.Proofs.YtcnjekoidgefpaaGreatDoor
def KF : Ed.Fld where
  inv := zinv
  d := zf dV
  i := zf iV
  hinv := zinv_ok
  dom := z_dom
  hi := by
    have : zf iV * zf iV = zf (fp - 1) := by rw [← dN, zf_eq, iV_sq]; decide
    rw [this, zf_neg (by decide), lU]
  hd := z_d
  h10 := by decide
  h2 := by decide
theorem KF_d : KF.d = zf dV := rfl
end Go.Proofs.YtcnjekoidgefpaaGreatDoor
namespace Go.Proofs.YtcnjekoidgefpaaGreatDoor
def mF (a b : Nat) : Nat := a * b % fp
def aF (a b : Nat) : Nat := (a + b) % fp
def sF (a b : Nat) : Nat := (a + (fp - b)) % fp
def nF (b : Nat) : Nat := (fp - b) % fp
theorem mY (a b : Nat) : mF a b < fp := Nat.mod_lt _ fpos
theorem wX (a b : Nat) : aF a b < fp := Nat.mod_lt _ fpos
theorem oU (a b : Nat) : sF a b < fp := Nat.mod_lt _ fpos
theorem uK (b : Nat) : nF b < fp := Nat.mod_lt _ fpos
theorem z_m (a b : Nat) : zf (mF a b) = zf a * zf b := zf_m a b
theorem z_a (a b : Nat) : zf (aF a b) = zf a + zf b := zf_a a b
theorem z_s {a b : Nat} (hb : b < fp) : zf (sF a b) = zf a - zf b := zf_s hb
theorem z_n {b : Nat} (hb : b < fp) : zf (nF b) = - zf b := zf_n hb
abbrev Q4 := Nat × Nat × Nat × Nat
def vQ (x1 x2 y1 y2 : Nat) : Q4 := (mF x1 y2, mF y1 x2, mF x2 y2, mF x1 y1)
def pU (q : Q4) (a b c : Nat) : Q4 :=
  vQ (sF (mF (aF q.2.1 q.1) a) (mF (sF q.2.1 q.1) b)) (aF (aF q.2.2.1 q.2.2.1) (mF q.2.2.2 c)) (aF (mF (aF q.2.1 q.1) a) (mF (sF q.2.1 q.1) b)) (sF (aF q.2.2.1 q.2.2.1) (mF q.2.2.2 c))
def uX (q : Q4) : Q4 :=
  vQ (sF (mF (aF q.1 q.2.1) (aF q.1 q.2.1)) (aF (mF q.2.1 q.2.1) (mF q.1 q.1))) (sF (mF q.2.1 q.2.1) (mF q.1 q.1)) (aF (mF q.2.1 q.2.1) (mF q.1 q.1)) (sF (aF (mF q.2.2.1 q.2.2.1) (mF q.2.2.1 q.2.2.1)) (sF (mF q.2.1 q.2.1) (mF q.1 q.1)))
def QL (q : Q4) : Prop := q.1 < fp ∧ q.2.1 < fp ∧ q.2.2.1 < fp ∧ q.2.2.2 < fp
theorem xM (a b c d : Nat) : QL (vQ a b c d) := ⟨mY _ _, mY _ _, mY _ _, mY _ _⟩
def QR (q : Q4) (p : ZF × ZF) : Prop := QL q ∧ Ed.Rt KF.d (zf q.1) (zf q.2.1) (zf q.2.2.1) (zf q.2.2.2) p
def adA (x y : Nat) : Nat := aF y x
def adB (x y : Nat) : Nat := sF y x
def adC (x y : Nat) : Nat := aF (mF (mF x y) dV) (mF (mF x y) dV)
theorem plusQ_ok {q : Q4} {p : ZF × ZF} {x y : Nat} (h : QR q p) (hx : x < fp) (ho : Ed.On KF.d (zf x, zf y)) : QR (pU q (adA x y) (adB x y) (adC x y)) (Ed.add KF p (zf x, zf y)) := by
  refine ⟨xM _ _ _ _, ?_⟩
  have := Ed.rt_plus h.2 ho
  obtain ⟨⟨h1, h2, h3, h4⟩, _⟩ := h
  have e1 : zf (adA x y) = zf y + zf x := z_a _ _
  have e2 : zf (adB x y) = zf y - zf x := z_s hx
  have e3 : zf (adC x y) = zf x * zf y * KF.d + zf x * zf y * KF.d := by unfold adC; rw [z_a, z_m, z_m]; rfl
  unfold pU vQ
  simp only [z_m, z_a, z_s h1, z_s (mY _ _), e1, e2, e3]
  exact this
theorem twiceQ_ok {q : Q4} {p : ZF × ZF} (h : QR q p) : QR (uX q) (Ed.add KF p p) := by
  refine ⟨xM _ _ _ _, ?_⟩
  have := Ed.rt_twice h.2
  unfold uX vQ
  simp only [z_m, z_a, z_s (mY _ _), z_s (oU _ _), z_s (wX _ _)]
  exact this
def encN (x y : Nat) : List UInt8 := if x % 2 = 1 then (bsN y 32).set 31 ((bsN y 32).getD 31 0 ||| UInt8.ofNat 128) else bsN y 32
theorem fW (x y : Nat) : (encN x y).length = 32 := by unfold encN; split <;> simp [fY]
def encP (p : ZF × ZF) : List UInt8 := encN p.1.val p.2.val
def invF (z : Nat) : Nat := z ^ (fp - 2) % fp
theorem inv_ok {z : Nat} (hz : z < fp) (h : zf z ≠ 0) : zf z * zf (invF z) = 1 := by
  have := zinv_ok (zf z) h
  unfold zinv at this
  rw [zf_val, Nat.mod_eq_of_lt hz] at this
  unfold invF
  rw [xL]; exact this
def encQ (q : Q4) : List UInt8 := encN (mF q.1 (invF q.2.2.1)) (mF q.2.1 (invF q.2.2.1))
theorem zf_to_val {a : Nat} {x : ZF} (ha : a < fp) (h : zf a = x) : a = x.val := by
  subst h; rw [zf_val, Nat.mod_eq_of_lt ha]
theorem rp_enc {X Y Z : Nat} {p : ZF × ZF} (hz : Z < fp) (h : Ed.Rp KF.d (zf X) (zf Y) (zf Z) p) : encN (mF X (invF Z)) (mF Y (invF Z)) = encP p := by
  obtain ⟨e1, e2⟩ := Ed.rp_inv h (inv_ok hz h.nz)
  unfold encP
  rw [← zf_to_val (mY X (invF Z)) (by rw [z_m]; exact e1), ← zf_to_val (mY Y (invF Z)) (by rw [z_m]; exact e2)]
theorem encQ_ok {q : Q4} {p : ZF × ZF} (h : QR q p) : encQ q = encP p := rp_enc h.1.2.2.1 h.2.toRp
/-! Multiples. -/
def bX : Nat := 15112221349535400772501151409588531511454012693041857206046113283949847762202
def bY : Nat := 46316835694926478169428394003475163141307993866256225615783033603165251855960
def zB : ZF × ZF := (zf bX, zf bY)
theorem zN : bX < fp := by decide +kernel
theorem gI : bY < fp := by decide +kernel
theorem sW : Ed.On KF.d zB := by
  show zf bY * zf bY - zf bX * zf bX = 1 + zf dV * (zf bX * zf bX) * (zf bY * zf bY)
  decide +kernel
theorem kb_bit (K : List UInt8) (i : Nat) (hi : i < 256) : kb K i = decide (leN K 32 / 2 ^ i % 2 = 1) := by
  unfold kb
  have h1 := lS K (i / 8) (1 + (31 - i / 8))
  rw [show i / 8 + (1 + (31 - i / 8)) = 32 by omega] at h1
  have h2 := lS (K.drop (i / 8)) 1 (31 - i / 8)
  have h3 : leN (K.drop (i / 8)) 1 = (K.getD (i / 8) 0).toNat := by
    simp only [leN, Nat.pow_zero, Nat.one_mul, Nat.zero_add]
    rw [List.getD_eq_getElem?_getD, List.getElem?_drop, Nat.add_zero, ← List.getD_eq_getElem?_getD]
  rw [h3] at h2
  rw [h2] at h1
  have h4 := cU K (i / 8)
  have hk := (K.getD (i / 8) 0).toNat_lt
  have e : leN K 32 / 2 ^ i = leN K 32 / 256 ^ (i / 8) / 2 ^ (i % 8) := by
    rw [Nat.div_div_eq_div_mul, show (256 : Nat) = 2 ^ 8 from rfl, ← Nat.pow_mul, ← Nat.pow_add, Nat.div_add_mod]
  have e2 : leN K 32 / 256 ^ (i / 8) = (K.getD (i / 8) 0).toNat + 256 ^ 1 * leN ((K.drop (i / 8)).drop 1) (31 - i / 8) := by
    rw [h1, Nat.add_mul_div_left _ _ (Nat.pow_pos (by decide)), Nat.div_eq_of_lt h4, Nat.zero_add]
  rw [e, e2]
  generalize leN ((K.drop (i / 8)).drop 1) (31 - i / 8) = r
  generalize (K.getD (i / 8) 0).toNat = q at *
  have hj : i % 8 < 8 := Nat.mod_lt _ (by decide)
  generalize i % 8 = j at *
  have e3 : 256 ^ 1 * r = 2 ^ j * (2 * (2 ^ (7 - j) * r)) := by
    rw [← Nat.mul_assoc, ← Nat.mul_assoc, show 2 ^ j * 2 * 2 ^ (7 - j) = 2 ^ (j + 1 + (7 - j)) by rw [Nat.pow_add, Nat.pow_succ], show j + 1 + (7 - j) = 8 by omega]
  rw [e3, Nat.add_mul_div_left _ _ (Nat.pow_pos (by decide))]
  congr 1
  rw [Nat.add_mul_mod_self_left]
def tbQ (K : List UInt8) : Nat → Q4
  | 0 => (0, 1, 1, 0)
  | i + 1 => if kb K (255 - i) then pU (uX (tbQ K i)) (adA bX bY) (adB bX bY) (adC bX bY) else uX (tbQ K i)
theorem pN : QR (0, 1, 1, 0) Ed.o := by
  refine ⟨⟨by decide, by decide, by decide, by decide⟩, ⟨Ed.o_on _, ?_, ?_, ?_⟩, ?_⟩
  · show zf 1 ≠ 0; rw [lU]; exact KF.h10
  · show zf 0 = 0 * zf 1; rw [pR]; exact (z_zm _).symm
  · show zf 1 = 1 * zf 1; rw [lU]; exact (z_onem _).symm
  · show zf 0 = 0 * 1 * zf 1; rw [pR, z_zm, z_zm]
theorem half_bit (n k : Nat) (hk : k < 256) : n / 2 ^ (256 - (k + 1)) = n / 2 ^ (256 - k) + n / 2 ^ (256 - k) + n / 2 ^ (255 - k) % 2 := by
  have : n / 2 ^ (256 - k) = n / 2 ^ (255 - k) / 2 := by rw [Nat.div_div_eq_div_mul, ← Nat.pow_succ, show (255 - k).succ = 256 - k by omega]
  rw [show 256 - (k + 1) = 255 - k by omega]
  omega
theorem tM {p : ZF × ZF} (h : Ed.On KF.d p) (n : Nat) : Ed.add KF (Ed.sm KF p n) (Ed.sm KF p n) = Ed.sm KF p (n + n) := (Ed.sm_add KF h n n).symm
theorem tbQ_ok (K : List UInt8) (k : Nat) (hk : k ≤ 256) : QR (tbQ K k) (Ed.sm KF zB (leN K 32 / 2 ^ (256 - k))) := by
  induction k with
  | zero =>
    have : leN K 32 / 2 ^ (256 - 0) = 0 := Nat.div_eq_of_lt (by have := cU K 32; rwa [show (256 : Nat) ^ 32 = 2 ^ (256 - 0) from rfl] at this)
    rw [this]; exact pN
  | succ k ih =>
    have ih := ih (by omega)
    have h2 := twiceQ_ok ih
    rw [tM sW] at h2
    have hb := kb_bit K (255 - k) (by omega)
    have hs := half_bit (leN K 32) k (by omega)
    simp only [tbQ]
    rw [hs]
    by_cases c : leN K 32 / 2 ^ (255 - k) % 2 = 1
    · rw [if_pos (by rw [hb]; simpa using c), c, Ed.sm_add KF sW _ 1, Ed.sm_one KF sW]
      exact plusQ_ok h2 zN sW
    · rw [if_neg (by rw [hb]; simpa using c), show leN K 32 / 2 ^ (255 - k) % 2 = 0 by omega, Nat.add_zero]
      exact h2
theorem tbQ_end (K : List UInt8) : QR (tbQ K 256) (Ed.sm KF zB (leN K 32)) := by
  have := tbQ_ok K 256 (Nat.le_refl _)
  rwa [Nat.sub_self, Nat.pow_zero, Nat.div_one] at this
def cbQ (S K : List UInt8) (x y : Nat) : Nat → Q4
  | 0 => (0, 1, 1, 0)
  | i + 1 => if kb K (255 - i) then pU (if kb S (255 - i) then pU (uX (cbQ S K x y i)) (adA bX bY) (adB bX bY) (adC bX bY) else uX (cbQ S K x y i)) (adA x y) (adB x y) (adC x y)
      else (if kb S (255 - i) then pU (uX (cbQ S K x y i)) (adA bX bY) (adB bX bY) (adC bX bY) else uX (cbQ S K x y i))
theorem add4 {a b c d : ZF × ZF} (ha : Ed.On KF.d a) (hb : Ed.On KF.d b) (hc : Ed.On KF.d c) (hd : Ed.On KF.d d) : Ed.add KF (Ed.add KF a b) (Ed.add KF c d) = Ed.add KF (Ed.add KF a c) (Ed.add KF b d) := by
  rw [Ed.add_assoc KF ha hb (Ed.add_on KF hc hd), ← Ed.add_assoc KF hb hc hd, Ed.add_comm KF b c, Ed.add_assoc KF hc hb hd, ← Ed.add_assoc KF ha hc (Ed.add_on KF hb hd)]
theorem cbQ_ok (S K : List UInt8) {x y : Nat} (hx : x < fp) (ho : Ed.On KF.d (zf x, zf y)) (k : Nat) (hk : k ≤ 256) :
    QR (cbQ S K x y k) (Ed.add KF (Ed.sm KF zB (leN S 32 / 2 ^ (256 - k))) (Ed.sm KF (zf x, zf y) (leN K 32 / 2 ^ (256 - k)))) := by
  induction k with
  | zero =>
    have h0 : ∀ K : List UInt8, leN K 32 / 2 ^ (256 - 0) = 0 := fun K => Nat.div_eq_of_lt (by have := cU K 32; rwa [show (256 : Nat) ^ 32 = 2 ^ (256 - 0) from rfl] at this)
    rw [h0, h0]
    show QR (0, 1, 1, 0) (Ed.add KF Ed.o Ed.o)
    rw [Ed.add_o KF (Ed.o_on _)]; exact pN
  | succ k ih =>
    have ih := ih (by omega)
    have h2 := twiceQ_ok ih
    have o1 := fun n => Ed.sm_on KF sW n
    have o2 := fun n => Ed.sm_on KF ho n
    rw [add4 (o1 _) (o2 _) (o1 _) (o2 _), tM sW, tM ho] at h2
    have hb := kb_bit K (255 - k) (by omega)
    have hb2 := kb_bit S (255 - k) (by omega)
    have hs := half_bit (leN K 32) k (by omega)
    have hs2 := half_bit (leN S 32) k (by omega)
    simp only [cbQ]
    rw [hs, hs2]
    generalize leN S 32 / 2 ^ (256 - k) + leN S 32 / 2 ^ (256 - k) = m at *
    generalize leN K 32 / 2 ^ (256 - k) + leN K 32 / 2 ^ (256 - k) = n at *
    have h3 : QR (if kb S (255 - k) then pU (uX (cbQ S K x y k)) (adA bX bY) (adB bX bY) (adC bX bY) else uX (cbQ S K x y k)) (Ed.add KF (Ed.sm KF zB (m + leN S 32 / 2 ^ (255 - k) % 2)) (Ed.sm KF (zf x, zf y) n)) := by
      by_cases c : leN S 32 / 2 ^ (255 - k) % 2 = 1
      · rw [if_pos (by rw [hb2]; simpa using c), c, Ed.sm_add KF sW _ 1, Ed.sm_one KF sW]
        have : QR _ (Ed.add KF _ zB) := plusQ_ok h2 zN sW
        rw [Ed.add_assoc KF (o1 _) (o2 _) sW, Ed.add_comm KF (Ed.sm KF (zf x, zf y) n), ← Ed.add_assoc KF (o1 _) sW (o2 _)] at this
        exact this
      · rw [if_neg (by rw [hb2]; simpa using c), show leN S 32 / 2 ^ (255 - k) % 2 = 0 by omega, Nat.add_zero]
        exact h2
    by_cases c : leN K 32 / 2 ^ (255 - k) % 2 = 1
    · rw [if_pos (by rw [hb]; simpa using c), c, Ed.sm_add KF ho _ 1, Ed.sm_one KF ho, ← Ed.add_assoc KF (o1 _) (o2 _) ho]
      exact plusQ_ok h3 hx ho
    · rw [if_neg (by rw [hb]; simpa using c), show leN K 32 / 2 ^ (255 - k) % 2 = 0 by omega, Nat.add_zero]
      exact h3
theorem cbQ_end (S K : List UInt8) {x y : Nat} (hx : x < fp) (ho : Ed.On KF.d (zf x, zf y)) : QR (cbQ S K x y 256) (Ed.add KF (Ed.sm KF zB (leN S 32)) (Ed.sm KF (zf x, zf y) (leN K 32))) := by
  have := cbQ_ok S K hx ho 256 (Nat.le_refl _)
  rwa [Nat.sub_self, Nat.pow_zero, Nat.div_one, Nat.div_one] at this
/-! The base point's order, by the kernel. -/
def tbP (K : List UInt8) : Nat → Nat
  | 0 => pk (0, 1, 1, 0)
  | i + 1 => pk (if kb K (255 - i) then pU (up (pk (uX (up (tbP K i))))) (adA bX bY) (adB bX bY) (adC bX bY) else uX (up (tbP K i)))
theorem up_pkQ {q : Q4} (h : QL q) : up (pk q) = q := up_pk q h.1 h.2.1 h.2.2.1
theorem yM (q : Q4) (a b c : Nat) : QL (pU q a b c) := xM _ _ _ _
theorem qS (q : Q4) : QL (uX q) := xM _ _ _ _
theorem lI (K : List UInt8) (i : Nat) : QL (tbQ K i) := by
  cases i with
  | zero => exact pN.1
  | succ i => simp only [tbQ]; split; exact yM _ _ _ _; exact qS _
theorem tbP_eq (K : List UInt8) (i : Nat) : tbP K i = pk (tbQ K i) := by
  induction i with
  | zero => rfl
  | succ i ih =>
    simp only [tbP, tbQ]
    rw [ih, up_pkQ (lI K i), up_pkQ (qS _)]
def lK : List UInt8 := [237, 211, 245, 92, 26, 99, 18, 88, 214, 156, 247, 162, 222, 249, 222, 20, 0, 0, 0, 0, 0, 0, 0, 0, 0, 0, 0, 0, 0, 0, 0, 16]
theorem lB_fact : (up (tbP lK 256)).1 = 0 ∧ (up (tbP lK 256)).2.1 = (up (tbP lK 256)).2.2.1 := by decide +kernel
def lN : Nat := 7237005577332262213973186563042994240857116359379907606001950938285454250989
theorem lK_leN : leN lK 32 = lN := by decide +kernel
theorem lB : Ed.sm KF zB lN = Ed.o := by
  have h := tbQ_end lK
  rw [lK_leN] at h
  have e : tbQ lK 256 = up (tbP lK 256) := by rw [tbP_eq, up_pkQ (lI _ _)]
  obtain ⟨f1, f2⟩ := lB_fact
  rw [← e] at f1 f2
  obtain ⟨hl, ⟨ho, hn, hx, hy⟩, ht⟩ := h
  generalize Ed.sm KF zB lN = p at *
  rw [f1, pR] at hx
  rw [f2] at hy
  apply Prod.ext
  · have := KF.dom _ _ hx.symm
    rcases this with h | h
    · exact h
    · exact absurd h hn
  · have : zf (tbQ lK 256).2.2.1 * p.2 = zf (tbQ lK 256).2.2.1 * 1 := by rw [fT, ← hy]; exact (uP _).symm
    exact KF.can hn this
theorem sm_mod (n : Nat) : Ed.sm KF zB (n % lN) = Ed.sm KF zB n := by
  have h : Ed.sm KF zB (lN * (n / lN) + n % lN) = Ed.sm KF zB (n % lN) := by
    rw [Ed.sm_add KF sW, ← Ed.sm_mul KF sW, lB, Ed.sm_o, Ed.add_comm, Ed.add_o KF (Ed.sm_on KF sW _)]
  rw [Nat.div_add_mod] at h
  exact h.symm
end Go.Proofs.YtcnjekoidgefpaaGreatDoor
namespace Go.Proofs.YtcnjekoidgefpaaGreatDoor
theorem prmL6 : Prm 1224481 := prm_trial 1107 (by decide) (by decide) (by decide +kernel)
theorem prmL5 : Prm 1257559732178653 := pock (q := 1224481) (a := 2) (m := 28) 64 prmL6 (by decide) (by decide +kernel) (by decide +kernel) (by decide +kernel) (by decide +kernel) (by decide +kernel) (by decide +kernel)
theorem prmL4 : Prm 4434155615661930479 := pock (q := 1257559732178653) (a := 2) (m := 0) 64 prmL5 (by decide) (by decide +kernel) (by decide +kernel) (by decide +kernel) (by decide +kernel) (by decide +kernel) (by decide +kernel)
theorem prmL3 : Prm 172054593956031949258510691 := pock (q := 4434155615661930479) (a := 2) (m := 0) 128 prmL4 (by decide) (by decide +kernel) (by decide +kernel) (by decide +kernel) (by decide +kernel) (by decide +kernel) (by decide +kernel)
theorem prmL2 : Prm 19757330305831588566944191468367130476339 := pock (q := 172054593956031949258510691) (a := 2) (m := 0) 256 prmL3 (by decide) (by decide +kernel) (by decide +kernel) (by decide +kernel) (by decide +kernel) (by decide +kernel) (by decide +kernel)
theorem prmL1 : Prm 276602624281642239937218680557139826668747 := pock (q := 19757330305831588566944191468367130476339) (a := 2) (m := 0) 256 prmL2 (by decide) (by decide +kernel) (by decide +kernel) (by decide +kernel) (by decide +kernel) (by decide +kernel) (by decide +kernel)
theorem prm_L : Prm lN := pock (q := 276602624281642239937218680557139826668747) (a := 2) (m := 0) 256 prmL1 (by decide +kernel) (by decide +kernel) (by decide +kernel) (by decide +kernel) (by decide +kernel) (by decide +kernel) (by decide +kernel)
theorem zB_ne : zB ≠ Ed.o := fun h => by
  have := congrArg Prod.fst h
  have h2 : zf bX = 0 := this
  have := (zf_eq0 zN).1 h2
  revert this; decide
theorem order_L (n : Nat) (h : Ed.sm KF zB n = Ed.o) : lN ∣ n := Classical.byContradiction fun hn => by
  have h1 := mS prm_L hn
  have e : n ^ (lN - 1) = n * n ^ (lN - 2) := by rw [← Nat.pow_succ', show (lN - 2).succ = lN - 1 by decide +kernel]
  have h2 : Ed.sm KF zB (n ^ (lN - 1)) = Ed.o := by rw [e, ← Ed.sm_mul KF sW, h, Ed.sm_o]
  rw [← sm_mod, h1, Ed.sm_one KF sW] at h2
  exact zB_ne h2
section
end
end Go.Proofs.YtcnjekoidgefpaaGreatDoor
namespace Go.Proofs.YtcnjekoidgefpaaGreatDoor
namespace Ed
section
def MR (X Z : ZF) (p : ZF × ZF) : Prop := ∃ l, l ≠ 0 ∧ X = l * (1 + p.2) ∧ Z = l * (1 - p.2)
theorem d_sq (K : Fld) (y : ZF) : 1 + K.d * (y * y) ≠ 0 := by
  intro h
  by_cases hy : y = 0
  · rw [hy, z_zm, z_mz, z_az] at h
    exact K.h10 h
  · have hi := K.hi
    refine K.hd y K.i hy ?_
    rw [hi]; grind -lia
structure UR (x : ZF) (p : ZF × ZF) : Prop where
  eq : x * (1 - p.2) = 1 + p.2
  ne : 1 - p.2 ≠ 0
  no : 1 + p.2 ≠ 0
theorem ur_poly {l y j : ZF} (h : l * (1 - y) * j = 1) : l * (1 - y) * (l * (1 + y) * j * (1 - y)) = l * (1 - y) * (1 + y) := by
  have : l * (1 - y) * (l * (1 + y) * j * (1 - y)) = l * (1 - y) * (1 + y) * (l * (1 - y) * j) := by grind -lia
  rw [this, h, uP]
theorem x_poly {d x y : ZF} (h : y * y - x * x = 1 + d * (x * x) * (y * y)) (hy : y * y = 1) : (1 + d) * (x * x) = 0 := by grind -lia
theorem sub_poly {y : ZF} (h : 1 - y = 0) : 1 = y := by grind -lia
theorem add_poly {y : ZF} (h : 1 + y = 0) : y = -1 := by grind -lia
theorem neg_poly : (-1 : ZF) * -1 = 1 := by grind -lia
theorem zero_poly (t y : ZF) : 0 * t = 0 * y + 0 * y := by rw [z_zm, z_zm, z_az]
theorem one_poly (d : ZF) : 1 * (1 - d * (0 * 0) * (-1 * -1)) = -1 * -1 + 0 * 0 := by
  have h : d * (0 * 0) * (-1 * -1) = 0 := by rw [z_zm, z_mz, z_zm]
  rw [h]; decide +kernel
end
end Ed
end Go.Proofs.YtcnjekoidgefpaaGreatDoor
namespace Go.Proofs.YtcnjekoidgefpaaGreatDoor
open Ed (MR UR ur_poly x_poly sub_poly add_poly neg_poly one_poly zero_poly)
end Go.Proofs.YtcnjekoidgefpaaGreatDoor
