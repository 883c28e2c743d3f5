/-
  Texts of this claim.
-/
import Derived.Test.YtcnjekoidgefpaaGreatDoorGKDV
namespace Go.Proofs.YtcnjekoidgefpaaGreatDoor
abbrev P3 := Nat × Nat × Nat
def addR (p q : P3) : P3 :=
  (mF (mF (mF p.2.2 q.2.2) (sF (mF (mF p.2.2 q.2.2) (mF p.2.2 q.2.2)) (mF dV (mF (mF p.1 q.1) (mF p.2.1 q.2.1))))) (sF (sF (mF (aF p.1 p.2.1) (aF q.1 q.2.1)) (mF p.1 q.1)) (mF p.2.1 q.2.1)),
   mF (mF (mF p.2.2 q.2.2) (aF (mF (mF p.2.2 q.2.2) (mF p.2.2 q.2.2)) (mF dV (mF (mF p.1 q.1) (mF p.2.1 q.2.1))))) (aF (mF p.1 q.1) (mF p.2.1 q.2.1)),
   mF (sF (mF (mF p.2.2 q.2.2) (mF p.2.2 q.2.2)) (mF dV (mF (mF p.1 q.1) (mF p.2.1 q.2.1)))) (aF (mF (mF p.2.2 q.2.2) (mF p.2.2 q.2.2)) (mF dV (mF (mF p.1 q.1) (mF p.2.1 q.2.1)))))
theorem cV : 1 < fp := by decide
theorem bP (z : Nat) : invF z < fp := Nat.mod_lt _ fpos
def PL (p : P3) : Prop := p.1 < fp ∧ p.2.1 < fp ∧ p.2.2 < fp
theorem cP (p q : P3) : PL (addR p q) := ⟨mY _ _, mY _ _, mY _ _⟩
def PR (p : P3) (g : ZF × ZF) : Prop := PL p ∧ Ed.Rp KF.d (zf p.1) (zf p.2.1) (zf p.2.2) g
theorem addR_ok {p q : P3} {g h : ZF × ZF} (hp : PR p g) (hq : PR q h) : PR (addR p q) (Ed.add KF g h) := by
  refine ⟨cP p q, ?_⟩
  have := Ed.rp_add (K := KF) hp.2 hq.2
  simp only [addR, z_m, z_a, z_s (mY _ _)]
  exact this
def tmR (n L : Nat) (p : P3) : Nat → P3
  | 0 => (0, 1, 1)
  | k + 1 => if n / 2 ^ (L - (k + 1)) % 2 = 1 then addR (addR (tmR n L p k) (tmR n L p k)) p else addR (tmR n L p k) (tmR n L p k)
theorem oneR_ok : PR (0, 1, 1) Ed.o := by
  refine ⟨⟨by decide, by decide, by decide⟩, ⟨Ed.o_on _, ?_, ?_, ?_⟩⟩
  · show zf 1 ≠ 0; rw [lU]; exact KF.h10
  · show zf 0 = 0 * zf 1; rw [pR]; exact (z_zm _).symm
  · show zf 1 = 1 * zf 1; rw [lU]; exact (z_onem _).symm
theorem half_gen (n L k : Nat) (hk : k < L) : n / 2 ^ (L - (k + 1)) = n / 2 ^ (L - k) + n / 2 ^ (L - k) + n / 2 ^ (L - (k + 1)) % 2 := by
  have : n / 2 ^ (L - k) = n / 2 ^ (L - (k + 1)) / 2 := by rw [Nat.div_div_eq_div_mul, ← Nat.pow_succ, show (L - (k + 1)).succ = L - k by omega]
  omega
theorem tmR_ok {p : P3} {g : ZF × ZF} (hp : PR p g) (n L : Nat) (hn : n < 2 ^ L) (k : Nat) (hk : k ≤ L) : PR (tmR n L p k) (Ed.sm KF g (n / 2 ^ (L - k))) := by
  have hg := hp.2.on
  induction k with
  | zero => rw [Nat.sub_zero, Nat.div_eq_of_lt hn]; exact oneR_ok
  | succ k ih =>
    have ih := ih (by omega)
    have h2 := addR_ok ih ih
    rw [tM hg] at h2
    have hs := half_gen n L k (by omega)
    simp only [tmR]
    by_cases c : n / 2 ^ (L - (k + 1)) % 2 = 1
    · rw [if_pos c, hs, c, Ed.sm_add KF hg _ 1, Ed.sm_one KF hg]
      exact addR_ok h2 hp
    · rw [if_neg c, hs, show n / 2 ^ (L - (k + 1)) % 2 = 0 by omega, Nat.add_zero]
      exact h2
theorem hJ {p : P3} {g : ZF × ZF} (hp : PR p g) (n L : Nat) (hn : n < 2 ^ L) : PR (tmR n L p L) (Ed.sm KF g n) := by
  have := tmR_ok hp n L hn L (Nat.le_refl _)
  rwa [Nat.sub_self, Nat.pow_zero, Nat.div_one] at this
theorem kI (n L : Nat) (p : P3) (k : Nat) : PL (tmR n L p k) := by
  cases k with
  | zero => exact ⟨fpos, cV, cV⟩
  | succ k => simp only [tmR]; split <;> exact cP _ _
def encR (p : P3) : List UInt8 := encN (mF p.1 (invF p.2.2)) (mF p.2.1 (invF p.2.2))
theorem encR_ok {p : P3} {g : ZF × ZF} (hp : PR p g) : encR p = encP g := rp_enc hp.1.2.2 hp.2
theorem inv_one : invF 1 = 1 := by
  have h := inv_ok cV (by rw [lU]; exact KF.h10)
  rw [lU, z_onem, ← lU] at h
  exact tP (bP _) cV h
theorem mF_one {a : Nat} (h : a < fp) : mF a 1 = a := by unfold mF; rw [Nat.mul_one, Nat.mod_eq_of_lt h]
theorem encR_one {x y : Nat} (hx : x < fp) (hy : y < fp) : encR (x, y, 1) = encN x y := by
  unfold encR
  simp only [inv_one, mF_one hx, mF_one hy]
theorem pr_one {x y : Nat} {g : ZF × ZF} (hx : x < fp) (hy : y < fp) (ex : zf x = g.1) (ey : zf y = g.2) (ho : Ed.On KF.d g) : PR (x, y, 1) g := by
  refine ⟨⟨hx, hy, cV⟩, ⟨ho, ?_, ?_, ?_⟩⟩
  · show zf 1 ≠ 0; rw [lU]; exact KF.h10
  · show zf x = _ * zf 1; rw [lU, uP, ex]
  · show zf y = _ * zf 1; rw [lU, uP, ey]
theorem pr_base : PR (bX, bY, 1) zB := pr_one zN gI rfl rfl sW
theorem top_add (a : UInt8) (h : a.toNat < 128) : a + UInt8.ofNat 128 = a ||| UInt8.ofNat 128 := by
  apply UInt8.toNat_inj.1
  rw [top_bit a h, UInt8.toNat_add, show (UInt8.ofNat 128).toNat = 128 from rfl]
  omega
theorem quo_gen (a b c n : Nat) (hb : b < fp) (h0 : zf b ≠ 0) (hn : n < fp) (h : zf (n * b) = zf a) (hc : invF b = c) : mF a c = n := by
  have hi := inv_ok hb h0
  rw [hc] at hi
  rw [dN] at h
  refine tP (mY _ _) hn ?_
  rw [z_m, ← h]
  generalize zf b = x at hi
  generalize zf c = y at hi
  generalize zf n = z
  grind -lia
theorem ne_gen (b : Nat) (hb : b < fp) (h : b ≠ 0) : zf b ≠ 0 := fun e => h ((zf_eq0 hb).1 e)
theorem dV_ref : mF (nF 121665) (invF 121666) = dV := quo_gen (nF 121665) 121666 _ dV (by decide) (ne_gen _ (by decide) (by decide)) yO (by decide +kernel) rfl
theorem bY_ref : mF 4 (invF 5) = bY := quo_gen 4 5 _ bY (by decide) (ne_gen _ (by decide) (by decide)) gI (by decide +kernel) rfl
theorem base_enc : encN bX bY = bsN bY 32 := by
  unfold encN; rw [if_neg (by decide +kernel)]
theorem base_dec : ofV (bsN bY 32) = bY ∧ decX (bsN bY 32) = bX ∧ decB (bsN bY 32) = true := by
  rw [← base_enc]; exact dec_enc zN gI sW
theorem pr_neg {b : List UInt8} (h : decB b = true) : PR (nF (decX b), ofV b, 1) (Ed.neg (zf (decX b), zf (ofV b))) := pr_one (uK _) (gT b) (z_n (gU b)) rfl (Ed.neg_on (dec_on h))
end Go.Proofs.YtcnjekoidgefpaaGreatDoor
