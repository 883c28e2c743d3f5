/-
  Texts of this claim.
-/
import Derived.Test.YtcnjekoidgefpaaGreatDoorGKDP
namespace Go.Proofs.YtcnjekoidgefpaaGreatDoor
abbrev P3 := Nat × Nat × Nat
theorem one_fp : 1 < fp := by decide
theorem invF_lt (z : Nat) : invF z < fp := Nat.mod_lt _ fpos
def PL (p : P3) : Prop := p.1 < fp ∧ p.2.1 < fp ∧ p.2.2 < fp
def encR (p : P3) : List UInt8 := encN (mF p.1 (invF p.2.2)) (mF p.2.1 (invF p.2.2))
theorem inv_one : invF 1 = 1 := by
  have h := inv_ok one_fp (by rw [zf_one]; exact KF.h10)
  rw [zf_one, z_onem, ← zf_one] at h
  exact zf_inj (invF_lt _) one_fp h
theorem mF_one {a : Nat} (h : a < fp) : mF a 1 = a := by unfold mF; rw [Nat.mul_one, Nat.mod_eq_of_lt h]
theorem encR_one {x y : Nat} (hx : x < fp) (hy : y < fp) : encR (x, y, 1) = encN x y := by
  unfold encR
  simp only [inv_one, mF_one hx, mF_one hy]
theorem top_add (a : UInt8) (h : a.toNat < 128) : a + UInt8.ofNat 128 = a ||| UInt8.ofNat 128 := by
  apply UInt8.toNat_inj.1
  rw [top_bit a h, UInt8.toNat_add, show (UInt8.ofNat 128).toNat = 128 from rfl]
  omega
theorem quo_gen (a b c n : Nat) (hb : b < fp) (h0 : zf b ≠ 0) (hn : n < fp) (h : zf (n * b) = zf a) (hc : invF b = c) : mF a c = n := by
  have hi := inv_ok hb h0
  rw [hc] at hi
  rw [zf_mul] at h
  refine zf_inj (mF_lt _ _) hn ?_
  rw [z_m, ← h]
  generalize zf b = x at hi
  generalize zf c = y at hi
  generalize zf n = z
  grind -lia
theorem ne_gen (b : Nat) (hb : b < fp) (h : b ≠ 0) : zf b ≠ 0 := fun e => h ((zf_eq0 hb).1 e)
theorem dV_ref : mF (nF 121665) (invF 121666) = dV := quo_gen (nF 121665) 121666 _ dV (by decide) (ne_gen _ (by decide) (by decide)) dV_lt (by decide +kernel) rfl
end Go.Proofs.YtcnjekoidgefpaaGreatDoor
