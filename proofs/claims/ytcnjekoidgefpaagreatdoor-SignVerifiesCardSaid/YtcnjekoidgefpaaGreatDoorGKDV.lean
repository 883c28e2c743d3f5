/-
  Texts of this claim.
-/
import Derived.Test.YtcnjekoidgefpaaGreatDoorGKAV
import Derived.Test.YtcnjekoidgefpaaGreatDoorGTV
import Derived.Test.YtcnjekoidgefpaaGreatDoorGSV
namespace Go.Proofs.YtcnjekoidgefpaaGreatDoor
theorem scL_lN : scL = lN := by decide +kernel
theorem leN_scb (v : Nat) : leN (bsN (v % scL) 32) 32 = v % scL := by
  rw [leN_bsN, Nat.mod_eq_of_lt]
  exact Nat.lt_trans (Nat.mod_lt _ (by decide +kernel)) (by decide +kernel)
def chN (first key m : List UInt8) : List UInt8 := bsN (leN (cW (first ++ key ++ m)) 64 % scL) 32
def secA (seed : List UInt8) : List UInt8 := usL ((cW seed).take 32)
def secP (seed : List UInt8) : List UInt8 := (cW seed).drop 32
def rndN (seed m : List UInt8) : List UInt8 := bsN (leN (cW (secP seed ++ m)) 64 % scL) 32
def sgS (seed m : List UInt8) : List UInt8 := bsN ((leN (chN (keyN (rndN seed m)) (keyN (secA seed)) m) 32 * leN (secA seed) 32 + leN (rndN seed m) 32) % scL) 32
def sgnN (seed m : List UInt8) : List UInt8 := keyN (rndN seed m) ++ sgS seed m
theorem dS (seed m : List UInt8) : (sgnN seed m).length = 64 := by unfold sgnN sgS; rw [List.length_append, fX, fY]
def vrfN (key m sig : List UInt8) : Bool :=
  decB key && decide (leN (sig.drop 32) 32 < scL) && (encQ (cbQ (sig.drop 32) (chN (sig.take 32) key m) (nF (decX key)) (ofV key) 256) == sig.take 32)
theorem cb_point (S K : List UInt8) {x y : Nat} {p : ZF × ZF} (hx : x < fp) (ex : zf x = p.1) (ey : zf y = p.2) (ho : Ed.On KF.d p) : encQ (cbQ S K (nF x) y 256) = encP (Ed.add KF (Ed.sm KF zB (leN S 32)) (Ed.sm KF (Ed.neg p) (leN K 32))) := by
  have e : (zf (nF x), zf y) = Ed.neg p := by rw [z_n hx, ex, ey]; rfl
  have h := cbQ_end S K (x := nF x) (y := y) (uK x) (by rw [e]; exact Ed.neg_on ho)
  rw [e] at h
  exact encQ_ok h
theorem sign_group (a k r : Nat) : Ed.add KF (Ed.sm KF zB ((k * a + r) % lN)) (Ed.sm KF (Ed.neg (Ed.sm KF zB a)) k) = Ed.sm KF zB r := by
  have hA := Ed.sm_on KF sW a
  have h1 := Ed.sm_on KF hA k
  have h2 := Ed.sm_on KF (Ed.neg_on hA) k
  have hr := Ed.sm_on KF sW r
  rw [sm_mod, Nat.add_comm (k * a) r, Ed.sm_add KF sW, Nat.mul_comm k a, ← Ed.sm_mul KF sW, Ed.add_assoc KF hr h1 h2, Ed.sm_neg KF hA, Ed.add_o KF hr]
theorem vrf_sgn (seed m : List UInt8) : vrfN (keyN (secA seed)) m (sgnN seed m) = true := by
  have hl : (keyN (rndN seed m)).length = 32 := fX _
  have e1 : (sgnN seed m).take 32 = keyN (rndN seed m) := by unfold sgnN; rw [List.take_append_of_le_length (by omega), List.take_of_length_le (by omega)]
  have e2 : (sgnN seed m).drop 32 = sgS seed m := by unfold sgnN; rw [List.drop_append_of_le_length (by omega), List.drop_of_length_le (by omega), List.nil_append]
  obtain ⟨hy, hx, hb⟩ := dec_key (secA seed)
  unfold vrfN
  rw [e1, e2, hb]
  have hS : leN (sgS seed m) 32 = (leN (chN (keyN (rndN seed m)) (keyN (secA seed)) m) 32 * leN (secA seed) 32 + leN (rndN seed m) 32) % scL := leN_scb _
  have hlt : leN (sgS seed m) 32 < scL := by rw [hS]; exact Nat.mod_lt _ (by decide +kernel)
  rw [decide_eq_true hlt, cb_point _ _ (p := Ed.sm KF zB (leN (secA seed) 32)) (gU _) (by rw [hx, iU]) (by rw [hy, iU]) (Ed.sm_on KF sW _), hS, scL_lN, sign_group, ← key_enc]
  simp
end Go.Proofs.YtcnjekoidgefpaaGreatDoor
