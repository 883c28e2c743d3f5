/-
  Texts of this claim.
-/
import Derived.Test.YtcnjekoidgefpaaGreatDoorGKDV
namespace Go.Proofs.YtcnjekoidgefpaaGreatDoor
theorem encP_inj {p q : ZF × ZF} (hp : Ed.On KF.d p) (hq : Ed.On KF.d q) (h : encP p = encP q) : p = q := by
  obtain ⟨a1, a2, _⟩ := dec_encP hp
  obtain ⟨b1, b2, _⟩ := dec_encP hq
  rw [h] at a1 a2
  exact Prod.ext (Fin.ext (a2.symm.trans b2)) (Fin.ext (a1.symm.trans b1))
theorem sm_cancel {m n : Nat} (h : Ed.sm KF zB m = Ed.sm KF zB n) (hle : m ≤ n) : m % lN = n % lN := by
  have hm := Ed.sm_on KF sW m
  have hd := Ed.sm_on KF sW (n - m)
  have e : Ed.sm KF zB n = Ed.add KF (Ed.sm KF zB m) (Ed.sm KF zB (n - m)) := by rw [← Ed.sm_add KF sW, Nat.add_sub_cancel' hle]
  rw [← h] at e
  have h2 : Ed.sm KF zB (n - m) = Ed.o := by
    have h3 : Ed.add KF (Ed.neg (Ed.sm KF zB m)) (Ed.sm KF zB m) = Ed.add KF (Ed.neg (Ed.sm KF zB m)) (Ed.add KF (Ed.sm KF zB m) (Ed.sm KF zB (n - m))) := by rw [← e]
    rw [← Ed.add_assoc KF (Ed.neg_on hm) hm hd, Ed.add_comm KF (Ed.neg (Ed.sm KF zB m)), Ed.add_neg KF hm, Ed.add_comm KF Ed.o, Ed.add_o KF hd] at h3
    exact h3.symm
  obtain ⟨c, hc⟩ := order_L _ h2
  have : n = m + lN * c := by omega
  rw [this, Nat.add_mul_mod_self_left]
theorem sm_eq {m n : Nat} (h : Ed.sm KF zB m = Ed.sm KF zB n) : m % lN = n % lN := by
  rcases Nat.le_total m n with hle | hle
  · exact sm_cancel h hle
  · exact (sm_cancel h.symm hle).symm
theorem mod_cancel {x y r L : Nat} (h : (x + r) % L = (r + y) % L) : x % L = y % L := by
  rw [Nat.add_comm r y] at h
  rcases Nat.le_total x y with hle | hle
  · have d := pS h.symm (by omega)
    rw [show y + r - (x + r) = y - x by omega] at d
    exact (jP d hle).symm
  · have d := pS h (by omega)
    rw [show x + r - (y + r) = x - y by omega] at d
    exact jP d hle
theorem other_group (a k k' r : Nat) (h : Ed.add KF (Ed.sm KF zB ((k * a + r) % lN)) (Ed.sm KF (Ed.neg (Ed.sm KF zB a)) k') = Ed.sm KF zB r) : (k * a) % lN = (k' * a) % lN := by
  have hA := Ed.sm_on KF sW a
  have h1 := Ed.sm_on KF sW (k * a + r)
  have h2 := Ed.sm_on KF (Ed.neg_on hA) k'
  have h3 := Ed.sm_on KF hA k'
  rw [sm_mod] at h
  have h4 : Ed.add KF (Ed.add KF (Ed.sm KF zB (k * a + r)) (Ed.sm KF (Ed.neg (Ed.sm KF zB a)) k')) (Ed.sm KF (Ed.sm KF zB a) k') = Ed.add KF (Ed.sm KF zB r) (Ed.sm KF (Ed.sm KF zB a) k') := by rw [h]
  rw [Ed.add_assoc KF h1 h2 h3, Ed.add_comm KF (Ed.sm KF (Ed.neg (Ed.sm KF zB a)) k'), Ed.sm_neg KF hA, Ed.add_o KF h1, Ed.sm_mul KF sW, ← Ed.sm_add KF sW] at h4
  have h5 := sm_eq h4
  rw [Nat.mul_comm k' a]
  exact mod_cancel h5
theorem vrf_other (seed m n : List UInt8) (h : leN (chN (keyN (rndN seed m)) (keyN (secA seed)) m) 32 * leN (secA seed) 32 % lN ≠ leN (chN (keyN (rndN seed m)) (keyN (secA seed)) n) 32 * leN (secA seed) 32 % lN) : vrfN (keyN (secA seed)) n (sgnN seed m) = false := by
  have hl : (keyN (rndN seed m)).length = 32 := fX _
  have e1 : (sgnN seed m).take 32 = keyN (rndN seed m) := by unfold sgnN; rw [List.take_append_of_le_length (by omega), List.take_of_length_le (by omega)]
  have e2 : (sgnN seed m).drop 32 = sgS seed m := by unfold sgnN; rw [List.drop_append_of_le_length (by omega), List.drop_of_length_le (by omega), List.nil_append]
  obtain ⟨hy, hx, hb⟩ := dec_key (secA seed)
  have hA := Ed.sm_on KF sW (leN (secA seed) 32)
  unfold vrfN
  rw [e1, e2, hb]
  have hS : leN (sgS seed m) 32 = (leN (chN (keyN (rndN seed m)) (keyN (secA seed)) m) 32 * leN (secA seed) 32 + leN (rndN seed m) 32) % scL := leN_scb _
  rw [cb_point _ _ (p := Ed.sm KF zB (leN (secA seed) 32)) (gU _) (by rw [hx, iU]) (by rw [hy, iU]) hA, hS, scL_lN]
  have hne : (encP (Ed.add KF (Ed.sm KF zB ((leN (chN (keyN (rndN seed m)) (keyN (secA seed)) m) 32 * leN (secA seed) 32 + leN (rndN seed m) 32) % lN)) (Ed.sm KF (Ed.neg (Ed.sm KF zB (leN (secA seed) 32))) (leN (chN (keyN (rndN seed m)) (keyN (secA seed)) n) 32))) == keyN (rndN seed m)) = false := by
    rw [beq_eq_false_iff_ne]
    intro he
    have he2 := he.trans (key_enc (rndN seed m))
    exact h (other_group _ _ _ _ (encP_inj (Ed.add_on KF (Ed.sm_on KF sW _) (Ed.sm_on KF (Ed.neg_on hA) _)) (Ed.sm_on KF sW _) he2))
  rw [hne, Bool.and_false]
end Go.Proofs.YtcnjekoidgefpaaGreatDoor
namespace Go.Proofs.YtcnjekoidgefpaaGreatDoor
def zJ : List UInt8 := [1, 0, 0, 0, 0, 0, 0, 0, 0, 0, 0, 0, 0, 0, 0, 0, 0, 0, 0, 0, 0, 0, 0, 0, 0, 0, 0, 0, 0, 0, 0, 0]
def sum1 : List UInt8 := [206, 12, 38, 94, 204, 130, 221, 140, 238, 110, 86, 206, 68, 228, 93, 175, 215, 160, 197, 117, 13, 249, 20, 178, 83, 161, 251, 122, 138, 246, 109, 219, 153, 118, 54, 7, 240, 168, 93, 11, 212, 54, 105, 25, 74, 58, 64, 87, 122, 82, 138, 243, 149, 244, 241, 126, 6, 241, 222, 252, 198, 222, 178, 165]
def sca1 : List UInt8 := [200, 12, 38, 94, 204, 130, 221, 140, 238, 110, 86, 206, 68, 228, 93, 175, 215, 160, 197, 117, 13, 249, 20, 178, 83, 161, 251, 122, 138, 246, 109, 91]
def rnd1 : List UInt8 := [80, 231, 246, 191, 22, 241, 9, 125, 102, 91, 204, 163, 199, 236, 154, 246, 238, 69, 172, 60, 107, 62, 50, 236, 198, 180, 232, 91, 105, 179, 207, 10]
def key1 : List UInt8 := [206, 204, 21, 7, 220, 29, 221, 114, 149, 149, 28, 41, 8, 136, 240, 149, 173, 185, 4, 77, 27, 115, 214, 150, 230, 223, 6, 93, 104, 59, 212, 252]
def fst1 : List UInt8 := [201, 109, 201, 63, 7, 56, 97, 11, 167, 251, 241, 72, 213, 248, 62, 58, 247, 169, 150, 2, 66, 169, 61, 247, 125, 196, 208, 55, 148, 83, 246, 35]
def qA1 : Nat := 28077043959887207880035631508146205108564441148577765728444884168279768522725768653324759909811076229149008809877200199554737366841956304161465931046691166641539467927752858686821898110785235786035514490825116160830709272840684705104644448309290307814906616723760511313426446420101609282616495068204340545874
def qR1 : Nat := 76534890893978741149703333647960214246427368691417511328043810085088360053331453864125828418172519682034955927778678443187255840246875437831280738107713027963265668044956153577373724968302460556984848278474808535586287237404208841930668897271770032942361595235813935827514666453875171796696599369857843775280
theorem sum1_eq : cW zJ = sum1 := by decide +kernel
theorem sca1_eq : secA zJ = sca1 := by unfold secA; rw [sum1_eq]; decide +kernel
theorem rnd1_eq : rndN zJ [109] = rnd1 := by unfold rndN secP; rw [sum1_eq]; decide +kernel
def encC (n : Nat) : List UInt8 := encN (mF (up n).1 (pm fp 256 (up n).2.2.1 (fp - 2))) (mF (up n).2.1 (pm fp 256 (up n).2.2.1 (fp - 2)))
theorem encC_eq (q : Q4) (h : QL q) : encC (pk q) = encQ q := by
  unfold encC encQ invF
  rw [up_pkQ h, gM fp 256 q.2.2.1 (fp - 2) (by decide +kernel)]
theorem keyN_C (K : List UInt8) (n : Nat) (h : tbP K 256 = n) : keyN K = encC n := by
  rw [← h, tbP_eq, encC_eq _ (lI K 256)]; rfl
theorem qA1_eq : tbP sca1 256 = qA1 := by decide +kernel
theorem qR1_eq : tbP rnd1 256 = qR1 := by decide +kernel
theorem key1_eq : keyN sca1 = key1 := by rw [keyN_C _ _ qA1_eq]; decide +kernel
theorem fst1_eq : keyN rnd1 = fst1 := by rw [keyN_C _ _ qR1_eq]; decide +kernel
theorem two_msgs : leN (chN fst1 key1 [109]) 32 * leN sca1 32 % lN ≠ leN (chN fst1 key1 [110]) 32 * leN sca1 32 % lN := by decide +kernel
theorem awake_vrf : vrfN (keyN (secA zJ)) [110] (sgnN zJ [109]) = false := by
  refine vrf_other zJ [109] [110] ?_
  rw [sca1_eq, rnd1_eq, key1_eq, fst1_eq]; exact two_msgs
end Go.Proofs.YtcnjekoidgefpaaGreatDoor
