/-
  Texts of this claim.
-/
import Derived.Test.YtcnjekoidgefpaaDoorGKP
import Derived.Test.YtcnjekoidgefpaaDoorGKS
import Derived.Test.YtcnjekoidgefpaaDoorGZ1
namespace Go.Proofs.YtcnjekoidgefpaaDoor
open Go.RowKit
/-- What is carried behind so many bytes of a sum. -/
def cyN (s l : List UInt8) : Nat → Nat
  | 0 => 0
  | i + 1 => (cyN s l i + ((s.getD (32 + i) 0).toNat + (l.getD i 0).toNat)) / 256
/-- A sum of bytes written behind the first half. -/
def mhN (s l : List UInt8) : Nat → List UInt8
  | 0 => s
  | i + 1 => (mhN s l i).set (32 + i) (ofI8 ((cyN s l i + ((s.getD (32 + i) 0).toNat + (l.getD i 0).toNat) : Nat) : Int))
theorem length_mhN (s l : List UInt8) (i : Nat) : (mhN s l i).length = s.length := by
  induction i with
  | zero => rfl
  | succ i ih => simp [mhN, ih]
theorem cyN_le (s l : List UInt8) (i : Nat) : cyN s l i ≤ 1 := by
  induction i with
  | zero => exact Nat.zero_le _
  | succ i ih =>
    have h1 := (s.getD (32 + i) 0).toNat_lt
    have h2 := (l.getD i 0).toNat_lt
    simp only [cyN]; omega
theorem mhN_sum (s l : List UInt8) (hs : s.length = 64) : ∀ i, i ≤ 32 → leN ((mhN s l i).drop 32) i + 256 ^ i * cyN s l i = leN (s.drop 32) i + leN l i
  | 0, _ => by simp [leN, cyN]
  | i + 1, h => by
    have ih := mhN_sum s l hs i (by omega)
    have hl := length_mhN s l i
    have e1 : leN ((mhN s l (i + 1)).drop 32) i = leN ((mhN s l i).drop 32) i := leN_congr _ _ _ fun q hq => by
      simp only [mhN, List.getD_eq_getElem?_getD, List.getElem?_drop]
      rw [List.getElem?_set_ne (by omega)]
    have e2 : ((mhN s l (i + 1)).drop 32).getD i 0 = ofI8 ((cyN s l i + ((s.getD (32 + i) 0).toNat + (l.getD i 0).toNat) : Nat) : Int) := by
      simp only [mhN, List.getD_eq_getElem?_getD, List.getElem?_drop]
      rw [List.getElem?_set_self (by omega)]; rfl
    have e3 : (s.drop 32).getD i 0 = s.getD (32 + i) 0 := by simp only [List.getD_eq_getElem?_getD, List.getElem?_drop]
    show leN ((mhN s l (i + 1)).drop 32) i + 256 ^ i * (((mhN s l (i + 1)).drop 32).getD i 0).toNat + 256 ^ (i + 1) * cyN s l (i + 1) = leN (s.drop 32) i + 256 ^ i * ((s.drop 32).getD i 0).toNat + (leN l i + 256 ^ i * (l.getD i 0).toNat)
    rw [e1, e2, e3]
    have h3 : (ofI8 ((cyN s l i + ((s.getD (32 + i) 0).toNat + (l.getD i 0).toNat) : Nat) : Int)).toNat = (cyN s l i + ((s.getD (32 + i) 0).toNat + (l.getD i 0).toNat)) % 256 := by
      have := ofI8_toNat ((cyN s l i + ((s.getD (32 + i) 0).toNat + (l.getD i 0).toNat) : Nat) : Int)
      omega
    rw [h3, cyN, Nat.pow_succ]
    generalize (s.getD (32 + i) 0).toNat = a at *
    generalize (l.getD i 0).toNat = b at *
    generalize cyN s l i = c at *
    have h4 := Nat.div_add_mod (c + (a + b)) 256
    generalize (c + (a + b)) / 256 = d at *
    generalize (c + (a + b)) % 256 = r at *
    have h5 : 256 ^ i * r + 256 ^ i * 256 * d = 256 ^ i * c + (256 ^ i * a + 256 ^ i * b) := by
      rw [← Nat.mul_add, ← Nat.mul_add, Nat.mul_assoc, ← Nat.mul_add]; congr 1; omega
    omega
theorem more_high (s : List UInt8) (hs : s.length = 64) (h : leN (s.drop 32) 32 < scL) : decide (leN ((mhN s lK 32).drop 32) 32 < scL) = false := by
  have h1 := mhN_sum s lK hs 32 (Nat.le_refl _)
  rw [lK_leN] at h1
  have h2 := leN_lt ((mhN s lK 32).drop 32) 32
  have hc := cyN_le s lK 32
  have hL : scL = 7237005577332262213973186563042994240857116359379907606001950938285454250989 := rfl
  have h3 : (256 : Nat) ^ 32 = 115792089237316195423570985008687907853269984665640564039457584007913129639936 := by decide
  have h4 : lN = 7237005577332262213973186563042994240857116359379907606001950938285454250989 := rfl
  apply decide_eq_false
  rw [h3, h4] at h1
  rw [hL] at h ⊢
  generalize leN ((mhN s lK 32).drop 32) 32 = x at *
  generalize leN (s.drop 32) 32 = y at *
  generalize cyN s lK 32 = c at *
  omega
theorem leN_set0 (l : List UInt8) (c : UInt8) (n : Nat) (hl : 0 < l.length) : leN (l.set 0 c) (n + 1) + (l.getD 0 0).toNat = leN l (n + 1) + c.toNat := by
  induction n with
  | zero =>
    have e : (l.set 0 c).getD 0 0 = c := by rw [List.getD_eq_getElem?_getD, List.getElem?_set_self hl]; rfl
    simp only [leN]; rw [e]; omega
  | succ n ih =>
    have e : (l.set 0 c).getD (n + 1) 0 = l.getD (n + 1) 0 := by rw [List.getD_eq_getElem?_getD, List.getElem?_set_ne (by omega), ← List.getD_eq_getElem?_getD]
    show leN (l.set 0 c) (n + 1) + 256 ^ (n + 1) * ((l.set 0 c).getD (n + 1) 0).toNat + _ = leN l (n + 1) + 256 ^ (n + 1) * (l.getD (n + 1) 0).toNat + _
    rw [e]; omega
theorem and15 (a : UInt8) : (a &&& UInt8.ofNat 15).toNat ≤ 15 := by
  rw [UInt8.toNat_and, show (UInt8.ofNat 15).toNat = 2 ^ 4 - 1 from rfl, Nat.and_two_pow_sub_one_eq_mod]; omega
theorem fp_first : (bsN fp 32).getD 0 0 = 237 := by decide +kernel
theorem high_no (P h : List UInt8) (a : UInt8) (hP : bsN fp 32 = P) (hh : h = P.set 0 (P.getD 0 0 + (a &&& UInt8.ofNat 15))) : decB h = false := by
  have hl : 0 < P.length := by rw [← hP, length_bsN]; decide
  have hk := and15 a
  have h1 : leN (P.set 0 (P.getD 0 0 + (a &&& UInt8.ofNat 15))) 32 + (P.getD 0 0).toNat = leN P 32 + (P.getD 0 0 + (a &&& UInt8.ofNat 15)).toNat := leN_set0 P (P.getD 0 0 + (a &&& UInt8.ofNat 15)) 31 hl
  have h0 : P.getD 0 0 = 237 := by rw [← hP]; exact fp_first
  have hp : leN P 32 = fp := by rw [← hP, leN_bsN, Nat.mod_eq_of_lt (by decide +kernel)]
  rw [← hh, hp, h0] at h1
  have h2 : (237 + (a &&& UInt8.ofNat 15)).toNat = 237 + (a &&& UInt8.ofNat 15).toNat := by
    rw [UInt8.toNat_add, show (237 : UInt8).toNat = 237 from rfl]; omega
  rw [h2, show (237 : UInt8).toNat = 237 from rfl] at h1
  generalize (a &&& UInt8.ofNat 15).toNat = k at *
  have h3 : leN h 32 = fp + k := by omega
  have hy : ofV h = k := by
    unfold ofV; rw [h3]; unfold fp; omega
  unfold decB
  have hne : (encN (decX h) (ofV h) == h) = false := by
    rw [beq_eq_false_iff_ne]
    intro e
    have h4 := enc_le (decX h) (ofV h) (ofV_lt h)
    rw [e, h3, hy, show (2 : Nat) ^ 255 = 57896044618658097711785492504343953926634992332820282019728792003956564819968 by decide] at h4
    unfold fp at h4
    split at h4 <;> omega
  rw [hne, Bool.and_false]
set_option maxHeartbeats 4000000 in
set_option maxRecDepth 100000 in
theorem signHigh_gen (e e2 ek eo : Nat) (seed m0 m K sg M P Hh : List UInt8) (hs : seed.length = 32) (hm0 : m0.length ≤ maxLen) (hm : m0.take 40 = m) (hml : m.length ≤ 40) (hK : keyN (secA seed) = K) (hlK : K.length = 32) (hsg : sgnN seed m = sg) (hlg : sg.length = 64) (hM : mhN sg lK 32 = M) (hlM : M.length = 64) (hP : bsN fp 32 = P) (hlP : P.length = 32) (hH : P.set 0 (P.getD 0 0 + (seed.getD 0 0 &&& UInt8.ofNat 15)) = Hh) (hlH : Hh.length = 32) (hv1 : vrfN K m M = false) (hv2 : vrfN K m sg = true) (hdH : decB Hh = false) : Meets Tryd.prog 3 [.aggB seed, .str m0] [(4, some ⟨.agg64 primeL, e, false⟩), (9, some ⟨.agg64 minusL, e2, false⟩), (6, some ⟨.agg64 K512, ek, false⟩), (7, some ⟨.agg64 orderL, eo, false⟩)] (.bool true) [] := by
 refine meets_of_ev (nt := 79) Tryd.func3 rfl rfl (Nat.le_of_ble_eq_true rfl) ?_
 refine .seq ?_
 refine .region ?_
 refine .a (op_boxRow rfl rfl) trivial rfl ?_
 refine .q (op_assign rfl) trivial rfl ?_
 refine .nil ?_
 show Ev _ _ _ _ _
 refine .seq ?_
 refine .seq ?_
 refine .region ?_
 refine .q (op_call (U := []) [] [] (awake8_ev e e2 ek eo) Tryd.func7 (by kernel_rfl) rfl rfl rfl (trivial) (⟨⟨_, _, rfl, rfl, rfl, rfl, id, rfl⟩, ⟨_, _, rfl, rfl, rfl, rfl, id, rfl⟩, ⟨_, _, rfl, rfl, rfl, rfl, id, rfl⟩, ⟨_, _, rfl, rfl, rfl, rfl, id, rfl⟩, trivial⟩) (trivial) (⟨(fun h => by cases h), (fun h => by cases h), (fun h => by cases h), (fun h => by cases h), trivial⟩) rfl) trivial rfl ?_
 refine .q (op_notB rfl) trivial rfl ?_
 refine .nil ?_
 show Ev _ _ _ _ _
 refine .cond_false rfl (rfl) ?_
 refine .skip ?_
 show Ev _ _ _ _ _
 refine .seq ?_
 refine .region ?_
 refine .q (op_move rfl) trivial rfl ?_
 refine .q (op_call (U := []) [] [] (cut_ev m0 40 hm0 (by decide)) Tryd.func8 (by kernel_rfl) rfl rfl rfl (⟨⟨_, rfl, rfl, rfl⟩, ⟨_, rfl, rfl, rfl⟩, trivial⟩) (trivial) (trivial) (trivial) rfl) trivial rfl ?_
 refine .as (.str m) (congrArg AV.str hm) ?_
 refine .q (op_assign rfl) trivial rfl ?_
 refine .nil ?_
 show Ev _ _ _ _ _
 refine .seq ?_
 refine .region ?_
 refine .q (op_loadRow Tryd.underlying22 rfl sz22 rfl rfl rfl (hs)) trivial rfl ?_
 refine .q (op_call (U := []) [] [] (kkey_ev e ek seed hs) Tryd.func9 (by kernel_rfl) rfl rfl rfl (⟨⟨_, rfl, rfl, rfl⟩, trivial⟩) (⟨⟨_, _, rfl, rfl, rfl, rfl, id, rfl⟩, ⟨_, _, rfl, rfl, rfl, rfl, id, rfl⟩, trivial⟩) (trivial) (⟨(fun h => by cases h), (fun h => by cases h), trivial⟩) rfl) trivial rfl ?_
 refine .as (.aggB K) (congrArg AV.aggB hK) ?_
 refine .a (op_allocRow zero22 rel_zero22 rfl) trivial rfl ?_
 refine .w (op_storeRow sz22 rfl rfl rfl rfl rfl (by simp only [AV.len, hlK]) (by simp only [AV.len, List.length_replicate])) trivial rfl ?_
 refine .nil ?_
 show Ev _ _ _ _ _
 refine .seq ?_
 refine .region ?_
 refine .q (op_loadRow Tryd.underlying22 rfl sz22 rfl rfl rfl (hs)) trivial rfl ?_
 refine .q (op_move rfl) trivial rfl ?_
 refine .q (op_call (U := []) [] [] (ksign_ev e ek eo seed m hs (by omega)) Tryd.func10 (by kernel_rfl) rfl rfl rfl (⟨⟨_, rfl, rfl, rfl⟩, ⟨_, rfl, rfl, rfl⟩, trivial⟩) (⟨⟨_, _, rfl, rfl, rfl, rfl, id, rfl⟩, ⟨_, _, rfl, rfl, rfl, rfl, id, rfl⟩, ⟨_, _, rfl, rfl, rfl, rfl, id, rfl⟩, trivial⟩) (trivial) (⟨(fun h => by cases h), (fun h => by cases h), (fun h => by cases h), trivial⟩) rfl) trivial rfl ?_
 refine .as (.aggB sg) (congrArg AV.aggB hsg) ?_
 refine .a (op_allocRow zero26 rel_zero26 rfl) trivial rfl ?_
 refine .w (op_storeRow sz26 rfl rfl rfl rfl rfl (by simp only [AV.len, hlg]) (by simp only [AV.len, List.length_replicate])) trivial rfl ?_
 refine .nil ?_
 show Ev _ _ _ _ _
 refine .seq ?_
 refine .region ?_
 refine .a (ap_build (us := [.u8 237, .u8 211, .u8 245, .u8 92, .u8 26, .u8 99, .u8 18, .u8 88, .u8 214, .u8 156, .u8 247, .u8 162, .u8 222, .u8 249, .u8 222, .u8 20, .u8 0, .u8 0, .u8 0, .u8 0, .u8 0, .u8 0, .u8 0, .u8 0, .u8 0, .u8 0, .u8 0, .u8 0, .u8 0, .u8 0, .u8 0, .u8 16]) (c := .aggB lK) Tryd.underlying28 inf5 rfl (by decide) (by decide) ⟨rfl, rfl, rfl, rfl, rfl, rfl, rfl, rfl, rfl, rfl, rfl, rfl, rfl, rfl, rfl, rfl, rfl, rfl, rfl, rfl, rfl, rfl, rfl, rfl, rfl, rfl, rfl, rfl, rfl, rfl, rfl, rfl, rfl, rfl, rfl, rfl, rfl, rfl, rfl, rfl, rfl, rfl, rfl, rfl, rfl, rfl, rfl, rfl, rfl, rfl, rfl, rfl, rfl, rfl, rfl, rfl, rfl, rfl, rfl, rfl, rfl, rfl, rfl, rfl, rfl, rfl, rfl, rfl, rfl, rfl, rfl, rfl, rfl, rfl, rfl, rfl, rfl, rfl, rfl, rfl, rfl, rfl, rfl, rfl, rfl, rfl, rfl, rfl, rfl, rfl, rfl, rfl, rfl, rfl, rfl, rfl, trivial⟩ rfl) trivial rfl ?_
 refine .q (op_assign rfl) trivial rfl ?_
 refine .nil ?_
 show Ev _ _ _ _ _
 refine .seq ?_
 refine .region ?_
 refine .q (op_loadRow Tryd.underlying26 rfl sz26 rfl rfl rfl (hlg)) trivial rfl ?_
 refine .a (op_allocRow zero26 rel_zero26 rfl) trivial rfl ?_
 refine .w (op_storeRow sz26 rfl rfl rfl rfl rfl (by simp only [AV.len, hlg]) (by simp only [AV.len, List.length_replicate])) trivial rfl ?_
 refine .nil ?_
 show Ev _ _ _ _ _
 refine .seq ?_
 refine .region ?_
 refine .q (op_assign rfl) trivial rfl ?_
 refine .nil ?_
 show Ev _ _ _ _ _
 refine .seq ?_
 refine .seq ?_
 refine .region ?_
 refine .q (op_move rfl) trivial rfl ?_
 refine .q (op_len_sl Tryd.underlying28 rfl) trivial rfl ?_
 refine .q (op_move rfl) trivial rfl ?_
 refine .nil ?_
 show Ev _ _ _ _ _
 refine .block ?_
 refine Ev.loop (ι := { q : Nat // q ≤ 32 }) (fun q => ⟨[(1, .str m), (2, .ptr 1000 0), (5, .ptr 1008 0), (6, .ptr 1016 0), (8, .ptr 1032 0), (25, .sl 1024 0 32 1), (26, .i64 32), (9, .i64 ((cyN sg lK q.1 : Nat) : Int)), (27, .i64 ((q.1 : Nat) : Int))], [(1000, some ⟨.aggB seed, 22, true⟩), (1008, some ⟨.aggB K, 22, true⟩), (1016, some ⟨.aggB sg, 26, true⟩), (1032, some ⟨.aggB (mhN sg lK q.1), 26, true⟩), (1024, some ⟨.aggB lK, 5, true⟩), (4, some ⟨.agg64 primeL, e, false⟩), (9, some ⟨.agg64 minusL, e2, false⟩), (6, some ⟨.agg64 K512, ek, false⟩), (7, some ⟨.agg64 orderL, eo, false⟩)], 1040⟩) (fun q => 32 - q.1) ⟨0, Nat.zero_le _⟩ (StLe.mk [(1000, 1000), (1008, 1008), (1016, 1016), (1032, 1032), (1024, 1024)] rfl rfl ⟨⟨_, rfl, by first | rfl | (simp only [AV.ren]; rfl) | (simp only [AV.ren]; congr 1; omega), rfl⟩, ⟨_, rfl, by first | rfl | (simp only [AV.ren]; rfl) | (simp only [AV.ren]; congr 1; omega), rfl⟩, ⟨_, rfl, by first | rfl | (simp only [AV.ren]; rfl) | (simp only [AV.ren]; congr 1; omega), rfl⟩, ⟨_, rfl, by first | rfl | (simp only [AV.ren]; rfl) | (simp only [AV.ren]; congr 1; omega), rfl⟩, ⟨_, rfl, by first | rfl | (simp only [AV.ren]; rfl) | (simp only [AV.ren]; congr 1; omega), rfl⟩, ⟨_, rfl, by first | rfl | (simp only [AV.ren]; rfl) | (simp only [AV.ren]; congr 1; omega), rfl⟩, ⟨_, rfl, by first | rfl | (simp only [AV.ren]; rfl) | (simp only [AV.ren]; congr 1; omega), rfl⟩, ⟨_, rfl, by first | rfl | (simp only [AV.ren]; rfl) | (simp only [AV.ren]; congr 1; omega), rfl⟩, ⟨_, rfl, by first | rfl | (simp only [AV.ren]; rfl) | (simp only [AV.ren]; congr 1; omega), rfl⟩, trivial⟩ ⟨⟨_, _, rfl, rfl, rfl, rfl, id, rfl⟩, ⟨_, _, rfl, rfl, rfl, rfl, id, rfl⟩, ⟨_, _, rfl, rfl, rfl, rfl, id, rfl⟩, ⟨_, _, rfl, rfl, rfl, rfl, id, rfl⟩, ⟨_, _, rfl, rfl, rfl, rfl, id, rfl⟩, ⟨_, _, rfl, rfl, rfl, rfl, id, rfl⟩, ⟨_, _, rfl, rfl, rfl, rfl, id, rfl⟩, ⟨_, _, rfl, rfl, rfl, rfl, id, rfl⟩, ⟨_, _, rfl, rfl, rfl, rfl, id, rfl⟩, trivial⟩) ?_
 rintro ⟨j, hj⟩
 dsimp only
 have hlm := length_mhN sg lK j
 have hca := cyN_le sg lK j
 have hb1 := (sg.getD (32 + j) 0).toNat_lt
 have hb2 := (lK.getD j 0).toNat_lt
 refine .seq ?_
 refine .region ?_
 refine .q (op_cmpI rfl rfl rfl) trivial rfl ?_
 refine .nil ?_
 show Ev _ _ _ _ _
 refine .seq ?_
 refine .cond rfl (fun hc28 => ?_) (fun hc28 => ?_)
 ·simp only [decide_eq_true_eq] at hc28
  refine .skip ?_
  show Ev _ _ _ _ _
  refine .seq ?_
  refine .block ?_
  refine .seq ?_
  refine .region ?_
  refine .q (op_move rfl) trivial rfl ?_
  refine .q (ap_idx0 Tryd.underlying28 inf5.sz rfl rfl rfl (by omega)) trivial rfl ?_
  refine .q (op_load Tryd.underlying5 rfl rfl rfl rfl (by show j < 32; omega)) trivial rfl ?_
  refine .q (op_assign rfl) trivial rfl ?_
  refine .q (op_assign rfl) trivial rfl ?_
  refine .nil ?_
  show Ev _ _ _ _ _
  refine .seq ?_
  refine .region ?_
  refine .q (op_move rfl) trivial rfl ?_
  refine .q (op_move rfl) trivial rfl ?_
  refine .q (op_addI rfl rfl ⟨by omega, by omega⟩) trivial rfl ?_
  refine .as (.i64 ((32 + j : Nat) : Int)) (congrArg AV.i64 (by omega)) ?_
  refine .q (ap_idx_arr Tryd.underlying26 inf5.sz rfl rfl (i := 32 + j) (by omega) (by omega)) trivial rfl ?_
  refine .q (op_load Tryd.underlying5 rfl rfl rfl rfl (by show 32 + j < sg.length; omega)) trivial rfl ?_
  refine .q (op_conv Tryd.underlying5 Tryd.underlying3 rfl rfl) trivial rfl ?_
  refine .as (.i64 (((sg.getD (32 + j) 0).toNat : Nat) : Int)) (rfl) ?_
  refine .q (op_move rfl) trivial rfl ?_
  refine .q (op_conv Tryd.underlying5 Tryd.underlying3 rfl rfl) trivial rfl ?_
  refine .as (.i64 (((lK.getD j 0).toNat : Nat) : Int)) (rfl) ?_
  refine .q (op_addI rfl rfl ⟨by omega, by omega⟩) trivial rfl ?_
  refine .q (op_addI rfl rfl ⟨by omega, by omega⟩) trivial rfl ?_
  refine .as (.i64 (((cyN sg lK j + ((sg.getD (32 + j) 0).toNat + (lK.getD j 0).toNat)) : Nat) : Int)) (congrArg AV.i64 (by omega)) ?_
  refine .q (op_assign rfl) trivial rfl ?_
  refine .nil ?_
  show Ev _ _ _ _ _
  refine .seq ?_
  refine .region ?_
  refine .q (op_move rfl) trivial rfl ?_
  refine .q (op_addI rfl rfl ⟨by omega, by omega⟩) trivial rfl ?_
  refine .as (.i64 ((32 + j : Nat) : Int)) (congrArg AV.i64 (by omega)) ?_
  refine .q (op_move rfl) trivial rfl ?_
  refine .q (op_conv Tryd.underlying3 Tryd.underlying5 rfl rfl) trivial rfl ?_
  refine .q (ap_idx_arr Tryd.underlying26 inf5.sz rfl rfl (i := 32 + j) (by omega) (by omega)) trivial rfl ?_
  refine .w (op_store inf5.sz rfl rfl rfl rfl rfl (by show 32 + j < (mhN sg lK j).length; omega)) trivial rfl ?_
  refine .nil ?_
  show Ev _ _ _ _ _
  refine .region ?_
  refine .q (op_move rfl) trivial rfl ?_
  refine .q (op_shrI (n := 8) rfl rfl rfl (by decide)) trivial rfl ?_
  refine .as (.i64 ((cyN sg lK (j + 1) : Nat) : Int)) (congrArg AV.i64 (by simp only [cyN]; omega)) ?_
  refine .q (op_assign rfl) trivial rfl ?_
  refine .nil ?_
  show Ev _ _ _ _ _
  refine .region ?_
  refine .q (op_addI rfl rfl ⟨by omega, by omega⟩) trivial rfl ?_
  refine .q (op_move rfl) trivial rfl ?_
  refine .nil ?_
  exact ⟨⟨j + 1, by omega⟩, by show 32 - (j + 1) < 32 - j; omega, StLe.mk [(1000, 1000), (1008, 1008), (1016, 1016), (1032, 1032), (1024, 1024)] rfl rfl ⟨⟨_, rfl, by first | rfl | (simp only [AV.ren]; rfl) | (simp only [AV.ren]; congr 1; omega), rfl⟩, ⟨_, rfl, by first | rfl | (simp only [AV.ren]; rfl) | (simp only [AV.ren]; congr 1; omega), rfl⟩, ⟨_, rfl, by first | rfl | (simp only [AV.ren]; rfl) | (simp only [AV.ren]; congr 1; omega), rfl⟩, ⟨_, rfl, by first | rfl | (simp only [AV.ren]; rfl) | (simp only [AV.ren]; congr 1; omega), rfl⟩, ⟨_, rfl, by first | rfl | (simp only [AV.ren]; rfl) | (simp only [AV.ren]; congr 1; omega), rfl⟩, ⟨_, rfl, by first | rfl | (simp only [AV.ren]; rfl) | (simp only [AV.ren]; congr 1; omega), rfl⟩, ⟨_, rfl, by first | rfl | (simp only [AV.ren]; rfl) | (simp only [AV.ren]; congr 1; omega), rfl⟩, ⟨_, rfl, by first | rfl | (simp only [AV.ren]; rfl) | (simp only [AV.ren]; congr 1; omega), rfl⟩, ⟨_, rfl, by first | rfl | (simp only [AV.ren]; rfl) | (simp only [AV.ren]; congr 1; omega), rfl⟩, trivial⟩ ⟨⟨_, _, rfl, rfl, rfl, rfl, id, rfl⟩, ⟨_, _, rfl, rfl, rfl, rfl, id, rfl⟩, ⟨_, _, rfl, rfl, rfl, rfl, id, rfl⟩, ⟨_, _, rfl, rfl, rfl, rfl, id, rfl⟩, ⟨_, _, rfl, rfl, rfl, rfl, id, rfl⟩, ⟨_, _, rfl, rfl, rfl, rfl, id, rfl⟩, ⟨_, _, rfl, rfl, rfl, rfl, id, rfl⟩, ⟨_, _, rfl, rfl, rfl, rfl, id, rfl⟩, ⟨_, _, rfl, rfl, rfl, rfl, id, rfl⟩, trivial⟩⟩
 ·simp only [decide_eq_false_iff_not] at hc28
  refine .exit ?_
  show Ev _ _ _ _ _
  have ej : j = 32 := by omega
  refine Ev.weak (st2 := ⟨[(1, .str m), (2, .ptr 1000 0), (5, .ptr 1008 0), (6, .ptr 1016 0), (8, .ptr 1032 0)], [(1000, some ⟨.aggB seed, 22, true⟩), (1008, some ⟨.aggB K, 22, true⟩), (1016, some ⟨.aggB sg, 26, true⟩), (1032, some ⟨.aggB (mhN sg lK 32), 26, true⟩), (1024, some ⟨.aggB lK, 5, true⟩), (4, some ⟨.agg64 primeL, e, false⟩), (9, some ⟨.agg64 minusL, e2, false⟩), (6, some ⟨.agg64 K512, ek, false⟩), (7, some ⟨.agg64 orderL, eo, false⟩)], 1040⟩) ?_ ?_
  ·exact StLe.mk [(1000, 1000), (1008, 1008), (1016, 1016), (1032, 1032), (1024, 1024)] rfl rfl ⟨⟨_, rfl, by first | rfl | (simp only [AV.ren]; rfl) | (simp only [AV.ren]; congr 1; omega), rfl⟩, ⟨_, rfl, by first | rfl | (simp only [AV.ren]; rfl) | (simp only [AV.ren]; congr 1; omega), rfl⟩, ⟨_, rfl, by first | rfl | (simp only [AV.ren]; rfl) | (simp only [AV.ren]; congr 1; omega), rfl⟩, ⟨_, rfl, by first | rfl | (simp only [AV.ren]; rfl) | (simp only [AV.ren]; congr 1; omega), rfl⟩, ⟨_, rfl, by first | rfl | (simp only [AV.ren]; rfl) | (simp only [AV.ren]; congr 1; omega), rfl⟩, trivial⟩ ⟨⟨_, _, rfl, rfl, rfl, rfl, id, rfl⟩, ⟨_, _, rfl, rfl, rfl, rfl, id, rfl⟩, ⟨_, _, rfl, rfl, rfl, rfl, id, rfl⟩, ⟨_, _, rfl, rfl, by (simp only [AV.ren]; rw [ej]), rfl, id, rfl⟩, ⟨_, _, rfl, rfl, rfl, rfl, id, rfl⟩, ⟨_, _, rfl, rfl, rfl, rfl, id, rfl⟩, ⟨_, _, rfl, rfl, rfl, rfl, id, rfl⟩, ⟨_, _, rfl, rfl, rfl, rfl, id, rfl⟩, ⟨_, _, rfl, rfl, rfl, rfl, id, rfl⟩, trivial⟩
  show Ev _ _ _ _ _
  refine .seq ?_
  refine .region ?_
  refine .a (op_call (U := [(1040, some ⟨.aggI (dg (fp)), 3, true⟩)]) [] [(1040, 1000)] (P_ev) Tryd.func11 (by kernel_rfl) rfl rfl rfl (trivial) (trivial) (⟨⟨1000, _, rfl, rfl, rfl, rfl, .inl rfl⟩, trivial⟩) (trivial) rfl) trivial rfl ?_
  refine .q (op_assign rfl) trivial rfl ?_
  refine .nil ?_
  show Ev _ _ _ _ _
  refine .seq ?_
  refine .region ?_
  have hlm := length_mhN sg lK 32
  refine .q (op_move rfl) trivial rfl ?_
  refine .q (op_call (U := []) [(500, 1040)] [] (bytes05 fp) Tryd.func12 (by kernel_rfl) rfl rfl rfl (⟨⟨_, rfl, rfl, rfl⟩, trivial⟩) (⟨⟨_, _, rfl, rfl, rfl, rfl, (fun h => by cases h), rfl⟩, trivial⟩) (trivial) (⟨(fun h => by cases h), trivial⟩) rfl) trivial rfl ?_
  refine .as (.str P) (congrArg AV.str hP) ?_
  refine .a (op_str_bytes Tryd.underlying9 Tryd.underlying28 Tryd.underlying5 rfl (by unfold maxLen; omega)) trivial rfl ?_
  refine .q (op_toArrPtr Tryd.underlying22 rfl (by omega) (by omega)) trivial rfl ?_
  refine .q (op_loadB Tryd.underlying22 rfl sz22 rfl rfl (by omega)) trivial rfl ?_
  refine .as (.aggB P) (congrArg AV.aggB (by rw [List.drop_zero, List.take_of_length_le (by omega)])) ?_
  refine .a (op_allocRow zero22 rel_zero22 rfl) trivial rfl ?_
  refine .w (op_storeRow sz22 rfl rfl rfl rfl rfl (by simp only [AV.len, hlP]) (by simp only [AV.len, List.length_replicate])) trivial rfl ?_
  refine .nil ?_
  show Ev _ _ _ _ _
  refine .seq ?_
  refine .region ?_
  refine .q (ap_idx_arr Tryd.underlying22 inf5.sz rfl rfl rfl (by decide)) trivial rfl ?_
  refine .q (op_load Tryd.underlying5 rfl rfl rfl rfl (by show 0 < P.length; omega)) trivial rfl ?_
  refine .q (ap_idx_arr Tryd.underlying22 inf5.sz rfl rfl rfl (by decide)) trivial rfl ?_
  refine .q (op_load Tryd.underlying5 rfl rfl rfl rfl (by show 0 < seed.length; omega)) trivial rfl ?_
  refine .q (op_bin8 rfl rfl rfl) trivial rfl ?_
  refine .q (op_bin8 rfl rfl rfl) trivial rfl ?_
  refine .q (ap_idx_arr Tryd.underlying22 inf5.sz rfl rfl rfl (by decide)) trivial rfl ?_
  refine .w (op_store inf5.sz rfl rfl rfl rfl rfl (by show 0 < P.length; omega)) trivial rfl ?_
  refine .nil ?_
  show Ev _ _ _ _ _
  refine .seq ?_
  refine .region ?_
  refine .q (op_loadRow Tryd.underlying22 rfl sz22 rfl rfl rfl (hlK)) trivial rfl ?_
  refine .q (op_move rfl) trivial rfl ?_
  refine .q (op_loadRow Tryd.underlying26 rfl sz26 rfl rfl rfl (by show (mhN sg lK 32).length = 64; omega)) trivial rfl ?_
  refine .as (.aggB M) (congrArg AV.aggB hM) ?_
  refine .q (op_call (U := []) [] [] (kver_ev e e2 ek eo K m M hlK (by omega) hlM) Tryd.func13 (by kernel_rfl) rfl rfl rfl (⟨⟨_, rfl, rfl, rfl⟩, ⟨_, rfl, rfl, rfl⟩, ⟨_, rfl, rfl, rfl⟩, trivial⟩) (⟨⟨_, _, rfl, rfl, rfl, rfl, id, rfl⟩, ⟨_, _, rfl, rfl, rfl, rfl, id, rfl⟩, ⟨_, _, rfl, rfl, rfl, rfl, id, rfl⟩, ⟨_, _, rfl, rfl, rfl, rfl, id, rfl⟩, trivial⟩) (trivial) (⟨(fun h => by cases h), (fun h => by cases h), (fun h => by cases h), (fun h => by cases h), trivial⟩) rfl) trivial rfl ?_
  refine .as (.bool false) (congrArg AV.bool hv1) ?_
  refine .q (op_notB rfl) trivial rfl ?_
  refine .q (op_move rfl) trivial rfl ?_
  refine .know (b' := true) (rfl) ?_
  refine .q (op_loadRow Tryd.underlying22 rfl sz22 rfl rfl rfl (hlK)) ⟨_, rfl, rfl⟩ rfl ?_
  refine .q (op_move rfl) ⟨_, rfl, rfl⟩ rfl ?_
  refine .q (op_loadRow Tryd.underlying26 rfl sz26 rfl rfl rfl (hlg)) ⟨_, rfl, rfl⟩ rfl ?_
  refine .q (op_call (U := []) [] [] (kver_ev e e2 ek eo K m sg hlK (by omega) hlg) Tryd.func13 (by kernel_rfl) rfl rfl rfl (⟨⟨_, rfl, rfl, rfl⟩, ⟨_, rfl, rfl, rfl⟩, ⟨_, rfl, rfl, rfl⟩, trivial⟩) (⟨⟨_, _, rfl, rfl, rfl, rfl, id, rfl⟩, ⟨_, _, rfl, rfl, rfl, rfl, id, rfl⟩, ⟨_, _, rfl, rfl, rfl, rfl, id, rfl⟩, ⟨_, _, rfl, rfl, rfl, rfl, id, rfl⟩, trivial⟩) (trivial) (⟨(fun h => by cases h), (fun h => by cases h), (fun h => by cases h), (fun h => by cases h), trivial⟩) rfl) ⟨_, rfl, rfl⟩ rfl ?_
  refine .as (.bool true) (congrArg AV.bool hv2) ?_
  refine .q (op_pick_true rfl rfl rfl) trivial rfl ?_
  refine .q (op_move rfl) trivial rfl ?_
  refine .know (b' := true) (rfl) ?_
  refine .q (op_loadRow Tryd.underlying22 rfl sz22 rfl rfl rfl (by simp only [AV.len, List.length_set]; exact hlP)) ⟨_, rfl, rfl⟩ rfl ?_
  refine .as (.aggB Hh) (congrArg AV.aggB hH) ?_
  refine .q (op_call (U := []) [] [] (kpoint_ev e e2 Hh hlH) Tryd.func14 (by kernel_rfl) rfl rfl rfl (⟨⟨_, rfl, rfl, rfl⟩, trivial⟩) (⟨⟨_, _, rfl, rfl, rfl, rfl, id, rfl⟩, ⟨_, _, rfl, rfl, rfl, rfl, id, rfl⟩, trivial⟩) (trivial) (⟨(fun h => by cases h), (fun h => by cases h), trivial⟩) rfl) ⟨_, rfl, rfl⟩ rfl ?_
  refine .as (.bool false) (congrArg AV.bool hdH) ?_
  refine .q (op_notB rfl) ⟨_, rfl, rfl⟩ rfl ?_
  refine .q (op_pick_true rfl rfl rfl) trivial rfl ?_
  refine .q (op_assign rfl) trivial rfl ?_
  refine .nil ?_
  show Ev _ _ _ _ _
  refine .ret ?_
  show RetOk _ _ _ _ _ _ _
  exact ret1v rfl (.inl rfl) rfl rfl trivial
theorem signHigh_ev (e e2 ek eo : Nat) (seed m0 : List UInt8) (hs : seed.length = 32) (hm0 : m0.length ≤ maxLen) : Meets Tryd.prog 3 [.aggB seed, .str m0] [(4, some ⟨.agg64 primeL, e, false⟩), (9, some ⟨.agg64 minusL, e2, false⟩), (6, some ⟨.agg64 K512, ek, false⟩), (7, some ⟨.agg64 orderL, eo, false⟩)] (.bool true) [] := by
 obtain ⟨m, hm⟩ : ∃ z, m0.take 40 = z := ⟨_, rfl⟩
 have hml : m.length ≤ 40 := by rw [← hm, List.length_take]; omega
 have hS : leN ((sgnN seed m).drop 32) 32 < scL := by
  have e2 : (sgnN seed m).drop 32 = sgS seed m := by unfold sgnN; rw [List.drop_append_of_le_length (by rw [length_keyN]; exact Nat.le_refl _), List.drop_of_length_le (by rw [length_keyN]; exact Nat.le_refl _), List.nil_append]
  rw [e2]; unfold sgS; rw [leN_scb]; exact Nat.mod_lt _ (by decide +kernel)
 refine signHigh_gen e e2 ek eo seed m0 m _ _ _ _ _ hs hm0 hm hml rfl (length_keyN _) rfl (length_sgnN _ _) rfl (by rw [length_mhN]; exact length_sgnN _ _) rfl (length_bsN _ _) rfl (by rw [List.length_set]; exact length_bsN _ _) ?_ (vrf_sgn seed m) (high_no _ _ _ rfl rfl)
 unfold vrfN
 rw [more_high _ (length_sgnN _ _) hS, Bool.and_false, Bool.false_and]
end Go.Proofs.YtcnjekoidgefpaaDoor
