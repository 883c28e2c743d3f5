/-
  Texts of this claim.
-/
import Derived.Test.YtdpdmgbdipokdaaDoorGX3
import Derived.Test.YtdpdmgbdipokdaaDoorGTE
namespace Go.Proofs.YtdpdmgbdipokdaaDoor
open Go.RowKit
theorem blt_no {m n : Nat} (h : ¬ m < n) : Nat.blt m n = false := by
  cases hc : Nat.blt m n with
  | false => rfl
  | true => exact absurd (Nat.le_of_ble_eq_true hc) h
theorem beq_yes {m n : Nat} (h : m = n) : Nat.beq m n = true := by subst h; exact Nat.beq_refl m
theorem beq_no {m n : Nat} (h : ¬ m = n) : Nat.beq m n = false := by
  cases hc : Nat.beq m n with
  | false => rfl
  | true => exact absurd (Nat.eq_of_beq_eq_true hc) h
/-- Bytes as ints. -/
def biL (l : List UInt8) : List Int := l.map fun b => (b.toNat : Int)
theorem length_biL (l : List UInt8) : (biL l).length = l.length := by simp [biL]
theorem bi_get (l : List UInt8) (i : Nat) : (biL l).getD i 0 = ((l.getD i 0).toNat : Int) := by
  simp only [biL, List.getD_eq_getElem?_getD, List.getElem?_map]
  cases l[i]? <;> rfl
theorem bi_set (l : List UInt8) (i : Nat) (v : UInt8) : (biL l).set i (v.toNat : Int) = biL (l.set i v) := by
  simp only [biL, List.map_set]
theorem bi_snoc (l : List UInt8) (v : UInt8) : biL l ++ [(v.toNat : Int)] = biL (l ++ [v]) := by simp [biL]
theorem take_snoc (l : List UInt8) (j : Nat) (h : j < l.length) : l.take (j + 1) = l.take j ++ [l.getD j 0] := by
  rw [List.take_add_one]
  simp [List.getD_eq_getElem?_getD, h]
theorem mod_ne {a b : Nat} (h : ¬ ((a : Int) % (b : Int)) = 0) : ¬ a % b = 0 := fun e => h (by rw [← Int.natCast_emod, e]; rfl)
theorem mod_eq {a b : Nat} (h : ((a : Int) % (b : Int)) = 0) : a % b = 0 := by
  have : ((a % b : Nat) : Int) = 0 := by rw [Int.natCast_emod]; exact h
  omega
set_option maxRecDepth 100000 in
theorem mul_ev (a b : Nat) (ha : a < 256) (_hb : b < 256) : Meets Tryd.prog 27 [.i64 (a : Int), .i64 (b : Int)] [] (.i64 ((mlN a b 8 : Nat) : Int)) [] := by
 refine meets_of_ev (nt := 26) Tryd.func27 rfl rfl (Nat.le_of_ble_eq_true rfl) ?_
 refine .seq ?_
 refine .region ?_
 refine .q (op_assign rfl) trivial rfl ?_
 refine .nil ?_
 show Ev _ _ _ _ _
 refine .seq ?_
 refine .region ?_
 refine .q (op_assign rfl) trivial rfl ?_
 refine .nil ?_
 show Ev _ _ _ _ _
 refine .seq ?_
 refine .seq ?_
 refine .region ?_
 refine .q (op_assign rfl) trivial rfl ?_
 refine .nil ?_
 show Ev _ _ _ _ _
 refine .block ?_
 refine Ev.loop (ι := { k : Nat // k ≤ 8 }) (fun q => ⟨[(0, .i64 (a : Int)), (1, .i64 (b : Int)), (5, .i64 ((mlN a b q.1 : Nat) : Int)), (6, .i64 (7 - (q.1 : Int)))], [], 1000⟩) (fun q => 8 - q.1) ⟨0, Nat.zero_le _⟩ (StLe.mk [] rfl rfl ⟨⟨_, rfl, by rfl, rfl⟩, ⟨_, rfl, by rfl, rfl⟩, ⟨_, rfl, by rfl, rfl⟩, ⟨_, rfl, by rfl, rfl⟩, trivial⟩ trivial) ?_
 rintro ⟨k, hq⟩
 try dsimp only
 replace hq : k ≤ 8 := hq
 have hm := mlN_lt a b ha k
 refine .seq ?_
 refine .seq ?_
 refine .region ?_
 refine .q (op_move rfl) trivial rfl ?_
 refine .q (op_cmpI rfl rfl rfl) trivial rfl ?_
 refine .nil ?_
 show Ev _ _ _ _ _
 refine .cond rfl (fun hc8 => ?_) (fun hc8 => ?_)
 ·simp only [decide_eq_true_eq] at hc8
  refine .skip ?_
  show Ev _ _ _ _ _
  refine .seq ?_
  refine .block ?_
  refine .seq ?_
  refine .region ?_
  refine .q (op_move rfl) trivial rfl ?_
  refine .q (op_mulI rfl rfl ⟨by omega, by omega⟩) trivial rfl ?_
  refine .as (.i64 ((mlN a b k * 2 : Nat) : Int)) (by congr 1) ?_
  refine .q (op_assign rfl) trivial rfl ?_
  refine .nil ?_
  show Ev _ _ _ _ _
  refine .seq ?_
  refine .seq ?_
  refine .region ?_
  refine .q (op_move rfl) trivial rfl ?_
  refine .q (op_cmpI rfl rfl rfl) trivial rfl ?_
  refine .nil ?_
  show Ev _ _ _ _ _
  refine .cond rfl (fun hc14 => ?_) (fun hc14 => ?_)
  ·simp only [decide_eq_true_eq] at hc14
   refine .region ?_
   refine .q (op_move rfl) trivial rfl ?_
   refine .q (op_xorI (n := mlN a b k * 2) (m := 283) rfl rfl ⟨by omega, by decide⟩) trivial rfl ?_
   refine .q (op_assign rfl) trivial rfl ?_
   refine .nil ?_
   show Ev _ _ _ _ _
   refine .seq ?_
   refine .region ?_
   refine .q (op_move rfl) trivial rfl ?_
   refine .q (op_move rfl) trivial rfl ?_
   refine .as (.i64 ((7 - k : Nat) : Int)) (by congr 1; omega) ?_
   refine .q (op_shrI (n := 7 - k) rfl rfl rfl (by omega)) trivial rfl ?_
   refine .as (.i64 ((b / 2 ^ (7 - k) : Nat) : Int)) (by rw [Int.natCast_ediv, Int.natCast_pow]; rfl) ?_
   refine .q (op_remI rfl rfl ⟨Int.natCast_nonneg _, by decide⟩) trivial rfl ?_
   refine .as (.i64 ((b / 2 ^ (7 - k) % 2 : Nat) : Int)) (by rw [Int.natCast_emod]; rfl) ?_
   refine .q (op_cmpI rfl rfl rfl) trivial rfl ?_
   refine .nil ?_
   show Ev _ _ _ _ _
   refine .cond rfl (fun hc21 => ?_) (fun hc21 => ?_)
   ·simp only [beq_iff_eq] at hc21
    refine .region ?_
    refine .q (op_move rfl) trivial rfl ?_
    refine .q (op_move rfl) trivial rfl ?_
    refine .q (op_xorI (n := _) (m := a) rfl rfl ⟨by first | omega | (exact Nat.xor_lt_two_pow (n := 62) (by omega) (by decide)), by omega⟩) trivial rfl ?_
    refine .q (op_assign rfl) trivial rfl ?_
    refine .nil ?_
    show Ev _ _ _ _ _
    refine .region ?_
    refine .q (op_move rfl) trivial rfl ?_
    refine .q (op_subI rfl rfl ⟨by omega, by omega⟩) trivial rfl ?_
    refine .q (op_assign rfl) trivial rfl ?_
    refine .nil ?_
    exact ⟨⟨k + 1, by omega⟩, by (try dsimp only); omega, StLe.mk [] rfl rfl ⟨⟨_, rfl, by rfl, rfl⟩, ⟨_, rfl, by rfl, rfl⟩, ⟨_, rfl, by (simp only [AV.ren]; first | (rw [mlN, mlS, mlD, show Nat.blt 255 (mlN a b k * 2) = true from Nat.ble_eq_true_of_le (by omega), show Nat.beq (b / 2 ^ (7 - k) % 2) 1 = true from beq_yes (by omega)] <;> rfl) | (rw [mlN, mlS, mlD, show Nat.blt 255 (mlN a b k * 2) = true from Nat.ble_eq_true_of_le (by omega), show Nat.beq (b / 2 ^ (7 - k) % 2) 1 = false from beq_no (by omega)] <;> rfl) | (rw [mlN, mlS, mlD, show Nat.blt 255 (mlN a b k * 2) = false from blt_no (by omega), show Nat.beq (b / 2 ^ (7 - k) % 2) 1 = true from beq_yes (by omega)] <;> rfl) | (rw [mlN, mlS, mlD, show Nat.blt 255 (mlN a b k * 2) = false from blt_no (by omega), show Nat.beq (b / 2 ^ (7 - k) % 2) 1 = false from beq_no (by omega)] <;> rfl)), rfl⟩, ⟨_, rfl, by first | rfl | (simp only [AV.ren]; congr 1 <;> omega), rfl⟩, trivial⟩ trivial⟩
   ·simp only [ne_eq, beq_eq_false_iff_ne] at hc21
    refine .skip ?_
    show Ev _ _ _ _ _
    refine .region ?_
    refine .q (op_move rfl) trivial rfl ?_
    refine .q (op_subI rfl rfl ⟨by omega, by omega⟩) trivial rfl ?_
    refine .q (op_assign rfl) trivial rfl ?_
    refine .nil ?_
    exact ⟨⟨k + 1, by omega⟩, by (try dsimp only); omega, StLe.mk [] rfl rfl ⟨⟨_, rfl, by rfl, rfl⟩, ⟨_, rfl, by rfl, rfl⟩, ⟨_, rfl, by (simp only [AV.ren]; first | (rw [mlN, mlS, mlD, show Nat.blt 255 (mlN a b k * 2) = true from Nat.ble_eq_true_of_le (by omega), show Nat.beq (b / 2 ^ (7 - k) % 2) 1 = true from beq_yes (by omega)] <;> rfl) | (rw [mlN, mlS, mlD, show Nat.blt 255 (mlN a b k * 2) = true from Nat.ble_eq_true_of_le (by omega), show Nat.beq (b / 2 ^ (7 - k) % 2) 1 = false from beq_no (by omega)] <;> rfl) | (rw [mlN, mlS, mlD, show Nat.blt 255 (mlN a b k * 2) = false from blt_no (by omega), show Nat.beq (b / 2 ^ (7 - k) % 2) 1 = true from beq_yes (by omega)] <;> rfl) | (rw [mlN, mlS, mlD, show Nat.blt 255 (mlN a b k * 2) = false from blt_no (by omega), show Nat.beq (b / 2 ^ (7 - k) % 2) 1 = false from beq_no (by omega)] <;> rfl)), rfl⟩, ⟨_, rfl, by first | rfl | (simp only [AV.ren]; congr 1 <;> omega), rfl⟩, trivial⟩ trivial⟩
  ·simp only [decide_eq_false_iff_not] at hc14
   refine .skip ?_
   show Ev _ _ _ _ _
   refine .seq ?_
   refine .region ?_
   refine .q (op_move rfl) trivial rfl ?_
   refine .q (op_move rfl) trivial rfl ?_
   refine .as (.i64 ((7 - k : Nat) : Int)) (by congr 1; omega) ?_
   refine .q (op_shrI (n := 7 - k) rfl rfl rfl (by omega)) trivial rfl ?_
   refine .as (.i64 ((b / 2 ^ (7 - k) : Nat) : Int)) (by rw [Int.natCast_ediv, Int.natCast_pow]; rfl) ?_
   refine .q (op_remI rfl rfl ⟨Int.natCast_nonneg _, by decide⟩) trivial rfl ?_
   refine .as (.i64 ((b / 2 ^ (7 - k) % 2 : Nat) : Int)) (by rw [Int.natCast_emod]; rfl) ?_
   refine .q (op_cmpI rfl rfl rfl) trivial rfl ?_
   refine .nil ?_
   show Ev _ _ _ _ _
   refine .cond rfl (fun hc21 => ?_) (fun hc21 => ?_)
   ·simp only [beq_iff_eq] at hc21
    refine .region ?_
    refine .q (op_move rfl) trivial rfl ?_
    refine .q (op_move rfl) trivial rfl ?_
    refine .q (op_xorI (n := _) (m := a) rfl rfl ⟨by first | omega | (exact Nat.xor_lt_two_pow (n := 62) (by omega) (by decide)), by omega⟩) trivial rfl ?_
    refine .q (op_assign rfl) trivial rfl ?_
    refine .nil ?_
    show Ev _ _ _ _ _
    refine .region ?_
    refine .q (op_move rfl) trivial rfl ?_
    refine .q (op_subI rfl rfl ⟨by omega, by omega⟩) trivial rfl ?_
    refine .q (op_assign rfl) trivial rfl ?_
    refine .nil ?_
    exact ⟨⟨k + 1, by omega⟩, by (try dsimp only); omega, StLe.mk [] rfl rfl ⟨⟨_, rfl, by rfl, rfl⟩, ⟨_, rfl, by rfl, rfl⟩, ⟨_, rfl, by (simp only [AV.ren]; first | (rw [mlN, mlS, mlD, show Nat.blt 255 (mlN a b k * 2) = true from Nat.ble_eq_true_of_le (by omega), show Nat.beq (b / 2 ^ (7 - k) % 2) 1 = true from beq_yes (by omega)] <;> rfl) | (rw [mlN, mlS, mlD, show Nat.blt 255 (mlN a b k * 2) = true from Nat.ble_eq_true_of_le (by omega), show Nat.beq (b / 2 ^ (7 - k) % 2) 1 = false from beq_no (by omega)] <;> rfl) | (rw [mlN, mlS, mlD, show Nat.blt 255 (mlN a b k * 2) = false from blt_no (by omega), show Nat.beq (b / 2 ^ (7 - k) % 2) 1 = true from beq_yes (by omega)] <;> rfl) | (rw [mlN, mlS, mlD, show Nat.blt 255 (mlN a b k * 2) = false from blt_no (by omega), show Nat.beq (b / 2 ^ (7 - k) % 2) 1 = false from beq_no (by omega)] <;> rfl)), rfl⟩, ⟨_, rfl, by first | rfl | (simp only [AV.ren]; congr 1 <;> omega), rfl⟩, trivial⟩ trivial⟩
   ·simp only [ne_eq, beq_eq_false_iff_ne] at hc21
    refine .skip ?_
    show Ev _ _ _ _ _
    refine .region ?_
    refine .q (op_move rfl) trivial rfl ?_
    refine .q (op_subI rfl rfl ⟨by omega, by omega⟩) trivial rfl ?_
    refine .q (op_assign rfl) trivial rfl ?_
    refine .nil ?_
    exact ⟨⟨k + 1, by omega⟩, by (try dsimp only); omega, StLe.mk [] rfl rfl ⟨⟨_, rfl, by rfl, rfl⟩, ⟨_, rfl, by rfl, rfl⟩, ⟨_, rfl, by (simp only [AV.ren]; first | (rw [mlN, mlS, mlD, show Nat.blt 255 (mlN a b k * 2) = true from Nat.ble_eq_true_of_le (by omega), show Nat.beq (b / 2 ^ (7 - k) % 2) 1 = true from beq_yes (by omega)] <;> rfl) | (rw [mlN, mlS, mlD, show Nat.blt 255 (mlN a b k * 2) = true from Nat.ble_eq_true_of_le (by omega), show Nat.beq (b / 2 ^ (7 - k) % 2) 1 = false from beq_no (by omega)] <;> rfl) | (rw [mlN, mlS, mlD, show Nat.blt 255 (mlN a b k * 2) = false from blt_no (by omega), show Nat.beq (b / 2 ^ (7 - k) % 2) 1 = true from beq_yes (by omega)] <;> rfl) | (rw [mlN, mlS, mlD, show Nat.blt 255 (mlN a b k * 2) = false from blt_no (by omega), show Nat.beq (b / 2 ^ (7 - k) % 2) 1 = false from beq_no (by omega)] <;> rfl)), rfl⟩, ⟨_, rfl, by first | rfl | (simp only [AV.ren]; congr 1 <;> omega), rfl⟩, trivial⟩ trivial⟩
 ·simp only [decide_eq_false_iff_not] at hc8
  refine .exit ?_
  show Ev _ _ _ _ _
  refine .seq ?_
  refine .region ?_
  refine .q (op_move rfl) trivial rfl ?_
  refine .q (op_assign rfl) trivial rfl ?_
  refine .nil ?_
  show Ev _ _ _ _ _
  refine .ret ?_
  show RetOk _ _ _ _ _ _ _
  exact ret1v rfl (.inl rfl) rfl (by rw [show k = 8 by omega]) trivial
theorem mul2_ev (b : UInt8) : Meets Tryd.prog 27 [.i64 2, .i64 (b.toNat : Int)] [] (.i64 ((dbl b).toNat : Int)) [] := by
 have h := mul_ev 2 b.toNat (by decide) b.toNat_lt
 rw [ml2_eq] at h; exact h
theorem mul3_ev (b : UInt8) : Meets Tryd.prog 27 [.i64 3, .i64 (b.toNat : Int)] [] (.i64 ((b ^^^ dbl b).toNat : Int)) [] := by
 have h := mul_ev 3 b.toNat (by decide) b.toNat_lt
 rw [ml3_eq] at h; exact h
theorem mulx_ev (b : UInt8) : Meets Tryd.prog 27 [.i64 (b.toNat : Int), .i64 2] [] (.i64 ((dbl b).toNat : Int)) [] := by
 have h := mul_ev b.toNat 2 b.toNat_lt (by decide)
 rw [mlx_eq] at h; exact h
set_option maxRecDepth 100000 in
theorem sub_ev (x : UInt8) : Meets Tryd.prog 26 [.i64 (x.toNat : Int)] [] (.i64 ((bxT.getD x.toNat 0).toNat : Int)) [] := by
 refine meets_of_ev (nt := 28) Tryd.func26 rfl rfl (Nat.le_of_ble_eq_true rfl) ?_
 refine .seq ?_
 refine .region ?_
 refine .q (op_assign rfl) trivial rfl ?_
 refine .nil ?_
 show Ev _ _ _ _ _
 refine .seq ?_
 refine .region ?_
 refine .q (op_assign rfl) trivial rfl ?_
 refine .nil ?_
 show Ev _ _ _ _ _
 refine .seq ?_
 refine .seq ?_
 refine .region ?_
 refine .q (op_assign rfl) trivial rfl ?_
 refine .nil ?_
 show Ev _ _ _ _ _
 refine .block ?_
 refine Ev.loop (ι := { j : Nat // j ≤ 254 }) (fun j => ⟨[(0, .i64 (x.toNat : Int)), (3, .i64 ((pwS x.toNat j.1 : Nat) : Int)), (4, .i64 ((j.1 : Nat) : Int))], [], 1000⟩) (fun j => 254 - j.1) ⟨0, Nat.zero_le _⟩ (StLe.mk [] rfl rfl ⟨⟨_, rfl, by first | rfl | (simp only [AV.ren]; congr 1 <;> omega), rfl⟩, ⟨_, rfl, by first | rfl | (simp only [AV.ren]; congr 1 <;> omega), rfl⟩, ⟨_, rfl, by first | rfl | (simp only [AV.ren]; congr 1 <;> omega), rfl⟩, trivial⟩ trivial) ?_
 rintro ⟨j, hj⟩
 dsimp only
 refine .seq ?_
 refine .seq ?_
 refine .region ?_
 refine .q (op_move rfl) trivial rfl ?_
 refine .q (op_cmpI rfl rfl rfl) trivial rfl ?_
 refine .nil ?_
 show Ev _ _ _ _ _
 refine .cond rfl (fun hc8 => ?_) (fun hc8 => ?_)
 ·simp only [decide_eq_true_eq] at hc8
  refine .skip ?_
  show Ev _ _ _ _ _
  refine .seq ?_
  refine .block ?_
  refine .region ?_
  refine .q (op_move rfl) trivial rfl ?_
  refine .q (op_move rfl) trivial rfl ?_
  refine .q (op_call (U := []) [] [] (mul_ev _ _ (pwS_lt x.toNat j) x.toNat_lt) Tryd.func27 (by kernel_rfl) rfl rfl rfl (⟨⟨_, rfl, rfl, rfl⟩, ⟨_, rfl, rfl, rfl⟩, trivial⟩) (trivial) (trivial) (trivial) rfl) trivial rfl ?_
  refine .q (op_assign rfl) trivial rfl ?_
  refine .nil ?_
  show Ev _ _ _ _ _
  refine .region ?_
  refine .q (op_move rfl) trivial rfl ?_
  refine .q (op_addI rfl rfl ⟨by omega, by omega⟩) trivial rfl ?_
  refine .q (op_assign rfl) trivial rfl ?_
  refine .nil ?_
  exact ⟨⟨j + 1, by omega⟩, by show 254 - (j + 1) < 254 - j; omega, StLe.mk [] rfl rfl ⟨⟨_, rfl, by first | rfl | (simp only [AV.ren]; congr 1 <;> omega), rfl⟩, ⟨_, rfl, by first | rfl | (simp only [AV.ren]; congr 1 <;> omega), rfl⟩, ⟨_, rfl, by first | rfl | (simp only [AV.ren]; congr 1 <;> omega), rfl⟩, trivial⟩ trivial⟩
 ·simp only [decide_eq_false_iff_not] at hc8
  refine .exit ?_
  show Ev _ _ _ _ _
  have ej : j = 254 := by omega
  refine Ev.weak (st2 := ⟨[(0, .i64 (x.toNat : Int)), (3, .i64 ((pwS x.toNat (254) : Nat) : Int)), (4, .i64 (((254) : Nat) : Int))], [], 1000⟩) (StLe.mk [] rfl rfl ⟨⟨_, rfl, by first | (simp only [AV.ren]; done) | (simp only [AV.ren]; rw [ej]; done) | rfl, rfl⟩, ⟨_, rfl, by first | (simp only [AV.ren]; done) | (simp only [AV.ren]; rw [ej]; done) | rfl, rfl⟩, ⟨_, rfl, by first | (simp only [AV.ren]; done) | (simp only [AV.ren]; rw [ej]; done) | rfl, rfl⟩, trivial⟩ trivial) ?_
  refine .seq ?_
  refine .region ?_
  refine .q (op_assign rfl) trivial rfl ?_
  refine .nil ?_
  show Ev _ _ _ _ _
  refine .seq ?_
  refine .seq ?_
  refine .region ?_
  refine .q (op_assign rfl) trivial rfl ?_
  refine .nil ?_
  show Ev _ _ _ _ _
  refine .block ?_
  refine Ev.loop (ι := { j : Nat // j ≤ 5 }) (fun j => ⟨[(3, .i64 ((spY (pwS x.toNat 254) j.1 : Nat) : Int)), (5, .i64 ((spS (pwS x.toNat 254) j.1 : Nat) : Int)), (6, .i64 ((j.1 : Nat) : Int))], [], 1000⟩) (fun j => 5 - j.1) ⟨0, Nat.zero_le _⟩ (StLe.mk [] rfl rfl ⟨⟨_, rfl, by first | rfl | (simp only [AV.ren]; congr 1 <;> omega), rfl⟩, ⟨_, rfl, by first | rfl | (simp only [AV.ren]; congr 1 <;> omega), rfl⟩, ⟨_, rfl, by first | rfl | (simp only [AV.ren]; congr 1 <;> omega), rfl⟩, trivial⟩ trivial) ?_
  rintro ⟨j, hj⟩
  dsimp only
  have hy := spY_lt (pwS x.toNat 254) (pwS_lt x.toNat 254) j
  have hs := spS_lt (pwS x.toNat 254) (pwS_lt x.toNat 254) j
  refine .seq ?_
  refine .seq ?_
  refine .region ?_
  refine .q (op_move rfl) trivial rfl ?_
  refine .q (op_cmpI rfl rfl rfl) trivial rfl ?_
  refine .nil ?_
  show Ev _ _ _ _ _
  refine .cond rfl (fun hc15 => ?_) (fun hc15 => ?_)
  ·simp only [decide_eq_true_eq] at hc15
   refine .skip ?_
   show Ev _ _ _ _ _
   refine .seq ?_
   refine .block ?_
   refine .seq ?_
   refine .region ?_
   refine .q (op_move rfl) trivial rfl ?_
   refine .q (op_move rfl) trivial rfl ?_
   refine .q (op_xorI rfl rfl ⟨by omega, by omega⟩) trivial rfl ?_
   refine .q (op_assign rfl) trivial rfl ?_
   refine .nil ?_
   show Ev _ _ _ _ _
   refine .seq ?_
   refine .region ?_
   refine .q (op_move rfl) trivial rfl ?_
   refine .q (op_mulI rfl rfl ⟨by omega, by omega⟩) trivial rfl ?_
   refine .q (op_assign rfl) trivial rfl ?_
   refine .nil ?_
   show Ev _ _ _ _ _
   refine .seq ?_
   refine .region ?_
   refine .q (op_move rfl) trivial rfl ?_
   refine .q (op_cmpI rfl rfl rfl) trivial rfl ?_
   refine .nil ?_
   show Ev _ _ _ _ _
   refine .cond rfl (fun hc24 => ?_) (fun hc24 => ?_)
   ·simp only [decide_eq_true_eq] at hc24
    refine .region ?_
    refine .q (op_move rfl) trivial rfl ?_
    refine .q (op_subI rfl rfl ⟨by omega, by omega⟩) trivial rfl ?_
    refine .q (op_assign rfl) trivial rfl ?_
    refine .nil ?_
    show Ev _ _ _ _ _
    refine .region ?_
    refine .q (op_move rfl) trivial rfl ?_
    refine .q (op_addI rfl rfl ⟨by omega, by omega⟩) trivial rfl ?_
    refine .q (op_assign rfl) trivial rfl ?_
    refine .nil ?_
    exact ⟨⟨j + 1, by omega⟩, by show 5 - (j + 1) < 5 - j; omega, StLe.mk [] rfl rfl ⟨⟨_, rfl, by (simp only [AV.ren]; congr 1; first | (rw [spY, show Nat.blt 255 (spY (pwS x.toNat 254) j * 2) = true from Nat.ble_eq_true_of_le (by omega)]; simp only [cond_true]; omega) | (rw [spY, show Nat.blt 255 (spY (pwS x.toNat 254) j * 2) = false from blt_no (by omega)]; simp only [cond_false]; omega)), rfl⟩, ⟨_, rfl, by first | rfl | (simp only [AV.ren]; congr 1 <;> omega), rfl⟩, ⟨_, rfl, by first | rfl | (simp only [AV.ren]; congr 1 <;> omega), rfl⟩, trivial⟩ trivial⟩
   ·simp only [decide_eq_false_iff_not] at hc24
    refine .skip ?_
    show Ev _ _ _ _ _
    refine .region ?_
    refine .q (op_move rfl) trivial rfl ?_
    refine .q (op_addI rfl rfl ⟨by omega, by omega⟩) trivial rfl ?_
    refine .q (op_assign rfl) trivial rfl ?_
    refine .nil ?_
    exact ⟨⟨j + 1, by omega⟩, by show 5 - (j + 1) < 5 - j; omega, StLe.mk [] rfl rfl ⟨⟨_, rfl, by (simp only [AV.ren]; congr 1; first | (rw [spY, show Nat.blt 255 (spY (pwS x.toNat 254) j * 2) = true from Nat.ble_eq_true_of_le (by omega)]; simp only [cond_true]; omega) | (rw [spY, show Nat.blt 255 (spY (pwS x.toNat 254) j * 2) = false from blt_no (by omega)]; simp only [cond_false]; omega)), rfl⟩, ⟨_, rfl, by first | rfl | (simp only [AV.ren]; congr 1 <;> omega), rfl⟩, ⟨_, rfl, by first | rfl | (simp only [AV.ren]; congr 1 <;> omega), rfl⟩, trivial⟩ trivial⟩
  ·simp only [decide_eq_false_iff_not] at hc15
   refine .exit ?_
   show Ev _ _ _ _ _
   have ej : j = 5 := by omega
   refine Ev.weak (st2 := ⟨[(3, .i64 ((spY (pwS x.toNat 254) (5) : Nat) : Int)), (5, .i64 ((spS (pwS x.toNat 254) (5) : Nat) : Int)), (6, .i64 (((5) : Nat) : Int))], [], 1000⟩) (StLe.mk [] rfl rfl ⟨⟨_, rfl, by first | (simp only [AV.ren]; done) | (simp only [AV.ren]; rw [ej]; done) | rfl, rfl⟩, ⟨_, rfl, by first | (simp only [AV.ren]; done) | (simp only [AV.ren]; rw [ej]; done) | rfl, rfl⟩, ⟨_, rfl, by first | (simp only [AV.ren]; done) | (simp only [AV.ren]; rw [ej]; done) | rfl, rfl⟩, trivial⟩ trivial) ?_
   refine .seq ?_
   refine .region ?_
   refine .q (op_move rfl) trivial rfl ?_
   refine .q (op_assign rfl) trivial rfl ?_
   refine .nil ?_
   show Ev _ _ _ _ _
   refine .ret ?_
   show RetOk _ _ _ _ _ _ _
   exact ret1v rfl (.inl rfl) rfl (by rw [← subN_eq]; rfl) trivial
theorem bi_t4 (w : List UInt8) (m : Nat) (h : w.length = 4 * m) (h2 : 1 ≤ m) : (AV.aggI (biL (t4L w))).list = (AV.aggI []).list ++ ((AV.aggI (biL w)).list.drop (0 + (4 * m - 4) * 1)).take ((4 * m - (4 * m - 4)) * 1) := by
 show (biL (t4L w)).map AV.i64 = [] ++ (((biL w).map AV.i64).drop _).take _
 rw [List.nil_append, ← List.map_drop, ← List.map_take]
 congr 1
 unfold t4L biL
 rw [List.map_take, List.map_drop, h]
 congr 1
 ·omega
 ·congr 1; omega
set_option maxHeartbeats 2000000 in
set_option maxRecDepth 100000 in
theorem words_ev (key : List UInt8) (n : Nat) (hkey : key.length = 4 * n) (hn : 4 ≤ n ∧ n ≤ 8) : Meets Tryd.prog 25 [.str key] [] (.sl 1000 0 (16 * (n + 7)) 1) [(1000, some ⟨.aggI (biL (exL bxT n key)), 3, true⟩)] := by
 refine meets_of_ev (nt := 116) Tryd.func25 rfl rfl (Nat.le_of_ble_eq_true rfl) ?_
 refine .seq ?_
 refine .region ?_
 refine .q (op_assign rfl) trivial rfl ?_
 refine .nil ?_
 show Ev _ _ _ _ _
 refine .seq ?_
 refine .region ?_
 refine .q (op_move rfl) trivial rfl ?_
 refine .q (op_len_str Tryd.underlying9 rfl) trivial rfl ?_
 refine .q (op_quoI rfl rfl ⟨by omega, ⟨by omega, by omega⟩, by omega⟩) trivial rfl ?_
 refine .as (.i64 (n : Int)) (by rw [hkey]; congr 1; omega) ?_
 refine .q (op_assign rfl) trivial rfl ?_
 refine .nil ?_
 show Ev _ _ _ _ _
 refine .seq ?_
 refine .region ?_
 refine .a (ap_build0 (z := 1) (c := .aggI []) Tryd.underlying53 inf3 rfl) trivial rfl ?_
 refine .q (op_assign rfl) trivial rfl ?_
 refine .nil ?_
 show Ev _ _ _ _ _
 refine .seq ?_
 refine .seq ?_
 refine .region ?_
 refine .q (op_assign rfl) trivial rfl ?_
 refine .nil ?_
 show Ev _ _ _ _ _
 refine .block ?_
 refine Ev.loop (ι := { j : Nat // j ≤ key.length }) (fun j => ⟨[(0, .str key), (3, .i64 (n : Int)), (4, .sl 1000 0 j.1 1), (5, .i64 ((j.1 : Nat) : Int))], [(1000, some ⟨.aggI (biL (key.take j.1)), 3, true⟩)], 1008⟩) (fun j => key.length - j.1) ⟨0, Nat.zero_le _⟩ (StLe.mk [(1000, 1000)] rfl rfl ⟨⟨_, rfl, by first | rfl | (simp only [AV.ren]; congr 1 <;> omega), rfl⟩, ⟨_, rfl, by first | rfl | (simp only [AV.ren]; congr 1 <;> omega), rfl⟩, ⟨_, rfl, by first | rfl | (simp only [AV.ren]; congr 1 <;> omega), rfl⟩, ⟨_, rfl, by first | rfl | (simp only [AV.ren]; congr 1 <;> omega), rfl⟩, trivial⟩ ⟨⟨_, _, rfl, rfl, by (simp only [AV.ren]; rfl), rfl, id, rfl⟩, trivial⟩) ?_
 rintro ⟨j, hj⟩
 dsimp only
 have hl : (biL (key.take j)).length = j := by rw [length_biL, List.length_take]; omega
 refine .seq ?_
 refine .seq ?_
 refine .region ?_
 refine .q (op_move rfl) trivial rfl ?_
 refine .q (op_move rfl) trivial rfl ?_
 refine .q (op_len_str Tryd.underlying9 rfl) trivial rfl ?_
 refine .q (op_cmpI rfl rfl rfl) trivial rfl ?_
 refine .nil ?_
 show Ev _ _ _ _ _
 refine .cond rfl (fun hc17 => ?_) (fun hc17 => ?_)
 ·simp only [decide_eq_true_eq] at hc17
  refine .skip ?_
  show Ev _ _ _ _ _
  refine .seq ?_
  refine .block ?_
  refine .region ?_
  refine .q (op_move rfl) trivial rfl ?_
  refine .q (op_move rfl) trivial rfl ?_
  refine .q (op_move rfl) trivial rfl ?_
  refine .q (op_index_str Tryd.underlying9 rfl rfl rfl (by first | omega | (simp only [AV.len]; omega) | (simp only [AV.len, List.length_set]; omega) | assumption | (simp [AV.len]; done))) trivial rfl ?_
  refine .q (op_conv Tryd.underlying5 Tryd.underlying3 rfl rfl) trivial rfl ?_
  refine .a (ap_build (us := [_]) (c := .aggI [_]) Tryd.underlying53 inf3 rfl (by decide) (by decide) ⟨rfl, rfl, rfl, trivial⟩ rfl) trivial rfl ?_
  refine .a (ap_cat Tryd.underlying53 inf3 rfl rfl rfl rfl (by first | omega | rfl | (simp only [AV.len]; omega) | exact hl) rfl rfl (by first | omega | rfl | (simp only [AV.len]; omega) | exact hl) rfl (by first | omega | rfl | (simp only [AV.len]; omega) | exact hl)) trivial rfl ?_
  refine .q (op_assign rfl) trivial rfl ?_
  refine .nil ?_
  show Ev _ _ _ _ _
  refine .region ?_
  refine .q (op_move rfl) trivial rfl ?_
  refine .q (op_addI rfl rfl ⟨by omega, by omega⟩) trivial rfl ?_
  refine .q (op_assign rfl) trivial rfl ?_
  refine .nil ?_
  exact ⟨⟨j + 1, by omega⟩, by show key.length - (j + 1) < key.length - j; omega, StLe.mk [(1000, 1016)] rfl rfl ⟨⟨_, rfl, by first | rfl | (simp only [AV.ren]; congr 1 <;> omega), rfl⟩, ⟨_, rfl, by first | rfl | (simp only [AV.ren]; congr 1 <;> omega), rfl⟩, ⟨_, rfl, by first | rfl | (simp only [AV.ren]; congr 1 <;> omega), rfl⟩, ⟨_, rfl, by first | rfl | (simp only [AV.ren]; congr 1 <;> omega), rfl⟩, trivial⟩ ⟨⟨_, _, rfl, rfl, by (simp only [AV.ren]; rw [take_snoc _ _ (by omega), ← bi_snoc]), rfl, id, rfl⟩, trivial⟩⟩
 ·simp only [decide_eq_false_iff_not] at hc17
  refine .exit ?_
  show Ev _ _ _ _ _
  have ej : j = key.length := by omega
  refine Ev.weak (st2 := ⟨[(0, .str key), (3, .i64 (n : Int)), (4, .sl 1000 0 (key.length) 1), (5, .i64 (((key.length) : Nat) : Int))], [(1000, some ⟨.aggI (biL (key.take (key.length))), 3, true⟩)], 1008⟩) (StLe.mk [(1000, 1000)] rfl rfl ⟨⟨_, rfl, by first | (simp only [AV.ren]; done) | (simp only [AV.ren]; rw [ej]; done) | rfl, rfl⟩, ⟨_, rfl, by first | (simp only [AV.ren]; done) | (simp only [AV.ren]; rw [ej]; done) | rfl, rfl⟩, ⟨_, rfl, by (subst ej; rfl), rfl⟩, ⟨_, rfl, by first | (simp only [AV.ren]; done) | (simp only [AV.ren]; rw [ej]; done) | rfl, rfl⟩, trivial⟩ ⟨⟨_, _, rfl, rfl, by (subst ej; rfl), rfl, id, rfl⟩, trivial⟩) ?_
  refine .seq ?_
  refine .region ?_
  refine .q (op_assign rfl) trivial rfl ?_
  refine .nil ?_
  show Ev _ _ _ _ _
  refine .seq ?_
  refine .seq ?_
  refine .region ?_
  refine .q (op_move rfl) trivial rfl ?_
  refine .q (op_assign rfl) trivial rfl ?_
  refine .nil ?_
  show Ev _ _ _ _ _
  refine .block ?_
  refine Ev.loop (ι := { k : Nat // k ≤ 3 * n + 28 }) (fun q => ⟨[(0, .str key), (3, .i64 (n : Int)), (4, .sl 1000 0 (4 * (n + q.1)) 1), (6, .i64 ((exN bxT n key q.1).2.toNat : Int)), (7, .i64 ((n + q.1 : Nat) : Int))], [(1000, some ⟨.aggI (biL (exN bxT n key q.1).1), 3, true⟩)], 1008⟩) (fun q => 3 * n + 28 - q.1) ⟨0, Nat.zero_le _⟩ (StLe.mk [(1000, 1000)] rfl rfl ⟨⟨_, rfl, by rfl, rfl⟩, ⟨_, rfl, by rfl, rfl⟩, ⟨_, rfl, by first | rfl | (simp only [AV.ren]; congr 1 <;> omega), rfl⟩, ⟨_, rfl, by rfl, rfl⟩, ⟨_, rfl, by first | rfl | (simp only [AV.ren]; congr 1 <;> omega), rfl⟩, trivial⟩ ⟨⟨_, _, rfl, rfl, by (simp only [AV.ren]; rw [List.take_of_length_le (Nat.le_refl _)]; rfl), rfl, id, rfl⟩, trivial⟩) ?_
  rintro ⟨k, hq⟩
  try dsimp only
  replace hq : k ≤ 3 * n + 28 := hq
  have hw : (exN bxT n key k).1.length = 4 * (n + k) := by rw [length_exN, hkey]; omega
  have h4 : (t4L (exN bxT n key k).1).length = 4 := length_t4L _ (by omega)
  have hb4 : (biL (t4L (exN bxT n key k).1)).length = 4 := by rw [length_biL, h4]
  refine .seq ?_
  refine .seq ?_
  refine .region ?_
  refine .q (op_move rfl) trivial rfl ?_
  refine .q (op_move rfl) trivial rfl ?_
  refine .q (op_addI rfl rfl ⟨by omega, by omega⟩) trivial rfl ?_
  refine .q (op_mulI rfl rfl ⟨by omega, by omega⟩) trivial rfl ?_
  refine .q (op_cmpI rfl rfl rfl) trivial rfl ?_
  refine .nil ?_
  show Ev _ _ _ _ _
  refine .cond rfl (fun hc32 => ?_) (fun hc32 => ?_)
  ·simp only [decide_eq_true_eq] at hc32
   refine .skip ?_
   show Ev _ _ _ _ _
   refine .seq ?_
   refine .block ?_
   refine .seq ?_
   refine .region ?_
   refine .a (ap_build0 (z := 1) (c := .aggI []) Tryd.underlying53 inf3 rfl) trivial rfl ?_
   refine .q (op_move rfl) trivial rfl ?_
   refine .q (op_move rfl) trivial rfl ?_
   refine .q (op_mulI rfl rfl ⟨by omega, by omega⟩) trivial rfl ?_
   refine .q (op_subI rfl rfl ⟨by omega, by omega⟩) trivial rfl ?_
   refine .q (op_move rfl) trivial rfl ?_
   refine .q (op_mulI rfl rfl ⟨by omega, by omega⟩) trivial rfl ?_
   refine .q (op_slice_sl Tryd.underlying53 inf3.sz rfl (bnd_some rfl (l := 4 * (n + k) - 4) (by omega)) (bnd_some rfl (l := 4 * (n + k)) (by omega)) (by omega) (by omega)) trivial rfl ?_
   refine .a (ap_append (m := 4 * (n + k) - (4 * (n + k) - 4)) (c' := .aggI (biL (t4L (exN bxT n key k).1))) Tryd.underlying53 Tryd.underlying53 (.inr ⟨_, rfl⟩) inf3 rfl rfl rfl rfl rfl (srcs_sl rfl rfl (by rw [AV.len, length_biL, hw]; omega)) (bi_t4 (exN bxT n key k).1 _ hw (by omega)) (by omega)) trivial rfl ?_
   refine .q (op_assign rfl) trivial rfl ?_
   refine .nil ?_
   show Ev _ _ _ _ _
   refine .seq ?_
   refine .seq ?_
   refine .region ?_
   refine .q (op_move rfl) trivial rfl ?_
   refine .q (op_move rfl) trivial rfl ?_
   refine .q (op_remI rfl rfl ⟨by omega, by omega⟩) trivial rfl ?_
   refine .q (op_cmpI rfl rfl rfl) trivial rfl ?_
   refine .nil ?_
   show Ev _ _ _ _ _
   refine .cond rfl (fun hc47 => ?_) (fun hc47 => ?_)
   ·simp only [beq_iff_eq] at hc47
    refine .seq ?_
    refine .drawn [[], [0], [0, 1], [0, 1, 2], [], [0, 1, 2, 3, 4], [], [6], [6, 7], [0, 1, 2, 3, 6, 7, 8], [], [10], [10, 11], [0, 1, 2, 3, 6, 7, 8, 9, 10, 11, 12], [], [14], [14, 15], [0, 1, 2, 3, 6, 7, 8, 9, 10, 11, 12, 13, 14, 15, 16], [0, 1, 2, 3, 4, 5, 6, 7, 8, 9, 10, 11, 12, 13, 14, 15, 16, 17], [0, 1, 2, 3, 4, 5, 6, 7, 8, 9, 10, 11, 12, 13, 14, 15, 16, 17, 18]] [2, 3, 8, 9, 12, 13, 16, 17, 18] [] (by kernel_rfl) (by kernel_rfl) rfl ?_
    show DK _ [0, 1, 2, 3, 4, 5, 6, 7, 8, 9, 10, 11, 12, 13, 14, 15, 16, 17, 18, 19] _ _ _
    refine .q rfl (op_move rfl) trivial ?_
    refine .q rfl (ap_idx0 Tryd.underlying53 inf3.sz rfl rfl rfl (by first | (show _ < _; omega) | (dsimp only; omega) | (simp; omega))) trivial ?_
    refine .q rfl (op_load Tryd.underlying3 rfl rfl rfl rfl (by first | omega | (simp only [AV.len, hb4]; done) | (simp only [AV.len, hb4]; omega))) trivial ?_
    refine .as (.i64 (((t4L (exN bxT n key k).1).getD 1 0).toNat : Int)) (by rw [bi_get]) ?_
    refine .q rfl (op_call (U := []) [] [] (sub_ev _) Tryd.func26 (by kernel_rfl) rfl rfl rfl (⟨⟨_, rfl, rfl, rfl⟩, trivial⟩) (trivial) (trivial) (trivial) rfl) trivial ?_
    refine .q rfl (op_move rfl) trivial ?_
    refine .q rfl (op_xorB rfl rfl) trivial ?_
    refine .q rfl (op_move rfl) trivial ?_
    refine .q rfl (ap_idx0 Tryd.underlying53 inf3.sz rfl rfl rfl (by first | (show _ < _; omega) | (dsimp only; omega) | (simp; omega))) trivial ?_
    refine .q rfl (op_load Tryd.underlying3 rfl rfl rfl rfl (by first | omega | (simp only [AV.len, hb4]; done) | (simp only [AV.len, hb4]; omega))) trivial ?_
    refine .as (.i64 (((t4L (exN bxT n key k).1).getD 2 0).toNat : Int)) (by rw [bi_get]) ?_
    refine .q rfl (op_call (U := []) [] [] (sub_ev _) Tryd.func26 (by kernel_rfl) rfl rfl rfl (⟨⟨_, rfl, rfl, rfl⟩, trivial⟩) (trivial) (trivial) (trivial) rfl) trivial ?_
    refine .q rfl (op_move rfl) trivial ?_
    refine .q rfl (ap_idx0 Tryd.underlying53 inf3.sz rfl rfl rfl (by first | (show _ < _; omega) | (dsimp only; omega) | (simp; omega))) trivial ?_
    refine .q rfl (op_load Tryd.underlying3 rfl rfl rfl rfl (by first | omega | (simp only [AV.len, hb4]; done) | (simp only [AV.len, hb4]; omega))) trivial ?_
    refine .as (.i64 (((t4L (exN bxT n key k).1).getD 3 0).toNat : Int)) (by rw [bi_get]) ?_
    refine .q rfl (op_call (U := []) [] [] (sub_ev _) Tryd.func26 (by kernel_rfl) rfl rfl rfl (⟨⟨_, rfl, rfl, rfl⟩, trivial⟩) (trivial) (trivial) (trivial) rfl) trivial ?_
    refine .q rfl (op_move rfl) trivial ?_
    refine .q rfl (ap_idx0 Tryd.underlying53 inf3.sz rfl rfl rfl (by first | (show _ < _; omega) | (dsimp only; omega) | (simp; omega))) trivial ?_
    refine .q rfl (op_load Tryd.underlying3 rfl rfl rfl rfl (by first | omega | (simp only [AV.len, hb4]; done) | (simp only [AV.len, hb4]; omega))) trivial ?_
    refine .as (.i64 (((t4L (exN bxT n key k).1).getD 0 0).toNat : Int)) (by rw [bi_get]) ?_
    refine .q rfl (op_call (U := []) [] [] (sub_ev _) Tryd.func26 (by kernel_rfl) rfl rfl rfl (⟨⟨_, rfl, rfl, rfl⟩, trivial⟩) (trivial) (trivial) (trivial) rfl) trivial ?_
    refine .a rfl (ap_build (us := [_, _, _, _]) (c := .aggI [_, _, _, _]) Tryd.underlying53 inf3 rfl (by decide) (by decide) ⟨rfl, rfl, rfl, rfl, rfl, rfl, rfl, rfl, rfl, rfl, rfl, rfl, trivial⟩ rfl) trivial rfl rfl ?_
    refine .q rfl (op_assign rfl) trivial ?_
    refine .nil ?_
    show Ev _ _ _ _ _
    refine .region ?_
    refine .q (op_move rfl) trivial rfl ?_
    refine .q (op_call (U := []) [] [] (mulx_ev _) Tryd.func27 (by kernel_rfl) rfl rfl rfl (⟨⟨_, rfl, rfl, rfl⟩, ⟨_, rfl, rfl, rfl⟩, trivial⟩) (trivial) (trivial) (trivial) rfl) trivial rfl ?_
    refine .q (op_assign rfl) trivial rfl ?_
    refine .nil ?_
    show Ev _ _ _ _ _
    refine .seq ?_
    refine .region ?_
    refine .q (op_assign rfl) trivial rfl ?_
    refine .nil ?_
    show Ev _ _ _ _ _
    refine .block ?_
    refine Ev.loop (ι := { j : Nat // j ≤ 4 }) (fun j => ⟨[(0, .str key), (3, .i64 (n : Int)), (4, .sl 1000 0 (4 * (n + k) + j.1) 1), (6, .i64 ((exP n (n + k) (exN bxT n key k).2).toNat : Int)), (7, .i64 ((n + k : Nat) : Int)), (8, .sl 1008 0 4 1), (9, .i64 ((j.1 : Nat) : Int))], [(1000, some ⟨.aggI (biL (exJ (exT bxT n (n + k) (exN bxT n key k).2 (exN bxT n key k).1) n (exN bxT n key k).1 j.1)), 3, true⟩), (1008, some ⟨.aggI (biL (exT bxT n (n + k) (exN bxT n key k).2 (exN bxT n key k).1)), 3, true⟩)], 1016⟩) (fun j => 4 - j.1) ⟨0, Nat.zero_le _⟩ (StLe.mk [(1000, 1000), (1008, 1168)] rfl rfl ⟨⟨_, rfl, by first | rfl | (simp only [AV.ren]; congr 1 <;> omega), rfl⟩, ⟨_, rfl, by first | rfl | (simp only [AV.ren]; congr 1 <;> omega), rfl⟩, ⟨_, rfl, by first | rfl | (simp only [AV.ren]; congr 1 <;> omega), rfl⟩, ⟨_, rfl, by (simp only [AV.ren]; first | (rw [exP, if_pos (mod_eq hc47)] <;> rfl) | (rw [exP, if_neg (mod_ne hc47)] <;> rfl)), rfl⟩, ⟨_, rfl, by first | rfl | (simp only [AV.ren]; congr 1 <;> omega), rfl⟩, ⟨_, rfl, by (simp only [AV.ren]; first | rfl | (congr 1 <;> omega)), rfl⟩, ⟨_, rfl, by first | rfl | (simp only [AV.ren]; congr 1 <;> omega), rfl⟩, trivial⟩ ⟨⟨_, _, rfl, rfl, rfl, rfl, id, rfl⟩, ⟨_, _, rfl, rfl, by (simp only [AV.ren]; first | (rw [exT, if_pos (mod_eq hc47)] <;> rfl) | (rw [exT, if_neg (mod_ne hc47), if_pos (by omega)] <;> rfl) | (rw [exT, if_neg (mod_ne hc47), if_neg (by omega)] <;> rfl)), rfl, id, rfl⟩, trivial⟩) ?_
    rintro ⟨j, hj⟩
    dsimp only
    have hj := length_exJ (exT bxT n (n + k) (exN bxT n key k).2 (exN bxT n key k).1) n (exN bxT n key k).1 j
    have ht := length_exT bxT n (n + k) (exN bxT n key k).2 (exN bxT n key k).1 (by omega)
    rw [hw] at hj
    have hbj : (biL (exJ (exT bxT n (n + k) (exN bxT n key k).2 (exN bxT n key k).1) n (exN bxT n key k).1 j)).length = 4 * (n + k) + j := by rw [length_biL, hj]
    have hbt : (biL (exT bxT n (n + k) (exN bxT n key k).2 (exN bxT n key k).1)).length = 4 := by rw [length_biL, ht]
    refine .seq ?_
    refine .seq ?_
    refine .region ?_
    refine .q (op_move rfl) trivial rfl ?_
    refine .q (op_cmpI rfl rfl rfl) trivial rfl ?_
    refine .nil ?_
    show Ev _ _ _ _ _
    refine .cond rfl (fun hc94 => ?_) (fun hc94 => ?_)
    ·simp only [decide_eq_true_eq] at hc94
     refine .skip ?_
     show Ev _ _ _ _ _
     refine .seq ?_
     refine .block ?_
     refine .drawn [[], [], [], [1, 2], [1, 2, 3], [], [], [6], [], [8], [6, 7, 8, 9], [], [6, 7, 8, 9, 10, 11], [5, 6, 7, 8, 9, 10, 11, 12], [5, 6, 7, 8, 9, 10, 11, 12, 13], [1, 2, 3, 4, 5, 6, 7, 8, 9, 10, 11, 12, 13, 14], [1, 2, 3, 4, 5, 6, 7, 8, 9, 10, 11, 12, 13, 14, 15], [0, 1, 2, 3, 4, 5, 6, 7, 8, 9, 10, 11, 12, 13, 14, 15, 16], [0, 1, 2, 3, 4, 5, 6, 7, 8, 9, 10, 11, 12, 13, 14, 15, 16, 17]] [4, 14, 16, 17] [17] (by kernel_rfl) (by kernel_rfl) rfl ?_
     show DK _ [0, 1, 2, 3, 4, 5, 6, 7, 8, 9, 10, 11, 12, 13, 14, 15, 16, 17, 18] _ _ _
     refine .q rfl (op_move rfl) trivial ?_
     refine .q rfl (op_move rfl) trivial ?_
     refine .q rfl (op_move rfl) trivial ?_
     refine .q rfl (ap_idx0 Tryd.underlying53 inf3.sz rfl rfl rfl (by omega)) trivial ?_
     refine .q rfl (op_load Tryd.underlying3 rfl rfl rfl rfl (by show _ < List.length _; rw [hbt]; omega)) trivial ?_
     refine .as (.i64 (((exT bxT n (n + k) (exN bxT n key k).2 (exN bxT n key k).1).getD j 0).toNat : Int)) (by rw [bi_get]) ?_
     refine .q rfl (op_move rfl) trivial ?_
     refine .q rfl (op_move rfl) trivial ?_
     refine .q rfl (op_mulI rfl rfl ⟨by omega, by omega⟩) trivial ?_
     refine .q rfl (op_move rfl) trivial ?_
     refine .q rfl (op_mulI rfl rfl ⟨by omega, by omega⟩) trivial ?_
     refine .q rfl (op_subI rfl rfl ⟨by omega, by omega⟩) trivial ?_
     refine .q rfl (op_move rfl) trivial ?_
     refine .q rfl (op_addI rfl rfl ⟨by omega, by omega⟩) trivial ?_
     refine .q rfl (ap_idx0 Tryd.underlying53 inf3.sz rfl rfl (i := 4 * (n + k) + j - 4 * n) (by omega) (by omega)) trivial ?_
     refine .q rfl (op_load Tryd.underlying3 rfl rfl rfl rfl (by show _ < List.length _; rw [hbj]; omega)) trivial ?_
     refine .as (.i64 (((exJ (exT bxT n (n + k) (exN bxT n key k).2 (exN bxT n key k).1) n (exN bxT n key k).1 j).getD (4 * (n + k) + j - 4 * n) 0).toNat : Int)) (by rw [bi_get]) ?_
     refine .q rfl (op_xorB rfl rfl) trivial ?_
     refine .a rfl (ap_build (us := [_]) (c := .aggI [_]) Tryd.underlying53 inf3 rfl (by decide) (by decide) ⟨rfl, rfl, rfl, trivial⟩ rfl) trivial rfl rfl ?_
     refine .a rfl (ap_cat Tryd.underlying53 inf3 rfl rfl rfl rfl (by first | omega | rfl | (simp only [AV.len]; omega) | exact hbj) rfl rfl (by first | omega | rfl | (simp only [AV.len]; omega) | exact hbj) rfl (by first | omega | rfl | (simp only [AV.len]; omega) | exact hbj)) trivial rfl rfl ?_
     refine .q rfl (op_assign rfl) trivial ?_
     refine .nil ?_
     show Ev _ _ _ _ _
     refine .region ?_
     refine .q (op_move rfl) trivial rfl ?_
     refine .q (op_addI rfl rfl ⟨by omega, by omega⟩) trivial rfl ?_
     refine .q (op_assign rfl) trivial rfl ?_
     refine .nil ?_
     exact ⟨⟨j + 1, by omega⟩, by show 4 - (j + 1) < 4 - j; omega, StLe.mk [(1000, 1152), (1008, 1008)] rfl rfl ⟨⟨_, rfl, by first | rfl | (simp only [AV.ren]; congr 1 <;> omega), rfl⟩, ⟨_, rfl, by first | rfl | (simp only [AV.ren]; congr 1 <;> omega), rfl⟩, ⟨_, rfl, by first | rfl | (simp only [AV.ren]; congr 1 <;> omega), rfl⟩, ⟨_, rfl, by first | rfl | (simp only [AV.ren]; congr 1 <;> omega), rfl⟩, ⟨_, rfl, by first | rfl | (simp only [AV.ren]; congr 1 <;> omega), rfl⟩, ⟨_, rfl, by first | rfl | (simp only [AV.ren]; congr 1 <;> omega), rfl⟩, ⟨_, rfl, by first | rfl | (simp only [AV.ren]; congr 1 <;> omega), rfl⟩, trivial⟩ ⟨⟨_, _, rfl, rfl, by (simp only [AV.ren]; rw [exJ, ← bi_snoc, hj]), rfl, id, rfl⟩, ⟨_, _, rfl, rfl, by first | rfl | (simp only [AV.ren]; congr 1 <;> omega), rfl, id, rfl⟩, trivial⟩⟩
    ·simp only [decide_eq_false_iff_not] at hc94
     refine .exit ?_
     show Ev _ _ _ _ _
     have ej : j = 4 := by omega
     refine Ev.weak (st2 := ⟨[(0, .str key), (3, .i64 (n : Int)), (4, .sl 1000 0 (4 * (n + k) + (4)) 1), (6, .i64 ((exP n (n + k) (exN bxT n key k).2).toNat : Int)), (7, .i64 ((n + k : Nat) : Int)), (8, .sl 1008 0 4 1), (9, .i64 (((4) : Nat) : Int))], [(1000, some ⟨.aggI (biL (exJ (exT bxT n (n + k) (exN bxT n key k).2 (exN bxT n key k).1) n (exN bxT n key k).1 (4))), 3, true⟩), (1008, some ⟨.aggI (biL (exT bxT n (n + k) (exN bxT n key k).2 (exN bxT n key k).1)), 3, true⟩)], 1016⟩) (StLe.mk [(1000, 1000), (1008, 1008)] rfl rfl ⟨⟨_, rfl, by first | (simp only [AV.ren]; done) | (simp only [AV.ren]; rw [ej]; done) | rfl, rfl⟩, ⟨_, rfl, by first | (simp only [AV.ren]; done) | (simp only [AV.ren]; rw [ej]; done) | rfl, rfl⟩, ⟨_, rfl, by (subst ej; rfl), rfl⟩, ⟨_, rfl, by first | (simp only [AV.ren]; done) | (simp only [AV.ren]; rw [ej]; done) | rfl, rfl⟩, ⟨_, rfl, by first | (simp only [AV.ren]; done) | (simp only [AV.ren]; rw [ej]; done) | rfl, rfl⟩, ⟨_, rfl, by first | (simp only [AV.ren]; done) | (simp only [AV.ren]; rw [ej]; done) | rfl, rfl⟩, ⟨_, rfl, by first | (simp only [AV.ren]; done) | (simp only [AV.ren]; rw [ej]; done) | rfl, rfl⟩, trivial⟩ ⟨⟨_, _, rfl, rfl, by first | (simp only [AV.ren]; done) | (simp only [AV.ren]; rw [ej]; done) | rfl, rfl, id, rfl⟩, ⟨_, _, rfl, rfl, by first | (simp only [AV.ren]; done) | (simp only [AV.ren]; rw [ej]; done) | rfl, rfl, id, rfl⟩, trivial⟩) ?_
     refine .region ?_
     refine .q (op_move rfl) trivial rfl ?_
     refine .q (op_addI rfl rfl ⟨by omega, by omega⟩) trivial rfl ?_
     refine .q (op_assign rfl) trivial rfl ?_
     refine .nil ?_
     exact ⟨⟨k + 1, by omega⟩, by (try dsimp only); omega, StLe.mk [(1000, 1000)] rfl rfl ⟨⟨_, rfl, by rfl, rfl⟩, ⟨_, rfl, by rfl, rfl⟩, ⟨_, rfl, by first | rfl | (simp only [AV.ren]; congr 1 <;> omega), rfl⟩, ⟨_, rfl, by (simp only [AV.ren]; rfl), rfl⟩, ⟨_, rfl, by first | rfl | (simp only [AV.ren]; congr 1 <;> omega), rfl⟩, trivial⟩ ⟨⟨_, _, rfl, rfl, by (simp only [AV.ren]; rfl), rfl, id, rfl⟩, trivial⟩⟩
   ·simp only [ne_eq, beq_eq_false_iff_ne] at hc47
    refine .seq ?_
    refine .region ?_
    refine .q (op_move rfl) trivial rfl ?_
    refine .q (op_cmpI rfl rfl rfl) trivial rfl ?_
    refine .q (op_move rfl) trivial rfl ?_
    refine .split (fun hg71 => ?_) (fun hg71 => ?_)
    ·simp only [beq_iff_eq] at hg71
     refine .q (op_move rfl) ⟨_, rfl, rfl⟩ rfl ?_
     refine .q (op_remI rfl rfl ⟨by omega, by omega⟩) ⟨_, rfl, rfl⟩ rfl ?_
     refine .q (op_cmpI rfl rfl rfl) ⟨_, rfl, rfl⟩ rfl ?_
     refine .q (op_pick_true rfl rfl rfl) trivial rfl ?_
     refine .nil ?_
     show Ev _ _ _ _ _
     refine .cond rfl (fun hc75 => ?_) (fun hc75 => ?_)
     ·simp only [beq_iff_eq] at hc75
      refine .drawn [[], [0], [0, 1], [0, 1, 2], [], [4], [4, 5], [0, 1, 2, 3, 4, 5, 6], [], [8], [8, 9], [0, 1, 2, 3, 4, 5, 6, 7, 8, 9, 10], [], [12], [12, 13], [0, 1, 2, 3, 4, 5, 6, 7, 8, 9, 10, 11, 12, 13, 14], [0, 1, 2, 3, 4, 5, 6, 7, 8, 9, 10, 11, 12, 13, 14, 15], [0, 1, 2, 3, 4, 5, 6, 7, 8, 9, 10, 11, 12, 13, 14, 15, 16]] [2, 3, 6, 7, 10, 11, 14, 15, 16] [] (by kernel_rfl) (by kernel_rfl) rfl ?_
      show DK _ [0, 1, 2, 3, 4, 5, 6, 7, 8, 9, 10, 11, 12, 13, 14, 15, 16, 17] _ _ _
      refine .q rfl (op_move rfl) trivial ?_
      refine .q rfl (ap_idx0 Tryd.underlying53 inf3.sz rfl rfl rfl (by first | (show _ < _; omega) | (dsimp only; omega) | (simp; omega))) trivial ?_
      refine .q rfl (op_load Tryd.underlying3 rfl rfl rfl rfl (by first | omega | (simp only [AV.len, hb4]; done) | (simp only [AV.len, hb4]; omega))) trivial ?_
      refine .as (.i64 (((t4L (exN bxT n key k).1).getD 0 0).toNat : Int)) (by rw [bi_get]) ?_
      refine .q rfl (op_call (U := []) [] [] (sub_ev _) Tryd.func26 (by kernel_rfl) rfl rfl rfl (⟨⟨_, rfl, rfl, rfl⟩, trivial⟩) (trivial) (trivial) (trivial) rfl) trivial ?_
      refine .q rfl (op_move rfl) trivial ?_
      refine .q rfl (ap_idx0 Tryd.underlying53 inf3.sz rfl rfl rfl (by first | (show _ < _; omega) | (dsimp only; omega) | (simp; omega))) trivial ?_
      refine .q rfl (op_load Tryd.underlying3 rfl rfl rfl rfl (by first | omega | (simp only [AV.len, hb4]; done) | (simp only [AV.len, hb4]; omega))) trivial ?_
      refine .as (.i64 (((t4L (exN bxT n key k).1).getD 1 0).toNat : Int)) (by rw [bi_get]) ?_
      refine .q rfl (op_call (U := []) [] [] (sub_ev _) Tryd.func26 (by kernel_rfl) rfl rfl rfl (⟨⟨_, rfl, rfl, rfl⟩, trivial⟩) (trivial) (trivial) (trivial) rfl) trivial ?_
      refine .q rfl (op_move rfl) trivial ?_
      refine .q rfl (ap_idx0 Tryd.underlying53 inf3.sz rfl rfl rfl (by first | (show _ < _; omega) | (dsimp only; omega) | (simp; omega))) trivial ?_
      refine .q rfl (op_load Tryd.underlying3 rfl rfl rfl rfl (by first | omega | (simp only [AV.len, hb4]; done) | (simp only [AV.len, hb4]; omega))) trivial ?_
      refine .as (.i64 (((t4L (exN bxT n key k).1).getD 2 0).toNat : Int)) (by rw [bi_get]) ?_
      refine .q rfl (op_call (U := []) [] [] (sub_ev _) Tryd.func26 (by kernel_rfl) rfl rfl rfl (⟨⟨_, rfl, rfl, rfl⟩, trivial⟩) (trivial) (trivial) (trivial) rfl) trivial ?_
      refine .q rfl (op_move rfl) trivial ?_
      refine .q rfl (ap_idx0 Tryd.underlying53 inf3.sz rfl rfl rfl (by first | (show _ < _; omega) | (dsimp only; omega) | (simp; omega))) trivial ?_
      refine .q rfl (op_load Tryd.underlying3 rfl rfl rfl rfl (by first | omega | (simp only [AV.len, hb4]; done) | (simp only [AV.len, hb4]; omega))) trivial ?_
      refine .as (.i64 (((t4L (exN bxT n key k).1).getD 3 0).toNat : Int)) (by rw [bi_get]) ?_
      refine .q rfl (op_call (U := []) [] [] (sub_ev _) Tryd.func26 (by kernel_rfl) rfl rfl rfl (⟨⟨_, rfl, rfl, rfl⟩, trivial⟩) (trivial) (trivial) (trivial) rfl) trivial ?_
      refine .a rfl (ap_build (us := [_, _, _, _]) (c := .aggI [_, _, _, _]) Tryd.underlying53 inf3 rfl (by decide) (by decide) ⟨rfl, rfl, rfl, rfl, rfl, rfl, rfl, rfl, rfl, rfl, rfl, rfl, trivial⟩ rfl) trivial rfl rfl ?_
      refine .q rfl (op_assign rfl) trivial ?_
      refine .nil ?_
      show Ev _ _ _ _ _
      refine .seq ?_
      refine .region ?_
      refine .q (op_assign rfl) trivial rfl ?_
      refine .nil ?_
      show Ev _ _ _ _ _
      refine .block ?_
      refine Ev.loop (ι := { j : Nat // j ≤ 4 }) (fun j => ⟨[(0, .str key), (3, .i64 (n : Int)), (4, .sl 1000 0 (4 * (n + k) + j.1) 1), (6, .i64 ((exP n (n + k) (exN bxT n key k).2).toNat : Int)), (7, .i64 ((n + k : Nat) : Int)), (8, .sl 1008 0 4 1), (9, .i64 ((j.1 : Nat) : Int))], [(1000, some ⟨.aggI (biL (exJ (exT bxT n (n + k) (exN bxT n key k).2 (exN bxT n key k).1) n (exN bxT n key k).1 j.1)), 3, true⟩), (1008, some ⟨.aggI (biL (exT bxT n (n + k) (exN bxT n key k).2 (exN bxT n key k).1)), 3, true⟩)], 1016⟩) (fun j => 4 - j.1) ⟨0, Nat.zero_le _⟩ (StLe.mk [(1000, 1000), (1008, 1152)] rfl rfl ⟨⟨_, rfl, by first | rfl | (simp only [AV.ren]; congr 1 <;> omega), rfl⟩, ⟨_, rfl, by first | rfl | (simp only [AV.ren]; congr 1 <;> omega), rfl⟩, ⟨_, rfl, by first | rfl | (simp only [AV.ren]; congr 1 <;> omega), rfl⟩, ⟨_, rfl, by (simp only [AV.ren]; first | (rw [exP, if_pos (mod_eq hc47)] <;> rfl) | (rw [exP, if_neg (mod_ne hc47)] <;> rfl)), rfl⟩, ⟨_, rfl, by first | rfl | (simp only [AV.ren]; congr 1 <;> omega), rfl⟩, ⟨_, rfl, by (simp only [AV.ren]; first | rfl | (congr 1 <;> omega)), rfl⟩, ⟨_, rfl, by first | rfl | (simp only [AV.ren]; congr 1 <;> omega), rfl⟩, trivial⟩ ⟨⟨_, _, rfl, rfl, rfl, rfl, id, rfl⟩, ⟨_, _, rfl, rfl, by (simp only [AV.ren]; first | (rw [exT, if_pos (mod_eq hc47)] <;> rfl) | (rw [exT, if_neg (mod_ne hc47), if_pos (by omega)] <;> rfl) | (rw [exT, if_neg (mod_ne hc47), if_neg (by omega)] <;> rfl)), rfl, id, rfl⟩, trivial⟩) ?_
      rintro ⟨j, hj⟩
      dsimp only
      have hj := length_exJ (exT bxT n (n + k) (exN bxT n key k).2 (exN bxT n key k).1) n (exN bxT n key k).1 j
      have ht := length_exT bxT n (n + k) (exN bxT n key k).2 (exN bxT n key k).1 (by omega)
      rw [hw] at hj
      have hbj : (biL (exJ (exT bxT n (n + k) (exN bxT n key k).2 (exN bxT n key k).1) n (exN bxT n key k).1 j)).length = 4 * (n + k) + j := by rw [length_biL, hj]
      have hbt : (biL (exT bxT n (n + k) (exN bxT n key k).2 (exN bxT n key k).1)).length = 4 := by rw [length_biL, ht]
      refine .seq ?_
      refine .seq ?_
      refine .region ?_
      refine .q (op_move rfl) trivial rfl ?_
      refine .q (op_cmpI rfl rfl rfl) trivial rfl ?_
      refine .nil ?_
      show Ev _ _ _ _ _
      refine .cond rfl (fun hc94 => ?_) (fun hc94 => ?_)
      ·simp only [decide_eq_true_eq] at hc94
       refine .skip ?_
       show Ev _ _ _ _ _
       refine .seq ?_
       refine .block ?_
       refine .drawn [[], [], [], [1, 2], [1, 2, 3], [], [], [6], [], [8], [6, 7, 8, 9], [], [6, 7, 8, 9, 10, 11], [5, 6, 7, 8, 9, 10, 11, 12], [5, 6, 7, 8, 9, 10, 11, 12, 13], [1, 2, 3, 4, 5, 6, 7, 8, 9, 10, 11, 12, 13, 14], [1, 2, 3, 4, 5, 6, 7, 8, 9, 10, 11, 12, 13, 14, 15], [0, 1, 2, 3, 4, 5, 6, 7, 8, 9, 10, 11, 12, 13, 14, 15, 16], [0, 1, 2, 3, 4, 5, 6, 7, 8, 9, 10, 11, 12, 13, 14, 15, 16, 17]] [4, 14, 16, 17] [17] (by kernel_rfl) (by kernel_rfl) rfl ?_
       show DK _ [0, 1, 2, 3, 4, 5, 6, 7, 8, 9, 10, 11, 12, 13, 14, 15, 16, 17, 18] _ _ _
       refine .q rfl (op_move rfl) trivial ?_
       refine .q rfl (op_move rfl) trivial ?_
       refine .q rfl (op_move rfl) trivial ?_
       refine .q rfl (ap_idx0 Tryd.underlying53 inf3.sz rfl rfl rfl (by omega)) trivial ?_
       refine .q rfl (op_load Tryd.underlying3 rfl rfl rfl rfl (by show _ < List.length _; rw [hbt]; omega)) trivial ?_
       refine .as (.i64 (((exT bxT n (n + k) (exN bxT n key k).2 (exN bxT n key k).1).getD j 0).toNat : Int)) (by rw [bi_get]) ?_
       refine .q rfl (op_move rfl) trivial ?_
       refine .q rfl (op_move rfl) trivial ?_
       refine .q rfl (op_mulI rfl rfl ⟨by omega, by omega⟩) trivial ?_
       refine .q rfl (op_move rfl) trivial ?_
       refine .q rfl (op_mulI rfl rfl ⟨by omega, by omega⟩) trivial ?_
       refine .q rfl (op_subI rfl rfl ⟨by omega, by omega⟩) trivial ?_
       refine .q rfl (op_move rfl) trivial ?_
       refine .q rfl (op_addI rfl rfl ⟨by omega, by omega⟩) trivial ?_
       refine .q rfl (ap_idx0 Tryd.underlying53 inf3.sz rfl rfl (i := 4 * (n + k) + j - 4 * n) (by omega) (by omega)) trivial ?_
       refine .q rfl (op_load Tryd.underlying3 rfl rfl rfl rfl (by show _ < List.length _; rw [hbj]; omega)) trivial ?_
       refine .as (.i64 (((exJ (exT bxT n (n + k) (exN bxT n key k).2 (exN bxT n key k).1) n (exN bxT n key k).1 j).getD (4 * (n + k) + j - 4 * n) 0).toNat : Int)) (by rw [bi_get]) ?_
       refine .q rfl (op_xorB rfl rfl) trivial ?_
       refine .a rfl (ap_build (us := [_]) (c := .aggI [_]) Tryd.underlying53 inf3 rfl (by decide) (by decide) ⟨rfl, rfl, rfl, trivial⟩ rfl) trivial rfl rfl ?_
       refine .a rfl (ap_cat Tryd.underlying53 inf3 rfl rfl rfl rfl (by first | omega | rfl | (simp only [AV.len]; omega) | exact hbj) rfl rfl (by first | omega | rfl | (simp only [AV.len]; omega) | exact hbj) rfl (by first | omega | rfl | (simp only [AV.len]; omega) | exact hbj)) trivial rfl rfl ?_
       refine .q rfl (op_assign rfl) trivial ?_
       refine .nil ?_
       show Ev _ _ _ _ _
       refine .region ?_
       refine .q (op_move rfl) trivial rfl ?_
       refine .q (op_addI rfl rfl ⟨by omega, by omega⟩) trivial rfl ?_
       refine .q (op_assign rfl) trivial rfl ?_
       refine .nil ?_
       exact ⟨⟨j + 1, by omega⟩, by show 4 - (j + 1) < 4 - j; omega, StLe.mk [(1000, 1152), (1008, 1008)] rfl rfl ⟨⟨_, rfl, by first | rfl | (simp only [AV.ren]; congr 1 <;> omega), rfl⟩, ⟨_, rfl, by first | rfl | (simp only [AV.ren]; congr 1 <;> omega), rfl⟩, ⟨_, rfl, by first | rfl | (simp only [AV.ren]; congr 1 <;> omega), rfl⟩, ⟨_, rfl, by first | rfl | (simp only [AV.ren]; congr 1 <;> omega), rfl⟩, ⟨_, rfl, by first | rfl | (simp only [AV.ren]; congr 1 <;> omega), rfl⟩, ⟨_, rfl, by first | rfl | (simp only [AV.ren]; congr 1 <;> omega), rfl⟩, ⟨_, rfl, by first | rfl | (simp only [AV.ren]; congr 1 <;> omega), rfl⟩, trivial⟩ ⟨⟨_, _, rfl, rfl, by (simp only [AV.ren]; rw [exJ, ← bi_snoc, hj]), rfl, id, rfl⟩, ⟨_, _, rfl, rfl, by first | rfl | (simp only [AV.ren]; congr 1 <;> omega), rfl, id, rfl⟩, trivial⟩⟩
      ·simp only [decide_eq_false_iff_not] at hc94
       refine .exit ?_
       show Ev _ _ _ _ _
       have ej : j = 4 := by omega
       refine Ev.weak (st2 := ⟨[(0, .str key), (3, .i64 (n : Int)), (4, .sl 1000 0 (4 * (n + k) + (4)) 1), (6, .i64 ((exP n (n + k) (exN bxT n key k).2).toNat : Int)), (7, .i64 ((n + k : Nat) : Int)), (8, .sl 1008 0 4 1), (9, .i64 (((4) : Nat) : Int))], [(1000, some ⟨.aggI (biL (exJ (exT bxT n (n + k) (exN bxT n key k).2 (exN bxT n key k).1) n (exN bxT n key k).1 (4))), 3, true⟩), (1008, some ⟨.aggI (biL (exT bxT n (n + k) (exN bxT n key k).2 (exN bxT n key k).1)), 3, true⟩)], 1016⟩) (StLe.mk [(1000, 1000), (1008, 1008)] rfl rfl ⟨⟨_, rfl, by first | (simp only [AV.ren]; done) | (simp only [AV.ren]; rw [ej]; done) | rfl, rfl⟩, ⟨_, rfl, by first | (simp only [AV.ren]; done) | (simp only [AV.ren]; rw [ej]; done) | rfl, rfl⟩, ⟨_, rfl, by (subst ej; rfl), rfl⟩, ⟨_, rfl, by first | (simp only [AV.ren]; done) | (simp only [AV.ren]; rw [ej]; done) | rfl, rfl⟩, ⟨_, rfl, by first | (simp only [AV.ren]; done) | (simp only [AV.ren]; rw [ej]; done) | rfl, rfl⟩, ⟨_, rfl, by first | (simp only [AV.ren]; done) | (simp only [AV.ren]; rw [ej]; done) | rfl, rfl⟩, ⟨_, rfl, by first | (simp only [AV.ren]; done) | (simp only [AV.ren]; rw [ej]; done) | rfl, rfl⟩, trivial⟩ ⟨⟨_, _, rfl, rfl, by first | (simp only [AV.ren]; done) | (simp only [AV.ren]; rw [ej]; done) | rfl, rfl, id, rfl⟩, ⟨_, _, rfl, rfl, by first | (simp only [AV.ren]; done) | (simp only [AV.ren]; rw [ej]; done) | rfl, rfl, id, rfl⟩, trivial⟩) ?_
       refine .region ?_
       refine .q (op_move rfl) trivial rfl ?_
       refine .q (op_addI rfl rfl ⟨by omega, by omega⟩) trivial rfl ?_
       refine .q (op_assign rfl) trivial rfl ?_
       refine .nil ?_
       exact ⟨⟨k + 1, by omega⟩, by (try dsimp only); omega, StLe.mk [(1000, 1000)] rfl rfl ⟨⟨_, rfl, by rfl, rfl⟩, ⟨_, rfl, by rfl, rfl⟩, ⟨_, rfl, by first | rfl | (simp only [AV.ren]; congr 1 <;> omega), rfl⟩, ⟨_, rfl, by (simp only [AV.ren]; rfl), rfl⟩, ⟨_, rfl, by first | rfl | (simp only [AV.ren]; congr 1 <;> omega), rfl⟩, trivial⟩ ⟨⟨_, _, rfl, rfl, by (simp only [AV.ren]; rfl), rfl, id, rfl⟩, trivial⟩⟩
     ·simp only [ne_eq, beq_eq_false_iff_ne] at hc75
      refine .skip ?_
      show Ev _ _ _ _ _
      refine .seq ?_
      refine .region ?_
      refine .q (op_assign rfl) trivial rfl ?_
      refine .nil ?_
      show Ev _ _ _ _ _
      refine .block ?_
      refine Ev.loop (ι := { j : Nat // j ≤ 4 }) (fun j => ⟨[(0, .str key), (3, .i64 (n : Int)), (4, .sl 1000 0 (4 * (n + k) + j.1) 1), (6, .i64 ((exP n (n + k) (exN bxT n key k).2).toNat : Int)), (7, .i64 ((n + k : Nat) : Int)), (8, .sl 1008 0 4 1), (9, .i64 ((j.1 : Nat) : Int))], [(1000, some ⟨.aggI (biL (exJ (exT bxT n (n + k) (exN bxT n key k).2 (exN bxT n key k).1) n (exN bxT n key k).1 j.1)), 3, true⟩), (1008, some ⟨.aggI (biL (exT bxT n (n + k) (exN bxT n key k).2 (exN bxT n key k).1)), 3, true⟩)], 1016⟩) (fun j => 4 - j.1) ⟨0, Nat.zero_le _⟩ (StLe.mk [(1000, 1000), (1008, 1016)] rfl rfl ⟨⟨_, rfl, by first | rfl | (simp only [AV.ren]; congr 1 <;> omega), rfl⟩, ⟨_, rfl, by first | rfl | (simp only [AV.ren]; congr 1 <;> omega), rfl⟩, ⟨_, rfl, by first | rfl | (simp only [AV.ren]; congr 1 <;> omega), rfl⟩, ⟨_, rfl, by (simp only [AV.ren]; first | (rw [exP, if_pos (mod_eq hc47)] <;> rfl) | (rw [exP, if_neg (mod_ne hc47)] <;> rfl)), rfl⟩, ⟨_, rfl, by first | rfl | (simp only [AV.ren]; congr 1 <;> omega), rfl⟩, ⟨_, rfl, by (simp only [AV.ren]; first | rfl | (congr 1 <;> omega)), rfl⟩, ⟨_, rfl, by first | rfl | (simp only [AV.ren]; congr 1 <;> omega), rfl⟩, trivial⟩ ⟨⟨_, _, rfl, rfl, rfl, rfl, id, rfl⟩, ⟨_, _, rfl, rfl, by (simp only [AV.ren]; first | (rw [exT, if_pos (mod_eq hc47)] <;> rfl) | (rw [exT, if_neg (mod_ne hc47), if_pos (by omega)] <;> rfl) | (rw [exT, if_neg (mod_ne hc47), if_neg (by omega)] <;> rfl)), rfl, id, rfl⟩, trivial⟩) ?_
      rintro ⟨j, hj⟩
      dsimp only
      have hj := length_exJ (exT bxT n (n + k) (exN bxT n key k).2 (exN bxT n key k).1) n (exN bxT n key k).1 j
      have ht := length_exT bxT n (n + k) (exN bxT n key k).2 (exN bxT n key k).1 (by omega)
      rw [hw] at hj
      have hbj : (biL (exJ (exT bxT n (n + k) (exN bxT n key k).2 (exN bxT n key k).1) n (exN bxT n key k).1 j)).length = 4 * (n + k) + j := by rw [length_biL, hj]
      have hbt : (biL (exT bxT n (n + k) (exN bxT n key k).2 (exN bxT n key k).1)).length = 4 := by rw [length_biL, ht]
      refine .seq ?_
      refine .seq ?_
      refine .region ?_
      refine .q (op_move rfl) trivial rfl ?_
      refine .q (op_cmpI rfl rfl rfl) trivial rfl ?_
      refine .nil ?_
      show Ev _ _ _ _ _
      refine .cond rfl (fun hc94 => ?_) (fun hc94 => ?_)
      ·simp only [decide_eq_true_eq] at hc94
       refine .skip ?_
       show Ev _ _ _ _ _
       refine .seq ?_
       refine .block ?_
       refine .drawn [[], [], [], [1, 2], [1, 2, 3], [], [], [6], [], [8], [6, 7, 8, 9], [], [6, 7, 8, 9, 10, 11], [5, 6, 7, 8, 9, 10, 11, 12], [5, 6, 7, 8, 9, 10, 11, 12, 13], [1, 2, 3, 4, 5, 6, 7, 8, 9, 10, 11, 12, 13, 14], [1, 2, 3, 4, 5, 6, 7, 8, 9, 10, 11, 12, 13, 14, 15], [0, 1, 2, 3, 4, 5, 6, 7, 8, 9, 10, 11, 12, 13, 14, 15, 16], [0, 1, 2, 3, 4, 5, 6, 7, 8, 9, 10, 11, 12, 13, 14, 15, 16, 17]] [4, 14, 16, 17] [17] (by kernel_rfl) (by kernel_rfl) rfl ?_
       show DK _ [0, 1, 2, 3, 4, 5, 6, 7, 8, 9, 10, 11, 12, 13, 14, 15, 16, 17, 18] _ _ _
       refine .q rfl (op_move rfl) trivial ?_
       refine .q rfl (op_move rfl) trivial ?_
       refine .q rfl (op_move rfl) trivial ?_
       refine .q rfl (ap_idx0 Tryd.underlying53 inf3.sz rfl rfl rfl (by omega)) trivial ?_
       refine .q rfl (op_load Tryd.underlying3 rfl rfl rfl rfl (by show _ < List.length _; rw [hbt]; omega)) trivial ?_
       refine .as (.i64 (((exT bxT n (n + k) (exN bxT n key k).2 (exN bxT n key k).1).getD j 0).toNat : Int)) (by rw [bi_get]) ?_
       refine .q rfl (op_move rfl) trivial ?_
       refine .q rfl (op_move rfl) trivial ?_
       refine .q rfl (op_mulI rfl rfl ⟨by omega, by omega⟩) trivial ?_
       refine .q rfl (op_move rfl) trivial ?_
       refine .q rfl (op_mulI rfl rfl ⟨by omega, by omega⟩) trivial ?_
       refine .q rfl (op_subI rfl rfl ⟨by omega, by omega⟩) trivial ?_
       refine .q rfl (op_move rfl) trivial ?_
       refine .q rfl (op_addI rfl rfl ⟨by omega, by omega⟩) trivial ?_
       refine .q rfl (ap_idx0 Tryd.underlying53 inf3.sz rfl rfl (i := 4 * (n + k) + j - 4 * n) (by omega) (by omega)) trivial ?_
       refine .q rfl (op_load Tryd.underlying3 rfl rfl rfl rfl (by show _ < List.length _; rw [hbj]; omega)) trivial ?_
       refine .as (.i64 (((exJ (exT bxT n (n + k) (exN bxT n key k).2 (exN bxT n key k).1) n (exN bxT n key k).1 j).getD (4 * (n + k) + j - 4 * n) 0).toNat : Int)) (by rw [bi_get]) ?_
       refine .q rfl (op_xorB rfl rfl) trivial ?_
       refine .a rfl (ap_build (us := [_]) (c := .aggI [_]) Tryd.underlying53 inf3 rfl (by decide) (by decide) ⟨rfl, rfl, rfl, trivial⟩ rfl) trivial rfl rfl ?_
       refine .a rfl (ap_cat Tryd.underlying53 inf3 rfl rfl rfl rfl (by first | omega | rfl | (simp only [AV.len]; omega) | exact hbj) rfl rfl (by first | omega | rfl | (simp only [AV.len]; omega) | exact hbj) rfl (by first | omega | rfl | (simp only [AV.len]; omega) | exact hbj)) trivial rfl rfl ?_
       refine .q rfl (op_assign rfl) trivial ?_
       refine .nil ?_
       show Ev _ _ _ _ _
       refine .region ?_
       refine .q (op_move rfl) trivial rfl ?_
       refine .q (op_addI rfl rfl ⟨by omega, by omega⟩) trivial rfl ?_
       refine .q (op_assign rfl) trivial rfl ?_
       refine .nil ?_
       exact ⟨⟨j + 1, by omega⟩, by show 4 - (j + 1) < 4 - j; omega, StLe.mk [(1000, 1152), (1008, 1008)] rfl rfl ⟨⟨_, rfl, by first | rfl | (simp only [AV.ren]; congr 1 <;> omega), rfl⟩, ⟨_, rfl, by first | rfl | (simp only [AV.ren]; congr 1 <;> omega), rfl⟩, ⟨_, rfl, by first | rfl | (simp only [AV.ren]; congr 1 <;> omega), rfl⟩, ⟨_, rfl, by first | rfl | (simp only [AV.ren]; congr 1 <;> omega), rfl⟩, ⟨_, rfl, by first | rfl | (simp only [AV.ren]; congr 1 <;> omega), rfl⟩, ⟨_, rfl, by first | rfl | (simp only [AV.ren]; congr 1 <;> omega), rfl⟩, ⟨_, rfl, by first | rfl | (simp only [AV.ren]; congr 1 <;> omega), rfl⟩, trivial⟩ ⟨⟨_, _, rfl, rfl, by (simp only [AV.ren]; rw [exJ, ← bi_snoc, hj]), rfl, id, rfl⟩, ⟨_, _, rfl, rfl, by first | rfl | (simp only [AV.ren]; congr 1 <;> omega), rfl, id, rfl⟩, trivial⟩⟩
      ·simp only [decide_eq_false_iff_not] at hc94
       refine .exit ?_
       show Ev _ _ _ _ _
       have ej : j = 4 := by omega
       refine Ev.weak (st2 := ⟨[(0, .str key), (3, .i64 (n : Int)), (4, .sl 1000 0 (4 * (n + k) + (4)) 1), (6, .i64 ((exP n (n + k) (exN bxT n key k).2).toNat : Int)), (7, .i64 ((n + k : Nat) : Int)), (8, .sl 1008 0 4 1), (9, .i64 (((4) : Nat) : Int))], [(1000, some ⟨.aggI (biL (exJ (exT bxT n (n + k) (exN bxT n key k).2 (exN bxT n key k).1) n (exN bxT n key k).1 (4))), 3, true⟩), (1008, some ⟨.aggI (biL (exT bxT n (n + k) (exN bxT n key k).2 (exN bxT n key k).1)), 3, true⟩)], 1016⟩) (StLe.mk [(1000, 1000), (1008, 1008)] rfl rfl ⟨⟨_, rfl, by first | (simp only [AV.ren]; done) | (simp only [AV.ren]; rw [ej]; done) | rfl, rfl⟩, ⟨_, rfl, by first | (simp only [AV.ren]; done) | (simp only [AV.ren]; rw [ej]; done) | rfl, rfl⟩, ⟨_, rfl, by (subst ej; rfl), rfl⟩, ⟨_, rfl, by first | (simp only [AV.ren]; done) | (simp only [AV.ren]; rw [ej]; done) | rfl, rfl⟩, ⟨_, rfl, by first | (simp only [AV.ren]; done) | (simp only [AV.ren]; rw [ej]; done) | rfl, rfl⟩, ⟨_, rfl, by first | (simp only [AV.ren]; done) | (simp only [AV.ren]; rw [ej]; done) | rfl, rfl⟩, ⟨_, rfl, by first | (simp only [AV.ren]; done) | (simp only [AV.ren]; rw [ej]; done) | rfl, rfl⟩, trivial⟩ ⟨⟨_, _, rfl, rfl, by first | (simp only [AV.ren]; done) | (simp only [AV.ren]; rw [ej]; done) | rfl, rfl, id, rfl⟩, ⟨_, _, rfl, rfl, by first | (simp only [AV.ren]; done) | (simp only [AV.ren]; rw [ej]; done) | rfl, rfl, id, rfl⟩, trivial⟩) ?_
       refine .region ?_
       refine .q (op_move rfl) trivial rfl ?_
       refine .q (op_addI rfl rfl ⟨by omega, by omega⟩) trivial rfl ?_
       refine .q (op_assign rfl) trivial rfl ?_
       refine .nil ?_
       exact ⟨⟨k + 1, by omega⟩, by (try dsimp only); omega, StLe.mk [(1000, 1000)] rfl rfl ⟨⟨_, rfl, by rfl, rfl⟩, ⟨_, rfl, by rfl, rfl⟩, ⟨_, rfl, by first | rfl | (simp only [AV.ren]; congr 1 <;> omega), rfl⟩, ⟨_, rfl, by (simp only [AV.ren]; rfl), rfl⟩, ⟨_, rfl, by first | rfl | (simp only [AV.ren]; congr 1 <;> omega), rfl⟩, trivial⟩ ⟨⟨_, _, rfl, rfl, by (simp only [AV.ren]; rfl), rfl, id, rfl⟩, trivial⟩⟩
    ·simp only [ne_eq, beq_eq_false_iff_ne] at hg71
     refine .no ⟨_, rfl, rfl⟩ rfl ?_
     refine .no ⟨_, rfl, rfl⟩ rfl ?_
     refine .no ⟨_, rfl, rfl⟩ rfl ?_
     refine .q (op_pick_false rfl rfl rfl) trivial rfl ?_
     refine .nil ?_
     show Ev _ _ _ _ _
     refine .cond_false rfl rfl ?_
     refine .skip ?_
     show Ev _ _ _ _ _
     refine .seq ?_
     refine .region ?_
     refine .q (op_assign rfl) trivial rfl ?_
     refine .nil ?_
     show Ev _ _ _ _ _
     refine .block ?_
     refine Ev.loop (ι := { j : Nat // j ≤ 4 }) (fun j => ⟨[(0, .str key), (3, .i64 (n : Int)), (4, .sl 1000 0 (4 * (n + k) + j.1) 1), (6, .i64 ((exP n (n + k) (exN bxT n key k).2).toNat : Int)), (7, .i64 ((n + k : Nat) : Int)), (8, .sl 1008 0 4 1), (9, .i64 ((j.1 : Nat) : Int))], [(1000, some ⟨.aggI (biL (exJ (exT bxT n (n + k) (exN bxT n key k).2 (exN bxT n key k).1) n (exN bxT n key k).1 j.1)), 3, true⟩), (1008, some ⟨.aggI (biL (exT bxT n (n + k) (exN bxT n key k).2 (exN bxT n key k).1)), 3, true⟩)], 1016⟩) (fun j => 4 - j.1) ⟨0, Nat.zero_le _⟩ (StLe.mk [(1000, 1000), (1008, 1016)] rfl rfl ⟨⟨_, rfl, by first | rfl | (simp only [AV.ren]; congr 1 <;> omega), rfl⟩, ⟨_, rfl, by first | rfl | (simp only [AV.ren]; congr 1 <;> omega), rfl⟩, ⟨_, rfl, by first | rfl | (simp only [AV.ren]; congr 1 <;> omega), rfl⟩, ⟨_, rfl, by (simp only [AV.ren]; first | (rw [exP, if_pos (mod_eq hc47)] <;> rfl) | (rw [exP, if_neg (mod_ne hc47)] <;> rfl)), rfl⟩, ⟨_, rfl, by first | rfl | (simp only [AV.ren]; congr 1 <;> omega), rfl⟩, ⟨_, rfl, by (simp only [AV.ren]; first | rfl | (congr 1 <;> omega)), rfl⟩, ⟨_, rfl, by first | rfl | (simp only [AV.ren]; congr 1 <;> omega), rfl⟩, trivial⟩ ⟨⟨_, _, rfl, rfl, rfl, rfl, id, rfl⟩, ⟨_, _, rfl, rfl, by (simp only [AV.ren]; first | (rw [exT, if_pos (mod_eq hc47)] <;> rfl) | (rw [exT, if_neg (mod_ne hc47), if_pos (by omega)] <;> rfl) | (rw [exT, if_neg (mod_ne hc47), if_neg (by omega)] <;> rfl)), rfl, id, rfl⟩, trivial⟩) ?_
     rintro ⟨j, hj⟩
     dsimp only
     have hj := length_exJ (exT bxT n (n + k) (exN bxT n key k).2 (exN bxT n key k).1) n (exN bxT n key k).1 j
     have ht := length_exT bxT n (n + k) (exN bxT n key k).2 (exN bxT n key k).1 (by omega)
     rw [hw] at hj
     have hbj : (biL (exJ (exT bxT n (n + k) (exN bxT n key k).2 (exN bxT n key k).1) n (exN bxT n key k).1 j)).length = 4 * (n + k) + j := by rw [length_biL, hj]
     have hbt : (biL (exT bxT n (n + k) (exN bxT n key k).2 (exN bxT n key k).1)).length = 4 := by rw [length_biL, ht]
     refine .seq ?_
     refine .seq ?_
     refine .region ?_
     refine .q (op_move rfl) trivial rfl ?_
     refine .q (op_cmpI rfl rfl rfl) trivial rfl ?_
     refine .nil ?_
     show Ev _ _ _ _ _
     refine .cond rfl (fun hc94 => ?_) (fun hc94 => ?_)
     ·simp only [decide_eq_true_eq] at hc94
      refine .skip ?_
      show Ev _ _ _ _ _
      refine .seq ?_
      refine .block ?_
      refine .drawn [[], [], [], [1, 2], [1, 2, 3], [], [], [6], [], [8], [6, 7, 8, 9], [], [6, 7, 8, 9, 10, 11], [5, 6, 7, 8, 9, 10, 11, 12], [5, 6, 7, 8, 9, 10, 11, 12, 13], [1, 2, 3, 4, 5, 6, 7, 8, 9, 10, 11, 12, 13, 14], [1, 2, 3, 4, 5, 6, 7, 8, 9, 10, 11, 12, 13, 14, 15], [0, 1, 2, 3, 4, 5, 6, 7, 8, 9, 10, 11, 12, 13, 14, 15, 16], [0, 1, 2, 3, 4, 5, 6, 7, 8, 9, 10, 11, 12, 13, 14, 15, 16, 17]] [4, 14, 16, 17] [17] (by kernel_rfl) (by kernel_rfl) rfl ?_
      show DK _ [0, 1, 2, 3, 4, 5, 6, 7, 8, 9, 10, 11, 12, 13, 14, 15, 16, 17, 18] _ _ _
      refine .q rfl (op_move rfl) trivial ?_
      refine .q rfl (op_move rfl) trivial ?_
      refine .q rfl (op_move rfl) trivial ?_
      refine .q rfl (ap_idx0 Tryd.underlying53 inf3.sz rfl rfl rfl (by omega)) trivial ?_
      refine .q rfl (op_load Tryd.underlying3 rfl rfl rfl rfl (by show _ < List.length _; rw [hbt]; omega)) trivial ?_
      refine .as (.i64 (((exT bxT n (n + k) (exN bxT n key k).2 (exN bxT n key k).1).getD j 0).toNat : Int)) (by rw [bi_get]) ?_
      refine .q rfl (op_move rfl) trivial ?_
      refine .q rfl (op_move rfl) trivial ?_
      refine .q rfl (op_mulI rfl rfl ⟨by omega, by omega⟩) trivial ?_
      refine .q rfl (op_move rfl) trivial ?_
      refine .q rfl (op_mulI rfl rfl ⟨by omega, by omega⟩) trivial ?_
      refine .q rfl (op_subI rfl rfl ⟨by omega, by omega⟩) trivial ?_
      refine .q rfl (op_move rfl) trivial ?_
      refine .q rfl (op_addI rfl rfl ⟨by omega, by omega⟩) trivial ?_
      refine .q rfl (ap_idx0 Tryd.underlying53 inf3.sz rfl rfl (i := 4 * (n + k) + j - 4 * n) (by omega) (by omega)) trivial ?_
      refine .q rfl (op_load Tryd.underlying3 rfl rfl rfl rfl (by show _ < List.length _; rw [hbj]; omega)) trivial ?_
      refine .as (.i64 (((exJ (exT bxT n (n + k) (exN bxT n key k).2 (exN bxT n key k).1) n (exN bxT n key k).1 j).getD (4 * (n + k) + j - 4 * n) 0).toNat : Int)) (by rw [bi_get]) ?_
      refine .q rfl (op_xorB rfl rfl) trivial ?_
      refine .a rfl (ap_build (us := [_]) (c := .aggI [_]) Tryd.underlying53 inf3 rfl (by decide) (by decide) ⟨rfl, rfl, rfl, trivial⟩ rfl) trivial rfl rfl ?_
      refine .a rfl (ap_cat Tryd.underlying53 inf3 rfl rfl rfl rfl (by first | omega | rfl | (simp only [AV.len]; omega) | exact hbj) rfl rfl (by first | omega | rfl | (simp only [AV.len]; omega) | exact hbj) rfl (by first | omega | rfl | (simp only [AV.len]; omega) | exact hbj)) trivial rfl rfl ?_
      refine .q rfl (op_assign rfl) trivial ?_
      refine .nil ?_
      show Ev _ _ _ _ _
      refine .region ?_
      refine .q (op_move rfl) trivial rfl ?_
      refine .q (op_addI rfl rfl ⟨by omega, by omega⟩) trivial rfl ?_
      refine .q (op_assign rfl) trivial rfl ?_
      refine .nil ?_
      exact ⟨⟨j + 1, by omega⟩, by show 4 - (j + 1) < 4 - j; omega, StLe.mk [(1000, 1152), (1008, 1008)] rfl rfl ⟨⟨_, rfl, by first | rfl | (simp only [AV.ren]; congr 1 <;> omega), rfl⟩, ⟨_, rfl, by first | rfl | (simp only [AV.ren]; congr 1 <;> omega), rfl⟩, ⟨_, rfl, by first | rfl | (simp only [AV.ren]; congr 1 <;> omega), rfl⟩, ⟨_, rfl, by first | rfl | (simp only [AV.ren]; congr 1 <;> omega), rfl⟩, ⟨_, rfl, by first | rfl | (simp only [AV.ren]; congr 1 <;> omega), rfl⟩, ⟨_, rfl, by first | rfl | (simp only [AV.ren]; congr 1 <;> omega), rfl⟩, ⟨_, rfl, by first | rfl | (simp only [AV.ren]; congr 1 <;> omega), rfl⟩, trivial⟩ ⟨⟨_, _, rfl, rfl, by (simp only [AV.ren]; rw [exJ, ← bi_snoc, hj]), rfl, id, rfl⟩, ⟨_, _, rfl, rfl, by first | rfl | (simp only [AV.ren]; congr 1 <;> omega), rfl, id, rfl⟩, trivial⟩⟩
     ·simp only [decide_eq_false_iff_not] at hc94
      refine .exit ?_
      show Ev _ _ _ _ _
      have ej : j = 4 := by omega
      refine Ev.weak (st2 := ⟨[(0, .str key), (3, .i64 (n : Int)), (4, .sl 1000 0 (4 * (n + k) + (4)) 1), (6, .i64 ((exP n (n + k) (exN bxT n key k).2).toNat : Int)), (7, .i64 ((n + k : Nat) : Int)), (8, .sl 1008 0 4 1), (9, .i64 (((4) : Nat) : Int))], [(1000, some ⟨.aggI (biL (exJ (exT bxT n (n + k) (exN bxT n key k).2 (exN bxT n key k).1) n (exN bxT n key k).1 (4))), 3, true⟩), (1008, some ⟨.aggI (biL (exT bxT n (n + k) (exN bxT n key k).2 (exN bxT n key k).1)), 3, true⟩)], 1016⟩) (StLe.mk [(1000, 1000), (1008, 1008)] rfl rfl ⟨⟨_, rfl, by first | (simp only [AV.ren]; done) | (simp only [AV.ren]; rw [ej]; done) | rfl, rfl⟩, ⟨_, rfl, by first | (simp only [AV.ren]; done) | (simp only [AV.ren]; rw [ej]; done) | rfl, rfl⟩, ⟨_, rfl, by (subst ej; rfl), rfl⟩, ⟨_, rfl, by first | (simp only [AV.ren]; done) | (simp only [AV.ren]; rw [ej]; done) | rfl, rfl⟩, ⟨_, rfl, by first | (simp only [AV.ren]; done) | (simp only [AV.ren]; rw [ej]; done) | rfl, rfl⟩, ⟨_, rfl, by first | (simp only [AV.ren]; done) | (simp only [AV.ren]; rw [ej]; done) | rfl, rfl⟩, ⟨_, rfl, by first | (simp only [AV.ren]; done) | (simp only [AV.ren]; rw [ej]; done) | rfl, rfl⟩, trivial⟩ ⟨⟨_, _, rfl, rfl, by first | (simp only [AV.ren]; done) | (simp only [AV.ren]; rw [ej]; done) | rfl, rfl, id, rfl⟩, ⟨_, _, rfl, rfl, by first | (simp only [AV.ren]; done) | (simp only [AV.ren]; rw [ej]; done) | rfl, rfl, id, rfl⟩, trivial⟩) ?_
      refine .region ?_
      refine .q (op_move rfl) trivial rfl ?_
      refine .q (op_addI rfl rfl ⟨by omega, by omega⟩) trivial rfl ?_
      refine .q (op_assign rfl) trivial rfl ?_
      refine .nil ?_
      exact ⟨⟨k + 1, by omega⟩, by (try dsimp only); omega, StLe.mk [(1000, 1000)] rfl rfl ⟨⟨_, rfl, by rfl, rfl⟩, ⟨_, rfl, by rfl, rfl⟩, ⟨_, rfl, by first | rfl | (simp only [AV.ren]; congr 1 <;> omega), rfl⟩, ⟨_, rfl, by (simp only [AV.ren]; rfl), rfl⟩, ⟨_, rfl, by first | rfl | (simp only [AV.ren]; congr 1 <;> omega), rfl⟩, trivial⟩ ⟨⟨_, _, rfl, rfl, by (simp only [AV.ren]; rfl), rfl, id, rfl⟩, trivial⟩⟩
  ·simp only [decide_eq_false_iff_not] at hc32
   refine .exit ?_
   show Ev _ _ _ _ _
   refine .seq ?_
   refine .region ?_
   refine .q (op_move rfl) trivial rfl ?_
   refine .q (op_assign rfl) trivial rfl ?_
   refine .nil ?_
   show Ev _ _ _ _ _
   refine .ret ?_
   show RetOk _ _ _ _ _ _ _
   exact ret1v rfl (.inl rfl) rfl (by congr 1; omega) ⟨by rw [exL, show 3 * n + 28 = k by omega]; rfl, trivial⟩
end Go.Proofs.YtdpdmgbdipokdaaDoor
namespace Go.Proofs.YtdpdmgbdipokdaaDoor
open Go.RowKit
theorem elemLe_same {c c' : AV} {e : TypeId} {o : Bool} : ElemLe ⟨c, e, o⟩ ⟨c', e, o⟩ := rfl
theorem own_same {c c' : AV} {e : TypeId} {o : Bool} : (⟨c', e, o⟩ : ABlk).own = true → (⟨c, e, o⟩ : ABlk).own = true := id
theorem blkN_succ (bx ks : List UInt8) (r : Nat) (b : List UInt8) (k : Nat) : blkN bx ks r b (k + 1) = adL (mxQ (decide (k + 1 < r)) (shL (sbL bx (blkN bx ks r b k)))) (kqL ks (k + 1)) := rfl
theorem blkN_zero (bx ks : List UInt8) (r : Nat) (b : List UInt8) : blkN bx ks r b 0 = adL b (kqL ks 0) := rfl
theorem u8_back (b : UInt8) : ofI8 (b.toNat : Int) = b := by
  apply UInt8.toNat_inj.1
  have h := ofI8_toNat (b.toNat : Int)
  have := b.toNat_lt
  omega
theorem sh_sb (bx s : List UInt8) : rgL 16 (fun i => bx.getD (s.getD ((i + 4 * (i % 4)) % 16) 0).toNat 0) = shL (sbL bx s) := by
  unfold shL
  refine rgL_congr fun i hi => ?_
  unfold sbL
  rw [rgL_get _ _ _ (Nat.mod_lt _ (by decide))]
theorem ad_kq (b w : List UInt8) (n : Nat) : rgL 16 (fun i => b.getD i 0 ^^^ w.getD (16 * n + i) 0) = adL b (kqL w n) := by
  unfold adL
  refine rgL_congr fun i hi => ?_
  rw [kq_get _ _ _ hi]
theorem length_blkN16 (bx ks : List UInt8) (r : Nat) (b : List UInt8) (k : Nat) : (biL (blkN bx ks r b k)).length = 16 := by rw [length_biL, length_blkN]
/-- A column, stored byte by byte. -/
theorem mx_col (t : List UInt8) (c : Nat) (ht : t.length = 16) (hc : c < 4) (v0 v1 v2 v3 : UInt8) (h0 : v0 = mxF t (4 * c)) (h1 : v1 = mxF t (4 * c + 1)) (h2 : v2 = mxF t (4 * c + 2)) (h3 : v3 = mxF t (4 * c + 3)) :
    ((((biL (mpU (mxF t) t (4 * c))).set (4 * c) (v0.toNat : Int)).set (4 * c + 1) (v1.toNat : Int)).set (4 * c + 2) (v2.toNat : Int)).set (4 * c + 3) (v3.toNat : Int) = biL (mpU (mxF t) t (4 * (c + 1))) := by
  rw [bi_set, bi_set, bi_set, bi_set, mpU_set _ _ _ _ (by omega) h0, mpU_set _ _ _ _ (by omega) h1, mpU_set _ _ _ _ (by omega) h2, mpU_set _ _ _ _ (by omega) h3, show 4 * (c + 1) = 4 * c + 3 + 1 by omega]
theorem mxF_0 (t : List UInt8) (c : Nat) (_hc : c < 4) : ((dbl (t.getD (4 * c) 0) ^^^ (t.getD (4 * c + 1) 0 ^^^ dbl (t.getD (4 * c + 1) 0))) ^^^ t.getD (4 * c + 2) 0) ^^^ t.getD (4 * c + 3) 0 = mxF t (4 * c) := by
  unfold mxF colA
  rw [show 4 * c / 4 = c by omega, show 4 * c % 4 = 0 by omega, dbl_xor]
  show _ = t.getD (4 * c) 0 ^^^ (_ ^^^ (dbl (t.getD (4 * c) 0) ^^^ dbl (t.getD (4 * c + 1) 0)))
  simp only [ux_comm, ux_assoc, ux_left, ux_selfl]
theorem mxF_1 (t : List UInt8) (c : Nat) (_hc : c < 4) : ((t.getD (4 * c) 0 ^^^ dbl (t.getD (4 * c + 1) 0)) ^^^ (t.getD (4 * c + 2) 0 ^^^ dbl (t.getD (4 * c + 2) 0))) ^^^ t.getD (4 * c + 3) 0 = mxF t (4 * c + 1) := by
  unfold mxF colA
  rw [show (4 * c + 1) / 4 = c by omega, show (4 * c + 1) % 4 = 1 by omega, dbl_xor]
  show _ = t.getD (4 * c + 1) 0 ^^^ (_ ^^^ (dbl (t.getD (4 * c + 1) 0) ^^^ dbl (t.getD (4 * c + 2) 0)))
  simp only [ux_comm, ux_assoc, ux_left, ux_selfl]
theorem mxF_2 (t : List UInt8) (c : Nat) (_hc : c < 4) : ((t.getD (4 * c) 0 ^^^ t.getD (4 * c + 1) 0) ^^^ dbl (t.getD (4 * c + 2) 0)) ^^^ (t.getD (4 * c + 3) 0 ^^^ dbl (t.getD (4 * c + 3) 0)) = mxF t (4 * c + 2) := by
  unfold mxF colA
  rw [show (4 * c + 2) / 4 = c by omega, show (4 * c + 2) % 4 = 2 by omega, dbl_xor]
  show _ = t.getD (4 * c + 2) 0 ^^^ (_ ^^^ (dbl (t.getD (4 * c + 2) 0) ^^^ dbl (t.getD (4 * c + 3) 0)))
  simp only [ux_assoc, ux_left, ux_selfl]
theorem mxF_3 (t : List UInt8) (c : Nat) (_hc : c < 4) : (((t.getD (4 * c) 0 ^^^ dbl (t.getD (4 * c) 0)) ^^^ t.getD (4 * c + 1) 0) ^^^ t.getD (4 * c + 2) 0) ^^^ dbl (t.getD (4 * c + 3) 0) = mxF t (4 * c + 3) := by
  unfold mxF colA
  rw [show (4 * c + 3) / 4 = c by omega, show (4 * c + 3) % 4 = 3 by omega, dbl_xor]
  show _ = t.getD (4 * c + 3) 0 ^^^ (_ ^^^ (dbl (t.getD (4 * c + 3) 0) ^^^ dbl (t.getD (4 * c) 0)))
  simp only [ux_comm, ux_assoc, ux_left, ux_selfl]
set_option maxHeartbeats 2000000 in
set_option maxRecDepth 100000 in
theorem rblock_ev (key b : List UInt8) (n : Nat) (hkey : key.length = 4 * n) (hn : 4 ≤ n ∧ n ≤ 8) (hb : b.length = 16) : Meets Tryd.prog 12 [.str key, .str b] [] (.str (blkL bxT (exL bxT n key) (n + 6) b)) [] := by
 refine meets_of_ev (nt := 188) Tryd.func12 rfl rfl (Nat.le_of_ble_eq_true rfl) ?_
 refine .seq ?_
 refine .region ?_
 refine .q (op_assign rfl) trivial rfl ?_
 refine .nil ?_
 show Ev _ _ _ _ _
 refine .seq ?_
 refine .region ?_
 refine .q (op_move rfl) trivial rfl ?_
 refine .a (op_call (U := [(1000, some ⟨.aggI (biL (exL bxT n key)), 3, true⟩)]) [] [(1000, 1000)] (words_ev key n hkey hn) Tryd.func25 (by kernel_rfl) rfl rfl rfl (⟨⟨_, rfl, rfl, rfl⟩, trivial⟩) (trivial) (⟨⟨1000, _, rfl, rfl, rfl, rfl, .inl rfl⟩, trivial⟩) (trivial) rfl) trivial rfl ?_
 refine .q (op_assign rfl) trivial rfl ?_
 refine .nil ?_
 show Ev _ _ _ _ _
 refine .seq ?_
 refine .region ?_
 refine .a (ap_build0 (z := 1) (c := .aggI []) Tryd.underlying53 inf3 rfl) trivial rfl ?_
 refine .q (op_assign rfl) trivial rfl ?_
 refine .nil ?_
 show Ev _ _ _ _ _
 refine .seq ?_
 refine .seq ?_
 refine .region ?_
 refine .q (op_assign rfl) trivial rfl ?_
 refine .nil ?_
 show Ev _ _ _ _ _
 refine .block ?_
 refine Ev.loop (ι := { j : Nat // j ≤ 16 }) (fun j => ⟨[(0, .str key), (1, .str b), (5, .sl 1000 0 (16 * (n + 7)) 1), (6, .sl 1008 0 j.1 1), (7, .i64 ((j.1 : Nat) : Int))], [(1000, some ⟨.aggI (biL (exL bxT n key)), 3, true⟩), (1008, some ⟨.aggI (biL (rgL j.1 (fun i => b.getD i 0 ^^^ (exL bxT n key).getD (16 * 0 + i) 0))), 3, true⟩)], 1016⟩) (fun j => 16 - j.1) ⟨0, Nat.zero_le _⟩ (StLe.mk [(1000, 1000), (1008, 1008)] rfl rfl ⟨⟨_, rfl, by first | rfl | (simp only [AV.ren]; congr 1 <;> omega), rfl⟩, ⟨_, rfl, by first | rfl | (simp only [AV.ren]; congr 1 <;> omega), rfl⟩, ⟨_, rfl, by first | rfl | (simp only [AV.ren]; congr 1 <;> omega), rfl⟩, ⟨_, rfl, by first | rfl | (simp only [AV.ren]; congr 1 <;> omega), rfl⟩, ⟨_, rfl, by first | rfl | (simp only [AV.ren]; congr 1 <;> omega), rfl⟩, trivial⟩ ⟨⟨_, _, rfl, rfl, by first | rfl | (simp only [AV.ren]; congr 1 <;> omega), elemLe_same, own_same, rfl⟩, ⟨_, _, rfl, rfl, by (simp only [AV.ren]; rfl), elemLe_same, own_same, rfl⟩, trivial⟩) ?_
 rintro ⟨j, hj⟩
 dsimp only
 have hw : (exL bxT n key).length = 16 * (n + 7) := length_exL bxT n key hkey
 have hbw : (biL (exL bxT n key)).length = 16 * (n + 7) := by rw [length_biL, hw]
 have hl : (biL (rgL j (fun i => b.getD i 0 ^^^ (exL bxT n key).getD (16 * 0 + i) 0))).length = j := by rw [length_biL, length_rgL]
 refine .seq ?_
 refine .seq ?_
 refine .region ?_
 refine .q (op_move rfl) trivial rfl ?_
 refine .q (op_cmpI rfl rfl rfl) trivial rfl ?_
 refine .nil ?_
 show Ev _ _ _ _ _
 refine .cond rfl (fun hc25 => ?_) (fun hc25 => ?_)
 ·simp only [decide_eq_true_eq] at hc25
  refine .skip ?_
  show Ev _ _ _ _ _
  refine .seq ?_
  refine .block ?_
  refine .drawn [[], [], [], [1, 2], [1, 2, 3], [], [], [5, 6], [5, 6, 7], [1, 2, 3, 4, 5, 6, 7, 8], [1, 2, 3, 4, 5, 6, 7, 8, 9], [0, 1, 2, 3, 4, 5, 6, 7, 8, 9, 10], [0, 1, 2, 3, 4, 5, 6, 7, 8, 9, 10, 11]] [8, 10, 11] [11] (by kernel_rfl) (by kernel_rfl) rfl ?_
  show DK _ [0, 1, 2, 3, 4, 5, 6, 7, 8, 9, 10, 11, 12] _ _ _
  refine .q rfl (op_move rfl) trivial ?_
  refine .q rfl (op_move rfl) trivial ?_
  refine .q rfl (op_move rfl) trivial ?_
  refine .q rfl (op_index_str Tryd.underlying9 rfl rfl rfl (by first | omega | (simp only [AV.len]; omega) | (simp only [AV.len, List.length_set]; omega) | assumption | (simp [AV.len]; done))) trivial ?_
  refine .q rfl (op_conv Tryd.underlying5 Tryd.underlying3 rfl rfl) trivial ?_
  refine .q rfl (op_move rfl) trivial ?_
  refine .q rfl (op_move rfl) trivial ?_
  refine .q rfl (ap_idx0 Tryd.underlying53 inf3.sz rfl rfl rfl (by omega)) trivial ?_
  refine .q rfl (op_load Tryd.underlying3 rfl rfl rfl rfl (by show _ < List.length _; rw [hbw]; omega)) trivial ?_
  refine .as (.i64 (((exL bxT n key).getD (16 * 0 + j) 0).toNat : Int)) (by rw [bi_get, Nat.mul_zero, Nat.zero_add]) ?_
  refine .q rfl (op_xorB rfl rfl) trivial ?_
  refine .a rfl (ap_build (us := [_]) (c := .aggI [_]) Tryd.underlying53 inf3 rfl (by decide) (by decide) ⟨rfl, rfl, rfl, trivial⟩ rfl) trivial rfl rfl ?_
  refine .a rfl (ap_cat Tryd.underlying53 inf3 rfl rfl rfl rfl (by first | omega | rfl | (simp only [AV.len]; omega) | exact hl) rfl rfl (by first | omega | rfl | (simp only [AV.len]; omega) | exact hl) rfl (by first | omega | rfl | (simp only [AV.len]; omega) | exact hl)) trivial rfl rfl ?_
  refine .q rfl (op_assign rfl) trivial ?_
  refine .nil ?_
  show Ev _ _ _ _ _
  refine .region ?_
  refine .q (op_move rfl) trivial rfl ?_
  refine .q (op_addI rfl rfl ⟨by omega, by omega⟩) trivial rfl ?_
  refine .q (op_assign rfl) trivial rfl ?_
  refine .nil ?_
  exact ⟨⟨j + 1, by omega⟩, by show 16 - (j + 1) < 16 - j; omega, StLe.mk [(1000, 1000), (1008, 1104)] rfl rfl ⟨⟨_, rfl, by first | rfl | (simp only [AV.ren]; congr 1 <;> omega), rfl⟩, ⟨_, rfl, by first | rfl | (simp only [AV.ren]; congr 1 <;> omega), rfl⟩, ⟨_, rfl, by first | rfl | (simp only [AV.ren]; congr 1 <;> omega), rfl⟩, ⟨_, rfl, by first | rfl | (simp only [AV.ren]; congr 1 <;> omega), rfl⟩, ⟨_, rfl, by first | rfl | (simp only [AV.ren]; congr 1 <;> omega), rfl⟩, trivial⟩ ⟨⟨_, _, rfl, rfl, by first | rfl | (simp only [AV.ren]; congr 1 <;> omega), elemLe_same, own_same, rfl⟩, ⟨_, _, rfl, rfl, by (simp only [AV.ren]; rw [rgL_succ, ← bi_snoc]), elemLe_same, own_same, rfl⟩, trivial⟩⟩
 ·simp only [decide_eq_false_iff_not] at hc25
  refine .exit ?_
  show Ev _ _ _ _ _
  have ej : j = 16 := by omega
  refine Ev.weak (st2 := ⟨[(0, .str key), (1, .str b), (5, .sl 1000 0 (16 * (n + 7)) 1), (6, .sl 1008 0 (16) 1), (7, .i64 (((16) : Nat) : Int))], [(1000, some ⟨.aggI (biL (exL bxT n key)), 3, true⟩), (1008, some ⟨.aggI (biL (rgL (16) (fun i => b.getD i 0 ^^^ (exL bxT n key).getD (16 * 0 + i) 0))), 3, true⟩)], 1016⟩) (StLe.mk [(1000, 1000), (1008, 1008)] rfl rfl ⟨⟨_, rfl, by first | (simp only [AV.ren]; done) | (simp only [AV.ren]; rw [ej]; done) | rfl, rfl⟩, ⟨_, rfl, by first | (simp only [AV.ren]; done) | (simp only [AV.ren]; rw [ej]; done) | rfl, rfl⟩, ⟨_, rfl, by first | (simp only [AV.ren]; done) | (simp only [AV.ren]; rw [ej]; done) | rfl, rfl⟩, ⟨_, rfl, by (subst ej; rfl), rfl⟩, ⟨_, rfl, by first | (simp only [AV.ren]; done) | (simp only [AV.ren]; rw [ej]; done) | rfl, rfl⟩, trivial⟩ ⟨⟨_, _, rfl, rfl, by first | (simp only [AV.ren]; done) | (simp only [AV.ren]; rw [ej]; done) | rfl, elemLe_same, own_same, rfl⟩, ⟨_, _, rfl, rfl, by (subst ej; rfl), elemLe_same, own_same, rfl⟩, trivial⟩) ?_
  refine .seq ?_
  refine .region ?_
  refine .q (op_move rfl) trivial rfl ?_
  refine .q (op_len_str Tryd.underlying9 rfl) trivial rfl ?_
  refine .q (op_quoI rfl rfl ⟨by omega, ⟨by omega, by omega⟩, by omega⟩) trivial rfl ?_
  refine .q (op_addI rfl rfl ⟨by omega, by omega⟩) trivial rfl ?_
  refine .as (.i64 ((n + 6 : Nat) : Int)) (congrArg AV.i64 (by omega)) ?_
  refine .q (op_assign rfl) trivial rfl ?_
  refine .nil ?_
  show Ev _ _ _ _ _
  refine .seq ?_
  refine .seq ?_
  refine .region ?_
  refine .q (op_assign rfl) trivial rfl ?_
  refine .nil ?_
  show Ev _ _ _ _ _
  refine .block ?_
  refine Ev.loop (ι := { k : Nat // k ≤ n + 6 }) (fun q => ⟨[(0, .str key), (5, .sl 1000 0 (16 * (n + 7)) 1), (6, .sl 1008 0 16 1), (8, .i64 ((n + 6 : Nat) : Int)), (9, .i64 ((q.1 + 1 : Nat) : Int))], [(1000, some ⟨.aggI (biL (exL bxT n key)), 3, true⟩), (1008, some ⟨.aggI (biL (blkN bxT (exL bxT n key) (n + 6) b q.1)), 3, true⟩)], 1016⟩) (fun q => n + 6 - q.1) ⟨0, Nat.zero_le _⟩ (StLe.mk [(1000, 1000), (1008, 1008)] rfl rfl ⟨⟨_, rfl, by rfl, rfl⟩, ⟨_, rfl, by rfl, rfl⟩, ⟨_, rfl, by rfl, rfl⟩, ⟨_, rfl, by rfl, rfl⟩, ⟨_, rfl, by rfl, rfl⟩, trivial⟩ ⟨⟨_, _, rfl, rfl, rfl, rfl, id, rfl⟩, ⟨_, _, rfl, rfl, by (simp only [AV.ren]; rw [ad_kq, blkN_zero]), elemLe_same, own_same, rfl⟩, trivial⟩) ?_
  rintro ⟨k, hq⟩
  try dsimp only
  replace hq : k ≤ n + 6 := hq
  have hw : (exL bxT n key).length = 16 * (n + 7) := length_exL bxT n key hkey
  have hbw : (biL (exL bxT n key)).length = 16 * (n + 7) := by rw [length_biL, hw]
  have hs16 := length_blkN bxT (exL bxT n key) (n + 6) b k
  have hbs : (biL (blkN bxT (exL bxT n key) (n + 6) b k)).length = 16 := length_blkN16 ..
  refine .seq ?_
  refine .seq ?_
  refine .region ?_
  refine .q (op_move rfl) trivial rfl ?_
  refine .q (op_move rfl) trivial rfl ?_
  refine .q (op_cmpI rfl rfl rfl) trivial rfl ?_
  refine .nil ?_
  show Ev _ _ _ _ _
  refine .cond rfl (fun hc46 => ?_) (fun hc46 => ?_)
  ·simp only [decide_eq_true_eq] at hc46
   refine .skip ?_
   show Ev _ _ _ _ _
   refine .seq ?_
   refine .block ?_
   refine .seq ?_
   refine .region ?_
   refine .a (ap_build0 (z := 1) (c := .aggI []) Tryd.underlying53 inf3 rfl) trivial rfl ?_
   refine .q (op_assign rfl) trivial rfl ?_
   refine .nil ?_
   show Ev _ _ _ _ _
   refine .seq ?_
   refine .seq ?_
   refine .region ?_
   refine .q (op_assign rfl) trivial rfl ?_
   refine .nil ?_
   show Ev _ _ _ _ _
   refine .block ?_
   refine Ev.loop (ι := { j : Nat // j ≤ 16 }) (fun j => ⟨[(0, .str key), (5, .sl 1000 0 (16 * (n + 7)) 1), (6, .sl 1008 0 16 1), (8, .i64 ((n + 6 : Nat) : Int)), (9, .i64 ((k + 1 : Nat) : Int)), (10, .sl 1016 0 j.1 1), (11, .i64 ((j.1 : Nat) : Int))], [(1000, some ⟨.aggI (biL (exL bxT n key)), 3, true⟩), (1008, some ⟨.aggI (biL (blkN bxT (exL bxT n key) (n + 6) b k)), 3, true⟩), (1016, some ⟨.aggI (biL (rgL j.1 (fun i => bxT.getD ((blkN bxT (exL bxT n key) (n + 6) b k).getD ((i + 4 * (i % 4)) % 16) 0).toNat 0))), 3, true⟩)], 1024⟩) (fun j => 16 - j.1) ⟨0, Nat.zero_le _⟩ (StLe.mk [(1000, 1000), (1008, 1008), (1016, 1016)] rfl rfl ⟨⟨_, rfl, by first | rfl | (simp only [AV.ren]; congr 1 <;> omega), rfl⟩, ⟨_, rfl, by first | rfl | (simp only [AV.ren]; congr 1 <;> omega), rfl⟩, ⟨_, rfl, by first | rfl | (simp only [AV.ren]; congr 1 <;> omega), rfl⟩, ⟨_, rfl, by first | rfl | (simp only [AV.ren]; congr 1 <;> omega), rfl⟩, ⟨_, rfl, by first | rfl | (simp only [AV.ren]; congr 1 <;> omega), rfl⟩, ⟨_, rfl, by first | rfl | (simp only [AV.ren]; congr 1 <;> omega), rfl⟩, ⟨_, rfl, by first | rfl | (simp only [AV.ren]; congr 1 <;> omega), rfl⟩, trivial⟩ ⟨⟨_, _, rfl, rfl, by first | rfl | (simp only [AV.ren]; congr 1 <;> omega), elemLe_same, own_same, rfl⟩, ⟨_, _, rfl, rfl, by first | rfl | (simp only [AV.ren]; congr 1 <;> omega), elemLe_same, own_same, rfl⟩, ⟨_, _, rfl, rfl, by (simp only [AV.ren]; rfl), elemLe_same, own_same, rfl⟩, trivial⟩) ?_
   rintro ⟨j, hj⟩
   dsimp only
   have hl : (biL (rgL j (fun i => bxT.getD ((blkN bxT (exL bxT n key) (n + 6) b k).getD ((i + 4 * (i % 4)) % 16) 0).toNat 0))).length = j := by rw [length_biL, length_rgL]
   refine .seq ?_
   refine .seq ?_
   refine .region ?_
   refine .q (op_move rfl) trivial rfl ?_
   refine .q (op_cmpI rfl rfl rfl) trivial rfl ?_
   refine .nil ?_
   show Ev _ _ _ _ _
   refine .cond rfl (fun hc51 => ?_) (fun hc51 => ?_)
   ·simp only [decide_eq_true_eq] at hc51
    refine .skip ?_
    show Ev _ _ _ _ _
    refine .seq ?_
    refine .block ?_
    refine .region ?_
    refine .q (op_move rfl) trivial rfl ?_
    refine .q (op_move rfl) trivial rfl ?_
    refine .q (op_move rfl) trivial rfl ?_
    refine .q (op_move rfl) trivial rfl ?_
    refine .q (op_remI rfl rfl ⟨by omega, by omega⟩) trivial rfl ?_
    refine .q (op_mulI rfl rfl ⟨by omega, by omega⟩) trivial rfl ?_
    refine .q (op_addI rfl rfl ⟨by omega, by omega⟩) trivial rfl ?_
    refine .q (op_remI rfl rfl ⟨by omega, by omega⟩) trivial rfl ?_
    refine .q (ap_idx0 Tryd.underlying53 inf3.sz rfl rfl (i := (j + 4 * (j % 4)) % 16) (by omega) (by omega)) trivial rfl ?_
    refine .q (op_load Tryd.underlying3 rfl rfl rfl rfl (by show _ < List.length _; rw [hbs]; omega)) trivial rfl ?_
    refine .as (.i64 (((blkN bxT (exL bxT n key) (n + 6) b k).getD ((j + 4 * (j % 4)) % 16) 0).toNat : Int)) (by rw [bi_get]) ?_
    refine .q (op_call (U := []) [] [] (sub_ev _) Tryd.func26 (by kernel_rfl) rfl rfl rfl (⟨⟨_, rfl, rfl, rfl⟩, trivial⟩) (trivial) (trivial) (trivial) rfl) trivial rfl ?_
    refine .a (ap_build (us := [_]) (c := .aggI [_]) Tryd.underlying53 inf3 rfl (by decide) (by decide) ⟨rfl, rfl, rfl, trivial⟩ rfl) trivial rfl ?_
    refine .a (ap_cat Tryd.underlying53 inf3 rfl rfl rfl rfl (by first | omega | rfl | (simp only [AV.len]; omega) | exact hl) rfl rfl (by first | omega | rfl | (simp only [AV.len]; omega) | exact hl) rfl (by first | omega | rfl | (simp only [AV.len]; omega) | exact hl)) trivial rfl ?_
    refine .q (op_assign rfl) trivial rfl ?_
    refine .nil ?_
    show Ev _ _ _ _ _
    refine .region ?_
    refine .q (op_move rfl) trivial rfl ?_
    refine .q (op_addI rfl rfl ⟨by omega, by omega⟩) trivial rfl ?_
    refine .q (op_assign rfl) trivial rfl ?_
    refine .nil ?_
    exact ⟨⟨j + 1, by omega⟩, by show 16 - (j + 1) < 16 - j; omega, StLe.mk [(1000, 1000), (1008, 1008), (1016, 1032)] rfl rfl ⟨⟨_, rfl, by first | rfl | (simp only [AV.ren]; congr 1 <;> omega), rfl⟩, ⟨_, rfl, by first | rfl | (simp only [AV.ren]; congr 1 <;> omega), rfl⟩, ⟨_, rfl, by first | rfl | (simp only [AV.ren]; congr 1 <;> omega), rfl⟩, ⟨_, rfl, by first | rfl | (simp only [AV.ren]; congr 1 <;> omega), rfl⟩, ⟨_, rfl, by first | rfl | (simp only [AV.ren]; congr 1 <;> omega), rfl⟩, ⟨_, rfl, by first | rfl | (simp only [AV.ren]; congr 1 <;> omega), rfl⟩, ⟨_, rfl, by first | rfl | (simp only [AV.ren]; congr 1 <;> omega), rfl⟩, trivial⟩ ⟨⟨_, _, rfl, rfl, by first | rfl | (simp only [AV.ren]; congr 1 <;> omega), elemLe_same, own_same, rfl⟩, ⟨_, _, rfl, rfl, by first | rfl | (simp only [AV.ren]; congr 1 <;> omega), elemLe_same, own_same, rfl⟩, ⟨_, _, rfl, rfl, by (simp only [AV.ren]; rw [rgL_succ, ← bi_snoc]), elemLe_same, own_same, rfl⟩, trivial⟩⟩
   ·simp only [decide_eq_false_iff_not] at hc51
    refine .exit ?_
    show Ev _ _ _ _ _
    have ej : j = 16 := by omega
    refine Ev.weak (st2 := ⟨[(0, .str key), (5, .sl 1000 0 (16 * (n + 7)) 1), (6, .sl 1008 0 16 1), (8, .i64 ((n + 6 : Nat) : Int)), (9, .i64 ((k + 1 : Nat) : Int)), (10, .sl 1016 0 (16) 1), (11, .i64 (((16) : Nat) : Int))], [(1000, some ⟨.aggI (biL (exL bxT n key)), 3, true⟩), (1008, some ⟨.aggI (biL (blkN bxT (exL bxT n key) (n + 6) b k)), 3, true⟩), (1016, some ⟨.aggI (biL (rgL (16) (fun i => bxT.getD ((blkN bxT (exL bxT n key) (n + 6) b k).getD ((i + 4 * (i % 4)) % 16) 0).toNat 0))), 3, true⟩)], 1024⟩) (StLe.mk [(1000, 1000), (1008, 1008), (1016, 1016)] rfl rfl ⟨⟨_, rfl, by first | (simp only [AV.ren]; done) | (simp only [AV.ren]; rw [ej]; done) | rfl, rfl⟩, ⟨_, rfl, by first | (simp only [AV.ren]; done) | (simp only [AV.ren]; rw [ej]; done) | rfl, rfl⟩, ⟨_, rfl, by first | (simp only [AV.ren]; done) | (simp only [AV.ren]; rw [ej]; done) | rfl, rfl⟩, ⟨_, rfl, by first | (simp only [AV.ren]; done) | (simp only [AV.ren]; rw [ej]; done) | rfl, rfl⟩, ⟨_, rfl, by first | (simp only [AV.ren]; done) | (simp only [AV.ren]; rw [ej]; done) | rfl, rfl⟩, ⟨_, rfl, by (subst ej; rfl), rfl⟩, ⟨_, rfl, by first | (simp only [AV.ren]; done) | (simp only [AV.ren]; rw [ej]; done) | rfl, rfl⟩, trivial⟩ ⟨⟨_, _, rfl, rfl, by first | (simp only [AV.ren]; done) | (simp only [AV.ren]; rw [ej]; done) | rfl, elemLe_same, own_same, rfl⟩, ⟨_, _, rfl, rfl, by first | (simp only [AV.ren]; done) | (simp only [AV.ren]; rw [ej]; done) | rfl, elemLe_same, own_same, rfl⟩, ⟨_, _, rfl, rfl, by (subst ej; rfl), elemLe_same, own_same, rfl⟩, trivial⟩) ?_
    refine .seq ?_
    refine .seq ?_
    refine .region ?_
    refine .q (op_assign rfl) trivial rfl ?_
    refine .nil ?_
    show Ev _ _ _ _ _
    refine .block ?_
    refine Ev.loop (ι := { c : Nat // c ≤ 4 ∧ (¬ k + 1 < n + 6 → c = 0) }) (fun q => ⟨[(0, .str key), (5, .sl 1000 0 (16 * (n + 7)) 1), (6, .sl 1008 0 16 1), (8, .i64 ((n + 6 : Nat) : Int)), (9, .i64 ((k + 1 : Nat) : Int)), (10, .sl 1016 0 16 1), (12, .i64 ((q.1 : Nat) : Int))], [(1000, some ⟨.aggI (biL (exL bxT n key)), 3, true⟩), (1008, some ⟨.aggI (biL (blkN bxT (exL bxT n key) (n + 6) b k)), 3, true⟩), (1016, some ⟨.aggI (biL (mpU (mxF (shL (sbL bxT (blkN bxT (exL bxT n key) (n + 6) b k)))) (shL (sbL bxT (blkN bxT (exL bxT n key) (n + 6) b k))) (4 * q.1))), 3, true⟩)], 1024⟩) (fun q => 4 - q.1) ⟨0, by omega⟩ (StLe.mk [(1000, 1000), (1008, 1008), (1016, 1016)] rfl rfl ⟨⟨_, rfl, by rfl, rfl⟩, ⟨_, rfl, by rfl, rfl⟩, ⟨_, rfl, by rfl, rfl⟩, ⟨_, rfl, by rfl, rfl⟩, ⟨_, rfl, by rfl, rfl⟩, ⟨_, rfl, by rfl, rfl⟩, ⟨_, rfl, by rfl, rfl⟩, trivial⟩ ⟨⟨_, _, rfl, rfl, rfl, rfl, id, rfl⟩, ⟨_, _, rfl, rfl, rfl, rfl, id, rfl⟩, ⟨_, _, rfl, rfl, by (simp only [AV.ren]; rw [Nat.mul_zero, mpU_zero, sh_sb]), elemLe_same, own_same, rfl⟩, trivial⟩) ?_
    rintro ⟨c, hc4⟩
    try dsimp only
    replace hc4 : c ≤ 4 ∧ (¬ k + 1 < n + 6 → c = 0) := hc4
    have hm : (mpU (mxF (shL (sbL bxT (blkN bxT (exL bxT n key) (n + 6) b k)))) (shL (sbL bxT (blkN bxT (exL bxT n key) (n + 6) b k))) (4 * c)).length = 16 := by rw [length_mpU _ _ _ (by rw [length_shL]; omega)]; exact length_shL _
    have hbm : (biL (mpU (mxF (shL (sbL bxT (blkN bxT (exL bxT n key) (n + 6) b k)))) (shL (sbL bxT (blkN bxT (exL bxT n key) (n + 6) b k))) (4 * c))).length = 16 := by rw [length_biL, hm]
    refine .seq ?_
    refine .seq ?_
    refine .region ?_
    refine .q (op_move rfl) trivial rfl ?_
    refine .q (op_cmpI rfl rfl rfl) trivial rfl ?_
    refine .q (op_move rfl) trivial rfl ?_
    refine .split (fun hg69 => ?_) (fun hg69 => ?_)
    ·simp only [decide_eq_true_eq] at hg69
     refine .q (op_move rfl) ⟨_, rfl, rfl⟩ rfl ?_
     refine .q (op_move rfl) ⟨_, rfl, rfl⟩ rfl ?_
     refine .q (op_cmpI rfl rfl rfl) ⟨_, rfl, rfl⟩ rfl ?_
     refine .q (op_pick_true rfl rfl rfl) trivial rfl ?_
     refine .nil ?_
     show Ev _ _ _ _ _
     refine .cond rfl (fun hc73 => ?_) (fun hc73 => ?_)
     ·simp only [decide_eq_true_eq] at hc73
      refine .skip ?_
      show Ev _ _ _ _ _
      refine .seq ?_
      refine .block ?_
      refine .seq ?_
      refine .drawn [[], [], [1], [0, 1, 2], [0, 1, 2, 3], [], [], [6], [6, 7], [5, 6, 7, 8], [5, 6, 7, 8, 9], [], [], [12], [12, 13], [11, 12, 13, 14], [11, 12, 13, 14, 15], [], [], [18], [18, 19], [17, 18, 19, 20], [17, 18, 19, 20, 21], [0, 1, 2, 3, 4], [0, 1, 2, 3, 4, 5, 6, 7, 8, 9, 10, 23], [0, 1, 2, 3, 4, 5, 6, 7, 8, 9, 10, 11, 12, 13, 14, 15, 16, 23, 24], [0, 1, 2, 3, 4, 5, 6, 7, 8, 9, 10, 11, 12, 13, 14, 15, 16, 17, 18, 19, 20, 21, 22, 23, 24, 25]] [4, 10, 16, 22] [] (by kernel_rfl) (by kernel_rfl) rfl ?_
      show DK _ [0, 1, 2, 3, 4, 5, 6, 7, 8, 9, 10, 11, 12, 13, 14, 15, 16, 17, 18, 19, 20, 21, 22, 23, 24, 25, 26] _ _ _
      refine .q rfl (op_move rfl) trivial ?_
      refine .q rfl (op_move rfl) trivial ?_
      refine .q rfl (op_mulI rfl rfl ⟨by omega, by omega⟩) trivial ?_
      refine .q rfl (ap_idx0 Tryd.underlying53 inf3.sz rfl rfl (i := 4 * c) (by omega) (by omega)) trivial ?_
      refine .q rfl (op_load Tryd.underlying3 rfl rfl rfl rfl (by show _ < List.length _; rw [hbm]; omega)) trivial ?_
      refine .as (.i64 (((shL (sbL bxT (blkN bxT (exL bxT n key) (n + 6) b k))).getD (4 * c) 0).toNat : Int)) (by rw [bi_get, mpU_get _ _ _ _ (by omega)]) ?_
      refine .q rfl (op_move rfl) trivial ?_
      refine .q rfl (op_move rfl) trivial ?_
      refine .q rfl (op_mulI rfl rfl ⟨by omega, by omega⟩) trivial ?_
      refine .q rfl (op_addI rfl rfl ⟨by omega, by omega⟩) trivial ?_
      refine .q rfl (ap_idx0 Tryd.underlying53 inf3.sz rfl rfl (i := 4 * c + 1) (by omega) (by omega)) trivial ?_
      refine .q rfl (op_load Tryd.underlying3 rfl rfl rfl rfl (by show _ < List.length _; rw [hbm]; omega)) trivial ?_
      refine .as (.i64 (((shL (sbL bxT (blkN bxT (exL bxT n key) (n + 6) b k))).getD (4 * c + 1) 0).toNat : Int)) (by rw [bi_get, mpU_get _ _ _ _ (by omega)]) ?_
      refine .q rfl (op_move rfl) trivial ?_
      refine .q rfl (op_move rfl) trivial ?_
      refine .q rfl (op_mulI rfl rfl ⟨by omega, by omega⟩) trivial ?_
      refine .q rfl (op_addI rfl rfl ⟨by omega, by omega⟩) trivial ?_
      refine .q rfl (ap_idx0 Tryd.underlying53 inf3.sz rfl rfl (i := 4 * c + 2) (by omega) (by omega)) trivial ?_
      refine .q rfl (op_load Tryd.underlying3 rfl rfl rfl rfl (by show _ < List.length _; rw [hbm]; omega)) trivial ?_
      refine .as (.i64 (((shL (sbL bxT (blkN bxT (exL bxT n key) (n + 6) b k))).getD (4 * c + 2) 0).toNat : Int)) (by rw [bi_get, mpU_get _ _ _ _ (by omega)]) ?_
      refine .q rfl (op_move rfl) trivial ?_
      refine .q rfl (op_move rfl) trivial ?_
      refine .q rfl (op_mulI rfl rfl ⟨by omega, by omega⟩) trivial ?_
      refine .q rfl (op_addI rfl rfl ⟨by omega, by omega⟩) trivial ?_
      refine .q rfl (ap_idx0 Tryd.underlying53 inf3.sz rfl rfl (i := 4 * c + 3) (by omega) (by omega)) trivial ?_
      refine .q rfl (op_load Tryd.underlying3 rfl rfl rfl rfl (by show _ < List.length _; rw [hbm]; omega)) trivial ?_
      refine .as (.i64 (((shL (sbL bxT (blkN bxT (exL bxT n key) (n + 6) b k))).getD (4 * c + 3) 0).toNat : Int)) (by rw [bi_get, mpU_get _ _ _ _ (by omega)]) ?_
      refine .q rfl (op_assign rfl) trivial ?_
      refine .q rfl (op_assign rfl) trivial ?_
      refine .q rfl (op_assign rfl) trivial ?_
      refine .q rfl (op_assign rfl) trivial ?_
      refine .nil ?_
      show Ev _ _ _ _ _
      refine .seq ?_
      refine .region ?_
      refine .q (op_move rfl) trivial rfl ?_
      refine .q (op_move rfl) trivial rfl ?_
      refine .q (op_mulI rfl rfl ⟨by omega, by omega⟩) trivial rfl ?_
      refine .q (op_move rfl) trivial rfl ?_
      refine .q (op_call (U := []) [] [] (mul2_ev _) Tryd.func27 (by kernel_rfl) rfl rfl rfl (⟨⟨_, rfl, rfl, rfl⟩, ⟨_, rfl, rfl, rfl⟩, trivial⟩) (trivial) (trivial) (trivial) rfl) trivial rfl ?_
      refine .q (op_move rfl) trivial rfl ?_
      refine .q (op_call (U := []) [] [] (mul3_ev _) Tryd.func27 (by kernel_rfl) rfl rfl rfl (⟨⟨_, rfl, rfl, rfl⟩, ⟨_, rfl, rfl, rfl⟩, trivial⟩) (trivial) (trivial) (trivial) rfl) trivial rfl ?_
      refine .q (op_xorB rfl rfl) trivial rfl ?_
      refine .q (op_move rfl) trivial rfl ?_
      refine .q (op_xorB rfl rfl) trivial rfl ?_
      refine .q (op_move rfl) trivial rfl ?_
      refine .q (op_xorB rfl rfl) trivial rfl ?_
      refine .q (ap_idx0 Tryd.underlying53 inf3.sz rfl rfl (i := 4 * c) (by omega) (by omega)) trivial rfl ?_
      refine .w (op_store inf3.sz rfl rfl rfl rfl rfl (by show _ < List.length _; first | (rw [hbm]; omega) | (simp only [List.length_set]; rw [hbm]; omega))) trivial rfl ?_
      refine .nil ?_
      show Ev _ _ _ _ _
      refine .seq ?_
      refine .region ?_
      refine .q (op_move rfl) trivial rfl ?_
      refine .q (op_move rfl) trivial rfl ?_
      refine .q (op_mulI rfl rfl ⟨by omega, by omega⟩) trivial rfl ?_
      refine .q (op_addI rfl rfl ⟨by omega, by omega⟩) trivial rfl ?_
      refine .q (op_move rfl) trivial rfl ?_
      refine .q (op_move rfl) trivial rfl ?_
      refine .q (op_call (U := []) [] [] (mul2_ev _) Tryd.func27 (by kernel_rfl) rfl rfl rfl (⟨⟨_, rfl, rfl, rfl⟩, ⟨_, rfl, rfl, rfl⟩, trivial⟩) (trivial) (trivial) (trivial) rfl) trivial rfl ?_
      refine .q (op_xorB rfl rfl) trivial rfl ?_
      refine .q (op_move rfl) trivial rfl ?_
      refine .q (op_call (U := []) [] [] (mul3_ev _) Tryd.func27 (by kernel_rfl) rfl rfl rfl (⟨⟨_, rfl, rfl, rfl⟩, ⟨_, rfl, rfl, rfl⟩, trivial⟩) (trivial) (trivial) (trivial) rfl) trivial rfl ?_
      refine .q (op_xorB rfl rfl) trivial rfl ?_
      refine .q (op_move rfl) trivial rfl ?_
      refine .q (op_xorB rfl rfl) trivial rfl ?_
      refine .q (ap_idx0 Tryd.underlying53 inf3.sz rfl rfl (i := 4 * c + 1) (by omega) (by omega)) trivial rfl ?_
      refine .w (op_store inf3.sz rfl rfl rfl rfl rfl (by show _ < List.length _; first | (rw [hbm]; omega) | (simp only [List.length_set]; rw [hbm]; omega))) trivial rfl ?_
      refine .nil ?_
      show Ev _ _ _ _ _
      refine .seq ?_
      refine .region ?_
      refine .q (op_move rfl) trivial rfl ?_
      refine .q (op_move rfl) trivial rfl ?_
      refine .q (op_mulI rfl rfl ⟨by omega, by omega⟩) trivial rfl ?_
      refine .q (op_addI rfl rfl ⟨by omega, by omega⟩) trivial rfl ?_
      refine .q (op_move rfl) trivial rfl ?_
      refine .q (op_move rfl) trivial rfl ?_
      refine .q (op_xorB rfl rfl) trivial rfl ?_
      refine .q (op_move rfl) trivial rfl ?_
      refine .q (op_call (U := []) [] [] (mul2_ev _) Tryd.func27 (by kernel_rfl) rfl rfl rfl (⟨⟨_, rfl, rfl, rfl⟩, ⟨_, rfl, rfl, rfl⟩, trivial⟩) (trivial) (trivial) (trivial) rfl) trivial rfl ?_
      refine .q (op_xorB rfl rfl) trivial rfl ?_
      refine .q (op_move rfl) trivial rfl ?_
      refine .q (op_call (U := []) [] [] (mul3_ev _) Tryd.func27 (by kernel_rfl) rfl rfl rfl (⟨⟨_, rfl, rfl, rfl⟩, ⟨_, rfl, rfl, rfl⟩, trivial⟩) (trivial) (trivial) (trivial) rfl) trivial rfl ?_
      refine .q (op_xorB rfl rfl) trivial rfl ?_
      refine .q (ap_idx0 Tryd.underlying53 inf3.sz rfl rfl (i := 4 * c + 2) (by omega) (by omega)) trivial rfl ?_
      refine .w (op_store inf3.sz rfl rfl rfl rfl rfl (by show _ < List.length _; first | (rw [hbm]; omega) | (simp only [List.length_set]; rw [hbm]; omega))) trivial rfl ?_
      refine .nil ?_
      show Ev _ _ _ _ _
      refine .region ?_
      refine .q (op_move rfl) trivial rfl ?_
      refine .q (op_move rfl) trivial rfl ?_
      refine .q (op_mulI rfl rfl ⟨by omega, by omega⟩) trivial rfl ?_
      refine .q (op_addI rfl rfl ⟨by omega, by omega⟩) trivial rfl ?_
      refine .q (op_move rfl) trivial rfl ?_
      refine .q (op_call (U := []) [] [] (mul3_ev _) Tryd.func27 (by kernel_rfl) rfl rfl rfl (⟨⟨_, rfl, rfl, rfl⟩, ⟨_, rfl, rfl, rfl⟩, trivial⟩) (trivial) (trivial) (trivial) rfl) trivial rfl ?_
      refine .q (op_move rfl) trivial rfl ?_
      refine .q (op_xorB rfl rfl) trivial rfl ?_
      refine .q (op_move rfl) trivial rfl ?_
      refine .q (op_xorB rfl rfl) trivial rfl ?_
      refine .q (op_move rfl) trivial rfl ?_
      refine .q (op_call (U := []) [] [] (mul2_ev _) Tryd.func27 (by kernel_rfl) rfl rfl rfl (⟨⟨_, rfl, rfl, rfl⟩, ⟨_, rfl, rfl, rfl⟩, trivial⟩) (trivial) (trivial) (trivial) rfl) trivial rfl ?_
      refine .q (op_xorB rfl rfl) trivial rfl ?_
      refine .q (ap_idx0 Tryd.underlying53 inf3.sz rfl rfl (i := 4 * c + 3) (by omega) (by omega)) trivial rfl ?_
      refine .w (op_store inf3.sz rfl rfl rfl rfl rfl (by show _ < List.length _; first | (rw [hbm]; omega) | (simp only [List.length_set]; rw [hbm]; omega))) trivial rfl ?_
      refine .nil ?_
      show Ev _ _ _ _ _
      refine .region ?_
      refine .q (op_move rfl) trivial rfl ?_
      refine .q (op_addI rfl rfl ⟨by omega, by omega⟩) trivial rfl ?_
      refine .q (op_assign rfl) trivial rfl ?_
      refine .nil ?_
      exact ⟨⟨c + 1, by omega⟩, by (try dsimp only); omega, StLe.mk [(1000, 1000), (1008, 1008), (1016, 1016)] rfl rfl ⟨⟨_, rfl, by rfl, rfl⟩, ⟨_, rfl, by rfl, rfl⟩, ⟨_, rfl, by rfl, rfl⟩, ⟨_, rfl, by rfl, rfl⟩, ⟨_, rfl, by rfl, rfl⟩, ⟨_, rfl, by rfl, rfl⟩, ⟨_, rfl, by first | rfl | (simp only [AV.ren]; congr 1 <;> omega), rfl⟩, trivial⟩ ⟨⟨_, _, rfl, rfl, rfl, rfl, id, rfl⟩, ⟨_, _, rfl, rfl, rfl, rfl, id, rfl⟩, ⟨_, _, rfl, rfl, by (simp only [AV.ren]; exact congrArg AV.aggI (mx_col _ c (length_shL _) (by omega) _ _ _ _ (mxF_0 _ c (by omega)) (mxF_1 _ c (by omega)) (mxF_2 _ c (by omega)) (mxF_3 _ c (by omega)))), elemLe_same, own_same, rfl⟩, trivial⟩⟩
     ·simp only [decide_eq_false_iff_not] at hc73
      refine .exit ?_
      show Ev _ _ _ _ _
      refine Ev.weak (st2 := ⟨[(0, .str key), (5, .sl 1000 0 (16 * (n + 7)) 1), (6, .sl 1008 0 16 1), (8, .i64 ((n + 6 : Nat) : Int)), (9, .i64 ((k + 1 : Nat) : Int)), (10, .sl 1016 0 16 1)], [(1000, some ⟨.aggI (biL (exL bxT n key)), 3, true⟩), (1008, some ⟨.aggI (biL (blkN bxT (exL bxT n key) (n + 6) b k)), 3, true⟩), (1016, some ⟨.aggI (biL (mxQ (decide (k + 1 < n + 6)) (shL (sbL bxT (blkN bxT (exL bxT n key) (n + 6) b k))))), 3, true⟩)], 1024⟩) (StLe.mk [(1000, 1000), (1008, 1008), (1016, 1016)] rfl rfl ⟨⟨_, rfl, by rfl, rfl⟩, ⟨_, rfl, by rfl, rfl⟩, ⟨_, rfl, by rfl, rfl⟩, ⟨_, rfl, by rfl, rfl⟩, ⟨_, rfl, by rfl, rfl⟩, ⟨_, rfl, by rfl, rfl⟩, trivial⟩ ⟨⟨_, _, rfl, rfl, rfl, rfl, id, rfl⟩, ⟨_, _, rfl, rfl, rfl, rfl, id, rfl⟩, ⟨_, _, rfl, rfl, by (simp only [AV.ren]; first | (rw [mxQ, if_neg (by rw [decide_eq_true_eq]; omega), show 4 * c = 0 by omega, mpU_zero]) | (rw [mxQ, if_pos (decide_eq_true (by omega)), show 4 * c = 16 by omega, mpU_all _ _ 16 (length_shL _)]; rfl)), elemLe_same, own_same, rfl⟩, trivial⟩) ?_
      refine .seq ?_
      refine .region ?_
      refine .q (op_assign rfl) trivial rfl ?_
      refine .nil ?_
      show Ev _ _ _ _ _
      refine .block ?_
      refine Ev.loop (ι := { j : Nat // j ≤ 16 }) (fun j => ⟨[(0, .str key), (5, .sl 1000 0 (16 * (n + 7)) 1), (6, .sl 1008 0 16 1), (8, .i64 ((n + 6 : Nat) : Int)), (9, .i64 ((k + 1 : Nat) : Int)), (10, .sl 1016 0 16 1), (17, .i64 ((j.1 : Nat) : Int))], [(1000, some ⟨.aggI (biL (exL bxT n key)), 3, true⟩), (1008, some ⟨.aggI (biL (mpU (fun i => (mxQ (decide (k + 1 < n + 6)) (shL (sbL bxT (blkN bxT (exL bxT n key) (n + 6) b k)))).getD i 0 ^^^ (exL bxT n key).getD (16 * (k + 1) + i) 0) (blkN bxT (exL bxT n key) (n + 6) b k) j.1)), 3, true⟩), (1016, some ⟨.aggI (biL (mxQ (decide (k + 1 < n + 6)) (shL (sbL bxT (blkN bxT (exL bxT n key) (n + 6) b k))))), 3, true⟩)], 1024⟩) (fun j => 16 - j.1) ⟨0, Nat.zero_le _⟩ (StLe.mk [(1000, 1000), (1008, 1008), (1016, 1016)] rfl rfl ⟨⟨_, rfl, by first | rfl | (simp only [AV.ren]; congr 1 <;> omega), rfl⟩, ⟨_, rfl, by first | rfl | (simp only [AV.ren]; congr 1 <;> omega), rfl⟩, ⟨_, rfl, by first | rfl | (simp only [AV.ren]; congr 1 <;> omega), rfl⟩, ⟨_, rfl, by first | rfl | (simp only [AV.ren]; congr 1 <;> omega), rfl⟩, ⟨_, rfl, by first | rfl | (simp only [AV.ren]; congr 1 <;> omega), rfl⟩, ⟨_, rfl, by first | rfl | (simp only [AV.ren]; congr 1 <;> omega), rfl⟩, ⟨_, rfl, by first | rfl | (simp only [AV.ren]; congr 1 <;> omega), rfl⟩, trivial⟩ ⟨⟨_, _, rfl, rfl, by first | rfl | (simp only [AV.ren]; congr 1 <;> omega), elemLe_same, own_same, rfl⟩, ⟨_, _, rfl, rfl, by (simp only [AV.ren]; rw [mpU_zero]), elemLe_same, own_same, rfl⟩, ⟨_, _, rfl, rfl, by first | rfl | (simp only [AV.ren]; congr 1 <;> omega), elemLe_same, own_same, rfl⟩, trivial⟩) ?_
      rintro ⟨j, hj⟩
      dsimp only
      have hg := length_mpU (fun i => (mxQ (decide (k + 1 < n + 6)) (shL (sbL bxT (blkN bxT (exL bxT n key) (n + 6) b k)))).getD i 0 ^^^ (exL bxT n key).getD (16 * (k + 1) + i) 0) (blkN bxT (exL bxT n key) (n + 6) b k) j (by omega)
      have hbg : (biL (mpU (fun i => (mxQ (decide (k + 1 < n + 6)) (shL (sbL bxT (blkN bxT (exL bxT n key) (n + 6) b k)))).getD i 0 ^^^ (exL bxT n key).getD (16 * (k + 1) + i) 0) (blkN bxT (exL bxT n key) (n + 6) b k) j)).length = 16 := by rw [length_biL, hg]; exact hs16
      have hbt : (biL (mxQ (decide (k + 1 < n + 6)) (shL (sbL bxT (blkN bxT (exL bxT n key) (n + 6) b k))))).length = 16 := by rw [length_biL]; cases decide (k + 1 < n + 6) <;> exact length_rgL _ _
      refine .seq ?_
      refine .seq ?_
      refine .region ?_
      refine .q (op_move rfl) trivial rfl ?_
      refine .q (op_cmpI rfl rfl rfl) trivial rfl ?_
      refine .nil ?_
      show Ev _ _ _ _ _
      refine .cond rfl (fun hc155 => ?_) (fun hc155 => ?_)
      ·simp only [decide_eq_true_eq] at hc155
       refine .skip ?_
       show Ev _ _ _ _ _
       refine .seq ?_
       refine .block ?_
       refine .drawn [[], [], [], [], [2, 3], [2, 3, 4], [], [], [7], [], [7, 8, 9], [6, 7, 8, 9, 10], [6, 7, 8, 9, 10, 11], [2, 3, 4, 5, 6, 7, 8, 9, 10, 11, 12], [0, 1, 2, 3, 4, 5, 6, 7, 8, 9, 10, 11, 12, 13], [0, 1, 2, 3, 4, 5, 6, 7, 8, 9, 10, 11, 12, 13, 14]] [5, 12, 15] [15] (by kernel_rfl) (by kernel_rfl) rfl ?_
       show DK _ [0, 1, 2, 3, 4, 5, 6, 7, 8, 9, 10, 11, 12, 13, 14, 15] _ _ _
       refine .q rfl (op_move rfl) trivial ?_
       refine .q rfl (op_move rfl) trivial ?_
       refine .q rfl (op_move rfl) trivial ?_
       refine .q rfl (op_move rfl) trivial ?_
       refine .q rfl (ap_idx0 Tryd.underlying53 inf3.sz rfl rfl rfl (by first | omega | (simp only [AV.len]; omega) | (simp only [AV.len, List.length_set]; omega) | assumption | (simp [AV.len]; done))) trivial ?_
       refine .q rfl (op_load Tryd.underlying3 rfl rfl rfl rfl (by show _ < List.length _; rw [hbt]; omega)) trivial ?_
       refine .as (.i64 (((mxQ (decide (k + 1 < n + 6)) (shL (sbL bxT (blkN bxT (exL bxT n key) (n + 6) b k)))).getD j 0).toNat : Int)) (by rw [bi_get]) ?_
       refine .q rfl (op_move rfl) trivial ?_
       refine .q rfl (op_move rfl) trivial ?_
       refine .q rfl (op_mulI rfl rfl ⟨by omega, by omega⟩) trivial ?_
       refine .q rfl (op_move rfl) trivial ?_
       refine .q rfl (op_addI rfl rfl ⟨by omega, by omega⟩) trivial ?_
       refine .q rfl (ap_idx0 Tryd.underlying53 inf3.sz rfl rfl (i := 16 * (k + 1) + j) (by omega) (by omega)) trivial ?_
       refine .q rfl (op_load Tryd.underlying3 rfl rfl rfl rfl (by show _ < List.length _; rw [hbw]; omega)) trivial ?_
       refine .as (.i64 (((exL bxT n key).getD (16 * (k + 1) + j) 0).toNat : Int)) (by rw [bi_get]) ?_
       refine .q rfl (op_xorB rfl rfl) trivial ?_
       refine .q rfl (ap_idx0 Tryd.underlying53 inf3.sz rfl rfl rfl (by first | omega | (simp only [AV.len]; omega) | (simp only [AV.len, List.length_set]; omega) | assumption | (simp [AV.len]; done))) trivial ?_
       refine .w rfl (op_store inf3.sz rfl rfl rfl rfl rfl (by show _ < List.length _; rw [hbg]; omega)) trivial rfl rfl ?_
       refine .nil ?_
       show Ev _ _ _ _ _
       refine .region ?_
       refine .q (op_move rfl) trivial rfl ?_
       refine .q (op_addI rfl rfl ⟨by omega, by omega⟩) trivial rfl ?_
       refine .q (op_assign rfl) trivial rfl ?_
       refine .nil ?_
       exact ⟨⟨j + 1, by omega⟩, by show 16 - (j + 1) < 16 - j; omega, StLe.mk [(1000, 1000), (1008, 1008), (1016, 1016)] rfl rfl ⟨⟨_, rfl, by first | rfl | (simp only [AV.ren]; congr 1 <;> omega), rfl⟩, ⟨_, rfl, by first | rfl | (simp only [AV.ren]; congr 1 <;> omega), rfl⟩, ⟨_, rfl, by first | rfl | (simp only [AV.ren]; congr 1 <;> omega), rfl⟩, ⟨_, rfl, by first | rfl | (simp only [AV.ren]; congr 1 <;> omega), rfl⟩, ⟨_, rfl, by first | rfl | (simp only [AV.ren]; congr 1 <;> omega), rfl⟩, ⟨_, rfl, by first | rfl | (simp only [AV.ren]; congr 1 <;> omega), rfl⟩, ⟨_, rfl, by first | rfl | (simp only [AV.ren]; congr 1 <;> omega), rfl⟩, trivial⟩ ⟨⟨_, _, rfl, rfl, by first | rfl | (simp only [AV.ren]; congr 1 <;> omega), elemLe_same, own_same, rfl⟩, ⟨_, _, rfl, rfl, by (simp only [AV.ren]; rw [bi_set, mpU_set _ _ _ _ (by omega) rfl]), elemLe_same, own_same, rfl⟩, ⟨_, _, rfl, rfl, by first | rfl | (simp only [AV.ren]; congr 1 <;> omega), elemLe_same, own_same, rfl⟩, trivial⟩⟩
      ·simp only [decide_eq_false_iff_not] at hc155
       refine .exit ?_
       show Ev _ _ _ _ _
       have ej : j = 16 := by omega
       refine Ev.weak (st2 := ⟨[(0, .str key), (5, .sl 1000 0 (16 * (n + 7)) 1), (6, .sl 1008 0 16 1), (8, .i64 ((n + 6 : Nat) : Int)), (9, .i64 ((k + 1 : Nat) : Int)), (10, .sl 1016 0 16 1), (17, .i64 (((16) : Nat) : Int))], [(1000, some ⟨.aggI (biL (exL bxT n key)), 3, true⟩), (1008, some ⟨.aggI (biL (mpU (fun i => (mxQ (decide (k + 1 < n + 6)) (shL (sbL bxT (blkN bxT (exL bxT n key) (n + 6) b k)))).getD i 0 ^^^ (exL bxT n key).getD (16 * (k + 1) + i) 0) (blkN bxT (exL bxT n key) (n + 6) b k) (16))), 3, true⟩), (1016, some ⟨.aggI (biL (mxQ (decide (k + 1 < n + 6)) (shL (sbL bxT (blkN bxT (exL bxT n key) (n + 6) b k))))), 3, true⟩)], 1024⟩) (StLe.mk [(1000, 1000), (1008, 1008), (1016, 1016)] rfl rfl ⟨⟨_, rfl, by first | (simp only [AV.ren]; done) | (simp only [AV.ren]; rw [ej]; done) | rfl, rfl⟩, ⟨_, rfl, by first | (simp only [AV.ren]; done) | (simp only [AV.ren]; rw [ej]; done) | rfl, rfl⟩, ⟨_, rfl, by first | (simp only [AV.ren]; done) | (simp only [AV.ren]; rw [ej]; done) | rfl, rfl⟩, ⟨_, rfl, by first | (simp only [AV.ren]; done) | (simp only [AV.ren]; rw [ej]; done) | rfl, rfl⟩, ⟨_, rfl, by first | (simp only [AV.ren]; done) | (simp only [AV.ren]; rw [ej]; done) | rfl, rfl⟩, ⟨_, rfl, by first | (simp only [AV.ren]; done) | (simp only [AV.ren]; rw [ej]; done) | rfl, rfl⟩, ⟨_, rfl, by first | (simp only [AV.ren]; done) | (simp only [AV.ren]; rw [ej]; done) | rfl, rfl⟩, trivial⟩ ⟨⟨_, _, rfl, rfl, by first | (simp only [AV.ren]; done) | (simp only [AV.ren]; rw [ej]; done) | rfl, elemLe_same, own_same, rfl⟩, ⟨_, _, rfl, rfl, by (subst ej; rfl), elemLe_same, own_same, rfl⟩, ⟨_, _, rfl, rfl, by first | (simp only [AV.ren]; done) | (simp only [AV.ren]; rw [ej]; done) | rfl, elemLe_same, own_same, rfl⟩, trivial⟩) ?_
       refine .region ?_
       refine .q (op_move rfl) trivial rfl ?_
       refine .q (op_addI rfl rfl ⟨by omega, by omega⟩) trivial rfl ?_
       refine .q (op_assign rfl) trivial rfl ?_
       refine .nil ?_
       exact ⟨⟨k + 1, by omega⟩, by (try dsimp only); omega, StLe.mk [(1000, 1000), (1008, 1008)] rfl rfl ⟨⟨_, rfl, by rfl, rfl⟩, ⟨_, rfl, by rfl, rfl⟩, ⟨_, rfl, by rfl, rfl⟩, ⟨_, rfl, by rfl, rfl⟩, ⟨_, rfl, by first | rfl | (simp only [AV.ren]; congr 1 <;> omega), rfl⟩, trivial⟩ ⟨⟨_, _, rfl, rfl, rfl, rfl, id, rfl⟩, ⟨_, _, rfl, rfl, by (simp only [AV.ren]; rw [mpU_all _ _ 16 hs16, ad_kq, blkN_succ]), elemLe_same, own_same, rfl⟩, trivial⟩⟩
    ·simp only [decide_eq_false_iff_not] at hg69
     refine .no ⟨_, rfl, rfl⟩ rfl ?_
     refine .no ⟨_, rfl, rfl⟩ rfl ?_
     refine .no ⟨_, rfl, rfl⟩ rfl ?_
     refine .q (op_pick_false rfl rfl rfl) trivial rfl ?_
     refine .nil ?_
     show Ev _ _ _ _ _
     refine .cond_false rfl rfl ?_
     refine .exit ?_
     show Ev _ _ _ _ _
     refine Ev.weak (st2 := ⟨[(0, .str key), (5, .sl 1000 0 (16 * (n + 7)) 1), (6, .sl 1008 0 16 1), (8, .i64 ((n + 6 : Nat) : Int)), (9, .i64 ((k + 1 : Nat) : Int)), (10, .sl 1016 0 16 1)], [(1000, some ⟨.aggI (biL (exL bxT n key)), 3, true⟩), (1008, some ⟨.aggI (biL (blkN bxT (exL bxT n key) (n + 6) b k)), 3, true⟩), (1016, some ⟨.aggI (biL (mxQ (decide (k + 1 < n + 6)) (shL (sbL bxT (blkN bxT (exL bxT n key) (n + 6) b k))))), 3, true⟩)], 1024⟩) (StLe.mk [(1000, 1000), (1008, 1008), (1016, 1016)] rfl rfl ⟨⟨_, rfl, by rfl, rfl⟩, ⟨_, rfl, by rfl, rfl⟩, ⟨_, rfl, by rfl, rfl⟩, ⟨_, rfl, by rfl, rfl⟩, ⟨_, rfl, by rfl, rfl⟩, ⟨_, rfl, by rfl, rfl⟩, trivial⟩ ⟨⟨_, _, rfl, rfl, rfl, rfl, id, rfl⟩, ⟨_, _, rfl, rfl, rfl, rfl, id, rfl⟩, ⟨_, _, rfl, rfl, by (simp only [AV.ren]; first | (rw [mxQ, if_neg (by rw [decide_eq_true_eq]; omega), show 4 * c = 0 by omega, mpU_zero]) | (rw [mxQ, if_pos (decide_eq_true (by omega)), show 4 * c = 16 by omega, mpU_all _ _ 16 (length_shL _)]; rfl)), elemLe_same, own_same, rfl⟩, trivial⟩) ?_
     refine .seq ?_
     refine .region ?_
     refine .q (op_assign rfl) trivial rfl ?_
     refine .nil ?_
     show Ev _ _ _ _ _
     refine .block ?_
     refine Ev.loop (ι := { j : Nat // j ≤ 16 }) (fun j => ⟨[(0, .str key), (5, .sl 1000 0 (16 * (n + 7)) 1), (6, .sl 1008 0 16 1), (8, .i64 ((n + 6 : Nat) : Int)), (9, .i64 ((k + 1 : Nat) : Int)), (10, .sl 1016 0 16 1), (17, .i64 ((j.1 : Nat) : Int))], [(1000, some ⟨.aggI (biL (exL bxT n key)), 3, true⟩), (1008, some ⟨.aggI (biL (mpU (fun i => (mxQ (decide (k + 1 < n + 6)) (shL (sbL bxT (blkN bxT (exL bxT n key) (n + 6) b k)))).getD i 0 ^^^ (exL bxT n key).getD (16 * (k + 1) + i) 0) (blkN bxT (exL bxT n key) (n + 6) b k) j.1)), 3, true⟩), (1016, some ⟨.aggI (biL (mxQ (decide (k + 1 < n + 6)) (shL (sbL bxT (blkN bxT (exL bxT n key) (n + 6) b k))))), 3, true⟩)], 1024⟩) (fun j => 16 - j.1) ⟨0, Nat.zero_le _⟩ (StLe.mk [(1000, 1000), (1008, 1008), (1016, 1016)] rfl rfl ⟨⟨_, rfl, by first | rfl | (simp only [AV.ren]; congr 1 <;> omega), rfl⟩, ⟨_, rfl, by first | rfl | (simp only [AV.ren]; congr 1 <;> omega), rfl⟩, ⟨_, rfl, by first | rfl | (simp only [AV.ren]; congr 1 <;> omega), rfl⟩, ⟨_, rfl, by first | rfl | (simp only [AV.ren]; congr 1 <;> omega), rfl⟩, ⟨_, rfl, by first | rfl | (simp only [AV.ren]; congr 1 <;> omega), rfl⟩, ⟨_, rfl, by first | rfl | (simp only [AV.ren]; congr 1 <;> omega), rfl⟩, ⟨_, rfl, by first | rfl | (simp only [AV.ren]; congr 1 <;> omega), rfl⟩, trivial⟩ ⟨⟨_, _, rfl, rfl, by first | rfl | (simp only [AV.ren]; congr 1 <;> omega), elemLe_same, own_same, rfl⟩, ⟨_, _, rfl, rfl, by (simp only [AV.ren]; rw [mpU_zero]), elemLe_same, own_same, rfl⟩, ⟨_, _, rfl, rfl, by first | rfl | (simp only [AV.ren]; congr 1 <;> omega), elemLe_same, own_same, rfl⟩, trivial⟩) ?_
     rintro ⟨j, hj⟩
     dsimp only
     have hg := length_mpU (fun i => (mxQ (decide (k + 1 < n + 6)) (shL (sbL bxT (blkN bxT (exL bxT n key) (n + 6) b k)))).getD i 0 ^^^ (exL bxT n key).getD (16 * (k + 1) + i) 0) (blkN bxT (exL bxT n key) (n + 6) b k) j (by omega)
     have hbg : (biL (mpU (fun i => (mxQ (decide (k + 1 < n + 6)) (shL (sbL bxT (blkN bxT (exL bxT n key) (n + 6) b k)))).getD i 0 ^^^ (exL bxT n key).getD (16 * (k + 1) + i) 0) (blkN bxT (exL bxT n key) (n + 6) b k) j)).length = 16 := by rw [length_biL, hg]; exact hs16
     have hbt : (biL (mxQ (decide (k + 1 < n + 6)) (shL (sbL bxT (blkN bxT (exL bxT n key) (n + 6) b k))))).length = 16 := by rw [length_biL]; cases decide (k + 1 < n + 6) <;> exact length_rgL _ _
     refine .seq ?_
     refine .seq ?_
     refine .region ?_
     refine .q (op_move rfl) trivial rfl ?_
     refine .q (op_cmpI rfl rfl rfl) trivial rfl ?_
     refine .nil ?_
     show Ev _ _ _ _ _
     refine .cond rfl (fun hc155 => ?_) (fun hc155 => ?_)
     ·simp only [decide_eq_true_eq] at hc155
      refine .skip ?_
      show Ev _ _ _ _ _
      refine .seq ?_
      refine .block ?_
      refine .drawn [[], [], [], [], [2, 3], [2, 3, 4], [], [], [7], [], [7, 8, 9], [6, 7, 8, 9, 10], [6, 7, 8, 9, 10, 11], [2, 3, 4, 5, 6, 7, 8, 9, 10, 11, 12], [0, 1, 2, 3, 4, 5, 6, 7, 8, 9, 10, 11, 12, 13], [0, 1, 2, 3, 4, 5, 6, 7, 8, 9, 10, 11, 12, 13, 14]] [5, 12, 15] [15] (by kernel_rfl) (by kernel_rfl) rfl ?_
      show DK _ [0, 1, 2, 3, 4, 5, 6, 7, 8, 9, 10, 11, 12, 13, 14, 15] _ _ _
      refine .q rfl (op_move rfl) trivial ?_
      refine .q rfl (op_move rfl) trivial ?_
      refine .q rfl (op_move rfl) trivial ?_
      refine .q rfl (op_move rfl) trivial ?_
      refine .q rfl (ap_idx0 Tryd.underlying53 inf3.sz rfl rfl rfl (by first | omega | (simp only [AV.len]; omega) | (simp only [AV.len, List.length_set]; omega) | assumption | (simp [AV.len]; done))) trivial ?_
      refine .q rfl (op_load Tryd.underlying3 rfl rfl rfl rfl (by show _ < List.length _; rw [hbt]; omega)) trivial ?_
      refine .as (.i64 (((mxQ (decide (k + 1 < n + 6)) (shL (sbL bxT (blkN bxT (exL bxT n key) (n + 6) b k)))).getD j 0).toNat : Int)) (by rw [bi_get]) ?_
      refine .q rfl (op_move rfl) trivial ?_
      refine .q rfl (op_move rfl) trivial ?_
      refine .q rfl (op_mulI rfl rfl ⟨by omega, by omega⟩) trivial ?_
      refine .q rfl (op_move rfl) trivial ?_
      refine .q rfl (op_addI rfl rfl ⟨by omega, by omega⟩) trivial ?_
      refine .q rfl (ap_idx0 Tryd.underlying53 inf3.sz rfl rfl (i := 16 * (k + 1) + j) (by omega) (by omega)) trivial ?_
      refine .q rfl (op_load Tryd.underlying3 rfl rfl rfl rfl (by show _ < List.length _; rw [hbw]; omega)) trivial ?_
      refine .as (.i64 (((exL bxT n key).getD (16 * (k + 1) + j) 0).toNat : Int)) (by rw [bi_get]) ?_
      refine .q rfl (op_xorB rfl rfl) trivial ?_
      refine .q rfl (ap_idx0 Tryd.underlying53 inf3.sz rfl rfl rfl (by first | omega | (simp only [AV.len]; omega) | (simp only [AV.len, List.length_set]; omega) | assumption | (simp [AV.len]; done))) trivial ?_
      refine .w rfl (op_store inf3.sz rfl rfl rfl rfl rfl (by show _ < List.length _; rw [hbg]; omega)) trivial rfl rfl ?_
      refine .nil ?_
      show Ev _ _ _ _ _
      refine .region ?_
      refine .q (op_move rfl) trivial rfl ?_
      refine .q (op_addI rfl rfl ⟨by omega, by omega⟩) trivial rfl ?_
      refine .q (op_assign rfl) trivial rfl ?_
      refine .nil ?_
      exact ⟨⟨j + 1, by omega⟩, by show 16 - (j + 1) < 16 - j; omega, StLe.mk [(1000, 1000), (1008, 1008), (1016, 1016)] rfl rfl ⟨⟨_, rfl, by first | rfl | (simp only [AV.ren]; congr 1 <;> omega), rfl⟩, ⟨_, rfl, by first | rfl | (simp only [AV.ren]; congr 1 <;> omega), rfl⟩, ⟨_, rfl, by first | rfl | (simp only [AV.ren]; congr 1 <;> omega), rfl⟩, ⟨_, rfl, by first | rfl | (simp only [AV.ren]; congr 1 <;> omega), rfl⟩, ⟨_, rfl, by first | rfl | (simp only [AV.ren]; congr 1 <;> omega), rfl⟩, ⟨_, rfl, by first | rfl | (simp only [AV.ren]; congr 1 <;> omega), rfl⟩, ⟨_, rfl, by first | rfl | (simp only [AV.ren]; congr 1 <;> omega), rfl⟩, trivial⟩ ⟨⟨_, _, rfl, rfl, by first | rfl | (simp only [AV.ren]; congr 1 <;> omega), elemLe_same, own_same, rfl⟩, ⟨_, _, rfl, rfl, by (simp only [AV.ren]; rw [bi_set, mpU_set _ _ _ _ (by omega) rfl]), elemLe_same, own_same, rfl⟩, ⟨_, _, rfl, rfl, by first | rfl | (simp only [AV.ren]; congr 1 <;> omega), elemLe_same, own_same, rfl⟩, trivial⟩⟩
     ·simp only [decide_eq_false_iff_not] at hc155
      refine .exit ?_
      show Ev _ _ _ _ _
      have ej : j = 16 := by omega
      refine Ev.weak (st2 := ⟨[(0, .str key), (5, .sl 1000 0 (16 * (n + 7)) 1), (6, .sl 1008 0 16 1), (8, .i64 ((n + 6 : Nat) : Int)), (9, .i64 ((k + 1 : Nat) : Int)), (10, .sl 1016 0 16 1), (17, .i64 (((16) : Nat) : Int))], [(1000, some ⟨.aggI (biL (exL bxT n key)), 3, true⟩), (1008, some ⟨.aggI (biL (mpU (fun i => (mxQ (decide (k + 1 < n + 6)) (shL (sbL bxT (blkN bxT (exL bxT n key) (n + 6) b k)))).getD i 0 ^^^ (exL bxT n key).getD (16 * (k + 1) + i) 0) (blkN bxT (exL bxT n key) (n + 6) b k) (16))), 3, true⟩), (1016, some ⟨.aggI (biL (mxQ (decide (k + 1 < n + 6)) (shL (sbL bxT (blkN bxT (exL bxT n key) (n + 6) b k))))), 3, true⟩)], 1024⟩) (StLe.mk [(1000, 1000), (1008, 1008), (1016, 1016)] rfl rfl ⟨⟨_, rfl, by first | (simp only [AV.ren]; done) | (simp only [AV.ren]; rw [ej]; done) | rfl, rfl⟩, ⟨_, rfl, by first | (simp only [AV.ren]; done) | (simp only [AV.ren]; rw [ej]; done) | rfl, rfl⟩, ⟨_, rfl, by first | (simp only [AV.ren]; done) | (simp only [AV.ren]; rw [ej]; done) | rfl, rfl⟩, ⟨_, rfl, by first | (simp only [AV.ren]; done) | (simp only [AV.ren]; rw [ej]; done) | rfl, rfl⟩, ⟨_, rfl, by first | (simp only [AV.ren]; done) | (simp only [AV.ren]; rw [ej]; done) | rfl, rfl⟩, ⟨_, rfl, by first | (simp only [AV.ren]; done) | (simp only [AV.ren]; rw [ej]; done) | rfl, rfl⟩, ⟨_, rfl, by first | (simp only [AV.ren]; done) | (simp only [AV.ren]; rw [ej]; done) | rfl, rfl⟩, trivial⟩ ⟨⟨_, _, rfl, rfl, by first | (simp only [AV.ren]; done) | (simp only [AV.ren]; rw [ej]; done) | rfl, elemLe_same, own_same, rfl⟩, ⟨_, _, rfl, rfl, by (subst ej; rfl), elemLe_same, own_same, rfl⟩, ⟨_, _, rfl, rfl, by first | (simp only [AV.ren]; done) | (simp only [AV.ren]; rw [ej]; done) | rfl, elemLe_same, own_same, rfl⟩, trivial⟩) ?_
      refine .region ?_
      refine .q (op_move rfl) trivial rfl ?_
      refine .q (op_addI rfl rfl ⟨by omega, by omega⟩) trivial rfl ?_
      refine .q (op_assign rfl) trivial rfl ?_
      refine .nil ?_
      exact ⟨⟨k + 1, by omega⟩, by (try dsimp only); omega, StLe.mk [(1000, 1000), (1008, 1008)] rfl rfl ⟨⟨_, rfl, by rfl, rfl⟩, ⟨_, rfl, by rfl, rfl⟩, ⟨_, rfl, by rfl, rfl⟩, ⟨_, rfl, by rfl, rfl⟩, ⟨_, rfl, by first | rfl | (simp only [AV.ren]; congr 1 <;> omega), rfl⟩, trivial⟩ ⟨⟨_, _, rfl, rfl, rfl, rfl, id, rfl⟩, ⟨_, _, rfl, rfl, by (simp only [AV.ren]; rw [mpU_all _ _ 16 hs16, ad_kq, blkN_succ]), elemLe_same, own_same, rfl⟩, trivial⟩⟩
  ·simp only [decide_eq_false_iff_not] at hc46
   refine .exit ?_
   show Ev _ _ _ _ _
   refine .seq ?_
   refine .region ?_
   refine .a (ap_build0 (z := 1) (c := .aggB []) Tryd.underlying34 inf5 rfl) trivial rfl ?_
   refine .q (op_assign rfl) trivial rfl ?_
   refine .nil ?_
   show Ev _ _ _ _ _
   refine .seq ?_
   refine .seq ?_
   refine .region ?_
   refine .q (op_move rfl) trivial rfl ?_
   refine .q (op_len_sl Tryd.underlying53 rfl) trivial rfl ?_
   refine .q (op_move rfl) trivial rfl ?_
   refine .nil ?_
   show Ev _ _ _ _ _
   refine .block ?_
   refine Ev.loop (ι := { j : Nat // j ≤ 16 }) (fun j => ⟨[(174, .sl 1008 0 16 1), (175, .i64 16), (18, .sl 1016 0 j.1 1), (176, .i64 ((j.1 : Nat) : Int))], [(1008, some ⟨.aggI (biL (blkN bxT (exL bxT n key) (n + 6) b (n + 6))), 3, true⟩), (1016, some ⟨.aggB ((blkN bxT (exL bxT n key) (n + 6) b (n + 6)).take j.1), 5, true⟩)], 1024⟩) (fun j => 16 - j.1) ⟨0, Nat.zero_le _⟩ (StLe.mk [(1008, 1008), (1016, 1016)] rfl rfl ⟨⟨_, rfl, by first | rfl | (simp only [AV.ren]; congr 1 <;> omega), rfl⟩, ⟨_, rfl, by first | rfl | (simp only [AV.ren]; congr 1 <;> omega), rfl⟩, ⟨_, rfl, by first | rfl | (simp only [AV.ren]; congr 1 <;> omega), rfl⟩, ⟨_, rfl, by first | rfl | (simp only [AV.ren]; congr 1 <;> omega), rfl⟩, trivial⟩ ⟨⟨_, _, rfl, rfl, by (simp only [AV.ren]; first | rfl | (rw [show k = n + 6 by omega])), elemLe_same, own_same, rfl⟩, ⟨_, _, rfl, rfl, by (simp only [AV.ren]; rfl), elemLe_same, own_same, rfl⟩, trivial⟩) ?_
   rintro ⟨j, hj⟩
   dsimp only
   have hsl := length_blkN bxT (exL bxT n key) (n + 6) b (n + 6)
   have hbf : (biL (blkN bxT (exL bxT n key) (n + 6) b (n + 6))).length = 16 := length_blkN16 ..
   have htk : ((blkN bxT (exL bxT n key) (n + 6) b (n + 6)).take j).length = j := by rw [List.length_take]; omega
   refine .seq ?_
   refine .region ?_
   refine .q (op_cmpI rfl rfl rfl) trivial rfl ?_
   refine .nil ?_
   show Ev _ _ _ _ _
   refine .seq ?_
   refine .cond rfl (fun hc177 => ?_) (fun hc177 => ?_)
   ·simp only [decide_eq_true_eq] at hc177
    refine .skip ?_
    show Ev _ _ _ _ _
    refine .seq ?_
    refine .block ?_
    refine .seq ?_
    refine .region ?_
    refine .q (ap_idx0 Tryd.underlying53 inf3.sz rfl rfl rfl (by first | omega | (simp only [AV.len]; omega) | (simp only [AV.len, List.length_set]; omega) | assumption | (simp [AV.len]; done))) trivial rfl ?_
    refine .q (op_load Tryd.underlying3 rfl rfl rfl rfl (by show _ < List.length _; rw [hbf]; omega)) trivial rfl ?_
    refine .as (.i64 (((blkN bxT (exL bxT n key) (n + 6) b (n + 6)).getD j 0).toNat : Int)) (by rw [bi_get]) ?_
    refine .q (op_assign rfl) trivial rfl ?_
    refine .nil ?_
    show Ev _ _ _ _ _
    refine .region ?_
    refine .q (op_move rfl) trivial rfl ?_
    refine .q (op_move rfl) trivial rfl ?_
    refine .q (op_conv Tryd.underlying3 Tryd.underlying5 rfl rfl) trivial rfl ?_
    refine .a (ap_build (us := [_]) (c := .aggB [_]) Tryd.underlying34 inf5 rfl (by decide) (by decide) ⟨rfl, rfl, rfl, trivial⟩ rfl) trivial rfl ?_
    refine .a (ap_cat Tryd.underlying34 inf5 rfl rfl rfl rfl (by first | omega | rfl | (simp only [AV.len]; omega) | exact htk) rfl rfl (by first | omega | rfl | (simp only [AV.len]; omega) | exact htk) rfl (by first | omega | rfl | (simp only [AV.len]; omega) | exact htk)) trivial rfl ?_
    refine .q (op_assign rfl) trivial rfl ?_
    refine .nil ?_
    show Ev _ _ _ _ _
    refine .region ?_
    refine .q (op_addI rfl rfl ⟨by omega, by omega⟩) trivial rfl ?_
    refine .q (op_move rfl) trivial rfl ?_
    refine .nil ?_
    exact ⟨⟨j + 1, by omega⟩, by show 16 - (j + 1) < 16 - j; omega, StLe.mk [(1008, 1008), (1016, 1032)] rfl rfl ⟨⟨_, rfl, by first | rfl | (simp only [AV.ren]; congr 1 <;> omega), rfl⟩, ⟨_, rfl, by first | rfl | (simp only [AV.ren]; congr 1 <;> omega), rfl⟩, ⟨_, rfl, by first | rfl | (simp only [AV.ren]; congr 1 <;> omega), rfl⟩, ⟨_, rfl, by first | rfl | (simp only [AV.ren]; congr 1 <;> omega), rfl⟩, trivial⟩ ⟨⟨_, _, rfl, rfl, by first | rfl | (simp only [AV.ren]; congr 1 <;> omega), elemLe_same, own_same, rfl⟩, ⟨_, _, rfl, rfl, by (simp only [AV.ren]; rw [take_snoc _ _ (by omega), u8_back]), elemLe_same, own_same, rfl⟩, trivial⟩⟩
   ·simp only [decide_eq_false_iff_not] at hc177
    refine .exit ?_
    show Ev _ _ _ _ _
    have ej : j = 16 := by omega
    refine Ev.weak (st2 := ⟨[(174, .sl 1008 0 16 1), (175, .i64 16), (18, .sl 1016 0 (16) 1), (176, .i64 (((16) : Nat) : Int))], [(1008, some ⟨.aggI (biL (blkN bxT (exL bxT n key) (n + 6) b (n + 6))), 3, true⟩), (1016, some ⟨.aggB ((blkN bxT (exL bxT n key) (n + 6) b (n + 6)).take (16)), 5, true⟩)], 1024⟩) (StLe.mk [(1008, 1008), (1016, 1016)] rfl rfl ⟨⟨_, rfl, by first | (simp only [AV.ren]; done) | (simp only [AV.ren]; rw [ej]; done) | rfl, rfl⟩, ⟨_, rfl, by first | (simp only [AV.ren]; done) | (simp only [AV.ren]; rw [ej]; done) | rfl, rfl⟩, ⟨_, rfl, by (subst ej; rfl), rfl⟩, ⟨_, rfl, by first | (simp only [AV.ren]; done) | (simp only [AV.ren]; rw [ej]; done) | rfl, rfl⟩, trivial⟩ ⟨⟨_, _, rfl, rfl, by first | (simp only [AV.ren]; done) | (simp only [AV.ren]; rw [ej]; done) | rfl, elemLe_same, own_same, rfl⟩, ⟨_, _, rfl, rfl, by (subst ej; rfl), elemLe_same, own_same, rfl⟩, trivial⟩) ?_
    refine .seq ?_
    refine .region ?_
    refine .q (op_move rfl) trivial rfl ?_
    refine .q (op_bytes_str Tryd.underlying34 Tryd.underlying5 Tryd.underlying9 rfl rfl rfl (by rw [List.length_take]; omega)) trivial rfl ?_
    refine .q (op_assign rfl) trivial rfl ?_
    refine .nil ?_
    show Ev _ _ _ _ _
    refine .ret ?_
    show RetOk _ _ _ _ _ _ _
    exact ret1v rfl (.inl rfl) rfl (congrArg AV.str (by rw [List.drop_zero, List.take_of_length_le (by rw [List.length_take]; omega), List.take_of_length_le (by omega)]; rfl)) trivial
end Go.Proofs.YtdpdmgbdipokdaaDoor
