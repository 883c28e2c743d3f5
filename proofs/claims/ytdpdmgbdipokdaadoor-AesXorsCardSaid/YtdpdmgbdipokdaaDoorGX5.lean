/-
  Texts of this claim.
-/
import Derived.Test.YtdpdmgbdipokdaaDoorGX3
namespace Go.Proofs.YtdpdmgbdipokdaaDoor
open Go.RowKit
theorem ofI8_nat (n : Nat) : ofI8 (n : Int) = UInt8.ofNat n := by
  apply UInt8.toNat_inj.1
  have := ofI8_toNat (n : Int)
  rw [UInt8.toNat_ofNat']
  omega
theorem nat_mod {a b c : Nat} (h : ((a : Int) % (b : Int)) = (c : Int)) : a % b = c := by
  have : ((a % b : Nat) : Int) = (c : Int) := by rw [Int.natCast_emod]; exact h
  omega
theorem nat_mod0 {a b : Nat} (h : ((a : Int) % (b : Int)) = 0) : a % b = 0 := nat_mod (c := 0) h
theorem ci_put (bx ex : List UInt8) (r : Int) (j : Nat) (hb : bx.length = 512) (h : 16 * j + 16 ≤ ex.length) (h2 : ex.length ≤ 240) :
    (ciC bx r (padL (ex.take (16 * (j + 1))) 240)).list = (ciC bx r (padL (ex.take (16 * j)) 240)).list.take (513 + 16 * j) ++ (((ex.drop (16 * j)).take 16).map AV.u8 ++ (ciC bx r (padL (ex.take (16 * j)) 240)).list.drop (513 + (16 * j + 16))) := by
  rw [ci_take hb, ci_drop hb, ci_list, List.append_assoc, List.cons_append]
  congr 2
  rw [← List.map_append, ← List.map_append]
  congr 1
  unfold padL
  have l1 : (ex.take (16 * j)).length = 16 * j := by rw [List.length_take]; omega
  have l2 : (ex.take (16 * (j + 1))).length = 16 * (j + 1) := by rw [List.length_take]; omega
  have e1 : (ex.take (16 * j) ++ List.replicate (240 - (ex.take (16 * j)).length) (0 : UInt8)).take (16 * j) = ex.take (16 * j) := by
    rw [List.take_append_of_le_length (by omega), List.take_of_length_le (by omega)]
  rw [e1, l1, l2, ← List.append_assoc]
  congr 1
  · rw [show 16 * (j + 1) = 16 * j + 16 by omega, List.take_add]
  · rw [List.drop_append, List.drop_eq_nil_of_le (by omega), List.nil_append, List.drop_replicate, l1]
    congr 1
    omega
theorem pad_zero : padL ([] : List UInt8) 240 = List.replicate 240 0 := rfl
set_option maxRecDepth 100000 in
theorem newBox_ev  : Meets Tryd.prog 19 [] [] (.aggB bxT) [] := by
 refine meets_of_ev (nt := 48) Tryd.func19 rfl rfl (Nat.le_of_ble_eq_true rfl) ?_
 refine .seq ?_
 refine .region ?_
 refine .a (op_allocRow zero46 rel_zero46 rfl) trivial rfl ?_
 refine .nil ?_
 show Ev _ _ _ _ _
 refine .seq ?_
 refine .region ?_
 refine .a (op_allocRow zero44 rel_zero44 rfl) trivial rfl ?_
 refine .nil ?_
 show Ev _ _ _ _ _
 refine .seq ?_
 refine .region ?_
 refine .q (op_assign rfl) trivial rfl ?_
 refine .nil ?_
 show Ev _ _ _ _ _
 refine .seq ?_
 refine .seq ?_
 refine .region ?_
 refine .q (op_move rfl) trivial rfl ?_
 refine .nil ?_
 show Ev _ _ _ _ _
 refine .block ?_
 refine Ev.loop (ι := { j : Nat // j ≤ 256 }) (fun j => ⟨[(0, .ptr 1000 0), (1, .ptr 1008 0), (2, .u8 (pwr j.1)), (7, .i64 ((j.1 : Nat) : Int))], [(1000, some ⟨.aggB (List.replicate 512 (0 : UInt8)), 46, true⟩), (1008, some ⟨.aggB (mpU pwr (List.replicate 256 0) j.1), 44, true⟩)], 1016⟩) (fun j => 256 - j.1) ⟨0, Nat.zero_le _⟩ (StLe.mk [(1000, 1000), (1008, 1008)] rfl rfl ⟨⟨_, rfl, by first | rfl | (simp only [AV.ren]; congr 1 <;> omega), rfl⟩, ⟨_, rfl, by first | rfl | (simp only [AV.ren]; congr 1 <;> omega), rfl⟩, ⟨_, rfl, by first | rfl | (simp only [AV.ren]; congr 1 <;> omega), rfl⟩, ⟨_, rfl, by first | rfl | (simp only [AV.ren]; congr 1 <;> omega), rfl⟩, trivial⟩ ⟨⟨_, _, rfl, rfl, by first | rfl | (simp only [AV.ren]; congr 1 <;> omega), rfl, id, rfl⟩, ⟨_, _, rfl, rfl, by (simp only [AV.ren]; rw [mpU_zero]), rfl, id, rfl⟩, trivial⟩) ?_
 rintro ⟨j, hj⟩
 dsimp only
 have hl := length_mpU pwr (List.replicate 256 (0 : UInt8)) j (by rw [List.length_replicate]; omega)
 rw [List.length_replicate] at hl
 refine .seq ?_
 refine .region ?_
 refine .q (op_cmpI rfl rfl rfl) trivial rfl ?_
 refine .nil ?_
 show Ev _ _ _ _ _
 refine .seq ?_
 refine .cond rfl (fun hc8 => ?_) (fun hc8 => ?_)
 ·simp only [decide_eq_true_eq] at hc8
  refine .skip ?_
  show Ev _ _ _ _ _
  refine .seq ?_
  refine .block ?_
  refine .seq ?_
  refine .region ?_
  refine .q (op_move rfl) trivial rfl ?_
  refine .q (op_assign rfl) trivial rfl ?_
  refine .nil ?_
  show Ev _ _ _ _ _
  refine .seq ?_
  refine .region ?_
  refine .q (op_move rfl) trivial rfl ?_
  refine .q (op_move rfl) trivial rfl ?_
  refine .q (ap_idx_arr Tryd.underlying44 inf5.sz rfl rfl rfl (by first | omega | (simp only [AV.len]; omega) | (simp only [AV.len, List.length_set]; omega) | assumption | (simp [AV.len]; done))) trivial rfl ?_
  refine .w (op_store inf5.sz rfl rfl rfl rfl rfl (by first | omega | (simp only [AV.len, hl]; done) | (simp only [AV.len, hl]; omega))) trivial rfl ?_
  refine .nil ?_
  show Ev _ _ _ _ _
  refine .region ?_
  refine .q (op_move rfl) trivial rfl ?_
  refine .q (op_move rfl) trivial rfl ?_
  refine .q (op_call (U := []) [] [] (double_ev _) Tryd.func34 (by kernel_rfl) rfl rfl rfl (⟨⟨_, rfl, rfl, rfl⟩, trivial⟩) (trivial) (trivial) (trivial) rfl) trivial rfl ?_
  refine .q (op_bin8 rfl rfl rfl) trivial rfl ?_
  refine .q (op_assign rfl) trivial rfl ?_
  refine .nil ?_
  show Ev _ _ _ _ _
  refine .region ?_
  refine .q (op_addI rfl rfl ⟨by omega, by omega⟩) trivial rfl ?_
  refine .q (op_move rfl) trivial rfl ?_
  refine .nil ?_
  exact ⟨⟨j + 1, by omega⟩, by show 256 - (j + 1) < 256 - j; omega, StLe.mk [(1000, 1000), (1008, 1008)] rfl rfl ⟨⟨_, rfl, by first | rfl | (simp only [AV.ren]; congr 1 <;> omega), rfl⟩, ⟨_, rfl, by first | rfl | (simp only [AV.ren]; congr 1 <;> omega), rfl⟩, ⟨_, rfl, by first | rfl | (simp only [AV.ren]; congr 1 <;> omega), rfl⟩, ⟨_, rfl, by first | rfl | (simp only [AV.ren]; congr 1 <;> omega), rfl⟩, trivial⟩ ⟨⟨_, _, rfl, rfl, by first | rfl | (simp only [AV.ren]; congr 1 <;> omega), rfl, id, rfl⟩, ⟨_, _, rfl, rfl, by (simp only [AV.ren]; rw [mpU_set _ _ _ _ (by rw [List.length_replicate]; omega) rfl]), rfl, id, rfl⟩, trivial⟩⟩
 ·simp only [decide_eq_false_iff_not] at hc8
  refine .exit ?_
  show Ev _ _ _ _ _
  have ej : j = 256 := by omega
  refine Ev.weak (st2 := ⟨[(0, .ptr 1000 0), (1, .ptr 1008 0), (2, .u8 (pwr (256))), (7, .i64 (((256) : Nat) : Int))], [(1000, some ⟨.aggB (List.replicate 512 (0 : UInt8)), 46, true⟩), (1008, some ⟨.aggB (mpU pwr (List.replicate 256 0) (256)), 44, true⟩)], 1016⟩) (StLe.mk [(1000, 1000), (1008, 1008)] rfl rfl ⟨⟨_, rfl, by first | (simp only [AV.ren]; done) | (simp only [AV.ren]; rw [ej]; done) | rfl, rfl⟩, ⟨_, rfl, by first | (simp only [AV.ren]; done) | (simp only [AV.ren]; rw [ej]; done) | rfl, rfl⟩, ⟨_, rfl, by first | (simp only [AV.ren]; done) | (simp only [AV.ren]; rw [ej]; done) | rfl, rfl⟩, ⟨_, rfl, by first | (simp only [AV.ren]; done) | (simp only [AV.ren]; rw [ej]; done) | rfl, rfl⟩, trivial⟩ ⟨⟨_, _, rfl, rfl, by first | (simp only [AV.ren]; done) | (simp only [AV.ren]; rw [ej]; done) | rfl, rfl, id, rfl⟩, ⟨_, _, rfl, rfl, by first | (simp only [AV.ren]; done) | (simp only [AV.ren]; rw [ej]; done) | rfl, rfl, id, rfl⟩, trivial⟩) ?_
  refine .seq ?_
  refine .region ?_
  refine .a (op_allocRow zero46 rel_zero46 rfl) trivial rfl ?_
  refine .nil ?_
  show Ev _ _ _ _ _
  refine .seq ?_
  refine .region ?_
  refine .q (op_call (U := []) [] [] (spread_ev _) Tryd.func35 (by kernel_rfl) rfl rfl rfl (⟨⟨_, rfl, rfl, rfl⟩, trivial⟩) (trivial) (trivial) (trivial) rfl) trivial rfl ?_
  refine .q (op_fieldAddr (m := 255) Tryd.underlying46 rfl (by kernel_rfl) rfl) trivial rfl ?_
  refine .as (.ptr 1016 0) rfl ?_
  refine .q (ap_idx_arr Tryd.underlying44 inf5.sz rfl rfl rfl (by first | omega | (skip; omega) | (skip; omega) | assumption | (simp; done))) trivial rfl ?_
  refine .w (op_store inf5.sz rfl rfl rfl rfl rfl (by first | omega | (simp only [AV.len, List.length_replicate]; done) | (simp only [AV.len, List.length_replicate]; omega))) trivial rfl ?_
  refine .nil ?_
  show Ev _ _ _ _ _
  refine .seq ?_
  refine .seq ?_
  refine .region ?_
  refine .q (op_move rfl) trivial rfl ?_
  refine .nil ?_
  show Ev _ _ _ _ _
  refine .block ?_
  refine Ev.loop (ι := { j : Nat // j ≤ 255 }) (fun j => ⟨[(0, .ptr 1000 0), (1, .ptr 1008 0), (4, .ptr 1016 0), (21, .i64 ((j.1 : Nat) : Int))], [(1000, some ⟨.aggB (List.replicate 512 (0 : UInt8)), 46, true⟩), (1008, some ⟨.aggB pwL, 44, true⟩), (1016, some ⟨.aggB (bxA j.1), 46, true⟩)], 1024⟩) (fun j => 255 - j.1) ⟨0, Nat.zero_le _⟩ (StLe.mk [(1000, 1000), (1008, 1008), (1016, 1016)] rfl rfl ⟨⟨_, rfl, by first | rfl | (simp only [AV.ren]; congr 1 <;> omega), rfl⟩, ⟨_, rfl, by first | rfl | (simp only [AV.ren]; congr 1 <;> omega), rfl⟩, ⟨_, rfl, by first | rfl | (simp only [AV.ren]; congr 1 <;> omega), rfl⟩, ⟨_, rfl, by first | rfl | (simp only [AV.ren]; congr 1 <;> omega), rfl⟩, trivial⟩ ⟨⟨_, _, rfl, rfl, by first | rfl | (simp only [AV.ren]; congr 1 <;> omega), rfl, id, rfl⟩, ⟨_, _, rfl, rfl, by (simp only [AV.ren]; exact congrArg AV.aggB (mpU_all _ _ 256 (List.length_replicate ..))), rfl, id, rfl⟩, ⟨_, _, rfl, rfl, by (simp only [AV.ren]; exact congrArg AV.aggB (by rw [bxA]; rfl)), rfl, id, rfl⟩, trivial⟩) ?_
  rintro ⟨j, hj⟩
  dsimp only
  have h8 := (pwL.getD j 0).toNat_lt
  have hA := length_bxA j
  refine .seq ?_
  refine .region ?_
  refine .q (op_cmpI rfl rfl rfl) trivial rfl ?_
  refine .nil ?_
  show Ev _ _ _ _ _
  refine .seq ?_
  refine .cond rfl (fun hc22 => ?_) (fun hc22 => ?_)
  ·simp only [decide_eq_true_eq] at hc22
   refine .skip ?_
   show Ev _ _ _ _ _
   refine .seq ?_
   refine .block ?_
   refine .seq ?_
   refine .region ?_
   refine .q (op_move rfl) trivial rfl ?_
   refine .q (op_assign rfl) trivial rfl ?_
   refine .nil ?_
   show Ev _ _ _ _ _
   refine .drawn [[], [0], [0, 1], [], [3], [3, 4], [3, 4, 5], [3, 4, 5, 6], [], [0, 1, 2, 3, 4, 5, 6, 7, 8], [0, 1, 2, 3, 4, 5, 6, 7, 8, 9]] [2, 6, 7, 10] [10] (by kernel_rfl) (by kernel_rfl) rfl ?_
   show DK _ [0, 1, 2, 3, 4, 5, 6, 7, 8, 9, 10] _ _ _
   refine .q rfl (op_move rfl) trivial ?_
   refine .q rfl (ap_idx_arr Tryd.underlying44 inf5.sz rfl rfl rfl (by first | omega | (simp only [AV.len]; omega) | (simp only [AV.len, List.length_set]; omega) | assumption | (simp [AV.len]; done))) trivial ?_
   refine .q rfl (op_load Tryd.underlying5 rfl rfl rfl rfl (by show j < pwL.length; rw [show pwL.length = 256 from length_rgL _ _]; omega)) trivial ?_
   refine .q rfl (op_move rfl) trivial ?_
   refine .q rfl (op_subI rfl rfl ⟨by omega, by omega⟩) trivial ?_
   refine .q rfl (ap_idx_arr Tryd.underlying44 inf5.sz rfl rfl (i := 255 - j) (by omega) (by first | omega | (simp only [AV.len]; omega) | (simp only [AV.len, List.length_set]; omega) | assumption | (simp [AV.len]; done))) trivial ?_
   refine .q rfl (op_load Tryd.underlying5 rfl rfl rfl rfl (by show 255 - j < pwL.length; rw [show pwL.length = 256 from length_rgL _ _]; omega)) trivial ?_
   refine .q rfl (op_call (U := []) [] [] (spread_ev _) Tryd.func35 (by kernel_rfl) rfl rfl rfl (⟨⟨_, rfl, rfl, rfl⟩, trivial⟩) (trivial) (trivial) (trivial) rfl) trivial ?_
   refine .q rfl (op_fieldAddr (m := 255) Tryd.underlying46 rfl (by kernel_rfl) rfl) trivial ?_
   refine .as (.ptr 1016 0) rfl ?_
   refine .q rfl (op_idx_arr8 Tryd.underlying44 inf5.sz rfl rfl h8) trivial ?_
   refine .w rfl (op_store inf5.sz rfl rfl rfl rfl rfl (by show _ < (bxA j).length; rw [hA]; omega)) trivial rfl rfl ?_
   refine .nil ?_
   show Ev _ _ _ _ _
   refine .region ?_
   refine .q (op_addI rfl rfl ⟨by omega, by omega⟩) trivial rfl ?_
   refine .q (op_move rfl) trivial rfl ?_
   refine .nil ?_
   exact ⟨⟨j + 1, by omega⟩, by show 255 - (j + 1) < 255 - j; omega, StLe.mk [(1000, 1000), (1008, 1008), (1016, 1016)] rfl rfl ⟨⟨_, rfl, by first | rfl | (simp only [AV.ren]; congr 1 <;> omega), rfl⟩, ⟨_, rfl, by first | rfl | (simp only [AV.ren]; congr 1 <;> omega), rfl⟩, ⟨_, rfl, by first | rfl | (simp only [AV.ren]; congr 1 <;> omega), rfl⟩, ⟨_, rfl, by first | rfl | (simp only [AV.ren]; congr 1 <;> omega), rfl⟩, trivial⟩ ⟨⟨_, _, rfl, rfl, by first | rfl | (simp only [AV.ren]; congr 1 <;> omega), rfl, id, rfl⟩, ⟨_, _, rfl, rfl, by first | rfl | (simp only [AV.ren]; congr 1 <;> omega), rfl, id, rfl⟩, ⟨_, _, rfl, rfl, by (simp only [AV.ren]; rw [bxA, Nat.zero_add]), rfl, id, rfl⟩, trivial⟩⟩
  ·simp only [decide_eq_false_iff_not] at hc22
   refine .exit ?_
   show Ev _ _ _ _ _
   have ej : j = 255 := by omega
   refine Ev.weak (st2 := ⟨[(0, .ptr 1000 0), (1, .ptr 1008 0), (4, .ptr 1016 0), (21, .i64 (((255) : Nat) : Int))], [(1000, some ⟨.aggB (List.replicate 512 (0 : UInt8)), 46, true⟩), (1008, some ⟨.aggB pwL, 44, true⟩), (1016, some ⟨.aggB (bxA (255)), 46, true⟩)], 1024⟩) (StLe.mk [(1000, 1000), (1008, 1008), (1016, 1016)] rfl rfl ⟨⟨_, rfl, by first | (simp only [AV.ren]; done) | (simp only [AV.ren]; rw [ej]; done) | rfl, rfl⟩, ⟨_, rfl, by first | (simp only [AV.ren]; done) | (simp only [AV.ren]; rw [ej]; done) | rfl, rfl⟩, ⟨_, rfl, by first | (simp only [AV.ren]; done) | (simp only [AV.ren]; rw [ej]; done) | rfl, rfl⟩, ⟨_, rfl, by first | (simp only [AV.ren]; done) | (simp only [AV.ren]; rw [ej]; done) | rfl, rfl⟩, trivial⟩ ⟨⟨_, _, rfl, rfl, by first | (simp only [AV.ren]; done) | (simp only [AV.ren]; rw [ej]; done) | rfl, rfl, id, rfl⟩, ⟨_, _, rfl, rfl, by first | (simp only [AV.ren]; done) | (simp only [AV.ren]; rw [ej]; done) | rfl, rfl, id, rfl⟩, ⟨_, _, rfl, rfl, by first | (simp only [AV.ren]; done) | (simp only [AV.ren]; rw [ej]; done) | rfl, rfl, id, rfl⟩, trivial⟩) ?_
   refine .seq ?_
   refine .seq ?_
   refine .region ?_
   refine .q (op_move rfl) trivial rfl ?_
   refine .nil ?_
   show Ev _ _ _ _ _
   refine .block ?_
   refine Ev.loop (ι := { j : Nat // j ≤ 256 }) (fun j => ⟨[(0, .ptr 1000 0), (1, .ptr 1008 0), (4, .ptr 1016 0), (35, .i64 ((j.1 : Nat) : Int))], [(1000, some ⟨.aggB (List.replicate 512 (0 : UInt8)), 46, true⟩), (1008, some ⟨.aggB pwL, 44, true⟩), (1016, some ⟨.aggB (bxB j.1), 46, true⟩)], 1024⟩) (fun j => 256 - j.1) ⟨0, Nat.zero_le _⟩ (StLe.mk [(1000, 1000), (1008, 1008), (1016, 1016)] rfl rfl ⟨⟨_, rfl, by first | rfl | (simp only [AV.ren]; congr 1 <;> omega), rfl⟩, ⟨_, rfl, by first | rfl | (simp only [AV.ren]; congr 1 <;> omega), rfl⟩, ⟨_, rfl, by first | rfl | (simp only [AV.ren]; congr 1 <;> omega), rfl⟩, ⟨_, rfl, by first | rfl | (simp only [AV.ren]; congr 1 <;> omega), rfl⟩, trivial⟩ ⟨⟨_, _, rfl, rfl, by first | rfl | (simp only [AV.ren]; congr 1 <;> omega), rfl, id, rfl⟩, ⟨_, _, rfl, rfl, by first | rfl | (simp only [AV.ren]; congr 1 <;> omega), rfl, id, rfl⟩, ⟨_, _, rfl, rfl, by (simp only [AV.ren]; rfl), rfl, id, rfl⟩, trivial⟩) ?_
   rintro ⟨j, hj⟩
   dsimp only
   have h8 := ((bxB j).getD j 0).toNat_lt
   have hB := length_bxB j
   refine .seq ?_
   refine .region ?_
   refine .q (op_cmpI rfl rfl rfl) trivial rfl ?_
   refine .nil ?_
   show Ev _ _ _ _ _
   refine .seq ?_
   refine .cond rfl (fun hc36 => ?_) (fun hc36 => ?_)
   ·simp only [decide_eq_true_eq] at hc36
    refine .skip ?_
    show Ev _ _ _ _ _
    refine .seq ?_
    refine .block ?_
    refine .seq ?_
    refine .region ?_
    refine .q (op_move rfl) trivial rfl ?_
    refine .q (op_assign rfl) trivial rfl ?_
    refine .nil ?_
    show Ev _ _ _ _ _
    refine .region ?_
    refine .q (op_move rfl) trivial rfl ?_
    refine .q (op_fieldAddr (m := 255) Tryd.underlying46 rfl (by kernel_rfl) rfl) trivial rfl ?_
    refine .as (.ptr 1016 0) rfl ?_
    refine .q (ap_idx_arr Tryd.underlying44 inf5.sz rfl rfl rfl (by first | omega | (simp only [AV.len]; omega) | (simp only [AV.len, List.length_set]; omega) | assumption | (simp [AV.len]; done))) trivial rfl ?_
    refine .q (op_load Tryd.underlying5 rfl rfl rfl rfl (by show j < (bxB j).length; rw [hB]; omega)) trivial rfl ?_
    refine .q (op_move rfl) trivial rfl ?_
    refine .q (op_conv Tryd.underlying3 Tryd.underlying5 rfl rfl) trivial rfl ?_
    refine .q (op_fieldAddr (m := 255) Tryd.underlying46 rfl (by kernel_rfl) rfl) trivial rfl ?_
    refine .as (.ptr 1016 256) rfl ?_
    refine .q (op_idx_arr8 Tryd.underlying44 inf5.sz rfl rfl h8) trivial rfl ?_
    refine .w (op_store inf5.sz rfl rfl rfl rfl rfl (by show _ < (bxB j).length; rw [hB]; omega)) trivial rfl ?_
    refine .nil ?_
    show Ev _ _ _ _ _
    refine .region ?_
    refine .q (op_addI rfl rfl ⟨by omega, by omega⟩) trivial rfl ?_
    refine .q (op_move rfl) trivial rfl ?_
    refine .nil ?_
    exact ⟨⟨j + 1, by omega⟩, by show 256 - (j + 1) < 256 - j; omega, StLe.mk [(1000, 1000), (1008, 1008), (1016, 1016)] rfl rfl ⟨⟨_, rfl, by first | rfl | (simp only [AV.ren]; congr 1 <;> omega), rfl⟩, ⟨_, rfl, by first | rfl | (simp only [AV.ren]; congr 1 <;> omega), rfl⟩, ⟨_, rfl, by first | rfl | (simp only [AV.ren]; congr 1 <;> omega), rfl⟩, ⟨_, rfl, by first | rfl | (simp only [AV.ren]; congr 1 <;> omega), rfl⟩, trivial⟩ ⟨⟨_, _, rfl, rfl, by first | rfl | (simp only [AV.ren]; congr 1 <;> omega), rfl, id, rfl⟩, ⟨_, _, rfl, rfl, by first | rfl | (simp only [AV.ren]; congr 1 <;> omega), rfl, id, rfl⟩, ⟨_, _, rfl, rfl, by (simp only [AV.ren]; rw [bxB, ofI8_nat]), rfl, id, rfl⟩, trivial⟩⟩
   ·simp only [decide_eq_false_iff_not] at hc36
    refine .exit ?_
    show Ev _ _ _ _ _
    have ej : j = 256 := by omega
    refine Ev.weak (st2 := ⟨[(0, .ptr 1000 0), (1, .ptr 1008 0), (4, .ptr 1016 0), (35, .i64 (((256) : Nat) : Int))], [(1000, some ⟨.aggB (List.replicate 512 (0 : UInt8)), 46, true⟩), (1008, some ⟨.aggB pwL, 44, true⟩), (1016, some ⟨.aggB (bxB (256)), 46, true⟩)], 1024⟩) (StLe.mk [(1000, 1000), (1008, 1008), (1016, 1016)] rfl rfl ⟨⟨_, rfl, by first | (simp only [AV.ren]; done) | (simp only [AV.ren]; rw [ej]; done) | rfl, rfl⟩, ⟨_, rfl, by first | (simp only [AV.ren]; done) | (simp only [AV.ren]; rw [ej]; done) | rfl, rfl⟩, ⟨_, rfl, by first | (simp only [AV.ren]; done) | (simp only [AV.ren]; rw [ej]; done) | rfl, rfl⟩, ⟨_, rfl, by first | (simp only [AV.ren]; done) | (simp only [AV.ren]; rw [ej]; done) | rfl, rfl⟩, trivial⟩ ⟨⟨_, _, rfl, rfl, by first | (simp only [AV.ren]; done) | (simp only [AV.ren]; rw [ej]; done) | rfl, rfl, id, rfl⟩, ⟨_, _, rfl, rfl, by first | (simp only [AV.ren]; done) | (simp only [AV.ren]; rw [ej]; done) | rfl, rfl, id, rfl⟩, ⟨_, _, rfl, rfl, by first | (simp only [AV.ren]; done) | (simp only [AV.ren]; rw [ej]; done) | rfl, rfl, id, rfl⟩, trivial⟩) ?_
    refine .seq ?_
    refine .region ?_
    refine .q (op_loadRow Tryd.underlying46 rfl sz46 rfl rfl rfl (length_bxB 256)) trivial rfl ?_
    refine .w (op_storeRow sz46 rfl rfl rfl rfl rfl (length_bxB 256) (List.length_replicate ..)) trivial rfl ?_
    refine .nil ?_
    show Ev _ _ _ _ _
    refine .ret ?_
    show RetOk _ _ _ _ _ _ _
    exact retc1 rfl (.inl rfl) ⟨_, _, _, _, rfl, rfl, rfl, rfl, length_bxT, Tryd.underlying46, rfl, sz46⟩ trivial
set_option maxRecDepth 100000 in
theorem expand_ev (bx ks key : List UInt8) (r : Int) (n te : Nat) (hb : bx.length = 512) (hk : ks.length = 240) (hkey : key.length = 4 * n) (hn : 4 ≤ n ∧ n ≤ 8) : Meets Tryd.prog 20 [.ptr 500 0, .str key] [(500, some ⟨ciC bx r ks, te, false⟩)] (.sl 1000 0 (16 * (n + 7)) 1) [(1000, some ⟨.aggB (exL bx n key), 5, true⟩)] := by
 refine meets_of_ev (nt := 85) Tryd.func20 rfl rfl (Nat.le_of_ble_eq_true rfl) ?_
 refine .seq ?_
 refine .region ?_
 refine .q (op_assign rfl) trivial rfl ?_
 refine .nil ?_
 show Ev _ _ _ _ _
 refine .seq ?_
 refine .region ?_
 refine .q (op_move rfl) trivial rfl ?_
 refine .q (op_len_str Tryd.underlying9 rfl) trivial rfl ?_
 refine .q (op_quoI rfl rfl ⟨by omega, ⟨by omega, by omega⟩, by omega⟩) trivial rfl ?_
 refine .as (.i64 (n : Int)) (by rw [hkey]; congr 1; omega) ?_
 refine .q (op_assign rfl) trivial rfl ?_
 refine .nil ?_
 show Ev _ _ _ _ _
 refine .seq ?_
 refine .region ?_
 refine .q (op_move rfl) trivial rfl ?_
 refine .a (op_str_bytes Tryd.underlying9 Tryd.underlying34 Tryd.underlying5 rfl (by unfold maxLen; omega)) trivial rfl ?_
 refine .q (op_assign rfl) trivial rfl ?_
 refine .nil ?_
 show Ev _ _ _ _ _
 refine .seq ?_
 refine .region ?_
 refine .q (op_assign rfl) trivial rfl ?_
 refine .nil ?_
 show Ev _ _ _ _ _
 refine .seq ?_
 refine .seq ?_
 refine .region ?_
 refine .q (op_move rfl) trivial rfl ?_
 refine .q (op_assign rfl) trivial rfl ?_
 refine .nil ?_
 show Ev _ _ _ _ _
 refine .block ?_
 refine Ev.loop (ι := { k : Nat // k ≤ 3 * n + 28 }) (fun q => ⟨[(0, .ptr 500 0), (1, .str key), (5, .i64 (n : Int)), (6, .sl 1000 0 (4 * (n + q.1)) 1), (7, .u8 (exN bx n key q.1).2), (8, .i64 ((n + q.1 : Nat) : Int))], [(500, some ⟨ciC bx r ks, te, false⟩), (1000, some ⟨.aggB (exN bx n key q.1).1, 5, true⟩)], 1008⟩) (fun q => 3 * n + 28 - q.1) ⟨0, Nat.zero_le _⟩ (StLe.mk [(1000, 1000)] rfl rfl ⟨⟨_, rfl, by rfl, rfl⟩, ⟨_, rfl, by rfl, rfl⟩, ⟨_, rfl, by rfl, rfl⟩, ⟨_, rfl, by first | rfl | (simp only [AV.ren]; congr 1 <;> omega), rfl⟩, ⟨_, rfl, by rfl, rfl⟩, ⟨_, rfl, by first | rfl | (simp only [AV.ren]; congr 1 <;> omega), rfl⟩, trivial⟩ ⟨⟨_, _, rfl, rfl, ren_ci _, rfl, id, nm_ci _⟩, ⟨_, _, rfl, rfl, rfl, rfl, id, rfl⟩, trivial⟩) ?_
 rintro ⟨k, hq⟩
 try dsimp only
 replace hq : k ≤ 3 * n + 28 := hq
 have hw : (exN bx n key k).1.length = 4 * (n + k) := by rw [length_exN, hkey]; omega
 have h4 : (t4L (exN bx n key k).1).length = 4 := length_t4L _ (by omega)
 refine .seq ?_
 refine .seq ?_
 refine .region ?_
 refine .q (op_move rfl) trivial rfl ?_
 refine .q (op_move rfl) trivial rfl ?_
 refine .q (op_addI rfl rfl ⟨by omega, by omega⟩) trivial rfl ?_
 refine .q (op_mulI rfl rfl ⟨by omega, by omega⟩) trivial rfl ?_
 refine .q (op_cmpI rfl rfl rfl) trivial rfl ?_
 refine .nil ?_
 show Ev _ _ _ _ _
 refine .cond rfl (fun hc21 => ?_) (fun hc21 => ?_)
 ·simp only [decide_eq_true_eq] at hc21
  refine .skip ?_
  show Ev _ _ _ _ _
  refine .seq ?_
  refine .block ?_
  refine .seq ?_
  refine .region ?_
  refine .q (op_move rfl) trivial rfl ?_
  refine .q (op_move rfl) trivial rfl ?_
  refine .q (op_len_sl Tryd.underlying34 rfl) trivial rfl ?_
  refine .q (op_subI rfl rfl ⟨by omega, by omega⟩) trivial rfl ?_
  refine .q (op_slice_sl Tryd.underlying34 inf5.sz rfl (bnd_some rfl (l := 4 * (n + k) - 4) (by omega)) rfl (by omega) (by omega)) trivial rfl ?_
  refine .q (op_toArrPtr Tryd.underlying62 rfl (by omega) (by omega)) trivial rfl ?_
  refine .q (op_loadB Tryd.underlying62 rfl sz62 rfl rfl (by rw [hw]; omega)) trivial rfl ?_
  refine .as (.aggB (t4L (exN bx n key k).1)) (by rw [t4L, hw, show 0 + (4 * (n + k) - 4) * 1 = 4 * (n + k) - 4 by omega]) ?_
  refine .a (op_allocRow zero62 rel_zero62 rfl) trivial rfl ?_
  refine .w (op_storeRow sz62 rfl rfl rfl rfl rfl (by first | omega | (simp only [AV.len, h4]; done) | (simp only [AV.ren, AV.len, h4, List.length_replicate]; omega)) (by first | omega | (simp only [AV.len, List.length_replicate]; done) | (simp only [AV.ren, AV.len, h4, List.length_replicate]; omega))) trivial rfl ?_
  refine .nil ?_
  show Ev _ _ _ _ _
  refine .seq ?_
  refine .block ?_
  refine .seq ?_
  refine .region ?_
  refine .q (op_move rfl) trivial rfl ?_
  refine .q (op_move rfl) trivial rfl ?_
  refine .q (op_remI rfl rfl ⟨by omega, by omega⟩) trivial rfl ?_
  refine .q (op_cmpI rfl rfl rfl) trivial rfl ?_
  refine .q (op_assign rfl) trivial rfl ?_
  refine .nil ?_
  show Ev _ _ _ _ _
  refine .cond rfl (fun hc31 => ?_) (fun hc31 => ?_)
  ·simp only [beq_iff_eq] at hc31
   refine .seq ?_
   refine .region ?_
   refine .q (op_move rfl) trivial rfl ?_
   refine .q (ap_idx_arr Tryd.underlying62 inf5.sz rfl rfl rfl (by first | omega | (skip; omega) | (skip; omega) | assumption | (simp; done))) trivial rfl ?_
   refine .q (op_load Tryd.underlying5 rfl rfl rfl rfl (by first | omega | (simp only [AV.len, h4]; done) | (simp only [AV.len, h4]; omega))) trivial rfl ?_
   refine .q (ap_idx_arr Tryd.underlying62 inf5.sz rfl rfl rfl (by first | omega | (skip; omega) | (skip; omega) | assumption | (simp; done))) trivial rfl ?_
   refine .q (op_load Tryd.underlying5 rfl rfl rfl rfl (by first | omega | (simp only [AV.len, h4]; done) | (simp only [AV.len, h4]; omega))) trivial rfl ?_
   refine .q (ap_idx_arr Tryd.underlying62 inf5.sz rfl rfl rfl (by first | omega | (skip; omega) | (skip; omega) | assumption | (simp; done))) trivial rfl ?_
   refine .q (op_load Tryd.underlying5 rfl rfl rfl rfl (by first | omega | (simp only [AV.len, h4]; done) | (simp only [AV.len, h4]; omega))) trivial rfl ?_
   refine .q (ap_idx_arr Tryd.underlying62 inf5.sz rfl rfl rfl (by first | omega | (skip; omega) | (skip; omega) | assumption | (simp; done))) trivial rfl ?_
   refine .q (op_load Tryd.underlying5 rfl rfl rfl rfl (by first | omega | (simp only [AV.len, h4]; done) | (simp only [AV.len, h4]; omega))) trivial rfl ?_
   refine .q (op_buildArr (us := [(0, _), (1, _), (2, _), (3, _)]) Tryd.underlying62 inf5.sz zero62 rel_zero62 rfl (by decide) ⟨rfl, rfl, rfl, rfl, rfl, rfl, rfl, rfl, rfl, rfl, rfl, rfl, trivial⟩ rfl) trivial rfl ?_
   refine .as (.aggB (rtL (t4L (exN bx n key k).1))) rfl ?_
   refine .q (op_call (U := []) [(500, 500)] [] (rword_ev bx ks _ _ te hb hk rfl) Tryd.func36 (by kernel_rfl) rfl rfl rfl (⟨⟨_, rfl, rfl, rfl⟩, ⟨_, rfl, rfl, rfl⟩, trivial⟩) (⟨⟨_, _, rfl, rfl, ren_ci _, rfl, (fun h => by cases h), nmC_ci _⟩, trivial⟩) (trivial) (⟨(fun h => by cases h), trivial⟩) rfl) trivial rfl ?_
   refine .w (op_storeRow sz62 rfl rfl rfl rfl rfl (by first | omega | (simp only [AV.ren, AV.len, length_swL]; done) | (simp only [AV.ren, AV.len, h4, length_swL]; omega)) (by first | omega | (simp only [AV.len, h4]; done) | (simp only [AV.ren, AV.len, h4, length_swL]; omega))) trivial rfl ?_
   refine .nil ?_
   show Ev _ _ _ _ _
   refine .seq ?_
   refine .region ?_
   refine .q (ap_idx_arr Tryd.underlying62 inf5.sz rfl rfl rfl (by first | omega | (skip; omega) | (skip; omega) | assumption | (simp; done))) trivial rfl ?_
   refine .q (op_load Tryd.underlying5 rfl rfl rfl rfl (by first | omega | (simp only [AV.ren, AV.len, length_swL]; done) | (simp only [AV.ren, AV.len, length_swL]; omega))) trivial rfl ?_
   refine .q (op_move rfl) trivial rfl ?_
   refine .q (op_bin8 rfl rfl rfl) trivial rfl ?_
   refine .q (ap_idx_arr Tryd.underlying62 inf5.sz rfl rfl rfl (by first | omega | (skip; omega) | (skip; omega) | assumption | (simp; done))) trivial rfl ?_
   refine .w (op_store inf5.sz rfl rfl rfl rfl rfl (by first | omega | (simp only [AV.ren, AV.len, length_swL]; done) | (simp only [AV.ren, AV.len, length_swL]; omega))) trivial rfl ?_
   refine .nil ?_
   show Ev _ _ _ _ _
   refine .region ?_
   refine .q (op_move rfl) trivial rfl ?_
   refine .q (op_call (U := []) [] [] (double_ev _) Tryd.func34 (by kernel_rfl) rfl rfl rfl (⟨⟨_, rfl, rfl, rfl⟩, trivial⟩) (trivial) (trivial) (trivial) rfl) trivial rfl ?_
   refine .q (op_assign rfl) trivial rfl ?_
   refine .nil ?_
   show Ev _ _ _ _ _
   refine .seq ?_
   refine .region ?_
   refine .q (op_move rfl) trivial rfl ?_
   refine .nil ?_
   show Ev _ _ _ _ _
   refine .block ?_
   refine Ev.loop (ι := { j : Nat // j ≤ 4 }) (fun j => ⟨[(0, .ptr 500 0), (1, .str key), (5, .i64 (n : Int)), (6, .sl 1000 0 (4 * (n + k) + j.1) 1), (7, .u8 (exP n (n + k) (exN bx n key k).2)), (8, .i64 ((n + k : Nat) : Int)), (9, .ptr 1008 0), (65, .i64 ((j.1 : Nat) : Int))], [(500, some ⟨ciC bx r ks, te, false⟩), (1000, some ⟨.aggB (exJ (exT bx n (n + k) (exN bx n key k).2 (exN bx n key k).1) n (exN bx n key k).1 j.1), 5, true⟩), (1008, some ⟨.aggB (exT bx n (n + k) (exN bx n key k).2 (exN bx n key k).1), 62, true⟩)], 1016⟩) (fun j => 4 - j.1) ⟨0, Nat.zero_le _⟩ (StLe.mk [(1000, 1000), (1008, 1008)] rfl rfl ⟨⟨_, rfl, by first | rfl | (simp only [AV.ren]; congr 1 <;> omega), rfl⟩, ⟨_, rfl, by first | rfl | (simp only [AV.ren]; congr 1 <;> omega), rfl⟩, ⟨_, rfl, by first | rfl | (simp only [AV.ren]; congr 1 <;> omega), rfl⟩, ⟨_, rfl, by first | rfl | (simp only [AV.ren]; congr 1 <;> omega), rfl⟩, ⟨_, rfl, by (simp only [AV.ren]; first | (rw [exP, if_pos (nat_mod0 hc31)] <;> rfl) | (rw [exP, if_neg (fun h => hc31 (by rw [← Int.natCast_emod, h] <;> rfl))])), rfl⟩, ⟨_, rfl, by first | rfl | (simp only [AV.ren]; congr 1 <;> omega), rfl⟩, ⟨_, rfl, by first | rfl | (simp only [AV.ren]; congr 1 <;> omega), rfl⟩, ⟨_, rfl, by first | rfl | (simp only [AV.ren]; congr 1 <;> omega), rfl⟩, trivial⟩ ⟨⟨_, _, rfl, rfl, ren_ci _, rfl, id, nm_ci _⟩, ⟨_, _, rfl, rfl, rfl, rfl, id, rfl⟩, ⟨_, _, rfl, rfl, by (simp only [AV.ren]; first | (rw [exT, if_pos (nat_mod0 hc31)] <;> rfl) | (rw [exT, if_neg (fun h => hc31 (by rw [← Int.natCast_emod, h] <;> rfl)), if_pos (by omega)] <;> rfl) | (rw [exT, if_neg (fun h => hc31 (by rw [← Int.natCast_emod, h] <;> rfl)), if_neg (by omega)])), rfl, id, rfl⟩, trivial⟩) ?_
   rintro ⟨j, hj⟩
   dsimp only
   have hj := length_exJ (exT bx n (n + k) (exN bx n key k).2 (exN bx n key k).1) n (exN bx n key k).1 j
   have ht := length_exT bx n (n + k) (exN bx n key k).2 (exN bx n key k).1 (by omega)
   rw [hw] at hj
   refine .seq ?_
   refine .region ?_
   refine .q (op_cmpI rfl rfl rfl) trivial rfl ?_
   refine .nil ?_
   show Ev _ _ _ _ _
   refine .seq ?_
   refine .cond rfl (fun hc66 => ?_) (fun hc66 => ?_)
   ·simp only [decide_eq_true_eq] at hc66
    refine .skip ?_
    show Ev _ _ _ _ _
    refine .seq ?_
    refine .block ?_
    refine .seq ?_
    refine .region ?_
    refine .q (op_move rfl) trivial rfl ?_
    refine .q (op_assign rfl) trivial rfl ?_
    refine .nil ?_
    show Ev _ _ _ _ _
    refine .drawn [[], [], [1], [1, 2], [], [], [5], [], [7], [5, 6, 7, 8], [4, 5, 6, 7, 8, 9], [4, 5, 6, 7, 8, 9, 10], [1, 2, 3, 4, 5, 6, 7, 8, 9, 10, 11], [1, 2, 3, 4, 5, 6, 7, 8, 9, 10, 11, 12], [0, 1, 2, 3, 4, 5, 6, 7, 8, 9, 10, 11, 12, 13], [0, 1, 2, 3, 4, 5, 6, 7, 8, 9, 10, 11, 12, 13, 14]] [3, 11, 13, 14] [14] (by kernel_rfl) (by kernel_rfl) rfl ?_
    show DK _ [0, 1, 2, 3, 4, 5, 6, 7, 8, 9, 10, 11, 12, 13, 14, 15] _ _ _
    refine .q rfl (op_move rfl) trivial ?_
    refine .q rfl (op_move rfl) trivial ?_
    refine .q rfl (ap_idx_arr Tryd.underlying62 inf5.sz rfl rfl rfl (by first | omega | (simp only [AV.len]; omega) | (simp only [AV.len, List.length_set]; omega) | assumption | (simp [AV.len]; done))) trivial ?_
    refine .q rfl (op_load Tryd.underlying5 rfl rfl rfl rfl (by show j < List.length _; rw [ht]; omega)) trivial ?_
    refine .q rfl (op_move rfl) trivial ?_
    refine .q rfl (op_move rfl) trivial ?_
    refine .q rfl (op_len_sl Tryd.underlying34 rfl) trivial ?_
    refine .q rfl (op_move rfl) trivial ?_
    refine .q rfl (op_len_str Tryd.underlying9 rfl) trivial ?_
    refine .q rfl (op_subI rfl rfl ⟨by omega, by omega⟩) trivial ?_
    refine .q rfl (ap_idx0 Tryd.underlying34 inf5.sz rfl rfl (i := 4 * (n + k) + j - 4 * n) (by omega) (by omega)) trivial ?_
    refine .q rfl (op_load Tryd.underlying5 rfl rfl rfl rfl (by show _ < List.length _; rw [hj]; omega)) trivial ?_
    refine .q rfl (op_bin8 rfl rfl rfl) trivial ?_
    refine .a rfl (ap_build (us := [_]) (c := .aggB [_]) Tryd.underlying34 inf5 rfl (by decide) (by decide) ⟨rfl, rfl, rfl, trivial⟩ rfl) trivial rfl rfl ?_
    refine .a rfl (ap_cat Tryd.underlying34 inf5 rfl rfl rfl rfl (by first | omega | (simp only [AV.len]; omega) | (simp only [AV.len, List.length_set]; omega) | assumption | (simp [AV.len]; done)) rfl rfl (by first | omega | (simp only [AV.len]; omega) | (simp only [AV.len]; omega) | assumption | (simp [AV.len]; done)) rfl (by first | omega | (simp only [AV.len]; omega) | (simp only [AV.len, List.length_set]; omega) | assumption | (simp [AV.len]; done))) trivial rfl rfl ?_
    refine .q rfl (op_assign rfl) trivial ?_
    refine .nil ?_
    show Ev _ _ _ _ _
    refine .region ?_
    refine .q (op_addI rfl rfl ⟨by omega, by omega⟩) trivial rfl ?_
    refine .q (op_move rfl) trivial rfl ?_
    refine .nil ?_
    exact ⟨⟨j + 1, by omega⟩, by show 4 - (j + 1) < 4 - j; omega, StLe.mk [(1000, 1128), (1008, 1008)] rfl rfl ⟨⟨_, rfl, by first | rfl | (simp only [AV.ren]; congr 1 <;> omega), rfl⟩, ⟨_, rfl, by first | rfl | (simp only [AV.ren]; congr 1 <;> omega), rfl⟩, ⟨_, rfl, by first | rfl | (simp only [AV.ren]; congr 1 <;> omega), rfl⟩, ⟨_, rfl, by first | rfl | (simp only [AV.ren]; congr 1 <;> omega), rfl⟩, ⟨_, rfl, by first | rfl | (simp only [AV.ren]; congr 1 <;> omega), rfl⟩, ⟨_, rfl, by first | rfl | (simp only [AV.ren]; congr 1 <;> omega), rfl⟩, ⟨_, rfl, by first | rfl | (simp only [AV.ren]; congr 1 <;> omega), rfl⟩, ⟨_, rfl, by first | rfl | (simp only [AV.ren]; congr 1 <;> omega), rfl⟩, trivial⟩ ⟨⟨_, _, rfl, rfl, ren_ci _, rfl, id, nm_ci _⟩, ⟨_, _, rfl, rfl, by (simp only [AV.ren]; rw [exJ, hj]), rfl, id, rfl⟩, ⟨_, _, rfl, rfl, by first | rfl | (simp only [AV.ren]; congr 1 <;> omega), rfl, id, rfl⟩, trivial⟩⟩
   ·simp only [decide_eq_false_iff_not] at hc66
    refine .exit ?_
    show Ev _ _ _ _ _
    have ej : j = 4 := by omega
    refine Ev.weak (st2 := ⟨[(0, .ptr 500 0), (1, .str key), (5, .i64 (n : Int)), (6, .sl 1000 0 (4 * (n + k) + (4)) 1), (7, .u8 (exP n (n + k) (exN bx n key k).2)), (8, .i64 ((n + k : Nat) : Int)), (9, .ptr 1008 0), (65, .i64 (((4) : Nat) : Int))], [(500, some ⟨ciC bx r ks, te, false⟩), (1000, some ⟨.aggB (exJ (exT bx n (n + k) (exN bx n key k).2 (exN bx n key k).1) n (exN bx n key k).1 (4)), 5, true⟩), (1008, some ⟨.aggB (exT bx n (n + k) (exN bx n key k).2 (exN bx n key k).1), 62, true⟩)], 1016⟩) (StLe.mk [(1000, 1000), (1008, 1008)] rfl rfl ⟨⟨_, rfl, by first | (simp only [AV.ren]; done) | (simp only [AV.ren]; rw [ej]; done) | rfl, rfl⟩, ⟨_, rfl, by first | (simp only [AV.ren]; done) | (simp only [AV.ren]; rw [ej]; done) | rfl, rfl⟩, ⟨_, rfl, by first | (simp only [AV.ren]; done) | (simp only [AV.ren]; rw [ej]; done) | rfl, rfl⟩, ⟨_, rfl, by (subst ej; rfl), rfl⟩, ⟨_, rfl, by first | (simp only [AV.ren]; done) | (simp only [AV.ren]; rw [ej]; done) | rfl, rfl⟩, ⟨_, rfl, by first | (simp only [AV.ren]; done) | (simp only [AV.ren]; rw [ej]; done) | rfl, rfl⟩, ⟨_, rfl, by first | (simp only [AV.ren]; done) | (simp only [AV.ren]; rw [ej]; done) | rfl, rfl⟩, ⟨_, rfl, by first | (simp only [AV.ren]; done) | (simp only [AV.ren]; rw [ej]; done) | rfl, rfl⟩, trivial⟩ ⟨⟨_, _, rfl, rfl, ren_ci _, rfl, id, nm_ci _⟩, ⟨_, _, rfl, rfl, by first | (simp only [AV.ren]; done) | (simp only [AV.ren]; rw [ej]; done) | rfl, rfl, id, rfl⟩, ⟨_, _, rfl, rfl, by first | (simp only [AV.ren]; done) | (simp only [AV.ren]; rw [ej]; done) | rfl, rfl, id, rfl⟩, trivial⟩) ?_
    refine .region ?_
    refine .q (op_move rfl) trivial rfl ?_
    refine .q (op_addI rfl rfl ⟨by omega, by omega⟩) trivial rfl ?_
    refine .q (op_assign rfl) trivial rfl ?_
    refine .nil ?_
    exact ⟨⟨k + 1, by omega⟩, by (try dsimp only); omega, StLe.mk [(1000, 1000)] rfl rfl ⟨⟨_, rfl, by rfl, rfl⟩, ⟨_, rfl, by rfl, rfl⟩, ⟨_, rfl, by rfl, rfl⟩, ⟨_, rfl, by first | rfl | (simp only [AV.ren]; congr 1 <;> omega), rfl⟩, ⟨_, rfl, by (simp only [AV.ren]; rfl), rfl⟩, ⟨_, rfl, by first | rfl | (simp only [AV.ren]; congr 1 <;> omega), rfl⟩, trivial⟩ ⟨⟨_, _, rfl, rfl, ren_ci _, rfl, id, nm_ci _⟩, ⟨_, _, rfl, rfl, by (simp only [AV.ren]; rfl), rfl, id, rfl⟩, trivial⟩⟩
  ·simp only [ne_eq, beq_eq_false_iff_ne] at hc31
   refine .seq ?_
   refine .region ?_
   refine .q (op_move rfl) trivial rfl ?_
   refine .q (op_cmpI rfl rfl rfl) trivial rfl ?_
   refine .q (op_move rfl) trivial rfl ?_
   refine .split (fun hg57 => ?_) (fun hg57 => ?_)
   ·simp only [beq_iff_eq] at hg57
    refine .q (op_move rfl) ⟨_, rfl, rfl⟩ rfl ?_
    refine .q (op_remI rfl rfl ⟨by omega, by omega⟩) ⟨_, rfl, rfl⟩ rfl ?_
    refine .q (op_cmpI rfl rfl rfl) ⟨_, rfl, rfl⟩ rfl ?_
    refine .q (op_pick_true rfl rfl rfl) trivial rfl ?_
    refine .q (op_assign rfl) trivial rfl ?_
    refine .nil ?_
    show Ev _ _ _ _ _
    refine .cond rfl (fun hc54 => ?_) (fun hc54 => ?_)
    ·simp only [beq_iff_eq] at hc54
     refine .region ?_
     refine .q (op_move rfl) trivial rfl ?_
     refine .q (op_loadRow Tryd.underlying62 rfl sz62 rfl rfl rfl (by first | omega | (simp only [AV.len, h4]; done) | (simp only [AV.ren, AV.len, h4, length_swL]; omega))) trivial rfl ?_
     refine .q (op_call (U := []) [(500, 500)] [] (rword_ev bx ks _ _ te hb hk h4) Tryd.func36 (by kernel_rfl) rfl rfl rfl (⟨⟨_, rfl, rfl, rfl⟩, ⟨_, rfl, rfl, rfl⟩, trivial⟩) (⟨⟨_, _, rfl, rfl, ren_ci _, rfl, (fun h => by cases h), nmC_ci _⟩, trivial⟩) (trivial) (⟨(fun h => by cases h), trivial⟩) rfl) trivial rfl ?_
     refine .w (op_storeRow sz62 rfl rfl rfl rfl rfl (by first | omega | (simp only [AV.ren, AV.len, length_swL]; done) | (simp only [AV.ren, AV.len, h4, length_swL]; omega)) (by first | omega | (simp only [AV.len, h4]; done) | (simp only [AV.ren, AV.len, h4, length_swL]; omega))) trivial rfl ?_
     refine .nil ?_
     show Ev _ _ _ _ _
     refine .seq ?_
     refine .region ?_
     refine .q (op_move rfl) trivial rfl ?_
     refine .nil ?_
     show Ev _ _ _ _ _
     refine .block ?_
     refine Ev.loop (ι := { j : Nat // j ≤ 4 }) (fun j => ⟨[(0, .ptr 500 0), (1, .str key), (5, .i64 (n : Int)), (6, .sl 1000 0 (4 * (n + k) + j.1) 1), (7, .u8 (exP n (n + k) (exN bx n key k).2)), (8, .i64 ((n + k : Nat) : Int)), (9, .ptr 1008 0), (65, .i64 ((j.1 : Nat) : Int))], [(500, some ⟨ciC bx r ks, te, false⟩), (1000, some ⟨.aggB (exJ (exT bx n (n + k) (exN bx n key k).2 (exN bx n key k).1) n (exN bx n key k).1 j.1), 5, true⟩), (1008, some ⟨.aggB (exT bx n (n + k) (exN bx n key k).2 (exN bx n key k).1), 62, true⟩)], 1016⟩) (fun j => 4 - j.1) ⟨0, Nat.zero_le _⟩ (StLe.mk [(1000, 1000), (1008, 1008)] rfl rfl ⟨⟨_, rfl, by first | rfl | (simp only [AV.ren]; congr 1 <;> omega), rfl⟩, ⟨_, rfl, by first | rfl | (simp only [AV.ren]; congr 1 <;> omega), rfl⟩, ⟨_, rfl, by first | rfl | (simp only [AV.ren]; congr 1 <;> omega), rfl⟩, ⟨_, rfl, by first | rfl | (simp only [AV.ren]; congr 1 <;> omega), rfl⟩, ⟨_, rfl, by (simp only [AV.ren]; first | (rw [exP, if_pos (nat_mod0 hc31)] <;> rfl) | (rw [exP, if_neg (fun h => hc31 (by rw [← Int.natCast_emod, h] <;> rfl))])), rfl⟩, ⟨_, rfl, by first | rfl | (simp only [AV.ren]; congr 1 <;> omega), rfl⟩, ⟨_, rfl, by first | rfl | (simp only [AV.ren]; congr 1 <;> omega), rfl⟩, ⟨_, rfl, by first | rfl | (simp only [AV.ren]; congr 1 <;> omega), rfl⟩, trivial⟩ ⟨⟨_, _, rfl, rfl, ren_ci _, rfl, id, nm_ci _⟩, ⟨_, _, rfl, rfl, rfl, rfl, id, rfl⟩, ⟨_, _, rfl, rfl, by (simp only [AV.ren]; first | (rw [exT, if_pos (nat_mod0 hc31)] <;> rfl) | (rw [exT, if_neg (fun h => hc31 (by rw [← Int.natCast_emod, h] <;> rfl)), if_pos (by omega)] <;> rfl) | (rw [exT, if_neg (fun h => hc31 (by rw [← Int.natCast_emod, h] <;> rfl)), if_neg (by omega)])), rfl, id, rfl⟩, trivial⟩) ?_
     rintro ⟨j, hj⟩
     dsimp only
     have hj := length_exJ (exT bx n (n + k) (exN bx n key k).2 (exN bx n key k).1) n (exN bx n key k).1 j
     have ht := length_exT bx n (n + k) (exN bx n key k).2 (exN bx n key k).1 (by omega)
     rw [hw] at hj
     refine .seq ?_
     refine .region ?_
     refine .q (op_cmpI rfl rfl rfl) trivial rfl ?_
     refine .nil ?_
     show Ev _ _ _ _ _
     refine .seq ?_
     refine .cond rfl (fun hc66 => ?_) (fun hc66 => ?_)
     ·simp only [decide_eq_true_eq] at hc66
      refine .skip ?_
      show Ev _ _ _ _ _
      refine .seq ?_
      refine .block ?_
      refine .seq ?_
      refine .region ?_
      refine .q (op_move rfl) trivial rfl ?_
      refine .q (op_assign rfl) trivial rfl ?_
      refine .nil ?_
      show Ev _ _ _ _ _
      refine .drawn [[], [], [1], [1, 2], [], [], [5], [], [7], [5, 6, 7, 8], [4, 5, 6, 7, 8, 9], [4, 5, 6, 7, 8, 9, 10], [1, 2, 3, 4, 5, 6, 7, 8, 9, 10, 11], [1, 2, 3, 4, 5, 6, 7, 8, 9, 10, 11, 12], [0, 1, 2, 3, 4, 5, 6, 7, 8, 9, 10, 11, 12, 13], [0, 1, 2, 3, 4, 5, 6, 7, 8, 9, 10, 11, 12, 13, 14]] [3, 11, 13, 14] [14] (by kernel_rfl) (by kernel_rfl) rfl ?_
      show DK _ [0, 1, 2, 3, 4, 5, 6, 7, 8, 9, 10, 11, 12, 13, 14, 15] _ _ _
      refine .q rfl (op_move rfl) trivial ?_
      refine .q rfl (op_move rfl) trivial ?_
      refine .q rfl (ap_idx_arr Tryd.underlying62 inf5.sz rfl rfl rfl (by first | omega | (simp only [AV.len]; omega) | (simp only [AV.len, List.length_set]; omega) | assumption | (simp [AV.len]; done))) trivial ?_
      refine .q rfl (op_load Tryd.underlying5 rfl rfl rfl rfl (by show j < List.length _; rw [ht]; omega)) trivial ?_
      refine .q rfl (op_move rfl) trivial ?_
      refine .q rfl (op_move rfl) trivial ?_
      refine .q rfl (op_len_sl Tryd.underlying34 rfl) trivial ?_
      refine .q rfl (op_move rfl) trivial ?_
      refine .q rfl (op_len_str Tryd.underlying9 rfl) trivial ?_
      refine .q rfl (op_subI rfl rfl ⟨by omega, by omega⟩) trivial ?_
      refine .q rfl (ap_idx0 Tryd.underlying34 inf5.sz rfl rfl (i := 4 * (n + k) + j - 4 * n) (by omega) (by omega)) trivial ?_
      refine .q rfl (op_load Tryd.underlying5 rfl rfl rfl rfl (by show _ < List.length _; rw [hj]; omega)) trivial ?_
      refine .q rfl (op_bin8 rfl rfl rfl) trivial ?_
      refine .a rfl (ap_build (us := [_]) (c := .aggB [_]) Tryd.underlying34 inf5 rfl (by decide) (by decide) ⟨rfl, rfl, rfl, trivial⟩ rfl) trivial rfl rfl ?_
      refine .a rfl (ap_cat Tryd.underlying34 inf5 rfl rfl rfl rfl (by first | omega | (simp only [AV.len]; omega) | (simp only [AV.len, List.length_set]; omega) | assumption | (simp [AV.len]; done)) rfl rfl (by first | omega | (simp only [AV.len]; omega) | (simp only [AV.len]; omega) | assumption | (simp [AV.len]; done)) rfl (by first | omega | (simp only [AV.len]; omega) | (simp only [AV.len, List.length_set]; omega) | assumption | (simp [AV.len]; done))) trivial rfl rfl ?_
      refine .q rfl (op_assign rfl) trivial ?_
      refine .nil ?_
      show Ev _ _ _ _ _
      refine .region ?_
      refine .q (op_addI rfl rfl ⟨by omega, by omega⟩) trivial rfl ?_
      refine .q (op_move rfl) trivial rfl ?_
      refine .nil ?_
      exact ⟨⟨j + 1, by omega⟩, by show 4 - (j + 1) < 4 - j; omega, StLe.mk [(1000, 1128), (1008, 1008)] rfl rfl ⟨⟨_, rfl, by first | rfl | (simp only [AV.ren]; congr 1 <;> omega), rfl⟩, ⟨_, rfl, by first | rfl | (simp only [AV.ren]; congr 1 <;> omega), rfl⟩, ⟨_, rfl, by first | rfl | (simp only [AV.ren]; congr 1 <;> omega), rfl⟩, ⟨_, rfl, by first | rfl | (simp only [AV.ren]; congr 1 <;> omega), rfl⟩, ⟨_, rfl, by first | rfl | (simp only [AV.ren]; congr 1 <;> omega), rfl⟩, ⟨_, rfl, by first | rfl | (simp only [AV.ren]; congr 1 <;> omega), rfl⟩, ⟨_, rfl, by first | rfl | (simp only [AV.ren]; congr 1 <;> omega), rfl⟩, ⟨_, rfl, by first | rfl | (simp only [AV.ren]; congr 1 <;> omega), rfl⟩, trivial⟩ ⟨⟨_, _, rfl, rfl, ren_ci _, rfl, id, nm_ci _⟩, ⟨_, _, rfl, rfl, by (simp only [AV.ren]; rw [exJ, hj]), rfl, id, rfl⟩, ⟨_, _, rfl, rfl, by first | rfl | (simp only [AV.ren]; congr 1 <;> omega), rfl, id, rfl⟩, trivial⟩⟩
     ·simp only [decide_eq_false_iff_not] at hc66
      refine .exit ?_
      show Ev _ _ _ _ _
      have ej : j = 4 := by omega
      refine Ev.weak (st2 := ⟨[(0, .ptr 500 0), (1, .str key), (5, .i64 (n : Int)), (6, .sl 1000 0 (4 * (n + k) + (4)) 1), (7, .u8 (exP n (n + k) (exN bx n key k).2)), (8, .i64 ((n + k : Nat) : Int)), (9, .ptr 1008 0), (65, .i64 (((4) : Nat) : Int))], [(500, some ⟨ciC bx r ks, te, false⟩), (1000, some ⟨.aggB (exJ (exT bx n (n + k) (exN bx n key k).2 (exN bx n key k).1) n (exN bx n key k).1 (4)), 5, true⟩), (1008, some ⟨.aggB (exT bx n (n + k) (exN bx n key k).2 (exN bx n key k).1), 62, true⟩)], 1016⟩) (StLe.mk [(1000, 1000), (1008, 1008)] rfl rfl ⟨⟨_, rfl, by first | (simp only [AV.ren]; done) | (simp only [AV.ren]; rw [ej]; done) | rfl, rfl⟩, ⟨_, rfl, by first | (simp only [AV.ren]; done) | (simp only [AV.ren]; rw [ej]; done) | rfl, rfl⟩, ⟨_, rfl, by first | (simp only [AV.ren]; done) | (simp only [AV.ren]; rw [ej]; done) | rfl, rfl⟩, ⟨_, rfl, by (subst ej; rfl), rfl⟩, ⟨_, rfl, by first | (simp only [AV.ren]; done) | (simp only [AV.ren]; rw [ej]; done) | rfl, rfl⟩, ⟨_, rfl, by first | (simp only [AV.ren]; done) | (simp only [AV.ren]; rw [ej]; done) | rfl, rfl⟩, ⟨_, rfl, by first | (simp only [AV.ren]; done) | (simp only [AV.ren]; rw [ej]; done) | rfl, rfl⟩, ⟨_, rfl, by first | (simp only [AV.ren]; done) | (simp only [AV.ren]; rw [ej]; done) | rfl, rfl⟩, trivial⟩ ⟨⟨_, _, rfl, rfl, ren_ci _, rfl, id, nm_ci _⟩, ⟨_, _, rfl, rfl, by first | (simp only [AV.ren]; done) | (simp only [AV.ren]; rw [ej]; done) | rfl, rfl, id, rfl⟩, ⟨_, _, rfl, rfl, by first | (simp only [AV.ren]; done) | (simp only [AV.ren]; rw [ej]; done) | rfl, rfl, id, rfl⟩, trivial⟩) ?_
      refine .region ?_
      refine .q (op_move rfl) trivial rfl ?_
      refine .q (op_addI rfl rfl ⟨by omega, by omega⟩) trivial rfl ?_
      refine .q (op_assign rfl) trivial rfl ?_
      refine .nil ?_
      exact ⟨⟨k + 1, by omega⟩, by (try dsimp only); omega, StLe.mk [(1000, 1000)] rfl rfl ⟨⟨_, rfl, by rfl, rfl⟩, ⟨_, rfl, by rfl, rfl⟩, ⟨_, rfl, by rfl, rfl⟩, ⟨_, rfl, by first | rfl | (simp only [AV.ren]; congr 1 <;> omega), rfl⟩, ⟨_, rfl, by (simp only [AV.ren]; rfl), rfl⟩, ⟨_, rfl, by first | rfl | (simp only [AV.ren]; congr 1 <;> omega), rfl⟩, trivial⟩ ⟨⟨_, _, rfl, rfl, ren_ci _, rfl, id, nm_ci _⟩, ⟨_, _, rfl, rfl, by (simp only [AV.ren]; rfl), rfl, id, rfl⟩, trivial⟩⟩
    ·simp only [ne_eq, beq_eq_false_iff_ne] at hc54
     refine .skip ?_
     show Ev _ _ _ _ _
     refine .seq ?_
     refine .region ?_
     refine .q (op_move rfl) trivial rfl ?_
     refine .nil ?_
     show Ev _ _ _ _ _
     refine .block ?_
     refine Ev.loop (ι := { j : Nat // j ≤ 4 }) (fun j => ⟨[(0, .ptr 500 0), (1, .str key), (5, .i64 (n : Int)), (6, .sl 1000 0 (4 * (n + k) + j.1) 1), (7, .u8 (exP n (n + k) (exN bx n key k).2)), (8, .i64 ((n + k : Nat) : Int)), (9, .ptr 1008 0), (65, .i64 ((j.1 : Nat) : Int))], [(500, some ⟨ciC bx r ks, te, false⟩), (1000, some ⟨.aggB (exJ (exT bx n (n + k) (exN bx n key k).2 (exN bx n key k).1) n (exN bx n key k).1 j.1), 5, true⟩), (1008, some ⟨.aggB (exT bx n (n + k) (exN bx n key k).2 (exN bx n key k).1), 62, true⟩)], 1016⟩) (fun j => 4 - j.1) ⟨0, Nat.zero_le _⟩ (StLe.mk [(1000, 1000), (1008, 1008)] rfl rfl ⟨⟨_, rfl, by first | rfl | (simp only [AV.ren]; congr 1 <;> omega), rfl⟩, ⟨_, rfl, by first | rfl | (simp only [AV.ren]; congr 1 <;> omega), rfl⟩, ⟨_, rfl, by first | rfl | (simp only [AV.ren]; congr 1 <;> omega), rfl⟩, ⟨_, rfl, by first | rfl | (simp only [AV.ren]; congr 1 <;> omega), rfl⟩, ⟨_, rfl, by (simp only [AV.ren]; first | (rw [exP, if_pos (nat_mod0 hc31)] <;> rfl) | (rw [exP, if_neg (fun h => hc31 (by rw [← Int.natCast_emod, h] <;> rfl))])), rfl⟩, ⟨_, rfl, by first | rfl | (simp only [AV.ren]; congr 1 <;> omega), rfl⟩, ⟨_, rfl, by first | rfl | (simp only [AV.ren]; congr 1 <;> omega), rfl⟩, ⟨_, rfl, by first | rfl | (simp only [AV.ren]; congr 1 <;> omega), rfl⟩, trivial⟩ ⟨⟨_, _, rfl, rfl, ren_ci _, rfl, id, nm_ci _⟩, ⟨_, _, rfl, rfl, rfl, rfl, id, rfl⟩, ⟨_, _, rfl, rfl, by (simp only [AV.ren]; first | (rw [exT, if_pos (nat_mod0 hc31)] <;> rfl) | (rw [exT, if_neg (fun h => hc31 (by rw [← Int.natCast_emod, h] <;> rfl)), if_pos (by omega)] <;> rfl) | (rw [exT, if_neg (fun h => hc31 (by rw [← Int.natCast_emod, h] <;> rfl)), if_neg (by omega)])), rfl, id, rfl⟩, trivial⟩) ?_
     rintro ⟨j, hj⟩
     dsimp only
     have hj := length_exJ (exT bx n (n + k) (exN bx n key k).2 (exN bx n key k).1) n (exN bx n key k).1 j
     have ht := length_exT bx n (n + k) (exN bx n key k).2 (exN bx n key k).1 (by omega)
     rw [hw] at hj
     refine .seq ?_
     refine .region ?_
     refine .q (op_cmpI rfl rfl rfl) trivial rfl ?_
     refine .nil ?_
     show Ev _ _ _ _ _
     refine .seq ?_
     refine .cond rfl (fun hc66 => ?_) (fun hc66 => ?_)
     ·simp only [decide_eq_true_eq] at hc66
      refine .skip ?_
      show Ev _ _ _ _ _
      refine .seq ?_
      refine .block ?_
      refine .seq ?_
      refine .region ?_
      refine .q (op_move rfl) trivial rfl ?_
      refine .q (op_assign rfl) trivial rfl ?_
      refine .nil ?_
      show Ev _ _ _ _ _
      refine .drawn [[], [], [1], [1, 2], [], [], [5], [], [7], [5, 6, 7, 8], [4, 5, 6, 7, 8, 9], [4, 5, 6, 7, 8, 9, 10], [1, 2, 3, 4, 5, 6, 7, 8, 9, 10, 11], [1, 2, 3, 4, 5, 6, 7, 8, 9, 10, 11, 12], [0, 1, 2, 3, 4, 5, 6, 7, 8, 9, 10, 11, 12, 13], [0, 1, 2, 3, 4, 5, 6, 7, 8, 9, 10, 11, 12, 13, 14]] [3, 11, 13, 14] [14] (by kernel_rfl) (by kernel_rfl) rfl ?_
      show DK _ [0, 1, 2, 3, 4, 5, 6, 7, 8, 9, 10, 11, 12, 13, 14, 15] _ _ _
      refine .q rfl (op_move rfl) trivial ?_
      refine .q rfl (op_move rfl) trivial ?_
      refine .q rfl (ap_idx_arr Tryd.underlying62 inf5.sz rfl rfl rfl (by first | omega | (simp only [AV.len]; omega) | (simp only [AV.len, List.length_set]; omega) | assumption | (simp [AV.len]; done))) trivial ?_
      refine .q rfl (op_load Tryd.underlying5 rfl rfl rfl rfl (by show j < List.length _; rw [ht]; omega)) trivial ?_
      refine .q rfl (op_move rfl) trivial ?_
      refine .q rfl (op_move rfl) trivial ?_
      refine .q rfl (op_len_sl Tryd.underlying34 rfl) trivial ?_
      refine .q rfl (op_move rfl) trivial ?_
      refine .q rfl (op_len_str Tryd.underlying9 rfl) trivial ?_
      refine .q rfl (op_subI rfl rfl ⟨by omega, by omega⟩) trivial ?_
      refine .q rfl (ap_idx0 Tryd.underlying34 inf5.sz rfl rfl (i := 4 * (n + k) + j - 4 * n) (by omega) (by omega)) trivial ?_
      refine .q rfl (op_load Tryd.underlying5 rfl rfl rfl rfl (by show _ < List.length _; rw [hj]; omega)) trivial ?_
      refine .q rfl (op_bin8 rfl rfl rfl) trivial ?_
      refine .a rfl (ap_build (us := [_]) (c := .aggB [_]) Tryd.underlying34 inf5 rfl (by decide) (by decide) ⟨rfl, rfl, rfl, trivial⟩ rfl) trivial rfl rfl ?_
      refine .a rfl (ap_cat Tryd.underlying34 inf5 rfl rfl rfl rfl (by first | omega | (simp only [AV.len]; omega) | (simp only [AV.len, List.length_set]; omega) | assumption | (simp [AV.len]; done)) rfl rfl (by first | omega | (simp only [AV.len]; omega) | (simp only [AV.len]; omega) | assumption | (simp [AV.len]; done)) rfl (by first | omega | (simp only [AV.len]; omega) | (simp only [AV.len, List.length_set]; omega) | assumption | (simp [AV.len]; done))) trivial rfl rfl ?_
      refine .q rfl (op_assign rfl) trivial ?_
      refine .nil ?_
      show Ev _ _ _ _ _
      refine .region ?_
      refine .q (op_addI rfl rfl ⟨by omega, by omega⟩) trivial rfl ?_
      refine .q (op_move rfl) trivial rfl ?_
      refine .nil ?_
      exact ⟨⟨j + 1, by omega⟩, by show 4 - (j + 1) < 4 - j; omega, StLe.mk [(1000, 1128), (1008, 1008)] rfl rfl ⟨⟨_, rfl, by first | rfl | (simp only [AV.ren]; congr 1 <;> omega), rfl⟩, ⟨_, rfl, by first | rfl | (simp only [AV.ren]; congr 1 <;> omega), rfl⟩, ⟨_, rfl, by first | rfl | (simp only [AV.ren]; congr 1 <;> omega), rfl⟩, ⟨_, rfl, by first | rfl | (simp only [AV.ren]; congr 1 <;> omega), rfl⟩, ⟨_, rfl, by first | rfl | (simp only [AV.ren]; congr 1 <;> omega), rfl⟩, ⟨_, rfl, by first | rfl | (simp only [AV.ren]; congr 1 <;> omega), rfl⟩, ⟨_, rfl, by first | rfl | (simp only [AV.ren]; congr 1 <;> omega), rfl⟩, ⟨_, rfl, by first | rfl | (simp only [AV.ren]; congr 1 <;> omega), rfl⟩, trivial⟩ ⟨⟨_, _, rfl, rfl, ren_ci _, rfl, id, nm_ci _⟩, ⟨_, _, rfl, rfl, by (simp only [AV.ren]; rw [exJ, hj]), rfl, id, rfl⟩, ⟨_, _, rfl, rfl, by first | rfl | (simp only [AV.ren]; congr 1 <;> omega), rfl, id, rfl⟩, trivial⟩⟩
     ·simp only [decide_eq_false_iff_not] at hc66
      refine .exit ?_
      show Ev _ _ _ _ _
      have ej : j = 4 := by omega
      refine Ev.weak (st2 := ⟨[(0, .ptr 500 0), (1, .str key), (5, .i64 (n : Int)), (6, .sl 1000 0 (4 * (n + k) + (4)) 1), (7, .u8 (exP n (n + k) (exN bx n key k).2)), (8, .i64 ((n + k : Nat) : Int)), (9, .ptr 1008 0), (65, .i64 (((4) : Nat) : Int))], [(500, some ⟨ciC bx r ks, te, false⟩), (1000, some ⟨.aggB (exJ (exT bx n (n + k) (exN bx n key k).2 (exN bx n key k).1) n (exN bx n key k).1 (4)), 5, true⟩), (1008, some ⟨.aggB (exT bx n (n + k) (exN bx n key k).2 (exN bx n key k).1), 62, true⟩)], 1016⟩) (StLe.mk [(1000, 1000), (1008, 1008)] rfl rfl ⟨⟨_, rfl, by first | (simp only [AV.ren]; done) | (simp only [AV.ren]; rw [ej]; done) | rfl, rfl⟩, ⟨_, rfl, by first | (simp only [AV.ren]; done) | (simp only [AV.ren]; rw [ej]; done) | rfl, rfl⟩, ⟨_, rfl, by first | (simp only [AV.ren]; done) | (simp only [AV.ren]; rw [ej]; done) | rfl, rfl⟩, ⟨_, rfl, by (subst ej; rfl), rfl⟩, ⟨_, rfl, by first | (simp only [AV.ren]; done) | (simp only [AV.ren]; rw [ej]; done) | rfl, rfl⟩, ⟨_, rfl, by first | (simp only [AV.ren]; done) | (simp only [AV.ren]; rw [ej]; done) | rfl, rfl⟩, ⟨_, rfl, by first | (simp only [AV.ren]; done) | (simp only [AV.ren]; rw [ej]; done) | rfl, rfl⟩, ⟨_, rfl, by first | (simp only [AV.ren]; done) | (simp only [AV.ren]; rw [ej]; done) | rfl, rfl⟩, trivial⟩ ⟨⟨_, _, rfl, rfl, ren_ci _, rfl, id, nm_ci _⟩, ⟨_, _, rfl, rfl, by first | (simp only [AV.ren]; done) | (simp only [AV.ren]; rw [ej]; done) | rfl, rfl, id, rfl⟩, ⟨_, _, rfl, rfl, by first | (simp only [AV.ren]; done) | (simp only [AV.ren]; rw [ej]; done) | rfl, rfl, id, rfl⟩, trivial⟩) ?_
      refine .region ?_
      refine .q (op_move rfl) trivial rfl ?_
      refine .q (op_addI rfl rfl ⟨by omega, by omega⟩) trivial rfl ?_
      refine .q (op_assign rfl) trivial rfl ?_
      refine .nil ?_
      exact ⟨⟨k + 1, by omega⟩, by (try dsimp only); omega, StLe.mk [(1000, 1000)] rfl rfl ⟨⟨_, rfl, by rfl, rfl⟩, ⟨_, rfl, by rfl, rfl⟩, ⟨_, rfl, by rfl, rfl⟩, ⟨_, rfl, by first | rfl | (simp only [AV.ren]; congr 1 <;> omega), rfl⟩, ⟨_, rfl, by (simp only [AV.ren]; rfl), rfl⟩, ⟨_, rfl, by first | rfl | (simp only [AV.ren]; congr 1 <;> omega), rfl⟩, trivial⟩ ⟨⟨_, _, rfl, rfl, ren_ci _, rfl, id, nm_ci _⟩, ⟨_, _, rfl, rfl, by (simp only [AV.ren]; rfl), rfl, id, rfl⟩, trivial⟩⟩
   ·simp only [ne_eq, beq_eq_false_iff_ne] at hg57
    refine .no ⟨_, rfl, rfl⟩ rfl ?_
    refine .no ⟨_, rfl, rfl⟩ rfl ?_
    refine .no ⟨_, rfl, rfl⟩ rfl ?_
    refine .q (op_pick_false rfl rfl rfl) trivial rfl ?_
    refine .q (op_assign rfl) trivial rfl ?_
    refine .nil ?_
    show Ev _ _ _ _ _
    refine .cond_false rfl rfl ?_
    refine .skip ?_
    show Ev _ _ _ _ _
    refine .seq ?_
    refine .region ?_
    refine .q (op_move rfl) trivial rfl ?_
    refine .nil ?_
    show Ev _ _ _ _ _
    refine .block ?_
    refine Ev.loop (ι := { j : Nat // j ≤ 4 }) (fun j => ⟨[(0, .ptr 500 0), (1, .str key), (5, .i64 (n : Int)), (6, .sl 1000 0 (4 * (n + k) + j.1) 1), (7, .u8 (exP n (n + k) (exN bx n key k).2)), (8, .i64 ((n + k : Nat) : Int)), (9, .ptr 1008 0), (65, .i64 ((j.1 : Nat) : Int))], [(500, some ⟨ciC bx r ks, te, false⟩), (1000, some ⟨.aggB (exJ (exT bx n (n + k) (exN bx n key k).2 (exN bx n key k).1) n (exN bx n key k).1 j.1), 5, true⟩), (1008, some ⟨.aggB (exT bx n (n + k) (exN bx n key k).2 (exN bx n key k).1), 62, true⟩)], 1016⟩) (fun j => 4 - j.1) ⟨0, Nat.zero_le _⟩ (StLe.mk [(1000, 1000), (1008, 1008)] rfl rfl ⟨⟨_, rfl, by first | rfl | (simp only [AV.ren]; congr 1 <;> omega), rfl⟩, ⟨_, rfl, by first | rfl | (simp only [AV.ren]; congr 1 <;> omega), rfl⟩, ⟨_, rfl, by first | rfl | (simp only [AV.ren]; congr 1 <;> omega), rfl⟩, ⟨_, rfl, by first | rfl | (simp only [AV.ren]; congr 1 <;> omega), rfl⟩, ⟨_, rfl, by (simp only [AV.ren]; first | (rw [exP, if_pos (nat_mod0 hc31)] <;> rfl) | (rw [exP, if_neg (fun h => hc31 (by rw [← Int.natCast_emod, h] <;> rfl))])), rfl⟩, ⟨_, rfl, by first | rfl | (simp only [AV.ren]; congr 1 <;> omega), rfl⟩, ⟨_, rfl, by first | rfl | (simp only [AV.ren]; congr 1 <;> omega), rfl⟩, ⟨_, rfl, by first | rfl | (simp only [AV.ren]; congr 1 <;> omega), rfl⟩, trivial⟩ ⟨⟨_, _, rfl, rfl, ren_ci _, rfl, id, nm_ci _⟩, ⟨_, _, rfl, rfl, rfl, rfl, id, rfl⟩, ⟨_, _, rfl, rfl, by (simp only [AV.ren]; first | (rw [exT, if_pos (nat_mod0 hc31)] <;> rfl) | (rw [exT, if_neg (fun h => hc31 (by rw [← Int.natCast_emod, h] <;> rfl)), if_pos (by omega)] <;> rfl) | (rw [exT, if_neg (fun h => hc31 (by rw [← Int.natCast_emod, h] <;> rfl)), if_neg (by omega)])), rfl, id, rfl⟩, trivial⟩) ?_
    rintro ⟨j, hj⟩
    dsimp only
    have hj := length_exJ (exT bx n (n + k) (exN bx n key k).2 (exN bx n key k).1) n (exN bx n key k).1 j
    have ht := length_exT bx n (n + k) (exN bx n key k).2 (exN bx n key k).1 (by omega)
    rw [hw] at hj
    refine .seq ?_
    refine .region ?_
    refine .q (op_cmpI rfl rfl rfl) trivial rfl ?_
    refine .nil ?_
    show Ev _ _ _ _ _
    refine .seq ?_
    refine .cond rfl (fun hc66 => ?_) (fun hc66 => ?_)
    ·simp only [decide_eq_true_eq] at hc66
     refine .skip ?_
     show Ev _ _ _ _ _
     refine .seq ?_
     refine .block ?_
     refine .seq ?_
     refine .region ?_
     refine .q (op_move rfl) trivial rfl ?_
     refine .q (op_assign rfl) trivial rfl ?_
     refine .nil ?_
     show Ev _ _ _ _ _
     refine .drawn [[], [], [1], [1, 2], [], [], [5], [], [7], [5, 6, 7, 8], [4, 5, 6, 7, 8, 9], [4, 5, 6, 7, 8, 9, 10], [1, 2, 3, 4, 5, 6, 7, 8, 9, 10, 11], [1, 2, 3, 4, 5, 6, 7, 8, 9, 10, 11, 12], [0, 1, 2, 3, 4, 5, 6, 7, 8, 9, 10, 11, 12, 13], [0, 1, 2, 3, 4, 5, 6, 7, 8, 9, 10, 11, 12, 13, 14]] [3, 11, 13, 14] [14] (by kernel_rfl) (by kernel_rfl) rfl ?_
     show DK _ [0, 1, 2, 3, 4, 5, 6, 7, 8, 9, 10, 11, 12, 13, 14, 15] _ _ _
     refine .q rfl (op_move rfl) trivial ?_
     refine .q rfl (op_move rfl) trivial ?_
     refine .q rfl (ap_idx_arr Tryd.underlying62 inf5.sz rfl rfl rfl (by first | omega | (simp only [AV.len]; omega) | (simp only [AV.len, List.length_set]; omega) | assumption | (simp [AV.len]; done))) trivial ?_
     refine .q rfl (op_load Tryd.underlying5 rfl rfl rfl rfl (by show j < List.length _; rw [ht]; omega)) trivial ?_
     refine .q rfl (op_move rfl) trivial ?_
     refine .q rfl (op_move rfl) trivial ?_
     refine .q rfl (op_len_sl Tryd.underlying34 rfl) trivial ?_
     refine .q rfl (op_move rfl) trivial ?_
     refine .q rfl (op_len_str Tryd.underlying9 rfl) trivial ?_
     refine .q rfl (op_subI rfl rfl ⟨by omega, by omega⟩) trivial ?_
     refine .q rfl (ap_idx0 Tryd.underlying34 inf5.sz rfl rfl (i := 4 * (n + k) + j - 4 * n) (by omega) (by omega)) trivial ?_
     refine .q rfl (op_load Tryd.underlying5 rfl rfl rfl rfl (by show _ < List.length _; rw [hj]; omega)) trivial ?_
     refine .q rfl (op_bin8 rfl rfl rfl) trivial ?_
     refine .a rfl (ap_build (us := [_]) (c := .aggB [_]) Tryd.underlying34 inf5 rfl (by decide) (by decide) ⟨rfl, rfl, rfl, trivial⟩ rfl) trivial rfl rfl ?_
     refine .a rfl (ap_cat Tryd.underlying34 inf5 rfl rfl rfl rfl (by first | omega | (simp only [AV.len]; omega) | (simp only [AV.len, List.length_set]; omega) | assumption | (simp [AV.len]; done)) rfl rfl (by first | omega | (simp only [AV.len]; omega) | (simp only [AV.len]; omega) | assumption | (simp [AV.len]; done)) rfl (by first | omega | (simp only [AV.len]; omega) | (simp only [AV.len, List.length_set]; omega) | assumption | (simp [AV.len]; done))) trivial rfl rfl ?_
     refine .q rfl (op_assign rfl) trivial ?_
     refine .nil ?_
     show Ev _ _ _ _ _
     refine .region ?_
     refine .q (op_addI rfl rfl ⟨by omega, by omega⟩) trivial rfl ?_
     refine .q (op_move rfl) trivial rfl ?_
     refine .nil ?_
     exact ⟨⟨j + 1, by omega⟩, by show 4 - (j + 1) < 4 - j; omega, StLe.mk [(1000, 1128), (1008, 1008)] rfl rfl ⟨⟨_, rfl, by first | rfl | (simp only [AV.ren]; congr 1 <;> omega), rfl⟩, ⟨_, rfl, by first | rfl | (simp only [AV.ren]; congr 1 <;> omega), rfl⟩, ⟨_, rfl, by first | rfl | (simp only [AV.ren]; congr 1 <;> omega), rfl⟩, ⟨_, rfl, by first | rfl | (simp only [AV.ren]; congr 1 <;> omega), rfl⟩, ⟨_, rfl, by first | rfl | (simp only [AV.ren]; congr 1 <;> omega), rfl⟩, ⟨_, rfl, by first | rfl | (simp only [AV.ren]; congr 1 <;> omega), rfl⟩, ⟨_, rfl, by first | rfl | (simp only [AV.ren]; congr 1 <;> omega), rfl⟩, ⟨_, rfl, by first | rfl | (simp only [AV.ren]; congr 1 <;> omega), rfl⟩, trivial⟩ ⟨⟨_, _, rfl, rfl, ren_ci _, rfl, id, nm_ci _⟩, ⟨_, _, rfl, rfl, by (simp only [AV.ren]; rw [exJ, hj]), rfl, id, rfl⟩, ⟨_, _, rfl, rfl, by first | rfl | (simp only [AV.ren]; congr 1 <;> omega), rfl, id, rfl⟩, trivial⟩⟩
    ·simp only [decide_eq_false_iff_not] at hc66
     refine .exit ?_
     show Ev _ _ _ _ _
     have ej : j = 4 := by omega
     refine Ev.weak (st2 := ⟨[(0, .ptr 500 0), (1, .str key), (5, .i64 (n : Int)), (6, .sl 1000 0 (4 * (n + k) + (4)) 1), (7, .u8 (exP n (n + k) (exN bx n key k).2)), (8, .i64 ((n + k : Nat) : Int)), (9, .ptr 1008 0), (65, .i64 (((4) : Nat) : Int))], [(500, some ⟨ciC bx r ks, te, false⟩), (1000, some ⟨.aggB (exJ (exT bx n (n + k) (exN bx n key k).2 (exN bx n key k).1) n (exN bx n key k).1 (4)), 5, true⟩), (1008, some ⟨.aggB (exT bx n (n + k) (exN bx n key k).2 (exN bx n key k).1), 62, true⟩)], 1016⟩) (StLe.mk [(1000, 1000), (1008, 1008)] rfl rfl ⟨⟨_, rfl, by first | (simp only [AV.ren]; done) | (simp only [AV.ren]; rw [ej]; done) | rfl, rfl⟩, ⟨_, rfl, by first | (simp only [AV.ren]; done) | (simp only [AV.ren]; rw [ej]; done) | rfl, rfl⟩, ⟨_, rfl, by first | (simp only [AV.ren]; done) | (simp only [AV.ren]; rw [ej]; done) | rfl, rfl⟩, ⟨_, rfl, by (subst ej; rfl), rfl⟩, ⟨_, rfl, by first | (simp only [AV.ren]; done) | (simp only [AV.ren]; rw [ej]; done) | rfl, rfl⟩, ⟨_, rfl, by first | (simp only [AV.ren]; done) | (simp only [AV.ren]; rw [ej]; done) | rfl, rfl⟩, ⟨_, rfl, by first | (simp only [AV.ren]; done) | (simp only [AV.ren]; rw [ej]; done) | rfl, rfl⟩, ⟨_, rfl, by first | (simp only [AV.ren]; done) | (simp only [AV.ren]; rw [ej]; done) | rfl, rfl⟩, trivial⟩ ⟨⟨_, _, rfl, rfl, ren_ci _, rfl, id, nm_ci _⟩, ⟨_, _, rfl, rfl, by first | (simp only [AV.ren]; done) | (simp only [AV.ren]; rw [ej]; done) | rfl, rfl, id, rfl⟩, ⟨_, _, rfl, rfl, by first | (simp only [AV.ren]; done) | (simp only [AV.ren]; rw [ej]; done) | rfl, rfl, id, rfl⟩, trivial⟩) ?_
     refine .region ?_
     refine .q (op_move rfl) trivial rfl ?_
     refine .q (op_addI rfl rfl ⟨by omega, by omega⟩) trivial rfl ?_
     refine .q (op_assign rfl) trivial rfl ?_
     refine .nil ?_
     exact ⟨⟨k + 1, by omega⟩, by (try dsimp only); omega, StLe.mk [(1000, 1000)] rfl rfl ⟨⟨_, rfl, by rfl, rfl⟩, ⟨_, rfl, by rfl, rfl⟩, ⟨_, rfl, by rfl, rfl⟩, ⟨_, rfl, by first | rfl | (simp only [AV.ren]; congr 1 <;> omega), rfl⟩, ⟨_, rfl, by (simp only [AV.ren]; rfl), rfl⟩, ⟨_, rfl, by first | rfl | (simp only [AV.ren]; congr 1 <;> omega), rfl⟩, trivial⟩ ⟨⟨_, _, rfl, rfl, ren_ci _, rfl, id, nm_ci _⟩, ⟨_, _, rfl, rfl, by (simp only [AV.ren]; rfl), rfl, id, rfl⟩, trivial⟩⟩
 ·simp only [decide_eq_false_iff_not] at hc21
  refine .exit ?_
  show Ev _ _ _ _ _
  refine .seq ?_
  refine .region ?_
  refine .q (op_move rfl) trivial rfl ?_
  refine .q (op_assign rfl) trivial rfl ?_
  refine .nil ?_
  show Ev _ _ _ _ _
  refine .ret ?_
  show RetOk _ _ _ _ _ _ _
  exact ret1v rfl (.inl rfl) rfl (by congr 1; omega) ⟨by rw [exL, show 3 * n + 28 = k by omega]; rfl, trivial⟩
end Go.Proofs.YtdpdmgbdipokdaaDoor
namespace Go.Proofs.YtdpdmgbdipokdaaDoor
open Go.RowKit
theorem zeroCi : (Tryd.prog.info? 50).map (·.zero) = some (some (.agg (Array.replicate 512 (.int .u8 0) ++ (#[.int .i64 0] ++ Array.replicate 240 (.int .u8 0))))) := by kernel_rfl
theorem setAt_ci0 (bx : List UInt8) (h : bx.length = 512) : setAt (ciC (List.replicate 512 0) 0 (List.replicate 240 0)).list 0 (bx.map .u8) = (ciC bx 0 (List.replicate 240 0)).list := by
  have hb : (bx.map AV.u8).length = 512 := by rw [List.length_map, h]
  have hz : (List.replicate 512 (0 : UInt8)).length = 512 := List.length_replicate ..
  generalize List.replicate 240 (0 : UInt8) = ks
  generalize List.replicate 512 (0 : UInt8) = z at hz
  unfold setAt
  rw [ci_list, List.take_zero, List.nil_append, Nat.zero_add, hb, List.drop_left' (by rw [List.length_map, hz]), ci_list]
theorem setAt_ci (bx ks : List UInt8) (r : Int) (h : bx.length = 512) : setAt (ciC bx 0 ks).list 512 [.i64 r] = (ciC bx r ks).list := by
  have hb : (bx.map AV.u8).length = 512 := by rw [List.length_map, h]
  unfold setAt
  rw [ci_list, List.take_left' hb, ci_list]
  congr 1
  rw [show 512 + [AV.i64 r].length = 512 + 1 from rfl, List.drop_append, List.drop_eq_nil_of_le (by omega), List.nil_append, hb]
  rfl
theorem fill_ci (bx : List UInt8) (r : Int) (h : bx.length = 512) : fillA [(0, 512), (512, 1), (513, 240)] (ciC (List.replicate 512 0) 0 (List.replicate 240 0)).list [(0, .aggB bx), (1, .i64 r)] = some (ciC bx r (List.replicate 240 0)).list := by
  have hb : Nat.beq (AV.aggB bx).cells.length 512 = true := by
    show Nat.beq (bx.map AV.u8).length 512 = true
    rw [List.length_map, h]; rfl
  have hone : (AV.aggB bx).cells.all AV.one = true := by
    show (bx.map AV.u8).all AV.one = true
    rw [List.all_map]; exact List.all_eq_true.2 fun _ _ => rfl
  have hl : ∀ (b k : List UInt8) (q : Int), b.length = 512 → k.length = 240 → (ciC b q k).list.length = 753 := fun b k q h1 h2 => by
    rw [ci_list, List.length_append, List.length_cons, List.length_map, List.length_map, h1, h2]
  have e1 : setAt (ciC (List.replicate 512 0) 0 (List.replicate 240 0)).list 0 (AV.aggB bx).cells = (ciC bx 0 (List.replicate 240 0)).list := setAt_ci0 bx h
  have e2 : setAt (ciC bx 0 (List.replicate 240 0)).list 512 (AV.i64 r).cells = (ciC bx r (List.replicate 240 0)).list := setAt_ci bx _ r h
  unfold fillA
  show (match Nat.beq (AV.aggB bx).cells.length 512 && Nat.ble (0 + 512) (ciC (List.replicate 512 0) 0 (List.replicate 240 0)).list.length && (AV.aggB bx).cells.all AV.one with
      | true => fillA [(0, 512), (512, 1), (513, 240)] (setAt (ciC (List.replicate 512 0) 0 (List.replicate 240 0)).list 0 (AV.aggB bx).cells) [(1, .i64 r)]
      | false => none) = _
  rw [hb, hone, hl _ _ _ (List.length_replicate ..) (List.length_replicate ..), e1]
  show fillA [(0, 512), (512, 1), (513, 240)] (ciC bx 0 (List.replicate 240 0)).list [(1, .i64 r)] = _
  unfold fillA
  show (match Nat.beq (AV.i64 r).cells.length 1 && Nat.ble (512 + 1) (ciC bx 0 (List.replicate 240 0)).list.length && (AV.i64 r).cells.all AV.one with
      | true => fillA [(0, 512), (512, 1), (513, 240)] (setAt (ciC bx 0 (List.replicate 240 0)).list 512 (AV.i64 r).cells) []
      | false => none) = _
  rw [hl _ _ _ h (List.length_replicate ..), e2]
  rfl
theorem copy_ci (bx ex : List UInt8) (r : Int) (j m : Nat) (hb : bx.length = 512) (h : 16 * j + 16 ≤ ex.length) (h2 : ex.length ≤ 240) (hm : 16 ≤ m) :
    (ciC bx r (padL (ex.take (16 * (j + 1))) 240)).list = (ciC bx r (padL (ex.take (16 * j)) 240)).list.take (513 + j * 16 + 0 * 1) ++ (((AV.aggB ex).list.drop (0 + 16 * j * 1)).take (m * 1)).take 16 ++ (ciC bx r (padL (ex.take (16 * j)) 240)).list.drop (513 + j * 16 + 0 * 1 + 16) := by
  rw [ci_put bx ex r j hb h h2, List.append_assoc]
  rw [show 513 + j * 16 + 0 * 1 = 513 + 16 * j by omega, show 513 + 16 * j + 16 = 513 + (16 * j + 16) by omega, show 0 + 16 * j * 1 = 16 * j by omega, Nat.mul_one, List.take_take, Nat.min_eq_left hm]
  congr 2
  show _ = ((ex.map AV.u8).drop (16 * j)).take 16
  rw [List.map_take, List.map_drop]
set_option maxRecDepth 100000 in
theorem new16_ev (key : List UInt8) (hkey : key.length = 16) : Meets Tryd.prog 9 [.str key] [] (.tup [.ptr 1000 0, .val .nilIface]) [(1000, some ⟨ciC bxT 10 (padL (exL bxT 4 key) 240), 50, true⟩)] := by
 refine meets_of_ev (nt := 59) Tryd.func9 rfl rfl (Nat.le_of_ble_eq_true rfl) ?_
 refine .seq ?_
 refine .region ?_
 refine .q (op_assign rfl) trivial rfl ?_
 refine .q (op_assign rfl) trivial rfl ?_
 refine .nil ?_
 show Ev _ _ _ _ _
 refine .seq ?_
 refine .region ?_
 refine .q (op_move rfl) trivial rfl ?_
 refine .q (op_len_str Tryd.underlying9 rfl) trivial rfl ?_
 refine .q (op_quoI rfl rfl ⟨by omega, ⟨by omega, by omega⟩, by omega⟩) trivial rfl ?_
 refine .as (.i64 4) (by rw [hkey]; rfl) ?_
 refine .q (op_assign rfl) trivial rfl ?_
 refine .nil ?_
 show Ev _ _ _ _ _
 refine .seq ?_
 refine .seq ?_
 refine .region ?_
 refine .q (op_move rfl) trivial rfl ?_
 refine .q (op_len_str Tryd.underlying9 rfl) trivial rfl ?_
 refine .q (op_remI rfl rfl ⟨by omega, by omega⟩) trivial rfl ?_
 refine .as (.i64 0) (by rw [hkey]; rfl) ?_
 refine .q (op_cmpI rfl rfl rfl) trivial rfl ?_
 refine .q (op_move rfl) trivial rfl ?_
 refine .know (b' := false) (rfl) ?_
 refine .q (op_move rfl) ⟨_, rfl, rfl⟩ rfl ?_
 refine .q (op_cmpI rfl rfl rfl) ⟨_, rfl, rfl⟩ rfl ?_
 refine .q (op_move rfl) ⟨_, rfl, rfl⟩ rfl ?_
 refine .know (b' := false) (rfl) ?_
 refine .no ⟨_, rfl, rfl⟩ rfl ?_
 refine .no ⟨_, rfl, rfl⟩ rfl ?_
 refine .q (op_pick_false rfl rfl rfl) ⟨_, rfl, rfl⟩ rfl ?_
 refine .q (op_move rfl) ⟨_, rfl, rfl⟩ rfl ?_
 refine .no ⟨_, rfl, rfl⟩ rfl ?_
 refine .no ⟨_, rfl, rfl⟩ rfl ?_
 refine .q (op_pick_false rfl rfl rfl) ⟨_, rfl, rfl⟩ rfl ?_
 refine .q (op_pick_false rfl rfl rfl) trivial rfl ?_
 refine .nil ?_
 show Ev _ _ _ _ _
 refine .cond_false rfl rfl ?_
 refine .skip ?_
 show Ev _ _ _ _ _
 refine .seq ?_
 refine .region ?_
 refine .q (op_call (U := []) [] [] (newBox_ev) Tryd.func19 (by kernel_rfl) rfl rfl rfl (trivial) (trivial) (trivial) (trivial) rfl) trivial rfl ?_
 refine .q (op_move rfl) trivial rfl ?_
 refine .q (op_addI rfl rfl ⟨by omega, by omega⟩) trivial rfl ?_
 refine .q (op_buildS (r := ciC bxT 10 (List.replicate 240 0)) (pl := [(0, 512), (512, 1), (513, 240)]) Tryd.underlying50 (by kernel_rfl) zeroCi (rel_zeroCi 512 240) rfl rfl (fill_ci bxT 10 length_bxT) rfl) trivial rfl ?_
 refine .a (op_boxRow rfl rfl) trivial rfl ?_
 refine .q (op_assign rfl) trivial rfl ?_
 refine .nil ?_
 show Ev _ _ _ _ _
 refine .seq ?_
 refine .region ?_
 refine .q (op_move rfl) trivial rfl ?_
 refine .q (op_nilCheck rfl) trivial rfl ?_
 refine .q (op_fieldAddr (m := 511) Tryd.underlying50 rfl (by kernel_rfl) rfl) trivial rfl ?_
 refine .as (.ptr 1000 0) rfl ?_
 refine .q (op_move rfl) trivial rfl ?_
 refine .a (op_call (U := [(1008, some ⟨.aggB (exL bxT 4 key), 5, true⟩)]) [(500, 1000)] [(1008, 1000)] (expand_ev bxT (List.replicate 240 0) key 10 4 50 length_bxT (List.length_replicate ..) hkey (by decide)) Tryd.func20 (by kernel_rfl) rfl rfl rfl (⟨⟨_, rfl, rfl, rfl⟩, ⟨_, rfl, rfl, rfl⟩, trivial⟩) (⟨⟨_, _, rfl, rfl, ren_ci _, rfl, (fun h => by cases h), nmC_ci _⟩, trivial⟩) (⟨⟨1000, _, rfl, rfl, rfl, rfl, .inl rfl⟩, trivial⟩) (⟨(fun h => by cases h), trivial⟩) rfl) trivial rfl ?_
 refine .q (op_assign rfl) trivial rfl ?_
 refine .nil ?_
 show Ev _ _ _ _ _
 refine .seq ?_
 refine .seq ?_
 refine .region ?_
 refine .q (op_move rfl) trivial rfl ?_
 refine .q (op_nilCheck rfl) trivial rfl ?_
 refine .q (op_fieldAddr (m := 0) Tryd.underlying50 rfl (by kernel_rfl) rfl) trivial rfl ?_
 refine .as (.ptr 1000 512) rfl ?_
 refine .q (op_load Tryd.underlying3 rfl rfl rfl (ci_r length_bxT) (ci_lt length_bxT (List.length_replicate ..) (by decide))) trivial rfl ?_
 refine .q (op_addI rfl rfl ⟨by omega, by omega⟩) trivial rfl ?_
 refine .q (op_move rfl) trivial rfl ?_
 refine .nil ?_
 show Ev _ _ _ _ _
 refine .block ?_
 refine Ev.loop (ι := { j : Nat // j ≤ 11 }) (fun j => ⟨[(5, .ptr 1000 0), (6, .sl 1008 0 (16 * 11) 1), (42, .i64 11), (43, .i64 ((j.1 : Nat) : Int))], [(1000, some ⟨ciC bxT 10 (padL ((exL bxT 4 key).take (16 * j.1)) 240), 50, true⟩), (1008, some ⟨.aggB (exL bxT 4 key), 5, true⟩)], 1016⟩) (fun j => 11 - j.1) ⟨0, Nat.zero_le _⟩ (StLe.mk [(1000, 1000), (1008, 1008)] rfl rfl ⟨⟨_, rfl, by first | rfl | (simp only [AV.ren]; congr 1 <;> omega), rfl⟩, ⟨_, rfl, by first | rfl | (simp only [AV.ren]; congr 1 <;> omega), rfl⟩, ⟨_, rfl, by first | rfl | (simp only [AV.ren]; congr 1 <;> omega), rfl⟩, ⟨_, rfl, by first | rfl | (simp only [AV.ren]; congr 1 <;> omega), rfl⟩, trivial⟩ ⟨⟨_, _, rfl, rfl, ren_ci _, rfl, id, nm_ci _⟩, ⟨_, _, rfl, rfl, by first | rfl | (simp only [AV.ren]; congr 1 <;> omega), rfl, id, rfl⟩, trivial⟩) ?_
 rintro ⟨j, hj⟩
 dsimp only
 have hx : (exL bxT 4 key).length = 16 * 11 := length_exL bxT 4 key hkey
 have hks : (padL ((exL bxT 4 key).take (16 * j)) 240).length = 240 := length_padL _ _ (by rw [List.length_take]; omega)
 refine .seq ?_
 refine .region ?_
 refine .q (op_cmpI rfl rfl rfl) trivial rfl ?_
 refine .nil ?_
 show Ev _ _ _ _ _
 refine .seq ?_
 refine .cond rfl (fun hc44 => ?_) (fun hc44 => ?_)
 ·simp only [decide_eq_true_eq] at hc44
  refine .skip ?_
  show Ev _ _ _ _ _
  refine .seq ?_
  refine .block ?_
  refine .seq ?_
  refine .region ?_
  refine .q (op_move rfl) trivial rfl ?_
  refine .q (op_assign rfl) trivial rfl ?_
  refine .nil ?_
  show Ev _ _ _ _ _
  refine .drawn [[], [], [0], [0, 2], [0, 1, 2, 3], [0, 1, 2, 3, 4], [], [], [7], [6, 7, 8], [0, 1, 2, 3, 4, 5, 6, 7, 8, 9]] [5, 10] [10] (by kernel_rfl) (by kernel_rfl) rfl ?_
  show DK _ [0, 1, 2, 3, 4, 5, 6, 7, 8, 9, 10] _ _ _
  refine .q rfl (op_move rfl) trivial ?_
  refine .q rfl (op_move rfl) trivial ?_
  refine .q rfl (op_nilCheck rfl) trivial ?_
  refine .q rfl (op_fieldAddr (m := 239) Tryd.underlying50 rfl (by kernel_rfl) rfl) trivial ?_
  refine .as (.ptr 1000 513) rfl ?_
  refine .q rfl (op_indexAddr_arr (i := j) Tryd.underlying48 sz25 rfl rfl rfl (by omega)) trivial ?_
  refine .q rfl (op_slice_arr (l := 0) (h := 16) Tryd.underlying25 inf5.sz rfl rfl (by rw [ci_len length_bxT, hks]; omega) (by decide) rfl rfl (by decide) (by decide)) trivial ?_
  refine .q rfl (op_move rfl) trivial ?_
  refine .q rfl (op_move rfl) trivial ?_
  refine .q rfl (op_mulI rfl rfl ⟨by omega, by omega⟩) trivial ?_
  refine .q rfl (op_slice_sl Tryd.underlying34 inf5.sz rfl (bnd_some rfl (l := 16 * j) (by omega)) rfl (by omega) (by omega)) trivial ?_
  refine .a rfl (op_copy (q := 16) (c' := ciC bxT 10 (padL ((exL bxT 4 key).take (16 * (j + 1))) 240)) Tryd.underlying34 inf5.sz rfl rfl rfl (srcs_sl rfl rfl (by rw [AV.len, hx]; omega)) (by rw [ci_len length_bxT, hks]; omega) (by omega) (copy_ci bxT (exL bxT 4 key) 10 j (16 * 11 - 16 * j) length_bxT (by omega) (by omega) (by omega))) trivial rfl rfl ?_
  refine .nil ?_
  show Ev _ _ _ _ _
  refine .region ?_
  refine .q (op_addI rfl rfl ⟨by omega, by omega⟩) trivial rfl ?_
  refine .q (op_move rfl) trivial rfl ?_
  refine .nil ?_
  exact ⟨⟨j + 1, by omega⟩, by show 11 - (j + 1) < 11 - j; omega, StLe.mk [(1000, 1000), (1008, 1008)] rfl rfl ⟨⟨_, rfl, by first | rfl | (simp only [AV.ren]; congr 1 <;> omega), rfl⟩, ⟨_, rfl, by first | rfl | (simp only [AV.ren]; congr 1 <;> omega), rfl⟩, ⟨_, rfl, by first | rfl | (simp only [AV.ren]; congr 1 <;> omega), rfl⟩, ⟨_, rfl, by first | rfl | (simp only [AV.ren]; congr 1 <;> omega), rfl⟩, trivial⟩ ⟨⟨_, _, rfl, rfl, ren_ci _, rfl, id, nm_ci _⟩, ⟨_, _, rfl, rfl, by first | rfl | (simp only [AV.ren]; congr 1 <;> omega), rfl, id, rfl⟩, trivial⟩⟩
 ·simp only [decide_eq_false_iff_not] at hc44
  refine .exit ?_
  show Ev _ _ _ _ _
  have ej : j = 11 := by omega
  subst ej
  refine Ev.weak (st2 := ⟨[(5, .ptr 1000 0), (6, .sl 1008 0 (16 * 11) 1), (42, .i64 11), (43, .i64 (((11) : Nat) : Int))], [(1000, some ⟨ciC bxT 10 (padL ((exL bxT 4 key).take (16 * (11))) 240), 50, true⟩), (1008, some ⟨.aggB (exL bxT 4 key), 5, true⟩)], 1016⟩) (StLe.mk [(1000, 1000), (1008, 1008)] rfl rfl ⟨⟨_, rfl, by first | (simp only [AV.ren]; done) | (simp only [AV.ren]; rw [ej]; done) | rfl, rfl⟩, ⟨_, rfl, by first | (simp only [AV.ren]; done) | (simp only [AV.ren]; rw [ej]; done) | rfl, rfl⟩, ⟨_, rfl, by first | (simp only [AV.ren]; done) | (simp only [AV.ren]; rw [ej]; done) | rfl, rfl⟩, ⟨_, rfl, by first | (simp only [AV.ren]; done) | (simp only [AV.ren]; rw [ej]; done) | rfl, rfl⟩, trivial⟩ ⟨⟨_, _, rfl, rfl, ren_ci _, rfl, id, nm_ci _⟩, ⟨_, _, rfl, rfl, rfl, rfl, id, rfl⟩, trivial⟩) ?_
  refine .seq ?_
  refine .region ?_
  refine .q (op_move rfl) trivial rfl ?_
  refine .q (op_assign rfl) trivial rfl ?_
  refine .q (op_assign rfl) trivial rfl ?_
  refine .nil ?_
  show Ev _ _ _ _ _
  refine .ret ?_
  show RetOk _ _ _ _ _ _ _
  exact ret2v rfl (.inl rfl) rfl rfl rfl rfl ⟨by rw [List.take_of_length_le (by omega)]; rfl, trivial⟩
set_option maxRecDepth 100000 in
theorem new24_ev (key : List UInt8) (hkey : key.length = 24) : Meets Tryd.prog 9 [.str key] [] (.tup [.ptr 1000 0, .val .nilIface]) [(1000, some ⟨ciC bxT 12 (padL (exL bxT 6 key) 240), 50, true⟩)] := by
 refine meets_of_ev (nt := 59) Tryd.func9 rfl rfl (Nat.le_of_ble_eq_true rfl) ?_
 refine .seq ?_
 refine .region ?_
 refine .q (op_assign rfl) trivial rfl ?_
 refine .q (op_assign rfl) trivial rfl ?_
 refine .nil ?_
 show Ev _ _ _ _ _
 refine .seq ?_
 refine .region ?_
 refine .q (op_move rfl) trivial rfl ?_
 refine .q (op_len_str Tryd.underlying9 rfl) trivial rfl ?_
 refine .q (op_quoI rfl rfl ⟨by omega, ⟨by omega, by omega⟩, by omega⟩) trivial rfl ?_
 refine .as (.i64 6) (by rw [hkey]; rfl) ?_
 refine .q (op_assign rfl) trivial rfl ?_
 refine .nil ?_
 show Ev _ _ _ _ _
 refine .seq ?_
 refine .seq ?_
 refine .region ?_
 refine .q (op_move rfl) trivial rfl ?_
 refine .q (op_len_str Tryd.underlying9 rfl) trivial rfl ?_
 refine .q (op_remI rfl rfl ⟨by omega, by omega⟩) trivial rfl ?_
 refine .as (.i64 0) (by rw [hkey]; rfl) ?_
 refine .q (op_cmpI rfl rfl rfl) trivial rfl ?_
 refine .q (op_move rfl) trivial rfl ?_
 refine .know (b' := false) (rfl) ?_
 refine .q (op_move rfl) ⟨_, rfl, rfl⟩ rfl ?_
 refine .q (op_cmpI rfl rfl rfl) ⟨_, rfl, rfl⟩ rfl ?_
 refine .q (op_move rfl) ⟨_, rfl, rfl⟩ rfl ?_
 refine .know (b' := true) (rfl) ?_
 refine .q (op_move rfl) ⟨_, rfl, rfl⟩ rfl ?_
 refine .q (op_cmpI rfl rfl rfl) ⟨_, rfl, rfl⟩ rfl ?_
 refine .q (op_pick_true rfl rfl rfl) ⟨_, rfl, rfl⟩ rfl ?_
 refine .q (op_move rfl) ⟨_, rfl, rfl⟩ rfl ?_
 refine .know (b' := false) (rfl) ?_
 refine .no ⟨_, rfl, rfl⟩ rfl ?_
 refine .no ⟨_, rfl, rfl⟩ rfl ?_
 refine .q (op_pick_false rfl rfl rfl) ⟨_, rfl, rfl⟩ rfl ?_
 refine .q (op_pick_false rfl rfl rfl) trivial rfl ?_
 refine .nil ?_
 show Ev _ _ _ _ _
 refine .cond_false rfl rfl ?_
 refine .skip ?_
 show Ev _ _ _ _ _
 refine .seq ?_
 refine .region ?_
 refine .q (op_call (U := []) [] [] (newBox_ev) Tryd.func19 (by kernel_rfl) rfl rfl rfl (trivial) (trivial) (trivial) (trivial) rfl) trivial rfl ?_
 refine .q (op_move rfl) trivial rfl ?_
 refine .q (op_addI rfl rfl ⟨by omega, by omega⟩) trivial rfl ?_
 refine .q (op_buildS (r := ciC bxT 12 (List.replicate 240 0)) (pl := [(0, 512), (512, 1), (513, 240)]) Tryd.underlying50 (by kernel_rfl) zeroCi (rel_zeroCi 512 240) rfl rfl (fill_ci bxT 12 length_bxT) rfl) trivial rfl ?_
 refine .a (op_boxRow rfl rfl) trivial rfl ?_
 refine .q (op_assign rfl) trivial rfl ?_
 refine .nil ?_
 show Ev _ _ _ _ _
 refine .seq ?_
 refine .region ?_
 refine .q (op_move rfl) trivial rfl ?_
 refine .q (op_nilCheck rfl) trivial rfl ?_
 refine .q (op_fieldAddr (m := 511) Tryd.underlying50 rfl (by kernel_rfl) rfl) trivial rfl ?_
 refine .as (.ptr 1000 0) rfl ?_
 refine .q (op_move rfl) trivial rfl ?_
 refine .a (op_call (U := [(1008, some ⟨.aggB (exL bxT 6 key), 5, true⟩)]) [(500, 1000)] [(1008, 1000)] (expand_ev bxT (List.replicate 240 0) key 12 6 50 length_bxT (List.length_replicate ..) hkey (by decide)) Tryd.func20 (by kernel_rfl) rfl rfl rfl (⟨⟨_, rfl, rfl, rfl⟩, ⟨_, rfl, rfl, rfl⟩, trivial⟩) (⟨⟨_, _, rfl, rfl, ren_ci _, rfl, (fun h => by cases h), nmC_ci _⟩, trivial⟩) (⟨⟨1000, _, rfl, rfl, rfl, rfl, .inl rfl⟩, trivial⟩) (⟨(fun h => by cases h), trivial⟩) rfl) trivial rfl ?_
 refine .q (op_assign rfl) trivial rfl ?_
 refine .nil ?_
 show Ev _ _ _ _ _
 refine .seq ?_
 refine .seq ?_
 refine .region ?_
 refine .q (op_move rfl) trivial rfl ?_
 refine .q (op_nilCheck rfl) trivial rfl ?_
 refine .q (op_fieldAddr (m := 0) Tryd.underlying50 rfl (by kernel_rfl) rfl) trivial rfl ?_
 refine .as (.ptr 1000 512) rfl ?_
 refine .q (op_load Tryd.underlying3 rfl rfl rfl (ci_r length_bxT) (ci_lt length_bxT (List.length_replicate ..) (by decide))) trivial rfl ?_
 refine .q (op_addI rfl rfl ⟨by omega, by omega⟩) trivial rfl ?_
 refine .q (op_move rfl) trivial rfl ?_
 refine .nil ?_
 show Ev _ _ _ _ _
 refine .block ?_
 refine Ev.loop (ι := { j : Nat // j ≤ 13 }) (fun j => ⟨[(5, .ptr 1000 0), (6, .sl 1008 0 (16 * 13) 1), (42, .i64 13), (43, .i64 ((j.1 : Nat) : Int))], [(1000, some ⟨ciC bxT 12 (padL ((exL bxT 6 key).take (16 * j.1)) 240), 50, true⟩), (1008, some ⟨.aggB (exL bxT 6 key), 5, true⟩)], 1016⟩) (fun j => 13 - j.1) ⟨0, Nat.zero_le _⟩ (StLe.mk [(1000, 1000), (1008, 1008)] rfl rfl ⟨⟨_, rfl, by first | rfl | (simp only [AV.ren]; congr 1 <;> omega), rfl⟩, ⟨_, rfl, by first | rfl | (simp only [AV.ren]; congr 1 <;> omega), rfl⟩, ⟨_, rfl, by first | rfl | (simp only [AV.ren]; congr 1 <;> omega), rfl⟩, ⟨_, rfl, by first | rfl | (simp only [AV.ren]; congr 1 <;> omega), rfl⟩, trivial⟩ ⟨⟨_, _, rfl, rfl, ren_ci _, rfl, id, nm_ci _⟩, ⟨_, _, rfl, rfl, by first | rfl | (simp only [AV.ren]; congr 1 <;> omega), rfl, id, rfl⟩, trivial⟩) ?_
 rintro ⟨j, hj⟩
 dsimp only
 have hx : (exL bxT 6 key).length = 16 * 13 := length_exL bxT 6 key hkey
 have hks : (padL ((exL bxT 6 key).take (16 * j)) 240).length = 240 := length_padL _ _ (by rw [List.length_take]; omega)
 refine .seq ?_
 refine .region ?_
 refine .q (op_cmpI rfl rfl rfl) trivial rfl ?_
 refine .nil ?_
 show Ev _ _ _ _ _
 refine .seq ?_
 refine .cond rfl (fun hc44 => ?_) (fun hc44 => ?_)
 ·simp only [decide_eq_true_eq] at hc44
  refine .skip ?_
  show Ev _ _ _ _ _
  refine .seq ?_
  refine .block ?_
  refine .seq ?_
  refine .region ?_
  refine .q (op_move rfl) trivial rfl ?_
  refine .q (op_assign rfl) trivial rfl ?_
  refine .nil ?_
  show Ev _ _ _ _ _
  refine .drawn [[], [], [0], [0, 2], [0, 1, 2, 3], [0, 1, 2, 3, 4], [], [], [7], [6, 7, 8], [0, 1, 2, 3, 4, 5, 6, 7, 8, 9]] [5, 10] [10] (by kernel_rfl) (by kernel_rfl) rfl ?_
  show DK _ [0, 1, 2, 3, 4, 5, 6, 7, 8, 9, 10] _ _ _
  refine .q rfl (op_move rfl) trivial ?_
  refine .q rfl (op_move rfl) trivial ?_
  refine .q rfl (op_nilCheck rfl) trivial ?_
  refine .q rfl (op_fieldAddr (m := 239) Tryd.underlying50 rfl (by kernel_rfl) rfl) trivial ?_
  refine .as (.ptr 1000 513) rfl ?_
  refine .q rfl (op_indexAddr_arr (i := j) Tryd.underlying48 sz25 rfl rfl rfl (by omega)) trivial ?_
  refine .q rfl (op_slice_arr (l := 0) (h := 16) Tryd.underlying25 inf5.sz rfl rfl (by rw [ci_len length_bxT, hks]; omega) (by decide) rfl rfl (by decide) (by decide)) trivial ?_
  refine .q rfl (op_move rfl) trivial ?_
  refine .q rfl (op_move rfl) trivial ?_
  refine .q rfl (op_mulI rfl rfl ⟨by omega, by omega⟩) trivial ?_
  refine .q rfl (op_slice_sl Tryd.underlying34 inf5.sz rfl (bnd_some rfl (l := 16 * j) (by omega)) rfl (by omega) (by omega)) trivial ?_
  refine .a rfl (op_copy (q := 16) (c' := ciC bxT 12 (padL ((exL bxT 6 key).take (16 * (j + 1))) 240)) Tryd.underlying34 inf5.sz rfl rfl rfl (srcs_sl rfl rfl (by rw [AV.len, hx]; omega)) (by rw [ci_len length_bxT, hks]; omega) (by omega) (copy_ci bxT (exL bxT 6 key) 12 j (16 * 13 - 16 * j) length_bxT (by omega) (by omega) (by omega))) trivial rfl rfl ?_
  refine .nil ?_
  show Ev _ _ _ _ _
  refine .region ?_
  refine .q (op_addI rfl rfl ⟨by omega, by omega⟩) trivial rfl ?_
  refine .q (op_move rfl) trivial rfl ?_
  refine .nil ?_
  exact ⟨⟨j + 1, by omega⟩, by show 13 - (j + 1) < 13 - j; omega, StLe.mk [(1000, 1000), (1008, 1008)] rfl rfl ⟨⟨_, rfl, by first | rfl | (simp only [AV.ren]; congr 1 <;> omega), rfl⟩, ⟨_, rfl, by first | rfl | (simp only [AV.ren]; congr 1 <;> omega), rfl⟩, ⟨_, rfl, by first | rfl | (simp only [AV.ren]; congr 1 <;> omega), rfl⟩, ⟨_, rfl, by first | rfl | (simp only [AV.ren]; congr 1 <;> omega), rfl⟩, trivial⟩ ⟨⟨_, _, rfl, rfl, ren_ci _, rfl, id, nm_ci _⟩, ⟨_, _, rfl, rfl, by first | rfl | (simp only [AV.ren]; congr 1 <;> omega), rfl, id, rfl⟩, trivial⟩⟩
 ·simp only [decide_eq_false_iff_not] at hc44
  refine .exit ?_
  show Ev _ _ _ _ _
  have ej : j = 13 := by omega
  subst ej
  refine Ev.weak (st2 := ⟨[(5, .ptr 1000 0), (6, .sl 1008 0 (16 * 13) 1), (42, .i64 13), (43, .i64 (((13) : Nat) : Int))], [(1000, some ⟨ciC bxT 12 (padL ((exL bxT 6 key).take (16 * (13))) 240), 50, true⟩), (1008, some ⟨.aggB (exL bxT 6 key), 5, true⟩)], 1016⟩) (StLe.mk [(1000, 1000), (1008, 1008)] rfl rfl ⟨⟨_, rfl, by first | (simp only [AV.ren]; done) | (simp only [AV.ren]; rw [ej]; done) | rfl, rfl⟩, ⟨_, rfl, by first | (simp only [AV.ren]; done) | (simp only [AV.ren]; rw [ej]; done) | rfl, rfl⟩, ⟨_, rfl, by first | (simp only [AV.ren]; done) | (simp only [AV.ren]; rw [ej]; done) | rfl, rfl⟩, ⟨_, rfl, by first | (simp only [AV.ren]; done) | (simp only [AV.ren]; rw [ej]; done) | rfl, rfl⟩, trivial⟩ ⟨⟨_, _, rfl, rfl, ren_ci _, rfl, id, nm_ci _⟩, ⟨_, _, rfl, rfl, rfl, rfl, id, rfl⟩, trivial⟩) ?_
  refine .seq ?_
  refine .region ?_
  refine .q (op_move rfl) trivial rfl ?_
  refine .q (op_assign rfl) trivial rfl ?_
  refine .q (op_assign rfl) trivial rfl ?_
  refine .nil ?_
  show Ev _ _ _ _ _
  refine .ret ?_
  show RetOk _ _ _ _ _ _ _
  exact ret2v rfl (.inl rfl) rfl rfl rfl rfl ⟨by rw [List.take_of_length_le (by omega)]; rfl, trivial⟩
set_option maxRecDepth 100000 in
theorem new32_ev (key : List UInt8) (hkey : key.length = 32) : Meets Tryd.prog 9 [.str key] [] (.tup [.ptr 1000 0, .val .nilIface]) [(1000, some ⟨ciC bxT 14 (padL (exL bxT 8 key) 240), 50, true⟩)] := by
 refine meets_of_ev (nt := 59) Tryd.func9 rfl rfl (Nat.le_of_ble_eq_true rfl) ?_
 refine .seq ?_
 refine .region ?_
 refine .q (op_assign rfl) trivial rfl ?_
 refine .q (op_assign rfl) trivial rfl ?_
 refine .nil ?_
 show Ev _ _ _ _ _
 refine .seq ?_
 refine .region ?_
 refine .q (op_move rfl) trivial rfl ?_
 refine .q (op_len_str Tryd.underlying9 rfl) trivial rfl ?_
 refine .q (op_quoI rfl rfl ⟨by omega, ⟨by omega, by omega⟩, by omega⟩) trivial rfl ?_
 refine .as (.i64 8) (by rw [hkey]; rfl) ?_
 refine .q (op_assign rfl) trivial rfl ?_
 refine .nil ?_
 show Ev _ _ _ _ _
 refine .seq ?_
 refine .seq ?_
 refine .region ?_
 refine .q (op_move rfl) trivial rfl ?_
 refine .q (op_len_str Tryd.underlying9 rfl) trivial rfl ?_
 refine .q (op_remI rfl rfl ⟨by omega, by omega⟩) trivial rfl ?_
 refine .as (.i64 0) (by rw [hkey]; rfl) ?_
 refine .q (op_cmpI rfl rfl rfl) trivial rfl ?_
 refine .q (op_move rfl) trivial rfl ?_
 refine .know (b' := false) (rfl) ?_
 refine .q (op_move rfl) ⟨_, rfl, rfl⟩ rfl ?_
 refine .q (op_cmpI rfl rfl rfl) ⟨_, rfl, rfl⟩ rfl ?_
 refine .q (op_move rfl) ⟨_, rfl, rfl⟩ rfl ?_
 refine .know (b' := true) (rfl) ?_
 refine .q (op_move rfl) ⟨_, rfl, rfl⟩ rfl ?_
 refine .q (op_cmpI rfl rfl rfl) ⟨_, rfl, rfl⟩ rfl ?_
 refine .q (op_pick_true rfl rfl rfl) ⟨_, rfl, rfl⟩ rfl ?_
 refine .q (op_move rfl) ⟨_, rfl, rfl⟩ rfl ?_
 refine .know (b' := true) (rfl) ?_
 refine .q (op_move rfl) ⟨_, rfl, rfl⟩ rfl ?_
 refine .q (op_cmpI rfl rfl rfl) ⟨_, rfl, rfl⟩ rfl ?_
 refine .q (op_pick_true rfl rfl rfl) ⟨_, rfl, rfl⟩ rfl ?_
 refine .q (op_pick_false rfl rfl rfl) trivial rfl ?_
 refine .nil ?_
 show Ev _ _ _ _ _
 refine .cond_false rfl (rfl) ?_
 refine .skip ?_
 show Ev _ _ _ _ _
 refine .seq ?_
 refine .region ?_
 refine .q (op_call (U := []) [] [] (newBox_ev) Tryd.func19 (by kernel_rfl) rfl rfl rfl (trivial) (trivial) (trivial) (trivial) rfl) trivial rfl ?_
 refine .q (op_move rfl) trivial rfl ?_
 refine .q (op_addI rfl rfl ⟨by omega, by omega⟩) trivial rfl ?_
 refine .q (op_buildS (r := ciC bxT 14 (List.replicate 240 0)) (pl := [(0, 512), (512, 1), (513, 240)]) Tryd.underlying50 (by kernel_rfl) zeroCi (rel_zeroCi 512 240) rfl rfl (fill_ci bxT 14 length_bxT) rfl) trivial rfl ?_
 refine .a (op_boxRow rfl rfl) trivial rfl ?_
 refine .q (op_assign rfl) trivial rfl ?_
 refine .nil ?_
 show Ev _ _ _ _ _
 refine .seq ?_
 refine .region ?_
 refine .q (op_move rfl) trivial rfl ?_
 refine .q (op_nilCheck rfl) trivial rfl ?_
 refine .q (op_fieldAddr (m := 511) Tryd.underlying50 rfl (by kernel_rfl) rfl) trivial rfl ?_
 refine .as (.ptr 1000 0) rfl ?_
 refine .q (op_move rfl) trivial rfl ?_
 refine .a (op_call (U := [(1008, some ⟨.aggB (exL bxT 8 key), 5, true⟩)]) [(500, 1000)] [(1008, 1000)] (expand_ev bxT (List.replicate 240 0) key 14 8 50 length_bxT (List.length_replicate ..) hkey (by decide)) Tryd.func20 (by kernel_rfl) rfl rfl rfl (⟨⟨_, rfl, rfl, rfl⟩, ⟨_, rfl, rfl, rfl⟩, trivial⟩) (⟨⟨_, _, rfl, rfl, ren_ci _, rfl, (fun h => by cases h), nmC_ci _⟩, trivial⟩) (⟨⟨1000, _, rfl, rfl, rfl, rfl, .inl rfl⟩, trivial⟩) (⟨(fun h => by cases h), trivial⟩) rfl) trivial rfl ?_
 refine .q (op_assign rfl) trivial rfl ?_
 refine .nil ?_
 show Ev _ _ _ _ _
 refine .seq ?_
 refine .seq ?_
 refine .region ?_
 refine .q (op_move rfl) trivial rfl ?_
 refine .q (op_nilCheck rfl) trivial rfl ?_
 refine .q (op_fieldAddr (m := 0) Tryd.underlying50 rfl (by kernel_rfl) rfl) trivial rfl ?_
 refine .as (.ptr 1000 512) rfl ?_
 refine .q (op_load Tryd.underlying3 rfl rfl rfl (ci_r length_bxT) (ci_lt length_bxT (List.length_replicate ..) (by decide))) trivial rfl ?_
 refine .q (op_addI rfl rfl ⟨by omega, by omega⟩) trivial rfl ?_
 refine .q (op_move rfl) trivial rfl ?_
 refine .nil ?_
 show Ev _ _ _ _ _
 refine .block ?_
 refine Ev.loop (ι := { j : Nat // j ≤ 15 }) (fun j => ⟨[(5, .ptr 1000 0), (6, .sl 1008 0 (16 * 15) 1), (42, .i64 15), (43, .i64 ((j.1 : Nat) : Int))], [(1000, some ⟨ciC bxT 14 (padL ((exL bxT 8 key).take (16 * j.1)) 240), 50, true⟩), (1008, some ⟨.aggB (exL bxT 8 key), 5, true⟩)], 1016⟩) (fun j => 15 - j.1) ⟨0, Nat.zero_le _⟩ (StLe.mk [(1000, 1000), (1008, 1008)] rfl rfl ⟨⟨_, rfl, by first | rfl | (simp only [AV.ren]; congr 1 <;> omega), rfl⟩, ⟨_, rfl, by first | rfl | (simp only [AV.ren]; congr 1 <;> omega), rfl⟩, ⟨_, rfl, by first | rfl | (simp only [AV.ren]; congr 1 <;> omega), rfl⟩, ⟨_, rfl, by first | rfl | (simp only [AV.ren]; congr 1 <;> omega), rfl⟩, trivial⟩ ⟨⟨_, _, rfl, rfl, ren_ci _, rfl, id, nm_ci _⟩, ⟨_, _, rfl, rfl, by first | rfl | (simp only [AV.ren]; congr 1 <;> omega), rfl, id, rfl⟩, trivial⟩) ?_
 rintro ⟨j, hj⟩
 dsimp only
 have hx : (exL bxT 8 key).length = 16 * 15 := length_exL bxT 8 key hkey
 have hks : (padL ((exL bxT 8 key).take (16 * j)) 240).length = 240 := length_padL _ _ (by rw [List.length_take]; omega)
 refine .seq ?_
 refine .region ?_
 refine .q (op_cmpI rfl rfl rfl) trivial rfl ?_
 refine .nil ?_
 show Ev _ _ _ _ _
 refine .seq ?_
 refine .cond rfl (fun hc44 => ?_) (fun hc44 => ?_)
 ·simp only [decide_eq_true_eq] at hc44
  refine .skip ?_
  show Ev _ _ _ _ _
  refine .seq ?_
  refine .block ?_
  refine .seq ?_
  refine .region ?_
  refine .q (op_move rfl) trivial rfl ?_
  refine .q (op_assign rfl) trivial rfl ?_
  refine .nil ?_
  show Ev _ _ _ _ _
  refine .drawn [[], [], [0], [0, 2], [0, 1, 2, 3], [0, 1, 2, 3, 4], [], [], [7], [6, 7, 8], [0, 1, 2, 3, 4, 5, 6, 7, 8, 9]] [5, 10] [10] (by kernel_rfl) (by kernel_rfl) rfl ?_
  show DK _ [0, 1, 2, 3, 4, 5, 6, 7, 8, 9, 10] _ _ _
  refine .q rfl (op_move rfl) trivial ?_
  refine .q rfl (op_move rfl) trivial ?_
  refine .q rfl (op_nilCheck rfl) trivial ?_
  refine .q rfl (op_fieldAddr (m := 239) Tryd.underlying50 rfl (by kernel_rfl) rfl) trivial ?_
  refine .as (.ptr 1000 513) rfl ?_
  refine .q rfl (op_indexAddr_arr (i := j) Tryd.underlying48 sz25 rfl rfl rfl (by omega)) trivial ?_
  refine .q rfl (op_slice_arr (l := 0) (h := 16) Tryd.underlying25 inf5.sz rfl rfl (by rw [ci_len length_bxT, hks]; omega) (by decide) rfl rfl (by decide) (by decide)) trivial ?_
  refine .q rfl (op_move rfl) trivial ?_
  refine .q rfl (op_move rfl) trivial ?_
  refine .q rfl (op_mulI rfl rfl ⟨by omega, by omega⟩) trivial ?_
  refine .q rfl (op_slice_sl Tryd.underlying34 inf5.sz rfl (bnd_some rfl (l := 16 * j) (by omega)) rfl (by omega) (by omega)) trivial ?_
  refine .a rfl (op_copy (q := 16) (c' := ciC bxT 14 (padL ((exL bxT 8 key).take (16 * (j + 1))) 240)) Tryd.underlying34 inf5.sz rfl rfl rfl (srcs_sl rfl rfl (by rw [AV.len, hx]; omega)) (by rw [ci_len length_bxT, hks]; omega) (by omega) (copy_ci bxT (exL bxT 8 key) 14 j (16 * 15 - 16 * j) length_bxT (by omega) (by omega) (by omega))) trivial rfl rfl ?_
  refine .nil ?_
  show Ev _ _ _ _ _
  refine .region ?_
  refine .q (op_addI rfl rfl ⟨by omega, by omega⟩) trivial rfl ?_
  refine .q (op_move rfl) trivial rfl ?_
  refine .nil ?_
  exact ⟨⟨j + 1, by omega⟩, by show 15 - (j + 1) < 15 - j; omega, StLe.mk [(1000, 1000), (1008, 1008)] rfl rfl ⟨⟨_, rfl, by first | rfl | (simp only [AV.ren]; congr 1 <;> omega), rfl⟩, ⟨_, rfl, by first | rfl | (simp only [AV.ren]; congr 1 <;> omega), rfl⟩, ⟨_, rfl, by first | rfl | (simp only [AV.ren]; congr 1 <;> omega), rfl⟩, ⟨_, rfl, by first | rfl | (simp only [AV.ren]; congr 1 <;> omega), rfl⟩, trivial⟩ ⟨⟨_, _, rfl, rfl, ren_ci _, rfl, id, nm_ci _⟩, ⟨_, _, rfl, rfl, by first | rfl | (simp only [AV.ren]; congr 1 <;> omega), rfl, id, rfl⟩, trivial⟩⟩
 ·simp only [decide_eq_false_iff_not] at hc44
  refine .exit ?_
  show Ev _ _ _ _ _
  have ej : j = 15 := by omega
  subst ej
  refine Ev.weak (st2 := ⟨[(5, .ptr 1000 0), (6, .sl 1008 0 (16 * 15) 1), (42, .i64 15), (43, .i64 (((15) : Nat) : Int))], [(1000, some ⟨ciC bxT 14 (padL ((exL bxT 8 key).take (16 * (15))) 240), 50, true⟩), (1008, some ⟨.aggB (exL bxT 8 key), 5, true⟩)], 1016⟩) (StLe.mk [(1000, 1000), (1008, 1008)] rfl rfl ⟨⟨_, rfl, by first | (simp only [AV.ren]; done) | (simp only [AV.ren]; rw [ej]; done) | rfl, rfl⟩, ⟨_, rfl, by first | (simp only [AV.ren]; done) | (simp only [AV.ren]; rw [ej]; done) | rfl, rfl⟩, ⟨_, rfl, by first | (simp only [AV.ren]; done) | (simp only [AV.ren]; rw [ej]; done) | rfl, rfl⟩, ⟨_, rfl, by first | (simp only [AV.ren]; done) | (simp only [AV.ren]; rw [ej]; done) | rfl, rfl⟩, trivial⟩ ⟨⟨_, _, rfl, rfl, ren_ci _, rfl, id, nm_ci _⟩, ⟨_, _, rfl, rfl, rfl, rfl, id, rfl⟩, trivial⟩) ?_
  refine .seq ?_
  refine .region ?_
  refine .q (op_move rfl) trivial rfl ?_
  refine .q (op_assign rfl) trivial rfl ?_
  refine .q (op_assign rfl) trivial rfl ?_
  refine .nil ?_
  show Ev _ _ _ _ _
  refine .ret ?_
  show RetOk _ _ _ _ _ _ _
  exact ret2v rfl (.inl rfl) rfl rfl rfl rfl ⟨by rw [List.take_of_length_le (by omega)]; rfl, trivial⟩
end Go.Proofs.YtdpdmgbdipokdaaDoor
