/-
  Texts of this claim.
-/
import Derived.Test.YtcnjekoidgefpaaGreatDoorGS6P
import Derived.Test.YtcnjekoidgefpaaGreatDoorGSP
import Derived.Test.YtcnjekoidgefpaaGreatDoorGS3P
namespace Go.Proofs.YtcnjekoidgefpaaGreatDoor
open Go.RowKit
theorem length_K512 : K512.length = 80 := rfl
set_option maxRecDepth 100000 in
theorem step_ev (s : St64) (e0 e1 kw : UInt64) (e : Nat) : Meets Tryz.prog 107 [.ptr 500 0, .u64 e0, .u64 e1, .u64 kw] [(500, some ⟨.agg64 (stl s), e, true⟩)] (.tup []) [(500, some ⟨.agg64 (stl (stepSt64 s e0 e1 kw)), e, true⟩)] := by
 refine meets_of_ev (nt := 95) Tryz.func107 rfl rfl (Nat.le_of_ble_eq_true rfl) ?_
 refine .seq ?_
 refine .drawn [[], [0], [0, 1], [0, 1, 2], [], [4], [4, 5], [4, 5, 6], [0, 1, 2, 3, 4, 5, 6, 7], [], [9], [9, 10], [9, 10, 11], [9, 10, 11, 12], [], [14], [14, 15], [14, 15, 16], [9, 10, 11, 12, 13, 14, 15, 16, 17], [0, 1, 2, 3, 4, 5, 6, 7, 8, 9, 10, 11, 12, 13, 14, 15, 16, 17, 18], [0, 1, 2, 3, 4, 5, 6, 7, 8, 9, 10, 11, 12, 13, 14, 15, 16, 17, 18, 19]] [3, 7, 12, 17] [] (by kernel_rfl) (by kernel_rfl) rfl ?_
 show DK _ [0, 1, 2, 3, 4, 5, 6, 7, 8, 9, 10, 11, 12, 13, 14, 15, 16, 17, 18, 19, 20] _ _ _
 refine .q rfl (op_move rfl) trivial ?_
 refine .q rfl (op_nilCheck rfl) trivial ?_
 refine .q rfl (ap_idx_arr Tryz.underlying86 inf52.sz rfl rfl rfl (by decide)) trivial ?_
 refine .q rfl (op_load Tryz.underlying52 rfl rfl rfl rfl (Nat.le_of_ble_eq_true rfl)) trivial ?_
 refine .q rfl (op_move rfl) trivial ?_
 refine .q rfl (op_nilCheck rfl) trivial ?_
 refine .q rfl (ap_idx_arr Tryz.underlying86 inf52.sz rfl rfl rfl (by decide)) trivial ?_
 refine .q rfl (op_load Tryz.underlying52 rfl rfl rfl rfl (Nat.le_of_ble_eq_true rfl)) trivial ?_
 refine .q rfl (op_bin64 rfl rfl rfl) trivial ?_
 refine .q rfl (op_move rfl) trivial ?_
 refine .q rfl (op_nilCheck rfl) trivial ?_
 refine .q rfl (ap_idx_arr Tryz.underlying86 inf52.sz rfl rfl rfl (by decide)) trivial ?_
 refine .q rfl (op_load Tryz.underlying52 rfl rfl rfl rfl (Nat.le_of_ble_eq_true rfl)) trivial ?_
 refine .q rfl (op_not64 rfl) trivial ?_
 refine .q rfl (op_move rfl) trivial ?_
 refine .q rfl (op_nilCheck rfl) trivial ?_
 refine .q rfl (ap_idx_arr Tryz.underlying86 inf52.sz rfl rfl rfl (by decide)) trivial ?_
 refine .q rfl (op_load Tryz.underlying52 rfl rfl rfl rfl (Nat.le_of_ble_eq_true rfl)) trivial ?_
 refine .q rfl (op_bin64 rfl rfl rfl) trivial ?_
 refine .q rfl (op_bin64 rfl rfl rfl) trivial ?_
 refine .q rfl (op_assign rfl) trivial ?_
 refine .as (.u64 (ch64 s.v4 s.v5 s.v6)) rfl ?_
 refine .nil ?_
 show Ev _ _ _ _ _
 refine .seq ?_
 refine .drawn [[], [0], [0, 1], [0, 1, 2], [], [4], [4, 5], [4, 5, 6], [0, 1, 2, 3, 4, 5, 6, 7], [], [9], [9, 10], [9, 10, 11], [], [13], [13, 14], [13, 14, 15], [9, 10, 11, 12, 13, 14, 15, 16], [0, 1, 2, 3, 4, 5, 6, 7, 8, 9, 10, 11, 12, 13, 14, 15, 16, 17], [], [19], [19, 20], [19, 20, 21], [], [23], [23, 24], [23, 24, 25], [19, 20, 21, 22, 23, 24, 25, 26], [0, 1, 2, 3, 4, 5, 6, 7, 8, 9, 10, 11, 12, 13, 14, 15, 16, 17, 18, 19, 20, 21, 22, 23, 24, 25, 26, 27], [0, 1, 2, 3, 4, 5, 6, 7, 8, 9, 10, 11, 12, 13, 14, 15, 16, 17, 18, 19, 20, 21, 22, 23, 24, 25, 26, 27, 28]] [3, 7, 12, 16, 22, 26] [] (by kernel_rfl) (by kernel_rfl) rfl ?_
 show DK _ [0, 1, 2, 3, 4, 5, 6, 7, 8, 9, 10, 11, 12, 13, 14, 15, 16, 17, 18, 19, 20, 21, 22, 23, 24, 25, 26, 27, 28, 29] _ _ _
 refine .q rfl (op_move rfl) trivial ?_
 refine .q rfl (op_nilCheck rfl) trivial ?_
 refine .q rfl (ap_idx_arr Tryz.underlying86 inf52.sz rfl rfl rfl (by decide)) trivial ?_
 refine .q rfl (op_load Tryz.underlying52 rfl rfl rfl rfl (Nat.le_of_ble_eq_true rfl)) trivial ?_
 refine .q rfl (op_move rfl) trivial ?_
 refine .q rfl (op_nilCheck rfl) trivial ?_
 refine .q rfl (ap_idx_arr Tryz.underlying86 inf52.sz rfl rfl rfl (by decide)) trivial ?_
 refine .q rfl (op_load Tryz.underlying52 rfl rfl rfl rfl (Nat.le_of_ble_eq_true rfl)) trivial ?_
 refine .q rfl (op_bin64 rfl rfl rfl) trivial ?_
 refine .q rfl (op_move rfl) trivial ?_
 refine .q rfl (op_nilCheck rfl) trivial ?_
 refine .q rfl (ap_idx_arr Tryz.underlying86 inf52.sz rfl rfl rfl (by decide)) trivial ?_
 refine .q rfl (op_load Tryz.underlying52 rfl rfl rfl rfl (Nat.le_of_ble_eq_true rfl)) trivial ?_
 refine .q rfl (op_move rfl) trivial ?_
 refine .q rfl (op_nilCheck rfl) trivial ?_
 refine .q rfl (ap_idx_arr Tryz.underlying86 inf52.sz rfl rfl rfl (by decide)) trivial ?_
 refine .q rfl (op_load Tryz.underlying52 rfl rfl rfl rfl (Nat.le_of_ble_eq_true rfl)) trivial ?_
 refine .q rfl (op_bin64 rfl rfl rfl) trivial ?_
 refine .q rfl (op_bin64 rfl rfl rfl) trivial ?_
 refine .q rfl (op_move rfl) trivial ?_
 refine .q rfl (op_nilCheck rfl) trivial ?_
 refine .q rfl (ap_idx_arr Tryz.underlying86 inf52.sz rfl rfl rfl (by decide)) trivial ?_
 refine .q rfl (op_load Tryz.underlying52 rfl rfl rfl rfl (Nat.le_of_ble_eq_true rfl)) trivial ?_
 refine .q rfl (op_move rfl) trivial ?_
 refine .q rfl (op_nilCheck rfl) trivial ?_
 refine .q rfl (ap_idx_arr Tryz.underlying86 inf52.sz rfl rfl rfl (by decide)) trivial ?_
 refine .q rfl (op_load Tryz.underlying52 rfl rfl rfl rfl (Nat.le_of_ble_eq_true rfl)) trivial ?_
 refine .q rfl (op_bin64 rfl rfl rfl) trivial ?_
 refine .q rfl (op_bin64 rfl rfl rfl) trivial ?_
 refine .q rfl (op_assign rfl) trivial ?_
 refine .as (.u64 (maj64 s.v0 s.v1 s.v2)) rfl ?_
 refine .nil ?_
 show Ev _ _ _ _ _
 refine .seq ?_
 refine .region ?_
 refine .q (op_move rfl) trivial rfl ?_
 refine .q (op_nilCheck rfl) trivial rfl ?_
 refine .q (ap_idx_arr Tryz.underlying86 inf52.sz rfl rfl rfl (by decide)) trivial rfl ?_
 refine .q (op_load Tryz.underlying52 rfl rfl rfl rfl (Nat.le_of_ble_eq_true rfl)) trivial rfl ?_
 refine .q (op_move rfl) trivial rfl ?_
 refine .q (op_bin64 rfl rfl rfl) trivial rfl ?_
 refine .q (op_move rfl) trivial rfl ?_
 refine .q (op_bin64 rfl rfl rfl) trivial rfl ?_
 refine .q (op_move rfl) trivial rfl ?_
 refine .q (op_bin64 rfl rfl rfl) trivial rfl ?_
 refine .q (op_assign rfl) trivial rfl ?_
 refine .as (.u64 (s.v7 + e1 + ch64 s.v4 s.v5 s.v6 + kw)) rfl ?_
 refine .nil ?_
 show Ev _ _ _ _ _
 refine .seq ?_
 refine .region ?_
 refine .q (op_move rfl) trivial rfl ?_
 refine .q (op_move rfl) trivial rfl ?_
 refine .q (op_bin64 rfl rfl rfl) trivial rfl ?_
 refine .q (op_assign rfl) trivial rfl ?_
 refine .as (.u64 (e0 + maj64 s.v0 s.v1 s.v2)) rfl ?_
 refine .nil ?_
 show Ev _ _ _ _ _
 refine .seq ?_
 refine .drawn [[], [0], [0, 1], [], [3], [3, 4], [0, 1, 2, 3, 4, 5]] [2, 5, 6] [6] (by kernel_rfl) (by kernel_rfl) rfl ?_
 show DK _ [0, 1, 2, 3, 4, 5, 6] _ _ _
 refine .q rfl (op_move rfl) trivial ?_
 refine .q rfl (op_nilCheck rfl) trivial ?_
 refine .q rfl (op_slice_arr Tryz.underlying86 inf52.sz rfl rfl (by first | decide | exact Nat.le_of_ble_eq_true rfl) (by decide) (bnd_some rfl rfl) rfl (by first | decide | exact Nat.le_of_ble_eq_true rfl) (by first | decide | exact Nat.le_of_ble_eq_true rfl)) trivial ?_
 refine .q rfl (op_move rfl) trivial ?_
 refine .q rfl (op_nilCheck rfl) trivial ?_
 refine .q rfl (ap_slice_arr_hi Tryz.underlying86 inf52.sz rfl rfl (by first | decide | exact Nat.le_of_ble_eq_true rfl) (by decide) (bnd_some rfl rfl) (by first | decide | exact Nat.le_of_ble_eq_true rfl)) trivial ?_
 refine .a rfl (op_copy (q := 7) (c' := .agg64 [s.v0, s.v0, s.v1, s.v2, s.v3, s.v4, s.v5, s.v6]) Tryz.underlying125 inf52.sz rfl rfl rfl (srcs_sl rfl rfl (by first | decide | exact Nat.le_of_ble_eq_true rfl)) (by first | decide | exact Nat.le_of_ble_eq_true rfl) (rfl) (rfl)) trivial rfl rfl ?_
 refine .nil ?_
 show Ev _ _ _ _ _
 refine .seq ?_
 refine .drawn [[], [0], [0, 1], [0, 1, 2], [], [0, 1, 2, 3, 4], [0], [0, 1, 2, 3, 4, 5, 6], [0, 1, 2, 3, 4, 5, 6, 7]] [3, 8] [8] (by kernel_rfl) (by kernel_rfl) rfl ?_
 show DK _ [0, 1, 2, 3, 4, 5, 6, 7, 8] _ _ _
 refine .q rfl (op_move rfl) trivial ?_
 refine .q rfl (op_nilCheck rfl) trivial ?_
 refine .q rfl (ap_idx_arr Tryz.underlying86 inf52.sz rfl rfl rfl (by decide)) trivial ?_
 refine .q rfl (op_load Tryz.underlying52 rfl rfl rfl rfl (Nat.le_of_ble_eq_true rfl)) trivial ?_
 refine .q rfl (op_move rfl) trivial ?_
 refine .q rfl (op_bin64 rfl rfl rfl) trivial ?_
 refine .q rfl (op_nilCheck rfl) trivial ?_
 refine .q rfl (ap_idx_arr Tryz.underlying86 inf52.sz rfl rfl rfl (by decide)) trivial ?_
 refine .w rfl (op_store inf52.sz rfl rfl rfl rfl rfl (Nat.le_of_ble_eq_true rfl)) trivial rfl rfl ?_
 refine .nil ?_
 show Ev _ _ _ _ _
 refine .region ?_
 refine .q (op_move rfl) trivial rfl ?_
 refine .q (op_move rfl) trivial rfl ?_
 refine .q (op_move rfl) trivial rfl ?_
 refine .q (op_bin64 rfl rfl rfl) trivial rfl ?_
 refine .q (op_nilCheck rfl) trivial rfl ?_
 refine .q (ap_idx_arr Tryz.underlying86 inf52.sz rfl rfl rfl (by decide)) trivial rfl ?_
 refine .w (op_store inf52.sz rfl rfl rfl rfl rfl (Nat.le_of_ble_eq_true rfl)) trivial rfl ?_
 refine .nil ?_
 show RetOk _ _ _ _ _ _ _
 exact ret0 rfl (.inr rfl) ⟨rfl, trivial⟩
set_option maxHeartbeats 1000000 in
set_option maxRecDepth 100000 in
theorem comp_ev (s : St64) (bs : List UInt8) (e e2 : Nat) (hb : bs.length = 128) : Meets Tryz.prog 61 [.agg64 (stl s), .sl 500 0 128 1] [(500, some ⟨.aggB bs, e2, false⟩), (1, some ⟨.agg64 K512, e, false⟩)] (.agg64 (stl (comp64 s bs))) [] := by
 obtain ⟨R, hR⟩ : ∃ R, sched64 (words64z bs 16) 64 = R := ⟨_, rfl⟩
 have hlR : R.length = 80 := by rw [← hR, ← sched_all, length_schN]; exact length_wdN bs 16
 refine meets_of_ev (nt := 63) Tryz.func61 rfl rfl (Nat.le_of_ble_eq_true rfl) ?_
 refine .seq ?_
 refine .region ?_
 refine .a (op_boxRow rfl rfl) trivial rfl ?_
 refine .a (op_allocRow zero86 rel_zero86 rfl) trivial rfl ?_
 refine .nil ?_
 show Ev _ _ _ _ _
 refine .seq ?_
 refine .region ?_
 refine .q (op_move rfl) trivial rfl ?_
 refine .q (op_call (U := []) [(500, 500)] [] (sched_ev bs e2 hb) Tryz.func105 (by kernel_rfl) rfl rfl rfl (⟨⟨_, rfl, rfl, rfl⟩, trivial⟩) (⟨⟨_, _, rfl, rfl, rfl, rfl, (fun h => by cases h), rfl⟩, trivial⟩) (trivial) (⟨(fun h => by cases h), trivial⟩) rfl) trivial rfl ?_
 refine .as (.agg64 R) (congrArg AV.agg64 hR) ?_
 refine .a (op_allocRow zero118 rel_zero118 rfl) trivial rfl ?_
 refine .w (op_storeRow sz118 rfl rfl rfl rfl rfl (by first | exact hlR | exact List.length_replicate) (by first | exact hlR | exact List.length_replicate)) trivial rfl ?_
 refine .nil ?_
 show Ev _ _ _ _ _
 refine .seq ?_
 refine .region ?_
 refine .q (op_loadRow Tryz.underlying86 rfl sz86 rfl rfl rfl (rfl)) trivial rfl ?_
 refine .a (op_allocRow zero86 rel_zero86 rfl) trivial rfl ?_
 refine .w (op_storeRow sz86 rfl rfl rfl rfl rfl (rfl) (rfl)) trivial rfl ?_
 refine .nil ?_
 show Ev _ _ _ _ _
 refine .seq ?_
 refine .seq ?_
 refine .region ?_
 refine .q (op_move rfl) trivial rfl ?_
 refine .nil ?_
 show Ev _ _ _ _ _
 refine .block ?_
 refine Ev.loop (ι := { j : Nat // j ≤ 80 }) (fun j => ⟨[(2, .ptr 1000 0), (4, .ptr 1008 0), (5, .ptr 1016 0), (6, .ptr 1024 0), (14, .i64 ((j.1 : Nat) : Int))], [(1000, some ⟨.agg64 (stl s), 86, true⟩), (1008, some ⟨.agg64 (List.replicate 8 0), 86, true⟩), (1016, some ⟨.agg64 R, 118, true⟩), (1024, some ⟨.agg64 (stl (rounds64 R s j.1)), 86, true⟩), (500, some ⟨.aggB bs, e2, false⟩), (1, some ⟨.agg64 K512, e, false⟩)], 1032⟩) (fun j => 80 - j.1) ⟨0, Nat.zero_le _⟩ (StLe.mk [(1000, 1000), (1008, 1008), (1016, 1016), (1024, 1024)] rfl rfl ⟨⟨_, rfl, by first | rfl | (simp only [AV.ren]; congr 1; omega), rfl⟩, ⟨_, rfl, by first | rfl | (simp only [AV.ren]; congr 1; omega), rfl⟩, ⟨_, rfl, by first | rfl | (simp only [AV.ren]; congr 1; omega), rfl⟩, ⟨_, rfl, by first | rfl | (simp only [AV.ren]; congr 1; omega), rfl⟩, ⟨_, rfl, by first | rfl | (simp only [AV.ren]; congr 1; omega), rfl⟩, trivial⟩ ⟨⟨_, _, rfl, rfl, by first | rfl | (simp only [AV.ren]; congr 1; omega), rfl, id, rfl⟩, ⟨_, _, rfl, rfl, by first | rfl | (simp only [AV.ren]; congr 1; omega), rfl, id, rfl⟩, ⟨_, _, rfl, rfl, by first | rfl | (simp only [AV.ren]; congr 1; omega), rfl, id, rfl⟩, ⟨_, _, rfl, rfl, by first | rfl | (simp only [AV.ren]; congr 1; omega), rfl, id, rfl⟩, ⟨_, _, rfl, rfl, by first | rfl | (simp only [AV.ren]; congr 1; omega), rfl, id, rfl⟩, ⟨_, _, rfl, rfl, by first | rfl | (simp only [AV.ren]; congr 1; omega), rfl, id, rfl⟩, trivial⟩) ?_
 rintro ⟨j, hj⟩
 dsimp only
 have hk80 := length_K512
 refine .seq ?_
 refine .region ?_
 refine .q (op_cmpI rfl rfl rfl) trivial rfl ?_
 refine .nil ?_
 show Ev _ _ _ _ _
 refine .seq ?_
 refine .cond rfl (fun hc15 => ?_) (fun hc15 => ?_)
 ·simp only [decide_eq_true_eq] at hc15
  refine .skip ?_
  show Ev _ _ _ _ _
  refine .seq ?_
  refine .block ?_
  refine .seq ?_
  refine .region ?_
  refine .q (op_move rfl) trivial rfl ?_
  refine .q (op_assign rfl) trivial rfl ?_
  refine .nil ?_
  show Ev _ _ _ _ _
  refine .seq ?_
  refine .drawn [[], [0], [0, 1], [], [3], [0, 1, 2, 3, 4], [0, 1, 2, 3, 4, 5], [], [7], [0, 1, 2, 3, 4, 5, 7, 8], [0, 1, 2, 3, 4, 5, 6, 7, 8, 9], [0, 1, 2, 3, 4, 5, 6, 7, 8, 9, 10]] [1, 2, 4, 5, 8, 9] [] (by kernel_rfl) (by kernel_rfl) rfl ?_
  show DK _ [0, 1, 2, 3, 4, 5, 6, 7, 8, 9, 10, 11] _ _ _
  refine .q rfl (ap_idx_arr Tryz.underlying86 inf52.sz rfl rfl rfl (by decide)) trivial ?_
  refine .q rfl (op_load Tryz.underlying52 rfl rfl rfl rfl (Nat.le_of_ble_eq_true rfl)) trivial ?_
  refine .q rfl (op_call (U := []) [] [] (rot_ev _ 28 (by decide) (by decide)) Tryz.func106 (by kernel_rfl) rfl rfl rfl (⟨⟨_, rfl, rfl, rfl⟩, ⟨_, rfl, rfl, rfl⟩, trivial⟩) (trivial) (trivial) (trivial) rfl) trivial ?_
  refine .q rfl (ap_idx_arr Tryz.underlying86 inf52.sz rfl rfl rfl (by decide)) trivial ?_
  refine .q rfl (op_load Tryz.underlying52 rfl rfl rfl rfl (Nat.le_of_ble_eq_true rfl)) trivial ?_
  refine .q rfl (op_call (U := []) [] [] (rot_ev _ 34 (by decide) (by decide)) Tryz.func106 (by kernel_rfl) rfl rfl rfl (⟨⟨_, rfl, rfl, rfl⟩, ⟨_, rfl, rfl, rfl⟩, trivial⟩) (trivial) (trivial) (trivial) rfl) trivial ?_
  refine .q rfl (op_bin64 rfl rfl rfl) trivial ?_
  refine .q rfl (ap_idx_arr Tryz.underlying86 inf52.sz rfl rfl rfl (by decide)) trivial ?_
  refine .q rfl (op_load Tryz.underlying52 rfl rfl rfl rfl (Nat.le_of_ble_eq_true rfl)) trivial ?_
  refine .q rfl (op_call (U := []) [] [] (rot_ev _ 39 (by decide) (by decide)) Tryz.func106 (by kernel_rfl) rfl rfl rfl (⟨⟨_, rfl, rfl, rfl⟩, ⟨_, rfl, rfl, rfl⟩, trivial⟩) (trivial) (trivial) (trivial) rfl) trivial ?_
  refine .q rfl (op_bin64 rfl rfl rfl) trivial ?_
  refine .q rfl (op_assign rfl) trivial ?_
  refine .as (.u64 (bigE0_64 (rounds64 R s j).v0)) rfl ?_
  refine .nil ?_
  show Ev _ _ _ _ _
  refine .seq ?_
  refine .drawn [[], [0], [0, 1], [], [3], [0, 1, 2, 3, 4], [0, 1, 2, 3, 4, 5], [], [7], [0, 1, 2, 3, 4, 5, 7, 8], [0, 1, 2, 3, 4, 5, 6, 7, 8, 9], [0, 1, 2, 3, 4, 5, 6, 7, 8, 9, 10]] [1, 2, 4, 5, 8, 9] [] (by kernel_rfl) (by kernel_rfl) rfl ?_
  show DK _ [0, 1, 2, 3, 4, 5, 6, 7, 8, 9, 10, 11] _ _ _
  refine .q rfl (ap_idx_arr Tryz.underlying86 inf52.sz rfl rfl rfl (by decide)) trivial ?_
  refine .q rfl (op_load Tryz.underlying52 rfl rfl rfl rfl (Nat.le_of_ble_eq_true rfl)) trivial ?_
  refine .q rfl (op_call (U := []) [] [] (rot_ev _ 14 (by decide) (by decide)) Tryz.func106 (by kernel_rfl) rfl rfl rfl (⟨⟨_, rfl, rfl, rfl⟩, ⟨_, rfl, rfl, rfl⟩, trivial⟩) (trivial) (trivial) (trivial) rfl) trivial ?_
  refine .q rfl (ap_idx_arr Tryz.underlying86 inf52.sz rfl rfl rfl (by decide)) trivial ?_
  refine .q rfl (op_load Tryz.underlying52 rfl rfl rfl rfl (Nat.le_of_ble_eq_true rfl)) trivial ?_
  refine .q rfl (op_call (U := []) [] [] (rot_ev _ 18 (by decide) (by decide)) Tryz.func106 (by kernel_rfl) rfl rfl rfl (⟨⟨_, rfl, rfl, rfl⟩, ⟨_, rfl, rfl, rfl⟩, trivial⟩) (trivial) (trivial) (trivial) rfl) trivial ?_
  refine .q rfl (op_bin64 rfl rfl rfl) trivial ?_
  refine .q rfl (ap_idx_arr Tryz.underlying86 inf52.sz rfl rfl rfl (by decide)) trivial ?_
  refine .q rfl (op_load Tryz.underlying52 rfl rfl rfl rfl (Nat.le_of_ble_eq_true rfl)) trivial ?_
  refine .q rfl (op_call (U := []) [] [] (rot_ev _ 41 (by decide) (by decide)) Tryz.func106 (by kernel_rfl) rfl rfl rfl (⟨⟨_, rfl, rfl, rfl⟩, ⟨_, rfl, rfl, rfl⟩, trivial⟩) (trivial) (trivial) (trivial) rfl) trivial ?_
  refine .q rfl (op_bin64 rfl rfl rfl) trivial ?_
  refine .q rfl (op_assign rfl) trivial ?_
  refine .as (.u64 (bigE1_64 (rounds64 R s j).v4)) rfl ?_
  refine .nil ?_
  show Ev _ _ _ _ _
  refine .drawn [[], [], [], [2], [2, 3], [], [5], [5, 6], [2, 3, 4, 5, 6, 7], [0, 1, 2, 3, 4, 5, 6, 7, 8]] [4, 7, 9] [9] (by kernel_rfl) (by kernel_rfl) rfl ?_
  show DK _ [0, 1, 2, 3, 4, 5, 6, 7, 8, 9] _ _ _
  refine .q rfl (op_move rfl) trivial ?_
  refine .q rfl (op_move rfl) trivial ?_
  refine .q rfl (op_move rfl) trivial ?_
  refine .q rfl (ap_idx_arr Tryz.underlying118 inf52.sz rfl rfl rfl (by omega)) trivial ?_
  refine .q rfl (op_load Tryz.underlying52 rfl rfl rfl rfl (by show j < K512.length; omega)) trivial ?_
  refine .q rfl (op_move rfl) trivial ?_
  refine .q rfl (ap_idx_arr Tryz.underlying118 inf52.sz rfl rfl rfl (by omega)) trivial ?_
  refine .q rfl (op_load Tryz.underlying52 rfl rfl rfl rfl (by show j < R.length; omega)) trivial ?_
  refine .q rfl (op_bin64 rfl rfl rfl) trivial ?_
  refine .a rfl (op_call (U := [(1024, some ⟨.agg64 (stl (rounds64 R s (j + 1))), 86, true⟩)]) [(500, 1024)] [] (step_ev (rounds64 R s j) (bigE0_64 (rounds64 R s j).v0) (bigE1_64 (rounds64 R s j).v4) (K512.getD j 0 + R.getD j 0) 86) Tryz.func107 (by kernel_rfl) rfl rfl rfl (⟨⟨_, rfl, rfl, rfl⟩, ⟨_, rfl, rfl, rfl⟩, ⟨_, rfl, rfl, rfl⟩, ⟨_, rfl, rfl, rfl⟩, trivial⟩) (⟨⟨_, _, rfl, rfl, rfl, rfl, id, rfl⟩, trivial⟩) (⟨⟨500, _, rfl, rfl, rfl, rfl, .inr ⟨rfl, _, rfl, rfl⟩⟩, trivial⟩) (⟨(fun _ => ⟨1024, _, rfl, rfl⟩), trivial⟩) rfl) trivial rfl rfl ?_
  refine .nil ?_
  show Ev _ _ _ _ _
  refine .region ?_
  refine .q (op_addI rfl rfl ⟨by omega, by omega⟩) trivial rfl ?_
  refine .q (op_move rfl) trivial rfl ?_
  refine .nil ?_
  exact ⟨⟨j + 1, by omega⟩, by show 80 - (j + 1) < 80 - j; omega, StLe.mk [(1000, 1000), (1008, 1008), (1016, 1016), (1024, 1024)] rfl rfl ⟨⟨_, rfl, by first | rfl | (simp only [AV.ren]; congr 1; omega), rfl⟩, ⟨_, rfl, by first | rfl | (simp only [AV.ren]; congr 1; omega), rfl⟩, ⟨_, rfl, by first | rfl | (simp only [AV.ren]; congr 1; omega), rfl⟩, ⟨_, rfl, by first | rfl | (simp only [AV.ren]; congr 1; omega), rfl⟩, ⟨_, rfl, by first | rfl | (simp only [AV.ren]; congr 1; omega), rfl⟩, trivial⟩ ⟨⟨_, _, rfl, rfl, by first | rfl | (simp only [AV.ren]; congr 1; omega), rfl, id, rfl⟩, ⟨_, _, rfl, rfl, by first | rfl | (simp only [AV.ren]; congr 1; omega), rfl, id, rfl⟩, ⟨_, _, rfl, rfl, by first | rfl | (simp only [AV.ren]; congr 1; omega), rfl, id, rfl⟩, ⟨_, _, rfl, rfl, by first | rfl | (simp only [AV.ren]; congr 1; omega), rfl, id, rfl⟩, ⟨_, _, rfl, rfl, by first | rfl | (simp only [AV.ren]; congr 1; omega), rfl, id, rfl⟩, ⟨_, _, rfl, rfl, by first | rfl | (simp only [AV.ren]; congr 1; omega), rfl, id, rfl⟩, trivial⟩⟩
 ·simp only [decide_eq_false_iff_not] at hc15
  refine .exit ?_
  show Ev _ _ _ _ _
  have ej : j = 80 := by omega
  refine Ev.weak (st2 := ⟨[(2, .ptr 1000 0), (4, .ptr 1008 0), (5, .ptr 1016 0), (6, .ptr 1024 0), (14, .i64 (((80) : Nat) : Int))], [(1000, some ⟨.agg64 (stl s), 86, true⟩), (1008, some ⟨.agg64 (List.replicate 8 0), 86, true⟩), (1016, some ⟨.agg64 R, 118, true⟩), (1024, some ⟨.agg64 (stl (rounds64 R s (80))), 86, true⟩), (500, some ⟨.aggB bs, e2, false⟩), (1, some ⟨.agg64 K512, e, false⟩)], 1032⟩) (StLe.mk [(1000, 1000), (1008, 1008), (1016, 1016), (1024, 1024)] rfl rfl ⟨⟨_, rfl, by first | (simp only [AV.ren]; done) | (simp only [AV.ren]; rw [ej]; done) | rfl, rfl⟩, ⟨_, rfl, by first | (simp only [AV.ren]; done) | (simp only [AV.ren]; rw [ej]; done) | rfl, rfl⟩, ⟨_, rfl, by first | (simp only [AV.ren]; done) | (simp only [AV.ren]; rw [ej]; done) | rfl, rfl⟩, ⟨_, rfl, by first | (simp only [AV.ren]; done) | (simp only [AV.ren]; rw [ej]; done) | rfl, rfl⟩, ⟨_, rfl, by first | (simp only [AV.ren]; done) | (simp only [AV.ren]; rw [ej]; done) | rfl, rfl⟩, trivial⟩ ⟨⟨_, _, rfl, rfl, by first | (simp only [AV.ren]; done) | (simp only [AV.ren]; rw [ej]; done) | rfl, rfl, id, rfl⟩, ⟨_, _, rfl, rfl, by first | (simp only [AV.ren]; done) | (simp only [AV.ren]; rw [ej]; done) | rfl, rfl, id, rfl⟩, ⟨_, _, rfl, rfl, by first | (simp only [AV.ren]; done) | (simp only [AV.ren]; rw [ej]; done) | rfl, rfl, id, rfl⟩, ⟨_, _, rfl, rfl, by first | (simp only [AV.ren]; done) | (simp only [AV.ren]; rw [ej]; done) | rfl, rfl, id, rfl⟩, ⟨_, _, rfl, rfl, by first | (simp only [AV.ren]; done) | (simp only [AV.ren]; rw [ej]; done) | rfl, rfl, id, rfl⟩, ⟨_, _, rfl, rfl, by first | (simp only [AV.ren]; done) | (simp only [AV.ren]; rw [ej]; done) | rfl, rfl, id, rfl⟩, trivial⟩) ?_
  refine .seq ?_
  refine .seq ?_
  refine .region ?_
  refine .q (op_move rfl) trivial rfl ?_
  refine .nil ?_
  show Ev _ _ _ _ _
  refine .block ?_
  refine Ev.loop (ι := { j : Nat // j ≤ 8 }) (fun j => ⟨[(2, .ptr 1000 0), (4, .ptr 1008 0), (5, .ptr 1016 0), (6, .ptr 1024 0), (50, .i64 ((j.1 : Nat) : Int))], [(1000, some ⟨.agg64 (adH (stl s) (stl (rounds64 R s 80)) j.1), 86, true⟩), (1008, some ⟨.agg64 (List.replicate 8 0), 86, true⟩), (1016, some ⟨.agg64 R, 118, true⟩), (1024, some ⟨.agg64 (stl (rounds64 R s 80)), 86, true⟩), (500, some ⟨.aggB bs, e2, false⟩), (1, some ⟨.agg64 K512, e, false⟩)], 1032⟩) (fun j => 8 - j.1) ⟨0, Nat.zero_le _⟩ (StLe.mk [(1000, 1000), (1008, 1008), (1016, 1016), (1024, 1024)] rfl rfl ⟨⟨_, rfl, by first | rfl | (simp only [AV.ren]; congr 1; omega), rfl⟩, ⟨_, rfl, by first | rfl | (simp only [AV.ren]; congr 1; omega), rfl⟩, ⟨_, rfl, by first | rfl | (simp only [AV.ren]; congr 1; omega), rfl⟩, ⟨_, rfl, by first | rfl | (simp only [AV.ren]; congr 1; omega), rfl⟩, ⟨_, rfl, by first | rfl | (simp only [AV.ren]; congr 1; omega), rfl⟩, trivial⟩ ⟨⟨_, _, rfl, rfl, by first | rfl | (simp only [AV.ren]; congr 1; omega), rfl, id, rfl⟩, ⟨_, _, rfl, rfl, by first | rfl | (simp only [AV.ren]; congr 1; omega), rfl, id, rfl⟩, ⟨_, _, rfl, rfl, by first | rfl | (simp only [AV.ren]; congr 1; omega), rfl, id, rfl⟩, ⟨_, _, rfl, rfl, by first | rfl | (simp only [AV.ren]; congr 1; omega), rfl, id, rfl⟩, ⟨_, _, rfl, rfl, by first | rfl | (simp only [AV.ren]; congr 1; omega), rfl, id, rfl⟩, ⟨_, _, rfl, rfl, by first | rfl | (simp only [AV.ren]; congr 1; omega), rfl, id, rfl⟩, trivial⟩) ?_
  rintro ⟨j, hj⟩
  dsimp only
  have hla : (adH (stl s) (stl (rounds64 R s 80)) j).length = 8 := length_adH _ _ j
  have hls : ∀ q, (stl q).length = 8 := fun _ => rfl
  refine .seq ?_
  refine .region ?_
  refine .q (op_cmpI rfl rfl rfl) trivial rfl ?_
  refine .nil ?_
  show Ev _ _ _ _ _
  refine .seq ?_
  refine .cond rfl (fun hc51 => ?_) (fun hc51 => ?_)
  ·simp only [decide_eq_true_eq] at hc51
   refine .skip ?_
   show Ev _ _ _ _ _
   refine .seq ?_
   refine .block ?_
   refine .seq ?_
   refine .region ?_
   refine .q (op_move rfl) trivial rfl ?_
   refine .q (op_assign rfl) trivial rfl ?_
   refine .nil ?_
   show Ev _ _ _ _ _
   refine .drawn [[], [0], [0, 1], [], [3], [3, 4], [0, 1, 2, 3, 4, 5], [0, 1, 2, 3, 4, 5, 6], [0, 1, 2, 3, 4, 5, 6, 7]] [2, 5, 8] [8] (by kernel_rfl) (by kernel_rfl) rfl ?_
   show DK _ [0, 1, 2, 3, 4, 5, 6, 7, 8] _ _ _
   refine .q rfl (op_move rfl) trivial ?_
   refine .q rfl (ap_idx_arr Tryz.underlying86 inf52.sz rfl rfl rfl (by omega)) trivial ?_
   refine .q rfl (op_load Tryz.underlying52 rfl rfl rfl rfl (by show _ < (adH (stl s) (stl (rounds64 R s 80)) j).length; omega)) trivial ?_
   refine .q rfl (op_move rfl) trivial ?_
   refine .q rfl (ap_idx_arr Tryz.underlying86 inf52.sz rfl rfl rfl (by omega)) trivial ?_
   refine .q rfl (op_load Tryz.underlying52 rfl rfl rfl rfl (by show j < 8; omega)) trivial ?_
   refine .q rfl (op_bin64 rfl rfl rfl) trivial ?_
   refine .q rfl (ap_idx_arr Tryz.underlying86 inf52.sz rfl rfl rfl (by omega)) trivial ?_
   refine .w rfl (op_store inf52.sz rfl rfl rfl rfl rfl (by show _ < (adH (stl s) (stl (rounds64 R s 80)) j).length; omega)) trivial rfl rfl ?_
   refine .nil ?_
   show Ev _ _ _ _ _
   refine .region ?_
   refine .q (op_addI rfl rfl ⟨by omega, by omega⟩) trivial rfl ?_
   refine .q (op_move rfl) trivial rfl ?_
   refine .nil ?_
   exact ⟨⟨j + 1, by omega⟩, by show 8 - (j + 1) < 8 - j; omega, StLe.mk [(1000, 1000), (1008, 1008), (1016, 1016), (1024, 1024)] rfl rfl ⟨⟨_, rfl, by first | rfl | (simp only [AV.ren]; congr 1; omega), rfl⟩, ⟨_, rfl, by first | rfl | (simp only [AV.ren]; congr 1; omega), rfl⟩, ⟨_, rfl, by first | rfl | (simp only [AV.ren]; congr 1; omega), rfl⟩, ⟨_, rfl, by first | rfl | (simp only [AV.ren]; congr 1; omega), rfl⟩, ⟨_, rfl, by first | rfl | (simp only [AV.ren]; congr 1; omega), rfl⟩, trivial⟩ ⟨⟨_, _, rfl, rfl, by first | rfl | (simp only [AV.ren]; congr 1; omega), rfl, id, rfl⟩, ⟨_, _, rfl, rfl, by first | rfl | (simp only [AV.ren]; congr 1; omega), rfl, id, rfl⟩, ⟨_, _, rfl, rfl, by first | rfl | (simp only [AV.ren]; congr 1; omega), rfl, id, rfl⟩, ⟨_, _, rfl, rfl, by first | rfl | (simp only [AV.ren]; congr 1; omega), rfl, id, rfl⟩, ⟨_, _, rfl, rfl, by first | rfl | (simp only [AV.ren]; congr 1; omega), rfl, id, rfl⟩, ⟨_, _, rfl, rfl, by first | rfl | (simp only [AV.ren]; congr 1; omega), rfl, id, rfl⟩, trivial⟩⟩
  ·simp only [decide_eq_false_iff_not] at hc51
   refine .exit ?_
   show Ev _ _ _ _ _
   have ej : j = 8 := by omega
   refine Ev.weak (st2 := ⟨[(2, .ptr 1000 0), (4, .ptr 1008 0), (5, .ptr 1016 0), (6, .ptr 1024 0), (50, .i64 (((8) : Nat) : Int))], [(1000, some ⟨.agg64 (adH (stl s) (stl (rounds64 R s 80)) (8)), 86, true⟩), (1008, some ⟨.agg64 (List.replicate 8 0), 86, true⟩), (1016, some ⟨.agg64 R, 118, true⟩), (1024, some ⟨.agg64 (stl (rounds64 R s 80)), 86, true⟩), (500, some ⟨.aggB bs, e2, false⟩), (1, some ⟨.agg64 K512, e, false⟩)], 1032⟩) (StLe.mk [(1000, 1000), (1008, 1008), (1016, 1016), (1024, 1024)] rfl rfl ⟨⟨_, rfl, by first | (simp only [AV.ren]; done) | (simp only [AV.ren]; rw [ej]; done) | rfl, rfl⟩, ⟨_, rfl, by first | (simp only [AV.ren]; done) | (simp only [AV.ren]; rw [ej]; done) | rfl, rfl⟩, ⟨_, rfl, by first | (simp only [AV.ren]; done) | (simp only [AV.ren]; rw [ej]; done) | rfl, rfl⟩, ⟨_, rfl, by first | (simp only [AV.ren]; done) | (simp only [AV.ren]; rw [ej]; done) | rfl, rfl⟩, ⟨_, rfl, by first | (simp only [AV.ren]; done) | (simp only [AV.ren]; rw [ej]; done) | rfl, rfl⟩, trivial⟩ ⟨⟨_, _, rfl, rfl, by first | (simp only [AV.ren]; done) | (simp only [AV.ren]; rw [ej]; done) | rfl, rfl, id, rfl⟩, ⟨_, _, rfl, rfl, by first | (simp only [AV.ren]; done) | (simp only [AV.ren]; rw [ej]; done) | rfl, rfl, id, rfl⟩, ⟨_, _, rfl, rfl, by first | (simp only [AV.ren]; done) | (simp only [AV.ren]; rw [ej]; done) | rfl, rfl, id, rfl⟩, ⟨_, _, rfl, rfl, by first | (simp only [AV.ren]; done) | (simp only [AV.ren]; rw [ej]; done) | rfl, rfl, id, rfl⟩, ⟨_, _, rfl, rfl, by first | (simp only [AV.ren]; done) | (simp only [AV.ren]; rw [ej]; done) | rfl, rfl, id, rfl⟩, ⟨_, _, rfl, rfl, by first | (simp only [AV.ren]; done) | (simp only [AV.ren]; rw [ej]; done) | rfl, rfl, id, rfl⟩, trivial⟩) ?_
   refine .seq ?_
   refine .region ?_
   refine .q (op_loadRow Tryz.underlying86 rfl sz86 rfl rfl rfl (length_adH _ _ 8)) trivial rfl ?_
   refine .as (.agg64 (stl (comp64 s bs))) (congrArg AV.agg64 (by rw [adH_stl, ← hR]; rfl)) ?_
   refine .w (op_storeRow sz86 rfl rfl rfl rfl rfl (rfl) (rfl)) trivial rfl ?_
   refine .nil ?_
   show Ev _ _ _ _ _
   refine .ret ?_
   show RetOk _ _ _ _ _ _ _
   exact retc1 rfl (.inl rfl) ⟨_, _, _, _, rfl, rfl, rfl, rfl, (rfl), Tryz.underlying86, rfl, sz86⟩ trivial
set_option maxRecDepth 100000 in
theorem clo512_ev (s : St64) (bs : List UInt8) (e e2 e3 : Nat) (hb : bs.length = 128) : Meets Tryz.prog 60 [.sl 500 0 128 1, .ptr 501 0] [(500, some ⟨.aggB bs, e2, false⟩), (501, some ⟨.agg64 (stl s), e3, true⟩), (1, some ⟨.agg64 K512, e, false⟩)] (.tup []) [(501, some ⟨.agg64 (stl (comp64 s bs)), e3, true⟩)] := by
 refine meets_of_ev (nt := 6) Tryz.func60 rfl rfl (Nat.le_of_ble_eq_true rfl) ?_
 refine .region ?_
 refine .q (op_loadRow Tryz.underlying86 rfl sz86 rfl rfl rfl (rfl)) trivial rfl ?_
 refine .q (op_move rfl) trivial rfl ?_
 refine .q (op_call (U := []) [(500, 500)] [] (comp_ev s bs e e2 hb) Tryz.func61 (by kernel_rfl) rfl rfl rfl (⟨⟨_, rfl, rfl, rfl⟩, ⟨_, rfl, rfl, rfl⟩, trivial⟩) (⟨⟨_, _, rfl, rfl, rfl, rfl, (fun h => by cases h), rfl⟩, ⟨_, _, rfl, rfl, rfl, rfl, id, rfl⟩, trivial⟩) (trivial) (⟨(fun h => by cases h), (fun h => by cases h), trivial⟩) rfl) trivial rfl ?_
 refine .w (op_storeRow sz86 rfl rfl rfl rfl rfl (rfl) (rfl)) trivial rfl ?_
 refine .nil ?_
 show RetOk _ _ _ _ _ _ _
 exact ret0 rfl (.inr rfl) ⟨rfl, trivial⟩
end Go.Proofs.YtcnjekoidgefpaaGreatDoor
namespace Go.Proofs.YtcnjekoidgefpaaGreatDoor
open Go.RowKit
set_option maxRecDepth 100000 in
theorem pad512_ev (xs : List (List UInt8)) (n e : Nat) (hn : xs.length = n) (ht : totN xs n < 2 ^ 60) (hn6 : n < 2 ^ 60) : Meets Tryz.prog 104 [.i64 128, .sl 500 0 n 1] [(500, some ⟨.aggS xs, e, false⟩)] (.str (padBytes (padLen 128 (totN xs n)) (totN xs n))) [(500, some ⟨.aggS xs, e, false⟩)] := by
 generalize hm : padLen 128 (totN xs n) = m
 have hm2 : m = 17 + (128 - (totN xs n + 17) % 128) % 128 := by rw [← hm]; rfl
 refine meets_of_ev (nt := 51) Tryz.func104 rfl rfl (Nat.le_of_ble_eq_true rfl) ?_
 refine .seq ?_
 refine .region ?_
 refine .q (op_assign rfl) trivial rfl ?_
 refine .nil ?_
 show Ev _ _ _ _ _
 refine .seq ?_
 refine .region ?_
 refine .q (op_assign rfl) trivial rfl ?_
 refine .nil ?_
 show Ev _ _ _ _ _
 refine .seq ?_
 refine .seq ?_
 refine .region ?_
 refine .q (op_move rfl) trivial rfl ?_
 refine .q (op_len_sl Tryz.underlying85 rfl) trivial rfl ?_
 refine .q (op_move rfl) trivial rfl ?_
 refine .nil ?_
 show Ev _ _ _ _ _
 refine .block ?_
 refine Ev.loop (ι := { j : Nat // j ≤ n }) (fun j => ⟨[(0, .i64 128), (11, .sl 500 0 n 1), (5, .i64 ((totN xs j.1 : Nat) : Int)), (12, .i64 (n : Int)), (13, .i64 ((j.1 : Nat) : Int))], [(500, some ⟨.aggS xs, e, false⟩)], 1000⟩) (fun j => n - j.1) ⟨0, Nat.zero_le _⟩ (StLe.mk [] rfl rfl ⟨⟨_, rfl, by first | rfl | (simp only [AV.ren]; congr 1; omega), rfl⟩, ⟨_, rfl, by first | rfl | (simp only [AV.ren]; congr 1; omega), rfl⟩, ⟨_, rfl, by first | rfl | (simp only [AV.ren]; congr 1; omega), rfl⟩, ⟨_, rfl, by first | rfl | (simp only [AV.ren]; congr 1; omega), rfl⟩, ⟨_, rfl, by first | rfl | (simp only [AV.ren]; congr 1; omega), rfl⟩, trivial⟩ ⟨⟨_, _, rfl, rfl, by first | rfl | (simp only [AV.ren]; congr 1; omega), rfl, id, rfl⟩, trivial⟩) ?_
 rintro ⟨j, hj⟩
 dsimp only
 have htj : j < n → totN xs (j + 1) ≤ totN xs n := fun h => totN_le xs n (j + 1) h
 refine .seq ?_
 refine .region ?_
 refine .q (op_cmpI rfl rfl rfl) trivial rfl ?_
 refine .nil ?_
 show Ev _ _ _ _ _
 refine .seq ?_
 refine .cond rfl (fun hc14 => ?_) (fun hc14 => ?_)
 ·simp only [decide_eq_true_eq] at hc14
  refine .skip ?_
  show Ev _ _ _ _ _
  refine .seq ?_
  refine .block ?_
  refine .seq ?_
  refine .region ?_
  refine .q (ap_idx0 Tryz.underlying85 inf9.sz rfl rfl rfl (by first | omega | (simp only [AV.len]; omega) | (simp only [AV.len, List.length_set]; omega) | assumption | (simp [AV.len]; done))) trivial rfl ?_
  refine .q (op_load Tryz.underlying9 rfl rfl rfl rfl (by first | omega | (simp only [AV.len]; omega) | (simp only [AV.len, List.length_set]; omega) | assumption | (simp [AV.len]; done))) trivial rfl ?_
  refine .q (op_assign rfl) trivial rfl ?_
  refine .nil ?_
  show Ev _ _ _ _ _
  refine .region ?_
  refine .q (op_move rfl) trivial rfl ?_
  refine .q (op_move rfl) trivial rfl ?_
  refine .q (op_len_str Tryz.underlying9 rfl) trivial rfl ?_
  refine .q (op_addI rfl rfl ⟨by have h1 := htj (by omega); simp only [totN, List.getD_eq_getElem?_getD] at h1; simp only [List.getD_eq_getElem?_getD]; omega, by have h1 := htj (by omega); simp only [totN, List.getD_eq_getElem?_getD] at h1; simp only [List.getD_eq_getElem?_getD]; omega⟩) trivial rfl ?_
  refine .as (.i64 ((totN xs (j + 1) : Nat) : Int)) (congrArg AV.i64 (by simp [totN])) ?_
  refine .q (op_assign rfl) trivial rfl ?_
  refine .nil ?_
  show Ev _ _ _ _ _
  refine .region ?_
  refine .q (op_addI rfl rfl ⟨by omega, by omega⟩) trivial rfl ?_
  refine .q (op_move rfl) trivial rfl ?_
  refine .nil ?_
  exact ⟨⟨j + 1, by omega⟩, by show n - (j + 1) < n - j; omega, StLe.mk [] rfl rfl ⟨⟨_, rfl, by first | rfl | (simp only [AV.ren]; congr 1; omega), rfl⟩, ⟨_, rfl, by first | rfl | (simp only [AV.ren]; congr 1; omega), rfl⟩, ⟨_, rfl, by first | rfl | (simp only [AV.ren]; congr 1; omega), rfl⟩, ⟨_, rfl, by first | rfl | (simp only [AV.ren]; congr 1; omega), rfl⟩, ⟨_, rfl, by first | rfl | (simp only [AV.ren]; congr 1; omega), rfl⟩, trivial⟩ ⟨⟨_, _, rfl, rfl, by first | rfl | (simp only [AV.ren]; congr 1; omega), rfl, id, rfl⟩, trivial⟩⟩
 ·simp only [decide_eq_false_iff_not] at hc14
  refine .exit ?_
  show Ev _ _ _ _ _
  have ej : j = n := by omega
  refine Ev.weak (st2 := ⟨[(0, .i64 128), (11, .sl 500 0 n 1), (5, .i64 ((totN xs (n) : Nat) : Int)), (12, .i64 (n : Int)), (13, .i64 (((n) : Nat) : Int))], [(500, some ⟨.aggS xs, e, false⟩)], 1000⟩) (StLe.mk [] rfl rfl ⟨⟨_, rfl, by first | (simp only [AV.ren]; done) | (simp only [AV.ren]; rw [ej]; done) | rfl, rfl⟩, ⟨_, rfl, by first | (simp only [AV.ren]; done) | (simp only [AV.ren]; rw [ej]; done) | rfl, rfl⟩, ⟨_, rfl, by first | (simp only [AV.ren]; done) | (simp only [AV.ren]; rw [ej]; done) | rfl, rfl⟩, ⟨_, rfl, by first | (simp only [AV.ren]; done) | (simp only [AV.ren]; rw [ej]; done) | rfl, rfl⟩, ⟨_, rfl, by first | (simp only [AV.ren]; done) | (simp only [AV.ren]; rw [ej]; done) | rfl, rfl⟩, trivial⟩ ⟨⟨_, _, rfl, rfl, by first | (simp only [AV.ren]; done) | (simp only [AV.ren]; rw [ej]; done) | rfl, rfl, id, rfl⟩, trivial⟩) ?_
  refine .seq ?_
  refine .region ?_
  refine .q (op_move rfl) trivial rfl ?_
  refine .q (op_quoI rfl rfl ⟨by omega, ⟨by omega, by omega⟩, by omega⟩) trivial rfl ?_
  refine .q (op_addI rfl rfl ⟨by omega, by omega⟩) trivial rfl ?_
  refine .as (.i64 17) rfl ?_
  refine .q (op_assign rfl) trivial rfl ?_
  refine .nil ?_
  show Ev _ _ _ _ _
  refine .seq ?_
  refine .region ?_
  refine .q (op_move rfl) trivial rfl ?_
  refine .q (op_move rfl) trivial rfl ?_
  refine .q (op_move rfl) trivial rfl ?_
  refine .q (op_addI rfl rfl ⟨by omega, by omega⟩) trivial rfl ?_
  refine .as (.i64 ((totN xs n + 17 : Nat) : Int)) (congrArg AV.i64 (by omega)) ?_
  refine .q (op_move rfl) trivial rfl ?_
  refine .q (op_remI rfl rfl ⟨by omega, by omega⟩) trivial rfl ?_
  refine .as (.i64 (((totN xs n + 17) % 128 : Nat) : Int)) (congrArg AV.i64 (by omega)) ?_
  refine .q (op_subI rfl rfl ⟨by omega, by omega⟩) trivial rfl ?_
  refine .as (.i64 ((128 - (totN xs n + 17) % 128 : Nat) : Int)) (congrArg AV.i64 (by omega)) ?_
  refine .q (op_move rfl) trivial rfl ?_
  refine .q (op_remI rfl rfl ⟨by omega, by omega⟩) trivial rfl ?_
  refine .as (.i64 (((128 - (totN xs n + 17) % 128) % 128 : Nat) : Int)) (congrArg AV.i64 (by omega)) ?_
  refine .q (op_assign rfl) trivial rfl ?_
  refine .nil ?_
  show Ev _ _ _ _ _
  refine .seq ?_
  refine .region ?_
  refine .q (op_move rfl) trivial rfl ?_
  refine .q (op_move rfl) trivial rfl ?_
  refine .q (op_addI rfl rfl ⟨by omega, by omega⟩) trivial rfl ?_
  refine .as (.i64 ((m : Nat) : Int)) (congrArg AV.i64 (by omega)) ?_
  refine .a (ap_make (n := m) (c := .aggB (List.replicate m 0)) Tryz.underlying25 inf5 rfl rfl rfl rfl (by first | omega | (simp only [AV.len]; omega) | (simp only [AV.len, List.length_set]; omega) | assumption | (simp [AV.len]; done)) (rel_zero5) rfl (by simp [AV.list, AV.parts])) trivial rfl ?_
  refine .q (op_assign rfl) trivial rfl ?_
  refine .nil ?_
  show Ev _ _ _ _ _
  refine .seq ?_
  refine .region ?_
  refine .q (op_move rfl) trivial rfl ?_
  refine .q (ap_idx0 Tryz.underlying25 inf5.sz rfl rfl rfl (by first | omega | (simp only [AV.len]; omega) | (simp only [AV.len, List.length_set]; omega) | assumption | (simp [AV.len]; done))) trivial rfl ?_
  refine .w (op_store inf5.sz rfl rfl rfl rfl rfl (by simp only [AV.len, List.length_replicate]; omega)) trivial rfl ?_
  refine .nil ?_
  show Ev _ _ _ _ _
  refine .seq ?_
  refine .region ?_
  refine .q (op_move rfl) trivial rfl ?_
  refine .q (op_move rfl) trivial rfl ?_
  refine .q (op_len_sl Tryz.underlying25 rfl) trivial rfl ?_
  refine .q (op_subI rfl rfl ⟨by omega, by omega⟩) trivial rfl ?_
  refine .as (.i64 ((m - 8 : Nat) : Int)) (congrArg AV.i64 (by omega)) ?_
  refine .q (op_slice_sl Tryz.underlying25 inf5.sz rfl (bnd_some rfl (l := m - 8) rfl) rfl (by omega) (by omega)) trivial rfl ?_
  refine .as (.sl 1000 (m - 8) 8 1) (by congr 1 <;> omega) ?_
  refine .q (op_move rfl) trivial rfl ?_
  refine .q (op_conv Tryz.underlying3 Tryz.underlying52 rfl rfl) trivial rfl ?_
  refine .q (op_bin64 rfl rfl rfl) trivial rfl ?_
  refine .as (.u64 (UInt64.ofNat (totN xs n * 8))) (congrArg AV.u64 (by rw [ofI64_nat, UInt64.ofNat_mul])) ?_
  refine .a (op_call (U := [(1000, some ⟨.aggB (pbN ((List.replicate m 0).set 0 128) (m - 8) 8 (UInt64.ofNat (totN xs n * 8)) 8), 5, true⟩)]) [(500, 1000)] [] (hput_ev ((List.replicate m 0).set 0 128) (m - 8) 8 5 (UInt64.ofNat (totN xs n * 8)) (by simp; omega) (by omega)) Tryz.func62 (by kernel_rfl) rfl rfl rfl (⟨⟨_, rfl, rfl, rfl⟩, ⟨_, rfl, rfl, rfl⟩, trivial⟩) (⟨⟨_, _, rfl, rfl, rfl, rfl, id, rfl⟩, trivial⟩) (⟨⟨500, _, rfl, rfl, rfl, rfl, .inr ⟨rfl, _, rfl, rfl⟩⟩, trivial⟩) (⟨(fun _ => ⟨1000, _, rfl, rfl⟩), trivial⟩) rfl) trivial rfl ?_
  refine .nil ?_
  show Ev _ _ _ _ _
  refine .seq ?_
  refine .region ?_
  refine .q (op_move rfl) trivial rfl ?_
  refine .q (op_bytes_str Tryz.underlying25 Tryz.underlying5 Tryz.underlying9 rfl rfl rfl (by rw [length_pbN]; simp)) trivial rfl ?_
  refine .as (.str (padBytes m (totN xs n))) (congrArg AV.str (pad_eq m (totN xs n) (by omega))) ?_
  refine .q (op_assign rfl) trivial rfl ?_
  refine .nil ?_
  show Ev _ _ _ _ _
  refine .ret ?_
  show RetOk _ _ _ _ _ _ _
  exact ret1v rfl (.inl rfl) rfl rfl ⟨rfl, trivial⟩
end Go.Proofs.YtcnjekoidgefpaaGreatDoor
