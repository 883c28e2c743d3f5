/-
  Texts of this claim.
-/
import Derived.Test.YtcnjekoidgefpaaDoorGS1
namespace Go.Proofs.YtcnjekoidgefpaaDoor
open Go.RowKit
theorem length_K256q : K256.length = 64 := rfl
set_option maxRecDepth 100000 in
theorem step_evq (s : St32) (e0 e1 kw : UInt32) (e : Nat) : Meets Tryd.prog 130 [.ptr 500 0, .u32 e0, .u32 e1, .u32 kw] [(500, some ⟨.agg32 (stlq s), e, true⟩)] (.tup []) [(500, some ⟨.agg32 (stlq (stepSt32 s e0 e1 kw)), e, true⟩)] := by
 refine meets_of_ev (nt := 95) Tryd.func130 rfl rfl (Nat.le_of_ble_eq_true rfl) ?_
 refine .seq ?_
 refine .drawn [[], [0], [0, 1], [0, 1, 2], [], [4], [4, 5], [4, 5, 6], [0, 1, 2, 3, 4, 5, 6, 7], [], [9], [9, 10], [9, 10, 11], [9, 10, 11, 12], [], [14], [14, 15], [14, 15, 16], [9, 10, 11, 12, 13, 14, 15, 16, 17], [0, 1, 2, 3, 4, 5, 6, 7, 8, 9, 10, 11, 12, 13, 14, 15, 16, 17, 18], [0, 1, 2, 3, 4, 5, 6, 7, 8, 9, 10, 11, 12, 13, 14, 15, 16, 17, 18, 19]] [3, 7, 12, 17] [] (by kernel_rfl) (by kernel_rfl) rfl ?_
 show DK _ [0, 1, 2, 3, 4, 5, 6, 7, 8, 9, 10, 11, 12, 13, 14, 15, 16, 17, 18, 19, 20] _ _ _
 refine .q rfl (op_move rfl) trivial ?_
 refine .q rfl (op_nilCheck rfl) trivial ?_
 refine .q rfl (ap_idx_arr Tryd.underlying111 inf61.sz rfl rfl rfl (by decide)) trivial ?_
 refine .q rfl (op_load Tryd.underlying61 rfl rfl rfl rfl (Nat.le_of_ble_eq_true rfl)) trivial ?_
 refine .q rfl (op_move rfl) trivial ?_
 refine .q rfl (op_nilCheck rfl) trivial ?_
 refine .q rfl (ap_idx_arr Tryd.underlying111 inf61.sz rfl rfl rfl (by decide)) trivial ?_
 refine .q rfl (op_load Tryd.underlying61 rfl rfl rfl rfl (Nat.le_of_ble_eq_true rfl)) trivial ?_
 refine .q rfl (op_bin32 rfl rfl rfl) trivial ?_
 refine .q rfl (op_move rfl) trivial ?_
 refine .q rfl (op_nilCheck rfl) trivial ?_
 refine .q rfl (ap_idx_arr Tryd.underlying111 inf61.sz rfl rfl rfl (by decide)) trivial ?_
 refine .q rfl (op_load Tryd.underlying61 rfl rfl rfl rfl (Nat.le_of_ble_eq_true rfl)) trivial ?_
 refine .q rfl (op_not32 rfl) trivial ?_
 refine .q rfl (op_move rfl) trivial ?_
 refine .q rfl (op_nilCheck rfl) trivial ?_
 refine .q rfl (ap_idx_arr Tryd.underlying111 inf61.sz rfl rfl rfl (by decide)) trivial ?_
 refine .q rfl (op_load Tryd.underlying61 rfl rfl rfl rfl (Nat.le_of_ble_eq_true rfl)) trivial ?_
 refine .q rfl (op_bin32 rfl rfl rfl) trivial ?_
 refine .q rfl (op_bin32 rfl rfl rfl) trivial ?_
 refine .q rfl (op_assign rfl) trivial ?_
 refine .as (.u32 (ch32 s.v4 s.v5 s.v6)) rfl ?_
 refine .nil ?_
 show Ev _ _ _ _ _
 refine .seq ?_
 refine .drawn [[], [0], [0, 1], [0, 1, 2], [], [4], [4, 5], [4, 5, 6], [0, 1, 2, 3, 4, 5, 6, 7], [], [9], [9, 10], [9, 10, 11], [], [13], [13, 14], [13, 14, 15], [9, 10, 11, 12, 13, 14, 15, 16], [0, 1, 2, 3, 4, 5, 6, 7, 8, 9, 10, 11, 12, 13, 14, 15, 16, 17], [], [19], [19, 20], [19, 20, 21], [], [23], [23, 24], [23, 24, 25], [19, 20, 21, 22, 23, 24, 25, 26], [0, 1, 2, 3, 4, 5, 6, 7, 8, 9, 10, 11, 12, 13, 14, 15, 16, 17, 18, 19, 20, 21, 22, 23, 24, 25, 26, 27], [0, 1, 2, 3, 4, 5, 6, 7, 8, 9, 10, 11, 12, 13, 14, 15, 16, 17, 18, 19, 20, 21, 22, 23, 24, 25, 26, 27, 28]] [3, 7, 12, 16, 22, 26] [] (by kernel_rfl) (by kernel_rfl) rfl ?_
 show DK _ [0, 1, 2, 3, 4, 5, 6, 7, 8, 9, 10, 11, 12, 13, 14, 15, 16, 17, 18, 19, 20, 21, 22, 23, 24, 25, 26, 27, 28, 29] _ _ _
 refine .q rfl (op_move rfl) trivial ?_
 refine .q rfl (op_nilCheck rfl) trivial ?_
 refine .q rfl (ap_idx_arr Tryd.underlying111 inf61.sz rfl rfl rfl (by decide)) trivial ?_
 refine .q rfl (op_load Tryd.underlying61 rfl rfl rfl rfl (Nat.le_of_ble_eq_true rfl)) trivial ?_
 refine .q rfl (op_move rfl) trivial ?_
 refine .q rfl (op_nilCheck rfl) trivial ?_
 refine .q rfl (ap_idx_arr Tryd.underlying111 inf61.sz rfl rfl rfl (by decide)) trivial ?_
 refine .q rfl (op_load Tryd.underlying61 rfl rfl rfl rfl (Nat.le_of_ble_eq_true rfl)) trivial ?_
 refine .q rfl (op_bin32 rfl rfl rfl) trivial ?_
 refine .q rfl (op_move rfl) trivial ?_
 refine .q rfl (op_nilCheck rfl) trivial ?_
 refine .q rfl (ap_idx_arr Tryd.underlying111 inf61.sz rfl rfl rfl (by decide)) trivial ?_
 refine .q rfl (op_load Tryd.underlying61 rfl rfl rfl rfl (Nat.le_of_ble_eq_true rfl)) trivial ?_
 refine .q rfl (op_move rfl) trivial ?_
 refine .q rfl (op_nilCheck rfl) trivial ?_
 refine .q rfl (ap_idx_arr Tryd.underlying111 inf61.sz rfl rfl rfl (by decide)) trivial ?_
 refine .q rfl (op_load Tryd.underlying61 rfl rfl rfl rfl (Nat.le_of_ble_eq_true rfl)) trivial ?_
 refine .q rfl (op_bin32 rfl rfl rfl) trivial ?_
 refine .q rfl (op_bin32 rfl rfl rfl) trivial ?_
 refine .q rfl (op_move rfl) trivial ?_
 refine .q rfl (op_nilCheck rfl) trivial ?_
 refine .q rfl (ap_idx_arr Tryd.underlying111 inf61.sz rfl rfl rfl (by decide)) trivial ?_
 refine .q rfl (op_load Tryd.underlying61 rfl rfl rfl rfl (Nat.le_of_ble_eq_true rfl)) trivial ?_
 refine .q rfl (op_move rfl) trivial ?_
 refine .q rfl (op_nilCheck rfl) trivial ?_
 refine .q rfl (ap_idx_arr Tryd.underlying111 inf61.sz rfl rfl rfl (by decide)) trivial ?_
 refine .q rfl (op_load Tryd.underlying61 rfl rfl rfl rfl (Nat.le_of_ble_eq_true rfl)) trivial ?_
 refine .q rfl (op_bin32 rfl rfl rfl) trivial ?_
 refine .q rfl (op_bin32 rfl rfl rfl) trivial ?_
 refine .q rfl (op_assign rfl) trivial ?_
 refine .as (.u32 (maj32 s.v0 s.v1 s.v2)) rfl ?_
 refine .nil ?_
 show Ev _ _ _ _ _
 refine .seq ?_
 refine .region ?_
 refine .q (op_move rfl) trivial rfl ?_
 refine .q (op_nilCheck rfl) trivial rfl ?_
 refine .q (ap_idx_arr Tryd.underlying111 inf61.sz rfl rfl rfl (by decide)) trivial rfl ?_
 refine .q (op_load Tryd.underlying61 rfl rfl rfl rfl (Nat.le_of_ble_eq_true rfl)) trivial rfl ?_
 refine .q (op_move rfl) trivial rfl ?_
 refine .q (op_bin32 rfl rfl rfl) trivial rfl ?_
 refine .q (op_move rfl) trivial rfl ?_
 refine .q (op_bin32 rfl rfl rfl) trivial rfl ?_
 refine .q (op_move rfl) trivial rfl ?_
 refine .q (op_bin32 rfl rfl rfl) trivial rfl ?_
 refine .q (op_assign rfl) trivial rfl ?_
 refine .as (.u32 (s.v7 + e1 + ch32 s.v4 s.v5 s.v6 + kw)) rfl ?_
 refine .nil ?_
 show Ev _ _ _ _ _
 refine .seq ?_
 refine .region ?_
 refine .q (op_move rfl) trivial rfl ?_
 refine .q (op_move rfl) trivial rfl ?_
 refine .q (op_bin32 rfl rfl rfl) trivial rfl ?_
 refine .q (op_assign rfl) trivial rfl ?_
 refine .as (.u32 (e0 + maj32 s.v0 s.v1 s.v2)) rfl ?_
 refine .nil ?_
 show Ev _ _ _ _ _
 refine .seq ?_
 refine .drawn [[], [0], [0, 1], [], [3], [3, 4], [0, 1, 2, 3, 4, 5]] [2, 5, 6] [6] (by kernel_rfl) (by kernel_rfl) rfl ?_
 show DK _ [0, 1, 2, 3, 4, 5, 6] _ _ _
 refine .q rfl (op_move rfl) trivial ?_
 refine .q rfl (op_nilCheck rfl) trivial ?_
 refine .q rfl (op_slice_arr Tryd.underlying111 inf61.sz rfl rfl (by first | decide | exact Nat.le_of_ble_eq_true rfl) (by decide) (bnd_some rfl rfl) rfl (by first | decide | exact Nat.le_of_ble_eq_true rfl) (by first | decide | exact Nat.le_of_ble_eq_true rfl)) trivial ?_
 refine .q rfl (op_move rfl) trivial ?_
 refine .q rfl (op_nilCheck rfl) trivial ?_
 refine .q rfl (ap_slice_arr_hi Tryd.underlying111 inf61.sz rfl rfl (by first | decide | exact Nat.le_of_ble_eq_true rfl) (by decide) (bnd_some rfl rfl) (by first | decide | exact Nat.le_of_ble_eq_true rfl)) trivial ?_
 refine .a rfl (op_copy (q := 7) (c' := .agg32 [s.v0, s.v0, s.v1, s.v2, s.v3, s.v4, s.v5, s.v6]) Tryd.underlying218 inf61.sz rfl rfl rfl (srcs_sl rfl rfl (by first | decide | exact Nat.le_of_ble_eq_true rfl)) (by first | decide | exact Nat.le_of_ble_eq_true rfl) (rfl) (rfl)) trivial rfl rfl ?_
 refine .nil ?_
 show Ev _ _ _ _ _
 refine .seq ?_
 refine .drawn [[], [0], [0, 1], [0, 1, 2], [], [0, 1, 2, 3, 4], [0], [0, 1, 2, 3, 4, 5, 6], [0, 1, 2, 3, 4, 5, 6, 7]] [3, 8] [8] (by kernel_rfl) (by kernel_rfl) rfl ?_
 show DK _ [0, 1, 2, 3, 4, 5, 6, 7, 8] _ _ _
 refine .q rfl (op_move rfl) trivial ?_
 refine .q rfl (op_nilCheck rfl) trivial ?_
 refine .q rfl (ap_idx_arr Tryd.underlying111 inf61.sz rfl rfl rfl (by decide)) trivial ?_
 refine .q rfl (op_load Tryd.underlying61 rfl rfl rfl rfl (Nat.le_of_ble_eq_true rfl)) trivial ?_
 refine .q rfl (op_move rfl) trivial ?_
 refine .q rfl (op_bin32 rfl rfl rfl) trivial ?_
 refine .q rfl (op_nilCheck rfl) trivial ?_
 refine .q rfl (ap_idx_arr Tryd.underlying111 inf61.sz rfl rfl rfl (by decide)) trivial ?_
 refine .w rfl (op_store inf61.sz rfl rfl rfl rfl rfl (Nat.le_of_ble_eq_true rfl)) trivial rfl rfl ?_
 refine .nil ?_
 show Ev _ _ _ _ _
 refine .region ?_
 refine .q (op_move rfl) trivial rfl ?_
 refine .q (op_move rfl) trivial rfl ?_
 refine .q (op_move rfl) trivial rfl ?_
 refine .q (op_bin32 rfl rfl rfl) trivial rfl ?_
 refine .q (op_nilCheck rfl) trivial rfl ?_
 refine .q (ap_idx_arr Tryd.underlying111 inf61.sz rfl rfl rfl (by decide)) trivial rfl ?_
 refine .w (op_store inf61.sz rfl rfl rfl rfl rfl (Nat.le_of_ble_eq_true rfl)) trivial rfl ?_
 refine .nil ?_
 show RetOk _ _ _ _ _ _ _
 exact ret0 rfl (.inr rfl) ⟨rfl, trivial⟩
set_option maxHeartbeats 1000000 in
set_option maxRecDepth 100000 in
theorem comp_evq (s : St32) (bs : List UInt8) (e e2 : Nat) (hb : bs.length = 64) : Meets Tryd.prog 64 [.agg32 (stlq s), .sl 500 0 64 1] [(500, some ⟨.aggB bs, e2, false⟩), (5, some ⟨.agg32 K256, e, false⟩)] (.agg32 (stlq (comp32 s bs))) [] := by
 obtain ⟨R, hR⟩ : ∃ R, sched32 (words32z bs 16) 48 = R := ⟨_, rfl⟩
 have hlR : R.length = 64 := by rw [← hR, ← sched_allq, length_schNq]; exact length_wdNq bs 16
 refine meets_of_ev (nt := 63) Tryd.func64 rfl rfl (Nat.le_of_ble_eq_true rfl) ?_
 refine .seq ?_
 refine .region ?_
 refine .a (op_boxRow rfl rfl) trivial rfl ?_
 refine .a (op_allocRow zero111 rel_zero111 rfl) trivial rfl ?_
 refine .nil ?_
 show Ev _ _ _ _ _
 refine .seq ?_
 refine .region ?_
 refine .q (op_move rfl) trivial rfl ?_
 refine .q (op_call (U := []) [(500, 500)] [] (sched_evq bs e2 hb) Tryd.func128 (by kernel_rfl) rfl rfl rfl (⟨⟨_, rfl, rfl, rfl⟩, trivial⟩) (⟨⟨_, _, rfl, rfl, rfl, rfl, (fun h => by cases h), rfl⟩, trivial⟩) (trivial) (⟨(fun h => by cases h), trivial⟩) rfl) trivial rfl ?_
 refine .as (.agg32 R) (congrArg AV.agg32 hR) ?_
 refine .a (op_allocRow zero178 rel_zero178 rfl) trivial rfl ?_
 refine .w (op_storeRow sz178 rfl rfl rfl rfl rfl (by first | exact hlR | exact List.length_replicate) (by first | exact hlR | exact List.length_replicate)) trivial rfl ?_
 refine .nil ?_
 show Ev _ _ _ _ _
 refine .seq ?_
 refine .region ?_
 refine .q (op_loadRow Tryd.underlying111 rfl sz111 rfl rfl rfl (rfl)) trivial rfl ?_
 refine .a (op_allocRow zero111 rel_zero111 rfl) trivial rfl ?_
 refine .w (op_storeRow sz111 rfl rfl rfl rfl rfl (rfl) (rfl)) trivial rfl ?_
 refine .nil ?_
 show Ev _ _ _ _ _
 refine .seq ?_
 refine .seq ?_
 refine .region ?_
 refine .q (op_move rfl) trivial rfl ?_
 refine .nil ?_
 show Ev _ _ _ _ _
 refine .block ?_
 refine Ev.loop (ι := { j : Nat // j ≤ 64 }) (fun j => ⟨[(2, .ptr 1000 0), (4, .ptr 1008 0), (5, .ptr 1016 0), (6, .ptr 1024 0), (14, .i64 ((j.1 : Nat) : Int))], [(1000, some ⟨.agg32 (stlq s), 111, true⟩), (1008, some ⟨.agg32 (List.replicate 8 0), 111, true⟩), (1016, some ⟨.agg32 R, 178, true⟩), (1024, some ⟨.agg32 (stlq (rounds32 R s j.1)), 111, true⟩), (500, some ⟨.aggB bs, e2, false⟩), (5, some ⟨.agg32 K256, e, false⟩)], 1032⟩) (fun j => 64 - j.1) ⟨0, Nat.zero_le _⟩ (StLe.mk [(1000, 1000), (1008, 1008), (1016, 1016), (1024, 1024)] rfl rfl ⟨⟨_, rfl, by first | rfl | (simp only [AV.ren]; congr 1; omega), rfl⟩, ⟨_, rfl, by first | rfl | (simp only [AV.ren]; congr 1; omega), rfl⟩, ⟨_, rfl, by first | rfl | (simp only [AV.ren]; congr 1; omega), rfl⟩, ⟨_, rfl, by first | rfl | (simp only [AV.ren]; congr 1; omega), rfl⟩, ⟨_, rfl, by first | rfl | (simp only [AV.ren]; congr 1; omega), rfl⟩, trivial⟩ ⟨⟨_, _, rfl, rfl, by first | rfl | (simp only [AV.ren]; congr 1; omega), rfl, id, rfl⟩, ⟨_, _, rfl, rfl, by first | rfl | (simp only [AV.ren]; congr 1; omega), rfl, id, rfl⟩, ⟨_, _, rfl, rfl, by first | rfl | (simp only [AV.ren]; congr 1; omega), rfl, id, rfl⟩, ⟨_, _, rfl, rfl, by first | rfl | (simp only [AV.ren]; congr 1; omega), rfl, id, rfl⟩, ⟨_, _, rfl, rfl, by first | rfl | (simp only [AV.ren]; congr 1; omega), rfl, id, rfl⟩, ⟨_, _, rfl, rfl, by first | rfl | (simp only [AV.ren]; congr 1; omega), rfl, id, rfl⟩, trivial⟩) ?_
 rintro ⟨j, hj⟩
 dsimp only
 have hk80 := length_K256q
 refine .seq ?_
 refine .region ?_
 refine .q (op_cmpI rfl rfl rfl) trivial rfl ?_
 refine .nil ?_
 show Ev _ _ _ _ _
 refine .seq ?_
 refine .cond rfl (fun hc15 => ?_) (fun hc15 => ?_)
 ·simp only [decide_eq_true_eq] at hc15
  refine .skip ?_
  show Ev _ _ _ _ _
  refine .seq ?_
  refine .block ?_
  refine .seq ?_
  refine .region ?_
  refine .q (op_move rfl) trivial rfl ?_
  refine .q (op_assign rfl) trivial rfl ?_
  refine .nil ?_
  show Ev _ _ _ _ _
  refine .seq ?_
  refine .drawn [[], [0], [0, 1], [], [3], [0, 1, 2, 3, 4], [0, 1, 2, 3, 4, 5], [], [7], [0, 1, 2, 3, 4, 5, 7, 8], [0, 1, 2, 3, 4, 5, 6, 7, 8, 9], [0, 1, 2, 3, 4, 5, 6, 7, 8, 9, 10]] [1, 2, 4, 5, 8, 9] [] (by kernel_rfl) (by kernel_rfl) rfl ?_
  show DK _ [0, 1, 2, 3, 4, 5, 6, 7, 8, 9, 10, 11] _ _ _
  refine .q rfl (ap_idx_arr Tryd.underlying111 inf61.sz rfl rfl rfl (by decide)) trivial ?_
  refine .q rfl (op_load Tryd.underlying61 rfl rfl rfl rfl (Nat.le_of_ble_eq_true rfl)) trivial ?_
  refine .q rfl (op_call (U := []) [] [] (rot_evq _ 2 (by decide) (by decide)) Tryd.func129 (by kernel_rfl) rfl rfl rfl (⟨⟨_, rfl, rfl, rfl⟩, ⟨_, rfl, rfl, rfl⟩, trivial⟩) (trivial) (trivial) (trivial) rfl) trivial ?_
  refine .q rfl (ap_idx_arr Tryd.underlying111 inf61.sz rfl rfl rfl (by decide)) trivial ?_
  refine .q rfl (op_load Tryd.underlying61 rfl rfl rfl rfl (Nat.le_of_ble_eq_true rfl)) trivial ?_
  refine .q rfl (op_call (U := []) [] [] (rot_evq _ 13 (by decide) (by decide)) Tryd.func129 (by kernel_rfl) rfl rfl rfl (⟨⟨_, rfl, rfl, rfl⟩, ⟨_, rfl, rfl, rfl⟩, trivial⟩) (trivial) (trivial) (trivial) rfl) trivial ?_
  refine .q rfl (op_bin32 rfl rfl rfl) trivial ?_
  refine .q rfl (ap_idx_arr Tryd.underlying111 inf61.sz rfl rfl rfl (by decide)) trivial ?_
  refine .q rfl (op_load Tryd.underlying61 rfl rfl rfl rfl (Nat.le_of_ble_eq_true rfl)) trivial ?_
  refine .q rfl (op_call (U := []) [] [] (rot_evq _ 22 (by decide) (by decide)) Tryd.func129 (by kernel_rfl) rfl rfl rfl (⟨⟨_, rfl, rfl, rfl⟩, ⟨_, rfl, rfl, rfl⟩, trivial⟩) (trivial) (trivial) (trivial) rfl) trivial ?_
  refine .q rfl (op_bin32 rfl rfl rfl) trivial ?_
  refine .q rfl (op_assign rfl) trivial ?_
  refine .as (.u32 (bigE0_32 (rounds32 R s j).v0)) rfl ?_
  refine .nil ?_
  show Ev _ _ _ _ _
  refine .seq ?_
  refine .drawn [[], [0], [0, 1], [], [3], [0, 1, 2, 3, 4], [0, 1, 2, 3, 4, 5], [], [7], [0, 1, 2, 3, 4, 5, 7, 8], [0, 1, 2, 3, 4, 5, 6, 7, 8, 9], [0, 1, 2, 3, 4, 5, 6, 7, 8, 9, 10]] [1, 2, 4, 5, 8, 9] [] (by kernel_rfl) (by kernel_rfl) rfl ?_
  show DK _ [0, 1, 2, 3, 4, 5, 6, 7, 8, 9, 10, 11] _ _ _
  refine .q rfl (ap_idx_arr Tryd.underlying111 inf61.sz rfl rfl rfl (by decide)) trivial ?_
  refine .q rfl (op_load Tryd.underlying61 rfl rfl rfl rfl (Nat.le_of_ble_eq_true rfl)) trivial ?_
  refine .q rfl (op_call (U := []) [] [] (rot_evq _ 6 (by decide) (by decide)) Tryd.func129 (by kernel_rfl) rfl rfl rfl (⟨⟨_, rfl, rfl, rfl⟩, ⟨_, rfl, rfl, rfl⟩, trivial⟩) (trivial) (trivial) (trivial) rfl) trivial ?_
  refine .q rfl (ap_idx_arr Tryd.underlying111 inf61.sz rfl rfl rfl (by decide)) trivial ?_
  refine .q rfl (op_load Tryd.underlying61 rfl rfl rfl rfl (Nat.le_of_ble_eq_true rfl)) trivial ?_
  refine .q rfl (op_call (U := []) [] [] (rot_evq _ 11 (by decide) (by decide)) Tryd.func129 (by kernel_rfl) rfl rfl rfl (⟨⟨_, rfl, rfl, rfl⟩, ⟨_, rfl, rfl, rfl⟩, trivial⟩) (trivial) (trivial) (trivial) rfl) trivial ?_
  refine .q rfl (op_bin32 rfl rfl rfl) trivial ?_
  refine .q rfl (ap_idx_arr Tryd.underlying111 inf61.sz rfl rfl rfl (by decide)) trivial ?_
  refine .q rfl (op_load Tryd.underlying61 rfl rfl rfl rfl (Nat.le_of_ble_eq_true rfl)) trivial ?_
  refine .q rfl (op_call (U := []) [] [] (rot_evq _ 25 (by decide) (by decide)) Tryd.func129 (by kernel_rfl) rfl rfl rfl (⟨⟨_, rfl, rfl, rfl⟩, ⟨_, rfl, rfl, rfl⟩, trivial⟩) (trivial) (trivial) (trivial) rfl) trivial ?_
  refine .q rfl (op_bin32 rfl rfl rfl) trivial ?_
  refine .q rfl (op_assign rfl) trivial ?_
  refine .as (.u32 (bigE1_32 (rounds32 R s j).v4)) rfl ?_
  refine .nil ?_
  show Ev _ _ _ _ _
  refine .drawn [[], [], [], [2], [2, 3], [], [5], [5, 6], [2, 3, 4, 5, 6, 7], [0, 1, 2, 3, 4, 5, 6, 7, 8]] [4, 7, 9] [9] (by kernel_rfl) (by kernel_rfl) rfl ?_
  show DK _ [0, 1, 2, 3, 4, 5, 6, 7, 8, 9] _ _ _
  refine .q rfl (op_move rfl) trivial ?_
  refine .q rfl (op_move rfl) trivial ?_
  refine .q rfl (op_move rfl) trivial ?_
  refine .q rfl (ap_idx_arr Tryd.underlying178 inf61.sz rfl rfl rfl (by omega)) trivial ?_
  refine .q rfl (op_load Tryd.underlying61 rfl rfl rfl rfl (by show j < K256.length; omega)) trivial ?_
  refine .q rfl (op_move rfl) trivial ?_
  refine .q rfl (ap_idx_arr Tryd.underlying178 inf61.sz rfl rfl rfl (by omega)) trivial ?_
  refine .q rfl (op_load Tryd.underlying61 rfl rfl rfl rfl (by show j < R.length; omega)) trivial ?_
  refine .q rfl (op_bin32 rfl rfl rfl) trivial ?_
  refine .a rfl (op_call (U := [(1024, some ⟨.agg32 (stlq (rounds32 R s (j + 1))), 111, true⟩)]) [(500, 1024)] [] (step_evq (rounds32 R s j) (bigE0_32 (rounds32 R s j).v0) (bigE1_32 (rounds32 R s j).v4) (K256.getD j 0 + R.getD j 0) 111) Tryd.func130 (by kernel_rfl) rfl rfl rfl (⟨⟨_, rfl, rfl, rfl⟩, ⟨_, rfl, rfl, rfl⟩, ⟨_, rfl, rfl, rfl⟩, ⟨_, rfl, rfl, rfl⟩, trivial⟩) (⟨⟨_, _, rfl, rfl, rfl, rfl, id, rfl⟩, trivial⟩) (⟨⟨500, _, rfl, rfl, rfl, rfl, .inr ⟨rfl, _, rfl, rfl⟩⟩, trivial⟩) (⟨(fun _ => ⟨1024, _, rfl, rfl⟩), trivial⟩) rfl) trivial rfl rfl ?_
  refine .nil ?_
  show Ev _ _ _ _ _
  refine .region ?_
  refine .q (op_addI rfl rfl ⟨by omega, by omega⟩) trivial rfl ?_
  refine .q (op_move rfl) trivial rfl ?_
  refine .nil ?_
  exact ⟨⟨j + 1, by omega⟩, by show 64 - (j + 1) < 64 - j; omega, StLe.mk [(1000, 1000), (1008, 1008), (1016, 1016), (1024, 1024)] rfl rfl ⟨⟨_, rfl, by first | rfl | (simp only [AV.ren]; congr 1; omega), rfl⟩, ⟨_, rfl, by first | rfl | (simp only [AV.ren]; congr 1; omega), rfl⟩, ⟨_, rfl, by first | rfl | (simp only [AV.ren]; congr 1; omega), rfl⟩, ⟨_, rfl, by first | rfl | (simp only [AV.ren]; congr 1; omega), rfl⟩, ⟨_, rfl, by first | rfl | (simp only [AV.ren]; congr 1; omega), rfl⟩, trivial⟩ ⟨⟨_, _, rfl, rfl, by first | rfl | (simp only [AV.ren]; congr 1; omega), rfl, id, rfl⟩, ⟨_, _, rfl, rfl, by first | rfl | (simp only [AV.ren]; congr 1; omega), rfl, id, rfl⟩, ⟨_, _, rfl, rfl, by first | rfl | (simp only [AV.ren]; congr 1; omega), rfl, id, rfl⟩, ⟨_, _, rfl, rfl, by first | rfl | (simp only [AV.ren]; congr 1; omega), rfl, id, rfl⟩, ⟨_, _, rfl, rfl, by first | rfl | (simp only [AV.ren]; congr 1; omega), rfl, id, rfl⟩, ⟨_, _, rfl, rfl, by first | rfl | (simp only [AV.ren]; congr 1; omega), rfl, id, rfl⟩, trivial⟩⟩
 ·simp only [decide_eq_false_iff_not] at hc15
  refine .exit ?_
  show Ev _ _ _ _ _
  have ej : j = 64 := by omega
  refine Ev.weak (st2 := ⟨[(2, .ptr 1000 0), (4, .ptr 1008 0), (5, .ptr 1016 0), (6, .ptr 1024 0), (14, .i64 (((64) : Nat) : Int))], [(1000, some ⟨.agg32 (stlq s), 111, true⟩), (1008, some ⟨.agg32 (List.replicate 8 0), 111, true⟩), (1016, some ⟨.agg32 R, 178, true⟩), (1024, some ⟨.agg32 (stlq (rounds32 R s (64))), 111, true⟩), (500, some ⟨.aggB bs, e2, false⟩), (5, some ⟨.agg32 K256, e, false⟩)], 1032⟩) (StLe.mk [(1000, 1000), (1008, 1008), (1016, 1016), (1024, 1024)] rfl rfl ⟨⟨_, rfl, by first | (simp only [AV.ren]; done) | (simp only [AV.ren]; rw [ej]; done) | rfl, rfl⟩, ⟨_, rfl, by first | (simp only [AV.ren]; done) | (simp only [AV.ren]; rw [ej]; done) | rfl, rfl⟩, ⟨_, rfl, by first | (simp only [AV.ren]; done) | (simp only [AV.ren]; rw [ej]; done) | rfl, rfl⟩, ⟨_, rfl, by first | (simp only [AV.ren]; done) | (simp only [AV.ren]; rw [ej]; done) | rfl, rfl⟩, ⟨_, rfl, by first | (simp only [AV.ren]; done) | (simp only [AV.ren]; rw [ej]; done) | rfl, rfl⟩, trivial⟩ ⟨⟨_, _, rfl, rfl, by first | (simp only [AV.ren]; done) | (simp only [AV.ren]; rw [ej]; done) | rfl, rfl, id, rfl⟩, ⟨_, _, rfl, rfl, by first | (simp only [AV.ren]; done) | (simp only [AV.ren]; rw [ej]; done) | rfl, rfl, id, rfl⟩, ⟨_, _, rfl, rfl, by first | (simp only [AV.ren]; done) | (simp only [AV.ren]; rw [ej]; done) | rfl, rfl, id, rfl⟩, ⟨_, _, rfl, rfl, by first | (simp only [AV.ren]; done) | (simp only [AV.ren]; rw [ej]; done) | rfl, rfl, id, rfl⟩, ⟨_, _, rfl, rfl, by first | (simp only [AV.ren]; done) | (simp only [AV.ren]; rw [ej]; done) | rfl, rfl, id, rfl⟩, ⟨_, _, rfl, rfl, by first | (simp only [AV.ren]; done) | (simp only [AV.ren]; rw [ej]; done) | rfl, rfl, id, rfl⟩, trivial⟩) ?_
  refine .seq ?_
  refine .seq ?_
  refine .region ?_
  refine .q (op_move rfl) trivial rfl ?_
  refine .nil ?_
  show Ev _ _ _ _ _
  refine .block ?_
  refine Ev.loop (ι := { j : Nat // j ≤ 8 }) (fun j => ⟨[(2, .ptr 1000 0), (4, .ptr 1008 0), (5, .ptr 1016 0), (6, .ptr 1024 0), (50, .i64 ((j.1 : Nat) : Int))], [(1000, some ⟨.agg32 (adHq (stlq s) (stlq (rounds32 R s 64)) j.1), 111, true⟩), (1008, some ⟨.agg32 (List.replicate 8 0), 111, true⟩), (1016, some ⟨.agg32 R, 178, true⟩), (1024, some ⟨.agg32 (stlq (rounds32 R s 64)), 111, true⟩), (500, some ⟨.aggB bs, e2, false⟩), (5, some ⟨.agg32 K256, e, false⟩)], 1032⟩) (fun j => 8 - j.1) ⟨0, Nat.zero_le _⟩ (StLe.mk [(1000, 1000), (1008, 1008), (1016, 1016), (1024, 1024)] rfl rfl ⟨⟨_, rfl, by first | rfl | (simp only [AV.ren]; congr 1; omega), rfl⟩, ⟨_, rfl, by first | rfl | (simp only [AV.ren]; congr 1; omega), rfl⟩, ⟨_, rfl, by first | rfl | (simp only [AV.ren]; congr 1; omega), rfl⟩, ⟨_, rfl, by first | rfl | (simp only [AV.ren]; congr 1; omega), rfl⟩, ⟨_, rfl, by first | rfl | (simp only [AV.ren]; congr 1; omega), rfl⟩, trivial⟩ ⟨⟨_, _, rfl, rfl, by first | rfl | (simp only [AV.ren]; congr 1; omega), rfl, id, rfl⟩, ⟨_, _, rfl, rfl, by first | rfl | (simp only [AV.ren]; congr 1; omega), rfl, id, rfl⟩, ⟨_, _, rfl, rfl, by first | rfl | (simp only [AV.ren]; congr 1; omega), rfl, id, rfl⟩, ⟨_, _, rfl, rfl, by first | rfl | (simp only [AV.ren]; congr 1; omega), rfl, id, rfl⟩, ⟨_, _, rfl, rfl, by first | rfl | (simp only [AV.ren]; congr 1; omega), rfl, id, rfl⟩, ⟨_, _, rfl, rfl, by first | rfl | (simp only [AV.ren]; congr 1; omega), rfl, id, rfl⟩, trivial⟩) ?_
  rintro ⟨j, hj⟩
  dsimp only
  have hla : (adHq (stlq s) (stlq (rounds32 R s 64)) j).length = 8 := length_adHq _ _ j
  have hls : ∀ q, (stlq q).length = 8 := fun _ => rfl
  refine .seq ?_
  refine .region ?_
  refine .q (op_cmpI rfl rfl rfl) trivial rfl ?_
  refine .nil ?_
  show Ev _ _ _ _ _
  refine .seq ?_
  refine .cond rfl (fun hc51 => ?_) (fun hc51 => ?_)
  ·simp only [decide_eq_true_eq] at hc51
   refine .skip ?_
   show Ev _ _ _ _ _
   refine .seq ?_
   refine .block ?_
   refine .seq ?_
   refine .region ?_
   refine .q (op_move rfl) trivial rfl ?_
   refine .q (op_assign rfl) trivial rfl ?_
   refine .nil ?_
   show Ev _ _ _ _ _
   refine .drawn [[], [0], [0, 1], [], [3], [3, 4], [0, 1, 2, 3, 4, 5], [0, 1, 2, 3, 4, 5, 6], [0, 1, 2, 3, 4, 5, 6, 7]] [2, 5, 8] [8] (by kernel_rfl) (by kernel_rfl) rfl ?_
   show DK _ [0, 1, 2, 3, 4, 5, 6, 7, 8] _ _ _
   refine .q rfl (op_move rfl) trivial ?_
   refine .q rfl (ap_idx_arr Tryd.underlying111 inf61.sz rfl rfl rfl (by omega)) trivial ?_
   refine .q rfl (op_load Tryd.underlying61 rfl rfl rfl rfl (by show _ < (adHq (stlq s) (stlq (rounds32 R s 64)) j).length; omega)) trivial ?_
   refine .q rfl (op_move rfl) trivial ?_
   refine .q rfl (ap_idx_arr Tryd.underlying111 inf61.sz rfl rfl rfl (by omega)) trivial ?_
   refine .q rfl (op_load Tryd.underlying61 rfl rfl rfl rfl (by show j < 8; omega)) trivial ?_
   refine .q rfl (op_bin32 rfl rfl rfl) trivial ?_
   refine .q rfl (ap_idx_arr Tryd.underlying111 inf61.sz rfl rfl rfl (by omega)) trivial ?_
   refine .w rfl (op_store inf61.sz rfl rfl rfl rfl rfl (by show _ < (adHq (stlq s) (stlq (rounds32 R s 64)) j).length; omega)) trivial rfl rfl ?_
   refine .nil ?_
   show Ev _ _ _ _ _
   refine .region ?_
   refine .q (op_addI rfl rfl ⟨by omega, by omega⟩) trivial rfl ?_
   refine .q (op_move rfl) trivial rfl ?_
   refine .nil ?_
   exact ⟨⟨j + 1, by omega⟩, by show 8 - (j + 1) < 8 - j; omega, StLe.mk [(1000, 1000), (1008, 1008), (1016, 1016), (1024, 1024)] rfl rfl ⟨⟨_, rfl, by first | rfl | (simp only [AV.ren]; congr 1; omega), rfl⟩, ⟨_, rfl, by first | rfl | (simp only [AV.ren]; congr 1; omega), rfl⟩, ⟨_, rfl, by first | rfl | (simp only [AV.ren]; congr 1; omega), rfl⟩, ⟨_, rfl, by first | rfl | (simp only [AV.ren]; congr 1; omega), rfl⟩, ⟨_, rfl, by first | rfl | (simp only [AV.ren]; congr 1; omega), rfl⟩, trivial⟩ ⟨⟨_, _, rfl, rfl, by first | rfl | (simp only [AV.ren]; congr 1; omega), rfl, id, rfl⟩, ⟨_, _, rfl, rfl, by first | rfl | (simp only [AV.ren]; congr 1; omega), rfl, id, rfl⟩, ⟨_, _, rfl, rfl, by first | rfl | (simp only [AV.ren]; congr 1; omega), rfl, id, rfl⟩, ⟨_, _, rfl, rfl, by first | rfl | (simp only [AV.ren]; congr 1; omega), rfl, id, rfl⟩, ⟨_, _, rfl, rfl, by first | rfl | (simp only [AV.ren]; congr 1; omega), rfl, id, rfl⟩, ⟨_, _, rfl, rfl, by first | rfl | (simp only [AV.ren]; congr 1; omega), rfl, id, rfl⟩, trivial⟩⟩
  ·simp only [decide_eq_false_iff_not] at hc51
   refine .exit ?_
   show Ev _ _ _ _ _
   have ej : j = 8 := by omega
   refine Ev.weak (st2 := ⟨[(2, .ptr 1000 0), (4, .ptr 1008 0), (5, .ptr 1016 0), (6, .ptr 1024 0), (50, .i64 (((8) : Nat) : Int))], [(1000, some ⟨.agg32 (adHq (stlq s) (stlq (rounds32 R s 64)) (8)), 111, true⟩), (1008, some ⟨.agg32 (List.replicate 8 0), 111, true⟩), (1016, some ⟨.agg32 R, 178, true⟩), (1024, some ⟨.agg32 (stlq (rounds32 R s 64)), 111, true⟩), (500, some ⟨.aggB bs, e2, false⟩), (5, some ⟨.agg32 K256, e, false⟩)], 1032⟩) (StLe.mk [(1000, 1000), (1008, 1008), (1016, 1016), (1024, 1024)] rfl rfl ⟨⟨_, rfl, by first | (simp only [AV.ren]; done) | (simp only [AV.ren]; rw [ej]; done) | rfl, rfl⟩, ⟨_, rfl, by first | (simp only [AV.ren]; done) | (simp only [AV.ren]; rw [ej]; done) | rfl, rfl⟩, ⟨_, rfl, by first | (simp only [AV.ren]; done) | (simp only [AV.ren]; rw [ej]; done) | rfl, rfl⟩, ⟨_, rfl, by first | (simp only [AV.ren]; done) | (simp only [AV.ren]; rw [ej]; done) | rfl, rfl⟩, ⟨_, rfl, by first | (simp only [AV.ren]; done) | (simp only [AV.ren]; rw [ej]; done) | rfl, rfl⟩, trivial⟩ ⟨⟨_, _, rfl, rfl, by first | (simp only [AV.ren]; done) | (simp only [AV.ren]; rw [ej]; done) | rfl, rfl, id, rfl⟩, ⟨_, _, rfl, rfl, by first | (simp only [AV.ren]; done) | (simp only [AV.ren]; rw [ej]; done) | rfl, rfl, id, rfl⟩, ⟨_, _, rfl, rfl, by first | (simp only [AV.ren]; done) | (simp only [AV.ren]; rw [ej]; done) | rfl, rfl, id, rfl⟩, ⟨_, _, rfl, rfl, by first | (simp only [AV.ren]; done) | (simp only [AV.ren]; rw [ej]; done) | rfl, rfl, id, rfl⟩, ⟨_, _, rfl, rfl, by first | (simp only [AV.ren]; done) | (simp only [AV.ren]; rw [ej]; done) | rfl, rfl, id, rfl⟩, ⟨_, _, rfl, rfl, by first | (simp only [AV.ren]; done) | (simp only [AV.ren]; rw [ej]; done) | rfl, rfl, id, rfl⟩, trivial⟩) ?_
   refine .seq ?_
   refine .region ?_
   refine .q (op_loadRow Tryd.underlying111 rfl sz111 rfl rfl rfl (length_adHq _ _ 8)) trivial rfl ?_
   refine .as (.agg32 (stlq (comp32 s bs))) (congrArg AV.agg32 (by rw [adH_stlq, ← hR]; rfl)) ?_
   refine .w (op_storeRow sz111 rfl rfl rfl rfl rfl (rfl) (rfl)) trivial rfl ?_
   refine .nil ?_
   show Ev _ _ _ _ _
   refine .ret ?_
   show RetOk _ _ _ _ _ _ _
   exact retc1 rfl (.inl rfl) ⟨_, _, _, _, rfl, rfl, rfl, rfl, (rfl), Tryd.underlying111, rfl, sz111⟩ trivial
set_option maxRecDepth 100000 in
theorem clo256_ev (s : St32) (bs : List UInt8) (e e2 e3 : Nat) (hb : bs.length = 64) : Meets Tryd.prog 63 [.sl 500 0 64 1, .ptr 501 0] [(500, some ⟨.aggB bs, e2, false⟩), (501, some ⟨.agg32 (stlq s), e3, true⟩), (5, some ⟨.agg32 K256, e, false⟩)] (.tup []) [(501, some ⟨.agg32 (stlq (comp32 s bs)), e3, true⟩)] := by
 refine meets_of_ev (nt := 6) Tryd.func63 rfl rfl (Nat.le_of_ble_eq_true rfl) ?_
 refine .region ?_
 refine .q (op_loadRow Tryd.underlying111 rfl sz111 rfl rfl rfl (rfl)) trivial rfl ?_
 refine .q (op_move rfl) trivial rfl ?_
 refine .q (op_call (U := []) [(500, 500)] [] (comp_evq s bs e e2 hb) Tryd.func64 (by kernel_rfl) rfl rfl rfl (⟨⟨_, rfl, rfl, rfl⟩, ⟨_, rfl, rfl, rfl⟩, trivial⟩) (⟨⟨_, _, rfl, rfl, rfl, rfl, (fun h => by cases h), rfl⟩, ⟨_, _, rfl, rfl, rfl, rfl, id, rfl⟩, trivial⟩) (trivial) (⟨(fun h => by cases h), (fun h => by cases h), trivial⟩) rfl) trivial rfl ?_
 refine .w (op_storeRow sz111 rfl rfl rfl rfl rfl (rfl) (rfl)) trivial rfl ?_
 refine .nil ?_
 show RetOk _ _ _ _ _ _ _
 exact ret0 rfl (.inr rfl) ⟨rfl, trivial⟩
end Go.Proofs.YtcnjekoidgefpaaDoor
