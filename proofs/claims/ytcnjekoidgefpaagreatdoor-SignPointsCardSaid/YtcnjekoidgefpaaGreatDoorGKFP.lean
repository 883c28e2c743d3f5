/-
  Texts of this claim.
-/
import Derived.Test.YtcnjekoidgefpaaGreatDoorGFVP
import Derived.Test.YtcnjekoidgefpaaGreatDoorGAOP
import Derived.Test.YtcnjekoidgefpaaGreatDoorGKAP
namespace Go.Proofs.YtcnjekoidgefpaaGreatDoor
open Go.RowKit
theorem kadd_ev (a b : Nat) (ha : a < fp) (hb : b < fp) : Meets Tryz.prog 56 [.agg64 (fl a), .agg64 (fl b)] [] (.agg64 (fl (aF a b))) [] := fadd_ev a b ha hb
theorem ksub_ev (e a b : Nat) (ha : a < fp) (hb : b < fp) : Meets Tryz.prog 54 [.agg64 (fl a), .agg64 (fl b)] (HP e) (.agg64 (fl (sF a b))) [] := fsub_ev e a b ha hb
theorem kmul_ev (a b : Nat) (ha : a < fp) (hb : b < fp) : Meets Tryz.prog 55 [.agg64 (fl a), .agg64 (fl b)] [] (.agg64 (fl (mF a b))) [] := fmul_ev a b ha hb
theorem kneg_ev (e b : Nat) (hb : b < fp) : Meets Tryz.prog 57 [.agg64 (fl b)] (HP e) (.agg64 (fl (nF b))) [] := fneg_ev e b hb
theorem ksq_ev (a : Nat) (ha : a < fp) : Meets Tryz.prog 52 [.agg64 (fl a)] [] (.agg64 (fl (mF a a))) [] := fsquare_ev a ha
theorem kinv_ev (a : Nat) (ha : a < fp) : Meets Tryz.prog 81 [.agg64 (fl a)] [] (.agg64 (fl (invF a))) [] := finvert_ev a ha
theorem of_bX : ofV [26, 213, 37, 143, 96, 45, 86, 201, 178, 167, 37, 149, 96, 199, 44, 105, 92, 220, 214, 253, 49, 226, 164, 192, 254, 83, 110, 205, 211, 54, 105, 33] = bX := by decide +kernel
theorem of_bY : ofV [88, 102, 102, 102, 102, 102, 102, 102, 102, 102, 102, 102, 102, 102, 102, 102, 102, 102, 102, 102, 102, 102, 102, 102, 102, 102, 102, 102, 102, 102, 102, 102] = bY := by decide +kernel
theorem of_dV : ofV [163, 120, 89, 19, 202, 77, 235, 117, 171, 216, 65, 65, 77, 10, 112, 0, 152, 232, 121, 119, 121, 64, 199, 140, 115, 254, 111, 43, 238, 108, 3, 82] = dV := by decide +kernel
theorem kofX_ev : Meets Tryz.prog 50 [.str [26, 213, 37, 143, 96, 45, 86, 201, 178, 167, 37, 149, 96, 199, 44, 105, 92, 220, 214, 253, 49, 226, 164, 192, 254, 83, 110, 205, 211, 54, 105, 33]] [] (.agg64 (fl bX)) [] := (fof_ev _ (by decide)).as (congrArg (fun z => AV.agg64 (fl z)) of_bX)
theorem kofY_ev : Meets Tryz.prog 50 [.str [88, 102, 102, 102, 102, 102, 102, 102, 102, 102, 102, 102, 102, 102, 102, 102, 102, 102, 102, 102, 102, 102, 102, 102, 102, 102, 102, 102, 102, 102, 102, 102]] [] (.agg64 (fl bY)) [] := (fof_ev _ (by decide)).as (congrArg (fun z => AV.agg64 (fl z)) of_bY)
theorem kofD_ev : Meets Tryz.prog 50 [.str [163, 120, 89, 19, 202, 77, 235, 117, 171, 216, 65, 65, 77, 10, 112, 0, 152, 232, 121, 119, 121, 64, 199, 140, 115, 254, 111, 43, 238, 108, 3, 82]] [] (.agg64 (fl dV)) [] := (fof_ev _ (by decide)).as (congrArg (fun z => AV.agg64 (fl z)) of_dV)
set_option maxRecDepth 100000 in
theorem kbase_ev  : Meets Tryz.prog 75 [] [] (.agg64 (fl (bX) ++ fl (bY))) [] := by
 refine meets_of_ev (nt := 4) Tryz.func75 rfl rfl (Nat.le_of_ble_eq_true rfl) ?_
 refine .seq ?_
 refine .region ?_
 refine .a (op_allocRow zero57 rel_zero57 rfl) trivial rfl ?_
 refine .nil ?_
 show Ev _ _ _ _ _
 refine .seq ?_
 refine .region ?_
 refine .q (op_call (U := []) [] [] (kofX_ev) Tryz.func50 (by kernel_rfl) rfl rfl rfl (⟨⟨_, rfl, rfl, rfl⟩, trivial⟩) (trivial) (trivial) (trivial) rfl) trivial rfl ?_
 refine .q (op_call (U := []) [] [] (kofY_ev) Tryz.func50 (by kernel_rfl) rfl rfl rfl (⟨⟨_, rfl, rfl, rfl⟩, trivial⟩) (trivial) (trivial) (trivial) rfl) trivial rfl ?_
 refine .q (op_buildS (r := .agg64 (fl bX ++ fl bY)) Tryz.underlying57 rfl zero57 rel_zero57 rfl rfl rfl rfl) trivial rfl ?_
 refine .w (op_storeRow sz57 rfl rfl rfl rfl rfl (rfl) (rfl)) trivial rfl ?_
 refine .nil ?_
 show Ev _ _ _ _ _
 refine .ret ?_
 show RetOk _ _ _ _ _ _ _
 exact retc1 rfl (.inl rfl) ⟨_, _, _, _, rfl, rfl, rfl, rfl, (rfl), Tryz.underlying57, rfl, sz57⟩ trivial
set_option maxRecDepth 100000 in
theorem kpenc_ev (x y : Nat) : Meets Tryz.prog 58 [.agg64 (fl (x) ++ fl (y))] [] (.aggB (encN x y)) [] := by
 refine meets_of_ev (nt := 15) Tryz.func58 rfl rfl (Nat.le_of_ble_eq_true rfl) ?_
 refine .seq ?_
 refine .region ?_
 refine .a (op_boxRow rfl rfl) trivial rfl ?_
 refine .a (op_allocRow zero22 rel_zero22 rfl) trivial rfl ?_
 refine .nil ?_
 show Ev _ _ _ _ _
 refine .seq ?_
 refine .region ?_
 refine .q (op_fieldAddr (m := 3) Tryz.underlying57 rfl sz55 rfl) trivial rfl ?_
 refine .q (op_loadPart (r := .agg64 (fl (y))) (cs := (fl (y)).map AV.u64) Tryz.underlying55 rfl sz55 rfl rfl rfl rfl rfl (Nat.le_of_ble_eq_true rfl)) trivial rfl ?_
 refine .q (op_call (U := []) [] [] (fbytes_ev _) Tryz.func102 (by kernel_rfl) rfl rfl rfl (⟨⟨_, rfl, rfl, rfl⟩, trivial⟩) (trivial) (trivial) (trivial) rfl) trivial rfl ?_
 refine .as (.aggB (bsN y 32)) rfl ?_
 refine .a (op_allocRow zero22 rel_zero22 rfl) trivial rfl ?_
 refine .w (op_storeRow sz22 rfl rfl rfl rfl rfl (by simp only [AV.len, length_bsN]) (by simp only [AV.len, List.length_replicate])) trivial rfl ?_
 refine .nil ?_
 show Ev _ _ _ _ _
 refine .seq ?_
 refine .seq ?_
 refine .region ?_
 refine .q (op_fieldAddr (m := 3) Tryz.underlying57 rfl sz55 rfl) trivial rfl ?_
 refine .q (op_loadPart (r := .agg64 (fl (x))) (cs := (fl (x)).map AV.u64) Tryz.underlying55 rfl sz55 rfl rfl rfl rfl rfl (Nat.le_of_ble_eq_true rfl)) trivial rfl ?_
 refine .q (op_call (U := []) [] [] (fodd_ev _) Tryz.func97 (by kernel_rfl) rfl rfl rfl (⟨⟨_, rfl, rfl, rfl⟩, trivial⟩) (trivial) (trivial) (trivial) rfl) trivial rfl ?_
 refine .nil ?_
 show Ev _ _ _ _ _
 refine .cond rfl (fun hc9 => ?_) (fun hc9 => ?_)
 ·simp only [decide_eq_true_eq] at hc9
  refine .region ?_
  refine .q (ap_idx_arr Tryz.underlying22 inf5.sz rfl rfl rfl (by first | omega | (skip; omega) | (skip; omega) | assumption | (simp; done))) trivial rfl ?_
  refine .q (op_load Tryz.underlying5 rfl rfl rfl rfl (by simp only [AV.len, length_bsN]; omega)) trivial rfl ?_
  refine .q (op_bin8 rfl rfl rfl) trivial rfl ?_
  refine .q (ap_idx_arr Tryz.underlying22 inf5.sz rfl rfl rfl (by first | omega | (skip; omega) | (skip; omega) | assumption | (simp; done))) trivial rfl ?_
  refine .w (op_store inf5.sz rfl rfl rfl rfl rfl (by simp only [AV.len, length_bsN]; omega)) trivial rfl ?_
  refine .nil ?_
  show Ev _ _ _ _ _
  refine .seq ?_
  refine .region ?_
  refine .q (op_loadRow Tryz.underlying22 rfl sz22 rfl rfl rfl (by simp only [AV.len, List.length_set, length_bsN])) trivial rfl ?_
  refine .as (.aggB (encN x y)) (congrArg AV.aggB (by unfold encN; first | rw [if_neg hc9] | rw [if_pos hc9])) ?_
  refine .w (op_storeRow sz22 rfl rfl rfl rfl rfl (by simp only [AV.len, length_encN]) (by simp only [AV.len, List.length_replicate])) trivial rfl ?_
  refine .nil ?_
  show Ev _ _ _ _ _
  refine .ret ?_
  show RetOk _ _ _ _ _ _ _
  exact retc1 rfl (.inl rfl) ⟨_, _, _, _, rfl, rfl, rfl, rfl, (length_encN x y), Tryz.underlying22, rfl, sz22⟩ trivial
 ·simp only [decide_eq_false_iff_not] at hc9
  refine .skip ?_
  show Ev _ _ _ _ _
  refine .seq ?_
  refine .region ?_
  refine .q (op_loadRow Tryz.underlying22 rfl sz22 rfl rfl rfl (by simp only [AV.len, length_bsN])) trivial rfl ?_
  refine .as (.aggB (encN x y)) (congrArg AV.aggB (by unfold encN; first | rw [if_neg hc9] | rw [if_pos hc9])) ?_
  refine .w (op_storeRow sz22 rfl rfl rfl rfl rfl (by simp only [AV.len, length_encN]) (by simp only [AV.len, List.length_replicate])) trivial rfl ?_
  refine .nil ?_
  show Ev _ _ _ _ _
  refine .ret ?_
  show RetOk _ _ _ _ _ _ _
  exact retc1 rfl (.inl rfl) ⟨_, _, _, _, rfl, rfl, rfl, rfl, (length_encN x y), Tryz.underlying22, rfl, sz22⟩ trivial
set_option maxRecDepth 100000 in
theorem kadd3_ev (e x y : Nat) (hx : x < fp) (hy : y < fp) : Meets Tryz.prog 76 [.agg64 (fl (x) ++ fl (y))] (HP e) (.agg64 (fl (adA x y) ++ fl (adB x y) ++ fl (adC x y))) [] := by
 refine meets_of_ev (nt := 25) Tryz.func76 rfl rfl (Nat.le_of_ble_eq_true rfl) ?_
 refine .seq ?_
 refine .region ?_
 refine .a (op_boxRow rfl rfl) trivial rfl ?_
 refine .a (op_allocRow zero102 rel_zero102 rfl) trivial rfl ?_
 refine .nil ?_
 show Ev _ _ _ _ _
 refine .seq ?_
 refine .region ?_
 refine .q (op_fieldAddr (m := 3) Tryz.underlying57 rfl sz55 rfl) trivial rfl ?_
 refine .q (op_loadPart (r := .agg64 (fl (x))) (cs := (fl (x)).map AV.u64) Tryz.underlying55 rfl sz55 rfl rfl rfl rfl rfl (Nat.le_of_ble_eq_true rfl)) trivial rfl ?_
 refine .q (op_fieldAddr (m := 3) Tryz.underlying57 rfl sz55 rfl) trivial rfl ?_
 refine .q (op_loadPart (r := .agg64 (fl (y))) (cs := (fl (y)).map AV.u64) Tryz.underlying55 rfl sz55 rfl rfl rfl rfl rfl (Nat.le_of_ble_eq_true rfl)) trivial rfl ?_
 refine .q (op_call (U := []) [] [] (kmul_ev _ _ (by first | assumption | exact mF_lt _ _ | exact aF_lt _ _ | exact sF_lt _ _ | exact nF_lt _ | exact fmod_lt _ | exact Nat.mod_lt _ fpos | exact dV_lt | decide) (by first | assumption | exact mF_lt _ _ | exact aF_lt _ _ | exact sF_lt _ _ | exact nF_lt _ | exact fmod_lt _ | exact Nat.mod_lt _ fpos | exact dV_lt | decide)) Tryz.func55 (by kernel_rfl) rfl rfl rfl (⟨⟨_, rfl, rfl, rfl⟩, ⟨_, rfl, rfl, rfl⟩, trivial⟩) (trivial) (trivial) (trivial) rfl) trivial rfl ?_
 refine .q (op_call (U := []) [] [] (kofD_ev) Tryz.func50 (by kernel_rfl) rfl rfl rfl (⟨⟨_, rfl, rfl, rfl⟩, trivial⟩) (trivial) (trivial) (trivial) rfl) trivial rfl ?_
 refine .q (op_call (U := []) [] [] (kmul_ev _ _ (by first | assumption | exact mF_lt _ _ | exact aF_lt _ _ | exact sF_lt _ _ | exact nF_lt _ | exact fmod_lt _ | exact Nat.mod_lt _ fpos | exact dV_lt | decide) (by first | assumption | exact mF_lt _ _ | exact aF_lt _ _ | exact sF_lt _ _ | exact nF_lt _ | exact fmod_lt _ | exact Nat.mod_lt _ fpos | exact dV_lt | decide)) Tryz.func55 (by kernel_rfl) rfl rfl rfl (⟨⟨_, rfl, rfl, rfl⟩, ⟨_, rfl, rfl, rfl⟩, trivial⟩) (trivial) (trivial) (trivial) rfl) trivial rfl ?_
 refine .a (op_allocRow zero55 rel_zero55 rfl) trivial rfl ?_
 refine .w (op_storeRow sz55 rfl rfl rfl rfl rfl (rfl) (rfl)) trivial rfl ?_
 refine .nil ?_
 show Ev _ _ _ _ _
 refine .seq ?_
 refine .drawn [[], [0], [], [2], [0, 1, 2, 3], [], [5], [], [7], [0, 1, 2, 3, 4, 5, 6, 7, 8], [], [], [0, 1, 2, 3, 4, 5, 6, 7, 8, 9, 10, 11], [0, 1, 2, 3, 4, 5, 6, 7, 8, 9, 10, 11, 12], [0, 1, 2, 3, 4, 5, 6, 7, 8, 9, 10, 11, 12, 13]] [1, 3, 4, 6, 8, 9, 10, 11, 12, 14] [14] (by kernel_rfl) (by kernel_rfl) rfl ?_
 show DK _ [0, 1, 2, 3, 4, 5, 6, 7, 8, 9, 10, 11, 12, 13, 14] _ _ _
 refine .q rfl (op_fieldAddr (m := 3) Tryz.underlying57 rfl sz55 rfl) trivial ?_
 refine .q rfl (op_loadPart (r := .agg64 (fl (y))) (cs := (fl (y)).map AV.u64) Tryz.underlying55 rfl sz55 rfl rfl rfl rfl rfl (Nat.le_of_ble_eq_true rfl)) trivial ?_
 refine .q rfl (op_fieldAddr (m := 3) Tryz.underlying57 rfl sz55 rfl) trivial ?_
 refine .q rfl (op_loadPart (r := .agg64 (fl (x))) (cs := (fl (x)).map AV.u64) Tryz.underlying55 rfl sz55 rfl rfl rfl rfl rfl (Nat.le_of_ble_eq_true rfl)) trivial ?_
 refine .q rfl (op_call (U := []) [] [] (kadd_ev _ _ (by first | assumption | exact mF_lt _ _ | exact aF_lt _ _ | exact sF_lt _ _ | exact nF_lt _ | exact fmod_lt _ | exact Nat.mod_lt _ fpos | exact dV_lt | decide) (by first | assumption | exact mF_lt _ _ | exact aF_lt _ _ | exact sF_lt _ _ | exact nF_lt _ | exact fmod_lt _ | exact Nat.mod_lt _ fpos | exact dV_lt | decide)) Tryz.func56 (by kernel_rfl) rfl rfl rfl (⟨⟨_, rfl, rfl, rfl⟩, ⟨_, rfl, rfl, rfl⟩, trivial⟩) (trivial) (trivial) (trivial) rfl) trivial ?_
 refine .q rfl (op_fieldAddr (m := 3) Tryz.underlying57 rfl sz55 rfl) trivial ?_
 refine .q rfl (op_loadPart (r := .agg64 (fl (y))) (cs := (fl (y)).map AV.u64) Tryz.underlying55 rfl sz55 rfl rfl rfl rfl rfl (Nat.le_of_ble_eq_true rfl)) trivial ?_
 refine .q rfl (op_fieldAddr (m := 3) Tryz.underlying57 rfl sz55 rfl) trivial ?_
 refine .q rfl (op_loadPart (r := .agg64 (fl (x))) (cs := (fl (x)).map AV.u64) Tryz.underlying55 rfl sz55 rfl rfl rfl rfl rfl (Nat.le_of_ble_eq_true rfl)) trivial ?_
 refine .q rfl (op_call (U := []) [] [] (ksub_ev e _ _ (by first | assumption | exact mF_lt _ _ | exact aF_lt _ _ | exact sF_lt _ _ | exact nF_lt _ | exact fmod_lt _ | exact Nat.mod_lt _ fpos | exact dV_lt | decide) (by first | assumption | exact mF_lt _ _ | exact aF_lt _ _ | exact sF_lt _ _ | exact nF_lt _ | exact fmod_lt _ | exact Nat.mod_lt _ fpos | exact dV_lt | decide)) Tryz.func54 (by kernel_rfl) rfl rfl rfl (⟨⟨_, rfl, rfl, rfl⟩, ⟨_, rfl, rfl, rfl⟩, trivial⟩) (⟨⟨_, _, rfl, rfl, rfl, rfl, id, rfl⟩, trivial⟩) (trivial) (⟨(fun h => by cases h), trivial⟩) rfl) trivial ?_
 refine .q rfl (op_loadRow Tryz.underlying55 rfl sz55 rfl rfl rfl (rfl)) trivial ?_
 refine .q rfl (op_loadRow Tryz.underlying55 rfl sz55 rfl rfl rfl (rfl)) trivial ?_
 refine .q rfl (op_call (U := []) [] [] (kadd_ev _ _ (by first | assumption | exact mF_lt _ _ | exact aF_lt _ _ | exact sF_lt _ _ | exact nF_lt _ | exact fmod_lt _ | exact Nat.mod_lt _ fpos | exact dV_lt | decide) (by first | assumption | exact mF_lt _ _ | exact aF_lt _ _ | exact sF_lt _ _ | exact nF_lt _ | exact fmod_lt _ | exact Nat.mod_lt _ fpos | exact dV_lt | decide)) Tryz.func56 (by kernel_rfl) rfl rfl rfl (⟨⟨_, rfl, rfl, rfl⟩, ⟨_, rfl, rfl, rfl⟩, trivial⟩) (trivial) (trivial) (trivial) rfl) trivial ?_
 refine .q rfl (op_buildS (r := .agg64 (fl (adA x y) ++ fl (adB x y) ++ fl (adC x y))) Tryz.underlying102 rfl zero102 rel_zero102 rfl rfl rfl rfl) trivial ?_
 refine .w rfl (op_storeRow sz102 rfl rfl rfl rfl rfl (rfl) (rfl)) trivial rfl rfl ?_
 refine .nil ?_
 show Ev _ _ _ _ _
 refine .ret ?_
 show RetOk _ _ _ _ _ _ _
 exact retc1 rfl (.inl rfl) ⟨_, _, _, _, rfl, rfl, rfl, rfl, (rfl), Tryz.underlying102, rfl, sz102⟩ trivial
set_option maxRecDepth 100000 in
theorem kneut_ev  : Meets Tryz.prog 77 [] [] (.agg64 (fl 0 ++ fl 1 ++ fl 1 ++ fl 0)) [] := by
 refine meets_of_ev (nt := 4) Tryz.func77 rfl rfl (Nat.le_of_ble_eq_true rfl) ?_
 refine .seq ?_
 refine .region ?_
 refine .a (op_allocRow zero65 rel_zero65 rfl) trivial rfl ?_
 refine .nil ?_
 show Ev _ _ _ _ _
 refine .seq ?_
 refine .region ?_
 refine .q (op_call (U := []) [] [] (fsmall_ev _) Tryz.func51 (by kernel_rfl) rfl rfl rfl (⟨⟨_, rfl, rfl, rfl⟩, trivial⟩) (trivial) (trivial) (trivial) rfl) trivial rfl ?_
 refine .q (op_call (U := []) [] [] (fsmall_ev _) Tryz.func51 (by kernel_rfl) rfl rfl rfl (⟨⟨_, rfl, rfl, rfl⟩, trivial⟩) (trivial) (trivial) (trivial) rfl) trivial rfl ?_
 refine .q (op_buildS (r := .agg64 (fl 0 ++ fl 1 ++ fl 1 ++ fl 0)) Tryz.underlying65 rfl zero65 rel_zero65 rfl rfl rfl rfl) trivial rfl ?_
 refine .w (op_storeRow sz65 rfl rfl rfl rfl rfl (rfl) (rfl)) trivial rfl ?_
 refine .nil ?_
 show Ev _ _ _ _ _
 refine .ret ?_
 show RetOk _ _ _ _ _ _ _
 exact retc1 rfl (.inl rfl) ⟨_, _, _, _, rfl, rfl, rfl, rfl, (rfl), Tryz.underlying65, rfl, sz65⟩ trivial
set_option maxRecDepth 100000 in
theorem kratio_ev (x1 x2 y1 y2 : Nat) (h1 : x1 < fp) (h2 : x2 < fp) (h3 : y1 < fp) (h4 : y2 < fp) : Meets Tryz.prog 115 [.agg64 (fl x1), .agg64 (fl x2), .agg64 (fl y1), .agg64 (fl y2)] [] (.agg64 (fl (ratioN x1 x2 y1 y2).1 ++ fl (ratioN x1 x2 y1 y2).2.1 ++ fl (ratioN x1 x2 y1 y2).2.2.1 ++ fl (ratioN x1 x2 y1 y2).2.2.2)) [] := by
 refine meets_of_ev (nt := 22) Tryz.func115 rfl rfl (Nat.le_of_ble_eq_true rfl) ?_
 refine .seq ?_
 refine .region ?_
 refine .a (op_boxRow rfl rfl) trivial rfl ?_
 refine .a (op_boxRow rfl rfl) trivial rfl ?_
 refine .a (op_boxRow rfl rfl) trivial rfl ?_
 refine .a (op_boxRow rfl rfl) trivial rfl ?_
 refine .a (op_allocRow zero65 rel_zero65 rfl) trivial rfl ?_
 refine .nil ?_
 show Ev _ _ _ _ _
 refine .seq ?_
 refine .drawn [[], [], [0, 1], [], [], [0, 1, 2, 3, 4], [], [], [0, 1, 2, 3, 4, 5, 6, 7], [], [], [0, 1, 2, 3, 4, 5, 6, 7, 8, 9, 10], [0, 1, 2, 3, 4, 5, 6, 7, 8, 9, 10, 11], [0, 1, 2, 3, 4, 5, 6, 7, 8, 9, 10, 11, 12]] [0, 1, 2, 3, 4, 5, 6, 7, 8, 9, 10, 11, 13] [13] (by kernel_rfl) (by kernel_rfl) rfl ?_
 show DK _ [0, 1, 2, 3, 4, 5, 6, 7, 8, 9, 10, 11, 12, 13] _ _ _
 refine .q rfl (op_loadRow Tryz.underlying55 rfl sz55 rfl rfl rfl (rfl)) trivial ?_
 refine .q rfl (op_loadRow Tryz.underlying55 rfl sz55 rfl rfl rfl (rfl)) trivial ?_
 refine .q rfl (op_call (U := []) [] [] (kmul_ev _ _ (by first | assumption | exact mF_lt _ _ | exact aF_lt _ _ | exact sF_lt _ _ | exact nF_lt _ | exact fmod_lt _ | exact Nat.mod_lt _ fpos | exact dV_lt | decide) (by first | assumption | exact mF_lt _ _ | exact aF_lt _ _ | exact sF_lt _ _ | exact nF_lt _ | exact fmod_lt _ | exact Nat.mod_lt _ fpos | exact dV_lt | decide)) Tryz.func55 (by kernel_rfl) rfl rfl rfl (⟨⟨_, rfl, rfl, rfl⟩, ⟨_, rfl, rfl, rfl⟩, trivial⟩) (trivial) (trivial) (trivial) rfl) trivial ?_
 refine .q rfl (op_loadRow Tryz.underlying55 rfl sz55 rfl rfl rfl (rfl)) trivial ?_
 refine .q rfl (op_loadRow Tryz.underlying55 rfl sz55 rfl rfl rfl (rfl)) trivial ?_
 refine .q rfl (op_call (U := []) [] [] (kmul_ev _ _ (by first | assumption | exact mF_lt _ _ | exact aF_lt _ _ | exact sF_lt _ _ | exact nF_lt _ | exact fmod_lt _ | exact Nat.mod_lt _ fpos | exact dV_lt | decide) (by first | assumption | exact mF_lt _ _ | exact aF_lt _ _ | exact sF_lt _ _ | exact nF_lt _ | exact fmod_lt _ | exact Nat.mod_lt _ fpos | exact dV_lt | decide)) Tryz.func55 (by kernel_rfl) rfl rfl rfl (⟨⟨_, rfl, rfl, rfl⟩, ⟨_, rfl, rfl, rfl⟩, trivial⟩) (trivial) (trivial) (trivial) rfl) trivial ?_
 refine .q rfl (op_loadRow Tryz.underlying55 rfl sz55 rfl rfl rfl (rfl)) trivial ?_
 refine .q rfl (op_loadRow Tryz.underlying55 rfl sz55 rfl rfl rfl (rfl)) trivial ?_
 refine .q rfl (op_call (U := []) [] [] (kmul_ev _ _ (by first | assumption | exact mF_lt _ _ | exact aF_lt _ _ | exact sF_lt _ _ | exact nF_lt _ | exact fmod_lt _ | exact Nat.mod_lt _ fpos | exact dV_lt | decide) (by first | assumption | exact mF_lt _ _ | exact aF_lt _ _ | exact sF_lt _ _ | exact nF_lt _ | exact fmod_lt _ | exact Nat.mod_lt _ fpos | exact dV_lt | decide)) Tryz.func55 (by kernel_rfl) rfl rfl rfl (⟨⟨_, rfl, rfl, rfl⟩, ⟨_, rfl, rfl, rfl⟩, trivial⟩) (trivial) (trivial) (trivial) rfl) trivial ?_
 refine .q rfl (op_loadRow Tryz.underlying55 rfl sz55 rfl rfl rfl (rfl)) trivial ?_
 refine .q rfl (op_loadRow Tryz.underlying55 rfl sz55 rfl rfl rfl (rfl)) trivial ?_
 refine .q rfl (op_call (U := []) [] [] (kmul_ev _ _ (by first | assumption | exact mF_lt _ _ | exact aF_lt _ _ | exact sF_lt _ _ | exact nF_lt _ | exact fmod_lt _ | exact Nat.mod_lt _ fpos | exact dV_lt | decide) (by first | assumption | exact mF_lt _ _ | exact aF_lt _ _ | exact sF_lt _ _ | exact nF_lt _ | exact fmod_lt _ | exact Nat.mod_lt _ fpos | exact dV_lt | decide)) Tryz.func55 (by kernel_rfl) rfl rfl rfl (⟨⟨_, rfl, rfl, rfl⟩, ⟨_, rfl, rfl, rfl⟩, trivial⟩) (trivial) (trivial) (trivial) rfl) trivial ?_
 refine .q rfl (op_buildS (r := .agg64 (fl (mF x1 y2) ++ fl (mF y1 x2) ++ fl (mF x2 y2) ++ fl (mF x1 y1))) Tryz.underlying65 rfl zero65 rel_zero65 rfl rfl rfl rfl) trivial ?_
 refine .w rfl (op_storeRow sz65 rfl rfl rfl rfl rfl (rfl) (rfl)) trivial rfl rfl ?_
 refine .nil ?_
 show Ev _ _ _ _ _
 refine .ret ?_
 show RetOk _ _ _ _ _ _ _
 exact retc1 rfl (.inl rfl) ⟨_, _, _, _, rfl, rfl, rfl, rfl, (rfl), Tryz.underlying65, rfl, sz65⟩ trivial
set_option maxRecDepth 100000 in
theorem kplus_ev (e : Nat) (q : Q4) (a b c : Nat) (hq : QL q) (ha : a < fp) (hb : b < fp) (hc : c < fp) : Meets Tryz.prog 80 [.agg64 (fl (q).1 ++ fl (q).2.1 ++ fl (q).2.2.1 ++ fl (q).2.2.2), .agg64 (fl a ++ fl b ++ fl c)] (HP e) (.agg64 (fl (plusQ q a b c).1 ++ fl (plusQ q a b c).2.1 ++ fl (plusQ q a b c).2.2.1 ++ fl (plusQ q a b c).2.2.2)) [] := by
 have hq1 := hq.1
 have hq2 := hq.2.1
 have hq3 := hq.2.2.1
 have hq4 := hq.2.2.2
 refine meets_of_ev (nt := 48) Tryz.func80 rfl rfl (Nat.le_of_ble_eq_true rfl) ?_
 refine .seq ?_
 refine .region ?_
 refine .a (op_boxRow rfl rfl) trivial rfl ?_
 refine .a (op_boxRow rfl rfl) trivial rfl ?_
 refine .a (op_allocRow zero65 rel_zero65 rfl) trivial rfl ?_
 refine .nil ?_
 show Ev _ _ _ _ _
 refine .seq ?_
 refine .drawn [[], [0], [], [2], [0, 1, 2, 3], [], [5], [0, 1, 2, 3, 4, 5, 6], [], [8], [], [10], [0, 1, 2, 3, 4, 5, 6, 7, 8, 9, 10, 11], [], [13], [0, 1, 2, 3, 4, 5, 6, 7, 8, 9, 10, 11, 12, 13, 14], [], [], [0, 1, 2, 3, 4, 5, 6, 7, 8, 9, 10, 11, 12, 13, 14, 15, 16, 17], [0, 1, 2, 3, 4, 5, 6, 7, 8, 9, 10, 11, 12, 13, 14, 15, 16, 17, 18]] [1, 3, 4, 6, 7, 9, 11, 12, 14, 15, 16, 17, 18, 19] [18, 19] (by kernel_rfl) (by kernel_rfl) rfl ?_
 show DK _ [0, 1, 2, 3, 4, 5, 6, 7, 8, 9, 10, 11, 12, 13, 14, 15, 16, 17, 18, 19] _ _ _
 refine .q rfl (op_fieldAddr (m := 3) Tryz.underlying65 rfl sz55 rfl) trivial ?_
 refine .q rfl (op_loadPart (r := .agg64 (fl (q.2.1))) (cs := (fl (q.2.1)).map AV.u64) Tryz.underlying55 rfl sz55 rfl rfl rfl rfl rfl (Nat.le_of_ble_eq_true rfl)) trivial ?_
 refine .q rfl (op_fieldAddr (m := 3) Tryz.underlying65 rfl sz55 rfl) trivial ?_
 refine .q rfl (op_loadPart (r := .agg64 (fl (q.1))) (cs := (fl (q.1)).map AV.u64) Tryz.underlying55 rfl sz55 rfl rfl rfl rfl rfl (Nat.le_of_ble_eq_true rfl)) trivial ?_
 refine .q rfl (op_call (U := []) [] [] (kadd_ev _ _ (by first | assumption | exact mF_lt _ _ | exact aF_lt _ _ | exact sF_lt _ _ | exact nF_lt _ | exact fmod_lt _ | exact Nat.mod_lt _ fpos | exact dV_lt | decide) (by first | assumption | exact mF_lt _ _ | exact aF_lt _ _ | exact sF_lt _ _ | exact nF_lt _ | exact fmod_lt _ | exact Nat.mod_lt _ fpos | exact dV_lt | decide)) Tryz.func56 (by kernel_rfl) rfl rfl rfl (⟨⟨_, rfl, rfl, rfl⟩, ⟨_, rfl, rfl, rfl⟩, trivial⟩) (trivial) (trivial) (trivial) rfl) trivial ?_
 refine .q rfl (op_fieldAddr (m := 3) Tryz.underlying102 rfl sz55 rfl) trivial ?_
 refine .q rfl (op_loadPart (r := .agg64 (fl (a))) (cs := (fl (a)).map AV.u64) Tryz.underlying55 rfl sz55 rfl rfl rfl rfl rfl (Nat.le_of_ble_eq_true rfl)) trivial ?_
 refine .q rfl (op_call (U := []) [] [] (kmul_ev _ _ (by first | assumption | exact mF_lt _ _ | exact aF_lt _ _ | exact sF_lt _ _ | exact nF_lt _ | exact fmod_lt _ | exact Nat.mod_lt _ fpos | exact dV_lt | decide) (by first | assumption | exact mF_lt _ _ | exact aF_lt _ _ | exact sF_lt _ _ | exact nF_lt _ | exact fmod_lt _ | exact Nat.mod_lt _ fpos | exact dV_lt | decide)) Tryz.func55 (by kernel_rfl) rfl rfl rfl (⟨⟨_, rfl, rfl, rfl⟩, ⟨_, rfl, rfl, rfl⟩, trivial⟩) (trivial) (trivial) (trivial) rfl) trivial ?_
 refine .q rfl (op_fieldAddr (m := 3) Tryz.underlying65 rfl sz55 rfl) trivial ?_
 refine .q rfl (op_loadPart (r := .agg64 (fl (q.2.1))) (cs := (fl (q.2.1)).map AV.u64) Tryz.underlying55 rfl sz55 rfl rfl rfl rfl rfl (Nat.le_of_ble_eq_true rfl)) trivial ?_
 refine .q rfl (op_fieldAddr (m := 3) Tryz.underlying65 rfl sz55 rfl) trivial ?_
 refine .q rfl (op_loadPart (r := .agg64 (fl (q.1))) (cs := (fl (q.1)).map AV.u64) Tryz.underlying55 rfl sz55 rfl rfl rfl rfl rfl (Nat.le_of_ble_eq_true rfl)) trivial ?_
 refine .q rfl (op_call (U := []) [] [] (ksub_ev e _ _ (by first | assumption | exact mF_lt _ _ | exact aF_lt _ _ | exact sF_lt _ _ | exact nF_lt _ | exact fmod_lt _ | exact Nat.mod_lt _ fpos | exact dV_lt | decide) (by first | assumption | exact mF_lt _ _ | exact aF_lt _ _ | exact sF_lt _ _ | exact nF_lt _ | exact fmod_lt _ | exact Nat.mod_lt _ fpos | exact dV_lt | decide)) Tryz.func54 (by kernel_rfl) rfl rfl rfl (⟨⟨_, rfl, rfl, rfl⟩, ⟨_, rfl, rfl, rfl⟩, trivial⟩) (⟨⟨_, _, rfl, rfl, rfl, rfl, id, rfl⟩, trivial⟩) (trivial) (⟨(fun h => by cases h), trivial⟩) rfl) trivial ?_
 refine .q rfl (op_fieldAddr (m := 3) Tryz.underlying102 rfl sz55 rfl) trivial ?_
 refine .q rfl (op_loadPart (r := .agg64 (fl (b))) (cs := (fl (b)).map AV.u64) Tryz.underlying55 rfl sz55 rfl rfl rfl rfl rfl (Nat.le_of_ble_eq_true rfl)) trivial ?_
 refine .q rfl (op_call (U := []) [] [] (kmul_ev _ _ (by first | assumption | exact mF_lt _ _ | exact aF_lt _ _ | exact sF_lt _ _ | exact nF_lt _ | exact fmod_lt _ | exact Nat.mod_lt _ fpos | exact dV_lt | decide) (by first | assumption | exact mF_lt _ _ | exact aF_lt _ _ | exact sF_lt _ _ | exact nF_lt _ | exact fmod_lt _ | exact Nat.mod_lt _ fpos | exact dV_lt | decide)) Tryz.func55 (by kernel_rfl) rfl rfl rfl (⟨⟨_, rfl, rfl, rfl⟩, ⟨_, rfl, rfl, rfl⟩, trivial⟩) (trivial) (trivial) (trivial) rfl) trivial ?_
 refine .a rfl (op_allocRow zero55 rel_zero55 rfl) trivial rfl rfl ?_
 refine .a rfl (op_allocRow zero55 rel_zero55 rfl) trivial rfl rfl ?_
 refine .w rfl (op_storeRow sz55 rfl rfl rfl rfl rfl (rfl) (rfl)) trivial rfl rfl ?_
 refine .w rfl (op_storeRow sz55 rfl rfl rfl rfl rfl (rfl) (rfl)) trivial rfl rfl ?_
 refine .nil ?_
 show Ev _ _ _ _ _
 refine .seq ?_
 refine .drawn [[], [0], [], [2], [0, 1, 2, 3], [], [5], [], [7], [0, 1, 2, 3, 4, 5, 6, 7, 8], [], [], [0, 1, 2, 3, 4, 5, 6, 7, 8, 9, 10, 11], [0, 1, 2, 3, 4, 5, 6, 7, 8, 9, 10, 11, 12]] [1, 3, 4, 6, 8, 9, 10, 11, 12, 13] [12, 13] (by kernel_rfl) (by kernel_rfl) rfl ?_
 show DK _ [0, 1, 2, 3, 4, 5, 6, 7, 8, 9, 10, 11, 12, 13] _ _ _
 refine .q rfl (op_fieldAddr (m := 3) Tryz.underlying65 rfl sz55 rfl) trivial ?_
 refine .q rfl (op_loadPart (r := .agg64 (fl (q.2.2.1))) (cs := (fl (q.2.2.1)).map AV.u64) Tryz.underlying55 rfl sz55 rfl rfl rfl rfl rfl (Nat.le_of_ble_eq_true rfl)) trivial ?_
 refine .q rfl (op_fieldAddr (m := 3) Tryz.underlying65 rfl sz55 rfl) trivial ?_
 refine .q rfl (op_loadPart (r := .agg64 (fl (q.2.2.1))) (cs := (fl (q.2.2.1)).map AV.u64) Tryz.underlying55 rfl sz55 rfl rfl rfl rfl rfl (Nat.le_of_ble_eq_true rfl)) trivial ?_
 refine .q rfl (op_call (U := []) [] [] (kadd_ev _ _ (by first | assumption | exact mF_lt _ _ | exact aF_lt _ _ | exact sF_lt _ _ | exact nF_lt _ | exact fmod_lt _ | exact Nat.mod_lt _ fpos | exact dV_lt | decide) (by first | assumption | exact mF_lt _ _ | exact aF_lt _ _ | exact sF_lt _ _ | exact nF_lt _ | exact fmod_lt _ | exact Nat.mod_lt _ fpos | exact dV_lt | decide)) Tryz.func56 (by kernel_rfl) rfl rfl rfl (⟨⟨_, rfl, rfl, rfl⟩, ⟨_, rfl, rfl, rfl⟩, trivial⟩) (trivial) (trivial) (trivial) rfl) trivial ?_
 refine .q rfl (op_fieldAddr (m := 3) Tryz.underlying65 rfl sz55 rfl) trivial ?_
 refine .q rfl (op_loadPart (r := .agg64 (fl (q.2.2.2))) (cs := (fl (q.2.2.2)).map AV.u64) Tryz.underlying55 rfl sz55 rfl rfl rfl rfl rfl (Nat.le_of_ble_eq_true rfl)) trivial ?_
 refine .q rfl (op_fieldAddr (m := 3) Tryz.underlying102 rfl sz55 rfl) trivial ?_
 refine .q rfl (op_loadPart (r := .agg64 (fl (c))) (cs := (fl (c)).map AV.u64) Tryz.underlying55 rfl sz55 rfl rfl rfl rfl rfl (Nat.le_of_ble_eq_true rfl)) trivial ?_
 refine .q rfl (op_call (U := []) [] [] (kmul_ev _ _ (by first | assumption | exact mF_lt _ _ | exact aF_lt _ _ | exact sF_lt _ _ | exact nF_lt _ | exact fmod_lt _ | exact Nat.mod_lt _ fpos | exact dV_lt | decide) (by first | assumption | exact mF_lt _ _ | exact aF_lt _ _ | exact sF_lt _ _ | exact nF_lt _ | exact fmod_lt _ | exact Nat.mod_lt _ fpos | exact dV_lt | decide)) Tryz.func55 (by kernel_rfl) rfl rfl rfl (⟨⟨_, rfl, rfl, rfl⟩, ⟨_, rfl, rfl, rfl⟩, trivial⟩) (trivial) (trivial) (trivial) rfl) trivial ?_
 refine .a rfl (op_allocRow zero55 rel_zero55 rfl) trivial rfl rfl ?_
 refine .a rfl (op_allocRow zero55 rel_zero55 rfl) trivial rfl rfl ?_
 refine .w rfl (op_storeRow sz55 rfl rfl rfl rfl rfl (rfl) (rfl)) trivial rfl rfl ?_
 refine .w rfl (op_storeRow sz55 rfl rfl rfl rfl rfl (rfl) (rfl)) trivial rfl rfl ?_
 refine .nil ?_
 show Ev _ _ _ _ _
 refine .seq ?_
 refine .drawn [[], [], [0, 1], [], [], [0, 1, 2, 3, 4], [], [], [0, 1, 2, 3, 4, 5, 6, 7], [], [], [0, 1, 2, 3, 4, 5, 6, 7, 8, 9, 10], [0, 1, 2, 3, 4, 5, 6, 7, 8, 9, 10, 11], [0, 1, 2, 3, 4, 5, 6, 7, 8, 9, 10, 11, 12]] [0, 1, 2, 3, 4, 5, 6, 7, 8, 9, 10, 11, 12, 13] [13] (by kernel_rfl) (by kernel_rfl) rfl ?_
 show DK _ [0, 1, 2, 3, 4, 5, 6, 7, 8, 9, 10, 11, 12, 13] _ _ _
 refine .q rfl (op_loadRow Tryz.underlying55 rfl sz55 rfl rfl rfl (rfl)) trivial ?_
 refine .q rfl (op_loadRow Tryz.underlying55 rfl sz55 rfl rfl rfl (rfl)) trivial ?_
 refine .q rfl (op_call (U := []) [] [] (ksub_ev e _ _ (by first | assumption | exact mF_lt _ _ | exact aF_lt _ _ | exact sF_lt _ _ | exact nF_lt _ | exact fmod_lt _ | exact Nat.mod_lt _ fpos | exact dV_lt | decide) (by first | assumption | exact mF_lt _ _ | exact aF_lt _ _ | exact sF_lt _ _ | exact nF_lt _ | exact fmod_lt _ | exact Nat.mod_lt _ fpos | exact dV_lt | decide)) Tryz.func54 (by kernel_rfl) rfl rfl rfl (⟨⟨_, rfl, rfl, rfl⟩, ⟨_, rfl, rfl, rfl⟩, trivial⟩) (⟨⟨_, _, rfl, rfl, rfl, rfl, id, rfl⟩, trivial⟩) (trivial) (⟨(fun h => by cases h), trivial⟩) rfl) trivial ?_
 refine .q rfl (op_loadRow Tryz.underlying55 rfl sz55 rfl rfl rfl (rfl)) trivial ?_
 refine .q rfl (op_loadRow Tryz.underlying55 rfl sz55 rfl rfl rfl (rfl)) trivial ?_
 refine .q rfl (op_call (U := []) [] [] (kadd_ev _ _ (by first | assumption | exact mF_lt _ _ | exact aF_lt _ _ | exact sF_lt _ _ | exact nF_lt _ | exact fmod_lt _ | exact Nat.mod_lt _ fpos | exact dV_lt | decide) (by first | assumption | exact mF_lt _ _ | exact aF_lt _ _ | exact sF_lt _ _ | exact nF_lt _ | exact fmod_lt _ | exact Nat.mod_lt _ fpos | exact dV_lt | decide)) Tryz.func56 (by kernel_rfl) rfl rfl rfl (⟨⟨_, rfl, rfl, rfl⟩, ⟨_, rfl, rfl, rfl⟩, trivial⟩) (trivial) (trivial) (trivial) rfl) trivial ?_
 refine .q rfl (op_loadRow Tryz.underlying55 rfl sz55 rfl rfl rfl (rfl)) trivial ?_
 refine .q rfl (op_loadRow Tryz.underlying55 rfl sz55 rfl rfl rfl (rfl)) trivial ?_
 refine .q rfl (op_call (U := []) [] [] (kadd_ev _ _ (by first | assumption | exact mF_lt _ _ | exact aF_lt _ _ | exact sF_lt _ _ | exact nF_lt _ | exact fmod_lt _ | exact Nat.mod_lt _ fpos | exact dV_lt | decide) (by first | assumption | exact mF_lt _ _ | exact aF_lt _ _ | exact sF_lt _ _ | exact nF_lt _ | exact fmod_lt _ | exact Nat.mod_lt _ fpos | exact dV_lt | decide)) Tryz.func56 (by kernel_rfl) rfl rfl rfl (⟨⟨_, rfl, rfl, rfl⟩, ⟨_, rfl, rfl, rfl⟩, trivial⟩) (trivial) (trivial) (trivial) rfl) trivial ?_
 refine .q rfl (op_loadRow Tryz.underlying55 rfl sz55 rfl rfl rfl (rfl)) trivial ?_
 refine .q rfl (op_loadRow Tryz.underlying55 rfl sz55 rfl rfl rfl (rfl)) trivial ?_
 refine .q rfl (op_call (U := []) [] [] (ksub_ev e _ _ (by first | assumption | exact mF_lt _ _ | exact aF_lt _ _ | exact sF_lt _ _ | exact nF_lt _ | exact fmod_lt _ | exact Nat.mod_lt _ fpos | exact dV_lt | decide) (by first | assumption | exact mF_lt _ _ | exact aF_lt _ _ | exact sF_lt _ _ | exact nF_lt _ | exact fmod_lt _ | exact Nat.mod_lt _ fpos | exact dV_lt | decide)) Tryz.func54 (by kernel_rfl) rfl rfl rfl (⟨⟨_, rfl, rfl, rfl⟩, ⟨_, rfl, rfl, rfl⟩, trivial⟩) (⟨⟨_, _, rfl, rfl, rfl, rfl, id, rfl⟩, trivial⟩) (trivial) (⟨(fun h => by cases h), trivial⟩) rfl) trivial ?_
 refine .q rfl (op_call (U := []) [] [] (kratio_ev _ _ _ _ (by first | assumption | exact mF_lt _ _ | exact aF_lt _ _ | exact sF_lt _ _ | exact nF_lt _ | exact fmod_lt _ | exact Nat.mod_lt _ fpos | exact dV_lt | decide) (by first | assumption | exact mF_lt _ _ | exact aF_lt _ _ | exact sF_lt _ _ | exact nF_lt _ | exact fmod_lt _ | exact Nat.mod_lt _ fpos | exact dV_lt | decide) (by first | assumption | exact mF_lt _ _ | exact aF_lt _ _ | exact sF_lt _ _ | exact nF_lt _ | exact fmod_lt _ | exact Nat.mod_lt _ fpos | exact dV_lt | decide) (by first | assumption | exact mF_lt _ _ | exact aF_lt _ _ | exact sF_lt _ _ | exact nF_lt _ | exact fmod_lt _ | exact Nat.mod_lt _ fpos | exact dV_lt | decide)) Tryz.func115 (by kernel_rfl) rfl rfl rfl (⟨⟨_, rfl, rfl, rfl⟩, ⟨_, rfl, rfl, rfl⟩, ⟨_, rfl, rfl, rfl⟩, ⟨_, rfl, rfl, rfl⟩, trivial⟩) (trivial) (trivial) (trivial) rfl) trivial ?_
 refine .as (.agg64 (fl (plusQ q a b c).1 ++ fl (plusQ q a b c).2.1 ++ fl (plusQ q a b c).2.2.1 ++ fl (plusQ q a b c).2.2.2)) rfl ?_
 refine .w rfl (op_storeRow sz65 rfl rfl rfl rfl rfl (rfl) (rfl)) trivial rfl rfl ?_
 refine .nil ?_
 show Ev _ _ _ _ _
 refine .ret ?_
 show RetOk _ _ _ _ _ _ _
 exact retc1 rfl (.inl rfl) ⟨_, _, _, _, rfl, rfl, rfl, rfl, (rfl), Tryz.underlying65, rfl, sz65⟩ trivial
set_option maxRecDepth 100000 in
theorem ktwice_ev (e : Nat) (q : Q4) (hq : QL q) : Meets Tryz.prog 79 [.agg64 (fl (q).1 ++ fl (q).2.1 ++ fl (q).2.2.1 ++ fl (q).2.2.2)] (HP e) (.agg64 (fl (twiceQ q).1 ++ fl (twiceQ q).2.1 ++ fl (twiceQ q).2.2.1 ++ fl (twiceQ q).2.2.2)) [] := by
 have hq1 := hq.1
 have hq2 := hq.2.1
 have hq3 := hq.2.2.1
 have hq4 := hq.2.2.2
 refine meets_of_ev (nt := 39) Tryz.func79 rfl rfl (Nat.le_of_ble_eq_true rfl) ?_
 refine .seq ?_
 refine .region ?_
 refine .a (op_boxRow rfl rfl) trivial rfl ?_
 refine .a (op_allocRow zero65 rel_zero65 rfl) trivial rfl ?_
 refine .nil ?_
 show Ev _ _ _ _ _
 refine .seq ?_
 refine .drawn [[], [0], [0, 1], [], [3], [0, 1, 2, 3, 4], [], [6], [0, 1, 2, 3, 4, 5, 6, 7], [], [], [], [0, 1, 2, 3, 4, 5, 6, 7, 8, 9, 10, 11], [0, 1, 2, 3, 4, 5, 6, 7, 8, 9, 10, 11, 12], [0, 1, 2, 3, 4, 5, 6, 7, 8, 9, 10, 11, 12, 13]] [1, 2, 4, 5, 7, 8, 9, 10, 11, 12, 13, 14] [12, 13, 14] (by kernel_rfl) (by kernel_rfl) rfl ?_
 show DK _ [0, 1, 2, 3, 4, 5, 6, 7, 8, 9, 10, 11, 12, 13, 14] _ _ _
 refine .q rfl (op_fieldAddr (m := 3) Tryz.underlying65 rfl sz55 rfl) trivial ?_
 refine .q rfl (op_loadPart (r := .agg64 (fl (q.1))) (cs := (fl (q.1)).map AV.u64) Tryz.underlying55 rfl sz55 rfl rfl rfl rfl rfl (Nat.le_of_ble_eq_true rfl)) trivial ?_
 refine .q rfl (op_call (U := []) [] [] (ksq_ev _ (by first | assumption | exact mF_lt _ _ | exact aF_lt _ _ | exact sF_lt _ _ | exact nF_lt _ | exact fmod_lt _ | exact Nat.mod_lt _ fpos | exact dV_lt | decide)) Tryz.func52 (by kernel_rfl) rfl rfl rfl (⟨⟨_, rfl, rfl, rfl⟩, trivial⟩) (trivial) (trivial) (trivial) rfl) trivial ?_
 refine .q rfl (op_fieldAddr (m := 3) Tryz.underlying65 rfl sz55 rfl) trivial ?_
 refine .q rfl (op_loadPart (r := .agg64 (fl (q.2.1))) (cs := (fl (q.2.1)).map AV.u64) Tryz.underlying55 rfl sz55 rfl rfl rfl rfl rfl (Nat.le_of_ble_eq_true rfl)) trivial ?_
 refine .q rfl (op_call (U := []) [] [] (ksq_ev _ (by first | assumption | exact mF_lt _ _ | exact aF_lt _ _ | exact sF_lt _ _ | exact nF_lt _ | exact fmod_lt _ | exact Nat.mod_lt _ fpos | exact dV_lt | decide)) Tryz.func52 (by kernel_rfl) rfl rfl rfl (⟨⟨_, rfl, rfl, rfl⟩, trivial⟩) (trivial) (trivial) (trivial) rfl) trivial ?_
 refine .q rfl (op_fieldAddr (m := 3) Tryz.underlying65 rfl sz55 rfl) trivial ?_
 refine .q rfl (op_loadPart (r := .agg64 (fl (q.2.2.1))) (cs := (fl (q.2.2.1)).map AV.u64) Tryz.underlying55 rfl sz55 rfl rfl rfl rfl rfl (Nat.le_of_ble_eq_true rfl)) trivial ?_
 refine .q rfl (op_call (U := []) [] [] (ksq_ev _ (by first | assumption | exact mF_lt _ _ | exact aF_lt _ _ | exact sF_lt _ _ | exact nF_lt _ | exact fmod_lt _ | exact Nat.mod_lt _ fpos | exact dV_lt | decide)) Tryz.func52 (by kernel_rfl) rfl rfl rfl (⟨⟨_, rfl, rfl, rfl⟩, trivial⟩) (trivial) (trivial) (trivial) rfl) trivial ?_
 refine .a rfl (op_allocRow zero55 rel_zero55 rfl) trivial rfl rfl ?_
 refine .a rfl (op_allocRow zero55 rel_zero55 rfl) trivial rfl rfl ?_
 refine .a rfl (op_allocRow zero55 rel_zero55 rfl) trivial rfl rfl ?_
 refine .w rfl (op_storeRow sz55 rfl rfl rfl rfl rfl (rfl) (rfl)) trivial rfl rfl ?_
 refine .w rfl (op_storeRow sz55 rfl rfl rfl rfl rfl (rfl) (rfl)) trivial rfl rfl ?_
 refine .w rfl (op_storeRow sz55 rfl rfl rfl rfl rfl (rfl) (rfl)) trivial rfl rfl ?_
 refine .nil ?_
 show Ev _ _ _ _ _
 refine .seq ?_
 refine .drawn [[], [], [0, 1], [], [], [0, 1, 2, 3, 4], [], [], [0, 1, 2, 3, 4, 5, 6, 7], [0, 1, 2, 3, 4, 5, 6, 7, 8]] [0, 1, 2, 3, 4, 5, 6, 7, 8, 9] [8, 9] (by kernel_rfl) (by kernel_rfl) rfl ?_
 show DK _ [0, 1, 2, 3, 4, 5, 6, 7, 8, 9] _ _ _
 refine .q rfl (op_loadRow Tryz.underlying55 rfl sz55 rfl rfl rfl (rfl)) trivial ?_
 refine .q rfl (op_loadRow Tryz.underlying55 rfl sz55 rfl rfl rfl (rfl)) trivial ?_
 refine .q rfl (op_call (U := []) [] [] (kadd_ev _ _ (by first | assumption | exact mF_lt _ _ | exact aF_lt _ _ | exact sF_lt _ _ | exact nF_lt _ | exact fmod_lt _ | exact Nat.mod_lt _ fpos | exact dV_lt | decide) (by first | assumption | exact mF_lt _ _ | exact aF_lt _ _ | exact sF_lt _ _ | exact nF_lt _ | exact fmod_lt _ | exact Nat.mod_lt _ fpos | exact dV_lt | decide)) Tryz.func56 (by kernel_rfl) rfl rfl rfl (⟨⟨_, rfl, rfl, rfl⟩, ⟨_, rfl, rfl, rfl⟩, trivial⟩) (trivial) (trivial) (trivial) rfl) trivial ?_
 refine .q rfl (op_loadRow Tryz.underlying55 rfl sz55 rfl rfl rfl (rfl)) trivial ?_
 refine .q rfl (op_loadRow Tryz.underlying55 rfl sz55 rfl rfl rfl (rfl)) trivial ?_
 refine .q rfl (op_call (U := []) [] [] (ksub_ev e _ _ (by first | assumption | exact mF_lt _ _ | exact aF_lt _ _ | exact sF_lt _ _ | exact nF_lt _ | exact fmod_lt _ | exact Nat.mod_lt _ fpos | exact dV_lt | decide) (by first | assumption | exact mF_lt _ _ | exact aF_lt _ _ | exact sF_lt _ _ | exact nF_lt _ | exact fmod_lt _ | exact Nat.mod_lt _ fpos | exact dV_lt | decide)) Tryz.func54 (by kernel_rfl) rfl rfl rfl (⟨⟨_, rfl, rfl, rfl⟩, ⟨_, rfl, rfl, rfl⟩, trivial⟩) (⟨⟨_, _, rfl, rfl, rfl, rfl, id, rfl⟩, trivial⟩) (trivial) (⟨(fun h => by cases h), trivial⟩) rfl) trivial ?_
 refine .a rfl (op_allocRow zero55 rel_zero55 rfl) trivial rfl rfl ?_
 refine .a rfl (op_allocRow zero55 rel_zero55 rfl) trivial rfl rfl ?_
 refine .w rfl (op_storeRow sz55 rfl rfl rfl rfl rfl (rfl) (rfl)) trivial rfl rfl ?_
 refine .w rfl (op_storeRow sz55 rfl rfl rfl rfl rfl (rfl) (rfl)) trivial rfl rfl ?_
 refine .nil ?_
 show Ev _ _ _ _ _
 refine .seq ?_
 refine .drawn [[], [0], [], [2], [0, 1, 2, 3], [0, 1, 2, 3, 4], [], [0, 1, 2, 3, 4, 5, 6], [], [], [], [], [0, 1, 2, 3, 4, 5, 6, 7, 10, 11], [], [0, 1, 2, 3, 4, 5, 6, 7, 10, 11, 12, 13], [0, 1, 2, 3, 4, 5, 6, 7, 8, 9, 10, 11, 12, 13, 14], [0, 1, 2, 3, 4, 5, 6, 7, 8, 9, 10, 11, 12, 13, 14, 15]] [1, 3, 4, 5, 6, 7, 8, 9, 10, 11, 12, 13, 14, 15, 16] [16] (by kernel_rfl) (by kernel_rfl) rfl ?_
 show DK _ [0, 1, 2, 3, 4, 5, 6, 7, 8, 9, 10, 11, 12, 13, 14, 15, 16] _ _ _
 refine .q rfl (op_fieldAddr (m := 3) Tryz.underlying65 rfl sz55 rfl) trivial ?_
 refine .q rfl (op_loadPart (r := .agg64 (fl (q.1))) (cs := (fl (q.1)).map AV.u64) Tryz.underlying55 rfl sz55 rfl rfl rfl rfl rfl (Nat.le_of_ble_eq_true rfl)) trivial ?_
 refine .q rfl (op_fieldAddr (m := 3) Tryz.underlying65 rfl sz55 rfl) trivial ?_
 refine .q rfl (op_loadPart (r := .agg64 (fl (q.2.1))) (cs := (fl (q.2.1)).map AV.u64) Tryz.underlying55 rfl sz55 rfl rfl rfl rfl rfl (Nat.le_of_ble_eq_true rfl)) trivial ?_
 refine .q rfl (op_call (U := []) [] [] (kadd_ev _ _ (by first | assumption | exact mF_lt _ _ | exact aF_lt _ _ | exact sF_lt _ _ | exact nF_lt _ | exact fmod_lt _ | exact Nat.mod_lt _ fpos | exact dV_lt | decide) (by first | assumption | exact mF_lt _ _ | exact aF_lt _ _ | exact sF_lt _ _ | exact nF_lt _ | exact fmod_lt _ | exact Nat.mod_lt _ fpos | exact dV_lt | decide)) Tryz.func56 (by kernel_rfl) rfl rfl rfl (⟨⟨_, rfl, rfl, rfl⟩, ⟨_, rfl, rfl, rfl⟩, trivial⟩) (trivial) (trivial) (trivial) rfl) trivial ?_
 refine .q rfl (op_call (U := []) [] [] (ksq_ev _ (by first | assumption | exact mF_lt _ _ | exact aF_lt _ _ | exact sF_lt _ _ | exact nF_lt _ | exact fmod_lt _ | exact Nat.mod_lt _ fpos | exact dV_lt | decide)) Tryz.func52 (by kernel_rfl) rfl rfl rfl (⟨⟨_, rfl, rfl, rfl⟩, trivial⟩) (trivial) (trivial) (trivial) rfl) trivial ?_
 refine .q rfl (op_loadRow Tryz.underlying55 rfl sz55 rfl rfl rfl (rfl)) trivial ?_
 refine .q rfl (op_call (U := []) [] [] (ksub_ev e _ _ (by first | assumption | exact mF_lt _ _ | exact aF_lt _ _ | exact sF_lt _ _ | exact nF_lt _ | exact fmod_lt _ | exact Nat.mod_lt _ fpos | exact dV_lt | decide) (by first | assumption | exact mF_lt _ _ | exact aF_lt _ _ | exact sF_lt _ _ | exact nF_lt _ | exact fmod_lt _ | exact Nat.mod_lt _ fpos | exact dV_lt | decide)) Tryz.func54 (by kernel_rfl) rfl rfl rfl (⟨⟨_, rfl, rfl, rfl⟩, ⟨_, rfl, rfl, rfl⟩, trivial⟩) (⟨⟨_, _, rfl, rfl, rfl, rfl, id, rfl⟩, trivial⟩) (trivial) (⟨(fun h => by cases h), trivial⟩) rfl) trivial ?_
 refine .q rfl (op_loadRow Tryz.underlying55 rfl sz55 rfl rfl rfl (rfl)) trivial ?_
 refine .q rfl (op_loadRow Tryz.underlying55 rfl sz55 rfl rfl rfl (rfl)) trivial ?_
 refine .q rfl (op_loadRow Tryz.underlying55 rfl sz55 rfl rfl rfl (rfl)) trivial ?_
 refine .q rfl (op_loadRow Tryz.underlying55 rfl sz55 rfl rfl rfl (rfl)) trivial ?_
 refine .q rfl (op_call (U := []) [] [] (kadd_ev _ _ (by first | assumption | exact mF_lt _ _ | exact aF_lt _ _ | exact sF_lt _ _ | exact nF_lt _ | exact fmod_lt _ | exact Nat.mod_lt _ fpos | exact dV_lt | decide) (by first | assumption | exact mF_lt _ _ | exact aF_lt _ _ | exact sF_lt _ _ | exact nF_lt _ | exact fmod_lt _ | exact Nat.mod_lt _ fpos | exact dV_lt | decide)) Tryz.func56 (by kernel_rfl) rfl rfl rfl (⟨⟨_, rfl, rfl, rfl⟩, ⟨_, rfl, rfl, rfl⟩, trivial⟩) (trivial) (trivial) (trivial) rfl) trivial ?_
 refine .q rfl (op_loadRow Tryz.underlying55 rfl sz55 rfl rfl rfl (rfl)) trivial ?_
 refine .q rfl (op_call (U := []) [] [] (ksub_ev e _ _ (by first | assumption | exact mF_lt _ _ | exact aF_lt _ _ | exact sF_lt _ _ | exact nF_lt _ | exact fmod_lt _ | exact Nat.mod_lt _ fpos | exact dV_lt | decide) (by first | assumption | exact mF_lt _ _ | exact aF_lt _ _ | exact sF_lt _ _ | exact nF_lt _ | exact fmod_lt _ | exact Nat.mod_lt _ fpos | exact dV_lt | decide)) Tryz.func54 (by kernel_rfl) rfl rfl rfl (⟨⟨_, rfl, rfl, rfl⟩, ⟨_, rfl, rfl, rfl⟩, trivial⟩) (⟨⟨_, _, rfl, rfl, rfl, rfl, id, rfl⟩, trivial⟩) (trivial) (⟨(fun h => by cases h), trivial⟩) rfl) trivial ?_
 refine .q rfl (op_call (U := []) [] [] (kratio_ev _ _ _ _ (by first | assumption | exact mF_lt _ _ | exact aF_lt _ _ | exact sF_lt _ _ | exact nF_lt _ | exact fmod_lt _ | exact Nat.mod_lt _ fpos | exact dV_lt | decide) (by first | assumption | exact mF_lt _ _ | exact aF_lt _ _ | exact sF_lt _ _ | exact nF_lt _ | exact fmod_lt _ | exact Nat.mod_lt _ fpos | exact dV_lt | decide) (by first | assumption | exact mF_lt _ _ | exact aF_lt _ _ | exact sF_lt _ _ | exact nF_lt _ | exact fmod_lt _ | exact Nat.mod_lt _ fpos | exact dV_lt | decide) (by first | assumption | exact mF_lt _ _ | exact aF_lt _ _ | exact sF_lt _ _ | exact nF_lt _ | exact fmod_lt _ | exact Nat.mod_lt _ fpos | exact dV_lt | decide)) Tryz.func115 (by kernel_rfl) rfl rfl rfl (⟨⟨_, rfl, rfl, rfl⟩, ⟨_, rfl, rfl, rfl⟩, ⟨_, rfl, rfl, rfl⟩, ⟨_, rfl, rfl, rfl⟩, trivial⟩) (trivial) (trivial) (trivial) rfl) trivial ?_
 refine .as (.agg64 (fl (twiceQ q).1 ++ fl (twiceQ q).2.1 ++ fl (twiceQ q).2.2.1 ++ fl (twiceQ q).2.2.2)) rfl ?_
 refine .w rfl (op_storeRow sz65 rfl rfl rfl rfl rfl (rfl) (rfl)) trivial rfl rfl ?_
 refine .nil ?_
 show Ev _ _ _ _ _
 refine .ret ?_
 show RetOk _ _ _ _ _ _ _
 exact retc1 rfl (.inl rfl) ⟨_, _, _, _, rfl, rfl, rfl, rfl, (rfl), Tryz.underlying65, rfl, sz65⟩ trivial
set_option maxRecDepth 100000 in
theorem kchoose_ev (c : Bool) (p q : Q4) : Meets Tryz.prog 91 [.bool c, .agg64 (fl (p).1 ++ fl (p).2.1 ++ fl (p).2.2.1 ++ fl (p).2.2.2), .agg64 (fl (q).1 ++ fl (q).2.1 ++ fl (q).2.2.1 ++ fl (q).2.2.2)] [] (.agg64 (fl (if c then p else q).1 ++ fl (if c then p else q).2.1 ++ fl (if c then p else q).2.2.1 ++ fl (if c then p else q).2.2.2)) [] := by
 refine meets_of_ev (nt := 32) Tryz.func91 rfl rfl (Nat.le_of_ble_eq_true rfl) ?_
 refine .seq ?_
 refine .region ?_
 refine .a (op_boxRow rfl rfl) trivial rfl ?_
 refine .a (op_boxRow rfl rfl) trivial rfl ?_
 refine .a (op_allocRow zero65 rel_zero65 rfl) trivial rfl ?_
 refine .nil ?_
 show Ev _ _ _ _ _
 refine .seq ?_
 refine .drawn [[], [], [1], [], [3], [0, 1, 2, 3, 4], [], [], [7], [], [9], [0, 1, 2, 3, 4, 5, 6, 7, 8, 9, 10], [], [], [13], [], [15], [0, 1, 2, 3, 4, 5, 6, 7, 8, 9, 10, 11, 12, 13, 14, 15, 16], [], [], [19], [], [21], [0, 1, 2, 3, 4, 5, 6, 7, 8, 9, 10, 11, 12, 13, 14, 15, 16, 17, 18, 19, 20, 21, 22], [0, 1, 2, 3, 4, 5, 6, 7, 8, 9, 10, 11, 12, 13, 14, 15, 16, 17, 18, 19, 20, 21, 22, 23], [0, 1, 2, 3, 4, 5, 6, 7, 8, 9, 10, 11, 12, 13, 14, 15, 16, 17, 18, 19, 20, 21, 22, 23, 24]] [2, 4, 5, 8, 10, 11, 14, 16, 17, 20, 22, 23, 25] [25] (by kernel_rfl) (by kernel_rfl) rfl ?_
 show DK _ [0, 1, 2, 3, 4, 5, 6, 7, 8, 9, 10, 11, 12, 13, 14, 15, 16, 17, 18, 19, 20, 21, 22, 23, 24, 25] _ _ _
 refine .q rfl (op_move rfl) trivial ?_
 refine .q rfl (op_fieldAddr (m := 3) Tryz.underlying65 rfl sz55 rfl) trivial ?_
 refine .q rfl (op_loadPart (r := .agg64 (fl (p.1))) (cs := (fl (p.1)).map AV.u64) Tryz.underlying55 rfl sz55 rfl rfl rfl rfl rfl (Nat.le_of_ble_eq_true rfl)) trivial ?_
 refine .q rfl (op_fieldAddr (m := 3) Tryz.underlying65 rfl sz55 rfl) trivial ?_
 refine .q rfl (op_loadPart (r := .agg64 (fl (q.1))) (cs := (fl (q.1)).map AV.u64) Tryz.underlying55 rfl sz55 rfl rfl rfl rfl rfl (Nat.le_of_ble_eq_true rfl)) trivial ?_
 refine .q rfl (op_call (U := []) [] [] (fchoose_ev _ _ _) Tryz.func96 (by kernel_rfl) rfl rfl rfl (⟨⟨_, rfl, rfl, rfl⟩, ⟨_, rfl, rfl, rfl⟩, ⟨_, rfl, rfl, rfl⟩, trivial⟩) (trivial) (trivial) (trivial) rfl) trivial ?_
 refine .q rfl (op_move rfl) trivial ?_
 refine .q rfl (op_fieldAddr (m := 3) Tryz.underlying65 rfl sz55 rfl) trivial ?_
 refine .q rfl (op_loadPart (r := .agg64 (fl (p.2.1))) (cs := (fl (p.2.1)).map AV.u64) Tryz.underlying55 rfl sz55 rfl rfl rfl rfl rfl (Nat.le_of_ble_eq_true rfl)) trivial ?_
 refine .q rfl (op_fieldAddr (m := 3) Tryz.underlying65 rfl sz55 rfl) trivial ?_
 refine .q rfl (op_loadPart (r := .agg64 (fl (q.2.1))) (cs := (fl (q.2.1)).map AV.u64) Tryz.underlying55 rfl sz55 rfl rfl rfl rfl rfl (Nat.le_of_ble_eq_true rfl)) trivial ?_
 refine .q rfl (op_call (U := []) [] [] (fchoose_ev _ _ _) Tryz.func96 (by kernel_rfl) rfl rfl rfl (⟨⟨_, rfl, rfl, rfl⟩, ⟨_, rfl, rfl, rfl⟩, ⟨_, rfl, rfl, rfl⟩, trivial⟩) (trivial) (trivial) (trivial) rfl) trivial ?_
 refine .q rfl (op_move rfl) trivial ?_
 refine .q rfl (op_fieldAddr (m := 3) Tryz.underlying65 rfl sz55 rfl) trivial ?_
 refine .q rfl (op_loadPart (r := .agg64 (fl (p.2.2.1))) (cs := (fl (p.2.2.1)).map AV.u64) Tryz.underlying55 rfl sz55 rfl rfl rfl rfl rfl (Nat.le_of_ble_eq_true rfl)) trivial ?_
 refine .q rfl (op_fieldAddr (m := 3) Tryz.underlying65 rfl sz55 rfl) trivial ?_
 refine .q rfl (op_loadPart (r := .agg64 (fl (q.2.2.1))) (cs := (fl (q.2.2.1)).map AV.u64) Tryz.underlying55 rfl sz55 rfl rfl rfl rfl rfl (Nat.le_of_ble_eq_true rfl)) trivial ?_
 refine .q rfl (op_call (U := []) [] [] (fchoose_ev _ _ _) Tryz.func96 (by kernel_rfl) rfl rfl rfl (⟨⟨_, rfl, rfl, rfl⟩, ⟨_, rfl, rfl, rfl⟩, ⟨_, rfl, rfl, rfl⟩, trivial⟩) (trivial) (trivial) (trivial) rfl) trivial ?_
 refine .q rfl (op_move rfl) trivial ?_
 refine .q rfl (op_fieldAddr (m := 3) Tryz.underlying65 rfl sz55 rfl) trivial ?_
 refine .q rfl (op_loadPart (r := .agg64 (fl (p.2.2.2))) (cs := (fl (p.2.2.2)).map AV.u64) Tryz.underlying55 rfl sz55 rfl rfl rfl rfl rfl (Nat.le_of_ble_eq_true rfl)) trivial ?_
 refine .q rfl (op_fieldAddr (m := 3) Tryz.underlying65 rfl sz55 rfl) trivial ?_
 refine .q rfl (op_loadPart (r := .agg64 (fl (q.2.2.2))) (cs := (fl (q.2.2.2)).map AV.u64) Tryz.underlying55 rfl sz55 rfl rfl rfl rfl rfl (Nat.le_of_ble_eq_true rfl)) trivial ?_
 refine .q rfl (op_call (U := []) [] [] (fchoose_ev _ _ _) Tryz.func96 (by kernel_rfl) rfl rfl rfl (⟨⟨_, rfl, rfl, rfl⟩, ⟨_, rfl, rfl, rfl⟩, ⟨_, rfl, rfl, rfl⟩, trivial⟩) (trivial) (trivial) (trivial) rfl) trivial ?_
 refine .q rfl (op_buildS (r := .agg64 (fl (if c then p.1 else q.1) ++ fl (if c then p.2.1 else q.2.1) ++ fl (if c then p.2.2.1 else q.2.2.1) ++ fl (if c then p.2.2.2 else q.2.2.2))) Tryz.underlying65 rfl zero65 rel_zero65 rfl rfl rfl rfl) trivial ?_
 refine .as (.agg64 (fl (if c then p else q).1 ++ fl (if c then p else q).2.1 ++ fl (if c then p else q).2.2.1 ++ fl (if c then p else q).2.2.2)) (by cases c <;> rfl) ?_
 refine .w rfl (op_storeRow sz65 rfl rfl rfl rfl rfl (rfl) (rfl)) trivial rfl rfl ?_
 refine .nil ?_
 show Ev _ _ _ _ _
 refine .ret ?_
 show RetOk _ _ _ _ _ _ _
 exact retc1 rfl (.inl rfl) ⟨_, _, _, _, rfl, rfl, rfl, rfl, (rfl), Tryz.underlying65, rfl, sz65⟩ trivial
theorem invF_lt2 (z : Nat) : invF z < fp := Nat.mod_lt _ fpos
set_option maxRecDepth 100000 in
theorem kqenc_ev (q : Q4) (hq : QL q) : Meets Tryz.prog 36 [.agg64 (fl (q).1 ++ fl (q).2.1 ++ fl (q).2.2.1 ++ fl (q).2.2.2)] [] (.aggB (encQ q)) [] := by
 have hq1 := hq.1
 have hq2 := hq.2.1
 have hq3 := hq.2.2.1
 have hq4 := hq.2.2.2
 refine meets_of_ev (nt := 17) Tryz.func36 rfl rfl (Nat.le_of_ble_eq_true rfl) ?_
 refine .seq ?_
 refine .region ?_
 refine .a (op_boxRow rfl rfl) trivial rfl ?_
 refine .a (op_allocRow zero22 rel_zero22 rfl) trivial rfl ?_
 refine .nil ?_
 show Ev _ _ _ _ _
 refine .seq ?_
 refine .region ?_
 refine .q (op_fieldAddr (m := 3) Tryz.underlying65 rfl sz55 rfl) trivial rfl ?_
 refine .q (op_loadPart (r := .agg64 (fl (q.2.2.1))) (cs := (fl (q.2.2.1)).map AV.u64) Tryz.underlying55 rfl sz55 rfl rfl rfl rfl rfl (Nat.le_of_ble_eq_true rfl)) trivial rfl ?_
 refine .q (op_call (U := []) [] [] (kinv_ev _ (by first | assumption | exact mF_lt _ _ | exact aF_lt _ _ | exact sF_lt _ _ | exact nF_lt _ | exact fmod_lt _ | exact Nat.mod_lt _ fpos | exact dV_lt | decide)) Tryz.func81 (by kernel_rfl) rfl rfl rfl (⟨⟨_, rfl, rfl, rfl⟩, trivial⟩) (trivial) (trivial) (trivial) rfl) trivial rfl ?_
 refine .a (op_allocRow zero55 rel_zero55 rfl) trivial rfl ?_
 refine .w (op_storeRow sz55 rfl rfl rfl rfl rfl (rfl) (rfl)) trivial rfl ?_
 refine .nil ?_
 show Ev _ _ _ _ _
 refine .seq ?_
 refine .drawn [[], [0], [], [0, 1, 2], [], [4], [], [0, 1, 2, 3, 4, 5, 6], [0, 1, 2, 3, 4, 5, 6, 7], [0, 1, 2, 3, 4, 5, 6, 7, 8], [0, 1, 2, 3, 4, 5, 6, 7, 8, 9]] [1, 2, 3, 5, 6, 7, 9, 10] [10] (by kernel_rfl) (by kernel_rfl) rfl ?_
 show DK _ [0, 1, 2, 3, 4, 5, 6, 7, 8, 9, 10] _ _ _
 refine .q rfl (op_fieldAddr (m := 3) Tryz.underlying65 rfl sz55 rfl) trivial ?_
 refine .q rfl (op_loadPart (r := .agg64 (fl (q.1))) (cs := (fl (q.1)).map AV.u64) Tryz.underlying55 rfl sz55 rfl rfl rfl rfl rfl (Nat.le_of_ble_eq_true rfl)) trivial ?_
 refine .q rfl (op_loadRow Tryz.underlying55 rfl sz55 rfl rfl rfl (rfl)) trivial ?_
 refine .q rfl (op_call (U := []) [] [] (kmul_ev _ _ (by first | assumption | exact mF_lt _ _ | exact aF_lt _ _ | exact sF_lt _ _ | exact nF_lt _ | exact fmod_lt _ | exact Nat.mod_lt _ fpos | exact dV_lt | decide) (invF_lt2 _)) Tryz.func55 (by kernel_rfl) rfl rfl rfl (⟨⟨_, rfl, rfl, rfl⟩, ⟨_, rfl, rfl, rfl⟩, trivial⟩) (trivial) (trivial) (trivial) rfl) trivial ?_
 refine .q rfl (op_fieldAddr (m := 3) Tryz.underlying65 rfl sz55 rfl) trivial ?_
 refine .q rfl (op_loadPart (r := .agg64 (fl (q.2.1))) (cs := (fl (q.2.1)).map AV.u64) Tryz.underlying55 rfl sz55 rfl rfl rfl rfl rfl (Nat.le_of_ble_eq_true rfl)) trivial ?_
 refine .q rfl (op_loadRow Tryz.underlying55 rfl sz55 rfl rfl rfl (rfl)) trivial ?_
 refine .q rfl (op_call (U := []) [] [] (kmul_ev _ _ (by first | assumption | exact mF_lt _ _ | exact aF_lt _ _ | exact sF_lt _ _ | exact nF_lt _ | exact fmod_lt _ | exact Nat.mod_lt _ fpos | exact dV_lt | decide) (invF_lt2 _)) Tryz.func55 (by kernel_rfl) rfl rfl rfl (⟨⟨_, rfl, rfl, rfl⟩, ⟨_, rfl, rfl, rfl⟩, trivial⟩) (trivial) (trivial) (trivial) rfl) trivial ?_
 refine .q rfl (op_buildS (r := .agg64 (fl (mF q.1 (invF q.2.2.1)) ++ fl (mF q.2.1 (invF q.2.2.1)))) Tryz.underlying57 rfl zero57 rel_zero57 rfl rfl rfl rfl) trivial ?_
 refine .q rfl (op_call (U := []) [] [] (kpenc_ev (mF q.1 (invF q.2.2.1)) (mF q.2.1 (invF q.2.2.1))) Tryz.func58 (by kernel_rfl) rfl rfl rfl (⟨⟨_, rfl, rfl, rfl⟩, trivial⟩) (trivial) (trivial) (trivial) rfl) trivial ?_
 refine .as (.aggB (encQ q)) rfl ?_
 refine .w rfl (op_storeRow sz22 rfl rfl rfl rfl rfl (by first | exact length_encN _ _ | rfl | (simp [AV.len, length_encN]; done)) (by first | exact length_encN _ _ | rfl | (simp [AV.len, length_encN]; done))) trivial rfl rfl ?_
 refine .nil ?_
 show Ev _ _ _ _ _
 refine .ret ?_
 show RetOk _ _ _ _ _ _ _
 exact retc1 rfl (.inl rfl) ⟨_, _, _, _, rfl, rfl, rfl, rfl, (length_encN _ _), Tryz.underlying22, rfl, sz22⟩ trivial
set_option maxRecDepth 100000 in
theorem kneg2_ev (e x y : Nat) (hx : x < fp) : Meets Tryz.prog 35 [.agg64 (fl (x) ++ fl (y))] (HP e) (.agg64 (fl (nF x) ++ fl (y))) [] := by
 refine meets_of_ev (nt := 9) Tryz.func35 rfl rfl (Nat.le_of_ble_eq_true rfl) ?_
 refine .seq ?_
 refine .region ?_
 refine .a (op_boxRow rfl rfl) trivial rfl ?_
 refine .a (op_allocRow zero57 rel_zero57 rfl) trivial rfl ?_
 refine .nil ?_
 show Ev _ _ _ _ _
 refine .seq ?_
 refine .drawn [[], [0], [0, 1], [], [3], [0, 1, 2, 3, 4], [0, 1, 2, 3, 4, 5]] [1, 2, 4, 6] [6] (by kernel_rfl) (by kernel_rfl) rfl ?_
 show DK _ [0, 1, 2, 3, 4, 5, 6] _ _ _
 refine .q rfl (op_fieldAddr (m := 3) Tryz.underlying57 rfl sz55 rfl) trivial ?_
 refine .q rfl (op_loadPart (r := .agg64 (fl (x))) (cs := (fl (x)).map AV.u64) Tryz.underlying55 rfl sz55 rfl rfl rfl rfl rfl (Nat.le_of_ble_eq_true rfl)) trivial ?_
 refine .q rfl (op_call (U := []) [] [] (kneg_ev e _ (by first | assumption | exact mF_lt _ _ | exact aF_lt _ _ | exact sF_lt _ _ | exact nF_lt _ | exact fmod_lt _ | exact Nat.mod_lt _ fpos | exact dV_lt | decide)) Tryz.func57 (by kernel_rfl) rfl rfl rfl (⟨⟨_, rfl, rfl, rfl⟩, trivial⟩) (⟨⟨_, _, rfl, rfl, rfl, rfl, id, rfl⟩, trivial⟩) (trivial) (⟨(fun h => by cases h), trivial⟩) rfl) trivial ?_
 refine .q rfl (op_fieldAddr (m := 3) Tryz.underlying57 rfl sz55 rfl) trivial ?_
 refine .q rfl (op_loadPart (r := .agg64 (fl (y))) (cs := (fl (y)).map AV.u64) Tryz.underlying55 rfl sz55 rfl rfl rfl rfl rfl (Nat.le_of_ble_eq_true rfl)) trivial ?_
 refine .q rfl (op_buildS (r := .agg64 (fl (nF x) ++ fl y)) Tryz.underlying57 rfl zero57 rel_zero57 rfl rfl rfl rfl) trivial ?_
 refine .w rfl (op_storeRow sz57 rfl rfl rfl rfl rfl (rfl) (rfl)) trivial rfl rfl ?_
 refine .nil ?_
 show Ev _ _ _ _ _
 refine .ret ?_
 show RetOk _ _ _ _ _ _ _
 exact retc1 rfl (.inl rfl) ⟨_, _, _, _, rfl, rfl, rfl, rfl, (rfl), Tryz.underlying57, rfl, sz57⟩ trivial
end Go.Proofs.YtcnjekoidgefpaaGreatDoor
