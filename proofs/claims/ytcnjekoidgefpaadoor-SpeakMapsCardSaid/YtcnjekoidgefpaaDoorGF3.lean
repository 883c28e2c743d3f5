/-
  Texts of this claim.
-/
import Derived.Test.YtcnjekoidgefpaaDoorGF2
import Derived.Test.YtcnjekoidgefpaaDoorGE
namespace Go.Proofs.YtcnjekoidgefpaaDoor
open Go.RowKit
set_option maxRecDepth 100000 in
theorem csum_ev (e x1 z1 x2 z2 x : Nat) (h1 : x1 < fp) (h2 : z1 < fp) (h3 : x2 < fp) (h4 : z2 < fp) (h5 : x < fp) : Meets Tryd.prog 140 [.agg64 (fl x1 ++ fl z1), .agg64 (fl x2 ++ fl z2), .agg64 (fl x)] (HP e) (.agg64 (fl (csX x1 z1 x2 z2) ++ fl (csZ x x1 z1 x2 z2))) [] := by
 refine meets_of_ev (nt := 34) Tryd.func140 rfl rfl (Nat.le_of_ble_eq_true rfl) ?_
 refine .seq ?_
 refine .region ?_
 refine .a (op_boxRow rfl rfl) trivial rfl ?_
 refine .a (op_boxRow rfl rfl) trivial rfl ?_
 refine .a (op_boxRow rfl rfl) trivial rfl ?_
 refine .a (op_allocRow zero194 rel_zero194 rfl) trivial rfl ?_
 refine .nil ?_
 show Ev _ _ _ _ _
 refine .seq ?_
 refine .drawn [[], [0], [], [2], [0, 1, 2, 3], [], [5], [], [7], [0, 1, 2, 3, 4, 5, 6, 7, 8], [0, 1, 2, 3, 4, 5, 6, 7, 8, 9], [0, 1, 2, 3, 4, 5, 6, 7, 8, 9, 10], [], [], [13], [], [15], [0, 1, 2, 3, 4, 5, 6, 7, 8, 9, 10, 11, 13, 14, 15, 16], [], [18], [], [20], [0, 1, 2, 3, 4, 5, 6, 7, 8, 9, 10, 11, 13, 14, 15, 16, 17, 18, 19, 20, 21], [0, 1, 2, 3, 4, 5, 6, 7, 8, 9, 10, 11, 13, 14, 15, 16, 17, 18, 19, 20, 21, 22], [0, 1, 2, 3, 4, 5, 6, 7, 8, 9, 10, 11, 13, 14, 15, 16, 17, 18, 19, 20, 21, 22, 23], [0, 1, 2, 3, 4, 5, 6, 7, 8, 9, 10, 11, 12, 13, 14, 15, 16, 17, 18, 19, 20, 21, 22, 23, 24], [0, 1, 2, 3, 4, 5, 6, 7, 8, 9, 10, 11, 12, 13, 14, 15, 16, 17, 18, 19, 20, 21, 22, 23, 24, 25], [0, 1, 2, 3, 4, 5, 6, 7, 8, 9, 10, 11, 12, 13, 14, 15, 16, 17, 18, 19, 20, 21, 22, 23, 24, 25, 26]] [1, 3, 4, 6, 8, 9, 10, 11, 12, 14, 16, 17, 19, 21, 22, 23, 24, 25, 27] [27] (by kernel_rfl) (by kernel_rfl) rfl ?_
 show DK _ [0, 1, 2, 3, 4, 5, 6, 7, 8, 9, 10, 11, 12, 13, 14, 15, 16, 17, 18, 19, 20, 21, 22, 23, 24, 25, 26, 27] _ _ _
 refine .q rfl (op_fieldAddr (m := 3) Tryd.underlying194 rfl sz71 rfl) trivial ?_
 refine .q rfl (op_loadPart (r := .agg64 (fl (x1))) (cs := (fl (x1)).map AV.u64) Tryd.underlying71 rfl sz71 rfl rfl rfl rfl rfl (Nat.le_of_ble_eq_true rfl)) trivial ?_
 refine .q rfl (op_fieldAddr (m := 3) Tryd.underlying194 rfl sz71 rfl) trivial ?_
 refine .q rfl (op_loadPart (r := .agg64 (fl (x2))) (cs := (fl (x2)).map AV.u64) Tryd.underlying71 rfl sz71 rfl rfl rfl rfl rfl (Nat.le_of_ble_eq_true rfl)) trivial ?_
 refine .q rfl (op_call (U := []) [] [] (fmul_ev _ _ (by first | assumption | exact fmod_lt _ | exact hb.1 | exact hb.2.1 | decide) (by first | assumption | exact fmod_lt _ | exact hb.1 | exact hb.2.1 | decide)) Tryd.func35 (by kernel_rfl) rfl rfl rfl (⟨⟨_, rfl, rfl, rfl⟩, ⟨_, rfl, rfl, rfl⟩, trivial⟩) (trivial) (trivial) (trivial) rfl) trivial ?_
 refine .q rfl (op_fieldAddr (m := 3) Tryd.underlying194 rfl sz71 rfl) trivial ?_
 refine .q rfl (op_loadPart (r := .agg64 (fl (z1))) (cs := (fl (z1)).map AV.u64) Tryd.underlying71 rfl sz71 rfl rfl rfl rfl rfl (Nat.le_of_ble_eq_true rfl)) trivial ?_
 refine .q rfl (op_fieldAddr (m := 3) Tryd.underlying194 rfl sz71 rfl) trivial ?_
 refine .q rfl (op_loadPart (r := .agg64 (fl (z2))) (cs := (fl (z2)).map AV.u64) Tryd.underlying71 rfl sz71 rfl rfl rfl rfl rfl (Nat.le_of_ble_eq_true rfl)) trivial ?_
 refine .q rfl (op_call (U := []) [] [] (fmul_ev _ _ (by first | assumption | exact fmod_lt _ | exact hb.1 | exact hb.2.1 | decide) (by first | assumption | exact fmod_lt _ | exact hb.1 | exact hb.2.1 | decide)) Tryd.func35 (by kernel_rfl) rfl rfl rfl (⟨⟨_, rfl, rfl, rfl⟩, ⟨_, rfl, rfl, rfl⟩, trivial⟩) (trivial) (trivial) (trivial) rfl) trivial ?_
 refine .q rfl (op_call (U := []) [] [] (fsub_ev e _ _ (by first | assumption | exact fmod_lt _ | exact hb.1 | exact hb.2.1 | decide) (by first | assumption | exact fmod_lt _ | exact hb.1 | exact hb.2.1 | decide)) Tryd.func36 (by kernel_rfl) rfl rfl rfl (⟨⟨_, rfl, rfl, rfl⟩, ⟨_, rfl, rfl, rfl⟩, trivial⟩) (⟨⟨_, _, rfl, rfl, rfl, rfl, id, rfl⟩, trivial⟩) (trivial) (⟨(fun h => by cases h), trivial⟩) rfl) trivial ?_
 refine .q rfl (op_call (U := []) [] [] (fsquare_ev _ (by first | assumption | exact fmod_lt _ | exact hb.1 | exact hb.2.1 | decide)) Tryd.func91 (by kernel_rfl) rfl rfl rfl (⟨⟨_, rfl, rfl, rfl⟩, trivial⟩) (trivial) (trivial) (trivial) rfl) trivial ?_
 refine .q rfl (op_loadRow Tryd.underlying71 rfl sz71 rfl rfl rfl (rfl)) trivial ?_
 refine .q rfl (op_fieldAddr (m := 3) Tryd.underlying194 rfl sz71 rfl) trivial ?_
 refine .q rfl (op_loadPart (r := .agg64 (fl (x1))) (cs := (fl (x1)).map AV.u64) Tryd.underlying71 rfl sz71 rfl rfl rfl rfl rfl (Nat.le_of_ble_eq_true rfl)) trivial ?_
 refine .q rfl (op_fieldAddr (m := 3) Tryd.underlying194 rfl sz71 rfl) trivial ?_
 refine .q rfl (op_loadPart (r := .agg64 (fl (z2))) (cs := (fl (z2)).map AV.u64) Tryd.underlying71 rfl sz71 rfl rfl rfl rfl rfl (Nat.le_of_ble_eq_true rfl)) trivial ?_
 refine .q rfl (op_call (U := []) [] [] (fmul_ev _ _ (by first | assumption | exact fmod_lt _ | exact hb.1 | exact hb.2.1 | decide) (by first | assumption | exact fmod_lt _ | exact hb.1 | exact hb.2.1 | decide)) Tryd.func35 (by kernel_rfl) rfl rfl rfl (⟨⟨_, rfl, rfl, rfl⟩, ⟨_, rfl, rfl, rfl⟩, trivial⟩) (trivial) (trivial) (trivial) rfl) trivial ?_
 refine .q rfl (op_fieldAddr (m := 3) Tryd.underlying194 rfl sz71 rfl) trivial ?_
 refine .q rfl (op_loadPart (r := .agg64 (fl (z1))) (cs := (fl (z1)).map AV.u64) Tryd.underlying71 rfl sz71 rfl rfl rfl rfl rfl (Nat.le_of_ble_eq_true rfl)) trivial ?_
 refine .q rfl (op_fieldAddr (m := 3) Tryd.underlying194 rfl sz71 rfl) trivial ?_
 refine .q rfl (op_loadPart (r := .agg64 (fl (x2))) (cs := (fl (x2)).map AV.u64) Tryd.underlying71 rfl sz71 rfl rfl rfl rfl rfl (Nat.le_of_ble_eq_true rfl)) trivial ?_
 refine .q rfl (op_call (U := []) [] [] (fmul_ev _ _ (by first | assumption | exact fmod_lt _ | exact hb.1 | exact hb.2.1 | decide) (by first | assumption | exact fmod_lt _ | exact hb.1 | exact hb.2.1 | decide)) Tryd.func35 (by kernel_rfl) rfl rfl rfl (⟨⟨_, rfl, rfl, rfl⟩, ⟨_, rfl, rfl, rfl⟩, trivial⟩) (trivial) (trivial) (trivial) rfl) trivial ?_
 refine .q rfl (op_call (U := []) [] [] (fsub_ev e _ _ (by first | assumption | exact fmod_lt _ | exact hb.1 | exact hb.2.1 | decide) (by first | assumption | exact fmod_lt _ | exact hb.1 | exact hb.2.1 | decide)) Tryd.func36 (by kernel_rfl) rfl rfl rfl (⟨⟨_, rfl, rfl, rfl⟩, ⟨_, rfl, rfl, rfl⟩, trivial⟩) (⟨⟨_, _, rfl, rfl, rfl, rfl, id, rfl⟩, trivial⟩) (trivial) (⟨(fun h => by cases h), trivial⟩) rfl) trivial ?_
 refine .q rfl (op_call (U := []) [] [] (fsquare_ev _ (by first | assumption | exact fmod_lt _ | exact hb.1 | exact hb.2.1 | decide)) Tryd.func91 (by kernel_rfl) rfl rfl rfl (⟨⟨_, rfl, rfl, rfl⟩, trivial⟩) (trivial) (trivial) (trivial) rfl) trivial ?_
 refine .q rfl (op_call (U := []) [] [] (fmul_ev _ _ (by first | assumption | exact fmod_lt _ | exact hb.1 | exact hb.2.1 | decide) (by first | assumption | exact fmod_lt _ | exact hb.1 | exact hb.2.1 | decide)) Tryd.func35 (by kernel_rfl) rfl rfl rfl (⟨⟨_, rfl, rfl, rfl⟩, ⟨_, rfl, rfl, rfl⟩, trivial⟩) (trivial) (trivial) (trivial) rfl) trivial ?_
 refine .q rfl (op_buildPair Tryd.underlying194 rfl (by rfl) (by exact sz71) (by exact sz71) (by exact zero194) (by rfl) rfl rfl) trivial ?_
 refine .as (.agg64 (fl (csX x1 z1 x2 z2) ++ fl (csZ x x1 z1 x2 z2))) rfl ?_
 refine .w rfl (op_storeRow sz194 rfl rfl rfl rfl rfl (rfl) (rfl)) trivial rfl rfl ?_
 refine .nil ?_
 show Ev _ _ _ _ _
 refine .ret ?_
 show RetOk _ _ _ _ _ _ _
 exact retc1 rfl (.inl rfl) ⟨_, _, _, _, rfl, rfl, rfl, rfl, (rfl), Tryd.underlying194, rfl, sz194⟩ trivial
set_option maxRecDepth 100000 in
theorem cdouble_ev (e x z : Nat) (h1 : x < fp) (h2 : z < fp) : Meets Tryd.prog 141 [.agg64 (fl x ++ fl z)] (HP e) (.agg64 (fl (dblX x z) ++ fl (dblZ x z))) [] := by
 refine meets_of_ev (nt := 33) Tryd.func141 rfl rfl (Nat.le_of_ble_eq_true rfl) ?_
 refine .seq ?_
 refine .region ?_
 refine .a (op_boxRow rfl rfl) trivial rfl ?_
 refine .a (op_allocRow zero194 rel_zero194 rfl) trivial rfl ?_
 refine .nil ?_
 show Ev _ _ _ _ _
 refine .seq ?_
 refine .drawn [[], [0], [0, 1], [], [3], [0, 1, 2, 3, 4], [], [6], [], [8], [0, 1, 2, 3, 4, 5, 6, 7, 8, 9], [], [], [], [0, 1, 2, 3, 4, 5, 6, 7, 8, 9, 10, 11, 12, 13], [0, 1, 2, 3, 4, 5, 6, 7, 8, 9, 10, 11, 12, 13, 14], [0, 1, 2, 3, 4, 5, 6, 7, 8, 9, 10, 11, 12, 13, 14, 15]] [1, 2, 4, 5, 7, 9, 10, 11, 12, 13, 14, 15, 16] [14, 15, 16] (by kernel_rfl) (by kernel_rfl) rfl ?_
 show DK _ [0, 1, 2, 3, 4, 5, 6, 7, 8, 9, 10, 11, 12, 13, 14, 15, 16] _ _ _
 refine .q rfl (op_fieldAddr (m := 3) Tryd.underlying194 rfl sz71 rfl) trivial ?_
 refine .q rfl (op_loadPart (r := .agg64 (fl (x))) (cs := (fl (x)).map AV.u64) Tryd.underlying71 rfl sz71 rfl rfl rfl rfl rfl (Nat.le_of_ble_eq_true rfl)) trivial ?_
 refine .q rfl (op_call (U := []) [] [] (fsquare_ev _ (by first | assumption | exact fmod_lt _ | exact hb.1 | exact hb.2.1 | decide)) Tryd.func91 (by kernel_rfl) rfl rfl rfl (⟨⟨_, rfl, rfl, rfl⟩, trivial⟩) (trivial) (trivial) (trivial) rfl) trivial ?_
 refine .q rfl (op_fieldAddr (m := 3) Tryd.underlying194 rfl sz71 rfl) trivial ?_
 refine .q rfl (op_loadPart (r := .agg64 (fl (z))) (cs := (fl (z)).map AV.u64) Tryd.underlying71 rfl sz71 rfl rfl rfl rfl rfl (Nat.le_of_ble_eq_true rfl)) trivial ?_
 refine .q rfl (op_call (U := []) [] [] (fsquare_ev _ (by first | assumption | exact fmod_lt _ | exact hb.1 | exact hb.2.1 | decide)) Tryd.func91 (by kernel_rfl) rfl rfl rfl (⟨⟨_, rfl, rfl, rfl⟩, trivial⟩) (trivial) (trivial) (trivial) rfl) trivial ?_
 refine .q rfl (op_fieldAddr (m := 3) Tryd.underlying194 rfl sz71 rfl) trivial ?_
 refine .q rfl (op_loadPart (r := .agg64 (fl (x))) (cs := (fl (x)).map AV.u64) Tryd.underlying71 rfl sz71 rfl rfl rfl rfl rfl (Nat.le_of_ble_eq_true rfl)) trivial ?_
 refine .q rfl (op_fieldAddr (m := 3) Tryd.underlying194 rfl sz71 rfl) trivial ?_
 refine .q rfl (op_loadPart (r := .agg64 (fl (z))) (cs := (fl (z)).map AV.u64) Tryd.underlying71 rfl sz71 rfl rfl rfl rfl rfl (Nat.le_of_ble_eq_true rfl)) trivial ?_
 refine .q rfl (op_call (U := []) [] [] (fmul_ev _ _ (by first | assumption | exact fmod_lt _ | exact hb.1 | exact hb.2.1 | decide) (by first | assumption | exact fmod_lt _ | exact hb.1 | exact hb.2.1 | decide)) Tryd.func35 (by kernel_rfl) rfl rfl rfl (⟨⟨_, rfl, rfl, rfl⟩, ⟨_, rfl, rfl, rfl⟩, trivial⟩) (trivial) (trivial) (trivial) rfl) trivial ?_
 refine .a rfl (op_allocRow zero71 rel_zero71 rfl) trivial rfl rfl ?_
 refine .a rfl (op_allocRow zero71 rel_zero71 rfl) trivial rfl rfl ?_
 refine .a rfl (op_allocRow zero71 rel_zero71 rfl) trivial rfl rfl ?_
 refine .w rfl (op_storeRow sz71 rfl rfl rfl rfl rfl (rfl) (rfl)) trivial rfl rfl ?_
 refine .w rfl (op_storeRow sz71 rfl rfl rfl rfl rfl (rfl) (rfl)) trivial rfl rfl ?_
 refine .w rfl (op_storeRow sz71 rfl rfl rfl rfl rfl (rfl) (rfl)) trivial rfl rfl ?_
 refine .nil ?_
 show Ev _ _ _ _ _
 refine .seq ?_
 refine .drawn [[], [], [0, 1], [0, 1, 2], [0, 1, 2, 3], [], [0, 1, 2, 3, 4, 5], [], [0, 1, 2, 3, 4, 5, 6], [], [0, 1, 2, 3, 4, 5, 6, 8, 9], [0, 1, 2, 3, 4, 5, 6, 7, 8, 9, 10], [], [0, 1, 2, 3, 4, 5, 6, 7, 8, 9, 10, 11, 12], [0, 1, 2, 3, 4, 5, 6, 7, 8, 9, 10, 11, 12, 13], [0, 1, 2, 3, 4, 5, 6, 7, 8, 9, 10, 11, 12, 13, 14], [0, 1, 2, 3, 4, 5, 6, 7, 8, 9, 10, 11, 12, 13, 14, 15]] [0, 1, 2, 3, 4, 5, 6, 7, 8, 9, 10, 11, 12, 13, 14, 16] [16] (by kernel_rfl) (by kernel_rfl) rfl ?_
 show DK _ [0, 1, 2, 3, 4, 5, 6, 7, 8, 9, 10, 11, 12, 13, 14, 15, 16] _ _ _
 refine .q rfl (op_loadRow Tryd.underlying71 rfl sz71 rfl rfl rfl (rfl)) trivial ?_
 refine .q rfl (op_loadRow Tryd.underlying71 rfl sz71 rfl rfl rfl (rfl)) trivial ?_
 refine .q rfl (op_call (U := []) [] [] (fsub_ev e _ _ (by first | assumption | exact fmod_lt _ | exact hb.1 | exact hb.2.1 | decide) (by first | assumption | exact fmod_lt _ | exact hb.1 | exact hb.2.1 | decide)) Tryd.func36 (by kernel_rfl) rfl rfl rfl (⟨⟨_, rfl, rfl, rfl⟩, ⟨_, rfl, rfl, rfl⟩, trivial⟩) (⟨⟨_, _, rfl, rfl, rfl, rfl, id, rfl⟩, trivial⟩) (trivial) (⟨(fun h => by cases h), trivial⟩) rfl) trivial ?_
 refine .q rfl (op_call (U := []) [] [] (fsquare_ev _ (by first | assumption | exact fmod_lt _ | exact hb.1 | exact hb.2.1 | decide)) Tryd.func91 (by kernel_rfl) rfl rfl rfl (⟨⟨_, rfl, rfl, rfl⟩, trivial⟩) (trivial) (trivial) (trivial) rfl) trivial ?_
 refine .q rfl (op_call (U := []) [] [] (fsmall_ev _) Tryd.func33 (by kernel_rfl) rfl rfl rfl (⟨⟨_, rfl, rfl, rfl⟩, trivial⟩) (trivial) (trivial) (trivial) rfl) trivial ?_
 refine .as (.agg64 (fl 4)) rfl ?_
 refine .q rfl (op_loadRow Tryd.underlying71 rfl sz71 rfl rfl rfl (rfl)) trivial ?_
 refine .q rfl (op_call (U := []) [] [] (fmul_ev _ _ (by first | assumption | exact fmod_lt _ | exact hb.1 | exact hb.2.1 | decide) (by first | assumption | exact fmod_lt _ | exact hb.1 | exact hb.2.1 | decide)) Tryd.func35 (by kernel_rfl) rfl rfl rfl (⟨⟨_, rfl, rfl, rfl⟩, ⟨_, rfl, rfl, rfl⟩, trivial⟩) (trivial) (trivial) (trivial) rfl) trivial ?_
 refine .q rfl (op_loadRow Tryd.underlying71 rfl sz71 rfl rfl rfl (rfl)) trivial ?_
 refine .q rfl (op_call (U := []) [] [] (fsmall_ev _) Tryd.func33 (by kernel_rfl) rfl rfl rfl (⟨⟨_, rfl, rfl, rfl⟩, trivial⟩) (trivial) (trivial) (trivial) rfl) trivial ?_
 refine .as (.agg64 (fl 486662)) rfl ?_
 refine .q rfl (op_loadRow Tryd.underlying71 rfl sz71 rfl rfl rfl (rfl)) trivial ?_
 refine .q rfl (op_call (U := []) [] [] (fmul_ev _ _ (by first | assumption | exact fmod_lt _ | exact hb.1 | exact hb.2.1 | decide) (by first | assumption | exact fmod_lt _ | exact hb.1 | exact hb.2.1 | decide)) Tryd.func35 (by kernel_rfl) rfl rfl rfl (⟨⟨_, rfl, rfl, rfl⟩, ⟨_, rfl, rfl, rfl⟩, trivial⟩) (trivial) (trivial) (trivial) rfl) trivial ?_
 refine .q rfl (op_call (U := []) [] [] (fadd_ev _ _ (by first | assumption | exact fmod_lt _ | exact hb.1 | exact hb.2.1 | decide) (by first | assumption | exact fmod_lt _ | exact hb.1 | exact hb.2.1 | decide)) Tryd.func34 (by kernel_rfl) rfl rfl rfl (⟨⟨_, rfl, rfl, rfl⟩, ⟨_, rfl, rfl, rfl⟩, trivial⟩) (trivial) (trivial) (trivial) rfl) trivial ?_
 refine .q rfl (op_loadRow Tryd.underlying71 rfl sz71 rfl rfl rfl (rfl)) trivial ?_
 refine .q rfl (op_call (U := []) [] [] (fadd_ev _ _ (by first | assumption | exact fmod_lt _ | exact hb.1 | exact hb.2.1 | decide) (by first | assumption | exact fmod_lt _ | exact hb.1 | exact hb.2.1 | decide)) Tryd.func34 (by kernel_rfl) rfl rfl rfl (⟨⟨_, rfl, rfl, rfl⟩, ⟨_, rfl, rfl, rfl⟩, trivial⟩) (trivial) (trivial) (trivial) rfl) trivial ?_
 refine .q rfl (op_call (U := []) [] [] (fmul_ev _ _ (by first | assumption | exact fmod_lt _ | exact hb.1 | exact hb.2.1 | decide) (by first | assumption | exact fmod_lt _ | exact hb.1 | exact hb.2.1 | decide)) Tryd.func35 (by kernel_rfl) rfl rfl rfl (⟨⟨_, rfl, rfl, rfl⟩, ⟨_, rfl, rfl, rfl⟩, trivial⟩) (trivial) (trivial) (trivial) rfl) trivial ?_
 refine .q rfl (op_buildPair Tryd.underlying194 rfl (by rfl) (by exact sz71) (by exact sz71) (by exact zero194) (by rfl) rfl rfl) trivial ?_
 refine .as (.agg64 (fl (dblX x z) ++ fl (dblZ x z))) rfl ?_
 refine .w rfl (op_storeRow sz194 rfl rfl rfl rfl rfl (rfl) (rfl)) trivial rfl rfl ?_
 refine .nil ?_
 show Ev _ _ _ _ _
 refine .ret ?_
 show RetOk _ _ _ _ _ _ _
 exact retc1 rfl (.inl rfl) ⟨_, _, _, _, rfl, rfl, rfl, rfl, (rfl), Tryd.underlying194, rfl, sz194⟩ trivial
set_option maxRecDepth 100000 in
theorem cchoose_ev (c : Bool) (x1 z1 x2 z2 : Nat) : Meets Tryd.prog 142 [.bool c, .agg64 (fl x1 ++ fl z1), .agg64 (fl x2 ++ fl z2)] [] (.agg64 (fl (if c then x1 else x2) ++ fl (if c then z1 else z2))) [] := by
 refine meets_of_ev (nt := 20) Tryd.func142 rfl rfl (Nat.le_of_ble_eq_true rfl) ?_
 refine .seq ?_
 refine .region ?_
 refine .a (op_boxRow rfl rfl) trivial rfl ?_
 refine .a (op_boxRow rfl rfl) trivial rfl ?_
 refine .a (op_allocRow zero194 rel_zero194 rfl) trivial rfl ?_
 refine .nil ?_
 show Ev _ _ _ _ _
 refine .seq ?_
 refine .drawn [[], [], [1], [], [3], [0, 1, 2, 3, 4], [], [], [7], [], [9], [0, 1, 2, 3, 4, 5, 6, 7, 8, 9, 10], [0, 1, 2, 3, 4, 5, 6, 7, 8, 9, 10, 11], [0, 1, 2, 3, 4, 5, 6, 7, 8, 9, 10, 11, 12]] [2, 4, 5, 8, 10, 11, 13] [13] (by kernel_rfl) (by kernel_rfl) rfl ?_
 show DK _ [0, 1, 2, 3, 4, 5, 6, 7, 8, 9, 10, 11, 12, 13] _ _ _
 refine .q rfl (op_move rfl) trivial ?_
 refine .q rfl (op_fieldAddr (m := 3) Tryd.underlying194 rfl sz71 rfl) trivial ?_
 refine .q rfl (op_loadPart (r := .agg64 (fl (x1))) (cs := (fl (x1)).map AV.u64) Tryd.underlying71 rfl sz71 rfl rfl rfl rfl rfl (Nat.le_of_ble_eq_true rfl)) trivial ?_
 refine .q rfl (op_fieldAddr (m := 3) Tryd.underlying194 rfl sz71 rfl) trivial ?_
 refine .q rfl (op_loadPart (r := .agg64 (fl (x2))) (cs := (fl (x2)).map AV.u64) Tryd.underlying71 rfl sz71 rfl rfl rfl rfl rfl (Nat.le_of_ble_eq_true rfl)) trivial ?_
 refine .q rfl (op_call (U := []) [] [] (fchoose_ev _ _ _) Tryd.func152 (by kernel_rfl) rfl rfl rfl (⟨⟨_, rfl, rfl, rfl⟩, ⟨_, rfl, rfl, rfl⟩, ⟨_, rfl, rfl, rfl⟩, trivial⟩) (trivial) (trivial) (trivial) rfl) trivial ?_
 refine .q rfl (op_move rfl) trivial ?_
 refine .q rfl (op_fieldAddr (m := 3) Tryd.underlying194 rfl sz71 rfl) trivial ?_
 refine .q rfl (op_loadPart (r := .agg64 (fl (z1))) (cs := (fl (z1)).map AV.u64) Tryd.underlying71 rfl sz71 rfl rfl rfl rfl rfl (Nat.le_of_ble_eq_true rfl)) trivial ?_
 refine .q rfl (op_fieldAddr (m := 3) Tryd.underlying194 rfl sz71 rfl) trivial ?_
 refine .q rfl (op_loadPart (r := .agg64 (fl (z2))) (cs := (fl (z2)).map AV.u64) Tryd.underlying71 rfl sz71 rfl rfl rfl rfl rfl (Nat.le_of_ble_eq_true rfl)) trivial ?_
 refine .q rfl (op_call (U := []) [] [] (fchoose_ev _ _ _) Tryd.func152 (by kernel_rfl) rfl rfl rfl (⟨⟨_, rfl, rfl, rfl⟩, ⟨_, rfl, rfl, rfl⟩, ⟨_, rfl, rfl, rfl⟩, trivial⟩) (trivial) (trivial) (trivial) rfl) trivial ?_
 refine .q rfl (op_buildPair Tryd.underlying194 rfl (by rfl) (by exact sz71) (by exact sz71) (by exact zero194) (by rfl) rfl rfl) trivial ?_
 refine .w rfl (op_storeRow sz194 rfl rfl rfl rfl rfl (rfl) (rfl)) trivial rfl rfl ?_
 refine .nil ?_
 show Ev _ _ _ _ _
 refine .ret ?_
 show RetOk _ _ _ _ _ _ _
 exact retc1 rfl (.inl rfl) ⟨_, _, _, _, rfl, rfl, rfl, rfl, (rfl), Tryd.underlying194, rfl, sz194⟩ trivial
set_option maxRecDepth 100000 in
theorem cbit_ev (K : List UInt8) (i : Nat) (hK : K.length = 32) (hi : i < 256) : Meets Tryd.prog 139 [.aggB K, .i64 (i : Int)] [] (.bool (kb K i)) [] := by
 refine meets_of_ev (nt := 14) Tryd.func139 rfl rfl (Nat.le_of_ble_eq_true rfl) ?_
 refine .seq ?_
 refine .region ?_
 refine .a (op_boxRow rfl rfl) trivial rfl ?_
 refine .q (op_assign rfl) trivial rfl ?_
 refine .nil ?_
 show Ev _ _ _ _ _
 refine .seq ?_
 refine .region ?_
 refine .q (op_move rfl) trivial rfl ?_
 refine .q (op_quoI rfl rfl ⟨by omega, ⟨by omega, by omega⟩, by omega⟩) trivial rfl ?_
 refine .q (ap_idx_arr Tryd.underlying22 inf5.sz rfl rfl (i := i / 8) (by omega) (by omega)) trivial rfl ?_
 refine .q (op_load Tryd.underlying5 rfl rfl rfl rfl (by show i / 8 < K.length; omega)) trivial rfl ?_
 refine .q (op_move rfl) trivial rfl ?_
 refine .q (op_remI rfl rfl ⟨by omega, by omega⟩) trivial rfl ?_
 refine .q (op_shr8 (n := i % 8) rfl rfl (by simp only [shiftBy]; rw [show ((i : Nat) : Int) % 8 = ((i % 8 : Nat) : Int) by omega]) (by omega)) trivial rfl ?_
 refine .q (op_bin8 rfl rfl rfl) trivial rfl ?_
 refine .q (op_bin8 rfl rfl rfl) trivial rfl ?_
 refine .q (op_assign rfl) trivial rfl ?_
 refine .nil ?_
 show Ev _ _ _ _ _
 refine .ret ?_
 show RetOk _ _ _ _ _ _ _
 exact ret1v rfl (.inl rfl) rfl (congrArg AV.bool (bit_prog K i)) trivial
set_option maxRecDepth 100000 in
theorem cusable_ev (K : List UInt8) (hK : K.length = 32) : Meets Tryd.prog 85 [.aggB K] [] (.aggB (usL K)) [] := by
 refine meets_of_ev (nt := 16) Tryd.func85 rfl rfl (Nat.le_of_ble_eq_true rfl) ?_
 refine .seq ?_
 refine .region ?_
 refine .a (op_boxRow rfl rfl) trivial rfl ?_
 refine .a (op_allocRow zero22 rel_zero22 rfl) trivial rfl ?_
 refine .nil ?_
 show Ev _ _ _ _ _
 refine .seq ?_
 refine .region ?_
 refine .q (ap_idx_arr Tryd.underlying22 inf5.sz rfl rfl rfl (by first | omega | (skip; omega) | (skip; omega) | assumption | (simp; done))) trivial rfl ?_
 refine .q (op_load Tryd.underlying5 rfl rfl rfl rfl (by simp only [AV.len]; omega)) trivial rfl ?_
 refine .q (op_andNot8 rfl rfl) trivial rfl ?_
 refine .q (ap_idx_arr Tryd.underlying22 inf5.sz rfl rfl rfl (by first | omega | (skip; omega) | (skip; omega) | assumption | (simp; done))) trivial rfl ?_
 refine .w (op_store inf5.sz rfl rfl rfl rfl rfl (by simp only [AV.len]; omega)) trivial rfl ?_
 refine .nil ?_
 show Ev _ _ _ _ _
 refine .seq ?_
 refine .region ?_
 refine .q (ap_idx_arr Tryd.underlying22 inf5.sz rfl rfl rfl (by first | omega | (skip; omega) | (skip; omega) | assumption | (simp; done))) trivial rfl ?_
 refine .q (op_load Tryd.underlying5 rfl rfl rfl rfl (by simp only [AV.len, List.length_set]; omega)) trivial rfl ?_
 refine .q (op_andNot8 rfl rfl) trivial rfl ?_
 refine .q (ap_idx_arr Tryd.underlying22 inf5.sz rfl rfl rfl (by first | omega | (skip; omega) | (skip; omega) | assumption | (simp; done))) trivial rfl ?_
 refine .w (op_store inf5.sz rfl rfl rfl rfl rfl (by simp only [AV.len, List.length_set]; omega)) trivial rfl ?_
 refine .nil ?_
 show Ev _ _ _ _ _
 refine .seq ?_
 refine .region ?_
 refine .q (ap_idx_arr Tryd.underlying22 inf5.sz rfl rfl rfl (by first | omega | (skip; omega) | (skip; omega) | assumption | (simp; done))) trivial rfl ?_
 refine .q (op_load Tryd.underlying5 rfl rfl rfl rfl (by simp only [AV.len, List.length_set]; omega)) trivial rfl ?_
 refine .q (op_bin8 rfl rfl rfl) trivial rfl ?_
 refine .q (ap_idx_arr Tryd.underlying22 inf5.sz rfl rfl rfl (by first | omega | (skip; omega) | (skip; omega) | assumption | (simp; done))) trivial rfl ?_
 refine .w (op_store inf5.sz rfl rfl rfl rfl rfl (by simp only [AV.len, List.length_set]; omega)) trivial rfl ?_
 refine .nil ?_
 show Ev _ _ _ _ _
 refine .seq ?_
 refine .region ?_
 refine .q (op_loadRow Tryd.underlying22 rfl sz22 rfl rfl rfl (by simp only [AV.len, List.length_set]; omega)) trivial rfl ?_
 refine .as (.aggB (usL K)) rfl ?_
 refine .w (op_storeRow sz22 rfl rfl rfl rfl rfl (by first | exact (length_usL K).trans hK | (simp [AV.len]; done)) (by first | exact (length_usL K).trans hK | (simp [AV.len]; done))) trivial rfl ?_
 refine .nil ?_
 show Ev _ _ _ _ _
 refine .ret ?_
 show RetOk _ _ _ _ _ _ _
 exact retc1 rfl (.inl rfl) ⟨_, _, _, _, rfl, rfl, rfl, rfl, ((length_usL K).trans hK), Tryd.underlying22, rfl, sz22⟩ trivial
set_option maxHeartbeats 2000000 in
set_option maxRecDepth 100000 in
theorem ctimes_ev (e : Nat) (K : List UInt8) (x : Nat) (hK : K.length = 32) (hx : x < fp) : Meets Tryd.prog 84 [.aggB K, .agg64 (fl x)] (HP e) (.agg64 (fl (tmV K x))) [] := by
 refine meets_of_ev (nt := 47) Tryd.func84 rfl rfl (Nat.le_of_ble_eq_true rfl) ?_
 refine .seq ?_
 refine .region ?_
 refine .a (op_boxRow rfl rfl) trivial rfl ?_
 refine .a (op_boxRow rfl rfl) trivial rfl ?_
 refine .a (op_allocRow zero71 rel_zero71 rfl) trivial rfl ?_
 refine .nil ?_
 show Ev _ _ _ _ _
 refine .seq ?_
 refine .region ?_
 refine .q (op_call (U := []) [] [] (fsmall_ev _) Tryd.func33 (by kernel_rfl) rfl rfl rfl (⟨⟨_, rfl, rfl, rfl⟩, trivial⟩) (trivial) (trivial) (trivial) rfl) trivial rfl ?_
 refine .as (.agg64 (fl 1)) rfl ?_
 refine .q (op_buildFirst (r := fl 0) Tryd.underlying194 rfl (by exact sz71) (by exact sz71) (by exact zero194) rfl rfl) trivial rfl ?_
 refine .a (op_allocRow zero194 rel_zero194 rfl) trivial rfl ?_
 refine .w (op_storeRow sz194 rfl rfl rfl rfl rfl (rfl) (rfl)) trivial rfl ?_
 refine .nil ?_
 show Ev _ _ _ _ _
 refine .seq ?_
 refine .drawn [[], [], [0, 1], [], [0, 1, 2, 3]] [0, 1, 3, 4] [4] (by kernel_rfl) (by kernel_rfl) rfl ?_
 show DK _ [0, 1, 2, 3, 4] _ _ _
 refine .q rfl (op_loadRow Tryd.underlying71 rfl sz71 rfl rfl rfl (rfl)) trivial ?_
 refine .q rfl (op_call (U := []) [] [] (fsmall_ev _) Tryd.func33 (by kernel_rfl) rfl rfl rfl (⟨⟨_, rfl, rfl, rfl⟩, trivial⟩) (trivial) (trivial) (trivial) rfl) trivial ?_
 refine .as (.agg64 (fl 1)) rfl ?_
 refine .q rfl (op_buildPair Tryd.underlying194 rfl (by rfl) (by exact sz71) (by exact sz71) (by exact zero194) (by rfl) rfl rfl) trivial ?_
 refine .a rfl (op_allocRow zero194 rel_zero194 rfl) trivial rfl rfl ?_
 refine .w rfl (op_storeRow sz194 rfl rfl rfl rfl rfl (rfl) (rfl)) trivial rfl rfl ?_
 refine .nil ?_
 show Ev _ _ _ _ _
 refine .seq ?_
 refine .seq ?_
 refine .region ?_
 refine .q (op_move rfl) trivial rfl ?_
 refine .nil ?_
 show Ev _ _ _ _ _
 refine .block ?_
 refine Ev.loop (ι := { j : Nat // j ≤ 256 }) (fun j => ⟨[(2, .ptr 1000 0), (3, .ptr 1008 0), (4, .ptr 1016 0), (5, .ptr 1024 0), (6, .ptr 1056 0), (16, .i64 ((j.1 : Nat) : Int))], [(1000, some ⟨.aggB K, 22, true⟩), (1008, some ⟨.agg64 (fl x), 71, true⟩), (1016, some ⟨.agg64 (List.replicate 4 0), 71, true⟩), (1024, some ⟨.agg64 (fl ((lad K x j.1).1) ++ fl ((lad K x j.1).2.1)), 194, true⟩), (1056, some ⟨.agg64 (fl ((lad K x j.1).2.2.1) ++ fl ((lad K x j.1).2.2.2)), 194, true⟩), (4, some ⟨.agg64 primeL, e, false⟩)], 1072⟩) (fun j => 256 - j.1) ⟨0, Nat.zero_le _⟩ (StLe.mk [(1000, 1000), (1008, 1008), (1016, 1016), (1024, 1024), (1056, 1056)] rfl rfl ⟨⟨_, rfl, by first | rfl | (simp only [AV.ren]; congr 1; omega), rfl⟩, ⟨_, rfl, by first | rfl | (simp only [AV.ren]; congr 1; omega), rfl⟩, ⟨_, rfl, by first | rfl | (simp only [AV.ren]; congr 1; omega), rfl⟩, ⟨_, rfl, by first | rfl | (simp only [AV.ren]; congr 1; omega), rfl⟩, ⟨_, rfl, by first | rfl | (simp only [AV.ren]; congr 1; omega), rfl⟩, ⟨_, rfl, by first | rfl | (simp only [AV.ren]; congr 1; omega), rfl⟩, trivial⟩ ⟨⟨_, _, rfl, rfl, by first | rfl | (simp only [AV.ren]; congr 1; omega), rfl, id, rfl⟩, ⟨_, _, rfl, rfl, by first | rfl | (simp only [AV.ren]; congr 1; omega), rfl, id, rfl⟩, ⟨_, _, rfl, rfl, by first | rfl | (simp only [AV.ren]; congr 1; omega), rfl, id, rfl⟩, ⟨_, _, rfl, rfl, by first | rfl | (simp only [AV.ren]; congr 1; omega), rfl, id, rfl⟩, ⟨_, _, rfl, rfl, by first | rfl | (simp only [AV.ren]; congr 1; omega), rfl, id, rfl⟩, ⟨_, _, rfl, rfl, by first | rfl | (simp only [AV.ren]; congr 1; omega), rfl, id, rfl⟩, trivial⟩) ?_
 rintro ⟨j, hj⟩
 dsimp only
 have hb := lad_lt K x hx j
 refine .seq ?_
 refine .region ?_
 refine .q (op_cmpI rfl rfl rfl) trivial rfl ?_
 refine .nil ?_
 show Ev _ _ _ _ _
 refine .seq ?_
 refine .cond rfl (fun hc17 => ?_) (fun hc17 => ?_)
 ·simp only [decide_eq_true_eq] at hc17
  refine .skip ?_
  show Ev _ _ _ _ _
  refine .seq ?_
  refine .block ?_
  refine .seq ?_
  refine .region ?_
  refine .q (op_move rfl) trivial rfl ?_
  refine .q (op_assign rfl) trivial rfl ?_
  refine .nil ?_
  show Ev _ _ _ _ _
  refine .seq ?_
  refine .region ?_
  refine .q (op_loadRow Tryd.underlying22 rfl sz22 rfl rfl rfl (hK)) trivial rfl ?_
  refine .q (op_move rfl) trivial rfl ?_
  refine .q (op_subI rfl rfl ⟨by omega, by omega⟩) trivial rfl ?_
  refine .as (.i64 ((255 - j : Nat) : Int)) (congrArg AV.i64 (by omega)) ?_
  refine .q (op_call (U := []) [] [] (cbit_ev K (255 - j) hK (by omega)) Tryd.func139 (by kernel_rfl) rfl rfl rfl (⟨⟨_, rfl, rfl, rfl⟩, ⟨_, rfl, rfl, rfl⟩, trivial⟩) (trivial) (trivial) (trivial) rfl) trivial rfl ?_
  refine .q (op_assign rfl) trivial rfl ?_
  refine .nil ?_
  show Ev _ _ _ _ _
  refine .seq ?_
  refine .region ?_
  refine .q (op_loadRow Tryd.underlying194 rfl sz194 rfl rfl rfl (rfl)) trivial rfl ?_
  refine .q (op_loadRow Tryd.underlying194 rfl sz194 rfl rfl rfl (rfl)) trivial rfl ?_
  refine .q (op_loadRow Tryd.underlying71 rfl sz71 rfl rfl rfl (rfl)) trivial rfl ?_
  refine .q (op_call (U := []) [] [] (csum_ev e _ _ _ _ _ hb.1 hb.2.1 hb.2.2.1 hb.2.2.2 hx) Tryd.func140 (by kernel_rfl) rfl rfl rfl (⟨⟨_, rfl, rfl, rfl⟩, ⟨_, rfl, rfl, rfl⟩, ⟨_, rfl, rfl, rfl⟩, trivial⟩) (⟨⟨_, _, rfl, rfl, rfl, rfl, id, rfl⟩, trivial⟩) (trivial) (⟨(fun h => by cases h), trivial⟩) rfl) trivial rfl ?_
  refine .a (op_allocRow zero194 rel_zero194 rfl) trivial rfl ?_
  refine .w (op_storeRow sz194 rfl rfl rfl rfl rfl (rfl) (rfl)) trivial rfl ?_
  refine .nil ?_
  show Ev _ _ _ _ _
  refine .seq ?_
  refine .region ?_
  refine .q (op_move rfl) trivial rfl ?_
  refine .q (op_loadRow Tryd.underlying194 rfl sz194 rfl rfl rfl (rfl)) trivial rfl ?_
  refine .q (op_loadRow Tryd.underlying194 rfl sz194 rfl rfl rfl (rfl)) trivial rfl ?_
  refine .q (op_call (U := []) [] [] (cchoose_ev _ _ _ _ _) Tryd.func142 (by kernel_rfl) rfl rfl rfl (⟨⟨_, rfl, rfl, rfl⟩, ⟨_, rfl, rfl, rfl⟩, ⟨_, rfl, rfl, rfl⟩, trivial⟩) (trivial) (trivial) (trivial) rfl) trivial rfl ?_
  refine .q (op_call (U := []) [] [] (cdouble_ev e _ _ (by split <;> first | exact hb.1 | exact hb.2.2.1) (by split <;> first | exact hb.2.1 | exact hb.2.2.2)) Tryd.func141 (by kernel_rfl) rfl rfl rfl (⟨⟨_, rfl, rfl, rfl⟩, trivial⟩) (⟨⟨_, _, rfl, rfl, rfl, rfl, id, rfl⟩, trivial⟩) (trivial) (⟨(fun h => by cases h), trivial⟩) rfl) trivial rfl ?_
  refine .a (op_allocRow zero194 rel_zero194 rfl) trivial rfl ?_
  refine .w (op_storeRow sz194 rfl rfl rfl rfl rfl (rfl) (rfl)) trivial rfl ?_
  refine .nil ?_
  show Ev _ _ _ _ _
  refine .drawn [[], [], [], [0, 1, 2], [], [], [], [0, 1, 2, 3, 4, 5, 6], [0, 1, 2, 3, 4, 5, 6, 7], [0, 1, 2, 3, 4, 5, 6, 7, 8]] [1, 2, 3, 5, 6, 7, 8, 9] [8, 9] (by kernel_rfl) (by kernel_rfl) rfl ?_
  show DK _ [0, 1, 2, 3, 4, 5, 6, 7, 8, 9] _ _ _
  refine .q rfl (op_move rfl) trivial ?_
  refine .q rfl (op_loadRow Tryd.underlying194 rfl sz194 rfl rfl rfl (rfl)) trivial ?_
  refine .q rfl (op_loadRow Tryd.underlying194 rfl sz194 rfl rfl rfl (rfl)) trivial ?_
  refine .q rfl (op_call (U := []) [] [] (cchoose_ev _ _ _ _ _) Tryd.func142 (by kernel_rfl) rfl rfl rfl (⟨⟨_, rfl, rfl, rfl⟩, ⟨_, rfl, rfl, rfl⟩, ⟨_, rfl, rfl, rfl⟩, trivial⟩) (trivial) (trivial) (trivial) rfl) trivial ?_
  refine .q rfl (op_move rfl) trivial ?_
  refine .q rfl (op_loadRow Tryd.underlying194 rfl sz194 rfl rfl rfl (rfl)) trivial ?_
  refine .q rfl (op_loadRow Tryd.underlying194 rfl sz194 rfl rfl rfl (rfl)) trivial ?_
  refine .q rfl (op_call (U := []) [] [] (cchoose_ev _ _ _ _ _) Tryd.func142 (by kernel_rfl) rfl rfl rfl (⟨⟨_, rfl, rfl, rfl⟩, ⟨_, rfl, rfl, rfl⟩, ⟨_, rfl, rfl, rfl⟩, trivial⟩) (trivial) (trivial) (trivial) rfl) trivial ?_
  refine .w rfl (op_storeRow sz194 rfl rfl rfl rfl rfl (rfl) (rfl)) trivial rfl rfl ?_
  refine .w rfl (op_storeRow sz194 rfl rfl rfl rfl rfl (rfl) (rfl)) trivial rfl rfl ?_
  refine .nil ?_
  show Ev _ _ _ _ _
  refine .region ?_
  refine .q (op_addI rfl rfl ⟨by omega, by omega⟩) trivial rfl ?_
  refine .q (op_move rfl) trivial rfl ?_
  refine .nil ?_
  exact ⟨⟨j + 1, by omega⟩, by show 256 - (j + 1) < 256 - j; omega, StLe.mk [(1000, 1000), (1008, 1008), (1016, 1016), (1024, 1024), (1056, 1056)] rfl rfl ⟨⟨_, rfl, by first | rfl | (simp only [AV.ren]; congr 1; omega), rfl⟩, ⟨_, rfl, by first | rfl | (simp only [AV.ren]; congr 1; omega), rfl⟩, ⟨_, rfl, by first | rfl | (simp only [AV.ren]; congr 1; omega), rfl⟩, ⟨_, rfl, by first | rfl | (simp only [AV.ren]; congr 1; omega), rfl⟩, ⟨_, rfl, by first | rfl | (simp only [AV.ren]; congr 1; omega), rfl⟩, ⟨_, rfl, by first | rfl | (simp only [AV.ren]; congr 1; omega), rfl⟩, trivial⟩ ⟨⟨_, _, rfl, rfl, by first | rfl | (simp only [AV.ren]; congr 1; omega), rfl, id, rfl⟩, ⟨_, _, rfl, rfl, by first | rfl | (simp only [AV.ren]; congr 1; omega), rfl, id, rfl⟩, ⟨_, _, rfl, rfl, by first | rfl | (simp only [AV.ren]; congr 1; omega), rfl, id, rfl⟩, ⟨_, _, rfl, rfl, by (simp only [AV.ren, lad, lstep]; done), rfl, id, rfl⟩, ⟨_, _, rfl, rfl, by (simp only [AV.ren, lad, lstep]; done), rfl, id, rfl⟩, ⟨_, _, rfl, rfl, by first | rfl | (simp only [AV.ren]; congr 1; omega), rfl, id, rfl⟩, trivial⟩⟩
 ·simp only [decide_eq_false_iff_not] at hc17
  refine .exit ?_
  show Ev _ _ _ _ _
  have ej : j = 256 := by omega
  refine Ev.weak (st2 := ⟨[(2, .ptr 1000 0), (3, .ptr 1008 0), (4, .ptr 1016 0), (5, .ptr 1024 0), (6, .ptr 1056 0), (16, .i64 (((256) : Nat) : Int))], [(1000, some ⟨.aggB K, 22, true⟩), (1008, some ⟨.agg64 (fl x), 71, true⟩), (1016, some ⟨.agg64 (List.replicate 4 0), 71, true⟩), (1024, some ⟨.agg64 (fl ((lad K x (256)).1) ++ fl ((lad K x (256)).2.1)), 194, true⟩), (1056, some ⟨.agg64 (fl ((lad K x (256)).2.2.1) ++ fl ((lad K x (256)).2.2.2)), 194, true⟩), (4, some ⟨.agg64 primeL, e, false⟩)], 1072⟩) (StLe.mk [(1000, 1000), (1008, 1008), (1016, 1016), (1024, 1024), (1056, 1056)] rfl rfl ⟨⟨_, rfl, by first | (simp only [AV.ren]; done) | (simp only [AV.ren]; rw [ej]; done) | rfl, rfl⟩, ⟨_, rfl, by first | (simp only [AV.ren]; done) | (simp only [AV.ren]; rw [ej]; done) | rfl, rfl⟩, ⟨_, rfl, by first | (simp only [AV.ren]; done) | (simp only [AV.ren]; rw [ej]; done) | rfl, rfl⟩, ⟨_, rfl, by first | (simp only [AV.ren]; done) | (simp only [AV.ren]; rw [ej]; done) | rfl, rfl⟩, ⟨_, rfl, by first | (simp only [AV.ren]; done) | (simp only [AV.ren]; rw [ej]; done) | rfl, rfl⟩, ⟨_, rfl, by first | (simp only [AV.ren]; done) | (simp only [AV.ren]; rw [ej]; done) | rfl, rfl⟩, trivial⟩ ⟨⟨_, _, rfl, rfl, by first | (simp only [AV.ren]; done) | (simp only [AV.ren]; rw [ej]; done) | rfl, rfl, id, rfl⟩, ⟨_, _, rfl, rfl, by first | (simp only [AV.ren]; done) | (simp only [AV.ren]; rw [ej]; done) | rfl, rfl, id, rfl⟩, ⟨_, _, rfl, rfl, by first | (simp only [AV.ren]; done) | (simp only [AV.ren]; rw [ej]; done) | rfl, rfl, id, rfl⟩, ⟨_, _, rfl, rfl, by first | (simp only [AV.ren]; done) | (simp only [AV.ren]; rw [ej]; done) | rfl, rfl, id, rfl⟩, ⟨_, _, rfl, rfl, by first | (simp only [AV.ren]; done) | (simp only [AV.ren]; rw [ej]; done) | rfl, rfl, id, rfl⟩, ⟨_, _, rfl, rfl, by first | (simp only [AV.ren]; done) | (simp only [AV.ren]; rw [ej]; done) | rfl, rfl, id, rfl⟩, trivial⟩) ?_
  refine .seq ?_
  refine .drawn [[], [0], [], [2], [2, 3], [0, 1, 2, 3, 4], [0, 1, 2, 3, 4, 5]] [1, 3, 4, 5, 6] [6] (by kernel_rfl) (by kernel_rfl) rfl ?_
  show DK _ [0, 1, 2, 3, 4, 5, 6] _ _ _
  have hb := lad_lt K x hx 256
  refine .q rfl (op_fieldAddr (m := 3) Tryd.underlying194 rfl sz71 rfl) trivial ?_
  refine .q rfl (op_loadPart (r := .agg64 (fl ((lad K x 256).1))) (cs := (fl ((lad K x 256).1)).map AV.u64) Tryd.underlying71 rfl sz71 rfl rfl rfl rfl rfl (Nat.le_of_ble_eq_true rfl)) trivial ?_
  refine .q rfl (op_fieldAddr (m := 3) Tryd.underlying194 rfl sz71 rfl) trivial ?_
  refine .q rfl (op_loadPart (r := .agg64 (fl ((lad K x 256).2.1))) (cs := (fl ((lad K x 256).2.1)).map AV.u64) Tryd.underlying71 rfl sz71 rfl rfl rfl rfl rfl (Nat.le_of_ble_eq_true rfl)) trivial ?_
  refine .q rfl (op_call (U := []) [] [] (finvert_ev _ (by first | assumption | exact fmod_lt _ | exact hb.1 | exact hb.2.1 | decide)) Tryd.func37 (by kernel_rfl) rfl rfl rfl (⟨⟨_, rfl, rfl, rfl⟩, trivial⟩) (trivial) (trivial) (trivial) rfl) trivial ?_
  refine .q rfl (op_call (U := []) [] [] (fmul_ev _ _ (by first | assumption | exact fmod_lt _ | exact hb.1 | exact hb.2.1 | decide) (by first | assumption | exact fmod_lt _ | exact hb.1 | exact hb.2.1 | decide)) Tryd.func35 (by kernel_rfl) rfl rfl rfl (⟨⟨_, rfl, rfl, rfl⟩, ⟨_, rfl, rfl, rfl⟩, trivial⟩) (trivial) (trivial) (trivial) rfl) trivial ?_
  refine .as (.agg64 (fl (tmV K x))) rfl ?_
  refine .w rfl (op_storeRow sz71 rfl rfl rfl rfl rfl (rfl) (rfl)) trivial rfl rfl ?_
  refine .nil ?_
  show Ev _ _ _ _ _
  refine .ret ?_
  show RetOk _ _ _ _ _ _ _
  exact retc1 rfl (.inl rfl) ⟨_, _, _, _, rfl, rfl, rfl, rfl, (rfl), Tryd.underlying71, rfl, sz71⟩ trivial
end Go.Proofs.YtcnjekoidgefpaaDoor
namespace Go.Proofs.YtcnjekoidgefpaaDoor
open Go.RowKit
set_option maxRecDepth 100000 in
theorem cbase_ev (e : Nat) (K : List UInt8) (hK : K.length = 32) : Meets Tryd.prog 31 [.aggB K] (HP e) (.aggB (bsN (tmV (usL K) 9) 32)) [] := by
 refine meets_of_ev (nt := 8) Tryd.func31 rfl rfl (Nat.le_of_ble_eq_true rfl) ?_
 refine .seq ?_
 refine .region ?_
 refine .a (op_boxRow rfl rfl) trivial rfl ?_
 refine .a (op_allocRow zero22 rel_zero22 rfl) trivial rfl ?_
 refine .nil ?_
 show Ev _ _ _ _ _
 refine .seq ?_
 refine .region ?_
 refine .q (op_loadRow Tryd.underlying22 rfl sz22 rfl rfl rfl (hK)) trivial rfl ?_
 refine .q (op_call (U := []) [] [] (cusable_ev K hK) Tryd.func85 (by kernel_rfl) rfl rfl rfl (⟨⟨_, rfl, rfl, rfl⟩, trivial⟩) (trivial) (trivial) (trivial) rfl) trivial rfl ?_
 refine .q (op_call (U := []) [] [] (fsmall_ev _) Tryd.func33 (by kernel_rfl) rfl rfl rfl (⟨⟨_, rfl, rfl, rfl⟩, trivial⟩) (trivial) (trivial) (trivial) rfl) trivial rfl ?_
 refine .as (.agg64 (fl 9)) rfl ?_
 refine .q (op_call (U := []) [] [] (ctimes_ev e (usL K) 9 ((length_usL K).trans hK) (show 9 < fp by decide)) Tryd.func84 (by kernel_rfl) rfl rfl rfl (⟨⟨_, rfl, rfl, rfl⟩, ⟨_, rfl, rfl, rfl⟩, trivial⟩) (⟨⟨_, _, rfl, rfl, rfl, rfl, id, rfl⟩, trivial⟩) (trivial) (⟨(fun h => by cases h), trivial⟩) rfl) trivial rfl ?_
 refine .as (.agg64 (fl (tmV (usL K) 9))) rfl ?_
 refine .q (op_call (U := []) [] [] (fbytes_ev (tmV (usL K) 9)) Tryd.func38 (by kernel_rfl) rfl rfl rfl (⟨⟨_, rfl, rfl, rfl⟩, trivial⟩) (trivial) (trivial) (trivial) rfl) trivial rfl ?_
 refine .as (.aggB (bsN (tmV (usL K) 9) 32)) rfl ?_
 refine .w (op_storeRow sz22 rfl rfl rfl rfl rfl (by simp [AV.len, length_bsN]) (by simp [AV.len])) trivial rfl ?_
 refine .nil ?_
 show Ev _ _ _ _ _
 refine .ret ?_
 show RetOk _ _ _ _ _ _ _
 exact retc1 rfl (.inl rfl) ⟨_, _, _, _, rfl, rfl, rfl, rfl, (length_bsN (tmV (usL K) 9) 32), Tryd.underlying22, rfl, sz22⟩ trivial
end Go.Proofs.YtcnjekoidgefpaaDoor
namespace Go.Proofs.YtcnjekoidgefpaaDoor
theorem leN_bsN (v n : Nat) : leN (bsN v n) n = v % 256 ^ n := by
  induction n with
  | zero => simp [leN, Nat.mod_one]
  | succ n ih =>
    have e : leN (bsN v (n + 1)) n = leN (bsN v n) n := leN_congr _ _ _ fun i hi => by
      simp only [bsN]; rw [getD_app, if_pos (by rw [length_bsN]; exact hi)]
    simp only [leN]
    rw [e, ih, bs_get v (n + 1) n (by omega)]
    have h := Nat.mod_lt (v / 256 ^ n) (show 0 < 256 by decide)
    rw [UInt8.toNat_ofNat_of_lt' (by simpa using h), Nat.pow_succ, Nat.mod_mul]
theorem of_bytes (v : Nat) (h : v < fp) : ofV (bsN v 32) = v := by
  have h2 : (256 : Nat) ^ 32 = 115792089237316195423570985008687907853269984665640564039457584007913129639936 := by decide
  unfold ofV
  rw [leN_bsN, h2]
  unfold fp at *
  omega
theorem bsN_inj {a b : Nat} (ha : a < fp) (hb : b < fp) (h : bsN a 32 = bsN b 32) : a = b := by rw [← of_bytes a ha, ← of_bytes b hb, h]
def pk (s : Nat × Nat × Nat × Nat) : Nat := s.1 + 115792089237316195423570985008687907853269984665640564039457584007913129639936 * (s.2.1 + 115792089237316195423570985008687907853269984665640564039457584007913129639936 * (s.2.2.1 + 115792089237316195423570985008687907853269984665640564039457584007913129639936 * s.2.2.2))
def up (n : Nat) : Nat × Nat × Nat × Nat := (n % 115792089237316195423570985008687907853269984665640564039457584007913129639936, n / 115792089237316195423570985008687907853269984665640564039457584007913129639936 % 115792089237316195423570985008687907853269984665640564039457584007913129639936, n / 115792089237316195423570985008687907853269984665640564039457584007913129639936 / 115792089237316195423570985008687907853269984665640564039457584007913129639936 % 115792089237316195423570985008687907853269984665640564039457584007913129639936, n / 115792089237316195423570985008687907853269984665640564039457584007913129639936 / 115792089237316195423570985008687907853269984665640564039457584007913129639936 / 115792089237316195423570985008687907853269984665640564039457584007913129639936)
theorem up_pk (s : Nat × Nat × Nat × Nat) (h1 : s.1 < fp) (h2 : s.2.1 < fp) (h3 : s.2.2.1 < fp) : up (pk s) = s := by
  obtain ⟨a, b, c, d⟩ := s
  unfold up pk fp at *
  simp only at *
  refine Prod.ext ?_ (Prod.ext ?_ (Prod.ext ?_ ?_))
  · show _ % _ = a; omega
  · show _ / _ % _ = b; omega
  · show _ / _ / _ % _ = c; omega
  · show _ / _ / _ / _ = d; omega
def ladP (K : List UInt8) (x : Nat) : Nat → Nat
  | 0 => pk (1, 0, x, 1)
  | i + 1 => pk (lstep (kb K (255 - i)) x (up (ladP K x i)))
theorem ladP_eq (K : List UInt8) (x : Nat) (hx : x < fp) (i : Nat) : ladP K x i = pk (lad K x i) := by
  induction i with
  | zero => rfl
  | succ i ih =>
    have h := lad_lt K x hx i
    simp only [ladP, lad]
    rw [ih, up_pk _ h.1 h.2.1 h.2.2.1]
def tmC (K : List UInt8) (x : Nat) : Nat := (up (ladP K x 256)).1 * pm fp 256 (up (ladP K x 256)).2.1 (fp - 2) % fp
theorem tmC_eq (K : List UInt8) (x : Nat) (hx : x < fp) : tmV K x = tmC K x := by
  have h := lad_lt K x hx 256
  unfold tmV tmC
  rw [ladP_eq K x hx, up_pk _ h.1 h.2.1 h.2.2.1, pm_spec fp 256 _ (fp - 2) (by decide)]
def ka6 : List UInt8 := [0, 0, 0, 0, 0, 0, 0, 0, 7, 0, 0, 0, 0, 0, 0, 0, 0, 0, 0, 0, 0, 0, 0, 0, 0, 0, 0, 0, 0, 0, 0, 0]
def kb6 : List UInt8 := [0, 0, 0, 0, 0, 0, 0, 0, 0, 0, 0, 0, 0, 0, 0, 0, 0, 0, 0, 0, 9, 0, 0, 0, 0, 0, 0, 0, 0, 0, 0, 0]
theorem fact6a : tmC (usL ka6) (tmC (usL kb6) 9) = tmC (usL kb6) (tmC (usL ka6) 9) := by decide +kernel
theorem fact6b : tmC (usL ka6) (tmC (usL kb6) 9) ≠ 0 := by decide +kernel
theorem fact6c : tmC (usL ka6) 9 ≠ tmC (usL kb6) 9 := by decide +kernel
end Go.Proofs.YtcnjekoidgefpaaDoor
