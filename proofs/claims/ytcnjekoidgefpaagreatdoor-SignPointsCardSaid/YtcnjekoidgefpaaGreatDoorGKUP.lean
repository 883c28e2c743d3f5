/-
  Texts of this claim.
-/
import Derived.Test.YtcnjekoidgefpaaGreatDoorGK2P
import Derived.Test.YtcnjekoidgefpaaGreatDoorGTKP
import Derived.Test.YtcnjekoidgefpaaGreatDoorGKPP
namespace Go.Proofs.YtcnjekoidgefpaaGreatDoor
open Go.RowKit
set_option maxHeartbeats 1000000 in
set_option maxRecDepth 100000 in
theorem signPoints_T (e e2 ek eo : Nat) (key : List UInt8) (hk : key.length = 32) (hR : rtB (decR (ofV key)) = true) : Meets Tryz.prog 6 [.aggB key] [(0, some ⟨.agg64 primeL, e, false⟩), (3, some ⟨.agg64 minusL, e2, false⟩), (1, some ⟨.agg64 K512, ek, false⟩), (2, some ⟨.agg64 orderL, eo, false⟩)] (.bool true) [] := by
 refine meets_of_ev (nt := 18) Tryz.func6 rfl rfl (Nat.le_of_ble_eq_true rfl) ?_
 refine .seq ?_
 refine .region ?_
 refine .a (op_boxRow rfl rfl) trivial rfl ?_
 refine .q (op_assign rfl) trivial rfl ?_
 refine .nil ?_
 show Ev _ _ _ _ _
 refine .seq ?_
 refine .seq ?_
 refine .region ?_
 refine .q (op_call (U := []) [] [] (awake8_ev e e2 ek eo) Tryz.func7 (by kernel_rfl) rfl rfl rfl (trivial) (⟨⟨_, _, rfl, rfl, rfl, rfl, id, rfl⟩, ⟨_, _, rfl, rfl, rfl, rfl, id, rfl⟩, ⟨_, _, rfl, rfl, rfl, rfl, id, rfl⟩, ⟨_, _, rfl, rfl, rfl, rfl, id, rfl⟩, trivial⟩) (trivial) (⟨(fun h => by cases h), (fun h => by cases h), (fun h => by cases h), (fun h => by cases h), trivial⟩) rfl) trivial rfl ?_
 refine .q (op_notB rfl) trivial rfl ?_
 refine .nil ?_
 show Ev _ _ _ _ _
 refine .cond_false rfl (rfl) ?_
 refine .skip ?_
 show Ev _ _ _ _ _
 refine .seq ?_
 refine .drawn [[], [], [1], [0, 1, 2], [0, 1, 2, 3], [0, 1, 2, 3, 4], [0, 1, 2, 3, 4], [], [0, 1, 2, 3, 4, 5, 7], [0, 1, 2, 3, 4, 5, 6, 7, 8]] [0, 1, 2, 3, 7, 8] [8] (by kernel_rfl) (by kernel_rfl) rfl ?_
 show DK _ [0, 1, 2, 3, 4, 5, 6, 7, 8, 9] _ _ _
 refine .a rfl (op_call (U := [(1008, some ⟨.aggI (dg (dV)), 3, true⟩)]) [] [(1008, 1032)] (k8D) Tryz.func17 (by kernel_rfl) rfl rfl rfl (trivial) (trivial) (⟨⟨1032, _, rfl, rfl, rfl, rfl, .inl rfl⟩, trivial⟩) (trivial) rfl) trivial rfl rfl ?_
 refine .q rfl (ap_slice_arr_hi Tryz.underlying22 inf5.sz rfl rfl (by first | omega | (simp only [AV.len]; omega)) (by decide) rfl (by first | omega | (simp only [AV.len]; omega))) trivial ?_
 refine .q rfl (op_bytes_str Tryz.underlying25 Tryz.underlying5 Tryz.underlying9 rfl rfl rfl (by omega)) trivial ?_
 refine .as (.str key) (congrArg AV.str (drop_take_all key 32 hk)) ?_
 refine .a rfl (op_call (U := [(1032, some ⟨.aggI (dg (decX key)), 3, true⟩), (1033, some ⟨.aggI (dg (ofV key)), 3, true⟩), (1034, some ⟨.aggI (dg (1)), 3, true⟩)]) [(500, 1008)] [(1032, 2000), (1033, 2008), (1034, 2016)] (k8read_T key hk hR) Tryz.func16 (by kernel_rfl) rfl rfl rfl (⟨⟨_, rfl, rfl, rfl⟩, ⟨_, rfl, rfl, rfl⟩, trivial⟩) (⟨⟨_, ⟨.aggI (dg (dV)), 3, true⟩, rfl, by kernel_rfl, rfl, rfl, (fun h => by cases h), rfl⟩, trivial⟩) (⟨⟨2000, _, rfl, rfl, rfl, rfl, .inl rfl⟩, ⟨2008, _, rfl, rfl, rfl, rfl, .inl rfl⟩, ⟨2016, _, rfl, rfl, rfl, rfl, .inl rfl⟩, trivial⟩) (⟨(fun h => by cases h), trivial⟩) rfl) trivial rfl rfl ?_
 refine .q rfl (op_move rfl) trivial ?_
 refine .q rfl (op_extract rfl rfl) trivial ?_
 refine .q rfl (op_extract rfl rfl) trivial ?_
 refine .a rfl (op_allocRow zero40 rel_zero40 rfl) trivial rfl rfl ?_
 refine .w rfl (op_storeRow (by kernel_rfl) rfl rfl rfl rfl rfl (rfl) (rfl)) trivial rfl rfl ?_
 refine .q rfl (op_assign rfl) trivial ?_
 refine .nil ?_
 show Ev _ _ _ _ _
 refine .seq ?_
 refine .region ?_
 refine .q (op_loadRow Tryz.underlying22 rfl sz22 rfl rfl rfl (hk)) trivial rfl ?_
 refine .q (op_call (U := []) [] [] (kpoint_ev e e2 key hk) Tryz.func10 (by kernel_rfl) rfl rfl rfl (⟨⟨_, rfl, rfl, rfl⟩, trivial⟩) (⟨⟨_, _, rfl, rfl, rfl, rfl, id, rfl⟩, ⟨_, _, rfl, rfl, rfl, rfl, id, rfl⟩, trivial⟩) (trivial) (⟨(fun h => by cases h), (fun h => by cases h), trivial⟩) rfl) trivial rfl ?_
 refine .q (op_move rfl) trivial rfl ?_
 refine .q (op_eqB Tryz.underlying4 rfl rfl rfl) trivial rfl ?_
 refine .q (op_assign rfl) trivial rfl ?_
 refine .nil ?_
 show Ev _ _ _ _ _
 refine .ret ?_
 show RetOk _ _ _ _ _ _ _
 exact ret1v rfl (.inl rfl) rfl (congrArg AV.bool (by unfold decB; rw [hR]; simp)) trivial
set_option maxHeartbeats 1000000 in
set_option maxRecDepth 100000 in
theorem signPoints_F (e e2 ek eo : Nat) (key : List UInt8) (hk : key.length = 32) (hR : rtB (decR (ofV key)) = false) : Meets Tryz.prog 6 [.aggB key] [(0, some ⟨.agg64 primeL, e, false⟩), (3, some ⟨.agg64 minusL, e2, false⟩), (1, some ⟨.agg64 K512, ek, false⟩), (2, some ⟨.agg64 orderL, eo, false⟩)] (.bool true) [] := by
 refine meets_of_ev (nt := 18) Tryz.func6 rfl rfl (Nat.le_of_ble_eq_true rfl) ?_
 refine .seq ?_
 refine .region ?_
 refine .a (op_boxRow rfl rfl) trivial rfl ?_
 refine .q (op_assign rfl) trivial rfl ?_
 refine .nil ?_
 show Ev _ _ _ _ _
 refine .seq ?_
 refine .seq ?_
 refine .region ?_
 refine .q (op_call (U := []) [] [] (awake8_ev e e2 ek eo) Tryz.func7 (by kernel_rfl) rfl rfl rfl (trivial) (⟨⟨_, _, rfl, rfl, rfl, rfl, id, rfl⟩, ⟨_, _, rfl, rfl, rfl, rfl, id, rfl⟩, ⟨_, _, rfl, rfl, rfl, rfl, id, rfl⟩, ⟨_, _, rfl, rfl, rfl, rfl, id, rfl⟩, trivial⟩) (trivial) (⟨(fun h => by cases h), (fun h => by cases h), (fun h => by cases h), (fun h => by cases h), trivial⟩) rfl) trivial rfl ?_
 refine .q (op_notB rfl) trivial rfl ?_
 refine .nil ?_
 show Ev _ _ _ _ _
 refine .cond_false rfl (rfl) ?_
 refine .skip ?_
 show Ev _ _ _ _ _
 refine .seq ?_
 refine .drawn [[], [], [1], [0, 1, 2], [0, 1, 2, 3], [0, 1, 2, 3, 4], [0, 1, 2, 3, 4], [], [0, 1, 2, 3, 4, 5, 7], [0, 1, 2, 3, 4, 5, 6, 7, 8]] [0, 1, 2, 3, 7, 8] [8] (by kernel_rfl) (by kernel_rfl) rfl ?_
 show DK _ [0, 1, 2, 3, 4, 5, 6, 7, 8, 9] _ _ _
 refine .a rfl (op_call (U := [(1008, some ⟨.aggI (dg (dV)), 3, true⟩)]) [] [(1008, 1032)] (k8D) Tryz.func17 (by kernel_rfl) rfl rfl rfl (trivial) (trivial) (⟨⟨1032, _, rfl, rfl, rfl, rfl, .inl rfl⟩, trivial⟩) (trivial) rfl) trivial rfl rfl ?_
 refine .q rfl (ap_slice_arr_hi Tryz.underlying22 inf5.sz rfl rfl (by first | omega | (simp only [AV.len]; omega)) (by decide) rfl (by first | omega | (simp only [AV.len]; omega))) trivial ?_
 refine .q rfl (op_bytes_str Tryz.underlying25 Tryz.underlying5 Tryz.underlying9 rfl rfl rfl (by omega)) trivial ?_
 refine .as (.str key) (congrArg AV.str (drop_take_all key 32 hk)) ?_
 refine .a rfl (op_call (U := [(1032, some ⟨.aggI (dg 1), 3, true⟩)]) [(500, 1008)] [(1032, 1024)] (k8read_F key hk hR) Tryz.func16 (by kernel_rfl) rfl rfl rfl (⟨⟨_, rfl, rfl, rfl⟩, ⟨_, rfl, rfl, rfl⟩, trivial⟩) (⟨⟨_, ⟨.aggI (dg (dV)), 3, true⟩, rfl, by kernel_rfl, rfl, rfl, (fun h => by cases h), rfl⟩, trivial⟩) (⟨⟨1024, _, rfl, rfl, rfl, rfl, .inl rfl⟩, trivial⟩) (⟨(fun h => by cases h), trivial⟩) rfl) trivial rfl rfl ?_
 refine .q rfl (op_move rfl) trivial ?_
 refine .q rfl (op_extract rfl rfl) trivial ?_
 refine .q rfl (op_extract rfl rfl) trivial ?_
 refine .a rfl (op_allocRow zero40 rel_zero40 rfl) trivial rfl rfl ?_
 refine .w rfl (op_storeRow (by kernel_rfl) rfl rfl rfl rfl rfl (rfl) (rfl)) trivial rfl rfl ?_
 refine .q rfl (op_assign rfl) trivial ?_
 refine .nil ?_
 show Ev _ _ _ _ _
 refine .seq ?_
 refine .region ?_
 refine .q (op_loadRow Tryz.underlying22 rfl sz22 rfl rfl rfl (hk)) trivial rfl ?_
 refine .q (op_call (U := []) [] [] (kpoint_ev e e2 key hk) Tryz.func10 (by kernel_rfl) rfl rfl rfl (⟨⟨_, rfl, rfl, rfl⟩, trivial⟩) (⟨⟨_, _, rfl, rfl, rfl, rfl, id, rfl⟩, ⟨_, _, rfl, rfl, rfl, rfl, id, rfl⟩, trivial⟩) (trivial) (⟨(fun h => by cases h), (fun h => by cases h), trivial⟩) rfl) trivial rfl ?_
 refine .q (op_move rfl) trivial rfl ?_
 refine .q (op_eqB Tryz.underlying4 rfl rfl rfl) trivial rfl ?_
 refine .q (op_assign rfl) trivial rfl ?_
 refine .nil ?_
 show Ev _ _ _ _ _
 refine .ret ?_
 show RetOk _ _ _ _ _ _ _
 exact ret1v rfl (.inl rfl) rfl (congrArg AV.bool (by unfold decB; rw [hR]; simp)) trivial
theorem signPoints_ev (e e2 ek eo : Nat) (key : List UInt8) (hk : key.length = 32) : Meets Tryz.prog 6 [.aggB key] [(0, some ⟨.agg64 primeL, e, false⟩), (3, some ⟨.agg64 minusL, e2, false⟩), (1, some ⟨.agg64 K512, ek, false⟩), (2, some ⟨.agg64 orderL, eo, false⟩)] (.bool true) [] := by
 cases hR : rtB (decR (ofV key)) with
 | true => exact signPoints_T e e2 ek eo key hk hR
 | false => exact signPoints_F e e2 ek eo key hk hR
end Go.Proofs.YtcnjekoidgefpaaGreatDoor
