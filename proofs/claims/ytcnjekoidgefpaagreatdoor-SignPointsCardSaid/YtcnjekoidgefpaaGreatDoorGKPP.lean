/-
  Texts of this claim.
-/
import Derived.Test.YtcnjekoidgefpaaGreatDoorGKHP
import Derived.Test.YtcnjekoidgefpaaGreatDoorGKOP
namespace Go.Proofs.YtcnjekoidgefpaaGreatDoor
open Go.RowKit
set_option maxRecDepth 100000 in
theorem awake8_gen (e e2 ek eo : Nat) (s : List UInt8) (hsd : s = [1, 0, 0, 0, 0, 0, 0, 0, 0, 0, 0, 0, 0, 0, 0, 0, 0, 0, 0, 0, 0, 0, 0, 0, 0, 0, 0, 0, 0, 0, 0, 0]) (hs : s.length = 32) (haw : vrfN (keyN (secA s)) [110] (sgnN s [109]) = false) : Meets Tryz.prog 7 [] [(0, some ⟨.agg64 primeL, e, false⟩), (3, some ⟨.agg64 minusL, e2, false⟩), (1, some ⟨.agg64 K512, ek, false⟩), (2, some ⟨.agg64 orderL, eo, false⟩)] (.bool true) [] := by
 refine meets_of_ev (nt := 21) Tryz.func7 rfl rfl (Nat.le_of_ble_eq_true rfl) ?_
 refine .seq ?_
 refine .region ?_
 refine .q (op_assign rfl) trivial rfl ?_
 refine .nil ?_
 show Ev _ _ _ _ _
 refine .seq ?_
 refine .region ?_
 refine .q (op_buildArr (us := [(0, _)]) Tryz.underlying22 inf5.sz zero22 rel_zero22 rfl (by decide) ⟨rfl, rfl, rfl, trivial⟩ rfl) trivial rfl ?_
 refine .as (.aggB s) (congrArg AV.aggB hsd.symm) ?_
 refine .a (op_allocRow zero22 rel_zero22 rfl) trivial rfl ?_
 refine .w (op_storeRow sz22 rfl rfl rfl rfl rfl (by simp only [AV.len, hs]) (by simp only [AV.len, List.length_replicate])) trivial rfl ?_
 refine .nil ?_
 show Ev _ _ _ _ _
 refine .seq ?_
 refine .region ?_
 refine .q (op_loadRow Tryz.underlying22 rfl sz22 rfl rfl rfl (hs)) trivial rfl ?_
 refine .q (op_call (U := []) [] [] (kkey_ev e ek s hs) Tryz.func8 (by kernel_rfl) rfl rfl rfl (⟨⟨_, rfl, rfl, rfl⟩, trivial⟩) (⟨⟨_, _, rfl, rfl, rfl, rfl, id, rfl⟩, ⟨_, _, rfl, rfl, rfl, rfl, id, rfl⟩, trivial⟩) (trivial) (⟨(fun h => by cases h), (fun h => by cases h), trivial⟩) rfl) trivial rfl ?_
 refine .as (.aggB (keyN (secA s))) rfl ?_
 refine .a (op_allocRow zero22 rel_zero22 rfl) trivial rfl ?_
 refine .w (op_storeRow sz22 rfl rfl rfl rfl rfl (by simp only [AV.len, length_keyN]) (by simp only [AV.len, List.length_replicate])) trivial rfl ?_
 refine .nil ?_
 show Ev _ _ _ _ _
 refine .seq ?_
 refine .drawn [[], [0], [0, 1], [0, 1, 2], [0, 1, 2], [0, 1, 2, 4], [0, 1, 2, 3, 4, 5], [0, 1, 2, 3, 4, 5, 6], [0, 1, 2, 3, 4, 5, 6, 7], [0, 1, 2, 3, 4, 5, 6, 7, 8], [0, 1, 2, 3, 4, 5, 6, 7, 8], [0, 1, 2, 3, 4, 5, 6, 7, 8, 10], [0, 1, 2, 3, 4, 5, 6, 7, 8, 9, 10, 11], [0, 1, 2, 3, 4, 5, 6, 7, 8, 9, 10, 11, 12], [0, 1, 2, 3, 4, 5, 6, 7, 8, 9, 10, 11, 12, 13], [0, 1, 2, 3, 4, 5, 6, 7, 8, 9, 10, 11, 12, 13, 14]] [0, 1, 3, 4, 5, 6, 9, 10, 11, 12] [] (by kernel_rfl) (by kernel_rfl) rfl ?_
 show DK _ [0, 1, 2, 3, 4, 5, 6, 7, 8, 9, 10, 11, 12, 13, 14, 15] _ _ _
 refine .q rfl (op_loadRow Tryz.underlying22 rfl sz22 rfl rfl rfl (by simp only [AV.len, length_keyN])) trivial ?_
 refine .q rfl (op_call (U := []) [] [] (kpoint_ev e e2 (keyN (secA s)) (length_keyN _)) Tryz.func10 (by kernel_rfl) rfl rfl rfl (⟨⟨_, rfl, rfl, rfl⟩, trivial⟩) (⟨⟨_, _, rfl, rfl, rfl, rfl, id, rfl⟩, ⟨_, _, rfl, rfl, rfl, rfl, id, rfl⟩, trivial⟩) (trivial) (⟨(fun h => by cases h), (fun h => by cases h), trivial⟩) rfl) trivial ?_
 refine .as (.bool true) (congrArg AV.bool (dec_key _).2.2) ?_
 refine .q rfl (op_move rfl) trivial ?_
 refine .know (b' := true) (rfl) ?_
 refine .q rfl (op_loadRow Tryz.underlying22 rfl sz22 rfl rfl rfl (by simp only [AV.len, length_keyN])) ⟨_, rfl, rfl⟩ ?_
 refine .q rfl (op_loadRow Tryz.underlying22 rfl sz22 rfl rfl rfl (hs)) ⟨_, rfl, rfl⟩ ?_
 refine .q rfl (op_call (U := []) [] [] (ksign_ev e ek eo s [109] hs (by decide)) Tryz.func12 (by kernel_rfl) rfl rfl rfl (⟨⟨_, rfl, rfl, rfl⟩, ⟨_, rfl, rfl, rfl⟩, trivial⟩) (⟨⟨_, _, rfl, rfl, rfl, rfl, id, rfl⟩, ⟨_, _, rfl, rfl, rfl, rfl, id, rfl⟩, ⟨_, _, rfl, rfl, rfl, rfl, id, rfl⟩, trivial⟩) (trivial) (⟨(fun h => by cases h), (fun h => by cases h), (fun h => by cases h), trivial⟩) rfl) ⟨_, rfl, rfl⟩ ?_
 refine .as (.aggB (sgnN s [109])) rfl ?_
 refine .q rfl (op_call (U := []) [] [] (kver_ev e e2 ek eo (keyN (secA s)) [109] (sgnN s [109]) (length_keyN _) (by decide) (length_sgnN _ _)) Tryz.func14 (by kernel_rfl) rfl rfl rfl (⟨⟨_, rfl, rfl, rfl⟩, ⟨_, rfl, rfl, rfl⟩, ⟨_, rfl, rfl, rfl⟩, trivial⟩) (⟨⟨_, _, rfl, rfl, rfl, rfl, id, rfl⟩, ⟨_, _, rfl, rfl, rfl, rfl, id, rfl⟩, ⟨_, _, rfl, rfl, rfl, rfl, id, rfl⟩, ⟨_, _, rfl, rfl, rfl, rfl, id, rfl⟩, trivial⟩) (trivial) (⟨(fun h => by cases h), (fun h => by cases h), (fun h => by cases h), (fun h => by cases h), trivial⟩) rfl) ⟨_, rfl, rfl⟩ ?_
 refine .as (.bool true) (congrArg AV.bool (vrf_sgn s [109])) ?_
 refine .q rfl (op_pick_true rfl rfl rfl) trivial ?_
 refine .q rfl (op_move rfl) trivial ?_
 refine .know (b' := true) (rfl) ?_
 refine .q rfl (op_loadRow Tryz.underlying22 rfl sz22 rfl rfl rfl (by simp only [AV.len, length_keyN])) ⟨_, rfl, rfl⟩ ?_
 refine .q rfl (op_loadRow Tryz.underlying22 rfl sz22 rfl rfl rfl (hs)) ⟨_, rfl, rfl⟩ ?_
 refine .q rfl (op_call (U := []) [] [] (ksign_ev e ek eo s [109] hs (by decide)) Tryz.func12 (by kernel_rfl) rfl rfl rfl (⟨⟨_, rfl, rfl, rfl⟩, ⟨_, rfl, rfl, rfl⟩, trivial⟩) (⟨⟨_, _, rfl, rfl, rfl, rfl, id, rfl⟩, ⟨_, _, rfl, rfl, rfl, rfl, id, rfl⟩, ⟨_, _, rfl, rfl, rfl, rfl, id, rfl⟩, trivial⟩) (trivial) (⟨(fun h => by cases h), (fun h => by cases h), (fun h => by cases h), trivial⟩) rfl) ⟨_, rfl, rfl⟩ ?_
 refine .as (.aggB (sgnN s [109])) rfl ?_
 refine .q rfl (op_call (U := []) [] [] (kver_ev e e2 ek eo (keyN (secA s)) [110] (sgnN s [109]) (length_keyN _) (by decide) (length_sgnN _ _)) Tryz.func14 (by kernel_rfl) rfl rfl rfl (⟨⟨_, rfl, rfl, rfl⟩, ⟨_, rfl, rfl, rfl⟩, ⟨_, rfl, rfl, rfl⟩, trivial⟩) (⟨⟨_, _, rfl, rfl, rfl, rfl, id, rfl⟩, ⟨_, _, rfl, rfl, rfl, rfl, id, rfl⟩, ⟨_, _, rfl, rfl, rfl, rfl, id, rfl⟩, ⟨_, _, rfl, rfl, rfl, rfl, id, rfl⟩, trivial⟩) (trivial) (⟨(fun h => by cases h), (fun h => by cases h), (fun h => by cases h), (fun h => by cases h), trivial⟩) rfl) ⟨_, rfl, rfl⟩ ?_
 refine .as (.bool false) (congrArg AV.bool haw) ?_
 refine .q rfl (op_notB rfl) ⟨_, rfl, rfl⟩ ?_
 refine .q rfl (op_pick_true rfl rfl rfl) trivial ?_
 refine .q rfl (op_assign rfl) trivial ?_
 refine .nil ?_
 show Ev _ _ _ _ _
 refine .ret ?_
 show RetOk _ _ _ _ _ _ _
 exact ret1v rfl (.inl rfl) rfl rfl trivial
theorem awake8_ev (e e2 ek eo : Nat) : Meets Tryz.prog 7 [] [(0, some ⟨.agg64 primeL, e, false⟩), (3, some ⟨.agg64 minusL, e2, false⟩), (1, some ⟨.agg64 K512, ek, false⟩), (2, some ⟨.agg64 orderL, eo, false⟩)] (.bool true) [] := awake8_gen e e2 ek eo seed1 rfl rfl awake_vrf
end Go.Proofs.YtcnjekoidgefpaaGreatDoor
