/-
  Texts of this claim.
-/
import Derived.Test.YtcnjekoidgefpaaDoorGKH
import Derived.Test.YtcnjekoidgefpaaDoorGF3
namespace Go.Proofs.YtcnjekoidgefpaaDoor
open Go.RowKit
set_option maxHeartbeats 1000000 in
set_option maxRecDepth 100000 in
theorem speakMaps_ev (e e2 ek : Nat) (seed : List UInt8) (hs : seed.length = 32) : Meets Tryd.prog 6 [.aggB seed] [(4, some ⟨.agg64 primeL, e, false⟩), (9, some ⟨.agg64 minusL, e2, false⟩), (6, some ⟨.agg64 K512, ek, false⟩)] (.bool true) [] := by
 obtain ⟨K, hKd⟩ : ∃ K, (sha512 seed).take 32 = K := ⟨_, rfl⟩
 have hK : K.length = 32 := by rw [← hKd, List.length_take, length_sha512]; rfl
 have hm := maps_fact K hK
 refine meets_of_ev (nt := 44) Tryd.func6 rfl rfl (Nat.le_of_ble_eq_true rfl) ?_
 refine .seq ?_
 refine .region ?_
 refine .a (op_boxRow rfl rfl) trivial rfl ?_
 refine .q (op_assign rfl) trivial rfl ?_
 refine .nil ?_
 show Ev _ _ _ _ _
 refine .seq ?_
 refine .region ?_
 refine .q (ap_slice_arr_hi Tryd.underlying22 inf5.sz rfl rfl (by first | omega | (simp only [AV.len]; omega)) (by decide) rfl (by first | omega | (simp only [AV.len]; omega))) trivial rfl ?_
 refine .q (op_bytes_str Tryd.underlying28 Tryd.underlying5 Tryd.underlying9 rfl rfl rfl (by first | omega | (simp only [AV.len]; omega) | (simp only [AV.len, List.length_set]; omega) | assumption | (simp [AV.len]; done))) trivial rfl ?_
 refine .as (.str seed) (congrArg AV.str (drop_take_all seed 32 hs)) ?_
 refine .a (ap_build (us := [.str seed]) (c := .aggS [seed]) Tryd.underlying110 inf9 rfl (by decide) (by decide) ⟨rfl, rfl, rfl, trivial⟩ rfl) trivial rfl ?_
 refine .q (op_call (U := []) [(500, 1008)] [] (sum512_ev [seed] 9 ek (by simp [totN]; omega) (by simp)) Tryd.func30 (by kernel_rfl) rfl rfl rfl (⟨⟨_, rfl, rfl, rfl⟩, trivial⟩) (⟨⟨_, _, rfl, rfl, rfl, rfl, (fun h => by cases h), rfl⟩, ⟨_, _, rfl, rfl, rfl, rfl, id, rfl⟩, trivial⟩) (trivial) (⟨(fun h => by cases h), (fun h => by cases h), trivial⟩) rfl) trivial rfl ?_
 refine .as (.aggB (sha512 seed)) (congrArg (fun z => AV.aggB (sha512 z)) (List.append_nil _)) ?_
 refine .a (op_allocRow zero26 rel_zero26 rfl) trivial rfl ?_
 refine .w (op_storeRow sz26 rfl rfl rfl rfl rfl (by simp only [AV.len, length_sha512]) (by simp only [AV.len, List.length_replicate])) trivial rfl ?_
 refine .nil ?_
 show Ev _ _ _ _ _
 refine .seq ?_
 refine .region ?_
 refine .q (ap_slice_arr_hi Tryd.underlying26 inf5.sz rfl rfl (by first | (simp only [AV.len, length_sha512]; omega) | omega) (by decide) (bnd_some rfl rfl) (by first | (simp only [AV.len, length_sha512]; omega) | omega)) trivial rfl ?_
 refine .q (op_toArrPtr Tryd.underlying22 rfl (by decide) (by decide)) trivial rfl ?_
 refine .q (op_loadB Tryd.underlying22 rfl sz22 rfl rfl (by rw [length_sha512]; decide)) trivial rfl ?_
 refine .as (.aggB K) (congrArg AV.aggB (by rw [List.drop_zero]; exact hKd)) ?_
 refine .q (op_call (U := []) [] [] (cbase_ev e K hK) Tryd.func31 (by kernel_rfl) rfl rfl rfl (⟨⟨_, rfl, rfl, rfl⟩, trivial⟩) (⟨⟨_, _, rfl, rfl, rfl, rfl, id, rfl⟩, trivial⟩) (trivial) (⟨(fun h => by cases h), trivial⟩) rfl) trivial rfl ?_
 refine .as (.aggB (bsN (tmV (usL K) 9) 32)) rfl ?_
 refine .a (op_allocRow zero22 rel_zero22 rfl) trivial rfl ?_
 refine .w (op_storeRow sz22 rfl rfl rfl rfl rfl (by simp only [AV.len, length_bsN]) (by simp only [AV.len, List.length_replicate])) trivial rfl ?_
 refine .nil ?_
 show Ev _ _ _ _ _
 refine .seq ?_
 refine .region ?_
 refine .q (op_loadRow Tryd.underlying22 rfl sz22 rfl rfl rfl (hs)) trivial rfl ?_
 refine .q (op_call (U := []) [] [] (kkey_ev e ek seed hs) Tryd.func9 (by kernel_rfl) rfl rfl rfl (⟨⟨_, rfl, rfl, rfl⟩, trivial⟩) (⟨⟨_, _, rfl, rfl, rfl, rfl, id, rfl⟩, ⟨_, _, rfl, rfl, rfl, rfl, id, rfl⟩, trivial⟩) (trivial) (⟨(fun h => by cases h), (fun h => by cases h), trivial⟩) rfl) trivial rfl ?_
 refine .as (.aggB (keyN (usL K))) (congrArg (fun z => AV.aggB (keyN (usL z))) hKd) ?_
 refine .a (op_allocRow zero22 rel_zero22 rfl) trivial rfl ?_
 refine .w (op_storeRow sz22 rfl rfl rfl rfl rfl (by simp only [AV.len, length_keyN]) (by simp only [AV.len, List.length_replicate])) trivial rfl ?_
 refine .nil ?_
 show Ev _ _ _ _ _
 refine .seq ?_
 refine .region ?_
 refine .q (ap_slice_arr_hi Tryd.underlying22 inf5.sz rfl rfl (by have := length_keyN (usL K); first | omega | (simp only [AV.len]; omega)) (by decide) rfl (by have := length_keyN (usL K); first | omega | (simp only [AV.len]; omega))) trivial rfl ?_
 refine .q (op_bytes_str Tryd.underlying28 Tryd.underlying5 Tryd.underlying9 rfl rfl rfl (by have := length_keyN (usL K); omega)) trivial rfl ?_
 refine .as (.str (keyN (usL K))) (congrArg AV.str (drop_take_all _ 32 (length_keyN _))) ?_
 refine .q (op_call (U := []) [] [] (fof_ev (keyN (usL K)) (by rw [length_keyN]; decide)) Tryd.func32 (by kernel_rfl) rfl rfl rfl (⟨⟨_, rfl, rfl, rfl⟩, trivial⟩) (trivial) (trivial) (trivial) rfl) trivial rfl ?_
 refine .as (.agg64 (fl (ofV (keyN (usL K))))) rfl ?_
 refine .a (op_allocRow zero71 rel_zero71 rfl) trivial rfl ?_
 refine .w (op_storeRow sz71 rfl rfl rfl rfl rfl (rfl) (rfl)) trivial rfl ?_
 refine .nil ?_
 show Ev _ _ _ _ _
 refine .seq ?_
 refine .region ?_
 have hyl := ofV_lt (keyN (usL K))
 refine .q (op_call (U := []) [] [] (fsmall_ev _) Tryd.func33 (by kernel_rfl) rfl rfl rfl (⟨⟨_, rfl, rfl, rfl⟩, trivial⟩) (trivial) (trivial) (trivial) rfl) trivial rfl ?_
 refine .as (.agg64 (fl 1)) rfl ?_
 refine .a (op_allocRow zero71 rel_zero71 rfl) trivial rfl ?_
 refine .w (op_storeRow sz71 rfl rfl rfl rfl rfl (rfl) (rfl)) trivial rfl ?_
 refine .nil ?_
 show Ev _ _ _ _ _
 refine .seq ?_
 refine .drawn [[], [], [0, 1], [], [], [0, 1, 2, 3, 4], [0, 1, 2, 3, 4, 5], [0, 1, 2, 3, 4, 5, 6], [], [0, 1, 2, 3, 4, 5, 6, 7, 8]] [0, 1, 2, 3, 4, 5, 6, 7, 8, 9] [9] (by kernel_rfl) (by kernel_rfl) rfl ?_
 show DK _ [0, 1, 2, 3, 4, 5, 6, 7, 8, 9] _ _ _
 refine .q rfl (op_loadRow Tryd.underlying71 rfl sz71 rfl rfl rfl (rfl)) trivial ?_
 refine .q rfl (op_loadRow Tryd.underlying71 rfl sz71 rfl rfl rfl (rfl)) trivial ?_
 refine .q rfl (op_call (U := []) [] [] (kadd_ev _ _ (by first | assumption | exact mF_lt _ _ | exact aF_lt _ _ | exact sF_lt _ _ | exact nF_lt _ | exact fmod_lt _ | exact Nat.mod_lt _ fpos | exact dV_lt | decide) (by first | assumption | exact mF_lt _ _ | exact aF_lt _ _ | exact sF_lt _ _ | exact nF_lt _ | exact fmod_lt _ | exact Nat.mod_lt _ fpos | exact dV_lt | decide)) Tryd.func34 (by kernel_rfl) rfl rfl rfl (⟨⟨_, rfl, rfl, rfl⟩, ⟨_, rfl, rfl, rfl⟩, trivial⟩) (trivial) (trivial) (trivial) rfl) trivial ?_
 refine .q rfl (op_loadRow Tryd.underlying71 rfl sz71 rfl rfl rfl (rfl)) trivial ?_
 refine .q rfl (op_loadRow Tryd.underlying71 rfl sz71 rfl rfl rfl (rfl)) trivial ?_
 refine .q rfl (op_call (U := []) [] [] (ksub_ev e _ _ (by first | assumption | exact mF_lt _ _ | exact aF_lt _ _ | exact sF_lt _ _ | exact nF_lt _ | exact fmod_lt _ | exact Nat.mod_lt _ fpos | exact dV_lt | decide) (by first | assumption | exact mF_lt _ _ | exact aF_lt _ _ | exact sF_lt _ _ | exact nF_lt _ | exact fmod_lt _ | exact Nat.mod_lt _ fpos | exact dV_lt | decide)) Tryd.func36 (by kernel_rfl) rfl rfl rfl (⟨⟨_, rfl, rfl, rfl⟩, ⟨_, rfl, rfl, rfl⟩, trivial⟩) (⟨⟨_, _, rfl, rfl, rfl, rfl, id, rfl⟩, trivial⟩) (trivial) (⟨(fun h => by cases h), trivial⟩) rfl) trivial ?_
 refine .q rfl (op_call (U := []) [] [] (kinv_ev _ (by first | assumption | exact mF_lt _ _ | exact aF_lt _ _ | exact sF_lt _ _ | exact nF_lt _ | exact fmod_lt _ | exact Nat.mod_lt _ fpos | exact dV_lt | decide)) Tryd.func37 (by kernel_rfl) rfl rfl rfl (⟨⟨_, rfl, rfl, rfl⟩, trivial⟩) (trivial) (trivial) (trivial) rfl) trivial ?_
 refine .q rfl (op_call (U := []) [] [] (kmul_ev _ _ (aF_lt _ _) (invF_lt2 _)) Tryd.func35 (by kernel_rfl) rfl rfl rfl (⟨⟨_, rfl, rfl, rfl⟩, ⟨_, rfl, rfl, rfl⟩, trivial⟩) (trivial) (trivial) (trivial) rfl) trivial ?_
 refine .as (.agg64 (fl (tmV (usL K) 9))) (congrArg (fun z => AV.agg64 (fl z)) hm.1) ?_
 refine .a rfl (op_allocRow zero71 rel_zero71 rfl) trivial rfl rfl ?_
 refine .w rfl (op_storeRow sz71 rfl rfl rfl rfl rfl (rfl) (rfl)) trivial rfl rfl ?_
 refine .nil ?_
 show Ev _ _ _ _ _
 refine .seq ?_
 refine .drawn [[], [0], [], [0, 1, 2], [0, 1, 2, 3], [0, 1, 2, 3, 4], [0, 1, 2, 3, 4, 5], [0, 1, 2, 3, 4, 5, 6], [0, 1, 2, 3, 4, 5, 6, 7], [0, 1, 2, 3, 4, 5, 6, 7, 8], [0, 1, 2, 3, 4, 5, 6, 7, 8, 9], [0, 1, 2, 3, 4, 5, 6, 7, 8, 9, 10], [0, 1, 2, 3, 4, 5, 6, 7, 8, 9, 10, 11], [0, 1, 2, 3, 4, 5, 6, 7, 8, 9, 10, 11, 12]] [0, 1, 2, 5, 6, 9, 10] [] (by kernel_rfl) (by kernel_rfl) rfl ?_
 show DK _ [0, 1, 2, 3, 4, 5, 6, 7, 8, 9, 10, 11, 12, 13] _ _ _
 refine .q rfl (op_loadRow Tryd.underlying71 rfl sz71 rfl rfl rfl (rfl)) trivial ?_
 refine .q rfl (op_call (U := []) [] [] (fbytes_ev (tmV (usL K) 9)) Tryd.func38 (by kernel_rfl) rfl rfl rfl (⟨⟨_, rfl, rfl, rfl⟩, trivial⟩) (trivial) (trivial) (trivial) rfl) trivial ?_
 refine .as (.aggB (bsN (tmV (usL K) 9) 32)) rfl ?_
 refine .q rfl (op_loadRow Tryd.underlying22 rfl sz22 rfl rfl rfl (by simp only [AV.len, length_bsN])) trivial ?_
 refine .q rfl (op_eqRow8 (n := 32) (by kernel_rfl) Tryd.underlying22 Tryd.underlying5 inf5.sz rfl rfl (by simp only [length_bsN]) (by simp only [length_bsN])) trivial ?_
 refine .as (.bool true) (congrArg AV.bool (beq_self_eq_true _)) ?_
 refine .q rfl (op_move rfl) trivial ?_
 refine .know (b' := true) (rfl) ?_
 refine .q rfl (op_loadRow Tryd.underlying22 rfl sz22 rfl rfl rfl (by simp only [AV.len, length_keyN])) ⟨_, rfl, rfl⟩ ?_
 refine .q rfl (op_call (U := []) [] [] (kpoint_ev e e2 (keyN (usL K)) (length_keyN _)) Tryd.func14 (by kernel_rfl) rfl rfl rfl (⟨⟨_, rfl, rfl, rfl⟩, trivial⟩) (⟨⟨_, _, rfl, rfl, rfl, rfl, id, rfl⟩, ⟨_, _, rfl, rfl, rfl, rfl, id, rfl⟩, trivial⟩) (trivial) (⟨(fun h => by cases h), (fun h => by cases h), trivial⟩) rfl) ⟨_, rfl, rfl⟩ ?_
 refine .as (.bool true) (congrArg AV.bool hm.2.1) ?_
 refine .q rfl (op_pick_true rfl rfl rfl) trivial ?_
 refine .q rfl (op_move rfl) trivial ?_
 refine .know (b' := true) (rfl) ?_
 refine .q rfl (op_loadRow Tryd.underlying71 rfl sz71 rfl rfl rfl (rfl)) ⟨_, rfl, rfl⟩ ?_
 refine .q rfl (op_call (U := []) [] [] (fzero_ev (tmV (usL K) 9) (tmV_lt _ _)) Tryd.func39 (by kernel_rfl) rfl rfl rfl (⟨⟨_, rfl, rfl, rfl⟩, trivial⟩) (trivial) (trivial) (trivial) rfl) ⟨_, rfl, rfl⟩ ?_
 refine .as (.bool false) (congrArg AV.bool (decide_eq_false hm.2.2)) ?_
 refine .q rfl (op_notB rfl) ⟨_, rfl, rfl⟩ ?_
 refine .q rfl (op_pick_true rfl rfl rfl) trivial ?_
 refine .q rfl (op_assign rfl) trivial ?_
 refine .nil ?_
 show Ev _ _ _ _ _
 refine .ret ?_
 show RetOk _ _ _ _ _ _ _
 exact ret1v rfl (.inl rfl) rfl rfl trivial
end Go.Proofs.YtcnjekoidgefpaaDoor
