/-
  Texts of this claim.
-/
import Derived.Test.YtcnjekoidgefpaaGreatDoorGF2P
import Derived.Test.YtcnjekoidgefpaaGreatDoorGUP
namespace Go.Proofs.YtcnjekoidgefpaaGreatDoor
open Go.RowKit
theorem pw_add1E (a m e : Nat) (h : m + 1 = e) : (a ^ m % fp) * a % fp = a ^ e % fp := by rw [pw_add1, h]
set_option maxRecDepth 100000 in
theorem frootPower_gen (a : Nat) (ha : a < fp) (e0 e1 e2 : Nat) (h0 : 2 ^ 250 - 1 = e0) (h1 : e0 * 2 ^ 2 = e1) (h2 : e1 + 1 = e2) : Meets Tryz.prog 94 [.agg64 (fl a)] [] (.agg64 (fl (a ^ e2 % fp))) [] := by
 refine meets_of_ev (nt := 8) Tryz.func94 rfl rfl (Nat.le_of_ble_eq_true rfl) ?_
 refine .seq ?_
 refine .region ?_
 refine .a (op_boxRow rfl rfl) trivial rfl ?_
 refine .a (op_allocRow zero55 rel_zero55 rfl) trivial rfl ?_
 refine .nil ?_
 show Ev _ _ _ _ _
 refine .seq ?_
 refine .drawn [[], [0], [0, 1], [], [0, 1, 2, 3], [0, 1, 2, 3, 4]] [0, 1, 2, 3, 4, 5] [5] (by kernel_rfl) (by kernel_rfl) rfl ?_
 show DK _ [0, 1, 2, 3, 4, 5] _ _ _
 refine .q rfl (op_loadRow Tryz.underlying55 rfl sz55 rfl rfl rfl (rfl)) trivial ?_
 refine .q rfl (op_call (U := []) [] [] (ones_gen a ha 250 (by decide) (by decide) e0 h0) Tryz.func117 (by kernel_rfl) rfl rfl rfl (⟨⟨_, rfl, rfl, rfl⟩, ⟨_, rfl, rfl, rfl⟩, trivial⟩) (trivial) (trivial) (trivial) rfl) trivial ?_
 refine .as (.agg64 (fl (a ^ e0 % fp))) rfl ?_
 refine .q rfl (op_call (U := []) [] [] (squares_ev (a ^ e0 % fp) 2 (fmod_lt _) (by decide)) Tryz.func116 (by kernel_rfl) rfl rfl rfl (⟨⟨_, rfl, rfl, rfl⟩, ⟨_, rfl, rfl, rfl⟩, trivial⟩) (trivial) (trivial) (trivial) rfl) trivial ?_
 refine .as (.agg64 (fl (a ^ e1 % fp))) (congrArg (fun z => AV.agg64 (fl z)) (pw_powE a _ _ _ h1)) ?_
 refine .q rfl (op_loadRow Tryz.underlying55 rfl sz55 rfl rfl rfl (rfl)) trivial ?_
 refine .q rfl (op_call (U := []) [] [] (fmul_ev _ _ (fmod_lt _) ha) Tryz.func55 (by kernel_rfl) rfl rfl rfl (⟨⟨_, rfl, rfl, rfl⟩, ⟨_, rfl, rfl, rfl⟩, trivial⟩) (trivial) (trivial) (trivial) rfl) trivial ?_
 refine .as (.agg64 (fl (a ^ e2 % fp))) (congrArg (fun z => AV.agg64 (fl z)) (pw_add1E a _ _ h2)) ?_
 refine .w rfl (op_storeRow sz55 rfl rfl rfl rfl rfl (rfl) (rfl)) trivial rfl rfl ?_
 refine .nil ?_
 show Ev _ _ _ _ _
 refine .ret ?_
 show RetOk _ _ _ _ _ _ _
 exact retc1 rfl (.inl rfl) ⟨_, _, _, _, rfl, rfl, rfl, rfl, (rfl), Tryz.underlying55, rfl, sz55⟩ trivial
theorem frootPower_ev (a : Nat) (ha : a < fp) : Meets Tryz.prog 94 [.agg64 (fl a)] [] (.agg64 (fl (a ^ ((fp - 5) / 8) % fp))) [] := frootPower_gen a ha _ _ _ rfl rfl root_exp
def minusL : List UInt64 := [0xc4ee1b274a0ea0b0, 0x2f431806ad2fe478, 0x2b4d00993dfbd7a7, 0x2b8324804fc1df0b]
theorem fl_iV : fl iV = minusL := by decide +kernel
def HM (e : Nat) : List (Nat × Option ABlk) := [(3, some ⟨.agg64 minusL, e, false⟩)]
set_option maxRecDepth 100000 in
theorem fminus1_ev (e : Nat) : Meets Tryz.prog 95 [] (HM e) (.agg64 (fl iV)) [] := by
 refine meets_of_ev (nt := 3) Tryz.func95 rfl rfl (Nat.le_of_ble_eq_true rfl) ?_
 refine .seq ?_
 refine .region ?_
 refine .a (op_allocRow zero55 rel_zero55 rfl) trivial rfl ?_
 refine .nil ?_
 show Ev _ _ _ _ _
 refine .seq ?_
 refine .region ?_
 refine .q (op_loadRow Tryz.underlying53 rfl sz53 rfl rfl rfl (rfl)) trivial rfl ?_
 refine .q (op_buildBox1 (l := minusL) Tryz.underlying55 rfl (by exact sz53) zero55 rfl rfl) trivial rfl ?_
 refine .as (.agg64 (fl iV)) (congrArg AV.agg64 fl_iV.symm) ?_
 refine .w (op_storeRow sz55 rfl rfl rfl rfl rfl (rfl) (rfl)) trivial rfl ?_
 refine .nil ?_
 show Ev _ _ _ _ _
 refine .ret ?_
 show RetOk _ _ _ _ _ _ _
 exact retc1 rfl (.inl rfl) ⟨_, _, _, _, rfl, rfl, rfl, rfl, (rfl), Tryz.underlying55, rfl, sz55⟩ trivial
end Go.Proofs.YtcnjekoidgefpaaGreatDoor
namespace Go.Proofs.YtcnjekoidgefpaaGreatDoor
open Go.RowKit
def HPM (e e2 : Nat) : List (Nat × Option ABlk) := [(0, some ⟨.agg64 primeL, e, false⟩), (3, some ⟨.agg64 minusL, e2, false⟩)]
theorem fl_ne (a b : Nat) (ha : a < fp) (hb : b < fp) : (fl a != fl b) = decide (a ≠ b) := by
  unfold bne; rw [fl_eq a b ha hb]; simp
set_option maxHeartbeats 2000000 in
set_option maxRecDepth 100000 in
theorem froot_P (e e2 u v c r q : Nat) (hu : u < fp) (hv : v < fp) (hcl : c < fp) (hrl : r < fp) (hql : q < fp) (hc : v * v % fp * v % fp = c) (hr : (u * c % fp) * (((u * (c * c % fp) % fp) * v % fp) ^ ((fp - 5) / 8) % fp) % fp = r) (hq : r * r % fp * v % fp = q) (h1 : q = (fp - u) % fp) : Meets Tryz.prog 53 [.agg64 (fl u), .agg64 (fl v)] (HPM e e2) (.tup [.agg64 (fl (if decide ((r * iV % fp) % 2 = 1) then (fp - (r * iV % fp)) % fp else (r * iV % fp))), .bool true]) [] := by
 refine meets_of_ev (nt := 47) Tryz.func53 rfl rfl (Nat.le_of_ble_eq_true rfl) ?_
 refine .seq ?_
 refine .region ?_
 refine .a (op_boxRow rfl rfl) trivial rfl ?_
 refine .a (op_boxRow rfl rfl) trivial rfl ?_
 refine .a (op_allocRow zero55 rel_zero55 rfl) trivial rfl ?_
 refine .q (op_assign rfl) trivial rfl ?_
 refine .nil ?_
 show Ev _ _ _ _ _
 refine .seq ?_
 refine .drawn [[], [0], [], [0, 1, 2], [], [0, 1, 2, 3, 4]] [0, 1, 2, 3, 4, 5] [5] (by kernel_rfl) (by kernel_rfl) rfl ?_
 show DK _ [0, 1, 2, 3, 4, 5] _ _ _
 refine .q rfl (op_loadRow Tryz.underlying55 rfl sz55 rfl rfl rfl (rfl)) trivial ?_
 refine .q rfl (op_call (U := []) [] [] (fsquare_ev _ (by first | assumption | exact fmod_lt _ | exact fp_pos | decide)) Tryz.func52 (by kernel_rfl) rfl rfl rfl (⟨⟨_, rfl, rfl, rfl⟩, trivial⟩) (trivial) (trivial) (trivial) rfl) trivial ?_
 refine .q rfl (op_loadRow Tryz.underlying55 rfl sz55 rfl rfl rfl (rfl)) trivial ?_
 refine .q rfl (op_call (U := []) [] [] (fmul_ev _ _ (by first | assumption | exact fmod_lt _ | exact fp_pos | decide) (by first | assumption | exact fmod_lt _ | exact fp_pos | decide)) Tryz.func55 (by kernel_rfl) rfl rfl rfl (⟨⟨_, rfl, rfl, rfl⟩, ⟨_, rfl, rfl, rfl⟩, trivial⟩) (trivial) (trivial) (trivial) rfl) trivial ?_
 refine .as (.agg64 (fl c)) (congrArg (fun z => AV.agg64 (fl z)) hc) ?_
 refine .a rfl (op_allocRow zero55 rel_zero55 rfl) trivial rfl rfl ?_
 refine .w rfl (op_storeRow sz55 rfl rfl rfl rfl rfl (rfl) (rfl)) trivial rfl rfl ?_
 refine .nil ?_
 show Ev _ _ _ _ _
 refine .seq ?_
 refine .drawn [[], [], [0, 1], [], [], [0, 1, 2, 4], [0, 1, 2, 3, 4, 5], [], [0, 1, 2, 3, 4, 5, 6, 7], [0, 1, 2, 3, 4, 5, 6, 7, 8], [0, 1, 2, 3, 4, 5, 6, 7, 8, 9], [], [0, 1, 2, 3, 4, 5, 6, 7, 8, 9, 10, 11]] [0, 1, 2, 3, 4, 5, 6, 7, 8, 9, 10, 11, 12] [12] (by kernel_rfl) (by kernel_rfl) rfl ?_
 show DK _ [0, 1, 2, 3, 4, 5, 6, 7, 8, 9, 10, 11, 12] _ _ _
 refine .q rfl (op_loadRow Tryz.underlying55 rfl sz55 rfl rfl rfl (rfl)) trivial ?_
 refine .q rfl (op_loadRow Tryz.underlying55 rfl sz55 rfl rfl rfl (rfl)) trivial ?_
 refine .q rfl (op_call (U := []) [] [] (fmul_ev _ _ (by first | assumption | exact fmod_lt _ | exact fp_pos | decide) (by first | assumption | exact fmod_lt _ | exact fp_pos | decide)) Tryz.func55 (by kernel_rfl) rfl rfl rfl (⟨⟨_, rfl, rfl, rfl⟩, ⟨_, rfl, rfl, rfl⟩, trivial⟩) (trivial) (trivial) (trivial) rfl) trivial ?_
 refine .q rfl (op_loadRow Tryz.underlying55 rfl sz55 rfl rfl rfl (rfl)) trivial ?_
 refine .q rfl (op_loadRow Tryz.underlying55 rfl sz55 rfl rfl rfl (rfl)) trivial ?_
 refine .q rfl (op_call (U := []) [] [] (fsquare_ev _ (by first | assumption | exact fmod_lt _ | exact fp_pos | decide)) Tryz.func52 (by kernel_rfl) rfl rfl rfl (⟨⟨_, rfl, rfl, rfl⟩, trivial⟩) (trivial) (trivial) (trivial) rfl) trivial ?_
 refine .q rfl (op_call (U := []) [] [] (fmul_ev _ _ (by first | assumption | exact fmod_lt _ | exact fp_pos | decide) (by first | assumption | exact fmod_lt _ | exact fp_pos | decide)) Tryz.func55 (by kernel_rfl) rfl rfl rfl (⟨⟨_, rfl, rfl, rfl⟩, ⟨_, rfl, rfl, rfl⟩, trivial⟩) (trivial) (trivial) (trivial) rfl) trivial ?_
 refine .q rfl (op_loadRow Tryz.underlying55 rfl sz55 rfl rfl rfl (rfl)) trivial ?_
 refine .q rfl (op_call (U := []) [] [] (fmul_ev _ _ (by first | assumption | exact fmod_lt _ | exact fp_pos | decide) (by first | assumption | exact fmod_lt _ | exact fp_pos | decide)) Tryz.func55 (by kernel_rfl) rfl rfl rfl (⟨⟨_, rfl, rfl, rfl⟩, ⟨_, rfl, rfl, rfl⟩, trivial⟩) (trivial) (trivial) (trivial) rfl) trivial ?_
 refine .q rfl (op_call (U := []) [] [] (frootPower_ev _ (by first | assumption | exact fmod_lt _ | exact fp_pos | decide)) Tryz.func94 (by kernel_rfl) rfl rfl rfl (⟨⟨_, rfl, rfl, rfl⟩, trivial⟩) (trivial) (trivial) (trivial) rfl) trivial ?_
 refine .q rfl (op_call (U := []) [] [] (fmul_ev _ _ (by first | assumption | exact fmod_lt _ | exact fp_pos | decide) (by first | assumption | exact fmod_lt _ | exact fp_pos | decide)) Tryz.func55 (by kernel_rfl) rfl rfl rfl (⟨⟨_, rfl, rfl, rfl⟩, ⟨_, rfl, rfl, rfl⟩, trivial⟩) (trivial) (trivial) (trivial) rfl) trivial ?_
 refine .as (.agg64 (fl r)) (congrArg (fun z => AV.agg64 (fl z)) hr) ?_
 refine .a rfl (op_allocRow zero55 rel_zero55 rfl) trivial rfl rfl ?_
 refine .w rfl (op_storeRow sz55 rfl rfl rfl rfl rfl (rfl) (rfl)) trivial rfl rfl ?_
 refine .nil ?_
 show Ev _ _ _ _ _
 refine .seq ?_
 refine .drawn [[], [0], [], [0, 1, 2], [], [0, 1, 2, 3, 4]] [0, 1, 2, 3, 4, 5] [5] (by kernel_rfl) (by kernel_rfl) rfl ?_
 show DK _ [0, 1, 2, 3, 4, 5] _ _ _
 refine .q rfl (op_loadRow Tryz.underlying55 rfl sz55 rfl rfl rfl (rfl)) trivial ?_
 refine .q rfl (op_call (U := []) [] [] (fsquare_ev _ (by first | assumption | exact fmod_lt _ | exact fp_pos | decide)) Tryz.func52 (by kernel_rfl) rfl rfl rfl (⟨⟨_, rfl, rfl, rfl⟩, trivial⟩) (trivial) (trivial) (trivial) rfl) trivial ?_
 refine .q rfl (op_loadRow Tryz.underlying55 rfl sz55 rfl rfl rfl (rfl)) trivial ?_
 refine .q rfl (op_call (U := []) [] [] (fmul_ev _ _ (by first | assumption | exact fmod_lt _ | exact fp_pos | decide) (by first | assumption | exact fmod_lt _ | exact fp_pos | decide)) Tryz.func55 (by kernel_rfl) rfl rfl rfl (⟨⟨_, rfl, rfl, rfl⟩, ⟨_, rfl, rfl, rfl⟩, trivial⟩) (trivial) (trivial) (trivial) rfl) trivial ?_
 refine .as (.agg64 (fl q)) (congrArg (fun z => AV.agg64 (fl z)) hq) ?_
 refine .a rfl (op_allocRow zero55 rel_zero55 rfl) trivial rfl rfl ?_
 refine .w rfl (op_storeRow sz55 rfl rfl rfl rfl rfl (rfl) (rfl)) trivial rfl rfl ?_
 refine .nil ?_
 show Ev _ _ _ _ _
 refine .seq ?_
 refine .block ?_
 refine .seq ?_
 refine .drawn [[], [], [1], [0, 1, 2], [0, 1, 2, 3]] [0, 1, 2] [] (by kernel_rfl) (by kernel_rfl) rfl ?_
 show DK _ [0, 1, 2, 3, 4] _ _ _
 refine .q rfl (op_loadRow Tryz.underlying55 rfl sz55 rfl rfl rfl (rfl)) trivial ?_
 refine .q rfl (op_loadRow Tryz.underlying55 rfl sz55 rfl rfl rfl (rfl)) trivial ?_
 refine .q rfl (op_call (U := []) [] [] (fneg_ev e _ (by first | assumption | exact fmod_lt _ | exact fp_pos | decide)) Tryz.func57 (by kernel_rfl) rfl rfl rfl (⟨⟨_, rfl, rfl, rfl⟩, trivial⟩) (⟨⟨_, _, rfl, rfl, rfl, rfl, id, rfl⟩, trivial⟩) (trivial) (⟨(fun h => by cases h), trivial⟩) rfl) trivial ?_
 refine .q rfl (op_eqBox (n := 4) (by kernel_rfl) Tryz.underlying55 (by kernel_rfl) rfl (by decide) rfl Tryz.underlying53 sz53 Tryz.underlying52 inf52.sz rfl rfl (rfl) (rfl)) trivial ?_
 refine .q rfl (op_assign rfl) trivial ?_
 refine .nil ?_
 show Ev _ _ _ _ _
 refine .cond_true rfl (by rw [fl_eq q _ hql (fmod_lt _)]; simp [h1]) ?_
 refine .drawn [[], [], [0, 1], [0, 1, 2]] [0, 1, 2, 3] [3] (by kernel_rfl) (by kernel_rfl) rfl ?_
 show DK _ [0, 1, 2, 3] _ _ _
 refine .q rfl (op_loadRow Tryz.underlying55 rfl sz55 rfl rfl rfl (rfl)) trivial ?_
 refine .q rfl (op_call (U := []) [] [] (fminus1_ev e2) Tryz.func95 (by kernel_rfl) rfl rfl rfl (trivial) (⟨⟨_, _, rfl, rfl, rfl, rfl, id, rfl⟩, trivial⟩) (trivial) (⟨(fun h => by cases h), trivial⟩) rfl) trivial ?_
 refine .q rfl (op_call (U := []) [] [] (fmul_ev _ _ (by first | assumption | exact fmod_lt _ | exact fp_pos | decide) (by first | assumption | exact fmod_lt _ | exact fp_pos | decide)) Tryz.func55 (by kernel_rfl) rfl rfl rfl (⟨⟨_, rfl, rfl, rfl⟩, ⟨_, rfl, rfl, rfl⟩, trivial⟩) (trivial) (trivial) (trivial) rfl) trivial ?_
 refine .w rfl (op_storeRow sz55 rfl rfl rfl rfl rfl (rfl) (rfl)) trivial rfl rfl ?_
 refine .nil ?_
 show Ev _ _ _ _ _
 refine .seq ?_
 refine .drawn [[], [0], [], [0, 1, 2], [], [0, 1, 2, 3, 4], [0, 1, 2, 3, 4, 5], [0, 1, 2, 3, 4, 5, 6]] [0, 1, 2, 3, 4, 5, 6] [6] (by kernel_rfl) (by kernel_rfl) rfl ?_
 show DK _ [0, 1, 2, 3, 4, 5, 6, 7] _ _ _
 refine .q rfl (op_loadRow Tryz.underlying55 rfl sz55 rfl rfl rfl (rfl)) trivial ?_
 refine .q rfl (op_call (U := []) [] [] (fodd_ev _) Tryz.func97 (by kernel_rfl) rfl rfl rfl (⟨⟨_, rfl, rfl, rfl⟩, trivial⟩) (trivial) (trivial) (trivial) rfl) trivial ?_
 refine .q rfl (op_loadRow Tryz.underlying55 rfl sz55 rfl rfl rfl (rfl)) trivial ?_
 refine .q rfl (op_call (U := []) [] [] (fneg_ev e _ (by first | assumption | exact fmod_lt _ | exact fp_pos | decide)) Tryz.func57 (by kernel_rfl) rfl rfl rfl (⟨⟨_, rfl, rfl, rfl⟩, trivial⟩) (⟨⟨_, _, rfl, rfl, rfl, rfl, id, rfl⟩, trivial⟩) (trivial) (⟨(fun h => by cases h), trivial⟩) rfl) trivial ?_
 refine .q rfl (op_loadRow Tryz.underlying55 rfl sz55 rfl rfl rfl (rfl)) trivial ?_
 refine .q rfl (op_call (U := []) [] [] (fchoose_ev _ _ _) Tryz.func96 (by kernel_rfl) rfl rfl rfl (⟨⟨_, rfl, rfl, rfl⟩, ⟨_, rfl, rfl, rfl⟩, ⟨_, rfl, rfl, rfl⟩, trivial⟩) (trivial) (trivial) (trivial) rfl) trivial ?_
 refine .w rfl (op_storeRow sz55 rfl rfl rfl rfl rfl (rfl) (rfl)) trivial rfl rfl ?_
 refine .q rfl (op_assign rfl) trivial ?_
 refine .nil ?_
 show Ev _ _ _ _ _
 refine .ret ?_
 show RetOk _ _ _ _ _ _ _
 exact retc2 rfl (.inl rfl) ⟨_, _, _, _, rfl, rfl, rfl, rfl, rfl, Tryz.underlying55, rfl, sz55⟩ rfl trivial
set_option maxHeartbeats 2000000 in
set_option maxRecDepth 100000 in
theorem froot_Q (e e2 u v c r q : Nat) (hu : u < fp) (hv : v < fp) (hcl : c < fp) (hrl : r < fp) (hql : q < fp) (hc : v * v % fp * v % fp = c) (hr : (u * c % fp) * (((u * (c * c % fp) % fp) * v % fp) ^ ((fp - 5) / 8) % fp) % fp = r) (hq : r * r % fp * v % fp = q) (h1 : q ≠ (fp - u) % fp) (h2 : q = u) : Meets Tryz.prog 53 [.agg64 (fl u), .agg64 (fl v)] (HPM e e2) (.tup [.agg64 (fl (if decide (r % 2 = 1) then (fp - r) % fp else r)), .bool true]) [] := by
 refine meets_of_ev (nt := 47) Tryz.func53 rfl rfl (Nat.le_of_ble_eq_true rfl) ?_
 refine .seq ?_
 refine .region ?_
 refine .a (op_boxRow rfl rfl) trivial rfl ?_
 refine .a (op_boxRow rfl rfl) trivial rfl ?_
 refine .a (op_allocRow zero55 rel_zero55 rfl) trivial rfl ?_
 refine .q (op_assign rfl) trivial rfl ?_
 refine .nil ?_
 show Ev _ _ _ _ _
 refine .seq ?_
 refine .drawn [[], [0], [], [0, 1, 2], [], [0, 1, 2, 3, 4]] [0, 1, 2, 3, 4, 5] [5] (by kernel_rfl) (by kernel_rfl) rfl ?_
 show DK _ [0, 1, 2, 3, 4, 5] _ _ _
 refine .q rfl (op_loadRow Tryz.underlying55 rfl sz55 rfl rfl rfl (rfl)) trivial ?_
 refine .q rfl (op_call (U := []) [] [] (fsquare_ev _ (by first | assumption | exact fmod_lt _ | exact fp_pos | decide)) Tryz.func52 (by kernel_rfl) rfl rfl rfl (⟨⟨_, rfl, rfl, rfl⟩, trivial⟩) (trivial) (trivial) (trivial) rfl) trivial ?_
 refine .q rfl (op_loadRow Tryz.underlying55 rfl sz55 rfl rfl rfl (rfl)) trivial ?_
 refine .q rfl (op_call (U := []) [] [] (fmul_ev _ _ (by first | assumption | exact fmod_lt _ | exact fp_pos | decide) (by first | assumption | exact fmod_lt _ | exact fp_pos | decide)) Tryz.func55 (by kernel_rfl) rfl rfl rfl (⟨⟨_, rfl, rfl, rfl⟩, ⟨_, rfl, rfl, rfl⟩, trivial⟩) (trivial) (trivial) (trivial) rfl) trivial ?_
 refine .as (.agg64 (fl c)) (congrArg (fun z => AV.agg64 (fl z)) hc) ?_
 refine .a rfl (op_allocRow zero55 rel_zero55 rfl) trivial rfl rfl ?_
 refine .w rfl (op_storeRow sz55 rfl rfl rfl rfl rfl (rfl) (rfl)) trivial rfl rfl ?_
 refine .nil ?_
 show Ev _ _ _ _ _
 refine .seq ?_
 refine .drawn [[], [], [0, 1], [], [], [0, 1, 2, 4], [0, 1, 2, 3, 4, 5], [], [0, 1, 2, 3, 4, 5, 6, 7], [0, 1, 2, 3, 4, 5, 6, 7, 8], [0, 1, 2, 3, 4, 5, 6, 7, 8, 9], [], [0, 1, 2, 3, 4, 5, 6, 7, 8, 9, 10, 11]] [0, 1, 2, 3, 4, 5, 6, 7, 8, 9, 10, 11, 12] [12] (by kernel_rfl) (by kernel_rfl) rfl ?_
 show DK _ [0, 1, 2, 3, 4, 5, 6, 7, 8, 9, 10, 11, 12] _ _ _
 refine .q rfl (op_loadRow Tryz.underlying55 rfl sz55 rfl rfl rfl (rfl)) trivial ?_
 refine .q rfl (op_loadRow Tryz.underlying55 rfl sz55 rfl rfl rfl (rfl)) trivial ?_
 refine .q rfl (op_call (U := []) [] [] (fmul_ev _ _ (by first | assumption | exact fmod_lt _ | exact fp_pos | decide) (by first | assumption | exact fmod_lt _ | exact fp_pos | decide)) Tryz.func55 (by kernel_rfl) rfl rfl rfl (⟨⟨_, rfl, rfl, rfl⟩, ⟨_, rfl, rfl, rfl⟩, trivial⟩) (trivial) (trivial) (trivial) rfl) trivial ?_
 refine .q rfl (op_loadRow Tryz.underlying55 rfl sz55 rfl rfl rfl (rfl)) trivial ?_
 refine .q rfl (op_loadRow Tryz.underlying55 rfl sz55 rfl rfl rfl (rfl)) trivial ?_
 refine .q rfl (op_call (U := []) [] [] (fsquare_ev _ (by first | assumption | exact fmod_lt _ | exact fp_pos | decide)) Tryz.func52 (by kernel_rfl) rfl rfl rfl (⟨⟨_, rfl, rfl, rfl⟩, trivial⟩) (trivial) (trivial) (trivial) rfl) trivial ?_
 refine .q rfl (op_call (U := []) [] [] (fmul_ev _ _ (by first | assumption | exact fmod_lt _ | exact fp_pos | decide) (by first | assumption | exact fmod_lt _ | exact fp_pos | decide)) Tryz.func55 (by kernel_rfl) rfl rfl rfl (⟨⟨_, rfl, rfl, rfl⟩, ⟨_, rfl, rfl, rfl⟩, trivial⟩) (trivial) (trivial) (trivial) rfl) trivial ?_
 refine .q rfl (op_loadRow Tryz.underlying55 rfl sz55 rfl rfl rfl (rfl)) trivial ?_
 refine .q rfl (op_call (U := []) [] [] (fmul_ev _ _ (by first | assumption | exact fmod_lt _ | exact fp_pos | decide) (by first | assumption | exact fmod_lt _ | exact fp_pos | decide)) Tryz.func55 (by kernel_rfl) rfl rfl rfl (⟨⟨_, rfl, rfl, rfl⟩, ⟨_, rfl, rfl, rfl⟩, trivial⟩) (trivial) (trivial) (trivial) rfl) trivial ?_
 refine .q rfl (op_call (U := []) [] [] (frootPower_ev _ (by first | assumption | exact fmod_lt _ | exact fp_pos | decide)) Tryz.func94 (by kernel_rfl) rfl rfl rfl (⟨⟨_, rfl, rfl, rfl⟩, trivial⟩) (trivial) (trivial) (trivial) rfl) trivial ?_
 refine .q rfl (op_call (U := []) [] [] (fmul_ev _ _ (by first | assumption | exact fmod_lt _ | exact fp_pos | decide) (by first | assumption | exact fmod_lt _ | exact fp_pos | decide)) Tryz.func55 (by kernel_rfl) rfl rfl rfl (⟨⟨_, rfl, rfl, rfl⟩, ⟨_, rfl, rfl, rfl⟩, trivial⟩) (trivial) (trivial) (trivial) rfl) trivial ?_
 refine .as (.agg64 (fl r)) (congrArg (fun z => AV.agg64 (fl z)) hr) ?_
 refine .a rfl (op_allocRow zero55 rel_zero55 rfl) trivial rfl rfl ?_
 refine .w rfl (op_storeRow sz55 rfl rfl rfl rfl rfl (rfl) (rfl)) trivial rfl rfl ?_
 refine .nil ?_
 show Ev _ _ _ _ _
 refine .seq ?_
 refine .drawn [[], [0], [], [0, 1, 2], [], [0, 1, 2, 3, 4]] [0, 1, 2, 3, 4, 5] [5] (by kernel_rfl) (by kernel_rfl) rfl ?_
 show DK _ [0, 1, 2, 3, 4, 5] _ _ _
 refine .q rfl (op_loadRow Tryz.underlying55 rfl sz55 rfl rfl rfl (rfl)) trivial ?_
 refine .q rfl (op_call (U := []) [] [] (fsquare_ev _ (by first | assumption | exact fmod_lt _ | exact fp_pos | decide)) Tryz.func52 (by kernel_rfl) rfl rfl rfl (⟨⟨_, rfl, rfl, rfl⟩, trivial⟩) (trivial) (trivial) (trivial) rfl) trivial ?_
 refine .q rfl (op_loadRow Tryz.underlying55 rfl sz55 rfl rfl rfl (rfl)) trivial ?_
 refine .q rfl (op_call (U := []) [] [] (fmul_ev _ _ (by first | assumption | exact fmod_lt _ | exact fp_pos | decide) (by first | assumption | exact fmod_lt _ | exact fp_pos | decide)) Tryz.func55 (by kernel_rfl) rfl rfl rfl (⟨⟨_, rfl, rfl, rfl⟩, ⟨_, rfl, rfl, rfl⟩, trivial⟩) (trivial) (trivial) (trivial) rfl) trivial ?_
 refine .as (.agg64 (fl q)) (congrArg (fun z => AV.agg64 (fl z)) hq) ?_
 refine .a rfl (op_allocRow zero55 rel_zero55 rfl) trivial rfl rfl ?_
 refine .w rfl (op_storeRow sz55 rfl rfl rfl rfl rfl (rfl) (rfl)) trivial rfl rfl ?_
 refine .nil ?_
 show Ev _ _ _ _ _
 refine .seq ?_
 refine .block ?_
 refine .seq ?_
 refine .drawn [[], [], [1], [0, 1, 2], [0, 1, 2, 3]] [0, 1, 2] [] (by kernel_rfl) (by kernel_rfl) rfl ?_
 show DK _ [0, 1, 2, 3, 4] _ _ _
 refine .q rfl (op_loadRow Tryz.underlying55 rfl sz55 rfl rfl rfl (rfl)) trivial ?_
 refine .q rfl (op_loadRow Tryz.underlying55 rfl sz55 rfl rfl rfl (rfl)) trivial ?_
 refine .q rfl (op_call (U := []) [] [] (fneg_ev e _ (by first | assumption | exact fmod_lt _ | exact fp_pos | decide)) Tryz.func57 (by kernel_rfl) rfl rfl rfl (⟨⟨_, rfl, rfl, rfl⟩, trivial⟩) (⟨⟨_, _, rfl, rfl, rfl, rfl, id, rfl⟩, trivial⟩) (trivial) (⟨(fun h => by cases h), trivial⟩) rfl) trivial ?_
 refine .q rfl (op_eqBox (n := 4) (by kernel_rfl) Tryz.underlying55 (by kernel_rfl) rfl (by decide) rfl Tryz.underlying53 sz53 Tryz.underlying52 inf52.sz rfl rfl (rfl) (rfl)) trivial ?_
 refine .q rfl (op_assign rfl) trivial ?_
 refine .nil ?_
 show Ev _ _ _ _ _
 refine .cond_false rfl (by rw [fl_eq q _ hql (fmod_lt _)]; simp [h1]) ?_
 refine .seq ?_
 refine .region ?_
 refine .q (op_loadRow Tryz.underlying55 rfl sz55 rfl rfl rfl (rfl)) trivial rfl ?_
 refine .q (op_loadRow Tryz.underlying55 rfl sz55 rfl rfl rfl (rfl)) trivial rfl ?_
 refine .q (op_neqBox (n := 4) (by kernel_rfl) Tryz.underlying55 (by kernel_rfl) rfl (by decide) rfl Tryz.underlying53 sz53 Tryz.underlying52 inf52.sz rfl rfl (rfl) (rfl)) trivial rfl ?_
 refine .q (op_assign rfl) trivial rfl ?_
 refine .nil ?_
 show Ev _ _ _ _ _
 refine .cond_false rfl (by rw [fl_ne q u hql hu]; simp [h2]) ?_
 refine .skip ?_
 show Ev _ _ _ _ _
 refine .seq ?_
 refine .drawn [[], [0], [], [0, 1, 2], [], [0, 1, 2, 3, 4], [0, 1, 2, 3, 4, 5], [0, 1, 2, 3, 4, 5, 6]] [0, 1, 2, 3, 4, 5, 6] [6] (by kernel_rfl) (by kernel_rfl) rfl ?_
 show DK _ [0, 1, 2, 3, 4, 5, 6, 7] _ _ _
 refine .q rfl (op_loadRow Tryz.underlying55 rfl sz55 rfl rfl rfl (rfl)) trivial ?_
 refine .q rfl (op_call (U := []) [] [] (fodd_ev _) Tryz.func97 (by kernel_rfl) rfl rfl rfl (⟨⟨_, rfl, rfl, rfl⟩, trivial⟩) (trivial) (trivial) (trivial) rfl) trivial ?_
 refine .q rfl (op_loadRow Tryz.underlying55 rfl sz55 rfl rfl rfl (rfl)) trivial ?_
 refine .q rfl (op_call (U := []) [] [] (fneg_ev e _ (by first | assumption | exact fmod_lt _ | exact fp_pos | decide)) Tryz.func57 (by kernel_rfl) rfl rfl rfl (⟨⟨_, rfl, rfl, rfl⟩, trivial⟩) (⟨⟨_, _, rfl, rfl, rfl, rfl, id, rfl⟩, trivial⟩) (trivial) (⟨(fun h => by cases h), trivial⟩) rfl) trivial ?_
 refine .q rfl (op_loadRow Tryz.underlying55 rfl sz55 rfl rfl rfl (rfl)) trivial ?_
 refine .q rfl (op_call (U := []) [] [] (fchoose_ev _ _ _) Tryz.func96 (by kernel_rfl) rfl rfl rfl (⟨⟨_, rfl, rfl, rfl⟩, ⟨_, rfl, rfl, rfl⟩, ⟨_, rfl, rfl, rfl⟩, trivial⟩) (trivial) (trivial) (trivial) rfl) trivial ?_
 refine .w rfl (op_storeRow sz55 rfl rfl rfl rfl rfl (rfl) (rfl)) trivial rfl rfl ?_
 refine .q rfl (op_assign rfl) trivial ?_
 refine .nil ?_
 show Ev _ _ _ _ _
 refine .ret ?_
 show RetOk _ _ _ _ _ _ _
 exact retc2 rfl (.inl rfl) ⟨_, _, _, _, rfl, rfl, rfl, rfl, rfl, Tryz.underlying55, rfl, sz55⟩ rfl trivial
set_option maxHeartbeats 2000000 in
set_option maxRecDepth 100000 in
theorem froot_R (e e2 u v c r q : Nat) (hu : u < fp) (hv : v < fp) (hcl : c < fp) (hrl : r < fp) (hql : q < fp) (hc : v * v % fp * v % fp = c) (hr : (u * c % fp) * (((u * (c * c % fp) % fp) * v % fp) ^ ((fp - 5) / 8) % fp) % fp = r) (hq : r * r % fp * v % fp = q) (h1 : q ≠ (fp - u) % fp) (h2 : q ≠ u) : Meets Tryz.prog 53 [.agg64 (fl u), .agg64 (fl v)] (HPM e e2) (.tup [.agg64 (fl 0), .bool false]) [] := by
 refine meets_of_ev (nt := 47) Tryz.func53 rfl rfl (Nat.le_of_ble_eq_true rfl) ?_
 refine .seq ?_
 refine .region ?_
 refine .a (op_boxRow rfl rfl) trivial rfl ?_
 refine .a (op_boxRow rfl rfl) trivial rfl ?_
 refine .a (op_allocRow zero55 rel_zero55 rfl) trivial rfl ?_
 refine .q (op_assign rfl) trivial rfl ?_
 refine .nil ?_
 show Ev _ _ _ _ _
 refine .seq ?_
 refine .drawn [[], [0], [], [0, 1, 2], [], [0, 1, 2, 3, 4]] [0, 1, 2, 3, 4, 5] [5] (by kernel_rfl) (by kernel_rfl) rfl ?_
 show DK _ [0, 1, 2, 3, 4, 5] _ _ _
 refine .q rfl (op_loadRow Tryz.underlying55 rfl sz55 rfl rfl rfl (rfl)) trivial ?_
 refine .q rfl (op_call (U := []) [] [] (fsquare_ev _ (by first | assumption | exact fmod_lt _ | exact fp_pos | decide)) Tryz.func52 (by kernel_rfl) rfl rfl rfl (⟨⟨_, rfl, rfl, rfl⟩, trivial⟩) (trivial) (trivial) (trivial) rfl) trivial ?_
 refine .q rfl (op_loadRow Tryz.underlying55 rfl sz55 rfl rfl rfl (rfl)) trivial ?_
 refine .q rfl (op_call (U := []) [] [] (fmul_ev _ _ (by first | assumption | exact fmod_lt _ | exact fp_pos | decide) (by first | assumption | exact fmod_lt _ | exact fp_pos | decide)) Tryz.func55 (by kernel_rfl) rfl rfl rfl (⟨⟨_, rfl, rfl, rfl⟩, ⟨_, rfl, rfl, rfl⟩, trivial⟩) (trivial) (trivial) (trivial) rfl) trivial ?_
 refine .as (.agg64 (fl c)) (congrArg (fun z => AV.agg64 (fl z)) hc) ?_
 refine .a rfl (op_allocRow zero55 rel_zero55 rfl) trivial rfl rfl ?_
 refine .w rfl (op_storeRow sz55 rfl rfl rfl rfl rfl (rfl) (rfl)) trivial rfl rfl ?_
 refine .nil ?_
 show Ev _ _ _ _ _
 refine .seq ?_
 refine .drawn [[], [], [0, 1], [], [], [0, 1, 2, 4], [0, 1, 2, 3, 4, 5], [], [0, 1, 2, 3, 4, 5, 6, 7], [0, 1, 2, 3, 4, 5, 6, 7, 8], [0, 1, 2, 3, 4, 5, 6, 7, 8, 9], [], [0, 1, 2, 3, 4, 5, 6, 7, 8, 9, 10, 11]] [0, 1, 2, 3, 4, 5, 6, 7, 8, 9, 10, 11, 12] [12] (by kernel_rfl) (by kernel_rfl) rfl ?_
 show DK _ [0, 1, 2, 3, 4, 5, 6, 7, 8, 9, 10, 11, 12] _ _ _
 refine .q rfl (op_loadRow Tryz.underlying55 rfl sz55 rfl rfl rfl (rfl)) trivial ?_
 refine .q rfl (op_loadRow Tryz.underlying55 rfl sz55 rfl rfl rfl (rfl)) trivial ?_
 refine .q rfl (op_call (U := []) [] [] (fmul_ev _ _ (by first | assumption | exact fmod_lt _ | exact fp_pos | decide) (by first | assumption | exact fmod_lt _ | exact fp_pos | decide)) Tryz.func55 (by kernel_rfl) rfl rfl rfl (⟨⟨_, rfl, rfl, rfl⟩, ⟨_, rfl, rfl, rfl⟩, trivial⟩) (trivial) (trivial) (trivial) rfl) trivial ?_
 refine .q rfl (op_loadRow Tryz.underlying55 rfl sz55 rfl rfl rfl (rfl)) trivial ?_
 refine .q rfl (op_loadRow Tryz.underlying55 rfl sz55 rfl rfl rfl (rfl)) trivial ?_
 refine .q rfl (op_call (U := []) [] [] (fsquare_ev _ (by first | assumption | exact fmod_lt _ | exact fp_pos | decide)) Tryz.func52 (by kernel_rfl) rfl rfl rfl (⟨⟨_, rfl, rfl, rfl⟩, trivial⟩) (trivial) (trivial) (trivial) rfl) trivial ?_
 refine .q rfl (op_call (U := []) [] [] (fmul_ev _ _ (by first | assumption | exact fmod_lt _ | exact fp_pos | decide) (by first | assumption | exact fmod_lt _ | exact fp_pos | decide)) Tryz.func55 (by kernel_rfl) rfl rfl rfl (⟨⟨_, rfl, rfl, rfl⟩, ⟨_, rfl, rfl, rfl⟩, trivial⟩) (trivial) (trivial) (trivial) rfl) trivial ?_
 refine .q rfl (op_loadRow Tryz.underlying55 rfl sz55 rfl rfl rfl (rfl)) trivial ?_
 refine .q rfl (op_call (U := []) [] [] (fmul_ev _ _ (by first | assumption | exact fmod_lt _ | exact fp_pos | decide) (by first | assumption | exact fmod_lt _ | exact fp_pos | decide)) Tryz.func55 (by kernel_rfl) rfl rfl rfl (⟨⟨_, rfl, rfl, rfl⟩, ⟨_, rfl, rfl, rfl⟩, trivial⟩) (trivial) (trivial) (trivial) rfl) trivial ?_
 refine .q rfl (op_call (U := []) [] [] (frootPower_ev _ (by first | assumption | exact fmod_lt _ | exact fp_pos | decide)) Tryz.func94 (by kernel_rfl) rfl rfl rfl (⟨⟨_, rfl, rfl, rfl⟩, trivial⟩) (trivial) (trivial) (trivial) rfl) trivial ?_
 refine .q rfl (op_call (U := []) [] [] (fmul_ev _ _ (by first | assumption | exact fmod_lt _ | exact fp_pos | decide) (by first | assumption | exact fmod_lt _ | exact fp_pos | decide)) Tryz.func55 (by kernel_rfl) rfl rfl rfl (⟨⟨_, rfl, rfl, rfl⟩, ⟨_, rfl, rfl, rfl⟩, trivial⟩) (trivial) (trivial) (trivial) rfl) trivial ?_
 refine .as (.agg64 (fl r)) (congrArg (fun z => AV.agg64 (fl z)) hr) ?_
 refine .a rfl (op_allocRow zero55 rel_zero55 rfl) trivial rfl rfl ?_
 refine .w rfl (op_storeRow sz55 rfl rfl rfl rfl rfl (rfl) (rfl)) trivial rfl rfl ?_
 refine .nil ?_
 show Ev _ _ _ _ _
 refine .seq ?_
 refine .drawn [[], [0], [], [0, 1, 2], [], [0, 1, 2, 3, 4]] [0, 1, 2, 3, 4, 5] [5] (by kernel_rfl) (by kernel_rfl) rfl ?_
 show DK _ [0, 1, 2, 3, 4, 5] _ _ _
 refine .q rfl (op_loadRow Tryz.underlying55 rfl sz55 rfl rfl rfl (rfl)) trivial ?_
 refine .q rfl (op_call (U := []) [] [] (fsquare_ev _ (by first | assumption | exact fmod_lt _ | exact fp_pos | decide)) Tryz.func52 (by kernel_rfl) rfl rfl rfl (⟨⟨_, rfl, rfl, rfl⟩, trivial⟩) (trivial) (trivial) (trivial) rfl) trivial ?_
 refine .q rfl (op_loadRow Tryz.underlying55 rfl sz55 rfl rfl rfl (rfl)) trivial ?_
 refine .q rfl (op_call (U := []) [] [] (fmul_ev _ _ (by first | assumption | exact fmod_lt _ | exact fp_pos | decide) (by first | assumption | exact fmod_lt _ | exact fp_pos | decide)) Tryz.func55 (by kernel_rfl) rfl rfl rfl (⟨⟨_, rfl, rfl, rfl⟩, ⟨_, rfl, rfl, rfl⟩, trivial⟩) (trivial) (trivial) (trivial) rfl) trivial ?_
 refine .as (.agg64 (fl q)) (congrArg (fun z => AV.agg64 (fl z)) hq) ?_
 refine .a rfl (op_allocRow zero55 rel_zero55 rfl) trivial rfl rfl ?_
 refine .w rfl (op_storeRow sz55 rfl rfl rfl rfl rfl (rfl) (rfl)) trivial rfl rfl ?_
 refine .nil ?_
 show Ev _ _ _ _ _
 refine .seq ?_
 refine .block ?_
 refine .seq ?_
 refine .drawn [[], [], [1], [0, 1, 2], [0, 1, 2, 3]] [0, 1, 2] [] (by kernel_rfl) (by kernel_rfl) rfl ?_
 show DK _ [0, 1, 2, 3, 4] _ _ _
 refine .q rfl (op_loadRow Tryz.underlying55 rfl sz55 rfl rfl rfl (rfl)) trivial ?_
 refine .q rfl (op_loadRow Tryz.underlying55 rfl sz55 rfl rfl rfl (rfl)) trivial ?_
 refine .q rfl (op_call (U := []) [] [] (fneg_ev e _ (by first | assumption | exact fmod_lt _ | exact fp_pos | decide)) Tryz.func57 (by kernel_rfl) rfl rfl rfl (⟨⟨_, rfl, rfl, rfl⟩, trivial⟩) (⟨⟨_, _, rfl, rfl, rfl, rfl, id, rfl⟩, trivial⟩) (trivial) (⟨(fun h => by cases h), trivial⟩) rfl) trivial ?_
 refine .q rfl (op_eqBox (n := 4) (by kernel_rfl) Tryz.underlying55 (by kernel_rfl) rfl (by decide) rfl Tryz.underlying53 sz53 Tryz.underlying52 inf52.sz rfl rfl (rfl) (rfl)) trivial ?_
 refine .q rfl (op_assign rfl) trivial ?_
 refine .nil ?_
 show Ev _ _ _ _ _
 refine .cond_false rfl (by rw [fl_eq q _ hql (fmod_lt _)]; simp [h1]) ?_
 refine .seq ?_
 refine .region ?_
 refine .q (op_loadRow Tryz.underlying55 rfl sz55 rfl rfl rfl (rfl)) trivial rfl ?_
 refine .q (op_loadRow Tryz.underlying55 rfl sz55 rfl rfl rfl (rfl)) trivial rfl ?_
 refine .q (op_neqBox (n := 4) (by kernel_rfl) Tryz.underlying55 (by kernel_rfl) rfl (by decide) rfl Tryz.underlying53 sz53 Tryz.underlying52 inf52.sz rfl rfl (rfl) (rfl)) trivial rfl ?_
 refine .q (op_assign rfl) trivial rfl ?_
 refine .nil ?_
 show Ev _ _ _ _ _
 refine .cond_true rfl (by rw [fl_ne q u hql hu]; simp [h2]) ?_
 refine .seq ?_
 refine .region ?_
 refine .q (op_buildBox0 (n := 4) Tryz.underlying55 sz53 zero55 rel_zero55) trivial rfl ?_
 refine .w (op_storeRow sz55 rfl rfl rfl rfl rfl (rfl) (rfl)) trivial rfl ?_
 refine .q (op_assign rfl) trivial rfl ?_
 refine .nil ?_
 show Ev _ _ _ _ _
 refine .ret ?_
 show RetOk _ _ _ _ _ _ _
 exact retc2 rfl (.inl rfl) ⟨_, _, _, _, rfl, rfl, rfl, rfl, rfl, Tryz.underlying55, rfl, sz55⟩ rfl trivial
end Go.Proofs.YtcnjekoidgefpaaGreatDoor
