/-
  Texts of this claim.
-/
import Derived.Test.YtcnjekoidgefpaaGreatDoorGFVP
import Derived.Test.YtcnjekoidgefpaaGreatDoorGR6P
namespace Go.Proofs.YtcnjekoidgefpaaGreatDoor
open Go.RowKit
theorem iV_p : 2 ^ (fp / 2 ^ 2) % fp = iV := by
  rw [← pm_spec fp 256 2 (fp / 2 ^ 2) (by decide +kernel)]
  decide +kernel
theorem power05E (a n m : Nat) (h : a ^ n % fp = m) (ha : a < fp) (hn : dl n ≤ 16) : Meets Tryz.prog 88 [.sl 500 0 (dl a) 1, .sl 501 0 (dl n) 1] [(500, some ⟨.aggI (dg a), 3, false⟩), (501, some ⟨.aggI (dg n), 3, false⟩)] (.sl 1000 0 (dl m) 1) [(1000, some ⟨.aggI (dg m), 3, true⟩)] := h ▸ power05 a n ha hn
theorem power2_ev : Meets Tryz.prog 88 [.sl 500 0 (dl 2) 1, .sl 501 0 (dl (fp / 2 ^ 2)) 1] [(500, some ⟨.aggI (dg 2), 3, false⟩), (501, some ⟨.aggI (dg (fp / 2 ^ 2)), 3, false⟩)] (.sl 1000 0 (dl iV) 1) [(1000, some ⟨.aggI (dg iV), 3, true⟩)] :=
  power05E 2 (fp / 2 ^ 2) iV iV_p (by decide) (Nat.le_trans (dl_mono2 (Nat.div_le_self fp _)) dl_fp)
set_option maxHeartbeats 1000000 in
set_option maxRecDepth 100000 in
theorem minus1R_ev  : Meets Tryz.prog 90 [] [] (.sl 1000 0 (dl iV) 1) [(1000, some ⟨.aggI (dg iV), 3, true⟩)] := by
 refine meets_of_ev (nt := 11) Tryz.func90 rfl rfl (Nat.le_of_ble_eq_true rfl) ?_
 refine .seq ?_
 refine .region ?_
 refine .q (op_assign rfl) trivial rfl ?_
 refine .nil ?_
 show Ev _ _ _ _ _
 refine .seq ?_
 refine .region ?_
 refine .a (op_call (U := [(1000, some ⟨.aggI (dg (2)), 3, true⟩)]) [] [(1000, 1000)] (small_ev 2 (by omega)) Tryz.func42 (by kernel_rfl) rfl rfl rfl (⟨⟨_, rfl, rfl, rfl⟩, trivial⟩) (trivial) (⟨⟨1000, _, rfl, rfl, rfl, rfl, .inl rfl⟩, trivial⟩) (trivial) rfl) trivial rfl ?_
 refine .a (op_call (U := [(1008, some ⟨.aggI (dg (fp)), 3, true⟩)]) [] [(1008, 1000)] (P_ev) Tryz.func85 (by kernel_rfl) rfl rfl rfl (trivial) (trivial) (⟨⟨1000, _, rfl, rfl, rfl, rfl, .inl rfl⟩, trivial⟩) (trivial) rfl) trivial rfl ?_
 refine .a (op_call (U := [(1016, some ⟨.aggI (dg ((fp / 2 ^ 2))), 3, true⟩)]) [(500, 1008)] [(1016, 1000)] (half_ev (fp) 2 (by first | exact Nat.le_trans dl_fp (by decide) | exact hd3) (by decide)) Tryz.func89 (by kernel_rfl) rfl rfl rfl (⟨⟨_, rfl, rfl, rfl⟩, ⟨_, rfl, rfl, rfl⟩, trivial⟩) (⟨⟨_, _, rfl, rfl, rfl, rfl, (fun h => by cases h), rfl⟩, trivial⟩) (⟨⟨1000, _, rfl, rfl, rfl, rfl, .inl rfl⟩, trivial⟩) (⟨(fun h => by cases h), trivial⟩) rfl) trivial rfl ?_
 refine .a (op_call (U := [(1024, some ⟨.aggI (dg (iV)), 3, true⟩)]) [(500, 1000), (501, 1016)] [(1024, 1000)] (power2_ev) Tryz.func88 (by kernel_rfl) rfl rfl rfl (⟨⟨_, rfl, rfl, rfl⟩, ⟨_, rfl, rfl, rfl⟩, trivial⟩) (⟨⟨_, _, rfl, rfl, rfl, rfl, (fun h => by cases h), rfl⟩, ⟨_, _, rfl, rfl, rfl, rfl, (fun h => by cases h), rfl⟩, trivial⟩) (⟨⟨1000, _, rfl, rfl, rfl, rfl, .inl rfl⟩, trivial⟩) (⟨(fun h => by cases h), (fun h => by cases h), trivial⟩) rfl) trivial rfl ?_
 refine .q (op_assign rfl) trivial rfl ?_
 refine .nil ?_
 show Ev _ _ _ _ _
 refine .seq ?_
 refine .seq ?_
 refine .region ?_
 refine .q (op_move rfl) trivial rfl ?_
 refine .q (op_call (U := []) [(500, 1024)] [] (odd05 iV (by have := dl_of_fp iV_lt; omega)) Tryz.func48 (by kernel_rfl) rfl rfl rfl (⟨⟨_, rfl, rfl, rfl⟩, trivial⟩) (⟨⟨_, _, rfl, rfl, rfl, rfl, (fun h => by cases h), rfl⟩, trivial⟩) (trivial) (⟨(fun h => by cases h), trivial⟩) rfl) trivial rfl ?_
 refine .nil ?_
 show Ev _ _ _ _ _
 refine .cond_false rfl (by decide +kernel) ?_
 refine .skip ?_
 show Ev _ _ _ _ _
 refine .seq ?_
 refine .region ?_
 refine .q (op_move rfl) trivial rfl ?_
 refine .q (op_assign rfl) trivial rfl ?_
 refine .nil ?_
 show Ev _ _ _ _ _
 refine Ev.weak (st2 := ⟨[(0, .sl 1000 0 (dl iV) 1)], [(1000, some ⟨.aggI (dg iV), 3, true⟩)], 1008⟩) (StLe.mk [(1000, 1024)] rfl rfl ⟨⟨_, rfl, by (show AV.sl 1000 0 (dl iV) 1 = _; rfl), rfl⟩, trivial⟩ ⟨⟨_, _, rfl, rfl, by (show AV.aggI (dg iV) = _; rfl), rfl, id, rfl⟩, trivial⟩) ?_
 refine .ret ?_
 show RetOk _ _ _ _ _ _ _
 exact ret1v rfl (.inl rfl) rfl rfl ⟨rfl, trivial⟩
end Go.Proofs.YtcnjekoidgefpaaGreatDoor
namespace Go.Proofs.YtcnjekoidgefpaaGreatDoor
open Go.RowKit
theorem cmp_zero (a b : Nat) : cmpN a b = 0 ↔ a = b := by
  unfold cmpN
  by_cases h : a < b
  · rw [if_pos h]; omega
  · rw [if_neg h]
    by_cases h2 : b < a
    · rw [if_pos h2]; omega
    · rw [if_neg h2]; omega
def r0N (x : Nat) : Nat := x ^ ((fp + 3) / 2 ^ 3) % fp
theorem pow3_ev (x r : Nat) (hx : x < fp) (hr : r0N x = r) : Meets Tryz.prog 88 [.sl 500 0 (dl x) 1, .sl 501 0 (dl ((fp + 3) / 2 ^ 3)) 1] [(500, some ⟨.aggI (dg x), 3, false⟩), (501, some ⟨.aggI (dg ((fp + 3) / 2 ^ 3)), 3, false⟩)] (.sl 1000 0 (dl r) 1) [(1000, some ⟨.aggI (dg r), 3, true⟩)] :=
  power05E x ((fp + 3) / 2 ^ 3) r hr hx (Nat.le_trans (dl_mono2 (show (fp + 3) / 2 ^ 3 ≤ fp by decide +kernel)) dl_fp)
theorem hd3 : dl (fp + 3) ≤ 1000 := Nat.le_trans (dl_le (n := 17) (by decide +kernel)) (by decide)
set_option maxHeartbeats 2000000 in
set_option maxRecDepth 100000 in
theorem rootR_Ae (x r : Nat) (hx : x < fp) (hr : r0N x = r) (hlt : r < fp) (h1 : r * r % fp = x) (h3 : r % 2 ≠ 1) : Meets Tryz.prog 43 [.sl 500 0 (dl x) 1] [(500, some ⟨.aggI (dg x), 3, false⟩)] (.tup [.sl 1000 0 (dl (r)) 1, .bool true]) [(1000, some ⟨.aggI (dg (r)), 3, true⟩)] := by
 refine meets_of_ev (nt := 31) Tryz.func43 rfl rfl (Nat.le_of_ble_eq_true rfl) ?_
 refine .seq ?_
 refine .region ?_
 refine .q (op_assign rfl) trivial rfl ?_
 refine .q (op_assign rfl) trivial rfl ?_
 refine .nil ?_
 show Ev _ _ _ _ _
 refine .seq ?_
 refine .region ?_
 refine .q (op_move rfl) trivial rfl ?_
 refine .a (op_call (U := [(1000, some ⟨.aggI (dg (fp)), 3, true⟩)]) [] [(1000, 1000)] (P_ev) Tryz.func85 (by kernel_rfl) rfl rfl rfl (trivial) (trivial) (⟨⟨1000, _, rfl, rfl, rfl, rfl, .inl rfl⟩, trivial⟩) (trivial) rfl) trivial rfl ?_
 refine .a (op_call (U := [(1008, some ⟨.aggI (dg (3)), 3, true⟩)]) [] [(1008, 1000)] (small_ev 3 (by omega)) Tryz.func42 (by kernel_rfl) rfl rfl rfl (⟨⟨_, rfl, rfl, rfl⟩, trivial⟩) (trivial) (⟨⟨1000, _, rfl, rfl, rfl, rfl, .inl rfl⟩, trivial⟩) (trivial) rfl) trivial rfl ?_
 refine .a (op_call (U := [(1016, some ⟨.aggI (dg ((fp + 3))), 3, true⟩)]) [(500, 1000), (501, 1008)] [(1016, 1000)] (add_ev (fp) (3) (by have := dl_fp; omega) (Nat.le_trans (dl_le (n := 1) (by decide)) (by decide))) Tryz.func72 (by kernel_rfl) rfl rfl rfl (⟨⟨_, rfl, rfl, rfl⟩, ⟨_, rfl, rfl, rfl⟩, trivial⟩) (⟨⟨_, _, rfl, rfl, rfl, rfl, (fun h => by cases h), rfl⟩, ⟨_, _, rfl, rfl, rfl, rfl, (fun h => by cases h), rfl⟩, trivial⟩) (⟨⟨1000, _, rfl, rfl, rfl, rfl, .inl rfl⟩, trivial⟩) (⟨(fun h => by cases h), (fun h => by cases h), trivial⟩) rfl) trivial rfl ?_
 refine .a (op_call (U := [(1024, some ⟨.aggI (dg (((fp + 3) / 2 ^ 3))), 3, true⟩)]) [(500, 1016)] [(1024, 1000)] (half_ev ((fp + 3)) 3 (by first | exact Nat.le_trans dl_fp (by decide) | exact hd3) (by decide)) Tryz.func89 (by kernel_rfl) rfl rfl rfl (⟨⟨_, rfl, rfl, rfl⟩, ⟨_, rfl, rfl, rfl⟩, trivial⟩) (⟨⟨_, _, rfl, rfl, rfl, rfl, (fun h => by cases h), rfl⟩, trivial⟩) (⟨⟨1000, _, rfl, rfl, rfl, rfl, .inl rfl⟩, trivial⟩) (⟨(fun h => by cases h), trivial⟩) rfl) trivial rfl ?_
 refine .a (op_call (U := [(1032, some ⟨.aggI (dg (r)), 3, true⟩)]) [(500, 500), (501, 1024)] [(1032, 1000)] (pow3_ev x r hx hr) Tryz.func88 (by kernel_rfl) rfl rfl rfl (⟨⟨_, rfl, rfl, rfl⟩, ⟨_, rfl, rfl, rfl⟩, trivial⟩) (⟨⟨_, _, rfl, rfl, rfl, rfl, (fun h => by cases h), rfl⟩, ⟨_, _, rfl, rfl, rfl, rfl, (fun h => by cases h), rfl⟩, trivial⟩) (⟨⟨1000, _, rfl, rfl, rfl, rfl, .inl rfl⟩, trivial⟩) (⟨(fun h => by cases h), (fun h => by cases h), trivial⟩) rfl) trivial rfl ?_
 refine .q (op_assign rfl) trivial rfl ?_
 refine .nil ?_
 show Ev _ _ _ _ _
 refine .seq ?_
 refine .seq ?_
 refine .region ?_
 refine .q (op_move rfl) trivial rfl ?_
 refine .q (op_move rfl) trivial rfl ?_
 refine .a (op_call (U := [(1040, some ⟨.aggI (dg ((r * r % fp))), 3, true⟩)]) [(500, 1032)] [(1040, 1000)] (mulsq05 (r) (by first | assumption | exact Nat.mod_lt _ fp_pos' | exact fmod_lt _ | exact ofV_lt _ | exact fp_pos' | exact pw_lt _ _ _ | decide)) Tryz.func87 (by kernel_rfl) rfl rfl rfl (⟨⟨_, rfl, rfl, rfl⟩, ⟨_, rfl, rfl, rfl⟩, trivial⟩) (⟨⟨_, _, rfl, rfl, rfl, rfl, (fun h => by cases h), rfl⟩, trivial⟩) (⟨⟨1000, _, rfl, rfl, rfl, rfl, .inl rfl⟩, trivial⟩) (⟨(fun h => by cases h), trivial⟩) rfl) trivial rfl ?_
 refine .q (op_move rfl) trivial rfl ?_
 refine .q (op_call (U := []) [(500, 1040), (501, 500)] [] (cmp_ev ((r * r % fp)) (x) (by have := dl_of_fp (a := (r * r % fp)) (by first | assumption | exact Nat.mod_lt _ fp_pos' | exact fmod_lt _ | exact ofV_lt _ | exact fp_pos' | exact pw_lt _ _ _ | decide); omega) (by have := dl_of_fp (a := x) (by first | assumption | exact Nat.mod_lt _ fp_pos' | exact fmod_lt _ | exact ofV_lt _ | exact fp_pos' | exact pw_lt _ _ _ | decide); omega)) Tryz.func82 (by kernel_rfl) rfl rfl rfl (⟨⟨_, rfl, rfl, rfl⟩, ⟨_, rfl, rfl, rfl⟩, trivial⟩) (⟨⟨_, _, rfl, rfl, rfl, rfl, (fun h => by cases h), rfl⟩, ⟨_, _, rfl, rfl, rfl, rfl, (fun h => by cases h), rfl⟩, trivial⟩) (trivial) (⟨(fun h => by cases h), (fun h => by cases h), trivial⟩) rfl) trivial rfl ?_
 refine .q (op_cmpI rfl rfl rfl) trivial rfl ?_
 refine .nil ?_
 show Ev _ _ _ _ _
 refine .cond_false rfl (by simp [cmp_zero, h1]) ?_
 refine .skip ?_
 show Ev _ _ _ _ _
 refine .seq ?_
 refine .seq ?_
 refine .region ?_
 refine .q (op_move rfl) trivial rfl ?_
 refine .q (op_move rfl) trivial rfl ?_
 refine .a (op_call (U := [(1048, some ⟨.aggI (dg ((r * r % fp))), 3, true⟩)]) [(500, 1032)] [(1048, 1000)] (mulsq05 (r) (by first | assumption | exact Nat.mod_lt _ fp_pos' | exact fmod_lt _ | exact ofV_lt _ | exact fp_pos' | exact pw_lt _ _ _ | decide)) Tryz.func87 (by kernel_rfl) rfl rfl rfl (⟨⟨_, rfl, rfl, rfl⟩, ⟨_, rfl, rfl, rfl⟩, trivial⟩) (⟨⟨_, _, rfl, rfl, rfl, rfl, (fun h => by cases h), rfl⟩, trivial⟩) (⟨⟨1000, _, rfl, rfl, rfl, rfl, .inl rfl⟩, trivial⟩) (⟨(fun h => by cases h), trivial⟩) rfl) trivial rfl ?_
 refine .q (op_move rfl) trivial rfl ?_
 refine .q (op_call (U := []) [(500, 1048), (501, 500)] [] (cmp_ev ((r * r % fp)) (x) (by have := dl_of_fp (a := (r * r % fp)) (by first | assumption | exact Nat.mod_lt _ fp_pos' | exact fmod_lt _ | exact ofV_lt _ | exact fp_pos' | exact pw_lt _ _ _ | decide); omega) (by have := dl_of_fp (a := x) (by first | assumption | exact Nat.mod_lt _ fp_pos' | exact fmod_lt _ | exact ofV_lt _ | exact fp_pos' | exact pw_lt _ _ _ | decide); omega)) Tryz.func82 (by kernel_rfl) rfl rfl rfl (⟨⟨_, rfl, rfl, rfl⟩, ⟨_, rfl, rfl, rfl⟩, trivial⟩) (⟨⟨_, _, rfl, rfl, rfl, rfl, (fun h => by cases h), rfl⟩, ⟨_, _, rfl, rfl, rfl, rfl, (fun h => by cases h), rfl⟩, trivial⟩) (trivial) (⟨(fun h => by cases h), (fun h => by cases h), trivial⟩) rfl) trivial rfl ?_
 refine .q (op_cmpI rfl rfl rfl) trivial rfl ?_
 refine .nil ?_
 show Ev _ _ _ _ _
 refine .cond_false rfl (by simp [cmp_zero, h1]) ?_
 refine .skip ?_
 show Ev _ _ _ _ _
 refine .seq ?_
 refine .seq ?_
 refine .region ?_
 refine .q (op_move rfl) trivial rfl ?_
 refine .q (op_call (U := []) [(500, 1032)] [] (odd05 (r) (by have := dl_of_fp (a := r) (by first | assumption | exact Nat.mod_lt _ fp_pos' | exact fmod_lt _ | exact ofV_lt _ | exact fp_pos' | exact pw_lt _ _ _ | decide); omega)) Tryz.func48 (by kernel_rfl) rfl rfl rfl (⟨⟨_, rfl, rfl, rfl⟩, trivial⟩) (⟨⟨_, _, rfl, rfl, rfl, rfl, (fun h => by cases h), rfl⟩, trivial⟩) (trivial) (⟨(fun h => by cases h), trivial⟩) rfl) trivial rfl ?_
 refine .nil ?_
 show Ev _ _ _ _ _
 refine .cond_false rfl (by simp [h3]) ?_
 refine .skip ?_
 show Ev _ _ _ _ _
 refine .seq ?_
 refine .region ?_
 refine .q (op_move rfl) trivial rfl ?_
 refine .q (op_assign rfl) trivial rfl ?_
 refine .q (op_assign rfl) trivial rfl ?_
 refine .nil ?_
 show Ev _ _ _ _ _
 refine Ev.weak (st2 := ⟨[(2, .sl 1000 0 (dl (r)) 1), (3, .bool true)], [(1000, some ⟨.aggI (dg (r)), 3, true⟩)], 1008⟩) (StLe.mk [(1000, 1032)] rfl rfl ⟨⟨_, rfl, by (show AV.sl 1000 0 (dl (r)) 1 = _; rfl), rfl⟩, ⟨_, rfl, by rfl, rfl⟩, trivial⟩ ⟨⟨_, _, rfl, rfl, by (show AV.aggI (dg (r)) = _; rfl), rfl, id, rfl⟩, trivial⟩) ?_
 refine .ret ?_
 show RetOk _ _ _ _ _ _ _
 exact ret2v rfl (.inl rfl) rfl rfl rfl rfl ⟨rfl, trivial⟩
set_option maxHeartbeats 2000000 in
set_option maxRecDepth 100000 in
theorem rootR_Ao (x r : Nat) (hx : x < fp) (hr : r0N x = r) (hlt : r < fp) (h1 : r * r % fp = x) (h3 : r % 2 = 1) : Meets Tryz.prog 43 [.sl 500 0 (dl x) 1] [(500, some ⟨.aggI (dg x), 3, false⟩)] (.tup [.sl 1000 0 (dl (((fp - r) % fp))) 1, .bool true]) [(1000, some ⟨.aggI (dg (((fp - r) % fp))), 3, true⟩)] := by
 refine meets_of_ev (nt := 31) Tryz.func43 rfl rfl (Nat.le_of_ble_eq_true rfl) ?_
 refine .seq ?_
 refine .region ?_
 refine .q (op_assign rfl) trivial rfl ?_
 refine .q (op_assign rfl) trivial rfl ?_
 refine .nil ?_
 show Ev _ _ _ _ _
 refine .seq ?_
 refine .region ?_
 refine .q (op_move rfl) trivial rfl ?_
 refine .a (op_call (U := [(1000, some ⟨.aggI (dg (fp)), 3, true⟩)]) [] [(1000, 1000)] (P_ev) Tryz.func85 (by kernel_rfl) rfl rfl rfl (trivial) (trivial) (⟨⟨1000, _, rfl, rfl, rfl, rfl, .inl rfl⟩, trivial⟩) (trivial) rfl) trivial rfl ?_
 refine .a (op_call (U := [(1008, some ⟨.aggI (dg (3)), 3, true⟩)]) [] [(1008, 1000)] (small_ev 3 (by omega)) Tryz.func42 (by kernel_rfl) rfl rfl rfl (⟨⟨_, rfl, rfl, rfl⟩, trivial⟩) (trivial) (⟨⟨1000, _, rfl, rfl, rfl, rfl, .inl rfl⟩, trivial⟩) (trivial) rfl) trivial rfl ?_
 refine .a (op_call (U := [(1016, some ⟨.aggI (dg ((fp + 3))), 3, true⟩)]) [(500, 1000), (501, 1008)] [(1016, 1000)] (add_ev (fp) (3) (by have := dl_fp; omega) (Nat.le_trans (dl_le (n := 1) (by decide)) (by decide))) Tryz.func72 (by kernel_rfl) rfl rfl rfl (⟨⟨_, rfl, rfl, rfl⟩, ⟨_, rfl, rfl, rfl⟩, trivial⟩) (⟨⟨_, _, rfl, rfl, rfl, rfl, (fun h => by cases h), rfl⟩, ⟨_, _, rfl, rfl, rfl, rfl, (fun h => by cases h), rfl⟩, trivial⟩) (⟨⟨1000, _, rfl, rfl, rfl, rfl, .inl rfl⟩, trivial⟩) (⟨(fun h => by cases h), (fun h => by cases h), trivial⟩) rfl) trivial rfl ?_
 refine .a (op_call (U := [(1024, some ⟨.aggI (dg (((fp + 3) / 2 ^ 3))), 3, true⟩)]) [(500, 1016)] [(1024, 1000)] (half_ev ((fp + 3)) 3 (by first | exact Nat.le_trans dl_fp (by decide) | exact hd3) (by decide)) Tryz.func89 (by kernel_rfl) rfl rfl rfl (⟨⟨_, rfl, rfl, rfl⟩, ⟨_, rfl, rfl, rfl⟩, trivial⟩) (⟨⟨_, _, rfl, rfl, rfl, rfl, (fun h => by cases h), rfl⟩, trivial⟩) (⟨⟨1000, _, rfl, rfl, rfl, rfl, .inl rfl⟩, trivial⟩) (⟨(fun h => by cases h), trivial⟩) rfl) trivial rfl ?_
 refine .a (op_call (U := [(1032, some ⟨.aggI (dg (r)), 3, true⟩)]) [(500, 500), (501, 1024)] [(1032, 1000)] (pow3_ev x r hx hr) Tryz.func88 (by kernel_rfl) rfl rfl rfl (⟨⟨_, rfl, rfl, rfl⟩, ⟨_, rfl, rfl, rfl⟩, trivial⟩) (⟨⟨_, _, rfl, rfl, rfl, rfl, (fun h => by cases h), rfl⟩, ⟨_, _, rfl, rfl, rfl, rfl, (fun h => by cases h), rfl⟩, trivial⟩) (⟨⟨1000, _, rfl, rfl, rfl, rfl, .inl rfl⟩, trivial⟩) (⟨(fun h => by cases h), (fun h => by cases h), trivial⟩) rfl) trivial rfl ?_
 refine .q (op_assign rfl) trivial rfl ?_
 refine .nil ?_
 show Ev _ _ _ _ _
 refine .seq ?_
 refine .seq ?_
 refine .region ?_
 refine .q (op_move rfl) trivial rfl ?_
 refine .q (op_move rfl) trivial rfl ?_
 refine .a (op_call (U := [(1040, some ⟨.aggI (dg ((r * r % fp))), 3, true⟩)]) [(500, 1032)] [(1040, 1000)] (mulsq05 (r) (by first | assumption | exact Nat.mod_lt _ fp_pos' | exact fmod_lt _ | exact ofV_lt _ | exact fp_pos' | exact pw_lt _ _ _ | decide)) Tryz.func87 (by kernel_rfl) rfl rfl rfl (⟨⟨_, rfl, rfl, rfl⟩, ⟨_, rfl, rfl, rfl⟩, trivial⟩) (⟨⟨_, _, rfl, rfl, rfl, rfl, (fun h => by cases h), rfl⟩, trivial⟩) (⟨⟨1000, _, rfl, rfl, rfl, rfl, .inl rfl⟩, trivial⟩) (⟨(fun h => by cases h), trivial⟩) rfl) trivial rfl ?_
 refine .q (op_move rfl) trivial rfl ?_
 refine .q (op_call (U := []) [(500, 1040), (501, 500)] [] (cmp_ev ((r * r % fp)) (x) (by have := dl_of_fp (a := (r * r % fp)) (by first | assumption | exact Nat.mod_lt _ fp_pos' | exact fmod_lt _ | exact ofV_lt _ | exact fp_pos' | exact pw_lt _ _ _ | decide); omega) (by have := dl_of_fp (a := x) (by first | assumption | exact Nat.mod_lt _ fp_pos' | exact fmod_lt _ | exact ofV_lt _ | exact fp_pos' | exact pw_lt _ _ _ | decide); omega)) Tryz.func82 (by kernel_rfl) rfl rfl rfl (⟨⟨_, rfl, rfl, rfl⟩, ⟨_, rfl, rfl, rfl⟩, trivial⟩) (⟨⟨_, _, rfl, rfl, rfl, rfl, (fun h => by cases h), rfl⟩, ⟨_, _, rfl, rfl, rfl, rfl, (fun h => by cases h), rfl⟩, trivial⟩) (trivial) (⟨(fun h => by cases h), (fun h => by cases h), trivial⟩) rfl) trivial rfl ?_
 refine .q (op_cmpI rfl rfl rfl) trivial rfl ?_
 refine .nil ?_
 show Ev _ _ _ _ _
 refine .cond_false rfl (by simp [cmp_zero, h1]) ?_
 refine .skip ?_
 show Ev _ _ _ _ _
 refine .seq ?_
 refine .seq ?_
 refine .region ?_
 refine .q (op_move rfl) trivial rfl ?_
 refine .q (op_move rfl) trivial rfl ?_
 refine .a (op_call (U := [(1048, some ⟨.aggI (dg ((r * r % fp))), 3, true⟩)]) [(500, 1032)] [(1048, 1000)] (mulsq05 (r) (by first | assumption | exact Nat.mod_lt _ fp_pos' | exact fmod_lt _ | exact ofV_lt _ | exact fp_pos' | exact pw_lt _ _ _ | decide)) Tryz.func87 (by kernel_rfl) rfl rfl rfl (⟨⟨_, rfl, rfl, rfl⟩, ⟨_, rfl, rfl, rfl⟩, trivial⟩) (⟨⟨_, _, rfl, rfl, rfl, rfl, (fun h => by cases h), rfl⟩, trivial⟩) (⟨⟨1000, _, rfl, rfl, rfl, rfl, .inl rfl⟩, trivial⟩) (⟨(fun h => by cases h), trivial⟩) rfl) trivial rfl ?_
 refine .q (op_move rfl) trivial rfl ?_
 refine .q (op_call (U := []) [(500, 1048), (501, 500)] [] (cmp_ev ((r * r % fp)) (x) (by have := dl_of_fp (a := (r * r % fp)) (by first | assumption | exact Nat.mod_lt _ fp_pos' | exact fmod_lt _ | exact ofV_lt _ | exact fp_pos' | exact pw_lt _ _ _ | decide); omega) (by have := dl_of_fp (a := x) (by first | assumption | exact Nat.mod_lt _ fp_pos' | exact fmod_lt _ | exact ofV_lt _ | exact fp_pos' | exact pw_lt _ _ _ | decide); omega)) Tryz.func82 (by kernel_rfl) rfl rfl rfl (⟨⟨_, rfl, rfl, rfl⟩, ⟨_, rfl, rfl, rfl⟩, trivial⟩) (⟨⟨_, _, rfl, rfl, rfl, rfl, (fun h => by cases h), rfl⟩, ⟨_, _, rfl, rfl, rfl, rfl, (fun h => by cases h), rfl⟩, trivial⟩) (trivial) (⟨(fun h => by cases h), (fun h => by cases h), trivial⟩) rfl) trivial rfl ?_
 refine .q (op_cmpI rfl rfl rfl) trivial rfl ?_
 refine .nil ?_
 show Ev _ _ _ _ _
 refine .cond_false rfl (by simp [cmp_zero, h1]) ?_
 refine .skip ?_
 show Ev _ _ _ _ _
 refine .seq ?_
 refine .seq ?_
 refine .region ?_
 refine .q (op_move rfl) trivial rfl ?_
 refine .q (op_call (U := []) [(500, 1032)] [] (odd05 (r) (by have := dl_of_fp (a := r) (by first | assumption | exact Nat.mod_lt _ fp_pos' | exact fmod_lt _ | exact ofV_lt _ | exact fp_pos' | exact pw_lt _ _ _ | decide); omega)) Tryz.func48 (by kernel_rfl) rfl rfl rfl (⟨⟨_, rfl, rfl, rfl⟩, trivial⟩) (⟨⟨_, _, rfl, rfl, rfl, rfl, (fun h => by cases h), rfl⟩, trivial⟩) (trivial) (⟨(fun h => by cases h), trivial⟩) rfl) trivial rfl ?_
 refine .nil ?_
 show Ev _ _ _ _ _
 refine .cond_true rfl (by simp [h3]) ?_
 refine .region ?_
 refine .q (op_move rfl) trivial rfl ?_
 refine .a (op_call (U := [(1056, some ⟨.aggI (dg (((fp - r) % fp))), 3, true⟩)]) [(501, 1032)] [(1056, 1000)] (subn05 (r) (by first | assumption | exact Nat.mod_lt _ fp_pos' | exact fmod_lt _ | exact ofV_lt _ | exact fp_pos' | exact pw_lt _ _ _ | decide)) Tryz.func38 (by kernel_rfl) rfl rfl rfl (⟨⟨_, rfl, rfl, rfl⟩, ⟨_, rfl, rfl, rfl⟩, trivial⟩) (⟨⟨_, _, rfl, rfl, rfl, rfl, (fun h => by cases h), rfl⟩, trivial⟩) (⟨⟨1000, _, rfl, rfl, rfl, rfl, .inl rfl⟩, trivial⟩) (⟨(fun h => by cases h), trivial⟩) rfl) trivial rfl ?_
 refine .q (op_assign rfl) trivial rfl ?_
 refine .nil ?_
 show Ev _ _ _ _ _
 refine .seq ?_
 refine .region ?_
 refine .q (op_move rfl) trivial rfl ?_
 refine .q (op_assign rfl) trivial rfl ?_
 refine .q (op_assign rfl) trivial rfl ?_
 refine .nil ?_
 show Ev _ _ _ _ _
 refine Ev.weak (st2 := ⟨[(2, .sl 1000 0 (dl (((fp - r) % fp))) 1), (3, .bool true)], [(1000, some ⟨.aggI (dg (((fp - r) % fp))), 3, true⟩)], 1008⟩) (StLe.mk [(1000, 1056)] rfl rfl ⟨⟨_, rfl, by (show AV.sl 1000 0 (dl (((fp - r) % fp))) 1 = _; rfl), rfl⟩, ⟨_, rfl, by rfl, rfl⟩, trivial⟩ ⟨⟨_, _, rfl, rfl, by (show AV.aggI (dg (((fp - r) % fp))) = _; rfl), rfl, id, rfl⟩, trivial⟩) ?_
 refine .ret ?_
 show RetOk _ _ _ _ _ _ _
 exact ret2v rfl (.inl rfl) rfl rfl rfl rfl ⟨rfl, trivial⟩
set_option maxHeartbeats 2000000 in
set_option maxRecDepth 100000 in
theorem rootR_Be (x r : Nat) (hx : x < fp) (hr : r0N x = r) (hlt : r < fp) (h1 : r * r % fp ≠ x) (h2 : (r * iV % fp) * (r * iV % fp) % fp = x) (h3 : (r * iV % fp) % 2 ≠ 1) : Meets Tryz.prog 43 [.sl 500 0 (dl x) 1] [(500, some ⟨.aggI (dg x), 3, false⟩)] (.tup [.sl 1000 0 (dl ((r * iV % fp))) 1, .bool true]) [(1000, some ⟨.aggI (dg ((r * iV % fp))), 3, true⟩)] := by
 refine meets_of_ev (nt := 31) Tryz.func43 rfl rfl (Nat.le_of_ble_eq_true rfl) ?_
 refine .seq ?_
 refine .region ?_
 refine .q (op_assign rfl) trivial rfl ?_
 refine .q (op_assign rfl) trivial rfl ?_
 refine .nil ?_
 show Ev _ _ _ _ _
 refine .seq ?_
 refine .region ?_
 refine .q (op_move rfl) trivial rfl ?_
 refine .a (op_call (U := [(1000, some ⟨.aggI (dg (fp)), 3, true⟩)]) [] [(1000, 1000)] (P_ev) Tryz.func85 (by kernel_rfl) rfl rfl rfl (trivial) (trivial) (⟨⟨1000, _, rfl, rfl, rfl, rfl, .inl rfl⟩, trivial⟩) (trivial) rfl) trivial rfl ?_
 refine .a (op_call (U := [(1008, some ⟨.aggI (dg (3)), 3, true⟩)]) [] [(1008, 1000)] (small_ev 3 (by omega)) Tryz.func42 (by kernel_rfl) rfl rfl rfl (⟨⟨_, rfl, rfl, rfl⟩, trivial⟩) (trivial) (⟨⟨1000, _, rfl, rfl, rfl, rfl, .inl rfl⟩, trivial⟩) (trivial) rfl) trivial rfl ?_
 refine .a (op_call (U := [(1016, some ⟨.aggI (dg ((fp + 3))), 3, true⟩)]) [(500, 1000), (501, 1008)] [(1016, 1000)] (add_ev (fp) (3) (by have := dl_fp; omega) (Nat.le_trans (dl_le (n := 1) (by decide)) (by decide))) Tryz.func72 (by kernel_rfl) rfl rfl rfl (⟨⟨_, rfl, rfl, rfl⟩, ⟨_, rfl, rfl, rfl⟩, trivial⟩) (⟨⟨_, _, rfl, rfl, rfl, rfl, (fun h => by cases h), rfl⟩, ⟨_, _, rfl, rfl, rfl, rfl, (fun h => by cases h), rfl⟩, trivial⟩) (⟨⟨1000, _, rfl, rfl, rfl, rfl, .inl rfl⟩, trivial⟩) (⟨(fun h => by cases h), (fun h => by cases h), trivial⟩) rfl) trivial rfl ?_
 refine .a (op_call (U := [(1024, some ⟨.aggI (dg (((fp + 3) / 2 ^ 3))), 3, true⟩)]) [(500, 1016)] [(1024, 1000)] (half_ev ((fp + 3)) 3 (by first | exact Nat.le_trans dl_fp (by decide) | exact hd3) (by decide)) Tryz.func89 (by kernel_rfl) rfl rfl rfl (⟨⟨_, rfl, rfl, rfl⟩, ⟨_, rfl, rfl, rfl⟩, trivial⟩) (⟨⟨_, _, rfl, rfl, rfl, rfl, (fun h => by cases h), rfl⟩, trivial⟩) (⟨⟨1000, _, rfl, rfl, rfl, rfl, .inl rfl⟩, trivial⟩) (⟨(fun h => by cases h), trivial⟩) rfl) trivial rfl ?_
 refine .a (op_call (U := [(1032, some ⟨.aggI (dg (r)), 3, true⟩)]) [(500, 500), (501, 1024)] [(1032, 1000)] (pow3_ev x r hx hr) Tryz.func88 (by kernel_rfl) rfl rfl rfl (⟨⟨_, rfl, rfl, rfl⟩, ⟨_, rfl, rfl, rfl⟩, trivial⟩) (⟨⟨_, _, rfl, rfl, rfl, rfl, (fun h => by cases h), rfl⟩, ⟨_, _, rfl, rfl, rfl, rfl, (fun h => by cases h), rfl⟩, trivial⟩) (⟨⟨1000, _, rfl, rfl, rfl, rfl, .inl rfl⟩, trivial⟩) (⟨(fun h => by cases h), (fun h => by cases h), trivial⟩) rfl) trivial rfl ?_
 refine .q (op_assign rfl) trivial rfl ?_
 refine .nil ?_
 show Ev _ _ _ _ _
 refine .seq ?_
 refine .seq ?_
 refine .region ?_
 refine .q (op_move rfl) trivial rfl ?_
 refine .q (op_move rfl) trivial rfl ?_
 refine .a (op_call (U := [(1040, some ⟨.aggI (dg ((r * r % fp))), 3, true⟩)]) [(500, 1032)] [(1040, 1000)] (mulsq05 (r) (by first | assumption | exact Nat.mod_lt _ fp_pos' | exact fmod_lt _ | exact ofV_lt _ | exact fp_pos' | exact pw_lt _ _ _ | decide)) Tryz.func87 (by kernel_rfl) rfl rfl rfl (⟨⟨_, rfl, rfl, rfl⟩, ⟨_, rfl, rfl, rfl⟩, trivial⟩) (⟨⟨_, _, rfl, rfl, rfl, rfl, (fun h => by cases h), rfl⟩, trivial⟩) (⟨⟨1000, _, rfl, rfl, rfl, rfl, .inl rfl⟩, trivial⟩) (⟨(fun h => by cases h), trivial⟩) rfl) trivial rfl ?_
 refine .q (op_move rfl) trivial rfl ?_
 refine .q (op_call (U := []) [(500, 1040), (501, 500)] [] (cmp_ev ((r * r % fp)) (x) (by have := dl_of_fp (a := (r * r % fp)) (by first | assumption | exact Nat.mod_lt _ fp_pos' | exact fmod_lt _ | exact ofV_lt _ | exact fp_pos' | exact pw_lt _ _ _ | decide); omega) (by have := dl_of_fp (a := x) (by first | assumption | exact Nat.mod_lt _ fp_pos' | exact fmod_lt _ | exact ofV_lt _ | exact fp_pos' | exact pw_lt _ _ _ | decide); omega)) Tryz.func82 (by kernel_rfl) rfl rfl rfl (⟨⟨_, rfl, rfl, rfl⟩, ⟨_, rfl, rfl, rfl⟩, trivial⟩) (⟨⟨_, _, rfl, rfl, rfl, rfl, (fun h => by cases h), rfl⟩, ⟨_, _, rfl, rfl, rfl, rfl, (fun h => by cases h), rfl⟩, trivial⟩) (trivial) (⟨(fun h => by cases h), (fun h => by cases h), trivial⟩) rfl) trivial rfl ?_
 refine .q (op_cmpI rfl rfl rfl) trivial rfl ?_
 refine .nil ?_
 show Ev _ _ _ _ _
 refine .cond_true rfl (by simp [cmp_zero, h1]) ?_
 refine .region ?_
 refine .q (op_move rfl) trivial rfl ?_
 refine .a (op_call (U := [(1048, some ⟨.aggI (dg (iV)), 3, true⟩)]) [] [(1048, 1000)] (minus1R_ev) Tryz.func90 (by kernel_rfl) rfl rfl rfl (trivial) (trivial) (⟨⟨1000, _, rfl, rfl, rfl, rfl, .inl rfl⟩, trivial⟩) (trivial) rfl) trivial rfl ?_
 refine .a (op_call (U := [(1056, some ⟨.aggI (dg ((r * iV % fp))), 3, true⟩)]) [(500, 1032), (501, 1048)] [(1056, 1000)] (mul05 (r) (iV) (by first | assumption | exact Nat.mod_lt _ fp_pos' | exact fmod_lt _ | exact ofV_lt _ | exact fp_pos' | exact pw_lt _ _ _ | decide) (by first | assumption | exact Nat.mod_lt _ fp_pos' | exact fmod_lt _ | exact ofV_lt _ | exact fp_pos' | exact pw_lt _ _ _ | decide)) Tryz.func87 (by kernel_rfl) rfl rfl rfl (⟨⟨_, rfl, rfl, rfl⟩, ⟨_, rfl, rfl, rfl⟩, trivial⟩) (⟨⟨_, _, rfl, rfl, rfl, rfl, (fun h => by cases h), rfl⟩, ⟨_, _, rfl, rfl, rfl, rfl, (fun h => by cases h), rfl⟩, trivial⟩) (⟨⟨1000, _, rfl, rfl, rfl, rfl, .inl rfl⟩, trivial⟩) (⟨(fun h => by cases h), (fun h => by cases h), trivial⟩) rfl) trivial rfl ?_
 refine .q (op_assign rfl) trivial rfl ?_
 refine .nil ?_
 show Ev _ _ _ _ _
 refine .seq ?_
 refine .seq ?_
 refine .region ?_
 refine .q (op_move rfl) trivial rfl ?_
 refine .q (op_move rfl) trivial rfl ?_
 refine .a (op_call (U := [(1064, some ⟨.aggI (dg (((r * iV % fp) * (r * iV % fp) % fp))), 3, true⟩)]) [(500, 1056)] [(1064, 1000)] (mulsq05 ((r * iV % fp)) (by first | assumption | exact Nat.mod_lt _ fp_pos' | exact fmod_lt _ | exact ofV_lt _ | exact fp_pos' | exact pw_lt _ _ _ | decide)) Tryz.func87 (by kernel_rfl) rfl rfl rfl (⟨⟨_, rfl, rfl, rfl⟩, ⟨_, rfl, rfl, rfl⟩, trivial⟩) (⟨⟨_, _, rfl, rfl, rfl, rfl, (fun h => by cases h), rfl⟩, trivial⟩) (⟨⟨1000, _, rfl, rfl, rfl, rfl, .inl rfl⟩, trivial⟩) (⟨(fun h => by cases h), trivial⟩) rfl) trivial rfl ?_
 refine .q (op_move rfl) trivial rfl ?_
 refine .q (op_call (U := []) [(500, 1064), (501, 500)] [] (cmp_ev (((r * iV % fp) * (r * iV % fp) % fp)) (x) (by have := dl_of_fp (a := ((r * iV % fp) * (r * iV % fp) % fp)) (by first | assumption | exact Nat.mod_lt _ fp_pos' | exact fmod_lt _ | exact ofV_lt _ | exact fp_pos' | exact pw_lt _ _ _ | decide); omega) (by have := dl_of_fp (a := x) (by first | assumption | exact Nat.mod_lt _ fp_pos' | exact fmod_lt _ | exact ofV_lt _ | exact fp_pos' | exact pw_lt _ _ _ | decide); omega)) Tryz.func82 (by kernel_rfl) rfl rfl rfl (⟨⟨_, rfl, rfl, rfl⟩, ⟨_, rfl, rfl, rfl⟩, trivial⟩) (⟨⟨_, _, rfl, rfl, rfl, rfl, (fun h => by cases h), rfl⟩, ⟨_, _, rfl, rfl, rfl, rfl, (fun h => by cases h), rfl⟩, trivial⟩) (trivial) (⟨(fun h => by cases h), (fun h => by cases h), trivial⟩) rfl) trivial rfl ?_
 refine .q (op_cmpI rfl rfl rfl) trivial rfl ?_
 refine .nil ?_
 show Ev _ _ _ _ _
 refine .cond_false rfl (by have h2b := h2; simp at h2b; simp [cmp_zero, h2b]) ?_
 refine .skip ?_
 show Ev _ _ _ _ _
 refine .seq ?_
 refine .seq ?_
 refine .region ?_
 refine .q (op_move rfl) trivial rfl ?_
 refine .q (op_call (U := []) [(500, 1056)] [] (odd05 ((r * iV % fp)) (by have := dl_of_fp (a := (r * iV % fp)) (by first | assumption | exact Nat.mod_lt _ fp_pos' | exact fmod_lt _ | exact ofV_lt _ | exact fp_pos' | exact pw_lt _ _ _ | decide); omega)) Tryz.func48 (by kernel_rfl) rfl rfl rfl (⟨⟨_, rfl, rfl, rfl⟩, trivial⟩) (⟨⟨_, _, rfl, rfl, rfl, rfl, (fun h => by cases h), rfl⟩, trivial⟩) (trivial) (⟨(fun h => by cases h), trivial⟩) rfl) trivial rfl ?_
 refine .nil ?_
 show Ev _ _ _ _ _
 refine .cond_false rfl (by simp [h3]) ?_
 refine .skip ?_
 show Ev _ _ _ _ _
 refine .seq ?_
 refine .region ?_
 refine .q (op_move rfl) trivial rfl ?_
 refine .q (op_assign rfl) trivial rfl ?_
 refine .q (op_assign rfl) trivial rfl ?_
 refine .nil ?_
 show Ev _ _ _ _ _
 refine Ev.weak (st2 := ⟨[(2, .sl 1000 0 (dl ((r * iV % fp))) 1), (3, .bool true)], [(1000, some ⟨.aggI (dg ((r * iV % fp))), 3, true⟩)], 1008⟩) (StLe.mk [(1000, 1056)] rfl rfl ⟨⟨_, rfl, by (show AV.sl 1000 0 (dl ((r * iV % fp))) 1 = _; rfl), rfl⟩, ⟨_, rfl, by rfl, rfl⟩, trivial⟩ ⟨⟨_, _, rfl, rfl, by (show AV.aggI (dg ((r * iV % fp))) = _; rfl), rfl, id, rfl⟩, trivial⟩) ?_
 refine .ret ?_
 show RetOk _ _ _ _ _ _ _
 exact ret2v rfl (.inl rfl) rfl rfl rfl rfl ⟨rfl, trivial⟩
set_option maxHeartbeats 2000000 in
set_option maxRecDepth 100000 in
theorem rootR_Bo (x r : Nat) (hx : x < fp) (hr : r0N x = r) (hlt : r < fp) (h1 : r * r % fp ≠ x) (h2 : (r * iV % fp) * (r * iV % fp) % fp = x) (h3 : (r * iV % fp) % 2 = 1) : Meets Tryz.prog 43 [.sl 500 0 (dl x) 1] [(500, some ⟨.aggI (dg x), 3, false⟩)] (.tup [.sl 1000 0 (dl (((fp - (r * iV % fp)) % fp))) 1, .bool true]) [(1000, some ⟨.aggI (dg (((fp - (r * iV % fp)) % fp))), 3, true⟩)] := by
 refine meets_of_ev (nt := 31) Tryz.func43 rfl rfl (Nat.le_of_ble_eq_true rfl) ?_
 refine .seq ?_
 refine .region ?_
 refine .q (op_assign rfl) trivial rfl ?_
 refine .q (op_assign rfl) trivial rfl ?_
 refine .nil ?_
 show Ev _ _ _ _ _
 refine .seq ?_
 refine .region ?_
 refine .q (op_move rfl) trivial rfl ?_
 refine .a (op_call (U := [(1000, some ⟨.aggI (dg (fp)), 3, true⟩)]) [] [(1000, 1000)] (P_ev) Tryz.func85 (by kernel_rfl) rfl rfl rfl (trivial) (trivial) (⟨⟨1000, _, rfl, rfl, rfl, rfl, .inl rfl⟩, trivial⟩) (trivial) rfl) trivial rfl ?_
 refine .a (op_call (U := [(1008, some ⟨.aggI (dg (3)), 3, true⟩)]) [] [(1008, 1000)] (small_ev 3 (by omega)) Tryz.func42 (by kernel_rfl) rfl rfl rfl (⟨⟨_, rfl, rfl, rfl⟩, trivial⟩) (trivial) (⟨⟨1000, _, rfl, rfl, rfl, rfl, .inl rfl⟩, trivial⟩) (trivial) rfl) trivial rfl ?_
 refine .a (op_call (U := [(1016, some ⟨.aggI (dg ((fp + 3))), 3, true⟩)]) [(500, 1000), (501, 1008)] [(1016, 1000)] (add_ev (fp) (3) (by have := dl_fp; omega) (Nat.le_trans (dl_le (n := 1) (by decide)) (by decide))) Tryz.func72 (by kernel_rfl) rfl rfl rfl (⟨⟨_, rfl, rfl, rfl⟩, ⟨_, rfl, rfl, rfl⟩, trivial⟩) (⟨⟨_, _, rfl, rfl, rfl, rfl, (fun h => by cases h), rfl⟩, ⟨_, _, rfl, rfl, rfl, rfl, (fun h => by cases h), rfl⟩, trivial⟩) (⟨⟨1000, _, rfl, rfl, rfl, rfl, .inl rfl⟩, trivial⟩) (⟨(fun h => by cases h), (fun h => by cases h), trivial⟩) rfl) trivial rfl ?_
 refine .a (op_call (U := [(1024, some ⟨.aggI (dg (((fp + 3) / 2 ^ 3))), 3, true⟩)]) [(500, 1016)] [(1024, 1000)] (half_ev ((fp + 3)) 3 (by first | exact Nat.le_trans dl_fp (by decide) | exact hd3) (by decide)) Tryz.func89 (by kernel_rfl) rfl rfl rfl (⟨⟨_, rfl, rfl, rfl⟩, ⟨_, rfl, rfl, rfl⟩, trivial⟩) (⟨⟨_, _, rfl, rfl, rfl, rfl, (fun h => by cases h), rfl⟩, trivial⟩) (⟨⟨1000, _, rfl, rfl, rfl, rfl, .inl rfl⟩, trivial⟩) (⟨(fun h => by cases h), trivial⟩) rfl) trivial rfl ?_
 refine .a (op_call (U := [(1032, some ⟨.aggI (dg (r)), 3, true⟩)]) [(500, 500), (501, 1024)] [(1032, 1000)] (pow3_ev x r hx hr) Tryz.func88 (by kernel_rfl) rfl rfl rfl (⟨⟨_, rfl, rfl, rfl⟩, ⟨_, rfl, rfl, rfl⟩, trivial⟩) (⟨⟨_, _, rfl, rfl, rfl, rfl, (fun h => by cases h), rfl⟩, ⟨_, _, rfl, rfl, rfl, rfl, (fun h => by cases h), rfl⟩, trivial⟩) (⟨⟨1000, _, rfl, rfl, rfl, rfl, .inl rfl⟩, trivial⟩) (⟨(fun h => by cases h), (fun h => by cases h), trivial⟩) rfl) trivial rfl ?_
 refine .q (op_assign rfl) trivial rfl ?_
 refine .nil ?_
 show Ev _ _ _ _ _
 refine .seq ?_
 refine .seq ?_
 refine .region ?_
 refine .q (op_move rfl) trivial rfl ?_
 refine .q (op_move rfl) trivial rfl ?_
 refine .a (op_call (U := [(1040, some ⟨.aggI (dg ((r * r % fp))), 3, true⟩)]) [(500, 1032)] [(1040, 1000)] (mulsq05 (r) (by first | assumption | exact Nat.mod_lt _ fp_pos' | exact fmod_lt _ | exact ofV_lt _ | exact fp_pos' | exact pw_lt _ _ _ | decide)) Tryz.func87 (by kernel_rfl) rfl rfl rfl (⟨⟨_, rfl, rfl, rfl⟩, ⟨_, rfl, rfl, rfl⟩, trivial⟩) (⟨⟨_, _, rfl, rfl, rfl, rfl, (fun h => by cases h), rfl⟩, trivial⟩) (⟨⟨1000, _, rfl, rfl, rfl, rfl, .inl rfl⟩, trivial⟩) (⟨(fun h => by cases h), trivial⟩) rfl) trivial rfl ?_
 refine .q (op_move rfl) trivial rfl ?_
 refine .q (op_call (U := []) [(500, 1040), (501, 500)] [] (cmp_ev ((r * r % fp)) (x) (by have := dl_of_fp (a := (r * r % fp)) (by first | assumption | exact Nat.mod_lt _ fp_pos' | exact fmod_lt _ | exact ofV_lt _ | exact fp_pos' | exact pw_lt _ _ _ | decide); omega) (by have := dl_of_fp (a := x) (by first | assumption | exact Nat.mod_lt _ fp_pos' | exact fmod_lt _ | exact ofV_lt _ | exact fp_pos' | exact pw_lt _ _ _ | decide); omega)) Tryz.func82 (by kernel_rfl) rfl rfl rfl (⟨⟨_, rfl, rfl, rfl⟩, ⟨_, rfl, rfl, rfl⟩, trivial⟩) (⟨⟨_, _, rfl, rfl, rfl, rfl, (fun h => by cases h), rfl⟩, ⟨_, _, rfl, rfl, rfl, rfl, (fun h => by cases h), rfl⟩, trivial⟩) (trivial) (⟨(fun h => by cases h), (fun h => by cases h), trivial⟩) rfl) trivial rfl ?_
 refine .q (op_cmpI rfl rfl rfl) trivial rfl ?_
 refine .nil ?_
 show Ev _ _ _ _ _
 refine .cond_true rfl (by simp [cmp_zero, h1]) ?_
 refine .region ?_
 refine .q (op_move rfl) trivial rfl ?_
 refine .a (op_call (U := [(1048, some ⟨.aggI (dg (iV)), 3, true⟩)]) [] [(1048, 1000)] (minus1R_ev) Tryz.func90 (by kernel_rfl) rfl rfl rfl (trivial) (trivial) (⟨⟨1000, _, rfl, rfl, rfl, rfl, .inl rfl⟩, trivial⟩) (trivial) rfl) trivial rfl ?_
 refine .a (op_call (U := [(1056, some ⟨.aggI (dg ((r * iV % fp))), 3, true⟩)]) [(500, 1032), (501, 1048)] [(1056, 1000)] (mul05 (r) (iV) (by first | assumption | exact Nat.mod_lt _ fp_pos' | exact fmod_lt _ | exact ofV_lt _ | exact fp_pos' | exact pw_lt _ _ _ | decide) (by first | assumption | exact Nat.mod_lt _ fp_pos' | exact fmod_lt _ | exact ofV_lt _ | exact fp_pos' | exact pw_lt _ _ _ | decide)) Tryz.func87 (by kernel_rfl) rfl rfl rfl (⟨⟨_, rfl, rfl, rfl⟩, ⟨_, rfl, rfl, rfl⟩, trivial⟩) (⟨⟨_, _, rfl, rfl, rfl, rfl, (fun h => by cases h), rfl⟩, ⟨_, _, rfl, rfl, rfl, rfl, (fun h => by cases h), rfl⟩, trivial⟩) (⟨⟨1000, _, rfl, rfl, rfl, rfl, .inl rfl⟩, trivial⟩) (⟨(fun h => by cases h), (fun h => by cases h), trivial⟩) rfl) trivial rfl ?_
 refine .q (op_assign rfl) trivial rfl ?_
 refine .nil ?_
 show Ev _ _ _ _ _
 refine .seq ?_
 refine .seq ?_
 refine .region ?_
 refine .q (op_move rfl) trivial rfl ?_
 refine .q (op_move rfl) trivial rfl ?_
 refine .a (op_call (U := [(1064, some ⟨.aggI (dg (((r * iV % fp) * (r * iV % fp) % fp))), 3, true⟩)]) [(500, 1056)] [(1064, 1000)] (mulsq05 ((r * iV % fp)) (by first | assumption | exact Nat.mod_lt _ fp_pos' | exact fmod_lt _ | exact ofV_lt _ | exact fp_pos' | exact pw_lt _ _ _ | decide)) Tryz.func87 (by kernel_rfl) rfl rfl rfl (⟨⟨_, rfl, rfl, rfl⟩, ⟨_, rfl, rfl, rfl⟩, trivial⟩) (⟨⟨_, _, rfl, rfl, rfl, rfl, (fun h => by cases h), rfl⟩, trivial⟩) (⟨⟨1000, _, rfl, rfl, rfl, rfl, .inl rfl⟩, trivial⟩) (⟨(fun h => by cases h), trivial⟩) rfl) trivial rfl ?_
 refine .q (op_move rfl) trivial rfl ?_
 refine .q (op_call (U := []) [(500, 1064), (501, 500)] [] (cmp_ev (((r * iV % fp) * (r * iV % fp) % fp)) (x) (by have := dl_of_fp (a := ((r * iV % fp) * (r * iV % fp) % fp)) (by first | assumption | exact Nat.mod_lt _ fp_pos' | exact fmod_lt _ | exact ofV_lt _ | exact fp_pos' | exact pw_lt _ _ _ | decide); omega) (by have := dl_of_fp (a := x) (by first | assumption | exact Nat.mod_lt _ fp_pos' | exact fmod_lt _ | exact ofV_lt _ | exact fp_pos' | exact pw_lt _ _ _ | decide); omega)) Tryz.func82 (by kernel_rfl) rfl rfl rfl (⟨⟨_, rfl, rfl, rfl⟩, ⟨_, rfl, rfl, rfl⟩, trivial⟩) (⟨⟨_, _, rfl, rfl, rfl, rfl, (fun h => by cases h), rfl⟩, ⟨_, _, rfl, rfl, rfl, rfl, (fun h => by cases h), rfl⟩, trivial⟩) (trivial) (⟨(fun h => by cases h), (fun h => by cases h), trivial⟩) rfl) trivial rfl ?_
 refine .q (op_cmpI rfl rfl rfl) trivial rfl ?_
 refine .nil ?_
 show Ev _ _ _ _ _
 refine .cond_false rfl (by have h2b := h2; simp at h2b; simp [cmp_zero, h2b]) ?_
 refine .skip ?_
 show Ev _ _ _ _ _
 refine .seq ?_
 refine .seq ?_
 refine .region ?_
 refine .q (op_move rfl) trivial rfl ?_
 refine .q (op_call (U := []) [(500, 1056)] [] (odd05 ((r * iV % fp)) (by have := dl_of_fp (a := (r * iV % fp)) (by first | assumption | exact Nat.mod_lt _ fp_pos' | exact fmod_lt _ | exact ofV_lt _ | exact fp_pos' | exact pw_lt _ _ _ | decide); omega)) Tryz.func48 (by kernel_rfl) rfl rfl rfl (⟨⟨_, rfl, rfl, rfl⟩, trivial⟩) (⟨⟨_, _, rfl, rfl, rfl, rfl, (fun h => by cases h), rfl⟩, trivial⟩) (trivial) (⟨(fun h => by cases h), trivial⟩) rfl) trivial rfl ?_
 refine .nil ?_
 show Ev _ _ _ _ _
 refine .cond_true rfl (by simp [h3]) ?_
 refine .region ?_
 refine .q (op_move rfl) trivial rfl ?_
 refine .a (op_call (U := [(1072, some ⟨.aggI (dg (((fp - (r * iV % fp)) % fp))), 3, true⟩)]) [(501, 1056)] [(1072, 1000)] (subn05 ((r * iV % fp)) (by first | assumption | exact Nat.mod_lt _ fp_pos' | exact fmod_lt _ | exact ofV_lt _ | exact fp_pos' | exact pw_lt _ _ _ | decide)) Tryz.func38 (by kernel_rfl) rfl rfl rfl (⟨⟨_, rfl, rfl, rfl⟩, ⟨_, rfl, rfl, rfl⟩, trivial⟩) (⟨⟨_, _, rfl, rfl, rfl, rfl, (fun h => by cases h), rfl⟩, trivial⟩) (⟨⟨1000, _, rfl, rfl, rfl, rfl, .inl rfl⟩, trivial⟩) (⟨(fun h => by cases h), trivial⟩) rfl) trivial rfl ?_
 refine .q (op_assign rfl) trivial rfl ?_
 refine .nil ?_
 show Ev _ _ _ _ _
 refine .seq ?_
 refine .region ?_
 refine .q (op_move rfl) trivial rfl ?_
 refine .q (op_assign rfl) trivial rfl ?_
 refine .q (op_assign rfl) trivial rfl ?_
 refine .nil ?_
 show Ev _ _ _ _ _
 refine Ev.weak (st2 := ⟨[(2, .sl 1000 0 (dl (((fp - (r * iV % fp)) % fp))) 1), (3, .bool true)], [(1000, some ⟨.aggI (dg (((fp - (r * iV % fp)) % fp))), 3, true⟩)], 1008⟩) (StLe.mk [(1000, 1072)] rfl rfl ⟨⟨_, rfl, by (show AV.sl 1000 0 (dl (((fp - (r * iV % fp)) % fp))) 1 = _; rfl), rfl⟩, ⟨_, rfl, by rfl, rfl⟩, trivial⟩ ⟨⟨_, _, rfl, rfl, by (show AV.aggI (dg (((fp - (r * iV % fp)) % fp))) = _; rfl), rfl, id, rfl⟩, trivial⟩) ?_
 refine .ret ?_
 show RetOk _ _ _ _ _ _ _
 exact ret2v rfl (.inl rfl) rfl rfl rfl rfl ⟨rfl, trivial⟩
set_option maxHeartbeats 2000000 in
set_option maxRecDepth 100000 in
theorem rootR_C (x r : Nat) (hx : x < fp) (hr : r0N x = r) (hlt : r < fp) (h1 : r * r % fp ≠ x) (h2 : (r * iV % fp) * (r * iV % fp) % fp ≠ x) : Meets Tryz.prog 43 [.sl 500 0 (dl x) 1] [(500, some ⟨.aggI (dg x), 3, false⟩)] (.tup [.nilsl, .bool false]) [] := by
 refine meets_of_ev (nt := 31) Tryz.func43 rfl rfl (Nat.le_of_ble_eq_true rfl) ?_
 refine .seq ?_
 refine .region ?_
 refine .q (op_assign rfl) trivial rfl ?_
 refine .q (op_assign rfl) trivial rfl ?_
 refine .nil ?_
 show Ev _ _ _ _ _
 refine .seq ?_
 refine .region ?_
 refine .q (op_move rfl) trivial rfl ?_
 refine .a (op_call (U := [(1000, some ⟨.aggI (dg (fp)), 3, true⟩)]) [] [(1000, 1000)] (P_ev) Tryz.func85 (by kernel_rfl) rfl rfl rfl (trivial) (trivial) (⟨⟨1000, _, rfl, rfl, rfl, rfl, .inl rfl⟩, trivial⟩) (trivial) rfl) trivial rfl ?_
 refine .a (op_call (U := [(1008, some ⟨.aggI (dg (3)), 3, true⟩)]) [] [(1008, 1000)] (small_ev 3 (by omega)) Tryz.func42 (by kernel_rfl) rfl rfl rfl (⟨⟨_, rfl, rfl, rfl⟩, trivial⟩) (trivial) (⟨⟨1000, _, rfl, rfl, rfl, rfl, .inl rfl⟩, trivial⟩) (trivial) rfl) trivial rfl ?_
 refine .a (op_call (U := [(1016, some ⟨.aggI (dg ((fp + 3))), 3, true⟩)]) [(500, 1000), (501, 1008)] [(1016, 1000)] (add_ev (fp) (3) (by have := dl_fp; omega) (Nat.le_trans (dl_le (n := 1) (by decide)) (by decide))) Tryz.func72 (by kernel_rfl) rfl rfl rfl (⟨⟨_, rfl, rfl, rfl⟩, ⟨_, rfl, rfl, rfl⟩, trivial⟩) (⟨⟨_, _, rfl, rfl, rfl, rfl, (fun h => by cases h), rfl⟩, ⟨_, _, rfl, rfl, rfl, rfl, (fun h => by cases h), rfl⟩, trivial⟩) (⟨⟨1000, _, rfl, rfl, rfl, rfl, .inl rfl⟩, trivial⟩) (⟨(fun h => by cases h), (fun h => by cases h), trivial⟩) rfl) trivial rfl ?_
 refine .a (op_call (U := [(1024, some ⟨.aggI (dg (((fp + 3) / 2 ^ 3))), 3, true⟩)]) [(500, 1016)] [(1024, 1000)] (half_ev ((fp + 3)) 3 (by first | exact Nat.le_trans dl_fp (by decide) | exact hd3) (by decide)) Tryz.func89 (by kernel_rfl) rfl rfl rfl (⟨⟨_, rfl, rfl, rfl⟩, ⟨_, rfl, rfl, rfl⟩, trivial⟩) (⟨⟨_, _, rfl, rfl, rfl, rfl, (fun h => by cases h), rfl⟩, trivial⟩) (⟨⟨1000, _, rfl, rfl, rfl, rfl, .inl rfl⟩, trivial⟩) (⟨(fun h => by cases h), trivial⟩) rfl) trivial rfl ?_
 refine .a (op_call (U := [(1032, some ⟨.aggI (dg (r)), 3, true⟩)]) [(500, 500), (501, 1024)] [(1032, 1000)] (pow3_ev x r hx hr) Tryz.func88 (by kernel_rfl) rfl rfl rfl (⟨⟨_, rfl, rfl, rfl⟩, ⟨_, rfl, rfl, rfl⟩, trivial⟩) (⟨⟨_, _, rfl, rfl, rfl, rfl, (fun h => by cases h), rfl⟩, ⟨_, _, rfl, rfl, rfl, rfl, (fun h => by cases h), rfl⟩, trivial⟩) (⟨⟨1000, _, rfl, rfl, rfl, rfl, .inl rfl⟩, trivial⟩) (⟨(fun h => by cases h), (fun h => by cases h), trivial⟩) rfl) trivial rfl ?_
 refine .q (op_assign rfl) trivial rfl ?_
 refine .nil ?_
 show Ev _ _ _ _ _
 refine .seq ?_
 refine .seq ?_
 refine .region ?_
 refine .q (op_move rfl) trivial rfl ?_
 refine .q (op_move rfl) trivial rfl ?_
 refine .a (op_call (U := [(1040, some ⟨.aggI (dg ((r * r % fp))), 3, true⟩)]) [(500, 1032)] [(1040, 1000)] (mulsq05 (r) (by first | assumption | exact Nat.mod_lt _ fp_pos' | exact fmod_lt _ | exact ofV_lt _ | exact fp_pos' | exact pw_lt _ _ _ | decide)) Tryz.func87 (by kernel_rfl) rfl rfl rfl (⟨⟨_, rfl, rfl, rfl⟩, ⟨_, rfl, rfl, rfl⟩, trivial⟩) (⟨⟨_, _, rfl, rfl, rfl, rfl, (fun h => by cases h), rfl⟩, trivial⟩) (⟨⟨1000, _, rfl, rfl, rfl, rfl, .inl rfl⟩, trivial⟩) (⟨(fun h => by cases h), trivial⟩) rfl) trivial rfl ?_
 refine .q (op_move rfl) trivial rfl ?_
 refine .q (op_call (U := []) [(500, 1040), (501, 500)] [] (cmp_ev ((r * r % fp)) (x) (by have := dl_of_fp (a := (r * r % fp)) (by first | assumption | exact Nat.mod_lt _ fp_pos' | exact fmod_lt _ | exact ofV_lt _ | exact fp_pos' | exact pw_lt _ _ _ | decide); omega) (by have := dl_of_fp (a := x) (by first | assumption | exact Nat.mod_lt _ fp_pos' | exact fmod_lt _ | exact ofV_lt _ | exact fp_pos' | exact pw_lt _ _ _ | decide); omega)) Tryz.func82 (by kernel_rfl) rfl rfl rfl (⟨⟨_, rfl, rfl, rfl⟩, ⟨_, rfl, rfl, rfl⟩, trivial⟩) (⟨⟨_, _, rfl, rfl, rfl, rfl, (fun h => by cases h), rfl⟩, ⟨_, _, rfl, rfl, rfl, rfl, (fun h => by cases h), rfl⟩, trivial⟩) (trivial) (⟨(fun h => by cases h), (fun h => by cases h), trivial⟩) rfl) trivial rfl ?_
 refine .q (op_cmpI rfl rfl rfl) trivial rfl ?_
 refine .nil ?_
 show Ev _ _ _ _ _
 refine .cond_true rfl (by simp [cmp_zero, h1]) ?_
 refine .region ?_
 refine .q (op_move rfl) trivial rfl ?_
 refine .a (op_call (U := [(1048, some ⟨.aggI (dg (iV)), 3, true⟩)]) [] [(1048, 1000)] (minus1R_ev) Tryz.func90 (by kernel_rfl) rfl rfl rfl (trivial) (trivial) (⟨⟨1000, _, rfl, rfl, rfl, rfl, .inl rfl⟩, trivial⟩) (trivial) rfl) trivial rfl ?_
 refine .a (op_call (U := [(1056, some ⟨.aggI (dg ((r * iV % fp))), 3, true⟩)]) [(500, 1032), (501, 1048)] [(1056, 1000)] (mul05 (r) (iV) (by first | assumption | exact Nat.mod_lt _ fp_pos' | exact fmod_lt _ | exact ofV_lt _ | exact fp_pos' | exact pw_lt _ _ _ | decide) (by first | assumption | exact Nat.mod_lt _ fp_pos' | exact fmod_lt _ | exact ofV_lt _ | exact fp_pos' | exact pw_lt _ _ _ | decide)) Tryz.func87 (by kernel_rfl) rfl rfl rfl (⟨⟨_, rfl, rfl, rfl⟩, ⟨_, rfl, rfl, rfl⟩, trivial⟩) (⟨⟨_, _, rfl, rfl, rfl, rfl, (fun h => by cases h), rfl⟩, ⟨_, _, rfl, rfl, rfl, rfl, (fun h => by cases h), rfl⟩, trivial⟩) (⟨⟨1000, _, rfl, rfl, rfl, rfl, .inl rfl⟩, trivial⟩) (⟨(fun h => by cases h), (fun h => by cases h), trivial⟩) rfl) trivial rfl ?_
 refine .q (op_assign rfl) trivial rfl ?_
 refine .nil ?_
 show Ev _ _ _ _ _
 refine .seq ?_
 refine .seq ?_
 refine .region ?_
 refine .q (op_move rfl) trivial rfl ?_
 refine .q (op_move rfl) trivial rfl ?_
 refine .a (op_call (U := [(1064, some ⟨.aggI (dg (((r * iV % fp) * (r * iV % fp) % fp))), 3, true⟩)]) [(500, 1056)] [(1064, 1000)] (mulsq05 ((r * iV % fp)) (by first | assumption | exact Nat.mod_lt _ fp_pos' | exact fmod_lt _ | exact ofV_lt _ | exact fp_pos' | exact pw_lt _ _ _ | decide)) Tryz.func87 (by kernel_rfl) rfl rfl rfl (⟨⟨_, rfl, rfl, rfl⟩, ⟨_, rfl, rfl, rfl⟩, trivial⟩) (⟨⟨_, _, rfl, rfl, rfl, rfl, (fun h => by cases h), rfl⟩, trivial⟩) (⟨⟨1000, _, rfl, rfl, rfl, rfl, .inl rfl⟩, trivial⟩) (⟨(fun h => by cases h), trivial⟩) rfl) trivial rfl ?_
 refine .q (op_move rfl) trivial rfl ?_
 refine .q (op_call (U := []) [(500, 1064), (501, 500)] [] (cmp_ev (((r * iV % fp) * (r * iV % fp) % fp)) (x) (by have := dl_of_fp (a := ((r * iV % fp) * (r * iV % fp) % fp)) (by first | assumption | exact Nat.mod_lt _ fp_pos' | exact fmod_lt _ | exact ofV_lt _ | exact fp_pos' | exact pw_lt _ _ _ | decide); omega) (by have := dl_of_fp (a := x) (by first | assumption | exact Nat.mod_lt _ fp_pos' | exact fmod_lt _ | exact ofV_lt _ | exact fp_pos' | exact pw_lt _ _ _ | decide); omega)) Tryz.func82 (by kernel_rfl) rfl rfl rfl (⟨⟨_, rfl, rfl, rfl⟩, ⟨_, rfl, rfl, rfl⟩, trivial⟩) (⟨⟨_, _, rfl, rfl, rfl, rfl, (fun h => by cases h), rfl⟩, ⟨_, _, rfl, rfl, rfl, rfl, (fun h => by cases h), rfl⟩, trivial⟩) (trivial) (⟨(fun h => by cases h), (fun h => by cases h), trivial⟩) rfl) trivial rfl ?_
 refine .q (op_cmpI rfl rfl rfl) trivial rfl ?_
 refine .nil ?_
 show Ev _ _ _ _ _
 refine .cond_true rfl (by have h2b := h2; simp at h2b; simp [cmp_zero, h2b]) ?_
 refine .seq ?_
 refine .region ?_
 refine .q (op_assign rfl) trivial rfl ?_
 refine .q (op_assign rfl) trivial rfl ?_
 refine .nil ?_
 show Ev _ _ _ _ _
 refine .ret ?_
 show RetOk _ _ _ _ _ _ _
 exact ret2v rfl (.inl rfl) rfl rfl rfl rfl trivial
end Go.Proofs.YtcnjekoidgefpaaGreatDoor
