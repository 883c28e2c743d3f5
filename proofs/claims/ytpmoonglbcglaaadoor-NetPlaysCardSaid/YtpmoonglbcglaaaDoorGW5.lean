/-
  Texts of this claim.
-/
import Derived.Test.YtpmoonglbcglaaaDoorGWX
import Derived.Test.YtpmoonglbcglaaaDoorGW3
import Derived.Test.YtpmoonglbcglaaaDoorGW4
namespace Go.Proofs.YtpmoonglbcglaaaDoor
open Go.RowKit
set_option maxRecDepth 100000 in
theorem way_neg (k : Int) (hk : k < 0) (eo : Nat → Nat × Nat) : Meets Tryd.prog 17 [.ptr 500 0, .i64 k] [(0, some ⟨.agg [.err 79 (1) (offE eo (1))], errT, false⟩)] (.tup [.val (.pointer none), .err 79 (1) (offE eo (1))]) [] := by
 refine meets_of_ev (nt := 23) Tryd.func17 rfl rfl (Nat.le_of_ble_eq_true rfl) ?_
 refine .seq ?_
 refine .region ?_
 refine .q (op_assign rfl) trivial rfl ?_
 refine .q (op_assign rfl) trivial rfl ?_
 refine .nil ?_
 show Ev _ _ _ _ _
 refine .seq ?_
 refine .seq ?_
 refine .region ?_
 refine .q (op_move rfl) trivial rfl ?_
 refine .q (op_cmpI rfl rfl rfl) trivial rfl ?_
 refine .q (op_move rfl) trivial rfl ?_
 refine .know (b' := true) (decide_eq_true (by omega)) ?_
 refine .no ⟨_, rfl, rfl⟩ rfl ?_
 refine .no ⟨_, rfl, rfl⟩ rfl ?_
 refine .q (op_pick_true rfl rfl rfl) trivial rfl ?_
 refine .nil ?_
 show Ev _ _ _ _ _
 refine .cond_true rfl rfl ?_
 refine .seq ?_
 refine .drawn [[], [], [0, 1]] [0] [] (by kernel_rfl) (by kernel_rfl) rfl ?_
 show DK _ [0, 1, 2] _ _ _
 refine .q rfl (op_load Tryd.underlying31 rfl rfl rfl rfl (by first | omega | (simp only [AV.len]; omega) | (simp only [AV.len, List.length_set]; omega) | assumption | (simp [AV.len]; done))) trivial ?_
 refine .q rfl (op_assign rfl) trivial ?_
 refine .q rfl (op_assign rfl) trivial ?_
 refine .nil ?_
 show Ev _ _ _ _ _
 refine .ret ?_
 show RetOk _ _ _ _ _ _ _
 exact ret2v rfl (.inl rfl) rfl rfl rfl rfl trivial
set_option maxRecDepth 100000 in
theorem way_far (k : Int) (h0 : ¬ k < 0) (hk : 2 ≤ k) (eo : Nat → Nat × Nat) : Meets Tryd.prog 17 [.ptr 500 0, .i64 k] [(0, some ⟨.agg [.err 79 (1) (offE eo (1))], errT, false⟩)] (.tup [.val (.pointer none), .err 79 (1) (offE eo (1))]) [] := by
 refine meets_of_ev (nt := 23) Tryd.func17 rfl rfl (Nat.le_of_ble_eq_true rfl) ?_
 refine .seq ?_
 refine .region ?_
 refine .q (op_assign rfl) trivial rfl ?_
 refine .q (op_assign rfl) trivial rfl ?_
 refine .nil ?_
 show Ev _ _ _ _ _
 refine .seq ?_
 refine .seq ?_
 refine .region ?_
 refine .q (op_move rfl) trivial rfl ?_
 refine .q (op_cmpI rfl rfl rfl) trivial rfl ?_
 refine .q (op_move rfl) trivial rfl ?_
 refine .know (b' := false) (decide_eq_false (by omega)) ?_
 refine .q (op_move rfl) ⟨_, rfl, rfl⟩ rfl ?_
 refine .q (op_cmpI rfl rfl rfl) ⟨_, rfl, rfl⟩ rfl ?_
 refine .q (op_pick_false rfl rfl rfl) trivial rfl ?_
 refine .nil ?_
 show Ev _ _ _ _ _
 refine .cond_true rfl (decide_eq_true (by omega)) ?_
 refine .seq ?_
 refine .drawn [[], [], [0, 1]] [0] [] (by kernel_rfl) (by kernel_rfl) rfl ?_
 show DK _ [0, 1, 2] _ _ _
 refine .q rfl (op_load Tryd.underlying31 rfl rfl rfl rfl (by first | omega | (simp only [AV.len]; omega) | (simp only [AV.len, List.length_set]; omega) | assumption | (simp [AV.len]; done))) trivial ?_
 refine .q rfl (op_assign rfl) trivial ?_
 refine .q rfl (op_assign rfl) trivial ?_
 refine .nil ?_
 show Ev _ _ _ _ _
 refine .ret ?_
 show RetOk _ _ _ _ _ _ _
 exact ret2v rfl (.inl rfl) rfl rfl rfl rfl trivial
theorem way_arg (k : Int) (hk : k < 0 ∨ 2 ≤ k) (eo : Nat → Nat × Nat) : Meets Tryd.prog 17 [.ptr 500 0, .i64 k] [(0, some ⟨.agg [.err 79 (1) (offE eo (1))], errT, false⟩)] (.tup [.val (.pointer none), .err 79 (1) (offE eo (1))]) [] := by
 by_cases h : k < 0
 ·exact way_neg k h eo
 ·exact way_far k h (by omega) eo
set_option maxRecDepth 100000 in
theorem way_gone (most : Int) (k : Int) (h0 : 0 ≤ k) (h1 : k < 2) (eo : Nat → Nat × Nat) : Meets Tryd.prog 17 [.ptr 500 0, .i64 k] [(500, some ⟨.agg [.i64 most, .bool true, .nilsl, .i64 0, .val (.int .i8 0), .nilsl, .i64 0, .val (.int .i8 0)], 51, false⟩), (17, some ⟨.agg [.err 79 (18) (offE eo (18))], errT, false⟩)] (.tup [.val (.pointer none), .err 79 (18) (offE eo (18))]) [(500, some ⟨.agg [.i64 most, .bool true, .nilsl, .i64 0, .val (.int .i8 0), .nilsl, .i64 0, .val (.int .i8 0)], 51, false⟩)] := by
 refine meets_of_ev (nt := 23) Tryd.func17 rfl rfl (Nat.le_of_ble_eq_true rfl) ?_
 refine .seq ?_
 refine .region ?_
 refine .q (op_assign rfl) trivial rfl ?_
 refine .q (op_assign rfl) trivial rfl ?_
 refine .nil ?_
 show Ev _ _ _ _ _
 refine .seq ?_
 refine .seq ?_
 refine .region ?_
 refine .q (op_move rfl) trivial rfl ?_
 refine .q (op_cmpI rfl rfl rfl) trivial rfl ?_
 refine .q (op_move rfl) trivial rfl ?_
 refine .know (b' := false) (decide_eq_false (by omega)) ?_
 refine .q (op_move rfl) ⟨_, rfl, rfl⟩ rfl ?_
 refine .q (op_cmpI rfl rfl rfl) ⟨_, rfl, rfl⟩ rfl ?_
 refine .q (op_pick_false rfl rfl rfl) trivial rfl ?_
 refine .nil ?_
 show Ev _ _ _ _ _
 refine .cond_false rfl (decide_eq_false (by omega)) ?_
 refine .skip ?_
 show Ev _ _ _ _ _
 refine .seq ?_
 refine .seq ?_
 refine .region ?_
 refine .q (op_move rfl) trivial rfl ?_
 refine .q (op_nilCheck rfl) trivial rfl ?_
 refine .q (op_fieldAddr (m := 0) Tryd.underlying51 rfl (by kernel_rfl) rfl) trivial rfl ?_
 refine .as (.ptr 500 1) rfl ?_
 refine .q (op_load Tryd.underlying4 rfl rfl rfl rfl (by show 1 < 8; decide)) trivial rfl ?_
 refine .nil ?_
 show Ev _ _ _ _ _
 refine .cond_true rfl (rfl) ?_
 refine .seq ?_
 refine .drawn [[], [], [0, 1]] [0] [] (by kernel_rfl) (by kernel_rfl) rfl ?_
 show DK _ [0, 1, 2] _ _ _
 refine .q rfl (op_load Tryd.underlying31 rfl rfl rfl rfl (by first | omega | (simp only [AV.len]; omega) | (simp only [AV.len, List.length_set]; omega) | assumption | (simp [AV.len]; done))) trivial ?_
 refine .q rfl (op_assign rfl) trivial ?_
 refine .q rfl (op_assign rfl) trivial ?_
 refine .nil ?_
 show Ev _ _ _ _ _
 refine .ret ?_
 show RetOk _ _ _ _ _ _ _
 exact ret2v rfl (.inl rfl) rfl rfl rfl rfl ⟨rfl, trivial⟩
set_option maxRecDepth 100000 in
theorem put_arg (k : Int) (hk : k < 0 ∨ 2 ≤ k) (s : List UInt8) (eo : Nat → Nat × Nat) : Meets Tryd.prog 9 [.ptr 500 0, .i64 k, .str s] [(0, some ⟨.agg [.err 79 (1) (offE eo (1))], errT, false⟩)] (.tup [.i64 0, .err 79 (1) (offE eo (1))]) [] := by
 refine meets_of_ev (nt := 35) Tryd.func9 rfl rfl (Nat.le_of_ble_eq_true rfl) ?_
 refine .seq ?_
 refine .region ?_
 refine .q (op_assign rfl) trivial rfl ?_
 refine .q (op_assign rfl) trivial rfl ?_
 refine .nil ?_
 show Ev _ _ _ _ _
 refine .seq ?_
 refine .region ?_
 refine .q (op_move rfl) trivial rfl ?_
 refine .q (op_move rfl) trivial rfl ?_
 refine .q (op_call (U := []) [(500, 500)] [] (way_arg k hk eo) Tryd.func17 (by kernel_rfl) rfl rfl rfl (⟨⟨_, rfl, rfl, rfl⟩, ⟨_, rfl, rfl, rfl⟩, trivial⟩) (⟨⟨_, _, rfl, rfl, rfl, rfl, (fun h => by cases h), rfl⟩, trivial⟩) (trivial) (⟨(fun h => by cases h), trivial⟩) rfl) trivial rfl ?_
 refine .q (op_move rfl) trivial rfl ?_
 refine .q (op_extract rfl rfl) trivial rfl ?_
 refine .q (op_extract rfl rfl) trivial rfl ?_
 refine .q (op_assign rfl) trivial rfl ?_
 refine .q (op_assign rfl) trivial rfl ?_
 refine .nil ?_
 show Ev _ _ _ _ _
 refine .seq ?_
 refine .seq ?_
 refine .region ?_
 refine .q (op_move rfl) trivial rfl ?_
 refine .q (op_eqErrNil (e := 1) Tryd.underlying31 rfl rfl) trivial rfl ?_
 refine .nil ?_
 show Ev _ _ _ _ _
 refine .cond_true rfl (rfl) ?_
 refine .seq ?_
 refine .region ?_
 refine .q (op_move rfl) trivial rfl ?_
 refine .q (op_assign rfl) trivial rfl ?_
 refine .q (op_assign rfl) trivial rfl ?_
 refine .nil ?_
 show Ev _ _ _ _ _
 refine .ret ?_
 show RetOk _ _ _ _ _ _ _
 exact ret2v rfl (.inl rfl) rfl rfl rfl rfl trivial
set_option maxRecDepth 100000 in
theorem put_gone (most : Int) (k : Int) (h0 : 0 ≤ k) (h1 : k < 2) (s : List UInt8) (eo : Nat → Nat × Nat) : Meets Tryd.prog 9 [.ptr 500 0, .i64 k, .str s] [(500, some ⟨.agg [.i64 most, .bool true, .nilsl, .i64 0, .val (.int .i8 0), .nilsl, .i64 0, .val (.int .i8 0)], 51, false⟩), (17, some ⟨.agg [.err 79 (18) (offE eo (18))], errT, false⟩)] (.tup [.i64 0, .err 79 (18) (offE eo (18))]) [(500, some ⟨.agg [.i64 most, .bool true, .nilsl, .i64 0, .val (.int .i8 0), .nilsl, .i64 0, .val (.int .i8 0)], 51, false⟩)] := by
 refine meets_of_ev (nt := 35) Tryd.func9 rfl rfl (Nat.le_of_ble_eq_true rfl) ?_
 refine .seq ?_
 refine .region ?_
 refine .q (op_assign rfl) trivial rfl ?_
 refine .q (op_assign rfl) trivial rfl ?_
 refine .nil ?_
 show Ev _ _ _ _ _
 refine .seq ?_
 refine .region ?_
 refine .q (op_move rfl) trivial rfl ?_
 refine .q (op_move rfl) trivial rfl ?_
 refine .q (op_call (U := []) [(500, 500)] [] (way_gone most k h0 h1 eo) Tryd.func17 (by kernel_rfl) rfl rfl rfl (⟨⟨_, rfl, rfl, rfl⟩, ⟨_, rfl, rfl, rfl⟩, trivial⟩) (⟨⟨_, _, rfl, rfl, rfl, rfl, (fun h => by cases h), rfl⟩, ⟨_, _, rfl, rfl, rfl, rfl, (fun h => by cases h), rfl⟩, trivial⟩) (trivial) (⟨(fun h => by cases h), (fun h => by cases h), trivial⟩) rfl) trivial rfl ?_
 refine .q (op_move rfl) trivial rfl ?_
 refine .q (op_extract rfl rfl) trivial rfl ?_
 refine .q (op_extract rfl rfl) trivial rfl ?_
 refine .q (op_assign rfl) trivial rfl ?_
 refine .q (op_assign rfl) trivial rfl ?_
 refine .nil ?_
 show Ev _ _ _ _ _
 refine .seq ?_
 refine .seq ?_
 refine .region ?_
 refine .q (op_move rfl) trivial rfl ?_
 refine .q (op_eqErrNil (e := 18) Tryd.underlying31 rfl rfl) trivial rfl ?_
 refine .nil ?_
 show Ev _ _ _ _ _
 refine .cond_true rfl (rfl) ?_
 refine .seq ?_
 refine .region ?_
 refine .q (op_move rfl) trivial rfl ?_
 refine .q (op_assign rfl) trivial rfl ?_
 refine .q (op_assign rfl) trivial rfl ?_
 refine .nil ?_
 show Ev _ _ _ _ _
 refine .ret ?_
 show RetOk _ _ _ _ _ _ _
 exact ret2v rfl (.inl rfl) rfl rfl rfl rfl ⟨rfl, trivial⟩
set_option maxRecDepth 100000 in
theorem take_arg (k : Int) (hk : k < 0 ∨ 2 ≤ k) (n : Int) (eo : Nat → Nat × Nat) : Meets Tryd.prog 11 [.ptr 500 0, .i64 k, .i64 n] [(0, some ⟨.agg [.err 79 (1) (offE eo (1))], errT, false⟩)] (.tup [.str [], .err 79 (1) (offE eo (1))]) [] := by
 refine meets_of_ev (nt := 24) Tryd.func11 rfl rfl (Nat.le_of_ble_eq_true rfl) ?_
 refine .seq ?_
 refine .region ?_
 refine .q (op_assign rfl) trivial rfl ?_
 refine .q (op_assign rfl) trivial rfl ?_
 refine .nil ?_
 show Ev _ _ _ _ _
 refine .seq ?_
 refine .region ?_
 refine .q (op_move rfl) trivial rfl ?_
 refine .q (op_move rfl) trivial rfl ?_
 refine .q (op_call (U := []) [(500, 500)] [] (way_arg k hk eo) Tryd.func17 (by kernel_rfl) rfl rfl rfl (⟨⟨_, rfl, rfl, rfl⟩, ⟨_, rfl, rfl, rfl⟩, trivial⟩) (⟨⟨_, _, rfl, rfl, rfl, rfl, (fun h => by cases h), rfl⟩, trivial⟩) (trivial) (⟨(fun h => by cases h), trivial⟩) rfl) trivial rfl ?_
 refine .q (op_move rfl) trivial rfl ?_
 refine .q (op_extract rfl rfl) trivial rfl ?_
 refine .q (op_extract rfl rfl) trivial rfl ?_
 refine .q (op_assign rfl) trivial rfl ?_
 refine .q (op_assign rfl) trivial rfl ?_
 refine .nil ?_
 show Ev _ _ _ _ _
 refine .seq ?_
 refine .seq ?_
 refine .region ?_
 refine .q (op_move rfl) trivial rfl ?_
 refine .q (op_eqErrNil (e := 1) Tryd.underlying31 rfl rfl) trivial rfl ?_
 refine .nil ?_
 show Ev _ _ _ _ _
 refine .cond_true rfl (rfl) ?_
 refine .seq ?_
 refine .region ?_
 refine .q (op_move rfl) trivial rfl ?_
 refine .q (op_assign rfl) trivial rfl ?_
 refine .q (op_assign rfl) trivial rfl ?_
 refine .nil ?_
 show Ev _ _ _ _ _
 refine .ret ?_
 show RetOk _ _ _ _ _ _ _
 exact ret2v rfl (.inl rfl) rfl rfl rfl rfl trivial
set_option maxRecDepth 100000 in
theorem take_gone (most : Int) (k : Int) (h0 : 0 ≤ k) (h1 : k < 2) (n : Int) (eo : Nat → Nat × Nat) : Meets Tryd.prog 11 [.ptr 500 0, .i64 k, .i64 n] [(500, some ⟨.agg [.i64 most, .bool true, .nilsl, .i64 0, .val (.int .i8 0), .nilsl, .i64 0, .val (.int .i8 0)], 51, false⟩), (17, some ⟨.agg [.err 79 (18) (offE eo (18))], errT, false⟩)] (.tup [.str [], .err 79 (18) (offE eo (18))]) [(500, some ⟨.agg [.i64 most, .bool true, .nilsl, .i64 0, .val (.int .i8 0), .nilsl, .i64 0, .val (.int .i8 0)], 51, false⟩)] := by
 refine meets_of_ev (nt := 24) Tryd.func11 rfl rfl (Nat.le_of_ble_eq_true rfl) ?_
 refine .seq ?_
 refine .region ?_
 refine .q (op_assign rfl) trivial rfl ?_
 refine .q (op_assign rfl) trivial rfl ?_
 refine .nil ?_
 show Ev _ _ _ _ _
 refine .seq ?_
 refine .region ?_
 refine .q (op_move rfl) trivial rfl ?_
 refine .q (op_move rfl) trivial rfl ?_
 refine .q (op_call (U := []) [(500, 500)] [] (way_gone most k h0 h1 eo) Tryd.func17 (by kernel_rfl) rfl rfl rfl (⟨⟨_, rfl, rfl, rfl⟩, ⟨_, rfl, rfl, rfl⟩, trivial⟩) (⟨⟨_, _, rfl, rfl, rfl, rfl, (fun h => by cases h), rfl⟩, ⟨_, _, rfl, rfl, rfl, rfl, (fun h => by cases h), rfl⟩, trivial⟩) (trivial) (⟨(fun h => by cases h), (fun h => by cases h), trivial⟩) rfl) trivial rfl ?_
 refine .q (op_move rfl) trivial rfl ?_
 refine .q (op_extract rfl rfl) trivial rfl ?_
 refine .q (op_extract rfl rfl) trivial rfl ?_
 refine .q (op_assign rfl) trivial rfl ?_
 refine .q (op_assign rfl) trivial rfl ?_
 refine .nil ?_
 show Ev _ _ _ _ _
 refine .seq ?_
 refine .seq ?_
 refine .region ?_
 refine .q (op_move rfl) trivial rfl ?_
 refine .q (op_eqErrNil (e := 18) Tryd.underlying31 rfl rfl) trivial rfl ?_
 refine .nil ?_
 show Ev _ _ _ _ _
 refine .cond_true rfl (rfl) ?_
 refine .seq ?_
 refine .region ?_
 refine .q (op_move rfl) trivial rfl ?_
 refine .q (op_assign rfl) trivial rfl ?_
 refine .q (op_assign rfl) trivial rfl ?_
 refine .nil ?_
 show Ev _ _ _ _ _
 refine .ret ?_
 show RetOk _ _ _ _ _ _ _
 exact ret2v rfl (.inl rfl) rfl rfl rfl rfl ⟨rfl, trivial⟩
set_option maxRecDepth 100000 in
theorem bend_arg (k : Int) (hk : k < 0 ∨ 2 ≤ k) (n : Int) (y : UInt8) (eo : Nat → Nat × Nat) : Meets Tryd.prog 12 [.ptr 500 0, .i64 k, .i64 n, .u8 y] [(0, some ⟨.agg [.err 79 (1) (offE eo (1))], errT, false⟩)] (.err 79 (1) (offE eo (1))) [] := by
 refine meets_of_ev (nt := 37) Tryd.func12 rfl rfl (Nat.le_of_ble_eq_true rfl) ?_
 refine .seq ?_
 refine .region ?_
 refine .q (op_assign rfl) trivial rfl ?_
 refine .nil ?_
 show Ev _ _ _ _ _
 refine .seq ?_
 refine .region ?_
 refine .q (op_move rfl) trivial rfl ?_
 refine .q (op_move rfl) trivial rfl ?_
 refine .q (op_call (U := []) [(500, 500)] [] (way_arg k hk eo) Tryd.func17 (by kernel_rfl) rfl rfl rfl (⟨⟨_, rfl, rfl, rfl⟩, ⟨_, rfl, rfl, rfl⟩, trivial⟩) (⟨⟨_, _, rfl, rfl, rfl, rfl, (fun h => by cases h), rfl⟩, trivial⟩) (trivial) (⟨(fun h => by cases h), trivial⟩) rfl) trivial rfl ?_
 refine .q (op_move rfl) trivial rfl ?_
 refine .q (op_extract rfl rfl) trivial rfl ?_
 refine .q (op_extract rfl rfl) trivial rfl ?_
 refine .q (op_assign rfl) trivial rfl ?_
 refine .q (op_assign rfl) trivial rfl ?_
 refine .nil ?_
 show Ev _ _ _ _ _
 refine .seq ?_
 refine .seq ?_
 refine .region ?_
 refine .q (op_move rfl) trivial rfl ?_
 refine .q (op_eqErrNil (e := 1) Tryd.underlying31 rfl rfl) trivial rfl ?_
 refine .nil ?_
 show Ev _ _ _ _ _
 refine .cond_true rfl (rfl) ?_
 refine .seq ?_
 refine .region ?_
 refine .q (op_move rfl) trivial rfl ?_
 refine .q (op_assign rfl) trivial rfl ?_
 refine .nil ?_
 show Ev _ _ _ _ _
 refine .ret ?_
 show RetOk _ _ _ _ _ _ _
 exact ret1v rfl (.inl rfl) rfl (rfl) trivial
set_option maxRecDepth 100000 in
theorem bend_gone (most : Int) (k : Int) (h0 : 0 ≤ k) (h1 : k < 2) (n : Int) (y : UInt8) (eo : Nat → Nat × Nat) : Meets Tryd.prog 12 [.ptr 500 0, .i64 k, .i64 n, .u8 y] [(500, some ⟨.agg [.i64 most, .bool true, .nilsl, .i64 0, .val (.int .i8 0), .nilsl, .i64 0, .val (.int .i8 0)], 51, false⟩), (17, some ⟨.agg [.err 79 (18) (offE eo (18))], errT, false⟩)] (.err 79 (18) (offE eo (18))) [(500, some ⟨.agg [.i64 most, .bool true, .nilsl, .i64 0, .val (.int .i8 0), .nilsl, .i64 0, .val (.int .i8 0)], 51, false⟩)] := by
 refine meets_of_ev (nt := 37) Tryd.func12 rfl rfl (Nat.le_of_ble_eq_true rfl) ?_
 refine .seq ?_
 refine .region ?_
 refine .q (op_assign rfl) trivial rfl ?_
 refine .nil ?_
 show Ev _ _ _ _ _
 refine .seq ?_
 refine .region ?_
 refine .q (op_move rfl) trivial rfl ?_
 refine .q (op_move rfl) trivial rfl ?_
 refine .q (op_call (U := []) [(500, 500)] [] (way_gone most k h0 h1 eo) Tryd.func17 (by kernel_rfl) rfl rfl rfl (⟨⟨_, rfl, rfl, rfl⟩, ⟨_, rfl, rfl, rfl⟩, trivial⟩) (⟨⟨_, _, rfl, rfl, rfl, rfl, (fun h => by cases h), rfl⟩, ⟨_, _, rfl, rfl, rfl, rfl, (fun h => by cases h), rfl⟩, trivial⟩) (trivial) (⟨(fun h => by cases h), (fun h => by cases h), trivial⟩) rfl) trivial rfl ?_
 refine .q (op_move rfl) trivial rfl ?_
 refine .q (op_extract rfl rfl) trivial rfl ?_
 refine .q (op_extract rfl rfl) trivial rfl ?_
 refine .q (op_assign rfl) trivial rfl ?_
 refine .q (op_assign rfl) trivial rfl ?_
 refine .nil ?_
 show Ev _ _ _ _ _
 refine .seq ?_
 refine .seq ?_
 refine .region ?_
 refine .q (op_move rfl) trivial rfl ?_
 refine .q (op_eqErrNil (e := 18) Tryd.underlying31 rfl rfl) trivial rfl ?_
 refine .nil ?_
 show Ev _ _ _ _ _
 refine .cond_true rfl (rfl) ?_
 refine .seq ?_
 refine .region ?_
 refine .q (op_move rfl) trivial rfl ?_
 refine .q (op_assign rfl) trivial rfl ?_
 refine .nil ?_
 show Ev _ _ _ _ _
 refine .ret ?_
 show RetOk _ _ _ _ _ _ _
 exact ret1v rfl (.inl rfl) rfl (rfl) ⟨rfl, trivial⟩
set_option maxRecDepth 100000 in
theorem len_arg (k : Int) (hk : k < 0 ∨ 2 ≤ k)  (eo : Nat → Nat × Nat) : Meets Tryd.prog 14 [.ptr 500 0, .i64 k] [(0, some ⟨.agg [.err 79 (1) (offE eo (1))], errT, false⟩)] (.i64 0) [] := by
 refine meets_of_ev (nt := 17) Tryd.func14 rfl rfl (Nat.le_of_ble_eq_true rfl) ?_
 refine .seq ?_
 refine .region ?_
 refine .q (op_assign rfl) trivial rfl ?_
 refine .nil ?_
 show Ev _ _ _ _ _
 refine .seq ?_
 refine .region ?_
 refine .q (op_move rfl) trivial rfl ?_
 refine .q (op_move rfl) trivial rfl ?_
 refine .q (op_call (U := []) [(500, 500)] [] (way_arg k hk eo) Tryd.func17 (by kernel_rfl) rfl rfl rfl (⟨⟨_, rfl, rfl, rfl⟩, ⟨_, rfl, rfl, rfl⟩, trivial⟩) (⟨⟨_, _, rfl, rfl, rfl, rfl, (fun h => by cases h), rfl⟩, trivial⟩) (trivial) (⟨(fun h => by cases h), trivial⟩) rfl) trivial rfl ?_
 refine .q (op_move rfl) trivial rfl ?_
 refine .q (op_extract rfl rfl) trivial rfl ?_
 refine .q (op_extract rfl rfl) trivial rfl ?_
 refine .q (op_assign rfl) trivial rfl ?_
 refine .q (op_assign rfl) trivial rfl ?_
 refine .nil ?_
 show Ev _ _ _ _ _
 refine .seq ?_
 refine .seq ?_
 refine .region ?_
 refine .q (op_move rfl) trivial rfl ?_
 refine .q (op_eqErrNil (e := 1) Tryd.underlying31 rfl rfl) trivial rfl ?_
 refine .nil ?_
 show Ev _ _ _ _ _
 refine .cond_true rfl (rfl) ?_
 refine .seq ?_
 refine .region ?_
 refine .q (op_assign rfl) trivial rfl ?_
 refine .nil ?_
 show Ev _ _ _ _ _
 refine .ret ?_
 show RetOk _ _ _ _ _ _ _
 exact ret1v rfl (.inl rfl) rfl (rfl) trivial
set_option maxRecDepth 100000 in
theorem len_gone (most : Int) (k : Int) (h0 : 0 ≤ k) (h1 : k < 2)  (eo : Nat → Nat × Nat) : Meets Tryd.prog 14 [.ptr 500 0, .i64 k] [(500, some ⟨.agg [.i64 most, .bool true, .nilsl, .i64 0, .val (.int .i8 0), .nilsl, .i64 0, .val (.int .i8 0)], 51, false⟩), (17, some ⟨.agg [.err 79 (18) (offE eo (18))], errT, false⟩)] (.i64 0) [(500, some ⟨.agg [.i64 most, .bool true, .nilsl, .i64 0, .val (.int .i8 0), .nilsl, .i64 0, .val (.int .i8 0)], 51, false⟩)] := by
 refine meets_of_ev (nt := 17) Tryd.func14 rfl rfl (Nat.le_of_ble_eq_true rfl) ?_
 refine .seq ?_
 refine .region ?_
 refine .q (op_assign rfl) trivial rfl ?_
 refine .nil ?_
 show Ev _ _ _ _ _
 refine .seq ?_
 refine .region ?_
 refine .q (op_move rfl) trivial rfl ?_
 refine .q (op_move rfl) trivial rfl ?_
 refine .q (op_call (U := []) [(500, 500)] [] (way_gone most k h0 h1 eo) Tryd.func17 (by kernel_rfl) rfl rfl rfl (⟨⟨_, rfl, rfl, rfl⟩, ⟨_, rfl, rfl, rfl⟩, trivial⟩) (⟨⟨_, _, rfl, rfl, rfl, rfl, (fun h => by cases h), rfl⟩, ⟨_, _, rfl, rfl, rfl, rfl, (fun h => by cases h), rfl⟩, trivial⟩) (trivial) (⟨(fun h => by cases h), (fun h => by cases h), trivial⟩) rfl) trivial rfl ?_
 refine .q (op_move rfl) trivial rfl ?_
 refine .q (op_extract rfl rfl) trivial rfl ?_
 refine .q (op_extract rfl rfl) trivial rfl ?_
 refine .q (op_assign rfl) trivial rfl ?_
 refine .q (op_assign rfl) trivial rfl ?_
 refine .nil ?_
 show Ev _ _ _ _ _
 refine .seq ?_
 refine .seq ?_
 refine .region ?_
 refine .q (op_move rfl) trivial rfl ?_
 refine .q (op_eqErrNil (e := 18) Tryd.underlying31 rfl rfl) trivial rfl ?_
 refine .nil ?_
 show Ev _ _ _ _ _
 refine .cond_true rfl (rfl) ?_
 refine .seq ?_
 refine .region ?_
 refine .q (op_assign rfl) trivial rfl ?_
 refine .nil ?_
 show Ev _ _ _ _ _
 refine .ret ?_
 show RetOk _ _ _ _ _ _ _
 exact ret1v rfl (.inl rfl) rfl (rfl) ⟨rfl, trivial⟩
set_option maxRecDepth 100000 in
theorem room_arg (k : Int) (hk : k < 0 ∨ 2 ≤ k)  (eo : Nat → Nat × Nat) : Meets Tryd.prog 15 [.ptr 500 0, .i64 k] [(0, some ⟨.agg [.err 79 (1) (offE eo (1))], errT, false⟩)] (.i64 0) [] := by
 refine meets_of_ev (nt := 22) Tryd.func15 rfl rfl (Nat.le_of_ble_eq_true rfl) ?_
 refine .seq ?_
 refine .region ?_
 refine .q (op_assign rfl) trivial rfl ?_
 refine .nil ?_
 show Ev _ _ _ _ _
 refine .seq ?_
 refine .region ?_
 refine .q (op_move rfl) trivial rfl ?_
 refine .q (op_move rfl) trivial rfl ?_
 refine .q (op_call (U := []) [(500, 500)] [] (way_arg k hk eo) Tryd.func17 (by kernel_rfl) rfl rfl rfl (⟨⟨_, rfl, rfl, rfl⟩, ⟨_, rfl, rfl, rfl⟩, trivial⟩) (⟨⟨_, _, rfl, rfl, rfl, rfl, (fun h => by cases h), rfl⟩, trivial⟩) (trivial) (⟨(fun h => by cases h), trivial⟩) rfl) trivial rfl ?_
 refine .q (op_move rfl) trivial rfl ?_
 refine .q (op_extract rfl rfl) trivial rfl ?_
 refine .q (op_extract rfl rfl) trivial rfl ?_
 refine .q (op_assign rfl) trivial rfl ?_
 refine .q (op_assign rfl) trivial rfl ?_
 refine .nil ?_
 show Ev _ _ _ _ _
 refine .seq ?_
 refine .seq ?_
 refine .region ?_
 refine .q (op_move rfl) trivial rfl ?_
 refine .q (op_eqErrNil (e := 1) Tryd.underlying31 rfl rfl) trivial rfl ?_
 refine .nil ?_
 show Ev _ _ _ _ _
 refine .cond_true rfl (rfl) ?_
 refine .seq ?_
 refine .region ?_
 refine .q (op_assign rfl) trivial rfl ?_
 refine .nil ?_
 show Ev _ _ _ _ _
 refine .ret ?_
 show RetOk _ _ _ _ _ _ _
 exact ret1v rfl (.inl rfl) rfl (rfl) trivial
set_option maxRecDepth 100000 in
theorem room_gone (most : Int) (k : Int) (h0 : 0 ≤ k) (h1 : k < 2)  (eo : Nat → Nat × Nat) : Meets Tryd.prog 15 [.ptr 500 0, .i64 k] [(500, some ⟨.agg [.i64 most, .bool true, .nilsl, .i64 0, .val (.int .i8 0), .nilsl, .i64 0, .val (.int .i8 0)], 51, false⟩), (17, some ⟨.agg [.err 79 (18) (offE eo (18))], errT, false⟩)] (.i64 0) [(500, some ⟨.agg [.i64 most, .bool true, .nilsl, .i64 0, .val (.int .i8 0), .nilsl, .i64 0, .val (.int .i8 0)], 51, false⟩)] := by
 refine meets_of_ev (nt := 22) Tryd.func15 rfl rfl (Nat.le_of_ble_eq_true rfl) ?_
 refine .seq ?_
 refine .region ?_
 refine .q (op_assign rfl) trivial rfl ?_
 refine .nil ?_
 show Ev _ _ _ _ _
 refine .seq ?_
 refine .region ?_
 refine .q (op_move rfl) trivial rfl ?_
 refine .q (op_move rfl) trivial rfl ?_
 refine .q (op_call (U := []) [(500, 500)] [] (way_gone most k h0 h1 eo) Tryd.func17 (by kernel_rfl) rfl rfl rfl (⟨⟨_, rfl, rfl, rfl⟩, ⟨_, rfl, rfl, rfl⟩, trivial⟩) (⟨⟨_, _, rfl, rfl, rfl, rfl, (fun h => by cases h), rfl⟩, ⟨_, _, rfl, rfl, rfl, rfl, (fun h => by cases h), rfl⟩, trivial⟩) (trivial) (⟨(fun h => by cases h), (fun h => by cases h), trivial⟩) rfl) trivial rfl ?_
 refine .q (op_move rfl) trivial rfl ?_
 refine .q (op_extract rfl rfl) trivial rfl ?_
 refine .q (op_extract rfl rfl) trivial rfl ?_
 refine .q (op_assign rfl) trivial rfl ?_
 refine .q (op_assign rfl) trivial rfl ?_
 refine .nil ?_
 show Ev _ _ _ _ _
 refine .seq ?_
 refine .seq ?_
 refine .region ?_
 refine .q (op_move rfl) trivial rfl ?_
 refine .q (op_eqErrNil (e := 18) Tryd.underlying31 rfl rfl) trivial rfl ?_
 refine .nil ?_
 show Ev _ _ _ _ _
 refine .cond_true rfl (rfl) ?_
 refine .seq ?_
 refine .region ?_
 refine .q (op_assign rfl) trivial rfl ?_
 refine .nil ?_
 show Ev _ _ _ _ _
 refine .ret ?_
 show RetOk _ _ _ _ _ _ _
 exact ret1v rfl (.inl rfl) rfl (rfl) ⟨rfl, trivial⟩
set_option maxRecDepth 100000 in
theorem lose_arg (k : Int) (hk : k < 0 ∨ 2 ≤ k) (n : Int) (eo : Nat → Nat × Nat) : Meets Tryd.prog 13 [.ptr 500 0, .i64 k, .i64 n] [(0, some ⟨.agg [.err 79 (1) (offE eo (1))], errT, false⟩)] (.tup [.i64 0, .err 79 (1) (offE eo (1))]) [] := by
 refine meets_of_ev (nt := 20) Tryd.func13 rfl rfl (Nat.le_of_ble_eq_true rfl) ?_
 refine .seq ?_
 refine .region ?_
 refine .q (op_assign rfl) trivial rfl ?_
 refine .q (op_assign rfl) trivial rfl ?_
 refine .nil ?_
 show Ev _ _ _ _ _
 refine .seq ?_
 refine .region ?_
 refine .q (op_move rfl) trivial rfl ?_
 refine .q (op_move rfl) trivial rfl ?_
 refine .q (op_move rfl) trivial rfl ?_
 refine .q (op_call (U := []) [(500, 500)] [] (take_arg k hk n eo) Tryd.func11 (by kernel_rfl) rfl rfl rfl (⟨⟨_, rfl, rfl, rfl⟩, ⟨_, rfl, rfl, rfl⟩, ⟨_, rfl, rfl, rfl⟩, trivial⟩) (⟨⟨_, _, rfl, rfl, rfl, rfl, (fun h => by cases h), rfl⟩, trivial⟩) (trivial) (⟨(fun h => by cases h), trivial⟩) rfl) trivial rfl ?_
 refine .q (op_move rfl) trivial rfl ?_
 refine .q (op_extract rfl rfl) trivial rfl ?_
 refine .q (op_extract rfl rfl) trivial rfl ?_
 refine .q (op_assign rfl) trivial rfl ?_
 refine .q (op_assign rfl) trivial rfl ?_
 refine .nil ?_
 show Ev _ _ _ _ _
 refine .seq ?_
 refine .region ?_
 refine .q (op_move rfl) trivial rfl ?_
 refine .q (op_len_str Tryd.underlying9 rfl) trivial rfl ?_
 refine .q (op_move rfl) trivial rfl ?_
 refine .q (op_assign rfl) trivial rfl ?_
 refine .q (op_assign rfl) trivial rfl ?_
 refine .nil ?_
 show Ev _ _ _ _ _
 refine .ret ?_
 show RetOk _ _ _ _ _ _ _
 exact ret2v rfl (.inl rfl) rfl rfl rfl rfl trivial
set_option maxRecDepth 100000 in
theorem lose_gone (most : Int) (k : Int) (h0 : 0 ≤ k) (h1 : k < 2) (n : Int) (eo : Nat → Nat × Nat) : Meets Tryd.prog 13 [.ptr 500 0, .i64 k, .i64 n] [(500, some ⟨.agg [.i64 most, .bool true, .nilsl, .i64 0, .val (.int .i8 0), .nilsl, .i64 0, .val (.int .i8 0)], 51, false⟩), (17, some ⟨.agg [.err 79 (18) (offE eo (18))], errT, false⟩)] (.tup [.i64 0, .err 79 (18) (offE eo (18))]) [(500, some ⟨.agg [.i64 most, .bool true, .nilsl, .i64 0, .val (.int .i8 0), .nilsl, .i64 0, .val (.int .i8 0)], 51, false⟩)] := by
 refine meets_of_ev (nt := 20) Tryd.func13 rfl rfl (Nat.le_of_ble_eq_true rfl) ?_
 refine .seq ?_
 refine .region ?_
 refine .q (op_assign rfl) trivial rfl ?_
 refine .q (op_assign rfl) trivial rfl ?_
 refine .nil ?_
 show Ev _ _ _ _ _
 refine .seq ?_
 refine .region ?_
 refine .q (op_move rfl) trivial rfl ?_
 refine .q (op_move rfl) trivial rfl ?_
 refine .q (op_move rfl) trivial rfl ?_
 refine .q (op_call (U := []) [(500, 500)] [] (take_gone most k h0 h1 n eo) Tryd.func11 (by kernel_rfl) rfl rfl rfl (⟨⟨_, rfl, rfl, rfl⟩, ⟨_, rfl, rfl, rfl⟩, ⟨_, rfl, rfl, rfl⟩, trivial⟩) (⟨⟨_, _, rfl, rfl, rfl, rfl, (fun h => by cases h), rfl⟩, ⟨_, _, rfl, rfl, rfl, rfl, (fun h => by cases h), rfl⟩, trivial⟩) (trivial) (⟨(fun h => by cases h), (fun h => by cases h), trivial⟩) rfl) trivial rfl ?_
 refine .q (op_move rfl) trivial rfl ?_
 refine .q (op_extract rfl rfl) trivial rfl ?_
 refine .q (op_extract rfl rfl) trivial rfl ?_
 refine .q (op_assign rfl) trivial rfl ?_
 refine .q (op_assign rfl) trivial rfl ?_
 refine .nil ?_
 show Ev _ _ _ _ _
 refine .seq ?_
 refine .region ?_
 refine .q (op_move rfl) trivial rfl ?_
 refine .q (op_len_str Tryd.underlying9 rfl) trivial rfl ?_
 refine .q (op_move rfl) trivial rfl ?_
 refine .q (op_assign rfl) trivial rfl ?_
 refine .q (op_assign rfl) trivial rfl ?_
 refine .nil ?_
 show Ev _ _ _ _ _
 refine .ret ?_
 show RetOk _ _ _ _ _ _ _
 exact ret2v rfl (.inl rfl) rfl rfl rfl rfl ⟨rfl, trivial⟩
set_option maxRecDepth 100000 in
theorem down_down (most : Int) : Meets Tryd.prog 7 [.ptr 500 0] [(500, some ⟨.agg [.i64 most, .bool true, .nilsl, .i64 0, .val (.int .i8 0), .nilsl, .i64 0, .val (.int .i8 0)], 51, true⟩)] (.tup []) [(500, some ⟨.agg [.i64 most, .bool true, .nilsl, .i64 0, .val (.int .i8 0), .nilsl, .i64 0, .val (.int .i8 0)], 51, true⟩)] := by
 refine meets_of_ev (nt := 9) Tryd.func7 rfl rfl (Nat.le_of_ble_eq_true rfl) ?_
 refine .seq ?_
 refine .region ?_
 refine .q (op_move rfl) trivial rfl ?_
 refine .q (op_nilCheck rfl) trivial rfl ?_
 refine .q (op_fieldAddr (m := 0) Tryd.underlying51 rfl (by kernel_rfl) rfl) trivial rfl ?_
 refine .as (.ptr 500 1) rfl ?_
 refine .w (op_store inf4.sz rfl rfl rfl rfl rfl (by show 1 < 8; decide)) trivial rfl ?_
 refine .nil ?_
 show Ev _ _ _ _ _
 refine .region ?_
 refine .q (op_move rfl) trivial rfl ?_
 refine .q (op_buildZero (z := 3) (r := .agg [.nilsl, .i64 0, .val (.int .i8 0), .nilsl, .i64 0, .val (.int .i8 0)]) Tryd.underlying49 (by kernel_rfl) zero49 rel_zero49) trivial rfl ?_
 refine .q (op_nilCheck rfl) trivial rfl ?_
 refine .q (op_fieldAddr (m := 5) Tryd.underlying51 rfl (by kernel_rfl) rfl) trivial rfl ?_
 refine .as (.ptr 500 2) rfl ?_
 refine .w (op_storePart (m := 6) (cs := [.nilsl, .i64 0, .val (.int .i8 0), .nilsl, .i64 0, .val (.int .i8 0)]) (c' := .agg [.i64 most, .bool true, .nilsl, .i64 0, .val (.int .i8 0), .nilsl, .i64 0, .val (.int .i8 0)]) sz49 rfl rfl rfl rfl rfl rfl (by show 2 + 6 ≤ 8; decide) rfl) trivial rfl ?_
 refine .nil ?_
 show RetOk _ _ _ _ _ _ _
 exact ret0 rfl (.inr rfl) ⟨rfl, trivial⟩
set_option maxRecDepth 100000 in
theorem new_ev (n : Int) : Meets Tryd.prog 6 [.i64 n] [] (.ptr 1000 0) [(1000, some ⟨.agg [.i64 (min (max n 1) 16777216), .bool false, .nilsl, .i64 0, .val (.int .i8 0), .nilsl, .i64 0, .val (.int .i8 0)], 51, true⟩)] := by
 refine meets_of_ev (nt := 8) Tryd.func6 rfl rfl (Nat.le_of_ble_eq_true rfl) ?_
 refine .seq ?_
 refine .region ?_
 refine .q (op_assign rfl) trivial rfl ?_
 refine .nil ?_
 show Ev _ _ _ _ _
 refine .seq ?_
 refine .region ?_
 refine .q (op_move rfl) trivial rfl ?_
 refine .q (op_maxI rfl rfl) trivial rfl ?_
 refine .q (op_minI rfl rfl) trivial rfl ?_
 refine .q (op_buildS (r := .agg [.i64 (min (max n 1) 16777216), .bool false, .nilsl, .i64 0, .val (.int .i8 0), .nilsl, .i64 0, .val (.int .i8 0)]) Tryd.underlying51 rfl zero51 rel_zero51 rfl rfl rfl rfl) trivial rfl ?_
 refine .a (op_boxRow rfl rfl) trivial rfl ?_
 refine .q (op_assign rfl) trivial rfl ?_
 refine .nil ?_
 show Ev _ _ _ _ _
 refine .ret ?_
 show RetOk _ _ _ _ _ _ _
 exact ret1v rfl (.inl rfl) rfl (rfl) ⟨rfl, trivial⟩
end Go.Proofs.YtpmoonglbcglaaaDoor
namespace Go.Proofs.YtpmoonglbcglaaaDoor
open Go.RowKit
structure BXok (x : BX) (m : Nat) : Prop where
  ho : x.o ≤ x.L
  hL : x.L ≤ x.l.length
  hlC : x.l.length ≤ x.C
  hC : x.C ≤ 9223372036854775807
  hC0 : 0 < x.C
  hL0 : 0 < x.L
  hLm : x.L ≤ m
def bK (ow : Bool) : Option BX → Option ABlk
  | none => none
  | some x => some ⟨bufC x.l x.C, 5, ow⟩
def live : Option BX → List UInt8
  | none => []
  | some x => (x.l.take x.L).drop x.o
def BOk : Option BX → Nat → Prop
  | none, _ => True
  | some x, m => BXok x m
theorem BOk.mono {x : Option BX} {m n : Nat} (h : BOk x m) (hm : m ≤ n) : BOk x n := by
  cases x with
  | none => trivial
  | some x => exact ⟨h.ho, h.hL, h.hlC, h.hC, h.hC0, h.hL0, Nat.le_trans h.hLm hm⟩
def rowW (most : Int) (d : Bool) (b0 b1 : Nat) (x y : Option BX) : AV := .agg [.i64 most, .bool d, bV b0 x, .i64 (bo x), .val (.int .i8 (br x)), bV b1 y, .i64 (bo y), .val (.int .i8 (br y))]
theorem rowW_ren (f : Nat → Nat) (most : Int) (d : Bool) (b0 b1 : Nat) (x y : Option BX) : (rowW most d b0 b1 x y).ren f = rowW most d (f b0) (f b1) x y := by cases x <;> cases y <;> rfl
theorem rowW_nm (L : List (Nat × Nat)) (most : Int) (d : Bool) (b0 b1 : Nat) (x y : Option BX) (h0 : nmOk L [b0] = true) (h1 : nmOk L [b1] = true) : nmOk L (rowW most d b0 b1 x y).names = true := by
  have h2 : nmOk L [b0, b1] = true := by
    simp only [nmOk, Bool.and_eq_true] at h0 h1 ⊢
    exact ⟨h0.1, h1⟩
  cases x <;> cases y <;> first | rfl | exact h0 | exact h1 | exact h2
theorem rowW_nmC (L : List (Nat × Nat)) (most : Int) (d : Bool) (b0 b1 : Nat) (x y : Option BX) (h0 : nmOkC L [b0] = true) (h1 : nmOkC L [b1] = true) : nmOkC L (rowW most d b0 b1 x y).names = true := by
  have h2 : nmOkC L [b0, b1] = true := by
    simp only [nmOkC, Bool.and_eq_true] at h0 h1 ⊢
    exact ⟨h0.1, h1⟩
  cases x <;> cases y <;> first | rfl | exact h0 | exact h1 | exact h2
theorem rowW_nmF (L N : List (Nat × Nat)) (most : Int) (d : Bool) (b0 b1 : Nat) (x y : Option BX) (h0 : nmOkF L N [b0] = true) (h1 : nmOkF L N [b1] = true) : nmOkF L N (rowW most d b0 b1 x y).names = true := by
  have h2 : nmOkF L N [b0, b1] = true := by
    simp only [nmOkF, Bool.and_eq_true] at h0 h1 ⊢
    exact ⟨h0.1, h1⟩
  cases x <;> cases y <;> first | rfl | exact h0 | exact h1 | exact h2
theorem bK_le {F : Hp} {L : List (Nat × Nat)} {c0 b : Nat} {ow : Bool} {x : Option BX} (hs : src L c0 = some b) (hF : F b = bK ow x) : ∀ k2, bK ow x = some k2 → ∃ b k, src L c0 = some b ∧ F b = some k ∧ k.c.ren (back L) = k2.c ∧ ElemLe k k2 ∧ (k2.own = true → k.own = true) ∧ nmOk L k.c.names = true := fun k2 h => by
  cases x with
  | none => cases h
  | some x => injection h with h; subst h; exact ⟨b, _, hs, hF, bufC_ren _ _ _, rfl, id, bufC_nm _ _ _⟩
theorem bK_leC {F : Hp} {L : List (Nat × Nat)} {c0 b : Nat} {ow ow2 : Bool} {x : Option BX} (hs : srcC L c0 = some b) (hF : F b = bK ow2 x) (ho : ow = true → ow2 = true) : ∀ k2, bK ow x = some k2 → ∃ b k, srcC L c0 = some b ∧ F b = some k ∧ k.c.ren (backC L) = k2.c ∧ ElemLe k k2 ∧ (k2.own = true → k.own = true) ∧ nmOkC L k.c.names = true := fun k2 h => by
  cases x with
  | none => cases h
  | some x => injection h with h; subst h; exact ⟨b, _, hs, hF, bufC_ren _ _ _, (by cases ow <;> cases ow2 <;> rfl), ho, bufC_nmC _ _ _⟩
theorem UOk.oc {L N : List (Nat × Nat)} {H0 H1 : List (Nat × Option ABlk)} {b : Nat} {o : Option ABlk} {r : List (Nat × Option ABlk)} (h : ∀ k', o = some k' → ∃ c k, hget H1 c = some k ∧ k' = ⟨k.c.ren (fwd L N), k.elem, k.own⟩ ∧ (k.own || (lk L c).isSome) = true ∧ nmOkF L N k.c.names = true ∧
      (lk N b = some c ∨ (lk L c = some b ∧ ∃ k0, hget H0 c = some k0 ∧ k0.own = true))) (hr : UOk L N H0 H1 r) : UOk L N H0 H1 ((b, o) :: r) := by
  cases o with
  | none => exact hr
  | some k => exact ⟨h k rfl, hr⟩
/-- A buffer's bytes as a call leaves them: where they lay. -/
theorem bK_uo {L N : List (Nat × Nat)} {H0 H1 : List (Nat × Option ABlk)} {b c : Nat} {x x' : Option BX} (h1 : hget H1 c = bK true x') (h0 : hget H0 c = bK true x) (hx : x'.isSome = true → x.isSome = true) (hl : lk L c = some b) : ∀ k', bK true x' = some k' → ∃ c k, hget H1 c = some k ∧ k' = ⟨k.c.ren (fwd L N), k.elem, k.own⟩ ∧ (k.own || (lk L c).isSome) = true ∧ nmOkF L N k.c.names = true ∧
      (lk N b = some c ∨ (lk L c = some b ∧ ∃ k0, hget H0 c = some k0 ∧ k0.own = true)) := fun k' h => by
  cases x' with
  | none => cases h
  | some x' =>
    cases x with
    | none => exact absurd (hx rfl) (by decide)
    | some x => injection h with h; subst h; exact ⟨c, _, h1, congrArg (fun z => (⟨z, _, _⟩ : ABlk)) (bufC_ren _ _ _).symm, rfl, bufC_nmF _ _ _ _, .inr ⟨hl, _, h0, rfl⟩⟩
/-- In a new block. -/
theorem bK_un {L N : List (Nat × Nat)} {H0 H1 : List (Nat × Option ABlk)} {b c : Nat} {x' : Option BX} (h1 : hget H1 c = bK true x') (hl : lk N b = some c) : ∀ k', bK true x' = some k' → ∃ c k, hget H1 c = some k ∧ k' = ⟨k.c.ren (fwd L N), k.elem, k.own⟩ ∧ (k.own || (lk L c).isSome) = true ∧ nmOkF L N k.c.names = true ∧
      (lk N b = some c ∨ (lk L c = some b ∧ ∃ k0, hget H0 c = some k0 ∧ k0.own = true)) := fun k' h => by
  cases x' with
  | none => cases h
  | some x' => injection h with h; subst h; exact ⟨c, _, h1, congrArg (fun z => (⟨z, _, _⟩ : ABlk)) (bufC_ren _ _ _).symm, rfl, bufC_nmF _ _ _ _, .inl hl⟩
theorem hg_n (p : Nat × Option ABlk) (b : Nat) : hget [p, (b, none)] = hget [p] := by
  funext q
  simp only [hget, upd, lk]
  cases Nat.beq p.1 q <;> cases Nat.beq b q <;> rfl
theorem MeetsX.h0 {P : Program} {f : FuncId} {args : List AV} {H0 H0' : List (Nat × Option ABlk)} {ι : Type} {v : ι → AV} {H1 : ι → List (Nat × Option ABlk)} (h : MeetsX P f args H0 ι v H1) (e : hget H0' = hget H0) : MeetsX P f args H0' ι v H1 := by
  intro E S n0 vals w a1 a2 a3 a4 hR a6 a7
  rw [e] at hR
  exact h E S n0 vals w a1 a2 a3 a4 hR a6 a7
theorem MeetsX.h1 {P : Program} {f : FuncId} {args : List AV} {H0 : List (Nat × Option ABlk)} {ι : Type} {v : ι → AV} {H1 H1' : ι → List (Nat × Option ABlk)} (h : MeetsX P f args H0 ι v H1) (e : ∀ i, hget (H1' i) = hget (H1 i)) : MeetsX P f args H0 ι v H1' := by
  intro E S n0 vals w a1 a2 a3 a4 hR a6 a7
  refine (h E S n0 vals w a1 a2 a3 a4 hR a6 a7).mono fun e' w' hh => ?_
  obtain ⟨i, y, E', g1, g2, g3, g4, g5⟩ := hh
  exact ⟨i, y, E', g1, g2, g3, by rw [e]; exact g4, g5⟩
theorem Meets.h0 {P : Program} {f : FuncId} {args : List AV} {H0 H0' : List (Nat × Option ABlk)} {v : AV} {H1 : List (Nat × Option ABlk)} (h : Meets P f args H0 v H1) (e : hget H0' = hget H0) : Meets P f args H0' v H1 := by
  intro E S n0 vals w a1 a2 a3 a4 hR a6 a7
  rw [e] at hR
  exact h E S n0 vals w a1 a2 a3 a4 hR a6 a7
theorem live_len' {x : BX} {m : Nat} (h : BXok x m) : (live (some x)).length = x.L - x.o := by
  have := h.ho; have := h.hL
  show ((x.l.take x.L).drop x.o).length = _
  simp; omega
theorem live_takeO {x : BX} {k : Nat} (hk : k ≤ x.L - x.o) : (x.l.drop x.o).take k = (live (some x)).take k := by
  show _ = ((x.l.take x.L).drop x.o).take k
  rw [take_drop_comm, List.take_take, Nat.min_eq_left hk]
/-- Bytes taken. -/
def takeB (k : Nat) : Option BX → Option BX
  | none => none
  | some x => some ⟨x.l, x.C, x.L, x.o + k, if 0 < k then -1 else 0⟩
theorem live_takeB (k : Nat) (x : Option BX) : live (takeB k x) = (live x).drop k := by
  cases x with
  | none => simp [takeB, live]
  | some x => show (x.l.take x.L).drop (x.o + k) = ((x.l.take x.L).drop x.o).drop k; rw [List.drop_drop]
theorem takeB_ok {k m : Nat} {x : Option BX} (h : BOk x m) (hk : k ≤ (live x).length) : BOk (takeB k x) m := by
  cases x with
  | none => trivial
  | some x =>
    rw [live_len' h] at hk
    have := BXok.ho h
    exact ⟨by show x.o + k ≤ x.L; omega, h.hL, h.hlC, h.hC, h.hC0, h.hL0, h.hLm⟩
theorem bK_takeB (ow : Bool) (k : Nat) (x : Option BX) : bK ow (takeB k x) = bK ow x := by cases x <;> rfl
/-- A byte bent. -/
def bendB (a : Nat) (y : UInt8) : Option BX → Option BX
  | none => none
  | some x => some ⟨x.l.set (x.o + a) (x.l.getD (x.o + a) 0 ^^^ y), x.C, x.L, x.o, x.r⟩
theorem bendB_some (a : Nat) (y : UInt8) (x : Option BX) : (bendB a y x).isSome = x.isSome := by cases x <;> rfl
theorem bendB_ok {a m : Nat} {y : UInt8} {x : Option BX} (h : BOk x m) : BOk (bendB a y x) m := by
  cases x with
  | none => trivial
  | some x => exact ⟨h.ho, by show _ ≤ (x.l.set _ _).length; rw [List.length_set]; exact h.hL, by show (x.l.set _ _).length ≤ _; rw [List.length_set]; exact h.hlC, h.hC, h.hC0, h.hL0, h.hLm⟩
theorem bendB_row0 (most : Int) (d : Bool) (b0 b1 a : Nat) (y : UInt8) (x z : Option BX) : rowW most d b0 b1 (bendB a y x) z = rowW most d b0 b1 x z := by cases x <;> rfl
theorem bendB_row1 (most : Int) (d : Bool) (b0 b1 a : Nat) (y : UInt8) (x z : Option BX) : rowW most d b0 b1 z (bendB a y x) = rowW most d b0 b1 z x := by cases x <;> rfl
theorem live_bendB {a m : Nat} {y : UInt8} {x : Option BX} (h : BOk x m) (ha : a < (live x).length) : live (bendB a y x) = (live x).set a ((live x).getD a 0 ^^^ y) := by
  cases x with
  | none => exact absurd ha (Nat.not_lt_zero _)
  | some x =>
    rw [live_len' h] at ha
    have h1 := BXok.ho h; have h2 := BXok.hL h
    show ((x.l.set (x.o + a) (x.l.getD (x.o + a) 0 ^^^ y)).take x.L).drop x.o = ((x.l.take x.L).drop x.o).set a (((x.l.take x.L).drop x.o).getD a 0 ^^^ y)
    have e : ((x.l.take x.L).drop x.o).getD a 0 = x.l.getD (x.o + a) 0 := by
      rw [List.getD_eq_getElem?_getD, List.getD_eq_getElem?_getD, List.getElem?_drop, List.getElem?_take, if_pos (by omega)]
    rw [e]
    rw [List.take_set, List.drop_set, if_neg (by omega), Nat.add_sub_cancel_left]
abbrev PutI (x : Option BX) (t : List UInt8) (m : Nat) : Type := { x' : Option BX // live x' = live x ++ t ∧ BOk x' m ∧ (x'.isSome = true → x.isSome = true) } ⊕ { x' : Option BX // live x' = live x ++ t ∧ BOk x' m }
theorem maxLen_eq : maxLen ≤ 9223372036854775807 := by unfold maxLen; omega
theorem live_first' (s : List UInt8) (n : Nat) : s = ((wrB (List.replicate n 0) 0 s).take s.length).drop 0 := by
  have := wrB_live (l := List.replicate n 0) (m := 0) (o := 0) s (Nat.zero_le _) (Nat.le_refl _)
  rw [Nat.zero_add] at this
  rw [this]; simp
theorem live_rnew {l : List UInt8} {L K : Nat} (s : List UInt8) : (l.take L).drop L ++ s = ((wrB ((l.take 0).drop 0 ++ List.replicate (K - (0 - 0)) 0) 0 s).take (0 - 0 + s.length)).drop 0 := by
  have := wrB_live (l := (l.take 0).drop 0 ++ List.replicate (K - (0 - 0)) 0) (m := 0) (o := 0) s (Nat.zero_le _) (Nat.le_refl _)
  rw [Nat.zero_add] at this
  rw [show 0 - 0 + s.length = s.length by omega, this, live_all]; simp
theorem wlen0 (most : Int) (x y : Option BX) (M : Nat) (hM : M ≤ 1000000) (hx : BOk x M) : Meets Tryd.prog 14 [.ptr 500 0, .i64 0] [(500, some ⟨rowW most false 501 502 x y, 51, false⟩)] (.i64 (((live x).length : Int))) [(500, some ⟨rowW most false 501 502 x y, 51, false⟩)] := by
  cases x with
  | none =>
    show Meets _ _ _ _ (.i64 (0)) _
    exact (wlen_nil0 most y )
  | some q =>
    have e : ((live (some q)).length : Int) = (q.L : Int) - (q.o : Int) := by rw [live_len' hx]; have := BXok.ho hx; omega
    rw [e]
    have hLm := BXok.hLm hx
    exact (wlen_sl0 most y q.C q.L q.o q.r (BXok.ho hx) (by omega))
theorem wroom0 (most : Int) (h0m : 0 ≤ most) (h1m : most ≤ 1000000000) (x y : Option BX) (M : Nat) (hM : M ≤ 1000000) (hx : BOk x M) : Meets Tryd.prog 15 [.ptr 500 0, .i64 0] [(500, some ⟨rowW most false 501 502 x y, 51, false⟩)] (.i64 (most - ((live x).length : Int))) [(500, some ⟨rowW most false 501 502 x y, 51, false⟩)] := by
  cases x with
  | none =>
    show Meets _ _ _ _ (.i64 (most - 0)) _
    exact (wroom_nil0 most y h0m h1m)
  | some q =>
    have e : ((live (some q)).length : Int) = (q.L : Int) - (q.o : Int) := by rw [live_len' hx]; have := BXok.ho hx; omega
    rw [e]
    have hLm := BXok.hLm hx
    exact (wroom_sl0 most y q.C q.L q.o q.r (BXok.ho hx) (by omega) h0m h1m)
theorem put0X (most : Int) (h0m : 0 ≤ most) (h1m : most ≤ 1000000000) (x y : Option BX) (M : Nat) (hx : BOk x M) (s : List UInt8) (hM : M + s.length ≤ 1000000) (k : Nat) (hk : min (s.length : Int) (most - ((live x).length : Int)) = (k : Int)) (t : List UInt8) (ht : s.take k = t) : MeetsX Tryd.prog 9 [.ptr 500 0, .i64 0, .str s] [(500, some ⟨rowW most false 501 502 x y, 51, true⟩), (501, bK true x)] (PutI x t (M + s.length)) (fun _ => .tup [.i64 ((k : Nat) : Int), .val .nilIface]) (fun u => match u with | .inl q => [(500, some ⟨rowW most false 501 502 q.1 y, 51, true⟩), (501, bK true q.1)] | .inr q => [(500, some ⟨rowW most false 1104 502 q.1 y, 51, true⟩), (1104, bK true q.1)]) := by
  have hks : k ≤ s.length := by omega
  have htl : t.length = k := by rw [← ht, List.length_take]; omega
  have hv : ∀ u : Unit, (AV.tup [.i64 ((t.length : Nat) : Int), .val .nilIface]) = AV.tup [.i64 ((k : Nat) : Int), .val .nilIface] := fun _ => by rw [htl]
  cases x with
  | none =>
    have hk0 : min (s.length : Int) (most - 0) = (k : Int) := hk
    by_cases h1 : t = []
    · exact MeetsX.imp (((Meets.x (put_nil00 most y h0m h1m s t k (by omega) hk0 ht h1)).h0 (hg_n _ _)).h1 (H1' := fun _ => [(500, some ⟨rowW most false 501 502 none y, 51, true⟩), (501, none)]) (fun _ => hg_n _ _)) (fun _ => .inl ⟨none, by rw [h1]; rfl, trivial, id⟩) hv (fun _ => rfl)
    · have hp : 0 < t.length := List.length_pos_iff.2 h1
      by_cases h64 : t.length ≤ 64
      · exact MeetsX.imp ((Meets.x (put_nil0 most y h0m h1m s t k (by omega) hk0 ht hp h64)).h0 (hg_n _ _)) (fun _ => .inr ⟨some ⟨wrB z64 0 t, 64, t.length, 0, 0⟩, (live_first t).symm, ⟨Nat.zero_le _, by show t.length ≤ (wrB z64 0 t).length; rw [wrB_len _ (Nat.zero_le _), z64_len]; omega, by show (wrB z64 0 t).length ≤ 64; rw [wrB_len _ (Nat.zero_le _), z64_len]; omega, by show (64 : Nat) ≤ 9223372036854775807; decide, by show 0 < 64; decide, hp, by show t.length ≤ M + s.length; omega⟩⟩) hv (fun _ => rfl)
      · exact MeetsX.imp (MeetsX.h0 (put_nilbig0 most y h0m h1m s t k (by omega) hk0 ht hp h64) (hg_n _ _)) (fun c => .inr ⟨some ⟨wrB (List.replicate t.length 0) 0 t, c.1, t.length, 0, 0⟩, (live_first' t _).symm, ⟨Nat.zero_le _, by show t.length ≤ (wrB _ 0 t).length; rw [wrB_len _ (Nat.zero_le _), List.length_replicate]; omega, by show (wrB _ 0 t).length ≤ c.1; have := c.2.1; rw [wrB_len _ (Nat.zero_le _), List.length_replicate]; omega, Nat.le_trans c.2.2 maxLen_eq, by have := c.2.1; show 0 < c.1; omega, hp, by show t.length ≤ M + s.length; omega⟩⟩) (fun _ => hv ()) (fun _ => rfl)
  | some q =>
    obtain ⟨l, C, L, o, r⟩ := q
    have hll := live_len' hx
    obtain ⟨ho, hL, hlC, hC, hC0, hL0, hLm⟩ := hx
    dsimp only at ho hL hlC hC hC0 hL0 hLm hll
    have hk1 : min (s.length : Int) (most - ((L : Int) - (o : Int))) = (k : Int) := by rw [hll] at hk; omega
    have hLb : L ≤ 1000000 := by omega
    by_cases h1 : L + t.length ≤ C
    · exact MeetsX.imp (Meets.x (put_fit0 most y l C L o r ho hL hlC hC hC0 hLb h0m h1m s t k (by omega) hk1 ht h1)) (fun _ => .inl ⟨some ⟨wrB l L t, C, L + t.length, o, 0⟩, wrB_live t hL ho, ⟨by show o ≤ L + t.length; omega, by show L + t.length ≤ (wrB l L t).length; rw [wrB_len _ hL]; omega, by show (wrB l L t).length ≤ C; rw [wrB_len _ hL]; omega, hC, hC0, by show 0 < L + t.length; omega, by show L + t.length ≤ M + s.length; omega⟩, fun _ => rfl⟩) hv (fun _ => rfl)
    · by_cases h2 : o = L
      · subst h2
        by_cases h3 : t.length ≤ C
        · exact MeetsX.imp (Meets.x (put_reset0 most y l C o r hL hlC hC hC0 hLb h0m h1m s t k (by omega) hk1 ht hL0 h3 h1)) (fun _ => .inl ⟨some ⟨wrB l 0 t, C, 0 + t.length, 0, 0⟩, (live_reset l t o).symm, ⟨Nat.zero_le _, by show 0 + t.length ≤ (wrB l 0 t).length; rw [wrB_len _ (Nat.zero_le _)]; omega, by show (wrB l 0 t).length ≤ C; rw [wrB_len _ (Nat.zero_le _)]; omega, hC, hC0, by show 0 < 0 + t.length; omega, by show 0 + t.length ≤ M + s.length; omega⟩, fun _ => rfl⟩) hv (fun _ => rfl)
        · exact MeetsX.imp (MeetsX.h0 (put_rnew0 most y l C o r hL hlC hC hC0 hLb h0m h1m s t k (by omega) hk1 ht hL0 (by omega) h3) rfl) (fun c => .inr ⟨some ⟨wrB ((l.take 0).drop 0 ++ List.replicate (max (0 - 0 + (0 + t.length)) (2 * (C - 0)) - (0 - 0)) 0) 0 t, c.1, 0 - 0 + t.length, 0, 0⟩, (live_rnew t).symm, ⟨Nat.zero_le _, by show 0 - 0 + t.length ≤ (wrB _ 0 t).length; rw [wrB_len _ (Nat.zero_le _), newl_len (Nat.le_refl _) (Nat.zero_le _) (by omega)]; omega, by show (wrB _ 0 t).length ≤ c.1; have := c.2.1; rw [wrB_len _ (Nat.zero_le _), newl_len (Nat.le_refl _) (Nat.zero_le _) (by omega)]; omega, Nat.le_trans c.2.2 maxLen_eq, by have := c.2.1; show 0 < c.1; omega, by show 0 < 0 - 0 + t.length; omega, by show 0 - 0 + t.length ≤ M + s.length; omega⟩⟩) (fun _ => hv ()) (fun _ => rfl)
      · have hp : 0 < t.length := by omega
        by_cases h3 : t.length + (L - o) ≤ C / 2
        · exact MeetsX.imp (Meets.x (put_slide0 most y l C L o r ho hL hlC hC hC0 hLb h0m h1m s t k (by omega) hk1 ht hp (by omega) h1 h3)) (fun _ => .inl ⟨some ⟨wrB (mvB l o L) (L - o) t, C, L - o + t.length, 0, 0⟩, (live_slide t ho hL).symm, ⟨Nat.zero_le _, by show L - o + t.length ≤ (wrB (mvB l o L) (L - o) t).length; rw [wrB_len _ (by rw [mvB_len ho hL]; omega)]; omega, by show (wrB (mvB l o L) (L - o) t).length ≤ C; rw [wrB_len _ (by rw [mvB_len ho hL]; omega), mvB_len ho hL]; omega, hC, hC0, by show 0 < L - o + t.length; omega, by show L - o + t.length ≤ M + s.length; omega⟩, fun _ => rfl⟩) hv (fun _ => rfl)
        · exact MeetsX.imp (MeetsX.h0 (put_new0 most y l C L o r ho hL hlC hC hC0 hLb h0m h1m s t k (by omega) hk1 ht hp (by omega) h1 h3) rfl) (fun c => .inr ⟨some ⟨wrB ((l.take L).drop o ++ List.replicate (max (L - o + (o + t.length)) (2 * (C - o)) - (L - o)) 0) (L - o) t, c.1, L - o + t.length, 0, 0⟩, (live_new t ho hL (by omega)).symm, ⟨Nat.zero_le _, by show L - o + t.length ≤ (wrB _ (L - o) t).length; rw [wrB_len _ (by rw [newl_len ho hL (by omega)]; omega)]; omega, by show (wrB _ (L - o) t).length ≤ c.1; have := c.2.1; rw [wrB_len _ (by rw [newl_len ho hL (by omega)]; omega), newl_len ho hL (by omega)]; omega, Nat.le_trans c.2.2 maxLen_eq, by have := c.2.1; show 0 < c.1; omega, by show 0 < L - o + t.length; omega, by show L - o + t.length ≤ M + s.length; omega⟩⟩) (fun _ => hv ()) (fun _ => rfl)
theorem take0O (most : Int) (x y : Option BX) (M : Nat) (hM : M ≤ 1000000) (hx : BOk x M) (n : Int) (k : Nat) (hk : (k : Int) = min (max n 0) ((live x).length : Int)) : Meets Tryd.prog 11 [.ptr 500 0, .i64 0, .i64 n] [(500, some ⟨rowW most false 501 502 x y, 51, true⟩), (501, bK false x)] (.tup [.str ((live x).take k), .val .nilIface]) [(500, some ⟨rowW most false 501 502 (takeB k x) y, 51, true⟩)] := by
  cases x with
  | none =>
    have hl0 : (live none).length = 0 := rfl
    have hk0 : k = 0 := by omega
    subst hk0
    by_cases h1 : 0 < max n 0
    · exact ((taken_p0 most y n h1).h0 (hg_n _ _))
    · exact ((taken_z0 most y n (by omega)).h0 (hg_n _ _))
  | some q =>
    have hll := live_len' hx
    have hlt := live_takeO (x := q) (k := k)
    obtain ⟨l, C, L, o, r⟩ := q
    obtain ⟨ho, hL, hlC, hC, hC0, hL0, hLm⟩ := hx
    dsimp only at ho hL hlC hC hC0 hL0 hLm hll hlt
    have hLb : L ≤ 1000000 := by omega
    have hkl : k ≤ L - o := by rw [hll] at hk; omega
    rw [← hlt hkl]
    by_cases h1 : (L : Int) - (o : Int) < max n 0
    · have hk2 : k = L - o := by rw [hll] at hk; omega
      by_cases h2 : 0 < k
      · have e : takeB k (some ⟨l, C, L, o, r⟩) = some ⟨l, C, L, o + k, -1⟩ := congrArg (fun z => some (BX.mk l C L (o + k) z)) (if_pos h2)
        rw [e]
        exact (take_ap0 most y l C L o r ho hL hlC hC hC0 hLb k n hk2 h1 h2)
      · have e : takeB k (some ⟨l, C, L, o, r⟩) = some ⟨l, C, L, o + k, 0⟩ := congrArg (fun z => some (BX.mk l C L (o + k) z)) (if_neg h2)
        rw [e]
        exact (take_az0 most y l C L o r ho hL hlC hC hC0 hLb k n hk2 h1 (by omega))
    · have hn2 : max n 0 = (k : Int) := by rw [hll] at hk; omega
      by_cases h2 : 0 < k
      · have e : takeB k (some ⟨l, C, L, o, r⟩) = some ⟨l, C, L, o + k, -1⟩ := congrArg (fun z => some (BX.mk l C L (o + k) z)) (if_pos h2)
        rw [e]
        exact (take_cp0 most y l C L o r ho hL hlC hC hC0 hLb k n hn2 hkl h2)
      · have e : takeB k (some ⟨l, C, L, o, r⟩) = some ⟨l, C, L, o + k, 0⟩ := congrArg (fun z => some (BX.mk l C L (o + k) z)) (if_neg h2)
        rw [e]
        exact (take_cz0 most y l C L o r ho hL hlC hC hC0 hLb k n hn2 hkl (by omega))
theorem lose0O (most : Int) (x y : Option BX) (M : Nat) (hM : M ≤ 1000000) (hx : BOk x M) (n : Int) (k : Nat) (hk : (k : Int) = min (max n 0) ((live x).length : Int)) : Meets Tryd.prog 13 [.ptr 500 0, .i64 0, .i64 n] [(500, some ⟨rowW most false 501 502 x y, 51, true⟩), (501, bK false x)] (.tup [.i64 ((k : Nat) : Int), .val .nilIface]) [(500, some ⟨rowW most false 501 502 (takeB k x) y, 51, true⟩)] := by
  cases x with
  | none =>
    have hl0 : (live none).length = 0 := rfl
    have hk0 : k = 0 := by omega
    subst hk0
    by_cases h1 : 0 < max n 0
    · exact ((losen_p0 most y n h1).h0 (hg_n _ _))
    · exact ((losen_z0 most y n (by omega)).h0 (hg_n _ _))
  | some q =>
    have hll := live_len' hx
    have hlt := live_takeO (x := q) (k := k)
    obtain ⟨l, C, L, o, r⟩ := q
    obtain ⟨ho, hL, hlC, hC, hC0, hL0, hLm⟩ := hx
    dsimp only at ho hL hlC hC hC0 hL0 hLm hll hlt
    have hLb : L ≤ 1000000 := by omega
    have hkl : k ≤ L - o := by rw [hll] at hk; omega
    by_cases h1 : (L : Int) - (o : Int) < max n 0
    · have hk2 : k = L - o := by rw [hll] at hk; omega
      by_cases h2 : 0 < k
      · have e : takeB k (some ⟨l, C, L, o, r⟩) = some ⟨l, C, L, o + k, -1⟩ := congrArg (fun z => some (BX.mk l C L (o + k) z)) (if_pos h2)
        rw [e]
        exact (lose_ap0 most y l C L o r ho hL hlC hC hC0 hLb k n hk2 h1 h2)
      · have e : takeB k (some ⟨l, C, L, o, r⟩) = some ⟨l, C, L, o + k, 0⟩ := congrArg (fun z => some (BX.mk l C L (o + k) z)) (if_neg h2)
        rw [e]
        exact (lose_az0 most y l C L o r ho hL hlC hC hC0 hLb k n hk2 h1 (by omega))
    · have hn2 : max n 0 = (k : Int) := by rw [hll] at hk; omega
      by_cases h2 : 0 < k
      · have e : takeB k (some ⟨l, C, L, o, r⟩) = some ⟨l, C, L, o + k, -1⟩ := congrArg (fun z => some (BX.mk l C L (o + k) z)) (if_pos h2)
        rw [e]
        exact (lose_cp0 most y l C L o r ho hL hlC hC hC0 hLb k n hn2 hkl h2)
      · have e : takeB k (some ⟨l, C, L, o, r⟩) = some ⟨l, C, L, o + k, 0⟩ := congrArg (fun z => some (BX.mk l C L (o + k) z)) (if_neg h2)
        rw [e]
        exact (lose_cz0 most y l C L o r ho hL hlC hC hC0 hLb k n hn2 hkl (by omega))
theorem bend0O (most : Int) (x y : Option BX) (M : Nat) (hM : M ≤ 1000000) (hx : BOk x M) (a : Nat) (ha : a < (live x).length) (c : UInt8) : Meets Tryd.prog 12 [.ptr 500 0, .i64 0, .i64 (a : Int), .u8 c] [(500, some ⟨rowW most false 501 502 x y, 51, false⟩), (501, bK true x)] (.val .nilIface) [(501, bK true (bendB a c x))] := by
  cases x with
  | none => exact absurd ha (Nat.not_lt_zero _)
  | some q =>
    have hll := live_len' hx
    obtain ⟨l, C, L, o, r⟩ := q
    obtain ⟨ho, hL, hlC, hC, hC0, hL0, hLm⟩ := hx
    dsimp only at ho hL hlC hC hC0 hL0 hLm hll
    have hLb : L ≤ 1000000 := by omega
    exact (bend_ok0 most y l C L o r ho hL hlC hC hC0 hLb a c (by omega))
theorem bendn0O (most : Int) (x y : Option BX) (M : Nat) (hM : M ≤ 1000000) (hx : BOk x M) (n : Int) (hn : n < 0 ∨ ((live x).length : Int) ≤ n) (c : UInt8) (eo : Nat → Nat × Nat) : Meets Tryd.prog 12 [.ptr 500 0, .i64 0, .i64 n, .u8 c] [(500, some ⟨rowW most false 501 502 x y, 51, false⟩), (7, some ⟨.agg [.err 79 (8) (offE eo (8))], errT, false⟩)] (.err 79 (8) (offE eo (8))) [(500, some ⟨rowW most false 501 502 x y, 51, false⟩)] := by
  cases x with
  | none =>
    have hl0 : (live none).length = 0 := rfl
    by_cases h1 : n < 0
    · exact (bend_neg_nil0 most y n c h1 eo)
    · exact (bend_far_nil0 most y n c h1 (by omega) eo)
  | some q =>
    have hll := live_len' hx
    have ho := BXok.ho hx; have hLm := BXok.hLm hx
    by_cases h1 : n < 0
    · exact (bend_neg_sl0 most y q.C q.L q.o q.r (BXok.ho hx) (by omega) n c h1 eo)
    · exact (bend_far_sl0 most y q.C q.L q.o q.r (BXok.ho hx) (by omega) n c h1 (by omega) eo)
theorem wlen1 (most : Int) (x y : Option BX) (M : Nat) (hM : M ≤ 1000000) (hx : BOk y M) : Meets Tryd.prog 14 [.ptr 500 0, .i64 1] [(500, some ⟨rowW most false 501 502 x y, 51, false⟩)] (.i64 (((live y).length : Int))) [(500, some ⟨rowW most false 501 502 x y, 51, false⟩)] := by
  cases y with
  | none =>
    show Meets _ _ _ _ (.i64 (0)) _
    exact (wlen_nil1 most x )
  | some q =>
    have e : ((live (some q)).length : Int) = (q.L : Int) - (q.o : Int) := by rw [live_len' hx]; have := BXok.ho hx; omega
    rw [e]
    have hLm := BXok.hLm hx
    exact (wlen_sl1 most x q.C q.L q.o q.r (BXok.ho hx) (by omega))
theorem wroom1 (most : Int) (h0m : 0 ≤ most) (h1m : most ≤ 1000000000) (x y : Option BX) (M : Nat) (hM : M ≤ 1000000) (hx : BOk y M) : Meets Tryd.prog 15 [.ptr 500 0, .i64 1] [(500, some ⟨rowW most false 501 502 x y, 51, false⟩)] (.i64 (most - ((live y).length : Int))) [(500, some ⟨rowW most false 501 502 x y, 51, false⟩)] := by
  cases y with
  | none =>
    show Meets _ _ _ _ (.i64 (most - 0)) _
    exact (wroom_nil1 most x h0m h1m)
  | some q =>
    have e : ((live (some q)).length : Int) = (q.L : Int) - (q.o : Int) := by rw [live_len' hx]; have := BXok.ho hx; omega
    rw [e]
    have hLm := BXok.hLm hx
    exact (wroom_sl1 most x q.C q.L q.o q.r (BXok.ho hx) (by omega) h0m h1m)
theorem put1X (most : Int) (h0m : 0 ≤ most) (h1m : most ≤ 1000000000) (x y : Option BX) (M : Nat) (hx : BOk y M) (s : List UInt8) (hM : M + s.length ≤ 1000000) (k : Nat) (hk : min (s.length : Int) (most - ((live y).length : Int)) = (k : Int)) (t : List UInt8) (ht : s.take k = t) : MeetsX Tryd.prog 9 [.ptr 500 0, .i64 1, .str s] [(500, some ⟨rowW most false 501 502 x y, 51, true⟩), (502, bK true y)] (PutI y t (M + s.length)) (fun _ => .tup [.i64 ((k : Nat) : Int), .val .nilIface]) (fun u => match u with | .inl q => [(500, some ⟨rowW most false 501 502 x q.1, 51, true⟩), (502, bK true q.1)] | .inr q => [(500, some ⟨rowW most false 501 1104 x q.1, 51, true⟩), (1104, bK true q.1)]) := by
  have hks : k ≤ s.length := by omega
  have htl : t.length = k := by rw [← ht, List.length_take]; omega
  have hv : ∀ u : Unit, (AV.tup [.i64 ((t.length : Nat) : Int), .val .nilIface]) = AV.tup [.i64 ((k : Nat) : Int), .val .nilIface] := fun _ => by rw [htl]
  cases y with
  | none =>
    have hk0 : min (s.length : Int) (most - 0) = (k : Int) := hk
    by_cases h1 : t = []
    · exact MeetsX.imp (((Meets.x (put_nil01 most x h0m h1m s t k (by omega) hk0 ht h1)).h0 (hg_n _ _)).h1 (H1' := fun _ => [(500, some ⟨rowW most false 501 502 x none, 51, true⟩), (502, none)]) (fun _ => hg_n _ _)) (fun _ => .inl ⟨none, by rw [h1]; rfl, trivial, id⟩) hv (fun _ => rfl)
    · have hp : 0 < t.length := List.length_pos_iff.2 h1
      by_cases h64 : t.length ≤ 64
      · exact MeetsX.imp ((Meets.x (put_nil1 most x h0m h1m s t k (by omega) hk0 ht hp h64)).h0 (hg_n _ _)) (fun _ => .inr ⟨some ⟨wrB z64 0 t, 64, t.length, 0, 0⟩, (live_first t).symm, ⟨Nat.zero_le _, by show t.length ≤ (wrB z64 0 t).length; rw [wrB_len _ (Nat.zero_le _), z64_len]; omega, by show (wrB z64 0 t).length ≤ 64; rw [wrB_len _ (Nat.zero_le _), z64_len]; omega, by show (64 : Nat) ≤ 9223372036854775807; decide, by show 0 < 64; decide, hp, by show t.length ≤ M + s.length; omega⟩⟩) hv (fun _ => rfl)
      · exact MeetsX.imp (MeetsX.h0 (put_nilbig1 most x h0m h1m s t k (by omega) hk0 ht hp h64) (hg_n _ _)) (fun c => .inr ⟨some ⟨wrB (List.replicate t.length 0) 0 t, c.1, t.length, 0, 0⟩, (live_first' t _).symm, ⟨Nat.zero_le _, by show t.length ≤ (wrB _ 0 t).length; rw [wrB_len _ (Nat.zero_le _), List.length_replicate]; omega, by show (wrB _ 0 t).length ≤ c.1; have := c.2.1; rw [wrB_len _ (Nat.zero_le _), List.length_replicate]; omega, Nat.le_trans c.2.2 maxLen_eq, by have := c.2.1; show 0 < c.1; omega, hp, by show t.length ≤ M + s.length; omega⟩⟩) (fun _ => hv ()) (fun _ => rfl)
  | some q =>
    obtain ⟨l, C, L, o, r⟩ := q
    have hll := live_len' hx
    obtain ⟨ho, hL, hlC, hC, hC0, hL0, hLm⟩ := hx
    dsimp only at ho hL hlC hC hC0 hL0 hLm hll
    have hk1 : min (s.length : Int) (most - ((L : Int) - (o : Int))) = (k : Int) := by rw [hll] at hk; omega
    have hLb : L ≤ 1000000 := by omega
    by_cases h1 : L + t.length ≤ C
    · exact MeetsX.imp (Meets.x (put_fit1 most x l C L o r ho hL hlC hC hC0 hLb h0m h1m s t k (by omega) hk1 ht h1)) (fun _ => .inl ⟨some ⟨wrB l L t, C, L + t.length, o, 0⟩, wrB_live t hL ho, ⟨by show o ≤ L + t.length; omega, by show L + t.length ≤ (wrB l L t).length; rw [wrB_len _ hL]; omega, by show (wrB l L t).length ≤ C; rw [wrB_len _ hL]; omega, hC, hC0, by show 0 < L + t.length; omega, by show L + t.length ≤ M + s.length; omega⟩, fun _ => rfl⟩) hv (fun _ => rfl)
    · by_cases h2 : o = L
      · subst h2
        by_cases h3 : t.length ≤ C
        · exact MeetsX.imp (Meets.x (put_reset1 most x l C o r hL hlC hC hC0 hLb h0m h1m s t k (by omega) hk1 ht hL0 h3 h1)) (fun _ => .inl ⟨some ⟨wrB l 0 t, C, 0 + t.length, 0, 0⟩, (live_reset l t o).symm, ⟨Nat.zero_le _, by show 0 + t.length ≤ (wrB l 0 t).length; rw [wrB_len _ (Nat.zero_le _)]; omega, by show (wrB l 0 t).length ≤ C; rw [wrB_len _ (Nat.zero_le _)]; omega, hC, hC0, by show 0 < 0 + t.length; omega, by show 0 + t.length ≤ M + s.length; omega⟩, fun _ => rfl⟩) hv (fun _ => rfl)
        · exact MeetsX.imp (MeetsX.h0 (put_rnew1 most x l C o r hL hlC hC hC0 hLb h0m h1m s t k (by omega) hk1 ht hL0 (by omega) h3) rfl) (fun c => .inr ⟨some ⟨wrB ((l.take 0).drop 0 ++ List.replicate (max (0 - 0 + (0 + t.length)) (2 * (C - 0)) - (0 - 0)) 0) 0 t, c.1, 0 - 0 + t.length, 0, 0⟩, (live_rnew t).symm, ⟨Nat.zero_le _, by show 0 - 0 + t.length ≤ (wrB _ 0 t).length; rw [wrB_len _ (Nat.zero_le _), newl_len (Nat.le_refl _) (Nat.zero_le _) (by omega)]; omega, by show (wrB _ 0 t).length ≤ c.1; have := c.2.1; rw [wrB_len _ (Nat.zero_le _), newl_len (Nat.le_refl _) (Nat.zero_le _) (by omega)]; omega, Nat.le_trans c.2.2 maxLen_eq, by have := c.2.1; show 0 < c.1; omega, by show 0 < 0 - 0 + t.length; omega, by show 0 - 0 + t.length ≤ M + s.length; omega⟩⟩) (fun _ => hv ()) (fun _ => rfl)
      · have hp : 0 < t.length := by omega
        by_cases h3 : t.length + (L - o) ≤ C / 2
        · exact MeetsX.imp (Meets.x (put_slide1 most x l C L o r ho hL hlC hC hC0 hLb h0m h1m s t k (by omega) hk1 ht hp (by omega) h1 h3)) (fun _ => .inl ⟨some ⟨wrB (mvB l o L) (L - o) t, C, L - o + t.length, 0, 0⟩, (live_slide t ho hL).symm, ⟨Nat.zero_le _, by show L - o + t.length ≤ (wrB (mvB l o L) (L - o) t).length; rw [wrB_len _ (by rw [mvB_len ho hL]; omega)]; omega, by show (wrB (mvB l o L) (L - o) t).length ≤ C; rw [wrB_len _ (by rw [mvB_len ho hL]; omega), mvB_len ho hL]; omega, hC, hC0, by show 0 < L - o + t.length; omega, by show L - o + t.length ≤ M + s.length; omega⟩, fun _ => rfl⟩) hv (fun _ => rfl)
        · exact MeetsX.imp (MeetsX.h0 (put_new1 most x l C L o r ho hL hlC hC hC0 hLb h0m h1m s t k (by omega) hk1 ht hp (by omega) h1 h3) rfl) (fun c => .inr ⟨some ⟨wrB ((l.take L).drop o ++ List.replicate (max (L - o + (o + t.length)) (2 * (C - o)) - (L - o)) 0) (L - o) t, c.1, L - o + t.length, 0, 0⟩, (live_new t ho hL (by omega)).symm, ⟨Nat.zero_le _, by show L - o + t.length ≤ (wrB _ (L - o) t).length; rw [wrB_len _ (by rw [newl_len ho hL (by omega)]; omega)]; omega, by show (wrB _ (L - o) t).length ≤ c.1; have := c.2.1; rw [wrB_len _ (by rw [newl_len ho hL (by omega)]; omega), newl_len ho hL (by omega)]; omega, Nat.le_trans c.2.2 maxLen_eq, by have := c.2.1; show 0 < c.1; omega, by show 0 < L - o + t.length; omega, by show L - o + t.length ≤ M + s.length; omega⟩⟩) (fun _ => hv ()) (fun _ => rfl)
theorem take1O (most : Int) (x y : Option BX) (M : Nat) (hM : M ≤ 1000000) (hx : BOk y M) (n : Int) (k : Nat) (hk : (k : Int) = min (max n 0) ((live y).length : Int)) : Meets Tryd.prog 11 [.ptr 500 0, .i64 1, .i64 n] [(500, some ⟨rowW most false 501 502 x y, 51, true⟩), (502, bK false y)] (.tup [.str ((live y).take k), .val .nilIface]) [(500, some ⟨rowW most false 501 502 x (takeB k y), 51, true⟩)] := by
  cases y with
  | none =>
    have hl0 : (live none).length = 0 := rfl
    have hk0 : k = 0 := by omega
    subst hk0
    by_cases h1 : 0 < max n 0
    · exact ((taken_p1 most x n h1).h0 (hg_n _ _))
    · exact ((taken_z1 most x n (by omega)).h0 (hg_n _ _))
  | some q =>
    have hll := live_len' hx
    have hlt := live_takeO (x := q) (k := k)
    obtain ⟨l, C, L, o, r⟩ := q
    obtain ⟨ho, hL, hlC, hC, hC0, hL0, hLm⟩ := hx
    dsimp only at ho hL hlC hC hC0 hL0 hLm hll hlt
    have hLb : L ≤ 1000000 := by omega
    have hkl : k ≤ L - o := by rw [hll] at hk; omega
    rw [← hlt hkl]
    by_cases h1 : (L : Int) - (o : Int) < max n 0
    · have hk2 : k = L - o := by rw [hll] at hk; omega
      by_cases h2 : 0 < k
      · have e : takeB k (some ⟨l, C, L, o, r⟩) = some ⟨l, C, L, o + k, -1⟩ := congrArg (fun z => some (BX.mk l C L (o + k) z)) (if_pos h2)
        rw [e]
        exact (take_ap1 most x l C L o r ho hL hlC hC hC0 hLb k n hk2 h1 h2)
      · have e : takeB k (some ⟨l, C, L, o, r⟩) = some ⟨l, C, L, o + k, 0⟩ := congrArg (fun z => some (BX.mk l C L (o + k) z)) (if_neg h2)
        rw [e]
        exact (take_az1 most x l C L o r ho hL hlC hC hC0 hLb k n hk2 h1 (by omega))
    · have hn2 : max n 0 = (k : Int) := by rw [hll] at hk; omega
      by_cases h2 : 0 < k
      · have e : takeB k (some ⟨l, C, L, o, r⟩) = some ⟨l, C, L, o + k, -1⟩ := congrArg (fun z => some (BX.mk l C L (o + k) z)) (if_pos h2)
        rw [e]
        exact (take_cp1 most x l C L o r ho hL hlC hC hC0 hLb k n hn2 hkl h2)
      · have e : takeB k (some ⟨l, C, L, o, r⟩) = some ⟨l, C, L, o + k, 0⟩ := congrArg (fun z => some (BX.mk l C L (o + k) z)) (if_neg h2)
        rw [e]
        exact (take_cz1 most x l C L o r ho hL hlC hC hC0 hLb k n hn2 hkl (by omega))
theorem lose1O (most : Int) (x y : Option BX) (M : Nat) (hM : M ≤ 1000000) (hx : BOk y M) (n : Int) (k : Nat) (hk : (k : Int) = min (max n 0) ((live y).length : Int)) : Meets Tryd.prog 13 [.ptr 500 0, .i64 1, .i64 n] [(500, some ⟨rowW most false 501 502 x y, 51, true⟩), (502, bK false y)] (.tup [.i64 ((k : Nat) : Int), .val .nilIface]) [(500, some ⟨rowW most false 501 502 x (takeB k y), 51, true⟩)] := by
  cases y with
  | none =>
    have hl0 : (live none).length = 0 := rfl
    have hk0 : k = 0 := by omega
    subst hk0
    by_cases h1 : 0 < max n 0
    · exact ((losen_p1 most x n h1).h0 (hg_n _ _))
    · exact ((losen_z1 most x n (by omega)).h0 (hg_n _ _))
  | some q =>
    have hll := live_len' hx
    have hlt := live_takeO (x := q) (k := k)
    obtain ⟨l, C, L, o, r⟩ := q
    obtain ⟨ho, hL, hlC, hC, hC0, hL0, hLm⟩ := hx
    dsimp only at ho hL hlC hC hC0 hL0 hLm hll hlt
    have hLb : L ≤ 1000000 := by omega
    have hkl : k ≤ L - o := by rw [hll] at hk; omega
    by_cases h1 : (L : Int) - (o : Int) < max n 0
    · have hk2 : k = L - o := by rw [hll] at hk; omega
      by_cases h2 : 0 < k
      · have e : takeB k (some ⟨l, C, L, o, r⟩) = some ⟨l, C, L, o + k, -1⟩ := congrArg (fun z => some (BX.mk l C L (o + k) z)) (if_pos h2)
        rw [e]
        exact (lose_ap1 most x l C L o r ho hL hlC hC hC0 hLb k n hk2 h1 h2)
      · have e : takeB k (some ⟨l, C, L, o, r⟩) = some ⟨l, C, L, o + k, 0⟩ := congrArg (fun z => some (BX.mk l C L (o + k) z)) (if_neg h2)
        rw [e]
        exact (lose_az1 most x l C L o r ho hL hlC hC hC0 hLb k n hk2 h1 (by omega))
    · have hn2 : max n 0 = (k : Int) := by rw [hll] at hk; omega
      by_cases h2 : 0 < k
      · have e : takeB k (some ⟨l, C, L, o, r⟩) = some ⟨l, C, L, o + k, -1⟩ := congrArg (fun z => some (BX.mk l C L (o + k) z)) (if_pos h2)
        rw [e]
        exact (lose_cp1 most x l C L o r ho hL hlC hC hC0 hLb k n hn2 hkl h2)
      · have e : takeB k (some ⟨l, C, L, o, r⟩) = some ⟨l, C, L, o + k, 0⟩ := congrArg (fun z => some (BX.mk l C L (o + k) z)) (if_neg h2)
        rw [e]
        exact (lose_cz1 most x l C L o r ho hL hlC hC hC0 hLb k n hn2 hkl (by omega))
theorem bend1O (most : Int) (x y : Option BX) (M : Nat) (hM : M ≤ 1000000) (hx : BOk y M) (a : Nat) (ha : a < (live y).length) (c : UInt8) : Meets Tryd.prog 12 [.ptr 500 0, .i64 1, .i64 (a : Int), .u8 c] [(500, some ⟨rowW most false 501 502 x y, 51, false⟩), (502, bK true y)] (.val .nilIface) [(502, bK true (bendB a c y))] := by
  cases y with
  | none => exact absurd ha (Nat.not_lt_zero _)
  | some q =>
    have hll := live_len' hx
    obtain ⟨l, C, L, o, r⟩ := q
    obtain ⟨ho, hL, hlC, hC, hC0, hL0, hLm⟩ := hx
    dsimp only at ho hL hlC hC hC0 hL0 hLm hll
    have hLb : L ≤ 1000000 := by omega
    exact (bend_ok1 most x l C L o r ho hL hlC hC hC0 hLb a c (by omega))
theorem bendn1O (most : Int) (x y : Option BX) (M : Nat) (hM : M ≤ 1000000) (hx : BOk y M) (n : Int) (hn : n < 0 ∨ ((live y).length : Int) ≤ n) (c : UInt8) (eo : Nat → Nat × Nat) : Meets Tryd.prog 12 [.ptr 500 0, .i64 1, .i64 n, .u8 c] [(500, some ⟨rowW most false 501 502 x y, 51, false⟩), (7, some ⟨.agg [.err 79 (8) (offE eo (8))], errT, false⟩)] (.err 79 (8) (offE eo (8))) [(500, some ⟨rowW most false 501 502 x y, 51, false⟩)] := by
  cases y with
  | none =>
    have hl0 : (live none).length = 0 := rfl
    by_cases h1 : n < 0
    · exact (bend_neg_nil1 most x n c h1 eo)
    · exact (bend_far_nil1 most x n c h1 (by omega) eo)
  | some q =>
    have hll := live_len' hx
    have ho := BXok.ho hx; have hLm := BXok.hLm hx
    by_cases h1 : n < 0
    · exact (bend_neg_sl1 most x q.C q.L q.o q.r (BXok.ho hx) (by omega) n c h1 eo)
    · exact (bend_far_sl1 most x q.C q.L q.o q.r (BXok.ho hx) (by omega) n c h1 (by omega) eo)
theorem down_ev (most : Int) (x y : Option BX) : Meets Tryd.prog 7 [.ptr 500 0] [(500, some ⟨rowW most false 501 502 x y, 51, true⟩)] (.tup []) [(500, some ⟨rowW most true 501 502 none none, 51, true⟩)] := by
  cases x with
  | none => exact down_nil0 most y
  | some q => exact down_sl0 most y q.C q.L q.o q.r
end Go.Proofs.YtpmoonglbcglaaaDoor
