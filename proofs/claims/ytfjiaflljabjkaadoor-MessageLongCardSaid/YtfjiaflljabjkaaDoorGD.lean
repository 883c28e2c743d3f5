/-
  Texts of this claim.
-/
import Derived.Test.YtfjiaflljabjkaaDoorGS
import Derived.Test.YtfjiaflljabjkaaDoorGK
namespace Go.Proofs.YtfjiaflljabjkaaDoor
open Go.RowKit
theorem parseback_94 (u0 : UInt32) (s0 : List UInt8) (hs0 : s0.length ≤ 32768) (hb : ([s0] : List (List UInt8)).any bigS = false) (eo : Nat → Nat × Nat) : Meets Tryd.prog 48 [.str (([94] ++ numB u0.toUInt64 4 4) ++ textB s0)] [(2, some ⟨.agg [.err 170 (2) (offE eo (2))], errT, false⟩), (3, some ⟨.agg [.err 170 (4) (offE eo (4))], errT, false⟩), (0, some ⟨.agg [.err 170 (3) (offE eo (3))], errT, false⟩), (20, some ⟨.agg kindCells, errT, false⟩)] (.tup [.agg [.i64 (94), .sl 1032 (0) (1) 1, .sl 1040 (0) (1) 1, .nilsl, .nilsl], .val .nilIface]) [(1032, some ⟨.agg32 [u0], 39, true⟩), (1040, some ⟨.aggS [s0], 9, true⟩)] := by
  have e0 : byteD (DI.mk (([94] ++ numB u0.toUInt64 4 4) ++ textB s0) 0) = (⟨(numB u0.toUInt64 4 4 ++ (textB s0 ++ [])), 0⟩, 94) := by
    rw [show (([94] ++ numB u0.toUInt64 4 4) ++ textB s0) = 94 :: (numB u0.toUInt64 4 4 ++ (textB s0 ++ [])) by simp]
    exact byteD_app _ _ _
  have e1 : u32D ((byteD (DI.mk (([94] ++ numB u0.toUInt64 4 4) ++ textB s0) 0)).1) = (⟨(textB s0 ++ []), 0⟩, u0) := by
    rw [e0]; exact u32D_app _ _ _
  have e2 : textD ((u32D ((byteD (DI.mk (([94] ++ numB u0.toUInt64 4 4) ++ textB s0) 0)).1)).1) 32768 = (⟨[], 0⟩, s0) := by
    rw [e1]; exact textD_app _ _ _ _ (by omega) (by omega)
  have f0 : (u32D ((byteD (DI.mk (([94] ++ numB u0.toUInt64 4 4) ++ textB s0) 0)).1)).2 = u0 := by rw [e1]
  have f1 : (textD ((u32D ((byteD (DI.mk (([94] ++ numB u0.toUInt64 4 4) ++ textB s0) 0)).1)).1) 32768).2 = s0 := by rw [e2]
  have hb' : ([(textD ((u32D ((byteD (DI.mk (([94] ++ numB u0.toUInt64 4 4) ++ textB s0) 0)).1)).1) 32768).2] : List (List UInt8)).any bigS = false := by
    simp only [f1]; exact hb
  have h := parse_94 (([94] ++ numB u0.toUInt64 4 4) ++ textB s0) (by simp) (by rw [e0]; rfl) (by rw [e2]; rfl) hb' eo
  rw [f0, f1] at h
  exact h
theorem parseback_2 (s0 : List UInt8) (hs0 : s0.length ≤ 32768) (hb : ([s0] : List (List UInt8)).any bigS = false) (eo : Nat → Nat × Nat) : Meets Tryd.prog 48 [.str ([2] ++ textB s0)] [(2, some ⟨.agg [.err 170 (2) (offE eo (2))], errT, false⟩), (3, some ⟨.agg [.err 170 (4) (offE eo (4))], errT, false⟩), (0, some ⟨.agg [.err 170 (3) (offE eo (3))], errT, false⟩), (20, some ⟨.agg kindCells, errT, false⟩)] (.tup [.agg [.i64 (2), .nilsl, .sl 1032 (0) (1) 1, .nilsl, .nilsl], .val .nilIface]) [(1032, some ⟨.aggS [s0], 9, true⟩)] := by
  have e0 : byteD (DI.mk ([2] ++ textB s0) 0) = (⟨(textB s0 ++ []), 0⟩, 2) := by
    rw [show ([2] ++ textB s0) = 2 :: (textB s0 ++ []) by simp]
    exact byteD_app _ _ _
  have e1 : textD ((byteD (DI.mk ([2] ++ textB s0) 0)).1) 32768 = (⟨[], 0⟩, s0) := by
    rw [e0]; exact textD_app _ _ _ _ (by omega) (by omega)
  have f0 : (textD ((byteD (DI.mk ([2] ++ textB s0) 0)).1) 32768).2 = s0 := by rw [e1]
  have hb' : ([(textD ((byteD (DI.mk ([2] ++ textB s0) 0)).1) 32768).2] : List (List UInt8)).any bigS = false := by
    simp only [f0]; exact hb
  have h := parse_2 ([2] ++ textB s0) (by simp) (by rw [e0]; rfl) (by rw [e1]; rfl) hb' eo
  rw [f0] at h
  exact h
theorem parseback_81 (s0 : List UInt8) (hb : ([s0] : List (List UInt8)).any bigS = false) (eo : Nat → Nat × Nat) : Meets Tryd.prog 48 [.str ([81] ++ s0)] [(2, some ⟨.agg [.err 170 (2) (offE eo (2))], errT, false⟩), (3, some ⟨.agg [.err 170 (4) (offE eo (4))], errT, false⟩), (0, some ⟨.agg [.err 170 (3) (offE eo (3))], errT, false⟩), (20, some ⟨.agg kindCells, errT, false⟩)] (.tup [.agg [.i64 (81), .nilsl, .sl 1032 (0) (1) 1, .nilsl, .nilsl], .val .nilIface]) [(1032, some ⟨.aggS [s0], 9, true⟩)] := by
  have e0 : byteD (DI.mk ([81] ++ s0) 0) = (⟨s0, 0⟩, 81) := by
    rw [show ([81] ++ s0) = 81 :: s0 by simp]
    exact byteD_app _ _ _
  have e1 : rawD ((byteD (DI.mk ([81] ++ s0) 0)).1) ((byteD (DI.mk ([81] ++ s0) 0)).1).r.length = (⟨[], 0⟩, s0) := by
    rw [e0]; exact rawD_all _ _
  have f0 : (rawD ((byteD (DI.mk ([81] ++ s0) 0)).1) ((byteD (DI.mk ([81] ++ s0) 0)).1).r.length).2 = s0 := by rw [e1]
  have hb' : ([(rawD ((byteD (DI.mk ([81] ++ s0) 0)).1) ((byteD (DI.mk ([81] ++ s0) 0)).1).r.length).2] : List (List UInt8)).any bigS = false := by
    simp only [f0]; exact hb
  have h := parse_81 ([81] ++ s0) (by simp) (by rw [e0]; rfl) (by rw [e1]; rfl) hb' eo
  rw [f0] at h
  exact h
theorem parseback_98 (u0 : UInt32) (s0 : List UInt8) (b0 : Bool) (s1 : List UInt8) (hs0 : s0.length ≤ 32768) (hb : ([s0, s1] : List (List UInt8)).any bigS = false) (eo : Nat → Nat × Nat) : Meets Tryd.prog 48 [.str (((([98] ++ numB u0.toUInt64 4 4) ++ textB s0) ++ boolB b0) ++ s1)] [(2, some ⟨.agg [.err 170 (2) (offE eo (2))], errT, false⟩), (3, some ⟨.agg [.err 170 (4) (offE eo (4))], errT, false⟩), (0, some ⟨.agg [.err 170 (3) (offE eo (3))], errT, false⟩), (20, some ⟨.agg kindCells, errT, false⟩)] (.tup [.agg [.i64 (98), .sl 1032 (0) (1) 1, .sl 1056 (0) (2) 1, .nilsl, .sl 1048 (0) (1) 1], .val .nilIface]) [(1032, some ⟨.agg32 [u0], 39, true⟩), (1056, some ⟨.aggS [s0, s1], 9, true⟩), (1048, some ⟨.aggT [b0], 4, true⟩)] := by
  have e0 : byteD (DI.mk (((([98] ++ numB u0.toUInt64 4 4) ++ textB s0) ++ boolB b0) ++ s1) 0) = (⟨(numB u0.toUInt64 4 4 ++ (textB s0 ++ (boolB b0 ++ s1))), 0⟩, 98) := by
    rw [show (((([98] ++ numB u0.toUInt64 4 4) ++ textB s0) ++ boolB b0) ++ s1) = 98 :: (numB u0.toUInt64 4 4 ++ (textB s0 ++ (boolB b0 ++ s1))) by simp [List.append_assoc]]
    exact byteD_app _ _ _
  have e1 : u32D ((byteD (DI.mk (((([98] ++ numB u0.toUInt64 4 4) ++ textB s0) ++ boolB b0) ++ s1) 0)).1) = (⟨(textB s0 ++ (boolB b0 ++ s1)), 0⟩, u0) := by
    rw [e0]; exact u32D_app _ _ _
  have e2 : textD ((u32D ((byteD (DI.mk (((([98] ++ numB u0.toUInt64 4 4) ++ textB s0) ++ boolB b0) ++ s1) 0)).1)).1) 32768 = (⟨(boolB b0 ++ s1), 0⟩, s0) := by
    rw [e1]; exact textD_app _ _ _ _ (by omega) (by omega)
  have e3 : boolD ((textD ((u32D ((byteD (DI.mk (((([98] ++ numB u0.toUInt64 4 4) ++ textB s0) ++ boolB b0) ++ s1) 0)).1)).1) 32768).1) = (⟨s1, 0⟩, b0) := by
    rw [e2]; exact boolD_app _ _ _
  have e4 : rawD ((boolD ((textD ((u32D ((byteD (DI.mk (((([98] ++ numB u0.toUInt64 4 4) ++ textB s0) ++ boolB b0) ++ s1) 0)).1)).1) 32768).1)).1) ((boolD ((textD ((u32D ((byteD (DI.mk (((([98] ++ numB u0.toUInt64 4 4) ++ textB s0) ++ boolB b0) ++ s1) 0)).1)).1) 32768).1)).1).r.length = (⟨[], 0⟩, s1) := by
    rw [e3]; exact rawD_all _ _
  have f0 : (u32D ((byteD (DI.mk (((([98] ++ numB u0.toUInt64 4 4) ++ textB s0) ++ boolB b0) ++ s1) 0)).1)).2 = u0 := by rw [e1]
  have f1 : (textD ((u32D ((byteD (DI.mk (((([98] ++ numB u0.toUInt64 4 4) ++ textB s0) ++ boolB b0) ++ s1) 0)).1)).1) 32768).2 = s0 := by rw [e2]
  have f2 : (boolD ((textD ((u32D ((byteD (DI.mk (((([98] ++ numB u0.toUInt64 4 4) ++ textB s0) ++ boolB b0) ++ s1) 0)).1)).1) 32768).1)).2 = b0 := by rw [e3]
  have f3 : (rawD ((boolD ((textD ((u32D ((byteD (DI.mk (((([98] ++ numB u0.toUInt64 4 4) ++ textB s0) ++ boolB b0) ++ s1) 0)).1)).1) 32768).1)).1) ((boolD ((textD ((u32D ((byteD (DI.mk (((([98] ++ numB u0.toUInt64 4 4) ++ textB s0) ++ boolB b0) ++ s1) 0)).1)).1) 32768).1)).1).r.length).2 = s1 := by rw [e4]
  have hb' : ([(textD ((u32D ((byteD (DI.mk (((([98] ++ numB u0.toUInt64 4 4) ++ textB s0) ++ boolB b0) ++ s1) 0)).1)).1) 32768).2, (rawD ((boolD ((textD ((u32D ((byteD (DI.mk (((([98] ++ numB u0.toUInt64 4 4) ++ textB s0) ++ boolB b0) ++ s1) 0)).1)).1) 32768).1)).1) ((boolD ((textD ((u32D ((byteD (DI.mk (((([98] ++ numB u0.toUInt64 4 4) ++ textB s0) ++ boolB b0) ++ s1) 0)).1)).1) 32768).1)).1).r.length).2] : List (List UInt8)).any bigS = false := by
    simp only [f1, f3]; exact hb
  have h := parse_98 (((([98] ++ numB u0.toUInt64 4 4) ++ textB s0) ++ boolB b0) ++ s1) (by simp) (by rw [e0]; rfl) (by rw [e4]; rfl) hb' eo
  rw [f0, f1, f2, f3] at h
  exact h
set_option maxRecDepth 100000 in
theorem bytesbig_94 (ss : List (List UInt8)) (hS : ss.length = 1) (hb : ss.any bigS = true) (eo : Nat → Nat × Nat) : Meets Tryd.prog 46 [.agg [.i64 (94), .sl 511 (0) (1) 1, .sl 512 (0) (1) 1, .nilsl, .nilsl]] [(512, some ⟨.aggS ss, 9, false⟩), (20, some ⟨.agg kindCells, errT, false⟩), (3, some ⟨.agg [.err 170 (4) (offE eo (4))], errT, false⟩)] (.str []) [(512, some ⟨.aggS ss, 9, false⟩)] := by
  refine meets_of_ev (nt := 31) Tryd.func46 rfl rfl (Nat.le_of_ble_eq_true rfl) ?_
  refine .seq ?_
  refine .region ?_
  refine .a (op_boxRow rfl rfl) trivial rfl ?_
  refine .q (op_assign rfl) trivial rfl ?_
  refine .nil ?_
  show Ev _ _ _ _ _
  refine .seq ?_
  refine .seq ?_
  refine .region ?_
  refine .q (op_loadRow Tryd.underlying76 rfl (by kernel_rfl) rfl rfl rfl (rfl)) trivial rfl ?_
  refine .q (op_call (U := []) [(511, 511), (512, 512)] [] (check_big_US 94 1 1 ss hS.symm (by decide) (by rfl) (by decide +kernel) (by decide +kernel) (by decide +kernel) (by decide +kernel) (by decide +kernel) hb eo) Tryd.func44 (by kernel_rfl) rfl rfl rfl (⟨⟨_, rfl, rfl, rfl⟩, trivial⟩) (⟨⟨_, _, rfl, rfl, rfl, rfl, (fun h => by cases h), rfl⟩, ⟨_, _, rfl, rfl, rfl, rfl, (fun h => by cases h), rfl⟩, ⟨_, _, rfl, rfl, rfl, rfl, (fun h => by cases h), rfl⟩, trivial⟩) (trivial) (⟨(fun h => by cases h), (fun h => by cases h), (fun h => by cases h), trivial⟩) rfl) trivial rfl ?_
  refine .q (op_eqErrNil (e := 4) Tryd.underlying61 rfl rfl) trivial rfl ?_
  refine .nil ?_
  show Ev _ _ _ _ _
  refine .cond_true rfl (rfl) ?_
  refine .seq ?_
  refine .region ?_
  refine .q (op_assign rfl) trivial rfl ?_
  refine .nil ?_
  show Ev _ _ _ _ _
  refine .ret ?_
  show RetOk _ _ _ _ _ _ _
  exact ret1v rfl (.inl rfl) rfl (rfl) ⟨rfl, trivial⟩
set_option maxRecDepth 100000 in
theorem bytesbig_2 (ss : List (List UInt8)) (hS : ss.length = 1) (hb : ss.any bigS = true) (eo : Nat → Nat × Nat) : Meets Tryd.prog 46 [.agg [.i64 (2), .nilsl, .sl 512 (0) (1) 1, .nilsl, .nilsl]] [(512, some ⟨.aggS ss, 9, false⟩), (20, some ⟨.agg kindCells, errT, false⟩), (3, some ⟨.agg [.err 170 (4) (offE eo (4))], errT, false⟩)] (.str []) [(512, some ⟨.aggS ss, 9, false⟩)] := by
  refine meets_of_ev (nt := 31) Tryd.func46 rfl rfl (Nat.le_of_ble_eq_true rfl) ?_
  refine .seq ?_
  refine .region ?_
  refine .a (op_boxRow rfl rfl) trivial rfl ?_
  refine .q (op_assign rfl) trivial rfl ?_
  refine .nil ?_
  show Ev _ _ _ _ _
  refine .seq ?_
  refine .seq ?_
  refine .region ?_
  refine .q (op_loadRow Tryd.underlying76 rfl (by kernel_rfl) rfl rfl rfl (rfl)) trivial rfl ?_
  refine .q (op_call (U := []) [(512, 512)] [] (check_big_S 2 1 ss hS.symm (by decide) (by rfl) (by decide +kernel) (by decide +kernel) (by decide +kernel) (by decide +kernel) (by decide +kernel) hb eo) Tryd.func44 (by kernel_rfl) rfl rfl rfl (⟨⟨_, rfl, rfl, rfl⟩, trivial⟩) (⟨⟨_, _, rfl, rfl, rfl, rfl, (fun h => by cases h), rfl⟩, ⟨_, _, rfl, rfl, rfl, rfl, (fun h => by cases h), rfl⟩, ⟨_, _, rfl, rfl, rfl, rfl, (fun h => by cases h), rfl⟩, trivial⟩) (trivial) (⟨(fun h => by cases h), (fun h => by cases h), (fun h => by cases h), trivial⟩) rfl) trivial rfl ?_
  refine .q (op_eqErrNil (e := 4) Tryd.underlying61 rfl rfl) trivial rfl ?_
  refine .nil ?_
  show Ev _ _ _ _ _
  refine .cond_true rfl (rfl) ?_
  refine .seq ?_
  refine .region ?_
  refine .q (op_assign rfl) trivial rfl ?_
  refine .nil ?_
  show Ev _ _ _ _ _
  refine .ret ?_
  show RetOk _ _ _ _ _ _ _
  exact ret1v rfl (.inl rfl) rfl (rfl) ⟨rfl, trivial⟩
set_option maxRecDepth 100000 in
theorem bytesbig_81 (ss : List (List UInt8)) (hS : ss.length = 1) (hb : ss.any bigS = true) (eo : Nat → Nat × Nat) : Meets Tryd.prog 46 [.agg [.i64 (81), .nilsl, .sl 512 (0) (1) 1, .nilsl, .nilsl]] [(512, some ⟨.aggS ss, 9, false⟩), (20, some ⟨.agg kindCells, errT, false⟩), (3, some ⟨.agg [.err 170 (4) (offE eo (4))], errT, false⟩)] (.str []) [(512, some ⟨.aggS ss, 9, false⟩)] := by
  refine meets_of_ev (nt := 31) Tryd.func46 rfl rfl (Nat.le_of_ble_eq_true rfl) ?_
  refine .seq ?_
  refine .region ?_
  refine .a (op_boxRow rfl rfl) trivial rfl ?_
  refine .q (op_assign rfl) trivial rfl ?_
  refine .nil ?_
  show Ev _ _ _ _ _
  refine .seq ?_
  refine .seq ?_
  refine .region ?_
  refine .q (op_loadRow Tryd.underlying76 rfl (by kernel_rfl) rfl rfl rfl (rfl)) trivial rfl ?_
  refine .q (op_call (U := []) [(512, 512)] [] (check_big_S 81 1 ss hS.symm (by decide) (by rfl) (by decide +kernel) (by decide +kernel) (by decide +kernel) (by decide +kernel) (by decide +kernel) hb eo) Tryd.func44 (by kernel_rfl) rfl rfl rfl (⟨⟨_, rfl, rfl, rfl⟩, trivial⟩) (⟨⟨_, _, rfl, rfl, rfl, rfl, (fun h => by cases h), rfl⟩, ⟨_, _, rfl, rfl, rfl, rfl, (fun h => by cases h), rfl⟩, ⟨_, _, rfl, rfl, rfl, rfl, (fun h => by cases h), rfl⟩, trivial⟩) (trivial) (⟨(fun h => by cases h), (fun h => by cases h), (fun h => by cases h), trivial⟩) rfl) trivial rfl ?_
  refine .q (op_eqErrNil (e := 4) Tryd.underlying61 rfl rfl) trivial rfl ?_
  refine .nil ?_
  show Ev _ _ _ _ _
  refine .cond_true rfl (rfl) ?_
  refine .seq ?_
  refine .region ?_
  refine .q (op_assign rfl) trivial rfl ?_
  refine .nil ?_
  show Ev _ _ _ _ _
  refine .ret ?_
  show RetOk _ _ _ _ _ _ _
  exact ret1v rfl (.inl rfl) rfl (rfl) ⟨rfl, trivial⟩
set_option maxRecDepth 100000 in
theorem bytesbig_98 (ss : List (List UInt8)) (hS : ss.length = 2) (hb : ss.any bigS = true) (eo : Nat → Nat × Nat) : Meets Tryd.prog 46 [.agg [.i64 (98), .sl 511 (0) (1) 1, .sl 512 (0) (2) 1, .nilsl, .sl 514 (0) (1) 1]] [(512, some ⟨.aggS ss, 9, false⟩), (20, some ⟨.agg kindCells, errT, false⟩), (3, some ⟨.agg [.err 170 (4) (offE eo (4))], errT, false⟩)] (.str []) [(512, some ⟨.aggS ss, 9, false⟩)] := by
  refine meets_of_ev (nt := 31) Tryd.func46 rfl rfl (Nat.le_of_ble_eq_true rfl) ?_
  refine .seq ?_
  refine .region ?_
  refine .a (op_boxRow rfl rfl) trivial rfl ?_
  refine .q (op_assign rfl) trivial rfl ?_
  refine .nil ?_
  show Ev _ _ _ _ _
  refine .seq ?_
  refine .seq ?_
  refine .region ?_
  refine .q (op_loadRow Tryd.underlying76 rfl (by kernel_rfl) rfl rfl rfl (rfl)) trivial rfl ?_
  refine .q (op_call (U := []) [(511, 511), (512, 512), (514, 514)] [] (check_big_USB 98 1 2 1 ss hS.symm (by decide) (by rfl) (by decide +kernel) (by decide +kernel) (by decide +kernel) (by decide +kernel) (by decide +kernel) hb eo) Tryd.func44 (by kernel_rfl) rfl rfl rfl (⟨⟨_, rfl, rfl, rfl⟩, trivial⟩) (⟨⟨_, _, rfl, rfl, rfl, rfl, (fun h => by cases h), rfl⟩, ⟨_, _, rfl, rfl, rfl, rfl, (fun h => by cases h), rfl⟩, ⟨_, _, rfl, rfl, rfl, rfl, (fun h => by cases h), rfl⟩, trivial⟩) (trivial) (⟨(fun h => by cases h), (fun h => by cases h), (fun h => by cases h), trivial⟩) rfl) trivial rfl ?_
  refine .q (op_eqErrNil (e := 4) Tryd.underlying61 rfl rfl) trivial rfl ?_
  refine .nil ?_
  show Ev _ _ _ _ _
  refine .cond_true rfl (rfl) ?_
  refine .seq ?_
  refine .region ?_
  refine .q (op_assign rfl) trivial rfl ?_
  refine .nil ?_
  show Ev _ _ _ _ _
  refine .ret ?_
  show RetOk _ _ _ _ _ _ _
  exact ret1v rfl (.inl rfl) rfl (rfl) ⟨rfl, trivial⟩
set_option maxRecDepth 100000 in
theorem parse_empty (eo : Nat → Nat × Nat) : Meets Tryd.prog 48 [.str []] [(2, some ⟨.agg [.err 170 (2) (offE eo (2))], errT, false⟩)] (.tup [.agg [.i64 (0), .nilsl, .nilsl, .nilsl, .nilsl], .err 170 (2) (offE eo (2))]) [] := by
  refine meets_of_ev (nt := 52) Tryd.func48 rfl rfl (Nat.le_of_ble_eq_true rfl) ?_
  refine .seq ?_
  refine .region ?_
  refine .a (op_allocRow zero76 rel_zero76 rfl) trivial rfl ?_
  refine .q (op_assign rfl) trivial rfl ?_
  refine .nil ?_
  show Ev _ _ _ _ _
  refine .seq ?_
  refine .seq ?_
  refine .region ?_
  refine .q (op_move rfl) trivial rfl ?_
  refine .q (op_eqS rfl rfl rfl) trivial rfl ?_
  refine .nil ?_
  show Ev _ _ _ _ _
  refine .cond_true rfl (rfl) ?_
  refine .seq ?_
  refine .drawnF [[], [], [0], [0, 1, 2]] [1, 2] [] [(1, ([2], [])), (2, ([], [1000]))] (by kernel_rfl) (by kernel_rfl) rfl ?_
  show DK _ [0, 1, 2, 3] _ _ _
  refine .q rfl (op_buildS (r := .agg [.i64 (0), .nilsl, .nilsl, .nilsl, .nilsl]) Tryd.underlying76 rfl zero76 rel_zero76 rfl rfl rfl rfl) trivial ?_
  refine .q rfl (op_load Tryd.underlying61 rfl rfl rfl rfl (by first | omega | (simp only [AV.len]; omega) | (simp only [AV.len]; omega) | assumption | (simp [AV.len]; done))) trivial ?_
  refine .w rfl (op_storeRow (by kernel_rfl) rfl rfl rfl rfl rfl (rfl) (rfl)) trivial rfl rfl ?_
  refine .q rfl (op_assign rfl) trivial ?_
  refine .nil ?_
  show Ev _ _ _ _ _
  refine .ret ?_
  show RetOk _ _ _ _ _ _ _
  exact retc2 rfl (.inl rfl) ⟨_, _, _, _, rfl, rfl, rfl, rfl, rfl, Tryd.underlying76, rfl, (by kernel_rfl)⟩ rfl trivial
end Go.Proofs.YtfjiaflljabjkaaDoor
namespace Go.Proofs.YtfjiaflljabjkaaDoor
open Go.RowKit
set_option maxRecDepth 100000 in
theorem messageLong_2_ok (eo : Nat → Nat × Nat) (hd : ∀ i j, i < 20 → j < 20 → i ≠ j → eo i ≠ eo j) (kind n : Int) (L : Nat) (hk : kind % 4 = 0) (hL : (L : Int) = 32760 + n % 16) (hl : L ≤ 32768) : Meets Tryd.prog 10 [.i64 kind, .i64 n] [(1, some ⟨.agg [.err 170 (1) (offE eo (1))], errT, false⟩), (2, some ⟨.agg [.err 170 (2) (offE eo (2))], errT, false⟩), (0, some ⟨.agg [.err 170 (3) (offE eo (3))], errT, false⟩), (3, some ⟨.agg [.err 170 (4) (offE eo (4))], errT, false⟩), (4, some ⟨.agg [.err 170 (5) (offE eo (5))], errT, false⟩), (5, some ⟨.agg [.err 170 (6) (offE eo (6))], errT, false⟩), (6, some ⟨.agg [.err 170 (7) (offE eo (7))], errT, false⟩), (7, some ⟨.agg [.err 170 (8) (offE eo (8))], errT, false⟩), (8, some ⟨.agg [.err 170 (9) (offE eo (9))], errT, false⟩), (9, some ⟨.agg [.err 170 (10) (offE eo (10))], errT, false⟩), (10, some ⟨.agg [.err 170 (11) (offE eo (11))], errT, false⟩), (11, some ⟨.agg [.err 170 (12) (offE eo (12))], errT, false⟩), (12, some ⟨.agg [.err 170 (13) (offE eo (13))], errT, false⟩), (13, some ⟨.agg [.err 170 (14) (offE eo (14))], errT, false⟩), (14, some ⟨.agg [.err 170 (15) (offE eo (15))], errT, false⟩), (15, some ⟨.agg [.err 170 (16) (offE eo (16))], errT, false⟩), (16, some ⟨.agg [.err 170 (17) (offE eo (17))], errT, false⟩), (17, some ⟨.agg [.err 170 (18) (offE eo (18))], errT, false⟩), (18, some ⟨.agg [.err 170 (19) (offE eo (19))], errT, false⟩), (19, some ⟨.agg [.err 170 (20) (offE eo (20))], errT, false⟩), (401, some ⟨.agg [], errT, false⟩), (402, some ⟨.agg [], errT, false⟩), (403, some ⟨.agg [], errT, false⟩), (404, some ⟨.agg [], errT, false⟩), (405, some ⟨.agg [], errT, false⟩), (406, some ⟨.agg [], errT, false⟩), (407, some ⟨.agg [], errT, false⟩), (408, some ⟨.agg [], errT, false⟩), (409, some ⟨.agg [], errT, false⟩), (410, some ⟨.agg [], errT, false⟩), (411, some ⟨.agg [], errT, false⟩), (412, some ⟨.agg [], errT, false⟩), (413, some ⟨.agg [], errT, false⟩), (414, some ⟨.agg [], errT, false⟩), (415, some ⟨.agg [], errT, false⟩), (416, some ⟨.agg [], errT, false⟩), (417, some ⟨.agg [], errT, false⟩), (418, some ⟨.agg [], errT, false⟩), (419, some ⟨.agg [], errT, false⟩), (420, some ⟨.agg [], errT, false⟩), (20, some ⟨.agg kindCells, errT, false⟩)] (.bool true) [] := by
  have hz : bigS (List.replicate L 0) = false := by
    unfold bigS; rw [List.length_replicate]; exact decide_eq_false (by omega)
  have hb : ([(List.replicate L 0)] : List (List UInt8)).any bigS = false := by
    simp only [List.any_cons, List.any_nil, hz]; rfl
  refine meets_of_ev (nt := 89) Tryd.func10 rfl rfl (Nat.le_of_ble_eq_true rfl) ?_
  refine .seq ?_
  refine .region ?_
  refine .q (op_assign rfl) trivial rfl ?_
  refine .nil ?_
  show Ev _ _ _ _ _
  refine .seq ?_
  refine .seq ?_
  refine .region ?_
  refine .q (op_call (U := []) [] [] (awake10_ev eo) Tryd.func42 (by kernel_rfl) rfl rfl rfl (trivial) (⟨⟨_, _, rfl, rfl, rfl, rfl, (fun h => by cases h), rfl⟩, ⟨_, _, rfl, rfl, rfl, rfl, (fun h => by cases h), rfl⟩, ⟨_, _, rfl, rfl, rfl, rfl, (fun h => by cases h), rfl⟩, ⟨_, _, rfl, rfl, rfl, rfl, (fun h => by cases h), rfl⟩, trivial⟩) (trivial) (⟨(fun h => by cases h), (fun h => by cases h), (fun h => by cases h), (fun h => by cases h), trivial⟩) rfl) trivial rfl ?_
  refine .q (op_notB rfl) trivial rfl ?_
  refine .nil ?_
  show Ev _ _ _ _ _
  refine .cond_false rfl (rfl) ?_
  refine .skip ?_
  show Ev _ _ _ _ _
  refine .seq ?_
  refine .region ?_
  refine .a (ap_build (us := [_, _, _, _]) (c := .aggI [_, _, _, _]) Tryd.underlying88 inf3 rfl (by decide) (by decide) ⟨rfl, rfl, rfl, rfl, rfl, rfl, rfl, rfl, rfl, rfl, rfl, rfl, trivial⟩ rfl) trivial rfl ?_
  refine .as (.sl 1000 0 4 1) rfl ?_
  refine .asH (.aggI [2, 94, 81, 98]) rfl ?_
  refine .q (op_move rfl) trivial rfl ?_
  refine .q (op_maskI (m := 3) rfl rfl (.inl rfl)) trivial rfl ?_
  refine .q (ap_idx0 Tryd.underlying88 inf3.sz rfl rfl (show kind % ((3 + 1 : Nat) : Int) = ((0 : Nat) : Int) by omega) (by decide)) trivial rfl ?_
  refine .q (op_load Tryd.underlying3 rfl rfl rfl rfl (by decide)) trivial rfl ?_
  refine .as (.i64 2) rfl ?_
  refine .q (op_assign rfl) trivial rfl ?_
  refine .nil ?_
  show Ev _ _ _ _ _
  refine .seq ?_
  refine .region ?_
  refine .q (op_move rfl) trivial rfl ?_
  refine .q (op_buildS (r := .agg [.i64 (2), .nilsl, .nilsl, .nilsl, .nilsl]) Tryd.underlying74 rfl zero74 rel_zero74 rfl rfl rfl rfl) trivial rfl ?_
  refine .a (op_allocRow zero74 rel_zero74 rfl) trivial rfl ?_
  refine .w (op_storeRow (by kernel_rfl) rfl rfl rfl rfl rfl (rfl) (rfl)) trivial rfl ?_
  refine .nil ?_
  show Ev _ _ _ _ _
  refine .seq ?_
  refine .region ?_
  refine .q (op_move rfl) trivial rfl ?_
  refine .q (op_maskI (m := 15) rfl rfl (.inr rfl)) trivial rfl ?_
  refine .q (op_addI rfl rfl ⟨by omega, by omega⟩) trivial rfl ?_
  refine .as (.i64 ((L : Nat) : Int)) (congrArg AV.i64 (by omega)) ?_
  refine .a (ap_make (n := L) (c := .aggB (List.replicate L 0)) Tryd.underlying25 inf5 rfl rfl rfl rfl (by omega) rel_zero5 rfl (by simp [AV.list, AV.parts])) trivial rfl ?_
  refine .q (op_bytes_str Tryd.underlying25 Tryd.underlying5 Tryd.underlying9 rfl rfl rfl (by simp)) trivial rfl ?_
  refine .as (.str (List.replicate L 0)) (congrArg AV.str (by simp)) ?_
  refine .q (op_assign rfl) trivial rfl ?_
  refine .nil ?_
  show Ev _ _ _ _ _
  refine .seq ?_
  refine .seq ?_
  refine .region ?_
  refine .q (op_move rfl) trivial rfl ?_
  refine .nil ?_
  show Ev _ _ _ _ _
  refine .block ?_
  refine .seq ?_
  refine .region ?_
  refine .q (op_cmpI rfl rfl rfl) trivial rfl ?_
  refine .q (op_assign rfl) trivial rfl ?_
  refine .nil ?_
  show Ev _ _ _ _ _
  refine .cond_false rfl (rfl) ?_
  refine .seq ?_
  refine .region ?_
  refine .q (op_cmpI rfl rfl rfl) trivial rfl ?_
  refine .q (op_assign rfl) trivial rfl ?_
  refine .nil ?_
  show Ev _ _ _ _ _
  refine .cond_false rfl (rfl) ?_
  refine .region ?_
  refine .q (op_move rfl) trivial rfl ?_
  refine .a (ap_build (us := [_]) (c := .aggS [_]) Tryd.underlying31 inf9 rfl (by decide) (by decide) ⟨rfl, rfl, rfl, trivial⟩ rfl) trivial rfl ?_
  refine .q (op_fieldAddr (m := 0) Tryd.underlying74 rfl (by kernel_rfl) rfl) trivial rfl ?_
  refine .as (.ptr 1008 2) rfl ?_
  refine .w (op_store (by kernel_rfl) rfl rfl rfl rfl rfl (show 2 < 5 by decide)) trivial rfl ?_
  refine .nil ?_
  show Ev _ _ _ _ _
  refine .seq ?_
  refine .region ?_
  refine .q (op_loadRow Tryd.underlying74 rfl (by kernel_rfl) rfl rfl rfl (rfl)) trivial rfl ?_
  refine .q (op_call (U := []) [(512, 1024)] [] (check_ok_S 2 1 [(List.replicate L 0)] rfl (by decide) (by rfl) (by decide +kernel) (by decide +kernel) (by decide +kernel) (by decide +kernel) (by decide +kernel) hb) Tryd.func44 (by kernel_rfl) rfl rfl rfl (⟨⟨_, rfl, rfl, rfl⟩, trivial⟩) (⟨⟨_, _, rfl, rfl, rfl, rfl, (fun h => by cases h), rfl⟩, ⟨_, _, rfl, rfl, rfl, rfl, (fun h => by cases h), rfl⟩, trivial⟩) (trivial) (⟨(fun h => by cases h), (fun h => by cases h), trivial⟩) rfl) trivial rfl ?_
  refine .asR (.err 170 0 (offE eo 0)) (nil_err _ _) ?_
  refine .q (op_call (U := []) [] [] (code_0 eo hd) Tryd.func30 (by kernel_rfl) rfl rfl rfl (⟨⟨_, rfl, rfl, rfl⟩, trivial⟩) (⟨⟨_, _, rfl, rfl, rfl, rfl, (fun h => by cases h), rfl⟩, ⟨_, _, rfl, rfl, rfl, rfl, (fun h => by cases h), rfl⟩, ⟨_, _, rfl, rfl, rfl, rfl, (fun h => by cases h), rfl⟩, ⟨_, _, rfl, rfl, rfl, rfl, (fun h => by cases h), rfl⟩, ⟨_, _, rfl, rfl, rfl, rfl, (fun h => by cases h), rfl⟩, ⟨_, _, rfl, rfl, rfl, rfl, (fun h => by cases h), rfl⟩, ⟨_, _, rfl, rfl, rfl, rfl, (fun h => by cases h), rfl⟩, ⟨_, _, rfl, rfl, rfl, rfl, (fun h => by cases h), rfl⟩, ⟨_, _, rfl, rfl, rfl, rfl, (fun h => by cases h), rfl⟩, ⟨_, _, rfl, rfl, rfl, rfl, (fun h => by cases h), rfl⟩, ⟨_, _, rfl, rfl, rfl, rfl, (fun h => by cases h), rfl⟩, ⟨_, _, rfl, rfl, rfl, rfl, (fun h => by cases h), rfl⟩, ⟨_, _, rfl, rfl, rfl, rfl, (fun h => by cases h), rfl⟩, ⟨_, _, rfl, rfl, rfl, rfl, (fun h => by cases h), rfl⟩, ⟨_, _, rfl, rfl, rfl, rfl, (fun h => by cases h), rfl⟩, ⟨_, _, rfl, rfl, rfl, rfl, (fun h => by cases h), rfl⟩, ⟨_, _, rfl, rfl, rfl, rfl, (fun h => by cases h), rfl⟩, ⟨_, _, rfl, rfl, rfl, rfl, (fun h => by cases h), rfl⟩, ⟨_, _, rfl, rfl, rfl, rfl, (fun h => by cases h), rfl⟩, ⟨_, _, rfl, rfl, rfl, rfl, (fun h => by cases h), rfl⟩, ⟨_, _, rfl, rfl, rfl, rfl, (fun h => by cases h), rfl⟩, ⟨_, _, rfl, rfl, rfl, rfl, (fun h => by cases h), rfl⟩, ⟨_, _, rfl, rfl, rfl, rfl, (fun h => by cases h), rfl⟩, ⟨_, _, rfl, rfl, rfl, rfl, (fun h => by cases h), rfl⟩, ⟨_, _, rfl, rfl, rfl, rfl, (fun h => by cases h), rfl⟩, ⟨_, _, rfl, rfl, rfl, rfl, (fun h => by cases h), rfl⟩, ⟨_, _, rfl, rfl, rfl, rfl, (fun h => by cases h), rfl⟩, ⟨_, _, rfl, rfl, rfl, rfl, (fun h => by cases h), rfl⟩, ⟨_, _, rfl, rfl, rfl, rfl, (fun h => by cases h), rfl⟩, ⟨_, _, rfl, rfl, rfl, rfl, (fun h => by cases h), rfl⟩, ⟨_, _, rfl, rfl, rfl, rfl, (fun h => by cases h), rfl⟩, ⟨_, _, rfl, rfl, rfl, rfl, (fun h => by cases h), rfl⟩, ⟨_, _, rfl, rfl, rfl, rfl, (fun h => by cases h), rfl⟩, ⟨_, _, rfl, rfl, rfl, rfl, (fun h => by cases h), rfl⟩, ⟨_, _, rfl, rfl, rfl, rfl, (fun h => by cases h), rfl⟩, ⟨_, _, rfl, rfl, rfl, rfl, (fun h => by cases h), rfl⟩, ⟨_, _, rfl, rfl, rfl, rfl, (fun h => by cases h), rfl⟩, ⟨_, _, rfl, rfl, rfl, rfl, (fun h => by cases h), rfl⟩, ⟨_, _, rfl, rfl, rfl, rfl, (fun h => by cases h), rfl⟩, ⟨_, _, rfl, rfl, rfl, rfl, (fun h => by cases h), rfl⟩, trivial⟩) (trivial) (⟨(fun h => by cases h), (fun h => by cases h), (fun h => by cases h), (fun h => by cases h), (fun h => by cases h), (fun h => by cases h), (fun h => by cases h), (fun h => by cases h), (fun h => by cases h), (fun h => by cases h), (fun h => by cases h), (fun h => by cases h), (fun h => by cases h), (fun h => by cases h), (fun h => by cases h), (fun h => by cases h), (fun h => by cases h), (fun h => by cases h), (fun h => by cases h), (fun h => by cases h), (fun h => by cases h), (fun h => by cases h), (fun h => by cases h), (fun h => by cases h), (fun h => by cases h), (fun h => by cases h), (fun h => by cases h), (fun h => by cases h), (fun h => by cases h), (fun h => by cases h), (fun h => by cases h), (fun h => by cases h), (fun h => by cases h), (fun h => by cases h), (fun h => by cases h), (fun h => by cases h), (fun h => by cases h), (fun h => by cases h), (fun h => by cases h), (fun h => by cases h), trivial⟩) rfl) trivial rfl ?_
  refine .as (.i64 0) rfl ?_
  refine .q (op_assign rfl) trivial rfl ?_
  refine .nil ?_
  show Ev _ _ _ _ _
  refine .seq ?_
  refine .region ?_
  refine .q (op_loadRow Tryd.underlying74 rfl (by kernel_rfl) rfl rfl rfl (rfl)) trivial rfl ?_
  refine .q (op_call (U := []) [(512, 1024)] [] (bytes_2 [(List.replicate L 0)] rfl hb) Tryd.func46 (by kernel_rfl) rfl rfl rfl (⟨⟨_, rfl, rfl, rfl⟩, trivial⟩) (⟨⟨_, _, rfl, rfl, rfl, rfl, (fun h => by cases h), rfl⟩, ⟨_, _, rfl, rfl, rfl, rfl, (fun h => by cases h), rfl⟩, trivial⟩) (trivial) (⟨(fun h => by cases h), (fun h => by cases h), trivial⟩) rfl) trivial rfl ?_
  refine .as (.str ([2] ++ textB (List.replicate L 0))) rfl ?_
  refine .q (op_assign rfl) trivial rfl ?_
  refine .nil ?_
  show Ev _ _ _ _ _
  refine .seq ?_
  refine .region ?_
  refine .q (op_move rfl) trivial rfl ?_
  refine .a (op_call (U := [(1032, some ⟨.aggS [(List.replicate L 0)], 9, true⟩)]) [] [(1032, 1032)] (parseback_2 (List.replicate L 0) (by simp; omega) hb eo) Tryd.func48 (by kernel_rfl) rfl rfl rfl (⟨⟨_, rfl, rfl, rfl⟩, trivial⟩) (⟨⟨_, _, rfl, rfl, rfl, rfl, (fun h => by cases h), rfl⟩, ⟨_, _, rfl, rfl, rfl, rfl, (fun h => by cases h), rfl⟩, ⟨_, _, rfl, rfl, rfl, rfl, (fun h => by cases h), rfl⟩, ⟨_, _, rfl, rfl, rfl, rfl, (fun h => by cases h), rfl⟩, trivial⟩) (⟨⟨1032, _, rfl, rfl, rfl, rfl, .inl rfl⟩, trivial⟩) (⟨(fun h => by cases h), (fun h => by cases h), (fun h => by cases h), (fun h => by cases h), trivial⟩) rfl) trivial rfl ?_
  refine .q (op_move rfl) trivial rfl ?_
  refine .q (op_extract rfl rfl) trivial rfl ?_
  refine .q (op_extract rfl rfl) trivial rfl ?_
  refine .a (op_allocRow zero76 rel_zero76 rfl) trivial rfl ?_
  refine .w (op_storeRow (by kernel_rfl) rfl rfl rfl rfl rfl (rfl) (rfl)) trivial rfl ?_
  refine .q (op_assign rfl) trivial rfl ?_
  refine .nil ?_
  show Ev _ _ _ _ _
  refine .seq ?_
  refine .region ?_
  refine .q (op_move rfl) trivial rfl ?_
  refine .q (op_loadRow Tryd.underlying74 rfl (by kernel_rfl) rfl rfl rfl (rfl)) trivial rfl ?_
  refine .q (op_call (U := []) [(512, 1024)] [] (rcheck_2_ok [(List.replicate L 0)] rfl hz) Tryd.func45 (by kernel_rfl) rfl rfl rfl (⟨⟨_, rfl, rfl, rfl⟩, trivial⟩) (⟨⟨_, _, rfl, rfl, rfl, rfl, (fun h => by cases h), rfl⟩, trivial⟩) (trivial) (⟨(fun h => by cases h), trivial⟩) rfl) trivial rfl ?_
  refine .q (op_cmpI rfl rfl rfl) trivial rfl ?_
  refine .q (op_move rfl) trivial rfl ?_
  refine .know (b' := true) (by decide) ?_
  refine .q (op_move rfl) ⟨_, rfl, rfl⟩ rfl ?_
  refine .q (op_cmpI rfl rfl rfl) ⟨_, rfl, rfl⟩ rfl ?_
  refine .q (op_move rfl) ⟨_, rfl, rfl⟩ rfl ?_
  refine .q (op_len_str Tryd.underlying9 rfl) ⟨_, rfl, rfl⟩ rfl ?_
  refine .q (op_cmpI rfl rfl rfl) ⟨_, rfl, rfl⟩ rfl ?_
  refine .as (.bool false) (congrArg AV.bool (by first | exact decide_eq_true (by simp; omega) | exact decide_eq_false (by simp; omega))) ?_
  refine .q (op_eqB Tryd.underlying4 rfl rfl rfl) ⟨_, rfl, rfl⟩ rfl ?_
  refine .q (op_pick_true rfl rfl rfl) trivial rfl ?_
  refine .q (op_move rfl) trivial rfl ?_
  refine .know (b' := true) (by decide) ?_
  refine .q (op_move rfl) ⟨_, rfl, rfl⟩ rfl ?_
  refine .q (op_cmpI rfl rfl rfl) ⟨_, rfl, rfl⟩ rfl ?_
  refine .q (op_move rfl) ⟨_, rfl, rfl⟩ rfl ?_
  refine .know (b' := true) (by decide) ?_
  refine .q (op_move rfl) ⟨_, rfl, rfl⟩ rfl ?_
  refine .q (op_eqNilNil Tryd.underlying61 rfl rfl) ⟨_, rfl, rfl⟩ rfl ?_
  refine .q (op_pick_true rfl rfl rfl) ⟨_, rfl, rfl⟩ rfl ?_
  refine .q (op_move rfl) ⟨_, rfl, rfl⟩ rfl ?_
  refine .know (b' := true) (rfl) ?_
  refine .q (op_loadRow Tryd.underlying76 rfl (by kernel_rfl) rfl rfl rfl (rfl)) ⟨_, rfl, rfl⟩ rfl ?_
  refine .q (op_loadRow Tryd.underlying74 rfl (by kernel_rfl) rfl rfl rfl (rfl)) ⟨_, rfl, rfl⟩ rfl ?_
  refine .q (op_call (U := []) [(512, 1032), (522, 1024)] [] (same_S 2 1 [(List.replicate L 0)] (by rfl) (by decide)) Tryd.func49 (by kernel_rfl) rfl rfl rfl (⟨⟨_, rfl, rfl, rfl⟩, ⟨_, rfl, rfl, rfl⟩, trivial⟩) (⟨⟨_, _, rfl, rfl, rfl, rfl, (fun h => by cases h), rfl⟩, ⟨_, _, rfl, rfl, rfl, rfl, (fun h => by cases h), rfl⟩, trivial⟩) (trivial) (⟨(fun h => by cases h), (fun h => by cases h), trivial⟩) rfl) ⟨_, rfl, rfl⟩ rfl ?_
  refine .q (op_pick_true rfl rfl rfl) ⟨_, rfl, rfl⟩ rfl ?_
  refine .q (op_move rfl) ⟨_, rfl, rfl⟩ rfl ?_
  refine .know (b' := true) (rfl) ?_
  refine .no ⟨_, rfl, rfl⟩ rfl ?_
  refine .no ⟨_, rfl, rfl⟩ rfl ?_
  refine .no ⟨_, rfl, rfl⟩ rfl ?_
  refine .noU ⟨_, rfl, rfl⟩ rfl ?_
  refine .noU ⟨_, rfl, rfl⟩ rfl ?_
  refine .no ⟨_, rfl, rfl⟩ rfl ?_
  refine .q (op_pick_true rfl rfl rfl) ⟨_, rfl, rfl⟩ rfl ?_
  refine .q (op_pick_true rfl rfl rfl) trivial rfl ?_
  refine .q (op_assign rfl) trivial rfl ?_
  refine .nil ?_
  show Ev _ _ _ _ _
  refine .ret ?_
  show RetOk _ _ _ _ _ _ _
  exact ret1v rfl (.inl rfl) rfl (by first | rfl | exact congrArg AV.bool (by decide)) trivial
set_option maxRecDepth 100000 in
theorem messageLong_2_big (eo : Nat → Nat × Nat) (hd : ∀ i j, i < 20 → j < 20 → i ≠ j → eo i ≠ eo j) (kind n : Int) (L : Nat) (hk : kind % 4 = 0) (hL : (L : Int) = 32760 + n % 16) (hl : 32768 < L) : Meets Tryd.prog 10 [.i64 kind, .i64 n] [(1, some ⟨.agg [.err 170 (1) (offE eo (1))], errT, false⟩), (2, some ⟨.agg [.err 170 (2) (offE eo (2))], errT, false⟩), (0, some ⟨.agg [.err 170 (3) (offE eo (3))], errT, false⟩), (3, some ⟨.agg [.err 170 (4) (offE eo (4))], errT, false⟩), (4, some ⟨.agg [.err 170 (5) (offE eo (5))], errT, false⟩), (5, some ⟨.agg [.err 170 (6) (offE eo (6))], errT, false⟩), (6, some ⟨.agg [.err 170 (7) (offE eo (7))], errT, false⟩), (7, some ⟨.agg [.err 170 (8) (offE eo (8))], errT, false⟩), (8, some ⟨.agg [.err 170 (9) (offE eo (9))], errT, false⟩), (9, some ⟨.agg [.err 170 (10) (offE eo (10))], errT, false⟩), (10, some ⟨.agg [.err 170 (11) (offE eo (11))], errT, false⟩), (11, some ⟨.agg [.err 170 (12) (offE eo (12))], errT, false⟩), (12, some ⟨.agg [.err 170 (13) (offE eo (13))], errT, false⟩), (13, some ⟨.agg [.err 170 (14) (offE eo (14))], errT, false⟩), (14, some ⟨.agg [.err 170 (15) (offE eo (15))], errT, false⟩), (15, some ⟨.agg [.err 170 (16) (offE eo (16))], errT, false⟩), (16, some ⟨.agg [.err 170 (17) (offE eo (17))], errT, false⟩), (17, some ⟨.agg [.err 170 (18) (offE eo (18))], errT, false⟩), (18, some ⟨.agg [.err 170 (19) (offE eo (19))], errT, false⟩), (19, some ⟨.agg [.err 170 (20) (offE eo (20))], errT, false⟩), (401, some ⟨.agg [], errT, false⟩), (402, some ⟨.agg [], errT, false⟩), (403, some ⟨.agg [], errT, false⟩), (404, some ⟨.agg [], errT, false⟩), (405, some ⟨.agg [], errT, false⟩), (406, some ⟨.agg [], errT, false⟩), (407, some ⟨.agg [], errT, false⟩), (408, some ⟨.agg [], errT, false⟩), (409, some ⟨.agg [], errT, false⟩), (410, some ⟨.agg [], errT, false⟩), (411, some ⟨.agg [], errT, false⟩), (412, some ⟨.agg [], errT, false⟩), (413, some ⟨.agg [], errT, false⟩), (414, some ⟨.agg [], errT, false⟩), (415, some ⟨.agg [], errT, false⟩), (416, some ⟨.agg [], errT, false⟩), (417, some ⟨.agg [], errT, false⟩), (418, some ⟨.agg [], errT, false⟩), (419, some ⟨.agg [], errT, false⟩), (420, some ⟨.agg [], errT, false⟩), (20, some ⟨.agg kindCells, errT, false⟩)] (.bool true) [] := by
  have hz : bigS (List.replicate L 0) = true := by
    unfold bigS; rw [List.length_replicate]; exact decide_eq_true (by omega)
  have hb : ([(List.replicate L 0)] : List (List UInt8)).any bigS = true := by
    simp only [List.any_cons, List.any_nil, hz]; rfl
  refine meets_of_ev (nt := 89) Tryd.func10 rfl rfl (Nat.le_of_ble_eq_true rfl) ?_
  refine .seq ?_
  refine .region ?_
  refine .q (op_assign rfl) trivial rfl ?_
  refine .nil ?_
  show Ev _ _ _ _ _
  refine .seq ?_
  refine .seq ?_
  refine .region ?_
  refine .q (op_call (U := []) [] [] (awake10_ev eo) Tryd.func42 (by kernel_rfl) rfl rfl rfl (trivial) (⟨⟨_, _, rfl, rfl, rfl, rfl, (fun h => by cases h), rfl⟩, ⟨_, _, rfl, rfl, rfl, rfl, (fun h => by cases h), rfl⟩, ⟨_, _, rfl, rfl, rfl, rfl, (fun h => by cases h), rfl⟩, ⟨_, _, rfl, rfl, rfl, rfl, (fun h => by cases h), rfl⟩, trivial⟩) (trivial) (⟨(fun h => by cases h), (fun h => by cases h), (fun h => by cases h), (fun h => by cases h), trivial⟩) rfl) trivial rfl ?_
  refine .q (op_notB rfl) trivial rfl ?_
  refine .nil ?_
  show Ev _ _ _ _ _
  refine .cond_false rfl (rfl) ?_
  refine .skip ?_
  show Ev _ _ _ _ _
  refine .seq ?_
  refine .region ?_
  refine .a (ap_build (us := [_, _, _, _]) (c := .aggI [_, _, _, _]) Tryd.underlying88 inf3 rfl (by decide) (by decide) ⟨rfl, rfl, rfl, rfl, rfl, rfl, rfl, rfl, rfl, rfl, rfl, rfl, trivial⟩ rfl) trivial rfl ?_
  refine .as (.sl 1000 0 4 1) rfl ?_
  refine .asH (.aggI [2, 94, 81, 98]) rfl ?_
  refine .q (op_move rfl) trivial rfl ?_
  refine .q (op_maskI (m := 3) rfl rfl (.inl rfl)) trivial rfl ?_
  refine .q (ap_idx0 Tryd.underlying88 inf3.sz rfl rfl (show kind % ((3 + 1 : Nat) : Int) = ((0 : Nat) : Int) by omega) (by decide)) trivial rfl ?_
  refine .q (op_load Tryd.underlying3 rfl rfl rfl rfl (by decide)) trivial rfl ?_
  refine .as (.i64 2) rfl ?_
  refine .q (op_assign rfl) trivial rfl ?_
  refine .nil ?_
  show Ev _ _ _ _ _
  refine .seq ?_
  refine .region ?_
  refine .q (op_move rfl) trivial rfl ?_
  refine .q (op_buildS (r := .agg [.i64 (2), .nilsl, .nilsl, .nilsl, .nilsl]) Tryd.underlying74 rfl zero74 rel_zero74 rfl rfl rfl rfl) trivial rfl ?_
  refine .a (op_allocRow zero74 rel_zero74 rfl) trivial rfl ?_
  refine .w (op_storeRow (by kernel_rfl) rfl rfl rfl rfl rfl (rfl) (rfl)) trivial rfl ?_
  refine .nil ?_
  show Ev _ _ _ _ _
  refine .seq ?_
  refine .region ?_
  refine .q (op_move rfl) trivial rfl ?_
  refine .q (op_maskI (m := 15) rfl rfl (.inr rfl)) trivial rfl ?_
  refine .q (op_addI rfl rfl ⟨by omega, by omega⟩) trivial rfl ?_
  refine .as (.i64 ((L : Nat) : Int)) (congrArg AV.i64 (by omega)) ?_
  refine .a (ap_make (n := L) (c := .aggB (List.replicate L 0)) Tryd.underlying25 inf5 rfl rfl rfl rfl (by omega) rel_zero5 rfl (by simp [AV.list, AV.parts])) trivial rfl ?_
  refine .q (op_bytes_str Tryd.underlying25 Tryd.underlying5 Tryd.underlying9 rfl rfl rfl (by simp)) trivial rfl ?_
  refine .as (.str (List.replicate L 0)) (congrArg AV.str (by simp)) ?_
  refine .q (op_assign rfl) trivial rfl ?_
  refine .nil ?_
  show Ev _ _ _ _ _
  refine .seq ?_
  refine .seq ?_
  refine .region ?_
  refine .q (op_move rfl) trivial rfl ?_
  refine .nil ?_
  show Ev _ _ _ _ _
  refine .block ?_
  refine .seq ?_
  refine .region ?_
  refine .q (op_cmpI rfl rfl rfl) trivial rfl ?_
  refine .q (op_assign rfl) trivial rfl ?_
  refine .nil ?_
  show Ev _ _ _ _ _
  refine .cond_false rfl (rfl) ?_
  refine .seq ?_
  refine .region ?_
  refine .q (op_cmpI rfl rfl rfl) trivial rfl ?_
  refine .q (op_assign rfl) trivial rfl ?_
  refine .nil ?_
  show Ev _ _ _ _ _
  refine .cond_false rfl (rfl) ?_
  refine .region ?_
  refine .q (op_move rfl) trivial rfl ?_
  refine .a (ap_build (us := [_]) (c := .aggS [_]) Tryd.underlying31 inf9 rfl (by decide) (by decide) ⟨rfl, rfl, rfl, trivial⟩ rfl) trivial rfl ?_
  refine .q (op_fieldAddr (m := 0) Tryd.underlying74 rfl (by kernel_rfl) rfl) trivial rfl ?_
  refine .as (.ptr 1008 2) rfl ?_
  refine .w (op_store (by kernel_rfl) rfl rfl rfl rfl rfl (show 2 < 5 by decide)) trivial rfl ?_
  refine .nil ?_
  show Ev _ _ _ _ _
  refine .seq ?_
  refine .region ?_
  refine .q (op_loadRow Tryd.underlying74 rfl (by kernel_rfl) rfl rfl rfl (rfl)) trivial rfl ?_
  refine .q (op_call (U := []) [(512, 1024)] [] (check_big_S 2 1 [(List.replicate L 0)] rfl (by decide) (by rfl) (by decide +kernel) (by decide +kernel) (by decide +kernel) (by decide +kernel) (by decide +kernel) hb eo) Tryd.func44 (by kernel_rfl) rfl rfl rfl (⟨⟨_, rfl, rfl, rfl⟩, trivial⟩) (⟨⟨_, _, rfl, rfl, rfl, rfl, (fun h => by cases h), rfl⟩, ⟨_, _, rfl, rfl, rfl, rfl, (fun h => by cases h), rfl⟩, ⟨_, _, rfl, rfl, rfl, rfl, (fun h => by cases h), rfl⟩, trivial⟩) (trivial) (⟨(fun h => by cases h), (fun h => by cases h), (fun h => by cases h), trivial⟩) rfl) trivial rfl ?_
  refine .q (op_call (U := []) [] [] (code_4 eo hd) Tryd.func30 (by kernel_rfl) rfl rfl rfl (⟨⟨_, rfl, rfl, rfl⟩, trivial⟩) (⟨⟨_, _, rfl, rfl, rfl, rfl, (fun h => by cases h), rfl⟩, ⟨_, _, rfl, rfl, rfl, rfl, (fun h => by cases h), rfl⟩, ⟨_, _, rfl, rfl, rfl, rfl, (fun h => by cases h), rfl⟩, ⟨_, _, rfl, rfl, rfl, rfl, (fun h => by cases h), rfl⟩, ⟨_, _, rfl, rfl, rfl, rfl, (fun h => by cases h), rfl⟩, ⟨_, _, rfl, rfl, rfl, rfl, (fun h => by cases h), rfl⟩, ⟨_, _, rfl, rfl, rfl, rfl, (fun h => by cases h), rfl⟩, ⟨_, _, rfl, rfl, rfl, rfl, (fun h => by cases h), rfl⟩, ⟨_, _, rfl, rfl, rfl, rfl, (fun h => by cases h), rfl⟩, ⟨_, _, rfl, rfl, rfl, rfl, (fun h => by cases h), rfl⟩, ⟨_, _, rfl, rfl, rfl, rfl, (fun h => by cases h), rfl⟩, ⟨_, _, rfl, rfl, rfl, rfl, (fun h => by cases h), rfl⟩, ⟨_, _, rfl, rfl, rfl, rfl, (fun h => by cases h), rfl⟩, ⟨_, _, rfl, rfl, rfl, rfl, (fun h => by cases h), rfl⟩, ⟨_, _, rfl, rfl, rfl, rfl, (fun h => by cases h), rfl⟩, ⟨_, _, rfl, rfl, rfl, rfl, (fun h => by cases h), rfl⟩, ⟨_, _, rfl, rfl, rfl, rfl, (fun h => by cases h), rfl⟩, ⟨_, _, rfl, rfl, rfl, rfl, (fun h => by cases h), rfl⟩, ⟨_, _, rfl, rfl, rfl, rfl, (fun h => by cases h), rfl⟩, ⟨_, _, rfl, rfl, rfl, rfl, (fun h => by cases h), rfl⟩, ⟨_, _, rfl, rfl, rfl, rfl, (fun h => by cases h), rfl⟩, ⟨_, _, rfl, rfl, rfl, rfl, (fun h => by cases h), rfl⟩, ⟨_, _, rfl, rfl, rfl, rfl, (fun h => by cases h), rfl⟩, ⟨_, _, rfl, rfl, rfl, rfl, (fun h => by cases h), rfl⟩, ⟨_, _, rfl, rfl, rfl, rfl, (fun h => by cases h), rfl⟩, ⟨_, _, rfl, rfl, rfl, rfl, (fun h => by cases h), rfl⟩, ⟨_, _, rfl, rfl, rfl, rfl, (fun h => by cases h), rfl⟩, ⟨_, _, rfl, rfl, rfl, rfl, (fun h => by cases h), rfl⟩, ⟨_, _, rfl, rfl, rfl, rfl, (fun h => by cases h), rfl⟩, ⟨_, _, rfl, rfl, rfl, rfl, (fun h => by cases h), rfl⟩, ⟨_, _, rfl, rfl, rfl, rfl, (fun h => by cases h), rfl⟩, ⟨_, _, rfl, rfl, rfl, rfl, (fun h => by cases h), rfl⟩, ⟨_, _, rfl, rfl, rfl, rfl, (fun h => by cases h), rfl⟩, ⟨_, _, rfl, rfl, rfl, rfl, (fun h => by cases h), rfl⟩, ⟨_, _, rfl, rfl, rfl, rfl, (fun h => by cases h), rfl⟩, ⟨_, _, rfl, rfl, rfl, rfl, (fun h => by cases h), rfl⟩, ⟨_, _, rfl, rfl, rfl, rfl, (fun h => by cases h), rfl⟩, ⟨_, _, rfl, rfl, rfl, rfl, (fun h => by cases h), rfl⟩, ⟨_, _, rfl, rfl, rfl, rfl, (fun h => by cases h), rfl⟩, ⟨_, _, rfl, rfl, rfl, rfl, (fun h => by cases h), rfl⟩, trivial⟩) (trivial) (⟨(fun h => by cases h), (fun h => by cases h), (fun h => by cases h), (fun h => by cases h), (fun h => by cases h), (fun h => by cases h), (fun h => by cases h), (fun h => by cases h), (fun h => by cases h), (fun h => by cases h), (fun h => by cases h), (fun h => by cases h), (fun h => by cases h), (fun h => by cases h), (fun h => by cases h), (fun h => by cases h), (fun h => by cases h), (fun h => by cases h), (fun h => by cases h), (fun h => by cases h), (fun h => by cases h), (fun h => by cases h), (fun h => by cases h), (fun h => by cases h), (fun h => by cases h), (fun h => by cases h), (fun h => by cases h), (fun h => by cases h), (fun h => by cases h), (fun h => by cases h), (fun h => by cases h), (fun h => by cases h), (fun h => by cases h), (fun h => by cases h), (fun h => by cases h), (fun h => by cases h), (fun h => by cases h), (fun h => by cases h), (fun h => by cases h), (fun h => by cases h), trivial⟩) rfl) trivial rfl ?_
  refine .as (.i64 4) rfl ?_
  refine .q (op_assign rfl) trivial rfl ?_
  refine .nil ?_
  show Ev _ _ _ _ _
  refine .seq ?_
  refine .region ?_
  refine .q (op_loadRow Tryd.underlying74 rfl (by kernel_rfl) rfl rfl rfl (rfl)) trivial rfl ?_
  refine .q (op_call (U := []) [(512, 1024)] [] (bytesbig_2 [(List.replicate L 0)] rfl hb eo) Tryd.func46 (by kernel_rfl) rfl rfl rfl (⟨⟨_, rfl, rfl, rfl⟩, trivial⟩) (⟨⟨_, _, rfl, rfl, rfl, rfl, (fun h => by cases h), rfl⟩, ⟨_, _, rfl, rfl, rfl, rfl, (fun h => by cases h), rfl⟩, ⟨_, _, rfl, rfl, rfl, rfl, (fun h => by cases h), rfl⟩, trivial⟩) (trivial) (⟨(fun h => by cases h), (fun h => by cases h), (fun h => by cases h), trivial⟩) rfl) trivial rfl ?_
  refine .as (.str []) rfl ?_
  refine .q (op_assign rfl) trivial rfl ?_
  refine .nil ?_
  show Ev _ _ _ _ _
  refine .seq ?_
  refine .region ?_
  refine .q (op_move rfl) trivial rfl ?_
  refine .q (op_call (U := []) [] [] (parse_empty eo) Tryd.func48 (by kernel_rfl) rfl rfl rfl (⟨⟨_, rfl, rfl, rfl⟩, trivial⟩) (⟨⟨_, _, rfl, rfl, rfl, rfl, (fun h => by cases h), rfl⟩, trivial⟩) (trivial) (⟨(fun h => by cases h), trivial⟩) rfl) trivial rfl ?_
  refine .q (op_move rfl) trivial rfl ?_
  refine .q (op_extract rfl rfl) trivial rfl ?_
  refine .q (op_extract rfl rfl) trivial rfl ?_
  refine .a (op_allocRow zero76 rel_zero76 rfl) trivial rfl ?_
  refine .w (op_storeRow (by kernel_rfl) rfl rfl rfl rfl rfl (rfl) (rfl)) trivial rfl ?_
  refine .q (op_assign rfl) trivial rfl ?_
  refine .nil ?_
  show Ev _ _ _ _ _
  refine .seq ?_
  refine .region ?_
  refine .q (op_move rfl) trivial rfl ?_
  refine .q (op_loadRow Tryd.underlying74 rfl (by kernel_rfl) rfl rfl rfl (rfl)) trivial rfl ?_
  refine .q (op_call (U := []) [(512, 1024)] [] (rcheck_2_big [(List.replicate L 0)] rfl hz) Tryd.func45 (by kernel_rfl) rfl rfl rfl (⟨⟨_, rfl, rfl, rfl⟩, trivial⟩) (⟨⟨_, _, rfl, rfl, rfl, rfl, (fun h => by cases h), rfl⟩, trivial⟩) (trivial) (⟨(fun h => by cases h), trivial⟩) rfl) trivial rfl ?_
  refine .q (op_cmpI rfl rfl rfl) trivial rfl ?_
  refine .q (op_move rfl) trivial rfl ?_
  refine .know (b' := true) (by decide) ?_
  refine .q (op_move rfl) ⟨_, rfl, rfl⟩ rfl ?_
  refine .q (op_cmpI rfl rfl rfl) ⟨_, rfl, rfl⟩ rfl ?_
  refine .q (op_move rfl) ⟨_, rfl, rfl⟩ rfl ?_
  refine .q (op_len_str Tryd.underlying9 rfl) ⟨_, rfl, rfl⟩ rfl ?_
  refine .q (op_cmpI rfl rfl rfl) ⟨_, rfl, rfl⟩ rfl ?_
  refine .as (.bool true) (congrArg AV.bool (by first | exact decide_eq_true (by simp; omega) | exact decide_eq_false (by simp; omega))) ?_
  refine .q (op_eqB Tryd.underlying4 rfl rfl rfl) ⟨_, rfl, rfl⟩ rfl ?_
  refine .q (op_pick_true rfl rfl rfl) trivial rfl ?_
  refine .q (op_move rfl) trivial rfl ?_
  refine .know (b' := true) (by decide) ?_
  refine .q (op_move rfl) ⟨_, rfl, rfl⟩ rfl ?_
  refine .q (op_cmpI rfl rfl rfl) ⟨_, rfl, rfl⟩ rfl ?_
  refine .q (op_move rfl) ⟨_, rfl, rfl⟩ rfl ?_
  refine .know (b' := false) (by decide) ?_
  refine .no ⟨_, rfl, rfl⟩ rfl ?_
  refine .no ⟨_, rfl, rfl⟩ rfl ?_
  refine .q (op_pick_false rfl rfl rfl) ⟨_, rfl, rfl⟩ rfl ?_
  refine .q (op_move rfl) ⟨_, rfl, rfl⟩ rfl ?_
  refine .no ⟨_, rfl, rfl⟩ rfl ?_
  refine .no ⟨_, rfl, rfl⟩ rfl ?_
  refine .no ⟨_, rfl, rfl⟩ rfl ?_
  refine .q (op_pick_false rfl rfl rfl) ⟨_, rfl, rfl⟩ rfl ?_
  refine .q (op_move rfl) ⟨_, rfl, rfl⟩ rfl ?_
  refine .q (op_move rfl) ⟨_, rfl, rfl⟩ rfl ?_
  refine .q (op_cmpI rfl rfl rfl) ⟨_, rfl, rfl⟩ rfl ?_
  refine .q (op_move rfl) ⟨_, rfl, rfl⟩ rfl ?_
  refine .know (b' := true) (by decide) ?_
  refine .q (op_move rfl) ⟨_, rfl, rfl⟩ rfl ?_
  refine .q (op_eqS rfl rfl rfl) ⟨_, rfl, rfl⟩ rfl ?_
  refine .q (op_pick_true rfl rfl rfl) ⟨_, rfl, rfl⟩ rfl ?_
  refine .q (op_pick_false rfl rfl rfl) ⟨_, rfl, rfl⟩ rfl ?_
  refine .q (op_pick_true rfl rfl rfl) trivial rfl ?_
  refine .q (op_assign rfl) trivial rfl ?_
  refine .nil ?_
  show Ev _ _ _ _ _
  refine .ret ?_
  show RetOk _ _ _ _ _ _ _
  exact ret1v rfl (.inl rfl) rfl (by first | rfl | exact congrArg AV.bool (by decide)) trivial
end Go.Proofs.YtfjiaflljabjkaaDoor
namespace Go.Proofs.YtfjiaflljabjkaaDoor
open Go.RowKit
set_option maxRecDepth 100000 in
theorem messageLong_94_ok (eo : Nat → Nat × Nat) (hd : ∀ i j, i < 20 → j < 20 → i ≠ j → eo i ≠ eo j) (kind n : Int) (L : Nat) (hk : kind % 4 = 1) (hL : (L : Int) = 32760 + n % 16) (hl : L ≤ 32768) : Meets Tryd.prog 10 [.i64 kind, .i64 n] [(1, some ⟨.agg [.err 170 (1) (offE eo (1))], errT, false⟩), (2, some ⟨.agg [.err 170 (2) (offE eo (2))], errT, false⟩), (0, some ⟨.agg [.err 170 (3) (offE eo (3))], errT, false⟩), (3, some ⟨.agg [.err 170 (4) (offE eo (4))], errT, false⟩), (4, some ⟨.agg [.err 170 (5) (offE eo (5))], errT, false⟩), (5, some ⟨.agg [.err 170 (6) (offE eo (6))], errT, false⟩), (6, some ⟨.agg [.err 170 (7) (offE eo (7))], errT, false⟩), (7, some ⟨.agg [.err 170 (8) (offE eo (8))], errT, false⟩), (8, some ⟨.agg [.err 170 (9) (offE eo (9))], errT, false⟩), (9, some ⟨.agg [.err 170 (10) (offE eo (10))], errT, false⟩), (10, some ⟨.agg [.err 170 (11) (offE eo (11))], errT, false⟩), (11, some ⟨.agg [.err 170 (12) (offE eo (12))], errT, false⟩), (12, some ⟨.agg [.err 170 (13) (offE eo (13))], errT, false⟩), (13, some ⟨.agg [.err 170 (14) (offE eo (14))], errT, false⟩), (14, some ⟨.agg [.err 170 (15) (offE eo (15))], errT, false⟩), (15, some ⟨.agg [.err 170 (16) (offE eo (16))], errT, false⟩), (16, some ⟨.agg [.err 170 (17) (offE eo (17))], errT, false⟩), (17, some ⟨.agg [.err 170 (18) (offE eo (18))], errT, false⟩), (18, some ⟨.agg [.err 170 (19) (offE eo (19))], errT, false⟩), (19, some ⟨.agg [.err 170 (20) (offE eo (20))], errT, false⟩), (401, some ⟨.agg [], errT, false⟩), (402, some ⟨.agg [], errT, false⟩), (403, some ⟨.agg [], errT, false⟩), (404, some ⟨.agg [], errT, false⟩), (405, some ⟨.agg [], errT, false⟩), (406, some ⟨.agg [], errT, false⟩), (407, some ⟨.agg [], errT, false⟩), (408, some ⟨.agg [], errT, false⟩), (409, some ⟨.agg [], errT, false⟩), (410, some ⟨.agg [], errT, false⟩), (411, some ⟨.agg [], errT, false⟩), (412, some ⟨.agg [], errT, false⟩), (413, some ⟨.agg [], errT, false⟩), (414, some ⟨.agg [], errT, false⟩), (415, some ⟨.agg [], errT, false⟩), (416, some ⟨.agg [], errT, false⟩), (417, some ⟨.agg [], errT, false⟩), (418, some ⟨.agg [], errT, false⟩), (419, some ⟨.agg [], errT, false⟩), (420, some ⟨.agg [], errT, false⟩), (20, some ⟨.agg kindCells, errT, false⟩)] (.bool true) [] := by
  have hz : bigS (List.replicate L 0) = false := by
    unfold bigS; rw [List.length_replicate]; exact decide_eq_false (by omega)
  have hb : ([(List.replicate L 0)] : List (List UInt8)).any bigS = false := by
    simp only [List.any_cons, List.any_nil, hz]; rfl
  refine meets_of_ev (nt := 89) Tryd.func10 rfl rfl (Nat.le_of_ble_eq_true rfl) ?_
  refine .seq ?_
  refine .region ?_
  refine .q (op_assign rfl) trivial rfl ?_
  refine .nil ?_
  show Ev _ _ _ _ _
  refine .seq ?_
  refine .seq ?_
  refine .region ?_
  refine .q (op_call (U := []) [] [] (awake10_ev eo) Tryd.func42 (by kernel_rfl) rfl rfl rfl (trivial) (⟨⟨_, _, rfl, rfl, rfl, rfl, (fun h => by cases h), rfl⟩, ⟨_, _, rfl, rfl, rfl, rfl, (fun h => by cases h), rfl⟩, ⟨_, _, rfl, rfl, rfl, rfl, (fun h => by cases h), rfl⟩, ⟨_, _, rfl, rfl, rfl, rfl, (fun h => by cases h), rfl⟩, trivial⟩) (trivial) (⟨(fun h => by cases h), (fun h => by cases h), (fun h => by cases h), (fun h => by cases h), trivial⟩) rfl) trivial rfl ?_
  refine .q (op_notB rfl) trivial rfl ?_
  refine .nil ?_
  show Ev _ _ _ _ _
  refine .cond_false rfl (rfl) ?_
  refine .skip ?_
  show Ev _ _ _ _ _
  refine .seq ?_
  refine .region ?_
  refine .a (ap_build (us := [_, _, _, _]) (c := .aggI [_, _, _, _]) Tryd.underlying88 inf3 rfl (by decide) (by decide) ⟨rfl, rfl, rfl, rfl, rfl, rfl, rfl, rfl, rfl, rfl, rfl, rfl, trivial⟩ rfl) trivial rfl ?_
  refine .as (.sl 1000 0 4 1) rfl ?_
  refine .asH (.aggI [2, 94, 81, 98]) rfl ?_
  refine .q (op_move rfl) trivial rfl ?_
  refine .q (op_maskI (m := 3) rfl rfl (.inl rfl)) trivial rfl ?_
  refine .q (ap_idx0 Tryd.underlying88 inf3.sz rfl rfl (show kind % ((3 + 1 : Nat) : Int) = ((1 : Nat) : Int) by omega) (by decide)) trivial rfl ?_
  refine .q (op_load Tryd.underlying3 rfl rfl rfl rfl (by decide)) trivial rfl ?_
  refine .as (.i64 94) rfl ?_
  refine .q (op_assign rfl) trivial rfl ?_
  refine .nil ?_
  show Ev _ _ _ _ _
  refine .seq ?_
  refine .region ?_
  refine .q (op_move rfl) trivial rfl ?_
  refine .q (op_buildS (r := .agg [.i64 (94), .nilsl, .nilsl, .nilsl, .nilsl]) Tryd.underlying74 rfl zero74 rel_zero74 rfl rfl rfl rfl) trivial rfl ?_
  refine .a (op_allocRow zero74 rel_zero74 rfl) trivial rfl ?_
  refine .w (op_storeRow (by kernel_rfl) rfl rfl rfl rfl rfl (rfl) (rfl)) trivial rfl ?_
  refine .nil ?_
  show Ev _ _ _ _ _
  refine .seq ?_
  refine .region ?_
  refine .q (op_move rfl) trivial rfl ?_
  refine .q (op_maskI (m := 15) rfl rfl (.inr rfl)) trivial rfl ?_
  refine .q (op_addI rfl rfl ⟨by omega, by omega⟩) trivial rfl ?_
  refine .as (.i64 ((L : Nat) : Int)) (congrArg AV.i64 (by omega)) ?_
  refine .a (ap_make (n := L) (c := .aggB (List.replicate L 0)) Tryd.underlying25 inf5 rfl rfl rfl rfl (by omega) rel_zero5 rfl (by simp [AV.list, AV.parts])) trivial rfl ?_
  refine .q (op_bytes_str Tryd.underlying25 Tryd.underlying5 Tryd.underlying9 rfl rfl rfl (by simp)) trivial rfl ?_
  refine .as (.str (List.replicate L 0)) (congrArg AV.str (by simp)) ?_
  refine .q (op_assign rfl) trivial rfl ?_
  refine .nil ?_
  show Ev _ _ _ _ _
  refine .seq ?_
  refine .seq ?_
  refine .region ?_
  refine .q (op_move rfl) trivial rfl ?_
  refine .nil ?_
  show Ev _ _ _ _ _
  refine .block ?_
  refine .seq ?_
  refine .region ?_
  refine .q (op_cmpI rfl rfl rfl) trivial rfl ?_
  refine .q (op_assign rfl) trivial rfl ?_
  refine .nil ?_
  show Ev _ _ _ _ _
  refine .cond_true rfl (rfl) ?_
  refine .region ?_
  refine .a (ap_build (us := [_]) (c := .agg32 [_]) Tryd.underlying70 inf39 rfl (by decide) (by decide) ⟨rfl, rfl, rfl, trivial⟩ rfl) trivial rfl ?_
  refine .q (op_move rfl) trivial rfl ?_
  refine .a (ap_build (us := [_]) (c := .aggS [_]) Tryd.underlying31 inf9 rfl (by decide) (by decide) ⟨rfl, rfl, rfl, trivial⟩ rfl) trivial rfl ?_
  refine .q (op_fieldAddr (m := 0) Tryd.underlying74 rfl (by kernel_rfl) rfl) trivial rfl ?_
  refine .as (.ptr 1008 1) rfl ?_
  refine .w (op_store (by kernel_rfl) rfl rfl rfl rfl rfl (show 1 < 5 by decide)) trivial rfl ?_
  refine .q (op_fieldAddr (m := 0) Tryd.underlying74 rfl (by kernel_rfl) rfl) trivial rfl ?_
  refine .as (.ptr 1008 2) rfl ?_
  refine .w (op_store (by kernel_rfl) rfl rfl rfl rfl rfl (show 2 < 5 by decide)) trivial rfl ?_
  refine .nil ?_
  show Ev _ _ _ _ _
  refine .seq ?_
  refine .region ?_
  refine .q (op_loadRow Tryd.underlying74 rfl (by kernel_rfl) rfl rfl rfl (rfl)) trivial rfl ?_
  refine .q (op_call (U := []) [(511, 1024), (512, 1032)] [] (check_ok_US 94 1 1 [(List.replicate L 0)] rfl (by decide) (by rfl) (by decide +kernel) (by decide +kernel) (by decide +kernel) (by decide +kernel) (by decide +kernel) hb) Tryd.func44 (by kernel_rfl) rfl rfl rfl (⟨⟨_, rfl, rfl, rfl⟩, trivial⟩) (⟨⟨_, _, rfl, rfl, rfl, rfl, (fun h => by cases h), rfl⟩, ⟨_, _, rfl, rfl, rfl, rfl, (fun h => by cases h), rfl⟩, trivial⟩) (trivial) (⟨(fun h => by cases h), (fun h => by cases h), trivial⟩) rfl) trivial rfl ?_
  refine .asR (.err 170 0 (offE eo 0)) (nil_err _ _) ?_
  refine .q (op_call (U := []) [] [] (code_0 eo hd) Tryd.func30 (by kernel_rfl) rfl rfl rfl (⟨⟨_, rfl, rfl, rfl⟩, trivial⟩) (⟨⟨_, _, rfl, rfl, rfl, rfl, (fun h => by cases h), rfl⟩, ⟨_, _, rfl, rfl, rfl, rfl, (fun h => by cases h), rfl⟩, ⟨_, _, rfl, rfl, rfl, rfl, (fun h => by cases h), rfl⟩, ⟨_, _, rfl, rfl, rfl, rfl, (fun h => by cases h), rfl⟩, ⟨_, _, rfl, rfl, rfl, rfl, (fun h => by cases h), rfl⟩, ⟨_, _, rfl, rfl, rfl, rfl, (fun h => by cases h), rfl⟩, ⟨_, _, rfl, rfl, rfl, rfl, (fun h => by cases h), rfl⟩, ⟨_, _, rfl, rfl, rfl, rfl, (fun h => by cases h), rfl⟩, ⟨_, _, rfl, rfl, rfl, rfl, (fun h => by cases h), rfl⟩, ⟨_, _, rfl, rfl, rfl, rfl, (fun h => by cases h), rfl⟩, ⟨_, _, rfl, rfl, rfl, rfl, (fun h => by cases h), rfl⟩, ⟨_, _, rfl, rfl, rfl, rfl, (fun h => by cases h), rfl⟩, ⟨_, _, rfl, rfl, rfl, rfl, (fun h => by cases h), rfl⟩, ⟨_, _, rfl, rfl, rfl, rfl, (fun h => by cases h), rfl⟩, ⟨_, _, rfl, rfl, rfl, rfl, (fun h => by cases h), rfl⟩, ⟨_, _, rfl, rfl, rfl, rfl, (fun h => by cases h), rfl⟩, ⟨_, _, rfl, rfl, rfl, rfl, (fun h => by cases h), rfl⟩, ⟨_, _, rfl, rfl, rfl, rfl, (fun h => by cases h), rfl⟩, ⟨_, _, rfl, rfl, rfl, rfl, (fun h => by cases h), rfl⟩, ⟨_, _, rfl, rfl, rfl, rfl, (fun h => by cases h), rfl⟩, ⟨_, _, rfl, rfl, rfl, rfl, (fun h => by cases h), rfl⟩, ⟨_, _, rfl, rfl, rfl, rfl, (fun h => by cases h), rfl⟩, ⟨_, _, rfl, rfl, rfl, rfl, (fun h => by cases h), rfl⟩, ⟨_, _, rfl, rfl, rfl, rfl, (fun h => by cases h), rfl⟩, ⟨_, _, rfl, rfl, rfl, rfl, (fun h => by cases h), rfl⟩, ⟨_, _, rfl, rfl, rfl, rfl, (fun h => by cases h), rfl⟩, ⟨_, _, rfl, rfl, rfl, rfl, (fun h => by cases h), rfl⟩, ⟨_, _, rfl, rfl, rfl, rfl, (fun h => by cases h), rfl⟩, ⟨_, _, rfl, rfl, rfl, rfl, (fun h => by cases h), rfl⟩, ⟨_, _, rfl, rfl, rfl, rfl, (fun h => by cases h), rfl⟩, ⟨_, _, rfl, rfl, rfl, rfl, (fun h => by cases h), rfl⟩, ⟨_, _, rfl, rfl, rfl, rfl, (fun h => by cases h), rfl⟩, ⟨_, _, rfl, rfl, rfl, rfl, (fun h => by cases h), rfl⟩, ⟨_, _, rfl, rfl, rfl, rfl, (fun h => by cases h), rfl⟩, ⟨_, _, rfl, rfl, rfl, rfl, (fun h => by cases h), rfl⟩, ⟨_, _, rfl, rfl, rfl, rfl, (fun h => by cases h), rfl⟩, ⟨_, _, rfl, rfl, rfl, rfl, (fun h => by cases h), rfl⟩, ⟨_, _, rfl, rfl, rfl, rfl, (fun h => by cases h), rfl⟩, ⟨_, _, rfl, rfl, rfl, rfl, (fun h => by cases h), rfl⟩, ⟨_, _, rfl, rfl, rfl, rfl, (fun h => by cases h), rfl⟩, trivial⟩) (trivial) (⟨(fun h => by cases h), (fun h => by cases h), (fun h => by cases h), (fun h => by cases h), (fun h => by cases h), (fun h => by cases h), (fun h => by cases h), (fun h => by cases h), (fun h => by cases h), (fun h => by cases h), (fun h => by cases h), (fun h => by cases h), (fun h => by cases h), (fun h => by cases h), (fun h => by cases h), (fun h => by cases h), (fun h => by cases h), (fun h => by cases h), (fun h => by cases h), (fun h => by cases h), (fun h => by cases h), (fun h => by cases h), (fun h => by cases h), (fun h => by cases h), (fun h => by cases h), (fun h => by cases h), (fun h => by cases h), (fun h => by cases h), (fun h => by cases h), (fun h => by cases h), (fun h => by cases h), (fun h => by cases h), (fun h => by cases h), (fun h => by cases h), (fun h => by cases h), (fun h => by cases h), (fun h => by cases h), (fun h => by cases h), (fun h => by cases h), (fun h => by cases h), trivial⟩) rfl) trivial rfl ?_
  refine .as (.i64 0) rfl ?_
  refine .q (op_assign rfl) trivial rfl ?_
  refine .nil ?_
  show Ev _ _ _ _ _
  refine .seq ?_
  refine .region ?_
  refine .q (op_loadRow Tryd.underlying74 rfl (by kernel_rfl) rfl rfl rfl (rfl)) trivial rfl ?_
  refine .q (op_call (U := []) [(511, 1024), (512, 1032)] [] (bytes_94 [1] rfl [(List.replicate L 0)] rfl hb) Tryd.func46 (by kernel_rfl) rfl rfl rfl (⟨⟨_, rfl, rfl, rfl⟩, trivial⟩) (⟨⟨_, _, rfl, rfl, rfl, rfl, (fun h => by cases h), rfl⟩, ⟨_, _, rfl, rfl, rfl, rfl, (fun h => by cases h), rfl⟩, ⟨_, _, rfl, rfl, rfl, rfl, (fun h => by cases h), rfl⟩, trivial⟩) (trivial) (⟨(fun h => by cases h), (fun h => by cases h), (fun h => by cases h), trivial⟩) rfl) trivial rfl ?_
  refine .as (.str (([94] ++ numB (1 : UInt32).toUInt64 4 4) ++ textB (List.replicate L 0))) rfl ?_
  refine .q (op_assign rfl) trivial rfl ?_
  refine .nil ?_
  show Ev _ _ _ _ _
  refine .seq ?_
  refine .region ?_
  refine .q (op_move rfl) trivial rfl ?_
  refine .a (op_call (U := [(1040, some ⟨.agg32 [1], 39, true⟩), (1041, some ⟨.aggS [(List.replicate L 0)], 9, true⟩)]) [] [(1040, 1032), (1041, 1040)] (parseback_94 1 (List.replicate L 0) (by simp; omega) hb eo) Tryd.func48 (by kernel_rfl) rfl rfl rfl (⟨⟨_, rfl, rfl, rfl⟩, trivial⟩) (⟨⟨_, _, rfl, rfl, rfl, rfl, (fun h => by cases h), rfl⟩, ⟨_, _, rfl, rfl, rfl, rfl, (fun h => by cases h), rfl⟩, ⟨_, _, rfl, rfl, rfl, rfl, (fun h => by cases h), rfl⟩, ⟨_, _, rfl, rfl, rfl, rfl, (fun h => by cases h), rfl⟩, trivial⟩) (⟨⟨1032, _, rfl, rfl, rfl, rfl, .inl rfl⟩, ⟨1040, _, rfl, rfl, rfl, rfl, .inl rfl⟩, trivial⟩) (⟨(fun h => by cases h), (fun h => by cases h), (fun h => by cases h), (fun h => by cases h), trivial⟩) rfl) trivial rfl ?_
  refine .q (op_move rfl) trivial rfl ?_
  refine .q (op_extract rfl rfl) trivial rfl ?_
  refine .q (op_extract rfl rfl) trivial rfl ?_
  refine .a (op_allocRow zero76 rel_zero76 rfl) trivial rfl ?_
  refine .w (op_storeRow (by kernel_rfl) rfl rfl rfl rfl rfl (rfl) (rfl)) trivial rfl ?_
  refine .q (op_assign rfl) trivial rfl ?_
  refine .nil ?_
  show Ev _ _ _ _ _
  refine .seq ?_
  refine .region ?_
  refine .q (op_move rfl) trivial rfl ?_
  refine .q (op_loadRow Tryd.underlying74 rfl (by kernel_rfl) rfl rfl rfl (rfl)) trivial rfl ?_
  refine .q (op_call (U := []) [(511, 1024), (512, 1032)] [] (rcheck_94_ok [(List.replicate L 0)] rfl hz) Tryd.func45 (by kernel_rfl) rfl rfl rfl (⟨⟨_, rfl, rfl, rfl⟩, trivial⟩) (⟨⟨_, _, rfl, rfl, rfl, rfl, (fun h => by cases h), rfl⟩, trivial⟩) (trivial) (⟨(fun h => by cases h), trivial⟩) rfl) trivial rfl ?_
  refine .q (op_cmpI rfl rfl rfl) trivial rfl ?_
  refine .q (op_move rfl) trivial rfl ?_
  refine .know (b' := true) (by decide) ?_
  refine .q (op_move rfl) ⟨_, rfl, rfl⟩ rfl ?_
  refine .q (op_cmpI rfl rfl rfl) ⟨_, rfl, rfl⟩ rfl ?_
  refine .q (op_move rfl) ⟨_, rfl, rfl⟩ rfl ?_
  refine .q (op_len_str Tryd.underlying9 rfl) ⟨_, rfl, rfl⟩ rfl ?_
  refine .q (op_cmpI rfl rfl rfl) ⟨_, rfl, rfl⟩ rfl ?_
  refine .as (.bool false) (congrArg AV.bool (by first | exact decide_eq_true (by simp; omega) | exact decide_eq_false (by simp; omega))) ?_
  refine .q (op_eqB Tryd.underlying4 rfl rfl rfl) ⟨_, rfl, rfl⟩ rfl ?_
  refine .q (op_pick_true rfl rfl rfl) trivial rfl ?_
  refine .q (op_move rfl) trivial rfl ?_
  refine .know (b' := true) (by decide) ?_
  refine .q (op_move rfl) ⟨_, rfl, rfl⟩ rfl ?_
  refine .q (op_cmpI rfl rfl rfl) ⟨_, rfl, rfl⟩ rfl ?_
  refine .q (op_move rfl) ⟨_, rfl, rfl⟩ rfl ?_
  refine .know (b' := true) (by decide) ?_
  refine .q (op_move rfl) ⟨_, rfl, rfl⟩ rfl ?_
  refine .q (op_eqNilNil Tryd.underlying61 rfl rfl) ⟨_, rfl, rfl⟩ rfl ?_
  refine .q (op_pick_true rfl rfl rfl) ⟨_, rfl, rfl⟩ rfl ?_
  refine .q (op_move rfl) ⟨_, rfl, rfl⟩ rfl ?_
  refine .know (b' := true) (rfl) ?_
  refine .q (op_loadRow Tryd.underlying76 rfl (by kernel_rfl) rfl rfl rfl (rfl)) ⟨_, rfl, rfl⟩ rfl ?_
  refine .q (op_loadRow Tryd.underlying74 rfl (by kernel_rfl) rfl rfl rfl (rfl)) ⟨_, rfl, rfl⟩ rfl ?_
  refine .q (op_call (U := []) [(511, 1040), (521, 1024), (512, 1041), (522, 1032)] [] (same_US 94 1 1 [1] (by rfl) (by decide) [(List.replicate L 0)] (by rfl) (by decide)) Tryd.func49 (by kernel_rfl) rfl rfl rfl (⟨⟨_, rfl, rfl, rfl⟩, ⟨_, rfl, rfl, rfl⟩, trivial⟩) (⟨⟨_, _, rfl, rfl, rfl, rfl, (fun h => by cases h), rfl⟩, ⟨_, _, rfl, rfl, rfl, rfl, (fun h => by cases h), rfl⟩, ⟨_, _, rfl, rfl, rfl, rfl, (fun h => by cases h), rfl⟩, ⟨_, _, rfl, rfl, rfl, rfl, (fun h => by cases h), rfl⟩, trivial⟩) (trivial) (⟨(fun h => by cases h), (fun h => by cases h), (fun h => by cases h), (fun h => by cases h), trivial⟩) rfl) ⟨_, rfl, rfl⟩ rfl ?_
  refine .q (op_pick_true rfl rfl rfl) ⟨_, rfl, rfl⟩ rfl ?_
  refine .q (op_move rfl) ⟨_, rfl, rfl⟩ rfl ?_
  refine .know (b' := true) (rfl) ?_
  refine .no ⟨_, rfl, rfl⟩ rfl ?_
  refine .no ⟨_, rfl, rfl⟩ rfl ?_
  refine .no ⟨_, rfl, rfl⟩ rfl ?_
  refine .noU ⟨_, rfl, rfl⟩ rfl ?_
  refine .noU ⟨_, rfl, rfl⟩ rfl ?_
  refine .no ⟨_, rfl, rfl⟩ rfl ?_
  refine .q (op_pick_true rfl rfl rfl) ⟨_, rfl, rfl⟩ rfl ?_
  refine .q (op_pick_true rfl rfl rfl) trivial rfl ?_
  refine .q (op_assign rfl) trivial rfl ?_
  refine .nil ?_
  show Ev _ _ _ _ _
  refine .ret ?_
  show RetOk _ _ _ _ _ _ _
  exact ret1v rfl (.inl rfl) rfl (by first | rfl | exact congrArg AV.bool (by decide)) trivial
set_option maxRecDepth 100000 in
theorem messageLong_94_big (eo : Nat → Nat × Nat) (hd : ∀ i j, i < 20 → j < 20 → i ≠ j → eo i ≠ eo j) (kind n : Int) (L : Nat) (hk : kind % 4 = 1) (hL : (L : Int) = 32760 + n % 16) (hl : 32768 < L) : Meets Tryd.prog 10 [.i64 kind, .i64 n] [(1, some ⟨.agg [.err 170 (1) (offE eo (1))], errT, false⟩), (2, some ⟨.agg [.err 170 (2) (offE eo (2))], errT, false⟩), (0, some ⟨.agg [.err 170 (3) (offE eo (3))], errT, false⟩), (3, some ⟨.agg [.err 170 (4) (offE eo (4))], errT, false⟩), (4, some ⟨.agg [.err 170 (5) (offE eo (5))], errT, false⟩), (5, some ⟨.agg [.err 170 (6) (offE eo (6))], errT, false⟩), (6, some ⟨.agg [.err 170 (7) (offE eo (7))], errT, false⟩), (7, some ⟨.agg [.err 170 (8) (offE eo (8))], errT, false⟩), (8, some ⟨.agg [.err 170 (9) (offE eo (9))], errT, false⟩), (9, some ⟨.agg [.err 170 (10) (offE eo (10))], errT, false⟩), (10, some ⟨.agg [.err 170 (11) (offE eo (11))], errT, false⟩), (11, some ⟨.agg [.err 170 (12) (offE eo (12))], errT, false⟩), (12, some ⟨.agg [.err 170 (13) (offE eo (13))], errT, false⟩), (13, some ⟨.agg [.err 170 (14) (offE eo (14))], errT, false⟩), (14, some ⟨.agg [.err 170 (15) (offE eo (15))], errT, false⟩), (15, some ⟨.agg [.err 170 (16) (offE eo (16))], errT, false⟩), (16, some ⟨.agg [.err 170 (17) (offE eo (17))], errT, false⟩), (17, some ⟨.agg [.err 170 (18) (offE eo (18))], errT, false⟩), (18, some ⟨.agg [.err 170 (19) (offE eo (19))], errT, false⟩), (19, some ⟨.agg [.err 170 (20) (offE eo (20))], errT, false⟩), (401, some ⟨.agg [], errT, false⟩), (402, some ⟨.agg [], errT, false⟩), (403, some ⟨.agg [], errT, false⟩), (404, some ⟨.agg [], errT, false⟩), (405, some ⟨.agg [], errT, false⟩), (406, some ⟨.agg [], errT, false⟩), (407, some ⟨.agg [], errT, false⟩), (408, some ⟨.agg [], errT, false⟩), (409, some ⟨.agg [], errT, false⟩), (410, some ⟨.agg [], errT, false⟩), (411, some ⟨.agg [], errT, false⟩), (412, some ⟨.agg [], errT, false⟩), (413, some ⟨.agg [], errT, false⟩), (414, some ⟨.agg [], errT, false⟩), (415, some ⟨.agg [], errT, false⟩), (416, some ⟨.agg [], errT, false⟩), (417, some ⟨.agg [], errT, false⟩), (418, some ⟨.agg [], errT, false⟩), (419, some ⟨.agg [], errT, false⟩), (420, some ⟨.agg [], errT, false⟩), (20, some ⟨.agg kindCells, errT, false⟩)] (.bool true) [] := by
  have hz : bigS (List.replicate L 0) = true := by
    unfold bigS; rw [List.length_replicate]; exact decide_eq_true (by omega)
  have hb : ([(List.replicate L 0)] : List (List UInt8)).any bigS = true := by
    simp only [List.any_cons, List.any_nil, hz]; rfl
  refine meets_of_ev (nt := 89) Tryd.func10 rfl rfl (Nat.le_of_ble_eq_true rfl) ?_
  refine .seq ?_
  refine .region ?_
  refine .q (op_assign rfl) trivial rfl ?_
  refine .nil ?_
  show Ev _ _ _ _ _
  refine .seq ?_
  refine .seq ?_
  refine .region ?_
  refine .q (op_call (U := []) [] [] (awake10_ev eo) Tryd.func42 (by kernel_rfl) rfl rfl rfl (trivial) (⟨⟨_, _, rfl, rfl, rfl, rfl, (fun h => by cases h), rfl⟩, ⟨_, _, rfl, rfl, rfl, rfl, (fun h => by cases h), rfl⟩, ⟨_, _, rfl, rfl, rfl, rfl, (fun h => by cases h), rfl⟩, ⟨_, _, rfl, rfl, rfl, rfl, (fun h => by cases h), rfl⟩, trivial⟩) (trivial) (⟨(fun h => by cases h), (fun h => by cases h), (fun h => by cases h), (fun h => by cases h), trivial⟩) rfl) trivial rfl ?_
  refine .q (op_notB rfl) trivial rfl ?_
  refine .nil ?_
  show Ev _ _ _ _ _
  refine .cond_false rfl (rfl) ?_
  refine .skip ?_
  show Ev _ _ _ _ _
  refine .seq ?_
  refine .region ?_
  refine .a (ap_build (us := [_, _, _, _]) (c := .aggI [_, _, _, _]) Tryd.underlying88 inf3 rfl (by decide) (by decide) ⟨rfl, rfl, rfl, rfl, rfl, rfl, rfl, rfl, rfl, rfl, rfl, rfl, trivial⟩ rfl) trivial rfl ?_
  refine .as (.sl 1000 0 4 1) rfl ?_
  refine .asH (.aggI [2, 94, 81, 98]) rfl ?_
  refine .q (op_move rfl) trivial rfl ?_
  refine .q (op_maskI (m := 3) rfl rfl (.inl rfl)) trivial rfl ?_
  refine .q (ap_idx0 Tryd.underlying88 inf3.sz rfl rfl (show kind % ((3 + 1 : Nat) : Int) = ((1 : Nat) : Int) by omega) (by decide)) trivial rfl ?_
  refine .q (op_load Tryd.underlying3 rfl rfl rfl rfl (by decide)) trivial rfl ?_
  refine .as (.i64 94) rfl ?_
  refine .q (op_assign rfl) trivial rfl ?_
  refine .nil ?_
  show Ev _ _ _ _ _
  refine .seq ?_
  refine .region ?_
  refine .q (op_move rfl) trivial rfl ?_
  refine .q (op_buildS (r := .agg [.i64 (94), .nilsl, .nilsl, .nilsl, .nilsl]) Tryd.underlying74 rfl zero74 rel_zero74 rfl rfl rfl rfl) trivial rfl ?_
  refine .a (op_allocRow zero74 rel_zero74 rfl) trivial rfl ?_
  refine .w (op_storeRow (by kernel_rfl) rfl rfl rfl rfl rfl (rfl) (rfl)) trivial rfl ?_
  refine .nil ?_
  show Ev _ _ _ _ _
  refine .seq ?_
  refine .region ?_
  refine .q (op_move rfl) trivial rfl ?_
  refine .q (op_maskI (m := 15) rfl rfl (.inr rfl)) trivial rfl ?_
  refine .q (op_addI rfl rfl ⟨by omega, by omega⟩) trivial rfl ?_
  refine .as (.i64 ((L : Nat) : Int)) (congrArg AV.i64 (by omega)) ?_
  refine .a (ap_make (n := L) (c := .aggB (List.replicate L 0)) Tryd.underlying25 inf5 rfl rfl rfl rfl (by omega) rel_zero5 rfl (by simp [AV.list, AV.parts])) trivial rfl ?_
  refine .q (op_bytes_str Tryd.underlying25 Tryd.underlying5 Tryd.underlying9 rfl rfl rfl (by simp)) trivial rfl ?_
  refine .as (.str (List.replicate L 0)) (congrArg AV.str (by simp)) ?_
  refine .q (op_assign rfl) trivial rfl ?_
  refine .nil ?_
  show Ev _ _ _ _ _
  refine .seq ?_
  refine .seq ?_
  refine .region ?_
  refine .q (op_move rfl) trivial rfl ?_
  refine .nil ?_
  show Ev _ _ _ _ _
  refine .block ?_
  refine .seq ?_
  refine .region ?_
  refine .q (op_cmpI rfl rfl rfl) trivial rfl ?_
  refine .q (op_assign rfl) trivial rfl ?_
  refine .nil ?_
  show Ev _ _ _ _ _
  refine .cond_true rfl (rfl) ?_
  refine .region ?_
  refine .a (ap_build (us := [_]) (c := .agg32 [_]) Tryd.underlying70 inf39 rfl (by decide) (by decide) ⟨rfl, rfl, rfl, trivial⟩ rfl) trivial rfl ?_
  refine .q (op_move rfl) trivial rfl ?_
  refine .a (ap_build (us := [_]) (c := .aggS [_]) Tryd.underlying31 inf9 rfl (by decide) (by decide) ⟨rfl, rfl, rfl, trivial⟩ rfl) trivial rfl ?_
  refine .q (op_fieldAddr (m := 0) Tryd.underlying74 rfl (by kernel_rfl) rfl) trivial rfl ?_
  refine .as (.ptr 1008 1) rfl ?_
  refine .w (op_store (by kernel_rfl) rfl rfl rfl rfl rfl (show 1 < 5 by decide)) trivial rfl ?_
  refine .q (op_fieldAddr (m := 0) Tryd.underlying74 rfl (by kernel_rfl) rfl) trivial rfl ?_
  refine .as (.ptr 1008 2) rfl ?_
  refine .w (op_store (by kernel_rfl) rfl rfl rfl rfl rfl (show 2 < 5 by decide)) trivial rfl ?_
  refine .nil ?_
  show Ev _ _ _ _ _
  refine .seq ?_
  refine .region ?_
  refine .q (op_loadRow Tryd.underlying74 rfl (by kernel_rfl) rfl rfl rfl (rfl)) trivial rfl ?_
  refine .q (op_call (U := []) [(511, 1024), (512, 1032)] [] (check_big_US 94 1 1 [(List.replicate L 0)] rfl (by decide) (by rfl) (by decide +kernel) (by decide +kernel) (by decide +kernel) (by decide +kernel) (by decide +kernel) hb eo) Tryd.func44 (by kernel_rfl) rfl rfl rfl (⟨⟨_, rfl, rfl, rfl⟩, trivial⟩) (⟨⟨_, _, rfl, rfl, rfl, rfl, (fun h => by cases h), rfl⟩, ⟨_, _, rfl, rfl, rfl, rfl, (fun h => by cases h), rfl⟩, ⟨_, _, rfl, rfl, rfl, rfl, (fun h => by cases h), rfl⟩, trivial⟩) (trivial) (⟨(fun h => by cases h), (fun h => by cases h), (fun h => by cases h), trivial⟩) rfl) trivial rfl ?_
  refine .q (op_call (U := []) [] [] (code_4 eo hd) Tryd.func30 (by kernel_rfl) rfl rfl rfl (⟨⟨_, rfl, rfl, rfl⟩, trivial⟩) (⟨⟨_, _, rfl, rfl, rfl, rfl, (fun h => by cases h), rfl⟩, ⟨_, _, rfl, rfl, rfl, rfl, (fun h => by cases h), rfl⟩, ⟨_, _, rfl, rfl, rfl, rfl, (fun h => by cases h), rfl⟩, ⟨_, _, rfl, rfl, rfl, rfl, (fun h => by cases h), rfl⟩, ⟨_, _, rfl, rfl, rfl, rfl, (fun h => by cases h), rfl⟩, ⟨_, _, rfl, rfl, rfl, rfl, (fun h => by cases h), rfl⟩, ⟨_, _, rfl, rfl, rfl, rfl, (fun h => by cases h), rfl⟩, ⟨_, _, rfl, rfl, rfl, rfl, (fun h => by cases h), rfl⟩, ⟨_, _, rfl, rfl, rfl, rfl, (fun h => by cases h), rfl⟩, ⟨_, _, rfl, rfl, rfl, rfl, (fun h => by cases h), rfl⟩, ⟨_, _, rfl, rfl, rfl, rfl, (fun h => by cases h), rfl⟩, ⟨_, _, rfl, rfl, rfl, rfl, (fun h => by cases h), rfl⟩, ⟨_, _, rfl, rfl, rfl, rfl, (fun h => by cases h), rfl⟩, ⟨_, _, rfl, rfl, rfl, rfl, (fun h => by cases h), rfl⟩, ⟨_, _, rfl, rfl, rfl, rfl, (fun h => by cases h), rfl⟩, ⟨_, _, rfl, rfl, rfl, rfl, (fun h => by cases h), rfl⟩, ⟨_, _, rfl, rfl, rfl, rfl, (fun h => by cases h), rfl⟩, ⟨_, _, rfl, rfl, rfl, rfl, (fun h => by cases h), rfl⟩, ⟨_, _, rfl, rfl, rfl, rfl, (fun h => by cases h), rfl⟩, ⟨_, _, rfl, rfl, rfl, rfl, (fun h => by cases h), rfl⟩, ⟨_, _, rfl, rfl, rfl, rfl, (fun h => by cases h), rfl⟩, ⟨_, _, rfl, rfl, rfl, rfl, (fun h => by cases h), rfl⟩, ⟨_, _, rfl, rfl, rfl, rfl, (fun h => by cases h), rfl⟩, ⟨_, _, rfl, rfl, rfl, rfl, (fun h => by cases h), rfl⟩, ⟨_, _, rfl, rfl, rfl, rfl, (fun h => by cases h), rfl⟩, ⟨_, _, rfl, rfl, rfl, rfl, (fun h => by cases h), rfl⟩, ⟨_, _, rfl, rfl, rfl, rfl, (fun h => by cases h), rfl⟩, ⟨_, _, rfl, rfl, rfl, rfl, (fun h => by cases h), rfl⟩, ⟨_, _, rfl, rfl, rfl, rfl, (fun h => by cases h), rfl⟩, ⟨_, _, rfl, rfl, rfl, rfl, (fun h => by cases h), rfl⟩, ⟨_, _, rfl, rfl, rfl, rfl, (fun h => by cases h), rfl⟩, ⟨_, _, rfl, rfl, rfl, rfl, (fun h => by cases h), rfl⟩, ⟨_, _, rfl, rfl, rfl, rfl, (fun h => by cases h), rfl⟩, ⟨_, _, rfl, rfl, rfl, rfl, (fun h => by cases h), rfl⟩, ⟨_, _, rfl, rfl, rfl, rfl, (fun h => by cases h), rfl⟩, ⟨_, _, rfl, rfl, rfl, rfl, (fun h => by cases h), rfl⟩, ⟨_, _, rfl, rfl, rfl, rfl, (fun h => by cases h), rfl⟩, ⟨_, _, rfl, rfl, rfl, rfl, (fun h => by cases h), rfl⟩, ⟨_, _, rfl, rfl, rfl, rfl, (fun h => by cases h), rfl⟩, ⟨_, _, rfl, rfl, rfl, rfl, (fun h => by cases h), rfl⟩, trivial⟩) (trivial) (⟨(fun h => by cases h), (fun h => by cases h), (fun h => by cases h), (fun h => by cases h), (fun h => by cases h), (fun h => by cases h), (fun h => by cases h), (fun h => by cases h), (fun h => by cases h), (fun h => by cases h), (fun h => by cases h), (fun h => by cases h), (fun h => by cases h), (fun h => by cases h), (fun h => by cases h), (fun h => by cases h), (fun h => by cases h), (fun h => by cases h), (fun h => by cases h), (fun h => by cases h), (fun h => by cases h), (fun h => by cases h), (fun h => by cases h), (fun h => by cases h), (fun h => by cases h), (fun h => by cases h), (fun h => by cases h), (fun h => by cases h), (fun h => by cases h), (fun h => by cases h), (fun h => by cases h), (fun h => by cases h), (fun h => by cases h), (fun h => by cases h), (fun h => by cases h), (fun h => by cases h), (fun h => by cases h), (fun h => by cases h), (fun h => by cases h), (fun h => by cases h), trivial⟩) rfl) trivial rfl ?_
  refine .as (.i64 4) rfl ?_
  refine .q (op_assign rfl) trivial rfl ?_
  refine .nil ?_
  show Ev _ _ _ _ _
  refine .seq ?_
  refine .region ?_
  refine .q (op_loadRow Tryd.underlying74 rfl (by kernel_rfl) rfl rfl rfl (rfl)) trivial rfl ?_
  refine .q (op_call (U := []) [(511, 1024), (512, 1032)] [] (bytesbig_94 [(List.replicate L 0)] rfl hb eo) Tryd.func46 (by kernel_rfl) rfl rfl rfl (⟨⟨_, rfl, rfl, rfl⟩, trivial⟩) (⟨⟨_, _, rfl, rfl, rfl, rfl, (fun h => by cases h), rfl⟩, ⟨_, _, rfl, rfl, rfl, rfl, (fun h => by cases h), rfl⟩, ⟨_, _, rfl, rfl, rfl, rfl, (fun h => by cases h), rfl⟩, trivial⟩) (trivial) (⟨(fun h => by cases h), (fun h => by cases h), (fun h => by cases h), trivial⟩) rfl) trivial rfl ?_
  refine .as (.str []) rfl ?_
  refine .q (op_assign rfl) trivial rfl ?_
  refine .nil ?_
  show Ev _ _ _ _ _
  refine .seq ?_
  refine .region ?_
  refine .q (op_move rfl) trivial rfl ?_
  refine .q (op_call (U := []) [] [] (parse_empty eo) Tryd.func48 (by kernel_rfl) rfl rfl rfl (⟨⟨_, rfl, rfl, rfl⟩, trivial⟩) (⟨⟨_, _, rfl, rfl, rfl, rfl, (fun h => by cases h), rfl⟩, trivial⟩) (trivial) (⟨(fun h => by cases h), trivial⟩) rfl) trivial rfl ?_
  refine .q (op_move rfl) trivial rfl ?_
  refine .q (op_extract rfl rfl) trivial rfl ?_
  refine .q (op_extract rfl rfl) trivial rfl ?_
  refine .a (op_allocRow zero76 rel_zero76 rfl) trivial rfl ?_
  refine .w (op_storeRow (by kernel_rfl) rfl rfl rfl rfl rfl (rfl) (rfl)) trivial rfl ?_
  refine .q (op_assign rfl) trivial rfl ?_
  refine .nil ?_
  show Ev _ _ _ _ _
  refine .seq ?_
  refine .region ?_
  refine .q (op_move rfl) trivial rfl ?_
  refine .q (op_loadRow Tryd.underlying74 rfl (by kernel_rfl) rfl rfl rfl (rfl)) trivial rfl ?_
  refine .q (op_call (U := []) [(511, 1024), (512, 1032)] [] (rcheck_94_big [(List.replicate L 0)] rfl hz) Tryd.func45 (by kernel_rfl) rfl rfl rfl (⟨⟨_, rfl, rfl, rfl⟩, trivial⟩) (⟨⟨_, _, rfl, rfl, rfl, rfl, (fun h => by cases h), rfl⟩, trivial⟩) (trivial) (⟨(fun h => by cases h), trivial⟩) rfl) trivial rfl ?_
  refine .q (op_cmpI rfl rfl rfl) trivial rfl ?_
  refine .q (op_move rfl) trivial rfl ?_
  refine .know (b' := true) (by decide) ?_
  refine .q (op_move rfl) ⟨_, rfl, rfl⟩ rfl ?_
  refine .q (op_cmpI rfl rfl rfl) ⟨_, rfl, rfl⟩ rfl ?_
  refine .q (op_move rfl) ⟨_, rfl, rfl⟩ rfl ?_
  refine .q (op_len_str Tryd.underlying9 rfl) ⟨_, rfl, rfl⟩ rfl ?_
  refine .q (op_cmpI rfl rfl rfl) ⟨_, rfl, rfl⟩ rfl ?_
  refine .as (.bool true) (congrArg AV.bool (by first | exact decide_eq_true (by simp; omega) | exact decide_eq_false (by simp; omega))) ?_
  refine .q (op_eqB Tryd.underlying4 rfl rfl rfl) ⟨_, rfl, rfl⟩ rfl ?_
  refine .q (op_pick_true rfl rfl rfl) trivial rfl ?_
  refine .q (op_move rfl) trivial rfl ?_
  refine .know (b' := true) (by decide) ?_
  refine .q (op_move rfl) ⟨_, rfl, rfl⟩ rfl ?_
  refine .q (op_cmpI rfl rfl rfl) ⟨_, rfl, rfl⟩ rfl ?_
  refine .q (op_move rfl) ⟨_, rfl, rfl⟩ rfl ?_
  refine .know (b' := false) (by decide) ?_
  refine .no ⟨_, rfl, rfl⟩ rfl ?_
  refine .no ⟨_, rfl, rfl⟩ rfl ?_
  refine .q (op_pick_false rfl rfl rfl) ⟨_, rfl, rfl⟩ rfl ?_
  refine .q (op_move rfl) ⟨_, rfl, rfl⟩ rfl ?_
  refine .no ⟨_, rfl, rfl⟩ rfl ?_
  refine .no ⟨_, rfl, rfl⟩ rfl ?_
  refine .no ⟨_, rfl, rfl⟩ rfl ?_
  refine .q (op_pick_false rfl rfl rfl) ⟨_, rfl, rfl⟩ rfl ?_
  refine .q (op_move rfl) ⟨_, rfl, rfl⟩ rfl ?_
  refine .q (op_move rfl) ⟨_, rfl, rfl⟩ rfl ?_
  refine .q (op_cmpI rfl rfl rfl) ⟨_, rfl, rfl⟩ rfl ?_
  refine .q (op_move rfl) ⟨_, rfl, rfl⟩ rfl ?_
  refine .know (b' := true) (by decide) ?_
  refine .q (op_move rfl) ⟨_, rfl, rfl⟩ rfl ?_
  refine .q (op_eqS rfl rfl rfl) ⟨_, rfl, rfl⟩ rfl ?_
  refine .q (op_pick_true rfl rfl rfl) ⟨_, rfl, rfl⟩ rfl ?_
  refine .q (op_pick_false rfl rfl rfl) ⟨_, rfl, rfl⟩ rfl ?_
  refine .q (op_pick_true rfl rfl rfl) trivial rfl ?_
  refine .q (op_assign rfl) trivial rfl ?_
  refine .nil ?_
  show Ev _ _ _ _ _
  refine .ret ?_
  show RetOk _ _ _ _ _ _ _
  exact ret1v rfl (.inl rfl) rfl (by first | rfl | exact congrArg AV.bool (by decide)) trivial
end Go.Proofs.YtfjiaflljabjkaaDoor
