/-
  Texts of this claim.
-/
import Derived.Test.YtaelhapmikijnaaGreatDoorGK3
namespace Go.Proofs.YtaelhapmikijnaaGreatDoor
open Go.RowKit
set_option maxRecDepth 100000 in
theorem codeF_2 (eo : Nat → Nat × Nat) (hd : ∀ i j, i < 20 → j < 20 → i ≠ j → eo i ≠ eo j) (ws : List UInt8) (te : Nat) : Meets Tryz.prog 12 [.ifc 63 (.ptr 500 0)] [(2, some ⟨.agg [.err 165 (1) (offE eo (1))], errT, false⟩), (3, some ⟨.agg [.err 165 (2) (offE eo (2))], errT, false⟩), (4, some ⟨.agg [.err 165 (3) (offE eo (3))], errT, false⟩), (5, some ⟨.agg [.err 165 (4) (offE eo (4))], errT, false⟩), (6, some ⟨.agg [.err 165 (5) (offE eo (5))], errT, false⟩), (7, some ⟨.agg [.err 165 (6) (offE eo (6))], errT, false⟩), (8, some ⟨.agg [.err 165 (7) (offE eo (7))], errT, false⟩), (9, some ⟨.agg [.err 165 (8) (offE eo (8))], errT, false⟩), (10, some ⟨.agg [.err 165 (9) (offE eo (9))], errT, false⟩), (0, some ⟨.agg [.err 165 (10) (offE eo (10))], errT, false⟩), (1, some ⟨.agg [.err 165 (11) (offE eo (11))], errT, false⟩), (11, some ⟨.agg [.err 165 (12) (offE eo (12))], errT, false⟩), (12, some ⟨.agg [.err 165 (13) (offE eo (13))], errT, false⟩), (13, some ⟨.agg [.err 165 (14) (offE eo (14))], errT, false⟩), (14, some ⟨.agg [.err 165 (15) (offE eo (15))], errT, false⟩), (15, some ⟨.agg [.err 165 (16) (offE eo (16))], errT, false⟩), (16, some ⟨.agg [.err 165 (17) (offE eo (17))], errT, false⟩), (17, some ⟨.agg [.err 165 (18) (offE eo (18))], errT, false⟩), (18, some ⟨.agg [.err 165 (19) (offE eo (19))], errT, false⟩), (19, some ⟨.agg [.err 165 (20) (offE eo (20))], errT, false⟩), (401, some ⟨.agg [], errT, false⟩), (402, some ⟨.agg [], errT, false⟩), (403, some ⟨.agg [], errT, false⟩), (404, some ⟨.agg [], errT, false⟩), (405, some ⟨.agg [], errT, false⟩), (406, some ⟨.agg [], errT, false⟩), (407, some ⟨.agg [], errT, false⟩), (408, some ⟨.agg [], errT, false⟩), (409, some ⟨.agg [], errT, false⟩), (410, some ⟨.agg [], errT, false⟩), (411, some ⟨.agg [], errT, false⟩), (412, some ⟨.agg [], errT, false⟩), (413, some ⟨.agg [], errT, false⟩), (414, some ⟨.agg [], errT, false⟩), (415, some ⟨.agg [], errT, false⟩), (416, some ⟨.agg [], errT, false⟩), (417, some ⟨.agg [], errT, false⟩), (418, some ⟨.agg [], errT, false⟩), (419, some ⟨.agg [], errT, false⟩), (420, some ⟨.agg [], errT, false⟩), (500, some ⟨.agg [.str ws, .err 165 (2) (offE eo (2))], te, false⟩)] (.i64 2) [] := by
 refine meets_of_ev (nt := 38) Tryz.func12 rfl rfl (Nat.le_of_ble_eq_true rfl) ?_
 refine .seq ?_
 refine .region ?_
 refine .q (op_assign rfl) trivial rfl ?_
 refine .nil ?_
 show Ev _ _ _ _ _
 refine .seq ?_
 refine .seq ?_
 refine .region ?_
 refine .q (op_move rfl) trivial rfl ?_
 refine .q (op_eqIfcNil Tryz.underlying30 rfl rfl) trivial rfl ?_
 refine .nil ?_
 show Ev _ _ _ _ _
 refine .cond_false rfl (rfl) ?_
 refine .skip ?_
 show Ev _ _ _ _ _
 refine .seq ?_
 refine .seq ?_
 refine .region ?_
 refine .q (op_load Tryz.underlying30 rfl rfl rfl rfl (by first | omega | (simp only [AV.len]; omega) | (simp only [AV.len]; omega) | assumption | (simp [AV.len]; done))) trivial rfl ?_
 refine .q (op_load Tryz.underlying30 rfl rfl rfl rfl (by first | omega | (simp only [AV.len]; omega) | (simp only [AV.len]; omega) | assumption | (simp [AV.len]; done))) trivial rfl ?_
 refine .q (op_load Tryz.underlying30 rfl rfl rfl rfl (by first | omega | (simp only [AV.len]; omega) | (simp only [AV.len]; omega) | assumption | (simp [AV.len]; done))) trivial rfl ?_
 refine .q (op_load Tryz.underlying30 rfl rfl rfl rfl (by first | omega | (simp only [AV.len]; omega) | (simp only [AV.len]; omega) | assumption | (simp [AV.len]; done))) trivial rfl ?_
 refine .q (op_load Tryz.underlying30 rfl rfl rfl rfl (by first | omega | (simp only [AV.len]; omega) | (simp only [AV.len]; omega) | assumption | (simp [AV.len]; done))) trivial rfl ?_
 refine .q (op_load Tryz.underlying30 rfl rfl rfl rfl (by first | omega | (simp only [AV.len]; omega) | (simp only [AV.len]; omega) | assumption | (simp [AV.len]; done))) trivial rfl ?_
 refine .q (op_load Tryz.underlying30 rfl rfl rfl rfl (by first | omega | (simp only [AV.len]; omega) | (simp only [AV.len]; omega) | assumption | (simp [AV.len]; done))) trivial rfl ?_
 refine .q (op_load Tryz.underlying30 rfl rfl rfl rfl (by first | omega | (simp only [AV.len]; omega) | (simp only [AV.len]; omega) | assumption | (simp [AV.len]; done))) trivial rfl ?_
 refine .q (op_load Tryz.underlying30 rfl rfl rfl rfl (by first | omega | (simp only [AV.len]; omega) | (simp only [AV.len]; omega) | assumption | (simp [AV.len]; done))) trivial rfl ?_
 refine .q (op_load Tryz.underlying30 rfl rfl rfl rfl (by first | omega | (simp only [AV.len]; omega) | (simp only [AV.len]; omega) | assumption | (simp [AV.len]; done))) trivial rfl ?_
 refine .q (op_load Tryz.underlying30 rfl rfl rfl rfl (by first | omega | (simp only [AV.len]; omega) | (simp only [AV.len]; omega) | assumption | (simp [AV.len]; done))) trivial rfl ?_
 refine .q (op_load Tryz.underlying30 rfl rfl rfl rfl (by first | omega | (simp only [AV.len]; omega) | (simp only [AV.len]; omega) | assumption | (simp [AV.len]; done))) trivial rfl ?_
 refine .q (op_load Tryz.underlying30 rfl rfl rfl rfl (by first | omega | (simp only [AV.len]; omega) | (simp only [AV.len]; omega) | assumption | (simp [AV.len]; done))) trivial rfl ?_
 refine .q (op_load Tryz.underlying30 rfl rfl rfl rfl (by first | omega | (simp only [AV.len]; omega) | (simp only [AV.len]; omega) | assumption | (simp [AV.len]; done))) trivial rfl ?_
 refine .q (op_load Tryz.underlying30 rfl rfl rfl rfl (by first | omega | (simp only [AV.len]; omega) | (simp only [AV.len]; omega) | assumption | (simp [AV.len]; done))) trivial rfl ?_
 refine .q (op_load Tryz.underlying30 rfl rfl rfl rfl (by first | omega | (simp only [AV.len]; omega) | (simp only [AV.len]; omega) | assumption | (simp [AV.len]; done))) trivial rfl ?_
 refine .q (op_load Tryz.underlying30 rfl rfl rfl rfl (by first | omega | (simp only [AV.len]; omega) | (simp only [AV.len]; omega) | assumption | (simp [AV.len]; done))) trivial rfl ?_
 refine .q (op_load Tryz.underlying30 rfl rfl rfl rfl (by first | omega | (simp only [AV.len]; omega) | (simp only [AV.len]; omega) | assumption | (simp [AV.len]; done))) trivial rfl ?_
 refine .q (op_load Tryz.underlying30 rfl rfl rfl rfl (by first | omega | (simp only [AV.len]; omega) | (simp only [AV.len]; omega) | assumption | (simp [AV.len]; done))) trivial rfl ?_
 refine .q (op_load Tryz.underlying30 rfl rfl rfl rfl (by first | omega | (simp only [AV.len]; omega) | (simp only [AV.len]; omega) | assumption | (simp [AV.len]; done))) trivial rfl ?_
 refine .q (op_buildFull (zv := .nilIface) (u0 := .err 0 0 (0, 0)) [.err 165 (1) (offE eo (1)), .err 165 (2) (offE eo (2)), .err 165 (3) (offE eo (3)), .err 165 (4) (offE eo (4)), .err 165 (5) (offE eo (5)), .err 165 (6) (offE eo (6)), .err 165 (7) (offE eo (7)), .err 165 (8) (offE eo (8)), .err 165 (9) (offE eo (9)), .err 165 (10) (offE eo (10)), .err 165 (11) (offE eo (11)), .err 165 (12) (offE eo (12)), .err 165 (13) (offE eo (13)), .err 165 (14) (offE eo (14)), .err 165 (15) (offE eo (15)), .err 165 (16) (offE eo (16)), .err 165 (17) (offE eo (17)), .err 165 (18) (offE eo (18)), .err 165 (19) (offE eo (19)), .err 165 (20) (offE eo (20))] Tryz.underlying61 (by kernel_rfl) (by kernel_rfl) (.err0 _ _) rfl ⟨rfl, rfl, rfl, rfl, rfl, rfl, rfl, rfl, rfl, rfl, rfl, rfl, rfl, rfl, rfl, rfl, rfl, rfl, rfl, rfl, rfl, rfl, rfl, rfl, rfl, rfl, rfl, rfl, rfl, rfl, rfl, rfl, rfl, rfl, rfl, rfl, rfl, rfl, rfl, rfl, rfl, rfl, rfl, rfl, rfl, rfl, rfl, rfl, rfl, rfl, rfl, rfl, rfl, rfl, rfl, rfl, rfl, rfl, rfl, rfl, trivial⟩ rfl rfl) trivial rfl ?_
 refine .q (op_move rfl) trivial rfl ?_
 refine .nil ?_
 show Ev _ _ _ _ _
 refine .block ?_
 refine Ev.rounds 2 ?_
 show Ev _ _ _ _ _
 refine .seq ?_
 refine .region ?_
 refine .q (op_cmpI rfl rfl rfl) trivial rfl ?_
 refine .nil ?_
 show Ev _ _ _ _ _
 refine .seq ?_
 refine .cond_true rfl (rfl) ?_
 refine .skip ?_
 show Ev _ _ _ _ _
 refine .seq ?_
 refine .block ?_
 refine .seq ?_
 refine .region ?_
 refine .q (op_move rfl) trivial rfl ?_
 refine .q (op_index_row (i := 0) Tryz.underlying61 Tryz.underlying30 rfl (by kernel_rfl) rfl rfl rfl (show _ = ((0 : Nat) : Int) from rfl) rfl (by show 0 < 20; decide) (by decide)) trivial rfl ?_
 refine .q (op_assign rfl) trivial rfl ?_
 refine .q (op_assign rfl) trivial rfl ?_
 refine .nil ?_
 show Ev _ _ _ _ _
 refine .seq ?_
 refine .region ?_
 refine .q (op_move rfl) trivial rfl ?_
 refine .q (op_move rfl) trivial rfl ?_
 refine .q (op_call (U := []) [(500, 500)] [] (is_fault_other_ev 1 0 (eo 1) (eo 0) (hd _ _ (by decide) (by decide) (by decide)) (by decide) (by decide) ws te) Tryz.func23 (by kernel_rfl) rfl rfl rfl (⟨⟨_, rfl, rfl, rfl⟩, ⟨_, rfl, rfl, rfl⟩, trivial⟩) (⟨⟨_, _, rfl, rfl, rfl, rfl, (fun h => by cases h), rfl⟩, ⟨_, _, rfl, rfl, rfl, rfl, (fun h => by cases h), rfl⟩, ⟨_, _, rfl, rfl, rfl, rfl, (fun h => by cases h), rfl⟩, trivial⟩) (trivial) (⟨(fun h => by cases h), (fun h => by cases h), (fun h => by cases h), trivial⟩) rfl) trivial rfl ?_
 refine .nil ?_
 show Ev _ _ _ _ _
 refine .cond_false rfl (rfl) ?_
 refine .skip ?_
 show Ev _ _ _ _ _
 refine .region ?_
 refine .q (op_addI rfl rfl ⟨by omega, by omega⟩) trivial rfl ?_
 refine .q (op_move rfl) trivial rfl ?_
 refine .nil ?_
 show Ev _ _ _ _ _
 refine .seq ?_
 refine .region ?_
 refine .q (op_cmpI rfl rfl rfl) trivial rfl ?_
 refine .nil ?_
 show Ev _ _ _ _ _
 refine .seq ?_
 refine .cond_true rfl (rfl) ?_
 refine .skip ?_
 show Ev _ _ _ _ _
 refine .seq ?_
 refine .block ?_
 refine .seq ?_
 refine .region ?_
 refine .q (op_move rfl) trivial rfl ?_
 refine .q (op_index_row (i := 1) Tryz.underlying61 Tryz.underlying30 rfl (by kernel_rfl) rfl rfl rfl (show _ = ((1 : Nat) : Int) from rfl) rfl (by show 1 < 20; decide) (by decide)) trivial rfl ?_
 refine .q (op_assign rfl) trivial rfl ?_
 refine .q (op_assign rfl) trivial rfl ?_
 refine .nil ?_
 show Ev _ _ _ _ _
 refine .seq ?_
 refine .region ?_
 refine .q (op_move rfl) trivial rfl ?_
 refine .q (op_move rfl) trivial rfl ?_
 refine .q (op_call (U := []) [(500, 500)] [] (is_fault_same_ev 1 (eo 1) ws te) Tryz.func23 (by kernel_rfl) rfl rfl rfl (⟨⟨_, rfl, rfl, rfl⟩, ⟨_, rfl, rfl, rfl⟩, trivial⟩) (⟨⟨_, _, rfl, rfl, rfl, rfl, (fun h => by cases h), rfl⟩, trivial⟩) (trivial) (⟨(fun h => by cases h), trivial⟩) rfl) trivial rfl ?_
 refine .nil ?_
 show Ev _ _ _ _ _
 refine .cond_true rfl (rfl) ?_
 refine .seq ?_
 refine .region ?_
 refine .q (op_move rfl) trivial rfl ?_
 refine .q (op_addI rfl rfl ⟨by omega, by omega⟩) trivial rfl ?_
 refine .q (op_assign rfl) trivial rfl ?_
 refine .nil ?_
 show Ev _ _ _ _ _
 refine .ret ?_
 show RetOk _ _ _ _ _ _ _
 exact ret1v rfl (.inl rfl) rfl rfl trivial
set_option maxRecDepth 100000 in
theorem codeF_3 (eo : Nat → Nat × Nat) (hd : ∀ i j, i < 20 → j < 20 → i ≠ j → eo i ≠ eo j) (ws : List UInt8) (te : Nat) : Meets Tryz.prog 12 [.ifc 63 (.ptr 500 0)] [(2, some ⟨.agg [.err 165 (1) (offE eo (1))], errT, false⟩), (3, some ⟨.agg [.err 165 (2) (offE eo (2))], errT, false⟩), (4, some ⟨.agg [.err 165 (3) (offE eo (3))], errT, false⟩), (5, some ⟨.agg [.err 165 (4) (offE eo (4))], errT, false⟩), (6, some ⟨.agg [.err 165 (5) (offE eo (5))], errT, false⟩), (7, some ⟨.agg [.err 165 (6) (offE eo (6))], errT, false⟩), (8, some ⟨.agg [.err 165 (7) (offE eo (7))], errT, false⟩), (9, some ⟨.agg [.err 165 (8) (offE eo (8))], errT, false⟩), (10, some ⟨.agg [.err 165 (9) (offE eo (9))], errT, false⟩), (0, some ⟨.agg [.err 165 (10) (offE eo (10))], errT, false⟩), (1, some ⟨.agg [.err 165 (11) (offE eo (11))], errT, false⟩), (11, some ⟨.agg [.err 165 (12) (offE eo (12))], errT, false⟩), (12, some ⟨.agg [.err 165 (13) (offE eo (13))], errT, false⟩), (13, some ⟨.agg [.err 165 (14) (offE eo (14))], errT, false⟩), (14, some ⟨.agg [.err 165 (15) (offE eo (15))], errT, false⟩), (15, some ⟨.agg [.err 165 (16) (offE eo (16))], errT, false⟩), (16, some ⟨.agg [.err 165 (17) (offE eo (17))], errT, false⟩), (17, some ⟨.agg [.err 165 (18) (offE eo (18))], errT, false⟩), (18, some ⟨.agg [.err 165 (19) (offE eo (19))], errT, false⟩), (19, some ⟨.agg [.err 165 (20) (offE eo (20))], errT, false⟩), (401, some ⟨.agg [], errT, false⟩), (402, some ⟨.agg [], errT, false⟩), (403, some ⟨.agg [], errT, false⟩), (404, some ⟨.agg [], errT, false⟩), (405, some ⟨.agg [], errT, false⟩), (406, some ⟨.agg [], errT, false⟩), (407, some ⟨.agg [], errT, false⟩), (408, some ⟨.agg [], errT, false⟩), (409, some ⟨.agg [], errT, false⟩), (410, some ⟨.agg [], errT, false⟩), (411, some ⟨.agg [], errT, false⟩), (412, some ⟨.agg [], errT, false⟩), (413, some ⟨.agg [], errT, false⟩), (414, some ⟨.agg [], errT, false⟩), (415, some ⟨.agg [], errT, false⟩), (416, some ⟨.agg [], errT, false⟩), (417, some ⟨.agg [], errT, false⟩), (418, some ⟨.agg [], errT, false⟩), (419, some ⟨.agg [], errT, false⟩), (420, some ⟨.agg [], errT, false⟩), (500, some ⟨.agg [.str ws, .err 165 (3) (offE eo (3))], te, false⟩)] (.i64 3) [] := by
 refine meets_of_ev (nt := 38) Tryz.func12 rfl rfl (Nat.le_of_ble_eq_true rfl) ?_
 refine .seq ?_
 refine .region ?_
 refine .q (op_assign rfl) trivial rfl ?_
 refine .nil ?_
 show Ev _ _ _ _ _
 refine .seq ?_
 refine .seq ?_
 refine .region ?_
 refine .q (op_move rfl) trivial rfl ?_
 refine .q (op_eqIfcNil Tryz.underlying30 rfl rfl) trivial rfl ?_
 refine .nil ?_
 show Ev _ _ _ _ _
 refine .cond_false rfl (rfl) ?_
 refine .skip ?_
 show Ev _ _ _ _ _
 refine .seq ?_
 refine .seq ?_
 refine .region ?_
 refine .q (op_load Tryz.underlying30 rfl rfl rfl rfl (by first | omega | (simp only [AV.len]; omega) | (simp only [AV.len]; omega) | assumption | (simp [AV.len]; done))) trivial rfl ?_
 refine .q (op_load Tryz.underlying30 rfl rfl rfl rfl (by first | omega | (simp only [AV.len]; omega) | (simp only [AV.len]; omega) | assumption | (simp [AV.len]; done))) trivial rfl ?_
 refine .q (op_load Tryz.underlying30 rfl rfl rfl rfl (by first | omega | (simp only [AV.len]; omega) | (simp only [AV.len]; omega) | assumption | (simp [AV.len]; done))) trivial rfl ?_
 refine .q (op_load Tryz.underlying30 rfl rfl rfl rfl (by first | omega | (simp only [AV.len]; omega) | (simp only [AV.len]; omega) | assumption | (simp [AV.len]; done))) trivial rfl ?_
 refine .q (op_load Tryz.underlying30 rfl rfl rfl rfl (by first | omega | (simp only [AV.len]; omega) | (simp only [AV.len]; omega) | assumption | (simp [AV.len]; done))) trivial rfl ?_
 refine .q (op_load Tryz.underlying30 rfl rfl rfl rfl (by first | omega | (simp only [AV.len]; omega) | (simp only [AV.len]; omega) | assumption | (simp [AV.len]; done))) trivial rfl ?_
 refine .q (op_load Tryz.underlying30 rfl rfl rfl rfl (by first | omega | (simp only [AV.len]; omega) | (simp only [AV.len]; omega) | assumption | (simp [AV.len]; done))) trivial rfl ?_
 refine .q (op_load Tryz.underlying30 rfl rfl rfl rfl (by first | omega | (simp only [AV.len]; omega) | (simp only [AV.len]; omega) | assumption | (simp [AV.len]; done))) trivial rfl ?_
 refine .q (op_load Tryz.underlying30 rfl rfl rfl rfl (by first | omega | (simp only [AV.len]; omega) | (simp only [AV.len]; omega) | assumption | (simp [AV.len]; done))) trivial rfl ?_
 refine .q (op_load Tryz.underlying30 rfl rfl rfl rfl (by first | omega | (simp only [AV.len]; omega) | (simp only [AV.len]; omega) | assumption | (simp [AV.len]; done))) trivial rfl ?_
 refine .q (op_load Tryz.underlying30 rfl rfl rfl rfl (by first | omega | (simp only [AV.len]; omega) | (simp only [AV.len]; omega) | assumption | (simp [AV.len]; done))) trivial rfl ?_
 refine .q (op_load Tryz.underlying30 rfl rfl rfl rfl (by first | omega | (simp only [AV.len]; omega) | (simp only [AV.len]; omega) | assumption | (simp [AV.len]; done))) trivial rfl ?_
 refine .q (op_load Tryz.underlying30 rfl rfl rfl rfl (by first | omega | (simp only [AV.len]; omega) | (simp only [AV.len]; omega) | assumption | (simp [AV.len]; done))) trivial rfl ?_
 refine .q (op_load Tryz.underlying30 rfl rfl rfl rfl (by first | omega | (simp only [AV.len]; omega) | (simp only [AV.len]; omega) | assumption | (simp [AV.len]; done))) trivial rfl ?_
 refine .q (op_load Tryz.underlying30 rfl rfl rfl rfl (by first | omega | (simp only [AV.len]; omega) | (simp only [AV.len]; omega) | assumption | (simp [AV.len]; done))) trivial rfl ?_
 refine .q (op_load Tryz.underlying30 rfl rfl rfl rfl (by first | omega | (simp only [AV.len]; omega) | (simp only [AV.len]; omega) | assumption | (simp [AV.len]; done))) trivial rfl ?_
 refine .q (op_load Tryz.underlying30 rfl rfl rfl rfl (by first | omega | (simp only [AV.len]; omega) | (simp only [AV.len]; omega) | assumption | (simp [AV.len]; done))) trivial rfl ?_
 refine .q (op_load Tryz.underlying30 rfl rfl rfl rfl (by first | omega | (simp only [AV.len]; omega) | (simp only [AV.len]; omega) | assumption | (simp [AV.len]; done))) trivial rfl ?_
 refine .q (op_load Tryz.underlying30 rfl rfl rfl rfl (by first | omega | (simp only [AV.len]; omega) | (simp only [AV.len]; omega) | assumption | (simp [AV.len]; done))) trivial rfl ?_
 refine .q (op_load Tryz.underlying30 rfl rfl rfl rfl (by first | omega | (simp only [AV.len]; omega) | (simp only [AV.len]; omega) | assumption | (simp [AV.len]; done))) trivial rfl ?_
 refine .q (op_buildFull (zv := .nilIface) (u0 := .err 0 0 (0, 0)) [.err 165 (1) (offE eo (1)), .err 165 (2) (offE eo (2)), .err 165 (3) (offE eo (3)), .err 165 (4) (offE eo (4)), .err 165 (5) (offE eo (5)), .err 165 (6) (offE eo (6)), .err 165 (7) (offE eo (7)), .err 165 (8) (offE eo (8)), .err 165 (9) (offE eo (9)), .err 165 (10) (offE eo (10)), .err 165 (11) (offE eo (11)), .err 165 (12) (offE eo (12)), .err 165 (13) (offE eo (13)), .err 165 (14) (offE eo (14)), .err 165 (15) (offE eo (15)), .err 165 (16) (offE eo (16)), .err 165 (17) (offE eo (17)), .err 165 (18) (offE eo (18)), .err 165 (19) (offE eo (19)), .err 165 (20) (offE eo (20))] Tryz.underlying61 (by kernel_rfl) (by kernel_rfl) (.err0 _ _) rfl ⟨rfl, rfl, rfl, rfl, rfl, rfl, rfl, rfl, rfl, rfl, rfl, rfl, rfl, rfl, rfl, rfl, rfl, rfl, rfl, rfl, rfl, rfl, rfl, rfl, rfl, rfl, rfl, rfl, rfl, rfl, rfl, rfl, rfl, rfl, rfl, rfl, rfl, rfl, rfl, rfl, rfl, rfl, rfl, rfl, rfl, rfl, rfl, rfl, rfl, rfl, rfl, rfl, rfl, rfl, rfl, rfl, rfl, rfl, rfl, rfl, trivial⟩ rfl rfl) trivial rfl ?_
 refine .q (op_move rfl) trivial rfl ?_
 refine .nil ?_
 show Ev _ _ _ _ _
 refine .block ?_
 refine Ev.rounds 3 ?_
 show Ev _ _ _ _ _
 refine .seq ?_
 refine .region ?_
 refine .q (op_cmpI rfl rfl rfl) trivial rfl ?_
 refine .nil ?_
 show Ev _ _ _ _ _
 refine .seq ?_
 refine .cond_true rfl (rfl) ?_
 refine .skip ?_
 show Ev _ _ _ _ _
 refine .seq ?_
 refine .block ?_
 refine .seq ?_
 refine .region ?_
 refine .q (op_move rfl) trivial rfl ?_
 refine .q (op_index_row (i := 0) Tryz.underlying61 Tryz.underlying30 rfl (by kernel_rfl) rfl rfl rfl (show _ = ((0 : Nat) : Int) from rfl) rfl (by show 0 < 20; decide) (by decide)) trivial rfl ?_
 refine .q (op_assign rfl) trivial rfl ?_
 refine .q (op_assign rfl) trivial rfl ?_
 refine .nil ?_
 show Ev _ _ _ _ _
 refine .seq ?_
 refine .region ?_
 refine .q (op_move rfl) trivial rfl ?_
 refine .q (op_move rfl) trivial rfl ?_
 refine .q (op_call (U := []) [(500, 500)] [] (is_fault_other_ev 2 0 (eo 2) (eo 0) (hd _ _ (by decide) (by decide) (by decide)) (by decide) (by decide) ws te) Tryz.func23 (by kernel_rfl) rfl rfl rfl (⟨⟨_, rfl, rfl, rfl⟩, ⟨_, rfl, rfl, rfl⟩, trivial⟩) (⟨⟨_, _, rfl, rfl, rfl, rfl, (fun h => by cases h), rfl⟩, ⟨_, _, rfl, rfl, rfl, rfl, (fun h => by cases h), rfl⟩, ⟨_, _, rfl, rfl, rfl, rfl, (fun h => by cases h), rfl⟩, trivial⟩) (trivial) (⟨(fun h => by cases h), (fun h => by cases h), (fun h => by cases h), trivial⟩) rfl) trivial rfl ?_
 refine .nil ?_
 show Ev _ _ _ _ _
 refine .cond_false rfl (rfl) ?_
 refine .skip ?_
 show Ev _ _ _ _ _
 refine .region ?_
 refine .q (op_addI rfl rfl ⟨by omega, by omega⟩) trivial rfl ?_
 refine .q (op_move rfl) trivial rfl ?_
 refine .nil ?_
 show Ev _ _ _ _ _
 refine .seq ?_
 refine .region ?_
 refine .q (op_cmpI rfl rfl rfl) trivial rfl ?_
 refine .nil ?_
 show Ev _ _ _ _ _
 refine .seq ?_
 refine .cond_true rfl (rfl) ?_
 refine .skip ?_
 show Ev _ _ _ _ _
 refine .seq ?_
 refine .block ?_
 refine .seq ?_
 refine .region ?_
 refine .q (op_move rfl) trivial rfl ?_
 refine .q (op_index_row (i := 1) Tryz.underlying61 Tryz.underlying30 rfl (by kernel_rfl) rfl rfl rfl (show _ = ((1 : Nat) : Int) from rfl) rfl (by show 1 < 20; decide) (by decide)) trivial rfl ?_
 refine .q (op_assign rfl) trivial rfl ?_
 refine .q (op_assign rfl) trivial rfl ?_
 refine .nil ?_
 show Ev _ _ _ _ _
 refine .seq ?_
 refine .region ?_
 refine .q (op_move rfl) trivial rfl ?_
 refine .q (op_move rfl) trivial rfl ?_
 refine .q (op_call (U := []) [(500, 500)] [] (is_fault_other_ev 2 1 (eo 2) (eo 1) (hd _ _ (by decide) (by decide) (by decide)) (by decide) (by decide) ws te) Tryz.func23 (by kernel_rfl) rfl rfl rfl (⟨⟨_, rfl, rfl, rfl⟩, ⟨_, rfl, rfl, rfl⟩, trivial⟩) (⟨⟨_, _, rfl, rfl, rfl, rfl, (fun h => by cases h), rfl⟩, ⟨_, _, rfl, rfl, rfl, rfl, (fun h => by cases h), rfl⟩, ⟨_, _, rfl, rfl, rfl, rfl, (fun h => by cases h), rfl⟩, trivial⟩) (trivial) (⟨(fun h => by cases h), (fun h => by cases h), (fun h => by cases h), trivial⟩) rfl) trivial rfl ?_
 refine .nil ?_
 show Ev _ _ _ _ _
 refine .cond_false rfl (rfl) ?_
 refine .skip ?_
 show Ev _ _ _ _ _
 refine .region ?_
 refine .q (op_addI rfl rfl ⟨by omega, by omega⟩) trivial rfl ?_
 refine .q (op_move rfl) trivial rfl ?_
 refine .nil ?_
 show Ev _ _ _ _ _
 refine .seq ?_
 refine .region ?_
 refine .q (op_cmpI rfl rfl rfl) trivial rfl ?_
 refine .nil ?_
 show Ev _ _ _ _ _
 refine .seq ?_
 refine .cond_true rfl (rfl) ?_
 refine .skip ?_
 show Ev _ _ _ _ _
 refine .seq ?_
 refine .block ?_
 refine .seq ?_
 refine .region ?_
 refine .q (op_move rfl) trivial rfl ?_
 refine .q (op_index_row (i := 2) Tryz.underlying61 Tryz.underlying30 rfl (by kernel_rfl) rfl rfl rfl (show _ = ((2 : Nat) : Int) from rfl) rfl (by show 2 < 20; decide) (by decide)) trivial rfl ?_
 refine .q (op_assign rfl) trivial rfl ?_
 refine .q (op_assign rfl) trivial rfl ?_
 refine .nil ?_
 show Ev _ _ _ _ _
 refine .seq ?_
 refine .region ?_
 refine .q (op_move rfl) trivial rfl ?_
 refine .q (op_move rfl) trivial rfl ?_
 refine .q (op_call (U := []) [(500, 500)] [] (is_fault_same_ev 2 (eo 2) ws te) Tryz.func23 (by kernel_rfl) rfl rfl rfl (⟨⟨_, rfl, rfl, rfl⟩, ⟨_, rfl, rfl, rfl⟩, trivial⟩) (⟨⟨_, _, rfl, rfl, rfl, rfl, (fun h => by cases h), rfl⟩, trivial⟩) (trivial) (⟨(fun h => by cases h), trivial⟩) rfl) trivial rfl ?_
 refine .nil ?_
 show Ev _ _ _ _ _
 refine .cond_true rfl (rfl) ?_
 refine .seq ?_
 refine .region ?_
 refine .q (op_move rfl) trivial rfl ?_
 refine .q (op_addI rfl rfl ⟨by omega, by omega⟩) trivial rfl ?_
 refine .q (op_assign rfl) trivial rfl ?_
 refine .nil ?_
 show Ev _ _ _ _ _
 refine .ret ?_
 show RetOk _ _ _ _ _ _ _
 exact ret1v rfl (.inl rfl) rfl rfl trivial
set_option maxRecDepth 100000 in
theorem codeF_4 (eo : Nat → Nat × Nat) (hd : ∀ i j, i < 20 → j < 20 → i ≠ j → eo i ≠ eo j) (ws : List UInt8) (te : Nat) : Meets Tryz.prog 12 [.ifc 63 (.ptr 500 0)] [(2, some ⟨.agg [.err 165 (1) (offE eo (1))], errT, false⟩), (3, some ⟨.agg [.err 165 (2) (offE eo (2))], errT, false⟩), (4, some ⟨.agg [.err 165 (3) (offE eo (3))], errT, false⟩), (5, some ⟨.agg [.err 165 (4) (offE eo (4))], errT, false⟩), (6, some ⟨.agg [.err 165 (5) (offE eo (5))], errT, false⟩), (7, some ⟨.agg [.err 165 (6) (offE eo (6))], errT, false⟩), (8, some ⟨.agg [.err 165 (7) (offE eo (7))], errT, false⟩), (9, some ⟨.agg [.err 165 (8) (offE eo (8))], errT, false⟩), (10, some ⟨.agg [.err 165 (9) (offE eo (9))], errT, false⟩), (0, some ⟨.agg [.err 165 (10) (offE eo (10))], errT, false⟩), (1, some ⟨.agg [.err 165 (11) (offE eo (11))], errT, false⟩), (11, some ⟨.agg [.err 165 (12) (offE eo (12))], errT, false⟩), (12, some ⟨.agg [.err 165 (13) (offE eo (13))], errT, false⟩), (13, some ⟨.agg [.err 165 (14) (offE eo (14))], errT, false⟩), (14, some ⟨.agg [.err 165 (15) (offE eo (15))], errT, false⟩), (15, some ⟨.agg [.err 165 (16) (offE eo (16))], errT, false⟩), (16, some ⟨.agg [.err 165 (17) (offE eo (17))], errT, false⟩), (17, some ⟨.agg [.err 165 (18) (offE eo (18))], errT, false⟩), (18, some ⟨.agg [.err 165 (19) (offE eo (19))], errT, false⟩), (19, some ⟨.agg [.err 165 (20) (offE eo (20))], errT, false⟩), (401, some ⟨.agg [], errT, false⟩), (402, some ⟨.agg [], errT, false⟩), (403, some ⟨.agg [], errT, false⟩), (404, some ⟨.agg [], errT, false⟩), (405, some ⟨.agg [], errT, false⟩), (406, some ⟨.agg [], errT, false⟩), (407, some ⟨.agg [], errT, false⟩), (408, some ⟨.agg [], errT, false⟩), (409, some ⟨.agg [], errT, false⟩), (410, some ⟨.agg [], errT, false⟩), (411, some ⟨.agg [], errT, false⟩), (412, some ⟨.agg [], errT, false⟩), (413, some ⟨.agg [], errT, false⟩), (414, some ⟨.agg [], errT, false⟩), (415, some ⟨.agg [], errT, false⟩), (416, some ⟨.agg [], errT, false⟩), (417, some ⟨.agg [], errT, false⟩), (418, some ⟨.agg [], errT, false⟩), (419, some ⟨.agg [], errT, false⟩), (420, some ⟨.agg [], errT, false⟩), (500, some ⟨.agg [.str ws, .err 165 (4) (offE eo (4))], te, false⟩)] (.i64 4) [] := by
 refine meets_of_ev (nt := 38) Tryz.func12 rfl rfl (Nat.le_of_ble_eq_true rfl) ?_
 refine .seq ?_
 refine .region ?_
 refine .q (op_assign rfl) trivial rfl ?_
 refine .nil ?_
 show Ev _ _ _ _ _
 refine .seq ?_
 refine .seq ?_
 refine .region ?_
 refine .q (op_move rfl) trivial rfl ?_
 refine .q (op_eqIfcNil Tryz.underlying30 rfl rfl) trivial rfl ?_
 refine .nil ?_
 show Ev _ _ _ _ _
 refine .cond_false rfl (rfl) ?_
 refine .skip ?_
 show Ev _ _ _ _ _
 refine .seq ?_
 refine .seq ?_
 refine .region ?_
 refine .q (op_load Tryz.underlying30 rfl rfl rfl rfl (by first | omega | (simp only [AV.len]; omega) | (simp only [AV.len]; omega) | assumption | (simp [AV.len]; done))) trivial rfl ?_
 refine .q (op_load Tryz.underlying30 rfl rfl rfl rfl (by first | omega | (simp only [AV.len]; omega) | (simp only [AV.len]; omega) | assumption | (simp [AV.len]; done))) trivial rfl ?_
 refine .q (op_load Tryz.underlying30 rfl rfl rfl rfl (by first | omega | (simp only [AV.len]; omega) | (simp only [AV.len]; omega) | assumption | (simp [AV.len]; done))) trivial rfl ?_
 refine .q (op_load Tryz.underlying30 rfl rfl rfl rfl (by first | omega | (simp only [AV.len]; omega) | (simp only [AV.len]; omega) | assumption | (simp [AV.len]; done))) trivial rfl ?_
 refine .q (op_load Tryz.underlying30 rfl rfl rfl rfl (by first | omega | (simp only [AV.len]; omega) | (simp only [AV.len]; omega) | assumption | (simp [AV.len]; done))) trivial rfl ?_
 refine .q (op_load Tryz.underlying30 rfl rfl rfl rfl (by first | omega | (simp only [AV.len]; omega) | (simp only [AV.len]; omega) | assumption | (simp [AV.len]; done))) trivial rfl ?_
 refine .q (op_load Tryz.underlying30 rfl rfl rfl rfl (by first | omega | (simp only [AV.len]; omega) | (simp only [AV.len]; omega) | assumption | (simp [AV.len]; done))) trivial rfl ?_
 refine .q (op_load Tryz.underlying30 rfl rfl rfl rfl (by first | omega | (simp only [AV.len]; omega) | (simp only [AV.len]; omega) | assumption | (simp [AV.len]; done))) trivial rfl ?_
 refine .q (op_load Tryz.underlying30 rfl rfl rfl rfl (by first | omega | (simp only [AV.len]; omega) | (simp only [AV.len]; omega) | assumption | (simp [AV.len]; done))) trivial rfl ?_
 refine .q (op_load Tryz.underlying30 rfl rfl rfl rfl (by first | omega | (simp only [AV.len]; omega) | (simp only [AV.len]; omega) | assumption | (simp [AV.len]; done))) trivial rfl ?_
 refine .q (op_load Tryz.underlying30 rfl rfl rfl rfl (by first | omega | (simp only [AV.len]; omega) | (simp only [AV.len]; omega) | assumption | (simp [AV.len]; done))) trivial rfl ?_
 refine .q (op_load Tryz.underlying30 rfl rfl rfl rfl (by first | omega | (simp only [AV.len]; omega) | (simp only [AV.len]; omega) | assumption | (simp [AV.len]; done))) trivial rfl ?_
 refine .q (op_load Tryz.underlying30 rfl rfl rfl rfl (by first | omega | (simp only [AV.len]; omega) | (simp only [AV.len]; omega) | assumption | (simp [AV.len]; done))) trivial rfl ?_
 refine .q (op_load Tryz.underlying30 rfl rfl rfl rfl (by first | omega | (simp only [AV.len]; omega) | (simp only [AV.len]; omega) | assumption | (simp [AV.len]; done))) trivial rfl ?_
 refine .q (op_load Tryz.underlying30 rfl rfl rfl rfl (by first | omega | (simp only [AV.len]; omega) | (simp only [AV.len]; omega) | assumption | (simp [AV.len]; done))) trivial rfl ?_
 refine .q (op_load Tryz.underlying30 rfl rfl rfl rfl (by first | omega | (simp only [AV.len]; omega) | (simp only [AV.len]; omega) | assumption | (simp [AV.len]; done))) trivial rfl ?_
 refine .q (op_load Tryz.underlying30 rfl rfl rfl rfl (by first | omega | (simp only [AV.len]; omega) | (simp only [AV.len]; omega) | assumption | (simp [AV.len]; done))) trivial rfl ?_
 refine .q (op_load Tryz.underlying30 rfl rfl rfl rfl (by first | omega | (simp only [AV.len]; omega) | (simp only [AV.len]; omega) | assumption | (simp [AV.len]; done))) trivial rfl ?_
 refine .q (op_load Tryz.underlying30 rfl rfl rfl rfl (by first | omega | (simp only [AV.len]; omega) | (simp only [AV.len]; omega) | assumption | (simp [AV.len]; done))) trivial rfl ?_
 refine .q (op_load Tryz.underlying30 rfl rfl rfl rfl (by first | omega | (simp only [AV.len]; omega) | (simp only [AV.len]; omega) | assumption | (simp [AV.len]; done))) trivial rfl ?_
 refine .q (op_buildFull (zv := .nilIface) (u0 := .err 0 0 (0, 0)) [.err 165 (1) (offE eo (1)), .err 165 (2) (offE eo (2)), .err 165 (3) (offE eo (3)), .err 165 (4) (offE eo (4)), .err 165 (5) (offE eo (5)), .err 165 (6) (offE eo (6)), .err 165 (7) (offE eo (7)), .err 165 (8) (offE eo (8)), .err 165 (9) (offE eo (9)), .err 165 (10) (offE eo (10)), .err 165 (11) (offE eo (11)), .err 165 (12) (offE eo (12)), .err 165 (13) (offE eo (13)), .err 165 (14) (offE eo (14)), .err 165 (15) (offE eo (15)), .err 165 (16) (offE eo (16)), .err 165 (17) (offE eo (17)), .err 165 (18) (offE eo (18)), .err 165 (19) (offE eo (19)), .err 165 (20) (offE eo (20))] Tryz.underlying61 (by kernel_rfl) (by kernel_rfl) (.err0 _ _) rfl ⟨rfl, rfl, rfl, rfl, rfl, rfl, rfl, rfl, rfl, rfl, rfl, rfl, rfl, rfl, rfl, rfl, rfl, rfl, rfl, rfl, rfl, rfl, rfl, rfl, rfl, rfl, rfl, rfl, rfl, rfl, rfl, rfl, rfl, rfl, rfl, rfl, rfl, rfl, rfl, rfl, rfl, rfl, rfl, rfl, rfl, rfl, rfl, rfl, rfl, rfl, rfl, rfl, rfl, rfl, rfl, rfl, rfl, rfl, rfl, rfl, trivial⟩ rfl rfl) trivial rfl ?_
 refine .q (op_move rfl) trivial rfl ?_
 refine .nil ?_
 show Ev _ _ _ _ _
 refine .block ?_
 refine Ev.rounds 4 ?_
 show Ev _ _ _ _ _
 refine .seq ?_
 refine .region ?_
 refine .q (op_cmpI rfl rfl rfl) trivial rfl ?_
 refine .nil ?_
 show Ev _ _ _ _ _
 refine .seq ?_
 refine .cond_true rfl (rfl) ?_
 refine .skip ?_
 show Ev _ _ _ _ _
 refine .seq ?_
 refine .block ?_
 refine .seq ?_
 refine .region ?_
 refine .q (op_move rfl) trivial rfl ?_
 refine .q (op_index_row (i := 0) Tryz.underlying61 Tryz.underlying30 rfl (by kernel_rfl) rfl rfl rfl (show _ = ((0 : Nat) : Int) from rfl) rfl (by show 0 < 20; decide) (by decide)) trivial rfl ?_
 refine .q (op_assign rfl) trivial rfl ?_
 refine .q (op_assign rfl) trivial rfl ?_
 refine .nil ?_
 show Ev _ _ _ _ _
 refine .seq ?_
 refine .region ?_
 refine .q (op_move rfl) trivial rfl ?_
 refine .q (op_move rfl) trivial rfl ?_
 refine .q (op_call (U := []) [(500, 500)] [] (is_fault_other_ev 3 0 (eo 3) (eo 0) (hd _ _ (by decide) (by decide) (by decide)) (by decide) (by decide) ws te) Tryz.func23 (by kernel_rfl) rfl rfl rfl (⟨⟨_, rfl, rfl, rfl⟩, ⟨_, rfl, rfl, rfl⟩, trivial⟩) (⟨⟨_, _, rfl, rfl, rfl, rfl, (fun h => by cases h), rfl⟩, ⟨_, _, rfl, rfl, rfl, rfl, (fun h => by cases h), rfl⟩, ⟨_, _, rfl, rfl, rfl, rfl, (fun h => by cases h), rfl⟩, trivial⟩) (trivial) (⟨(fun h => by cases h), (fun h => by cases h), (fun h => by cases h), trivial⟩) rfl) trivial rfl ?_
 refine .nil ?_
 show Ev _ _ _ _ _
 refine .cond_false rfl (rfl) ?_
 refine .skip ?_
 show Ev _ _ _ _ _
 refine .region ?_
 refine .q (op_addI rfl rfl ⟨by omega, by omega⟩) trivial rfl ?_
 refine .q (op_move rfl) trivial rfl ?_
 refine .nil ?_
 show Ev _ _ _ _ _
 refine .seq ?_
 refine .region ?_
 refine .q (op_cmpI rfl rfl rfl) trivial rfl ?_
 refine .nil ?_
 show Ev _ _ _ _ _
 refine .seq ?_
 refine .cond_true rfl (rfl) ?_
 refine .skip ?_
 show Ev _ _ _ _ _
 refine .seq ?_
 refine .block ?_
 refine .seq ?_
 refine .region ?_
 refine .q (op_move rfl) trivial rfl ?_
 refine .q (op_index_row (i := 1) Tryz.underlying61 Tryz.underlying30 rfl (by kernel_rfl) rfl rfl rfl (show _ = ((1 : Nat) : Int) from rfl) rfl (by show 1 < 20; decide) (by decide)) trivial rfl ?_
 refine .q (op_assign rfl) trivial rfl ?_
 refine .q (op_assign rfl) trivial rfl ?_
 refine .nil ?_
 show Ev _ _ _ _ _
 refine .seq ?_
 refine .region ?_
 refine .q (op_move rfl) trivial rfl ?_
 refine .q (op_move rfl) trivial rfl ?_
 refine .q (op_call (U := []) [(500, 500)] [] (is_fault_other_ev 3 1 (eo 3) (eo 1) (hd _ _ (by decide) (by decide) (by decide)) (by decide) (by decide) ws te) Tryz.func23 (by kernel_rfl) rfl rfl rfl (⟨⟨_, rfl, rfl, rfl⟩, ⟨_, rfl, rfl, rfl⟩, trivial⟩) (⟨⟨_, _, rfl, rfl, rfl, rfl, (fun h => by cases h), rfl⟩, ⟨_, _, rfl, rfl, rfl, rfl, (fun h => by cases h), rfl⟩, ⟨_, _, rfl, rfl, rfl, rfl, (fun h => by cases h), rfl⟩, trivial⟩) (trivial) (⟨(fun h => by cases h), (fun h => by cases h), (fun h => by cases h), trivial⟩) rfl) trivial rfl ?_
 refine .nil ?_
 show Ev _ _ _ _ _
 refine .cond_false rfl (rfl) ?_
 refine .skip ?_
 show Ev _ _ _ _ _
 refine .region ?_
 refine .q (op_addI rfl rfl ⟨by omega, by omega⟩) trivial rfl ?_
 refine .q (op_move rfl) trivial rfl ?_
 refine .nil ?_
 show Ev _ _ _ _ _
 refine .seq ?_
 refine .region ?_
 refine .q (op_cmpI rfl rfl rfl) trivial rfl ?_
 refine .nil ?_
 show Ev _ _ _ _ _
 refine .seq ?_
 refine .cond_true rfl (rfl) ?_
 refine .skip ?_
 show Ev _ _ _ _ _
 refine .seq ?_
 refine .block ?_
 refine .seq ?_
 refine .region ?_
 refine .q (op_move rfl) trivial rfl ?_
 refine .q (op_index_row (i := 2) Tryz.underlying61 Tryz.underlying30 rfl (by kernel_rfl) rfl rfl rfl (show _ = ((2 : Nat) : Int) from rfl) rfl (by show 2 < 20; decide) (by decide)) trivial rfl ?_
 refine .q (op_assign rfl) trivial rfl ?_
 refine .q (op_assign rfl) trivial rfl ?_
 refine .nil ?_
 show Ev _ _ _ _ _
 refine .seq ?_
 refine .region ?_
 refine .q (op_move rfl) trivial rfl ?_
 refine .q (op_move rfl) trivial rfl ?_
 refine .q (op_call (U := []) [(500, 500)] [] (is_fault_other_ev 3 2 (eo 3) (eo 2) (hd _ _ (by decide) (by decide) (by decide)) (by decide) (by decide) ws te) Tryz.func23 (by kernel_rfl) rfl rfl rfl (⟨⟨_, rfl, rfl, rfl⟩, ⟨_, rfl, rfl, rfl⟩, trivial⟩) (⟨⟨_, _, rfl, rfl, rfl, rfl, (fun h => by cases h), rfl⟩, ⟨_, _, rfl, rfl, rfl, rfl, (fun h => by cases h), rfl⟩, ⟨_, _, rfl, rfl, rfl, rfl, (fun h => by cases h), rfl⟩, trivial⟩) (trivial) (⟨(fun h => by cases h), (fun h => by cases h), (fun h => by cases h), trivial⟩) rfl) trivial rfl ?_
 refine .nil ?_
 show Ev _ _ _ _ _
 refine .cond_false rfl (rfl) ?_
 refine .skip ?_
 show Ev _ _ _ _ _
 refine .region ?_
 refine .q (op_addI rfl rfl ⟨by omega, by omega⟩) trivial rfl ?_
 refine .q (op_move rfl) trivial rfl ?_
 refine .nil ?_
 show Ev _ _ _ _ _
 refine .seq ?_
 refine .region ?_
 refine .q (op_cmpI rfl rfl rfl) trivial rfl ?_
 refine .nil ?_
 show Ev _ _ _ _ _
 refine .seq ?_
 refine .cond_true rfl (rfl) ?_
 refine .skip ?_
 show Ev _ _ _ _ _
 refine .seq ?_
 refine .block ?_
 refine .seq ?_
 refine .region ?_
 refine .q (op_move rfl) trivial rfl ?_
 refine .q (op_index_row (i := 3) Tryz.underlying61 Tryz.underlying30 rfl (by kernel_rfl) rfl rfl rfl (show _ = ((3 : Nat) : Int) from rfl) rfl (by show 3 < 20; decide) (by decide)) trivial rfl ?_
 refine .q (op_assign rfl) trivial rfl ?_
 refine .q (op_assign rfl) trivial rfl ?_
 refine .nil ?_
 show Ev _ _ _ _ _
 refine .seq ?_
 refine .region ?_
 refine .q (op_move rfl) trivial rfl ?_
 refine .q (op_move rfl) trivial rfl ?_
 refine .q (op_call (U := []) [(500, 500)] [] (is_fault_same_ev 3 (eo 3) ws te) Tryz.func23 (by kernel_rfl) rfl rfl rfl (⟨⟨_, rfl, rfl, rfl⟩, ⟨_, rfl, rfl, rfl⟩, trivial⟩) (⟨⟨_, _, rfl, rfl, rfl, rfl, (fun h => by cases h), rfl⟩, trivial⟩) (trivial) (⟨(fun h => by cases h), trivial⟩) rfl) trivial rfl ?_
 refine .nil ?_
 show Ev _ _ _ _ _
 refine .cond_true rfl (rfl) ?_
 refine .seq ?_
 refine .region ?_
 refine .q (op_move rfl) trivial rfl ?_
 refine .q (op_addI rfl rfl ⟨by omega, by omega⟩) trivial rfl ?_
 refine .q (op_assign rfl) trivial rfl ?_
 refine .nil ?_
 show Ev _ _ _ _ _
 refine .ret ?_
 show RetOk _ _ _ _ _ _ _
 exact ret1v rfl (.inl rfl) rfl rfl trivial
set_option maxRecDepth 100000 in
theorem codeF_10 (eo : Nat → Nat × Nat) (hd : ∀ i j, i < 20 → j < 20 → i ≠ j → eo i ≠ eo j) (ws : List UInt8) (te : Nat) : Meets Tryz.prog 12 [.ifc 63 (.ptr 500 0)] [(2, some ⟨.agg [.err 165 (1) (offE eo (1))], errT, false⟩), (3, some ⟨.agg [.err 165 (2) (offE eo (2))], errT, false⟩), (4, some ⟨.agg [.err 165 (3) (offE eo (3))], errT, false⟩), (5, some ⟨.agg [.err 165 (4) (offE eo (4))], errT, false⟩), (6, some ⟨.agg [.err 165 (5) (offE eo (5))], errT, false⟩), (7, some ⟨.agg [.err 165 (6) (offE eo (6))], errT, false⟩), (8, some ⟨.agg [.err 165 (7) (offE eo (7))], errT, false⟩), (9, some ⟨.agg [.err 165 (8) (offE eo (8))], errT, false⟩), (10, some ⟨.agg [.err 165 (9) (offE eo (9))], errT, false⟩), (0, some ⟨.agg [.err 165 (10) (offE eo (10))], errT, false⟩), (1, some ⟨.agg [.err 165 (11) (offE eo (11))], errT, false⟩), (11, some ⟨.agg [.err 165 (12) (offE eo (12))], errT, false⟩), (12, some ⟨.agg [.err 165 (13) (offE eo (13))], errT, false⟩), (13, some ⟨.agg [.err 165 (14) (offE eo (14))], errT, false⟩), (14, some ⟨.agg [.err 165 (15) (offE eo (15))], errT, false⟩), (15, some ⟨.agg [.err 165 (16) (offE eo (16))], errT, false⟩), (16, some ⟨.agg [.err 165 (17) (offE eo (17))], errT, false⟩), (17, some ⟨.agg [.err 165 (18) (offE eo (18))], errT, false⟩), (18, some ⟨.agg [.err 165 (19) (offE eo (19))], errT, false⟩), (19, some ⟨.agg [.err 165 (20) (offE eo (20))], errT, false⟩), (401, some ⟨.agg [], errT, false⟩), (402, some ⟨.agg [], errT, false⟩), (403, some ⟨.agg [], errT, false⟩), (404, some ⟨.agg [], errT, false⟩), (405, some ⟨.agg [], errT, false⟩), (406, some ⟨.agg [], errT, false⟩), (407, some ⟨.agg [], errT, false⟩), (408, some ⟨.agg [], errT, false⟩), (409, some ⟨.agg [], errT, false⟩), (410, some ⟨.agg [], errT, false⟩), (411, some ⟨.agg [], errT, false⟩), (412, some ⟨.agg [], errT, false⟩), (413, some ⟨.agg [], errT, false⟩), (414, some ⟨.agg [], errT, false⟩), (415, some ⟨.agg [], errT, false⟩), (416, some ⟨.agg [], errT, false⟩), (417, some ⟨.agg [], errT, false⟩), (418, some ⟨.agg [], errT, false⟩), (419, some ⟨.agg [], errT, false⟩), (420, some ⟨.agg [], errT, false⟩), (500, some ⟨.agg [.str ws, .err 165 (10) (offE eo (10))], te, false⟩)] (.i64 10) [] := by
 refine meets_of_ev (nt := 38) Tryz.func12 rfl rfl (Nat.le_of_ble_eq_true rfl) ?_
 refine .seq ?_
 refine .region ?_
 refine .q (op_assign rfl) trivial rfl ?_
 refine .nil ?_
 show Ev _ _ _ _ _
 refine .seq ?_
 refine .seq ?_
 refine .region ?_
 refine .q (op_move rfl) trivial rfl ?_
 refine .q (op_eqIfcNil Tryz.underlying30 rfl rfl) trivial rfl ?_
 refine .nil ?_
 show Ev _ _ _ _ _
 refine .cond_false rfl (rfl) ?_
 refine .skip ?_
 show Ev _ _ _ _ _
 refine .seq ?_
 refine .seq ?_
 refine .region ?_
 refine .q (op_load Tryz.underlying30 rfl rfl rfl rfl (by first | omega | (simp only [AV.len]; omega) | (simp only [AV.len]; omega) | assumption | (simp [AV.len]; done))) trivial rfl ?_
 refine .q (op_load Tryz.underlying30 rfl rfl rfl rfl (by first | omega | (simp only [AV.len]; omega) | (simp only [AV.len]; omega) | assumption | (simp [AV.len]; done))) trivial rfl ?_
 refine .q (op_load Tryz.underlying30 rfl rfl rfl rfl (by first | omega | (simp only [AV.len]; omega) | (simp only [AV.len]; omega) | assumption | (simp [AV.len]; done))) trivial rfl ?_
 refine .q (op_load Tryz.underlying30 rfl rfl rfl rfl (by first | omega | (simp only [AV.len]; omega) | (simp only [AV.len]; omega) | assumption | (simp [AV.len]; done))) trivial rfl ?_
 refine .q (op_load Tryz.underlying30 rfl rfl rfl rfl (by first | omega | (simp only [AV.len]; omega) | (simp only [AV.len]; omega) | assumption | (simp [AV.len]; done))) trivial rfl ?_
 refine .q (op_load Tryz.underlying30 rfl rfl rfl rfl (by first | omega | (simp only [AV.len]; omega) | (simp only [AV.len]; omega) | assumption | (simp [AV.len]; done))) trivial rfl ?_
 refine .q (op_load Tryz.underlying30 rfl rfl rfl rfl (by first | omega | (simp only [AV.len]; omega) | (simp only [AV.len]; omega) | assumption | (simp [AV.len]; done))) trivial rfl ?_
 refine .q (op_load Tryz.underlying30 rfl rfl rfl rfl (by first | omega | (simp only [AV.len]; omega) | (simp only [AV.len]; omega) | assumption | (simp [AV.len]; done))) trivial rfl ?_
 refine .q (op_load Tryz.underlying30 rfl rfl rfl rfl (by first | omega | (simp only [AV.len]; omega) | (simp only [AV.len]; omega) | assumption | (simp [AV.len]; done))) trivial rfl ?_
 refine .q (op_load Tryz.underlying30 rfl rfl rfl rfl (by first | omega | (simp only [AV.len]; omega) | (simp only [AV.len]; omega) | assumption | (simp [AV.len]; done))) trivial rfl ?_
 refine .q (op_load Tryz.underlying30 rfl rfl rfl rfl (by first | omega | (simp only [AV.len]; omega) | (simp only [AV.len]; omega) | assumption | (simp [AV.len]; done))) trivial rfl ?_
 refine .q (op_load Tryz.underlying30 rfl rfl rfl rfl (by first | omega | (simp only [AV.len]; omega) | (simp only [AV.len]; omega) | assumption | (simp [AV.len]; done))) trivial rfl ?_
 refine .q (op_load Tryz.underlying30 rfl rfl rfl rfl (by first | omega | (simp only [AV.len]; omega) | (simp only [AV.len]; omega) | assumption | (simp [AV.len]; done))) trivial rfl ?_
 refine .q (op_load Tryz.underlying30 rfl rfl rfl rfl (by first | omega | (simp only [AV.len]; omega) | (simp only [AV.len]; omega) | assumption | (simp [AV.len]; done))) trivial rfl ?_
 refine .q (op_load Tryz.underlying30 rfl rfl rfl rfl (by first | omega | (simp only [AV.len]; omega) | (simp only [AV.len]; omega) | assumption | (simp [AV.len]; done))) trivial rfl ?_
 refine .q (op_load Tryz.underlying30 rfl rfl rfl rfl (by first | omega | (simp only [AV.len]; omega) | (simp only [AV.len]; omega) | assumption | (simp [AV.len]; done))) trivial rfl ?_
 refine .q (op_load Tryz.underlying30 rfl rfl rfl rfl (by first | omega | (simp only [AV.len]; omega) | (simp only [AV.len]; omega) | assumption | (simp [AV.len]; done))) trivial rfl ?_
 refine .q (op_load Tryz.underlying30 rfl rfl rfl rfl (by first | omega | (simp only [AV.len]; omega) | (simp only [AV.len]; omega) | assumption | (simp [AV.len]; done))) trivial rfl ?_
 refine .q (op_load Tryz.underlying30 rfl rfl rfl rfl (by first | omega | (simp only [AV.len]; omega) | (simp only [AV.len]; omega) | assumption | (simp [AV.len]; done))) trivial rfl ?_
 refine .q (op_load Tryz.underlying30 rfl rfl rfl rfl (by first | omega | (simp only [AV.len]; omega) | (simp only [AV.len]; omega) | assumption | (simp [AV.len]; done))) trivial rfl ?_
 refine .q (op_buildFull (zv := .nilIface) (u0 := .err 0 0 (0, 0)) [.err 165 (1) (offE eo (1)), .err 165 (2) (offE eo (2)), .err 165 (3) (offE eo (3)), .err 165 (4) (offE eo (4)), .err 165 (5) (offE eo (5)), .err 165 (6) (offE eo (6)), .err 165 (7) (offE eo (7)), .err 165 (8) (offE eo (8)), .err 165 (9) (offE eo (9)), .err 165 (10) (offE eo (10)), .err 165 (11) (offE eo (11)), .err 165 (12) (offE eo (12)), .err 165 (13) (offE eo (13)), .err 165 (14) (offE eo (14)), .err 165 (15) (offE eo (15)), .err 165 (16) (offE eo (16)), .err 165 (17) (offE eo (17)), .err 165 (18) (offE eo (18)), .err 165 (19) (offE eo (19)), .err 165 (20) (offE eo (20))] Tryz.underlying61 (by kernel_rfl) (by kernel_rfl) (.err0 _ _) rfl ⟨rfl, rfl, rfl, rfl, rfl, rfl, rfl, rfl, rfl, rfl, rfl, rfl, rfl, rfl, rfl, rfl, rfl, rfl, rfl, rfl, rfl, rfl, rfl, rfl, rfl, rfl, rfl, rfl, rfl, rfl, rfl, rfl, rfl, rfl, rfl, rfl, rfl, rfl, rfl, rfl, rfl, rfl, rfl, rfl, rfl, rfl, rfl, rfl, rfl, rfl, rfl, rfl, rfl, rfl, rfl, rfl, rfl, rfl, rfl, rfl, trivial⟩ rfl rfl) trivial rfl ?_
 refine .q (op_move rfl) trivial rfl ?_
 refine .nil ?_
 show Ev _ _ _ _ _
 refine .block ?_
 refine Ev.rounds 10 ?_
 show Ev _ _ _ _ _
 refine .seq ?_
 refine .region ?_
 refine .q (op_cmpI rfl rfl rfl) trivial rfl ?_
 refine .nil ?_
 show Ev _ _ _ _ _
 refine .seq ?_
 refine .cond_true rfl (rfl) ?_
 refine .skip ?_
 show Ev _ _ _ _ _
 refine .seq ?_
 refine .block ?_
 refine .seq ?_
 refine .region ?_
 refine .q (op_move rfl) trivial rfl ?_
 refine .q (op_index_row (i := 0) Tryz.underlying61 Tryz.underlying30 rfl (by kernel_rfl) rfl rfl rfl (show _ = ((0 : Nat) : Int) from rfl) rfl (by show 0 < 20; decide) (by decide)) trivial rfl ?_
 refine .q (op_assign rfl) trivial rfl ?_
 refine .q (op_assign rfl) trivial rfl ?_
 refine .nil ?_
 show Ev _ _ _ _ _
 refine .seq ?_
 refine .region ?_
 refine .q (op_move rfl) trivial rfl ?_
 refine .q (op_move rfl) trivial rfl ?_
 refine .q (op_call (U := []) [(500, 500)] [] (is_fault_other_ev 9 0 (eo 9) (eo 0) (hd _ _ (by decide) (by decide) (by decide)) (by decide) (by decide) ws te) Tryz.func23 (by kernel_rfl) rfl rfl rfl (⟨⟨_, rfl, rfl, rfl⟩, ⟨_, rfl, rfl, rfl⟩, trivial⟩) (⟨⟨_, _, rfl, rfl, rfl, rfl, (fun h => by cases h), rfl⟩, ⟨_, _, rfl, rfl, rfl, rfl, (fun h => by cases h), rfl⟩, ⟨_, _, rfl, rfl, rfl, rfl, (fun h => by cases h), rfl⟩, trivial⟩) (trivial) (⟨(fun h => by cases h), (fun h => by cases h), (fun h => by cases h), trivial⟩) rfl) trivial rfl ?_
 refine .nil ?_
 show Ev _ _ _ _ _
 refine .cond_false rfl (rfl) ?_
 refine .skip ?_
 show Ev _ _ _ _ _
 refine .region ?_
 refine .q (op_addI rfl rfl ⟨by omega, by omega⟩) trivial rfl ?_
 refine .q (op_move rfl) trivial rfl ?_
 refine .nil ?_
 show Ev _ _ _ _ _
 refine .seq ?_
 refine .region ?_
 refine .q (op_cmpI rfl rfl rfl) trivial rfl ?_
 refine .nil ?_
 show Ev _ _ _ _ _
 refine .seq ?_
 refine .cond_true rfl (rfl) ?_
 refine .skip ?_
 show Ev _ _ _ _ _
 refine .seq ?_
 refine .block ?_
 refine .seq ?_
 refine .region ?_
 refine .q (op_move rfl) trivial rfl ?_
 refine .q (op_index_row (i := 1) Tryz.underlying61 Tryz.underlying30 rfl (by kernel_rfl) rfl rfl rfl (show _ = ((1 : Nat) : Int) from rfl) rfl (by show 1 < 20; decide) (by decide)) trivial rfl ?_
 refine .q (op_assign rfl) trivial rfl ?_
 refine .q (op_assign rfl) trivial rfl ?_
 refine .nil ?_
 show Ev _ _ _ _ _
 refine .seq ?_
 refine .region ?_
 refine .q (op_move rfl) trivial rfl ?_
 refine .q (op_move rfl) trivial rfl ?_
 refine .q (op_call (U := []) [(500, 500)] [] (is_fault_other_ev 9 1 (eo 9) (eo 1) (hd _ _ (by decide) (by decide) (by decide)) (by decide) (by decide) ws te) Tryz.func23 (by kernel_rfl) rfl rfl rfl (⟨⟨_, rfl, rfl, rfl⟩, ⟨_, rfl, rfl, rfl⟩, trivial⟩) (⟨⟨_, _, rfl, rfl, rfl, rfl, (fun h => by cases h), rfl⟩, ⟨_, _, rfl, rfl, rfl, rfl, (fun h => by cases h), rfl⟩, ⟨_, _, rfl, rfl, rfl, rfl, (fun h => by cases h), rfl⟩, trivial⟩) (trivial) (⟨(fun h => by cases h), (fun h => by cases h), (fun h => by cases h), trivial⟩) rfl) trivial rfl ?_
 refine .nil ?_
 show Ev _ _ _ _ _
 refine .cond_false rfl (rfl) ?_
 refine .skip ?_
 show Ev _ _ _ _ _
 refine .region ?_
 refine .q (op_addI rfl rfl ⟨by omega, by omega⟩) trivial rfl ?_
 refine .q (op_move rfl) trivial rfl ?_
 refine .nil ?_
 show Ev _ _ _ _ _
 refine .seq ?_
 refine .region ?_
 refine .q (op_cmpI rfl rfl rfl) trivial rfl ?_
 refine .nil ?_
 show Ev _ _ _ _ _
 refine .seq ?_
 refine .cond_true rfl (rfl) ?_
 refine .skip ?_
 show Ev _ _ _ _ _
 refine .seq ?_
 refine .block ?_
 refine .seq ?_
 refine .region ?_
 refine .q (op_move rfl) trivial rfl ?_
 refine .q (op_index_row (i := 2) Tryz.underlying61 Tryz.underlying30 rfl (by kernel_rfl) rfl rfl rfl (show _ = ((2 : Nat) : Int) from rfl) rfl (by show 2 < 20; decide) (by decide)) trivial rfl ?_
 refine .q (op_assign rfl) trivial rfl ?_
 refine .q (op_assign rfl) trivial rfl ?_
 refine .nil ?_
 show Ev _ _ _ _ _
 refine .seq ?_
 refine .region ?_
 refine .q (op_move rfl) trivial rfl ?_
 refine .q (op_move rfl) trivial rfl ?_
 refine .q (op_call (U := []) [(500, 500)] [] (is_fault_other_ev 9 2 (eo 9) (eo 2) (hd _ _ (by decide) (by decide) (by decide)) (by decide) (by decide) ws te) Tryz.func23 (by kernel_rfl) rfl rfl rfl (⟨⟨_, rfl, rfl, rfl⟩, ⟨_, rfl, rfl, rfl⟩, trivial⟩) (⟨⟨_, _, rfl, rfl, rfl, rfl, (fun h => by cases h), rfl⟩, ⟨_, _, rfl, rfl, rfl, rfl, (fun h => by cases h), rfl⟩, ⟨_, _, rfl, rfl, rfl, rfl, (fun h => by cases h), rfl⟩, trivial⟩) (trivial) (⟨(fun h => by cases h), (fun h => by cases h), (fun h => by cases h), trivial⟩) rfl) trivial rfl ?_
 refine .nil ?_
 show Ev _ _ _ _ _
 refine .cond_false rfl (rfl) ?_
 refine .skip ?_
 show Ev _ _ _ _ _
 refine .region ?_
 refine .q (op_addI rfl rfl ⟨by omega, by omega⟩) trivial rfl ?_
 refine .q (op_move rfl) trivial rfl ?_
 refine .nil ?_
 show Ev _ _ _ _ _
 refine .seq ?_
 refine .region ?_
 refine .q (op_cmpI rfl rfl rfl) trivial rfl ?_
 refine .nil ?_
 show Ev _ _ _ _ _
 refine .seq ?_
 refine .cond_true rfl (rfl) ?_
 refine .skip ?_
 show Ev _ _ _ _ _
 refine .seq ?_
 refine .block ?_
 refine .seq ?_
 refine .region ?_
 refine .q (op_move rfl) trivial rfl ?_
 refine .q (op_index_row (i := 3) Tryz.underlying61 Tryz.underlying30 rfl (by kernel_rfl) rfl rfl rfl (show _ = ((3 : Nat) : Int) from rfl) rfl (by show 3 < 20; decide) (by decide)) trivial rfl ?_
 refine .q (op_assign rfl) trivial rfl ?_
 refine .q (op_assign rfl) trivial rfl ?_
 refine .nil ?_
 show Ev _ _ _ _ _
 refine .seq ?_
 refine .region ?_
 refine .q (op_move rfl) trivial rfl ?_
 refine .q (op_move rfl) trivial rfl ?_
 refine .q (op_call (U := []) [(500, 500)] [] (is_fault_other_ev 9 3 (eo 9) (eo 3) (hd _ _ (by decide) (by decide) (by decide)) (by decide) (by decide) ws te) Tryz.func23 (by kernel_rfl) rfl rfl rfl (⟨⟨_, rfl, rfl, rfl⟩, ⟨_, rfl, rfl, rfl⟩, trivial⟩) (⟨⟨_, _, rfl, rfl, rfl, rfl, (fun h => by cases h), rfl⟩, ⟨_, _, rfl, rfl, rfl, rfl, (fun h => by cases h), rfl⟩, ⟨_, _, rfl, rfl, rfl, rfl, (fun h => by cases h), rfl⟩, trivial⟩) (trivial) (⟨(fun h => by cases h), (fun h => by cases h), (fun h => by cases h), trivial⟩) rfl) trivial rfl ?_
 refine .nil ?_
 show Ev _ _ _ _ _
 refine .cond_false rfl (rfl) ?_
 refine .skip ?_
 show Ev _ _ _ _ _
 refine .region ?_
 refine .q (op_addI rfl rfl ⟨by omega, by omega⟩) trivial rfl ?_
 refine .q (op_move rfl) trivial rfl ?_
 refine .nil ?_
 show Ev _ _ _ _ _
 refine .seq ?_
 refine .region ?_
 refine .q (op_cmpI rfl rfl rfl) trivial rfl ?_
 refine .nil ?_
 show Ev _ _ _ _ _
 refine .seq ?_
 refine .cond_true rfl (rfl) ?_
 refine .skip ?_
 show Ev _ _ _ _ _
 refine .seq ?_
 refine .block ?_
 refine .seq ?_
 refine .region ?_
 refine .q (op_move rfl) trivial rfl ?_
 refine .q (op_index_row (i := 4) Tryz.underlying61 Tryz.underlying30 rfl (by kernel_rfl) rfl rfl rfl (show _ = ((4 : Nat) : Int) from rfl) rfl (by show 4 < 20; decide) (by decide)) trivial rfl ?_
 refine .q (op_assign rfl) trivial rfl ?_
 refine .q (op_assign rfl) trivial rfl ?_
 refine .nil ?_
 show Ev _ _ _ _ _
 refine .seq ?_
 refine .region ?_
 refine .q (op_move rfl) trivial rfl ?_
 refine .q (op_move rfl) trivial rfl ?_
 refine .q (op_call (U := []) [(500, 500)] [] (is_fault_other_ev 9 4 (eo 9) (eo 4) (hd _ _ (by decide) (by decide) (by decide)) (by decide) (by decide) ws te) Tryz.func23 (by kernel_rfl) rfl rfl rfl (⟨⟨_, rfl, rfl, rfl⟩, ⟨_, rfl, rfl, rfl⟩, trivial⟩) (⟨⟨_, _, rfl, rfl, rfl, rfl, (fun h => by cases h), rfl⟩, ⟨_, _, rfl, rfl, rfl, rfl, (fun h => by cases h), rfl⟩, ⟨_, _, rfl, rfl, rfl, rfl, (fun h => by cases h), rfl⟩, trivial⟩) (trivial) (⟨(fun h => by cases h), (fun h => by cases h), (fun h => by cases h), trivial⟩) rfl) trivial rfl ?_
 refine .nil ?_
 show Ev _ _ _ _ _
 refine .cond_false rfl (rfl) ?_
 refine .skip ?_
 show Ev _ _ _ _ _
 refine .region ?_
 refine .q (op_addI rfl rfl ⟨by omega, by omega⟩) trivial rfl ?_
 refine .q (op_move rfl) trivial rfl ?_
 refine .nil ?_
 show Ev _ _ _ _ _
 refine .seq ?_
 refine .region ?_
 refine .q (op_cmpI rfl rfl rfl) trivial rfl ?_
 refine .nil ?_
 show Ev _ _ _ _ _
 refine .seq ?_
 refine .cond_true rfl (rfl) ?_
 refine .skip ?_
 show Ev _ _ _ _ _
 refine .seq ?_
 refine .block ?_
 refine .seq ?_
 refine .region ?_
 refine .q (op_move rfl) trivial rfl ?_
 refine .q (op_index_row (i := 5) Tryz.underlying61 Tryz.underlying30 rfl (by kernel_rfl) rfl rfl rfl (show _ = ((5 : Nat) : Int) from rfl) rfl (by show 5 < 20; decide) (by decide)) trivial rfl ?_
 refine .q (op_assign rfl) trivial rfl ?_
 refine .q (op_assign rfl) trivial rfl ?_
 refine .nil ?_
 show Ev _ _ _ _ _
 refine .seq ?_
 refine .region ?_
 refine .q (op_move rfl) trivial rfl ?_
 refine .q (op_move rfl) trivial rfl ?_
 refine .q (op_call (U := []) [(500, 500)] [] (is_fault_other_ev 9 5 (eo 9) (eo 5) (hd _ _ (by decide) (by decide) (by decide)) (by decide) (by decide) ws te) Tryz.func23 (by kernel_rfl) rfl rfl rfl (⟨⟨_, rfl, rfl, rfl⟩, ⟨_, rfl, rfl, rfl⟩, trivial⟩) (⟨⟨_, _, rfl, rfl, rfl, rfl, (fun h => by cases h), rfl⟩, ⟨_, _, rfl, rfl, rfl, rfl, (fun h => by cases h), rfl⟩, ⟨_, _, rfl, rfl, rfl, rfl, (fun h => by cases h), rfl⟩, trivial⟩) (trivial) (⟨(fun h => by cases h), (fun h => by cases h), (fun h => by cases h), trivial⟩) rfl) trivial rfl ?_
 refine .nil ?_
 show Ev _ _ _ _ _
 refine .cond_false rfl (rfl) ?_
 refine .skip ?_
 show Ev _ _ _ _ _
 refine .region ?_
 refine .q (op_addI rfl rfl ⟨by omega, by omega⟩) trivial rfl ?_
 refine .q (op_move rfl) trivial rfl ?_
 refine .nil ?_
 show Ev _ _ _ _ _
 refine .seq ?_
 refine .region ?_
 refine .q (op_cmpI rfl rfl rfl) trivial rfl ?_
 refine .nil ?_
 show Ev _ _ _ _ _
 refine .seq ?_
 refine .cond_true rfl (rfl) ?_
 refine .skip ?_
 show Ev _ _ _ _ _
 refine .seq ?_
 refine .block ?_
 refine .seq ?_
 refine .region ?_
 refine .q (op_move rfl) trivial rfl ?_
 refine .q (op_index_row (i := 6) Tryz.underlying61 Tryz.underlying30 rfl (by kernel_rfl) rfl rfl rfl (show _ = ((6 : Nat) : Int) from rfl) rfl (by show 6 < 20; decide) (by decide)) trivial rfl ?_
 refine .q (op_assign rfl) trivial rfl ?_
 refine .q (op_assign rfl) trivial rfl ?_
 refine .nil ?_
 show Ev _ _ _ _ _
 refine .seq ?_
 refine .region ?_
 refine .q (op_move rfl) trivial rfl ?_
 refine .q (op_move rfl) trivial rfl ?_
 refine .q (op_call (U := []) [(500, 500)] [] (is_fault_other_ev 9 6 (eo 9) (eo 6) (hd _ _ (by decide) (by decide) (by decide)) (by decide) (by decide) ws te) Tryz.func23 (by kernel_rfl) rfl rfl rfl (⟨⟨_, rfl, rfl, rfl⟩, ⟨_, rfl, rfl, rfl⟩, trivial⟩) (⟨⟨_, _, rfl, rfl, rfl, rfl, (fun h => by cases h), rfl⟩, ⟨_, _, rfl, rfl, rfl, rfl, (fun h => by cases h), rfl⟩, ⟨_, _, rfl, rfl, rfl, rfl, (fun h => by cases h), rfl⟩, trivial⟩) (trivial) (⟨(fun h => by cases h), (fun h => by cases h), (fun h => by cases h), trivial⟩) rfl) trivial rfl ?_
 refine .nil ?_
 show Ev _ _ _ _ _
 refine .cond_false rfl (rfl) ?_
 refine .skip ?_
 show Ev _ _ _ _ _
 refine .region ?_
 refine .q (op_addI rfl rfl ⟨by omega, by omega⟩) trivial rfl ?_
 refine .q (op_move rfl) trivial rfl ?_
 refine .nil ?_
 show Ev _ _ _ _ _
 refine .seq ?_
 refine .region ?_
 refine .q (op_cmpI rfl rfl rfl) trivial rfl ?_
 refine .nil ?_
 show Ev _ _ _ _ _
 refine .seq ?_
 refine .cond_true rfl (rfl) ?_
 refine .skip ?_
 show Ev _ _ _ _ _
 refine .seq ?_
 refine .block ?_
 refine .seq ?_
 refine .region ?_
 refine .q (op_move rfl) trivial rfl ?_
 refine .q (op_index_row (i := 7) Tryz.underlying61 Tryz.underlying30 rfl (by kernel_rfl) rfl rfl rfl (show _ = ((7 : Nat) : Int) from rfl) rfl (by show 7 < 20; decide) (by decide)) trivial rfl ?_
 refine .q (op_assign rfl) trivial rfl ?_
 refine .q (op_assign rfl) trivial rfl ?_
 refine .nil ?_
 show Ev _ _ _ _ _
 refine .seq ?_
 refine .region ?_
 refine .q (op_move rfl) trivial rfl ?_
 refine .q (op_move rfl) trivial rfl ?_
 refine .q (op_call (U := []) [(500, 500)] [] (is_fault_other_ev 9 7 (eo 9) (eo 7) (hd _ _ (by decide) (by decide) (by decide)) (by decide) (by decide) ws te) Tryz.func23 (by kernel_rfl) rfl rfl rfl (⟨⟨_, rfl, rfl, rfl⟩, ⟨_, rfl, rfl, rfl⟩, trivial⟩) (⟨⟨_, _, rfl, rfl, rfl, rfl, (fun h => by cases h), rfl⟩, ⟨_, _, rfl, rfl, rfl, rfl, (fun h => by cases h), rfl⟩, ⟨_, _, rfl, rfl, rfl, rfl, (fun h => by cases h), rfl⟩, trivial⟩) (trivial) (⟨(fun h => by cases h), (fun h => by cases h), (fun h => by cases h), trivial⟩) rfl) trivial rfl ?_
 refine .nil ?_
 show Ev _ _ _ _ _
 refine .cond_false rfl (rfl) ?_
 refine .skip ?_
 show Ev _ _ _ _ _
 refine .region ?_
 refine .q (op_addI rfl rfl ⟨by omega, by omega⟩) trivial rfl ?_
 refine .q (op_move rfl) trivial rfl ?_
 refine .nil ?_
 show Ev _ _ _ _ _
 refine .seq ?_
 refine .region ?_
 refine .q (op_cmpI rfl rfl rfl) trivial rfl ?_
 refine .nil ?_
 show Ev _ _ _ _ _
 refine .seq ?_
 refine .cond_true rfl (rfl) ?_
 refine .skip ?_
 show Ev _ _ _ _ _
 refine .seq ?_
 refine .block ?_
 refine .seq ?_
 refine .region ?_
 refine .q (op_move rfl) trivial rfl ?_
 refine .q (op_index_row (i := 8) Tryz.underlying61 Tryz.underlying30 rfl (by kernel_rfl) rfl rfl rfl (show _ = ((8 : Nat) : Int) from rfl) rfl (by show 8 < 20; decide) (by decide)) trivial rfl ?_
 refine .q (op_assign rfl) trivial rfl ?_
 refine .q (op_assign rfl) trivial rfl ?_
 refine .nil ?_
 show Ev _ _ _ _ _
 refine .seq ?_
 refine .region ?_
 refine .q (op_move rfl) trivial rfl ?_
 refine .q (op_move rfl) trivial rfl ?_
 refine .q (op_call (U := []) [(500, 500)] [] (is_fault_other_ev 9 8 (eo 9) (eo 8) (hd _ _ (by decide) (by decide) (by decide)) (by decide) (by decide) ws te) Tryz.func23 (by kernel_rfl) rfl rfl rfl (⟨⟨_, rfl, rfl, rfl⟩, ⟨_, rfl, rfl, rfl⟩, trivial⟩) (⟨⟨_, _, rfl, rfl, rfl, rfl, (fun h => by cases h), rfl⟩, ⟨_, _, rfl, rfl, rfl, rfl, (fun h => by cases h), rfl⟩, ⟨_, _, rfl, rfl, rfl, rfl, (fun h => by cases h), rfl⟩, trivial⟩) (trivial) (⟨(fun h => by cases h), (fun h => by cases h), (fun h => by cases h), trivial⟩) rfl) trivial rfl ?_
 refine .nil ?_
 show Ev _ _ _ _ _
 refine .cond_false rfl (rfl) ?_
 refine .skip ?_
 show Ev _ _ _ _ _
 refine .region ?_
 refine .q (op_addI rfl rfl ⟨by omega, by omega⟩) trivial rfl ?_
 refine .q (op_move rfl) trivial rfl ?_
 refine .nil ?_
 show Ev _ _ _ _ _
 refine .seq ?_
 refine .region ?_
 refine .q (op_cmpI rfl rfl rfl) trivial rfl ?_
 refine .nil ?_
 show Ev _ _ _ _ _
 refine .seq ?_
 refine .cond_true rfl (rfl) ?_
 refine .skip ?_
 show Ev _ _ _ _ _
 refine .seq ?_
 refine .block ?_
 refine .seq ?_
 refine .region ?_
 refine .q (op_move rfl) trivial rfl ?_
 refine .q (op_index_row (i := 9) Tryz.underlying61 Tryz.underlying30 rfl (by kernel_rfl) rfl rfl rfl (show _ = ((9 : Nat) : Int) from rfl) rfl (by show 9 < 20; decide) (by decide)) trivial rfl ?_
 refine .q (op_assign rfl) trivial rfl ?_
 refine .q (op_assign rfl) trivial rfl ?_
 refine .nil ?_
 show Ev _ _ _ _ _
 refine .seq ?_
 refine .region ?_
 refine .q (op_move rfl) trivial rfl ?_
 refine .q (op_move rfl) trivial rfl ?_
 refine .q (op_call (U := []) [(500, 500)] [] (is_fault_same_ev 9 (eo 9) ws te) Tryz.func23 (by kernel_rfl) rfl rfl rfl (⟨⟨_, rfl, rfl, rfl⟩, ⟨_, rfl, rfl, rfl⟩, trivial⟩) (⟨⟨_, _, rfl, rfl, rfl, rfl, (fun h => by cases h), rfl⟩, trivial⟩) (trivial) (⟨(fun h => by cases h), trivial⟩) rfl) trivial rfl ?_
 refine .nil ?_
 show Ev _ _ _ _ _
 refine .cond_true rfl (rfl) ?_
 refine .seq ?_
 refine .region ?_
 refine .q (op_move rfl) trivial rfl ?_
 refine .q (op_addI rfl rfl ⟨by omega, by omega⟩) trivial rfl ?_
 refine .q (op_assign rfl) trivial rfl ?_
 refine .nil ?_
 show Ev _ _ _ _ _
 refine .ret ?_
 show RetOk _ _ _ _ _ _ _
 exact ret1v rfl (.inl rfl) rfl rfl trivial
set_option maxRecDepth 100000 in
theorem codeF_11 (eo : Nat → Nat × Nat) (hd : ∀ i j, i < 20 → j < 20 → i ≠ j → eo i ≠ eo j) (ws : List UInt8) (te : Nat) : Meets Tryz.prog 12 [.ifc 63 (.ptr 500 0)] [(2, some ⟨.agg [.err 165 (1) (offE eo (1))], errT, false⟩), (3, some ⟨.agg [.err 165 (2) (offE eo (2))], errT, false⟩), (4, some ⟨.agg [.err 165 (3) (offE eo (3))], errT, false⟩), (5, some ⟨.agg [.err 165 (4) (offE eo (4))], errT, false⟩), (6, some ⟨.agg [.err 165 (5) (offE eo (5))], errT, false⟩), (7, some ⟨.agg [.err 165 (6) (offE eo (6))], errT, false⟩), (8, some ⟨.agg [.err 165 (7) (offE eo (7))], errT, false⟩), (9, some ⟨.agg [.err 165 (8) (offE eo (8))], errT, false⟩), (10, some ⟨.agg [.err 165 (9) (offE eo (9))], errT, false⟩), (0, some ⟨.agg [.err 165 (10) (offE eo (10))], errT, false⟩), (1, some ⟨.agg [.err 165 (11) (offE eo (11))], errT, false⟩), (11, some ⟨.agg [.err 165 (12) (offE eo (12))], errT, false⟩), (12, some ⟨.agg [.err 165 (13) (offE eo (13))], errT, false⟩), (13, some ⟨.agg [.err 165 (14) (offE eo (14))], errT, false⟩), (14, some ⟨.agg [.err 165 (15) (offE eo (15))], errT, false⟩), (15, some ⟨.agg [.err 165 (16) (offE eo (16))], errT, false⟩), (16, some ⟨.agg [.err 165 (17) (offE eo (17))], errT, false⟩), (17, some ⟨.agg [.err 165 (18) (offE eo (18))], errT, false⟩), (18, some ⟨.agg [.err 165 (19) (offE eo (19))], errT, false⟩), (19, some ⟨.agg [.err 165 (20) (offE eo (20))], errT, false⟩), (401, some ⟨.agg [], errT, false⟩), (402, some ⟨.agg [], errT, false⟩), (403, some ⟨.agg [], errT, false⟩), (404, some ⟨.agg [], errT, false⟩), (405, some ⟨.agg [], errT, false⟩), (406, some ⟨.agg [], errT, false⟩), (407, some ⟨.agg [], errT, false⟩), (408, some ⟨.agg [], errT, false⟩), (409, some ⟨.agg [], errT, false⟩), (410, some ⟨.agg [], errT, false⟩), (411, some ⟨.agg [], errT, false⟩), (412, some ⟨.agg [], errT, false⟩), (413, some ⟨.agg [], errT, false⟩), (414, some ⟨.agg [], errT, false⟩), (415, some ⟨.agg [], errT, false⟩), (416, some ⟨.agg [], errT, false⟩), (417, some ⟨.agg [], errT, false⟩), (418, some ⟨.agg [], errT, false⟩), (419, some ⟨.agg [], errT, false⟩), (420, some ⟨.agg [], errT, false⟩), (500, some ⟨.agg [.str ws, .err 165 (11) (offE eo (11))], te, false⟩)] (.i64 11) [] := by
 refine meets_of_ev (nt := 38) Tryz.func12 rfl rfl (Nat.le_of_ble_eq_true rfl) ?_
 refine .seq ?_
 refine .region ?_
 refine .q (op_assign rfl) trivial rfl ?_
 refine .nil ?_
 show Ev _ _ _ _ _
 refine .seq ?_
 refine .seq ?_
 refine .region ?_
 refine .q (op_move rfl) trivial rfl ?_
 refine .q (op_eqIfcNil Tryz.underlying30 rfl rfl) trivial rfl ?_
 refine .nil ?_
 show Ev _ _ _ _ _
 refine .cond_false rfl (rfl) ?_
 refine .skip ?_
 show Ev _ _ _ _ _
 refine .seq ?_
 refine .seq ?_
 refine .region ?_
 refine .q (op_load Tryz.underlying30 rfl rfl rfl rfl (by first | omega | (simp only [AV.len]; omega) | (simp only [AV.len]; omega) | assumption | (simp [AV.len]; done))) trivial rfl ?_
 refine .q (op_load Tryz.underlying30 rfl rfl rfl rfl (by first | omega | (simp only [AV.len]; omega) | (simp only [AV.len]; omega) | assumption | (simp [AV.len]; done))) trivial rfl ?_
 refine .q (op_load Tryz.underlying30 rfl rfl rfl rfl (by first | omega | (simp only [AV.len]; omega) | (simp only [AV.len]; omega) | assumption | (simp [AV.len]; done))) trivial rfl ?_
 refine .q (op_load Tryz.underlying30 rfl rfl rfl rfl (by first | omega | (simp only [AV.len]; omega) | (simp only [AV.len]; omega) | assumption | (simp [AV.len]; done))) trivial rfl ?_
 refine .q (op_load Tryz.underlying30 rfl rfl rfl rfl (by first | omega | (simp only [AV.len]; omega) | (simp only [AV.len]; omega) | assumption | (simp [AV.len]; done))) trivial rfl ?_
 refine .q (op_load Tryz.underlying30 rfl rfl rfl rfl (by first | omega | (simp only [AV.len]; omega) | (simp only [AV.len]; omega) | assumption | (simp [AV.len]; done))) trivial rfl ?_
 refine .q (op_load Tryz.underlying30 rfl rfl rfl rfl (by first | omega | (simp only [AV.len]; omega) | (simp only [AV.len]; omega) | assumption | (simp [AV.len]; done))) trivial rfl ?_
 refine .q (op_load Tryz.underlying30 rfl rfl rfl rfl (by first | omega | (simp only [AV.len]; omega) | (simp only [AV.len]; omega) | assumption | (simp [AV.len]; done))) trivial rfl ?_
 refine .q (op_load Tryz.underlying30 rfl rfl rfl rfl (by first | omega | (simp only [AV.len]; omega) | (simp only [AV.len]; omega) | assumption | (simp [AV.len]; done))) trivial rfl ?_
 refine .q (op_load Tryz.underlying30 rfl rfl rfl rfl (by first | omega | (simp only [AV.len]; omega) | (simp only [AV.len]; omega) | assumption | (simp [AV.len]; done))) trivial rfl ?_
 refine .q (op_load Tryz.underlying30 rfl rfl rfl rfl (by first | omega | (simp only [AV.len]; omega) | (simp only [AV.len]; omega) | assumption | (simp [AV.len]; done))) trivial rfl ?_
 refine .q (op_load Tryz.underlying30 rfl rfl rfl rfl (by first | omega | (simp only [AV.len]; omega) | (simp only [AV.len]; omega) | assumption | (simp [AV.len]; done))) trivial rfl ?_
 refine .q (op_load Tryz.underlying30 rfl rfl rfl rfl (by first | omega | (simp only [AV.len]; omega) | (simp only [AV.len]; omega) | assumption | (simp [AV.len]; done))) trivial rfl ?_
 refine .q (op_load Tryz.underlying30 rfl rfl rfl rfl (by first | omega | (simp only [AV.len]; omega) | (simp only [AV.len]; omega) | assumption | (simp [AV.len]; done))) trivial rfl ?_
 refine .q (op_load Tryz.underlying30 rfl rfl rfl rfl (by first | omega | (simp only [AV.len]; omega) | (simp only [AV.len]; omega) | assumption | (simp [AV.len]; done))) trivial rfl ?_
 refine .q (op_load Tryz.underlying30 rfl rfl rfl rfl (by first | omega | (simp only [AV.len]; omega) | (simp only [AV.len]; omega) | assumption | (simp [AV.len]; done))) trivial rfl ?_
 refine .q (op_load Tryz.underlying30 rfl rfl rfl rfl (by first | omega | (simp only [AV.len]; omega) | (simp only [AV.len]; omega) | assumption | (simp [AV.len]; done))) trivial rfl ?_
 refine .q (op_load Tryz.underlying30 rfl rfl rfl rfl (by first | omega | (simp only [AV.len]; omega) | (simp only [AV.len]; omega) | assumption | (simp [AV.len]; done))) trivial rfl ?_
 refine .q (op_load Tryz.underlying30 rfl rfl rfl rfl (by first | omega | (simp only [AV.len]; omega) | (simp only [AV.len]; omega) | assumption | (simp [AV.len]; done))) trivial rfl ?_
 refine .q (op_load Tryz.underlying30 rfl rfl rfl rfl (by first | omega | (simp only [AV.len]; omega) | (simp only [AV.len]; omega) | assumption | (simp [AV.len]; done))) trivial rfl ?_
 refine .q (op_buildFull (zv := .nilIface) (u0 := .err 0 0 (0, 0)) [.err 165 (1) (offE eo (1)), .err 165 (2) (offE eo (2)), .err 165 (3) (offE eo (3)), .err 165 (4) (offE eo (4)), .err 165 (5) (offE eo (5)), .err 165 (6) (offE eo (6)), .err 165 (7) (offE eo (7)), .err 165 (8) (offE eo (8)), .err 165 (9) (offE eo (9)), .err 165 (10) (offE eo (10)), .err 165 (11) (offE eo (11)), .err 165 (12) (offE eo (12)), .err 165 (13) (offE eo (13)), .err 165 (14) (offE eo (14)), .err 165 (15) (offE eo (15)), .err 165 (16) (offE eo (16)), .err 165 (17) (offE eo (17)), .err 165 (18) (offE eo (18)), .err 165 (19) (offE eo (19)), .err 165 (20) (offE eo (20))] Tryz.underlying61 (by kernel_rfl) (by kernel_rfl) (.err0 _ _) rfl ⟨rfl, rfl, rfl, rfl, rfl, rfl, rfl, rfl, rfl, rfl, rfl, rfl, rfl, rfl, rfl, rfl, rfl, rfl, rfl, rfl, rfl, rfl, rfl, rfl, rfl, rfl, rfl, rfl, rfl, rfl, rfl, rfl, rfl, rfl, rfl, rfl, rfl, rfl, rfl, rfl, rfl, rfl, rfl, rfl, rfl, rfl, rfl, rfl, rfl, rfl, rfl, rfl, rfl, rfl, rfl, rfl, rfl, rfl, rfl, rfl, trivial⟩ rfl rfl) trivial rfl ?_
 refine .q (op_move rfl) trivial rfl ?_
 refine .nil ?_
 show Ev _ _ _ _ _
 refine .block ?_
 refine Ev.rounds 11 ?_
 show Ev _ _ _ _ _
 refine .seq ?_
 refine .region ?_
 refine .q (op_cmpI rfl rfl rfl) trivial rfl ?_
 refine .nil ?_
 show Ev _ _ _ _ _
 refine .seq ?_
 refine .cond_true rfl (rfl) ?_
 refine .skip ?_
 show Ev _ _ _ _ _
 refine .seq ?_
 refine .block ?_
 refine .seq ?_
 refine .region ?_
 refine .q (op_move rfl) trivial rfl ?_
 refine .q (op_index_row (i := 0) Tryz.underlying61 Tryz.underlying30 rfl (by kernel_rfl) rfl rfl rfl (show _ = ((0 : Nat) : Int) from rfl) rfl (by show 0 < 20; decide) (by decide)) trivial rfl ?_
 refine .q (op_assign rfl) trivial rfl ?_
 refine .q (op_assign rfl) trivial rfl ?_
 refine .nil ?_
 show Ev _ _ _ _ _
 refine .seq ?_
 refine .region ?_
 refine .q (op_move rfl) trivial rfl ?_
 refine .q (op_move rfl) trivial rfl ?_
 refine .q (op_call (U := []) [(500, 500)] [] (is_fault_other_ev 10 0 (eo 10) (eo 0) (hd _ _ (by decide) (by decide) (by decide)) (by decide) (by decide) ws te) Tryz.func23 (by kernel_rfl) rfl rfl rfl (⟨⟨_, rfl, rfl, rfl⟩, ⟨_, rfl, rfl, rfl⟩, trivial⟩) (⟨⟨_, _, rfl, rfl, rfl, rfl, (fun h => by cases h), rfl⟩, ⟨_, _, rfl, rfl, rfl, rfl, (fun h => by cases h), rfl⟩, ⟨_, _, rfl, rfl, rfl, rfl, (fun h => by cases h), rfl⟩, trivial⟩) (trivial) (⟨(fun h => by cases h), (fun h => by cases h), (fun h => by cases h), trivial⟩) rfl) trivial rfl ?_
 refine .nil ?_
 show Ev _ _ _ _ _
 refine .cond_false rfl (rfl) ?_
 refine .skip ?_
 show Ev _ _ _ _ _
 refine .region ?_
 refine .q (op_addI rfl rfl ⟨by omega, by omega⟩) trivial rfl ?_
 refine .q (op_move rfl) trivial rfl ?_
 refine .nil ?_
 show Ev _ _ _ _ _
 refine .seq ?_
 refine .region ?_
 refine .q (op_cmpI rfl rfl rfl) trivial rfl ?_
 refine .nil ?_
 show Ev _ _ _ _ _
 refine .seq ?_
 refine .cond_true rfl (rfl) ?_
 refine .skip ?_
 show Ev _ _ _ _ _
 refine .seq ?_
 refine .block ?_
 refine .seq ?_
 refine .region ?_
 refine .q (op_move rfl) trivial rfl ?_
 refine .q (op_index_row (i := 1) Tryz.underlying61 Tryz.underlying30 rfl (by kernel_rfl) rfl rfl rfl (show _ = ((1 : Nat) : Int) from rfl) rfl (by show 1 < 20; decide) (by decide)) trivial rfl ?_
 refine .q (op_assign rfl) trivial rfl ?_
 refine .q (op_assign rfl) trivial rfl ?_
 refine .nil ?_
 show Ev _ _ _ _ _
 refine .seq ?_
 refine .region ?_
 refine .q (op_move rfl) trivial rfl ?_
 refine .q (op_move rfl) trivial rfl ?_
 refine .q (op_call (U := []) [(500, 500)] [] (is_fault_other_ev 10 1 (eo 10) (eo 1) (hd _ _ (by decide) (by decide) (by decide)) (by decide) (by decide) ws te) Tryz.func23 (by kernel_rfl) rfl rfl rfl (⟨⟨_, rfl, rfl, rfl⟩, ⟨_, rfl, rfl, rfl⟩, trivial⟩) (⟨⟨_, _, rfl, rfl, rfl, rfl, (fun h => by cases h), rfl⟩, ⟨_, _, rfl, rfl, rfl, rfl, (fun h => by cases h), rfl⟩, ⟨_, _, rfl, rfl, rfl, rfl, (fun h => by cases h), rfl⟩, trivial⟩) (trivial) (⟨(fun h => by cases h), (fun h => by cases h), (fun h => by cases h), trivial⟩) rfl) trivial rfl ?_
 refine .nil ?_
 show Ev _ _ _ _ _
 refine .cond_false rfl (rfl) ?_
 refine .skip ?_
 show Ev _ _ _ _ _
 refine .region ?_
 refine .q (op_addI rfl rfl ⟨by omega, by omega⟩) trivial rfl ?_
 refine .q (op_move rfl) trivial rfl ?_
 refine .nil ?_
 show Ev _ _ _ _ _
 refine .seq ?_
 refine .region ?_
 refine .q (op_cmpI rfl rfl rfl) trivial rfl ?_
 refine .nil ?_
 show Ev _ _ _ _ _
 refine .seq ?_
 refine .cond_true rfl (rfl) ?_
 refine .skip ?_
 show Ev _ _ _ _ _
 refine .seq ?_
 refine .block ?_
 refine .seq ?_
 refine .region ?_
 refine .q (op_move rfl) trivial rfl ?_
 refine .q (op_index_row (i := 2) Tryz.underlying61 Tryz.underlying30 rfl (by kernel_rfl) rfl rfl rfl (show _ = ((2 : Nat) : Int) from rfl) rfl (by show 2 < 20; decide) (by decide)) trivial rfl ?_
 refine .q (op_assign rfl) trivial rfl ?_
 refine .q (op_assign rfl) trivial rfl ?_
 refine .nil ?_
 show Ev _ _ _ _ _
 refine .seq ?_
 refine .region ?_
 refine .q (op_move rfl) trivial rfl ?_
 refine .q (op_move rfl) trivial rfl ?_
 refine .q (op_call (U := []) [(500, 500)] [] (is_fault_other_ev 10 2 (eo 10) (eo 2) (hd _ _ (by decide) (by decide) (by decide)) (by decide) (by decide) ws te) Tryz.func23 (by kernel_rfl) rfl rfl rfl (⟨⟨_, rfl, rfl, rfl⟩, ⟨_, rfl, rfl, rfl⟩, trivial⟩) (⟨⟨_, _, rfl, rfl, rfl, rfl, (fun h => by cases h), rfl⟩, ⟨_, _, rfl, rfl, rfl, rfl, (fun h => by cases h), rfl⟩, ⟨_, _, rfl, rfl, rfl, rfl, (fun h => by cases h), rfl⟩, trivial⟩) (trivial) (⟨(fun h => by cases h), (fun h => by cases h), (fun h => by cases h), trivial⟩) rfl) trivial rfl ?_
 refine .nil ?_
 show Ev _ _ _ _ _
 refine .cond_false rfl (rfl) ?_
 refine .skip ?_
 show Ev _ _ _ _ _
 refine .region ?_
 refine .q (op_addI rfl rfl ⟨by omega, by omega⟩) trivial rfl ?_
 refine .q (op_move rfl) trivial rfl ?_
 refine .nil ?_
 show Ev _ _ _ _ _
 refine .seq ?_
 refine .region ?_
 refine .q (op_cmpI rfl rfl rfl) trivial rfl ?_
 refine .nil ?_
 show Ev _ _ _ _ _
 refine .seq ?_
 refine .cond_true rfl (rfl) ?_
 refine .skip ?_
 show Ev _ _ _ _ _
 refine .seq ?_
 refine .block ?_
 refine .seq ?_
 refine .region ?_
 refine .q (op_move rfl) trivial rfl ?_
 refine .q (op_index_row (i := 3) Tryz.underlying61 Tryz.underlying30 rfl (by kernel_rfl) rfl rfl rfl (show _ = ((3 : Nat) : Int) from rfl) rfl (by show 3 < 20; decide) (by decide)) trivial rfl ?_
 refine .q (op_assign rfl) trivial rfl ?_
 refine .q (op_assign rfl) trivial rfl ?_
 refine .nil ?_
 show Ev _ _ _ _ _
 refine .seq ?_
 refine .region ?_
 refine .q (op_move rfl) trivial rfl ?_
 refine .q (op_move rfl) trivial rfl ?_
 refine .q (op_call (U := []) [(500, 500)] [] (is_fault_other_ev 10 3 (eo 10) (eo 3) (hd _ _ (by decide) (by decide) (by decide)) (by decide) (by decide) ws te) Tryz.func23 (by kernel_rfl) rfl rfl rfl (⟨⟨_, rfl, rfl, rfl⟩, ⟨_, rfl, rfl, rfl⟩, trivial⟩) (⟨⟨_, _, rfl, rfl, rfl, rfl, (fun h => by cases h), rfl⟩, ⟨_, _, rfl, rfl, rfl, rfl, (fun h => by cases h), rfl⟩, ⟨_, _, rfl, rfl, rfl, rfl, (fun h => by cases h), rfl⟩, trivial⟩) (trivial) (⟨(fun h => by cases h), (fun h => by cases h), (fun h => by cases h), trivial⟩) rfl) trivial rfl ?_
 refine .nil ?_
 show Ev _ _ _ _ _
 refine .cond_false rfl (rfl) ?_
 refine .skip ?_
 show Ev _ _ _ _ _
 refine .region ?_
 refine .q (op_addI rfl rfl ⟨by omega, by omega⟩) trivial rfl ?_
 refine .q (op_move rfl) trivial rfl ?_
 refine .nil ?_
 show Ev _ _ _ _ _
 refine .seq ?_
 refine .region ?_
 refine .q (op_cmpI rfl rfl rfl) trivial rfl ?_
 refine .nil ?_
 show Ev _ _ _ _ _
 refine .seq ?_
 refine .cond_true rfl (rfl) ?_
 refine .skip ?_
 show Ev _ _ _ _ _
 refine .seq ?_
 refine .block ?_
 refine .seq ?_
 refine .region ?_
 refine .q (op_move rfl) trivial rfl ?_
 refine .q (op_index_row (i := 4) Tryz.underlying61 Tryz.underlying30 rfl (by kernel_rfl) rfl rfl rfl (show _ = ((4 : Nat) : Int) from rfl) rfl (by show 4 < 20; decide) (by decide)) trivial rfl ?_
 refine .q (op_assign rfl) trivial rfl ?_
 refine .q (op_assign rfl) trivial rfl ?_
 refine .nil ?_
 show Ev _ _ _ _ _
 refine .seq ?_
 refine .region ?_
 refine .q (op_move rfl) trivial rfl ?_
 refine .q (op_move rfl) trivial rfl ?_
 refine .q (op_call (U := []) [(500, 500)] [] (is_fault_other_ev 10 4 (eo 10) (eo 4) (hd _ _ (by decide) (by decide) (by decide)) (by decide) (by decide) ws te) Tryz.func23 (by kernel_rfl) rfl rfl rfl (⟨⟨_, rfl, rfl, rfl⟩, ⟨_, rfl, rfl, rfl⟩, trivial⟩) (⟨⟨_, _, rfl, rfl, rfl, rfl, (fun h => by cases h), rfl⟩, ⟨_, _, rfl, rfl, rfl, rfl, (fun h => by cases h), rfl⟩, ⟨_, _, rfl, rfl, rfl, rfl, (fun h => by cases h), rfl⟩, trivial⟩) (trivial) (⟨(fun h => by cases h), (fun h => by cases h), (fun h => by cases h), trivial⟩) rfl) trivial rfl ?_
 refine .nil ?_
 show Ev _ _ _ _ _
 refine .cond_false rfl (rfl) ?_
 refine .skip ?_
 show Ev _ _ _ _ _
 refine .region ?_
 refine .q (op_addI rfl rfl ⟨by omega, by omega⟩) trivial rfl ?_
 refine .q (op_move rfl) trivial rfl ?_
 refine .nil ?_
 show Ev _ _ _ _ _
 refine .seq ?_
 refine .region ?_
 refine .q (op_cmpI rfl rfl rfl) trivial rfl ?_
 refine .nil ?_
 show Ev _ _ _ _ _
 refine .seq ?_
 refine .cond_true rfl (rfl) ?_
 refine .skip ?_
 show Ev _ _ _ _ _
 refine .seq ?_
 refine .block ?_
 refine .seq ?_
 refine .region ?_
 refine .q (op_move rfl) trivial rfl ?_
 refine .q (op_index_row (i := 5) Tryz.underlying61 Tryz.underlying30 rfl (by kernel_rfl) rfl rfl rfl (show _ = ((5 : Nat) : Int) from rfl) rfl (by show 5 < 20; decide) (by decide)) trivial rfl ?_
 refine .q (op_assign rfl) trivial rfl ?_
 refine .q (op_assign rfl) trivial rfl ?_
 refine .nil ?_
 show Ev _ _ _ _ _
 refine .seq ?_
 refine .region ?_
 refine .q (op_move rfl) trivial rfl ?_
 refine .q (op_move rfl) trivial rfl ?_
 refine .q (op_call (U := []) [(500, 500)] [] (is_fault_other_ev 10 5 (eo 10) (eo 5) (hd _ _ (by decide) (by decide) (by decide)) (by decide) (by decide) ws te) Tryz.func23 (by kernel_rfl) rfl rfl rfl (⟨⟨_, rfl, rfl, rfl⟩, ⟨_, rfl, rfl, rfl⟩, trivial⟩) (⟨⟨_, _, rfl, rfl, rfl, rfl, (fun h => by cases h), rfl⟩, ⟨_, _, rfl, rfl, rfl, rfl, (fun h => by cases h), rfl⟩, ⟨_, _, rfl, rfl, rfl, rfl, (fun h => by cases h), rfl⟩, trivial⟩) (trivial) (⟨(fun h => by cases h), (fun h => by cases h), (fun h => by cases h), trivial⟩) rfl) trivial rfl ?_
 refine .nil ?_
 show Ev _ _ _ _ _
 refine .cond_false rfl (rfl) ?_
 refine .skip ?_
 show Ev _ _ _ _ _
 refine .region ?_
 refine .q (op_addI rfl rfl ⟨by omega, by omega⟩) trivial rfl ?_
 refine .q (op_move rfl) trivial rfl ?_
 refine .nil ?_
 show Ev _ _ _ _ _
 refine .seq ?_
 refine .region ?_
 refine .q (op_cmpI rfl rfl rfl) trivial rfl ?_
 refine .nil ?_
 show Ev _ _ _ _ _
 refine .seq ?_
 refine .cond_true rfl (rfl) ?_
 refine .skip ?_
 show Ev _ _ _ _ _
 refine .seq ?_
 refine .block ?_
 refine .seq ?_
 refine .region ?_
 refine .q (op_move rfl) trivial rfl ?_
 refine .q (op_index_row (i := 6) Tryz.underlying61 Tryz.underlying30 rfl (by kernel_rfl) rfl rfl rfl (show _ = ((6 : Nat) : Int) from rfl) rfl (by show 6 < 20; decide) (by decide)) trivial rfl ?_
 refine .q (op_assign rfl) trivial rfl ?_
 refine .q (op_assign rfl) trivial rfl ?_
 refine .nil ?_
 show Ev _ _ _ _ _
 refine .seq ?_
 refine .region ?_
 refine .q (op_move rfl) trivial rfl ?_
 refine .q (op_move rfl) trivial rfl ?_
 refine .q (op_call (U := []) [(500, 500)] [] (is_fault_other_ev 10 6 (eo 10) (eo 6) (hd _ _ (by decide) (by decide) (by decide)) (by decide) (by decide) ws te) Tryz.func23 (by kernel_rfl) rfl rfl rfl (⟨⟨_, rfl, rfl, rfl⟩, ⟨_, rfl, rfl, rfl⟩, trivial⟩) (⟨⟨_, _, rfl, rfl, rfl, rfl, (fun h => by cases h), rfl⟩, ⟨_, _, rfl, rfl, rfl, rfl, (fun h => by cases h), rfl⟩, ⟨_, _, rfl, rfl, rfl, rfl, (fun h => by cases h), rfl⟩, trivial⟩) (trivial) (⟨(fun h => by cases h), (fun h => by cases h), (fun h => by cases h), trivial⟩) rfl) trivial rfl ?_
 refine .nil ?_
 show Ev _ _ _ _ _
 refine .cond_false rfl (rfl) ?_
 refine .skip ?_
 show Ev _ _ _ _ _
 refine .region ?_
 refine .q (op_addI rfl rfl ⟨by omega, by omega⟩) trivial rfl ?_
 refine .q (op_move rfl) trivial rfl ?_
 refine .nil ?_
 show Ev _ _ _ _ _
 refine .seq ?_
 refine .region ?_
 refine .q (op_cmpI rfl rfl rfl) trivial rfl ?_
 refine .nil ?_
 show Ev _ _ _ _ _
 refine .seq ?_
 refine .cond_true rfl (rfl) ?_
 refine .skip ?_
 show Ev _ _ _ _ _
 refine .seq ?_
 refine .block ?_
 refine .seq ?_
 refine .region ?_
 refine .q (op_move rfl) trivial rfl ?_
 refine .q (op_index_row (i := 7) Tryz.underlying61 Tryz.underlying30 rfl (by kernel_rfl) rfl rfl rfl (show _ = ((7 : Nat) : Int) from rfl) rfl (by show 7 < 20; decide) (by decide)) trivial rfl ?_
 refine .q (op_assign rfl) trivial rfl ?_
 refine .q (op_assign rfl) trivial rfl ?_
 refine .nil ?_
 show Ev _ _ _ _ _
 refine .seq ?_
 refine .region ?_
 refine .q (op_move rfl) trivial rfl ?_
 refine .q (op_move rfl) trivial rfl ?_
 refine .q (op_call (U := []) [(500, 500)] [] (is_fault_other_ev 10 7 (eo 10) (eo 7) (hd _ _ (by decide) (by decide) (by decide)) (by decide) (by decide) ws te) Tryz.func23 (by kernel_rfl) rfl rfl rfl (⟨⟨_, rfl, rfl, rfl⟩, ⟨_, rfl, rfl, rfl⟩, trivial⟩) (⟨⟨_, _, rfl, rfl, rfl, rfl, (fun h => by cases h), rfl⟩, ⟨_, _, rfl, rfl, rfl, rfl, (fun h => by cases h), rfl⟩, ⟨_, _, rfl, rfl, rfl, rfl, (fun h => by cases h), rfl⟩, trivial⟩) (trivial) (⟨(fun h => by cases h), (fun h => by cases h), (fun h => by cases h), trivial⟩) rfl) trivial rfl ?_
 refine .nil ?_
 show Ev _ _ _ _ _
 refine .cond_false rfl (rfl) ?_
 refine .skip ?_
 show Ev _ _ _ _ _
 refine .region ?_
 refine .q (op_addI rfl rfl ⟨by omega, by omega⟩) trivial rfl ?_
 refine .q (op_move rfl) trivial rfl ?_
 refine .nil ?_
 show Ev _ _ _ _ _
 refine .seq ?_
 refine .region ?_
 refine .q (op_cmpI rfl rfl rfl) trivial rfl ?_
 refine .nil ?_
 show Ev _ _ _ _ _
 refine .seq ?_
 refine .cond_true rfl (rfl) ?_
 refine .skip ?_
 show Ev _ _ _ _ _
 refine .seq ?_
 refine .block ?_
 refine .seq ?_
 refine .region ?_
 refine .q (op_move rfl) trivial rfl ?_
 refine .q (op_index_row (i := 8) Tryz.underlying61 Tryz.underlying30 rfl (by kernel_rfl) rfl rfl rfl (show _ = ((8 : Nat) : Int) from rfl) rfl (by show 8 < 20; decide) (by decide)) trivial rfl ?_
 refine .q (op_assign rfl) trivial rfl ?_
 refine .q (op_assign rfl) trivial rfl ?_
 refine .nil ?_
 show Ev _ _ _ _ _
 refine .seq ?_
 refine .region ?_
 refine .q (op_move rfl) trivial rfl ?_
 refine .q (op_move rfl) trivial rfl ?_
 refine .q (op_call (U := []) [(500, 500)] [] (is_fault_other_ev 10 8 (eo 10) (eo 8) (hd _ _ (by decide) (by decide) (by decide)) (by decide) (by decide) ws te) Tryz.func23 (by kernel_rfl) rfl rfl rfl (⟨⟨_, rfl, rfl, rfl⟩, ⟨_, rfl, rfl, rfl⟩, trivial⟩) (⟨⟨_, _, rfl, rfl, rfl, rfl, (fun h => by cases h), rfl⟩, ⟨_, _, rfl, rfl, rfl, rfl, (fun h => by cases h), rfl⟩, ⟨_, _, rfl, rfl, rfl, rfl, (fun h => by cases h), rfl⟩, trivial⟩) (trivial) (⟨(fun h => by cases h), (fun h => by cases h), (fun h => by cases h), trivial⟩) rfl) trivial rfl ?_
 refine .nil ?_
 show Ev _ _ _ _ _
 refine .cond_false rfl (rfl) ?_
 refine .skip ?_
 show Ev _ _ _ _ _
 refine .region ?_
 refine .q (op_addI rfl rfl ⟨by omega, by omega⟩) trivial rfl ?_
 refine .q (op_move rfl) trivial rfl ?_
 refine .nil ?_
 show Ev _ _ _ _ _
 refine .seq ?_
 refine .region ?_
 refine .q (op_cmpI rfl rfl rfl) trivial rfl ?_
 refine .nil ?_
 show Ev _ _ _ _ _
 refine .seq ?_
 refine .cond_true rfl (rfl) ?_
 refine .skip ?_
 show Ev _ _ _ _ _
 refine .seq ?_
 refine .block ?_
 refine .seq ?_
 refine .region ?_
 refine .q (op_move rfl) trivial rfl ?_
 refine .q (op_index_row (i := 9) Tryz.underlying61 Tryz.underlying30 rfl (by kernel_rfl) rfl rfl rfl (show _ = ((9 : Nat) : Int) from rfl) rfl (by show 9 < 20; decide) (by decide)) trivial rfl ?_
 refine .q (op_assign rfl) trivial rfl ?_
 refine .q (op_assign rfl) trivial rfl ?_
 refine .nil ?_
 show Ev _ _ _ _ _
 refine .seq ?_
 refine .region ?_
 refine .q (op_move rfl) trivial rfl ?_
 refine .q (op_move rfl) trivial rfl ?_
 refine .q (op_call (U := []) [(500, 500)] [] (is_fault_other_ev 10 9 (eo 10) (eo 9) (hd _ _ (by decide) (by decide) (by decide)) (by decide) (by decide) ws te) Tryz.func23 (by kernel_rfl) rfl rfl rfl (⟨⟨_, rfl, rfl, rfl⟩, ⟨_, rfl, rfl, rfl⟩, trivial⟩) (⟨⟨_, _, rfl, rfl, rfl, rfl, (fun h => by cases h), rfl⟩, ⟨_, _, rfl, rfl, rfl, rfl, (fun h => by cases h), rfl⟩, ⟨_, _, rfl, rfl, rfl, rfl, (fun h => by cases h), rfl⟩, trivial⟩) (trivial) (⟨(fun h => by cases h), (fun h => by cases h), (fun h => by cases h), trivial⟩) rfl) trivial rfl ?_
 refine .nil ?_
 show Ev _ _ _ _ _
 refine .cond_false rfl (rfl) ?_
 refine .skip ?_
 show Ev _ _ _ _ _
 refine .region ?_
 refine .q (op_addI rfl rfl ⟨by omega, by omega⟩) trivial rfl ?_
 refine .q (op_move rfl) trivial rfl ?_
 refine .nil ?_
 show Ev _ _ _ _ _
 refine .seq ?_
 refine .region ?_
 refine .q (op_cmpI rfl rfl rfl) trivial rfl ?_
 refine .nil ?_
 show Ev _ _ _ _ _
 refine .seq ?_
 refine .cond_true rfl (rfl) ?_
 refine .skip ?_
 show Ev _ _ _ _ _
 refine .seq ?_
 refine .block ?_
 refine .seq ?_
 refine .region ?_
 refine .q (op_move rfl) trivial rfl ?_
 refine .q (op_index_row (i := 10) Tryz.underlying61 Tryz.underlying30 rfl (by kernel_rfl) rfl rfl rfl (show _ = ((10 : Nat) : Int) from rfl) rfl (by show 10 < 20; decide) (by decide)) trivial rfl ?_
 refine .q (op_assign rfl) trivial rfl ?_
 refine .q (op_assign rfl) trivial rfl ?_
 refine .nil ?_
 show Ev _ _ _ _ _
 refine .seq ?_
 refine .region ?_
 refine .q (op_move rfl) trivial rfl ?_
 refine .q (op_move rfl) trivial rfl ?_
 refine .q (op_call (U := []) [(500, 500)] [] (is_fault_same_ev 10 (eo 10) ws te) Tryz.func23 (by kernel_rfl) rfl rfl rfl (⟨⟨_, rfl, rfl, rfl⟩, ⟨_, rfl, rfl, rfl⟩, trivial⟩) (⟨⟨_, _, rfl, rfl, rfl, rfl, (fun h => by cases h), rfl⟩, trivial⟩) (trivial) (⟨(fun h => by cases h), trivial⟩) rfl) trivial rfl ?_
 refine .nil ?_
 show Ev _ _ _ _ _
 refine .cond_true rfl (rfl) ?_
 refine .seq ?_
 refine .region ?_
 refine .q (op_move rfl) trivial rfl ?_
 refine .q (op_addI rfl rfl ⟨by omega, by omega⟩) trivial rfl ?_
 refine .q (op_assign rfl) trivial rfl ?_
 refine .nil ?_
 show Ev _ _ _ _ _
 refine .ret ?_
 show RetOk _ _ _ _ _ _ _
 exact ret1v rfl (.inl rfl) rfl rfl trivial
end Go.Proofs.YtaelhapmikijnaaGreatDoor
