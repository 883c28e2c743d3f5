/-
  Texts of this claim.
-/
import Derived.Test.YteefpaiefphdpaaDoorGK
import Derived.Test.YteefpaiefphdpaaDoorGJ4
namespace Go.Proofs.YteefpaiefphdpaaDoor
open Go.RowKit
set_option maxRecDepth 100000 in
theorem code_5 (eo : Nat → Nat × Nat) (hd : ∀ i j, i < 20 → j < 20 → i ≠ j → eo i ≠ eo j) : Meets Tryd.prog 14 [.err 225 (5) (offE eo (5))] [(3, some ⟨.agg [.err 225 (1) (offE eo (1))], errT, false⟩), (1, some ⟨.agg [.err 225 (2) (offE eo (2))], errT, false⟩), (0, some ⟨.agg [.err 225 (3) (offE eo (3))], errT, false⟩), (4, some ⟨.agg [.err 225 (4) (offE eo (4))], errT, false⟩), (2, some ⟨.agg [.err 225 (5) (offE eo (5))], errT, false⟩), (5, some ⟨.agg [.err 225 (6) (offE eo (6))], errT, false⟩), (6, some ⟨.agg [.err 225 (7) (offE eo (7))], errT, false⟩), (7, some ⟨.agg [.err 225 (8) (offE eo (8))], errT, false⟩), (8, some ⟨.agg [.err 225 (9) (offE eo (9))], errT, false⟩), (9, some ⟨.agg [.err 225 (10) (offE eo (10))], errT, false⟩), (10, some ⟨.agg [.err 225 (11) (offE eo (11))], errT, false⟩), (11, some ⟨.agg [.err 225 (12) (offE eo (12))], errT, false⟩), (12, some ⟨.agg [.err 225 (13) (offE eo (13))], errT, false⟩), (13, some ⟨.agg [.err 225 (14) (offE eo (14))], errT, false⟩), (14, some ⟨.agg [.err 225 (15) (offE eo (15))], errT, false⟩), (15, some ⟨.agg [.err 225 (16) (offE eo (16))], errT, false⟩), (16, some ⟨.agg [.err 225 (17) (offE eo (17))], errT, false⟩), (17, some ⟨.agg [.err 225 (18) (offE eo (18))], errT, false⟩), (18, some ⟨.agg [.err 225 (19) (offE eo (19))], errT, false⟩), (19, some ⟨.agg [.err 225 (20) (offE eo (20))], errT, false⟩), (401, some ⟨.agg [], errT, false⟩), (402, some ⟨.agg [], errT, false⟩), (403, some ⟨.agg [], errT, false⟩), (404, some ⟨.agg [], errT, false⟩), (405, some ⟨.agg [], errT, false⟩), (406, some ⟨.agg [], errT, false⟩), (407, some ⟨.agg [], errT, false⟩), (408, some ⟨.agg [], errT, false⟩), (409, some ⟨.agg [], errT, false⟩), (410, some ⟨.agg [], errT, false⟩), (411, some ⟨.agg [], errT, false⟩), (412, some ⟨.agg [], errT, false⟩), (413, some ⟨.agg [], errT, false⟩), (414, some ⟨.agg [], errT, false⟩), (415, some ⟨.agg [], errT, false⟩), (416, some ⟨.agg [], errT, false⟩), (417, some ⟨.agg [], errT, false⟩), (418, some ⟨.agg [], errT, false⟩), (419, some ⟨.agg [], errT, false⟩), (420, some ⟨.agg [], errT, false⟩)] (.i64 5) [] := by
 refine meets_of_ev (nt := 38) Tryd.func14 rfl rfl (Nat.le_of_ble_eq_true rfl) ?_
 refine .seq ?_
 refine .region ?_
 refine .q (op_assign rfl) trivial rfl ?_
 refine .nil ?_
 show Ev _ _ _ _ _
 refine .seq ?_
 refine .seq ?_
 refine .region ?_
 refine .q (op_move rfl) trivial rfl ?_
 refine .q (op_eqErrNil (e := 5) Tryd.underlying26 rfl rfl) trivial rfl ?_
 refine .nil ?_
 show Ev _ _ _ _ _
 refine .cond_false rfl (rfl) ?_
 refine .skip ?_
 show Ev _ _ _ _ _
 refine .seq ?_
 refine .seq ?_
 refine .region ?_
 refine .q (op_load Tryd.underlying26 rfl rfl rfl rfl (by first | omega | (simp only [AV.len]; omega) | (simp only [AV.len]; omega) | assumption | (simp [AV.len]; done))) trivial rfl ?_
 refine .q (op_load Tryd.underlying26 rfl rfl rfl rfl (by first | omega | (simp only [AV.len]; omega) | (simp only [AV.len]; omega) | assumption | (simp [AV.len]; done))) trivial rfl ?_
 refine .q (op_load Tryd.underlying26 rfl rfl rfl rfl (by first | omega | (simp only [AV.len]; omega) | (simp only [AV.len]; omega) | assumption | (simp [AV.len]; done))) trivial rfl ?_
 refine .q (op_load Tryd.underlying26 rfl rfl rfl rfl (by first | omega | (simp only [AV.len]; omega) | (simp only [AV.len]; omega) | assumption | (simp [AV.len]; done))) trivial rfl ?_
 refine .q (op_load Tryd.underlying26 rfl rfl rfl rfl (by first | omega | (simp only [AV.len]; omega) | (simp only [AV.len]; omega) | assumption | (simp [AV.len]; done))) trivial rfl ?_
 refine .q (op_load Tryd.underlying26 rfl rfl rfl rfl (by first | omega | (simp only [AV.len]; omega) | (simp only [AV.len]; omega) | assumption | (simp [AV.len]; done))) trivial rfl ?_
 refine .q (op_load Tryd.underlying26 rfl rfl rfl rfl (by first | omega | (simp only [AV.len]; omega) | (simp only [AV.len]; omega) | assumption | (simp [AV.len]; done))) trivial rfl ?_
 refine .q (op_load Tryd.underlying26 rfl rfl rfl rfl (by first | omega | (simp only [AV.len]; omega) | (simp only [AV.len]; omega) | assumption | (simp [AV.len]; done))) trivial rfl ?_
 refine .q (op_load Tryd.underlying26 rfl rfl rfl rfl (by first | omega | (simp only [AV.len]; omega) | (simp only [AV.len]; omega) | assumption | (simp [AV.len]; done))) trivial rfl ?_
 refine .q (op_load Tryd.underlying26 rfl rfl rfl rfl (by first | omega | (simp only [AV.len]; omega) | (simp only [AV.len]; omega) | assumption | (simp [AV.len]; done))) trivial rfl ?_
 refine .q (op_load Tryd.underlying26 rfl rfl rfl rfl (by first | omega | (simp only [AV.len]; omega) | (simp only [AV.len]; omega) | assumption | (simp [AV.len]; done))) trivial rfl ?_
 refine .q (op_load Tryd.underlying26 rfl rfl rfl rfl (by first | omega | (simp only [AV.len]; omega) | (simp only [AV.len]; omega) | assumption | (simp [AV.len]; done))) trivial rfl ?_
 refine .q (op_load Tryd.underlying26 rfl rfl rfl rfl (by first | omega | (simp only [AV.len]; omega) | (simp only [AV.len]; omega) | assumption | (simp [AV.len]; done))) trivial rfl ?_
 refine .q (op_load Tryd.underlying26 rfl rfl rfl rfl (by first | omega | (simp only [AV.len]; omega) | (simp only [AV.len]; omega) | assumption | (simp [AV.len]; done))) trivial rfl ?_
 refine .q (op_load Tryd.underlying26 rfl rfl rfl rfl (by first | omega | (simp only [AV.len]; omega) | (simp only [AV.len]; omega) | assumption | (simp [AV.len]; done))) trivial rfl ?_
 refine .q (op_load Tryd.underlying26 rfl rfl rfl rfl (by first | omega | (simp only [AV.len]; omega) | (simp only [AV.len]; omega) | assumption | (simp [AV.len]; done))) trivial rfl ?_
 refine .q (op_load Tryd.underlying26 rfl rfl rfl rfl (by first | omega | (simp only [AV.len]; omega) | (simp only [AV.len]; omega) | assumption | (simp [AV.len]; done))) trivial rfl ?_
 refine .q (op_load Tryd.underlying26 rfl rfl rfl rfl (by first | omega | (simp only [AV.len]; omega) | (simp only [AV.len]; omega) | assumption | (simp [AV.len]; done))) trivial rfl ?_
 refine .q (op_load Tryd.underlying26 rfl rfl rfl rfl (by first | omega | (simp only [AV.len]; omega) | (simp only [AV.len]; omega) | assumption | (simp [AV.len]; done))) trivial rfl ?_
 refine .q (op_load Tryd.underlying26 rfl rfl rfl rfl (by first | omega | (simp only [AV.len]; omega) | (simp only [AV.len]; omega) | assumption | (simp [AV.len]; done))) trivial rfl ?_
 refine .q (op_buildFull (zv := .nilIface) (u0 := .err 0 0 (0, 0)) [.err 225 (1) (offE eo (1)), .err 225 (2) (offE eo (2)), .err 225 (3) (offE eo (3)), .err 225 (4) (offE eo (4)), .err 225 (5) (offE eo (5)), .err 225 (6) (offE eo (6)), .err 225 (7) (offE eo (7)), .err 225 (8) (offE eo (8)), .err 225 (9) (offE eo (9)), .err 225 (10) (offE eo (10)), .err 225 (11) (offE eo (11)), .err 225 (12) (offE eo (12)), .err 225 (13) (offE eo (13)), .err 225 (14) (offE eo (14)), .err 225 (15) (offE eo (15)), .err 225 (16) (offE eo (16)), .err 225 (17) (offE eo (17)), .err 225 (18) (offE eo (18)), .err 225 (19) (offE eo (19)), .err 225 (20) (offE eo (20))] Tryd.underlying78 (by kernel_rfl) (by kernel_rfl) (.err0 _ _) rfl ⟨rfl, rfl, rfl, rfl, rfl, rfl, rfl, rfl, rfl, rfl, rfl, rfl, rfl, rfl, rfl, rfl, rfl, rfl, rfl, rfl, rfl, rfl, rfl, rfl, rfl, rfl, rfl, rfl, rfl, rfl, rfl, rfl, rfl, rfl, rfl, rfl, rfl, rfl, rfl, rfl, rfl, rfl, rfl, rfl, rfl, rfl, rfl, rfl, rfl, rfl, rfl, rfl, rfl, rfl, rfl, rfl, rfl, rfl, rfl, rfl, trivial⟩ rfl rfl) trivial rfl ?_
 refine .q (op_move rfl) trivial rfl ?_
 refine .nil ?_
 show Ev _ _ _ _ _
 refine .block ?_
 refine Ev.rounds 5 ?_
 show Ev _ _ _ _ _
 refine .seq ?_
 refine .region ?_
 refine .q (op_cmpI rfl rfl rfl) trivial rfl ?_
 refine .nil ?_
 show Ev _ _ _ _ _
 refine .seq ?_
 refine .cond_true rfl (rfl) ?_
 refine .skip ?_
 show Ev _ _ _ _ _
 refine .seq ?_
 refine .block ?_
 refine .seq ?_
 refine .region ?_
 refine .q (op_move rfl) trivial rfl ?_
 refine .q (op_index_row (i := 0) Tryd.underlying78 Tryd.underlying26 rfl (by kernel_rfl) rfl rfl rfl (show _ = ((0 : Nat) : Int) from rfl) rfl (by show 0 < 20; decide) (by decide)) trivial rfl ?_
 refine .q (op_assign rfl) trivial rfl ?_
 refine .q (op_assign rfl) trivial rfl ?_
 refine .nil ?_
 show Ev _ _ _ _ _
 refine .seq ?_
 refine .region ?_
 refine .q (op_move rfl) trivial rfl ?_
 refine .q (op_move rfl) trivial rfl ?_
 refine .q (op_call (U := []) [] [] (is_other_ev 4 0 (eo 4) (eo 0) (hd _ _ (by decide) (by decide) (by decide))) Tryd.func25 (by kernel_rfl) rfl rfl rfl (⟨⟨_, rfl, rfl, rfl⟩, ⟨_, rfl, rfl, rfl⟩, trivial⟩) (⟨⟨_, _, rfl, rfl, rfl, rfl, (fun h => by cases h), rfl⟩, ⟨_, _, rfl, rfl, rfl, rfl, (fun h => by cases h), rfl⟩, trivial⟩) (trivial) (⟨(fun h => by cases h), (fun h => by cases h), trivial⟩) rfl) trivial rfl ?_
 refine .nil ?_
 show Ev _ _ _ _ _
 refine .cond_false rfl (rfl) ?_
 refine .skip ?_
 show Ev _ _ _ _ _
 refine .region ?_
 refine .q (op_addI rfl rfl ⟨by first | omega | (simp only [AV.len]; omega) | (simp only [AV.len, List.length_set]; omega) | assumption | (simp [AV.len]; done), by first | omega | (simp only [AV.len]; omega) | (simp only [AV.len, List.length_set]; omega) | assumption | (simp [AV.len]; done)⟩) trivial rfl ?_
 refine .q (op_move rfl) trivial rfl ?_
 refine .nil ?_
 show Ev _ _ _ _ _
 refine .seq ?_
 refine .region ?_
 refine .q (op_cmpI rfl rfl rfl) trivial rfl ?_
 refine .nil ?_
 show Ev _ _ _ _ _
 refine .seq ?_
 refine .cond_true rfl (rfl) ?_
 refine .skip ?_
 show Ev _ _ _ _ _
 refine .seq ?_
 refine .block ?_
 refine .seq ?_
 refine .region ?_
 refine .q (op_move rfl) trivial rfl ?_
 refine .q (op_index_row (i := 1) Tryd.underlying78 Tryd.underlying26 rfl (by kernel_rfl) rfl rfl rfl (show _ = ((1 : Nat) : Int) from rfl) rfl (by show 1 < 20; decide) (by decide)) trivial rfl ?_
 refine .q (op_assign rfl) trivial rfl ?_
 refine .q (op_assign rfl) trivial rfl ?_
 refine .nil ?_
 show Ev _ _ _ _ _
 refine .seq ?_
 refine .region ?_
 refine .q (op_move rfl) trivial rfl ?_
 refine .q (op_move rfl) trivial rfl ?_
 refine .q (op_call (U := []) [] [] (is_other_ev 4 1 (eo 4) (eo 1) (hd _ _ (by decide) (by decide) (by decide))) Tryd.func25 (by kernel_rfl) rfl rfl rfl (⟨⟨_, rfl, rfl, rfl⟩, ⟨_, rfl, rfl, rfl⟩, trivial⟩) (⟨⟨_, _, rfl, rfl, rfl, rfl, (fun h => by cases h), rfl⟩, ⟨_, _, rfl, rfl, rfl, rfl, (fun h => by cases h), rfl⟩, trivial⟩) (trivial) (⟨(fun h => by cases h), (fun h => by cases h), trivial⟩) rfl) trivial rfl ?_
 refine .nil ?_
 show Ev _ _ _ _ _
 refine .cond_false rfl (rfl) ?_
 refine .skip ?_
 show Ev _ _ _ _ _
 refine .region ?_
 refine .q (op_addI rfl rfl ⟨by first | omega | (simp only [AV.len]; omega) | (simp only [AV.len, List.length_set]; omega) | assumption | (simp [AV.len]; done), by first | omega | (simp only [AV.len]; omega) | (simp only [AV.len, List.length_set]; omega) | assumption | (simp [AV.len]; done)⟩) trivial rfl ?_
 refine .q (op_move rfl) trivial rfl ?_
 refine .nil ?_
 show Ev _ _ _ _ _
 refine .seq ?_
 refine .region ?_
 refine .q (op_cmpI rfl rfl rfl) trivial rfl ?_
 refine .nil ?_
 show Ev _ _ _ _ _
 refine .seq ?_
 refine .cond_true rfl (rfl) ?_
 refine .skip ?_
 show Ev _ _ _ _ _
 refine .seq ?_
 refine .block ?_
 refine .seq ?_
 refine .region ?_
 refine .q (op_move rfl) trivial rfl ?_
 refine .q (op_index_row (i := 2) Tryd.underlying78 Tryd.underlying26 rfl (by kernel_rfl) rfl rfl rfl (show _ = ((2 : Nat) : Int) from rfl) rfl (by show 2 < 20; decide) (by decide)) trivial rfl ?_
 refine .q (op_assign rfl) trivial rfl ?_
 refine .q (op_assign rfl) trivial rfl ?_
 refine .nil ?_
 show Ev _ _ _ _ _
 refine .seq ?_
 refine .region ?_
 refine .q (op_move rfl) trivial rfl ?_
 refine .q (op_move rfl) trivial rfl ?_
 refine .q (op_call (U := []) [] [] (is_other_ev 4 2 (eo 4) (eo 2) (hd _ _ (by decide) (by decide) (by decide))) Tryd.func25 (by kernel_rfl) rfl rfl rfl (⟨⟨_, rfl, rfl, rfl⟩, ⟨_, rfl, rfl, rfl⟩, trivial⟩) (⟨⟨_, _, rfl, rfl, rfl, rfl, (fun h => by cases h), rfl⟩, ⟨_, _, rfl, rfl, rfl, rfl, (fun h => by cases h), rfl⟩, trivial⟩) (trivial) (⟨(fun h => by cases h), (fun h => by cases h), trivial⟩) rfl) trivial rfl ?_
 refine .nil ?_
 show Ev _ _ _ _ _
 refine .cond_false rfl (rfl) ?_
 refine .skip ?_
 show Ev _ _ _ _ _
 refine .region ?_
 refine .q (op_addI rfl rfl ⟨by first | omega | (simp only [AV.len]; omega) | (simp only [AV.len, List.length_set]; omega) | assumption | (simp [AV.len]; done), by first | omega | (simp only [AV.len]; omega) | (simp only [AV.len, List.length_set]; omega) | assumption | (simp [AV.len]; done)⟩) trivial rfl ?_
 refine .q (op_move rfl) trivial rfl ?_
 refine .nil ?_
 show Ev _ _ _ _ _
 refine .seq ?_
 refine .region ?_
 refine .q (op_cmpI rfl rfl rfl) trivial rfl ?_
 refine .nil ?_
 show Ev _ _ _ _ _
 refine .seq ?_
 refine .cond_true rfl (rfl) ?_
 refine .skip ?_
 show Ev _ _ _ _ _
 refine .seq ?_
 refine .block ?_
 refine .seq ?_
 refine .region ?_
 refine .q (op_move rfl) trivial rfl ?_
 refine .q (op_index_row (i := 3) Tryd.underlying78 Tryd.underlying26 rfl (by kernel_rfl) rfl rfl rfl (show _ = ((3 : Nat) : Int) from rfl) rfl (by show 3 < 20; decide) (by decide)) trivial rfl ?_
 refine .q (op_assign rfl) trivial rfl ?_
 refine .q (op_assign rfl) trivial rfl ?_
 refine .nil ?_
 show Ev _ _ _ _ _
 refine .seq ?_
 refine .region ?_
 refine .q (op_move rfl) trivial rfl ?_
 refine .q (op_move rfl) trivial rfl ?_
 refine .q (op_call (U := []) [] [] (is_other_ev 4 3 (eo 4) (eo 3) (hd _ _ (by decide) (by decide) (by decide))) Tryd.func25 (by kernel_rfl) rfl rfl rfl (⟨⟨_, rfl, rfl, rfl⟩, ⟨_, rfl, rfl, rfl⟩, trivial⟩) (⟨⟨_, _, rfl, rfl, rfl, rfl, (fun h => by cases h), rfl⟩, ⟨_, _, rfl, rfl, rfl, rfl, (fun h => by cases h), rfl⟩, trivial⟩) (trivial) (⟨(fun h => by cases h), (fun h => by cases h), trivial⟩) rfl) trivial rfl ?_
 refine .nil ?_
 show Ev _ _ _ _ _
 refine .cond_false rfl (rfl) ?_
 refine .skip ?_
 show Ev _ _ _ _ _
 refine .region ?_
 refine .q (op_addI rfl rfl ⟨by first | omega | (simp only [AV.len]; omega) | (simp only [AV.len, List.length_set]; omega) | assumption | (simp [AV.len]; done), by first | omega | (simp only [AV.len]; omega) | (simp only [AV.len, List.length_set]; omega) | assumption | (simp [AV.len]; done)⟩) trivial rfl ?_
 refine .q (op_move rfl) trivial rfl ?_
 refine .nil ?_
 show Ev _ _ _ _ _
 refine .seq ?_
 refine .region ?_
 refine .q (op_cmpI rfl rfl rfl) trivial rfl ?_
 refine .nil ?_
 show Ev _ _ _ _ _
 refine .seq ?_
 refine .cond_true rfl (rfl) ?_
 refine .skip ?_
 show Ev _ _ _ _ _
 refine .seq ?_
 refine .block ?_
 refine .seq ?_
 refine .region ?_
 refine .q (op_move rfl) trivial rfl ?_
 refine .q (op_index_row (i := 4) Tryd.underlying78 Tryd.underlying26 rfl (by kernel_rfl) rfl rfl rfl (show _ = ((4 : Nat) : Int) from rfl) rfl (by show 4 < 20; decide) (by decide)) trivial rfl ?_
 refine .q (op_assign rfl) trivial rfl ?_
 refine .q (op_assign rfl) trivial rfl ?_
 refine .nil ?_
 show Ev _ _ _ _ _
 refine .seq ?_
 refine .region ?_
 refine .q (op_move rfl) trivial rfl ?_
 refine .q (op_move rfl) trivial rfl ?_
 refine .q (op_call (U := []) [] [] (is_same_ev 4 (eo 4)) Tryd.func25 (by kernel_rfl) rfl rfl rfl (⟨⟨_, rfl, rfl, rfl⟩, ⟨_, rfl, rfl, rfl⟩, trivial⟩) (trivial) (trivial) (trivial) rfl) trivial rfl ?_
 refine .nil ?_
 show Ev _ _ _ _ _
 refine .cond_true rfl (rfl) ?_
 refine .seq ?_
 refine .region ?_
 refine .q (op_move rfl) trivial rfl ?_
 refine .q (op_addI rfl rfl ⟨by first | omega | (simp only [AV.len]; omega) | (simp only [AV.len, List.length_set]; omega) | assumption | (simp [AV.len]; done), by first | omega | (simp only [AV.len]; omega) | (simp only [AV.len, List.length_set]; omega) | assumption | (simp [AV.len]; done)⟩) trivial rfl ?_
 refine .q (op_assign rfl) trivial rfl ?_
 refine .nil ?_
 show Ev _ _ _ _ _
 refine .ret ?_
 show RetOk _ _ _ _ _ _ _
 exact ret1v rfl (.inl rfl) rfl rfl trivial
set_option maxRecDepth 100000 in
theorem code_12 (eo : Nat → Nat × Nat) (hd : ∀ i j, i < 20 → j < 20 → i ≠ j → eo i ≠ eo j) : Meets Tryd.prog 14 [.err 225 (12) (offE eo (12))] [(3, some ⟨.agg [.err 225 (1) (offE eo (1))], errT, false⟩), (1, some ⟨.agg [.err 225 (2) (offE eo (2))], errT, false⟩), (0, some ⟨.agg [.err 225 (3) (offE eo (3))], errT, false⟩), (4, some ⟨.agg [.err 225 (4) (offE eo (4))], errT, false⟩), (2, some ⟨.agg [.err 225 (5) (offE eo (5))], errT, false⟩), (5, some ⟨.agg [.err 225 (6) (offE eo (6))], errT, false⟩), (6, some ⟨.agg [.err 225 (7) (offE eo (7))], errT, false⟩), (7, some ⟨.agg [.err 225 (8) (offE eo (8))], errT, false⟩), (8, some ⟨.agg [.err 225 (9) (offE eo (9))], errT, false⟩), (9, some ⟨.agg [.err 225 (10) (offE eo (10))], errT, false⟩), (10, some ⟨.agg [.err 225 (11) (offE eo (11))], errT, false⟩), (11, some ⟨.agg [.err 225 (12) (offE eo (12))], errT, false⟩), (12, some ⟨.agg [.err 225 (13) (offE eo (13))], errT, false⟩), (13, some ⟨.agg [.err 225 (14) (offE eo (14))], errT, false⟩), (14, some ⟨.agg [.err 225 (15) (offE eo (15))], errT, false⟩), (15, some ⟨.agg [.err 225 (16) (offE eo (16))], errT, false⟩), (16, some ⟨.agg [.err 225 (17) (offE eo (17))], errT, false⟩), (17, some ⟨.agg [.err 225 (18) (offE eo (18))], errT, false⟩), (18, some ⟨.agg [.err 225 (19) (offE eo (19))], errT, false⟩), (19, some ⟨.agg [.err 225 (20) (offE eo (20))], errT, false⟩), (401, some ⟨.agg [], errT, false⟩), (402, some ⟨.agg [], errT, false⟩), (403, some ⟨.agg [], errT, false⟩), (404, some ⟨.agg [], errT, false⟩), (405, some ⟨.agg [], errT, false⟩), (406, some ⟨.agg [], errT, false⟩), (407, some ⟨.agg [], errT, false⟩), (408, some ⟨.agg [], errT, false⟩), (409, some ⟨.agg [], errT, false⟩), (410, some ⟨.agg [], errT, false⟩), (411, some ⟨.agg [], errT, false⟩), (412, some ⟨.agg [], errT, false⟩), (413, some ⟨.agg [], errT, false⟩), (414, some ⟨.agg [], errT, false⟩), (415, some ⟨.agg [], errT, false⟩), (416, some ⟨.agg [], errT, false⟩), (417, some ⟨.agg [], errT, false⟩), (418, some ⟨.agg [], errT, false⟩), (419, some ⟨.agg [], errT, false⟩), (420, some ⟨.agg [], errT, false⟩)] (.i64 12) [] := by
 refine meets_of_ev (nt := 38) Tryd.func14 rfl rfl (Nat.le_of_ble_eq_true rfl) ?_
 refine .seq ?_
 refine .region ?_
 refine .q (op_assign rfl) trivial rfl ?_
 refine .nil ?_
 show Ev _ _ _ _ _
 refine .seq ?_
 refine .seq ?_
 refine .region ?_
 refine .q (op_move rfl) trivial rfl ?_
 refine .q (op_eqErrNil (e := 12) Tryd.underlying26 rfl rfl) trivial rfl ?_
 refine .nil ?_
 show Ev _ _ _ _ _
 refine .cond_false rfl (rfl) ?_
 refine .skip ?_
 show Ev _ _ _ _ _
 refine .seq ?_
 refine .seq ?_
 refine .region ?_
 refine .q (op_load Tryd.underlying26 rfl rfl rfl rfl (by first | omega | (simp only [AV.len]; omega) | (simp only [AV.len]; omega) | assumption | (simp [AV.len]; done))) trivial rfl ?_
 refine .q (op_load Tryd.underlying26 rfl rfl rfl rfl (by first | omega | (simp only [AV.len]; omega) | (simp only [AV.len]; omega) | assumption | (simp [AV.len]; done))) trivial rfl ?_
 refine .q (op_load Tryd.underlying26 rfl rfl rfl rfl (by first | omega | (simp only [AV.len]; omega) | (simp only [AV.len]; omega) | assumption | (simp [AV.len]; done))) trivial rfl ?_
 refine .q (op_load Tryd.underlying26 rfl rfl rfl rfl (by first | omega | (simp only [AV.len]; omega) | (simp only [AV.len]; omega) | assumption | (simp [AV.len]; done))) trivial rfl ?_
 refine .q (op_load Tryd.underlying26 rfl rfl rfl rfl (by first | omega | (simp only [AV.len]; omega) | (simp only [AV.len]; omega) | assumption | (simp [AV.len]; done))) trivial rfl ?_
 refine .q (op_load Tryd.underlying26 rfl rfl rfl rfl (by first | omega | (simp only [AV.len]; omega) | (simp only [AV.len]; omega) | assumption | (simp [AV.len]; done))) trivial rfl ?_
 refine .q (op_load Tryd.underlying26 rfl rfl rfl rfl (by first | omega | (simp only [AV.len]; omega) | (simp only [AV.len]; omega) | assumption | (simp [AV.len]; done))) trivial rfl ?_
 refine .q (op_load Tryd.underlying26 rfl rfl rfl rfl (by first | omega | (simp only [AV.len]; omega) | (simp only [AV.len]; omega) | assumption | (simp [AV.len]; done))) trivial rfl ?_
 refine .q (op_load Tryd.underlying26 rfl rfl rfl rfl (by first | omega | (simp only [AV.len]; omega) | (simp only [AV.len]; omega) | assumption | (simp [AV.len]; done))) trivial rfl ?_
 refine .q (op_load Tryd.underlying26 rfl rfl rfl rfl (by first | omega | (simp only [AV.len]; omega) | (simp only [AV.len]; omega) | assumption | (simp [AV.len]; done))) trivial rfl ?_
 refine .q (op_load Tryd.underlying26 rfl rfl rfl rfl (by first | omega | (simp only [AV.len]; omega) | (simp only [AV.len]; omega) | assumption | (simp [AV.len]; done))) trivial rfl ?_
 refine .q (op_load Tryd.underlying26 rfl rfl rfl rfl (by first | omega | (simp only [AV.len]; omega) | (simp only [AV.len]; omega) | assumption | (simp [AV.len]; done))) trivial rfl ?_
 refine .q (op_load Tryd.underlying26 rfl rfl rfl rfl (by first | omega | (simp only [AV.len]; omega) | (simp only [AV.len]; omega) | assumption | (simp [AV.len]; done))) trivial rfl ?_
 refine .q (op_load Tryd.underlying26 rfl rfl rfl rfl (by first | omega | (simp only [AV.len]; omega) | (simp only [AV.len]; omega) | assumption | (simp [AV.len]; done))) trivial rfl ?_
 refine .q (op_load Tryd.underlying26 rfl rfl rfl rfl (by first | omega | (simp only [AV.len]; omega) | (simp only [AV.len]; omega) | assumption | (simp [AV.len]; done))) trivial rfl ?_
 refine .q (op_load Tryd.underlying26 rfl rfl rfl rfl (by first | omega | (simp only [AV.len]; omega) | (simp only [AV.len]; omega) | assumption | (simp [AV.len]; done))) trivial rfl ?_
 refine .q (op_load Tryd.underlying26 rfl rfl rfl rfl (by first | omega | (simp only [AV.len]; omega) | (simp only [AV.len]; omega) | assumption | (simp [AV.len]; done))) trivial rfl ?_
 refine .q (op_load Tryd.underlying26 rfl rfl rfl rfl (by first | omega | (simp only [AV.len]; omega) | (simp only [AV.len]; omega) | assumption | (simp [AV.len]; done))) trivial rfl ?_
 refine .q (op_load Tryd.underlying26 rfl rfl rfl rfl (by first | omega | (simp only [AV.len]; omega) | (simp only [AV.len]; omega) | assumption | (simp [AV.len]; done))) trivial rfl ?_
 refine .q (op_load Tryd.underlying26 rfl rfl rfl rfl (by first | omega | (simp only [AV.len]; omega) | (simp only [AV.len]; omega) | assumption | (simp [AV.len]; done))) trivial rfl ?_
 refine .q (op_buildFull (zv := .nilIface) (u0 := .err 0 0 (0, 0)) [.err 225 (1) (offE eo (1)), .err 225 (2) (offE eo (2)), .err 225 (3) (offE eo (3)), .err 225 (4) (offE eo (4)), .err 225 (5) (offE eo (5)), .err 225 (6) (offE eo (6)), .err 225 (7) (offE eo (7)), .err 225 (8) (offE eo (8)), .err 225 (9) (offE eo (9)), .err 225 (10) (offE eo (10)), .err 225 (11) (offE eo (11)), .err 225 (12) (offE eo (12)), .err 225 (13) (offE eo (13)), .err 225 (14) (offE eo (14)), .err 225 (15) (offE eo (15)), .err 225 (16) (offE eo (16)), .err 225 (17) (offE eo (17)), .err 225 (18) (offE eo (18)), .err 225 (19) (offE eo (19)), .err 225 (20) (offE eo (20))] Tryd.underlying78 (by kernel_rfl) (by kernel_rfl) (.err0 _ _) rfl ⟨rfl, rfl, rfl, rfl, rfl, rfl, rfl, rfl, rfl, rfl, rfl, rfl, rfl, rfl, rfl, rfl, rfl, rfl, rfl, rfl, rfl, rfl, rfl, rfl, rfl, rfl, rfl, rfl, rfl, rfl, rfl, rfl, rfl, rfl, rfl, rfl, rfl, rfl, rfl, rfl, rfl, rfl, rfl, rfl, rfl, rfl, rfl, rfl, rfl, rfl, rfl, rfl, rfl, rfl, rfl, rfl, rfl, rfl, rfl, rfl, trivial⟩ rfl rfl) trivial rfl ?_
 refine .q (op_move rfl) trivial rfl ?_
 refine .nil ?_
 show Ev _ _ _ _ _
 refine .block ?_
 refine Ev.rounds 12 ?_
 show Ev _ _ _ _ _
 refine .seq ?_
 refine .region ?_
 refine .q (op_cmpI rfl rfl rfl) trivial rfl ?_
 refine .nil ?_
 show Ev _ _ _ _ _
 refine .seq ?_
 refine .cond_true rfl (rfl) ?_
 refine .skip ?_
 show Ev _ _ _ _ _
 refine .seq ?_
 refine .block ?_
 refine .seq ?_
 refine .region ?_
 refine .q (op_move rfl) trivial rfl ?_
 refine .q (op_index_row (i := 0) Tryd.underlying78 Tryd.underlying26 rfl (by kernel_rfl) rfl rfl rfl (show _ = ((0 : Nat) : Int) from rfl) rfl (by show 0 < 20; decide) (by decide)) trivial rfl ?_
 refine .q (op_assign rfl) trivial rfl ?_
 refine .q (op_assign rfl) trivial rfl ?_
 refine .nil ?_
 show Ev _ _ _ _ _
 refine .seq ?_
 refine .region ?_
 refine .q (op_move rfl) trivial rfl ?_
 refine .q (op_move rfl) trivial rfl ?_
 refine .q (op_call (U := []) [] [] (is_other_ev 11 0 (eo 11) (eo 0) (hd _ _ (by decide) (by decide) (by decide))) Tryd.func25 (by kernel_rfl) rfl rfl rfl (⟨⟨_, rfl, rfl, rfl⟩, ⟨_, rfl, rfl, rfl⟩, trivial⟩) (⟨⟨_, _, rfl, rfl, rfl, rfl, (fun h => by cases h), rfl⟩, ⟨_, _, rfl, rfl, rfl, rfl, (fun h => by cases h), rfl⟩, trivial⟩) (trivial) (⟨(fun h => by cases h), (fun h => by cases h), trivial⟩) rfl) trivial rfl ?_
 refine .nil ?_
 show Ev _ _ _ _ _
 refine .cond_false rfl (rfl) ?_
 refine .skip ?_
 show Ev _ _ _ _ _
 refine .region ?_
 refine .q (op_addI rfl rfl ⟨by first | omega | (simp only [AV.len]; omega) | (simp only [AV.len, List.length_set]; omega) | assumption | (simp [AV.len]; done), by first | omega | (simp only [AV.len]; omega) | (simp only [AV.len, List.length_set]; omega) | assumption | (simp [AV.len]; done)⟩) trivial rfl ?_
 refine .q (op_move rfl) trivial rfl ?_
 refine .nil ?_
 show Ev _ _ _ _ _
 refine .seq ?_
 refine .region ?_
 refine .q (op_cmpI rfl rfl rfl) trivial rfl ?_
 refine .nil ?_
 show Ev _ _ _ _ _
 refine .seq ?_
 refine .cond_true rfl (rfl) ?_
 refine .skip ?_
 show Ev _ _ _ _ _
 refine .seq ?_
 refine .block ?_
 refine .seq ?_
 refine .region ?_
 refine .q (op_move rfl) trivial rfl ?_
 refine .q (op_index_row (i := 1) Tryd.underlying78 Tryd.underlying26 rfl (by kernel_rfl) rfl rfl rfl (show _ = ((1 : Nat) : Int) from rfl) rfl (by show 1 < 20; decide) (by decide)) trivial rfl ?_
 refine .q (op_assign rfl) trivial rfl ?_
 refine .q (op_assign rfl) trivial rfl ?_
 refine .nil ?_
 show Ev _ _ _ _ _
 refine .seq ?_
 refine .region ?_
 refine .q (op_move rfl) trivial rfl ?_
 refine .q (op_move rfl) trivial rfl ?_
 refine .q (op_call (U := []) [] [] (is_other_ev 11 1 (eo 11) (eo 1) (hd _ _ (by decide) (by decide) (by decide))) Tryd.func25 (by kernel_rfl) rfl rfl rfl (⟨⟨_, rfl, rfl, rfl⟩, ⟨_, rfl, rfl, rfl⟩, trivial⟩) (⟨⟨_, _, rfl, rfl, rfl, rfl, (fun h => by cases h), rfl⟩, ⟨_, _, rfl, rfl, rfl, rfl, (fun h => by cases h), rfl⟩, trivial⟩) (trivial) (⟨(fun h => by cases h), (fun h => by cases h), trivial⟩) rfl) trivial rfl ?_
 refine .nil ?_
 show Ev _ _ _ _ _
 refine .cond_false rfl (rfl) ?_
 refine .skip ?_
 show Ev _ _ _ _ _
 refine .region ?_
 refine .q (op_addI rfl rfl ⟨by first | omega | (simp only [AV.len]; omega) | (simp only [AV.len, List.length_set]; omega) | assumption | (simp [AV.len]; done), by first | omega | (simp only [AV.len]; omega) | (simp only [AV.len, List.length_set]; omega) | assumption | (simp [AV.len]; done)⟩) trivial rfl ?_
 refine .q (op_move rfl) trivial rfl ?_
 refine .nil ?_
 show Ev _ _ _ _ _
 refine .seq ?_
 refine .region ?_
 refine .q (op_cmpI rfl rfl rfl) trivial rfl ?_
 refine .nil ?_
 show Ev _ _ _ _ _
 refine .seq ?_
 refine .cond_true rfl (rfl) ?_
 refine .skip ?_
 show Ev _ _ _ _ _
 refine .seq ?_
 refine .block ?_
 refine .seq ?_
 refine .region ?_
 refine .q (op_move rfl) trivial rfl ?_
 refine .q (op_index_row (i := 2) Tryd.underlying78 Tryd.underlying26 rfl (by kernel_rfl) rfl rfl rfl (show _ = ((2 : Nat) : Int) from rfl) rfl (by show 2 < 20; decide) (by decide)) trivial rfl ?_
 refine .q (op_assign rfl) trivial rfl ?_
 refine .q (op_assign rfl) trivial rfl ?_
 refine .nil ?_
 show Ev _ _ _ _ _
 refine .seq ?_
 refine .region ?_
 refine .q (op_move rfl) trivial rfl ?_
 refine .q (op_move rfl) trivial rfl ?_
 refine .q (op_call (U := []) [] [] (is_other_ev 11 2 (eo 11) (eo 2) (hd _ _ (by decide) (by decide) (by decide))) Tryd.func25 (by kernel_rfl) rfl rfl rfl (⟨⟨_, rfl, rfl, rfl⟩, ⟨_, rfl, rfl, rfl⟩, trivial⟩) (⟨⟨_, _, rfl, rfl, rfl, rfl, (fun h => by cases h), rfl⟩, ⟨_, _, rfl, rfl, rfl, rfl, (fun h => by cases h), rfl⟩, trivial⟩) (trivial) (⟨(fun h => by cases h), (fun h => by cases h), trivial⟩) rfl) trivial rfl ?_
 refine .nil ?_
 show Ev _ _ _ _ _
 refine .cond_false rfl (rfl) ?_
 refine .skip ?_
 show Ev _ _ _ _ _
 refine .region ?_
 refine .q (op_addI rfl rfl ⟨by first | omega | (simp only [AV.len]; omega) | (simp only [AV.len, List.length_set]; omega) | assumption | (simp [AV.len]; done), by first | omega | (simp only [AV.len]; omega) | (simp only [AV.len, List.length_set]; omega) | assumption | (simp [AV.len]; done)⟩) trivial rfl ?_
 refine .q (op_move rfl) trivial rfl ?_
 refine .nil ?_
 show Ev _ _ _ _ _
 refine .seq ?_
 refine .region ?_
 refine .q (op_cmpI rfl rfl rfl) trivial rfl ?_
 refine .nil ?_
 show Ev _ _ _ _ _
 refine .seq ?_
 refine .cond_true rfl (rfl) ?_
 refine .skip ?_
 show Ev _ _ _ _ _
 refine .seq ?_
 refine .block ?_
 refine .seq ?_
 refine .region ?_
 refine .q (op_move rfl) trivial rfl ?_
 refine .q (op_index_row (i := 3) Tryd.underlying78 Tryd.underlying26 rfl (by kernel_rfl) rfl rfl rfl (show _ = ((3 : Nat) : Int) from rfl) rfl (by show 3 < 20; decide) (by decide)) trivial rfl ?_
 refine .q (op_assign rfl) trivial rfl ?_
 refine .q (op_assign rfl) trivial rfl ?_
 refine .nil ?_
 show Ev _ _ _ _ _
 refine .seq ?_
 refine .region ?_
 refine .q (op_move rfl) trivial rfl ?_
 refine .q (op_move rfl) trivial rfl ?_
 refine .q (op_call (U := []) [] [] (is_other_ev 11 3 (eo 11) (eo 3) (hd _ _ (by decide) (by decide) (by decide))) Tryd.func25 (by kernel_rfl) rfl rfl rfl (⟨⟨_, rfl, rfl, rfl⟩, ⟨_, rfl, rfl, rfl⟩, trivial⟩) (⟨⟨_, _, rfl, rfl, rfl, rfl, (fun h => by cases h), rfl⟩, ⟨_, _, rfl, rfl, rfl, rfl, (fun h => by cases h), rfl⟩, trivial⟩) (trivial) (⟨(fun h => by cases h), (fun h => by cases h), trivial⟩) rfl) trivial rfl ?_
 refine .nil ?_
 show Ev _ _ _ _ _
 refine .cond_false rfl (rfl) ?_
 refine .skip ?_
 show Ev _ _ _ _ _
 refine .region ?_
 refine .q (op_addI rfl rfl ⟨by first | omega | (simp only [AV.len]; omega) | (simp only [AV.len, List.length_set]; omega) | assumption | (simp [AV.len]; done), by first | omega | (simp only [AV.len]; omega) | (simp only [AV.len, List.length_set]; omega) | assumption | (simp [AV.len]; done)⟩) trivial rfl ?_
 refine .q (op_move rfl) trivial rfl ?_
 refine .nil ?_
 show Ev _ _ _ _ _
 refine .seq ?_
 refine .region ?_
 refine .q (op_cmpI rfl rfl rfl) trivial rfl ?_
 refine .nil ?_
 show Ev _ _ _ _ _
 refine .seq ?_
 refine .cond_true rfl (rfl) ?_
 refine .skip ?_
 show Ev _ _ _ _ _
 refine .seq ?_
 refine .block ?_
 refine .seq ?_
 refine .region ?_
 refine .q (op_move rfl) trivial rfl ?_
 refine .q (op_index_row (i := 4) Tryd.underlying78 Tryd.underlying26 rfl (by kernel_rfl) rfl rfl rfl (show _ = ((4 : Nat) : Int) from rfl) rfl (by show 4 < 20; decide) (by decide)) trivial rfl ?_
 refine .q (op_assign rfl) trivial rfl ?_
 refine .q (op_assign rfl) trivial rfl ?_
 refine .nil ?_
 show Ev _ _ _ _ _
 refine .seq ?_
 refine .region ?_
 refine .q (op_move rfl) trivial rfl ?_
 refine .q (op_move rfl) trivial rfl ?_
 refine .q (op_call (U := []) [] [] (is_other_ev 11 4 (eo 11) (eo 4) (hd _ _ (by decide) (by decide) (by decide))) Tryd.func25 (by kernel_rfl) rfl rfl rfl (⟨⟨_, rfl, rfl, rfl⟩, ⟨_, rfl, rfl, rfl⟩, trivial⟩) (⟨⟨_, _, rfl, rfl, rfl, rfl, (fun h => by cases h), rfl⟩, ⟨_, _, rfl, rfl, rfl, rfl, (fun h => by cases h), rfl⟩, trivial⟩) (trivial) (⟨(fun h => by cases h), (fun h => by cases h), trivial⟩) rfl) trivial rfl ?_
 refine .nil ?_
 show Ev _ _ _ _ _
 refine .cond_false rfl (rfl) ?_
 refine .skip ?_
 show Ev _ _ _ _ _
 refine .region ?_
 refine .q (op_addI rfl rfl ⟨by first | omega | (simp only [AV.len]; omega) | (simp only [AV.len, List.length_set]; omega) | assumption | (simp [AV.len]; done), by first | omega | (simp only [AV.len]; omega) | (simp only [AV.len, List.length_set]; omega) | assumption | (simp [AV.len]; done)⟩) trivial rfl ?_
 refine .q (op_move rfl) trivial rfl ?_
 refine .nil ?_
 show Ev _ _ _ _ _
 refine .seq ?_
 refine .region ?_
 refine .q (op_cmpI rfl rfl rfl) trivial rfl ?_
 refine .nil ?_
 show Ev _ _ _ _ _
 refine .seq ?_
 refine .cond_true rfl (rfl) ?_
 refine .skip ?_
 show Ev _ _ _ _ _
 refine .seq ?_
 refine .block ?_
 refine .seq ?_
 refine .region ?_
 refine .q (op_move rfl) trivial rfl ?_
 refine .q (op_index_row (i := 5) Tryd.underlying78 Tryd.underlying26 rfl (by kernel_rfl) rfl rfl rfl (show _ = ((5 : Nat) : Int) from rfl) rfl (by show 5 < 20; decide) (by decide)) trivial rfl ?_
 refine .q (op_assign rfl) trivial rfl ?_
 refine .q (op_assign rfl) trivial rfl ?_
 refine .nil ?_
 show Ev _ _ _ _ _
 refine .seq ?_
 refine .region ?_
 refine .q (op_move rfl) trivial rfl ?_
 refine .q (op_move rfl) trivial rfl ?_
 refine .q (op_call (U := []) [] [] (is_other_ev 11 5 (eo 11) (eo 5) (hd _ _ (by decide) (by decide) (by decide))) Tryd.func25 (by kernel_rfl) rfl rfl rfl (⟨⟨_, rfl, rfl, rfl⟩, ⟨_, rfl, rfl, rfl⟩, trivial⟩) (⟨⟨_, _, rfl, rfl, rfl, rfl, (fun h => by cases h), rfl⟩, ⟨_, _, rfl, rfl, rfl, rfl, (fun h => by cases h), rfl⟩, trivial⟩) (trivial) (⟨(fun h => by cases h), (fun h => by cases h), trivial⟩) rfl) trivial rfl ?_
 refine .nil ?_
 show Ev _ _ _ _ _
 refine .cond_false rfl (rfl) ?_
 refine .skip ?_
 show Ev _ _ _ _ _
 refine .region ?_
 refine .q (op_addI rfl rfl ⟨by first | omega | (simp only [AV.len]; omega) | (simp only [AV.len, List.length_set]; omega) | assumption | (simp [AV.len]; done), by first | omega | (simp only [AV.len]; omega) | (simp only [AV.len, List.length_set]; omega) | assumption | (simp [AV.len]; done)⟩) trivial rfl ?_
 refine .q (op_move rfl) trivial rfl ?_
 refine .nil ?_
 show Ev _ _ _ _ _
 refine .seq ?_
 refine .region ?_
 refine .q (op_cmpI rfl rfl rfl) trivial rfl ?_
 refine .nil ?_
 show Ev _ _ _ _ _
 refine .seq ?_
 refine .cond_true rfl (rfl) ?_
 refine .skip ?_
 show Ev _ _ _ _ _
 refine .seq ?_
 refine .block ?_
 refine .seq ?_
 refine .region ?_
 refine .q (op_move rfl) trivial rfl ?_
 refine .q (op_index_row (i := 6) Tryd.underlying78 Tryd.underlying26 rfl (by kernel_rfl) rfl rfl rfl (show _ = ((6 : Nat) : Int) from rfl) rfl (by show 6 < 20; decide) (by decide)) trivial rfl ?_
 refine .q (op_assign rfl) trivial rfl ?_
 refine .q (op_assign rfl) trivial rfl ?_
 refine .nil ?_
 show Ev _ _ _ _ _
 refine .seq ?_
 refine .region ?_
 refine .q (op_move rfl) trivial rfl ?_
 refine .q (op_move rfl) trivial rfl ?_
 refine .q (op_call (U := []) [] [] (is_other_ev 11 6 (eo 11) (eo 6) (hd _ _ (by decide) (by decide) (by decide))) Tryd.func25 (by kernel_rfl) rfl rfl rfl (⟨⟨_, rfl, rfl, rfl⟩, ⟨_, rfl, rfl, rfl⟩, trivial⟩) (⟨⟨_, _, rfl, rfl, rfl, rfl, (fun h => by cases h), rfl⟩, ⟨_, _, rfl, rfl, rfl, rfl, (fun h => by cases h), rfl⟩, trivial⟩) (trivial) (⟨(fun h => by cases h), (fun h => by cases h), trivial⟩) rfl) trivial rfl ?_
 refine .nil ?_
 show Ev _ _ _ _ _
 refine .cond_false rfl (rfl) ?_
 refine .skip ?_
 show Ev _ _ _ _ _
 refine .region ?_
 refine .q (op_addI rfl rfl ⟨by first | omega | (simp only [AV.len]; omega) | (simp only [AV.len, List.length_set]; omega) | assumption | (simp [AV.len]; done), by first | omega | (simp only [AV.len]; omega) | (simp only [AV.len, List.length_set]; omega) | assumption | (simp [AV.len]; done)⟩) trivial rfl ?_
 refine .q (op_move rfl) trivial rfl ?_
 refine .nil ?_
 show Ev _ _ _ _ _
 refine .seq ?_
 refine .region ?_
 refine .q (op_cmpI rfl rfl rfl) trivial rfl ?_
 refine .nil ?_
 show Ev _ _ _ _ _
 refine .seq ?_
 refine .cond_true rfl (rfl) ?_
 refine .skip ?_
 show Ev _ _ _ _ _
 refine .seq ?_
 refine .block ?_
 refine .seq ?_
 refine .region ?_
 refine .q (op_move rfl) trivial rfl ?_
 refine .q (op_index_row (i := 7) Tryd.underlying78 Tryd.underlying26 rfl (by kernel_rfl) rfl rfl rfl (show _ = ((7 : Nat) : Int) from rfl) rfl (by show 7 < 20; decide) (by decide)) trivial rfl ?_
 refine .q (op_assign rfl) trivial rfl ?_
 refine .q (op_assign rfl) trivial rfl ?_
 refine .nil ?_
 show Ev _ _ _ _ _
 refine .seq ?_
 refine .region ?_
 refine .q (op_move rfl) trivial rfl ?_
 refine .q (op_move rfl) trivial rfl ?_
 refine .q (op_call (U := []) [] [] (is_other_ev 11 7 (eo 11) (eo 7) (hd _ _ (by decide) (by decide) (by decide))) Tryd.func25 (by kernel_rfl) rfl rfl rfl (⟨⟨_, rfl, rfl, rfl⟩, ⟨_, rfl, rfl, rfl⟩, trivial⟩) (⟨⟨_, _, rfl, rfl, rfl, rfl, (fun h => by cases h), rfl⟩, ⟨_, _, rfl, rfl, rfl, rfl, (fun h => by cases h), rfl⟩, trivial⟩) (trivial) (⟨(fun h => by cases h), (fun h => by cases h), trivial⟩) rfl) trivial rfl ?_
 refine .nil ?_
 show Ev _ _ _ _ _
 refine .cond_false rfl (rfl) ?_
 refine .skip ?_
 show Ev _ _ _ _ _
 refine .region ?_
 refine .q (op_addI rfl rfl ⟨by first | omega | (simp only [AV.len]; omega) | (simp only [AV.len, List.length_set]; omega) | assumption | (simp [AV.len]; done), by first | omega | (simp only [AV.len]; omega) | (simp only [AV.len, List.length_set]; omega) | assumption | (simp [AV.len]; done)⟩) trivial rfl ?_
 refine .q (op_move rfl) trivial rfl ?_
 refine .nil ?_
 show Ev _ _ _ _ _
 refine .seq ?_
 refine .region ?_
 refine .q (op_cmpI rfl rfl rfl) trivial rfl ?_
 refine .nil ?_
 show Ev _ _ _ _ _
 refine .seq ?_
 refine .cond_true rfl (rfl) ?_
 refine .skip ?_
 show Ev _ _ _ _ _
 refine .seq ?_
 refine .block ?_
 refine .seq ?_
 refine .region ?_
 refine .q (op_move rfl) trivial rfl ?_
 refine .q (op_index_row (i := 8) Tryd.underlying78 Tryd.underlying26 rfl (by kernel_rfl) rfl rfl rfl (show _ = ((8 : Nat) : Int) from rfl) rfl (by show 8 < 20; decide) (by decide)) trivial rfl ?_
 refine .q (op_assign rfl) trivial rfl ?_
 refine .q (op_assign rfl) trivial rfl ?_
 refine .nil ?_
 show Ev _ _ _ _ _
 refine .seq ?_
 refine .region ?_
 refine .q (op_move rfl) trivial rfl ?_
 refine .q (op_move rfl) trivial rfl ?_
 refine .q (op_call (U := []) [] [] (is_other_ev 11 8 (eo 11) (eo 8) (hd _ _ (by decide) (by decide) (by decide))) Tryd.func25 (by kernel_rfl) rfl rfl rfl (⟨⟨_, rfl, rfl, rfl⟩, ⟨_, rfl, rfl, rfl⟩, trivial⟩) (⟨⟨_, _, rfl, rfl, rfl, rfl, (fun h => by cases h), rfl⟩, ⟨_, _, rfl, rfl, rfl, rfl, (fun h => by cases h), rfl⟩, trivial⟩) (trivial) (⟨(fun h => by cases h), (fun h => by cases h), trivial⟩) rfl) trivial rfl ?_
 refine .nil ?_
 show Ev _ _ _ _ _
 refine .cond_false rfl (rfl) ?_
 refine .skip ?_
 show Ev _ _ _ _ _
 refine .region ?_
 refine .q (op_addI rfl rfl ⟨by first | omega | (simp only [AV.len]; omega) | (simp only [AV.len, List.length_set]; omega) | assumption | (simp [AV.len]; done), by first | omega | (simp only [AV.len]; omega) | (simp only [AV.len, List.length_set]; omega) | assumption | (simp [AV.len]; done)⟩) trivial rfl ?_
 refine .q (op_move rfl) trivial rfl ?_
 refine .nil ?_
 show Ev _ _ _ _ _
 refine .seq ?_
 refine .region ?_
 refine .q (op_cmpI rfl rfl rfl) trivial rfl ?_
 refine .nil ?_
 show Ev _ _ _ _ _
 refine .seq ?_
 refine .cond_true rfl (rfl) ?_
 refine .skip ?_
 show Ev _ _ _ _ _
 refine .seq ?_
 refine .block ?_
 refine .seq ?_
 refine .region ?_
 refine .q (op_move rfl) trivial rfl ?_
 refine .q (op_index_row (i := 9) Tryd.underlying78 Tryd.underlying26 rfl (by kernel_rfl) rfl rfl rfl (show _ = ((9 : Nat) : Int) from rfl) rfl (by show 9 < 20; decide) (by decide)) trivial rfl ?_
 refine .q (op_assign rfl) trivial rfl ?_
 refine .q (op_assign rfl) trivial rfl ?_
 refine .nil ?_
 show Ev _ _ _ _ _
 refine .seq ?_
 refine .region ?_
 refine .q (op_move rfl) trivial rfl ?_
 refine .q (op_move rfl) trivial rfl ?_
 refine .q (op_call (U := []) [] [] (is_other_ev 11 9 (eo 11) (eo 9) (hd _ _ (by decide) (by decide) (by decide))) Tryd.func25 (by kernel_rfl) rfl rfl rfl (⟨⟨_, rfl, rfl, rfl⟩, ⟨_, rfl, rfl, rfl⟩, trivial⟩) (⟨⟨_, _, rfl, rfl, rfl, rfl, (fun h => by cases h), rfl⟩, ⟨_, _, rfl, rfl, rfl, rfl, (fun h => by cases h), rfl⟩, trivial⟩) (trivial) (⟨(fun h => by cases h), (fun h => by cases h), trivial⟩) rfl) trivial rfl ?_
 refine .nil ?_
 show Ev _ _ _ _ _
 refine .cond_false rfl (rfl) ?_
 refine .skip ?_
 show Ev _ _ _ _ _
 refine .region ?_
 refine .q (op_addI rfl rfl ⟨by first | omega | (simp only [AV.len]; omega) | (simp only [AV.len, List.length_set]; omega) | assumption | (simp [AV.len]; done), by first | omega | (simp only [AV.len]; omega) | (simp only [AV.len, List.length_set]; omega) | assumption | (simp [AV.len]; done)⟩) trivial rfl ?_
 refine .q (op_move rfl) trivial rfl ?_
 refine .nil ?_
 show Ev _ _ _ _ _
 refine .seq ?_
 refine .region ?_
 refine .q (op_cmpI rfl rfl rfl) trivial rfl ?_
 refine .nil ?_
 show Ev _ _ _ _ _
 refine .seq ?_
 refine .cond_true rfl (rfl) ?_
 refine .skip ?_
 show Ev _ _ _ _ _
 refine .seq ?_
 refine .block ?_
 refine .seq ?_
 refine .region ?_
 refine .q (op_move rfl) trivial rfl ?_
 refine .q (op_index_row (i := 10) Tryd.underlying78 Tryd.underlying26 rfl (by kernel_rfl) rfl rfl rfl (show _ = ((10 : Nat) : Int) from rfl) rfl (by show 10 < 20; decide) (by decide)) trivial rfl ?_
 refine .q (op_assign rfl) trivial rfl ?_
 refine .q (op_assign rfl) trivial rfl ?_
 refine .nil ?_
 show Ev _ _ _ _ _
 refine .seq ?_
 refine .region ?_
 refine .q (op_move rfl) trivial rfl ?_
 refine .q (op_move rfl) trivial rfl ?_
 refine .q (op_call (U := []) [] [] (is_other_ev 11 10 (eo 11) (eo 10) (hd _ _ (by decide) (by decide) (by decide))) Tryd.func25 (by kernel_rfl) rfl rfl rfl (⟨⟨_, rfl, rfl, rfl⟩, ⟨_, rfl, rfl, rfl⟩, trivial⟩) (⟨⟨_, _, rfl, rfl, rfl, rfl, (fun h => by cases h), rfl⟩, ⟨_, _, rfl, rfl, rfl, rfl, (fun h => by cases h), rfl⟩, trivial⟩) (trivial) (⟨(fun h => by cases h), (fun h => by cases h), trivial⟩) rfl) trivial rfl ?_
 refine .nil ?_
 show Ev _ _ _ _ _
 refine .cond_false rfl (rfl) ?_
 refine .skip ?_
 show Ev _ _ _ _ _
 refine .region ?_
 refine .q (op_addI rfl rfl ⟨by first | omega | (simp only [AV.len]; omega) | (simp only [AV.len, List.length_set]; omega) | assumption | (simp [AV.len]; done), by first | omega | (simp only [AV.len]; omega) | (simp only [AV.len, List.length_set]; omega) | assumption | (simp [AV.len]; done)⟩) trivial rfl ?_
 refine .q (op_move rfl) trivial rfl ?_
 refine .nil ?_
 show Ev _ _ _ _ _
 refine .seq ?_
 refine .region ?_
 refine .q (op_cmpI rfl rfl rfl) trivial rfl ?_
 refine .nil ?_
 show Ev _ _ _ _ _
 refine .seq ?_
 refine .cond_true rfl (rfl) ?_
 refine .skip ?_
 show Ev _ _ _ _ _
 refine .seq ?_
 refine .block ?_
 refine .seq ?_
 refine .region ?_
 refine .q (op_move rfl) trivial rfl ?_
 refine .q (op_index_row (i := 11) Tryd.underlying78 Tryd.underlying26 rfl (by kernel_rfl) rfl rfl rfl (show _ = ((11 : Nat) : Int) from rfl) rfl (by show 11 < 20; decide) (by decide)) trivial rfl ?_
 refine .q (op_assign rfl) trivial rfl ?_
 refine .q (op_assign rfl) trivial rfl ?_
 refine .nil ?_
 show Ev _ _ _ _ _
 refine .seq ?_
 refine .region ?_
 refine .q (op_move rfl) trivial rfl ?_
 refine .q (op_move rfl) trivial rfl ?_
 refine .q (op_call (U := []) [] [] (is_same_ev 11 (eo 11)) Tryd.func25 (by kernel_rfl) rfl rfl rfl (⟨⟨_, rfl, rfl, rfl⟩, ⟨_, rfl, rfl, rfl⟩, trivial⟩) (trivial) (trivial) (trivial) rfl) trivial rfl ?_
 refine .nil ?_
 show Ev _ _ _ _ _
 refine .cond_true rfl (rfl) ?_
 refine .seq ?_
 refine .region ?_
 refine .q (op_move rfl) trivial rfl ?_
 refine .q (op_addI rfl rfl ⟨by first | omega | (simp only [AV.len]; omega) | (simp only [AV.len, List.length_set]; omega) | assumption | (simp [AV.len]; done), by first | omega | (simp only [AV.len]; omega) | (simp only [AV.len, List.length_set]; omega) | assumption | (simp [AV.len]; done)⟩) trivial rfl ?_
 refine .q (op_assign rfl) trivial rfl ?_
 refine .nil ?_
 show Ev _ _ _ _ _
 refine .ret ?_
 show RetOk _ _ _ _ _ _ _
 exact ret1v rfl (.inl rfl) rfl rfl trivial
end Go.Proofs.YteefpaiefphdpaaDoor
namespace Go.Proofs.YteefpaiefphdpaaDoor
open Go.RowKit
section
variable {P : Program} {T : Nat → Option AV} {H : Hp} {nm : Nat} {wr : Bool} {d : Option Tmp} {ty t : TypeId} {ps : String} {af : Array Edge} {gd : Option (Nat × Bool)} {x y : Operand}
theorem op_mask63 {j : Int} {t' : TypeId} (hx : aev T x = some (.i64 j)) (hy : aev T y = some (.i64 63)) : OpSem P T H ⟨d, .binOp .and t x y t', ty, ps, af, gd⟩ nm wr (.i64 (j % 64)) [] :=
  op_bin hx hy fun E y1 y2 w h1 h2 => by
    rw [h1.i64_inv, h2.i64_inv]
    refine ⟨.int .i64 (IntKind.i64.wrap ((BitVec.ofInt 64 j &&& BitVec.ofInt 64 63).toNat : Int)), rfl, ?_⟩
    have e : (BitVec.ofInt 64 j &&& BitVec.ofInt 64 63).toNat = (j % 64).toNat := by
      rw [BitVec.toNat_and, BitVec.toNat_ofInt, BitVec.toNat_ofInt]
      rw [show ((63 : Int) % ((2 ^ 64 : Nat) : Int)).toNat = 2 ^ 6 - 1 by decide, Nat.and_two_pow_sub_one_eq_mod]; omega
    have hb : 0 ≤ j % 64 ∧ j % 64 ≤ 63 := by omega
    rw [e, wrap_in ⟨by omega, by omega⟩]
    rw [show (((j % 64).toNat : Nat) : Int) = j % 64 by omega]
    exact .i64 _
end
def cutC (o : Nat) (l : List Int) : List AV := List.replicate o .hole ++ l.map .i64
theorem cutC_nth (o : Nat) (l : List Int) (i : Nat) (h : i < l.length) : (AV.agg (cutC o l)).nth (o + i) = some (.i64 (l.getD i 0)) := by
  show (cutC o l)[o + i]? = _
  unfold cutC
  rw [List.getElem?_append_right (by rw [List.length_replicate]; omega), List.length_replicate, show o + i - o = i by omega, List.getElem?_map, List.getElem?_eq_getElem h, List.getD_eq_getElem?_getD, List.getElem?_eq_getElem h]
  rfl
theorem cutC_len (o : Nat) (l : List Int) : (AV.agg (cutC o l)).len = o + l.length := by
  show (cutC o l).length = _
  unfold cutC
  rw [List.length_append, List.length_replicate, List.length_map]
theorem cut_names (o : Nat) (l : List Int) : (AV.agg (cutC o l)).names = [] := by
  show AV.namesL (cutC o l) = []
  unfold cutC
  induction o with
  | zero =>
    induction l with
    | nil => rfl
    | cons p l ih => exact ih
  | succ o ih => exact ih
theorem cut_nm (L : List (Nat × Nat)) (o : Nat) (l : List Int) : nmOk L (AV.agg (cutC o l)).names = true := by rw [cut_names]; rfl
theorem cut_ren (f : Nat → Nat) (o : Nat) (l : List Int) : (AV.agg (cutC o l)).ren f = AV.agg (cutC o l) := by
  show AV.agg (AV.renL f (cutC o l)) = _
  refine congrArg AV.agg ?_
  unfold cutC
  induction o with
  | zero =>
    induction l with
    | nil => rfl
    | cons p l ih => exact congrArg (fun z => AV.i64 p :: z) ih
  | succ o ih => exact congrArg (fun z => AV.hole :: z) ih
def okE (e : Nat) : Prop := e = 0 ∨ e = 3 ∨ e = 4 ∨ e = 12
theorem procE_ok (h : HD) (l : List UInt8) : okE (procE h l) := by
  unfold procE okE
  split
  · exact .inr (.inl rfl)
  · split
    · split
      · exact .inl rfl
      · exact .inr (.inr (.inr rfl))
    · split
      · exact .inr (.inr (.inr rfl))
      · exact .inl rfl
theorem readE_ok {h : HD} (he : okE h.e) (s : List UInt8) : okE (readD h s).1.e := by
  unfold readD
  split
  · exact procE_ok _ _
  · split
    · exact .inr (.inr (.inl rfl))
    · exact he
theorem feedE_ok : ∀ (n : Nat) (h : HD) (s : List UInt8), s.length ≤ n → okE h.e → okE (feedD h s).1.e := by
  intro n
  induction n with
  | zero =>
    intro h s hl he
    have : s = [] := List.eq_nil_of_length_eq_zero (by omega)
    subst this
    rw [feedD_end (by simp [goesD])]; exact he
  | succ n ih =>
    intro h s hl he
    cases hg : goesD h s with
    | false => rw [feedD_end hg]; exact he
    | true =>
      have hs : s ≠ [] := by intro e; subst e; simp [goesD] at hg
      have hlt := readD_lt (h := h) hs
      rw [feedD_go hg]
      exact ih _ _ (by omega) (readE_ok he s)
/-- Where the law is: what has not been fed, what the reader knows, what was left behind its line. -/
structure WI (S : List UInt8) (c : Bool) where
  r : List UInt8
  h : HD
  left : List UInt8
  i : Nat
  fine : h.fine
  e : h.e = 0
  v : (allD S [] (moreD ⟨c, [], 0, [], 0⟩)).v = (soD h r).v
  l : (allD S [] (moreD ⟨c, [], 0, [], 0⟩)).r = left ++ (soD h r).r
  w : (allD S [] (moreD ⟨c, [], 0, [], 0⟩)).e = (soD h r).e
  z : h.v = [] → left = []
  len : left.length + r.length ≤ S.length
  hi : i ≤ S.length
  il : i + r.length ≤ S.length
abbrev WN (S : List UInt8) (c : Bool) := { q : WI S c // q.h.p = [] }
abbrev WS (S : List UInt8) (c : Bool) := { q : WI S c // q.h.p ≠ [] }
theorem fineH (c : Bool) : (HD.mk c [] 0 [] 0).fine := ⟨Nat.zero_le _, Nat.zero_le _, fun h => absurd rfl h, fun h => absurd rfl h, fun h => absurd rfl h⟩
def WI.start (S : List UInt8) (c : Bool) : WN S c :=
  ⟨⟨S, ⟨c, [], 0, [], 0⟩, [], 0, fineH c, rfl, rfl, rfl, rfl, fun _ => rfl, by simp, Nat.zero_le _, by simp⟩, rfl⟩
section
variable {S : List UInt8} {c : Bool} (q : WI S c)
/-- The piece is fed. -/
def WI.k (n : Nat) : HD := (feedD q.h (q.r.take n)).1
theorem WI.feeds (n : Nat) : (q.k n).fine ∧ goesD (q.k n) (feedD q.h (q.r.take n)).2 = false ∧ ∀ x, soD q.h (q.r.take n ++ x) = soD (q.k n) ((feedD q.h (q.r.take n)).2 ++ x) := feed_fine _ q.h (q.r.take n) (Nat.le_refl _) q.fine
theorem WI.so (n : Nat) : soD q.h q.r = soD (q.k n) ((feedD q.h (q.r.take n)).2 ++ q.r.drop n) := by
  have := (q.feeds n).2.2 (q.r.drop n)
  rwa [List.take_append_drop] at this
theorem WI.err (n : Nat) (he : (q.k n).e ≠ 0) : (allD S [] (moreD ⟨c, [], 0, [], 0⟩)).e = (q.k n).e ∧ (q.k n).v = [] ∧ (q.k n).p = [] := by
  refine ⟨?_, (q.feeds n).1.ev he, (q.feeds n).1.pe he⟩
  rw [q.w, q.so n]
  unfold soD
  rw [if_pos he]
theorem WI.okE (n : Nat) : okE (q.k n).e := feedE_ok _ q.h _ (Nat.le_refl _) (.inl q.e)
theorem WI.rest_nil (n : Nat) (he : (q.k n).e = 0) (hv : (q.k n).v = []) : (feedD q.h (q.r.take n)).2 = [] := by
  have h1 := (q.feeds n).2.1
  unfold goesD at h1
  rw [he, hv] at h1
  simpa using h1
theorem WI.same (n : Nat) (hv : q.h.v ≠ []) : feedD q.h (q.r.take n) = (q.h, q.r.take n) := feedD_end (by unfold goesD; rw [show (q.h.v == []) = false from beq_eq_false_iff_ne.2 hv]; simp)
theorem feed_lle : ∀ (n : Nat) (h : HD) (s : List UInt8), s.length ≤ n → (feedD h s).2.length ≤ s.length := by
  intro n
  induction n with
  | zero =>
    intro h s hl
    have : s = [] := List.eq_nil_of_length_eq_zero (by omega)
    subst this
    rw [feedD_end (by simp [goesD])]; exact Nat.le_refl _
  | succ n ih =>
    intro h s hl
    cases hg : goesD h s with
    | false => rw [feedD_end hg]; exact Nat.le_refl _
    | true =>
      have hs : s ≠ [] := by intro e; subst e; simp [goesD] at hg
      have hlt := readD_lt (h := h) hs
      rw [feedD_go hg]
      have := ih (readD h s).1 (readD h s).2 (by omega)
      omega
theorem WI.got_le (n : Nat) : (feedD q.h (q.r.take n)).2.length ≤ (q.r.take n).length := feed_lle _ _ _ (Nat.le_refl _)
def WI.step (n : Nat) (hn : 0 < n) (hn2 : n ≤ q.r.length) (he : (q.k n).e = 0) : WI S c where
  r := q.r.drop n
  h := q.k n
  left := q.left ++ (feedD q.h (q.r.take n)).2
  i := q.i + 1
  fine := (q.feeds n).1
  e := he
  v := by
    rw [q.v, q.so n]
    by_cases hv : (q.k n).v = []
    · rw [q.rest_nil n he hv, List.nil_append]
    · unfold soD; rw [if_neg (fun e => e he), if_neg hv, if_neg (fun e => e he), if_neg hv]
  l := by
    rw [q.l, q.so n]
    by_cases hv : (q.k n).v = []
    · rw [q.rest_nil n he hv, List.nil_append, List.append_nil]
    · unfold soD; rw [if_neg (fun e => e he), if_neg hv, if_neg (fun e => e he), if_neg hv, List.append_assoc]
  w := by
    rw [q.w, q.so n]
    by_cases hv : (q.k n).v = []
    · rw [q.rest_nil n he hv, List.nil_append]
    · unfold soD; rw [if_neg (fun e => e he), if_neg hv, if_neg (fun e => e he), if_neg hv]
  z := fun hv => by
    have hz : q.left = [] := by
      refine q.z ?_
      by_cases h0 : q.h.v = []
      · exact h0
      · have h1 := congrArg Prod.fst (q.same n h0)
        have h2 : (q.k n) = q.h := h1
        rw [h2] at hv; exact hv
    rw [hz, q.rest_nil n he hv]; rfl
  len := by
    have h1 := q.got_le n
    have h2 := q.len
    rw [List.length_take] at h1
    rw [List.length_append, List.length_drop]
    omega
  hi := by have := q.il; omega
  il := by have := q.il; rw [List.length_drop]; omega
theorem WI.want (hr : q.r = []) : (allD S [] (moreD ⟨c, [], 0, [], 0⟩)).e = 0 ∧ (allD S [] (moreD ⟨c, [], 0, [], 0⟩)).v = q.h.v ∧ (allD S [] (moreD ⟨c, [], 0, [], 0⟩)).r = q.left := by
  rw [q.w, q.v, q.l, hr]
  unfold soD
  rw [if_neg (fun e => e q.e)]
  by_cases hv : q.h.v = []
  · rw [if_pos hv]
    exact ⟨rfl, by rw [hv]; rfl, by rw [q.z hv]; rfl⟩
  · rw [if_neg hv]
    exact ⟨rfl, rfl, List.append_nil _⟩
end
/-- How much is fed at once. -/
def cN (l : List Int) (i : Nat) (r : List UInt8) : Nat := if i < l.length then 1 + (l.getD i 0 % 64).toNat else r.length
theorem cN_y {l : List Int} {i : Nat} {r : List UInt8} (h : i < l.length) : ((cN l i r : Nat) : Int) = 1 + l.getD i 0 % 64 := by unfold cN; rw [if_pos h]; omega
theorem cN_n {l : List Int} {i : Nat} {r : List UInt8} (h : ¬ i < l.length) : cN l i r = r.length := if_neg h
theorem cN_pos {l : List Int} {i : Nat} {r : List UInt8} (h : r ≠ []) : 0 < min (cN l i r) r.length := by
  have h1 : 0 < r.length := List.length_pos_iff.2 h
  unfold cN
  split <;> omega
end Go.Proofs.YteefpaiefphdpaaDoor
