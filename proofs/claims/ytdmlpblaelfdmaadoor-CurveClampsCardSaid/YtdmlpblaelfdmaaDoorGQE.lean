/-
  Texts of this claim.
-/
import Derived.Test.YtdmlpblaelfdmaaDoorGF3
import Derived.Test.YtdmlpblaelfdmaaDoorGF2
namespace Go.Proofs.YtdmlpblaelfdmaaDoor
open Go.RowKit
theorem length_ka6 : ka6.length = 32 := rfl
theorem length_kb6 : kb6.length = 32 := rfl
theorem base6 (K : List UInt8) : tmV (usL K) 9 = tmC (usL K) 9 := tmC_eq _ _ (by decide)
def w6a : Nat := tmV (usL ka6) (ofV (bsN (tmV (usL kb6) 9) 32))
def w6b : Nat := tmV (usL kb6) (ofV (bsN (tmV (usL ka6) 9) 32))
theorem w6a_eq : w6a = tmC (usL ka6) (tmC (usL kb6) 9) := by
  unfold w6a
  rw [of_bytes _ (tmV_lt _ _), tmC_eq _ _ (tmV_lt _ _), base6]
theorem w6b_eq : w6b = tmC (usL kb6) (tmC (usL ka6) 9) := by
  unfold w6b
  rw [of_bytes _ (tmV_lt _ _), tmC_eq _ _ (tmV_lt _ _), base6]
theorem w6_same : w6a = w6b := by rw [w6a_eq, w6b_eq, fact6a]
theorem w6_ne : w6a ≠ 0 := by rw [w6a_eq]; exact fact6b
theorem w6_lt : w6a < fp := tmV_lt _ _
theorem bsN_zero : List.replicate 32 (0 : UInt8) = bsN 0 32 := by decide
theorem bs_ne (v : Nat) (h : v < fp) : (bsN v 32 != List.replicate 32 0) = !decide (v = 0) := by
  rw [bsN_zero]
  by_cases c : v = 0
  · subst c; simp
  · have : bsN v 32 ≠ bsN 0 32 := fun e => c (bsN_inj h fpos e)
    rw [decide_eq_false c]
    simpa using this
theorem bases_ne : (bsN (tmV (usL ka6) 9) 32 != bsN (tmV (usL kb6) 9) 32) = true := by
  have : bsN (tmV (usL ka6) 9) 32 ≠ bsN (tmV (usL kb6) 9) 32 := fun e => fact6c (by
    have := bsN_inj (tmV_lt _ _) (tmV_lt _ _) e
    rw [base6, base6] at this; exact this)
  simpa using this
set_option maxHeartbeats 1000000 in
set_option maxRecDepth 100000 in
theorem awake6_ev (e : Nat) : Meets Tryd.prog 5 [] (HP e) (.bool true) [] := by
 refine meets_of_ev (nt := 44) Tryd.func5 rfl rfl (Nat.le_of_ble_eq_true rfl) ?_
 refine .seq ?_
 refine .region ?_
 refine .q (op_assign rfl) trivial rfl ?_
 refine .nil ?_
 show Ev _ _ _ _ _
 refine .seq ?_
 refine .region ?_
 refine .q (op_buildArr (us := [(8, _)]) Tryd.underlying22 inf5.sz zero22 rel_zero22 rfl (by decide) ⟨rfl, rfl, rfl, trivial⟩ rfl) trivial rfl ?_
 refine .as (.aggB ka6) rfl ?_
 refine .q (op_buildArr (us := [(20, _)]) Tryd.underlying22 inf5.sz zero22 rel_zero22 rfl (by decide) ⟨rfl, rfl, rfl, trivial⟩ rfl) trivial rfl ?_
 refine .as (.aggB kb6) rfl ?_
 refine .a (op_allocRow zero22 rel_zero22 rfl) trivial rfl ?_
 refine .a (op_allocRow zero22 rel_zero22 rfl) trivial rfl ?_
 refine .w (op_storeRow sz22 rfl rfl rfl rfl rfl (by simp only [AV.len, length_ka6] <;> first | assumption | omega) (by simp only [AV.len, List.length_replicate] <;> first | assumption | omega)) trivial rfl ?_
 refine .w (op_storeRow sz22 rfl rfl rfl rfl rfl (by simp only [AV.len, length_kb6] <;> first | assumption | omega) (by simp only [AV.len, List.length_replicate] <;> first | assumption | omega)) trivial rfl ?_
 refine .nil ?_
 show Ev _ _ _ _ _
 refine .seq ?_
 refine .drawn [[], [], [1], [0, 1, 2], [0, 1, 2, 3], [0, 1, 2, 3, 4], [0, 1, 2, 3, 4], [], [0, 1, 2, 3, 4, 5, 7], [0, 1, 2, 3, 4, 5, 6, 7, 8]] [0, 1, 2, 3, 7, 8] [8] (by kernel_rfl) (by kernel_rfl) rfl ?_
 show DK _ [0, 1, 2, 3, 4, 5, 6, 7, 8, 9] _ _ _
 refine .q rfl (op_loadRow Tryd.underlying22 rfl sz22 rfl rfl rfl (by simp only [AV.len, length_ka6] <;> first | assumption | omega)) trivial ?_
 refine .q rfl (op_loadRow Tryd.underlying22 rfl sz22 rfl rfl rfl (by simp only [AV.len, length_kb6] <;> first | assumption | omega)) trivial ?_
 refine .q rfl (op_call (U := []) [] [] (cbase_ev e kb6 rfl) Tryd.func7 (by kernel_rfl) rfl rfl rfl (⟨⟨_, rfl, rfl, rfl⟩, trivial⟩) (⟨⟨_, _, rfl, rfl, rfl, rfl, id, rfl⟩, trivial⟩) (trivial) (⟨(fun h => by cases h), trivial⟩) rfl) trivial ?_
 refine .as (.aggB (bsN (tmV (usL kb6) 9) 32)) rfl ?_
 refine .q rfl (op_call (U := []) [] [] (cmult_ev e ka6 (bsN (tmV (usL kb6) 9) 32) rfl (length_bsN _ 32)) Tryd.func6 (by kernel_rfl) rfl rfl rfl (⟨⟨_, rfl, rfl, rfl⟩, ⟨_, rfl, rfl, rfl⟩, trivial⟩) (⟨⟨_, _, rfl, rfl, rfl, rfl, id, rfl⟩, trivial⟩) (trivial) (⟨(fun h => by cases h), trivial⟩) rfl) trivial ?_
 refine .as (.tup [.aggB (bsN w6a 32), .bool (!decide (w6a = 0))]) rfl ?_
 refine .q rfl (op_move rfl) trivial ?_
 refine .q rfl (op_extract rfl rfl) trivial ?_
 refine .q rfl (op_extract rfl rfl) trivial ?_
 refine .a rfl (op_allocRow zero22 rel_zero22 rfl) trivial rfl rfl ?_
 refine .w rfl (op_storeRow sz22 rfl rfl rfl rfl rfl (by simp only [AV.len, length_bsN] <;> first | assumption | omega) (by simp only [AV.len, List.length_replicate] <;> first | assumption | omega)) trivial rfl rfl ?_
 refine .q rfl (op_assign rfl) trivial ?_
 refine .nil ?_
 show Ev _ _ _ _ _
 refine .seq ?_
 refine .drawn [[], [], [1], [0, 1, 2], [0, 1, 2, 3], [0, 1, 2, 3, 4], [0, 1, 2, 3, 4], [], [0, 1, 2, 3, 4, 5, 7], [0, 1, 2, 3, 4, 5, 6, 7, 8]] [0, 1, 2, 3, 7, 8] [8] (by kernel_rfl) (by kernel_rfl) rfl ?_
 show DK _ [0, 1, 2, 3, 4, 5, 6, 7, 8, 9] _ _ _
 refine .q rfl (op_loadRow Tryd.underlying22 rfl sz22 rfl rfl rfl (by simp only [AV.len, length_kb6] <;> first | assumption | omega)) trivial ?_
 refine .q rfl (op_loadRow Tryd.underlying22 rfl sz22 rfl rfl rfl (by simp only [AV.len, length_ka6] <;> first | assumption | omega)) trivial ?_
 refine .q rfl (op_call (U := []) [] [] (cbase_ev e ka6 rfl) Tryd.func7 (by kernel_rfl) rfl rfl rfl (⟨⟨_, rfl, rfl, rfl⟩, trivial⟩) (⟨⟨_, _, rfl, rfl, rfl, rfl, id, rfl⟩, trivial⟩) (trivial) (⟨(fun h => by cases h), trivial⟩) rfl) trivial ?_
 refine .as (.aggB (bsN (tmV (usL ka6) 9) 32)) rfl ?_
 refine .q rfl (op_call (U := []) [] [] (cmult_ev e kb6 (bsN (tmV (usL ka6) 9) 32) rfl (length_bsN _ 32)) Tryd.func6 (by kernel_rfl) rfl rfl rfl (⟨⟨_, rfl, rfl, rfl⟩, ⟨_, rfl, rfl, rfl⟩, trivial⟩) (⟨⟨_, _, rfl, rfl, rfl, rfl, id, rfl⟩, trivial⟩) (trivial) (⟨(fun h => by cases h), trivial⟩) rfl) trivial ?_
 refine .as (.tup [.aggB (bsN w6b 32), .bool (!decide (w6b = 0))]) rfl ?_
 refine .q rfl (op_move rfl) trivial ?_
 refine .q rfl (op_extract rfl rfl) trivial ?_
 refine .q rfl (op_extract rfl rfl) trivial ?_
 refine .a rfl (op_allocRow zero22 rel_zero22 rfl) trivial rfl rfl ?_
 refine .w rfl (op_storeRow sz22 rfl rfl rfl rfl rfl (by simp only [AV.len, length_bsN] <;> first | assumption | omega) (by simp only [AV.len, List.length_replicate] <;> first | assumption | omega)) trivial rfl rfl ?_
 refine .q rfl (op_assign rfl) trivial ?_
 refine .nil ?_
 show Ev _ _ _ _ _
 refine .seq ?_
 refine .drawn [[], [], [0, 1], [0, 1, 2], [0, 1, 2, 3], [0, 1, 2, 3, 4], [0, 1, 2, 3, 4, 5], [0, 1, 2, 3, 4, 5, 6], [0, 1, 2, 3, 4, 5, 6, 7], [0, 1, 2, 3, 4, 5, 6, 7, 8], [0, 1, 2, 3, 4, 5, 6, 7, 8, 9], [0, 1, 2, 3, 4, 5, 6, 7, 8, 9], [0, 1, 2, 3, 4, 5, 6, 7, 8, 9, 10, 11], [0, 1, 2, 3, 4, 5, 6, 7, 8, 9, 10, 11, 12], [0, 1, 2, 3, 4, 5, 6, 7, 8, 9, 10, 11, 12, 13], [0, 1, 2, 3, 4, 5, 6, 7, 8, 9, 10, 11, 12, 13, 14], [0, 1, 2, 3, 4, 5, 6, 7, 8, 9, 10, 11, 12, 13, 14, 15], [0, 1, 2, 3, 4, 5, 6, 7, 8, 9, 10, 11, 12, 13, 14], [0, 1, 2, 3, 4, 5, 6, 7, 8, 9, 10, 11, 12, 13, 14, 15, 16, 17], [0, 1, 2, 3, 4, 5, 6, 7, 8, 9, 10, 11, 12, 13, 14, 15, 16, 17, 18], [0, 1, 2, 3, 4, 5, 6, 7, 8, 9, 10, 11, 12, 13, 14, 15, 16, 17, 18, 19], [0, 1, 2, 3, 4, 5, 6, 7, 8, 9, 10, 11, 12, 13, 14, 15, 16, 17, 18, 19, 20]] [0, 1, 10, 15, 16, 17, 18] [] (by kernel_rfl) (by kernel_rfl) rfl ?_
 show DK _ [0, 1, 2, 3, 4, 5, 6, 7, 8, 9, 10, 11, 12, 13, 14, 15, 16, 17, 18, 19, 20, 21] _ _ _
 refine .q rfl (op_loadRow Tryd.underlying22 rfl sz22 rfl rfl rfl (by simp only [AV.len, length_bsN] <;> first | assumption | omega)) trivial ?_
 refine .q rfl (op_loadRow Tryd.underlying22 rfl sz22 rfl rfl rfl (by simp only [AV.len, length_bsN] <;> first | assumption | omega)) trivial ?_
 refine .q rfl (op_eqRow8 (n := 32) (by kernel_rfl) Tryd.underlying22 Tryd.underlying5 inf5.sz rfl rfl (by simp only [length_bsN] <;> first | assumption | omega) (by simp only [length_bsN] <;> first | assumption | omega)) trivial ?_
 refine .q rfl (op_move rfl) trivial ?_
 refine .know (b' := true) (by rw [w6_same]; simp) ?_
 refine .q rfl (op_move rfl) ⟨_, rfl, rfl⟩ ?_
 refine .q rfl (op_pick_true rfl rfl rfl) trivial ?_
 refine .q rfl (op_move rfl) trivial ?_
 refine .know (b' := true) (by rw [decide_eq_false w6_ne]; rfl) ?_
 refine .q rfl (op_move rfl) ⟨_, rfl, rfl⟩ ?_
 refine .q rfl (op_pick_true rfl rfl rfl) trivial ?_
 refine .q rfl (op_move rfl) trivial ?_
 refine .know (b' := true) (by rw [← w6_same, decide_eq_false w6_ne]; rfl) ?_
 refine .q rfl (op_loadRow Tryd.underlying22 rfl sz22 rfl rfl rfl (by simp only [AV.len, length_bsN] <;> first | assumption | omega)) ⟨_, rfl, rfl⟩ ?_
 refine .q rfl (op_buildArr (us := []) Tryd.underlying22 inf5.sz zero22 rel_zero22 rfl (by decide) trivial rfl) ⟨_, rfl, rfl⟩ ?_
 refine .q rfl (op_neqRow8 (n := 32) (by kernel_rfl) Tryd.underlying22 Tryd.underlying5 inf5.sz rfl rfl (by simp only [length_bsN] <;> first | assumption | omega) (by simp only [List.length_replicate] <;> first | assumption | omega)) ⟨_, rfl, rfl⟩ ?_
 refine .q rfl (op_pick_true rfl rfl rfl) trivial ?_
 refine .q rfl (op_move rfl) trivial ?_
 refine .know (b' := true) (by rw [bs_ne _ w6_lt, decide_eq_false w6_ne]; rfl) ?_
 refine .q rfl (op_loadRow Tryd.underlying22 rfl sz22 rfl rfl rfl (by simp only [AV.len, length_ka6] <;> first | assumption | omega)) ⟨_, rfl, rfl⟩ ?_
 refine .q rfl (op_call (U := []) [] [] (cbase_ev e ka6 rfl) Tryd.func7 (by kernel_rfl) rfl rfl rfl (⟨⟨_, rfl, rfl, rfl⟩, trivial⟩) (⟨⟨_, _, rfl, rfl, rfl, rfl, id, rfl⟩, trivial⟩) (trivial) (⟨(fun h => by cases h), trivial⟩) rfl) ⟨_, rfl, rfl⟩ ?_
 refine .as (.aggB (bsN (tmV (usL ka6) 9) 32)) rfl ?_
 refine .q rfl (op_loadRow Tryd.underlying22 rfl sz22 rfl rfl rfl (by simp only [AV.len, length_kb6] <;> first | assumption | omega)) ⟨_, rfl, rfl⟩ ?_
 refine .q rfl (op_call (U := []) [] [] (cbase_ev e kb6 rfl) Tryd.func7 (by kernel_rfl) rfl rfl rfl (⟨⟨_, rfl, rfl, rfl⟩, trivial⟩) (⟨⟨_, _, rfl, rfl, rfl, rfl, id, rfl⟩, trivial⟩) (trivial) (⟨(fun h => by cases h), trivial⟩) rfl) ⟨_, rfl, rfl⟩ ?_
 refine .as (.aggB (bsN (tmV (usL kb6) 9) 32)) rfl ?_
 refine .q rfl (op_neqRow8 (n := 32) (by kernel_rfl) Tryd.underlying22 Tryd.underlying5 inf5.sz rfl rfl (by simp only [length_bsN] <;> first | assumption | omega) (by simp only [length_bsN] <;> first | assumption | omega)) ⟨_, rfl, rfl⟩ ?_
 refine .q rfl (op_pick_true rfl rfl rfl) trivial ?_
 refine .q rfl (op_assign rfl) trivial ?_
 refine .nil ?_
 show Ev _ _ _ _ _
 refine .ret ?_
 show RetOk _ _ _ _ _ _ _
 exact ret1v rfl (.inl rfl) rfl (congrArg AV.bool bases_ne) trivial
end Go.Proofs.YtdmlpblaelfdmaaDoor
