/-
  The law CurveTwo, walked over abstract values.
-/
import Derived.Test.YtmnhifagkcmhjaaDoorGV
import Derived.Test.YtmnhifagkcmhjaaDoorGU
namespace Go.Proofs.YtmnhifagkcmhjaaDoor
open Go.RowKit
theorem two_ne (a b : List UInt8) (ha : a.length = 32) (hb : b.length = 32) (v w : Nat) (hv : v = tmV (usL a) (ofV (bsN (tmV (usL b) 9) 32))) (hw : w = tmV (usL b) (ofV (bsN (tmV (usL a) 9) 32))) : v = w ∧ v ≠ 0 ∧ w ≠ 0 := by
  rw [of_bytes _ (tmV_lt _ _)] at hv hw
  obtain ⟨h1, h2⟩ := two_same a b ha hb
  obtain ⟨_, h3⟩ := two_same b a hb ha
  exact ⟨by rw [hv, hw, h1], by rw [hv]; exact h2, by rw [hw]; exact h3⟩
set_option maxHeartbeats 1000000 in
set_option maxRecDepth 100000 in
theorem curveTwo_ev (e : Nat) (a b : List UInt8) (ha : a.length = 32) (hb : b.length = 32) : Meets Tryd.prog 13 [.aggB a, .aggB b] (HP e) (.bool true) [] := by
  obtain ⟨v, hv⟩ : ∃ v, v = tmV (usL a) (ofV (bsN (tmV (usL b) 9) 32)) := ⟨_, rfl⟩
  obtain ⟨w, hw⟩ : ∃ w, w = tmV (usL b) (ofV (bsN (tmV (usL a) 9) 32)) := ⟨_, rfl⟩
  obtain ⟨hvw, hv0, hw0⟩ := two_ne a b ha hb v w hv hw
  refine meets_of_ev (nt := 34) Tryd.func13 rfl rfl (Nat.le_of_ble_eq_true rfl) ?_
  refine .seq ?_
  refine .region ?_
  refine .a (op_boxRow rfl rfl) trivial rfl ?_
  refine .a (op_boxRow rfl rfl) trivial rfl ?_
  refine .q (op_assign rfl) trivial rfl ?_
  refine .nil ?_
  show Ev _ _ _ _ _
  refine .seq ?_
  refine .seq ?_
  refine .region ?_
  refine .q (op_call (U := []) [] [] (awake6_ev e) Tryd.func60 (by kernel_rfl) rfl rfl rfl (trivial) (⟨⟨_, _, rfl, rfl, rfl, rfl, id, rfl⟩, trivial⟩) (trivial) (⟨(fun h => by cases h), trivial⟩) rfl) trivial rfl ?_
  refine .q (op_notB rfl) trivial rfl ?_
  refine .nil ?_
  show Ev _ _ _ _ _
  refine .cond_false rfl (rfl) ?_
  refine .skip ?_
  show Ev _ _ _ _ _
  refine .seq ?_
  refine .drawn [[], [], [1], [0, 1, 2], [0, 1, 2, 3], [0, 1, 2, 3, 4], [0, 1, 2, 3, 4], [], [0, 1, 2, 3, 4, 5, 7], [0, 1, 2, 3, 4, 5, 6, 7, 8]] [0, 1, 2, 3, 7, 8] [8] (by kernel_rfl) (by kernel_rfl) rfl ?_
  show DK _ [0, 1, 2, 3, 4, 5, 6, 7, 8, 9] _ _ _
  refine .q rfl (op_loadRow Tryd.underlying24 rfl sz24 rfl rfl rfl (by simp only [AV.len, length_bsN, List.length_set, List.length_replicate, length_ka6, length_kb6] <;> first | assumption | omega)) trivial ?_
  refine .q rfl (op_loadRow Tryd.underlying24 rfl sz24 rfl rfl rfl (by simp only [AV.len, length_bsN, List.length_set, List.length_replicate, length_ka6, length_kb6] <;> first | assumption | omega)) trivial ?_
  refine .q rfl (op_call (U := []) [] [] (cbase_ev e b hb) Tryd.func34 (by kernel_rfl) rfl rfl rfl (⟨⟨_, rfl, rfl, rfl⟩, trivial⟩) (⟨⟨_, _, rfl, rfl, rfl, rfl, id, rfl⟩, trivial⟩) (trivial) (⟨(fun h => by cases h), trivial⟩) rfl) trivial ?_
  refine .as (.aggB (bsN (tmV (usL b) 9) 32)) rfl ?_
  refine .q rfl (op_call (U := []) [] [] (cmult_ev e a (bsN (tmV (usL b) 9) 32) ha (length_bsN _ _)) Tryd.func61 (by kernel_rfl) rfl rfl rfl (⟨⟨_, rfl, rfl, rfl⟩, ⟨_, rfl, rfl, rfl⟩, trivial⟩) (⟨⟨_, _, rfl, rfl, rfl, rfl, id, rfl⟩, trivial⟩) (trivial) (⟨(fun h => by cases h), trivial⟩) rfl) trivial ?_
  refine .as (.tup [.aggB (bsN v 32), .bool true]) (by show AV.tup [.aggB (bsN (tmV (usL a) (ofV (bsN (tmV (usL b) 9) 32))) 32), .bool (!decide (tmV (usL a) (ofV (bsN (tmV (usL b) 9) 32)) = 0))] = _; rw [← hv, decide_eq_false hv0]; rfl) ?_
  refine .q rfl (op_move rfl) trivial ?_
  refine .q rfl (op_extract rfl rfl) trivial ?_
  refine .q rfl (op_extract rfl rfl) trivial ?_
  refine .a rfl (op_allocRow zero24 rel_zero24 rfl) trivial rfl rfl ?_
  refine .w rfl (op_storeRow sz24 rfl rfl rfl rfl rfl (by simp only [AV.len, length_bsN, List.length_set, List.length_replicate, length_ka6, length_kb6] <;> first | assumption | omega) (by simp only [AV.len, length_bsN, List.length_set, List.length_replicate, length_ka6, length_kb6] <;> first | assumption | omega)) trivial rfl rfl ?_
  refine .q rfl (op_assign rfl) trivial ?_
  refine .nil ?_
  show Ev _ _ _ _ _
  refine .seq ?_
  refine .drawn [[], [], [1], [0, 1, 2], [0, 1, 2, 3], [0, 1, 2, 3, 4], [0, 1, 2, 3, 4], [], [0, 1, 2, 3, 4, 5, 7], [0, 1, 2, 3, 4, 5, 6, 7, 8]] [0, 1, 2, 3, 7, 8] [8] (by kernel_rfl) (by kernel_rfl) rfl ?_
  show DK _ [0, 1, 2, 3, 4, 5, 6, 7, 8, 9] _ _ _
  refine .q rfl (op_loadRow Tryd.underlying24 rfl sz24 rfl rfl rfl (by simp only [AV.len, length_bsN, List.length_set, List.length_replicate, length_ka6, length_kb6] <;> first | assumption | omega)) trivial ?_
  refine .q rfl (op_loadRow Tryd.underlying24 rfl sz24 rfl rfl rfl (by simp only [AV.len, length_bsN, List.length_set, List.length_replicate, length_ka6, length_kb6] <;> first | assumption | omega)) trivial ?_
  refine .q rfl (op_call (U := []) [] [] (cbase_ev e a ha) Tryd.func34 (by kernel_rfl) rfl rfl rfl (⟨⟨_, rfl, rfl, rfl⟩, trivial⟩) (⟨⟨_, _, rfl, rfl, rfl, rfl, id, rfl⟩, trivial⟩) (trivial) (⟨(fun h => by cases h), trivial⟩) rfl) trivial ?_
  refine .as (.aggB (bsN (tmV (usL a) 9) 32)) rfl ?_
  refine .q rfl (op_call (U := []) [] [] (cmult_ev e b (bsN (tmV (usL a) 9) 32) hb (length_bsN _ _)) Tryd.func61 (by kernel_rfl) rfl rfl rfl (⟨⟨_, rfl, rfl, rfl⟩, ⟨_, rfl, rfl, rfl⟩, trivial⟩) (⟨⟨_, _, rfl, rfl, rfl, rfl, id, rfl⟩, trivial⟩) (trivial) (⟨(fun h => by cases h), trivial⟩) rfl) trivial ?_
  refine .as (.tup [.aggB (bsN w 32), .bool true]) (by show AV.tup [.aggB (bsN (tmV (usL b) (ofV (bsN (tmV (usL a) 9) 32))) 32), .bool (!decide (tmV (usL b) (ofV (bsN (tmV (usL a) 9) 32)) = 0))] = _; rw [← hw, decide_eq_false hw0]; rfl) ?_
  refine .q rfl (op_move rfl) trivial ?_
  refine .q rfl (op_extract rfl rfl) trivial ?_
  refine .q rfl (op_extract rfl rfl) trivial ?_
  refine .a rfl (op_allocRow zero24 rel_zero24 rfl) trivial rfl rfl ?_
  refine .w rfl (op_storeRow sz24 rfl rfl rfl rfl rfl (by simp only [AV.len, length_bsN, List.length_set, List.length_replicate, length_ka6, length_kb6] <;> first | assumption | omega) (by simp only [AV.len, length_bsN, List.length_set, List.length_replicate, length_ka6, length_kb6] <;> first | assumption | omega)) trivial rfl rfl ?_
  refine .q rfl (op_assign rfl) trivial ?_
  refine .nil ?_
  show Ev _ _ _ _ _
  refine .seq ?_
  refine .region ?_
  refine .q (op_loadRow Tryd.underlying24 rfl sz24 rfl rfl rfl (by simp only [AV.len, length_bsN, List.length_set, List.length_replicate, length_ka6, length_kb6] <;> first | assumption | omega)) trivial rfl ?_
  refine .q (op_loadRow Tryd.underlying24 rfl sz24 rfl rfl rfl (by simp only [AV.len, length_bsN, List.length_set, List.length_replicate, length_ka6, length_kb6] <;> first | assumption | omega)) trivial rfl ?_
  refine .q (op_eqRow8 (n := 32) (by kernel_rfl) Tryd.underlying24 Tryd.underlying5 inf5.sz rfl rfl (by simp only [AV.len, length_bsN, List.length_set, List.length_replicate, length_ka6, length_kb6] <;> first | assumption | omega) (by simp only [AV.len, length_bsN, List.length_set, List.length_replicate, length_ka6, length_kb6] <;> first | assumption | omega)) trivial rfl ?_
  refine .as (.bool true) (congrArg AV.bool (by rw [hvw]; exact beq_self_eq_true _)) ?_
  refine .q (op_move rfl) trivial rfl ?_
  refine .know (b' := true) (rfl) ?_
  refine .q (op_move rfl) ⟨_, rfl, rfl⟩ rfl ?_
  refine .q (op_pick_true rfl rfl rfl) trivial rfl ?_
  refine .q (op_move rfl) trivial rfl ?_
  refine .know (b' := true) (rfl) ?_
  refine .q (op_move rfl) ⟨_, rfl, rfl⟩ rfl ?_
  refine .q (op_pick_true rfl rfl rfl) trivial rfl ?_
  refine .q (op_assign rfl) trivial rfl ?_
  refine .nil ?_
  show Ev _ _ _ _ _
  refine .ret ?_
  show RetOk _ _ _ _ _ _ _
  exact ret1v rfl (.inl rfl) rfl rfl trivial
end Go.Proofs.YtmnhifagkcmhjaaDoor
