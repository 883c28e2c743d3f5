/-
  The law CurveThree, walked over abstract values.
-/
import Derived.Test.YtmnhifagkcmhjaaDoorGV
import Derived.Test.YtmnhifagkcmhjaaDoorGU
namespace Go.Proofs.YtmnhifagkcmhjaaDoor
open Go.RowKit
theorem three_eq (a b c : List UInt8) (ha : a.length = 32) (hb : b.length = 32) (hc : c.length = 32) (x y z w : Nat) (hx : x = tmV (usL b) (ofV (bsN (tmV (usL a) 9) 32))) (hy : y = tmV (usL c) (ofV (bsN x 32))) (hz : z = tmV (usL a) (ofV (bsN (tmV (usL c) 9) 32))) (hw : w = tmV (usL b) (ofV (bsN z 32))) : y = w := by
  rw [of_bytes _ (tmV_lt _ _)] at hx hz
  have lx : x < fp := by rw [hx]; exact tmV_lt _ _
  have lz : z < fp := by rw [hz]; exact tmV_lt _ _
  rw [of_bytes _ lx] at hy
  rw [of_bytes _ lz] at hw
  rw [hy, hw, hx, hz]; exact three_same a b c ha hb hc
set_option maxHeartbeats 1000000 in
set_option maxRecDepth 100000 in
theorem curveThree_ev (e : Nat) (a b c : List UInt8) (ha : a.length = 32) (hb : b.length = 32) (hc : c.length = 32) : Meets Tryd.prog 15 [.aggB a, .aggB b, .aggB c] (HP e) (.bool true) [] := by
  obtain ⟨x, hx⟩ : ∃ v, v = tmV (usL b) (ofV (bsN (tmV (usL a) 9) 32)) := ⟨_, rfl⟩
  obtain ⟨y, hy⟩ : ∃ v, v = tmV (usL c) (ofV (bsN x 32)) := ⟨_, rfl⟩
  obtain ⟨z, hz⟩ : ∃ v, v = tmV (usL a) (ofV (bsN (tmV (usL c) 9) 32)) := ⟨_, rfl⟩
  obtain ⟨w, hw⟩ : ∃ v, v = tmV (usL b) (ofV (bsN z 32)) := ⟨_, rfl⟩
  refine meets_of_ev (nt := 46) Tryd.func15 rfl rfl (Nat.le_of_ble_eq_true rfl) ?_
  refine .seq ?_
  refine .region ?_
  refine .a (op_boxRow rfl rfl) trivial rfl ?_
  refine .a (op_boxRow rfl rfl) trivial rfl ?_
  refine .a (op_boxRow rfl rfl) trivial rfl ?_
  refine .q (op_assign rfl) trivial rfl ?_
  refine .nil ?_
  show Ev _ _ _ _ _
  refine .seq ?_
  refine .seq ?_
  refine .region ?_
  refine .q (op_call (U := []) [] [] (awake6_ev e) Tryd.func60 (by kernel_rfl) rfl rfl rfl (trivial) (⟨⟨_, _, rfl, rfl, rfl, rfl, id, rfl⟩, trivial⟩) (trivial) (⟨(fun h => by cases h), trivial⟩) rfl) trivial rfl ?_
  refine .q (op_notB rfl) trivial rfl ?_
  refine .nil ?_
  show Ev _ _ _ _ _
  refine .cond_false rfl (rfl) ?_
  refine .skip ?_
  show Ev _ _ _ _ _
  refine .seq ?_
  refine .drawn [[], [], [1], [0, 1, 2], [0, 1, 2, 3], [0, 1, 2, 3, 4], [0, 1, 2, 3, 4], [], [0, 1, 2, 3, 4, 5, 7], [0, 1, 2, 3, 4, 5, 6, 7, 8]] [0, 1, 2, 3, 7, 8] [8] (by kernel_rfl) (by kernel_rfl) rfl ?_
  show DK _ [0, 1, 2, 3, 4, 5, 6, 7, 8, 9] _ _ _
  refine .q rfl (op_loadRow Tryd.underlying24 rfl sz24 rfl rfl rfl (by simp only [AV.len, length_bsN, List.length_set, List.length_replicate, length_ka6, length_kb6] <;> first | assumption | omega)) trivial ?_
  refine .q rfl (op_loadRow Tryd.underlying24 rfl sz24 rfl rfl rfl (by simp only [AV.len, length_bsN, List.length_set, List.length_replicate, length_ka6, length_kb6] <;> first | assumption | omega)) trivial ?_
  refine .q rfl (op_call (U := []) [] [] (cbase_ev e a ha) Tryd.func34 (by kernel_rfl) rfl rfl rfl (⟨⟨_, rfl, rfl, rfl⟩, trivial⟩) (⟨⟨_, _, rfl, rfl, rfl, rfl, id, rfl⟩, trivial⟩) (trivial) (⟨(fun h => by cases h), trivial⟩) rfl) trivial ?_
  refine .as (.aggB (bsN (tmV (usL a) 9) 32)) rfl ?_
  refine .q rfl (op_call (U := []) [] [] (cmult_ev e b (bsN (tmV (usL a) 9) 32) hb (length_bsN _ _)) Tryd.func61 (by kernel_rfl) rfl rfl rfl (⟨⟨_, rfl, rfl, rfl⟩, ⟨_, rfl, rfl, rfl⟩, trivial⟩) (⟨⟨_, _, rfl, rfl, rfl, rfl, id, rfl⟩, trivial⟩) (trivial) (⟨(fun h => by cases h), trivial⟩) rfl) trivial ?_
  refine .as (.tup [.aggB (bsN x 32), .bool (!decide (x = 0))]) (by show AV.tup [.aggB (bsN (tmV (usL b) (ofV (bsN (tmV (usL a) 9) 32))) 32), .bool (!decide (tmV (usL b) (ofV (bsN (tmV (usL a) 9) 32)) = 0))] = _; rw [← hx]) ?_
  refine .q rfl (op_move rfl) trivial ?_
  refine .q rfl (op_extract rfl rfl) trivial ?_
  refine .q rfl (op_extract rfl rfl) trivial ?_
  refine .a rfl (op_allocRow zero24 rel_zero24 rfl) trivial rfl rfl ?_
  refine .w rfl (op_storeRow sz24 rfl rfl rfl rfl rfl (by simp only [AV.len, length_bsN, List.length_set, List.length_replicate, length_ka6, length_kb6] <;> first | assumption | omega) (by simp only [AV.len, length_bsN, List.length_set, List.length_replicate, length_ka6, length_kb6] <;> first | assumption | omega)) trivial rfl rfl ?_
  refine .q rfl (op_assign rfl) trivial ?_
  refine .nil ?_
  show Ev _ _ _ _ _
  refine .seq ?_
  refine .region ?_
  refine .q (op_loadRow Tryd.underlying24 rfl sz24 rfl rfl rfl (by simp only [AV.len, length_bsN, List.length_set, List.length_replicate, length_ka6, length_kb6] <;> first | assumption | omega)) trivial rfl ?_
  refine .q (op_loadRow Tryd.underlying24 rfl sz24 rfl rfl rfl (by simp only [AV.len, length_bsN, List.length_set, List.length_replicate, length_ka6, length_kb6] <;> first | assumption | omega)) trivial rfl ?_
  refine .q (op_call (U := []) [] [] (cmult_ev e c (bsN x 32) hc (length_bsN _ _)) Tryd.func61 (by kernel_rfl) rfl rfl rfl (⟨⟨_, rfl, rfl, rfl⟩, ⟨_, rfl, rfl, rfl⟩, trivial⟩) (⟨⟨_, _, rfl, rfl, rfl, rfl, id, rfl⟩, trivial⟩) (trivial) (⟨(fun h => by cases h), trivial⟩) rfl) trivial rfl ?_
  refine .as (.tup [.aggB (bsN y 32), .bool (!decide (y = 0))]) (by show AV.tup [.aggB (bsN (tmV (usL c) (ofV (bsN x 32))) 32), .bool (!decide (tmV (usL c) (ofV (bsN x 32)) = 0))] = _; rw [← hy]) ?_
  refine .q (op_move rfl) trivial rfl ?_
  refine .q (op_extract rfl rfl) trivial rfl ?_
  refine .q (op_extract rfl rfl) trivial rfl ?_
  refine .a (op_allocRow zero24 rel_zero24 rfl) trivial rfl ?_
  refine .w (op_storeRow sz24 rfl rfl rfl rfl rfl (by simp only [AV.len, length_bsN, List.length_set, List.length_replicate, length_ka6, length_kb6] <;> first | assumption | omega) (by simp only [AV.len, length_bsN, List.length_set, List.length_replicate, length_ka6, length_kb6] <;> first | assumption | omega)) trivial rfl ?_
  refine .q (op_assign rfl) trivial rfl ?_
  refine .nil ?_
  show Ev _ _ _ _ _
  refine .seq ?_
  refine .drawn [[], [], [1], [0, 1, 2], [0, 1, 2, 3], [0, 1, 2, 3, 4], [0, 1, 2, 3, 4], [], [0, 1, 2, 3, 4, 5, 7], [0, 1, 2, 3, 4, 5, 6, 7, 8]] [0, 1, 2, 3, 7, 8] [8] (by kernel_rfl) (by kernel_rfl) rfl ?_
  show DK _ [0, 1, 2, 3, 4, 5, 6, 7, 8, 9] _ _ _
  refine .q rfl (op_loadRow Tryd.underlying24 rfl sz24 rfl rfl rfl (by simp only [AV.len, length_bsN, List.length_set, List.length_replicate, length_ka6, length_kb6] <;> first | assumption | omega)) trivial ?_
  refine .q rfl (op_loadRow Tryd.underlying24 rfl sz24 rfl rfl rfl (by simp only [AV.len, length_bsN, List.length_set, List.length_replicate, length_ka6, length_kb6] <;> first | assumption | omega)) trivial ?_
  refine .q rfl (op_call (U := []) [] [] (cbase_ev e c hc) Tryd.func34 (by kernel_rfl) rfl rfl rfl (⟨⟨_, rfl, rfl, rfl⟩, trivial⟩) (⟨⟨_, _, rfl, rfl, rfl, rfl, id, rfl⟩, trivial⟩) (trivial) (⟨(fun h => by cases h), trivial⟩) rfl) trivial ?_
  refine .as (.aggB (bsN (tmV (usL c) 9) 32)) rfl ?_
  refine .q rfl (op_call (U := []) [] [] (cmult_ev e a (bsN (tmV (usL c) 9) 32) ha (length_bsN _ _)) Tryd.func61 (by kernel_rfl) rfl rfl rfl (⟨⟨_, rfl, rfl, rfl⟩, ⟨_, rfl, rfl, rfl⟩, trivial⟩) (⟨⟨_, _, rfl, rfl, rfl, rfl, id, rfl⟩, trivial⟩) (trivial) (⟨(fun h => by cases h), trivial⟩) rfl) trivial ?_
  refine .as (.tup [.aggB (bsN z 32), .bool (!decide (z = 0))]) (by show AV.tup [.aggB (bsN (tmV (usL a) (ofV (bsN (tmV (usL c) 9) 32))) 32), .bool (!decide (tmV (usL a) (ofV (bsN (tmV (usL c) 9) 32)) = 0))] = _; rw [← hz]) ?_
  refine .q rfl (op_move rfl) trivial ?_
  refine .q rfl (op_extract rfl rfl) trivial ?_
  refine .q rfl (op_extract rfl rfl) trivial ?_
  refine .a rfl (op_allocRow zero24 rel_zero24 rfl) trivial rfl rfl ?_
  refine .w rfl (op_storeRow sz24 rfl rfl rfl rfl rfl (by simp only [AV.len, length_bsN, List.length_set, List.length_replicate, length_ka6, length_kb6] <;> first | assumption | omega) (by simp only [AV.len, length_bsN, List.length_set, List.length_replicate, length_ka6, length_kb6] <;> first | assumption | omega)) trivial rfl rfl ?_
  refine .q rfl (op_assign rfl) trivial ?_
  refine .nil ?_
  show Ev _ _ _ _ _
  refine .seq ?_
  refine .region ?_
  refine .q (op_loadRow Tryd.underlying24 rfl sz24 rfl rfl rfl (by simp only [AV.len, length_bsN, List.length_set, List.length_replicate, length_ka6, length_kb6] <;> first | assumption | omega)) trivial rfl ?_
  refine .q (op_loadRow Tryd.underlying24 rfl sz24 rfl rfl rfl (by simp only [AV.len, length_bsN, List.length_set, List.length_replicate, length_ka6, length_kb6] <;> first | assumption | omega)) trivial rfl ?_
  refine .q (op_call (U := []) [] [] (cmult_ev e b (bsN z 32) hb (length_bsN _ _)) Tryd.func61 (by kernel_rfl) rfl rfl rfl (⟨⟨_, rfl, rfl, rfl⟩, ⟨_, rfl, rfl, rfl⟩, trivial⟩) (⟨⟨_, _, rfl, rfl, rfl, rfl, id, rfl⟩, trivial⟩) (trivial) (⟨(fun h => by cases h), trivial⟩) rfl) trivial rfl ?_
  refine .as (.tup [.aggB (bsN w 32), .bool (!decide (w = 0))]) (by show AV.tup [.aggB (bsN (tmV (usL b) (ofV (bsN z 32))) 32), .bool (!decide (tmV (usL b) (ofV (bsN z 32)) = 0))] = _; rw [← hw]) ?_
  refine .q (op_move rfl) trivial rfl ?_
  refine .q (op_extract rfl rfl) trivial rfl ?_
  refine .q (op_extract rfl rfl) trivial rfl ?_
  refine .a (op_allocRow zero24 rel_zero24 rfl) trivial rfl ?_
  refine .w (op_storeRow sz24 rfl rfl rfl rfl rfl (by simp only [AV.len, length_bsN, List.length_set, List.length_replicate, length_ka6, length_kb6] <;> first | assumption | omega) (by simp only [AV.len, length_bsN, List.length_set, List.length_replicate, length_ka6, length_kb6] <;> first | assumption | omega)) trivial rfl ?_
  refine .q (op_assign rfl) trivial rfl ?_
  refine .nil ?_
  show Ev _ _ _ _ _
  refine .seq ?_
  refine .region ?_
  refine .q (op_loadRow Tryd.underlying24 rfl sz24 rfl rfl rfl (by simp only [AV.len, length_bsN, List.length_set, List.length_replicate, length_ka6, length_kb6] <;> first | assumption | omega)) trivial rfl ?_
  refine .q (op_loadRow Tryd.underlying24 rfl sz24 rfl rfl rfl (by simp only [AV.len, length_bsN, List.length_set, List.length_replicate, length_ka6, length_kb6] <;> first | assumption | omega)) trivial rfl ?_
  refine .q (op_eqRow8 (n := 32) (by kernel_rfl) Tryd.underlying24 Tryd.underlying5 inf5.sz rfl rfl (by simp only [AV.len, length_bsN, List.length_set, List.length_replicate, length_ka6, length_kb6] <;> first | assumption | omega) (by simp only [AV.len, length_bsN, List.length_set, List.length_replicate, length_ka6, length_kb6] <;> first | assumption | omega)) trivial rfl ?_
  refine .q (op_assign rfl) trivial rfl ?_
  refine .nil ?_
  show Ev _ _ _ _ _
  refine .ret ?_
  show RetOk _ _ _ _ _ _ _
  exact ret1v rfl (.inl rfl) rfl (congrArg AV.bool (by rw [three_eq a b c ha hb hc x y z w hx hy hz hw]; exact beq_self_eq_true _)) trivial
end Go.Proofs.YtmnhifagkcmhjaaDoor
