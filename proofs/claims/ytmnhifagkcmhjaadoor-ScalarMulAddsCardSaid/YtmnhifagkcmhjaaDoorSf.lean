/-
  The law ScalarMulAdds, walked over abstract values.
-/
import Derived.Test.YtmnhifagkcmhjaaDoorGN
namespace Go.Proofs.YtmnhifagkcmhjaaDoor
open Go.RowKit
set_option maxHeartbeats 1000000 in
set_option maxRecDepth 100000 in
theorem scalarMulAdds_ev (e : Nat) (x y z : List UInt8) (hx : x.length = 32) (hy : y.length = 32) (hz : z.length = 32) : Meets Tryd.prog 4 [.aggB x, .aggB y, .aggB z] (HO e) (.bool true) [] := by
  obtain ⟨R, hRR⟩ : ∃ R, bsN ((leN x 32 * leN y 32 + leN z 32) % scL) 32 = R := ⟨_, rfl⟩
  have hR : R.length = 32 := by rw [← hRR]; exact length_bsN _ _
  refine meets_of_ev (nt := 36) Tryd.func4 rfl rfl (Nat.le_of_ble_eq_true rfl) ?_
  refine .seq ?_
  refine .region ?_
  refine .a (op_boxRow rfl rfl) trivial rfl ?_
  refine .a (op_boxRow rfl rfl) trivial rfl ?_
  refine .a (op_boxRow rfl rfl) trivial rfl ?_
  refine .q (op_assign rfl) trivial rfl ?_
  refine .nil ?_
  show Ev _ _ _ _ _
  refine .seq ?_
  refine .seq ?_
  refine .region ?_
  refine .q (op_call (U := []) [] [] (awake7_ev e) Tryd.func17 (by kernel_rfl) rfl rfl rfl (trivial) (⟨⟨_, _, rfl, rfl, rfl, rfl, id, rfl⟩, trivial⟩) (trivial) (⟨(fun h => by cases h), trivial⟩) rfl) trivial rfl ?_
  refine .q (op_notB rfl) trivial rfl ?_
  refine .nil ?_
  show Ev _ _ _ _ _
  refine .cond_false rfl (rfl) ?_
  refine .skip ?_
  show Ev _ _ _ _ _
  refine .seq ?_
  refine .region ?_
  refine .q (op_loadRow Tryd.underlying24 rfl sz24 rfl rfl rfl (by first | omega | exact length_bsN _ _ | exact List.length_replicate | rfl | (simp only [AV.len, length_bsN, length_rowN, List.length_replicate]; done) | (simp only [AV.len]; omega))) trivial rfl ?_
  refine .q (op_loadRow Tryd.underlying24 rfl sz24 rfl rfl rfl (by first | omega | exact length_bsN _ _ | exact List.length_replicate | rfl | (simp only [AV.len, length_bsN, length_rowN, List.length_replicate]; done) | (simp only [AV.len]; omega))) trivial rfl ?_
  refine .q (op_loadRow Tryd.underlying24 rfl sz24 rfl rfl rfl (by first | omega | exact length_bsN _ _ | exact List.length_replicate | rfl | (simp only [AV.len, length_bsN, length_rowN, List.length_replicate]; done) | (simp only [AV.len]; omega))) trivial rfl ?_
  refine .q (op_call (U := []) [] [] (sMulAdd_ev e x y z hx hy hz) Tryd.func22 (by kernel_rfl) rfl rfl rfl (⟨⟨_, rfl, rfl, rfl⟩, ⟨_, rfl, rfl, rfl⟩, ⟨_, rfl, rfl, rfl⟩, trivial⟩) (⟨⟨_, _, rfl, rfl, rfl, rfl, id, rfl⟩, trivial⟩) (trivial) (⟨(fun h => by cases h), trivial⟩) rfl) trivial rfl ?_
  refine .as (.aggB R) (congrArg AV.aggB hRR) ?_
  refine .a (op_allocRow zero24 rel_zero24 rfl) trivial rfl ?_
  refine .w (op_storeRow sz24 rfl rfl rfl rfl rfl (by first | omega | exact length_bsN _ _ | exact List.length_replicate | rfl | (simp only [AV.len, length_bsN, length_rowN, List.length_replicate]; done) | (simp only [AV.len]; omega)) (by first | omega | exact length_bsN _ _ | exact List.length_replicate | rfl | (simp only [AV.len, length_bsN, length_rowN, List.length_replicate]; done) | (simp only [AV.len]; omega))) trivial rfl ?_
  refine .nil ?_
  show Ev _ _ _ _ _
  refine .seq ?_
  refine .drawn [[], [0], [], [2], [], [4], [], [6], [2, 3, 4, 5, 6, 7], [0, 1, 2, 3, 4, 5, 6, 7, 8], [0, 1, 2, 3, 4, 5, 6, 7, 8, 9], [0, 1, 2, 3, 4, 5, 6, 7, 8, 9, 10], [0, 1, 2, 3, 4, 5, 6, 7, 8, 9, 10, 11], [0, 1, 2, 3, 4, 5, 6, 7, 8, 9, 10, 11, 12], [0, 1, 2, 3, 4, 5, 6, 7, 8, 9, 10, 11, 12, 13], [0, 1, 2, 3, 4, 5, 6, 7, 8, 9, 10, 11, 12, 13, 14], [0, 1, 2, 3, 4, 5, 6, 7, 8, 9, 10, 11, 12, 13, 14], [0, 1, 2, 3, 4, 5, 6, 7, 8, 9, 10, 11, 12, 13, 14], [0, 1, 2, 3, 4, 5, 6, 7, 8, 9, 10, 11, 12, 13, 14, 15, 16, 17], [0, 1, 2, 3, 4, 5, 6, 7, 8, 9, 10, 11, 12, 13, 14], [0, 1, 2, 3, 4, 5, 6, 7, 8, 9, 10, 11, 12, 13, 14, 15, 16, 17, 18, 19], [0, 1, 2, 3, 4, 5, 6, 7, 8, 9, 10, 11, 12, 13, 14, 15, 16, 17, 18, 19, 20], [0, 1, 2, 3, 4, 5, 6, 7, 8, 9, 10, 11, 12, 13, 14, 15, 16, 17, 18, 19, 20, 21]] [0, 1, 2, 3, 4, 5, 6, 7, 8, 11, 12, 15, 16, 17, 18, 19] [] (by kernel_rfl) (by kernel_rfl) rfl ?_
  show DK _ [0, 1, 2, 3, 4, 5, 6, 7, 8, 9, 10, 11, 12, 13, 14, 15, 16, 17, 18, 19, 20, 21, 22] _ _ _
  refine .q rfl (ap_slice_arr_hi Tryd.underlying24 inf5.sz rfl rfl (by first | omega | exact length_bsN _ _ | exact List.length_replicate | rfl | (simp only [AV.len, length_bsN, length_rowN, List.length_replicate]; done) | (simp only [AV.len]; omega)) (by decide) rfl (by first | omega | exact length_bsN _ _ | exact List.length_replicate | rfl | (simp only [AV.len, length_bsN, length_rowN, List.length_replicate]; done) | (simp only [AV.len]; omega))) trivial ?_
  refine .q rfl (op_bytes_str Tryd.underlying26 Tryd.underlying5 Tryd.underlying9 rfl rfl rfl (by first | omega | exact length_bsN _ _ | exact List.length_replicate | rfl | (simp only [AV.len, length_bsN, length_rowN, List.length_replicate]; done) | (simp only [AV.len]; omega))) trivial ?_
  refine .as (.str (R)) (congrArg AV.str (take_32 (l := R) hR)) ?_
  refine .q rfl (ap_slice_arr_hi Tryd.underlying24 inf5.sz rfl rfl (by first | omega | exact length_bsN _ _ | exact List.length_replicate | rfl | (simp only [AV.len, length_bsN, length_rowN, List.length_replicate]; done) | (simp only [AV.len]; omega)) (by decide) rfl (by first | omega | exact length_bsN _ _ | exact List.length_replicate | rfl | (simp only [AV.len, length_bsN, length_rowN, List.length_replicate]; done) | (simp only [AV.len]; omega))) trivial ?_
  refine .q rfl (op_bytes_str Tryd.underlying26 Tryd.underlying5 Tryd.underlying9 rfl rfl rfl (by first | omega | exact length_bsN _ _ | exact List.length_replicate | rfl | (simp only [AV.len, length_bsN, length_rowN, List.length_replicate]; done) | (simp only [AV.len]; omega))) trivial ?_
  refine .as (.str (x)) (congrArg AV.str (take_32 (l := x) hx)) ?_
  refine .q rfl (ap_slice_arr_hi Tryd.underlying24 inf5.sz rfl rfl (by first | omega | exact length_bsN _ _ | exact List.length_replicate | rfl | (simp only [AV.len, length_bsN, length_rowN, List.length_replicate]; done) | (simp only [AV.len]; omega)) (by decide) rfl (by first | omega | exact length_bsN _ _ | exact List.length_replicate | rfl | (simp only [AV.len, length_bsN, length_rowN, List.length_replicate]; done) | (simp only [AV.len]; omega))) trivial ?_
  refine .q rfl (op_bytes_str Tryd.underlying26 Tryd.underlying5 Tryd.underlying9 rfl rfl rfl (by first | omega | exact length_bsN _ _ | exact List.length_replicate | rfl | (simp only [AV.len, length_bsN, length_rowN, List.length_replicate]; done) | (simp only [AV.len]; omega))) trivial ?_
  refine .as (.str (y)) (congrArg AV.str (take_32 (l := y) hy)) ?_
  refine .q rfl (ap_slice_arr_hi Tryd.underlying24 inf5.sz rfl rfl (by first | omega | exact length_bsN _ _ | exact List.length_replicate | rfl | (simp only [AV.len, length_bsN, length_rowN, List.length_replicate]; done) | (simp only [AV.len]; omega)) (by decide) rfl (by first | omega | exact length_bsN _ _ | exact List.length_replicate | rfl | (simp only [AV.len, length_bsN, length_rowN, List.length_replicate]; done) | (simp only [AV.len]; omega))) trivial ?_
  refine .q rfl (op_bytes_str Tryd.underlying26 Tryd.underlying5 Tryd.underlying9 rfl rfl rfl (by first | omega | exact length_bsN _ _ | exact List.length_replicate | rfl | (simp only [AV.len, length_bsN, length_rowN, List.length_replicate]; done) | (simp only [AV.len]; omega))) trivial ?_
  refine .as (.str (z)) (congrArg AV.str (take_32 (l := z) hz)) ?_
  refine .q rfl (op_call (U := []) [] [] (maddR x y z hx hy hz) Tryd.func23 (by kernel_rfl) rfl rfl rfl (⟨⟨_, rfl, rfl, rfl⟩, ⟨_, rfl, rfl, rfl⟩, ⟨_, rfl, rfl, rfl⟩, trivial⟩) (trivial) (trivial) (trivial) rfl) trivial ?_
  refine .as (.str R) (congrArg AV.str hRR) ?_
  refine .q rfl (op_eqS rfl rfl rfl) trivial ?_
  refine .as (.bool true) (congrArg AV.bool (beq_self_eq_true R)) ?_
  refine .q rfl (op_move rfl) trivial ?_
  refine .know (b' := true) (rfl) ?_
  refine .q rfl (op_loadRow Tryd.underlying24 rfl sz24 rfl rfl rfl (by first | omega | exact length_bsN _ _ | exact List.length_replicate | rfl | (simp only [AV.len, length_bsN, length_rowN, List.length_replicate]; done) | (simp only [AV.len]; omega))) ⟨_, rfl, rfl⟩ ?_
  refine .q rfl (op_call (U := []) [] [] (sFits_ev e R hR) Tryd.func21 (by kernel_rfl) rfl rfl rfl (⟨⟨_, rfl, rfl, rfl⟩, trivial⟩) (⟨⟨_, _, rfl, rfl, rfl, rfl, id, rfl⟩, trivial⟩) (trivial) (⟨(fun h => by cases h), trivial⟩) rfl) ⟨_, rfl, rfl⟩ ?_
  refine .as (.bool true) (congrArg AV.bool (by rw [← hRR]; exact red_fits _)) ?_
  refine .q rfl (op_pick_true rfl rfl rfl) trivial ?_
  refine .q rfl (op_move rfl) trivial ?_
  refine .know (b' := true) (rfl) ?_
  refine .q rfl (op_loadRow Tryd.underlying24 rfl sz24 rfl rfl rfl (by first | omega | exact length_bsN _ _ | exact List.length_replicate | rfl | (simp only [AV.len, length_bsN, length_rowN, List.length_replicate]; done) | (simp only [AV.len]; omega))) ⟨_, rfl, rfl⟩ ?_
  refine .q rfl (op_loadRow Tryd.underlying24 rfl sz24 rfl rfl rfl (by first | omega | exact length_bsN _ _ | exact List.length_replicate | rfl | (simp only [AV.len, length_bsN, length_rowN, List.length_replicate]; done) | (simp only [AV.len]; omega))) ⟨_, rfl, rfl⟩ ?_
  refine .q rfl (op_loadRow Tryd.underlying24 rfl sz24 rfl rfl rfl (by first | omega | exact length_bsN _ _ | exact List.length_replicate | rfl | (simp only [AV.len, length_bsN, length_rowN, List.length_replicate]; done) | (simp only [AV.len]; omega))) ⟨_, rfl, rfl⟩ ?_
  refine .q rfl (op_call (U := []) [] [] (sMulAdd_ev e y x z hy hx hz) Tryd.func22 (by kernel_rfl) rfl rfl rfl (⟨⟨_, rfl, rfl, rfl⟩, ⟨_, rfl, rfl, rfl⟩, ⟨_, rfl, rfl, rfl⟩, trivial⟩) (⟨⟨_, _, rfl, rfl, rfl, rfl, id, rfl⟩, trivial⟩) (trivial) (⟨(fun h => by cases h), trivial⟩) rfl) ⟨_, rfl, rfl⟩ ?_
  refine .q rfl (op_loadRow Tryd.underlying24 rfl sz24 rfl rfl rfl (by first | omega | exact length_bsN _ _ | exact List.length_replicate | rfl | (simp only [AV.len, length_bsN, length_rowN, List.length_replicate]; done) | (simp only [AV.len]; omega))) ⟨_, rfl, rfl⟩ ?_
  refine .q rfl (op_eqRow8 (n := 32) (by kernel_rfl) Tryd.underlying24 Tryd.underlying5 inf5.sz rfl rfl (by first | omega | exact length_bsN _ _ | exact List.length_replicate | rfl | (simp only [AV.len, length_bsN, length_rowN, List.length_replicate]; done) | (simp only [AV.len]; omega)) (by first | omega | exact length_bsN _ _ | exact List.length_replicate | rfl | (simp only [AV.len, length_bsN, length_rowN, List.length_replicate]; done) | (simp only [AV.len]; omega))) ⟨_, rfl, rfl⟩ ?_
  refine .as (.bool true) (congrArg AV.bool (by rw [← hRR]; exact madd_comm _ _ _)) ?_
  refine .q rfl (op_pick_true rfl rfl rfl) trivial ?_
  refine .q rfl (op_assign rfl) trivial ?_
  refine .nil ?_
  show Ev _ _ _ _ _
  refine .ret ?_
  show RetOk _ _ _ _ _ _ _
  exact ret1v rfl (.inl rfl) rfl rfl trivial
end Go.Proofs.YtmnhifagkcmhjaaDoor
