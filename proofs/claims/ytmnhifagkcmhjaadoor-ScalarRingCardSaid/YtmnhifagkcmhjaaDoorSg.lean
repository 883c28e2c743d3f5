/-
  The law ScalarRing, walked over abstract values.
-/
import Derived.Test.YtmnhifagkcmhjaaDoorGN
namespace Go.Proofs.YtmnhifagkcmhjaaDoor
open Go.RowKit
set_option maxHeartbeats 1000000 in
set_option maxRecDepth 100000 in
theorem scalarRing_ev (e : Nat) (x y z : List UInt8) (hx : x.length = 32) (hy : y.length = 32) (hz : z.length = 32) : Meets Tryd.prog 6 [.aggB x, .aggB y, .aggB z] (HO e) (.bool true) [] := by
  obtain ⟨BC, eBC⟩ : ∃ R, bsN ((leN y 32 * leN (rowN 1) 32 + leN z 32) % scL) 32 = R := ⟨_, rfl⟩
  have hBC : BC.length = 32 := by rw [← eBC]; exact length_bsN _ _
  obtain ⟨AC, eAC⟩ : ∃ R, bsN ((leN x 32 * leN z 32 + leN (rowN 0) 32) % scL) 32 = R := ⟨_, rfl⟩
  have hAC : AC.length = 32 := by rw [← eAC]; exact length_bsN _ _
  refine meets_of_ev (nt := 40) Tryd.func6 rfl rfl (Nat.le_of_ble_eq_true rfl) ?_
  refine .seq ?_
  refine .region ?_
  refine .a (op_boxRow rfl rfl) trivial rfl ?_
  refine .a (op_boxRow rfl rfl) trivial rfl ?_
  refine .a (op_boxRow rfl rfl) trivial rfl ?_
  refine .q (op_assign rfl) trivial rfl ?_
  refine .nil ?_
  show Ev _ _ _ _ _
  refine .seq ?_
  refine .seq ?_
  refine .region ?_
  refine .q (op_call (U := []) [] [] (awake7_ev e) Tryd.func17 (by kernel_rfl) rfl rfl rfl (trivial) (⟨⟨_, _, rfl, rfl, rfl, rfl, id, rfl⟩, trivial⟩) (trivial) (⟨(fun h => by cases h), trivial⟩) rfl) trivial rfl ?_
  refine .q (op_notB rfl) trivial rfl ?_
  refine .nil ?_
  show Ev _ _ _ _ _
  refine .cond_false rfl (rfl) ?_
  refine .skip ?_
  show Ev _ _ _ _ _
  refine .seq ?_
  refine .region ?_
  refine .q (op_buildArr (us := [(0, _)]) Tryd.underlying24 inf5.sz zero24 rel_zero24 rfl (by decide) ⟨rfl, rfl, rfl, trivial⟩ rfl) trivial rfl ?_
  refine .as (.aggB (rowN 1)) rfl ?_
  refine .a (op_allocRow zero24 rel_zero24 rfl) trivial rfl ?_
  refine .w (op_storeRow sz24 rfl rfl rfl rfl rfl (by first | omega | exact length_bsN _ _ | exact List.length_replicate | rfl | (simp only [AV.len, length_bsN, length_rowN, List.length_replicate]; done) | (simp only [AV.len]; omega)) (by first | omega | exact length_bsN _ _ | exact List.length_replicate | rfl | (simp only [AV.len, length_bsN, length_rowN, List.length_replicate]; done) | (simp only [AV.len]; omega))) trivial rfl ?_
  refine .nil ?_
  show Ev _ _ _ _ _
  refine .seq ?_
  refine .region ?_
  refine .q (op_loadRow Tryd.underlying24 rfl sz24 rfl rfl rfl (by first | omega | exact length_bsN _ _ | exact List.length_replicate | rfl | (simp only [AV.len, length_bsN, length_rowN, List.length_replicate]; done) | (simp only [AV.len]; omega))) trivial rfl ?_
  refine .q (op_loadRow Tryd.underlying24 rfl sz24 rfl rfl rfl (by first | omega | exact length_bsN _ _ | exact List.length_replicate | rfl | (simp only [AV.len, length_bsN, length_rowN, List.length_replicate]; done) | (simp only [AV.len]; omega))) trivial rfl ?_
  refine .q (op_loadRow Tryd.underlying24 rfl sz24 rfl rfl rfl (by first | omega | exact length_bsN _ _ | exact List.length_replicate | rfl | (simp only [AV.len, length_bsN, length_rowN, List.length_replicate]; done) | (simp only [AV.len]; omega))) trivial rfl ?_
  refine .q (op_call (U := []) [] [] (sMulAdd_ev e y (rowN 1) z hy rfl hz) Tryd.func22 (by kernel_rfl) rfl rfl rfl (⟨⟨_, rfl, rfl, rfl⟩, ⟨_, rfl, rfl, rfl⟩, ⟨_, rfl, rfl, rfl⟩, trivial⟩) (⟨⟨_, _, rfl, rfl, rfl, rfl, id, rfl⟩, trivial⟩) (trivial) (⟨(fun h => by cases h), trivial⟩) rfl) trivial rfl ?_
  refine .as (.aggB BC) (congrArg AV.aggB eBC) ?_
  refine .a (op_allocRow zero24 rel_zero24 rfl) trivial rfl ?_
  refine .w (op_storeRow sz24 rfl rfl rfl rfl rfl (by first | omega | exact length_bsN _ _ | exact List.length_replicate | rfl | (simp only [AV.len, length_bsN, length_rowN, List.length_replicate]; done) | (simp only [AV.len]; omega)) (by first | omega | exact length_bsN _ _ | exact List.length_replicate | rfl | (simp only [AV.len, length_bsN, length_rowN, List.length_replicate]; done) | (simp only [AV.len]; omega))) trivial rfl ?_
  refine .nil ?_
  show Ev _ _ _ _ _
  refine .seq ?_
  refine .region ?_
  refine .q (op_loadRow Tryd.underlying24 rfl sz24 rfl rfl rfl (by first | omega | exact length_bsN _ _ | exact List.length_replicate | rfl | (simp only [AV.len, length_bsN, length_rowN, List.length_replicate]; done) | (simp only [AV.len]; omega))) trivial rfl ?_
  refine .q (op_loadRow Tryd.underlying24 rfl sz24 rfl rfl rfl (by first | omega | exact length_bsN _ _ | exact List.length_replicate | rfl | (simp only [AV.len, length_bsN, length_rowN, List.length_replicate]; done) | (simp only [AV.len]; omega))) trivial rfl ?_
  refine .q (op_buildArr (us := []) Tryd.underlying24 inf5.sz zero24 rel_zero24 rfl (by decide) trivial rfl) trivial rfl ?_
  refine .as (.aggB (rowN 0)) rfl ?_
  refine .q (op_call (U := []) [] [] (sMulAdd_ev e x z (rowN 0) hx hz rfl) Tryd.func22 (by kernel_rfl) rfl rfl rfl (⟨⟨_, rfl, rfl, rfl⟩, ⟨_, rfl, rfl, rfl⟩, ⟨_, rfl, rfl, rfl⟩, trivial⟩) (⟨⟨_, _, rfl, rfl, rfl, rfl, id, rfl⟩, trivial⟩) (trivial) (⟨(fun h => by cases h), trivial⟩) rfl) trivial rfl ?_
  refine .as (.aggB AC) (congrArg AV.aggB eAC) ?_
  refine .a (op_allocRow zero24 rel_zero24 rfl) trivial rfl ?_
  refine .w (op_storeRow sz24 rfl rfl rfl rfl rfl (by first | omega | exact length_bsN _ _ | exact List.length_replicate | rfl | (simp only [AV.len, length_bsN, length_rowN, List.length_replicate]; done) | (simp only [AV.len]; omega)) (by first | omega | exact length_bsN _ _ | exact List.length_replicate | rfl | (simp only [AV.len, length_bsN, length_rowN, List.length_replicate]; done) | (simp only [AV.len]; omega))) trivial rfl ?_
  refine .nil ?_
  show Ev _ _ _ _ _
  refine .seq ?_
  refine .drawn [[], [], [], [0, 1, 2], [], [], [], [0, 1, 2, 3, 4, 5, 6], [0, 1, 2, 3, 4, 5, 6, 7], [0, 1, 2, 3, 4, 5, 6, 7, 8], [0, 1, 2, 3, 4, 5, 6, 7, 8, 9], [0, 1, 2, 3, 4, 5, 6, 7, 8, 9], [0, 1, 2, 3, 4, 5, 6, 7, 8, 9], [0, 1, 2, 3, 4, 5, 6, 7, 8, 9, 10, 11, 12], [0, 1, 2, 3, 4, 5, 6, 7, 8, 9], [0, 1, 2, 3, 4, 5, 6, 7, 8, 9, 14], [0, 1, 2, 3, 4, 5, 6, 7, 8, 9, 10, 11, 12, 13, 14, 15], [0, 1, 2, 3, 4, 5, 6, 7, 8, 9, 10, 11, 12, 13, 14, 15, 16], [0, 1, 2, 3, 4, 5, 6, 7, 8, 9, 10, 11, 12, 13, 14, 15, 16, 17], [0, 1, 2, 3, 4, 5, 6, 7, 8, 9, 10, 11, 12, 13, 14, 15, 16, 17, 18]] [0, 1, 3, 4, 5, 6, 7, 10, 11, 13, 14, 15, 16] [] (by kernel_rfl) (by kernel_rfl) rfl ?_
  show DK _ [0, 1, 2, 3, 4, 5, 6, 7, 8, 9, 10, 11, 12, 13, 14, 15, 16, 17, 18, 19] _ _ _
  refine .q rfl (op_loadRow Tryd.underlying24 rfl sz24 rfl rfl rfl (by first | omega | exact length_bsN _ _ | exact List.length_replicate | rfl | (simp only [AV.len, length_bsN, length_rowN, List.length_replicate]; done) | (simp only [AV.len]; omega))) trivial ?_
  refine .q rfl (op_loadRow Tryd.underlying24 rfl sz24 rfl rfl rfl (by first | omega | exact length_bsN _ _ | exact List.length_replicate | rfl | (simp only [AV.len, length_bsN, length_rowN, List.length_replicate]; done) | (simp only [AV.len]; omega))) trivial ?_
  refine .q rfl (op_buildArr (us := []) Tryd.underlying24 inf5.sz zero24 rel_zero24 rfl (by decide) trivial rfl) trivial ?_
  refine .as (.aggB (rowN 0)) rfl ?_
  refine .q rfl (op_call (U := []) [] [] (sMulAdd_ev e x BC (rowN 0) hx hBC rfl) Tryd.func22 (by kernel_rfl) rfl rfl rfl (⟨⟨_, rfl, rfl, rfl⟩, ⟨_, rfl, rfl, rfl⟩, ⟨_, rfl, rfl, rfl⟩, trivial⟩) (⟨⟨_, _, rfl, rfl, rfl, rfl, id, rfl⟩, trivial⟩) (trivial) (⟨(fun h => by cases h), trivial⟩) rfl) trivial ?_
  refine .q rfl (op_loadRow Tryd.underlying24 rfl sz24 rfl rfl rfl (by first | omega | exact length_bsN _ _ | exact List.length_replicate | rfl | (simp only [AV.len, length_bsN, length_rowN, List.length_replicate]; done) | (simp only [AV.len]; omega))) trivial ?_
  refine .q rfl (op_loadRow Tryd.underlying24 rfl sz24 rfl rfl rfl (by first | omega | exact length_bsN _ _ | exact List.length_replicate | rfl | (simp only [AV.len, length_bsN, length_rowN, List.length_replicate]; done) | (simp only [AV.len]; omega))) trivial ?_
  refine .q rfl (op_loadRow Tryd.underlying24 rfl sz24 rfl rfl rfl (by first | omega | exact length_bsN _ _ | exact List.length_replicate | rfl | (simp only [AV.len, length_bsN, length_rowN, List.length_replicate]; done) | (simp only [AV.len]; omega))) trivial ?_
  refine .q rfl (op_call (U := []) [] [] (sMulAdd_ev e x y AC hx hy hAC) Tryd.func22 (by kernel_rfl) rfl rfl rfl (⟨⟨_, rfl, rfl, rfl⟩, ⟨_, rfl, rfl, rfl⟩, ⟨_, rfl, rfl, rfl⟩, trivial⟩) (⟨⟨_, _, rfl, rfl, rfl, rfl, id, rfl⟩, trivial⟩) (trivial) (⟨(fun h => by cases h), trivial⟩) rfl) trivial ?_
  refine .q rfl (op_eqRow8 (n := 32) (by kernel_rfl) Tryd.underlying24 Tryd.underlying5 inf5.sz rfl rfl (by first | omega | exact length_bsN _ _ | exact List.length_replicate | rfl | (simp only [AV.len, length_bsN, length_rowN, List.length_replicate]; done) | (simp only [AV.len]; omega)) (by first | omega | exact length_bsN _ _ | exact List.length_replicate | rfl | (simp only [AV.len, length_bsN, length_rowN, List.length_replicate]; done) | (simp only [AV.len]; omega))) trivial ?_
  refine .as (.bool true) (congrArg AV.bool (by rw [← eBC, ← eAC]; exact ring7a _ _ _)) ?_
  refine .q rfl (op_move rfl) trivial ?_
  refine .know (b' := true) (rfl) ?_
  refine .q rfl (op_loadRow Tryd.underlying24 rfl sz24 rfl rfl rfl (by first | omega | exact length_bsN _ _ | exact List.length_replicate | rfl | (simp only [AV.len, length_bsN, length_rowN, List.length_replicate]; done) | (simp only [AV.len]; omega))) ⟨_, rfl, rfl⟩ ?_
  refine .q rfl (op_loadRow Tryd.underlying24 rfl sz24 rfl rfl rfl (by first | omega | exact length_bsN _ _ | exact List.length_replicate | rfl | (simp only [AV.len, length_bsN, length_rowN, List.length_replicate]; done) | (simp only [AV.len]; omega))) ⟨_, rfl, rfl⟩ ?_
  refine .q rfl (op_buildArr (us := []) Tryd.underlying24 inf5.sz zero24 rel_zero24 rfl (by decide) trivial rfl) ⟨_, rfl, rfl⟩ ?_
  refine .as (.aggB (rowN 0)) rfl ?_
  refine .q rfl (op_call (U := []) [] [] (sMulAdd_ev e x (rowN 1) (rowN 0) hx rfl rfl) Tryd.func22 (by kernel_rfl) rfl rfl rfl (⟨⟨_, rfl, rfl, rfl⟩, ⟨_, rfl, rfl, rfl⟩, ⟨_, rfl, rfl, rfl⟩, trivial⟩) (⟨⟨_, _, rfl, rfl, rfl, rfl, id, rfl⟩, trivial⟩) (trivial) (⟨(fun h => by cases h), trivial⟩) rfl) ⟨_, rfl, rfl⟩ ?_
  refine .q rfl (ap_slice_arr_hi Tryd.underlying24 inf5.sz rfl rfl (by first | omega | exact length_bsN _ _ | exact List.length_replicate | rfl | (simp only [AV.len, length_bsN, length_rowN, List.length_replicate]; done) | (simp only [AV.len]; omega)) (by decide) rfl (by first | omega | exact length_bsN _ _ | exact List.length_replicate | rfl | (simp only [AV.len, length_bsN, length_rowN, List.length_replicate]; done) | (simp only [AV.len]; omega))) ⟨_, rfl, rfl⟩ ?_
  refine .q rfl (op_bytes_str Tryd.underlying26 Tryd.underlying5 Tryd.underlying9 rfl rfl rfl (by first | omega | exact length_bsN _ _ | exact List.length_replicate | rfl | (simp only [AV.len, length_bsN, length_rowN, List.length_replicate]; done) | (simp only [AV.len]; omega))) ⟨_, rfl, rfl⟩ ?_
  refine .as (.str (x)) (congrArg AV.str (take_32 (l := x) hx)) ?_
  refine .q rfl (op_call (U := []) [] [] (sReduce_ev e x (by omega)) Tryd.func19 (by kernel_rfl) rfl rfl rfl (⟨⟨_, rfl, rfl, rfl⟩, trivial⟩) (⟨⟨_, _, rfl, rfl, rfl, rfl, id, rfl⟩, trivial⟩) (trivial) (⟨(fun h => by cases h), trivial⟩) rfl) ⟨_, rfl, rfl⟩ ?_
  refine .q rfl (op_eqRow8 (n := 32) (by kernel_rfl) Tryd.underlying24 Tryd.underlying5 inf5.sz rfl rfl (by first | omega | exact length_bsN _ _ | exact List.length_replicate | rfl | (simp only [AV.len, length_bsN, length_rowN, List.length_replicate]; done) | (simp only [AV.len]; omega)) (by first | omega | exact length_bsN _ _ | exact List.length_replicate | rfl | (simp only [AV.len, length_bsN, length_rowN, List.length_replicate]; done) | (simp only [AV.len]; omega))) ⟨_, rfl, rfl⟩ ?_
  refine .as (.bool true) (congrArg AV.bool (ring7b x hx)) ?_
  refine .q rfl (op_pick_true rfl rfl rfl) trivial ?_
  refine .q rfl (op_assign rfl) trivial ?_
  refine .nil ?_
  show Ev _ _ _ _ _
  refine .ret ?_
  show RetOk _ _ _ _ _ _ _
  exact ret1v rfl (.inl rfl) rfl rfl trivial
end Go.Proofs.YtmnhifagkcmhjaaDoor
