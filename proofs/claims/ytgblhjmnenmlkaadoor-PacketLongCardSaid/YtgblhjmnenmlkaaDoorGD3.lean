/-
  Texts of this claim.
-/
import Derived.Test.YtgblhjmnenmlkaaDoorGD2
import Derived.Test.YtgblhjmnenmlkaaDoorGK
namespace Go.Proofs.YtgblhjmnenmlkaaDoor
open Go.RowKit
set_option maxHeartbeats 1000000 in
set_option maxRecDepth 100000 in
theorem long_t_big (eo : Nat → Nat × Nat) (hd : ∀ i j, i < 20 → j < 20 → i ≠ j → eo i ≠ eo j) (e : Nat) (n : Int) (N : Nat) (hN : 32760 + n % 16 = (N : Int)) (h : 32768 < N) : Meets Tryd.prog 8 [.i64 n, .bool true] [(21, some ⟨.aggI qsTab, e, false⟩), (2, some ⟨.agg [.err 192 (1) (offE eo (1))], errT, false⟩), (0, some ⟨.agg [.err 192 (2) (offE eo (2))], errT, false⟩), (3, some ⟨.agg [.err 192 (3) (offE eo (3))], errT, false⟩), (4, some ⟨.agg [.err 192 (4) (offE eo (4))], errT, false⟩), (1, some ⟨.agg [.err 192 (5) (offE eo (5))], errT, false⟩), (5, some ⟨.agg [.err 192 (6) (offE eo (6))], errT, false⟩), (6, some ⟨.agg [.err 192 (7) (offE eo (7))], errT, false⟩), (7, some ⟨.agg [.err 192 (8) (offE eo (8))], errT, false⟩), (8, some ⟨.agg [.err 192 (9) (offE eo (9))], errT, false⟩), (9, some ⟨.agg [.err 192 (10) (offE eo (10))], errT, false⟩), (10, some ⟨.agg [.err 192 (11) (offE eo (11))], errT, false⟩), (11, some ⟨.agg [.err 192 (12) (offE eo (12))], errT, false⟩), (12, some ⟨.agg [.err 192 (13) (offE eo (13))], errT, false⟩), (13, some ⟨.agg [.err 192 (14) (offE eo (14))], errT, false⟩), (14, some ⟨.agg [.err 192 (15) (offE eo (15))], errT, false⟩), (15, some ⟨.agg [.err 192 (16) (offE eo (16))], errT, false⟩), (16, some ⟨.agg [.err 192 (17) (offE eo (17))], errT, false⟩), (17, some ⟨.agg [.err 192 (18) (offE eo (18))], errT, false⟩), (18, some ⟨.agg [.err 192 (19) (offE eo (19))], errT, false⟩), (19, some ⟨.agg [.err 192 (20) (offE eo (20))], errT, false⟩), (401, some ⟨.agg [], errT, false⟩), (402, some ⟨.agg [], errT, false⟩), (403, some ⟨.agg [], errT, false⟩), (404, some ⟨.agg [], errT, false⟩), (405, some ⟨.agg [], errT, false⟩), (406, some ⟨.agg [], errT, false⟩), (407, some ⟨.agg [], errT, false⟩), (408, some ⟨.agg [], errT, false⟩), (409, some ⟨.agg [], errT, false⟩), (410, some ⟨.agg [], errT, false⟩), (411, some ⟨.agg [], errT, false⟩), (412, some ⟨.agg [], errT, false⟩), (413, some ⟨.agg [], errT, false⟩), (414, some ⟨.agg [], errT, false⟩), (415, some ⟨.agg [], errT, false⟩), (416, some ⟨.agg [], errT, false⟩), (417, some ⟨.agg [], errT, false⟩), (418, some ⟨.agg [], errT, false⟩), (419, some ⟨.agg [], errT, false⟩), (420, some ⟨.agg [], errT, false⟩)] (.bool true) [] := by
  refine meets_of_ev (nt := 66) Tryd.func8 rfl rfl (Nat.le_of_ble_eq_true rfl) ?_
  refine .seq ?_
  refine .region ?_
  refine .q (op_assign rfl) trivial rfl ?_
  refine .nil ?_
  show Ev _ _ _ _ _
  refine .seq ?_
  refine .seq ?_
  refine .region ?_
  refine .q (op_call (U := []) [] [] (awake12_ev e eo) Tryd.func31 (by kernel_rfl) rfl rfl rfl (trivial) (⟨⟨_, _, rfl, rfl, rfl, rfl, (fun h => by cases h), rfl⟩, ⟨_, _, rfl, rfl, rfl, rfl, (fun h => by cases h), rfl⟩, ⟨_, _, rfl, rfl, rfl, rfl, (fun h => by cases h), rfl⟩, ⟨_, _, rfl, rfl, rfl, rfl, (fun h => by cases h), rfl⟩, ⟨_, _, rfl, rfl, rfl, rfl, (fun h => by cases h), rfl⟩, trivial⟩) (trivial) (⟨(fun h => by cases h), (fun h => by cases h), (fun h => by cases h), (fun h => by cases h), (fun h => by cases h), trivial⟩) rfl) trivial rfl ?_
  refine .q (op_notB rfl) trivial rfl ?_
  refine .nil ?_
  show Ev _ _ _ _ _
  refine .cond_false rfl (rfl) ?_
  refine .skip ?_
  show Ev _ _ _ _ _
  refine .seq ?_
  refine .region ?_
  refine .q (op_move rfl) trivial rfl ?_
  refine .q (op_maskI (m := 15) rfl rfl (.inr rfl)) trivial rfl ?_
  refine .q (op_addI rfl rfl ⟨by first | omega | (simp only [AV.len]; omega) | (simp only [AV.len, List.length_set]; omega) | assumption | (simp [AV.len]; done), by first | omega | (simp only [AV.len]; omega) | (simp only [AV.len, List.length_set]; omega) | assumption | (simp [AV.len]; done)⟩) trivial rfl ?_
  refine .as (.i64 ((N : Nat) : Int)) (congrArg AV.i64 hN) ?_
  refine .q (op_assign rfl) trivial rfl ?_
  refine .nil ?_
  show Ev _ _ _ _ _
  refine .seq ?_
  refine .region ?_
  refine .a (op_allocRow zero64 rel_zero64 rfl) trivial rfl ?_
  refine .nil ?_
  show Ev _ _ _ _ _
  refine .seq ?_
  refine .region ?_
  refine .a (op_allocRow zero66 (rel_zero66 eo) rfl) trivial rfl ?_
  refine .nil ?_
  show Ev _ _ _ _ _
  refine .seq ?_
  refine .seq ?_
  refine .region ?_
  refine .q (op_move rfl) trivial rfl ?_
  refine .nil ?_
  show Ev _ _ _ _ _
  refine .cond_true rfl (rfl) ?_
  refine .seq ?_
  refine .region ?_
  refine .q (op_buildArr (us := [(0, _)]) Tryd.underlying22 inf5.sz zero22 rel_zero22 rfl (by decide) ⟨rfl, rfl, rfl, trivial⟩ rfl) trivial rfl ?_
  refine .as (.aggB (1 :: List.replicate 31 (0 : UInt8))) rfl ?_
  refine .a (op_call (U := [(1000, some ⟨dC true (1 :: List.replicate 31 (0 : UInt8)) 0 [], 64, true⟩)]) [(500, 1000)] [] (wseal_ev false (List.replicate 32 (0 : UInt8)) (1 :: List.replicate 31 (0 : UInt8)) rfl 0) Tryd.func32 (by kernel_rfl) rfl rfl rfl (⟨⟨_, rfl, rfl, rfl⟩, ⟨_, rfl, rfl, rfl⟩, trivial⟩) (⟨⟨_, _, rfl, rfl, rfl, rfl, id, rfl⟩, trivial⟩) (⟨⟨500, _, rfl, rfl, rfl, rfl, .inr ⟨rfl, _, rfl, rfl⟩⟩, trivial⟩) (⟨(fun _ => ⟨1000, _, rfl, rfl⟩), trivial⟩) rfl) trivial rfl ?_
  refine .nil ?_
  show Ev _ _ _ _ _
  refine .region ?_
  refine .q (op_buildArr (us := [(0, _)]) Tryd.underlying22 inf5.sz zero22 rel_zero22 rfl (by decide) ⟨rfl, rfl, rfl, trivial⟩ rfl) trivial rfl ?_
  refine .as (.aggB (1 :: List.replicate 31 (0 : UInt8))) rfl ?_
  refine .a (op_call (U := [(1008, some ⟨dC true (1 :: List.replicate 31 (0 : UInt8)) 0 [.nilsl, .err 192 (0) (offE eo (0))], 66, true⟩)]) [(500, 1008)] [] (ropen_ev12 false (List.replicate 32 (0 : UInt8)) (1 :: List.replicate 31 (0 : UInt8)) rfl 0 eo) Tryd.func33 (by kernel_rfl) rfl rfl rfl (⟨⟨_, rfl, rfl, rfl⟩, ⟨_, rfl, rfl, rfl⟩, trivial⟩) (⟨⟨_, _, rfl, rfl, rfl, rfl, id, rfl⟩, trivial⟩) (⟨⟨500, _, rfl, rfl, rfl, rfl, .inr ⟨rfl, _, rfl, rfl⟩⟩, trivial⟩) (⟨(fun _ => ⟨1008, _, rfl, rfl⟩), trivial⟩) rfl) trivial rfl ?_
  refine .nil ?_
  show Ev _ _ _ _ _
  refine .seq ?_
  refine .region ?_
  refine .q (op_move rfl) trivial rfl ?_
  refine .a (ap_make (n := N) (c := .aggB (zP N)) Tryd.underlying23 inf5 rfl rfl rfl rfl (by omega) (rel_zero5) rfl (by simp [AV.list, AV.parts, zP])) trivial rfl ?_
  refine .q (op_bytes_str Tryd.underlying23 Tryd.underlying5 Tryd.underlying9 rfl rfl rfl (by rw [length_zP]; omega)) trivial rfl ?_
  refine .as (.str (zP N)) (by rw [List.drop_zero, List.take_of_length_le (by rw [length_zP]; exact Nat.le_refl _)]) ?_
  refine .q (op_assign rfl) trivial rfl ?_
  refine .nil ?_
  show Ev _ _ _ _ _
  refine .seq ?_
  refine .region ?_
  refine .q (op_move rfl) trivial rfl ?_
  refine .q (op_call (U := []) [(500, 1000)] [] (pack_big true (1 :: List.replicate 31 (0 : UInt8)) 0 (zP N) (by rw [length_zP]; omega) (by rw [length_zP]; omega) eo) Tryd.func34 (by kernel_rfl) rfl rfl rfl (⟨⟨_, rfl, rfl, rfl⟩, ⟨_, rfl, rfl, rfl⟩, trivial⟩) (⟨⟨_, _, rfl, rfl, rfl, rfl, (fun h => by cases h), rfl⟩, ⟨_, _, rfl, rfl, rfl, rfl, (fun h => by cases h), rfl⟩, trivial⟩) (trivial) (⟨(fun h => by cases h), (fun h => by cases h), trivial⟩) rfl) trivial rfl ?_
  refine .q (op_move rfl) trivial rfl ?_
  refine .q (op_extract rfl rfl) trivial rfl ?_
  refine .q (op_extract rfl rfl) trivial rfl ?_
  refine .q (op_assign rfl) trivial rfl ?_
  refine .q (op_assign rfl) trivial rfl ?_
  refine .nil ?_
  show Ev _ _ _ _ _
  refine .seq ?_
  refine .seq ?_
  refine .region ?_
  refine .q (op_move rfl) trivial rfl ?_
  refine .q (op_cmpI rfl rfl rfl) trivial rfl ?_
  refine .nil ?_
  show Ev _ _ _ _ _
  refine .cond_true rfl (decide_eq_true (by omega)) ?_
  refine .seq ?_
  refine .region ?_
  refine .q (op_move rfl) trivial rfl ?_
  refine .q (op_eqS rfl rfl rfl) trivial rfl ?_
  refine .q (op_move rfl) trivial rfl ?_
  refine .know (b' := true) (rfl) ?_
  refine .q (op_move rfl) ⟨_, rfl, rfl⟩ rfl ?_
  refine .q (op_call (U := []) [] [] (code_4 eo hd) Tryd.func15 (by kernel_rfl) rfl rfl rfl (⟨⟨_, rfl, rfl, rfl⟩, trivial⟩) (⟨⟨_, _, rfl, rfl, rfl, rfl, (fun h => by cases h), rfl⟩, ⟨_, _, rfl, rfl, rfl, rfl, (fun h => by cases h), rfl⟩, ⟨_, _, rfl, rfl, rfl, rfl, (fun h => by cases h), rfl⟩, ⟨_, _, rfl, rfl, rfl, rfl, (fun h => by cases h), rfl⟩, ⟨_, _, rfl, rfl, rfl, rfl, (fun h => by cases h), rfl⟩, ⟨_, _, rfl, rfl, rfl, rfl, (fun h => by cases h), rfl⟩, ⟨_, _, rfl, rfl, rfl, rfl, (fun h => by cases h), rfl⟩, ⟨_, _, rfl, rfl, rfl, rfl, (fun h => by cases h), rfl⟩, ⟨_, _, rfl, rfl, rfl, rfl, (fun h => by cases h), rfl⟩, ⟨_, _, rfl, rfl, rfl, rfl, (fun h => by cases h), rfl⟩, ⟨_, _, rfl, rfl, rfl, rfl, (fun h => by cases h), rfl⟩, ⟨_, _, rfl, rfl, rfl, rfl, (fun h => by cases h), rfl⟩, ⟨_, _, rfl, rfl, rfl, rfl, (fun h => by cases h), rfl⟩, ⟨_, _, rfl, rfl, rfl, rfl, (fun h => by cases h), rfl⟩, ⟨_, _, rfl, rfl, rfl, rfl, (fun h => by cases h), rfl⟩, ⟨_, _, rfl, rfl, rfl, rfl, (fun h => by cases h), rfl⟩, ⟨_, _, rfl, rfl, rfl, rfl, (fun h => by cases h), rfl⟩, ⟨_, _, rfl, rfl, rfl, rfl, (fun h => by cases h), rfl⟩, ⟨_, _, rfl, rfl, rfl, rfl, (fun h => by cases h), rfl⟩, ⟨_, _, rfl, rfl, rfl, rfl, (fun h => by cases h), rfl⟩, ⟨_, _, rfl, rfl, rfl, rfl, (fun h => by cases h), rfl⟩, ⟨_, _, rfl, rfl, rfl, rfl, (fun h => by cases h), rfl⟩, ⟨_, _, rfl, rfl, rfl, rfl, (fun h => by cases h), rfl⟩, ⟨_, _, rfl, rfl, rfl, rfl, (fun h => by cases h), rfl⟩, ⟨_, _, rfl, rfl, rfl, rfl, (fun h => by cases h), rfl⟩, ⟨_, _, rfl, rfl, rfl, rfl, (fun h => by cases h), rfl⟩, ⟨_, _, rfl, rfl, rfl, rfl, (fun h => by cases h), rfl⟩, ⟨_, _, rfl, rfl, rfl, rfl, (fun h => by cases h), rfl⟩, ⟨_, _, rfl, rfl, rfl, rfl, (fun h => by cases h), rfl⟩, ⟨_, _, rfl, rfl, rfl, rfl, (fun h => by cases h), rfl⟩, ⟨_, _, rfl, rfl, rfl, rfl, (fun h => by cases h), rfl⟩, ⟨_, _, rfl, rfl, rfl, rfl, (fun h => by cases h), rfl⟩, ⟨_, _, rfl, rfl, rfl, rfl, (fun h => by cases h), rfl⟩, ⟨_, _, rfl, rfl, rfl, rfl, (fun h => by cases h), rfl⟩, ⟨_, _, rfl, rfl, rfl, rfl, (fun h => by cases h), rfl⟩, ⟨_, _, rfl, rfl, rfl, rfl, (fun h => by cases h), rfl⟩, ⟨_, _, rfl, rfl, rfl, rfl, (fun h => by cases h), rfl⟩, ⟨_, _, rfl, rfl, rfl, rfl, (fun h => by cases h), rfl⟩, ⟨_, _, rfl, rfl, rfl, rfl, (fun h => by cases h), rfl⟩, ⟨_, _, rfl, rfl, rfl, rfl, (fun h => by cases h), rfl⟩, trivial⟩) (trivial) (⟨(fun h => by cases h), (fun h => by cases h), (fun h => by cases h), (fun h => by cases h), (fun h => by cases h), (fun h => by cases h), (fun h => by cases h), (fun h => by cases h), (fun h => by cases h), (fun h => by cases h), (fun h => by cases h), (fun h => by cases h), (fun h => by cases h), (fun h => by cases h), (fun h => by cases h), (fun h => by cases h), (fun h => by cases h), (fun h => by cases h), (fun h => by cases h), (fun h => by cases h), (fun h => by cases h), (fun h => by cases h), (fun h => by cases h), (fun h => by cases h), (fun h => by cases h), (fun h => by cases h), (fun h => by cases h), (fun h => by cases h), (fun h => by cases h), (fun h => by cases h), (fun h => by cases h), (fun h => by cases h), (fun h => by cases h), (fun h => by cases h), (fun h => by cases h), (fun h => by cases h), (fun h => by cases h), (fun h => by cases h), (fun h => by cases h), (fun h => by cases h), trivial⟩) rfl) ⟨_, rfl, rfl⟩ rfl ?_
  refine .q (op_cmpI rfl rfl rfl) ⟨_, rfl, rfl⟩ rfl ?_
  refine .q (op_pick_true rfl rfl rfl) trivial rfl ?_
  refine .q (op_move rfl) trivial rfl ?_
  refine .know (b' := true) (rfl) ?_
  refine .q (op_fieldAddr (m := 33) Tryd.underlying64 rfl (by kernel_rfl) rfl) ⟨_, rfl, rfl⟩ rfl ?_
  refine .as (.ptr 1000 0) rfl ?_
  refine .q (op_call (U := []) [(500, 1000)] [] (count_ev true (1 :: List.replicate 31 (0 : UInt8)) 0 [] 64) Tryd.func38 (by kernel_rfl) rfl rfl rfl (⟨⟨_, rfl, rfl, rfl⟩, trivial⟩) (⟨⟨_, _, rfl, rfl, rfl, rfl, (fun h => by cases h), rfl⟩, trivial⟩) (trivial) (⟨(fun h => by cases h), trivial⟩) rfl) ⟨_, rfl, rfl⟩ rfl ?_
  refine .q (op_bin64 rfl rfl rfl) ⟨_, rfl, rfl⟩ rfl ?_
  refine .q (op_pick_true rfl rfl rfl) trivial rfl ?_
  refine .q (op_assign rfl) trivial rfl ?_
  refine .nil ?_
  show Ev _ _ _ _ _
  refine .ret ?_
  show RetOk _ _ _ _ _ _ _
  exact ret1v rfl (.inl rfl) rfl rfl trivial
set_option maxHeartbeats 1000000 in
set_option maxRecDepth 100000 in
theorem long_t_ok (eo : Nat → Nat × Nat) (_hd : ∀ i j, i < 20 → j < 20 → i ≠ j → eo i ≠ eo j) (e : Nat) (n : Int) (N : Nat) (hN : 32760 + n % 16 = (N : Int)) (h : N ≤ 32768) : Meets Tryd.prog 8 [.i64 n, .bool true] [(21, some ⟨.aggI qsTab, e, false⟩), (2, some ⟨.agg [.err 192 (1) (offE eo (1))], errT, false⟩), (0, some ⟨.agg [.err 192 (2) (offE eo (2))], errT, false⟩), (3, some ⟨.agg [.err 192 (3) (offE eo (3))], errT, false⟩), (4, some ⟨.agg [.err 192 (4) (offE eo (4))], errT, false⟩), (1, some ⟨.agg [.err 192 (5) (offE eo (5))], errT, false⟩), (5, some ⟨.agg [.err 192 (6) (offE eo (6))], errT, false⟩), (6, some ⟨.agg [.err 192 (7) (offE eo (7))], errT, false⟩), (7, some ⟨.agg [.err 192 (8) (offE eo (8))], errT, false⟩), (8, some ⟨.agg [.err 192 (9) (offE eo (9))], errT, false⟩), (9, some ⟨.agg [.err 192 (10) (offE eo (10))], errT, false⟩), (10, some ⟨.agg [.err 192 (11) (offE eo (11))], errT, false⟩), (11, some ⟨.agg [.err 192 (12) (offE eo (12))], errT, false⟩), (12, some ⟨.agg [.err 192 (13) (offE eo (13))], errT, false⟩), (13, some ⟨.agg [.err 192 (14) (offE eo (14))], errT, false⟩), (14, some ⟨.agg [.err 192 (15) (offE eo (15))], errT, false⟩), (15, some ⟨.agg [.err 192 (16) (offE eo (16))], errT, false⟩), (16, some ⟨.agg [.err 192 (17) (offE eo (17))], errT, false⟩), (17, some ⟨.agg [.err 192 (18) (offE eo (18))], errT, false⟩), (18, some ⟨.agg [.err 192 (19) (offE eo (19))], errT, false⟩), (19, some ⟨.agg [.err 192 (20) (offE eo (20))], errT, false⟩), (401, some ⟨.agg [], errT, false⟩), (402, some ⟨.agg [], errT, false⟩), (403, some ⟨.agg [], errT, false⟩), (404, some ⟨.agg [], errT, false⟩), (405, some ⟨.agg [], errT, false⟩), (406, some ⟨.agg [], errT, false⟩), (407, some ⟨.agg [], errT, false⟩), (408, some ⟨.agg [], errT, false⟩), (409, some ⟨.agg [], errT, false⟩), (410, some ⟨.agg [], errT, false⟩), (411, some ⟨.agg [], errT, false⟩), (412, some ⟨.agg [], errT, false⟩), (413, some ⟨.agg [], errT, false⟩), (414, some ⟨.agg [], errT, false⟩), (415, some ⟨.agg [], errT, false⟩), (416, some ⟨.agg [], errT, false⟩), (417, some ⟨.agg [], errT, false⟩), (418, some ⟨.agg [], errT, false⟩), (419, some ⟨.agg [], errT, false⟩), (420, some ⟨.agg [], errT, false⟩)] (.bool true) [] := by
  have hlp := length_packP true (1 :: List.replicate 31 (0 : UInt8)) 0 (zP N)
  have hlz := length_zP N
  have hpd := padP_le true (zP N).length
  have htg : tagP true = 16 := rfl
  have hF : (firstP true (1 :: List.replicate 31 (0 : UInt8)) 0 ((packP true (1 :: List.replicate 31 (0 : UInt8)) 0 (zP N)).drop 0)) = ((zP N), (packP true (1 :: List.replicate 31 (0 : UInt8)) 0 (zP N)).length, 0) := by
    have h9 := first_pack true (1 :: List.replicate 31 (0 : UInt8)) 0 (zP N) [] (by omega) (by omega)
    rw [List.append_nil] at h9
    rw [List.drop_zero, h9]
  refine meets_of_ev (nt := 66) Tryd.func8 rfl rfl (Nat.le_of_ble_eq_true rfl) ?_
  refine .seq ?_
  refine .region ?_
  refine .q (op_assign rfl) trivial rfl ?_
  refine .nil ?_
  show Ev _ _ _ _ _
  refine .seq ?_
  refine .seq ?_
  refine .region ?_
  refine .q (op_call (U := []) [] [] (awake12_ev e eo) Tryd.func31 (by kernel_rfl) rfl rfl rfl (trivial) (⟨⟨_, _, rfl, rfl, rfl, rfl, (fun h => by cases h), rfl⟩, ⟨_, _, rfl, rfl, rfl, rfl, (fun h => by cases h), rfl⟩, ⟨_, _, rfl, rfl, rfl, rfl, (fun h => by cases h), rfl⟩, ⟨_, _, rfl, rfl, rfl, rfl, (fun h => by cases h), rfl⟩, ⟨_, _, rfl, rfl, rfl, rfl, (fun h => by cases h), rfl⟩, trivial⟩) (trivial) (⟨(fun h => by cases h), (fun h => by cases h), (fun h => by cases h), (fun h => by cases h), (fun h => by cases h), trivial⟩) rfl) trivial rfl ?_
  refine .q (op_notB rfl) trivial rfl ?_
  refine .nil ?_
  show Ev _ _ _ _ _
  refine .cond_false rfl (rfl) ?_
  refine .skip ?_
  show Ev _ _ _ _ _
  refine .seq ?_
  refine .region ?_
  refine .q (op_move rfl) trivial rfl ?_
  refine .q (op_maskI (m := 15) rfl rfl (.inr rfl)) trivial rfl ?_
  refine .q (op_addI rfl rfl ⟨by first | omega | (simp only [AV.len]; omega) | (simp only [AV.len, List.length_set]; omega) | assumption | (simp [AV.len]; done), by first | omega | (simp only [AV.len]; omega) | (simp only [AV.len, List.length_set]; omega) | assumption | (simp [AV.len]; done)⟩) trivial rfl ?_
  refine .as (.i64 ((N : Nat) : Int)) (congrArg AV.i64 hN) ?_
  refine .q (op_assign rfl) trivial rfl ?_
  refine .nil ?_
  show Ev _ _ _ _ _
  refine .seq ?_
  refine .region ?_
  refine .a (op_allocRow zero64 rel_zero64 rfl) trivial rfl ?_
  refine .nil ?_
  show Ev _ _ _ _ _
  refine .seq ?_
  refine .region ?_
  refine .a (op_allocRow zero66 (rel_zero66 eo) rfl) trivial rfl ?_
  refine .nil ?_
  show Ev _ _ _ _ _
  refine .seq ?_
  refine .seq ?_
  refine .region ?_
  refine .q (op_move rfl) trivial rfl ?_
  refine .nil ?_
  show Ev _ _ _ _ _
  refine .cond_true rfl (rfl) ?_
  refine .seq ?_
  refine .region ?_
  refine .q (op_buildArr (us := [(0, _)]) Tryd.underlying22 inf5.sz zero22 rel_zero22 rfl (by decide) ⟨rfl, rfl, rfl, trivial⟩ rfl) trivial rfl ?_
  refine .as (.aggB (1 :: List.replicate 31 (0 : UInt8))) rfl ?_
  refine .a (op_call (U := [(1000, some ⟨dC true (1 :: List.replicate 31 (0 : UInt8)) 0 [], 64, true⟩)]) [(500, 1000)] [] (wseal_ev false (List.replicate 32 (0 : UInt8)) (1 :: List.replicate 31 (0 : UInt8)) rfl 0) Tryd.func32 (by kernel_rfl) rfl rfl rfl (⟨⟨_, rfl, rfl, rfl⟩, ⟨_, rfl, rfl, rfl⟩, trivial⟩) (⟨⟨_, _, rfl, rfl, rfl, rfl, id, rfl⟩, trivial⟩) (⟨⟨500, _, rfl, rfl, rfl, rfl, .inr ⟨rfl, _, rfl, rfl⟩⟩, trivial⟩) (⟨(fun _ => ⟨1000, _, rfl, rfl⟩), trivial⟩) rfl) trivial rfl ?_
  refine .nil ?_
  show Ev _ _ _ _ _
  refine .region ?_
  refine .q (op_buildArr (us := [(0, _)]) Tryd.underlying22 inf5.sz zero22 rel_zero22 rfl (by decide) ⟨rfl, rfl, rfl, trivial⟩ rfl) trivial rfl ?_
  refine .as (.aggB (1 :: List.replicate 31 (0 : UInt8))) rfl ?_
  refine .a (op_call (U := [(1008, some ⟨dC true (1 :: List.replicate 31 (0 : UInt8)) 0 [.nilsl, .err 192 (0) (offE eo (0))], 66, true⟩)]) [(500, 1008)] [] (ropen_ev12 false (List.replicate 32 (0 : UInt8)) (1 :: List.replicate 31 (0 : UInt8)) rfl 0 eo) Tryd.func33 (by kernel_rfl) rfl rfl rfl (⟨⟨_, rfl, rfl, rfl⟩, ⟨_, rfl, rfl, rfl⟩, trivial⟩) (⟨⟨_, _, rfl, rfl, rfl, rfl, id, rfl⟩, trivial⟩) (⟨⟨500, _, rfl, rfl, rfl, rfl, .inr ⟨rfl, _, rfl, rfl⟩⟩, trivial⟩) (⟨(fun _ => ⟨1008, _, rfl, rfl⟩), trivial⟩) rfl) trivial rfl ?_
  refine .nil ?_
  show Ev _ _ _ _ _
  refine .seq ?_
  refine .region ?_
  refine .q (op_move rfl) trivial rfl ?_
  refine .a (ap_make (n := N) (c := .aggB (zP N)) Tryd.underlying23 inf5 rfl rfl rfl rfl (by omega) (rel_zero5) rfl (by simp [AV.list, AV.parts, zP])) trivial rfl ?_
  refine .q (op_bytes_str Tryd.underlying23 Tryd.underlying5 Tryd.underlying9 rfl rfl rfl (by rw [length_zP]; omega)) trivial rfl ?_
  refine .as (.str (zP N)) (by rw [List.drop_zero, List.take_of_length_le (by rw [length_zP]; exact Nat.le_refl _)]) ?_
  refine .q (op_assign rfl) trivial rfl ?_
  refine .nil ?_
  show Ev _ _ _ _ _
  refine .seq ?_
  refine .region ?_
  refine .q (op_move rfl) trivial rfl ?_
  refine .a (op_call (U := [(1000, some ⟨dC true (1 :: List.replicate 31 (0 : UInt8)) 1 [], 64, true⟩)]) [(500, 1000)] [] (pack_t e (1 :: List.replicate 31 (0 : UInt8)) rfl 0 (zP N) (by rw [length_zP]; omega) (by rw [length_zP]; omega) eo) Tryd.func34 (by kernel_rfl) rfl rfl rfl (⟨⟨_, rfl, rfl, rfl⟩, ⟨_, rfl, rfl, rfl⟩, trivial⟩) (⟨⟨_, _, rfl, rfl, rfl, rfl, id, rfl⟩, ⟨_, _, rfl, rfl, rfl, rfl, (fun h => by cases h), rfl⟩, trivial⟩) (⟨⟨500, _, rfl, rfl, rfl, rfl, .inr ⟨rfl, _, rfl, rfl⟩⟩, trivial⟩) (⟨(fun _ => ⟨1000, _, rfl, rfl⟩), (fun h => by cases h), trivial⟩) rfl) trivial rfl ?_
  refine .q (op_move rfl) trivial rfl ?_
  refine .q (op_extract rfl rfl) trivial rfl ?_
  refine .q (op_extract rfl rfl) trivial rfl ?_
  refine .q (op_assign rfl) trivial rfl ?_
  refine .q (op_assign rfl) trivial rfl ?_
  refine .nil ?_
  show Ev _ _ _ _ _
  refine .seq ?_
  refine .seq ?_
  refine .region ?_
  refine .q (op_move rfl) trivial rfl ?_
  refine .q (op_cmpI rfl rfl rfl) trivial rfl ?_
  refine .nil ?_
  show Ev _ _ _ _ _
  refine .cond_false rfl (decide_eq_false (by omega)) ?_
  refine .skip ?_
  show Ev _ _ _ _ _
  refine .seq ?_
  refine .region ?_
  refine .q (op_move rfl) trivial rfl ?_
  refine .a (op_call (U := [(1008, some ⟨dC true (1 :: List.replicate 31 (0 : UInt8)) 0 ([.sl 1048 0 (packP true (1 :: List.replicate 31 (0 : UInt8)) 0 (zP N)).length 1, .err 192 (0) (offE eo (0))]), 66, true⟩), (1048, some ⟨.aggB (packP true (1 :: List.replicate 31 (0 : UInt8)) 0 (zP N)), 5, true⟩)]) [(500, 1008)] [(1048, 1000)] (pfeed_0 true (1 :: List.replicate 31 (0 : UInt8)) 0 (packP true (1 :: List.replicate 31 (0 : UInt8)) 0 (zP N)) (by omega) (by omega) eo) Tryd.func36 (by kernel_rfl) rfl rfl rfl (⟨⟨_, rfl, rfl, rfl⟩, ⟨_, rfl, rfl, rfl⟩, trivial⟩) (⟨⟨_, _, rfl, rfl, rfl, rfl, id, rfl⟩, trivial⟩) (⟨⟨500, _, rfl, rfl, rfl, rfl, .inr ⟨rfl, _, rfl, rfl⟩⟩, ⟨1000, _, rfl, rfl, rfl, rfl, .inl rfl⟩, trivial⟩) (⟨(fun _ => ⟨1008, _, rfl, rfl⟩), trivial⟩) rfl) trivial rfl ?_
  refine .nil ?_
  show Ev _ _ _ _ _
  refine .seq ?_
  refine .region ?_
  refine .a (op_call (U := [(1008, some ⟨dC true (1 :: List.replicate 31 (0 : UInt8)) 1 ([.sl 1048 (0 + (firstP true (1 :: List.replicate 31 (0 : UInt8)) 0 ((packP true (1 :: List.replicate 31 (0 : UInt8)) 0 (zP N)).drop 0)).2.1) ((packP true (1 :: List.replicate 31 (0 : UInt8)) 0 (zP N)).length - (firstP true (1 :: List.replicate 31 (0 : UInt8)) 0 ((packP true (1 :: List.replicate 31 (0 : UInt8)) 0 (zP N)).drop 0)).2.1) 1, .err 192 (0) (offE eo (0))]), 66, true⟩)]) [(500, 1008), (501, 1048)] [] (next_ok_t e (1 :: List.replicate 31 (0 : UInt8)) rfl 0 0 (packP true (1 :: List.replicate 31 (0 : UInt8)) 0 (zP N)).length (packP true (1 :: List.replicate 31 (0 : UInt8)) 0 (zP N)) (Nat.zero_add _) (by omega) (by rw [hF]) (by rw [hF]; show (packP true (1 :: List.replicate 31 (0 : UInt8)) 0 (zP N)).length ≠ 0; omega) eo) Tryd.func35 (by kernel_rfl) rfl rfl rfl (⟨⟨_, rfl, rfl, rfl⟩, trivial⟩) (⟨⟨_, _, rfl, rfl, rfl, rfl, id, rfl⟩, ⟨_, _, rfl, rfl, rfl, rfl, (fun h => by cases h), rfl⟩, ⟨_, _, rfl, rfl, rfl, rfl, (fun h => by cases h), rfl⟩, ⟨_, _, rfl, rfl, rfl, rfl, (fun h => by cases h), rfl⟩, ⟨_, _, rfl, rfl, rfl, rfl, (fun h => by cases h), rfl⟩, ⟨_, _, rfl, rfl, rfl, rfl, (fun h => by cases h), rfl⟩, ⟨_, _, rfl, rfl, rfl, rfl, (fun h => by cases h), rfl⟩, trivial⟩) (⟨⟨500, _, rfl, rfl, rfl, rfl, .inr ⟨rfl, _, rfl, rfl⟩⟩, trivial⟩) (⟨(fun _ => ⟨1008, _, rfl, rfl⟩), (fun h => by cases h), (fun h => by cases h), (fun h => by cases h), (fun h => by cases h), (fun h => by cases h), (fun h => by cases h), trivial⟩) rfl) trivial rfl ?_
  refine .q (op_move rfl) trivial rfl ?_
  refine .q (op_extract rfl rfl) trivial rfl ?_
  refine .q (op_extract rfl rfl) trivial rfl ?_
  refine .q (op_extract rfl rfl) trivial rfl ?_
  refine .q (op_assign rfl) trivial rfl ?_
  refine .q (op_assign rfl) trivial rfl ?_
  refine .q (op_assign rfl) trivial rfl ?_
  refine .nil ?_
  show Ev _ _ _ _ _
  refine .seq ?_
  refine .region ?_
  refine .q (op_move rfl) trivial rfl ?_
  refine .q (op_eqErrNil (e := 0) Tryd.underlying31 rfl rfl) trivial rfl ?_
  refine .q (op_move rfl) trivial rfl ?_
  refine .know (b' := true) (rfl) ?_
  refine .q (op_move rfl) ⟨_, rfl, rfl⟩ rfl ?_
  refine .q (op_move rfl) ⟨_, rfl, rfl⟩ rfl ?_
  refine .q (op_eqS rfl rfl rfl) ⟨_, rfl, rfl⟩ rfl ?_
  refine .q (op_pick_true rfl rfl rfl) trivial rfl ?_
  refine .q (op_move rfl) trivial rfl ?_
  refine .know (b' := true) (by rw [hF]; exact beq_self_eq_true _) ?_
  refine .q (op_move rfl) ⟨_, rfl, rfl⟩ rfl ?_
  refine .q (op_pick_true rfl rfl rfl) trivial rfl ?_
  refine .q (op_move rfl) trivial rfl ?_
  refine .know (b' := true) (rfl) ?_
  refine .q (op_move rfl) ⟨_, rfl, rfl⟩ rfl ?_
  refine .q (op_eqErrNil (e := 0) Tryd.underlying31 rfl rfl) ⟨_, rfl, rfl⟩ rfl ?_
  refine .q (op_pick_true rfl rfl rfl) trivial rfl ?_
  refine .q (op_assign rfl) trivial rfl ?_
  refine .nil ?_
  show Ev _ _ _ _ _
  refine .ret ?_
  show RetOk _ _ _ _ _ _ _
  exact ret1v rfl (.inl rfl) rfl rfl trivial
set_option maxHeartbeats 1000000 in
set_option maxRecDepth 100000 in
theorem long_f_big (eo : Nat → Nat × Nat) (hd : ∀ i j, i < 20 → j < 20 → i ≠ j → eo i ≠ eo j) (e : Nat) (n : Int) (N : Nat) (hN : 32760 + n % 16 = (N : Int)) (h : 32768 < N) : Meets Tryd.prog 8 [.i64 n, .bool false] [(21, some ⟨.aggI qsTab, e, false⟩), (2, some ⟨.agg [.err 192 (1) (offE eo (1))], errT, false⟩), (0, some ⟨.agg [.err 192 (2) (offE eo (2))], errT, false⟩), (3, some ⟨.agg [.err 192 (3) (offE eo (3))], errT, false⟩), (4, some ⟨.agg [.err 192 (4) (offE eo (4))], errT, false⟩), (1, some ⟨.agg [.err 192 (5) (offE eo (5))], errT, false⟩), (5, some ⟨.agg [.err 192 (6) (offE eo (6))], errT, false⟩), (6, some ⟨.agg [.err 192 (7) (offE eo (7))], errT, false⟩), (7, some ⟨.agg [.err 192 (8) (offE eo (8))], errT, false⟩), (8, some ⟨.agg [.err 192 (9) (offE eo (9))], errT, false⟩), (9, some ⟨.agg [.err 192 (10) (offE eo (10))], errT, false⟩), (10, some ⟨.agg [.err 192 (11) (offE eo (11))], errT, false⟩), (11, some ⟨.agg [.err 192 (12) (offE eo (12))], errT, false⟩), (12, some ⟨.agg [.err 192 (13) (offE eo (13))], errT, false⟩), (13, some ⟨.agg [.err 192 (14) (offE eo (14))], errT, false⟩), (14, some ⟨.agg [.err 192 (15) (offE eo (15))], errT, false⟩), (15, some ⟨.agg [.err 192 (16) (offE eo (16))], errT, false⟩), (16, some ⟨.agg [.err 192 (17) (offE eo (17))], errT, false⟩), (17, some ⟨.agg [.err 192 (18) (offE eo (18))], errT, false⟩), (18, some ⟨.agg [.err 192 (19) (offE eo (19))], errT, false⟩), (19, some ⟨.agg [.err 192 (20) (offE eo (20))], errT, false⟩), (401, some ⟨.agg [], errT, false⟩), (402, some ⟨.agg [], errT, false⟩), (403, some ⟨.agg [], errT, false⟩), (404, some ⟨.agg [], errT, false⟩), (405, some ⟨.agg [], errT, false⟩), (406, some ⟨.agg [], errT, false⟩), (407, some ⟨.agg [], errT, false⟩), (408, some ⟨.agg [], errT, false⟩), (409, some ⟨.agg [], errT, false⟩), (410, some ⟨.agg [], errT, false⟩), (411, some ⟨.agg [], errT, false⟩), (412, some ⟨.agg [], errT, false⟩), (413, some ⟨.agg [], errT, false⟩), (414, some ⟨.agg [], errT, false⟩), (415, some ⟨.agg [], errT, false⟩), (416, some ⟨.agg [], errT, false⟩), (417, some ⟨.agg [], errT, false⟩), (418, some ⟨.agg [], errT, false⟩), (419, some ⟨.agg [], errT, false⟩), (420, some ⟨.agg [], errT, false⟩)] (.bool true) [] := by
  refine meets_of_ev (nt := 66) Tryd.func8 rfl rfl (Nat.le_of_ble_eq_true rfl) ?_
  refine .seq ?_
  refine .region ?_
  refine .q (op_assign rfl) trivial rfl ?_
  refine .nil ?_
  show Ev _ _ _ _ _
  refine .seq ?_
  refine .seq ?_
  refine .region ?_
  refine .q (op_call (U := []) [] [] (awake12_ev e eo) Tryd.func31 (by kernel_rfl) rfl rfl rfl (trivial) (⟨⟨_, _, rfl, rfl, rfl, rfl, (fun h => by cases h), rfl⟩, ⟨_, _, rfl, rfl, rfl, rfl, (fun h => by cases h), rfl⟩, ⟨_, _, rfl, rfl, rfl, rfl, (fun h => by cases h), rfl⟩, ⟨_, _, rfl, rfl, rfl, rfl, (fun h => by cases h), rfl⟩, ⟨_, _, rfl, rfl, rfl, rfl, (fun h => by cases h), rfl⟩, trivial⟩) (trivial) (⟨(fun h => by cases h), (fun h => by cases h), (fun h => by cases h), (fun h => by cases h), (fun h => by cases h), trivial⟩) rfl) trivial rfl ?_
  refine .q (op_notB rfl) trivial rfl ?_
  refine .nil ?_
  show Ev _ _ _ _ _
  refine .cond_false rfl (rfl) ?_
  refine .skip ?_
  show Ev _ _ _ _ _
  refine .seq ?_
  refine .region ?_
  refine .q (op_move rfl) trivial rfl ?_
  refine .q (op_maskI (m := 15) rfl rfl (.inr rfl)) trivial rfl ?_
  refine .q (op_addI rfl rfl ⟨by first | omega | (simp only [AV.len]; omega) | (simp only [AV.len, List.length_set]; omega) | assumption | (simp [AV.len]; done), by first | omega | (simp only [AV.len]; omega) | (simp only [AV.len, List.length_set]; omega) | assumption | (simp [AV.len]; done)⟩) trivial rfl ?_
  refine .as (.i64 ((N : Nat) : Int)) (congrArg AV.i64 hN) ?_
  refine .q (op_assign rfl) trivial rfl ?_
  refine .nil ?_
  show Ev _ _ _ _ _
  refine .seq ?_
  refine .region ?_
  refine .a (op_allocRow zero64 rel_zero64 rfl) trivial rfl ?_
  refine .nil ?_
  show Ev _ _ _ _ _
  refine .seq ?_
  refine .region ?_
  refine .a (op_allocRow zero66 (rel_zero66 eo) rfl) trivial rfl ?_
  refine .nil ?_
  show Ev _ _ _ _ _
  refine .seq ?_
  refine .seq ?_
  refine .region ?_
  refine .q (op_move rfl) trivial rfl ?_
  refine .nil ?_
  show Ev _ _ _ _ _
  refine .cond_false rfl (rfl) ?_
  refine .skip ?_
  show Ev _ _ _ _ _
  refine .seq ?_
  refine .region ?_
  refine .q (op_move rfl) trivial rfl ?_
  refine .a (ap_make (n := N) (c := .aggB (zP N)) Tryd.underlying23 inf5 rfl rfl rfl rfl (by omega) (rel_zero5) rfl (by simp [AV.list, AV.parts, zP])) trivial rfl ?_
  refine .q (op_bytes_str Tryd.underlying23 Tryd.underlying5 Tryd.underlying9 rfl rfl rfl (by rw [length_zP]; omega)) trivial rfl ?_
  refine .as (.str (zP N)) (by rw [List.drop_zero, List.take_of_length_le (by rw [length_zP]; exact Nat.le_refl _)]) ?_
  refine .q (op_assign rfl) trivial rfl ?_
  refine .nil ?_
  show Ev _ _ _ _ _
  refine .seq ?_
  refine .region ?_
  refine .q (op_move rfl) trivial rfl ?_
  refine .q (op_call (U := []) [(500, 1000)] [] (pack_big false (List.replicate 32 (0 : UInt8)) 0 (zP N) (by rw [length_zP]; omega) (by rw [length_zP]; omega) eo) Tryd.func34 (by kernel_rfl) rfl rfl rfl (⟨⟨_, rfl, rfl, rfl⟩, ⟨_, rfl, rfl, rfl⟩, trivial⟩) (⟨⟨_, _, rfl, rfl, rfl, rfl, (fun h => by cases h), rfl⟩, ⟨_, _, rfl, rfl, rfl, rfl, (fun h => by cases h), rfl⟩, trivial⟩) (trivial) (⟨(fun h => by cases h), (fun h => by cases h), trivial⟩) rfl) trivial rfl ?_
  refine .q (op_move rfl) trivial rfl ?_
  refine .q (op_extract rfl rfl) trivial rfl ?_
  refine .q (op_extract rfl rfl) trivial rfl ?_
  refine .q (op_assign rfl) trivial rfl ?_
  refine .q (op_assign rfl) trivial rfl ?_
  refine .nil ?_
  show Ev _ _ _ _ _
  refine .seq ?_
  refine .seq ?_
  refine .region ?_
  refine .q (op_move rfl) trivial rfl ?_
  refine .q (op_cmpI rfl rfl rfl) trivial rfl ?_
  refine .nil ?_
  show Ev _ _ _ _ _
  refine .cond_true rfl (decide_eq_true (by omega)) ?_
  refine .seq ?_
  refine .region ?_
  refine .q (op_move rfl) trivial rfl ?_
  refine .q (op_eqS rfl rfl rfl) trivial rfl ?_
  refine .q (op_move rfl) trivial rfl ?_
  refine .know (b' := true) (rfl) ?_
  refine .q (op_move rfl) ⟨_, rfl, rfl⟩ rfl ?_
  refine .q (op_call (U := []) [] [] (code_4 eo hd) Tryd.func15 (by kernel_rfl) rfl rfl rfl (⟨⟨_, rfl, rfl, rfl⟩, trivial⟩) (⟨⟨_, _, rfl, rfl, rfl, rfl, (fun h => by cases h), rfl⟩, ⟨_, _, rfl, rfl, rfl, rfl, (fun h => by cases h), rfl⟩, ⟨_, _, rfl, rfl, rfl, rfl, (fun h => by cases h), rfl⟩, ⟨_, _, rfl, rfl, rfl, rfl, (fun h => by cases h), rfl⟩, ⟨_, _, rfl, rfl, rfl, rfl, (fun h => by cases h), rfl⟩, ⟨_, _, rfl, rfl, rfl, rfl, (fun h => by cases h), rfl⟩, ⟨_, _, rfl, rfl, rfl, rfl, (fun h => by cases h), rfl⟩, ⟨_, _, rfl, rfl, rfl, rfl, (fun h => by cases h), rfl⟩, ⟨_, _, rfl, rfl, rfl, rfl, (fun h => by cases h), rfl⟩, ⟨_, _, rfl, rfl, rfl, rfl, (fun h => by cases h), rfl⟩, ⟨_, _, rfl, rfl, rfl, rfl, (fun h => by cases h), rfl⟩, ⟨_, _, rfl, rfl, rfl, rfl, (fun h => by cases h), rfl⟩, ⟨_, _, rfl, rfl, rfl, rfl, (fun h => by cases h), rfl⟩, ⟨_, _, rfl, rfl, rfl, rfl, (fun h => by cases h), rfl⟩, ⟨_, _, rfl, rfl, rfl, rfl, (fun h => by cases h), rfl⟩, ⟨_, _, rfl, rfl, rfl, rfl, (fun h => by cases h), rfl⟩, ⟨_, _, rfl, rfl, rfl, rfl, (fun h => by cases h), rfl⟩, ⟨_, _, rfl, rfl, rfl, rfl, (fun h => by cases h), rfl⟩, ⟨_, _, rfl, rfl, rfl, rfl, (fun h => by cases h), rfl⟩, ⟨_, _, rfl, rfl, rfl, rfl, (fun h => by cases h), rfl⟩, ⟨_, _, rfl, rfl, rfl, rfl, (fun h => by cases h), rfl⟩, ⟨_, _, rfl, rfl, rfl, rfl, (fun h => by cases h), rfl⟩, ⟨_, _, rfl, rfl, rfl, rfl, (fun h => by cases h), rfl⟩, ⟨_, _, rfl, rfl, rfl, rfl, (fun h => by cases h), rfl⟩, ⟨_, _, rfl, rfl, rfl, rfl, (fun h => by cases h), rfl⟩, ⟨_, _, rfl, rfl, rfl, rfl, (fun h => by cases h), rfl⟩, ⟨_, _, rfl, rfl, rfl, rfl, (fun h => by cases h), rfl⟩, ⟨_, _, rfl, rfl, rfl, rfl, (fun h => by cases h), rfl⟩, ⟨_, _, rfl, rfl, rfl, rfl, (fun h => by cases h), rfl⟩, ⟨_, _, rfl, rfl, rfl, rfl, (fun h => by cases h), rfl⟩, ⟨_, _, rfl, rfl, rfl, rfl, (fun h => by cases h), rfl⟩, ⟨_, _, rfl, rfl, rfl, rfl, (fun h => by cases h), rfl⟩, ⟨_, _, rfl, rfl, rfl, rfl, (fun h => by cases h), rfl⟩, ⟨_, _, rfl, rfl, rfl, rfl, (fun h => by cases h), rfl⟩, ⟨_, _, rfl, rfl, rfl, rfl, (fun h => by cases h), rfl⟩, ⟨_, _, rfl, rfl, rfl, rfl, (fun h => by cases h), rfl⟩, ⟨_, _, rfl, rfl, rfl, rfl, (fun h => by cases h), rfl⟩, ⟨_, _, rfl, rfl, rfl, rfl, (fun h => by cases h), rfl⟩, ⟨_, _, rfl, rfl, rfl, rfl, (fun h => by cases h), rfl⟩, ⟨_, _, rfl, rfl, rfl, rfl, (fun h => by cases h), rfl⟩, trivial⟩) (trivial) (⟨(fun h => by cases h), (fun h => by cases h), (fun h => by cases h), (fun h => by cases h), (fun h => by cases h), (fun h => by cases h), (fun h => by cases h), (fun h => by cases h), (fun h => by cases h), (fun h => by cases h), (fun h => by cases h), (fun h => by cases h), (fun h => by cases h), (fun h => by cases h), (fun h => by cases h), (fun h => by cases h), (fun h => by cases h), (fun h => by cases h), (fun h => by cases h), (fun h => by cases h), (fun h => by cases h), (fun h => by cases h), (fun h => by cases h), (fun h => by cases h), (fun h => by cases h), (fun h => by cases h), (fun h => by cases h), (fun h => by cases h), (fun h => by cases h), (fun h => by cases h), (fun h => by cases h), (fun h => by cases h), (fun h => by cases h), (fun h => by cases h), (fun h => by cases h), (fun h => by cases h), (fun h => by cases h), (fun h => by cases h), (fun h => by cases h), (fun h => by cases h), trivial⟩) rfl) ⟨_, rfl, rfl⟩ rfl ?_
  refine .q (op_cmpI rfl rfl rfl) ⟨_, rfl, rfl⟩ rfl ?_
  refine .q (op_pick_true rfl rfl rfl) trivial rfl ?_
  refine .q (op_move rfl) trivial rfl ?_
  refine .know (b' := true) (rfl) ?_
  refine .q (op_fieldAddr (m := 33) Tryd.underlying64 rfl (by kernel_rfl) rfl) ⟨_, rfl, rfl⟩ rfl ?_
  refine .as (.ptr 1000 0) rfl ?_
  refine .q (op_call (U := []) [(500, 1000)] [] (count_ev false (List.replicate 32 (0 : UInt8)) 0 [] 64) Tryd.func38 (by kernel_rfl) rfl rfl rfl (⟨⟨_, rfl, rfl, rfl⟩, trivial⟩) (⟨⟨_, _, rfl, rfl, rfl, rfl, (fun h => by cases h), rfl⟩, trivial⟩) (trivial) (⟨(fun h => by cases h), trivial⟩) rfl) ⟨_, rfl, rfl⟩ rfl ?_
  refine .q (op_bin64 rfl rfl rfl) ⟨_, rfl, rfl⟩ rfl ?_
  refine .q (op_pick_true rfl rfl rfl) trivial rfl ?_
  refine .q (op_assign rfl) trivial rfl ?_
  refine .nil ?_
  show Ev _ _ _ _ _
  refine .ret ?_
  show RetOk _ _ _ _ _ _ _
  exact ret1v rfl (.inl rfl) rfl rfl trivial
set_option maxHeartbeats 1000000 in
set_option maxRecDepth 100000 in
theorem long_f_ok (eo : Nat → Nat × Nat) (_hd : ∀ i j, i < 20 → j < 20 → i ≠ j → eo i ≠ eo j) (e : Nat) (n : Int) (N : Nat) (hN : 32760 + n % 16 = (N : Int)) (h : N ≤ 32768) : Meets Tryd.prog 8 [.i64 n, .bool false] [(21, some ⟨.aggI qsTab, e, false⟩), (2, some ⟨.agg [.err 192 (1) (offE eo (1))], errT, false⟩), (0, some ⟨.agg [.err 192 (2) (offE eo (2))], errT, false⟩), (3, some ⟨.agg [.err 192 (3) (offE eo (3))], errT, false⟩), (4, some ⟨.agg [.err 192 (4) (offE eo (4))], errT, false⟩), (1, some ⟨.agg [.err 192 (5) (offE eo (5))], errT, false⟩), (5, some ⟨.agg [.err 192 (6) (offE eo (6))], errT, false⟩), (6, some ⟨.agg [.err 192 (7) (offE eo (7))], errT, false⟩), (7, some ⟨.agg [.err 192 (8) (offE eo (8))], errT, false⟩), (8, some ⟨.agg [.err 192 (9) (offE eo (9))], errT, false⟩), (9, some ⟨.agg [.err 192 (10) (offE eo (10))], errT, false⟩), (10, some ⟨.agg [.err 192 (11) (offE eo (11))], errT, false⟩), (11, some ⟨.agg [.err 192 (12) (offE eo (12))], errT, false⟩), (12, some ⟨.agg [.err 192 (13) (offE eo (13))], errT, false⟩), (13, some ⟨.agg [.err 192 (14) (offE eo (14))], errT, false⟩), (14, some ⟨.agg [.err 192 (15) (offE eo (15))], errT, false⟩), (15, some ⟨.agg [.err 192 (16) (offE eo (16))], errT, false⟩), (16, some ⟨.agg [.err 192 (17) (offE eo (17))], errT, false⟩), (17, some ⟨.agg [.err 192 (18) (offE eo (18))], errT, false⟩), (18, some ⟨.agg [.err 192 (19) (offE eo (19))], errT, false⟩), (19, some ⟨.agg [.err 192 (20) (offE eo (20))], errT, false⟩), (401, some ⟨.agg [], errT, false⟩), (402, some ⟨.agg [], errT, false⟩), (403, some ⟨.agg [], errT, false⟩), (404, some ⟨.agg [], errT, false⟩), (405, some ⟨.agg [], errT, false⟩), (406, some ⟨.agg [], errT, false⟩), (407, some ⟨.agg [], errT, false⟩), (408, some ⟨.agg [], errT, false⟩), (409, some ⟨.agg [], errT, false⟩), (410, some ⟨.agg [], errT, false⟩), (411, some ⟨.agg [], errT, false⟩), (412, some ⟨.agg [], errT, false⟩), (413, some ⟨.agg [], errT, false⟩), (414, some ⟨.agg [], errT, false⟩), (415, some ⟨.agg [], errT, false⟩), (416, some ⟨.agg [], errT, false⟩), (417, some ⟨.agg [], errT, false⟩), (418, some ⟨.agg [], errT, false⟩), (419, some ⟨.agg [], errT, false⟩), (420, some ⟨.agg [], errT, false⟩)] (.bool true) [] := by
  have hlp := length_packP false (List.replicate 32 (0 : UInt8)) 0 (zP N)
  have hlz := length_zP N
  have hpd := padP_le false (zP N).length
  have htg : tagP false = 0 := rfl
  have hF : (firstP false (List.replicate 32 (0 : UInt8)) 0 ((packP false (List.replicate 32 (0 : UInt8)) 0 (zP N)).drop 0)) = ((zP N), (packP false (List.replicate 32 (0 : UInt8)) 0 (zP N)).length, 0) := by
    have h9 := first_pack false (List.replicate 32 (0 : UInt8)) 0 (zP N) [] (by omega) (by omega)
    rw [List.append_nil] at h9
    rw [List.drop_zero, h9]
  refine meets_of_ev (nt := 66) Tryd.func8 rfl rfl (Nat.le_of_ble_eq_true rfl) ?_
  refine .seq ?_
  refine .region ?_
  refine .q (op_assign rfl) trivial rfl ?_
  refine .nil ?_
  show Ev _ _ _ _ _
  refine .seq ?_
  refine .seq ?_
  refine .region ?_
  refine .q (op_call (U := []) [] [] (awake12_ev e eo) Tryd.func31 (by kernel_rfl) rfl rfl rfl (trivial) (⟨⟨_, _, rfl, rfl, rfl, rfl, (fun h => by cases h), rfl⟩, ⟨_, _, rfl, rfl, rfl, rfl, (fun h => by cases h), rfl⟩, ⟨_, _, rfl, rfl, rfl, rfl, (fun h => by cases h), rfl⟩, ⟨_, _, rfl, rfl, rfl, rfl, (fun h => by cases h), rfl⟩, ⟨_, _, rfl, rfl, rfl, rfl, (fun h => by cases h), rfl⟩, trivial⟩) (trivial) (⟨(fun h => by cases h), (fun h => by cases h), (fun h => by cases h), (fun h => by cases h), (fun h => by cases h), trivial⟩) rfl) trivial rfl ?_
  refine .q (op_notB rfl) trivial rfl ?_
  refine .nil ?_
  show Ev _ _ _ _ _
  refine .cond_false rfl (rfl) ?_
  refine .skip ?_
  show Ev _ _ _ _ _
  refine .seq ?_
  refine .region ?_
  refine .q (op_move rfl) trivial rfl ?_
  refine .q (op_maskI (m := 15) rfl rfl (.inr rfl)) trivial rfl ?_
  refine .q (op_addI rfl rfl ⟨by first | omega | (simp only [AV.len]; omega) | (simp only [AV.len, List.length_set]; omega) | assumption | (simp [AV.len]; done), by first | omega | (simp only [AV.len]; omega) | (simp only [AV.len, List.length_set]; omega) | assumption | (simp [AV.len]; done)⟩) trivial rfl ?_
  refine .as (.i64 ((N : Nat) : Int)) (congrArg AV.i64 hN) ?_
  refine .q (op_assign rfl) trivial rfl ?_
  refine .nil ?_
  show Ev _ _ _ _ _
  refine .seq ?_
  refine .region ?_
  refine .a (op_allocRow zero64 rel_zero64 rfl) trivial rfl ?_
  refine .nil ?_
  show Ev _ _ _ _ _
  refine .seq ?_
  refine .region ?_
  refine .a (op_allocRow zero66 (rel_zero66 eo) rfl) trivial rfl ?_
  refine .nil ?_
  show Ev _ _ _ _ _
  refine .seq ?_
  refine .seq ?_
  refine .region ?_
  refine .q (op_move rfl) trivial rfl ?_
  refine .nil ?_
  show Ev _ _ _ _ _
  refine .cond_false rfl (rfl) ?_
  refine .skip ?_
  show Ev _ _ _ _ _
  refine .seq ?_
  refine .region ?_
  refine .q (op_move rfl) trivial rfl ?_
  refine .a (ap_make (n := N) (c := .aggB (zP N)) Tryd.underlying23 inf5 rfl rfl rfl rfl (by omega) (rel_zero5) rfl (by simp [AV.list, AV.parts, zP])) trivial rfl ?_
  refine .q (op_bytes_str Tryd.underlying23 Tryd.underlying5 Tryd.underlying9 rfl rfl rfl (by rw [length_zP]; omega)) trivial rfl ?_
  refine .as (.str (zP N)) (by rw [List.drop_zero, List.take_of_length_le (by rw [length_zP]; exact Nat.le_refl _)]) ?_
  refine .q (op_assign rfl) trivial rfl ?_
  refine .nil ?_
  show Ev _ _ _ _ _
  refine .seq ?_
  refine .region ?_
  refine .q (op_move rfl) trivial rfl ?_
  refine .a (op_call (U := [(1000, some ⟨dC false (List.replicate 32 (0 : UInt8)) 1 [], 64, true⟩)]) [(500, 1000)] [] (pack_f e (List.replicate 32 (0 : UInt8)) rfl 0 (zP N) (by rw [length_zP]; omega) (by rw [length_zP]; omega) eo) Tryd.func34 (by kernel_rfl) rfl rfl rfl (⟨⟨_, rfl, rfl, rfl⟩, ⟨_, rfl, rfl, rfl⟩, trivial⟩) (⟨⟨_, _, rfl, rfl, rfl, rfl, id, rfl⟩, trivial⟩) (⟨⟨500, _, rfl, rfl, rfl, rfl, .inr ⟨rfl, _, rfl, rfl⟩⟩, trivial⟩) (⟨(fun _ => ⟨1000, _, rfl, rfl⟩), trivial⟩) rfl) trivial rfl ?_
  refine .q (op_move rfl) trivial rfl ?_
  refine .q (op_extract rfl rfl) trivial rfl ?_
  refine .q (op_extract rfl rfl) trivial rfl ?_
  refine .q (op_assign rfl) trivial rfl ?_
  refine .q (op_assign rfl) trivial rfl ?_
  refine .nil ?_
  show Ev _ _ _ _ _
  refine .seq ?_
  refine .seq ?_
  refine .region ?_
  refine .q (op_move rfl) trivial rfl ?_
  refine .q (op_cmpI rfl rfl rfl) trivial rfl ?_
  refine .nil ?_
  show Ev _ _ _ _ _
  refine .cond_false rfl (decide_eq_false (by omega)) ?_
  refine .skip ?_
  show Ev _ _ _ _ _
  refine .seq ?_
  refine .region ?_
  refine .q (op_move rfl) trivial rfl ?_
  refine .a (op_call (U := [(1008, some ⟨dC false (List.replicate 32 (0 : UInt8)) 0 ([.sl 1032 0 (packP false (List.replicate 32 (0 : UInt8)) 0 (zP N)).length 1, .err 192 (0) (offE eo (0))]), 66, true⟩), (1032, some ⟨.aggB (packP false (List.replicate 32 (0 : UInt8)) 0 (zP N)), 5, true⟩)]) [(500, 1008)] [(1032, 1000)] (pfeed_0 false (List.replicate 32 (0 : UInt8)) 0 (packP false (List.replicate 32 (0 : UInt8)) 0 (zP N)) (by omega) (by omega) eo) Tryd.func36 (by kernel_rfl) rfl rfl rfl (⟨⟨_, rfl, rfl, rfl⟩, ⟨_, rfl, rfl, rfl⟩, trivial⟩) (⟨⟨_, _, rfl, rfl, rfl, rfl, id, rfl⟩, trivial⟩) (⟨⟨500, _, rfl, rfl, rfl, rfl, .inr ⟨rfl, _, rfl, rfl⟩⟩, ⟨1000, _, rfl, rfl, rfl, rfl, .inl rfl⟩, trivial⟩) (⟨(fun _ => ⟨1008, _, rfl, rfl⟩), trivial⟩) rfl) trivial rfl ?_
  refine .nil ?_
  show Ev _ _ _ _ _
  refine .seq ?_
  refine .region ?_
  refine .a (op_call (U := [(1008, some ⟨dC false (List.replicate 32 (0 : UInt8)) 1 ([.sl 1032 (0 + (firstP false (List.replicate 32 (0 : UInt8)) 0 ((packP false (List.replicate 32 (0 : UInt8)) 0 (zP N)).drop 0)).2.1) ((packP false (List.replicate 32 (0 : UInt8)) 0 (zP N)).length - (firstP false (List.replicate 32 (0 : UInt8)) 0 ((packP false (List.replicate 32 (0 : UInt8)) 0 (zP N)).drop 0)).2.1) 1, .err 192 (0) (offE eo (0))]), 66, true⟩)]) [(500, 1008), (501, 1032)] [] (next_ok_f e (List.replicate 32 (0 : UInt8)) rfl 0 0 (packP false (List.replicate 32 (0 : UInt8)) 0 (zP N)).length (packP false (List.replicate 32 (0 : UInt8)) 0 (zP N)) (Nat.zero_add _) (by omega) (by rw [hF]) (by rw [hF]; show (packP false (List.replicate 32 (0 : UInt8)) 0 (zP N)).length ≠ 0; omega) eo) Tryd.func35 (by kernel_rfl) rfl rfl rfl (⟨⟨_, rfl, rfl, rfl⟩, trivial⟩) (⟨⟨_, _, rfl, rfl, rfl, rfl, id, rfl⟩, ⟨_, _, rfl, rfl, rfl, rfl, (fun h => by cases h), rfl⟩, ⟨_, _, rfl, rfl, rfl, rfl, (fun h => by cases h), rfl⟩, ⟨_, _, rfl, rfl, rfl, rfl, (fun h => by cases h), rfl⟩, ⟨_, _, rfl, rfl, rfl, rfl, (fun h => by cases h), rfl⟩, ⟨_, _, rfl, rfl, rfl, rfl, (fun h => by cases h), rfl⟩, ⟨_, _, rfl, rfl, rfl, rfl, (fun h => by cases h), rfl⟩, trivial⟩) (⟨⟨500, _, rfl, rfl, rfl, rfl, .inr ⟨rfl, _, rfl, rfl⟩⟩, trivial⟩) (⟨(fun _ => ⟨1008, _, rfl, rfl⟩), (fun h => by cases h), (fun h => by cases h), (fun h => by cases h), (fun h => by cases h), (fun h => by cases h), (fun h => by cases h), trivial⟩) rfl) trivial rfl ?_
  refine .q (op_move rfl) trivial rfl ?_
  refine .q (op_extract rfl rfl) trivial rfl ?_
  refine .q (op_extract rfl rfl) trivial rfl ?_
  refine .q (op_extract rfl rfl) trivial rfl ?_
  refine .q (op_assign rfl) trivial rfl ?_
  refine .q (op_assign rfl) trivial rfl ?_
  refine .q (op_assign rfl) trivial rfl ?_
  refine .nil ?_
  show Ev _ _ _ _ _
  refine .seq ?_
  refine .region ?_
  refine .q (op_move rfl) trivial rfl ?_
  refine .q (op_eqErrNil (e := 0) Tryd.underlying31 rfl rfl) trivial rfl ?_
  refine .q (op_move rfl) trivial rfl ?_
  refine .know (b' := true) (rfl) ?_
  refine .q (op_move rfl) ⟨_, rfl, rfl⟩ rfl ?_
  refine .q (op_move rfl) ⟨_, rfl, rfl⟩ rfl ?_
  refine .q (op_eqS rfl rfl rfl) ⟨_, rfl, rfl⟩ rfl ?_
  refine .q (op_pick_true rfl rfl rfl) trivial rfl ?_
  refine .q (op_move rfl) trivial rfl ?_
  refine .know (b' := true) (by rw [hF]; exact beq_self_eq_true _) ?_
  refine .q (op_move rfl) ⟨_, rfl, rfl⟩ rfl ?_
  refine .q (op_pick_true rfl rfl rfl) trivial rfl ?_
  refine .q (op_move rfl) trivial rfl ?_
  refine .know (b' := true) (rfl) ?_
  refine .q (op_move rfl) ⟨_, rfl, rfl⟩ rfl ?_
  refine .q (op_eqErrNil (e := 0) Tryd.underlying31 rfl rfl) ⟨_, rfl, rfl⟩ rfl ?_
  refine .q (op_pick_true rfl rfl rfl) trivial rfl ?_
  refine .q (op_assign rfl) trivial rfl ?_
  refine .nil ?_
  show Ev _ _ _ _ _
  refine .ret ?_
  show RetOk _ _ _ _ _ _ _
  exact ret1v rfl (.inl rfl) rfl rfl trivial
theorem packetLong_ev (eo : Nat → Nat × Nat) (hd : ∀ i j, i < 20 → j < 20 → i ≠ j → eo i ≠ eo j) (e : Nat) (n : Int) (b : Bool) : Meets Tryd.prog 8 [.i64 n, .bool b] [(21, some ⟨.aggI qsTab, e, false⟩), (2, some ⟨.agg [.err 192 (1) (offE eo (1))], errT, false⟩), (0, some ⟨.agg [.err 192 (2) (offE eo (2))], errT, false⟩), (3, some ⟨.agg [.err 192 (3) (offE eo (3))], errT, false⟩), (4, some ⟨.agg [.err 192 (4) (offE eo (4))], errT, false⟩), (1, some ⟨.agg [.err 192 (5) (offE eo (5))], errT, false⟩), (5, some ⟨.agg [.err 192 (6) (offE eo (6))], errT, false⟩), (6, some ⟨.agg [.err 192 (7) (offE eo (7))], errT, false⟩), (7, some ⟨.agg [.err 192 (8) (offE eo (8))], errT, false⟩), (8, some ⟨.agg [.err 192 (9) (offE eo (9))], errT, false⟩), (9, some ⟨.agg [.err 192 (10) (offE eo (10))], errT, false⟩), (10, some ⟨.agg [.err 192 (11) (offE eo (11))], errT, false⟩), (11, some ⟨.agg [.err 192 (12) (offE eo (12))], errT, false⟩), (12, some ⟨.agg [.err 192 (13) (offE eo (13))], errT, false⟩), (13, some ⟨.agg [.err 192 (14) (offE eo (14))], errT, false⟩), (14, some ⟨.agg [.err 192 (15) (offE eo (15))], errT, false⟩), (15, some ⟨.agg [.err 192 (16) (offE eo (16))], errT, false⟩), (16, some ⟨.agg [.err 192 (17) (offE eo (17))], errT, false⟩), (17, some ⟨.agg [.err 192 (18) (offE eo (18))], errT, false⟩), (18, some ⟨.agg [.err 192 (19) (offE eo (19))], errT, false⟩), (19, some ⟨.agg [.err 192 (20) (offE eo (20))], errT, false⟩), (401, some ⟨.agg [], errT, false⟩), (402, some ⟨.agg [], errT, false⟩), (403, some ⟨.agg [], errT, false⟩), (404, some ⟨.agg [], errT, false⟩), (405, some ⟨.agg [], errT, false⟩), (406, some ⟨.agg [], errT, false⟩), (407, some ⟨.agg [], errT, false⟩), (408, some ⟨.agg [], errT, false⟩), (409, some ⟨.agg [], errT, false⟩), (410, some ⟨.agg [], errT, false⟩), (411, some ⟨.agg [], errT, false⟩), (412, some ⟨.agg [], errT, false⟩), (413, some ⟨.agg [], errT, false⟩), (414, some ⟨.agg [], errT, false⟩), (415, some ⟨.agg [], errT, false⟩), (416, some ⟨.agg [], errT, false⟩), (417, some ⟨.agg [], errT, false⟩), (418, some ⟨.agg [], errT, false⟩), (419, some ⟨.agg [], errT, false⟩), (420, some ⟨.agg [], errT, false⟩)] (.bool true) [] := by
  obtain ⟨N, hN⟩ : ∃ N : Nat, 32760 + n % 16 = (N : Int) := ⟨(32760 + n % 16).toNat, by omega⟩
  by_cases h : 32768 < N
  · cases b
    · exact long_f_big eo hd e n N hN h
    · exact long_t_big eo hd e n N hN h
  · cases b
    · exact long_f_ok eo hd e n N hN (by omega)
    · exact long_t_ok eo hd e n N hN (by omega)
end Go.Proofs.YtgblhjmnenmlkaaDoor
