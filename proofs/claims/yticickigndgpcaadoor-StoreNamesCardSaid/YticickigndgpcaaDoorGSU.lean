/-
  Texts of this claim.
-/
import Derived.Test.YticickigndgpcaaDoorGSE
import Derived.Test.YticickigndgpcaaDoorGSY
import Derived.Test.YticickigndgpcaaDoorGSX
import Derived.Test.YticickigndgpcaaDoorGSW
import Derived.Test.YticickigndgpcaaDoorGSZ
namespace Go.Proofs.YticickigndgpcaaDoor
open Go.RowKit
set_option maxRecDepth 100000 in
theorem cut_ev (s : List UInt8) (n : Nat) (hs : s.length ≤ maxLen) (hn : n ≤ 1000) : Meets Tryd.prog 8 [.str s, .i64 n] [] (.str (s.take n)) [] := by
 refine meets_of_ev (nt := 13) Tryd.func8 rfl rfl (Nat.le_of_ble_eq_true rfl) ?_
 refine .seq ?_
 refine .region ?_
 refine .q (op_assign rfl) trivial rfl ?_
 refine .nil ?_
 show Ev _ _ _ _ _
 refine .seq ?_
 refine .seq ?_
 refine .region ?_
 refine .q (op_move rfl) trivial rfl ?_
 refine .q (op_len_str Tryd.underlying9 rfl) trivial rfl ?_
 refine .q (op_move rfl) trivial rfl ?_
 refine .q (op_cmpI rfl rfl rfl) trivial rfl ?_
 refine .nil ?_
 show Ev _ _ _ _ _
 refine .cond rfl (fun hc8 => ?_) (fun hc8 => ?_)
 ·simp only [decide_eq_true_eq, decide_eq_false_iff_not, beq_iff_eq, bne_iff_ne, ne_eq, beq_eq_false_iff_ne, bne_eq_false_iff_eq] at hc8
  refine .seq ?_
  refine .region ?_
  refine .q (op_move rfl) trivial rfl ?_
  refine .q (op_move rfl) trivial rfl ?_
  refine .q (ap_slice_str_hi Tryd.underlying9 rfl (bnd_some rfl rfl) (by first | omega | (simp only [AV.len]; omega) | (simp only [AV.len, List.length_set]; omega) | assumption | (simp [AV.len]; done))) trivial rfl ?_
  refine .q (op_assign rfl) trivial rfl ?_
  refine .nil ?_
  show Ev _ _ _ _ _
  refine .ret ?_
  show RetOk _ _ _ _ _ _ _
  first
   | exact ret1v rfl (.inl rfl) rfl (congrArg AV.str (by first | rfl | (rw [List.take_of_length_le (by omega)]))) trivial
   | exact ret1v rfl (.inl rfl) rfl rfl trivial
 ·simp only [decide_eq_true_eq, decide_eq_false_iff_not, beq_iff_eq, bne_iff_ne, ne_eq, beq_eq_false_iff_ne, bne_eq_false_iff_eq] at hc8
  refine .skip ?_
  show Ev _ _ _ _ _
  refine .seq ?_
  refine .region ?_
  refine .q (op_move rfl) trivial rfl ?_
  refine .q (op_assign rfl) trivial rfl ?_
  refine .nil ?_
  show Ev _ _ _ _ _
  refine .ret ?_
  show RetOk _ _ _ _ _ _ _
  first
   | exact ret1v rfl (.inl rfl) rfl (congrArg AV.str (by first | rfl | (rw [List.take_of_length_le (by omega)]))) trivial
   | exact ret1v rfl (.inl rfl) rfl rfl trivial
end Go.Proofs.YticickigndgpcaaDoor
namespace Go.Proofs.YticickigndgpcaaDoor
open Go.RowKit
open Go.Maps Go.Sort Go.Shelf
theorem sorted1_ev {v : AV} {ow ow2 : Bool} : Meets Tryd.prog 47 [.clo 58 [.ptr 500 0]] [(500, some ⟨.agg [.mp 501], 87, ow⟩), (501, some ⟨.mapc [tnV] [v] [0] 1, 0, ow2⟩)] (.sl 1000 0 1 1) [(1000, some ⟨.aggS [[116]], 9, true⟩)] := by
  have h := sorted_ev (ss := [[116]]) (vs := [v]) (bs := [0]) (clk := 1) (ow := ow) (ow2 := ow2) (by simp) (by simp) (by simp) (by simp) (by decide) (by intro s hs; rw [List.mem_singleton] at hs; subst hs; decide)
  rw [List.mergeSort_singleton] at h
  exact h.less ⟨⟨_, 1, rfl, rfl⟩, trivial⟩
set_option maxRecDepth 100000 in
theorem keys_ev  : Meets Tryd.prog 48 [.mp 500] [] (.clo 58 [.ptr 1000 0]) [(1000, some ⟨.agg [.mp 500], 87, true⟩)] := by
 refine meets_of_ev (nt := 4) Tryd.func48 rfl rfl (Nat.le_of_ble_eq_true rfl) ?_
 refine .seq ?_
 refine .region ?_
 refine .a (op_boxOne rfl rfl) trivial rfl ?_
 refine .q (op_assign rfl) trivial rfl ?_
 refine .nil ?_
 show Ev _ _ _ _ _
 refine .seq ?_
 refine .region ?_
 refine .q (op_makeFunc1 rfl) trivial rfl ?_
 refine .q (op_assign rfl) trivial rfl ?_
 refine .nil ?_
 show Ev _ _ _ _ _
 refine .ret ?_
 show RetOk _ _ _ _ _ _ _
 exact ret1v rfl (.inl rfl) rfl (rfl) ⟨rfl, trivial⟩
set_option maxRecDepth 100000 in
theorem tenants_ev  : Meets Tryd.prog 29 [.ptr 500 0] [(500, some ⟨.agg [.i64 4, .i64 4, .mp 501, .mp 502], 90, false⟩), (501, some ⟨.mapc [tnV] [.ptr 503 0] [0] 1, 0, false⟩)] (.sl 1008 0 1 1) [(1008, some ⟨.aggS [[116]], 9, true⟩)] := by
 refine meets_of_ev (nt := 9) Tryd.func29 rfl rfl (Nat.le_of_ble_eq_true rfl) ?_
 refine .seq ?_
 refine .region ?_
 refine .q (op_assign rfl) trivial rfl ?_
 refine .nil ?_
 show Ev _ _ _ _ _
 refine .seq ?_
 refine .region ?_
 refine .q (op_move rfl) trivial rfl ?_
 refine .q (op_nilCheck rfl) trivial rfl ?_
 refine .q (op_fieldAddr (m := 0) Tryd.underlying90 rfl (by kernel_rfl) rfl) trivial rfl ?_
 refine .as (.ptr 500 2) rfl ?_
 refine .q (op_load Tryd.underlying87 rfl rfl rfl rfl (by show 2 < 4; decide)) trivial rfl ?_
 refine .a (op_call (U := [(1000, some ⟨.agg [.mp 501], 87, true⟩)]) [(500, 501)] [(1000, 1000)] (keys_ev) Tryd.func48 (by kernel_rfl) rfl rfl rfl (⟨⟨_, rfl, rfl, rfl⟩, trivial⟩) (trivial) (⟨⟨1000, _, rfl, rfl, rfl, rfl, .inl rfl⟩, trivial⟩) (trivial) rfl) trivial rfl ?_
 refine .a (op_call (U := [(1008, some ⟨.aggS [[116]], 9, true⟩)]) [(500, 1000), (501, 501), (503, 503)] [(1008, 1000)] (sorted1_ev (v := .ptr 503 0) (ow := false) (ow2 := false)) Tryd.func47 (by kernel_rfl) rfl rfl rfl (⟨⟨_, rfl, rfl, rfl⟩, trivial⟩) (⟨⟨_, _, rfl, rfl, rfl, rfl, (fun h => by cases h), rfl⟩, ⟨_, _, rfl, rfl, rfl, rfl, (fun h => by cases h), rfl⟩, trivial⟩) (⟨⟨1000, _, rfl, rfl, rfl, rfl, .inl rfl⟩, trivial⟩) (⟨(fun h => by cases h), (fun h => by cases h), trivial⟩) rfl) trivial rfl ?_
 refine .q (op_assign rfl) trivial rfl ?_
 refine .nil ?_
 show Ev _ _ _ _ _
 refine .ret ?_
 show RetOk _ _ _ _ _ _ _
 exact ret1v rfl (.inl rfl) rfl (rfl) ⟨rfl, trivial⟩
set_option maxRecDepth 100000 in
theorem awake16_ev (eo : Nat → Nat × Nat) (hd : ∀ i j, i < 20 → j < 20 → i ≠ j → eo i ≠ eo j) : Meets Tryd.prog 7 [] [(3, some ⟨.agg [.err 155 (1) (offE eo (1))], errT, false⟩), (4, some ⟨.agg [.err 155 (2) (offE eo (2))], errT, false⟩), (5, some ⟨.agg [.err 155 (3) (offE eo (3))], errT, false⟩), (6, some ⟨.agg [.err 155 (4) (offE eo (4))], errT, false⟩), (7, some ⟨.agg [.err 155 (5) (offE eo (5))], errT, false⟩), (8, some ⟨.agg [.err 155 (6) (offE eo (6))], errT, false⟩), (9, some ⟨.agg [.err 155 (7) (offE eo (7))], errT, false⟩), (2, some ⟨.agg [.err 155 (8) (offE eo (8))], errT, false⟩), (1, some ⟨.agg [.err 155 (9) (offE eo (9))], errT, false⟩), (10, some ⟨.agg [.err 155 (10) (offE eo (10))], errT, false⟩), (11, some ⟨.agg [.err 155 (11) (offE eo (11))], errT, false⟩), (12, some ⟨.agg [.err 155 (12) (offE eo (12))], errT, false⟩), (13, some ⟨.agg [.err 155 (13) (offE eo (13))], errT, false⟩), (14, some ⟨.agg [.err 155 (14) (offE eo (14))], errT, false⟩), (15, some ⟨.agg [.err 155 (15) (offE eo (15))], errT, false⟩), (16, some ⟨.agg [.err 155 (16) (offE eo (16))], errT, false⟩), (0, some ⟨.agg [.err 155 (17) (offE eo (17))], errT, false⟩), (17, some ⟨.agg [.err 155 (18) (offE eo (18))], errT, false⟩), (18, some ⟨.agg [.err 155 (19) (offE eo (19))], errT, false⟩), (19, some ⟨.agg [.err 155 (20) (offE eo (20))], errT, false⟩), (401, some ⟨.agg [], errT, false⟩), (402, some ⟨.agg [], errT, false⟩), (403, some ⟨.agg [], errT, false⟩), (404, some ⟨.agg [], errT, false⟩), (405, some ⟨.agg [], errT, false⟩), (406, some ⟨.agg [], errT, false⟩), (407, some ⟨.agg [], errT, false⟩), (408, some ⟨.agg [], errT, false⟩), (409, some ⟨.agg [], errT, false⟩), (410, some ⟨.agg [], errT, false⟩), (411, some ⟨.agg [], errT, false⟩), (412, some ⟨.agg [], errT, false⟩), (413, some ⟨.agg [], errT, false⟩), (414, some ⟨.agg [], errT, false⟩), (415, some ⟨.agg [], errT, false⟩), (416, some ⟨.agg [], errT, false⟩), (417, some ⟨.agg [], errT, false⟩), (418, some ⟨.agg [], errT, false⟩), (419, some ⟨.agg [], errT, false⟩), (420, some ⟨.agg [], errT, false⟩)] (.bool true) [] := by
 refine meets_of_ev (nt := 45) Tryd.func7 rfl rfl (Nat.le_of_ble_eq_true rfl) ?_
 refine .seq ?_
 refine .region ?_
 refine .q (op_assign rfl) trivial rfl ?_
 refine .nil ?_
 show Ev _ _ _ _ _
 refine .seq ?_
 refine .region ?_
 refine .a (op_call (U := [(1000, some ⟨.agg [.i64 4, .i64 4, .mp 1001, .mp 1002], 90, true⟩), (1001, some ⟨.mapc [] [] [] 0, 0, true⟩), (1002, some ⟨.mapc [] [] [] 0, 0, true⟩)]) [] [(1000, 1016), (1001, 1000), (1002, 1008)] (snew_ev 4 4) Tryd.func26 (by kernel_rfl) rfl rfl rfl (⟨⟨_, rfl, rfl, rfl⟩, ⟨_, rfl, rfl, rfl⟩, trivial⟩) (trivial) (⟨⟨1016, _, rfl, rfl, rfl, rfl, .inl rfl⟩, ⟨1000, _, rfl, rfl, rfl, rfl, .inl rfl⟩, ⟨1008, _, rfl, rfl, rfl, rfl, .inl rfl⟩, trivial⟩) (trivial) rfl) trivial rfl ?_
 refine .q (op_assign rfl) trivial rfl ?_
 refine .nil ?_
 show Ev _ _ _ _ _
 refine .seq ?_
 refine .seq ?_
 refine .region ?_
 refine .q (op_move rfl) trivial rfl ?_
 refine .q (op_eqPtrNil Tryd.underlying57 rfl rfl rfl) trivial rfl ?_
 refine .q (op_move rfl) trivial rfl ?_
 refine .know (b' := false) (rfl) ?_
 refine .q (op_move rfl) ⟨_, rfl, rfl⟩ rfl ?_
 refine .q (op_buildArr (us := [(0, _)]) Tryd.underlying60 inf5.sz zero60 rel_zero60 rfl (by decide) ⟨rfl, rfl, rfl, trivial⟩ rfl) ⟨_, rfl, rfl⟩ rfl ?_
 refine .a (op_call (U := [(1000, some ⟨.agg [.i64 4, .i64 4, .mp 1001, .mp 1002], 90, true⟩), (1001, some ⟨.mapc [tnV] [.ptr 1008 0] [0] 1, 0, true⟩), (1002, some ⟨.mapc [kyV] [.ptr 1008 0] [0] 1, 0, true⟩), (1008, some ⟨.agg [.str [116], .sl 1009 0 1 32], 94, true⟩), (1009, some ⟨(.aggB (1 :: List.replicate 31 0)), 60, true⟩)]) [(500, 1000), (501, 1001), (502, 1002)] [(1008, 1144), (1009, 1288)] (sadd_ev) Tryd.func27 (by kernel_rfl) rfl rfl rfl (⟨⟨_, rfl, rfl, rfl⟩, ⟨_, rfl, rfl, rfl⟩, ⟨_, rfl, rfl, rfl⟩, trivial⟩) (⟨⟨_, _, rfl, rfl, rfl, rfl, id, rfl⟩, ⟨_, _, rfl, rfl, rfl, rfl, id, rfl⟩, ⟨_, _, rfl, rfl, rfl, rfl, id, rfl⟩, trivial⟩) (⟨⟨500, _, rfl, rfl, rfl, rfl, .inr ⟨rfl, _, rfl, rfl⟩⟩, ⟨501, _, rfl, rfl, rfl, rfl, .inr ⟨rfl, _, rfl, rfl⟩⟩, ⟨502, _, rfl, rfl, rfl, rfl, .inr ⟨rfl, _, rfl, rfl⟩⟩, ⟨1144, _, rfl, rfl, rfl, rfl, .inl rfl⟩, ⟨1288, _, rfl, rfl, rfl, rfl, .inl rfl⟩, trivial⟩) (⟨(fun _ => ⟨1000, _, rfl, rfl⟩), (fun _ => ⟨1001, _, rfl, rfl⟩), (fun _ => ⟨1002, _, rfl, rfl⟩), trivial⟩) rfl) ⟨_, rfl, rfl⟩ rfl ?_
 refine .asR (.err 155 0 (0, 0)) (nil_err _ _) ?_
 refine .q (op_eqErrNil (e := 0) Tryd.underlying47 rfl rfl) ⟨_, rfl, rfl⟩ rfl ?_
 refine .q (op_pick_false rfl rfl rfl) trivial rfl ?_
 refine .q (op_move rfl) trivial rfl ?_
 refine .know (b' := false) (rfl) ?_
 refine .q (op_move rfl) ⟨_, rfl, rfl⟩ rfl ?_
 refine .q (op_buildArr (us := [(0, _)]) Tryd.underlying60 inf5.sz zero60 rel_zero60 rfl (by decide) ⟨rfl, rfl, rfl, trivial⟩ rfl) ⟨_, rfl, rfl⟩ rfl ?_
 refine .q (op_call (U := []) [(500, 1000), (501, 1001), (502, 1002), (503, 1008), (504, 1009)] [] (sadd2_ev eo) Tryd.func27 (by kernel_rfl) rfl rfl rfl (⟨⟨_, rfl, rfl, rfl⟩, ⟨_, rfl, rfl, rfl⟩, ⟨_, rfl, rfl, rfl⟩, trivial⟩) (⟨⟨_, _, rfl, rfl, rfl, rfl, (fun h => by cases h), rfl⟩, ⟨_, _, rfl, rfl, rfl, rfl, (fun h => by cases h), rfl⟩, ⟨_, _, rfl, rfl, rfl, rfl, (fun h => by cases h), rfl⟩, ⟨_, _, rfl, rfl, rfl, rfl, (fun h => by cases h), rfl⟩, ⟨_, _, rfl, rfl, rfl, rfl, (fun h => by cases h), rfl⟩, trivial⟩) (trivial) (⟨(fun h => by cases h), (fun h => by cases h), (fun h => by cases h), (fun h => by cases h), (fun h => by cases h), trivial⟩) rfl) ⟨_, rfl, rfl⟩ rfl ?_
 refine .q (op_call (U := []) [] [] (code_9 eo hd) Tryd.func25 (by kernel_rfl) rfl rfl rfl (⟨⟨_, rfl, rfl, rfl⟩, trivial⟩) (⟨⟨_, _, rfl, rfl, rfl, rfl, (fun h => by cases h), rfl⟩, ⟨_, _, rfl, rfl, rfl, rfl, (fun h => by cases h), rfl⟩, ⟨_, _, rfl, rfl, rfl, rfl, (fun h => by cases h), rfl⟩, ⟨_, _, rfl, rfl, rfl, rfl, (fun h => by cases h), rfl⟩, ⟨_, _, rfl, rfl, rfl, rfl, (fun h => by cases h), rfl⟩, ⟨_, _, rfl, rfl, rfl, rfl, (fun h => by cases h), rfl⟩, ⟨_, _, rfl, rfl, rfl, rfl, (fun h => by cases h), rfl⟩, ⟨_, _, rfl, rfl, rfl, rfl, (fun h => by cases h), rfl⟩, ⟨_, _, rfl, rfl, rfl, rfl, (fun h => by cases h), rfl⟩, ⟨_, _, rfl, rfl, rfl, rfl, (fun h => by cases h), rfl⟩, ⟨_, _, rfl, rfl, rfl, rfl, (fun h => by cases h), rfl⟩, ⟨_, _, rfl, rfl, rfl, rfl, (fun h => by cases h), rfl⟩, ⟨_, _, rfl, rfl, rfl, rfl, (fun h => by cases h), rfl⟩, ⟨_, _, rfl, rfl, rfl, rfl, (fun h => by cases h), rfl⟩, ⟨_, _, rfl, rfl, rfl, rfl, (fun h => by cases h), rfl⟩, ⟨_, _, rfl, rfl, rfl, rfl, (fun h => by cases h), rfl⟩, ⟨_, _, rfl, rfl, rfl, rfl, (fun h => by cases h), rfl⟩, ⟨_, _, rfl, rfl, rfl, rfl, (fun h => by cases h), rfl⟩, ⟨_, _, rfl, rfl, rfl, rfl, (fun h => by cases h), rfl⟩, ⟨_, _, rfl, rfl, rfl, rfl, (fun h => by cases h), rfl⟩, ⟨_, _, rfl, rfl, rfl, rfl, (fun h => by cases h), rfl⟩, ⟨_, _, rfl, rfl, rfl, rfl, (fun h => by cases h), rfl⟩, ⟨_, _, rfl, rfl, rfl, rfl, (fun h => by cases h), rfl⟩, ⟨_, _, rfl, rfl, rfl, rfl, (fun h => by cases h), rfl⟩, ⟨_, _, rfl, rfl, rfl, rfl, (fun h => by cases h), rfl⟩, ⟨_, _, rfl, rfl, rfl, rfl, (fun h => by cases h), rfl⟩, ⟨_, _, rfl, rfl, rfl, rfl, (fun h => by cases h), rfl⟩, ⟨_, _, rfl, rfl, rfl, rfl, (fun h => by cases h), rfl⟩, ⟨_, _, rfl, rfl, rfl, rfl, (fun h => by cases h), rfl⟩, ⟨_, _, rfl, rfl, rfl, rfl, (fun h => by cases h), rfl⟩, ⟨_, _, rfl, rfl, rfl, rfl, (fun h => by cases h), rfl⟩, ⟨_, _, rfl, rfl, rfl, rfl, (fun h => by cases h), rfl⟩, ⟨_, _, rfl, rfl, rfl, rfl, (fun h => by cases h), rfl⟩, ⟨_, _, rfl, rfl, rfl, rfl, (fun h => by cases h), rfl⟩, ⟨_, _, rfl, rfl, rfl, rfl, (fun h => by cases h), rfl⟩, ⟨_, _, rfl, rfl, rfl, rfl, (fun h => by cases h), rfl⟩, ⟨_, _, rfl, rfl, rfl, rfl, (fun h => by cases h), rfl⟩, ⟨_, _, rfl, rfl, rfl, rfl, (fun h => by cases h), rfl⟩, ⟨_, _, rfl, rfl, rfl, rfl, (fun h => by cases h), rfl⟩, ⟨_, _, rfl, rfl, rfl, rfl, (fun h => by cases h), rfl⟩, trivial⟩) (trivial) (⟨(fun h => by cases h), (fun h => by cases h), (fun h => by cases h), (fun h => by cases h), (fun h => by cases h), (fun h => by cases h), (fun h => by cases h), (fun h => by cases h), (fun h => by cases h), (fun h => by cases h), (fun h => by cases h), (fun h => by cases h), (fun h => by cases h), (fun h => by cases h), (fun h => by cases h), (fun h => by cases h), (fun h => by cases h), (fun h => by cases h), (fun h => by cases h), (fun h => by cases h), (fun h => by cases h), (fun h => by cases h), (fun h => by cases h), (fun h => by cases h), (fun h => by cases h), (fun h => by cases h), (fun h => by cases h), (fun h => by cases h), (fun h => by cases h), (fun h => by cases h), (fun h => by cases h), (fun h => by cases h), (fun h => by cases h), (fun h => by cases h), (fun h => by cases h), (fun h => by cases h), (fun h => by cases h), (fun h => by cases h), (fun h => by cases h), (fun h => by cases h), trivial⟩) rfl) ⟨_, rfl, rfl⟩ rfl ?_
 refine .q (op_cmpI rfl rfl rfl) ⟨_, rfl, rfl⟩ rfl ?_
 refine .q (op_pick_false rfl rfl rfl) trivial rfl ?_
 refine .nil ?_
 show Ev _ _ _ _ _
 refine .cond_false rfl (rfl) ?_
 refine .skip ?_
 show Ev _ _ _ _ _
 refine .seq ?_
 refine .region ?_
 refine .q (op_move rfl) trivial rfl ?_
 refine .q (op_buildArr (us := [(0, _)]) Tryd.underlying60 inf5.sz zero60 rel_zero60 rfl (by decide) ⟨rfl, rfl, rfl, trivial⟩ rfl) trivial rfl ?_
 refine .q (op_call (U := []) [(500, 1000), (501, 1001), (502, 1002), (503, 1008), (504, 1009)] [] (slook_ev) Tryd.func28 (by kernel_rfl) rfl rfl rfl (⟨⟨_, rfl, rfl, rfl⟩, ⟨_, rfl, rfl, rfl⟩, trivial⟩) (⟨⟨_, _, rfl, rfl, rfl, rfl, (fun h => by cases h), rfl⟩, ⟨_, _, rfl, rfl, rfl, rfl, (fun h => by cases h), rfl⟩, ⟨_, _, rfl, rfl, rfl, rfl, (fun h => by cases h), rfl⟩, ⟨_, _, rfl, rfl, rfl, rfl, (fun h => by cases h), rfl⟩, trivial⟩) (trivial) (⟨(fun h => by cases h), (fun h => by cases h), (fun h => by cases h), (fun h => by cases h), trivial⟩) rfl) trivial rfl ?_
 refine .q (op_move rfl) trivial rfl ?_
 refine .q (op_extract rfl rfl) trivial rfl ?_
 refine .q (op_extract rfl rfl) trivial rfl ?_
 refine .q (op_assign rfl) trivial rfl ?_
 refine .q (op_assign rfl) trivial rfl ?_
 refine .nil ?_
 show Ev _ _ _ _ _
 refine .seq ?_
 refine .region ?_
 refine .q (op_move rfl) trivial rfl ?_
 refine .q (op_eqS rfl rfl rfl) trivial rfl ?_
 refine .q (op_move rfl) trivial rfl ?_
 refine .know (b' := true) (by decide) ?_
 refine .q (op_move rfl) ⟨_, rfl, rfl⟩ rfl ?_
 refine .asR (.err 155 0 (0, 0)) (nil_err _ _) ?_
 refine .q (op_eqErrNil (e := 0) Tryd.underlying47 rfl rfl) ⟨_, rfl, rfl⟩ rfl ?_
 refine .q (op_pick_true rfl rfl rfl) trivial rfl ?_
 refine .q (op_move rfl) trivial rfl ?_
 refine .know (b' := true) (by decide) ?_
 refine .q (op_move rfl) ⟨_, rfl, rfl⟩ rfl ?_
 refine .a (op_call (U := [(1016, some ⟨.aggS [[116]], 9, true⟩)]) [(500, 1000), (501, 1001), (502, 1002), (503, 1008)] [(1016, 1008)] (tenants_ev) Tryd.func29 (by kernel_rfl) rfl rfl rfl (⟨⟨_, rfl, rfl, rfl⟩, trivial⟩) (⟨⟨_, _, rfl, rfl, rfl, rfl, (fun h => by cases h), rfl⟩, ⟨_, _, rfl, rfl, rfl, rfl, (fun h => by cases h), rfl⟩, trivial⟩) (⟨⟨1008, _, rfl, rfl, rfl, rfl, .inl rfl⟩, trivial⟩) (⟨(fun h => by cases h), (fun h => by cases h), trivial⟩) rfl) ⟨_, rfl, rfl⟩ rfl ?_
 refine .q (op_len_sl Tryd.underlying63 rfl) ⟨_, rfl, rfl⟩ rfl ?_
 refine .q (op_cmpI rfl rfl rfl) ⟨_, rfl, rfl⟩ rfl ?_
 refine .q (op_pick_true rfl rfl rfl) trivial rfl ?_
 refine .q (op_move rfl) trivial rfl ?_
 refine .know (b' := true) (by decide) ?_
 refine .q (op_call (U := []) [] [] (nameN_ev [97, 45, 98] (by decide)) Tryd.func9 (by kernel_rfl) rfl rfl rfl (⟨⟨_, rfl, rfl, rfl⟩, trivial⟩) (trivial) (trivial) (trivial) rfl) ⟨_, rfl, rfl⟩ rfl ?_
 refine .q (op_pick_true rfl rfl rfl) trivial rfl ?_
 refine .q (op_move rfl) trivial rfl ?_
 refine .know (b' := true) (by decide) ?_
 refine .q (op_call (U := []) [] [] (nameN_ev [45, 97] (by decide)) Tryd.func9 (by kernel_rfl) rfl rfl rfl (⟨⟨_, rfl, rfl, rfl⟩, trivial⟩) (trivial) (trivial) (trivial) rfl) ⟨_, rfl, rfl⟩ rfl ?_
 refine .q (op_notB rfl) ⟨_, rfl, rfl⟩ rfl ?_
 refine .q (op_pick_true rfl rfl rfl) trivial rfl ?_
 refine .q (op_assign rfl) trivial rfl ?_
 refine .nil ?_
 show Ev _ _ _ _ _
 refine .ret ?_
 show RetOk _ _ _ _ _ _ _
 exact ret1v rfl (.inl rfl) rfl (rfl) trivial
set_option maxRecDepth 100000 in
theorem storeNames_ev (eo : Nat → Nat × Nat) (hd : ∀ i j, i < 20 → j < 20 → i ≠ j → eo i ≠ eo j) (s : List UInt8) (hs : s.length ≤ maxLen) : Meets Tryd.prog 3 [.str s] [(3, some ⟨.agg [.err 155 (1) (offE eo (1))], errT, false⟩), (4, some ⟨.agg [.err 155 (2) (offE eo (2))], errT, false⟩), (5, some ⟨.agg [.err 155 (3) (offE eo (3))], errT, false⟩), (6, some ⟨.agg [.err 155 (4) (offE eo (4))], errT, false⟩), (7, some ⟨.agg [.err 155 (5) (offE eo (5))], errT, false⟩), (8, some ⟨.agg [.err 155 (6) (offE eo (6))], errT, false⟩), (9, some ⟨.agg [.err 155 (7) (offE eo (7))], errT, false⟩), (2, some ⟨.agg [.err 155 (8) (offE eo (8))], errT, false⟩), (1, some ⟨.agg [.err 155 (9) (offE eo (9))], errT, false⟩), (10, some ⟨.agg [.err 155 (10) (offE eo (10))], errT, false⟩), (11, some ⟨.agg [.err 155 (11) (offE eo (11))], errT, false⟩), (12, some ⟨.agg [.err 155 (12) (offE eo (12))], errT, false⟩), (13, some ⟨.agg [.err 155 (13) (offE eo (13))], errT, false⟩), (14, some ⟨.agg [.err 155 (14) (offE eo (14))], errT, false⟩), (15, some ⟨.agg [.err 155 (15) (offE eo (15))], errT, false⟩), (16, some ⟨.agg [.err 155 (16) (offE eo (16))], errT, false⟩), (0, some ⟨.agg [.err 155 (17) (offE eo (17))], errT, false⟩), (17, some ⟨.agg [.err 155 (18) (offE eo (18))], errT, false⟩), (18, some ⟨.agg [.err 155 (19) (offE eo (19))], errT, false⟩), (19, some ⟨.agg [.err 155 (20) (offE eo (20))], errT, false⟩), (401, some ⟨.agg [], errT, false⟩), (402, some ⟨.agg [], errT, false⟩), (403, some ⟨.agg [], errT, false⟩), (404, some ⟨.agg [], errT, false⟩), (405, some ⟨.agg [], errT, false⟩), (406, some ⟨.agg [], errT, false⟩), (407, some ⟨.agg [], errT, false⟩), (408, some ⟨.agg [], errT, false⟩), (409, some ⟨.agg [], errT, false⟩), (410, some ⟨.agg [], errT, false⟩), (411, some ⟨.agg [], errT, false⟩), (412, some ⟨.agg [], errT, false⟩), (413, some ⟨.agg [], errT, false⟩), (414, some ⟨.agg [], errT, false⟩), (415, some ⟨.agg [], errT, false⟩), (416, some ⟨.agg [], errT, false⟩), (417, some ⟨.agg [], errT, false⟩), (418, some ⟨.agg [], errT, false⟩), (419, some ⟨.agg [], errT, false⟩), (420, some ⟨.agg [], errT, false⟩)] (.bool true) [] := by
 refine meets_of_ev (nt := 12) Tryd.func3 rfl rfl (Nat.le_of_ble_eq_true rfl) ?_
 refine .seq ?_
 refine .region ?_
 refine .q (op_assign rfl) trivial rfl ?_
 refine .nil ?_
 show Ev _ _ _ _ _
 refine .seq ?_
 refine .seq ?_
 refine .region ?_
 refine .q (op_call (U := []) [] [] (awake16_ev eo hd) Tryd.func7 (by kernel_rfl) rfl rfl rfl (trivial) (⟨⟨_, _, rfl, rfl, rfl, rfl, (fun h => by cases h), rfl⟩, ⟨_, _, rfl, rfl, rfl, rfl, (fun h => by cases h), rfl⟩, ⟨_, _, rfl, rfl, rfl, rfl, (fun h => by cases h), rfl⟩, ⟨_, _, rfl, rfl, rfl, rfl, (fun h => by cases h), rfl⟩, ⟨_, _, rfl, rfl, rfl, rfl, (fun h => by cases h), rfl⟩, ⟨_, _, rfl, rfl, rfl, rfl, (fun h => by cases h), rfl⟩, ⟨_, _, rfl, rfl, rfl, rfl, (fun h => by cases h), rfl⟩, ⟨_, _, rfl, rfl, rfl, rfl, (fun h => by cases h), rfl⟩, ⟨_, _, rfl, rfl, rfl, rfl, (fun h => by cases h), rfl⟩, ⟨_, _, rfl, rfl, rfl, rfl, (fun h => by cases h), rfl⟩, ⟨_, _, rfl, rfl, rfl, rfl, (fun h => by cases h), rfl⟩, ⟨_, _, rfl, rfl, rfl, rfl, (fun h => by cases h), rfl⟩, ⟨_, _, rfl, rfl, rfl, rfl, (fun h => by cases h), rfl⟩, ⟨_, _, rfl, rfl, rfl, rfl, (fun h => by cases h), rfl⟩, ⟨_, _, rfl, rfl, rfl, rfl, (fun h => by cases h), rfl⟩, ⟨_, _, rfl, rfl, rfl, rfl, (fun h => by cases h), rfl⟩, ⟨_, _, rfl, rfl, rfl, rfl, (fun h => by cases h), rfl⟩, ⟨_, _, rfl, rfl, rfl, rfl, (fun h => by cases h), rfl⟩, ⟨_, _, rfl, rfl, rfl, rfl, (fun h => by cases h), rfl⟩, ⟨_, _, rfl, rfl, rfl, rfl, (fun h => by cases h), rfl⟩, ⟨_, _, rfl, rfl, rfl, rfl, (fun h => by cases h), rfl⟩, ⟨_, _, rfl, rfl, rfl, rfl, (fun h => by cases h), rfl⟩, ⟨_, _, rfl, rfl, rfl, rfl, (fun h => by cases h), rfl⟩, ⟨_, _, rfl, rfl, rfl, rfl, (fun h => by cases h), rfl⟩, ⟨_, _, rfl, rfl, rfl, rfl, (fun h => by cases h), rfl⟩, ⟨_, _, rfl, rfl, rfl, rfl, (fun h => by cases h), rfl⟩, ⟨_, _, rfl, rfl, rfl, rfl, (fun h => by cases h), rfl⟩, ⟨_, _, rfl, rfl, rfl, rfl, (fun h => by cases h), rfl⟩, ⟨_, _, rfl, rfl, rfl, rfl, (fun h => by cases h), rfl⟩, ⟨_, _, rfl, rfl, rfl, rfl, (fun h => by cases h), rfl⟩, ⟨_, _, rfl, rfl, rfl, rfl, (fun h => by cases h), rfl⟩, ⟨_, _, rfl, rfl, rfl, rfl, (fun h => by cases h), rfl⟩, ⟨_, _, rfl, rfl, rfl, rfl, (fun h => by cases h), rfl⟩, ⟨_, _, rfl, rfl, rfl, rfl, (fun h => by cases h), rfl⟩, ⟨_, _, rfl, rfl, rfl, rfl, (fun h => by cases h), rfl⟩, ⟨_, _, rfl, rfl, rfl, rfl, (fun h => by cases h), rfl⟩, ⟨_, _, rfl, rfl, rfl, rfl, (fun h => by cases h), rfl⟩, ⟨_, _, rfl, rfl, rfl, rfl, (fun h => by cases h), rfl⟩, ⟨_, _, rfl, rfl, rfl, rfl, (fun h => by cases h), rfl⟩, ⟨_, _, rfl, rfl, rfl, rfl, (fun h => by cases h), rfl⟩, trivial⟩) (trivial) (⟨(fun h => by cases h), (fun h => by cases h), (fun h => by cases h), (fun h => by cases h), (fun h => by cases h), (fun h => by cases h), (fun h => by cases h), (fun h => by cases h), (fun h => by cases h), (fun h => by cases h), (fun h => by cases h), (fun h => by cases h), (fun h => by cases h), (fun h => by cases h), (fun h => by cases h), (fun h => by cases h), (fun h => by cases h), (fun h => by cases h), (fun h => by cases h), (fun h => by cases h), (fun h => by cases h), (fun h => by cases h), (fun h => by cases h), (fun h => by cases h), (fun h => by cases h), (fun h => by cases h), (fun h => by cases h), (fun h => by cases h), (fun h => by cases h), (fun h => by cases h), (fun h => by cases h), (fun h => by cases h), (fun h => by cases h), (fun h => by cases h), (fun h => by cases h), (fun h => by cases h), (fun h => by cases h), (fun h => by cases h), (fun h => by cases h), (fun h => by cases h), trivial⟩) rfl) trivial rfl ?_
 refine .q (op_notB rfl) trivial rfl ?_
 refine .nil ?_
 show Ev _ _ _ _ _
 refine .cond_false rfl (rfl) ?_
 refine .skip ?_
 show Ev _ _ _ _ _
 refine .seq ?_
 refine .region ?_
 refine .q (op_move rfl) trivial rfl ?_
 refine .q (op_call (U := []) [] [] (cut_ev s 80 hs (by decide)) Tryd.func8 (by kernel_rfl) rfl rfl rfl (⟨⟨_, rfl, rfl, rfl⟩, ⟨_, rfl, rfl, rfl⟩, trivial⟩) (trivial) (trivial) (trivial) rfl) trivial rfl ?_
 refine .q (op_assign rfl) trivial rfl ?_
 refine .nil ?_
 show Ev _ _ _ _ _
 refine .seq ?_
 refine .region ?_
 refine .q (op_move rfl) trivial rfl ?_
 refine .q (op_call (U := []) [] [] (nameN_ev (s.take 80) (Nat.le_trans (by rw [List.length_take]; exact Nat.min_le_left _ _) (by decide : 80 ≤ 9223372036854775000))) Tryd.func9 (by kernel_rfl) rfl rfl rfl (⟨⟨_, rfl, rfl, rfl⟩, trivial⟩) (trivial) (trivial) (trivial) rfl) trivial rfl ?_
 refine .q (op_move rfl) trivial rfl ?_
 refine .q (op_call (U := []) [] [] (rvalid_ev (s.take 80) (Nat.le_trans (by rw [List.length_take]; exact Nat.min_le_left _ _) (by decide : 80 ≤ 9223372036854775000))) Tryd.func10 (by kernel_rfl) rfl rfl rfl (⟨⟨_, rfl, rfl, rfl⟩, trivial⟩) (trivial) (trivial) (trivial) rfl) trivial rfl ?_
 refine .q (op_eqB Tryd.underlying4 rfl rfl rfl) trivial rfl ?_
 refine .as (.bool true) (congrArg AV.bool (by simp)) ?_
 refine .q (op_assign rfl) trivial rfl ?_
 refine .nil ?_
 show Ev _ _ _ _ _
 refine .ret ?_
 show RetOk _ _ _ _ _ _ _
 exact ret1v rfl (.inl rfl) rfl (rfl) trivial
end Go.Proofs.YticickigndgpcaaDoor
namespace Go.Proofs.YticickigndgpcaaDoor
open Go.ChangeShapes Go.WideShapes Go.ChangeAt Go.RowKit
set_option maxRecDepth 100000 in
theorem storeNames_all (s : ByteArray) (W : World) (hs : s.size ≤ maxLen) (h : laidMet Tryd.prog Rows.storeNamesRow.laid W) :
  Calls Tryd.prog 3 #[.string s] W fun e W' => e = .returned (.bool true) ∧ Below W.heap.size W W' := by
 obtain ⟨eo, hd, hkn⟩ := laid_errs h
 refine walk_of_meets_at (errE W eo) (errE_glob _ _) (errE_top _ _) (storeNames_ev eo hd s.data.toList (by rw [Array.length_toList]; exact hs)) rfl (fun i x y hx hy => ?_) (known.spec hkn)
 match i, hx, hy with
 | 0, hx, hy => injection hx with hx; injection hy with hy; subst hx; subst hy; exact .str _
 | i + 1, hx, _ => simp at hx
end Go.Proofs.YticickigndgpcaaDoor
