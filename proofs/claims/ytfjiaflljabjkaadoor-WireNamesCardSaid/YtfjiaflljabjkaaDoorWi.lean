/-
  The fixed fact of layer 9 (awake), and the law WireNames, walked over abstract values.
-/
import Derived.Test.YtfjiaflljabjkaaDoorGY
namespace Go.Proofs.YtfjiaflljabjkaaDoor
open Go.RowKit
def a9a : List UInt8 := [97, 98]
def a9b : List UInt8 := [0, 128]
def a9l : List UInt8 := (textB a9a ++ bigB a9b) ++ boolB true
def a9i0 : DI := ⟨a9l, 0⟩
def a9i1 : DI := (textD a9i0 9).1
def a9i2 : DI := (bigD a9i1 9).1
def a9i3 : DI := (boolD a9i2).1
def a9i4 : DI := endD a9i3
set_option maxRecDepth 100000 in
theorem awake9_ev (eo : Nat → Nat × Nat) : Meets Tryd.prog 11 [] [(2, some ⟨.agg [.err 170 (2) (offE eo (2))], errT, false⟩), (3, some ⟨.agg [.err 170 (4) (offE eo (4))], errT, false⟩), (0, some ⟨.agg [.err 170 (3) (offE eo (3))], errT, false⟩)] (.bool true) [] := by
  have e1 : a9a.length = 2 := rfl
  have e2 : (unsB (shortB a9b)).length = 2 := by decide +kernel
  refine meets_of_ev (nt := 33) Tryd.func11 rfl rfl (Nat.le_of_ble_eq_true rfl) ?_
  refine .seq ?_
  refine .region ?_
  refine .q (op_assign rfl) trivial rfl ?_
  refine .nil ?_
  show Ev _ _ _ _ _
  refine .seq ?_
  refine .region ?_
  refine .a (op_allocRow zero29 rel_zero29 rfl) trivial rfl ?_
  refine .nil ?_
  show Ev _ _ _ _ _
  refine .seq ?_
  refine .region ?_
  refine .a (op_call (U := [(1000, some ⟨.agg [.ptr 1000 0, .sl 1008 0 ((4 + a9a.length)) 1], 29, true⟩), (1008, some ⟨.aggB (textB a9a), 5, true⟩)]) [(500, 1000)] [(1008, 1008)] (text0_ev a9a (by decide)) Tryd.func23 (by kernel_rfl) rfl rfl rfl (⟨⟨_, rfl, rfl, rfl⟩, ⟨_, rfl, rfl, rfl⟩, trivial⟩) (⟨⟨_, _, rfl, rfl, rfl, rfl, id, rfl⟩, trivial⟩) (⟨⟨500, _, rfl, rfl, rfl, rfl, .inr ⟨rfl, _, rfl, rfl⟩⟩, ⟨1008, _, rfl, rfl, rfl, rfl, .inl rfl⟩, trivial⟩) (⟨(fun _ => ⟨1000, _, rfl, rfl⟩), trivial⟩) rfl) trivial rfl ?_
  refine .a (op_call (U := [(1000, some ⟨.agg [.ptr 1000 0, .sl 1016 0 ((4 + a9a.length) + (4 + (unsB (shortB a9b)).length)) 1], 29, true⟩), (1016, some ⟨.aggB ((textB a9a) ++ bigB a9b), 5, true⟩), (1008, none)]) [(500, 1000), (501, 1008)] [(1016, 1000)] (big2_ev a9b (by decide) ((textB a9a)) ((4 + a9a.length)) (by first | exact hn | (simp [length_numB, length_lenB, length_textB]; done) | (simp [length_numB, length_lenB, length_textB]; omega) | omega | decide +kernel) (by omega)) Tryd.func21 (by kernel_rfl) rfl rfl rfl (⟨⟨_, rfl, rfl, rfl⟩, ⟨_, rfl, rfl, rfl⟩, trivial⟩) (⟨⟨_, _, rfl, rfl, rfl, rfl, id, rfl⟩, ⟨_, _, rfl, rfl, rfl, rfl, id, rfl⟩, trivial⟩) (⟨⟨500, _, rfl, rfl, rfl, rfl, .inr ⟨rfl, _, rfl, rfl⟩⟩, ⟨1000, _, rfl, rfl, rfl, rfl, .inl rfl⟩, trivial⟩) (⟨(fun _ => ⟨1000, _, rfl, rfl⟩), (fun _ => ⟨1008, _, rfl, rfl⟩), trivial⟩) rfl) trivial rfl ?_
  refine .a (op_call (U := [(1000, some ⟨.agg [.ptr 1000 0, .sl 1024 0 ((4 + a9a.length) + (4 + (unsB (shortB a9b)).length) + 1) 1], 29, true⟩), (1024, some ⟨.aggB (((textB a9a) ++ bigB a9b) ++ boolB true), 5, true⟩), (1016, none)]) [(500, 1000), (501, 1016)] [(1024, 1000)] (bool2_ev true (((textB a9a) ++ bigB a9b)) ((4 + a9a.length) + (4 + (unsB (shortB a9b)).length)) (by first | exact hn | (simp [length_numB, length_lenB, length_textB]; done) | (simp [length_numB, length_lenB, length_textB]; omega) | omega | decide +kernel) (by omega)) Tryd.func14 (by kernel_rfl) rfl rfl rfl (⟨⟨_, rfl, rfl, rfl⟩, ⟨_, rfl, rfl, rfl⟩, trivial⟩) (⟨⟨_, _, rfl, rfl, rfl, rfl, id, rfl⟩, ⟨_, _, rfl, rfl, rfl, rfl, id, rfl⟩, trivial⟩) (⟨⟨500, _, rfl, rfl, rfl, rfl, .inr ⟨rfl, _, rfl, rfl⟩⟩, ⟨1000, _, rfl, rfl, rfl, rfl, .inl rfl⟩, trivial⟩) (⟨(fun _ => ⟨1000, _, rfl, rfl⟩), (fun _ => ⟨1016, _, rfl, rfl⟩), trivial⟩) rfl) trivial rfl ?_
  refine .nil ?_
  show Ev _ _ _ _ _
  refine .seq ?_
  refine .region ?_
  refine .a (op_call (U := [(1024, some ⟨.aggB ((((textB a9a) ++ bigB a9b) ++ boolB true)), (frz + 5), false⟩)]) [(500, 1000), (501, 1024)] [] (bytes2_ev ((((textB a9a) ++ bigB a9b) ++ boolB true)) ((4 + a9a.length) + (4 + (unsB (shortB a9b)).length) + 1) (by first | rfl | decide +kernel) (by first | decide +kernel | omega) (by first | decide +kernel | omega)) Tryd.func25 (by kernel_rfl) rfl rfl rfl (⟨⟨_, rfl, rfl, rfl⟩, trivial⟩) (⟨⟨_, _, rfl, rfl, rfl, rfl, (fun h => by cases h), rfl⟩, ⟨_, _, rfl, rfl, rfl, rfl, id, rfl⟩, trivial⟩) (⟨⟨501, _, rfl, rfl, rfl, rfl, .inr ⟨rfl, _, rfl, rfl⟩⟩, trivial⟩) (⟨(fun h => by cases h), (fun _ => ⟨1024, _, rfl, rfl⟩), trivial⟩) rfl) trivial rfl ?_
  refine .a (op_call (U := [(1040, some ⟨.agg [.str (DI.mk (a9l) 0).r, .err 170 ((DI.mk (a9l) 0).e) (offE eo ((DI.mk (a9l) 0).e))], 96, true⟩)]) [] [(1040, 1000)] (of_ev (a9l) eo) Tryd.func27 (by kernel_rfl) rfl rfl rfl (⟨⟨_, rfl, rfl, rfl⟩, trivial⟩) (trivial) (⟨⟨1000, _, rfl, rfl, rfl, rfl, .inl rfl⟩, trivial⟩) (trivial) rfl) trivial rfl ?_
  refine .q (op_assign rfl) trivial rfl ?_
  refine .nil ?_
  show Ev _ _ _ _ _
  refine .seq ?_
  refine .region ?_
  refine .q (op_call (U := []) [(500, 1000), (501, 1024)] [] (bytes3_ev ((((textB a9a) ++ bigB a9b) ++ boolB true)) ((4 + a9a.length) + (4 + (unsB (shortB a9b)).length) + 1) (by first | rfl | decide +kernel) (by first | decide +kernel | omega) (by first | decide +kernel | omega)) Tryd.func25 (by kernel_rfl) rfl rfl rfl (⟨⟨_, rfl, rfl, rfl⟩, trivial⟩) (⟨⟨_, _, rfl, rfl, rfl, rfl, (fun h => by cases h), rfl⟩, ⟨_, _, rfl, rfl, rfl, rfl, (fun h => by cases h), rfl⟩, trivial⟩) (trivial) (⟨(fun h => by cases h), (fun h => by cases h), trivial⟩) rfl) trivial rfl ?_
  refine .q (op_eqS rfl rfl rfl) trivial rfl ?_
  refine .q (op_move rfl) trivial rfl ?_
  refine .know (b' := true) (by decide +kernel) ?_
  refine .q (op_move rfl) ⟨_, rfl, rfl⟩ rfl ?_
  refine .q (op_eqPtrNil Tryd.underlying50 rfl rfl rfl) ⟨_, rfl, rfl⟩ rfl ?_
  refine .q (op_pick_true rfl rfl rfl) trivial rfl ?_
  refine .q (op_move rfl) trivial rfl ?_
  refine .know (b' := true) (rfl) ?_
  refine .q (op_move rfl) ⟨_, rfl, rfl⟩ rfl ?_
  refine .a (op_call (U := [(1040, some ⟨.agg [.str (a9i1).r, .err 170 ((a9i1).e) (offE eo ((a9i1).e))], 96, true⟩)]) [(500, 1040)] [] (itext_ev a9i0 9 eo) Tryd.func37 (by kernel_rfl) rfl rfl rfl (⟨⟨_, rfl, rfl, rfl⟩, ⟨_, rfl, rfl, rfl⟩, trivial⟩) (⟨⟨_, _, rfl, rfl, rfl, rfl, id, rfl⟩, ⟨_, _, rfl, rfl, rfl, rfl, (fun h => by cases h), rfl⟩, ⟨_, _, rfl, rfl, rfl, rfl, (fun h => by cases h), rfl⟩, trivial⟩) (⟨⟨500, _, rfl, rfl, rfl, rfl, .inr ⟨rfl, _, rfl, rfl⟩⟩, trivial⟩) (⟨(fun _ => ⟨1040, _, rfl, rfl⟩), (fun h => by cases h), (fun h => by cases h), trivial⟩) rfl) ⟨_, rfl, rfl⟩ rfl ?_
  refine .q (op_eqS rfl rfl rfl) ⟨_, rfl, rfl⟩ rfl ?_
  refine .q (op_pick_true rfl rfl rfl) trivial rfl ?_
  refine .q (op_move rfl) trivial rfl ?_
  refine .know (b' := true) (by decide +kernel) ?_
  refine .q (op_move rfl) ⟨_, rfl, rfl⟩ rfl ?_
  refine .a (op_call (U := [(1040, some ⟨.agg [.str (a9i2).r, .err 170 ((a9i2).e) (offE eo ((a9i2).e))], 96, true⟩)]) [(500, 1040)] [] (ibig_ev a9i1 9 (by decide +kernel) eo) Tryd.func40 (by kernel_rfl) rfl rfl rfl (⟨⟨_, rfl, rfl, rfl⟩, ⟨_, rfl, rfl, rfl⟩, trivial⟩) (⟨⟨_, _, rfl, rfl, rfl, rfl, id, rfl⟩, ⟨_, _, rfl, rfl, rfl, rfl, (fun h => by cases h), rfl⟩, ⟨_, _, rfl, rfl, rfl, rfl, (fun h => by cases h), rfl⟩, ⟨_, _, rfl, rfl, rfl, rfl, (fun h => by cases h), rfl⟩, trivial⟩) (⟨⟨500, _, rfl, rfl, rfl, rfl, .inr ⟨rfl, _, rfl, rfl⟩⟩, trivial⟩) (⟨(fun _ => ⟨1040, _, rfl, rfl⟩), (fun h => by cases h), (fun h => by cases h), (fun h => by cases h), trivial⟩) rfl) ⟨_, rfl, rfl⟩ rfl ?_
  refine .q (op_eqS rfl rfl rfl) ⟨_, rfl, rfl⟩ rfl ?_
  refine .q (op_pick_true rfl rfl rfl) trivial rfl ?_
  refine .q (op_move rfl) trivial rfl ?_
  refine .know (b' := true) (by decide +kernel) ?_
  refine .q (op_move rfl) ⟨_, rfl, rfl⟩ rfl ?_
  refine .a (op_call (U := [(1040, some ⟨.agg [.str (a9i3).r, .err 170 ((a9i3).e) (offE eo ((a9i3).e))], 96, true⟩)]) [(500, 1040)] [] (ibool_ev a9i2 eo) Tryd.func41 (by kernel_rfl) rfl rfl rfl (⟨⟨_, rfl, rfl, rfl⟩, trivial⟩) (⟨⟨_, _, rfl, rfl, rfl, rfl, id, rfl⟩, ⟨_, _, rfl, rfl, rfl, rfl, (fun h => by cases h), rfl⟩, trivial⟩) (⟨⟨500, _, rfl, rfl, rfl, rfl, .inr ⟨rfl, _, rfl, rfl⟩⟩, trivial⟩) (⟨(fun _ => ⟨1040, _, rfl, rfl⟩), (fun h => by cases h), trivial⟩) rfl) ⟨_, rfl, rfl⟩ rfl ?_
  refine .q (op_pick_true rfl rfl rfl) trivial rfl ?_
  refine .q (op_move rfl) trivial rfl ?_
  refine .know (b' := true) (by decide +kernel) ?_
  refine .q (op_move rfl) ⟨_, rfl, rfl⟩ rfl ?_
  refine .a (op_call (U := [(1040, some ⟨.agg [.str (a9i4).r, .err 170 ((a9i4).e) (offE eo ((a9i4).e))], 96, true⟩)]) [(500, 1040)] [] (end_ev a9i3 eo) Tryd.func32 (by kernel_rfl) rfl rfl rfl (⟨⟨_, rfl, rfl, rfl⟩, trivial⟩) (⟨⟨_, _, rfl, rfl, rfl, rfl, id, rfl⟩, ⟨_, _, rfl, rfl, rfl, rfl, (fun h => by cases h), rfl⟩, trivial⟩) (⟨⟨500, _, rfl, rfl, rfl, rfl, .inr ⟨rfl, _, rfl, rfl⟩⟩, trivial⟩) (⟨(fun _ => ⟨1040, _, rfl, rfl⟩), (fun h => by cases h), trivial⟩) rfl) ⟨_, rfl, rfl⟩ rfl ?_
  refine .q (op_eqErrNil (e := (endD a9i3).e) Tryd.underlying61 rfl rfl) ⟨_, rfl, rfl⟩ rfl ?_
  refine .q (op_pick_true rfl rfl rfl) trivial rfl ?_
  refine .q (op_assign rfl) trivial rfl ?_
  refine .nil ?_
  show Ev _ _ _ _ _
  refine .ret ?_
  show RetOk _ _ _ _ _ _ _
  exact ret1v rfl (.inl rfl) rfl (congrArg AV.bool (by decide +kernel)) trivial
set_option maxRecDepth 100000 in
theorem wireNames_ev (eo : Nat → Nat × Nat) (s : List UInt8) (hs : s.length ≤ maxLen) : Meets Tryd.prog 5 [.str s] [(2, some ⟨.agg [.err 170 (2) (offE eo (2))], errT, false⟩), (3, some ⟨.agg [.err 170 (4) (offE eo (4))], errT, false⟩), (0, some ⟨.agg [.err 170 (3) (offE eo (3))], errT, false⟩)] (.bool true) [] := by
  have hs2 : s.length ≤ 9223372036854775807 := by unfold maxLen at hs; omega
  refine meets_of_ev (nt := 12) Tryd.func5 rfl rfl (Nat.le_of_ble_eq_true rfl) ?_
  refine .seq ?_
  refine .region ?_
  refine .q (op_assign rfl) trivial rfl ?_
  refine .nil ?_
  show Ev _ _ _ _ _
  refine .seq ?_
  refine .seq ?_
  refine .region ?_
  refine .q (op_call (U := []) [] [] (awake9_ev eo) Tryd.func11 (by kernel_rfl) rfl rfl rfl (trivial) (⟨⟨_, _, rfl, rfl, rfl, rfl, (fun h => by cases h), rfl⟩, ⟨_, _, rfl, rfl, rfl, rfl, (fun h => by cases h), rfl⟩, ⟨_, _, rfl, rfl, rfl, rfl, (fun h => by cases h), rfl⟩, trivial⟩) (trivial) (⟨(fun h => by cases h), (fun h => by cases h), (fun h => by cases h), trivial⟩) rfl) trivial rfl ?_
  refine .q (op_notB rfl) trivial rfl ?_
  refine .nil ?_
  show Ev _ _ _ _ _
  refine .cond_false rfl (rfl) ?_
  refine .skip ?_
  show Ev _ _ _ _ _
  refine .seq ?_
  refine .region ?_
  refine .q (op_move rfl) trivial rfl ?_
  refine .q (op_call (U := []) [] [] (cut_ev s 100 (by omega)) Tryd.func26 (by kernel_rfl) rfl rfl rfl (⟨⟨_, rfl, rfl, rfl⟩, ⟨_, rfl, rfl, rfl⟩, trivial⟩) (trivial) (trivial) (trivial) rfl) trivial rfl ?_
  refine .q (op_assign rfl) trivial rfl ?_
  refine .nil ?_
  show Ev _ _ _ _ _
  refine .seq ?_
  refine .region ?_
  refine .q (op_move rfl) trivial rfl ?_
  refine .q (op_call (U := []) [] [] (wname_ev (s.take 100) (by simp only [List.length_take]; omega)) Tryd.func34 (by kernel_rfl) rfl rfl rfl (⟨⟨_, rfl, rfl, rfl⟩, trivial⟩) (trivial) (trivial) (trivial) rfl) trivial rfl ?_
  refine .q (op_move rfl) trivial rfl ?_
  refine .q (op_call (U := []) [] [] (rname_ev (s.take 100) (by simp only [List.length_take]; omega)) Tryd.func35 (by kernel_rfl) rfl rfl rfl (⟨⟨_, rfl, rfl, rfl⟩, trivial⟩) (trivial) (trivial) (trivial) rfl) trivial rfl ?_
  refine .q (op_eqB Tryd.underlying4 rfl rfl rfl) trivial rfl ?_
  refine .q (op_assign rfl) trivial rfl ?_
  refine .nil ?_
  show Ev _ _ _ _ _
  refine .ret ?_
  show RetOk _ _ _ _ _ _ _
  exact ret1v rfl (.inl rfl) rfl (congrArg AV.bool (by simp)) trivial
end Go.Proofs.YtfjiaflljabjkaaDoor
