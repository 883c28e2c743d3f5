/-
  Texts of this claim.
-/
import Derived.Test.YtoigppbkfhfllaaDoorGY
import Derived.Test.YtoigppbkfhfllaaDoorGP1
namespace Go.Proofs.YtoigppbkfhfllaaDoor
open Go.RowKit
set_option maxRecDepth 100000 in
theorem jcc0_ev  : Meets Tryd.prog 70 [.ptr 500 0] [(500, some ⟨.agg [.val (.pointer none), .nilsl], 27, true⟩)] (.tup []) [(500, some ⟨.agg [.ptr 500 0, .nilsl], 27, true⟩)] := by
 refine meets_of_ev (nt := 20) Tryd.func70 rfl rfl (Nat.le_of_ble_eq_true rfl) ?_
 refine .seq ?_
 refine .region ?_
 refine .q (op_move rfl) trivial rfl ?_
 refine .q (op_nilCheck rfl) trivial rfl ?_
 refine .q (op_fieldAddr (m := 0) Tryd.underlying27 rfl (by kernel_rfl) rfl) trivial rfl ?_
 refine .as (.ptr 500 0) rfl ?_
 refine .q (op_load Tryd.underlying24 rfl rfl rfl rfl (by first | omega | (simp only [AV.len]; omega) | (simp only [AV.len]; omega) | assumption | (simp [AV.len]; done))) trivial rfl ?_
 refine .q (op_eqNilPtr Tryd.underlying24 rfl rfl rfl) trivial rfl ?_
 refine .nil ?_
 show Ev _ _ _ _ _
 refine .cond_true rfl (rfl) ?_
 refine .region ?_
 refine .q (op_move rfl) trivial rfl ?_
 refine .q (op_move rfl) trivial rfl ?_
 refine .q (op_toUnsafe Tryd.underlying24 Tryd.underlying126 (by kernel_rfl) rfl rfl rfl) trivial rfl ?_
 refine .q (op_noEscape Tryd.func83 (by kernel_rfl) (by kernel_rfl) (by kernel_rfl) rfl rfl) trivial rfl ?_
 refine .q (op_fromUnsafe Tryd.underlying126 Tryd.underlying24 (by kernel_rfl) rfl rfl (by decide) rfl (by kernel_rfl) (by kernel_rfl) (by kernel_rfl)) trivial rfl ?_
 refine .q (op_nilCheck rfl) trivial rfl ?_
 refine .q (op_fieldAddr (m := 0) Tryd.underlying27 rfl (by kernel_rfl) rfl) trivial rfl ?_
 refine .as (.ptr 500 0) rfl ?_
 refine .w (op_store (by kernel_rfl) rfl rfl rfl rfl rfl (by first | omega | (simp only [AV.len]; omega) | (simp only [AV.len]; omega) | assumption | (simp [AV.len]; done))) trivial rfl ?_
 refine .nil ?_
 show RetOk _ _ _ _ _ _ _
 exact ret0 rfl (.inr rfl) ⟨rfl, trivial⟩
set_option maxRecDepth 100000 in
theorem jcc2_ev (n : Nat) : Meets Tryd.prog 70 [.ptr 500 0] [(500, some ⟨.agg [.ptr 500 0, .sl 501 0 (n) 1], 27, false⟩)] (.tup []) [(500, some ⟨.agg [.ptr 500 0, .sl 501 0 (n) 1], 27, false⟩)] := by
 refine meets_of_ev (nt := 20) Tryd.func70 rfl rfl (Nat.le_of_ble_eq_true rfl) ?_
 refine .seq ?_
 refine .region ?_
 refine .q (op_move rfl) trivial rfl ?_
 refine .q (op_nilCheck rfl) trivial rfl ?_
 refine .q (op_fieldAddr (m := 0) Tryd.underlying27 rfl (by kernel_rfl) rfl) trivial rfl ?_
 refine .as (.ptr 500 0) rfl ?_
 refine .q (op_load Tryd.underlying24 rfl rfl rfl rfl (by first | omega | (simp only [AV.len]; omega) | (simp only [AV.len]; omega) | assumption | (simp [AV.len]; done))) trivial rfl ?_
 refine .q (op_eqPtrNil Tryd.underlying24 rfl rfl rfl) trivial rfl ?_
 refine .nil ?_
 show Ev _ _ _ _ _
 refine .cond_false rfl (rfl) ?_
 refine .seq ?_
 refine .region ?_
 refine .q (op_move rfl) trivial rfl ?_
 refine .q (op_nilCheck rfl) trivial rfl ?_
 refine .q (op_fieldAddr (m := 0) Tryd.underlying27 rfl (by kernel_rfl) rfl) trivial rfl ?_
 refine .as (.ptr 500 0) rfl ?_
 refine .q (op_load Tryd.underlying24 rfl rfl rfl rfl (by first | omega | (simp only [AV.len]; omega) | (simp only [AV.len]; omega) | assumption | (simp [AV.len]; done))) trivial rfl ?_
 refine .q (op_move rfl) trivial rfl ?_
 refine .q (op_eqPtrSame Tryd.underlying24 (by kernel_rfl) rfl rfl rfl) trivial rfl ?_
 refine .nil ?_
 show Ev _ _ _ _ _
 refine .cond_false rfl (rfl) ?_
 refine .skip ?_
 show RetOk _ _ _ _ _ _ _
 exact ret0 rfl (.inr rfl) ⟨rfl, trivial⟩
set_option maxRecDepth 100000 in
theorem jws2_ev (l : List UInt8) (n : Nat) (hn : n = l.length) (h : n ≤ 1000000000) (s : List UInt8) (hs : s.length ≤ 1000000000) : Meets Tryd.prog 45 [.ptr 500 0, .str s] [(500, some ⟨.agg [.ptr 500 0, .sl 501 0 (n) 1], 27, true⟩), (501, some ⟨.aggB l, 5, true⟩)] (.tup [.i64 (s.length : Int), .val .nilIface]) [(500, some ⟨.agg [.ptr 500 0, .sl 1000 0 (n + s.length) 1], 27, true⟩), (1000, some ⟨.aggB (l ++ s), 5, true⟩)] := by
 refine meets_of_ev (nt := 19) Tryd.func45 rfl rfl (Nat.le_of_ble_eq_true rfl) ?_
 refine .seq ?_
 refine .region ?_
 refine .q (op_assign rfl) trivial rfl ?_
 refine .q (op_assign rfl) trivial rfl ?_
 refine .nil ?_
 show Ev _ _ _ _ _
 refine .seq ?_
 refine .region ?_
 refine .q (op_move rfl) trivial rfl ?_
 refine .q (op_call (U := []) [(500, 500), (501, 501)] [] (jcc2_ev n) Tryd.func70 (by kernel_rfl) rfl rfl rfl (⟨⟨_, rfl, rfl, rfl⟩, trivial⟩) (⟨⟨_, _, rfl, rfl, rfl, rfl, (fun h => by cases h), rfl⟩, trivial⟩) (trivial) (⟨(fun h => by cases h), trivial⟩) rfl) trivial rfl ?_
 refine .nil ?_
 show Ev _ _ _ _ _
 refine .seq ?_
 refine .region ?_
 refine .q (op_move rfl) trivial rfl ?_
 refine .q (op_move rfl) trivial rfl ?_
 refine .q (op_nilCheck rfl) trivial rfl ?_
 refine .q (op_fieldAddr (m := 0) Tryd.underlying27 rfl (by kernel_rfl) rfl) trivial rfl ?_
 refine .as (.ptr 500 1) rfl ?_
 refine .q (op_load Tryd.underlying25 rfl rfl rfl rfl (by first | omega | (simp only [AV.len]; omega) | (simp only [AV.len]; omega) | assumption | (simp [AV.len]; done))) trivial rfl ?_
 refine .q (op_move rfl) trivial rfl ?_
 refine .a (ap_catS Tryd.underlying25 inf5 Tryd.underlying9 rfl rfl rfl (hn) (by omega)) trivial rfl ?_
 refine .q (op_nilCheck rfl) trivial rfl ?_
 refine .q (op_fieldAddr (m := 0) Tryd.underlying27 rfl (by kernel_rfl) rfl) trivial rfl ?_
 refine .as (.ptr 500 1) rfl ?_
 refine .w (op_store (by kernel_rfl) rfl rfl rfl rfl rfl (by first | omega | (simp only [AV.len]; omega) | (simp only [AV.len]; omega) | assumption | (simp [AV.len]; done))) trivial rfl ?_
 refine .nil ?_
 show Ev _ _ _ _ _
 refine .seq ?_
 refine .region ?_
 refine .q (op_move rfl) trivial rfl ?_
 refine .q (op_len_str Tryd.underlying9 rfl) trivial rfl ?_
 refine .q (op_assign rfl) trivial rfl ?_
 refine .q (op_assign rfl) trivial rfl ?_
 refine .nil ?_
 show Ev _ _ _ _ _
 refine .ret ?_
 show RetOk _ _ _ _ _ _ _
 exact ret2v rfl (.inl rfl) rfl rfl rfl rfl ⟨rfl, rfl, trivial⟩
set_option maxRecDepth 100000 in
theorem jst2_ev (l : List UInt8) (n : Nat) (hn : n = l.length) (h0 : 0 < n) (h : n ≤ 1000000000) : Meets Tryd.prog 49 [.ptr 500 0] [(500, some ⟨.agg [.ptr 500 0, .sl 501 0 (n) 1], 27, false⟩), (501, some ⟨.aggB l, 5, true⟩)] (.str l) [(500, some ⟨.agg [.ptr 500 0, .sl 501 0 (n) 1], 27, false⟩), (501, some ⟨.aggB l, (frz + 5), false⟩)] := by
 refine meets_of_ev (nt := 14) Tryd.func49 rfl rfl (Nat.le_of_ble_eq_true rfl) ?_
 refine .seq ?_
 refine .region ?_
 refine .q (op_assign rfl) trivial rfl ?_
 refine .nil ?_
 show Ev _ _ _ _ _
 refine .seq ?_
 refine .drawn [[], [0], [0, 1], [0, 1, 2], [0, 1, 2, 3], [], [5], [5, 6], [5, 6, 7], [5, 6, 7, 8], [0, 1, 2, 3, 4, 5, 6, 7, 8, 9], [0, 1, 2, 3, 4, 5, 6, 7, 8, 9, 10]] [3, 8, 10] [10] (by kernel_rfl) (by kernel_rfl) rfl ?_
 show DK _ [0, 1, 2, 3, 4, 5, 6, 7, 8, 9, 10, 11] _ _ _
 refine .q rfl (op_move rfl) trivial ?_
 refine .q rfl (op_nilCheck rfl) trivial ?_
 refine .q rfl (op_fieldAddr (m := 0) Tryd.underlying27 rfl (by kernel_rfl) rfl) trivial ?_
 refine .as (.ptr 500 1) rfl ?_
 refine .q rfl (op_load Tryd.underlying25 rfl rfl rfl rfl (by first | omega | (simp only [AV.len]; omega) | (simp only [AV.len]; omega) | assumption | (simp [AV.len]; done))) trivial ?_
 refine .q rfl (op_sliceData rfl (h0)) trivial ?_
 refine .q rfl (op_move rfl) trivial ?_
 refine .q rfl (op_nilCheck rfl) trivial ?_
 refine .q rfl (op_fieldAddr (m := 0) Tryd.underlying27 rfl (by kernel_rfl) rfl) trivial ?_
 refine .as (.ptr 500 1) rfl ?_
 refine .q rfl (op_load Tryd.underlying25 rfl rfl rfl rfl (by first | omega | (simp only [AV.len]; omega) | (simp only [AV.len]; omega) | assumption | (simp [AV.len]; done))) trivial ?_
 refine .q rfl (op_len_sl Tryd.underlying25 rfl) trivial ?_
 refine .a rfl (op_unsafeString (e := 5) Tryd.underlying105 (by kernel_rfl) rfl rfl (congrArg Int.ofNat hn) rfl rfl rfl (by decide) (by decide) rfl (by omega) (by omega)) trivial rfl rfl ?_
 refine .q rfl (op_assign rfl) trivial ?_
 refine .nil ?_
 show Ev _ _ _ _ _
 refine .ret ?_
 show RetOk _ _ _ _ _ _ _
 exact ret1v rfl (.inl rfl) rfl rfl ⟨rfl, rfl, trivial⟩
set_option maxRecDepth 100000 in
theorem jgrow_ev (n : Nat) (h : n ≤ 1000000000) : Meets Tryd.prog 84 [.ptr 500 0, .i64 (n : Int)] [(500, some ⟨.agg [.ptr 500 0, .nilsl], 27, true⟩)] (.tup []) [(500, some ⟨.agg [.ptr 500 0, .sl 1064 0 (0) 1], 27, true⟩), (1064, some ⟨.aggB [], 5, true⟩)] := by
 refine meets_of_ev (nt := 30) Tryd.func84 rfl rfl (Nat.le_of_ble_eq_true rfl) ?_
 refine .seq ?_
 refine .drawn [[], [0], [0, 1], [0, 1, 2], [0, 1, 2, 3], [0, 1, 2, 3, 4], [], [0, 1, 2, 3, 4, 5, 6], [0, 1, 2, 3, 4, 5, 6, 7], [], [9], [9, 10], [9, 10, 11], [9, 10, 11, 12], [0, 1, 2, 3, 4, 5, 6, 7, 8, 9, 10, 11, 12, 13], [0, 1, 2, 3, 4, 5, 6, 7, 8, 9, 10, 11, 12, 13, 14]] [3, 8, 12] [] (by kernel_rfl) (by kernel_rfl) rfl ?_
 show DK _ [0, 1, 2, 3, 4, 5, 6, 7, 8, 9, 10, 11, 12, 13, 14, 15] _ _ _
 refine .q rfl (op_move rfl) trivial ?_
 refine .q rfl (op_nilCheck rfl) trivial ?_
 refine .q rfl (op_fieldAddr (m := 0) Tryd.underlying27 rfl (by kernel_rfl) rfl) trivial ?_
 refine .as (.ptr 500 1) rfl ?_
 refine .q rfl (op_load Tryd.underlying25 rfl rfl rfl rfl (by first | omega | (simp only [AV.len]; omega) | (simp only [AV.len]; omega) | assumption | (simp [AV.len]; done))) trivial ?_
 refine .q rfl (op_cap_nil Tryd.underlying25 rfl) trivial ?_
 refine .q rfl (op_mulI rfl rfl ⟨by omega, by omega⟩) trivial ?_
 refine .q rfl (op_move rfl) trivial ?_
 refine .q rfl (op_addI rfl rfl ⟨by omega, by omega⟩) trivial ?_
 refine .a rfl (op_makeNoZero (p1 := #[3]) (n := n) (c := .aggB []) Tryd.func93 (by kernel_rfl) (by kernel_rfl) (by kernel_rfl) (by kernel_rfl) Tryd.underlying25 rfl (by omega) (by omega) rfl) trivial rfl rfl ?_
 refine .q rfl (op_move rfl) trivial ?_
 refine .q rfl (op_nilCheck rfl) trivial ?_
 refine .q rfl (op_fieldAddr (m := 0) Tryd.underlying27 rfl (by kernel_rfl) rfl) trivial ?_
 refine .as (.ptr 500 1) rfl ?_
 refine .q rfl (op_load Tryd.underlying25 rfl rfl rfl rfl (by first | omega | (simp only [AV.len]; omega) | (simp only [AV.len]; omega) | assumption | (simp [AV.len]; done))) trivial ?_
 refine .q rfl (op_len_nil Tryd.underlying25 rfl) trivial ?_
 refine .q rfl (ap_slice_sl_hi Tryd.underlying25 inf5.sz rfl (bnd_some rfl (l := 0) rfl) (by omega)) trivial ?_
 refine .q rfl (op_assign rfl) trivial ?_
 refine .nil ?_
 show Ev _ _ _ _ _
 refine .seq ?_
 refine .region ?_
 refine .q (op_move rfl) trivial rfl ?_
 refine .q (op_move rfl) trivial rfl ?_
 refine .q (op_nilCheck rfl) trivial rfl ?_
 refine .q (op_fieldAddr (m := 0) Tryd.underlying27 rfl (by kernel_rfl) rfl) trivial rfl ?_
 refine .as (.ptr 500 1) rfl ?_
 refine .q (op_load Tryd.underlying25 rfl rfl rfl rfl (by first | omega | (simp only [AV.len]; omega) | (simp only [AV.len]; omega) | assumption | (simp [AV.len]; done))) trivial rfl ?_
 refine .a (op_copy (q := 0) (c' := .aggB []) Tryd.underlying25 inf5.sz rfl rfl rfl (srcs_nil rfl) (by decide) rfl rfl) trivial rfl ?_
 refine .nil ?_
 show Ev _ _ _ _ _
 refine .region ?_
 refine .q (op_move rfl) trivial rfl ?_
 refine .q (op_move rfl) trivial rfl ?_
 refine .q (op_nilCheck rfl) trivial rfl ?_
 refine .q (op_fieldAddr (m := 0) Tryd.underlying27 rfl (by kernel_rfl) rfl) trivial rfl ?_
 refine .as (.ptr 500 1) rfl ?_
 refine .w (op_store (by kernel_rfl) rfl rfl rfl rfl rfl (by first | omega | (simp only [AV.len]; omega) | (simp only [AV.len]; omega) | assumption | (simp [AV.len]; done))) trivial rfl ?_
 refine .nil ?_
 show RetOk _ _ _ _ _ _ _
 exact ret0 rfl (.inr rfl) ⟨rfl, rfl, trivial⟩
set_option maxRecDepth 100000 in
theorem jGrow_ev (n : Nat) (h : n ≤ 1000000000) (h0 : 0 < n) : Meets Tryd.prog 71 [.ptr 500 0, .i64 (n : Int)] [(500, some ⟨.agg [.val (.pointer none), .nilsl], 27, true⟩)] (.tup []) [(500, some ⟨.agg [.ptr 500 0, .sl 1112 0 (0) 1], 27, true⟩), (1112, some ⟨.aggB [], 5, true⟩)] := by
 refine meets_of_ev (nt := 25) Tryd.func71 rfl rfl (Nat.le_of_ble_eq_true rfl) ?_
 refine .seq ?_
 refine .region ?_
 refine .q (op_move rfl) trivial rfl ?_
 refine .a (op_call (U := [(500, some ⟨.agg [.ptr 500 0, .nilsl], 27, true⟩)]) [(500, 500)] [] (jcc0_ev) Tryd.func70 (by kernel_rfl) rfl rfl rfl (⟨⟨_, rfl, rfl, rfl⟩, trivial⟩) (⟨⟨_, _, rfl, rfl, rfl, rfl, id, rfl⟩, trivial⟩) (⟨⟨500, _, rfl, rfl, rfl, rfl, .inr ⟨rfl, _, rfl, rfl⟩⟩, trivial⟩) (⟨(fun _ => ⟨500, _, rfl, rfl⟩), trivial⟩) rfl) trivial rfl ?_
 refine .nil ?_
 show Ev _ _ _ _ _
 refine .seq ?_
 refine .seq ?_
 refine .region ?_
 refine .q (op_move rfl) trivial rfl ?_
 refine .q (op_cmpI rfl rfl rfl) trivial rfl ?_
 refine .nil ?_
 show Ev _ _ _ _ _
 refine .cond_false rfl (decide_eq_false (by omega)) ?_
 refine .skip ?_
 show Ev _ _ _ _ _
 refine .seq ?_
 refine .drawn [[], [0], [0, 1], [0, 1, 2], [0, 1, 2, 3], [], [5], [5, 6], [5, 6, 7], [5, 6, 7, 8], [0, 1, 2, 3, 4, 5, 6, 7, 8, 9], [], [0, 1, 2, 3, 4, 5, 6, 7, 8, 9, 10, 11]] [3, 8] [] (by kernel_rfl) (by kernel_rfl) rfl ?_
 show DK _ [0, 1, 2, 3, 4, 5, 6, 7, 8, 9, 10, 11, 12] _ _ _
 refine .q rfl (op_move rfl) trivial ?_
 refine .q rfl (op_nilCheck rfl) trivial ?_
 refine .q rfl (op_fieldAddr (m := 0) Tryd.underlying27 rfl (by kernel_rfl) rfl) trivial ?_
 refine .as (.ptr 500 1) rfl ?_
 refine .q rfl (op_load Tryd.underlying25 rfl rfl rfl rfl (by first | omega | (simp only [AV.len]; omega) | (simp only [AV.len]; omega) | assumption | (simp [AV.len]; done))) trivial ?_
 refine .q rfl (op_cap_nil Tryd.underlying25 rfl) trivial ?_
 refine .q rfl (op_move rfl) trivial ?_
 refine .q rfl (op_nilCheck rfl) trivial ?_
 refine .q rfl (op_fieldAddr (m := 0) Tryd.underlying27 rfl (by kernel_rfl) rfl) trivial ?_
 refine .as (.ptr 500 1) rfl ?_
 refine .q rfl (op_load Tryd.underlying25 rfl rfl rfl rfl (by first | omega | (simp only [AV.len]; omega) | (simp only [AV.len]; omega) | assumption | (simp [AV.len]; done))) trivial ?_
 refine .q rfl (op_len_nil Tryd.underlying25 rfl) trivial ?_
 refine .q rfl (op_subI rfl rfl ⟨by omega, by omega⟩) trivial ?_
 refine .q rfl (op_move rfl) trivial ?_
 refine .q rfl (op_cmpI rfl rfl rfl) trivial ?_
 refine .nil ?_
 show Ev _ _ _ _ _
 refine .cond_true rfl (decide_eq_true (by omega)) ?_
 refine .region ?_
 refine .q (op_move rfl) trivial rfl ?_
 refine .q (op_move rfl) trivial rfl ?_
 refine .a (op_call (U := [(500, some ⟨.agg [.ptr 500 0, .sl 1112 0 (0) 1], 27, true⟩), (1112, some ⟨.aggB [], 5, true⟩)]) [(500, 500)] [(1112, 1064)] (jgrow_ev n h) Tryd.func84 (by kernel_rfl) rfl rfl rfl (⟨⟨_, rfl, rfl, rfl⟩, ⟨_, rfl, rfl, rfl⟩, trivial⟩) (⟨⟨_, _, rfl, rfl, rfl, rfl, id, rfl⟩, trivial⟩) (⟨⟨500, _, rfl, rfl, rfl, rfl, .inr ⟨rfl, _, rfl, rfl⟩⟩, ⟨1064, _, rfl, rfl, rfl, rfl, .inl rfl⟩, trivial⟩) (⟨(fun _ => ⟨500, _, rfl, rfl⟩), trivial⟩) rfl) trivial rfl ?_
 refine .nil ?_
 show RetOk _ _ _ _ _ _ _
 exact ret0 rfl (.inr rfl) ⟨rfl, rfl, trivial⟩
set_option maxRecDepth 100000 in
theorem join_0 (ls : List (List UInt8)) (h0 : ls.length = 0) : Meets Tryd.prog 46 [.dsl ls, .str [44]] [] (.str []) [] := by
 refine meets_of_ev (nt := 75) Tryd.func46 rfl rfl (Nat.le_of_ble_eq_true rfl) ?_
 refine .seq ?_
 refine .region ?_
 refine .q (op_assign rfl) trivial rfl ?_
 refine .nil ?_
 show Ev _ _ _ _ _
 refine .seq ?_
 refine .seq ?_
 refine .region ?_
 refine .q (op_move rfl) trivial rfl ?_
 refine .q (op_len_dsl Tryd.underlying31 rfl) trivial rfl ?_
 refine .nil ?_
 show Ev _ _ _ _ _
 refine .block ?_
 refine .seq ?_
 refine .region ?_
 refine .q (op_cmpI rfl rfl rfl) trivial rfl ?_
 refine .q (op_assign rfl) trivial rfl ?_
 refine .nil ?_
 show Ev _ _ _ _ _
 refine .cond_true rfl (decide_eq_true (by omega)) ?_
 refine .seq ?_
 refine .region ?_
 refine .q (op_assign rfl) trivial rfl ?_
 refine .nil ?_
 show Ev _ _ _ _ _
 refine .ret ?_
 show RetOk _ _ _ _ _ _ _
 exact ret1v rfl (.inl rfl) rfl rfl trivial
set_option maxRecDepth 100000 in
theorem join_1 (ls : List (List UInt8)) (h0 : ls.length = 1) : Meets Tryd.prog 46 [.dsl ls, .str [44]] [] (.str (ls.getD 0 [])) [] := by
 refine meets_of_ev (nt := 75) Tryd.func46 rfl rfl (Nat.le_of_ble_eq_true rfl) ?_
 refine .seq ?_
 refine .region ?_
 refine .q (op_assign rfl) trivial rfl ?_
 refine .nil ?_
 show Ev _ _ _ _ _
 refine .seq ?_
 refine .seq ?_
 refine .region ?_
 refine .q (op_move rfl) trivial rfl ?_
 refine .q (op_len_dsl Tryd.underlying31 rfl) trivial rfl ?_
 refine .nil ?_
 show Ev _ _ _ _ _
 refine .block ?_
 refine .seq ?_
 refine .region ?_
 refine .q (op_cmpI rfl rfl rfl) trivial rfl ?_
 refine .q (op_assign rfl) trivial rfl ?_
 refine .nil ?_
 show Ev _ _ _ _ _
 refine .cond_false rfl (decide_eq_false (by omega)) ?_
 refine .seq ?_
 refine .region ?_
 refine .q (op_cmpI rfl rfl rfl) trivial rfl ?_
 refine .q (op_assign rfl) trivial rfl ?_
 refine .nil ?_
 show Ev _ _ _ _ _
 refine .cond_true rfl (decide_eq_true (by omega)) ?_
 refine .seq ?_
 refine .region ?_
 refine .q (op_move rfl) trivial rfl ?_
 refine .q (op_indexAddr_dsl Tryd.underlying31 inf9.sz rfl rfl (i := 0) rfl (by first | omega | (simp only [AV.len]; omega) | (simp only [AV.len, List.length_set]; omega) | assumption | (simp [AV.len]; done))) trivial rfl ?_
 refine .q (op_load_dptr Tryd.underlying9 rfl rfl (drop_get (by omega))) trivial rfl ?_
 refine .q (op_assign rfl) trivial rfl ?_
 refine .nil ?_
 show Ev _ _ _ _ _
 refine .ret ?_
 show RetOk _ _ _ _ _ _ _
 exact ret1v rfl (.inl rfl) rfl rfl trivial
set_option maxRecDepth 100000 in
theorem join_2 (ls : List (List UInt8)) (h1 : ls.length ≤ 1000000) (h2 : sumB ls ≤ 1000000) (h0 : 2 ≤ ls.length) : Meets Tryd.prog 46 [.dsl ls, .str [44]] [] (.str (joinB ls)) [] := by
 have hst : sumB (ls.take ls.length) = sumB ls := by rw [List.take_length]
 have hjn2 := joinB_len ls
 have hg0 := getD_le_sumB ls 0
 refine meets_of_ev (nt := 75) Tryd.func46 rfl rfl (Nat.le_of_ble_eq_true rfl) ?_
 refine .seq ?_
 refine .region ?_
 refine .q (op_assign rfl) trivial rfl ?_
 refine .nil ?_
 show Ev _ _ _ _ _
 refine .seq ?_
 refine .seq ?_
 refine .region ?_
 refine .q (op_move rfl) trivial rfl ?_
 refine .q (op_len_dsl Tryd.underlying31 rfl) trivial rfl ?_
 refine .nil ?_
 show Ev _ _ _ _ _
 refine .block ?_
 refine .seq ?_
 refine .region ?_
 refine .q (op_cmpI rfl rfl rfl) trivial rfl ?_
 refine .q (op_assign rfl) trivial rfl ?_
 refine .nil ?_
 show Ev _ _ _ _ _
 refine .cond_false rfl (decide_eq_false (by omega)) ?_
 refine .seq ?_
 refine .region ?_
 refine .q (op_cmpI rfl rfl rfl) trivial rfl ?_
 refine .q (op_assign rfl) trivial rfl ?_
 refine .nil ?_
 show Ev _ _ _ _ _
 refine .cond_false rfl (decide_eq_false (by omega)) ?_
 refine .skip ?_
 show Ev _ _ _ _ _
 refine .seq ?_
 refine .region ?_
 refine .q (op_assign rfl) trivial rfl ?_
 refine .nil ?_
 show Ev _ _ _ _ _
 refine .seq ?_
 refine .seq ?_
 refine .region ?_
 refine .q (op_move rfl) trivial rfl ?_
 refine .q (op_len_str Tryd.underlying9 rfl) trivial rfl ?_
 refine .q (op_cmpI rfl rfl rfl) trivial rfl ?_
 refine .nil ?_
 show Ev _ _ _ _ _
 refine .cond_true rfl (rfl) ?_
 refine .seq ?_
 refine .seq ?_
 refine .region ?_
 refine .q (op_move rfl) trivial rfl ?_
 refine .q (op_len_str Tryd.underlying9 rfl) trivial rfl ?_
 refine .q (op_move rfl) trivial rfl ?_
 refine .q (op_len_dsl Tryd.underlying31 rfl) trivial rfl ?_
 refine .q (op_subI rfl rfl ⟨by omega, by omega⟩) trivial rfl ?_
 refine .as (.i64 ((ls.length - 1 : Nat) : Int)) (congrArg AV.i64 (by omega)) ?_
 refine .q (op_quoI rfl rfl ⟨by have hq := quo_ok (m := ls.length - 1) (by omega) (by omega); omega, ⟨by have hq := quo_ok (m := ls.length - 1) (by omega) (by omega); omega, by have hq := quo_ok (m := ls.length - 1) (by omega) (by omega); omega⟩, by have hq := quo_ok (m := ls.length - 1) (by omega) (by omega); omega⟩) trivial rfl ?_
 refine .q (op_cmpI rfl rfl rfl) trivial rfl ?_
 refine .nil ?_
 show Ev _ _ _ _ _
 refine .cond_false rfl (decide_eq_false (quo_ok (by omega) (by omega))) ?_
 refine .skip ?_
 show Ev _ _ _ _ _
 refine .region ?_
 refine .q (op_move rfl) trivial rfl ?_
 refine .q (op_move rfl) trivial rfl ?_
 refine .q (op_len_str Tryd.underlying9 rfl) trivial rfl ?_
 refine .q (op_move rfl) trivial rfl ?_
 refine .q (op_len_dsl Tryd.underlying31 rfl) trivial rfl ?_
 refine .q (op_subI rfl rfl ⟨by omega, by omega⟩) trivial rfl ?_
 refine .as (.i64 ((ls.length - 1 : Nat) : Int)) (congrArg AV.i64 (by omega)) ?_
 refine .q (op_mulI rfl rfl ⟨by simp only [List.length_cons, List.length_nil]; omega, by simp only [List.length_cons, List.length_nil]; omega⟩) trivial rfl ?_
 refine .q (op_addI rfl rfl ⟨by simp only [List.length_cons, List.length_nil]; omega, by simp only [List.length_cons, List.length_nil]; omega⟩) trivial rfl ?_
 refine .q (op_assign rfl) trivial rfl ?_
 refine .as (.i64 ((sumB (ls.take 0) + (ls.length - 1) : Nat) : Int)) (congrArg AV.i64 (by simp [sumB])) ?_
 refine .nil ?_
 show Ev _ _ _ _ _
 refine .seq ?_
 refine .seq ?_
 refine .region ?_
 refine .q (op_move rfl) trivial rfl ?_
 refine .q (op_len_dsl Tryd.underlying31 rfl) trivial rfl ?_
 refine .q (op_move rfl) trivial rfl ?_
 refine .nil ?_
 show Ev _ _ _ _ _
 refine .block ?_
 refine Ev.loop (ι := { k : Nat // k ≤ ls.length }) (fun q => ⟨[(0, .dsl ls), (1, .str [44]), (5, .i64 ((sumB (ls.take q.1) + (ls.length - 1) : Nat) : Int)), (39, .dsl ls), (40, .i64 ((ls.length : Nat) : Int)), (41, .i64 ((q.1 : Nat) : Int))], [], 1000⟩) (fun q => ls.length - q.1) ⟨0, Nat.zero_le _⟩ (StLe.mk [] rfl rfl ⟨⟨_, rfl, by first | rfl | (simp only [AV.ren]; congr 1; omega), rfl⟩, ⟨_, rfl, by first | rfl | (simp only [AV.ren]; congr 1; omega), rfl⟩, ⟨_, rfl, by first | rfl | (simp only [AV.ren]; congr 1; omega), rfl⟩, ⟨_, rfl, by first | rfl | (simp only [AV.ren]; congr 1; omega), rfl⟩, ⟨_, rfl, by first | rfl | (simp only [AV.ren]; congr 1; omega), rfl⟩, ⟨_, rfl, by first | rfl | (simp only [AV.ren]; congr 1; omega), rfl⟩, trivial⟩ trivial) ?_
 rintro ⟨k, hk⟩
 try dsimp only
 have hsk := sumB_take_le ls k
 have hgk := getD_le_sumB ls k
 refine .seq ?_
 refine .region ?_
 refine .q (op_cmpI rfl rfl rfl) trivial rfl ?_
 refine .nil ?_
 show Ev _ _ _ _ _
 refine .seq ?_
 refine .cond rfl (fun hc42 => ?_) (fun hc42 => ?_)
 ·simp only [decide_eq_true_eq] at hc42
  refine .skip ?_
  show Ev _ _ _ _ _
  refine .seq ?_
  refine .block ?_
  refine .seq ?_
  refine .region ?_
  have hlt : k < ls.length := by omega
  refine .q (op_indexAddr_dsl Tryd.underlying31 inf9.sz rfl rfl rfl (by first | omega | (simp only [AV.len]; omega) | (simp only [AV.len, List.length_set]; omega) | assumption | (simp [AV.len]; done))) trivial rfl ?_
  refine .q (op_load_dptr Tryd.underlying9 rfl rfl (drop_get (by omega))) trivial rfl ?_
  refine .q (op_assign rfl) trivial rfl ?_
  refine .nil ?_
  show Ev _ _ _ _ _
  refine .seq ?_
  refine .seq ?_
  refine .region ?_
  refine .q (op_move rfl) trivial rfl ?_
  refine .q (op_len_str Tryd.underlying9 rfl) trivial rfl ?_
  refine .q (op_move rfl) trivial rfl ?_
  refine .q (op_subI rfl rfl ⟨by omega, by omega⟩) trivial rfl ?_
  refine .q (op_cmpI rfl rfl rfl) trivial rfl ?_
  refine .nil ?_
  show Ev _ _ _ _ _
  refine .cond_false rfl (decide_eq_false (by omega)) ?_
  refine .skip ?_
  show Ev _ _ _ _ _
  refine .region ?_
  refine .q (op_move rfl) trivial rfl ?_
  refine .q (op_move rfl) trivial rfl ?_
  refine .q (op_len_str Tryd.underlying9 rfl) trivial rfl ?_
  refine .q (op_addI rfl rfl ⟨by omega, by omega⟩) trivial rfl ?_
  refine .q (op_assign rfl) trivial rfl ?_
  refine .nil ?_
  show Ev _ _ _ _ _
  refine .region ?_
  refine .q (op_addI rfl rfl ⟨by omega, by omega⟩) trivial rfl ?_
  refine .q (op_move rfl) trivial rfl ?_
  refine .nil ?_
  exact ⟨⟨k + 1, by omega⟩, by (try dsimp only); omega, StLe.mk [] rfl rfl ⟨⟨_, rfl, by rfl, rfl⟩, ⟨_, rfl, by rfl, rfl⟩, ⟨_, rfl, by (simp only [AV.ren]; rw [sumB_take hlt]; exact congrArg AV.i64 (by omega)), rfl⟩, ⟨_, rfl, by rfl, rfl⟩, ⟨_, rfl, by rfl, rfl⟩, ⟨_, rfl, by rfl, rfl⟩, trivial⟩ trivial⟩
 ·simp only [decide_eq_false_iff_not] at hc42
  refine .exit ?_
  show Ev _ _ _ _ _
  have ek : k = ls.length := by omega
  subst ek
  refine .seq ?_
  refine .region ?_
  refine .a (op_allocRow zero27 rel_zero27 rfl) trivial rfl ?_
  refine .nil ?_
  show Ev _ _ _ _ _
  refine .seq ?_
  refine .region ?_
  refine .q (op_move rfl) trivial rfl ?_
  refine .a (op_call (U := [(1000, some ⟨.agg [.ptr 1000 0, .sl 1008 0 (0) 1], 27, true⟩), (1008, some ⟨.aggB [], 5, true⟩)]) [(500, 1000)] [(1008, 1112)] (jGrow_ev (sumB (ls.take ls.length) + (ls.length - 1)) (by omega) (by omega)) Tryd.func71 (by kernel_rfl) rfl rfl rfl (⟨⟨_, rfl, rfl, rfl⟩, ⟨_, rfl, rfl, rfl⟩, trivial⟩) (⟨⟨_, _, rfl, rfl, rfl, rfl, id, rfl⟩, trivial⟩) (⟨⟨500, _, rfl, rfl, rfl, rfl, .inr ⟨rfl, _, rfl, rfl⟩⟩, ⟨1112, _, rfl, rfl, rfl, rfl, .inl rfl⟩, trivial⟩) (⟨(fun _ => ⟨1000, _, rfl, rfl⟩), trivial⟩) rfl) trivial rfl ?_
  refine .nil ?_
  show Ev _ _ _ _ _
  refine .seq ?_
  refine .region ?_
  refine .q (op_move rfl) trivial rfl ?_
  refine .q (op_indexAddr_dsl Tryd.underlying31 inf9.sz rfl rfl (i := 0) rfl (by first | omega | (simp only [AV.len]; omega) | (simp only [AV.len, List.length_set]; omega) | assumption | (simp [AV.len]; done))) trivial rfl ?_
  refine .q (op_load_dptr Tryd.underlying9 rfl rfl (drop_get (by omega))) trivial rfl ?_
  refine .a (op_call (U := [(1000, some ⟨.agg [.ptr 1000 0, .sl 1016 0 (0 + (ls.getD 0 []).length) 1], 27, true⟩), (1016, some ⟨.aggB ([] ++ (ls.getD 0 [])), 5, true⟩), (1008, none)]) [(500, 1000), (501, 1008)] [(1016, 1000)] (jws2_ev [] (0) (by first | rfl | exact hjn | (simp only [List.length_append, List.length_cons, List.length_nil]; done) | (simp only [List.length_append, List.length_cons, List.length_nil]; omega)) (by omega) (ls.getD 0 []) (by first | omega | decide)) Tryd.func45 (by kernel_rfl) rfl rfl rfl (⟨⟨_, rfl, rfl, rfl⟩, ⟨_, rfl, rfl, rfl⟩, trivial⟩) (⟨⟨_, _, rfl, rfl, rfl, rfl, id, rfl⟩, ⟨_, _, rfl, rfl, rfl, rfl, id, rfl⟩, trivial⟩) (⟨⟨500, _, rfl, rfl, rfl, rfl, .inr ⟨rfl, _, rfl, rfl⟩⟩, ⟨1000, _, rfl, rfl, rfl, rfl, .inl rfl⟩, trivial⟩) (⟨(fun _ => ⟨1000, _, rfl, rfl⟩), (fun _ => ⟨1008, _, rfl, rfl⟩), trivial⟩) rfl) trivial rfl ?_
  refine .nil ?_
  show Ev _ _ _ _ _
  refine .seq ?_
  refine .seq ?_
  refine .region ?_
  refine .q (op_move rfl) trivial rfl ?_
  refine .q (op_slice_dsl Tryd.underlying31 inf9.sz rfl (bnd_some rfl (l := 1) rfl) rfl (by first | omega | (simp only [AV.len]; omega) | (simp only [AV.len, List.length_set]; omega) | assumption | (simp [AV.len]; done)) (by first | omega | (simp only [AV.len]; omega) | (simp only [AV.len, List.length_set]; omega) | assumption | (simp [AV.len]; done)) (by first | omega | (simp only [AV.len]; omega) | (simp only [AV.len, List.length_set]; omega) | assumption | (simp [AV.len]; done))) trivial rfl ?_
  refine .as (.dsl ((ls.drop 1).take (ls.length - 1))) rfl ?_
  refine .q (op_len_dsl Tryd.underlying31 rfl) trivial rfl ?_
  refine .as (.i64 ((ls.length - 1 : Nat) : Int)) (congrArg AV.i64 (by rw [List.length_take, List.length_drop]; omega)) ?_
  refine .q (op_move rfl) trivial rfl ?_
  refine .nil ?_
  show Ev _ _ _ _ _
  refine .block ?_
  refine Ev.loop (ι := { k : Nat // k < ls.length }) (fun k => ⟨[(1, .str [44]), (8, .ptr 1000 0), (63, .dsl ((ls.drop 1).take (ls.length - 1))), (64, .i64 ((ls.length - 1 : Nat) : Int)), (65, .i64 ((k.1 : Nat) : Int))], [(1000, some ⟨.agg [.ptr 1000 0, .sl 1024 0 ((joinB (ls.take (k.1 + 1))).length) 1], 27, true⟩), (1024, some ⟨.aggB (joinB (ls.take (k.1 + 1))), 5, true⟩)], 1032⟩) (fun k => ls.length - k.1) ⟨0, by omega⟩ (StLe.mk [(1000, 1000), (1024, 1016)] rfl rfl ⟨⟨_, rfl, by first | rfl | (simp only [AV.ren]; congr 1; omega), rfl⟩, ⟨_, rfl, by first | rfl | (simp only [AV.ren]; congr 1; omega), rfl⟩, ⟨_, rfl, by first | rfl | (simp only [AV.ren]; congr 1; omega), rfl⟩, ⟨_, rfl, by first | rfl | (simp only [AV.ren]; congr 1; omega), rfl⟩, ⟨_, rfl, by first | rfl | (simp only [AV.ren]; congr 1; omega), rfl⟩, trivial⟩ ⟨⟨_, _, rfl, rfl, by (simp only [AV.ren, AV.renL]; rw [joinB_take1 (by omega), Nat.zero_add]; rfl), rfl, id, rfl⟩, ⟨_, _, rfl, rfl, by (rw [joinB_take1 (by omega)]; rfl), rfl, id, rfl⟩, trivial⟩) ?_
  rintro ⟨k, hk⟩
  try dsimp only
  have hjn : (joinB (ls.take (k + 1))).length = (joinB (ls.take (k + 1))).length := rfl
  have hjl := joinB_take_le ls (k + 1)
  have hgk := getD_le_sumB ls (k + 1)
  refine .seq ?_
  refine .region ?_
  refine .q (op_cmpI rfl rfl rfl) trivial rfl ?_
  refine .nil ?_
  show Ev _ _ _ _ _
  refine .seq ?_
  refine .cond rfl (fun hc66 => ?_) (fun hc66 => ?_)
  ·simp only [decide_eq_true_eq] at hc66
   refine .skip ?_
   show Ev _ _ _ _ _
   refine .seq ?_
   refine .block ?_
   refine .seq ?_
   refine .region ?_
   have hlt : k + 1 < ls.length := by omega
   refine .q (op_indexAddr_dsl Tryd.underlying31 inf9.sz rfl rfl rfl (by rw [List.length_take, List.length_drop]; omega)) trivial rfl ?_
   refine .q (op_load_dptr Tryd.underlying9 rfl rfl (drop_get1 hlt)) trivial rfl ?_
   refine .q (op_assign rfl) trivial rfl ?_
   refine .nil ?_
   show Ev _ _ _ _ _
   refine .seq ?_
   refine .region ?_
   refine .q (op_move rfl) trivial rfl ?_
   refine .a (op_call (U := [(1000, some ⟨.agg [.ptr 1000 0, .sl 1032 0 ((joinB (ls.take (k + 1))).length + 1) 1], 27, true⟩), (1032, some ⟨.aggB ((joinB (ls.take (k + 1))) ++ [44]), 5, true⟩), (1024, none)]) [(500, 1000), (501, 1024)] [(1032, 1000)] (jws2_ev (joinB (ls.take (k + 1))) ((joinB (ls.take (k + 1))).length) (by first | rfl | exact hjn | (simp only [List.length_append, List.length_cons, List.length_nil]; done) | (simp only [List.length_append, List.length_cons, List.length_nil]; omega)) (by omega) [44] (by first | omega | decide)) Tryd.func45 (by kernel_rfl) rfl rfl rfl (⟨⟨_, rfl, rfl, rfl⟩, ⟨_, rfl, rfl, rfl⟩, trivial⟩) (⟨⟨_, _, rfl, rfl, rfl, rfl, id, rfl⟩, ⟨_, _, rfl, rfl, rfl, rfl, id, rfl⟩, trivial⟩) (⟨⟨500, _, rfl, rfl, rfl, rfl, .inr ⟨rfl, _, rfl, rfl⟩⟩, ⟨1000, _, rfl, rfl, rfl, rfl, .inl rfl⟩, trivial⟩) (⟨(fun _ => ⟨1000, _, rfl, rfl⟩), (fun _ => ⟨1024, _, rfl, rfl⟩), trivial⟩) rfl) trivial rfl ?_
   refine .nil ?_
   show Ev _ _ _ _ _
   refine .region ?_
   refine .q (op_move rfl) trivial rfl ?_
   refine .a (op_call (U := [(1000, some ⟨.agg [.ptr 1000 0, .sl 1040 0 ((joinB (ls.take (k + 1))).length + 1 + (ls.getD (k + 1) []).length) 1], 27, true⟩), (1040, some ⟨.aggB (((joinB (ls.take (k + 1))) ++ [44]) ++ (ls.getD (k + 1) [])), 5, true⟩), (1032, none)]) [(500, 1000), (501, 1032)] [(1040, 1000)] (jws2_ev ((joinB (ls.take (k + 1))) ++ [44]) ((joinB (ls.take (k + 1))).length + 1) (by first | rfl | exact hjn | (simp only [List.length_append, List.length_cons, List.length_nil]; done) | (simp only [List.length_append, List.length_cons, List.length_nil]; omega)) (by omega) (ls.getD (k + 1) []) (by first | omega | decide)) Tryd.func45 (by kernel_rfl) rfl rfl rfl (⟨⟨_, rfl, rfl, rfl⟩, ⟨_, rfl, rfl, rfl⟩, trivial⟩) (⟨⟨_, _, rfl, rfl, rfl, rfl, id, rfl⟩, ⟨_, _, rfl, rfl, rfl, rfl, id, rfl⟩, trivial⟩) (⟨⟨500, _, rfl, rfl, rfl, rfl, .inr ⟨rfl, _, rfl, rfl⟩⟩, ⟨1000, _, rfl, rfl, rfl, rfl, .inl rfl⟩, trivial⟩) (⟨(fun _ => ⟨1000, _, rfl, rfl⟩), (fun _ => ⟨1032, _, rfl, rfl⟩), trivial⟩) rfl) trivial rfl ?_
   refine .nil ?_
   show Ev _ _ _ _ _
   refine .region ?_
   refine .q (op_addI rfl rfl ⟨by omega, by omega⟩) trivial rfl ?_
   refine .q (op_move rfl) trivial rfl ?_
   refine .nil ?_
   exact ⟨⟨k + 1, by omega⟩, by show ls.length - (k + 1) < ls.length - k; omega, StLe.mk [(1000, 1000), (1024, 1040)] rfl rfl ⟨⟨_, rfl, by first | rfl | (simp only [AV.ren]; congr 1; omega), rfl⟩, ⟨_, rfl, by first | rfl | (simp only [AV.ren]; congr 1; omega), rfl⟩, ⟨_, rfl, by first | rfl | (simp only [AV.ren]; congr 1; omega), rfl⟩, ⟨_, rfl, by first | rfl | (simp only [AV.ren]; congr 1; omega), rfl⟩, ⟨_, rfl, by first | rfl | (simp only [AV.ren]; congr 1; omega), rfl⟩, trivial⟩ ⟨⟨_, _, rfl, rfl, by (simp only [AV.ren, AV.renL]; rw [joinB_take_s hlt]; simp only [List.length_append, List.length_cons, List.length_nil]; rfl), rfl, id, rfl⟩, ⟨_, _, rfl, rfl, by (rw [joinB_take_s hlt]; rfl), rfl, id, rfl⟩, trivial⟩⟩
  ·simp only [decide_eq_false_iff_not] at hc66
   refine .exit ?_
   show Ev _ _ _ _ _
   have ek : k + 1 = ls.length := by omega
   refine Ev.weak (st2 := ⟨[(8, .ptr 1000 0)], [(1000, some ⟨.agg [.ptr 1000 0, .sl 1024 0 ((joinB ls).length) 1], 27, true⟩), (1024, some ⟨.aggB (joinB ls), 5, true⟩)], 1032⟩) (StLe.mk [(1000, 1000), (1024, 1024)] rfl rfl ⟨⟨_, rfl, by first | rfl | (simp only [AV.ren]; congr 1; omega), rfl⟩, trivial⟩ ⟨⟨_, _, rfl, rfl, by (simp only [AV.ren, AV.renL]; rw [ek, List.take_length]; rfl), rfl, id, rfl⟩, ⟨_, _, rfl, rfl, by (rw [ek, List.take_length]; rfl), rfl, id, rfl⟩, trivial⟩) ?_
   show Ev _ _ _ _ _
   refine .seq ?_
   refine .region ?_
   refine .a (op_call (U := [(1024, some ⟨.aggB (joinB ls), (frz + 5), false⟩)]) [(500, 1000), (501, 1024)] [] (jst2_ev (joinB ls) (joinB ls).length rfl (by omega) (by omega)) Tryd.func49 (by kernel_rfl) rfl rfl rfl (⟨⟨_, rfl, rfl, rfl⟩, trivial⟩) (⟨⟨_, _, rfl, rfl, rfl, rfl, (fun h => by cases h), rfl⟩, ⟨_, _, rfl, rfl, rfl, rfl, id, rfl⟩, trivial⟩) (⟨⟨501, _, rfl, rfl, rfl, rfl, .inr ⟨rfl, _, rfl, rfl⟩⟩, trivial⟩) (⟨(fun h => by cases h), (fun _ => ⟨1024, _, rfl, rfl⟩), trivial⟩) rfl) trivial rfl ?_
   refine .q (op_assign rfl) trivial rfl ?_
   refine .nil ?_
   show Ev _ _ _ _ _
   refine .ret ?_
   show RetOk _ _ _ _ _ _ _
   exact ret1v rfl (.inl rfl) rfl rfl trivial
theorem join_ev (ls : List (List UInt8)) (h1 : ls.length ≤ 1000000) (h2 : sumB ls ≤ 1000000) : Meets Tryd.prog 46 [.dsl ls, .str [44]] [] (.str (joinB ls)) [] := by
 rcases Nat.lt_or_ge ls.length 2 with h | h
 ·rcases Nat.lt_or_ge ls.length 1 with h3 | h3
  ·have e : ls = [] := List.eq_nil_of_length_eq_zero (by omega)
   have := join_0 ls (by omega)
   rw [e] at this ⊢; exact this
  ·have := join_1 ls (by omega)
   rwa [show ls.getD 0 [] = joinB ls by
    match ls, h, h3 with
    | [x], _, _ => exact (joinB_one x).symm] at this
 ·exact join_2 ls h1 h2 h
end Go.Proofs.YtoigppbkfhfllaaDoor
namespace Go.Proofs.YtoigppbkfhfllaaDoor
open Go.RowKit
set_option maxRecDepth 100000 in
theorem big_form (i : DI) (most : Int) (hr : i.r.length ≤ 9223372036854770000) (h1 : ¬ unsB (shortB (bigT i most).2) = (bigT i most).2) (eo : Nat → Nat × Nat) : Meets Tryd.prog 28 [.ptr 500 0, .i64 most] [(500, some ⟨.agg [.str (i).r, .err 161 ((i).e) (offE eo ((i).e))], 82, true⟩), (3, some ⟨.agg [.err 161 (2) (offE eo (2))], errT, false⟩), (0, some ⟨.agg [.err 161 (4) (offE eo (4))], errT, false⟩), (1, some ⟨.agg [.err 161 (3) (offE eo (3))], errT, false⟩)] (.str []) [(500, some ⟨.agg [.str (failD (bigT i most).1 3).r, .err 161 ((failD (bigT i most).1 3).e) (offE eo ((failD (bigT i most).1 3).e))], 82, true⟩)] := by
 have hl : (bigT i most).2.length ≤ 9223372036854775000 := by have := (textD_len_le i (bigM most + 1)).1; unfold bigT; omega
 have hl2 : (shortB (bigT i most).2).length ≤ 9223372036854775000 := by have := length_shortB (bigT i most).2; omega
 have hm : bigM most = min (max most 0) 4096 := rfl
 refine meets_of_ev (nt := 31) Tryd.func28 rfl rfl (Nat.le_of_ble_eq_true rfl) ?_
 refine .seq ?_
 refine .region ?_
 refine .q (op_assign rfl) trivial rfl ?_
 refine .nil ?_
 show Ev _ _ _ _ _
 refine .seq ?_
 refine .region ?_
 refine .q (op_move rfl) trivial rfl ?_
 refine .q (op_maxI rfl rfl) trivial rfl ?_
 refine .q (op_minI rfl rfl) trivial rfl ?_
 refine .as (.i64 (bigM most)) rfl ?_
 refine .q (op_assign rfl) trivial rfl ?_
 refine .nil ?_
 show Ev _ _ _ _ _
 refine .seq ?_
 refine .region ?_
 refine .q (op_move rfl) trivial rfl ?_
 refine .q (op_move rfl) trivial rfl ?_
 refine .q (op_addI rfl rfl ⟨by omega, by omega⟩) trivial rfl ?_
 refine .a (op_call (U := [(500, some ⟨.agg [.str ((bigT i most).1).r, .err 161 (((bigT i most).1).e) (offE eo (((bigT i most).1).e))], 82, true⟩)]) [(500, 500)] [] (itext_ev i (bigM most + 1) eo) Tryd.func25 (by kernel_rfl) rfl rfl rfl (⟨⟨_, rfl, rfl, rfl⟩, ⟨_, rfl, rfl, rfl⟩, trivial⟩) (⟨⟨_, _, rfl, rfl, rfl, rfl, id, rfl⟩, ⟨_, _, rfl, rfl, rfl, rfl, (fun h => by cases h), rfl⟩, ⟨_, _, rfl, rfl, rfl, rfl, (fun h => by cases h), rfl⟩, trivial⟩) (⟨⟨500, _, rfl, rfl, rfl, rfl, .inr ⟨rfl, _, rfl, rfl⟩⟩, trivial⟩) (⟨(fun _ => ⟨500, _, rfl, rfl⟩), (fun h => by cases h), (fun h => by cases h), trivial⟩) rfl) trivial rfl ?_
 refine .q (op_assign rfl) trivial rfl ?_
 refine .nil ?_
 show Ev _ _ _ _ _
 refine .seq ?_
 refine .region ?_
 refine .q (op_move rfl) trivial rfl ?_
 refine .q (op_call (U := []) [] [] (short_ev (bigT i most).2 (by omega)) Tryd.func48 (by kernel_rfl) rfl rfl rfl (⟨⟨_, rfl, rfl, rfl⟩, trivial⟩) (trivial) (trivial) (trivial) rfl) trivial rfl ?_
 refine .q (op_assign rfl) trivial rfl ?_
 refine .nil ?_
 show Ev _ _ _ _ _
 refine .seq ?_
 refine .seq ?_
 refine .region ?_
 refine .q (op_move rfl) trivial rfl ?_
 refine .q (op_call (U := []) [] [] (uns_ev (shortB (bigT i most).2) (by omega)) Tryd.func47 (by kernel_rfl) rfl rfl rfl (⟨⟨_, rfl, rfl, rfl⟩, trivial⟩) (trivial) (trivial) (trivial) rfl) trivial rfl ?_
 refine .q (op_move rfl) trivial rfl ?_
 refine .q (op_eqS rfl rfl rfl) trivial rfl ?_
 refine .nil ?_
 show Ev _ _ _ _ _
 refine .cond_true rfl (bne_iff_ne.2 h1) ?_
 refine .seq ?_
 refine .region ?_
 refine .q (op_move rfl) trivial rfl ?_
 refine .q (op_load Tryd.underlying56 rfl rfl rfl rfl (by first | omega | (simp only [AV.len]; omega) | (simp only [AV.len]; omega) | assumption | (simp [AV.len]; done))) trivial rfl ?_
 refine .a (op_call (U := [(500, some ⟨.agg [.str (failD (bigT i most).1 3).r, .err 161 ((failD (bigT i most).1 3).e) (offE eo ((failD (bigT i most).1 3).e))], 82, true⟩)]) [(500, 500)] [] (fail_ev (bigT i most).1 3 eo) Tryd.func52 (by kernel_rfl) rfl rfl rfl (⟨⟨_, rfl, rfl, rfl⟩, ⟨_, rfl, rfl, rfl⟩, trivial⟩) (⟨⟨_, _, rfl, rfl, rfl, rfl, id, rfl⟩, trivial⟩) (⟨⟨500, _, rfl, rfl, rfl, rfl, .inr ⟨rfl, _, rfl, rfl⟩⟩, trivial⟩) (⟨(fun _ => ⟨500, _, rfl, rfl⟩), trivial⟩) rfl) trivial rfl ?_
 refine .q (op_assign rfl) trivial rfl ?_
 refine .nil ?_
 show Ev _ _ _ _ _
 refine .ret ?_
 show RetOk _ _ _ _ _ _ _
 exact ret1v rfl (.inl rfl) rfl rfl ⟨rfl, trivial⟩
set_option maxRecDepth 100000 in
theorem big_big (i : DI) (most : Int) (hr : i.r.length ≤ 9223372036854770000) (h1 : unsB (shortB (bigT i most).2) = (bigT i most).2) (h2 : bigM most < ((shortB (bigT i most).2).length : Int)) (eo : Nat → Nat × Nat) : Meets Tryd.prog 28 [.ptr 500 0, .i64 most] [(500, some ⟨.agg [.str (i).r, .err 161 ((i).e) (offE eo ((i).e))], 82, true⟩), (3, some ⟨.agg [.err 161 (2) (offE eo (2))], errT, false⟩), (0, some ⟨.agg [.err 161 (4) (offE eo (4))], errT, false⟩), (1, some ⟨.agg [.err 161 (3) (offE eo (3))], errT, false⟩)] (.str []) [(500, some ⟨.agg [.str (failD (bigT i most).1 4).r, .err 161 ((failD (bigT i most).1 4).e) (offE eo ((failD (bigT i most).1 4).e))], 82, true⟩)] := by
 have hl : (bigT i most).2.length ≤ 9223372036854775000 := by have := (textD_len_le i (bigM most + 1)).1; unfold bigT; omega
 have hl2 : (shortB (bigT i most).2).length ≤ 9223372036854775000 := by have := length_shortB (bigT i most).2; omega
 have hm : bigM most = min (max most 0) 4096 := rfl
 refine meets_of_ev (nt := 31) Tryd.func28 rfl rfl (Nat.le_of_ble_eq_true rfl) ?_
 refine .seq ?_
 refine .region ?_
 refine .q (op_assign rfl) trivial rfl ?_
 refine .nil ?_
 show Ev _ _ _ _ _
 refine .seq ?_
 refine .region ?_
 refine .q (op_move rfl) trivial rfl ?_
 refine .q (op_maxI rfl rfl) trivial rfl ?_
 refine .q (op_minI rfl rfl) trivial rfl ?_
 refine .as (.i64 (bigM most)) rfl ?_
 refine .q (op_assign rfl) trivial rfl ?_
 refine .nil ?_
 show Ev _ _ _ _ _
 refine .seq ?_
 refine .region ?_
 refine .q (op_move rfl) trivial rfl ?_
 refine .q (op_move rfl) trivial rfl ?_
 refine .q (op_addI rfl rfl ⟨by omega, by omega⟩) trivial rfl ?_
 refine .a (op_call (U := [(500, some ⟨.agg [.str ((bigT i most).1).r, .err 161 (((bigT i most).1).e) (offE eo (((bigT i most).1).e))], 82, true⟩)]) [(500, 500)] [] (itext_ev i (bigM most + 1) eo) Tryd.func25 (by kernel_rfl) rfl rfl rfl (⟨⟨_, rfl, rfl, rfl⟩, ⟨_, rfl, rfl, rfl⟩, trivial⟩) (⟨⟨_, _, rfl, rfl, rfl, rfl, id, rfl⟩, ⟨_, _, rfl, rfl, rfl, rfl, (fun h => by cases h), rfl⟩, ⟨_, _, rfl, rfl, rfl, rfl, (fun h => by cases h), rfl⟩, trivial⟩) (⟨⟨500, _, rfl, rfl, rfl, rfl, .inr ⟨rfl, _, rfl, rfl⟩⟩, trivial⟩) (⟨(fun _ => ⟨500, _, rfl, rfl⟩), (fun h => by cases h), (fun h => by cases h), trivial⟩) rfl) trivial rfl ?_
 refine .q (op_assign rfl) trivial rfl ?_
 refine .nil ?_
 show Ev _ _ _ _ _
 refine .seq ?_
 refine .region ?_
 refine .q (op_move rfl) trivial rfl ?_
 refine .q (op_call (U := []) [] [] (short_ev (bigT i most).2 (by omega)) Tryd.func48 (by kernel_rfl) rfl rfl rfl (⟨⟨_, rfl, rfl, rfl⟩, trivial⟩) (trivial) (trivial) (trivial) rfl) trivial rfl ?_
 refine .q (op_assign rfl) trivial rfl ?_
 refine .nil ?_
 show Ev _ _ _ _ _
 refine .seq ?_
 refine .seq ?_
 refine .region ?_
 refine .q (op_move rfl) trivial rfl ?_
 refine .q (op_call (U := []) [] [] (uns_ev (shortB (bigT i most).2) (by omega)) Tryd.func47 (by kernel_rfl) rfl rfl rfl (⟨⟨_, rfl, rfl, rfl⟩, trivial⟩) (trivial) (trivial) (trivial) rfl) trivial rfl ?_
 refine .q (op_move rfl) trivial rfl ?_
 refine .q (op_eqS rfl rfl rfl) trivial rfl ?_
 refine .nil ?_
 show Ev _ _ _ _ _
 refine .cond_false rfl (bne_eq_false_iff_eq.2 h1) ?_
 refine .skip ?_
 show Ev _ _ _ _ _
 refine .seq ?_
 refine .seq ?_
 refine .region ?_
 refine .q (op_move rfl) trivial rfl ?_
 refine .q (op_len_str Tryd.underlying9 rfl) trivial rfl ?_
 refine .q (op_move rfl) trivial rfl ?_
 refine .q (op_cmpI rfl rfl rfl) trivial rfl ?_
 refine .nil ?_
 show Ev _ _ _ _ _
 refine .cond_true rfl (decide_eq_true h2) ?_
 refine .seq ?_
 refine .region ?_
 refine .q (op_move rfl) trivial rfl ?_
 refine .q (op_load Tryd.underlying56 rfl rfl rfl rfl (by first | omega | (simp only [AV.len]; omega) | (simp only [AV.len]; omega) | assumption | (simp [AV.len]; done))) trivial rfl ?_
 refine .a (op_call (U := [(500, some ⟨.agg [.str (failD (bigT i most).1 4).r, .err 161 ((failD (bigT i most).1 4).e) (offE eo ((failD (bigT i most).1 4).e))], 82, true⟩)]) [(500, 500)] [] (fail_ev (bigT i most).1 4 eo) Tryd.func52 (by kernel_rfl) rfl rfl rfl (⟨⟨_, rfl, rfl, rfl⟩, ⟨_, rfl, rfl, rfl⟩, trivial⟩) (⟨⟨_, _, rfl, rfl, rfl, rfl, id, rfl⟩, trivial⟩) (⟨⟨500, _, rfl, rfl, rfl, rfl, .inr ⟨rfl, _, rfl, rfl⟩⟩, trivial⟩) (⟨(fun _ => ⟨500, _, rfl, rfl⟩), trivial⟩) rfl) trivial rfl ?_
 refine .q (op_assign rfl) trivial rfl ?_
 refine .nil ?_
 show Ev _ _ _ _ _
 refine .ret ?_
 show RetOk _ _ _ _ _ _ _
 exact ret1v rfl (.inl rfl) rfl rfl ⟨rfl, trivial⟩
set_option maxRecDepth 100000 in
theorem big_ok (i : DI) (most : Int) (hr : i.r.length ≤ 9223372036854770000) (h1 : unsB (shortB (bigT i most).2) = (bigT i most).2) (h2 : ¬ bigM most < ((shortB (bigT i most).2).length : Int)) (eo : Nat → Nat × Nat) : Meets Tryd.prog 28 [.ptr 500 0, .i64 most] [(500, some ⟨.agg [.str (i).r, .err 161 ((i).e) (offE eo ((i).e))], 82, true⟩), (3, some ⟨.agg [.err 161 (2) (offE eo (2))], errT, false⟩), (0, some ⟨.agg [.err 161 (4) (offE eo (4))], errT, false⟩), (1, some ⟨.agg [.err 161 (3) (offE eo (3))], errT, false⟩)] (.str (shortB (bigT i most).2)) [(500, some ⟨.agg [.str ((bigT i most).1).r, .err 161 (((bigT i most).1).e) (offE eo (((bigT i most).1).e))], 82, true⟩)] := by
 have hl : (bigT i most).2.length ≤ 9223372036854775000 := by have := (textD_len_le i (bigM most + 1)).1; unfold bigT; omega
 have hl2 : (shortB (bigT i most).2).length ≤ 9223372036854775000 := by have := length_shortB (bigT i most).2; omega
 have hm : bigM most = min (max most 0) 4096 := rfl
 refine meets_of_ev (nt := 31) Tryd.func28 rfl rfl (Nat.le_of_ble_eq_true rfl) ?_
 refine .seq ?_
 refine .region ?_
 refine .q (op_assign rfl) trivial rfl ?_
 refine .nil ?_
 show Ev _ _ _ _ _
 refine .seq ?_
 refine .region ?_
 refine .q (op_move rfl) trivial rfl ?_
 refine .q (op_maxI rfl rfl) trivial rfl ?_
 refine .q (op_minI rfl rfl) trivial rfl ?_
 refine .as (.i64 (bigM most)) rfl ?_
 refine .q (op_assign rfl) trivial rfl ?_
 refine .nil ?_
 show Ev _ _ _ _ _
 refine .seq ?_
 refine .region ?_
 refine .q (op_move rfl) trivial rfl ?_
 refine .q (op_move rfl) trivial rfl ?_
 refine .q (op_addI rfl rfl ⟨by omega, by omega⟩) trivial rfl ?_
 refine .a (op_call (U := [(500, some ⟨.agg [.str ((bigT i most).1).r, .err 161 (((bigT i most).1).e) (offE eo (((bigT i most).1).e))], 82, true⟩)]) [(500, 500)] [] (itext_ev i (bigM most + 1) eo) Tryd.func25 (by kernel_rfl) rfl rfl rfl (⟨⟨_, rfl, rfl, rfl⟩, ⟨_, rfl, rfl, rfl⟩, trivial⟩) (⟨⟨_, _, rfl, rfl, rfl, rfl, id, rfl⟩, ⟨_, _, rfl, rfl, rfl, rfl, (fun h => by cases h), rfl⟩, ⟨_, _, rfl, rfl, rfl, rfl, (fun h => by cases h), rfl⟩, trivial⟩) (⟨⟨500, _, rfl, rfl, rfl, rfl, .inr ⟨rfl, _, rfl, rfl⟩⟩, trivial⟩) (⟨(fun _ => ⟨500, _, rfl, rfl⟩), (fun h => by cases h), (fun h => by cases h), trivial⟩) rfl) trivial rfl ?_
 refine .q (op_assign rfl) trivial rfl ?_
 refine .nil ?_
 show Ev _ _ _ _ _
 refine .seq ?_
 refine .region ?_
 refine .q (op_move rfl) trivial rfl ?_
 refine .q (op_call (U := []) [] [] (short_ev (bigT i most).2 (by omega)) Tryd.func48 (by kernel_rfl) rfl rfl rfl (⟨⟨_, rfl, rfl, rfl⟩, trivial⟩) (trivial) (trivial) (trivial) rfl) trivial rfl ?_
 refine .q (op_assign rfl) trivial rfl ?_
 refine .nil ?_
 show Ev _ _ _ _ _
 refine .seq ?_
 refine .seq ?_
 refine .region ?_
 refine .q (op_move rfl) trivial rfl ?_
 refine .q (op_call (U := []) [] [] (uns_ev (shortB (bigT i most).2) (by omega)) Tryd.func47 (by kernel_rfl) rfl rfl rfl (⟨⟨_, rfl, rfl, rfl⟩, trivial⟩) (trivial) (trivial) (trivial) rfl) trivial rfl ?_
 refine .q (op_move rfl) trivial rfl ?_
 refine .q (op_eqS rfl rfl rfl) trivial rfl ?_
 refine .nil ?_
 show Ev _ _ _ _ _
 refine .cond_false rfl (bne_eq_false_iff_eq.2 h1) ?_
 refine .skip ?_
 show Ev _ _ _ _ _
 refine .seq ?_
 refine .seq ?_
 refine .region ?_
 refine .q (op_move rfl) trivial rfl ?_
 refine .q (op_len_str Tryd.underlying9 rfl) trivial rfl ?_
 refine .q (op_move rfl) trivial rfl ?_
 refine .q (op_cmpI rfl rfl rfl) trivial rfl ?_
 refine .nil ?_
 show Ev _ _ _ _ _
 refine .cond_false rfl (decide_eq_false h2) ?_
 refine .skip ?_
 show Ev _ _ _ _ _
 refine .seq ?_
 refine .region ?_
 refine .q (op_move rfl) trivial rfl ?_
 refine .q (op_assign rfl) trivial rfl ?_
 refine .nil ?_
 show Ev _ _ _ _ _
 refine .ret ?_
 show RetOk _ _ _ _ _ _ _
 exact ret1v rfl (.inl rfl) rfl rfl ⟨rfl, trivial⟩
theorem ibig_ev (i : DI) (most : Int) (hr : i.r.length ≤ 9223372036854770000) (eo : Nat → Nat × Nat) : Meets Tryd.prog 28 [.ptr 500 0, .i64 most] [(500, some ⟨.agg [.str (i).r, .err 161 ((i).e) (offE eo ((i).e))], 82, true⟩), (3, some ⟨.agg [.err 161 (2) (offE eo (2))], errT, false⟩), (0, some ⟨.agg [.err 161 (4) (offE eo (4))], errT, false⟩), (1, some ⟨.agg [.err 161 (3) (offE eo (3))], errT, false⟩)] (.str (bigD i most).2) [(500, some ⟨.agg [.str ((bigD i most).1).r, .err 161 (((bigD i most).1).e) (offE eo (((bigD i most).1).e))], 82, true⟩)] := by
 by_cases h1 : unsB (shortB (bigT i most).2) = (bigT i most).2
 ·by_cases h2 : bigM most < ((shortB (bigT i most).2).length : Int)
  ·rw [show bigD i most = (failD (bigT i most).1 4, []) from (if_pos h1).trans (if_pos h2)]; exact big_big i most hr h1 h2 eo
  ·rw [show bigD i most = ((bigT i most).1, shortB (bigT i most).2) from (if_pos h1).trans (if_neg h2)]; exact big_ok i most hr h1 h2 eo
 ·rw [show bigD i most = (failD (bigT i most).1 3, []) from if_neg h1]; exact big_form i most hr h1 eo
set_option maxRecDepth 100000 in
theorem end_ok (i : DI) (h : i.r = []) (eo : Nat → Nat × Nat) : Meets Tryd.prog 30 [.ptr 500 0] [(500, some ⟨.agg [.str (i).r, .err 161 ((i).e) (offE eo ((i).e))], 82, true⟩), (1, some ⟨.agg [.err 161 (3) (offE eo (3))], errT, false⟩)] (.err 161 ((i).e) (offE eo ((i).e))) [(500, some ⟨.agg [.str (i).r, .err 161 ((i).e) (offE eo ((i).e))], 82, true⟩)] := by
 refine meets_of_ev (nt := 15) Tryd.func30 rfl rfl (Nat.le_of_ble_eq_true rfl) ?_
 refine .seq ?_
 refine .region ?_
 refine .q (op_assign rfl) trivial rfl ?_
 refine .nil ?_
 show Ev _ _ _ _ _
 refine .seq ?_
 refine .seq ?_
 refine .region ?_
 refine .q (op_move rfl) trivial rfl ?_
 refine .q (op_nilCheck rfl) trivial rfl ?_
 refine .q (op_fieldAddr (m := 0) Tryd.underlying82 rfl (by kernel_rfl) rfl) trivial rfl ?_
 refine .as (.ptr 500 0) rfl ?_
 refine .q (op_load Tryd.underlying9 rfl rfl rfl rfl (by first | omega | (simp only [AV.len]; omega) | (simp only [AV.len]; omega) | assumption | (simp [AV.len]; done))) trivial rfl ?_
 refine .q (op_eqS rfl rfl rfl) trivial rfl ?_
 refine .nil ?_
 show Ev _ _ _ _ _
 refine .cond_false rfl (by simpa using h) ?_
 refine .skip ?_
 show Ev _ _ _ _ _
 refine .seq ?_
 refine .region ?_
 refine .q (op_move rfl) trivial rfl ?_
 refine .q (op_nilCheck rfl) trivial rfl ?_
 refine .q (op_fieldAddr (m := 0) Tryd.underlying82 rfl (by kernel_rfl) rfl) trivial rfl ?_
 refine .as (.ptr 500 1) rfl ?_
 refine .q (op_load Tryd.underlying56 rfl rfl rfl rfl (by first | omega | (simp only [AV.len]; omega) | (simp only [AV.len]; omega) | assumption | (simp [AV.len]; done))) trivial rfl ?_
 refine .q (op_assign rfl) trivial rfl ?_
 refine .nil ?_
 show Ev _ _ _ _ _
 refine .ret ?_
 show RetOk _ _ _ _ _ _ _
 exact ret1v rfl (.inl rfl) rfl rfl ⟨rfl, trivial⟩
set_option maxRecDepth 100000 in
theorem end_bad (i : DI) (h : ¬ i.r = []) (eo : Nat → Nat × Nat) : Meets Tryd.prog 30 [.ptr 500 0] [(500, some ⟨.agg [.str (i).r, .err 161 ((i).e) (offE eo ((i).e))], 82, true⟩), (1, some ⟨.agg [.err 161 (3) (offE eo (3))], errT, false⟩)] (.err 161 ((failD i 3).e) (offE eo ((failD i 3).e))) [(500, some ⟨.agg [.str (failD i 3).r, .err 161 ((failD i 3).e) (offE eo ((failD i 3).e))], 82, true⟩)] := by
 refine meets_of_ev (nt := 15) Tryd.func30 rfl rfl (Nat.le_of_ble_eq_true rfl) ?_
 refine .seq ?_
 refine .region ?_
 refine .q (op_assign rfl) trivial rfl ?_
 refine .nil ?_
 show Ev _ _ _ _ _
 refine .seq ?_
 refine .seq ?_
 refine .region ?_
 refine .q (op_move rfl) trivial rfl ?_
 refine .q (op_nilCheck rfl) trivial rfl ?_
 refine .q (op_fieldAddr (m := 0) Tryd.underlying82 rfl (by kernel_rfl) rfl) trivial rfl ?_
 refine .as (.ptr 500 0) rfl ?_
 refine .q (op_load Tryd.underlying9 rfl rfl rfl rfl (by first | omega | (simp only [AV.len]; omega) | (simp only [AV.len]; omega) | assumption | (simp [AV.len]; done))) trivial rfl ?_
 refine .q (op_eqS rfl rfl rfl) trivial rfl ?_
 refine .nil ?_
 show Ev _ _ _ _ _
 refine .cond_true rfl (bne_iff_ne.2 h) ?_
 refine .region ?_
 refine .q (op_move rfl) trivial rfl ?_
 refine .q (op_load Tryd.underlying56 rfl rfl rfl rfl (by first | omega | (simp only [AV.len]; omega) | (simp only [AV.len]; omega) | assumption | (simp [AV.len]; done))) trivial rfl ?_
 refine .a (op_call (U := [(500, some ⟨.agg [.str (failD i 3).r, .err 161 ((failD i 3).e) (offE eo ((failD i 3).e))], 82, true⟩)]) [(500, 500)] [] (fail_ev i 3 eo) Tryd.func52 (by kernel_rfl) rfl rfl rfl (⟨⟨_, rfl, rfl, rfl⟩, ⟨_, rfl, rfl, rfl⟩, trivial⟩) (⟨⟨_, _, rfl, rfl, rfl, rfl, id, rfl⟩, trivial⟩) (⟨⟨500, _, rfl, rfl, rfl, rfl, .inr ⟨rfl, _, rfl, rfl⟩⟩, trivial⟩) (⟨(fun _ => ⟨500, _, rfl, rfl⟩), trivial⟩) rfl) trivial rfl ?_
 refine .nil ?_
 show Ev _ _ _ _ _
 refine .seq ?_
 refine .region ?_
 refine .q (op_move rfl) trivial rfl ?_
 refine .q (op_nilCheck rfl) trivial rfl ?_
 refine .q (op_fieldAddr (m := 0) Tryd.underlying82 rfl (by kernel_rfl) rfl) trivial rfl ?_
 refine .as (.ptr 500 1) rfl ?_
 refine .q (op_load Tryd.underlying56 rfl rfl rfl rfl (by first | omega | (simp only [AV.len]; omega) | (simp only [AV.len]; omega) | assumption | (simp [AV.len]; done))) trivial rfl ?_
 refine .q (op_assign rfl) trivial rfl ?_
 refine .nil ?_
 show Ev _ _ _ _ _
 refine .ret ?_
 show RetOk _ _ _ _ _ _ _
 exact ret1v rfl (.inl rfl) rfl rfl ⟨rfl, trivial⟩
theorem end_ev (i : DI) (eo : Nat → Nat × Nat) : Meets Tryd.prog 30 [.ptr 500 0] [(500, some ⟨.agg [.str (i).r, .err 161 ((i).e) (offE eo ((i).e))], 82, true⟩), (1, some ⟨.agg [.err 161 (3) (offE eo (3))], errT, false⟩)] (.err 161 ((endD i).e) (offE eo ((endD i).e))) [(500, some ⟨.agg [.str (endD i).r, .err 161 ((endD i).e) (offE eo ((endD i).e))], 82, true⟩)] := by
 by_cases h : i.r = []
 ·rw [show endD i = i from if_pos h]; exact end_ok i h eo
 ·rw [show endD i = failD i 3 from if_neg h]; exact end_bad i h eo
set_option maxRecDepth 100000 in
theorem left_ev (i : DI) (eo : Nat → Nat × Nat) : Meets Tryd.prog 31 [.ptr 500 0] [(500, some ⟨.agg [.str (i).r, .err 161 ((i).e) (offE eo ((i).e))], 82, false⟩)] (.i64 (i.r.length : Int)) [(500, some ⟨.agg [.str (i).r, .err 161 ((i).e) (offE eo ((i).e))], 82, false⟩)] := by
 refine meets_of_ev (nt := 8) Tryd.func31 rfl rfl (Nat.le_of_ble_eq_true rfl) ?_
 refine .seq ?_
 refine .region ?_
 refine .q (op_assign rfl) trivial rfl ?_
 refine .nil ?_
 show Ev _ _ _ _ _
 refine .seq ?_
 refine .region ?_
 refine .q (op_move rfl) trivial rfl ?_
 refine .q (op_nilCheck rfl) trivial rfl ?_
 refine .q (op_fieldAddr (m := 0) Tryd.underlying82 rfl (by kernel_rfl) rfl) trivial rfl ?_
 refine .as (.ptr 500 0) rfl ?_
 refine .q (op_load Tryd.underlying9 rfl rfl rfl rfl (by first | omega | (simp only [AV.len]; omega) | (simp only [AV.len]; omega) | assumption | (simp [AV.len]; done))) trivial rfl ?_
 refine .q (op_len_str Tryd.underlying9 rfl) trivial rfl ?_
 refine .q (op_assign rfl) trivial rfl ?_
 refine .nil ?_
 show Ev _ _ _ _ _
 refine .ret ?_
 show RetOk _ _ _ _ _ _ _
 exact ret1v rfl (.inl rfl) rfl rfl ⟨rfl, trivial⟩
set_option maxRecDepth 100000 in
theorem wof_ev (s : List UInt8) (eo : Nat → Nat × Nat) : Meets Tryd.prog 23 [.str s] [] (.ptr 1000 0) [(1000, some ⟨.agg [.str (DI.mk s 0).r, .err 161 ((DI.mk s 0).e) (offE eo ((DI.mk s 0).e))], 82, true⟩)] := by
 refine meets_of_ev (nt := 6) Tryd.func23 rfl rfl (Nat.le_of_ble_eq_true rfl) ?_
 refine .seq ?_
 refine .region ?_
 refine .q (op_assign rfl) trivial rfl ?_
 refine .nil ?_
 show Ev _ _ _ _ _
 refine .seq ?_
 refine .region ?_
 refine .q (op_move rfl) trivial rfl ?_
 refine .q (op_buildS (r := .agg [.str s, .err 161 0 (0, 0)]) Tryd.underlying82 rfl zero82 rel_zero82 rfl rfl rfl rfl) trivial rfl ?_
 refine .a (op_boxRow rfl rfl) trivial rfl ?_
 refine .q (op_assign rfl) trivial rfl ?_
 refine .nil ?_
 show Ev _ _ _ _ _
 refine .ret ?_
 show RetOk _ _ _ _ _ _ _
 exact ret1v rfl (.inl rfl) rfl rfl ⟨rfl, trivial⟩
end Go.Proofs.YtoigppbkfhfllaaDoor
namespace Go.Proofs.YtoigppbkfhfllaaDoor
open Go.RowKit
theorem ch_a {c : UInt8} (h : c ≤ 32) : chOk c = false := by simp [chOk, h]
theorem ch_b {c : UInt8} (h : 126 < c) : chOk c = false := by simp [chOk, h]
theorem ch_c {c : UInt8} (h : c = 44) : chOk c = false := by simp [chOk, h]
theorem ch_ok {c : UInt8} (h1 : ¬ c ≤ 32) (h2 : ¬ 126 < c) (h3 : ¬ c = 44) : chOk c = true := by simp [chOk, h1, h2, h3]
theorem lt33 {c : UInt8} : c < 33 ↔ c ≤ 32 := by simp only [UInt8.lt_iff_toNat_lt, UInt8.le_iff_toNat_le, UInt8.reduceToNat]; omega
theorem name_bad {s : List UInt8} {j : Nat} (hj : j < s.length) (h : chOk (s.getD j 0) = false) : nameOk s = false := by
  have : s.all chOk = false := by
    rw [List.all_eq_false]
    refine ⟨s[j], List.getElem_mem hj, ?_⟩
    rw [show s[j] = s.getD j 0 by simp [List.getD_eq_getElem?_getD, hj], h]; decide
  simp [nameOk, this]
theorem name_step {s : List UInt8} {j : Nat} (hj : j < s.length) (hq : (s.take j).all chOk = true) (h : chOk (s.getD j 0) = true) : (s.take (j + 1)).all chOk = true := by
  rw [List.take_add_one, List.getElem?_eq_getElem hj]
  simp only [Option.toList_some, List.all_append, hq, Bool.true_and, List.all_cons, List.all_nil, Bool.and_true]
  rw [show s[j] = s.getD j 0 by simp [List.getD_eq_getElem?_getD, hj], h]
theorem name_all {s : List UInt8} {j : Nat} (hj : s.length ≤ j) (hq : (s.take j).all chOk = true) : s.all chOk = true := by rwa [List.take_of_length_le hj] at hq
theorem name_ref1 {s : List UInt8} (h0 : 0 < s.length) (h : s.all chOk = true) : decide ((s.length : Int) < 65) = nameOk s := by
  have h1 : (s == []) = false := by cases s with | nil => cases h0 | cons x l => rfl
  simp only [nameOk, h, h1, Bool.and_true, Bool.not_false, Bool.true_and]
  by_cases h2 : 64 < s.length
  · rw [decide_eq_true h2, decide_eq_false (by omega)]; rfl
  · rw [decide_eq_false h2, decide_eq_true (by omega)]; rfl
theorem name_ref0 {s : List UInt8} (h0 : ¬ 0 < s.length) : false = nameOk s := by
  cases s with
  | nil => rfl
  | cons x l => exact absurd (Nat.succ_pos _) h0
set_option maxRecDepth 100000 in
theorem wname_ev (s : List UInt8) (hs : s.length ≤ 9223372036854775000) : Meets Tryd.prog 55 [.str s] [] (.bool (nameOk s)) [] := by
 refine meets_of_ev (nt := 33) Tryd.func55 rfl rfl (Nat.le_of_ble_eq_true rfl) ?_
 refine .seq ?_
 refine .region ?_
 refine .q (op_assign rfl) trivial rfl ?_
 refine .nil ?_
 show Ev _ _ _ _ _
 refine .seq ?_
 refine .seq ?_
 refine .region ?_
 refine .q (op_move rfl) trivial rfl ?_
 refine .q (op_eqS rfl rfl rfl) trivial rfl ?_
 refine .q (op_move rfl) trivial rfl ?_
 refine .split (fun hg6 => ?_) (fun hg6 => ?_)
 ·simp only [beq_iff_eq] at hg6
  refine .no ⟨_, rfl, rfl⟩ rfl ?_
  refine .no ⟨_, rfl, rfl⟩ rfl ?_
  refine .no ⟨_, rfl, rfl⟩ rfl ?_
  refine .q (op_pick_true rfl rfl rfl) trivial rfl ?_
  refine .nil ?_
  show Ev _ _ _ _ _
  refine .cond_true rfl rfl ?_
  refine .seq ?_
  refine .region ?_
  refine .q (op_assign rfl) trivial rfl ?_
  refine .nil ?_
  show Ev _ _ _ _ _
  refine .ret ?_
  show RetOk _ _ _ _ _ _ _
  exact ret1v rfl (.inl rfl) rfl (congrArg AV.bool (by first | exact (name_bad (j := j) (by omega) (by first | exact ch_a hg20 | exact ch_b hg26 | exact ch_c hc31)).symm | exact (by have := name_all (j := j) (by omega) hq; simp only [nameOk, this]; simp; first | done | omega | exact ⟨hg6, by omega⟩) | exact (by first | (subst hg6; rfl) | (simp [nameOk]; omega)))) trivial
 ·simp only [ne_eq, beq_eq_false_iff_ne] at hg6
  refine .q (op_move rfl) ⟨_, rfl, rfl⟩ rfl ?_
  refine .q (op_len_str Tryd.underlying9 rfl) ⟨_, rfl, rfl⟩ rfl ?_
  refine .q (op_cmpI rfl rfl rfl) ⟨_, rfl, rfl⟩ rfl ?_
  refine .q (op_pick_false rfl rfl rfl) trivial rfl ?_
  refine .nil ?_
  show Ev _ _ _ _ _
  refine .cond rfl (fun hc10 => ?_) (fun hc10 => ?_)
  ·simp only [decide_eq_true_eq] at hc10
   refine .seq ?_
   refine .region ?_
   refine .q (op_assign rfl) trivial rfl ?_
   refine .nil ?_
   show Ev _ _ _ _ _
   refine .ret ?_
   show RetOk _ _ _ _ _ _ _
   exact ret1v rfl (.inl rfl) rfl (congrArg AV.bool (by first | exact (name_bad (j := j) (by omega) (by first | exact ch_a hg20 | exact ch_b hg26 | exact ch_c hc31)).symm | exact (by have := name_all (j := j) (by omega) hq; simp only [nameOk, this]; simp; first | done | omega | exact ⟨hg6, by omega⟩) | exact (by first | (subst hg6; rfl) | (simp [nameOk]; omega)))) trivial
  ·simp only [decide_eq_false_iff_not] at hc10
   refine .skip ?_
   show Ev _ _ _ _ _
   refine .seq ?_
   refine .seq ?_
   refine .region ?_
   refine .q (op_move rfl) trivial rfl ?_
   refine .q (op_len_str Tryd.underlying9 rfl) trivial rfl ?_
   refine .q (op_move rfl) trivial rfl ?_
   refine .nil ?_
   show Ev _ _ _ _ _
   refine .block ?_
   refine Ev.loop (ι := { j : Nat // j ≤ s.length ∧ (s.take j).all chOk = true }) (fun q => ⟨[(0, .str s), (12, .i64 (s.length : Int)), (13, .i64 (q.1 : Int))], [], 1000⟩) (fun q => s.length - q.1) ⟨0, by omega, rfl⟩ (StLe.mk [] rfl rfl ⟨⟨_, rfl, by first | rfl | (simp only [AV.ren]; congr 1; omega), rfl⟩, ⟨_, rfl, by first | rfl | (simp only [AV.ren]; congr 1; omega), rfl⟩, ⟨_, rfl, by first | rfl | (simp only [AV.ren]; congr 1; omega), rfl⟩, trivial⟩ trivial) ?_
   rintro ⟨j, hj, hq⟩
   try dsimp only
   refine .seq ?_
   refine .region ?_
   refine .q (op_cmpI rfl rfl rfl) trivial rfl ?_
   refine .nil ?_
   show Ev _ _ _ _ _
   refine .seq ?_
   refine .cond rfl (fun hc14 => ?_) (fun hc14 => ?_)
   ·simp only [decide_eq_true_eq] at hc14
    refine .skip ?_
    show Ev _ _ _ _ _
    refine .seq ?_
    refine .block ?_
    refine .seq ?_
    refine .region ?_
    refine .q (op_move rfl) trivial rfl ?_
    refine .q (op_assign rfl) trivial rfl ?_
    refine .nil ?_
    show Ev _ _ _ _ _
    refine .seq ?_
    refine .region ?_
    refine .q (op_move rfl) trivial rfl ?_
    refine .q (op_move rfl) trivial rfl ?_
    refine .q (op_index_str Tryd.underlying9 rfl rfl rfl (by omega)) trivial rfl ?_
    refine .q (op_bin8 rfl rfl rfl) trivial rfl ?_
    refine .q (op_move rfl) trivial rfl ?_
    refine .split (fun hg20 => ?_) (fun hg20 => ?_)
    ·simp only [decide_eq_true_eq] at hg20
     refine .no ⟨_, rfl, rfl⟩ rfl ?_
     refine .no ⟨_, rfl, rfl⟩ rfl ?_
     refine .no ⟨_, rfl, rfl⟩ rfl ?_
     refine .no ⟨_, rfl, rfl⟩ rfl ?_
     refine .q (op_pick_true rfl rfl rfl) trivial rfl ?_
     refine .q (op_move rfl) trivial rfl ?_
     refine .no ⟨_, rfl, rfl⟩ rfl ?_
     refine .no ⟨_, rfl, rfl⟩ rfl ?_
     refine .no ⟨_, rfl, rfl⟩ rfl ?_
     refine .no ⟨_, rfl, rfl⟩ rfl ?_
     refine .q (op_pick_true rfl rfl rfl) trivial rfl ?_
     refine .nil ?_
     show Ev _ _ _ _ _
     refine .cond_true rfl rfl ?_
     refine .seq ?_
     refine .region ?_
     refine .q (op_assign rfl) trivial rfl ?_
     refine .nil ?_
     show Ev _ _ _ _ _
     refine .ret ?_
     show RetOk _ _ _ _ _ _ _
     exact ret1v rfl (.inl rfl) rfl (congrArg AV.bool (by first | exact (name_bad (j := j) (by omega) (by first | exact ch_a hg20 | exact ch_b hg26 | exact ch_c hc31)).symm | exact (by have := name_all (j := j) (by omega) hq; simp only [nameOk, this]; simp; first | done | omega | exact ⟨hg6, by omega⟩) | exact (by first | (subst hg6; rfl) | (simp [nameOk]; omega)))) trivial
    ·simp only [decide_eq_false_iff_not] at hg20
     refine .q (op_move rfl) ⟨_, rfl, rfl⟩ rfl ?_
     refine .q (op_move rfl) ⟨_, rfl, rfl⟩ rfl ?_
     refine .q (op_index_str Tryd.underlying9 rfl rfl rfl (by omega)) ⟨_, rfl, rfl⟩ rfl ?_
     refine .q (op_bin8 rfl rfl rfl) ⟨_, rfl, rfl⟩ rfl ?_
     refine .q (op_pick_false rfl rfl rfl) trivial rfl ?_
     refine .q (op_move rfl) trivial rfl ?_
     refine .split (fun hg26 => ?_) (fun hg26 => ?_)
     ·simp only [decide_eq_true_eq] at hg26
      refine .no ⟨_, rfl, rfl⟩ rfl ?_
      refine .no ⟨_, rfl, rfl⟩ rfl ?_
      refine .no ⟨_, rfl, rfl⟩ rfl ?_
      refine .no ⟨_, rfl, rfl⟩ rfl ?_
      refine .q (op_pick_true rfl rfl rfl) trivial rfl ?_
      refine .nil ?_
      show Ev _ _ _ _ _
      refine .cond_true rfl rfl ?_
      refine .seq ?_
      refine .region ?_
      refine .q (op_assign rfl) trivial rfl ?_
      refine .nil ?_
      show Ev _ _ _ _ _
      refine .ret ?_
      show RetOk _ _ _ _ _ _ _
      exact ret1v rfl (.inl rfl) rfl (congrArg AV.bool (by first | exact (name_bad (j := j) (by omega) (by first | exact ch_a hg20 | exact ch_b hg26 | exact ch_c hc31)).symm | exact (by have := name_all (j := j) (by omega) hq; simp only [nameOk, this]; simp; first | done | omega | exact ⟨hg6, by omega⟩) | exact (by first | (subst hg6; rfl) | (simp [nameOk]; omega)))) trivial
     ·simp only [decide_eq_false_iff_not] at hg26
      refine .q (op_move rfl) ⟨_, rfl, rfl⟩ rfl ?_
      refine .q (op_move rfl) ⟨_, rfl, rfl⟩ rfl ?_
      refine .q (op_index_str Tryd.underlying9 rfl rfl rfl (by omega)) ⟨_, rfl, rfl⟩ rfl ?_
      refine .q (op_bin8 rfl rfl rfl) ⟨_, rfl, rfl⟩ rfl ?_
      refine .q (op_pick_false rfl rfl rfl) trivial rfl ?_
      refine .nil ?_
      show Ev _ _ _ _ _
      refine .cond rfl (fun hc31 => ?_) (fun hc31 => ?_)
      ·simp only [beq_iff_eq] at hc31
       refine .seq ?_
       refine .region ?_
       refine .q (op_assign rfl) trivial rfl ?_
       refine .nil ?_
       show Ev _ _ _ _ _
       refine .ret ?_
       show RetOk _ _ _ _ _ _ _
       exact ret1v rfl (.inl rfl) rfl (congrArg AV.bool (by first | exact (name_bad (j := j) (by omega) (by first | exact ch_a hg20 | exact ch_b hg26 | exact ch_c hc31)).symm | exact (by have := name_all (j := j) (by omega) hq; simp only [nameOk, this]; simp; first | done | omega | exact ⟨hg6, by omega⟩) | exact (by first | (subst hg6; rfl) | (simp [nameOk]; omega)))) trivial
      ·simp only [ne_eq, beq_eq_false_iff_ne] at hc31
       refine .skip ?_
       show Ev _ _ _ _ _
       refine .region ?_
       refine .q (op_addI rfl rfl ⟨by omega, by omega⟩) trivial rfl ?_
       refine .q (op_move rfl) trivial rfl ?_
       refine .nil ?_
       exact ⟨⟨j + 1, by omega, name_step (by omega) hq (ch_ok hg20 hg26 hc31)⟩, by (try dsimp only); omega, StLe.mk [] rfl rfl ⟨⟨_, rfl, by first | rfl | (simp only [AV.ren]; congr 1; omega), rfl⟩, ⟨_, rfl, by first | rfl | (simp only [AV.ren]; congr 1; omega), rfl⟩, ⟨_, rfl, by first | rfl | (simp only [AV.ren]; congr 1; omega), rfl⟩, trivial⟩ trivial⟩
   ·simp only [decide_eq_false_iff_not] at hc14
    refine .exit ?_
    show Ev _ _ _ _ _
    refine .seq ?_
    refine .region ?_
    refine .q (op_assign rfl) trivial rfl ?_
    refine .nil ?_
    show Ev _ _ _ _ _
    refine .ret ?_
    show RetOk _ _ _ _ _ _ _
    exact ret1v rfl (.inl rfl) rfl (congrArg AV.bool (by first | exact (name_bad (j := j) (by omega) (by first | exact ch_a hg20 | exact ch_b hg26 | exact ch_c hc31)).symm | exact (by have := name_all (j := j) (by omega) hq; simp only [nameOk, this]; simp; first | done | omega | exact ⟨hg6, by omega⟩) | exact (by first | (subst hg6; rfl) | (simp [nameOk]; omega)))) trivial
set_option maxRecDepth 100000 in
theorem rname_ev (s : List UInt8) (hs : s.length ≤ 9223372036854775000) : Meets Tryd.prog 22 [.str s] [] (.bool (nameOk s)) [] := by
 refine meets_of_ev (nt := 34) Tryd.func22 rfl rfl (Nat.le_of_ble_eq_true rfl) ?_
 refine .seq ?_
 refine .region ?_
 refine .q (op_assign rfl) trivial rfl ?_
 refine .nil ?_
 show Ev _ _ _ _ _
 refine .seq ?_
 refine .seq ?_
 refine .region ?_
 refine .q (op_assign rfl) trivial rfl ?_
 refine .nil ?_
 show Ev _ _ _ _ _
 refine .block ?_
 refine Ev.loop (ι := { j : Nat // j ≤ s.length ∧ (s.take j).all chOk = true }) (fun q => ⟨[(0, .str s), (3, .i64 (q.1 : Int))], [], 1000⟩) (fun q => s.length - q.1) ⟨0, by omega, rfl⟩ (StLe.mk [] rfl rfl ⟨⟨_, rfl, by first | rfl | (simp only [AV.ren]; congr 1; omega), rfl⟩, ⟨_, rfl, by first | rfl | (simp only [AV.ren]; congr 1; omega), rfl⟩, trivial⟩ trivial) ?_
 rintro ⟨j, hj, hq⟩
 try dsimp only
 refine .seq ?_
 refine .seq ?_
 refine .region ?_
 refine .q (op_move rfl) trivial rfl ?_
 refine .q (op_move rfl) trivial rfl ?_
 refine .q (op_len_str Tryd.underlying9 rfl) trivial rfl ?_
 refine .q (op_cmpI rfl rfl rfl) trivial rfl ?_
 refine .nil ?_
 show Ev _ _ _ _ _
 refine .cond rfl (fun hc7 => ?_) (fun hc7 => ?_)
 ·simp only [decide_eq_true_eq] at hc7
  refine .skip ?_
  show Ev _ _ _ _ _
  refine .seq ?_
  refine .block ?_
  refine .seq ?_
  refine .region ?_
  refine .q (op_move rfl) trivial rfl ?_
  refine .q (op_move rfl) trivial rfl ?_
  refine .q (op_index_str Tryd.underlying9 rfl rfl rfl (by omega)) trivial rfl ?_
  refine .q (op_bin8 rfl rfl rfl) trivial rfl ?_
  refine .q (op_move rfl) trivial rfl ?_
  refine .split (fun hg14 => ?_) (fun hg14 => ?_)
  ·simp only [decide_eq_true_eq] at hg14
   refine .no ⟨_, rfl, rfl⟩ rfl ?_
   refine .no ⟨_, rfl, rfl⟩ rfl ?_
   refine .no ⟨_, rfl, rfl⟩ rfl ?_
   refine .no ⟨_, rfl, rfl⟩ rfl ?_
   refine .q (op_pick_true rfl rfl rfl) trivial rfl ?_
   refine .q (op_move rfl) trivial rfl ?_
   refine .no ⟨_, rfl, rfl⟩ rfl ?_
   refine .no ⟨_, rfl, rfl⟩ rfl ?_
   refine .no ⟨_, rfl, rfl⟩ rfl ?_
   refine .no ⟨_, rfl, rfl⟩ rfl ?_
   refine .q (op_pick_true rfl rfl rfl) trivial rfl ?_
   refine .nil ?_
   show Ev _ _ _ _ _
   refine .cond_true rfl rfl ?_
   refine .seq ?_
   refine .region ?_
   refine .q (op_assign rfl) trivial rfl ?_
   refine .nil ?_
   show Ev _ _ _ _ _
   refine .ret ?_
   show RetOk _ _ _ _ _ _ _
   exact ret1v rfl (.inl rfl) rfl (congrArg AV.bool (by first | exact (name_bad (j := j) (by omega) (by first | exact ch_a (lt33.1 hg14) | exact ch_b hg20 | exact ch_c hc25)).symm | exact (by first | exact name_ref1 (by omega) (name_all (j := j) (by omega) hq) | exact name_ref0 (by omega)) | exact rfl)) trivial
  ·simp only [decide_eq_false_iff_not] at hg14
   refine .q (op_move rfl) ⟨_, rfl, rfl⟩ rfl ?_
   refine .q (op_move rfl) ⟨_, rfl, rfl⟩ rfl ?_
   refine .q (op_index_str Tryd.underlying9 rfl rfl rfl (by omega)) ⟨_, rfl, rfl⟩ rfl ?_
   refine .q (op_bin8 rfl rfl rfl) ⟨_, rfl, rfl⟩ rfl ?_
   refine .q (op_pick_false rfl rfl rfl) trivial rfl ?_
   refine .q (op_move rfl) trivial rfl ?_
   refine .split (fun hg20 => ?_) (fun hg20 => ?_)
   ·simp only [decide_eq_true_eq] at hg20
    refine .no ⟨_, rfl, rfl⟩ rfl ?_
    refine .no ⟨_, rfl, rfl⟩ rfl ?_
    refine .no ⟨_, rfl, rfl⟩ rfl ?_
    refine .no ⟨_, rfl, rfl⟩ rfl ?_
    refine .q (op_pick_true rfl rfl rfl) trivial rfl ?_
    refine .nil ?_
    show Ev _ _ _ _ _
    refine .cond_true rfl rfl ?_
    refine .seq ?_
    refine .region ?_
    refine .q (op_assign rfl) trivial rfl ?_
    refine .nil ?_
    show Ev _ _ _ _ _
    refine .ret ?_
    show RetOk _ _ _ _ _ _ _
    exact ret1v rfl (.inl rfl) rfl (congrArg AV.bool (by first | exact (name_bad (j := j) (by omega) (by first | exact ch_a (lt33.1 hg14) | exact ch_b hg20 | exact ch_c hc25)).symm | exact (by first | exact name_ref1 (by omega) (name_all (j := j) (by omega) hq) | exact name_ref0 (by omega)) | exact rfl)) trivial
   ·simp only [decide_eq_false_iff_not] at hg20
    refine .q (op_move rfl) ⟨_, rfl, rfl⟩ rfl ?_
    refine .q (op_move rfl) ⟨_, rfl, rfl⟩ rfl ?_
    refine .q (op_index_str Tryd.underlying9 rfl rfl rfl (by omega)) ⟨_, rfl, rfl⟩ rfl ?_
    refine .q (op_bin8 rfl rfl rfl) ⟨_, rfl, rfl⟩ rfl ?_
    refine .q (op_pick_false rfl rfl rfl) trivial rfl ?_
    refine .nil ?_
    show Ev _ _ _ _ _
    refine .cond rfl (fun hc25 => ?_) (fun hc25 => ?_)
    ·simp only [beq_iff_eq] at hc25
     refine .seq ?_
     refine .region ?_
     refine .q (op_assign rfl) trivial rfl ?_
     refine .nil ?_
     show Ev _ _ _ _ _
     refine .ret ?_
     show RetOk _ _ _ _ _ _ _
     exact ret1v rfl (.inl rfl) rfl (congrArg AV.bool (by first | exact (name_bad (j := j) (by omega) (by first | exact ch_a (lt33.1 hg14) | exact ch_b hg20 | exact ch_c hc25)).symm | exact (by first | exact name_ref1 (by omega) (name_all (j := j) (by omega) hq) | exact name_ref0 (by omega)) | exact rfl)) trivial
    ·simp only [ne_eq, beq_eq_false_iff_ne] at hc25
     refine .skip ?_
     show Ev _ _ _ _ _
     refine .region ?_
     refine .q (op_move rfl) trivial rfl ?_
     refine .q (op_addI rfl rfl ⟨by omega, by omega⟩) trivial rfl ?_
     refine .q (op_assign rfl) trivial rfl ?_
     refine .nil ?_
     exact ⟨⟨j + 1, by omega, name_step (by omega) hq (ch_ok (fun h => hg14 (lt33.2 h)) hg20 hc25)⟩, by (try dsimp only); omega, StLe.mk [] rfl rfl ⟨⟨_, rfl, by first | rfl | (simp only [AV.ren]; congr 1; omega), rfl⟩, ⟨_, rfl, by first | rfl | (simp only [AV.ren]; congr 1; omega), rfl⟩, trivial⟩ trivial⟩
 ·simp only [decide_eq_false_iff_not] at hc7
  refine .exit ?_
  show Ev _ _ _ _ _
  refine .seq ?_
  refine .region ?_
  refine .q (op_move rfl) trivial rfl ?_
  refine .q (op_len_str Tryd.underlying9 rfl) trivial rfl ?_
  refine .q (op_cmpI rfl rfl rfl) trivial rfl ?_
  refine .q (op_move rfl) trivial rfl ?_
  refine .split (fun hg29 => ?_) (fun hg29 => ?_)
  ·simp only [decide_eq_true_eq] at hg29
   refine .q (op_move rfl) ⟨_, rfl, rfl⟩ rfl ?_
   refine .q (op_len_str Tryd.underlying9 rfl) ⟨_, rfl, rfl⟩ rfl ?_
   refine .q (op_cmpI rfl rfl rfl) ⟨_, rfl, rfl⟩ rfl ?_
   refine .q (op_pick_true rfl rfl rfl) trivial rfl ?_
   refine .q (op_assign rfl) trivial rfl ?_
   refine .nil ?_
   show Ev _ _ _ _ _
   refine .ret ?_
   show RetOk _ _ _ _ _ _ _
   exact ret1v rfl (.inl rfl) rfl (congrArg AV.bool (by first | exact (name_bad (j := j) (by omega) (by first | exact ch_a (lt33.1 hg14) | exact ch_b hg20 | exact ch_c hc25)).symm | exact (by first | exact name_ref1 (by omega) (name_all (j := j) (by omega) hq) | exact name_ref0 (by omega)) | exact rfl)) trivial
  ·simp only [decide_eq_false_iff_not] at hg29
   refine .no ⟨_, rfl, rfl⟩ rfl ?_
   refine .no ⟨_, rfl, rfl⟩ rfl ?_
   refine .no ⟨_, rfl, rfl⟩ rfl ?_
   refine .q (op_pick_false rfl rfl rfl) trivial rfl ?_
   refine .q (op_assign rfl) trivial rfl ?_
   refine .nil ?_
   show Ev _ _ _ _ _
   refine .ret ?_
   show RetOk _ _ _ _ _ _ _
   exact ret1v rfl (.inl rfl) rfl (congrArg AV.bool (by first | exact (name_bad (j := j) (by omega) (by first | exact ch_a (lt33.1 hg14) | exact ch_b hg20 | exact ch_c hc25)).symm | exact (by first | exact name_ref1 (by omega) (name_all (j := j) (by omega) hq) | exact name_ref0 (by omega)) | exact rfl)) trivial
set_option maxRecDepth 100000 in
theorem cut_ev (s : List UInt8) (n : Nat) (_hs : s.length ≤ 9223372036854775807) : Meets Tryd.prog 41 [.str s, .i64 (n : Int)] [] (.str (s.take n)) [] := by
 refine meets_of_ev (nt := 13) Tryd.func41 rfl rfl (Nat.le_of_ble_eq_true rfl) ?_
 refine .seq ?_
 refine .region ?_
 refine .q (op_assign rfl) trivial rfl ?_
 refine .nil ?_
 show Ev _ _ _ _ _
 refine .seq ?_
 refine .seq ?_
 refine .region ?_
 refine .q (op_move rfl) trivial rfl ?_
 refine .q (op_len_str Tryd.underlying9 rfl) trivial rfl ?_
 refine .q (op_move rfl) trivial rfl ?_
 refine .q (op_cmpI rfl rfl rfl) trivial rfl ?_
 refine .nil ?_
 show Ev _ _ _ _ _
 refine .cond rfl (fun hc8 => ?_) (fun hc8 => ?_)
 ·simp only [decide_eq_true_eq] at hc8
  refine .seq ?_
  refine .region ?_
  refine .q (op_move rfl) trivial rfl ?_
  refine .q (op_move rfl) trivial rfl ?_
  refine .q (ap_slice_str_hi Tryd.underlying9 rfl (bnd_some rfl rfl) (by omega)) trivial rfl ?_
  refine .q (op_assign rfl) trivial rfl ?_
  refine .nil ?_
  show Ev _ _ _ _ _
  refine .ret ?_
  show RetOk _ _ _ _ _ _ _
  exact ret1v rfl (.inl rfl) rfl (congrArg AV.str (by first | rfl | exact (List.take_of_length_le (by omega)).symm)) trivial
 ·simp only [decide_eq_false_iff_not] at hc8
  refine .skip ?_
  show Ev _ _ _ _ _
  refine .seq ?_
  refine .region ?_
  refine .q (op_move rfl) trivial rfl ?_
  refine .q (op_assign rfl) trivial rfl ?_
  refine .nil ?_
  show Ev _ _ _ _ _
  refine .ret ?_
  show RetOk _ _ _ _ _ _ _
  exact ret1v rfl (.inl rfl) rfl (congrArg AV.str (by first | rfl | exact (List.take_of_length_le (by omega)).symm)) trivial
end Go.Proofs.YtoigppbkfhfllaaDoor
namespace Go.Proofs.YtoigppbkfhfllaaDoor
open Go.RowKit
theorem rawD_err {i : DI} (h : i.ok) (he : i.e ≠ 0) (n : Nat) : rawD i n = (i, []) := by
  obtain ⟨r, e⟩ := i
  have hr : r = [] := h he
  subst hr
  unfold rawD
  cases e with
  | zero => exact absurd rfl he
  | succ e => split <;> simp [failD, orE]
theorem rawD_end {i : DI} (he : i.e = 0) {n : Nat} (h : ¬ n ≤ i.r.length) : rawD i n = (⟨[], 2⟩, []) := by
  obtain ⟨r, e⟩ := i
  simp only at he; subst he
  exact if_neg h
theorem rawD_yes {i : DI} (he : i.e = 0) {n : Nat} (h : n ≤ i.r.length) : rawD i n = (⟨i.r.drop n, 0⟩, i.r.take n) := by
  obtain ⟨r, e⟩ := i
  simp only at he; subst he
  exact if_pos h
theorem shl_add (n : UInt64) (b : UInt8) : n * 256 + b.toUInt64 = n <<< UInt64.ofNat 8 ||| b.toUInt64 := by
  apply UInt64.toNat_inj.1
  have hb : b.toNat < 2 ^ 8 := b.toNat_lt
  have hn := n.toNat_lt
  rw [UInt64.toNat_add, UInt64.toNat_mul, UInt64.toNat_or, UInt64.toNat_shiftLeft, UInt8.toNat_toUInt64]
  have e : (UInt64.ofNat 8).toNat % 64 = 8 := rfl
  have e2 : (256 : UInt64).toNat = 256 := rfl
  rw [e, e2, Nat.shiftLeft_eq]
  have hq : n.toNat * 2 ^ 8 % 2 ^ 64 = 2 ^ 8 * (n.toNat % 2 ^ 56) := by omega
  rw [hq, ← Nat.two_pow_add_eq_or_of_lt hb]
  omega
set_option maxRecDepth 100000 in
theorem rraw_err (i : DI) (j : Int) (he : i.e ≠ 0) : Meets Tryd.prog 69 [.agg [.str (i).r, .i64 (((i).e : Nat) : Int)], .i64 j] [] (.tup [.agg [.str (i).r, .i64 (((i).e : Nat) : Int)], .str []]) [] := by
 refine meets_of_ev (nt := 27) Tryd.func69 rfl rfl (Nat.le_of_ble_eq_true rfl) ?_
 refine .seq ?_
 refine .region ?_
 refine .a (op_boxRow rfl rfl) trivial rfl ?_
 refine .a (op_allocRow zero96 rel_zero96 rfl) trivial rfl ?_
 refine .q (op_assign rfl) trivial rfl ?_
 refine .nil ?_
 show Ev _ _ _ _ _
 refine .seq ?_
 refine .seq ?_
 refine .region ?_
 refine .q (op_fieldAddr (m := 0) Tryd.underlying96 rfl (by kernel_rfl) rfl) trivial rfl ?_
 refine .as (.ptr 1000 1) rfl ?_
 refine .q (op_load Tryd.underlying3 rfl rfl rfl rfl (by first | omega | (simp only [AV.len]; omega) | (simp only [AV.len]; omega) | assumption | (simp [AV.len]; done))) trivial rfl ?_
 refine .q (op_cmpI rfl rfl rfl) trivial rfl ?_
 refine .nil ?_
 show Ev _ _ _ _ _
 refine .cond_true rfl (bne_iff_ne.2 (by omega)) ?_
 refine .seq ?_
 refine .region ?_
 refine .q (op_loadRow Tryd.underlying96 rfl (by kernel_rfl) rfl rfl rfl (rfl)) trivial rfl ?_
 refine .w (op_storeRow (by kernel_rfl) rfl rfl rfl rfl rfl (rfl) (rfl)) trivial rfl ?_
 refine .q (op_assign rfl) trivial rfl ?_
 refine .nil ?_
 show Ev _ _ _ _ _
 refine .ret ?_
 show RetOk _ _ _ _ _ _ _
 exact retc2 rfl (.inl rfl) ⟨_, _, _, _, rfl, rfl, rfl, rfl, rfl, Tryd.underlying96, rfl, (by kernel_rfl)⟩ rfl trivial
set_option maxRecDepth 100000 in
theorem rraw_end (i : DI) (j : Int) (he : i.e = 0) (h : ¬ j.toNat ≤ i.r.length) : Meets Tryd.prog 69 [.agg [.str (i).r, .i64 (((i).e : Nat) : Int)], .i64 j] [] (.tup [.agg [.str [], .i64 2], .str []]) [] := by
 refine meets_of_ev (nt := 27) Tryd.func69 rfl rfl (Nat.le_of_ble_eq_true rfl) ?_
 refine .seq ?_
 refine .region ?_
 refine .a (op_boxRow rfl rfl) trivial rfl ?_
 refine .a (op_allocRow zero96 rel_zero96 rfl) trivial rfl ?_
 refine .q (op_assign rfl) trivial rfl ?_
 refine .nil ?_
 show Ev _ _ _ _ _
 refine .seq ?_
 refine .seq ?_
 refine .region ?_
 refine .q (op_fieldAddr (m := 0) Tryd.underlying96 rfl (by kernel_rfl) rfl) trivial rfl ?_
 refine .as (.ptr 1000 1) rfl ?_
 refine .q (op_load Tryd.underlying3 rfl rfl rfl rfl (by first | omega | (simp only [AV.len]; omega) | (simp only [AV.len]; omega) | assumption | (simp [AV.len]; done))) trivial rfl ?_
 refine .q (op_cmpI rfl rfl rfl) trivial rfl ?_
 refine .nil ?_
 show Ev _ _ _ _ _
 refine .cond_false rfl (bne_eq_false_iff_eq.2 (by omega)) ?_
 refine .skip ?_
 show Ev _ _ _ _ _
 refine .seq ?_
 refine .seq ?_
 refine .region ?_
 refine .q (op_move rfl) trivial rfl ?_
 refine .q (op_cmpI rfl rfl rfl) trivial rfl ?_
 refine .nil ?_
 show Ev _ _ _ _ _
 refine .cond rfl (fun hc11 => ?_) (fun hc11 => ?_)
 ·simp only [decide_eq_true_eq] at hc11
  refine .region ?_
  refine .q (op_assign rfl) trivial rfl ?_
  refine .nil ?_
  show Ev _ _ _ _ _
  refine .seq ?_
  refine .seq ?_
  refine .region ?_
  refine .q (op_move rfl) trivial rfl ?_
  refine .as (.i64 ((j.toNat : Nat) : Int)) (congrArg AV.i64 (by omega)) ?_
  refine .q (op_fieldAddr (m := 0) Tryd.underlying96 rfl (by kernel_rfl) rfl) trivial rfl ?_
  refine .as (.ptr 1000 0) rfl ?_
  refine .q (op_load Tryd.underlying9 rfl rfl rfl rfl (by first | omega | (simp only [AV.len]; omega) | (simp only [AV.len, List.length_set]; omega) | assumption | (simp [AV.len]; done))) trivial rfl ?_
  refine .q (op_len_str Tryd.underlying9 rfl) trivial rfl ?_
  refine .q (op_cmpI rfl rfl rfl) trivial rfl ?_
  refine .nil ?_
  show Ev _ _ _ _ _
  refine .cond_true rfl (decide_eq_true (by omega)) ?_
  refine .seq ?_
  refine .region ?_
  refine .q (op_buildS (r := .agg [.str [], .i64 2]) Tryd.underlying96 rfl zero96 rel_zero96 rfl rfl rfl rfl) trivial rfl ?_
  refine .w (op_storeRow (by kernel_rfl) rfl rfl rfl rfl rfl (rfl) (rfl)) trivial rfl ?_
  refine .q (op_assign rfl) trivial rfl ?_
  refine .nil ?_
  show Ev _ _ _ _ _
  refine .ret ?_
  show RetOk _ _ _ _ _ _ _
  exact retc2 rfl (.inl rfl) ⟨_, _, _, _, rfl, rfl, rfl, rfl, rfl, Tryd.underlying96, rfl, (by kernel_rfl)⟩ rfl trivial
 ·simp only [decide_eq_false_iff_not] at hc11
  refine .skip ?_
  show Ev _ _ _ _ _
  refine .seq ?_
  refine .seq ?_
  refine .region ?_
  refine .q (op_move rfl) trivial rfl ?_
  refine .as (.i64 ((j.toNat : Nat) : Int)) (congrArg AV.i64 (by omega)) ?_
  refine .q (op_fieldAddr (m := 0) Tryd.underlying96 rfl (by kernel_rfl) rfl) trivial rfl ?_
  refine .as (.ptr 1000 0) rfl ?_
  refine .q (op_load Tryd.underlying9 rfl rfl rfl rfl (by first | omega | (simp only [AV.len]; omega) | (simp only [AV.len]; omega) | assumption | (simp [AV.len]; done))) trivial rfl ?_
  refine .q (op_len_str Tryd.underlying9 rfl) trivial rfl ?_
  refine .q (op_cmpI rfl rfl rfl) trivial rfl ?_
  refine .nil ?_
  show Ev _ _ _ _ _
  refine .cond_true rfl (decide_eq_true (by omega)) ?_
  refine .seq ?_
  refine .region ?_
  refine .q (op_buildS (r := .agg [.str [], .i64 2]) Tryd.underlying96 rfl zero96 rel_zero96 rfl rfl rfl rfl) trivial rfl ?_
  refine .w (op_storeRow (by kernel_rfl) rfl rfl rfl rfl rfl (rfl) (rfl)) trivial rfl ?_
  refine .q (op_assign rfl) trivial rfl ?_
  refine .nil ?_
  show Ev _ _ _ _ _
  refine .ret ?_
  show RetOk _ _ _ _ _ _ _
  exact retc2 rfl (.inl rfl) ⟨_, _, _, _, rfl, rfl, rfl, rfl, rfl, Tryd.underlying96, rfl, (by kernel_rfl)⟩ rfl trivial
set_option maxRecDepth 100000 in
theorem rraw_yes (i : DI) (j : Int) (he : i.e = 0) (h : j.toNat ≤ i.r.length) : Meets Tryd.prog 69 [.agg [.str (i).r, .i64 (((i).e : Nat) : Int)], .i64 j] [] (.tup [.agg [.str (i.r.drop j.toNat), .i64 0], .str (i.r.take j.toNat)]) [] := by
 refine meets_of_ev (nt := 27) Tryd.func69 rfl rfl (Nat.le_of_ble_eq_true rfl) ?_
 refine .seq ?_
 refine .region ?_
 refine .a (op_boxRow rfl rfl) trivial rfl ?_
 refine .a (op_allocRow zero96 rel_zero96 rfl) trivial rfl ?_
 refine .q (op_assign rfl) trivial rfl ?_
 refine .nil ?_
 show Ev _ _ _ _ _
 refine .seq ?_
 refine .seq ?_
 refine .region ?_
 refine .q (op_fieldAddr (m := 0) Tryd.underlying96 rfl (by kernel_rfl) rfl) trivial rfl ?_
 refine .as (.ptr 1000 1) rfl ?_
 refine .q (op_load Tryd.underlying3 rfl rfl rfl rfl (by first | omega | (simp only [AV.len]; omega) | (simp only [AV.len]; omega) | assumption | (simp [AV.len]; done))) trivial rfl ?_
 refine .q (op_cmpI rfl rfl rfl) trivial rfl ?_
 refine .nil ?_
 show Ev _ _ _ _ _
 refine .cond_false rfl (bne_eq_false_iff_eq.2 (by omega)) ?_
 refine .skip ?_
 show Ev _ _ _ _ _
 refine .seq ?_
 refine .seq ?_
 refine .region ?_
 refine .q (op_move rfl) trivial rfl ?_
 refine .q (op_cmpI rfl rfl rfl) trivial rfl ?_
 refine .nil ?_
 show Ev _ _ _ _ _
 refine .cond rfl (fun hc11 => ?_) (fun hc11 => ?_)
 ·simp only [decide_eq_true_eq] at hc11
  refine .region ?_
  refine .q (op_assign rfl) trivial rfl ?_
  refine .nil ?_
  show Ev _ _ _ _ _
  refine .seq ?_
  refine .seq ?_
  refine .region ?_
  refine .q (op_move rfl) trivial rfl ?_
  refine .as (.i64 ((j.toNat : Nat) : Int)) (congrArg AV.i64 (by omega)) ?_
  refine .q (op_fieldAddr (m := 0) Tryd.underlying96 rfl (by kernel_rfl) rfl) trivial rfl ?_
  refine .as (.ptr 1000 0) rfl ?_
  refine .q (op_load Tryd.underlying9 rfl rfl rfl rfl (by first | omega | (simp only [AV.len]; omega) | (simp only [AV.len]; omega) | assumption | (simp [AV.len]; done))) trivial rfl ?_
  refine .q (op_len_str Tryd.underlying9 rfl) trivial rfl ?_
  refine .q (op_cmpI rfl rfl rfl) trivial rfl ?_
  refine .nil ?_
  show Ev _ _ _ _ _
  refine .cond_false rfl (decide_eq_false (by omega)) ?_
  refine .skip ?_
  show Ev _ _ _ _ _
  refine .seq ?_
  refine .drawnF [[], [0], [], [0, 1, 2], [0, 1, 2, 3], [], [5], [], [5, 6, 7], [0, 1, 2, 3, 4], [0, 1, 2, 3, 4, 5, 6, 7, 8, 9]] [1, 6, 9] [] [(1, ([1000], [])), (6, ([1000], [])), (9, ([], [1008]))] (by kernel_rfl) (by kernel_rfl) rfl ?_
  show DK _ [0, 1, 2, 3, 4, 5, 6, 7, 8, 9, 10] _ _ _
  refine .q rfl (op_fieldAddr (m := 0) Tryd.underlying96 rfl (by kernel_rfl) rfl) trivial ?_
  refine .as (.ptr 1000 0) rfl ?_
  refine .q rfl (op_load Tryd.underlying9 rfl rfl rfl rfl (by first | omega | (simp only [AV.len]; omega) | (simp only [AV.len]; omega) | assumption | (simp [AV.len]; done))) trivial ?_
  refine .q rfl (op_move rfl) trivial ?_
  refine .as (.i64 ((j.toNat : Nat) : Int)) (congrArg AV.i64 (by omega)) ?_
  refine .q rfl (ap_slice_str_lo Tryd.underlying9 rfl (bnd_some rfl rfl) (h)) trivial ?_
  refine .q rfl (op_buildS (r := .agg [.str (i.r.drop j.toNat), .i64 0]) Tryd.underlying96 rfl zero96 rel_zero96 rfl rfl rfl rfl) trivial ?_
  refine .q rfl (op_fieldAddr (m := 0) Tryd.underlying96 rfl (by kernel_rfl) rfl) trivial ?_
  refine .as (.ptr 1000 0) rfl ?_
  refine .q rfl (op_load Tryd.underlying9 rfl rfl rfl rfl (by first | omega | (simp only [AV.len]; omega) | (simp only [AV.len]; omega) | assumption | (simp [AV.len]; done))) trivial ?_
  refine .q rfl (op_move rfl) trivial ?_
  refine .as (.i64 ((j.toNat : Nat) : Int)) (congrArg AV.i64 (by omega)) ?_
  refine .q rfl (ap_slice_str_hi Tryd.underlying9 rfl (bnd_some rfl rfl) (h)) trivial ?_
  refine .w rfl (op_storeRow (by kernel_rfl) rfl rfl rfl rfl rfl (rfl) (rfl)) trivial rfl rfl ?_
  refine .q rfl (op_assign rfl) trivial ?_
  refine .nil ?_
  show Ev _ _ _ _ _
  refine .ret ?_
  show RetOk _ _ _ _ _ _ _
  exact retc2 rfl (.inl rfl) ⟨_, _, _, _, rfl, rfl, rfl, rfl, rfl, Tryd.underlying96, rfl, (by kernel_rfl)⟩ rfl trivial
 ·simp only [decide_eq_false_iff_not] at hc11
  refine .skip ?_
  show Ev _ _ _ _ _
  refine .seq ?_
  refine .seq ?_
  refine .region ?_
  refine .q (op_move rfl) trivial rfl ?_
  refine .as (.i64 ((j.toNat : Nat) : Int)) (congrArg AV.i64 (by omega)) ?_
  refine .q (op_fieldAddr (m := 0) Tryd.underlying96 rfl (by kernel_rfl) rfl) trivial rfl ?_
  refine .as (.ptr 1000 0) rfl ?_
  refine .q (op_load Tryd.underlying9 rfl rfl rfl rfl (by first | omega | (simp only [AV.len]; omega) | (simp only [AV.len]; omega) | assumption | (simp [AV.len]; done))) trivial rfl ?_
  refine .q (op_len_str Tryd.underlying9 rfl) trivial rfl ?_
  refine .q (op_cmpI rfl rfl rfl) trivial rfl ?_
  refine .nil ?_
  show Ev _ _ _ _ _
  refine .cond_false rfl (decide_eq_false (by omega)) ?_
  refine .skip ?_
  show Ev _ _ _ _ _
  refine .seq ?_
  refine .drawnF [[], [0], [], [0, 1, 2], [0, 1, 2, 3], [], [5], [], [5, 6, 7], [0, 1, 2, 3, 4], [0, 1, 2, 3, 4, 5, 6, 7, 8, 9]] [1, 6, 9] [] [(1, ([1000], [])), (6, ([1000], [])), (9, ([], [1008]))] (by kernel_rfl) (by kernel_rfl) rfl ?_
  show DK _ [0, 1, 2, 3, 4, 5, 6, 7, 8, 9, 10] _ _ _
  refine .q rfl (op_fieldAddr (m := 0) Tryd.underlying96 rfl (by kernel_rfl) rfl) trivial ?_
  refine .as (.ptr 1000 0) rfl ?_
  refine .q rfl (op_load Tryd.underlying9 rfl rfl rfl rfl (by first | omega | (simp only [AV.len]; omega) | (simp only [AV.len]; omega) | assumption | (simp [AV.len]; done))) trivial ?_
  refine .q rfl (op_move rfl) trivial ?_
  refine .as (.i64 ((j.toNat : Nat) : Int)) (congrArg AV.i64 (by omega)) ?_
  refine .q rfl (ap_slice_str_lo Tryd.underlying9 rfl (bnd_some rfl rfl) (h)) trivial ?_
  refine .q rfl (op_buildS (r := .agg [.str (i.r.drop j.toNat), .i64 0]) Tryd.underlying96 rfl zero96 rel_zero96 rfl rfl rfl rfl) trivial ?_
  refine .q rfl (op_fieldAddr (m := 0) Tryd.underlying96 rfl (by kernel_rfl) rfl) trivial ?_
  refine .as (.ptr 1000 0) rfl ?_
  refine .q rfl (op_load Tryd.underlying9 rfl rfl rfl rfl (by first | omega | (simp only [AV.len]; omega) | (simp only [AV.len]; omega) | assumption | (simp [AV.len]; done))) trivial ?_
  refine .q rfl (op_move rfl) trivial ?_
  refine .as (.i64 ((j.toNat : Nat) : Int)) (congrArg AV.i64 (by omega)) ?_
  refine .q rfl (ap_slice_str_hi Tryd.underlying9 rfl (bnd_some rfl rfl) (h)) trivial ?_
  refine .w rfl (op_storeRow (by kernel_rfl) rfl rfl rfl rfl rfl (rfl) (rfl)) trivial rfl rfl ?_
  refine .q rfl (op_assign rfl) trivial ?_
  refine .nil ?_
  show Ev _ _ _ _ _
  refine .ret ?_
  show RetOk _ _ _ _ _ _ _
  exact retc2 rfl (.inl rfl) ⟨_, _, _, _, rfl, rfl, rfl, rfl, rfl, Tryd.underlying96, rfl, (by kernel_rfl)⟩ rfl trivial
theorem rraw_ev (i : DI) (hi : i.ok) (j : Int) : Meets Tryd.prog 69 [.agg [.str (i).r, .i64 (((i).e : Nat) : Int)], .i64 j] [] (.tup [.agg [.str ((rawD i j.toNat).1).r, .i64 ((((rawD i j.toNat).1).e : Nat) : Int)], .str (rawD i j.toNat).2]) [] := by
 by_cases he : i.e = 0
 ·by_cases h : j.toNat ≤ i.r.length
  ·rw [rawD_yes he h]; exact rraw_yes i j he h
  ·rw [rawD_end he h]; exact rraw_end i j he h
 ·rw [rawD_err hi he]; exact rraw_err i j he
set_option maxRecDepth 100000 in
theorem rnum_ev (i : DI) (hi : i.ok) (k : Nat) (hk : k ≤ 8) : Meets Tryd.prog 66 [.agg [.str (i).r, .i64 (((i).e : Nat) : Int)], .i64 (k : Int)] [] (.tup [.agg [.str ((numD i k).1).r, .i64 ((((numD i k).1).e : Nat) : Int)], .u64 (numD i k).2]) [] := by
 have hS : (rawD i k).2.length ≤ 8 := by rcases rawD_length i k with h | h <;> simp [h] <;> omega
 refine meets_of_ev (nt := 31) Tryd.func66 rfl rfl (Nat.le_of_ble_eq_true rfl) ?_
 refine .seq ?_
 refine .region ?_
 refine .a (op_boxRow rfl rfl) trivial rfl ?_
 refine .a (op_allocRow zero96 rel_zero96 rfl) trivial rfl ?_
 refine .q (op_assign rfl) trivial rfl ?_
 refine .nil ?_
 show Ev _ _ _ _ _
 refine .seq ?_
 refine .region ?_
 refine .q (op_loadRow Tryd.underlying96 rfl (by kernel_rfl) rfl rfl rfl (rfl)) trivial rfl ?_
 refine .q (op_move rfl) trivial rfl ?_
 refine .q (op_call (U := []) [] [] (rraw_ev i hi (k : Int)) Tryd.func69 (by kernel_rfl) rfl rfl rfl (⟨⟨_, rfl, rfl, rfl⟩, ⟨_, rfl, rfl, rfl⟩, trivial⟩) (trivial) (trivial) (trivial) rfl) trivial rfl ?_
 refine .q (op_move rfl) trivial rfl ?_
 refine .q (op_extract rfl rfl) trivial rfl ?_
 refine .q (op_extract rfl rfl) trivial rfl ?_
 refine .a (op_allocRow zero96 rel_zero96 rfl) trivial rfl ?_
 refine .w (op_storeRow (by kernel_rfl) rfl rfl rfl rfl rfl (rfl) (rfl)) trivial rfl ?_
 refine .q (op_assign rfl) trivial rfl ?_
 refine .nil ?_
 show Ev _ _ _ _ _
 refine .seq ?_
 refine .region ?_
 refine .q (op_assign rfl) trivial rfl ?_
 refine .nil ?_
 show Ev _ _ _ _ _
 refine .seq ?_
 refine .seq ?_
 refine .region ?_
 refine .q (op_assign rfl) trivial rfl ?_
 refine .nil ?_
 show Ev _ _ _ _ _
 refine .block ?_
 refine Ev.loop (ι := { j : Nat // j ≤ (rawD i k).2.length }) (fun j => ⟨[(4, .ptr 1008 0), (6, .ptr 1016 0), (7, .str (rawD i k).2), (8, .u64 (numL (rawD i k).2 j.1)), (9, .i64 ((j.1 : Nat) : Int))], [(1008, some ⟨.agg [.str [], .i64 0], 96, true⟩), (1016, some ⟨.agg [.str ((rawD i k).1).r, .i64 ((((rawD i k).1).e : Nat) : Int)], 96, true⟩)], 1024⟩) (fun j => (rawD i k).2.length - j.1) ⟨0, Nat.zero_le _⟩ (StLe.mk [(1008, 1008), (1016, 1016)] rfl rfl ⟨⟨_, rfl, by first | rfl | (simp only [AV.ren]; congr 1; omega), rfl⟩, ⟨_, rfl, by first | rfl | (simp only [AV.ren]; congr 1; omega), rfl⟩, ⟨_, rfl, by first | rfl | (simp only [AV.ren]; congr 1; omega), rfl⟩, ⟨_, rfl, by first | rfl | (simp only [AV.ren]; congr 1; omega), rfl⟩, ⟨_, rfl, by first | rfl | (simp only [AV.ren]; congr 1; omega), rfl⟩, trivial⟩ ⟨⟨_, _, rfl, rfl, by first | rfl | (simp only [AV.ren]; congr 1; omega), rfl, id, rfl⟩, ⟨_, _, rfl, rfl, by first | rfl | (simp only [AV.ren]; congr 1; omega), rfl, id, rfl⟩, trivial⟩) ?_
 rintro ⟨j, hj⟩
 dsimp only
 refine .seq ?_
 refine .seq ?_
 refine .region ?_
 refine .q (op_move rfl) trivial rfl ?_
 refine .q (op_move rfl) trivial rfl ?_
 refine .q (op_len_str Tryd.underlying9 rfl) trivial rfl ?_
 refine .q (op_cmpI rfl rfl rfl) trivial rfl ?_
 refine .nil ?_
 show Ev _ _ _ _ _
 refine .cond rfl (fun hc19 => ?_) (fun hc19 => ?_)
 ·simp only [decide_eq_true_eq] at hc19
  refine .skip ?_
  show Ev _ _ _ _ _
  refine .seq ?_
  refine .block ?_
  refine .region ?_
  refine .q (op_move rfl) trivial rfl ?_
  refine .q (op_bin64 rfl rfl rfl) trivial rfl ?_
  refine .q (op_move rfl) trivial rfl ?_
  refine .q (op_move rfl) trivial rfl ?_
  refine .q (op_index_str Tryd.underlying9 rfl rfl rfl (by omega)) trivial rfl ?_
  refine .q (op_conv Tryd.underlying5 Tryd.underlying30 rfl rfl) trivial rfl ?_
  refine .q (op_bin64 rfl rfl rfl) trivial rfl ?_
  refine .q (op_assign rfl) trivial rfl ?_
  refine .nil ?_
  show Ev _ _ _ _ _
  refine .region ?_
  refine .q (op_move rfl) trivial rfl ?_
  refine .q (op_addI rfl rfl ⟨by omega, by omega⟩) trivial rfl ?_
  refine .q (op_assign rfl) trivial rfl ?_
  refine .nil ?_
  exact ⟨⟨j + 1, by omega⟩, by show (rawD i k).2.length - (j + 1) < (rawD i k).2.length - j; omega, StLe.mk [(1008, 1008), (1016, 1016)] rfl rfl ⟨⟨_, rfl, by first | rfl | (simp only [AV.ren]; congr 1; omega), rfl⟩, ⟨_, rfl, by first | rfl | (simp only [AV.ren]; congr 1; omega), rfl⟩, ⟨_, rfl, by first | rfl | (simp only [AV.ren]; congr 1; omega), rfl⟩, ⟨_, rfl, by exact congrArg AV.u64 (shl_add _ _), rfl⟩, ⟨_, rfl, by first | rfl | (simp only [AV.ren]; congr 1; omega), rfl⟩, trivial⟩ ⟨⟨_, _, rfl, rfl, by first | rfl | (simp only [AV.ren]; congr 1; omega), rfl, id, rfl⟩, ⟨_, _, rfl, rfl, by first | rfl | (simp only [AV.ren]; congr 1; omega), rfl, id, rfl⟩, trivial⟩⟩
 ·simp only [decide_eq_false_iff_not] at hc19
  refine .exit ?_
  show Ev _ _ _ _ _
  have ej : j = (rawD i k).2.length := by omega
  refine Ev.weak (st2 := ⟨[(4, .ptr 1008 0), (6, .ptr 1016 0), (7, .str (rawD i k).2), (8, .u64 (numL (rawD i k).2 ((rawD i k).2.length))), (9, .i64 ((((rawD i k).2.length) : Nat) : Int))], [(1008, some ⟨.agg [.str [], .i64 0], 96, true⟩), (1016, some ⟨.agg [.str ((rawD i k).1).r, .i64 ((((rawD i k).1).e : Nat) : Int)], 96, true⟩)], 1024⟩) (StLe.mk [(1008, 1008), (1016, 1016)] rfl rfl ⟨⟨_, rfl, by first | (simp only [AV.ren]; done) | (simp only [AV.ren]; rw [ej]; done) | rfl, rfl⟩, ⟨_, rfl, by first | (simp only [AV.ren]; done) | (simp only [AV.ren]; rw [ej]; done) | rfl, rfl⟩, ⟨_, rfl, by first | (simp only [AV.ren]; done) | (simp only [AV.ren]; rw [ej]; done) | rfl, rfl⟩, ⟨_, rfl, by first | (simp only [AV.ren]; done) | (simp only [AV.ren]; rw [ej]; done) | rfl, rfl⟩, ⟨_, rfl, by first | (simp only [AV.ren]; done) | (simp only [AV.ren]; rw [ej]; done) | rfl, rfl⟩, trivial⟩ ⟨⟨_, _, rfl, rfl, by first | (simp only [AV.ren]; done) | (simp only [AV.ren]; rw [ej]; done) | rfl, rfl, id, rfl⟩, ⟨_, _, rfl, rfl, by first | (simp only [AV.ren]; done) | (simp only [AV.ren]; rw [ej]; done) | rfl, rfl, id, rfl⟩, trivial⟩) ?_
  refine .seq ?_
  refine .region ?_
  refine .q (op_loadRow Tryd.underlying96 rfl (by kernel_rfl) rfl rfl rfl (rfl)) trivial rfl ?_
  refine .q (op_move rfl) trivial rfl ?_
  refine .w (op_storeRow (by kernel_rfl) rfl rfl rfl rfl rfl (rfl) (rfl)) trivial rfl ?_
  refine .q (op_assign rfl) trivial rfl ?_
  refine .nil ?_
  show Ev _ _ _ _ _
  refine .ret ?_
  show RetOk _ _ _ _ _ _ _
  exact retc2 rfl (.inl rfl) ⟨_, _, _, _, rfl, rfl, rfl, rfl, rfl, Tryd.underlying96, rfl, (by kernel_rfl)⟩ rfl trivial
theorem num4_lt (i : DI) : (numD i 4).2.toNat < 4294967296 := by
 have key : ∀ (s : List UInt8) (j : Nat), j ≤ 4 → (numL s j).toNat < 256 ^ j := fun s j => by
  induction j with
  | zero => intro _; show (0 : UInt64).toNat < 1; decide
  | succ j ih =>
   intro hj
   have h1 := ih (by omega)
   have hb := (s.getD j 0).toNat_lt
   have hp : 256 ^ j ≤ 256 ^ 3 := Nat.pow_le_pow_right (by decide) (by omega)
   show (numL s j <<< UInt64.ofNat 8 ||| (s.getD j 0).toUInt64).toNat < 256 ^ (j + 1)
   rw [← shl_add, UInt64.toNat_add, UInt64.toNat_mul, UInt8.toNat_toUInt64]
   have e2 : (256 : UInt64).toNat = 256 := rfl
   rw [e2, Nat.pow_succ]
   have hp3 : (256 : Nat) ^ 3 = 16777216 := by decide
   omega
 unfold numD numV
 have hl : (rawD i 4).2.length ≤ 4 := by rcases rawD_length i 4 with h | h <;> simp [h]
 have h1 := key (rawD i 4).2 (rawD i 4).2.length hl
 have hp : 256 ^ (rawD i 4).2.length ≤ 256 ^ 4 := Nat.pow_le_pow_right (by decide) hl
 have hp4 : (256 : Nat) ^ 4 = 4294967296 := by decide
 show (numL (rawD i 4).2 (rawD i 4).2.length).toNat < 4294967296
 omega
theorem u32D_num (i : DI) : (u32D i).2.toNat = (numD i 4).2.toNat := by
 have := num4_lt i
 show (numD i 4).2.toUInt32.toNat = _
 rw [UInt64.toNat_toUInt32]; omega
theorem textD_err {i : DI} (h : i.ok) (he : (u32D i).1.e ≠ 0) (m : Int) : textD i m = ((u32D i).1, []) := by
 have hok : (u32D i).1.ok := rawD_ok h 4
 unfold textD
 split
 ·have hr := hok he
  generalize (u32D i).1 = q at hr he
  obtain ⟨r, e⟩ := q
  simp only at hr he
  subst hr
  cases e with
  | zero => exact absurd rfl he
  | succ e => rfl
 ·exact rawD_err hok he _
set_option maxRecDepth 100000 in
theorem rtext_err (i : DI) (hi : i.ok) (most : Int) (he : (u32D i).1.e ≠ 0) : Meets Tryd.prog 68 [.agg [.str (i).r, .i64 (((i).e : Nat) : Int)], .i64 most] [] (.tup [.agg [.str ((rawD (u32D i).1 (numD i 4).2.toNat).1).r, .i64 ((((rawD (u32D i).1 (numD i 4).2.toNat).1).e : Nat) : Int)], .str (rawD (u32D i).1 (numD i 4).2.toNat).2]) [] := by
 refine meets_of_ev (nt := 29) Tryd.func68 rfl rfl (Nat.le_of_ble_eq_true rfl) ?_
 refine .seq ?_
 refine .region ?_
 refine .a (op_boxRow rfl rfl) trivial rfl ?_
 refine .a (op_allocRow zero96 rel_zero96 rfl) trivial rfl ?_
 refine .q (op_assign rfl) trivial rfl ?_
 refine .nil ?_
 show Ev _ _ _ _ _
 refine .seq ?_
 refine .region ?_
 refine .q (op_loadRow Tryd.underlying96 rfl (by kernel_rfl) rfl rfl rfl (rfl)) trivial rfl ?_
 refine .q (op_call (U := []) [] [] (rnum_ev i hi 4 (by decide)) Tryd.func66 (by kernel_rfl) rfl rfl rfl (⟨⟨_, rfl, rfl, rfl⟩, ⟨_, rfl, rfl, rfl⟩, trivial⟩) (trivial) (trivial) (trivial) rfl) trivial rfl ?_
 refine .q (op_move rfl) trivial rfl ?_
 refine .q (op_extract rfl rfl) trivial rfl ?_
 refine .q (op_extract rfl rfl) trivial rfl ?_
 refine .a (op_allocRow zero96 rel_zero96 rfl) trivial rfl ?_
 refine .w (op_storeRow (by kernel_rfl) rfl rfl rfl rfl rfl (rfl) (rfl)) trivial rfl ?_
 refine .q (op_assign rfl) trivial rfl ?_
 refine .nil ?_
 show Ev _ _ _ _ _
 refine .seq ?_
 refine .seq ?_
 refine .region ?_
 refine .q (op_fieldAddr (m := 0) Tryd.underlying96 rfl (by kernel_rfl) rfl) trivial rfl ?_
 refine .as (.ptr 1016 1) rfl ?_
 refine .q (op_load Tryd.underlying3 rfl rfl rfl rfl (show 1 < 2 by decide)) trivial rfl ?_
 refine .q (op_cmpI rfl rfl rfl) trivial rfl ?_
 refine .q (op_move rfl) trivial rfl ?_
 refine .know (b' := false) (beq_eq_false_iff_ne.2 (fun h => he (Int.ofNat.inj h))) ?_
 refine .no ⟨_, rfl, rfl⟩ rfl ?_
 refine .no ⟨_, rfl, rfl⟩ rfl ?_
 refine .no ⟨_, rfl, rfl⟩ rfl ?_
 refine .no ⟨_, rfl, rfl⟩ rfl ?_
 refine .q (op_pick_false rfl rfl rfl) trivial rfl ?_
 refine .nil ?_
 show Ev _ _ _ _ _
 refine .cond_false rfl rfl ?_
 refine .skip ?_
 show Ev _ _ _ _ _
 refine .seq ?_
 refine .region ?_
 refine .q (op_loadRow Tryd.underlying96 rfl (by kernel_rfl) rfl rfl rfl (rfl)) trivial rfl ?_
 refine .q (op_move rfl) trivial rfl ?_
 refine .q (op_conv64I Tryd.underlying30 Tryd.underlying3 rfl (by have := num4_lt i; omega)) trivial rfl ?_
 refine .q (op_call (U := []) [] [] (rraw_ev (u32D i).1 (rawD_ok hi 4) (((numD i 4).2.toNat : Nat) : Int)) Tryd.func69 (by kernel_rfl) rfl rfl rfl (⟨⟨_, rfl, rfl, rfl⟩, ⟨_, rfl, rfl, rfl⟩, trivial⟩) (trivial) (trivial) (trivial) rfl) trivial rfl ?_
 refine .q (op_extract rfl rfl) trivial rfl ?_
 refine .q (op_extract rfl rfl) trivial rfl ?_
 refine .w (op_storeRow (by kernel_rfl) rfl rfl rfl rfl rfl (rfl) (rfl)) trivial rfl ?_
 refine .q (op_assign rfl) trivial rfl ?_
 refine .nil ?_
 show Ev _ _ _ _ _
 refine .ret ?_
 show RetOk _ _ _ _ _ _ _
 exact retc2 rfl (.inl rfl) ⟨_, _, _, _, rfl, rfl, rfl, rfl, rfl, Tryd.underlying96, rfl, (by kernel_rfl)⟩ rfl trivial
set_option maxRecDepth 100000 in
theorem rtext_big (i : DI) (hi : i.ok) (most : Int) (he : (u32D i).1.e = 0) (h : most < (((numD i 4).2.toNat : Nat) : Int)) : Meets Tryd.prog 68 [.agg [.str (i).r, .i64 (((i).e : Nat) : Int)], .i64 most] [] (.tup [.agg [.str [], .i64 4], .str []]) [] := by
 refine meets_of_ev (nt := 29) Tryd.func68 rfl rfl (Nat.le_of_ble_eq_true rfl) ?_
 refine .seq ?_
 refine .region ?_
 refine .a (op_boxRow rfl rfl) trivial rfl ?_
 refine .a (op_allocRow zero96 rel_zero96 rfl) trivial rfl ?_
 refine .q (op_assign rfl) trivial rfl ?_
 refine .nil ?_
 show Ev _ _ _ _ _
 refine .seq ?_
 refine .region ?_
 refine .q (op_loadRow Tryd.underlying96 rfl (by kernel_rfl) rfl rfl rfl (rfl)) trivial rfl ?_
 refine .q (op_call (U := []) [] [] (rnum_ev i hi 4 (by decide)) Tryd.func66 (by kernel_rfl) rfl rfl rfl (⟨⟨_, rfl, rfl, rfl⟩, ⟨_, rfl, rfl, rfl⟩, trivial⟩) (trivial) (trivial) (trivial) rfl) trivial rfl ?_
 refine .q (op_move rfl) trivial rfl ?_
 refine .q (op_extract rfl rfl) trivial rfl ?_
 refine .q (op_extract rfl rfl) trivial rfl ?_
 refine .a (op_allocRow zero96 rel_zero96 rfl) trivial rfl ?_
 refine .w (op_storeRow (by kernel_rfl) rfl rfl rfl rfl rfl (rfl) (rfl)) trivial rfl ?_
 refine .q (op_assign rfl) trivial rfl ?_
 refine .nil ?_
 show Ev _ _ _ _ _
 refine .seq ?_
 refine .seq ?_
 refine .region ?_
 refine .q (op_fieldAddr (m := 0) Tryd.underlying96 rfl (by kernel_rfl) rfl) trivial rfl ?_
 refine .as (.ptr 1016 1) rfl ?_
 refine .q (op_load Tryd.underlying3 rfl rfl rfl rfl (show 1 < 2 by decide)) trivial rfl ?_
 refine .q (op_cmpI rfl rfl rfl) trivial rfl ?_
 refine .q (op_move rfl) trivial rfl ?_
 refine .know (b' := true) ((show (((u32D i).1.e : Int) == 0) = true by rw [he]; rfl)) ?_
 refine .q (op_move rfl) ⟨_, rfl, rfl⟩ rfl ?_
 refine .q (op_conv64I Tryd.underlying30 Tryd.underlying3 rfl (by have := num4_lt i; omega)) ⟨_, rfl, rfl⟩ rfl ?_
 refine .q (op_move rfl) ⟨_, rfl, rfl⟩ rfl ?_
 refine .q (op_cmpI rfl rfl rfl) ⟨_, rfl, rfl⟩ rfl ?_
 refine .q (op_pick_true rfl rfl rfl) trivial rfl ?_
 refine .nil ?_
 show Ev _ _ _ _ _
 refine .cond_true rfl (decide_eq_true h) ?_
 refine .seq ?_
 refine .region ?_
 refine .q (op_buildS (r := .agg [.str [], .i64 4]) Tryd.underlying96 rfl zero96 rel_zero96 rfl rfl rfl rfl) trivial rfl ?_
 refine .w (op_storeRow (by kernel_rfl) rfl rfl rfl rfl rfl (rfl) (rfl)) trivial rfl ?_
 refine .q (op_assign rfl) trivial rfl ?_
 refine .nil ?_
 show Ev _ _ _ _ _
 refine .ret ?_
 show RetOk _ _ _ _ _ _ _
 exact retc2 rfl (.inl rfl) ⟨_, _, _, _, rfl, rfl, rfl, rfl, rfl, Tryd.underlying96, rfl, (by kernel_rfl)⟩ rfl trivial
set_option maxRecDepth 100000 in
theorem rtext_yes (i : DI) (hi : i.ok) (most : Int) (he : (u32D i).1.e = 0) (h : ¬ most < (((numD i 4).2.toNat : Nat) : Int)) : Meets Tryd.prog 68 [.agg [.str (i).r, .i64 (((i).e : Nat) : Int)], .i64 most] [] (.tup [.agg [.str ((rawD (u32D i).1 (numD i 4).2.toNat).1).r, .i64 ((((rawD (u32D i).1 (numD i 4).2.toNat).1).e : Nat) : Int)], .str (rawD (u32D i).1 (numD i 4).2.toNat).2]) [] := by
 refine meets_of_ev (nt := 29) Tryd.func68 rfl rfl (Nat.le_of_ble_eq_true rfl) ?_
 refine .seq ?_
 refine .region ?_
 refine .a (op_boxRow rfl rfl) trivial rfl ?_
 refine .a (op_allocRow zero96 rel_zero96 rfl) trivial rfl ?_
 refine .q (op_assign rfl) trivial rfl ?_
 refine .nil ?_
 show Ev _ _ _ _ _
 refine .seq ?_
 refine .region ?_
 refine .q (op_loadRow Tryd.underlying96 rfl (by kernel_rfl) rfl rfl rfl (rfl)) trivial rfl ?_
 refine .q (op_call (U := []) [] [] (rnum_ev i hi 4 (by decide)) Tryd.func66 (by kernel_rfl) rfl rfl rfl (⟨⟨_, rfl, rfl, rfl⟩, ⟨_, rfl, rfl, rfl⟩, trivial⟩) (trivial) (trivial) (trivial) rfl) trivial rfl ?_
 refine .q (op_move rfl) trivial rfl ?_
 refine .q (op_extract rfl rfl) trivial rfl ?_
 refine .q (op_extract rfl rfl) trivial rfl ?_
 refine .a (op_allocRow zero96 rel_zero96 rfl) trivial rfl ?_
 refine .w (op_storeRow (by kernel_rfl) rfl rfl rfl rfl rfl (rfl) (rfl)) trivial rfl ?_
 refine .q (op_assign rfl) trivial rfl ?_
 refine .nil ?_
 show Ev _ _ _ _ _
 refine .seq ?_
 refine .seq ?_
 refine .region ?_
 refine .q (op_fieldAddr (m := 0) Tryd.underlying96 rfl (by kernel_rfl) rfl) trivial rfl ?_
 refine .as (.ptr 1016 1) rfl ?_
 refine .q (op_load Tryd.underlying3 rfl rfl rfl rfl (show 1 < 2 by decide)) trivial rfl ?_
 refine .q (op_cmpI rfl rfl rfl) trivial rfl ?_
 refine .q (op_move rfl) trivial rfl ?_
 refine .know (b' := true) ((show (((u32D i).1.e : Int) == 0) = true by rw [he]; rfl)) ?_
 refine .q (op_move rfl) ⟨_, rfl, rfl⟩ rfl ?_
 refine .q (op_conv64I Tryd.underlying30 Tryd.underlying3 rfl (by have := num4_lt i; omega)) ⟨_, rfl, rfl⟩ rfl ?_
 refine .q (op_move rfl) ⟨_, rfl, rfl⟩ rfl ?_
 refine .q (op_cmpI rfl rfl rfl) ⟨_, rfl, rfl⟩ rfl ?_
 refine .q (op_pick_true rfl rfl rfl) trivial rfl ?_
 refine .nil ?_
 show Ev _ _ _ _ _
 refine .cond_false rfl (decide_eq_false h) ?_
 refine .skip ?_
 show Ev _ _ _ _ _
 refine .seq ?_
 refine .region ?_
 refine .q (op_loadRow Tryd.underlying96 rfl (by kernel_rfl) rfl rfl rfl (rfl)) trivial rfl ?_
 refine .q (op_move rfl) trivial rfl ?_
 refine .q (op_conv64I Tryd.underlying30 Tryd.underlying3 rfl (by have := num4_lt i; omega)) trivial rfl ?_
 refine .q (op_call (U := []) [] [] (rraw_ev (u32D i).1 (rawD_ok hi 4) (((numD i 4).2.toNat : Nat) : Int)) Tryd.func69 (by kernel_rfl) rfl rfl rfl (⟨⟨_, rfl, rfl, rfl⟩, ⟨_, rfl, rfl, rfl⟩, trivial⟩) (trivial) (trivial) (trivial) rfl) trivial rfl ?_
 refine .q (op_extract rfl rfl) trivial rfl ?_
 refine .q (op_extract rfl rfl) trivial rfl ?_
 refine .w (op_storeRow (by kernel_rfl) rfl rfl rfl rfl rfl (rfl) (rfl)) trivial rfl ?_
 refine .q (op_assign rfl) trivial rfl ?_
 refine .nil ?_
 show Ev _ _ _ _ _
 refine .ret ?_
 show RetOk _ _ _ _ _ _ _
 exact retc2 rfl (.inl rfl) ⟨_, _, _, _, rfl, rfl, rfl, rfl, rfl, Tryd.underlying96, rfl, (by kernel_rfl)⟩ rfl trivial
theorem rtext_ev (i : DI) (hi : i.ok) (most : Int) : Meets Tryd.prog 68 [.agg [.str (i).r, .i64 (((i).e : Nat) : Int)], .i64 most] [] (.tup [.agg [.str ((textD i most).1).r, .i64 ((((textD i most).1).e : Nat) : Int)], .str (textD i most).2]) [] := by
 by_cases he : (u32D i).1.e = 0
 ·by_cases h : most < (((numD i 4).2.toNat : Nat) : Int)
  ·have e : textD i most = (⟨[], 4⟩, []) := by
    unfold textD
    rw [u32D_num, if_pos h]
    simp [failD, he, orE]
   rw [e]; exact rtext_big i hi most he h
  ·have e : textD i most = rawD (u32D i).1 (numD i 4).2.toNat := by
    unfold textD
    rw [u32D_num, if_neg h]
   rw [e]; exact rtext_yes i hi most he h
 ·rw [textD_err hi he most]
  have := rtext_err i hi most he
  rwa [rawD_err (i := (u32D i).1) (rawD_ok hi 4) he] at this
end Go.Proofs.YtoigppbkfhfllaaDoor
namespace Go.Proofs.YtoigppbkfhfllaaDoor
open Go.RowKit
def dvB (x : UInt64) : Nat → UInt64
  | 0 => x
  | k + 1 => dvB x k / 256
/-- The last k bytes of a number. -/
def tlB (x : UInt64) : Nat → List UInt8
  | 0 => []
  | k + 1 => (dvB x k % 256).toUInt8 :: tlB x k
theorem length_tlB (x : UInt64) (k : Nat) : (tlB x k).length = k := by induction k with | zero => rfl | succ k ih => simp [tlB, ih]
set_option maxRecDepth 100000 in
theorem rnumB_ev (x : UInt64) (n : Nat) (hn : n ≤ 1000000) : Meets Tryd.prog 12 [.u64 x, .i64 (n : Int)] [] (.str (tlB x n)) [] := by
 refine meets_of_ev (nt := 23) Tryd.func12 rfl rfl (Nat.le_of_ble_eq_true rfl) ?_
 refine .seq ?_
 refine .region ?_
 refine .q (op_assign rfl) trivial rfl ?_
 refine .nil ?_
 show Ev _ _ _ _ _
 refine .seq ?_
 refine .region ?_
 refine .a (ap_build0 (z := 1) (c := .aggB []) Tryd.underlying25 inf5 rfl) trivial rfl ?_
 refine .q (op_assign rfl) trivial rfl ?_
 refine .nil ?_
 show Ev _ _ _ _ _
 refine .seq ?_
 refine .seq ?_
 refine .region ?_
 refine .q (op_assign rfl) trivial rfl ?_
 refine .nil ?_
 show Ev _ _ _ _ _
 refine .block ?_
 refine Ev.loop (ι := { k : Nat // k ≤ n }) (fun q => ⟨[(0, .u64 (dvB x q.1)), (1, .i64 (n : Int)), (5, .sl 1000 0 q.1 1), (6, .i64 ((q.1 : Nat) : Int))], [(1000, some ⟨.aggB (tlB x q.1), 5, true⟩)], 1008⟩) (fun q => n - q.1) ⟨0, Nat.zero_le _⟩ (StLe.mk [(1000, 1000)] rfl rfl ⟨⟨_, rfl, by first | rfl | (simp only [AV.ren]; congr 1; omega), rfl⟩, ⟨_, rfl, by first | rfl | (simp only [AV.ren]; congr 1; omega), rfl⟩, ⟨_, rfl, by first | rfl | (simp only [AV.ren]; congr 1; omega), rfl⟩, ⟨_, rfl, by first | rfl | (simp only [AV.ren]; congr 1; omega), rfl⟩, trivial⟩ ⟨⟨_, _, rfl, rfl, rfl, rfl, id, rfl⟩, trivial⟩) ?_
 rintro ⟨k, hk⟩
 try dsimp only
 have hl := length_tlB x k
 refine .seq ?_
 refine .seq ?_
 refine .region ?_
 refine .q (op_move rfl) trivial rfl ?_
 refine .q (op_move rfl) trivial rfl ?_
 refine .q (op_cmpI rfl rfl rfl) trivial rfl ?_
 refine .nil ?_
 show Ev _ _ _ _ _
 refine .cond rfl (fun hc10 => ?_) (fun hc10 => ?_)
 ·simp only [decide_eq_true_eq] at hc10
  refine .skip ?_
  show Ev _ _ _ _ _
  refine .seq ?_
  refine .block ?_
  refine .seq ?_
  refine .region ?_
  refine .q (op_move rfl) trivial rfl ?_
  refine .q (op_rem64 rfl rfl (by decide)) trivial rfl ?_
  refine .q (op_conv Tryd.underlying30 Tryd.underlying5 rfl rfl) trivial rfl ?_
  refine .a (ap_build (us := [_]) (c := .aggB [_]) Tryd.underlying25 inf5 rfl (by decide) (by decide) ⟨rfl, rfl, rfl, trivial⟩ rfl) trivial rfl ?_
  refine .q (op_move rfl) trivial rfl ?_
  refine .a (ap_cat Tryd.underlying25 inf5 rfl rfl rfl rfl (by first | rfl | omega | (simp only [AV.len, List.length_cons, List.length_nil, length_tlB]; done) | (simp only [AV.len, List.length_cons, List.length_nil, length_tlB]; omega)) rfl rfl (by first | rfl | omega | (simp only [AV.len, length_tlB]; done) | (simp only [AV.len, List.length_cons, List.length_nil, length_tlB]; omega)) rfl (by first | rfl | omega | (simp only [AV.len, List.length_cons, List.length_nil, length_tlB]; done) | (simp only [AV.len, List.length_cons, List.length_nil, length_tlB]; omega))) trivial rfl ?_
  refine .q (op_assign rfl) trivial rfl ?_
  refine .nil ?_
  show Ev _ _ _ _ _
  refine .region ?_
  refine .q (op_move rfl) trivial rfl ?_
  refine .q (op_quo64 rfl rfl (by decide)) trivial rfl ?_
  refine .q (op_assign rfl) trivial rfl ?_
  refine .nil ?_
  show Ev _ _ _ _ _
  refine .region ?_
  refine .q (op_move rfl) trivial rfl ?_
  refine .q (op_addI rfl rfl ⟨by omega, by omega⟩) trivial rfl ?_
  refine .q (op_assign rfl) trivial rfl ?_
  refine .nil ?_
  exact ⟨⟨k + 1, by omega⟩, by (try dsimp only); omega, StLe.mk [(1000, 1016)] rfl rfl ⟨⟨_, rfl, by rfl, rfl⟩, ⟨_, rfl, by rfl, rfl⟩, ⟨_, rfl, by (exact congrArg (fun z => AV.sl 1000 0 z 1) (by simp only [List.length_cons, List.length_nil, length_tlB]; omega)), rfl⟩, ⟨_, rfl, by rfl, rfl⟩, trivial⟩ ⟨⟨_, _, rfl, rfl, rfl, rfl, id, rfl⟩, trivial⟩⟩
 ·simp only [decide_eq_false_iff_not] at hc10
  refine .exit ?_
  show Ev _ _ _ _ _
  refine .seq ?_
  refine .region ?_
  refine .q (op_move rfl) trivial rfl ?_
  refine .q (op_bytes_str Tryd.underlying25 Tryd.underlying5 Tryd.underlying9 rfl rfl rfl (by rw [length_tlB]; omega)) trivial rfl ?_
  refine .q (op_assign rfl) trivial rfl ?_
  refine .nil ?_
  show Ev _ _ _ _ _
  refine .ret ?_
  show RetOk _ _ _ _ _ _ _
  have e : k = n := by omega
  subst e
  exact ret1v rfl (.inl rfl) rfl (by rw [List.drop_zero, List.take_of_length_le (by rw [length_tlB]; omega)]) trivial
def lenR (s : List UInt8) : List UInt8 := tlB (UInt64.ofInt (s.length : Int)) 4
def textR (s : List UInt8) : List UInt8 := lenR s ++ s
set_option maxRecDepth 100000 in
theorem rtextB_ev (s : List UInt8) (hs : s.length ≤ 1000000) : Meets Tryd.prog 20 [.str s] [] (.str (textR s)) [] := by
 refine meets_of_ev (nt := 9) Tryd.func20 rfl rfl (Nat.le_of_ble_eq_true rfl) ?_
 refine .seq ?_
 refine .region ?_
 refine .q (op_assign rfl) trivial rfl ?_
 refine .nil ?_
 show Ev _ _ _ _ _
 refine .seq ?_
 refine .region ?_
 refine .q (op_move rfl) trivial rfl ?_
 refine .q (op_len_str Tryd.underlying9 rfl) trivial rfl ?_
 refine .q (op_conv Tryd.underlying3 Tryd.underlying30 rfl rfl) trivial rfl ?_
 refine .q (op_call (U := []) [] [] (rnumB_ev _ 4 (by decide)) Tryd.func12 (by kernel_rfl) rfl rfl rfl (⟨⟨_, rfl, rfl, rfl⟩, ⟨_, rfl, rfl, rfl⟩, trivial⟩) (trivial) (trivial) (trivial) rfl) trivial rfl ?_
 refine .q (op_move rfl) trivial rfl ?_
 refine .q (op_addS rfl rfl (by simp only [length_tlB]; omega)) trivial rfl ?_
 refine .q (op_assign rfl) trivial rfl ?_
 refine .nil ?_
 show Ev _ _ _ _ _
 refine .ret ?_
 show RetOk _ _ _ _ _ _ _
 exact ret1v rfl (.inl rfl) rfl rfl trivial
end Go.Proofs.YtoigppbkfhfllaaDoor
