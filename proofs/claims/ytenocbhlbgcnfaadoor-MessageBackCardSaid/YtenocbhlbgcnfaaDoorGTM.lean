/-
  Texts of this claim.
-/
import Derived.Test.YtenocbhlbgcnfaaDoorGTJ
import Derived.Test.YtenocbhlbgcnfaaDoorGTW
namespace Go.Proofs.YtenocbhlbgcnfaaDoor
open Go.RowKit
theorem any_le {ss : List (List UInt8)} (h : ss.any bigS = false) (i : Nat) : (ss.getD i []).length ≤ 40000 := by
  rcases Nat.lt_or_ge i ss.length with hi | hi
  · have h1 := List.any_eq_false.1 h (ss[i]) (List.getElem_mem hi)
    rw [show ss.getD i [] = ss[i] by simp [List.getD_eq_getElem?_getD, hi]]
    simp only [bigS, decide_eq_true_eq] at h1
    omega
  · simp [List.getD_eq_getElem?_getD, List.getElem?_eq_none hi]
set_option maxRecDepth 100000 in
theorem nextS_US (k : Int) (uo nu so ns : Nat) (ss : List (List UInt8)) (h : so < ss.length) : Meets Tryd.prog 47 [.ptr 500 2] [(500, some ⟨.agg [.i64 (k), .sl 511 (uo) (nu) 1, .sl 512 (so) (ns + 1) 1, .nilsl, .nilsl], 30, true⟩), (512, some ⟨.aggS ss, 9, false⟩)] (.str (ss.getD so [])) [(500, some ⟨.agg [.i64 (k), .sl 511 (uo) (nu) 1, .sl 512 (so + 1) (ns) 1, .nilsl, .nilsl], 30, true⟩), (512, some ⟨.aggS ss, 9, false⟩)] := by
 refine meets_of_ev (nt := 16) Tryd.func47 rfl rfl (Nat.le_of_ble_eq_true rfl) ?_
 refine .seq ?_
 refine .region ?_
 refine .q (op_assign rfl) trivial rfl ?_
 refine .nil ?_
 show Ev _ _ _ _ _
 refine .seq ?_
 refine .region ?_
 refine .q (op_move rfl) trivial rfl ?_
 refine .q (op_nilCheck rfl) trivial rfl ?_
 refine .q (op_load Tryd.underlying23 rfl rfl rfl rfl (by first | omega | (simp only [AV.len]; omega) | (simp only [AV.len]; omega) | assumption | (simp [AV.len]; done))) trivial rfl ?_
 refine .q (ap_idx Tryd.underlying23 inf9.sz rfl rfl (show (0 : Int) = ((0 : Nat) : Int) from rfl) (by omega)) trivial rfl ?_
 refine .q (op_load Tryd.underlying9 rfl rfl rfl rfl (h)) trivial rfl ?_
 refine .as (.str (ss.getD so [])) rfl ?_
 refine .q (op_assign rfl) trivial rfl ?_
 refine .nil ?_
 show Ev _ _ _ _ _
 refine .seq ?_
 refine .region ?_
 refine .q (op_move rfl) trivial rfl ?_
 refine .q (op_move rfl) trivial rfl ?_
 refine .q (op_nilCheck rfl) trivial rfl ?_
 refine .q (op_load Tryd.underlying23 rfl rfl rfl rfl (by first | omega | (simp only [AV.len]; omega) | (simp only [AV.len]; omega) | assumption | (simp [AV.len]; done))) trivial rfl ?_
 refine .q (op_slice_sl Tryd.underlying23 inf9.sz rfl (bnd_some rfl (show (1 : Int) = ((1 : Nat) : Int) from rfl)) rfl (by omega) (by omega)) trivial rfl ?_
 refine .as (.sl 512 (so + 1) ns 1) rfl ?_
 refine .q (op_nilCheck rfl) trivial rfl ?_
 refine .w (op_store (by kernel_rfl) rfl rfl rfl rfl rfl (by first | omega | (simp only [AV.len]; omega) | (simp only [AV.len]; omega) | assumption | (simp [AV.len]; done))) trivial rfl ?_
 refine .nil ?_
 show Ev _ _ _ _ _
 refine .seq ?_
 refine .region ?_
 refine .q (op_move rfl) trivial rfl ?_
 refine .q (op_assign rfl) trivial rfl ?_
 refine .nil ?_
 show Ev _ _ _ _ _
 refine .ret ?_
 show RetOk _ _ _ _ _ _ _
 exact ret1v rfl (.inl rfl) rfl (rfl) ⟨rfl, rfl, trivial⟩
set_option maxRecDepth 100000 in
theorem nextU_US (k : Int) (uo nu so ns : Nat) (us : List UInt32) (h : uo < us.length) : Meets Tryd.prog 41 [.ptr 500 1] [(500, some ⟨.agg [.i64 (k), .sl 511 (uo) (nu + 1) 1, .sl 512 (so) (ns) 1, .nilsl, .nilsl], 30, true⟩), (511, some ⟨.agg32 us, 42, false⟩)] (.u32 (us.getD uo 0)) [(500, some ⟨.agg [.i64 (k), .sl 511 (uo + 1) (nu) 1, .sl 512 (so) (ns) 1, .nilsl, .nilsl], 30, true⟩), (511, some ⟨.agg32 us, 42, false⟩)] := by
 refine meets_of_ev (nt := 16) Tryd.func41 rfl rfl (Nat.le_of_ble_eq_true rfl) ?_
 refine .seq ?_
 refine .region ?_
 refine .q (op_assign rfl) trivial rfl ?_
 refine .nil ?_
 show Ev _ _ _ _ _
 refine .seq ?_
 refine .region ?_
 refine .q (op_move rfl) trivial rfl ?_
 refine .q (op_nilCheck rfl) trivial rfl ?_
 refine .q (op_load Tryd.underlying22 rfl rfl rfl rfl (by first | omega | (simp only [AV.len]; omega) | (simp only [AV.len]; omega) | assumption | (simp [AV.len]; done))) trivial rfl ?_
 refine .q (ap_idx Tryd.underlying22 inf42.sz rfl rfl (show (0 : Int) = ((0 : Nat) : Int) from rfl) (by omega)) trivial rfl ?_
 refine .q (op_load Tryd.underlying42 rfl rfl rfl rfl (h)) trivial rfl ?_
 refine .as (.u32 (us.getD uo 0)) rfl ?_
 refine .q (op_assign rfl) trivial rfl ?_
 refine .nil ?_
 show Ev _ _ _ _ _
 refine .seq ?_
 refine .region ?_
 refine .q (op_move rfl) trivial rfl ?_
 refine .q (op_move rfl) trivial rfl ?_
 refine .q (op_nilCheck rfl) trivial rfl ?_
 refine .q (op_load Tryd.underlying22 rfl rfl rfl rfl (by first | omega | (simp only [AV.len]; omega) | (simp only [AV.len]; omega) | assumption | (simp [AV.len]; done))) trivial rfl ?_
 refine .q (op_slice_sl Tryd.underlying22 inf42.sz rfl (bnd_some rfl (show (1 : Int) = ((1 : Nat) : Int) from rfl)) rfl (by omega) (by omega)) trivial rfl ?_
 refine .as (.sl 511 (uo + 1) nu 1) rfl ?_
 refine .q (op_nilCheck rfl) trivial rfl ?_
 refine .w (op_store (by kernel_rfl) rfl rfl rfl rfl rfl (by first | omega | (simp only [AV.len]; omega) | (simp only [AV.len]; omega) | assumption | (simp [AV.len]; done))) trivial rfl ?_
 refine .nil ?_
 show Ev _ _ _ _ _
 refine .seq ?_
 refine .region ?_
 refine .q (op_move rfl) trivial rfl ?_
 refine .q (op_assign rfl) trivial rfl ?_
 refine .nil ?_
 show Ev _ _ _ _ _
 refine .ret ?_
 show RetOk _ _ _ _ _ _ _
 exact ret1v rfl (.inl rfl) rfl (rfl) ⟨rfl, rfl, trivial⟩
set_option maxRecDepth 100000 in
theorem puts_US (k : Int) (uo nu so ns : Nat) (ss : List (List UInt8)) (hi : so < ss.length) (hx : (ss.getD so []).length ≤ 40000)  (l : List UInt8) (n : Nat) (hn : n = l.length) (h : n ≤ 500000000) : Meets Tryd.prog 24 [.ptr 500 0, .u8 115, .ptr 510 0] [(500, some ⟨.agg [.ptr 500 0, .sl 501 0 (n) 1], 56, true⟩), (501, some ⟨.aggB l, 5, true⟩), (510, some ⟨.agg [.i64 (k), .sl 511 (uo) (nu) 1, .sl 512 (so) (ns + 1) 1, .nilsl, .nilsl], 30, true⟩), (512, some ⟨.aggS ss, 9, false⟩)] (.tup []) [(500, some ⟨.agg [.ptr 500 0, .sl 1016 0 (n + (4 + (ss.getD so []).length)) 1], 56, true⟩), (1016, some ⟨.aggB (l ++ textB (ss.getD so [])), 5, true⟩), (510, some ⟨.agg [.i64 (k), .sl 511 (uo) (nu) 1, .sl 512 (so + 1) (ns) 1, .nilsl, .nilsl], 30, true⟩), (512, some ⟨.aggS ss, 9, false⟩)] := by
 refine meets_of_ev (nt := 52) Tryd.func24 rfl rfl (Nat.le_of_ble_eq_true rfl) ?_
 refine .seq ?_
 refine .region ?_
 refine .q (op_move rfl) trivial rfl ?_
 refine .nil ?_
 show Ev _ _ _ _ _
 refine .block ?_
 refine .seq ?_
 refine .block ?_
 refine .seq ?_
 refine .block ?_
 refine .seq ?_
 refine .block ?_
 refine .seq ?_
 refine .block ?_
 refine .seq ?_
 refine .block ?_
 refine .seq ?_
 refine .seq ?_
 refine .seq ?_
 refine .region ?_
 refine .q (op_bin8 rfl rfl rfl) trivial rfl ?_
 refine .q (op_assign rfl) trivial rfl ?_
 refine .nil ?_
 show Ev _ _ _ _ _
 refine .cond_false rfl (rfl) ?_
 refine .skip ?_
 show Ev _ _ _ _ _
 refine .seq ?_
 refine .seq ?_
 refine .region ?_
 refine .q (op_bin8 rfl rfl rfl) trivial rfl ?_
 refine .q (op_assign rfl) trivial rfl ?_
 refine .nil ?_
 show Ev _ _ _ _ _
 refine .cond_false rfl (rfl) ?_
 refine .skip ?_
 show Ev _ _ _ _ _
 refine .seq ?_
 refine .seq ?_
 refine .region ?_
 refine .q (op_bin8 rfl rfl rfl) trivial rfl ?_
 refine .q (op_assign rfl) trivial rfl ?_
 refine .nil ?_
 show Ev _ _ _ _ _
 refine .cond_false rfl (rfl) ?_
 refine .skip ?_
 show Ev _ _ _ _ _
 refine .seq ?_
 refine .seq ?_
 refine .region ?_
 refine .q (op_bin8 rfl rfl rfl) trivial rfl ?_
 refine .q (op_assign rfl) trivial rfl ?_
 refine .nil ?_
 show Ev _ _ _ _ _
 refine .cond_true rfl (rfl) ?_
 refine .exit ?_
 show Ev _ _ _ _ _
 refine .region ?_
 refine .q (op_move rfl) trivial rfl ?_
 refine .q (op_move rfl) trivial rfl ?_
 refine .q (op_nilCheck rfl) trivial rfl ?_
 refine .q (op_fieldAddr (m := 0) Tryd.underlying30 rfl (by kernel_rfl) rfl) trivial rfl ?_
 refine .as (.ptr 510 2) rfl ?_
 refine .q (op_load Tryd.underlying23 rfl rfl rfl rfl (by first | omega | (simp only [AV.len]; omega) | (simp only [AV.len]; omega) | assumption | (simp [AV.len]; done))) trivial rfl ?_
 refine .q (ap_idx Tryd.underlying23 inf9.sz rfl rfl (show (0 : Int) = ((0 : Nat) : Int) from rfl) (by omega)) trivial rfl ?_
 refine .q (op_load Tryd.underlying9 rfl rfl rfl rfl (hi)) trivial rfl ?_
 refine .as (.str (ss.getD so [])) rfl ?_
 refine .q (op_len_str Tryd.underlying9 rfl) trivial rfl ?_
 refine .q (op_conv Tryd.underlying3 Tryd.underlying42 rfl rfl) trivial rfl ?_
 refine .a (op_call (U := [(500, some ⟨.agg [.ptr 500 0, .sl 1000 0 (n + 4) 1], 56, true⟩), (1000, some ⟨.aggB (l ++ lenB (ss.getD so [])), 5, true⟩), (501, none)]) [(500, 500), (501, 501)] [(1000, 1000)] (u322_ev (ofI32 ((ss.getD so []).length : Int)) (l) (n) (by first | exact hn | (simp [length_numB, length_lenB, length_textB]; done) | (simp [length_numB, length_lenB, length_textB]; omega) | omega | decide +kernel) (by omega)) Tryd.func40 (by kernel_rfl) rfl rfl rfl (⟨⟨_, rfl, rfl, rfl⟩, ⟨_, rfl, rfl, rfl⟩, trivial⟩) (⟨⟨_, _, rfl, rfl, rfl, rfl, id, rfl⟩, ⟨_, _, rfl, rfl, rfl, rfl, id, rfl⟩, trivial⟩) (⟨⟨500, _, rfl, rfl, rfl, rfl, .inr ⟨rfl, _, rfl, rfl⟩⟩, ⟨1000, _, rfl, rfl, rfl, rfl, .inl rfl⟩, trivial⟩) (⟨(fun _ => ⟨500, _, rfl, rfl⟩), (fun _ => ⟨501, _, rfl, rfl⟩), trivial⟩) rfl) trivial rfl ?_
 refine .nil ?_
 show Ev _ _ _ _ _
 refine .seq ?_
 refine .region ?_
 refine .q (op_move rfl) trivial rfl ?_
 refine .q (op_move rfl) trivial rfl ?_
 refine .q (op_nilCheck rfl) trivial rfl ?_
 refine .q (op_fieldAddr (m := 0) Tryd.underlying30 rfl (by kernel_rfl) rfl) trivial rfl ?_
 refine .as (.ptr 510 2) rfl ?_
 refine .a (op_call (U := [(510, some ⟨.agg [.i64 (k), .sl 511 (uo) (nu) 1, .sl 512 (so + 1) (ns) 1, .nilsl, .nilsl], 30, true⟩)]) [(500, 510), (511, 511), (512, 512)] [] (nextS_US k uo nu so ns ss hi) Tryd.func47 (by kernel_rfl) rfl rfl rfl (⟨⟨_, rfl, rfl, rfl⟩, trivial⟩) (⟨⟨_, _, rfl, rfl, rfl, rfl, id, rfl⟩, ⟨_, _, rfl, rfl, rfl, rfl, (fun h => by cases h), rfl⟩, trivial⟩) (⟨⟨500, _, rfl, rfl, rfl, rfl, .inr ⟨rfl, _, rfl, rfl⟩⟩, trivial⟩) (⟨(fun _ => ⟨510, _, rfl, rfl⟩), (fun h => by cases h), trivial⟩) rfl) trivial rfl ?_
 refine .a (op_call (U := [(500, some ⟨.agg [.ptr 500 0, .sl 1016 0 (n + 4 + (ss.getD so []).length) 1], 56, true⟩), (1016, some ⟨.aggB ((l ++ lenB (ss.getD so [])) ++ (ss.getD so [])), 5, true⟩), (1000, none)]) [(500, 500), (501, 1000)] [(1016, 1000)] (raw2_ev (ss.getD so []) (by omega) ((l ++ lenB (ss.getD so []))) (n + 4) (by first | exact hn | (simp [length_lenB]; done) | (simp [length_lenB]; omega) | omega | decide +kernel) (by omega)) Tryd.func46 (by kernel_rfl) rfl rfl rfl (⟨⟨_, rfl, rfl, rfl⟩, ⟨_, rfl, rfl, rfl⟩, trivial⟩) (⟨⟨_, _, rfl, rfl, rfl, rfl, id, rfl⟩, ⟨_, _, rfl, rfl, rfl, rfl, id, rfl⟩, trivial⟩) (⟨⟨500, _, rfl, rfl, rfl, rfl, .inr ⟨rfl, _, rfl, rfl⟩⟩, ⟨1000, _, rfl, rfl, rfl, rfl, .inl rfl⟩, trivial⟩) (⟨(fun _ => ⟨500, _, rfl, rfl⟩), (fun _ => ⟨1000, _, rfl, rfl⟩), trivial⟩) rfl) trivial rfl ?_
 refine .nil ?_
 show Ev _ _ _ _ _
 refine .exit ?_
 show RetOk _ _ _ _ _ _ _
 exact ret0 rfl (.inr rfl) ⟨(by first | rfl | (simp only [Nat.add_assoc]; rfl)), (by first | rfl | (simp only [List.append_assoc, textB]; rfl)), rfl, rfl, trivial⟩
set_option maxRecDepth 100000 in
theorem putu_US (k : Int) (uo nu so ns : Nat) (us : List UInt32) (hi : uo < us.length)  (l : List UInt8) (n : Nat) (hn : n = l.length) (h : n ≤ 500000000) : Meets Tryd.prog 24 [.ptr 500 0, .u8 117, .ptr 510 0] [(500, some ⟨.agg [.ptr 500 0, .sl 501 0 (n) 1], 56, true⟩), (501, some ⟨.aggB l, 5, true⟩), (510, some ⟨.agg [.i64 (k), .sl 511 (uo) (nu + 1) 1, .sl 512 (so) (ns) 1, .nilsl, .nilsl], 30, true⟩), (511, some ⟨.agg32 us, 42, false⟩)] (.tup []) [(500, some ⟨.agg [.ptr 500 0, .sl 1008 0 (n + 4) 1], 56, true⟩), (1008, some ⟨.aggB (l ++ numB (us.getD uo 0).toUInt64 4 4), 5, true⟩), (510, some ⟨.agg [.i64 (k), .sl 511 (uo + 1) (nu) 1, .sl 512 (so) (ns) 1, .nilsl, .nilsl], 30, true⟩), (511, some ⟨.agg32 us, 42, false⟩)] := by
 refine meets_of_ev (nt := 52) Tryd.func24 rfl rfl (Nat.le_of_ble_eq_true rfl) ?_
 refine .seq ?_
 refine .region ?_
 refine .q (op_move rfl) trivial rfl ?_
 refine .nil ?_
 show Ev _ _ _ _ _
 refine .block ?_
 refine .seq ?_
 refine .block ?_
 refine .seq ?_
 refine .block ?_
 refine .seq ?_
 refine .block ?_
 refine .seq ?_
 refine .block ?_
 refine .seq ?_
 refine .block ?_
 refine .seq ?_
 refine .seq ?_
 refine .seq ?_
 refine .region ?_
 refine .q (op_bin8 rfl rfl rfl) trivial rfl ?_
 refine .q (op_assign rfl) trivial rfl ?_
 refine .nil ?_
 show Ev _ _ _ _ _
 refine .cond_true rfl (rfl) ?_
 refine .exit ?_
 show Ev _ _ _ _ _
 refine .seq ?_
 refine .region ?_
 refine .q (op_move rfl) trivial rfl ?_
 refine .q (op_move rfl) trivial rfl ?_
 refine .q (op_nilCheck rfl) trivial rfl ?_
 refine .q (op_fieldAddr (m := 0) Tryd.underlying30 rfl (by kernel_rfl) rfl) trivial rfl ?_
 refine .as (.ptr 510 1) rfl ?_
 refine .a (op_call (U := [(510, some ⟨.agg [.i64 (k), .sl 511 (uo + 1) (nu) 1, .sl 512 (so) (ns) 1, .nilsl, .nilsl], 30, true⟩)]) [(500, 510), (511, 511), (512, 512)] [] (nextU_US k uo nu so ns us hi) Tryd.func41 (by kernel_rfl) rfl rfl rfl (⟨⟨_, rfl, rfl, rfl⟩, trivial⟩) (⟨⟨_, _, rfl, rfl, rfl, rfl, id, rfl⟩, ⟨_, _, rfl, rfl, rfl, rfl, (fun h => by cases h), rfl⟩, trivial⟩) (⟨⟨500, _, rfl, rfl, rfl, rfl, .inr ⟨rfl, _, rfl, rfl⟩⟩, trivial⟩) (⟨(fun _ => ⟨510, _, rfl, rfl⟩), (fun h => by cases h), trivial⟩) rfl) trivial rfl ?_
 refine .a (op_call (U := [(500, some ⟨.agg [.ptr 500 0, .sl 1008 0 (n + 4) 1], 56, true⟩), (1008, some ⟨.aggB (l ++ numB (us.getD uo 0).toUInt64 4 4), 5, true⟩), (501, none)]) [(500, 500), (501, 501)] [(1008, 1000)] (u322_ev (us.getD uo 0) (l) (n) (by first | exact hn | (simp [length_numB, length_lenB, length_textB]; done) | (simp [length_numB, length_lenB, length_textB]; omega) | omega | decide +kernel) (by omega)) Tryd.func40 (by kernel_rfl) rfl rfl rfl (⟨⟨_, rfl, rfl, rfl⟩, ⟨_, rfl, rfl, rfl⟩, trivial⟩) (⟨⟨_, _, rfl, rfl, rfl, rfl, id, rfl⟩, ⟨_, _, rfl, rfl, rfl, rfl, id, rfl⟩, trivial⟩) (⟨⟨500, _, rfl, rfl, rfl, rfl, .inr ⟨rfl, _, rfl, rfl⟩⟩, ⟨1000, _, rfl, rfl, rfl, rfl, .inl rfl⟩, trivial⟩) (⟨(fun _ => ⟨500, _, rfl, rfl⟩), (fun _ => ⟨501, _, rfl, rfl⟩), trivial⟩) rfl) trivial rfl ?_
 refine .nil ?_
 show Ev _ _ _ _ _
 refine .exit ?_
 show RetOk _ _ _ _ _ _ _
 exact ret0 rfl (.inr rfl) ⟨(by first | rfl | (simp only [Nat.add_assoc]; rfl)), (by first | rfl | (simp only [List.append_assoc, textB]; rfl)), rfl, rfl, trivial⟩
set_option maxRecDepth 100000 in
theorem bytes_94 (us : List UInt32) (hU : us.length = 1) (ss : List (List UInt8)) (hS : ss.length = 1) (hb : ss.any bigS = false) : Meets Tryd.prog 9 [.agg [.i64 (94), .sl 511 (0) (1) 1, .sl 512 (0) (1) 1, .nilsl, .nilsl]] [(511, some ⟨.agg32 us, 42, false⟩), (512, some ⟨.aggS ss, 9, false⟩), (20, some ⟨.agg kindCells, errT, false⟩)] (.str (((([94]) ++ numB (us.getD 0 0).toUInt64 4 4) ++ textB (ss.getD 0 [])))) [(511, some ⟨.agg32 us, 42, false⟩), (512, some ⟨.aggS ss, 9, false⟩)] := by
 have hx : ∀ i, (ss.getD i []).length ≤ 40000 := fun i => any_le hb i
 have hx0 := hx 0
 refine meets_of_ev (nt := 31) Tryd.func9 rfl rfl (Nat.le_of_ble_eq_true rfl) ?_
 refine .seq ?_
 refine .region ?_
 refine .a (op_boxRow rfl rfl) trivial rfl ?_
 refine .q (op_assign rfl) trivial rfl ?_
 refine .nil ?_
 show Ev _ _ _ _ _
 refine .seq ?_
 refine .seq ?_
 refine .region ?_
 refine .q (op_loadRow Tryd.underlying30 rfl (by kernel_rfl) rfl rfl rfl (rfl)) trivial rfl ?_
 refine .q (op_call (U := []) [(511, 511), (512, 512)] [] (check_ok_US 94 1 1 ss hS.symm (by decide) (by rfl) (by decide +kernel) (by decide +kernel) (by decide +kernel) (by decide +kernel) (by decide +kernel) hb) Tryd.func7 (by kernel_rfl) rfl rfl rfl (⟨⟨_, rfl, rfl, rfl⟩, trivial⟩) (⟨⟨_, _, rfl, rfl, rfl, rfl, (fun h => by cases h), rfl⟩, ⟨_, _, rfl, rfl, rfl, rfl, (fun h => by cases h), rfl⟩, trivial⟩) (trivial) (⟨(fun h => by cases h), (fun h => by cases h), trivial⟩) rfl) trivial rfl ?_
 refine .q (op_eqNilNil Tryd.underlying33 rfl rfl) trivial rfl ?_
 refine .nil ?_
 show Ev _ _ _ _ _
 refine .cond_false rfl (rfl) ?_
 refine .skip ?_
 show Ev _ _ _ _ _
 refine .seq ?_
 refine .region ?_
 refine .a (op_allocRow zero56 rel_zero56 rfl) trivial rfl ?_
 refine .nil ?_
 show Ev _ _ _ _ _
 refine .seq ?_
 refine .region ?_
 refine .q (op_fieldAddr (m := 0) Tryd.underlying30 rfl (by kernel_rfl) rfl) trivial rfl ?_
 refine .as (.ptr 1000 0) rfl ?_
 refine .q (op_load Tryd.underlying3 rfl rfl rfl rfl (by first | omega | (simp only [AV.len]; omega) | (simp only [AV.len]; omega) | assumption | (simp [AV.len]; done))) trivial rfl ?_
 refine .q (op_conv Tryd.underlying3 Tryd.underlying5 rfl rfl) trivial rfl ?_
 refine .as (.u8 (UInt8.ofNat 94)) (by rfl) ?_
 refine .a (op_call (U := [(1008, some ⟨.agg [.ptr 1008 0, .sl 1016 0 (1) 1], 56, true⟩), (1016, some ⟨.aggB ([94]), 5, true⟩)]) [(500, 1008)] [(1016, 1000)] (byte0_ev (UInt8.ofNat 94)) Tryd.func23 (by kernel_rfl) rfl rfl rfl (⟨⟨_, rfl, rfl, rfl⟩, ⟨_, rfl, rfl, rfl⟩, trivial⟩) (⟨⟨_, _, rfl, rfl, rfl, rfl, id, rfl⟩, trivial⟩) (⟨⟨500, _, rfl, rfl, rfl, rfl, .inr ⟨rfl, _, rfl, rfl⟩⟩, ⟨1000, _, rfl, rfl, rfl, rfl, .inl rfl⟩, trivial⟩) (⟨(fun _ => ⟨1008, _, rfl, rfl⟩), trivial⟩) rfl) trivial rfl ?_
 refine .nil ?_
 show Ev _ _ _ _ _
 refine .seq ?_
 refine .region ?_
 refine .q (op_fieldAddr (m := 0) Tryd.underlying30 rfl (by kernel_rfl) rfl) trivial rfl ?_
 refine .as (.ptr 1000 0) rfl ?_
 refine .q (op_load Tryd.underlying3 rfl rfl rfl rfl (by first | omega | (simp only [AV.len]; omega) | (simp only [AV.len]; omega) | assumption | (simp [AV.len]; done))) trivial rfl ?_
 refine .q (op_call (U := []) [] [] (fields_ev 94) Tryd.func16 (by kernel_rfl) rfl rfl rfl (⟨⟨_, rfl, rfl, rfl⟩, trivial⟩) (⟨⟨_, _, rfl, rfl, rfl, rfl, (fun h => by cases h), rfl⟩, trivial⟩) (trivial) (⟨(fun h => by cases h), trivial⟩) rfl) trivial rfl ?_
 refine .q (op_move rfl) trivial rfl ?_
 refine .q (op_extract rfl rfl) trivial rfl ?_
 refine .as (.str [117, 115]) (congrArg AV.str (by rfl)) ?_
 refine .q (op_extract rfl rfl) trivial rfl ?_
 refine .q (op_assign rfl) trivial rfl ?_
 refine .q (op_assign rfl) trivial rfl ?_
 refine .nil ?_
 show Ev _ _ _ _ _
 refine .seq ?_
 refine .seq ?_
 refine .region ?_
 refine .q (op_move rfl) trivial rfl ?_
 refine .q (op_len_str Tryd.underlying9 rfl) trivial rfl ?_
 refine .q (op_move rfl) trivial rfl ?_
 refine .nil ?_
 show Ev _ _ _ _ _
 refine .block ?_
 refine Ev.rounds 3 ?_
 show Ev _ _ _ _ _
 refine .seq ?_
 refine .region ?_
 refine .q (op_cmpI rfl rfl rfl) trivial rfl ?_
 refine .nil ?_
 show Ev _ _ _ _ _
 refine .seq ?_
 refine .cond_true rfl (rfl) ?_
 refine .skip ?_
 show Ev _ _ _ _ _
 refine .seq ?_
 refine .block ?_
 refine .seq ?_
 refine .region ?_
 refine .q (op_move rfl) trivial rfl ?_
 refine .q (op_assign rfl) trivial rfl ?_
 refine .nil ?_
 show Ev _ _ _ _ _
 refine .region ?_
 refine .q (op_move rfl) trivial rfl ?_
 refine .q (op_move rfl) trivial rfl ?_
 refine .q (op_index_str Tryd.underlying9 rfl rfl (show _ = ((0 : Nat) : Int) from rfl) (by decide)) trivial rfl ?_
 refine .a (op_call (U := [(1008, some ⟨.agg [.ptr 1008 0, .sl 1024 0 (1 + 4) 1], 56, true⟩), (1024, some ⟨.aggB (([94]) ++ numB (us.getD 0 0).toUInt64 4 4), 5, true⟩), (1016, none), (1000, some ⟨.agg [.i64 (94), .sl 511 (1) (0) 1, .sl 512 (0) (1) 1, .nilsl, .nilsl], 30, true⟩)]) [(500, 1008), (501, 1016), (510, 1000), (511, 511), (512, 512)] [(1024, 1008)] (putu_US 94 0 0 0 1 us (by omega) (([94])) (1) (by first | (simp; done) | (simp [length_numB, length_textB, length_boolB]; omega) | omega) (by omega)) Tryd.func24 (by kernel_rfl) rfl rfl rfl (⟨⟨_, rfl, rfl, rfl⟩, ⟨_, rfl, rfl, rfl⟩, ⟨_, rfl, rfl, rfl⟩, trivial⟩) (⟨⟨_, _, rfl, rfl, rfl, rfl, id, rfl⟩, ⟨_, _, rfl, rfl, rfl, rfl, id, rfl⟩, ⟨_, _, rfl, rfl, rfl, rfl, id, rfl⟩, ⟨_, _, rfl, rfl, rfl, rfl, (fun h => by cases h), rfl⟩, trivial⟩) (⟨⟨500, _, rfl, rfl, rfl, rfl, .inr ⟨rfl, _, rfl, rfl⟩⟩, ⟨1008, _, rfl, rfl, rfl, rfl, .inl rfl⟩, ⟨510, _, rfl, rfl, rfl, rfl, .inr ⟨rfl, _, rfl, rfl⟩⟩, trivial⟩) (⟨(fun _ => ⟨1008, _, rfl, rfl⟩), (fun _ => ⟨1016, _, rfl, rfl⟩), (fun _ => ⟨1000, _, rfl, rfl⟩), (fun h => by cases h), trivial⟩) rfl) trivial rfl ?_
 refine .nil ?_
 show Ev _ _ _ _ _
 refine .region ?_
 refine .q (op_addI rfl rfl ⟨by omega, by omega⟩) trivial rfl ?_
 refine .q (op_move rfl) trivial rfl ?_
 refine .nil ?_
 show Ev _ _ _ _ _
 refine .seq ?_
 refine .region ?_
 refine .q (op_cmpI rfl rfl rfl) trivial rfl ?_
 refine .nil ?_
 show Ev _ _ _ _ _
 refine .seq ?_
 refine .cond_true rfl (rfl) ?_
 refine .skip ?_
 show Ev _ _ _ _ _
 refine .seq ?_
 refine .block ?_
 refine .seq ?_
 refine .region ?_
 refine .q (op_move rfl) trivial rfl ?_
 refine .q (op_assign rfl) trivial rfl ?_
 refine .nil ?_
 show Ev _ _ _ _ _
 refine .region ?_
 refine .q (op_move rfl) trivial rfl ?_
 refine .q (op_move rfl) trivial rfl ?_
 refine .q (op_index_str Tryd.underlying9 rfl rfl (show _ = ((1 : Nat) : Int) from rfl) (by decide)) trivial rfl ?_
 refine .a (op_call (U := [(1008, some ⟨.agg [.ptr 1008 0, .sl 1032 0 (1 + 4 + (4 + (ss.getD 0 []).length)) 1], 56, true⟩), (1032, some ⟨.aggB ((([94]) ++ numB (us.getD 0 0).toUInt64 4 4) ++ textB (ss.getD 0 [])), 5, true⟩), (1024, none), (1000, some ⟨.agg [.i64 (94), .sl 511 (1) (0) 1, .sl 512 (1) (0) 1, .nilsl, .nilsl], 30, true⟩)]) [(500, 1008), (501, 1024), (510, 1000), (511, 511), (512, 512)] [(1032, 1016)] (puts_US 94 1 0 0 0 ss (by omega) (hx _) ((([94]) ++ numB (us.getD 0 0).toUInt64 4 4)) (1 + 4) (by first | (simp [length_numB]; done) | (simp [length_numB, length_textB, length_boolB]; omega) | omega) (by omega)) Tryd.func24 (by kernel_rfl) rfl rfl rfl (⟨⟨_, rfl, rfl, rfl⟩, ⟨_, rfl, rfl, rfl⟩, ⟨_, rfl, rfl, rfl⟩, trivial⟩) (⟨⟨_, _, rfl, rfl, rfl, rfl, id, rfl⟩, ⟨_, _, rfl, rfl, rfl, rfl, id, rfl⟩, ⟨_, _, rfl, rfl, rfl, rfl, id, rfl⟩, ⟨_, _, rfl, rfl, rfl, rfl, (fun h => by cases h), rfl⟩, trivial⟩) (⟨⟨500, _, rfl, rfl, rfl, rfl, .inr ⟨rfl, _, rfl, rfl⟩⟩, ⟨1016, _, rfl, rfl, rfl, rfl, .inl rfl⟩, ⟨510, _, rfl, rfl, rfl, rfl, .inr ⟨rfl, _, rfl, rfl⟩⟩, trivial⟩) (⟨(fun _ => ⟨1008, _, rfl, rfl⟩), (fun _ => ⟨1024, _, rfl, rfl⟩), (fun _ => ⟨1000, _, rfl, rfl⟩), (fun h => by cases h), trivial⟩) rfl) trivial rfl ?_
 refine .nil ?_
 show Ev _ _ _ _ _
 refine .region ?_
 refine .q (op_addI rfl rfl ⟨by omega, by omega⟩) trivial rfl ?_
 refine .q (op_move rfl) trivial rfl ?_
 refine .nil ?_
 show Ev _ _ _ _ _
 refine .seq ?_
 refine .region ?_
 refine .q (op_cmpI rfl rfl rfl) trivial rfl ?_
 refine .nil ?_
 show Ev _ _ _ _ _
 refine .seq ?_
 refine .cond_false rfl (rfl) ?_
 refine .exit ?_
 show Ev _ _ _ _ _
 refine .seq ?_
 refine .region ?_
 refine .a (op_call (U := [(1032, some ⟨.aggB (((([94]) ++ numB (us.getD 0 0).toUInt64 4 4) ++ textB (ss.getD 0 []))), (frz + 5), false⟩)]) [(500, 1008), (501, 1032)] [] (bytes2_ev (((([94]) ++ numB (us.getD 0 0).toUInt64 4 4) ++ textB (ss.getD 0 []))) (1 + 4 + (4 + (ss.getD 0 []).length)) (by first | (simp [length_numB, length_textB]; done) | (simp [length_numB, length_textB]; omega) | omega) (by omega) (by omega)) Tryd.func25 (by kernel_rfl) rfl rfl rfl (⟨⟨_, rfl, rfl, rfl⟩, trivial⟩) (⟨⟨_, _, rfl, rfl, rfl, rfl, (fun h => by cases h), rfl⟩, ⟨_, _, rfl, rfl, rfl, rfl, id, rfl⟩, trivial⟩) (⟨⟨501, _, rfl, rfl, rfl, rfl, .inr ⟨rfl, _, rfl, rfl⟩⟩, trivial⟩) (⟨(fun h => by cases h), (fun _ => ⟨1032, _, rfl, rfl⟩), trivial⟩) rfl) trivial rfl ?_
 refine .q (op_assign rfl) trivial rfl ?_
 refine .nil ?_
 show Ev _ _ _ _ _
 refine .ret ?_
 show RetOk _ _ _ _ _ _ _
 exact ret1v rfl (.inl rfl) rfl (rfl) ⟨rfl, rfl, trivial⟩
end Go.Proofs.YtenocbhlbgcnfaaDoor
namespace Go.Proofs.YtenocbhlbgcnfaaDoor
open Go.RowKit
set_option maxRecDepth 100000 in
theorem getu_0 (i : DI) (k : Int) (eo : Nat → Nat × Nat) : Meets Tryd.prog 30 [.ptr 500 0, .u8 117, .ptr 510 0] [(500, some ⟨.agg [.str (i).r, .err 131 ((i).e) (offE eo ((i).e))], 93, true⟩), (510, some ⟨.agg [.i64 (k), .nilsl, .nilsl, .nilsl, .nilsl], 30, true⟩), (1, some ⟨.agg [.err 131 (2) (offE eo (2))], errT, false⟩)] (.tup []) [(500, some ⟨.agg [.str ((u32D (i)).1).r, .err 131 (((u32D (i)).1).e) (offE eo (((u32D (i)).1).e))], 93, true⟩), (510, some ⟨.agg [.i64 (k), .sl 1064 (0) (1) 1, .nilsl, .nilsl, .nilsl], 30, true⟩), (1064, some ⟨.agg32 [(u32D (i)).2], 42, true⟩)] := by
 refine meets_of_ev (nt := 87) Tryd.func30 rfl rfl (Nat.le_of_ble_eq_true rfl) ?_
 refine .seq ?_
 refine .region ?_
 refine .q (op_move rfl) trivial rfl ?_
 refine .nil ?_
 show Ev _ _ _ _ _
 refine .block ?_
 refine .seq ?_
 refine .region ?_
 refine .q (op_bin8 rfl rfl rfl) trivial rfl ?_
 refine .q (op_assign rfl) trivial rfl ?_
 refine .nil ?_
 show Ev _ _ _ _ _
 refine .cond_true rfl (rfl) ?_
 refine .drawnF [[], [], [1], [1, 2], [1, 2, 3], [], [5], [5, 6], [1, 2, 3, 4, 5, 6, 7], [0, 1, 2, 3, 4, 5, 6, 7, 8], [0, 1, 2, 3, 4, 5, 6, 7, 8, 9], [0, 1, 2, 3, 4, 5, 6, 7, 8, 9, 10]] [4, 6, 7, 8, 11] [] [(4, ([510], [])), (6, ([1], [500])), (7, ([], [])), (8, ([1056], [])), (11, ([], [510]))] (by kernel_rfl) (by kernel_rfl) rfl ?_
 show DK _ [0, 1, 2, 3, 4, 5, 6, 7, 8, 9, 10, 11] _ _ _
 refine .q rfl (op_move rfl) trivial ?_
 refine .q rfl (op_move rfl) trivial ?_
 refine .q rfl (op_nilCheck rfl) trivial ?_
 refine .q rfl (op_fieldAddr (m := 0) Tryd.underlying30 rfl (by kernel_rfl) rfl) trivial ?_
 refine .as (.ptr 510 1) rfl ?_
 refine .q rfl (op_load Tryd.underlying22 rfl rfl rfl rfl (by first | omega | (simp only [AV.len]; omega) | (simp only [AV.len]; omega) | assumption | (simp [AV.len]; done))) trivial ?_
 refine .q rfl (op_move rfl) trivial ?_
 refine .a rfl (op_call (U := [(500, some ⟨.agg [.str ((u32D (i)).1).r, .err 131 (((u32D (i)).1).e) (offE eo (((u32D (i)).1).e))], 93, true⟩)]) [(500, 500)] [] (iu32_ev i eo) Tryd.func50 (by kernel_rfl) rfl rfl rfl (⟨⟨_, rfl, rfl, rfl⟩, trivial⟩) (⟨⟨_, _, rfl, rfl, rfl, rfl, id, rfl⟩, ⟨_, _, rfl, rfl, rfl, rfl, (fun h => by cases h), rfl⟩, trivial⟩) (⟨⟨500, _, rfl, rfl, rfl, rfl, .inr ⟨rfl, _, rfl, rfl⟩⟩, trivial⟩) (⟨(fun _ => ⟨500, _, rfl, rfl⟩), (fun h => by cases h), trivial⟩) rfl) trivial rfl rfl ?_
 refine .a rfl (ap_build (us := [_]) (c := .agg32 [_]) Tryd.underlying22 inf42 rfl (by decide) (by decide) ⟨rfl, rfl, rfl, trivial⟩ rfl) trivial rfl rfl ?_
 refine .a rfl (ap_cat_nil Tryd.underlying22 inf42 rfl rfl rfl rfl (by decide) (by decide)) trivial rfl rfl ?_
 refine .q rfl (op_nilCheck rfl) trivial ?_
 refine .q rfl (op_fieldAddr (m := 0) Tryd.underlying30 rfl (by kernel_rfl) rfl) trivial ?_
 refine .as (.ptr 510 1) rfl ?_
 refine .w rfl (op_store (by kernel_rfl) rfl rfl rfl rfl rfl (by first | omega | (simp only [AV.len]; omega) | (simp only [AV.len]; omega) | assumption | (simp [AV.len]; done))) trivial rfl rfl ?_
 refine .nil ?_
 show RetOk _ _ _ _ _ _ _
 exact ret0 rfl (.inr rfl) ⟨rfl, rfl, rfl, trivial⟩
set_option maxRecDepth 100000 in
theorem gets_U (i : DI) (k : Int) (nu : Nat) (eo : Nat → Nat × Nat) : Meets Tryd.prog 30 [.ptr 500 0, .u8 115, .ptr 510 0] [(500, some ⟨.agg [.str (i).r, .err 131 ((i).e) (offE eo ((i).e))], 93, true⟩), (510, some ⟨.agg [.i64 (k), .sl 511 (0) (nu) 1, .nilsl, .nilsl, .nilsl], 30, true⟩), (1, some ⟨.agg [.err 131 (2) (offE eo (2))], errT, false⟩), (3, some ⟨.agg [.err 131 (4) (offE eo (4))], errT, false⟩)] (.tup []) [(500, some ⟨.agg [.str ((textD (i) 32768).1).r, .err 131 (((textD (i) 32768).1).e) (offE eo (((textD (i) 32768).1).e))], 93, true⟩), (510, some ⟨.agg [.i64 (k), .sl 511 (0) (nu) 1, .sl 1064 (0) (1) 1, .nilsl, .nilsl], 30, true⟩), (1064, some ⟨.aggS [(textD (i) 32768).2], 9, true⟩)] := by
 refine meets_of_ev (nt := 87) Tryd.func30 rfl rfl (Nat.le_of_ble_eq_true rfl) ?_
 refine .seq ?_
 refine .region ?_
 refine .q (op_move rfl) trivial rfl ?_
 refine .nil ?_
 show Ev _ _ _ _ _
 refine .block ?_
 refine .seq ?_
 refine .region ?_
 refine .q (op_bin8 rfl rfl rfl) trivial rfl ?_
 refine .q (op_assign rfl) trivial rfl ?_
 refine .nil ?_
 show Ev _ _ _ _ _
 refine .cond_false rfl (rfl) ?_
 refine .seq ?_
 refine .region ?_
 refine .q (op_bin8 rfl rfl rfl) trivial rfl ?_
 refine .q (op_assign rfl) trivial rfl ?_
 refine .nil ?_
 show Ev _ _ _ _ _
 refine .cond_false rfl (rfl) ?_
 refine .seq ?_
 refine .region ?_
 refine .q (op_bin8 rfl rfl rfl) trivial rfl ?_
 refine .q (op_assign rfl) trivial rfl ?_
 refine .nil ?_
 show Ev _ _ _ _ _
 refine .cond_false rfl (rfl) ?_
 refine .seq ?_
 refine .region ?_
 refine .q (op_bin8 rfl rfl rfl) trivial rfl ?_
 refine .q (op_assign rfl) trivial rfl ?_
 refine .nil ?_
 show Ev _ _ _ _ _
 refine .cond_true rfl (rfl) ?_
 refine .drawnF [[], [], [1], [1, 2], [1, 2, 3], [], [5], [5, 6], [1, 2, 3, 4, 5, 6, 7], [0, 1, 2, 3, 4, 5, 6, 7, 8], [0, 1, 2, 3, 4, 5, 6, 7, 8, 9], [0, 1, 2, 3, 4, 5, 6, 7, 8, 9, 10]] [4, 6, 7, 8, 11] [] [(4, ([510], [])), (6, ([1, 3], [500])), (7, ([], [])), (8, ([1056], [])), (11, ([], [510]))] (by kernel_rfl) (by kernel_rfl) rfl ?_
 show DK _ [0, 1, 2, 3, 4, 5, 6, 7, 8, 9, 10, 11] _ _ _
 refine .q rfl (op_move rfl) trivial ?_
 refine .q rfl (op_move rfl) trivial ?_
 refine .q rfl (op_nilCheck rfl) trivial ?_
 refine .q rfl (op_fieldAddr (m := 0) Tryd.underlying30 rfl (by kernel_rfl) rfl) trivial ?_
 refine .as (.ptr 510 2) rfl ?_
 refine .q rfl (op_load Tryd.underlying23 rfl rfl rfl rfl (by first | omega | (simp only [AV.len]; omega) | (simp only [AV.len]; omega) | assumption | (simp [AV.len]; done))) trivial ?_
 refine .q rfl (op_move rfl) trivial ?_
 refine .a rfl (op_call (U := [(500, some ⟨.agg [.str ((textD (i) 32768).1).r, .err 131 (((textD (i) 32768).1).e) (offE eo (((textD (i) 32768).1).e))], 93, true⟩)]) [(500, 500)] [] (itext_ev i 32768 eo) Tryd.func53 (by kernel_rfl) rfl rfl rfl (⟨⟨_, rfl, rfl, rfl⟩, ⟨_, rfl, rfl, rfl⟩, trivial⟩) (⟨⟨_, _, rfl, rfl, rfl, rfl, id, rfl⟩, ⟨_, _, rfl, rfl, rfl, rfl, (fun h => by cases h), rfl⟩, ⟨_, _, rfl, rfl, rfl, rfl, (fun h => by cases h), rfl⟩, trivial⟩) (⟨⟨500, _, rfl, rfl, rfl, rfl, .inr ⟨rfl, _, rfl, rfl⟩⟩, trivial⟩) (⟨(fun _ => ⟨500, _, rfl, rfl⟩), (fun h => by cases h), (fun h => by cases h), trivial⟩) rfl) trivial rfl rfl ?_
 refine .a rfl (ap_build (us := [_]) (c := .aggS [_]) Tryd.underlying23 inf9 rfl (by decide) (by decide) ⟨rfl, rfl, rfl, trivial⟩ rfl) trivial rfl rfl ?_
 refine .a rfl (ap_cat_nil Tryd.underlying23 inf9 rfl rfl rfl rfl (by decide) (by decide)) trivial rfl rfl ?_
 refine .q rfl (op_nilCheck rfl) trivial ?_
 refine .q rfl (op_fieldAddr (m := 0) Tryd.underlying30 rfl (by kernel_rfl) rfl) trivial ?_
 refine .as (.ptr 510 2) rfl ?_
 refine .w rfl (op_store (by kernel_rfl) rfl rfl rfl rfl rfl (by first | omega | (simp only [AV.len]; omega) | (simp only [AV.len]; omega) | assumption | (simp [AV.len]; done))) trivial rfl rfl ?_
 refine .nil ?_
 show RetOk _ _ _ _ _ _ _
 exact ret0 rfl (.inr rfl) ⟨rfl, rfl, rfl, trivial⟩
set_option maxRecDepth 100000 in
theorem parse_94 (s : List UInt8) (h0 : s ≠ []) (hk : (byteD (DI.mk s 0)).2.toNat = 94) (he : (endD ((textD ((u32D ((byteD (DI.mk s 0)).1)).1) 32768).1)).e = 0) (hb : [(textD ((u32D ((byteD (DI.mk s 0)).1)).1) 32768).2].any bigS = false) (eo : Nat → Nat × Nat) : Meets Tryd.prog 11 [.str s] [(1, some ⟨.agg [.err 131 (2) (offE eo (2))], errT, false⟩), (3, some ⟨.agg [.err 131 (4) (offE eo (4))], errT, false⟩), (2, some ⟨.agg [.err 131 (3) (offE eo (3))], errT, false⟩), (20, some ⟨.agg kindCells, errT, false⟩)] (.tup [.agg [.i64 (94), .sl 1032 (0) (1) 1, .sl 1040 (0) (1) 1, .nilsl, .nilsl], .val .nilIface]) [(1032, some ⟨.agg32 [(u32D ((byteD (DI.mk s 0)).1)).2], 42, true⟩), (1040, some ⟨.aggS [(textD ((u32D ((byteD (DI.mk s 0)).1)).1) 32768).2], 9, true⟩)] := by
 refine meets_of_ev (nt := 52) Tryd.func11 rfl rfl (Nat.le_of_ble_eq_true rfl) ?_
 refine .seq ?_
 refine .region ?_
 refine .a (op_allocRow zero30 rel_zero30 rfl) trivial rfl ?_
 refine .q (op_assign rfl) trivial rfl ?_
 refine .nil ?_
 show Ev _ _ _ _ _
 refine .seq ?_
 refine .seq ?_
 refine .region ?_
 refine .q (op_move rfl) trivial rfl ?_
 refine .q (op_eqS rfl rfl rfl) trivial rfl ?_
 refine .nil ?_
 show Ev _ _ _ _ _
 refine .cond_false rfl (by simpa using h0) ?_
 refine .skip ?_
 show Ev _ _ _ _ _
 refine .seq ?_
 refine .region ?_
 refine .q (op_move rfl) trivial rfl ?_
 refine .a (op_call (U := [(1008, some ⟨.agg [.str (DI.mk s 0).r, .err 131 ((DI.mk s 0).e) (offE eo ((DI.mk s 0).e))], 93, true⟩)]) [] [(1008, 1000)] (wof_ev s eo) Tryd.func28 (by kernel_rfl) rfl rfl rfl (⟨⟨_, rfl, rfl, rfl⟩, trivial⟩) (trivial) (⟨⟨1000, _, rfl, rfl, rfl, rfl, .inl rfl⟩, trivial⟩) (trivial) rfl) trivial rfl ?_
 refine .q (op_assign rfl) trivial rfl ?_
 refine .nil ?_
 show Ev _ _ _ _ _
 refine .seq ?_
 refine .region ?_
 refine .q (op_move rfl) trivial rfl ?_
 refine .a (op_call (U := [(1008, some ⟨.agg [.str ((byteD (DI.mk s 0)).1).r, .err 131 (((byteD (DI.mk s 0)).1).e) (offE eo (((byteD (DI.mk s 0)).1).e))], 93, true⟩)]) [(500, 1008)] [] (ibyte_ev (DI.mk s 0) eo) Tryd.func29 (by kernel_rfl) rfl rfl rfl (⟨⟨_, rfl, rfl, rfl⟩, trivial⟩) (⟨⟨_, _, rfl, rfl, rfl, rfl, id, rfl⟩, ⟨_, _, rfl, rfl, rfl, rfl, (fun h => by cases h), rfl⟩, trivial⟩) (⟨⟨500, _, rfl, rfl, rfl, rfl, .inr ⟨rfl, _, rfl, rfl⟩⟩, trivial⟩) (⟨(fun _ => ⟨1008, _, rfl, rfl⟩), (fun h => by cases h), trivial⟩) rfl) trivial rfl ?_
 refine .q (op_conv Tryd.underlying5 Tryd.underlying3 rfl rfl) trivial rfl ?_
 refine .as (.i64 94) (by rw [hk]; rfl) ?_
 refine .q (op_buildS (r := .agg [.i64 (94), .nilsl, .nilsl, .nilsl, .nilsl]) Tryd.underlying30 rfl zero30 rel_zero30 rfl rfl rfl rfl) trivial rfl ?_
 refine .a (op_allocRow zero30 rel_zero30 rfl) trivial rfl ?_
 refine .w (op_storeRow (by kernel_rfl) rfl rfl rfl rfl rfl (rfl) (rfl)) trivial rfl ?_
 refine .nil ?_
 show Ev _ _ _ _ _
 refine .seq ?_
 refine .region ?_
 refine .q (op_fieldAddr (m := 0) Tryd.underlying30 rfl (by kernel_rfl) rfl) trivial rfl ?_
 refine .as (.ptr 1024 0) rfl ?_
 refine .q (op_load Tryd.underlying3 rfl rfl rfl rfl (by first | omega | (simp only [AV.len]; omega) | (simp only [AV.len]; omega) | assumption | (simp [AV.len]; done))) trivial rfl ?_
 refine .q (op_call (U := []) [] [] (fields_ev 94) Tryd.func16 (by kernel_rfl) rfl rfl rfl (⟨⟨_, rfl, rfl, rfl⟩, trivial⟩) (⟨⟨_, _, rfl, rfl, rfl, rfl, (fun h => by cases h), rfl⟩, trivial⟩) (trivial) (⟨(fun h => by cases h), trivial⟩) rfl) trivial rfl ?_
 refine .q (op_move rfl) trivial rfl ?_
 refine .q (op_extract rfl rfl) trivial rfl ?_
 refine .as (.str [117, 115]) (congrArg AV.str (by rfl)) ?_
 refine .q (op_extract rfl rfl) trivial rfl ?_
 refine .q (op_assign rfl) trivial rfl ?_
 refine .q (op_assign rfl) trivial rfl ?_
 refine .nil ?_
 show Ev _ _ _ _ _
 refine .seq ?_
 refine .seq ?_
 refine .region ?_
 refine .q (op_move rfl) trivial rfl ?_
 refine .q (op_notB rfl) trivial rfl ?_
 refine .nil ?_
 show Ev _ _ _ _ _
 refine .cond_false rfl (rfl) ?_
 refine .skip ?_
 show Ev _ _ _ _ _
 refine .seq ?_
 refine .seq ?_
 refine .region ?_
 refine .q (op_move rfl) trivial rfl ?_
 refine .q (op_len_str Tryd.underlying9 rfl) trivial rfl ?_
 refine .q (op_move rfl) trivial rfl ?_
 refine .nil ?_
 show Ev _ _ _ _ _
 refine .block ?_
 refine Ev.rounds 3 ?_
 show Ev _ _ _ _ _
 refine .seq ?_
 refine .region ?_
 refine .q (op_cmpI rfl rfl rfl) trivial rfl ?_
 refine .nil ?_
 show Ev _ _ _ _ _
 refine .seq ?_
 refine .cond_true rfl (rfl) ?_
 refine .skip ?_
 show Ev _ _ _ _ _
 refine .seq ?_
 refine .block ?_
 refine .seq ?_
 refine .region ?_
 refine .q (op_move rfl) trivial rfl ?_
 refine .q (op_assign rfl) trivial rfl ?_
 refine .nil ?_
 show Ev _ _ _ _ _
 refine .region ?_
 refine .q (op_move rfl) trivial rfl ?_
 refine .q (op_move rfl) trivial rfl ?_
 refine .q (op_move rfl) trivial rfl ?_
 refine .q (op_index_str Tryd.underlying9 rfl rfl (show _ = ((0 : Nat) : Int) from rfl) (by decide)) trivial rfl ?_
 refine .a (op_call (U := [(1008, some ⟨.agg [.str ((u32D ((byteD (DI.mk s 0)).1)).1).r, .err 131 (((u32D ((byteD (DI.mk s 0)).1)).1).e) (offE eo (((u32D ((byteD (DI.mk s 0)).1)).1).e))], 93, true⟩), (1024, some ⟨.agg [.i64 (94), .sl 1032 (0) (1) 1, .nilsl, .nilsl, .nilsl], 30, true⟩), (1032, some ⟨.agg32 [(u32D ((byteD (DI.mk s 0)).1)).2], 42, true⟩)]) [(500, 1008), (510, 1024)] [(1032, 1064)] (getu_0 ((byteD (DI.mk s 0)).1) 94 eo) Tryd.func30 (by kernel_rfl) rfl rfl rfl (⟨⟨_, rfl, rfl, rfl⟩, ⟨_, rfl, rfl, rfl⟩, ⟨_, rfl, rfl, rfl⟩, trivial⟩) (⟨⟨_, _, rfl, rfl, rfl, rfl, id, rfl⟩, ⟨_, _, rfl, rfl, rfl, rfl, id, rfl⟩, ⟨_, _, rfl, rfl, rfl, rfl, (fun h => by cases h), rfl⟩, trivial⟩) (⟨⟨500, _, rfl, rfl, rfl, rfl, .inr ⟨rfl, _, rfl, rfl⟩⟩, ⟨510, _, rfl, rfl, rfl, rfl, .inr ⟨rfl, _, rfl, rfl⟩⟩, ⟨1064, _, rfl, rfl, rfl, rfl, .inl rfl⟩, trivial⟩) (⟨(fun _ => ⟨1008, _, rfl, rfl⟩), (fun _ => ⟨1024, _, rfl, rfl⟩), (fun h => by cases h), trivial⟩) rfl) trivial rfl ?_
 refine .nil ?_
 show Ev _ _ _ _ _
 refine .region ?_
 refine .q (op_addI rfl rfl ⟨by omega, by omega⟩) trivial rfl ?_
 refine .q (op_move rfl) trivial rfl ?_
 refine .nil ?_
 show Ev _ _ _ _ _
 refine .seq ?_
 refine .region ?_
 refine .q (op_cmpI rfl rfl rfl) trivial rfl ?_
 refine .nil ?_
 show Ev _ _ _ _ _
 refine .seq ?_
 refine .cond_true rfl (rfl) ?_
 refine .skip ?_
 show Ev _ _ _ _ _
 refine .seq ?_
 refine .block ?_
 refine .seq ?_
 refine .region ?_
 refine .q (op_move rfl) trivial rfl ?_
 refine .q (op_assign rfl) trivial rfl ?_
 refine .nil ?_
 show Ev _ _ _ _ _
 refine .region ?_
 refine .q (op_move rfl) trivial rfl ?_
 refine .q (op_move rfl) trivial rfl ?_
 refine .q (op_move rfl) trivial rfl ?_
 refine .q (op_index_str Tryd.underlying9 rfl rfl (show _ = ((1 : Nat) : Int) from rfl) (by decide)) trivial rfl ?_
 refine .a (op_call (U := [(1008, some ⟨.agg [.str ((textD ((u32D ((byteD (DI.mk s 0)).1)).1) 32768).1).r, .err 131 (((textD ((u32D ((byteD (DI.mk s 0)).1)).1) 32768).1).e) (offE eo (((textD ((u32D ((byteD (DI.mk s 0)).1)).1) 32768).1).e))], 93, true⟩), (1024, some ⟨.agg [.i64 (94), .sl 1032 (0) (1) 1, .sl 1040 (0) (1) 1, .nilsl, .nilsl], 30, true⟩), (1040, some ⟨.aggS [(textD ((u32D ((byteD (DI.mk s 0)).1)).1) 32768).2], 9, true⟩)]) [(500, 1008), (510, 1024), (511, 1032)] [(1040, 1064)] (gets_U ((u32D ((byteD (DI.mk s 0)).1)).1) 94 1 eo) Tryd.func30 (by kernel_rfl) rfl rfl rfl (⟨⟨_, rfl, rfl, rfl⟩, ⟨_, rfl, rfl, rfl⟩, ⟨_, rfl, rfl, rfl⟩, trivial⟩) (⟨⟨_, _, rfl, rfl, rfl, rfl, id, rfl⟩, ⟨_, _, rfl, rfl, rfl, rfl, id, rfl⟩, ⟨_, _, rfl, rfl, rfl, rfl, (fun h => by cases h), rfl⟩, ⟨_, _, rfl, rfl, rfl, rfl, (fun h => by cases h), rfl⟩, trivial⟩) (⟨⟨500, _, rfl, rfl, rfl, rfl, .inr ⟨rfl, _, rfl, rfl⟩⟩, ⟨510, _, rfl, rfl, rfl, rfl, .inr ⟨rfl, _, rfl, rfl⟩⟩, ⟨1064, _, rfl, rfl, rfl, rfl, .inl rfl⟩, trivial⟩) (⟨(fun _ => ⟨1008, _, rfl, rfl⟩), (fun _ => ⟨1024, _, rfl, rfl⟩), (fun h => by cases h), (fun h => by cases h), trivial⟩) rfl) trivial rfl ?_
 refine .nil ?_
 show Ev _ _ _ _ _
 refine .region ?_
 refine .q (op_addI rfl rfl ⟨by omega, by omega⟩) trivial rfl ?_
 refine .q (op_move rfl) trivial rfl ?_
 refine .nil ?_
 show Ev _ _ _ _ _
 refine .seq ?_
 refine .region ?_
 refine .q (op_cmpI rfl rfl rfl) trivial rfl ?_
 refine .nil ?_
 show Ev _ _ _ _ _
 refine .seq ?_
 refine .cond_false rfl (rfl) ?_
 refine .exit ?_
 show Ev _ _ _ _ _
 refine .seq ?_
 refine .seq ?_
 refine .region ?_
 refine .q (op_move rfl) trivial rfl ?_
 refine .a (op_call (U := [(1008, some ⟨.agg [.str (endD ((textD ((u32D ((byteD (DI.mk s 0)).1)).1) 32768).1)).r, .err 131 ((endD ((textD ((u32D ((byteD (DI.mk s 0)).1)).1) 32768).1)).e) (offE eo ((endD ((textD ((u32D ((byteD (DI.mk s 0)).1)).1) 32768).1)).e))], 93, true⟩)]) [(500, 1008)] [] (end_ev ((textD ((u32D ((byteD (DI.mk s 0)).1)).1) 32768).1) eo) Tryd.func31 (by kernel_rfl) rfl rfl rfl (⟨⟨_, rfl, rfl, rfl⟩, trivial⟩) (⟨⟨_, _, rfl, rfl, rfl, rfl, id, rfl⟩, ⟨_, _, rfl, rfl, rfl, rfl, (fun h => by cases h), rfl⟩, trivial⟩) (⟨⟨500, _, rfl, rfl, rfl, rfl, .inr ⟨rfl, _, rfl, rfl⟩⟩, trivial⟩) (⟨(fun _ => ⟨1008, _, rfl, rfl⟩), (fun h => by cases h), trivial⟩) rfl) trivial rfl ?_
 refine .q (op_assign rfl) trivial rfl ?_
 refine .nil ?_
 show Ev _ _ _ _ _
 refine .seq ?_
 refine .region ?_
 refine .q (op_move rfl) trivial rfl ?_
 refine .q (op_eqErrNil (e := (endD ((textD ((u32D ((byteD (DI.mk s 0)).1)).1) 32768).1)).e) Tryd.underlying33 rfl rfl) trivial rfl ?_
 refine .nil ?_
 show Ev _ _ _ _ _
 refine .cond_false rfl (by rw [he]; rfl) ?_
 refine .skip ?_
 show Ev _ _ _ _ _
 refine .seq ?_
 refine .seq ?_
 refine .region ?_
 refine .q (op_loadRow Tryd.underlying30 rfl (by kernel_rfl) rfl rfl rfl (rfl)) trivial rfl ?_
 refine .q (op_call (U := []) [(511, 1032), (512, 1040)] [] (toolong_US 94 1 1 [(textD ((u32D ((byteD (DI.mk s 0)).1)).1) 32768).2] (by rfl) (by decide)) Tryd.func19 (by kernel_rfl) rfl rfl rfl (⟨⟨_, rfl, rfl, rfl⟩, trivial⟩) (⟨⟨_, _, rfl, rfl, rfl, rfl, (fun h => by cases h), rfl⟩, trivial⟩) (trivial) (⟨(fun h => by cases h), trivial⟩) rfl) trivial rfl ?_
 refine .nil ?_
 show Ev _ _ _ _ _
 refine .cond_false rfl (hb) ?_
 refine .skip ?_
 show Ev _ _ _ _ _
 refine .seq ?_
 refine .region ?_
 refine .q (op_loadRow Tryd.underlying30 rfl (by kernel_rfl) rfl rfl rfl (rfl)) trivial rfl ?_
 refine .w (op_storeRow (by kernel_rfl) rfl rfl rfl rfl rfl (rfl) (rfl)) trivial rfl ?_
 refine .q (op_assign rfl) trivial rfl ?_
 refine .nil ?_
 show Ev _ _ _ _ _
 refine .ret ?_
 show RetOk _ _ _ _ _ _ _
 exact retc2 rfl (.inl rfl) ⟨_, _, _, _, rfl, rfl, rfl, rfl, rfl, Tryd.underlying30, rfl, (by kernel_rfl)⟩ rfl ⟨rfl, rfl, trivial⟩
end Go.Proofs.YtenocbhlbgcnfaaDoor
namespace Go.Proofs.YtenocbhlbgcnfaaDoor
open Go.RowKit
def a10 : List UInt8 := [94, 0, 0, 0, 7, 0, 0, 0, 2, 97, 98]
set_option maxRecDepth 100000 in
theorem same_US (k : Int) (nu ns : Nat) (us : List UInt32) (hU : nu = us.length) (lU : nu ≤ 1000) (ss : List (List UInt8)) (hS : ns = ss.length) (lS : ns ≤ 1000) : Meets Tryd.prog 12 [.agg [.i64 (k), .sl 511 (0) (nu) 1, .sl 512 (0) (ns) 1, .nilsl, .nilsl], .agg [.i64 (k), .sl 521 (0) (nu) 1, .sl 522 (0) (ns) 1, .nilsl, .nilsl]] [(511, some ⟨.agg32 us, 42, false⟩), (521, some ⟨.agg32 us, 42, false⟩), (512, some ⟨.aggS ss, 9, false⟩), (522, some ⟨.aggS ss, 9, false⟩)] (.bool true) [(511, some ⟨.agg32 us, 42, false⟩), (521, some ⟨.agg32 us, 42, false⟩), (512, some ⟨.aggS ss, 9, false⟩), (522, some ⟨.aggS ss, 9, false⟩)] := by
 refine meets_of_ev (nt := 143) Tryd.func12 rfl rfl (Nat.le_of_ble_eq_true rfl) ?_
 refine .seq ?_
 refine .region ?_
 refine .a (op_boxRow rfl rfl) trivial rfl ?_
 refine .a (op_boxRow rfl rfl) trivial rfl ?_
 refine .q (op_assign rfl) trivial rfl ?_
 refine .nil ?_
 show Ev _ _ _ _ _
 refine .seq ?_
 refine .seq ?_
 refine .region ?_
 refine .q (op_fieldAddr (m := 0) Tryd.underlying30 rfl (by kernel_rfl) rfl) trivial rfl ?_
 refine .as (.ptr 1000 0) rfl ?_
 refine .q (op_load Tryd.underlying3 rfl rfl rfl rfl (by first | omega | (simp only [AV.len]; omega) | (simp only [AV.len]; omega) | assumption | (simp [AV.len]; done))) trivial rfl ?_
 refine .q (op_fieldAddr (m := 0) Tryd.underlying27 rfl (by kernel_rfl) rfl) trivial rfl ?_
 refine .as (.ptr 1008 0) rfl ?_
 refine .q (op_load Tryd.underlying3 rfl rfl rfl rfl (by first | omega | (simp only [AV.len]; omega) | (simp only [AV.len]; omega) | assumption | (simp [AV.len]; done))) trivial rfl ?_
 refine .q (op_cmpI rfl rfl rfl) trivial rfl ?_
 refine .q (op_move rfl) trivial rfl ?_
 refine .know (b' := false) (bne_self_eq_false _) ?_
 refine .q (op_fieldAddr (m := 0) Tryd.underlying30 rfl (by kernel_rfl) rfl) ⟨_, rfl, rfl⟩ rfl ?_
 refine .as (.ptr 1000 1) rfl ?_
 refine .q (op_load Tryd.underlying22 rfl rfl rfl rfl (by first | omega | (simp only [AV.len]; omega) | (simp only [AV.len]; omega) | assumption | (simp [AV.len]; done))) ⟨_, rfl, rfl⟩ rfl ?_
 refine .q (op_len_sl Tryd.underlying22 rfl) ⟨_, rfl, rfl⟩ rfl ?_
 refine .q (op_fieldAddr (m := 0) Tryd.underlying27 rfl (by kernel_rfl) rfl) ⟨_, rfl, rfl⟩ rfl ?_
 refine .as (.ptr 1008 1) rfl ?_
 refine .q (op_load Tryd.underlying22 rfl rfl rfl rfl (by first | omega | (simp only [AV.len]; omega) | (simp only [AV.len]; omega) | assumption | (simp [AV.len]; done))) ⟨_, rfl, rfl⟩ rfl ?_
 refine .q (op_len_sl Tryd.underlying22 rfl) ⟨_, rfl, rfl⟩ rfl ?_
 refine .q (op_cmpI rfl rfl rfl) ⟨_, rfl, rfl⟩ rfl ?_
 refine .q (op_pick_false rfl rfl rfl) trivial rfl ?_
 refine .q (op_move rfl) trivial rfl ?_
 refine .know (b' := false) (bne_self_eq_false _) ?_
 refine .q (op_fieldAddr (m := 0) Tryd.underlying30 rfl (by kernel_rfl) rfl) ⟨_, rfl, rfl⟩ rfl ?_
 refine .as (.ptr 1000 2) rfl ?_
 refine .q (op_load Tryd.underlying23 rfl rfl rfl rfl (by first | omega | (simp only [AV.len]; omega) | (simp only [AV.len]; omega) | assumption | (simp [AV.len]; done))) ⟨_, rfl, rfl⟩ rfl ?_
 refine .q (op_len_sl Tryd.underlying23 rfl) ⟨_, rfl, rfl⟩ rfl ?_
 refine .q (op_fieldAddr (m := 0) Tryd.underlying27 rfl (by kernel_rfl) rfl) ⟨_, rfl, rfl⟩ rfl ?_
 refine .as (.ptr 1008 2) rfl ?_
 refine .q (op_load Tryd.underlying23 rfl rfl rfl rfl (by first | omega | (simp only [AV.len]; omega) | (simp only [AV.len]; omega) | assumption | (simp [AV.len]; done))) ⟨_, rfl, rfl⟩ rfl ?_
 refine .q (op_len_sl Tryd.underlying23 rfl) ⟨_, rfl, rfl⟩ rfl ?_
 refine .q (op_cmpI rfl rfl rfl) ⟨_, rfl, rfl⟩ rfl ?_
 refine .q (op_pick_false rfl rfl rfl) trivial rfl ?_
 refine .q (op_move rfl) trivial rfl ?_
 refine .know (b' := false) (bne_self_eq_false _) ?_
 refine .q (op_fieldAddr (m := 0) Tryd.underlying30 rfl (by kernel_rfl) rfl) ⟨_, rfl, rfl⟩ rfl ?_
 refine .as (.ptr 1000 3) rfl ?_
 refine .q (op_load Tryd.underlying24 rfl rfl rfl rfl (by first | omega | (simp only [AV.len]; omega) | (simp only [AV.len]; omega) | assumption | (simp [AV.len]; done))) ⟨_, rfl, rfl⟩ rfl ?_
 refine .q (op_len_nil Tryd.underlying24 rfl) ⟨_, rfl, rfl⟩ rfl ?_
 refine .q (op_fieldAddr (m := 0) Tryd.underlying27 rfl (by kernel_rfl) rfl) ⟨_, rfl, rfl⟩ rfl ?_
 refine .as (.ptr 1008 3) rfl ?_
 refine .q (op_load Tryd.underlying24 rfl rfl rfl rfl (by first | omega | (simp only [AV.len]; omega) | (simp only [AV.len]; omega) | assumption | (simp [AV.len]; done))) ⟨_, rfl, rfl⟩ rfl ?_
 refine .q (op_len_nil Tryd.underlying24 rfl) ⟨_, rfl, rfl⟩ rfl ?_
 refine .q (op_cmpI rfl rfl rfl) ⟨_, rfl, rfl⟩ rfl ?_
 refine .q (op_pick_false rfl rfl rfl) trivial rfl ?_
 refine .q (op_move rfl) trivial rfl ?_
 refine .know (b' := false) (bne_self_eq_false _) ?_
 refine .q (op_fieldAddr (m := 0) Tryd.underlying30 rfl (by kernel_rfl) rfl) ⟨_, rfl, rfl⟩ rfl ?_
 refine .as (.ptr 1000 4) rfl ?_
 refine .q (op_load Tryd.underlying25 rfl rfl rfl rfl (by first | omega | (simp only [AV.len]; omega) | (simp only [AV.len]; omega) | assumption | (simp [AV.len]; done))) ⟨_, rfl, rfl⟩ rfl ?_
 refine .q (op_len_nil Tryd.underlying25 rfl) ⟨_, rfl, rfl⟩ rfl ?_
 refine .q (op_fieldAddr (m := 0) Tryd.underlying27 rfl (by kernel_rfl) rfl) ⟨_, rfl, rfl⟩ rfl ?_
 refine .as (.ptr 1008 4) rfl ?_
 refine .q (op_load Tryd.underlying25 rfl rfl rfl rfl (by first | omega | (simp only [AV.len]; omega) | (simp only [AV.len]; omega) | assumption | (simp [AV.len]; done))) ⟨_, rfl, rfl⟩ rfl ?_
 refine .q (op_len_nil Tryd.underlying25 rfl) ⟨_, rfl, rfl⟩ rfl ?_
 refine .q (op_cmpI rfl rfl rfl) ⟨_, rfl, rfl⟩ rfl ?_
 refine .q (op_pick_false rfl rfl rfl) trivial rfl ?_
 refine .nil ?_
 show Ev _ _ _ _ _
 refine .cond_false rfl (bne_self_eq_false _) ?_
 refine .skip ?_
 show Ev _ _ _ _ _
 refine .seq ?_
 refine .seq ?_
 refine .region ?_
 refine .q (op_fieldAddr (m := 0) Tryd.underlying27 rfl (by kernel_rfl) rfl) trivial rfl ?_
 refine .as (.ptr 1008 1) rfl ?_
 refine .q (op_load Tryd.underlying22 rfl rfl rfl rfl (by first | omega | (simp only [AV.len]; omega) | (simp only [AV.len]; omega) | assumption | (simp [AV.len]; done))) trivial rfl ?_
 refine .q (op_len_sl Tryd.underlying22 rfl) trivial rfl ?_
 refine .q (op_move rfl) trivial rfl ?_
 refine .nil ?_
 show Ev _ _ _ _ _
 refine .block ?_
 refine Ev.loop (ι := { j : Nat // j ≤ nu }) (fun j => ⟨[(2, .ptr 1000 0), (3, .ptr 1008 0), (54, .i64 (nu : Int)), (55, .i64 ((j.1 : Nat) : Int))], [(1000, some ⟨.agg [.i64 (k), .sl 511 (0) (nu) 1, .sl 512 (0) (ns) 1, .nilsl, .nilsl], 30, true⟩), (1008, some ⟨.agg [.i64 (k), .sl 521 (0) (nu) 1, .sl 522 (0) (ns) 1, .nilsl, .nilsl], 27, true⟩), (511, some ⟨.agg32 us, 42, false⟩), (521, some ⟨.agg32 us, 42, false⟩), (512, some ⟨.aggS ss, 9, false⟩), (522, some ⟨.aggS ss, 9, false⟩)], 1016⟩) (fun j => nu - j.1) ⟨0, Nat.zero_le _⟩ (StLe.mk [(1000, 1000), (1008, 1008)] rfl rfl ⟨⟨_, rfl, by first | rfl | (simp only [AV.ren]; congr 1; omega), rfl⟩, ⟨_, rfl, by first | rfl | (simp only [AV.ren]; congr 1; omega), rfl⟩, ⟨_, rfl, by first | rfl | (simp only [AV.ren]; congr 1; omega), rfl⟩, ⟨_, rfl, by first | rfl | (simp only [AV.ren]; congr 1; omega), rfl⟩, trivial⟩ ⟨⟨_, _, rfl, rfl, by first | rfl | (simp only [AV.ren]; congr 1; omega), rfl, id, rfl⟩, ⟨_, _, rfl, rfl, by first | rfl | (simp only [AV.ren]; congr 1; omega), rfl, id, rfl⟩, ⟨_, _, rfl, rfl, by first | rfl | (simp only [AV.ren]; congr 1; omega), rfl, id, rfl⟩, ⟨_, _, rfl, rfl, by first | rfl | (simp only [AV.ren]; congr 1; omega), rfl, id, rfl⟩, ⟨_, _, rfl, rfl, by first | rfl | (simp only [AV.ren]; congr 1; omega), rfl, id, rfl⟩, ⟨_, _, rfl, rfl, by first | rfl | (simp only [AV.ren]; congr 1; omega), rfl, id, rfl⟩, trivial⟩) ?_
 rintro ⟨j, hj⟩
 dsimp only
 refine .seq ?_
 refine .region ?_
 refine .q (op_cmpI rfl rfl rfl) trivial rfl ?_
 refine .nil ?_
 show Ev _ _ _ _ _
 refine .seq ?_
 refine .cond rfl (fun hc56 => ?_) (fun hc56 => ?_)
 ·simp only [decide_eq_true_eq] at hc56
  refine .skip ?_
  show Ev _ _ _ _ _
  refine .seq ?_
  refine .block ?_
  refine .seq ?_
  refine .region ?_
  refine .q (op_move rfl) trivial rfl ?_
  refine .q (op_assign rfl) trivial rfl ?_
  refine .nil ?_
  show Ev _ _ _ _ _
  refine .seq ?_
  refine .drawn [[], [0], [], [0, 1, 2], [0, 1, 2, 3], [], [5], [], [5, 6, 7], [5, 6, 7, 8], [0, 1, 2, 3, 4, 5, 6, 7, 8, 9]] [1, 4, 6, 9] [] (by kernel_rfl) (by kernel_rfl) rfl ?_
  show DK _ [0, 1, 2, 3, 4, 5, 6, 7, 8, 9, 10] _ _ _
  refine .q rfl (op_fieldAddr (m := 0) Tryd.underlying30 rfl (by kernel_rfl) rfl) trivial ?_
  refine .as (.ptr 1000 1) rfl ?_
  refine .q rfl (op_load Tryd.underlying22 rfl rfl rfl rfl (by first | omega | (simp only [AV.len]; omega) | (simp only [AV.len]; omega) | assumption | (simp [AV.len]; done))) trivial ?_
  refine .q rfl (op_move rfl) trivial ?_
  refine .q rfl (ap_idx0 Tryd.underlying22 inf42.sz rfl rfl rfl (by omega)) trivial ?_
  refine .q rfl (op_load Tryd.underlying42 rfl rfl rfl rfl (by show j < us.length; omega)) trivial ?_
  refine .q rfl (op_fieldAddr (m := 0) Tryd.underlying27 rfl (by kernel_rfl) rfl) trivial ?_
  refine .as (.ptr 1008 1) rfl ?_
  refine .q rfl (op_load Tryd.underlying22 rfl rfl rfl rfl (by first | omega | (simp only [AV.len]; omega) | (simp only [AV.len]; omega) | assumption | (simp [AV.len]; done))) trivial ?_
  refine .q rfl (op_move rfl) trivial ?_
  refine .q rfl (ap_idx0 Tryd.underlying22 inf42.sz rfl rfl rfl (by omega)) trivial ?_
  refine .q rfl (op_load Tryd.underlying42 rfl rfl rfl rfl (by show j < us.length; omega)) trivial ?_
  refine .q rfl (op_bin32 rfl rfl rfl) trivial ?_
  refine .nil ?_
  show Ev _ _ _ _ _
  refine .cond_false rfl (by simp) ?_
  refine .skip ?_
  show Ev _ _ _ _ _
  refine .region ?_
  refine .q (op_addI rfl rfl ⟨by omega, by omega⟩) trivial rfl ?_
  refine .q (op_move rfl) trivial rfl ?_
  refine .nil ?_
  exact ⟨⟨j + 1, by omega⟩, by show nu - (j + 1) < nu - j; omega, StLe.mk [(1000, 1000), (1008, 1008)] rfl rfl ⟨⟨_, rfl, by first | rfl | (simp only [AV.ren]; congr 1; omega), rfl⟩, ⟨_, rfl, by first | rfl | (simp only [AV.ren]; congr 1; omega), rfl⟩, ⟨_, rfl, by first | rfl | (simp only [AV.ren]; congr 1; omega), rfl⟩, ⟨_, rfl, by first | rfl | (simp only [AV.ren]; congr 1; omega), rfl⟩, trivial⟩ ⟨⟨_, _, rfl, rfl, by first | rfl | (simp only [AV.ren]; congr 1; omega), rfl, id, rfl⟩, ⟨_, _, rfl, rfl, by first | rfl | (simp only [AV.ren]; congr 1; omega), rfl, id, rfl⟩, ⟨_, _, rfl, rfl, by first | rfl | (simp only [AV.ren]; congr 1; omega), rfl, id, rfl⟩, ⟨_, _, rfl, rfl, by first | rfl | (simp only [AV.ren]; congr 1; omega), rfl, id, rfl⟩, ⟨_, _, rfl, rfl, by first | rfl | (simp only [AV.ren]; congr 1; omega), rfl, id, rfl⟩, ⟨_, _, rfl, rfl, by first | rfl | (simp only [AV.ren]; congr 1; omega), rfl, id, rfl⟩, trivial⟩⟩
 ·simp only [decide_eq_false_iff_not] at hc56
  refine .exit ?_
  show Ev _ _ _ _ _
  have ej : j = nu := by omega
  refine Ev.weak (st2 := ⟨[(2, .ptr 1000 0), (3, .ptr 1008 0), (54, .i64 (nu : Int)), (55, .i64 (((nu) : Nat) : Int))], [(1000, some ⟨.agg [.i64 (k), .sl 511 (0) (nu) 1, .sl 512 (0) (ns) 1, .nilsl, .nilsl], 30, true⟩), (1008, some ⟨.agg [.i64 (k), .sl 521 (0) (nu) 1, .sl 522 (0) (ns) 1, .nilsl, .nilsl], 27, true⟩), (511, some ⟨.agg32 us, 42, false⟩), (521, some ⟨.agg32 us, 42, false⟩), (512, some ⟨.aggS ss, 9, false⟩), (522, some ⟨.aggS ss, 9, false⟩)], 1016⟩) (StLe.mk [(1000, 1000), (1008, 1008)] rfl rfl ⟨⟨_, rfl, by first | (simp only [AV.ren]; done) | (simp only [AV.ren]; rw [ej]; done) | rfl, rfl⟩, ⟨_, rfl, by first | (simp only [AV.ren]; done) | (simp only [AV.ren]; rw [ej]; done) | rfl, rfl⟩, ⟨_, rfl, by first | (simp only [AV.ren]; done) | (simp only [AV.ren]; rw [ej]; done) | rfl, rfl⟩, ⟨_, rfl, by first | (simp only [AV.ren]; done) | (simp only [AV.ren]; rw [ej]; done) | rfl, rfl⟩, trivial⟩ ⟨⟨_, _, rfl, rfl, by first | (simp only [AV.ren]; done) | (simp only [AV.ren]; rw [ej]; done) | rfl, rfl, id, rfl⟩, ⟨_, _, rfl, rfl, by first | (simp only [AV.ren]; done) | (simp only [AV.ren]; rw [ej]; done) | rfl, rfl, id, rfl⟩, ⟨_, _, rfl, rfl, by first | (simp only [AV.ren]; done) | (simp only [AV.ren]; rw [ej]; done) | rfl, rfl, id, rfl⟩, ⟨_, _, rfl, rfl, by first | (simp only [AV.ren]; done) | (simp only [AV.ren]; rw [ej]; done) | rfl, rfl, id, rfl⟩, ⟨_, _, rfl, rfl, by first | (simp only [AV.ren]; done) | (simp only [AV.ren]; rw [ej]; done) | rfl, rfl, id, rfl⟩, ⟨_, _, rfl, rfl, by first | (simp only [AV.ren]; done) | (simp only [AV.ren]; rw [ej]; done) | rfl, rfl, id, rfl⟩, trivial⟩) ?_
  refine .seq ?_
  refine .seq ?_
  refine .region ?_
  refine .q (op_fieldAddr (m := 0) Tryd.underlying27 rfl (by kernel_rfl) rfl) trivial rfl ?_
  refine .as (.ptr 1008 2) rfl ?_
  refine .q (op_load Tryd.underlying23 rfl rfl rfl rfl (by first | omega | (simp only [AV.len]; omega) | (simp only [AV.len]; omega) | assumption | (simp [AV.len]; done))) trivial rfl ?_
  refine .q (op_len_sl Tryd.underlying23 rfl) trivial rfl ?_
  refine .q (op_move rfl) trivial rfl ?_
  refine .nil ?_
  show Ev _ _ _ _ _
  refine .block ?_
  refine Ev.loop (ι := { j : Nat // j ≤ ns }) (fun j => ⟨[(2, .ptr 1000 0), (3, .ptr 1008 0), (72, .i64 (ns : Int)), (73, .i64 ((j.1 : Nat) : Int))], [(1000, some ⟨.agg [.i64 (k), .sl 511 (0) (nu) 1, .sl 512 (0) (ns) 1, .nilsl, .nilsl], 30, true⟩), (1008, some ⟨.agg [.i64 (k), .sl 521 (0) (nu) 1, .sl 522 (0) (ns) 1, .nilsl, .nilsl], 27, true⟩), (511, some ⟨.agg32 us, 42, false⟩), (521, some ⟨.agg32 us, 42, false⟩), (512, some ⟨.aggS ss, 9, false⟩), (522, some ⟨.aggS ss, 9, false⟩)], 1016⟩) (fun j => ns - j.1) ⟨0, Nat.zero_le _⟩ (StLe.mk [(1000, 1000), (1008, 1008)] rfl rfl ⟨⟨_, rfl, by first | rfl | (simp only [AV.ren]; congr 1; omega), rfl⟩, ⟨_, rfl, by first | rfl | (simp only [AV.ren]; congr 1; omega), rfl⟩, ⟨_, rfl, by first | rfl | (simp only [AV.ren]; congr 1; omega), rfl⟩, ⟨_, rfl, by first | rfl | (simp only [AV.ren]; congr 1; omega), rfl⟩, trivial⟩ ⟨⟨_, _, rfl, rfl, by first | rfl | (simp only [AV.ren]; congr 1; omega), rfl, id, rfl⟩, ⟨_, _, rfl, rfl, by first | rfl | (simp only [AV.ren]; congr 1; omega), rfl, id, rfl⟩, ⟨_, _, rfl, rfl, by first | rfl | (simp only [AV.ren]; congr 1; omega), rfl, id, rfl⟩, ⟨_, _, rfl, rfl, by first | rfl | (simp only [AV.ren]; congr 1; omega), rfl, id, rfl⟩, ⟨_, _, rfl, rfl, by first | rfl | (simp only [AV.ren]; congr 1; omega), rfl, id, rfl⟩, ⟨_, _, rfl, rfl, by first | rfl | (simp only [AV.ren]; congr 1; omega), rfl, id, rfl⟩, trivial⟩) ?_
  rintro ⟨j, hj⟩
  dsimp only
  refine .seq ?_
  refine .region ?_
  refine .q (op_cmpI rfl rfl rfl) trivial rfl ?_
  refine .nil ?_
  show Ev _ _ _ _ _
  refine .seq ?_
  refine .cond rfl (fun hc74 => ?_) (fun hc74 => ?_)
  ·simp only [decide_eq_true_eq] at hc74
   refine .skip ?_
   show Ev _ _ _ _ _
   refine .seq ?_
   refine .block ?_
   refine .seq ?_
   refine .region ?_
   refine .q (op_move rfl) trivial rfl ?_
   refine .q (op_assign rfl) trivial rfl ?_
   refine .nil ?_
   show Ev _ _ _ _ _
   refine .seq ?_
   refine .drawn [[], [0], [], [0, 1, 2], [0, 1, 2, 3], [], [5], [], [5, 6, 7], [5, 6, 7, 8], [0, 1, 2, 3, 4, 5, 6, 7, 8, 9]] [1, 4, 6, 9] [] (by kernel_rfl) (by kernel_rfl) rfl ?_
   show DK _ [0, 1, 2, 3, 4, 5, 6, 7, 8, 9, 10] _ _ _
   refine .q rfl (op_fieldAddr (m := 0) Tryd.underlying30 rfl (by kernel_rfl) rfl) trivial ?_
   refine .as (.ptr 1000 2) rfl ?_
   refine .q rfl (op_load Tryd.underlying23 rfl rfl rfl rfl (by first | omega | (simp only [AV.len]; omega) | (simp only [AV.len]; omega) | assumption | (simp [AV.len]; done))) trivial ?_
   refine .q rfl (op_move rfl) trivial ?_
   refine .q rfl (ap_idx0 Tryd.underlying23 inf9.sz rfl rfl rfl (by omega)) trivial ?_
   refine .q rfl (op_load Tryd.underlying9 rfl rfl rfl rfl (by show j < ss.length; omega)) trivial ?_
   refine .q rfl (op_fieldAddr (m := 0) Tryd.underlying27 rfl (by kernel_rfl) rfl) trivial ?_
   refine .as (.ptr 1008 2) rfl ?_
   refine .q rfl (op_load Tryd.underlying23 rfl rfl rfl rfl (by first | omega | (simp only [AV.len]; omega) | (simp only [AV.len]; omega) | assumption | (simp [AV.len]; done))) trivial ?_
   refine .q rfl (op_move rfl) trivial ?_
   refine .q rfl (ap_idx0 Tryd.underlying23 inf9.sz rfl rfl rfl (by omega)) trivial ?_
   refine .q rfl (op_load Tryd.underlying9 rfl rfl rfl rfl (by show j < ss.length; omega)) trivial ?_
   refine .q rfl (op_eqS rfl rfl rfl) trivial ?_
   refine .nil ?_
   show Ev _ _ _ _ _
   refine .cond_false rfl (by simp) ?_
   refine .skip ?_
   show Ev _ _ _ _ _
   refine .region ?_
   refine .q (op_addI rfl rfl ⟨by omega, by omega⟩) trivial rfl ?_
   refine .q (op_move rfl) trivial rfl ?_
   refine .nil ?_
   exact ⟨⟨j + 1, by omega⟩, by show ns - (j + 1) < ns - j; omega, StLe.mk [(1000, 1000), (1008, 1008)] rfl rfl ⟨⟨_, rfl, by first | rfl | (simp only [AV.ren]; congr 1; omega), rfl⟩, ⟨_, rfl, by first | rfl | (simp only [AV.ren]; congr 1; omega), rfl⟩, ⟨_, rfl, by first | rfl | (simp only [AV.ren]; congr 1; omega), rfl⟩, ⟨_, rfl, by first | rfl | (simp only [AV.ren]; congr 1; omega), rfl⟩, trivial⟩ ⟨⟨_, _, rfl, rfl, by first | rfl | (simp only [AV.ren]; congr 1; omega), rfl, id, rfl⟩, ⟨_, _, rfl, rfl, by first | rfl | (simp only [AV.ren]; congr 1; omega), rfl, id, rfl⟩, ⟨_, _, rfl, rfl, by first | rfl | (simp only [AV.ren]; congr 1; omega), rfl, id, rfl⟩, ⟨_, _, rfl, rfl, by first | rfl | (simp only [AV.ren]; congr 1; omega), rfl, id, rfl⟩, ⟨_, _, rfl, rfl, by first | rfl | (simp only [AV.ren]; congr 1; omega), rfl, id, rfl⟩, ⟨_, _, rfl, rfl, by first | rfl | (simp only [AV.ren]; congr 1; omega), rfl, id, rfl⟩, trivial⟩⟩
  ·simp only [decide_eq_false_iff_not] at hc74
   refine .exit ?_
   show Ev _ _ _ _ _
   have ej : j = ns := by omega
   refine Ev.weak (st2 := ⟨[(2, .ptr 1000 0), (3, .ptr 1008 0), (72, .i64 (ns : Int)), (73, .i64 (((ns) : Nat) : Int))], [(1000, some ⟨.agg [.i64 (k), .sl 511 (0) (nu) 1, .sl 512 (0) (ns) 1, .nilsl, .nilsl], 30, true⟩), (1008, some ⟨.agg [.i64 (k), .sl 521 (0) (nu) 1, .sl 522 (0) (ns) 1, .nilsl, .nilsl], 27, true⟩), (511, some ⟨.agg32 us, 42, false⟩), (521, some ⟨.agg32 us, 42, false⟩), (512, some ⟨.aggS ss, 9, false⟩), (522, some ⟨.aggS ss, 9, false⟩)], 1016⟩) (StLe.mk [(1000, 1000), (1008, 1008)] rfl rfl ⟨⟨_, rfl, by first | (simp only [AV.ren]; done) | (simp only [AV.ren]; rw [ej]; done) | rfl, rfl⟩, ⟨_, rfl, by first | (simp only [AV.ren]; done) | (simp only [AV.ren]; rw [ej]; done) | rfl, rfl⟩, ⟨_, rfl, by first | (simp only [AV.ren]; done) | (simp only [AV.ren]; rw [ej]; done) | rfl, rfl⟩, ⟨_, rfl, by first | (simp only [AV.ren]; done) | (simp only [AV.ren]; rw [ej]; done) | rfl, rfl⟩, trivial⟩ ⟨⟨_, _, rfl, rfl, by first | (simp only [AV.ren]; done) | (simp only [AV.ren]; rw [ej]; done) | rfl, rfl, id, rfl⟩, ⟨_, _, rfl, rfl, by first | (simp only [AV.ren]; done) | (simp only [AV.ren]; rw [ej]; done) | rfl, rfl, id, rfl⟩, ⟨_, _, rfl, rfl, by first | (simp only [AV.ren]; done) | (simp only [AV.ren]; rw [ej]; done) | rfl, rfl, id, rfl⟩, ⟨_, _, rfl, rfl, by first | (simp only [AV.ren]; done) | (simp only [AV.ren]; rw [ej]; done) | rfl, rfl, id, rfl⟩, ⟨_, _, rfl, rfl, by first | (simp only [AV.ren]; done) | (simp only [AV.ren]; rw [ej]; done) | rfl, rfl, id, rfl⟩, ⟨_, _, rfl, rfl, by first | (simp only [AV.ren]; done) | (simp only [AV.ren]; rw [ej]; done) | rfl, rfl, id, rfl⟩, trivial⟩) ?_
   refine .seq ?_
   refine .seq ?_
   refine .region ?_
   refine .q (op_fieldAddr (m := 0) Tryd.underlying27 rfl (by kernel_rfl) rfl) trivial rfl ?_
   refine .as (.ptr 1008 4) rfl ?_
   refine .q (op_load Tryd.underlying25 rfl rfl rfl rfl (by first | omega | (simp only [AV.len]; omega) | (simp only [AV.len]; omega) | assumption | (simp [AV.len]; done))) trivial rfl ?_
   refine .q (op_len_nil Tryd.underlying25 rfl) trivial rfl ?_
   refine .q (op_move rfl) trivial rfl ?_
   refine .nil ?_
   show Ev _ _ _ _ _
   refine .block ?_
   refine Ev.rounds 1 ?_
   show Ev _ _ _ _ _
   refine .seq ?_
   refine .region ?_
   refine .q (op_cmpI rfl rfl rfl) trivial rfl ?_
   refine .nil ?_
   show Ev _ _ _ _ _
   refine .seq ?_
   refine .cond_false rfl (rfl) ?_
   refine .exit ?_
   show Ev _ _ _ _ _
   refine .seq ?_
   refine .seq ?_
   refine .region ?_
   refine .q (op_fieldAddr (m := 0) Tryd.underlying27 rfl (by kernel_rfl) rfl) trivial rfl ?_
   refine .as (.ptr 1008 3) rfl ?_
   refine .q (op_load Tryd.underlying24 rfl rfl rfl rfl (by first | omega | (simp only [AV.len]; omega) | (simp only [AV.len]; omega) | assumption | (simp [AV.len]; done))) trivial rfl ?_
   refine .q (op_len_nil Tryd.underlying24 rfl) trivial rfl ?_
   refine .q (op_move rfl) trivial rfl ?_
   refine .nil ?_
   show Ev _ _ _ _ _
   refine .block ?_
   refine Ev.rounds 1 ?_
   show Ev _ _ _ _ _
   refine .seq ?_
   refine .region ?_
   refine .q (op_cmpI rfl rfl rfl) trivial rfl ?_
   refine .nil ?_
   show Ev _ _ _ _ _
   refine .seq ?_
   refine .cond_false rfl (rfl) ?_
   refine .exit ?_
   show Ev _ _ _ _ _
   refine .seq ?_
   refine .region ?_
   refine .q (op_assign rfl) trivial rfl ?_
   refine .nil ?_
   show Ev _ _ _ _ _
   refine .ret ?_
   show RetOk _ _ _ _ _ _ _
   exact ret1v rfl (.inl rfl) rfl (rfl) ⟨rfl, rfl, rfl, rfl, trivial⟩
theorem parse_a10 (eo : Nat → Nat × Nat) : Meets Tryd.prog 11 [.str a10] [(1, some ⟨.agg [.err 131 (2) (offE eo (2))], errT, false⟩), (3, some ⟨.agg [.err 131 (4) (offE eo (4))], errT, false⟩), (2, some ⟨.agg [.err 131 (3) (offE eo (3))], errT, false⟩), (20, some ⟨.agg kindCells, errT, false⟩)] (.tup [.agg [.i64 (94), .sl 1032 (0) (1) 1, .sl 1040 (0) (1) 1, .nilsl, .nilsl], .val .nilIface]) [(1032, some ⟨.agg32 [7], 42, true⟩), (1040, some ⟨.aggS [[97, 98]], 9, true⟩)] := by
 have h := parse_94 a10 (by decide) (by decide +kernel) (by decide +kernel) (by decide +kernel) eo
 rw [show (u32D ((byteD (DI.mk a10 0)).1)).2 = 7 by decide +kernel, show (textD ((u32D ((byteD (DI.mk a10 0)).1)).1) 32768).2 = [97, 98] by decide +kernel] at h
 exact h
set_option maxRecDepth 100000 in
theorem awake10_ev (eo : Nat → Nat × Nat) : Meets Tryd.prog 4 [] [(1, some ⟨.agg [.err 131 (2) (offE eo (2))], errT, false⟩), (3, some ⟨.agg [.err 131 (4) (offE eo (4))], errT, false⟩), (2, some ⟨.agg [.err 131 (3) (offE eo (3))], errT, false⟩), (20, some ⟨.agg kindCells, errT, false⟩)] (.bool true) [] := by
 refine meets_of_ev (nt := 27) Tryd.func4 rfl rfl (Nat.le_of_ble_eq_true rfl) ?_
 refine .seq ?_
 refine .region ?_
 refine .q (op_assign rfl) trivial rfl ?_
 refine .nil ?_
 show Ev _ _ _ _ _
 refine .seq ?_
 refine .region ?_
 refine .a (ap_build (us := [_]) (c := .agg32 [_]) Tryd.underlying22 inf42 rfl (by decide) (by decide) ⟨rfl, rfl, rfl, trivial⟩ rfl) trivial rfl ?_
 refine .a (ap_build (us := [_]) (c := .aggS [_]) Tryd.underlying23 inf9 rfl (by decide) (by decide) ⟨rfl, rfl, rfl, trivial⟩ rfl) trivial rfl ?_
 refine .q (op_buildS (r := .agg [.i64 (94), .sl 1000 (0) (1) 1, .sl 1008 (0) (1) 1, .nilsl, .nilsl]) Tryd.underlying30 rfl zero30 rel_zero30 rfl rfl rfl rfl) trivial rfl ?_
 refine .a (op_allocRow zero30 rel_zero30 rfl) trivial rfl ?_
 refine .w (op_storeRow (by kernel_rfl) rfl rfl rfl rfl rfl (rfl) (rfl)) trivial rfl ?_
 refine .nil ?_
 show Ev _ _ _ _ _
 refine .seq ?_
 refine .region ?_
 refine .a (op_call (U := [(1024, some ⟨.agg32 [7], 42, true⟩), (1025, some ⟨.aggS [[97, 98]], 9, true⟩)]) [] [(1024, 1032), (1025, 1040)] (parse_a10 eo) Tryd.func11 (by kernel_rfl) rfl rfl rfl (⟨⟨_, rfl, rfl, rfl⟩, trivial⟩) (⟨⟨_, _, rfl, rfl, rfl, rfl, (fun h => by cases h), rfl⟩, ⟨_, _, rfl, rfl, rfl, rfl, (fun h => by cases h), rfl⟩, ⟨_, _, rfl, rfl, rfl, rfl, (fun h => by cases h), rfl⟩, ⟨_, _, rfl, rfl, rfl, rfl, (fun h => by cases h), rfl⟩, trivial⟩) (⟨⟨1032, _, rfl, rfl, rfl, rfl, .inl rfl⟩, ⟨1040, _, rfl, rfl, rfl, rfl, .inl rfl⟩, trivial⟩) (⟨(fun h => by cases h), (fun h => by cases h), (fun h => by cases h), (fun h => by cases h), trivial⟩) rfl) trivial rfl ?_
 refine .q (op_move rfl) trivial rfl ?_
 refine .q (op_extract rfl rfl) trivial rfl ?_
 refine .q (op_extract rfl rfl) trivial rfl ?_
 refine .a (op_allocRow zero30 rel_zero30 rfl) trivial rfl ?_
 refine .w (op_storeRow (by kernel_rfl) rfl rfl rfl rfl rfl (rfl) (rfl)) trivial rfl ?_
 refine .q (op_assign rfl) trivial rfl ?_
 refine .nil ?_
 show Ev _ _ _ _ _
 refine .seq ?_
 refine .region ?_
 refine .q (op_loadRow Tryd.underlying30 rfl (by kernel_rfl) rfl rfl rfl (rfl)) trivial rfl ?_
 refine .q (op_call (U := []) [(511, 1000), (512, 1008)] [] (bytes_94 [7] rfl [[97, 98]] rfl (by decide)) Tryd.func9 (by kernel_rfl) rfl rfl rfl (⟨⟨_, rfl, rfl, rfl⟩, trivial⟩) (⟨⟨_, _, rfl, rfl, rfl, rfl, (fun h => by cases h), rfl⟩, ⟨_, _, rfl, rfl, rfl, rfl, (fun h => by cases h), rfl⟩, ⟨_, _, rfl, rfl, rfl, rfl, (fun h => by cases h), rfl⟩, trivial⟩) (trivial) (⟨(fun h => by cases h), (fun h => by cases h), (fun h => by cases h), trivial⟩) rfl) trivial rfl ?_
 refine .q (op_eqS rfl rfl rfl) trivial rfl ?_
 refine .q (op_move rfl) trivial rfl ?_
 refine .know (b' := true) (by decide +kernel) ?_
 refine .q (op_move rfl) ⟨_, rfl, rfl⟩ rfl ?_
 refine .q (op_eqNilNil Tryd.underlying33 rfl rfl) ⟨_, rfl, rfl⟩ rfl ?_
 refine .q (op_pick_true rfl rfl rfl) trivial rfl ?_
 refine .q (op_move rfl) trivial rfl ?_
 refine .know (b' := true) (rfl) ?_
 refine .q (op_loadRow Tryd.underlying30 rfl (by kernel_rfl) rfl rfl rfl (rfl)) ⟨_, rfl, rfl⟩ rfl ?_
 refine .q (op_loadRow Tryd.underlying30 rfl (by kernel_rfl) rfl rfl rfl (rfl)) ⟨_, rfl, rfl⟩ rfl ?_
 refine .q (op_call (U := []) [(511, 1024), (521, 1000), (512, 1025), (522, 1008)] [] (same_US 94 1 1 [7] (by rfl) (by decide) [[97, 98]] (by rfl) (by decide)) Tryd.func12 (by kernel_rfl) rfl rfl rfl (⟨⟨_, rfl, rfl, rfl⟩, ⟨_, rfl, rfl, rfl⟩, trivial⟩) (⟨⟨_, _, rfl, rfl, rfl, rfl, (fun h => by cases h), rfl⟩, ⟨_, _, rfl, rfl, rfl, rfl, (fun h => by cases h), rfl⟩, ⟨_, _, rfl, rfl, rfl, rfl, (fun h => by cases h), rfl⟩, ⟨_, _, rfl, rfl, rfl, rfl, (fun h => by cases h), rfl⟩, trivial⟩) (trivial) (⟨(fun h => by cases h), (fun h => by cases h), (fun h => by cases h), (fun h => by cases h), trivial⟩) rfl) ⟨_, rfl, rfl⟩ rfl ?_
 refine .q (op_pick_true rfl rfl rfl) trivial rfl ?_
 refine .q (op_move rfl) trivial rfl ?_
 refine .know (b' := true) (rfl) ?_
 refine .q (op_call (U := []) [] [] (kname_ev 20) Tryd.func13 (by kernel_rfl) rfl rfl rfl (⟨⟨_, rfl, rfl, rfl⟩, trivial⟩) (⟨⟨_, _, rfl, rfl, rfl, rfl, (fun h => by cases h), rfl⟩, trivial⟩) (trivial) (⟨(fun h => by cases h), trivial⟩) rfl) ⟨_, rfl, rfl⟩ rfl ?_
 refine .q (op_eqS rfl rfl rfl) ⟨_, rfl, rfl⟩ rfl ?_
 refine .q (op_pick_true rfl rfl rfl) trivial rfl ?_
 refine .q (op_assign rfl) trivial rfl ?_
 refine .nil ?_
 show Ev _ _ _ _ _
 refine .ret ?_
 show RetOk _ _ _ _ _ _ _
 exact ret1v rfl (.inl rfl) rfl (congrArg AV.bool (by decide +kernel)) trivial
end Go.Proofs.YtenocbhlbgcnfaaDoor
