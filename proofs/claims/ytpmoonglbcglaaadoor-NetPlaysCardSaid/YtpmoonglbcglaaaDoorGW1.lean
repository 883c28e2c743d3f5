/-
  Texts of this claim.
-/
import Derived.Test.YtpmoonglbcglaaaDoorGWX
namespace Go.Proofs.YtpmoonglbcglaaaDoor
open Go.RowKit
set_option maxRecDepth 100000 in
theorem blen_nil0 (most : Int) (z : Option BX) (r : Int) : Meets Tryd.prog 19 [.ptr 500 2] [(500, some ⟨row0 most (.nilsl) (0) (r) 502 z, 51, false⟩)] (.i64 0) [(500, some ⟨row0 most (.nilsl) (0) (r) 502 z, 51, false⟩)] := by
 refine meets_of_ev (nt := 13) Tryd.func19 rfl rfl (Nat.le_of_ble_eq_true rfl) ?_
 refine .seq ?_
 refine .region ?_
 refine .q (op_assign rfl) trivial rfl ?_
 refine .nil ?_
 show Ev _ _ _ _ _
 refine .seq ?_
 refine .drawn [[], [0], [0, 1], [0, 1, 2], [0, 1, 2, 3], [], [5], [5, 6], [5, 6, 7], [0, 1, 2, 3, 4, 5, 6, 7, 8], [0, 1, 2, 3, 4, 5, 6, 7, 8, 9]] [3, 8] [] (by kernel_rfl) (by kernel_rfl) rfl ?_
 show DK _ [0, 1, 2, 3, 4, 5, 6, 7, 8, 9, 10] _ _ _
 refine .q rfl (op_move rfl) trivial ?_
 refine .q rfl (op_nilCheck rfl) trivial ?_
 refine .q rfl (op_fieldAddr (m := 0) Tryd.underlying48 rfl (by kernel_rfl) rfl) trivial ?_
 refine .as (.ptr 500 2) rfl ?_
 refine .q rfl (op_load Tryd.underlying38 rfl rfl rfl rfl (by show 2 < 8; decide)) trivial ?_
 refine .q rfl (op_len_nil Tryd.underlying38 rfl) trivial ?_
 refine .q rfl (op_move rfl) trivial ?_
 refine .q rfl (op_nilCheck rfl) trivial ?_
 refine .q rfl (op_fieldAddr (m := 0) Tryd.underlying48 rfl (by kernel_rfl) rfl) trivial ?_
 refine .as (.ptr 500 3) rfl ?_
 refine .q rfl (op_load Tryd.underlying3 rfl rfl rfl rfl (by show 3 < 8; decide)) trivial ?_
 refine .q rfl (op_subI rfl rfl ⟨by omega, by omega⟩) trivial ?_
 refine .q rfl (op_assign rfl) trivial ?_
 refine .nil ?_
 show Ev _ _ _ _ _
 refine .ret ?_
 show RetOk _ _ _ _ _ _ _
 exact ret1v rfl (.inl rfl) rfl (rfl) ⟨rfl, trivial⟩
set_option maxRecDepth 100000 in
theorem blen_ev0 (most : Int) (z : Option BX) (r : Int) (n o c : Nat) (hn : n ≤ 1000000000) (ho : o ≤ n) : Meets Tryd.prog 19 [.ptr 500 2] [(500, some ⟨row0 most (.slk 501 0 (n) (c) true) ((o : Int)) (r) 502 z, 51, false⟩)] (.i64 ((n : Int) - (o : Int))) [(500, some ⟨row0 most (.slk 501 0 (n) (c) true) ((o : Int)) (r) 502 z, 51, false⟩)] := by
 refine meets_of_ev (nt := 13) Tryd.func19 rfl rfl (Nat.le_of_ble_eq_true rfl) ?_
 refine .seq ?_
 refine .region ?_
 refine .q (op_assign rfl) trivial rfl ?_
 refine .nil ?_
 show Ev _ _ _ _ _
 refine .seq ?_
 refine .drawn [[], [0], [0, 1], [0, 1, 2], [0, 1, 2, 3], [], [5], [5, 6], [5, 6, 7], [0, 1, 2, 3, 4, 5, 6, 7, 8], [0, 1, 2, 3, 4, 5, 6, 7, 8, 9]] [3, 8] [] (by kernel_rfl) (by kernel_rfl) rfl ?_
 show DK _ [0, 1, 2, 3, 4, 5, 6, 7, 8, 9, 10] _ _ _
 refine .q rfl (op_move rfl) trivial ?_
 refine .q rfl (op_nilCheck rfl) trivial ?_
 refine .q rfl (op_fieldAddr (m := 0) Tryd.underlying48 rfl (by kernel_rfl) rfl) trivial ?_
 refine .as (.ptr 500 2) rfl ?_
 refine .q rfl (op_load Tryd.underlying38 rfl rfl rfl rfl (by show 2 < 8; decide)) trivial ?_
 refine .q rfl (op_len_slk Tryd.underlying38 rfl) trivial ?_
 refine .q rfl (op_move rfl) trivial ?_
 refine .q rfl (op_nilCheck rfl) trivial ?_
 refine .q rfl (op_fieldAddr (m := 0) Tryd.underlying48 rfl (by kernel_rfl) rfl) trivial ?_
 refine .as (.ptr 500 3) rfl ?_
 refine .q rfl (op_load Tryd.underlying3 rfl rfl rfl rfl (by show 3 < 8; decide)) trivial ?_
 refine .q rfl (op_subI rfl rfl ⟨by omega, by omega⟩) trivial ?_
 refine .q rfl (op_assign rfl) trivial ?_
 refine .nil ?_
 show Ev _ _ _ _ _
 refine .ret ?_
 show RetOk _ _ _ _ _ _ _
 exact ret1v rfl (.inl rfl) rfl (rfl) ⟨rfl, trivial⟩
set_option maxRecDepth 100000 in
theorem tg_nil0 (most : Int) (z : Option BX) (r : Int) (n : Nat) (h : 0 < n) : Meets Tryd.prog 23 [.ptr 500 2, .i64 (n : Int)] [(500, some ⟨row0 most (.nilsl) (0) (r) 502 z, 51, false⟩)] (.tup [.i64 0, .bool false]) [(500, some ⟨row0 most (.nilsl) (0) (r) 502 z, 51, false⟩)] := by
 refine meets_of_ev (nt := 33) Tryd.func23 rfl rfl (Nat.le_of_ble_eq_true rfl) ?_
 refine .seq ?_
 refine .region ?_
 refine .q (op_assign rfl) trivial rfl ?_
 refine .q (op_assign rfl) trivial rfl ?_
 refine .nil ?_
 show Ev _ _ _ _ _
 refine .seq ?_
 refine .seq ?_
 refine .region ?_
 refine .q (op_move rfl) trivial rfl ?_
 refine .q (op_nilCheck rfl) trivial rfl ?_
 refine .q (op_fieldAddr (m := 0) Tryd.underlying48 rfl (by kernel_rfl) rfl) trivial rfl ?_
 refine .as (.ptr 500 2) rfl ?_
 refine .q (op_load Tryd.underlying38 rfl rfl rfl rfl (by show 2 < 8; decide)) trivial rfl ?_
 refine .q (op_len_nil Tryd.underlying38 rfl) trivial rfl ?_
 refine .q (op_assign rfl) trivial rfl ?_
 refine .nil ?_
 show Ev _ _ _ _ _
 refine .seq ?_
 refine .region ?_
 refine .q (op_move rfl) trivial rfl ?_
 refine .q (op_move rfl) trivial rfl ?_
 refine .q (op_nilCheck rfl) trivial rfl ?_
 refine .q (op_fieldAddr (m := 0) Tryd.underlying48 rfl (by kernel_rfl) rfl) trivial rfl ?_
 refine .as (.ptr 500 2) rfl ?_
 refine .q (op_load Tryd.underlying38 rfl rfl rfl rfl (by show 2 < 8; decide)) trivial rfl ?_
 refine .q (op_cap_nil Tryd.underlying38 rfl) trivial rfl ?_
 refine .q (op_move rfl) trivial rfl ?_
 refine .q (op_subI rfl rfl ⟨by omega, by omega⟩) trivial rfl ?_
 refine .q (op_cmpI rfl rfl rfl) trivial rfl ?_
 refine .nil ?_
 show Ev _ _ _ _ _
 refine .cond_false rfl (decide_eq_false (by omega)) ?_
 refine .skip ?_
 show Ev _ _ _ _ _
 refine .seq ?_
 refine .region ?_
 refine .q (op_assign rfl) trivial rfl ?_
 refine .q (op_assign rfl) trivial rfl ?_
 refine .nil ?_
 show Ev _ _ _ _ _
 refine .ret ?_
 show RetOk _ _ _ _ _ _ _
 exact ret2v rfl (.inl rfl) rfl rfl rfl rfl ⟨rfl, trivial⟩
set_option maxRecDepth 100000 in
theorem tg_yes0 (most : Int) (z : Option BX) (C L : Nat) (r : Int) (o : Int) (n : Nat) (hLC : L ≤ C) (hC : C ≤ 9223372036854775807) (hC0 : 0 < C) (hn : n ≤ 1000000000) (h : L + n ≤ C) : Meets Tryd.prog 23 [.ptr 500 2, .i64 (n : Int)] [(500, some ⟨row0 most (.slk 501 0 (L) (C) true) (o) (r) 502 z, 51, true⟩)] (.tup [.i64 (L : Int), .bool true]) [(500, some ⟨row0 most (.slk 501 0 (L + n) (C) true) (o) (r) 502 z, 51, true⟩)] := by
 refine meets_of_ev (nt := 33) Tryd.func23 rfl rfl (Nat.le_of_ble_eq_true rfl) ?_
 refine .seq ?_
 refine .region ?_
 refine .q (op_assign rfl) trivial rfl ?_
 refine .q (op_assign rfl) trivial rfl ?_
 refine .nil ?_
 show Ev _ _ _ _ _
 refine .seq ?_
 refine .seq ?_
 refine .region ?_
 refine .q (op_move rfl) trivial rfl ?_
 refine .q (op_nilCheck rfl) trivial rfl ?_
 refine .q (op_fieldAddr (m := 0) Tryd.underlying48 rfl (by kernel_rfl) rfl) trivial rfl ?_
 refine .as (.ptr 500 2) rfl ?_
 refine .q (op_load Tryd.underlying38 rfl rfl rfl rfl (by show 2 < 8; decide)) trivial rfl ?_
 refine .q (op_len_slk Tryd.underlying38 rfl) trivial rfl ?_
 refine .q (op_assign rfl) trivial rfl ?_
 refine .nil ?_
 show Ev _ _ _ _ _
 refine .seq ?_
 refine .region ?_
 refine .q (op_move rfl) trivial rfl ?_
 refine .q (op_move rfl) trivial rfl ?_
 refine .q (op_nilCheck rfl) trivial rfl ?_
 refine .q (op_fieldAddr (m := 0) Tryd.underlying48 rfl (by kernel_rfl) rfl) trivial rfl ?_
 refine .as (.ptr 500 2) rfl ?_
 refine .q (op_load Tryd.underlying38 rfl rfl rfl rfl (by show 2 < 8; decide)) trivial rfl ?_
 refine .q (op_cap_slk Tryd.underlying38 rfl) trivial rfl ?_
 refine .q (op_move rfl) trivial rfl ?_
 refine .q (op_subI rfl rfl ⟨by omega, by omega⟩) trivial rfl ?_
 refine .q (op_cmpI rfl rfl rfl) trivial rfl ?_
 refine .nil ?_
 show Ev _ _ _ _ _
 refine .cond_true rfl (decide_eq_true (by omega)) ?_
 refine .seq ?_
 refine .region ?_
 refine .q (op_move rfl) trivial rfl ?_
 refine .q (op_move rfl) trivial rfl ?_
 refine .q (op_nilCheck rfl) trivial rfl ?_
 refine .q (op_fieldAddr (m := 0) Tryd.underlying48 rfl (by kernel_rfl) rfl) trivial rfl ?_
 refine .as (.ptr 500 2) rfl ?_
 refine .q (op_load Tryd.underlying38 rfl rfl rfl rfl (by show 2 < 8; decide)) trivial rfl ?_
 refine .q (op_move rfl) trivial rfl ?_
 refine .q (op_move rfl) trivial rfl ?_
 refine .q (op_addI rfl rfl ⟨by omega, by omega⟩) trivial rfl ?_
 refine .q (op_slice_slk (l := 0) (h := L + n) Tryd.underlying38 inf5.sz rfl rfl (bnd_some rfl (by omega)) (by omega) (by omega) (by omega)) trivial rfl ?_
 refine .as (.slk 501 0 (L + n) C true) rfl ?_
 refine .q (op_nilCheck rfl) trivial rfl ?_
 refine .q (op_fieldAddr (m := 0) Tryd.underlying48 rfl (by kernel_rfl) rfl) trivial rfl ?_
 refine .as (.ptr 500 2) rfl ?_
 refine .w (op_store (by kernel_rfl) rfl rfl rfl rfl rfl (by show 2 < 8; decide)) trivial rfl ?_
 refine .nil ?_
 show Ev _ _ _ _ _
 refine .seq ?_
 refine .region ?_
 refine .q (op_move rfl) trivial rfl ?_
 refine .q (op_assign rfl) trivial rfl ?_
 refine .q (op_assign rfl) trivial rfl ?_
 refine .nil ?_
 show Ev _ _ _ _ _
 refine .ret ?_
 show RetOk _ _ _ _ _ _ _
 exact ret2v rfl (.inl rfl) rfl rfl rfl rfl ⟨rfl, trivial⟩
set_option maxRecDepth 100000 in
theorem tg_no0 (most : Int) (z : Option BX) (C L : Nat) (r : Int) (o : Int) (n : Nat) (hLC : L ≤ C) (hC : C ≤ 9223372036854775807) (hC0 : 0 < C) (hn : n ≤ 1000000000) (h : ¬ L + n ≤ C) : Meets Tryd.prog 23 [.ptr 500 2, .i64 (n : Int)] [(500, some ⟨row0 most (.slk 501 0 (L) (C) true) (o) (r) 502 z, 51, false⟩)] (.tup [.i64 0, .bool false]) [(500, some ⟨row0 most (.slk 501 0 (L) (C) true) (o) (r) 502 z, 51, false⟩)] := by
 refine meets_of_ev (nt := 33) Tryd.func23 rfl rfl (Nat.le_of_ble_eq_true rfl) ?_
 refine .seq ?_
 refine .region ?_
 refine .q (op_assign rfl) trivial rfl ?_
 refine .q (op_assign rfl) trivial rfl ?_
 refine .nil ?_
 show Ev _ _ _ _ _
 refine .seq ?_
 refine .seq ?_
 refine .region ?_
 refine .q (op_move rfl) trivial rfl ?_
 refine .q (op_nilCheck rfl) trivial rfl ?_
 refine .q (op_fieldAddr (m := 0) Tryd.underlying48 rfl (by kernel_rfl) rfl) trivial rfl ?_
 refine .as (.ptr 500 2) rfl ?_
 refine .q (op_load Tryd.underlying38 rfl rfl rfl rfl (by show 2 < 8; decide)) trivial rfl ?_
 refine .q (op_len_slk Tryd.underlying38 rfl) trivial rfl ?_
 refine .q (op_assign rfl) trivial rfl ?_
 refine .nil ?_
 show Ev _ _ _ _ _
 refine .seq ?_
 refine .region ?_
 refine .q (op_move rfl) trivial rfl ?_
 refine .q (op_move rfl) trivial rfl ?_
 refine .q (op_nilCheck rfl) trivial rfl ?_
 refine .q (op_fieldAddr (m := 0) Tryd.underlying48 rfl (by kernel_rfl) rfl) trivial rfl ?_
 refine .as (.ptr 500 2) rfl ?_
 refine .q (op_load Tryd.underlying38 rfl rfl rfl rfl (by show 2 < 8; decide)) trivial rfl ?_
 refine .q (op_cap_slk Tryd.underlying38 rfl) trivial rfl ?_
 refine .q (op_move rfl) trivial rfl ?_
 refine .q (op_subI rfl rfl ⟨by omega, by omega⟩) trivial rfl ?_
 refine .q (op_cmpI rfl rfl rfl) trivial rfl ?_
 refine .nil ?_
 show Ev _ _ _ _ _
 refine .cond_false rfl (decide_eq_false (by omega)) ?_
 refine .skip ?_
 show Ev _ _ _ _ _
 refine .seq ?_
 refine .region ?_
 refine .q (op_assign rfl) trivial rfl ?_
 refine .q (op_assign rfl) trivial rfl ?_
 refine .nil ?_
 show Ev _ _ _ _ _
 refine .ret ?_
 show RetOk _ _ _ _ _ _ _
 exact ret2v rfl (.inl rfl) rfl rfl rfl rfl ⟨rfl, trivial⟩
set_option maxRecDepth 100000 in
theorem reset_ev0 (most : Int) (z : Option BX) (C L : Nat) (r o : Int) (hLC : L ≤ C) (hC0 : 0 < C) : Meets Tryd.prog 27 [.ptr 500 2] [(500, some ⟨row0 most (.slk 501 0 (L) (C) true) (o) (r) 502 z, 51, true⟩)] (.tup []) [(500, some ⟨row0 most (.slk 501 0 (0) (C) true) (0) (0) 502 z, 51, true⟩)] := by
 refine meets_of_ev (nt := 16) Tryd.func27 rfl rfl (Nat.le_of_ble_eq_true rfl) ?_
 refine .seq ?_
 refine .region ?_
 refine .q (op_move rfl) trivial rfl ?_
 refine .q (op_move rfl) trivial rfl ?_
 refine .q (op_nilCheck rfl) trivial rfl ?_
 refine .q (op_fieldAddr (m := 0) Tryd.underlying48 rfl (by kernel_rfl) rfl) trivial rfl ?_
 refine .as (.ptr 500 2) rfl ?_
 refine .q (op_load Tryd.underlying38 rfl rfl rfl rfl (by show 2 < 8; decide)) trivial rfl ?_
 refine .q (op_slice_slk (l := 0) (h := 0) Tryd.underlying38 inf5.sz rfl rfl (bnd_some rfl (show (0 : Int) = ((0 : Nat) : Int) from rfl)) (by omega) (by omega) (by omega)) trivial rfl ?_
 refine .as (.slk 501 0 0 C true) rfl ?_
 refine .q (op_nilCheck rfl) trivial rfl ?_
 refine .q (op_fieldAddr (m := 0) Tryd.underlying48 rfl (by kernel_rfl) rfl) trivial rfl ?_
 refine .as (.ptr 500 2) rfl ?_
 refine .w (op_store (by kernel_rfl) rfl rfl rfl rfl rfl (by show 2 < 8; decide)) trivial rfl ?_
 refine .nil ?_
 show Ev _ _ _ _ _
 refine .seq ?_
 refine .region ?_
 refine .q (op_move rfl) trivial rfl ?_
 refine .q (op_nilCheck rfl) trivial rfl ?_
 refine .q (op_fieldAddr (m := 0) Tryd.underlying48 rfl (by kernel_rfl) rfl) trivial rfl ?_
 refine .as (.ptr 500 3) rfl ?_
 refine .w (op_store inf3.sz rfl rfl rfl rfl rfl (by show 3 < 8; decide)) trivial rfl ?_
 refine .nil ?_
 show Ev _ _ _ _ _
 refine .region ?_
 refine .q (op_move rfl) trivial rfl ?_
 refine .q (op_nilCheck rfl) trivial rfl ?_
 refine .q (op_fieldAddr (m := 0) Tryd.underlying48 rfl (by kernel_rfl) rfl) trivial rfl ?_
 refine .as (.ptr 500 4) rfl ?_
 refine .w (op_store (by kernel_rfl) rfl rfl rfl rfl rfl (by show 4 < 8; decide)) trivial rfl ?_
 refine .nil ?_
 show RetOk _ _ _ _ _ _ _
 exact ret0 rfl (.inr rfl) ⟨rfl, trivial⟩
set_option maxRecDepth 100000 in
theorem grow_nil0 (most : Int) (z : Option BX) (r : Int) (n : Nat) (h : 0 < n) (h64 : n ≤ 64) : Meets Tryd.prog 24 [.ptr 500 2, .i64 (n : Int)] [(500, some ⟨row0 most (.nilsl) (0) (r) 502 z, 51, true⟩)] (.i64 0) [(500, some ⟨row0 most (.slk 1000 0 (n) (64) true) (0) (r) 502 z, 51, true⟩), (1000, some ⟨.aggB z64, 5, true⟩)] := by
 refine meets_of_ev (nt := 110) Tryd.func24 rfl rfl (Nat.le_of_ble_eq_true rfl) ?_
 refine .seq ?_
 refine .region ?_
 refine .q (op_assign rfl) trivial rfl ?_
 refine .nil ?_
 show Ev _ _ _ _ _
 refine .seq ?_
 refine .region ?_
 refine .q (op_move rfl) trivial rfl ?_
 refine .q (op_call (U := []) [(500, 500), (502, 502)] [] (blen_nil0 most z r) Tryd.func19 (by kernel_rfl) rfl rfl rfl (⟨⟨_, rfl, rfl, rfl⟩, trivial⟩) (⟨⟨_, _, rfl, rfl, row0_ren _ _ _ _ _ _ _, rfl, (fun h => by cases h), row0_nmC _ _ _ _ _ _ _ rfl rfl⟩, trivial⟩) (trivial) (⟨(fun h => by cases h), trivial⟩) rfl) trivial rfl ?_
 refine .q (op_assign rfl) trivial rfl ?_
 refine .nil ?_
 show Ev _ _ _ _ _
 refine .seq ?_
 refine .seq ?_
 refine .region ?_
 refine .q (op_move rfl) trivial rfl ?_
 refine .q (op_cmpI rfl rfl rfl) trivial rfl ?_
 refine .q (op_move rfl) trivial rfl ?_
 refine .know (b' := true) (rfl) ?_
 refine .q (op_move rfl) ⟨_, rfl, rfl⟩ rfl ?_
 refine .q (op_nilCheck rfl) ⟨_, rfl, rfl⟩ rfl ?_
 refine .q (op_fieldAddr (m := 0) Tryd.underlying48 rfl (by kernel_rfl) rfl) ⟨_, rfl, rfl⟩ rfl ?_
 refine .as (.ptr 500 3) rfl ?_
 refine .q (op_load Tryd.underlying3 rfl rfl rfl rfl (by show 3 < 8; decide)) ⟨_, rfl, rfl⟩ rfl ?_
 refine .q (op_cmpI rfl rfl rfl) ⟨_, rfl, rfl⟩ rfl ?_
 refine .q (op_pick_true rfl rfl rfl) trivial rfl ?_
 refine .nil ?_
 show Ev _ _ _ _ _
 refine .cond_false rfl (rfl) ?_
 refine .skip ?_
 show Ev _ _ _ _ _
 refine .seq ?_
 refine .seq ?_
 refine .region ?_
 refine .q (op_move rfl) trivial rfl ?_
 refine .q (op_move rfl) trivial rfl ?_
 refine .q (op_call (U := []) [(500, 500), (502, 502)] [] (tg_nil0 most z r n h) Tryd.func23 (by kernel_rfl) rfl rfl rfl (⟨⟨_, rfl, rfl, rfl⟩, ⟨_, rfl, rfl, rfl⟩, trivial⟩) (⟨⟨_, _, rfl, rfl, row0_ren _ _ _ _ _ _ _, rfl, (fun h => by cases h), row0_nmC _ _ _ _ _ _ _ rfl rfl⟩, trivial⟩) (trivial) (⟨(fun h => by cases h), trivial⟩) rfl) trivial rfl ?_
 refine .q (op_move rfl) trivial rfl ?_
 refine .q (op_extract rfl rfl) trivial rfl ?_
 refine .q (op_extract rfl rfl) trivial rfl ?_
 refine .q (op_assign rfl) trivial rfl ?_
 refine .q (op_assign rfl) trivial rfl ?_
 refine .nil ?_
 show Ev _ _ _ _ _
 refine .seq ?_
 refine .region ?_
 refine .q (op_move rfl) trivial rfl ?_
 refine .nil ?_
 show Ev _ _ _ _ _
 refine .cond_false rfl (rfl) ?_
 refine .skip ?_
 show Ev _ _ _ _ _
 refine .seq ?_
 refine .seq ?_
 refine .region ?_
 refine .q (op_move rfl) trivial rfl ?_
 refine .q (op_nilCheck rfl) trivial rfl ?_
 refine .q (op_fieldAddr (m := 0) Tryd.underlying48 rfl (by kernel_rfl) rfl) trivial rfl ?_
 refine .as (.ptr 500 2) rfl ?_
 refine .q (op_load Tryd.underlying38 rfl rfl rfl rfl (by show 2 < 8; decide)) trivial rfl ?_
 refine .q (op_eqNilSl Tryd.underlying38 rfl) trivial rfl ?_
 refine .q (op_move rfl) trivial rfl ?_
 refine .know (b' := true) (rfl) ?_
 refine .q (op_move rfl) ⟨_, rfl, rfl⟩ rfl ?_
 refine .q (op_cmpI rfl rfl rfl) ⟨_, rfl, rfl⟩ rfl ?_
 refine .q (op_pick_true rfl rfl rfl) trivial rfl ?_
 refine .nil ?_
 show Ev _ _ _ _ _
 refine .cond_true rfl (decide_eq_true (by omega)) ?_
 refine .seq ?_
 refine .region ?_
 refine .q (op_move rfl) trivial rfl ?_
 refine .q (op_move rfl) trivial rfl ?_
 refine .a (op_makeCap (n := n) (cp := 64) (u := .u8 0) (c := .aggB z64) Tryd.underlying38 inf5 rfl rfl rfl rfl (by omega) (by decide) (rel_zero5) rfl rfl) trivial rfl ?_
 refine .q (op_nilCheck rfl) trivial rfl ?_
 refine .q (op_fieldAddr (m := 0) Tryd.underlying48 rfl (by kernel_rfl) rfl) trivial rfl ?_
 refine .as (.ptr 500 2) rfl ?_
 refine .w (op_store (by kernel_rfl) rfl rfl rfl rfl rfl (by show 2 < 8; decide)) trivial rfl ?_
 refine .nil ?_
 show Ev _ _ _ _ _
 refine .seq ?_
 refine .region ?_
 refine .q (op_assign rfl) trivial rfl ?_
 refine .nil ?_
 show Ev _ _ _ _ _
 refine .ret ?_
 show RetOk _ _ _ _ _ _ _
 exact ret1v rfl (.inl rfl) rfl (rfl) ⟨rfl, rfl, trivial⟩
set_option maxRecDepth 100000 in
theorem grow_nilbig0 (most : Int) (z : Option BX) (r : Int) (n : Nat) (h : 0 < n) (h64 : ¬ n ≤ 64) (hn : n ≤ 1000000) : Meets Tryd.prog 24 [.ptr 500 2, .i64 (n : Int)] [(500, some ⟨row0 most (.nilsl) (0) (r) 502 z, 51, true⟩)] (.i64 0) [(500, some ⟨row0 most (.slk 1128 0 n n false) (0) (r) 502 z, 51, true⟩), (1128, some ⟨.aggB (List.replicate n 0), 5, true⟩)] := by
 refine meets_of_ev (nt := 110) Tryd.func24 rfl rfl (Nat.le_of_ble_eq_true rfl) ?_
 refine .seq ?_
 refine .region ?_
 refine .q (op_assign rfl) trivial rfl ?_
 refine .nil ?_
 show Ev _ _ _ _ _
 refine .seq ?_
 refine .region ?_
 refine .q (op_move rfl) trivial rfl ?_
 refine .q (op_call (U := []) [(500, 500), (502, 502)] [] (blen_nil0 most z r) Tryd.func19 (by kernel_rfl) rfl rfl rfl (⟨⟨_, rfl, rfl, rfl⟩, trivial⟩) (⟨⟨_, _, rfl, rfl, row0_ren _ _ _ _ _ _ _, rfl, (fun h => by cases h), row0_nmC _ _ _ _ _ _ _ rfl rfl⟩, trivial⟩) (trivial) (⟨(fun h => by cases h), trivial⟩) rfl) trivial rfl ?_
 refine .q (op_assign rfl) trivial rfl ?_
 refine .nil ?_
 show Ev _ _ _ _ _
 refine .seq ?_
 refine .seq ?_
 refine .region ?_
 refine .q (op_move rfl) trivial rfl ?_
 refine .q (op_cmpI rfl rfl rfl) trivial rfl ?_
 refine .q (op_move rfl) trivial rfl ?_
 refine .know (b' := true) (rfl) ?_
 refine .q (op_move rfl) ⟨_, rfl, rfl⟩ rfl ?_
 refine .q (op_nilCheck rfl) ⟨_, rfl, rfl⟩ rfl ?_
 refine .q (op_fieldAddr (m := 0) Tryd.underlying48 rfl (by kernel_rfl) rfl) ⟨_, rfl, rfl⟩ rfl ?_
 refine .as (.ptr 500 3) rfl ?_
 refine .q (op_load Tryd.underlying3 rfl rfl rfl rfl (by show 3 < 8; decide)) ⟨_, rfl, rfl⟩ rfl ?_
 refine .q (op_cmpI rfl rfl rfl) ⟨_, rfl, rfl⟩ rfl ?_
 refine .q (op_pick_true rfl rfl rfl) trivial rfl ?_
 refine .nil ?_
 show Ev _ _ _ _ _
 refine .cond_false rfl (rfl) ?_
 refine .skip ?_
 show Ev _ _ _ _ _
 refine .seq ?_
 refine .seq ?_
 refine .region ?_
 refine .q (op_move rfl) trivial rfl ?_
 refine .q (op_move rfl) trivial rfl ?_
 refine .q (op_call (U := []) [(500, 500), (502, 502)] [] (tg_nil0 most z r n h) Tryd.func23 (by kernel_rfl) rfl rfl rfl (⟨⟨_, rfl, rfl, rfl⟩, ⟨_, rfl, rfl, rfl⟩, trivial⟩) (⟨⟨_, _, rfl, rfl, row0_ren _ _ _ _ _ _ _, rfl, (fun h => by cases h), row0_nmC _ _ _ _ _ _ _ rfl rfl⟩, trivial⟩) (trivial) (⟨(fun h => by cases h), trivial⟩) rfl) trivial rfl ?_
 refine .q (op_move rfl) trivial rfl ?_
 refine .q (op_extract rfl rfl) trivial rfl ?_
 refine .q (op_extract rfl rfl) trivial rfl ?_
 refine .q (op_assign rfl) trivial rfl ?_
 refine .q (op_assign rfl) trivial rfl ?_
 refine .nil ?_
 show Ev _ _ _ _ _
 refine .seq ?_
 refine .region ?_
 refine .q (op_move rfl) trivial rfl ?_
 refine .nil ?_
 show Ev _ _ _ _ _
 refine .cond_false rfl (rfl) ?_
 refine .skip ?_
 show Ev _ _ _ _ _
 refine .seq ?_
 refine .seq ?_
 refine .region ?_
 refine .q (op_move rfl) trivial rfl ?_
 refine .q (op_nilCheck rfl) trivial rfl ?_
 refine .q (op_fieldAddr (m := 0) Tryd.underlying48 rfl (by kernel_rfl) rfl) trivial rfl ?_
 refine .as (.ptr 500 2) rfl ?_
 refine .q (op_load Tryd.underlying38 rfl rfl rfl rfl (by show 2 < 8; decide)) trivial rfl ?_
 refine .q (op_eqNilSl Tryd.underlying38 rfl) trivial rfl ?_
 refine .q (op_move rfl) trivial rfl ?_
 refine .know (b' := true) (rfl) ?_
 refine .q (op_move rfl) ⟨_, rfl, rfl⟩ rfl ?_
 refine .q (op_cmpI rfl rfl rfl) ⟨_, rfl, rfl⟩ rfl ?_
 refine .q (op_pick_true rfl rfl rfl) trivial rfl ?_
 refine .nil ?_
 show Ev _ _ _ _ _
 refine .cond_false rfl (decide_eq_false (by omega)) ?_
 refine .skip ?_
 show Ev _ _ _ _ _
 refine .seq ?_
 refine .region ?_
 refine .q (op_move rfl) trivial rfl ?_
 refine .q (op_nilCheck rfl) trivial rfl ?_
 refine .q (op_fieldAddr (m := 0) Tryd.underlying48 rfl (by kernel_rfl) rfl) trivial rfl ?_
 refine .as (.ptr 500 2) rfl ?_
 refine .q (op_load Tryd.underlying38 rfl rfl rfl rfl (by show 2 < 8; decide)) trivial rfl ?_
 refine .q (op_cap_nil Tryd.underlying38 rfl) trivial rfl ?_
 refine .q (op_assign rfl) trivial rfl ?_
 refine .nil ?_
 show Ev _ _ _ _ _
 refine .seq ?_
 refine .seq ?_
 refine .region ?_
 refine .q (op_move rfl) trivial rfl ?_
 refine .q (op_move rfl) trivial rfl ?_
 refine .q (op_quoI rfl rfl ⟨by omega, ⟨by omega, by omega⟩, by omega⟩) trivial rfl ?_
 refine .q (op_move rfl) trivial rfl ?_
 refine .q (op_subI rfl rfl ⟨by omega, by omega⟩) trivial rfl ?_
 refine .q (op_cmpI rfl rfl rfl) trivial rfl ?_
 refine .nil ?_
 show Ev _ _ _ _ _
 refine .cond_false rfl (decide_eq_false (by omega)) ?_
 refine .seq ?_
 refine .region ?_
 refine .q (op_move rfl) trivial rfl ?_
 refine .q (op_move rfl) trivial rfl ?_
 refine .q (op_subI rfl rfl ⟨by omega, by omega⟩) trivial rfl ?_
 refine .q (op_move rfl) trivial rfl ?_
 refine .q (op_subI rfl rfl ⟨by omega, by omega⟩) trivial rfl ?_
 refine .q (op_cmpI rfl rfl rfl) trivial rfl ?_
 refine .nil ?_
 show Ev _ _ _ _ _
 refine .cond_false rfl (decide_eq_false (by omega)) ?_
 refine .drawn [[], [], [1], [1, 2], [1, 2, 3], [], [5], [5, 6], [5, 6, 7], [1, 2, 3, 4, 5, 6, 7, 8], [], [10], [10, 11], [10, 11, 12], [], [10, 11, 12, 13, 14], [1, 2, 3, 4, 5, 6, 7, 8, 9, 10, 11, 12, 13, 14, 15], [0, 1, 2, 3, 4, 5, 6, 7, 8, 9, 10, 11, 12, 13, 14, 15, 16], [0, 1, 2, 3, 4, 5, 6, 7, 8, 9, 10, 11, 12, 13, 14, 15, 16, 17], [0, 1, 2, 3, 4, 5, 6, 7, 8, 9, 10, 11, 12, 13, 14, 15, 16, 17, 18]] [4, 8, 13, 16, 19] [19] (by kernel_rfl) (by kernel_rfl) rfl ?_
 show DK _ [0, 1, 2, 3, 4, 5, 6, 7, 8, 9, 10, 11, 12, 13, 14, 15, 16, 17, 18, 19] _ _ _
 refine .q rfl (op_move rfl) trivial ?_
 refine .q rfl (op_move rfl) trivial ?_
 refine .q rfl (op_nilCheck rfl) trivial ?_
 refine .q rfl (op_fieldAddr (m := 0) Tryd.underlying48 rfl (by kernel_rfl) rfl) trivial ?_
 refine .as (.ptr 500 2) rfl ?_
 refine .q rfl (op_load Tryd.underlying38 rfl rfl rfl rfl (by show 2 < 8; decide)) trivial ?_
 refine .q rfl (op_move rfl) trivial ?_
 refine .q rfl (op_nilCheck rfl) trivial ?_
 refine .q rfl (op_fieldAddr (m := 0) Tryd.underlying48 rfl (by kernel_rfl) rfl) trivial ?_
 refine .as (.ptr 500 3) rfl ?_
 refine .q rfl (op_load Tryd.underlying3 rfl rfl rfl rfl (by show 3 < 8; decide)) trivial ?_
 refine .q rfl (op_slice_nil Tryd.underlying38 inf5.sz rfl (bnd_some rfl (by rfl)) rfl) trivial ?_
 refine .q rfl (op_move rfl) trivial ?_
 refine .q rfl (op_nilCheck rfl) trivial ?_
 refine .q rfl (op_fieldAddr (m := 0) Tryd.underlying48 rfl (by kernel_rfl) rfl) trivial ?_
 refine .as (.ptr 500 3) rfl ?_
 refine .q rfl (op_load Tryd.underlying3 rfl rfl rfl rfl (by show 3 < 8; decide)) trivial ?_
 refine .q rfl (op_move rfl) trivial ?_
 refine .q rfl (op_addI rfl rfl ⟨by omega, by omega⟩) trivial ?_
 refine .as (.i64 ((n : Nat) : Int)) (congrArg AV.i64 (by omega)) ?_
 refine .a rfl (op_call (U := [(1128, some ⟨.aggB (List.replicate n 0), 5, true⟩)]) [] [(1128, 1000)] (growSlice_nil n (by omega) (by omega)) Tryd.func28 (by kernel_rfl) rfl rfl rfl (⟨⟨_, rfl, rfl, rfl⟩, ⟨_, rfl, rfl, rfl⟩, trivial⟩) (trivial) (⟨⟨1000, _, rfl, rfl, rfl, rfl, .inl rfl⟩, trivial⟩) (trivial) rfl) trivial rfl rfl ?_
 refine .q rfl (op_nilCheck rfl) trivial ?_
 refine .q rfl (op_fieldAddr (m := 0) Tryd.underlying48 rfl (by kernel_rfl) rfl) trivial ?_
 refine .as (.ptr 500 2) rfl ?_
 refine .w rfl (op_store (by kernel_rfl) rfl rfl rfl rfl rfl (by show 2 < 8; decide)) trivial rfl rfl ?_
 refine .nil ?_
 show Ev _ _ _ _ _
 refine .seq ?_
 refine .region ?_
 refine .q (op_move rfl) trivial rfl ?_
 refine .q (op_nilCheck rfl) trivial rfl ?_
 refine .q (op_fieldAddr (m := 0) Tryd.underlying48 rfl (by kernel_rfl) rfl) trivial rfl ?_
 refine .as (.ptr 500 3) rfl ?_
 refine .w (op_store inf3.sz rfl rfl rfl rfl rfl (by show 3 < 8; decide)) trivial rfl ?_
 refine .nil ?_
 show Ev _ _ _ _ _
 refine .seq ?_
 refine .region ?_
 refine .q (op_move rfl) trivial rfl ?_
 refine .q (op_move rfl) trivial rfl ?_
 refine .q (op_nilCheck rfl) trivial rfl ?_
 refine .q (op_fieldAddr (m := 0) Tryd.underlying48 rfl (by kernel_rfl) rfl) trivial rfl ?_
 refine .as (.ptr 500 2) rfl ?_
 refine .q (op_load Tryd.underlying38 rfl rfl rfl rfl (by show 2 < 8; decide)) trivial rfl ?_
 refine .q (op_move rfl) trivial rfl ?_
 refine .q (op_move rfl) trivial rfl ?_
 refine .q (op_addI rfl rfl ⟨by omega, by omega⟩) trivial rfl ?_
 refine .q (op_slice_slk (l := 0) (h := n) Tryd.underlying38 inf5.sz rfl rfl (bnd_some rfl (by omega)) (by omega) (by omega) (by omega)) trivial rfl ?_
 refine .as (.slk 1128 0 n n false) rfl ?_
 refine .q (op_nilCheck rfl) trivial rfl ?_
 refine .q (op_fieldAddr (m := 0) Tryd.underlying48 rfl (by kernel_rfl) rfl) trivial rfl ?_
 refine .as (.ptr 500 2) rfl ?_
 refine .w (op_store (by kernel_rfl) rfl rfl rfl rfl rfl (by show 2 < 8; decide)) trivial rfl ?_
 refine .nil ?_
 show Ev _ _ _ _ _
 refine .seq ?_
 refine .region ?_
 refine .q (op_move rfl) trivial rfl ?_
 refine .q (op_assign rfl) trivial rfl ?_
 refine .nil ?_
 show Ev _ _ _ _ _
 refine .ret ?_
 show RetOk _ _ _ _ _ _ _
 exact ret1v rfl (.inl rfl) rfl (rfl) ⟨rfl, rfl, trivial⟩
set_option maxRecDepth 100000 in
theorem grow_reset0 (most : Int) (z : Option BX) (C L : Nat) (r : Int) (hLC : L ≤ C) (hC : C ≤ 9223372036854775807) (hC0 : 0 < C) (hLb : L ≤ 1000000) (hL0 : 0 < L) (n : Nat) (hn : n ≤ C) (hn2 : n ≤ 1000000) : Meets Tryd.prog 24 [.ptr 500 2, .i64 (n : Int)] [(500, some ⟨row0 most (.slk 501 0 (L) (C) true) ((L : Int)) (r) 502 z, 51, true⟩)] (.i64 ((0 : Nat) : Int)) [(500, some ⟨row0 most (.slk 501 0 (0 + n) (C) true) (0) (0) 502 z, 51, true⟩)] := by
 refine meets_of_ev (nt := 110) Tryd.func24 rfl rfl (Nat.le_of_ble_eq_true rfl) ?_
 refine .seq ?_
 refine .region ?_
 refine .q (op_assign rfl) trivial rfl ?_
 refine .nil ?_
 show Ev _ _ _ _ _
 refine .seq ?_
 refine .region ?_
 refine .q (op_move rfl) trivial rfl ?_
 refine .q (op_call (U := []) [(500, 500), (501, 501), (502, 502)] [] (blen_ev0 most z r L L C (by omega) (Nat.le_refl _)) Tryd.func19 (by kernel_rfl) rfl rfl rfl (⟨⟨_, rfl, rfl, rfl⟩, trivial⟩) (⟨⟨_, _, rfl, rfl, row0_ren _ _ _ _ _ _ _, rfl, (fun h => by cases h), row0_nmC _ _ _ _ _ _ _ rfl rfl⟩, trivial⟩) (trivial) (⟨(fun h => by cases h), trivial⟩) rfl) trivial rfl ?_
 refine .q (op_assign rfl) trivial rfl ?_
 refine .nil ?_
 show Ev _ _ _ _ _
 refine .seq ?_
 refine .seq ?_
 refine .region ?_
 refine .q (op_move rfl) trivial rfl ?_
 refine .q (op_cmpI rfl rfl rfl) trivial rfl ?_
 refine .q (op_move rfl) trivial rfl ?_
 refine .know (b' := true) (beq_of' (by omega)) ?_
 refine .q (op_move rfl) ⟨_, rfl, rfl⟩ rfl ?_
 refine .q (op_nilCheck rfl) ⟨_, rfl, rfl⟩ rfl ?_
 refine .q (op_fieldAddr (m := 0) Tryd.underlying48 rfl (by kernel_rfl) rfl) ⟨_, rfl, rfl⟩ rfl ?_
 refine .as (.ptr 500 3) rfl ?_
 refine .q (op_load Tryd.underlying3 rfl rfl rfl rfl (by show 3 < 8; decide)) ⟨_, rfl, rfl⟩ rfl ?_
 refine .q (op_cmpI rfl rfl rfl) ⟨_, rfl, rfl⟩ rfl ?_
 refine .q (op_pick_true rfl rfl rfl) trivial rfl ?_
 refine .nil ?_
 show Ev _ _ _ _ _
 refine .cond_true rfl (bne_of (by omega)) ?_
 refine .region ?_
 refine .q (op_move rfl) trivial rfl ?_
 refine .a (op_call (U := [(500, some ⟨row0 most (.slk 501 0 (0) (C) true) (0) (0) 502 z, 51, true⟩)]) [(500, 500), (501, 501), (502, 502)] [] (reset_ev0 most z C L r (L : Int) (by omega) hC0) Tryd.func27 (by kernel_rfl) rfl rfl rfl (⟨⟨_, rfl, rfl, rfl⟩, trivial⟩) (⟨⟨_, _, rfl, rfl, row0_ren _ _ _ _ _ _ _, rfl, id, row0_nmC _ _ _ _ _ _ _ rfl rfl⟩, trivial⟩) (⟨⟨500, _, rfl, row0_uo rfl rfl, rfl, row0_nmF _ _ _ _ _ _ _ _ rfl rfl, .inr ⟨rfl, _, rfl, rfl⟩⟩, trivial⟩) (⟨(fun _ => ⟨500, _, rfl, rfl⟩), trivial⟩) rfl) trivial rfl ?_
 refine .nil ?_
 show Ev _ _ _ _ _
 refine .seq ?_
 refine .seq ?_
 refine .region ?_
 refine .q (op_move rfl) trivial rfl ?_
 refine .q (op_move rfl) trivial rfl ?_
 refine .a (op_call (U := [(500, some ⟨row0 most (.slk 501 0 ((0) + (n)) (C) true) (0) (0) 502 z, 51, true⟩)]) [(500, 500), (501, 501), (502, 502)] [] (tg_yes0 most z C (0) (0) (0) (n) (by omega) (by omega) hC0 (by omega) (by omega)) Tryd.func23 (by kernel_rfl) rfl rfl rfl (⟨⟨_, rfl, rfl, rfl⟩, ⟨_, rfl, rfl, rfl⟩, trivial⟩) (⟨⟨_, _, rfl, rfl, row0_ren _ _ _ _ _ _ _, rfl, id, row0_nmC _ _ _ _ _ _ _ rfl rfl⟩, trivial⟩) (⟨⟨500, _, rfl, row0_uo rfl rfl, rfl, row0_nmF _ _ _ _ _ _ _ _ rfl rfl, .inr ⟨rfl, _, rfl, rfl⟩⟩, trivial⟩) (⟨(fun _ => ⟨500, _, rfl, rfl⟩), trivial⟩) rfl) trivial rfl ?_
 refine .q (op_move rfl) trivial rfl ?_
 refine .q (op_extract rfl rfl) trivial rfl ?_
 refine .q (op_extract rfl rfl) trivial rfl ?_
 refine .q (op_assign rfl) trivial rfl ?_
 refine .q (op_assign rfl) trivial rfl ?_
 refine .nil ?_
 show Ev _ _ _ _ _
 refine .seq ?_
 refine .region ?_
 refine .q (op_move rfl) trivial rfl ?_
 refine .nil ?_
 show Ev _ _ _ _ _
 refine .cond_true rfl (rfl) ?_
 refine .seq ?_
 refine .region ?_
 refine .q (op_move rfl) trivial rfl ?_
 refine .q (op_assign rfl) trivial rfl ?_
 refine .nil ?_
 show Ev _ _ _ _ _
 refine .ret ?_
 show RetOk _ _ _ _ _ _ _
 exact ret1v rfl (.inl rfl) rfl (rfl) ⟨rfl, trivial⟩
set_option maxRecDepth 100000 in
theorem grow_slide0 (most : Int) (z : Option BX) (l : List UInt8) (C L o : Nat) (r : Int) (ho : o ≤ L) (hL : L ≤ l.length) (hlC : l.length ≤ C) (hC : C ≤ 9223372036854775807) (hC0 : 0 < C) (hLb : L ≤ 1000000) (n : Nat) (hn : n ≤ 1000000) (hn0 : 0 < n) (hm : o < L) (h : ¬ L + n ≤ C) (h2 : n + (L - o) ≤ C / 2) : Meets Tryd.prog 24 [.ptr 500 2, .i64 (n : Int)] [(500, some ⟨row0 most (.slk 501 0 (L) (C) true) ((o : Int)) (r) 502 z, 51, true⟩), (501, some ⟨bufC l C, 5, true⟩)] (.i64 ((L - o : Nat) : Int)) [(500, some ⟨row0 most (.slk 501 0 (L - o + n) (C) true) (0) (r) 502 z, 51, true⟩), (501, some ⟨bufC (mvB l o L) C, 5, true⟩)] := by
 refine meets_of_ev (nt := 110) Tryd.func24 rfl rfl (Nat.le_of_ble_eq_true rfl) ?_
 refine .seq ?_
 refine .region ?_
 refine .q (op_assign rfl) trivial rfl ?_
 refine .nil ?_
 show Ev _ _ _ _ _
 refine .seq ?_
 refine .region ?_
 refine .q (op_move rfl) trivial rfl ?_
 refine .q (op_call (U := []) [(500, 500), (501, 501), (502, 502)] [] (blen_ev0 most z r L o C (by omega) ho) Tryd.func19 (by kernel_rfl) rfl rfl rfl (⟨⟨_, rfl, rfl, rfl⟩, trivial⟩) (⟨⟨_, _, rfl, rfl, row0_ren _ _ _ _ _ _ _, rfl, (fun h => by cases h), row0_nmC _ _ _ _ _ _ _ rfl rfl⟩, trivial⟩) (trivial) (⟨(fun h => by cases h), trivial⟩) rfl) trivial rfl ?_
 refine .q (op_assign rfl) trivial rfl ?_
 refine .nil ?_
 show Ev _ _ _ _ _
 refine .seq ?_
 refine .seq ?_
 refine .region ?_
 refine .q (op_move rfl) trivial rfl ?_
 refine .q (op_cmpI rfl rfl rfl) trivial rfl ?_
 refine .q (op_move rfl) trivial rfl ?_
 refine .know (b' := false) (beq_no (by omega)) ?_
 refine .no ⟨_, rfl, rfl⟩ rfl ?_
 refine .no ⟨_, rfl, rfl⟩ rfl ?_
 refine .no ⟨_, rfl, rfl⟩ rfl ?_
 refine .no ⟨_, rfl, rfl⟩ rfl ?_
 refine .no ⟨_, rfl, rfl⟩ rfl ?_
 refine .q (op_pick_false rfl rfl rfl) trivial rfl ?_
 refine .nil ?_
 show Ev _ _ _ _ _
 refine .cond_false rfl rfl ?_
 refine .skip ?_
 show Ev _ _ _ _ _
 refine .seq ?_
 refine .seq ?_
 refine .region ?_
 refine .q (op_move rfl) trivial rfl ?_
 refine .q (op_move rfl) trivial rfl ?_
 refine .q (op_call (U := []) [(500, 500), (501, 501), (502, 502)] [] (tg_no0 most z C (L) (r) (o : Int) n (by omega) (by omega) hC0 (by omega) (h)) Tryd.func23 (by kernel_rfl) rfl rfl rfl (⟨⟨_, rfl, rfl, rfl⟩, ⟨_, rfl, rfl, rfl⟩, trivial⟩) (⟨⟨_, _, rfl, rfl, row0_ren _ _ _ _ _ _ _, rfl, (fun h => by cases h), row0_nmC _ _ _ _ _ _ _ rfl rfl⟩, trivial⟩) (trivial) (⟨(fun h => by cases h), trivial⟩) rfl) trivial rfl ?_
 refine .q (op_move rfl) trivial rfl ?_
 refine .q (op_extract rfl rfl) trivial rfl ?_
 refine .q (op_extract rfl rfl) trivial rfl ?_
 refine .q (op_assign rfl) trivial rfl ?_
 refine .q (op_assign rfl) trivial rfl ?_
 refine .nil ?_
 show Ev _ _ _ _ _
 refine .seq ?_
 refine .region ?_
 refine .q (op_move rfl) trivial rfl ?_
 refine .nil ?_
 show Ev _ _ _ _ _
 refine .cond_false rfl (rfl) ?_
 refine .skip ?_
 show Ev _ _ _ _ _
 refine .seq ?_
 refine .seq ?_
 refine .region ?_
 refine .q (op_move rfl) trivial rfl ?_
 refine .q (op_nilCheck rfl) trivial rfl ?_
 refine .q (op_fieldAddr (m := 0) Tryd.underlying48 rfl (by kernel_rfl) rfl) trivial rfl ?_
 refine .as (.ptr 500 2) rfl ?_
 refine .q (op_load Tryd.underlying38 rfl rfl rfl rfl (by show 2 < 8; decide)) trivial rfl ?_
 refine .q (op_eqSomeSl Tryd.underlying38 rfl) trivial rfl ?_
 refine .q (op_move rfl) trivial rfl ?_
 refine .know (b' := false) (rfl) ?_
 refine .no ⟨_, rfl, rfl⟩ rfl ?_
 refine .no ⟨_, rfl, rfl⟩ rfl ?_
 refine .q (op_pick_false rfl rfl rfl) trivial rfl ?_
 refine .nil ?_
 show Ev _ _ _ _ _
 refine .cond_false rfl rfl ?_
 refine .skip ?_
 show Ev _ _ _ _ _
 refine .seq ?_
 refine .region ?_
 refine .q (op_move rfl) trivial rfl ?_
 refine .q (op_nilCheck rfl) trivial rfl ?_
 refine .q (op_fieldAddr (m := 0) Tryd.underlying48 rfl (by kernel_rfl) rfl) trivial rfl ?_
 refine .as (.ptr 500 2) rfl ?_
 refine .q (op_load Tryd.underlying38 rfl rfl rfl rfl (by show 2 < 8; decide)) trivial rfl ?_
 refine .q (op_cap_slk Tryd.underlying38 rfl) trivial rfl ?_
 refine .q (op_assign rfl) trivial rfl ?_
 refine .nil ?_
 show Ev _ _ _ _ _
 refine .seq ?_
 refine .seq ?_
 refine .region ?_
 refine .q (op_move rfl) trivial rfl ?_
 refine .q (op_move rfl) trivial rfl ?_
 refine .q (op_quoI rfl rfl ⟨by omega, ⟨by omega, by omega⟩, by omega⟩) trivial rfl ?_
 refine .q (op_move rfl) trivial rfl ?_
 refine .q (op_subI rfl rfl ⟨by omega, by omega⟩) trivial rfl ?_
 refine .q (op_cmpI rfl rfl rfl) trivial rfl ?_
 refine .nil ?_
 show Ev _ _ _ _ _
 refine .cond_true rfl (decide_eq_true (by omega)) ?_
 refine .drawn [[], [0], [0, 1], [0, 1, 2], [], [4], [4, 5], [4, 5, 6], [], [8], [8, 9], [8, 9, 10], [4, 5, 6, 7, 8, 9, 10, 11], [0, 1, 2, 3, 4, 5, 6, 7, 8, 9, 10, 11, 12]] [3, 7, 11, 13] [13] (by kernel_rfl) (by kernel_rfl) rfl ?_
 show DK _ [0, 1, 2, 3, 4, 5, 6, 7, 8, 9, 10, 11, 12, 13] _ _ _
 refine .q rfl (op_move rfl) trivial ?_
 refine .q rfl (op_nilCheck rfl) trivial ?_
 refine .q rfl (op_fieldAddr (m := 0) Tryd.underlying48 rfl (by kernel_rfl) rfl) trivial ?_
 refine .as (.ptr 500 2) rfl ?_
 refine .q rfl (op_load Tryd.underlying38 rfl rfl rfl rfl (by show 2 < 8; decide)) trivial ?_
 refine .q rfl (op_move rfl) trivial ?_
 refine .q rfl (op_nilCheck rfl) trivial ?_
 refine .q rfl (op_fieldAddr (m := 0) Tryd.underlying48 rfl (by kernel_rfl) rfl) trivial ?_
 refine .as (.ptr 500 2) rfl ?_
 refine .q rfl (op_load Tryd.underlying38 rfl rfl rfl rfl (by show 2 < 8; decide)) trivial ?_
 refine .q rfl (op_move rfl) trivial ?_
 refine .q rfl (op_nilCheck rfl) trivial ?_
 refine .q rfl (op_fieldAddr (m := 0) Tryd.underlying48 rfl (by kernel_rfl) rfl) trivial ?_
 refine .as (.ptr 500 3) rfl ?_
 refine .q rfl (op_load Tryd.underlying3 rfl rfl rfl rfl (by show 3 < 8; decide)) trivial ?_
 refine .q rfl (op_slice_slkS (l := o) (h := L) Tryd.underlying38 inf5.sz rfl (bnd_some rfl rfl) rfl ho (by omega)) trivial ?_
 refine .a rfl (op_copyK (q := L - o) (c' := bufC (mvB l o L) C) (cs := ((l.drop o).take (L - o)).map .u8) Tryd.underlying38 inf5.sz rfl rfl rfl (srcs_rng (o := 0 + o) (m := L - o) rfl rfl (by simp; omega) (by rw [Nat.zero_add]; exact bufC_part (by omega))) (by rw [bufC_len hlC]; omega) (by omega) (bufC_move ho hL hlC)) trivial rfl rfl ?_
 refine .nil ?_
 show Ev _ _ _ _ _
 refine .seq ?_
 refine .region ?_
 refine .q (op_move rfl) trivial rfl ?_
 refine .q (op_nilCheck rfl) trivial rfl ?_
 refine .q (op_fieldAddr (m := 0) Tryd.underlying48 rfl (by kernel_rfl) rfl) trivial rfl ?_
 refine .as (.ptr 500 3) rfl ?_
 refine .w (op_store inf3.sz rfl rfl rfl rfl rfl (by show 3 < 8; decide)) trivial rfl ?_
 refine .nil ?_
 show Ev _ _ _ _ _
 refine .seq ?_
 refine .region ?_
 refine .q (op_move rfl) trivial rfl ?_
 refine .q (op_move rfl) trivial rfl ?_
 refine .q (op_nilCheck rfl) trivial rfl ?_
 refine .q (op_fieldAddr (m := 0) Tryd.underlying48 rfl (by kernel_rfl) rfl) trivial rfl ?_
 refine .as (.ptr 500 2) rfl ?_
 refine .q (op_load Tryd.underlying38 rfl rfl rfl rfl (by show 2 < 8; decide)) trivial rfl ?_
 refine .q (op_move rfl) trivial rfl ?_
 refine .q (op_move rfl) trivial rfl ?_
 refine .q (op_addI rfl rfl ⟨by omega, by omega⟩) trivial rfl ?_
 refine .q (op_slice_slk (l := 0) (h := L - o + n) Tryd.underlying38 inf5.sz rfl rfl (bnd_some rfl (by omega)) (by omega) (by omega) (by omega)) trivial rfl ?_
 refine .as (.slk 501 0 (L - o + n) C true) rfl ?_
 refine .q (op_nilCheck rfl) trivial rfl ?_
 refine .q (op_fieldAddr (m := 0) Tryd.underlying48 rfl (by kernel_rfl) rfl) trivial rfl ?_
 refine .as (.ptr 500 2) rfl ?_
 refine .w (op_store (by kernel_rfl) rfl rfl rfl rfl rfl (by show 2 < 8; decide)) trivial rfl ?_
 refine .nil ?_
 show Ev _ _ _ _ _
 refine .seq ?_
 refine .region ?_
 refine .q (op_move rfl) trivial rfl ?_
 refine .q (op_assign rfl) trivial rfl ?_
 refine .nil ?_
 show Ev _ _ _ _ _
 refine .ret ?_
 show RetOk _ _ _ _ _ _ _
 exact ret1v rfl (.inl rfl) rfl (congrArg AV.i64 (by omega)) ⟨rfl, rfl, trivial⟩
set_option maxRecDepth 100000 in
theorem grow_new0 (most : Int) (z : Option BX) (l : List UInt8) (C L o : Nat) (r : Int) (ho : o ≤ L) (hL : L ≤ l.length) (hlC : l.length ≤ C) (hC : C ≤ 9223372036854775807) (hC0 : 0 < C) (hLb : L ≤ 1000000) (n : Nat) (hn : n ≤ 1000000) (hn0 : 0 < n) (hm : o < L) (h : ¬ L + n ≤ C) (h2 : ¬ n + (L - o) ≤ C / 2) : Meets Tryd.prog 24 [.ptr 500 2, .i64 (n : Int)] [(500, some ⟨row0 most (.slk 501 0 (L) (C) true) ((o : Int)) (r) 502 z, 51, true⟩), (501, some ⟨bufC l C, 5, true⟩)] (.i64 ((L - o : Nat) : Int)) [(500, some ⟨row0 most (.slk 1128 0 (L - o + n) (max (L - o + (o + n)) (2 * (C - o))) false) (0) (r) 502 z, 51, true⟩), (1128, some ⟨.aggB ((l.take L).drop o ++ List.replicate ((max (L - o + (o + n)) (2 * (C - o))) - (L - o)) 0), 5, true⟩)] := by
 refine meets_of_ev (nt := 110) Tryd.func24 rfl rfl (Nat.le_of_ble_eq_true rfl) ?_
 refine .seq ?_
 refine .region ?_
 refine .q (op_assign rfl) trivial rfl ?_
 refine .nil ?_
 show Ev _ _ _ _ _
 refine .seq ?_
 refine .region ?_
 refine .q (op_move rfl) trivial rfl ?_
 refine .q (op_call (U := []) [(500, 500), (501, 501), (502, 502)] [] (blen_ev0 most z r L o C (by omega) ho) Tryd.func19 (by kernel_rfl) rfl rfl rfl (⟨⟨_, rfl, rfl, rfl⟩, trivial⟩) (⟨⟨_, _, rfl, rfl, row0_ren _ _ _ _ _ _ _, rfl, (fun h => by cases h), row0_nmC _ _ _ _ _ _ _ rfl rfl⟩, trivial⟩) (trivial) (⟨(fun h => by cases h), trivial⟩) rfl) trivial rfl ?_
 refine .q (op_assign rfl) trivial rfl ?_
 refine .nil ?_
 show Ev _ _ _ _ _
 refine .seq ?_
 refine .seq ?_
 refine .region ?_
 refine .q (op_move rfl) trivial rfl ?_
 refine .q (op_cmpI rfl rfl rfl) trivial rfl ?_
 refine .q (op_move rfl) trivial rfl ?_
 refine .know (b' := false) (beq_no (by omega)) ?_
 refine .no ⟨_, rfl, rfl⟩ rfl ?_
 refine .no ⟨_, rfl, rfl⟩ rfl ?_
 refine .no ⟨_, rfl, rfl⟩ rfl ?_
 refine .no ⟨_, rfl, rfl⟩ rfl ?_
 refine .no ⟨_, rfl, rfl⟩ rfl ?_
 refine .q (op_pick_false rfl rfl rfl) trivial rfl ?_
 refine .nil ?_
 show Ev _ _ _ _ _
 refine .cond_false rfl rfl ?_
 refine .skip ?_
 show Ev _ _ _ _ _
 refine .seq ?_
 refine .seq ?_
 refine .region ?_
 refine .q (op_move rfl) trivial rfl ?_
 refine .q (op_move rfl) trivial rfl ?_
 refine .q (op_call (U := []) [(500, 500), (501, 501), (502, 502)] [] (tg_no0 most z C (L) (r) (o : Int) n (by omega) (by omega) hC0 (by omega) (h)) Tryd.func23 (by kernel_rfl) rfl rfl rfl (⟨⟨_, rfl, rfl, rfl⟩, ⟨_, rfl, rfl, rfl⟩, trivial⟩) (⟨⟨_, _, rfl, rfl, row0_ren _ _ _ _ _ _ _, rfl, (fun h => by cases h), row0_nmC _ _ _ _ _ _ _ rfl rfl⟩, trivial⟩) (trivial) (⟨(fun h => by cases h), trivial⟩) rfl) trivial rfl ?_
 refine .q (op_move rfl) trivial rfl ?_
 refine .q (op_extract rfl rfl) trivial rfl ?_
 refine .q (op_extract rfl rfl) trivial rfl ?_
 refine .q (op_assign rfl) trivial rfl ?_
 refine .q (op_assign rfl) trivial rfl ?_
 refine .nil ?_
 show Ev _ _ _ _ _
 refine .seq ?_
 refine .region ?_
 refine .q (op_move rfl) trivial rfl ?_
 refine .nil ?_
 show Ev _ _ _ _ _
 refine .cond_false rfl (rfl) ?_
 refine .skip ?_
 show Ev _ _ _ _ _
 refine .seq ?_
 refine .seq ?_
 refine .region ?_
 refine .q (op_move rfl) trivial rfl ?_
 refine .q (op_nilCheck rfl) trivial rfl ?_
 refine .q (op_fieldAddr (m := 0) Tryd.underlying48 rfl (by kernel_rfl) rfl) trivial rfl ?_
 refine .as (.ptr 500 2) rfl ?_
 refine .q (op_load Tryd.underlying38 rfl rfl rfl rfl (by show 2 < 8; decide)) trivial rfl ?_
 refine .q (op_eqSomeSl Tryd.underlying38 rfl) trivial rfl ?_
 refine .q (op_move rfl) trivial rfl ?_
 refine .know (b' := false) (rfl) ?_
 refine .no ⟨_, rfl, rfl⟩ rfl ?_
 refine .no ⟨_, rfl, rfl⟩ rfl ?_
 refine .q (op_pick_false rfl rfl rfl) trivial rfl ?_
 refine .nil ?_
 show Ev _ _ _ _ _
 refine .cond_false rfl rfl ?_
 refine .skip ?_
 show Ev _ _ _ _ _
 refine .seq ?_
 refine .region ?_
 refine .q (op_move rfl) trivial rfl ?_
 refine .q (op_nilCheck rfl) trivial rfl ?_
 refine .q (op_fieldAddr (m := 0) Tryd.underlying48 rfl (by kernel_rfl) rfl) trivial rfl ?_
 refine .as (.ptr 500 2) rfl ?_
 refine .q (op_load Tryd.underlying38 rfl rfl rfl rfl (by show 2 < 8; decide)) trivial rfl ?_
 refine .q (op_cap_slk Tryd.underlying38 rfl) trivial rfl ?_
 refine .q (op_assign rfl) trivial rfl ?_
 refine .nil ?_
 show Ev _ _ _ _ _
 refine .seq ?_
 refine .seq ?_
 refine .region ?_
 refine .q (op_move rfl) trivial rfl ?_
 refine .q (op_move rfl) trivial rfl ?_
 refine .q (op_quoI rfl rfl ⟨by omega, ⟨by omega, by omega⟩, by omega⟩) trivial rfl ?_
 refine .q (op_move rfl) trivial rfl ?_
 refine .q (op_subI rfl rfl ⟨by omega, by omega⟩) trivial rfl ?_
 refine .q (op_cmpI rfl rfl rfl) trivial rfl ?_
 refine .nil ?_
 show Ev _ _ _ _ _
 refine .cond_false rfl (decide_eq_false (by omega)) ?_
 refine .seq ?_
 refine .region ?_
 refine .q (op_move rfl) trivial rfl ?_
 refine .q (op_move rfl) trivial rfl ?_
 refine .q (op_subI rfl rfl ⟨by omega, by omega⟩) trivial rfl ?_
 refine .q (op_move rfl) trivial rfl ?_
 refine .q (op_subI rfl rfl ⟨by omega, by omega⟩) trivial rfl ?_
 refine .q (op_cmpI rfl rfl rfl) trivial rfl ?_
 refine .nil ?_
 show Ev _ _ _ _ _
 refine .cond_false rfl (decide_eq_false (by omega)) ?_
 refine .drawn [[], [], [1], [1, 2], [1, 2, 3], [], [5], [5, 6], [5, 6, 7], [1, 2, 3, 4, 5, 6, 7, 8], [], [10], [10, 11], [10, 11, 12], [], [10, 11, 12, 13, 14], [1, 2, 3, 4, 5, 6, 7, 8, 9, 10, 11, 12, 13, 14, 15], [0, 1, 2, 3, 4, 5, 6, 7, 8, 9, 10, 11, 12, 13, 14, 15, 16], [0, 1, 2, 3, 4, 5, 6, 7, 8, 9, 10, 11, 12, 13, 14, 15, 16, 17], [0, 1, 2, 3, 4, 5, 6, 7, 8, 9, 10, 11, 12, 13, 14, 15, 16, 17, 18]] [4, 8, 13, 16, 19] [19] (by kernel_rfl) (by kernel_rfl) rfl ?_
 show DK _ [0, 1, 2, 3, 4, 5, 6, 7, 8, 9, 10, 11, 12, 13, 14, 15, 16, 17, 18, 19] _ _ _
 refine .q rfl (op_move rfl) trivial ?_
 refine .q rfl (op_move rfl) trivial ?_
 refine .q rfl (op_nilCheck rfl) trivial ?_
 refine .q rfl (op_fieldAddr (m := 0) Tryd.underlying48 rfl (by kernel_rfl) rfl) trivial ?_
 refine .as (.ptr 500 2) rfl ?_
 refine .q rfl (op_load Tryd.underlying38 rfl rfl rfl rfl (by show 2 < 8; decide)) trivial ?_
 refine .q rfl (op_move rfl) trivial ?_
 refine .q rfl (op_nilCheck rfl) trivial ?_
 refine .q rfl (op_fieldAddr (m := 0) Tryd.underlying48 rfl (by kernel_rfl) rfl) trivial ?_
 refine .as (.ptr 500 3) rfl ?_
 refine .q rfl (op_load Tryd.underlying3 rfl rfl rfl rfl (by show 3 < 8; decide)) trivial ?_
 refine .q rfl (op_slice_slk (l := o) (h := L) Tryd.underlying38 inf5.sz rfl (bnd_some rfl rfl) rfl ho (by omega) (by omega)) trivial ?_
 refine .as (.slk 501 o (L - o) (C - o) true) (by rw [Nat.zero_add]) ?_
 refine .q rfl (op_move rfl) trivial ?_
 refine .q rfl (op_nilCheck rfl) trivial ?_
 refine .q rfl (op_fieldAddr (m := 0) Tryd.underlying48 rfl (by kernel_rfl) rfl) trivial ?_
 refine .as (.ptr 500 3) rfl ?_
 refine .q rfl (op_load Tryd.underlying3 rfl rfl rfl rfl (by show 3 < 8; decide)) trivial ?_
 refine .q rfl (op_move rfl) trivial ?_
 refine .q rfl (op_addI rfl rfl ⟨by omega, by omega⟩) trivial ?_
 refine .as (.i64 ((o + n : Nat) : Int)) (congrArg AV.i64 (by omega)) ?_
 refine .a rfl (op_call (U := [(1128, some ⟨.aggB ((l.take L).drop o ++ List.replicate ((max (L - o + (o + n)) (2 * (C - o))) - (L - o)) 0), 5, true⟩)]) [(501, 501)] [(1128, 1000)] (growSlice_ev501 l C L o (o + n) ho hL hlC (by omega) (by omega) (by omega)) Tryd.func28 (by kernel_rfl) rfl rfl rfl (⟨⟨_, rfl, rfl, rfl⟩, ⟨_, rfl, rfl, rfl⟩, trivial⟩) (⟨⟨_, _, rfl, rfl, bufC_ren _ _ _, rfl, (fun h => by cases h), bufC_nmC _ _ _⟩, trivial⟩) (⟨⟨1000, _, rfl, rfl, rfl, rfl, .inl rfl⟩, trivial⟩) (⟨(fun h => by cases h), trivial⟩) rfl) trivial rfl rfl ?_
 refine .q rfl (op_nilCheck rfl) trivial ?_
 refine .q rfl (op_fieldAddr (m := 0) Tryd.underlying48 rfl (by kernel_rfl) rfl) trivial ?_
 refine .as (.ptr 500 2) rfl ?_
 refine .w rfl (op_store (by kernel_rfl) rfl rfl rfl rfl rfl (by show 2 < 8; decide)) trivial rfl rfl ?_
 refine .nil ?_
 show Ev _ _ _ _ _
 refine .seq ?_
 refine .region ?_
 refine .q (op_move rfl) trivial rfl ?_
 refine .q (op_nilCheck rfl) trivial rfl ?_
 refine .q (op_fieldAddr (m := 0) Tryd.underlying48 rfl (by kernel_rfl) rfl) trivial rfl ?_
 refine .as (.ptr 500 3) rfl ?_
 refine .w (op_store inf3.sz rfl rfl rfl rfl rfl (by show 3 < 8; decide)) trivial rfl ?_
 refine .nil ?_
 show Ev _ _ _ _ _
 refine .seq ?_
 refine .region ?_
 refine .q (op_move rfl) trivial rfl ?_
 refine .q (op_move rfl) trivial rfl ?_
 refine .q (op_nilCheck rfl) trivial rfl ?_
 refine .q (op_fieldAddr (m := 0) Tryd.underlying48 rfl (by kernel_rfl) rfl) trivial rfl ?_
 refine .as (.ptr 500 2) rfl ?_
 refine .q (op_load Tryd.underlying38 rfl rfl rfl rfl (by show 2 < 8; decide)) trivial rfl ?_
 refine .q (op_move rfl) trivial rfl ?_
 refine .q (op_move rfl) trivial rfl ?_
 refine .q (op_addI rfl rfl ⟨by omega, by omega⟩) trivial rfl ?_
 refine .q (op_slice_slk (l := 0) (h := L - o + n) Tryd.underlying38 inf5.sz rfl rfl (bnd_some rfl (by omega)) (by omega) (by omega) (by omega)) trivial rfl ?_
 refine .as (.slk 1128 0 (L - o + n) (max (L - o + (o + n)) (2 * (C - o))) false) rfl ?_
 refine .q (op_nilCheck rfl) trivial rfl ?_
 refine .q (op_fieldAddr (m := 0) Tryd.underlying48 rfl (by kernel_rfl) rfl) trivial rfl ?_
 refine .as (.ptr 500 2) rfl ?_
 refine .w (op_store (by kernel_rfl) rfl rfl rfl rfl rfl (by show 2 < 8; decide)) trivial rfl ?_
 refine .nil ?_
 show Ev _ _ _ _ _
 refine .seq ?_
 refine .region ?_
 refine .q (op_move rfl) trivial rfl ?_
 refine .q (op_assign rfl) trivial rfl ?_
 refine .nil ?_
 show Ev _ _ _ _ _
 refine .ret ?_
 show RetOk _ _ _ _ _ _ _
 exact ret1v rfl (.inl rfl) rfl (congrArg AV.i64 (by omega)) ⟨rfl, rfl, trivial⟩
set_option maxRecDepth 100000 in
theorem grow_rnew0 (most : Int) (z : Option BX) (l : List UInt8) (C L : Nat) (r : Int) (hL : L ≤ l.length) (hlC : l.length ≤ C) (hC : C ≤ 9223372036854775807) (hC0 : 0 < C) (hLb : L ≤ 1000000) (h0 : 0 < L) (n : Nat) (hn : n ≤ 1000000) (hn0 : 0 < n) (hn3 : ¬ n ≤ C) : Meets Tryd.prog 24 [.ptr 500 2, .i64 (n : Int)] [(500, some ⟨row0 most (.slk 501 0 (L) (C) true) ((L : Int)) (r) 502 z, 51, true⟩), (501, some ⟨bufC l C, 5, true⟩)] (.i64 ((0 : Nat) : Int)) [(500, some ⟨row0 most (.slk 1136 0 (0 - 0 + n) (max (0 - 0 + (0 + n)) (2 * (C - 0))) false) (0) (0) 502 z, 51, true⟩), (1136, some ⟨.aggB ((l.take 0).drop 0 ++ List.replicate ((max (0 - 0 + (0 + n)) (2 * (C - 0))) - (0 - 0)) 0), 5, true⟩)] := by
 refine meets_of_ev (nt := 110) Tryd.func24 rfl rfl (Nat.le_of_ble_eq_true rfl) ?_
 refine .seq ?_
 refine .region ?_
 refine .q (op_assign rfl) trivial rfl ?_
 refine .nil ?_
 show Ev _ _ _ _ _
 refine .seq ?_
 refine .region ?_
 refine .q (op_move rfl) trivial rfl ?_
 refine .q (op_call (U := []) [(500, 500), (501, 501), (502, 502)] [] (blen_ev0 most z r L L C (by omega) (Nat.le_refl _)) Tryd.func19 (by kernel_rfl) rfl rfl rfl (⟨⟨_, rfl, rfl, rfl⟩, trivial⟩) (⟨⟨_, _, rfl, rfl, row0_ren _ _ _ _ _ _ _, rfl, (fun h => by cases h), row0_nmC _ _ _ _ _ _ _ rfl rfl⟩, trivial⟩) (trivial) (⟨(fun h => by cases h), trivial⟩) rfl) trivial rfl ?_
 refine .q (op_assign rfl) trivial rfl ?_
 refine .nil ?_
 show Ev _ _ _ _ _
 refine .seq ?_
 refine .seq ?_
 refine .region ?_
 refine .q (op_move rfl) trivial rfl ?_
 refine .q (op_cmpI rfl rfl rfl) trivial rfl ?_
 refine .q (op_move rfl) trivial rfl ?_
 refine .know (b' := true) (beq_of' (by omega)) ?_
 refine .q (op_move rfl) ⟨_, rfl, rfl⟩ rfl ?_
 refine .q (op_nilCheck rfl) ⟨_, rfl, rfl⟩ rfl ?_
 refine .q (op_fieldAddr (m := 0) Tryd.underlying48 rfl (by kernel_rfl) rfl) ⟨_, rfl, rfl⟩ rfl ?_
 refine .as (.ptr 500 3) rfl ?_
 refine .q (op_load Tryd.underlying3 rfl rfl rfl rfl (by show 3 < 8; decide)) ⟨_, rfl, rfl⟩ rfl ?_
 refine .q (op_cmpI rfl rfl rfl) ⟨_, rfl, rfl⟩ rfl ?_
 refine .q (op_pick_true rfl rfl rfl) trivial rfl ?_
 refine .nil ?_
 show Ev _ _ _ _ _
 refine .cond_true rfl (bne_of (by omega)) ?_
 refine .region ?_
 refine .q (op_move rfl) trivial rfl ?_
 refine .a (op_call (U := [(500, some ⟨row0 most (.slk 501 0 (0) (C) true) (0) (0) 502 z, 51, true⟩)]) [(500, 500), (501, 501), (502, 502)] [] (reset_ev0 most z C L r (L : Int) (by omega) hC0) Tryd.func27 (by kernel_rfl) rfl rfl rfl (⟨⟨_, rfl, rfl, rfl⟩, trivial⟩) (⟨⟨_, _, rfl, rfl, row0_ren _ _ _ _ _ _ _, rfl, id, row0_nmC _ _ _ _ _ _ _ rfl rfl⟩, trivial⟩) (⟨⟨500, _, rfl, row0_uo rfl rfl, rfl, row0_nmF _ _ _ _ _ _ _ _ rfl rfl, .inr ⟨rfl, _, rfl, rfl⟩⟩, trivial⟩) (⟨(fun _ => ⟨500, _, rfl, rfl⟩), trivial⟩) rfl) trivial rfl ?_
 refine .nil ?_
 show Ev _ _ _ _ _
 refine .seq ?_
 refine .seq ?_
 refine .region ?_
 refine .q (op_move rfl) trivial rfl ?_
 refine .q (op_move rfl) trivial rfl ?_
 refine .q (op_call (U := []) [(500, 500), (501, 501), (502, 502)] [] (tg_no0 most z C (0) (0) 0 n (by omega) (by omega) hC0 (by omega) (by omega)) Tryd.func23 (by kernel_rfl) rfl rfl rfl (⟨⟨_, rfl, rfl, rfl⟩, ⟨_, rfl, rfl, rfl⟩, trivial⟩) (⟨⟨_, _, rfl, rfl, row0_ren _ _ _ _ _ _ _, rfl, (fun h => by cases h), row0_nmC _ _ _ _ _ _ _ rfl rfl⟩, trivial⟩) (trivial) (⟨(fun h => by cases h), trivial⟩) rfl) trivial rfl ?_
 refine .q (op_move rfl) trivial rfl ?_
 refine .q (op_extract rfl rfl) trivial rfl ?_
 refine .q (op_extract rfl rfl) trivial rfl ?_
 refine .q (op_assign rfl) trivial rfl ?_
 refine .q (op_assign rfl) trivial rfl ?_
 refine .nil ?_
 show Ev _ _ _ _ _
 refine .seq ?_
 refine .region ?_
 refine .q (op_move rfl) trivial rfl ?_
 refine .nil ?_
 show Ev _ _ _ _ _
 refine .cond_false rfl (rfl) ?_
 refine .skip ?_
 show Ev _ _ _ _ _
 refine .seq ?_
 refine .seq ?_
 refine .region ?_
 refine .q (op_move rfl) trivial rfl ?_
 refine .q (op_nilCheck rfl) trivial rfl ?_
 refine .q (op_fieldAddr (m := 0) Tryd.underlying48 rfl (by kernel_rfl) rfl) trivial rfl ?_
 refine .as (.ptr 500 2) rfl ?_
 refine .q (op_load Tryd.underlying38 rfl rfl rfl rfl (by show 2 < 8; decide)) trivial rfl ?_
 refine .q (op_eqSomeSl Tryd.underlying38 rfl) trivial rfl ?_
 refine .q (op_move rfl) trivial rfl ?_
 refine .know (b' := false) (rfl) ?_
 refine .no ⟨_, rfl, rfl⟩ rfl ?_
 refine .no ⟨_, rfl, rfl⟩ rfl ?_
 refine .q (op_pick_false rfl rfl rfl) trivial rfl ?_
 refine .nil ?_
 show Ev _ _ _ _ _
 refine .cond_false rfl rfl ?_
 refine .skip ?_
 show Ev _ _ _ _ _
 refine .seq ?_
 refine .region ?_
 refine .q (op_move rfl) trivial rfl ?_
 refine .q (op_nilCheck rfl) trivial rfl ?_
 refine .q (op_fieldAddr (m := 0) Tryd.underlying48 rfl (by kernel_rfl) rfl) trivial rfl ?_
 refine .as (.ptr 500 2) rfl ?_
 refine .q (op_load Tryd.underlying38 rfl rfl rfl rfl (by show 2 < 8; decide)) trivial rfl ?_
 refine .q (op_cap_slk Tryd.underlying38 rfl) trivial rfl ?_
 refine .q (op_assign rfl) trivial rfl ?_
 refine .nil ?_
 show Ev _ _ _ _ _
 refine .seq ?_
 refine .seq ?_
 refine .region ?_
 refine .q (op_move rfl) trivial rfl ?_
 refine .q (op_move rfl) trivial rfl ?_
 refine .q (op_quoI rfl rfl ⟨by omega, ⟨by omega, by omega⟩, by omega⟩) trivial rfl ?_
 refine .q (op_move rfl) trivial rfl ?_
 refine .q (op_subI rfl rfl ⟨by omega, by omega⟩) trivial rfl ?_
 refine .q (op_cmpI rfl rfl rfl) trivial rfl ?_
 refine .nil ?_
 show Ev _ _ _ _ _
 refine .cond_false rfl (decide_eq_false (by omega)) ?_
 refine .seq ?_
 refine .region ?_
 refine .q (op_move rfl) trivial rfl ?_
 refine .q (op_move rfl) trivial rfl ?_
 refine .q (op_subI rfl rfl ⟨by omega, by omega⟩) trivial rfl ?_
 refine .q (op_move rfl) trivial rfl ?_
 refine .q (op_subI rfl rfl ⟨by omega, by omega⟩) trivial rfl ?_
 refine .q (op_cmpI rfl rfl rfl) trivial rfl ?_
 refine .nil ?_
 show Ev _ _ _ _ _
 refine .cond_false rfl (decide_eq_false (by omega)) ?_
 refine .drawn [[], [], [1], [1, 2], [1, 2, 3], [], [5], [5, 6], [5, 6, 7], [1, 2, 3, 4, 5, 6, 7, 8], [], [10], [10, 11], [10, 11, 12], [], [10, 11, 12, 13, 14], [1, 2, 3, 4, 5, 6, 7, 8, 9, 10, 11, 12, 13, 14, 15], [0, 1, 2, 3, 4, 5, 6, 7, 8, 9, 10, 11, 12, 13, 14, 15, 16], [0, 1, 2, 3, 4, 5, 6, 7, 8, 9, 10, 11, 12, 13, 14, 15, 16, 17], [0, 1, 2, 3, 4, 5, 6, 7, 8, 9, 10, 11, 12, 13, 14, 15, 16, 17, 18]] [4, 8, 13, 16, 19] [19] (by kernel_rfl) (by kernel_rfl) rfl ?_
 show DK _ [0, 1, 2, 3, 4, 5, 6, 7, 8, 9, 10, 11, 12, 13, 14, 15, 16, 17, 18, 19] _ _ _
 refine .q rfl (op_move rfl) trivial ?_
 refine .q rfl (op_move rfl) trivial ?_
 refine .q rfl (op_nilCheck rfl) trivial ?_
 refine .q rfl (op_fieldAddr (m := 0) Tryd.underlying48 rfl (by kernel_rfl) rfl) trivial ?_
 refine .as (.ptr 500 2) rfl ?_
 refine .q rfl (op_load Tryd.underlying38 rfl rfl rfl rfl (by show 2 < 8; decide)) trivial ?_
 refine .q rfl (op_move rfl) trivial ?_
 refine .q rfl (op_nilCheck rfl) trivial ?_
 refine .q rfl (op_fieldAddr (m := 0) Tryd.underlying48 rfl (by kernel_rfl) rfl) trivial ?_
 refine .as (.ptr 500 3) rfl ?_
 refine .q rfl (op_load Tryd.underlying3 rfl rfl rfl rfl (by show 3 < 8; decide)) trivial ?_
 refine .q rfl (op_slice_slk (l := 0) (h := 0) Tryd.underlying38 inf5.sz rfl (bnd_some rfl (by rfl)) rfl (by omega) (by omega) (by omega)) trivial ?_
 refine .as (.slk 501 0 (0 - 0) (C - 0) true) (by rfl) ?_
 refine .q rfl (op_move rfl) trivial ?_
 refine .q rfl (op_nilCheck rfl) trivial ?_
 refine .q rfl (op_fieldAddr (m := 0) Tryd.underlying48 rfl (by kernel_rfl) rfl) trivial ?_
 refine .as (.ptr 500 3) rfl ?_
 refine .q rfl (op_load Tryd.underlying3 rfl rfl rfl rfl (by show 3 < 8; decide)) trivial ?_
 refine .q rfl (op_move rfl) trivial ?_
 refine .q rfl (op_addI rfl rfl ⟨by omega, by omega⟩) trivial ?_
 refine .as (.i64 ((0 + n : Nat) : Int)) (congrArg AV.i64 (by omega)) ?_
 refine .a rfl (op_call (U := [(1136, some ⟨.aggB ((l.take 0).drop 0 ++ List.replicate ((max (0 - 0 + (0 + n)) (2 * (C - 0))) - (0 - 0)) 0), 5, true⟩)]) [(501, 501)] [(1136, 1000)] (growSlice_ev501 l C 0 0 (0 + n) (Nat.le_refl _) (Nat.zero_le _) hlC (by omega) (by omega) (by omega)) Tryd.func28 (by kernel_rfl) rfl rfl rfl (⟨⟨_, rfl, rfl, rfl⟩, ⟨_, rfl, rfl, rfl⟩, trivial⟩) (⟨⟨_, _, rfl, rfl, bufC_ren _ _ _, rfl, (fun h => by cases h), bufC_nmC _ _ _⟩, trivial⟩) (⟨⟨1000, _, rfl, rfl, rfl, rfl, .inl rfl⟩, trivial⟩) (⟨(fun h => by cases h), trivial⟩) rfl) trivial rfl rfl ?_
 refine .q rfl (op_nilCheck rfl) trivial ?_
 refine .q rfl (op_fieldAddr (m := 0) Tryd.underlying48 rfl (by kernel_rfl) rfl) trivial ?_
 refine .as (.ptr 500 2) rfl ?_
 refine .w rfl (op_store (by kernel_rfl) rfl rfl rfl rfl rfl (by show 2 < 8; decide)) trivial rfl rfl ?_
 refine .nil ?_
 show Ev _ _ _ _ _
 refine .seq ?_
 refine .region ?_
 refine .q (op_move rfl) trivial rfl ?_
 refine .q (op_nilCheck rfl) trivial rfl ?_
 refine .q (op_fieldAddr (m := 0) Tryd.underlying48 rfl (by kernel_rfl) rfl) trivial rfl ?_
 refine .as (.ptr 500 3) rfl ?_
 refine .w (op_store inf3.sz rfl rfl rfl rfl rfl (by show 3 < 8; decide)) trivial rfl ?_
 refine .nil ?_
 show Ev _ _ _ _ _
 refine .seq ?_
 refine .region ?_
 refine .q (op_move rfl) trivial rfl ?_
 refine .q (op_move rfl) trivial rfl ?_
 refine .q (op_nilCheck rfl) trivial rfl ?_
 refine .q (op_fieldAddr (m := 0) Tryd.underlying48 rfl (by kernel_rfl) rfl) trivial rfl ?_
 refine .as (.ptr 500 2) rfl ?_
 refine .q (op_load Tryd.underlying38 rfl rfl rfl rfl (by show 2 < 8; decide)) trivial rfl ?_
 refine .q (op_move rfl) trivial rfl ?_
 refine .q (op_move rfl) trivial rfl ?_
 refine .q (op_addI rfl rfl ⟨by omega, by omega⟩) trivial rfl ?_
 refine .q (op_slice_slk (l := 0) (h := 0 - 0 + n) Tryd.underlying38 inf5.sz rfl rfl (bnd_some rfl (by omega)) (by omega) (by omega) (by omega)) trivial rfl ?_
 refine .as (.slk 1136 0 (0 - 0 + n) (max (0 - 0 + (0 + n)) (2 * (C - 0))) false) rfl ?_
 refine .q (op_nilCheck rfl) trivial rfl ?_
 refine .q (op_fieldAddr (m := 0) Tryd.underlying48 rfl (by kernel_rfl) rfl) trivial rfl ?_
 refine .as (.ptr 500 2) rfl ?_
 refine .w (op_store (by kernel_rfl) rfl rfl rfl rfl rfl (by show 2 < 8; decide)) trivial rfl ?_
 refine .nil ?_
 show Ev _ _ _ _ _
 refine .seq ?_
 refine .region ?_
 refine .q (op_move rfl) trivial rfl ?_
 refine .q (op_assign rfl) trivial rfl ?_
 refine .nil ?_
 show Ev _ _ _ _ _
 refine .ret ?_
 show RetOk _ _ _ _ _ _ _
 exact ret1v rfl (.inl rfl) rfl (congrArg AV.i64 (by omega)) ⟨rfl, rfl, trivial⟩
set_option maxRecDepth 100000 in
theorem ws_nil0 (most : Int) (z : Option BX) (r : Int) (s : List UInt8) (h : 0 < s.length) (h64 : s.length ≤ 64) : Meets Tryd.prog 18 [.ptr 500 2, .str s] [(500, some ⟨row0 most (.nilsl) (0) (r) 502 z, 51, true⟩)] (.tup [.i64 (s.length : Int), .val .nilIface]) [(500, some ⟨row0 most (.slk 1000 0 (s.length) (64) true) (0) (0) 502 z, 51, true⟩), (1000, some ⟨.aggB (wrB z64 0 s), 5, true⟩)] := by
 refine meets_of_ev (nt := 32) Tryd.func18 rfl rfl (Nat.le_of_ble_eq_true rfl) ?_
 refine .seq ?_
 refine .region ?_
 refine .q (op_assign rfl) trivial rfl ?_
 refine .q (op_assign rfl) trivial rfl ?_
 refine .nil ?_
 show Ev _ _ _ _ _
 refine .seq ?_
 refine .region ?_
 refine .q (op_move rfl) trivial rfl ?_
 refine .q (op_nilCheck rfl) trivial rfl ?_
 refine .q (op_fieldAddr (m := 0) Tryd.underlying48 rfl (by kernel_rfl) rfl) trivial rfl ?_
 refine .as (.ptr 500 4) rfl ?_
 refine .w (op_store (by kernel_rfl) rfl rfl rfl rfl rfl (by show 4 < 8; decide)) trivial rfl ?_
 refine .nil ?_
 show Ev _ _ _ _ _
 refine .seq ?_
 refine .region ?_
 refine .q (op_move rfl) trivial rfl ?_
 refine .q (op_move rfl) trivial rfl ?_
 refine .q (op_len_str Tryd.underlying9 rfl) trivial rfl ?_
 refine .q (op_call (U := []) [(500, 500), (502, 502)] [] (tg_nil0 most z 0 s.length h) Tryd.func23 (by kernel_rfl) rfl rfl rfl (⟨⟨_, rfl, rfl, rfl⟩, ⟨_, rfl, rfl, rfl⟩, trivial⟩) (⟨⟨_, _, rfl, rfl, row0_ren _ _ _ _ _ _ _, rfl, (fun h => by cases h), row0_nmC _ _ _ _ _ _ _ rfl rfl⟩, trivial⟩) (trivial) (⟨(fun h => by cases h), trivial⟩) rfl) trivial rfl ?_
 refine .q (op_move rfl) trivial rfl ?_
 refine .q (op_extract rfl rfl) trivial rfl ?_
 refine .q (op_extract rfl rfl) trivial rfl ?_
 refine .q (op_assign rfl) trivial rfl ?_
 refine .q (op_assign rfl) trivial rfl ?_
 refine .nil ?_
 show Ev _ _ _ _ _
 refine .seq ?_
 refine .seq ?_
 refine .region ?_
 refine .q (op_move rfl) trivial rfl ?_
 refine .q (op_notB rfl) trivial rfl ?_
 refine .nil ?_
 show Ev _ _ _ _ _
 refine .cond_true rfl (rfl) ?_
 refine .region ?_
 refine .q (op_move rfl) trivial rfl ?_
 refine .q (op_move rfl) trivial rfl ?_
 refine .q (op_len_str Tryd.underlying9 rfl) trivial rfl ?_
 refine .a (op_call (U := [(1000, some ⟨.aggB z64, 5, true⟩), (500, some ⟨row0 most (.slk 1000 0 (s.length) (64) true) (0) (0) 502 z, 51, true⟩)]) [(500, 500), (502, 502)] [(1000, 1000)] (grow_nil0 most z 0 s.length h h64) Tryd.func24 (by kernel_rfl) rfl rfl rfl (⟨⟨_, rfl, rfl, rfl⟩, ⟨_, rfl, rfl, rfl⟩, trivial⟩) (⟨⟨_, _, rfl, rfl, row0_ren _ _ _ _ _ _ _, rfl, id, row0_nmC _ _ _ _ _ _ _ rfl rfl⟩, trivial⟩) (⟨⟨1000, _, rfl, rfl, rfl, rfl, .inl rfl⟩, ⟨500, _, rfl, row0_uo rfl rfl, rfl, row0_nmF _ _ _ _ _ _ _ _ rfl rfl, .inr ⟨rfl, _, rfl, rfl⟩⟩, trivial⟩) (⟨(fun _ => ⟨500, _, rfl, rfl⟩), trivial⟩) rfl) trivial rfl ?_
 refine .q (op_assign rfl) trivial rfl ?_
 refine .nil ?_
 show Ev _ _ _ _ _
 refine .seq ?_
 refine .region ?_
 refine .q (op_move rfl) trivial rfl ?_
 refine .q (op_nilCheck rfl) trivial rfl ?_
 refine .q (op_fieldAddr (m := 0) Tryd.underlying48 rfl (by kernel_rfl) rfl) trivial rfl ?_
 refine .as (.ptr 500 2) rfl ?_
 refine .q (op_load Tryd.underlying38 rfl rfl rfl rfl (by show 2 < 8; decide)) trivial rfl ?_
 refine .asR (.sl 1000 0 s.length 1) slk_sl ?_
 refine .q (op_move rfl) trivial rfl ?_
 refine .q (op_slice_sl Tryd.underlying38 inf5.sz rfl (bnd_some rfl rfl) rfl (by first | omega | (simp only [AV.len]; omega) | (simp only [AV.len, List.length_set]; omega) | assumption | (simp [AV.len]; done)) (by first | omega | (simp only [AV.len]; omega) | (simp only [AV.len, List.length_set]; omega) | assumption | (simp [AV.len]; done))) trivial rfl ?_
 refine .q (op_move rfl) trivial rfl ?_
 refine .a (op_copy (q := s.length) (c' := .aggB (wrB z64 0 s)) Tryd.underlying38 inf5.sz rfl rfl rfl (srcs_str rfl) (by simp only [AV.len, z64_len]; omega) (by simp) (wrB_list z64 0 s)) trivial rfl ?_
 refine .q (op_assign rfl) trivial rfl ?_
 refine .q (op_assign rfl) trivial rfl ?_
 refine .nil ?_
 show Ev _ _ _ _ _
 refine .ret ?_
 show RetOk _ _ _ _ _ _ _
 exact ret2v rfl (.inl rfl) rfl rfl rfl rfl ⟨rfl, rfl, trivial⟩
set_option maxRecDepth 100000 in
theorem ws_nilbig0 (most : Int) (z : Option BX) (r : Int) (s : List UInt8) (h : 0 < s.length) (h64 : ¬ s.length ≤ 64) (hs : s.length ≤ 1000000) : Meets Tryd.prog 18 [.ptr 500 2, .str s] [(500, some ⟨row0 most (.nilsl) (0) (r) 502 z, 51, true⟩)] (.tup [.i64 (s.length : Int), .val .nilIface]) [(500, some ⟨row0 most (.slk 1000 0 s.length s.length false) (0) (0) 502 z, 51, true⟩), (1000, some ⟨.aggB (wrB (List.replicate s.length (0 : UInt8)) 0 s), 5, true⟩)] := by
 refine meets_of_ev (nt := 32) Tryd.func18 rfl rfl (Nat.le_of_ble_eq_true rfl) ?_
 refine .seq ?_
 refine .region ?_
 refine .q (op_assign rfl) trivial rfl ?_
 refine .q (op_assign rfl) trivial rfl ?_
 refine .nil ?_
 show Ev _ _ _ _ _
 refine .seq ?_
 refine .region ?_
 refine .q (op_move rfl) trivial rfl ?_
 refine .q (op_nilCheck rfl) trivial rfl ?_
 refine .q (op_fieldAddr (m := 0) Tryd.underlying48 rfl (by kernel_rfl) rfl) trivial rfl ?_
 refine .as (.ptr 500 4) rfl ?_
 refine .w (op_store (by kernel_rfl) rfl rfl rfl rfl rfl (by show 4 < 8; decide)) trivial rfl ?_
 refine .nil ?_
 show Ev _ _ _ _ _
 refine .seq ?_
 refine .region ?_
 refine .q (op_move rfl) trivial rfl ?_
 refine .q (op_move rfl) trivial rfl ?_
 refine .q (op_len_str Tryd.underlying9 rfl) trivial rfl ?_
 refine .q (op_call (U := []) [(500, 500), (502, 502)] [] (tg_nil0 most z 0 s.length h) Tryd.func23 (by kernel_rfl) rfl rfl rfl (⟨⟨_, rfl, rfl, rfl⟩, ⟨_, rfl, rfl, rfl⟩, trivial⟩) (⟨⟨_, _, rfl, rfl, row0_ren _ _ _ _ _ _ _, rfl, (fun h => by cases h), row0_nmC _ _ _ _ _ _ _ rfl rfl⟩, trivial⟩) (trivial) (⟨(fun h => by cases h), trivial⟩) rfl) trivial rfl ?_
 refine .q (op_move rfl) trivial rfl ?_
 refine .q (op_extract rfl rfl) trivial rfl ?_
 refine .q (op_extract rfl rfl) trivial rfl ?_
 refine .q (op_assign rfl) trivial rfl ?_
 refine .q (op_assign rfl) trivial rfl ?_
 refine .nil ?_
 show Ev _ _ _ _ _
 refine .seq ?_
 refine .seq ?_
 refine .region ?_
 refine .q (op_move rfl) trivial rfl ?_
 refine .q (op_notB rfl) trivial rfl ?_
 refine .nil ?_
 show Ev _ _ _ _ _
 refine .cond_true rfl (rfl) ?_
 refine .region ?_
 refine .q (op_move rfl) trivial rfl ?_
 refine .q (op_move rfl) trivial rfl ?_
 refine .q (op_len_str Tryd.underlying9 rfl) trivial rfl ?_
 refine .a (op_call (U := [(1000, some ⟨.aggB (List.replicate s.length (0 : UInt8)), 5, true⟩), (500, some ⟨row0 most (.slk 1000 0 s.length s.length false) (0) (0) 502 z, 51, true⟩)]) [(500, 500), (502, 502)] [(1000, 1128)] (grow_nilbig0 most z 0 s.length h h64 hs) Tryd.func24 (by kernel_rfl) rfl rfl rfl (⟨⟨_, rfl, rfl, rfl⟩, ⟨_, rfl, rfl, rfl⟩, trivial⟩) (⟨⟨_, _, rfl, rfl, row0_ren _ _ _ _ _ _ _, rfl, id, row0_nmC _ _ _ _ _ _ _ rfl rfl⟩, trivial⟩) (⟨⟨1128, _, rfl, rfl, rfl, rfl, .inl rfl⟩, ⟨500, _, rfl, row0_uo rfl rfl, rfl, row0_nmF _ _ _ _ _ _ _ _ rfl rfl, .inr ⟨rfl, _, rfl, rfl⟩⟩, trivial⟩) (⟨(fun _ => ⟨500, _, rfl, rfl⟩), trivial⟩) rfl) trivial rfl ?_
 refine .q (op_assign rfl) trivial rfl ?_
 refine .nil ?_
 show Ev _ _ _ _ _
 refine .seq ?_
 refine .region ?_
 refine .q (op_move rfl) trivial rfl ?_
 refine .q (op_nilCheck rfl) trivial rfl ?_
 refine .q (op_fieldAddr (m := 0) Tryd.underlying48 rfl (by kernel_rfl) rfl) trivial rfl ?_
 refine .as (.ptr 500 2) rfl ?_
 refine .q (op_load Tryd.underlying38 rfl rfl rfl rfl (by show 2 < 8; decide)) trivial rfl ?_
 refine .asR (.sl 1000 0 (s.length) 1) slk_sl ?_
 refine .q (op_move rfl) trivial rfl ?_
 refine .q (op_slice_sl Tryd.underlying38 inf5.sz rfl (bnd_some rfl rfl) rfl (by first | omega | (simp only [AV.len]; omega) | (simp only [AV.len, List.length_set]; omega) | assumption | (simp [AV.len]; done)) (by first | omega | (simp only [AV.len]; omega) | (simp only [AV.len, List.length_set]; omega) | assumption | (simp [AV.len]; done))) trivial rfl ?_
 refine .q (op_move rfl) trivial rfl ?_
 refine .a (op_copy (q := s.length) (c' := .aggB (wrB (List.replicate s.length (0 : UInt8)) 0 s)) Tryd.underlying38 inf5.sz rfl rfl rfl (srcs_str rfl) (by simp only [AV.len, List.length_replicate]; omega) (by simp) (wrB_list (List.replicate s.length (0 : UInt8)) 0 s)) trivial rfl ?_
 refine .q (op_assign rfl) trivial rfl ?_
 refine .q (op_assign rfl) trivial rfl ?_
 refine .nil ?_
 show Ev _ _ _ _ _
 refine .ret ?_
 show RetOk _ _ _ _ _ _ _
 exact ret2v rfl (.inl rfl) rfl rfl rfl rfl ⟨rfl, rfl, trivial⟩
set_option maxRecDepth 100000 in
theorem ws_fit0 (most : Int) (z : Option BX) (l : List UInt8) (C L o : Nat) (r : Int) (ho : o ≤ L) (hL : L ≤ l.length) (hlC : l.length ≤ C) (hC : C ≤ 9223372036854775807) (hC0 : 0 < C) (hLb : L ≤ 1000000) (s : List UInt8) (hs : s.length ≤ 1000000) (h : L + s.length ≤ C) : Meets Tryd.prog 18 [.ptr 500 2, .str s] [(500, some ⟨row0 most (.slk 501 0 (L) (C) true) ((o : Int)) (r) 502 z, 51, true⟩), (501, some ⟨bufC l C, 5, true⟩)] (.tup [.i64 (s.length : Int), .val .nilIface]) [(500, some ⟨row0 most (.slk 501 0 (L + s.length) (C) true) ((o : Int)) (0) 502 z, 51, true⟩), (501, some ⟨bufC (wrB l L s) C, 5, true⟩)] := by
 refine meets_of_ev (nt := 32) Tryd.func18 rfl rfl (Nat.le_of_ble_eq_true rfl) ?_
 refine .seq ?_
 refine .region ?_
 refine .q (op_assign rfl) trivial rfl ?_
 refine .q (op_assign rfl) trivial rfl ?_
 refine .nil ?_
 show Ev _ _ _ _ _
 refine .seq ?_
 refine .region ?_
 refine .q (op_move rfl) trivial rfl ?_
 refine .q (op_nilCheck rfl) trivial rfl ?_
 refine .q (op_fieldAddr (m := 0) Tryd.underlying48 rfl (by kernel_rfl) rfl) trivial rfl ?_
 refine .as (.ptr 500 4) rfl ?_
 refine .w (op_store (by kernel_rfl) rfl rfl rfl rfl rfl (by show 4 < 8; decide)) trivial rfl ?_
 refine .nil ?_
 show Ev _ _ _ _ _
 refine .seq ?_
 refine .region ?_
 refine .q (op_move rfl) trivial rfl ?_
 refine .q (op_move rfl) trivial rfl ?_
 refine .q (op_len_str Tryd.underlying9 rfl) trivial rfl ?_
 refine .a (op_call (U := [(500, some ⟨row0 most (.slk 501 0 (L + s.length) (C) true) ((o : Int)) (0) 502 z, 51, true⟩)]) [(500, 500), (501, 501), (502, 502)] [] (tg_yes0 most z C L 0 (o : Int) s.length (by omega) (by omega) hC0 (by omega) h) Tryd.func23 (by kernel_rfl) rfl rfl rfl (⟨⟨_, rfl, rfl, rfl⟩, ⟨_, rfl, rfl, rfl⟩, trivial⟩) (⟨⟨_, _, rfl, rfl, row0_ren _ _ _ _ _ _ _, rfl, id, row0_nmC _ _ _ _ _ _ _ rfl rfl⟩, trivial⟩) (⟨⟨500, _, rfl, row0_uo rfl rfl, rfl, row0_nmF _ _ _ _ _ _ _ _ rfl rfl, .inr ⟨rfl, _, rfl, rfl⟩⟩, trivial⟩) (⟨(fun _ => ⟨500, _, rfl, rfl⟩), trivial⟩) rfl) trivial rfl ?_
 refine .q (op_move rfl) trivial rfl ?_
 refine .q (op_extract rfl rfl) trivial rfl ?_
 refine .q (op_extract rfl rfl) trivial rfl ?_
 refine .q (op_assign rfl) trivial rfl ?_
 refine .q (op_assign rfl) trivial rfl ?_
 refine .nil ?_
 show Ev _ _ _ _ _
 refine .seq ?_
 refine .seq ?_
 refine .region ?_
 refine .q (op_move rfl) trivial rfl ?_
 refine .q (op_notB rfl) trivial rfl ?_
 refine .nil ?_
 show Ev _ _ _ _ _
 refine .cond_false rfl (rfl) ?_
 refine .skip ?_
 show Ev _ _ _ _ _
 refine .seq ?_
 refine .region ?_
 refine .q (op_move rfl) trivial rfl ?_
 refine .q (op_nilCheck rfl) trivial rfl ?_
 refine .q (op_fieldAddr (m := 0) Tryd.underlying48 rfl (by kernel_rfl) rfl) trivial rfl ?_
 refine .as (.ptr 500 2) rfl ?_
 refine .q (op_load Tryd.underlying38 rfl rfl rfl rfl (by show 2 < 8; decide)) trivial rfl ?_
 refine .asR (.sl 501 0 (L + s.length) 1) slk_sl ?_
 refine .q (op_move rfl) trivial rfl ?_
 refine .q (op_slice_sl Tryd.underlying38 inf5.sz rfl (bnd_some rfl rfl) rfl (by omega) (by omega)) trivial rfl ?_
 refine .as (.sl 501 (L) s.length 1) (by rw [show 0 + (L) * 1 = L by omega, show L + s.length - (L) = s.length by omega]) ?_
 refine .q (op_move rfl) trivial rfl ?_
 refine .a (op_copy (q := s.length) (c' := bufC (wrB l L s) C) Tryd.underlying38 inf5.sz rfl rfl rfl (srcs_str rfl) (by rw [bufC_len hlC]; omega) (by simp) (bufC_write s hL hlC h)) trivial rfl ?_
 refine .q (op_assign rfl) trivial rfl ?_
 refine .q (op_assign rfl) trivial rfl ?_
 refine .nil ?_
 show Ev _ _ _ _ _
 refine .ret ?_
 show RetOk _ _ _ _ _ _ _
 exact ret2v rfl (.inl rfl) rfl rfl rfl rfl ⟨rfl, rfl, trivial⟩
set_option maxRecDepth 100000 in
theorem ws_reset0 (most : Int) (z : Option BX) (l : List UInt8) (C L : Nat) (r : Int) (hL : L ≤ l.length) (hlC : l.length ≤ C) (hC : C ≤ 9223372036854775807) (hC0 : 0 < C) (hLb : L ≤ 1000000) (h0 : 0 < L) (s : List UInt8) (hs : s.length ≤ 1000000) (hsC : s.length ≤ C) (h : ¬ L + s.length ≤ C) : Meets Tryd.prog 18 [.ptr 500 2, .str s] [(500, some ⟨row0 most (.slk 501 0 (L) (C) true) ((L : Int)) (r) 502 z, 51, true⟩), (501, some ⟨bufC l C, 5, true⟩)] (.tup [.i64 (s.length : Int), .val .nilIface]) [(500, some ⟨row0 most (.slk 501 0 (0 + s.length) (C) true) (0) (0) 502 z, 51, true⟩), (501, some ⟨bufC (wrB l 0 s) C, 5, true⟩)] := by
 refine meets_of_ev (nt := 32) Tryd.func18 rfl rfl (Nat.le_of_ble_eq_true rfl) ?_
 refine .seq ?_
 refine .region ?_
 refine .q (op_assign rfl) trivial rfl ?_
 refine .q (op_assign rfl) trivial rfl ?_
 refine .nil ?_
 show Ev _ _ _ _ _
 refine .seq ?_
 refine .region ?_
 refine .q (op_move rfl) trivial rfl ?_
 refine .q (op_nilCheck rfl) trivial rfl ?_
 refine .q (op_fieldAddr (m := 0) Tryd.underlying48 rfl (by kernel_rfl) rfl) trivial rfl ?_
 refine .as (.ptr 500 4) rfl ?_
 refine .w (op_store (by kernel_rfl) rfl rfl rfl rfl rfl (by show 4 < 8; decide)) trivial rfl ?_
 refine .nil ?_
 show Ev _ _ _ _ _
 refine .seq ?_
 refine .region ?_
 refine .q (op_move rfl) trivial rfl ?_
 refine .q (op_move rfl) trivial rfl ?_
 refine .q (op_len_str Tryd.underlying9 rfl) trivial rfl ?_
 refine .q (op_call (U := []) [(500, 500), (501, 501), (502, 502)] [] (tg_no0 most z C L 0 ((L : Int)) s.length (by omega) (by omega) hC0 (by omega) (h)) Tryd.func23 (by kernel_rfl) rfl rfl rfl (⟨⟨_, rfl, rfl, rfl⟩, ⟨_, rfl, rfl, rfl⟩, trivial⟩) (⟨⟨_, _, rfl, rfl, row0_ren _ _ _ _ _ _ _, rfl, (fun h => by cases h), row0_nmC _ _ _ _ _ _ _ rfl rfl⟩, trivial⟩) (trivial) (⟨(fun h => by cases h), trivial⟩) rfl) trivial rfl ?_
 refine .q (op_move rfl) trivial rfl ?_
 refine .q (op_extract rfl rfl) trivial rfl ?_
 refine .q (op_extract rfl rfl) trivial rfl ?_
 refine .q (op_assign rfl) trivial rfl ?_
 refine .q (op_assign rfl) trivial rfl ?_
 refine .nil ?_
 show Ev _ _ _ _ _
 refine .seq ?_
 refine .seq ?_
 refine .region ?_
 refine .q (op_move rfl) trivial rfl ?_
 refine .q (op_notB rfl) trivial rfl ?_
 refine .nil ?_
 show Ev _ _ _ _ _
 refine .cond_true rfl (rfl) ?_
 refine .region ?_
 refine .q (op_move rfl) trivial rfl ?_
 refine .q (op_move rfl) trivial rfl ?_
 refine .q (op_len_str Tryd.underlying9 rfl) trivial rfl ?_
 refine .a (op_call (U := [(500, some ⟨row0 most (.slk 501 0 (0 + s.length) (C) true) (0) (0) 502 z, 51, true⟩)]) [(500, 500), (501, 501), (502, 502)] [] (grow_reset0 most z C L 0 (by omega) (by omega) hC0 hLb h0 s.length hsC hs) Tryd.func24 (by kernel_rfl) rfl rfl rfl (⟨⟨_, rfl, rfl, rfl⟩, ⟨_, rfl, rfl, rfl⟩, trivial⟩) (⟨⟨_, _, rfl, rfl, row0_ren _ _ _ _ _ _ _, rfl, id, row0_nmC _ _ _ _ _ _ _ rfl rfl⟩, trivial⟩) (⟨⟨500, _, rfl, row0_uo rfl rfl, rfl, row0_nmF _ _ _ _ _ _ _ _ rfl rfl, .inr ⟨rfl, _, rfl, rfl⟩⟩, trivial⟩) (⟨(fun _ => ⟨500, _, rfl, rfl⟩), trivial⟩) rfl) trivial rfl ?_
 refine .q (op_assign rfl) trivial rfl ?_
 refine .nil ?_
 show Ev _ _ _ _ _
 refine .seq ?_
 refine .region ?_
 refine .q (op_move rfl) trivial rfl ?_
 refine .q (op_nilCheck rfl) trivial rfl ?_
 refine .q (op_fieldAddr (m := 0) Tryd.underlying48 rfl (by kernel_rfl) rfl) trivial rfl ?_
 refine .as (.ptr 500 2) rfl ?_
 refine .q (op_load Tryd.underlying38 rfl rfl rfl rfl (by show 2 < 8; decide)) trivial rfl ?_
 refine .asR (.sl 501 0 (0 + s.length) 1) slk_sl ?_
 refine .q (op_move rfl) trivial rfl ?_
 refine .q (op_slice_sl Tryd.underlying38 inf5.sz rfl (bnd_some rfl rfl) rfl (by omega) (by omega)) trivial rfl ?_
 refine .as (.sl 501 (0) s.length 1) (by rw [show 0 + (0) * 1 = 0 by omega, show 0 + s.length - (0) = s.length by omega]) ?_
 refine .q (op_move rfl) trivial rfl ?_
 refine .a (op_copy (q := s.length) (c' := bufC (wrB l 0 s) C) Tryd.underlying38 inf5.sz rfl rfl rfl (srcs_str rfl) (by rw [bufC_len hlC]; omega) (by simp) (bufC_write s (Nat.zero_le _) hlC (by omega))) trivial rfl ?_
 refine .q (op_assign rfl) trivial rfl ?_
 refine .q (op_assign rfl) trivial rfl ?_
 refine .nil ?_
 show Ev _ _ _ _ _
 refine .ret ?_
 show RetOk _ _ _ _ _ _ _
 exact ret2v rfl (.inl rfl) rfl rfl rfl rfl ⟨rfl, rfl, trivial⟩
set_option maxRecDepth 100000 in
theorem ws_slide0 (most : Int) (z : Option BX) (l : List UInt8) (C L o : Nat) (r : Int) (ho : o ≤ L) (hL : L ≤ l.length) (hlC : l.length ≤ C) (hC : C ≤ 9223372036854775807) (hC0 : 0 < C) (hLb : L ≤ 1000000) (s : List UInt8) (hs : s.length ≤ 1000000) (hs0 : 0 < s.length) (hm : o < L) (h : ¬ L + s.length ≤ C) (h2 : s.length + (L - o) ≤ C / 2) : Meets Tryd.prog 18 [.ptr 500 2, .str s] [(500, some ⟨row0 most (.slk 501 0 (L) (C) true) ((o : Int)) (r) 502 z, 51, true⟩), (501, some ⟨bufC l C, 5, true⟩)] (.tup [.i64 (s.length : Int), .val .nilIface]) [(500, some ⟨row0 most (.slk 501 0 (L - o + s.length) (C) true) (0) (0) 502 z, 51, true⟩), (501, some ⟨bufC (wrB (mvB l o L) (L - o) s) C, 5, true⟩)] := by
 refine meets_of_ev (nt := 32) Tryd.func18 rfl rfl (Nat.le_of_ble_eq_true rfl) ?_
 refine .seq ?_
 refine .region ?_
 refine .q (op_assign rfl) trivial rfl ?_
 refine .q (op_assign rfl) trivial rfl ?_
 refine .nil ?_
 show Ev _ _ _ _ _
 refine .seq ?_
 refine .region ?_
 refine .q (op_move rfl) trivial rfl ?_
 refine .q (op_nilCheck rfl) trivial rfl ?_
 refine .q (op_fieldAddr (m := 0) Tryd.underlying48 rfl (by kernel_rfl) rfl) trivial rfl ?_
 refine .as (.ptr 500 4) rfl ?_
 refine .w (op_store (by kernel_rfl) rfl rfl rfl rfl rfl (by show 4 < 8; decide)) trivial rfl ?_
 refine .nil ?_
 show Ev _ _ _ _ _
 refine .seq ?_
 refine .region ?_
 refine .q (op_move rfl) trivial rfl ?_
 refine .q (op_move rfl) trivial rfl ?_
 refine .q (op_len_str Tryd.underlying9 rfl) trivial rfl ?_
 refine .q (op_call (U := []) [(500, 500), (501, 501), (502, 502)] [] (tg_no0 most z C L 0 ((o : Int)) s.length (by omega) (by omega) hC0 (by omega) (h)) Tryd.func23 (by kernel_rfl) rfl rfl rfl (⟨⟨_, rfl, rfl, rfl⟩, ⟨_, rfl, rfl, rfl⟩, trivial⟩) (⟨⟨_, _, rfl, rfl, row0_ren _ _ _ _ _ _ _, rfl, (fun h => by cases h), row0_nmC _ _ _ _ _ _ _ rfl rfl⟩, trivial⟩) (trivial) (⟨(fun h => by cases h), trivial⟩) rfl) trivial rfl ?_
 refine .q (op_move rfl) trivial rfl ?_
 refine .q (op_extract rfl rfl) trivial rfl ?_
 refine .q (op_extract rfl rfl) trivial rfl ?_
 refine .q (op_assign rfl) trivial rfl ?_
 refine .q (op_assign rfl) trivial rfl ?_
 refine .nil ?_
 show Ev _ _ _ _ _
 refine .seq ?_
 refine .seq ?_
 refine .region ?_
 refine .q (op_move rfl) trivial rfl ?_
 refine .q (op_notB rfl) trivial rfl ?_
 refine .nil ?_
 show Ev _ _ _ _ _
 refine .cond_true rfl (rfl) ?_
 refine .region ?_
 refine .q (op_move rfl) trivial rfl ?_
 refine .q (op_move rfl) trivial rfl ?_
 refine .q (op_len_str Tryd.underlying9 rfl) trivial rfl ?_
 refine .a (op_call (U := [(500, some ⟨row0 most (.slk 501 0 (L - o + s.length) (C) true) (0) (0) 502 z, 51, true⟩), (501, some ⟨bufC (mvB l o L) C, 5, true⟩)]) [(500, 500), (501, 501), (502, 502)] [] (grow_slide0 most z l C L o 0 ho hL hlC hC hC0 hLb s.length hs hs0 hm h h2) Tryd.func24 (by kernel_rfl) rfl rfl rfl (⟨⟨_, rfl, rfl, rfl⟩, ⟨_, rfl, rfl, rfl⟩, trivial⟩) (⟨⟨_, _, rfl, rfl, row0_ren _ _ _ _ _ _ _, rfl, id, row0_nmC _ _ _ _ _ _ _ rfl rfl⟩, ⟨_, _, rfl, rfl, bufC_ren _ _ _, rfl, id, bufC_nmC _ _ _⟩, trivial⟩) (⟨⟨500, _, rfl, row0_uo rfl rfl, rfl, row0_nmF _ _ _ _ _ _ _ _ rfl rfl, .inr ⟨rfl, _, rfl, rfl⟩⟩, ⟨501, _, rfl, congrArg (fun z => (⟨z, _, _⟩ : ABlk)) (bufC_ren _ _ _).symm, rfl, bufC_nmF _ _ _ _, .inr ⟨rfl, _, rfl, rfl⟩⟩, trivial⟩) (⟨(fun _ => ⟨500, _, rfl, rfl⟩), (fun _ => ⟨501, _, rfl, rfl⟩), trivial⟩) rfl) trivial rfl ?_
 refine .q (op_assign rfl) trivial rfl ?_
 refine .nil ?_
 show Ev _ _ _ _ _
 refine .seq ?_
 refine .region ?_
 refine .q (op_move rfl) trivial rfl ?_
 refine .q (op_nilCheck rfl) trivial rfl ?_
 refine .q (op_fieldAddr (m := 0) Tryd.underlying48 rfl (by kernel_rfl) rfl) trivial rfl ?_
 refine .as (.ptr 500 2) rfl ?_
 refine .q (op_load Tryd.underlying38 rfl rfl rfl rfl (by show 2 < 8; decide)) trivial rfl ?_
 refine .asR (.sl 501 0 (L - o + s.length) 1) slk_sl ?_
 refine .q (op_move rfl) trivial rfl ?_
 refine .q (op_slice_sl Tryd.underlying38 inf5.sz rfl (bnd_some rfl rfl) rfl (by omega) (by omega)) trivial rfl ?_
 refine .as (.sl 501 (L - o) s.length 1) (by rw [show 0 + (L - o) * 1 = L - o by omega, show L - o + s.length - (L - o) = s.length by omega]) ?_
 refine .q (op_move rfl) trivial rfl ?_
 refine .a (op_copy (q := s.length) (c' := bufC (wrB (mvB l o L) (L - o) s) C) Tryd.underlying38 inf5.sz rfl rfl rfl (srcs_str rfl) (by rw [bufC_len (by rw [mvB_len ho hL]; exact hlC)]; omega) (by simp) (bufC_write s (by rw [mvB_len ho hL]; omega) (by rw [mvB_len ho hL]; exact hlC) (by omega))) trivial rfl ?_
 refine .q (op_assign rfl) trivial rfl ?_
 refine .q (op_assign rfl) trivial rfl ?_
 refine .nil ?_
 show Ev _ _ _ _ _
 refine .ret ?_
 show RetOk _ _ _ _ _ _ _
 exact ret2v rfl (.inl rfl) rfl rfl rfl rfl ⟨rfl, rfl, trivial⟩
set_option maxRecDepth 100000 in
theorem ws_new0 (most : Int) (z : Option BX) (l : List UInt8) (C L o : Nat) (r : Int) (ho : o ≤ L) (hL : L ≤ l.length) (hlC : l.length ≤ C) (hC : C ≤ 9223372036854775807) (hC0 : 0 < C) (hLb : L ≤ 1000000) (s : List UInt8) (hs : s.length ≤ 1000000) (hs0 : 0 < s.length) (hm : o < L) (h : ¬ L + s.length ≤ C) (h2 : ¬ s.length + (L - o) ≤ C / 2) : Meets Tryd.prog 18 [.ptr 500 2, .str s] [(500, some ⟨row0 most (.slk 501 0 (L) (C) true) ((o : Int)) (r) 502 z, 51, true⟩), (501, some ⟨bufC l C, 5, true⟩)] (.tup [.i64 (s.length : Int), .val .nilIface]) [(500, some ⟨row0 most (.slk 1000 0 (L - o + s.length) (max (L - o + (o + s.length)) (2 * (C - o))) false) (0) (0) 502 z, 51, true⟩), (1000, some ⟨.aggB (wrB ((l.take L).drop o ++ List.replicate ((max (L - o + (o + s.length)) (2 * (C - o))) - (L - o)) 0) (L - o) s), 5, true⟩)] := by
 refine meets_of_ev (nt := 32) Tryd.func18 rfl rfl (Nat.le_of_ble_eq_true rfl) ?_
 refine .seq ?_
 refine .region ?_
 refine .q (op_assign rfl) trivial rfl ?_
 refine .q (op_assign rfl) trivial rfl ?_
 refine .nil ?_
 show Ev _ _ _ _ _
 refine .seq ?_
 refine .region ?_
 refine .q (op_move rfl) trivial rfl ?_
 refine .q (op_nilCheck rfl) trivial rfl ?_
 refine .q (op_fieldAddr (m := 0) Tryd.underlying48 rfl (by kernel_rfl) rfl) trivial rfl ?_
 refine .as (.ptr 500 4) rfl ?_
 refine .w (op_store (by kernel_rfl) rfl rfl rfl rfl rfl (by show 4 < 8; decide)) trivial rfl ?_
 refine .nil ?_
 show Ev _ _ _ _ _
 refine .seq ?_
 refine .region ?_
 refine .q (op_move rfl) trivial rfl ?_
 refine .q (op_move rfl) trivial rfl ?_
 refine .q (op_len_str Tryd.underlying9 rfl) trivial rfl ?_
 refine .q (op_call (U := []) [(500, 500), (501, 501), (502, 502)] [] (tg_no0 most z C L 0 ((o : Int)) s.length (by omega) (by omega) hC0 (by omega) (h)) Tryd.func23 (by kernel_rfl) rfl rfl rfl (⟨⟨_, rfl, rfl, rfl⟩, ⟨_, rfl, rfl, rfl⟩, trivial⟩) (⟨⟨_, _, rfl, rfl, row0_ren _ _ _ _ _ _ _, rfl, (fun h => by cases h), row0_nmC _ _ _ _ _ _ _ rfl rfl⟩, trivial⟩) (trivial) (⟨(fun h => by cases h), trivial⟩) rfl) trivial rfl ?_
 refine .q (op_move rfl) trivial rfl ?_
 refine .q (op_extract rfl rfl) trivial rfl ?_
 refine .q (op_extract rfl rfl) trivial rfl ?_
 refine .q (op_assign rfl) trivial rfl ?_
 refine .q (op_assign rfl) trivial rfl ?_
 refine .nil ?_
 show Ev _ _ _ _ _
 refine .seq ?_
 refine .seq ?_
 refine .region ?_
 refine .q (op_move rfl) trivial rfl ?_
 refine .q (op_notB rfl) trivial rfl ?_
 refine .nil ?_
 show Ev _ _ _ _ _
 refine .cond_true rfl (rfl) ?_
 refine .region ?_
 refine .q (op_move rfl) trivial rfl ?_
 refine .q (op_move rfl) trivial rfl ?_
 refine .q (op_len_str Tryd.underlying9 rfl) trivial rfl ?_
 refine .a (op_call (U := [(1000, some ⟨.aggB ((l.take L).drop o ++ List.replicate ((max (L - o + (o + s.length)) (2 * (C - o))) - (L - o)) 0), 5, true⟩), (500, some ⟨row0 most (.slk 1000 0 (L - o + s.length) (max (L - o + (o + s.length)) (2 * (C - o))) false) (0) (0) 502 z, 51, true⟩), (501, none)]) [(500, 500), (501, 501), (502, 502)] [(1000, 1128)] (grow_new0 most z l C L o 0 ho hL hlC hC hC0 hLb s.length hs hs0 hm h h2) Tryd.func24 (by kernel_rfl) rfl rfl rfl (⟨⟨_, rfl, rfl, rfl⟩, ⟨_, rfl, rfl, rfl⟩, trivial⟩) (⟨⟨_, _, rfl, rfl, row0_ren _ _ _ _ _ _ _, rfl, id, row0_nmC _ _ _ _ _ _ _ rfl rfl⟩, ⟨_, _, rfl, rfl, bufC_ren _ _ _, rfl, id, bufC_nmC _ _ _⟩, trivial⟩) (⟨⟨1128, _, rfl, rfl, rfl, rfl, .inl rfl⟩, ⟨500, _, rfl, row0_uo rfl rfl, rfl, row0_nmF _ _ _ _ _ _ _ _ rfl rfl, .inr ⟨rfl, _, rfl, rfl⟩⟩, trivial⟩) (⟨(fun _ => ⟨500, _, rfl, rfl⟩), (fun _ => ⟨501, _, rfl, rfl⟩), trivial⟩) rfl) trivial rfl ?_
 refine .q (op_assign rfl) trivial rfl ?_
 refine .nil ?_
 show Ev _ _ _ _ _
 refine .seq ?_
 refine .region ?_
 refine .q (op_move rfl) trivial rfl ?_
 refine .q (op_nilCheck rfl) trivial rfl ?_
 refine .q (op_fieldAddr (m := 0) Tryd.underlying48 rfl (by kernel_rfl) rfl) trivial rfl ?_
 refine .as (.ptr 500 2) rfl ?_
 refine .q (op_load Tryd.underlying38 rfl rfl rfl rfl (by show 2 < 8; decide)) trivial rfl ?_
 refine .asR (.sl 1000 0 (L - o + s.length) 1) slk_sl ?_
 refine .q (op_move rfl) trivial rfl ?_
 refine .q (op_slice_sl Tryd.underlying38 inf5.sz rfl (bnd_some rfl rfl) rfl (by omega) (by omega)) trivial rfl ?_
 refine .as (.sl 1000 (L - o) s.length 1) (by rw [show 0 + (L - o) * 1 = L - o by omega, show L - o + s.length - (L - o) = s.length by omega]) ?_
 refine .q (op_move rfl) trivial rfl ?_
 refine .a (op_copy (q := s.length) (c' := .aggB (wrB ((l.take L).drop o ++ List.replicate ((max (L - o + (o + s.length)) (2 * (C - o))) - (L - o)) 0) (L - o) s)) Tryd.underlying38 inf5.sz rfl rfl rfl (srcs_str rfl) (by show L - o + s.length ≤ List.length _; rw [newl_len ho hL (by omega)]; omega) (by simp) (wrB_list ((l.take L).drop o ++ List.replicate ((max (L - o + (o + s.length)) (2 * (C - o))) - (L - o)) 0) (L - o) s)) trivial rfl ?_
 refine .q (op_assign rfl) trivial rfl ?_
 refine .q (op_assign rfl) trivial rfl ?_
 refine .nil ?_
 show Ev _ _ _ _ _
 refine .ret ?_
 show RetOk _ _ _ _ _ _ _
 exact ret2v rfl (.inl rfl) rfl rfl rfl rfl ⟨rfl, rfl, trivial⟩
set_option maxRecDepth 100000 in
theorem ws_rnew0 (most : Int) (z : Option BX) (l : List UInt8) (C L : Nat) (r : Int) (hL : L ≤ l.length) (hlC : l.length ≤ C) (hC : C ≤ 9223372036854775807) (hC0 : 0 < C) (hLb : L ≤ 1000000) (h0 : 0 < L) (s : List UInt8) (hs : s.length ≤ 1000000) (hs0 : 0 < s.length) (hsC : ¬ s.length ≤ C) : Meets Tryd.prog 18 [.ptr 500 2, .str s] [(500, some ⟨row0 most (.slk 501 0 (L) (C) true) ((L : Int)) (r) 502 z, 51, true⟩), (501, some ⟨bufC l C, 5, true⟩)] (.tup [.i64 (s.length : Int), .val .nilIface]) [(500, some ⟨row0 most (.slk 1000 0 (0 - 0 + s.length) (max (0 - 0 + (0 + s.length)) (2 * (C - 0))) false) (0) (0) 502 z, 51, true⟩), (1000, some ⟨.aggB (wrB ((l.take 0).drop 0 ++ List.replicate ((max (0 - 0 + (0 + s.length)) (2 * (C - 0))) - (0 - 0)) 0) 0 s), 5, true⟩)] := by
 refine meets_of_ev (nt := 32) Tryd.func18 rfl rfl (Nat.le_of_ble_eq_true rfl) ?_
 refine .seq ?_
 refine .region ?_
 refine .q (op_assign rfl) trivial rfl ?_
 refine .q (op_assign rfl) trivial rfl ?_
 refine .nil ?_
 show Ev _ _ _ _ _
 refine .seq ?_
 refine .region ?_
 refine .q (op_move rfl) trivial rfl ?_
 refine .q (op_nilCheck rfl) trivial rfl ?_
 refine .q (op_fieldAddr (m := 0) Tryd.underlying48 rfl (by kernel_rfl) rfl) trivial rfl ?_
 refine .as (.ptr 500 4) rfl ?_
 refine .w (op_store (by kernel_rfl) rfl rfl rfl rfl rfl (by show 4 < 8; decide)) trivial rfl ?_
 refine .nil ?_
 show Ev _ _ _ _ _
 refine .seq ?_
 refine .region ?_
 refine .q (op_move rfl) trivial rfl ?_
 refine .q (op_move rfl) trivial rfl ?_
 refine .q (op_len_str Tryd.underlying9 rfl) trivial rfl ?_
 refine .q (op_call (U := []) [(500, 500), (501, 501), (502, 502)] [] (tg_no0 most z C L 0 ((L : Int)) s.length (by omega) (by omega) hC0 (by omega) ((by omega))) Tryd.func23 (by kernel_rfl) rfl rfl rfl (⟨⟨_, rfl, rfl, rfl⟩, ⟨_, rfl, rfl, rfl⟩, trivial⟩) (⟨⟨_, _, rfl, rfl, row0_ren _ _ _ _ _ _ _, rfl, (fun h => by cases h), row0_nmC _ _ _ _ _ _ _ rfl rfl⟩, trivial⟩) (trivial) (⟨(fun h => by cases h), trivial⟩) rfl) trivial rfl ?_
 refine .q (op_move rfl) trivial rfl ?_
 refine .q (op_extract rfl rfl) trivial rfl ?_
 refine .q (op_extract rfl rfl) trivial rfl ?_
 refine .q (op_assign rfl) trivial rfl ?_
 refine .q (op_assign rfl) trivial rfl ?_
 refine .nil ?_
 show Ev _ _ _ _ _
 refine .seq ?_
 refine .seq ?_
 refine .region ?_
 refine .q (op_move rfl) trivial rfl ?_
 refine .q (op_notB rfl) trivial rfl ?_
 refine .nil ?_
 show Ev _ _ _ _ _
 refine .cond_true rfl (rfl) ?_
 refine .region ?_
 refine .q (op_move rfl) trivial rfl ?_
 refine .q (op_move rfl) trivial rfl ?_
 refine .q (op_len_str Tryd.underlying9 rfl) trivial rfl ?_
 refine .a (op_call (U := [(1000, some ⟨.aggB ((l.take 0).drop 0 ++ List.replicate ((max (0 - 0 + (0 + s.length)) (2 * (C - 0))) - (0 - 0)) 0), 5, true⟩), (500, some ⟨row0 most (.slk 1000 0 (0 - 0 + s.length) (max (0 - 0 + (0 + s.length)) (2 * (C - 0))) false) (0) (0) 502 z, 51, true⟩), (501, none)]) [(500, 500), (501, 501), (502, 502)] [(1000, 1136)] (grow_rnew0 most z l C L 0 hL hlC hC hC0 hLb h0 s.length hs hs0 hsC) Tryd.func24 (by kernel_rfl) rfl rfl rfl (⟨⟨_, rfl, rfl, rfl⟩, ⟨_, rfl, rfl, rfl⟩, trivial⟩) (⟨⟨_, _, rfl, rfl, row0_ren _ _ _ _ _ _ _, rfl, id, row0_nmC _ _ _ _ _ _ _ rfl rfl⟩, ⟨_, _, rfl, rfl, bufC_ren _ _ _, rfl, id, bufC_nmC _ _ _⟩, trivial⟩) (⟨⟨1136, _, rfl, rfl, rfl, rfl, .inl rfl⟩, ⟨500, _, rfl, row0_uo rfl rfl, rfl, row0_nmF _ _ _ _ _ _ _ _ rfl rfl, .inr ⟨rfl, _, rfl, rfl⟩⟩, trivial⟩) (⟨(fun _ => ⟨500, _, rfl, rfl⟩), (fun _ => ⟨501, _, rfl, rfl⟩), trivial⟩) rfl) trivial rfl ?_
 refine .q (op_assign rfl) trivial rfl ?_
 refine .nil ?_
 show Ev _ _ _ _ _
 refine .seq ?_
 refine .region ?_
 refine .q (op_move rfl) trivial rfl ?_
 refine .q (op_nilCheck rfl) trivial rfl ?_
 refine .q (op_fieldAddr (m := 0) Tryd.underlying48 rfl (by kernel_rfl) rfl) trivial rfl ?_
 refine .as (.ptr 500 2) rfl ?_
 refine .q (op_load Tryd.underlying38 rfl rfl rfl rfl (by show 2 < 8; decide)) trivial rfl ?_
 refine .asR (.sl 1000 0 (0 - 0 + s.length) 1) slk_sl ?_
 refine .q (op_move rfl) trivial rfl ?_
 refine .q (op_slice_sl Tryd.underlying38 inf5.sz rfl (bnd_some rfl rfl) rfl (by omega) (by omega)) trivial rfl ?_
 refine .as (.sl 1000 (0) s.length 1) (by rw [show 0 + (0) * 1 = 0 by omega, show 0 - 0 + s.length - (0) = s.length by omega]) ?_
 refine .q (op_move rfl) trivial rfl ?_
 refine .a (op_copy (q := s.length) (c' := .aggB (wrB ((l.take 0).drop 0 ++ List.replicate ((max (0 - 0 + (0 + s.length)) (2 * (C - 0))) - (0 - 0)) 0) 0 s)) Tryd.underlying38 inf5.sz rfl rfl rfl (srcs_str rfl) (by show 0 + s.length ≤ List.length _; rw [newl_len (Nat.le_refl _) (Nat.zero_le _) (by omega)]; omega) (by simp) (wrB_list ((l.take 0).drop 0 ++ List.replicate ((max (0 - 0 + (0 + s.length)) (2 * (C - 0))) - (0 - 0)) 0) 0 s)) trivial rfl ?_
 refine .q (op_assign rfl) trivial rfl ?_
 refine .q (op_assign rfl) trivial rfl ?_
 refine .nil ?_
 show Ev _ _ _ _ _
 refine .ret ?_
 show RetOk _ _ _ _ _ _ _
 exact ret2v rfl (.inl rfl) rfl rfl rfl rfl ⟨rfl, rfl, trivial⟩
set_option maxRecDepth 100000 in
theorem tg_nil00 (most : Int) (z : Option BX) (r : Int) : Meets Tryd.prog 23 [.ptr 500 2, .i64 0] [(500, some ⟨row0 most (.nilsl) (0) (r) 502 z, 51, true⟩)] (.tup [.i64 0, .bool true]) [(500, some ⟨row0 most (.nilsl) (0) (r) 502 z, 51, true⟩)] := by
 refine meets_of_ev (nt := 33) Tryd.func23 rfl rfl (Nat.le_of_ble_eq_true rfl) ?_
 refine .seq ?_
 refine .region ?_
 refine .q (op_assign rfl) trivial rfl ?_
 refine .q (op_assign rfl) trivial rfl ?_
 refine .nil ?_
 show Ev _ _ _ _ _
 refine .seq ?_
 refine .seq ?_
 refine .region ?_
 refine .q (op_move rfl) trivial rfl ?_
 refine .q (op_nilCheck rfl) trivial rfl ?_
 refine .q (op_fieldAddr (m := 0) Tryd.underlying48 rfl (by kernel_rfl) rfl) trivial rfl ?_
 refine .as (.ptr 500 2) rfl ?_
 refine .q (op_load Tryd.underlying38 rfl rfl rfl rfl (by show 2 < 8; decide)) trivial rfl ?_
 refine .q (op_len_nil Tryd.underlying38 rfl) trivial rfl ?_
 refine .q (op_assign rfl) trivial rfl ?_
 refine .nil ?_
 show Ev _ _ _ _ _
 refine .seq ?_
 refine .region ?_
 refine .q (op_move rfl) trivial rfl ?_
 refine .q (op_move rfl) trivial rfl ?_
 refine .q (op_nilCheck rfl) trivial rfl ?_
 refine .q (op_fieldAddr (m := 0) Tryd.underlying48 rfl (by kernel_rfl) rfl) trivial rfl ?_
 refine .as (.ptr 500 2) rfl ?_
 refine .q (op_load Tryd.underlying38 rfl rfl rfl rfl (by show 2 < 8; decide)) trivial rfl ?_
 refine .q (op_cap_nil Tryd.underlying38 rfl) trivial rfl ?_
 refine .q (op_move rfl) trivial rfl ?_
 refine .q (op_subI rfl rfl ⟨by omega, by omega⟩) trivial rfl ?_
 refine .q (op_cmpI rfl rfl rfl) trivial rfl ?_
 refine .nil ?_
 show Ev _ _ _ _ _
 refine .cond_true rfl (decide_eq_true (by omega)) ?_
 refine .seq ?_
 refine .region ?_
 refine .q (op_move rfl) trivial rfl ?_
 refine .q (op_move rfl) trivial rfl ?_
 refine .q (op_nilCheck rfl) trivial rfl ?_
 refine .q (op_fieldAddr (m := 0) Tryd.underlying48 rfl (by kernel_rfl) rfl) trivial rfl ?_
 refine .as (.ptr 500 2) rfl ?_
 refine .q (op_load Tryd.underlying38 rfl rfl rfl rfl (by show 2 < 8; decide)) trivial rfl ?_
 refine .q (op_move rfl) trivial rfl ?_
 refine .q (op_move rfl) trivial rfl ?_
 refine .q (op_addI rfl rfl ⟨by omega, by omega⟩) trivial rfl ?_
 refine .q (op_slice_nil Tryd.underlying38 inf5.sz rfl rfl (bnd_some rfl (by rfl))) trivial rfl ?_
 refine .q (op_nilCheck rfl) trivial rfl ?_
 refine .q (op_fieldAddr (m := 0) Tryd.underlying48 rfl (by kernel_rfl) rfl) trivial rfl ?_
 refine .as (.ptr 500 2) rfl ?_
 refine .w (op_store (by kernel_rfl) rfl rfl rfl rfl rfl (by show 2 < 8; decide)) trivial rfl ?_
 refine .nil ?_
 show Ev _ _ _ _ _
 refine .seq ?_
 refine .region ?_
 refine .q (op_move rfl) trivial rfl ?_
 refine .q (op_assign rfl) trivial rfl ?_
 refine .q (op_assign rfl) trivial rfl ?_
 refine .nil ?_
 show Ev _ _ _ _ _
 refine .ret ?_
 show RetOk _ _ _ _ _ _ _
 exact ret2v rfl (.inl rfl) rfl rfl rfl rfl ⟨rfl, trivial⟩
set_option maxRecDepth 100000 in
theorem ws_nil00 (most : Int) (z : Option BX) (r : Int) : Meets Tryd.prog 18 [.ptr 500 2, .str []] [(500, some ⟨row0 most (.nilsl) (0) (r) 502 z, 51, true⟩)] (.tup [.i64 0, .val .nilIface]) [(500, some ⟨row0 most (.nilsl) (0) (0) 502 z, 51, true⟩)] := by
 refine meets_of_ev (nt := 32) Tryd.func18 rfl rfl (Nat.le_of_ble_eq_true rfl) ?_
 refine .seq ?_
 refine .region ?_
 refine .q (op_assign rfl) trivial rfl ?_
 refine .q (op_assign rfl) trivial rfl ?_
 refine .nil ?_
 show Ev _ _ _ _ _
 refine .seq ?_
 refine .region ?_
 refine .q (op_move rfl) trivial rfl ?_
 refine .q (op_nilCheck rfl) trivial rfl ?_
 refine .q (op_fieldAddr (m := 0) Tryd.underlying48 rfl (by kernel_rfl) rfl) trivial rfl ?_
 refine .as (.ptr 500 4) rfl ?_
 refine .w (op_store (by kernel_rfl) rfl rfl rfl rfl rfl (by show 4 < 8; decide)) trivial rfl ?_
 refine .nil ?_
 show Ev _ _ _ _ _
 refine .seq ?_
 refine .region ?_
 refine .q (op_move rfl) trivial rfl ?_
 refine .q (op_move rfl) trivial rfl ?_
 refine .q (op_len_str Tryd.underlying9 rfl) trivial rfl ?_
 refine .a (op_call (U := [(500, some ⟨row0 most (.nilsl) (0) (0) 502 z, 51, true⟩)]) [(500, 500), (502, 502)] [] (tg_nil00 most z 0) Tryd.func23 (by kernel_rfl) rfl rfl rfl (⟨⟨_, rfl, rfl, rfl⟩, ⟨_, rfl, rfl, rfl⟩, trivial⟩) (⟨⟨_, _, rfl, rfl, row0_ren _ _ _ _ _ _ _, rfl, id, row0_nmC _ _ _ _ _ _ _ rfl rfl⟩, trivial⟩) (⟨⟨500, _, rfl, row0_uo rfl rfl, rfl, row0_nmF _ _ _ _ _ _ _ _ rfl rfl, .inr ⟨rfl, _, rfl, rfl⟩⟩, trivial⟩) (⟨(fun _ => ⟨500, _, rfl, rfl⟩), trivial⟩) rfl) trivial rfl ?_
 refine .q (op_move rfl) trivial rfl ?_
 refine .q (op_extract rfl rfl) trivial rfl ?_
 refine .q (op_extract rfl rfl) trivial rfl ?_
 refine .q (op_assign rfl) trivial rfl ?_
 refine .q (op_assign rfl) trivial rfl ?_
 refine .nil ?_
 show Ev _ _ _ _ _
 refine .seq ?_
 refine .seq ?_
 refine .region ?_
 refine .q (op_move rfl) trivial rfl ?_
 refine .q (op_notB rfl) trivial rfl ?_
 refine .nil ?_
 show Ev _ _ _ _ _
 refine .cond_false rfl (rfl) ?_
 refine .skip ?_
 show Ev _ _ _ _ _
 refine .seq ?_
 refine .region ?_
 refine .q (op_move rfl) trivial rfl ?_
 refine .q (op_nilCheck rfl) trivial rfl ?_
 refine .q (op_fieldAddr (m := 0) Tryd.underlying48 rfl (by kernel_rfl) rfl) trivial rfl ?_
 refine .as (.ptr 500 2) rfl ?_
 refine .q (op_load Tryd.underlying38 rfl rfl rfl rfl (by show 2 < 8; decide)) trivial rfl ?_
 refine .q (op_move rfl) trivial rfl ?_
 refine .q (op_slice_nil Tryd.underlying38 inf5.sz rfl (bnd_some rfl (by rfl)) rfl) trivial rfl ?_
 refine .q (op_move rfl) trivial rfl ?_
 refine .q (op_copy_nil Tryd.underlying38 inf5.sz rfl rfl) trivial rfl ?_
 refine .q (op_assign rfl) trivial rfl ?_
 refine .q (op_assign rfl) trivial rfl ?_
 refine .nil ?_
 show Ev _ _ _ _ _
 refine .ret ?_
 show RetOk _ _ _ _ _ _ _
 exact ret2v rfl (.inl rfl) rfl rfl rfl rfl ⟨rfl, trivial⟩
set_option maxRecDepth 100000 in
theorem nx_ap0 (most : Int) (z : Option BX) (l : List UInt8) (C L o : Nat) (r : Int) (ho : o ≤ L) (hL : L ≤ l.length) (hlC : l.length ≤ C) (hC : C ≤ 9223372036854775807) (hC0 : 0 < C) (hLb : L ≤ 1000000) (k : Nat) (n : Int) (hk : k = L - o) (hn : ((L : Int) - (o : Int)) < n) (hp : 0 < k) : Meets Tryd.prog 21 [.ptr 500 2, .i64 n] [(500, some ⟨row0 most (.slk 501 0 (L) (C) true) ((o : Int)) (r) 502 z, 51, true⟩)] (.sl 501 o k 1) [(500, some ⟨row0 most (.slk 501 0 (L) (C) true) (((o + k : Nat) : Int)) (-1) 502 z, 51, true⟩)] := by
 refine meets_of_ev (nt := 45) Tryd.func21 rfl rfl (Nat.le_of_ble_eq_true rfl) ?_
 refine .seq ?_
 refine .region ?_
 refine .q (op_assign rfl) trivial rfl ?_
 refine .nil ?_
 show Ev _ _ _ _ _
 refine .seq ?_
 refine .region ?_
 refine .q (op_move rfl) trivial rfl ?_
 refine .q (op_nilCheck rfl) trivial rfl ?_
 refine .q (op_fieldAddr (m := 0) Tryd.underlying48 rfl (by kernel_rfl) rfl) trivial rfl ?_
 refine .as (.ptr 500 4) rfl ?_
 refine .w (op_store (by kernel_rfl) rfl rfl rfl rfl rfl (by show 4 < 8; decide)) trivial rfl ?_
 refine .nil ?_
 show Ev _ _ _ _ _
 refine .seq ?_
 refine .region ?_
 refine .q (op_move rfl) trivial rfl ?_
 refine .q (op_call (U := []) [(500, 500), (501, 501), (502, 502)] [] (blen_ev0 most z 0 L o C (by omega) ho) Tryd.func19 (by kernel_rfl) rfl rfl rfl (⟨⟨_, rfl, rfl, rfl⟩, trivial⟩) (⟨⟨_, _, rfl, rfl, row0_ren _ _ _ _ _ _ _, rfl, (fun h => by cases h), row0_nmC _ _ _ _ _ _ _ rfl rfl⟩, trivial⟩) (trivial) (⟨(fun h => by cases h), trivial⟩) rfl) trivial rfl ?_
 refine .q (op_assign rfl) trivial rfl ?_
 refine .nil ?_
 show Ev _ _ _ _ _
 refine .seq ?_
 refine .seq ?_
 refine .region ?_
 refine .q (op_move rfl) trivial rfl ?_
 refine .q (op_move rfl) trivial rfl ?_
 refine .q (op_cmpI rfl rfl rfl) trivial rfl ?_
 refine .nil ?_
 show Ev _ _ _ _ _
 refine .cond_true rfl (decide_eq_true (by omega)) ?_
 refine .region ?_
 refine .q (op_move rfl) trivial rfl ?_
 refine .q (op_assign rfl) trivial rfl ?_
 refine .as (.i64 (k : Int)) (congrArg AV.i64 (by omega)) ?_
 refine .nil ?_
 show Ev _ _ _ _ _
 refine .seq ?_
 refine .drawn [[], [0], [0, 1], [0, 1, 2], [], [4], [4, 5], [4, 5, 6], [], [8], [8, 9], [8, 9, 10], [], [8, 9, 10, 11, 12], [0, 1, 2, 3, 4, 5, 6, 7, 8, 9, 10, 11, 12, 13], [0, 1, 2, 3, 4, 5, 6, 7, 8, 9, 10, 11, 12, 13, 14]] [3, 7, 11] [] (by kernel_rfl) (by kernel_rfl) rfl ?_
 show DK _ [0, 1, 2, 3, 4, 5, 6, 7, 8, 9, 10, 11, 12, 13, 14, 15] _ _ _
 refine .q rfl (op_move rfl) trivial ?_
 refine .q rfl (op_nilCheck rfl) trivial ?_
 refine .q rfl (op_fieldAddr (m := 0) Tryd.underlying48 rfl (by kernel_rfl) rfl) trivial ?_
 refine .as (.ptr 500 2) rfl ?_
 refine .q rfl (op_load Tryd.underlying38 rfl rfl rfl rfl (by show 2 < 8; decide)) trivial ?_
 refine .q rfl (op_move rfl) trivial ?_
 refine .q rfl (op_nilCheck rfl) trivial ?_
 refine .q rfl (op_fieldAddr (m := 0) Tryd.underlying48 rfl (by kernel_rfl) rfl) trivial ?_
 refine .as (.ptr 500 3) rfl ?_
 refine .q rfl (op_load Tryd.underlying3 rfl rfl rfl rfl (by show 3 < 8; decide)) trivial ?_
 refine .q rfl (op_move rfl) trivial ?_
 refine .q rfl (op_nilCheck rfl) trivial ?_
 refine .q rfl (op_fieldAddr (m := 0) Tryd.underlying48 rfl (by kernel_rfl) rfl) trivial ?_
 refine .as (.ptr 500 3) rfl ?_
 refine .q rfl (op_load Tryd.underlying3 rfl rfl rfl rfl (by show 3 < 8; decide)) trivial ?_
 refine .q rfl (op_move rfl) trivial ?_
 refine .q rfl (op_addI rfl rfl ⟨by omega, by omega⟩) trivial ?_
 refine .q rfl (op_slice_slkS (l := o) (h := o + k) Tryd.underlying38 inf5.sz rfl (bnd_some rfl rfl) (bnd_some rfl (by omega)) (by omega) (by omega)) trivial ?_
 refine .as (.sl 501 o k 1) (by rw [Nat.zero_add, show o + k - o = k by omega]) ?_
 refine .q rfl (op_assign rfl) trivial ?_
 refine .nil ?_
 show Ev _ _ _ _ _
 refine .seq ?_
 refine .region ?_
 refine .q (op_move rfl) trivial rfl ?_
 refine .q (op_nilCheck rfl) trivial rfl ?_
 refine .q (op_fieldAddr (m := 0) Tryd.underlying48 rfl (by kernel_rfl) rfl) trivial rfl ?_
 refine .as (.ptr 500 3) rfl ?_
 refine .q (op_load Tryd.underlying3 rfl rfl rfl rfl (by show 3 < 8; decide)) trivial rfl ?_
 refine .q (op_move rfl) trivial rfl ?_
 refine .q (op_addI rfl rfl ⟨by omega, by omega⟩) trivial rfl ?_
 refine .as (.i64 ((o + k : Nat) : Int)) (congrArg AV.i64 (by omega)) ?_
 refine .q (op_nilCheck rfl) trivial rfl ?_
 refine .q (op_fieldAddr (m := 0) Tryd.underlying48 rfl (by kernel_rfl) rfl) trivial rfl ?_
 refine .as (.ptr 500 3) rfl ?_
 refine .w (op_store inf3.sz rfl rfl rfl rfl rfl (by show 3 < 8; decide)) trivial rfl ?_
 refine .nil ?_
 show Ev _ _ _ _ _
 refine .seq ?_
 refine .seq ?_
 refine .region ?_
 refine .q (op_move rfl) trivial rfl ?_
 refine .q (op_cmpI rfl rfl rfl) trivial rfl ?_
 refine .nil ?_
 show Ev _ _ _ _ _
 refine .cond_true rfl (decide_eq_true (by omega)) ?_
 refine .region ?_
 refine .q (op_move rfl) trivial rfl ?_
 refine .q (op_nilCheck rfl) trivial rfl ?_
 refine .q (op_fieldAddr (m := 0) Tryd.underlying48 rfl (by kernel_rfl) rfl) trivial rfl ?_
 refine .as (.ptr 500 4) rfl ?_
 refine .w (op_store (by kernel_rfl) rfl rfl rfl rfl rfl (by show 4 < 8; decide)) trivial rfl ?_
 refine .nil ?_
 show Ev _ _ _ _ _
 refine .seq ?_
 refine .region ?_
 refine .q (op_move rfl) trivial rfl ?_
 refine .q (op_assign rfl) trivial rfl ?_
 refine .nil ?_
 show Ev _ _ _ _ _
 refine .ret ?_
 show RetOk _ _ _ _ _ _ _
 exact ret1v rfl (.inl rfl) rfl (rfl) ⟨rfl, trivial⟩
set_option maxRecDepth 100000 in
theorem nx_az0 (most : Int) (z : Option BX) (l : List UInt8) (C L o : Nat) (r : Int) (ho : o ≤ L) (hL : L ≤ l.length) (hlC : l.length ≤ C) (hC : C ≤ 9223372036854775807) (hC0 : 0 < C) (hLb : L ≤ 1000000) (k : Nat) (n : Int) (hk : k = L - o) (hn : ((L : Int) - (o : Int)) < n) (hp : k = 0) : Meets Tryd.prog 21 [.ptr 500 2, .i64 n] [(500, some ⟨row0 most (.slk 501 0 (L) (C) true) ((o : Int)) (r) 502 z, 51, true⟩)] (.sl 501 o k 1) [(500, some ⟨row0 most (.slk 501 0 (L) (C) true) (((o + k : Nat) : Int)) (0) 502 z, 51, true⟩)] := by
 refine meets_of_ev (nt := 45) Tryd.func21 rfl rfl (Nat.le_of_ble_eq_true rfl) ?_
 refine .seq ?_
 refine .region ?_
 refine .q (op_assign rfl) trivial rfl ?_
 refine .nil ?_
 show Ev _ _ _ _ _
 refine .seq ?_
 refine .region ?_
 refine .q (op_move rfl) trivial rfl ?_
 refine .q (op_nilCheck rfl) trivial rfl ?_
 refine .q (op_fieldAddr (m := 0) Tryd.underlying48 rfl (by kernel_rfl) rfl) trivial rfl ?_
 refine .as (.ptr 500 4) rfl ?_
 refine .w (op_store (by kernel_rfl) rfl rfl rfl rfl rfl (by show 4 < 8; decide)) trivial rfl ?_
 refine .nil ?_
 show Ev _ _ _ _ _
 refine .seq ?_
 refine .region ?_
 refine .q (op_move rfl) trivial rfl ?_
 refine .q (op_call (U := []) [(500, 500), (501, 501), (502, 502)] [] (blen_ev0 most z 0 L o C (by omega) ho) Tryd.func19 (by kernel_rfl) rfl rfl rfl (⟨⟨_, rfl, rfl, rfl⟩, trivial⟩) (⟨⟨_, _, rfl, rfl, row0_ren _ _ _ _ _ _ _, rfl, (fun h => by cases h), row0_nmC _ _ _ _ _ _ _ rfl rfl⟩, trivial⟩) (trivial) (⟨(fun h => by cases h), trivial⟩) rfl) trivial rfl ?_
 refine .q (op_assign rfl) trivial rfl ?_
 refine .nil ?_
 show Ev _ _ _ _ _
 refine .seq ?_
 refine .seq ?_
 refine .region ?_
 refine .q (op_move rfl) trivial rfl ?_
 refine .q (op_move rfl) trivial rfl ?_
 refine .q (op_cmpI rfl rfl rfl) trivial rfl ?_
 refine .nil ?_
 show Ev _ _ _ _ _
 refine .cond_true rfl (decide_eq_true (by omega)) ?_
 refine .region ?_
 refine .q (op_move rfl) trivial rfl ?_
 refine .q (op_assign rfl) trivial rfl ?_
 refine .as (.i64 (k : Int)) (congrArg AV.i64 (by omega)) ?_
 refine .nil ?_
 show Ev _ _ _ _ _
 refine .seq ?_
 refine .drawn [[], [0], [0, 1], [0, 1, 2], [], [4], [4, 5], [4, 5, 6], [], [8], [8, 9], [8, 9, 10], [], [8, 9, 10, 11, 12], [0, 1, 2, 3, 4, 5, 6, 7, 8, 9, 10, 11, 12, 13], [0, 1, 2, 3, 4, 5, 6, 7, 8, 9, 10, 11, 12, 13, 14]] [3, 7, 11] [] (by kernel_rfl) (by kernel_rfl) rfl ?_
 show DK _ [0, 1, 2, 3, 4, 5, 6, 7, 8, 9, 10, 11, 12, 13, 14, 15] _ _ _
 refine .q rfl (op_move rfl) trivial ?_
 refine .q rfl (op_nilCheck rfl) trivial ?_
 refine .q rfl (op_fieldAddr (m := 0) Tryd.underlying48 rfl (by kernel_rfl) rfl) trivial ?_
 refine .as (.ptr 500 2) rfl ?_
 refine .q rfl (op_load Tryd.underlying38 rfl rfl rfl rfl (by show 2 < 8; decide)) trivial ?_
 refine .q rfl (op_move rfl) trivial ?_
 refine .q rfl (op_nilCheck rfl) trivial ?_
 refine .q rfl (op_fieldAddr (m := 0) Tryd.underlying48 rfl (by kernel_rfl) rfl) trivial ?_
 refine .as (.ptr 500 3) rfl ?_
 refine .q rfl (op_load Tryd.underlying3 rfl rfl rfl rfl (by show 3 < 8; decide)) trivial ?_
 refine .q rfl (op_move rfl) trivial ?_
 refine .q rfl (op_nilCheck rfl) trivial ?_
 refine .q rfl (op_fieldAddr (m := 0) Tryd.underlying48 rfl (by kernel_rfl) rfl) trivial ?_
 refine .as (.ptr 500 3) rfl ?_
 refine .q rfl (op_load Tryd.underlying3 rfl rfl rfl rfl (by show 3 < 8; decide)) trivial ?_
 refine .q rfl (op_move rfl) trivial ?_
 refine .q rfl (op_addI rfl rfl ⟨by omega, by omega⟩) trivial ?_
 refine .q rfl (op_slice_slkS (l := o) (h := o + k) Tryd.underlying38 inf5.sz rfl (bnd_some rfl rfl) (bnd_some rfl (by omega)) (by omega) (by omega)) trivial ?_
 refine .as (.sl 501 o k 1) (by rw [Nat.zero_add, show o + k - o = k by omega]) ?_
 refine .q rfl (op_assign rfl) trivial ?_
 refine .nil ?_
 show Ev _ _ _ _ _
 refine .seq ?_
 refine .region ?_
 refine .q (op_move rfl) trivial rfl ?_
 refine .q (op_nilCheck rfl) trivial rfl ?_
 refine .q (op_fieldAddr (m := 0) Tryd.underlying48 rfl (by kernel_rfl) rfl) trivial rfl ?_
 refine .as (.ptr 500 3) rfl ?_
 refine .q (op_load Tryd.underlying3 rfl rfl rfl rfl (by show 3 < 8; decide)) trivial rfl ?_
 refine .q (op_move rfl) trivial rfl ?_
 refine .q (op_addI rfl rfl ⟨by omega, by omega⟩) trivial rfl ?_
 refine .as (.i64 ((o + k : Nat) : Int)) (congrArg AV.i64 (by omega)) ?_
 refine .q (op_nilCheck rfl) trivial rfl ?_
 refine .q (op_fieldAddr (m := 0) Tryd.underlying48 rfl (by kernel_rfl) rfl) trivial rfl ?_
 refine .as (.ptr 500 3) rfl ?_
 refine .w (op_store inf3.sz rfl rfl rfl rfl rfl (by show 3 < 8; decide)) trivial rfl ?_
 refine .nil ?_
 show Ev _ _ _ _ _
 refine .seq ?_
 refine .seq ?_
 refine .region ?_
 refine .q (op_move rfl) trivial rfl ?_
 refine .q (op_cmpI rfl rfl rfl) trivial rfl ?_
 refine .nil ?_
 show Ev _ _ _ _ _
 refine .cond_false rfl (decide_eq_false (by omega)) ?_
 refine .skip ?_
 show Ev _ _ _ _ _
 refine .seq ?_
 refine .region ?_
 refine .q (op_move rfl) trivial rfl ?_
 refine .q (op_assign rfl) trivial rfl ?_
 refine .nil ?_
 show Ev _ _ _ _ _
 refine .ret ?_
 show RetOk _ _ _ _ _ _ _
 exact ret1v rfl (.inl rfl) rfl (rfl) ⟨rfl, trivial⟩
set_option maxRecDepth 100000 in
theorem nx_cp0 (most : Int) (z : Option BX) (l : List UInt8) (C L o : Nat) (r : Int) (ho : o ≤ L) (hL : L ≤ l.length) (hlC : l.length ≤ C) (hC : C ≤ 9223372036854775807) (hC0 : 0 < C) (hLb : L ≤ 1000000) (k : Nat) (hk : k ≤ L - o) (hp : 0 < k) : Meets Tryd.prog 21 [.ptr 500 2, .i64 (k : Int)] [(500, some ⟨row0 most (.slk 501 0 (L) (C) true) ((o : Int)) (r) 502 z, 51, true⟩)] (.sl 501 o k 1) [(500, some ⟨row0 most (.slk 501 0 (L) (C) true) (((o + k : Nat) : Int)) (-1) 502 z, 51, true⟩)] := by
 refine meets_of_ev (nt := 45) Tryd.func21 rfl rfl (Nat.le_of_ble_eq_true rfl) ?_
 refine .seq ?_
 refine .region ?_
 refine .q (op_assign rfl) trivial rfl ?_
 refine .nil ?_
 show Ev _ _ _ _ _
 refine .seq ?_
 refine .region ?_
 refine .q (op_move rfl) trivial rfl ?_
 refine .q (op_nilCheck rfl) trivial rfl ?_
 refine .q (op_fieldAddr (m := 0) Tryd.underlying48 rfl (by kernel_rfl) rfl) trivial rfl ?_
 refine .as (.ptr 500 4) rfl ?_
 refine .w (op_store (by kernel_rfl) rfl rfl rfl rfl rfl (by show 4 < 8; decide)) trivial rfl ?_
 refine .nil ?_
 show Ev _ _ _ _ _
 refine .seq ?_
 refine .region ?_
 refine .q (op_move rfl) trivial rfl ?_
 refine .q (op_call (U := []) [(500, 500), (501, 501), (502, 502)] [] (blen_ev0 most z 0 L o C (by omega) ho) Tryd.func19 (by kernel_rfl) rfl rfl rfl (⟨⟨_, rfl, rfl, rfl⟩, trivial⟩) (⟨⟨_, _, rfl, rfl, row0_ren _ _ _ _ _ _ _, rfl, (fun h => by cases h), row0_nmC _ _ _ _ _ _ _ rfl rfl⟩, trivial⟩) (trivial) (⟨(fun h => by cases h), trivial⟩) rfl) trivial rfl ?_
 refine .q (op_assign rfl) trivial rfl ?_
 refine .nil ?_
 show Ev _ _ _ _ _
 refine .seq ?_
 refine .seq ?_
 refine .region ?_
 refine .q (op_move rfl) trivial rfl ?_
 refine .q (op_move rfl) trivial rfl ?_
 refine .q (op_cmpI rfl rfl rfl) trivial rfl ?_
 refine .nil ?_
 show Ev _ _ _ _ _
 refine .cond_false rfl (decide_eq_false (by omega)) ?_
 refine .skip ?_
 show Ev _ _ _ _ _
 refine .seq ?_
 refine .drawn [[], [0], [0, 1], [0, 1, 2], [], [4], [4, 5], [4, 5, 6], [], [8], [8, 9], [8, 9, 10], [], [8, 9, 10, 11, 12], [0, 1, 2, 3, 4, 5, 6, 7, 8, 9, 10, 11, 12, 13], [0, 1, 2, 3, 4, 5, 6, 7, 8, 9, 10, 11, 12, 13, 14]] [3, 7, 11] [] (by kernel_rfl) (by kernel_rfl) rfl ?_
 show DK _ [0, 1, 2, 3, 4, 5, 6, 7, 8, 9, 10, 11, 12, 13, 14, 15] _ _ _
 refine .q rfl (op_move rfl) trivial ?_
 refine .q rfl (op_nilCheck rfl) trivial ?_
 refine .q rfl (op_fieldAddr (m := 0) Tryd.underlying48 rfl (by kernel_rfl) rfl) trivial ?_
 refine .as (.ptr 500 2) rfl ?_
 refine .q rfl (op_load Tryd.underlying38 rfl rfl rfl rfl (by show 2 < 8; decide)) trivial ?_
 refine .q rfl (op_move rfl) trivial ?_
 refine .q rfl (op_nilCheck rfl) trivial ?_
 refine .q rfl (op_fieldAddr (m := 0) Tryd.underlying48 rfl (by kernel_rfl) rfl) trivial ?_
 refine .as (.ptr 500 3) rfl ?_
 refine .q rfl (op_load Tryd.underlying3 rfl rfl rfl rfl (by show 3 < 8; decide)) trivial ?_
 refine .q rfl (op_move rfl) trivial ?_
 refine .q rfl (op_nilCheck rfl) trivial ?_
 refine .q rfl (op_fieldAddr (m := 0) Tryd.underlying48 rfl (by kernel_rfl) rfl) trivial ?_
 refine .as (.ptr 500 3) rfl ?_
 refine .q rfl (op_load Tryd.underlying3 rfl rfl rfl rfl (by show 3 < 8; decide)) trivial ?_
 refine .q rfl (op_move rfl) trivial ?_
 refine .q rfl (op_addI rfl rfl ⟨by omega, by omega⟩) trivial ?_
 refine .q rfl (op_slice_slkS (l := o) (h := o + k) Tryd.underlying38 inf5.sz rfl (bnd_some rfl rfl) (bnd_some rfl (by omega)) (by omega) (by omega)) trivial ?_
 refine .as (.sl 501 o k 1) (by rw [Nat.zero_add, show o + k - o = k by omega]) ?_
 refine .q rfl (op_assign rfl) trivial ?_
 refine .nil ?_
 show Ev _ _ _ _ _
 refine .seq ?_
 refine .region ?_
 refine .q (op_move rfl) trivial rfl ?_
 refine .q (op_nilCheck rfl) trivial rfl ?_
 refine .q (op_fieldAddr (m := 0) Tryd.underlying48 rfl (by kernel_rfl) rfl) trivial rfl ?_
 refine .as (.ptr 500 3) rfl ?_
 refine .q (op_load Tryd.underlying3 rfl rfl rfl rfl (by show 3 < 8; decide)) trivial rfl ?_
 refine .q (op_move rfl) trivial rfl ?_
 refine .q (op_addI rfl rfl ⟨by omega, by omega⟩) trivial rfl ?_
 refine .as (.i64 ((o + k : Nat) : Int)) (congrArg AV.i64 (by omega)) ?_
 refine .q (op_nilCheck rfl) trivial rfl ?_
 refine .q (op_fieldAddr (m := 0) Tryd.underlying48 rfl (by kernel_rfl) rfl) trivial rfl ?_
 refine .as (.ptr 500 3) rfl ?_
 refine .w (op_store inf3.sz rfl rfl rfl rfl rfl (by show 3 < 8; decide)) trivial rfl ?_
 refine .nil ?_
 show Ev _ _ _ _ _
 refine .seq ?_
 refine .seq ?_
 refine .region ?_
 refine .q (op_move rfl) trivial rfl ?_
 refine .q (op_cmpI rfl rfl rfl) trivial rfl ?_
 refine .nil ?_
 show Ev _ _ _ _ _
 refine .cond_true rfl (decide_eq_true (by omega)) ?_
 refine .region ?_
 refine .q (op_move rfl) trivial rfl ?_
 refine .q (op_nilCheck rfl) trivial rfl ?_
 refine .q (op_fieldAddr (m := 0) Tryd.underlying48 rfl (by kernel_rfl) rfl) trivial rfl ?_
 refine .as (.ptr 500 4) rfl ?_
 refine .w (op_store (by kernel_rfl) rfl rfl rfl rfl rfl (by show 4 < 8; decide)) trivial rfl ?_
 refine .nil ?_
 show Ev _ _ _ _ _
 refine .seq ?_
 refine .region ?_
 refine .q (op_move rfl) trivial rfl ?_
 refine .q (op_assign rfl) trivial rfl ?_
 refine .nil ?_
 show Ev _ _ _ _ _
 refine .ret ?_
 show RetOk _ _ _ _ _ _ _
 exact ret1v rfl (.inl rfl) rfl (rfl) ⟨rfl, trivial⟩
set_option maxRecDepth 100000 in
theorem nx_cz0 (most : Int) (z : Option BX) (l : List UInt8) (C L o : Nat) (r : Int) (ho : o ≤ L) (hL : L ≤ l.length) (hlC : l.length ≤ C) (hC : C ≤ 9223372036854775807) (hC0 : 0 < C) (hLb : L ≤ 1000000) (k : Nat) (hk : k ≤ L - o) (hp : k = 0) : Meets Tryd.prog 21 [.ptr 500 2, .i64 (k : Int)] [(500, some ⟨row0 most (.slk 501 0 (L) (C) true) ((o : Int)) (r) 502 z, 51, true⟩)] (.sl 501 o k 1) [(500, some ⟨row0 most (.slk 501 0 (L) (C) true) (((o + k : Nat) : Int)) (0) 502 z, 51, true⟩)] := by
 refine meets_of_ev (nt := 45) Tryd.func21 rfl rfl (Nat.le_of_ble_eq_true rfl) ?_
 refine .seq ?_
 refine .region ?_
 refine .q (op_assign rfl) trivial rfl ?_
 refine .nil ?_
 show Ev _ _ _ _ _
 refine .seq ?_
 refine .region ?_
 refine .q (op_move rfl) trivial rfl ?_
 refine .q (op_nilCheck rfl) trivial rfl ?_
 refine .q (op_fieldAddr (m := 0) Tryd.underlying48 rfl (by kernel_rfl) rfl) trivial rfl ?_
 refine .as (.ptr 500 4) rfl ?_
 refine .w (op_store (by kernel_rfl) rfl rfl rfl rfl rfl (by show 4 < 8; decide)) trivial rfl ?_
 refine .nil ?_
 show Ev _ _ _ _ _
 refine .seq ?_
 refine .region ?_
 refine .q (op_move rfl) trivial rfl ?_
 refine .q (op_call (U := []) [(500, 500), (501, 501), (502, 502)] [] (blen_ev0 most z 0 L o C (by omega) ho) Tryd.func19 (by kernel_rfl) rfl rfl rfl (⟨⟨_, rfl, rfl, rfl⟩, trivial⟩) (⟨⟨_, _, rfl, rfl, row0_ren _ _ _ _ _ _ _, rfl, (fun h => by cases h), row0_nmC _ _ _ _ _ _ _ rfl rfl⟩, trivial⟩) (trivial) (⟨(fun h => by cases h), trivial⟩) rfl) trivial rfl ?_
 refine .q (op_assign rfl) trivial rfl ?_
 refine .nil ?_
 show Ev _ _ _ _ _
 refine .seq ?_
 refine .seq ?_
 refine .region ?_
 refine .q (op_move rfl) trivial rfl ?_
 refine .q (op_move rfl) trivial rfl ?_
 refine .q (op_cmpI rfl rfl rfl) trivial rfl ?_
 refine .nil ?_
 show Ev _ _ _ _ _
 refine .cond_false rfl (decide_eq_false (by omega)) ?_
 refine .skip ?_
 show Ev _ _ _ _ _
 refine .seq ?_
 refine .drawn [[], [0], [0, 1], [0, 1, 2], [], [4], [4, 5], [4, 5, 6], [], [8], [8, 9], [8, 9, 10], [], [8, 9, 10, 11, 12], [0, 1, 2, 3, 4, 5, 6, 7, 8, 9, 10, 11, 12, 13], [0, 1, 2, 3, 4, 5, 6, 7, 8, 9, 10, 11, 12, 13, 14]] [3, 7, 11] [] (by kernel_rfl) (by kernel_rfl) rfl ?_
 show DK _ [0, 1, 2, 3, 4, 5, 6, 7, 8, 9, 10, 11, 12, 13, 14, 15] _ _ _
 refine .q rfl (op_move rfl) trivial ?_
 refine .q rfl (op_nilCheck rfl) trivial ?_
 refine .q rfl (op_fieldAddr (m := 0) Tryd.underlying48 rfl (by kernel_rfl) rfl) trivial ?_
 refine .as (.ptr 500 2) rfl ?_
 refine .q rfl (op_load Tryd.underlying38 rfl rfl rfl rfl (by show 2 < 8; decide)) trivial ?_
 refine .q rfl (op_move rfl) trivial ?_
 refine .q rfl (op_nilCheck rfl) trivial ?_
 refine .q rfl (op_fieldAddr (m := 0) Tryd.underlying48 rfl (by kernel_rfl) rfl) trivial ?_
 refine .as (.ptr 500 3) rfl ?_
 refine .q rfl (op_load Tryd.underlying3 rfl rfl rfl rfl (by show 3 < 8; decide)) trivial ?_
 refine .q rfl (op_move rfl) trivial ?_
 refine .q rfl (op_nilCheck rfl) trivial ?_
 refine .q rfl (op_fieldAddr (m := 0) Tryd.underlying48 rfl (by kernel_rfl) rfl) trivial ?_
 refine .as (.ptr 500 3) rfl ?_
 refine .q rfl (op_load Tryd.underlying3 rfl rfl rfl rfl (by show 3 < 8; decide)) trivial ?_
 refine .q rfl (op_move rfl) trivial ?_
 refine .q rfl (op_addI rfl rfl ⟨by omega, by omega⟩) trivial ?_
 refine .q rfl (op_slice_slkS (l := o) (h := o + k) Tryd.underlying38 inf5.sz rfl (bnd_some rfl rfl) (bnd_some rfl (by omega)) (by omega) (by omega)) trivial ?_
 refine .as (.sl 501 o k 1) (by rw [Nat.zero_add, show o + k - o = k by omega]) ?_
 refine .q rfl (op_assign rfl) trivial ?_
 refine .nil ?_
 show Ev _ _ _ _ _
 refine .seq ?_
 refine .region ?_
 refine .q (op_move rfl) trivial rfl ?_
 refine .q (op_nilCheck rfl) trivial rfl ?_
 refine .q (op_fieldAddr (m := 0) Tryd.underlying48 rfl (by kernel_rfl) rfl) trivial rfl ?_
 refine .as (.ptr 500 3) rfl ?_
 refine .q (op_load Tryd.underlying3 rfl rfl rfl rfl (by show 3 < 8; decide)) trivial rfl ?_
 refine .q (op_move rfl) trivial rfl ?_
 refine .q (op_addI rfl rfl ⟨by omega, by omega⟩) trivial rfl ?_
 refine .as (.i64 ((o + k : Nat) : Int)) (congrArg AV.i64 (by omega)) ?_
 refine .q (op_nilCheck rfl) trivial rfl ?_
 refine .q (op_fieldAddr (m := 0) Tryd.underlying48 rfl (by kernel_rfl) rfl) trivial rfl ?_
 refine .as (.ptr 500 3) rfl ?_
 refine .w (op_store inf3.sz rfl rfl rfl rfl rfl (by show 3 < 8; decide)) trivial rfl ?_
 refine .nil ?_
 show Ev _ _ _ _ _
 refine .seq ?_
 refine .seq ?_
 refine .region ?_
 refine .q (op_move rfl) trivial rfl ?_
 refine .q (op_cmpI rfl rfl rfl) trivial rfl ?_
 refine .nil ?_
 show Ev _ _ _ _ _
 refine .cond_false rfl (decide_eq_false (by omega)) ?_
 refine .skip ?_
 show Ev _ _ _ _ _
 refine .seq ?_
 refine .region ?_
 refine .q (op_move rfl) trivial rfl ?_
 refine .q (op_assign rfl) trivial rfl ?_
 refine .nil ?_
 show Ev _ _ _ _ _
 refine .ret ?_
 show RetOk _ _ _ _ _ _ _
 exact ret1v rfl (.inl rfl) rfl (rfl) ⟨rfl, trivial⟩
set_option maxRecDepth 100000 in
theorem nxn_p0 (most : Int) (z : Option BX) (r : Int) (n : Int) (hn : 0 < n) : Meets Tryd.prog 21 [.ptr 500 2, .i64 n] [(500, some ⟨row0 most (.nilsl) (0) (r) 502 z, 51, true⟩)] .nilsl [(500, some ⟨row0 most (.nilsl) (0) (0) 502 z, 51, true⟩)] := by
 refine meets_of_ev (nt := 45) Tryd.func21 rfl rfl (Nat.le_of_ble_eq_true rfl) ?_
 refine .seq ?_
 refine .region ?_
 refine .q (op_assign rfl) trivial rfl ?_
 refine .nil ?_
 show Ev _ _ _ _ _
 refine .seq ?_
 refine .region ?_
 refine .q (op_move rfl) trivial rfl ?_
 refine .q (op_nilCheck rfl) trivial rfl ?_
 refine .q (op_fieldAddr (m := 0) Tryd.underlying48 rfl (by kernel_rfl) rfl) trivial rfl ?_
 refine .as (.ptr 500 4) rfl ?_
 refine .w (op_store (by kernel_rfl) rfl rfl rfl rfl rfl (by show 4 < 8; decide)) trivial rfl ?_
 refine .nil ?_
 show Ev _ _ _ _ _
 refine .seq ?_
 refine .region ?_
 refine .q (op_move rfl) trivial rfl ?_
 refine .q (op_call (U := []) [(500, 500), (502, 502)] [] (blen_nil0 most z 0) Tryd.func19 (by kernel_rfl) rfl rfl rfl (⟨⟨_, rfl, rfl, rfl⟩, trivial⟩) (⟨⟨_, _, rfl, rfl, row0_ren _ _ _ _ _ _ _, rfl, (fun h => by cases h), row0_nmC _ _ _ _ _ _ _ rfl rfl⟩, trivial⟩) (trivial) (⟨(fun h => by cases h), trivial⟩) rfl) trivial rfl ?_
 refine .q (op_assign rfl) trivial rfl ?_
 refine .nil ?_
 show Ev _ _ _ _ _
 refine .seq ?_
 refine .seq ?_
 refine .region ?_
 refine .q (op_move rfl) trivial rfl ?_
 refine .q (op_move rfl) trivial rfl ?_
 refine .q (op_cmpI rfl rfl rfl) trivial rfl ?_
 refine .nil ?_
 show Ev _ _ _ _ _
 refine .cond_true rfl (decide_eq_true (by omega)) ?_
 refine .region ?_
 refine .q (op_move rfl) trivial rfl ?_
 refine .q (op_assign rfl) trivial rfl ?_
 refine .nil ?_
 show Ev _ _ _ _ _
 refine .seq ?_
 refine .drawn [[], [0], [0, 1], [0, 1, 2], [], [4], [4, 5], [4, 5, 6], [], [8], [8, 9], [8, 9, 10], [], [8, 9, 10, 11, 12], [0, 1, 2, 3, 4, 5, 6, 7, 8, 9, 10, 11, 12, 13], [0, 1, 2, 3, 4, 5, 6, 7, 8, 9, 10, 11, 12, 13, 14]] [3, 7, 11] [] (by kernel_rfl) (by kernel_rfl) rfl ?_
 show DK _ [0, 1, 2, 3, 4, 5, 6, 7, 8, 9, 10, 11, 12, 13, 14, 15] _ _ _
 refine .q rfl (op_move rfl) trivial ?_
 refine .q rfl (op_nilCheck rfl) trivial ?_
 refine .q rfl (op_fieldAddr (m := 0) Tryd.underlying48 rfl (by kernel_rfl) rfl) trivial ?_
 refine .as (.ptr 500 2) rfl ?_
 refine .q rfl (op_load Tryd.underlying38 rfl rfl rfl rfl (by show 2 < 8; decide)) trivial ?_
 refine .q rfl (op_move rfl) trivial ?_
 refine .q rfl (op_nilCheck rfl) trivial ?_
 refine .q rfl (op_fieldAddr (m := 0) Tryd.underlying48 rfl (by kernel_rfl) rfl) trivial ?_
 refine .as (.ptr 500 3) rfl ?_
 refine .q rfl (op_load Tryd.underlying3 rfl rfl rfl rfl (by show 3 < 8; decide)) trivial ?_
 refine .q rfl (op_move rfl) trivial ?_
 refine .q rfl (op_nilCheck rfl) trivial ?_
 refine .q rfl (op_fieldAddr (m := 0) Tryd.underlying48 rfl (by kernel_rfl) rfl) trivial ?_
 refine .as (.ptr 500 3) rfl ?_
 refine .q rfl (op_load Tryd.underlying3 rfl rfl rfl rfl (by show 3 < 8; decide)) trivial ?_
 refine .q rfl (op_move rfl) trivial ?_
 refine .q rfl (op_addI rfl rfl ⟨by omega, by omega⟩) trivial ?_
 refine .q rfl (op_slice_nil Tryd.underlying38 inf5.sz rfl (bnd_some rfl (by rfl)) (bnd_some rfl (by rfl))) trivial ?_
 refine .q rfl (op_assign rfl) trivial ?_
 refine .nil ?_
 show Ev _ _ _ _ _
 refine .seq ?_
 refine .region ?_
 refine .q (op_move rfl) trivial rfl ?_
 refine .q (op_nilCheck rfl) trivial rfl ?_
 refine .q (op_fieldAddr (m := 0) Tryd.underlying48 rfl (by kernel_rfl) rfl) trivial rfl ?_
 refine .as (.ptr 500 3) rfl ?_
 refine .q (op_load Tryd.underlying3 rfl rfl rfl rfl (by show 3 < 8; decide)) trivial rfl ?_
 refine .q (op_move rfl) trivial rfl ?_
 refine .q (op_addI rfl rfl ⟨by omega, by omega⟩) trivial rfl ?_
 refine .q (op_nilCheck rfl) trivial rfl ?_
 refine .q (op_fieldAddr (m := 0) Tryd.underlying48 rfl (by kernel_rfl) rfl) trivial rfl ?_
 refine .as (.ptr 500 3) rfl ?_
 refine .w (op_store inf3.sz rfl rfl rfl rfl rfl (by show 3 < 8; decide)) trivial rfl ?_
 refine .nil ?_
 show Ev _ _ _ _ _
 refine .seq ?_
 refine .seq ?_
 refine .region ?_
 refine .q (op_move rfl) trivial rfl ?_
 refine .q (op_cmpI rfl rfl rfl) trivial rfl ?_
 refine .nil ?_
 show Ev _ _ _ _ _
 refine .cond_false rfl (decide_eq_false (by omega)) ?_
 refine .skip ?_
 show Ev _ _ _ _ _
 refine .seq ?_
 refine .region ?_
 refine .q (op_move rfl) trivial rfl ?_
 refine .q (op_assign rfl) trivial rfl ?_
 refine .nil ?_
 show Ev _ _ _ _ _
 refine .ret ?_
 show RetOk _ _ _ _ _ _ _
 exact ret1v rfl (.inl rfl) rfl (rfl) ⟨rfl, trivial⟩
set_option maxRecDepth 100000 in
theorem nxn_z0 (most : Int) (z : Option BX) (r : Int) : Meets Tryd.prog 21 [.ptr 500 2, .i64 0] [(500, some ⟨row0 most (.nilsl) (0) (r) 502 z, 51, true⟩)] .nilsl [(500, some ⟨row0 most (.nilsl) (0) (0) 502 z, 51, true⟩)] := by
 refine meets_of_ev (nt := 45) Tryd.func21 rfl rfl (Nat.le_of_ble_eq_true rfl) ?_
 refine .seq ?_
 refine .region ?_
 refine .q (op_assign rfl) trivial rfl ?_
 refine .nil ?_
 show Ev _ _ _ _ _
 refine .seq ?_
 refine .region ?_
 refine .q (op_move rfl) trivial rfl ?_
 refine .q (op_nilCheck rfl) trivial rfl ?_
 refine .q (op_fieldAddr (m := 0) Tryd.underlying48 rfl (by kernel_rfl) rfl) trivial rfl ?_
 refine .as (.ptr 500 4) rfl ?_
 refine .w (op_store (by kernel_rfl) rfl rfl rfl rfl rfl (by show 4 < 8; decide)) trivial rfl ?_
 refine .nil ?_
 show Ev _ _ _ _ _
 refine .seq ?_
 refine .region ?_
 refine .q (op_move rfl) trivial rfl ?_
 refine .q (op_call (U := []) [(500, 500), (502, 502)] [] (blen_nil0 most z 0) Tryd.func19 (by kernel_rfl) rfl rfl rfl (⟨⟨_, rfl, rfl, rfl⟩, trivial⟩) (⟨⟨_, _, rfl, rfl, row0_ren _ _ _ _ _ _ _, rfl, (fun h => by cases h), row0_nmC _ _ _ _ _ _ _ rfl rfl⟩, trivial⟩) (trivial) (⟨(fun h => by cases h), trivial⟩) rfl) trivial rfl ?_
 refine .q (op_assign rfl) trivial rfl ?_
 refine .nil ?_
 show Ev _ _ _ _ _
 refine .seq ?_
 refine .seq ?_
 refine .region ?_
 refine .q (op_move rfl) trivial rfl ?_
 refine .q (op_move rfl) trivial rfl ?_
 refine .q (op_cmpI rfl rfl rfl) trivial rfl ?_
 refine .nil ?_
 show Ev _ _ _ _ _
 refine .cond_false rfl (decide_eq_false (by omega)) ?_
 refine .skip ?_
 show Ev _ _ _ _ _
 refine .seq ?_
 refine .drawn [[], [0], [0, 1], [0, 1, 2], [], [4], [4, 5], [4, 5, 6], [], [8], [8, 9], [8, 9, 10], [], [8, 9, 10, 11, 12], [0, 1, 2, 3, 4, 5, 6, 7, 8, 9, 10, 11, 12, 13], [0, 1, 2, 3, 4, 5, 6, 7, 8, 9, 10, 11, 12, 13, 14]] [3, 7, 11] [] (by kernel_rfl) (by kernel_rfl) rfl ?_
 show DK _ [0, 1, 2, 3, 4, 5, 6, 7, 8, 9, 10, 11, 12, 13, 14, 15] _ _ _
 refine .q rfl (op_move rfl) trivial ?_
 refine .q rfl (op_nilCheck rfl) trivial ?_
 refine .q rfl (op_fieldAddr (m := 0) Tryd.underlying48 rfl (by kernel_rfl) rfl) trivial ?_
 refine .as (.ptr 500 2) rfl ?_
 refine .q rfl (op_load Tryd.underlying38 rfl rfl rfl rfl (by show 2 < 8; decide)) trivial ?_
 refine .q rfl (op_move rfl) trivial ?_
 refine .q rfl (op_nilCheck rfl) trivial ?_
 refine .q rfl (op_fieldAddr (m := 0) Tryd.underlying48 rfl (by kernel_rfl) rfl) trivial ?_
 refine .as (.ptr 500 3) rfl ?_
 refine .q rfl (op_load Tryd.underlying3 rfl rfl rfl rfl (by show 3 < 8; decide)) trivial ?_
 refine .q rfl (op_move rfl) trivial ?_
 refine .q rfl (op_nilCheck rfl) trivial ?_
 refine .q rfl (op_fieldAddr (m := 0) Tryd.underlying48 rfl (by kernel_rfl) rfl) trivial ?_
 refine .as (.ptr 500 3) rfl ?_
 refine .q rfl (op_load Tryd.underlying3 rfl rfl rfl rfl (by show 3 < 8; decide)) trivial ?_
 refine .q rfl (op_move rfl) trivial ?_
 refine .q rfl (op_addI rfl rfl ⟨by omega, by omega⟩) trivial ?_
 refine .q rfl (op_slice_nil Tryd.underlying38 inf5.sz rfl (bnd_some rfl (by rfl)) (bnd_some rfl (by rfl))) trivial ?_
 refine .q rfl (op_assign rfl) trivial ?_
 refine .nil ?_
 show Ev _ _ _ _ _
 refine .seq ?_
 refine .region ?_
 refine .q (op_move rfl) trivial rfl ?_
 refine .q (op_nilCheck rfl) trivial rfl ?_
 refine .q (op_fieldAddr (m := 0) Tryd.underlying48 rfl (by kernel_rfl) rfl) trivial rfl ?_
 refine .as (.ptr 500 3) rfl ?_
 refine .q (op_load Tryd.underlying3 rfl rfl rfl rfl (by show 3 < 8; decide)) trivial rfl ?_
 refine .q (op_move rfl) trivial rfl ?_
 refine .q (op_addI rfl rfl ⟨by omega, by omega⟩) trivial rfl ?_
 refine .q (op_nilCheck rfl) trivial rfl ?_
 refine .q (op_fieldAddr (m := 0) Tryd.underlying48 rfl (by kernel_rfl) rfl) trivial rfl ?_
 refine .as (.ptr 500 3) rfl ?_
 refine .w (op_store inf3.sz rfl rfl rfl rfl rfl (by show 3 < 8; decide)) trivial rfl ?_
 refine .nil ?_
 show Ev _ _ _ _ _
 refine .seq ?_
 refine .seq ?_
 refine .region ?_
 refine .q (op_move rfl) trivial rfl ?_
 refine .q (op_cmpI rfl rfl rfl) trivial rfl ?_
 refine .nil ?_
 show Ev _ _ _ _ _
 refine .cond_false rfl (decide_eq_false (by omega)) ?_
 refine .skip ?_
 show Ev _ _ _ _ _
 refine .seq ?_
 refine .region ?_
 refine .q (op_move rfl) trivial rfl ?_
 refine .q (op_assign rfl) trivial rfl ?_
 refine .nil ?_
 show Ev _ _ _ _ _
 refine .ret ?_
 show RetOk _ _ _ _ _ _ _
 exact ret1v rfl (.inl rfl) rfl (rfl) ⟨rfl, trivial⟩
set_option maxRecDepth 100000 in
theorem bytes_ev0 (most : Int) (z : Option BX) (l : List UInt8) (C L o : Nat) (r : Int) (ho : o ≤ L) (hL : L ≤ l.length) (hlC : l.length ≤ C) (hC : C ≤ 9223372036854775807) (hC0 : 0 < C) (hLb : L ≤ 1000000) : Meets Tryd.prog 22 [.ptr 500 2] [(500, some ⟨row0 most (.slk 501 0 (L) (C) true) ((o : Int)) (r) 502 z, 51, false⟩)] (.sl 501 o (L - o) 1) [(500, some ⟨row0 most (.slk 501 0 (L) (C) true) ((o : Int)) (r) 502 z, 51, false⟩)] := by
 refine meets_of_ev (nt := 12) Tryd.func22 rfl rfl (Nat.le_of_ble_eq_true rfl) ?_
 refine .seq ?_
 refine .region ?_
 refine .q (op_assign rfl) trivial rfl ?_
 refine .nil ?_
 show Ev _ _ _ _ _
 refine .seq ?_
 refine .drawn [[], [0], [0, 1], [0, 1, 2], [], [4], [4, 5], [4, 5, 6], [0, 1, 2, 3, 4, 5, 6, 7], [0, 1, 2, 3, 4, 5, 6, 7, 8]] [3, 7] [] (by kernel_rfl) (by kernel_rfl) rfl ?_
 show DK _ [0, 1, 2, 3, 4, 5, 6, 7, 8, 9] _ _ _
 refine .q rfl (op_move rfl) trivial ?_
 refine .q rfl (op_nilCheck rfl) trivial ?_
 refine .q rfl (op_fieldAddr (m := 0) Tryd.underlying48 rfl (by kernel_rfl) rfl) trivial ?_
 refine .as (.ptr 500 2) rfl ?_
 refine .q rfl (op_load Tryd.underlying38 rfl rfl rfl rfl (by show 2 < 8; decide)) trivial ?_
 refine .q rfl (op_move rfl) trivial ?_
 refine .q rfl (op_nilCheck rfl) trivial ?_
 refine .q rfl (op_fieldAddr (m := 0) Tryd.underlying48 rfl (by kernel_rfl) rfl) trivial ?_
 refine .as (.ptr 500 3) rfl ?_
 refine .q rfl (op_load Tryd.underlying3 rfl rfl rfl rfl (by show 3 < 8; decide)) trivial ?_
 refine .q rfl (op_slice_slkS (l := o) (h := L) Tryd.underlying38 inf5.sz rfl (bnd_some rfl rfl) rfl ho (by omega)) trivial ?_
 refine .as (.sl 501 o (L - o) 1) (by rw [Nat.zero_add]) ?_
 refine .q rfl (op_assign rfl) trivial ?_
 refine .nil ?_
 show Ev _ _ _ _ _
 refine .ret ?_
 show RetOk _ _ _ _ _ _ _
 exact ret1v rfl (.inl rfl) rfl (rfl) ⟨rfl, trivial⟩
end Go.Proofs.YtpmoonglbcglaaaDoor
