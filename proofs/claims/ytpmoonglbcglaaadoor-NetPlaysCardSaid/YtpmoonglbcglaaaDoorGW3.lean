/-
  Texts of this claim.
-/
import Derived.Test.YtpmoonglbcglaaaDoorGWX
import Derived.Test.YtpmoonglbcglaaaDoorGW1
namespace Go.Proofs.YtpmoonglbcglaaaDoor
open Go.RowKit
set_option maxRecDepth 100000 in
theorem way_nil0 (most : Int) (z : Option BX) : Meets Tryd.prog 17 [.ptr 500 0, .i64 0] [(500, some ⟨row0 most (.nilsl) (0) (0) 502 z, 51, false⟩)] (.tup [.ptr 500 2, .val .nilIface]) [(500, some ⟨row0 most (.nilsl) (0) (0) 502 z, 51, false⟩)] := by
 refine meets_of_ev (nt := 23) Tryd.func17 rfl rfl (Nat.le_of_ble_eq_true rfl) ?_
 refine .seq ?_
 refine .region ?_
 refine .q (op_assign rfl) trivial rfl ?_
 refine .q (op_assign rfl) trivial rfl ?_
 refine .nil ?_
 show Ev _ _ _ _ _
 refine .seq ?_
 refine .seq ?_
 refine .region ?_
 refine .q (op_move rfl) trivial rfl ?_
 refine .q (op_cmpI rfl rfl rfl) trivial rfl ?_
 refine .q (op_move rfl) trivial rfl ?_
 refine .know (b' := false) (rfl) ?_
 refine .q (op_move rfl) ⟨_, rfl, rfl⟩ rfl ?_
 refine .q (op_cmpI rfl rfl rfl) ⟨_, rfl, rfl⟩ rfl ?_
 refine .q (op_pick_false rfl rfl rfl) trivial rfl ?_
 refine .nil ?_
 show Ev _ _ _ _ _
 refine .cond_false rfl (rfl) ?_
 refine .skip ?_
 show Ev _ _ _ _ _
 refine .seq ?_
 refine .seq ?_
 refine .region ?_
 refine .q (op_move rfl) trivial rfl ?_
 refine .q (op_nilCheck rfl) trivial rfl ?_
 refine .q (op_fieldAddr (m := 0) Tryd.underlying51 rfl (by kernel_rfl) rfl) trivial rfl ?_
 refine .as (.ptr 500 1) rfl ?_
 refine .q (op_load Tryd.underlying4 rfl rfl rfl rfl (by show 1 < 8; decide)) trivial rfl ?_
 refine .nil ?_
 show Ev _ _ _ _ _
 refine .cond_false rfl (rfl) ?_
 refine .skip ?_
 show Ev _ _ _ _ _
 refine .seq ?_
 refine .region ?_
 refine .q (op_move rfl) trivial rfl ?_
 refine .q (op_move rfl) trivial rfl ?_
 refine .q (op_nilCheck rfl) trivial rfl ?_
 refine .q (op_fieldAddr (m := 5) Tryd.underlying51 rfl (by kernel_rfl) rfl) trivial rfl ?_
 refine .as (.ptr 500 2) rfl ?_
 refine .q (op_indexAddr_arr (i := 0) (z := 3) Tryd.underlying49 (by kernel_rfl) rfl rfl rfl (by decide)) trivial rfl ?_
 refine .as (.ptr 500 2) rfl ?_
 refine .q (op_assign rfl) trivial rfl ?_
 refine .q (op_assign rfl) trivial rfl ?_
 refine .nil ?_
 show Ev _ _ _ _ _
 refine .ret ?_
 show RetOk _ _ _ _ _ _ _
 exact ret2v rfl (.inl rfl) rfl rfl rfl rfl ⟨rfl, trivial⟩
set_option maxRecDepth 100000 in
theorem way_sl0 (most : Int) (z : Option BX) (C L o : Nat) (r : Int) : Meets Tryd.prog 17 [.ptr 500 0, .i64 0] [(500, some ⟨row0 most (.slk 501 0 (L) (C) true) ((o : Int)) (r) 502 z, 51, false⟩)] (.tup [.ptr 500 2, .val .nilIface]) [(500, some ⟨row0 most (.slk 501 0 (L) (C) true) ((o : Int)) (r) 502 z, 51, false⟩)] := by
 refine meets_of_ev (nt := 23) Tryd.func17 rfl rfl (Nat.le_of_ble_eq_true rfl) ?_
 refine .seq ?_
 refine .region ?_
 refine .q (op_assign rfl) trivial rfl ?_
 refine .q (op_assign rfl) trivial rfl ?_
 refine .nil ?_
 show Ev _ _ _ _ _
 refine .seq ?_
 refine .seq ?_
 refine .region ?_
 refine .q (op_move rfl) trivial rfl ?_
 refine .q (op_cmpI rfl rfl rfl) trivial rfl ?_
 refine .q (op_move rfl) trivial rfl ?_
 refine .know (b' := false) (rfl) ?_
 refine .q (op_move rfl) ⟨_, rfl, rfl⟩ rfl ?_
 refine .q (op_cmpI rfl rfl rfl) ⟨_, rfl, rfl⟩ rfl ?_
 refine .q (op_pick_false rfl rfl rfl) trivial rfl ?_
 refine .nil ?_
 show Ev _ _ _ _ _
 refine .cond_false rfl (rfl) ?_
 refine .skip ?_
 show Ev _ _ _ _ _
 refine .seq ?_
 refine .seq ?_
 refine .region ?_
 refine .q (op_move rfl) trivial rfl ?_
 refine .q (op_nilCheck rfl) trivial rfl ?_
 refine .q (op_fieldAddr (m := 0) Tryd.underlying51 rfl (by kernel_rfl) rfl) trivial rfl ?_
 refine .as (.ptr 500 1) rfl ?_
 refine .q (op_load Tryd.underlying4 rfl rfl rfl rfl (by show 1 < 8; decide)) trivial rfl ?_
 refine .nil ?_
 show Ev _ _ _ _ _
 refine .cond_false rfl (rfl) ?_
 refine .skip ?_
 show Ev _ _ _ _ _
 refine .seq ?_
 refine .region ?_
 refine .q (op_move rfl) trivial rfl ?_
 refine .q (op_move rfl) trivial rfl ?_
 refine .q (op_nilCheck rfl) trivial rfl ?_
 refine .q (op_fieldAddr (m := 5) Tryd.underlying51 rfl (by kernel_rfl) rfl) trivial rfl ?_
 refine .as (.ptr 500 2) rfl ?_
 refine .q (op_indexAddr_arr (i := 0) (z := 3) Tryd.underlying49 (by kernel_rfl) rfl rfl rfl (by decide)) trivial rfl ?_
 refine .as (.ptr 500 2) rfl ?_
 refine .q (op_assign rfl) trivial rfl ?_
 refine .q (op_assign rfl) trivial rfl ?_
 refine .nil ?_
 show Ev _ _ _ _ _
 refine .ret ?_
 show RetOk _ _ _ _ _ _ _
 exact ret2v rfl (.inl rfl) rfl rfl rfl rfl ⟨rfl, trivial⟩
set_option maxRecDepth 100000 in
theorem wlen_nil0 (most : Int) (z : Option BX) : Meets Tryd.prog 14 [.ptr 500 0, .i64 0] [(500, some ⟨row0 most (.nilsl) (0) (0) 502 z, 51, false⟩)] (.i64 0) [(500, some ⟨row0 most (.nilsl) (0) (0) 502 z, 51, false⟩)] := by
 refine meets_of_ev (nt := 17) Tryd.func14 rfl rfl (Nat.le_of_ble_eq_true rfl) ?_
 refine .seq ?_
 refine .region ?_
 refine .q (op_assign rfl) trivial rfl ?_
 refine .nil ?_
 show Ev _ _ _ _ _
 refine .seq ?_
 refine .region ?_
 refine .q (op_move rfl) trivial rfl ?_
 refine .q (op_move rfl) trivial rfl ?_
 refine .q (op_call (U := []) [(500, 500), (502, 502)] [] (way_nil0 most z) Tryd.func17 (by kernel_rfl) rfl rfl rfl (⟨⟨_, rfl, rfl, rfl⟩, ⟨_, rfl, rfl, rfl⟩, trivial⟩) (⟨⟨_, _, rfl, rfl, row0_ren _ _ _ _ _ _ _, rfl, (fun h => by cases h), row0_nmC _ _ _ _ _ _ _ rfl rfl⟩, trivial⟩) (trivial) (⟨(fun h => by cases h), trivial⟩) rfl) trivial rfl ?_
 refine .q (op_move rfl) trivial rfl ?_
 refine .q (op_extract rfl rfl) trivial rfl ?_
 refine .q (op_extract rfl rfl) trivial rfl ?_
 refine .q (op_assign rfl) trivial rfl ?_
 refine .q (op_assign rfl) trivial rfl ?_
 refine .nil ?_
 show Ev _ _ _ _ _
 refine .seq ?_
 refine .seq ?_
 refine .region ?_
 refine .q (op_move rfl) trivial rfl ?_
 refine .q (op_eqNilNil Tryd.underlying31 rfl rfl) trivial rfl ?_
 refine .nil ?_
 show Ev _ _ _ _ _
 refine .cond_false rfl (rfl) ?_
 refine .skip ?_
 show Ev _ _ _ _ _
 refine .seq ?_
 refine .region ?_
 refine .q (op_move rfl) trivial rfl ?_
 refine .q (op_call (U := []) [(500, 500), (502, 502)] [] (blen_nil0 most z 0) Tryd.func19 (by kernel_rfl) rfl rfl rfl (⟨⟨_, rfl, rfl, rfl⟩, trivial⟩) (⟨⟨_, _, rfl, rfl, row0_ren _ _ _ _ _ _ _, rfl, (fun h => by cases h), row0_nmC _ _ _ _ _ _ _ rfl rfl⟩, trivial⟩) (trivial) (⟨(fun h => by cases h), trivial⟩) rfl) trivial rfl ?_
 refine .q (op_assign rfl) trivial rfl ?_
 refine .nil ?_
 show Ev _ _ _ _ _
 refine .ret ?_
 show RetOk _ _ _ _ _ _ _
 exact ret1v rfl (.inl rfl) rfl (rfl) ⟨rfl, trivial⟩
set_option maxRecDepth 100000 in
theorem wlen_sl0 (most : Int) (z : Option BX) (C L o : Nat) (r : Int) (ho : o ≤ L) (hLb : L ≤ 1000000) : Meets Tryd.prog 14 [.ptr 500 0, .i64 0] [(500, some ⟨row0 most (.slk 501 0 (L) (C) true) ((o : Int)) (r) 502 z, 51, false⟩)] (.i64 ((L : Int) - (o : Int))) [(500, some ⟨row0 most (.slk 501 0 (L) (C) true) ((o : Int)) (r) 502 z, 51, false⟩)] := by
 refine meets_of_ev (nt := 17) Tryd.func14 rfl rfl (Nat.le_of_ble_eq_true rfl) ?_
 refine .seq ?_
 refine .region ?_
 refine .q (op_assign rfl) trivial rfl ?_
 refine .nil ?_
 show Ev _ _ _ _ _
 refine .seq ?_
 refine .region ?_
 refine .q (op_move rfl) trivial rfl ?_
 refine .q (op_move rfl) trivial rfl ?_
 refine .q (op_call (U := []) [(500, 500), (501, 501), (502, 502)] [] (way_sl0 most z C L o r) Tryd.func17 (by kernel_rfl) rfl rfl rfl (⟨⟨_, rfl, rfl, rfl⟩, ⟨_, rfl, rfl, rfl⟩, trivial⟩) (⟨⟨_, _, rfl, rfl, row0_ren _ _ _ _ _ _ _, rfl, (fun h => by cases h), row0_nmC _ _ _ _ _ _ _ rfl rfl⟩, trivial⟩) (trivial) (⟨(fun h => by cases h), trivial⟩) rfl) trivial rfl ?_
 refine .q (op_move rfl) trivial rfl ?_
 refine .q (op_extract rfl rfl) trivial rfl ?_
 refine .q (op_extract rfl rfl) trivial rfl ?_
 refine .q (op_assign rfl) trivial rfl ?_
 refine .q (op_assign rfl) trivial rfl ?_
 refine .nil ?_
 show Ev _ _ _ _ _
 refine .seq ?_
 refine .seq ?_
 refine .region ?_
 refine .q (op_move rfl) trivial rfl ?_
 refine .q (op_eqNilNil Tryd.underlying31 rfl rfl) trivial rfl ?_
 refine .nil ?_
 show Ev _ _ _ _ _
 refine .cond_false rfl (rfl) ?_
 refine .skip ?_
 show Ev _ _ _ _ _
 refine .seq ?_
 refine .region ?_
 refine .q (op_move rfl) trivial rfl ?_
 refine .q (op_call (U := []) [(500, 500), (501, 501), (502, 502)] [] (blen_ev0 most z r L o C (by omega) ho) Tryd.func19 (by kernel_rfl) rfl rfl rfl (⟨⟨_, rfl, rfl, rfl⟩, trivial⟩) (⟨⟨_, _, rfl, rfl, row0_ren _ _ _ _ _ _ _, rfl, (fun h => by cases h), row0_nmC _ _ _ _ _ _ _ rfl rfl⟩, trivial⟩) (trivial) (⟨(fun h => by cases h), trivial⟩) rfl) trivial rfl ?_
 refine .q (op_assign rfl) trivial rfl ?_
 refine .nil ?_
 show Ev _ _ _ _ _
 refine .ret ?_
 show RetOk _ _ _ _ _ _ _
 exact ret1v rfl (.inl rfl) rfl (rfl) ⟨rfl, trivial⟩
set_option maxRecDepth 100000 in
theorem wroom_nil0 (most : Int) (z : Option BX) (h0m : 0 ≤ most) (h1m : most ≤ 1000000000) : Meets Tryd.prog 15 [.ptr 500 0, .i64 0] [(500, some ⟨row0 most (.nilsl) (0) (0) 502 z, 51, false⟩)] (.i64 (most - 0)) [(500, some ⟨row0 most (.nilsl) (0) (0) 502 z, 51, false⟩)] := by
 refine meets_of_ev (nt := 22) Tryd.func15 rfl rfl (Nat.le_of_ble_eq_true rfl) ?_
 refine .seq ?_
 refine .region ?_
 refine .q (op_assign rfl) trivial rfl ?_
 refine .nil ?_
 show Ev _ _ _ _ _
 refine .seq ?_
 refine .region ?_
 refine .q (op_move rfl) trivial rfl ?_
 refine .q (op_move rfl) trivial rfl ?_
 refine .q (op_call (U := []) [(500, 500), (502, 502)] [] (way_nil0 most z) Tryd.func17 (by kernel_rfl) rfl rfl rfl (⟨⟨_, rfl, rfl, rfl⟩, ⟨_, rfl, rfl, rfl⟩, trivial⟩) (⟨⟨_, _, rfl, rfl, row0_ren _ _ _ _ _ _ _, rfl, (fun h => by cases h), row0_nmC _ _ _ _ _ _ _ rfl rfl⟩, trivial⟩) (trivial) (⟨(fun h => by cases h), trivial⟩) rfl) trivial rfl ?_
 refine .q (op_move rfl) trivial rfl ?_
 refine .q (op_extract rfl rfl) trivial rfl ?_
 refine .q (op_extract rfl rfl) trivial rfl ?_
 refine .q (op_assign rfl) trivial rfl ?_
 refine .q (op_assign rfl) trivial rfl ?_
 refine .nil ?_
 show Ev _ _ _ _ _
 refine .seq ?_
 refine .seq ?_
 refine .region ?_
 refine .q (op_move rfl) trivial rfl ?_
 refine .q (op_eqNilNil Tryd.underlying31 rfl rfl) trivial rfl ?_
 refine .nil ?_
 show Ev _ _ _ _ _
 refine .cond_false rfl (rfl) ?_
 refine .skip ?_
 show Ev _ _ _ _ _
 refine .seq ?_
 refine .drawn [[], [0], [0, 1], [0, 1, 2], [], [4], [0, 1, 2, 3, 4, 5], [0, 1, 2, 3, 4, 5, 6]] [3, 5] [] (by kernel_rfl) (by kernel_rfl) rfl ?_
 show DK _ [0, 1, 2, 3, 4, 5, 6, 7] _ _ _
 refine .q rfl (op_move rfl) trivial ?_
 refine .q rfl (op_nilCheck rfl) trivial ?_
 refine .q rfl (op_fieldAddr (m := 0) Tryd.underlying51 rfl (by kernel_rfl) rfl) trivial ?_
 refine .as (.ptr 500 0) rfl ?_
 refine .q rfl (op_load Tryd.underlying3 rfl rfl rfl rfl (by show 0 < 8; decide)) trivial ?_
 refine .q rfl (op_move rfl) trivial ?_
 refine .q rfl (op_call (U := []) [(500, 500), (502, 502)] [] (blen_nil0 most z 0) Tryd.func19 (by kernel_rfl) rfl rfl rfl (⟨⟨_, rfl, rfl, rfl⟩, trivial⟩) (⟨⟨_, _, rfl, rfl, row0_ren _ _ _ _ _ _ _, rfl, (fun h => by cases h), row0_nmC _ _ _ _ _ _ _ rfl rfl⟩, trivial⟩) (trivial) (⟨(fun h => by cases h), trivial⟩) rfl) trivial ?_
 refine .q rfl (op_subI rfl rfl ⟨by omega, by omega⟩) trivial ?_
 refine .q rfl (op_assign rfl) trivial ?_
 refine .nil ?_
 show Ev _ _ _ _ _
 refine .ret ?_
 show RetOk _ _ _ _ _ _ _
 exact ret1v rfl (.inl rfl) rfl (rfl) ⟨rfl, trivial⟩
set_option maxRecDepth 100000 in
theorem wroom_sl0 (most : Int) (z : Option BX) (C L o : Nat) (r : Int) (ho : o ≤ L) (hLb : L ≤ 1000000) (h0m : 0 ≤ most) (h1m : most ≤ 1000000000) : Meets Tryd.prog 15 [.ptr 500 0, .i64 0] [(500, some ⟨row0 most (.slk 501 0 (L) (C) true) ((o : Int)) (r) 502 z, 51, false⟩)] (.i64 (most - ((L : Int) - (o : Int)))) [(500, some ⟨row0 most (.slk 501 0 (L) (C) true) ((o : Int)) (r) 502 z, 51, false⟩)] := by
 refine meets_of_ev (nt := 22) Tryd.func15 rfl rfl (Nat.le_of_ble_eq_true rfl) ?_
 refine .seq ?_
 refine .region ?_
 refine .q (op_assign rfl) trivial rfl ?_
 refine .nil ?_
 show Ev _ _ _ _ _
 refine .seq ?_
 refine .region ?_
 refine .q (op_move rfl) trivial rfl ?_
 refine .q (op_move rfl) trivial rfl ?_
 refine .q (op_call (U := []) [(500, 500), (501, 501), (502, 502)] [] (way_sl0 most z C L o r) Tryd.func17 (by kernel_rfl) rfl rfl rfl (⟨⟨_, rfl, rfl, rfl⟩, ⟨_, rfl, rfl, rfl⟩, trivial⟩) (⟨⟨_, _, rfl, rfl, row0_ren _ _ _ _ _ _ _, rfl, (fun h => by cases h), row0_nmC _ _ _ _ _ _ _ rfl rfl⟩, trivial⟩) (trivial) (⟨(fun h => by cases h), trivial⟩) rfl) trivial rfl ?_
 refine .q (op_move rfl) trivial rfl ?_
 refine .q (op_extract rfl rfl) trivial rfl ?_
 refine .q (op_extract rfl rfl) trivial rfl ?_
 refine .q (op_assign rfl) trivial rfl ?_
 refine .q (op_assign rfl) trivial rfl ?_
 refine .nil ?_
 show Ev _ _ _ _ _
 refine .seq ?_
 refine .seq ?_
 refine .region ?_
 refine .q (op_move rfl) trivial rfl ?_
 refine .q (op_eqNilNil Tryd.underlying31 rfl rfl) trivial rfl ?_
 refine .nil ?_
 show Ev _ _ _ _ _
 refine .cond_false rfl (rfl) ?_
 refine .skip ?_
 show Ev _ _ _ _ _
 refine .seq ?_
 refine .drawn [[], [0], [0, 1], [0, 1, 2], [], [4], [0, 1, 2, 3, 4, 5], [0, 1, 2, 3, 4, 5, 6]] [3, 5] [] (by kernel_rfl) (by kernel_rfl) rfl ?_
 show DK _ [0, 1, 2, 3, 4, 5, 6, 7] _ _ _
 refine .q rfl (op_move rfl) trivial ?_
 refine .q rfl (op_nilCheck rfl) trivial ?_
 refine .q rfl (op_fieldAddr (m := 0) Tryd.underlying51 rfl (by kernel_rfl) rfl) trivial ?_
 refine .as (.ptr 500 0) rfl ?_
 refine .q rfl (op_load Tryd.underlying3 rfl rfl rfl rfl (by show 0 < 8; decide)) trivial ?_
 refine .q rfl (op_move rfl) trivial ?_
 refine .q rfl (op_call (U := []) [(500, 500), (501, 501), (502, 502)] [] (blen_ev0 most z r L o C (by omega) ho) Tryd.func19 (by kernel_rfl) rfl rfl rfl (⟨⟨_, rfl, rfl, rfl⟩, trivial⟩) (⟨⟨_, _, rfl, rfl, row0_ren _ _ _ _ _ _ _, rfl, (fun h => by cases h), row0_nmC _ _ _ _ _ _ _ rfl rfl⟩, trivial⟩) (trivial) (⟨(fun h => by cases h), trivial⟩) rfl) trivial ?_
 refine .q rfl (op_subI rfl rfl ⟨by omega, by omega⟩) trivial ?_
 refine .q rfl (op_assign rfl) trivial ?_
 refine .nil ?_
 show Ev _ _ _ _ _
 refine .ret ?_
 show RetOk _ _ _ _ _ _ _
 exact ret1v rfl (.inl rfl) rfl (rfl) ⟨rfl, trivial⟩
set_option maxRecDepth 100000 in
theorem put_fit0 (most : Int) (z : Option BX) (l : List UInt8) (C L o : Nat) (r : Int) (ho : o ≤ L) (hL : L ≤ l.length) (hlC : l.length ≤ C) (hC : C ≤ 9223372036854775807) (hC0 : 0 < C) (hLb : L ≤ 1000000) (h0m : 0 ≤ most) (h1m : most ≤ 1000000000) (s t : List UInt8) (k : Nat) (hs : s.length ≤ 1000000) (hk : min (s.length : Int) (most - ((L : Int) - (o : Int))) = (k : Int)) (ht : s.take k = t) (h : L + t.length ≤ C) : Meets Tryd.prog 9 [.ptr 500 0, .i64 0, .str s] [(500, some ⟨row0 most (.slk 501 0 (L) (C) true) ((o : Int)) (r) 502 z, 51, true⟩), (501, some ⟨bufC l C, 5, true⟩)] (.tup [.i64 (t.length : Int), .val .nilIface]) [(500, some ⟨row0 most (.slk 501 0 (L + t.length) (C) true) ((o : Int)) (0) 502 z, 51, true⟩), (501, some ⟨bufC (wrB l L t) C, 5, true⟩)] := by
 have htl : t.length = k := by rw [← ht, List.length_take]; omega
 refine meets_of_ev (nt := 35) Tryd.func9 rfl rfl (Nat.le_of_ble_eq_true rfl) ?_
 refine .seq ?_
 refine .region ?_
 refine .q (op_assign rfl) trivial rfl ?_
 refine .q (op_assign rfl) trivial rfl ?_
 refine .nil ?_
 show Ev _ _ _ _ _
 refine .seq ?_
 refine .region ?_
 refine .q (op_move rfl) trivial rfl ?_
 refine .q (op_move rfl) trivial rfl ?_
 refine .q (op_call (U := []) [(500, 500), (501, 501), (502, 502)] [] (way_sl0 most z C L o r) Tryd.func17 (by kernel_rfl) rfl rfl rfl (⟨⟨_, rfl, rfl, rfl⟩, ⟨_, rfl, rfl, rfl⟩, trivial⟩) (⟨⟨_, _, rfl, rfl, row0_ren _ _ _ _ _ _ _, rfl, (fun h => by cases h), row0_nmC _ _ _ _ _ _ _ rfl rfl⟩, trivial⟩) (trivial) (⟨(fun h => by cases h), trivial⟩) rfl) trivial rfl ?_
 refine .q (op_move rfl) trivial rfl ?_
 refine .q (op_extract rfl rfl) trivial rfl ?_
 refine .q (op_extract rfl rfl) trivial rfl ?_
 refine .q (op_assign rfl) trivial rfl ?_
 refine .q (op_assign rfl) trivial rfl ?_
 refine .nil ?_
 show Ev _ _ _ _ _
 refine .seq ?_
 refine .seq ?_
 refine .region ?_
 refine .q (op_move rfl) trivial rfl ?_
 refine .q (op_eqNilNil Tryd.underlying31 rfl rfl) trivial rfl ?_
 refine .nil ?_
 show Ev _ _ _ _ _
 refine .cond_false rfl (rfl) ?_
 refine .skip ?_
 show Ev _ _ _ _ _
 refine .seq ?_
 refine .drawn [[], [], [], [2], [], [4], [4, 5], [4, 5, 6], [], [8], [4, 5, 6, 7, 8, 9], [2, 3, 4, 5, 6, 7, 8, 9, 10], [1, 2, 3, 4, 5, 6, 7, 8, 9, 10, 11], [0, 1, 2, 3, 4, 5, 6, 7, 8, 9, 10, 11, 12], [0, 1, 2, 3, 4, 5, 6, 7, 8, 9, 10, 11, 12, 13], [0, 1, 2, 3, 4, 5, 6, 7, 8, 9, 10, 11, 12, 13], [0, 1, 2, 3, 4, 5, 6, 7, 8, 9, 10, 11, 12, 13, 14, 15], [0, 1, 2, 3, 4, 5, 6, 7, 8, 9, 10, 11, 12, 13, 14, 15, 16]] [7, 9, 13] [13] (by kernel_rfl) (by kernel_rfl) rfl ?_
 show DK _ [0, 1, 2, 3, 4, 5, 6, 7, 8, 9, 10, 11, 12, 13, 14, 15, 16, 17] _ _ _
 refine .q rfl (op_move rfl) trivial ?_
 refine .q rfl (op_move rfl) trivial ?_
 refine .q rfl (op_move rfl) trivial ?_
 refine .q rfl (op_len_str Tryd.underlying9 rfl) trivial ?_
 refine .q rfl (op_move rfl) trivial ?_
 refine .q rfl (op_nilCheck rfl) trivial ?_
 refine .q rfl (op_fieldAddr (m := 0) Tryd.underlying51 rfl (by kernel_rfl) rfl) trivial ?_
 refine .as (.ptr 500 0) rfl ?_
 refine .q rfl (op_load Tryd.underlying3 rfl rfl rfl rfl (by show 0 < 8; decide)) trivial ?_
 refine .q rfl (op_move rfl) trivial ?_
 refine .q rfl (op_call (U := []) [(500, 500), (501, 501), (502, 502)] [] (blen_ev0 most z r L o C (by omega) ho) Tryd.func19 (by kernel_rfl) rfl rfl rfl (⟨⟨_, rfl, rfl, rfl⟩, trivial⟩) (⟨⟨_, _, rfl, rfl, row0_ren _ _ _ _ _ _ _, rfl, (fun h => by cases h), row0_nmC _ _ _ _ _ _ _ rfl rfl⟩, trivial⟩) (trivial) (⟨(fun h => by cases h), trivial⟩) rfl) trivial ?_
 refine .q rfl (op_subI rfl rfl ⟨by omega, by omega⟩) trivial ?_
 refine .q rfl (op_minI rfl rfl) trivial ?_
 refine .as (.i64 (k : Int)) (congrArg AV.i64 hk) ?_
 refine .q rfl (ap_slice_str_hi Tryd.underlying9 rfl (bnd_some rfl rfl) (by omega)) trivial ?_
 refine .as (.str t) (congrArg AV.str ht) ?_
 refine .a rfl (op_call (U := [(500, some ⟨row0 most (.slk 501 0 (L + t.length) (C) true) ((o : Int)) (0) 502 z, 51, true⟩), (501, some ⟨bufC (wrB l L t) C, 5, true⟩)]) [(500, 500), (501, 501), (502, 502)] [] (ws_fit0 most z l C L o r ho hL hlC hC hC0 hLb t (by omega) h) Tryd.func18 (by kernel_rfl) rfl rfl rfl (⟨⟨_, rfl, rfl, rfl⟩, ⟨_, rfl, rfl, rfl⟩, trivial⟩) (⟨⟨_, _, rfl, rfl, row0_ren _ _ _ _ _ _ _, rfl, id, row0_nmC _ _ _ _ _ _ _ rfl rfl⟩, ⟨_, _, rfl, rfl, bufC_ren _ _ _, rfl, id, bufC_nmC _ _ _⟩, trivial⟩) (⟨⟨500, _, rfl, row0_uo rfl rfl, rfl, row0_nmF _ _ _ _ _ _ _ _ rfl rfl, .inr ⟨rfl, _, rfl, rfl⟩⟩, ⟨501, _, rfl, congrArg (fun z => (⟨z, _, _⟩ : ABlk)) (bufC_ren _ _ _).symm, rfl, bufC_nmF _ _ _ _, .inr ⟨rfl, _, rfl, rfl⟩⟩, trivial⟩) (⟨(fun _ => ⟨500, _, rfl, rfl⟩), (fun _ => ⟨501, _, rfl, rfl⟩), trivial⟩) rfl) trivial rfl rfl ?_
 refine .q rfl (op_extract rfl rfl) trivial ?_
 refine .q rfl (op_extract rfl rfl) trivial ?_
 refine .q rfl (op_assign rfl) trivial ?_
 refine .q rfl (op_assign rfl) trivial ?_
 refine .nil ?_
 show Ev _ _ _ _ _
 refine .ret ?_
 show RetOk _ _ _ _ _ _ _
 exact ret2v rfl (.inl rfl) rfl rfl rfl rfl ⟨rfl, rfl, trivial⟩
set_option maxRecDepth 100000 in
theorem put_reset0 (most : Int) (z : Option BX) (l : List UInt8) (C L : Nat) (r : Int) (hL : L ≤ l.length) (hlC : l.length ≤ C) (hC : C ≤ 9223372036854775807) (hC0 : 0 < C) (hLb : L ≤ 1000000) (h0m : 0 ≤ most) (h1m : most ≤ 1000000000) (s t : List UInt8) (k : Nat) (hs : s.length ≤ 1000000) (hk : min (s.length : Int) (most - ((L : Int) - (L : Int))) = (k : Int)) (ht : s.take k = t) (h0 : 0 < L) (hsC : t.length ≤ C) (h : ¬ L + t.length ≤ C) : Meets Tryd.prog 9 [.ptr 500 0, .i64 0, .str s] [(500, some ⟨row0 most (.slk 501 0 (L) (C) true) ((L : Int)) (r) 502 z, 51, true⟩), (501, some ⟨bufC l C, 5, true⟩)] (.tup [.i64 (t.length : Int), .val .nilIface]) [(500, some ⟨row0 most (.slk 501 0 (0 + t.length) (C) true) (0) (0) 502 z, 51, true⟩), (501, some ⟨bufC (wrB l 0 t) C, 5, true⟩)] := by
 have htl : t.length = k := by rw [← ht, List.length_take]; omega
 refine meets_of_ev (nt := 35) Tryd.func9 rfl rfl (Nat.le_of_ble_eq_true rfl) ?_
 refine .seq ?_
 refine .region ?_
 refine .q (op_assign rfl) trivial rfl ?_
 refine .q (op_assign rfl) trivial rfl ?_
 refine .nil ?_
 show Ev _ _ _ _ _
 refine .seq ?_
 refine .region ?_
 refine .q (op_move rfl) trivial rfl ?_
 refine .q (op_move rfl) trivial rfl ?_
 refine .q (op_call (U := []) [(500, 500), (501, 501), (502, 502)] [] (way_sl0 most z C L L r) Tryd.func17 (by kernel_rfl) rfl rfl rfl (⟨⟨_, rfl, rfl, rfl⟩, ⟨_, rfl, rfl, rfl⟩, trivial⟩) (⟨⟨_, _, rfl, rfl, row0_ren _ _ _ _ _ _ _, rfl, (fun h => by cases h), row0_nmC _ _ _ _ _ _ _ rfl rfl⟩, trivial⟩) (trivial) (⟨(fun h => by cases h), trivial⟩) rfl) trivial rfl ?_
 refine .q (op_move rfl) trivial rfl ?_
 refine .q (op_extract rfl rfl) trivial rfl ?_
 refine .q (op_extract rfl rfl) trivial rfl ?_
 refine .q (op_assign rfl) trivial rfl ?_
 refine .q (op_assign rfl) trivial rfl ?_
 refine .nil ?_
 show Ev _ _ _ _ _
 refine .seq ?_
 refine .seq ?_
 refine .region ?_
 refine .q (op_move rfl) trivial rfl ?_
 refine .q (op_eqNilNil Tryd.underlying31 rfl rfl) trivial rfl ?_
 refine .nil ?_
 show Ev _ _ _ _ _
 refine .cond_false rfl (rfl) ?_
 refine .skip ?_
 show Ev _ _ _ _ _
 refine .seq ?_
 refine .drawn [[], [], [], [2], [], [4], [4, 5], [4, 5, 6], [], [8], [4, 5, 6, 7, 8, 9], [2, 3, 4, 5, 6, 7, 8, 9, 10], [1, 2, 3, 4, 5, 6, 7, 8, 9, 10, 11], [0, 1, 2, 3, 4, 5, 6, 7, 8, 9, 10, 11, 12], [0, 1, 2, 3, 4, 5, 6, 7, 8, 9, 10, 11, 12, 13], [0, 1, 2, 3, 4, 5, 6, 7, 8, 9, 10, 11, 12, 13], [0, 1, 2, 3, 4, 5, 6, 7, 8, 9, 10, 11, 12, 13, 14, 15], [0, 1, 2, 3, 4, 5, 6, 7, 8, 9, 10, 11, 12, 13, 14, 15, 16]] [7, 9, 13] [13] (by kernel_rfl) (by kernel_rfl) rfl ?_
 show DK _ [0, 1, 2, 3, 4, 5, 6, 7, 8, 9, 10, 11, 12, 13, 14, 15, 16, 17] _ _ _
 refine .q rfl (op_move rfl) trivial ?_
 refine .q rfl (op_move rfl) trivial ?_
 refine .q rfl (op_move rfl) trivial ?_
 refine .q rfl (op_len_str Tryd.underlying9 rfl) trivial ?_
 refine .q rfl (op_move rfl) trivial ?_
 refine .q rfl (op_nilCheck rfl) trivial ?_
 refine .q rfl (op_fieldAddr (m := 0) Tryd.underlying51 rfl (by kernel_rfl) rfl) trivial ?_
 refine .as (.ptr 500 0) rfl ?_
 refine .q rfl (op_load Tryd.underlying3 rfl rfl rfl rfl (by show 0 < 8; decide)) trivial ?_
 refine .q rfl (op_move rfl) trivial ?_
 refine .q rfl (op_call (U := []) [(500, 500), (501, 501), (502, 502)] [] (blen_ev0 most z r L L C (by omega) (Nat.le_refl _)) Tryd.func19 (by kernel_rfl) rfl rfl rfl (⟨⟨_, rfl, rfl, rfl⟩, trivial⟩) (⟨⟨_, _, rfl, rfl, row0_ren _ _ _ _ _ _ _, rfl, (fun h => by cases h), row0_nmC _ _ _ _ _ _ _ rfl rfl⟩, trivial⟩) (trivial) (⟨(fun h => by cases h), trivial⟩) rfl) trivial ?_
 refine .q rfl (op_subI rfl rfl ⟨by omega, by omega⟩) trivial ?_
 refine .q rfl (op_minI rfl rfl) trivial ?_
 refine .as (.i64 (k : Int)) (congrArg AV.i64 hk) ?_
 refine .q rfl (ap_slice_str_hi Tryd.underlying9 rfl (bnd_some rfl rfl) (by omega)) trivial ?_
 refine .as (.str t) (congrArg AV.str ht) ?_
 refine .a rfl (op_call (U := [(500, some ⟨row0 most (.slk 501 0 (0 + t.length) (C) true) (0) (0) 502 z, 51, true⟩), (501, some ⟨bufC (wrB l 0 t) C, 5, true⟩)]) [(500, 500), (501, 501), (502, 502)] [] (ws_reset0 most z l C L r hL hlC hC hC0 hLb h0 t (by omega) hsC h) Tryd.func18 (by kernel_rfl) rfl rfl rfl (⟨⟨_, rfl, rfl, rfl⟩, ⟨_, rfl, rfl, rfl⟩, trivial⟩) (⟨⟨_, _, rfl, rfl, row0_ren _ _ _ _ _ _ _, rfl, id, row0_nmC _ _ _ _ _ _ _ rfl rfl⟩, ⟨_, _, rfl, rfl, bufC_ren _ _ _, rfl, id, bufC_nmC _ _ _⟩, trivial⟩) (⟨⟨500, _, rfl, row0_uo rfl rfl, rfl, row0_nmF _ _ _ _ _ _ _ _ rfl rfl, .inr ⟨rfl, _, rfl, rfl⟩⟩, ⟨501, _, rfl, congrArg (fun z => (⟨z, _, _⟩ : ABlk)) (bufC_ren _ _ _).symm, rfl, bufC_nmF _ _ _ _, .inr ⟨rfl, _, rfl, rfl⟩⟩, trivial⟩) (⟨(fun _ => ⟨500, _, rfl, rfl⟩), (fun _ => ⟨501, _, rfl, rfl⟩), trivial⟩) rfl) trivial rfl rfl ?_
 refine .q rfl (op_extract rfl rfl) trivial ?_
 refine .q rfl (op_extract rfl rfl) trivial ?_
 refine .q rfl (op_assign rfl) trivial ?_
 refine .q rfl (op_assign rfl) trivial ?_
 refine .nil ?_
 show Ev _ _ _ _ _
 refine .ret ?_
 show RetOk _ _ _ _ _ _ _
 exact ret2v rfl (.inl rfl) rfl rfl rfl rfl ⟨rfl, rfl, trivial⟩
set_option maxRecDepth 100000 in
theorem put_slide0 (most : Int) (z : Option BX) (l : List UInt8) (C L o : Nat) (r : Int) (ho : o ≤ L) (hL : L ≤ l.length) (hlC : l.length ≤ C) (hC : C ≤ 9223372036854775807) (hC0 : 0 < C) (hLb : L ≤ 1000000) (h0m : 0 ≤ most) (h1m : most ≤ 1000000000) (s t : List UInt8) (k : Nat) (hs : s.length ≤ 1000000) (hk : min (s.length : Int) (most - ((L : Int) - (o : Int))) = (k : Int)) (ht : s.take k = t) (hs0 : 0 < t.length) (hm : o < L) (h : ¬ L + t.length ≤ C) (h2 : t.length + (L - o) ≤ C / 2) : Meets Tryd.prog 9 [.ptr 500 0, .i64 0, .str s] [(500, some ⟨row0 most (.slk 501 0 (L) (C) true) ((o : Int)) (r) 502 z, 51, true⟩), (501, some ⟨bufC l C, 5, true⟩)] (.tup [.i64 (t.length : Int), .val .nilIface]) [(500, some ⟨row0 most (.slk 501 0 (L - o + t.length) (C) true) (0) (0) 502 z, 51, true⟩), (501, some ⟨bufC (wrB (mvB l o L) (L - o) t) C, 5, true⟩)] := by
 have htl : t.length = k := by rw [← ht, List.length_take]; omega
 refine meets_of_ev (nt := 35) Tryd.func9 rfl rfl (Nat.le_of_ble_eq_true rfl) ?_
 refine .seq ?_
 refine .region ?_
 refine .q (op_assign rfl) trivial rfl ?_
 refine .q (op_assign rfl) trivial rfl ?_
 refine .nil ?_
 show Ev _ _ _ _ _
 refine .seq ?_
 refine .region ?_
 refine .q (op_move rfl) trivial rfl ?_
 refine .q (op_move rfl) trivial rfl ?_
 refine .q (op_call (U := []) [(500, 500), (501, 501), (502, 502)] [] (way_sl0 most z C L o r) Tryd.func17 (by kernel_rfl) rfl rfl rfl (⟨⟨_, rfl, rfl, rfl⟩, ⟨_, rfl, rfl, rfl⟩, trivial⟩) (⟨⟨_, _, rfl, rfl, row0_ren _ _ _ _ _ _ _, rfl, (fun h => by cases h), row0_nmC _ _ _ _ _ _ _ rfl rfl⟩, trivial⟩) (trivial) (⟨(fun h => by cases h), trivial⟩) rfl) trivial rfl ?_
 refine .q (op_move rfl) trivial rfl ?_
 refine .q (op_extract rfl rfl) trivial rfl ?_
 refine .q (op_extract rfl rfl) trivial rfl ?_
 refine .q (op_assign rfl) trivial rfl ?_
 refine .q (op_assign rfl) trivial rfl ?_
 refine .nil ?_
 show Ev _ _ _ _ _
 refine .seq ?_
 refine .seq ?_
 refine .region ?_
 refine .q (op_move rfl) trivial rfl ?_
 refine .q (op_eqNilNil Tryd.underlying31 rfl rfl) trivial rfl ?_
 refine .nil ?_
 show Ev _ _ _ _ _
 refine .cond_false rfl (rfl) ?_
 refine .skip ?_
 show Ev _ _ _ _ _
 refine .seq ?_
 refine .drawn [[], [], [], [2], [], [4], [4, 5], [4, 5, 6], [], [8], [4, 5, 6, 7, 8, 9], [2, 3, 4, 5, 6, 7, 8, 9, 10], [1, 2, 3, 4, 5, 6, 7, 8, 9, 10, 11], [0, 1, 2, 3, 4, 5, 6, 7, 8, 9, 10, 11, 12], [0, 1, 2, 3, 4, 5, 6, 7, 8, 9, 10, 11, 12, 13], [0, 1, 2, 3, 4, 5, 6, 7, 8, 9, 10, 11, 12, 13], [0, 1, 2, 3, 4, 5, 6, 7, 8, 9, 10, 11, 12, 13, 14, 15], [0, 1, 2, 3, 4, 5, 6, 7, 8, 9, 10, 11, 12, 13, 14, 15, 16]] [7, 9, 13] [13] (by kernel_rfl) (by kernel_rfl) rfl ?_
 show DK _ [0, 1, 2, 3, 4, 5, 6, 7, 8, 9, 10, 11, 12, 13, 14, 15, 16, 17] _ _ _
 refine .q rfl (op_move rfl) trivial ?_
 refine .q rfl (op_move rfl) trivial ?_
 refine .q rfl (op_move rfl) trivial ?_
 refine .q rfl (op_len_str Tryd.underlying9 rfl) trivial ?_
 refine .q rfl (op_move rfl) trivial ?_
 refine .q rfl (op_nilCheck rfl) trivial ?_
 refine .q rfl (op_fieldAddr (m := 0) Tryd.underlying51 rfl (by kernel_rfl) rfl) trivial ?_
 refine .as (.ptr 500 0) rfl ?_
 refine .q rfl (op_load Tryd.underlying3 rfl rfl rfl rfl (by show 0 < 8; decide)) trivial ?_
 refine .q rfl (op_move rfl) trivial ?_
 refine .q rfl (op_call (U := []) [(500, 500), (501, 501), (502, 502)] [] (blen_ev0 most z r L o C (by omega) ho) Tryd.func19 (by kernel_rfl) rfl rfl rfl (⟨⟨_, rfl, rfl, rfl⟩, trivial⟩) (⟨⟨_, _, rfl, rfl, row0_ren _ _ _ _ _ _ _, rfl, (fun h => by cases h), row0_nmC _ _ _ _ _ _ _ rfl rfl⟩, trivial⟩) (trivial) (⟨(fun h => by cases h), trivial⟩) rfl) trivial ?_
 refine .q rfl (op_subI rfl rfl ⟨by omega, by omega⟩) trivial ?_
 refine .q rfl (op_minI rfl rfl) trivial ?_
 refine .as (.i64 (k : Int)) (congrArg AV.i64 hk) ?_
 refine .q rfl (ap_slice_str_hi Tryd.underlying9 rfl (bnd_some rfl rfl) (by omega)) trivial ?_
 refine .as (.str t) (congrArg AV.str ht) ?_
 refine .a rfl (op_call (U := [(500, some ⟨row0 most (.slk 501 0 (L - o + t.length) (C) true) (0) (0) 502 z, 51, true⟩), (501, some ⟨bufC (wrB (mvB l o L) (L - o) t) C, 5, true⟩)]) [(500, 500), (501, 501), (502, 502)] [] (ws_slide0 most z l C L o r ho hL hlC hC hC0 hLb t (by omega) hs0 hm h h2) Tryd.func18 (by kernel_rfl) rfl rfl rfl (⟨⟨_, rfl, rfl, rfl⟩, ⟨_, rfl, rfl, rfl⟩, trivial⟩) (⟨⟨_, _, rfl, rfl, row0_ren _ _ _ _ _ _ _, rfl, id, row0_nmC _ _ _ _ _ _ _ rfl rfl⟩, ⟨_, _, rfl, rfl, bufC_ren _ _ _, rfl, id, bufC_nmC _ _ _⟩, trivial⟩) (⟨⟨500, _, rfl, row0_uo rfl rfl, rfl, row0_nmF _ _ _ _ _ _ _ _ rfl rfl, .inr ⟨rfl, _, rfl, rfl⟩⟩, ⟨501, _, rfl, congrArg (fun z => (⟨z, _, _⟩ : ABlk)) (bufC_ren _ _ _).symm, rfl, bufC_nmF _ _ _ _, .inr ⟨rfl, _, rfl, rfl⟩⟩, trivial⟩) (⟨(fun _ => ⟨500, _, rfl, rfl⟩), (fun _ => ⟨501, _, rfl, rfl⟩), trivial⟩) rfl) trivial rfl rfl ?_
 refine .q rfl (op_extract rfl rfl) trivial ?_
 refine .q rfl (op_extract rfl rfl) trivial ?_
 refine .q rfl (op_assign rfl) trivial ?_
 refine .q rfl (op_assign rfl) trivial ?_
 refine .nil ?_
 show Ev _ _ _ _ _
 refine .ret ?_
 show RetOk _ _ _ _ _ _ _
 exact ret2v rfl (.inl rfl) rfl rfl rfl rfl ⟨rfl, rfl, trivial⟩
set_option maxRecDepth 100000 in
theorem put_new0 (most : Int) (z : Option BX) (l : List UInt8) (C L o : Nat) (r : Int) (ho : o ≤ L) (hL : L ≤ l.length) (hlC : l.length ≤ C) (hC : C ≤ 9223372036854775807) (hC0 : 0 < C) (hLb : L ≤ 1000000) (h0m : 0 ≤ most) (h1m : most ≤ 1000000000) (s t : List UInt8) (k : Nat) (hs : s.length ≤ 1000000) (hk : min (s.length : Int) (most - ((L : Int) - (o : Int))) = (k : Int)) (ht : s.take k = t) (hs0 : 0 < t.length) (hm : o < L) (h : ¬ L + t.length ≤ C) (h2 : ¬ t.length + (L - o) ≤ C / 2) : MeetsX Tryd.prog 9 [.ptr 500 0, .i64 0, .str s] [(500, some ⟨row0 most (.slk 501 0 (L) (C) true) ((o : Int)) (r) 502 z, 51, true⟩), (501, some ⟨bufC l C, 5, true⟩)] ({ C2 : Nat // (max (L - o + (o + t.length)) (2 * (C - o))) ≤ C2 ∧ C2 ≤ maxLen }) (fun q => .tup [.i64 (t.length : Int), .val .nilIface]) (fun q => [(500, some ⟨row0 most (.slk 1104 0 (L - o + t.length) q.1 true) (0) (0) 502 z, 51, true⟩), (1104, some ⟨bufC (wrB ((l.take L).drop o ++ List.replicate ((max (L - o + (o + t.length)) (2 * (C - o))) - (L - o)) 0) (L - o) t) q.1, 5, true⟩)]) := by
 have htl : t.length = k := by rw [← ht, List.length_take]; omega
 refine meetsX_of_ev (nt := 35) Tryd.func9 rfl rfl (Nat.le_of_ble_eq_true rfl) ?_
 refine .seq ?_
 refine .region ?_
 refine .q (op_assign rfl) trivial rfl ?_
 refine .q (op_assign rfl) trivial rfl ?_
 refine .nil ?_
 show Ev _ _ _ _ _
 refine .seq ?_
 refine .region ?_
 refine .q (op_move rfl) trivial rfl ?_
 refine .q (op_move rfl) trivial rfl ?_
 refine .q (op_call (U := []) [(500, 500), (501, 501), (502, 502)] [] (way_sl0 most z C L o r) Tryd.func17 (by kernel_rfl) rfl rfl rfl (⟨⟨_, rfl, rfl, rfl⟩, ⟨_, rfl, rfl, rfl⟩, trivial⟩) (⟨⟨_, _, rfl, rfl, row0_ren _ _ _ _ _ _ _, rfl, (fun h => by cases h), row0_nmC _ _ _ _ _ _ _ rfl rfl⟩, trivial⟩) (trivial) (⟨(fun h => by cases h), trivial⟩) rfl) trivial rfl ?_
 refine .q (op_move rfl) trivial rfl ?_
 refine .q (op_extract rfl rfl) trivial rfl ?_
 refine .q (op_extract rfl rfl) trivial rfl ?_
 refine .q (op_assign rfl) trivial rfl ?_
 refine .q (op_assign rfl) trivial rfl ?_
 refine .nil ?_
 show Ev _ _ _ _ _
 refine .seq ?_
 refine .seq ?_
 refine .region ?_
 refine .q (op_move rfl) trivial rfl ?_
 refine .q (op_eqNilNil Tryd.underlying31 rfl rfl) trivial rfl ?_
 refine .nil ?_
 show Ev _ _ _ _ _
 refine .cond_false rfl (rfl) ?_
 refine .skip ?_
 show Ev _ _ _ _ _
 refine .seq ?_
 refine .drawn [[], [], [], [2], [], [4], [4, 5], [4, 5, 6], [], [8], [4, 5, 6, 7, 8, 9], [2, 3, 4, 5, 6, 7, 8, 9, 10], [1, 2, 3, 4, 5, 6, 7, 8, 9, 10, 11], [0, 1, 2, 3, 4, 5, 6, 7, 8, 9, 10, 11, 12], [0, 1, 2, 3, 4, 5, 6, 7, 8, 9, 10, 11, 12, 13], [0, 1, 2, 3, 4, 5, 6, 7, 8, 9, 10, 11, 12, 13], [0, 1, 2, 3, 4, 5, 6, 7, 8, 9, 10, 11, 12, 13, 14, 15], [0, 1, 2, 3, 4, 5, 6, 7, 8, 9, 10, 11, 12, 13, 14, 15, 16]] [7, 9, 13] [13] (by kernel_rfl) (by kernel_rfl) rfl ?_
 show DK _ [0, 1, 2, 3, 4, 5, 6, 7, 8, 9, 10, 11, 12, 13, 14, 15, 16, 17] _ _ _
 refine .q rfl (op_move rfl) trivial ?_
 refine .q rfl (op_move rfl) trivial ?_
 refine .q rfl (op_move rfl) trivial ?_
 refine .q rfl (op_len_str Tryd.underlying9 rfl) trivial ?_
 refine .q rfl (op_move rfl) trivial ?_
 refine .q rfl (op_nilCheck rfl) trivial ?_
 refine .q rfl (op_fieldAddr (m := 0) Tryd.underlying51 rfl (by kernel_rfl) rfl) trivial ?_
 refine .as (.ptr 500 0) rfl ?_
 refine .q rfl (op_load Tryd.underlying3 rfl rfl rfl rfl (by show 0 < 8; decide)) trivial ?_
 refine .q rfl (op_move rfl) trivial ?_
 refine .q rfl (op_call (U := []) [(500, 500), (501, 501), (502, 502)] [] (blen_ev0 most z r L o C (by omega) ho) Tryd.func19 (by kernel_rfl) rfl rfl rfl (⟨⟨_, rfl, rfl, rfl⟩, trivial⟩) (⟨⟨_, _, rfl, rfl, row0_ren _ _ _ _ _ _ _, rfl, (fun h => by cases h), row0_nmC _ _ _ _ _ _ _ rfl rfl⟩, trivial⟩) (trivial) (⟨(fun h => by cases h), trivial⟩) rfl) trivial ?_
 refine .q rfl (op_subI rfl rfl ⟨by omega, by omega⟩) trivial ?_
 refine .q rfl (op_minI rfl rfl) trivial ?_
 refine .as (.i64 (k : Int)) (congrArg AV.i64 hk) ?_
 refine .q rfl (ap_slice_str_hi Tryd.underlying9 rfl (bnd_some rfl rfl) (by omega)) trivial ?_
 refine .as (.str t) (congrArg AV.str ht) ?_
 refine .a rfl (op_call (U := [(1104, some ⟨.aggB (wrB ((l.take L).drop o ++ List.replicate ((max (L - o + (o + t.length)) (2 * (C - o))) - (L - o)) 0) (L - o) t), 5, true⟩), (500, some ⟨row0 most (.slk 1104 0 (L - o + t.length) (max (L - o + (o + t.length)) (2 * (C - o))) false) (0) (0) 502 z, 51, true⟩), (501, none)]) [(500, 500), (501, 501), (502, 502)] [(1104, 1000)] (ws_new0 most z l C L o r ho hL hlC hC hC0 hLb t (by omega) hs0 hm h h2) Tryd.func18 (by kernel_rfl) rfl rfl rfl (⟨⟨_, rfl, rfl, rfl⟩, ⟨_, rfl, rfl, rfl⟩, trivial⟩) (⟨⟨_, _, rfl, rfl, row0_ren _ _ _ _ _ _ _, rfl, id, row0_nmC _ _ _ _ _ _ _ rfl rfl⟩, ⟨_, _, rfl, rfl, bufC_ren _ _ _, rfl, id, bufC_nmC _ _ _⟩, trivial⟩) (⟨⟨1000, _, rfl, rfl, rfl, rfl, .inl rfl⟩, ⟨500, _, rfl, row0_uo rfl rfl, rfl, row0_nmF _ _ _ _ _ _ _ _ rfl rfl, .inr ⟨rfl, _, rfl, rfl⟩⟩, trivial⟩) (⟨(fun _ => ⟨500, _, rfl, rfl⟩), (fun _ => ⟨501, _, rfl, rfl⟩), trivial⟩) rfl) trivial rfl rfl ?_
 refine .q rfl (op_extract rfl rfl) trivial ?_
 refine .q rfl (op_extract rfl rfl) trivial ?_
 refine .q rfl (op_assign rfl) trivial ?_
 refine .q rfl (op_assign rfl) trivial ?_
 refine .nil ?_
 show Ev _ _ _ _ _
 refine Ev.openK (B := 500) (i := 2) (b := 1104) (k := ⟨.aggB (wrB ((l.take L).drop o ++ List.replicate ((max (L - o + (o + t.length)) (2 * (C - o))) - (L - o)) 0) (L - o) t), 5, true⟩) (fun Cq => bufC (wrB ((l.take L).drop o ++ List.replicate ((max (L - o + (o + t.length)) (2 * (C - o))) - (L - o)) 0) (L - o) t) Cq) rfl rfl rfl (by decide) rfl (fun Cq _ => by exact pad_list) (by show (List.map AV.u8 (wrB ((l.take L).drop o ++ List.replicate ((max (L - o + (o + t.length)) (2 * (C - o))) - (L - o)) 0) (L - o) t)).length ≤ _; rw [List.length_map, wrB_len _ (by rw [newl_len ho hL (by omega)]; omega), newl_len ho hL (by omega)]; omega) rfl (fun _ => rfl) (fun C2q hC2 hCm => ?_)
 refine .ret ?_
 exact ⟨⟨C2q, hC2, hCm⟩, ret2v rfl (.inl rfl) rfl rfl rfl rfl ⟨rfl, rfl, trivial⟩⟩
set_option maxRecDepth 100000 in
theorem put_rnew0 (most : Int) (z : Option BX) (l : List UInt8) (C L : Nat) (r : Int) (hL : L ≤ l.length) (hlC : l.length ≤ C) (hC : C ≤ 9223372036854775807) (hC0 : 0 < C) (hLb : L ≤ 1000000) (h0m : 0 ≤ most) (h1m : most ≤ 1000000000) (s t : List UInt8) (k : Nat) (hs : s.length ≤ 1000000) (hk : min (s.length : Int) (most - ((L : Int) - (L : Int))) = (k : Int)) (ht : s.take k = t) (h0 : 0 < L) (hs0 : 0 < t.length) (hsC : ¬ t.length ≤ C) : MeetsX Tryd.prog 9 [.ptr 500 0, .i64 0, .str s] [(500, some ⟨row0 most (.slk 501 0 (L) (C) true) ((L : Int)) (r) 502 z, 51, true⟩), (501, some ⟨bufC l C, 5, true⟩)] ({ C2 : Nat // (max (0 - 0 + (0 + t.length)) (2 * (C - 0))) ≤ C2 ∧ C2 ≤ maxLen }) (fun q => .tup [.i64 (t.length : Int), .val .nilIface]) (fun q => [(500, some ⟨row0 most (.slk 1104 0 (0 - 0 + t.length) q.1 true) (0) (0) 502 z, 51, true⟩), (1104, some ⟨bufC (wrB ((l.take 0).drop 0 ++ List.replicate ((max (0 - 0 + (0 + t.length)) (2 * (C - 0))) - (0 - 0)) 0) 0 t) q.1, 5, true⟩)]) := by
 have htl : t.length = k := by rw [← ht, List.length_take]; omega
 refine meetsX_of_ev (nt := 35) Tryd.func9 rfl rfl (Nat.le_of_ble_eq_true rfl) ?_
 refine .seq ?_
 refine .region ?_
 refine .q (op_assign rfl) trivial rfl ?_
 refine .q (op_assign rfl) trivial rfl ?_
 refine .nil ?_
 show Ev _ _ _ _ _
 refine .seq ?_
 refine .region ?_
 refine .q (op_move rfl) trivial rfl ?_
 refine .q (op_move rfl) trivial rfl ?_
 refine .q (op_call (U := []) [(500, 500), (501, 501), (502, 502)] [] (way_sl0 most z C L L r) Tryd.func17 (by kernel_rfl) rfl rfl rfl (⟨⟨_, rfl, rfl, rfl⟩, ⟨_, rfl, rfl, rfl⟩, trivial⟩) (⟨⟨_, _, rfl, rfl, row0_ren _ _ _ _ _ _ _, rfl, (fun h => by cases h), row0_nmC _ _ _ _ _ _ _ rfl rfl⟩, trivial⟩) (trivial) (⟨(fun h => by cases h), trivial⟩) rfl) trivial rfl ?_
 refine .q (op_move rfl) trivial rfl ?_
 refine .q (op_extract rfl rfl) trivial rfl ?_
 refine .q (op_extract rfl rfl) trivial rfl ?_
 refine .q (op_assign rfl) trivial rfl ?_
 refine .q (op_assign rfl) trivial rfl ?_
 refine .nil ?_
 show Ev _ _ _ _ _
 refine .seq ?_
 refine .seq ?_
 refine .region ?_
 refine .q (op_move rfl) trivial rfl ?_
 refine .q (op_eqNilNil Tryd.underlying31 rfl rfl) trivial rfl ?_
 refine .nil ?_
 show Ev _ _ _ _ _
 refine .cond_false rfl (rfl) ?_
 refine .skip ?_
 show Ev _ _ _ _ _
 refine .seq ?_
 refine .drawn [[], [], [], [2], [], [4], [4, 5], [4, 5, 6], [], [8], [4, 5, 6, 7, 8, 9], [2, 3, 4, 5, 6, 7, 8, 9, 10], [1, 2, 3, 4, 5, 6, 7, 8, 9, 10, 11], [0, 1, 2, 3, 4, 5, 6, 7, 8, 9, 10, 11, 12], [0, 1, 2, 3, 4, 5, 6, 7, 8, 9, 10, 11, 12, 13], [0, 1, 2, 3, 4, 5, 6, 7, 8, 9, 10, 11, 12, 13], [0, 1, 2, 3, 4, 5, 6, 7, 8, 9, 10, 11, 12, 13, 14, 15], [0, 1, 2, 3, 4, 5, 6, 7, 8, 9, 10, 11, 12, 13, 14, 15, 16]] [7, 9, 13] [13] (by kernel_rfl) (by kernel_rfl) rfl ?_
 show DK _ [0, 1, 2, 3, 4, 5, 6, 7, 8, 9, 10, 11, 12, 13, 14, 15, 16, 17] _ _ _
 refine .q rfl (op_move rfl) trivial ?_
 refine .q rfl (op_move rfl) trivial ?_
 refine .q rfl (op_move rfl) trivial ?_
 refine .q rfl (op_len_str Tryd.underlying9 rfl) trivial ?_
 refine .q rfl (op_move rfl) trivial ?_
 refine .q rfl (op_nilCheck rfl) trivial ?_
 refine .q rfl (op_fieldAddr (m := 0) Tryd.underlying51 rfl (by kernel_rfl) rfl) trivial ?_
 refine .as (.ptr 500 0) rfl ?_
 refine .q rfl (op_load Tryd.underlying3 rfl rfl rfl rfl (by show 0 < 8; decide)) trivial ?_
 refine .q rfl (op_move rfl) trivial ?_
 refine .q rfl (op_call (U := []) [(500, 500), (501, 501), (502, 502)] [] (blen_ev0 most z r L L C (by omega) (Nat.le_refl _)) Tryd.func19 (by kernel_rfl) rfl rfl rfl (⟨⟨_, rfl, rfl, rfl⟩, trivial⟩) (⟨⟨_, _, rfl, rfl, row0_ren _ _ _ _ _ _ _, rfl, (fun h => by cases h), row0_nmC _ _ _ _ _ _ _ rfl rfl⟩, trivial⟩) (trivial) (⟨(fun h => by cases h), trivial⟩) rfl) trivial ?_
 refine .q rfl (op_subI rfl rfl ⟨by omega, by omega⟩) trivial ?_
 refine .q rfl (op_minI rfl rfl) trivial ?_
 refine .as (.i64 (k : Int)) (congrArg AV.i64 hk) ?_
 refine .q rfl (ap_slice_str_hi Tryd.underlying9 rfl (bnd_some rfl rfl) (by omega)) trivial ?_
 refine .as (.str t) (congrArg AV.str ht) ?_
 refine .a rfl (op_call (U := [(1104, some ⟨.aggB (wrB ((l.take 0).drop 0 ++ List.replicate ((max (0 - 0 + (0 + t.length)) (2 * (C - 0))) - (0 - 0)) 0) 0 t), 5, true⟩), (500, some ⟨row0 most (.slk 1104 0 (0 - 0 + t.length) (max (0 - 0 + (0 + t.length)) (2 * (C - 0))) false) (0) (0) 502 z, 51, true⟩), (501, none)]) [(500, 500), (501, 501), (502, 502)] [(1104, 1000)] (ws_rnew0 most z l C L r hL hlC hC hC0 hLb h0 t (by omega) hs0 hsC) Tryd.func18 (by kernel_rfl) rfl rfl rfl (⟨⟨_, rfl, rfl, rfl⟩, ⟨_, rfl, rfl, rfl⟩, trivial⟩) (⟨⟨_, _, rfl, rfl, row0_ren _ _ _ _ _ _ _, rfl, id, row0_nmC _ _ _ _ _ _ _ rfl rfl⟩, ⟨_, _, rfl, rfl, bufC_ren _ _ _, rfl, id, bufC_nmC _ _ _⟩, trivial⟩) (⟨⟨1000, _, rfl, rfl, rfl, rfl, .inl rfl⟩, ⟨500, _, rfl, row0_uo rfl rfl, rfl, row0_nmF _ _ _ _ _ _ _ _ rfl rfl, .inr ⟨rfl, _, rfl, rfl⟩⟩, trivial⟩) (⟨(fun _ => ⟨500, _, rfl, rfl⟩), (fun _ => ⟨501, _, rfl, rfl⟩), trivial⟩) rfl) trivial rfl rfl ?_
 refine .q rfl (op_extract rfl rfl) trivial ?_
 refine .q rfl (op_extract rfl rfl) trivial ?_
 refine .q rfl (op_assign rfl) trivial ?_
 refine .q rfl (op_assign rfl) trivial ?_
 refine .nil ?_
 show Ev _ _ _ _ _
 refine Ev.openK (B := 500) (i := 2) (b := 1104) (k := ⟨.aggB (wrB ((l.take 0).drop 0 ++ List.replicate ((max (0 - 0 + (0 + t.length)) (2 * (C - 0))) - (0 - 0)) 0) 0 t), 5, true⟩) (fun Cq => bufC (wrB ((l.take 0).drop 0 ++ List.replicate ((max (0 - 0 + (0 + t.length)) (2 * (C - 0))) - (0 - 0)) 0) 0 t) Cq) rfl rfl rfl (by decide) rfl (fun Cq _ => by exact pad_list) (by show (List.map AV.u8 (wrB ((l.take 0).drop 0 ++ List.replicate ((max (0 - 0 + (0 + t.length)) (2 * (C - 0))) - (0 - 0)) 0) 0 t)).length ≤ _; rw [List.length_map, wrB_len _ (Nat.zero_le _), newl_len (Nat.le_refl _) (Nat.zero_le _) (by omega)]; omega) rfl (fun _ => rfl) (fun C2q hC2 hCm => ?_)
 refine .ret ?_
 exact ⟨⟨C2q, hC2, hCm⟩, ret2v rfl (.inl rfl) rfl rfl rfl rfl ⟨rfl, rfl, trivial⟩⟩
set_option maxRecDepth 100000 in
theorem put_nil0 (most : Int) (z : Option BX) (h0m : 0 ≤ most) (h1m : most ≤ 1000000000) (s t : List UInt8) (k : Nat) (hs : s.length ≤ 1000000) (hk : min (s.length : Int) (most - 0) = (k : Int)) (ht : s.take k = t) (h : 0 < t.length) (h64 : t.length ≤ 64) : Meets Tryd.prog 9 [.ptr 500 0, .i64 0, .str s] [(500, some ⟨row0 most (.nilsl) (0) (0) 502 z, 51, true⟩)] (.tup [.i64 (t.length : Int), .val .nilIface]) [(500, some ⟨row0 most (.slk 1104 0 (t.length) (64) true) (0) (0) 502 z, 51, true⟩), (1104, some ⟨bufC (wrB z64 0 t) 64, 5, true⟩)] := by
 have htl : t.length = k := by rw [← ht, List.length_take]; omega
 refine meets_of_ev (nt := 35) Tryd.func9 rfl rfl (Nat.le_of_ble_eq_true rfl) ?_
 refine .seq ?_
 refine .region ?_
 refine .q (op_assign rfl) trivial rfl ?_
 refine .q (op_assign rfl) trivial rfl ?_
 refine .nil ?_
 show Ev _ _ _ _ _
 refine .seq ?_
 refine .region ?_
 refine .q (op_move rfl) trivial rfl ?_
 refine .q (op_move rfl) trivial rfl ?_
 refine .q (op_call (U := []) [(500, 500), (502, 502)] [] (way_nil0 most z) Tryd.func17 (by kernel_rfl) rfl rfl rfl (⟨⟨_, rfl, rfl, rfl⟩, ⟨_, rfl, rfl, rfl⟩, trivial⟩) (⟨⟨_, _, rfl, rfl, row0_ren _ _ _ _ _ _ _, rfl, (fun h => by cases h), row0_nmC _ _ _ _ _ _ _ rfl rfl⟩, trivial⟩) (trivial) (⟨(fun h => by cases h), trivial⟩) rfl) trivial rfl ?_
 refine .q (op_move rfl) trivial rfl ?_
 refine .q (op_extract rfl rfl) trivial rfl ?_
 refine .q (op_extract rfl rfl) trivial rfl ?_
 refine .q (op_assign rfl) trivial rfl ?_
 refine .q (op_assign rfl) trivial rfl ?_
 refine .nil ?_
 show Ev _ _ _ _ _
 refine .seq ?_
 refine .seq ?_
 refine .region ?_
 refine .q (op_move rfl) trivial rfl ?_
 refine .q (op_eqNilNil Tryd.underlying31 rfl rfl) trivial rfl ?_
 refine .nil ?_
 show Ev _ _ _ _ _
 refine .cond_false rfl (rfl) ?_
 refine .skip ?_
 show Ev _ _ _ _ _
 refine .seq ?_
 refine .drawn [[], [], [], [2], [], [4], [4, 5], [4, 5, 6], [], [8], [4, 5, 6, 7, 8, 9], [2, 3, 4, 5, 6, 7, 8, 9, 10], [1, 2, 3, 4, 5, 6, 7, 8, 9, 10, 11], [0, 1, 2, 3, 4, 5, 6, 7, 8, 9, 10, 11, 12], [0, 1, 2, 3, 4, 5, 6, 7, 8, 9, 10, 11, 12, 13], [0, 1, 2, 3, 4, 5, 6, 7, 8, 9, 10, 11, 12, 13], [0, 1, 2, 3, 4, 5, 6, 7, 8, 9, 10, 11, 12, 13, 14, 15], [0, 1, 2, 3, 4, 5, 6, 7, 8, 9, 10, 11, 12, 13, 14, 15, 16]] [7, 9, 13] [13] (by kernel_rfl) (by kernel_rfl) rfl ?_
 show DK _ [0, 1, 2, 3, 4, 5, 6, 7, 8, 9, 10, 11, 12, 13, 14, 15, 16, 17] _ _ _
 refine .q rfl (op_move rfl) trivial ?_
 refine .q rfl (op_move rfl) trivial ?_
 refine .q rfl (op_move rfl) trivial ?_
 refine .q rfl (op_len_str Tryd.underlying9 rfl) trivial ?_
 refine .q rfl (op_move rfl) trivial ?_
 refine .q rfl (op_nilCheck rfl) trivial ?_
 refine .q rfl (op_fieldAddr (m := 0) Tryd.underlying51 rfl (by kernel_rfl) rfl) trivial ?_
 refine .as (.ptr 500 0) rfl ?_
 refine .q rfl (op_load Tryd.underlying3 rfl rfl rfl rfl (by show 0 < 8; decide)) trivial ?_
 refine .q rfl (op_move rfl) trivial ?_
 refine .q rfl (op_call (U := []) [(500, 500), (502, 502)] [] (blen_nil0 most z 0) Tryd.func19 (by kernel_rfl) rfl rfl rfl (⟨⟨_, rfl, rfl, rfl⟩, trivial⟩) (⟨⟨_, _, rfl, rfl, row0_ren _ _ _ _ _ _ _, rfl, (fun h => by cases h), row0_nmC _ _ _ _ _ _ _ rfl rfl⟩, trivial⟩) (trivial) (⟨(fun h => by cases h), trivial⟩) rfl) trivial ?_
 refine .q rfl (op_subI rfl rfl ⟨by omega, by omega⟩) trivial ?_
 refine .q rfl (op_minI rfl rfl) trivial ?_
 refine .as (.i64 (k : Int)) (congrArg AV.i64 hk) ?_
 refine .q rfl (ap_slice_str_hi Tryd.underlying9 rfl (bnd_some rfl rfl) (by omega)) trivial ?_
 refine .as (.str t) (congrArg AV.str ht) ?_
 refine .a rfl (op_call (U := [(1104, some ⟨.aggB (wrB z64 0 t), 5, true⟩), (500, some ⟨row0 most (.slk 1104 0 (t.length) (64) true) (0) (0) 502 z, 51, true⟩)]) [(500, 500), (502, 502)] [(1104, 1000)] (ws_nil0 most z 0 t h h64) Tryd.func18 (by kernel_rfl) rfl rfl rfl (⟨⟨_, rfl, rfl, rfl⟩, ⟨_, rfl, rfl, rfl⟩, trivial⟩) (⟨⟨_, _, rfl, rfl, row0_ren _ _ _ _ _ _ _, rfl, id, row0_nmC _ _ _ _ _ _ _ rfl rfl⟩, trivial⟩) (⟨⟨1000, _, rfl, rfl, rfl, rfl, .inl rfl⟩, ⟨500, _, rfl, row0_uo rfl rfl, rfl, row0_nmF _ _ _ _ _ _ _ _ rfl rfl, .inr ⟨rfl, _, rfl, rfl⟩⟩, trivial⟩) (⟨(fun _ => ⟨500, _, rfl, rfl⟩), trivial⟩) rfl) trivial rfl rfl ?_
 refine .q rfl (op_extract rfl rfl) trivial ?_
 refine .q rfl (op_extract rfl rfl) trivial ?_
 refine .q rfl (op_assign rfl) trivial ?_
 refine .q rfl (op_assign rfl) trivial ?_
 refine .nil ?_
 show Ev _ _ _ _ _
 refine Ev.cont (b := 1104) (bufC (wrB z64 0 t) 64) rfl rfl (full_list (by rw [wrB_len _ (Nat.zero_le _), z64_len]; omega)) ?_
 refine .ret ?_
 show RetOk _ _ _ _ _ _ _
 exact ret2v rfl (.inl rfl) rfl rfl rfl rfl ⟨rfl, rfl, trivial⟩
set_option maxRecDepth 100000 in
theorem put_nilbig0 (most : Int) (z : Option BX) (h0m : 0 ≤ most) (h1m : most ≤ 1000000000) (s t : List UInt8) (k : Nat) (hs : s.length ≤ 1000000) (hk : min (s.length : Int) (most - 0) = (k : Int)) (ht : s.take k = t) (h : 0 < t.length) (h64 : ¬ t.length ≤ 64) : MeetsX Tryd.prog 9 [.ptr 500 0, .i64 0, .str s] [(500, some ⟨row0 most (.nilsl) (0) (0) 502 z, 51, true⟩)] ({ C2 : Nat // t.length ≤ C2 ∧ C2 ≤ maxLen }) (fun q => .tup [.i64 (t.length : Int), .val .nilIface]) (fun q => [(500, some ⟨row0 most (.slk 1104 0 t.length q.1 true) (0) (0) 502 z, 51, true⟩), (1104, some ⟨bufC (wrB (List.replicate t.length (0 : UInt8)) 0 t) q.1, 5, true⟩)]) := by
 have htl : t.length = k := by rw [← ht, List.length_take]; omega
 refine meetsX_of_ev (nt := 35) Tryd.func9 rfl rfl (Nat.le_of_ble_eq_true rfl) ?_
 refine .seq ?_
 refine .region ?_
 refine .q (op_assign rfl) trivial rfl ?_
 refine .q (op_assign rfl) trivial rfl ?_
 refine .nil ?_
 show Ev _ _ _ _ _
 refine .seq ?_
 refine .region ?_
 refine .q (op_move rfl) trivial rfl ?_
 refine .q (op_move rfl) trivial rfl ?_
 refine .q (op_call (U := []) [(500, 500), (502, 502)] [] (way_nil0 most z) Tryd.func17 (by kernel_rfl) rfl rfl rfl (⟨⟨_, rfl, rfl, rfl⟩, ⟨_, rfl, rfl, rfl⟩, trivial⟩) (⟨⟨_, _, rfl, rfl, row0_ren _ _ _ _ _ _ _, rfl, (fun h => by cases h), row0_nmC _ _ _ _ _ _ _ rfl rfl⟩, trivial⟩) (trivial) (⟨(fun h => by cases h), trivial⟩) rfl) trivial rfl ?_
 refine .q (op_move rfl) trivial rfl ?_
 refine .q (op_extract rfl rfl) trivial rfl ?_
 refine .q (op_extract rfl rfl) trivial rfl ?_
 refine .q (op_assign rfl) trivial rfl ?_
 refine .q (op_assign rfl) trivial rfl ?_
 refine .nil ?_
 show Ev _ _ _ _ _
 refine .seq ?_
 refine .seq ?_
 refine .region ?_
 refine .q (op_move rfl) trivial rfl ?_
 refine .q (op_eqNilNil Tryd.underlying31 rfl rfl) trivial rfl ?_
 refine .nil ?_
 show Ev _ _ _ _ _
 refine .cond_false rfl (rfl) ?_
 refine .skip ?_
 show Ev _ _ _ _ _
 refine .seq ?_
 refine .drawn [[], [], [], [2], [], [4], [4, 5], [4, 5, 6], [], [8], [4, 5, 6, 7, 8, 9], [2, 3, 4, 5, 6, 7, 8, 9, 10], [1, 2, 3, 4, 5, 6, 7, 8, 9, 10, 11], [0, 1, 2, 3, 4, 5, 6, 7, 8, 9, 10, 11, 12], [0, 1, 2, 3, 4, 5, 6, 7, 8, 9, 10, 11, 12, 13], [0, 1, 2, 3, 4, 5, 6, 7, 8, 9, 10, 11, 12, 13], [0, 1, 2, 3, 4, 5, 6, 7, 8, 9, 10, 11, 12, 13, 14, 15], [0, 1, 2, 3, 4, 5, 6, 7, 8, 9, 10, 11, 12, 13, 14, 15, 16]] [7, 9, 13] [13] (by kernel_rfl) (by kernel_rfl) rfl ?_
 show DK _ [0, 1, 2, 3, 4, 5, 6, 7, 8, 9, 10, 11, 12, 13, 14, 15, 16, 17] _ _ _
 refine .q rfl (op_move rfl) trivial ?_
 refine .q rfl (op_move rfl) trivial ?_
 refine .q rfl (op_move rfl) trivial ?_
 refine .q rfl (op_len_str Tryd.underlying9 rfl) trivial ?_
 refine .q rfl (op_move rfl) trivial ?_
 refine .q rfl (op_nilCheck rfl) trivial ?_
 refine .q rfl (op_fieldAddr (m := 0) Tryd.underlying51 rfl (by kernel_rfl) rfl) trivial ?_
 refine .as (.ptr 500 0) rfl ?_
 refine .q rfl (op_load Tryd.underlying3 rfl rfl rfl rfl (by show 0 < 8; decide)) trivial ?_
 refine .q rfl (op_move rfl) trivial ?_
 refine .q rfl (op_call (U := []) [(500, 500), (502, 502)] [] (blen_nil0 most z 0) Tryd.func19 (by kernel_rfl) rfl rfl rfl (⟨⟨_, rfl, rfl, rfl⟩, trivial⟩) (⟨⟨_, _, rfl, rfl, row0_ren _ _ _ _ _ _ _, rfl, (fun h => by cases h), row0_nmC _ _ _ _ _ _ _ rfl rfl⟩, trivial⟩) (trivial) (⟨(fun h => by cases h), trivial⟩) rfl) trivial ?_
 refine .q rfl (op_subI rfl rfl ⟨by omega, by omega⟩) trivial ?_
 refine .q rfl (op_minI rfl rfl) trivial ?_
 refine .as (.i64 (k : Int)) (congrArg AV.i64 hk) ?_
 refine .q rfl (ap_slice_str_hi Tryd.underlying9 rfl (bnd_some rfl rfl) (by omega)) trivial ?_
 refine .as (.str t) (congrArg AV.str ht) ?_
 refine .a rfl (op_call (U := [(1104, some ⟨.aggB (wrB (List.replicate t.length (0 : UInt8)) 0 t), 5, true⟩), (500, some ⟨row0 most (.slk 1104 0 t.length t.length false) (0) (0) 502 z, 51, true⟩)]) [(500, 500), (502, 502)] [(1104, 1000)] (ws_nilbig0 most z 0 t h h64 (by omega)) Tryd.func18 (by kernel_rfl) rfl rfl rfl (⟨⟨_, rfl, rfl, rfl⟩, ⟨_, rfl, rfl, rfl⟩, trivial⟩) (⟨⟨_, _, rfl, rfl, row0_ren _ _ _ _ _ _ _, rfl, id, row0_nmC _ _ _ _ _ _ _ rfl rfl⟩, trivial⟩) (⟨⟨1000, _, rfl, rfl, rfl, rfl, .inl rfl⟩, ⟨500, _, rfl, row0_uo rfl rfl, rfl, row0_nmF _ _ _ _ _ _ _ _ rfl rfl, .inr ⟨rfl, _, rfl, rfl⟩⟩, trivial⟩) (⟨(fun _ => ⟨500, _, rfl, rfl⟩), trivial⟩) rfl) trivial rfl rfl ?_
 refine .q rfl (op_extract rfl rfl) trivial ?_
 refine .q rfl (op_extract rfl rfl) trivial ?_
 refine .q rfl (op_assign rfl) trivial ?_
 refine .q rfl (op_assign rfl) trivial ?_
 refine .nil ?_
 show Ev _ _ _ _ _
 refine Ev.openK (B := 500) (i := 2) (b := 1104) (k := ⟨.aggB (wrB (List.replicate t.length (0 : UInt8)) 0 t), 5, true⟩) (fun Cq => bufC (wrB (List.replicate t.length (0 : UInt8)) 0 t) Cq) rfl rfl rfl (by decide) rfl (fun Cq _ => by exact pad_list) (by show (List.map AV.u8 (wrB (List.replicate t.length (0 : UInt8)) 0 t)).length ≤ _; rw [List.length_map, wrB_len _ (Nat.zero_le _), List.length_replicate]; omega) rfl (fun _ => rfl) (fun C2q hC2 hCm => ?_)
 refine .ret ?_
 exact ⟨⟨C2q, hC2, hCm⟩, ret2v rfl (.inl rfl) rfl rfl rfl rfl ⟨rfl, rfl, trivial⟩⟩
theorem ws_nil0t0 (most : Int) (z : Option BX) (t : List UInt8) (h : t = []) : Meets Tryd.prog 18 [.ptr 500 2, .str t] [(500, some ⟨row0 most (.nilsl) (0) (0) 502 z, 51, true⟩)] (.tup [.i64 (t.length : Int), .val .nilIface]) [(500, some ⟨row0 most (.nilsl) (0) (0) 502 z, 51, true⟩)] := by
 subst h
 exact ws_nil00 most z 0
set_option maxRecDepth 100000 in
theorem put_nil00 (most : Int) (z : Option BX) (h0m : 0 ≤ most) (h1m : most ≤ 1000000000) (s t : List UInt8) (k : Nat) (hs : s.length ≤ 1000000) (hk : min (s.length : Int) (most - 0) = (k : Int)) (ht : s.take k = t) (h : t = []) : Meets Tryd.prog 9 [.ptr 500 0, .i64 0, .str s] [(500, some ⟨row0 most (.nilsl) (0) (0) 502 z, 51, true⟩)] (.tup [.i64 (t.length : Int), .val .nilIface]) [(500, some ⟨row0 most (.nilsl) (0) (0) 502 z, 51, true⟩)] := by
 have htl : t.length = k := by rw [← ht, List.length_take]; omega
 refine meets_of_ev (nt := 35) Tryd.func9 rfl rfl (Nat.le_of_ble_eq_true rfl) ?_
 refine .seq ?_
 refine .region ?_
 refine .q (op_assign rfl) trivial rfl ?_
 refine .q (op_assign rfl) trivial rfl ?_
 refine .nil ?_
 show Ev _ _ _ _ _
 refine .seq ?_
 refine .region ?_
 refine .q (op_move rfl) trivial rfl ?_
 refine .q (op_move rfl) trivial rfl ?_
 refine .q (op_call (U := []) [(500, 500), (502, 502)] [] (way_nil0 most z) Tryd.func17 (by kernel_rfl) rfl rfl rfl (⟨⟨_, rfl, rfl, rfl⟩, ⟨_, rfl, rfl, rfl⟩, trivial⟩) (⟨⟨_, _, rfl, rfl, row0_ren _ _ _ _ _ _ _, rfl, (fun h => by cases h), row0_nmC _ _ _ _ _ _ _ rfl rfl⟩, trivial⟩) (trivial) (⟨(fun h => by cases h), trivial⟩) rfl) trivial rfl ?_
 refine .q (op_move rfl) trivial rfl ?_
 refine .q (op_extract rfl rfl) trivial rfl ?_
 refine .q (op_extract rfl rfl) trivial rfl ?_
 refine .q (op_assign rfl) trivial rfl ?_
 refine .q (op_assign rfl) trivial rfl ?_
 refine .nil ?_
 show Ev _ _ _ _ _
 refine .seq ?_
 refine .seq ?_
 refine .region ?_
 refine .q (op_move rfl) trivial rfl ?_
 refine .q (op_eqNilNil Tryd.underlying31 rfl rfl) trivial rfl ?_
 refine .nil ?_
 show Ev _ _ _ _ _
 refine .cond_false rfl (rfl) ?_
 refine .skip ?_
 show Ev _ _ _ _ _
 refine .seq ?_
 refine .drawn [[], [], [], [2], [], [4], [4, 5], [4, 5, 6], [], [8], [4, 5, 6, 7, 8, 9], [2, 3, 4, 5, 6, 7, 8, 9, 10], [1, 2, 3, 4, 5, 6, 7, 8, 9, 10, 11], [0, 1, 2, 3, 4, 5, 6, 7, 8, 9, 10, 11, 12], [0, 1, 2, 3, 4, 5, 6, 7, 8, 9, 10, 11, 12, 13], [0, 1, 2, 3, 4, 5, 6, 7, 8, 9, 10, 11, 12, 13], [0, 1, 2, 3, 4, 5, 6, 7, 8, 9, 10, 11, 12, 13, 14, 15], [0, 1, 2, 3, 4, 5, 6, 7, 8, 9, 10, 11, 12, 13, 14, 15, 16]] [7, 9, 13] [13] (by kernel_rfl) (by kernel_rfl) rfl ?_
 show DK _ [0, 1, 2, 3, 4, 5, 6, 7, 8, 9, 10, 11, 12, 13, 14, 15, 16, 17] _ _ _
 refine .q rfl (op_move rfl) trivial ?_
 refine .q rfl (op_move rfl) trivial ?_
 refine .q rfl (op_move rfl) trivial ?_
 refine .q rfl (op_len_str Tryd.underlying9 rfl) trivial ?_
 refine .q rfl (op_move rfl) trivial ?_
 refine .q rfl (op_nilCheck rfl) trivial ?_
 refine .q rfl (op_fieldAddr (m := 0) Tryd.underlying51 rfl (by kernel_rfl) rfl) trivial ?_
 refine .as (.ptr 500 0) rfl ?_
 refine .q rfl (op_load Tryd.underlying3 rfl rfl rfl rfl (by show 0 < 8; decide)) trivial ?_
 refine .q rfl (op_move rfl) trivial ?_
 refine .q rfl (op_call (U := []) [(500, 500), (502, 502)] [] (blen_nil0 most z 0) Tryd.func19 (by kernel_rfl) rfl rfl rfl (⟨⟨_, rfl, rfl, rfl⟩, trivial⟩) (⟨⟨_, _, rfl, rfl, row0_ren _ _ _ _ _ _ _, rfl, (fun h => by cases h), row0_nmC _ _ _ _ _ _ _ rfl rfl⟩, trivial⟩) (trivial) (⟨(fun h => by cases h), trivial⟩) rfl) trivial ?_
 refine .q rfl (op_subI rfl rfl ⟨by omega, by omega⟩) trivial ?_
 refine .q rfl (op_minI rfl rfl) trivial ?_
 refine .as (.i64 (k : Int)) (congrArg AV.i64 hk) ?_
 refine .q rfl (ap_slice_str_hi Tryd.underlying9 rfl (bnd_some rfl rfl) (by omega)) trivial ?_
 refine .as (.str t) (congrArg AV.str ht) ?_
 refine .a rfl (op_call (U := [(500, some ⟨row0 most (.nilsl) (0) (0) 502 z, 51, true⟩)]) [(500, 500), (502, 502)] [] (ws_nil0t0 most z t h) Tryd.func18 (by kernel_rfl) rfl rfl rfl (⟨⟨_, rfl, rfl, rfl⟩, ⟨_, rfl, rfl, rfl⟩, trivial⟩) (⟨⟨_, _, rfl, rfl, row0_ren _ _ _ _ _ _ _, rfl, id, row0_nmC _ _ _ _ _ _ _ rfl rfl⟩, trivial⟩) (⟨⟨500, _, rfl, row0_uo rfl rfl, rfl, row0_nmF _ _ _ _ _ _ _ _ rfl rfl, .inr ⟨rfl, _, rfl, rfl⟩⟩, trivial⟩) (⟨(fun _ => ⟨500, _, rfl, rfl⟩), trivial⟩) rfl) trivial rfl rfl ?_
 refine .q rfl (op_extract rfl rfl) trivial ?_
 refine .q rfl (op_extract rfl rfl) trivial ?_
 refine .q rfl (op_assign rfl) trivial ?_
 refine .q rfl (op_assign rfl) trivial ?_
 refine .nil ?_
 show Ev _ _ _ _ _
 refine .ret ?_
 show RetOk _ _ _ _ _ _ _
 exact ret2v rfl (.inl rfl) rfl rfl rfl rfl ⟨rfl, trivial⟩
set_option maxRecDepth 100000 in
theorem take_ap0 (most : Int) (z : Option BX) (l : List UInt8) (C L o : Nat) (r : Int) (ho : o ≤ L) (hL : L ≤ l.length) (hlC : l.length ≤ C) (hC : C ≤ 9223372036854775807) (hC0 : 0 < C) (hLb : L ≤ 1000000) (k : Nat) (n : Int) (hk : k = L - o) (hn : ((L : Int) - (o : Int)) < max n 0) (hp : 0 < k) : Meets Tryd.prog 11 [.ptr 500 0, .i64 0, .i64 n] [(500, some ⟨row0 most (.slk 501 0 (L) (C) true) ((o : Int)) (r) 502 z, 51, true⟩), (501, some ⟨bufC l C, 5, false⟩)] (.tup [.str ((l.drop o).take k), .val .nilIface]) [(500, some ⟨row0 most (.slk 501 0 (L) (C) true) (((o + k : Nat) : Int)) (-1) 502 z, 51, true⟩)] := by
 refine meets_of_ev (nt := 24) Tryd.func11 rfl rfl (Nat.le_of_ble_eq_true rfl) ?_
 refine .seq ?_
 refine .region ?_
 refine .q (op_assign rfl) trivial rfl ?_
 refine .q (op_assign rfl) trivial rfl ?_
 refine .nil ?_
 show Ev _ _ _ _ _
 refine .seq ?_
 refine .region ?_
 refine .q (op_move rfl) trivial rfl ?_
 refine .q (op_move rfl) trivial rfl ?_
 refine .q (op_call (U := []) [(500, 500), (501, 501), (502, 502)] [] (way_sl0 most z C L o r) Tryd.func17 (by kernel_rfl) rfl rfl rfl (⟨⟨_, rfl, rfl, rfl⟩, ⟨_, rfl, rfl, rfl⟩, trivial⟩) (⟨⟨_, _, rfl, rfl, row0_ren _ _ _ _ _ _ _, rfl, (fun h => by cases h), row0_nmC _ _ _ _ _ _ _ rfl rfl⟩, trivial⟩) (trivial) (⟨(fun h => by cases h), trivial⟩) rfl) trivial rfl ?_
 refine .q (op_move rfl) trivial rfl ?_
 refine .q (op_extract rfl rfl) trivial rfl ?_
 refine .q (op_extract rfl rfl) trivial rfl ?_
 refine .q (op_assign rfl) trivial rfl ?_
 refine .q (op_assign rfl) trivial rfl ?_
 refine .nil ?_
 show Ev _ _ _ _ _
 refine .seq ?_
 refine .seq ?_
 refine .region ?_
 refine .q (op_move rfl) trivial rfl ?_
 refine .q (op_eqNilNil Tryd.underlying31 rfl rfl) trivial rfl ?_
 refine .nil ?_
 show Ev _ _ _ _ _
 refine .cond_false rfl (rfl) ?_
 refine .skip ?_
 show Ev _ _ _ _ _
 refine .seq ?_
 refine .region ?_
 refine .q (op_move rfl) trivial rfl ?_
 refine .q (op_move rfl) trivial rfl ?_
 refine .q (op_maxI rfl rfl) trivial rfl ?_
 refine .a (op_call (U := [(500, some ⟨row0 most (.slk 501 0 (L) (C) true) (((o + k : Nat) : Int)) (-1) 502 z, 51, true⟩)]) [(500, 500), (501, 501), (502, 502)] [] (nx_ap0 most z l C L o r ho hL hlC hC hC0 hLb k (max n 0) hk hn hp) Tryd.func21 (by kernel_rfl) rfl rfl rfl (⟨⟨_, rfl, rfl, rfl⟩, ⟨_, rfl, rfl, rfl⟩, trivial⟩) (⟨⟨_, _, rfl, rfl, row0_ren _ _ _ _ _ _ _, rfl, id, row0_nmC _ _ _ _ _ _ _ rfl rfl⟩, trivial⟩) (⟨⟨500, _, rfl, row0_uo rfl rfl, rfl, row0_nmF _ _ _ _ _ _ _ _ rfl rfl, .inr ⟨rfl, _, rfl, rfl⟩⟩, trivial⟩) (⟨(fun _ => ⟨500, _, rfl, rfl⟩), trivial⟩) rfl) trivial rfl ?_
 refine .q (op_bytes_strR (l := (l.drop o).take k) Tryd.underlying38 Tryd.underlying5 Tryd.underlying9 rfl rfl (by simp; omega) (bufC_part (by omega))) trivial rfl ?_
 refine .q (op_assign rfl) trivial rfl ?_
 refine .q (op_assign rfl) trivial rfl ?_
 refine .nil ?_
 show Ev _ _ _ _ _
 refine .ret ?_
 show RetOk _ _ _ _ _ _ _
 exact ret2v rfl (.inl rfl) rfl rfl rfl rfl ⟨rfl, trivial⟩
set_option maxRecDepth 100000 in
theorem lose_ap0 (most : Int) (z : Option BX) (l : List UInt8) (C L o : Nat) (r : Int) (ho : o ≤ L) (hL : L ≤ l.length) (hlC : l.length ≤ C) (hC : C ≤ 9223372036854775807) (hC0 : 0 < C) (hLb : L ≤ 1000000) (k : Nat) (n : Int) (hk : k = L - o) (hn : ((L : Int) - (o : Int)) < max n 0) (hp : 0 < k) : Meets Tryd.prog 13 [.ptr 500 0, .i64 0, .i64 n] [(500, some ⟨row0 most (.slk 501 0 (L) (C) true) ((o : Int)) (r) 502 z, 51, true⟩), (501, some ⟨bufC l C, 5, false⟩)] (.tup [.i64 (k : Int), .val .nilIface]) [(500, some ⟨row0 most (.slk 501 0 (L) (C) true) (((o + k : Nat) : Int)) (-1) 502 z, 51, true⟩)] := by
 refine meets_of_ev (nt := 20) Tryd.func13 rfl rfl (Nat.le_of_ble_eq_true rfl) ?_
 refine .seq ?_
 refine .region ?_
 refine .q (op_assign rfl) trivial rfl ?_
 refine .q (op_assign rfl) trivial rfl ?_
 refine .nil ?_
 show Ev _ _ _ _ _
 refine .seq ?_
 refine .region ?_
 refine .q (op_move rfl) trivial rfl ?_
 refine .q (op_move rfl) trivial rfl ?_
 refine .q (op_move rfl) trivial rfl ?_
 refine .a (op_call (U := [(500, some ⟨row0 most (.slk 501 0 (L) (C) true) (((o + k : Nat) : Int)) (-1) 502 z, 51, true⟩)]) [(500, 500), (501, 501), (502, 502)] [] (take_ap0 most z l C L o r ho hL hlC hC hC0 hLb k n hk hn hp) Tryd.func11 (by kernel_rfl) rfl rfl rfl (⟨⟨_, rfl, rfl, rfl⟩, ⟨_, rfl, rfl, rfl⟩, ⟨_, rfl, rfl, rfl⟩, trivial⟩) (⟨⟨_, _, rfl, rfl, row0_ren _ _ _ _ _ _ _, rfl, id, row0_nmC _ _ _ _ _ _ _ rfl rfl⟩, ⟨_, _, rfl, rfl, bufC_ren _ _ _, rfl, (fun h => by cases h), bufC_nmC _ _ _⟩, trivial⟩) (⟨⟨500, _, rfl, row0_uo rfl rfl, rfl, row0_nmF _ _ _ _ _ _ _ _ rfl rfl, .inr ⟨rfl, _, rfl, rfl⟩⟩, trivial⟩) (⟨(fun _ => ⟨500, _, rfl, rfl⟩), (fun h => by cases h), trivial⟩) rfl) trivial rfl ?_
 refine .q (op_move rfl) trivial rfl ?_
 refine .q (op_extract rfl rfl) trivial rfl ?_
 refine .q (op_extract rfl rfl) trivial rfl ?_
 refine .q (op_assign rfl) trivial rfl ?_
 refine .q (op_assign rfl) trivial rfl ?_
 refine .nil ?_
 show Ev _ _ _ _ _
 refine .seq ?_
 refine .region ?_
 refine .q (op_move rfl) trivial rfl ?_
 refine .q (op_len_str Tryd.underlying9 rfl) trivial rfl ?_
 refine .as (.i64 (k : Int)) (congrArg AV.i64 (by simp; omega)) ?_
 refine .q (op_move rfl) trivial rfl ?_
 refine .q (op_assign rfl) trivial rfl ?_
 refine .q (op_assign rfl) trivial rfl ?_
 refine .nil ?_
 show Ev _ _ _ _ _
 refine .ret ?_
 show RetOk _ _ _ _ _ _ _
 exact ret2v rfl (.inl rfl) rfl rfl rfl rfl ⟨rfl, trivial⟩
set_option maxRecDepth 100000 in
theorem take_az0 (most : Int) (z : Option BX) (l : List UInt8) (C L o : Nat) (r : Int) (ho : o ≤ L) (hL : L ≤ l.length) (hlC : l.length ≤ C) (hC : C ≤ 9223372036854775807) (hC0 : 0 < C) (hLb : L ≤ 1000000) (k : Nat) (n : Int) (hk : k = L - o) (hn : ((L : Int) - (o : Int)) < max n 0) (hp : k = 0) : Meets Tryd.prog 11 [.ptr 500 0, .i64 0, .i64 n] [(500, some ⟨row0 most (.slk 501 0 (L) (C) true) ((o : Int)) (r) 502 z, 51, true⟩), (501, some ⟨bufC l C, 5, false⟩)] (.tup [.str ((l.drop o).take k), .val .nilIface]) [(500, some ⟨row0 most (.slk 501 0 (L) (C) true) (((o + k : Nat) : Int)) (0) 502 z, 51, true⟩)] := by
 refine meets_of_ev (nt := 24) Tryd.func11 rfl rfl (Nat.le_of_ble_eq_true rfl) ?_
 refine .seq ?_
 refine .region ?_
 refine .q (op_assign rfl) trivial rfl ?_
 refine .q (op_assign rfl) trivial rfl ?_
 refine .nil ?_
 show Ev _ _ _ _ _
 refine .seq ?_
 refine .region ?_
 refine .q (op_move rfl) trivial rfl ?_
 refine .q (op_move rfl) trivial rfl ?_
 refine .q (op_call (U := []) [(500, 500), (501, 501), (502, 502)] [] (way_sl0 most z C L o r) Tryd.func17 (by kernel_rfl) rfl rfl rfl (⟨⟨_, rfl, rfl, rfl⟩, ⟨_, rfl, rfl, rfl⟩, trivial⟩) (⟨⟨_, _, rfl, rfl, row0_ren _ _ _ _ _ _ _, rfl, (fun h => by cases h), row0_nmC _ _ _ _ _ _ _ rfl rfl⟩, trivial⟩) (trivial) (⟨(fun h => by cases h), trivial⟩) rfl) trivial rfl ?_
 refine .q (op_move rfl) trivial rfl ?_
 refine .q (op_extract rfl rfl) trivial rfl ?_
 refine .q (op_extract rfl rfl) trivial rfl ?_
 refine .q (op_assign rfl) trivial rfl ?_
 refine .q (op_assign rfl) trivial rfl ?_
 refine .nil ?_
 show Ev _ _ _ _ _
 refine .seq ?_
 refine .seq ?_
 refine .region ?_
 refine .q (op_move rfl) trivial rfl ?_
 refine .q (op_eqNilNil Tryd.underlying31 rfl rfl) trivial rfl ?_
 refine .nil ?_
 show Ev _ _ _ _ _
 refine .cond_false rfl (rfl) ?_
 refine .skip ?_
 show Ev _ _ _ _ _
 refine .seq ?_
 refine .region ?_
 refine .q (op_move rfl) trivial rfl ?_
 refine .q (op_move rfl) trivial rfl ?_
 refine .q (op_maxI rfl rfl) trivial rfl ?_
 refine .a (op_call (U := [(500, some ⟨row0 most (.slk 501 0 (L) (C) true) (((o + k : Nat) : Int)) (0) 502 z, 51, true⟩)]) [(500, 500), (501, 501), (502, 502)] [] (nx_az0 most z l C L o r ho hL hlC hC hC0 hLb k (max n 0) hk hn hp) Tryd.func21 (by kernel_rfl) rfl rfl rfl (⟨⟨_, rfl, rfl, rfl⟩, ⟨_, rfl, rfl, rfl⟩, trivial⟩) (⟨⟨_, _, rfl, rfl, row0_ren _ _ _ _ _ _ _, rfl, id, row0_nmC _ _ _ _ _ _ _ rfl rfl⟩, trivial⟩) (⟨⟨500, _, rfl, row0_uo rfl rfl, rfl, row0_nmF _ _ _ _ _ _ _ _ rfl rfl, .inr ⟨rfl, _, rfl, rfl⟩⟩, trivial⟩) (⟨(fun _ => ⟨500, _, rfl, rfl⟩), trivial⟩) rfl) trivial rfl ?_
 refine .q (op_bytes_strR (l := (l.drop o).take k) Tryd.underlying38 Tryd.underlying5 Tryd.underlying9 rfl rfl (by simp; omega) (bufC_part (by omega))) trivial rfl ?_
 refine .q (op_assign rfl) trivial rfl ?_
 refine .q (op_assign rfl) trivial rfl ?_
 refine .nil ?_
 show Ev _ _ _ _ _
 refine .ret ?_
 show RetOk _ _ _ _ _ _ _
 exact ret2v rfl (.inl rfl) rfl rfl rfl rfl ⟨rfl, trivial⟩
set_option maxRecDepth 100000 in
theorem lose_az0 (most : Int) (z : Option BX) (l : List UInt8) (C L o : Nat) (r : Int) (ho : o ≤ L) (hL : L ≤ l.length) (hlC : l.length ≤ C) (hC : C ≤ 9223372036854775807) (hC0 : 0 < C) (hLb : L ≤ 1000000) (k : Nat) (n : Int) (hk : k = L - o) (hn : ((L : Int) - (o : Int)) < max n 0) (hp : k = 0) : Meets Tryd.prog 13 [.ptr 500 0, .i64 0, .i64 n] [(500, some ⟨row0 most (.slk 501 0 (L) (C) true) ((o : Int)) (r) 502 z, 51, true⟩), (501, some ⟨bufC l C, 5, false⟩)] (.tup [.i64 (k : Int), .val .nilIface]) [(500, some ⟨row0 most (.slk 501 0 (L) (C) true) (((o + k : Nat) : Int)) (0) 502 z, 51, true⟩)] := by
 refine meets_of_ev (nt := 20) Tryd.func13 rfl rfl (Nat.le_of_ble_eq_true rfl) ?_
 refine .seq ?_
 refine .region ?_
 refine .q (op_assign rfl) trivial rfl ?_
 refine .q (op_assign rfl) trivial rfl ?_
 refine .nil ?_
 show Ev _ _ _ _ _
 refine .seq ?_
 refine .region ?_
 refine .q (op_move rfl) trivial rfl ?_
 refine .q (op_move rfl) trivial rfl ?_
 refine .q (op_move rfl) trivial rfl ?_
 refine .a (op_call (U := [(500, some ⟨row0 most (.slk 501 0 (L) (C) true) (((o + k : Nat) : Int)) (0) 502 z, 51, true⟩)]) [(500, 500), (501, 501), (502, 502)] [] (take_az0 most z l C L o r ho hL hlC hC hC0 hLb k n hk hn hp) Tryd.func11 (by kernel_rfl) rfl rfl rfl (⟨⟨_, rfl, rfl, rfl⟩, ⟨_, rfl, rfl, rfl⟩, ⟨_, rfl, rfl, rfl⟩, trivial⟩) (⟨⟨_, _, rfl, rfl, row0_ren _ _ _ _ _ _ _, rfl, id, row0_nmC _ _ _ _ _ _ _ rfl rfl⟩, ⟨_, _, rfl, rfl, bufC_ren _ _ _, rfl, (fun h => by cases h), bufC_nmC _ _ _⟩, trivial⟩) (⟨⟨500, _, rfl, row0_uo rfl rfl, rfl, row0_nmF _ _ _ _ _ _ _ _ rfl rfl, .inr ⟨rfl, _, rfl, rfl⟩⟩, trivial⟩) (⟨(fun _ => ⟨500, _, rfl, rfl⟩), (fun h => by cases h), trivial⟩) rfl) trivial rfl ?_
 refine .q (op_move rfl) trivial rfl ?_
 refine .q (op_extract rfl rfl) trivial rfl ?_
 refine .q (op_extract rfl rfl) trivial rfl ?_
 refine .q (op_assign rfl) trivial rfl ?_
 refine .q (op_assign rfl) trivial rfl ?_
 refine .nil ?_
 show Ev _ _ _ _ _
 refine .seq ?_
 refine .region ?_
 refine .q (op_move rfl) trivial rfl ?_
 refine .q (op_len_str Tryd.underlying9 rfl) trivial rfl ?_
 refine .as (.i64 (k : Int)) (congrArg AV.i64 (by simp; omega)) ?_
 refine .q (op_move rfl) trivial rfl ?_
 refine .q (op_assign rfl) trivial rfl ?_
 refine .q (op_assign rfl) trivial rfl ?_
 refine .nil ?_
 show Ev _ _ _ _ _
 refine .ret ?_
 show RetOk _ _ _ _ _ _ _
 exact ret2v rfl (.inl rfl) rfl rfl rfl rfl ⟨rfl, trivial⟩
set_option maxRecDepth 100000 in
theorem take_cp0 (most : Int) (z : Option BX) (l : List UInt8) (C L o : Nat) (r : Int) (ho : o ≤ L) (hL : L ≤ l.length) (hlC : l.length ≤ C) (hC : C ≤ 9223372036854775807) (hC0 : 0 < C) (hLb : L ≤ 1000000) (k : Nat) (n : Int) (hn : max n 0 = (k : Int)) (hk : k ≤ L - o) (hp : 0 < k) : Meets Tryd.prog 11 [.ptr 500 0, .i64 0, .i64 n] [(500, some ⟨row0 most (.slk 501 0 (L) (C) true) ((o : Int)) (r) 502 z, 51, true⟩), (501, some ⟨bufC l C, 5, false⟩)] (.tup [.str ((l.drop o).take k), .val .nilIface]) [(500, some ⟨row0 most (.slk 501 0 (L) (C) true) (((o + k : Nat) : Int)) (-1) 502 z, 51, true⟩)] := by
 refine meets_of_ev (nt := 24) Tryd.func11 rfl rfl (Nat.le_of_ble_eq_true rfl) ?_
 refine .seq ?_
 refine .region ?_
 refine .q (op_assign rfl) trivial rfl ?_
 refine .q (op_assign rfl) trivial rfl ?_
 refine .nil ?_
 show Ev _ _ _ _ _
 refine .seq ?_
 refine .region ?_
 refine .q (op_move rfl) trivial rfl ?_
 refine .q (op_move rfl) trivial rfl ?_
 refine .q (op_call (U := []) [(500, 500), (501, 501), (502, 502)] [] (way_sl0 most z C L o r) Tryd.func17 (by kernel_rfl) rfl rfl rfl (⟨⟨_, rfl, rfl, rfl⟩, ⟨_, rfl, rfl, rfl⟩, trivial⟩) (⟨⟨_, _, rfl, rfl, row0_ren _ _ _ _ _ _ _, rfl, (fun h => by cases h), row0_nmC _ _ _ _ _ _ _ rfl rfl⟩, trivial⟩) (trivial) (⟨(fun h => by cases h), trivial⟩) rfl) trivial rfl ?_
 refine .q (op_move rfl) trivial rfl ?_
 refine .q (op_extract rfl rfl) trivial rfl ?_
 refine .q (op_extract rfl rfl) trivial rfl ?_
 refine .q (op_assign rfl) trivial rfl ?_
 refine .q (op_assign rfl) trivial rfl ?_
 refine .nil ?_
 show Ev _ _ _ _ _
 refine .seq ?_
 refine .seq ?_
 refine .region ?_
 refine .q (op_move rfl) trivial rfl ?_
 refine .q (op_eqNilNil Tryd.underlying31 rfl rfl) trivial rfl ?_
 refine .nil ?_
 show Ev _ _ _ _ _
 refine .cond_false rfl (rfl) ?_
 refine .skip ?_
 show Ev _ _ _ _ _
 refine .seq ?_
 refine .region ?_
 refine .q (op_move rfl) trivial rfl ?_
 refine .q (op_move rfl) trivial rfl ?_
 refine .q (op_maxI rfl rfl) trivial rfl ?_
 refine .as (.i64 (k : Int)) (congrArg AV.i64 hn) ?_
 refine .a (op_call (U := [(500, some ⟨row0 most (.slk 501 0 (L) (C) true) (((o + k : Nat) : Int)) (-1) 502 z, 51, true⟩)]) [(500, 500), (501, 501), (502, 502)] [] (nx_cp0 most z l C L o r ho hL hlC hC hC0 hLb k hk hp) Tryd.func21 (by kernel_rfl) rfl rfl rfl (⟨⟨_, rfl, rfl, rfl⟩, ⟨_, rfl, rfl, rfl⟩, trivial⟩) (⟨⟨_, _, rfl, rfl, row0_ren _ _ _ _ _ _ _, rfl, id, row0_nmC _ _ _ _ _ _ _ rfl rfl⟩, trivial⟩) (⟨⟨500, _, rfl, row0_uo rfl rfl, rfl, row0_nmF _ _ _ _ _ _ _ _ rfl rfl, .inr ⟨rfl, _, rfl, rfl⟩⟩, trivial⟩) (⟨(fun _ => ⟨500, _, rfl, rfl⟩), trivial⟩) rfl) trivial rfl ?_
 refine .q (op_bytes_strR (l := (l.drop o).take k) Tryd.underlying38 Tryd.underlying5 Tryd.underlying9 rfl rfl (by simp; omega) (bufC_part (by omega))) trivial rfl ?_
 refine .q (op_assign rfl) trivial rfl ?_
 refine .q (op_assign rfl) trivial rfl ?_
 refine .nil ?_
 show Ev _ _ _ _ _
 refine .ret ?_
 show RetOk _ _ _ _ _ _ _
 exact ret2v rfl (.inl rfl) rfl rfl rfl rfl ⟨rfl, trivial⟩
set_option maxRecDepth 100000 in
theorem lose_cp0 (most : Int) (z : Option BX) (l : List UInt8) (C L o : Nat) (r : Int) (ho : o ≤ L) (hL : L ≤ l.length) (hlC : l.length ≤ C) (hC : C ≤ 9223372036854775807) (hC0 : 0 < C) (hLb : L ≤ 1000000) (k : Nat) (n : Int) (hn : max n 0 = (k : Int)) (hk : k ≤ L - o) (hp : 0 < k) : Meets Tryd.prog 13 [.ptr 500 0, .i64 0, .i64 n] [(500, some ⟨row0 most (.slk 501 0 (L) (C) true) ((o : Int)) (r) 502 z, 51, true⟩), (501, some ⟨bufC l C, 5, false⟩)] (.tup [.i64 (k : Int), .val .nilIface]) [(500, some ⟨row0 most (.slk 501 0 (L) (C) true) (((o + k : Nat) : Int)) (-1) 502 z, 51, true⟩)] := by
 refine meets_of_ev (nt := 20) Tryd.func13 rfl rfl (Nat.le_of_ble_eq_true rfl) ?_
 refine .seq ?_
 refine .region ?_
 refine .q (op_assign rfl) trivial rfl ?_
 refine .q (op_assign rfl) trivial rfl ?_
 refine .nil ?_
 show Ev _ _ _ _ _
 refine .seq ?_
 refine .region ?_
 refine .q (op_move rfl) trivial rfl ?_
 refine .q (op_move rfl) trivial rfl ?_
 refine .q (op_move rfl) trivial rfl ?_
 refine .a (op_call (U := [(500, some ⟨row0 most (.slk 501 0 (L) (C) true) (((o + k : Nat) : Int)) (-1) 502 z, 51, true⟩)]) [(500, 500), (501, 501), (502, 502)] [] (take_cp0 most z l C L o r ho hL hlC hC hC0 hLb k n hn hk hp) Tryd.func11 (by kernel_rfl) rfl rfl rfl (⟨⟨_, rfl, rfl, rfl⟩, ⟨_, rfl, rfl, rfl⟩, ⟨_, rfl, rfl, rfl⟩, trivial⟩) (⟨⟨_, _, rfl, rfl, row0_ren _ _ _ _ _ _ _, rfl, id, row0_nmC _ _ _ _ _ _ _ rfl rfl⟩, ⟨_, _, rfl, rfl, bufC_ren _ _ _, rfl, (fun h => by cases h), bufC_nmC _ _ _⟩, trivial⟩) (⟨⟨500, _, rfl, row0_uo rfl rfl, rfl, row0_nmF _ _ _ _ _ _ _ _ rfl rfl, .inr ⟨rfl, _, rfl, rfl⟩⟩, trivial⟩) (⟨(fun _ => ⟨500, _, rfl, rfl⟩), (fun h => by cases h), trivial⟩) rfl) trivial rfl ?_
 refine .q (op_move rfl) trivial rfl ?_
 refine .q (op_extract rfl rfl) trivial rfl ?_
 refine .q (op_extract rfl rfl) trivial rfl ?_
 refine .q (op_assign rfl) trivial rfl ?_
 refine .q (op_assign rfl) trivial rfl ?_
 refine .nil ?_
 show Ev _ _ _ _ _
 refine .seq ?_
 refine .region ?_
 refine .q (op_move rfl) trivial rfl ?_
 refine .q (op_len_str Tryd.underlying9 rfl) trivial rfl ?_
 refine .as (.i64 (k : Int)) (congrArg AV.i64 (by simp; omega)) ?_
 refine .q (op_move rfl) trivial rfl ?_
 refine .q (op_assign rfl) trivial rfl ?_
 refine .q (op_assign rfl) trivial rfl ?_
 refine .nil ?_
 show Ev _ _ _ _ _
 refine .ret ?_
 show RetOk _ _ _ _ _ _ _
 exact ret2v rfl (.inl rfl) rfl rfl rfl rfl ⟨rfl, trivial⟩
set_option maxRecDepth 100000 in
theorem take_cz0 (most : Int) (z : Option BX) (l : List UInt8) (C L o : Nat) (r : Int) (ho : o ≤ L) (hL : L ≤ l.length) (hlC : l.length ≤ C) (hC : C ≤ 9223372036854775807) (hC0 : 0 < C) (hLb : L ≤ 1000000) (k : Nat) (n : Int) (hn : max n 0 = (k : Int)) (hk : k ≤ L - o) (hp : k = 0) : Meets Tryd.prog 11 [.ptr 500 0, .i64 0, .i64 n] [(500, some ⟨row0 most (.slk 501 0 (L) (C) true) ((o : Int)) (r) 502 z, 51, true⟩), (501, some ⟨bufC l C, 5, false⟩)] (.tup [.str ((l.drop o).take k), .val .nilIface]) [(500, some ⟨row0 most (.slk 501 0 (L) (C) true) (((o + k : Nat) : Int)) (0) 502 z, 51, true⟩)] := by
 refine meets_of_ev (nt := 24) Tryd.func11 rfl rfl (Nat.le_of_ble_eq_true rfl) ?_
 refine .seq ?_
 refine .region ?_
 refine .q (op_assign rfl) trivial rfl ?_
 refine .q (op_assign rfl) trivial rfl ?_
 refine .nil ?_
 show Ev _ _ _ _ _
 refine .seq ?_
 refine .region ?_
 refine .q (op_move rfl) trivial rfl ?_
 refine .q (op_move rfl) trivial rfl ?_
 refine .q (op_call (U := []) [(500, 500), (501, 501), (502, 502)] [] (way_sl0 most z C L o r) Tryd.func17 (by kernel_rfl) rfl rfl rfl (⟨⟨_, rfl, rfl, rfl⟩, ⟨_, rfl, rfl, rfl⟩, trivial⟩) (⟨⟨_, _, rfl, rfl, row0_ren _ _ _ _ _ _ _, rfl, (fun h => by cases h), row0_nmC _ _ _ _ _ _ _ rfl rfl⟩, trivial⟩) (trivial) (⟨(fun h => by cases h), trivial⟩) rfl) trivial rfl ?_
 refine .q (op_move rfl) trivial rfl ?_
 refine .q (op_extract rfl rfl) trivial rfl ?_
 refine .q (op_extract rfl rfl) trivial rfl ?_
 refine .q (op_assign rfl) trivial rfl ?_
 refine .q (op_assign rfl) trivial rfl ?_
 refine .nil ?_
 show Ev _ _ _ _ _
 refine .seq ?_
 refine .seq ?_
 refine .region ?_
 refine .q (op_move rfl) trivial rfl ?_
 refine .q (op_eqNilNil Tryd.underlying31 rfl rfl) trivial rfl ?_
 refine .nil ?_
 show Ev _ _ _ _ _
 refine .cond_false rfl (rfl) ?_
 refine .skip ?_
 show Ev _ _ _ _ _
 refine .seq ?_
 refine .region ?_
 refine .q (op_move rfl) trivial rfl ?_
 refine .q (op_move rfl) trivial rfl ?_
 refine .q (op_maxI rfl rfl) trivial rfl ?_
 refine .as (.i64 (k : Int)) (congrArg AV.i64 hn) ?_
 refine .a (op_call (U := [(500, some ⟨row0 most (.slk 501 0 (L) (C) true) (((o + k : Nat) : Int)) (0) 502 z, 51, true⟩)]) [(500, 500), (501, 501), (502, 502)] [] (nx_cz0 most z l C L o r ho hL hlC hC hC0 hLb k hk hp) Tryd.func21 (by kernel_rfl) rfl rfl rfl (⟨⟨_, rfl, rfl, rfl⟩, ⟨_, rfl, rfl, rfl⟩, trivial⟩) (⟨⟨_, _, rfl, rfl, row0_ren _ _ _ _ _ _ _, rfl, id, row0_nmC _ _ _ _ _ _ _ rfl rfl⟩, trivial⟩) (⟨⟨500, _, rfl, row0_uo rfl rfl, rfl, row0_nmF _ _ _ _ _ _ _ _ rfl rfl, .inr ⟨rfl, _, rfl, rfl⟩⟩, trivial⟩) (⟨(fun _ => ⟨500, _, rfl, rfl⟩), trivial⟩) rfl) trivial rfl ?_
 refine .q (op_bytes_strR (l := (l.drop o).take k) Tryd.underlying38 Tryd.underlying5 Tryd.underlying9 rfl rfl (by simp; omega) (bufC_part (by omega))) trivial rfl ?_
 refine .q (op_assign rfl) trivial rfl ?_
 refine .q (op_assign rfl) trivial rfl ?_
 refine .nil ?_
 show Ev _ _ _ _ _
 refine .ret ?_
 show RetOk _ _ _ _ _ _ _
 exact ret2v rfl (.inl rfl) rfl rfl rfl rfl ⟨rfl, trivial⟩
set_option maxRecDepth 100000 in
theorem lose_cz0 (most : Int) (z : Option BX) (l : List UInt8) (C L o : Nat) (r : Int) (ho : o ≤ L) (hL : L ≤ l.length) (hlC : l.length ≤ C) (hC : C ≤ 9223372036854775807) (hC0 : 0 < C) (hLb : L ≤ 1000000) (k : Nat) (n : Int) (hn : max n 0 = (k : Int)) (hk : k ≤ L - o) (hp : k = 0) : Meets Tryd.prog 13 [.ptr 500 0, .i64 0, .i64 n] [(500, some ⟨row0 most (.slk 501 0 (L) (C) true) ((o : Int)) (r) 502 z, 51, true⟩), (501, some ⟨bufC l C, 5, false⟩)] (.tup [.i64 (k : Int), .val .nilIface]) [(500, some ⟨row0 most (.slk 501 0 (L) (C) true) (((o + k : Nat) : Int)) (0) 502 z, 51, true⟩)] := by
 refine meets_of_ev (nt := 20) Tryd.func13 rfl rfl (Nat.le_of_ble_eq_true rfl) ?_
 refine .seq ?_
 refine .region ?_
 refine .q (op_assign rfl) trivial rfl ?_
 refine .q (op_assign rfl) trivial rfl ?_
 refine .nil ?_
 show Ev _ _ _ _ _
 refine .seq ?_
 refine .region ?_
 refine .q (op_move rfl) trivial rfl ?_
 refine .q (op_move rfl) trivial rfl ?_
 refine .q (op_move rfl) trivial rfl ?_
 refine .a (op_call (U := [(500, some ⟨row0 most (.slk 501 0 (L) (C) true) (((o + k : Nat) : Int)) (0) 502 z, 51, true⟩)]) [(500, 500), (501, 501), (502, 502)] [] (take_cz0 most z l C L o r ho hL hlC hC hC0 hLb k n hn hk hp) Tryd.func11 (by kernel_rfl) rfl rfl rfl (⟨⟨_, rfl, rfl, rfl⟩, ⟨_, rfl, rfl, rfl⟩, ⟨_, rfl, rfl, rfl⟩, trivial⟩) (⟨⟨_, _, rfl, rfl, row0_ren _ _ _ _ _ _ _, rfl, id, row0_nmC _ _ _ _ _ _ _ rfl rfl⟩, ⟨_, _, rfl, rfl, bufC_ren _ _ _, rfl, (fun h => by cases h), bufC_nmC _ _ _⟩, trivial⟩) (⟨⟨500, _, rfl, row0_uo rfl rfl, rfl, row0_nmF _ _ _ _ _ _ _ _ rfl rfl, .inr ⟨rfl, _, rfl, rfl⟩⟩, trivial⟩) (⟨(fun _ => ⟨500, _, rfl, rfl⟩), (fun h => by cases h), trivial⟩) rfl) trivial rfl ?_
 refine .q (op_move rfl) trivial rfl ?_
 refine .q (op_extract rfl rfl) trivial rfl ?_
 refine .q (op_extract rfl rfl) trivial rfl ?_
 refine .q (op_assign rfl) trivial rfl ?_
 refine .q (op_assign rfl) trivial rfl ?_
 refine .nil ?_
 show Ev _ _ _ _ _
 refine .seq ?_
 refine .region ?_
 refine .q (op_move rfl) trivial rfl ?_
 refine .q (op_len_str Tryd.underlying9 rfl) trivial rfl ?_
 refine .as (.i64 (k : Int)) (congrArg AV.i64 (by simp; omega)) ?_
 refine .q (op_move rfl) trivial rfl ?_
 refine .q (op_assign rfl) trivial rfl ?_
 refine .q (op_assign rfl) trivial rfl ?_
 refine .nil ?_
 show Ev _ _ _ _ _
 refine .ret ?_
 show RetOk _ _ _ _ _ _ _
 exact ret2v rfl (.inl rfl) rfl rfl rfl rfl ⟨rfl, trivial⟩
set_option maxRecDepth 100000 in
theorem taken_p0 (most : Int) (z : Option BX) (n : Int) (hn : 0 < max n 0) : Meets Tryd.prog 11 [.ptr 500 0, .i64 0, .i64 n] [(500, some ⟨row0 most (.nilsl) (0) (0) 502 z, 51, true⟩)] (.tup [.str [], .val .nilIface]) [(500, some ⟨row0 most (.nilsl) (0) (0) 502 z, 51, true⟩)] := by
 refine meets_of_ev (nt := 24) Tryd.func11 rfl rfl (Nat.le_of_ble_eq_true rfl) ?_
 refine .seq ?_
 refine .region ?_
 refine .q (op_assign rfl) trivial rfl ?_
 refine .q (op_assign rfl) trivial rfl ?_
 refine .nil ?_
 show Ev _ _ _ _ _
 refine .seq ?_
 refine .region ?_
 refine .q (op_move rfl) trivial rfl ?_
 refine .q (op_move rfl) trivial rfl ?_
 refine .q (op_call (U := []) [(500, 500), (502, 502)] [] (way_nil0 most z) Tryd.func17 (by kernel_rfl) rfl rfl rfl (⟨⟨_, rfl, rfl, rfl⟩, ⟨_, rfl, rfl, rfl⟩, trivial⟩) (⟨⟨_, _, rfl, rfl, row0_ren _ _ _ _ _ _ _, rfl, (fun h => by cases h), row0_nmC _ _ _ _ _ _ _ rfl rfl⟩, trivial⟩) (trivial) (⟨(fun h => by cases h), trivial⟩) rfl) trivial rfl ?_
 refine .q (op_move rfl) trivial rfl ?_
 refine .q (op_extract rfl rfl) trivial rfl ?_
 refine .q (op_extract rfl rfl) trivial rfl ?_
 refine .q (op_assign rfl) trivial rfl ?_
 refine .q (op_assign rfl) trivial rfl ?_
 refine .nil ?_
 show Ev _ _ _ _ _
 refine .seq ?_
 refine .seq ?_
 refine .region ?_
 refine .q (op_move rfl) trivial rfl ?_
 refine .q (op_eqNilNil Tryd.underlying31 rfl rfl) trivial rfl ?_
 refine .nil ?_
 show Ev _ _ _ _ _
 refine .cond_false rfl (rfl) ?_
 refine .skip ?_
 show Ev _ _ _ _ _
 refine .seq ?_
 refine .region ?_
 refine .q (op_move rfl) trivial rfl ?_
 refine .q (op_move rfl) trivial rfl ?_
 refine .q (op_maxI rfl rfl) trivial rfl ?_
 refine .a (op_call (U := [(500, some ⟨row0 most (.nilsl) (0) (0) 502 z, 51, true⟩)]) [(500, 500), (502, 502)] [] (nxn_p0 most z 0 (max n 0) hn) Tryd.func21 (by kernel_rfl) rfl rfl rfl (⟨⟨_, rfl, rfl, rfl⟩, ⟨_, rfl, rfl, rfl⟩, trivial⟩) (⟨⟨_, _, rfl, rfl, row0_ren _ _ _ _ _ _ _, rfl, id, row0_nmC _ _ _ _ _ _ _ rfl rfl⟩, trivial⟩) (⟨⟨500, _, rfl, row0_uo rfl rfl, rfl, row0_nmF _ _ _ _ _ _ _ _ rfl rfl, .inr ⟨rfl, _, rfl, rfl⟩⟩, trivial⟩) (⟨(fun _ => ⟨500, _, rfl, rfl⟩), trivial⟩) rfl) trivial rfl ?_
 refine .q (op_nil_str Tryd.underlying38 Tryd.underlying5 Tryd.underlying9 rfl) trivial rfl ?_
 refine .q (op_assign rfl) trivial rfl ?_
 refine .q (op_assign rfl) trivial rfl ?_
 refine .nil ?_
 show Ev _ _ _ _ _
 refine .ret ?_
 show RetOk _ _ _ _ _ _ _
 exact ret2v rfl (.inl rfl) rfl rfl rfl rfl ⟨rfl, trivial⟩
set_option maxRecDepth 100000 in
theorem losen_p0 (most : Int) (z : Option BX) (n : Int) (hn : 0 < max n 0) : Meets Tryd.prog 13 [.ptr 500 0, .i64 0, .i64 n] [(500, some ⟨row0 most (.nilsl) (0) (0) 502 z, 51, true⟩)] (.tup [.i64 0, .val .nilIface]) [(500, some ⟨row0 most (.nilsl) (0) (0) 502 z, 51, true⟩)] := by
 refine meets_of_ev (nt := 20) Tryd.func13 rfl rfl (Nat.le_of_ble_eq_true rfl) ?_
 refine .seq ?_
 refine .region ?_
 refine .q (op_assign rfl) trivial rfl ?_
 refine .q (op_assign rfl) trivial rfl ?_
 refine .nil ?_
 show Ev _ _ _ _ _
 refine .seq ?_
 refine .region ?_
 refine .q (op_move rfl) trivial rfl ?_
 refine .q (op_move rfl) trivial rfl ?_
 refine .q (op_move rfl) trivial rfl ?_
 refine .a (op_call (U := [(500, some ⟨row0 most (.nilsl) (0) (0) 502 z, 51, true⟩)]) [(500, 500), (502, 502)] [] (taken_p0 most z n hn) Tryd.func11 (by kernel_rfl) rfl rfl rfl (⟨⟨_, rfl, rfl, rfl⟩, ⟨_, rfl, rfl, rfl⟩, ⟨_, rfl, rfl, rfl⟩, trivial⟩) (⟨⟨_, _, rfl, rfl, row0_ren _ _ _ _ _ _ _, rfl, id, row0_nmC _ _ _ _ _ _ _ rfl rfl⟩, trivial⟩) (⟨⟨500, _, rfl, row0_uo rfl rfl, rfl, row0_nmF _ _ _ _ _ _ _ _ rfl rfl, .inr ⟨rfl, _, rfl, rfl⟩⟩, trivial⟩) (⟨(fun _ => ⟨500, _, rfl, rfl⟩), trivial⟩) rfl) trivial rfl ?_
 refine .q (op_move rfl) trivial rfl ?_
 refine .q (op_extract rfl rfl) trivial rfl ?_
 refine .q (op_extract rfl rfl) trivial rfl ?_
 refine .q (op_assign rfl) trivial rfl ?_
 refine .q (op_assign rfl) trivial rfl ?_
 refine .nil ?_
 show Ev _ _ _ _ _
 refine .seq ?_
 refine .region ?_
 refine .q (op_move rfl) trivial rfl ?_
 refine .q (op_len_str Tryd.underlying9 rfl) trivial rfl ?_
 refine .q (op_move rfl) trivial rfl ?_
 refine .q (op_assign rfl) trivial rfl ?_
 refine .q (op_assign rfl) trivial rfl ?_
 refine .nil ?_
 show Ev _ _ _ _ _
 refine .ret ?_
 show RetOk _ _ _ _ _ _ _
 exact ret2v rfl (.inl rfl) rfl rfl rfl rfl ⟨rfl, trivial⟩
set_option maxRecDepth 100000 in
theorem taken_z0 (most : Int) (z : Option BX) (n : Int) (hn : max n 0 = 0) : Meets Tryd.prog 11 [.ptr 500 0, .i64 0, .i64 n] [(500, some ⟨row0 most (.nilsl) (0) (0) 502 z, 51, true⟩)] (.tup [.str [], .val .nilIface]) [(500, some ⟨row0 most (.nilsl) (0) (0) 502 z, 51, true⟩)] := by
 refine meets_of_ev (nt := 24) Tryd.func11 rfl rfl (Nat.le_of_ble_eq_true rfl) ?_
 refine .seq ?_
 refine .region ?_
 refine .q (op_assign rfl) trivial rfl ?_
 refine .q (op_assign rfl) trivial rfl ?_
 refine .nil ?_
 show Ev _ _ _ _ _
 refine .seq ?_
 refine .region ?_
 refine .q (op_move rfl) trivial rfl ?_
 refine .q (op_move rfl) trivial rfl ?_
 refine .q (op_call (U := []) [(500, 500), (502, 502)] [] (way_nil0 most z) Tryd.func17 (by kernel_rfl) rfl rfl rfl (⟨⟨_, rfl, rfl, rfl⟩, ⟨_, rfl, rfl, rfl⟩, trivial⟩) (⟨⟨_, _, rfl, rfl, row0_ren _ _ _ _ _ _ _, rfl, (fun h => by cases h), row0_nmC _ _ _ _ _ _ _ rfl rfl⟩, trivial⟩) (trivial) (⟨(fun h => by cases h), trivial⟩) rfl) trivial rfl ?_
 refine .q (op_move rfl) trivial rfl ?_
 refine .q (op_extract rfl rfl) trivial rfl ?_
 refine .q (op_extract rfl rfl) trivial rfl ?_
 refine .q (op_assign rfl) trivial rfl ?_
 refine .q (op_assign rfl) trivial rfl ?_
 refine .nil ?_
 show Ev _ _ _ _ _
 refine .seq ?_
 refine .seq ?_
 refine .region ?_
 refine .q (op_move rfl) trivial rfl ?_
 refine .q (op_eqNilNil Tryd.underlying31 rfl rfl) trivial rfl ?_
 refine .nil ?_
 show Ev _ _ _ _ _
 refine .cond_false rfl (rfl) ?_
 refine .skip ?_
 show Ev _ _ _ _ _
 refine .seq ?_
 refine .region ?_
 refine .q (op_move rfl) trivial rfl ?_
 refine .q (op_move rfl) trivial rfl ?_
 refine .q (op_maxI rfl rfl) trivial rfl ?_
 refine .as (.i64 0) (congrArg AV.i64 hn) ?_
 refine .a (op_call (U := [(500, some ⟨row0 most (.nilsl) (0) (0) 502 z, 51, true⟩)]) [(500, 500), (502, 502)] [] (nxn_z0 most z 0) Tryd.func21 (by kernel_rfl) rfl rfl rfl (⟨⟨_, rfl, rfl, rfl⟩, ⟨_, rfl, rfl, rfl⟩, trivial⟩) (⟨⟨_, _, rfl, rfl, row0_ren _ _ _ _ _ _ _, rfl, id, row0_nmC _ _ _ _ _ _ _ rfl rfl⟩, trivial⟩) (⟨⟨500, _, rfl, row0_uo rfl rfl, rfl, row0_nmF _ _ _ _ _ _ _ _ rfl rfl, .inr ⟨rfl, _, rfl, rfl⟩⟩, trivial⟩) (⟨(fun _ => ⟨500, _, rfl, rfl⟩), trivial⟩) rfl) trivial rfl ?_
 refine .q (op_nil_str Tryd.underlying38 Tryd.underlying5 Tryd.underlying9 rfl) trivial rfl ?_
 refine .q (op_assign rfl) trivial rfl ?_
 refine .q (op_assign rfl) trivial rfl ?_
 refine .nil ?_
 show Ev _ _ _ _ _
 refine .ret ?_
 show RetOk _ _ _ _ _ _ _
 exact ret2v rfl (.inl rfl) rfl rfl rfl rfl ⟨rfl, trivial⟩
set_option maxRecDepth 100000 in
theorem losen_z0 (most : Int) (z : Option BX) (n : Int) (hn : max n 0 = 0) : Meets Tryd.prog 13 [.ptr 500 0, .i64 0, .i64 n] [(500, some ⟨row0 most (.nilsl) (0) (0) 502 z, 51, true⟩)] (.tup [.i64 0, .val .nilIface]) [(500, some ⟨row0 most (.nilsl) (0) (0) 502 z, 51, true⟩)] := by
 refine meets_of_ev (nt := 20) Tryd.func13 rfl rfl (Nat.le_of_ble_eq_true rfl) ?_
 refine .seq ?_
 refine .region ?_
 refine .q (op_assign rfl) trivial rfl ?_
 refine .q (op_assign rfl) trivial rfl ?_
 refine .nil ?_
 show Ev _ _ _ _ _
 refine .seq ?_
 refine .region ?_
 refine .q (op_move rfl) trivial rfl ?_
 refine .q (op_move rfl) trivial rfl ?_
 refine .q (op_move rfl) trivial rfl ?_
 refine .a (op_call (U := [(500, some ⟨row0 most (.nilsl) (0) (0) 502 z, 51, true⟩)]) [(500, 500), (502, 502)] [] (taken_z0 most z n hn) Tryd.func11 (by kernel_rfl) rfl rfl rfl (⟨⟨_, rfl, rfl, rfl⟩, ⟨_, rfl, rfl, rfl⟩, ⟨_, rfl, rfl, rfl⟩, trivial⟩) (⟨⟨_, _, rfl, rfl, row0_ren _ _ _ _ _ _ _, rfl, id, row0_nmC _ _ _ _ _ _ _ rfl rfl⟩, trivial⟩) (⟨⟨500, _, rfl, row0_uo rfl rfl, rfl, row0_nmF _ _ _ _ _ _ _ _ rfl rfl, .inr ⟨rfl, _, rfl, rfl⟩⟩, trivial⟩) (⟨(fun _ => ⟨500, _, rfl, rfl⟩), trivial⟩) rfl) trivial rfl ?_
 refine .q (op_move rfl) trivial rfl ?_
 refine .q (op_extract rfl rfl) trivial rfl ?_
 refine .q (op_extract rfl rfl) trivial rfl ?_
 refine .q (op_assign rfl) trivial rfl ?_
 refine .q (op_assign rfl) trivial rfl ?_
 refine .nil ?_
 show Ev _ _ _ _ _
 refine .seq ?_
 refine .region ?_
 refine .q (op_move rfl) trivial rfl ?_
 refine .q (op_len_str Tryd.underlying9 rfl) trivial rfl ?_
 refine .q (op_move rfl) trivial rfl ?_
 refine .q (op_assign rfl) trivial rfl ?_
 refine .q (op_assign rfl) trivial rfl ?_
 refine .nil ?_
 show Ev _ _ _ _ _
 refine .ret ?_
 show RetOk _ _ _ _ _ _ _
 exact ret2v rfl (.inl rfl) rfl rfl rfl rfl ⟨rfl, trivial⟩
set_option maxRecDepth 100000 in
theorem bend_neg_nil0 (most : Int) (z : Option BX) (n : Int) (y : UInt8) (h : n < 0) (eo : Nat → Nat × Nat) : Meets Tryd.prog 12 [.ptr 500 0, .i64 0, .i64 n, .u8 y] [(500, some ⟨row0 most (.nilsl) (0) (0) 502 z, 51, false⟩), (7, some ⟨.agg [.err 79 (8) (offE eo (8))], errT, false⟩)] (.err 79 (8) (offE eo (8))) [(500, some ⟨row0 most (.nilsl) (0) (0) 502 z, 51, false⟩)] := by
 refine meets_of_ev (nt := 37) Tryd.func12 rfl rfl (Nat.le_of_ble_eq_true rfl) ?_
 refine .seq ?_
 refine .region ?_
 refine .q (op_assign rfl) trivial rfl ?_
 refine .nil ?_
 show Ev _ _ _ _ _
 refine .seq ?_
 refine .region ?_
 refine .q (op_move rfl) trivial rfl ?_
 refine .q (op_move rfl) trivial rfl ?_
 refine .q (op_call (U := []) [(500, 500), (502, 502)] [] (way_nil0 most z) Tryd.func17 (by kernel_rfl) rfl rfl rfl (⟨⟨_, rfl, rfl, rfl⟩, ⟨_, rfl, rfl, rfl⟩, trivial⟩) (⟨⟨_, _, rfl, rfl, row0_ren _ _ _ _ _ _ _, rfl, (fun h => by cases h), row0_nmC _ _ _ _ _ _ _ rfl rfl⟩, trivial⟩) (trivial) (⟨(fun h => by cases h), trivial⟩) rfl) trivial rfl ?_
 refine .q (op_move rfl) trivial rfl ?_
 refine .q (op_extract rfl rfl) trivial rfl ?_
 refine .q (op_extract rfl rfl) trivial rfl ?_
 refine .q (op_assign rfl) trivial rfl ?_
 refine .q (op_assign rfl) trivial rfl ?_
 refine .nil ?_
 show Ev _ _ _ _ _
 refine .seq ?_
 refine .seq ?_
 refine .region ?_
 refine .q (op_move rfl) trivial rfl ?_
 refine .q (op_eqNilNil Tryd.underlying31 rfl rfl) trivial rfl ?_
 refine .nil ?_
 show Ev _ _ _ _ _
 refine .cond_false rfl (rfl) ?_
 refine .skip ?_
 show Ev _ _ _ _ _
 refine .seq ?_
 refine .seq ?_
 refine .region ?_
 refine .q (op_move rfl) trivial rfl ?_
 refine .q (op_cmpI rfl rfl rfl) trivial rfl ?_
 refine .q (op_move rfl) trivial rfl ?_
 refine .know (b' := true) (decide_eq_true (by omega)) ?_
 refine .no ⟨_, rfl, rfl⟩ rfl ?_
 refine .no ⟨_, rfl, rfl⟩ rfl ?_
 refine .no ⟨_, rfl, rfl⟩ rfl ?_
 refine .no ⟨_, rfl, rfl⟩ rfl ?_
 refine .q (op_pick_true rfl rfl rfl) trivial rfl ?_
 refine .nil ?_
 show Ev _ _ _ _ _
 refine .cond_true rfl rfl ?_
 refine .seq ?_
 refine .region ?_
 refine .q (op_load Tryd.underlying31 rfl rfl rfl rfl (by first | omega | (simp only [AV.len]; omega) | (simp only [AV.len, List.length_set]; omega) | assumption | (simp [AV.len]; done))) trivial rfl ?_
 refine .q (op_assign rfl) trivial rfl ?_
 refine .nil ?_
 show Ev _ _ _ _ _
 refine .ret ?_
 show RetOk _ _ _ _ _ _ _
 exact ret1v rfl (.inl rfl) rfl (rfl) ⟨rfl, trivial⟩
set_option maxRecDepth 100000 in
theorem bend_far_nil0 (most : Int) (z : Option BX) (n : Int) (y : UInt8) (h0 : ¬ n < 0) (h : (0 : Int) ≤ n) (eo : Nat → Nat × Nat) : Meets Tryd.prog 12 [.ptr 500 0, .i64 0, .i64 n, .u8 y] [(500, some ⟨row0 most (.nilsl) (0) (0) 502 z, 51, false⟩), (7, some ⟨.agg [.err 79 (8) (offE eo (8))], errT, false⟩)] (.err 79 (8) (offE eo (8))) [(500, some ⟨row0 most (.nilsl) (0) (0) 502 z, 51, false⟩)] := by
 refine meets_of_ev (nt := 37) Tryd.func12 rfl rfl (Nat.le_of_ble_eq_true rfl) ?_
 refine .seq ?_
 refine .region ?_
 refine .q (op_assign rfl) trivial rfl ?_
 refine .nil ?_
 show Ev _ _ _ _ _
 refine .seq ?_
 refine .region ?_
 refine .q (op_move rfl) trivial rfl ?_
 refine .q (op_move rfl) trivial rfl ?_
 refine .q (op_call (U := []) [(500, 500), (502, 502)] [] (way_nil0 most z) Tryd.func17 (by kernel_rfl) rfl rfl rfl (⟨⟨_, rfl, rfl, rfl⟩, ⟨_, rfl, rfl, rfl⟩, trivial⟩) (⟨⟨_, _, rfl, rfl, row0_ren _ _ _ _ _ _ _, rfl, (fun h => by cases h), row0_nmC _ _ _ _ _ _ _ rfl rfl⟩, trivial⟩) (trivial) (⟨(fun h => by cases h), trivial⟩) rfl) trivial rfl ?_
 refine .q (op_move rfl) trivial rfl ?_
 refine .q (op_extract rfl rfl) trivial rfl ?_
 refine .q (op_extract rfl rfl) trivial rfl ?_
 refine .q (op_assign rfl) trivial rfl ?_
 refine .q (op_assign rfl) trivial rfl ?_
 refine .nil ?_
 show Ev _ _ _ _ _
 refine .seq ?_
 refine .seq ?_
 refine .region ?_
 refine .q (op_move rfl) trivial rfl ?_
 refine .q (op_eqNilNil Tryd.underlying31 rfl rfl) trivial rfl ?_
 refine .nil ?_
 show Ev _ _ _ _ _
 refine .cond_false rfl (rfl) ?_
 refine .skip ?_
 show Ev _ _ _ _ _
 refine .seq ?_
 refine .seq ?_
 refine .region ?_
 refine .q (op_move rfl) trivial rfl ?_
 refine .q (op_cmpI rfl rfl rfl) trivial rfl ?_
 refine .q (op_move rfl) trivial rfl ?_
 refine .know (b' := false) (decide_eq_false (by omega)) ?_
 refine .q (op_move rfl) ⟨_, rfl, rfl⟩ rfl ?_
 refine .q (op_move rfl) ⟨_, rfl, rfl⟩ rfl ?_
 refine .q (op_call (U := []) [(500, 500), (502, 502)] [] (blen_nil0 most z 0) Tryd.func19 (by kernel_rfl) rfl rfl rfl (⟨⟨_, rfl, rfl, rfl⟩, trivial⟩) (⟨⟨_, _, rfl, rfl, row0_ren _ _ _ _ _ _ _, rfl, (fun h => by cases h), row0_nmC _ _ _ _ _ _ _ rfl rfl⟩, trivial⟩) (trivial) (⟨(fun h => by cases h), trivial⟩) rfl) ⟨_, rfl, rfl⟩ rfl ?_
 refine .q (op_cmpI rfl rfl rfl) ⟨_, rfl, rfl⟩ rfl ?_
 refine .q (op_pick_false rfl rfl rfl) trivial rfl ?_
 refine .nil ?_
 show Ev _ _ _ _ _
 refine .cond_true rfl (decide_eq_true (by omega)) ?_
 refine .seq ?_
 refine .region ?_
 refine .q (op_load Tryd.underlying31 rfl rfl rfl rfl (by first | omega | (simp only [AV.len]; omega) | (simp only [AV.len, List.length_set]; omega) | assumption | (simp [AV.len]; done))) trivial rfl ?_
 refine .q (op_assign rfl) trivial rfl ?_
 refine .nil ?_
 show Ev _ _ _ _ _
 refine .ret ?_
 show RetOk _ _ _ _ _ _ _
 exact ret1v rfl (.inl rfl) rfl (rfl) ⟨rfl, trivial⟩
set_option maxRecDepth 100000 in
theorem bend_neg_sl0 (most : Int) (z : Option BX) (C L o : Nat) (r : Int) (ho : o ≤ L) (hLb : L ≤ 1000000) (n : Int) (y : UInt8) (h : n < 0) (eo : Nat → Nat × Nat) : Meets Tryd.prog 12 [.ptr 500 0, .i64 0, .i64 n, .u8 y] [(500, some ⟨row0 most (.slk 501 0 (L) (C) true) ((o : Int)) (r) 502 z, 51, false⟩), (7, some ⟨.agg [.err 79 (8) (offE eo (8))], errT, false⟩)] (.err 79 (8) (offE eo (8))) [(500, some ⟨row0 most (.slk 501 0 (L) (C) true) ((o : Int)) (r) 502 z, 51, false⟩)] := by
 refine meets_of_ev (nt := 37) Tryd.func12 rfl rfl (Nat.le_of_ble_eq_true rfl) ?_
 refine .seq ?_
 refine .region ?_
 refine .q (op_assign rfl) trivial rfl ?_
 refine .nil ?_
 show Ev _ _ _ _ _
 refine .seq ?_
 refine .region ?_
 refine .q (op_move rfl) trivial rfl ?_
 refine .q (op_move rfl) trivial rfl ?_
 refine .q (op_call (U := []) [(500, 500), (501, 501), (502, 502)] [] (way_sl0 most z C L o r) Tryd.func17 (by kernel_rfl) rfl rfl rfl (⟨⟨_, rfl, rfl, rfl⟩, ⟨_, rfl, rfl, rfl⟩, trivial⟩) (⟨⟨_, _, rfl, rfl, row0_ren _ _ _ _ _ _ _, rfl, (fun h => by cases h), row0_nmC _ _ _ _ _ _ _ rfl rfl⟩, trivial⟩) (trivial) (⟨(fun h => by cases h), trivial⟩) rfl) trivial rfl ?_
 refine .q (op_move rfl) trivial rfl ?_
 refine .q (op_extract rfl rfl) trivial rfl ?_
 refine .q (op_extract rfl rfl) trivial rfl ?_
 refine .q (op_assign rfl) trivial rfl ?_
 refine .q (op_assign rfl) trivial rfl ?_
 refine .nil ?_
 show Ev _ _ _ _ _
 refine .seq ?_
 refine .seq ?_
 refine .region ?_
 refine .q (op_move rfl) trivial rfl ?_
 refine .q (op_eqNilNil Tryd.underlying31 rfl rfl) trivial rfl ?_
 refine .nil ?_
 show Ev _ _ _ _ _
 refine .cond_false rfl (rfl) ?_
 refine .skip ?_
 show Ev _ _ _ _ _
 refine .seq ?_
 refine .seq ?_
 refine .region ?_
 refine .q (op_move rfl) trivial rfl ?_
 refine .q (op_cmpI rfl rfl rfl) trivial rfl ?_
 refine .q (op_move rfl) trivial rfl ?_
 refine .know (b' := true) (decide_eq_true (by omega)) ?_
 refine .no ⟨_, rfl, rfl⟩ rfl ?_
 refine .no ⟨_, rfl, rfl⟩ rfl ?_
 refine .no ⟨_, rfl, rfl⟩ rfl ?_
 refine .no ⟨_, rfl, rfl⟩ rfl ?_
 refine .q (op_pick_true rfl rfl rfl) trivial rfl ?_
 refine .nil ?_
 show Ev _ _ _ _ _
 refine .cond_true rfl rfl ?_
 refine .seq ?_
 refine .region ?_
 refine .q (op_load Tryd.underlying31 rfl rfl rfl rfl (by first | omega | (simp only [AV.len]; omega) | (simp only [AV.len, List.length_set]; omega) | assumption | (simp [AV.len]; done))) trivial rfl ?_
 refine .q (op_assign rfl) trivial rfl ?_
 refine .nil ?_
 show Ev _ _ _ _ _
 refine .ret ?_
 show RetOk _ _ _ _ _ _ _
 exact ret1v rfl (.inl rfl) rfl (rfl) ⟨rfl, trivial⟩
set_option maxRecDepth 100000 in
theorem bend_far_sl0 (most : Int) (z : Option BX) (C L o : Nat) (r : Int) (ho : o ≤ L) (hLb : L ≤ 1000000) (n : Int) (y : UInt8) (h0 : ¬ n < 0) (h : ((L : Int) - (o : Int)) ≤ n) (eo : Nat → Nat × Nat) : Meets Tryd.prog 12 [.ptr 500 0, .i64 0, .i64 n, .u8 y] [(500, some ⟨row0 most (.slk 501 0 (L) (C) true) ((o : Int)) (r) 502 z, 51, false⟩), (7, some ⟨.agg [.err 79 (8) (offE eo (8))], errT, false⟩)] (.err 79 (8) (offE eo (8))) [(500, some ⟨row0 most (.slk 501 0 (L) (C) true) ((o : Int)) (r) 502 z, 51, false⟩)] := by
 refine meets_of_ev (nt := 37) Tryd.func12 rfl rfl (Nat.le_of_ble_eq_true rfl) ?_
 refine .seq ?_
 refine .region ?_
 refine .q (op_assign rfl) trivial rfl ?_
 refine .nil ?_
 show Ev _ _ _ _ _
 refine .seq ?_
 refine .region ?_
 refine .q (op_move rfl) trivial rfl ?_
 refine .q (op_move rfl) trivial rfl ?_
 refine .q (op_call (U := []) [(500, 500), (501, 501), (502, 502)] [] (way_sl0 most z C L o r) Tryd.func17 (by kernel_rfl) rfl rfl rfl (⟨⟨_, rfl, rfl, rfl⟩, ⟨_, rfl, rfl, rfl⟩, trivial⟩) (⟨⟨_, _, rfl, rfl, row0_ren _ _ _ _ _ _ _, rfl, (fun h => by cases h), row0_nmC _ _ _ _ _ _ _ rfl rfl⟩, trivial⟩) (trivial) (⟨(fun h => by cases h), trivial⟩) rfl) trivial rfl ?_
 refine .q (op_move rfl) trivial rfl ?_
 refine .q (op_extract rfl rfl) trivial rfl ?_
 refine .q (op_extract rfl rfl) trivial rfl ?_
 refine .q (op_assign rfl) trivial rfl ?_
 refine .q (op_assign rfl) trivial rfl ?_
 refine .nil ?_
 show Ev _ _ _ _ _
 refine .seq ?_
 refine .seq ?_
 refine .region ?_
 refine .q (op_move rfl) trivial rfl ?_
 refine .q (op_eqNilNil Tryd.underlying31 rfl rfl) trivial rfl ?_
 refine .nil ?_
 show Ev _ _ _ _ _
 refine .cond_false rfl (rfl) ?_
 refine .skip ?_
 show Ev _ _ _ _ _
 refine .seq ?_
 refine .seq ?_
 refine .region ?_
 refine .q (op_move rfl) trivial rfl ?_
 refine .q (op_cmpI rfl rfl rfl) trivial rfl ?_
 refine .q (op_move rfl) trivial rfl ?_
 refine .know (b' := false) (decide_eq_false (by omega)) ?_
 refine .q (op_move rfl) ⟨_, rfl, rfl⟩ rfl ?_
 refine .q (op_move rfl) ⟨_, rfl, rfl⟩ rfl ?_
 refine .q (op_call (U := []) [(500, 500), (501, 501), (502, 502)] [] (blen_ev0 most z r L o C (by omega) ho) Tryd.func19 (by kernel_rfl) rfl rfl rfl (⟨⟨_, rfl, rfl, rfl⟩, trivial⟩) (⟨⟨_, _, rfl, rfl, row0_ren _ _ _ _ _ _ _, rfl, (fun h => by cases h), row0_nmC _ _ _ _ _ _ _ rfl rfl⟩, trivial⟩) (trivial) (⟨(fun h => by cases h), trivial⟩) rfl) ⟨_, rfl, rfl⟩ rfl ?_
 refine .q (op_cmpI rfl rfl rfl) ⟨_, rfl, rfl⟩ rfl ?_
 refine .q (op_pick_false rfl rfl rfl) trivial rfl ?_
 refine .nil ?_
 show Ev _ _ _ _ _
 refine .cond_true rfl (decide_eq_true (by omega)) ?_
 refine .seq ?_
 refine .region ?_
 refine .q (op_load Tryd.underlying31 rfl rfl rfl rfl (by first | omega | (simp only [AV.len]; omega) | (simp only [AV.len, List.length_set]; omega) | assumption | (simp [AV.len]; done))) trivial rfl ?_
 refine .q (op_assign rfl) trivial rfl ?_
 refine .nil ?_
 show Ev _ _ _ _ _
 refine .ret ?_
 show RetOk _ _ _ _ _ _ _
 exact ret1v rfl (.inl rfl) rfl (rfl) ⟨rfl, trivial⟩
set_option maxRecDepth 100000 in
theorem bend_ok0 (most : Int) (z : Option BX) (l : List UInt8) (C L o : Nat) (r : Int) (ho : o ≤ L) (hL : L ≤ l.length) (hlC : l.length ≤ C) (hC : C ≤ 9223372036854775807) (hC0 : 0 < C) (hLb : L ≤ 1000000) (a : Nat) (y : UInt8) (h : a < L - o) : Meets Tryd.prog 12 [.ptr 500 0, .i64 0, .i64 (a : Int), .u8 y] [(500, some ⟨row0 most (.slk 501 0 (L) (C) true) ((o : Int)) (r) 502 z, 51, false⟩), (501, some ⟨bufC l C, 5, true⟩)] (.val .nilIface) [(501, some ⟨bufC (l.set (o + a) (l.getD (o + a) 0 ^^^ y)) C, 5, true⟩)] := by
 refine meets_of_ev (nt := 37) Tryd.func12 rfl rfl (Nat.le_of_ble_eq_true rfl) ?_
 refine .seq ?_
 refine .region ?_
 refine .q (op_assign rfl) trivial rfl ?_
 refine .nil ?_
 show Ev _ _ _ _ _
 refine .seq ?_
 refine .region ?_
 refine .q (op_move rfl) trivial rfl ?_
 refine .q (op_move rfl) trivial rfl ?_
 refine .q (op_call (U := []) [(500, 500), (501, 501), (502, 502)] [] (way_sl0 most z C L o r) Tryd.func17 (by kernel_rfl) rfl rfl rfl (⟨⟨_, rfl, rfl, rfl⟩, ⟨_, rfl, rfl, rfl⟩, trivial⟩) (⟨⟨_, _, rfl, rfl, row0_ren _ _ _ _ _ _ _, rfl, (fun h => by cases h), row0_nmC _ _ _ _ _ _ _ rfl rfl⟩, trivial⟩) (trivial) (⟨(fun h => by cases h), trivial⟩) rfl) trivial rfl ?_
 refine .q (op_move rfl) trivial rfl ?_
 refine .q (op_extract rfl rfl) trivial rfl ?_
 refine .q (op_extract rfl rfl) trivial rfl ?_
 refine .q (op_assign rfl) trivial rfl ?_
 refine .q (op_assign rfl) trivial rfl ?_
 refine .nil ?_
 show Ev _ _ _ _ _
 refine .seq ?_
 refine .seq ?_
 refine .region ?_
 refine .q (op_move rfl) trivial rfl ?_
 refine .q (op_eqNilNil Tryd.underlying31 rfl rfl) trivial rfl ?_
 refine .nil ?_
 show Ev _ _ _ _ _
 refine .cond_false rfl (rfl) ?_
 refine .skip ?_
 show Ev _ _ _ _ _
 refine .seq ?_
 refine .seq ?_
 refine .region ?_
 refine .q (op_move rfl) trivial rfl ?_
 refine .q (op_cmpI rfl rfl rfl) trivial rfl ?_
 refine .q (op_move rfl) trivial rfl ?_
 refine .know (b' := false) (decide_eq_false (by omega)) ?_
 refine .q (op_move rfl) ⟨_, rfl, rfl⟩ rfl ?_
 refine .q (op_move rfl) ⟨_, rfl, rfl⟩ rfl ?_
 refine .q (op_call (U := []) [(500, 500), (501, 501), (502, 502)] [] (blen_ev0 most z r L o C (by omega) ho) Tryd.func19 (by kernel_rfl) rfl rfl rfl (⟨⟨_, rfl, rfl, rfl⟩, trivial⟩) (⟨⟨_, _, rfl, rfl, row0_ren _ _ _ _ _ _ _, rfl, (fun h => by cases h), row0_nmC _ _ _ _ _ _ _ rfl rfl⟩, trivial⟩) (trivial) (⟨(fun h => by cases h), trivial⟩) rfl) ⟨_, rfl, rfl⟩ rfl ?_
 refine .q (op_cmpI rfl rfl rfl) ⟨_, rfl, rfl⟩ rfl ?_
 refine .q (op_pick_false rfl rfl rfl) trivial rfl ?_
 refine .nil ?_
 show Ev _ _ _ _ _
 refine .cond_false rfl (decide_eq_false (by omega)) ?_
 refine .skip ?_
 show Ev _ _ _ _ _
 refine .seq ?_
 refine .region ?_
 refine .q (op_move rfl) trivial rfl ?_
 refine .q (op_call (U := []) [(500, 500), (501, 501), (502, 502)] [] (bytes_ev0 most z l C L o r ho hL hlC hC hC0 hLb) Tryd.func22 (by kernel_rfl) rfl rfl rfl (⟨⟨_, rfl, rfl, rfl⟩, trivial⟩) (⟨⟨_, _, rfl, rfl, row0_ren _ _ _ _ _ _ _, rfl, (fun h => by cases h), row0_nmC _ _ _ _ _ _ _ rfl rfl⟩, trivial⟩) (trivial) (⟨(fun h => by cases h), trivial⟩) rfl) trivial rfl ?_
 refine .q (op_move rfl) trivial rfl ?_
 refine .q (ap_idx Tryd.underlying38 inf5.sz rfl rfl rfl (show a < L - o by omega)) trivial rfl ?_
 refine .q (op_load Tryd.underlying5 rfl rfl rfl (bufC_nth (by omega)) (by rw [bufC_len hlC]; omega)) trivial rfl ?_
 refine .q (op_move rfl) trivial rfl ?_
 refine .q (op_bin8 rfl rfl rfl) trivial rfl ?_
 refine .q (ap_idx Tryd.underlying38 inf5.sz rfl rfl rfl (show a < L - o by omega)) trivial rfl ?_
 refine .w (op_store inf5.sz rfl rfl rfl rfl (bufC_put (by omega)) (by rw [bufC_len hlC]; omega)) trivial rfl ?_
 refine .nil ?_
 show Ev _ _ _ _ _
 refine .seq ?_
 refine .region ?_
 refine .q (op_assign rfl) trivial rfl ?_
 refine .nil ?_
 show Ev _ _ _ _ _
 refine .ret ?_
 show RetOk _ _ _ _ _ _ _
 exact ret1v rfl (.inl rfl) rfl (rfl) ⟨rfl, trivial⟩
set_option maxRecDepth 100000 in
theorem down_nil0 (most : Int) (z : Option BX) : Meets Tryd.prog 7 [.ptr 500 0] [(500, some ⟨row0 most (.nilsl) (0) (0) 502 z, 51, true⟩)] (.tup []) [(500, some ⟨.agg [.i64 most, .bool true, .nilsl, .i64 0, .val (.int .i8 0), .nilsl, .i64 0, .val (.int .i8 0)], 51, true⟩)] := by
 refine meets_of_ev (nt := 9) Tryd.func7 rfl rfl (Nat.le_of_ble_eq_true rfl) ?_
 refine .seq ?_
 refine .region ?_
 refine .q (op_move rfl) trivial rfl ?_
 refine .q (op_nilCheck rfl) trivial rfl ?_
 refine .q (op_fieldAddr (m := 0) Tryd.underlying51 rfl (by kernel_rfl) rfl) trivial rfl ?_
 refine .as (.ptr 500 1) rfl ?_
 refine .w (op_store inf4.sz rfl rfl rfl rfl rfl (by show 1 < 8; decide)) trivial rfl ?_
 refine .nil ?_
 show Ev _ _ _ _ _
 refine .region ?_
 refine .q (op_move rfl) trivial rfl ?_
 refine .q (op_buildZero (z := 3) (r := .agg [.nilsl, .i64 0, .val (.int .i8 0), .nilsl, .i64 0, .val (.int .i8 0)]) Tryd.underlying49 (by kernel_rfl) zero49 rel_zero49) trivial rfl ?_
 refine .q (op_nilCheck rfl) trivial rfl ?_
 refine .q (op_fieldAddr (m := 5) Tryd.underlying51 rfl (by kernel_rfl) rfl) trivial rfl ?_
 refine .as (.ptr 500 2) rfl ?_
 refine .w (op_storePart (m := 6) (cs := [.nilsl, .i64 0, .val (.int .i8 0), .nilsl, .i64 0, .val (.int .i8 0)]) (c' := .agg [.i64 most, .bool true, .nilsl, .i64 0, .val (.int .i8 0), .nilsl, .i64 0, .val (.int .i8 0)]) sz49 rfl rfl rfl rfl rfl rfl (by show 2 + 6 ≤ 8; decide) rfl) trivial rfl ?_
 refine .nil ?_
 show RetOk _ _ _ _ _ _ _
 exact ret0 rfl (.inr rfl) ⟨rfl, trivial⟩
set_option maxRecDepth 100000 in
theorem down_sl0 (most : Int) (z : Option BX) (C L o : Nat) (r : Int) : Meets Tryd.prog 7 [.ptr 500 0] [(500, some ⟨row0 most (.slk 501 0 (L) (C) true) ((o : Int)) (r) 502 z, 51, true⟩)] (.tup []) [(500, some ⟨.agg [.i64 most, .bool true, .nilsl, .i64 0, .val (.int .i8 0), .nilsl, .i64 0, .val (.int .i8 0)], 51, true⟩)] := by
 refine meets_of_ev (nt := 9) Tryd.func7 rfl rfl (Nat.le_of_ble_eq_true rfl) ?_
 refine .seq ?_
 refine .region ?_
 refine .q (op_move rfl) trivial rfl ?_
 refine .q (op_nilCheck rfl) trivial rfl ?_
 refine .q (op_fieldAddr (m := 0) Tryd.underlying51 rfl (by kernel_rfl) rfl) trivial rfl ?_
 refine .as (.ptr 500 1) rfl ?_
 refine .w (op_store inf4.sz rfl rfl rfl rfl rfl (by show 1 < 8; decide)) trivial rfl ?_
 refine .nil ?_
 show Ev _ _ _ _ _
 refine .region ?_
 refine .q (op_move rfl) trivial rfl ?_
 refine .q (op_buildZero (z := 3) (r := .agg [.nilsl, .i64 0, .val (.int .i8 0), .nilsl, .i64 0, .val (.int .i8 0)]) Tryd.underlying49 (by kernel_rfl) zero49 rel_zero49) trivial rfl ?_
 refine .q (op_nilCheck rfl) trivial rfl ?_
 refine .q (op_fieldAddr (m := 5) Tryd.underlying51 rfl (by kernel_rfl) rfl) trivial rfl ?_
 refine .as (.ptr 500 2) rfl ?_
 refine .w (op_storePart (m := 6) (cs := [.nilsl, .i64 0, .val (.int .i8 0), .nilsl, .i64 0, .val (.int .i8 0)]) (c' := .agg [.i64 most, .bool true, .nilsl, .i64 0, .val (.int .i8 0), .nilsl, .i64 0, .val (.int .i8 0)]) sz49 rfl rfl rfl rfl rfl rfl (by show 2 + 6 ≤ 8; decide) rfl) trivial rfl ?_
 refine .nil ?_
 show RetOk _ _ _ _ _ _ _
 exact ret0 rfl (.inr rfl) ⟨rfl, trivial⟩
end Go.Proofs.YtpmoonglbcglaaaDoor
