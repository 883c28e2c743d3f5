/-
  Texts of this claim.
-/
import Derived.Test.YtalhfkmkmmfkcaaDoorGE
import Derived.Test.YtalhfkmkmmfkcaaDoorGP1
import Derived.Test.YtalhfkmkmmfkcaaDoorGY
namespace Go.Proofs.YtalhfkmkmmfkcaaDoor
open Go.RowKit
set_option maxRecDepth 100000 in
theorem copied_ev (l : List (List UInt8)) (hl : l.length ≤ 1000000000) : Meets Tryd.prog 17 [.dsl l] [] (.dsl l) [] := by
 refine meets_of_ev (nt := 11) Tryd.func17 rfl rfl (Nat.le_of_ble_eq_true rfl) ?_
 refine .seq ?_
 refine .region ?_
 refine .q (op_assign rfl) trivial rfl ?_
 refine .nil ?_
 show Ev _ _ _ _ _
 refine .seq ?_
 refine .region ?_
 refine .q (op_move rfl) trivial rfl ?_
 refine .q (op_len_dsl Tryd.underlying22 rfl) trivial rfl ?_
 refine .a (ap_make (n := l.length) (c := .aggS (List.replicate l.length [])) Tryd.underlying22 inf9 rfl rfl rfl rfl hl (rel_zero9) rfl (by simp [AV.list, AV.parts])) trivial rfl ?_
 refine .q (op_assign rfl) trivial rfl ?_
 refine .nil ?_
 show Ev _ _ _ _ _
 refine .seq ?_
 refine .region ?_
 refine .q (op_move rfl) trivial rfl ?_
 refine .q (op_move rfl) trivial rfl ?_
 refine .a (op_copy (q := l.length) (c' := .aggS l) Tryd.underlying22 inf9.sz rfl rfl rfl (srcs_dsl rfl) (by simp [AV.len]) (by simp) (by simp [AV.list, AV.parts]; rw [List.take_of_length_le (by simp)])) trivial rfl ?_
 refine .nil ?_
 show Ev _ _ _ _ _
 refine .seq ?_
 refine .region ?_
 refine .q (op_move rfl) trivial rfl ?_
 refine .q (op_assign rfl) trivial rfl ?_
 refine .nil ?_
 show Ev _ _ _ _ _
 refine Ev.freeze (t := 2) (b := 1000) (o := 0) (n := l.length) (e := 9) (L := l) (Nat.le_of_ble_eq_true rfl) rfl rfl (by omega) ?_
 refine .ret ?_
 show RetOk _ _ _ _ _ _ _
 exact ret1v rfl (.inl rfl) rfl (by rw [List.drop_zero, List.take_length]) trivial
set_option maxRecDepth 100000 in
theorem ours_ev  : Meets Tryd.prog 13 [] [] (.agg [.dsl [[99, 117, 114, 118, 101, 50, 53, 53, 49, 57, 45, 115, 104, 97, 50, 53, 54]], .dsl [[115, 115, 104, 45, 101, 100, 50, 53, 53, 49, 57]], .dsl [[99, 104, 97, 99, 104, 97, 50, 48, 45, 112, 111, 108, 121, 49, 51, 48, 53]], .dsl [[110, 111, 110, 101]], .dsl [[110, 111, 110, 101]]]) [] := by
 refine meets_of_ev (nt := 7) Tryd.func13 rfl rfl (Nat.le_of_ble_eq_true rfl) ?_
 refine .seq ?_
 refine .region ?_
 refine .a (op_allocRow zero35 rel_zero35 rfl) trivial rfl ?_
 refine .nil ?_
 show Ev _ _ _ _ _
 refine .seq ?_
 refine .region ?_
 refine .a (ap_build (us := [.str [99, 117, 114, 118, 101, 50, 53, 53, 49, 57, 45, 115, 104, 97, 50, 53, 54]]) (c := .aggS [[99, 117, 114, 118, 101, 50, 53, 53, 49, 57, 45, 115, 104, 97, 50, 53, 54]]) Tryd.underlying22 inf9 rfl (by decide) (by decide) ⟨rfl, rfl, rfl, trivial⟩ rfl) trivial rfl ?_
 refine EvL.freeze (t := 1) (b := 1008) (o := 0) (n := 1) (e := 9) (L := [[99, 117, 114, 118, 101, 50, 53, 53, 49, 57, 45, 115, 104, 97, 50, 53, 54]]) (Nat.le_of_ble_eq_true rfl) rfl rfl (Nat.le_of_ble_eq_true rfl) ?_
 refine .as (.dsl [[99, 117, 114, 118, 101, 50, 53, 53, 49, 57, 45, 115, 104, 97, 50, 53, 54]]) rfl ?_
 refine .a (ap_build (us := [.str [115, 115, 104, 45, 101, 100, 50, 53, 53, 49, 57]]) (c := .aggS [[115, 115, 104, 45, 101, 100, 50, 53, 53, 49, 57]]) Tryd.underlying22 inf9 rfl (by decide) (by decide) ⟨rfl, rfl, rfl, trivial⟩ rfl) trivial rfl ?_
 refine EvL.freeze (t := 2) (b := 1016) (o := 0) (n := 1) (e := 9) (L := [[115, 115, 104, 45, 101, 100, 50, 53, 53, 49, 57]]) (Nat.le_of_ble_eq_true rfl) rfl rfl (Nat.le_of_ble_eq_true rfl) ?_
 refine .as (.dsl [[115, 115, 104, 45, 101, 100, 50, 53, 53, 49, 57]]) rfl ?_
 refine .a (ap_build (us := [.str [99, 104, 97, 99, 104, 97, 50, 48, 45, 112, 111, 108, 121, 49, 51, 48, 53]]) (c := .aggS [[99, 104, 97, 99, 104, 97, 50, 48, 45, 112, 111, 108, 121, 49, 51, 48, 53]]) Tryd.underlying22 inf9 rfl (by decide) (by decide) ⟨rfl, rfl, rfl, trivial⟩ rfl) trivial rfl ?_
 refine EvL.freeze (t := 3) (b := 1024) (o := 0) (n := 1) (e := 9) (L := [[99, 104, 97, 99, 104, 97, 50, 48, 45, 112, 111, 108, 121, 49, 51, 48, 53]]) (Nat.le_of_ble_eq_true rfl) rfl rfl (Nat.le_of_ble_eq_true rfl) ?_
 refine .as (.dsl [[99, 104, 97, 99, 104, 97, 50, 48, 45, 112, 111, 108, 121, 49, 51, 48, 53]]) rfl ?_
 refine .a (ap_build (us := [.str [110, 111, 110, 101]]) (c := .aggS [[110, 111, 110, 101]]) Tryd.underlying22 inf9 rfl (by decide) (by decide) ⟨rfl, rfl, rfl, trivial⟩ rfl) trivial rfl ?_
 refine EvL.freeze (t := 4) (b := 1032) (o := 0) (n := 1) (e := 9) (L := [[110, 111, 110, 101]]) (Nat.le_of_ble_eq_true rfl) rfl rfl (Nat.le_of_ble_eq_true rfl) ?_
 refine .as (.dsl [[110, 111, 110, 101]]) rfl ?_
 refine .a (ap_build (us := [.str [110, 111, 110, 101]]) (c := .aggS [[110, 111, 110, 101]]) Tryd.underlying22 inf9 rfl (by decide) (by decide) ⟨rfl, rfl, rfl, trivial⟩ rfl) trivial rfl ?_
 refine EvL.freeze (t := 5) (b := 1040) (o := 0) (n := 1) (e := 9) (L := [[110, 111, 110, 101]]) (Nat.le_of_ble_eq_true rfl) rfl rfl (Nat.le_of_ble_eq_true rfl) ?_
 refine .as (.dsl [[110, 111, 110, 101]]) rfl ?_
 refine .q (op_buildS (r := .agg [.dsl [[99, 117, 114, 118, 101, 50, 53, 53, 49, 57, 45, 115, 104, 97, 50, 53, 54]], .dsl [[115, 115, 104, 45, 101, 100, 50, 53, 53, 49, 57]], .dsl [[99, 104, 97, 99, 104, 97, 50, 48, 45, 112, 111, 108, 121, 49, 51, 48, 53]], .dsl [[110, 111, 110, 101]], .dsl [[110, 111, 110, 101]]]) Tryd.underlying35 rfl zero35 rel_zero35 rfl rfl rfl rfl) trivial rfl ?_
 refine .w (op_storeRow (by kernel_rfl) rfl rfl rfl rfl rfl (rfl) (rfl)) trivial rfl ?_
 refine .nil ?_
 show Ev _ _ _ _ _
 refine .ret ?_
 show RetOk _ _ _ _ _ _ _
 exact retc1 rfl (.inl rfl) ⟨_, _, _, _, rfl, rfl, rfl, rfl, rfl, Tryd.underlying35, rfl, (by kernel_rfl)⟩ trivial
set_option maxRecDepth 100000 in
theorem make_ev (cookie : List UInt8) (hc : cookie.length = 16) (l0 l1 l2 l3 l4 : List (List UInt8)) (h0 : l0.length ≤ 1000000000) (h1 : l1.length ≤ 1000000000) (h2 : l2.length ≤ 1000000000) (h3 : l3.length ≤ 1000000000) (h4 : l4.length ≤ 1000000000) (b : Bool) : Meets Tryd.prog 11 [.aggB cookie, .agg [.dsl l0, .dsl l1, .dsl l2, .dsl l3, .dsl l4], .bool b] [] (.agg [.i64 20, .fsl (List.map AV.u32 [0]) ([0]).length 1, .dsl [cookie], .fsl (List.map AV.dsl [l0, l1, l2, l2, l3, l3, l4, l4, [], []]) ([l0, l1, l2, l2, l3, l3, l4, l4, [], []]).length 1, .fsl (List.map AV.bool [b]) ([b]).length 1]) [] := by
 refine meets_of_ev (nt := 48) Tryd.func11 rfl rfl (Nat.le_of_ble_eq_true rfl) ?_
 refine .seq ?_
 refine .region ?_
 refine .a (op_boxRow rfl rfl) trivial rfl ?_
 refine .a (op_boxRow rfl rfl) trivial rfl ?_
 refine .a (op_allocRow zero41 rel_zero41 rfl) trivial rfl ?_
 refine .nil ?_
 show Ev _ _ _ _ _
 refine .seq ?_
 refine .region ?_
 refine .q (op_fieldAddr (m := 0) Tryd.underlying35 rfl (by kernel_rfl) rfl) trivial rfl ?_
 refine .as (.ptr 1008 0) rfl ?_
 refine .q (op_load Tryd.underlying22 rfl rfl rfl rfl (by show 0 < 5; decide)) trivial rfl ?_
 refine .q (op_fieldAddr (m := 0) Tryd.underlying35 rfl (by kernel_rfl) rfl) trivial rfl ?_
 refine .as (.ptr 1008 1) rfl ?_
 refine .q (op_load Tryd.underlying22 rfl rfl rfl rfl (by show 1 < 5; decide)) trivial rfl ?_
 refine .q (op_fieldAddr (m := 0) Tryd.underlying35 rfl (by kernel_rfl) rfl) trivial rfl ?_
 refine .as (.ptr 1008 2) rfl ?_
 refine .q (op_load Tryd.underlying22 rfl rfl rfl rfl (by show 2 < 5; decide)) trivial rfl ?_
 refine .q (op_fieldAddr (m := 0) Tryd.underlying35 rfl (by kernel_rfl) rfl) trivial rfl ?_
 refine .as (.ptr 1008 2) rfl ?_
 refine .q (op_load Tryd.underlying22 rfl rfl rfl rfl (by show 2 < 5; decide)) trivial rfl ?_
 refine .q (op_fieldAddr (m := 0) Tryd.underlying35 rfl (by kernel_rfl) rfl) trivial rfl ?_
 refine .as (.ptr 1008 3) rfl ?_
 refine .q (op_load Tryd.underlying22 rfl rfl rfl rfl (by show 3 < 5; decide)) trivial rfl ?_
 refine .q (op_fieldAddr (m := 0) Tryd.underlying35 rfl (by kernel_rfl) rfl) trivial rfl ?_
 refine .as (.ptr 1008 3) rfl ?_
 refine .q (op_load Tryd.underlying22 rfl rfl rfl rfl (by show 3 < 5; decide)) trivial rfl ?_
 refine .q (op_fieldAddr (m := 0) Tryd.underlying35 rfl (by kernel_rfl) rfl) trivial rfl ?_
 refine .as (.ptr 1008 4) rfl ?_
 refine .q (op_load Tryd.underlying22 rfl rfl rfl rfl (by show 4 < 5; decide)) trivial rfl ?_
 refine .q (op_fieldAddr (m := 0) Tryd.underlying35 rfl (by kernel_rfl) rfl) trivial rfl ?_
 refine .as (.ptr 1008 4) rfl ?_
 refine .q (op_load Tryd.underlying22 rfl rfl rfl rfl (by show 4 < 5; decide)) trivial rfl ?_
 refine .a (ap_build (us := [.dsl l0, .dsl l1, .dsl l2, .dsl l2, .dsl l3, .dsl l3, .dsl l4, .dsl l4, .nilsl, .nilsl]) (c := .agg [.dsl l0, .dsl l1, .dsl l2, .dsl l2, .dsl l3, .dsl l3, .dsl l4, .dsl l4, .nilsl, .nilsl]) Tryd.underlying38 inf22 rfl (by decide) (by decide) ⟨rfl, rfl, rfl, rfl, rfl, rfl, rfl, rfl, rfl, rfl, rfl, rfl, rfl, rfl, rfl, rfl, rfl, rfl, rfl, rfl, rfl, rfl, rfl, rfl, rfl, rfl, rfl, rfl, rfl, rfl, trivial⟩ rfl) trivial rfl ?_
 refine .q (op_assign rfl) trivial rfl ?_
 refine .nil ?_
 show Ev _ _ _ _ _
 refine .seq ?_
 refine .seq ?_
 refine .region ?_
 refine .q (op_move rfl) trivial rfl ?_
 refine .q (op_len_sl Tryd.underlying38 rfl) trivial rfl ?_
 refine .q (op_move rfl) trivial rfl ?_
 refine .nil ?_
 show Ev _ _ _ _ _
 refine .block ?_
 refine Ev.rounds 11 ?_
 show Ev _ _ _ _ _
 refine .seq ?_
 refine .region ?_
 refine .q (op_cmpI rfl rfl rfl) trivial rfl ?_
 refine .nil ?_
 show Ev _ _ _ _ _
 refine .seq ?_
 refine .cond_true rfl (rfl) ?_
 refine .skip ?_
 show Ev _ _ _ _ _
 refine .seq ?_
 refine .block ?_
 refine .seq ?_
 refine .region ?_
 refine .q (op_move rfl) trivial rfl ?_
 refine .q (op_indexAddr (z := 1) (i := 0) Tryd.underlying38 inf22.sz rfl rfl rfl (by decide)) trivial rfl ?_
 refine .as (.ptr 1024 0) rfl ?_
 refine .q (op_load Tryd.underlying22 rfl rfl rfl rfl (by show 0 < 10; decide)) trivial rfl ?_
 refine .q (op_assign rfl) trivial rfl ?_
 refine .q (op_assign rfl) trivial rfl ?_
 refine .nil ?_
 show Ev _ _ _ _ _
 refine .region ?_
 refine .q (op_move rfl) trivial rfl ?_
 refine .q (op_move rfl) trivial rfl ?_
 refine .q (op_move rfl) trivial rfl ?_
 refine .q (op_call (U := []) [] [] (copied_ev l0 (by first | assumption | decide)) Tryd.func17 (by kernel_rfl) rfl rfl rfl (⟨⟨_, rfl, rfl, rfl⟩, trivial⟩) (trivial) (trivial) (trivial) rfl) trivial rfl ?_
 refine .q (op_indexAddr (z := 1) (i := 0) Tryd.underlying38 inf22.sz rfl rfl rfl (by decide)) trivial rfl ?_
 refine .as (.ptr 1024 0) rfl ?_
 refine .w (op_store (by kernel_rfl) rfl rfl rfl rfl rfl (by show 0 < 10; decide)) trivial rfl ?_
 refine .nil ?_
 show Ev _ _ _ _ _
 refine .region ?_
 refine .q (op_addI rfl rfl ⟨by omega, by omega⟩) trivial rfl ?_
 refine .q (op_move rfl) trivial rfl ?_
 refine .nil ?_
 show Ev _ _ _ _ _
 refine .seq ?_
 refine .region ?_
 refine .q (op_cmpI rfl rfl rfl) trivial rfl ?_
 refine .nil ?_
 show Ev _ _ _ _ _
 refine .seq ?_
 refine .cond_true rfl (rfl) ?_
 refine .skip ?_
 show Ev _ _ _ _ _
 refine .seq ?_
 refine .block ?_
 refine .seq ?_
 refine .region ?_
 refine .q (op_move rfl) trivial rfl ?_
 refine .q (op_indexAddr (z := 1) (i := 1) Tryd.underlying38 inf22.sz rfl rfl rfl (by decide)) trivial rfl ?_
 refine .as (.ptr 1024 1) rfl ?_
 refine .q (op_load Tryd.underlying22 rfl rfl rfl rfl (by show 1 < 10; decide)) trivial rfl ?_
 refine .q (op_assign rfl) trivial rfl ?_
 refine .q (op_assign rfl) trivial rfl ?_
 refine .nil ?_
 show Ev _ _ _ _ _
 refine .region ?_
 refine .q (op_move rfl) trivial rfl ?_
 refine .q (op_move rfl) trivial rfl ?_
 refine .q (op_move rfl) trivial rfl ?_
 refine .q (op_call (U := []) [] [] (copied_ev l1 (by first | assumption | decide)) Tryd.func17 (by kernel_rfl) rfl rfl rfl (⟨⟨_, rfl, rfl, rfl⟩, trivial⟩) (trivial) (trivial) (trivial) rfl) trivial rfl ?_
 refine .q (op_indexAddr (z := 1) (i := 1) Tryd.underlying38 inf22.sz rfl rfl rfl (by decide)) trivial rfl ?_
 refine .as (.ptr 1024 1) rfl ?_
 refine .w (op_store (by kernel_rfl) rfl rfl rfl rfl rfl (by show 1 < 10; decide)) trivial rfl ?_
 refine .nil ?_
 show Ev _ _ _ _ _
 refine .region ?_
 refine .q (op_addI rfl rfl ⟨by omega, by omega⟩) trivial rfl ?_
 refine .q (op_move rfl) trivial rfl ?_
 refine .nil ?_
 show Ev _ _ _ _ _
 refine .seq ?_
 refine .region ?_
 refine .q (op_cmpI rfl rfl rfl) trivial rfl ?_
 refine .nil ?_
 show Ev _ _ _ _ _
 refine .seq ?_
 refine .cond_true rfl (rfl) ?_
 refine .skip ?_
 show Ev _ _ _ _ _
 refine .seq ?_
 refine .block ?_
 refine .seq ?_
 refine .region ?_
 refine .q (op_move rfl) trivial rfl ?_
 refine .q (op_indexAddr (z := 1) (i := 2) Tryd.underlying38 inf22.sz rfl rfl rfl (by decide)) trivial rfl ?_
 refine .as (.ptr 1024 2) rfl ?_
 refine .q (op_load Tryd.underlying22 rfl rfl rfl rfl (by show 2 < 10; decide)) trivial rfl ?_
 refine .q (op_assign rfl) trivial rfl ?_
 refine .q (op_assign rfl) trivial rfl ?_
 refine .nil ?_
 show Ev _ _ _ _ _
 refine .region ?_
 refine .q (op_move rfl) trivial rfl ?_
 refine .q (op_move rfl) trivial rfl ?_
 refine .q (op_move rfl) trivial rfl ?_
 refine .q (op_call (U := []) [] [] (copied_ev l2 (by first | assumption | decide)) Tryd.func17 (by kernel_rfl) rfl rfl rfl (⟨⟨_, rfl, rfl, rfl⟩, trivial⟩) (trivial) (trivial) (trivial) rfl) trivial rfl ?_
 refine .q (op_indexAddr (z := 1) (i := 2) Tryd.underlying38 inf22.sz rfl rfl rfl (by decide)) trivial rfl ?_
 refine .as (.ptr 1024 2) rfl ?_
 refine .w (op_store (by kernel_rfl) rfl rfl rfl rfl rfl (by show 2 < 10; decide)) trivial rfl ?_
 refine .nil ?_
 show Ev _ _ _ _ _
 refine .region ?_
 refine .q (op_addI rfl rfl ⟨by omega, by omega⟩) trivial rfl ?_
 refine .q (op_move rfl) trivial rfl ?_
 refine .nil ?_
 show Ev _ _ _ _ _
 refine .seq ?_
 refine .region ?_
 refine .q (op_cmpI rfl rfl rfl) trivial rfl ?_
 refine .nil ?_
 show Ev _ _ _ _ _
 refine .seq ?_
 refine .cond_true rfl (rfl) ?_
 refine .skip ?_
 show Ev _ _ _ _ _
 refine .seq ?_
 refine .block ?_
 refine .seq ?_
 refine .region ?_
 refine .q (op_move rfl) trivial rfl ?_
 refine .q (op_indexAddr (z := 1) (i := 3) Tryd.underlying38 inf22.sz rfl rfl rfl (by decide)) trivial rfl ?_
 refine .as (.ptr 1024 3) rfl ?_
 refine .q (op_load Tryd.underlying22 rfl rfl rfl rfl (by show 3 < 10; decide)) trivial rfl ?_
 refine .q (op_assign rfl) trivial rfl ?_
 refine .q (op_assign rfl) trivial rfl ?_
 refine .nil ?_
 show Ev _ _ _ _ _
 refine .region ?_
 refine .q (op_move rfl) trivial rfl ?_
 refine .q (op_move rfl) trivial rfl ?_
 refine .q (op_move rfl) trivial rfl ?_
 refine .q (op_call (U := []) [] [] (copied_ev l2 (by first | assumption | decide)) Tryd.func17 (by kernel_rfl) rfl rfl rfl (⟨⟨_, rfl, rfl, rfl⟩, trivial⟩) (trivial) (trivial) (trivial) rfl) trivial rfl ?_
 refine .q (op_indexAddr (z := 1) (i := 3) Tryd.underlying38 inf22.sz rfl rfl rfl (by decide)) trivial rfl ?_
 refine .as (.ptr 1024 3) rfl ?_
 refine .w (op_store (by kernel_rfl) rfl rfl rfl rfl rfl (by show 3 < 10; decide)) trivial rfl ?_
 refine .nil ?_
 show Ev _ _ _ _ _
 refine .region ?_
 refine .q (op_addI rfl rfl ⟨by omega, by omega⟩) trivial rfl ?_
 refine .q (op_move rfl) trivial rfl ?_
 refine .nil ?_
 show Ev _ _ _ _ _
 refine .seq ?_
 refine .region ?_
 refine .q (op_cmpI rfl rfl rfl) trivial rfl ?_
 refine .nil ?_
 show Ev _ _ _ _ _
 refine .seq ?_
 refine .cond_true rfl (rfl) ?_
 refine .skip ?_
 show Ev _ _ _ _ _
 refine .seq ?_
 refine .block ?_
 refine .seq ?_
 refine .region ?_
 refine .q (op_move rfl) trivial rfl ?_
 refine .q (op_indexAddr (z := 1) (i := 4) Tryd.underlying38 inf22.sz rfl rfl rfl (by decide)) trivial rfl ?_
 refine .as (.ptr 1024 4) rfl ?_
 refine .q (op_load Tryd.underlying22 rfl rfl rfl rfl (by show 4 < 10; decide)) trivial rfl ?_
 refine .q (op_assign rfl) trivial rfl ?_
 refine .q (op_assign rfl) trivial rfl ?_
 refine .nil ?_
 show Ev _ _ _ _ _
 refine .region ?_
 refine .q (op_move rfl) trivial rfl ?_
 refine .q (op_move rfl) trivial rfl ?_
 refine .q (op_move rfl) trivial rfl ?_
 refine .q (op_call (U := []) [] [] (copied_ev l3 (by first | assumption | decide)) Tryd.func17 (by kernel_rfl) rfl rfl rfl (⟨⟨_, rfl, rfl, rfl⟩, trivial⟩) (trivial) (trivial) (trivial) rfl) trivial rfl ?_
 refine .q (op_indexAddr (z := 1) (i := 4) Tryd.underlying38 inf22.sz rfl rfl rfl (by decide)) trivial rfl ?_
 refine .as (.ptr 1024 4) rfl ?_
 refine .w (op_store (by kernel_rfl) rfl rfl rfl rfl rfl (by show 4 < 10; decide)) trivial rfl ?_
 refine .nil ?_
 show Ev _ _ _ _ _
 refine .region ?_
 refine .q (op_addI rfl rfl ⟨by omega, by omega⟩) trivial rfl ?_
 refine .q (op_move rfl) trivial rfl ?_
 refine .nil ?_
 show Ev _ _ _ _ _
 refine .seq ?_
 refine .region ?_
 refine .q (op_cmpI rfl rfl rfl) trivial rfl ?_
 refine .nil ?_
 show Ev _ _ _ _ _
 refine .seq ?_
 refine .cond_true rfl (rfl) ?_
 refine .skip ?_
 show Ev _ _ _ _ _
 refine .seq ?_
 refine .block ?_
 refine .seq ?_
 refine .region ?_
 refine .q (op_move rfl) trivial rfl ?_
 refine .q (op_indexAddr (z := 1) (i := 5) Tryd.underlying38 inf22.sz rfl rfl rfl (by decide)) trivial rfl ?_
 refine .as (.ptr 1024 5) rfl ?_
 refine .q (op_load Tryd.underlying22 rfl rfl rfl rfl (by show 5 < 10; decide)) trivial rfl ?_
 refine .q (op_assign rfl) trivial rfl ?_
 refine .q (op_assign rfl) trivial rfl ?_
 refine .nil ?_
 show Ev _ _ _ _ _
 refine .region ?_
 refine .q (op_move rfl) trivial rfl ?_
 refine .q (op_move rfl) trivial rfl ?_
 refine .q (op_move rfl) trivial rfl ?_
 refine .q (op_call (U := []) [] [] (copied_ev l3 (by first | assumption | decide)) Tryd.func17 (by kernel_rfl) rfl rfl rfl (⟨⟨_, rfl, rfl, rfl⟩, trivial⟩) (trivial) (trivial) (trivial) rfl) trivial rfl ?_
 refine .q (op_indexAddr (z := 1) (i := 5) Tryd.underlying38 inf22.sz rfl rfl rfl (by decide)) trivial rfl ?_
 refine .as (.ptr 1024 5) rfl ?_
 refine .w (op_store (by kernel_rfl) rfl rfl rfl rfl rfl (by show 5 < 10; decide)) trivial rfl ?_
 refine .nil ?_
 show Ev _ _ _ _ _
 refine .region ?_
 refine .q (op_addI rfl rfl ⟨by omega, by omega⟩) trivial rfl ?_
 refine .q (op_move rfl) trivial rfl ?_
 refine .nil ?_
 show Ev _ _ _ _ _
 refine .seq ?_
 refine .region ?_
 refine .q (op_cmpI rfl rfl rfl) trivial rfl ?_
 refine .nil ?_
 show Ev _ _ _ _ _
 refine .seq ?_
 refine .cond_true rfl (rfl) ?_
 refine .skip ?_
 show Ev _ _ _ _ _
 refine .seq ?_
 refine .block ?_
 refine .seq ?_
 refine .region ?_
 refine .q (op_move rfl) trivial rfl ?_
 refine .q (op_indexAddr (z := 1) (i := 6) Tryd.underlying38 inf22.sz rfl rfl rfl (by decide)) trivial rfl ?_
 refine .as (.ptr 1024 6) rfl ?_
 refine .q (op_load Tryd.underlying22 rfl rfl rfl rfl (by show 6 < 10; decide)) trivial rfl ?_
 refine .q (op_assign rfl) trivial rfl ?_
 refine .q (op_assign rfl) trivial rfl ?_
 refine .nil ?_
 show Ev _ _ _ _ _
 refine .region ?_
 refine .q (op_move rfl) trivial rfl ?_
 refine .q (op_move rfl) trivial rfl ?_
 refine .q (op_move rfl) trivial rfl ?_
 refine .q (op_call (U := []) [] [] (copied_ev l4 (by first | assumption | decide)) Tryd.func17 (by kernel_rfl) rfl rfl rfl (⟨⟨_, rfl, rfl, rfl⟩, trivial⟩) (trivial) (trivial) (trivial) rfl) trivial rfl ?_
 refine .q (op_indexAddr (z := 1) (i := 6) Tryd.underlying38 inf22.sz rfl rfl rfl (by decide)) trivial rfl ?_
 refine .as (.ptr 1024 6) rfl ?_
 refine .w (op_store (by kernel_rfl) rfl rfl rfl rfl rfl (by show 6 < 10; decide)) trivial rfl ?_
 refine .nil ?_
 show Ev _ _ _ _ _
 refine .region ?_
 refine .q (op_addI rfl rfl ⟨by omega, by omega⟩) trivial rfl ?_
 refine .q (op_move rfl) trivial rfl ?_
 refine .nil ?_
 show Ev _ _ _ _ _
 refine .seq ?_
 refine .region ?_
 refine .q (op_cmpI rfl rfl rfl) trivial rfl ?_
 refine .nil ?_
 show Ev _ _ _ _ _
 refine .seq ?_
 refine .cond_true rfl (rfl) ?_
 refine .skip ?_
 show Ev _ _ _ _ _
 refine .seq ?_
 refine .block ?_
 refine .seq ?_
 refine .region ?_
 refine .q (op_move rfl) trivial rfl ?_
 refine .q (op_indexAddr (z := 1) (i := 7) Tryd.underlying38 inf22.sz rfl rfl rfl (by decide)) trivial rfl ?_
 refine .as (.ptr 1024 7) rfl ?_
 refine .q (op_load Tryd.underlying22 rfl rfl rfl rfl (by show 7 < 10; decide)) trivial rfl ?_
 refine .q (op_assign rfl) trivial rfl ?_
 refine .q (op_assign rfl) trivial rfl ?_
 refine .nil ?_
 show Ev _ _ _ _ _
 refine .region ?_
 refine .q (op_move rfl) trivial rfl ?_
 refine .q (op_move rfl) trivial rfl ?_
 refine .q (op_move rfl) trivial rfl ?_
 refine .q (op_call (U := []) [] [] (copied_ev l4 (by first | assumption | decide)) Tryd.func17 (by kernel_rfl) rfl rfl rfl (⟨⟨_, rfl, rfl, rfl⟩, trivial⟩) (trivial) (trivial) (trivial) rfl) trivial rfl ?_
 refine .q (op_indexAddr (z := 1) (i := 7) Tryd.underlying38 inf22.sz rfl rfl rfl (by decide)) trivial rfl ?_
 refine .as (.ptr 1024 7) rfl ?_
 refine .w (op_store (by kernel_rfl) rfl rfl rfl rfl rfl (by show 7 < 10; decide)) trivial rfl ?_
 refine .nil ?_
 show Ev _ _ _ _ _
 refine .region ?_
 refine .q (op_addI rfl rfl ⟨by omega, by omega⟩) trivial rfl ?_
 refine .q (op_move rfl) trivial rfl ?_
 refine .nil ?_
 show Ev _ _ _ _ _
 refine .seq ?_
 refine .region ?_
 refine .q (op_cmpI rfl rfl rfl) trivial rfl ?_
 refine .nil ?_
 show Ev _ _ _ _ _
 refine .seq ?_
 refine .cond_true rfl (rfl) ?_
 refine .skip ?_
 show Ev _ _ _ _ _
 refine .seq ?_
 refine .block ?_
 refine .seq ?_
 refine .region ?_
 refine .q (op_move rfl) trivial rfl ?_
 refine .q (op_indexAddr (z := 1) (i := 8) Tryd.underlying38 inf22.sz rfl rfl rfl (by decide)) trivial rfl ?_
 refine .as (.ptr 1024 8) rfl ?_
 refine .q (op_load Tryd.underlying22 rfl rfl rfl rfl (by show 8 < 10; decide)) trivial rfl ?_
 refine .asR (.dsl []) nil_dsl ?_
 refine .q (op_assign rfl) trivial rfl ?_
 refine .q (op_assign rfl) trivial rfl ?_
 refine .nil ?_
 show Ev _ _ _ _ _
 refine .region ?_
 refine .q (op_move rfl) trivial rfl ?_
 refine .q (op_move rfl) trivial rfl ?_
 refine .q (op_move rfl) trivial rfl ?_
 refine .q (op_call (U := []) [] [] (copied_ev [] (by first | assumption | decide)) Tryd.func17 (by kernel_rfl) rfl rfl rfl (⟨⟨_, rfl, rfl, rfl⟩, trivial⟩) (trivial) (trivial) (trivial) rfl) trivial rfl ?_
 refine .q (op_indexAddr (z := 1) (i := 8) Tryd.underlying38 inf22.sz rfl rfl rfl (by decide)) trivial rfl ?_
 refine .as (.ptr 1024 8) rfl ?_
 refine .w (op_store (by kernel_rfl) rfl rfl rfl rfl rfl (by show 8 < 10; decide)) trivial rfl ?_
 refine .nil ?_
 show Ev _ _ _ _ _
 refine .region ?_
 refine .q (op_addI rfl rfl ⟨by omega, by omega⟩) trivial rfl ?_
 refine .q (op_move rfl) trivial rfl ?_
 refine .nil ?_
 show Ev _ _ _ _ _
 refine .seq ?_
 refine .region ?_
 refine .q (op_cmpI rfl rfl rfl) trivial rfl ?_
 refine .nil ?_
 show Ev _ _ _ _ _
 refine .seq ?_
 refine .cond_true rfl (rfl) ?_
 refine .skip ?_
 show Ev _ _ _ _ _
 refine .seq ?_
 refine .block ?_
 refine .seq ?_
 refine .region ?_
 refine .q (op_move rfl) trivial rfl ?_
 refine .q (op_indexAddr (z := 1) (i := 9) Tryd.underlying38 inf22.sz rfl rfl rfl (by decide)) trivial rfl ?_
 refine .as (.ptr 1024 9) rfl ?_
 refine .q (op_load Tryd.underlying22 rfl rfl rfl rfl (by show 9 < 10; decide)) trivial rfl ?_
 refine .asR (.dsl []) nil_dsl ?_
 refine .q (op_assign rfl) trivial rfl ?_
 refine .q (op_assign rfl) trivial rfl ?_
 refine .nil ?_
 show Ev _ _ _ _ _
 refine .region ?_
 refine .q (op_move rfl) trivial rfl ?_
 refine .q (op_move rfl) trivial rfl ?_
 refine .q (op_move rfl) trivial rfl ?_
 refine .q (op_call (U := []) [] [] (copied_ev [] (by first | assumption | decide)) Tryd.func17 (by kernel_rfl) rfl rfl rfl (⟨⟨_, rfl, rfl, rfl⟩, trivial⟩) (trivial) (trivial) (trivial) rfl) trivial rfl ?_
 refine .q (op_indexAddr (z := 1) (i := 9) Tryd.underlying38 inf22.sz rfl rfl rfl (by decide)) trivial rfl ?_
 refine .as (.ptr 1024 9) rfl ?_
 refine .w (op_store (by kernel_rfl) rfl rfl rfl rfl rfl (by show 9 < 10; decide)) trivial rfl ?_
 refine .nil ?_
 show Ev _ _ _ _ _
 refine .region ?_
 refine .q (op_addI rfl rfl ⟨by omega, by omega⟩) trivial rfl ?_
 refine .q (op_move rfl) trivial rfl ?_
 refine .nil ?_
 show Ev _ _ _ _ _
 refine .seq ?_
 refine .region ?_
 refine .q (op_cmpI rfl rfl rfl) trivial rfl ?_
 refine .nil ?_
 show Ev _ _ _ _ _
 refine .seq ?_
 refine .cond_false rfl (rfl) ?_
 refine .exit ?_
 show Ev _ _ _ _ _
 refine .seq ?_
 refine .region ?_
 refine .a (ap_build (us := [.u32 0]) (c := .agg32 [0]) Tryd.underlying37 inf43 rfl (by decide) (by decide) ⟨rfl, rfl, rfl, trivial⟩ rfl) trivial rfl ?_
 refine EvL.freezeF (t := 40) (b := 1032) (o := 0) (n := 1) (z := 1) (e := 43) (c := .agg32 [0]) (Nat.le_of_ble_eq_true rfl) rfl rfl (Nat.le_of_ble_eq_true rfl) (fun x hx => by obtain ⟨q, _, rfl⟩ := List.mem_map.1 (show x ∈ List.map AV.u32 _ from hx); rfl) ?_
 refine .as (.fsl (List.map AV.u32 [0]) 1 1) rfl ?_
 refine .q (op_slice_arr Tryd.underlying33 inf5.sz rfl rfl (by rw [AV.len, hc]; exact Nat.le_refl _) (by decide) rfl rfl (by decide) (by decide)) trivial rfl ?_
 refine .q (op_bytes_str Tryd.underlying44 Tryd.underlying5 Tryd.underlying9 rfl rfl rfl (by show 0 + 16 ≤ cookie.length; omega)) trivial rfl ?_
 refine .as (.str cookie) (congrArg AV.str (by rw [List.drop_zero, List.take_of_length_le (by omega)])) ?_
 refine .a (ap_build (us := [.str cookie]) (c := .aggS [cookie]) Tryd.underlying22 inf9 rfl (by decide) (by decide) ⟨rfl, rfl, rfl, trivial⟩ rfl) trivial rfl ?_
 refine EvL.freeze (t := 43) (b := 1040) (o := 0) (n := 1) (e := 9) (L := [cookie]) (Nat.le_of_ble_eq_true rfl) rfl rfl (Nat.le_of_ble_eq_true rfl) ?_
 refine .as (.dsl [cookie]) rfl ?_
 refine .q (op_move rfl) trivial rfl ?_
 refine EvL.freezeF (t := 44) (b := 1024) (o := 0) (n := 10) (z := 1) (e := 22) (c := .agg (List.map AV.dsl [l0, l1, l2, l2, l3, l3, l4, l4, [], []])) (Nat.le_of_ble_eq_true rfl) rfl rfl (Nat.le_of_ble_eq_true rfl) (fun x hx => by obtain ⟨q, _, rfl⟩ := List.mem_map.1 (show x ∈ List.map AV.dsl _ from hx); rfl) ?_
 refine .as (.fsl (List.map AV.dsl [l0, l1, l2, l2, l3, l3, l4, l4, [], []]) 10 1) rfl ?_
 refine .q (op_move rfl) trivial rfl ?_
 refine .a (ap_build (us := [.bool b]) (c := .aggT [b]) Tryd.underlying39 inf4 rfl (by decide) (by decide) ⟨rfl, rfl, rfl, trivial⟩ rfl) trivial rfl ?_
 refine EvL.freezeF (t := 46) (b := 1048) (o := 0) (n := 1) (z := 1) (e := 4) (c := .aggT [b]) (Nat.le_of_ble_eq_true rfl) rfl rfl (Nat.le_of_ble_eq_true rfl) (fun x hx => by obtain ⟨q, _, rfl⟩ := List.mem_map.1 (show x ∈ List.map AV.bool _ from hx); rfl) ?_
 refine .as (.fsl (List.map AV.bool [b]) 1 1) rfl ?_
 refine .q (op_buildS (r := .agg [.i64 20, .fsl (List.map AV.u32 [0]) ([0]).length 1, .dsl [cookie], .fsl (List.map AV.dsl [l0, l1, l2, l2, l3, l3, l4, l4, [], []]) ([l0, l1, l2, l2, l3, l3, l4, l4, [], []]).length 1, .fsl (List.map AV.bool [b]) ([b]).length 1]) Tryd.underlying41 rfl zero41 rel_zero41 rfl rfl rfl rfl) trivial rfl ?_
 refine .w (op_storeRow (by kernel_rfl) rfl rfl rfl rfl rfl (rfl) (rfl)) trivial rfl ?_
 refine .nil ?_
 show Ev _ _ _ _ _
 refine .ret ?_
 show RetOk _ _ _ _ _ _ _
 exact retc1 rfl (.inl rfl) ⟨_, _, _, _, rfl, rfl, rfl, rfl, rfl, Tryd.underlying41, rfl, (by kernel_rfl)⟩ trivial
end Go.Proofs.YtalhfkmkmmfkcaaDoor
namespace Go.Proofs.YtalhfkmkmmfkcaaDoor
open Go.RowKit
def cntL (letters : List UInt8) : List UInt8 → Nat
  | [] => 0
  | c :: l => letters.count c + cntL letters l
theorem cntL_append (x a b : List UInt8) : cntL x (a ++ b) = cntL x a + cntL x b := by
  induction a with
  | nil => simp [cntL]
  | cons c a ih => simp [cntL, ih, Nat.add_assoc]
theorem cntL_le (x l : List UInt8) (h : x.length ≤ 10) : cntL x l ≤ 10 * l.length := by
  induction l with
  | nil => simp [cntL]
  | cons c l ih =>
    have := List.count_le_length (a := c) (l := x)
    simp only [cntL, List.length_cons]; omega
theorem cnt_step (x l : List UInt8) {j : Nat} (hj : j < l.length) : ((cntL x (l.take (j + 1)) : Nat) : Int) = ((cntL x (l.take j) : Nat) : Int) + ((x.count (l.getD j 0) : Nat) : Int) := by
  rw [List.take_add_one, List.getElem?_eq_getElem hj, cntL_append]
  simp [cntL, List.getD_eq_getElem?_getD, hj]
theorem fields_len (k : Int) : (fieldsOf k).length ≤ 100 := by
  have h : ∀ n, (kFields.getD n []).length ≤ 100 := fun n => by
    rcases Nat.lt_or_ge n 29 with hn | hn
    · exact (show ∀ n, n < 29 → (kFields.getD n []).length ≤ 100 by decide) n hn
    · rw [List.getD_eq_getElem?_getD, List.getElem?_eq_none (by exact hn)]; simp
  unfold fieldsOf
  split
  · exact h _
  · simp
theorem get_u32 {l : List UInt32} {k : Nat} (h : k < l.length) : ((l.map AV.u32).drop (k * 1))[0]? = some (.u32 (l.getD k 0)) := by
  rw [List.getElem?_drop, Nat.mul_one, Nat.add_zero, List.getElem?_map, List.getElem?_eq_getElem h]; simp [List.getD, List.getElem?_eq_getElem h]
theorem get_bool {l : List Bool} {k : Nat} (h : k < l.length) : ((l.map AV.bool).drop (k * 1))[0]? = some (.bool (l.getD k false)) := by
  rw [List.getElem?_drop, Nat.mul_one, Nat.add_zero, List.getElem?_map, List.getElem?_eq_getElem h]; simp [List.getD, List.getElem?_eq_getElem h]
theorem get_names {l : List (List (List UInt8))} {k : Nat} (h : k < l.length) : ((l.map AV.dsl).drop (k * 1))[0]? = some (.dsl (l.getD k [])) := by
  rw [List.getElem?_drop, Nat.mul_one, Nat.add_zero, List.getElem?_map, List.getElem?_eq_getElem h]; simp [List.getD, List.getElem?_eq_getElem h]
theorem all_nth {l : List (List UInt8)} (h : l.all nameOk = true) {j : Nat} (hj : j < l.length) : nameOk (l.getD j []) = true := by
  rw [show l.getD j [] = l[j] by simp [List.getD_eq_getElem?_getD, hj]]
  exact List.all_eq_true.1 h _ (List.getElem_mem hj)
theorem name_len {s : List UInt8} (h : nameOk s = true) : s.length ≤ 64 := by
  unfold nameOk at h
  simp only [Bool.and_eq_true, Bool.not_eq_true', decide_eq_false_iff_not] at h
  omega
theorem join_bounds {l : List (List UInt8)} (h : (joinB l).length ≤ 4096) : l.length ≤ 4097 ∧ sumB l ≤ 4096 := by
  rw [joinB_len] at h; omega
set_option maxRecDepth 100000 in
theorem contains_ev (s : List UInt8) (c : UInt8) : Meets Tryd.prog 33 [.str s, .str [c]] [] (.bool (decide (0 ≤ Lib.indexByte s c))) [] := by
 refine meets_of_ev (nt := 9) Tryd.func33 rfl rfl (Nat.le_of_ble_eq_true rfl) ?_
 refine .seq ?_
 refine .region ?_
 refine .q (op_assign rfl) trivial rfl ?_
 refine .nil ?_
 show Ev _ _ _ _ _
 refine .seq ?_
 refine .region ?_
 refine .q (op_move rfl) trivial rfl ?_
 refine .q (op_move rfl) trivial rfl ?_
 refine .q (op_call (U := []) [] [] (index_ev s c) Tryd.func38 (by kernel_rfl) rfl rfl rfl (⟨⟨_, rfl, rfl, rfl⟩, ⟨_, rfl, rfl, rfl⟩, trivial⟩) (trivial) (trivial) (trivial) rfl) trivial rfl ?_
 refine .q (op_cmpI rfl rfl rfl) trivial rfl ?_
 refine .q (op_assign rfl) trivial rfl ?_
 refine .nil ?_
 show Ev _ _ _ _ _
 refine .ret ?_
 show RetOk _ _ _ _ _ _ _
 exact ret1v rfl (.inl rfl) rfl (rfl) trivial
theorem slice_one {l : List UInt8} {j : Nat} (hj : j < l.length) : (l.drop j).take (j + 1 - j) = [l.getD j 0] := by
 rw [show j + 1 - j = 1 by omega, List.drop_eq_getElem_cons hj, List.take_succ_cons, List.take_zero]
 simp [List.getD_eq_getElem?_getD, hj]
set_option maxRecDepth 100000 in
theorem cnt_ev (x fields : List UInt8) (hx : x.length ≤ 10) (hf : fields.length ≤ 100) : Meets Tryd.prog 31 [.str x, .ptr 500 0] [(500, some ⟨.agg [.str fields], 9, false⟩)] (.i64 ((cntL x fields : Nat) : Int)) [] := by
 refine meets_of_ev (nt := 22) Tryd.func31 rfl rfl (Nat.le_of_ble_eq_true rfl) ?_
 refine .seq ?_
 refine .region ?_
 refine .q (op_assign rfl) trivial rfl ?_
 refine .nil ?_
 show Ev _ _ _ _ _
 refine .seq ?_
 refine .region ?_
 refine .q (op_assign rfl) trivial rfl ?_
 refine .nil ?_
 show Ev _ _ _ _ _
 refine .seq ?_
 refine .seq ?_
 refine .region ?_
 refine .q (op_load Tryd.underlying9 rfl rfl rfl rfl (by first | omega | (simp only [AV.len]; omega) | (simp only [AV.len]; omega) | assumption | (simp [AV.len]; done))) trivial rfl ?_
 refine .q (op_len_str Tryd.underlying9 rfl) trivial rfl ?_
 refine .q (op_move rfl) trivial rfl ?_
 refine .nil ?_
 show Ev _ _ _ _ _
 refine .block ?_
 refine Ev.loop (ι := { j : Nat // j ≤ fields.length }) (fun j => ⟨[(0, .str x), (1, .ptr 500 0), (4, .i64 ((cntL x (fields.take j.1) : Nat) : Int)), (7, .i64 (fields.length : Int)), (8, .i64 ((j.1 : Nat) : Int))], [(500, some ⟨.agg [.str fields], 9, false⟩)], 1000⟩) (fun j => fields.length - j.1) ⟨0, Nat.zero_le _⟩ (StLe.mk [] rfl rfl ⟨⟨_, rfl, by first | rfl | (simp only [AV.ren]; congr 1; omega), rfl⟩, ⟨_, rfl, by first | rfl | (simp only [AV.ren]; congr 1; omega), rfl⟩, ⟨_, rfl, by first | rfl | (simp only [AV.ren]; congr 1; omega), rfl⟩, ⟨_, rfl, by first | rfl | (simp only [AV.ren]; congr 1; omega), rfl⟩, ⟨_, rfl, by first | rfl | (simp only [AV.ren]; congr 1; omega), rfl⟩, trivial⟩ ⟨⟨_, _, rfl, rfl, by first | rfl | (simp only [AV.ren]; congr 1; omega), rfl, id, rfl⟩, trivial⟩) ?_
 rintro ⟨j, hj⟩
 dsimp only
 have hb1 := cntL_le x (fields.take j) hx
 have hb2 := List.length_take_le j fields
 have hb3 := List.count_le_length (a := fields.getD j 0) (l := x)
 refine .seq ?_
 refine .region ?_
 refine .q (op_cmpI rfl rfl rfl) trivial rfl ?_
 refine .nil ?_
 show Ev _ _ _ _ _
 refine .seq ?_
 refine .cond rfl (fun hc9 => ?_) (fun hc9 => ?_)
 ·simp only [decide_eq_true_eq] at hc9
  refine .skip ?_
  show Ev _ _ _ _ _
  refine .seq ?_
  refine .block ?_
  refine .seq ?_
  refine .region ?_
  refine .q (op_move rfl) trivial rfl ?_
  refine .q (op_assign rfl) trivial rfl ?_
  refine .nil ?_
  show Ev _ _ _ _ _
  refine .region ?_
  refine .q (op_move rfl) trivial rfl ?_
  refine .q (op_move rfl) trivial rfl ?_
  refine .q (op_load Tryd.underlying9 rfl rfl rfl rfl (by first | omega | (simp only [AV.len]; omega) | (simp only [AV.len]; omega) | assumption | (simp [AV.len]; done))) trivial rfl ?_
  refine .q (op_move rfl) trivial rfl ?_
  refine .q (op_move rfl) trivial rfl ?_
  refine .q (op_addI rfl rfl ⟨by omega, by omega⟩) trivial rfl ?_
  refine .q (op_slice_str Tryd.underlying9 rfl (bnd_some rfl rfl) (bnd_some rfl (show ((j : Nat) : Int) + 1 = ((j + 1 : Nat) : Int) from rfl)) (by omega) (by omega)) trivial rfl ?_
  refine .as (.str [fields.getD j 0]) (congrArg AV.str (slice_one (by omega))) ?_
  refine .q (op_call (U := []) [] [] (count_ev x (fields.getD j 0)) Tryd.func32 (by kernel_rfl) rfl rfl rfl (⟨⟨_, rfl, rfl, rfl⟩, ⟨_, rfl, rfl, rfl⟩, trivial⟩) (trivial) (trivial) (trivial) rfl) trivial rfl ?_
  refine .q (op_addI rfl rfl ⟨by omega, by omega⟩) trivial rfl ?_
  refine .q (op_assign rfl) trivial rfl ?_
  refine .nil ?_
  show Ev _ _ _ _ _
  refine .region ?_
  refine .q (op_addI rfl rfl ⟨by omega, by omega⟩) trivial rfl ?_
  refine .q (op_move rfl) trivial rfl ?_
  refine .nil ?_
  exact ⟨⟨j + 1, by omega⟩, by show fields.length - (j + 1) < fields.length - j; omega, StLe.mk [] rfl rfl ⟨⟨_, rfl, by first | rfl | (simp only [AV.ren]; congr 1; omega), rfl⟩, ⟨_, rfl, by first | rfl | (simp only [AV.ren]; congr 1; omega), rfl⟩, ⟨_, rfl, by exact congrArg AV.i64 (cnt_step _ _ (by omega)).symm, rfl⟩, ⟨_, rfl, by first | rfl | (simp only [AV.ren]; congr 1; omega), rfl⟩, ⟨_, rfl, by first | rfl | (simp only [AV.ren]; congr 1; omega), rfl⟩, trivial⟩ ⟨⟨_, _, rfl, rfl, by first | rfl | (simp only [AV.ren]; congr 1; omega), rfl, id, rfl⟩, trivial⟩⟩
 ·simp only [decide_eq_false_iff_not] at hc9
  refine .exit ?_
  show Ev _ _ _ _ _
  have ej : j = fields.length := by omega
  refine Ev.weak (st2 := ⟨[(0, .str x), (1, .ptr 500 0), (4, .i64 ((cntL x (fields.take (fields.length)) : Nat) : Int)), (7, .i64 (fields.length : Int)), (8, .i64 (((fields.length) : Nat) : Int))], [(500, some ⟨.agg [.str fields], 9, false⟩)], 1000⟩) (StLe.mk [] rfl rfl ⟨⟨_, rfl, by first | (simp only [AV.ren]; done) | (simp only [AV.ren]; rw [ej]; done) | rfl, rfl⟩, ⟨_, rfl, by first | (simp only [AV.ren]; done) | (simp only [AV.ren]; rw [ej]; done) | rfl, rfl⟩, ⟨_, rfl, by (rw [ej, List.take_length]; rfl), rfl⟩, ⟨_, rfl, by first | (simp only [AV.ren]; done) | (simp only [AV.ren]; rw [ej]; done) | rfl, rfl⟩, ⟨_, rfl, by first | (simp only [AV.ren]; done) | (simp only [AV.ren]; rw [ej]; done) | rfl, rfl⟩, trivial⟩ ⟨⟨_, _, rfl, rfl, by first | (simp only [AV.ren]; done) | (simp only [AV.ren]; rw [ej]; done) | rfl, rfl, id, rfl⟩, trivial⟩) ?_
  refine .seq ?_
  refine .region ?_
  refine .q (op_move rfl) trivial rfl ?_
  refine .q (op_assign rfl) trivial rfl ?_
  refine .nil ?_
  show Ev _ _ _ _ _
  refine .ret ?_
  show RetOk _ _ _ _ _ _ _
  exact ret1v rfl (.inl rfl) rfl (congrArg (fun l => AV.i64 ((cntL x l : Nat) : Int)) (List.take_length (l := fields))) trivial
set_option maxRecDepth 100000 in
theorem counts_f (k : Int) (us : List UInt32) (ss : List (List UInt8)) (ns : List (List (List UInt8))) (bs : List Bool) (fields : List UInt8) (hf : fields.length ≤ 100) (h1 : ((us.length : Nat) : Int) = ((cntL [117] fields : Nat) : Int)) (h2 : ((ss.length : Nat) : Int) = ((cntL [115, 99, 114] fields : Nat) : Int)) (h3 : ((ns.length : Nat) : Int) = ((cntL [110] fields : Nat) : Int)) (h4 : ((bs.length : Nat) : Int) = ((cntL [98] fields : Nat) : Int)) : Meets Tryd.prog 27 [.agg [.i64 k, .fsl (List.map AV.u32 us) (us).length 1, .dsl ss, .fsl (List.map AV.dsl ns) (ns).length 1, .fsl (List.map AV.bool bs) (bs).length 1], .str fields] [] (.bool true) [] := by
 refine meets_of_ev (nt := 37) Tryd.func27 rfl rfl (Nat.le_of_ble_eq_true rfl) ?_
 refine .seq ?_
 refine .region ?_
 refine .a (op_boxRow rfl rfl) trivial rfl ?_
 refine .a (op_boxOne rfl rfl) trivial rfl ?_
 refine .q (op_assign rfl) trivial rfl ?_
 refine .nil ?_
 show Ev _ _ _ _ _
 refine .seq ?_
 refine .region ?_
 refine .q (op_makeFunc1 rfl) trivial rfl ?_
 refine .q (op_assign rfl) trivial rfl ?_
 refine .nil ?_
 show Ev _ _ _ _ _
 refine .seq ?_
 refine .drawn [[], [0], [0, 1], [], [3], [0, 1, 2, 3, 4], [0, 1, 2, 3, 4, 5], [0, 1, 2, 3, 4, 5, 6], [0, 1, 2, 3, 4, 5, 6, 7], [0, 1, 2, 3, 4, 5, 6, 7, 8], [0, 1, 2, 3, 4, 5, 6], [0, 1, 2, 3, 4, 5, 6, 10], [0, 1, 2, 3, 4, 5, 6, 7, 8, 9, 10, 11], [0, 1, 2, 3, 4, 5, 6, 7, 8, 9, 10, 11, 12], [0, 1, 2, 3, 4, 5, 6, 7, 8, 9, 10, 11, 12, 13], [0, 1, 2, 3, 4, 5, 6, 7, 8, 9, 10, 11, 12, 13, 14], [0, 1, 2, 3, 4, 5, 6, 7, 8, 9, 10, 11, 12, 13, 14, 15], [0, 1, 2, 3, 4, 5, 6, 7, 8, 9, 10, 11, 12, 13, 14, 15, 16], [0, 1, 2, 3, 4, 5, 6, 7, 8, 9, 10, 11, 12, 13, 14], [0, 1, 2, 3, 4, 5, 6, 7, 8, 9, 10, 11, 12, 13, 14, 18], [0, 1, 2, 3, 4, 5, 6, 7, 8, 9, 10, 11, 12, 13, 14, 15, 16, 17, 18, 19], [0, 1, 2, 3, 4, 5, 6, 7, 8, 9, 10, 11, 12, 13, 14, 15, 16, 17, 18, 19, 20], [0, 1, 2, 3, 4, 5, 6, 7, 8, 9, 10, 11, 12, 13, 14, 15, 16, 17, 18, 19, 20, 21], [0, 1, 2, 3, 4, 5, 6, 7, 8, 9, 10, 11, 12, 13, 14, 15, 16, 17, 18, 19, 20, 21, 22], [0, 1, 2, 3, 4, 5, 6, 7, 8, 9, 10, 11, 12, 13, 14, 15, 16, 17, 18, 19, 20, 21, 22, 23], [0, 1, 2, 3, 4, 5, 6, 7, 8, 9, 10, 11, 12, 13, 14, 15, 16, 17, 18, 19, 20, 21, 22, 23, 24], [0, 1, 2, 3, 4, 5, 6, 7, 8, 9, 10, 11, 12, 13, 14, 15, 16, 17, 18, 19, 20, 21, 22], [0, 1, 2, 3, 4, 5, 6, 7, 8, 9, 10, 11, 12, 13, 14, 15, 16, 17, 18, 19, 20, 21, 22, 26], [0, 1, 2, 3, 4, 5, 6, 7, 8, 9, 10, 11, 12, 13, 14, 15, 16, 17, 18, 19, 20, 21, 22, 23, 24, 25, 26, 27], [0, 1, 2, 3, 4, 5, 6, 7, 8, 9, 10, 11, 12, 13, 14, 15, 16, 17, 18, 19, 20, 21, 22, 23, 24, 25, 26, 27, 28], [0, 1, 2, 3, 4, 5, 6, 7, 8, 9, 10, 11, 12, 13, 14, 15, 16, 17, 18, 19, 20, 21, 22, 23, 24, 25, 26, 27, 28, 29]] [1, 4, 8, 11, 16, 19, 24, 27] [] (by kernel_rfl) (by kernel_rfl) rfl ?_
 show DK _ [0, 1, 2, 3, 4, 5, 6, 7, 8, 9, 10, 11, 12, 13, 14, 15, 16, 17, 18, 19, 20, 21, 22, 23, 24, 25, 26, 27, 28, 29, 30] _ _ _
 refine .q rfl (op_fieldAddr (m := 0) Tryd.underlying41 rfl (by kernel_rfl) rfl) trivial ?_
 refine .as (.ptr 1000 1) rfl ?_
 refine .q rfl (op_load Tryd.underlying37 rfl rfl rfl rfl (by show 1 < 5; decide)) trivial ?_
 refine .q rfl (op_len_fsl Tryd.underlying37 rfl) trivial ?_
 refine .q rfl (op_move rfl) trivial ?_
 refine .q rfl (op_callClo (args := [.str [117]]) (args2 := [.ptr 500 0]) (U := []) [(500, 1008)] [] (cnt_ev [117] fields (by decide) hf) Tryd.func31 (by kernel_rfl) rfl rfl rfl rfl rfl rfl ⟨⟨_, rfl, rfl, rfl⟩, trivial⟩ ⟨⟨_, _, rfl, rfl, rfl, rfl, (fun h => by cases h), rfl⟩, trivial⟩ trivial ⟨(fun h => by cases h), trivial⟩ rfl) trivial ?_
 refine .q rfl (op_cmpI rfl rfl rfl) trivial ?_
 refine .q rfl (op_move rfl) trivial ?_
 refine .know (b' := true) (decide_eq_true h1) ?_
 refine .q rfl (op_fieldAddr (m := 0) Tryd.underlying41 rfl (by kernel_rfl) rfl) ⟨_, rfl, rfl⟩ ?_
 refine .as (.ptr 1000 2) rfl ?_
 refine .q rfl (op_load Tryd.underlying22 rfl rfl rfl rfl (by show 2 < 5; decide)) ⟨_, rfl, rfl⟩ ?_
 refine .q rfl (op_len_dsl Tryd.underlying22 rfl) ⟨_, rfl, rfl⟩ ?_
 refine .q rfl (op_move rfl) ⟨_, rfl, rfl⟩ ?_
 refine .q rfl (op_callClo (args := [.str [115, 99, 114]]) (args2 := [.ptr 500 0]) (U := []) [(500, 1008)] [] (cnt_ev [115, 99, 114] fields (by decide) hf) Tryd.func31 (by kernel_rfl) rfl rfl rfl rfl rfl rfl ⟨⟨_, rfl, rfl, rfl⟩, trivial⟩ ⟨⟨_, _, rfl, rfl, rfl, rfl, (fun h => by cases h), rfl⟩, trivial⟩ trivial ⟨(fun h => by cases h), trivial⟩ rfl) ⟨_, rfl, rfl⟩ ?_
 refine .q rfl (op_cmpI rfl rfl rfl) ⟨_, rfl, rfl⟩ ?_
 refine .q rfl (op_pick_true rfl rfl rfl) trivial ?_
 refine .q rfl (op_move rfl) trivial ?_
 refine .know (b' := true) (decide_eq_true h2) ?_
 refine .q rfl (op_fieldAddr (m := 0) Tryd.underlying41 rfl (by kernel_rfl) rfl) ⟨_, rfl, rfl⟩ ?_
 refine .as (.ptr 1000 3) rfl ?_
 refine .q rfl (op_load Tryd.underlying38 rfl rfl rfl rfl (by show 3 < 5; decide)) ⟨_, rfl, rfl⟩ ?_
 refine .q rfl (op_len_fsl Tryd.underlying38 rfl) ⟨_, rfl, rfl⟩ ?_
 refine .q rfl (op_move rfl) ⟨_, rfl, rfl⟩ ?_
 refine .q rfl (op_callClo (args := [.str [110]]) (args2 := [.ptr 500 0]) (U := []) [(500, 1008)] [] (cnt_ev [110] fields (by decide) hf) Tryd.func31 (by kernel_rfl) rfl rfl rfl rfl rfl rfl ⟨⟨_, rfl, rfl, rfl⟩, trivial⟩ ⟨⟨_, _, rfl, rfl, rfl, rfl, (fun h => by cases h), rfl⟩, trivial⟩ trivial ⟨(fun h => by cases h), trivial⟩ rfl) ⟨_, rfl, rfl⟩ ?_
 refine .q rfl (op_cmpI rfl rfl rfl) ⟨_, rfl, rfl⟩ ?_
 refine .q rfl (op_pick_true rfl rfl rfl) trivial ?_
 refine .q rfl (op_move rfl) trivial ?_
 refine .know (b' := true) (decide_eq_true h3) ?_
 refine .q rfl (op_fieldAddr (m := 0) Tryd.underlying41 rfl (by kernel_rfl) rfl) ⟨_, rfl, rfl⟩ ?_
 refine .as (.ptr 1000 4) rfl ?_
 refine .q rfl (op_load Tryd.underlying39 rfl rfl rfl rfl (by show 4 < 5; decide)) ⟨_, rfl, rfl⟩ ?_
 refine .q rfl (op_len_fsl Tryd.underlying39 rfl) ⟨_, rfl, rfl⟩ ?_
 refine .q rfl (op_move rfl) ⟨_, rfl, rfl⟩ ?_
 refine .q rfl (op_callClo (args := [.str [98]]) (args2 := [.ptr 500 0]) (U := []) [(500, 1008)] [] (cnt_ev [98] fields (by decide) hf) Tryd.func31 (by kernel_rfl) rfl rfl rfl rfl rfl rfl ⟨⟨_, rfl, rfl, rfl⟩, trivial⟩ ⟨⟨_, _, rfl, rfl, rfl, rfl, (fun h => by cases h), rfl⟩, trivial⟩ trivial ⟨(fun h => by cases h), trivial⟩ rfl) ⟨_, rfl, rfl⟩ ?_
 refine .q rfl (op_cmpI rfl rfl rfl) ⟨_, rfl, rfl⟩ ?_
 refine .q rfl (op_pick_true rfl rfl rfl) trivial ?_
 refine .q rfl (op_assign rfl) trivial ?_
 refine .nil ?_
 show Ev _ _ _ _ _
 refine .ret ?_
 show RetOk _ _ _ _ _ _ _
 exact ret1v rfl (.inl rfl) rfl (congrArg AV.bool (decide_eq_true h4)) trivial
set_option maxRecDepth 100000 in
theorem valid_f (k : Int) (us : List UInt32) (ss : List (List UInt8)) (ns : List (List (List UInt8))) (bs : List Bool) (fields : List UInt8) (hc0 : 0 ≤ Lib.indexByte fields 99) (hs : 0 < ss.length) (h16 : (ss.getD 0 []).length = 16) (hnl : ns.length ≤ 1000) (hna : ∀ i, (ns.getD i []).all nameOk = true) (_hsl : ss.length ≤ 1000) (_hss : ∀ i, (ss.getD i []).length ≤ 32768) (hnj : ∀ i, (joinB (ns.getD i [])).length ≤ 4096) : Meets Tryd.prog 28 [.agg [.i64 k, .fsl (List.map AV.u32 us) (us).length 1, .dsl ss, .fsl (List.map AV.dsl ns) (ns).length 1, .fsl (List.map AV.bool bs) (bs).length 1], .str fields] [] (.bool true) [] := by
 refine meets_of_ev (nt := 37) Tryd.func28 rfl rfl (Nat.le_of_ble_eq_true rfl) ?_
 refine .seq ?_
 refine .region ?_
 refine .a (op_boxRow rfl rfl) trivial rfl ?_
 refine .q (op_assign rfl) trivial rfl ?_
 refine .nil ?_
 show Ev _ _ _ _ _
 refine .seq ?_
 refine .seq ?_
 refine .region ?_
 refine .q (op_move rfl) trivial rfl ?_
 refine .q (op_call (U := []) [] [] (contains_ev fields 99) Tryd.func33 (by kernel_rfl) rfl rfl rfl (⟨⟨_, rfl, rfl, rfl⟩, ⟨_, rfl, rfl, rfl⟩, trivial⟩) (trivial) (trivial) (trivial) rfl) trivial rfl ?_
 refine .q (op_move rfl) trivial rfl ?_
 refine .know (b' := true) (decide_eq_true hc0) ?_
 refine .q (op_fieldAddr (m := 0) Tryd.underlying41 rfl (by kernel_rfl) rfl) ⟨_, rfl, rfl⟩ rfl ?_
 refine .as (.ptr 1000 2) rfl ?_
 refine .q (op_load Tryd.underlying22 rfl rfl rfl rfl (by show 2 < 5; decide)) ⟨_, rfl, rfl⟩ rfl ?_
 refine .q (op_indexAddr_dsl Tryd.underlying22 inf9.sz rfl rfl (i := 0) rfl (hs)) ⟨_, rfl, rfl⟩ rfl ?_
 refine .q (op_load_dptr Tryd.underlying9 rfl rfl (drop_get hs)) ⟨_, rfl, rfl⟩ rfl ?_
 refine .q (op_len_str Tryd.underlying9 rfl) ⟨_, rfl, rfl⟩ rfl ?_
 refine .q (op_cmpI rfl rfl rfl) ⟨_, rfl, rfl⟩ rfl ?_
 refine .q (op_pick_true rfl rfl rfl) trivial rfl ?_
 refine .nil ?_
 show Ev _ _ _ _ _
 refine .cond_false rfl (by rw [h16]; rfl) ?_
 refine .skip ?_
 show Ev _ _ _ _ _
 refine .seq ?_
 refine .seq ?_
 refine .region ?_
 refine .q (op_fieldAddr (m := 0) Tryd.underlying41 rfl (by kernel_rfl) rfl) trivial rfl ?_
 refine .as (.ptr 1000 3) rfl ?_
 refine .q (op_load Tryd.underlying38 rfl rfl rfl rfl (by show 3 < 5; decide)) trivial rfl ?_
 refine .q (op_len_fsl Tryd.underlying38 rfl) trivial rfl ?_
 refine .q (op_move rfl) trivial rfl ?_
 refine .nil ?_
 show Ev _ _ _ _ _
 refine .block ?_
 refine Ev.loop (ι := { i : Nat // i ≤ ns.length }) (fun q => ⟨[(20, .fsl (List.map AV.dsl ns) ns.length 1), (21, .i64 ((ns.length : Nat) : Int)), (22, .i64 ((q.1 : Nat) : Int))], [], 1008⟩) (fun q => ns.length - q.1) ⟨0, Nat.zero_le _⟩ (StLe.mk [] rfl rfl ⟨⟨_, rfl, by first | rfl | (simp only [AV.ren]; congr 1; omega), rfl⟩, ⟨_, rfl, by first | rfl | (simp only [AV.ren]; congr 1; omega), rfl⟩, ⟨_, rfl, by first | rfl | (simp only [AV.ren]; congr 1; omega), rfl⟩, trivial⟩ trivial) ?_
 rintro ⟨i, hi⟩
 try dsimp only
 refine .seq ?_
 refine .region ?_
 refine .q (op_cmpI rfl rfl rfl) trivial rfl ?_
 refine .nil ?_
 show Ev _ _ _ _ _
 refine .seq ?_
 refine .cond rfl (fun hc23 => ?_) (fun hc23 => ?_)
 ·simp only [decide_eq_true_eq] at hc23
  refine .skip ?_
  show Ev _ _ _ _ _
  refine .seq ?_
  refine .block ?_
  refine .seq ?_
  refine .region ?_
  refine .q (op_indexAddr_fsl (z := 1) Tryd.underlying38 inf22.sz (by decide) rfl rfl rfl (by first | omega | (simp only [AV.len]; omega) | (simp only [AV.len, List.length_set]; omega) | assumption | (simp [AV.len]; done))) trivial rfl ?_
  refine .q (op_load_fptr Tryd.underlying22 rfl rfl (get_names (by omega))) trivial rfl ?_
  refine .q (op_assign rfl) trivial rfl ?_
  refine .nil ?_
  show Ev _ _ _ _ _
  refine .seq ?_
  refine .region ?_
  refine .q (op_move rfl) trivial rfl ?_
  refine .q (op_len_dsl Tryd.underlying22 rfl) trivial rfl ?_
  refine .q (op_move rfl) trivial rfl ?_
  refine .nil ?_
  show Ev _ _ _ _ _
  refine .block ?_
  refine Ev.loop (ι := { j : Nat // j ≤ (ns.getD i []).length }) (fun q => ⟨[(20, .fsl (List.map AV.dsl ns) ns.length 1), (21, .i64 ((ns.length : Nat) : Int)), (22, .i64 ((i : Nat) : Int)), (26, .dsl (ns.getD i [])), (27, .i64 (((ns.getD i []).length : Nat) : Int)), (28, .i64 ((q.1 : Nat) : Int))], [], 1008⟩) (fun q => (ns.getD i []).length - q.1) ⟨0, Nat.zero_le _⟩ (StLe.mk [] rfl rfl ⟨⟨_, rfl, by first | rfl | (simp only [AV.ren]; congr 1; omega), rfl⟩, ⟨_, rfl, by first | rfl | (simp only [AV.ren]; congr 1; omega), rfl⟩, ⟨_, rfl, by first | rfl | (simp only [AV.ren]; congr 1; omega), rfl⟩, ⟨_, rfl, by first | rfl | (simp only [AV.ren]; congr 1; omega), rfl⟩, ⟨_, rfl, by first | rfl | (simp only [AV.ren]; congr 1; omega), rfl⟩, ⟨_, rfl, by first | rfl | (simp only [AV.ren]; congr 1; omega), rfl⟩, trivial⟩ trivial) ?_
  rintro ⟨j, hj⟩
  try dsimp only
  refine .seq ?_
  refine .region ?_
  refine .q (op_cmpI rfl rfl rfl) trivial rfl ?_
  refine .nil ?_
  show Ev _ _ _ _ _
  refine .seq ?_
  refine .cond rfl (fun hc29 => ?_) (fun hc29 => ?_)
  ·simp only [decide_eq_true_eq] at hc29
   refine .skip ?_
   show Ev _ _ _ _ _
   refine .seq ?_
   refine .block ?_
   refine .seq ?_
   refine .region ?_
   have hlt : j < (ns.getD i []).length := by omega
   refine .q (op_indexAddr_dsl Tryd.underlying22 inf9.sz rfl rfl rfl (by first | omega | (simp only [AV.len]; omega) | (simp only [AV.len, List.length_set]; omega) | assumption | (simp [AV.len]; done))) trivial rfl ?_
   refine .q (op_load_dptr Tryd.underlying9 rfl rfl (drop_get (by omega))) trivial rfl ?_
   refine .q (op_assign rfl) trivial rfl ?_
   refine .nil ?_
   show Ev _ _ _ _ _
   refine .seq ?_
   refine .region ?_
   refine .q (op_move rfl) trivial rfl ?_
   refine .q (op_call (U := []) [] [] (wname_ev ((ns.getD i []).getD j []) (Nat.le_trans (name_len (all_nth (hna i) hlt)) (by decide))) Tryd.func34 (by kernel_rfl) rfl rfl rfl (⟨⟨_, rfl, rfl, rfl⟩, trivial⟩) (trivial) (trivial) (trivial) rfl) trivial rfl ?_
   refine .q (op_notB rfl) trivial rfl ?_
   refine .nil ?_
   show Ev _ _ _ _ _
   refine .cond_false rfl (by rw [all_nth (hna i) hlt]; rfl) ?_
   refine .skip ?_
   show Ev _ _ _ _ _
   refine .region ?_
   refine .q (op_addI rfl rfl ⟨by have := (join_bounds (hnj i)).1; omega, by have := (join_bounds (hnj i)).1; omega⟩) trivial rfl ?_
   refine .q (op_move rfl) trivial rfl ?_
   refine .nil ?_
   exact ⟨⟨j + 1, by omega⟩, by (try dsimp only); omega, StLe.mk [] rfl rfl ⟨⟨_, rfl, by first | rfl | (simp only [AV.ren]; congr 1; omega), rfl⟩, ⟨_, rfl, by first | rfl | (simp only [AV.ren]; congr 1; omega), rfl⟩, ⟨_, rfl, by first | rfl | (simp only [AV.ren]; congr 1; omega), rfl⟩, ⟨_, rfl, by first | rfl | (simp only [AV.ren]; congr 1; omega), rfl⟩, ⟨_, rfl, by first | rfl | (simp only [AV.ren]; congr 1; omega), rfl⟩, ⟨_, rfl, by first | rfl | (simp only [AV.ren]; congr 1; omega), rfl⟩, trivial⟩ trivial⟩
  ·simp only [decide_eq_false_iff_not] at hc29
   refine .exit ?_
   show Ev _ _ _ _ _
   refine .region ?_
   refine .q (op_addI rfl rfl ⟨by omega, by omega⟩) trivial rfl ?_
   refine .q (op_move rfl) trivial rfl ?_
   refine .nil ?_
   exact ⟨⟨i + 1, by omega⟩, by (try dsimp only); omega, StLe.mk [] rfl rfl ⟨⟨_, rfl, by first | rfl | (simp only [AV.ren]; congr 1; omega), rfl⟩, ⟨_, rfl, by first | rfl | (simp only [AV.ren]; congr 1; omega), rfl⟩, ⟨_, rfl, by first | rfl | (simp only [AV.ren]; congr 1; omega), rfl⟩, trivial⟩ trivial⟩
 ·simp only [decide_eq_false_iff_not] at hc23
  refine .exit ?_
  show Ev _ _ _ _ _
  refine .seq ?_
  refine .region ?_
  refine .q (op_assign rfl) trivial rfl ?_
  refine .nil ?_
  show Ev _ _ _ _ _
  refine .ret ?_
  show RetOk _ _ _ _ _ _ _
  exact ret1v rfl (.inl rfl) rfl (rfl) trivial
set_option maxRecDepth 100000 in
theorem toolong_f (k : Int) (us : List UInt32) (ss : List (List UInt8)) (ns : List (List (List UInt8))) (bs : List Bool) (hnl : ns.length ≤ 1000) (hsl : ss.length ≤ 1000) (hss : ∀ i, (ss.getD i []).length ≤ 32768) (hnj : ∀ i, (joinB (ns.getD i [])).length ≤ 4096) : Meets Tryd.prog 29 [.agg [.i64 k, .fsl (List.map AV.u32 us) (us).length 1, .dsl ss, .fsl (List.map AV.dsl ns) (ns).length 1, .fsl (List.map AV.bool bs) (bs).length 1]] [] (.bool false) [] := by
 refine meets_of_ev (nt := 30) Tryd.func29 rfl rfl (Nat.le_of_ble_eq_true rfl) ?_
 refine .seq ?_
 refine .region ?_
 refine .a (op_boxRow rfl rfl) trivial rfl ?_
 refine .q (op_assign rfl) trivial rfl ?_
 refine .nil ?_
 show Ev _ _ _ _ _
 refine .seq ?_
 refine .seq ?_
 refine .region ?_
 refine .q (op_fieldAddr (m := 0) Tryd.underlying41 rfl (by kernel_rfl) rfl) trivial rfl ?_
 refine .as (.ptr 1000 2) rfl ?_
 refine .q (op_load Tryd.underlying22 rfl rfl rfl rfl (by show 2 < 5; decide)) trivial rfl ?_
 refine .q (op_len_dsl Tryd.underlying22 rfl) trivial rfl ?_
 refine .q (op_move rfl) trivial rfl ?_
 refine .nil ?_
 show Ev _ _ _ _ _
 refine .block ?_
 refine Ev.loop (ι := { i : Nat // i ≤ ss.length }) (fun q => ⟨[(1, .ptr 1000 0), (8, .dsl ss), (9, .i64 ((ss.length : Nat) : Int)), (10, .i64 ((q.1 : Nat) : Int))], [(1000, some ⟨.agg [.i64 k, .fsl (List.map AV.u32 us) (us).length 1, .dsl ss, .fsl (List.map AV.dsl ns) (ns).length 1, .fsl (List.map AV.bool bs) (bs).length 1], 41, true⟩)], 1008⟩) (fun q => ss.length - q.1) ⟨0, Nat.zero_le _⟩ (StLe.mk [(1000, 1000)] rfl rfl ⟨⟨_, rfl, by first | rfl | (simp only [AV.ren]; congr 1; omega), rfl⟩, ⟨_, rfl, by first | rfl | (simp only [AV.ren]; congr 1; omega), rfl⟩, ⟨_, rfl, by first | rfl | (simp only [AV.ren]; congr 1; omega), rfl⟩, ⟨_, rfl, by first | rfl | (simp only [AV.ren]; congr 1; omega), rfl⟩, trivial⟩ ⟨⟨_, _, rfl, rfl, rfl, rfl, id, rfl⟩, trivial⟩) ?_
 rintro ⟨i, hi⟩
 try dsimp only
 refine .seq ?_
 refine .region ?_
 refine .q (op_cmpI rfl rfl rfl) trivial rfl ?_
 refine .nil ?_
 show Ev _ _ _ _ _
 refine .seq ?_
 refine .cond rfl (fun hc11 => ?_) (fun hc11 => ?_)
 ·simp only [decide_eq_true_eq] at hc11
  refine .skip ?_
  show Ev _ _ _ _ _
  refine .seq ?_
  refine .block ?_
  refine .seq ?_
  refine .region ?_
  refine .q (op_indexAddr_dsl Tryd.underlying22 inf9.sz rfl rfl rfl (by first | omega | (simp only [AV.len]; omega) | (simp only [AV.len, List.length_set]; omega) | assumption | (simp [AV.len]; done))) trivial rfl ?_
  refine .q (op_load_dptr Tryd.underlying9 rfl rfl (drop_get (by omega))) trivial rfl ?_
  refine .q (op_assign rfl) trivial rfl ?_
  refine .nil ?_
  show Ev _ _ _ _ _
  refine .seq ?_
  refine .region ?_
  refine .q (op_move rfl) trivial rfl ?_
  refine .q (op_len_str Tryd.underlying9 rfl) trivial rfl ?_
  refine .q (op_cmpI rfl rfl rfl) trivial rfl ?_
  refine .nil ?_
  show Ev _ _ _ _ _
  refine .cond_false rfl (decide_eq_false (by have := hss i; omega)) ?_
  refine .skip ?_
  show Ev _ _ _ _ _
  refine .region ?_
  refine .q (op_addI rfl rfl ⟨by omega, by omega⟩) trivial rfl ?_
  refine .q (op_move rfl) trivial rfl ?_
  refine .nil ?_
  exact ⟨⟨i + 1, by omega⟩, by (try dsimp only); omega, StLe.mk [(1000, 1000)] rfl rfl ⟨⟨_, rfl, by first | rfl | (simp only [AV.ren]; congr 1; omega), rfl⟩, ⟨_, rfl, by first | rfl | (simp only [AV.ren]; congr 1; omega), rfl⟩, ⟨_, rfl, by first | rfl | (simp only [AV.ren]; congr 1; omega), rfl⟩, ⟨_, rfl, by first | rfl | (simp only [AV.ren]; congr 1; omega), rfl⟩, trivial⟩ ⟨⟨_, _, rfl, rfl, rfl, rfl, id, rfl⟩, trivial⟩⟩
 ·simp only [decide_eq_false_iff_not] at hc11
  refine .exit ?_
  show Ev _ _ _ _ _
  refine .seq ?_
  refine .seq ?_
  refine .region ?_
  refine .q (op_fieldAddr (m := 0) Tryd.underlying41 rfl (by kernel_rfl) rfl) trivial rfl ?_
  refine .as (.ptr 1000 3) rfl ?_
  refine .q (op_load Tryd.underlying38 rfl rfl rfl rfl (by show 3 < 5; decide)) trivial rfl ?_
  refine .q (op_len_fsl Tryd.underlying38 rfl) trivial rfl ?_
  refine .q (op_move rfl) trivial rfl ?_
  refine .nil ?_
  show Ev _ _ _ _ _
  refine .block ?_
  refine Ev.loop (ι := { i : Nat // i ≤ ns.length }) (fun q => ⟨[(19, .fsl (List.map AV.dsl ns) ns.length 1), (20, .i64 ((ns.length : Nat) : Int)), (21, .i64 ((q.1 : Nat) : Int))], [], 1008⟩) (fun q => ns.length - q.1) ⟨0, Nat.zero_le _⟩ (StLe.mk [] rfl rfl ⟨⟨_, rfl, by first | rfl | (simp only [AV.ren]; congr 1; omega), rfl⟩, ⟨_, rfl, by first | rfl | (simp only [AV.ren]; congr 1; omega), rfl⟩, ⟨_, rfl, by first | rfl | (simp only [AV.ren]; congr 1; omega), rfl⟩, trivial⟩ trivial) ?_
  rintro ⟨i, hi⟩
  try dsimp only
  refine .seq ?_
  refine .region ?_
  refine .q (op_cmpI rfl rfl rfl) trivial rfl ?_
  refine .nil ?_
  show Ev _ _ _ _ _
  refine .seq ?_
  refine .cond rfl (fun hc22 => ?_) (fun hc22 => ?_)
  ·simp only [decide_eq_true_eq] at hc22
   refine .skip ?_
   show Ev _ _ _ _ _
   refine .seq ?_
   refine .block ?_
   refine .seq ?_
   refine .region ?_
   refine .q (op_indexAddr_fsl (z := 1) Tryd.underlying38 inf22.sz (by decide) rfl rfl rfl (by first | omega | (simp only [AV.len]; omega) | (simp only [AV.len, List.length_set]; omega) | assumption | (simp [AV.len]; done))) trivial rfl ?_
   refine .q (op_load_fptr Tryd.underlying22 rfl rfl (get_names (by omega))) trivial rfl ?_
   refine .q (op_assign rfl) trivial rfl ?_
   refine .nil ?_
   show Ev _ _ _ _ _
   refine .seq ?_
   refine .region ?_
   refine .q (op_move rfl) trivial rfl ?_
   refine .q (op_call (U := []) [] [] (join_ev (ns.getD i []) (by have := (join_bounds (hnj i)).1; omega) (by have := (join_bounds (hnj i)).2; omega)) Tryd.func35 (by kernel_rfl) rfl rfl rfl (⟨⟨_, rfl, rfl, rfl⟩, ⟨_, rfl, rfl, rfl⟩, trivial⟩) (trivial) (trivial) (trivial) rfl) trivial rfl ?_
   refine .q (op_len_str Tryd.underlying9 rfl) trivial rfl ?_
   refine .q (op_cmpI rfl rfl rfl) trivial rfl ?_
   refine .nil ?_
   show Ev _ _ _ _ _
   refine .cond_false rfl (decide_eq_false (by have := hnj i; omega)) ?_
   refine .skip ?_
   show Ev _ _ _ _ _
   refine .region ?_
   refine .q (op_addI rfl rfl ⟨by omega, by omega⟩) trivial rfl ?_
   refine .q (op_move rfl) trivial rfl ?_
   refine .nil ?_
   exact ⟨⟨i + 1, by omega⟩, by (try dsimp only); omega, StLe.mk [] rfl rfl ⟨⟨_, rfl, by first | rfl | (simp only [AV.ren]; congr 1; omega), rfl⟩, ⟨_, rfl, by first | rfl | (simp only [AV.ren]; congr 1; omega), rfl⟩, ⟨_, rfl, by first | rfl | (simp only [AV.ren]; congr 1; omega), rfl⟩, trivial⟩ trivial⟩
  ·simp only [decide_eq_false_iff_not] at hc22
   refine .exit ?_
   show Ev _ _ _ _ _
   refine .seq ?_
   refine .region ?_
   refine .q (op_assign rfl) trivial rfl ?_
   refine .nil ?_
   show Ev _ _ _ _ _
   refine .ret ?_
   show RetOk _ _ _ _ _ _ _
   exact ret1v rfl (.inl rfl) rfl (rfl) trivial
set_option maxRecDepth 100000 in
theorem check_f (k : Int) (us : List UInt32) (ss : List (List UInt8)) (ns : List (List (List UInt8))) (bs : List Bool) (hk : isKind k = true) (hc0 : 0 ≤ Lib.indexByte (fieldsOf k) 99) (h1 : ((us.length : Nat) : Int) = ((cntL [117] (fieldsOf k) : Nat) : Int)) (h2 : ((ss.length : Nat) : Int) = ((cntL [115, 99, 114] (fieldsOf k) : Nat) : Int)) (h3 : ((ns.length : Nat) : Int) = ((cntL [110] (fieldsOf k) : Nat) : Int)) (h4 : ((bs.length : Nat) : Int) = ((cntL [98] (fieldsOf k) : Nat) : Int)) (hs : 0 < ss.length) (h16 : (ss.getD 0 []).length = 16) (hnl : ns.length ≤ 1000) (hna : ∀ i, (ns.getD i []).all nameOk = true) (hsl : ss.length ≤ 1000) (hss : ∀ i, (ss.getD i []).length ≤ 32768) (hnj : ∀ i, (joinB (ns.getD i [])).length ≤ 4096) : Meets Tryd.prog 24 [.agg [.i64 k, .fsl (List.map AV.u32 us) (us).length 1, .dsl ss, .fsl (List.map AV.dsl ns) (ns).length 1, .fsl (List.map AV.bool bs) (bs).length 1]] [(21, some ⟨.agg kindCells, errT, false⟩)] (.val .nilIface) [] := by
 refine meets_of_ev (nt := 28) Tryd.func24 rfl rfl (Nat.le_of_ble_eq_true rfl) ?_
 refine .seq ?_
 refine .region ?_
 refine .a (op_boxRow rfl rfl) trivial rfl ?_
 refine .q (op_assign rfl) trivial rfl ?_
 refine .nil ?_
 show Ev _ _ _ _ _
 refine .seq ?_
 refine .region ?_
 refine .q (op_fieldAddr (m := 0) Tryd.underlying41 rfl (by kernel_rfl) rfl) trivial rfl ?_
 refine .as (.ptr 1000 0) rfl ?_
 refine .q (op_load Tryd.underlying3 rfl rfl rfl rfl (by show 0 < 5; decide)) trivial rfl ?_
 refine .q (op_call (U := []) [] [] (fields_ev k) Tryd.func26 (by kernel_rfl) rfl rfl rfl (⟨⟨_, rfl, rfl, rfl⟩, trivial⟩) (⟨⟨_, _, rfl, rfl, rfl, rfl, (fun h => by cases h), rfl⟩, trivial⟩) (trivial) (⟨(fun h => by cases h), trivial⟩) rfl) trivial rfl ?_
 refine .q (op_move rfl) trivial rfl ?_
 refine .q (op_extract rfl rfl) trivial rfl ?_
 refine .q (op_extract rfl rfl) trivial rfl ?_
 refine .q (op_assign rfl) trivial rfl ?_
 refine .q (op_assign rfl) trivial rfl ?_
 refine .nil ?_
 show Ev _ _ _ _ _
 refine .seq ?_
 refine .seq ?_
 refine .region ?_
 refine .q (op_move rfl) trivial rfl ?_
 refine .q (op_notB rfl) trivial rfl ?_
 refine .nil ?_
 show Ev _ _ _ _ _
 refine .cond_false rfl (by rw [hk]; rfl) ?_
 refine .skip ?_
 show Ev _ _ _ _ _
 refine .seq ?_
 refine .seq ?_
 refine .region ?_
 refine .q (op_loadRow Tryd.underlying41 rfl (by kernel_rfl) rfl rfl rfl (rfl)) trivial rfl ?_
 refine .q (op_move rfl) trivial rfl ?_
 refine .q (op_call (U := []) [] [] (counts_f k us ss ns bs (fieldsOf k) (fields_len k) h1 h2 h3 h4) Tryd.func27 (by kernel_rfl) rfl rfl rfl (⟨⟨_, rfl, rfl, rfl⟩, ⟨_, rfl, rfl, rfl⟩, trivial⟩) (trivial) (trivial) (trivial) rfl) trivial rfl ?_
 refine .q (op_notB rfl) trivial rfl ?_
 refine .q (op_move rfl) trivial rfl ?_
 refine .know (b' := false) (rfl) ?_
 refine .q (op_loadRow Tryd.underlying41 rfl (by kernel_rfl) rfl rfl rfl (rfl)) ⟨_, rfl, rfl⟩ rfl ?_
 refine .q (op_move rfl) ⟨_, rfl, rfl⟩ rfl ?_
 refine .q (op_call (U := []) [] [] (valid_f k us ss ns bs (fieldsOf k) hc0 hs h16 hnl hna hsl hss hnj) Tryd.func28 (by kernel_rfl) rfl rfl rfl (⟨⟨_, rfl, rfl, rfl⟩, ⟨_, rfl, rfl, rfl⟩, trivial⟩) (trivial) (trivial) (trivial) rfl) ⟨_, rfl, rfl⟩ rfl ?_
 refine .q (op_notB rfl) ⟨_, rfl, rfl⟩ rfl ?_
 refine .q (op_pick_false rfl rfl rfl) trivial rfl ?_
 refine .nil ?_
 show Ev _ _ _ _ _
 refine .cond_false rfl (rfl) ?_
 refine .skip ?_
 show Ev _ _ _ _ _
 refine .seq ?_
 refine .seq ?_
 refine .region ?_
 refine .q (op_loadRow Tryd.underlying41 rfl (by kernel_rfl) rfl rfl rfl (rfl)) trivial rfl ?_
 refine .q (op_call (U := []) [] [] (toolong_f k us ss ns bs hnl hsl hss hnj) Tryd.func29 (by kernel_rfl) rfl rfl rfl (⟨⟨_, rfl, rfl, rfl⟩, trivial⟩) (trivial) (trivial) (trivial) rfl) trivial rfl ?_
 refine .nil ?_
 show Ev _ _ _ _ _
 refine .cond_false rfl (rfl) ?_
 refine .skip ?_
 show Ev _ _ _ _ _
 refine .seq ?_
 refine .region ?_
 refine .q (op_assign rfl) trivial rfl ?_
 refine .nil ?_
 show Ev _ _ _ _ _
 refine .ret ?_
 show RetOk _ _ _ _ _ _ _
 exact ret1v rfl (.inl rfl) rfl (rfl) trivial
set_option maxRecDepth 100000 in
theorem isOffer_f (us : List UInt32) (ss : List (List UInt8)) (ns : List (List (List UInt8))) (bs : List Bool) (h1 : ((us.length : Nat) : Int) = ((cntL [117] (fieldsOf 20) : Nat) : Int)) (h2 : ((ss.length : Nat) : Int) = ((cntL [115, 99, 114] (fieldsOf 20) : Nat) : Int)) (h3 : ((ns.length : Nat) : Int) = ((cntL [110] (fieldsOf 20) : Nat) : Int)) (h4 : ((bs.length : Nat) : Int) = ((cntL [98] (fieldsOf 20) : Nat) : Int)) (hs : 0 < ss.length) (h16 : (ss.getD 0 []).length = 16) (hnl : ns.length ≤ 1000) (hna : ∀ i, (ns.getD i []).all nameOk = true) (hsl : ss.length ≤ 1000) (hss : ∀ i, (ss.getD i []).length ≤ 32768) (hnj : ∀ i, (joinB (ns.getD i [])).length ≤ 4096) : Meets Tryd.prog 18 [.agg [.i64 20, .fsl (List.map AV.u32 us) (us).length 1, .dsl ss, .fsl (List.map AV.dsl ns) (ns).length 1, .fsl (List.map AV.bool bs) (bs).length 1]] [(21, some ⟨.agg kindCells, errT, false⟩)] (.bool true) [] := by
 refine meets_of_ev (nt := 11) Tryd.func18 rfl rfl (Nat.le_of_ble_eq_true rfl) ?_
 refine .seq ?_
 refine .region ?_
 refine .a (op_boxRow rfl rfl) trivial rfl ?_
 refine .q (op_assign rfl) trivial rfl ?_
 refine .nil ?_
 show Ev _ _ _ _ _
 refine .seq ?_
 refine .region ?_
 refine .q (op_fieldAddr (m := 0) Tryd.underlying41 rfl (by kernel_rfl) rfl) trivial rfl ?_
 refine .as (.ptr 1000 0) rfl ?_
 refine .q (op_load Tryd.underlying3 rfl rfl rfl rfl (by show 0 < 5; decide)) trivial rfl ?_
 refine .q (op_cmpI rfl rfl rfl) trivial rfl ?_
 refine .q (op_move rfl) trivial rfl ?_
 refine .know (b' := true) (rfl) ?_
 refine .q (op_loadRow Tryd.underlying41 rfl (by kernel_rfl) rfl rfl rfl (rfl)) ⟨_, rfl, rfl⟩ rfl ?_
 refine .q (op_call (U := []) [] [] (check_f 20 us ss ns bs rfl (by decide) h1 h2 h3 h4 hs h16 hnl hna hsl hss hnj) Tryd.func24 (by kernel_rfl) rfl rfl rfl (⟨⟨_, rfl, rfl, rfl⟩, trivial⟩) (⟨⟨_, _, rfl, rfl, rfl, rfl, (fun h => by cases h), rfl⟩, trivial⟩) (trivial) (⟨(fun h => by cases h), trivial⟩) rfl) ⟨_, rfl, rfl⟩ rfl ?_
 refine .q (op_eqNilNil Tryd.underlying25 rfl rfl) ⟨_, rfl, rfl⟩ rfl ?_
 refine .q (op_pick_true rfl rfl rfl) trivial rfl ?_
 refine .q (op_assign rfl) trivial rfl ?_
 refine .nil ?_
 show Ev _ _ _ _ _
 refine .ret ?_
 show RetOk _ _ _ _ _ _ _
 exact ret1v rfl (.inl rfl) rfl (rfl) trivial
end Go.Proofs.YtalhfkmkmmfkcaaDoor
