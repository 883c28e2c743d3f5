/-
  Texts of this claim.
-/
import Derived.Test.YtdmlpblaelfdmaaGreatDoorGOG
import Derived.Test.YtdmlpblaelfdmaaGreatDoorGOF
import Derived.Test.YtdmlpblaelfdmaaGreatDoorGU
namespace Go.Proofs.YtdmlpblaelfdmaaGreatDoor
open Go.RowKit
theorem two_ne14 (a b : List UInt8) (ha : a.length = 32) (hb : b.length = 32) (v w : Nat) (hv : v = tmV (usL a) (ofV (bsN (tmV (usL b) 9) 32))) (hw : w = tmV (usL b) (ofV (bsN (tmV (usL a) 9) 32))) : v = w ∧ v ≠ 0 ∧ w ≠ 0 := by
  rw [of_bytes _ (tmV_lt _ _)] at hv hw
  obtain ⟨h1, h2⟩ := two_same a b ha hb
  obtain ⟨_, h3⟩ := two_same b a hb ha
  exact ⟨by rw [hv, hw, h1], by rw [hv]; exact h2, by rw [hw]; exact h3⟩
set_option maxHeartbeats 4000000 in
set_option maxRecDepth 100000 in
theorem kexTwo_ev (e ek ty : Nat) (a b : List UInt8) (l0 l1 i0 i1 h p0 p1 sec : List UInt8) (ha : a.length = 32) (hb : b.length = 32) (hl0 : l0.length ≤ maxLen) (hl1 : l1.length ≤ maxLen) (hi0 : i0.length ≤ maxLen) (hi1 : i1.length ≤ maxLen) (hh : h.length ≤ maxLen) (eo : Nat → Nat × Nat) (hd : ∀ i j, i < 20 → j < 20 → i ≠ j → eo i ≠ eo j) : Meets Tryz.prog 9 [.aggB a, .aggB b, exC l0 l1 i0 i1 h p0 p1 sec] [(23, some ⟨.agg64 primeL, e, false⟩), (21, some ⟨.agg32 K256, ek, false⟩), (20, some ⟨hndE, ty, false⟩), (2, some ⟨.agg [.err 269 (1) (offE eo (1))], errT, false⟩), (0, some ⟨.agg [.err 269 (2) (offE eo (2))], errT, false⟩), (3, some ⟨.agg [.err 269 (3) (offE eo (3))], errT, false⟩), (1, some ⟨.agg [.err 269 (4) (offE eo (4))], errT, false⟩), (4, some ⟨.agg [.err 269 (5) (offE eo (5))], errT, false⟩), (5, some ⟨.agg [.err 269 (6) (offE eo (6))], errT, false⟩), (6, some ⟨.agg [.err 269 (7) (offE eo (7))], errT, false⟩), (7, some ⟨.agg [.err 269 (8) (offE eo (8))], errT, false⟩), (8, some ⟨.agg [.err 269 (9) (offE eo (9))], errT, false⟩), (9, some ⟨.agg [.err 269 (10) (offE eo (10))], errT, false⟩), (10, some ⟨.agg [.err 269 (11) (offE eo (11))], errT, false⟩), (11, some ⟨.agg [.err 269 (12) (offE eo (12))], errT, false⟩), (12, some ⟨.agg [.err 269 (13) (offE eo (13))], errT, false⟩), (13, some ⟨.agg [.err 269 (14) (offE eo (14))], errT, false⟩), (14, some ⟨.agg [.err 269 (15) (offE eo (15))], errT, false⟩), (15, some ⟨.agg [.err 269 (16) (offE eo (16))], errT, false⟩), (16, some ⟨.agg [.err 269 (17) (offE eo (17))], errT, false⟩), (17, some ⟨.agg [.err 269 (18) (offE eo (18))], errT, false⟩), (18, some ⟨.agg [.err 269 (19) (offE eo (19))], errT, false⟩), (19, some ⟨.agg [.err 269 (20) (offE eo (20))], errT, false⟩), (401, some ⟨.agg [], errT, false⟩), (402, some ⟨.agg [], errT, false⟩), (403, some ⟨.agg [], errT, false⟩), (404, some ⟨.agg [], errT, false⟩), (405, some ⟨.agg [], errT, false⟩), (406, some ⟨.agg [], errT, false⟩), (407, some ⟨.agg [], errT, false⟩), (408, some ⟨.agg [], errT, false⟩), (409, some ⟨.agg [], errT, false⟩), (410, some ⟨.agg [], errT, false⟩), (411, some ⟨.agg [], errT, false⟩), (412, some ⟨.agg [], errT, false⟩), (413, some ⟨.agg [], errT, false⟩), (414, some ⟨.agg [], errT, false⟩), (415, some ⟨.agg [], errT, false⟩), (416, some ⟨.agg [], errT, false⟩), (417, some ⟨.agg [], errT, false⟩), (418, some ⟨.agg [], errT, false⟩), (419, some ⟨.agg [], errT, false⟩), (420, some ⟨.agg [], errT, false⟩)] (.bool true) [] := by
 obtain ⟨A, hA⟩ : ∃ A, (bsN (tmV (usL a) 9) 32) = A := ⟨_, rfl⟩
 obtain ⟨B, hB⟩ : ∃ B, (bsN (tmV (usL b) 9) 32) = B := ⟨_, rfl⟩
 have hAl : A.length = 32 := by rw [← hA]; exact length_bsN _ _
 have hBl : B.length = 32 := by rw [← hB]; exact length_bsN _ _
 obtain ⟨v, hv⟩ : ∃ v, v = tmV (usL a) (ofV B) := ⟨_, rfl⟩
 obtain ⟨hvw, hv0, _⟩ := two_ne14 a b ha hb v (tmV (usL b) (ofV A)) (by rw [hv, hB]) (by rw [hA])
 have hw : v = tmV (usL b) (ofV A) := hvw
 obtain ⟨S, hS⟩ : ∃ S, bsN v 32 = S := ⟨_, rfl⟩
 have hSl : S.length = 32 := by rw [← hS]; exact length_bsN _ _
 refine meets_of_ev (nt := 76) Tryz.func9 rfl rfl (Nat.le_of_ble_eq_true rfl) ?_
 refine .seq ?_
 refine .region ?_
 refine .a (op_boxRow rfl rfl) trivial rfl ?_
 refine .a (op_boxRow rfl rfl) trivial rfl ?_
 refine .a (op_boxRow rfl rfl) trivial rfl ?_
 refine .q (op_assign rfl) trivial rfl ?_
 refine .nil ?_
 show Ev _ _ _ _ _
 refine .seq ?_
 refine .seq ?_
 refine .region ?_
 refine .q (op_call (U := []) [] [] (awake14_ev e ek ty eo hd) Tryz.func24 (by kernel_rfl) rfl rfl rfl (trivial) (⟨⟨_, _, rfl, rfl, rfl, rfl, (fun h => by cases h), rfl⟩, ⟨_, _, rfl, rfl, rfl, rfl, (fun h => by cases h), rfl⟩, ⟨_, _, rfl, rfl, rfl, rfl, (fun h => by cases h), rfl⟩, ⟨_, _, rfl, rfl, rfl, rfl, (fun h => by cases h), rfl⟩, ⟨_, _, rfl, rfl, rfl, rfl, (fun h => by cases h), rfl⟩, ⟨_, _, rfl, rfl, rfl, rfl, (fun h => by cases h), rfl⟩, ⟨_, _, rfl, rfl, rfl, rfl, (fun h => by cases h), rfl⟩, ⟨_, _, rfl, rfl, rfl, rfl, (fun h => by cases h), rfl⟩, ⟨_, _, rfl, rfl, rfl, rfl, (fun h => by cases h), rfl⟩, ⟨_, _, rfl, rfl, rfl, rfl, (fun h => by cases h), rfl⟩, ⟨_, _, rfl, rfl, rfl, rfl, (fun h => by cases h), rfl⟩, ⟨_, _, rfl, rfl, rfl, rfl, (fun h => by cases h), rfl⟩, ⟨_, _, rfl, rfl, rfl, rfl, (fun h => by cases h), rfl⟩, ⟨_, _, rfl, rfl, rfl, rfl, (fun h => by cases h), rfl⟩, ⟨_, _, rfl, rfl, rfl, rfl, (fun h => by cases h), rfl⟩, ⟨_, _, rfl, rfl, rfl, rfl, (fun h => by cases h), rfl⟩, ⟨_, _, rfl, rfl, rfl, rfl, (fun h => by cases h), rfl⟩, ⟨_, _, rfl, rfl, rfl, rfl, (fun h => by cases h), rfl⟩, ⟨_, _, rfl, rfl, rfl, rfl, (fun h => by cases h), rfl⟩, ⟨_, _, rfl, rfl, rfl, rfl, (fun h => by cases h), rfl⟩, ⟨_, _, rfl, rfl, rfl, rfl, (fun h => by cases h), rfl⟩, ⟨_, _, rfl, rfl, rfl, rfl, (fun h => by cases h), rfl⟩, ⟨_, _, rfl, rfl, rfl, rfl, (fun h => by cases h), rfl⟩, ⟨_, _, rfl, rfl, rfl, rfl, (fun h => by cases h), rfl⟩, ⟨_, _, rfl, rfl, rfl, rfl, (fun h => by cases h), rfl⟩, ⟨_, _, rfl, rfl, rfl, rfl, (fun h => by cases h), rfl⟩, ⟨_, _, rfl, rfl, rfl, rfl, (fun h => by cases h), rfl⟩, ⟨_, _, rfl, rfl, rfl, rfl, (fun h => by cases h), rfl⟩, ⟨_, _, rfl, rfl, rfl, rfl, (fun h => by cases h), rfl⟩, ⟨_, _, rfl, rfl, rfl, rfl, (fun h => by cases h), rfl⟩, ⟨_, _, rfl, rfl, rfl, rfl, (fun h => by cases h), rfl⟩, ⟨_, _, rfl, rfl, rfl, rfl, (fun h => by cases h), rfl⟩, ⟨_, _, rfl, rfl, rfl, rfl, (fun h => by cases h), rfl⟩, ⟨_, _, rfl, rfl, rfl, rfl, (fun h => by cases h), rfl⟩, ⟨_, _, rfl, rfl, rfl, rfl, (fun h => by cases h), rfl⟩, ⟨_, _, rfl, rfl, rfl, rfl, (fun h => by cases h), rfl⟩, ⟨_, _, rfl, rfl, rfl, rfl, (fun h => by cases h), rfl⟩, ⟨_, _, rfl, rfl, rfl, rfl, (fun h => by cases h), rfl⟩, ⟨_, _, rfl, rfl, rfl, rfl, (fun h => by cases h), rfl⟩, ⟨_, _, rfl, rfl, rfl, rfl, (fun h => by cases h), rfl⟩, ⟨_, _, rfl, rfl, rfl, rfl, (fun h => by cases h), rfl⟩, ⟨_, _, rfl, rfl, rfl, rfl, (fun h => by cases h), rfl⟩, ⟨_, _, rfl, rfl, rfl, rfl, (fun h => by cases h), rfl⟩, trivial⟩) (trivial) (⟨(fun h => by cases h), (fun h => by cases h), (fun h => by cases h), (fun h => by cases h), (fun h => by cases h), (fun h => by cases h), (fun h => by cases h), (fun h => by cases h), (fun h => by cases h), (fun h => by cases h), (fun h => by cases h), (fun h => by cases h), (fun h => by cases h), (fun h => by cases h), (fun h => by cases h), (fun h => by cases h), (fun h => by cases h), (fun h => by cases h), (fun h => by cases h), (fun h => by cases h), (fun h => by cases h), (fun h => by cases h), (fun h => by cases h), (fun h => by cases h), (fun h => by cases h), (fun h => by cases h), (fun h => by cases h), (fun h => by cases h), (fun h => by cases h), (fun h => by cases h), (fun h => by cases h), (fun h => by cases h), (fun h => by cases h), (fun h => by cases h), (fun h => by cases h), (fun h => by cases h), (fun h => by cases h), (fun h => by cases h), (fun h => by cases h), (fun h => by cases h), (fun h => by cases h), (fun h => by cases h), (fun h => by cases h), trivial⟩) rfl) trivial rfl ?_
 refine .q (op_notB rfl) trivial rfl ?_
 refine .nil ?_
 show Ev _ _ _ _ _
 refine .cond_false rfl (rfl) ?_
 refine .skip ?_
 show Ev _ _ _ _ _
 refine .seq ?_
 refine .region ?_
 refine .q (op_loadRow Tryz.underlying60 rfl (by kernel_rfl) rfl rfl rfl (rfl)) trivial rfl ?_
 refine .q (op_call (U := []) [] [] (few14_ev l0 l1 i0 i1 h p0 p1 sec hl0 hl1 hi0 hi1 hh) Tryz.func25 (by kernel_rfl) rfl rfl rfl (⟨⟨_, rfl, rfl, rfl⟩, trivial⟩) (trivial) (trivial) (trivial) rfl) trivial rfl ?_
 refine .w (op_storeRow (by kernel_rfl) rfl rfl rfl rfl rfl (rfl) (rfl)) trivial rfl ?_
 refine .nil ?_
 show Ev _ _ _ _ _
 refine .seq ?_
 refine .drawn [[], [0], [], [0, 1, 2], [0, 1, 2, 3], [0, 1, 2, 3, 4], [0, 1, 2, 3, 4, 5]] [0, 1, 2, 3, 6] [6] (by kernel_rfl) (by kernel_rfl) rfl ?_
 show DK _ [0, 1, 2, 3, 4, 5, 6] _ _ _
 refine .q rfl (op_loadRow Tryz.underlying24 rfl sz24 rfl rfl rfl (by exact ha)) trivial ?_
 refine .q rfl (op_call (U := []) [] [] (cbase_ev e a ha) Tryz.func31 (by kernel_rfl) rfl rfl rfl (⟨⟨_, rfl, rfl, rfl⟩, trivial⟩) (⟨⟨_, _, rfl, rfl, rfl, rfl, (fun h => by cases h), rfl⟩, trivial⟩) (trivial) (⟨(fun h => by cases h), trivial⟩) rfl) trivial ?_
 refine .as (.aggB A) (congrArg AV.aggB hA) ?_
 refine .q rfl (op_loadRow Tryz.underlying24 rfl sz24 rfl rfl rfl (by exact hb)) trivial ?_
 refine .q rfl (op_call (U := []) [] [] (cbase_ev e b hb) Tryz.func31 (by kernel_rfl) rfl rfl rfl (⟨⟨_, rfl, rfl, rfl⟩, trivial⟩) (⟨⟨_, _, rfl, rfl, rfl, rfl, (fun h => by cases h), rfl⟩, trivial⟩) (trivial) (⟨(fun h => by cases h), trivial⟩) rfl) trivial ?_
 refine .as (.aggB B) (congrArg AV.aggB hB) ?_
 refine .q rfl (op_buildRows2 (m := 32) (r := .aggB (A ++ B)) (xs := A.map .u8) (ys := B.map .u8) (zc := Array.replicate 64 (.int .u8 0)) Tryz.underlying58 (by kernel_rfl) zero58 rfl rfl rfl rfl rfl (by rw [List.length_map]; exact hAl) (by rw [List.length_map]; exact hBl) (by rw [← List.map_append]; rfl)) trivial ?_
 refine .q rfl (op_fieldAddr (m := 63) Tryz.underlying60 rfl (by kernel_rfl) rfl) trivial ?_
 refine .as (.ptr 1016 5) rfl ?_
 refine .w rfl (op_storePart (m := 64) (cs := (A ++ B).map .u8) (c' := exC (l0.take 60) (l1.take 60) (i0.take 100) (i1.take 100) (h.take 60) A B sec) sz58 rfl rfl rfl rfl rfl (by rw [List.length_map, List.length_append, hAl, hBl]) (show 5 + 64 ≤ 101 by decide) (by rw [kX_take A B hAl hBl]; rfl)) trivial rfl rfl ?_
 refine .nil ?_
 show Ev _ _ _ _ _
 refine .seq ?_
 refine .region ?_
 refine .q (op_loadRow Tryz.underlying60 rfl (by kernel_rfl) rfl rfl rfl (rfl)) trivial rfl ?_
 refine .a (op_allocRow zero60 rel_zero60 rfl) trivial rfl ?_
 refine .w (op_storeRow (by kernel_rfl) rfl rfl rfl rfl rfl (rfl) (rfl)) trivial rfl ?_
 refine .nil ?_
 show Ev _ _ _ _ _
 refine .seq ?_
 refine .region ?_
 refine .q (op_loadRow Tryz.underlying24 rfl sz24 rfl rfl rfl (by exact ha)) trivial rfl ?_
 refine .q (op_fieldAddr (m := 63) Tryz.underlying60 rfl (by kernel_rfl) rfl) trivial rfl ?_
 refine .as (.ptr 1016 5) rfl ?_
 refine .q (op_indexAddr_arr (i := 1) Tryz.underlying58 sz24 rfl rfl rfl (by decide)) trivial rfl ?_
 refine .as (.ptr 1016 37) rfl ?_
 refine .q (op_loadPart (m := 32) (r := .aggB B) (cs := B.map .u8) Tryz.underlying24 rfl (by kernel_rfl) rfl rfl rfl (by rw [List.length_map]; exact hBl) (by rw [← kX_eq hBl]; rfl) (show 37 + 32 ≤ 101 by decide)) trivial rfl ?_
 refine .q (op_call (U := []) [] [] (share_ok e v a B ha hBl hv hv0 eo) Tryz.func32 (by kernel_rfl) rfl rfl rfl (⟨⟨_, rfl, rfl, rfl⟩, ⟨_, rfl, rfl, rfl⟩, trivial⟩) (⟨⟨_, _, rfl, rfl, rfl, rfl, (fun h => by cases h), rfl⟩, trivial⟩) (trivial) (⟨(fun h => by cases h), trivial⟩) rfl) trivial rfl ?_
 refine .as (.tup [.aggB S, .val .nilIface]) (by rw [← hS]; rfl) ?_
 refine .q (op_move rfl) trivial rfl ?_
 refine .q (op_extract rfl rfl) trivial rfl ?_
 refine .q (op_extract rfl rfl) trivial rfl ?_
 refine .a (op_allocRow zero24 rel_zero24 rfl) trivial rfl ?_
 refine .w (op_storeRow sz24 rfl rfl rfl rfl rfl (by first | exact List.length_replicate | exact hSl) (by first | exact List.length_replicate | exact hSl)) trivial rfl ?_
 refine .q (op_assign rfl) trivial rfl ?_
 refine .nil ?_
 show Ev _ _ _ _ _
 refine .seq ?_
 refine .region ?_
 refine .q (op_loadRow Tryz.underlying24 rfl sz24 rfl rfl rfl (by exact hb)) trivial rfl ?_
 refine .q (op_fieldAddr (m := 63) Tryz.underlying60 rfl (by kernel_rfl) rfl) trivial rfl ?_
 refine .as (.ptr 1016 5) rfl ?_
 refine .q (op_indexAddr_arr (i := 0) Tryz.underlying58 sz24 rfl rfl rfl (by decide)) trivial rfl ?_
 refine .as (.ptr 1016 5) rfl ?_
 refine .q (op_loadPart (m := 32) (r := .aggB A) (cs := A.map .u8) Tryz.underlying24 rfl (by kernel_rfl) rfl rfl rfl (by rw [List.length_map]; exact hAl) (by rw [← kX_eq hAl]; rfl) (show 5 + 32 ≤ 101 by decide)) trivial rfl ?_
 refine .q (op_call (U := []) [] [] (share_ok e v b A hb hAl hw hv0 eo) Tryz.func32 (by kernel_rfl) rfl rfl rfl (⟨⟨_, rfl, rfl, rfl⟩, ⟨_, rfl, rfl, rfl⟩, trivial⟩) (⟨⟨_, _, rfl, rfl, rfl, rfl, (fun h => by cases h), rfl⟩, trivial⟩) (trivial) (⟨(fun h => by cases h), trivial⟩) rfl) trivial rfl ?_
 refine .as (.tup [.aggB S, .val .nilIface]) (by rw [← hS]; rfl) ?_
 refine .q (op_move rfl) trivial rfl ?_
 refine .q (op_extract rfl rfl) trivial rfl ?_
 refine .q (op_extract rfl rfl) trivial rfl ?_
 refine .a (op_allocRow zero24 rel_zero24 rfl) trivial rfl ?_
 refine .w (op_storeRow sz24 rfl rfl rfl rfl rfl (by first | exact List.length_replicate | exact hSl) (by first | exact List.length_replicate | exact hSl)) trivial rfl ?_
 refine .q (op_assign rfl) trivial rfl ?_
 refine .nil ?_
 show Ev _ _ _ _ _
 refine .seq ?_
 refine .drawnF [[], [], [0], [0, 2], [0, 1, 2, 3], [0, 1, 2, 3, 4]] [0, 1, 3, 5] [] [(0, ([1088], [])), (1, ([1096], [])), (3, ([], [1016])), (5, ([], [1080]))] (by kernel_rfl) (by kernel_rfl) rfl ?_
 show DK _ [0, 1, 2, 3, 4, 5] _ _ _
 refine .q rfl (op_loadRow Tryz.underlying24 rfl sz24 rfl rfl rfl (by exact hSl)) trivial ?_
 refine .q rfl (op_loadRow Tryz.underlying24 rfl sz24 rfl rfl rfl (by exact hSl)) trivial ?_
 refine .q rfl (op_fieldAddr (m := 31) Tryz.underlying60 rfl (by kernel_rfl) rfl) trivial ?_
 refine .as (.ptr 1016 69) rfl ?_
 refine .w rfl (op_storePart (m := 32) (cs := S.map .u8) (c' := exC (l0.take 60) (l1.take 60) (i0.take 100) (i1.take 100) (h.take 60) A B S) (by kernel_rfl) rfl rfl rfl rfl rfl (by rw [List.length_map]; exact hSl) (show 69 + 32 ≤ 101 by decide) (by rw [← kX_eq hSl]; rfl)) trivial rfl rfl ?_
 refine .q rfl (op_fieldAddr (m := 31) Tryz.underlying60 rfl (by kernel_rfl) rfl) trivial ?_
 refine .as (.ptr 1080 69) rfl ?_
 refine .w rfl (op_storePart (m := 32) (cs := S.map .u8) (c' := exC (l0.take 60) (l1.take 60) (i0.take 100) (i1.take 100) (h.take 60) A B S) (by kernel_rfl) rfl rfl rfl rfl rfl (by rw [List.length_map]; exact hSl) (show 69 + 32 ≤ 101 by decide) (by rw [← kX_eq hSl]; rfl)) trivial rfl rfl ?_
 refine .nil ?_
 show Ev _ _ _ _ _
 refine .seq ?_
 refine .drawn [[], [0], [0, 1], [0, 1, 2], [0, 1, 2, 3], [0, 1, 2, 3, 4], [0, 1, 2, 3, 4, 5], [0, 1, 2, 3, 4, 5, 6], [0, 1, 2, 3, 4, 5, 6], [0, 1, 2, 3, 4, 5, 6, 7, 8], [0, 1, 2, 3, 4, 5, 6, 7, 8, 9], [0, 1, 2, 3, 4, 5, 6, 7, 8, 9, 10], [0, 1, 2, 3, 4, 5, 6, 7, 8, 9, 10, 11], [0, 1, 2, 3, 4, 5, 6, 7, 8, 9, 10, 11, 12], [0, 1, 2, 3, 4, 5, 6, 7, 8, 9, 10, 11], [0, 1, 2, 3, 4, 5, 6, 7, 8, 9, 10, 11, 12, 13, 14], [0, 1, 2, 3, 4, 5, 6, 7, 8, 9, 10, 11, 12, 13, 14, 15], [0, 1, 2, 3, 4, 5, 6, 7, 8, 9, 10, 11, 12, 13, 14, 15, 16], [0, 1, 2, 3, 4, 5, 6, 7, 8, 9, 10, 11, 12, 13, 14, 15, 16, 17], [0, 1, 2, 3, 4, 5, 6, 7, 8, 9, 10, 11, 12, 13, 14, 15, 16, 17, 18], [0, 1, 2, 3, 4, 5, 6, 7, 8, 9, 10, 11, 12, 13, 14, 15, 16, 17, 18], [0, 1, 2, 3, 4, 5, 6, 7, 8, 9, 10, 11, 12, 13, 14, 15, 16, 17, 18, 20], [0, 1, 2, 3, 4, 5, 6, 7, 8, 9, 10, 11, 12, 13, 14, 15, 16, 17, 18], [0, 1, 2, 3, 4, 5, 6, 7, 8, 9, 10, 11, 12, 13, 14, 15, 16, 17, 18, 20, 21, 22], [0, 1, 2, 3, 4, 5, 6, 7, 8, 9, 10, 11, 12, 13, 14, 15, 16, 17, 18, 19, 20, 21, 22, 23], [0, 1, 2, 3, 4, 5, 6, 7, 8, 9, 10, 11, 12, 13, 14, 15, 16, 17, 18], [0, 1, 2, 3, 4, 5, 6, 7, 8, 9, 10, 11, 12, 13, 14, 15, 16, 17, 18], [0, 1, 2, 3, 4, 5, 6, 7, 8, 9, 10, 11, 12, 13, 14, 15, 16, 17, 18, 19, 20, 21, 22, 23, 24, 26], [0, 1, 2, 3, 4, 5, 6, 7, 8, 9, 10, 11, 12, 13, 14, 15, 16, 17, 18], [0, 1, 2, 3, 4, 5, 6, 7, 8, 9, 10, 11, 12, 13, 14, 15, 16, 17, 18, 19, 20, 21, 22, 23, 24, 26, 27, 28], [0, 1, 2, 3, 4, 5, 6, 7, 8, 9, 10, 11, 12, 13, 14, 15, 16, 17, 18, 19, 20, 21, 22, 23, 24, 25, 26, 27, 28, 29], [0, 1, 2, 3, 4, 5, 6, 7, 8, 9, 10, 11, 12, 13, 14, 15, 16, 17, 18, 19, 20, 21, 22, 23, 24, 25, 26, 27, 28, 29, 30], [0, 1, 2, 3, 4, 5, 6, 7, 8, 9, 10, 11, 12, 13, 14, 15, 16, 17, 18, 19, 20, 21, 22, 23, 24, 25, 26, 27, 28, 29, 30, 31], [0, 1, 2, 3, 4, 5, 6, 7, 8, 9, 10, 11, 12, 13, 14, 15, 16, 17, 18, 19, 20, 21, 22, 23, 24, 25, 26, 27, 28, 29, 30, 31, 32]] [7, 8, 12, 13, 14, 15, 19, 20, 21, 22, 23, 24, 25, 26, 27, 28, 29, 30] [] (by kernel_rfl) (by kernel_rfl) rfl ?_
 show DK _ [0, 1, 2, 3, 4, 5, 6, 7, 8, 9, 10, 11, 12, 13, 14, 15, 16, 17, 18, 19, 20, 21, 22, 23, 24, 25, 26, 27, 28, 29, 30, 31, 32, 33] _ _ _
 refine .q rfl (op_move rfl) trivial ?_
 refine .q rfl (op_eqNilNil Tryz.underlying36 rfl rfl) trivial ?_
 refine .q rfl (op_move rfl) trivial ?_
 refine .know (b' := true) (rfl) ?_
 refine .q rfl (op_move rfl) ⟨_, rfl, rfl⟩ ?_
 refine .q rfl (op_eqNilNil Tryz.underlying36 rfl rfl) ⟨_, rfl, rfl⟩ ?_
 refine .q rfl (op_pick_true rfl rfl rfl) trivial ?_
 refine .q rfl (op_move rfl) trivial ?_
 refine .know (b' := true) (rfl) ?_
 refine .q rfl (op_loadRow Tryz.underlying24 rfl sz24 rfl rfl rfl (by exact hSl)) ⟨_, rfl, rfl⟩ ?_
 refine .q rfl (op_loadRow Tryz.underlying24 rfl sz24 rfl rfl rfl (by exact hSl)) ⟨_, rfl, rfl⟩ ?_
 refine .q rfl (op_eqRow8 (n := 32) (by kernel_rfl) Tryz.underlying24 Tryz.underlying5 inf5.sz rfl rfl (by exact hSl) (by exact hSl)) ⟨_, rfl, rfl⟩ ?_
 refine .as (.bool true) (congrArg AV.bool (beq_self_eq_true _)) ?_
 refine .q rfl (op_pick_true rfl rfl rfl) trivial ?_
 refine .q rfl (op_move rfl) trivial ?_
 refine .know (b' := true) (rfl) ?_
 refine .q rfl (op_loadRow Tryz.underlying60 rfl (by kernel_rfl) rfl rfl rfl (rfl)) ⟨_, rfl, rfl⟩ ?_
 refine .q rfl (op_call (U := []) [] [] (hash_ev (l0.take 60) (l1.take 60) (i0.take 100) (i1.take 100) (h.take 60) A B S ek (by simp only [List.length_take]; omega) (by simp only [List.length_take]; omega) (by simp only [List.length_take]; omega) (by simp only [List.length_take]; omega) (by simp only [List.length_take]; omega) hAl hBl hSl) Tryz.func26 (by kernel_rfl) rfl rfl rfl (⟨⟨_, rfl, rfl, rfl⟩, trivial⟩) (⟨⟨_, _, rfl, rfl, rfl, rfl, (fun h => by cases h), rfl⟩, trivial⟩) (trivial) (⟨(fun h => by cases h), trivial⟩) rfl) ⟨_, rfl, rfl⟩ ?_
 refine .q rfl (op_loadRow Tryz.underlying60 rfl (by kernel_rfl) rfl rfl rfl (rfl)) ⟨_, rfl, rfl⟩ ?_
 refine .q rfl (op_call (U := []) [] [] (hash_ev (l0.take 60) (l1.take 60) (i0.take 100) (i1.take 100) (h.take 60) A B S ek (by simp only [List.length_take]; omega) (by simp only [List.length_take]; omega) (by simp only [List.length_take]; omega) (by simp only [List.length_take]; omega) (by simp only [List.length_take]; omega) hAl hBl hSl) Tryz.func26 (by kernel_rfl) rfl rfl rfl (⟨⟨_, rfl, rfl, rfl⟩, trivial⟩) (⟨⟨_, _, rfl, rfl, rfl, rfl, (fun h => by cases h), rfl⟩, trivial⟩) (trivial) (⟨(fun h => by cases h), trivial⟩) rfl) ⟨_, rfl, rfl⟩ ?_
 refine .q rfl (op_eqRow8 (n := 32) (by kernel_rfl) Tryz.underlying24 Tryz.underlying5 inf5.sz rfl rfl (by exact length_hshP _ _ _ _ _ _ _ _) (by exact length_hshP _ _ _ _ _ _ _ _)) ⟨_, rfl, rfl⟩ ?_
 refine .as (.bool true) (congrArg AV.bool (beq_self_eq_true _)) ?_
 refine .q rfl (op_pick_true rfl rfl rfl) trivial ?_
 refine .q rfl (op_move rfl) trivial ?_
 refine .know (b' := true) (rfl) ?_
 refine .q rfl (op_loadRow Tryz.underlying24 rfl sz24 rfl rfl rfl (by exact hSl)) ⟨_, rfl, rfl⟩ ?_
 refine .q rfl (op_loadRow Tryz.underlying60 rfl (by kernel_rfl) rfl rfl rfl (rfl)) ⟨_, rfl, rfl⟩ ?_
 refine .q rfl (op_call (U := []) [] [] (hash_ev (l0.take 60) (l1.take 60) (i0.take 100) (i1.take 100) (h.take 60) A B S ek (by simp only [List.length_take]; omega) (by simp only [List.length_take]; omega) (by simp only [List.length_take]; omega) (by simp only [List.length_take]; omega) (by simp only [List.length_take]; omega) hAl hBl hSl) Tryz.func26 (by kernel_rfl) rfl rfl rfl (⟨⟨_, rfl, rfl, rfl⟩, trivial⟩) (⟨⟨_, _, rfl, rfl, rfl, rfl, (fun h => by cases h), rfl⟩, trivial⟩) (trivial) (⟨(fun h => by cases h), trivial⟩) rfl) ⟨_, rfl, rfl⟩ ?_
 refine .q rfl (op_loadRow Tryz.underlying60 rfl (by kernel_rfl) rfl rfl rfl (rfl)) ⟨_, rfl, rfl⟩ ?_
 refine .q rfl (op_call (U := []) [] [] (hash_ev (l0.take 60) (l1.take 60) (i0.take 100) (i1.take 100) (h.take 60) A B S ek (by simp only [List.length_take]; omega) (by simp only [List.length_take]; omega) (by simp only [List.length_take]; omega) (by simp only [List.length_take]; omega) (by simp only [List.length_take]; omega) hAl hBl hSl) Tryz.func26 (by kernel_rfl) rfl rfl rfl (⟨⟨_, rfl, rfl, rfl⟩, trivial⟩) (⟨⟨_, _, rfl, rfl, rfl, rfl, (fun h => by cases h), rfl⟩, trivial⟩) (trivial) (⟨(fun h => by cases h), trivial⟩) rfl) ⟨_, rfl, rfl⟩ ?_
 refine .q rfl (op_call (U := []) [] [] (keys_ev S (hshP (l0.take 60) (l1.take 60) (i0.take 100) (i1.take 100) (h.take 60) A B S) (hshP (l0.take 60) (l1.take 60) (i0.take 100) (i1.take 100) (h.take 60) A B S) ek hSl (length_hshP _ _ _ _ _ _ _ _) (length_hshP _ _ _ _ _ _ _ _)) Tryz.func29 (by kernel_rfl) rfl rfl rfl (⟨⟨_, rfl, rfl, rfl⟩, ⟨_, rfl, rfl, rfl⟩, ⟨_, rfl, rfl, rfl⟩, trivial⟩) (⟨⟨_, _, rfl, rfl, rfl, rfl, (fun h => by cases h), rfl⟩, trivial⟩) (trivial) (⟨(fun h => by cases h), trivial⟩) rfl) ⟨_, rfl, rfl⟩ ?_
 refine .q rfl (op_loadRow Tryz.underlying24 rfl sz24 rfl rfl rfl (by exact hSl)) ⟨_, rfl, rfl⟩ ?_
 refine .q rfl (op_loadRow Tryz.underlying60 rfl (by kernel_rfl) rfl rfl rfl (rfl)) ⟨_, rfl, rfl⟩ ?_
 refine .q rfl (op_call (U := []) [] [] (hash_ev (l0.take 60) (l1.take 60) (i0.take 100) (i1.take 100) (h.take 60) A B S ek (by simp only [List.length_take]; omega) (by simp only [List.length_take]; omega) (by simp only [List.length_take]; omega) (by simp only [List.length_take]; omega) (by simp only [List.length_take]; omega) hAl hBl hSl) Tryz.func26 (by kernel_rfl) rfl rfl rfl (⟨⟨_, rfl, rfl, rfl⟩, trivial⟩) (⟨⟨_, _, rfl, rfl, rfl, rfl, (fun h => by cases h), rfl⟩, trivial⟩) (trivial) (⟨(fun h => by cases h), trivial⟩) rfl) ⟨_, rfl, rfl⟩ ?_
 refine .q rfl (op_loadRow Tryz.underlying60 rfl (by kernel_rfl) rfl rfl rfl (rfl)) ⟨_, rfl, rfl⟩ ?_
 refine .q rfl (op_call (U := []) [] [] (hash_ev (l0.take 60) (l1.take 60) (i0.take 100) (i1.take 100) (h.take 60) A B S ek (by simp only [List.length_take]; omega) (by simp only [List.length_take]; omega) (by simp only [List.length_take]; omega) (by simp only [List.length_take]; omega) (by simp only [List.length_take]; omega) hAl hBl hSl) Tryz.func26 (by kernel_rfl) rfl rfl rfl (⟨⟨_, rfl, rfl, rfl⟩, trivial⟩) (⟨⟨_, _, rfl, rfl, rfl, rfl, (fun h => by cases h), rfl⟩, trivial⟩) (trivial) (⟨(fun h => by cases h), trivial⟩) rfl) ⟨_, rfl, rfl⟩ ?_
 refine .q rfl (op_call (U := []) [] [] (keys_ev S (hshP (l0.take 60) (l1.take 60) (i0.take 100) (i1.take 100) (h.take 60) A B S) (hshP (l0.take 60) (l1.take 60) (i0.take 100) (i1.take 100) (h.take 60) A B S) ek hSl (length_hshP _ _ _ _ _ _ _ _) (length_hshP _ _ _ _ _ _ _ _)) Tryz.func29 (by kernel_rfl) rfl rfl rfl (⟨⟨_, rfl, rfl, rfl⟩, ⟨_, rfl, rfl, rfl⟩, ⟨_, rfl, rfl, rfl⟩, trivial⟩) (⟨⟨_, _, rfl, rfl, rfl, rfl, (fun h => by cases h), rfl⟩, trivial⟩) (trivial) (⟨(fun h => by cases h), trivial⟩) rfl) ⟨_, rfl, rfl⟩ ?_
 refine .q rfl (op_eqSelf (n := 2) (m := 32) (by kernel_rfl) Tryz.underlying58 (by kernel_rfl) Tryz.underlying24 Tryz.underlying5 (by kernel_rfl) rfl rfl (length_keysP _ _ _)) ⟨_, rfl, rfl⟩ ?_
 refine .q rfl (op_pick_true rfl rfl rfl) trivial ?_
 refine .q rfl (op_assign rfl) trivial ?_
 refine .nil ?_
 show Ev _ _ _ _ _
 refine .ret ?_
 show RetOk _ _ _ _ _ _ _
 exact ret1v rfl (.inl rfl) rfl rfl trivial
end Go.Proofs.YtdmlpblaelfdmaaGreatDoor
