/-
  Texts of this claim.
-/
import Derived.Test.YtpmambceojbkaaaDoorGX6T
import Derived.Test.YtpmambceojbkaaaDoorGX7T
import Derived.Test.YtpmambceojbkaaaDoorGX8T
namespace Go.Proofs.YtpmambceojbkaaaDoor
open Go.RowKit
set_option maxRecDepth 100000 in
theorem stepE1Y_ev (a b c ep : Int) {M : List (Ls × Nat)} {ck : Nat} {L : List Ls} (h : MI M ck L) (eo : Nat → Nat × Nat) (_hd : ∀ i j, i < 20 → j < 20 → i ≠ j → eo i ≠ eo j) (T A : List UInt8) (hT : T.length ≤ maxLen) (hA : A.length ≤ maxLen) (o n : Int) {x : Ls} (hx : x ∈ L) (h1 : x.t = (T.take 70)) (h2 : x.a = (A.take 70)) (hx0 : x ≠ ⟨[], [], 0, 0, 0⟩)  : Meets Tryd.prog 14 [.ptr 500 0, .agg [.i64 a, .i64 b, .i64 c, .i64 0, .fsl (lsC ([] : List Ls)) ([] : List Ls).length 5], .agg [.i64 1, .str T, .str A, .i64 o, .i64 n]] [(500, some ⟨.agg [.i64 a, .i64 b, .i64 c, .mp 501, .i64 ep], 68, true⟩), (501, some ⟨mpV (M) (ck), 0, true⟩), (3, some ⟨.agg [.err 155 (1) (offE eo (1))], errT, false⟩), (4, some ⟨.agg [.err 155 (2) (offE eo (2))], errT, false⟩), (5, some ⟨.agg [.err 155 (3) (offE eo (3))], errT, false⟩), (6, some ⟨.agg [.err 155 (4) (offE eo (4))], errT, false⟩), (7, some ⟨.agg [.err 155 (5) (offE eo (5))], errT, false⟩), (8, some ⟨.agg [.err 155 (6) (offE eo (6))], errT, false⟩), (9, some ⟨.agg [.err 155 (7) (offE eo (7))], errT, false⟩), (2, some ⟨.agg [.err 155 (8) (offE eo (8))], errT, false⟩), (1, some ⟨.agg [.err 155 (9) (offE eo (9))], errT, false⟩), (10, some ⟨.agg [.err 155 (10) (offE eo (10))], errT, false⟩), (11, some ⟨.agg [.err 155 (11) (offE eo (11))], errT, false⟩), (12, some ⟨.agg [.err 155 (12) (offE eo (12))], errT, false⟩), (13, some ⟨.agg [.err 155 (13) (offE eo (13))], errT, false⟩), (14, some ⟨.agg [.err 155 (14) (offE eo (14))], errT, false⟩), (15, some ⟨.agg [.err 155 (15) (offE eo (15))], errT, false⟩), (16, some ⟨.agg [.err 155 (16) (offE eo (16))], errT, false⟩), (0, some ⟨.agg [.err 155 (17) (offE eo (17))], errT, false⟩), (17, some ⟨.agg [.err 155 (18) (offE eo (18))], errT, false⟩), (18, some ⟨.agg [.err 155 (19) (offE eo (19))], errT, false⟩), (19, some ⟨.agg [.err 155 (20) (offE eo (20))], errT, false⟩), (401, some ⟨.agg [], errT, false⟩), (402, some ⟨.agg [], errT, false⟩), (403, some ⟨.agg [], errT, false⟩), (404, some ⟨.agg [], errT, false⟩), (405, some ⟨.agg [], errT, false⟩), (406, some ⟨.agg [], errT, false⟩), (407, some ⟨.agg [], errT, false⟩), (408, some ⟨.agg [], errT, false⟩), (409, some ⟨.agg [], errT, false⟩), (410, some ⟨.agg [], errT, false⟩), (411, some ⟨.agg [], errT, false⟩), (412, some ⟨.agg [], errT, false⟩), (413, some ⟨.agg [], errT, false⟩), (414, some ⟨.agg [], errT, false⟩), (415, some ⟨.agg [], errT, false⟩), (416, some ⟨.agg [], errT, false⟩), (417, some ⟨.agg [], errT, false⟩), (418, some ⟨.agg [], errT, false⟩), (419, some ⟨.agg [], errT, false⟩), (420, some ⟨.agg [], errT, false⟩)] (.tup [.agg [.i64 a, .i64 b, .i64 c, .i64 0, .fsl (lsC ([] : List Ls)) ([] : List Ls).length 5], .hole]) [(500, some ⟨.agg [.i64 a, .i64 b, .i64 c, .mp 501, .i64 ep], 68, true⟩), (501, some ⟨mpV M ck, 0, true⟩)] := by
 refine meets_of_ev (nt := 211) Tryd.func14 rfl rfl (Nat.le_of_ble_eq_true rfl) ?_
 refine .seq ?_
 refine .region ?_
 refine .a (op_boxRow rfl rfl) trivial rfl ?_
 refine .a (op_boxRow rfl rfl) trivial rfl ?_
 refine .a (op_allocRow zero32 rel_zero32 rfl) trivial rfl ?_
 refine .q (op_assign rfl) trivial rfl ?_
 refine .nil ?_
 show Ev _ _ _ _ _
 refine .seq ?_
 refine .drawn [[], [0], [0, 1], [], [3], [0, 1, 2, 3, 4], [0, 1, 2, 3, 4, 5], [0, 1, 2, 3, 4, 5, 6]] [1, 2, 4, 5] [] (by kernel_rfl) (by kernel_rfl) rfl ?_
 show DK _ [0, 1, 2, 3, 4, 5, 6, 7] _ _ _
 refine .q rfl (op_fieldAddr (m := 0) Tryd.underlying37 rfl (by kernel_rfl) rfl) trivial ?_
 refine .as (.ptr 1008 1) rfl ?_
 refine .q rfl (op_load Tryd.underlying9 rfl rfl rfl rfl (by show 1 < 5; decide)) trivial ?_
 refine .q rfl (op_call (U := []) [] [] (cut_ev T 70 hT (by decide)) Tryd.func8 (by kernel_rfl) rfl rfl rfl (⟨⟨_, rfl, rfl, rfl⟩, ⟨_, rfl, rfl, rfl⟩, trivial⟩) (trivial) (trivial) (trivial) rfl) trivial ?_
 refine .q rfl (op_fieldAddr (m := 0) Tryd.underlying37 rfl (by kernel_rfl) rfl) trivial ?_
 refine .as (.ptr 1008 2) rfl ?_
 refine .q rfl (op_load Tryd.underlying9 rfl rfl rfl rfl (by show 2 < 5; decide)) trivial ?_
 refine .q rfl (op_call (U := []) [] [] (cut_ev A 70 hA (by decide)) Tryd.func8 (by kernel_rfl) rfl rfl rfl (⟨⟨_, rfl, rfl, rfl⟩, ⟨_, rfl, rfl, rfl⟩, trivial⟩) (trivial) (trivial) (trivial) rfl) trivial ?_
 refine .q rfl (op_assign rfl) trivial ?_
 refine .q rfl (op_assign rfl) trivial ?_
 refine .nil ?_
 show Ev _ _ _ _ _
 refine .seq ?_
 refine .region ?_
 refine .q (op_loadRow Tryd.underlying32 rfl (by kernel_rfl) rfl rfl rfl (rfl)) trivial rfl ?_
 refine .q (op_move rfl) trivial rfl ?_
 refine .q (op_move rfl) trivial rfl ?_
 refine .q (op_call (U := []) [] [] (rat_ev a b c 0 ([] : List Ls) (Nat.zero_le _) (T.take 70) (A.take 70)) Tryd.func31 (by kernel_rfl) rfl rfl rfl (⟨⟨_, rfl, rfl, rfl⟩, ⟨_, rfl, rfl, rfl⟩, ⟨_, rfl, rfl, rfl⟩, trivial⟩) (trivial) (trivial) (trivial) rfl) trivial rfl ?_
 refine .as (.i64 (-1)) rfl ?_
 refine .q (op_assign rfl) trivial rfl ?_
 refine .nil ?_
 show Ev _ _ _ _ _
 refine .seq ?_
 refine .seq ?_
 refine .region ?_
 refine .q (op_fieldAddr (m := 0) Tryd.underlying37 rfl (by kernel_rfl) rfl) trivial rfl ?_
 refine .as (.ptr 1008 0) rfl ?_
 refine .q (op_load Tryd.underlying3 rfl rfl rfl rfl (by show 0 < 5; decide)) trivial rfl ?_
 refine .nil ?_
 show Ev _ _ _ _ _
 refine .block ?_
 refine .seq ?_
 refine .region ?_
 refine .q (op_cmpI rfl rfl rfl) trivial rfl ?_
 refine .q (op_assign rfl) trivial rfl ?_
 refine .nil ?_
 show Ev _ _ _ _ _
 refine .cond_true rfl (rfl) ?_
 refine .seq ?_
 refine .region ?_
 refine .q (op_move rfl) trivial rfl ?_
 refine .q (op_move rfl) trivial rfl ?_
 refine .q (op_move rfl) trivial rfl ?_
 refine .q (op_call (U := []) [(500, 500), (501, 501)] [] (findY2 a b c ep h hx h1 h2) Tryd.func20 (by kernel_rfl) rfl rfl rfl (⟨⟨_, rfl, rfl, rfl⟩, ⟨_, rfl, rfl, rfl⟩, ⟨_, rfl, rfl, rfl⟩, trivial⟩) (⟨⟨_, _, rfl, rfl, rfl, rfl, (fun h => by cases h), rfl⟩, ⟨_, _, rfl, rfl, rfl, rfl, (fun h => by cases h), rfl⟩, trivial⟩) (trivial) (⟨(fun h => by cases h), (fun h => by cases h), trivial⟩) rfl) trivial rfl ?_
 refine .q (op_move rfl) trivial rfl ?_
 refine .q (op_extract rfl rfl) trivial rfl ?_
 refine .q (op_extract rfl rfl) trivial rfl ?_
 refine .a (op_allocRow zero45 rel_zero45 rfl) trivial rfl ?_
 refine .w (op_storeRow (by kernel_rfl) rfl rfl rfl rfl rfl (rfl) (rfl)) trivial rfl ?_
 refine .q (op_assign rfl) trivial rfl ?_
 refine .nil ?_
 show Ev _ _ _ _ _
 refine .seq ?_
 refine .seq ?_
 refine .region ?_
 refine .q (op_move rfl) trivial rfl ?_
 refine .q (op_cmpI rfl rfl rfl) trivial rfl ?_
 refine .nil ?_
 show Ev _ _ _ _ _
 refine .cond_true rfl (rfl) ?_
 refine .seq ?_
 refine .drawnF [[], [], [], [1, 2], [1, 2, 3], [1, 2, 3, 4], [1, 2, 3, 4, 5], [1, 2, 3, 4, 5, 6], [1, 2, 3, 4, 5, 6, 7], [0, 1, 2, 3, 4, 5, 6], [0, 1, 2, 3, 4, 5, 6, 7, 8, 9]] [0, 1, 6, 9] [] [(0, ([1000], [])), (1, ([1088], [])), (6, ([3, 4, 5, 6, 7, 8, 9, 2, 1, 10, 11, 12, 13, 14, 15, 16, 0, 17, 18, 19, 401, 402, 403, 404, 405, 406, 407, 408, 409, 410, 411, 412, 413, 414, 415, 416, 417, 418, 419, 420], [])), (9, ([], [1016]))] (by kernel_rfl) (by kernel_rfl) rfl ?_
 show DK _ [0, 1, 2, 3, 4, 5, 6, 7, 8, 9, 10] _ _ _
 refine .q rfl (op_loadRow Tryd.underlying32 rfl (by kernel_rfl) rfl rfl rfl (rfl)) trivial ?_
 refine .q rfl (op_loadRow Tryd.underlying45 rfl (by kernel_rfl) rfl rfl rfl (rfl)) trivial ?_
 refine .q rfl (op_buildS (r := .agg _) Tryd.underlying45 rfl zero45 rel_zero45 rfl rfl rfl rfl) trivial ?_
 refine .q rfl (op_eqlLsP (p := x) (q := ⟨[], [], 0, 0, 0⟩) rfl rfl) trivial ?_
 refine .as (.bool false) (congrArg AV.bool (decide_eq_false hx0)) ?_
 refine .q rfl (op_move rfl) trivial ?_
 refine .know (b' := false) (rfl) ?_
 refine .no rfl ⟨_, rfl, rfl⟩ ?_
 refine .no rfl ⟨_, rfl, rfl⟩ ?_
 refine .no rfl ⟨_, rfl, rfl⟩ ?_
 refine .q rfl (op_pick_false rfl rfl rfl) trivial ?_
 refine .w rfl (op_storeRow (by kernel_rfl) rfl rfl rfl rfl rfl (rfl) (rfl)) trivial rfl rfl ?_
 refine .q rfl (op_assign rfl) trivial ?_
 refine .nil ?_
 show Ev _ _ _ _ _
 refine Ev.asR (T1 := []) .hole (fun _ _ _ => .hole _) ?_
 refine .ret ?_
 show RetOk _ _ _ _ _ _ _
 exact retc2 rfl (.inl rfl) ⟨_, _, _, _, rfl, rfl, rfl, rfl, rfl, Tryd.underlying32, rfl, sz32⟩ rfl ⟨rfl, rfl, trivial⟩
set_option maxRecDepth 100000 in
theorem stepE1N_ev (a b c ep : Int) {M : List (Ls × Nat)} {ck : Nat} {L : List Ls} (h : MI M ck L) (eo : Nat → Nat × Nat) (hd : ∀ i j, i < 20 → j < 20 → i ≠ j → eo i ≠ eo j) (T A : List UInt8) (hT : T.length ≤ maxLen) (hA : A.length ≤ maxLen) (o n : Int) (hn : ∀ x ∈ L, ¬ (x.t = (T.take 70) ∧ x.a = (A.take 70)))  : Meets Tryd.prog 14 [.ptr 500 0, .agg [.i64 a, .i64 b, .i64 c, .i64 0, .fsl (lsC ([] : List Ls)) ([] : List Ls).length 5], .agg [.i64 1, .str T, .str A, .i64 o, .i64 n]] [(500, some ⟨.agg [.i64 a, .i64 b, .i64 c, .mp 501, .i64 ep], 68, true⟩), (501, some ⟨mpV (M) (ck), 0, true⟩), (3, some ⟨.agg [.err 155 (1) (offE eo (1))], errT, false⟩), (4, some ⟨.agg [.err 155 (2) (offE eo (2))], errT, false⟩), (5, some ⟨.agg [.err 155 (3) (offE eo (3))], errT, false⟩), (6, some ⟨.agg [.err 155 (4) (offE eo (4))], errT, false⟩), (7, some ⟨.agg [.err 155 (5) (offE eo (5))], errT, false⟩), (8, some ⟨.agg [.err 155 (6) (offE eo (6))], errT, false⟩), (9, some ⟨.agg [.err 155 (7) (offE eo (7))], errT, false⟩), (2, some ⟨.agg [.err 155 (8) (offE eo (8))], errT, false⟩), (1, some ⟨.agg [.err 155 (9) (offE eo (9))], errT, false⟩), (10, some ⟨.agg [.err 155 (10) (offE eo (10))], errT, false⟩), (11, some ⟨.agg [.err 155 (11) (offE eo (11))], errT, false⟩), (12, some ⟨.agg [.err 155 (12) (offE eo (12))], errT, false⟩), (13, some ⟨.agg [.err 155 (13) (offE eo (13))], errT, false⟩), (14, some ⟨.agg [.err 155 (14) (offE eo (14))], errT, false⟩), (15, some ⟨.agg [.err 155 (15) (offE eo (15))], errT, false⟩), (16, some ⟨.agg [.err 155 (16) (offE eo (16))], errT, false⟩), (0, some ⟨.agg [.err 155 (17) (offE eo (17))], errT, false⟩), (17, some ⟨.agg [.err 155 (18) (offE eo (18))], errT, false⟩), (18, some ⟨.agg [.err 155 (19) (offE eo (19))], errT, false⟩), (19, some ⟨.agg [.err 155 (20) (offE eo (20))], errT, false⟩), (401, some ⟨.agg [], errT, false⟩), (402, some ⟨.agg [], errT, false⟩), (403, some ⟨.agg [], errT, false⟩), (404, some ⟨.agg [], errT, false⟩), (405, some ⟨.agg [], errT, false⟩), (406, some ⟨.agg [], errT, false⟩), (407, some ⟨.agg [], errT, false⟩), (408, some ⟨.agg [], errT, false⟩), (409, some ⟨.agg [], errT, false⟩), (410, some ⟨.agg [], errT, false⟩), (411, some ⟨.agg [], errT, false⟩), (412, some ⟨.agg [], errT, false⟩), (413, some ⟨.agg [], errT, false⟩), (414, some ⟨.agg [], errT, false⟩), (415, some ⟨.agg [], errT, false⟩), (416, some ⟨.agg [], errT, false⟩), (417, some ⟨.agg [], errT, false⟩), (418, some ⟨.agg [], errT, false⟩), (419, some ⟨.agg [], errT, false⟩), (420, some ⟨.agg [], errT, false⟩)] (.tup [.agg [.i64 a, .i64 b, .i64 c, .i64 0, .fsl (lsC ([] : List Ls)) ([] : List Ls).length 5], .hole]) [(500, some ⟨.agg [.i64 a, .i64 b, .i64 c, .mp 501, .i64 ep], 68, true⟩), (501, some ⟨mpV M ck, 0, true⟩)] := by
 refine meets_of_ev (nt := 211) Tryd.func14 rfl rfl (Nat.le_of_ble_eq_true rfl) ?_
 refine .seq ?_
 refine .region ?_
 refine .a (op_boxRow rfl rfl) trivial rfl ?_
 refine .a (op_boxRow rfl rfl) trivial rfl ?_
 refine .a (op_allocRow zero32 rel_zero32 rfl) trivial rfl ?_
 refine .q (op_assign rfl) trivial rfl ?_
 refine .nil ?_
 show Ev _ _ _ _ _
 refine .seq ?_
 refine .drawn [[], [0], [0, 1], [], [3], [0, 1, 2, 3, 4], [0, 1, 2, 3, 4, 5], [0, 1, 2, 3, 4, 5, 6]] [1, 2, 4, 5] [] (by kernel_rfl) (by kernel_rfl) rfl ?_
 show DK _ [0, 1, 2, 3, 4, 5, 6, 7] _ _ _
 refine .q rfl (op_fieldAddr (m := 0) Tryd.underlying37 rfl (by kernel_rfl) rfl) trivial ?_
 refine .as (.ptr 1008 1) rfl ?_
 refine .q rfl (op_load Tryd.underlying9 rfl rfl rfl rfl (by show 1 < 5; decide)) trivial ?_
 refine .q rfl (op_call (U := []) [] [] (cut_ev T 70 hT (by decide)) Tryd.func8 (by kernel_rfl) rfl rfl rfl (⟨⟨_, rfl, rfl, rfl⟩, ⟨_, rfl, rfl, rfl⟩, trivial⟩) (trivial) (trivial) (trivial) rfl) trivial ?_
 refine .q rfl (op_fieldAddr (m := 0) Tryd.underlying37 rfl (by kernel_rfl) rfl) trivial ?_
 refine .as (.ptr 1008 2) rfl ?_
 refine .q rfl (op_load Tryd.underlying9 rfl rfl rfl rfl (by show 2 < 5; decide)) trivial ?_
 refine .q rfl (op_call (U := []) [] [] (cut_ev A 70 hA (by decide)) Tryd.func8 (by kernel_rfl) rfl rfl rfl (⟨⟨_, rfl, rfl, rfl⟩, ⟨_, rfl, rfl, rfl⟩, trivial⟩) (trivial) (trivial) (trivial) rfl) trivial ?_
 refine .q rfl (op_assign rfl) trivial ?_
 refine .q rfl (op_assign rfl) trivial ?_
 refine .nil ?_
 show Ev _ _ _ _ _
 refine .seq ?_
 refine .region ?_
 refine .q (op_loadRow Tryd.underlying32 rfl (by kernel_rfl) rfl rfl rfl (rfl)) trivial rfl ?_
 refine .q (op_move rfl) trivial rfl ?_
 refine .q (op_move rfl) trivial rfl ?_
 refine .q (op_call (U := []) [] [] (rat_ev a b c 0 ([] : List Ls) (Nat.zero_le _) (T.take 70) (A.take 70)) Tryd.func31 (by kernel_rfl) rfl rfl rfl (⟨⟨_, rfl, rfl, rfl⟩, ⟨_, rfl, rfl, rfl⟩, ⟨_, rfl, rfl, rfl⟩, trivial⟩) (trivial) (trivial) (trivial) rfl) trivial rfl ?_
 refine .as (.i64 (-1)) rfl ?_
 refine .q (op_assign rfl) trivial rfl ?_
 refine .nil ?_
 show Ev _ _ _ _ _
 refine .seq ?_
 refine .seq ?_
 refine .region ?_
 refine .q (op_fieldAddr (m := 0) Tryd.underlying37 rfl (by kernel_rfl) rfl) trivial rfl ?_
 refine .as (.ptr 1008 0) rfl ?_
 refine .q (op_load Tryd.underlying3 rfl rfl rfl rfl (by show 0 < 5; decide)) trivial rfl ?_
 refine .nil ?_
 show Ev _ _ _ _ _
 refine .block ?_
 refine .seq ?_
 refine .region ?_
 refine .q (op_cmpI rfl rfl rfl) trivial rfl ?_
 refine .q (op_assign rfl) trivial rfl ?_
 refine .nil ?_
 show Ev _ _ _ _ _
 refine .cond_true rfl (rfl) ?_
 refine .seq ?_
 refine .region ?_
 refine .q (op_move rfl) trivial rfl ?_
 refine .q (op_move rfl) trivial rfl ?_
 refine .q (op_move rfl) trivial rfl ?_
 refine .q (op_call (U := []) [(500, 500), (501, 501)] [] (findN_ev a b c ep h (by rw [List.length_take]; exact Nat.le_trans (Nat.min_le_right _ _) hT) (by rw [List.length_take]; exact Nat.le_trans (Nat.min_le_right _ _) hA) hn eo) Tryd.func20 (by kernel_rfl) rfl rfl rfl (⟨⟨_, rfl, rfl, rfl⟩, ⟨_, rfl, rfl, rfl⟩, ⟨_, rfl, rfl, rfl⟩, trivial⟩) (⟨⟨_, _, rfl, rfl, rfl, rfl, (fun h => by cases h), rfl⟩, ⟨_, _, rfl, rfl, rfl, rfl, (fun h => by cases h), rfl⟩, ⟨_, _, rfl, rfl, rfl, rfl, (fun h => by cases h), rfl⟩, trivial⟩) (trivial) (⟨(fun h => by cases h), (fun h => by cases h), (fun h => by cases h), trivial⟩) rfl) trivial rfl ?_
 refine .q (op_move rfl) trivial rfl ?_
 refine .q (op_extract rfl rfl) trivial rfl ?_
 refine .q (op_extract rfl rfl) trivial rfl ?_
 refine .a (op_allocRow zero45 rel_zero45 rfl) trivial rfl ?_
 refine .w (op_storeRow (by kernel_rfl) rfl rfl rfl rfl rfl (rfl) (rfl)) trivial rfl ?_
 refine .q (op_assign rfl) trivial rfl ?_
 refine .nil ?_
 show Ev _ _ _ _ _
 refine .seq ?_
 refine .seq ?_
 refine .region ?_
 refine .q (op_move rfl) trivial rfl ?_
 refine .q (op_cmpI rfl rfl rfl) trivial rfl ?_
 refine .nil ?_
 show Ev _ _ _ _ _
 refine .cond_true rfl (rfl) ?_
 refine .seq ?_
 refine .drawnF [[], [], [], [1, 2], [1, 2, 3], [1, 2, 3, 4], [1, 2, 3, 4, 5], [1, 2, 3, 4, 5, 6], [1, 2, 3, 4, 5, 6, 7], [0, 1, 2, 3, 4, 5, 6], [0, 1, 2, 3, 4, 5, 6, 7, 8, 9]] [0, 1, 6, 9] [] [(0, ([1000], [])), (1, ([1088], [])), (6, ([3, 4, 5, 6, 7, 8, 9, 2, 1, 10, 11, 12, 13, 14, 15, 16, 0, 17, 18, 19, 401, 402, 403, 404, 405, 406, 407, 408, 409, 410, 411, 412, 413, 414, 415, 416, 417, 418, 419, 420], [])), (9, ([], [1016]))] (by kernel_rfl) (by kernel_rfl) rfl ?_
 show DK _ [0, 1, 2, 3, 4, 5, 6, 7, 8, 9, 10] _ _ _
 refine .q rfl (op_loadRow Tryd.underlying32 rfl (by kernel_rfl) rfl rfl rfl (rfl)) trivial ?_
 refine .q rfl (op_loadRow Tryd.underlying45 rfl (by kernel_rfl) rfl rfl rfl (rfl)) trivial ?_
 refine .q rfl (op_buildS (r := .agg _) Tryd.underlying45 rfl zero45 rel_zero45 rfl rfl rfl rfl) trivial ?_
 refine .q rfl (op_eqlLsP (p := ⟨[], [], 0, 0, 0⟩) (q := ⟨[], [], 0, 0, 0⟩) rfl rfl) trivial ?_
 refine .as (.bool true) (congrArg AV.bool (decide_eq_true rfl)) ?_
 refine .q rfl (op_move rfl) trivial ?_
 refine .know (b' := true) (rfl) ?_
 refine .q rfl (op_move rfl) ⟨_, rfl, rfl⟩ ?_
 refine .q rfl (op_call (U := []) [] [] (code_8 eo hd) Tryd.func25 (by kernel_rfl) rfl rfl rfl (⟨⟨_, rfl, rfl, rfl⟩, trivial⟩) (⟨⟨_, _, rfl, rfl, rfl, rfl, (fun h => by cases h), rfl⟩, ⟨_, _, rfl, rfl, rfl, rfl, (fun h => by cases h), rfl⟩, ⟨_, _, rfl, rfl, rfl, rfl, (fun h => by cases h), rfl⟩, ⟨_, _, rfl, rfl, rfl, rfl, (fun h => by cases h), rfl⟩, ⟨_, _, rfl, rfl, rfl, rfl, (fun h => by cases h), rfl⟩, ⟨_, _, rfl, rfl, rfl, rfl, (fun h => by cases h), rfl⟩, ⟨_, _, rfl, rfl, rfl, rfl, (fun h => by cases h), rfl⟩, ⟨_, _, rfl, rfl, rfl, rfl, (fun h => by cases h), rfl⟩, ⟨_, _, rfl, rfl, rfl, rfl, (fun h => by cases h), rfl⟩, ⟨_, _, rfl, rfl, rfl, rfl, (fun h => by cases h), rfl⟩, ⟨_, _, rfl, rfl, rfl, rfl, (fun h => by cases h), rfl⟩, ⟨_, _, rfl, rfl, rfl, rfl, (fun h => by cases h), rfl⟩, ⟨_, _, rfl, rfl, rfl, rfl, (fun h => by cases h), rfl⟩, ⟨_, _, rfl, rfl, rfl, rfl, (fun h => by cases h), rfl⟩, ⟨_, _, rfl, rfl, rfl, rfl, (fun h => by cases h), rfl⟩, ⟨_, _, rfl, rfl, rfl, rfl, (fun h => by cases h), rfl⟩, ⟨_, _, rfl, rfl, rfl, rfl, (fun h => by cases h), rfl⟩, ⟨_, _, rfl, rfl, rfl, rfl, (fun h => by cases h), rfl⟩, ⟨_, _, rfl, rfl, rfl, rfl, (fun h => by cases h), rfl⟩, ⟨_, _, rfl, rfl, rfl, rfl, (fun h => by cases h), rfl⟩, ⟨_, _, rfl, rfl, rfl, rfl, (fun h => by cases h), rfl⟩, ⟨_, _, rfl, rfl, rfl, rfl, (fun h => by cases h), rfl⟩, ⟨_, _, rfl, rfl, rfl, rfl, (fun h => by cases h), rfl⟩, ⟨_, _, rfl, rfl, rfl, rfl, (fun h => by cases h), rfl⟩, ⟨_, _, rfl, rfl, rfl, rfl, (fun h => by cases h), rfl⟩, ⟨_, _, rfl, rfl, rfl, rfl, (fun h => by cases h), rfl⟩, ⟨_, _, rfl, rfl, rfl, rfl, (fun h => by cases h), rfl⟩, ⟨_, _, rfl, rfl, rfl, rfl, (fun h => by cases h), rfl⟩, ⟨_, _, rfl, rfl, rfl, rfl, (fun h => by cases h), rfl⟩, ⟨_, _, rfl, rfl, rfl, rfl, (fun h => by cases h), rfl⟩, ⟨_, _, rfl, rfl, rfl, rfl, (fun h => by cases h), rfl⟩, ⟨_, _, rfl, rfl, rfl, rfl, (fun h => by cases h), rfl⟩, ⟨_, _, rfl, rfl, rfl, rfl, (fun h => by cases h), rfl⟩, ⟨_, _, rfl, rfl, rfl, rfl, (fun h => by cases h), rfl⟩, ⟨_, _, rfl, rfl, rfl, rfl, (fun h => by cases h), rfl⟩, ⟨_, _, rfl, rfl, rfl, rfl, (fun h => by cases h), rfl⟩, ⟨_, _, rfl, rfl, rfl, rfl, (fun h => by cases h), rfl⟩, ⟨_, _, rfl, rfl, rfl, rfl, (fun h => by cases h), rfl⟩, ⟨_, _, rfl, rfl, rfl, rfl, (fun h => by cases h), rfl⟩, ⟨_, _, rfl, rfl, rfl, rfl, (fun h => by cases h), rfl⟩, trivial⟩) (trivial) (⟨(fun h => by cases h), (fun h => by cases h), (fun h => by cases h), (fun h => by cases h), (fun h => by cases h), (fun h => by cases h), (fun h => by cases h), (fun h => by cases h), (fun h => by cases h), (fun h => by cases h), (fun h => by cases h), (fun h => by cases h), (fun h => by cases h), (fun h => by cases h), (fun h => by cases h), (fun h => by cases h), (fun h => by cases h), (fun h => by cases h), (fun h => by cases h), (fun h => by cases h), (fun h => by cases h), (fun h => by cases h), (fun h => by cases h), (fun h => by cases h), (fun h => by cases h), (fun h => by cases h), (fun h => by cases h), (fun h => by cases h), (fun h => by cases h), (fun h => by cases h), (fun h => by cases h), (fun h => by cases h), (fun h => by cases h), (fun h => by cases h), (fun h => by cases h), (fun h => by cases h), (fun h => by cases h), (fun h => by cases h), (fun h => by cases h), (fun h => by cases h), trivial⟩) rfl) ⟨_, rfl, rfl⟩ ?_
 refine .q rfl (op_cmpI rfl rfl rfl) ⟨_, rfl, rfl⟩ ?_
 refine .q rfl (op_pick_true rfl rfl rfl) trivial ?_
 refine .w rfl (op_storeRow (by kernel_rfl) rfl rfl rfl rfl rfl (rfl) (rfl)) trivial rfl rfl ?_
 refine .q rfl (op_assign rfl) trivial ?_
 refine .nil ?_
 show Ev _ _ _ _ _
 refine Ev.asR (T1 := []) .hole (fun _ _ _ => .hole _) ?_
 refine .ret ?_
 show RetOk _ _ _ _ _ _ _
 exact retc2 rfl (.inl rfl) ⟨_, _, _, _, rfl, rfl, rfl, rfl, rfl, Tryd.underlying32, rfl, sz32⟩ rfl ⟨rfl, rfl, trivial⟩
set_option maxRecDepth 100000 in
theorem stepE2Y_ev (a b c ep : Int) {M : List (Ls × Nat)} {ck : Nat} {L : List Ls} (h : MI M ck L) (eo : Nat → Nat × Nat) (_hd : ∀ i j, i < 20 → j < 20 → i ≠ j → eo i ≠ eo j) (T A : List UInt8) (hT : T.length ≤ maxLen) (hA : A.length ≤ maxLen) (o n : Int) {x : Ls} (hx : x ∈ L) (h1 : x.t = (T.take 70)) (h2 : x.a = (A.take 70)) (hx0 : x ≠ ⟨[], [], 0, 0, 0⟩) (hw : x.o = o)  : Meets Tryd.prog 14 [.ptr 500 0, .agg [.i64 a, .i64 b, .i64 c, .i64 0, .fsl (lsC ([] : List Ls)) ([] : List Ls).length 5], .agg [.i64 2, .str T, .str A, .i64 o, .i64 n]] [(500, some ⟨.agg [.i64 a, .i64 b, .i64 c, .mp 501, .i64 ep], 68, true⟩), (501, some ⟨mpV (M) (ck), 0, true⟩), (3, some ⟨.agg [.err 155 (1) (offE eo (1))], errT, false⟩), (4, some ⟨.agg [.err 155 (2) (offE eo (2))], errT, false⟩), (5, some ⟨.agg [.err 155 (3) (offE eo (3))], errT, false⟩), (6, some ⟨.agg [.err 155 (4) (offE eo (4))], errT, false⟩), (7, some ⟨.agg [.err 155 (5) (offE eo (5))], errT, false⟩), (8, some ⟨.agg [.err 155 (6) (offE eo (6))], errT, false⟩), (9, some ⟨.agg [.err 155 (7) (offE eo (7))], errT, false⟩), (2, some ⟨.agg [.err 155 (8) (offE eo (8))], errT, false⟩), (1, some ⟨.agg [.err 155 (9) (offE eo (9))], errT, false⟩), (10, some ⟨.agg [.err 155 (10) (offE eo (10))], errT, false⟩), (11, some ⟨.agg [.err 155 (11) (offE eo (11))], errT, false⟩), (12, some ⟨.agg [.err 155 (12) (offE eo (12))], errT, false⟩), (13, some ⟨.agg [.err 155 (13) (offE eo (13))], errT, false⟩), (14, some ⟨.agg [.err 155 (14) (offE eo (14))], errT, false⟩), (15, some ⟨.agg [.err 155 (15) (offE eo (15))], errT, false⟩), (16, some ⟨.agg [.err 155 (16) (offE eo (16))], errT, false⟩), (0, some ⟨.agg [.err 155 (17) (offE eo (17))], errT, false⟩), (17, some ⟨.agg [.err 155 (18) (offE eo (18))], errT, false⟩), (18, some ⟨.agg [.err 155 (19) (offE eo (19))], errT, false⟩), (19, some ⟨.agg [.err 155 (20) (offE eo (20))], errT, false⟩), (401, some ⟨.agg [], errT, false⟩), (402, some ⟨.agg [], errT, false⟩), (403, some ⟨.agg [], errT, false⟩), (404, some ⟨.agg [], errT, false⟩), (405, some ⟨.agg [], errT, false⟩), (406, some ⟨.agg [], errT, false⟩), (407, some ⟨.agg [], errT, false⟩), (408, some ⟨.agg [], errT, false⟩), (409, some ⟨.agg [], errT, false⟩), (410, some ⟨.agg [], errT, false⟩), (411, some ⟨.agg [], errT, false⟩), (412, some ⟨.agg [], errT, false⟩), (413, some ⟨.agg [], errT, false⟩), (414, some ⟨.agg [], errT, false⟩), (415, some ⟨.agg [], errT, false⟩), (416, some ⟨.agg [], errT, false⟩), (417, some ⟨.agg [], errT, false⟩), (418, some ⟨.agg [], errT, false⟩), (419, some ⟨.agg [], errT, false⟩), (420, some ⟨.agg [], errT, false⟩)] (.tup [.agg [.i64 a, .i64 b, .i64 c, .i64 0, .fsl (lsC ([] : List Ls)) ([] : List Ls).length 5], .hole]) [(500, some ⟨.agg [.i64 a, .i64 b, .i64 c, .mp 501, .i64 ep], 68, true⟩), (501, some ⟨mpV (delM M x) ck, 0, true⟩)] := by
 refine meets_of_ev (nt := 211) Tryd.func14 rfl rfl (Nat.le_of_ble_eq_true rfl) ?_
 refine .seq ?_
 refine .region ?_
 refine .a (op_boxRow rfl rfl) trivial rfl ?_
 refine .a (op_boxRow rfl rfl) trivial rfl ?_
 refine .a (op_allocRow zero32 rel_zero32 rfl) trivial rfl ?_
 refine .q (op_assign rfl) trivial rfl ?_
 refine .nil ?_
 show Ev _ _ _ _ _
 refine .seq ?_
 refine .drawn [[], [0], [0, 1], [], [3], [0, 1, 2, 3, 4], [0, 1, 2, 3, 4, 5], [0, 1, 2, 3, 4, 5, 6]] [1, 2, 4, 5] [] (by kernel_rfl) (by kernel_rfl) rfl ?_
 show DK _ [0, 1, 2, 3, 4, 5, 6, 7] _ _ _
 refine .q rfl (op_fieldAddr (m := 0) Tryd.underlying37 rfl (by kernel_rfl) rfl) trivial ?_
 refine .as (.ptr 1008 1) rfl ?_
 refine .q rfl (op_load Tryd.underlying9 rfl rfl rfl rfl (by show 1 < 5; decide)) trivial ?_
 refine .q rfl (op_call (U := []) [] [] (cut_ev T 70 hT (by decide)) Tryd.func8 (by kernel_rfl) rfl rfl rfl (⟨⟨_, rfl, rfl, rfl⟩, ⟨_, rfl, rfl, rfl⟩, trivial⟩) (trivial) (trivial) (trivial) rfl) trivial ?_
 refine .q rfl (op_fieldAddr (m := 0) Tryd.underlying37 rfl (by kernel_rfl) rfl) trivial ?_
 refine .as (.ptr 1008 2) rfl ?_
 refine .q rfl (op_load Tryd.underlying9 rfl rfl rfl rfl (by show 2 < 5; decide)) trivial ?_
 refine .q rfl (op_call (U := []) [] [] (cut_ev A 70 hA (by decide)) Tryd.func8 (by kernel_rfl) rfl rfl rfl (⟨⟨_, rfl, rfl, rfl⟩, ⟨_, rfl, rfl, rfl⟩, trivial⟩) (trivial) (trivial) (trivial) rfl) trivial ?_
 refine .q rfl (op_assign rfl) trivial ?_
 refine .q rfl (op_assign rfl) trivial ?_
 refine .nil ?_
 show Ev _ _ _ _ _
 refine .seq ?_
 refine .region ?_
 refine .q (op_loadRow Tryd.underlying32 rfl (by kernel_rfl) rfl rfl rfl (rfl)) trivial rfl ?_
 refine .q (op_move rfl) trivial rfl ?_
 refine .q (op_move rfl) trivial rfl ?_
 refine .q (op_call (U := []) [] [] (rat_ev a b c 0 ([] : List Ls) (Nat.zero_le _) (T.take 70) (A.take 70)) Tryd.func31 (by kernel_rfl) rfl rfl rfl (⟨⟨_, rfl, rfl, rfl⟩, ⟨_, rfl, rfl, rfl⟩, ⟨_, rfl, rfl, rfl⟩, trivial⟩) (trivial) (trivial) (trivial) rfl) trivial rfl ?_
 refine .as (.i64 (-1)) rfl ?_
 refine .q (op_assign rfl) trivial rfl ?_
 refine .nil ?_
 show Ev _ _ _ _ _
 refine .seq ?_
 refine .seq ?_
 refine .region ?_
 refine .q (op_fieldAddr (m := 0) Tryd.underlying37 rfl (by kernel_rfl) rfl) trivial rfl ?_
 refine .as (.ptr 1008 0) rfl ?_
 refine .q (op_load Tryd.underlying3 rfl rfl rfl rfl (by show 0 < 5; decide)) trivial rfl ?_
 refine .nil ?_
 show Ev _ _ _ _ _
 refine .block ?_
 refine .seq ?_
 refine .region ?_
 refine .q (op_cmpI rfl rfl rfl) trivial rfl ?_
 refine .q (op_assign rfl) trivial rfl ?_
 refine .nil ?_
 show Ev _ _ _ _ _
 refine .cond_false rfl (rfl) ?_
 refine .seq ?_
 refine .region ?_
 refine .q (op_cmpI rfl rfl rfl) trivial rfl ?_
 refine .q (op_assign rfl) trivial rfl ?_
 refine .nil ?_
 show Ev _ _ _ _ _
 refine .cond_true rfl (rfl) ?_
 refine .seq ?_
 refine .region ?_
 refine .q (op_move rfl) trivial rfl ?_
 refine .q (op_move rfl) trivial rfl ?_
 refine .q (op_move rfl) trivial rfl ?_
 refine .q (op_fieldAddr (m := 0) Tryd.underlying37 rfl (by kernel_rfl) rfl) trivial rfl ?_
 refine .as (.ptr 1008 3) rfl ?_
 refine .q (op_load Tryd.underlying3 rfl rfl rfl rfl (by show 3 < 5; decide)) trivial rfl ?_
 refine .a (op_call (U := [(501, some ⟨mpV (delM M x) ck, 0, true⟩)]) [(500, 500), (501, 501)] [] (cancelY2 a b c ep h hx h1 h2 o hw) Tryd.func21 (by kernel_rfl) rfl rfl rfl (⟨⟨_, rfl, rfl, rfl⟩, ⟨_, rfl, rfl, rfl⟩, ⟨_, rfl, rfl, rfl⟩, ⟨_, rfl, rfl, rfl⟩, trivial⟩) (⟨⟨_, _, rfl, rfl, rfl, rfl, (fun h => by cases h), rfl⟩, ⟨_, _, rfl, rfl, rfl, rfl, id, rfl⟩, trivial⟩) (⟨⟨501, _, rfl, rfl, rfl, rfl, .inr ⟨rfl, _, rfl, rfl⟩⟩, trivial⟩) (⟨(fun h => by cases h), (fun _ => ⟨501, _, rfl, rfl⟩), trivial⟩) rfl) trivial rfl ?_
 refine .q (op_move rfl) trivial rfl ?_
 refine .q (op_extract rfl rfl) trivial rfl ?_
 refine .q (op_extract rfl rfl) trivial rfl ?_
 refine .a (op_allocRow zero45 rel_zero45 rfl) trivial rfl ?_
 refine .w (op_storeRow (by kernel_rfl) rfl rfl rfl rfl rfl (rfl) (rfl)) trivial rfl ?_
 refine .q (op_assign rfl) trivial rfl ?_
 refine .nil ?_
 show Ev _ _ _ _ _
 refine .seq ?_
 refine .region ?_
 refine .q (op_loadRow Tryd.underlying32 rfl (by kernel_rfl) rfl rfl rfl (rfl)) trivial rfl ?_
 refine .q (op_move rfl) trivial rfl ?_
 refine .q (op_move rfl) trivial rfl ?_
 refine .q (op_fieldAddr (m := 0) Tryd.underlying37 rfl (by kernel_rfl) rfl) trivial rfl ?_
 refine .as (.ptr 1008 3) rfl ?_
 refine .q (op_load Tryd.underlying3 rfl rfl rfl rfl (by show 3 < 5; decide)) trivial rfl ?_
 refine .q (op_buildS (r := .agg _) Tryd.underlying70 rfl zero70 rel_zero70 rfl rfl rfl rfl) trivial rfl ?_
 refine .q (op_call (U := []) [] [] (sift2_ev a b c 0 ([] : List Ls) (Nat.zero_le _) ⟨(T.take 70), (A.take 70), o, 0, 0⟩) Tryd.func32 (by kernel_rfl) rfl rfl rfl (⟨⟨_, rfl, rfl, rfl⟩, ⟨_, rfl, rfl, rfl⟩, ⟨_, rfl, rfl, rfl⟩, ⟨_, rfl, rfl, rfl⟩, trivial⟩) (trivial) (trivial) (trivial) rfl) trivial rfl ?_
 refine .q (op_move rfl) trivial rfl ?_
 refine .q (op_extract rfl rfl) trivial rfl ?_
 refine .q (op_extract rfl rfl) trivial rfl ?_
 refine .a (op_allocRow zero32 rel_zero32 rfl) trivial rfl ?_
 refine .w (op_storeRow (by kernel_rfl) rfl rfl rfl rfl rfl (rfl) (rfl)) trivial rfl ?_
 refine .q (op_assign rfl) trivial rfl ?_
 refine .nil ?_
 show Ev _ _ _ _ _
 refine .seq ?_
 refine .seq ?_
 refine .region ?_
 refine .q (op_move rfl) trivial rfl ?_
 refine .q (op_len_fsl Tryd.underlying30 rfl) trivial rfl ?_
 refine .q (op_cmpI rfl rfl rfl) trivial rfl ?_
 refine .nil ?_
 show Ev _ _ _ _ _
 refine .cond_true rfl (rfl) ?_
 refine .seq ?_
 refine .drawnF [[], [], [], [1, 2], [1, 2, 3], [1, 2, 3, 4], [1, 2, 3, 4, 5], [1, 2, 3, 4, 5, 6], [1, 2, 3, 4, 5, 6, 7], [0, 1, 2, 3, 4, 5, 6], [0, 1, 2, 3, 4, 5, 6, 7, 8, 9]] [0, 1, 6, 9] [] [(0, ([1000], [])), (1, ([1096], [])), (6, ([3, 4, 5, 6, 7, 8, 9, 2, 1, 10, 11, 12, 13, 14, 15, 16, 0, 17, 18, 19, 401, 402, 403, 404, 405, 406, 407, 408, 409, 410, 411, 412, 413, 414, 415, 416, 417, 418, 419, 420], [])), (9, ([], [1016]))] (by kernel_rfl) (by kernel_rfl) rfl ?_
 show DK _ [0, 1, 2, 3, 4, 5, 6, 7, 8, 9, 10] _ _ _
 refine .q rfl (op_loadRow Tryd.underlying32 rfl (by kernel_rfl) rfl rfl rfl (rfl)) trivial ?_
 refine .q rfl (op_loadRow Tryd.underlying45 rfl (by kernel_rfl) rfl rfl rfl (rfl)) trivial ?_
 refine .q rfl (op_buildS (r := .agg _) Tryd.underlying45 rfl zero45 rel_zero45 rfl rfl rfl rfl) trivial ?_
 refine .q rfl (op_eqlLsP (p := x) (q := ⟨[], [], 0, 0, 0⟩) rfl rfl) trivial ?_
 refine .as (.bool false) (congrArg AV.bool (decide_eq_false hx0)) ?_
 refine .q rfl (op_move rfl) trivial ?_
 refine .know (b' := false) (rfl) ?_
 refine .no rfl ⟨_, rfl, rfl⟩ ?_
 refine .no rfl ⟨_, rfl, rfl⟩ ?_
 refine .no rfl ⟨_, rfl, rfl⟩ ?_
 refine .q rfl (op_pick_false rfl rfl rfl) trivial ?_
 refine .w rfl (op_storeRow (by kernel_rfl) rfl rfl rfl rfl rfl (rfl) (rfl)) trivial rfl rfl ?_
 refine .q rfl (op_assign rfl) trivial ?_
 refine .nil ?_
 show Ev _ _ _ _ _
 refine Ev.asR (T1 := []) .hole (fun _ _ _ => .hole _) ?_
 refine .ret ?_
 show RetOk _ _ _ _ _ _ _
 exact retc2 rfl (.inl rfl) ⟨_, _, _, _, rfl, rfl, rfl, rfl, rfl, Tryd.underlying32, rfl, sz32⟩ rfl ⟨rfl, rfl, trivial⟩
set_option maxRecDepth 100000 in
theorem stepE2O_ev (a b c ep : Int) {M : List (Ls × Nat)} {ck : Nat} {L : List Ls} (h : MI M ck L) (eo : Nat → Nat × Nat) (hd : ∀ i j, i < 20 → j < 20 → i ≠ j → eo i ≠ eo j) (T A : List UInt8) (hT : T.length ≤ maxLen) (hA : A.length ≤ maxLen) (o n : Int) {x : Ls} (hx : x ∈ L) (h1 : x.t = (T.take 70)) (h2 : x.a = (A.take 70)) (_hx0 : x ≠ ⟨[], [], 0, 0, 0⟩) (hw : x.o ≠ o)  : Meets Tryd.prog 14 [.ptr 500 0, .agg [.i64 a, .i64 b, .i64 c, .i64 0, .fsl (lsC ([] : List Ls)) ([] : List Ls).length 5], .agg [.i64 2, .str T, .str A, .i64 o, .i64 n]] [(500, some ⟨.agg [.i64 a, .i64 b, .i64 c, .mp 501, .i64 ep], 68, true⟩), (501, some ⟨mpV (M) (ck), 0, true⟩), (3, some ⟨.agg [.err 155 (1) (offE eo (1))], errT, false⟩), (4, some ⟨.agg [.err 155 (2) (offE eo (2))], errT, false⟩), (5, some ⟨.agg [.err 155 (3) (offE eo (3))], errT, false⟩), (6, some ⟨.agg [.err 155 (4) (offE eo (4))], errT, false⟩), (7, some ⟨.agg [.err 155 (5) (offE eo (5))], errT, false⟩), (8, some ⟨.agg [.err 155 (6) (offE eo (6))], errT, false⟩), (9, some ⟨.agg [.err 155 (7) (offE eo (7))], errT, false⟩), (2, some ⟨.agg [.err 155 (8) (offE eo (8))], errT, false⟩), (1, some ⟨.agg [.err 155 (9) (offE eo (9))], errT, false⟩), (10, some ⟨.agg [.err 155 (10) (offE eo (10))], errT, false⟩), (11, some ⟨.agg [.err 155 (11) (offE eo (11))], errT, false⟩), (12, some ⟨.agg [.err 155 (12) (offE eo (12))], errT, false⟩), (13, some ⟨.agg [.err 155 (13) (offE eo (13))], errT, false⟩), (14, some ⟨.agg [.err 155 (14) (offE eo (14))], errT, false⟩), (15, some ⟨.agg [.err 155 (15) (offE eo (15))], errT, false⟩), (16, some ⟨.agg [.err 155 (16) (offE eo (16))], errT, false⟩), (0, some ⟨.agg [.err 155 (17) (offE eo (17))], errT, false⟩), (17, some ⟨.agg [.err 155 (18) (offE eo (18))], errT, false⟩), (18, some ⟨.agg [.err 155 (19) (offE eo (19))], errT, false⟩), (19, some ⟨.agg [.err 155 (20) (offE eo (20))], errT, false⟩), (401, some ⟨.agg [], errT, false⟩), (402, some ⟨.agg [], errT, false⟩), (403, some ⟨.agg [], errT, false⟩), (404, some ⟨.agg [], errT, false⟩), (405, some ⟨.agg [], errT, false⟩), (406, some ⟨.agg [], errT, false⟩), (407, some ⟨.agg [], errT, false⟩), (408, some ⟨.agg [], errT, false⟩), (409, some ⟨.agg [], errT, false⟩), (410, some ⟨.agg [], errT, false⟩), (411, some ⟨.agg [], errT, false⟩), (412, some ⟨.agg [], errT, false⟩), (413, some ⟨.agg [], errT, false⟩), (414, some ⟨.agg [], errT, false⟩), (415, some ⟨.agg [], errT, false⟩), (416, some ⟨.agg [], errT, false⟩), (417, some ⟨.agg [], errT, false⟩), (418, some ⟨.agg [], errT, false⟩), (419, some ⟨.agg [], errT, false⟩), (420, some ⟨.agg [], errT, false⟩)] (.tup [.agg [.i64 a, .i64 b, .i64 c, .i64 0, .fsl (lsC ([] : List Ls)) ([] : List Ls).length 5], .hole]) [(500, some ⟨.agg [.i64 a, .i64 b, .i64 c, .mp 501, .i64 ep], 68, true⟩), (501, some ⟨mpV M ck, 0, true⟩)] := by
 refine meets_of_ev (nt := 211) Tryd.func14 rfl rfl (Nat.le_of_ble_eq_true rfl) ?_
 refine .seq ?_
 refine .region ?_
 refine .a (op_boxRow rfl rfl) trivial rfl ?_
 refine .a (op_boxRow rfl rfl) trivial rfl ?_
 refine .a (op_allocRow zero32 rel_zero32 rfl) trivial rfl ?_
 refine .q (op_assign rfl) trivial rfl ?_
 refine .nil ?_
 show Ev _ _ _ _ _
 refine .seq ?_
 refine .drawn [[], [0], [0, 1], [], [3], [0, 1, 2, 3, 4], [0, 1, 2, 3, 4, 5], [0, 1, 2, 3, 4, 5, 6]] [1, 2, 4, 5] [] (by kernel_rfl) (by kernel_rfl) rfl ?_
 show DK _ [0, 1, 2, 3, 4, 5, 6, 7] _ _ _
 refine .q rfl (op_fieldAddr (m := 0) Tryd.underlying37 rfl (by kernel_rfl) rfl) trivial ?_
 refine .as (.ptr 1008 1) rfl ?_
 refine .q rfl (op_load Tryd.underlying9 rfl rfl rfl rfl (by show 1 < 5; decide)) trivial ?_
 refine .q rfl (op_call (U := []) [] [] (cut_ev T 70 hT (by decide)) Tryd.func8 (by kernel_rfl) rfl rfl rfl (⟨⟨_, rfl, rfl, rfl⟩, ⟨_, rfl, rfl, rfl⟩, trivial⟩) (trivial) (trivial) (trivial) rfl) trivial ?_
 refine .q rfl (op_fieldAddr (m := 0) Tryd.underlying37 rfl (by kernel_rfl) rfl) trivial ?_
 refine .as (.ptr 1008 2) rfl ?_
 refine .q rfl (op_load Tryd.underlying9 rfl rfl rfl rfl (by show 2 < 5; decide)) trivial ?_
 refine .q rfl (op_call (U := []) [] [] (cut_ev A 70 hA (by decide)) Tryd.func8 (by kernel_rfl) rfl rfl rfl (⟨⟨_, rfl, rfl, rfl⟩, ⟨_, rfl, rfl, rfl⟩, trivial⟩) (trivial) (trivial) (trivial) rfl) trivial ?_
 refine .q rfl (op_assign rfl) trivial ?_
 refine .q rfl (op_assign rfl) trivial ?_
 refine .nil ?_
 show Ev _ _ _ _ _
 refine .seq ?_
 refine .region ?_
 refine .q (op_loadRow Tryd.underlying32 rfl (by kernel_rfl) rfl rfl rfl (rfl)) trivial rfl ?_
 refine .q (op_move rfl) trivial rfl ?_
 refine .q (op_move rfl) trivial rfl ?_
 refine .q (op_call (U := []) [] [] (rat_ev a b c 0 ([] : List Ls) (Nat.zero_le _) (T.take 70) (A.take 70)) Tryd.func31 (by kernel_rfl) rfl rfl rfl (⟨⟨_, rfl, rfl, rfl⟩, ⟨_, rfl, rfl, rfl⟩, ⟨_, rfl, rfl, rfl⟩, trivial⟩) (trivial) (trivial) (trivial) rfl) trivial rfl ?_
 refine .as (.i64 (-1)) rfl ?_
 refine .q (op_assign rfl) trivial rfl ?_
 refine .nil ?_
 show Ev _ _ _ _ _
 refine .seq ?_
 refine .seq ?_
 refine .region ?_
 refine .q (op_fieldAddr (m := 0) Tryd.underlying37 rfl (by kernel_rfl) rfl) trivial rfl ?_
 refine .as (.ptr 1008 0) rfl ?_
 refine .q (op_load Tryd.underlying3 rfl rfl rfl rfl (by show 0 < 5; decide)) trivial rfl ?_
 refine .nil ?_
 show Ev _ _ _ _ _
 refine .block ?_
 refine .seq ?_
 refine .region ?_
 refine .q (op_cmpI rfl rfl rfl) trivial rfl ?_
 refine .q (op_assign rfl) trivial rfl ?_
 refine .nil ?_
 show Ev _ _ _ _ _
 refine .cond_false rfl (rfl) ?_
 refine .seq ?_
 refine .region ?_
 refine .q (op_cmpI rfl rfl rfl) trivial rfl ?_
 refine .q (op_assign rfl) trivial rfl ?_
 refine .nil ?_
 show Ev _ _ _ _ _
 refine .cond_true rfl (rfl) ?_
 refine .seq ?_
 refine .region ?_
 refine .q (op_move rfl) trivial rfl ?_
 refine .q (op_move rfl) trivial rfl ?_
 refine .q (op_move rfl) trivial rfl ?_
 refine .q (op_fieldAddr (m := 0) Tryd.underlying37 rfl (by kernel_rfl) rfl) trivial rfl ?_
 refine .as (.ptr 1008 3) rfl ?_
 refine .q (op_load Tryd.underlying3 rfl rfl rfl rfl (by show 3 < 5; decide)) trivial rfl ?_
 refine .q (op_call (U := []) [(500, 500), (501, 501)] [] (cancelO2 a b c ep h hx h1 h2 o hw eo) Tryd.func21 (by kernel_rfl) rfl rfl rfl (⟨⟨_, rfl, rfl, rfl⟩, ⟨_, rfl, rfl, rfl⟩, ⟨_, rfl, rfl, rfl⟩, ⟨_, rfl, rfl, rfl⟩, trivial⟩) (⟨⟨_, _, rfl, rfl, rfl, rfl, (fun h => by cases h), rfl⟩, ⟨_, _, rfl, rfl, rfl, rfl, (fun h => by cases h), rfl⟩, ⟨_, _, rfl, rfl, rfl, rfl, (fun h => by cases h), rfl⟩, trivial⟩) (trivial) (⟨(fun h => by cases h), (fun h => by cases h), (fun h => by cases h), trivial⟩) rfl) trivial rfl ?_
 refine .q (op_move rfl) trivial rfl ?_
 refine .q (op_extract rfl rfl) trivial rfl ?_
 refine .q (op_extract rfl rfl) trivial rfl ?_
 refine .a (op_allocRow zero45 rel_zero45 rfl) trivial rfl ?_
 refine .w (op_storeRow (by kernel_rfl) rfl rfl rfl rfl rfl (rfl) (rfl)) trivial rfl ?_
 refine .q (op_assign rfl) trivial rfl ?_
 refine .nil ?_
 show Ev _ _ _ _ _
 refine .seq ?_
 refine .region ?_
 refine .q (op_loadRow Tryd.underlying32 rfl (by kernel_rfl) rfl rfl rfl (rfl)) trivial rfl ?_
 refine .q (op_move rfl) trivial rfl ?_
 refine .q (op_move rfl) trivial rfl ?_
 refine .q (op_fieldAddr (m := 0) Tryd.underlying37 rfl (by kernel_rfl) rfl) trivial rfl ?_
 refine .as (.ptr 1008 3) rfl ?_
 refine .q (op_load Tryd.underlying3 rfl rfl rfl rfl (by show 3 < 5; decide)) trivial rfl ?_
 refine .q (op_buildS (r := .agg _) Tryd.underlying70 rfl zero70 rel_zero70 rfl rfl rfl rfl) trivial rfl ?_
 refine .q (op_call (U := []) [] [] (sift2_ev a b c 0 ([] : List Ls) (Nat.zero_le _) ⟨(T.take 70), (A.take 70), o, 0, 0⟩) Tryd.func32 (by kernel_rfl) rfl rfl rfl (⟨⟨_, rfl, rfl, rfl⟩, ⟨_, rfl, rfl, rfl⟩, ⟨_, rfl, rfl, rfl⟩, ⟨_, rfl, rfl, rfl⟩, trivial⟩) (trivial) (trivial) (trivial) rfl) trivial rfl ?_
 refine .q (op_move rfl) trivial rfl ?_
 refine .q (op_extract rfl rfl) trivial rfl ?_
 refine .q (op_extract rfl rfl) trivial rfl ?_
 refine .a (op_allocRow zero32 rel_zero32 rfl) trivial rfl ?_
 refine .w (op_storeRow (by kernel_rfl) rfl rfl rfl rfl rfl (rfl) (rfl)) trivial rfl ?_
 refine .q (op_assign rfl) trivial rfl ?_
 refine .nil ?_
 show Ev _ _ _ _ _
 refine .seq ?_
 refine .seq ?_
 refine .region ?_
 refine .q (op_move rfl) trivial rfl ?_
 refine .q (op_len_fsl Tryd.underlying30 rfl) trivial rfl ?_
 refine .q (op_cmpI rfl rfl rfl) trivial rfl ?_
 refine .nil ?_
 show Ev _ _ _ _ _
 refine .cond_true rfl (rfl) ?_
 refine .seq ?_
 refine .drawnF [[], [], [], [1, 2], [1, 2, 3], [1, 2, 3, 4], [1, 2, 3, 4, 5], [1, 2, 3, 4, 5, 6], [1, 2, 3, 4, 5, 6, 7], [0, 1, 2, 3, 4, 5, 6], [0, 1, 2, 3, 4, 5, 6, 7, 8, 9]] [0, 1, 6, 9] [] [(0, ([1000], [])), (1, ([1088], [])), (6, ([3, 4, 5, 6, 7, 8, 9, 2, 1, 10, 11, 12, 13, 14, 15, 16, 0, 17, 18, 19, 401, 402, 403, 404, 405, 406, 407, 408, 409, 410, 411, 412, 413, 414, 415, 416, 417, 418, 419, 420], [])), (9, ([], [1016]))] (by kernel_rfl) (by kernel_rfl) rfl ?_
 show DK _ [0, 1, 2, 3, 4, 5, 6, 7, 8, 9, 10] _ _ _
 refine .q rfl (op_loadRow Tryd.underlying32 rfl (by kernel_rfl) rfl rfl rfl (rfl)) trivial ?_
 refine .q rfl (op_loadRow Tryd.underlying45 rfl (by kernel_rfl) rfl rfl rfl (rfl)) trivial ?_
 refine .q rfl (op_buildS (r := .agg _) Tryd.underlying45 rfl zero45 rel_zero45 rfl rfl rfl rfl) trivial ?_
 refine .q rfl (op_eqlLsP (p := ⟨[], [], 0, 0, 0⟩) (q := ⟨[], [], 0, 0, 0⟩) rfl rfl) trivial ?_
 refine .as (.bool true) (congrArg AV.bool (decide_eq_true rfl)) ?_
 refine .q rfl (op_move rfl) trivial ?_
 refine .know (b' := true) (rfl) ?_
 refine .q rfl (op_move rfl) ⟨_, rfl, rfl⟩ ?_
 refine .q rfl (op_call (U := []) [] [] (code_8 eo hd) Tryd.func25 (by kernel_rfl) rfl rfl rfl (⟨⟨_, rfl, rfl, rfl⟩, trivial⟩) (⟨⟨_, _, rfl, rfl, rfl, rfl, (fun h => by cases h), rfl⟩, ⟨_, _, rfl, rfl, rfl, rfl, (fun h => by cases h), rfl⟩, ⟨_, _, rfl, rfl, rfl, rfl, (fun h => by cases h), rfl⟩, ⟨_, _, rfl, rfl, rfl, rfl, (fun h => by cases h), rfl⟩, ⟨_, _, rfl, rfl, rfl, rfl, (fun h => by cases h), rfl⟩, ⟨_, _, rfl, rfl, rfl, rfl, (fun h => by cases h), rfl⟩, ⟨_, _, rfl, rfl, rfl, rfl, (fun h => by cases h), rfl⟩, ⟨_, _, rfl, rfl, rfl, rfl, (fun h => by cases h), rfl⟩, ⟨_, _, rfl, rfl, rfl, rfl, (fun h => by cases h), rfl⟩, ⟨_, _, rfl, rfl, rfl, rfl, (fun h => by cases h), rfl⟩, ⟨_, _, rfl, rfl, rfl, rfl, (fun h => by cases h), rfl⟩, ⟨_, _, rfl, rfl, rfl, rfl, (fun h => by cases h), rfl⟩, ⟨_, _, rfl, rfl, rfl, rfl, (fun h => by cases h), rfl⟩, ⟨_, _, rfl, rfl, rfl, rfl, (fun h => by cases h), rfl⟩, ⟨_, _, rfl, rfl, rfl, rfl, (fun h => by cases h), rfl⟩, ⟨_, _, rfl, rfl, rfl, rfl, (fun h => by cases h), rfl⟩, ⟨_, _, rfl, rfl, rfl, rfl, (fun h => by cases h), rfl⟩, ⟨_, _, rfl, rfl, rfl, rfl, (fun h => by cases h), rfl⟩, ⟨_, _, rfl, rfl, rfl, rfl, (fun h => by cases h), rfl⟩, ⟨_, _, rfl, rfl, rfl, rfl, (fun h => by cases h), rfl⟩, ⟨_, _, rfl, rfl, rfl, rfl, (fun h => by cases h), rfl⟩, ⟨_, _, rfl, rfl, rfl, rfl, (fun h => by cases h), rfl⟩, ⟨_, _, rfl, rfl, rfl, rfl, (fun h => by cases h), rfl⟩, ⟨_, _, rfl, rfl, rfl, rfl, (fun h => by cases h), rfl⟩, ⟨_, _, rfl, rfl, rfl, rfl, (fun h => by cases h), rfl⟩, ⟨_, _, rfl, rfl, rfl, rfl, (fun h => by cases h), rfl⟩, ⟨_, _, rfl, rfl, rfl, rfl, (fun h => by cases h), rfl⟩, ⟨_, _, rfl, rfl, rfl, rfl, (fun h => by cases h), rfl⟩, ⟨_, _, rfl, rfl, rfl, rfl, (fun h => by cases h), rfl⟩, ⟨_, _, rfl, rfl, rfl, rfl, (fun h => by cases h), rfl⟩, ⟨_, _, rfl, rfl, rfl, rfl, (fun h => by cases h), rfl⟩, ⟨_, _, rfl, rfl, rfl, rfl, (fun h => by cases h), rfl⟩, ⟨_, _, rfl, rfl, rfl, rfl, (fun h => by cases h), rfl⟩, ⟨_, _, rfl, rfl, rfl, rfl, (fun h => by cases h), rfl⟩, ⟨_, _, rfl, rfl, rfl, rfl, (fun h => by cases h), rfl⟩, ⟨_, _, rfl, rfl, rfl, rfl, (fun h => by cases h), rfl⟩, ⟨_, _, rfl, rfl, rfl, rfl, (fun h => by cases h), rfl⟩, ⟨_, _, rfl, rfl, rfl, rfl, (fun h => by cases h), rfl⟩, ⟨_, _, rfl, rfl, rfl, rfl, (fun h => by cases h), rfl⟩, ⟨_, _, rfl, rfl, rfl, rfl, (fun h => by cases h), rfl⟩, trivial⟩) (trivial) (⟨(fun h => by cases h), (fun h => by cases h), (fun h => by cases h), (fun h => by cases h), (fun h => by cases h), (fun h => by cases h), (fun h => by cases h), (fun h => by cases h), (fun h => by cases h), (fun h => by cases h), (fun h => by cases h), (fun h => by cases h), (fun h => by cases h), (fun h => by cases h), (fun h => by cases h), (fun h => by cases h), (fun h => by cases h), (fun h => by cases h), (fun h => by cases h), (fun h => by cases h), (fun h => by cases h), (fun h => by cases h), (fun h => by cases h), (fun h => by cases h), (fun h => by cases h), (fun h => by cases h), (fun h => by cases h), (fun h => by cases h), (fun h => by cases h), (fun h => by cases h), (fun h => by cases h), (fun h => by cases h), (fun h => by cases h), (fun h => by cases h), (fun h => by cases h), (fun h => by cases h), (fun h => by cases h), (fun h => by cases h), (fun h => by cases h), (fun h => by cases h), trivial⟩) rfl) ⟨_, rfl, rfl⟩ ?_
 refine .q rfl (op_cmpI rfl rfl rfl) ⟨_, rfl, rfl⟩ ?_
 refine .q rfl (op_pick_true rfl rfl rfl) trivial ?_
 refine .w rfl (op_storeRow (by kernel_rfl) rfl rfl rfl rfl rfl (rfl) (rfl)) trivial rfl rfl ?_
 refine .q rfl (op_assign rfl) trivial ?_
 refine .nil ?_
 show Ev _ _ _ _ _
 refine Ev.asR (T1 := []) .hole (fun _ _ _ => .hole _) ?_
 refine .ret ?_
 show RetOk _ _ _ _ _ _ _
 exact retc2 rfl (.inl rfl) ⟨_, _, _, _, rfl, rfl, rfl, rfl, rfl, Tryd.underlying32, rfl, sz32⟩ rfl ⟨rfl, rfl, trivial⟩
set_option maxRecDepth 100000 in
theorem stepE2N_ev (a b c ep : Int) {M : List (Ls × Nat)} {ck : Nat} {L : List Ls} (h : MI M ck L) (eo : Nat → Nat × Nat) (hd : ∀ i j, i < 20 → j < 20 → i ≠ j → eo i ≠ eo j) (T A : List UInt8) (hT : T.length ≤ maxLen) (hA : A.length ≤ maxLen) (o n : Int) (hn : ∀ x ∈ L, ¬ (x.t = (T.take 70) ∧ x.a = (A.take 70)))  : Meets Tryd.prog 14 [.ptr 500 0, .agg [.i64 a, .i64 b, .i64 c, .i64 0, .fsl (lsC ([] : List Ls)) ([] : List Ls).length 5], .agg [.i64 2, .str T, .str A, .i64 o, .i64 n]] [(500, some ⟨.agg [.i64 a, .i64 b, .i64 c, .mp 501, .i64 ep], 68, true⟩), (501, some ⟨mpV (M) (ck), 0, true⟩), (3, some ⟨.agg [.err 155 (1) (offE eo (1))], errT, false⟩), (4, some ⟨.agg [.err 155 (2) (offE eo (2))], errT, false⟩), (5, some ⟨.agg [.err 155 (3) (offE eo (3))], errT, false⟩), (6, some ⟨.agg [.err 155 (4) (offE eo (4))], errT, false⟩), (7, some ⟨.agg [.err 155 (5) (offE eo (5))], errT, false⟩), (8, some ⟨.agg [.err 155 (6) (offE eo (6))], errT, false⟩), (9, some ⟨.agg [.err 155 (7) (offE eo (7))], errT, false⟩), (2, some ⟨.agg [.err 155 (8) (offE eo (8))], errT, false⟩), (1, some ⟨.agg [.err 155 (9) (offE eo (9))], errT, false⟩), (10, some ⟨.agg [.err 155 (10) (offE eo (10))], errT, false⟩), (11, some ⟨.agg [.err 155 (11) (offE eo (11))], errT, false⟩), (12, some ⟨.agg [.err 155 (12) (offE eo (12))], errT, false⟩), (13, some ⟨.agg [.err 155 (13) (offE eo (13))], errT, false⟩), (14, some ⟨.agg [.err 155 (14) (offE eo (14))], errT, false⟩), (15, some ⟨.agg [.err 155 (15) (offE eo (15))], errT, false⟩), (16, some ⟨.agg [.err 155 (16) (offE eo (16))], errT, false⟩), (0, some ⟨.agg [.err 155 (17) (offE eo (17))], errT, false⟩), (17, some ⟨.agg [.err 155 (18) (offE eo (18))], errT, false⟩), (18, some ⟨.agg [.err 155 (19) (offE eo (19))], errT, false⟩), (19, some ⟨.agg [.err 155 (20) (offE eo (20))], errT, false⟩), (401, some ⟨.agg [], errT, false⟩), (402, some ⟨.agg [], errT, false⟩), (403, some ⟨.agg [], errT, false⟩), (404, some ⟨.agg [], errT, false⟩), (405, some ⟨.agg [], errT, false⟩), (406, some ⟨.agg [], errT, false⟩), (407, some ⟨.agg [], errT, false⟩), (408, some ⟨.agg [], errT, false⟩), (409, some ⟨.agg [], errT, false⟩), (410, some ⟨.agg [], errT, false⟩), (411, some ⟨.agg [], errT, false⟩), (412, some ⟨.agg [], errT, false⟩), (413, some ⟨.agg [], errT, false⟩), (414, some ⟨.agg [], errT, false⟩), (415, some ⟨.agg [], errT, false⟩), (416, some ⟨.agg [], errT, false⟩), (417, some ⟨.agg [], errT, false⟩), (418, some ⟨.agg [], errT, false⟩), (419, some ⟨.agg [], errT, false⟩), (420, some ⟨.agg [], errT, false⟩)] (.tup [.agg [.i64 a, .i64 b, .i64 c, .i64 0, .fsl (lsC ([] : List Ls)) ([] : List Ls).length 5], .hole]) [(500, some ⟨.agg [.i64 a, .i64 b, .i64 c, .mp 501, .i64 ep], 68, true⟩), (501, some ⟨mpV M ck, 0, true⟩)] := by
 refine meets_of_ev (nt := 211) Tryd.func14 rfl rfl (Nat.le_of_ble_eq_true rfl) ?_
 refine .seq ?_
 refine .region ?_
 refine .a (op_boxRow rfl rfl) trivial rfl ?_
 refine .a (op_boxRow rfl rfl) trivial rfl ?_
 refine .a (op_allocRow zero32 rel_zero32 rfl) trivial rfl ?_
 refine .q (op_assign rfl) trivial rfl ?_
 refine .nil ?_
 show Ev _ _ _ _ _
 refine .seq ?_
 refine .drawn [[], [0], [0, 1], [], [3], [0, 1, 2, 3, 4], [0, 1, 2, 3, 4, 5], [0, 1, 2, 3, 4, 5, 6]] [1, 2, 4, 5] [] (by kernel_rfl) (by kernel_rfl) rfl ?_
 show DK _ [0, 1, 2, 3, 4, 5, 6, 7] _ _ _
 refine .q rfl (op_fieldAddr (m := 0) Tryd.underlying37 rfl (by kernel_rfl) rfl) trivial ?_
 refine .as (.ptr 1008 1) rfl ?_
 refine .q rfl (op_load Tryd.underlying9 rfl rfl rfl rfl (by show 1 < 5; decide)) trivial ?_
 refine .q rfl (op_call (U := []) [] [] (cut_ev T 70 hT (by decide)) Tryd.func8 (by kernel_rfl) rfl rfl rfl (⟨⟨_, rfl, rfl, rfl⟩, ⟨_, rfl, rfl, rfl⟩, trivial⟩) (trivial) (trivial) (trivial) rfl) trivial ?_
 refine .q rfl (op_fieldAddr (m := 0) Tryd.underlying37 rfl (by kernel_rfl) rfl) trivial ?_
 refine .as (.ptr 1008 2) rfl ?_
 refine .q rfl (op_load Tryd.underlying9 rfl rfl rfl rfl (by show 2 < 5; decide)) trivial ?_
 refine .q rfl (op_call (U := []) [] [] (cut_ev A 70 hA (by decide)) Tryd.func8 (by kernel_rfl) rfl rfl rfl (⟨⟨_, rfl, rfl, rfl⟩, ⟨_, rfl, rfl, rfl⟩, trivial⟩) (trivial) (trivial) (trivial) rfl) trivial ?_
 refine .q rfl (op_assign rfl) trivial ?_
 refine .q rfl (op_assign rfl) trivial ?_
 refine .nil ?_
 show Ev _ _ _ _ _
 refine .seq ?_
 refine .region ?_
 refine .q (op_loadRow Tryd.underlying32 rfl (by kernel_rfl) rfl rfl rfl (rfl)) trivial rfl ?_
 refine .q (op_move rfl) trivial rfl ?_
 refine .q (op_move rfl) trivial rfl ?_
 refine .q (op_call (U := []) [] [] (rat_ev a b c 0 ([] : List Ls) (Nat.zero_le _) (T.take 70) (A.take 70)) Tryd.func31 (by kernel_rfl) rfl rfl rfl (⟨⟨_, rfl, rfl, rfl⟩, ⟨_, rfl, rfl, rfl⟩, ⟨_, rfl, rfl, rfl⟩, trivial⟩) (trivial) (trivial) (trivial) rfl) trivial rfl ?_
 refine .as (.i64 (-1)) rfl ?_
 refine .q (op_assign rfl) trivial rfl ?_
 refine .nil ?_
 show Ev _ _ _ _ _
 refine .seq ?_
 refine .seq ?_
 refine .region ?_
 refine .q (op_fieldAddr (m := 0) Tryd.underlying37 rfl (by kernel_rfl) rfl) trivial rfl ?_
 refine .as (.ptr 1008 0) rfl ?_
 refine .q (op_load Tryd.underlying3 rfl rfl rfl rfl (by show 0 < 5; decide)) trivial rfl ?_
 refine .nil ?_
 show Ev _ _ _ _ _
 refine .block ?_
 refine .seq ?_
 refine .region ?_
 refine .q (op_cmpI rfl rfl rfl) trivial rfl ?_
 refine .q (op_assign rfl) trivial rfl ?_
 refine .nil ?_
 show Ev _ _ _ _ _
 refine .cond_false rfl (rfl) ?_
 refine .seq ?_
 refine .region ?_
 refine .q (op_cmpI rfl rfl rfl) trivial rfl ?_
 refine .q (op_assign rfl) trivial rfl ?_
 refine .nil ?_
 show Ev _ _ _ _ _
 refine .cond_true rfl (rfl) ?_
 refine .seq ?_
 refine .region ?_
 refine .q (op_move rfl) trivial rfl ?_
 refine .q (op_move rfl) trivial rfl ?_
 refine .q (op_move rfl) trivial rfl ?_
 refine .q (op_fieldAddr (m := 0) Tryd.underlying37 rfl (by kernel_rfl) rfl) trivial rfl ?_
 refine .as (.ptr 1008 3) rfl ?_
 refine .q (op_load Tryd.underlying3 rfl rfl rfl rfl (by show 3 < 5; decide)) trivial rfl ?_
 refine .q (op_call (U := []) [(500, 500), (501, 501)] [] (cancelN_ev a b c ep h (by rw [List.length_take]; exact Nat.le_trans (Nat.min_le_right _ _) hT) (by rw [List.length_take]; exact Nat.le_trans (Nat.min_le_right _ _) hA) hn o eo) Tryd.func21 (by kernel_rfl) rfl rfl rfl (⟨⟨_, rfl, rfl, rfl⟩, ⟨_, rfl, rfl, rfl⟩, ⟨_, rfl, rfl, rfl⟩, ⟨_, rfl, rfl, rfl⟩, trivial⟩) (⟨⟨_, _, rfl, rfl, rfl, rfl, (fun h => by cases h), rfl⟩, ⟨_, _, rfl, rfl, rfl, rfl, (fun h => by cases h), rfl⟩, ⟨_, _, rfl, rfl, rfl, rfl, (fun h => by cases h), rfl⟩, trivial⟩) (trivial) (⟨(fun h => by cases h), (fun h => by cases h), (fun h => by cases h), trivial⟩) rfl) trivial rfl ?_
 refine .q (op_move rfl) trivial rfl ?_
 refine .q (op_extract rfl rfl) trivial rfl ?_
 refine .q (op_extract rfl rfl) trivial rfl ?_
 refine .a (op_allocRow zero45 rel_zero45 rfl) trivial rfl ?_
 refine .w (op_storeRow (by kernel_rfl) rfl rfl rfl rfl rfl (rfl) (rfl)) trivial rfl ?_
 refine .q (op_assign rfl) trivial rfl ?_
 refine .nil ?_
 show Ev _ _ _ _ _
 refine .seq ?_
 refine .region ?_
 refine .q (op_loadRow Tryd.underlying32 rfl (by kernel_rfl) rfl rfl rfl (rfl)) trivial rfl ?_
 refine .q (op_move rfl) trivial rfl ?_
 refine .q (op_move rfl) trivial rfl ?_
 refine .q (op_fieldAddr (m := 0) Tryd.underlying37 rfl (by kernel_rfl) rfl) trivial rfl ?_
 refine .as (.ptr 1008 3) rfl ?_
 refine .q (op_load Tryd.underlying3 rfl rfl rfl rfl (by show 3 < 5; decide)) trivial rfl ?_
 refine .q (op_buildS (r := .agg _) Tryd.underlying70 rfl zero70 rel_zero70 rfl rfl rfl rfl) trivial rfl ?_
 refine .q (op_call (U := []) [] [] (sift2_ev a b c 0 ([] : List Ls) (Nat.zero_le _) ⟨(T.take 70), (A.take 70), o, 0, 0⟩) Tryd.func32 (by kernel_rfl) rfl rfl rfl (⟨⟨_, rfl, rfl, rfl⟩, ⟨_, rfl, rfl, rfl⟩, ⟨_, rfl, rfl, rfl⟩, ⟨_, rfl, rfl, rfl⟩, trivial⟩) (trivial) (trivial) (trivial) rfl) trivial rfl ?_
 refine .q (op_move rfl) trivial rfl ?_
 refine .q (op_extract rfl rfl) trivial rfl ?_
 refine .q (op_extract rfl rfl) trivial rfl ?_
 refine .a (op_allocRow zero32 rel_zero32 rfl) trivial rfl ?_
 refine .w (op_storeRow (by kernel_rfl) rfl rfl rfl rfl rfl (rfl) (rfl)) trivial rfl ?_
 refine .q (op_assign rfl) trivial rfl ?_
 refine .nil ?_
 show Ev _ _ _ _ _
 refine .seq ?_
 refine .seq ?_
 refine .region ?_
 refine .q (op_move rfl) trivial rfl ?_
 refine .q (op_len_fsl Tryd.underlying30 rfl) trivial rfl ?_
 refine .q (op_cmpI rfl rfl rfl) trivial rfl ?_
 refine .nil ?_
 show Ev _ _ _ _ _
 refine .cond_true rfl (rfl) ?_
 refine .seq ?_
 refine .drawnF [[], [], [], [1, 2], [1, 2, 3], [1, 2, 3, 4], [1, 2, 3, 4, 5], [1, 2, 3, 4, 5, 6], [1, 2, 3, 4, 5, 6, 7], [0, 1, 2, 3, 4, 5, 6], [0, 1, 2, 3, 4, 5, 6, 7, 8, 9]] [0, 1, 6, 9] [] [(0, ([1000], [])), (1, ([1088], [])), (6, ([3, 4, 5, 6, 7, 8, 9, 2, 1, 10, 11, 12, 13, 14, 15, 16, 0, 17, 18, 19, 401, 402, 403, 404, 405, 406, 407, 408, 409, 410, 411, 412, 413, 414, 415, 416, 417, 418, 419, 420], [])), (9, ([], [1016]))] (by kernel_rfl) (by kernel_rfl) rfl ?_
 show DK _ [0, 1, 2, 3, 4, 5, 6, 7, 8, 9, 10] _ _ _
 refine .q rfl (op_loadRow Tryd.underlying32 rfl (by kernel_rfl) rfl rfl rfl (rfl)) trivial ?_
 refine .q rfl (op_loadRow Tryd.underlying45 rfl (by kernel_rfl) rfl rfl rfl (rfl)) trivial ?_
 refine .q rfl (op_buildS (r := .agg _) Tryd.underlying45 rfl zero45 rel_zero45 rfl rfl rfl rfl) trivial ?_
 refine .q rfl (op_eqlLsP (p := ⟨[], [], 0, 0, 0⟩) (q := ⟨[], [], 0, 0, 0⟩) rfl rfl) trivial ?_
 refine .as (.bool true) (congrArg AV.bool (decide_eq_true rfl)) ?_
 refine .q rfl (op_move rfl) trivial ?_
 refine .know (b' := true) (rfl) ?_
 refine .q rfl (op_move rfl) ⟨_, rfl, rfl⟩ ?_
 refine .q rfl (op_call (U := []) [] [] (code_8 eo hd) Tryd.func25 (by kernel_rfl) rfl rfl rfl (⟨⟨_, rfl, rfl, rfl⟩, trivial⟩) (⟨⟨_, _, rfl, rfl, rfl, rfl, (fun h => by cases h), rfl⟩, ⟨_, _, rfl, rfl, rfl, rfl, (fun h => by cases h), rfl⟩, ⟨_, _, rfl, rfl, rfl, rfl, (fun h => by cases h), rfl⟩, ⟨_, _, rfl, rfl, rfl, rfl, (fun h => by cases h), rfl⟩, ⟨_, _, rfl, rfl, rfl, rfl, (fun h => by cases h), rfl⟩, ⟨_, _, rfl, rfl, rfl, rfl, (fun h => by cases h), rfl⟩, ⟨_, _, rfl, rfl, rfl, rfl, (fun h => by cases h), rfl⟩, ⟨_, _, rfl, rfl, rfl, rfl, (fun h => by cases h), rfl⟩, ⟨_, _, rfl, rfl, rfl, rfl, (fun h => by cases h), rfl⟩, ⟨_, _, rfl, rfl, rfl, rfl, (fun h => by cases h), rfl⟩, ⟨_, _, rfl, rfl, rfl, rfl, (fun h => by cases h), rfl⟩, ⟨_, _, rfl, rfl, rfl, rfl, (fun h => by cases h), rfl⟩, ⟨_, _, rfl, rfl, rfl, rfl, (fun h => by cases h), rfl⟩, ⟨_, _, rfl, rfl, rfl, rfl, (fun h => by cases h), rfl⟩, ⟨_, _, rfl, rfl, rfl, rfl, (fun h => by cases h), rfl⟩, ⟨_, _, rfl, rfl, rfl, rfl, (fun h => by cases h), rfl⟩, ⟨_, _, rfl, rfl, rfl, rfl, (fun h => by cases h), rfl⟩, ⟨_, _, rfl, rfl, rfl, rfl, (fun h => by cases h), rfl⟩, ⟨_, _, rfl, rfl, rfl, rfl, (fun h => by cases h), rfl⟩, ⟨_, _, rfl, rfl, rfl, rfl, (fun h => by cases h), rfl⟩, ⟨_, _, rfl, rfl, rfl, rfl, (fun h => by cases h), rfl⟩, ⟨_, _, rfl, rfl, rfl, rfl, (fun h => by cases h), rfl⟩, ⟨_, _, rfl, rfl, rfl, rfl, (fun h => by cases h), rfl⟩, ⟨_, _, rfl, rfl, rfl, rfl, (fun h => by cases h), rfl⟩, ⟨_, _, rfl, rfl, rfl, rfl, (fun h => by cases h), rfl⟩, ⟨_, _, rfl, rfl, rfl, rfl, (fun h => by cases h), rfl⟩, ⟨_, _, rfl, rfl, rfl, rfl, (fun h => by cases h), rfl⟩, ⟨_, _, rfl, rfl, rfl, rfl, (fun h => by cases h), rfl⟩, ⟨_, _, rfl, rfl, rfl, rfl, (fun h => by cases h), rfl⟩, ⟨_, _, rfl, rfl, rfl, rfl, (fun h => by cases h), rfl⟩, ⟨_, _, rfl, rfl, rfl, rfl, (fun h => by cases h), rfl⟩, ⟨_, _, rfl, rfl, rfl, rfl, (fun h => by cases h), rfl⟩, ⟨_, _, rfl, rfl, rfl, rfl, (fun h => by cases h), rfl⟩, ⟨_, _, rfl, rfl, rfl, rfl, (fun h => by cases h), rfl⟩, ⟨_, _, rfl, rfl, rfl, rfl, (fun h => by cases h), rfl⟩, ⟨_, _, rfl, rfl, rfl, rfl, (fun h => by cases h), rfl⟩, ⟨_, _, rfl, rfl, rfl, rfl, (fun h => by cases h), rfl⟩, ⟨_, _, rfl, rfl, rfl, rfl, (fun h => by cases h), rfl⟩, ⟨_, _, rfl, rfl, rfl, rfl, (fun h => by cases h), rfl⟩, ⟨_, _, rfl, rfl, rfl, rfl, (fun h => by cases h), rfl⟩, trivial⟩) (trivial) (⟨(fun h => by cases h), (fun h => by cases h), (fun h => by cases h), (fun h => by cases h), (fun h => by cases h), (fun h => by cases h), (fun h => by cases h), (fun h => by cases h), (fun h => by cases h), (fun h => by cases h), (fun h => by cases h), (fun h => by cases h), (fun h => by cases h), (fun h => by cases h), (fun h => by cases h), (fun h => by cases h), (fun h => by cases h), (fun h => by cases h), (fun h => by cases h), (fun h => by cases h), (fun h => by cases h), (fun h => by cases h), (fun h => by cases h), (fun h => by cases h), (fun h => by cases h), (fun h => by cases h), (fun h => by cases h), (fun h => by cases h), (fun h => by cases h), (fun h => by cases h), (fun h => by cases h), (fun h => by cases h), (fun h => by cases h), (fun h => by cases h), (fun h => by cases h), (fun h => by cases h), (fun h => by cases h), (fun h => by cases h), (fun h => by cases h), (fun h => by cases h), trivial⟩) rfl) ⟨_, rfl, rfl⟩ ?_
 refine .q rfl (op_cmpI rfl rfl rfl) ⟨_, rfl, rfl⟩ ?_
 refine .q rfl (op_pick_true rfl rfl rfl) trivial ?_
 refine .w rfl (op_storeRow (by kernel_rfl) rfl rfl rfl rfl rfl (rfl) (rfl)) trivial rfl rfl ?_
 refine .q rfl (op_assign rfl) trivial ?_
 refine .nil ?_
 show Ev _ _ _ _ _
 refine Ev.asR (T1 := []) .hole (fun _ _ _ => .hole _) ?_
 refine .ret ?_
 show RetOk _ _ _ _ _ _ _
 exact retc2 rfl (.inl rfl) ⟨_, _, _, _, rfl, rfl, rfl, rfl, rfl, Tryd.underlying32, rfl, sz32⟩ rfl ⟨rfl, rfl, trivial⟩
set_option maxRecDepth 100000 in
theorem stepE3_ev (a b c ep : Int) {M : List (Ls × Nat)} {ck : Nat} {L : List Ls} (h : MI M ck L) (eo : Nat → Nat × Nat) (_hd : ∀ i j, i < 20 → j < 20 → i ≠ j → eo i ≠ eo j) (T A : List UInt8) (hT : T.length ≤ maxLen) (hA : A.length ≤ maxLen) (o n : Int)  : Meets Tryd.prog 14 [.ptr 500 0, .agg [.i64 a, .i64 b, .i64 c, .i64 0, .fsl (lsC ([] : List Ls)) ([] : List Ls).length 5], .agg [.i64 3, .str T, .str A, .i64 o, .i64 n]] [(500, some ⟨.agg [.i64 a, .i64 b, .i64 c, .mp 501, .i64 ep], 68, true⟩), (501, some ⟨mpV (M) (ck), 0, true⟩), (3, some ⟨.agg [.err 155 (1) (offE eo (1))], errT, false⟩), (4, some ⟨.agg [.err 155 (2) (offE eo (2))], errT, false⟩), (5, some ⟨.agg [.err 155 (3) (offE eo (3))], errT, false⟩), (6, some ⟨.agg [.err 155 (4) (offE eo (4))], errT, false⟩), (7, some ⟨.agg [.err 155 (5) (offE eo (5))], errT, false⟩), (8, some ⟨.agg [.err 155 (6) (offE eo (6))], errT, false⟩), (9, some ⟨.agg [.err 155 (7) (offE eo (7))], errT, false⟩), (2, some ⟨.agg [.err 155 (8) (offE eo (8))], errT, false⟩), (1, some ⟨.agg [.err 155 (9) (offE eo (9))], errT, false⟩), (10, some ⟨.agg [.err 155 (10) (offE eo (10))], errT, false⟩), (11, some ⟨.agg [.err 155 (11) (offE eo (11))], errT, false⟩), (12, some ⟨.agg [.err 155 (12) (offE eo (12))], errT, false⟩), (13, some ⟨.agg [.err 155 (13) (offE eo (13))], errT, false⟩), (14, some ⟨.agg [.err 155 (14) (offE eo (14))], errT, false⟩), (15, some ⟨.agg [.err 155 (15) (offE eo (15))], errT, false⟩), (16, some ⟨.agg [.err 155 (16) (offE eo (16))], errT, false⟩), (0, some ⟨.agg [.err 155 (17) (offE eo (17))], errT, false⟩), (17, some ⟨.agg [.err 155 (18) (offE eo (18))], errT, false⟩), (18, some ⟨.agg [.err 155 (19) (offE eo (19))], errT, false⟩), (19, some ⟨.agg [.err 155 (20) (offE eo (20))], errT, false⟩), (401, some ⟨.agg [], errT, false⟩), (402, some ⟨.agg [], errT, false⟩), (403, some ⟨.agg [], errT, false⟩), (404, some ⟨.agg [], errT, false⟩), (405, some ⟨.agg [], errT, false⟩), (406, some ⟨.agg [], errT, false⟩), (407, some ⟨.agg [], errT, false⟩), (408, some ⟨.agg [], errT, false⟩), (409, some ⟨.agg [], errT, false⟩), (410, some ⟨.agg [], errT, false⟩), (411, some ⟨.agg [], errT, false⟩), (412, some ⟨.agg [], errT, false⟩), (413, some ⟨.agg [], errT, false⟩), (414, some ⟨.agg [], errT, false⟩), (415, some ⟨.agg [], errT, false⟩), (416, some ⟨.agg [], errT, false⟩), (417, some ⟨.agg [], errT, false⟩), (418, some ⟨.agg [], errT, false⟩), (419, some ⟨.agg [], errT, false⟩), (420, some ⟨.agg [], errT, false⟩)] (.tup [.agg [.i64 a, .i64 b, .i64 c, .i64 0, .fsl (lsC ([] : List Ls)) ([] : List Ls).length 5], .hole]) [(500, some ⟨.agg [.i64 a, .i64 b, .i64 c, .mp 501, .i64 ep], 68, true⟩), (501, some ⟨mpV (ptN M ck ((L.filter (fun x => x.o == o)).map (beatL n)) (L.filter (fun x => x.o == o)).length).1 (ptN M ck ((L.filter (fun x => x.o == o)).map (beatL n)) (L.filter (fun x => x.o == o)).length).2, 0, true⟩)] := by
 refine meets_of_ev (nt := 211) Tryd.func14 rfl rfl (Nat.le_of_ble_eq_true rfl) ?_
 refine .seq ?_
 refine .region ?_
 refine .a (op_boxRow rfl rfl) trivial rfl ?_
 refine .a (op_boxRow rfl rfl) trivial rfl ?_
 refine .a (op_allocRow zero32 rel_zero32 rfl) trivial rfl ?_
 refine .q (op_assign rfl) trivial rfl ?_
 refine .nil ?_
 show Ev _ _ _ _ _
 refine .seq ?_
 refine .drawn [[], [0], [0, 1], [], [3], [0, 1, 2, 3, 4], [0, 1, 2, 3, 4, 5], [0, 1, 2, 3, 4, 5, 6]] [1, 2, 4, 5] [] (by kernel_rfl) (by kernel_rfl) rfl ?_
 show DK _ [0, 1, 2, 3, 4, 5, 6, 7] _ _ _
 refine .q rfl (op_fieldAddr (m := 0) Tryd.underlying37 rfl (by kernel_rfl) rfl) trivial ?_
 refine .as (.ptr 1008 1) rfl ?_
 refine .q rfl (op_load Tryd.underlying9 rfl rfl rfl rfl (by show 1 < 5; decide)) trivial ?_
 refine .q rfl (op_call (U := []) [] [] (cut_ev T 70 hT (by decide)) Tryd.func8 (by kernel_rfl) rfl rfl rfl (⟨⟨_, rfl, rfl, rfl⟩, ⟨_, rfl, rfl, rfl⟩, trivial⟩) (trivial) (trivial) (trivial) rfl) trivial ?_
 refine .q rfl (op_fieldAddr (m := 0) Tryd.underlying37 rfl (by kernel_rfl) rfl) trivial ?_
 refine .as (.ptr 1008 2) rfl ?_
 refine .q rfl (op_load Tryd.underlying9 rfl rfl rfl rfl (by show 2 < 5; decide)) trivial ?_
 refine .q rfl (op_call (U := []) [] [] (cut_ev A 70 hA (by decide)) Tryd.func8 (by kernel_rfl) rfl rfl rfl (⟨⟨_, rfl, rfl, rfl⟩, ⟨_, rfl, rfl, rfl⟩, trivial⟩) (trivial) (trivial) (trivial) rfl) trivial ?_
 refine .q rfl (op_assign rfl) trivial ?_
 refine .q rfl (op_assign rfl) trivial ?_
 refine .nil ?_
 show Ev _ _ _ _ _
 refine .seq ?_
 refine .region ?_
 refine .q (op_loadRow Tryd.underlying32 rfl (by kernel_rfl) rfl rfl rfl (rfl)) trivial rfl ?_
 refine .q (op_move rfl) trivial rfl ?_
 refine .q (op_move rfl) trivial rfl ?_
 refine .q (op_call (U := []) [] [] (rat_ev a b c 0 ([] : List Ls) (Nat.zero_le _) (T.take 70) (A.take 70)) Tryd.func31 (by kernel_rfl) rfl rfl rfl (⟨⟨_, rfl, rfl, rfl⟩, ⟨_, rfl, rfl, rfl⟩, ⟨_, rfl, rfl, rfl⟩, trivial⟩) (trivial) (trivial) (trivial) rfl) trivial rfl ?_
 refine .as (.i64 (-1)) rfl ?_
 refine .q (op_assign rfl) trivial rfl ?_
 refine .nil ?_
 show Ev _ _ _ _ _
 refine .seq ?_
 refine .seq ?_
 refine .region ?_
 refine .q (op_fieldAddr (m := 0) Tryd.underlying37 rfl (by kernel_rfl) rfl) trivial rfl ?_
 refine .as (.ptr 1008 0) rfl ?_
 refine .q (op_load Tryd.underlying3 rfl rfl rfl rfl (by show 0 < 5; decide)) trivial rfl ?_
 refine .nil ?_
 show Ev _ _ _ _ _
 refine .block ?_
 refine .seq ?_
 refine .region ?_
 refine .q (op_cmpI rfl rfl rfl) trivial rfl ?_
 refine .q (op_assign rfl) trivial rfl ?_
 refine .nil ?_
 show Ev _ _ _ _ _
 refine .cond_false rfl (rfl) ?_
 refine .seq ?_
 refine .region ?_
 refine .q (op_cmpI rfl rfl rfl) trivial rfl ?_
 refine .q (op_assign rfl) trivial rfl ?_
 refine .nil ?_
 show Ev _ _ _ _ _
 refine .cond_false rfl (rfl) ?_
 refine .seq ?_
 refine .region ?_
 refine .q (op_cmpI rfl rfl rfl) trivial rfl ?_
 refine .q (op_assign rfl) trivial rfl ?_
 refine .nil ?_
 show Ev _ _ _ _ _
 refine .cond_true rfl (rfl) ?_
 refine .seq ?_
 refine .region ?_
 refine .q (op_loadRow Tryd.underlying32 rfl (by kernel_rfl) rfl rfl rfl (rfl)) trivial rfl ?_
 refine .q (op_fieldAddr (m := 0) Tryd.underlying37 rfl (by kernel_rfl) rfl) trivial rfl ?_
 refine .as (.ptr 1008 3) rfl ?_
 refine .q (op_load Tryd.underlying3 rfl rfl rfl rfl (by show 3 < 5; decide)) trivial rfl ?_
 refine .q (op_fieldAddr (m := 0) Tryd.underlying37 rfl (by kernel_rfl) rfl) trivial rfl ?_
 refine .as (.ptr 1008 4) rfl ?_
 refine .q (op_load Tryd.underlying3 rfl rfl rfl rfl (by show 4 < 5; decide)) trivial rfl ?_
 refine .q (op_call (U := []) [] [] (rbeat_ev a b c 0 ([] : List Ls) (Nat.zero_le _) o n) Tryd.func33 (by kernel_rfl) rfl rfl rfl (⟨⟨_, rfl, rfl, rfl⟩, ⟨_, rfl, rfl, rfl⟩, ⟨_, rfl, rfl, rfl⟩, trivial⟩) (trivial) (trivial) (trivial) rfl) trivial rfl ?_
 refine .q (op_move rfl) trivial rfl ?_
 refine .q (op_extract rfl rfl) trivial rfl ?_
 refine .q (op_extract rfl rfl) trivial rfl ?_
 refine .a (op_allocRow zero32 rel_zero32 rfl) trivial rfl ?_
 refine .w (op_storeRow (by kernel_rfl) rfl rfl rfl rfl rfl (rfl) (rfl)) trivial rfl ?_
 refine .q (op_assign rfl) trivial rfl ?_
 refine .nil ?_
 show Ev _ _ _ _ _
 refine .seq ?_
 refine .drawnF [[], [], [], [2], [], [4], [1, 2, 3, 4, 5], [], [1, 2, 3, 4, 5, 6, 7], [0, 1, 2, 3, 4, 5, 6], [0, 1, 2, 3, 4, 5, 6, 7, 8, 9]] [0, 3, 5, 6, 9] [] [(0, ([1088], [])), (3, ([1008], [])), (5, ([1008], [])), (6, ([500, 501], [501])), (9, ([], [1016]))] (by kernel_rfl) (by kernel_rfl) rfl ?_
 show DK _ [0, 1, 2, 3, 4, 5, 6, 7, 8, 9, 10] _ _ _
 refine .q rfl (op_loadRow Tryd.underlying32 rfl (by kernel_rfl) rfl rfl rfl (rfl)) trivial ?_
 refine .q rfl (op_move rfl) trivial ?_
 refine .q rfl (op_fieldAddr (m := 0) Tryd.underlying37 rfl (by kernel_rfl) rfl) trivial ?_
 refine .as (.ptr 1008 3) rfl ?_
 refine .q rfl (op_load Tryd.underlying3 rfl rfl rfl rfl (by show 3 < 5; decide)) trivial ?_
 refine .q rfl (op_fieldAddr (m := 0) Tryd.underlying37 rfl (by kernel_rfl) rfl) trivial ?_
 refine .as (.ptr 1008 4) rfl ?_
 refine .q rfl (op_load Tryd.underlying3 rfl rfl rfl rfl (by show 4 < 5; decide)) trivial ?_
 refine .a rfl (op_call (U := [(501, some ⟨mpV (ptN M ck ((L.filter (fun x => x.o == o)).map (beatL n)) (L.filter (fun x => x.o == o)).length).1 (ptN M ck ((L.filter (fun x => x.o == o)).map (beatL n)) (L.filter (fun x => x.o == o)).length).2, 0, true⟩)]) [(500, 500), (501, 501)] [] (beat_ev a b c ep h o n) Tryd.func22 (by kernel_rfl) rfl rfl rfl (⟨⟨_, rfl, rfl, rfl⟩, ⟨_, rfl, rfl, rfl⟩, ⟨_, rfl, rfl, rfl⟩, trivial⟩) (⟨⟨_, _, rfl, rfl, rfl, rfl, (fun h => by cases h), rfl⟩, ⟨_, _, rfl, rfl, rfl, rfl, id, rfl⟩, trivial⟩) (⟨⟨501, _, rfl, rfl, rfl, rfl, .inr ⟨rfl, _, rfl, rfl⟩⟩, trivial⟩) (⟨(fun h => by cases h), (fun _ => ⟨501, _, rfl, rfl⟩), trivial⟩) rfl) trivial rfl rfl ?_
 refine .q rfl (op_move rfl) trivial ?_
 refine .q rfl (op_cmpI rfl rfl rfl) trivial ?_
 refine .w rfl (op_storeRow (by kernel_rfl) rfl rfl rfl rfl rfl (rfl) (rfl)) trivial rfl rfl ?_
 refine .q rfl (op_assign rfl) trivial ?_
 refine .nil ?_
 show Ev _ _ _ _ _
 refine Ev.asR (T1 := []) .hole (fun _ _ _ => .hole _) ?_
 refine .ret ?_
 show RetOk _ _ _ _ _ _ _
 exact retc2 rfl (.inl rfl) ⟨_, _, _, _, rfl, rfl, rfl, rfl, rfl, Tryd.underlying32, rfl, sz32⟩ rfl ⟨rfl, rfl, trivial⟩
set_option maxRecDepth 100000 in
theorem stepE4_ev (a b c ep : Int) {M : List (Ls × Nat)} {ck : Nat} {L : List Ls} (h : MI M ck L) (eo : Nat → Nat × Nat) (_hd : ∀ i j, i < 20 → j < 20 → i ≠ j → eo i ≠ eo j) (T A : List UInt8) (hT : T.length ≤ maxLen) (hA : A.length ≤ maxLen) (o n : Int)  : Meets Tryd.prog 14 [.ptr 500 0, .agg [.i64 a, .i64 b, .i64 c, .i64 0, .fsl (lsC ([] : List Ls)) ([] : List Ls).length 5], .agg [.i64 4, .str T, .str A, .i64 o, .i64 n]] [(500, some ⟨.agg [.i64 a, .i64 b, .i64 c, .mp 501, .i64 ep], 68, true⟩), (501, some ⟨mpV (M) (ck), 0, true⟩), (3, some ⟨.agg [.err 155 (1) (offE eo (1))], errT, false⟩), (4, some ⟨.agg [.err 155 (2) (offE eo (2))], errT, false⟩), (5, some ⟨.agg [.err 155 (3) (offE eo (3))], errT, false⟩), (6, some ⟨.agg [.err 155 (4) (offE eo (4))], errT, false⟩), (7, some ⟨.agg [.err 155 (5) (offE eo (5))], errT, false⟩), (8, some ⟨.agg [.err 155 (6) (offE eo (6))], errT, false⟩), (9, some ⟨.agg [.err 155 (7) (offE eo (7))], errT, false⟩), (2, some ⟨.agg [.err 155 (8) (offE eo (8))], errT, false⟩), (1, some ⟨.agg [.err 155 (9) (offE eo (9))], errT, false⟩), (10, some ⟨.agg [.err 155 (10) (offE eo (10))], errT, false⟩), (11, some ⟨.agg [.err 155 (11) (offE eo (11))], errT, false⟩), (12, some ⟨.agg [.err 155 (12) (offE eo (12))], errT, false⟩), (13, some ⟨.agg [.err 155 (13) (offE eo (13))], errT, false⟩), (14, some ⟨.agg [.err 155 (14) (offE eo (14))], errT, false⟩), (15, some ⟨.agg [.err 155 (15) (offE eo (15))], errT, false⟩), (16, some ⟨.agg [.err 155 (16) (offE eo (16))], errT, false⟩), (0, some ⟨.agg [.err 155 (17) (offE eo (17))], errT, false⟩), (17, some ⟨.agg [.err 155 (18) (offE eo (18))], errT, false⟩), (18, some ⟨.agg [.err 155 (19) (offE eo (19))], errT, false⟩), (19, some ⟨.agg [.err 155 (20) (offE eo (20))], errT, false⟩), (401, some ⟨.agg [], errT, false⟩), (402, some ⟨.agg [], errT, false⟩), (403, some ⟨.agg [], errT, false⟩), (404, some ⟨.agg [], errT, false⟩), (405, some ⟨.agg [], errT, false⟩), (406, some ⟨.agg [], errT, false⟩), (407, some ⟨.agg [], errT, false⟩), (408, some ⟨.agg [], errT, false⟩), (409, some ⟨.agg [], errT, false⟩), (410, some ⟨.agg [], errT, false⟩), (411, some ⟨.agg [], errT, false⟩), (412, some ⟨.agg [], errT, false⟩), (413, some ⟨.agg [], errT, false⟩), (414, some ⟨.agg [], errT, false⟩), (415, some ⟨.agg [], errT, false⟩), (416, some ⟨.agg [], errT, false⟩), (417, some ⟨.agg [], errT, false⟩), (418, some ⟨.agg [], errT, false⟩), (419, some ⟨.agg [], errT, false⟩), (420, some ⟨.agg [], errT, false⟩)] (.tup [.agg [.i64 a, .i64 b, .i64 c, .i64 0, .fsl (lsC ([] : List Ls)) ([] : List Ls).length 5], .hole]) [(500, some ⟨.agg [.i64 a, .i64 b, .i64 c, .mp 501, .i64 ep], 68, true⟩), (501, some ⟨mpV (dlN M (L.filter (fun x => x.o == o)) (L.filter (fun x => x.o == o)).length) ck, 0, true⟩)] := by
 refine meets_of_ev (nt := 211) Tryd.func14 rfl rfl (Nat.le_of_ble_eq_true rfl) ?_
 refine .seq ?_
 refine .region ?_
 refine .a (op_boxRow rfl rfl) trivial rfl ?_
 refine .a (op_boxRow rfl rfl) trivial rfl ?_
 refine .a (op_allocRow zero32 rel_zero32 rfl) trivial rfl ?_
 refine .q (op_assign rfl) trivial rfl ?_
 refine .nil ?_
 show Ev _ _ _ _ _
 refine .seq ?_
 refine .drawn [[], [0], [0, 1], [], [3], [0, 1, 2, 3, 4], [0, 1, 2, 3, 4, 5], [0, 1, 2, 3, 4, 5, 6]] [1, 2, 4, 5] [] (by kernel_rfl) (by kernel_rfl) rfl ?_
 show DK _ [0, 1, 2, 3, 4, 5, 6, 7] _ _ _
 refine .q rfl (op_fieldAddr (m := 0) Tryd.underlying37 rfl (by kernel_rfl) rfl) trivial ?_
 refine .as (.ptr 1008 1) rfl ?_
 refine .q rfl (op_load Tryd.underlying9 rfl rfl rfl rfl (by show 1 < 5; decide)) trivial ?_
 refine .q rfl (op_call (U := []) [] [] (cut_ev T 70 hT (by decide)) Tryd.func8 (by kernel_rfl) rfl rfl rfl (⟨⟨_, rfl, rfl, rfl⟩, ⟨_, rfl, rfl, rfl⟩, trivial⟩) (trivial) (trivial) (trivial) rfl) trivial ?_
 refine .q rfl (op_fieldAddr (m := 0) Tryd.underlying37 rfl (by kernel_rfl) rfl) trivial ?_
 refine .as (.ptr 1008 2) rfl ?_
 refine .q rfl (op_load Tryd.underlying9 rfl rfl rfl rfl (by show 2 < 5; decide)) trivial ?_
 refine .q rfl (op_call (U := []) [] [] (cut_ev A 70 hA (by decide)) Tryd.func8 (by kernel_rfl) rfl rfl rfl (⟨⟨_, rfl, rfl, rfl⟩, ⟨_, rfl, rfl, rfl⟩, trivial⟩) (trivial) (trivial) (trivial) rfl) trivial ?_
 refine .q rfl (op_assign rfl) trivial ?_
 refine .q rfl (op_assign rfl) trivial ?_
 refine .nil ?_
 show Ev _ _ _ _ _
 refine .seq ?_
 refine .region ?_
 refine .q (op_loadRow Tryd.underlying32 rfl (by kernel_rfl) rfl rfl rfl (rfl)) trivial rfl ?_
 refine .q (op_move rfl) trivial rfl ?_
 refine .q (op_move rfl) trivial rfl ?_
 refine .q (op_call (U := []) [] [] (rat_ev a b c 0 ([] : List Ls) (Nat.zero_le _) (T.take 70) (A.take 70)) Tryd.func31 (by kernel_rfl) rfl rfl rfl (⟨⟨_, rfl, rfl, rfl⟩, ⟨_, rfl, rfl, rfl⟩, ⟨_, rfl, rfl, rfl⟩, trivial⟩) (trivial) (trivial) (trivial) rfl) trivial rfl ?_
 refine .as (.i64 (-1)) rfl ?_
 refine .q (op_assign rfl) trivial rfl ?_
 refine .nil ?_
 show Ev _ _ _ _ _
 refine .seq ?_
 refine .seq ?_
 refine .region ?_
 refine .q (op_fieldAddr (m := 0) Tryd.underlying37 rfl (by kernel_rfl) rfl) trivial rfl ?_
 refine .as (.ptr 1008 0) rfl ?_
 refine .q (op_load Tryd.underlying3 rfl rfl rfl rfl (by show 0 < 5; decide)) trivial rfl ?_
 refine .nil ?_
 show Ev _ _ _ _ _
 refine .block ?_
 refine .seq ?_
 refine .region ?_
 refine .q (op_cmpI rfl rfl rfl) trivial rfl ?_
 refine .q (op_assign rfl) trivial rfl ?_
 refine .nil ?_
 show Ev _ _ _ _ _
 refine .cond_false rfl (rfl) ?_
 refine .seq ?_
 refine .region ?_
 refine .q (op_cmpI rfl rfl rfl) trivial rfl ?_
 refine .q (op_assign rfl) trivial rfl ?_
 refine .nil ?_
 show Ev _ _ _ _ _
 refine .cond_false rfl (rfl) ?_
 refine .seq ?_
 refine .region ?_
 refine .q (op_cmpI rfl rfl rfl) trivial rfl ?_
 refine .q (op_assign rfl) trivial rfl ?_
 refine .nil ?_
 show Ev _ _ _ _ _
 refine .cond_false rfl (rfl) ?_
 refine .seq ?_
 refine .region ?_
 refine .q (op_cmpI rfl rfl rfl) trivial rfl ?_
 refine .q (op_assign rfl) trivial rfl ?_
 refine .nil ?_
 show Ev _ _ _ _ _
 refine .cond_true rfl (rfl) ?_
 refine .seq ?_
 refine .region ?_
 refine .q (op_loadRow Tryd.underlying32 rfl (by kernel_rfl) rfl rfl rfl (rfl)) trivial rfl ?_
 refine .q (op_buildS (r := .agg _) Tryd.underlying70 rfl zero70 rel_zero70 rfl rfl rfl rfl) trivial rfl ?_
 refine .q (op_fieldAddr (m := 0) Tryd.underlying37 rfl (by kernel_rfl) rfl) trivial rfl ?_
 refine .as (.ptr 1008 3) rfl ?_
 refine .q (op_load Tryd.underlying3 rfl rfl rfl rfl (by show 3 < 5; decide)) trivial rfl ?_
 refine .q (op_call (U := []) [] [] (sift0_ev a b c 0 ([] : List Ls) (Nat.zero_le _) o) Tryd.func32 (by kernel_rfl) rfl rfl rfl (⟨⟨_, rfl, rfl, rfl⟩, ⟨_, rfl, rfl, rfl⟩, ⟨_, rfl, rfl, rfl⟩, ⟨_, rfl, rfl, rfl⟩, trivial⟩) (trivial) (trivial) (trivial) rfl) trivial rfl ?_
 refine .q (op_move rfl) trivial rfl ?_
 refine .q (op_extract rfl rfl) trivial rfl ?_
 refine .q (op_extract rfl rfl) trivial rfl ?_
 refine .a (op_allocRow zero32 rel_zero32 rfl) trivial rfl ?_
 refine .w (op_storeRow (by kernel_rfl) rfl rfl rfl rfl rfl (rfl) (rfl)) trivial rfl ?_
 refine .q (op_assign rfl) trivial rfl ?_
 refine .nil ?_
 show Ev _ _ _ _ _
 refine .seq ?_
 refine .drawnF [[], [], [], [2], [1, 2, 3], [], [1, 2, 3, 4, 5], [0, 1, 2, 3, 4, 5, 6], [0, 1, 2, 3, 4, 5, 6, 7]] [0, 3, 4, 6, 7] [] [(0, ([1088], [])), (3, ([1008], [])), (4, ([500, 501], [501])), (6, ([], [])), (7, ([], [1016]))] (by kernel_rfl) (by kernel_rfl) rfl ?_
 show DK _ [0, 1, 2, 3, 4, 5, 6, 7, 8] _ _ _
 refine .q rfl (op_loadRow Tryd.underlying32 rfl (by kernel_rfl) rfl rfl rfl (rfl)) trivial ?_
 refine .q rfl (op_move rfl) trivial ?_
 refine .q rfl (op_fieldAddr (m := 0) Tryd.underlying37 rfl (by kernel_rfl) rfl) trivial ?_
 refine .as (.ptr 1008 3) rfl ?_
 refine .q rfl (op_load Tryd.underlying3 rfl rfl rfl rfl (by show 3 < 5; decide)) trivial ?_
 refine .a rfl (op_call (U := [(501, some ⟨mpV (dlN M (L.filter (fun x => x.o == o)) (L.filter (fun x => x.o == o)).length) ck, 0, true⟩)]) [(500, 500), (501, 501)] [] (drop_ev a b c ep h o) Tryd.func23 (by kernel_rfl) rfl rfl rfl (⟨⟨_, rfl, rfl, rfl⟩, ⟨_, rfl, rfl, rfl⟩, trivial⟩) (⟨⟨_, _, rfl, rfl, rfl, rfl, (fun h => by cases h), rfl⟩, ⟨_, _, rfl, rfl, rfl, rfl, id, rfl⟩, trivial⟩) (⟨⟨501, _, rfl, rfl, rfl, rfl, .inr ⟨rfl, _, rfl, rfl⟩⟩, trivial⟩) (⟨(fun h => by cases h), (fun _ => ⟨501, _, rfl, rfl⟩), trivial⟩) rfl) trivial rfl rfl ?_
 refine .q rfl (op_move rfl) trivial ?_
 refine .q rfl (op_call (U := []) [] [] (same_ev (L.filter (fun x => x.o == o)) (([] : List Ls).filter (fun x => x.o == o)) (Nat.le_trans (List.length_filter_le _ _) h.len) (Nat.le_trans (List.length_filter_le _ _) (Nat.zero_le _))) Tryd.func15 (by kernel_rfl) rfl rfl rfl (⟨⟨_, rfl, rfl, rfl⟩, ⟨_, rfl, rfl, rfl⟩, trivial⟩) (trivial) (trivial) (trivial) rfl) trivial ?_
 refine .w rfl (op_storeRow (by kernel_rfl) rfl rfl rfl rfl rfl (rfl) (rfl)) trivial rfl rfl ?_
 refine .q rfl (op_assign rfl) trivial ?_
 refine .nil ?_
 show Ev _ _ _ _ _
 refine Ev.asR (T1 := []) .hole (fun _ _ _ => .hole _) ?_
 refine .ret ?_
 show RetOk _ _ _ _ _ _ _
 exact retc2 rfl (.inl rfl) ⟨_, _, _, _, rfl, rfl, rfl, rfl, rfl, Tryd.underlying32, rfl, sz32⟩ rfl ⟨rfl, rfl, trivial⟩
set_option maxRecDepth 100000 in
theorem stepE5_ev (a b c ep : Int) {M : List (Ls × Nat)} {ck : Nat} {L : List Ls} (h : MI M ck L) (eo : Nat → Nat × Nat) (_hd : ∀ i j, i < 20 → j < 20 → i ≠ j → eo i ≠ eo j) (T A : List UInt8) (hT : T.length ≤ maxLen) (hA : A.length ≤ maxLen) (o n : Int) (hl : ∀ x ∈ L, 0 ≤ x.l ∧ x.l ≤ 1099511627776)  : Meets Tryd.prog 14 [.ptr 500 0, .agg [.i64 a, .i64 b, .i64 c, .i64 0, .fsl (lsC ([] : List Ls)) ([] : List Ls).length 5], .agg [.i64 5, .str T, .str A, .i64 o, .i64 n]] [(500, some ⟨.agg [.i64 a, .i64 b, .i64 c, .mp 501, .i64 ep], 68, true⟩), (501, some ⟨mpV (M) (ck), 0, true⟩), (3, some ⟨.agg [.err 155 (1) (offE eo (1))], errT, false⟩), (4, some ⟨.agg [.err 155 (2) (offE eo (2))], errT, false⟩), (5, some ⟨.agg [.err 155 (3) (offE eo (3))], errT, false⟩), (6, some ⟨.agg [.err 155 (4) (offE eo (4))], errT, false⟩), (7, some ⟨.agg [.err 155 (5) (offE eo (5))], errT, false⟩), (8, some ⟨.agg [.err 155 (6) (offE eo (6))], errT, false⟩), (9, some ⟨.agg [.err 155 (7) (offE eo (7))], errT, false⟩), (2, some ⟨.agg [.err 155 (8) (offE eo (8))], errT, false⟩), (1, some ⟨.agg [.err 155 (9) (offE eo (9))], errT, false⟩), (10, some ⟨.agg [.err 155 (10) (offE eo (10))], errT, false⟩), (11, some ⟨.agg [.err 155 (11) (offE eo (11))], errT, false⟩), (12, some ⟨.agg [.err 155 (12) (offE eo (12))], errT, false⟩), (13, some ⟨.agg [.err 155 (13) (offE eo (13))], errT, false⟩), (14, some ⟨.agg [.err 155 (14) (offE eo (14))], errT, false⟩), (15, some ⟨.agg [.err 155 (15) (offE eo (15))], errT, false⟩), (16, some ⟨.agg [.err 155 (16) (offE eo (16))], errT, false⟩), (0, some ⟨.agg [.err 155 (17) (offE eo (17))], errT, false⟩), (17, some ⟨.agg [.err 155 (18) (offE eo (18))], errT, false⟩), (18, some ⟨.agg [.err 155 (19) (offE eo (19))], errT, false⟩), (19, some ⟨.agg [.err 155 (20) (offE eo (20))], errT, false⟩), (401, some ⟨.agg [], errT, false⟩), (402, some ⟨.agg [], errT, false⟩), (403, some ⟨.agg [], errT, false⟩), (404, some ⟨.agg [], errT, false⟩), (405, some ⟨.agg [], errT, false⟩), (406, some ⟨.agg [], errT, false⟩), (407, some ⟨.agg [], errT, false⟩), (408, some ⟨.agg [], errT, false⟩), (409, some ⟨.agg [], errT, false⟩), (410, some ⟨.agg [], errT, false⟩), (411, some ⟨.agg [], errT, false⟩), (412, some ⟨.agg [], errT, false⟩), (413, some ⟨.agg [], errT, false⟩), (414, some ⟨.agg [], errT, false⟩), (415, some ⟨.agg [], errT, false⟩), (416, some ⟨.agg [], errT, false⟩), (417, some ⟨.agg [], errT, false⟩), (418, some ⟨.agg [], errT, false⟩), (419, some ⟨.agg [], errT, false⟩), (420, some ⟨.agg [], errT, false⟩)] (.tup [.agg [.i64 a, .i64 b, .i64 c, .i64 0, .fsl (lsC ([] : List Ls)) ([] : List Ls).length 5], .hole]) [(500, some ⟨.agg [.i64 a, .i64 b, .i64 c, .mp 501, .i64 ep], 68, true⟩), (501, some ⟨mpV (dlN M (L.filter (fun x => decide (c ≤ tickV n - x.l))) (L.filter (fun x => decide (c ≤ tickV n - x.l))).length) ck, 0, true⟩)] := by
 refine meets_of_ev (nt := 211) Tryd.func14 rfl rfl (Nat.le_of_ble_eq_true rfl) ?_
 refine .seq ?_
 refine .region ?_
 refine .a (op_boxRow rfl rfl) trivial rfl ?_
 refine .a (op_boxRow rfl rfl) trivial rfl ?_
 refine .a (op_allocRow zero32 rel_zero32 rfl) trivial rfl ?_
 refine .q (op_assign rfl) trivial rfl ?_
 refine .nil ?_
 show Ev _ _ _ _ _
 refine .seq ?_
 refine .drawn [[], [0], [0, 1], [], [3], [0, 1, 2, 3, 4], [0, 1, 2, 3, 4, 5], [0, 1, 2, 3, 4, 5, 6]] [1, 2, 4, 5] [] (by kernel_rfl) (by kernel_rfl) rfl ?_
 show DK _ [0, 1, 2, 3, 4, 5, 6, 7] _ _ _
 refine .q rfl (op_fieldAddr (m := 0) Tryd.underlying37 rfl (by kernel_rfl) rfl) trivial ?_
 refine .as (.ptr 1008 1) rfl ?_
 refine .q rfl (op_load Tryd.underlying9 rfl rfl rfl rfl (by show 1 < 5; decide)) trivial ?_
 refine .q rfl (op_call (U := []) [] [] (cut_ev T 70 hT (by decide)) Tryd.func8 (by kernel_rfl) rfl rfl rfl (⟨⟨_, rfl, rfl, rfl⟩, ⟨_, rfl, rfl, rfl⟩, trivial⟩) (trivial) (trivial) (trivial) rfl) trivial ?_
 refine .q rfl (op_fieldAddr (m := 0) Tryd.underlying37 rfl (by kernel_rfl) rfl) trivial ?_
 refine .as (.ptr 1008 2) rfl ?_
 refine .q rfl (op_load Tryd.underlying9 rfl rfl rfl rfl (by show 2 < 5; decide)) trivial ?_
 refine .q rfl (op_call (U := []) [] [] (cut_ev A 70 hA (by decide)) Tryd.func8 (by kernel_rfl) rfl rfl rfl (⟨⟨_, rfl, rfl, rfl⟩, ⟨_, rfl, rfl, rfl⟩, trivial⟩) (trivial) (trivial) (trivial) rfl) trivial ?_
 refine .q rfl (op_assign rfl) trivial ?_
 refine .q rfl (op_assign rfl) trivial ?_
 refine .nil ?_
 show Ev _ _ _ _ _
 refine .seq ?_
 refine .region ?_
 refine .q (op_loadRow Tryd.underlying32 rfl (by kernel_rfl) rfl rfl rfl (rfl)) trivial rfl ?_
 refine .q (op_move rfl) trivial rfl ?_
 refine .q (op_move rfl) trivial rfl ?_
 refine .q (op_call (U := []) [] [] (rat_ev a b c 0 ([] : List Ls) (Nat.zero_le _) (T.take 70) (A.take 70)) Tryd.func31 (by kernel_rfl) rfl rfl rfl (⟨⟨_, rfl, rfl, rfl⟩, ⟨_, rfl, rfl, rfl⟩, ⟨_, rfl, rfl, rfl⟩, trivial⟩) (trivial) (trivial) (trivial) rfl) trivial rfl ?_
 refine .as (.i64 (-1)) rfl ?_
 refine .q (op_assign rfl) trivial rfl ?_
 refine .nil ?_
 show Ev _ _ _ _ _
 refine .seq ?_
 refine .seq ?_
 refine .region ?_
 refine .q (op_fieldAddr (m := 0) Tryd.underlying37 rfl (by kernel_rfl) rfl) trivial rfl ?_
 refine .as (.ptr 1008 0) rfl ?_
 refine .q (op_load Tryd.underlying3 rfl rfl rfl rfl (by show 0 < 5; decide)) trivial rfl ?_
 refine .nil ?_
 show Ev _ _ _ _ _
 refine .block ?_
 refine .seq ?_
 refine .region ?_
 refine .q (op_cmpI rfl rfl rfl) trivial rfl ?_
 refine .q (op_assign rfl) trivial rfl ?_
 refine .nil ?_
 show Ev _ _ _ _ _
 refine .cond_false rfl (rfl) ?_
 refine .seq ?_
 refine .region ?_
 refine .q (op_cmpI rfl rfl rfl) trivial rfl ?_
 refine .q (op_assign rfl) trivial rfl ?_
 refine .nil ?_
 show Ev _ _ _ _ _
 refine .cond_false rfl (rfl) ?_
 refine .seq ?_
 refine .region ?_
 refine .q (op_cmpI rfl rfl rfl) trivial rfl ?_
 refine .q (op_assign rfl) trivial rfl ?_
 refine .nil ?_
 show Ev _ _ _ _ _
 refine .cond_false rfl (rfl) ?_
 refine .seq ?_
 refine .region ?_
 refine .q (op_cmpI rfl rfl rfl) trivial rfl ?_
 refine .q (op_assign rfl) trivial rfl ?_
 refine .nil ?_
 show Ev _ _ _ _ _
 refine .cond_false rfl (rfl) ?_
 refine .seq ?_
 refine .region ?_
 refine .q (op_cmpI rfl rfl rfl) trivial rfl ?_
 refine .q (op_assign rfl) trivial rfl ?_
 refine .nil ?_
 show Ev _ _ _ _ _
 refine .cond_true rfl (rfl) ?_
 refine .seq ?_
 refine .region ?_
 refine .q (op_loadRow Tryd.underlying32 rfl (by kernel_rfl) rfl rfl rfl (rfl)) trivial rfl ?_
 refine .q (op_buildS (r := .agg _) Tryd.underlying70 rfl zero70 rel_zero70 rfl rfl rfl rfl) trivial rfl ?_
 refine .q (op_fieldAddr (m := 0) Tryd.underlying37 rfl (by kernel_rfl) rfl) trivial rfl ?_
 refine .as (.ptr 1008 4) rfl ?_
 refine .q (op_load Tryd.underlying3 rfl rfl rfl rfl (by show 4 < 5; decide)) trivial rfl ?_
 refine .q (op_call (U := []) [] [] (sift1_ev a b c 0 ([] : List Ls) (Nat.zero_le _) n (fun x hx => by simp at hx)) Tryd.func32 (by kernel_rfl) rfl rfl rfl (⟨⟨_, rfl, rfl, rfl⟩, ⟨_, rfl, rfl, rfl⟩, ⟨_, rfl, rfl, rfl⟩, ⟨_, rfl, rfl, rfl⟩, trivial⟩) (trivial) (trivial) (trivial) rfl) trivial rfl ?_
 refine .q (op_move rfl) trivial rfl ?_
 refine .q (op_extract rfl rfl) trivial rfl ?_
 refine .q (op_extract rfl rfl) trivial rfl ?_
 refine .a (op_allocRow zero32 rel_zero32 rfl) trivial rfl ?_
 refine .w (op_storeRow (by kernel_rfl) rfl rfl rfl rfl rfl (rfl) (rfl)) trivial rfl ?_
 refine .q (op_assign rfl) trivial rfl ?_
 refine .nil ?_
 show Ev _ _ _ _ _
 refine .seq ?_
 refine .drawnF [[], [], [], [2], [1, 2, 3], [], [1, 2, 3, 4, 5], [0, 1, 2, 3, 4, 5, 6], [0, 1, 2, 3, 4, 5, 6, 7]] [0, 3, 4, 6, 7] [] [(0, ([1088], [])), (3, ([1008], [])), (4, ([500, 501], [501])), (6, ([], [])), (7, ([], [1016]))] (by kernel_rfl) (by kernel_rfl) rfl ?_
 show DK _ [0, 1, 2, 3, 4, 5, 6, 7, 8] _ _ _
 refine .q rfl (op_loadRow Tryd.underlying32 rfl (by kernel_rfl) rfl rfl rfl (rfl)) trivial ?_
 refine .q rfl (op_move rfl) trivial ?_
 refine .q rfl (op_fieldAddr (m := 0) Tryd.underlying37 rfl (by kernel_rfl) rfl) trivial ?_
 refine .as (.ptr 1008 4) rfl ?_
 refine .q rfl (op_load Tryd.underlying3 rfl rfl rfl rfl (by show 4 < 5; decide)) trivial ?_
 refine .a rfl (op_call (U := [(501, some ⟨mpV (dlN M (L.filter (fun x => decide (c ≤ tickV n - x.l))) (L.filter (fun x => decide (c ≤ tickV n - x.l))).length) ck, 0, true⟩)]) [(500, 500), (501, 501)] [] (expire_ev a b c ep h n hl) Tryd.func24 (by kernel_rfl) rfl rfl rfl (⟨⟨_, rfl, rfl, rfl⟩, ⟨_, rfl, rfl, rfl⟩, trivial⟩) (⟨⟨_, _, rfl, rfl, rfl, rfl, (fun h => by cases h), rfl⟩, ⟨_, _, rfl, rfl, rfl, rfl, id, rfl⟩, trivial⟩) (⟨⟨501, _, rfl, rfl, rfl, rfl, .inr ⟨rfl, _, rfl, rfl⟩⟩, trivial⟩) (⟨(fun h => by cases h), (fun _ => ⟨501, _, rfl, rfl⟩), trivial⟩) rfl) trivial rfl rfl ?_
 refine .q rfl (op_move rfl) trivial ?_
 refine .q rfl (op_call (U := []) [] [] (same_ev (L.filter (fun x => decide (c ≤ tickV n - x.l))) (([] : List Ls).filter (fun x => decide (c ≤ tickV n - x.l))) (Nat.le_trans (List.length_filter_le _ _) h.len) (Nat.le_trans (List.length_filter_le _ _) (Nat.zero_le _))) Tryd.func15 (by kernel_rfl) rfl rfl rfl (⟨⟨_, rfl, rfl, rfl⟩, ⟨_, rfl, rfl, rfl⟩, trivial⟩) (trivial) (trivial) (trivial) rfl) trivial ?_
 refine .w rfl (op_storeRow (by kernel_rfl) rfl rfl rfl rfl rfl (rfl) (rfl)) trivial rfl rfl ?_
 refine .q rfl (op_assign rfl) trivial ?_
 refine .nil ?_
 show Ev _ _ _ _ _
 refine Ev.asR (T1 := []) .hole (fun _ _ _ => .hole _) ?_
 refine .ret ?_
 show RetOk _ _ _ _ _ _ _
 exact retc2 rfl (.inl rfl) ⟨_, _, _, _, rfl, rfl, rfl, rfl, rfl, Tryd.underlying32, rfl, sz32⟩ rfl ⟨rfl, rfl, trivial⟩
end Go.Proofs.YtpmambceojbkaaaDoor
namespace Go.Proofs.YtpmambceojbkaaaDoor
open Go.RowKit
theorem Ev.monoQ {P : Program} {nt : Nat} {c : Code} {st : St} {post post' : Exit → St → Prop} (h : Ev P nt c st post) (hp : ∀ e st', post e st' → post' e st') : Ev P nt c st post' :=
  fun E S n0 a w hn hR => wp_mono (h E S n0 a w hn hR) fun _ _ _ ⟨st', E', h1, h2⟩ => ⟨st', E', ⟨h1.1, hp _ _ h1.2⟩, h2⟩
theorem op_neqLsQ {T : Nat → Option AV} {H : Hp} {nm : Nat} {wr : Bool} {d : Option Tmp} {ty t' : TypeId} {ps : String} {af : Array Edge} {gd : Option (Nat × Bool)} {x y : Operand} {p q : Ls} (hx : aev T x = some (lsV p)) (hy : aev T y = some (lsV q)) :
    OpSem Tryd.prog T H ⟨d, .binOp .neq 45 x y t', ty, ps, af, gd⟩ nm wr (.bool (!decide (p = q))) [] :=
  op_bin hx hy fun E y1 y2 w h1 h2 => by
    rw [ls_val p E _ h1, ls_val q E _ h2]
    exact ⟨.bool _, neq_of_run (by kernel_rfl) (run_eqLsP 9998 p q w), .bool _⟩
theorem Ev.cutp {P : Program} {nt : Nat} {c y : Code} {st : St} {post : Exit → St → Prop} {ι : Type} (S : ι → St) (h1 : Ev P nt c st (thenA (fun st' => ∃ i, StLe nt st' (S i)) post)) (h2 : ∀ i, Ev P nt y (S i) post) : Ev P nt c st (thenA (fun st' => Ev P nt y st' post) post) :=
  h1.monoQ fun e st' h => by
    cases e with
    | normal => obtain ⟨i, hi⟩ := h; exact Ev.weak hi (h2 i)
    | _ => exact h
theorem op_geS {P : Program} {T : Nat → Option AV} {H : Hp} {nm : Nat} {wr : Bool} {d : Option Tmp} {ty t t' : TypeId} {ps : String} {af : Array Edge} {gd : Option (Nat × Bool)} {x y : Operand} {s1 s2 : List UInt8} (hx : aev T x = some (.str s1)) (hy : aev T y = some (.str s2)) :
    OpSem P T H ⟨d, .binOp .geq t x y t', ty, ps, af, gd⟩ nm wr (.bool (!decide (s1 < s2))) [] :=
  op_bin hx hy fun E y1 y2 w h1 h2 => by
    rw [h1.str_inv, h2.str_inv]
    exact ⟨.bool _, by simp [eqGuard, binOp, Op.stringOp, bytesLess_eq], .bool _⟩
structure Inv (a b ep : Int) (L : List Ls) : Prop where
  l : ∀ x ∈ L, 0 ≤ x.l ∧ x.l ≤ 1099511627776
  e : ∀ x ∈ L, 1 ≤ x.e ∧ x.e ≤ ep
  b : ((L.length : Nat) : Int) ≤ b
  a : ∀ t, (((L.filter (fun x => x.t == t)).length : Nat) : Int) ≤ a
section
variable {a b ep : Int} {L : List Ls}
theorem Inv.nil (ha : 0 ≤ a) (hb : 0 ≤ b) : Inv a b ep [] := ⟨fun x hx => by simp at hx, fun x hx => by simp at hx, hb, fun _ => ha⟩
theorem Inv.sub {L' : List Ls} (h : Inv a b ep L) (s : L'.Sublist L) : Inv a b ep L' :=
  ⟨fun x hx => h.l x (s.subset hx), fun x hx => h.e x (s.subset hx), by have := s.length_le; have := h.b; omega, fun t => by have := (s.filter (fun x => x.t == t)).length_le; have := h.a t; omega⟩
theorem Inv.beat (h : Inv a b ep L) (o n : Int) : Inv a b ep (L.map fun y : Ls => if y.o == o then beatL n y else y) := by
  refine ⟨fun x hx => ?_, fun x hx => ?_, by rw [List.length_map]; exact h.b, fun t => ?_⟩
  · obtain ⟨y, hy, rfl⟩ := List.mem_map.1 hx
    have h1 := h.l y hy
    have h2 := tick_in n
    split
    · show 0 ≤ max y.l (tickV n) ∧ max y.l (tickV n) ≤ 1099511627776; omega
    · exact h1
  · obtain ⟨y, hy, rfl⟩ := List.mem_map.1 hx
    have h1 := h.e y hy
    split
    · exact h1
    · exact h1
  · rw [List.filter_map, List.length_map]
    have : ((fun x : Ls => x.t == t) ∘ fun y : Ls => if y.o == o then beatL n y else y) = fun x : Ls => x.t == t := funext fun y => by
      show ((if y.o == o then beatL n y else y).t == t) = (y.t == t)
      split <;> rfl
    rw [this]; exact h.a t
theorem ins_memI {x z : Ls} (hz : z ∈ insL x false L) : z = x ∨ z ∈ L := by
  rcases List.mem_cons.1 ((insL_perm x L).mem_iff.1 hz) with h | h
  · exact .inl h
  · exact .inr (remL_mem h).1
theorem ins_cnt (x : Ls) (t : List UInt8) : ((insL x false L).filter (fun y => y.t == t)).length = (if x.t == t then 1 else 0) + ((remL L x).filter (fun y => y.t == t)).length := by
  rw [((insL_perm x L).filter _).length_eq, List.filter_cons]
  split
  · rw [List.length_cons]; omega
  · omega
theorem ins_len (x : Ls) : (insL x false L).length = (remL L x).length + 1 := by rw [(insL_perm x L).length_eq, List.length_cons]
theorem Inv.put {x : Ls} (h : Inv a b ep L) (hx : x.e = ep + 1) (hp : 0 ≤ ep) (hxl : 0 ≤ x.l ∧ x.l ≤ 1099511627776) (hb : (((remL L x).length + 1 : Nat) : Int) ≤ b) (ha : ((((remL L x).filter (fun y => y.t == x.t)).length + 1 : Nat) : Int) ≤ a) : Inv a b (ep + 1) (insL x false L) := by
  refine ⟨fun z hz => ?_, fun z hz => ?_, by rw [ins_len]; exact hb, fun t => ?_⟩
  · rcases ins_memI hz with rfl | hz
    · exact hxl
    · exact h.l z hz
  · rcases ins_memI hz with rfl | hz
    · omega
    · have := h.e z hz; omega
  · rw [ins_cnt]
    split
    · rename_i e; have := eq_of_beq e; subst this; omega
    · have h1 := h.a t
      have h2 : ((remL L x).filter (fun y => y.t == t)).length ≤ (L.filter (fun y => y.t == t)).length := (List.Sublist.filter _ List.filter_sublist).length_le
      omega
theorem Inv.putO {x y : Ls} (h : Inv a b ep L) (hy : y ∈ L) (e : kEq y x) (hx : x.e = ep + 1) (hp : 0 ≤ ep) (hxl : 0 ≤ x.l ∧ x.l ≤ 1099511627776) : Inv a b (ep + 1) (insL x false L) := by
  refine h.put hx hp hxl ?_ ?_
  · have h1 : (remL L x).length < L.length := List.length_filter_lt_length_iff_exists.2 ⟨y, hy, by simp [e]⟩
    have := h.b; omega
  · have h1 : ((remL L x).filter (fun y => y.t == x.t)).length < (L.filter (fun y => y.t == x.t)).length := by
      have e2 : (remL L x).filter (fun y => y.t == x.t) = (L.filter (fun y => y.t == x.t)).filter (fun y => !decide (kEq y x)) := by
        unfold remL; rw [List.filter_filter, List.filter_filter]; congr 1; funext z; exact Bool.and_comm _ _
      rw [e2]
      exact List.length_filter_lt_length_iff_exists.2 ⟨y, List.mem_filter.2 ⟨hy, by rw [e.1]; exact beq_self_eq_true _⟩, by simp [e]⟩
    have := h.a x.t; omega
theorem Inv.putI {x : Ls} (h : Inv a b ep L) (hx : x.e = ep + 1) (hp : 0 ≤ ep) (hxl : 0 ≤ x.l ∧ x.l ≤ 1099511627776) (ha : ¬ a ≤ ((L.filter (fun y => y.t == x.t)).length : Nat)) (hb : ¬ b ≤ ((L.length : Nat) : Int)) : Inv a b (ep + 1) (insL x false L) := by
  refine h.put hx hp hxl ?_ ?_
  · have h1 : (remL L x).length ≤ L.length := List.length_filter_le _ _
    omega
  · have h2 : ((remL L x).filter (fun y => y.t == x.t)).length ≤ (L.filter (fun y => y.t == x.t)).length := (List.Sublist.filter _ List.filter_sublist).length_le
    omega
end
structure SQ where
  M : List (Ls × Nat)
  ck : Nat
  L : List Ls
theorem stepE_all (a b c ep : Int) {M : List (Ls × Nat)} {ck : Nat} {L : List Ls} (h : MI M ck L) (eo : Nat → Nat × Nat) (hd : ∀ i j, i < 20 → j < 20 → i ≠ j → eo i ≠ eo j) (T A : List UInt8) (hT : T.length ≤ maxLen) (hA : A.length ≤ maxLen) (o n k : Int) (hk : 1 ≤ k ∧ k ≤ 5) (hv : Inv a b ep L) :
    ∃ q : SQ, MI q.M q.ck q.L ∧ Inv a b ep q.L ∧ Meets Tryd.prog 14 [.ptr 500 0, .agg [.i64 a, .i64 b, .i64 c, .i64 0, .fsl (lsC ([] : List Ls)) ([] : List Ls).length 5], .agg [.i64 k, .str T, .str A, .i64 o, .i64 n]] [(500, some ⟨.agg [.i64 a, .i64 b, .i64 c, .mp 501, .i64 ep], 68, true⟩), (501, some ⟨mpV (M) (ck), 0, true⟩), (3, some ⟨.agg [.err 155 (1) (offE eo (1))], errT, false⟩), (4, some ⟨.agg [.err 155 (2) (offE eo (2))], errT, false⟩), (5, some ⟨.agg [.err 155 (3) (offE eo (3))], errT, false⟩), (6, some ⟨.agg [.err 155 (4) (offE eo (4))], errT, false⟩), (7, some ⟨.agg [.err 155 (5) (offE eo (5))], errT, false⟩), (8, some ⟨.agg [.err 155 (6) (offE eo (6))], errT, false⟩), (9, some ⟨.agg [.err 155 (7) (offE eo (7))], errT, false⟩), (2, some ⟨.agg [.err 155 (8) (offE eo (8))], errT, false⟩), (1, some ⟨.agg [.err 155 (9) (offE eo (9))], errT, false⟩), (10, some ⟨.agg [.err 155 (10) (offE eo (10))], errT, false⟩), (11, some ⟨.agg [.err 155 (11) (offE eo (11))], errT, false⟩), (12, some ⟨.agg [.err 155 (12) (offE eo (12))], errT, false⟩), (13, some ⟨.agg [.err 155 (13) (offE eo (13))], errT, false⟩), (14, some ⟨.agg [.err 155 (14) (offE eo (14))], errT, false⟩), (15, some ⟨.agg [.err 155 (15) (offE eo (15))], errT, false⟩), (16, some ⟨.agg [.err 155 (16) (offE eo (16))], errT, false⟩), (0, some ⟨.agg [.err 155 (17) (offE eo (17))], errT, false⟩), (17, some ⟨.agg [.err 155 (18) (offE eo (18))], errT, false⟩), (18, some ⟨.agg [.err 155 (19) (offE eo (19))], errT, false⟩), (19, some ⟨.agg [.err 155 (20) (offE eo (20))], errT, false⟩), (401, some ⟨.agg [], errT, false⟩), (402, some ⟨.agg [], errT, false⟩), (403, some ⟨.agg [], errT, false⟩), (404, some ⟨.agg [], errT, false⟩), (405, some ⟨.agg [], errT, false⟩), (406, some ⟨.agg [], errT, false⟩), (407, some ⟨.agg [], errT, false⟩), (408, some ⟨.agg [], errT, false⟩), (409, some ⟨.agg [], errT, false⟩), (410, some ⟨.agg [], errT, false⟩), (411, some ⟨.agg [], errT, false⟩), (412, some ⟨.agg [], errT, false⟩), (413, some ⟨.agg [], errT, false⟩), (414, some ⟨.agg [], errT, false⟩), (415, some ⟨.agg [], errT, false⟩), (416, some ⟨.agg [], errT, false⟩), (417, some ⟨.agg [], errT, false⟩), (418, some ⟨.agg [], errT, false⟩), (419, some ⟨.agg [], errT, false⟩), (420, some ⟨.agg [], errT, false⟩)] (.tup [.agg [.i64 a, .i64 b, .i64 c, .i64 0, .fsl (lsC ([] : List Ls)) ([] : List Ls).length 5], .hole]) [(500, some ⟨.agg [.i64 a, .i64 b, .i64 c, .mp 501, .i64 ep], 68, true⟩), (501, some ⟨mpV q.M q.ck, 0, true⟩)] := by
  have hne : ∀ x ∈ L, x ≠ ⟨[], [], 0, 0, 0⟩ := fun x hx e => by have := (hv.e x hx).1; rw [e] at this; exact absurd this (by decide)
  by_cases hx : ∃ x ∈ L, x.t = T.take 70 ∧ x.a = A.take 70
  · obtain ⟨x, hx, h1, h2⟩ := hx
    by_cases k1 : k = 1
    · subst k1; exact ⟨⟨M, ck, L⟩, h, hv, stepE1Y_ev a b c ep h eo hd T A hT hA o n hx h1 h2 (hne x hx)⟩
    by_cases k2 : k = 2
    · subst k2
      by_cases hw : x.o = o
      · exact ⟨⟨delM M x, ck, remL L x⟩, h.del x, hv.sub List.filter_sublist, stepE2Y_ev a b c ep h eo hd T A hT hA o n hx h1 h2 (hne x hx) hw⟩
      · exact ⟨⟨M, ck, L⟩, h, hv, stepE2O_ev a b c ep h eo hd T A hT hA o n hx h1 h2 (hne x hx) hw⟩
    by_cases k3 : k = 3
    · subst k3
      have hm := h.puts (wd := fun x => x.o == o) n (Nat.le_refl _)
      rw [updN_all h.asc n] at hm
      exact ⟨⟨_, _, _⟩, hm, hv.beat o n, stepE3_ev a b c ep h eo hd T A hT hA o n⟩
    by_cases k4 : k = 4
    · subst k4
      have hm := h.dels (L.filter (fun x => x.o == o)) (L.filter (fun x => x.o == o)).length
      rw [remN_all h.asc] at hm
      exact ⟨⟨_, _, _⟩, hm, hv.sub List.filter_sublist, stepE4_ev a b c ep h eo hd T A hT hA o n⟩
    · have : k = 5 := by omega
      subst this
      have hm := h.dels (L.filter (fun x => decide (c ≤ tickV n - x.l))) (L.filter (fun x => decide (c ≤ tickV n - x.l))).length
      rw [remN_all h.asc] at hm
      exact ⟨⟨_, _, _⟩, hm, hv.sub List.filter_sublist, stepE5_ev a b c ep h eo hd T A hT hA o n hv.l⟩
  · have hn : ∀ x ∈ L, ¬ (x.t = T.take 70 ∧ x.a = A.take 70) := fun x hx' e => hx ⟨x, hx', e⟩
    by_cases k1 : k = 1
    · subst k1; exact ⟨⟨M, ck, L⟩, h, hv, stepE1N_ev a b c ep h eo hd T A hT hA o n hn⟩
    by_cases k2 : k = 2
    · subst k2; exact ⟨⟨M, ck, L⟩, h, hv, stepE2N_ev a b c ep h eo hd T A hT hA o n hn⟩
    by_cases k3 : k = 3
    · subst k3
      have hm := h.puts (wd := fun x => x.o == o) n (Nat.le_refl _)
      rw [updN_all h.asc n] at hm
      exact ⟨⟨_, _, _⟩, hm, hv.beat o n, stepE3_ev a b c ep h eo hd T A hT hA o n⟩
    by_cases k4 : k = 4
    · subst k4
      have hm := h.dels (L.filter (fun x => x.o == o)) (L.filter (fun x => x.o == o)).length
      rw [remN_all h.asc] at hm
      exact ⟨⟨_, _, _⟩, hm, hv.sub List.filter_sublist, stepE4_ev a b c ep h eo hd T A hT hA o n⟩
    · have : k = 5 := by omega
      subst this
      have hm := h.dels (L.filter (fun x => decide (c ≤ tickV n - x.l))) (L.filter (fun x => decide (c ≤ tickV n - x.l))).length
      rw [remN_all h.asc] at hm
      exact ⟨⟨_, _, _⟩, hm, hv.sub List.filter_sublist, stepE5_ev a b c ep h eo hd T A hT hA o n hv.l⟩
theorem take_cases (a b : Int) (L : List Ls) (T A : List UInt8) (o : Int) :
    nameN T = false ∨ (nameN T = true ∧ nameN A = false) ∨ (nameN T = true ∧ nameN A = true ∧ ∃ x, x ∈ L ∧ x.t = T ∧ x.a = A ∧ x.o = o) ∨ (nameN T = true ∧ nameN A = true ∧ ∃ x, x ∈ L ∧ x.t = T ∧ x.a = A ∧ x.o ≠ o) ∨
      (nameN T = true ∧ nameN A = true ∧ (∀ x ∈ L, ¬ (x.t = T ∧ x.a = A)) ∧ a ≤ ((L.filter (fun x => x.t == T)).length : Nat)) ∨
      (nameN T = true ∧ nameN A = true ∧ (∀ x ∈ L, ¬ (x.t = T ∧ x.a = A)) ∧ ¬ a ≤ ((L.filter (fun x => x.t == T)).length : Nat) ∧ b ≤ (L.length : Nat)) ∨
      (nameN T = true ∧ nameN A = true ∧ (∀ x ∈ L, ¬ (x.t = T ∧ x.a = A)) ∧ ¬ a ≤ ((L.filter (fun x => x.t == T)).length : Nat) ∧ ¬ b ≤ (L.length : Nat)) := by
  cases hT : nameN T with
  | false => exact .inl rfl
  | true =>
  cases hA : nameN A with
  | false => exact .inr (.inl ⟨rfl, rfl⟩)
  | true =>
  by_cases hx : ∃ x ∈ L, x.t = T ∧ x.a = A
  · obtain ⟨x, hx, h1, h2⟩ := hx
    by_cases hw : x.o = o
    · exact .inr (.inr (.inl ⟨rfl, rfl, x, hx, h1, h2, hw⟩))
    · exact .inr (.inr (.inr (.inl ⟨rfl, rfl, x, hx, h1, h2, hw⟩)))
  · have hn : ∀ x ∈ L, ¬ (x.t = T ∧ x.a = A) := fun x hx' e => hx ⟨x, hx', e⟩
    by_cases hq : a ≤ ((L.filter (fun x => x.t == T)).length : Nat)
    · exact .inr (.inr (.inr (.inr (.inl ⟨rfl, rfl, hn, hq⟩))))
    · by_cases hf : b ≤ (L.length : Nat)
      · exact .inr (.inr (.inr (.inr (.inr (.inl ⟨rfl, rfl, hn, hq, hf⟩)))))
      · exact .inr (.inr (.inr (.inr (.inr (.inr ⟨rfl, rfl, hn, hq, hf⟩)))))
end Go.Proofs.YtpmambceojbkaaaDoor
namespace Go.Proofs.YtpmambceojbkaaaDoor
open Go.RowKit
theorem ls_longm {l : List Ls} {i m : Nat} (h : i < l.length) (hm : m < 5) : m < ((lsC l).drop (i * 5)).length := by rw [List.length_drop, lsC_len]; omega
theorem ls_tn {l : List Ls} {i : Nat} (h : i < l.length) : (((lsC l).drop (i * 5)).drop 0)[0]? = some (.str (l.getD i default).t) := by rw [lsC_drop h]; rfl
theorem ls_al {l : List Ls} {i : Nat} (h : i < l.length) : (((lsC l).drop (i * 5)).drop 1)[0]? = some (.str (l.getD i default).a) := by rw [lsC_drop h]; rfl
theorem asc_at {L : List Ls} (h : Asc L) {j : Nat} (h0 : 0 < j) (hj : j < L.length) : kLt (L.getD (j - 1) default) (L.getD j default) := by
  have h1 := List.pairwise_iff_getElem.1 h (j - 1) j (by omega) hj (by omega)
  rw [List.getD_eq_getElem?_getD, List.getD_eq_getElem?_getD, List.getElem?_eq_getElem hj, List.getElem?_eq_getElem (show j - 1 < L.length by omega)]
  exact h1
theorem asc_t {L : List Ls} (h : Asc L) {j : Nat} (h0 : 0 < j) (hj : j < L.length) : ¬ (L.getD j default).t < (L.getD (j - 1) default).t := fun k => by
  rcases asc_at h h0 hj with e | e
  · exact sLt_asymm e k
  · rw [e.1] at k; exact sLt_irrefl _ k
theorem asc_a {L : List Ls} (h : Asc L) {j : Nat} (h0 : 0 < j) (hj : j < L.length) (e : (L.getD (j - 1) default).t = (L.getD j default).t) : (!decide ((L.getD (j - 1) default).a < (L.getD j default).a)) = false := by
  rcases asc_at h h0 hj with k | k
  · rw [e] at k; exact absurd k (sLt_irrefl _)
  · rw [decide_eq_true k.2]; rfl
structure PO (a b : Int) (n : Nat) where
  i : Nat
  M : List (Ls × Nat)
  ck : Nat
  L : List Ls
  ep : Int
  hi : i ≤ n
  h120 : i ≤ 120
  h : MI M ck L
  v : Inv a b ep L
  hep : 0 ≤ ep ∧ ep ≤ (i : Int)
structure PQ (a b : Int) (i : Nat) where
  M : List (Ls × Nat)
  ck : Nat
  L : List Ls
  ep : Int
  h : MI M ck L
  v : Inv a b ep L
  hep : 0 ≤ ep ∧ ep ≤ (i : Int) + 1
set_option maxHeartbeats 2000000 in
set_option maxRecDepth 100000 in
theorem leaseOne_ev (eo : Nat → Nat × Nat) (hd : ∀ i j, i < 20 → j < 20 → i ≠ j → eo i ≠ eo j) (ca cb cc : Int) (o : Nat) (l : List LA) (hl : l.length ≤ maxLen) : Meets Tryd.prog 5 [.agg [.i64 ca, .i64 cb, .i64 cc], .sl 450 o l.length 5] [(3, some ⟨.agg [.err 155 (1) (offE eo (1))], errT, false⟩), (4, some ⟨.agg [.err 155 (2) (offE eo (2))], errT, false⟩), (5, some ⟨.agg [.err 155 (3) (offE eo (3))], errT, false⟩), (6, some ⟨.agg [.err 155 (4) (offE eo (4))], errT, false⟩), (7, some ⟨.agg [.err 155 (5) (offE eo (5))], errT, false⟩), (8, some ⟨.agg [.err 155 (6) (offE eo (6))], errT, false⟩), (9, some ⟨.agg [.err 155 (7) (offE eo (7))], errT, false⟩), (2, some ⟨.agg [.err 155 (8) (offE eo (8))], errT, false⟩), (1, some ⟨.agg [.err 155 (9) (offE eo (9))], errT, false⟩), (10, some ⟨.agg [.err 155 (10) (offE eo (10))], errT, false⟩), (11, some ⟨.agg [.err 155 (11) (offE eo (11))], errT, false⟩), (12, some ⟨.agg [.err 155 (12) (offE eo (12))], errT, false⟩), (13, some ⟨.agg [.err 155 (13) (offE eo (13))], errT, false⟩), (14, some ⟨.agg [.err 155 (14) (offE eo (14))], errT, false⟩), (15, some ⟨.agg [.err 155 (15) (offE eo (15))], errT, false⟩), (16, some ⟨.agg [.err 155 (16) (offE eo (16))], errT, false⟩), (0, some ⟨.agg [.err 155 (17) (offE eo (17))], errT, false⟩), (17, some ⟨.agg [.err 155 (18) (offE eo (18))], errT, false⟩), (18, some ⟨.agg [.err 155 (19) (offE eo (19))], errT, false⟩), (19, some ⟨.agg [.err 155 (20) (offE eo (20))], errT, false⟩), (401, some ⟨.agg [], errT, false⟩), (402, some ⟨.agg [], errT, false⟩), (403, some ⟨.agg [], errT, false⟩), (404, some ⟨.agg [], errT, false⟩), (405, some ⟨.agg [], errT, false⟩), (406, some ⟨.agg [], errT, false⟩), (407, some ⟨.agg [], errT, false⟩), (408, some ⟨.agg [], errT, false⟩), (409, some ⟨.agg [], errT, false⟩), (410, some ⟨.agg [], errT, false⟩), (411, some ⟨.agg [], errT, false⟩), (412, some ⟨.agg [], errT, false⟩), (413, some ⟨.agg [], errT, false⟩), (414, some ⟨.agg [], errT, false⟩), (415, some ⟨.agg [], errT, false⟩), (416, some ⟨.agg [], errT, false⟩), (417, some ⟨.agg [], errT, false⟩), (418, some ⟨.agg [], errT, false⟩), (419, some ⟨.agg [], errT, false⟩), (420, some ⟨.agg [], errT, false⟩), (450, some ⟨.agg (offC o (rowsC actL l)), anyT, false⟩)] (.bool true) [] := by
 have hl2 : l.length ≤ 9223372036854775807 := by unfold maxLen at hl; omega
 refine meets_of_ev (nt := 183) Tryd.func5 rfl rfl (Nat.le_of_ble_eq_true rfl) ?_
 refine .seq ?_
 refine .region ?_
 refine .a (op_boxRow rfl rfl) trivial rfl ?_
 refine .q (op_assign rfl) trivial rfl ?_
 refine .nil ?_
 show Ev _ _ _ _ _
 refine .seq ?_
 refine .seq ?_
 refine .region ?_
 refine .q (op_call (U := []) [] [] (awake20_ev eo hd) Tryd.func11 (by kernel_rfl) rfl rfl rfl (trivial) (⟨⟨_, _, rfl, rfl, rfl, rfl, (fun h => by cases h), rfl⟩, ⟨_, _, rfl, rfl, rfl, rfl, (fun h => by cases h), rfl⟩, ⟨_, _, rfl, rfl, rfl, rfl, (fun h => by cases h), rfl⟩, ⟨_, _, rfl, rfl, rfl, rfl, (fun h => by cases h), rfl⟩, ⟨_, _, rfl, rfl, rfl, rfl, (fun h => by cases h), rfl⟩, ⟨_, _, rfl, rfl, rfl, rfl, (fun h => by cases h), rfl⟩, ⟨_, _, rfl, rfl, rfl, rfl, (fun h => by cases h), rfl⟩, ⟨_, _, rfl, rfl, rfl, rfl, (fun h => by cases h), rfl⟩, ⟨_, _, rfl, rfl, rfl, rfl, (fun h => by cases h), rfl⟩, ⟨_, _, rfl, rfl, rfl, rfl, (fun h => by cases h), rfl⟩, ⟨_, _, rfl, rfl, rfl, rfl, (fun h => by cases h), rfl⟩, ⟨_, _, rfl, rfl, rfl, rfl, (fun h => by cases h), rfl⟩, ⟨_, _, rfl, rfl, rfl, rfl, (fun h => by cases h), rfl⟩, ⟨_, _, rfl, rfl, rfl, rfl, (fun h => by cases h), rfl⟩, ⟨_, _, rfl, rfl, rfl, rfl, (fun h => by cases h), rfl⟩, ⟨_, _, rfl, rfl, rfl, rfl, (fun h => by cases h), rfl⟩, ⟨_, _, rfl, rfl, rfl, rfl, (fun h => by cases h), rfl⟩, ⟨_, _, rfl, rfl, rfl, rfl, (fun h => by cases h), rfl⟩, ⟨_, _, rfl, rfl, rfl, rfl, (fun h => by cases h), rfl⟩, ⟨_, _, rfl, rfl, rfl, rfl, (fun h => by cases h), rfl⟩, ⟨_, _, rfl, rfl, rfl, rfl, (fun h => by cases h), rfl⟩, ⟨_, _, rfl, rfl, rfl, rfl, (fun h => by cases h), rfl⟩, ⟨_, _, rfl, rfl, rfl, rfl, (fun h => by cases h), rfl⟩, ⟨_, _, rfl, rfl, rfl, rfl, (fun h => by cases h), rfl⟩, ⟨_, _, rfl, rfl, rfl, rfl, (fun h => by cases h), rfl⟩, ⟨_, _, rfl, rfl, rfl, rfl, (fun h => by cases h), rfl⟩, ⟨_, _, rfl, rfl, rfl, rfl, (fun h => by cases h), rfl⟩, ⟨_, _, rfl, rfl, rfl, rfl, (fun h => by cases h), rfl⟩, ⟨_, _, rfl, rfl, rfl, rfl, (fun h => by cases h), rfl⟩, ⟨_, _, rfl, rfl, rfl, rfl, (fun h => by cases h), rfl⟩, ⟨_, _, rfl, rfl, rfl, rfl, (fun h => by cases h), rfl⟩, ⟨_, _, rfl, rfl, rfl, rfl, (fun h => by cases h), rfl⟩, ⟨_, _, rfl, rfl, rfl, rfl, (fun h => by cases h), rfl⟩, ⟨_, _, rfl, rfl, rfl, rfl, (fun h => by cases h), rfl⟩, ⟨_, _, rfl, rfl, rfl, rfl, (fun h => by cases h), rfl⟩, ⟨_, _, rfl, rfl, rfl, rfl, (fun h => by cases h), rfl⟩, ⟨_, _, rfl, rfl, rfl, rfl, (fun h => by cases h), rfl⟩, ⟨_, _, rfl, rfl, rfl, rfl, (fun h => by cases h), rfl⟩, ⟨_, _, rfl, rfl, rfl, rfl, (fun h => by cases h), rfl⟩, ⟨_, _, rfl, rfl, rfl, rfl, (fun h => by cases h), rfl⟩, trivial⟩) (trivial) (⟨(fun h => by cases h), (fun h => by cases h), (fun h => by cases h), (fun h => by cases h), (fun h => by cases h), (fun h => by cases h), (fun h => by cases h), (fun h => by cases h), (fun h => by cases h), (fun h => by cases h), (fun h => by cases h), (fun h => by cases h), (fun h => by cases h), (fun h => by cases h), (fun h => by cases h), (fun h => by cases h), (fun h => by cases h), (fun h => by cases h), (fun h => by cases h), (fun h => by cases h), (fun h => by cases h), (fun h => by cases h), (fun h => by cases h), (fun h => by cases h), (fun h => by cases h), (fun h => by cases h), (fun h => by cases h), (fun h => by cases h), (fun h => by cases h), (fun h => by cases h), (fun h => by cases h), (fun h => by cases h), (fun h => by cases h), (fun h => by cases h), (fun h => by cases h), (fun h => by cases h), (fun h => by cases h), (fun h => by cases h), (fun h => by cases h), (fun h => by cases h), trivial⟩) rfl) trivial rfl ?_
 refine .q (op_notB rfl) trivial rfl ?_
 refine .nil ?_
 show Ev _ _ _ _ _
 refine .cond_false rfl (rfl) ?_
 refine .skip ?_
 show Ev _ _ _ _ _
 refine .seq ?_
 refine .drawnF [[], [0], [], [2], [], [4], [], [6], [0, 1, 2, 3, 4, 5, 6, 7], [], [0, 1, 2, 3, 4, 5, 6, 7, 8, 9], [0, 1, 2, 3, 4, 5, 6, 7, 8, 9, 10]] [0, 1, 3, 5, 7, 8, 9, 11] [] [(0, ([1000], [])), (1, ([], [])), (3, ([1000], [])), (5, ([1000], [])), (7, ([1000], [])), (8, ([], [])), (11, ([], [1080]))] (by kernel_rfl) (by kernel_rfl) rfl ?_
 show DK _ [0, 1, 2, 3, 4, 5, 6, 7, 8, 9, 10, 11] _ _ _
 refine .q rfl (op_loadRow Tryd.underlying26 rfl (by kernel_rfl) rfl rfl rfl (rfl)) trivial ?_
 refine .a rfl (op_call (U := [(1016, some ⟨.agg [.i64 (min (max ca 0) 64), .i64 (min (max cb 0) 4096), .i64 (min (max cc 1) 1073741824), .mp 1017, .i64 0], 68, true⟩), (1017, some ⟨mpV [] 0, 0, true⟩)]) [] [(1016, 1024), (1017, 1016)] (new_ev ca cb cc) Tryd.func12 (by kernel_rfl) rfl rfl rfl (⟨⟨_, rfl, rfl, rfl⟩, trivial⟩) (trivial) (⟨⟨1024, _, rfl, rfl, rfl, rfl, .inl rfl⟩, ⟨1016, _, rfl, rfl, rfl, rfl, .inl rfl⟩, trivial⟩) (trivial) rfl) trivial rfl rfl ?_
 refine .q rfl (op_fieldAddr (m := 0) Tryd.underlying26 rfl (by kernel_rfl) rfl) trivial ?_
 refine .as (.ptr 1000 0) rfl ?_
 refine .q rfl (op_load Tryd.underlying3 rfl rfl rfl rfl (by show 0 < 3; decide)) trivial ?_
 refine .q rfl (op_fieldAddr (m := 0) Tryd.underlying26 rfl (by kernel_rfl) rfl) trivial ?_
 refine .as (.ptr 1000 1) rfl ?_
 refine .q rfl (op_load Tryd.underlying3 rfl rfl rfl rfl (by show 1 < 3; decide)) trivial ?_
 refine .q rfl (op_fieldAddr (m := 0) Tryd.underlying26 rfl (by kernel_rfl) rfl) trivial ?_
 refine .as (.ptr 1000 2) rfl ?_
 refine .q rfl (op_load Tryd.underlying3 rfl rfl rfl rfl (by show 2 < 3; decide)) trivial ?_
 refine .q rfl (op_call (U := []) [] [] (rnew_ev ca cb cc) Tryd.func13 (by kernel_rfl) rfl rfl rfl (⟨⟨_, rfl, rfl, rfl⟩, ⟨_, rfl, rfl, rfl⟩, ⟨_, rfl, rfl, rfl⟩, trivial⟩) (trivial) (trivial) (trivial) rfl) trivial ?_
 refine .a rfl (op_allocRow zero32 rel_zero32 rfl) trivial rfl rfl ?_
 refine .q rfl (op_assign rfl) trivial ?_
 refine .w rfl (op_storeRow (by kernel_rfl) rfl rfl rfl rfl rfl (rfl) (rfl)) trivial rfl rfl ?_
 refine .nil ?_
 show Ev _ _ _ _ _
 refine .seq ?_
 refine .seq ?_
 refine .region ?_
 refine .q (op_move rfl) trivial rfl ?_
 refine .q (op_eqPtrNil Tryd.underlying28 rfl rfl rfl) trivial rfl ?_
 refine .nil ?_
 show Ev _ _ _ _ _
 refine .cond_false rfl (rfl) ?_
 refine .skip ?_
 show Ev _ _ _ _ _
 refine .seq ?_
 refine .region ?_
 refine .q (op_assign rfl) trivial rfl ?_
 refine .nil ?_
 show Ev _ _ _ _ _
 refine .seq ?_
 refine .seq ?_
 refine .region ?_
 refine .q (op_assign rfl) trivial rfl ?_
 refine .nil ?_
 show Ev _ _ _ _ _
 refine .block ?_
 refine Ev.weak (StLe.weakB (cb := 1080) (ec := 32) (oc := true) (cs := [.i64 (min (max ca 0) 64), .i64 (min (max cb 0) 4096), .i64 (min (max cc 1) 1073741824), .i64 0, .nilsl]) (cs' := [.i64 (min (max ca 0) 64), .i64 (min (max cb 0) 4096), .i64 (min (max cc 1) 1073741824), .i64 0, .fsl (lsC []) ([] : List Ls).length 5]) (Nat.le_of_ble_eq_true rfl) rfl rfl (weak5 rfl rfl rfl rfl rfl (fun _ _ h => h) (fun _ _ h => h) (fun _ _ h => h) (nil_fsl 5))) ?_
 refine Ev.loop (ι := PO (min (max ca 0) 64) (min (max cb 0) 4096) l.length) (fun q => ⟨[(1, .sl 450 o l.length 5), (5, .ptr 1000 0), (6, .ptr 1008 0), (7, .i64 q.ep), (8, .i64 ((q.i : Nat) : Int))], [(1000, some ⟨.agg [.i64 (min (max ca 0) 64), .i64 (min (max cb 0) 4096), .i64 (min (max cc 1) 1073741824), .mp 1001, .i64 q.ep], 68, true⟩), (1001, some ⟨mpV q.M q.ck, 0, true⟩), (1008, some ⟨.agg [.i64 (min (max ca 0) 64), .i64 (min (max cb 0) 4096), .i64 (min (max cc 1) 1073741824), .i64 0, .fsl (lsC ([] : List Ls)) ([] : List Ls).length 5], 32, true⟩), (3, some ⟨.agg [.err 155 (1) (offE eo (1))], errT, false⟩), (4, some ⟨.agg [.err 155 (2) (offE eo (2))], errT, false⟩), (5, some ⟨.agg [.err 155 (3) (offE eo (3))], errT, false⟩), (6, some ⟨.agg [.err 155 (4) (offE eo (4))], errT, false⟩), (7, some ⟨.agg [.err 155 (5) (offE eo (5))], errT, false⟩), (8, some ⟨.agg [.err 155 (6) (offE eo (6))], errT, false⟩), (9, some ⟨.agg [.err 155 (7) (offE eo (7))], errT, false⟩), (2, some ⟨.agg [.err 155 (8) (offE eo (8))], errT, false⟩), (1, some ⟨.agg [.err 155 (9) (offE eo (9))], errT, false⟩), (10, some ⟨.agg [.err 155 (10) (offE eo (10))], errT, false⟩), (11, some ⟨.agg [.err 155 (11) (offE eo (11))], errT, false⟩), (12, some ⟨.agg [.err 155 (12) (offE eo (12))], errT, false⟩), (13, some ⟨.agg [.err 155 (13) (offE eo (13))], errT, false⟩), (14, some ⟨.agg [.err 155 (14) (offE eo (14))], errT, false⟩), (15, some ⟨.agg [.err 155 (15) (offE eo (15))], errT, false⟩), (16, some ⟨.agg [.err 155 (16) (offE eo (16))], errT, false⟩), (0, some ⟨.agg [.err 155 (17) (offE eo (17))], errT, false⟩), (17, some ⟨.agg [.err 155 (18) (offE eo (18))], errT, false⟩), (18, some ⟨.agg [.err 155 (19) (offE eo (19))], errT, false⟩), (19, some ⟨.agg [.err 155 (20) (offE eo (20))], errT, false⟩), (401, some ⟨.agg [], errT, false⟩), (402, some ⟨.agg [], errT, false⟩), (403, some ⟨.agg [], errT, false⟩), (404, some ⟨.agg [], errT, false⟩), (405, some ⟨.agg [], errT, false⟩), (406, some ⟨.agg [], errT, false⟩), (407, some ⟨.agg [], errT, false⟩), (408, some ⟨.agg [], errT, false⟩), (409, some ⟨.agg [], errT, false⟩), (410, some ⟨.agg [], errT, false⟩), (411, some ⟨.agg [], errT, false⟩), (412, some ⟨.agg [], errT, false⟩), (413, some ⟨.agg [], errT, false⟩), (414, some ⟨.agg [], errT, false⟩), (415, some ⟨.agg [], errT, false⟩), (416, some ⟨.agg [], errT, false⟩), (417, some ⟨.agg [], errT, false⟩), (418, some ⟨.agg [], errT, false⟩), (419, some ⟨.agg [], errT, false⟩), (420, some ⟨.agg [], errT, false⟩), (450, some ⟨.agg (offC o (rowsC actL l)), anyT, false⟩)], 1016⟩) (fun q => 120 - q.i) ⟨0, [], 0, [], 0, Nat.zero_le _, Nat.zero_le _, MI0, Inv.nil (by omega) (by omega), by decide⟩ (StLe.mk [(1000, 1016), (1001, 1017), (1008, 1080)] rfl rfl ⟨⟨_, rfl, by first | rfl | (simp only [AV.ren]; congr 1; omega), rfl⟩, ⟨_, rfl, by first | rfl | (simp only [AV.ren]; congr 1; omega), rfl⟩, ⟨_, rfl, by first | rfl | (simp only [AV.ren]; congr 1; omega), rfl⟩, ⟨_, rfl, by first | rfl | (simp only [AV.ren]; congr 1; omega), rfl⟩, ⟨_, rfl, by first | rfl | (simp only [AV.ren]; congr 1; omega), rfl⟩, trivial⟩ ⟨⟨_, _, rfl, rfl, rfl, rfl, id, rfl⟩, ⟨_, _, rfl, rfl, rfl, rfl, id, rfl⟩, ⟨_, _, rfl, rfl, rfl, rfl, id, rfl⟩, ⟨_, _, rfl, rfl, rfl, rfl, id, rfl⟩, ⟨_, _, rfl, rfl, rfl, rfl, id, rfl⟩, ⟨_, _, rfl, rfl, rfl, rfl, id, rfl⟩, ⟨_, _, rfl, rfl, rfl, rfl, id, rfl⟩, ⟨_, _, rfl, rfl, rfl, rfl, id, rfl⟩, ⟨_, _, rfl, rfl, rfl, rfl, id, rfl⟩, ⟨_, _, rfl, rfl, rfl, rfl, id, rfl⟩, ⟨_, _, rfl, rfl, rfl, rfl, id, rfl⟩, ⟨_, _, rfl, rfl, rfl, rfl, id, rfl⟩, ⟨_, _, rfl, rfl, rfl, rfl, id, rfl⟩, ⟨_, _, rfl, rfl, rfl, rfl, id, rfl⟩, ⟨_, _, rfl, rfl, rfl, rfl, id, rfl⟩, ⟨_, _, rfl, rfl, rfl, rfl, id, rfl⟩, ⟨_, _, rfl, rfl, rfl, rfl, id, rfl⟩, ⟨_, _, rfl, rfl, rfl, rfl, id, rfl⟩, ⟨_, _, rfl, rfl, rfl, rfl, id, rfl⟩, ⟨_, _, rfl, rfl, rfl, rfl, id, rfl⟩, ⟨_, _, rfl, rfl, rfl, rfl, id, rfl⟩, ⟨_, _, rfl, rfl, rfl, rfl, id, rfl⟩, ⟨_, _, rfl, rfl, rfl, rfl, id, rfl⟩, ⟨_, _, rfl, rfl, rfl, rfl, id, rfl⟩, ⟨_, _, rfl, rfl, rfl, rfl, id, rfl⟩, ⟨_, _, rfl, rfl, rfl, rfl, id, rfl⟩, ⟨_, _, rfl, rfl, rfl, rfl, id, rfl⟩, ⟨_, _, rfl, rfl, rfl, rfl, id, rfl⟩, ⟨_, _, rfl, rfl, rfl, rfl, id, rfl⟩, ⟨_, _, rfl, rfl, rfl, rfl, id, rfl⟩, ⟨_, _, rfl, rfl, rfl, rfl, id, rfl⟩, ⟨_, _, rfl, rfl, rfl, rfl, id, rfl⟩, ⟨_, _, rfl, rfl, rfl, rfl, id, rfl⟩, ⟨_, _, rfl, rfl, rfl, rfl, id, rfl⟩, ⟨_, _, rfl, rfl, rfl, rfl, id, rfl⟩, ⟨_, _, rfl, rfl, rfl, rfl, id, rfl⟩, ⟨_, _, rfl, rfl, rfl, rfl, id, rfl⟩, ⟨_, _, rfl, rfl, rfl, rfl, id, rfl⟩, ⟨_, _, rfl, rfl, rfl, rfl, id, rfl⟩, ⟨_, _, rfl, rfl, rfl, rfl, id, rfl⟩, ⟨_, _, rfl, rfl, rfl, rfl, id, rfl⟩, ⟨_, _, rfl, rfl, rfl, rfl, id, rfl⟩, ⟨_, _, rfl, rfl, rfl, rfl, id, rfl⟩, ⟨_, _, rfl, rfl, offC_ren _ o (rowsC_flat (fun _ => rfl) l), rfl, id, offC_nm _ o (rowsC_flat (fun _ => rfl) l)⟩, trivial⟩) ?_
 rintro ⟨i, M, ck, L, ep, hi0, hi120, hm, hv, hep⟩
 dsimp only
 refine .seq ?_
 refine .seq ?_
 refine .region ?_
 refine .q (op_move rfl) trivial rfl ?_
 refine .q (op_move rfl) trivial rfl ?_
 refine .q (op_len_sl Tryd.underlying27 rfl) trivial rfl ?_
 refine .q (op_cmpI rfl rfl rfl) trivial rfl ?_
 refine .q (op_move rfl) trivial rfl ?_
 refine .split (fun hg34 => ?_) (fun hg34 => ?_)
 ·simp only [decide_eq_true_eq] at hg34
  refine .q (op_move rfl) ⟨_, rfl, rfl⟩ rfl ?_
  refine .q (op_cmpI rfl rfl rfl) ⟨_, rfl, rfl⟩ rfl ?_
  refine .q (op_pick_true rfl rfl rfl) trivial rfl ?_
  refine .nil ?_
  show Ev _ _ _ _ _
  refine .cond rfl (fun hc37 => ?_) (fun hc37 => ?_)
  ·simp only [decide_eq_true_eq] at hc37
   refine .skip ?_
   show Ev _ _ _ _ _
   refine .seq ?_
   refine .block ?_
   refine .seq ?_
   refine Ev.cutp (ι := PQ (min (max ca 0) 64) (min (max cb 0) 4096) i) (fun q => ⟨[(1, .sl 450 o l.length 5), (5, .ptr 1000 0), (6, .ptr 1008 0), (7, .i64 q.ep), (8, .i64 ((i : Nat) : Int))], [(1000, some ⟨.agg [.i64 (min (max ca 0) 64), .i64 (min (max cb 0) 4096), .i64 (min (max cc 1) 1073741824), .mp 1001, .i64 q.ep], 68, true⟩), (1001, some ⟨mpV q.M q.ck, 0, true⟩), (1008, some ⟨.agg [.i64 (min (max ca 0) 64), .i64 (min (max cb 0) 4096), .i64 (min (max cc 1) 1073741824), .i64 0, .fsl (lsC ([] : List Ls)) ([] : List Ls).length 5], 32, true⟩), (3, some ⟨.agg [.err 155 (1) (offE eo (1))], errT, false⟩), (4, some ⟨.agg [.err 155 (2) (offE eo (2))], errT, false⟩), (5, some ⟨.agg [.err 155 (3) (offE eo (3))], errT, false⟩), (6, some ⟨.agg [.err 155 (4) (offE eo (4))], errT, false⟩), (7, some ⟨.agg [.err 155 (5) (offE eo (5))], errT, false⟩), (8, some ⟨.agg [.err 155 (6) (offE eo (6))], errT, false⟩), (9, some ⟨.agg [.err 155 (7) (offE eo (7))], errT, false⟩), (2, some ⟨.agg [.err 155 (8) (offE eo (8))], errT, false⟩), (1, some ⟨.agg [.err 155 (9) (offE eo (9))], errT, false⟩), (10, some ⟨.agg [.err 155 (10) (offE eo (10))], errT, false⟩), (11, some ⟨.agg [.err 155 (11) (offE eo (11))], errT, false⟩), (12, some ⟨.agg [.err 155 (12) (offE eo (12))], errT, false⟩), (13, some ⟨.agg [.err 155 (13) (offE eo (13))], errT, false⟩), (14, some ⟨.agg [.err 155 (14) (offE eo (14))], errT, false⟩), (15, some ⟨.agg [.err 155 (15) (offE eo (15))], errT, false⟩), (16, some ⟨.agg [.err 155 (16) (offE eo (16))], errT, false⟩), (0, some ⟨.agg [.err 155 (17) (offE eo (17))], errT, false⟩), (17, some ⟨.agg [.err 155 (18) (offE eo (18))], errT, false⟩), (18, some ⟨.agg [.err 155 (19) (offE eo (19))], errT, false⟩), (19, some ⟨.agg [.err 155 (20) (offE eo (20))], errT, false⟩), (401, some ⟨.agg [], errT, false⟩), (402, some ⟨.agg [], errT, false⟩), (403, some ⟨.agg [], errT, false⟩), (404, some ⟨.agg [], errT, false⟩), (405, some ⟨.agg [], errT, false⟩), (406, some ⟨.agg [], errT, false⟩), (407, some ⟨.agg [], errT, false⟩), (408, some ⟨.agg [], errT, false⟩), (409, some ⟨.agg [], errT, false⟩), (410, some ⟨.agg [], errT, false⟩), (411, some ⟨.agg [], errT, false⟩), (412, some ⟨.agg [], errT, false⟩), (413, some ⟨.agg [], errT, false⟩), (414, some ⟨.agg [], errT, false⟩), (415, some ⟨.agg [], errT, false⟩), (416, some ⟨.agg [], errT, false⟩), (417, some ⟨.agg [], errT, false⟩), (418, some ⟨.agg [], errT, false⟩), (419, some ⟨.agg [], errT, false⟩), (420, some ⟨.agg [], errT, false⟩), (450, some ⟨.agg (offC o (rowsC actL l)), anyT, false⟩)], 1016⟩) ?_ ?_
   ·refine .seq ?_
    refine Ev.cutp (ι := { b : Bool // b = decide ((l.getD i default).k < 1 ∨ 5 < (l.getD i default).k) }) (fun q => ⟨[(1, .sl 450 o l.length 5), (5, .ptr 1000 0), (6, .ptr 1008 0), (7, .i64 ep), (8, .i64 ((i : Nat) : Int)), (53, .bool q.1)], [(1000, some ⟨.agg [.i64 (min (max ca 0) 64), .i64 (min (max cb 0) 4096), .i64 (min (max cc 1) 1073741824), .mp 1001, .i64 ep], 68, true⟩), (1001, some ⟨mpV M ck, 0, true⟩), (1008, some ⟨.agg [.i64 (min (max ca 0) 64), .i64 (min (max cb 0) 4096), .i64 (min (max cc 1) 1073741824), .i64 0, .fsl (lsC ([] : List Ls)) ([] : List Ls).length 5], 32, true⟩), (3, some ⟨.agg [.err 155 (1) (offE eo (1))], errT, false⟩), (4, some ⟨.agg [.err 155 (2) (offE eo (2))], errT, false⟩), (5, some ⟨.agg [.err 155 (3) (offE eo (3))], errT, false⟩), (6, some ⟨.agg [.err 155 (4) (offE eo (4))], errT, false⟩), (7, some ⟨.agg [.err 155 (5) (offE eo (5))], errT, false⟩), (8, some ⟨.agg [.err 155 (6) (offE eo (6))], errT, false⟩), (9, some ⟨.agg [.err 155 (7) (offE eo (7))], errT, false⟩), (2, some ⟨.agg [.err 155 (8) (offE eo (8))], errT, false⟩), (1, some ⟨.agg [.err 155 (9) (offE eo (9))], errT, false⟩), (10, some ⟨.agg [.err 155 (10) (offE eo (10))], errT, false⟩), (11, some ⟨.agg [.err 155 (11) (offE eo (11))], errT, false⟩), (12, some ⟨.agg [.err 155 (12) (offE eo (12))], errT, false⟩), (13, some ⟨.agg [.err 155 (13) (offE eo (13))], errT, false⟩), (14, some ⟨.agg [.err 155 (14) (offE eo (14))], errT, false⟩), (15, some ⟨.agg [.err 155 (15) (offE eo (15))], errT, false⟩), (16, some ⟨.agg [.err 155 (16) (offE eo (16))], errT, false⟩), (0, some ⟨.agg [.err 155 (17) (offE eo (17))], errT, false⟩), (17, some ⟨.agg [.err 155 (18) (offE eo (18))], errT, false⟩), (18, some ⟨.agg [.err 155 (19) (offE eo (19))], errT, false⟩), (19, some ⟨.agg [.err 155 (20) (offE eo (20))], errT, false⟩), (401, some ⟨.agg [], errT, false⟩), (402, some ⟨.agg [], errT, false⟩), (403, some ⟨.agg [], errT, false⟩), (404, some ⟨.agg [], errT, false⟩), (405, some ⟨.agg [], errT, false⟩), (406, some ⟨.agg [], errT, false⟩), (407, some ⟨.agg [], errT, false⟩), (408, some ⟨.agg [], errT, false⟩), (409, some ⟨.agg [], errT, false⟩), (410, some ⟨.agg [], errT, false⟩), (411, some ⟨.agg [], errT, false⟩), (412, some ⟨.agg [], errT, false⟩), (413, some ⟨.agg [], errT, false⟩), (414, some ⟨.agg [], errT, false⟩), (415, some ⟨.agg [], errT, false⟩), (416, some ⟨.agg [], errT, false⟩), (417, some ⟨.agg [], errT, false⟩), (418, some ⟨.agg [], errT, false⟩), (419, some ⟨.agg [], errT, false⟩), (420, some ⟨.agg [], errT, false⟩), (450, some ⟨.agg (offC o (rowsC actL l)), anyT, false⟩)], 1016⟩) ?_ ?_
    ·refine .region ?_
     refine .q (op_move rfl) trivial rfl ?_
     refine .q (op_move rfl) trivial rfl ?_
     refine .q (op_indexAddr (z := 5) Tryd.underlying27 (by kernel_rfl) rfl rfl rfl (show i < l.length by omega)) trivial rfl ?_
     refine .q (op_fieldAddr (m := 0) Tryd.underlying37 rfl (by kernel_rfl) rfl) trivial rfl ?_
     refine .as (.ptr 450 (o + i * 5 + 0)) rfl ?_
     refine .q (op_load Tryd.underlying3 rfl rfl rfl (rows_at (z := 5) (fun _ => rfl) (get_i default (show i < l.length by omega)) (k := 0) rfl) (rows_lt (f := actL) (z := 5) (o := o) (l := l) (i := i) (fun _ => rfl) (by omega) (by decide))) trivial rfl ?_
     refine .q (op_cmpI rfl rfl rfl) trivial rfl ?_
     refine .q (op_move rfl) trivial rfl ?_
     refine .split (fun hg46 => ?_) (fun hg46 => ?_)
     ·simp only [decide_eq_true_eq] at hg46
      refine .no ⟨_, rfl, rfl⟩ rfl ?_
      refine .no ⟨_, rfl, rfl⟩ rfl ?_
      refine .no ⟨_, rfl, rfl⟩ rfl ?_
      refine .no ⟨_, rfl, rfl⟩ rfl ?_
      refine .no ⟨_, rfl, rfl⟩ rfl ?_
      refine .no ⟨_, rfl, rfl⟩ rfl ?_
      refine .q (op_pick_true rfl rfl rfl) trivial rfl ?_
      refine .nil ?_
      exact ⟨⟨true, (decide_eq_true (.inl (by omega))).symm⟩, StLe.mk [(1000, 1000), (1001, 1001), (1008, 1008)] rfl rfl ⟨⟨_, rfl, by first | rfl | (simp only [AV.ren]; congr 1; omega), rfl⟩, ⟨_, rfl, by first | rfl | (simp only [AV.ren]; congr 1; omega), rfl⟩, ⟨_, rfl, by first | rfl | (simp only [AV.ren]; congr 1; omega), rfl⟩, ⟨_, rfl, by first | rfl | (simp only [AV.ren]; congr 1; omega), rfl⟩, ⟨_, rfl, by first | rfl | (simp only [AV.ren]; congr 1; omega), rfl⟩, ⟨_, rfl, by first | rfl | (simp only [AV.ren]; congr 1; omega), rfl⟩, trivial⟩ ⟨⟨_, _, rfl, rfl, rfl, rfl, id, rfl⟩, ⟨_, _, rfl, rfl, rfl, rfl, id, rfl⟩, ⟨_, _, rfl, rfl, rfl, rfl, id, rfl⟩, ⟨_, _, rfl, rfl, rfl, rfl, id, rfl⟩, ⟨_, _, rfl, rfl, rfl, rfl, id, rfl⟩, ⟨_, _, rfl, rfl, rfl, rfl, id, rfl⟩, ⟨_, _, rfl, rfl, rfl, rfl, id, rfl⟩, ⟨_, _, rfl, rfl, rfl, rfl, id, rfl⟩, ⟨_, _, rfl, rfl, rfl, rfl, id, rfl⟩, ⟨_, _, rfl, rfl, rfl, rfl, id, rfl⟩, ⟨_, _, rfl, rfl, rfl, rfl, id, rfl⟩, ⟨_, _, rfl, rfl, rfl, rfl, id, rfl⟩, ⟨_, _, rfl, rfl, rfl, rfl, id, rfl⟩, ⟨_, _, rfl, rfl, rfl, rfl, id, rfl⟩, ⟨_, _, rfl, rfl, rfl, rfl, id, rfl⟩, ⟨_, _, rfl, rfl, rfl, rfl, id, rfl⟩, ⟨_, _, rfl, rfl, rfl, rfl, id, rfl⟩, ⟨_, _, rfl, rfl, rfl, rfl, id, rfl⟩, ⟨_, _, rfl, rfl, rfl, rfl, id, rfl⟩, ⟨_, _, rfl, rfl, rfl, rfl, id, rfl⟩, ⟨_, _, rfl, rfl, rfl, rfl, id, rfl⟩, ⟨_, _, rfl, rfl, rfl, rfl, id, rfl⟩, ⟨_, _, rfl, rfl, rfl, rfl, id, rfl⟩, ⟨_, _, rfl, rfl, rfl, rfl, id, rfl⟩, ⟨_, _, rfl, rfl, rfl, rfl, id, rfl⟩, ⟨_, _, rfl, rfl, rfl, rfl, id, rfl⟩, ⟨_, _, rfl, rfl, rfl, rfl, id, rfl⟩, ⟨_, _, rfl, rfl, rfl, rfl, id, rfl⟩, ⟨_, _, rfl, rfl, rfl, rfl, id, rfl⟩, ⟨_, _, rfl, rfl, rfl, rfl, id, rfl⟩, ⟨_, _, rfl, rfl, rfl, rfl, id, rfl⟩, ⟨_, _, rfl, rfl, rfl, rfl, id, rfl⟩, ⟨_, _, rfl, rfl, rfl, rfl, id, rfl⟩, ⟨_, _, rfl, rfl, rfl, rfl, id, rfl⟩, ⟨_, _, rfl, rfl, rfl, rfl, id, rfl⟩, ⟨_, _, rfl, rfl, rfl, rfl, id, rfl⟩, ⟨_, _, rfl, rfl, rfl, rfl, id, rfl⟩, ⟨_, _, rfl, rfl, rfl, rfl, id, rfl⟩, ⟨_, _, rfl, rfl, rfl, rfl, id, rfl⟩, ⟨_, _, rfl, rfl, rfl, rfl, id, rfl⟩, ⟨_, _, rfl, rfl, rfl, rfl, id, rfl⟩, ⟨_, _, rfl, rfl, rfl, rfl, id, rfl⟩, ⟨_, _, rfl, rfl, rfl, rfl, id, rfl⟩, ⟨_, _, rfl, rfl, offC_ren _ o (rowsC_flat (fun _ => rfl) l), rfl, id, offC_nm _ o (rowsC_flat (fun _ => rfl) l)⟩, trivial⟩⟩
     ·simp only [decide_eq_false_iff_not] at hg46
      refine .q (op_move rfl) ⟨_, rfl, rfl⟩ rfl ?_
      refine .q (op_move rfl) ⟨_, rfl, rfl⟩ rfl ?_
      refine .q (op_indexAddr (z := 5) Tryd.underlying27 (by kernel_rfl) rfl rfl rfl (show i < l.length by omega)) ⟨_, rfl, rfl⟩ rfl ?_
      refine .q (op_fieldAddr (m := 0) Tryd.underlying37 rfl (by kernel_rfl) rfl) ⟨_, rfl, rfl⟩ rfl ?_
      refine .as (.ptr 450 (o + i * 5 + 0)) rfl ?_
      refine .q (op_load Tryd.underlying3 rfl rfl rfl (rows_at (z := 5) (fun _ => rfl) (get_i default (show i < l.length by omega)) (k := 0) rfl) (rows_lt (f := actL) (z := 5) (o := o) (l := l) (i := i) (fun _ => rfl) (by omega) (by decide))) ⟨_, rfl, rfl⟩ rfl ?_
      refine .q (op_cmpI rfl rfl rfl) ⟨_, rfl, rfl⟩ rfl ?_
      refine .q (op_pick_false rfl rfl rfl) trivial rfl ?_
      refine .nil ?_
      exact ⟨⟨_, decide_eq_decide.2 ⟨.inr, fun h => h.resolve_left (by omega)⟩⟩, StLe.mk [(1000, 1000), (1001, 1001), (1008, 1008)] rfl rfl ⟨⟨_, rfl, by first | rfl | (simp only [AV.ren]; congr 1; omega), rfl⟩, ⟨_, rfl, by first | rfl | (simp only [AV.ren]; congr 1; omega), rfl⟩, ⟨_, rfl, by first | rfl | (simp only [AV.ren]; congr 1; omega), rfl⟩, ⟨_, rfl, by first | rfl | (simp only [AV.ren]; congr 1; omega), rfl⟩, ⟨_, rfl, by first | rfl | (simp only [AV.ren]; congr 1; omega), rfl⟩, ⟨_, rfl, by first | rfl | (simp only [AV.ren]; congr 1; omega), rfl⟩, trivial⟩ ⟨⟨_, _, rfl, rfl, rfl, rfl, id, rfl⟩, ⟨_, _, rfl, rfl, rfl, rfl, id, rfl⟩, ⟨_, _, rfl, rfl, rfl, rfl, id, rfl⟩, ⟨_, _, rfl, rfl, rfl, rfl, id, rfl⟩, ⟨_, _, rfl, rfl, rfl, rfl, id, rfl⟩, ⟨_, _, rfl, rfl, rfl, rfl, id, rfl⟩, ⟨_, _, rfl, rfl, rfl, rfl, id, rfl⟩, ⟨_, _, rfl, rfl, rfl, rfl, id, rfl⟩, ⟨_, _, rfl, rfl, rfl, rfl, id, rfl⟩, ⟨_, _, rfl, rfl, rfl, rfl, id, rfl⟩, ⟨_, _, rfl, rfl, rfl, rfl, id, rfl⟩, ⟨_, _, rfl, rfl, rfl, rfl, id, rfl⟩, ⟨_, _, rfl, rfl, rfl, rfl, id, rfl⟩, ⟨_, _, rfl, rfl, rfl, rfl, id, rfl⟩, ⟨_, _, rfl, rfl, rfl, rfl, id, rfl⟩, ⟨_, _, rfl, rfl, rfl, rfl, id, rfl⟩, ⟨_, _, rfl, rfl, rfl, rfl, id, rfl⟩, ⟨_, _, rfl, rfl, rfl, rfl, id, rfl⟩, ⟨_, _, rfl, rfl, rfl, rfl, id, rfl⟩, ⟨_, _, rfl, rfl, rfl, rfl, id, rfl⟩, ⟨_, _, rfl, rfl, rfl, rfl, id, rfl⟩, ⟨_, _, rfl, rfl, rfl, rfl, id, rfl⟩, ⟨_, _, rfl, rfl, rfl, rfl, id, rfl⟩, ⟨_, _, rfl, rfl, rfl, rfl, id, rfl⟩, ⟨_, _, rfl, rfl, rfl, rfl, id, rfl⟩, ⟨_, _, rfl, rfl, rfl, rfl, id, rfl⟩, ⟨_, _, rfl, rfl, rfl, rfl, id, rfl⟩, ⟨_, _, rfl, rfl, rfl, rfl, id, rfl⟩, ⟨_, _, rfl, rfl, rfl, rfl, id, rfl⟩, ⟨_, _, rfl, rfl, rfl, rfl, id, rfl⟩, ⟨_, _, rfl, rfl, rfl, rfl, id, rfl⟩, ⟨_, _, rfl, rfl, rfl, rfl, id, rfl⟩, ⟨_, _, rfl, rfl, rfl, rfl, id, rfl⟩, ⟨_, _, rfl, rfl, rfl, rfl, id, rfl⟩, ⟨_, _, rfl, rfl, rfl, rfl, id, rfl⟩, ⟨_, _, rfl, rfl, rfl, rfl, id, rfl⟩, ⟨_, _, rfl, rfl, rfl, rfl, id, rfl⟩, ⟨_, _, rfl, rfl, rfl, rfl, id, rfl⟩, ⟨_, _, rfl, rfl, rfl, rfl, id, rfl⟩, ⟨_, _, rfl, rfl, rfl, rfl, id, rfl⟩, ⟨_, _, rfl, rfl, rfl, rfl, id, rfl⟩, ⟨_, _, rfl, rfl, rfl, rfl, id, rfl⟩, ⟨_, _, rfl, rfl, rfl, rfl, id, rfl⟩, ⟨_, _, rfl, rfl, offC_ren _ o (rowsC_flat (fun _ => rfl) l), rfl, id, offC_nm _ o (rowsC_flat (fun _ => rfl) l)⟩, trivial⟩⟩
    ·rintro ⟨b53, hb53⟩
     dsimp only
     refine .cond rfl (fun hc53 => ?_) (fun hc53 => ?_)
     ·skip
      refine .seq ?_
      refine .drawnF [[], [], [], [1, 2], [1, 2, 3], [1, 2, 3, 4], [1, 2, 3, 4, 5], [], [], [7, 8], [7, 8, 9], [7, 8, 9, 10], [1, 2, 3, 4, 5, 6, 7, 8, 9, 10, 11], [], [], [13, 14], [13, 14, 15], [13, 14, 15, 16], [], [], [18, 19], [18, 19, 20], [18, 19, 20, 21], [0, 1, 2, 3, 4, 5, 6, 7, 8, 9, 10, 11, 12, 13, 14, 15, 16, 17, 18, 19, 20, 21, 22], [0, 1, 2, 3, 4, 5, 6, 7, 8, 9, 10, 11, 12, 13, 14, 15, 16, 17, 18, 19, 20, 21, 22, 23], [0, 1, 2, 3, 4, 5, 6, 7, 8, 9, 10, 11, 12, 13, 14, 15, 16, 17, 18, 19, 20, 21, 22, 23, 24], [0, 1, 2, 3, 4, 5, 6, 7, 8, 9, 10, 11, 12, 13, 14, 15, 16, 17, 18, 19, 20, 21, 22, 23, 24], [0, 1, 2, 3, 4, 5, 6, 7, 8, 9, 10, 11, 12, 13, 14, 15, 16, 17, 18, 19, 20, 21, 22, 23, 24], [], [0, 1, 2, 3, 4, 5, 6, 7, 8, 9, 10, 11, 12, 13, 14, 15, 16, 17, 18, 19, 20, 21, 22, 23, 24, 25, 28], [0, 1, 2, 3, 4, 5, 6, 7, 8, 9, 10, 11, 12, 13, 14, 15, 16, 17, 18, 19, 20, 21, 22, 23, 24, 25, 26, 28, 29], [0, 1, 2, 3, 4, 5, 6, 7, 8, 9, 10, 11, 12, 13, 14, 15, 16, 17, 18, 19, 20, 21, 22, 23, 24, 25, 26, 27, 28, 29, 30]] [5, 6, 11, 12, 17, 22, 23, 28, 29] [] [(5, ([450], [])), (6, ([], [])), (11, ([450], [])), (12, ([], [])), (17, ([450], [])), (22, ([450], [])), (23, ([1000, 1001, 3, 4, 5, 6, 7, 8, 9, 2, 1, 10, 11, 12, 13, 14, 15, 16, 0, 17, 18, 19, 401, 402, 403, 404, 405, 406, 407, 408, 409, 410, 411, 412, 413, 414, 415, 416, 417, 418, 419, 420], [1000, 1001])), (28, ([], [])), (29, ([], [1240]))] (by kernel_rfl) (by kernel_rfl) rfl ?_
      show DK _ [0, 1, 2, 3, 4, 5, 6, 7, 8, 9, 10, 11, 12, 13, 14, 15, 16, 17, 18, 19, 20, 21, 22, 23, 24, 25, 26, 27, 28, 29, 30, 31] _ _ _
      rcases take_cases (min (max ca 0) 64) (min (max cb 0) 4096) L ((l.getD i default).T.take 70) ((l.getD i default).A.take 70) (l.getD i default).o with h1 | ⟨h1, h2⟩ | ⟨h1, h2, x, hx, e1, e2, hw⟩ | ⟨h1, h2, x, hx, e1, e2, hw⟩ | ⟨h1, h2, hn, hq⟩ | ⟨h1, h2, hn, hq, hf⟩ | ⟨h1, h2, hn, hq, hf⟩
      ·refine .q rfl (op_move rfl) trivial ?_
       refine .q rfl (op_move rfl) trivial ?_
       refine .q rfl (op_move rfl) trivial ?_
       refine .q rfl (op_indexAddr (z := 5) Tryd.underlying27 (by kernel_rfl) rfl rfl rfl (show i < l.length by omega)) trivial ?_
       refine .q rfl (op_fieldAddr (m := 0) Tryd.underlying37 rfl (by kernel_rfl) rfl) trivial ?_
       refine .as (.ptr 450 (o + i * 5 + 1)) rfl ?_
       refine .q rfl (op_load Tryd.underlying9 rfl rfl rfl (rows_at (z := 5) (fun _ => rfl) (get_i default (show i < l.length by omega)) (k := 1) rfl) (rows_lt (f := actL) (z := 5) (o := o) (l := l) (i := i) (fun _ => rfl) (by omega) (by decide))) trivial ?_
       refine .q rfl (op_call (U := []) [] [] (cut_ev (l.getD i default).T 70 (l.getD i default).hT (by decide)) Tryd.func8 (by kernel_rfl) rfl rfl rfl (⟨⟨_, rfl, rfl, rfl⟩, ⟨_, rfl, rfl, rfl⟩, trivial⟩) (trivial) (trivial) (trivial) rfl) trivial ?_
       refine .q rfl (op_move rfl) trivial ?_
       refine .q rfl (op_move rfl) trivial ?_
       refine .q rfl (op_indexAddr (z := 5) Tryd.underlying27 (by kernel_rfl) rfl rfl rfl (show i < l.length by omega)) trivial ?_
       refine .q rfl (op_fieldAddr (m := 0) Tryd.underlying37 rfl (by kernel_rfl) rfl) trivial ?_
       refine .as (.ptr 450 (o + i * 5 + 2)) rfl ?_
       refine .q rfl (op_load Tryd.underlying9 rfl rfl rfl (rows_at (z := 5) (fun _ => rfl) (get_i default (show i < l.length by omega)) (k := 2) rfl) (rows_lt (f := actL) (z := 5) (o := o) (l := l) (i := i) (fun _ => rfl) (by omega) (by decide))) trivial ?_
       refine .q rfl (op_call (U := []) [] [] (cut_ev (l.getD i default).A 70 (l.getD i default).hA (by decide)) Tryd.func8 (by kernel_rfl) rfl rfl rfl (⟨⟨_, rfl, rfl, rfl⟩, ⟨_, rfl, rfl, rfl⟩, trivial⟩) (trivial) (trivial) (trivial) rfl) trivial ?_
       refine .q rfl (op_move rfl) trivial ?_
       refine .q rfl (op_move rfl) trivial ?_
       refine .q rfl (op_indexAddr (z := 5) Tryd.underlying27 (by kernel_rfl) rfl rfl rfl (show i < l.length by omega)) trivial ?_
       refine .q rfl (op_fieldAddr (m := 0) Tryd.underlying37 rfl (by kernel_rfl) rfl) trivial ?_
       refine .as (.ptr 450 (o + i * 5 + 3)) rfl ?_
       refine .q rfl (op_load Tryd.underlying3 rfl rfl rfl (rows_at (z := 5) (fun _ => rfl) (get_i default (show i < l.length by omega)) (k := 3) rfl) (rows_lt (f := actL) (z := 5) (o := o) (l := l) (i := i) (fun _ => rfl) (by omega) (by decide))) trivial ?_
       refine .q rfl (op_move rfl) trivial ?_
       refine .q rfl (op_move rfl) trivial ?_
       refine .q rfl (op_indexAddr (z := 5) Tryd.underlying27 (by kernel_rfl) rfl rfl rfl (show i < l.length by omega)) trivial ?_
       refine .q rfl (op_fieldAddr (m := 0) Tryd.underlying37 rfl (by kernel_rfl) rfl) trivial ?_
       refine .as (.ptr 450 (o + i * 5 + 4)) rfl ?_
       refine .q rfl (op_load Tryd.underlying3 rfl rfl rfl (rows_at (z := 5) (fun _ => rfl) (get_i default (show i < l.length by omega)) (k := 4) rfl) (rows_lt (f := actL) (z := 5) (o := o) (l := l) (i := i) (fun _ => rfl) (by omega) (by decide))) trivial ?_
       refine .q rfl (op_call (U := []) [(500, 1000), (501, 1001)] [] (takeV1_ev ((l.getD i default).T.take 70) ((l.getD i default).A.take 70) (l.getD i default).o (l.getD i default).n eo (by rw [List.length_take]; have := (l.getD i default).hT; unfold maxLen at this; omega) (by rw [List.length_take]; have := (l.getD i default).hA; unfold maxLen at this; omega) h1) Tryd.func19 (by kernel_rfl) rfl rfl rfl (⟨⟨_, rfl, rfl, rfl⟩, ⟨_, rfl, rfl, rfl⟩, ⟨_, rfl, rfl, rfl⟩, ⟨_, rfl, rfl, rfl⟩, ⟨_, rfl, rfl, rfl⟩, trivial⟩) (⟨⟨_, _, rfl, rfl, rfl, rfl, (fun h => by cases h), rfl⟩, trivial⟩) (trivial) (⟨(fun h => by cases h), trivial⟩) rfl) trivial ?_
       refine .q rfl (op_move rfl) trivial ?_
       refine .q rfl (op_extract rfl rfl) trivial ?_
       refine .q rfl (op_extract rfl rfl) trivial ?_
       refine .q rfl (op_extract rfl rfl) trivial ?_
       refine .a rfl (op_allocRow zero45 rel_zero45 rfl) trivial rfl rfl ?_
       refine .w rfl (op_storeRow (by kernel_rfl) rfl rfl rfl rfl rfl (rfl) (rfl)) trivial rfl rfl ?_
       refine .q rfl (op_assign rfl) trivial ?_
       refine .q rfl (op_assign rfl) trivial ?_
       refine .nil ?_
       show Ev _ _ _ _ _
       refine .seq ?_
       refine .seq ?_
       refine .region ?_
       refine .q (op_move rfl) trivial rfl ?_
       refine .q (op_eqErrNil (e := 17) Tryd.underlying47 rfl rfl) trivial rfl ?_
       refine .q (op_move rfl) trivial rfl ?_
       refine .know (b' := false) (rfl) ?_
       refine .no ⟨_, rfl, rfl⟩ rfl ?_
       refine .no ⟨_, rfl, rfl⟩ rfl ?_
       refine .no ⟨_, rfl, rfl⟩ rfl ?_
       refine .no ⟨_, rfl, rfl⟩ rfl ?_
       refine .no ⟨_, rfl, rfl⟩ rfl ?_
       refine .q (op_pick_false rfl rfl rfl) trivial rfl ?_
       refine .nil ?_
       show Ev _ _ _ _ _
       refine .cond_false rfl rfl ?_
       refine .skip ?_
       show Ev _ _ _ _ _
       refine .seq ?_
       refine .region ?_
       refine .q (op_move rfl) trivial rfl ?_
       refine .q (op_eqErrNil (e := 17) Tryd.underlying47 rfl rfl) trivial rfl ?_
       refine .nil ?_
       show Ev _ _ _ _ _
       refine .cond_false rfl (rfl) ?_
       refine .skip ?_
       exact ⟨⟨M, ck, L, ep, hm, hv, by omega⟩, StLe.mk [(1000, 1000), (1001, 1001), (1008, 1008)] rfl rfl ⟨⟨_, rfl, by first | rfl | (simp only [AV.ren]; congr 1; omega), rfl⟩, ⟨_, rfl, by first | rfl | (simp only [AV.ren]; congr 1; omega), rfl⟩, ⟨_, rfl, by first | rfl | (simp only [AV.ren]; congr 1; omega), rfl⟩, ⟨_, rfl, by first | rfl | (simp only [AV.ren]; congr 1; omega), rfl⟩, ⟨_, rfl, by first | rfl | (simp only [AV.ren]; congr 1; omega), rfl⟩, trivial⟩ ⟨⟨_, _, rfl, rfl, rfl, rfl, id, rfl⟩, ⟨_, _, rfl, rfl, rfl, rfl, id, rfl⟩, ⟨_, _, rfl, rfl, rfl, rfl, id, rfl⟩, ⟨_, _, rfl, rfl, rfl, rfl, id, rfl⟩, ⟨_, _, rfl, rfl, rfl, rfl, id, rfl⟩, ⟨_, _, rfl, rfl, rfl, rfl, id, rfl⟩, ⟨_, _, rfl, rfl, rfl, rfl, id, rfl⟩, ⟨_, _, rfl, rfl, rfl, rfl, id, rfl⟩, ⟨_, _, rfl, rfl, rfl, rfl, id, rfl⟩, ⟨_, _, rfl, rfl, rfl, rfl, id, rfl⟩, ⟨_, _, rfl, rfl, rfl, rfl, id, rfl⟩, ⟨_, _, rfl, rfl, rfl, rfl, id, rfl⟩, ⟨_, _, rfl, rfl, rfl, rfl, id, rfl⟩, ⟨_, _, rfl, rfl, rfl, rfl, id, rfl⟩, ⟨_, _, rfl, rfl, rfl, rfl, id, rfl⟩, ⟨_, _, rfl, rfl, rfl, rfl, id, rfl⟩, ⟨_, _, rfl, rfl, rfl, rfl, id, rfl⟩, ⟨_, _, rfl, rfl, rfl, rfl, id, rfl⟩, ⟨_, _, rfl, rfl, rfl, rfl, id, rfl⟩, ⟨_, _, rfl, rfl, rfl, rfl, id, rfl⟩, ⟨_, _, rfl, rfl, rfl, rfl, id, rfl⟩, ⟨_, _, rfl, rfl, rfl, rfl, id, rfl⟩, ⟨_, _, rfl, rfl, rfl, rfl, id, rfl⟩, ⟨_, _, rfl, rfl, rfl, rfl, id, rfl⟩, ⟨_, _, rfl, rfl, rfl, rfl, id, rfl⟩, ⟨_, _, rfl, rfl, rfl, rfl, id, rfl⟩, ⟨_, _, rfl, rfl, rfl, rfl, id, rfl⟩, ⟨_, _, rfl, rfl, rfl, rfl, id, rfl⟩, ⟨_, _, rfl, rfl, rfl, rfl, id, rfl⟩, ⟨_, _, rfl, rfl, rfl, rfl, id, rfl⟩, ⟨_, _, rfl, rfl, rfl, rfl, id, rfl⟩, ⟨_, _, rfl, rfl, rfl, rfl, id, rfl⟩, ⟨_, _, rfl, rfl, rfl, rfl, id, rfl⟩, ⟨_, _, rfl, rfl, rfl, rfl, id, rfl⟩, ⟨_, _, rfl, rfl, rfl, rfl, id, rfl⟩, ⟨_, _, rfl, rfl, rfl, rfl, id, rfl⟩, ⟨_, _, rfl, rfl, rfl, rfl, id, rfl⟩, ⟨_, _, rfl, rfl, rfl, rfl, id, rfl⟩, ⟨_, _, rfl, rfl, rfl, rfl, id, rfl⟩, ⟨_, _, rfl, rfl, rfl, rfl, id, rfl⟩, ⟨_, _, rfl, rfl, rfl, rfl, id, rfl⟩, ⟨_, _, rfl, rfl, rfl, rfl, id, rfl⟩, ⟨_, _, rfl, rfl, rfl, rfl, id, rfl⟩, ⟨_, _, rfl, rfl, offC_ren _ o (rowsC_flat (fun _ => rfl) l), rfl, id, offC_nm _ o (rowsC_flat (fun _ => rfl) l)⟩, trivial⟩⟩
      ·refine .q rfl (op_move rfl) trivial ?_
       refine .q rfl (op_move rfl) trivial ?_
       refine .q rfl (op_move rfl) trivial ?_
       refine .q rfl (op_indexAddr (z := 5) Tryd.underlying27 (by kernel_rfl) rfl rfl rfl (show i < l.length by omega)) trivial ?_
       refine .q rfl (op_fieldAddr (m := 0) Tryd.underlying37 rfl (by kernel_rfl) rfl) trivial ?_
       refine .as (.ptr 450 (o + i * 5 + 1)) rfl ?_
       refine .q rfl (op_load Tryd.underlying9 rfl rfl rfl (rows_at (z := 5) (fun _ => rfl) (get_i default (show i < l.length by omega)) (k := 1) rfl) (rows_lt (f := actL) (z := 5) (o := o) (l := l) (i := i) (fun _ => rfl) (by omega) (by decide))) trivial ?_
       refine .q rfl (op_call (U := []) [] [] (cut_ev (l.getD i default).T 70 (l.getD i default).hT (by decide)) Tryd.func8 (by kernel_rfl) rfl rfl rfl (⟨⟨_, rfl, rfl, rfl⟩, ⟨_, rfl, rfl, rfl⟩, trivial⟩) (trivial) (trivial) (trivial) rfl) trivial ?_
       refine .q rfl (op_move rfl) trivial ?_
       refine .q rfl (op_move rfl) trivial ?_
       refine .q rfl (op_indexAddr (z := 5) Tryd.underlying27 (by kernel_rfl) rfl rfl rfl (show i < l.length by omega)) trivial ?_
       refine .q rfl (op_fieldAddr (m := 0) Tryd.underlying37 rfl (by kernel_rfl) rfl) trivial ?_
       refine .as (.ptr 450 (o + i * 5 + 2)) rfl ?_
       refine .q rfl (op_load Tryd.underlying9 rfl rfl rfl (rows_at (z := 5) (fun _ => rfl) (get_i default (show i < l.length by omega)) (k := 2) rfl) (rows_lt (f := actL) (z := 5) (o := o) (l := l) (i := i) (fun _ => rfl) (by omega) (by decide))) trivial ?_
       refine .q rfl (op_call (U := []) [] [] (cut_ev (l.getD i default).A 70 (l.getD i default).hA (by decide)) Tryd.func8 (by kernel_rfl) rfl rfl rfl (⟨⟨_, rfl, rfl, rfl⟩, ⟨_, rfl, rfl, rfl⟩, trivial⟩) (trivial) (trivial) (trivial) rfl) trivial ?_
       refine .q rfl (op_move rfl) trivial ?_
       refine .q rfl (op_move rfl) trivial ?_
       refine .q rfl (op_indexAddr (z := 5) Tryd.underlying27 (by kernel_rfl) rfl rfl rfl (show i < l.length by omega)) trivial ?_
       refine .q rfl (op_fieldAddr (m := 0) Tryd.underlying37 rfl (by kernel_rfl) rfl) trivial ?_
       refine .as (.ptr 450 (o + i * 5 + 3)) rfl ?_
       refine .q rfl (op_load Tryd.underlying3 rfl rfl rfl (rows_at (z := 5) (fun _ => rfl) (get_i default (show i < l.length by omega)) (k := 3) rfl) (rows_lt (f := actL) (z := 5) (o := o) (l := l) (i := i) (fun _ => rfl) (by omega) (by decide))) trivial ?_
       refine .q rfl (op_move rfl) trivial ?_
       refine .q rfl (op_move rfl) trivial ?_
       refine .q rfl (op_indexAddr (z := 5) Tryd.underlying27 (by kernel_rfl) rfl rfl rfl (show i < l.length by omega)) trivial ?_
       refine .q rfl (op_fieldAddr (m := 0) Tryd.underlying37 rfl (by kernel_rfl) rfl) trivial ?_
       refine .as (.ptr 450 (o + i * 5 + 4)) rfl ?_
       refine .q rfl (op_load Tryd.underlying3 rfl rfl rfl (rows_at (z := 5) (fun _ => rfl) (get_i default (show i < l.length by omega)) (k := 4) rfl) (rows_lt (f := actL) (z := 5) (o := o) (l := l) (i := i) (fun _ => rfl) (by omega) (by decide))) trivial ?_
       refine .q rfl (op_call (U := []) [(500, 1000), (501, 1001)] [] (takeV2_ev ((l.getD i default).T.take 70) ((l.getD i default).A.take 70) (l.getD i default).o (l.getD i default).n eo (by rw [List.length_take]; have := (l.getD i default).hT; unfold maxLen at this; omega) (by rw [List.length_take]; have := (l.getD i default).hA; unfold maxLen at this; omega) h1 h2) Tryd.func19 (by kernel_rfl) rfl rfl rfl (⟨⟨_, rfl, rfl, rfl⟩, ⟨_, rfl, rfl, rfl⟩, ⟨_, rfl, rfl, rfl⟩, ⟨_, rfl, rfl, rfl⟩, ⟨_, rfl, rfl, rfl⟩, trivial⟩) (⟨⟨_, _, rfl, rfl, rfl, rfl, (fun h => by cases h), rfl⟩, trivial⟩) (trivial) (⟨(fun h => by cases h), trivial⟩) rfl) trivial ?_
       refine .q rfl (op_move rfl) trivial ?_
       refine .q rfl (op_extract rfl rfl) trivial ?_
       refine .q rfl (op_extract rfl rfl) trivial ?_
       refine .q rfl (op_extract rfl rfl) trivial ?_
       refine .a rfl (op_allocRow zero45 rel_zero45 rfl) trivial rfl rfl ?_
       refine .w rfl (op_storeRow (by kernel_rfl) rfl rfl rfl rfl rfl (rfl) (rfl)) trivial rfl rfl ?_
       refine .q rfl (op_assign rfl) trivial ?_
       refine .q rfl (op_assign rfl) trivial ?_
       refine .nil ?_
       show Ev _ _ _ _ _
       refine .seq ?_
       refine .seq ?_
       refine .region ?_
       refine .q (op_move rfl) trivial rfl ?_
       refine .q (op_eqErrNil (e := 17) Tryd.underlying47 rfl rfl) trivial rfl ?_
       refine .q (op_move rfl) trivial rfl ?_
       refine .know (b' := false) (rfl) ?_
       refine .no ⟨_, rfl, rfl⟩ rfl ?_
       refine .no ⟨_, rfl, rfl⟩ rfl ?_
       refine .no ⟨_, rfl, rfl⟩ rfl ?_
       refine .no ⟨_, rfl, rfl⟩ rfl ?_
       refine .no ⟨_, rfl, rfl⟩ rfl ?_
       refine .q (op_pick_false rfl rfl rfl) trivial rfl ?_
       refine .nil ?_
       show Ev _ _ _ _ _
       refine .cond_false rfl rfl ?_
       refine .skip ?_
       show Ev _ _ _ _ _
       refine .seq ?_
       refine .region ?_
       refine .q (op_move rfl) trivial rfl ?_
       refine .q (op_eqErrNil (e := 17) Tryd.underlying47 rfl rfl) trivial rfl ?_
       refine .nil ?_
       show Ev _ _ _ _ _
       refine .cond_false rfl (rfl) ?_
       refine .skip ?_
       exact ⟨⟨M, ck, L, ep, hm, hv, by omega⟩, StLe.mk [(1000, 1000), (1001, 1001), (1008, 1008)] rfl rfl ⟨⟨_, rfl, by first | rfl | (simp only [AV.ren]; congr 1; omega), rfl⟩, ⟨_, rfl, by first | rfl | (simp only [AV.ren]; congr 1; omega), rfl⟩, ⟨_, rfl, by first | rfl | (simp only [AV.ren]; congr 1; omega), rfl⟩, ⟨_, rfl, by first | rfl | (simp only [AV.ren]; congr 1; omega), rfl⟩, ⟨_, rfl, by first | rfl | (simp only [AV.ren]; congr 1; omega), rfl⟩, trivial⟩ ⟨⟨_, _, rfl, rfl, rfl, rfl, id, rfl⟩, ⟨_, _, rfl, rfl, rfl, rfl, id, rfl⟩, ⟨_, _, rfl, rfl, rfl, rfl, id, rfl⟩, ⟨_, _, rfl, rfl, rfl, rfl, id, rfl⟩, ⟨_, _, rfl, rfl, rfl, rfl, id, rfl⟩, ⟨_, _, rfl, rfl, rfl, rfl, id, rfl⟩, ⟨_, _, rfl, rfl, rfl, rfl, id, rfl⟩, ⟨_, _, rfl, rfl, rfl, rfl, id, rfl⟩, ⟨_, _, rfl, rfl, rfl, rfl, id, rfl⟩, ⟨_, _, rfl, rfl, rfl, rfl, id, rfl⟩, ⟨_, _, rfl, rfl, rfl, rfl, id, rfl⟩, ⟨_, _, rfl, rfl, rfl, rfl, id, rfl⟩, ⟨_, _, rfl, rfl, rfl, rfl, id, rfl⟩, ⟨_, _, rfl, rfl, rfl, rfl, id, rfl⟩, ⟨_, _, rfl, rfl, rfl, rfl, id, rfl⟩, ⟨_, _, rfl, rfl, rfl, rfl, id, rfl⟩, ⟨_, _, rfl, rfl, rfl, rfl, id, rfl⟩, ⟨_, _, rfl, rfl, rfl, rfl, id, rfl⟩, ⟨_, _, rfl, rfl, rfl, rfl, id, rfl⟩, ⟨_, _, rfl, rfl, rfl, rfl, id, rfl⟩, ⟨_, _, rfl, rfl, rfl, rfl, id, rfl⟩, ⟨_, _, rfl, rfl, rfl, rfl, id, rfl⟩, ⟨_, _, rfl, rfl, rfl, rfl, id, rfl⟩, ⟨_, _, rfl, rfl, rfl, rfl, id, rfl⟩, ⟨_, _, rfl, rfl, rfl, rfl, id, rfl⟩, ⟨_, _, rfl, rfl, rfl, rfl, id, rfl⟩, ⟨_, _, rfl, rfl, rfl, rfl, id, rfl⟩, ⟨_, _, rfl, rfl, rfl, rfl, id, rfl⟩, ⟨_, _, rfl, rfl, rfl, rfl, id, rfl⟩, ⟨_, _, rfl, rfl, rfl, rfl, id, rfl⟩, ⟨_, _, rfl, rfl, rfl, rfl, id, rfl⟩, ⟨_, _, rfl, rfl, rfl, rfl, id, rfl⟩, ⟨_, _, rfl, rfl, rfl, rfl, id, rfl⟩, ⟨_, _, rfl, rfl, rfl, rfl, id, rfl⟩, ⟨_, _, rfl, rfl, rfl, rfl, id, rfl⟩, ⟨_, _, rfl, rfl, rfl, rfl, id, rfl⟩, ⟨_, _, rfl, rfl, rfl, rfl, id, rfl⟩, ⟨_, _, rfl, rfl, rfl, rfl, id, rfl⟩, ⟨_, _, rfl, rfl, rfl, rfl, id, rfl⟩, ⟨_, _, rfl, rfl, rfl, rfl, id, rfl⟩, ⟨_, _, rfl, rfl, rfl, rfl, id, rfl⟩, ⟨_, _, rfl, rfl, rfl, rfl, id, rfl⟩, ⟨_, _, rfl, rfl, rfl, rfl, id, rfl⟩, ⟨_, _, rfl, rfl, offC_ren _ o (rowsC_flat (fun _ => rfl) l), rfl, id, offC_nm _ o (rowsC_flat (fun _ => rfl) l)⟩, trivial⟩⟩
      ·refine .q rfl (op_move rfl) trivial ?_
       refine .q rfl (op_move rfl) trivial ?_
       refine .q rfl (op_move rfl) trivial ?_
       refine .q rfl (op_indexAddr (z := 5) Tryd.underlying27 (by kernel_rfl) rfl rfl rfl (show i < l.length by omega)) trivial ?_
       refine .q rfl (op_fieldAddr (m := 0) Tryd.underlying37 rfl (by kernel_rfl) rfl) trivial ?_
       refine .as (.ptr 450 (o + i * 5 + 1)) rfl ?_
       refine .q rfl (op_load Tryd.underlying9 rfl rfl rfl (rows_at (z := 5) (fun _ => rfl) (get_i default (show i < l.length by omega)) (k := 1) rfl) (rows_lt (f := actL) (z := 5) (o := o) (l := l) (i := i) (fun _ => rfl) (by omega) (by decide))) trivial ?_
       refine .q rfl (op_call (U := []) [] [] (cut_ev (l.getD i default).T 70 (l.getD i default).hT (by decide)) Tryd.func8 (by kernel_rfl) rfl rfl rfl (⟨⟨_, rfl, rfl, rfl⟩, ⟨_, rfl, rfl, rfl⟩, trivial⟩) (trivial) (trivial) (trivial) rfl) trivial ?_
       refine .q rfl (op_move rfl) trivial ?_
       refine .q rfl (op_move rfl) trivial ?_
       refine .q rfl (op_indexAddr (z := 5) Tryd.underlying27 (by kernel_rfl) rfl rfl rfl (show i < l.length by omega)) trivial ?_
       refine .q rfl (op_fieldAddr (m := 0) Tryd.underlying37 rfl (by kernel_rfl) rfl) trivial ?_
       refine .as (.ptr 450 (o + i * 5 + 2)) rfl ?_
       refine .q rfl (op_load Tryd.underlying9 rfl rfl rfl (rows_at (z := 5) (fun _ => rfl) (get_i default (show i < l.length by omega)) (k := 2) rfl) (rows_lt (f := actL) (z := 5) (o := o) (l := l) (i := i) (fun _ => rfl) (by omega) (by decide))) trivial ?_
       refine .q rfl (op_call (U := []) [] [] (cut_ev (l.getD i default).A 70 (l.getD i default).hA (by decide)) Tryd.func8 (by kernel_rfl) rfl rfl rfl (⟨⟨_, rfl, rfl, rfl⟩, ⟨_, rfl, rfl, rfl⟩, trivial⟩) (trivial) (trivial) (trivial) rfl) trivial ?_
       refine .q rfl (op_move rfl) trivial ?_
       refine .q rfl (op_move rfl) trivial ?_
       refine .q rfl (op_indexAddr (z := 5) Tryd.underlying27 (by kernel_rfl) rfl rfl rfl (show i < l.length by omega)) trivial ?_
       refine .q rfl (op_fieldAddr (m := 0) Tryd.underlying37 rfl (by kernel_rfl) rfl) trivial ?_
       refine .as (.ptr 450 (o + i * 5 + 3)) rfl ?_
       refine .q rfl (op_load Tryd.underlying3 rfl rfl rfl (rows_at (z := 5) (fun _ => rfl) (get_i default (show i < l.length by omega)) (k := 3) rfl) (rows_lt (f := actL) (z := 5) (o := o) (l := l) (i := i) (fun _ => rfl) (by omega) (by decide))) trivial ?_
       refine .q rfl (op_move rfl) trivial ?_
       refine .q rfl (op_move rfl) trivial ?_
       refine .q rfl (op_indexAddr (z := 5) Tryd.underlying27 (by kernel_rfl) rfl rfl rfl (show i < l.length by omega)) trivial ?_
       refine .q rfl (op_fieldAddr (m := 0) Tryd.underlying37 rfl (by kernel_rfl) rfl) trivial ?_
       refine .as (.ptr 450 (o + i * 5 + 4)) rfl ?_
       refine .q rfl (op_load Tryd.underlying3 rfl rfl rfl (rows_at (z := 5) (fun _ => rfl) (get_i default (show i < l.length by omega)) (k := 4) rfl) (rows_lt (f := actL) (z := 5) (o := o) (l := l) (i := i) (fun _ => rfl) (by omega) (by decide))) trivial ?_
       refine .q rfl (op_call (U := []) [(500, 1000), (501, 1001)] [] (takeH2 (min (max ca 0) 64) (min (max cb 0) 4096) (min (max cc 1) 1073741824) ep hm hx e1 e2 (l.getD i default).o (l.getD i default).n h1 h2 hw eo) Tryd.func19 (by kernel_rfl) rfl rfl rfl (⟨⟨_, rfl, rfl, rfl⟩, ⟨_, rfl, rfl, rfl⟩, ⟨_, rfl, rfl, rfl⟩, ⟨_, rfl, rfl, rfl⟩, ⟨_, rfl, rfl, rfl⟩, trivial⟩) (⟨⟨_, _, rfl, rfl, rfl, rfl, (fun h => by cases h), rfl⟩, ⟨_, _, rfl, rfl, rfl, rfl, (fun h => by cases h), rfl⟩, ⟨_, _, rfl, rfl, rfl, rfl, (fun h => by cases h), rfl⟩, trivial⟩) (trivial) (⟨(fun h => by cases h), (fun h => by cases h), (fun h => by cases h), trivial⟩) rfl) trivial ?_
       refine .q rfl (op_move rfl) trivial ?_
       refine .q rfl (op_extract rfl rfl) trivial ?_
       refine .q rfl (op_extract rfl rfl) trivial ?_
       refine .q rfl (op_extract rfl rfl) trivial ?_
       refine .a rfl (op_allocRow zero45 rel_zero45 rfl) trivial rfl rfl ?_
       refine .w rfl (op_storeRow (by kernel_rfl) rfl rfl rfl rfl rfl (rfl) (rfl)) trivial rfl rfl ?_
       refine .q rfl (op_assign rfl) trivial ?_
       refine .q rfl (op_assign rfl) trivial ?_
       refine .nil ?_
       show Ev _ _ _ _ _
       refine .seq ?_
       refine .seq ?_
       refine .region ?_
       refine .q (op_move rfl) trivial rfl ?_
       refine .q (op_eqErrNil (e := 9) Tryd.underlying47 rfl rfl) trivial rfl ?_
       refine .q (op_move rfl) trivial rfl ?_
       refine .know (b' := false) (rfl) ?_
       refine .no ⟨_, rfl, rfl⟩ rfl ?_
       refine .no ⟨_, rfl, rfl⟩ rfl ?_
       refine .no ⟨_, rfl, rfl⟩ rfl ?_
       refine .no ⟨_, rfl, rfl⟩ rfl ?_
       refine .no ⟨_, rfl, rfl⟩ rfl ?_
       refine .q (op_pick_false rfl rfl rfl) trivial rfl ?_
       refine .nil ?_
       show Ev _ _ _ _ _
       refine .cond_false rfl rfl ?_
       refine .skip ?_
       show Ev _ _ _ _ _
       refine .seq ?_
       refine .region ?_
       refine .q (op_move rfl) trivial rfl ?_
       refine .q (op_eqErrNil (e := 9) Tryd.underlying47 rfl rfl) trivial rfl ?_
       refine .nil ?_
       show Ev _ _ _ _ _
       refine .cond_false rfl (rfl) ?_
       refine .skip ?_
       exact ⟨⟨M, ck, L, ep, hm, hv, by omega⟩, StLe.mk [(1000, 1000), (1001, 1001), (1008, 1008)] rfl rfl ⟨⟨_, rfl, by first | rfl | (simp only [AV.ren]; congr 1; omega), rfl⟩, ⟨_, rfl, by first | rfl | (simp only [AV.ren]; congr 1; omega), rfl⟩, ⟨_, rfl, by first | rfl | (simp only [AV.ren]; congr 1; omega), rfl⟩, ⟨_, rfl, by first | rfl | (simp only [AV.ren]; congr 1; omega), rfl⟩, ⟨_, rfl, by first | rfl | (simp only [AV.ren]; congr 1; omega), rfl⟩, trivial⟩ ⟨⟨_, _, rfl, rfl, rfl, rfl, id, rfl⟩, ⟨_, _, rfl, rfl, rfl, rfl, id, rfl⟩, ⟨_, _, rfl, rfl, rfl, rfl, id, rfl⟩, ⟨_, _, rfl, rfl, rfl, rfl, id, rfl⟩, ⟨_, _, rfl, rfl, rfl, rfl, id, rfl⟩, ⟨_, _, rfl, rfl, rfl, rfl, id, rfl⟩, ⟨_, _, rfl, rfl, rfl, rfl, id, rfl⟩, ⟨_, _, rfl, rfl, rfl, rfl, id, rfl⟩, ⟨_, _, rfl, rfl, rfl, rfl, id, rfl⟩, ⟨_, _, rfl, rfl, rfl, rfl, id, rfl⟩, ⟨_, _, rfl, rfl, rfl, rfl, id, rfl⟩, ⟨_, _, rfl, rfl, rfl, rfl, id, rfl⟩, ⟨_, _, rfl, rfl, rfl, rfl, id, rfl⟩, ⟨_, _, rfl, rfl, rfl, rfl, id, rfl⟩, ⟨_, _, rfl, rfl, rfl, rfl, id, rfl⟩, ⟨_, _, rfl, rfl, rfl, rfl, id, rfl⟩, ⟨_, _, rfl, rfl, rfl, rfl, id, rfl⟩, ⟨_, _, rfl, rfl, rfl, rfl, id, rfl⟩, ⟨_, _, rfl, rfl, rfl, rfl, id, rfl⟩, ⟨_, _, rfl, rfl, rfl, rfl, id, rfl⟩, ⟨_, _, rfl, rfl, rfl, rfl, id, rfl⟩, ⟨_, _, rfl, rfl, rfl, rfl, id, rfl⟩, ⟨_, _, rfl, rfl, rfl, rfl, id, rfl⟩, ⟨_, _, rfl, rfl, rfl, rfl, id, rfl⟩, ⟨_, _, rfl, rfl, rfl, rfl, id, rfl⟩, ⟨_, _, rfl, rfl, rfl, rfl, id, rfl⟩, ⟨_, _, rfl, rfl, rfl, rfl, id, rfl⟩, ⟨_, _, rfl, rfl, rfl, rfl, id, rfl⟩, ⟨_, _, rfl, rfl, rfl, rfl, id, rfl⟩, ⟨_, _, rfl, rfl, rfl, rfl, id, rfl⟩, ⟨_, _, rfl, rfl, rfl, rfl, id, rfl⟩, ⟨_, _, rfl, rfl, rfl, rfl, id, rfl⟩, ⟨_, _, rfl, rfl, rfl, rfl, id, rfl⟩, ⟨_, _, rfl, rfl, rfl, rfl, id, rfl⟩, ⟨_, _, rfl, rfl, rfl, rfl, id, rfl⟩, ⟨_, _, rfl, rfl, rfl, rfl, id, rfl⟩, ⟨_, _, rfl, rfl, rfl, rfl, id, rfl⟩, ⟨_, _, rfl, rfl, rfl, rfl, id, rfl⟩, ⟨_, _, rfl, rfl, rfl, rfl, id, rfl⟩, ⟨_, _, rfl, rfl, rfl, rfl, id, rfl⟩, ⟨_, _, rfl, rfl, rfl, rfl, id, rfl⟩, ⟨_, _, rfl, rfl, rfl, rfl, id, rfl⟩, ⟨_, _, rfl, rfl, rfl, rfl, id, rfl⟩, ⟨_, _, rfl, rfl, offC_ren _ o (rowsC_flat (fun _ => rfl) l), rfl, id, offC_nm _ o (rowsC_flat (fun _ => rfl) l)⟩, trivial⟩⟩
      ·refine .q rfl (op_move rfl) trivial ?_
       refine .q rfl (op_move rfl) trivial ?_
       refine .q rfl (op_move rfl) trivial ?_
       refine .q rfl (op_indexAddr (z := 5) Tryd.underlying27 (by kernel_rfl) rfl rfl rfl (show i < l.length by omega)) trivial ?_
       refine .q rfl (op_fieldAddr (m := 0) Tryd.underlying37 rfl (by kernel_rfl) rfl) trivial ?_
       refine .as (.ptr 450 (o + i * 5 + 1)) rfl ?_
       refine .q rfl (op_load Tryd.underlying9 rfl rfl rfl (rows_at (z := 5) (fun _ => rfl) (get_i default (show i < l.length by omega)) (k := 1) rfl) (rows_lt (f := actL) (z := 5) (o := o) (l := l) (i := i) (fun _ => rfl) (by omega) (by decide))) trivial ?_
       refine .q rfl (op_call (U := []) [] [] (cut_ev (l.getD i default).T 70 (l.getD i default).hT (by decide)) Tryd.func8 (by kernel_rfl) rfl rfl rfl (⟨⟨_, rfl, rfl, rfl⟩, ⟨_, rfl, rfl, rfl⟩, trivial⟩) (trivial) (trivial) (trivial) rfl) trivial ?_
       refine .q rfl (op_move rfl) trivial ?_
       refine .q rfl (op_move rfl) trivial ?_
       refine .q rfl (op_indexAddr (z := 5) Tryd.underlying27 (by kernel_rfl) rfl rfl rfl (show i < l.length by omega)) trivial ?_
       refine .q rfl (op_fieldAddr (m := 0) Tryd.underlying37 rfl (by kernel_rfl) rfl) trivial ?_
       refine .as (.ptr 450 (o + i * 5 + 2)) rfl ?_
       refine .q rfl (op_load Tryd.underlying9 rfl rfl rfl (rows_at (z := 5) (fun _ => rfl) (get_i default (show i < l.length by omega)) (k := 2) rfl) (rows_lt (f := actL) (z := 5) (o := o) (l := l) (i := i) (fun _ => rfl) (by omega) (by decide))) trivial ?_
       refine .q rfl (op_call (U := []) [] [] (cut_ev (l.getD i default).A 70 (l.getD i default).hA (by decide)) Tryd.func8 (by kernel_rfl) rfl rfl rfl (⟨⟨_, rfl, rfl, rfl⟩, ⟨_, rfl, rfl, rfl⟩, trivial⟩) (trivial) (trivial) (trivial) rfl) trivial ?_
       refine .q rfl (op_move rfl) trivial ?_
       refine .q rfl (op_move rfl) trivial ?_
       refine .q rfl (op_indexAddr (z := 5) Tryd.underlying27 (by kernel_rfl) rfl rfl rfl (show i < l.length by omega)) trivial ?_
       refine .q rfl (op_fieldAddr (m := 0) Tryd.underlying37 rfl (by kernel_rfl) rfl) trivial ?_
       refine .as (.ptr 450 (o + i * 5 + 3)) rfl ?_
       refine .q rfl (op_load Tryd.underlying3 rfl rfl rfl (rows_at (z := 5) (fun _ => rfl) (get_i default (show i < l.length by omega)) (k := 3) rfl) (rows_lt (f := actL) (z := 5) (o := o) (l := l) (i := i) (fun _ => rfl) (by omega) (by decide))) trivial ?_
       refine .q rfl (op_move rfl) trivial ?_
       refine .q rfl (op_move rfl) trivial ?_
       refine .q rfl (op_indexAddr (z := 5) Tryd.underlying27 (by kernel_rfl) rfl rfl rfl (show i < l.length by omega)) trivial ?_
       refine .q rfl (op_fieldAddr (m := 0) Tryd.underlying37 rfl (by kernel_rfl) rfl) trivial ?_
       refine .as (.ptr 450 (o + i * 5 + 4)) rfl ?_
       refine .q rfl (op_load Tryd.underlying3 rfl rfl rfl (rows_at (z := 5) (fun _ => rfl) (get_i default (show i < l.length by omega)) (k := 4) rfl) (rows_lt (f := actL) (z := 5) (o := o) (l := l) (i := i) (fun _ => rfl) (by omega) (by decide))) trivial ?_
       refine .a rfl (op_call (U := [(1000, some ⟨.agg [.i64 (min (max ca 0) 64), .i64 (min (max cb 0) 4096), .i64 (min (max cc 1) 1073741824), .mp 1001, .i64 (ep + 1)], 68, true⟩), (1001, some ⟨mpV (putM M ck (⟨((l.getD i default).T.take 70), ((l.getD i default).A.take 70), (l.getD i default).o, ep + 1, tickV (l.getD i default).n⟩ : Ls)).1 (putM M ck (⟨((l.getD i default).T.take 70), ((l.getD i default).A.take 70), (l.getD i default).o, ep + 1, tickV (l.getD i default).n⟩ : Ls)).2, 0, true⟩)]) [(500, 1000), (501, 1001)] [] (takeO2 (min (max ca 0) 64) (min (max cb 0) 4096) (min (max cc 1) 1073741824) ep hm hx e1 e2 (l.getD i default).o (l.getD i default).n h1 h2 hw (by omega)) Tryd.func19 (by kernel_rfl) rfl rfl rfl (⟨⟨_, rfl, rfl, rfl⟩, ⟨_, rfl, rfl, rfl⟩, ⟨_, rfl, rfl, rfl⟩, ⟨_, rfl, rfl, rfl⟩, ⟨_, rfl, rfl, rfl⟩, trivial⟩) (⟨⟨_, _, rfl, rfl, rfl, rfl, id, rfl⟩, ⟨_, _, rfl, rfl, rfl, rfl, id, rfl⟩, trivial⟩) (⟨⟨500, _, rfl, rfl, rfl, rfl, .inr ⟨rfl, _, rfl, rfl⟩⟩, ⟨501, _, rfl, rfl, rfl, rfl, .inr ⟨rfl, _, rfl, rfl⟩⟩, trivial⟩) (⟨(fun _ => ⟨1000, _, rfl, rfl⟩), (fun _ => ⟨1001, _, rfl, rfl⟩), trivial⟩) rfl) trivial rfl rfl ?_
       refine .q rfl (op_move rfl) trivial ?_
       refine .q rfl (op_extract rfl rfl) trivial ?_
       refine .q rfl (op_extract rfl rfl) trivial ?_
       refine .q rfl (op_extract rfl rfl) trivial ?_
       refine .a rfl (op_allocRow zero45 rel_zero45 rfl) trivial rfl rfl ?_
       refine .w rfl (op_storeRow (by kernel_rfl) rfl rfl rfl rfl rfl (rfl) (rfl)) trivial rfl rfl ?_
       refine .q rfl (op_assign rfl) trivial ?_
       refine .q rfl (op_assign rfl) trivial ?_
       refine .nil ?_
       show Ev _ _ _ _ _
       refine .seq ?_
       refine .seq ?_
       refine Ev.asR (T1 := []) (.err 155 0 (0, 0)) (nil_err _ _) ?_
       refine .region ?_
       refine .q (op_move rfl) trivial rfl ?_
       refine .q (op_eqErrNil (e := 0) Tryd.underlying47 rfl rfl) trivial rfl ?_
       refine .q (op_move rfl) trivial rfl ?_
       refine .know (b' := true) (rfl) ?_
       refine .q (op_fieldAddr (m := 0) Tryd.underlying45 rfl (by kernel_rfl) rfl) ⟨_, rfl, rfl⟩ rfl ?_
       refine .as (.ptr 1240 3) rfl ?_
       refine .q (op_load Tryd.underlying3 rfl rfl rfl rfl (by show 3 < 5; decide)) ⟨_, rfl, rfl⟩ rfl ?_
       refine .q (op_move rfl) ⟨_, rfl, rfl⟩ rfl ?_
       refine .q (op_addI rfl rfl ⟨by omega, by omega⟩) ⟨_, rfl, rfl⟩ rfl ?_
       refine .q (op_cmpI rfl rfl rfl) ⟨_, rfl, rfl⟩ rfl ?_
       refine .as (.bool false) (congrArg AV.bool (by simp)) ?_
       refine .q (op_pick_true rfl rfl rfl) trivial rfl ?_
       refine .nil ?_
       show Ev _ _ _ _ _
       refine .cond_false rfl (rfl) ?_
       refine .skip ?_
       show Ev _ _ _ _ _
       refine .seq ?_
       refine .region ?_
       refine .q (op_move rfl) trivial rfl ?_
       refine .q (op_eqErrNil (e := 0) Tryd.underlying47 rfl rfl) trivial rfl ?_
       refine .nil ?_
       show Ev _ _ _ _ _
       refine .cond_true rfl (rfl) ?_
       refine .region ?_
       refine .q (op_fieldAddr (m := 0) Tryd.underlying45 rfl (by kernel_rfl) rfl) trivial rfl ?_
       refine .as (.ptr 1240 3) rfl ?_
       refine .q (op_load Tryd.underlying3 rfl rfl rfl rfl (by show 3 < 5; decide)) trivial rfl ?_
       refine .q (op_assign rfl) trivial rfl ?_
       refine .nil ?_
       exact ⟨⟨_, _, _, ep + 1, hm.ins (x := (⟨((l.getD i default).T.take 70), ((l.getD i default).A.take 70), (l.getD i default).o, ep + 1, tickV (l.getD i default).n⟩ : Ls)) ⟨nameN_len h1, nameN_len h2⟩ (.inl ⟨x, hx, e1, e2⟩), hv.putO (x := (⟨((l.getD i default).T.take 70), ((l.getD i default).A.take 70), (l.getD i default).o, ep + 1, tickV (l.getD i default).n⟩ : Ls)) hx ⟨e1, e2⟩ rfl (by omega) (tick_in _), by omega⟩, StLe.mk [(1000, 1000), (1001, 1001), (1008, 1008)] rfl rfl ⟨⟨_, rfl, by first | rfl | (simp only [AV.ren]; congr 1; omega), rfl⟩, ⟨_, rfl, by first | rfl | (simp only [AV.ren]; congr 1; omega), rfl⟩, ⟨_, rfl, by first | rfl | (simp only [AV.ren]; congr 1; omega), rfl⟩, ⟨_, rfl, by first | rfl | (simp only [AV.ren]; congr 1; omega), rfl⟩, ⟨_, rfl, by first | rfl | (simp only [AV.ren]; congr 1; omega), rfl⟩, trivial⟩ ⟨⟨_, _, rfl, rfl, rfl, rfl, id, rfl⟩, ⟨_, _, rfl, rfl, rfl, rfl, id, rfl⟩, ⟨_, _, rfl, rfl, rfl, rfl, id, rfl⟩, ⟨_, _, rfl, rfl, rfl, rfl, id, rfl⟩, ⟨_, _, rfl, rfl, rfl, rfl, id, rfl⟩, ⟨_, _, rfl, rfl, rfl, rfl, id, rfl⟩, ⟨_, _, rfl, rfl, rfl, rfl, id, rfl⟩, ⟨_, _, rfl, rfl, rfl, rfl, id, rfl⟩, ⟨_, _, rfl, rfl, rfl, rfl, id, rfl⟩, ⟨_, _, rfl, rfl, rfl, rfl, id, rfl⟩, ⟨_, _, rfl, rfl, rfl, rfl, id, rfl⟩, ⟨_, _, rfl, rfl, rfl, rfl, id, rfl⟩, ⟨_, _, rfl, rfl, rfl, rfl, id, rfl⟩, ⟨_, _, rfl, rfl, rfl, rfl, id, rfl⟩, ⟨_, _, rfl, rfl, rfl, rfl, id, rfl⟩, ⟨_, _, rfl, rfl, rfl, rfl, id, rfl⟩, ⟨_, _, rfl, rfl, rfl, rfl, id, rfl⟩, ⟨_, _, rfl, rfl, rfl, rfl, id, rfl⟩, ⟨_, _, rfl, rfl, rfl, rfl, id, rfl⟩, ⟨_, _, rfl, rfl, rfl, rfl, id, rfl⟩, ⟨_, _, rfl, rfl, rfl, rfl, id, rfl⟩, ⟨_, _, rfl, rfl, rfl, rfl, id, rfl⟩, ⟨_, _, rfl, rfl, rfl, rfl, id, rfl⟩, ⟨_, _, rfl, rfl, rfl, rfl, id, rfl⟩, ⟨_, _, rfl, rfl, rfl, rfl, id, rfl⟩, ⟨_, _, rfl, rfl, rfl, rfl, id, rfl⟩, ⟨_, _, rfl, rfl, rfl, rfl, id, rfl⟩, ⟨_, _, rfl, rfl, rfl, rfl, id, rfl⟩, ⟨_, _, rfl, rfl, rfl, rfl, id, rfl⟩, ⟨_, _, rfl, rfl, rfl, rfl, id, rfl⟩, ⟨_, _, rfl, rfl, rfl, rfl, id, rfl⟩, ⟨_, _, rfl, rfl, rfl, rfl, id, rfl⟩, ⟨_, _, rfl, rfl, rfl, rfl, id, rfl⟩, ⟨_, _, rfl, rfl, rfl, rfl, id, rfl⟩, ⟨_, _, rfl, rfl, rfl, rfl, id, rfl⟩, ⟨_, _, rfl, rfl, rfl, rfl, id, rfl⟩, ⟨_, _, rfl, rfl, rfl, rfl, id, rfl⟩, ⟨_, _, rfl, rfl, rfl, rfl, id, rfl⟩, ⟨_, _, rfl, rfl, rfl, rfl, id, rfl⟩, ⟨_, _, rfl, rfl, rfl, rfl, id, rfl⟩, ⟨_, _, rfl, rfl, rfl, rfl, id, rfl⟩, ⟨_, _, rfl, rfl, rfl, rfl, id, rfl⟩, ⟨_, _, rfl, rfl, rfl, rfl, id, rfl⟩, ⟨_, _, rfl, rfl, offC_ren _ o (rowsC_flat (fun _ => rfl) l), rfl, id, offC_nm _ o (rowsC_flat (fun _ => rfl) l)⟩, trivial⟩⟩
      ·refine .q rfl (op_move rfl) trivial ?_
       refine .q rfl (op_move rfl) trivial ?_
       refine .q rfl (op_move rfl) trivial ?_
       refine .q rfl (op_indexAddr (z := 5) Tryd.underlying27 (by kernel_rfl) rfl rfl rfl (show i < l.length by omega)) trivial ?_
       refine .q rfl (op_fieldAddr (m := 0) Tryd.underlying37 rfl (by kernel_rfl) rfl) trivial ?_
       refine .as (.ptr 450 (o + i * 5 + 1)) rfl ?_
       refine .q rfl (op_load Tryd.underlying9 rfl rfl rfl (rows_at (z := 5) (fun _ => rfl) (get_i default (show i < l.length by omega)) (k := 1) rfl) (rows_lt (f := actL) (z := 5) (o := o) (l := l) (i := i) (fun _ => rfl) (by omega) (by decide))) trivial ?_
       refine .q rfl (op_call (U := []) [] [] (cut_ev (l.getD i default).T 70 (l.getD i default).hT (by decide)) Tryd.func8 (by kernel_rfl) rfl rfl rfl (⟨⟨_, rfl, rfl, rfl⟩, ⟨_, rfl, rfl, rfl⟩, trivial⟩) (trivial) (trivial) (trivial) rfl) trivial ?_
       refine .q rfl (op_move rfl) trivial ?_
       refine .q rfl (op_move rfl) trivial ?_
       refine .q rfl (op_indexAddr (z := 5) Tryd.underlying27 (by kernel_rfl) rfl rfl rfl (show i < l.length by omega)) trivial ?_
       refine .q rfl (op_fieldAddr (m := 0) Tryd.underlying37 rfl (by kernel_rfl) rfl) trivial ?_
       refine .as (.ptr 450 (o + i * 5 + 2)) rfl ?_
       refine .q rfl (op_load Tryd.underlying9 rfl rfl rfl (rows_at (z := 5) (fun _ => rfl) (get_i default (show i < l.length by omega)) (k := 2) rfl) (rows_lt (f := actL) (z := 5) (o := o) (l := l) (i := i) (fun _ => rfl) (by omega) (by decide))) trivial ?_
       refine .q rfl (op_call (U := []) [] [] (cut_ev (l.getD i default).A 70 (l.getD i default).hA (by decide)) Tryd.func8 (by kernel_rfl) rfl rfl rfl (⟨⟨_, rfl, rfl, rfl⟩, ⟨_, rfl, rfl, rfl⟩, trivial⟩) (trivial) (trivial) (trivial) rfl) trivial ?_
       refine .q rfl (op_move rfl) trivial ?_
       refine .q rfl (op_move rfl) trivial ?_
       refine .q rfl (op_indexAddr (z := 5) Tryd.underlying27 (by kernel_rfl) rfl rfl rfl (show i < l.length by omega)) trivial ?_
       refine .q rfl (op_fieldAddr (m := 0) Tryd.underlying37 rfl (by kernel_rfl) rfl) trivial ?_
       refine .as (.ptr 450 (o + i * 5 + 3)) rfl ?_
       refine .q rfl (op_load Tryd.underlying3 rfl rfl rfl (rows_at (z := 5) (fun _ => rfl) (get_i default (show i < l.length by omega)) (k := 3) rfl) (rows_lt (f := actL) (z := 5) (o := o) (l := l) (i := i) (fun _ => rfl) (by omega) (by decide))) trivial ?_
       refine .q rfl (op_move rfl) trivial ?_
       refine .q rfl (op_move rfl) trivial ?_
       refine .q rfl (op_indexAddr (z := 5) Tryd.underlying27 (by kernel_rfl) rfl rfl rfl (show i < l.length by omega)) trivial ?_
       refine .q rfl (op_fieldAddr (m := 0) Tryd.underlying37 rfl (by kernel_rfl) rfl) trivial ?_
       refine .as (.ptr 450 (o + i * 5 + 4)) rfl ?_
       refine .q rfl (op_load Tryd.underlying3 rfl rfl rfl (rows_at (z := 5) (fun _ => rfl) (get_i default (show i < l.length by omega)) (k := 4) rfl) (rows_lt (f := actL) (z := 5) (o := o) (l := l) (i := i) (fun _ => rfl) (by omega) (by decide))) trivial ?_
       refine .q rfl (op_call (U := []) [(500, 1000), (501, 1001)] [] (takeQ_ev (min (max ca 0) 64) (min (max cb 0) 4096) (min (max cc 1) 1073741824) ep hm hn (l.getD i default).o (l.getD i default).n h1 h2 eo hq) Tryd.func19 (by kernel_rfl) rfl rfl rfl (⟨⟨_, rfl, rfl, rfl⟩, ⟨_, rfl, rfl, rfl⟩, ⟨_, rfl, rfl, rfl⟩, ⟨_, rfl, rfl, rfl⟩, ⟨_, rfl, rfl, rfl⟩, trivial⟩) (⟨⟨_, _, rfl, rfl, rfl, rfl, (fun h => by cases h), rfl⟩, ⟨_, _, rfl, rfl, rfl, rfl, (fun h => by cases h), rfl⟩, ⟨_, _, rfl, rfl, rfl, rfl, (fun h => by cases h), rfl⟩, ⟨_, _, rfl, rfl, rfl, rfl, (fun h => by cases h), rfl⟩, trivial⟩) (trivial) (⟨(fun h => by cases h), (fun h => by cases h), (fun h => by cases h), (fun h => by cases h), trivial⟩) rfl) trivial ?_
       refine .q rfl (op_move rfl) trivial ?_
       refine .q rfl (op_extract rfl rfl) trivial ?_
       refine .q rfl (op_extract rfl rfl) trivial ?_
       refine .q rfl (op_extract rfl rfl) trivial ?_
       refine .a rfl (op_allocRow zero45 rel_zero45 rfl) trivial rfl rfl ?_
       refine .w rfl (op_storeRow (by kernel_rfl) rfl rfl rfl rfl rfl (rfl) (rfl)) trivial rfl rfl ?_
       refine .q rfl (op_assign rfl) trivial ?_
       refine .q rfl (op_assign rfl) trivial ?_
       refine .nil ?_
       show Ev _ _ _ _ _
       refine .seq ?_
       refine .seq ?_
       refine .region ?_
       refine .q (op_move rfl) trivial rfl ?_
       refine .q (op_eqErrNil (e := 16) Tryd.underlying47 rfl rfl) trivial rfl ?_
       refine .q (op_move rfl) trivial rfl ?_
       refine .know (b' := false) (rfl) ?_
       refine .no ⟨_, rfl, rfl⟩ rfl ?_
       refine .no ⟨_, rfl, rfl⟩ rfl ?_
       refine .no ⟨_, rfl, rfl⟩ rfl ?_
       refine .no ⟨_, rfl, rfl⟩ rfl ?_
       refine .no ⟨_, rfl, rfl⟩ rfl ?_
       refine .q (op_pick_false rfl rfl rfl) trivial rfl ?_
       refine .nil ?_
       show Ev _ _ _ _ _
       refine .cond_false rfl rfl ?_
       refine .skip ?_
       show Ev _ _ _ _ _
       refine .seq ?_
       refine .region ?_
       refine .q (op_move rfl) trivial rfl ?_
       refine .q (op_eqErrNil (e := 16) Tryd.underlying47 rfl rfl) trivial rfl ?_
       refine .nil ?_
       show Ev _ _ _ _ _
       refine .cond_false rfl (rfl) ?_
       refine .skip ?_
       exact ⟨⟨M, ck, L, ep, hm, hv, by omega⟩, StLe.mk [(1000, 1000), (1001, 1001), (1008, 1008)] rfl rfl ⟨⟨_, rfl, by first | rfl | (simp only [AV.ren]; congr 1; omega), rfl⟩, ⟨_, rfl, by first | rfl | (simp only [AV.ren]; congr 1; omega), rfl⟩, ⟨_, rfl, by first | rfl | (simp only [AV.ren]; congr 1; omega), rfl⟩, ⟨_, rfl, by first | rfl | (simp only [AV.ren]; congr 1; omega), rfl⟩, ⟨_, rfl, by first | rfl | (simp only [AV.ren]; congr 1; omega), rfl⟩, trivial⟩ ⟨⟨_, _, rfl, rfl, rfl, rfl, id, rfl⟩, ⟨_, _, rfl, rfl, rfl, rfl, id, rfl⟩, ⟨_, _, rfl, rfl, rfl, rfl, id, rfl⟩, ⟨_, _, rfl, rfl, rfl, rfl, id, rfl⟩, ⟨_, _, rfl, rfl, rfl, rfl, id, rfl⟩, ⟨_, _, rfl, rfl, rfl, rfl, id, rfl⟩, ⟨_, _, rfl, rfl, rfl, rfl, id, rfl⟩, ⟨_, _, rfl, rfl, rfl, rfl, id, rfl⟩, ⟨_, _, rfl, rfl, rfl, rfl, id, rfl⟩, ⟨_, _, rfl, rfl, rfl, rfl, id, rfl⟩, ⟨_, _, rfl, rfl, rfl, rfl, id, rfl⟩, ⟨_, _, rfl, rfl, rfl, rfl, id, rfl⟩, ⟨_, _, rfl, rfl, rfl, rfl, id, rfl⟩, ⟨_, _, rfl, rfl, rfl, rfl, id, rfl⟩, ⟨_, _, rfl, rfl, rfl, rfl, id, rfl⟩, ⟨_, _, rfl, rfl, rfl, rfl, id, rfl⟩, ⟨_, _, rfl, rfl, rfl, rfl, id, rfl⟩, ⟨_, _, rfl, rfl, rfl, rfl, id, rfl⟩, ⟨_, _, rfl, rfl, rfl, rfl, id, rfl⟩, ⟨_, _, rfl, rfl, rfl, rfl, id, rfl⟩, ⟨_, _, rfl, rfl, rfl, rfl, id, rfl⟩, ⟨_, _, rfl, rfl, rfl, rfl, id, rfl⟩, ⟨_, _, rfl, rfl, rfl, rfl, id, rfl⟩, ⟨_, _, rfl, rfl, rfl, rfl, id, rfl⟩, ⟨_, _, rfl, rfl, rfl, rfl, id, rfl⟩, ⟨_, _, rfl, rfl, rfl, rfl, id, rfl⟩, ⟨_, _, rfl, rfl, rfl, rfl, id, rfl⟩, ⟨_, _, rfl, rfl, rfl, rfl, id, rfl⟩, ⟨_, _, rfl, rfl, rfl, rfl, id, rfl⟩, ⟨_, _, rfl, rfl, rfl, rfl, id, rfl⟩, ⟨_, _, rfl, rfl, rfl, rfl, id, rfl⟩, ⟨_, _, rfl, rfl, rfl, rfl, id, rfl⟩, ⟨_, _, rfl, rfl, rfl, rfl, id, rfl⟩, ⟨_, _, rfl, rfl, rfl, rfl, id, rfl⟩, ⟨_, _, rfl, rfl, rfl, rfl, id, rfl⟩, ⟨_, _, rfl, rfl, rfl, rfl, id, rfl⟩, ⟨_, _, rfl, rfl, rfl, rfl, id, rfl⟩, ⟨_, _, rfl, rfl, rfl, rfl, id, rfl⟩, ⟨_, _, rfl, rfl, rfl, rfl, id, rfl⟩, ⟨_, _, rfl, rfl, rfl, rfl, id, rfl⟩, ⟨_, _, rfl, rfl, rfl, rfl, id, rfl⟩, ⟨_, _, rfl, rfl, rfl, rfl, id, rfl⟩, ⟨_, _, rfl, rfl, rfl, rfl, id, rfl⟩, ⟨_, _, rfl, rfl, offC_ren _ o (rowsC_flat (fun _ => rfl) l), rfl, id, offC_nm _ o (rowsC_flat (fun _ => rfl) l)⟩, trivial⟩⟩
      ·refine .q rfl (op_move rfl) trivial ?_
       refine .q rfl (op_move rfl) trivial ?_
       refine .q rfl (op_move rfl) trivial ?_
       refine .q rfl (op_indexAddr (z := 5) Tryd.underlying27 (by kernel_rfl) rfl rfl rfl (show i < l.length by omega)) trivial ?_
       refine .q rfl (op_fieldAddr (m := 0) Tryd.underlying37 rfl (by kernel_rfl) rfl) trivial ?_
       refine .as (.ptr 450 (o + i * 5 + 1)) rfl ?_
       refine .q rfl (op_load Tryd.underlying9 rfl rfl rfl (rows_at (z := 5) (fun _ => rfl) (get_i default (show i < l.length by omega)) (k := 1) rfl) (rows_lt (f := actL) (z := 5) (o := o) (l := l) (i := i) (fun _ => rfl) (by omega) (by decide))) trivial ?_
       refine .q rfl (op_call (U := []) [] [] (cut_ev (l.getD i default).T 70 (l.getD i default).hT (by decide)) Tryd.func8 (by kernel_rfl) rfl rfl rfl (⟨⟨_, rfl, rfl, rfl⟩, ⟨_, rfl, rfl, rfl⟩, trivial⟩) (trivial) (trivial) (trivial) rfl) trivial ?_
       refine .q rfl (op_move rfl) trivial ?_
       refine .q rfl (op_move rfl) trivial ?_
       refine .q rfl (op_indexAddr (z := 5) Tryd.underlying27 (by kernel_rfl) rfl rfl rfl (show i < l.length by omega)) trivial ?_
       refine .q rfl (op_fieldAddr (m := 0) Tryd.underlying37 rfl (by kernel_rfl) rfl) trivial ?_
       refine .as (.ptr 450 (o + i * 5 + 2)) rfl ?_
       refine .q rfl (op_load Tryd.underlying9 rfl rfl rfl (rows_at (z := 5) (fun _ => rfl) (get_i default (show i < l.length by omega)) (k := 2) rfl) (rows_lt (f := actL) (z := 5) (o := o) (l := l) (i := i) (fun _ => rfl) (by omega) (by decide))) trivial ?_
       refine .q rfl (op_call (U := []) [] [] (cut_ev (l.getD i default).A 70 (l.getD i default).hA (by decide)) Tryd.func8 (by kernel_rfl) rfl rfl rfl (⟨⟨_, rfl, rfl, rfl⟩, ⟨_, rfl, rfl, rfl⟩, trivial⟩) (trivial) (trivial) (trivial) rfl) trivial ?_
       refine .q rfl (op_move rfl) trivial ?_
       refine .q rfl (op_move rfl) trivial ?_
       refine .q rfl (op_indexAddr (z := 5) Tryd.underlying27 (by kernel_rfl) rfl rfl rfl (show i < l.length by omega)) trivial ?_
       refine .q rfl (op_fieldAddr (m := 0) Tryd.underlying37 rfl (by kernel_rfl) rfl) trivial ?_
       refine .as (.ptr 450 (o + i * 5 + 3)) rfl ?_
       refine .q rfl (op_load Tryd.underlying3 rfl rfl rfl (rows_at (z := 5) (fun _ => rfl) (get_i default (show i < l.length by omega)) (k := 3) rfl) (rows_lt (f := actL) (z := 5) (o := o) (l := l) (i := i) (fun _ => rfl) (by omega) (by decide))) trivial ?_
       refine .q rfl (op_move rfl) trivial ?_
       refine .q rfl (op_move rfl) trivial ?_
       refine .q rfl (op_indexAddr (z := 5) Tryd.underlying27 (by kernel_rfl) rfl rfl rfl (show i < l.length by omega)) trivial ?_
       refine .q rfl (op_fieldAddr (m := 0) Tryd.underlying37 rfl (by kernel_rfl) rfl) trivial ?_
       refine .as (.ptr 450 (o + i * 5 + 4)) rfl ?_
       refine .q rfl (op_load Tryd.underlying3 rfl rfl rfl (rows_at (z := 5) (fun _ => rfl) (get_i default (show i < l.length by omega)) (k := 4) rfl) (rows_lt (f := actL) (z := 5) (o := o) (l := l) (i := i) (fun _ => rfl) (by omega) (by decide))) trivial ?_
       refine .q rfl (op_call (U := []) [(500, 1000), (501, 1001)] [] (takeF_ev (min (max ca 0) 64) (min (max cb 0) 4096) (min (max cc 1) 1073741824) ep hm hn (l.getD i default).o (l.getD i default).n h1 h2 eo hq hf) Tryd.func19 (by kernel_rfl) rfl rfl rfl (⟨⟨_, rfl, rfl, rfl⟩, ⟨_, rfl, rfl, rfl⟩, ⟨_, rfl, rfl, rfl⟩, ⟨_, rfl, rfl, rfl⟩, ⟨_, rfl, rfl, rfl⟩, trivial⟩) (⟨⟨_, _, rfl, rfl, rfl, rfl, (fun h => by cases h), rfl⟩, ⟨_, _, rfl, rfl, rfl, rfl, (fun h => by cases h), rfl⟩, ⟨_, _, rfl, rfl, rfl, rfl, (fun h => by cases h), rfl⟩, ⟨_, _, rfl, rfl, rfl, rfl, (fun h => by cases h), rfl⟩, trivial⟩) (trivial) (⟨(fun h => by cases h), (fun h => by cases h), (fun h => by cases h), (fun h => by cases h), trivial⟩) rfl) trivial ?_
       refine .q rfl (op_move rfl) trivial ?_
       refine .q rfl (op_extract rfl rfl) trivial ?_
       refine .q rfl (op_extract rfl rfl) trivial ?_
       refine .q rfl (op_extract rfl rfl) trivial ?_
       refine .a rfl (op_allocRow zero45 rel_zero45 rfl) trivial rfl rfl ?_
       refine .w rfl (op_storeRow (by kernel_rfl) rfl rfl rfl rfl rfl (rfl) (rfl)) trivial rfl rfl ?_
       refine .q rfl (op_assign rfl) trivial ?_
       refine .q rfl (op_assign rfl) trivial ?_
       refine .nil ?_
       show Ev _ _ _ _ _
       refine .seq ?_
       refine .seq ?_
       refine .region ?_
       refine .q (op_move rfl) trivial rfl ?_
       refine .q (op_eqErrNil (e := 7) Tryd.underlying47 rfl rfl) trivial rfl ?_
       refine .q (op_move rfl) trivial rfl ?_
       refine .know (b' := false) (rfl) ?_
       refine .no ⟨_, rfl, rfl⟩ rfl ?_
       refine .no ⟨_, rfl, rfl⟩ rfl ?_
       refine .no ⟨_, rfl, rfl⟩ rfl ?_
       refine .no ⟨_, rfl, rfl⟩ rfl ?_
       refine .no ⟨_, rfl, rfl⟩ rfl ?_
       refine .q (op_pick_false rfl rfl rfl) trivial rfl ?_
       refine .nil ?_
       show Ev _ _ _ _ _
       refine .cond_false rfl rfl ?_
       refine .skip ?_
       show Ev _ _ _ _ _
       refine .seq ?_
       refine .region ?_
       refine .q (op_move rfl) trivial rfl ?_
       refine .q (op_eqErrNil (e := 7) Tryd.underlying47 rfl rfl) trivial rfl ?_
       refine .nil ?_
       show Ev _ _ _ _ _
       refine .cond_false rfl (rfl) ?_
       refine .skip ?_
       exact ⟨⟨M, ck, L, ep, hm, hv, by omega⟩, StLe.mk [(1000, 1000), (1001, 1001), (1008, 1008)] rfl rfl ⟨⟨_, rfl, by first | rfl | (simp only [AV.ren]; congr 1; omega), rfl⟩, ⟨_, rfl, by first | rfl | (simp only [AV.ren]; congr 1; omega), rfl⟩, ⟨_, rfl, by first | rfl | (simp only [AV.ren]; congr 1; omega), rfl⟩, ⟨_, rfl, by first | rfl | (simp only [AV.ren]; congr 1; omega), rfl⟩, ⟨_, rfl, by first | rfl | (simp only [AV.ren]; congr 1; omega), rfl⟩, trivial⟩ ⟨⟨_, _, rfl, rfl, rfl, rfl, id, rfl⟩, ⟨_, _, rfl, rfl, rfl, rfl, id, rfl⟩, ⟨_, _, rfl, rfl, rfl, rfl, id, rfl⟩, ⟨_, _, rfl, rfl, rfl, rfl, id, rfl⟩, ⟨_, _, rfl, rfl, rfl, rfl, id, rfl⟩, ⟨_, _, rfl, rfl, rfl, rfl, id, rfl⟩, ⟨_, _, rfl, rfl, rfl, rfl, id, rfl⟩, ⟨_, _, rfl, rfl, rfl, rfl, id, rfl⟩, ⟨_, _, rfl, rfl, rfl, rfl, id, rfl⟩, ⟨_, _, rfl, rfl, rfl, rfl, id, rfl⟩, ⟨_, _, rfl, rfl, rfl, rfl, id, rfl⟩, ⟨_, _, rfl, rfl, rfl, rfl, id, rfl⟩, ⟨_, _, rfl, rfl, rfl, rfl, id, rfl⟩, ⟨_, _, rfl, rfl, rfl, rfl, id, rfl⟩, ⟨_, _, rfl, rfl, rfl, rfl, id, rfl⟩, ⟨_, _, rfl, rfl, rfl, rfl, id, rfl⟩, ⟨_, _, rfl, rfl, rfl, rfl, id, rfl⟩, ⟨_, _, rfl, rfl, rfl, rfl, id, rfl⟩, ⟨_, _, rfl, rfl, rfl, rfl, id, rfl⟩, ⟨_, _, rfl, rfl, rfl, rfl, id, rfl⟩, ⟨_, _, rfl, rfl, rfl, rfl, id, rfl⟩, ⟨_, _, rfl, rfl, rfl, rfl, id, rfl⟩, ⟨_, _, rfl, rfl, rfl, rfl, id, rfl⟩, ⟨_, _, rfl, rfl, rfl, rfl, id, rfl⟩, ⟨_, _, rfl, rfl, rfl, rfl, id, rfl⟩, ⟨_, _, rfl, rfl, rfl, rfl, id, rfl⟩, ⟨_, _, rfl, rfl, rfl, rfl, id, rfl⟩, ⟨_, _, rfl, rfl, rfl, rfl, id, rfl⟩, ⟨_, _, rfl, rfl, rfl, rfl, id, rfl⟩, ⟨_, _, rfl, rfl, rfl, rfl, id, rfl⟩, ⟨_, _, rfl, rfl, rfl, rfl, id, rfl⟩, ⟨_, _, rfl, rfl, rfl, rfl, id, rfl⟩, ⟨_, _, rfl, rfl, rfl, rfl, id, rfl⟩, ⟨_, _, rfl, rfl, rfl, rfl, id, rfl⟩, ⟨_, _, rfl, rfl, rfl, rfl, id, rfl⟩, ⟨_, _, rfl, rfl, rfl, rfl, id, rfl⟩, ⟨_, _, rfl, rfl, rfl, rfl, id, rfl⟩, ⟨_, _, rfl, rfl, rfl, rfl, id, rfl⟩, ⟨_, _, rfl, rfl, rfl, rfl, id, rfl⟩, ⟨_, _, rfl, rfl, rfl, rfl, id, rfl⟩, ⟨_, _, rfl, rfl, rfl, rfl, id, rfl⟩, ⟨_, _, rfl, rfl, rfl, rfl, id, rfl⟩, ⟨_, _, rfl, rfl, rfl, rfl, id, rfl⟩, ⟨_, _, rfl, rfl, offC_ren _ o (rowsC_flat (fun _ => rfl) l), rfl, id, offC_nm _ o (rowsC_flat (fun _ => rfl) l)⟩, trivial⟩⟩
      ·refine .q rfl (op_move rfl) trivial ?_
       refine .q rfl (op_move rfl) trivial ?_
       refine .q rfl (op_move rfl) trivial ?_
       refine .q rfl (op_indexAddr (z := 5) Tryd.underlying27 (by kernel_rfl) rfl rfl rfl (show i < l.length by omega)) trivial ?_
       refine .q rfl (op_fieldAddr (m := 0) Tryd.underlying37 rfl (by kernel_rfl) rfl) trivial ?_
       refine .as (.ptr 450 (o + i * 5 + 1)) rfl ?_
       refine .q rfl (op_load Tryd.underlying9 rfl rfl rfl (rows_at (z := 5) (fun _ => rfl) (get_i default (show i < l.length by omega)) (k := 1) rfl) (rows_lt (f := actL) (z := 5) (o := o) (l := l) (i := i) (fun _ => rfl) (by omega) (by decide))) trivial ?_
       refine .q rfl (op_call (U := []) [] [] (cut_ev (l.getD i default).T 70 (l.getD i default).hT (by decide)) Tryd.func8 (by kernel_rfl) rfl rfl rfl (⟨⟨_, rfl, rfl, rfl⟩, ⟨_, rfl, rfl, rfl⟩, trivial⟩) (trivial) (trivial) (trivial) rfl) trivial ?_
       refine .q rfl (op_move rfl) trivial ?_
       refine .q rfl (op_move rfl) trivial ?_
       refine .q rfl (op_indexAddr (z := 5) Tryd.underlying27 (by kernel_rfl) rfl rfl rfl (show i < l.length by omega)) trivial ?_
       refine .q rfl (op_fieldAddr (m := 0) Tryd.underlying37 rfl (by kernel_rfl) rfl) trivial ?_
       refine .as (.ptr 450 (o + i * 5 + 2)) rfl ?_
       refine .q rfl (op_load Tryd.underlying9 rfl rfl rfl (rows_at (z := 5) (fun _ => rfl) (get_i default (show i < l.length by omega)) (k := 2) rfl) (rows_lt (f := actL) (z := 5) (o := o) (l := l) (i := i) (fun _ => rfl) (by omega) (by decide))) trivial ?_
       refine .q rfl (op_call (U := []) [] [] (cut_ev (l.getD i default).A 70 (l.getD i default).hA (by decide)) Tryd.func8 (by kernel_rfl) rfl rfl rfl (⟨⟨_, rfl, rfl, rfl⟩, ⟨_, rfl, rfl, rfl⟩, trivial⟩) (trivial) (trivial) (trivial) rfl) trivial ?_
       refine .q rfl (op_move rfl) trivial ?_
       refine .q rfl (op_move rfl) trivial ?_
       refine .q rfl (op_indexAddr (z := 5) Tryd.underlying27 (by kernel_rfl) rfl rfl rfl (show i < l.length by omega)) trivial ?_
       refine .q rfl (op_fieldAddr (m := 0) Tryd.underlying37 rfl (by kernel_rfl) rfl) trivial ?_
       refine .as (.ptr 450 (o + i * 5 + 3)) rfl ?_
       refine .q rfl (op_load Tryd.underlying3 rfl rfl rfl (rows_at (z := 5) (fun _ => rfl) (get_i default (show i < l.length by omega)) (k := 3) rfl) (rows_lt (f := actL) (z := 5) (o := o) (l := l) (i := i) (fun _ => rfl) (by omega) (by decide))) trivial ?_
       refine .q rfl (op_move rfl) trivial ?_
       refine .q rfl (op_move rfl) trivial ?_
       refine .q rfl (op_indexAddr (z := 5) Tryd.underlying27 (by kernel_rfl) rfl rfl rfl (show i < l.length by omega)) trivial ?_
       refine .q rfl (op_fieldAddr (m := 0) Tryd.underlying37 rfl (by kernel_rfl) rfl) trivial ?_
       refine .as (.ptr 450 (o + i * 5 + 4)) rfl ?_
       refine .q rfl (op_load Tryd.underlying3 rfl rfl rfl (rows_at (z := 5) (fun _ => rfl) (get_i default (show i < l.length by omega)) (k := 4) rfl) (rows_lt (f := actL) (z := 5) (o := o) (l := l) (i := i) (fun _ => rfl) (by omega) (by decide))) trivial ?_
       refine .a rfl (op_call (U := [(1000, some ⟨.agg [.i64 (min (max ca 0) 64), .i64 (min (max cb 0) 4096), .i64 (min (max cc 1) 1073741824), .mp 1001, .i64 (ep + 1)], 68, true⟩), (1001, some ⟨mpV (putM M ck (⟨((l.getD i default).T.take 70), ((l.getD i default).A.take 70), (l.getD i default).o, ep + 1, tickV (l.getD i default).n⟩ : Ls)).1 (putM M ck (⟨((l.getD i default).T.take 70), ((l.getD i default).A.take 70), (l.getD i default).o, ep + 1, tickV (l.getD i default).n⟩ : Ls)).2, 0, true⟩)]) [(500, 1000), (501, 1001)] [] (takeI_ev (min (max ca 0) 64) (min (max cb 0) 4096) (min (max cc 1) 1073741824) ep hm hn (l.getD i default).o (l.getD i default).n h1 h2 eo hq hf (by omega)) Tryd.func19 (by kernel_rfl) rfl rfl rfl (⟨⟨_, rfl, rfl, rfl⟩, ⟨_, rfl, rfl, rfl⟩, ⟨_, rfl, rfl, rfl⟩, ⟨_, rfl, rfl, rfl⟩, ⟨_, rfl, rfl, rfl⟩, trivial⟩) (⟨⟨_, _, rfl, rfl, rfl, rfl, id, rfl⟩, ⟨_, _, rfl, rfl, rfl, rfl, id, rfl⟩, ⟨_, _, rfl, rfl, rfl, rfl, (fun h => by cases h), rfl⟩, trivial⟩) (⟨⟨500, _, rfl, rfl, rfl, rfl, .inr ⟨rfl, _, rfl, rfl⟩⟩, ⟨501, _, rfl, rfl, rfl, rfl, .inr ⟨rfl, _, rfl, rfl⟩⟩, trivial⟩) (⟨(fun _ => ⟨1000, _, rfl, rfl⟩), (fun _ => ⟨1001, _, rfl, rfl⟩), (fun h => by cases h), trivial⟩) rfl) trivial rfl rfl ?_
       refine .q rfl (op_move rfl) trivial ?_
       refine .q rfl (op_extract rfl rfl) trivial ?_
       refine .q rfl (op_extract rfl rfl) trivial ?_
       refine .q rfl (op_extract rfl rfl) trivial ?_
       refine .a rfl (op_allocRow zero45 rel_zero45 rfl) trivial rfl rfl ?_
       refine .w rfl (op_storeRow (by kernel_rfl) rfl rfl rfl rfl rfl (rfl) (rfl)) trivial rfl rfl ?_
       refine .q rfl (op_assign rfl) trivial ?_
       refine .q rfl (op_assign rfl) trivial ?_
       refine .nil ?_
       show Ev _ _ _ _ _
       refine .seq ?_
       refine .seq ?_
       refine Ev.asR (T1 := []) (.err 155 0 (0, 0)) (nil_err _ _) ?_
       refine .region ?_
       refine .q (op_move rfl) trivial rfl ?_
       refine .q (op_eqErrNil (e := 0) Tryd.underlying47 rfl rfl) trivial rfl ?_
       refine .q (op_move rfl) trivial rfl ?_
       refine .know (b' := true) (rfl) ?_
       refine .q (op_fieldAddr (m := 0) Tryd.underlying45 rfl (by kernel_rfl) rfl) ⟨_, rfl, rfl⟩ rfl ?_
       refine .as (.ptr 1240 3) rfl ?_
       refine .q (op_load Tryd.underlying3 rfl rfl rfl rfl (by show 3 < 5; decide)) ⟨_, rfl, rfl⟩ rfl ?_
       refine .q (op_move rfl) ⟨_, rfl, rfl⟩ rfl ?_
       refine .q (op_addI rfl rfl ⟨by omega, by omega⟩) ⟨_, rfl, rfl⟩ rfl ?_
       refine .q (op_cmpI rfl rfl rfl) ⟨_, rfl, rfl⟩ rfl ?_
       refine .as (.bool false) (congrArg AV.bool (by simp)) ?_
       refine .q (op_pick_true rfl rfl rfl) trivial rfl ?_
       refine .nil ?_
       show Ev _ _ _ _ _
       refine .cond_false rfl (rfl) ?_
       refine .skip ?_
       show Ev _ _ _ _ _
       refine .seq ?_
       refine .region ?_
       refine .q (op_move rfl) trivial rfl ?_
       refine .q (op_eqErrNil (e := 0) Tryd.underlying47 rfl rfl) trivial rfl ?_
       refine .nil ?_
       show Ev _ _ _ _ _
       refine .cond_true rfl (rfl) ?_
       refine .region ?_
       refine .q (op_fieldAddr (m := 0) Tryd.underlying45 rfl (by kernel_rfl) rfl) trivial rfl ?_
       refine .as (.ptr 1240 3) rfl ?_
       refine .q (op_load Tryd.underlying3 rfl rfl rfl rfl (by show 3 < 5; decide)) trivial rfl ?_
       refine .q (op_assign rfl) trivial rfl ?_
       refine .nil ?_
       exact ⟨⟨_, _, _, ep + 1, hm.ins (x := (⟨((l.getD i default).T.take 70), ((l.getD i default).A.take 70), (l.getD i default).o, ep + 1, tickV (l.getD i default).n⟩ : Ls)) ⟨nameN_len h1, nameN_len h2⟩ (.inr (by omega)), hv.putI (x := (⟨((l.getD i default).T.take 70), ((l.getD i default).A.take 70), (l.getD i default).o, ep + 1, tickV (l.getD i default).n⟩ : Ls)) rfl (by omega) (tick_in _) hq hf, by omega⟩, StLe.mk [(1000, 1000), (1001, 1001), (1008, 1008)] rfl rfl ⟨⟨_, rfl, by first | rfl | (simp only [AV.ren]; congr 1; omega), rfl⟩, ⟨_, rfl, by first | rfl | (simp only [AV.ren]; congr 1; omega), rfl⟩, ⟨_, rfl, by first | rfl | (simp only [AV.ren]; congr 1; omega), rfl⟩, ⟨_, rfl, by first | rfl | (simp only [AV.ren]; congr 1; omega), rfl⟩, ⟨_, rfl, by first | rfl | (simp only [AV.ren]; congr 1; omega), rfl⟩, trivial⟩ ⟨⟨_, _, rfl, rfl, rfl, rfl, id, rfl⟩, ⟨_, _, rfl, rfl, rfl, rfl, id, rfl⟩, ⟨_, _, rfl, rfl, rfl, rfl, id, rfl⟩, ⟨_, _, rfl, rfl, rfl, rfl, id, rfl⟩, ⟨_, _, rfl, rfl, rfl, rfl, id, rfl⟩, ⟨_, _, rfl, rfl, rfl, rfl, id, rfl⟩, ⟨_, _, rfl, rfl, rfl, rfl, id, rfl⟩, ⟨_, _, rfl, rfl, rfl, rfl, id, rfl⟩, ⟨_, _, rfl, rfl, rfl, rfl, id, rfl⟩, ⟨_, _, rfl, rfl, rfl, rfl, id, rfl⟩, ⟨_, _, rfl, rfl, rfl, rfl, id, rfl⟩, ⟨_, _, rfl, rfl, rfl, rfl, id, rfl⟩, ⟨_, _, rfl, rfl, rfl, rfl, id, rfl⟩, ⟨_, _, rfl, rfl, rfl, rfl, id, rfl⟩, ⟨_, _, rfl, rfl, rfl, rfl, id, rfl⟩, ⟨_, _, rfl, rfl, rfl, rfl, id, rfl⟩, ⟨_, _, rfl, rfl, rfl, rfl, id, rfl⟩, ⟨_, _, rfl, rfl, rfl, rfl, id, rfl⟩, ⟨_, _, rfl, rfl, rfl, rfl, id, rfl⟩, ⟨_, _, rfl, rfl, rfl, rfl, id, rfl⟩, ⟨_, _, rfl, rfl, rfl, rfl, id, rfl⟩, ⟨_, _, rfl, rfl, rfl, rfl, id, rfl⟩, ⟨_, _, rfl, rfl, rfl, rfl, id, rfl⟩, ⟨_, _, rfl, rfl, rfl, rfl, id, rfl⟩, ⟨_, _, rfl, rfl, rfl, rfl, id, rfl⟩, ⟨_, _, rfl, rfl, rfl, rfl, id, rfl⟩, ⟨_, _, rfl, rfl, rfl, rfl, id, rfl⟩, ⟨_, _, rfl, rfl, rfl, rfl, id, rfl⟩, ⟨_, _, rfl, rfl, rfl, rfl, id, rfl⟩, ⟨_, _, rfl, rfl, rfl, rfl, id, rfl⟩, ⟨_, _, rfl, rfl, rfl, rfl, id, rfl⟩, ⟨_, _, rfl, rfl, rfl, rfl, id, rfl⟩, ⟨_, _, rfl, rfl, rfl, rfl, id, rfl⟩, ⟨_, _, rfl, rfl, rfl, rfl, id, rfl⟩, ⟨_, _, rfl, rfl, rfl, rfl, id, rfl⟩, ⟨_, _, rfl, rfl, rfl, rfl, id, rfl⟩, ⟨_, _, rfl, rfl, rfl, rfl, id, rfl⟩, ⟨_, _, rfl, rfl, rfl, rfl, id, rfl⟩, ⟨_, _, rfl, rfl, rfl, rfl, id, rfl⟩, ⟨_, _, rfl, rfl, rfl, rfl, id, rfl⟩, ⟨_, _, rfl, rfl, rfl, rfl, id, rfl⟩, ⟨_, _, rfl, rfl, rfl, rfl, id, rfl⟩, ⟨_, _, rfl, rfl, rfl, rfl, id, rfl⟩, ⟨_, _, rfl, rfl, offC_ren _ o (rowsC_flat (fun _ => rfl) l), rfl, id, offC_nm _ o (rowsC_flat (fun _ => rfl) l)⟩, trivial⟩⟩
     ·skip
      have hkk : ¬ ((l.getD i default).k < 1 ∨ 5 < (l.getD i default).k) := by rw [hc53] at hb53; exact of_decide_eq_false hb53.symm
      obtain ⟨q, hq1, hq2, hq3⟩ := stepE_all (min (max ca 0) 64) (min (max cb 0) 4096) (min (max cc 1) 1073741824) ep hm eo hd (l.getD i default).T (l.getD i default).A (l.getD i default).hT (l.getD i default).hA (l.getD i default).o (l.getD i default).n (l.getD i default).k (by omega) hv
      refine .drawn [[], [], [], [], [2, 3], [2, 3, 4], [0, 1, 2, 3, 4, 5]] [1, 5, 6] [6] (by kernel_rfl) (by kernel_rfl) rfl ?_
      show DK _ [0, 1, 2, 3, 4, 5, 6] _ _ _
      refine .q rfl (op_move rfl) trivial ?_
      refine .q rfl (op_loadRow Tryd.underlying32 rfl (by kernel_rfl) rfl rfl rfl (rfl)) trivial ?_
      refine .q rfl (op_move rfl) trivial ?_
      refine .q rfl (op_move rfl) trivial ?_
      refine .q rfl (op_indexAddr (z := 5) Tryd.underlying27 (by kernel_rfl) rfl rfl rfl (show i < l.length by omega)) trivial ?_
      refine .q rfl (op_loadPart (m := 5) (r := .agg (actL (l.getD i default))) (cs := actL (l.getD i default)) Tryd.underlying37 rfl (by kernel_rfl) rfl rfl rfl rfl (rowsL_part (show i < l.length by omega)).symm (rowsL_room (show i < l.length by omega))) trivial ?_
      refine .a rfl (op_call (U := [(1000, some ⟨.agg [.i64 (min (max ca 0) 64), .i64 (min (max cb 0) 4096), .i64 (min (max cc 1) 1073741824), .mp 1001, .i64 ep], 68, true⟩), (1001, some ⟨mpV q.M q.ck, 0, true⟩)]) [(500, 1000), (501, 1001)] [] (hq3) Tryd.func14 (by kernel_rfl) rfl rfl rfl (⟨⟨_, rfl, rfl, rfl⟩, ⟨_, rfl, rfl, rfl⟩, ⟨_, rfl, rfl, rfl⟩, trivial⟩) (⟨⟨_, _, rfl, rfl, rfl, rfl, id, rfl⟩, ⟨_, _, rfl, rfl, rfl, rfl, id, rfl⟩, ⟨_, _, rfl, rfl, rfl, rfl, (fun h => by cases h), rfl⟩, ⟨_, _, rfl, rfl, rfl, rfl, (fun h => by cases h), rfl⟩, ⟨_, _, rfl, rfl, rfl, rfl, (fun h => by cases h), rfl⟩, ⟨_, _, rfl, rfl, rfl, rfl, (fun h => by cases h), rfl⟩, ⟨_, _, rfl, rfl, rfl, rfl, (fun h => by cases h), rfl⟩, ⟨_, _, rfl, rfl, rfl, rfl, (fun h => by cases h), rfl⟩, ⟨_, _, rfl, rfl, rfl, rfl, (fun h => by cases h), rfl⟩, ⟨_, _, rfl, rfl, rfl, rfl, (fun h => by cases h), rfl⟩, ⟨_, _, rfl, rfl, rfl, rfl, (fun h => by cases h), rfl⟩, ⟨_, _, rfl, rfl, rfl, rfl, (fun h => by cases h), rfl⟩, ⟨_, _, rfl, rfl, rfl, rfl, (fun h => by cases h), rfl⟩, ⟨_, _, rfl, rfl, rfl, rfl, (fun h => by cases h), rfl⟩, ⟨_, _, rfl, rfl, rfl, rfl, (fun h => by cases h), rfl⟩, ⟨_, _, rfl, rfl, rfl, rfl, (fun h => by cases h), rfl⟩, ⟨_, _, rfl, rfl, rfl, rfl, (fun h => by cases h), rfl⟩, ⟨_, _, rfl, rfl, rfl, rfl, (fun h => by cases h), rfl⟩, ⟨_, _, rfl, rfl, rfl, rfl, (fun h => by cases h), rfl⟩, ⟨_, _, rfl, rfl, rfl, rfl, (fun h => by cases h), rfl⟩, ⟨_, _, rfl, rfl, rfl, rfl, (fun h => by cases h), rfl⟩, ⟨_, _, rfl, rfl, rfl, rfl, (fun h => by cases h), rfl⟩, ⟨_, _, rfl, rfl, rfl, rfl, (fun h => by cases h), rfl⟩, ⟨_, _, rfl, rfl, rfl, rfl, (fun h => by cases h), rfl⟩, ⟨_, _, rfl, rfl, rfl, rfl, (fun h => by cases h), rfl⟩, ⟨_, _, rfl, rfl, rfl, rfl, (fun h => by cases h), rfl⟩, ⟨_, _, rfl, rfl, rfl, rfl, (fun h => by cases h), rfl⟩, ⟨_, _, rfl, rfl, rfl, rfl, (fun h => by cases h), rfl⟩, ⟨_, _, rfl, rfl, rfl, rfl, (fun h => by cases h), rfl⟩, ⟨_, _, rfl, rfl, rfl, rfl, (fun h => by cases h), rfl⟩, ⟨_, _, rfl, rfl, rfl, rfl, (fun h => by cases h), rfl⟩, ⟨_, _, rfl, rfl, rfl, rfl, (fun h => by cases h), rfl⟩, ⟨_, _, rfl, rfl, rfl, rfl, (fun h => by cases h), rfl⟩, ⟨_, _, rfl, rfl, rfl, rfl, (fun h => by cases h), rfl⟩, ⟨_, _, rfl, rfl, rfl, rfl, (fun h => by cases h), rfl⟩, ⟨_, _, rfl, rfl, rfl, rfl, (fun h => by cases h), rfl⟩, ⟨_, _, rfl, rfl, rfl, rfl, (fun h => by cases h), rfl⟩, ⟨_, _, rfl, rfl, rfl, rfl, (fun h => by cases h), rfl⟩, ⟨_, _, rfl, rfl, rfl, rfl, (fun h => by cases h), rfl⟩, ⟨_, _, rfl, rfl, rfl, rfl, (fun h => by cases h), rfl⟩, ⟨_, _, rfl, rfl, rfl, rfl, (fun h => by cases h), rfl⟩, ⟨_, _, rfl, rfl, rfl, rfl, (fun h => by cases h), rfl⟩, trivial⟩) (⟨⟨500, _, rfl, rfl, rfl, rfl, .inr ⟨rfl, _, rfl, rfl⟩⟩, ⟨501, _, rfl, rfl, rfl, rfl, .inr ⟨rfl, _, rfl, rfl⟩⟩, trivial⟩) (⟨(fun _ => ⟨1000, _, rfl, rfl⟩), (fun _ => ⟨1001, _, rfl, rfl⟩), (fun h => by cases h), (fun h => by cases h), (fun h => by cases h), (fun h => by cases h), (fun h => by cases h), (fun h => by cases h), (fun h => by cases h), (fun h => by cases h), (fun h => by cases h), (fun h => by cases h), (fun h => by cases h), (fun h => by cases h), (fun h => by cases h), (fun h => by cases h), (fun h => by cases h), (fun h => by cases h), (fun h => by cases h), (fun h => by cases h), (fun h => by cases h), (fun h => by cases h), (fun h => by cases h), (fun h => by cases h), (fun h => by cases h), (fun h => by cases h), (fun h => by cases h), (fun h => by cases h), (fun h => by cases h), (fun h => by cases h), (fun h => by cases h), (fun h => by cases h), (fun h => by cases h), (fun h => by cases h), (fun h => by cases h), (fun h => by cases h), (fun h => by cases h), (fun h => by cases h), (fun h => by cases h), (fun h => by cases h), (fun h => by cases h), (fun h => by cases h), trivial⟩) rfl) trivial rfl rfl ?_
      refine .nil ?_
      exact ⟨⟨q.M, q.ck, q.L, ep, hq1, hq2, by omega⟩, StLe.mk [(1000, 1000), (1001, 1001), (1008, 1008)] rfl rfl ⟨⟨_, rfl, by first | rfl | (simp only [AV.ren]; congr 1; omega), rfl⟩, ⟨_, rfl, by first | rfl | (simp only [AV.ren]; congr 1; omega), rfl⟩, ⟨_, rfl, by first | rfl | (simp only [AV.ren]; congr 1; omega), rfl⟩, ⟨_, rfl, by first | rfl | (simp only [AV.ren]; congr 1; omega), rfl⟩, ⟨_, rfl, by first | rfl | (simp only [AV.ren]; congr 1; omega), rfl⟩, trivial⟩ ⟨⟨_, _, rfl, rfl, rfl, rfl, id, rfl⟩, ⟨_, _, rfl, rfl, rfl, rfl, id, rfl⟩, ⟨_, _, rfl, rfl, rfl, rfl, id, rfl⟩, ⟨_, _, rfl, rfl, rfl, rfl, id, rfl⟩, ⟨_, _, rfl, rfl, rfl, rfl, id, rfl⟩, ⟨_, _, rfl, rfl, rfl, rfl, id, rfl⟩, ⟨_, _, rfl, rfl, rfl, rfl, id, rfl⟩, ⟨_, _, rfl, rfl, rfl, rfl, id, rfl⟩, ⟨_, _, rfl, rfl, rfl, rfl, id, rfl⟩, ⟨_, _, rfl, rfl, rfl, rfl, id, rfl⟩, ⟨_, _, rfl, rfl, rfl, rfl, id, rfl⟩, ⟨_, _, rfl, rfl, rfl, rfl, id, rfl⟩, ⟨_, _, rfl, rfl, rfl, rfl, id, rfl⟩, ⟨_, _, rfl, rfl, rfl, rfl, id, rfl⟩, ⟨_, _, rfl, rfl, rfl, rfl, id, rfl⟩, ⟨_, _, rfl, rfl, rfl, rfl, id, rfl⟩, ⟨_, _, rfl, rfl, rfl, rfl, id, rfl⟩, ⟨_, _, rfl, rfl, rfl, rfl, id, rfl⟩, ⟨_, _, rfl, rfl, rfl, rfl, id, rfl⟩, ⟨_, _, rfl, rfl, rfl, rfl, id, rfl⟩, ⟨_, _, rfl, rfl, rfl, rfl, id, rfl⟩, ⟨_, _, rfl, rfl, rfl, rfl, id, rfl⟩, ⟨_, _, rfl, rfl, rfl, rfl, id, rfl⟩, ⟨_, _, rfl, rfl, rfl, rfl, id, rfl⟩, ⟨_, _, rfl, rfl, rfl, rfl, id, rfl⟩, ⟨_, _, rfl, rfl, rfl, rfl, id, rfl⟩, ⟨_, _, rfl, rfl, rfl, rfl, id, rfl⟩, ⟨_, _, rfl, rfl, rfl, rfl, id, rfl⟩, ⟨_, _, rfl, rfl, rfl, rfl, id, rfl⟩, ⟨_, _, rfl, rfl, rfl, rfl, id, rfl⟩, ⟨_, _, rfl, rfl, rfl, rfl, id, rfl⟩, ⟨_, _, rfl, rfl, rfl, rfl, id, rfl⟩, ⟨_, _, rfl, rfl, rfl, rfl, id, rfl⟩, ⟨_, _, rfl, rfl, rfl, rfl, id, rfl⟩, ⟨_, _, rfl, rfl, rfl, rfl, id, rfl⟩, ⟨_, _, rfl, rfl, rfl, rfl, id, rfl⟩, ⟨_, _, rfl, rfl, rfl, rfl, id, rfl⟩, ⟨_, _, rfl, rfl, rfl, rfl, id, rfl⟩, ⟨_, _, rfl, rfl, rfl, rfl, id, rfl⟩, ⟨_, _, rfl, rfl, rfl, rfl, id, rfl⟩, ⟨_, _, rfl, rfl, rfl, rfl, id, rfl⟩, ⟨_, _, rfl, rfl, rfl, rfl, id, rfl⟩, ⟨_, _, rfl, rfl, rfl, rfl, id, rfl⟩, ⟨_, _, rfl, rfl, offC_ren _ o (rowsC_flat (fun _ => rfl) l), rfl, id, offC_nm _ o (rowsC_flat (fun _ => rfl) l)⟩, trivial⟩⟩
   ·rintro ⟨M, ck, L, ep, hm, hv, hep⟩
    dsimp only
    refine .seq ?_
    refine .region ?_
    refine .q (op_move rfl) trivial rfl ?_
    refine .q (op_call (U := []) [(500, 1000), (501, 1001)] [] (all_ev (min (max ca 0) 64) (min (max cb 0) 4096) (min (max cc 1) 1073741824) ep hm) Tryd.func16 (by kernel_rfl) rfl rfl rfl (⟨⟨_, rfl, rfl, rfl⟩, trivial⟩) (⟨⟨_, _, rfl, rfl, rfl, rfl, (fun h => by cases h), rfl⟩, ⟨_, _, rfl, rfl, rfl, rfl, (fun h => by cases h), rfl⟩, trivial⟩) (trivial) (⟨(fun h => by cases h), (fun h => by cases h), trivial⟩) rfl) trivial rfl ?_
    refine .q (op_assign rfl) trivial rfl ?_
    refine .nil ?_
    show Ev _ _ _ _ _
    refine .seq ?_
    refine .seq ?_
    refine .region ?_
    refine .q (op_move rfl) trivial rfl ?_
    refine .q (op_len_fsl Tryd.underlying39 rfl) trivial rfl ?_
    refine .q (op_fieldAddr (m := 0) Tryd.underlying32 rfl (by kernel_rfl) rfl) trivial rfl ?_
    refine .as (.ptr 1008 1) rfl ?_
    refine .q (op_load Tryd.underlying3 rfl rfl rfl rfl (by show 1 < 5; decide)) trivial rfl ?_
    refine .q (op_cmpI rfl rfl rfl) trivial rfl ?_
    refine .as (.bool false) (congrArg AV.bool (decide_eq_false (by have := hv.b; omega))) ?_
    refine .nil ?_
    show Ev _ _ _ _ _
    refine .cond_false rfl (rfl) ?_
    refine .skip ?_
    show Ev _ _ _ _ _
    refine .seq ?_
    refine .region ?_
    refine .q (op_move rfl) trivial rfl ?_
    refine .q (op_len_fsl Tryd.underlying39 rfl) trivial rfl ?_
    refine .q (op_move rfl) trivial rfl ?_
    refine .nil ?_
    show Ev _ _ _ _ _
    refine .block ?_
    refine Ev.loop (ι := { j : Nat // j ≤ L.length }) (fun j => ⟨[(1, .sl 450 o l.length 5), (5, .ptr 1000 0), (6, .ptr 1008 0), (7, .i64 ep), (8, .i64 ((i : Nat) : Int)), (12, .fsl (lsC L) L.length 5), (109, .fsl (lsC L) L.length 5), (110, .i64 ((L.length : Nat) : Int)), (111, .i64 ((j.1 : Nat) : Int))], [(1000, some ⟨.agg [.i64 (min (max ca 0) 64), .i64 (min (max cb 0) 4096), .i64 (min (max cc 1) 1073741824), .mp 1001, .i64 ep], 68, true⟩), (1001, some ⟨mpV M ck, 0, true⟩), (1008, some ⟨.agg [.i64 (min (max ca 0) 64), .i64 (min (max cb 0) 4096), .i64 (min (max cc 1) 1073741824), .i64 0, .fsl (lsC ([] : List Ls)) ([] : List Ls).length 5], 32, true⟩), (3, some ⟨.agg [.err 155 (1) (offE eo (1))], errT, false⟩), (4, some ⟨.agg [.err 155 (2) (offE eo (2))], errT, false⟩), (5, some ⟨.agg [.err 155 (3) (offE eo (3))], errT, false⟩), (6, some ⟨.agg [.err 155 (4) (offE eo (4))], errT, false⟩), (7, some ⟨.agg [.err 155 (5) (offE eo (5))], errT, false⟩), (8, some ⟨.agg [.err 155 (6) (offE eo (6))], errT, false⟩), (9, some ⟨.agg [.err 155 (7) (offE eo (7))], errT, false⟩), (2, some ⟨.agg [.err 155 (8) (offE eo (8))], errT, false⟩), (1, some ⟨.agg [.err 155 (9) (offE eo (9))], errT, false⟩), (10, some ⟨.agg [.err 155 (10) (offE eo (10))], errT, false⟩), (11, some ⟨.agg [.err 155 (11) (offE eo (11))], errT, false⟩), (12, some ⟨.agg [.err 155 (12) (offE eo (12))], errT, false⟩), (13, some ⟨.agg [.err 155 (13) (offE eo (13))], errT, false⟩), (14, some ⟨.agg [.err 155 (14) (offE eo (14))], errT, false⟩), (15, some ⟨.agg [.err 155 (15) (offE eo (15))], errT, false⟩), (16, some ⟨.agg [.err 155 (16) (offE eo (16))], errT, false⟩), (0, some ⟨.agg [.err 155 (17) (offE eo (17))], errT, false⟩), (17, some ⟨.agg [.err 155 (18) (offE eo (18))], errT, false⟩), (18, some ⟨.agg [.err 155 (19) (offE eo (19))], errT, false⟩), (19, some ⟨.agg [.err 155 (20) (offE eo (20))], errT, false⟩), (401, some ⟨.agg [], errT, false⟩), (402, some ⟨.agg [], errT, false⟩), (403, some ⟨.agg [], errT, false⟩), (404, some ⟨.agg [], errT, false⟩), (405, some ⟨.agg [], errT, false⟩), (406, some ⟨.agg [], errT, false⟩), (407, some ⟨.agg [], errT, false⟩), (408, some ⟨.agg [], errT, false⟩), (409, some ⟨.agg [], errT, false⟩), (410, some ⟨.agg [], errT, false⟩), (411, some ⟨.agg [], errT, false⟩), (412, some ⟨.agg [], errT, false⟩), (413, some ⟨.agg [], errT, false⟩), (414, some ⟨.agg [], errT, false⟩), (415, some ⟨.agg [], errT, false⟩), (416, some ⟨.agg [], errT, false⟩), (417, some ⟨.agg [], errT, false⟩), (418, some ⟨.agg [], errT, false⟩), (419, some ⟨.agg [], errT, false⟩), (420, some ⟨.agg [], errT, false⟩), (450, some ⟨.agg (offC o (rowsC actL l)), anyT, false⟩)], 1016⟩) (fun j => L.length - j.1) ⟨0, Nat.zero_le _⟩ (StLe.mk [(1000, 1000), (1001, 1001), (1008, 1008)] rfl rfl ⟨⟨_, rfl, by first | rfl | (simp only [AV.ren]; congr 1; omega), rfl⟩, ⟨_, rfl, by first | rfl | (simp only [AV.ren]; congr 1; omega), rfl⟩, ⟨_, rfl, by first | rfl | (simp only [AV.ren]; congr 1; omega), rfl⟩, ⟨_, rfl, by first | rfl | (simp only [AV.ren]; congr 1; omega), rfl⟩, ⟨_, rfl, by first | rfl | (simp only [AV.ren]; congr 1; omega), rfl⟩, ⟨_, rfl, by first | rfl | (simp only [AV.ren]; congr 1; omega), rfl⟩, ⟨_, rfl, by first | rfl | (simp only [AV.ren]; congr 1; omega), rfl⟩, ⟨_, rfl, by first | rfl | (simp only [AV.ren]; congr 1; omega), rfl⟩, ⟨_, rfl, by first | rfl | (simp only [AV.ren]; congr 1; omega), rfl⟩, trivial⟩ ⟨⟨_, _, rfl, rfl, rfl, rfl, id, rfl⟩, ⟨_, _, rfl, rfl, rfl, rfl, id, rfl⟩, ⟨_, _, rfl, rfl, rfl, rfl, id, rfl⟩, ⟨_, _, rfl, rfl, rfl, rfl, id, rfl⟩, ⟨_, _, rfl, rfl, rfl, rfl, id, rfl⟩, ⟨_, _, rfl, rfl, rfl, rfl, id, rfl⟩, ⟨_, _, rfl, rfl, rfl, rfl, id, rfl⟩, ⟨_, _, rfl, rfl, rfl, rfl, id, rfl⟩, ⟨_, _, rfl, rfl, rfl, rfl, id, rfl⟩, ⟨_, _, rfl, rfl, rfl, rfl, id, rfl⟩, ⟨_, _, rfl, rfl, rfl, rfl, id, rfl⟩, ⟨_, _, rfl, rfl, rfl, rfl, id, rfl⟩, ⟨_, _, rfl, rfl, rfl, rfl, id, rfl⟩, ⟨_, _, rfl, rfl, rfl, rfl, id, rfl⟩, ⟨_, _, rfl, rfl, rfl, rfl, id, rfl⟩, ⟨_, _, rfl, rfl, rfl, rfl, id, rfl⟩, ⟨_, _, rfl, rfl, rfl, rfl, id, rfl⟩, ⟨_, _, rfl, rfl, rfl, rfl, id, rfl⟩, ⟨_, _, rfl, rfl, rfl, rfl, id, rfl⟩, ⟨_, _, rfl, rfl, rfl, rfl, id, rfl⟩, ⟨_, _, rfl, rfl, rfl, rfl, id, rfl⟩, ⟨_, _, rfl, rfl, rfl, rfl, id, rfl⟩, ⟨_, _, rfl, rfl, rfl, rfl, id, rfl⟩, ⟨_, _, rfl, rfl, rfl, rfl, id, rfl⟩, ⟨_, _, rfl, rfl, rfl, rfl, id, rfl⟩, ⟨_, _, rfl, rfl, rfl, rfl, id, rfl⟩, ⟨_, _, rfl, rfl, rfl, rfl, id, rfl⟩, ⟨_, _, rfl, rfl, rfl, rfl, id, rfl⟩, ⟨_, _, rfl, rfl, rfl, rfl, id, rfl⟩, ⟨_, _, rfl, rfl, rfl, rfl, id, rfl⟩, ⟨_, _, rfl, rfl, rfl, rfl, id, rfl⟩, ⟨_, _, rfl, rfl, rfl, rfl, id, rfl⟩, ⟨_, _, rfl, rfl, rfl, rfl, id, rfl⟩, ⟨_, _, rfl, rfl, rfl, rfl, id, rfl⟩, ⟨_, _, rfl, rfl, rfl, rfl, id, rfl⟩, ⟨_, _, rfl, rfl, rfl, rfl, id, rfl⟩, ⟨_, _, rfl, rfl, rfl, rfl, id, rfl⟩, ⟨_, _, rfl, rfl, rfl, rfl, id, rfl⟩, ⟨_, _, rfl, rfl, rfl, rfl, id, rfl⟩, ⟨_, _, rfl, rfl, rfl, rfl, id, rfl⟩, ⟨_, _, rfl, rfl, rfl, rfl, id, rfl⟩, ⟨_, _, rfl, rfl, rfl, rfl, id, rfl⟩, ⟨_, _, rfl, rfl, rfl, rfl, id, rfl⟩, ⟨_, _, rfl, rfl, offC_ren _ o (rowsC_flat (fun _ => rfl) l), rfl, id, offC_nm _ o (rowsC_flat (fun _ => rfl) l)⟩, trivial⟩) ?_
    rintro ⟨j, hj0⟩
    dsimp only
    refine .seq ?_
    refine .region ?_
    refine .q (op_cmpI rfl rfl rfl) trivial rfl ?_
    refine .nil ?_
    show Ev _ _ _ _ _
    refine .seq ?_
    refine .cond rfl (fun hc112 => ?_) (fun hc112 => ?_)
    ·simp only [decide_eq_true_eq] at hc112
     refine .skip ?_
     show Ev _ _ _ _ _
     refine .seq ?_
     refine .block ?_
     refine .seq ?_
     refine .region ?_
     have hj : j < L.length := by omega
     refine .q (op_move rfl) trivial rfl ?_
     refine .q (op_indexAddr_fsl Tryd.underlying39 infLease.sz (by decide) rfl rfl (i := j) rfl (hj)) trivial rfl ?_
     refine .q (op_loadRow_fptr (v := lsV (L.getD j default)) Tryd.underlying45 rfl infLease.sz rfl rfl (ls_take (hj)) rfl) trivial rfl ?_
     refine .a (op_allocRow zero45 rel_zero45 rfl) trivial rfl ?_
     refine .q (op_assign rfl) trivial rfl ?_
     refine .w (op_storeRow (by kernel_rfl) rfl rfl rfl rfl rfl (rfl) (rfl)) trivial rfl ?_
     refine .nil ?_
     show Ev _ _ _ _ _
     refine .seq ?_
     refine .region ?_
     refine .q (op_move rfl) trivial rfl ?_
     refine .q (op_fieldAddr (m := 0) Tryd.underlying45 rfl (by kernel_rfl) rfl) trivial rfl ?_
     refine .as (.ptr 1016 0) rfl ?_
     refine .q (op_load Tryd.underlying9 rfl rfl rfl rfl (by show 0 < 5; decide)) trivial rfl ?_
     refine .q (op_fieldAddr (m := 0) Tryd.underlying45 rfl (by kernel_rfl) rfl) trivial rfl ?_
     refine .as (.ptr 1016 1) rfl ?_
     refine .q (op_load Tryd.underlying9 rfl rfl rfl rfl (by show 1 < 5; decide)) trivial rfl ?_
     refine .q (op_call (U := []) [(500, 1000), (501, 1001)] [] (findY_ev (min (max ca 0) 64) (min (max cb 0) 4096) (min (max cc 1) 1073741824) ep hm (getD_mem hj)) Tryd.func20 (by kernel_rfl) rfl rfl rfl (⟨⟨_, rfl, rfl, rfl⟩, ⟨_, rfl, rfl, rfl⟩, ⟨_, rfl, rfl, rfl⟩, trivial⟩) (⟨⟨_, _, rfl, rfl, rfl, rfl, (fun h => by cases h), rfl⟩, ⟨_, _, rfl, rfl, rfl, rfl, (fun h => by cases h), rfl⟩, trivial⟩) (trivial) (⟨(fun h => by cases h), (fun h => by cases h), trivial⟩) rfl) trivial rfl ?_
     refine .q (op_move rfl) trivial rfl ?_
     refine .q (op_extract rfl rfl) trivial rfl ?_
     refine .q (op_extract rfl rfl) trivial rfl ?_
     refine .a (op_allocRow zero45 rel_zero45 rfl) trivial rfl ?_
     refine .w (op_storeRow (by kernel_rfl) rfl rfl rfl rfl rfl (rfl) (rfl)) trivial rfl ?_
     refine .q (op_assign rfl) trivial rfl ?_
     refine .asR (.err 155 0 (0, 0)) (nil_err _ _) ?_
     refine .nil ?_
     show Ev _ _ _ _ _
     refine .seq ?_
     refine .seq ?_
     refine .drawn [[], [0], [0, 1], [0, 1, 2], [0, 1, 2], [0, 1, 2, 3, 4], [0, 1, 2, 3, 4, 5], [0, 1, 2, 3, 4, 5, 6], [0, 1, 2, 3, 4, 5, 6, 7], [0, 1, 2, 3, 4, 5, 6, 7, 8], [0, 1, 2, 3, 4, 5, 6, 7], [0, 1, 2, 3, 4, 5, 6, 7, 8, 9, 10], [0, 1, 2, 3, 4, 5, 6, 7, 8, 9, 10, 11], [0, 1, 2, 3, 4, 5, 6, 7, 8, 9, 10, 11, 12], [0, 1, 2, 3, 4, 5, 6, 7, 8, 9, 10, 11, 12, 13], [0, 1, 2, 3, 4, 5, 6, 7, 8, 9, 10, 11, 12, 13], [0, 1, 2, 3, 4, 5, 6, 7, 8, 9, 10, 11, 12, 13, 15], [0, 1, 2, 3, 4, 5, 6, 7, 8, 9, 10, 11, 12, 13, 14, 15, 16], [0, 1, 2, 3, 4, 5, 6, 7, 8, 9, 10, 11, 12, 13], [0, 1, 2, 3, 4, 5, 6, 7, 8, 9, 10, 11, 12, 13, 18], [0, 1, 2, 3, 4, 5, 6, 7, 8, 9, 10, 11, 12, 13, 14, 15, 16, 17, 18, 19], [0, 1, 2, 3, 4, 5, 6, 7, 8, 9, 10, 11, 12, 13, 14, 15, 16, 17, 18, 19, 20]] [3, 4, 9, 16, 17, 19] [] (by kernel_rfl) (by kernel_rfl) rfl ?_
     show DK _ [0, 1, 2, 3, 4, 5, 6, 7, 8, 9, 10, 11, 12, 13, 14, 15, 16, 17, 18, 19, 20, 21] _ _ _
     refine .q rfl (op_move rfl) trivial ?_
     refine .q rfl (op_eqErrNil (e := 0) Tryd.underlying47 rfl rfl) trivial ?_
     refine .q rfl (op_move rfl) trivial ?_
     refine .know (b' := false) (rfl) ?_
     refine .q rfl (op_loadRow Tryd.underlying45 rfl (by kernel_rfl) rfl rfl rfl (rfl)) ⟨_, rfl, rfl⟩ ?_
     refine .q rfl (op_loadRow Tryd.underlying45 rfl (by kernel_rfl) rfl rfl rfl (rfl)) ⟨_, rfl, rfl⟩ ?_
     refine .q rfl (op_neqLsQ (p := L.getD j default) (q := L.getD j default) rfl rfl) ⟨_, rfl, rfl⟩ ?_
     refine .as (.bool false) (congrArg AV.bool (by simp)) ?_
     refine .q rfl (op_pick_false rfl rfl rfl) trivial ?_
     refine .q rfl (op_move rfl) trivial ?_
     refine .know (b' := false) (rfl) ?_
     refine .q rfl (op_fieldAddr (m := 0) Tryd.underlying45 rfl (by kernel_rfl) rfl) ⟨_, rfl, rfl⟩ ?_
     refine .as (.ptr 1016 3) rfl ?_
     refine .q rfl (op_load Tryd.underlying3 rfl rfl rfl rfl (by show 3 < 5; decide)) ⟨_, rfl, rfl⟩ ?_
     refine .q rfl (op_move rfl) ⟨_, rfl, rfl⟩ ?_
     refine .q rfl (op_cmpI rfl rfl rfl) ⟨_, rfl, rfl⟩ ?_
     refine .as (.bool false) (congrArg AV.bool (decide_eq_false (by have := (hv.e _ (getD_mem hj)).2; omega))) ?_
     refine .q rfl (op_pick_false rfl rfl rfl) trivial ?_
     refine .q rfl (op_move rfl) trivial ?_
     refine .know (b' := false) (rfl) ?_
     refine .q rfl (op_move rfl) ⟨_, rfl, rfl⟩ ?_
     refine .q rfl (op_fieldAddr (m := 0) Tryd.underlying45 rfl (by kernel_rfl) rfl) ⟨_, rfl, rfl⟩ ?_
     refine .as (.ptr 1016 0) rfl ?_
     refine .q rfl (op_load Tryd.underlying9 rfl rfl rfl rfl (by show 0 < 5; decide)) ⟨_, rfl, rfl⟩ ?_
     refine .q rfl (op_call (U := []) [(500, 1000), (501, 1001)] [] (count_ev (min (max ca 0) 64) (min (max cb 0) 4096) (min (max cc 1) 1073741824) ep hm (L.getD j default).t) Tryd.func17 (by kernel_rfl) rfl rfl rfl (⟨⟨_, rfl, rfl, rfl⟩, ⟨_, rfl, rfl, rfl⟩, trivial⟩) (⟨⟨_, _, rfl, rfl, rfl, rfl, (fun h => by cases h), rfl⟩, ⟨_, _, rfl, rfl, rfl, rfl, (fun h => by cases h), rfl⟩, trivial⟩) (trivial) (⟨(fun h => by cases h), (fun h => by cases h), trivial⟩) rfl) ⟨_, rfl, rfl⟩ ?_
     refine .q rfl (op_fieldAddr (m := 0) Tryd.underlying32 rfl (by kernel_rfl) rfl) ⟨_, rfl, rfl⟩ ?_
     refine .as (.ptr 1008 0) rfl ?_
     refine .q rfl (op_load Tryd.underlying3 rfl rfl rfl rfl (by show 0 < 5; decide)) ⟨_, rfl, rfl⟩ ?_
     refine .q rfl (op_cmpI rfl rfl rfl) ⟨_, rfl, rfl⟩ ?_
     refine .as (.bool false) (congrArg AV.bool (decide_eq_false (by have := hv.a (L.getD j default).t; omega))) ?_
     refine .q rfl (op_pick_false rfl rfl rfl) trivial ?_
     refine .nil ?_
     show Ev _ _ _ _ _
     refine .cond_false rfl (rfl) ?_
     refine .skip ?_
     show Ev _ _ _ _ _
     refine .seq ?_
     refine .drawn [[], [0], [0, 1], [0, 1, 2], [0, 1, 2], [0, 1, 2, 4], [0, 1, 2, 3, 4, 5], [0, 1, 2, 3, 4, 5, 6], [0, 1, 2, 3, 4, 5, 6, 7], [0, 1, 2], [0, 1, 2, 9], [0, 1, 2, 3, 4, 5, 6, 7, 8, 9, 10], [0, 1, 2, 3, 4, 5, 6, 7, 8, 9, 10, 11], [0, 1, 2, 3, 4, 5, 6, 7, 8, 9, 10, 11, 12], [0, 1, 2, 3, 4, 5, 6, 7, 8, 9, 10, 11, 12], [0, 1, 2, 3, 4, 5, 6, 7, 8, 9, 10, 11, 12, 14], [0, 1, 2, 3, 4, 5, 6, 7, 8, 9, 10, 11, 12, 13, 14, 15], [0, 1, 2, 3, 4, 5, 6, 7, 8, 9, 10, 11, 12, 13, 14, 15, 16], [0, 1, 2, 3, 4, 5, 6, 7, 8, 9, 10, 11, 12, 13, 14, 15, 16, 17], [0, 1, 2, 3, 4, 5, 6, 7, 8, 9, 10, 11, 12], [0, 1, 2, 3, 4, 5, 6, 7, 8, 9, 10, 11, 12, 19], [0, 1, 2, 3, 4, 5, 6, 7, 8, 9, 10, 11, 12, 13, 14, 15, 16, 17, 18, 19, 20], [0, 1, 2, 3, 4, 5, 6, 7, 8, 9, 10, 11, 12, 13, 14, 15, 16, 17, 18, 19, 20, 21], [0, 1, 2, 3, 4, 5, 6, 7, 8, 9, 10, 11, 12, 13, 14, 15, 16, 17, 18, 19, 20, 21, 22], [0, 1, 2, 3, 4, 5, 6, 7, 8, 9, 10, 11, 12, 13, 14, 15, 16, 17, 18, 19, 20, 21, 22], [0, 1, 2, 3, 4, 5, 6, 7, 8, 9, 10, 11, 12, 13, 14, 15, 16, 17, 18, 19, 20, 21, 22, 24], [0, 1, 2, 3, 4, 5, 6, 7, 8, 9, 10, 11, 12, 13, 14, 15, 16, 17, 18, 19, 20, 21, 22, 23, 24, 25], [0, 1, 2, 3, 4, 5, 6, 7, 8, 9, 10, 11, 12, 13, 14, 15, 16, 17, 18, 19, 20, 21, 22, 23, 24, 25, 26], [0, 1, 2, 3, 4, 5, 6, 7, 8, 9, 10, 11, 12, 13, 14, 15, 16, 17, 18, 19, 20, 21, 22, 23, 24, 25, 26, 27], [0, 1, 2, 3, 4, 5, 6, 7, 8, 9, 10, 11, 12, 13, 14, 15, 16, 17, 18, 19, 20, 21, 22], [0, 1, 2, 3, 4, 5, 6, 7, 8, 9, 10, 11, 12, 13, 14, 15, 16, 17, 18, 19, 20, 21, 22, 29], [0, 1, 2, 3, 4, 5, 6, 7, 8, 9, 10, 11, 12, 13, 14, 15, 16, 17, 18, 19, 20, 21, 22, 23, 24, 25, 26, 27, 28, 29, 30], [0, 1, 2, 3, 4, 5, 6, 7, 8, 9, 10, 11, 12, 13, 14, 15, 16, 17, 18, 19, 20, 21, 22, 23, 24, 25, 26, 27, 28, 29, 30, 31], [0, 1, 2, 3, 4, 5, 6, 7, 8, 9, 10, 11, 12, 13, 14, 15, 16, 17, 18, 19, 20, 21, 22, 23, 24, 25, 26, 27, 28, 29, 30, 31, 32], [0, 1, 2, 3, 4, 5, 6, 7, 8, 9, 10, 11, 12, 13, 14, 15, 16, 17, 18, 19, 20, 21, 22, 23, 24, 25, 26, 27, 28, 29, 30, 31, 32, 33]] [8, 10, 18, 20, 28, 30] [] (by kernel_rfl) (by kernel_rfl) rfl ?_
     show DK _ [0, 1, 2, 3, 4, 5, 6, 7, 8, 9, 10, 11, 12, 13, 14, 15, 16, 17, 18, 19, 20, 21, 22, 23, 24, 25, 26, 27, 28, 29, 30, 31, 32, 33, 34] _ _ _
     refine .q rfl (op_move rfl) trivial ?_
     refine .q rfl (op_cmpI rfl rfl rfl) trivial ?_
     refine .q rfl (op_move rfl) trivial ?_
     refine .split (fun hg149 => ?_) (fun hg149 => ?_)
     ·simp only [decide_eq_true_eq] at hg149
      refine .q rfl (op_move rfl) ⟨_, rfl, rfl⟩ ?_
      refine .q rfl (op_move rfl) ⟨_, rfl, rfl⟩ ?_
      refine .q rfl (op_subI rfl rfl ⟨by have := hm.len; omega, by have := hm.len; omega⟩) ⟨_, rfl, rfl⟩ ?_
      refine .as (.i64 ((j - 1 : Nat) : Int)) (congrArg AV.i64 (by omega)) ?_
      refine .q rfl (op_indexAddr_fsl Tryd.underlying39 infLease.sz (by decide) rfl rfl (i := (j - 1)) rfl ((by omega))) ⟨_, rfl, rfl⟩ ?_
      refine .q rfl (op_fieldAddr_fptr (m := 0) Tryd.underlying45 rfl (by kernel_rfl) rfl (ls_longm (show j - 1 < L.length by omega) (by decide))) ⟨_, rfl, rfl⟩ ?_
      refine .q rfl (op_load_fptr Tryd.underlying9 rfl rfl (ls_tn (show j - 1 < L.length by omega))) ⟨_, rfl, rfl⟩ ?_
      refine .q rfl (op_fieldAddr (m := 0) Tryd.underlying45 rfl (by kernel_rfl) rfl) ⟨_, rfl, rfl⟩ ?_
      refine .as (.ptr 1016 0) rfl ?_
      refine .q rfl (op_load Tryd.underlying9 rfl rfl rfl rfl (by show 0 < 5; decide)) ⟨_, rfl, rfl⟩ ?_
      refine .q rfl (op_gtS rfl rfl) ⟨_, rfl, rfl⟩ ?_
      refine .as (.bool false) (congrArg AV.bool (decide_eq_false (asc_t hm.asc (by omega) hj))) ?_
      refine .q rfl (op_move rfl) ⟨_, rfl, rfl⟩ ?_
      refine .know (b' := false) (rfl) ?_
      refine .q rfl (op_move rfl) ⟨_, rfl, rfl⟩ ?_
      refine .q rfl (op_move rfl) ⟨_, rfl, rfl⟩ ?_
      refine .q rfl (op_subI rfl rfl ⟨by have := hm.len; omega, by have := hm.len; omega⟩) ⟨_, rfl, rfl⟩ ?_
      refine .as (.i64 ((j - 1 : Nat) : Int)) (congrArg AV.i64 (by omega)) ?_
      refine .q rfl (op_indexAddr_fsl Tryd.underlying39 infLease.sz (by decide) rfl rfl (i := (j - 1)) rfl ((by omega))) ⟨_, rfl, rfl⟩ ?_
      refine .q rfl (op_fieldAddr_fptr (m := 0) Tryd.underlying45 rfl (by kernel_rfl) rfl (ls_longm (show j - 1 < L.length by omega) (by decide))) ⟨_, rfl, rfl⟩ ?_
      refine .q rfl (op_load_fptr Tryd.underlying9 rfl rfl (ls_tn (show j - 1 < L.length by omega))) ⟨_, rfl, rfl⟩ ?_
      refine .q rfl (op_fieldAddr (m := 0) Tryd.underlying45 rfl (by kernel_rfl) rfl) ⟨_, rfl, rfl⟩ ?_
      refine .as (.ptr 1016 0) rfl ?_
      refine .q rfl (op_load Tryd.underlying9 rfl rfl rfl rfl (by show 0 < 5; decide)) ⟨_, rfl, rfl⟩ ?_
      refine .q rfl (op_eqS rfl rfl rfl) ⟨_, rfl, rfl⟩ ?_
      refine .q rfl (op_move rfl) ⟨_, rfl, rfl⟩ ?_
      refine .split (fun hg169 => ?_) (fun hg169 => ?_)
      ·simp only [beq_iff_eq] at hg169
       refine .q rfl (op_move rfl) ⟨_, rfl, rfl⟩ ?_
       refine .q rfl (op_move rfl) ⟨_, rfl, rfl⟩ ?_
       refine .q rfl (op_subI rfl rfl ⟨by have := hm.len; omega, by have := hm.len; omega⟩) ⟨_, rfl, rfl⟩ ?_
       refine .as (.i64 ((j - 1 : Nat) : Int)) (congrArg AV.i64 (by omega)) ?_
       refine .q rfl (op_indexAddr_fsl Tryd.underlying39 infLease.sz (by decide) rfl rfl (i := (j - 1)) rfl ((by omega))) ⟨_, rfl, rfl⟩ ?_
       refine .q rfl (op_fieldAddr_fptr (m := 0) Tryd.underlying45 rfl (by kernel_rfl) rfl (ls_longm (show j - 1 < L.length by omega) (by decide))) ⟨_, rfl, rfl⟩ ?_
       refine .q rfl (op_load_fptr Tryd.underlying9 rfl rfl (ls_al (show j - 1 < L.length by omega))) ⟨_, rfl, rfl⟩ ?_
       refine .q rfl (op_fieldAddr (m := 0) Tryd.underlying45 rfl (by kernel_rfl) rfl) ⟨_, rfl, rfl⟩ ?_
       refine .as (.ptr 1016 1) rfl ?_
       refine .q rfl (op_load Tryd.underlying9 rfl rfl rfl rfl (by show 1 < 5; decide)) ⟨_, rfl, rfl⟩ ?_
       refine .q rfl (op_geS rfl rfl) ⟨_, rfl, rfl⟩ ?_
       refine .as (.bool false) (congrArg AV.bool (asc_a hm.asc (by omega) hj hg169)) ?_
       refine .q rfl (op_pick_true rfl rfl rfl) ⟨_, rfl, rfl⟩ ?_
       refine .q rfl (op_pick_false rfl rfl rfl) ⟨_, rfl, rfl⟩ ?_
       refine .q rfl (op_pick_true rfl rfl rfl) trivial ?_
       refine .nil ?_
       show Ev _ _ _ _ _
       refine .cond_false rfl (rfl) ?_
       refine .skip ?_
       show Ev _ _ _ _ _
       refine .region ?_
       refine .q (op_addI rfl rfl ⟨by have := hm.len; omega, by have := hm.len; omega⟩) trivial rfl ?_
       refine .q (op_move rfl) trivial rfl ?_
       refine .nil ?_
       exact ⟨⟨j + 1, by omega⟩, by show L.length - (j + 1) < L.length - j; omega, StLe.mk [(1000, 1000), (1001, 1001), (1008, 1008)] rfl rfl ⟨⟨_, rfl, by first | rfl | (simp only [AV.ren]; congr 1; omega), rfl⟩, ⟨_, rfl, by first | rfl | (simp only [AV.ren]; congr 1; omega), rfl⟩, ⟨_, rfl, by first | rfl | (simp only [AV.ren]; congr 1; omega), rfl⟩, ⟨_, rfl, by first | rfl | (simp only [AV.ren]; congr 1; omega), rfl⟩, ⟨_, rfl, by first | rfl | (simp only [AV.ren]; congr 1; omega), rfl⟩, ⟨_, rfl, by first | rfl | (simp only [AV.ren]; congr 1; omega), rfl⟩, ⟨_, rfl, by first | rfl | (simp only [AV.ren]; congr 1; omega), rfl⟩, ⟨_, rfl, by first | rfl | (simp only [AV.ren]; congr 1; omega), rfl⟩, ⟨_, rfl, by first | rfl | (simp only [AV.ren]; congr 1; omega), rfl⟩, trivial⟩ ⟨⟨_, _, rfl, rfl, rfl, rfl, id, rfl⟩, ⟨_, _, rfl, rfl, rfl, rfl, id, rfl⟩, ⟨_, _, rfl, rfl, rfl, rfl, id, rfl⟩, ⟨_, _, rfl, rfl, rfl, rfl, id, rfl⟩, ⟨_, _, rfl, rfl, rfl, rfl, id, rfl⟩, ⟨_, _, rfl, rfl, rfl, rfl, id, rfl⟩, ⟨_, _, rfl, rfl, rfl, rfl, id, rfl⟩, ⟨_, _, rfl, rfl, rfl, rfl, id, rfl⟩, ⟨_, _, rfl, rfl, rfl, rfl, id, rfl⟩, ⟨_, _, rfl, rfl, rfl, rfl, id, rfl⟩, ⟨_, _, rfl, rfl, rfl, rfl, id, rfl⟩, ⟨_, _, rfl, rfl, rfl, rfl, id, rfl⟩, ⟨_, _, rfl, rfl, rfl, rfl, id, rfl⟩, ⟨_, _, rfl, rfl, rfl, rfl, id, rfl⟩, ⟨_, _, rfl, rfl, rfl, rfl, id, rfl⟩, ⟨_, _, rfl, rfl, rfl, rfl, id, rfl⟩, ⟨_, _, rfl, rfl, rfl, rfl, id, rfl⟩, ⟨_, _, rfl, rfl, rfl, rfl, id, rfl⟩, ⟨_, _, rfl, rfl, rfl, rfl, id, rfl⟩, ⟨_, _, rfl, rfl, rfl, rfl, id, rfl⟩, ⟨_, _, rfl, rfl, rfl, rfl, id, rfl⟩, ⟨_, _, rfl, rfl, rfl, rfl, id, rfl⟩, ⟨_, _, rfl, rfl, rfl, rfl, id, rfl⟩, ⟨_, _, rfl, rfl, rfl, rfl, id, rfl⟩, ⟨_, _, rfl, rfl, rfl, rfl, id, rfl⟩, ⟨_, _, rfl, rfl, rfl, rfl, id, rfl⟩, ⟨_, _, rfl, rfl, rfl, rfl, id, rfl⟩, ⟨_, _, rfl, rfl, rfl, rfl, id, rfl⟩, ⟨_, _, rfl, rfl, rfl, rfl, id, rfl⟩, ⟨_, _, rfl, rfl, rfl, rfl, id, rfl⟩, ⟨_, _, rfl, rfl, rfl, rfl, id, rfl⟩, ⟨_, _, rfl, rfl, rfl, rfl, id, rfl⟩, ⟨_, _, rfl, rfl, rfl, rfl, id, rfl⟩, ⟨_, _, rfl, rfl, rfl, rfl, id, rfl⟩, ⟨_, _, rfl, rfl, rfl, rfl, id, rfl⟩, ⟨_, _, rfl, rfl, rfl, rfl, id, rfl⟩, ⟨_, _, rfl, rfl, rfl, rfl, id, rfl⟩, ⟨_, _, rfl, rfl, rfl, rfl, id, rfl⟩, ⟨_, _, rfl, rfl, rfl, rfl, id, rfl⟩, ⟨_, _, rfl, rfl, rfl, rfl, id, rfl⟩, ⟨_, _, rfl, rfl, rfl, rfl, id, rfl⟩, ⟨_, _, rfl, rfl, rfl, rfl, id, rfl⟩, ⟨_, _, rfl, rfl, rfl, rfl, id, rfl⟩, ⟨_, _, rfl, rfl, offC_ren _ o (rowsC_flat (fun _ => rfl) l), rfl, id, offC_nm _ o (rowsC_flat (fun _ => rfl) l)⟩, trivial⟩⟩
      ·simp only [ne_eq, beq_eq_false_iff_ne] at hg169
       refine .no rfl ⟨_, rfl, rfl⟩ ?_
       refine .no rfl ⟨_, rfl, rfl⟩ ?_
       refine .no rfl ⟨_, rfl, rfl⟩ ?_
       refine .no rfl ⟨_, rfl, rfl⟩ ?_
       refine .no rfl ⟨_, rfl, rfl⟩ ?_
       refine .no rfl ⟨_, rfl, rfl⟩ ?_
       refine .no rfl ⟨_, rfl, rfl⟩ ?_
       refine .no rfl ⟨_, rfl, rfl⟩ ?_
       refine .no rfl ⟨_, rfl, rfl⟩ ?_
       refine .q rfl (op_pick_false rfl rfl rfl) ⟨_, rfl, rfl⟩ ?_
       refine .q rfl (op_pick_false rfl rfl rfl) ⟨_, rfl, rfl⟩ ?_
       refine .q rfl (op_pick_true rfl rfl rfl) trivial ?_
       refine .nil ?_
       show Ev _ _ _ _ _
       refine .cond_false rfl rfl ?_
       refine .skip ?_
       show Ev _ _ _ _ _
       refine .region ?_
       refine .q (op_addI rfl rfl ⟨by have := hm.len; omega, by have := hm.len; omega⟩) trivial rfl ?_
       refine .q (op_move rfl) trivial rfl ?_
       refine .nil ?_
       exact ⟨⟨j + 1, by omega⟩, by show L.length - (j + 1) < L.length - j; omega, StLe.mk [(1000, 1000), (1001, 1001), (1008, 1008)] rfl rfl ⟨⟨_, rfl, by first | rfl | (simp only [AV.ren]; congr 1; omega), rfl⟩, ⟨_, rfl, by first | rfl | (simp only [AV.ren]; congr 1; omega), rfl⟩, ⟨_, rfl, by first | rfl | (simp only [AV.ren]; congr 1; omega), rfl⟩, ⟨_, rfl, by first | rfl | (simp only [AV.ren]; congr 1; omega), rfl⟩, ⟨_, rfl, by first | rfl | (simp only [AV.ren]; congr 1; omega), rfl⟩, ⟨_, rfl, by first | rfl | (simp only [AV.ren]; congr 1; omega), rfl⟩, ⟨_, rfl, by first | rfl | (simp only [AV.ren]; congr 1; omega), rfl⟩, ⟨_, rfl, by first | rfl | (simp only [AV.ren]; congr 1; omega), rfl⟩, ⟨_, rfl, by first | rfl | (simp only [AV.ren]; congr 1; omega), rfl⟩, trivial⟩ ⟨⟨_, _, rfl, rfl, rfl, rfl, id, rfl⟩, ⟨_, _, rfl, rfl, rfl, rfl, id, rfl⟩, ⟨_, _, rfl, rfl, rfl, rfl, id, rfl⟩, ⟨_, _, rfl, rfl, rfl, rfl, id, rfl⟩, ⟨_, _, rfl, rfl, rfl, rfl, id, rfl⟩, ⟨_, _, rfl, rfl, rfl, rfl, id, rfl⟩, ⟨_, _, rfl, rfl, rfl, rfl, id, rfl⟩, ⟨_, _, rfl, rfl, rfl, rfl, id, rfl⟩, ⟨_, _, rfl, rfl, rfl, rfl, id, rfl⟩, ⟨_, _, rfl, rfl, rfl, rfl, id, rfl⟩, ⟨_, _, rfl, rfl, rfl, rfl, id, rfl⟩, ⟨_, _, rfl, rfl, rfl, rfl, id, rfl⟩, ⟨_, _, rfl, rfl, rfl, rfl, id, rfl⟩, ⟨_, _, rfl, rfl, rfl, rfl, id, rfl⟩, ⟨_, _, rfl, rfl, rfl, rfl, id, rfl⟩, ⟨_, _, rfl, rfl, rfl, rfl, id, rfl⟩, ⟨_, _, rfl, rfl, rfl, rfl, id, rfl⟩, ⟨_, _, rfl, rfl, rfl, rfl, id, rfl⟩, ⟨_, _, rfl, rfl, rfl, rfl, id, rfl⟩, ⟨_, _, rfl, rfl, rfl, rfl, id, rfl⟩, ⟨_, _, rfl, rfl, rfl, rfl, id, rfl⟩, ⟨_, _, rfl, rfl, rfl, rfl, id, rfl⟩, ⟨_, _, rfl, rfl, rfl, rfl, id, rfl⟩, ⟨_, _, rfl, rfl, rfl, rfl, id, rfl⟩, ⟨_, _, rfl, rfl, rfl, rfl, id, rfl⟩, ⟨_, _, rfl, rfl, rfl, rfl, id, rfl⟩, ⟨_, _, rfl, rfl, rfl, rfl, id, rfl⟩, ⟨_, _, rfl, rfl, rfl, rfl, id, rfl⟩, ⟨_, _, rfl, rfl, rfl, rfl, id, rfl⟩, ⟨_, _, rfl, rfl, rfl, rfl, id, rfl⟩, ⟨_, _, rfl, rfl, rfl, rfl, id, rfl⟩, ⟨_, _, rfl, rfl, rfl, rfl, id, rfl⟩, ⟨_, _, rfl, rfl, rfl, rfl, id, rfl⟩, ⟨_, _, rfl, rfl, rfl, rfl, id, rfl⟩, ⟨_, _, rfl, rfl, rfl, rfl, id, rfl⟩, ⟨_, _, rfl, rfl, rfl, rfl, id, rfl⟩, ⟨_, _, rfl, rfl, rfl, rfl, id, rfl⟩, ⟨_, _, rfl, rfl, rfl, rfl, id, rfl⟩, ⟨_, _, rfl, rfl, rfl, rfl, id, rfl⟩, ⟨_, _, rfl, rfl, rfl, rfl, id, rfl⟩, ⟨_, _, rfl, rfl, rfl, rfl, id, rfl⟩, ⟨_, _, rfl, rfl, rfl, rfl, id, rfl⟩, ⟨_, _, rfl, rfl, rfl, rfl, id, rfl⟩, ⟨_, _, rfl, rfl, offC_ren _ o (rowsC_flat (fun _ => rfl) l), rfl, id, offC_nm _ o (rowsC_flat (fun _ => rfl) l)⟩, trivial⟩⟩
     ·simp only [decide_eq_false_iff_not] at hg149
      refine .no rfl ⟨_, rfl, rfl⟩ ?_
      refine .no rfl ⟨_, rfl, rfl⟩ ?_
      refine .no rfl ⟨_, rfl, rfl⟩ ?_
      refine .no rfl ⟨_, rfl, rfl⟩ ?_
      refine .no rfl ⟨_, rfl, rfl⟩ ?_
      refine .no rfl ⟨_, rfl, rfl⟩ ?_
      refine .no rfl ⟨_, rfl, rfl⟩ ?_
      refine .no rfl ⟨_, rfl, rfl⟩ ?_
      refine .no rfl ⟨_, rfl, rfl⟩ ?_
      refine .no rfl ⟨_, rfl, rfl⟩ ?_
      refine .noU rfl ⟨_, rfl, rfl⟩ ?_
      refine .noU rfl ⟨_, rfl, rfl⟩ ?_
      refine .noU rfl ⟨_, rfl, rfl⟩ ?_
      refine .noU rfl ⟨_, rfl, rfl⟩ ?_
      refine .noU rfl ⟨_, rfl, rfl⟩ ?_
      refine .noU rfl ⟨_, rfl, rfl⟩ ?_
      refine .noU rfl ⟨_, rfl, rfl⟩ ?_
      refine .noU rfl ⟨_, rfl, rfl⟩ ?_
      refine .noU rfl ⟨_, rfl, rfl⟩ ?_
      refine .noU rfl ⟨_, rfl, rfl⟩ ?_
      refine .noU rfl ⟨_, rfl, rfl⟩ ?_
      refine .noU rfl ⟨_, rfl, rfl⟩ ?_
      refine .noU rfl ⟨_, rfl, rfl⟩ ?_
      refine .noU rfl ⟨_, rfl, rfl⟩ ?_
      refine .noU rfl ⟨_, rfl, rfl⟩ ?_
      refine .noU rfl ⟨_, rfl, rfl⟩ ?_
      refine .noU rfl ⟨_, rfl, rfl⟩ ?_
      refine .noU rfl ⟨_, rfl, rfl⟩ ?_
      refine .noU rfl ⟨_, rfl, rfl⟩ ?_
      refine .noU rfl ⟨_, rfl, rfl⟩ ?_
      refine .no rfl ⟨_, rfl, rfl⟩ ?_
      refine .q rfl (op_pick_false rfl rfl rfl) trivial ?_
      refine .nil ?_
      show Ev _ _ _ _ _
      refine .cond_false rfl rfl ?_
      refine .skip ?_
      show Ev _ _ _ _ _
      refine .region ?_
      refine .q (op_addI rfl rfl ⟨by have := hm.len; omega, by have := hm.len; omega⟩) trivial rfl ?_
      refine .q (op_move rfl) trivial rfl ?_
      refine .nil ?_
      exact ⟨⟨j + 1, by omega⟩, by show L.length - (j + 1) < L.length - j; omega, StLe.mk [(1000, 1000), (1001, 1001), (1008, 1008)] rfl rfl ⟨⟨_, rfl, by first | rfl | (simp only [AV.ren]; congr 1; omega), rfl⟩, ⟨_, rfl, by first | rfl | (simp only [AV.ren]; congr 1; omega), rfl⟩, ⟨_, rfl, by first | rfl | (simp only [AV.ren]; congr 1; omega), rfl⟩, ⟨_, rfl, by first | rfl | (simp only [AV.ren]; congr 1; omega), rfl⟩, ⟨_, rfl, by first | rfl | (simp only [AV.ren]; congr 1; omega), rfl⟩, ⟨_, rfl, by first | rfl | (simp only [AV.ren]; congr 1; omega), rfl⟩, ⟨_, rfl, by first | rfl | (simp only [AV.ren]; congr 1; omega), rfl⟩, ⟨_, rfl, by first | rfl | (simp only [AV.ren]; congr 1; omega), rfl⟩, ⟨_, rfl, by first | rfl | (simp only [AV.ren]; congr 1; omega), rfl⟩, trivial⟩ ⟨⟨_, _, rfl, rfl, rfl, rfl, id, rfl⟩, ⟨_, _, rfl, rfl, rfl, rfl, id, rfl⟩, ⟨_, _, rfl, rfl, rfl, rfl, id, rfl⟩, ⟨_, _, rfl, rfl, rfl, rfl, id, rfl⟩, ⟨_, _, rfl, rfl, rfl, rfl, id, rfl⟩, ⟨_, _, rfl, rfl, rfl, rfl, id, rfl⟩, ⟨_, _, rfl, rfl, rfl, rfl, id, rfl⟩, ⟨_, _, rfl, rfl, rfl, rfl, id, rfl⟩, ⟨_, _, rfl, rfl, rfl, rfl, id, rfl⟩, ⟨_, _, rfl, rfl, rfl, rfl, id, rfl⟩, ⟨_, _, rfl, rfl, rfl, rfl, id, rfl⟩, ⟨_, _, rfl, rfl, rfl, rfl, id, rfl⟩, ⟨_, _, rfl, rfl, rfl, rfl, id, rfl⟩, ⟨_, _, rfl, rfl, rfl, rfl, id, rfl⟩, ⟨_, _, rfl, rfl, rfl, rfl, id, rfl⟩, ⟨_, _, rfl, rfl, rfl, rfl, id, rfl⟩, ⟨_, _, rfl, rfl, rfl, rfl, id, rfl⟩, ⟨_, _, rfl, rfl, rfl, rfl, id, rfl⟩, ⟨_, _, rfl, rfl, rfl, rfl, id, rfl⟩, ⟨_, _, rfl, rfl, rfl, rfl, id, rfl⟩, ⟨_, _, rfl, rfl, rfl, rfl, id, rfl⟩, ⟨_, _, rfl, rfl, rfl, rfl, id, rfl⟩, ⟨_, _, rfl, rfl, rfl, rfl, id, rfl⟩, ⟨_, _, rfl, rfl, rfl, rfl, id, rfl⟩, ⟨_, _, rfl, rfl, rfl, rfl, id, rfl⟩, ⟨_, _, rfl, rfl, rfl, rfl, id, rfl⟩, ⟨_, _, rfl, rfl, rfl, rfl, id, rfl⟩, ⟨_, _, rfl, rfl, rfl, rfl, id, rfl⟩, ⟨_, _, rfl, rfl, rfl, rfl, id, rfl⟩, ⟨_, _, rfl, rfl, rfl, rfl, id, rfl⟩, ⟨_, _, rfl, rfl, rfl, rfl, id, rfl⟩, ⟨_, _, rfl, rfl, rfl, rfl, id, rfl⟩, ⟨_, _, rfl, rfl, rfl, rfl, id, rfl⟩, ⟨_, _, rfl, rfl, rfl, rfl, id, rfl⟩, ⟨_, _, rfl, rfl, rfl, rfl, id, rfl⟩, ⟨_, _, rfl, rfl, rfl, rfl, id, rfl⟩, ⟨_, _, rfl, rfl, rfl, rfl, id, rfl⟩, ⟨_, _, rfl, rfl, rfl, rfl, id, rfl⟩, ⟨_, _, rfl, rfl, rfl, rfl, id, rfl⟩, ⟨_, _, rfl, rfl, rfl, rfl, id, rfl⟩, ⟨_, _, rfl, rfl, rfl, rfl, id, rfl⟩, ⟨_, _, rfl, rfl, rfl, rfl, id, rfl⟩, ⟨_, _, rfl, rfl, rfl, rfl, id, rfl⟩, ⟨_, _, rfl, rfl, offC_ren _ o (rowsC_flat (fun _ => rfl) l), rfl, id, offC_nm _ o (rowsC_flat (fun _ => rfl) l)⟩, trivial⟩⟩
    ·simp only [decide_eq_false_iff_not] at hc112
     refine .exit ?_
     show Ev _ _ _ _ _
     refine .region ?_
     refine .q (op_move rfl) trivial rfl ?_
     refine .q (op_addI rfl rfl ⟨by omega, by omega⟩) trivial rfl ?_
     refine .q (op_assign rfl) trivial rfl ?_
     refine .nil ?_
     exact ⟨⟨i + 1, M, ck, L, ep, by omega, by omega, hm, hv, by omega⟩, by show 120 - (i + 1) < 120 - i; omega, StLe.mk [(1000, 1000), (1001, 1001), (1008, 1008)] rfl rfl ⟨⟨_, rfl, by first | rfl | (simp only [AV.ren]; congr 1; omega), rfl⟩, ⟨_, rfl, by first | rfl | (simp only [AV.ren]; congr 1; omega), rfl⟩, ⟨_, rfl, by first | rfl | (simp only [AV.ren]; congr 1; omega), rfl⟩, ⟨_, rfl, by first | rfl | (simp only [AV.ren]; congr 1; omega), rfl⟩, ⟨_, rfl, by first | rfl | (simp only [AV.ren]; congr 1; omega), rfl⟩, trivial⟩ ⟨⟨_, _, rfl, rfl, rfl, rfl, id, rfl⟩, ⟨_, _, rfl, rfl, rfl, rfl, id, rfl⟩, ⟨_, _, rfl, rfl, rfl, rfl, id, rfl⟩, ⟨_, _, rfl, rfl, rfl, rfl, id, rfl⟩, ⟨_, _, rfl, rfl, rfl, rfl, id, rfl⟩, ⟨_, _, rfl, rfl, rfl, rfl, id, rfl⟩, ⟨_, _, rfl, rfl, rfl, rfl, id, rfl⟩, ⟨_, _, rfl, rfl, rfl, rfl, id, rfl⟩, ⟨_, _, rfl, rfl, rfl, rfl, id, rfl⟩, ⟨_, _, rfl, rfl, rfl, rfl, id, rfl⟩, ⟨_, _, rfl, rfl, rfl, rfl, id, rfl⟩, ⟨_, _, rfl, rfl, rfl, rfl, id, rfl⟩, ⟨_, _, rfl, rfl, rfl, rfl, id, rfl⟩, ⟨_, _, rfl, rfl, rfl, rfl, id, rfl⟩, ⟨_, _, rfl, rfl, rfl, rfl, id, rfl⟩, ⟨_, _, rfl, rfl, rfl, rfl, id, rfl⟩, ⟨_, _, rfl, rfl, rfl, rfl, id, rfl⟩, ⟨_, _, rfl, rfl, rfl, rfl, id, rfl⟩, ⟨_, _, rfl, rfl, rfl, rfl, id, rfl⟩, ⟨_, _, rfl, rfl, rfl, rfl, id, rfl⟩, ⟨_, _, rfl, rfl, rfl, rfl, id, rfl⟩, ⟨_, _, rfl, rfl, rfl, rfl, id, rfl⟩, ⟨_, _, rfl, rfl, rfl, rfl, id, rfl⟩, ⟨_, _, rfl, rfl, rfl, rfl, id, rfl⟩, ⟨_, _, rfl, rfl, rfl, rfl, id, rfl⟩, ⟨_, _, rfl, rfl, rfl, rfl, id, rfl⟩, ⟨_, _, rfl, rfl, rfl, rfl, id, rfl⟩, ⟨_, _, rfl, rfl, rfl, rfl, id, rfl⟩, ⟨_, _, rfl, rfl, rfl, rfl, id, rfl⟩, ⟨_, _, rfl, rfl, rfl, rfl, id, rfl⟩, ⟨_, _, rfl, rfl, rfl, rfl, id, rfl⟩, ⟨_, _, rfl, rfl, rfl, rfl, id, rfl⟩, ⟨_, _, rfl, rfl, rfl, rfl, id, rfl⟩, ⟨_, _, rfl, rfl, rfl, rfl, id, rfl⟩, ⟨_, _, rfl, rfl, rfl, rfl, id, rfl⟩, ⟨_, _, rfl, rfl, rfl, rfl, id, rfl⟩, ⟨_, _, rfl, rfl, rfl, rfl, id, rfl⟩, ⟨_, _, rfl, rfl, rfl, rfl, id, rfl⟩, ⟨_, _, rfl, rfl, rfl, rfl, id, rfl⟩, ⟨_, _, rfl, rfl, rfl, rfl, id, rfl⟩, ⟨_, _, rfl, rfl, rfl, rfl, id, rfl⟩, ⟨_, _, rfl, rfl, rfl, rfl, id, rfl⟩, ⟨_, _, rfl, rfl, rfl, rfl, id, rfl⟩, ⟨_, _, rfl, rfl, offC_ren _ o (rowsC_flat (fun _ => rfl) l), rfl, id, offC_nm _ o (rowsC_flat (fun _ => rfl) l)⟩, trivial⟩⟩
  ·simp only [decide_eq_false_iff_not] at hc37
   refine .exit ?_
   show Ev _ _ _ _ _
   refine .seq ?_
   refine .region ?_
   refine .q (op_assign rfl) trivial rfl ?_
   refine .nil ?_
   show Ev _ _ _ _ _
   refine .ret ?_
   show RetOk _ _ _ _ _ _ _
   exact ret1v rfl (.inl rfl) rfl (rfl) trivial
 ·simp only [decide_eq_false_iff_not] at hg34
  refine .no ⟨_, rfl, rfl⟩ rfl ?_
  refine .no ⟨_, rfl, rfl⟩ rfl ?_
  refine .q (op_pick_false rfl rfl rfl) trivial rfl ?_
  refine .nil ?_
  show Ev _ _ _ _ _
  refine .cond_false rfl rfl ?_
  refine .exit ?_
  show Ev _ _ _ _ _
  refine .seq ?_
  refine .region ?_
  refine .q (op_assign rfl) trivial rfl ?_
  refine .nil ?_
  show Ev _ _ _ _ _
  refine .ret ?_
  show RetOk _ _ _ _ _ _ _
  exact ret1v rfl (.inl rfl) rfl (rfl) trivial
end Go.Proofs.YtpmambceojbkaaaDoor
namespace Go.Proofs.YtpmambceojbkaaaDoor
open Go.ChangeShapes Go.WideShapes Go.ChangeAt Go.RowKit
set_option maxRecDepth 100000 in
theorem leaseOne_all {H : Type} {enc : TypeId × Value → H} {u v : Value} {du d : DataW H} {pu ps : List MemPlace} (W : World) {b0 : Nat} (hu : Value.okWide Tryd.prog W .any b0 26 u) (hv : Value.okWide Tryd.prog W .any b0 27 v)
  (htu : DataW.Trod enc Tryd.prog W 0 (fun _ => true) true 26 u du pu) (ht : DataW.Trod enc Tryd.prog W 0 (fun _ => true) true 27 v d ps) (h : laidMet Tryd.prog Rows.leaseOneRow.laid W) :
  Calls Tryd.prog 5 #[u, v] W fun e W' => e = .returned (.bool true) ∧ Below W.heap.size W W' := by
 obtain ⟨eo, hd, hkn⟩ := laid_errs h
 have c5 : Tryd.prog.cellsOf 37 = 5 := by kernel_rfl
 have c3 : Tryd.prog.cellsOf 26 = 3 := by kernel_rfl
 have ci : Tryd.prog.cellsOf 3 = 1 := by kernel_rfl
 have cs_ : Tryd.prog.cellsOf 9 = 1 := by kernel_rfl
 obtain ⟨ca, cb, cc, hc⟩ := config_arg (P := Tryd.prog) (W := W) Tryd.underlying26 rfl rfl rfl rfl rfl rfl Tryd.underlying3 c3 ci hu htu
 obtain ⟨l, b, o, hl, hr, hb⟩ := actl_arg (P := Tryd.prog) (W := W) (eo := eo) Tryd.underlying27 Tryd.underlying37 c5 rfl rfl rfl rfl rfl rfl rfl rfl rfl rfl Tryd.underlying3 Tryd.underlying9 ci cs_ hv ht (blk_of hkn)
 refine walk_of_meets_at (argE W eo b) (argE_glob _ _ _) (argE_top _ _ _) (leaseOne_ev eo hd ca cb cc o l hl) rfl (fun i x y hx hy => ?_) (known.spec (known_app (known.mono (argE_le W eo b) hkn) ⟨⟨rfl, b, sizeAt W b, argE_450 W eo b, hb⟩, trivial⟩))
 match i, hx, hy with
 | 0, hx, hy => injection hx with hx; injection hy with hy; subst hx; subst hy; exact hc _
 | 1, hx, hy => injection hx with hx; injection hy with hy; subst hx; subst hy; exact hr
 | i + 2, hx, _ => simp at hx
end Go.Proofs.YtpmambceojbkaaaDoor
