/-
  Texts of this claim.
-/
import Derived.Test.YtdmlpblaelfdmaaGreatDoorGOGP
import Derived.Test.YtdmlpblaelfdmaaGreatDoorGXHP
namespace Go.Proofs.YtdmlpblaelfdmaaGreatDoor
open Go.RowKit
set_option maxHeartbeats 2000000 in
set_option maxRecDepth 100000 in
theorem kexHashes_ev (e ek ty : Nat) (l0 l1 i0 i1 h p0 p1 sec : List UInt8) (hl0 : l0.length ≤ maxLen) (hl1 : l1.length ≤ maxLen) (hi0 : i0.length ≤ maxLen) (hi1 : i1.length ≤ maxLen) (hh : h.length ≤ maxLen) (hp0 : p0.length = 32) (hp1 : p1.length = 32) (hsec : sec.length = 32) (eo : Nat → Nat × Nat) (hd : ∀ i j, i < 20 → j < 20 → i ≠ j → eo i ≠ eo j) : Meets Tryz.prog 7 [exC l0 l1 i0 i1 h p0 p1 sec] [(23, some ⟨.agg64 primeL, e, false⟩), (21, some ⟨.agg32 K256, ek, false⟩), (20, some ⟨hndE, ty, false⟩), (2, some ⟨.agg [.err 269 (1) (offE eo (1))], errT, false⟩), (0, some ⟨.agg [.err 269 (2) (offE eo (2))], errT, false⟩), (3, some ⟨.agg [.err 269 (3) (offE eo (3))], errT, false⟩), (1, some ⟨.agg [.err 269 (4) (offE eo (4))], errT, false⟩), (4, some ⟨.agg [.err 269 (5) (offE eo (5))], errT, false⟩), (5, some ⟨.agg [.err 269 (6) (offE eo (6))], errT, false⟩), (6, some ⟨.agg [.err 269 (7) (offE eo (7))], errT, false⟩), (7, some ⟨.agg [.err 269 (8) (offE eo (8))], errT, false⟩), (8, some ⟨.agg [.err 269 (9) (offE eo (9))], errT, false⟩), (9, some ⟨.agg [.err 269 (10) (offE eo (10))], errT, false⟩), (10, some ⟨.agg [.err 269 (11) (offE eo (11))], errT, false⟩), (11, some ⟨.agg [.err 269 (12) (offE eo (12))], errT, false⟩), (12, some ⟨.agg [.err 269 (13) (offE eo (13))], errT, false⟩), (13, some ⟨.agg [.err 269 (14) (offE eo (14))], errT, false⟩), (14, some ⟨.agg [.err 269 (15) (offE eo (15))], errT, false⟩), (15, some ⟨.agg [.err 269 (16) (offE eo (16))], errT, false⟩), (16, some ⟨.agg [.err 269 (17) (offE eo (17))], errT, false⟩), (17, some ⟨.agg [.err 269 (18) (offE eo (18))], errT, false⟩), (18, some ⟨.agg [.err 269 (19) (offE eo (19))], errT, false⟩), (19, some ⟨.agg [.err 269 (20) (offE eo (20))], errT, false⟩), (401, some ⟨.agg [], errT, false⟩), (402, some ⟨.agg [], errT, false⟩), (403, some ⟨.agg [], errT, false⟩), (404, some ⟨.agg [], errT, false⟩), (405, some ⟨.agg [], errT, false⟩), (406, some ⟨.agg [], errT, false⟩), (407, some ⟨.agg [], errT, false⟩), (408, some ⟨.agg [], errT, false⟩), (409, some ⟨.agg [], errT, false⟩), (410, some ⟨.agg [], errT, false⟩), (411, some ⟨.agg [], errT, false⟩), (412, some ⟨.agg [], errT, false⟩), (413, some ⟨.agg [], errT, false⟩), (414, some ⟨.agg [], errT, false⟩), (415, some ⟨.agg [], errT, false⟩), (416, some ⟨.agg [], errT, false⟩), (417, some ⟨.agg [], errT, false⟩), (418, some ⟨.agg [], errT, false⟩), (419, some ⟨.agg [], errT, false⟩), (420, some ⟨.agg [], errT, false⟩)] (.bool true) [] := by
 obtain ⟨X, hX⟩ : ∃ X, hshP (l0.take 60) (l1.take 60) (i0.take 100) (i1.take 100) (h.take 60) p0 p1 sec = X := ⟨_, rfl⟩
 have hXl : X.length = 32 := by rw [← hX]; exact length_hshP _ _ _ _ _ _ _ _
 refine meets_of_ev (nt := 32) Tryz.func7 rfl rfl (Nat.le_of_ble_eq_true rfl) ?_
 refine .seq ?_
 refine .region ?_
 refine .a (op_boxRow rfl rfl) trivial rfl ?_
 refine .q (op_assign rfl) trivial rfl ?_
 refine .nil ?_
 show Ev _ _ _ _ _
 refine .seq ?_
 refine .seq ?_
 refine .region ?_
 refine .q (op_call (U := []) [] [] (awake14_ev e ek ty eo hd) Tryz.func24 (by kernel_rfl) rfl rfl rfl (trivial) (⟨⟨_, _, rfl, rfl, rfl, rfl, (fun h => by cases h), rfl⟩, ⟨_, _, rfl, rfl, rfl, rfl, (fun h => by cases h), rfl⟩, ⟨_, _, rfl, rfl, rfl, rfl, (fun h => by cases h), rfl⟩, ⟨_, _, rfl, rfl, rfl, rfl, (fun h => by cases h), rfl⟩, ⟨_, _, rfl, rfl, rfl, rfl, (fun h => by cases h), rfl⟩, ⟨_, _, rfl, rfl, rfl, rfl, (fun h => by cases h), rfl⟩, ⟨_, _, rfl, rfl, rfl, rfl, (fun h => by cases h), rfl⟩, ⟨_, _, rfl, rfl, rfl, rfl, (fun h => by cases h), rfl⟩, ⟨_, _, rfl, rfl, rfl, rfl, (fun h => by cases h), rfl⟩, ⟨_, _, rfl, rfl, rfl, rfl, (fun h => by cases h), rfl⟩, ⟨_, _, rfl, rfl, rfl, rfl, (fun h => by cases h), rfl⟩, ⟨_, _, rfl, rfl, rfl, rfl, (fun h => by cases h), rfl⟩, ⟨_, _, rfl, rfl, rfl, rfl, (fun h => by cases h), rfl⟩, ⟨_, _, rfl, rfl, rfl, rfl, (fun h => by cases h), rfl⟩, ⟨_, _, rfl, rfl, rfl, rfl, (fun h => by cases h), rfl⟩, ⟨_, _, rfl, rfl, rfl, rfl, (fun h => by cases h), rfl⟩, ⟨_, _, rfl, rfl, rfl, rfl, (fun h => by cases h), rfl⟩, ⟨_, _, rfl, rfl, rfl, rfl, (fun h => by cases h), rfl⟩, ⟨_, _, rfl, rfl, rfl, rfl, (fun h => by cases h), rfl⟩, ⟨_, _, rfl, rfl, rfl, rfl, (fun h => by cases h), rfl⟩, ⟨_, _, rfl, rfl, rfl, rfl, (fun h => by cases h), rfl⟩, ⟨_, _, rfl, rfl, rfl, rfl, (fun h => by cases h), rfl⟩, ⟨_, _, rfl, rfl, rfl, rfl, (fun h => by cases h), rfl⟩, ⟨_, _, rfl, rfl, rfl, rfl, (fun h => by cases h), rfl⟩, ⟨_, _, rfl, rfl, rfl, rfl, (fun h => by cases h), rfl⟩, ⟨_, _, rfl, rfl, rfl, rfl, (fun h => by cases h), rfl⟩, ⟨_, _, rfl, rfl, rfl, rfl, (fun h => by cases h), rfl⟩, ⟨_, _, rfl, rfl, rfl, rfl, (fun h => by cases h), rfl⟩, ⟨_, _, rfl, rfl, rfl, rfl, (fun h => by cases h), rfl⟩, ⟨_, _, rfl, rfl, rfl, rfl, (fun h => by cases h), rfl⟩, ⟨_, _, rfl, rfl, rfl, rfl, (fun h => by cases h), rfl⟩, ⟨_, _, rfl, rfl, rfl, rfl, (fun h => by cases h), rfl⟩, ⟨_, _, rfl, rfl, rfl, rfl, (fun h => by cases h), rfl⟩, ⟨_, _, rfl, rfl, rfl, rfl, (fun h => by cases h), rfl⟩, ⟨_, _, rfl, rfl, rfl, rfl, (fun h => by cases h), rfl⟩, ⟨_, _, rfl, rfl, rfl, rfl, (fun h => by cases h), rfl⟩, ⟨_, _, rfl, rfl, rfl, rfl, (fun h => by cases h), rfl⟩, ⟨_, _, rfl, rfl, rfl, rfl, (fun h => by cases h), rfl⟩, ⟨_, _, rfl, rfl, rfl, rfl, (fun h => by cases h), rfl⟩, ⟨_, _, rfl, rfl, rfl, rfl, (fun h => by cases h), rfl⟩, ⟨_, _, rfl, rfl, rfl, rfl, (fun h => by cases h), rfl⟩, ⟨_, _, rfl, rfl, rfl, rfl, (fun h => by cases h), rfl⟩, ⟨_, _, rfl, rfl, rfl, rfl, (fun h => by cases h), rfl⟩, trivial⟩) (trivial) (⟨(fun h => by cases h), (fun h => by cases h), (fun h => by cases h), (fun h => by cases h), (fun h => by cases h), (fun h => by cases h), (fun h => by cases h), (fun h => by cases h), (fun h => by cases h), (fun h => by cases h), (fun h => by cases h), (fun h => by cases h), (fun h => by cases h), (fun h => by cases h), (fun h => by cases h), (fun h => by cases h), (fun h => by cases h), (fun h => by cases h), (fun h => by cases h), (fun h => by cases h), (fun h => by cases h), (fun h => by cases h), (fun h => by cases h), (fun h => by cases h), (fun h => by cases h), (fun h => by cases h), (fun h => by cases h), (fun h => by cases h), (fun h => by cases h), (fun h => by cases h), (fun h => by cases h), (fun h => by cases h), (fun h => by cases h), (fun h => by cases h), (fun h => by cases h), (fun h => by cases h), (fun h => by cases h), (fun h => by cases h), (fun h => by cases h), (fun h => by cases h), (fun h => by cases h), (fun h => by cases h), (fun h => by cases h), trivial⟩) rfl) trivial rfl ?_
 refine .q (op_notB rfl) trivial rfl ?_
 refine .nil ?_
 show Ev _ _ _ _ _
 refine .cond_false rfl (rfl) ?_
 refine .skip ?_
 show Ev _ _ _ _ _
 refine .seq ?_
 refine .region ?_
 refine .q (op_loadRow Tryz.underlying60 rfl (by kernel_rfl) rfl rfl rfl (rfl)) trivial rfl ?_
 refine .q (op_call (U := []) [] [] (few14_ev l0 l1 i0 i1 h p0 p1 sec hl0 hl1 hi0 hi1 hh) Tryz.func25 (by kernel_rfl) rfl rfl rfl (⟨⟨_, rfl, rfl, rfl⟩, trivial⟩) (trivial) (trivial) (trivial) rfl) trivial rfl ?_
 refine .w (op_storeRow (by kernel_rfl) rfl rfl rfl rfl rfl (rfl) (rfl)) trivial rfl ?_
 refine .nil ?_
 show Ev _ _ _ _ _
 refine .seq ?_
 refine .region ?_
 refine .q (op_loadRow Tryz.underlying60 rfl (by kernel_rfl) rfl rfl rfl (rfl)) trivial rfl ?_
 refine .q (op_call (U := []) [] [] (hash_ev (l0.take 60) (l1.take 60) (i0.take 100) (i1.take 100) (h.take 60) p0 p1 sec ek (by simp only [List.length_take]; omega) (by simp only [List.length_take]; omega) (by simp only [List.length_take]; omega) (by simp only [List.length_take]; omega) (by simp only [List.length_take]; omega) hp0 hp1 hsec) Tryz.func26 (by kernel_rfl) rfl rfl rfl (⟨⟨_, rfl, rfl, rfl⟩, trivial⟩) (⟨⟨_, _, rfl, rfl, rfl, rfl, (fun h => by cases h), rfl⟩, trivial⟩) (trivial) (⟨(fun h => by cases h), trivial⟩) rfl) trivial rfl ?_
 refine .as (.aggB X) (congrArg AV.aggB hX) ?_
 refine .a (op_allocRow zero24 rel_zero24 rfl) trivial rfl ?_
 refine .w (op_storeRow sz24 rfl rfl rfl rfl rfl (by first | exact List.length_replicate | exact hXl) (by first | exact List.length_replicate | exact hXl)) trivial rfl ?_
 refine .nil ?_
 show Ev _ _ _ _ _
 refine .seq ?_
 refine .drawn [[], [0], [], [2], [], [4], [], [6], [], [8], [8, 9], [8, 9, 10], [], [12], [12, 13], [12, 13, 14], [8, 9, 10, 11, 12, 13, 14, 15], [], [17], [17, 18], [2, 3, 4, 5, 6, 7, 8, 9, 10, 11, 12, 13, 14, 15, 16, 17, 18, 19], [0, 1, 2, 3, 4, 5, 6, 7, 8, 9, 10, 11, 12, 13, 14, 15, 16, 17, 18, 19, 20], [0, 1, 2, 3, 4, 5, 6, 7, 8, 9, 10, 11, 12, 13, 14, 15, 16, 17, 18, 19, 20, 21]] [0, 1, 3, 5, 7, 10, 11, 14, 15, 16, 18, 19, 20] [] (by kernel_rfl) (by kernel_rfl) rfl ?_
 show DK _ [0, 1, 2, 3, 4, 5, 6, 7, 8, 9, 10, 11, 12, 13, 14, 15, 16, 17, 18, 19, 20, 21, 22] _ _ _
 refine .q rfl (ap_slice_arr_hi Tryz.underlying24 inf5.sz rfl rfl (by first | decide | (show 0 + 32 * 1 ≤ X.length; omega) | omega) (by decide) rfl (by first | decide | (show 0 + 32 * 1 ≤ X.length; omega) | omega)) trivial ?_
 refine .as (.sl 1008 0 X.length 1) (slice_as2 rfl (by omega)) ?_
 refine .q rfl (op_bytes_str Tryz.underlying33 Tryz.underlying5 Tryz.underlying9 rfl rfl rfl (by omega)) trivial ?_
 refine .as (.str X) (congrArg AV.str (by simp)) ?_
 refine .q rfl (op_fieldAddr (m := 1) Tryz.underlying60 rfl (by kernel_rfl) rfl) trivial ?_
 refine .as (.ptr 1000 0) rfl ?_
 refine .q rfl (ap_slice_arr_hi Tryz.underlying57 inf9.sz rfl rfl (by first | decide | (show 0 + 2 * 1 ≤ 101; decide)) (by decide) rfl (by first | decide | (show 0 + 2 * 1 ≤ 101; decide))) trivial ?_
 refine .as (.sl 1000 0 2 1) rfl ?_
 refine .q rfl (op_fieldAddr (m := 1) Tryz.underlying60 rfl (by kernel_rfl) rfl) trivial ?_
 refine .as (.ptr 1000 2) rfl ?_
 refine .q rfl (ap_slice_arr_hi Tryz.underlying57 inf9.sz rfl rfl (by first | decide | (show 2 + 2 * 1 ≤ 101; decide)) (by decide) rfl (by first | decide | (show 2 + 2 * 1 ≤ 101; decide))) trivial ?_
 refine .as (.sl 1000 2 2 1) rfl ?_
 refine .q rfl (op_fieldAddr (m := 0) Tryz.underlying60 rfl (by kernel_rfl) rfl) trivial ?_
 refine .as (.ptr 1000 4) rfl ?_
 refine .q rfl (op_load Tryz.underlying9 rfl rfl rfl rfl (by show 4 < 101; decide)) trivial ?_
 refine .as (.str (h.take 60)) rfl ?_
 refine .q rfl (op_fieldAddr (m := 63) Tryz.underlying60 rfl (by kernel_rfl) rfl) trivial ?_
 refine .as (.ptr 1000 5) rfl ?_
 refine .q rfl (op_indexAddr_arr (i := 0) Tryz.underlying58 sz24 rfl rfl rfl (by decide)) trivial ?_
 refine .as (.ptr 1000 5) rfl ?_
 refine .q rfl (ap_slice_arr_hi Tryz.underlying24 inf5.sz rfl rfl (by first | decide | (show 5 + 32 * 1 ≤ 101; decide)) (by decide) rfl (by first | decide | (show 5 + 32 * 1 ≤ 101; decide))) trivial ?_
 refine .as (.sl 1000 5 p0.length 1) (slice_as2 rfl hp0.symm) ?_
 refine .q rfl (op_bytes_strX (l := p0) Tryz.underlying33 Tryz.underlying5 Tryz.underlying9 rfl rfl (by omega) (by rw [hp0, ← kX_eq hp0]; rfl)) trivial ?_
 refine .q rfl (op_fieldAddr (m := 63) Tryz.underlying60 rfl (by kernel_rfl) rfl) trivial ?_
 refine .as (.ptr 1000 5) rfl ?_
 refine .q rfl (op_indexAddr_arr (i := 1) Tryz.underlying58 sz24 rfl rfl rfl (by decide)) trivial ?_
 refine .as (.ptr 1000 37) rfl ?_
 refine .q rfl (ap_slice_arr_hi Tryz.underlying24 inf5.sz rfl rfl (by first | decide | (show 37 + 32 * 1 ≤ 101; decide)) (by decide) rfl (by first | decide | (show 37 + 32 * 1 ≤ 101; decide))) trivial ?_
 refine .as (.sl 1000 37 p1.length 1) (slice_as2 rfl hp1.symm) ?_
 refine .q rfl (op_bytes_strX (l := p1) Tryz.underlying33 Tryz.underlying5 Tryz.underlying9 rfl rfl (by omega) (by rw [hp1, ← kX_eq hp1]; rfl)) trivial ?_
 refine .a rfl (ap_build (us := [.str p0, .str p1]) (c := .aggS [p0, p1]) Tryz.underlying54 inf9 rfl (by decide) (by decide) ⟨rfl, rfl, rfl, rfl, rfl, rfl, trivial⟩ rfl) trivial rfl rfl ?_
 refine .q rfl (op_fieldAddr (m := 31) Tryz.underlying60 rfl (by kernel_rfl) rfl) trivial ?_
 refine .as (.ptr 1000 69) rfl ?_
 refine .q rfl (ap_slice_arr_hi Tryz.underlying24 inf5.sz rfl rfl (by first | decide | (show 69 + 32 * 1 ≤ 101; decide)) (by decide) rfl (by first | decide | (show 69 + 32 * 1 ≤ 101; decide))) trivial ?_
 refine .as (.sl 1000 69 sec.length 1) (slice_as2 rfl hsec.symm) ?_
 refine .q rfl (op_bytes_strX (l := sec) Tryz.underlying33 Tryz.underlying5 Tryz.underlying9 rfl rfl (by omega) (by rw [hsec, ← kX_eq hsec]; rfl)) trivial ?_
 refine .q rfl (op_call (U := []) [(500, 1000), (501, 1144)] [] (rhash14_ev (l0.take 60) (l1.take 60) (i0.take 100) (i1.take 100) (h.take 60) p0 p1 sec 60 9 (by simp only [List.length_take]; omega) (by simp only [List.length_take]; omega) (by simp only [List.length_take]; omega) (by simp only [List.length_take]; omega) (by simp only [List.length_take]; omega) hp0 hp1 hsec) Tryz.func27 (by kernel_rfl) rfl rfl rfl (⟨⟨_, rfl, rfl, rfl⟩, ⟨_, rfl, rfl, rfl⟩, ⟨_, rfl, rfl, rfl⟩, ⟨_, rfl, rfl, rfl⟩, ⟨_, rfl, rfl, rfl⟩, trivial⟩) (⟨⟨_, _, rfl, rfl, rfl, rfl, (fun h => by cases h), rfl⟩, ⟨_, ⟨.aggS [p0, p1], 9, true⟩, rfl, by kernel_rfl, rfl, rfl, (fun h => by cases h), rfl⟩, trivial⟩) (trivial) (⟨(fun h => by cases h), (fun h => by cases h), trivial⟩) rfl) trivial ?_
 refine .as (.str X) (congrArg AV.str hX) ?_
 refine .q rfl (op_eqS rfl rfl rfl) trivial ?_
 refine .as (.bool true) (congrArg AV.bool (beq_self_eq_true _)) ?_
 refine .q rfl (op_assign rfl) trivial ?_
 refine .nil ?_
 show Ev _ _ _ _ _
 refine .ret ?_
 show RetOk _ _ _ _ _ _ _
 exact ret1v rfl (.inl rfl) rfl rfl trivial
end Go.Proofs.YtdmlpblaelfdmaaGreatDoor
