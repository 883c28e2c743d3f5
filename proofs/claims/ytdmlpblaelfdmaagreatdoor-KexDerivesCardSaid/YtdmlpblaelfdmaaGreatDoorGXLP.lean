/-
  Texts of this claim.
-/
import Derived.Test.YtdmlpblaelfdmaaGreatDoorGOGP
import Derived.Test.YtdmlpblaelfdmaaGreatDoorGXHP
namespace Go.Proofs.YtdmlpblaelfdmaaGreatDoor
open Go.RowKit
theorem derP_zero (sec hash sid : List UInt8) (c : UInt8) : derP sec hash sid c 0 = [] := by unfold derP; rw [List.take_zero]
set_option maxHeartbeats 2000000 in
set_option maxRecDepth 100000 in
theorem kexDerives_ev (e ek ty : Nat) (sec hash : List UInt8) (n : Int) (hs : sec.length = 32) (hh : hash.length = 32) (eo : Nat → Nat × Nat) (hd : ∀ i j, i < 20 → j < 20 → i ≠ j → eo i ≠ eo j) : Meets Tryz.prog 8 [.aggB sec, .aggB hash, .i64 n] [(23, some ⟨.agg64 primeL, e, false⟩), (21, some ⟨.agg32 K256, ek, false⟩), (20, some ⟨hndE, ty, false⟩), (2, some ⟨.agg [.err 269 (1) (offE eo (1))], errT, false⟩), (0, some ⟨.agg [.err 269 (2) (offE eo (2))], errT, false⟩), (3, some ⟨.agg [.err 269 (3) (offE eo (3))], errT, false⟩), (1, some ⟨.agg [.err 269 (4) (offE eo (4))], errT, false⟩), (4, some ⟨.agg [.err 269 (5) (offE eo (5))], errT, false⟩), (5, some ⟨.agg [.err 269 (6) (offE eo (6))], errT, false⟩), (6, some ⟨.agg [.err 269 (7) (offE eo (7))], errT, false⟩), (7, some ⟨.agg [.err 269 (8) (offE eo (8))], errT, false⟩), (8, some ⟨.agg [.err 269 (9) (offE eo (9))], errT, false⟩), (9, some ⟨.agg [.err 269 (10) (offE eo (10))], errT, false⟩), (10, some ⟨.agg [.err 269 (11) (offE eo (11))], errT, false⟩), (11, some ⟨.agg [.err 269 (12) (offE eo (12))], errT, false⟩), (12, some ⟨.agg [.err 269 (13) (offE eo (13))], errT, false⟩), (13, some ⟨.agg [.err 269 (14) (offE eo (14))], errT, false⟩), (14, some ⟨.agg [.err 269 (15) (offE eo (15))], errT, false⟩), (15, some ⟨.agg [.err 269 (16) (offE eo (16))], errT, false⟩), (16, some ⟨.agg [.err 269 (17) (offE eo (17))], errT, false⟩), (17, some ⟨.agg [.err 269 (18) (offE eo (18))], errT, false⟩), (18, some ⟨.agg [.err 269 (19) (offE eo (19))], errT, false⟩), (19, some ⟨.agg [.err 269 (20) (offE eo (20))], errT, false⟩), (401, some ⟨.agg [], errT, false⟩), (402, some ⟨.agg [], errT, false⟩), (403, some ⟨.agg [], errT, false⟩), (404, some ⟨.agg [], errT, false⟩), (405, some ⟨.agg [], errT, false⟩), (406, some ⟨.agg [], errT, false⟩), (407, some ⟨.agg [], errT, false⟩), (408, some ⟨.agg [], errT, false⟩), (409, some ⟨.agg [], errT, false⟩), (410, some ⟨.agg [], errT, false⟩), (411, some ⟨.agg [], errT, false⟩), (412, some ⟨.agg [], errT, false⟩), (413, some ⟨.agg [], errT, false⟩), (414, some ⟨.agg [], errT, false⟩), (415, some ⟨.agg [], errT, false⟩), (416, some ⟨.agg [], errT, false⟩), (417, some ⟨.agg [], errT, false⟩), (418, some ⟨.agg [], errT, false⟩), (419, some ⟨.agg [], errT, false⟩), (420, some ⟨.agg [], errT, false⟩)] (.bool true) [] := by
 obtain ⟨sid, hsid⟩ : ∃ sid, hash.set 0 (hash.getD 0 0 ^^^ sec.getD 0 0) = sid := ⟨_, rfl⟩
 have hi : sid.length = 32 := by rw [← hsid, List.length_set]; exact hh
 obtain ⟨m, hm⟩ : ∃ m : Nat, ((m : Nat) : Int) = max 0 (min n 200) := ⟨(max 0 (min n 200)).toNat, by omega⟩
 have hm2 : m ≤ 200 := by omega
 obtain ⟨c, hc⟩ : ∃ c, ofI8 (65 + ((m : Nat) : Int).tmod 6) = c := ⟨_, rfl⟩
 obtain ⟨D, hD⟩ : ∃ D, derP sec hash sid c m = D := ⟨_, rfl⟩
 obtain ⟨k0, hk0⟩ : ∃ k, derP sec hash sid 67 32 = k := ⟨_, rfl⟩
 obtain ⟨k1, hk1⟩ : ∃ k, derP sec hash sid 68 32 = k := ⟨_, rfl⟩
 have lk0 : k0.length = 32 := by rw [← hk0]; exact length_derP _ _ _ _ _ (by decide)
 have lk1 : k1.length = 32 := by rw [← hk1]; exact length_derP _ _ _ _ _ (by decide)
 refine meets_of_ev (nt := 86) Tryz.func8 rfl rfl (Nat.le_of_ble_eq_true rfl) ?_
 refine .seq ?_
 refine .region ?_
 refine .a (op_boxRow rfl rfl) trivial rfl ?_
 refine .a (op_boxRow rfl rfl) trivial rfl ?_
 refine .q (op_assign rfl) trivial rfl ?_
 refine .nil ?_
 show Ev _ _ _ _ _
 refine .seq ?_
 refine .seq ?_
 refine .region ?_
 refine .q (op_call (U := []) [] [] (awake14_ev e ek ty eo hd) Tryz.func24 (by kernel_rfl) rfl rfl rfl (trivial) (⟨⟨_, _, rfl, rfl, rfl, rfl, (fun h => by cases h), rfl⟩, ⟨_, _, rfl, rfl, rfl, rfl, (fun h => by cases h), rfl⟩, ⟨_, _, rfl, rfl, rfl, rfl, (fun h => by cases h), rfl⟩, ⟨_, _, rfl, rfl, rfl, rfl, (fun h => by cases h), rfl⟩, ⟨_, _, rfl, rfl, rfl, rfl, (fun h => by cases h), rfl⟩, ⟨_, _, rfl, rfl, rfl, rfl, (fun h => by cases h), rfl⟩, ⟨_, _, rfl, rfl, rfl, rfl, (fun h => by cases h), rfl⟩, ⟨_, _, rfl, rfl, rfl, rfl, (fun h => by cases h), rfl⟩, ⟨_, _, rfl, rfl, rfl, rfl, (fun h => by cases h), rfl⟩, ⟨_, _, rfl, rfl, rfl, rfl, (fun h => by cases h), rfl⟩, ⟨_, _, rfl, rfl, rfl, rfl, (fun h => by cases h), rfl⟩, ⟨_, _, rfl, rfl, rfl, rfl, (fun h => by cases h), rfl⟩, ⟨_, _, rfl, rfl, rfl, rfl, (fun h => by cases h), rfl⟩, ⟨_, _, rfl, rfl, rfl, rfl, (fun h => by cases h), rfl⟩, ⟨_, _, rfl, rfl, rfl, rfl, (fun h => by cases h), rfl⟩, ⟨_, _, rfl, rfl, rfl, rfl, (fun h => by cases h), rfl⟩, ⟨_, _, rfl, rfl, rfl, rfl, (fun h => by cases h), rfl⟩, ⟨_, _, rfl, rfl, rfl, rfl, (fun h => by cases h), rfl⟩, ⟨_, _, rfl, rfl, rfl, rfl, (fun h => by cases h), rfl⟩, ⟨_, _, rfl, rfl, rfl, rfl, (fun h => by cases h), rfl⟩, ⟨_, _, rfl, rfl, rfl, rfl, (fun h => by cases h), rfl⟩, ⟨_, _, rfl, rfl, rfl, rfl, (fun h => by cases h), rfl⟩, ⟨_, _, rfl, rfl, rfl, rfl, (fun h => by cases h), rfl⟩, ⟨_, _, rfl, rfl, rfl, rfl, (fun h => by cases h), rfl⟩, ⟨_, _, rfl, rfl, rfl, rfl, (fun h => by cases h), rfl⟩, ⟨_, _, rfl, rfl, rfl, rfl, (fun h => by cases h), rfl⟩, ⟨_, _, rfl, rfl, rfl, rfl, (fun h => by cases h), rfl⟩, ⟨_, _, rfl, rfl, rfl, rfl, (fun h => by cases h), rfl⟩, ⟨_, _, rfl, rfl, rfl, rfl, (fun h => by cases h), rfl⟩, ⟨_, _, rfl, rfl, rfl, rfl, (fun h => by cases h), rfl⟩, ⟨_, _, rfl, rfl, rfl, rfl, (fun h => by cases h), rfl⟩, ⟨_, _, rfl, rfl, rfl, rfl, (fun h => by cases h), rfl⟩, ⟨_, _, rfl, rfl, rfl, rfl, (fun h => by cases h), rfl⟩, ⟨_, _, rfl, rfl, rfl, rfl, (fun h => by cases h), rfl⟩, ⟨_, _, rfl, rfl, rfl, rfl, (fun h => by cases h), rfl⟩, ⟨_, _, rfl, rfl, rfl, rfl, (fun h => by cases h), rfl⟩, ⟨_, _, rfl, rfl, rfl, rfl, (fun h => by cases h), rfl⟩, ⟨_, _, rfl, rfl, rfl, rfl, (fun h => by cases h), rfl⟩, ⟨_, _, rfl, rfl, rfl, rfl, (fun h => by cases h), rfl⟩, ⟨_, _, rfl, rfl, rfl, rfl, (fun h => by cases h), rfl⟩, ⟨_, _, rfl, rfl, rfl, rfl, (fun h => by cases h), rfl⟩, ⟨_, _, rfl, rfl, rfl, rfl, (fun h => by cases h), rfl⟩, ⟨_, _, rfl, rfl, rfl, rfl, (fun h => by cases h), rfl⟩, trivial⟩) (trivial) (⟨(fun h => by cases h), (fun h => by cases h), (fun h => by cases h), (fun h => by cases h), (fun h => by cases h), (fun h => by cases h), (fun h => by cases h), (fun h => by cases h), (fun h => by cases h), (fun h => by cases h), (fun h => by cases h), (fun h => by cases h), (fun h => by cases h), (fun h => by cases h), (fun h => by cases h), (fun h => by cases h), (fun h => by cases h), (fun h => by cases h), (fun h => by cases h), (fun h => by cases h), (fun h => by cases h), (fun h => by cases h), (fun h => by cases h), (fun h => by cases h), (fun h => by cases h), (fun h => by cases h), (fun h => by cases h), (fun h => by cases h), (fun h => by cases h), (fun h => by cases h), (fun h => by cases h), (fun h => by cases h), (fun h => by cases h), (fun h => by cases h), (fun h => by cases h), (fun h => by cases h), (fun h => by cases h), (fun h => by cases h), (fun h => by cases h), (fun h => by cases h), (fun h => by cases h), (fun h => by cases h), (fun h => by cases h), trivial⟩) rfl) trivial rfl ?_
 refine .q (op_notB rfl) trivial rfl ?_
 refine .nil ?_
 show Ev _ _ _ _ _
 refine .cond_false rfl (rfl) ?_
 refine .skip ?_
 show Ev _ _ _ _ _
 refine .seq ?_
 refine .region ?_
 refine .q (op_loadRow Tryz.underlying24 rfl sz24 rfl rfl rfl (by exact hh)) trivial rfl ?_
 refine .a (op_allocRow zero24 rel_zero24 rfl) trivial rfl ?_
 refine .w (op_storeRow sz24 rfl rfl rfl rfl rfl (by first | exact List.length_replicate | exact hh) (by first | exact List.length_replicate | exact hh)) trivial rfl ?_
 refine .nil ?_
 show Ev _ _ _ _ _
 refine .seq ?_
 refine .region ?_
 refine .q (ap_idx_arr Tryz.underlying24 inf5.sz rfl rfl (i := 0) rfl (by decide)) trivial rfl ?_
 refine .q (op_load Tryz.underlying5 rfl rfl rfl rfl (by show 0 < hash.length; omega)) trivial rfl ?_
 refine .q (ap_idx_arr Tryz.underlying24 inf5.sz rfl rfl (i := 0) rfl (by decide)) trivial rfl ?_
 refine .q (op_load Tryz.underlying5 rfl rfl rfl rfl (by show 0 < sec.length; omega)) trivial rfl ?_
 refine .q (op_bin8 rfl rfl rfl) trivial rfl ?_
 refine .q (ap_idx_arr Tryz.underlying24 inf5.sz rfl rfl (i := 0) rfl (by decide)) trivial rfl ?_
 refine .w (op_store inf5.sz rfl rfl rfl rfl rfl (by show 0 < hash.length; omega)) trivial rfl ?_
 refine .nil ?_
 show Ev _ _ _ _ _
 refine .seq ?_
 refine .region ?_
 refine .q (op_move rfl) trivial rfl ?_
 refine .q (op_minI rfl rfl) trivial rfl ?_
 refine .as (.i64 (min n 200)) rfl ?_
 refine .q (op_maxI rfl rfl) trivial rfl ?_
 refine .as (.i64 ((m : Nat) : Int)) (congrArg AV.i64 (by first | exact hm.symm | omega)) ?_
 refine .q (op_assign rfl) trivial rfl ?_
 refine .nil ?_
 show Ev _ _ _ _ _
 refine .seq ?_
 refine .region ?_
 refine .q (op_move rfl) trivial rfl ?_
 refine .q (op_remI rfl rfl ⟨by omega, by omega⟩) trivial rfl ?_
 refine .q (op_addI rfl rfl ⟨by omega, by omega⟩) trivial rfl ?_
 refine .q (op_conv Tryz.underlying3 Tryz.underlying5 rfl rfl) trivial rfl ?_
 refine .as (.u8 c) (congrArg AV.u8 hc) ?_
 refine .q (op_assign rfl) trivial rfl ?_
 refine .nil ?_
 show Ev _ _ _ _ _
 refine .seq ?_
 refine .region ?_
 refine .q (op_loadRow Tryz.underlying24 rfl sz24 rfl rfl rfl (by exact hs)) trivial rfl ?_
 refine .q (op_loadRow Tryz.underlying24 rfl sz24 rfl rfl rfl (by exact hh)) trivial rfl ?_
 refine .q (op_loadRow Tryz.underlying24 rfl sz24 rfl rfl rfl (by first | exact hi | (show (hash.set 0 (hash.getD 0 0 ^^^ sec.getD 0 0)).length = 32; rw [List.length_set]; exact hh))) trivial rfl ?_
 refine .as (.aggB sid) (congrArg AV.aggB hsid) ?_
 refine .q (op_move rfl) trivial rfl ?_
 refine .q (op_move rfl) trivial rfl ?_
 refine .q (op_call (U := []) [] [] (derive_ev sec hash sid c ((m : Nat) : Int) m ek hs hh hi (by omega)) Tryz.func28 (by kernel_rfl) rfl rfl rfl (⟨⟨_, rfl, rfl, rfl⟩, ⟨_, rfl, rfl, rfl⟩, ⟨_, rfl, rfl, rfl⟩, ⟨_, rfl, rfl, rfl⟩, ⟨_, rfl, rfl, rfl⟩, trivial⟩) (⟨⟨_, _, rfl, rfl, rfl, rfl, (fun h => by cases h), rfl⟩, trivial⟩) (trivial) (⟨(fun h => by cases h), trivial⟩) rfl) trivial rfl ?_
 refine .as (.str D) (congrArg AV.str hD) ?_
 refine .q (op_assign rfl) trivial rfl ?_
 refine .nil ?_
 show Ev _ _ _ _ _
 refine .seq ?_
 refine .seq ?_
 refine .region ?_
 refine .q (op_move rfl) trivial rfl ?_
 refine .q (op_cmpI rfl rfl rfl) trivial rfl ?_
 refine .q (op_move rfl) trivial rfl ?_
 refine .split (fun hg36 => ?_) (fun hg36 => ?_)
 ·skip
  refine .q (op_loadRow Tryz.underlying24 rfl sz24 rfl rfl rfl (by exact hs)) ⟨_, rfl, rfl⟩ rfl ?_
  refine .q (op_loadRow Tryz.underlying24 rfl sz24 rfl rfl rfl (by exact hh)) ⟨_, rfl, rfl⟩ rfl ?_
  refine .q (op_loadRow Tryz.underlying24 rfl sz24 rfl rfl rfl (by first | exact hi | (show (hash.set 0 (hash.getD 0 0 ^^^ sec.getD 0 0)).length = 32; rw [List.length_set]; exact hh))) ⟨_, rfl, rfl⟩ rfl ?_
  refine .as (.aggB sid) (congrArg AV.aggB hsid) ?_
  refine .q (op_move rfl) ⟨_, rfl, rfl⟩ rfl ?_
  refine .q (op_move rfl) ⟨_, rfl, rfl⟩ rfl ?_
  have hneg : n < 0 := by simpa using hg36
  refine .q (op_call (U := []) [] [] (derive_ev sec hash sid c n 0 ek hs hh hi (by omega)) Tryz.func28 (by kernel_rfl) rfl rfl rfl (⟨⟨_, rfl, rfl, rfl⟩, ⟨_, rfl, rfl, rfl⟩, ⟨_, rfl, rfl, rfl⟩, ⟨_, rfl, rfl, rfl⟩, ⟨_, rfl, rfl, rfl⟩, trivial⟩) (⟨⟨_, _, rfl, rfl, rfl, rfl, (fun h => by cases h), rfl⟩, trivial⟩) (trivial) (⟨(fun h => by cases h), trivial⟩) rfl) ⟨_, rfl, rfl⟩ rfl ?_
  have hneg : n < 0 := by simpa using hg36
  refine .as (.str []) (congrArg AV.str (derP_zero _ _ _ _)) ?_
  refine .q (op_eqS rfl rfl rfl) ⟨_, rfl, rfl⟩ rfl ?_
  refine .as (.bool false) rfl ?_
  refine .q (op_pick_true rfl rfl rfl) trivial rfl ?_
  refine .nil ?_
  show Ev _ _ _ _ _
  refine .cond_false rfl (rfl) ?_
  refine .skip ?_
  show Ev _ _ _ _ _
  refine .seq ?_
  refine .region ?_
  refine .q (op_loadRow Tryz.underlying24 rfl sz24 rfl rfl rfl (by exact hs)) trivial rfl ?_
  refine .q (op_loadRow Tryz.underlying24 rfl sz24 rfl rfl rfl (by exact hh)) trivial rfl ?_
  refine .q (op_loadRow Tryz.underlying24 rfl sz24 rfl rfl rfl (by first | exact hi | (show (hash.set 0 (hash.getD 0 0 ^^^ sec.getD 0 0)).length = 32; rw [List.length_set]; exact hh))) trivial rfl ?_
  refine .as (.aggB sid) (congrArg AV.aggB hsid) ?_
  refine .q (op_call (U := []) [] [] (keys_ev sec hash sid ek hs hh hi) Tryz.func29 (by kernel_rfl) rfl rfl rfl (⟨⟨_, rfl, rfl, rfl⟩, ⟨_, rfl, rfl, rfl⟩, ⟨_, rfl, rfl, rfl⟩, trivial⟩) (⟨⟨_, _, rfl, rfl, rfl, rfl, (fun h => by cases h), rfl⟩, trivial⟩) (trivial) (⟨(fun h => by cases h), trivial⟩) rfl) trivial rfl ?_
  refine .as (.aggB (k0 ++ k1)) (congrArg AV.aggB (by unfold keysP; rw [hk0, hk1])) ?_
  refine .a (op_allocRow zero58 rel_zero58 rfl) trivial rfl ?_
  refine .w (op_storeRow sz58 rfl rfl rfl rfl rfl (by first | exact List.length_replicate | (rw [List.length_append, lk0, lk1]) | (show (k0 ++ k1).length = 64; rw [List.length_append, lk0, lk1])) (by first | exact List.length_replicate | (rw [List.length_append, lk0, lk1]) | (show (k0 ++ k1).length = 64; rw [List.length_append, lk0, lk1]))) trivial rfl ?_
  refine .nil ?_
  show Ev _ _ _ _ _
  refine .seq ?_
  refine .drawn [[], [], [1], [], [3], [], [5], [], [], [1, 2, 3, 4, 5, 6, 7, 8], [0, 1, 2, 3, 4, 5, 6, 7, 8, 9], [0, 1, 2, 3, 4, 5, 6, 7, 8, 9, 10], [0, 1, 2, 3, 4, 5, 6, 7, 8, 9, 10, 11], [0, 1, 2, 3, 4, 5, 6, 7, 8, 9, 10, 11, 12], [0, 1, 2, 3, 4, 5, 6, 7, 8, 9, 10, 11, 12, 13], [0, 1, 2, 3, 4, 5, 6, 7, 8, 9, 10, 11], [0, 1, 2, 3, 4, 5, 6, 7, 8, 9, 10, 11, 15], [0, 1, 2, 3, 4, 5, 6, 7, 8, 9, 10, 11], [0, 1, 2, 3, 4, 5, 6, 7, 8, 9, 10, 11, 17], [0, 1, 2, 3, 4, 5, 6, 7, 8, 9, 10, 11], [0, 1, 2, 3, 4, 5, 6, 7, 8, 9, 10, 11, 19], [0, 1, 2, 3, 4, 5, 6, 7, 8, 9, 10, 11, 15, 16, 17, 18, 19, 20], [0, 1, 2, 3, 4, 5, 6, 7, 8, 9, 10, 11, 12, 13, 14, 15, 16, 17, 18, 19, 20, 21], [0, 1, 2, 3, 4, 5, 6, 7, 8, 9, 10, 11, 12, 13, 14, 15, 16, 17, 18, 19, 20, 21, 22], [0, 1, 2, 3, 4, 5, 6, 7, 8, 9, 10, 11, 12, 13, 14, 15, 16, 17, 18, 19, 20, 21, 22, 23], [0, 1, 2, 3, 4, 5, 6, 7, 8, 9, 10, 11, 12, 13, 14, 15, 16, 17, 18, 19, 20, 21, 22, 23, 24], [0, 1, 2, 3, 4, 5, 6, 7, 8, 9, 10, 11, 12, 13, 14, 15, 16, 17, 18, 19, 20, 21, 22, 23, 24, 25], [0, 1, 2, 3, 4, 5, 6, 7, 8, 9, 10, 11, 12, 13, 14, 15, 16, 17, 18, 19, 20, 21, 22, 23, 24, 25, 26], [0, 1, 2, 3, 4, 5, 6, 7, 8, 9, 10, 11, 12, 13, 14, 15, 16, 17, 18, 19, 20, 21, 22, 23, 24], [0, 1, 2, 3, 4, 5, 6, 7, 8, 9, 10, 11, 12, 13, 14, 15, 16, 17, 18, 19, 20, 21, 22, 23, 24, 28], [0, 1, 2, 3, 4, 5, 6, 7, 8, 9, 10, 11, 12, 13, 14, 15, 16, 17, 18, 19, 20, 21, 22, 23, 24], [0, 1, 2, 3, 4, 5, 6, 7, 8, 9, 10, 11, 12, 13, 14, 15, 16, 17, 18, 19, 20, 21, 22, 23, 24, 30], [0, 1, 2, 3, 4, 5, 6, 7, 8, 9, 10, 11, 12, 13, 14, 15, 16, 17, 18, 19, 20, 21, 22, 23, 24], [0, 1, 2, 3, 4, 5, 6, 7, 8, 9, 10, 11, 12, 13, 14, 15, 16, 17, 18, 19, 20, 21, 22, 23, 24, 32], [0, 1, 2, 3, 4, 5, 6, 7, 8, 9, 10, 11, 12, 13, 14, 15, 16, 17, 18, 19, 20, 21, 22, 23, 24, 28, 29, 30, 31, 32, 33], [0, 1, 2, 3, 4, 5, 6, 7, 8, 9, 10, 11, 12, 13, 14, 15, 16, 17, 18, 19, 20, 21, 22, 23, 24, 25, 26, 27, 28, 29, 30, 31, 32, 33, 34], [0, 1, 2, 3, 4, 5, 6, 7, 8, 9, 10, 11, 12, 13, 14, 15, 16, 17, 18, 19, 20, 21, 22, 23, 24, 25, 26, 27, 28, 29, 30, 31, 32, 33, 34, 35], [0, 1, 2, 3, 4, 5, 6, 7, 8, 9, 10, 11, 12, 13, 14, 15, 16, 17, 18, 19, 20, 21, 22, 23, 24, 25, 26, 27, 28, 29, 30, 31, 32, 33, 34, 35, 36]] [1, 2, 3, 4, 5, 6, 9, 13, 14, 15, 16, 17, 18, 19, 20, 21, 26, 27, 28, 29, 30, 31, 32, 33, 34] [] (by kernel_rfl) (by kernel_rfl) rfl ?_
  show DK _ [0, 1, 2, 3, 4, 5, 6, 7, 8, 9, 10, 11, 12, 13, 14, 15, 16, 17, 18, 19, 20, 21, 22, 23, 24, 25, 26, 27, 28, 29, 30, 31, 32, 33, 34, 35, 36, 37] _ _ _
  refine .q rfl (op_move rfl) trivial ?_
  refine .q rfl (ap_slice_arr_hi Tryz.underlying24 inf5.sz rfl rfl (by first | decide | (show 0 + 32 * 1 ≤ sec.length; first | omega | (rw [List.length_set]; omega)) | omega) (by decide) rfl (by first | decide | (show 0 + 32 * 1 ≤ sec.length; first | omega | (rw [List.length_set]; omega)) | omega)) trivial ?_
  refine .as (.sl 1000 0 sec.length 1) (slice_as2 rfl (by first | omega | (rw [List.length_set]; omega))) ?_
  refine .q rfl (op_bytes_str Tryz.underlying33 Tryz.underlying5 Tryz.underlying9 rfl rfl rfl (by omega)) trivial ?_
  refine .as (.str sec) (congrArg AV.str (by first | (rw [List.drop_zero, List.take_length]; exact hsid) | (rw [List.drop_zero, List.take_length]))) ?_
  refine .q rfl (ap_slice_arr_hi Tryz.underlying24 inf5.sz rfl rfl (by first | decide | (show 0 + 32 * 1 ≤ hash.length; first | omega | (rw [List.length_set]; omega)) | omega) (by decide) rfl (by first | decide | (show 0 + 32 * 1 ≤ hash.length; first | omega | (rw [List.length_set]; omega)) | omega)) trivial ?_
  refine .as (.sl 1008 0 hash.length 1) (slice_as2 rfl (by first | omega | (rw [List.length_set]; omega))) ?_
  refine .q rfl (op_bytes_str Tryz.underlying33 Tryz.underlying5 Tryz.underlying9 rfl rfl rfl (by omega)) trivial ?_
  refine .as (.str hash) (congrArg AV.str (by first | (rw [List.drop_zero, List.take_length]; exact hsid) | (rw [List.drop_zero, List.take_length]))) ?_
  refine .q rfl (ap_slice_arr_hi Tryz.underlying24 inf5.sz rfl rfl (by first | decide | (show 0 + 32 * 1 ≤ (hash.set 0 (hash.getD 0 0 ^^^ sec.getD 0 0)).length; first | omega | (rw [List.length_set]; omega)) | omega) (by decide) rfl (by first | decide | (show 0 + 32 * 1 ≤ (hash.set 0 (hash.getD 0 0 ^^^ sec.getD 0 0)).length; first | omega | (rw [List.length_set]; omega)) | omega)) trivial ?_
  refine .as (.sl 1016 0 (hash.set 0 (hash.getD 0 0 ^^^ sec.getD 0 0)).length 1) (slice_as2 rfl (by first | omega | (rw [List.length_set]; omega))) ?_
  refine .q rfl (op_bytes_str Tryz.underlying33 Tryz.underlying5 Tryz.underlying9 rfl rfl rfl (by omega)) trivial ?_
  refine .as (.str sid) (congrArg AV.str (by first | (rw [List.drop_zero, List.take_length]; exact hsid) | (rw [List.drop_zero, List.take_length]))) ?_
  refine .q rfl (op_move rfl) trivial ?_
  refine .q rfl (op_move rfl) trivial ?_
  refine .q rfl (op_call (U := []) [] [] (rder14_ev sec hash sid c m hs hh hi (by omega)) Tryz.func30 (by kernel_rfl) rfl rfl rfl (⟨⟨_, rfl, rfl, rfl⟩, ⟨_, rfl, rfl, rfl⟩, ⟨_, rfl, rfl, rfl⟩, ⟨_, rfl, rfl, rfl⟩, ⟨_, rfl, rfl, rfl⟩, trivial⟩) (trivial) (trivial) (trivial) rfl) trivial ?_
  refine .as (.str D) (congrArg AV.str hD) ?_
  refine .q rfl (op_eqS rfl rfl rfl) trivial ?_
  refine .as (.bool true) (congrArg AV.bool (beq_self_eq_true _)) ?_
  refine .q rfl (op_move rfl) trivial ?_
  refine .know (b' := true) (rfl) ?_
  refine .q rfl (op_indexAddr_arr (i := 0) Tryz.underlying58 sz24 rfl rfl rfl (by decide)) ⟨_, rfl, rfl⟩ ?_
  refine .as (.ptr 1024 0) rfl ?_
  refine .q rfl (ap_slice_arr_hi Tryz.underlying24 inf5.sz rfl rfl (by first | decide | (show 0 + 32 * 1 ≤ (k0 ++ k1).length; rw [List.length_append]; omega)) (by decide) rfl (by first | decide | (show 0 + 32 * 1 ≤ (k0 ++ k1).length; rw [List.length_append]; omega))) ⟨_, rfl, rfl⟩ ?_
  refine .q rfl (op_bytes_str Tryz.underlying33 Tryz.underlying5 Tryz.underlying9 rfl rfl rfl (by rw [List.length_append]; omega)) ⟨_, rfl, rfl⟩ ?_
  refine .as (.str k0) (congrArg AV.str (by rw [List.drop_zero, List.take_left' lk0])) ?_
  refine .q rfl (ap_slice_arr_hi Tryz.underlying24 inf5.sz rfl rfl (by first | decide | (show 0 + 32 * 1 ≤ sec.length; first | omega | (rw [List.length_set]; omega)) | omega) (by decide) rfl (by first | decide | (show 0 + 32 * 1 ≤ sec.length; first | omega | (rw [List.length_set]; omega)) | omega)) ⟨_, rfl, rfl⟩ ?_
  refine .as (.sl 1000 0 sec.length 1) (slice_as2 rfl (by first | omega | (rw [List.length_set]; omega))) ?_
  refine .q rfl (op_bytes_str Tryz.underlying33 Tryz.underlying5 Tryz.underlying9 rfl rfl rfl (by omega)) ⟨_, rfl, rfl⟩ ?_
  refine .as (.str sec) (congrArg AV.str (by first | (rw [List.drop_zero, List.take_length]; exact hsid) | (rw [List.drop_zero, List.take_length]))) ?_
  refine .q rfl (ap_slice_arr_hi Tryz.underlying24 inf5.sz rfl rfl (by first | decide | (show 0 + 32 * 1 ≤ hash.length; first | omega | (rw [List.length_set]; omega)) | omega) (by decide) rfl (by first | decide | (show 0 + 32 * 1 ≤ hash.length; first | omega | (rw [List.length_set]; omega)) | omega)) ⟨_, rfl, rfl⟩ ?_
  refine .as (.sl 1008 0 hash.length 1) (slice_as2 rfl (by first | omega | (rw [List.length_set]; omega))) ?_
  refine .q rfl (op_bytes_str Tryz.underlying33 Tryz.underlying5 Tryz.underlying9 rfl rfl rfl (by omega)) ⟨_, rfl, rfl⟩ ?_
  refine .as (.str hash) (congrArg AV.str (by first | (rw [List.drop_zero, List.take_length]; exact hsid) | (rw [List.drop_zero, List.take_length]))) ?_
  refine .q rfl (ap_slice_arr_hi Tryz.underlying24 inf5.sz rfl rfl (by first | decide | (show 0 + 32 * 1 ≤ (hash.set 0 (hash.getD 0 0 ^^^ sec.getD 0 0)).length; first | omega | (rw [List.length_set]; omega)) | omega) (by decide) rfl (by first | decide | (show 0 + 32 * 1 ≤ (hash.set 0 (hash.getD 0 0 ^^^ sec.getD 0 0)).length; first | omega | (rw [List.length_set]; omega)) | omega)) ⟨_, rfl, rfl⟩ ?_
  refine .as (.sl 1016 0 (hash.set 0 (hash.getD 0 0 ^^^ sec.getD 0 0)).length 1) (slice_as2 rfl (by first | omega | (rw [List.length_set]; omega))) ?_
  refine .q rfl (op_bytes_str Tryz.underlying33 Tryz.underlying5 Tryz.underlying9 rfl rfl rfl (by omega)) ⟨_, rfl, rfl⟩ ?_
  refine .as (.str sid) (congrArg AV.str (by first | (rw [List.drop_zero, List.take_length]; exact hsid) | (rw [List.drop_zero, List.take_length]))) ?_
  refine .q rfl (op_call (U := []) [] [] (rder14_ev sec hash sid 67 32 hs hh hi (by omega)) Tryz.func30 (by kernel_rfl) rfl rfl rfl (⟨⟨_, rfl, rfl, rfl⟩, ⟨_, rfl, rfl, rfl⟩, ⟨_, rfl, rfl, rfl⟩, ⟨_, rfl, rfl, rfl⟩, ⟨_, rfl, rfl, rfl⟩, trivial⟩) (trivial) (trivial) (trivial) rfl) ⟨_, rfl, rfl⟩ ?_
  refine .as (.str k0) (congrArg AV.str hk0) ?_
  refine .q rfl (op_eqS rfl rfl rfl) ⟨_, rfl, rfl⟩ ?_
  refine .as (.bool true) (congrArg AV.bool (beq_self_eq_true _)) ?_
  refine .q rfl (op_pick_true rfl rfl rfl) trivial ?_
  refine .q rfl (op_move rfl) trivial ?_
  refine .know (b' := true) (rfl) ?_
  refine .q rfl (op_indexAddr_arr (i := 1) Tryz.underlying58 sz24 rfl rfl rfl (by decide)) ⟨_, rfl, rfl⟩ ?_
  refine .as (.ptr 1024 32) rfl ?_
  refine .q rfl (ap_slice_arr_hi Tryz.underlying24 inf5.sz rfl rfl (by first | decide | (show 32 + 32 * 1 ≤ (k0 ++ k1).length; rw [List.length_append]; omega)) (by decide) rfl (by first | decide | (show 32 + 32 * 1 ≤ (k0 ++ k1).length; rw [List.length_append]; omega))) ⟨_, rfl, rfl⟩ ?_
  refine .q rfl (op_bytes_str Tryz.underlying33 Tryz.underlying5 Tryz.underlying9 rfl rfl rfl (by rw [List.length_append]; omega)) ⟨_, rfl, rfl⟩ ?_
  refine .as (.str k1) (congrArg AV.str (by rw [List.drop_left' lk0, List.take_of_length_le (by omega)])) ?_
  refine .q rfl (ap_slice_arr_hi Tryz.underlying24 inf5.sz rfl rfl (by first | decide | (show 0 + 32 * 1 ≤ sec.length; first | omega | (rw [List.length_set]; omega)) | omega) (by decide) rfl (by first | decide | (show 0 + 32 * 1 ≤ sec.length; first | omega | (rw [List.length_set]; omega)) | omega)) ⟨_, rfl, rfl⟩ ?_
  refine .as (.sl 1000 0 sec.length 1) (slice_as2 rfl (by first | omega | (rw [List.length_set]; omega))) ?_
  refine .q rfl (op_bytes_str Tryz.underlying33 Tryz.underlying5 Tryz.underlying9 rfl rfl rfl (by omega)) ⟨_, rfl, rfl⟩ ?_
  refine .as (.str sec) (congrArg AV.str (by first | (rw [List.drop_zero, List.take_length]; exact hsid) | (rw [List.drop_zero, List.take_length]))) ?_
  refine .q rfl (ap_slice_arr_hi Tryz.underlying24 inf5.sz rfl rfl (by first | decide | (show 0 + 32 * 1 ≤ hash.length; first | omega | (rw [List.length_set]; omega)) | omega) (by decide) rfl (by first | decide | (show 0 + 32 * 1 ≤ hash.length; first | omega | (rw [List.length_set]; omega)) | omega)) ⟨_, rfl, rfl⟩ ?_
  refine .as (.sl 1008 0 hash.length 1) (slice_as2 rfl (by first | omega | (rw [List.length_set]; omega))) ?_
  refine .q rfl (op_bytes_str Tryz.underlying33 Tryz.underlying5 Tryz.underlying9 rfl rfl rfl (by omega)) ⟨_, rfl, rfl⟩ ?_
  refine .as (.str hash) (congrArg AV.str (by first | (rw [List.drop_zero, List.take_length]; exact hsid) | (rw [List.drop_zero, List.take_length]))) ?_
  refine .q rfl (ap_slice_arr_hi Tryz.underlying24 inf5.sz rfl rfl (by first | decide | (show 0 + 32 * 1 ≤ (hash.set 0 (hash.getD 0 0 ^^^ sec.getD 0 0)).length; first | omega | (rw [List.length_set]; omega)) | omega) (by decide) rfl (by first | decide | (show 0 + 32 * 1 ≤ (hash.set 0 (hash.getD 0 0 ^^^ sec.getD 0 0)).length; first | omega | (rw [List.length_set]; omega)) | omega)) ⟨_, rfl, rfl⟩ ?_
  refine .as (.sl 1016 0 (hash.set 0 (hash.getD 0 0 ^^^ sec.getD 0 0)).length 1) (slice_as2 rfl (by first | omega | (rw [List.length_set]; omega))) ?_
  refine .q rfl (op_bytes_str Tryz.underlying33 Tryz.underlying5 Tryz.underlying9 rfl rfl rfl (by omega)) ⟨_, rfl, rfl⟩ ?_
  refine .as (.str sid) (congrArg AV.str (by first | (rw [List.drop_zero, List.take_length]; exact hsid) | (rw [List.drop_zero, List.take_length]))) ?_
  refine .q rfl (op_call (U := []) [] [] (rder14_ev sec hash sid 68 32 hs hh hi (by omega)) Tryz.func30 (by kernel_rfl) rfl rfl rfl (⟨⟨_, rfl, rfl, rfl⟩, ⟨_, rfl, rfl, rfl⟩, ⟨_, rfl, rfl, rfl⟩, ⟨_, rfl, rfl, rfl⟩, ⟨_, rfl, rfl, rfl⟩, trivial⟩) (trivial) (trivial) (trivial) rfl) ⟨_, rfl, rfl⟩ ?_
  refine .as (.str k1) (congrArg AV.str hk1) ?_
  refine .q rfl (op_eqS rfl rfl rfl) ⟨_, rfl, rfl⟩ ?_
  refine .as (.bool true) (congrArg AV.bool (beq_self_eq_true _)) ?_
  refine .q rfl (op_pick_true rfl rfl rfl) trivial ?_
  refine .q rfl (op_assign rfl) trivial ?_
  refine .nil ?_
  show Ev _ _ _ _ _
  refine .ret ?_
  show RetOk _ _ _ _ _ _ _
  exact ret1v rfl (.inl rfl) rfl rfl trivial
 ·skip
  refine .no ⟨_, rfl, rfl⟩ rfl ?_
  refine .no ⟨_, rfl, rfl⟩ rfl ?_
  refine .no ⟨_, rfl, rfl⟩ rfl ?_
  refine .no ⟨_, rfl, rfl⟩ rfl ?_
  refine .no ⟨_, rfl, rfl⟩ rfl ?_
  refine .no ⟨_, rfl, rfl⟩ rfl ?_
  refine .no ⟨_, rfl, rfl⟩ rfl ?_
  refine .q (op_pick_false rfl rfl rfl) trivial rfl ?_
  refine .nil ?_
  show Ev _ _ _ _ _
  refine .cond_false rfl rfl ?_
  refine .skip ?_
  show Ev _ _ _ _ _
  refine .seq ?_
  refine .region ?_
  refine .q (op_loadRow Tryz.underlying24 rfl sz24 rfl rfl rfl (by exact hs)) trivial rfl ?_
  refine .q (op_loadRow Tryz.underlying24 rfl sz24 rfl rfl rfl (by exact hh)) trivial rfl ?_
  refine .q (op_loadRow Tryz.underlying24 rfl sz24 rfl rfl rfl (by first | exact hi | (show (hash.set 0 (hash.getD 0 0 ^^^ sec.getD 0 0)).length = 32; rw [List.length_set]; exact hh))) trivial rfl ?_
  refine .as (.aggB sid) (congrArg AV.aggB hsid) ?_
  refine .q (op_call (U := []) [] [] (keys_ev sec hash sid ek hs hh hi) Tryz.func29 (by kernel_rfl) rfl rfl rfl (⟨⟨_, rfl, rfl, rfl⟩, ⟨_, rfl, rfl, rfl⟩, ⟨_, rfl, rfl, rfl⟩, trivial⟩) (⟨⟨_, _, rfl, rfl, rfl, rfl, (fun h => by cases h), rfl⟩, trivial⟩) (trivial) (⟨(fun h => by cases h), trivial⟩) rfl) trivial rfl ?_
  refine .as (.aggB (k0 ++ k1)) (congrArg AV.aggB (by unfold keysP; rw [hk0, hk1])) ?_
  refine .a (op_allocRow zero58 rel_zero58 rfl) trivial rfl ?_
  refine .w (op_storeRow sz58 rfl rfl rfl rfl rfl (by first | exact List.length_replicate | (rw [List.length_append, lk0, lk1]) | (show (k0 ++ k1).length = 64; rw [List.length_append, lk0, lk1])) (by first | exact List.length_replicate | (rw [List.length_append, lk0, lk1]) | (show (k0 ++ k1).length = 64; rw [List.length_append, lk0, lk1]))) trivial rfl ?_
  refine .nil ?_
  show Ev _ _ _ _ _
  refine .seq ?_
  refine .drawn [[], [], [1], [], [3], [], [5], [], [], [1, 2, 3, 4, 5, 6, 7, 8], [0, 1, 2, 3, 4, 5, 6, 7, 8, 9], [0, 1, 2, 3, 4, 5, 6, 7, 8, 9, 10], [0, 1, 2, 3, 4, 5, 6, 7, 8, 9, 10, 11], [0, 1, 2, 3, 4, 5, 6, 7, 8, 9, 10, 11, 12], [0, 1, 2, 3, 4, 5, 6, 7, 8, 9, 10, 11, 12, 13], [0, 1, 2, 3, 4, 5, 6, 7, 8, 9, 10, 11], [0, 1, 2, 3, 4, 5, 6, 7, 8, 9, 10, 11, 15], [0, 1, 2, 3, 4, 5, 6, 7, 8, 9, 10, 11], [0, 1, 2, 3, 4, 5, 6, 7, 8, 9, 10, 11, 17], [0, 1, 2, 3, 4, 5, 6, 7, 8, 9, 10, 11], [0, 1, 2, 3, 4, 5, 6, 7, 8, 9, 10, 11, 19], [0, 1, 2, 3, 4, 5, 6, 7, 8, 9, 10, 11, 15, 16, 17, 18, 19, 20], [0, 1, 2, 3, 4, 5, 6, 7, 8, 9, 10, 11, 12, 13, 14, 15, 16, 17, 18, 19, 20, 21], [0, 1, 2, 3, 4, 5, 6, 7, 8, 9, 10, 11, 12, 13, 14, 15, 16, 17, 18, 19, 20, 21, 22], [0, 1, 2, 3, 4, 5, 6, 7, 8, 9, 10, 11, 12, 13, 14, 15, 16, 17, 18, 19, 20, 21, 22, 23], [0, 1, 2, 3, 4, 5, 6, 7, 8, 9, 10, 11, 12, 13, 14, 15, 16, 17, 18, 19, 20, 21, 22, 23, 24], [0, 1, 2, 3, 4, 5, 6, 7, 8, 9, 10, 11, 12, 13, 14, 15, 16, 17, 18, 19, 20, 21, 22, 23, 24, 25], [0, 1, 2, 3, 4, 5, 6, 7, 8, 9, 10, 11, 12, 13, 14, 15, 16, 17, 18, 19, 20, 21, 22, 23, 24, 25, 26], [0, 1, 2, 3, 4, 5, 6, 7, 8, 9, 10, 11, 12, 13, 14, 15, 16, 17, 18, 19, 20, 21, 22, 23, 24], [0, 1, 2, 3, 4, 5, 6, 7, 8, 9, 10, 11, 12, 13, 14, 15, 16, 17, 18, 19, 20, 21, 22, 23, 24, 28], [0, 1, 2, 3, 4, 5, 6, 7, 8, 9, 10, 11, 12, 13, 14, 15, 16, 17, 18, 19, 20, 21, 22, 23, 24], [0, 1, 2, 3, 4, 5, 6, 7, 8, 9, 10, 11, 12, 13, 14, 15, 16, 17, 18, 19, 20, 21, 22, 23, 24, 30], [0, 1, 2, 3, 4, 5, 6, 7, 8, 9, 10, 11, 12, 13, 14, 15, 16, 17, 18, 19, 20, 21, 22, 23, 24], [0, 1, 2, 3, 4, 5, 6, 7, 8, 9, 10, 11, 12, 13, 14, 15, 16, 17, 18, 19, 20, 21, 22, 23, 24, 32], [0, 1, 2, 3, 4, 5, 6, 7, 8, 9, 10, 11, 12, 13, 14, 15, 16, 17, 18, 19, 20, 21, 22, 23, 24, 28, 29, 30, 31, 32, 33], [0, 1, 2, 3, 4, 5, 6, 7, 8, 9, 10, 11, 12, 13, 14, 15, 16, 17, 18, 19, 20, 21, 22, 23, 24, 25, 26, 27, 28, 29, 30, 31, 32, 33, 34], [0, 1, 2, 3, 4, 5, 6, 7, 8, 9, 10, 11, 12, 13, 14, 15, 16, 17, 18, 19, 20, 21, 22, 23, 24, 25, 26, 27, 28, 29, 30, 31, 32, 33, 34, 35], [0, 1, 2, 3, 4, 5, 6, 7, 8, 9, 10, 11, 12, 13, 14, 15, 16, 17, 18, 19, 20, 21, 22, 23, 24, 25, 26, 27, 28, 29, 30, 31, 32, 33, 34, 35, 36]] [1, 2, 3, 4, 5, 6, 9, 13, 14, 15, 16, 17, 18, 19, 20, 21, 26, 27, 28, 29, 30, 31, 32, 33, 34] [] (by kernel_rfl) (by kernel_rfl) rfl ?_
  show DK _ [0, 1, 2, 3, 4, 5, 6, 7, 8, 9, 10, 11, 12, 13, 14, 15, 16, 17, 18, 19, 20, 21, 22, 23, 24, 25, 26, 27, 28, 29, 30, 31, 32, 33, 34, 35, 36, 37] _ _ _
  refine .q rfl (op_move rfl) trivial ?_
  refine .q rfl (ap_slice_arr_hi Tryz.underlying24 inf5.sz rfl rfl (by first | decide | (show 0 + 32 * 1 ≤ sec.length; first | omega | (rw [List.length_set]; omega)) | omega) (by decide) rfl (by first | decide | (show 0 + 32 * 1 ≤ sec.length; first | omega | (rw [List.length_set]; omega)) | omega)) trivial ?_
  refine .as (.sl 1000 0 sec.length 1) (slice_as2 rfl (by first | omega | (rw [List.length_set]; omega))) ?_
  refine .q rfl (op_bytes_str Tryz.underlying33 Tryz.underlying5 Tryz.underlying9 rfl rfl rfl (by omega)) trivial ?_
  refine .as (.str sec) (congrArg AV.str (by first | (rw [List.drop_zero, List.take_length]; exact hsid) | (rw [List.drop_zero, List.take_length]))) ?_
  refine .q rfl (ap_slice_arr_hi Tryz.underlying24 inf5.sz rfl rfl (by first | decide | (show 0 + 32 * 1 ≤ hash.length; first | omega | (rw [List.length_set]; omega)) | omega) (by decide) rfl (by first | decide | (show 0 + 32 * 1 ≤ hash.length; first | omega | (rw [List.length_set]; omega)) | omega)) trivial ?_
  refine .as (.sl 1008 0 hash.length 1) (slice_as2 rfl (by first | omega | (rw [List.length_set]; omega))) ?_
  refine .q rfl (op_bytes_str Tryz.underlying33 Tryz.underlying5 Tryz.underlying9 rfl rfl rfl (by omega)) trivial ?_
  refine .as (.str hash) (congrArg AV.str (by first | (rw [List.drop_zero, List.take_length]; exact hsid) | (rw [List.drop_zero, List.take_length]))) ?_
  refine .q rfl (ap_slice_arr_hi Tryz.underlying24 inf5.sz rfl rfl (by first | decide | (show 0 + 32 * 1 ≤ (hash.set 0 (hash.getD 0 0 ^^^ sec.getD 0 0)).length; first | omega | (rw [List.length_set]; omega)) | omega) (by decide) rfl (by first | decide | (show 0 + 32 * 1 ≤ (hash.set 0 (hash.getD 0 0 ^^^ sec.getD 0 0)).length; first | omega | (rw [List.length_set]; omega)) | omega)) trivial ?_
  refine .as (.sl 1016 0 (hash.set 0 (hash.getD 0 0 ^^^ sec.getD 0 0)).length 1) (slice_as2 rfl (by first | omega | (rw [List.length_set]; omega))) ?_
  refine .q rfl (op_bytes_str Tryz.underlying33 Tryz.underlying5 Tryz.underlying9 rfl rfl rfl (by omega)) trivial ?_
  refine .as (.str sid) (congrArg AV.str (by first | (rw [List.drop_zero, List.take_length]; exact hsid) | (rw [List.drop_zero, List.take_length]))) ?_
  refine .q rfl (op_move rfl) trivial ?_
  refine .q rfl (op_move rfl) trivial ?_
  refine .q rfl (op_call (U := []) [] [] (rder14_ev sec hash sid c m hs hh hi (by omega)) Tryz.func30 (by kernel_rfl) rfl rfl rfl (⟨⟨_, rfl, rfl, rfl⟩, ⟨_, rfl, rfl, rfl⟩, ⟨_, rfl, rfl, rfl⟩, ⟨_, rfl, rfl, rfl⟩, ⟨_, rfl, rfl, rfl⟩, trivial⟩) (trivial) (trivial) (trivial) rfl) trivial ?_
  refine .as (.str D) (congrArg AV.str hD) ?_
  refine .q rfl (op_eqS rfl rfl rfl) trivial ?_
  refine .as (.bool true) (congrArg AV.bool (beq_self_eq_true _)) ?_
  refine .q rfl (op_move rfl) trivial ?_
  refine .know (b' := true) (rfl) ?_
  refine .q rfl (op_indexAddr_arr (i := 0) Tryz.underlying58 sz24 rfl rfl rfl (by decide)) ⟨_, rfl, rfl⟩ ?_
  refine .as (.ptr 1024 0) rfl ?_
  refine .q rfl (ap_slice_arr_hi Tryz.underlying24 inf5.sz rfl rfl (by first | decide | (show 0 + 32 * 1 ≤ (k0 ++ k1).length; rw [List.length_append]; omega)) (by decide) rfl (by first | decide | (show 0 + 32 * 1 ≤ (k0 ++ k1).length; rw [List.length_append]; omega))) ⟨_, rfl, rfl⟩ ?_
  refine .q rfl (op_bytes_str Tryz.underlying33 Tryz.underlying5 Tryz.underlying9 rfl rfl rfl (by rw [List.length_append]; omega)) ⟨_, rfl, rfl⟩ ?_
  refine .as (.str k0) (congrArg AV.str (by rw [List.drop_zero, List.take_left' lk0])) ?_
  refine .q rfl (ap_slice_arr_hi Tryz.underlying24 inf5.sz rfl rfl (by first | decide | (show 0 + 32 * 1 ≤ sec.length; first | omega | (rw [List.length_set]; omega)) | omega) (by decide) rfl (by first | decide | (show 0 + 32 * 1 ≤ sec.length; first | omega | (rw [List.length_set]; omega)) | omega)) ⟨_, rfl, rfl⟩ ?_
  refine .as (.sl 1000 0 sec.length 1) (slice_as2 rfl (by first | omega | (rw [List.length_set]; omega))) ?_
  refine .q rfl (op_bytes_str Tryz.underlying33 Tryz.underlying5 Tryz.underlying9 rfl rfl rfl (by omega)) ⟨_, rfl, rfl⟩ ?_
  refine .as (.str sec) (congrArg AV.str (by first | (rw [List.drop_zero, List.take_length]; exact hsid) | (rw [List.drop_zero, List.take_length]))) ?_
  refine .q rfl (ap_slice_arr_hi Tryz.underlying24 inf5.sz rfl rfl (by first | decide | (show 0 + 32 * 1 ≤ hash.length; first | omega | (rw [List.length_set]; omega)) | omega) (by decide) rfl (by first | decide | (show 0 + 32 * 1 ≤ hash.length; first | omega | (rw [List.length_set]; omega)) | omega)) ⟨_, rfl, rfl⟩ ?_
  refine .as (.sl 1008 0 hash.length 1) (slice_as2 rfl (by first | omega | (rw [List.length_set]; omega))) ?_
  refine .q rfl (op_bytes_str Tryz.underlying33 Tryz.underlying5 Tryz.underlying9 rfl rfl rfl (by omega)) ⟨_, rfl, rfl⟩ ?_
  refine .as (.str hash) (congrArg AV.str (by first | (rw [List.drop_zero, List.take_length]; exact hsid) | (rw [List.drop_zero, List.take_length]))) ?_
  refine .q rfl (ap_slice_arr_hi Tryz.underlying24 inf5.sz rfl rfl (by first | decide | (show 0 + 32 * 1 ≤ (hash.set 0 (hash.getD 0 0 ^^^ sec.getD 0 0)).length; first | omega | (rw [List.length_set]; omega)) | omega) (by decide) rfl (by first | decide | (show 0 + 32 * 1 ≤ (hash.set 0 (hash.getD 0 0 ^^^ sec.getD 0 0)).length; first | omega | (rw [List.length_set]; omega)) | omega)) ⟨_, rfl, rfl⟩ ?_
  refine .as (.sl 1016 0 (hash.set 0 (hash.getD 0 0 ^^^ sec.getD 0 0)).length 1) (slice_as2 rfl (by first | omega | (rw [List.length_set]; omega))) ?_
  refine .q rfl (op_bytes_str Tryz.underlying33 Tryz.underlying5 Tryz.underlying9 rfl rfl rfl (by omega)) ⟨_, rfl, rfl⟩ ?_
  refine .as (.str sid) (congrArg AV.str (by first | (rw [List.drop_zero, List.take_length]; exact hsid) | (rw [List.drop_zero, List.take_length]))) ?_
  refine .q rfl (op_call (U := []) [] [] (rder14_ev sec hash sid 67 32 hs hh hi (by omega)) Tryz.func30 (by kernel_rfl) rfl rfl rfl (⟨⟨_, rfl, rfl, rfl⟩, ⟨_, rfl, rfl, rfl⟩, ⟨_, rfl, rfl, rfl⟩, ⟨_, rfl, rfl, rfl⟩, ⟨_, rfl, rfl, rfl⟩, trivial⟩) (trivial) (trivial) (trivial) rfl) ⟨_, rfl, rfl⟩ ?_
  refine .as (.str k0) (congrArg AV.str hk0) ?_
  refine .q rfl (op_eqS rfl rfl rfl) ⟨_, rfl, rfl⟩ ?_
  refine .as (.bool true) (congrArg AV.bool (beq_self_eq_true _)) ?_
  refine .q rfl (op_pick_true rfl rfl rfl) trivial ?_
  refine .q rfl (op_move rfl) trivial ?_
  refine .know (b' := true) (rfl) ?_
  refine .q rfl (op_indexAddr_arr (i := 1) Tryz.underlying58 sz24 rfl rfl rfl (by decide)) ⟨_, rfl, rfl⟩ ?_
  refine .as (.ptr 1024 32) rfl ?_
  refine .q rfl (ap_slice_arr_hi Tryz.underlying24 inf5.sz rfl rfl (by first | decide | (show 32 + 32 * 1 ≤ (k0 ++ k1).length; rw [List.length_append]; omega)) (by decide) rfl (by first | decide | (show 32 + 32 * 1 ≤ (k0 ++ k1).length; rw [List.length_append]; omega))) ⟨_, rfl, rfl⟩ ?_
  refine .q rfl (op_bytes_str Tryz.underlying33 Tryz.underlying5 Tryz.underlying9 rfl rfl rfl (by rw [List.length_append]; omega)) ⟨_, rfl, rfl⟩ ?_
  refine .as (.str k1) (congrArg AV.str (by rw [List.drop_left' lk0, List.take_of_length_le (by omega)])) ?_
  refine .q rfl (ap_slice_arr_hi Tryz.underlying24 inf5.sz rfl rfl (by first | decide | (show 0 + 32 * 1 ≤ sec.length; first | omega | (rw [List.length_set]; omega)) | omega) (by decide) rfl (by first | decide | (show 0 + 32 * 1 ≤ sec.length; first | omega | (rw [List.length_set]; omega)) | omega)) ⟨_, rfl, rfl⟩ ?_
  refine .as (.sl 1000 0 sec.length 1) (slice_as2 rfl (by first | omega | (rw [List.length_set]; omega))) ?_
  refine .q rfl (op_bytes_str Tryz.underlying33 Tryz.underlying5 Tryz.underlying9 rfl rfl rfl (by omega)) ⟨_, rfl, rfl⟩ ?_
  refine .as (.str sec) (congrArg AV.str (by first | (rw [List.drop_zero, List.take_length]; exact hsid) | (rw [List.drop_zero, List.take_length]))) ?_
  refine .q rfl (ap_slice_arr_hi Tryz.underlying24 inf5.sz rfl rfl (by first | decide | (show 0 + 32 * 1 ≤ hash.length; first | omega | (rw [List.length_set]; omega)) | omega) (by decide) rfl (by first | decide | (show 0 + 32 * 1 ≤ hash.length; first | omega | (rw [List.length_set]; omega)) | omega)) ⟨_, rfl, rfl⟩ ?_
  refine .as (.sl 1008 0 hash.length 1) (slice_as2 rfl (by first | omega | (rw [List.length_set]; omega))) ?_
  refine .q rfl (op_bytes_str Tryz.underlying33 Tryz.underlying5 Tryz.underlying9 rfl rfl rfl (by omega)) ⟨_, rfl, rfl⟩ ?_
  refine .as (.str hash) (congrArg AV.str (by first | (rw [List.drop_zero, List.take_length]; exact hsid) | (rw [List.drop_zero, List.take_length]))) ?_
  refine .q rfl (ap_slice_arr_hi Tryz.underlying24 inf5.sz rfl rfl (by first | decide | (show 0 + 32 * 1 ≤ (hash.set 0 (hash.getD 0 0 ^^^ sec.getD 0 0)).length; first | omega | (rw [List.length_set]; omega)) | omega) (by decide) rfl (by first | decide | (show 0 + 32 * 1 ≤ (hash.set 0 (hash.getD 0 0 ^^^ sec.getD 0 0)).length; first | omega | (rw [List.length_set]; omega)) | omega)) ⟨_, rfl, rfl⟩ ?_
  refine .as (.sl 1016 0 (hash.set 0 (hash.getD 0 0 ^^^ sec.getD 0 0)).length 1) (slice_as2 rfl (by first | omega | (rw [List.length_set]; omega))) ?_
  refine .q rfl (op_bytes_str Tryz.underlying33 Tryz.underlying5 Tryz.underlying9 rfl rfl rfl (by omega)) ⟨_, rfl, rfl⟩ ?_
  refine .as (.str sid) (congrArg AV.str (by first | (rw [List.drop_zero, List.take_length]; exact hsid) | (rw [List.drop_zero, List.take_length]))) ?_
  refine .q rfl (op_call (U := []) [] [] (rder14_ev sec hash sid 68 32 hs hh hi (by omega)) Tryz.func30 (by kernel_rfl) rfl rfl rfl (⟨⟨_, rfl, rfl, rfl⟩, ⟨_, rfl, rfl, rfl⟩, ⟨_, rfl, rfl, rfl⟩, ⟨_, rfl, rfl, rfl⟩, ⟨_, rfl, rfl, rfl⟩, trivial⟩) (trivial) (trivial) (trivial) rfl) ⟨_, rfl, rfl⟩ ?_
  refine .as (.str k1) (congrArg AV.str hk1) ?_
  refine .q rfl (op_eqS rfl rfl rfl) ⟨_, rfl, rfl⟩ ?_
  refine .as (.bool true) (congrArg AV.bool (beq_self_eq_true _)) ?_
  refine .q rfl (op_pick_true rfl rfl rfl) trivial ?_
  refine .q rfl (op_assign rfl) trivial ?_
  refine .nil ?_
  show Ev _ _ _ _ _
  refine .ret ?_
  show RetOk _ _ _ _ _ _ _
  exact ret1v rfl (.inl rfl) rfl rfl trivial
end Go.Proofs.YtdmlpblaelfdmaaGreatDoor
