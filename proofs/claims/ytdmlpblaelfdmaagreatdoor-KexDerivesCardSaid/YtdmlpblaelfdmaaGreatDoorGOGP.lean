/-
  Texts of this claim.
-/
import Derived.Test.YtdmlpblaelfdmaaGreatDoorGOFP
import Derived.Test.YtdmlpblaelfdmaaGreatDoorGZ1P
namespace Go.Proofs.YtdmlpblaelfdmaaGreatDoor
open Go.RowKit
theorem put_two (a b z : List UInt8) (ha : a.length = 32) (hz : z.length = 32) (hb : b.length = 32) : (AV.aggB (a ++ b)).list = (AV.aggB (a ++ z)).list.take 32 ++ (b.map AV.u8).take 32 ++ (AV.aggB (a ++ z)).list.drop (32 + 32) := by
  simp only [AV.list, AV.parts, Option.getD_some, List.map_append]
  rw [List.take_left' (by rw [List.length_map, ha]), List.take_of_length_le (by rw [List.length_map, hb]; omega), List.drop_of_length_le (by rw [List.length_append, List.length_map, List.length_map, ha, hz]; omega), List.append_nil]
theorem put_one (a : List UInt8) (ha : a.length = 32) : (AV.aggB (a ++ List.replicate 32 0)).list = (AV.aggB (List.replicate 64 0)).list.take 0 ++ (a.map AV.u8).take 32 ++ (AV.aggB (List.replicate 64 0)).list.drop (0 + 32) := by
  simp only [AV.list, AV.parts, Option.getD_some, List.map_append, List.map_replicate, List.take_zero, List.nil_append]
  rw [List.take_of_length_le (by rw [List.length_map, ha]; omega)]
  rfl
/-- The keys of both directions. -/
def keysP (sec hash sid : List UInt8) : List UInt8 := derP sec hash sid 67 32 ++ derP sec hash sid 68 32
set_option maxHeartbeats 1000000 in
set_option maxRecDepth 100000 in
theorem keys_ev (sec hash sid : List UInt8) (ek : Nat) (hs : sec.length = 32) (hh : hash.length = 32) (hi : sid.length = 32) : Meets Tryz.prog 29 [.aggB sec, .aggB hash, .aggB sid] [(21, some ⟨.agg32 K256, ek, false⟩)] (.aggB (keysP sec hash sid)) [] := by
 unfold keysP
 obtain ⟨k0, hk0⟩ : ∃ k, derP sec hash sid 67 32 = k := ⟨_, rfl⟩
 obtain ⟨k1, hk1⟩ : ∃ k, derP sec hash sid 68 32 = k := ⟨_, rfl⟩
 have lk0 : k0.length = 32 := by rw [← hk0]; exact length_derP _ _ _ _ _ (by decide)
 have lk1 : k1.length = 32 := by rw [← hk1]; exact length_derP _ _ _ _ _ (by decide)
 rw [hk0, hk1]
 refine meets_of_ev (nt := 26) Tryz.func29 rfl rfl (Nat.le_of_ble_eq_true rfl) ?_
 refine .seq ?_
 refine .region ?_
 refine .a (op_boxRow rfl rfl) trivial rfl ?_
 refine .a (op_boxRow rfl rfl) trivial rfl ?_
 refine .a (op_boxRow rfl rfl) trivial rfl ?_
 refine .a (op_allocRow zero58 rel_zero58 rfl) trivial rfl ?_
 refine .nil ?_
 show Ev _ _ _ _ _
 refine .seq ?_
 refine .region ?_
 refine .a (op_allocRow zero58 rel_zero58 rfl) trivial rfl ?_
 refine .nil ?_
 show Ev _ _ _ _ _
 refine .seq ?_
 refine .seq ?_
 refine .region ?_
 refine .q (op_buildArr (us := [(0, _), (1, _)]) Tryz.underlying112 inf5.sz zero112 rel_zero112 rfl (by decide) ⟨rfl, rfl, rfl, rfl, rfl, rfl, trivial⟩ rfl) trivial rfl ?_
 refine .as (.aggB [67, 68]) rfl ?_
 refine .q (op_move rfl) trivial rfl ?_
 refine .nil ?_
 show Ev _ _ _ _ _
 refine .block ?_
 refine Ev.rounds 3 ?_
 show Ev _ _ _ _ _
 refine .seq ?_
 refine .region ?_
 refine .q (op_cmpI rfl rfl rfl) trivial rfl ?_
 refine .nil ?_
 show Ev _ _ _ _ _
 refine .seq ?_
 refine .cond_true rfl (rfl) ?_
 refine .skip ?_
 show Ev _ _ _ _ _
 refine .seq ?_
 refine .block ?_
 refine .seq ?_
 refine .region ?_
 refine .q (op_move rfl) trivial rfl ?_
 refine .q (op_index_row Tryz.underlying112 Tryz.underlying5 rfl inf5.sz rfl rfl rfl (i := 0) rfl rfl (by show 0 < 2; decide) (by show 0 < 2; decide)) trivial rfl ?_
 refine .as (.u8 67) rfl ?_
 refine .q (op_assign rfl) trivial rfl ?_
 refine .q (op_assign rfl) trivial rfl ?_
 refine .nil ?_
 show Ev _ _ _ _ _
 refine .drawn [[], [0], [0, 1], [], [], [], [], [3, 4, 5, 6], [0, 1, 2, 3, 4, 5, 6, 7]] [2, 3, 4, 5, 7, 8] [8] (by kernel_rfl) (by kernel_rfl) rfl ?_
 show DK _ [0, 1, 2, 3, 4, 5, 6, 7, 8] _ _ _
 refine .q rfl (op_move rfl) trivial ?_
 refine .q rfl (op_indexAddr_arr (i := 0) Tryz.underlying58 sz24 rfl rfl rfl (by decide)) trivial ?_
 refine .as (.ptr 1032 0) rfl ?_
 refine .q rfl (ap_slice_arr_hi Tryz.underlying24 inf5.sz rfl rfl (by first | decide | (simp only [AV.len, List.length_append, List.length_replicate]; omega)) (by decide) rfl (by first | decide | (simp only [AV.len, List.length_append, List.length_replicate]; omega))) trivial ?_
 refine .as (.sl 1032 0 32 1) rfl ?_
 refine .q rfl (op_loadRow Tryz.underlying24 rfl sz24 rfl rfl rfl (by exact hs)) trivial ?_
 refine .q rfl (op_loadRow Tryz.underlying24 rfl sz24 rfl rfl rfl (by exact hh)) trivial ?_
 refine .q rfl (op_loadRow Tryz.underlying24 rfl sz24 rfl rfl rfl (by exact hi)) trivial ?_
 refine .q rfl (op_move rfl) trivial ?_
 refine .q rfl (op_call (U := []) [] [] (derive_ev sec hash sid 67 32 32 ek hs hh hi (by decide)) Tryz.func28 (by kernel_rfl) rfl rfl rfl (⟨⟨_, rfl, rfl, rfl⟩, ⟨_, rfl, rfl, rfl⟩, ⟨_, rfl, rfl, rfl⟩, ⟨_, rfl, rfl, rfl⟩, ⟨_, rfl, rfl, rfl⟩, trivial⟩) (⟨⟨_, _, rfl, rfl, rfl, rfl, (fun h => by cases h), rfl⟩, trivial⟩) (trivial) (⟨(fun h => by cases h), trivial⟩) rfl) trivial ?_
 refine .as (.str k0) (congrArg AV.str hk0) ?_
 refine .a rfl (op_copy (q := 32) (c' := .aggB (k0 ++ List.replicate 32 0)) Tryz.underlying33 inf5.sz rfl rfl rfl (srcs_str rfl) (by first | (simp only [AV.len, List.length_replicate]; omega) | (simp only [AV.len, List.length_replicate]; omega)) (by rw [lk0]; rfl) (put_one k0 lk0)) trivial rfl rfl ?_
 refine .nil ?_
 show Ev _ _ _ _ _
 refine .region ?_
 refine .q (op_addI rfl rfl ⟨by omega, by omega⟩) trivial rfl ?_
 refine .as (.i64 1) rfl ?_
 refine .q (op_move rfl) trivial rfl ?_
 refine .nil ?_
 show Ev _ _ _ _ _
 refine .seq ?_
 refine .region ?_
 refine .q (op_cmpI rfl rfl rfl) trivial rfl ?_
 refine .nil ?_
 show Ev _ _ _ _ _
 refine .seq ?_
 refine .cond_true rfl (rfl) ?_
 refine .skip ?_
 show Ev _ _ _ _ _
 refine .seq ?_
 refine .block ?_
 refine .seq ?_
 refine .region ?_
 refine .q (op_move rfl) trivial rfl ?_
 refine .q (op_index_row Tryz.underlying112 Tryz.underlying5 rfl inf5.sz rfl rfl rfl (i := 1) rfl rfl (by show 1 < 2; decide) (by show 1 < 2; decide)) trivial rfl ?_
 refine .as (.u8 68) rfl ?_
 refine .q (op_assign rfl) trivial rfl ?_
 refine .q (op_assign rfl) trivial rfl ?_
 refine .nil ?_
 show Ev _ _ _ _ _
 refine .drawn [[], [0], [0, 1], [], [], [], [], [3, 4, 5, 6], [0, 1, 2, 3, 4, 5, 6, 7]] [2, 3, 4, 5, 7, 8] [8] (by kernel_rfl) (by kernel_rfl) rfl ?_
 show DK _ [0, 1, 2, 3, 4, 5, 6, 7, 8] _ _ _
 refine .q rfl (op_move rfl) trivial ?_
 refine .q rfl (op_indexAddr_arr (i := 1) Tryz.underlying58 sz24 rfl rfl rfl (by decide)) trivial ?_
 refine .as (.ptr 1032 32) rfl ?_
 refine .q rfl (ap_slice_arr_hi Tryz.underlying24 inf5.sz rfl rfl (by first | decide | (simp only [AV.len, List.length_append, List.length_replicate]; omega)) (by decide) rfl (by first | decide | (simp only [AV.len, List.length_append, List.length_replicate]; omega))) trivial ?_
 refine .as (.sl 1032 32 32 1) rfl ?_
 refine .q rfl (op_loadRow Tryz.underlying24 rfl sz24 rfl rfl rfl (by exact hs)) trivial ?_
 refine .q rfl (op_loadRow Tryz.underlying24 rfl sz24 rfl rfl rfl (by exact hh)) trivial ?_
 refine .q rfl (op_loadRow Tryz.underlying24 rfl sz24 rfl rfl rfl (by exact hi)) trivial ?_
 refine .q rfl (op_move rfl) trivial ?_
 refine .q rfl (op_call (U := []) [] [] (derive_ev sec hash sid 68 32 32 ek hs hh hi (by decide)) Tryz.func28 (by kernel_rfl) rfl rfl rfl (⟨⟨_, rfl, rfl, rfl⟩, ⟨_, rfl, rfl, rfl⟩, ⟨_, rfl, rfl, rfl⟩, ⟨_, rfl, rfl, rfl⟩, ⟨_, rfl, rfl, rfl⟩, trivial⟩) (⟨⟨_, _, rfl, rfl, rfl, rfl, (fun h => by cases h), rfl⟩, trivial⟩) (trivial) (⟨(fun h => by cases h), trivial⟩) rfl) trivial ?_
 refine .as (.str k1) (congrArg AV.str hk1) ?_
 refine .a rfl (op_copy (q := 32) (c' := .aggB (k0 ++ k1)) Tryz.underlying33 inf5.sz rfl rfl rfl (srcs_str rfl) (by first | (simp only [AV.len, List.length_append, List.length_replicate]; omega) | (simp only [AV.len, List.length_replicate]; omega)) (by rw [lk1]; rfl) (put_two k0 k1 _ lk0 (List.length_replicate) lk1)) trivial rfl rfl ?_
 refine .nil ?_
 show Ev _ _ _ _ _
 refine .region ?_
 refine .q (op_addI rfl rfl ⟨by omega, by omega⟩) trivial rfl ?_
 refine .as (.i64 2) rfl ?_
 refine .q (op_move rfl) trivial rfl ?_
 refine .nil ?_
 show Ev _ _ _ _ _
 refine .seq ?_
 refine .region ?_
 refine .q (op_cmpI rfl rfl rfl) trivial rfl ?_
 refine .nil ?_
 show Ev _ _ _ _ _
 refine .seq ?_
 refine .cond_false rfl (rfl) ?_
 refine .exit ?_
 show Ev _ _ _ _ _
 refine .seq ?_
 refine .region ?_
 refine .q (op_loadRow Tryz.underlying58 rfl sz58 rfl rfl rfl (by first | exact List.length_replicate | (simp only [AV.len, List.length_append]; omega) | (rw [List.length_append, lk0, lk1]))) trivial rfl ?_
 refine .w (op_storeRow sz58 rfl rfl rfl rfl rfl (by first | exact List.length_replicate | (simp only [AV.len, List.length_append]; omega) | (rw [List.length_append, lk0, lk1])) (by first | exact List.length_replicate | (simp only [AV.len, List.length_append]; omega) | (rw [List.length_append, lk0, lk1]))) trivial rfl ?_
 refine .nil ?_
 show Ev _ _ _ _ _
 refine .ret ?_
 show RetOk _ _ _ _ _ _ _
 exact retc1 rfl (.inl rfl) ⟨_, _, _, _, rfl, rfl, rfl, rfl, (by show (k0 ++ k1).length = 64; rw [List.length_append, lk0, lk1]), Tryz.underlying58, rfl, sz58⟩ trivial
set_option maxHeartbeats 1000000 in
set_option maxRecDepth 100000 in
theorem few14_ev (l0 l1 i0 i1 h p0 p1 sec : List UInt8) (hl0 : l0.length ≤ maxLen) (hl1 : l1.length ≤ maxLen) (hi0 : i0.length ≤ maxLen) (hi1 : i1.length ≤ maxLen) (hh : h.length ≤ maxLen) : Meets Tryz.prog 25 [exC l0 l1 i0 i1 h p0 p1 sec] [] (exC (l0.take 60) (l1.take 60) (i0.take 100) (i1.take 100) (h.take 60) p0 p1 sec) [] := by
 refine meets_of_ev (nt := 29) Tryz.func25 rfl rfl (Nat.le_of_ble_eq_true rfl) ?_
 refine .seq ?_
 refine .region ?_
 refine .a (op_boxRow rfl rfl) trivial rfl ?_
 refine .a (op_allocRow zero60 rel_zero60 rfl) trivial rfl ?_
 refine .nil ?_
 show Ev _ _ _ _ _
 refine .seq ?_
 refine .seq ?_
 refine .region ?_
 refine .q (op_move rfl) trivial rfl ?_
 refine .nil ?_
 show Ev _ _ _ _ _
 refine .block ?_
 refine Ev.rounds 3 ?_
 show Ev _ _ _ _ _
 refine .seq ?_
 refine .region ?_
 refine .q (op_cmpI rfl rfl rfl) trivial rfl ?_
 refine .nil ?_
 show Ev _ _ _ _ _
 refine .seq ?_
 refine .cond_true rfl (rfl) ?_
 refine .skip ?_
 show Ev _ _ _ _ _
 refine .seq ?_
 refine .block ?_
 refine .seq ?_
 refine .region ?_
 refine .q (op_move rfl) trivial rfl ?_
 refine .q (op_assign rfl) trivial rfl ?_
 refine .nil ?_
 show Ev _ _ _ _ _
 refine .drawn [[], [], [], [], [2, 3], [2, 3, 4], [2, 3, 4, 5], [], [], [7, 8], [7, 8, 9], [2, 3, 4, 5, 6, 7, 8, 9, 10], [], [0, 2, 3, 4, 5, 6, 7, 8, 9, 10, 12], [0, 2, 3, 4, 5, 6, 7, 8, 9, 10, 11, 12, 13], [], [0, 1, 2, 3, 4, 5, 6, 7, 8, 9, 10, 11, 12, 13, 14, 15], [0, 1, 2, 3, 4, 5, 6, 7, 8, 9, 10, 11, 12, 13, 14, 15, 16]] [5, 6, 10, 11, 14, 17] [14, 17] (by kernel_rfl) (by kernel_rfl) rfl ?_
 show DK _ [0, 1, 2, 3, 4, 5, 6, 7, 8, 9, 10, 11, 12, 13, 14, 15, 16, 17] _ _ _
 refine .q rfl (op_move rfl) trivial ?_
 refine .q rfl (op_move rfl) trivial ?_
 refine .q rfl (op_move rfl) trivial ?_
 refine .q rfl (op_fieldAddr (m := 1) Tryz.underlying60 rfl (by kernel_rfl) rfl) trivial ?_
 refine .as (.ptr 1000 0) rfl ?_
 refine .q rfl (op_indexAddr_arr Tryz.underlying57 inf9.sz rfl rfl (i := 0) rfl (by decide)) trivial ?_
 refine .as (.ptr 1000 0) rfl ?_
 refine .q rfl (op_load Tryz.underlying9 rfl rfl rfl rfl (by show 0 < 101; decide)) trivial ?_
 refine .as (.str l0) rfl ?_
 refine .q rfl (op_call (U := []) [] [] (cut_ev l0 60 hl0 (by decide)) Tryz.func13 (by kernel_rfl) rfl rfl rfl (⟨⟨_, rfl, rfl, rfl⟩, ⟨_, rfl, rfl, rfl⟩, trivial⟩) (trivial) (trivial) (trivial) rfl) trivial ?_
 refine .q rfl (op_move rfl) trivial ?_
 refine .q rfl (op_fieldAddr (m := 1) Tryz.underlying60 rfl (by kernel_rfl) rfl) trivial ?_
 refine .as (.ptr 1000 2) rfl ?_
 refine .q rfl (op_indexAddr_arr Tryz.underlying57 inf9.sz rfl rfl (i := 0) rfl (by decide)) trivial ?_
 refine .as (.ptr 1000 2) rfl ?_
 refine .q rfl (op_load Tryz.underlying9 rfl rfl rfl rfl (by show 2 < 101; decide)) trivial ?_
 refine .as (.str i0) rfl ?_
 refine .q rfl (op_call (U := []) [] [] (cut_ev i0 100 hi0 (by decide)) Tryz.func13 (by kernel_rfl) rfl rfl rfl (⟨⟨_, rfl, rfl, rfl⟩, ⟨_, rfl, rfl, rfl⟩, trivial⟩) (trivial) (trivial) (trivial) rfl) trivial ?_
 refine .q rfl (op_fieldAddr (m := 1) Tryz.underlying60 rfl (by kernel_rfl) rfl) trivial ?_
 refine .as (.ptr 1000 0) rfl ?_
 refine .q rfl (op_indexAddr_arr Tryz.underlying57 inf9.sz rfl rfl (i := 0) rfl (by decide)) trivial ?_
 refine .as (.ptr 1000 0) rfl ?_
 refine .w rfl (op_store inf9.sz rfl rfl rfl rfl rfl (by show 0 < 101; decide)) trivial rfl rfl ?_
 refine .q rfl (op_fieldAddr (m := 1) Tryz.underlying60 rfl (by kernel_rfl) rfl) trivial ?_
 refine .as (.ptr 1000 2) rfl ?_
 refine .q rfl (op_indexAddr_arr Tryz.underlying57 inf9.sz rfl rfl (i := 0) rfl (by decide)) trivial ?_
 refine .as (.ptr 1000 2) rfl ?_
 refine .w rfl (op_store inf9.sz rfl rfl rfl rfl rfl (by show 2 < 101; decide)) trivial rfl rfl ?_
 refine .nil ?_
 show Ev _ _ _ _ _
 refine .region ?_
 refine .q (op_addI rfl rfl ⟨by omega, by omega⟩) trivial rfl ?_
 refine .as (.i64 1) rfl ?_
 refine .q (op_move rfl) trivial rfl ?_
 refine .nil ?_
 show Ev _ _ _ _ _
 refine .seq ?_
 refine .region ?_
 refine .q (op_cmpI rfl rfl rfl) trivial rfl ?_
 refine .nil ?_
 show Ev _ _ _ _ _
 refine .seq ?_
 refine .cond_true rfl (rfl) ?_
 refine .skip ?_
 show Ev _ _ _ _ _
 refine .seq ?_
 refine .block ?_
 refine .seq ?_
 refine .region ?_
 refine .q (op_move rfl) trivial rfl ?_
 refine .q (op_assign rfl) trivial rfl ?_
 refine .nil ?_
 show Ev _ _ _ _ _
 refine .drawn [[], [], [], [], [2, 3], [2, 3, 4], [2, 3, 4, 5], [], [], [7, 8], [7, 8, 9], [2, 3, 4, 5, 6, 7, 8, 9, 10], [], [0, 2, 3, 4, 5, 6, 7, 8, 9, 10, 12], [0, 2, 3, 4, 5, 6, 7, 8, 9, 10, 11, 12, 13], [], [0, 1, 2, 3, 4, 5, 6, 7, 8, 9, 10, 11, 12, 13, 14, 15], [0, 1, 2, 3, 4, 5, 6, 7, 8, 9, 10, 11, 12, 13, 14, 15, 16]] [5, 6, 10, 11, 14, 17] [14, 17] (by kernel_rfl) (by kernel_rfl) rfl ?_
 show DK _ [0, 1, 2, 3, 4, 5, 6, 7, 8, 9, 10, 11, 12, 13, 14, 15, 16, 17] _ _ _
 refine .q rfl (op_move rfl) trivial ?_
 refine .q rfl (op_move rfl) trivial ?_
 refine .q rfl (op_move rfl) trivial ?_
 refine .q rfl (op_fieldAddr (m := 1) Tryz.underlying60 rfl (by kernel_rfl) rfl) trivial ?_
 refine .as (.ptr 1000 0) rfl ?_
 refine .q rfl (op_indexAddr_arr Tryz.underlying57 inf9.sz rfl rfl (i := 1) rfl (by decide)) trivial ?_
 refine .as (.ptr 1000 1) rfl ?_
 refine .q rfl (op_load Tryz.underlying9 rfl rfl rfl rfl (by show 1 < 101; decide)) trivial ?_
 refine .as (.str l1) rfl ?_
 refine .q rfl (op_call (U := []) [] [] (cut_ev l1 60 hl1 (by decide)) Tryz.func13 (by kernel_rfl) rfl rfl rfl (⟨⟨_, rfl, rfl, rfl⟩, ⟨_, rfl, rfl, rfl⟩, trivial⟩) (trivial) (trivial) (trivial) rfl) trivial ?_
 refine .q rfl (op_move rfl) trivial ?_
 refine .q rfl (op_fieldAddr (m := 1) Tryz.underlying60 rfl (by kernel_rfl) rfl) trivial ?_
 refine .as (.ptr 1000 2) rfl ?_
 refine .q rfl (op_indexAddr_arr Tryz.underlying57 inf9.sz rfl rfl (i := 1) rfl (by decide)) trivial ?_
 refine .as (.ptr 1000 3) rfl ?_
 refine .q rfl (op_load Tryz.underlying9 rfl rfl rfl rfl (by show 3 < 101; decide)) trivial ?_
 refine .as (.str i1) rfl ?_
 refine .q rfl (op_call (U := []) [] [] (cut_ev i1 100 hi1 (by decide)) Tryz.func13 (by kernel_rfl) rfl rfl rfl (⟨⟨_, rfl, rfl, rfl⟩, ⟨_, rfl, rfl, rfl⟩, trivial⟩) (trivial) (trivial) (trivial) rfl) trivial ?_
 refine .q rfl (op_fieldAddr (m := 1) Tryz.underlying60 rfl (by kernel_rfl) rfl) trivial ?_
 refine .as (.ptr 1000 0) rfl ?_
 refine .q rfl (op_indexAddr_arr Tryz.underlying57 inf9.sz rfl rfl (i := 1) rfl (by decide)) trivial ?_
 refine .as (.ptr 1000 1) rfl ?_
 refine .w rfl (op_store inf9.sz rfl rfl rfl rfl rfl (by show 1 < 101; decide)) trivial rfl rfl ?_
 refine .q rfl (op_fieldAddr (m := 1) Tryz.underlying60 rfl (by kernel_rfl) rfl) trivial ?_
 refine .as (.ptr 1000 2) rfl ?_
 refine .q rfl (op_indexAddr_arr Tryz.underlying57 inf9.sz rfl rfl (i := 1) rfl (by decide)) trivial ?_
 refine .as (.ptr 1000 3) rfl ?_
 refine .w rfl (op_store inf9.sz rfl rfl rfl rfl rfl (by show 3 < 101; decide)) trivial rfl rfl ?_
 refine .nil ?_
 show Ev _ _ _ _ _
 refine .region ?_
 refine .q (op_addI rfl rfl ⟨by omega, by omega⟩) trivial rfl ?_
 refine .as (.i64 2) rfl ?_
 refine .q (op_move rfl) trivial rfl ?_
 refine .nil ?_
 show Ev _ _ _ _ _
 refine .seq ?_
 refine .region ?_
 refine .q (op_cmpI rfl rfl rfl) trivial rfl ?_
 refine .nil ?_
 show Ev _ _ _ _ _
 refine .seq ?_
 refine .cond_false rfl (rfl) ?_
 refine .exit ?_
 show Ev _ _ _ _ _
 refine .seq ?_
 refine .region ?_
 refine .q (op_fieldAddr (m := 0) Tryz.underlying60 rfl (by kernel_rfl) rfl) trivial rfl ?_
 refine .as (.ptr 1000 4) rfl ?_
 refine .q (op_load Tryz.underlying9 rfl rfl rfl rfl (by show 4 < 101; decide)) trivial rfl ?_
 refine .as (.str h) rfl ?_
 refine .q (op_call (U := []) [] [] (cut_ev h 60 hh (by decide)) Tryz.func13 (by kernel_rfl) rfl rfl rfl (⟨⟨_, rfl, rfl, rfl⟩, ⟨_, rfl, rfl, rfl⟩, trivial⟩) (trivial) (trivial) (trivial) rfl) trivial rfl ?_
 refine .q (op_fieldAddr (m := 0) Tryz.underlying60 rfl (by kernel_rfl) rfl) trivial rfl ?_
 refine .as (.ptr 1000 4) rfl ?_
 refine .w (op_store inf9.sz rfl rfl rfl rfl rfl (by show 4 < 101; decide)) trivial rfl ?_
 refine .nil ?_
 show Ev _ _ _ _ _
 refine .seq ?_
 refine .region ?_
 refine .q (op_loadRow Tryz.underlying60 rfl (by kernel_rfl) rfl rfl rfl (rfl)) trivial rfl ?_
 refine .as (exC (l0.take 60) (l1.take 60) (i0.take 100) (i1.take 100) (h.take 60) p0 p1 sec) rfl ?_
 refine .w (op_storeRow (by kernel_rfl) rfl rfl rfl rfl rfl (rfl) (rfl)) trivial rfl ?_
 refine .nil ?_
 show Ev _ _ _ _ _
 refine .ret ?_
 show RetOk _ _ _ _ _ _ _
 exact retc1 rfl (.inl rfl) ⟨_, _, _, _, rfl, rfl, rfl, rfl, rfl, Tryz.underlying60, rfl, sz60⟩ trivial
end Go.Proofs.YtdmlpblaelfdmaaGreatDoor
