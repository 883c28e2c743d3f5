/-
  The laws ChachaXors and ChachaParts, walked.
-/
import Derived.Test.YtaenhghihhhikaaDoorZb
namespace Go.Proofs.YtaenhghihhhikaaDoor
open Go.RowKit
set_option maxHeartbeats 1000000 in
set_option maxRecDepth 100000 in
theorem chachaXors_ev (e : Nat) (key : List UInt8) (ctr : UInt32) (s : List UInt8) (hk : key.length = 32) (hs : s.length ≤ maxLen) : Meets Tryd.prog 4 [.aggB key, .u32 ctr, .str s] (HQ e) (.bool true) [] := by
  have hk0 : 32 ≤ key.length := by omega
  refine meets_of_ev (nt := 43) Tryd.func4 rfl rfl (Nat.le_of_ble_eq_true rfl) ?_
  refine .seq ?_
  refine .region ?_
  refine .a (op_boxRow rfl rfl) trivial rfl ?_
  refine .q (op_assign rfl) trivial rfl ?_
  refine .nil ?_
  show Ev _ _ _ _ _
  refine .seq ?_
  refine .seq ?_
  refine .region ?_
  refine .q (op_call (U := []) [] [] (awake3_ev e) Tryd.func12 (by kernel_rfl) rfl rfl rfl (trivial) (⟨⟨_, _, rfl, rfl, rfl, rfl, id, rfl⟩, trivial⟩) (trivial) (⟨(fun h => by cases h), trivial⟩) rfl) trivial rfl ?_
  refine .q (op_notB rfl) trivial rfl ?_
  refine .nil ?_
  show Ev _ _ _ _ _
  refine .cond_false rfl (rfl) ?_
  refine .skip ?_
  show Ev _ _ _ _ _
  refine .seq ?_
  refine .region ?_
  refine .q (op_move rfl) trivial rfl ?_
  refine .q (op_call (U := []) [] [] (cut_ev s 300 hs (by decide)) Tryd.func15 (by kernel_rfl) rfl rfl rfl (⟨⟨_, rfl, rfl, rfl⟩, ⟨_, rfl, rfl, rfl⟩, trivial⟩) (trivial) (trivial) (trivial) rfl) trivial rfl ?_
  refine .q (op_assign rfl) trivial rfl ?_
  refine .nil ?_
  show Ev _ _ _ _ _
  refine .seq ?_
  refine .region ?_
  refine .q (op_move rfl) trivial rfl ?_
  refine .q (op_len_str Tryd.underlying9 rfl) trivial rfl ?_
  refine .q (op_conv Tryd.underlying3 Tryd.underlying5 rfl rfl) trivial rfl ?_
  refine .q (ap_idx_arr Tryd.underlying22 inf5.sz rfl rfl rfl (by first | omega | (simp only [AV.len]; omega) | assumption | (simp [AV.len]; done))) trivial rfl ?_
  refine .q (op_load Tryd.underlying5 rfl rfl rfl rfl (by rw [show (AV.aggB key).len = key.length from rfl, hk]; decide)) trivial rfl ?_
  refine .q (op_buildArr (us := [(0, _), (5, _)]) Tryd.underlying24 inf5.sz zero24 rel_zero24 rfl (by decide) ⟨rfl, rfl, rfl, rfl, rfl, rfl, trivial⟩ rfl) trivial rfl ?_
  refine .a (op_allocRow zero24 rel_zero24 rfl) trivial rfl ?_
  refine .w (op_storeRow sz24 rfl rfl rfl rfl rfl (by first | omega | (simp only [AV.len]; omega) | assumption | (simp [AV.len]; done)) (by first | omega | (simp only [AV.len]; omega) | assumption | (simp [AV.len]; done))) trivial rfl ?_
  refine .nil ?_
  show Ev _ _ _ _ _
  refine .seq ?_
  refine .region ?_
  refine .q (op_loadRow Tryd.underlying22 rfl sz22 rfl rfl rfl (hk)) trivial rfl ?_
  refine .q (op_move rfl) trivial rfl ?_
  refine .q (op_loadRow Tryd.underlying24 rfl sz24 rfl rfl rfl (by simp [AV.len])) trivial rfl ?_
  refine .q (op_move rfl) trivial rfl ?_
  refine .q (op_call (U := []) [] [] (cxor_ev e _ _ _ _ hk (by simp) (by first | (simp only [length_cXor, List.length_take]; omega) | (simp only [List.length_take]; omega))) Tryd.func16 (by kernel_rfl) rfl rfl rfl (⟨⟨_, rfl, rfl, rfl⟩, ⟨_, rfl, rfl, rfl⟩, ⟨_, rfl, rfl, rfl⟩, ⟨_, rfl, rfl, rfl⟩, trivial⟩) (⟨⟨_, _, rfl, rfl, rfl, rfl, id, rfl⟩, trivial⟩) (trivial) (⟨(fun h => by cases h), trivial⟩) rfl) trivial rfl ?_
  refine .q (op_assign rfl) trivial rfl ?_
  refine .nil ?_
  show Ev _ _ _ _ _
  refine .seq ?_
  refine .drawn [[], [], [1], [], [3], [], [5], [], [1, 2, 3, 4, 5, 6, 7], [0, 1, 2, 3, 4, 5, 6, 7, 8], [0, 1, 2, 3, 4, 5, 6, 7, 8, 9], [0, 1, 2, 3, 4, 5, 6, 7, 8, 9, 10], [0, 1, 2, 3, 4, 5, 6, 7, 8, 9, 10], [0, 1, 2, 3, 4, 5, 6, 7, 8, 9, 10], [0, 1, 2, 3, 4, 5, 6, 7, 8, 9, 10], [0, 1, 2, 3, 4, 5, 6, 7, 8, 9, 10, 11, 12, 13, 14], [0, 1, 2, 3, 4, 5, 6, 7, 8, 9, 10], [0, 1, 2, 3, 4, 5, 6, 7, 8, 9, 10, 11, 12, 13, 14, 15, 16], [0, 1, 2, 3, 4, 5, 6, 7, 8, 9, 10, 11, 12, 13, 14, 15, 16, 17], [0, 1, 2, 3, 4, 5, 6, 7, 8, 9, 10, 11, 12, 13, 14, 15, 16, 17, 18]] [1, 2, 5, 6, 8, 11, 13, 15] [] (by kernel_rfl) (by kernel_rfl) rfl ?_
  show DK _ [0, 1, 2, 3, 4, 5, 6, 7, 8, 9, 10, 11, 12, 13, 14, 15, 16, 17, 18, 19] _ _ _
  refine .q rfl (op_move rfl) trivial ?_
  refine .q rfl (ap_slice_arr_hi Tryd.underlying22 inf5.sz rfl rfl (by first | omega | (simp only [AV.len]; omega) | assumption | (simp [AV.len]; done)) (by decide) rfl (by first | omega | (simp only [AV.len]; omega) | assumption | (simp [AV.len]; done))) trivial ?_
  refine .q rfl (op_bytes_str Tryd.underlying28 Tryd.underlying5 Tryd.underlying9 rfl rfl rfl (by omega)) trivial ?_
  refine .as (.str key) (by rw [List.drop_zero, List.take_of_length_le (by omega)]) ?_
  refine .q rfl (op_move rfl) trivial ?_
  refine .q rfl (op_conv Tryd.underlying23 Tryd.underlying30 rfl rfl) trivial ?_
  refine .q rfl (ap_slice_arr_hi Tryd.underlying24 inf5.sz rfl rfl (by simp [AV.len]) (by decide) rfl (by simp [AV.len])) trivial ?_
  refine .q rfl (op_bytes_str Tryd.underlying28 Tryd.underlying5 Tryd.underlying9 rfl rfl rfl (by simp)) trivial ?_
  refine .as (.str _) (by rw [List.drop_zero, List.take_of_length_le (by simp)]) ?_
  refine .q rfl (op_move rfl) trivial ?_
  refine .q rfl (op_call (U := []) [] [] (refCxor_ev _ _ _ ctr _ (by simp) hk (by simp) (by simp only [List.length_take]; omega)) Tryd.func17 (by kernel_rfl) rfl rfl rfl (⟨⟨_, rfl, rfl, rfl⟩, ⟨_, rfl, rfl, rfl⟩, ⟨_, rfl, rfl, rfl⟩, ⟨_, rfl, rfl, rfl⟩, trivial⟩) (trivial) (trivial) (trivial) rfl) trivial ?_
  refine .q rfl (op_eqS rfl rfl rfl) trivial ?_
  refine .q rfl (op_move rfl) trivial ?_
  refine .know (b' := true) (by simp) ?_
  refine .q rfl (op_loadRow Tryd.underlying22 rfl sz22 rfl rfl rfl (hk)) ⟨_, rfl, rfl⟩ ?_
  refine .q rfl (op_move rfl) ⟨_, rfl, rfl⟩ ?_
  refine .q rfl (op_loadRow Tryd.underlying24 rfl sz24 rfl rfl rfl (by simp [AV.len])) ⟨_, rfl, rfl⟩ ?_
  refine .q rfl (op_move rfl) ⟨_, rfl, rfl⟩ ?_
  refine .q rfl (op_call (U := []) [] [] (cxor_ev e _ _ _ _ hk (by simp) (by first | (simp only [length_cXor, List.length_take]; omega) | (simp only [List.length_take]; omega))) Tryd.func16 (by kernel_rfl) rfl rfl rfl (⟨⟨_, rfl, rfl, rfl⟩, ⟨_, rfl, rfl, rfl⟩, ⟨_, rfl, rfl, rfl⟩, ⟨_, rfl, rfl, rfl⟩, trivial⟩) (⟨⟨_, _, rfl, rfl, rfl, rfl, id, rfl⟩, trivial⟩) (trivial) (⟨(fun h => by cases h), trivial⟩) rfl) ⟨_, rfl, rfl⟩ ?_
  refine .q rfl (op_move rfl) ⟨_, rfl, rfl⟩ ?_
  refine .q rfl (op_eqS rfl rfl rfl) ⟨_, rfl, rfl⟩ ?_
  refine .q rfl (op_pick_true rfl rfl rfl) trivial ?_
  refine .q rfl (op_assign rfl) trivial ?_
  refine .nil ?_
  show Ev _ _ _ _ _
  refine .ret ?_
  show RetOk _ _ _ _ _ _ _
  exact ret1v rfl (.inl rfl) rfl (by rw [cXor_twice]; simp) trivial
theorem ofI32_nat (k : Nat) : ofI32 (k : Int) = UInt32.ofNat k := by
  apply UInt32.toNat_inj.1
  have h := ofI32_toNat (k : Int)
  rw [UInt32.toNat_ofNat']
  omega
set_option maxHeartbeats 1000000 in
set_option maxRecDepth 100000 in
theorem chachaParts_ev (e : Nat) (key : List UInt8) (s : List UInt8) (cut : Int) (hk : key.length = 32) (hs : s.length ≤ maxLen) : Meets Tryd.prog 5 [.aggB key, .str s, .i64 cut] (HQ e) (.bool true) [] := by
  have hk0 : 32 ≤ key.length := by omega
  have hl3 : (s.take 300).length ≤ 300 := List.length_take_le _ _
  obtain ⟨k, hk1, hk2⟩ : ∃ k : Nat, max 0 (min cut ((s.take 300).length : Int)) / 64 = (k : Int) ∧ 64 * k ≤ (s.take 300).length := ⟨(max 0 (min cut ((s.take 300).length : Int)) / 64).toNat, by omega, by omega⟩
  refine meets_of_ev (nt := 41) Tryd.func5 rfl rfl (Nat.le_of_ble_eq_true rfl) ?_
  refine .seq ?_
  refine .region ?_
  refine .a (op_boxRow rfl rfl) trivial rfl ?_
  refine .q (op_assign rfl) trivial rfl ?_
  refine .nil ?_
  show Ev _ _ _ _ _
  refine .seq ?_
  refine .seq ?_
  refine .region ?_
  refine .q (op_call (U := []) [] [] (awake3_ev e) Tryd.func12 (by kernel_rfl) rfl rfl rfl (trivial) (⟨⟨_, _, rfl, rfl, rfl, rfl, id, rfl⟩, trivial⟩) (trivial) (⟨(fun h => by cases h), trivial⟩) rfl) trivial rfl ?_
  refine .q (op_notB rfl) trivial rfl ?_
  refine .nil ?_
  show Ev _ _ _ _ _
  refine .cond_false rfl (rfl) ?_
  refine .skip ?_
  show Ev _ _ _ _ _
  refine .seq ?_
  refine .region ?_
  refine .q (op_move rfl) trivial rfl ?_
  refine .q (op_call (U := []) [] [] (cut_ev s 300 hs (by decide)) Tryd.func15 (by kernel_rfl) rfl rfl rfl (⟨⟨_, rfl, rfl, rfl⟩, ⟨_, rfl, rfl, rfl⟩, trivial⟩) (trivial) (trivial) (trivial) rfl) trivial rfl ?_
  refine .q (op_assign rfl) trivial rfl ?_
  refine .nil ?_
  show Ev _ _ _ _ _
  refine .seq ?_
  refine .region ?_
  refine .q (op_move rfl) trivial rfl ?_
  refine .q (op_move rfl) trivial rfl ?_
  refine .q (op_len_str Tryd.underlying9 rfl) trivial rfl ?_
  refine .q (op_minI rfl rfl) trivial rfl ?_
  refine .q (op_maxI rfl rfl) trivial rfl ?_
  refine .q (op_quoI rfl rfl ⟨by first | omega | decide, ⟨by first | omega | decide, by first | omega | decide⟩, by first | omega | decide⟩) trivial rfl ?_
  refine .q (op_assign rfl) trivial rfl ?_
  refine .as (.i64 (k : Int)) (congrArg AV.i64 hk1) ?_
  refine .nil ?_
  show Ev _ _ _ _ _
  refine .seq ?_
  refine .region ?_
  refine .a (op_allocRow zero24 rel_zero24 rfl) trivial rfl ?_
  refine .nil ?_
  show Ev _ _ _ _ _
  refine .seq ?_
  refine .drawn [[], [], [], [], [3], [2, 3, 4], [0, 1, 2, 3, 4, 5], [], [], [8], [], [], [], [12], [11, 12, 13], [0, 1, 2, 3, 4, 5, 6, 7, 8, 9, 10, 11, 12, 13, 14], [0, 1, 2, 3, 4, 5, 6, 7, 8, 9, 10, 11, 12, 13, 14, 15], [], [], [], [0, 1, 2, 3, 4, 5, 6, 7, 8, 9, 10, 11, 12, 13, 14, 15, 17, 18, 19], [0, 1, 2, 3, 4, 5, 6, 7, 8, 9, 10, 11, 12, 13, 14, 15, 16, 17, 18, 19, 20], [0, 1, 2, 3, 4, 5, 6, 7, 8, 9, 10, 11, 12, 13, 14, 15, 16, 17, 18, 19, 20, 21]] [0, 1, 6, 7, 10, 15, 17, 18, 20] [] (by kernel_rfl) (by kernel_rfl) rfl ?_
  show DK _ [0, 1, 2, 3, 4, 5, 6, 7, 8, 9, 10, 11, 12, 13, 14, 15, 16, 17, 18, 19, 20, 21, 22] _ _ _
  refine .q rfl (op_loadRow Tryd.underlying22 rfl sz22 rfl rfl rfl (hk)) trivial ?_
  refine .q rfl (op_loadRow Tryd.underlying24 rfl sz24 rfl rfl rfl (by simp [AV.len])) trivial ?_
  refine .q rfl (op_move rfl) trivial ?_
  refine .q rfl (op_move rfl) trivial ?_
  refine .q rfl (op_mulI rfl rfl ⟨by first | omega | (simp only [AV.len]; omega) | assumption | (simp [AV.len]; done), by first | omega | (simp only [AV.len]; omega) | assumption | (simp [AV.len]; done)⟩) trivial ?_
  refine .q rfl (ap_slice_str_hi Tryd.underlying9 rfl (bnd_some rfl (l := 64 * k) (by omega)) (by omega)) trivial ?_
  refine .q rfl (op_call (U := []) [] [] (cxor_ev e _ _ _ _ hk (by simp) (by first | (simp only [List.length_take, List.length_drop]; omega))) Tryd.func16 (by kernel_rfl) rfl rfl rfl (⟨⟨_, rfl, rfl, rfl⟩, ⟨_, rfl, rfl, rfl⟩, ⟨_, rfl, rfl, rfl⟩, ⟨_, rfl, rfl, rfl⟩, trivial⟩) (⟨⟨_, _, rfl, rfl, rfl, rfl, id, rfl⟩, trivial⟩) (trivial) (⟨(fun h => by cases h), trivial⟩) rfl) trivial ?_
  refine .q rfl (op_loadRow Tryd.underlying22 rfl sz22 rfl rfl rfl (hk)) trivial ?_
  refine .q rfl (op_move rfl) trivial ?_
  refine .q rfl (op_conv Tryd.underlying3 Tryd.underlying23 rfl rfl) trivial ?_
  refine .q rfl (op_loadRow Tryd.underlying24 rfl sz24 rfl rfl rfl (by simp [AV.len])) trivial ?_
  refine .q rfl (op_move rfl) trivial ?_
  refine .q rfl (op_move rfl) trivial ?_
  refine .q rfl (op_mulI rfl rfl ⟨by first | omega | (simp only [AV.len]; omega) | assumption | (simp [AV.len]; done), by first | omega | (simp only [AV.len]; omega) | assumption | (simp [AV.len]; done)⟩) trivial ?_
  refine .q rfl (ap_slice_str_lo Tryd.underlying9 rfl (bnd_some rfl (l := 64 * k) (by omega)) (by omega)) trivial ?_
  refine .q rfl (op_call (U := []) [] [] (cxor_ev e _ _ _ _ hk (by simp) (by first | (simp only [List.length_take, List.length_drop]; omega))) Tryd.func16 (by kernel_rfl) rfl rfl rfl (⟨⟨_, rfl, rfl, rfl⟩, ⟨_, rfl, rfl, rfl⟩, ⟨_, rfl, rfl, rfl⟩, ⟨_, rfl, rfl, rfl⟩, trivial⟩) (⟨⟨_, _, rfl, rfl, rfl, rfl, id, rfl⟩, trivial⟩) (trivial) (⟨(fun h => by cases h), trivial⟩) rfl) trivial ?_
  refine .q rfl (op_addS rfl rfl (by simp only [length_cXor, List.length_take, List.length_drop]; omega)) trivial ?_
  refine .q rfl (op_loadRow Tryd.underlying22 rfl sz22 rfl rfl rfl (hk)) trivial ?_
  refine .q rfl (op_loadRow Tryd.underlying24 rfl sz24 rfl rfl rfl (by simp [AV.len])) trivial ?_
  refine .q rfl (op_move rfl) trivial ?_
  refine .q rfl (op_call (U := []) [] [] (cxor_ev e _ _ _ _ hk (by simp) (by first | (simp only [List.length_take, List.length_drop]; omega))) Tryd.func16 (by kernel_rfl) rfl rfl rfl (⟨⟨_, rfl, rfl, rfl⟩, ⟨_, rfl, rfl, rfl⟩, ⟨_, rfl, rfl, rfl⟩, ⟨_, rfl, rfl, rfl⟩, trivial⟩) (⟨⟨_, _, rfl, rfl, rfl, rfl, id, rfl⟩, trivial⟩) (trivial) (⟨(fun h => by cases h), trivial⟩) rfl) trivial ?_
  refine .q rfl (op_eqS rfl rfl rfl) trivial ?_
  refine .q rfl (op_assign rfl) trivial ?_
  refine .nil ?_
  show Ev _ _ _ _ _
  refine .ret ?_
  show RetOk _ _ _ _ _ _ _
  exact ret1v rfl (.inl rfl) rfl (by rw [show ofI32 (k : Int) = UInt32.ofNat k from ofI32_nat k, show UInt32.ofNat 0 = 0 from rfl, cXor_parts _ _ _ k hk2]; simp) trivial
end Go.Proofs.YtaenhghihhhikaaDoor
