/-
  Texts of this claim.
-/
import Derived.Test.YtjhpelajhkhlcaaGQ
namespace Go.Proofs.Ytjhpelajhkhlcaa
open Go.RowKit
theorem le_bs (v n : Nat) : leN (bsN v n) n = v % 256 ^ n := by
  induction n with
  | zero => simp [leN, Nat.mod_one]
  | succ n ih =>
    have e : leN (bsN v (n + 1)) n = leN (bsN v n) n := leN_congr _ _ _ fun i hi => by
      simp only [bsN]; rw [getD_app, if_pos (by rw [length_bsN]; exact hi)]
    simp only [leN]
    rw [e, ih, bs_get v (n + 1) n (by omega)]
    have h := Nat.mod_mul (x := v) (a := 256 ^ n) (b := 256)
    have h2 : (UInt8.ofNat (v / 256 ^ n % 256)).toNat = v / 256 ^ n % 256 := by simp
    rw [h2, Nat.pow_succ, h]
theorem of8_ev (v : Nat) (hv : v < 18446744073709551616) : Meets Try.prog 14 [.str (bsN v 8)] [] (.sl 1000 0 (dl v) 1) [(1000, some ⟨.aggI (dg v), 3, true⟩)] := by
  have h : leN (bsN v 8) (bsN v 8).length = v := by rw [length_bsN, le_bs, Nat.mod_eq_of_lt (by omega)]
  have := of_ev (bsN v 8) (by rw [length_bsN]; decide)
  rwa [h] at this
theorem sh_b (n : UInt64) (k : Nat) (hk : k < 64) : (n >>> UInt64.ofNat k).toUInt8 = UInt8.ofNat (n.toNat / 2 ^ k % 256) := by
  apply UInt8.toNat_inj.1
  have h : k % 18446744073709551616 % 64 = k := by omega
  simp [UInt64.toNat_shiftRight, Nat.shiftRight_eq_div_pow, h]
theorem n_bytes (n : UInt64) : (([n.toUInt8, (n >>> UInt64.ofNat 8).toUInt8, (n >>> UInt64.ofNat 16).toUInt8, (n >>> UInt64.ofNat 24).toUInt8, (n >>> UInt64.ofNat 32).toUInt8, (n >>> UInt64.ofNat 40).toUInt8, (n >>> UInt64.ofNat 48).toUInt8, (n >>> UInt64.ofNat 56).toUInt8] : List UInt8).drop 0).take 8 = bsN n.toNat 8 := by
  have h0 : n.toUInt8 = UInt8.ofNat (n.toNat % 256) := by apply UInt8.toNat_inj.1; simp
  rw [h0, sh_b n 8 (by decide), sh_b n 16 (by decide), sh_b n 24 (by decide), sh_b n 32 (by decide), sh_b n 40 (by decide), sh_b n 48 (by decide), sh_b n 56 (by decide)]
  simp [bsN]
theorem zero_dl (a : Nat) : (decide (a = 0) == decide (((dl a : Nat) : Int) = 0)) = true := by
  by_cases h : a = 0
  · subst h; rw [dl_zero]; rfl
  · have := dl_pos h
    rw [decide_eq_false h, decide_eq_false (by omega)]; rfl
set_option maxHeartbeats 2000000 in
set_option maxRecDepth 100000 in
theorem fieldReads_gen (s : List UInt8) (n : UInt64) (a : Nat) (ea : ofV (s.take 40) = a) (ha : a < fp) (hs : s.length ≤ maxLen) : Meets Try.prog 3 [.str s, .u64 n] [] (.bool true) [] := by
  refine meets_of_ev (nt := 64) Try.func3 rfl rfl (Nat.le_of_ble_eq_true rfl) ?_
  refine .seq ?_
  refine .region ?_
  refine .q (op_assign rfl) trivial rfl ?_
  refine .nil ?_
  show Ev _ _ _ _ _
  refine .seq ?_
  refine .seq ?_
  refine .region ?_
  refine .q (op_call (U := []) [] [] (awake5_ev) Try.func5 (by kernel_rfl) rfl rfl rfl (trivial) (trivial) (trivial) (trivial) rfl) trivial rfl ?_
  refine .q (op_notB rfl) trivial rfl ?_
  refine .nil ?_
  show Ev _ _ _ _ _
  refine .cond_false rfl (rfl) ?_
  refine .skip ?_
  show Ev _ _ _ _ _
  refine .seq ?_
  refine .region ?_
  refine .q (op_move rfl) trivial rfl ?_
  refine .q (op_call (U := []) [] [] (cut_ev s 40 hs (by decide)) Try.func6 (by kernel_rfl) rfl rfl rfl (⟨⟨_, rfl, rfl, rfl⟩, ⟨_, rfl, rfl, rfl⟩, trivial⟩) (trivial) (trivial) (trivial) rfl) trivial rfl ?_
  refine .q (op_assign rfl) trivial rfl ?_
  refine .nil ?_
  show Ev _ _ _ _ _
  refine .seq ?_
  refine .region ?_
  refine .q (op_move rfl) trivial rfl ?_
  refine .a (op_call (U := [(1000, some ⟨.aggI (dg (a)), 3, true⟩)]) [] [(1000, 1000)] (of05_as (s.take 40) a ea (by simp only [List.length_take]; omega)) Try.func7 (by kernel_rfl) rfl rfl rfl (⟨⟨_, rfl, rfl, rfl⟩, trivial⟩) (trivial) (⟨⟨1000, _, rfl, rfl, rfl, rfl, .inl rfl⟩, trivial⟩) (trivial) rfl) trivial rfl ?_
  refine .q (op_assign rfl) trivial rfl ?_
  refine .nil ?_
  show Ev _ _ _ _ _
  refine .seq ?_
  refine .region ?_
  refine .q (op_move rfl) trivial rfl ?_
  refine .q (op_call (U := []) [] [] (fof_ev _ (by simp only [List.length_take]; omega)) Try.func8 (by kernel_rfl) rfl rfl rfl (⟨⟨_, rfl, rfl, rfl⟩, trivial⟩) (trivial) (trivial) (trivial) rfl) trivial rfl ?_
  refine .as (.agg64 (fl a)) (congrArg (fun x => AV.agg64 (fl x)) ea) ?_
  refine .a (op_allocRow zero29 rel_zero29 rfl) trivial rfl ?_
  refine .w (op_storeRow sz29 rfl rfl rfl rfl rfl (rfl) (rfl)) trivial rfl ?_
  refine .nil ?_
  show Ev _ _ _ _ _
  refine .seq ?_
  refine .drawn [[], [], [0, 1], [0, 1, 2], [0, 1, 2, 3], [0, 1, 2, 3, 4], [0, 1, 2, 3], [0, 1, 2, 3, 4, 5, 6], [0, 1, 2, 3, 4, 5, 6, 7], [0, 1, 2, 3, 4, 5, 6, 7, 8], [0, 1, 2, 3, 4, 5, 6, 7, 8, 9], [0, 1, 2, 3, 4, 5, 6, 7, 8, 9, 10], [0, 1, 2, 3, 4, 5, 6, 7, 8, 9, 10, 11], [0, 1, 2, 3, 4, 5, 6, 7, 8, 9, 10], [0, 1, 2, 3, 4, 5, 6, 7, 8, 9, 10, 13], [0, 1, 2, 3, 4, 5, 6, 7, 8, 9, 10, 13, 14], [0, 1, 2, 3, 4, 5, 6, 7, 8, 9, 10, 11, 12, 13, 14, 15], [0, 1, 2, 3, 4, 5, 6, 7, 8, 9, 10, 11, 12, 13, 14, 15, 16], [0, 1, 2, 3, 4, 5, 6, 7, 8, 9, 10, 11, 12, 13, 14, 15, 16, 17], [0, 1, 2, 3, 4, 5, 6, 7, 8, 9, 10, 11, 12, 13, 14, 15, 16, 17, 18], [0, 1, 2, 3, 4, 5, 6, 7, 8, 9, 10, 11, 12, 13, 14, 15, 16, 17, 18, 19], [0, 1, 2, 3, 4, 5, 6, 7, 8, 9, 10, 11, 12, 13, 14, 15, 16, 17, 18], [0, 1, 2, 3, 4, 5, 6, 7, 8, 9, 10, 11, 12, 13, 14, 15, 16, 17, 18, 21], [0, 1, 2, 3, 4, 5, 6, 7, 8, 9, 10, 11, 12, 13, 14, 15, 16, 17, 18], [0, 1, 2, 3, 4, 5, 6, 7, 8, 9, 10, 11, 12, 13, 14, 15, 16, 17, 18, 23], [0, 1, 2, 3, 4, 5, 6, 7, 8, 9, 10, 11, 12, 13, 14, 15, 16, 17, 18, 23, 24], [0, 1, 2, 3, 4, 5, 6, 7, 8, 9, 10, 11, 12, 13, 14, 15, 16, 17, 18], [0, 1, 2, 3, 4, 5, 6, 7, 8, 9, 10, 11, 12, 13, 14, 15, 16, 17, 18, 26], [0, 1, 2, 3, 4, 5, 6, 7, 8, 9, 10, 11, 12, 13, 14, 15, 16, 17, 18, 26, 27], [0, 1, 2, 3, 4, 5, 6, 7, 8, 9, 10, 11, 12, 13, 14, 15, 16, 17, 18], [0, 1, 2, 3, 4, 5, 6, 7, 8, 9, 10, 11, 12, 13, 14, 15, 16, 17, 18, 29], [0, 1, 2, 3, 4, 5, 6, 7, 8, 9, 10, 11, 12, 13, 14, 15, 16, 17, 18, 29, 30], [0, 1, 2, 3, 4, 5, 6, 7, 8, 9, 10, 11, 12, 13, 14, 15, 16, 17, 18], [0, 1, 2, 3, 4, 5, 6, 7, 8, 9, 10, 11, 12, 13, 14, 15, 16, 17, 18, 32], [0, 1, 2, 3, 4, 5, 6, 7, 8, 9, 10, 11, 12, 13, 14, 15, 16, 17, 18, 32, 33], [0, 1, 2, 3, 4, 5, 6, 7, 8, 9, 10, 11, 12, 13, 14, 15, 16, 17, 18], [0, 1, 2, 3, 4, 5, 6, 7, 8, 9, 10, 11, 12, 13, 14, 15, 16, 17, 18, 35], [0, 1, 2, 3, 4, 5, 6, 7, 8, 9, 10, 11, 12, 13, 14, 15, 16, 17, 18, 35, 36], [0, 1, 2, 3, 4, 5, 6, 7, 8, 9, 10, 11, 12, 13, 14, 15, 16, 17, 18], [0, 1, 2, 3, 4, 5, 6, 7, 8, 9, 10, 11, 12, 13, 14, 15, 16, 17, 18, 38], [0, 1, 2, 3, 4, 5, 6, 7, 8, 9, 10, 11, 12, 13, 14, 15, 16, 17, 18, 38, 39], [0, 1, 2, 3, 4, 5, 6, 7, 8, 9, 10, 11, 12, 13, 14, 15, 16, 17, 18], [0, 1, 2, 3, 4, 5, 6, 7, 8, 9, 10, 11, 12, 13, 14, 15, 16, 17, 18, 41], [0, 1, 2, 3, 4, 5, 6, 7, 8, 9, 10, 11, 12, 13, 14, 15, 16, 17, 18, 41, 42], [0, 1, 2, 3, 4, 5, 6, 7, 8, 9, 10, 11, 12, 13, 14, 15, 16, 17, 18, 21, 22, 23, 24, 25, 26, 27, 28, 29, 30, 31, 32, 33, 34, 35, 36, 37, 38, 39, 40, 41, 42, 43], [0, 1, 2, 3, 4, 5, 6, 7, 8, 9, 10, 11, 12, 13, 14, 15, 16, 17, 18, 21, 22, 23, 24, 25, 26, 27, 28, 29, 30, 31, 32, 33, 34, 35, 36, 37, 38, 39, 40, 41, 42, 43, 44], [0, 1, 2, 3, 4, 5, 6, 7, 8, 9, 10, 11, 12, 13, 14, 15, 16, 17, 18, 19, 20, 21, 22, 23, 24, 25, 26, 27, 28, 29, 30, 31, 32, 33, 34, 35, 36, 37, 38, 39, 40, 41, 42, 43, 44, 45], [0, 1, 2, 3, 4, 5, 6, 7, 8, 9, 10, 11, 12, 13, 14, 15, 16, 17, 18, 19, 20, 21, 22, 23, 24, 25, 26, 27, 28, 29, 30, 31, 32, 33, 34, 35, 36, 37, 38, 39, 40, 41, 42, 43, 44, 45, 46], [0, 1, 2, 3, 4, 5, 6, 7, 8, 9, 10, 11, 12, 13, 14, 15, 16, 17, 18, 19, 20, 21, 22, 23, 24, 25, 26, 27, 28, 29, 30, 31, 32, 33, 34, 35, 36, 37, 38, 39, 40, 41, 42, 43, 44, 45, 46, 47], [0, 1, 2, 3, 4, 5, 6, 7, 8, 9, 10, 11, 12, 13, 14, 15, 16, 17, 18, 19, 20, 21, 22, 23, 24, 25, 26, 27, 28, 29, 30, 31, 32, 33, 34, 35, 36, 37, 38, 39, 40, 41, 42, 43, 44, 45, 46, 47, 48]] [0, 2, 4, 5, 7, 11, 12, 20, 44, 45, 46, 47] [] (by kernel_rfl) (by kernel_rfl) rfl ?_
  show DK _ [0, 1, 2, 3, 4, 5, 6, 7, 8, 9, 10, 11, 12, 13, 14, 15, 16, 17, 18, 19, 20, 21, 22, 23, 24, 25, 26, 27, 28, 29, 30, 31, 32, 33, 34, 35, 36, 37, 38, 39, 40, 41, 42, 43, 44, 45, 46, 47, 48, 49] _ _ _
  refine .q rfl (op_loadRow Try.underlying29 rfl sz29 rfl rfl rfl (rfl)) trivial ?_
  refine .q rfl (op_move rfl) trivial ?_
  refine .q rfl (op_call (U := []) [(500, 1000)] [] (is_ev (a)) Try.func9 (by kernel_rfl) rfl rfl rfl (⟨⟨_, rfl, rfl, rfl⟩, ⟨_, rfl, rfl, rfl⟩, trivial⟩) (⟨⟨_, ⟨.aggI (dg (a)), 3, true⟩, rfl, by kernel_rfl, rfl, rfl, (fun h => by cases h), rfl⟩, trivial⟩) (trivial) (⟨(fun h => by cases h), trivial⟩) rfl) trivial ?_
  refine .q rfl (op_move rfl) trivial ?_
  refine .know (b' := true) (rfl) ?_
  refine .q rfl (op_loadRow Try.underlying29 rfl sz29 rfl rfl rfl (rfl)) ⟨_, rfl, rfl⟩ ?_
  refine .q rfl (op_call (U := []) [] [] (fodd_ev _) Try.func10 (by kernel_rfl) rfl rfl rfl (⟨⟨_, rfl, rfl, rfl⟩, trivial⟩) (trivial) (trivial) (trivial) rfl) ⟨_, rfl, rfl⟩ ?_
  refine .q rfl (op_move rfl) ⟨_, rfl, rfl⟩ ?_
  refine .q rfl (op_call (U := []) [(500, 1000)] [] (odd05 a (by have := dl_of_fp (a := a) ha; omega)) Try.func11 (by kernel_rfl) rfl rfl rfl (⟨⟨_, rfl, rfl, rfl⟩, trivial⟩) (⟨⟨_, _, rfl, rfl, rfl, rfl, (fun h => by cases h), rfl⟩, trivial⟩) (trivial) (⟨(fun h => by cases h), trivial⟩) rfl) ⟨_, rfl, rfl⟩ ?_
  refine .q rfl (op_eqB Try.underlying4 rfl rfl rfl) ⟨_, rfl, rfl⟩ ?_
  refine .q rfl (op_pick_true rfl rfl rfl) trivial ?_
  refine .q rfl (op_move rfl) trivial ?_
  refine .know (b' := true) (by simp) ?_
  refine .q rfl (op_loadRow Try.underlying29 rfl sz29 rfl rfl rfl (rfl)) ⟨_, rfl, rfl⟩ ?_
  refine .q rfl (op_call (U := []) [] [] (fzero_ev _ (by first | assumption | exact fmod_lt _ | exact ofV_lt _ | exact fp_pos | decide)) Try.func12 (by kernel_rfl) rfl rfl rfl (⟨⟨_, rfl, rfl, rfl⟩, trivial⟩) (trivial) (trivial) (trivial) rfl) ⟨_, rfl, rfl⟩ ?_
  refine .q rfl (op_move rfl) ⟨_, rfl, rfl⟩ ?_
  refine .q rfl (op_len_sl Try.underlying25 rfl) ⟨_, rfl, rfl⟩ ?_
  refine .q rfl (op_cmpI rfl rfl rfl) ⟨_, rfl, rfl⟩ ?_
  refine .q rfl (op_eqB Try.underlying4 rfl rfl rfl) ⟨_, rfl, rfl⟩ ?_
  refine .q rfl (op_pick_true rfl rfl rfl) trivial ?_
  refine .q rfl (op_move rfl) trivial ?_
  refine .know (b' := true) (zero_dl a) ?_
  refine .q rfl (op_move rfl) ⟨_, rfl, rfl⟩ ?_
  refine .q rfl (op_call (U := []) [] [] (fsmall_ev _) Try.func13 (by kernel_rfl) rfl rfl rfl (⟨⟨_, rfl, rfl, rfl⟩, trivial⟩) (trivial) (trivial) (trivial) rfl) ⟨_, rfl, rfl⟩ ?_
  refine .q rfl (op_move rfl) ⟨_, rfl, rfl⟩ ?_
  refine .q rfl (op_conv Try.underlying22 Try.underlying5 rfl rfl) ⟨_, rfl, rfl⟩ ?_
  refine .q rfl (op_move rfl) ⟨_, rfl, rfl⟩ ?_
  refine .q rfl (op_shr64 (n := 8) rfl rfl rfl (by first | omega | (simp only [AV.len]; omega) | (simp only [AV.len, List.length_set]; omega) | assumption | (simp [AV.len]; done))) ⟨_, rfl, rfl⟩ ?_
  refine .q rfl (op_conv Try.underlying22 Try.underlying5 rfl rfl) ⟨_, rfl, rfl⟩ ?_
  refine .q rfl (op_move rfl) ⟨_, rfl, rfl⟩ ?_
  refine .q rfl (op_shr64 (n := 16) rfl rfl rfl (by first | omega | (simp only [AV.len]; omega) | (simp only [AV.len, List.length_set]; omega) | assumption | (simp [AV.len]; done))) ⟨_, rfl, rfl⟩ ?_
  refine .q rfl (op_conv Try.underlying22 Try.underlying5 rfl rfl) ⟨_, rfl, rfl⟩ ?_
  refine .q rfl (op_move rfl) ⟨_, rfl, rfl⟩ ?_
  refine .q rfl (op_shr64 (n := 24) rfl rfl rfl (by first | omega | (simp only [AV.len]; omega) | (simp only [AV.len, List.length_set]; omega) | assumption | (simp [AV.len]; done))) ⟨_, rfl, rfl⟩ ?_
  refine .q rfl (op_conv Try.underlying22 Try.underlying5 rfl rfl) ⟨_, rfl, rfl⟩ ?_
  refine .q rfl (op_move rfl) ⟨_, rfl, rfl⟩ ?_
  refine .q rfl (op_shr64 (n := 32) rfl rfl rfl (by first | omega | (simp only [AV.len]; omega) | (simp only [AV.len, List.length_set]; omega) | assumption | (simp [AV.len]; done))) ⟨_, rfl, rfl⟩ ?_
  refine .q rfl (op_conv Try.underlying22 Try.underlying5 rfl rfl) ⟨_, rfl, rfl⟩ ?_
  refine .q rfl (op_move rfl) ⟨_, rfl, rfl⟩ ?_
  refine .q rfl (op_shr64 (n := 40) rfl rfl rfl (by first | omega | (simp only [AV.len]; omega) | (simp only [AV.len, List.length_set]; omega) | assumption | (simp [AV.len]; done))) ⟨_, rfl, rfl⟩ ?_
  refine .q rfl (op_conv Try.underlying22 Try.underlying5 rfl rfl) ⟨_, rfl, rfl⟩ ?_
  refine .q rfl (op_move rfl) ⟨_, rfl, rfl⟩ ?_
  refine .q rfl (op_shr64 (n := 48) rfl rfl rfl (by first | omega | (simp only [AV.len]; omega) | (simp only [AV.len, List.length_set]; omega) | assumption | (simp [AV.len]; done))) ⟨_, rfl, rfl⟩ ?_
  refine .q rfl (op_conv Try.underlying22 Try.underlying5 rfl rfl) ⟨_, rfl, rfl⟩ ?_
  refine .q rfl (op_move rfl) ⟨_, rfl, rfl⟩ ?_
  refine .q rfl (op_shr64 (n := 56) rfl rfl rfl (by first | omega | (simp only [AV.len]; omega) | (simp only [AV.len, List.length_set]; omega) | assumption | (simp [AV.len]; done))) ⟨_, rfl, rfl⟩ ?_
  refine .q rfl (op_conv Try.underlying22 Try.underlying5 rfl rfl) ⟨_, rfl, rfl⟩ ?_
  refine .a rfl (ap_build (us := [_, _, _, _, _, _, _, _]) (c := .aggB [_, _, _, _, _, _, _, _]) Try.underlying35 inf5 rfl (by decide) (by decide) ⟨rfl, rfl, rfl, rfl, rfl, rfl, rfl, rfl, rfl, rfl, rfl, rfl, rfl, rfl, rfl, rfl, rfl, rfl, rfl, rfl, rfl, rfl, rfl, rfl, trivial⟩ rfl) ⟨_, rfl, rfl⟩ rfl rfl ?_
  refine .q rfl (op_bytes_str (l := [n.toUInt8, (n >>> UInt64.ofNat 8).toUInt8, (n >>> UInt64.ofNat 16).toUInt8, (n >>> UInt64.ofNat 24).toUInt8, (n >>> UInt64.ofNat 32).toUInt8, (n >>> UInt64.ofNat 40).toUInt8, (n >>> UInt64.ofNat 48).toUInt8, (n >>> UInt64.ofNat 56).toUInt8]) (k := ⟨.aggB [n.toUInt8, (n >>> UInt64.ofNat 8).toUInt8, (n >>> UInt64.ofNat 16).toUInt8, (n >>> UInt64.ofNat 24).toUInt8, (n >>> UInt64.ofNat 32).toUInt8, (n >>> UInt64.ofNat 40).toUInt8, (n >>> UInt64.ofNat 48).toUInt8, (n >>> UInt64.ofNat 56).toUInt8], 5, true⟩) Try.underlying35 Try.underlying5 Try.underlying9 rfl (by kernel_rfl) rfl (by exact Nat.le_refl 8)) ⟨_, rfl, rfl⟩ ?_
  refine .as (.str (bsN n.toNat 8)) (congrArg AV.str (n_bytes n)) ?_
  refine .a rfl (op_call (U := [(1384, some ⟨.aggI (dg (n.toNat)), 3, true⟩)]) [] [(1384, 1000)] (of8_ev n.toNat n.toNat_lt) Try.func14 (by kernel_rfl) rfl rfl rfl (⟨⟨_, rfl, rfl, rfl⟩, trivial⟩) (trivial) (⟨⟨1000, _, rfl, rfl, rfl, rfl, .inl rfl⟩, trivial⟩) (trivial) rfl) ⟨_, rfl, rfl⟩ rfl rfl ?_
  refine .q rfl (op_call (U := []) [(500, 1384)] [] (is_ev (n.toNat)) Try.func9 (by kernel_rfl) rfl rfl rfl (⟨⟨_, rfl, rfl, rfl⟩, ⟨_, rfl, rfl, rfl⟩, trivial⟩) (⟨⟨_, ⟨.aggI (dg (n.toNat)), 3, true⟩, rfl, by kernel_rfl, rfl, rfl, (fun h => by cases h), rfl⟩, trivial⟩) (trivial) (⟨(fun h => by cases h), trivial⟩) rfl) ⟨_, rfl, rfl⟩ ?_
  refine .q rfl (op_pick_true rfl rfl rfl) trivial ?_
  refine .q rfl (op_assign rfl) trivial ?_
  refine .nil ?_
  show Ev _ _ _ _ _
  refine .ret ?_
  show RetOk _ _ _ _ _ _ _
  exact ret1v rfl (.inl rfl) rfl rfl trivial
theorem fieldReads_ev (s : List UInt8) (n : UInt64) (hs : s.length ≤ maxLen) : Meets Try.prog 3 [.str s, .u64 n] [] (.bool true) [] := fieldReads_gen s n _ rfl (ofV_lt _) hs
end Go.Proofs.Ytjhpelajhkhlcaa
namespace Go.Proofs.Ytjhpelajhkhlcaa
open Go.RowKit
theorem u64_of {a : Int} (h : (Lit.int .u64 a).wf = true) : ∃ c : UInt64, a = (c.toNat : Int) := by
  simp [Lit.wf] at h
  have h1 : IntKind.u64.min = 0 := rfl
  have h2 : IntKind.u64.max = 18446744073709551615 := rfl
  refine ⟨UInt64.ofNat a.toNat, ?_⟩
  have h3 : (UInt64.ofNat a.toNat).toNat = a.toNat := by rw [UInt64.toNat_ofNat']; exact Nat.mod_eq_of_lt (by omega)
  rw [h3]; omega
theorem fieldReads_any (s : ByteArray) (n : UInt64) (w : World) (hs : s.size ≤ maxLen) :
    Calls Try.prog 3 #[.string s, .int .u64 (n.toNat : Int)] w fun e w' => e = .returned (.bool true) ∧ Below w.heap.size w w' := by
  refine walk_of_meets (fieldReads_ev s.data.toList n hs) rfl (fun i x y hx hy => ?_) (fun b k hk => by cases hk)
  match i, hx, hy with
  | 0, hx, hy => injection hx with hx; injection hy with hy; subst hx; subst hy; exact .str _
  | 1, hx, hy => injection hx with hx; injection hy with hy; subst hx; subst hy; exact .u64 _
  | i + 2, hx, _ => simp at hx
end Go.Proofs.Ytjhpelajhkhlcaa
