/-
  The law ScalarFits, walked over abstract values.
-/
import Derived.Test.YtmnhifagkcmhjaaDoorGN
import Derived.Test.YtmnhifagkcmhjaaDoorSh
namespace Go.Proofs.YtmnhifagkcmhjaaDoor
open Go.RowKit
theorem leN_inj (n : Nat) : ∀ (a b : List UInt8), a.length = n → b.length = n → leN a n = leN b n → a = b := by
  intro a b ha hb h
  have key : ∀ m, m ≤ n → leN a m = leN b m := fun m hm => by
    have h1 := leN_add a m (n - m)
    have h2 := leN_add b m (n - m)
    rw [show m + (n - m) = n by omega] at h1 h2
    rw [h1, h2] at h
    have l1 := leN_lt a m
    have l2 := leN_lt b m
    have := congrArg (· % 256 ^ m) h
    simpa [Nat.add_mul_mod_self_left, Nat.mod_eq_of_lt l1, Nat.mod_eq_of_lt l2] using this
  refine List.ext_getElem (by omega) fun i h1 h2 => ?_
  have k1 := key (i + 1) (by omega)
  have k0 := key i (by omega)
  simp only [leN] at k1
  rw [k0] at k1
  have k2 : 256 ^ i * (a.getD i 0).toNat = 256 ^ i * (b.getD i 0).toNat := by omega
  have k3 := Nat.eq_of_mul_eq_mul_left (Nat.pow_pos (by decide)) k2
  have k4 := UInt8.toNat_inj.1 k3
  simpa [List.getD_eq_getElem?_getD, h1, h2] using k4
theorem fits_red (K : List UInt8) (h : K.length = 32) : (bsN (leN K 64 % scL) 32 == K) = decide (leN K 32 < scL) := by
  rw [leN_64 K h, Bool.eq_iff_iff, beq_iff_eq, decide_eq_true_eq]
  constructor
  · intro e
    have := leN_red (leN K 32)
    rw [e] at this
    rw [this]; exact Nat.mod_lt _ scL_pos
  · intro hlt
    refine leN_inj 32 _ _ (length_bsN _ _) h ?_
    rw [leN_red, Nat.mod_eq_of_lt hlt]
set_option maxHeartbeats 1000000 in
set_option maxRecDepth 100000 in
theorem scalarFits_ev (e : Nat) (K : List UInt8) (hK : K.length = 32) : Meets Tryd.prog 5 [.aggB K] (HO e) (.bool true) [] := by
  refine meets_of_ev (nt := 49) Tryd.func5 rfl rfl (Nat.le_of_ble_eq_true rfl) ?_
  refine .seq ?_
  refine .region ?_
  refine .a (op_boxRow rfl rfl) trivial rfl ?_
  refine .q (op_assign rfl) trivial rfl ?_
  refine .nil ?_
  show Ev _ _ _ _ _
  refine .seq ?_
  refine .seq ?_
  refine .region ?_
  refine .q (op_call (U := []) [] [] (awake7_ev e) Tryd.func17 (by kernel_rfl) rfl rfl rfl (trivial) (⟨⟨_, _, rfl, rfl, rfl, rfl, id, rfl⟩, trivial⟩) (trivial) (⟨(fun h => by cases h), trivial⟩) rfl) trivial rfl ?_
  refine .q (op_notB rfl) trivial rfl ?_
  refine .nil ?_
  show Ev _ _ _ _ _
  refine .cond_false rfl (rfl) ?_
  refine .skip ?_
  show Ev _ _ _ _ _
  refine .seq ?_
  refine .region ?_
  refine .q (op_loadRow Tryd.underlying24 rfl sz24 rfl rfl rfl (by first | omega | exact length_bsN _ _ | exact List.length_replicate | rfl | (simp only [AV.len, length_bsN, length_rowN, List.length_replicate]; done) | (simp only [AV.len]; omega))) trivial rfl ?_
  refine .q (op_call (U := []) [] [] (sFits_ev e K hK) Tryd.func21 (by kernel_rfl) rfl rfl rfl (⟨⟨_, rfl, rfl, rfl⟩, trivial⟩) (⟨⟨_, _, rfl, rfl, rfl, rfl, id, rfl⟩, trivial⟩) (trivial) (⟨(fun h => by cases h), trivial⟩) rfl) trivial rfl ?_
  refine .q (op_assign rfl) trivial rfl ?_
  refine .nil ?_
  show Ev _ _ _ _ _
  refine .seq ?_
  refine .region ?_
  refine .q (op_loadRow Tryd.underlying24 rfl sz24 rfl rfl rfl (by first | omega | exact length_bsN _ _ | exact List.length_replicate | rfl | (simp only [AV.len, length_bsN, length_rowN, List.length_replicate]; done) | (simp only [AV.len]; omega))) trivial rfl ?_
  refine .a (op_call (U := [(1008, some ⟨.aggT (btN K 256), 4, true⟩)]) [] [(1008, 1008)] (sbits_ev K hK) Tryd.func24 (by kernel_rfl) rfl rfl rfl (⟨⟨_, rfl, rfl, rfl⟩, trivial⟩) (trivial) (⟨⟨1008, _, rfl, rfl, rfl, rfl, .inl rfl⟩, trivial⟩) (trivial) rfl) trivial rfl ?_
  refine .as (.sl 1008 0 256 1) rfl ?_
  refine .q (op_assign rfl) trivial rfl ?_
  refine .nil ?_
  show Ev _ _ _ _ _
  refine .seq ?_
  refine .seq ?_
  refine .region ?_
  refine .q (op_move rfl) trivial rfl ?_
  refine .q (op_len_sl Tryd.underlying33 rfl) trivial rfl ?_
  refine .q (op_cmpI rfl rfl rfl) trivial rfl ?_
  refine .nil ?_
  show Ev _ _ _ _ _
  refine .cond_false rfl (rfl) ?_
  refine .skip ?_
  show Ev _ _ _ _ _
  refine .seq ?_
  refine .seq ?_
  refine .region ?_
  refine .q (op_move rfl) trivial rfl ?_
  refine .q (op_len_sl Tryd.underlying33 rfl) trivial rfl ?_
  refine .q (op_move rfl) trivial rfl ?_
  refine .nil ?_
  show Ev _ _ _ _ _
  refine .block ?_
  refine Ev.loop (ι := { j : Nat // j ≤ 256 }) (fun j => ⟨[(1, .ptr 1000 0), (3, .bool (decide (leN K 32 < scL))), (16, .sl 1008 0 256 1), (17, .i64 256), (18, .i64 ((j.1 : Nat) : Int))], [(1000, some ⟨.aggB K, 24, true⟩), (1008, some ⟨.aggT (btN K 256), 4, true⟩), (22, some ⟨.agg64 orderL, e, false⟩)], 1016⟩) (fun j => 256 - j.1) ⟨0, Nat.zero_le _⟩ (StLe.mk [(1000, 1000), (1008, 1008)] rfl rfl ⟨⟨_, rfl, by first | rfl | (simp only [AV.ren]; congr 1; omega), rfl⟩, ⟨_, rfl, by first | rfl | (simp only [AV.ren]; congr 1; omega), rfl⟩, ⟨_, rfl, by first | rfl | (simp only [AV.ren]; congr 1; omega), rfl⟩, ⟨_, rfl, by first | rfl | (simp only [AV.ren]; congr 1; omega), rfl⟩, ⟨_, rfl, by first | rfl | (simp only [AV.ren]; congr 1; omega), rfl⟩, trivial⟩ ⟨⟨_, _, rfl, rfl, by first | rfl | (simp only [AV.ren]; congr 1; omega), rfl, id, rfl⟩, ⟨_, _, rfl, rfl, by first | rfl | (simp only [AV.ren]; congr 1; omega), rfl, id, rfl⟩, ⟨_, _, rfl, rfl, by first | rfl | (simp only [AV.ren]; congr 1; omega), rfl, id, rfl⟩, trivial⟩) ?_
  rintro ⟨j, hj⟩
  dsimp only
  have hlb := length_btN K 256
  refine .seq ?_
  refine .region ?_
  refine .q (op_cmpI rfl rfl rfl) trivial rfl ?_
  refine .nil ?_
  show Ev _ _ _ _ _
  refine .seq ?_
  refine .cond rfl (fun hc19 => ?_) (fun hc19 => ?_)
  · first | replace hc19 := of_decide_eq_true hc19 | replace hc19 := of_decide_eq_false hc19 | replace hc19 := eq_of_beq hc19 | replace hc19 := ne_of_beq_false hc19 | simp only [bne_iff_ne, ne_eq] at hc19 | simp only [bne_eq_false_iff_eq] at hc19
    refine .skip ?_
    show Ev _ _ _ _ _
    refine .seq ?_
    refine .block ?_
    refine .seq ?_
    refine .region ?_
    refine .q (op_move rfl) trivial rfl ?_
    refine .q (ap_idx0 Tryd.underlying33 inf4.sz rfl rfl rfl (by first | omega | (simp only [AV.len]; omega) | (simp only [AV.len, List.length_set]; omega) | assumption | (simp [AV.len]; done))) trivial rfl ?_
    refine .q (op_load Tryd.underlying4 rfl rfl rfl rfl (by show j < (btN K 256).length; omega)) trivial rfl ?_
    refine .as (.bool (kb K j)) (congrArg AV.bool (btN_get K 256 j (by omega))) ?_
    refine .q (op_assign rfl) trivial rfl ?_
    refine .q (op_assign rfl) trivial rfl ?_
    refine .nil ?_
    show Ev _ _ _ _ _
    refine .seq ?_
    refine .region ?_
    refine .q (op_move rfl) trivial rfl ?_
    refine .q (op_move rfl) trivial rfl ?_
    refine .q (op_quoI rfl rfl ⟨by first | omega | (simp only [AV.len]; omega) | (simp only [AV.len, List.length_set]; omega) | assumption | (simp [AV.len]; done), ⟨by first | omega | (simp only [AV.len]; omega) | (simp only [AV.len, List.length_set]; omega) | assumption | (simp [AV.len]; done), by first | omega | (simp only [AV.len]; omega) | (simp only [AV.len, List.length_set]; omega) | assumption | (simp [AV.len]; done)⟩, by first | omega | (simp only [AV.len]; omega) | (simp only [AV.len, List.length_set]; omega) | assumption | (simp [AV.len]; done)⟩) trivial rfl ?_
    refine .q (ap_idx_arr Tryd.underlying24 inf5.sz rfl rfl (i := j / 8) (by omega) (by omega)) trivial rfl ?_
    refine .q (op_load Tryd.underlying5 rfl rfl rfl rfl (by show j / 8 < K.length; omega)) trivial rfl ?_
    refine .q (op_move rfl) trivial rfl ?_
    refine .q (op_remI rfl rfl ⟨by first | omega | (simp only [AV.len]; omega) | (simp only [AV.len, List.length_set]; omega) | assumption | (simp [AV.len]; done), by first | omega | (simp only [AV.len]; omega) | (simp only [AV.len, List.length_set]; omega) | assumption | (simp [AV.len]; done)⟩) trivial rfl ?_
    refine .q (op_shr8 (n := j % 8) rfl rfl (by simp only [shiftBy]; rw [show ((j : Nat) : Int) % 8 = ((j % 8 : Nat) : Int) by omega]) (by omega)) trivial rfl ?_
    refine .q (op_bin8 rfl rfl rfl) trivial rfl ?_
    refine .q (op_bin8 rfl rfl rfl) trivial rfl ?_
    refine .as (.bool (kb K j)) (congrArg AV.bool (bit_prog K j)) ?_
    refine .q (op_eqB Tryd.underlying4 rfl rfl rfl) trivial rfl ?_
    refine .nil ?_
    show Ev _ _ _ _ _
    refine .cond_false rfl (by simp) ?_
    refine .skip ?_
    show Ev _ _ _ _ _
    refine .region ?_
    refine .q (op_addI rfl rfl ⟨by first | omega | (simp only [AV.len]; omega) | (simp only [AV.len, List.length_set]; omega) | assumption | (simp [AV.len]; done), by first | omega | (simp only [AV.len]; omega) | (simp only [AV.len, List.length_set]; omega) | assumption | (simp [AV.len]; done)⟩) trivial rfl ?_
    refine .q (op_move rfl) trivial rfl ?_
    refine .nil ?_
    exact ⟨⟨j + 1, by omega⟩, by show 256 - (j + 1) < 256 - j; omega, StLe.mk [(1000, 1000), (1008, 1008)] rfl rfl ⟨⟨_, rfl, by first | rfl | (simp only [AV.ren]; congr 1; omega), rfl⟩, ⟨_, rfl, by first | rfl | (simp only [AV.ren]; congr 1; omega), rfl⟩, ⟨_, rfl, by first | rfl | (simp only [AV.ren]; congr 1; omega), rfl⟩, ⟨_, rfl, by first | rfl | (simp only [AV.ren]; congr 1; omega), rfl⟩, ⟨_, rfl, by first | rfl | (simp only [AV.ren]; congr 1; omega), rfl⟩, trivial⟩ ⟨⟨_, _, rfl, rfl, by first | rfl | (simp only [AV.ren]; congr 1; omega), rfl, id, rfl⟩, ⟨_, _, rfl, rfl, by first | rfl | (simp only [AV.ren]; congr 1; omega), rfl, id, rfl⟩, ⟨_, _, rfl, rfl, by first | rfl | (simp only [AV.ren]; congr 1; omega), rfl, id, rfl⟩, trivial⟩⟩
  · first | replace hc19 := of_decide_eq_true hc19 | replace hc19 := of_decide_eq_false hc19 | replace hc19 := eq_of_beq hc19 | replace hc19 := ne_of_beq_false hc19 | simp only [bne_iff_ne, ne_eq] at hc19 | simp only [bne_eq_false_iff_eq] at hc19
    refine .exit ?_
    show Ev _ _ _ _ _
    have ej : j = 256 := by omega
    refine Ev.weak (st2 := ⟨[(1, .ptr 1000 0), (3, .bool (decide (leN K 32 < scL))), (16, .sl 1008 0 256 1), (17, .i64 256), (18, .i64 (((256) : Nat) : Int))], [(1000, some ⟨.aggB K, 24, true⟩), (1008, some ⟨.aggT (btN K 256), 4, true⟩), (22, some ⟨.agg64 orderL, e, false⟩)], 1016⟩) (StLe.mk [(1000, 1000), (1008, 1008)] rfl rfl ⟨⟨_, rfl, by first | (simp only [AV.ren]; done) | (simp only [AV.ren]; rw [ej]; done) | rfl, rfl⟩, ⟨_, rfl, by first | (simp only [AV.ren]; done) | (simp only [AV.ren]; rw [ej]; done) | rfl, rfl⟩, ⟨_, rfl, by first | (simp only [AV.ren]; done) | (simp only [AV.ren]; rw [ej]; done) | rfl, rfl⟩, ⟨_, rfl, by first | (simp only [AV.ren]; done) | (simp only [AV.ren]; rw [ej]; done) | rfl, rfl⟩, ⟨_, rfl, by first | (simp only [AV.ren]; done) | (simp only [AV.ren]; rw [ej]; done) | rfl, rfl⟩, trivial⟩ ⟨⟨_, _, rfl, rfl, by first | (simp only [AV.ren]; done) | (simp only [AV.ren]; rw [ej]; done) | rfl, rfl, id, rfl⟩, ⟨_, _, rfl, rfl, by first | (simp only [AV.ren]; done) | (simp only [AV.ren]; rw [ej]; done) | rfl, rfl, id, rfl⟩, ⟨_, _, rfl, rfl, by first | (simp only [AV.ren]; done) | (simp only [AV.ren]; rw [ej]; done) | rfl, rfl, id, rfl⟩, trivial⟩) ?_
    refine .seq ?_
    refine .drawn [[], [], [1], [1, 2], [0, 1, 2, 3], [0, 1, 2, 3, 4], [0, 1, 2, 3, 4, 5], [0, 1, 2, 3, 4, 5], [0, 1, 2, 3, 4, 5, 7], [0, 1, 2, 3, 4, 5, 7, 8], [0, 1, 2, 3, 4, 5], [0, 1, 2, 3, 4, 5, 7, 8, 9, 10], [0, 1, 2, 3, 4, 5, 6, 7, 8, 9, 10, 11], [0, 1, 2, 3, 4, 5, 6, 7, 8, 9, 10, 11, 12], [0, 1, 2, 3, 4, 5, 6, 7, 8, 9, 10, 11, 12, 13]] [1, 2, 3, 7, 8, 9, 10] [] (by kernel_rfl) (by kernel_rfl) rfl ?_
    show DK _ [0, 1, 2, 3, 4, 5, 6, 7, 8, 9, 10, 11, 12, 13, 14] _ _ _
    refine .q rfl (op_move rfl) trivial ?_
    refine .q rfl (ap_slice_arr_hi Tryd.underlying24 inf5.sz rfl rfl (by first | omega | exact length_bsN _ _ | exact List.length_replicate | rfl | (simp only [AV.len, length_bsN, length_rowN, List.length_replicate]; done) | (simp only [AV.len]; omega)) (by decide) rfl (by first | omega | exact length_bsN _ _ | exact List.length_replicate | rfl | (simp only [AV.len, length_bsN, length_rowN, List.length_replicate]; done) | (simp only [AV.len]; omega))) trivial ?_
    refine .q rfl (op_bytes_str Tryd.underlying26 Tryd.underlying5 Tryd.underlying9 rfl rfl rfl (by first | omega | exact length_bsN _ _ | exact List.length_replicate | rfl | (simp only [AV.len, length_bsN, length_rowN, List.length_replicate]; done) | (simp only [AV.len]; omega))) trivial ?_
    refine .as (.str (K)) (congrArg AV.str (take_32 (l := K) hK)) ?_
    refine .q rfl (op_call (U := []) [] [] (fitsR K hK) Tryd.func25 (by kernel_rfl) rfl rfl rfl (⟨⟨_, rfl, rfl, rfl⟩, trivial⟩) (trivial) (trivial) (trivial) rfl) trivial ?_
    refine .q rfl (op_eqB Tryd.underlying4 rfl rfl rfl) trivial ?_
    refine .as (.bool true) (congrArg AV.bool (by simp)) ?_
    refine .q rfl (op_move rfl) trivial ?_
    refine .know (b' := true) (rfl) ?_
    refine .q rfl (op_move rfl) ⟨_, rfl, rfl⟩ ?_
    refine .q rfl (ap_slice_arr_hi Tryd.underlying24 inf5.sz rfl rfl (by first | omega | exact length_bsN _ _ | exact List.length_replicate | rfl | (simp only [AV.len, length_bsN, length_rowN, List.length_replicate]; done) | (simp only [AV.len]; omega)) (by decide) rfl (by first | omega | exact length_bsN _ _ | exact List.length_replicate | rfl | (simp only [AV.len, length_bsN, length_rowN, List.length_replicate]; done) | (simp only [AV.len]; omega))) ⟨_, rfl, rfl⟩ ?_
    refine .q rfl (op_bytes_str Tryd.underlying26 Tryd.underlying5 Tryd.underlying9 rfl rfl rfl (by first | omega | exact length_bsN _ _ | exact List.length_replicate | rfl | (simp only [AV.len, length_bsN, length_rowN, List.length_replicate]; done) | (simp only [AV.len]; omega))) ⟨_, rfl, rfl⟩ ?_
    refine .as (.str (K)) (congrArg AV.str (take_32 (l := K) hK)) ?_
    refine .q rfl (op_call (U := []) [] [] (sReduce_ev e K (by omega)) Tryd.func19 (by kernel_rfl) rfl rfl rfl (⟨⟨_, rfl, rfl, rfl⟩, trivial⟩) (⟨⟨_, _, rfl, rfl, rfl, rfl, id, rfl⟩, trivial⟩) (trivial) (⟨(fun h => by cases h), trivial⟩) rfl) ⟨_, rfl, rfl⟩ ?_
    refine .q rfl (op_loadRow Tryd.underlying24 rfl sz24 rfl rfl rfl (by first | omega | exact length_bsN _ _ | exact List.length_replicate | rfl | (simp only [AV.len, length_bsN, length_rowN, List.length_replicate]; done) | (simp only [AV.len]; omega))) ⟨_, rfl, rfl⟩ ?_
    refine .q rfl (op_eqRow8 (n := 32) (by kernel_rfl) Tryd.underlying24 Tryd.underlying5 inf5.sz rfl rfl (by first | omega | exact length_bsN _ _ | exact List.length_replicate | rfl | (simp only [AV.len, length_bsN, length_rowN, List.length_replicate]; done) | (simp only [AV.len]; omega)) (by first | omega | exact length_bsN _ _ | exact List.length_replicate | rfl | (simp only [AV.len, length_bsN, length_rowN, List.length_replicate]; done) | (simp only [AV.len]; omega))) ⟨_, rfl, rfl⟩ ?_
    refine .as (.bool (decide (leN K 32 < scL))) (congrArg AV.bool (fits_red K hK)) ?_
    refine .q rfl (op_eqB Tryd.underlying4 rfl rfl rfl) ⟨_, rfl, rfl⟩ ?_
    refine .as (.bool true) (congrArg AV.bool (by simp)) ?_
    refine .q rfl (op_pick_true rfl rfl rfl) trivial ?_
    refine .q rfl (op_assign rfl) trivial ?_
    refine .nil ?_
    show Ev _ _ _ _ _
    refine .ret ?_
    show RetOk _ _ _ _ _ _ _
    exact ret1v rfl (.inl rfl) rfl rfl trivial
end Go.Proofs.YtmnhifagkcmhjaaDoor
