/-
  Texts of this claim.
-/
import Derived.Test.YtcnjekoidgefpaaGreatDoorGKFP
import Derived.Test.YtcnjekoidgefpaaGreatDoorGT2P
namespace Go.Proofs.YtcnjekoidgefpaaGreatDoor
open Go.RowKit
theorem froot_ev (e e2 u v : Nat) (hu : u < fp) (hv : v < fp) (hv0 : v ≠ 0) : Meets Tryz.prog 53 [.agg64 (fl u), .agg64 (fl v)] (HPM e e2) (.tup [.agg64 (fl (rtV (rtX u v))), .bool (rtB (rtX u v))]) [] := by
  obtain ⟨x, ex⟩ : ∃ z, rtX u v = z := ⟨_, rfl⟩
  obtain ⟨r, er⟩ : ∃ z, rtR x = z := ⟨_, rfl⟩
  obtain ⟨c, hc⟩ : ∃ z, v * v % fp * v % fp = z := ⟨_, rfl⟩
  obtain ⟨q, hq⟩ : ∃ z, r * r % fp * v % fp = z := ⟨_, rfl⟩
  have hx : x < fp := by rw [← ex]; exact rtX_lt _ _
  have hrl : r < fp := by rw [← er]; exact rtR_lt x
  have hcl : c < fp := by rw [← hc]; exact fmod_lt _
  have hql : q < fp := by rw [← hq]; exact fmod_lt _
  have ex2 : u * (v ^ (fp - 2) % fp) % fp = x := ex
  have hr : (u * c % fp) * (((u * (c * c % fp) % fp) * v % fp) ^ ((fp - 5) / 8) % fp) % fp = r := by
    rw [← hc, root_same u v hv0 hv, ex2]; exact er
  have hpos := q_pos (r := r) hu hv0 hv
  have hneg := q_neg (r := r) hu hv0 hv
  rw [hq, ex2] at hpos hneg
  have hiv := iV_neg r
  have hodd := fp_odd
  rw [ex]
  by_cases h1 : q = (fp - u) % fp
  · have h2 := hneg.1 h1
    have h5 : (r * iV % fp) * (r * iV % fp) % fp = x := by rw [hiv, h2, neg_neg_mod hx]
    have hB : rtB x = true := by unfold rtB; rw [er, decide_eq_true h5, Bool.or_true]
    have hV : rtV x = sgN (r * iV % fp) := by
      unfold rtV; rw [er]
      by_cases h6 : r * r % fp = x
      · have hx0 : x = 0 := by
          rw [h6] at h2
          by_cases h0 : x = 0
          · exact h0
          · rw [Nat.mod_eq_of_lt (show fp - x < fp by omega)] at h2; omega
        have hr0 : r = 0 := by
          have h7 : zf r * zf r = 0 := by rw [← zf_m, h6, hx0, zf_zero]
          rcases z_dom _ _ h7 with h | h <;> exact (zf_eq0 hrl).1 h
        rw [if_pos h6, hr0, Nat.zero_mul, Nat.zero_mod]
      · rw [if_neg h6, if_pos h5]
    exact (froot_P e e2 u v c r q hu hv hcl hrl hql hc hr hq h1).as (by rw [hV, hB]; rfl)
  · by_cases h2 : q = u
    · have h6 := hpos.1 h2
      have hB : rtB x = true := by unfold rtB; rw [er, decide_eq_true h6, Bool.true_or]
      have hV : rtV x = sgN r := by unfold rtV; rw [er, if_pos h6]
      exact (froot_Q e e2 u v c r q hu hv hcl hrl hql hc hr hq h1 h2).as (by rw [hV, hB]; rfl)
    · have h6 : ¬ r * r % fp = x := fun h => h2 (hpos.2 h)
      have h7 : ¬ (r * iV % fp) * (r * iV % fp) % fp = x := fun h => h1 (hneg.2 (by
        rw [hiv] at h
        have h8 : r * r % fp < fp := fmod_lt _
        rw [← neg_neg_mod h8, h]))
      have hB : rtB x = false := by unfold rtB; rw [er, decide_eq_false h6, decide_eq_false h7]; rfl
      exact (froot_R e e2 u v c r q hu hv hcl hrl hql hc hr hq h1 h2).as (by rw [rt_none hB, hB])
theorem top_and (a : UInt8) : ((a &&& UInt8.ofNat 128) != UInt8.ofNat 0) = decide (128 ≤ a.toNat) := by
  have h : ∀ n, n < 256 → ((UInt8.ofNat n &&& UInt8.ofNat 128) != UInt8.ofNat 0) = decide (128 ≤ (UInt8.ofNat n).toNat) := by decide +kernel
  have := h a.toNat a.toNat_lt
  rwa [UInt8.ofNat_toNat] at this
set_option maxHeartbeats 1000000 in
set_option maxRecDepth 100000 in
theorem kdec_T (e e2 : Nat) (b : List UInt8) (hb : b.length = 32) (hR : rtB (decR (ofV b)) = true) (hE : (encN (decX b) (ofV b) == b) = true) : Meets Tryz.prog 25 [.aggB b] (HPM e e2) (.tup [.agg64 (fl (decX b) ++ fl (ofV b)), .bool true]) [] := by
 refine meets_of_ev (nt := 47) Tryz.func25 rfl rfl (Nat.le_of_ble_eq_true rfl) ?_
 refine .seq ?_
 refine .region ?_
 refine .a (op_boxRow rfl rfl) trivial rfl ?_
 refine .a (op_allocRow zero57 rel_zero57 rfl) trivial rfl ?_
 refine .q (op_assign rfl) trivial rfl ?_
 refine .nil ?_
 show Ev _ _ _ _ _
 refine .seq ?_
 refine .region ?_
 refine .q (ap_slice_arr_hi Tryz.underlying22 inf5.sz rfl rfl (by first | omega | (simp only [AV.len]; omega)) (by decide) rfl (by first | omega | (simp only [AV.len]; omega))) trivial rfl ?_
 refine .q (op_bytes_str Tryz.underlying25 Tryz.underlying5 Tryz.underlying9 rfl rfl rfl (by first | omega | (simp only [AV.len]; omega) | (simp only [AV.len, List.length_set]; omega) | assumption | (simp [AV.len]; done))) trivial rfl ?_
 refine .as (.str b) (by rw [List.drop_zero, List.take_of_length_le (Nat.le_of_eq hb)]) ?_
 refine .q (op_call (U := []) [] [] (fof_ev b (by omega)) Tryz.func50 (by kernel_rfl) rfl rfl rfl (⟨⟨_, rfl, rfl, rfl⟩, trivial⟩) (trivial) (trivial) (trivial) rfl) trivial rfl ?_
 refine .as (.agg64 (fl (ofV b))) rfl ?_
 refine .a (op_allocRow zero55 rel_zero55 rfl) trivial rfl ?_
 refine .w (op_storeRow sz55 rfl rfl rfl rfl rfl (rfl) (rfl)) trivial rfl ?_
 refine .nil ?_
 show Ev _ _ _ _ _
 refine .seq ?_
 refine .drawn [[], [], [0, 1], [], [], [0, 1, 2, 3, 4], [0, 1, 2, 3, 4, 5]] [0, 1, 2, 3, 4, 5, 6] [5, 6] (by kernel_rfl) (by kernel_rfl) rfl ?_
 show DK _ [0, 1, 2, 3, 4, 5, 6] _ _ _
 have hyl := ofV_lt b
 refine .q rfl (op_call (U := []) [] [] (fsmall_ev _) Tryz.func51 (by kernel_rfl) rfl rfl rfl (⟨⟨_, rfl, rfl, rfl⟩, trivial⟩) (trivial) (trivial) (trivial) rfl) trivial ?_
 refine .q rfl (op_loadRow Tryz.underlying55 rfl sz55 rfl rfl rfl (rfl)) trivial ?_
 refine .q rfl (op_call (U := []) [] [] (ksq_ev _ (by first | assumption | exact mF_lt _ _ | exact aF_lt _ _ | exact sF_lt _ _ | exact nF_lt _ | exact fmod_lt _ | exact Nat.mod_lt _ fpos | exact dV_lt | decide)) Tryz.func52 (by kernel_rfl) rfl rfl rfl (⟨⟨_, rfl, rfl, rfl⟩, trivial⟩) (trivial) (trivial) (trivial) rfl) trivial ?_
 refine .a rfl (op_allocRow zero55 rel_zero55 rfl) trivial rfl rfl ?_
 refine .a rfl (op_allocRow zero55 rel_zero55 rfl) trivial rfl rfl ?_
 refine .w rfl (op_storeRow sz55 rfl rfl rfl rfl rfl (rfl) (rfl)) trivial rfl rfl ?_
 refine .w rfl (op_storeRow sz55 rfl rfl rfl rfl rfl (rfl) (rfl)) trivial rfl rfl ?_
 refine .nil ?_
 show Ev _ _ _ _ _
 refine .seq ?_
 refine .drawn [[], [], [0, 1], [], [0, 1, 2], [0, 1, 2, 3, 4], [], [0, 1, 2, 3, 4, 5, 6], [0, 1, 2, 3, 4, 5, 6, 7], [0, 1, 2, 3, 4, 5, 6, 7, 8], [0, 1, 2, 3, 4, 5, 6, 7, 8, 9], [0, 1, 2, 3, 4, 5, 6, 7, 8, 9], [], [0, 1, 2, 3, 4, 5, 6, 7, 8, 9, 10, 12], [0, 1, 2, 3, 4, 5, 6, 7, 8, 9, 10, 11, 12, 13]] [0, 1, 2, 3, 4, 5, 6, 7, 8, 12, 13] [13] (by kernel_rfl) (by kernel_rfl) rfl ?_
 show DK _ [0, 1, 2, 3, 4, 5, 6, 7, 8, 9, 10, 11, 12, 13, 14] _ _ _
 refine .q rfl (op_loadRow Tryz.underlying55 rfl sz55 rfl rfl rfl (rfl)) trivial ?_
 refine .q rfl (op_loadRow Tryz.underlying55 rfl sz55 rfl rfl rfl (rfl)) trivial ?_
 refine .q rfl (op_call (U := []) [] [] (ksub_ev e _ _ (by first | assumption | exact mF_lt _ _ | exact aF_lt _ _ | exact sF_lt _ _ | exact nF_lt _ | exact fmod_lt _ | exact Nat.mod_lt _ fpos | exact dV_lt | decide) (by first | assumption | exact mF_lt _ _ | exact aF_lt _ _ | exact sF_lt _ _ | exact nF_lt _ | exact fmod_lt _ | exact Nat.mod_lt _ fpos | exact dV_lt | decide)) Tryz.func54 (by kernel_rfl) rfl rfl rfl (⟨⟨_, rfl, rfl, rfl⟩, ⟨_, rfl, rfl, rfl⟩, trivial⟩) (⟨⟨_, _, rfl, rfl, rfl, rfl, id, rfl⟩, trivial⟩) (trivial) (⟨(fun h => by cases h), trivial⟩) rfl) trivial ?_
 refine .as (.agg64 (fl (decU (ofV b)))) rfl ?_
 refine .q rfl (op_loadRow Tryz.underlying55 rfl sz55 rfl rfl rfl (rfl)) trivial ?_
 refine .q rfl (op_call (U := []) [] [] (kofD_ev) Tryz.func50 (by kernel_rfl) rfl rfl rfl (⟨⟨_, rfl, rfl, rfl⟩, trivial⟩) (trivial) (trivial) (trivial) rfl) trivial ?_
 refine .q rfl (op_call (U := []) [] [] (kmul_ev _ _ (by first | assumption | exact mF_lt _ _ | exact aF_lt _ _ | exact sF_lt _ _ | exact nF_lt _ | exact fmod_lt _ | exact Nat.mod_lt _ fpos | exact dV_lt | decide) (by first | assumption | exact mF_lt _ _ | exact aF_lt _ _ | exact sF_lt _ _ | exact nF_lt _ | exact fmod_lt _ | exact Nat.mod_lt _ fpos | exact dV_lt | decide)) Tryz.func55 (by kernel_rfl) rfl rfl rfl (⟨⟨_, rfl, rfl, rfl⟩, ⟨_, rfl, rfl, rfl⟩, trivial⟩) (trivial) (trivial) (trivial) rfl) trivial ?_
 refine .q rfl (op_loadRow Tryz.underlying55 rfl sz55 rfl rfl rfl (rfl)) trivial ?_
 refine .q rfl (op_call (U := []) [] [] (kadd_ev _ _ (by first | assumption | exact mF_lt _ _ | exact aF_lt _ _ | exact sF_lt _ _ | exact nF_lt _ | exact fmod_lt _ | exact Nat.mod_lt _ fpos | exact dV_lt | decide) (by first | assumption | exact mF_lt _ _ | exact aF_lt _ _ | exact sF_lt _ _ | exact nF_lt _ | exact fmod_lt _ | exact Nat.mod_lt _ fpos | exact dV_lt | decide)) Tryz.func56 (by kernel_rfl) rfl rfl rfl (⟨⟨_, rfl, rfl, rfl⟩, ⟨_, rfl, rfl, rfl⟩, trivial⟩) (trivial) (trivial) (trivial) rfl) trivial ?_
 refine .as (.agg64 (fl (decV (ofV b)))) rfl ?_
 refine .q rfl (op_call (U := []) [] [] (froot_ev e e2 (decU (ofV b)) (decV (ofV b)) (sF_lt _ _) (aF_lt _ _) (decV_ne _)) Tryz.func53 (by kernel_rfl) rfl rfl rfl (⟨⟨_, rfl, rfl, rfl⟩, ⟨_, rfl, rfl, rfl⟩, trivial⟩) (⟨⟨_, _, rfl, rfl, rfl, rfl, id, rfl⟩, ⟨_, _, rfl, rfl, rfl, rfl, id, rfl⟩, trivial⟩) (trivial) (⟨(fun h => by cases h), (fun h => by cases h), trivial⟩) rfl) trivial ?_
 refine .as (.tup [.agg64 (fl (rtV (decR (ofV b)))), .bool true]) (by show AV.tup [.agg64 (fl (rtV (decR (ofV b)))), .bool (rtB (decR (ofV b)))] = _; rw [hR]) ?_
 refine .q rfl (op_move rfl) trivial ?_
 refine .q rfl (op_extract rfl rfl) trivial ?_
 refine .q rfl (op_extract rfl rfl) trivial ?_
 refine .a rfl (op_allocRow zero55 rel_zero55 rfl) trivial rfl rfl ?_
 refine .w rfl (op_storeRow sz55 rfl rfl rfl rfl rfl (rfl) (rfl)) trivial rfl rfl ?_
 refine .q rfl (op_assign rfl) trivial ?_
 refine .nil ?_
 show Ev _ _ _ _ _
 refine .seq ?_
 refine .seq ?_
 refine .region ?_
 refine .q (ap_idx_arr Tryz.underlying22 inf5.sz rfl rfl rfl (by decide)) trivial rfl ?_
 refine .q (op_load Tryz.underlying5 rfl rfl rfl rfl (by show 31 < b.length; omega)) trivial rfl ?_
 refine .q (op_bin8 rfl rfl rfl) trivial rfl ?_
 refine .q (op_bin8 rfl rfl rfl) trivial rfl ?_
 refine .as (.bool (decide (128 ≤ (b.getD 31 0).toNat))) (congrArg AV.bool (by rw [← top_and])) ?_
 refine .nil ?_
 show Ev _ _ _ _ _
 refine .cond rfl (fun hc31 => ?_) (fun hc31 => ?_)
 ·simp only [decide_eq_true_eq] at hc31
  refine .region ?_
  have hxl := rtV_lt (decR (ofV b))
  refine .q (op_loadRow Tryz.underlying55 rfl sz55 rfl rfl rfl (rfl)) trivial rfl ?_
  refine .q (op_call (U := []) [] [] (kneg_ev e _ (by first | assumption | exact mF_lt _ _ | exact aF_lt _ _ | exact sF_lt _ _ | exact nF_lt _ | exact fmod_lt _ | exact Nat.mod_lt _ fpos | exact dV_lt | decide)) Tryz.func57 (by kernel_rfl) rfl rfl rfl (⟨⟨_, rfl, rfl, rfl⟩, trivial⟩) (⟨⟨_, _, rfl, rfl, rfl, rfl, id, rfl⟩, trivial⟩) (trivial) (⟨(fun h => by cases h), trivial⟩) rfl) trivial rfl ?_
  refine .w (op_storeRow sz55 rfl rfl rfl rfl rfl (rfl) (rfl)) trivial rfl ?_
  refine .nil ?_
  show Ev _ _ _ _ _
  refine .seq ?_
  refine .region ?_
  refine .q (op_loadRow Tryz.underlying55 rfl sz55 rfl rfl rfl (rfl)) trivial rfl ?_
  refine .as (.agg64 (fl (decX b))) (congrArg (fun z => AV.agg64 (fl z)) (by first | exact (if_pos hc31).symm | exact (if_neg hc31).symm)) ?_
  refine .q (op_loadRow Tryz.underlying55 rfl sz55 rfl rfl rfl (rfl)) trivial rfl ?_
  refine .q (op_buildS (r := .agg64 (fl (decX b) ++ fl (ofV b))) Tryz.underlying57 rfl zero57 rel_zero57 rfl rfl rfl rfl) trivial rfl ?_
  refine .a (op_allocRow zero57 rel_zero57 rfl) trivial rfl ?_
  refine .w (op_storeRow sz57 rfl rfl rfl rfl rfl (rfl) (rfl)) trivial rfl ?_
  refine .nil ?_
  show Ev _ _ _ _ _
  refine .seq ?_
  refine .seq ?_
  refine .drawn [[], [0], [0, 1], [0, 1, 2], [0, 1, 2, 3], [0, 1, 2], [0, 1, 2, 3, 4, 5], [0, 1, 2, 3, 4, 5, 6]] [3, 4, 5] [] (by kernel_rfl) (by kernel_rfl) rfl ?_
  show DK _ [0, 1, 2, 3, 4, 5, 6, 7] _ _ _
  refine .q rfl (op_move rfl) trivial ?_
  refine .q rfl (op_notB rfl) trivial ?_
  refine .q rfl (op_move rfl) trivial ?_
  refine .know (b' := false) (rfl) ?_
  refine .q rfl (op_loadRow Tryz.underlying57 rfl sz57 rfl rfl rfl (rfl)) ⟨_, rfl, rfl⟩ ?_
  refine .q rfl (op_call (U := []) [] [] (kpenc_ev (decX b) (ofV b)) Tryz.func58 (by kernel_rfl) rfl rfl rfl (⟨⟨_, rfl, rfl, rfl⟩, trivial⟩) (trivial) (trivial) (trivial) rfl) ⟨_, rfl, rfl⟩ ?_
  refine .as (.aggB (encN (decX b) (ofV b))) rfl ?_
  refine .q rfl (op_loadRow Tryz.underlying22 rfl sz22 rfl rfl rfl (hb)) ⟨_, rfl, rfl⟩ ?_
  refine .q rfl (op_neqRow8 (n := 32) (by kernel_rfl) Tryz.underlying22 Tryz.underlying5 inf5.sz rfl rfl (length_encN _ _) (hb)) ⟨_, rfl, rfl⟩ ?_
  refine .as (.bool false) (congrArg AV.bool (by unfold bne; rw [hE]; rfl)) ?_
  refine .q rfl (op_pick_false rfl rfl rfl) trivial ?_
  refine .nil ?_
  show Ev _ _ _ _ _
  refine .cond_false rfl (rfl) ?_
  refine .skip ?_
  show Ev _ _ _ _ _
  refine .seq ?_
  refine .region ?_
  refine .q (op_loadRow Tryz.underlying57 rfl sz57 rfl rfl rfl (rfl)) trivial rfl ?_
  refine .w (op_storeRow sz57 rfl rfl rfl rfl rfl (rfl) (rfl)) trivial rfl ?_
  refine .q (op_assign rfl) trivial rfl ?_
  refine .nil ?_
  show Ev _ _ _ _ _
  refine .ret ?_
  show RetOk _ _ _ _ _ _ _
  exact retc2 rfl (.inl rfl) ⟨_, _, _, _, rfl, rfl, rfl, rfl, rfl, Tryz.underlying57, rfl, sz57⟩ rfl trivial
 ·simp only [decide_eq_false_iff_not] at hc31
  refine .skip ?_
  show Ev _ _ _ _ _
  refine .seq ?_
  refine .region ?_
  refine .q (op_loadRow Tryz.underlying55 rfl sz55 rfl rfl rfl (rfl)) trivial rfl ?_
  refine .as (.agg64 (fl (decX b))) (congrArg (fun z => AV.agg64 (fl z)) (by first | exact (if_pos hc31).symm | exact (if_neg hc31).symm)) ?_
  refine .q (op_loadRow Tryz.underlying55 rfl sz55 rfl rfl rfl (rfl)) trivial rfl ?_
  refine .q (op_buildS (r := .agg64 (fl (decX b) ++ fl (ofV b))) Tryz.underlying57 rfl zero57 rel_zero57 rfl rfl rfl rfl) trivial rfl ?_
  refine .a (op_allocRow zero57 rel_zero57 rfl) trivial rfl ?_
  refine .w (op_storeRow sz57 rfl rfl rfl rfl rfl (rfl) (rfl)) trivial rfl ?_
  refine .nil ?_
  show Ev _ _ _ _ _
  refine .seq ?_
  refine .seq ?_
  refine .drawn [[], [0], [0, 1], [0, 1, 2], [0, 1, 2, 3], [0, 1, 2], [0, 1, 2, 3, 4, 5], [0, 1, 2, 3, 4, 5, 6]] [3, 4, 5] [] (by kernel_rfl) (by kernel_rfl) rfl ?_
  show DK _ [0, 1, 2, 3, 4, 5, 6, 7] _ _ _
  refine .q rfl (op_move rfl) trivial ?_
  refine .q rfl (op_notB rfl) trivial ?_
  refine .q rfl (op_move rfl) trivial ?_
  refine .know (b' := false) (rfl) ?_
  refine .q rfl (op_loadRow Tryz.underlying57 rfl sz57 rfl rfl rfl (rfl)) ⟨_, rfl, rfl⟩ ?_
  refine .q rfl (op_call (U := []) [] [] (kpenc_ev (decX b) (ofV b)) Tryz.func58 (by kernel_rfl) rfl rfl rfl (⟨⟨_, rfl, rfl, rfl⟩, trivial⟩) (trivial) (trivial) (trivial) rfl) ⟨_, rfl, rfl⟩ ?_
  refine .as (.aggB (encN (decX b) (ofV b))) rfl ?_
  refine .q rfl (op_loadRow Tryz.underlying22 rfl sz22 rfl rfl rfl (hb)) ⟨_, rfl, rfl⟩ ?_
  refine .q rfl (op_neqRow8 (n := 32) (by kernel_rfl) Tryz.underlying22 Tryz.underlying5 inf5.sz rfl rfl (length_encN _ _) (hb)) ⟨_, rfl, rfl⟩ ?_
  refine .as (.bool false) (congrArg AV.bool (by unfold bne; rw [hE]; rfl)) ?_
  refine .q rfl (op_pick_false rfl rfl rfl) trivial ?_
  refine .nil ?_
  show Ev _ _ _ _ _
  refine .cond_false rfl (rfl) ?_
  refine .skip ?_
  show Ev _ _ _ _ _
  refine .seq ?_
  refine .region ?_
  refine .q (op_loadRow Tryz.underlying57 rfl sz57 rfl rfl rfl (rfl)) trivial rfl ?_
  refine .w (op_storeRow sz57 rfl rfl rfl rfl rfl (rfl) (rfl)) trivial rfl ?_
  refine .q (op_assign rfl) trivial rfl ?_
  refine .nil ?_
  show Ev _ _ _ _ _
  refine .ret ?_
  show RetOk _ _ _ _ _ _ _
  exact retc2 rfl (.inl rfl) ⟨_, _, _, _, rfl, rfl, rfl, rfl, rfl, Tryz.underlying57, rfl, sz57⟩ rfl trivial
set_option maxHeartbeats 1000000 in
set_option maxRecDepth 100000 in
theorem kdec_E (e e2 : Nat) (b : List UInt8) (hb : b.length = 32) (hR : rtB (decR (ofV b)) = true) (hE : (encN (decX b) (ofV b) == b) = false) : Meets Tryz.prog 25 [.aggB b] (HPM e e2) (.tup [.agg64 (fl (0) ++ fl (0)), .bool false]) [] := by
 refine meets_of_ev (nt := 47) Tryz.func25 rfl rfl (Nat.le_of_ble_eq_true rfl) ?_
 refine .seq ?_
 refine .region ?_
 refine .a (op_boxRow rfl rfl) trivial rfl ?_
 refine .a (op_allocRow zero57 rel_zero57 rfl) trivial rfl ?_
 refine .q (op_assign rfl) trivial rfl ?_
 refine .nil ?_
 show Ev _ _ _ _ _
 refine .seq ?_
 refine .region ?_
 refine .q (ap_slice_arr_hi Tryz.underlying22 inf5.sz rfl rfl (by first | omega | (simp only [AV.len]; omega)) (by decide) rfl (by first | omega | (simp only [AV.len]; omega))) trivial rfl ?_
 refine .q (op_bytes_str Tryz.underlying25 Tryz.underlying5 Tryz.underlying9 rfl rfl rfl (by first | omega | (simp only [AV.len]; omega) | (simp only [AV.len, List.length_set]; omega) | assumption | (simp [AV.len]; done))) trivial rfl ?_
 refine .as (.str b) (by rw [List.drop_zero, List.take_of_length_le (Nat.le_of_eq hb)]) ?_
 refine .q (op_call (U := []) [] [] (fof_ev b (by omega)) Tryz.func50 (by kernel_rfl) rfl rfl rfl (⟨⟨_, rfl, rfl, rfl⟩, trivial⟩) (trivial) (trivial) (trivial) rfl) trivial rfl ?_
 refine .as (.agg64 (fl (ofV b))) rfl ?_
 refine .a (op_allocRow zero55 rel_zero55 rfl) trivial rfl ?_
 refine .w (op_storeRow sz55 rfl rfl rfl rfl rfl (rfl) (rfl)) trivial rfl ?_
 refine .nil ?_
 show Ev _ _ _ _ _
 refine .seq ?_
 refine .drawn [[], [], [0, 1], [], [], [0, 1, 2, 3, 4], [0, 1, 2, 3, 4, 5]] [0, 1, 2, 3, 4, 5, 6] [5, 6] (by kernel_rfl) (by kernel_rfl) rfl ?_
 show DK _ [0, 1, 2, 3, 4, 5, 6] _ _ _
 have hyl := ofV_lt b
 refine .q rfl (op_call (U := []) [] [] (fsmall_ev _) Tryz.func51 (by kernel_rfl) rfl rfl rfl (⟨⟨_, rfl, rfl, rfl⟩, trivial⟩) (trivial) (trivial) (trivial) rfl) trivial ?_
 refine .q rfl (op_loadRow Tryz.underlying55 rfl sz55 rfl rfl rfl (rfl)) trivial ?_
 refine .q rfl (op_call (U := []) [] [] (ksq_ev _ (by first | assumption | exact mF_lt _ _ | exact aF_lt _ _ | exact sF_lt _ _ | exact nF_lt _ | exact fmod_lt _ | exact Nat.mod_lt _ fpos | exact dV_lt | decide)) Tryz.func52 (by kernel_rfl) rfl rfl rfl (⟨⟨_, rfl, rfl, rfl⟩, trivial⟩) (trivial) (trivial) (trivial) rfl) trivial ?_
 refine .a rfl (op_allocRow zero55 rel_zero55 rfl) trivial rfl rfl ?_
 refine .a rfl (op_allocRow zero55 rel_zero55 rfl) trivial rfl rfl ?_
 refine .w rfl (op_storeRow sz55 rfl rfl rfl rfl rfl (rfl) (rfl)) trivial rfl rfl ?_
 refine .w rfl (op_storeRow sz55 rfl rfl rfl rfl rfl (rfl) (rfl)) trivial rfl rfl ?_
 refine .nil ?_
 show Ev _ _ _ _ _
 refine .seq ?_
 refine .drawn [[], [], [0, 1], [], [0, 1, 2], [0, 1, 2, 3, 4], [], [0, 1, 2, 3, 4, 5, 6], [0, 1, 2, 3, 4, 5, 6, 7], [0, 1, 2, 3, 4, 5, 6, 7, 8], [0, 1, 2, 3, 4, 5, 6, 7, 8, 9], [0, 1, 2, 3, 4, 5, 6, 7, 8, 9], [], [0, 1, 2, 3, 4, 5, 6, 7, 8, 9, 10, 12], [0, 1, 2, 3, 4, 5, 6, 7, 8, 9, 10, 11, 12, 13]] [0, 1, 2, 3, 4, 5, 6, 7, 8, 12, 13] [13] (by kernel_rfl) (by kernel_rfl) rfl ?_
 show DK _ [0, 1, 2, 3, 4, 5, 6, 7, 8, 9, 10, 11, 12, 13, 14] _ _ _
 refine .q rfl (op_loadRow Tryz.underlying55 rfl sz55 rfl rfl rfl (rfl)) trivial ?_
 refine .q rfl (op_loadRow Tryz.underlying55 rfl sz55 rfl rfl rfl (rfl)) trivial ?_
 refine .q rfl (op_call (U := []) [] [] (ksub_ev e _ _ (by first | assumption | exact mF_lt _ _ | exact aF_lt _ _ | exact sF_lt _ _ | exact nF_lt _ | exact fmod_lt _ | exact Nat.mod_lt _ fpos | exact dV_lt | decide) (by first | assumption | exact mF_lt _ _ | exact aF_lt _ _ | exact sF_lt _ _ | exact nF_lt _ | exact fmod_lt _ | exact Nat.mod_lt _ fpos | exact dV_lt | decide)) Tryz.func54 (by kernel_rfl) rfl rfl rfl (⟨⟨_, rfl, rfl, rfl⟩, ⟨_, rfl, rfl, rfl⟩, trivial⟩) (⟨⟨_, _, rfl, rfl, rfl, rfl, id, rfl⟩, trivial⟩) (trivial) (⟨(fun h => by cases h), trivial⟩) rfl) trivial ?_
 refine .as (.agg64 (fl (decU (ofV b)))) rfl ?_
 refine .q rfl (op_loadRow Tryz.underlying55 rfl sz55 rfl rfl rfl (rfl)) trivial ?_
 refine .q rfl (op_call (U := []) [] [] (kofD_ev) Tryz.func50 (by kernel_rfl) rfl rfl rfl (⟨⟨_, rfl, rfl, rfl⟩, trivial⟩) (trivial) (trivial) (trivial) rfl) trivial ?_
 refine .q rfl (op_call (U := []) [] [] (kmul_ev _ _ (by first | assumption | exact mF_lt _ _ | exact aF_lt _ _ | exact sF_lt _ _ | exact nF_lt _ | exact fmod_lt _ | exact Nat.mod_lt _ fpos | exact dV_lt | decide) (by first | assumption | exact mF_lt _ _ | exact aF_lt _ _ | exact sF_lt _ _ | exact nF_lt _ | exact fmod_lt _ | exact Nat.mod_lt _ fpos | exact dV_lt | decide)) Tryz.func55 (by kernel_rfl) rfl rfl rfl (⟨⟨_, rfl, rfl, rfl⟩, ⟨_, rfl, rfl, rfl⟩, trivial⟩) (trivial) (trivial) (trivial) rfl) trivial ?_
 refine .q rfl (op_loadRow Tryz.underlying55 rfl sz55 rfl rfl rfl (rfl)) trivial ?_
 refine .q rfl (op_call (U := []) [] [] (kadd_ev _ _ (by first | assumption | exact mF_lt _ _ | exact aF_lt _ _ | exact sF_lt _ _ | exact nF_lt _ | exact fmod_lt _ | exact Nat.mod_lt _ fpos | exact dV_lt | decide) (by first | assumption | exact mF_lt _ _ | exact aF_lt _ _ | exact sF_lt _ _ | exact nF_lt _ | exact fmod_lt _ | exact Nat.mod_lt _ fpos | exact dV_lt | decide)) Tryz.func56 (by kernel_rfl) rfl rfl rfl (⟨⟨_, rfl, rfl, rfl⟩, ⟨_, rfl, rfl, rfl⟩, trivial⟩) (trivial) (trivial) (trivial) rfl) trivial ?_
 refine .as (.agg64 (fl (decV (ofV b)))) rfl ?_
 refine .q rfl (op_call (U := []) [] [] (froot_ev e e2 (decU (ofV b)) (decV (ofV b)) (sF_lt _ _) (aF_lt _ _) (decV_ne _)) Tryz.func53 (by kernel_rfl) rfl rfl rfl (⟨⟨_, rfl, rfl, rfl⟩, ⟨_, rfl, rfl, rfl⟩, trivial⟩) (⟨⟨_, _, rfl, rfl, rfl, rfl, id, rfl⟩, ⟨_, _, rfl, rfl, rfl, rfl, id, rfl⟩, trivial⟩) (trivial) (⟨(fun h => by cases h), (fun h => by cases h), trivial⟩) rfl) trivial ?_
 refine .as (.tup [.agg64 (fl (rtV (decR (ofV b)))), .bool true]) (by show AV.tup [.agg64 (fl (rtV (decR (ofV b)))), .bool (rtB (decR (ofV b)))] = _; rw [hR]) ?_
 refine .q rfl (op_move rfl) trivial ?_
 refine .q rfl (op_extract rfl rfl) trivial ?_
 refine .q rfl (op_extract rfl rfl) trivial ?_
 refine .a rfl (op_allocRow zero55 rel_zero55 rfl) trivial rfl rfl ?_
 refine .w rfl (op_storeRow sz55 rfl rfl rfl rfl rfl (rfl) (rfl)) trivial rfl rfl ?_
 refine .q rfl (op_assign rfl) trivial ?_
 refine .nil ?_
 show Ev _ _ _ _ _
 refine .seq ?_
 refine .seq ?_
 refine .region ?_
 refine .q (ap_idx_arr Tryz.underlying22 inf5.sz rfl rfl rfl (by decide)) trivial rfl ?_
 refine .q (op_load Tryz.underlying5 rfl rfl rfl rfl (by show 31 < b.length; omega)) trivial rfl ?_
 refine .q (op_bin8 rfl rfl rfl) trivial rfl ?_
 refine .q (op_bin8 rfl rfl rfl) trivial rfl ?_
 refine .as (.bool (decide (128 ≤ (b.getD 31 0).toNat))) (congrArg AV.bool (by rw [← top_and])) ?_
 refine .nil ?_
 show Ev _ _ _ _ _
 refine .cond rfl (fun hc31 => ?_) (fun hc31 => ?_)
 ·simp only [decide_eq_true_eq] at hc31
  refine .region ?_
  have hxl := rtV_lt (decR (ofV b))
  refine .q (op_loadRow Tryz.underlying55 rfl sz55 rfl rfl rfl (rfl)) trivial rfl ?_
  refine .q (op_call (U := []) [] [] (kneg_ev e _ (by first | assumption | exact mF_lt _ _ | exact aF_lt _ _ | exact sF_lt _ _ | exact nF_lt _ | exact fmod_lt _ | exact Nat.mod_lt _ fpos | exact dV_lt | decide)) Tryz.func57 (by kernel_rfl) rfl rfl rfl (⟨⟨_, rfl, rfl, rfl⟩, trivial⟩) (⟨⟨_, _, rfl, rfl, rfl, rfl, id, rfl⟩, trivial⟩) (trivial) (⟨(fun h => by cases h), trivial⟩) rfl) trivial rfl ?_
  refine .w (op_storeRow sz55 rfl rfl rfl rfl rfl (rfl) (rfl)) trivial rfl ?_
  refine .nil ?_
  show Ev _ _ _ _ _
  refine .seq ?_
  refine .region ?_
  refine .q (op_loadRow Tryz.underlying55 rfl sz55 rfl rfl rfl (rfl)) trivial rfl ?_
  refine .as (.agg64 (fl (decX b))) (congrArg (fun z => AV.agg64 (fl z)) (by first | exact (if_pos hc31).symm | exact (if_neg hc31).symm)) ?_
  refine .q (op_loadRow Tryz.underlying55 rfl sz55 rfl rfl rfl (rfl)) trivial rfl ?_
  refine .q (op_buildS (r := .agg64 (fl (decX b) ++ fl (ofV b))) Tryz.underlying57 rfl zero57 rel_zero57 rfl rfl rfl rfl) trivial rfl ?_
  refine .a (op_allocRow zero57 rel_zero57 rfl) trivial rfl ?_
  refine .w (op_storeRow sz57 rfl rfl rfl rfl rfl (rfl) (rfl)) trivial rfl ?_
  refine .nil ?_
  show Ev _ _ _ _ _
  refine .seq ?_
  refine .seq ?_
  refine .drawn [[], [0], [0, 1], [0, 1, 2], [0, 1, 2, 3], [0, 1, 2], [0, 1, 2, 3, 4, 5], [0, 1, 2, 3, 4, 5, 6]] [3, 4, 5] [] (by kernel_rfl) (by kernel_rfl) rfl ?_
  show DK _ [0, 1, 2, 3, 4, 5, 6, 7] _ _ _
  refine .q rfl (op_move rfl) trivial ?_
  refine .q rfl (op_notB rfl) trivial ?_
  refine .q rfl (op_move rfl) trivial ?_
  refine .know (b' := false) (rfl) ?_
  refine .q rfl (op_loadRow Tryz.underlying57 rfl sz57 rfl rfl rfl (rfl)) ⟨_, rfl, rfl⟩ ?_
  refine .q rfl (op_call (U := []) [] [] (kpenc_ev (decX b) (ofV b)) Tryz.func58 (by kernel_rfl) rfl rfl rfl (⟨⟨_, rfl, rfl, rfl⟩, trivial⟩) (trivial) (trivial) (trivial) rfl) ⟨_, rfl, rfl⟩ ?_
  refine .as (.aggB (encN (decX b) (ofV b))) rfl ?_
  refine .q rfl (op_loadRow Tryz.underlying22 rfl sz22 rfl rfl rfl (hb)) ⟨_, rfl, rfl⟩ ?_
  refine .q rfl (op_neqRow8 (n := 32) (by kernel_rfl) Tryz.underlying22 Tryz.underlying5 inf5.sz rfl rfl (length_encN _ _) (hb)) ⟨_, rfl, rfl⟩ ?_
  refine .as (.bool true) (congrArg AV.bool (by unfold bne; rw [hE]; rfl)) ?_
  refine .q rfl (op_pick_false rfl rfl rfl) trivial ?_
  refine .nil ?_
  show Ev _ _ _ _ _
  refine .cond_true rfl (rfl) ?_
  refine .seq ?_
  refine .region ?_
  refine .q (op_buildS (r := .agg64 (fl 0 ++ fl 0)) Tryz.underlying57 rfl zero57 rel_zero57 rfl rfl rfl rfl) trivial rfl ?_
  refine .w (op_storeRow sz57 rfl rfl rfl rfl rfl (rfl) (rfl)) trivial rfl ?_
  refine .q (op_assign rfl) trivial rfl ?_
  refine .nil ?_
  show Ev _ _ _ _ _
  refine .ret ?_
  show RetOk _ _ _ _ _ _ _
  exact retc2 rfl (.inl rfl) ⟨_, _, _, _, rfl, rfl, rfl, rfl, rfl, Tryz.underlying57, rfl, sz57⟩ rfl trivial
 ·simp only [decide_eq_false_iff_not] at hc31
  refine .skip ?_
  show Ev _ _ _ _ _
  refine .seq ?_
  refine .region ?_
  refine .q (op_loadRow Tryz.underlying55 rfl sz55 rfl rfl rfl (rfl)) trivial rfl ?_
  refine .as (.agg64 (fl (decX b))) (congrArg (fun z => AV.agg64 (fl z)) (by first | exact (if_pos hc31).symm | exact (if_neg hc31).symm)) ?_
  refine .q (op_loadRow Tryz.underlying55 rfl sz55 rfl rfl rfl (rfl)) trivial rfl ?_
  refine .q (op_buildS (r := .agg64 (fl (decX b) ++ fl (ofV b))) Tryz.underlying57 rfl zero57 rel_zero57 rfl rfl rfl rfl) trivial rfl ?_
  refine .a (op_allocRow zero57 rel_zero57 rfl) trivial rfl ?_
  refine .w (op_storeRow sz57 rfl rfl rfl rfl rfl (rfl) (rfl)) trivial rfl ?_
  refine .nil ?_
  show Ev _ _ _ _ _
  refine .seq ?_
  refine .seq ?_
  refine .drawn [[], [0], [0, 1], [0, 1, 2], [0, 1, 2, 3], [0, 1, 2], [0, 1, 2, 3, 4, 5], [0, 1, 2, 3, 4, 5, 6]] [3, 4, 5] [] (by kernel_rfl) (by kernel_rfl) rfl ?_
  show DK _ [0, 1, 2, 3, 4, 5, 6, 7] _ _ _
  refine .q rfl (op_move rfl) trivial ?_
  refine .q rfl (op_notB rfl) trivial ?_
  refine .q rfl (op_move rfl) trivial ?_
  refine .know (b' := false) (rfl) ?_
  refine .q rfl (op_loadRow Tryz.underlying57 rfl sz57 rfl rfl rfl (rfl)) ⟨_, rfl, rfl⟩ ?_
  refine .q rfl (op_call (U := []) [] [] (kpenc_ev (decX b) (ofV b)) Tryz.func58 (by kernel_rfl) rfl rfl rfl (⟨⟨_, rfl, rfl, rfl⟩, trivial⟩) (trivial) (trivial) (trivial) rfl) ⟨_, rfl, rfl⟩ ?_
  refine .as (.aggB (encN (decX b) (ofV b))) rfl ?_
  refine .q rfl (op_loadRow Tryz.underlying22 rfl sz22 rfl rfl rfl (hb)) ⟨_, rfl, rfl⟩ ?_
  refine .q rfl (op_neqRow8 (n := 32) (by kernel_rfl) Tryz.underlying22 Tryz.underlying5 inf5.sz rfl rfl (length_encN _ _) (hb)) ⟨_, rfl, rfl⟩ ?_
  refine .as (.bool true) (congrArg AV.bool (by unfold bne; rw [hE]; rfl)) ?_
  refine .q rfl (op_pick_false rfl rfl rfl) trivial ?_
  refine .nil ?_
  show Ev _ _ _ _ _
  refine .cond_true rfl (rfl) ?_
  refine .seq ?_
  refine .region ?_
  refine .q (op_buildS (r := .agg64 (fl 0 ++ fl 0)) Tryz.underlying57 rfl zero57 rel_zero57 rfl rfl rfl rfl) trivial rfl ?_
  refine .w (op_storeRow sz57 rfl rfl rfl rfl rfl (rfl) (rfl)) trivial rfl ?_
  refine .q (op_assign rfl) trivial rfl ?_
  refine .nil ?_
  show Ev _ _ _ _ _
  refine .ret ?_
  show RetOk _ _ _ _ _ _ _
  exact retc2 rfl (.inl rfl) ⟨_, _, _, _, rfl, rfl, rfl, rfl, rfl, Tryz.underlying57, rfl, sz57⟩ rfl trivial
set_option maxHeartbeats 1000000 in
set_option maxRecDepth 100000 in
theorem kdec_F (e e2 : Nat) (b : List UInt8) (hb : b.length = 32) (hR : rtB (decR (ofV b)) = false) : Meets Tryz.prog 25 [.aggB b] (HPM e e2) (.tup [.agg64 (fl (0) ++ fl (0)), .bool false]) [] := by
 refine meets_of_ev (nt := 47) Tryz.func25 rfl rfl (Nat.le_of_ble_eq_true rfl) ?_
 refine .seq ?_
 refine .region ?_
 refine .a (op_boxRow rfl rfl) trivial rfl ?_
 refine .a (op_allocRow zero57 rel_zero57 rfl) trivial rfl ?_
 refine .q (op_assign rfl) trivial rfl ?_
 refine .nil ?_
 show Ev _ _ _ _ _
 refine .seq ?_
 refine .region ?_
 refine .q (ap_slice_arr_hi Tryz.underlying22 inf5.sz rfl rfl (by first | omega | (simp only [AV.len]; omega)) (by decide) rfl (by first | omega | (simp only [AV.len]; omega))) trivial rfl ?_
 refine .q (op_bytes_str Tryz.underlying25 Tryz.underlying5 Tryz.underlying9 rfl rfl rfl (by first | omega | (simp only [AV.len]; omega) | (simp only [AV.len, List.length_set]; omega) | assumption | (simp [AV.len]; done))) trivial rfl ?_
 refine .as (.str b) (by rw [List.drop_zero, List.take_of_length_le (Nat.le_of_eq hb)]) ?_
 refine .q (op_call (U := []) [] [] (fof_ev b (by omega)) Tryz.func50 (by kernel_rfl) rfl rfl rfl (⟨⟨_, rfl, rfl, rfl⟩, trivial⟩) (trivial) (trivial) (trivial) rfl) trivial rfl ?_
 refine .as (.agg64 (fl (ofV b))) rfl ?_
 refine .a (op_allocRow zero55 rel_zero55 rfl) trivial rfl ?_
 refine .w (op_storeRow sz55 rfl rfl rfl rfl rfl (rfl) (rfl)) trivial rfl ?_
 refine .nil ?_
 show Ev _ _ _ _ _
 refine .seq ?_
 refine .drawn [[], [], [0, 1], [], [], [0, 1, 2, 3, 4], [0, 1, 2, 3, 4, 5]] [0, 1, 2, 3, 4, 5, 6] [5, 6] (by kernel_rfl) (by kernel_rfl) rfl ?_
 show DK _ [0, 1, 2, 3, 4, 5, 6] _ _ _
 have hyl := ofV_lt b
 refine .q rfl (op_call (U := []) [] [] (fsmall_ev _) Tryz.func51 (by kernel_rfl) rfl rfl rfl (⟨⟨_, rfl, rfl, rfl⟩, trivial⟩) (trivial) (trivial) (trivial) rfl) trivial ?_
 refine .q rfl (op_loadRow Tryz.underlying55 rfl sz55 rfl rfl rfl (rfl)) trivial ?_
 refine .q rfl (op_call (U := []) [] [] (ksq_ev _ (by first | assumption | exact mF_lt _ _ | exact aF_lt _ _ | exact sF_lt _ _ | exact nF_lt _ | exact fmod_lt _ | exact Nat.mod_lt _ fpos | exact dV_lt | decide)) Tryz.func52 (by kernel_rfl) rfl rfl rfl (⟨⟨_, rfl, rfl, rfl⟩, trivial⟩) (trivial) (trivial) (trivial) rfl) trivial ?_
 refine .a rfl (op_allocRow zero55 rel_zero55 rfl) trivial rfl rfl ?_
 refine .a rfl (op_allocRow zero55 rel_zero55 rfl) trivial rfl rfl ?_
 refine .w rfl (op_storeRow sz55 rfl rfl rfl rfl rfl (rfl) (rfl)) trivial rfl rfl ?_
 refine .w rfl (op_storeRow sz55 rfl rfl rfl rfl rfl (rfl) (rfl)) trivial rfl rfl ?_
 refine .nil ?_
 show Ev _ _ _ _ _
 refine .seq ?_
 refine .drawn [[], [], [0, 1], [], [0, 1, 2], [0, 1, 2, 3, 4], [], [0, 1, 2, 3, 4, 5, 6], [0, 1, 2, 3, 4, 5, 6, 7], [0, 1, 2, 3, 4, 5, 6, 7, 8], [0, 1, 2, 3, 4, 5, 6, 7, 8, 9], [0, 1, 2, 3, 4, 5, 6, 7, 8, 9], [], [0, 1, 2, 3, 4, 5, 6, 7, 8, 9, 10, 12], [0, 1, 2, 3, 4, 5, 6, 7, 8, 9, 10, 11, 12, 13]] [0, 1, 2, 3, 4, 5, 6, 7, 8, 12, 13] [13] (by kernel_rfl) (by kernel_rfl) rfl ?_
 show DK _ [0, 1, 2, 3, 4, 5, 6, 7, 8, 9, 10, 11, 12, 13, 14] _ _ _
 refine .q rfl (op_loadRow Tryz.underlying55 rfl sz55 rfl rfl rfl (rfl)) trivial ?_
 refine .q rfl (op_loadRow Tryz.underlying55 rfl sz55 rfl rfl rfl (rfl)) trivial ?_
 refine .q rfl (op_call (U := []) [] [] (ksub_ev e _ _ (by first | assumption | exact mF_lt _ _ | exact aF_lt _ _ | exact sF_lt _ _ | exact nF_lt _ | exact fmod_lt _ | exact Nat.mod_lt _ fpos | exact dV_lt | decide) (by first | assumption | exact mF_lt _ _ | exact aF_lt _ _ | exact sF_lt _ _ | exact nF_lt _ | exact fmod_lt _ | exact Nat.mod_lt _ fpos | exact dV_lt | decide)) Tryz.func54 (by kernel_rfl) rfl rfl rfl (⟨⟨_, rfl, rfl, rfl⟩, ⟨_, rfl, rfl, rfl⟩, trivial⟩) (⟨⟨_, _, rfl, rfl, rfl, rfl, id, rfl⟩, trivial⟩) (trivial) (⟨(fun h => by cases h), trivial⟩) rfl) trivial ?_
 refine .as (.agg64 (fl (decU (ofV b)))) rfl ?_
 refine .q rfl (op_loadRow Tryz.underlying55 rfl sz55 rfl rfl rfl (rfl)) trivial ?_
 refine .q rfl (op_call (U := []) [] [] (kofD_ev) Tryz.func50 (by kernel_rfl) rfl rfl rfl (⟨⟨_, rfl, rfl, rfl⟩, trivial⟩) (trivial) (trivial) (trivial) rfl) trivial ?_
 refine .q rfl (op_call (U := []) [] [] (kmul_ev _ _ (by first | assumption | exact mF_lt _ _ | exact aF_lt _ _ | exact sF_lt _ _ | exact nF_lt _ | exact fmod_lt _ | exact Nat.mod_lt _ fpos | exact dV_lt | decide) (by first | assumption | exact mF_lt _ _ | exact aF_lt _ _ | exact sF_lt _ _ | exact nF_lt _ | exact fmod_lt _ | exact Nat.mod_lt _ fpos | exact dV_lt | decide)) Tryz.func55 (by kernel_rfl) rfl rfl rfl (⟨⟨_, rfl, rfl, rfl⟩, ⟨_, rfl, rfl, rfl⟩, trivial⟩) (trivial) (trivial) (trivial) rfl) trivial ?_
 refine .q rfl (op_loadRow Tryz.underlying55 rfl sz55 rfl rfl rfl (rfl)) trivial ?_
 refine .q rfl (op_call (U := []) [] [] (kadd_ev _ _ (by first | assumption | exact mF_lt _ _ | exact aF_lt _ _ | exact sF_lt _ _ | exact nF_lt _ | exact fmod_lt _ | exact Nat.mod_lt _ fpos | exact dV_lt | decide) (by first | assumption | exact mF_lt _ _ | exact aF_lt _ _ | exact sF_lt _ _ | exact nF_lt _ | exact fmod_lt _ | exact Nat.mod_lt _ fpos | exact dV_lt | decide)) Tryz.func56 (by kernel_rfl) rfl rfl rfl (⟨⟨_, rfl, rfl, rfl⟩, ⟨_, rfl, rfl, rfl⟩, trivial⟩) (trivial) (trivial) (trivial) rfl) trivial ?_
 refine .as (.agg64 (fl (decV (ofV b)))) rfl ?_
 refine .q rfl (op_call (U := []) [] [] (froot_ev e e2 (decU (ofV b)) (decV (ofV b)) (sF_lt _ _) (aF_lt _ _) (decV_ne _)) Tryz.func53 (by kernel_rfl) rfl rfl rfl (⟨⟨_, rfl, rfl, rfl⟩, ⟨_, rfl, rfl, rfl⟩, trivial⟩) (⟨⟨_, _, rfl, rfl, rfl, rfl, id, rfl⟩, ⟨_, _, rfl, rfl, rfl, rfl, id, rfl⟩, trivial⟩) (trivial) (⟨(fun h => by cases h), (fun h => by cases h), trivial⟩) rfl) trivial ?_
 refine .as (.tup [.agg64 (fl (rtV (decR (ofV b)))), .bool false]) (by show AV.tup [.agg64 (fl (rtV (decR (ofV b)))), .bool (rtB (decR (ofV b)))] = _; rw [hR]) ?_
 refine .q rfl (op_move rfl) trivial ?_
 refine .q rfl (op_extract rfl rfl) trivial ?_
 refine .q rfl (op_extract rfl rfl) trivial ?_
 refine .a rfl (op_allocRow zero55 rel_zero55 rfl) trivial rfl rfl ?_
 refine .w rfl (op_storeRow sz55 rfl rfl rfl rfl rfl (rfl) (rfl)) trivial rfl rfl ?_
 refine .q rfl (op_assign rfl) trivial ?_
 refine .nil ?_
 show Ev _ _ _ _ _
 refine .seq ?_
 refine .seq ?_
 refine .region ?_
 refine .q (ap_idx_arr Tryz.underlying22 inf5.sz rfl rfl rfl (by decide)) trivial rfl ?_
 refine .q (op_load Tryz.underlying5 rfl rfl rfl rfl (by show 31 < b.length; omega)) trivial rfl ?_
 refine .q (op_bin8 rfl rfl rfl) trivial rfl ?_
 refine .q (op_bin8 rfl rfl rfl) trivial rfl ?_
 refine .as (.bool (decide (128 ≤ (b.getD 31 0).toNat))) (congrArg AV.bool (by rw [← top_and])) ?_
 refine .nil ?_
 show Ev _ _ _ _ _
 refine .cond rfl (fun hc31 => ?_) (fun hc31 => ?_)
 ·simp only [decide_eq_true_eq] at hc31
  refine .region ?_
  have hxl := rtV_lt (decR (ofV b))
  refine .q (op_loadRow Tryz.underlying55 rfl sz55 rfl rfl rfl (rfl)) trivial rfl ?_
  refine .q (op_call (U := []) [] [] (kneg_ev e _ (by first | assumption | exact mF_lt _ _ | exact aF_lt _ _ | exact sF_lt _ _ | exact nF_lt _ | exact fmod_lt _ | exact Nat.mod_lt _ fpos | exact dV_lt | decide)) Tryz.func57 (by kernel_rfl) rfl rfl rfl (⟨⟨_, rfl, rfl, rfl⟩, trivial⟩) (⟨⟨_, _, rfl, rfl, rfl, rfl, id, rfl⟩, trivial⟩) (trivial) (⟨(fun h => by cases h), trivial⟩) rfl) trivial rfl ?_
  refine .w (op_storeRow sz55 rfl rfl rfl rfl rfl (rfl) (rfl)) trivial rfl ?_
  refine .nil ?_
  show Ev _ _ _ _ _
  refine .seq ?_
  refine .region ?_
  refine .q (op_loadRow Tryz.underlying55 rfl sz55 rfl rfl rfl (rfl)) trivial rfl ?_
  refine .as (.agg64 (fl (decX b))) (congrArg (fun z => AV.agg64 (fl z)) (by first | exact (if_pos hc31).symm | exact (if_neg hc31).symm)) ?_
  refine .q (op_loadRow Tryz.underlying55 rfl sz55 rfl rfl rfl (rfl)) trivial rfl ?_
  refine .q (op_buildS (r := .agg64 (fl (decX b) ++ fl (ofV b))) Tryz.underlying57 rfl zero57 rel_zero57 rfl rfl rfl rfl) trivial rfl ?_
  refine .a (op_allocRow zero57 rel_zero57 rfl) trivial rfl ?_
  refine .w (op_storeRow sz57 rfl rfl rfl rfl rfl (rfl) (rfl)) trivial rfl ?_
  refine .nil ?_
  show Ev _ _ _ _ _
  refine .seq ?_
  refine .seq ?_
  refine .drawn [[], [0], [0, 1], [0, 1, 2], [0, 1, 2, 3], [0, 1, 2], [0, 1, 2, 3, 4, 5], [0, 1, 2, 3, 4, 5, 6]] [3, 4, 5] [] (by kernel_rfl) (by kernel_rfl) rfl ?_
  show DK _ [0, 1, 2, 3, 4, 5, 6, 7] _ _ _
  refine .q rfl (op_move rfl) trivial ?_
  refine .q rfl (op_notB rfl) trivial ?_
  refine .q rfl (op_move rfl) trivial ?_
  refine .know (b' := true) (rfl) ?_
  refine .no rfl ⟨_, rfl, rfl⟩ ?_
  refine .no rfl ⟨_, rfl, rfl⟩ ?_
  refine .no rfl ⟨_, rfl, rfl⟩ ?_
  refine .no rfl ⟨_, rfl, rfl⟩ ?_
  refine .q rfl (op_pick_true rfl rfl rfl) trivial ?_
  refine .nil ?_
  show Ev _ _ _ _ _
  refine .cond_true rfl rfl ?_
  refine .seq ?_
  refine .region ?_
  refine .q (op_buildS (r := .agg64 (fl 0 ++ fl 0)) Tryz.underlying57 rfl zero57 rel_zero57 rfl rfl rfl rfl) trivial rfl ?_
  refine .w (op_storeRow sz57 rfl rfl rfl rfl rfl (rfl) (rfl)) trivial rfl ?_
  refine .q (op_assign rfl) trivial rfl ?_
  refine .nil ?_
  show Ev _ _ _ _ _
  refine .ret ?_
  show RetOk _ _ _ _ _ _ _
  exact retc2 rfl (.inl rfl) ⟨_, _, _, _, rfl, rfl, rfl, rfl, rfl, Tryz.underlying57, rfl, sz57⟩ rfl trivial
 ·simp only [decide_eq_false_iff_not] at hc31
  refine .skip ?_
  show Ev _ _ _ _ _
  refine .seq ?_
  refine .region ?_
  refine .q (op_loadRow Tryz.underlying55 rfl sz55 rfl rfl rfl (rfl)) trivial rfl ?_
  refine .as (.agg64 (fl (decX b))) (congrArg (fun z => AV.agg64 (fl z)) (by first | exact (if_pos hc31).symm | exact (if_neg hc31).symm)) ?_
  refine .q (op_loadRow Tryz.underlying55 rfl sz55 rfl rfl rfl (rfl)) trivial rfl ?_
  refine .q (op_buildS (r := .agg64 (fl (decX b) ++ fl (ofV b))) Tryz.underlying57 rfl zero57 rel_zero57 rfl rfl rfl rfl) trivial rfl ?_
  refine .a (op_allocRow zero57 rel_zero57 rfl) trivial rfl ?_
  refine .w (op_storeRow sz57 rfl rfl rfl rfl rfl (rfl) (rfl)) trivial rfl ?_
  refine .nil ?_
  show Ev _ _ _ _ _
  refine .seq ?_
  refine .seq ?_
  refine .drawn [[], [0], [0, 1], [0, 1, 2], [0, 1, 2, 3], [0, 1, 2], [0, 1, 2, 3, 4, 5], [0, 1, 2, 3, 4, 5, 6]] [3, 4, 5] [] (by kernel_rfl) (by kernel_rfl) rfl ?_
  show DK _ [0, 1, 2, 3, 4, 5, 6, 7] _ _ _
  refine .q rfl (op_move rfl) trivial ?_
  refine .q rfl (op_notB rfl) trivial ?_
  refine .q rfl (op_move rfl) trivial ?_
  refine .know (b' := true) (rfl) ?_
  refine .no rfl ⟨_, rfl, rfl⟩ ?_
  refine .no rfl ⟨_, rfl, rfl⟩ ?_
  refine .no rfl ⟨_, rfl, rfl⟩ ?_
  refine .no rfl ⟨_, rfl, rfl⟩ ?_
  refine .q rfl (op_pick_true rfl rfl rfl) trivial ?_
  refine .nil ?_
  show Ev _ _ _ _ _
  refine .cond_true rfl rfl ?_
  refine .seq ?_
  refine .region ?_
  refine .q (op_buildS (r := .agg64 (fl 0 ++ fl 0)) Tryz.underlying57 rfl zero57 rel_zero57 rfl rfl rfl rfl) trivial rfl ?_
  refine .w (op_storeRow sz57 rfl rfl rfl rfl rfl (rfl) (rfl)) trivial rfl ?_
  refine .q (op_assign rfl) trivial rfl ?_
  refine .nil ?_
  show Ev _ _ _ _ _
  refine .ret ?_
  show RetOk _ _ _ _ _ _ _
  exact retc2 rfl (.inl rfl) ⟨_, _, _, _, rfl, rfl, rfl, rfl, rfl, Tryz.underlying57, rfl, sz57⟩ rfl trivial
def decP (b : List UInt8) : Nat × Nat := if decB b then (decX b, ofV b) else (0, 0)
theorem kdec_ev (e e2 : Nat) (b : List UInt8) (hb : b.length = 32) : Meets Tryz.prog 25 [.aggB b] (HPM e e2) (.tup [.agg64 (fl (decP b).1 ++ fl (decP b).2), .bool (decB b)]) [] := by
 by_cases hR : rtB (decR (ofV b)) = true
 ·by_cases hE : (encN (decX b) (ofV b) == b) = true
  ·have hB : decB b = true := by unfold decB; rw [hR, hE]; rfl
   exact (kdec_T e e2 b hb hR hE).as (by unfold decP; rw [hB]; rfl)
  ·have hE : (encN (decX b) (ofV b) == b) = false := by simpa using hE
   have hB : decB b = false := by unfold decB; rw [hR, hE]; rfl
   exact (kdec_E e e2 b hb hR hE).as (by unfold decP; rw [hB]; rfl)
 ·have hR : rtB (decR (ofV b)) = false := by simpa using hR
  have hB : decB b = false := by unfold decB; rw [hR]; rfl
  exact (kdec_F e e2 b hb hR).as (by unfold decP; rw [hB]; rfl)
theorem one_fp2 : 1 < fp := by decide
theorem cbQ_lt (S K : List UInt8) (x y i : Nat) : QL (cbQ S K x y i) := by
 cases i with
 | zero => exact ⟨fpos, one_fp2, one_fp2, fpos⟩
 | succ i =>
  simp only [cbQ]
  by_cases h : kb K (255 - i) = true
  ·rw [if_pos h]; exact plusQ_lt _ _ _ _
  ·rw [if_neg h]
   by_cases h2 : kb S (255 - i) = true
   ·rw [if_pos h2]; exact plusQ_lt _ _ _ _
   ·rw [if_neg h2]; exact twiceQ_lt _
def cbM (S K : List UInt8) (x y j : Nat) : Q4 := if kb S (255 - j) then plusQ (twiceQ (cbQ S K x y j)) (adA bX bY) (adB bX bY) (adC bX bY) else twiceQ (cbQ S K x y j)
theorem cbM_lt (S K : List UInt8) (x y j : Nat) : QL (cbM S K x y j) := by
 unfold cbM
 by_cases h2 : kb S (255 - j) = true
 ·rw [if_pos h2]; exact plusQ_lt _ _ _ _
 ·rw [if_neg h2]; exact twiceQ_lt _
theorem cbM_t {S K : List UInt8} {x y j : Nat} (h : kb S (255 - j) = true) : plusQ (twiceQ (cbQ S K x y j)) (adA bX bY) (adB bX bY) (adC bX bY) = cbM S K x y j := (if_pos h).symm
theorem cbM_f {S K : List UInt8} {x y j : Nat} (h : ¬ kb S (255 - j) = true) : twiceQ (cbQ S K x y j) = cbM S K x y j := (if_neg h).symm
theorem cbE_t {S K : List UInt8} {x y j : Nat} (h : kb K (255 - j) = true) : plusQ (cbM S K x y j) (adA x y) (adB x y) (adC x y) = cbQ S K x y (j + 1) := (if_pos h).symm
theorem cbE_f {S K : List UInt8} {x y j : Nat} (h : ¬ kb K (255 - j) = true) : cbM S K x y j = cbQ S K x y (j + 1) := (if_neg h).symm
set_option maxHeartbeats 2000000 in
set_option maxRecDepth 100000 in
theorem ktb_ev (e : Nat) (K : List UInt8) (hK : K.length = 32) : Meets Tryz.prog 46 [.aggB K] (HP e) (.agg64 (fl (tbQ K 256).1 ++ fl (tbQ K 256).2.1 ++ fl (tbQ K 256).2.2.1 ++ fl (tbQ K 256).2.2.2)) [] := by
 refine meets_of_ev (nt := 35) Tryz.func46 rfl rfl (Nat.le_of_ble_eq_true rfl) ?_
 refine .seq ?_
 refine .region ?_
 refine .a (op_boxRow rfl rfl) trivial rfl ?_
 refine .a (op_allocRow zero65 rel_zero65 rfl) trivial rfl ?_
 refine .nil ?_
 show Ev _ _ _ _ _
 refine .seq ?_
 refine .region ?_
 refine .q (op_call (U := []) [] [] (kbase_ev) Tryz.func75 (by kernel_rfl) rfl rfl rfl (trivial) (trivial) (trivial) (trivial) rfl) trivial rfl ?_
 refine .q (op_call (U := []) [] [] (kadd3_ev e bX bY bX_lt bY_lt) Tryz.func76 (by kernel_rfl) rfl rfl rfl (⟨⟨_, rfl, rfl, rfl⟩, trivial⟩) (⟨⟨_, _, rfl, rfl, rfl, rfl, id, rfl⟩, trivial⟩) (trivial) (⟨(fun h => by cases h), trivial⟩) rfl) trivial rfl ?_
 refine .q (op_call (U := []) [] [] (kneut_ev) Tryz.func77 (by kernel_rfl) rfl rfl rfl (trivial) (trivial) (trivial) (trivial) rfl) trivial rfl ?_
 refine .as (.agg64 (fl (tbQ K 0).1 ++ fl (tbQ K 0).2.1 ++ fl (tbQ K 0).2.2.1 ++ fl (tbQ K 0).2.2.2)) rfl ?_
 refine .a (op_allocRow zero102 rel_zero102 rfl) trivial rfl ?_
 refine .a (op_allocRow zero65 rel_zero65 rfl) trivial rfl ?_
 refine .w (op_storeRow sz102 rfl rfl rfl rfl rfl (rfl) (rfl)) trivial rfl ?_
 refine .w (op_storeRow sz65 rfl rfl rfl rfl rfl (rfl) (rfl)) trivial rfl ?_
 refine .nil ?_
 show Ev _ _ _ _ _
 refine .seq ?_
 refine .region ?_
 refine .q (op_loadRow Tryz.underlying22 rfl sz22 rfl rfl rfl (hK)) trivial rfl ?_
 refine .a (op_call (U := [(1032, some ⟨.aggT (btN K 256), 4, true⟩)]) [] [(1032, 1008)] (sbits_ev K hK) Tryz.func78 (by kernel_rfl) rfl rfl rfl (⟨⟨_, rfl, rfl, rfl⟩, trivial⟩) (trivial) (⟨⟨1008, _, rfl, rfl, rfl, rfl, .inl rfl⟩, trivial⟩) (trivial) rfl) trivial rfl ?_
 refine .q (op_assign rfl) trivial rfl ?_
 refine .nil ?_
 show Ev _ _ _ _ _
 refine .seq ?_
 refine .seq ?_
 refine .region ?_
 refine .q (op_move rfl) trivial rfl ?_
 refine .q (op_len_sl Tryz.underlying105 rfl) trivial rfl ?_
 refine .q (op_move rfl) trivial rfl ?_
 refine .nil ?_
 show Ev _ _ _ _ _
 refine .block ?_
 refine Ev.loop (ι := { j : Nat // j ≤ 256 }) (fun j => ⟨[(1, .ptr 1000 0), (2, .ptr 1008 0), (3, .ptr 1016 0), (4, .ptr 1024 0), (5, .sl 1032 0 256 1), (14, .i64 256), (15, .i64 ((j.1 : Nat) : Int))], [(1000, some ⟨.aggB K, 22, true⟩), (1008, some ⟨.agg64 (List.replicate 16 0), 65, true⟩), (1016, some ⟨.agg64 (fl (adA bX bY) ++ fl (adB bX bY) ++ fl (adC bX bY)), 102, true⟩), (1024, some ⟨.agg64 (fl (tbQ K j.1).1 ++ fl (tbQ K j.1).2.1 ++ fl (tbQ K j.1).2.2.1 ++ fl (tbQ K j.1).2.2.2), 65, true⟩), (1032, some ⟨.aggT (btN K 256), 4, true⟩), (0, some ⟨.agg64 primeL, e, false⟩)], 1040⟩) (fun j => 256 - j.1) ⟨0, Nat.zero_le _⟩ (StLe.mk [(1000, 1000), (1008, 1008), (1016, 1016), (1024, 1024), (1032, 1032)] rfl rfl ⟨⟨_, rfl, by first | rfl | (simp only [AV.ren]; congr 1; omega), rfl⟩, ⟨_, rfl, by first | rfl | (simp only [AV.ren]; congr 1; omega), rfl⟩, ⟨_, rfl, by first | rfl | (simp only [AV.ren]; congr 1; omega), rfl⟩, ⟨_, rfl, by first | rfl | (simp only [AV.ren]; congr 1; omega), rfl⟩, ⟨_, rfl, by first | rfl | (simp only [AV.ren]; congr 1; omega), rfl⟩, ⟨_, rfl, by first | rfl | (simp only [AV.ren]; congr 1; omega), rfl⟩, ⟨_, rfl, by first | rfl | (simp only [AV.ren]; congr 1; omega), rfl⟩, trivial⟩ ⟨⟨_, _, rfl, rfl, by first | rfl | (simp only [AV.ren]; congr 1; omega), rfl, id, rfl⟩, ⟨_, _, rfl, rfl, by first | rfl | (simp only [AV.ren]; congr 1; omega), rfl, id, rfl⟩, ⟨_, _, rfl, rfl, by first | rfl | (simp only [AV.ren]; congr 1; omega), rfl, id, rfl⟩, ⟨_, _, rfl, rfl, by first | rfl | (simp only [AV.ren]; congr 1; omega), rfl, id, rfl⟩, ⟨_, _, rfl, rfl, by first | rfl | (simp only [AV.ren]; congr 1; omega), rfl, id, rfl⟩, ⟨_, _, rfl, rfl, by first | rfl | (simp only [AV.ren]; congr 1; omega), rfl, id, rfl⟩, trivial⟩) ?_
 rintro ⟨j, hj⟩
 dsimp only
 have hbl := length_btN K 256
 refine .seq ?_
 refine .region ?_
 refine .q (op_cmpI rfl rfl rfl) trivial rfl ?_
 refine .nil ?_
 show Ev _ _ _ _ _
 refine .seq ?_
 refine .cond rfl (fun hc16 => ?_) (fun hc16 => ?_)
 ·simp only [decide_eq_true_eq] at hc16
  refine .skip ?_
  show Ev _ _ _ _ _
  refine .seq ?_
  refine .block ?_
  refine .seq ?_
  refine .region ?_
  refine .q (op_move rfl) trivial rfl ?_
  refine .q (op_assign rfl) trivial rfl ?_
  refine .nil ?_
  show Ev _ _ _ _ _
  refine .seq ?_
  refine .region ?_
  refine .q (op_loadRow Tryz.underlying65 rfl sz65 rfl rfl rfl (rfl)) trivial rfl ?_
  refine .q (op_call (U := []) [] [] (ktwice_ev e (tbQ K j) (tbQ_lt K j)) Tryz.func79 (by kernel_rfl) rfl rfl rfl (⟨⟨_, rfl, rfl, rfl⟩, trivial⟩) (⟨⟨_, _, rfl, rfl, rfl, rfl, id, rfl⟩, trivial⟩) (trivial) (⟨(fun h => by cases h), trivial⟩) rfl) trivial rfl ?_
  refine .a (op_allocRow zero65 rel_zero65 rfl) trivial rfl ?_
  refine .w (op_storeRow sz65 rfl rfl rfl rfl rfl (rfl) (rfl)) trivial rfl ?_
  refine .nil ?_
  show Ev _ _ _ _ _
  refine .drawn [[], [], [1], [1, 2], [], [1, 2, 3, 4], [0, 1, 2, 3, 4, 5], [0, 1, 2, 3, 4, 5, 6], [], [], [8, 9], [], [0, 1, 2, 3, 4, 5, 6, 7, 8, 9, 10, 11], [0, 1, 2, 3, 4, 5, 6, 7, 8, 9, 10, 11, 12]] [7, 8, 9, 10, 11, 12, 13] [13] (by kernel_rfl) (by kernel_rfl) rfl ?_
  show DK _ [0, 1, 2, 3, 4, 5, 6, 7, 8, 9, 10, 11, 12, 13] _ _ _
  refine .q rfl (op_move rfl) trivial ?_
  refine .q rfl (op_move rfl) trivial ?_
  refine .q rfl (op_len_sl Tryz.underlying105 rfl) trivial ?_
  refine .q rfl (op_subI rfl rfl ⟨by omega, by omega⟩) trivial ?_
  refine .q rfl (op_move rfl) trivial ?_
  refine .q rfl (op_subI rfl rfl ⟨by omega, by omega⟩) trivial ?_
  refine .as (.i64 ((255 - j : Nat) : Int)) (congrArg AV.i64 (by omega)) ?_
  refine .q rfl (ap_idx0 Tryz.underlying105 inf4.sz rfl rfl rfl (by omega)) trivial ?_
  refine .q rfl (op_load Tryz.underlying4 rfl rfl rfl rfl (by show 255 - j < (btN K 256).length; omega)) trivial ?_
  refine .as (.bool (kb K (255 - j))) (congrArg AV.bool (btN_get K 256 _ (by omega))) ?_
  refine .q rfl (op_loadRow Tryz.underlying65 rfl sz65 rfl rfl rfl (rfl)) trivial ?_
  refine .q rfl (op_loadRow Tryz.underlying102 rfl sz102 rfl rfl rfl (rfl)) trivial ?_
  refine .q rfl (op_call (U := []) [] [] (kplus_ev e (twiceQ (tbQ K j)) _ _ _ (twiceQ_lt _) (aF_lt _ _) (sF_lt _ _) (aF_lt _ _)) Tryz.func80 (by kernel_rfl) rfl rfl rfl (⟨⟨_, rfl, rfl, rfl⟩, ⟨_, rfl, rfl, rfl⟩, trivial⟩) (⟨⟨_, _, rfl, rfl, rfl, rfl, id, rfl⟩, trivial⟩) (trivial) (⟨(fun h => by cases h), trivial⟩) rfl) trivial ?_
  refine .q rfl (op_loadRow Tryz.underlying65 rfl sz65 rfl rfl rfl (rfl)) trivial ?_
  refine .q rfl (op_call (U := []) [] [] (kchoose_ev (kb K (255 - j)) (plusQ (twiceQ (tbQ K j)) (adA bX bY) (adB bX bY) (adC bX bY)) (twiceQ (tbQ K j))) Tryz.func91 (by kernel_rfl) rfl rfl rfl (⟨⟨_, rfl, rfl, rfl⟩, ⟨_, rfl, rfl, rfl⟩, ⟨_, rfl, rfl, rfl⟩, trivial⟩) (trivial) (trivial) (trivial) rfl) trivial ?_
  refine .w rfl (op_storeRow sz65 rfl rfl rfl rfl rfl (rfl) (rfl)) trivial rfl rfl ?_
  refine .nil ?_
  show Ev _ _ _ _ _
  refine .region ?_
  refine .q (op_addI rfl rfl ⟨by omega, by omega⟩) trivial rfl ?_
  refine .q (op_move rfl) trivial rfl ?_
  refine .nil ?_
  exact ⟨⟨j + 1, by omega⟩, by show 256 - (j + 1) < 256 - j; omega, StLe.mk [(1000, 1000), (1008, 1008), (1016, 1016), (1024, 1024), (1032, 1032)] rfl rfl ⟨⟨_, rfl, by first | rfl | (simp only [AV.ren]; congr 1; omega), rfl⟩, ⟨_, rfl, by first | rfl | (simp only [AV.ren]; congr 1; omega), rfl⟩, ⟨_, rfl, by first | rfl | (simp only [AV.ren]; congr 1; omega), rfl⟩, ⟨_, rfl, by first | rfl | (simp only [AV.ren]; congr 1; omega), rfl⟩, ⟨_, rfl, by first | rfl | (simp only [AV.ren]; congr 1; omega), rfl⟩, ⟨_, rfl, by first | rfl | (simp only [AV.ren]; congr 1; omega), rfl⟩, ⟨_, rfl, by first | rfl | (simp only [AV.ren]; congr 1; omega), rfl⟩, trivial⟩ ⟨⟨_, _, rfl, rfl, by first | rfl | (simp only [AV.ren]; congr 1; omega), rfl, id, rfl⟩, ⟨_, _, rfl, rfl, by first | rfl | (simp only [AV.ren]; congr 1; omega), rfl, id, rfl⟩, ⟨_, _, rfl, rfl, by first | rfl | (simp only [AV.ren]; congr 1; omega), rfl, id, rfl⟩, ⟨_, _, rfl, rfl, by (simp only [AV.ren, tbQ]; done), rfl, id, rfl⟩, ⟨_, _, rfl, rfl, by first | rfl | (simp only [AV.ren]; congr 1; omega), rfl, id, rfl⟩, ⟨_, _, rfl, rfl, by first | rfl | (simp only [AV.ren]; congr 1; omega), rfl, id, rfl⟩, trivial⟩⟩
 ·simp only [decide_eq_false_iff_not] at hc16
  refine .exit ?_
  show Ev _ _ _ _ _
  have ej : j = 256 := by omega
  refine Ev.weak (st2 := ⟨[(1, .ptr 1000 0), (2, .ptr 1008 0), (3, .ptr 1016 0), (4, .ptr 1024 0), (5, .sl 1032 0 256 1), (14, .i64 256), (15, .i64 (((256) : Nat) : Int))], [(1000, some ⟨.aggB K, 22, true⟩), (1008, some ⟨.agg64 (List.replicate 16 0), 65, true⟩), (1016, some ⟨.agg64 (fl (adA bX bY) ++ fl (adB bX bY) ++ fl (adC bX bY)), 102, true⟩), (1024, some ⟨.agg64 (fl (tbQ K (256)).1 ++ fl (tbQ K (256)).2.1 ++ fl (tbQ K (256)).2.2.1 ++ fl (tbQ K (256)).2.2.2), 65, true⟩), (1032, some ⟨.aggT (btN K 256), 4, true⟩), (0, some ⟨.agg64 primeL, e, false⟩)], 1040⟩) (StLe.mk [(1000, 1000), (1008, 1008), (1016, 1016), (1024, 1024), (1032, 1032)] rfl rfl ⟨⟨_, rfl, by first | (simp only [AV.ren]; done) | (simp only [AV.ren]; rw [ej]; done) | rfl, rfl⟩, ⟨_, rfl, by first | (simp only [AV.ren]; done) | (simp only [AV.ren]; rw [ej]; done) | rfl, rfl⟩, ⟨_, rfl, by first | (simp only [AV.ren]; done) | (simp only [AV.ren]; rw [ej]; done) | rfl, rfl⟩, ⟨_, rfl, by first | (simp only [AV.ren]; done) | (simp only [AV.ren]; rw [ej]; done) | rfl, rfl⟩, ⟨_, rfl, by first | (simp only [AV.ren]; done) | (simp only [AV.ren]; rw [ej]; done) | rfl, rfl⟩, ⟨_, rfl, by first | (simp only [AV.ren]; done) | (simp only [AV.ren]; rw [ej]; done) | rfl, rfl⟩, ⟨_, rfl, by first | (simp only [AV.ren]; done) | (simp only [AV.ren]; rw [ej]; done) | rfl, rfl⟩, trivial⟩ ⟨⟨_, _, rfl, rfl, by first | (simp only [AV.ren]; done) | (simp only [AV.ren]; rw [ej]; done) | rfl, rfl, id, rfl⟩, ⟨_, _, rfl, rfl, by first | (simp only [AV.ren]; done) | (simp only [AV.ren]; rw [ej]; done) | rfl, rfl, id, rfl⟩, ⟨_, _, rfl, rfl, by first | (simp only [AV.ren]; done) | (simp only [AV.ren]; rw [ej]; done) | rfl, rfl, id, rfl⟩, ⟨_, _, rfl, rfl, by first | (simp only [AV.ren]; done) | (simp only [AV.ren]; rw [ej]; done) | rfl, rfl, id, rfl⟩, ⟨_, _, rfl, rfl, by first | (simp only [AV.ren]; done) | (simp only [AV.ren]; rw [ej]; done) | rfl, rfl, id, rfl⟩, ⟨_, _, rfl, rfl, by first | (simp only [AV.ren]; done) | (simp only [AV.ren]; rw [ej]; done) | rfl, rfl, id, rfl⟩, trivial⟩) ?_
  refine .seq ?_
  refine .region ?_
  refine .q (op_loadRow Tryz.underlying65 rfl sz65 rfl rfl rfl (rfl)) trivial rfl ?_
  refine .w (op_storeRow sz65 rfl rfl rfl rfl rfl (rfl) (rfl)) trivial rfl ?_
  refine .nil ?_
  show Ev _ _ _ _ _
  refine .ret ?_
  show RetOk _ _ _ _ _ _ _
  exact retc1 rfl (.inl rfl) ⟨_, _, _, _, rfl, rfl, rfl, rfl, (rfl), Tryz.underlying65, rfl, sz65⟩ trivial
set_option maxHeartbeats 4000000 in
set_option maxRecDepth 100000 in
theorem kcb_ev (e : Nat) (S K : List UInt8) (x y : Nat) (hS : S.length = 32) (hK : K.length = 32) (hx : x < fp) (hy : y < fp) : Meets Tryz.prog 34 [.aggB S, .aggB K, .agg64 (fl (x) ++ fl (y))] (HP e) (.agg64 (fl (cbQ S K x y 256).1 ++ fl (cbQ S K x y 256).2.1 ++ fl (cbQ S K x y 256).2.2.1 ++ fl (cbQ S K x y 256).2.2.2)) [] := by
 refine meets_of_ev (nt := 51) Tryz.func34 rfl rfl (Nat.le_of_ble_eq_true rfl) ?_
 refine .seq ?_
 refine .region ?_
 refine .a (op_boxRow rfl rfl) trivial rfl ?_
 refine .a (op_boxRow rfl rfl) trivial rfl ?_
 refine .a (op_boxRow rfl rfl) trivial rfl ?_
 refine .a (op_allocRow zero65 rel_zero65 rfl) trivial rfl ?_
 refine .nil ?_
 show Ev _ _ _ _ _
 refine .seq ?_
 refine .drawn [[], [0], [], [0, 1, 2], [0, 1, 2, 3], [], [], [], [0, 1, 2, 3, 4, 5, 6, 7], [0, 1, 2, 3, 4, 5, 6, 7, 8], [0, 1, 2, 3, 4, 5, 6, 7, 8, 9]] [0, 1, 2, 3, 4, 5, 6, 7, 8, 9, 10] [8, 9, 10] (by kernel_rfl) (by kernel_rfl) rfl ?_
 show DK _ [0, 1, 2, 3, 4, 5, 6, 7, 8, 9, 10] _ _ _
 refine .q rfl (op_call (U := []) [] [] (kbase_ev) Tryz.func75 (by kernel_rfl) rfl rfl rfl (trivial) (trivial) (trivial) (trivial) rfl) trivial ?_
 refine .q rfl (op_call (U := []) [] [] (kadd3_ev e bX bY bX_lt bY_lt) Tryz.func76 (by kernel_rfl) rfl rfl rfl (⟨⟨_, rfl, rfl, rfl⟩, trivial⟩) (⟨⟨_, _, rfl, rfl, rfl, rfl, id, rfl⟩, trivial⟩) (trivial) (⟨(fun h => by cases h), trivial⟩) rfl) trivial ?_
 refine .q rfl (op_loadRow Tryz.underlying57 rfl sz57 rfl rfl rfl (rfl)) trivial ?_
 refine .q rfl (op_call (U := []) [] [] (kadd3_ev e x y hx hy) Tryz.func76 (by kernel_rfl) rfl rfl rfl (⟨⟨_, rfl, rfl, rfl⟩, trivial⟩) (⟨⟨_, _, rfl, rfl, rfl, rfl, id, rfl⟩, trivial⟩) (trivial) (⟨(fun h => by cases h), trivial⟩) rfl) trivial ?_
 refine .q rfl (op_call (U := []) [] [] (kneut_ev) Tryz.func77 (by kernel_rfl) rfl rfl rfl (trivial) (trivial) (trivial) (trivial) rfl) trivial ?_
 refine .as (.agg64 (fl (cbQ S K x y 0).1 ++ fl (cbQ S K x y 0).2.1 ++ fl (cbQ S K x y 0).2.2.1 ++ fl (cbQ S K x y 0).2.2.2)) rfl ?_
 refine .a rfl (op_allocRow zero102 rel_zero102 rfl) trivial rfl rfl ?_
 refine .a rfl (op_allocRow zero102 rel_zero102 rfl) trivial rfl rfl ?_
 refine .a rfl (op_allocRow zero65 rel_zero65 rfl) trivial rfl rfl ?_
 refine .w rfl (op_storeRow sz102 rfl rfl rfl rfl rfl (rfl) (rfl)) trivial rfl rfl ?_
 refine .w rfl (op_storeRow sz102 rfl rfl rfl rfl rfl (rfl) (rfl)) trivial rfl rfl ?_
 refine .w rfl (op_storeRow sz65 rfl rfl rfl rfl rfl (rfl) (rfl)) trivial rfl rfl ?_
 refine .nil ?_
 show Ev _ _ _ _ _
 refine .seq ?_
 refine .drawn [[], [0], [], [0, 1, 2], [0, 1, 2, 3], [0, 1, 2, 3, 4]] [0, 1, 2, 3] [] (by kernel_rfl) (by kernel_rfl) rfl ?_
 show DK _ [0, 1, 2, 3, 4, 5] _ _ _
 refine .q rfl (op_loadRow Tryz.underlying22 rfl sz22 rfl rfl rfl (hS)) trivial ?_
 refine .a rfl (op_call (U := [(1128, some ⟨.aggT (btN S 256), 4, true⟩)]) [] [(1128, 1008)] (sbits_ev S hS) Tryz.func78 (by kernel_rfl) rfl rfl rfl (⟨⟨_, rfl, rfl, rfl⟩, trivial⟩) (trivial) (⟨⟨1008, _, rfl, rfl, rfl, rfl, .inl rfl⟩, trivial⟩) (trivial) rfl) trivial rfl rfl ?_
 refine .q rfl (op_loadRow Tryz.underlying22 rfl sz22 rfl rfl rfl (hK)) trivial ?_
 refine .a rfl (op_call (U := [(1144, some ⟨.aggT (btN K 256), 4, true⟩)]) [] [(1144, 1008)] (sbits_ev K hK) Tryz.func78 (by kernel_rfl) rfl rfl rfl (⟨⟨_, rfl, rfl, rfl⟩, trivial⟩) (trivial) (⟨⟨1008, _, rfl, rfl, rfl, rfl, .inl rfl⟩, trivial⟩) (trivial) rfl) trivial rfl rfl ?_
 refine .q rfl (op_assign rfl) trivial ?_
 refine .q rfl (op_assign rfl) trivial ?_
 refine .nil ?_
 show Ev _ _ _ _ _
 refine .seq ?_
 refine .seq ?_
 refine .region ?_
 refine .q (op_move rfl) trivial rfl ?_
 refine .q (op_len_sl Tryz.underlying105 rfl) trivial rfl ?_
 refine .q (op_move rfl) trivial rfl ?_
 refine .nil ?_
 show Ev _ _ _ _ _
 refine .block ?_
 refine Ev.loop (ι := { j : Nat // j ≤ 256 }) (fun j => ⟨[(3, .ptr 1000 0), (4, .ptr 1008 0), (5, .ptr 1016 0), (6, .ptr 1024 0), (7, .ptr 1072 0), (8, .ptr 1080 0), (9, .ptr 1088 0), (10, .sl 1128 0 256 1), (11, .sl 1144 0 256 1), (24, .i64 256), (25, .i64 ((j.1 : Nat) : Int))], [(1000, some ⟨.aggB S, 22, true⟩), (1008, some ⟨.aggB K, 22, true⟩), (1016, some ⟨.agg64 (fl (x) ++ fl (y)), 57, true⟩), (1024, some ⟨.agg64 (List.replicate 16 0), 65, true⟩), (1072, some ⟨.agg64 (fl (adA bX bY) ++ fl (adB bX bY) ++ fl (adC bX bY)), 102, true⟩), (1080, some ⟨.agg64 (fl (adA x y) ++ fl (adB x y) ++ fl (adC x y)), 102, true⟩), (1088, some ⟨.agg64 (fl (cbQ S K x y j.1).1 ++ fl (cbQ S K x y j.1).2.1 ++ fl (cbQ S K x y j.1).2.2.1 ++ fl (cbQ S K x y j.1).2.2.2), 65, true⟩), (1128, some ⟨.aggT (btN S 256), 4, true⟩), (1144, some ⟨.aggT (btN K 256), 4, true⟩), (0, some ⟨.agg64 primeL, e, false⟩)], 1168⟩) (fun j => 256 - j.1) ⟨0, Nat.zero_le _⟩ (StLe.mk [(1000, 1000), (1008, 1008), (1016, 1016), (1024, 1024), (1072, 1072), (1080, 1080), (1088, 1088), (1128, 1128), (1144, 1144)] rfl rfl ⟨⟨_, rfl, by first | rfl | (simp only [AV.ren]; congr 1; omega), rfl⟩, ⟨_, rfl, by first | rfl | (simp only [AV.ren]; congr 1; omega), rfl⟩, ⟨_, rfl, by first | rfl | (simp only [AV.ren]; congr 1; omega), rfl⟩, ⟨_, rfl, by first | rfl | (simp only [AV.ren]; congr 1; omega), rfl⟩, ⟨_, rfl, by first | rfl | (simp only [AV.ren]; congr 1; omega), rfl⟩, ⟨_, rfl, by first | rfl | (simp only [AV.ren]; congr 1; omega), rfl⟩, ⟨_, rfl, by first | rfl | (simp only [AV.ren]; congr 1; omega), rfl⟩, ⟨_, rfl, by first | rfl | (simp only [AV.ren]; congr 1; omega), rfl⟩, ⟨_, rfl, by first | rfl | (simp only [AV.ren]; congr 1; omega), rfl⟩, ⟨_, rfl, by first | rfl | (simp only [AV.ren]; congr 1; omega), rfl⟩, ⟨_, rfl, by first | rfl | (simp only [AV.ren]; congr 1; omega), rfl⟩, trivial⟩ ⟨⟨_, _, rfl, rfl, by first | rfl | (simp only [AV.ren]; congr 1; omega), rfl, id, rfl⟩, ⟨_, _, rfl, rfl, by first | rfl | (simp only [AV.ren]; congr 1; omega), rfl, id, rfl⟩, ⟨_, _, rfl, rfl, by first | rfl | (simp only [AV.ren]; congr 1; omega), rfl, id, rfl⟩, ⟨_, _, rfl, rfl, by first | rfl | (simp only [AV.ren]; congr 1; omega), rfl, id, rfl⟩, ⟨_, _, rfl, rfl, by first | rfl | (simp only [AV.ren]; congr 1; omega), rfl, id, rfl⟩, ⟨_, _, rfl, rfl, by first | rfl | (simp only [AV.ren]; congr 1; omega), rfl, id, rfl⟩, ⟨_, _, rfl, rfl, by first | rfl | (simp only [AV.ren]; congr 1; omega), rfl, id, rfl⟩, ⟨_, _, rfl, rfl, by first | rfl | (simp only [AV.ren]; congr 1; omega), rfl, id, rfl⟩, ⟨_, _, rfl, rfl, by first | rfl | (simp only [AV.ren]; congr 1; omega), rfl, id, rfl⟩, ⟨_, _, rfl, rfl, by first | rfl | (simp only [AV.ren]; congr 1; omega), rfl, id, rfl⟩, trivial⟩) ?_
 rintro ⟨j, hj⟩
 dsimp only
 have hbl := length_btN K 256
 have hbs := length_btN S 256
 refine .seq ?_
 refine .region ?_
 refine .q (op_cmpI rfl rfl rfl) trivial rfl ?_
 refine .nil ?_
 show Ev _ _ _ _ _
 refine .seq ?_
 refine .cond rfl (fun hc26 => ?_) (fun hc26 => ?_)
 ·simp only [decide_eq_true_eq] at hc26
  refine .skip ?_
  show Ev _ _ _ _ _
  refine .seq ?_
  refine .block ?_
  refine .seq ?_
  refine .region ?_
  refine .q (op_move rfl) trivial rfl ?_
  refine .q (op_assign rfl) trivial rfl ?_
  refine .nil ?_
  show Ev _ _ _ _ _
  refine .seq ?_
  refine .region ?_
  refine .q (op_move rfl) trivial rfl ?_
  refine .q (op_len_sl Tryz.underlying105 rfl) trivial rfl ?_
  refine .q (op_subI rfl rfl ⟨by omega, by omega⟩) trivial rfl ?_
  refine .q (op_move rfl) trivial rfl ?_
  refine .q (op_subI rfl rfl ⟨by omega, by omega⟩) trivial rfl ?_
  refine .as (.i64 ((255 - j : Nat) : Int)) (congrArg AV.i64 (by omega)) ?_
  refine .q (op_assign rfl) trivial rfl ?_
  refine .nil ?_
  show Ev _ _ _ _ _
  refine .seq ?_
  refine .region ?_
  refine .q (op_loadRow Tryz.underlying65 rfl sz65 rfl rfl rfl (rfl)) trivial rfl ?_
  refine .q (op_call (U := []) [] [] (ktwice_ev e (cbQ S K x y j) (cbQ_lt S K x y j)) Tryz.func79 (by kernel_rfl) rfl rfl rfl (⟨⟨_, rfl, rfl, rfl⟩, trivial⟩) (⟨⟨_, _, rfl, rfl, rfl, rfl, id, rfl⟩, trivial⟩) (trivial) (⟨(fun h => by cases h), trivial⟩) rfl) trivial rfl ?_
  refine .w (op_storeRow sz65 rfl rfl rfl rfl rfl (rfl) (rfl)) trivial rfl ?_
  refine .nil ?_
  show Ev _ _ _ _ _
  refine .seq ?_
  refine .seq ?_
  refine Ev.weak (st2 := ⟨[(3, .ptr 1000 0), (4, .ptr 1008 0), (5, .ptr 1016 0), (6, .ptr 1024 0), (7, .ptr 1072 0), (8, .ptr 1080 0), (9, .ptr 1088 0), (10, .sl 1128 0 256 1), (11, .sl 1144 0 256 1), (24, .i64 256), (25, .i64 ((j : Nat) : Int)), (13, .i64 ((255 - j : Nat) : Int))], [(1000, some ⟨.aggB S, 22, true⟩), (1008, some ⟨.aggB K, 22, true⟩), (1016, some ⟨.agg64 (fl (x) ++ fl (y)), 57, true⟩), (1024, some ⟨.agg64 (List.replicate 16 0), 65, true⟩), (1072, some ⟨.agg64 (fl (adA bX bY) ++ fl (adB bX bY) ++ fl (adC bX bY)), 102, true⟩), (1080, some ⟨.agg64 (fl (adA x y) ++ fl (adB x y) ++ fl (adC x y)), 102, true⟩), (1088, some ⟨.agg64 (fl (twiceQ (cbQ S K x y j)).1 ++ fl (twiceQ (cbQ S K x y j)).2.1 ++ fl (twiceQ (cbQ S K x y j)).2.2.1 ++ fl (twiceQ (cbQ S K x y j)).2.2.2), 65, true⟩), (1128, some ⟨.aggT (btN S 256), 4, true⟩), (1144, some ⟨.aggT (btN K 256), 4, true⟩), (0, some ⟨.agg64 primeL, e, false⟩)], 1168⟩) ?_ ?_
  ·exact StLe.mk [(1000, 1000), (1008, 1008), (1016, 1016), (1024, 1024), (1072, 1072), (1080, 1080), (1088, 1088), (1128, 1128), (1144, 1144)] rfl rfl ⟨⟨_, rfl, by rfl, rfl⟩, ⟨_, rfl, by rfl, rfl⟩, ⟨_, rfl, by rfl, rfl⟩, ⟨_, rfl, by rfl, rfl⟩, ⟨_, rfl, by rfl, rfl⟩, ⟨_, rfl, by rfl, rfl⟩, ⟨_, rfl, by rfl, rfl⟩, ⟨_, rfl, by rfl, rfl⟩, ⟨_, rfl, by rfl, rfl⟩, ⟨_, rfl, by rfl, rfl⟩, ⟨_, rfl, by rfl, rfl⟩, ⟨_, rfl, by rfl, rfl⟩, trivial⟩ ⟨⟨_, _, rfl, rfl, rfl, rfl, id, rfl⟩, ⟨_, _, rfl, rfl, rfl, rfl, id, rfl⟩, ⟨_, _, rfl, rfl, rfl, rfl, id, rfl⟩, ⟨_, _, rfl, rfl, rfl, rfl, id, rfl⟩, ⟨_, _, rfl, rfl, rfl, rfl, id, rfl⟩, ⟨_, _, rfl, rfl, rfl, rfl, id, rfl⟩, ⟨_, _, rfl, rfl, rfl, rfl, id, rfl⟩, ⟨_, _, rfl, rfl, rfl, rfl, id, rfl⟩, ⟨_, _, rfl, rfl, rfl, rfl, id, rfl⟩, ⟨_, _, rfl, rfl, rfl, rfl, id, rfl⟩, trivial⟩
  show Ev _ _ _ _ _
  refine .region ?_
  refine .q (op_move rfl) trivial rfl ?_
  refine .q (op_move rfl) trivial rfl ?_
  refine .q (ap_idx0 Tryz.underlying105 inf4.sz rfl rfl rfl (by omega)) trivial rfl ?_
  refine .q (op_load Tryz.underlying4 rfl rfl rfl rfl (by show 255 - j < (btN S 256).length; omega)) trivial rfl ?_
  refine .as (.bool (kb S (255 - j))) (congrArg AV.bool (btN_get S 256 _ (by omega))) ?_
  refine .nil ?_
  show Ev _ _ _ _ _
  refine .cond rfl (fun hc38 => ?_) (fun hc38 => ?_)
  ·skip
   refine .region ?_
   refine .q (op_loadRow Tryz.underlying65 rfl sz65 rfl rfl rfl (rfl)) trivial rfl ?_
   refine .q (op_loadRow Tryz.underlying102 rfl sz102 rfl rfl rfl (rfl)) trivial rfl ?_
   refine .q (op_call (U := []) [] [] (kplus_ev e (twiceQ (cbQ S K x y j)) _ _ _ (twiceQ_lt _) (aF_lt _ _) (sF_lt _ _) (aF_lt _ _)) Tryz.func80 (by kernel_rfl) rfl rfl rfl (⟨⟨_, rfl, rfl, rfl⟩, ⟨_, rfl, rfl, rfl⟩, trivial⟩) (⟨⟨_, _, rfl, rfl, rfl, rfl, id, rfl⟩, trivial⟩) (trivial) (⟨(fun h => by cases h), trivial⟩) rfl) trivial rfl ?_
   refine .w (op_storeRow sz65 rfl rfl rfl rfl rfl (rfl) (rfl)) trivial rfl ?_
   refine .nil ?_
   show Ev _ _ _ _ _
   refine .seq ?_
   try rw [Bool.eq_false_iff] at hc38
   try rw [Bool.eq_false_iff] at hc45
   refine Ev.weak (st2 := ⟨[(3, .ptr 1000 0), (4, .ptr 1008 0), (5, .ptr 1016 0), (6, .ptr 1024 0), (7, .ptr 1072 0), (8, .ptr 1080 0), (9, .ptr 1088 0), (10, .sl 1128 0 256 1), (11, .sl 1144 0 256 1), (24, .i64 256), (25, .i64 ((j : Nat) : Int)), (13, .i64 ((255 - j : Nat) : Int))], [(1000, some ⟨.aggB S, 22, true⟩), (1008, some ⟨.aggB K, 22, true⟩), (1016, some ⟨.agg64 (fl (x) ++ fl (y)), 57, true⟩), (1024, some ⟨.agg64 (List.replicate 16 0), 65, true⟩), (1072, some ⟨.agg64 (fl (adA bX bY) ++ fl (adB bX bY) ++ fl (adC bX bY)), 102, true⟩), (1080, some ⟨.agg64 (fl (adA x y) ++ fl (adB x y) ++ fl (adC x y)), 102, true⟩), (1088, some ⟨.agg64 (fl (cbM S K x y j).1 ++ fl (cbM S K x y j).2.1 ++ fl (cbM S K x y j).2.2.1 ++ fl (cbM S K x y j).2.2.2), 65, true⟩), (1128, some ⟨.aggT (btN S 256), 4, true⟩), (1144, some ⟨.aggT (btN K 256), 4, true⟩), (0, some ⟨.agg64 primeL, e, false⟩)], 1168⟩) ?_ ?_
   ·exact StLe.mk [(1000, 1000), (1008, 1008), (1016, 1016), (1024, 1024), (1072, 1072), (1080, 1080), (1088, 1088), (1128, 1128), (1144, 1144)] rfl rfl ⟨⟨_, rfl, by rfl, rfl⟩, ⟨_, rfl, by rfl, rfl⟩, ⟨_, rfl, by rfl, rfl⟩, ⟨_, rfl, by rfl, rfl⟩, ⟨_, rfl, by rfl, rfl⟩, ⟨_, rfl, by rfl, rfl⟩, ⟨_, rfl, by rfl, rfl⟩, ⟨_, rfl, by rfl, rfl⟩, ⟨_, rfl, by rfl, rfl⟩, ⟨_, rfl, by rfl, rfl⟩, ⟨_, rfl, by rfl, rfl⟩, ⟨_, rfl, by rfl, rfl⟩, trivial⟩ ⟨⟨_, _, rfl, rfl, rfl, rfl, id, rfl⟩, ⟨_, _, rfl, rfl, rfl, rfl, id, rfl⟩, ⟨_, _, rfl, rfl, rfl, rfl, id, rfl⟩, ⟨_, _, rfl, rfl, rfl, rfl, id, rfl⟩, ⟨_, _, rfl, rfl, rfl, rfl, id, rfl⟩, ⟨_, _, rfl, rfl, rfl, rfl, id, rfl⟩, ⟨_, _, rfl, rfl, by (first | (rw [← cbM_t hc38]; rfl) | (rw [← cbM_f hc38]; rfl)), rfl, id, rfl⟩, ⟨_, _, rfl, rfl, rfl, rfl, id, rfl⟩, ⟨_, _, rfl, rfl, rfl, rfl, id, rfl⟩, ⟨_, _, rfl, rfl, rfl, rfl, id, rfl⟩, trivial⟩
   show Ev _ _ _ _ _
   refine .region ?_
   refine .q (op_move rfl) trivial rfl ?_
   refine .q (op_move rfl) trivial rfl ?_
   refine .q (ap_idx0 Tryz.underlying105 inf4.sz rfl rfl rfl (by omega)) trivial rfl ?_
   refine .q (op_load Tryz.underlying4 rfl rfl rfl rfl (by show 255 - j < (btN K 256).length; omega)) trivial rfl ?_
   refine .as (.bool (kb K (255 - j))) (congrArg AV.bool (btN_get K 256 _ (by omega))) ?_
   refine .nil ?_
   show Ev _ _ _ _ _
   refine .cond rfl (fun hc45 => ?_) (fun hc45 => ?_)
   ·skip
    refine .region ?_
    refine .q (op_loadRow Tryz.underlying65 rfl sz65 rfl rfl rfl (rfl)) trivial rfl ?_
    refine .q (op_loadRow Tryz.underlying102 rfl sz102 rfl rfl rfl (rfl)) trivial rfl ?_
    refine .q (op_call (U := []) [] [] (kplus_ev e (cbM S K x y j) _ _ _ (cbM_lt _ _ _ _ _) (aF_lt _ _) (sF_lt _ _) (aF_lt _ _)) Tryz.func80 (by kernel_rfl) rfl rfl rfl (⟨⟨_, rfl, rfl, rfl⟩, ⟨_, rfl, rfl, rfl⟩, trivial⟩) (⟨⟨_, _, rfl, rfl, rfl, rfl, id, rfl⟩, trivial⟩) (trivial) (⟨(fun h => by cases h), trivial⟩) rfl) trivial rfl ?_
    refine .w (op_storeRow sz65 rfl rfl rfl rfl rfl (rfl) (rfl)) trivial rfl ?_
    refine .nil ?_
    show Ev _ _ _ _ _
    try rw [Bool.eq_false_iff] at hc38
    try rw [Bool.eq_false_iff] at hc45
    refine Ev.weak (st2 := ⟨[(3, .ptr 1000 0), (4, .ptr 1008 0), (5, .ptr 1016 0), (6, .ptr 1024 0), (7, .ptr 1072 0), (8, .ptr 1080 0), (9, .ptr 1088 0), (10, .sl 1128 0 256 1), (11, .sl 1144 0 256 1), (24, .i64 256), (25, .i64 ((j : Nat) : Int))], [(1000, some ⟨.aggB S, 22, true⟩), (1008, some ⟨.aggB K, 22, true⟩), (1016, some ⟨.agg64 (fl (x) ++ fl (y)), 57, true⟩), (1024, some ⟨.agg64 (List.replicate 16 0), 65, true⟩), (1072, some ⟨.agg64 (fl (adA bX bY) ++ fl (adB bX bY) ++ fl (adC bX bY)), 102, true⟩), (1080, some ⟨.agg64 (fl (adA x y) ++ fl (adB x y) ++ fl (adC x y)), 102, true⟩), (1088, some ⟨.agg64 (fl (cbQ S K x y (j + 1)).1 ++ fl (cbQ S K x y (j + 1)).2.1 ++ fl (cbQ S K x y (j + 1)).2.2.1 ++ fl (cbQ S K x y (j + 1)).2.2.2), 65, true⟩), (1128, some ⟨.aggT (btN S 256), 4, true⟩), (1144, some ⟨.aggT (btN K 256), 4, true⟩), (0, some ⟨.agg64 primeL, e, false⟩)], 1168⟩) ?_ ?_
    ·exact StLe.mk [(1000, 1000), (1008, 1008), (1016, 1016), (1024, 1024), (1072, 1072), (1080, 1080), (1088, 1088), (1128, 1128), (1144, 1144)] rfl rfl ⟨⟨_, rfl, by rfl, rfl⟩, ⟨_, rfl, by rfl, rfl⟩, ⟨_, rfl, by rfl, rfl⟩, ⟨_, rfl, by rfl, rfl⟩, ⟨_, rfl, by rfl, rfl⟩, ⟨_, rfl, by rfl, rfl⟩, ⟨_, rfl, by rfl, rfl⟩, ⟨_, rfl, by rfl, rfl⟩, ⟨_, rfl, by rfl, rfl⟩, ⟨_, rfl, by rfl, rfl⟩, ⟨_, rfl, by rfl, rfl⟩, trivial⟩ ⟨⟨_, _, rfl, rfl, rfl, rfl, id, rfl⟩, ⟨_, _, rfl, rfl, rfl, rfl, id, rfl⟩, ⟨_, _, rfl, rfl, rfl, rfl, id, rfl⟩, ⟨_, _, rfl, rfl, rfl, rfl, id, rfl⟩, ⟨_, _, rfl, rfl, rfl, rfl, id, rfl⟩, ⟨_, _, rfl, rfl, rfl, rfl, id, rfl⟩, ⟨_, _, rfl, rfl, by (first | (rw [← cbE_t hc45]; rfl) | (rw [← cbE_f hc45]; rfl)), rfl, id, rfl⟩, ⟨_, _, rfl, rfl, rfl, rfl, id, rfl⟩, ⟨_, _, rfl, rfl, rfl, rfl, id, rfl⟩, ⟨_, _, rfl, rfl, rfl, rfl, id, rfl⟩, trivial⟩
    show Ev _ _ _ _ _
    refine .region ?_
    refine .q (op_addI rfl rfl ⟨by omega, by omega⟩) trivial rfl ?_
    refine .q (op_move rfl) trivial rfl ?_
    refine .nil ?_
    exact ⟨⟨j + 1, by omega⟩, by show 256 - (j + 1) < 256 - j; omega, StLe.mk [(1000, 1000), (1008, 1008), (1016, 1016), (1024, 1024), (1072, 1072), (1080, 1080), (1088, 1088), (1128, 1128), (1144, 1144)] rfl rfl ⟨⟨_, rfl, by first | rfl | (simp only [AV.ren]; congr 1; omega), rfl⟩, ⟨_, rfl, by first | rfl | (simp only [AV.ren]; congr 1; omega), rfl⟩, ⟨_, rfl, by first | rfl | (simp only [AV.ren]; congr 1; omega), rfl⟩, ⟨_, rfl, by first | rfl | (simp only [AV.ren]; congr 1; omega), rfl⟩, ⟨_, rfl, by first | rfl | (simp only [AV.ren]; congr 1; omega), rfl⟩, ⟨_, rfl, by first | rfl | (simp only [AV.ren]; congr 1; omega), rfl⟩, ⟨_, rfl, by first | rfl | (simp only [AV.ren]; congr 1; omega), rfl⟩, ⟨_, rfl, by first | rfl | (simp only [AV.ren]; congr 1; omega), rfl⟩, ⟨_, rfl, by first | rfl | (simp only [AV.ren]; congr 1; omega), rfl⟩, ⟨_, rfl, by first | rfl | (simp only [AV.ren]; congr 1; omega), rfl⟩, ⟨_, rfl, by first | rfl | (simp only [AV.ren]; congr 1; omega), rfl⟩, trivial⟩ ⟨⟨_, _, rfl, rfl, by first | rfl | (simp only [AV.ren]; congr 1; omega), rfl, id, rfl⟩, ⟨_, _, rfl, rfl, by first | rfl | (simp only [AV.ren]; congr 1; omega), rfl, id, rfl⟩, ⟨_, _, rfl, rfl, by first | rfl | (simp only [AV.ren]; congr 1; omega), rfl, id, rfl⟩, ⟨_, _, rfl, rfl, by first | rfl | (simp only [AV.ren]; congr 1; omega), rfl, id, rfl⟩, ⟨_, _, rfl, rfl, by first | rfl | (simp only [AV.ren]; congr 1; omega), rfl, id, rfl⟩, ⟨_, _, rfl, rfl, by first | rfl | (simp only [AV.ren]; congr 1; omega), rfl, id, rfl⟩, ⟨_, _, rfl, rfl, by first | rfl | (simp only [AV.ren]; congr 1; omega), rfl, id, rfl⟩, ⟨_, _, rfl, rfl, by first | rfl | (simp only [AV.ren]; congr 1; omega), rfl, id, rfl⟩, ⟨_, _, rfl, rfl, by first | rfl | (simp only [AV.ren]; congr 1; omega), rfl, id, rfl⟩, ⟨_, _, rfl, rfl, by first | rfl | (simp only [AV.ren]; congr 1; omega), rfl, id, rfl⟩, trivial⟩⟩
   ·skip
    refine .skip ?_
    show Ev _ _ _ _ _
    try rw [Bool.eq_false_iff] at hc38
    try rw [Bool.eq_false_iff] at hc45
    refine Ev.weak (st2 := ⟨[(3, .ptr 1000 0), (4, .ptr 1008 0), (5, .ptr 1016 0), (6, .ptr 1024 0), (7, .ptr 1072 0), (8, .ptr 1080 0), (9, .ptr 1088 0), (10, .sl 1128 0 256 1), (11, .sl 1144 0 256 1), (24, .i64 256), (25, .i64 ((j : Nat) : Int))], [(1000, some ⟨.aggB S, 22, true⟩), (1008, some ⟨.aggB K, 22, true⟩), (1016, some ⟨.agg64 (fl (x) ++ fl (y)), 57, true⟩), (1024, some ⟨.agg64 (List.replicate 16 0), 65, true⟩), (1072, some ⟨.agg64 (fl (adA bX bY) ++ fl (adB bX bY) ++ fl (adC bX bY)), 102, true⟩), (1080, some ⟨.agg64 (fl (adA x y) ++ fl (adB x y) ++ fl (adC x y)), 102, true⟩), (1088, some ⟨.agg64 (fl (cbQ S K x y (j + 1)).1 ++ fl (cbQ S K x y (j + 1)).2.1 ++ fl (cbQ S K x y (j + 1)).2.2.1 ++ fl (cbQ S K x y (j + 1)).2.2.2), 65, true⟩), (1128, some ⟨.aggT (btN S 256), 4, true⟩), (1144, some ⟨.aggT (btN K 256), 4, true⟩), (0, some ⟨.agg64 primeL, e, false⟩)], 1168⟩) ?_ ?_
    ·exact StLe.mk [(1000, 1000), (1008, 1008), (1016, 1016), (1024, 1024), (1072, 1072), (1080, 1080), (1088, 1088), (1128, 1128), (1144, 1144)] rfl rfl ⟨⟨_, rfl, by rfl, rfl⟩, ⟨_, rfl, by rfl, rfl⟩, ⟨_, rfl, by rfl, rfl⟩, ⟨_, rfl, by rfl, rfl⟩, ⟨_, rfl, by rfl, rfl⟩, ⟨_, rfl, by rfl, rfl⟩, ⟨_, rfl, by rfl, rfl⟩, ⟨_, rfl, by rfl, rfl⟩, ⟨_, rfl, by rfl, rfl⟩, ⟨_, rfl, by rfl, rfl⟩, ⟨_, rfl, by rfl, rfl⟩, trivial⟩ ⟨⟨_, _, rfl, rfl, rfl, rfl, id, rfl⟩, ⟨_, _, rfl, rfl, rfl, rfl, id, rfl⟩, ⟨_, _, rfl, rfl, rfl, rfl, id, rfl⟩, ⟨_, _, rfl, rfl, rfl, rfl, id, rfl⟩, ⟨_, _, rfl, rfl, rfl, rfl, id, rfl⟩, ⟨_, _, rfl, rfl, rfl, rfl, id, rfl⟩, ⟨_, _, rfl, rfl, by (first | (rw [← cbE_t hc45]; rfl) | (rw [← cbE_f hc45]; rfl)), rfl, id, rfl⟩, ⟨_, _, rfl, rfl, rfl, rfl, id, rfl⟩, ⟨_, _, rfl, rfl, rfl, rfl, id, rfl⟩, ⟨_, _, rfl, rfl, rfl, rfl, id, rfl⟩, trivial⟩
    show Ev _ _ _ _ _
    refine .region ?_
    refine .q (op_addI rfl rfl ⟨by omega, by omega⟩) trivial rfl ?_
    refine .q (op_move rfl) trivial rfl ?_
    refine .nil ?_
    exact ⟨⟨j + 1, by omega⟩, by show 256 - (j + 1) < 256 - j; omega, StLe.mk [(1000, 1000), (1008, 1008), (1016, 1016), (1024, 1024), (1072, 1072), (1080, 1080), (1088, 1088), (1128, 1128), (1144, 1144)] rfl rfl ⟨⟨_, rfl, by first | rfl | (simp only [AV.ren]; congr 1; omega), rfl⟩, ⟨_, rfl, by first | rfl | (simp only [AV.ren]; congr 1; omega), rfl⟩, ⟨_, rfl, by first | rfl | (simp only [AV.ren]; congr 1; omega), rfl⟩, ⟨_, rfl, by first | rfl | (simp only [AV.ren]; congr 1; omega), rfl⟩, ⟨_, rfl, by first | rfl | (simp only [AV.ren]; congr 1; omega), rfl⟩, ⟨_, rfl, by first | rfl | (simp only [AV.ren]; congr 1; omega), rfl⟩, ⟨_, rfl, by first | rfl | (simp only [AV.ren]; congr 1; omega), rfl⟩, ⟨_, rfl, by first | rfl | (simp only [AV.ren]; congr 1; omega), rfl⟩, ⟨_, rfl, by first | rfl | (simp only [AV.ren]; congr 1; omega), rfl⟩, ⟨_, rfl, by first | rfl | (simp only [AV.ren]; congr 1; omega), rfl⟩, ⟨_, rfl, by first | rfl | (simp only [AV.ren]; congr 1; omega), rfl⟩, trivial⟩ ⟨⟨_, _, rfl, rfl, by first | rfl | (simp only [AV.ren]; congr 1; omega), rfl, id, rfl⟩, ⟨_, _, rfl, rfl, by first | rfl | (simp only [AV.ren]; congr 1; omega), rfl, id, rfl⟩, ⟨_, _, rfl, rfl, by first | rfl | (simp only [AV.ren]; congr 1; omega), rfl, id, rfl⟩, ⟨_, _, rfl, rfl, by first | rfl | (simp only [AV.ren]; congr 1; omega), rfl, id, rfl⟩, ⟨_, _, rfl, rfl, by first | rfl | (simp only [AV.ren]; congr 1; omega), rfl, id, rfl⟩, ⟨_, _, rfl, rfl, by first | rfl | (simp only [AV.ren]; congr 1; omega), rfl, id, rfl⟩, ⟨_, _, rfl, rfl, by first | rfl | (simp only [AV.ren]; congr 1; omega), rfl, id, rfl⟩, ⟨_, _, rfl, rfl, by first | rfl | (simp only [AV.ren]; congr 1; omega), rfl, id, rfl⟩, ⟨_, _, rfl, rfl, by first | rfl | (simp only [AV.ren]; congr 1; omega), rfl, id, rfl⟩, ⟨_, _, rfl, rfl, by first | rfl | (simp only [AV.ren]; congr 1; omega), rfl, id, rfl⟩, trivial⟩⟩
  ·skip
   refine .skip ?_
   show Ev _ _ _ _ _
   refine .seq ?_
   try rw [Bool.eq_false_iff] at hc38
   try rw [Bool.eq_false_iff] at hc45
   refine Ev.weak (st2 := ⟨[(3, .ptr 1000 0), (4, .ptr 1008 0), (5, .ptr 1016 0), (6, .ptr 1024 0), (7, .ptr 1072 0), (8, .ptr 1080 0), (9, .ptr 1088 0), (10, .sl 1128 0 256 1), (11, .sl 1144 0 256 1), (24, .i64 256), (25, .i64 ((j : Nat) : Int)), (13, .i64 ((255 - j : Nat) : Int))], [(1000, some ⟨.aggB S, 22, true⟩), (1008, some ⟨.aggB K, 22, true⟩), (1016, some ⟨.agg64 (fl (x) ++ fl (y)), 57, true⟩), (1024, some ⟨.agg64 (List.replicate 16 0), 65, true⟩), (1072, some ⟨.agg64 (fl (adA bX bY) ++ fl (adB bX bY) ++ fl (adC bX bY)), 102, true⟩), (1080, some ⟨.agg64 (fl (adA x y) ++ fl (adB x y) ++ fl (adC x y)), 102, true⟩), (1088, some ⟨.agg64 (fl (cbM S K x y j).1 ++ fl (cbM S K x y j).2.1 ++ fl (cbM S K x y j).2.2.1 ++ fl (cbM S K x y j).2.2.2), 65, true⟩), (1128, some ⟨.aggT (btN S 256), 4, true⟩), (1144, some ⟨.aggT (btN K 256), 4, true⟩), (0, some ⟨.agg64 primeL, e, false⟩)], 1168⟩) ?_ ?_
   ·exact StLe.mk [(1000, 1000), (1008, 1008), (1016, 1016), (1024, 1024), (1072, 1072), (1080, 1080), (1088, 1088), (1128, 1128), (1144, 1144)] rfl rfl ⟨⟨_, rfl, by rfl, rfl⟩, ⟨_, rfl, by rfl, rfl⟩, ⟨_, rfl, by rfl, rfl⟩, ⟨_, rfl, by rfl, rfl⟩, ⟨_, rfl, by rfl, rfl⟩, ⟨_, rfl, by rfl, rfl⟩, ⟨_, rfl, by rfl, rfl⟩, ⟨_, rfl, by rfl, rfl⟩, ⟨_, rfl, by rfl, rfl⟩, ⟨_, rfl, by rfl, rfl⟩, ⟨_, rfl, by rfl, rfl⟩, ⟨_, rfl, by rfl, rfl⟩, trivial⟩ ⟨⟨_, _, rfl, rfl, rfl, rfl, id, rfl⟩, ⟨_, _, rfl, rfl, rfl, rfl, id, rfl⟩, ⟨_, _, rfl, rfl, rfl, rfl, id, rfl⟩, ⟨_, _, rfl, rfl, rfl, rfl, id, rfl⟩, ⟨_, _, rfl, rfl, rfl, rfl, id, rfl⟩, ⟨_, _, rfl, rfl, rfl, rfl, id, rfl⟩, ⟨_, _, rfl, rfl, by (first | (rw [← cbM_t hc38]; rfl) | (rw [← cbM_f hc38]; rfl)), rfl, id, rfl⟩, ⟨_, _, rfl, rfl, rfl, rfl, id, rfl⟩, ⟨_, _, rfl, rfl, rfl, rfl, id, rfl⟩, ⟨_, _, rfl, rfl, rfl, rfl, id, rfl⟩, trivial⟩
   show Ev _ _ _ _ _
   refine .region ?_
   refine .q (op_move rfl) trivial rfl ?_
   refine .q (op_move rfl) trivial rfl ?_
   refine .q (ap_idx0 Tryz.underlying105 inf4.sz rfl rfl rfl (by omega)) trivial rfl ?_
   refine .q (op_load Tryz.underlying4 rfl rfl rfl rfl (by show 255 - j < (btN K 256).length; omega)) trivial rfl ?_
   refine .as (.bool (kb K (255 - j))) (congrArg AV.bool (btN_get K 256 _ (by omega))) ?_
   refine .nil ?_
   show Ev _ _ _ _ _
   refine .cond rfl (fun hc45 => ?_) (fun hc45 => ?_)
   ·skip
    refine .region ?_
    refine .q (op_loadRow Tryz.underlying65 rfl sz65 rfl rfl rfl (rfl)) trivial rfl ?_
    refine .q (op_loadRow Tryz.underlying102 rfl sz102 rfl rfl rfl (rfl)) trivial rfl ?_
    refine .q (op_call (U := []) [] [] (kplus_ev e (cbM S K x y j) _ _ _ (cbM_lt _ _ _ _ _) (aF_lt _ _) (sF_lt _ _) (aF_lt _ _)) Tryz.func80 (by kernel_rfl) rfl rfl rfl (⟨⟨_, rfl, rfl, rfl⟩, ⟨_, rfl, rfl, rfl⟩, trivial⟩) (⟨⟨_, _, rfl, rfl, rfl, rfl, id, rfl⟩, trivial⟩) (trivial) (⟨(fun h => by cases h), trivial⟩) rfl) trivial rfl ?_
    refine .w (op_storeRow sz65 rfl rfl rfl rfl rfl (rfl) (rfl)) trivial rfl ?_
    refine .nil ?_
    show Ev _ _ _ _ _
    try rw [Bool.eq_false_iff] at hc38
    try rw [Bool.eq_false_iff] at hc45
    refine Ev.weak (st2 := ⟨[(3, .ptr 1000 0), (4, .ptr 1008 0), (5, .ptr 1016 0), (6, .ptr 1024 0), (7, .ptr 1072 0), (8, .ptr 1080 0), (9, .ptr 1088 0), (10, .sl 1128 0 256 1), (11, .sl 1144 0 256 1), (24, .i64 256), (25, .i64 ((j : Nat) : Int))], [(1000, some ⟨.aggB S, 22, true⟩), (1008, some ⟨.aggB K, 22, true⟩), (1016, some ⟨.agg64 (fl (x) ++ fl (y)), 57, true⟩), (1024, some ⟨.agg64 (List.replicate 16 0), 65, true⟩), (1072, some ⟨.agg64 (fl (adA bX bY) ++ fl (adB bX bY) ++ fl (adC bX bY)), 102, true⟩), (1080, some ⟨.agg64 (fl (adA x y) ++ fl (adB x y) ++ fl (adC x y)), 102, true⟩), (1088, some ⟨.agg64 (fl (cbQ S K x y (j + 1)).1 ++ fl (cbQ S K x y (j + 1)).2.1 ++ fl (cbQ S K x y (j + 1)).2.2.1 ++ fl (cbQ S K x y (j + 1)).2.2.2), 65, true⟩), (1128, some ⟨.aggT (btN S 256), 4, true⟩), (1144, some ⟨.aggT (btN K 256), 4, true⟩), (0, some ⟨.agg64 primeL, e, false⟩)], 1168⟩) ?_ ?_
    ·exact StLe.mk [(1000, 1000), (1008, 1008), (1016, 1016), (1024, 1024), (1072, 1072), (1080, 1080), (1088, 1088), (1128, 1128), (1144, 1144)] rfl rfl ⟨⟨_, rfl, by rfl, rfl⟩, ⟨_, rfl, by rfl, rfl⟩, ⟨_, rfl, by rfl, rfl⟩, ⟨_, rfl, by rfl, rfl⟩, ⟨_, rfl, by rfl, rfl⟩, ⟨_, rfl, by rfl, rfl⟩, ⟨_, rfl, by rfl, rfl⟩, ⟨_, rfl, by rfl, rfl⟩, ⟨_, rfl, by rfl, rfl⟩, ⟨_, rfl, by rfl, rfl⟩, ⟨_, rfl, by rfl, rfl⟩, trivial⟩ ⟨⟨_, _, rfl, rfl, rfl, rfl, id, rfl⟩, ⟨_, _, rfl, rfl, rfl, rfl, id, rfl⟩, ⟨_, _, rfl, rfl, rfl, rfl, id, rfl⟩, ⟨_, _, rfl, rfl, rfl, rfl, id, rfl⟩, ⟨_, _, rfl, rfl, rfl, rfl, id, rfl⟩, ⟨_, _, rfl, rfl, rfl, rfl, id, rfl⟩, ⟨_, _, rfl, rfl, by (first | (rw [← cbE_t hc45]; rfl) | (rw [← cbE_f hc45]; rfl)), rfl, id, rfl⟩, ⟨_, _, rfl, rfl, rfl, rfl, id, rfl⟩, ⟨_, _, rfl, rfl, rfl, rfl, id, rfl⟩, ⟨_, _, rfl, rfl, rfl, rfl, id, rfl⟩, trivial⟩
    show Ev _ _ _ _ _
    refine .region ?_
    refine .q (op_addI rfl rfl ⟨by omega, by omega⟩) trivial rfl ?_
    refine .q (op_move rfl) trivial rfl ?_
    refine .nil ?_
    exact ⟨⟨j + 1, by omega⟩, by show 256 - (j + 1) < 256 - j; omega, StLe.mk [(1000, 1000), (1008, 1008), (1016, 1016), (1024, 1024), (1072, 1072), (1080, 1080), (1088, 1088), (1128, 1128), (1144, 1144)] rfl rfl ⟨⟨_, rfl, by first | rfl | (simp only [AV.ren]; congr 1; omega), rfl⟩, ⟨_, rfl, by first | rfl | (simp only [AV.ren]; congr 1; omega), rfl⟩, ⟨_, rfl, by first | rfl | (simp only [AV.ren]; congr 1; omega), rfl⟩, ⟨_, rfl, by first | rfl | (simp only [AV.ren]; congr 1; omega), rfl⟩, ⟨_, rfl, by first | rfl | (simp only [AV.ren]; congr 1; omega), rfl⟩, ⟨_, rfl, by first | rfl | (simp only [AV.ren]; congr 1; omega), rfl⟩, ⟨_, rfl, by first | rfl | (simp only [AV.ren]; congr 1; omega), rfl⟩, ⟨_, rfl, by first | rfl | (simp only [AV.ren]; congr 1; omega), rfl⟩, ⟨_, rfl, by first | rfl | (simp only [AV.ren]; congr 1; omega), rfl⟩, ⟨_, rfl, by first | rfl | (simp only [AV.ren]; congr 1; omega), rfl⟩, ⟨_, rfl, by first | rfl | (simp only [AV.ren]; congr 1; omega), rfl⟩, trivial⟩ ⟨⟨_, _, rfl, rfl, by first | rfl | (simp only [AV.ren]; congr 1; omega), rfl, id, rfl⟩, ⟨_, _, rfl, rfl, by first | rfl | (simp only [AV.ren]; congr 1; omega), rfl, id, rfl⟩, ⟨_, _, rfl, rfl, by first | rfl | (simp only [AV.ren]; congr 1; omega), rfl, id, rfl⟩, ⟨_, _, rfl, rfl, by first | rfl | (simp only [AV.ren]; congr 1; omega), rfl, id, rfl⟩, ⟨_, _, rfl, rfl, by first | rfl | (simp only [AV.ren]; congr 1; omega), rfl, id, rfl⟩, ⟨_, _, rfl, rfl, by first | rfl | (simp only [AV.ren]; congr 1; omega), rfl, id, rfl⟩, ⟨_, _, rfl, rfl, by first | rfl | (simp only [AV.ren]; congr 1; omega), rfl, id, rfl⟩, ⟨_, _, rfl, rfl, by first | rfl | (simp only [AV.ren]; congr 1; omega), rfl, id, rfl⟩, ⟨_, _, rfl, rfl, by first | rfl | (simp only [AV.ren]; congr 1; omega), rfl, id, rfl⟩, ⟨_, _, rfl, rfl, by first | rfl | (simp only [AV.ren]; congr 1; omega), rfl, id, rfl⟩, trivial⟩⟩
   ·skip
    refine .skip ?_
    show Ev _ _ _ _ _
    try rw [Bool.eq_false_iff] at hc38
    try rw [Bool.eq_false_iff] at hc45
    refine Ev.weak (st2 := ⟨[(3, .ptr 1000 0), (4, .ptr 1008 0), (5, .ptr 1016 0), (6, .ptr 1024 0), (7, .ptr 1072 0), (8, .ptr 1080 0), (9, .ptr 1088 0), (10, .sl 1128 0 256 1), (11, .sl 1144 0 256 1), (24, .i64 256), (25, .i64 ((j : Nat) : Int))], [(1000, some ⟨.aggB S, 22, true⟩), (1008, some ⟨.aggB K, 22, true⟩), (1016, some ⟨.agg64 (fl (x) ++ fl (y)), 57, true⟩), (1024, some ⟨.agg64 (List.replicate 16 0), 65, true⟩), (1072, some ⟨.agg64 (fl (adA bX bY) ++ fl (adB bX bY) ++ fl (adC bX bY)), 102, true⟩), (1080, some ⟨.agg64 (fl (adA x y) ++ fl (adB x y) ++ fl (adC x y)), 102, true⟩), (1088, some ⟨.agg64 (fl (cbQ S K x y (j + 1)).1 ++ fl (cbQ S K x y (j + 1)).2.1 ++ fl (cbQ S K x y (j + 1)).2.2.1 ++ fl (cbQ S K x y (j + 1)).2.2.2), 65, true⟩), (1128, some ⟨.aggT (btN S 256), 4, true⟩), (1144, some ⟨.aggT (btN K 256), 4, true⟩), (0, some ⟨.agg64 primeL, e, false⟩)], 1168⟩) ?_ ?_
    ·exact StLe.mk [(1000, 1000), (1008, 1008), (1016, 1016), (1024, 1024), (1072, 1072), (1080, 1080), (1088, 1088), (1128, 1128), (1144, 1144)] rfl rfl ⟨⟨_, rfl, by rfl, rfl⟩, ⟨_, rfl, by rfl, rfl⟩, ⟨_, rfl, by rfl, rfl⟩, ⟨_, rfl, by rfl, rfl⟩, ⟨_, rfl, by rfl, rfl⟩, ⟨_, rfl, by rfl, rfl⟩, ⟨_, rfl, by rfl, rfl⟩, ⟨_, rfl, by rfl, rfl⟩, ⟨_, rfl, by rfl, rfl⟩, ⟨_, rfl, by rfl, rfl⟩, ⟨_, rfl, by rfl, rfl⟩, trivial⟩ ⟨⟨_, _, rfl, rfl, rfl, rfl, id, rfl⟩, ⟨_, _, rfl, rfl, rfl, rfl, id, rfl⟩, ⟨_, _, rfl, rfl, rfl, rfl, id, rfl⟩, ⟨_, _, rfl, rfl, rfl, rfl, id, rfl⟩, ⟨_, _, rfl, rfl, rfl, rfl, id, rfl⟩, ⟨_, _, rfl, rfl, rfl, rfl, id, rfl⟩, ⟨_, _, rfl, rfl, by (first | (rw [← cbE_t hc45]; rfl) | (rw [← cbE_f hc45]; rfl)), rfl, id, rfl⟩, ⟨_, _, rfl, rfl, rfl, rfl, id, rfl⟩, ⟨_, _, rfl, rfl, rfl, rfl, id, rfl⟩, ⟨_, _, rfl, rfl, rfl, rfl, id, rfl⟩, trivial⟩
    show Ev _ _ _ _ _
    refine .region ?_
    refine .q (op_addI rfl rfl ⟨by omega, by omega⟩) trivial rfl ?_
    refine .q (op_move rfl) trivial rfl ?_
    refine .nil ?_
    exact ⟨⟨j + 1, by omega⟩, by show 256 - (j + 1) < 256 - j; omega, StLe.mk [(1000, 1000), (1008, 1008), (1016, 1016), (1024, 1024), (1072, 1072), (1080, 1080), (1088, 1088), (1128, 1128), (1144, 1144)] rfl rfl ⟨⟨_, rfl, by first | rfl | (simp only [AV.ren]; congr 1; omega), rfl⟩, ⟨_, rfl, by first | rfl | (simp only [AV.ren]; congr 1; omega), rfl⟩, ⟨_, rfl, by first | rfl | (simp only [AV.ren]; congr 1; omega), rfl⟩, ⟨_, rfl, by first | rfl | (simp only [AV.ren]; congr 1; omega), rfl⟩, ⟨_, rfl, by first | rfl | (simp only [AV.ren]; congr 1; omega), rfl⟩, ⟨_, rfl, by first | rfl | (simp only [AV.ren]; congr 1; omega), rfl⟩, ⟨_, rfl, by first | rfl | (simp only [AV.ren]; congr 1; omega), rfl⟩, ⟨_, rfl, by first | rfl | (simp only [AV.ren]; congr 1; omega), rfl⟩, ⟨_, rfl, by first | rfl | (simp only [AV.ren]; congr 1; omega), rfl⟩, ⟨_, rfl, by first | rfl | (simp only [AV.ren]; congr 1; omega), rfl⟩, ⟨_, rfl, by first | rfl | (simp only [AV.ren]; congr 1; omega), rfl⟩, trivial⟩ ⟨⟨_, _, rfl, rfl, by first | rfl | (simp only [AV.ren]; congr 1; omega), rfl, id, rfl⟩, ⟨_, _, rfl, rfl, by first | rfl | (simp only [AV.ren]; congr 1; omega), rfl, id, rfl⟩, ⟨_, _, rfl, rfl, by first | rfl | (simp only [AV.ren]; congr 1; omega), rfl, id, rfl⟩, ⟨_, _, rfl, rfl, by first | rfl | (simp only [AV.ren]; congr 1; omega), rfl, id, rfl⟩, ⟨_, _, rfl, rfl, by first | rfl | (simp only [AV.ren]; congr 1; omega), rfl, id, rfl⟩, ⟨_, _, rfl, rfl, by first | rfl | (simp only [AV.ren]; congr 1; omega), rfl, id, rfl⟩, ⟨_, _, rfl, rfl, by first | rfl | (simp only [AV.ren]; congr 1; omega), rfl, id, rfl⟩, ⟨_, _, rfl, rfl, by first | rfl | (simp only [AV.ren]; congr 1; omega), rfl, id, rfl⟩, ⟨_, _, rfl, rfl, by first | rfl | (simp only [AV.ren]; congr 1; omega), rfl, id, rfl⟩, ⟨_, _, rfl, rfl, by first | rfl | (simp only [AV.ren]; congr 1; omega), rfl, id, rfl⟩, trivial⟩⟩
 ·simp only [decide_eq_false_iff_not] at hc26
  refine .exit ?_
  show Ev _ _ _ _ _
  have ej : j = 256 := by omega
  refine Ev.weak (st2 := ⟨[(3, .ptr 1000 0), (4, .ptr 1008 0), (5, .ptr 1016 0), (6, .ptr 1024 0), (7, .ptr 1072 0), (8, .ptr 1080 0), (9, .ptr 1088 0), (10, .sl 1128 0 256 1), (11, .sl 1144 0 256 1), (24, .i64 256), (25, .i64 (((256) : Nat) : Int))], [(1000, some ⟨.aggB S, 22, true⟩), (1008, some ⟨.aggB K, 22, true⟩), (1016, some ⟨.agg64 (fl (x) ++ fl (y)), 57, true⟩), (1024, some ⟨.agg64 (List.replicate 16 0), 65, true⟩), (1072, some ⟨.agg64 (fl (adA bX bY) ++ fl (adB bX bY) ++ fl (adC bX bY)), 102, true⟩), (1080, some ⟨.agg64 (fl (adA x y) ++ fl (adB x y) ++ fl (adC x y)), 102, true⟩), (1088, some ⟨.agg64 (fl (cbQ S K x y (256)).1 ++ fl (cbQ S K x y (256)).2.1 ++ fl (cbQ S K x y (256)).2.2.1 ++ fl (cbQ S K x y (256)).2.2.2), 65, true⟩), (1128, some ⟨.aggT (btN S 256), 4, true⟩), (1144, some ⟨.aggT (btN K 256), 4, true⟩), (0, some ⟨.agg64 primeL, e, false⟩)], 1168⟩) (StLe.mk [(1000, 1000), (1008, 1008), (1016, 1016), (1024, 1024), (1072, 1072), (1080, 1080), (1088, 1088), (1128, 1128), (1144, 1144)] rfl rfl ⟨⟨_, rfl, by first | (simp only [AV.ren]; done) | (simp only [AV.ren]; rw [ej]; done) | rfl, rfl⟩, ⟨_, rfl, by first | (simp only [AV.ren]; done) | (simp only [AV.ren]; rw [ej]; done) | rfl, rfl⟩, ⟨_, rfl, by first | (simp only [AV.ren]; done) | (simp only [AV.ren]; rw [ej]; done) | rfl, rfl⟩, ⟨_, rfl, by first | (simp only [AV.ren]; done) | (simp only [AV.ren]; rw [ej]; done) | rfl, rfl⟩, ⟨_, rfl, by first | (simp only [AV.ren]; done) | (simp only [AV.ren]; rw [ej]; done) | rfl, rfl⟩, ⟨_, rfl, by first | (simp only [AV.ren]; done) | (simp only [AV.ren]; rw [ej]; done) | rfl, rfl⟩, ⟨_, rfl, by first | (simp only [AV.ren]; done) | (simp only [AV.ren]; rw [ej]; done) | rfl, rfl⟩, ⟨_, rfl, by first | (simp only [AV.ren]; done) | (simp only [AV.ren]; rw [ej]; done) | rfl, rfl⟩, ⟨_, rfl, by first | (simp only [AV.ren]; done) | (simp only [AV.ren]; rw [ej]; done) | rfl, rfl⟩, ⟨_, rfl, by first | (simp only [AV.ren]; done) | (simp only [AV.ren]; rw [ej]; done) | rfl, rfl⟩, ⟨_, rfl, by first | (simp only [AV.ren]; done) | (simp only [AV.ren]; rw [ej]; done) | rfl, rfl⟩, trivial⟩ ⟨⟨_, _, rfl, rfl, by first | (simp only [AV.ren]; done) | (simp only [AV.ren]; rw [ej]; done) | rfl, rfl, id, rfl⟩, ⟨_, _, rfl, rfl, by first | (simp only [AV.ren]; done) | (simp only [AV.ren]; rw [ej]; done) | rfl, rfl, id, rfl⟩, ⟨_, _, rfl, rfl, by first | (simp only [AV.ren]; done) | (simp only [AV.ren]; rw [ej]; done) | rfl, rfl, id, rfl⟩, ⟨_, _, rfl, rfl, by first | (simp only [AV.ren]; done) | (simp only [AV.ren]; rw [ej]; done) | rfl, rfl, id, rfl⟩, ⟨_, _, rfl, rfl, by first | (simp only [AV.ren]; done) | (simp only [AV.ren]; rw [ej]; done) | rfl, rfl, id, rfl⟩, ⟨_, _, rfl, rfl, by first | (simp only [AV.ren]; done) | (simp only [AV.ren]; rw [ej]; done) | rfl, rfl, id, rfl⟩, ⟨_, _, rfl, rfl, by first | (simp only [AV.ren]; done) | (simp only [AV.ren]; rw [ej]; done) | rfl, rfl, id, rfl⟩, ⟨_, _, rfl, rfl, by first | (simp only [AV.ren]; done) | (simp only [AV.ren]; rw [ej]; done) | rfl, rfl, id, rfl⟩, ⟨_, _, rfl, rfl, by first | (simp only [AV.ren]; done) | (simp only [AV.ren]; rw [ej]; done) | rfl, rfl, id, rfl⟩, ⟨_, _, rfl, rfl, by first | (simp only [AV.ren]; done) | (simp only [AV.ren]; rw [ej]; done) | rfl, rfl, id, rfl⟩, trivial⟩) ?_
  refine .seq ?_
  refine .region ?_
  refine .q (op_loadRow Tryz.underlying65 rfl sz65 rfl rfl rfl (rfl)) trivial rfl ?_
  refine .w (op_storeRow sz65 rfl rfl rfl rfl rfl (rfl) (rfl)) trivial rfl ?_
  refine .nil ?_
  show Ev _ _ _ _ _
  refine .ret ?_
  show RetOk _ _ _ _ _ _ _
  exact retc1 rfl (.inl rfl) ⟨_, _, _, _, rfl, rfl, rfl, rfl, (rfl), Tryz.underlying65, rfl, sz65⟩ trivial
end Go.Proofs.YtcnjekoidgefpaaGreatDoor
