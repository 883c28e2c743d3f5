/-
  Texts of this claim.
-/
import Derived.Test.YtgblhjmnenmlkaaDoorGP
import Derived.Test.YtgblhjmnenmlkaaDoorGE2
namespace Go.Proofs.YtgblhjmnenmlkaaDoor
open Go.RowKit
set_option maxHeartbeats 400000 in
set_option maxRecDepth 100000 in
theorem polyEdges_ev (e : Nat) (key : List UInt8) (hk : key.length = 32) (o : Nat) (l : List UInt8) (hl : l.length ≤ maxLen) : Meets Tryd.prog 3 [.aggB key, .sl 450 o l.length 1] [(21, some ⟨.aggI qsTab, e, false⟩), (450, some ⟨.agg (offC o (rowsC (fun b => [AV.u8 b]) l)), anyT, false⟩)] (.bool true) [] := by
  have hl2 : l.length ≤ 9223372036854775807 := by unfold maxLen at hl; omega
  refine meets_of_ev (nt := 53) Tryd.func3 rfl rfl (Nat.le_of_ble_eq_true rfl) ?_
  refine .seq ?_
  refine .region ?_
  refine .a (op_boxRow rfl rfl) trivial rfl ?_
  refine .q (op_assign rfl) trivial rfl ?_
  refine .nil ?_
  show Ev _ _ _ _ _
  refine .seq ?_
  refine .seq ?_
  refine .region ?_
  refine .q (op_call (U := []) [] [] (awake4_ev e) Tryd.func9 (by kernel_rfl) rfl rfl rfl (trivial) (⟨⟨_, _, rfl, rfl, rfl, rfl, (fun h => by cases h), rfl⟩, trivial⟩) (trivial) (⟨(fun h => by cases h), trivial⟩) rfl) trivial rfl ?_
  refine .q (op_notB rfl) trivial rfl ?_
  refine .nil ?_
  show Ev _ _ _ _ _
  refine .cond_false rfl (rfl) ?_
  refine .skip ?_
  show Ev _ _ _ _ _
  refine .seq ?_
  refine .region ?_
  refine .q (op_assign rfl) trivial rfl ?_
  refine .nil ?_
  show Ev _ _ _ _ _
  refine .seq ?_
  refine .seq ?_
  refine .region ?_
  refine .q (op_assign rfl) trivial rfl ?_
  refine .nil ?_
  show Ev _ _ _ _ _
  refine .block ?_
  refine Ev.loop (ι := { p : Nat × List UInt8 // p.1 ≤ l.length ∧ p.1 ≤ 8 ∧ p.2.length = 16 * p.1 }) (fun q => ⟨[(1, .sl 450 o l.length 1), (2, .ptr 1000 0), (5, .str q.1.2), (6, .i64 ((q.1.1 : Nat) : Int))], [(1000, some ⟨.aggB key, 22, true⟩), (21, some ⟨.aggI qsTab, e, false⟩), (450, some ⟨.agg (offC o (rowsC (fun b => [AV.u8 b]) l)), anyT, false⟩)], 1008⟩) (fun q => 8 - q.1.1) ⟨(0, []), Nat.zero_le _, Nat.zero_le _, rfl⟩ (StLe.mk [(1000, 1000)] rfl rfl ⟨⟨_, rfl, by first | rfl | (simp only [AV.ren]; congr 1; omega), rfl⟩, ⟨_, rfl, by first | rfl | (simp only [AV.ren]; congr 1; omega), rfl⟩, ⟨_, rfl, by first | rfl | (simp only [AV.ren]; congr 1; omega), rfl⟩, ⟨_, rfl, by first | rfl | (simp only [AV.ren]; congr 1; omega), rfl⟩, trivial⟩ ⟨⟨_, _, rfl, rfl, rfl, rfl, id, rfl⟩, ⟨_, _, rfl, rfl, rfl, rfl, id, rfl⟩, ⟨_, _, rfl, rfl, offC_ren _ o (rowsC_flat (fun _ => rfl) l), rfl, id, offC_nm _ o (rowsC_flat (fun _ => rfl) l)⟩, trivial⟩) ?_
  rintro ⟨⟨i, s⟩, hi, hi8, hs⟩
  try dsimp only
  try simp only at hi hi8 hs
  refine .seq ?_
  refine .seq ?_
  refine .region ?_
  refine .q (op_move rfl) trivial rfl ?_
  refine .q (op_move rfl) trivial rfl ?_
  refine .q (op_len_sl Tryd.underlying23 rfl) trivial rfl ?_
  refine .q (op_cmpI rfl rfl rfl) trivial rfl ?_
  refine .q (op_move rfl) trivial rfl ?_
  refine .split (fun hg16 => ?_) (fun hg16 => ?_)
  · first | replace hg16 := of_decide_eq_true hg16 | replace hg16 := of_decide_eq_false hg16 | replace hg16 := eq_of_beq hg16 | replace hg16 := ne_of_beq_false hg16 | simp only [bne_iff_ne, ne_eq] at hg16 | simp only [bne_eq_false_iff_eq] at hg16
    refine .q (op_move rfl) ⟨_, rfl, rfl⟩ rfl ?_
    refine .q (op_cmpI rfl rfl rfl) ⟨_, rfl, rfl⟩ rfl ?_
    refine .q (op_pick_true rfl rfl rfl) trivial rfl ?_
    refine .nil ?_
    show Ev _ _ _ _ _
    refine .cond rfl (fun hc19 => ?_) (fun hc19 => ?_)
    · first | replace hc19 := of_decide_eq_true hc19 | replace hc19 := of_decide_eq_false hc19 | replace hc19 := eq_of_beq hc19 | replace hc19 := ne_of_beq_false hc19 | simp only [bne_iff_ne, ne_eq] at hc19 | simp only [bne_eq_false_iff_eq] at hc19
      refine .skip ?_
      show Ev _ _ _ _ _
      refine .seq ?_
      refine .block ?_
      refine .seq ?_
      refine .region ?_
      refine .q (op_move rfl) trivial rfl ?_
      refine .nil ?_
      show Ev _ _ _ _ _
      refine .block ?_
      refine Ev.loop (ι := { p : Nat × List UInt8 // p.1 ≤ 16 ∧ p.2.length = 16 * i + p.1 }) (fun q => ⟨[(1, .sl 450 o l.length 1), (2, .ptr 1000 0), (5, .str q.1.2), (6, .i64 ((i : Nat) : Int)), (22, .i64 ((q.1.1 : Nat) : Int))], [(1000, some ⟨.aggB key, 22, true⟩), (21, some ⟨.aggI qsTab, e, false⟩), (450, some ⟨.agg (offC o (rowsC (fun b => [AV.u8 b]) l)), anyT, false⟩)], 1008⟩) (fun q => 16 - q.1.1) ⟨(0, s), Nat.zero_le _, hs⟩ (StLe.mk [(1000, 1000)] rfl rfl ⟨⟨_, rfl, by first | rfl | (simp only [AV.ren]; congr 1; omega), rfl⟩, ⟨_, rfl, by first | rfl | (simp only [AV.ren]; congr 1; omega), rfl⟩, ⟨_, rfl, by first | rfl | (simp only [AV.ren]; congr 1; omega), rfl⟩, ⟨_, rfl, by first | rfl | (simp only [AV.ren]; congr 1; omega), rfl⟩, ⟨_, rfl, by first | rfl | (simp only [AV.ren]; congr 1; omega), rfl⟩, trivial⟩ ⟨⟨_, _, rfl, rfl, rfl, rfl, id, rfl⟩, ⟨_, _, rfl, rfl, rfl, rfl, id, rfl⟩, ⟨_, _, rfl, rfl, offC_ren _ o (rowsC_flat (fun _ => rfl) l), rfl, id, offC_nm _ o (rowsC_flat (fun _ => rfl) l)⟩, trivial⟩) ?_
      rintro ⟨⟨k, s2⟩, hk16, hs2⟩
      try dsimp only
      try simp only at hk16 hs2
      refine .seq ?_
      refine .region ?_
      refine .q (op_cmpI rfl rfl rfl) trivial rfl ?_
      refine .nil ?_
      show Ev _ _ _ _ _
      refine .seq ?_
      refine .cond rfl (fun hc23 => ?_) (fun hc23 => ?_)
      · first | replace hc23 := of_decide_eq_true hc23 | replace hc23 := of_decide_eq_false hc23 | replace hc23 := eq_of_beq hc23 | replace hc23 := ne_of_beq_false hc23 | simp only [bne_iff_ne, ne_eq] at hc23 | simp only [bne_eq_false_iff_eq] at hc23
        refine .skip ?_
        show Ev _ _ _ _ _
        refine .seq ?_
        refine .block ?_
        refine .seq ?_
        refine .region ?_
        refine .q (op_move rfl) trivial rfl ?_
        refine .q (op_assign rfl) trivial rfl ?_
        refine .nil ?_
        show Ev _ _ _ _ _
        refine .seq ?_
        refine .region ?_
        refine .q (op_assign rfl) trivial rfl ?_
        refine .nil ?_
        show Ev _ _ _ _ _
        refine .seq ?_
        refine .seq ?_
        refine .region ?_
        refine .q (op_move rfl) trivial rfl ?_
        refine .q (op_move rfl) trivial rfl ?_
        refine .q (op_move rfl) trivial rfl ?_
        refine .q (ap_idx Tryd.underlying23 inf5.sz rfl rfl rfl (by omega)) trivial rfl ?_
        refine .q (op_load Tryd.underlying5 rfl rfl rfl (offC_nth (by rw [rows_u8, List.getElem?_map, get_i 0 (show i < l.length by omega)]; rfl)) (by rw [offC_len, rows_u8, List.length_map]; omega)) trivial rfl ?_
        refine .q (op_bin8 rfl rfl rfl) trivial rfl ?_
        refine .q (op_conv Tryd.underlying5 Tryd.underlying3 rfl rfl) trivial rfl ?_
        refine .q (op_cmpI rfl rfl rfl) trivial rfl ?_
        refine .nil ?_
        show Ev _ _ _ _ _
        refine .cond rfl (fun hc32 => ?_) (fun hc32 => ?_)
        · first | replace hc32 := of_decide_eq_true hc32 | replace hc32 := of_decide_eq_false hc32 | replace hc32 := eq_of_beq hc32 | replace hc32 := ne_of_beq_false hc32 | simp only [bne_iff_ne, ne_eq] at hc32 | simp only [bne_eq_false_iff_eq] at hc32
          refine .region ?_
          refine .q (op_move rfl) trivial rfl ?_
          refine .q (op_move rfl) trivial rfl ?_
          refine .q (ap_idx Tryd.underlying23 inf5.sz rfl rfl rfl (by omega)) trivial rfl ?_
          refine .q (op_load Tryd.underlying5 rfl rfl rfl (offC_nth (by rw [rows_u8, List.getElem?_map, get_i 0 (show i < l.length by omega)]; rfl)) (by rw [offC_len, rows_u8, List.length_map]; omega)) trivial rfl ?_
          refine .q (op_assign rfl) trivial rfl ?_
          refine .nil ?_
          show Ev _ _ _ _ _
          refine .region ?_
          refine .q (op_move rfl) trivial rfl ?_
          refine .q (op_move rfl) trivial rfl ?_
          refine .a (ap_build (us := [_]) (c := .aggB [_]) Tryd.underlying23 inf5 rfl (by decide) (by decide) ⟨rfl, rfl, rfl, trivial⟩ rfl) trivial rfl ?_
          refine .q (op_bytes_str Tryd.underlying23 Tryd.underlying5 Tryd.underlying9 rfl rfl rfl (by simp)) trivial rfl ?_
          refine .q (op_addS rfl rfl (by simp; omega)) trivial rfl ?_
          refine .q (op_assign rfl) trivial rfl ?_
          refine .nil ?_
          show Ev _ _ _ _ _
          refine .region ?_
          refine .q (op_addI rfl rfl ⟨by first | omega | (simp only [AV.len]; omega) | (simp only [AV.len, List.length_set]; omega) | assumption | (simp [AV.len]; done), by first | omega | (simp only [AV.len]; omega) | (simp only [AV.len, List.length_set]; omega) | assumption | (simp [AV.len]; done)⟩) trivial rfl ?_
          refine .q (op_move rfl) trivial rfl ?_
          refine .nil ?_
          exact ⟨⟨(k + 1, s2 ++ [_]), by omega, by simp only [List.length_append, List.length_singleton]; omega⟩, by (try dsimp only); omega, StLe.mk [(1000, 1000)] rfl rfl ⟨⟨_, rfl, by first | rfl | (simp only [AV.ren]; congr 1; omega), rfl⟩, ⟨_, rfl, by first | rfl | (simp only [AV.ren]; congr 1; omega), rfl⟩, ⟨_, rfl, by first | rfl | (simp only [AV.ren]; congr 1; omega), rfl⟩, ⟨_, rfl, by first | rfl | (simp only [AV.ren]; congr 1; omega), rfl⟩, ⟨_, rfl, by first | rfl | (simp only [AV.ren]; congr 1; omega), rfl⟩, trivial⟩ ⟨⟨_, _, rfl, rfl, rfl, rfl, id, rfl⟩, ⟨_, _, rfl, rfl, rfl, rfl, id, rfl⟩, ⟨_, _, rfl, rfl, offC_ren _ o (rowsC_flat (fun _ => rfl) l), rfl, id, offC_nm _ o (rowsC_flat (fun _ => rfl) l)⟩, trivial⟩⟩
        · first | replace hc32 := of_decide_eq_true hc32 | replace hc32 := of_decide_eq_false hc32 | replace hc32 := eq_of_beq hc32 | replace hc32 := ne_of_beq_false hc32 | simp only [bne_iff_ne, ne_eq] at hc32 | simp only [bne_eq_false_iff_eq] at hc32
          refine .skip ?_
          show Ev _ _ _ _ _
          refine .region ?_
          refine .q (op_move rfl) trivial rfl ?_
          refine .q (op_move rfl) trivial rfl ?_
          refine .a (ap_build (us := [_]) (c := .aggB [_]) Tryd.underlying23 inf5 rfl (by decide) (by decide) ⟨rfl, rfl, rfl, trivial⟩ rfl) trivial rfl ?_
          refine .q (op_bytes_str Tryd.underlying23 Tryd.underlying5 Tryd.underlying9 rfl rfl rfl (by simp)) trivial rfl ?_
          refine .q (op_addS rfl rfl (by simp; omega)) trivial rfl ?_
          refine .q (op_assign rfl) trivial rfl ?_
          refine .nil ?_
          show Ev _ _ _ _ _
          refine .region ?_
          refine .q (op_addI rfl rfl ⟨by first | omega | (simp only [AV.len]; omega) | (simp only [AV.len, List.length_set]; omega) | assumption | (simp [AV.len]; done), by first | omega | (simp only [AV.len]; omega) | (simp only [AV.len, List.length_set]; omega) | assumption | (simp [AV.len]; done)⟩) trivial rfl ?_
          refine .q (op_move rfl) trivial rfl ?_
          refine .nil ?_
          exact ⟨⟨(k + 1, s2 ++ [_]), by omega, by simp only [List.length_append, List.length_singleton]; omega⟩, by (try dsimp only); omega, StLe.mk [(1000, 1000)] rfl rfl ⟨⟨_, rfl, by first | rfl | (simp only [AV.ren]; congr 1; omega), rfl⟩, ⟨_, rfl, by first | rfl | (simp only [AV.ren]; congr 1; omega), rfl⟩, ⟨_, rfl, by first | rfl | (simp only [AV.ren]; congr 1; omega), rfl⟩, ⟨_, rfl, by first | rfl | (simp only [AV.ren]; congr 1; omega), rfl⟩, ⟨_, rfl, by first | rfl | (simp only [AV.ren]; congr 1; omega), rfl⟩, trivial⟩ ⟨⟨_, _, rfl, rfl, rfl, rfl, id, rfl⟩, ⟨_, _, rfl, rfl, rfl, rfl, id, rfl⟩, ⟨_, _, rfl, rfl, offC_ren _ o (rowsC_flat (fun _ => rfl) l), rfl, id, offC_nm _ o (rowsC_flat (fun _ => rfl) l)⟩, trivial⟩⟩
      · first | replace hc23 := of_decide_eq_true hc23 | replace hc23 := of_decide_eq_false hc23 | replace hc23 := eq_of_beq hc23 | replace hc23 := ne_of_beq_false hc23 | simp only [bne_iff_ne, ne_eq] at hc23 | simp only [bne_eq_false_iff_eq] at hc23
        refine .exit ?_
        show Ev _ _ _ _ _
        refine .region ?_
        refine .q (op_move rfl) trivial rfl ?_
        refine .q (op_addI rfl rfl ⟨by first | omega | (simp only [AV.len]; omega) | (simp only [AV.len, List.length_set]; omega) | assumption | (simp [AV.len]; done), by first | omega | (simp only [AV.len]; omega) | (simp only [AV.len, List.length_set]; omega) | assumption | (simp [AV.len]; done)⟩) trivial rfl ?_
        refine .q (op_assign rfl) trivial rfl ?_
        refine .nil ?_
        exact ⟨⟨(i + 1, s2), by omega, by omega, by show s2.length = 16 * (i + 1); omega⟩, by (try dsimp only); omega, StLe.mk [(1000, 1000)] rfl rfl ⟨⟨_, rfl, by first | rfl | (simp only [AV.ren]; congr 1; omega), rfl⟩, ⟨_, rfl, by first | rfl | (simp only [AV.ren]; congr 1; omega), rfl⟩, ⟨_, rfl, by first | rfl | (simp only [AV.ren]; congr 1; omega), rfl⟩, ⟨_, rfl, by first | rfl | (simp only [AV.ren]; congr 1; omega), rfl⟩, trivial⟩ ⟨⟨_, _, rfl, rfl, rfl, rfl, id, rfl⟩, ⟨_, _, rfl, rfl, rfl, rfl, id, rfl⟩, ⟨_, _, rfl, rfl, offC_ren _ o (rowsC_flat (fun _ => rfl) l), rfl, id, offC_nm _ o (rowsC_flat (fun _ => rfl) l)⟩, trivial⟩⟩
    · first | replace hc19 := of_decide_eq_true hc19 | replace hc19 := of_decide_eq_false hc19 | replace hc19 := eq_of_beq hc19 | replace hc19 := ne_of_beq_false hc19 | simp only [bne_iff_ne, ne_eq] at hc19 | simp only [bne_eq_false_iff_eq] at hc19
      refine .exit ?_
      show Ev _ _ _ _ _
      refine .seq ?_
      refine .region ?_
      refine .q (op_loadRow Tryd.underlying22 rfl sz22 rfl rfl rfl (hk)) trivial rfl ?_
      refine .q (op_move rfl) trivial rfl ?_
      refine .q (op_call (U := []) [] [] (sum_ev key s hk (by omega)) Tryd.func10 (by kernel_rfl) rfl rfl rfl (⟨⟨_, rfl, rfl, rfl⟩, ⟨_, rfl, rfl, rfl⟩, trivial⟩) (trivial) (trivial) (trivial) rfl) trivial rfl ?_
      refine .as (.aggB (sumL key s)) rfl ?_
      refine .a (op_allocRow zero25 rel_zero25 rfl) trivial rfl ?_
      refine .w (op_storeRow sz25 rfl rfl rfl rfl rfl (by first | rfl | simp [AV.len, length_sumL]) (by first | rfl | simp [AV.len, length_sumL])) trivial rfl ?_
      refine .nil ?_
      show Ev _ _ _ _ _
      refine .seq ?_
      refine .drawn [[], [0], [], [2], [], [2, 3, 4], [0, 1, 2, 3, 4, 5], [0, 1, 2, 3, 4, 5, 6]] [0, 1, 2, 3, 5] [] (by kernel_rfl) (by kernel_rfl) rfl ?_
      show DK _ [0, 1, 2, 3, 4, 5, 6, 7] _ _ _
      refine .q rfl (ap_slice_arr_hi Tryd.underlying25 inf5.sz rfl rfl (by first | omega | (simp [AV.len, length_sumL]; done)) (by decide) rfl (by first | omega | (simp [AV.len, length_sumL]; done))) trivial ?_
      refine .q rfl (op_bytes_str Tryd.underlying23 Tryd.underlying5 Tryd.underlying9 rfl rfl rfl (by simp [length_sumL])) trivial ?_
      refine .as (.str (sumL key s)) (by rw [List.drop_zero, List.take_of_length_le (Nat.le_of_eq (length_sumL _ _))]) ?_
      refine .q rfl (ap_slice_arr_hi Tryd.underlying22 inf5.sz rfl rfl (by first | omega | (simp [AV.len, hk]; done)) (by decide) rfl (by first | omega | (simp [AV.len, hk]; done))) trivial ?_
      refine .q rfl (op_bytes_str Tryd.underlying23 Tryd.underlying5 Tryd.underlying9 rfl rfl rfl (by first | omega | (simp [hk]; done))) trivial ?_
      refine .as (.str key) (by rw [List.drop_zero, List.take_of_length_le (Nat.le_of_eq hk)]) ?_
      refine .q rfl (op_move rfl) trivial ?_
      refine .q rfl (op_call (U := []) [] [] (sumR_ev key s hk (by omega)) Tryd.func11 (by kernel_rfl) rfl rfl rfl (⟨⟨_, rfl, rfl, rfl⟩, ⟨_, rfl, rfl, rfl⟩, trivial⟩) (trivial) (trivial) (trivial) rfl) trivial ?_
      refine .as (.str (sumR key s)) rfl ?_
      refine .q rfl (op_eqS rfl rfl rfl) trivial ?_
      refine .q rfl (op_assign rfl) trivial ?_
      refine .nil ?_
      show Ev _ _ _ _ _
      refine .ret ?_
      show RetOk _ _ _ _ _ _ _
      exact ret1v rfl (.inl rfl) rfl (by rw [sum_eq _ _ hk]; simp) trivial
  · first | replace hg16 := of_decide_eq_true hg16 | replace hg16 := of_decide_eq_false hg16 | replace hg16 := eq_of_beq hg16 | replace hg16 := ne_of_beq_false hg16 | simp only [bne_iff_ne, ne_eq] at hg16 | simp only [bne_eq_false_iff_eq] at hg16
    refine .no ⟨_, rfl, rfl⟩ rfl ?_
    refine .no ⟨_, rfl, rfl⟩ rfl ?_
    refine .q (op_pick_false rfl rfl rfl) trivial rfl ?_
    refine .nil ?_
    show Ev _ _ _ _ _
    refine .cond_false rfl rfl ?_
    refine .exit ?_
    show Ev _ _ _ _ _
    refine .seq ?_
    refine .region ?_
    refine .q (op_loadRow Tryd.underlying22 rfl sz22 rfl rfl rfl (hk)) trivial rfl ?_
    refine .q (op_move rfl) trivial rfl ?_
    refine .q (op_call (U := []) [] [] (sum_ev key s hk (by omega)) Tryd.func10 (by kernel_rfl) rfl rfl rfl (⟨⟨_, rfl, rfl, rfl⟩, ⟨_, rfl, rfl, rfl⟩, trivial⟩) (trivial) (trivial) (trivial) rfl) trivial rfl ?_
    refine .as (.aggB (sumL key s)) rfl ?_
    refine .a (op_allocRow zero25 rel_zero25 rfl) trivial rfl ?_
    refine .w (op_storeRow sz25 rfl rfl rfl rfl rfl (by first | rfl | simp [AV.len, length_sumL]) (by first | rfl | simp [AV.len, length_sumL])) trivial rfl ?_
    refine .nil ?_
    show Ev _ _ _ _ _
    refine .seq ?_
    refine .drawn [[], [0], [], [2], [], [2, 3, 4], [0, 1, 2, 3, 4, 5], [0, 1, 2, 3, 4, 5, 6]] [0, 1, 2, 3, 5] [] (by kernel_rfl) (by kernel_rfl) rfl ?_
    show DK _ [0, 1, 2, 3, 4, 5, 6, 7] _ _ _
    refine .q rfl (ap_slice_arr_hi Tryd.underlying25 inf5.sz rfl rfl (by first | omega | (simp [AV.len, length_sumL]; done)) (by decide) rfl (by first | omega | (simp [AV.len, length_sumL]; done))) trivial ?_
    refine .q rfl (op_bytes_str Tryd.underlying23 Tryd.underlying5 Tryd.underlying9 rfl rfl rfl (by simp [length_sumL])) trivial ?_
    refine .as (.str (sumL key s)) (by rw [List.drop_zero, List.take_of_length_le (Nat.le_of_eq (length_sumL _ _))]) ?_
    refine .q rfl (ap_slice_arr_hi Tryd.underlying22 inf5.sz rfl rfl (by first | omega | (simp [AV.len, hk]; done)) (by decide) rfl (by first | omega | (simp [AV.len, hk]; done))) trivial ?_
    refine .q rfl (op_bytes_str Tryd.underlying23 Tryd.underlying5 Tryd.underlying9 rfl rfl rfl (by first | omega | (simp [hk]; done))) trivial ?_
    refine .as (.str key) (by rw [List.drop_zero, List.take_of_length_le (Nat.le_of_eq hk)]) ?_
    refine .q rfl (op_move rfl) trivial ?_
    refine .q rfl (op_call (U := []) [] [] (sumR_ev key s hk (by omega)) Tryd.func11 (by kernel_rfl) rfl rfl rfl (⟨⟨_, rfl, rfl, rfl⟩, ⟨_, rfl, rfl, rfl⟩, trivial⟩) (trivial) (trivial) (trivial) rfl) trivial ?_
    refine .as (.str (sumR key s)) rfl ?_
    refine .q rfl (op_eqS rfl rfl rfl) trivial ?_
    refine .q rfl (op_assign rfl) trivial ?_
    refine .nil ?_
    show Ev _ _ _ _ _
    refine .ret ?_
    show RetOk _ _ _ _ _ _ _
    exact ret1v rfl (.inl rfl) rfl (by rw [sum_eq _ _ hk]; simp) trivial
end Go.Proofs.YtgblhjmnenmlkaaDoor
