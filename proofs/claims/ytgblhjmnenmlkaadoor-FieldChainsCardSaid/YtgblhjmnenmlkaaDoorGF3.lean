/-
  Texts of this claim.
-/
import Derived.Test.YtgblhjmnenmlkaaDoorGF2
import Derived.Test.YtgblhjmnenmlkaaDoorGE2
namespace Go.Proofs.YtgblhjmnenmlkaaDoor
open Go.RowKit
/-- A call, of a number's bytes. -/
structure ActV where
  k : Int
  s : List UInt8
  h : s.length ≤ maxLen
instance : Inhabited ActV := ⟨⟨0, [], Nat.zero_le _⟩⟩
def actC (a : ActV) : List AV := [.i64 a.k, .str a.s]
set_option maxHeartbeats 2000000 in
set_option maxRecDepth 100000 in
theorem fieldChains_ev (e : Nat) (s : List UInt8) (hs : s.length ≤ maxLen) (o : Nat) (l : List ActV) (hl : l.length ≤ maxLen) : Meets Tryd.prog 6 [.str s, .sl 450 o l.length 2] [(20, some ⟨.agg64 primeL, e, false⟩), (450, some ⟨.agg (offC o (rowsC actC l)), anyT, false⟩)] (.bool true) [] := by
  have hl2 : l.length ≤ 9223372036854775807 := by unfold maxLen at hl; omega
  obtain ⟨a0, e0⟩ : ∃ z, ofV (s.take 32) = z := ⟨_, rfl⟩
  have h0 : a0 < fp := by rw [← e0]; exact ofV_lt _
  refine meets_of_ev (nt := 112) Tryd.func6 rfl rfl (Nat.le_of_ble_eq_true rfl) ?_
  refine .seq ?_
  refine .region ?_
  refine .q (op_assign rfl) trivial rfl ?_
  refine .nil ?_
  show Ev _ _ _ _ _
  refine .seq ?_
  refine .seq ?_
  refine .region ?_
  refine .q (op_call (U := []) [] [] (awake5_ev) Tryd.func17 (by kernel_rfl) rfl rfl rfl (trivial) (trivial) (trivial) (trivial) rfl) trivial rfl ?_
  refine .q (op_notB rfl) trivial rfl ?_
  refine .nil ?_
  show Ev _ _ _ _ _
  refine .cond_false rfl (rfl) ?_
  refine .skip ?_
  show Ev _ _ _ _ _
  refine .seq ?_
  refine .region ?_
  refine .q (op_move rfl) trivial rfl ?_
  refine .q (op_call (U := []) [] [] (cut_ev s 32 hs (by decide)) Tryd.func12 (by kernel_rfl) rfl rfl rfl (⟨⟨_, rfl, rfl, rfl⟩, ⟨_, rfl, rfl, rfl⟩, trivial⟩) (trivial) (trivial) (trivial) rfl) trivial rfl ?_
  refine .q (op_call (U := []) [] [] (fof_ev _ (by simp only [List.length_take]; omega)) Tryd.func18 (by kernel_rfl) rfl rfl rfl (⟨⟨_, rfl, rfl, rfl⟩, trivial⟩) (trivial) (trivial) (trivial) rfl) trivial rfl ?_
  refine .as (.agg64 (fl a0)) (congrArg (fun x => AV.agg64 (fl x)) e0) ?_
  refine .a (op_allocRow zero47 rel_zero47 rfl) trivial rfl ?_
  refine .w (op_storeRow sz47 rfl rfl rfl rfl rfl (rfl) (rfl)) trivial rfl ?_
  refine .nil ?_
  show Ev _ _ _ _ _
  refine .seq ?_
  refine .region ?_
  refine .q (op_move rfl) trivial rfl ?_
  refine .q (op_call (U := []) [] [] (cut_ev s 32 hs (by decide)) Tryd.func12 (by kernel_rfl) rfl rfl rfl (⟨⟨_, rfl, rfl, rfl⟩, ⟨_, rfl, rfl, rfl⟩, trivial⟩) (trivial) (trivial) (trivial) rfl) trivial rfl ?_
  refine .a (op_call (U := [(1008, some ⟨.aggI (dg (a0)), 3, true⟩)]) [] [(1008, 1000)] (of05_as (s.take 32) a0 e0 (by simp only [List.length_take]; omega)) Tryd.func19 (by kernel_rfl) rfl rfl rfl (⟨⟨_, rfl, rfl, rfl⟩, trivial⟩) (trivial) (⟨⟨1000, _, rfl, rfl, rfl, rfl, .inl rfl⟩, trivial⟩) (trivial) rfl) trivial rfl ?_
  refine .q (op_assign rfl) trivial rfl ?_
  refine .nil ?_
  show Ev _ _ _ _ _
  refine .seq ?_
  refine .region ?_
  refine .q (op_loadRow Tryd.underlying47 rfl sz47 rfl rfl rfl (rfl)) trivial rfl ?_
  refine .q (op_move rfl) trivial rfl ?_
  refine .a (op_allocRow zero47 rel_zero47 rfl) trivial rfl ?_
  refine .w (op_storeRow sz47 rfl rfl rfl rfl rfl (rfl) (rfl)) trivial rfl ?_
  refine .q (op_assign rfl) trivial rfl ?_
  refine .nil ?_
  show Ev _ _ _ _ _
  refine .seq ?_
  refine .seq ?_
  refine .region ?_
  refine .q (op_assign rfl) trivial rfl ?_
  refine .nil ?_
  show Ev _ _ _ _ _
  refine .block ?_
  refine Ev.weak (st2 := ⟨[(1, .sl 450 o l.length 2), (5, .ptr 1000 0), (6, .sl 1008 0 (dl a0) 1), (7, .ptr 1016 0), (8, .sl 1008 0 (dl a0) 1), (9, .i64 ((0 : Nat) : Int))], [(1000, some ⟨.agg64 (fl a0), 47, true⟩), (1008, some ⟨.aggI (dg a0), 3, false⟩), (1016, some ⟨.agg64 (fl a0), 47, true⟩), (20, some ⟨.agg64 primeL, e, false⟩), (450, some ⟨.agg (offC o (rowsC actC l)), anyT, false⟩)], 1024⟩) (StLe.mk [(1000, 1000), (1008, 1008), (1016, 1016)] rfl rfl ⟨⟨_, rfl, by first | rfl | (simp only [AV.ren]; congr 1; omega), rfl⟩, ⟨_, rfl, by first | rfl | (simp only [AV.ren]; congr 1; omega), rfl⟩, ⟨_, rfl, by first | rfl | (simp only [AV.ren]; congr 1; omega), rfl⟩, ⟨_, rfl, by first | rfl | (simp only [AV.ren]; congr 1; omega), rfl⟩, ⟨_, rfl, by first | rfl | (simp only [AV.ren]; congr 1; omega), rfl⟩, ⟨_, rfl, by first | rfl | (simp only [AV.ren]; congr 1; omega), rfl⟩, trivial⟩ ⟨⟨_, _, rfl, rfl, rfl, rfl, id, rfl⟩, ⟨_, _, rfl, rfl, rfl, rfl, (fun h => by cases h), rfl⟩, ⟨_, _, rfl, rfl, rfl, rfl, id, rfl⟩, ⟨_, _, rfl, rfl, rfl, rfl, (fun h => by cases h), rfl⟩, ⟨_, _, rfl, rfl, offC_ren _ o (rowsC_flat (fun _ => rfl) l), rfl, id, offC_nm _ o (rowsC_flat (fun _ => rfl) l)⟩, trivial⟩) ?_
  refine Ev.twinS (t := 8) (b := 1008) (c' := .aggI (dg a0)) (m := (AV.aggI (dg a0)).list.length) rfl rfl (List.take_length).symm ?_
  refine Ev.loop (ι := { p : Nat × Nat × Nat // p.1 ≤ l.length ∧ p.1 ≤ 40 ∧ p.2.1 < fp ∧ p.2.2 < fp }) (fun q => ⟨[(1, .sl 450 o l.length 2), (5, .ptr 1000 0), (6, .sl 1008 0 (dl q.1.2.1) 1), (7, .ptr 1016 0), (8, .sl 1024 0 (dl q.1.2.2) 1), (9, .i64 ((q.1.1 : Nat) : Int))], [(1000, some ⟨.agg64 (fl q.1.2.1), 47, true⟩), (1008, some ⟨.aggI (dg q.1.2.1), 3, false⟩), (1016, some ⟨.agg64 (fl q.1.2.2), 47, true⟩), (1024, some ⟨.aggI (dg q.1.2.2), 3, false⟩), (20, some ⟨.agg64 primeL, e, false⟩), (450, some ⟨.agg (offC o (rowsC actC l)), anyT, false⟩)], 1032⟩) (fun q => 40 - q.1.1) ⟨(0, a0, a0), Nat.zero_le _, Nat.zero_le _, h0, h0⟩ (StLe.mk [(1000, 1000), (1008, 1008), (1016, 1016), (1024, 1024)] rfl rfl ⟨⟨_, rfl, by first | rfl | (simp only [AV.ren]; congr 1; omega), rfl⟩, ⟨_, rfl, by first | rfl | (simp only [AV.ren]; congr 1; omega), rfl⟩, ⟨_, rfl, by first | rfl | (simp only [AV.ren]; congr 1; omega), rfl⟩, ⟨_, rfl, by first | rfl | (simp only [AV.ren]; congr 1; omega), rfl⟩, ⟨_, rfl, by first | rfl | (simp only [AV.ren]; congr 1; omega), rfl⟩, ⟨_, rfl, by first | rfl | (simp only [AV.ren]; congr 1; omega), rfl⟩, trivial⟩ ⟨⟨_, _, rfl, rfl, rfl, rfl, id, rfl⟩, ⟨_, _, rfl, rfl, rfl, rfl, (fun h => by cases h), rfl⟩, ⟨_, _, rfl, rfl, rfl, rfl, id, rfl⟩, ⟨_, _, rfl, rfl, rfl, rfl, (fun h => by cases h), rfl⟩, ⟨_, _, rfl, rfl, rfl, rfl, (fun h => by cases h), rfl⟩, ⟨_, _, rfl, rfl, offC_ren _ o (rowsC_flat (fun _ => rfl) l), rfl, id, offC_nm _ o (rowsC_flat (fun _ => rfl) l)⟩, trivial⟩) ?_
  rintro ⟨⟨i, A, B⟩, hi, hi40, hA, hB⟩
  try dsimp only
  try simp only at hi hi40 hA hB
  refine .seq ?_
  refine .seq ?_
  refine .region ?_
  refine .q (op_move rfl) trivial rfl ?_
  refine .q (op_move rfl) trivial rfl ?_
  refine .q (op_len_sl Tryd.underlying43 rfl) trivial rfl ?_
  refine .q (op_cmpI rfl rfl rfl) trivial rfl ?_
  refine .q (op_move rfl) trivial rfl ?_
  refine .split (fun hg25 => ?_) (fun hg25 => ?_)
  · first | replace hg25 := of_decide_eq_true hg25 | replace hg25 := of_decide_eq_false hg25 | replace hg25 := eq_of_beq hg25 | replace hg25 := ne_of_beq_false hg25 | simp only [bne_iff_ne, ne_eq] at hg25 | simp only [bne_eq_false_iff_eq] at hg25
    refine .q (op_move rfl) ⟨_, rfl, rfl⟩ rfl ?_
    refine .q (op_cmpI rfl rfl rfl) ⟨_, rfl, rfl⟩ rfl ?_
    refine .q (op_pick_true rfl rfl rfl) trivial rfl ?_
    refine .nil ?_
    show Ev _ _ _ _ _
    refine .cond rfl (fun hc28 => ?_) (fun hc28 => ?_)
    · first | replace hc28 := of_decide_eq_true hc28 | replace hc28 := of_decide_eq_false hc28 | replace hc28 := eq_of_beq hc28 | replace hc28 := ne_of_beq_false hc28 | simp only [bne_iff_ne, ne_eq] at hc28 | simp only [bne_eq_false_iff_eq] at hc28
      refine .skip ?_
      show Ev _ _ _ _ _
      refine .seq ?_
      refine .block ?_
      refine .seq ?_
      refine .seq ?_
      refine .region ?_
      refine .q (op_move rfl) trivial rfl ?_
      refine .q (op_move rfl) trivial rfl ?_
      refine .q (op_indexAddr (z := 2) Tryd.underlying43 (by kernel_rfl) rfl rfl rfl (show i < l.length by omega)) trivial rfl ?_
      refine .q (op_fieldAddr (m := 0) Tryd.underlying52 rfl (by kernel_rfl) rfl) trivial rfl ?_
      refine .as (.ptr 450 (o + i * 2 + 0)) rfl ?_
      refine .q (op_load Tryd.underlying3 rfl rfl rfl (rows_at (z := 2) (fun _ => rfl) (get_i default (show i < l.length by omega)) (k := 0) rfl) (rows_lt (f := actC) (z := 2) (o := o) (l := l) (i := i) (fun _ => rfl) (by omega) (by decide))) trivial rfl ?_
      refine .q (op_maskP 3 (by decide) rfl rfl) trivial rfl ?_
      refine .nil ?_
      show Ev _ _ _ _ _
      refine .block ?_
      refine .seq ?_
      refine .seq ?_
      refine .region ?_
      refine .q (op_cmpI rfl rfl rfl) trivial rfl ?_
      refine .q (op_assign rfl) trivial rfl ?_
      refine .nil ?_
      show Ev _ _ _ _ _
      refine .cond rfl (fun hc47 => ?_) (fun hc47 => ?_)
      · skip
        refine .skip ?_
        show Ev _ _ _ _ _
        refine .cond_true rfl (by first | rfl | assumption) ?_
        refine .region ?_
        refine .q (op_loadRow Tryd.underlying47 rfl sz47 rfl rfl rfl (rfl)) trivial rfl ?_
        refine .q (op_loadRow Tryd.underlying47 rfl sz47 rfl rfl rfl (rfl)) trivial rfl ?_
        refine .q (op_call (U := []) [] [] (fadd_ev _ _ (by first | assumption | exact fmod_lt _ | exact ofV_lt _ | exact fp_pos | decide) (by first | assumption | exact fmod_lt _ | exact ofV_lt _ | exact fp_pos | decide)) Tryd.func20 (by kernel_rfl) rfl rfl rfl (⟨⟨_, rfl, rfl, rfl⟩, ⟨_, rfl, rfl, rfl⟩, trivial⟩) (trivial) (trivial) (trivial) rfl) trivial rfl ?_
        refine .q (op_move rfl) trivial rfl ?_
        refine .q (op_move rfl) trivial rfl ?_
        refine .a (op_call (U := [(1032, some ⟨.aggI (dg (((A + B) % fp))), 3, true⟩)]) [(500, 1008), (501, 1024)] [(1032, 1000)] (add05 (A) (B) (by first | assumption | exact Nat.mod_lt _ fp_pos' | exact fmod_lt _ | exact ofV_lt _ | exact fp_pos' | exact pw_lt _ _ _ | decide) (by first | assumption | exact Nat.mod_lt _ fp_pos' | exact fmod_lt _ | exact ofV_lt _ | exact fp_pos' | exact pw_lt _ _ _ | decide)) Tryd.func21 (by kernel_rfl) rfl rfl rfl (⟨⟨_, rfl, rfl, rfl⟩, ⟨_, rfl, rfl, rfl⟩, trivial⟩) (⟨⟨_, _, rfl, rfl, rfl, rfl, (fun h => by cases h), rfl⟩, ⟨_, _, rfl, rfl, rfl, rfl, (fun h => by cases h), rfl⟩, trivial⟩) (⟨⟨1000, _, rfl, rfl, rfl, rfl, .inl rfl⟩, trivial⟩) (⟨(fun h => by cases h), (fun h => by cases h), trivial⟩) rfl) trivial rfl ?_
        refine .w (op_storeRow sz47 rfl rfl rfl rfl rfl (rfl) (rfl)) trivial rfl ?_
        refine .q (op_assign rfl) trivial rfl ?_
        refine .nil ?_
        show Ev _ _ _ _ _
        refine .seq ?_
        refine .region ?_
        refine .q (op_loadRow Tryd.underlying47 rfl sz47 rfl rfl rfl (rfl)) trivial rfl ?_
        refine .q (op_move rfl) trivial rfl ?_
        refine .q (op_call (U := []) [(500, 1032)] [] (is_ev (((A + B) % fp))) Tryd.func28 (by kernel_rfl) rfl rfl rfl (⟨⟨_, rfl, rfl, rfl⟩, ⟨_, rfl, rfl, rfl⟩, trivial⟩) (⟨⟨_, _, rfl, rfl, rfl, rfl, (fun h => by cases h), rfl⟩, trivial⟩) (trivial) (⟨(fun h => by cases h), trivial⟩) rfl) trivial rfl ?_
        refine .q (op_notB rfl) trivial rfl ?_
        refine .nil ?_
        show Ev _ _ _ _ _
        refine .cond_false rfl (rfl) ?_
        refine .skip ?_
        show Ev _ _ _ _ _
        refine .region ?_
        refine .q (op_move rfl) trivial rfl ?_
        refine .q (op_addI rfl rfl ⟨by first | omega | (simp only [AV.len]; omega) | (simp only [AV.len, List.length_set]; omega) | assumption | (simp [AV.len]; done), by first | omega | (simp only [AV.len]; omega) | (simp only [AV.len, List.length_set]; omega) | assumption | (simp [AV.len]; done)⟩) trivial rfl ?_
        refine .q (op_assign rfl) trivial rfl ?_
        refine .nil ?_
        exact ⟨⟨(i + 1, ((A + B) % fp), B), by omega, by omega, (by first | assumption | exact fmod_lt _ | exact ofV_lt _ | exact fp_pos | decide), (by first | assumption | exact fmod_lt _ | exact ofV_lt _ | exact fp_pos | decide)⟩, by (try dsimp only); omega, StLe.mk [(1000, 1000), (1008, 1032), (1016, 1016), (1024, 1024)] rfl rfl ⟨⟨_, rfl, by first | rfl | (simp only [AV.ren]; congr 1; omega), rfl⟩, ⟨_, rfl, by first | rfl | (simp only [AV.ren]; congr 1; omega), rfl⟩, ⟨_, rfl, by first | rfl | (simp only [AV.ren]; congr 1; omega), rfl⟩, ⟨_, rfl, by first | rfl | (simp only [AV.ren]; congr 1; omega), rfl⟩, ⟨_, rfl, by first | rfl | (simp only [AV.ren]; congr 1; omega), rfl⟩, ⟨_, rfl, by first | rfl | (simp only [AV.ren]; congr 1; omega), rfl⟩, trivial⟩ ⟨⟨_, _, rfl, rfl, rfl, rfl, id, rfl⟩, ⟨_, _, rfl, rfl, rfl, rfl, (fun h => by cases h), rfl⟩, ⟨_, _, rfl, rfl, rfl, rfl, id, rfl⟩, ⟨_, _, rfl, rfl, rfl, rfl, (fun h => by cases h), rfl⟩, ⟨_, _, rfl, rfl, rfl, rfl, (fun h => by cases h), rfl⟩, ⟨_, _, rfl, rfl, offC_ren _ o (rowsC_flat (fun _ => rfl) l), rfl, id, offC_nm _ o (rowsC_flat (fun _ => rfl) l)⟩, trivial⟩⟩
      · skip
        refine .region ?_
        refine .q (op_cmpI rfl rfl rfl) trivial rfl ?_
        refine .q (op_assign rfl) trivial rfl ?_
        refine .nil ?_
        show Ev _ _ _ _ _
        refine .cond rfl (fun hc47 => ?_) (fun hc47 => ?_)
        · skip
          refine .region ?_
          refine .q (op_loadRow Tryd.underlying47 rfl sz47 rfl rfl rfl (rfl)) trivial rfl ?_
          refine .q (op_loadRow Tryd.underlying47 rfl sz47 rfl rfl rfl (rfl)) trivial rfl ?_
          refine .q (op_call (U := []) [] [] (fadd_ev _ _ (by first | assumption | exact fmod_lt _ | exact ofV_lt _ | exact fp_pos | decide) (by first | assumption | exact fmod_lt _ | exact ofV_lt _ | exact fp_pos | decide)) Tryd.func20 (by kernel_rfl) rfl rfl rfl (⟨⟨_, rfl, rfl, rfl⟩, ⟨_, rfl, rfl, rfl⟩, trivial⟩) (trivial) (trivial) (trivial) rfl) trivial rfl ?_
          refine .q (op_move rfl) trivial rfl ?_
          refine .q (op_move rfl) trivial rfl ?_
          refine .a (op_call (U := [(1032, some ⟨.aggI (dg (((A + B) % fp))), 3, true⟩)]) [(500, 1008), (501, 1024)] [(1032, 1000)] (add05 (A) (B) (by first | assumption | exact Nat.mod_lt _ fp_pos' | exact fmod_lt _ | exact ofV_lt _ | exact fp_pos' | exact pw_lt _ _ _ | decide) (by first | assumption | exact Nat.mod_lt _ fp_pos' | exact fmod_lt _ | exact ofV_lt _ | exact fp_pos' | exact pw_lt _ _ _ | decide)) Tryd.func21 (by kernel_rfl) rfl rfl rfl (⟨⟨_, rfl, rfl, rfl⟩, ⟨_, rfl, rfl, rfl⟩, trivial⟩) (⟨⟨_, _, rfl, rfl, rfl, rfl, (fun h => by cases h), rfl⟩, ⟨_, _, rfl, rfl, rfl, rfl, (fun h => by cases h), rfl⟩, trivial⟩) (⟨⟨1000, _, rfl, rfl, rfl, rfl, .inl rfl⟩, trivial⟩) (⟨(fun h => by cases h), (fun h => by cases h), trivial⟩) rfl) trivial rfl ?_
          refine .w (op_storeRow sz47 rfl rfl rfl rfl rfl (rfl) (rfl)) trivial rfl ?_
          refine .q (op_assign rfl) trivial rfl ?_
          refine .nil ?_
          show Ev _ _ _ _ _
          refine .seq ?_
          refine .region ?_
          refine .q (op_loadRow Tryd.underlying47 rfl sz47 rfl rfl rfl (rfl)) trivial rfl ?_
          refine .q (op_move rfl) trivial rfl ?_
          refine .q (op_call (U := []) [(500, 1032)] [] (is_ev (((A + B) % fp))) Tryd.func28 (by kernel_rfl) rfl rfl rfl (⟨⟨_, rfl, rfl, rfl⟩, ⟨_, rfl, rfl, rfl⟩, trivial⟩) (⟨⟨_, _, rfl, rfl, rfl, rfl, (fun h => by cases h), rfl⟩, trivial⟩) (trivial) (⟨(fun h => by cases h), trivial⟩) rfl) trivial rfl ?_
          refine .q (op_notB rfl) trivial rfl ?_
          refine .nil ?_
          show Ev _ _ _ _ _
          refine .cond_false rfl (rfl) ?_
          refine .skip ?_
          show Ev _ _ _ _ _
          refine .region ?_
          refine .q (op_move rfl) trivial rfl ?_
          refine .q (op_addI rfl rfl ⟨by first | omega | (simp only [AV.len]; omega) | (simp only [AV.len, List.length_set]; omega) | assumption | (simp [AV.len]; done), by first | omega | (simp only [AV.len]; omega) | (simp only [AV.len, List.length_set]; omega) | assumption | (simp [AV.len]; done)⟩) trivial rfl ?_
          refine .q (op_assign rfl) trivial rfl ?_
          refine .nil ?_
          exact ⟨⟨(i + 1, ((A + B) % fp), B), by omega, by omega, (by first | assumption | exact fmod_lt _ | exact ofV_lt _ | exact fp_pos | decide), (by first | assumption | exact fmod_lt _ | exact ofV_lt _ | exact fp_pos | decide)⟩, by (try dsimp only); omega, StLe.mk [(1000, 1000), (1008, 1032), (1016, 1016), (1024, 1024)] rfl rfl ⟨⟨_, rfl, by first | rfl | (simp only [AV.ren]; congr 1; omega), rfl⟩, ⟨_, rfl, by first | rfl | (simp only [AV.ren]; congr 1; omega), rfl⟩, ⟨_, rfl, by first | rfl | (simp only [AV.ren]; congr 1; omega), rfl⟩, ⟨_, rfl, by first | rfl | (simp only [AV.ren]; congr 1; omega), rfl⟩, ⟨_, rfl, by first | rfl | (simp only [AV.ren]; congr 1; omega), rfl⟩, ⟨_, rfl, by first | rfl | (simp only [AV.ren]; congr 1; omega), rfl⟩, trivial⟩ ⟨⟨_, _, rfl, rfl, rfl, rfl, id, rfl⟩, ⟨_, _, rfl, rfl, rfl, rfl, (fun h => by cases h), rfl⟩, ⟨_, _, rfl, rfl, rfl, rfl, id, rfl⟩, ⟨_, _, rfl, rfl, rfl, rfl, (fun h => by cases h), rfl⟩, ⟨_, _, rfl, rfl, rfl, rfl, (fun h => by cases h), rfl⟩, ⟨_, _, rfl, rfl, offC_ren _ o (rowsC_flat (fun _ => rfl) l), rfl, id, offC_nm _ o (rowsC_flat (fun _ => rfl) l)⟩, trivial⟩⟩
        · skip
          refine .seq ?_
          refine .region ?_
          refine .q (op_cmpI rfl rfl rfl) trivial rfl ?_
          refine .q (op_assign rfl) trivial rfl ?_
          refine .nil ?_
          show Ev _ _ _ _ _
          refine .cond rfl (fun hc56 => ?_) (fun hc56 => ?_)
          · skip
            refine .region ?_
            refine .q (op_loadRow Tryd.underlying47 rfl sz47 rfl rfl rfl (rfl)) trivial rfl ?_
            refine .q (op_loadRow Tryd.underlying47 rfl sz47 rfl rfl rfl (rfl)) trivial rfl ?_
            refine .q (op_call (U := []) [] [] (fsub_ev e _ _ (by first | assumption | exact fmod_lt _ | exact ofV_lt _ | exact fp_pos | decide) (by first | assumption | exact fmod_lt _ | exact ofV_lt _ | exact fp_pos | decide)) Tryd.func22 (by kernel_rfl) rfl rfl rfl (⟨⟨_, rfl, rfl, rfl⟩, ⟨_, rfl, rfl, rfl⟩, trivial⟩) (⟨⟨_, _, rfl, rfl, rfl, rfl, id, rfl⟩, trivial⟩) (trivial) (⟨(fun h => by cases h), trivial⟩) rfl) trivial rfl ?_
            refine .q (op_move rfl) trivial rfl ?_
            refine .q (op_move rfl) trivial rfl ?_
            refine .a (op_call (U := [(1032, some ⟨.aggI (dg (((A + (fp - B)) % fp))), 3, true⟩)]) [(500, 1008), (501, 1024)] [(1032, 1000)] (sub05 (A) (B) (by first | assumption | exact Nat.mod_lt _ fp_pos' | exact fmod_lt _ | exact ofV_lt _ | exact fp_pos' | exact pw_lt _ _ _ | decide) (by first | assumption | exact Nat.mod_lt _ fp_pos' | exact fmod_lt _ | exact ofV_lt _ | exact fp_pos' | exact pw_lt _ _ _ | decide)) Tryd.func23 (by kernel_rfl) rfl rfl rfl (⟨⟨_, rfl, rfl, rfl⟩, ⟨_, rfl, rfl, rfl⟩, trivial⟩) (⟨⟨_, _, rfl, rfl, rfl, rfl, (fun h => by cases h), rfl⟩, ⟨_, _, rfl, rfl, rfl, rfl, (fun h => by cases h), rfl⟩, trivial⟩) (⟨⟨1000, _, rfl, rfl, rfl, rfl, .inl rfl⟩, trivial⟩) (⟨(fun h => by cases h), (fun h => by cases h), trivial⟩) rfl) trivial rfl ?_
            refine .w (op_storeRow sz47 rfl rfl rfl rfl rfl (rfl) (rfl)) trivial rfl ?_
            refine .q (op_assign rfl) trivial rfl ?_
            refine .nil ?_
            show Ev _ _ _ _ _
            refine .seq ?_
            refine .region ?_
            refine .q (op_loadRow Tryd.underlying47 rfl sz47 rfl rfl rfl (rfl)) trivial rfl ?_
            refine .q (op_move rfl) trivial rfl ?_
            refine .q (op_call (U := []) [(500, 1032)] [] (is_ev (((A + (fp - B)) % fp))) Tryd.func28 (by kernel_rfl) rfl rfl rfl (⟨⟨_, rfl, rfl, rfl⟩, ⟨_, rfl, rfl, rfl⟩, trivial⟩) (⟨⟨_, _, rfl, rfl, rfl, rfl, (fun h => by cases h), rfl⟩, trivial⟩) (trivial) (⟨(fun h => by cases h), trivial⟩) rfl) trivial rfl ?_
            refine .q (op_notB rfl) trivial rfl ?_
            refine .nil ?_
            show Ev _ _ _ _ _
            refine .cond_false rfl (rfl) ?_
            refine .skip ?_
            show Ev _ _ _ _ _
            refine .region ?_
            refine .q (op_move rfl) trivial rfl ?_
            refine .q (op_addI rfl rfl ⟨by first | omega | (simp only [AV.len]; omega) | (simp only [AV.len, List.length_set]; omega) | assumption | (simp [AV.len]; done), by first | omega | (simp only [AV.len]; omega) | (simp only [AV.len, List.length_set]; omega) | assumption | (simp [AV.len]; done)⟩) trivial rfl ?_
            refine .q (op_assign rfl) trivial rfl ?_
            refine .nil ?_
            exact ⟨⟨(i + 1, ((A + (fp - B)) % fp), B), by omega, by omega, (by first | assumption | exact fmod_lt _ | exact ofV_lt _ | exact fp_pos | decide), (by first | assumption | exact fmod_lt _ | exact ofV_lt _ | exact fp_pos | decide)⟩, by (try dsimp only); omega, StLe.mk [(1000, 1000), (1008, 1032), (1016, 1016), (1024, 1024)] rfl rfl ⟨⟨_, rfl, by first | rfl | (simp only [AV.ren]; congr 1; omega), rfl⟩, ⟨_, rfl, by first | rfl | (simp only [AV.ren]; congr 1; omega), rfl⟩, ⟨_, rfl, by first | rfl | (simp only [AV.ren]; congr 1; omega), rfl⟩, ⟨_, rfl, by first | rfl | (simp only [AV.ren]; congr 1; omega), rfl⟩, ⟨_, rfl, by first | rfl | (simp only [AV.ren]; congr 1; omega), rfl⟩, ⟨_, rfl, by first | rfl | (simp only [AV.ren]; congr 1; omega), rfl⟩, trivial⟩ ⟨⟨_, _, rfl, rfl, rfl, rfl, id, rfl⟩, ⟨_, _, rfl, rfl, rfl, rfl, (fun h => by cases h), rfl⟩, ⟨_, _, rfl, rfl, rfl, rfl, id, rfl⟩, ⟨_, _, rfl, rfl, rfl, rfl, (fun h => by cases h), rfl⟩, ⟨_, _, rfl, rfl, rfl, rfl, (fun h => by cases h), rfl⟩, ⟨_, _, rfl, rfl, offC_ren _ o (rowsC_flat (fun _ => rfl) l), rfl, id, offC_nm _ o (rowsC_flat (fun _ => rfl) l)⟩, trivial⟩⟩
          · skip
            refine .seq ?_
            refine .region ?_
            refine .q (op_cmpI rfl rfl rfl) trivial rfl ?_
            refine .q (op_assign rfl) trivial rfl ?_
            refine .nil ?_
            show Ev _ _ _ _ _
            refine .cond rfl (fun hc64 => ?_) (fun hc64 => ?_)
            · skip
              refine .region ?_
              refine .q (op_loadRow Tryd.underlying47 rfl sz47 rfl rfl rfl (rfl)) trivial rfl ?_
              refine .q (op_loadRow Tryd.underlying47 rfl sz47 rfl rfl rfl (rfl)) trivial rfl ?_
              refine .q (op_call (U := []) [] [] (fmul_ev _ _ (by first | assumption | exact fmod_lt _ | exact ofV_lt _ | exact fp_pos | decide) (by first | assumption | exact fmod_lt _ | exact ofV_lt _ | exact fp_pos | decide)) Tryd.func24 (by kernel_rfl) rfl rfl rfl (⟨⟨_, rfl, rfl, rfl⟩, ⟨_, rfl, rfl, rfl⟩, trivial⟩) (trivial) (trivial) (trivial) rfl) trivial rfl ?_
              refine .q (op_move rfl) trivial rfl ?_
              refine .q (op_move rfl) trivial rfl ?_
              refine .a (op_call (U := [(1032, some ⟨.aggI (dg ((A * B % fp))), 3, true⟩)]) [(500, 1008), (501, 1024)] [(1032, 1000)] (mul05 (A) (B) (by first | assumption | exact Nat.mod_lt _ fp_pos' | exact fmod_lt _ | exact ofV_lt _ | exact fp_pos' | exact pw_lt _ _ _ | decide) (by first | assumption | exact Nat.mod_lt _ fp_pos' | exact fmod_lt _ | exact ofV_lt _ | exact fp_pos' | exact pw_lt _ _ _ | decide)) Tryd.func25 (by kernel_rfl) rfl rfl rfl (⟨⟨_, rfl, rfl, rfl⟩, ⟨_, rfl, rfl, rfl⟩, trivial⟩) (⟨⟨_, _, rfl, rfl, rfl, rfl, (fun h => by cases h), rfl⟩, ⟨_, _, rfl, rfl, rfl, rfl, (fun h => by cases h), rfl⟩, trivial⟩) (⟨⟨1000, _, rfl, rfl, rfl, rfl, .inl rfl⟩, trivial⟩) (⟨(fun h => by cases h), (fun h => by cases h), trivial⟩) rfl) trivial rfl ?_
              refine .w (op_storeRow sz47 rfl rfl rfl rfl rfl (rfl) (rfl)) trivial rfl ?_
              refine .q (op_assign rfl) trivial rfl ?_
              refine .nil ?_
              show Ev _ _ _ _ _
              refine .seq ?_
              refine .region ?_
              refine .q (op_loadRow Tryd.underlying47 rfl sz47 rfl rfl rfl (rfl)) trivial rfl ?_
              refine .q (op_move rfl) trivial rfl ?_
              refine .q (op_call (U := []) [(500, 1032)] [] (is_ev ((A * B % fp))) Tryd.func28 (by kernel_rfl) rfl rfl rfl (⟨⟨_, rfl, rfl, rfl⟩, ⟨_, rfl, rfl, rfl⟩, trivial⟩) (⟨⟨_, _, rfl, rfl, rfl, rfl, (fun h => by cases h), rfl⟩, trivial⟩) (trivial) (⟨(fun h => by cases h), trivial⟩) rfl) trivial rfl ?_
              refine .q (op_notB rfl) trivial rfl ?_
              refine .nil ?_
              show Ev _ _ _ _ _
              refine .cond_false rfl (rfl) ?_
              refine .skip ?_
              show Ev _ _ _ _ _
              refine .region ?_
              refine .q (op_move rfl) trivial rfl ?_
              refine .q (op_addI rfl rfl ⟨by first | omega | (simp only [AV.len]; omega) | (simp only [AV.len, List.length_set]; omega) | assumption | (simp [AV.len]; done), by first | omega | (simp only [AV.len]; omega) | (simp only [AV.len, List.length_set]; omega) | assumption | (simp [AV.len]; done)⟩) trivial rfl ?_
              refine .q (op_assign rfl) trivial rfl ?_
              refine .nil ?_
              exact ⟨⟨(i + 1, (A * B % fp), B), by omega, by omega, (by first | assumption | exact fmod_lt _ | exact ofV_lt _ | exact fp_pos | decide), (by first | assumption | exact fmod_lt _ | exact ofV_lt _ | exact fp_pos | decide)⟩, by (try dsimp only); omega, StLe.mk [(1000, 1000), (1008, 1032), (1016, 1016), (1024, 1024)] rfl rfl ⟨⟨_, rfl, by first | rfl | (simp only [AV.ren]; congr 1; omega), rfl⟩, ⟨_, rfl, by first | rfl | (simp only [AV.ren]; congr 1; omega), rfl⟩, ⟨_, rfl, by first | rfl | (simp only [AV.ren]; congr 1; omega), rfl⟩, ⟨_, rfl, by first | rfl | (simp only [AV.ren]; congr 1; omega), rfl⟩, ⟨_, rfl, by first | rfl | (simp only [AV.ren]; congr 1; omega), rfl⟩, ⟨_, rfl, by first | rfl | (simp only [AV.ren]; congr 1; omega), rfl⟩, trivial⟩ ⟨⟨_, _, rfl, rfl, rfl, rfl, id, rfl⟩, ⟨_, _, rfl, rfl, rfl, rfl, (fun h => by cases h), rfl⟩, ⟨_, _, rfl, rfl, rfl, rfl, id, rfl⟩, ⟨_, _, rfl, rfl, rfl, rfl, (fun h => by cases h), rfl⟩, ⟨_, _, rfl, rfl, rfl, rfl, (fun h => by cases h), rfl⟩, ⟨_, _, rfl, rfl, offC_ren _ o (rowsC_flat (fun _ => rfl) l), rfl, id, offC_nm _ o (rowsC_flat (fun _ => rfl) l)⟩, trivial⟩⟩
            · skip
              refine .seq ?_
              refine .region ?_
              refine .q (op_cmpI rfl rfl rfl) trivial rfl ?_
              refine .q (op_assign rfl) trivial rfl ?_
              refine .nil ?_
              show Ev _ _ _ _ _
              refine .cond rfl (fun hc72 => ?_) (fun hc72 => ?_)
              · skip
                refine .region ?_
                refine .q (op_loadRow Tryd.underlying47 rfl sz47 rfl rfl rfl (rfl)) trivial rfl ?_
                refine .q (op_loadRow Tryd.underlying47 rfl sz47 rfl rfl rfl (rfl)) trivial rfl ?_
                refine .q (op_move rfl) trivial rfl ?_
                refine .q (op_move rfl) trivial rfl ?_
                refine .w (op_storeRow sz47 rfl rfl rfl rfl rfl (rfl) (rfl)) trivial rfl ?_
                refine .w (op_storeRow sz47 rfl rfl rfl rfl rfl (rfl) (rfl)) trivial rfl ?_
                refine .q (op_assign rfl) trivial rfl ?_
                refine .q (op_assign rfl) trivial rfl ?_
                refine .nil ?_
                show Ev _ _ _ _ _
                refine .seq ?_
                refine .region ?_
                refine .q (op_loadRow Tryd.underlying47 rfl sz47 rfl rfl rfl (rfl)) trivial rfl ?_
                refine .q (op_move rfl) trivial rfl ?_
                refine .q (op_call (U := []) [(500, 1024)] [] (is_ev (B)) Tryd.func28 (by kernel_rfl) rfl rfl rfl (⟨⟨_, rfl, rfl, rfl⟩, ⟨_, rfl, rfl, rfl⟩, trivial⟩) (⟨⟨_, _, rfl, rfl, rfl, rfl, (fun h => by cases h), rfl⟩, trivial⟩) (trivial) (⟨(fun h => by cases h), trivial⟩) rfl) trivial rfl ?_
                refine .q (op_notB rfl) trivial rfl ?_
                refine .nil ?_
                show Ev _ _ _ _ _
                refine .cond_false rfl (rfl) ?_
                refine .skip ?_
                show Ev _ _ _ _ _
                refine .region ?_
                refine .q (op_move rfl) trivial rfl ?_
                refine .q (op_addI rfl rfl ⟨by first | omega | (simp only [AV.len]; omega) | (simp only [AV.len, List.length_set]; omega) | assumption | (simp [AV.len]; done), by first | omega | (simp only [AV.len]; omega) | (simp only [AV.len, List.length_set]; omega) | assumption | (simp [AV.len]; done)⟩) trivial rfl ?_
                refine .q (op_assign rfl) trivial rfl ?_
                refine .nil ?_
                exact ⟨⟨(i + 1, B, A), by omega, by omega, (by first | assumption | exact fmod_lt _ | exact ofV_lt _ | exact fp_pos | decide), (by first | assumption | exact fmod_lt _ | exact ofV_lt _ | exact fp_pos | decide)⟩, by (try dsimp only); omega, StLe.mk [(1000, 1000), (1008, 1024), (1016, 1016), (1024, 1008)] rfl rfl ⟨⟨_, rfl, by first | rfl | (simp only [AV.ren]; congr 1; omega), rfl⟩, ⟨_, rfl, by first | rfl | (simp only [AV.ren]; congr 1; omega), rfl⟩, ⟨_, rfl, by first | rfl | (simp only [AV.ren]; congr 1; omega), rfl⟩, ⟨_, rfl, by first | rfl | (simp only [AV.ren]; congr 1; omega), rfl⟩, ⟨_, rfl, by first | rfl | (simp only [AV.ren]; congr 1; omega), rfl⟩, ⟨_, rfl, by first | rfl | (simp only [AV.ren]; congr 1; omega), rfl⟩, trivial⟩ ⟨⟨_, _, rfl, rfl, rfl, rfl, id, rfl⟩, ⟨_, _, rfl, rfl, rfl, rfl, (fun h => by cases h), rfl⟩, ⟨_, _, rfl, rfl, rfl, rfl, id, rfl⟩, ⟨_, _, rfl, rfl, rfl, rfl, (fun h => by cases h), rfl⟩, ⟨_, _, rfl, rfl, rfl, rfl, (fun h => by cases h), rfl⟩, ⟨_, _, rfl, rfl, offC_ren _ o (rowsC_flat (fun _ => rfl) l), rfl, id, offC_nm _ o (rowsC_flat (fun _ => rfl) l)⟩, trivial⟩⟩
              · skip
                refine .seq ?_
                refine .region ?_
                refine .q (op_cmpI rfl rfl rfl) trivial rfl ?_
                refine .q (op_assign rfl) trivial rfl ?_
                refine .nil ?_
                show Ev _ _ _ _ _
                refine .cond rfl (fun hc78 => ?_) (fun hc78 => ?_)
                · skip
                  refine .region ?_
                  refine .q (op_loadRow Tryd.underlying47 rfl sz47 rfl rfl rfl (rfl)) trivial rfl ?_
                  refine .q (op_call (U := []) [] [] (fneg_ev e _ (by first | assumption | exact fmod_lt _ | exact ofV_lt _ | exact fp_pos | decide)) Tryd.func26 (by kernel_rfl) rfl rfl rfl (⟨⟨_, rfl, rfl, rfl⟩, trivial⟩) (⟨⟨_, _, rfl, rfl, rfl, rfl, id, rfl⟩, trivial⟩) (trivial) (⟨(fun h => by cases h), trivial⟩) rfl) trivial rfl ?_
                  refine .q (op_move rfl) trivial rfl ?_
                  refine .a (op_call (U := [(1032, some ⟨.aggI (dg (((fp - A) % fp))), 3, true⟩)]) [(501, 1008)] [(1032, 1000)] (subn05 (A) (by first | assumption | exact Nat.mod_lt _ fp_pos' | exact fmod_lt _ | exact ofV_lt _ | exact fp_pos' | exact pw_lt _ _ _ | decide)) Tryd.func23 (by kernel_rfl) rfl rfl rfl (⟨⟨_, rfl, rfl, rfl⟩, ⟨_, rfl, rfl, rfl⟩, trivial⟩) (⟨⟨_, _, rfl, rfl, rfl, rfl, (fun h => by cases h), rfl⟩, trivial⟩) (⟨⟨1000, _, rfl, rfl, rfl, rfl, .inl rfl⟩, trivial⟩) (⟨(fun h => by cases h), trivial⟩) rfl) trivial rfl ?_
                  refine .w (op_storeRow sz47 rfl rfl rfl rfl rfl (rfl) (rfl)) trivial rfl ?_
                  refine .q (op_assign rfl) trivial rfl ?_
                  refine .nil ?_
                  show Ev _ _ _ _ _
                  refine .seq ?_
                  refine .region ?_
                  refine .q (op_loadRow Tryd.underlying47 rfl sz47 rfl rfl rfl (rfl)) trivial rfl ?_
                  refine .q (op_move rfl) trivial rfl ?_
                  refine .q (op_call (U := []) [(500, 1008)] [] (is_ev (A)) Tryd.func28 (by kernel_rfl) rfl rfl rfl (⟨⟨_, rfl, rfl, rfl⟩, ⟨_, rfl, rfl, rfl⟩, trivial⟩) (⟨⟨_, _, rfl, rfl, rfl, rfl, (fun h => by cases h), rfl⟩, trivial⟩) (trivial) (⟨(fun h => by cases h), trivial⟩) rfl) trivial rfl ?_
                  refine .q (op_notB rfl) trivial rfl ?_
                  refine .nil ?_
                  show Ev _ _ _ _ _
                  refine .cond_false rfl (rfl) ?_
                  refine .skip ?_
                  show Ev _ _ _ _ _
                  refine .region ?_
                  refine .q (op_move rfl) trivial rfl ?_
                  refine .q (op_addI rfl rfl ⟨by first | omega | (simp only [AV.len]; omega) | (simp only [AV.len, List.length_set]; omega) | assumption | (simp [AV.len]; done), by first | omega | (simp only [AV.len]; omega) | (simp only [AV.len, List.length_set]; omega) | assumption | (simp [AV.len]; done)⟩) trivial rfl ?_
                  refine .q (op_assign rfl) trivial rfl ?_
                  refine .nil ?_
                  exact ⟨⟨(i + 1, A, ((fp - A) % fp)), by omega, by omega, (by first | assumption | exact fmod_lt _ | exact ofV_lt _ | exact fp_pos | decide), (by first | assumption | exact fmod_lt _ | exact ofV_lt _ | exact fp_pos | decide)⟩, by (try dsimp only); omega, StLe.mk [(1000, 1000), (1008, 1008), (1016, 1016), (1024, 1032)] rfl rfl ⟨⟨_, rfl, by first | rfl | (simp only [AV.ren]; congr 1; omega), rfl⟩, ⟨_, rfl, by first | rfl | (simp only [AV.ren]; congr 1; omega), rfl⟩, ⟨_, rfl, by first | rfl | (simp only [AV.ren]; congr 1; omega), rfl⟩, ⟨_, rfl, by first | rfl | (simp only [AV.ren]; congr 1; omega), rfl⟩, ⟨_, rfl, by first | rfl | (simp only [AV.ren]; congr 1; omega), rfl⟩, ⟨_, rfl, by first | rfl | (simp only [AV.ren]; congr 1; omega), rfl⟩, trivial⟩ ⟨⟨_, _, rfl, rfl, rfl, rfl, id, rfl⟩, ⟨_, _, rfl, rfl, rfl, rfl, (fun h => by cases h), rfl⟩, ⟨_, _, rfl, rfl, rfl, rfl, id, rfl⟩, ⟨_, _, rfl, rfl, rfl, rfl, (fun h => by cases h), rfl⟩, ⟨_, _, rfl, rfl, rfl, rfl, (fun h => by cases h), rfl⟩, ⟨_, _, rfl, rfl, offC_ren _ o (rowsC_flat (fun _ => rfl) l), rfl, id, offC_nm _ o (rowsC_flat (fun _ => rfl) l)⟩, trivial⟩⟩
                · skip
                  refine .seq ?_
                  refine .region ?_
                  refine .q (op_cmpI rfl rfl rfl) trivial rfl ?_
                  refine .q (op_assign rfl) trivial rfl ?_
                  refine .nil ?_
                  show Ev _ _ _ _ _
                  refine .cond rfl (fun hc84 => ?_) (fun hc84 => ?_)
                  · skip
                    refine .region ?_
                    refine .q (op_loadRow Tryd.underlying47 rfl sz47 rfl rfl rfl (rfl)) trivial rfl ?_
                    refine .q (op_call (U := []) [] [] (fsquare_ev _ (by first | assumption | exact fmod_lt _ | exact ofV_lt _ | exact fp_pos | decide)) Tryd.func27 (by kernel_rfl) rfl rfl rfl (⟨⟨_, rfl, rfl, rfl⟩, trivial⟩) (trivial) (trivial) (trivial) rfl) trivial rfl ?_
                    refine .q (op_move rfl) trivial rfl ?_
                    refine .q (op_move rfl) trivial rfl ?_
                    refine .a (op_call (U := [(1032, some ⟨.aggI (dg ((A * A % fp))), 3, true⟩)]) [(500, 1008)] [(1032, 1000)] (mulsq05 (A) (by first | assumption | exact Nat.mod_lt _ fp_pos' | exact fmod_lt _ | exact ofV_lt _ | exact fp_pos' | exact pw_lt _ _ _ | decide)) Tryd.func25 (by kernel_rfl) rfl rfl rfl (⟨⟨_, rfl, rfl, rfl⟩, ⟨_, rfl, rfl, rfl⟩, trivial⟩) (⟨⟨_, _, rfl, rfl, rfl, rfl, (fun h => by cases h), rfl⟩, trivial⟩) (⟨⟨1000, _, rfl, rfl, rfl, rfl, .inl rfl⟩, trivial⟩) (⟨(fun h => by cases h), trivial⟩) rfl) trivial rfl ?_
                    refine .w (op_storeRow sz47 rfl rfl rfl rfl rfl (rfl) (rfl)) trivial rfl ?_
                    refine .q (op_assign rfl) trivial rfl ?_
                    refine .nil ?_
                    show Ev _ _ _ _ _
                    refine .seq ?_
                    refine .region ?_
                    refine .q (op_loadRow Tryd.underlying47 rfl sz47 rfl rfl rfl (rfl)) trivial rfl ?_
                    refine .q (op_move rfl) trivial rfl ?_
                    refine .q (op_call (U := []) [(500, 1032)] [] (is_ev ((A * A % fp))) Tryd.func28 (by kernel_rfl) rfl rfl rfl (⟨⟨_, rfl, rfl, rfl⟩, ⟨_, rfl, rfl, rfl⟩, trivial⟩) (⟨⟨_, _, rfl, rfl, rfl, rfl, (fun h => by cases h), rfl⟩, trivial⟩) (trivial) (⟨(fun h => by cases h), trivial⟩) rfl) trivial rfl ?_
                    refine .q (op_notB rfl) trivial rfl ?_
                    refine .nil ?_
                    show Ev _ _ _ _ _
                    refine .cond_false rfl (rfl) ?_
                    refine .skip ?_
                    show Ev _ _ _ _ _
                    refine .region ?_
                    refine .q (op_move rfl) trivial rfl ?_
                    refine .q (op_addI rfl rfl ⟨by first | omega | (simp only [AV.len]; omega) | (simp only [AV.len, List.length_set]; omega) | assumption | (simp [AV.len]; done), by first | omega | (simp only [AV.len]; omega) | (simp only [AV.len, List.length_set]; omega) | assumption | (simp [AV.len]; done)⟩) trivial rfl ?_
                    refine .q (op_assign rfl) trivial rfl ?_
                    refine .nil ?_
                    exact ⟨⟨(i + 1, (A * A % fp), B), by omega, by omega, (by first | assumption | exact fmod_lt _ | exact ofV_lt _ | exact fp_pos | decide), (by first | assumption | exact fmod_lt _ | exact ofV_lt _ | exact fp_pos | decide)⟩, by (try dsimp only); omega, StLe.mk [(1000, 1000), (1008, 1032), (1016, 1016), (1024, 1024)] rfl rfl ⟨⟨_, rfl, by first | rfl | (simp only [AV.ren]; congr 1; omega), rfl⟩, ⟨_, rfl, by first | rfl | (simp only [AV.ren]; congr 1; omega), rfl⟩, ⟨_, rfl, by first | rfl | (simp only [AV.ren]; congr 1; omega), rfl⟩, ⟨_, rfl, by first | rfl | (simp only [AV.ren]; congr 1; omega), rfl⟩, ⟨_, rfl, by first | rfl | (simp only [AV.ren]; congr 1; omega), rfl⟩, ⟨_, rfl, by first | rfl | (simp only [AV.ren]; congr 1; omega), rfl⟩, trivial⟩ ⟨⟨_, _, rfl, rfl, rfl, rfl, id, rfl⟩, ⟨_, _, rfl, rfl, rfl, rfl, (fun h => by cases h), rfl⟩, ⟨_, _, rfl, rfl, rfl, rfl, id, rfl⟩, ⟨_, _, rfl, rfl, rfl, rfl, (fun h => by cases h), rfl⟩, ⟨_, _, rfl, rfl, rfl, rfl, (fun h => by cases h), rfl⟩, ⟨_, _, rfl, rfl, offC_ren _ o (rowsC_flat (fun _ => rfl) l), rfl, id, offC_nm _ o (rowsC_flat (fun _ => rfl) l)⟩, trivial⟩⟩
                  · skip
                    refine .seq ?_
                    refine .region ?_
                    refine .q (op_move rfl) trivial rfl ?_
                    refine .q (op_move rfl) trivial rfl ?_
                    refine .q (op_indexAddr (z := 2) Tryd.underlying43 (by kernel_rfl) rfl rfl rfl (show i < l.length by omega)) trivial rfl ?_
                    refine .q (op_fieldAddr (m := 0) Tryd.underlying52 rfl (by kernel_rfl) rfl) trivial rfl ?_
                    refine .as (.ptr 450 (o + i * 2 + 1)) rfl ?_
                    refine .q (op_load Tryd.underlying9 rfl rfl rfl (rows_at (z := 2) (fun _ => rfl) (get_i default (show i < l.length by omega)) (k := 1) rfl) (rows_lt (f := actC) (z := 2) (o := o) (l := l) (i := i) (fun _ => rfl) (by omega) (by decide))) trivial rfl ?_
                    refine .q (op_call (U := []) [] [] (cut_ev (l.getD i default).s 32 (l.getD i default).h (by decide)) Tryd.func12 (by kernel_rfl) rfl rfl rfl (⟨⟨_, rfl, rfl, rfl⟩, ⟨_, rfl, rfl, rfl⟩, trivial⟩) (trivial) (trivial) (trivial) rfl) trivial rfl ?_
                    refine .q (op_assign rfl) trivial rfl ?_
                    refine .nil ?_
                    show Ev _ _ _ _ _
                    refine .region ?_
                    refine .q (op_move rfl) trivial rfl ?_
                    refine .q (op_call (U := []) [] [] (fof_ev _ (by simp only [List.length_take]; omega)) Tryd.func18 (by kernel_rfl) rfl rfl rfl (⟨⟨_, rfl, rfl, rfl⟩, trivial⟩) (trivial) (trivial) (trivial) rfl) trivial rfl ?_
                    refine .q (op_move rfl) trivial rfl ?_
                    refine .a (op_call (U := [(1032, some ⟨.aggI (dg ((ofV ((l.getD i default).s.take 32)))), 3, true⟩)]) [] [(1032, 1000)] (of05 ((l.getD i default).s.take 32) (by simp only [List.length_take]; omega)) Tryd.func19 (by kernel_rfl) rfl rfl rfl (⟨⟨_, rfl, rfl, rfl⟩, trivial⟩) (trivial) (⟨⟨1000, _, rfl, rfl, rfl, rfl, .inl rfl⟩, trivial⟩) (trivial) rfl) trivial rfl ?_
                    refine .w (op_storeRow sz47 rfl rfl rfl rfl rfl (rfl) (rfl)) trivial rfl ?_
                    refine .q (op_assign rfl) trivial rfl ?_
                    refine .nil ?_
                    show Ev _ _ _ _ _
                    refine .seq ?_
                    refine .region ?_
                    refine .q (op_loadRow Tryd.underlying47 rfl sz47 rfl rfl rfl (rfl)) trivial rfl ?_
                    refine .q (op_move rfl) trivial rfl ?_
                    refine .q (op_call (U := []) [(500, 1008)] [] (is_ev (A)) Tryd.func28 (by kernel_rfl) rfl rfl rfl (⟨⟨_, rfl, rfl, rfl⟩, ⟨_, rfl, rfl, rfl⟩, trivial⟩) (⟨⟨_, _, rfl, rfl, rfl, rfl, (fun h => by cases h), rfl⟩, trivial⟩) (trivial) (⟨(fun h => by cases h), trivial⟩) rfl) trivial rfl ?_
                    refine .q (op_notB rfl) trivial rfl ?_
                    refine .nil ?_
                    show Ev _ _ _ _ _
                    refine .cond_false rfl (rfl) ?_
                    refine .skip ?_
                    show Ev _ _ _ _ _
                    refine .region ?_
                    refine .q (op_move rfl) trivial rfl ?_
                    refine .q (op_addI rfl rfl ⟨by first | omega | (simp only [AV.len]; omega) | (simp only [AV.len, List.length_set]; omega) | assumption | (simp [AV.len]; done), by first | omega | (simp only [AV.len]; omega) | (simp only [AV.len, List.length_set]; omega) | assumption | (simp [AV.len]; done)⟩) trivial rfl ?_
                    refine .q (op_assign rfl) trivial rfl ?_
                    refine .nil ?_
                    exact ⟨⟨(i + 1, A, (ofV ((l.getD i default).s.take 32))), by omega, by omega, (by first | assumption | exact fmod_lt _ | exact ofV_lt _ | exact fp_pos | decide), (by first | assumption | exact fmod_lt _ | exact ofV_lt _ | exact fp_pos | decide)⟩, by (try dsimp only); omega, StLe.mk [(1000, 1000), (1008, 1008), (1016, 1016), (1024, 1032)] rfl rfl ⟨⟨_, rfl, by first | rfl | (simp only [AV.ren]; congr 1; omega), rfl⟩, ⟨_, rfl, by first | rfl | (simp only [AV.ren]; congr 1; omega), rfl⟩, ⟨_, rfl, by first | rfl | (simp only [AV.ren]; congr 1; omega), rfl⟩, ⟨_, rfl, by first | rfl | (simp only [AV.ren]; congr 1; omega), rfl⟩, ⟨_, rfl, by first | rfl | (simp only [AV.ren]; congr 1; omega), rfl⟩, ⟨_, rfl, by first | rfl | (simp only [AV.ren]; congr 1; omega), rfl⟩, trivial⟩ ⟨⟨_, _, rfl, rfl, rfl, rfl, id, rfl⟩, ⟨_, _, rfl, rfl, rfl, rfl, (fun h => by cases h), rfl⟩, ⟨_, _, rfl, rfl, rfl, rfl, id, rfl⟩, ⟨_, _, rfl, rfl, rfl, rfl, (fun h => by cases h), rfl⟩, ⟨_, _, rfl, rfl, rfl, rfl, (fun h => by cases h), rfl⟩, ⟨_, _, rfl, rfl, offC_ren _ o (rowsC_flat (fun _ => rfl) l), rfl, id, offC_nm _ o (rowsC_flat (fun _ => rfl) l)⟩, trivial⟩⟩
    · first | replace hc28 := of_decide_eq_true hc28 | replace hc28 := of_decide_eq_false hc28 | replace hc28 := eq_of_beq hc28 | replace hc28 := ne_of_beq_false hc28 | simp only [bne_iff_ne, ne_eq] at hc28 | simp only [bne_eq_false_iff_eq] at hc28
      refine .exit ?_
      show Ev _ _ _ _ _
      refine .seq ?_
      refine .drawn [[], [], [0, 1], [0, 1, 2], [0, 1, 2, 3], [0, 1, 2, 3], [0, 1, 2, 3, 4, 5], [0, 1, 2, 3], [0, 1, 2, 3, 4, 5, 6, 7], [0, 1, 2, 3, 4, 5, 6, 7, 8], [0, 1, 2, 3, 4, 5, 6, 7, 8, 9], [0, 1, 2, 3, 4, 5, 6, 7, 8, 9, 10], [0, 1, 2, 3, 4, 5, 6, 7, 8, 9, 10], [0, 1, 2, 3, 4, 5, 6, 7, 8, 9, 10, 11, 12], [0, 1, 2, 3, 4, 5, 6, 7, 8, 9, 10], [0, 1, 2, 3, 4, 5, 6, 7, 8, 9, 10, 11, 12, 13, 14], [0, 1, 2, 3, 4, 5, 6, 7, 8, 9, 10, 11, 12, 13, 14, 15], [0, 1, 2, 3, 4, 5, 6, 7, 8, 9, 10, 11, 12, 13, 14, 15, 16]] [0, 2, 4, 5, 6, 7, 8, 11, 12, 13, 14, 15] [] (by kernel_rfl) (by kernel_rfl) rfl ?_
      show DK _ [0, 1, 2, 3, 4, 5, 6, 7, 8, 9, 10, 11, 12, 13, 14, 15, 16, 17] _ _ _
      refine .q rfl (op_loadRow Tryd.underlying47 rfl sz47 rfl rfl rfl (rfl)) trivial ?_
      refine .q rfl (op_move rfl) trivial ?_
      refine .q rfl (op_call (U := []) [(500, 1024)] [] (is_ev (B)) Tryd.func28 (by kernel_rfl) rfl rfl rfl (⟨⟨_, rfl, rfl, rfl⟩, ⟨_, rfl, rfl, rfl⟩, trivial⟩) (⟨⟨_, _, rfl, rfl, rfl, rfl, (fun h => by cases h), rfl⟩, trivial⟩) (trivial) (⟨(fun h => by cases h), trivial⟩) rfl) trivial ?_
      refine .q rfl (op_move rfl) trivial ?_
      refine .know (b' := true) (rfl) ?_
      refine .q rfl (op_loadRow Tryd.underlying47 rfl sz47 rfl rfl rfl (rfl)) ⟨_, rfl, rfl⟩ ?_
      refine .q rfl (op_loadRow Tryd.underlying47 rfl sz47 rfl rfl rfl (rfl)) ⟨_, rfl, rfl⟩ ?_
      refine .q rfl (op_call (U := []) [] [] (fchoose_ev true A B) Tryd.func30 (by kernel_rfl) rfl rfl rfl (⟨⟨_, rfl, rfl, rfl⟩, ⟨_, rfl, rfl, rfl⟩, ⟨_, rfl, rfl, rfl⟩, trivial⟩) (trivial) (trivial) (trivial) rfl) ⟨_, rfl, rfl⟩ ?_
      refine .q rfl (op_loadRow Tryd.underlying47 rfl sz47 rfl rfl rfl (rfl)) ⟨_, rfl, rfl⟩ ?_
      refine .q rfl (op_call (U := []) [] [] (fsame_ev _ _ (by first | assumption | exact fmod_lt _ | exact ofV_lt _ | exact fp_pos | decide) (by first | assumption | exact fmod_lt _ | exact ofV_lt _ | exact fp_pos | decide)) Tryd.func29 (by kernel_rfl) rfl rfl rfl (⟨⟨_, rfl, rfl, rfl⟩, ⟨_, rfl, rfl, rfl⟩, trivial⟩) (trivial) (trivial) (trivial) rfl) ⟨_, rfl, rfl⟩ ?_
      refine .q rfl (op_pick_true rfl rfl rfl) trivial ?_
      refine .q rfl (op_move rfl) trivial ?_
      refine .know (b' := true) (decide_eq_true rfl) ?_
      refine .q rfl (op_loadRow Tryd.underlying47 rfl sz47 rfl rfl rfl (rfl)) ⟨_, rfl, rfl⟩ ?_
      refine .q rfl (op_loadRow Tryd.underlying47 rfl sz47 rfl rfl rfl (rfl)) ⟨_, rfl, rfl⟩ ?_
      refine .q rfl (op_call (U := []) [] [] (fchoose_ev false A B) Tryd.func30 (by kernel_rfl) rfl rfl rfl (⟨⟨_, rfl, rfl, rfl⟩, ⟨_, rfl, rfl, rfl⟩, ⟨_, rfl, rfl, rfl⟩, trivial⟩) (trivial) (trivial) (trivial) rfl) ⟨_, rfl, rfl⟩ ?_
      refine .q rfl (op_loadRow Tryd.underlying47 rfl sz47 rfl rfl rfl (rfl)) ⟨_, rfl, rfl⟩ ?_
      refine .q rfl (op_call (U := []) [] [] (fsame_ev _ _ (by first | assumption | exact fmod_lt _ | exact ofV_lt _ | exact fp_pos | decide) (by first | assumption | exact fmod_lt _ | exact ofV_lt _ | exact fp_pos | decide)) Tryd.func29 (by kernel_rfl) rfl rfl rfl (⟨⟨_, rfl, rfl, rfl⟩, ⟨_, rfl, rfl, rfl⟩, trivial⟩) (trivial) (trivial) (trivial) rfl) ⟨_, rfl, rfl⟩ ?_
      refine .q rfl (op_pick_true rfl rfl rfl) trivial ?_
      refine .q rfl (op_assign rfl) trivial ?_
      refine .nil ?_
      show Ev _ _ _ _ _
      refine .ret ?_
      show RetOk _ _ _ _ _ _ _
      exact ret1v rfl (.inl rfl) rfl (congrArg AV.bool (decide_eq_true rfl)) trivial
  · first | replace hg25 := of_decide_eq_true hg25 | replace hg25 := of_decide_eq_false hg25 | replace hg25 := eq_of_beq hg25 | replace hg25 := ne_of_beq_false hg25 | simp only [bne_iff_ne, ne_eq] at hg25 | simp only [bne_eq_false_iff_eq] at hg25
    refine .no ⟨_, rfl, rfl⟩ rfl ?_
    refine .no ⟨_, rfl, rfl⟩ rfl ?_
    refine .q (op_pick_false rfl rfl rfl) trivial rfl ?_
    refine .nil ?_
    show Ev _ _ _ _ _
    refine .cond_false rfl rfl ?_
    refine .exit ?_
    show Ev _ _ _ _ _
    refine .seq ?_
    refine .drawn [[], [], [0, 1], [0, 1, 2], [0, 1, 2, 3], [0, 1, 2, 3], [0, 1, 2, 3, 4, 5], [0, 1, 2, 3], [0, 1, 2, 3, 4, 5, 6, 7], [0, 1, 2, 3, 4, 5, 6, 7, 8], [0, 1, 2, 3, 4, 5, 6, 7, 8, 9], [0, 1, 2, 3, 4, 5, 6, 7, 8, 9, 10], [0, 1, 2, 3, 4, 5, 6, 7, 8, 9, 10], [0, 1, 2, 3, 4, 5, 6, 7, 8, 9, 10, 11, 12], [0, 1, 2, 3, 4, 5, 6, 7, 8, 9, 10], [0, 1, 2, 3, 4, 5, 6, 7, 8, 9, 10, 11, 12, 13, 14], [0, 1, 2, 3, 4, 5, 6, 7, 8, 9, 10, 11, 12, 13, 14, 15], [0, 1, 2, 3, 4, 5, 6, 7, 8, 9, 10, 11, 12, 13, 14, 15, 16]] [0, 2, 4, 5, 6, 7, 8, 11, 12, 13, 14, 15] [] (by kernel_rfl) (by kernel_rfl) rfl ?_
    show DK _ [0, 1, 2, 3, 4, 5, 6, 7, 8, 9, 10, 11, 12, 13, 14, 15, 16, 17] _ _ _
    refine .q rfl (op_loadRow Tryd.underlying47 rfl sz47 rfl rfl rfl (rfl)) trivial ?_
    refine .q rfl (op_move rfl) trivial ?_
    refine .q rfl (op_call (U := []) [(500, 1024)] [] (is_ev (B)) Tryd.func28 (by kernel_rfl) rfl rfl rfl (⟨⟨_, rfl, rfl, rfl⟩, ⟨_, rfl, rfl, rfl⟩, trivial⟩) (⟨⟨_, _, rfl, rfl, rfl, rfl, (fun h => by cases h), rfl⟩, trivial⟩) (trivial) (⟨(fun h => by cases h), trivial⟩) rfl) trivial ?_
    refine .q rfl (op_move rfl) trivial ?_
    refine .know (b' := true) (rfl) ?_
    refine .q rfl (op_loadRow Tryd.underlying47 rfl sz47 rfl rfl rfl (rfl)) ⟨_, rfl, rfl⟩ ?_
    refine .q rfl (op_loadRow Tryd.underlying47 rfl sz47 rfl rfl rfl (rfl)) ⟨_, rfl, rfl⟩ ?_
    refine .q rfl (op_call (U := []) [] [] (fchoose_ev true A B) Tryd.func30 (by kernel_rfl) rfl rfl rfl (⟨⟨_, rfl, rfl, rfl⟩, ⟨_, rfl, rfl, rfl⟩, ⟨_, rfl, rfl, rfl⟩, trivial⟩) (trivial) (trivial) (trivial) rfl) ⟨_, rfl, rfl⟩ ?_
    refine .q rfl (op_loadRow Tryd.underlying47 rfl sz47 rfl rfl rfl (rfl)) ⟨_, rfl, rfl⟩ ?_
    refine .q rfl (op_call (U := []) [] [] (fsame_ev _ _ (by first | assumption | exact fmod_lt _ | exact ofV_lt _ | exact fp_pos | decide) (by first | assumption | exact fmod_lt _ | exact ofV_lt _ | exact fp_pos | decide)) Tryd.func29 (by kernel_rfl) rfl rfl rfl (⟨⟨_, rfl, rfl, rfl⟩, ⟨_, rfl, rfl, rfl⟩, trivial⟩) (trivial) (trivial) (trivial) rfl) ⟨_, rfl, rfl⟩ ?_
    refine .q rfl (op_pick_true rfl rfl rfl) trivial ?_
    refine .q rfl (op_move rfl) trivial ?_
    refine .know (b' := true) (decide_eq_true rfl) ?_
    refine .q rfl (op_loadRow Tryd.underlying47 rfl sz47 rfl rfl rfl (rfl)) ⟨_, rfl, rfl⟩ ?_
    refine .q rfl (op_loadRow Tryd.underlying47 rfl sz47 rfl rfl rfl (rfl)) ⟨_, rfl, rfl⟩ ?_
    refine .q rfl (op_call (U := []) [] [] (fchoose_ev false A B) Tryd.func30 (by kernel_rfl) rfl rfl rfl (⟨⟨_, rfl, rfl, rfl⟩, ⟨_, rfl, rfl, rfl⟩, ⟨_, rfl, rfl, rfl⟩, trivial⟩) (trivial) (trivial) (trivial) rfl) ⟨_, rfl, rfl⟩ ?_
    refine .q rfl (op_loadRow Tryd.underlying47 rfl sz47 rfl rfl rfl (rfl)) ⟨_, rfl, rfl⟩ ?_
    refine .q rfl (op_call (U := []) [] [] (fsame_ev _ _ (by first | assumption | exact fmod_lt _ | exact ofV_lt _ | exact fp_pos | decide) (by first | assumption | exact fmod_lt _ | exact ofV_lt _ | exact fp_pos | decide)) Tryd.func29 (by kernel_rfl) rfl rfl rfl (⟨⟨_, rfl, rfl, rfl⟩, ⟨_, rfl, rfl, rfl⟩, trivial⟩) (trivial) (trivial) (trivial) rfl) ⟨_, rfl, rfl⟩ ?_
    refine .q rfl (op_pick_true rfl rfl rfl) trivial ?_
    refine .q rfl (op_assign rfl) trivial ?_
    refine .nil ?_
    show Ev _ _ _ _ _
    refine .ret ?_
    show RetOk _ _ _ _ _ _ _
    exact ret1v rfl (.inl rfl) rfl (congrArg AV.bool (decide_eq_true rfl)) trivial
end Go.Proofs.YtgblhjmnenmlkaaDoor
