/-
  The scalars of the program, walked.
-/
import Derived.Test.YteefpaiefphdpaaDoorGS
import Derived.Test.YteefpaiefphdpaaDoorGY
import Derived.Test.YteefpaiefphdpaaDoorGK
namespace Go.Proofs.YteefpaiefphdpaaDoor
open Go.RowKit
theorem unsB_hi {q : List UInt8} (h0 : q ≠ []) (h : 127 < q.getD 0 0) : unsB q = 0 :: q := by
  unfold unsB
  rw [if_neg h0, if_neg (fun h1 => by
    rw [UInt8.lt_iff_toNat_lt] at h h1
    have e1 : (127 : UInt8).toNat = 127 := rfl
    have e2 : (128 : UInt8).toNat = 128 := rfl
    omega)]
theorem unsB_lo {q : List UInt8} (h : ¬ 127 < q.getD 0 0) : unsB q = q := by
  unfold unsB
  split
  · next h0 => exact h0.symm
  · rw [if_pos (by
      rw [UInt8.lt_iff_toNat_lt] at h ⊢
      have e1 : (127 : UInt8).toNat = 127 := rfl
      have e2 : (128 : UInt8).toNat = 128 := rfl
      omega)]
theorem unsB_nil {q : List UInt8} (h : q = []) : unsB q = q := by subst h; rfl
set_option maxRecDepth 100000 in
theorem rbigB_ev (s : List UInt8) (hs : s.length ≤ 900000) : Meets Tryd.prog 109 [.str s] [] (.str (textR (unsB (shortB s)))) [] := by
  refine meets_of_ev (nt := 25) Tryd.func109 rfl rfl (Nat.le_of_ble_eq_true rfl) ?_
  refine .seq ?_
  refine .region ?_
  refine .q (op_assign rfl) trivial rfl ?_
  refine .nil ?_
  show Ev _ _ _ _ _
  refine .seq ?_
  refine .block ?_
  refine Ev.loop (ι := { q : List UInt8 // shortB q = shortB s ∧ q.length ≤ s.length }) (fun q => ⟨[(0, .str q.1)], [], 1000⟩) (fun q => q.1.length) ⟨s, rfl, Nat.le_refl _⟩ (StLe.mk [] rfl rfl ⟨⟨_, rfl, by first | rfl | (simp only [AV.ren]; congr 1; omega), rfl⟩, trivial⟩ trivial) ?_
  rintro ⟨q, hq, hql⟩
  try dsimp only
  refine .seq ?_
  refine .seq ?_
  refine .region ?_
  refine .q (op_move rfl) trivial rfl ?_
  refine .q (op_eqS rfl rfl rfl) trivial rfl ?_
  refine .q (op_move rfl) trivial rfl ?_
  refine .split (fun hg5 => ?_) (fun hg5 => ?_)
  · first | replace hg5 := of_decide_eq_true hg5 | replace hg5 := of_decide_eq_false hg5 | replace hg5 := eq_of_beq hg5 | replace hg5 := ne_of_beq_false hg5 | simp only [bne_iff_ne, ne_eq] at hg5 | simp only [bne_eq_false_iff_eq] at hg5
    refine .q (op_move rfl) ⟨_, rfl, rfl⟩ rfl ?_
    refine .q (op_index_str Tryd.underlying9 rfl rfl rfl (by have := List.length_pos_iff.2 hg5; omega)) ⟨_, rfl, rfl⟩ rfl ?_
    refine .q (op_bin8 rfl rfl rfl) ⟨_, rfl, rfl⟩ rfl ?_
    refine .q (op_pick_true rfl rfl rfl) trivial rfl ?_
    refine .nil ?_
    show Ev _ _ _ _ _
    refine .cond rfl (fun hc9 => ?_) (fun hc9 => ?_)
    · first | replace hc9 := of_decide_eq_true hc9 | replace hc9 := of_decide_eq_false hc9 | replace hc9 := eq_of_beq hc9 | replace hc9 := ne_of_beq_false hc9 | simp only [bne_iff_ne, ne_eq] at hc9 | simp only [bne_eq_false_iff_eq] at hc9
      refine .skip ?_
      show Ev _ _ _ _ _
      refine .block ?_
      refine .region ?_
      refine .q (op_move rfl) trivial rfl ?_
      refine .q (ap_slice_str_lo Tryd.underlying9 rfl (bnd_some rfl rfl) (by show 1 ≤ q.length; have := List.length_pos_iff.2 hg5; omega)) trivial rfl ?_
      refine .q (op_assign rfl) trivial rfl ?_
      refine .nil ?_
      exact ⟨⟨q.drop 1, (shortB_zero (List.length_pos_iff.2 hg5) hc9).trans hq, by simp only [List.length_drop]; omega⟩, by (try dsimp only); (have := List.length_pos_iff.2 hg5; simp only [List.length_drop]; omega), StLe.mk [] rfl rfl ⟨⟨_, rfl, by first | rfl | (simp only [AV.ren]; congr 1; omega), rfl⟩, trivial⟩ trivial⟩
    · first | replace hc9 := of_decide_eq_true hc9 | replace hc9 := of_decide_eq_false hc9 | replace hc9 := eq_of_beq hc9 | replace hc9 := ne_of_beq_false hc9 | simp only [bne_iff_ne, ne_eq] at hc9 | simp only [bne_eq_false_iff_eq] at hc9
      refine .exit ?_
      show Ev _ _ _ _ _
      refine .seq ?_
      refine .seq ?_
      refine .region ?_
      refine .q (op_move rfl) trivial rfl ?_
      refine .q (op_eqS rfl rfl rfl) trivial rfl ?_
      refine .q (op_move rfl) trivial rfl ?_
      refine .split (fun hg14 => ?_) (fun hg14 => ?_)
      · first | replace hg14 := of_decide_eq_true hg14 | replace hg14 := of_decide_eq_false hg14 | replace hg14 := eq_of_beq hg14 | replace hg14 := ne_of_beq_false hg14 | simp only [bne_iff_ne, ne_eq] at hg14 | simp only [bne_eq_false_iff_eq] at hg14
        refine .q (op_move rfl) ⟨_, rfl, rfl⟩ rfl ?_
        refine .q (op_index_str Tryd.underlying9 rfl rfl rfl (by have := List.length_pos_iff.2 hg14; omega)) ⟨_, rfl, rfl⟩ rfl ?_
        refine .q (op_bin8 rfl rfl rfl) ⟨_, rfl, rfl⟩ rfl ?_
        refine .q (op_pick_true rfl rfl rfl) trivial rfl ?_
        refine .nil ?_
        show Ev _ _ _ _ _
        refine .cond rfl (fun hc18 => ?_) (fun hc18 => ?_)
        · first | replace hc18 := of_decide_eq_true hc18 | replace hc18 := of_decide_eq_false hc18 | replace hc18 := eq_of_beq hc18 | replace hc18 := ne_of_beq_false hc18 | simp only [bne_iff_ne, ne_eq] at hc18 | simp only [bne_eq_false_iff_eq] at hc18
          refine .region ?_
          refine .a (ap_build (us := [_]) (c := .aggB [_]) Tryd.underlying32 inf5 rfl (by decide) (by decide) ⟨rfl, rfl, rfl, trivial⟩ rfl) trivial rfl ?_
          refine .q (op_bytes_str Tryd.underlying32 Tryd.underlying5 Tryd.underlying9 rfl rfl rfl (by first | omega | (skip; omega) | (skip; omega) | assumption | (simp; done))) trivial rfl ?_
          refine .as (.str [0]) rfl ?_
          refine .q (op_move rfl) trivial rfl ?_
          refine .q (op_addS rfl rfl (by simp only [List.length_cons, List.length_nil]; omega)) trivial rfl ?_
          refine .q (op_assign rfl) trivial rfl ?_
          refine .nil ?_
          show Ev _ _ _ _ _
          refine .seq ?_
          refine .region ?_
          refine .q (op_move rfl) trivial rfl ?_
          refine .q (op_call (U := []) [] [] (rtextB_ev _ (by first | omega | (simp only [List.length_append, List.length_cons, List.length_nil]; omega))) Tryd.func110 (by kernel_rfl) rfl rfl rfl (⟨⟨_, rfl, rfl, rfl⟩, trivial⟩) (trivial) (trivial) (trivial) rfl) trivial rfl ?_
          refine .q (op_assign rfl) trivial rfl ?_
          refine .nil ?_
          show Ev _ _ _ _ _
          refine .ret ?_
          show RetOk _ _ _ _ _ _ _
          exact ret1v rfl (.inl rfl) rfl (congrArg (fun z => AV.str (textR z)) (by rw [← hq, show shortB q = q by first | exact shortB_stop hc9 | (rw [bne_eq_false_iff_eq.1 hg5]; rfl)]; first | exact (unsB_hi hg14 hc18).symm | exact (unsB_lo hc18).symm | exact (unsB_nil (bne_eq_false_iff_eq.1 hg14)).symm)) trivial
        · first | replace hc18 := of_decide_eq_true hc18 | replace hc18 := of_decide_eq_false hc18 | replace hc18 := eq_of_beq hc18 | replace hc18 := ne_of_beq_false hc18 | simp only [bne_iff_ne, ne_eq] at hc18 | simp only [bne_eq_false_iff_eq] at hc18
          refine .skip ?_
          show Ev _ _ _ _ _
          refine .seq ?_
          refine .region ?_
          refine .q (op_move rfl) trivial rfl ?_
          refine .q (op_call (U := []) [] [] (rtextB_ev _ (by first | omega | (simp only [List.length_append, List.length_cons, List.length_nil]; omega))) Tryd.func110 (by kernel_rfl) rfl rfl rfl (⟨⟨_, rfl, rfl, rfl⟩, trivial⟩) (trivial) (trivial) (trivial) rfl) trivial rfl ?_
          refine .q (op_assign rfl) trivial rfl ?_
          refine .nil ?_
          show Ev _ _ _ _ _
          refine .ret ?_
          show RetOk _ _ _ _ _ _ _
          exact ret1v rfl (.inl rfl) rfl (congrArg (fun z => AV.str (textR z)) (by rw [← hq, show shortB q = q by first | exact shortB_stop hc9 | (rw [bne_eq_false_iff_eq.1 hg5]; rfl)]; first | exact (unsB_hi hg14 hc18).symm | exact (unsB_lo hc18).symm | exact (unsB_nil (bne_eq_false_iff_eq.1 hg14)).symm)) trivial
      · first | replace hg14 := of_decide_eq_true hg14 | replace hg14 := of_decide_eq_false hg14 | replace hg14 := eq_of_beq hg14 | replace hg14 := ne_of_beq_false hg14 | simp only [bne_iff_ne, ne_eq] at hg14 | simp only [bne_eq_false_iff_eq] at hg14
        refine .no ⟨_, rfl, rfl⟩ rfl ?_
        refine .no ⟨_, rfl, rfl⟩ rfl ?_
        refine .no ⟨_, rfl, rfl⟩ rfl ?_
        refine .q (op_pick_false rfl rfl rfl) trivial rfl ?_
        refine .nil ?_
        show Ev _ _ _ _ _
        refine .cond_false rfl rfl ?_
        refine .skip ?_
        show Ev _ _ _ _ _
        refine .seq ?_
        refine .region ?_
        refine .q (op_move rfl) trivial rfl ?_
        refine .q (op_call (U := []) [] [] (rtextB_ev _ (by first | omega | (simp only [List.length_append, List.length_cons, List.length_nil]; omega))) Tryd.func110 (by kernel_rfl) rfl rfl rfl (⟨⟨_, rfl, rfl, rfl⟩, trivial⟩) (trivial) (trivial) (trivial) rfl) trivial rfl ?_
        refine .q (op_assign rfl) trivial rfl ?_
        refine .nil ?_
        show Ev _ _ _ _ _
        refine .ret ?_
        show RetOk _ _ _ _ _ _ _
        exact ret1v rfl (.inl rfl) rfl (congrArg (fun z => AV.str (textR z)) (by rw [← hq, show shortB q = q by first | exact shortB_stop hc9 | (rw [bne_eq_false_iff_eq.1 hg5]; rfl)]; first | exact (unsB_hi hg14 hc18).symm | exact (unsB_lo hc18).symm | exact (unsB_nil (bne_eq_false_iff_eq.1 hg14)).symm)) trivial
  · first | replace hg5 := of_decide_eq_true hg5 | replace hg5 := of_decide_eq_false hg5 | replace hg5 := eq_of_beq hg5 | replace hg5 := ne_of_beq_false hg5 | simp only [bne_iff_ne, ne_eq] at hg5 | simp only [bne_eq_false_iff_eq] at hg5
    refine .no ⟨_, rfl, rfl⟩ rfl ?_
    refine .no ⟨_, rfl, rfl⟩ rfl ?_
    refine .no ⟨_, rfl, rfl⟩ rfl ?_
    refine .q (op_pick_false rfl rfl rfl) trivial rfl ?_
    refine .nil ?_
    show Ev _ _ _ _ _
    refine .cond_false rfl rfl ?_
    refine .exit ?_
    show Ev _ _ _ _ _
    refine .seq ?_
    refine .seq ?_
    refine .region ?_
    refine .q (op_move rfl) trivial rfl ?_
    refine .q (op_eqS rfl rfl rfl) trivial rfl ?_
    refine .q (op_move rfl) trivial rfl ?_
    refine .split (fun hg14 => ?_) (fun hg14 => ?_)
    · first | replace hg14 := of_decide_eq_true hg14 | replace hg14 := of_decide_eq_false hg14 | replace hg14 := eq_of_beq hg14 | replace hg14 := ne_of_beq_false hg14 | simp only [bne_iff_ne, ne_eq] at hg14 | simp only [bne_eq_false_iff_eq] at hg14
      refine .q (op_move rfl) ⟨_, rfl, rfl⟩ rfl ?_
      refine .q (op_index_str Tryd.underlying9 rfl rfl rfl (by have := List.length_pos_iff.2 hg14; omega)) ⟨_, rfl, rfl⟩ rfl ?_
      refine .q (op_bin8 rfl rfl rfl) ⟨_, rfl, rfl⟩ rfl ?_
      refine .q (op_pick_true rfl rfl rfl) trivial rfl ?_
      refine .nil ?_
      show Ev _ _ _ _ _
      refine .cond rfl (fun hc18 => ?_) (fun hc18 => ?_)
      · first | replace hc18 := of_decide_eq_true hc18 | replace hc18 := of_decide_eq_false hc18 | replace hc18 := eq_of_beq hc18 | replace hc18 := ne_of_beq_false hc18 | simp only [bne_iff_ne, ne_eq] at hc18 | simp only [bne_eq_false_iff_eq] at hc18
        refine .region ?_
        refine .a (ap_build (us := [_]) (c := .aggB [_]) Tryd.underlying32 inf5 rfl (by decide) (by decide) ⟨rfl, rfl, rfl, trivial⟩ rfl) trivial rfl ?_
        refine .q (op_bytes_str Tryd.underlying32 Tryd.underlying5 Tryd.underlying9 rfl rfl rfl (by first | omega | (skip; omega) | (skip; omega) | assumption | (simp; done))) trivial rfl ?_
        refine .as (.str [0]) rfl ?_
        refine .q (op_move rfl) trivial rfl ?_
        refine .q (op_addS rfl rfl (by simp only [List.length_cons, List.length_nil]; omega)) trivial rfl ?_
        refine .q (op_assign rfl) trivial rfl ?_
        refine .nil ?_
        show Ev _ _ _ _ _
        refine .seq ?_
        refine .region ?_
        refine .q (op_move rfl) trivial rfl ?_
        refine .q (op_call (U := []) [] [] (rtextB_ev _ (by first | omega | (simp only [List.length_append, List.length_cons, List.length_nil]; omega))) Tryd.func110 (by kernel_rfl) rfl rfl rfl (⟨⟨_, rfl, rfl, rfl⟩, trivial⟩) (trivial) (trivial) (trivial) rfl) trivial rfl ?_
        refine .q (op_assign rfl) trivial rfl ?_
        refine .nil ?_
        show Ev _ _ _ _ _
        refine .ret ?_
        show RetOk _ _ _ _ _ _ _
        exact ret1v rfl (.inl rfl) rfl (congrArg (fun z => AV.str (textR z)) (by rw [← hq, show shortB q = q by first | exact shortB_stop hc9 | (rw [bne_eq_false_iff_eq.1 hg5]; rfl)]; first | exact (unsB_hi hg14 hc18).symm | exact (unsB_lo hc18).symm | exact (unsB_nil (bne_eq_false_iff_eq.1 hg14)).symm)) trivial
      · first | replace hc18 := of_decide_eq_true hc18 | replace hc18 := of_decide_eq_false hc18 | replace hc18 := eq_of_beq hc18 | replace hc18 := ne_of_beq_false hc18 | simp only [bne_iff_ne, ne_eq] at hc18 | simp only [bne_eq_false_iff_eq] at hc18
        refine .skip ?_
        show Ev _ _ _ _ _
        refine .seq ?_
        refine .region ?_
        refine .q (op_move rfl) trivial rfl ?_
        refine .q (op_call (U := []) [] [] (rtextB_ev _ (by first | omega | (simp only [List.length_append, List.length_cons, List.length_nil]; omega))) Tryd.func110 (by kernel_rfl) rfl rfl rfl (⟨⟨_, rfl, rfl, rfl⟩, trivial⟩) (trivial) (trivial) (trivial) rfl) trivial rfl ?_
        refine .q (op_assign rfl) trivial rfl ?_
        refine .nil ?_
        show Ev _ _ _ _ _
        refine .ret ?_
        show RetOk _ _ _ _ _ _ _
        exact ret1v rfl (.inl rfl) rfl (congrArg (fun z => AV.str (textR z)) (by rw [← hq, show shortB q = q by first | exact shortB_stop hc9 | (rw [bne_eq_false_iff_eq.1 hg5]; rfl)]; first | exact (unsB_hi hg14 hc18).symm | exact (unsB_lo hc18).symm | exact (unsB_nil (bne_eq_false_iff_eq.1 hg14)).symm)) trivial
    · first | replace hg14 := of_decide_eq_true hg14 | replace hg14 := of_decide_eq_false hg14 | replace hg14 := eq_of_beq hg14 | replace hg14 := ne_of_beq_false hg14 | simp only [bne_iff_ne, ne_eq] at hg14 | simp only [bne_eq_false_iff_eq] at hg14
      refine .no ⟨_, rfl, rfl⟩ rfl ?_
      refine .no ⟨_, rfl, rfl⟩ rfl ?_
      refine .no ⟨_, rfl, rfl⟩ rfl ?_
      refine .q (op_pick_false rfl rfl rfl) trivial rfl ?_
      refine .nil ?_
      show Ev _ _ _ _ _
      refine .cond_false rfl rfl ?_
      refine .skip ?_
      show Ev _ _ _ _ _
      refine .seq ?_
      refine .region ?_
      refine .q (op_move rfl) trivial rfl ?_
      refine .q (op_call (U := []) [] [] (rtextB_ev _ (by first | omega | (simp only [List.length_append, List.length_cons, List.length_nil]; omega))) Tryd.func110 (by kernel_rfl) rfl rfl rfl (⟨⟨_, rfl, rfl, rfl⟩, trivial⟩) (trivial) (trivial) (trivial) rfl) trivial rfl ?_
      refine .q (op_assign rfl) trivial rfl ?_
      refine .nil ?_
      show Ev _ _ _ _ _
      refine .ret ?_
      show RetOk _ _ _ _ _ _ _
      exact ret1v rfl (.inl rfl) rfl (congrArg (fun z => AV.str (textR z)) (by rw [← hq, show shortB q = q by first | exact shortB_stop hc9 | (rw [bne_eq_false_iff_eq.1 hg5]; rfl)]; first | exact (unsB_hi hg14 hc18).symm | exact (unsB_lo hc18).symm | exact (unsB_nil (bne_eq_false_iff_eq.1 hg14)).symm)) trivial
theorem textR_inj {a b : List UInt8} (h : textR a = textR b) : a = b :=
  (List.append_inj h (by simp only [lenR, length_tlB])).2
theorem big_hi {s : List UInt8} (h0 : s ≠ []) (h : 127 < s.getD 0 0) : unsB (shortB s) ≠ s ∧ unsB (shortB s) = 0 :: s := by
  have e : shortB s = s := shortB_stop (fun h1 => by
    rw [h1, UInt8.lt_iff_toNat_lt] at h
    exact absurd h (by decide))
  rw [e, unsB_hi h0 h]
  exact ⟨fun h => by have := congrArg List.length h; simp at this, rfl⟩
theorem big_mid {s : List UInt8} (h : ¬ 127 < s.getD 0 0) (hz : ¬ s.getD 0 0 = 0) : unsB (shortB s) = s ∧ shortB s = s := by
  have e : shortB s = s := shortB_stop hz
  rw [e, unsB_lo h]
  exact ⟨rfl, rfl⟩
theorem big_zero {s : List UInt8} (h0 : s ≠ []) (hz : s.getD 0 0 = 0) : unsB (shortB s) ≠ 0 :: s ∧ (unsB (shortB s) = s → shortB s = s.drop 1 ∧ 1 ≤ (s.drop 1).length) := by
  have e : shortB s = shortB (s.drop 1) := (shortB_zero (List.length_pos_iff.2 h0) hz).symm
  have l1 := length_shortB (s.drop 1)
  have l2 := length_unsB (shortB s)
  have l3 : (s.drop 1).length + 1 = s.length := by have := List.length_pos_iff.2 h0; simp only [List.length_drop]; omega
  rw [← e] at l1
  refine ⟨fun h => ?_, fun h => ?_⟩
  · have := congrArg List.length h
    simp only [List.length_cons] at this
    omega
  · by_cases hn : shortB s = []
    · rw [hn] at h; exact absurd h.symm h0
    · by_cases hh : 127 < (shortB s).getD 0 0
      · rw [unsB_hi hn hh] at h
        have h2 : shortB s = s.drop 1 := by
          have := congrArg (List.drop 1) h
          exact this
        exact ⟨h2, by rw [← h2]; exact List.length_pos_iff.2 hn⟩
      · rw [unsB_lo hh] at h
        have := congrArg List.length h
        omega
theorem textD_e {i : DI} (h : i.ok) {m : Int} (hs : (textD i m).2 ≠ []) : (textD i m).1.e = 0 := by
  refine Decidable.byContradiction fun he => hs ?_
  have hr : ∀ {i : DI} {n : Nat}, i.ok → (rawD i n).1.e ≠ 0 → (rawD i n).2 = [] := fun {i n} hi he => by
    by_cases e0 : i.e = 0
    · unfold rawD at he ⊢
      split
      · next hl => rw [if_pos hl] at he; exact absurd e0 he
      · rfl
    · rw [rawD_err hi e0]
  unfold textD at he ⊢
  split
  · rfl
  · next hm => rw [if_neg hm] at he; exact hr (rawD_ok h 4) he
set_option maxRecDepth 100000 in
theorem rbig_nil (i : DI) (hi : i.ok) (_hr : i.r.length ≤ 800000) (most : Int) (h0 : (textD i (bigM most + 1)).2 = []) : Meets Tryd.prog 64 [.agg [.str (i).r, .i64 (((i).e : Nat) : Int)], .i64 most] [] (.tup [.agg [.str ((textD i (bigM most + 1)).1).r, .i64 ((((textD i (bigM most + 1)).1).e : Nat) : Int)], .str []]) [] := by
  have hl := (textD_len_le i (bigM most + 1)).1
  have hl2 : (textD i (bigM most + 1)).2.length ≤ i.r.length := hl
  refine meets_of_ev (nt := 67) Tryd.func64 rfl rfl (Nat.le_of_ble_eq_true rfl) ?_
  refine .seq ?_
  refine .region ?_
  refine .a (op_boxRow rfl rfl) trivial rfl ?_
  refine .a (op_allocRow zero47 rel_zero47 rfl) trivial rfl ?_
  refine .q (op_assign rfl) trivial rfl ?_
  refine .nil ?_
  show Ev _ _ _ _ _
  refine .seq ?_
  refine .region ?_
  refine .q (op_move rfl) trivial rfl ?_
  refine .q (op_maxI rfl rfl) trivial rfl ?_
  refine .q (op_minI rfl rfl) trivial rfl ?_
  refine .q (op_assign rfl) trivial rfl ?_
  refine .nil ?_
  show Ev _ _ _ _ _
  refine .seq ?_
  refine .region ?_
  refine .q (op_loadRow Tryd.underlying47 rfl (by kernel_rfl) rfl rfl rfl (rfl)) trivial rfl ?_
  refine .q (op_move rfl) trivial rfl ?_
  refine .q (op_maxI rfl rfl) trivial rfl ?_
  refine .q (op_addI rfl rfl ⟨by omega, by omega⟩) trivial rfl ?_
  refine .as (.i64 (bigM most + 1)) (congrArg AV.i64 (by unfold bigM; omega)) ?_
  refine .q (op_call (U := []) [] [] (rtext_ev i hi (bigM most + 1)) Tryd.func65 (by kernel_rfl) rfl rfl rfl (⟨⟨_, rfl, rfl, rfl⟩, ⟨_, rfl, rfl, rfl⟩, trivial⟩) (trivial) (trivial) (trivial) rfl) trivial rfl ?_
  refine .q (op_move rfl) trivial rfl ?_
  refine .q (op_extract rfl rfl) trivial rfl ?_
  refine .q (op_extract rfl rfl) trivial rfl ?_
  refine .a (op_allocRow zero47 rel_zero47 rfl) trivial rfl ?_
  refine .w (op_storeRow (by kernel_rfl) rfl rfl rfl rfl rfl (rfl) (rfl)) trivial rfl ?_
  refine .q (op_assign rfl) trivial rfl ?_
  refine .nil ?_
  show Ev _ _ _ _ _
  refine .seq ?_
  refine .seq ?_
  refine .region ?_
  refine .q (op_move rfl) trivial rfl ?_
  refine .q (op_eqS rfl rfl rfl) trivial rfl ?_
  refine .nil ?_
  show Ev _ _ _ _ _
  refine .cond_true rfl (by show ((textD i (bigM most + 1)).2 == []) = true; rw [h0]; rfl) ?_
  refine .seq ?_
  refine .region ?_
  refine .q (op_loadRow Tryd.underlying47 rfl (by kernel_rfl) rfl rfl rfl (rfl)) trivial rfl ?_
  refine .w (op_storeRow (by kernel_rfl) rfl rfl rfl rfl rfl (rfl) (rfl)) trivial rfl ?_
  refine .q (op_assign rfl) trivial rfl ?_
  refine .nil ?_
  show Ev _ _ _ _ _
  refine .ret ?_
  show RetOk _ _ _ _ _ _ _
  exact retc2 rfl (.inl rfl) ⟨_, _, _, _, rfl, rfl, rfl, rfl, rfl, Tryd.underlying47, rfl, (by kernel_rfl)⟩ rfl trivial
set_option maxRecDepth 100000 in
theorem rbig_hi (i : DI) (hi : i.ok) (hr : i.r.length ≤ 800000) (most : Int) (h0 : (textD i (bigM most + 1)).2 ≠ []) (hc : 127 < (textD i (bigM most + 1)).2.getD 0 0) : Meets Tryd.prog 64 [.agg [.str (i).r, .i64 (((i).e : Nat) : Int)], .i64 most] [] (.tup [.agg [.str [], .i64 3], .str []]) [] := by
  have hl := (textD_len_le i (bigM most + 1)).1
  have hl2 : (textD i (bigM most + 1)).2.length ≤ i.r.length := hl
  have hp := List.length_pos_iff.2 h0
  refine meets_of_ev (nt := 67) Tryd.func64 rfl rfl (Nat.le_of_ble_eq_true rfl) ?_
  refine .seq ?_
  refine .region ?_
  refine .a (op_boxRow rfl rfl) trivial rfl ?_
  refine .a (op_allocRow zero47 rel_zero47 rfl) trivial rfl ?_
  refine .q (op_assign rfl) trivial rfl ?_
  refine .nil ?_
  show Ev _ _ _ _ _
  refine .seq ?_
  refine .region ?_
  refine .q (op_move rfl) trivial rfl ?_
  refine .q (op_maxI rfl rfl) trivial rfl ?_
  refine .q (op_minI rfl rfl) trivial rfl ?_
  refine .q (op_assign rfl) trivial rfl ?_
  refine .nil ?_
  show Ev _ _ _ _ _
  refine .seq ?_
  refine .region ?_
  refine .q (op_loadRow Tryd.underlying47 rfl (by kernel_rfl) rfl rfl rfl (rfl)) trivial rfl ?_
  refine .q (op_move rfl) trivial rfl ?_
  refine .q (op_maxI rfl rfl) trivial rfl ?_
  refine .q (op_addI rfl rfl ⟨by omega, by omega⟩) trivial rfl ?_
  refine .as (.i64 (bigM most + 1)) (congrArg AV.i64 (by unfold bigM; omega)) ?_
  refine .q (op_call (U := []) [] [] (rtext_ev i hi (bigM most + 1)) Tryd.func65 (by kernel_rfl) rfl rfl rfl (⟨⟨_, rfl, rfl, rfl⟩, ⟨_, rfl, rfl, rfl⟩, trivial⟩) (trivial) (trivial) (trivial) rfl) trivial rfl ?_
  refine .q (op_move rfl) trivial rfl ?_
  refine .q (op_extract rfl rfl) trivial rfl ?_
  refine .q (op_extract rfl rfl) trivial rfl ?_
  refine .a (op_allocRow zero47 rel_zero47 rfl) trivial rfl ?_
  refine .w (op_storeRow (by kernel_rfl) rfl rfl rfl rfl rfl (rfl) (rfl)) trivial rfl ?_
  refine .q (op_assign rfl) trivial rfl ?_
  refine .nil ?_
  show Ev _ _ _ _ _
  refine .seq ?_
  refine .seq ?_
  refine .region ?_
  refine .q (op_move rfl) trivial rfl ?_
  refine .q (op_eqS rfl rfl rfl) trivial rfl ?_
  refine .nil ?_
  show Ev _ _ _ _ _
  refine .cond_false rfl (beq_eq_false_iff_ne.2 h0) ?_
  refine .skip ?_
  show Ev _ _ _ _ _
  refine .seq ?_
  refine .seq ?_
  refine .drawn [[], [0], [], [0, 1, 2], [0, 1, 2, 3], [0, 1, 2, 3, 4], [0, 1, 2, 3, 4, 5], [0, 1, 2, 3, 4, 5, 6], [0, 1, 2, 3, 4, 5], [0, 1, 2, 3, 4, 5, 8], [0, 1, 2, 3, 4, 5], [0, 1, 2, 3, 4, 5, 8, 9, 10], [0, 1, 2, 3, 4, 5, 6, 7, 8, 9, 10, 11], [0, 1, 2, 3, 4, 5, 6, 7, 8, 9, 10, 11, 12], [0, 1, 2, 3, 4, 5, 6, 7, 8, 9, 10, 11, 12, 13], [0, 1, 2, 3, 4, 5, 6, 7, 8, 9, 10, 11, 12, 13, 14], [0, 1, 2, 3, 4, 5, 6, 7, 8, 9, 10, 11, 12, 13, 14, 15], [0, 1, 2, 3, 4, 5, 6, 7, 8, 9, 10, 11, 12, 13, 14, 15, 16], [0, 1, 2, 3, 4, 5, 6, 7, 8, 9, 10, 11, 12, 13, 14, 15, 16, 17], [0, 1, 2, 3, 4, 5, 6, 7, 8, 9, 10, 11, 12, 13, 14, 15, 16, 17, 18], [0, 1, 2, 3, 4, 5, 6, 7, 8, 9, 10, 11, 12, 13, 14, 15, 16, 17, 18, 19], [0, 1, 2, 3, 4, 5, 6, 7, 8, 9, 10, 11, 12, 13, 14, 15, 16, 17, 18, 19, 20], [0, 1, 2, 3, 4, 5, 6, 7, 8, 9, 10, 11, 12, 13, 14, 15, 16, 17, 18, 19, 20, 21], [0, 1, 2, 3, 4, 5, 6, 7, 8, 9, 10, 11, 12, 13, 14, 15, 16, 17, 18, 19, 20, 21, 22], [0, 1, 2, 3, 4, 5, 6, 7, 8, 9, 10, 11, 12, 13, 14, 15, 16, 17, 18, 19, 20, 21, 22, 23], [0, 1, 2, 3, 4, 5, 6, 7, 8, 9, 10, 11, 12, 13, 14, 15, 16, 17, 18, 19, 20, 21, 22, 23, 24], [0, 1, 2, 3, 4, 5, 6, 7, 8, 9, 10, 11, 12, 13, 14, 15, 16, 17, 18, 19, 20, 21, 22, 23, 24, 25], [0, 1, 2, 3, 4, 5, 6, 7, 8, 9, 10, 11, 12, 13, 14, 15, 16, 17, 18, 19, 20, 21, 22, 23, 24], [0, 1, 2, 3, 4, 5, 6, 7, 8, 9, 10, 11, 12, 13, 14, 15, 16, 17, 18, 19, 20, 21, 22, 23, 24, 25, 26, 27], [0, 1, 2, 3, 4, 5, 6, 7, 8, 9, 10, 11, 12, 13, 14, 15, 16, 17, 18, 19, 20, 21, 22, 23, 24, 25, 26, 27, 28], [0, 1, 2, 3, 4, 5, 6, 7, 8, 9, 10, 11, 12, 13, 14, 15, 16, 17, 18, 19, 20, 21, 22, 23, 24, 25, 26, 27, 28, 29], [0, 1, 2, 3, 4, 5, 6, 7, 8, 9, 10, 11, 12, 13, 14, 15, 16, 17, 18, 19, 20, 21, 22, 23, 24, 25, 26, 27, 28, 29, 30]] [1, 3, 7, 8, 9, 12, 26, 28] [] (by kernel_rfl) (by kernel_rfl) rfl ?_
  show DK _ [0, 1, 2, 3, 4, 5, 6, 7, 8, 9, 10, 11, 12, 13, 14, 15, 16, 17, 18, 19, 20, 21, 22, 23, 24, 25, 26, 27, 28, 29, 30, 31] _ _ _
  refine .q rfl (op_move rfl) trivial ?_
  refine .q rfl (op_call (U := []) [] [] (rbigB_ev _ (by omega)) Tryd.func109 (by kernel_rfl) rfl rfl rfl (⟨⟨_, rfl, rfl, rfl⟩, trivial⟩) (trivial) (trivial) (trivial) rfl) trivial ?_
  refine .q rfl (op_move rfl) trivial ?_
  refine .q rfl (op_call (U := []) [] [] (rtextB_ev _ (by first | omega | (simp only [List.length_append, List.length_cons, List.length_nil]; omega))) Tryd.func110 (by kernel_rfl) rfl rfl rfl (⟨⟨_, rfl, rfl, rfl⟩, trivial⟩) (trivial) (trivial) (trivial) rfl) trivial ?_
  refine .q rfl (op_eqS rfl rfl rfl) trivial ?_
  refine .q rfl (op_move rfl) trivial ?_
  refine .know (b' := true) (bne_iff_ne.2 (fun h => ((big_hi h0 hc).1) (textR_inj h))) ?_
  refine .q rfl (op_move rfl) ⟨_, rfl, rfl⟩ ?_
  refine .q rfl (op_call (U := []) [] [] (rbigB_ev _ (by omega)) Tryd.func109 (by kernel_rfl) rfl rfl rfl (⟨⟨_, rfl, rfl, rfl⟩, trivial⟩) (trivial) (trivial) (trivial) rfl) ⟨_, rfl, rfl⟩ ?_
  refine .a rfl (ap_build (us := [_]) (c := .aggB [_]) Tryd.underlying32 inf5 rfl (by decide) (by decide) ⟨rfl, rfl, rfl, trivial⟩ rfl) ⟨_, rfl, rfl⟩ rfl rfl ?_
  refine .q rfl (op_bytes_str (l := [0]) (k := ⟨.aggB [0], 5, true⟩) Tryd.underlying32 Tryd.underlying5 Tryd.underlying9 rfl (by kernel_rfl) rfl (by exact Nat.le_refl 1)) ⟨_, rfl, rfl⟩ ?_
  refine .as (.str [0]) rfl ?_
  refine .q rfl (op_move rfl) ⟨_, rfl, rfl⟩ ?_
  refine .q rfl (op_addS rfl rfl (by simp only [List.length_cons, List.length_nil]; omega)) ⟨_, rfl, rfl⟩ ?_
  refine .q rfl (op_call (U := []) [] [] (rtextB_ev _ (by first | omega | (simp only [List.length_append, List.length_cons, List.length_nil]; omega))) Tryd.func110 (by kernel_rfl) rfl rfl rfl (⟨⟨_, rfl, rfl, rfl⟩, trivial⟩) (trivial) (trivial) (trivial) rfl) ⟨_, rfl, rfl⟩ ?_
  refine .q rfl (op_eqS rfl rfl rfl) ⟨_, rfl, rfl⟩ ?_
  refine .q rfl (op_pick_true rfl rfl rfl) trivial ?_
  refine .q rfl (op_move rfl) trivial ?_
  refine .know (b' := false) (bne_eq_false_iff_eq.2 (congrArg textR ((big_hi h0 hc).2))) ?_
  refine .q rfl (op_move rfl) ⟨_, rfl, rfl⟩ ?_
  refine .q rfl (op_index_str Tryd.underlying9 rfl rfl rfl (by exact hp)) ⟨_, rfl, rfl⟩ ?_
  refine .q rfl (op_bin8 rfl rfl rfl) ⟨_, rfl, rfl⟩ ?_
  refine .q rfl (op_pick_false rfl rfl rfl) trivial ?_
  refine .q rfl (op_move rfl) trivial ?_
  refine .know (b' := true) (decide_eq_true hc) ?_
  refine .no rfl ⟨_, rfl, rfl⟩ ?_
  refine .no rfl ⟨_, rfl, rfl⟩ ?_
  refine .no rfl ⟨_, rfl, rfl⟩ ?_
  refine .no rfl ⟨_, rfl, rfl⟩ ?_
  refine .noU rfl ⟨_, rfl, rfl⟩ ?_
  refine .noU rfl ⟨_, rfl, rfl⟩ ?_
  refine .noU rfl ⟨_, rfl, rfl⟩ ?_
  refine .noU rfl ⟨_, rfl, rfl⟩ ?_
  refine .noU rfl ⟨_, rfl, rfl⟩ ?_
  refine .no rfl ⟨_, rfl, rfl⟩ ?_
  refine .q rfl (op_pick_true rfl rfl rfl) trivial ?_
  refine .nil ?_
  show Ev _ _ _ _ _
  refine .cond_true rfl rfl ?_
  refine .seq ?_
  refine .region ?_
  refine .q (op_buildS (r := .agg [.str [], .i64 3]) Tryd.underlying47 rfl zero47 rel_zero47 rfl rfl rfl rfl) trivial rfl ?_
  refine .w (op_storeRow (by kernel_rfl) rfl rfl rfl rfl rfl (rfl) (rfl)) trivial rfl ?_
  refine .q (op_assign rfl) trivial rfl ?_
  refine .nil ?_
  show Ev _ _ _ _ _
  refine .ret ?_
  show RetOk _ _ _ _ _ _ _
  exact retc2 rfl (.inl rfl) ⟨_, _, _, _, rfl, rfl, rfl, rfl, rfl, Tryd.underlying47, rfl, (by kernel_rfl)⟩ rfl trivial
set_option maxRecDepth 100000 in
theorem rbig_bad (i : DI) (hi : i.ok) (hr : i.r.length ≤ 800000) (most : Int) (h0 : (textD i (bigM most + 1)).2 ≠ []) (hz : (textD i (bigM most + 1)).2.getD 0 0 = 0) (hu : ¬ unsB (shortB (textD i (bigM most + 1)).2) = (textD i (bigM most + 1)).2) : Meets Tryd.prog 64 [.agg [.str (i).r, .i64 (((i).e : Nat) : Int)], .i64 most] [] (.tup [.agg [.str [], .i64 3], .str []]) [] := by
  have hl := (textD_len_le i (bigM most + 1)).1
  have hl2 : (textD i (bigM most + 1)).2.length ≤ i.r.length := hl
  have hp := List.length_pos_iff.2 h0
  refine meets_of_ev (nt := 67) Tryd.func64 rfl rfl (Nat.le_of_ble_eq_true rfl) ?_
  refine .seq ?_
  refine .region ?_
  refine .a (op_boxRow rfl rfl) trivial rfl ?_
  refine .a (op_allocRow zero47 rel_zero47 rfl) trivial rfl ?_
  refine .q (op_assign rfl) trivial rfl ?_
  refine .nil ?_
  show Ev _ _ _ _ _
  refine .seq ?_
  refine .region ?_
  refine .q (op_move rfl) trivial rfl ?_
  refine .q (op_maxI rfl rfl) trivial rfl ?_
  refine .q (op_minI rfl rfl) trivial rfl ?_
  refine .q (op_assign rfl) trivial rfl ?_
  refine .nil ?_
  show Ev _ _ _ _ _
  refine .seq ?_
  refine .region ?_
  refine .q (op_loadRow Tryd.underlying47 rfl (by kernel_rfl) rfl rfl rfl (rfl)) trivial rfl ?_
  refine .q (op_move rfl) trivial rfl ?_
  refine .q (op_maxI rfl rfl) trivial rfl ?_
  refine .q (op_addI rfl rfl ⟨by omega, by omega⟩) trivial rfl ?_
  refine .as (.i64 (bigM most + 1)) (congrArg AV.i64 (by unfold bigM; omega)) ?_
  refine .q (op_call (U := []) [] [] (rtext_ev i hi (bigM most + 1)) Tryd.func65 (by kernel_rfl) rfl rfl rfl (⟨⟨_, rfl, rfl, rfl⟩, ⟨_, rfl, rfl, rfl⟩, trivial⟩) (trivial) (trivial) (trivial) rfl) trivial rfl ?_
  refine .q (op_move rfl) trivial rfl ?_
  refine .q (op_extract rfl rfl) trivial rfl ?_
  refine .q (op_extract rfl rfl) trivial rfl ?_
  refine .a (op_allocRow zero47 rel_zero47 rfl) trivial rfl ?_
  refine .w (op_storeRow (by kernel_rfl) rfl rfl rfl rfl rfl (rfl) (rfl)) trivial rfl ?_
  refine .q (op_assign rfl) trivial rfl ?_
  refine .nil ?_
  show Ev _ _ _ _ _
  refine .seq ?_
  refine .seq ?_
  refine .region ?_
  refine .q (op_move rfl) trivial rfl ?_
  refine .q (op_eqS rfl rfl rfl) trivial rfl ?_
  refine .nil ?_
  show Ev _ _ _ _ _
  refine .cond_false rfl (beq_eq_false_iff_ne.2 h0) ?_
  refine .skip ?_
  show Ev _ _ _ _ _
  refine .seq ?_
  refine .seq ?_
  refine .drawn [[], [0], [], [0, 1, 2], [0, 1, 2, 3], [0, 1, 2, 3, 4], [0, 1, 2, 3, 4, 5], [0, 1, 2, 3, 4, 5, 6], [0, 1, 2, 3, 4, 5], [0, 1, 2, 3, 4, 5, 8], [0, 1, 2, 3, 4, 5], [0, 1, 2, 3, 4, 5, 8, 9, 10], [0, 1, 2, 3, 4, 5, 6, 7, 8, 9, 10, 11], [0, 1, 2, 3, 4, 5, 6, 7, 8, 9, 10, 11, 12], [0, 1, 2, 3, 4, 5, 6, 7, 8, 9, 10, 11, 12, 13], [0, 1, 2, 3, 4, 5, 6, 7, 8, 9, 10, 11, 12, 13, 14], [0, 1, 2, 3, 4, 5, 6, 7, 8, 9, 10, 11, 12, 13, 14, 15], [0, 1, 2, 3, 4, 5, 6, 7, 8, 9, 10, 11, 12, 13, 14, 15, 16], [0, 1, 2, 3, 4, 5, 6, 7, 8, 9, 10, 11, 12, 13, 14, 15, 16, 17], [0, 1, 2, 3, 4, 5, 6, 7, 8, 9, 10, 11, 12, 13, 14, 15, 16, 17, 18], [0, 1, 2, 3, 4, 5, 6, 7, 8, 9, 10, 11, 12, 13, 14, 15, 16, 17, 18, 19], [0, 1, 2, 3, 4, 5, 6, 7, 8, 9, 10, 11, 12, 13, 14, 15, 16, 17, 18, 19, 20], [0, 1, 2, 3, 4, 5, 6, 7, 8, 9, 10, 11, 12, 13, 14, 15, 16, 17, 18, 19, 20, 21], [0, 1, 2, 3, 4, 5, 6, 7, 8, 9, 10, 11, 12, 13, 14, 15, 16, 17, 18, 19, 20, 21, 22], [0, 1, 2, 3, 4, 5, 6, 7, 8, 9, 10, 11, 12, 13, 14, 15, 16, 17, 18, 19, 20, 21, 22, 23], [0, 1, 2, 3, 4, 5, 6, 7, 8, 9, 10, 11, 12, 13, 14, 15, 16, 17, 18, 19, 20, 21, 22, 23, 24], [0, 1, 2, 3, 4, 5, 6, 7, 8, 9, 10, 11, 12, 13, 14, 15, 16, 17, 18, 19, 20, 21, 22, 23, 24, 25], [0, 1, 2, 3, 4, 5, 6, 7, 8, 9, 10, 11, 12, 13, 14, 15, 16, 17, 18, 19, 20, 21, 22, 23, 24], [0, 1, 2, 3, 4, 5, 6, 7, 8, 9, 10, 11, 12, 13, 14, 15, 16, 17, 18, 19, 20, 21, 22, 23, 24, 25, 26, 27], [0, 1, 2, 3, 4, 5, 6, 7, 8, 9, 10, 11, 12, 13, 14, 15, 16, 17, 18, 19, 20, 21, 22, 23, 24, 25, 26, 27, 28], [0, 1, 2, 3, 4, 5, 6, 7, 8, 9, 10, 11, 12, 13, 14, 15, 16, 17, 18, 19, 20, 21, 22, 23, 24, 25, 26, 27, 28, 29], [0, 1, 2, 3, 4, 5, 6, 7, 8, 9, 10, 11, 12, 13, 14, 15, 16, 17, 18, 19, 20, 21, 22, 23, 24, 25, 26, 27, 28, 29, 30]] [1, 3, 7, 8, 9, 12, 26, 28] [] (by kernel_rfl) (by kernel_rfl) rfl ?_
  show DK _ [0, 1, 2, 3, 4, 5, 6, 7, 8, 9, 10, 11, 12, 13, 14, 15, 16, 17, 18, 19, 20, 21, 22, 23, 24, 25, 26, 27, 28, 29, 30, 31] _ _ _
  refine .q rfl (op_move rfl) trivial ?_
  refine .q rfl (op_call (U := []) [] [] (rbigB_ev _ (by omega)) Tryd.func109 (by kernel_rfl) rfl rfl rfl (⟨⟨_, rfl, rfl, rfl⟩, trivial⟩) (trivial) (trivial) (trivial) rfl) trivial ?_
  refine .q rfl (op_move rfl) trivial ?_
  refine .q rfl (op_call (U := []) [] [] (rtextB_ev _ (by first | omega | (simp only [List.length_append, List.length_cons, List.length_nil]; omega))) Tryd.func110 (by kernel_rfl) rfl rfl rfl (⟨⟨_, rfl, rfl, rfl⟩, trivial⟩) (trivial) (trivial) (trivial) rfl) trivial ?_
  refine .q rfl (op_eqS rfl rfl rfl) trivial ?_
  refine .q rfl (op_move rfl) trivial ?_
  refine .know (b' := true) (bne_iff_ne.2 (fun h => (hu) (textR_inj h))) ?_
  refine .q rfl (op_move rfl) ⟨_, rfl, rfl⟩ ?_
  refine .q rfl (op_call (U := []) [] [] (rbigB_ev _ (by omega)) Tryd.func109 (by kernel_rfl) rfl rfl rfl (⟨⟨_, rfl, rfl, rfl⟩, trivial⟩) (trivial) (trivial) (trivial) rfl) ⟨_, rfl, rfl⟩ ?_
  refine .a rfl (ap_build (us := [_]) (c := .aggB [_]) Tryd.underlying32 inf5 rfl (by decide) (by decide) ⟨rfl, rfl, rfl, trivial⟩ rfl) ⟨_, rfl, rfl⟩ rfl rfl ?_
  refine .q rfl (op_bytes_str (l := [0]) (k := ⟨.aggB [0], 5, true⟩) Tryd.underlying32 Tryd.underlying5 Tryd.underlying9 rfl (by kernel_rfl) rfl (by exact Nat.le_refl 1)) ⟨_, rfl, rfl⟩ ?_
  refine .as (.str [0]) rfl ?_
  refine .q rfl (op_move rfl) ⟨_, rfl, rfl⟩ ?_
  refine .q rfl (op_addS rfl rfl (by simp only [List.length_cons, List.length_nil]; omega)) ⟨_, rfl, rfl⟩ ?_
  refine .q rfl (op_call (U := []) [] [] (rtextB_ev _ (by first | omega | (simp only [List.length_append, List.length_cons, List.length_nil]; omega))) Tryd.func110 (by kernel_rfl) rfl rfl rfl (⟨⟨_, rfl, rfl, rfl⟩, trivial⟩) (trivial) (trivial) (trivial) rfl) ⟨_, rfl, rfl⟩ ?_
  refine .q rfl (op_eqS rfl rfl rfl) ⟨_, rfl, rfl⟩ ?_
  refine .q rfl (op_pick_true rfl rfl rfl) trivial ?_
  refine .q rfl (op_move rfl) trivial ?_
  refine .know (b' := true) (bne_iff_ne.2 (fun h => (big_zero h0 hz).1 (textR_inj h))) ?_
  refine .no rfl ⟨_, rfl, rfl⟩ ?_
  refine .no rfl ⟨_, rfl, rfl⟩ ?_
  refine .no rfl ⟨_, rfl, rfl⟩ ?_
  refine .q rfl (op_pick_true rfl rfl rfl) trivial ?_
  refine .q rfl (op_move rfl) trivial ?_
  refine .no rfl ⟨_, rfl, rfl⟩ ?_
  refine .no rfl ⟨_, rfl, rfl⟩ ?_
  refine .no rfl ⟨_, rfl, rfl⟩ ?_
  refine .no rfl ⟨_, rfl, rfl⟩ ?_
  refine .noU rfl ⟨_, rfl, rfl⟩ ?_
  refine .noU rfl ⟨_, rfl, rfl⟩ ?_
  refine .noU rfl ⟨_, rfl, rfl⟩ ?_
  refine .noU rfl ⟨_, rfl, rfl⟩ ?_
  refine .noU rfl ⟨_, rfl, rfl⟩ ?_
  refine .no rfl ⟨_, rfl, rfl⟩ ?_
  refine .q rfl (op_pick_true rfl rfl rfl) trivial ?_
  refine .nil ?_
  show Ev _ _ _ _ _
  refine .cond_true rfl rfl ?_
  refine .seq ?_
  refine .region ?_
  refine .q (op_buildS (r := .agg [.str [], .i64 3]) Tryd.underlying47 rfl zero47 rel_zero47 rfl rfl rfl rfl) trivial rfl ?_
  refine .w (op_storeRow (by kernel_rfl) rfl rfl rfl rfl rfl (rfl) (rfl)) trivial rfl ?_
  refine .q (op_assign rfl) trivial rfl ?_
  refine .nil ?_
  show Ev _ _ _ _ _
  refine .ret ?_
  show RetOk _ _ _ _ _ _ _
  exact retc2 rfl (.inl rfl) ⟨_, _, _, _, rfl, rfl, rfl, rfl, rfl, Tryd.underlying47, rfl, (by kernel_rfl)⟩ rfl trivial
set_option maxRecDepth 100000 in
theorem rbig_mid (i : DI) (hi : i.ok) (hr : i.r.length ≤ 800000) (most : Int) (h0 : (textD i (bigM most + 1)).2 ≠ []) (hc : ¬ 127 < (textD i (bigM most + 1)).2.getD 0 0) (hz : ¬ (textD i (bigM most + 1)).2.getD 0 0 = 0) (hb : ¬ bigM most < ((textD i (bigM most + 1)).2.length : Int)) : Meets Tryd.prog 64 [.agg [.str (i).r, .i64 (((i).e : Nat) : Int)], .i64 most] [] (.tup [.agg [.str ((textD i (bigM most + 1)).1).r, .i64 ((((textD i (bigM most + 1)).1).e : Nat) : Int)], .str (textD i (bigM most + 1)).2]) [] := by
  have hl := (textD_len_le i (bigM most + 1)).1
  have hl2 : (textD i (bigM most + 1)).2.length ≤ i.r.length := hl
  have hp := List.length_pos_iff.2 h0
  refine meets_of_ev (nt := 67) Tryd.func64 rfl rfl (Nat.le_of_ble_eq_true rfl) ?_
  refine .seq ?_
  refine .region ?_
  refine .a (op_boxRow rfl rfl) trivial rfl ?_
  refine .a (op_allocRow zero47 rel_zero47 rfl) trivial rfl ?_
  refine .q (op_assign rfl) trivial rfl ?_
  refine .nil ?_
  show Ev _ _ _ _ _
  refine .seq ?_
  refine .region ?_
  refine .q (op_move rfl) trivial rfl ?_
  refine .q (op_maxI rfl rfl) trivial rfl ?_
  refine .q (op_minI rfl rfl) trivial rfl ?_
  refine .q (op_assign rfl) trivial rfl ?_
  refine .nil ?_
  show Ev _ _ _ _ _
  refine .seq ?_
  refine .region ?_
  refine .q (op_loadRow Tryd.underlying47 rfl (by kernel_rfl) rfl rfl rfl (rfl)) trivial rfl ?_
  refine .q (op_move rfl) trivial rfl ?_
  refine .q (op_maxI rfl rfl) trivial rfl ?_
  refine .q (op_addI rfl rfl ⟨by omega, by omega⟩) trivial rfl ?_
  refine .as (.i64 (bigM most + 1)) (congrArg AV.i64 (by unfold bigM; omega)) ?_
  refine .q (op_call (U := []) [] [] (rtext_ev i hi (bigM most + 1)) Tryd.func65 (by kernel_rfl) rfl rfl rfl (⟨⟨_, rfl, rfl, rfl⟩, ⟨_, rfl, rfl, rfl⟩, trivial⟩) (trivial) (trivial) (trivial) rfl) trivial rfl ?_
  refine .q (op_move rfl) trivial rfl ?_
  refine .q (op_extract rfl rfl) trivial rfl ?_
  refine .q (op_extract rfl rfl) trivial rfl ?_
  refine .a (op_allocRow zero47 rel_zero47 rfl) trivial rfl ?_
  refine .w (op_storeRow (by kernel_rfl) rfl rfl rfl rfl rfl (rfl) (rfl)) trivial rfl ?_
  refine .q (op_assign rfl) trivial rfl ?_
  refine .nil ?_
  show Ev _ _ _ _ _
  refine .seq ?_
  refine .seq ?_
  refine .region ?_
  refine .q (op_move rfl) trivial rfl ?_
  refine .q (op_eqS rfl rfl rfl) trivial rfl ?_
  refine .nil ?_
  show Ev _ _ _ _ _
  refine .cond_false rfl (beq_eq_false_iff_ne.2 h0) ?_
  refine .skip ?_
  show Ev _ _ _ _ _
  refine .seq ?_
  refine .seq ?_
  refine .drawn [[], [0], [], [0, 1, 2], [0, 1, 2, 3], [0, 1, 2, 3, 4], [0, 1, 2, 3, 4, 5], [0, 1, 2, 3, 4, 5, 6], [0, 1, 2, 3, 4, 5], [0, 1, 2, 3, 4, 5, 8], [0, 1, 2, 3, 4, 5], [0, 1, 2, 3, 4, 5, 8, 9, 10], [0, 1, 2, 3, 4, 5, 6, 7, 8, 9, 10, 11], [0, 1, 2, 3, 4, 5, 6, 7, 8, 9, 10, 11, 12], [0, 1, 2, 3, 4, 5, 6, 7, 8, 9, 10, 11, 12, 13], [0, 1, 2, 3, 4, 5, 6, 7, 8, 9, 10, 11, 12, 13, 14], [0, 1, 2, 3, 4, 5, 6, 7, 8, 9, 10, 11, 12, 13, 14, 15], [0, 1, 2, 3, 4, 5, 6, 7, 8, 9, 10, 11, 12, 13, 14, 15, 16], [0, 1, 2, 3, 4, 5, 6, 7, 8, 9, 10, 11, 12, 13, 14, 15, 16, 17], [0, 1, 2, 3, 4, 5, 6, 7, 8, 9, 10, 11, 12, 13, 14, 15, 16, 17, 18], [0, 1, 2, 3, 4, 5, 6, 7, 8, 9, 10, 11, 12, 13, 14, 15, 16, 17, 18, 19], [0, 1, 2, 3, 4, 5, 6, 7, 8, 9, 10, 11, 12, 13, 14, 15, 16, 17, 18, 19, 20], [0, 1, 2, 3, 4, 5, 6, 7, 8, 9, 10, 11, 12, 13, 14, 15, 16, 17, 18, 19, 20, 21], [0, 1, 2, 3, 4, 5, 6, 7, 8, 9, 10, 11, 12, 13, 14, 15, 16, 17, 18, 19, 20, 21, 22], [0, 1, 2, 3, 4, 5, 6, 7, 8, 9, 10, 11, 12, 13, 14, 15, 16, 17, 18, 19, 20, 21, 22, 23], [0, 1, 2, 3, 4, 5, 6, 7, 8, 9, 10, 11, 12, 13, 14, 15, 16, 17, 18, 19, 20, 21, 22, 23, 24], [0, 1, 2, 3, 4, 5, 6, 7, 8, 9, 10, 11, 12, 13, 14, 15, 16, 17, 18, 19, 20, 21, 22, 23, 24, 25], [0, 1, 2, 3, 4, 5, 6, 7, 8, 9, 10, 11, 12, 13, 14, 15, 16, 17, 18, 19, 20, 21, 22, 23, 24], [0, 1, 2, 3, 4, 5, 6, 7, 8, 9, 10, 11, 12, 13, 14, 15, 16, 17, 18, 19, 20, 21, 22, 23, 24, 25, 26, 27], [0, 1, 2, 3, 4, 5, 6, 7, 8, 9, 10, 11, 12, 13, 14, 15, 16, 17, 18, 19, 20, 21, 22, 23, 24, 25, 26, 27, 28], [0, 1, 2, 3, 4, 5, 6, 7, 8, 9, 10, 11, 12, 13, 14, 15, 16, 17, 18, 19, 20, 21, 22, 23, 24, 25, 26, 27, 28, 29], [0, 1, 2, 3, 4, 5, 6, 7, 8, 9, 10, 11, 12, 13, 14, 15, 16, 17, 18, 19, 20, 21, 22, 23, 24, 25, 26, 27, 28, 29, 30]] [1, 3, 7, 8, 9, 12, 26, 28] [] (by kernel_rfl) (by kernel_rfl) rfl ?_
  show DK _ [0, 1, 2, 3, 4, 5, 6, 7, 8, 9, 10, 11, 12, 13, 14, 15, 16, 17, 18, 19, 20, 21, 22, 23, 24, 25, 26, 27, 28, 29, 30, 31] _ _ _
  refine .q rfl (op_move rfl) trivial ?_
  refine .q rfl (op_call (U := []) [] [] (rbigB_ev _ (by omega)) Tryd.func109 (by kernel_rfl) rfl rfl rfl (⟨⟨_, rfl, rfl, rfl⟩, trivial⟩) (trivial) (trivial) (trivial) rfl) trivial ?_
  refine .q rfl (op_move rfl) trivial ?_
  refine .q rfl (op_call (U := []) [] [] (rtextB_ev _ (by first | omega | (simp only [List.length_append, List.length_cons, List.length_nil]; omega))) Tryd.func110 (by kernel_rfl) rfl rfl rfl (⟨⟨_, rfl, rfl, rfl⟩, trivial⟩) (trivial) (trivial) (trivial) rfl) trivial ?_
  refine .q rfl (op_eqS rfl rfl rfl) trivial ?_
  refine .q rfl (op_move rfl) trivial ?_
  refine .know (b' := false) (bne_eq_false_iff_eq.2 (congrArg textR (((big_mid hc hz).1)))) ?_
  refine .no rfl ⟨_, rfl, rfl⟩ ?_
  refine .no rfl ⟨_, rfl, rfl⟩ ?_
  refine .no rfl ⟨_, rfl, rfl⟩ ?_
  refine .no rfl ⟨_, rfl, rfl⟩ ?_
  refine .no rfl ⟨_, rfl, rfl⟩ ?_
  refine .no rfl ⟨_, rfl, rfl⟩ ?_
  refine .no rfl ⟨_, rfl, rfl⟩ ?_
  refine .no rfl ⟨_, rfl, rfl⟩ ?_
  refine .q rfl (op_pick_false rfl rfl rfl) trivial ?_
  refine .q rfl (op_move rfl) trivial ?_
  refine .q rfl (op_move rfl) ⟨_, rfl, rfl⟩ ?_
  refine .q rfl (op_index_str Tryd.underlying9 rfl rfl rfl (by exact hp)) ⟨_, rfl, rfl⟩ ?_
  refine .q rfl (op_bin8 rfl rfl rfl) ⟨_, rfl, rfl⟩ ?_
  refine .q rfl (op_pick_false rfl rfl rfl) trivial ?_
  refine .q rfl (op_move rfl) trivial ?_
  refine .know (b' := false) (decide_eq_false hc) ?_
  refine .q rfl (op_move rfl) ⟨_, rfl, rfl⟩ ?_
  refine .q rfl (op_index_str Tryd.underlying9 rfl rfl rfl (by exact hp)) ⟨_, rfl, rfl⟩ ?_
  refine .q rfl (op_bin8 rfl rfl rfl) ⟨_, rfl, rfl⟩ ?_
  refine .q rfl (op_move rfl) ⟨_, rfl, rfl⟩ ?_
  refine .know (b' := false) (beq_eq_false_iff_ne.2 hz) ?_
  refine .no rfl ⟨_, rfl, rfl⟩ ?_
  refine .no rfl ⟨_, rfl, rfl⟩ ?_
  refine .no rfl ⟨_, rfl, rfl⟩ ?_
  refine .no rfl ⟨_, rfl, rfl⟩ ?_
  refine .no rfl ⟨_, rfl, rfl⟩ ?_
  refine .q rfl (op_pick_false rfl rfl rfl) ⟨_, rfl, rfl⟩ ?_
  refine .q rfl (op_pick_false rfl rfl rfl) trivial ?_
  refine .nil ?_
  show Ev _ _ _ _ _
  refine .cond_false rfl rfl ?_
  refine .skip ?_
  show Ev _ _ _ _ _
  refine .seq ?_
  refine .seq ?_
  refine .region ?_
  refine .q (op_move rfl) trivial rfl ?_
  refine .q (op_index_str Tryd.underlying9 rfl rfl rfl (by exact hp)) trivial rfl ?_
  refine .q (op_bin8 rfl rfl rfl) trivial rfl ?_
  refine .nil ?_
  show Ev _ _ _ _ _
  refine .cond_false rfl (beq_eq_false_iff_ne.2 hz) ?_
  refine .skip ?_
  show Ev _ _ _ _ _
  refine .seq ?_
  refine .seq ?_
  refine .region ?_
  refine .q (op_move rfl) trivial rfl ?_
  refine .q (op_len_str Tryd.underlying9 rfl) trivial rfl ?_
  refine .q (op_move rfl) trivial rfl ?_
  refine .q (op_cmpI rfl rfl rfl) trivial rfl ?_
  refine .nil ?_
  show Ev _ _ _ _ _
  refine .cond_false rfl (decide_eq_false (by have hM : bigM most = min (max most 0) 4096 := rfl; omega)) ?_
  refine .skip ?_
  show Ev _ _ _ _ _
  refine .seq ?_
  refine .region ?_
  refine .q (op_loadRow Tryd.underlying47 rfl (by kernel_rfl) rfl rfl rfl (rfl)) trivial rfl ?_
  refine .q (op_move rfl) trivial rfl ?_
  refine .w (op_storeRow (by kernel_rfl) rfl rfl rfl rfl rfl (rfl) (rfl)) trivial rfl ?_
  refine .q (op_assign rfl) trivial rfl ?_
  refine .nil ?_
  show Ev _ _ _ _ _
  refine .ret ?_
  show RetOk _ _ _ _ _ _ _
  exact retc2 rfl (.inl rfl) ⟨_, _, _, _, rfl, rfl, rfl, rfl, rfl, Tryd.underlying47, rfl, (by kernel_rfl)⟩ rfl trivial
set_option maxRecDepth 100000 in
theorem rbig_midb (i : DI) (hi : i.ok) (hr : i.r.length ≤ 800000) (most : Int) (h0 : (textD i (bigM most + 1)).2 ≠ []) (hc : ¬ 127 < (textD i (bigM most + 1)).2.getD 0 0) (hz : ¬ (textD i (bigM most + 1)).2.getD 0 0 = 0) (hb : bigM most < ((textD i (bigM most + 1)).2.length : Int)) : Meets Tryd.prog 64 [.agg [.str (i).r, .i64 (((i).e : Nat) : Int)], .i64 most] [] (.tup [.agg [.str [], .i64 4], .str []]) [] := by
  have hl := (textD_len_le i (bigM most + 1)).1
  have hl2 : (textD i (bigM most + 1)).2.length ≤ i.r.length := hl
  have hp := List.length_pos_iff.2 h0
  refine meets_of_ev (nt := 67) Tryd.func64 rfl rfl (Nat.le_of_ble_eq_true rfl) ?_
  refine .seq ?_
  refine .region ?_
  refine .a (op_boxRow rfl rfl) trivial rfl ?_
  refine .a (op_allocRow zero47 rel_zero47 rfl) trivial rfl ?_
  refine .q (op_assign rfl) trivial rfl ?_
  refine .nil ?_
  show Ev _ _ _ _ _
  refine .seq ?_
  refine .region ?_
  refine .q (op_move rfl) trivial rfl ?_
  refine .q (op_maxI rfl rfl) trivial rfl ?_
  refine .q (op_minI rfl rfl) trivial rfl ?_
  refine .q (op_assign rfl) trivial rfl ?_
  refine .nil ?_
  show Ev _ _ _ _ _
  refine .seq ?_
  refine .region ?_
  refine .q (op_loadRow Tryd.underlying47 rfl (by kernel_rfl) rfl rfl rfl (rfl)) trivial rfl ?_
  refine .q (op_move rfl) trivial rfl ?_
  refine .q (op_maxI rfl rfl) trivial rfl ?_
  refine .q (op_addI rfl rfl ⟨by omega, by omega⟩) trivial rfl ?_
  refine .as (.i64 (bigM most + 1)) (congrArg AV.i64 (by unfold bigM; omega)) ?_
  refine .q (op_call (U := []) [] [] (rtext_ev i hi (bigM most + 1)) Tryd.func65 (by kernel_rfl) rfl rfl rfl (⟨⟨_, rfl, rfl, rfl⟩, ⟨_, rfl, rfl, rfl⟩, trivial⟩) (trivial) (trivial) (trivial) rfl) trivial rfl ?_
  refine .q (op_move rfl) trivial rfl ?_
  refine .q (op_extract rfl rfl) trivial rfl ?_
  refine .q (op_extract rfl rfl) trivial rfl ?_
  refine .a (op_allocRow zero47 rel_zero47 rfl) trivial rfl ?_
  refine .w (op_storeRow (by kernel_rfl) rfl rfl rfl rfl rfl (rfl) (rfl)) trivial rfl ?_
  refine .q (op_assign rfl) trivial rfl ?_
  refine .nil ?_
  show Ev _ _ _ _ _
  refine .seq ?_
  refine .seq ?_
  refine .region ?_
  refine .q (op_move rfl) trivial rfl ?_
  refine .q (op_eqS rfl rfl rfl) trivial rfl ?_
  refine .nil ?_
  show Ev _ _ _ _ _
  refine .cond_false rfl (beq_eq_false_iff_ne.2 h0) ?_
  refine .skip ?_
  show Ev _ _ _ _ _
  refine .seq ?_
  refine .seq ?_
  refine .drawn [[], [0], [], [0, 1, 2], [0, 1, 2, 3], [0, 1, 2, 3, 4], [0, 1, 2, 3, 4, 5], [0, 1, 2, 3, 4, 5, 6], [0, 1, 2, 3, 4, 5], [0, 1, 2, 3, 4, 5, 8], [0, 1, 2, 3, 4, 5], [0, 1, 2, 3, 4, 5, 8, 9, 10], [0, 1, 2, 3, 4, 5, 6, 7, 8, 9, 10, 11], [0, 1, 2, 3, 4, 5, 6, 7, 8, 9, 10, 11, 12], [0, 1, 2, 3, 4, 5, 6, 7, 8, 9, 10, 11, 12, 13], [0, 1, 2, 3, 4, 5, 6, 7, 8, 9, 10, 11, 12, 13, 14], [0, 1, 2, 3, 4, 5, 6, 7, 8, 9, 10, 11, 12, 13, 14, 15], [0, 1, 2, 3, 4, 5, 6, 7, 8, 9, 10, 11, 12, 13, 14, 15, 16], [0, 1, 2, 3, 4, 5, 6, 7, 8, 9, 10, 11, 12, 13, 14, 15, 16, 17], [0, 1, 2, 3, 4, 5, 6, 7, 8, 9, 10, 11, 12, 13, 14, 15, 16, 17, 18], [0, 1, 2, 3, 4, 5, 6, 7, 8, 9, 10, 11, 12, 13, 14, 15, 16, 17, 18, 19], [0, 1, 2, 3, 4, 5, 6, 7, 8, 9, 10, 11, 12, 13, 14, 15, 16, 17, 18, 19, 20], [0, 1, 2, 3, 4, 5, 6, 7, 8, 9, 10, 11, 12, 13, 14, 15, 16, 17, 18, 19, 20, 21], [0, 1, 2, 3, 4, 5, 6, 7, 8, 9, 10, 11, 12, 13, 14, 15, 16, 17, 18, 19, 20, 21, 22], [0, 1, 2, 3, 4, 5, 6, 7, 8, 9, 10, 11, 12, 13, 14, 15, 16, 17, 18, 19, 20, 21, 22, 23], [0, 1, 2, 3, 4, 5, 6, 7, 8, 9, 10, 11, 12, 13, 14, 15, 16, 17, 18, 19, 20, 21, 22, 23, 24], [0, 1, 2, 3, 4, 5, 6, 7, 8, 9, 10, 11, 12, 13, 14, 15, 16, 17, 18, 19, 20, 21, 22, 23, 24, 25], [0, 1, 2, 3, 4, 5, 6, 7, 8, 9, 10, 11, 12, 13, 14, 15, 16, 17, 18, 19, 20, 21, 22, 23, 24], [0, 1, 2, 3, 4, 5, 6, 7, 8, 9, 10, 11, 12, 13, 14, 15, 16, 17, 18, 19, 20, 21, 22, 23, 24, 25, 26, 27], [0, 1, 2, 3, 4, 5, 6, 7, 8, 9, 10, 11, 12, 13, 14, 15, 16, 17, 18, 19, 20, 21, 22, 23, 24, 25, 26, 27, 28], [0, 1, 2, 3, 4, 5, 6, 7, 8, 9, 10, 11, 12, 13, 14, 15, 16, 17, 18, 19, 20, 21, 22, 23, 24, 25, 26, 27, 28, 29], [0, 1, 2, 3, 4, 5, 6, 7, 8, 9, 10, 11, 12, 13, 14, 15, 16, 17, 18, 19, 20, 21, 22, 23, 24, 25, 26, 27, 28, 29, 30]] [1, 3, 7, 8, 9, 12, 26, 28] [] (by kernel_rfl) (by kernel_rfl) rfl ?_
  show DK _ [0, 1, 2, 3, 4, 5, 6, 7, 8, 9, 10, 11, 12, 13, 14, 15, 16, 17, 18, 19, 20, 21, 22, 23, 24, 25, 26, 27, 28, 29, 30, 31] _ _ _
  refine .q rfl (op_move rfl) trivial ?_
  refine .q rfl (op_call (U := []) [] [] (rbigB_ev _ (by omega)) Tryd.func109 (by kernel_rfl) rfl rfl rfl (⟨⟨_, rfl, rfl, rfl⟩, trivial⟩) (trivial) (trivial) (trivial) rfl) trivial ?_
  refine .q rfl (op_move rfl) trivial ?_
  refine .q rfl (op_call (U := []) [] [] (rtextB_ev _ (by first | omega | (simp only [List.length_append, List.length_cons, List.length_nil]; omega))) Tryd.func110 (by kernel_rfl) rfl rfl rfl (⟨⟨_, rfl, rfl, rfl⟩, trivial⟩) (trivial) (trivial) (trivial) rfl) trivial ?_
  refine .q rfl (op_eqS rfl rfl rfl) trivial ?_
  refine .q rfl (op_move rfl) trivial ?_
  refine .know (b' := false) (bne_eq_false_iff_eq.2 (congrArg textR (((big_mid hc hz).1)))) ?_
  refine .no rfl ⟨_, rfl, rfl⟩ ?_
  refine .no rfl ⟨_, rfl, rfl⟩ ?_
  refine .no rfl ⟨_, rfl, rfl⟩ ?_
  refine .no rfl ⟨_, rfl, rfl⟩ ?_
  refine .no rfl ⟨_, rfl, rfl⟩ ?_
  refine .no rfl ⟨_, rfl, rfl⟩ ?_
  refine .no rfl ⟨_, rfl, rfl⟩ ?_
  refine .no rfl ⟨_, rfl, rfl⟩ ?_
  refine .q rfl (op_pick_false rfl rfl rfl) trivial ?_
  refine .q rfl (op_move rfl) trivial ?_
  refine .q rfl (op_move rfl) ⟨_, rfl, rfl⟩ ?_
  refine .q rfl (op_index_str Tryd.underlying9 rfl rfl rfl (by exact hp)) ⟨_, rfl, rfl⟩ ?_
  refine .q rfl (op_bin8 rfl rfl rfl) ⟨_, rfl, rfl⟩ ?_
  refine .q rfl (op_pick_false rfl rfl rfl) trivial ?_
  refine .q rfl (op_move rfl) trivial ?_
  refine .know (b' := false) (decide_eq_false hc) ?_
  refine .q rfl (op_move rfl) ⟨_, rfl, rfl⟩ ?_
  refine .q rfl (op_index_str Tryd.underlying9 rfl rfl rfl (by exact hp)) ⟨_, rfl, rfl⟩ ?_
  refine .q rfl (op_bin8 rfl rfl rfl) ⟨_, rfl, rfl⟩ ?_
  refine .q rfl (op_move rfl) ⟨_, rfl, rfl⟩ ?_
  refine .know (b' := false) (beq_eq_false_iff_ne.2 hz) ?_
  refine .no rfl ⟨_, rfl, rfl⟩ ?_
  refine .no rfl ⟨_, rfl, rfl⟩ ?_
  refine .no rfl ⟨_, rfl, rfl⟩ ?_
  refine .no rfl ⟨_, rfl, rfl⟩ ?_
  refine .no rfl ⟨_, rfl, rfl⟩ ?_
  refine .q rfl (op_pick_false rfl rfl rfl) ⟨_, rfl, rfl⟩ ?_
  refine .q rfl (op_pick_false rfl rfl rfl) trivial ?_
  refine .nil ?_
  show Ev _ _ _ _ _
  refine .cond_false rfl rfl ?_
  refine .skip ?_
  show Ev _ _ _ _ _
  refine .seq ?_
  refine .seq ?_
  refine .region ?_
  refine .q (op_move rfl) trivial rfl ?_
  refine .q (op_index_str Tryd.underlying9 rfl rfl rfl (by exact hp)) trivial rfl ?_
  refine .q (op_bin8 rfl rfl rfl) trivial rfl ?_
  refine .nil ?_
  show Ev _ _ _ _ _
  refine .cond_false rfl (beq_eq_false_iff_ne.2 hz) ?_
  refine .skip ?_
  show Ev _ _ _ _ _
  refine .seq ?_
  refine .seq ?_
  refine .region ?_
  refine .q (op_move rfl) trivial rfl ?_
  refine .q (op_len_str Tryd.underlying9 rfl) trivial rfl ?_
  refine .q (op_move rfl) trivial rfl ?_
  refine .q (op_cmpI rfl rfl rfl) trivial rfl ?_
  refine .nil ?_
  show Ev _ _ _ _ _
  refine .cond_true rfl (decide_eq_true (by have hM : bigM most = min (max most 0) 4096 := rfl; omega)) ?_
  refine .seq ?_
  refine .region ?_
  refine .q (op_buildS (r := .agg [.str [], .i64 4]) Tryd.underlying47 rfl zero47 rel_zero47 rfl rfl rfl rfl) trivial rfl ?_
  refine .w (op_storeRow (by kernel_rfl) rfl rfl rfl rfl rfl (rfl) (rfl)) trivial rfl ?_
  refine .q (op_assign rfl) trivial rfl ?_
  refine .nil ?_
  show Ev _ _ _ _ _
  refine .ret ?_
  show RetOk _ _ _ _ _ _ _
  exact retc2 rfl (.inl rfl) ⟨_, _, _, _, rfl, rfl, rfl, rfl, rfl, Tryd.underlying47, rfl, (by kernel_rfl)⟩ rfl trivial
set_option maxRecDepth 100000 in
theorem rbig_low (i : DI) (hi : i.ok) (hr : i.r.length ≤ 800000) (most : Int) (h0 : (textD i (bigM most + 1)).2 ≠ []) (hz : (textD i (bigM most + 1)).2.getD 0 0 = 0) (hu : unsB (shortB (textD i (bigM most + 1)).2) = (textD i (bigM most + 1)).2) (hb : ¬ bigM most < (((textD i (bigM most + 1)).2.drop 1).length : Int)) : Meets Tryd.prog 64 [.agg [.str (i).r, .i64 (((i).e : Nat) : Int)], .i64 most] [] (.tup [.agg [.str ((textD i (bigM most + 1)).1).r, .i64 ((((textD i (bigM most + 1)).1).e : Nat) : Int)], .str ((textD i (bigM most + 1)).2.drop 1)]) [] := by
  have hl := (textD_len_le i (bigM most + 1)).1
  have hl2 : (textD i (bigM most + 1)).2.length ≤ i.r.length := hl
  have hp := List.length_pos_iff.2 h0
  have hd := ((big_zero h0 hz).2 hu).2
  refine meets_of_ev (nt := 67) Tryd.func64 rfl rfl (Nat.le_of_ble_eq_true rfl) ?_
  refine .seq ?_
  refine .region ?_
  refine .a (op_boxRow rfl rfl) trivial rfl ?_
  refine .a (op_allocRow zero47 rel_zero47 rfl) trivial rfl ?_
  refine .q (op_assign rfl) trivial rfl ?_
  refine .nil ?_
  show Ev _ _ _ _ _
  refine .seq ?_
  refine .region ?_
  refine .q (op_move rfl) trivial rfl ?_
  refine .q (op_maxI rfl rfl) trivial rfl ?_
  refine .q (op_minI rfl rfl) trivial rfl ?_
  refine .q (op_assign rfl) trivial rfl ?_
  refine .nil ?_
  show Ev _ _ _ _ _
  refine .seq ?_
  refine .region ?_
  refine .q (op_loadRow Tryd.underlying47 rfl (by kernel_rfl) rfl rfl rfl (rfl)) trivial rfl ?_
  refine .q (op_move rfl) trivial rfl ?_
  refine .q (op_maxI rfl rfl) trivial rfl ?_
  refine .q (op_addI rfl rfl ⟨by omega, by omega⟩) trivial rfl ?_
  refine .as (.i64 (bigM most + 1)) (congrArg AV.i64 (by unfold bigM; omega)) ?_
  refine .q (op_call (U := []) [] [] (rtext_ev i hi (bigM most + 1)) Tryd.func65 (by kernel_rfl) rfl rfl rfl (⟨⟨_, rfl, rfl, rfl⟩, ⟨_, rfl, rfl, rfl⟩, trivial⟩) (trivial) (trivial) (trivial) rfl) trivial rfl ?_
  refine .q (op_move rfl) trivial rfl ?_
  refine .q (op_extract rfl rfl) trivial rfl ?_
  refine .q (op_extract rfl rfl) trivial rfl ?_
  refine .a (op_allocRow zero47 rel_zero47 rfl) trivial rfl ?_
  refine .w (op_storeRow (by kernel_rfl) rfl rfl rfl rfl rfl (rfl) (rfl)) trivial rfl ?_
  refine .q (op_assign rfl) trivial rfl ?_
  refine .nil ?_
  show Ev _ _ _ _ _
  refine .seq ?_
  refine .seq ?_
  refine .region ?_
  refine .q (op_move rfl) trivial rfl ?_
  refine .q (op_eqS rfl rfl rfl) trivial rfl ?_
  refine .nil ?_
  show Ev _ _ _ _ _
  refine .cond_false rfl (beq_eq_false_iff_ne.2 h0) ?_
  refine .skip ?_
  show Ev _ _ _ _ _
  refine .seq ?_
  refine .seq ?_
  refine .drawn [[], [0], [], [0, 1, 2], [0, 1, 2, 3], [0, 1, 2, 3, 4], [0, 1, 2, 3, 4, 5], [0, 1, 2, 3, 4, 5, 6], [0, 1, 2, 3, 4, 5], [0, 1, 2, 3, 4, 5, 8], [0, 1, 2, 3, 4, 5], [0, 1, 2, 3, 4, 5, 8, 9, 10], [0, 1, 2, 3, 4, 5, 6, 7, 8, 9, 10, 11], [0, 1, 2, 3, 4, 5, 6, 7, 8, 9, 10, 11, 12], [0, 1, 2, 3, 4, 5, 6, 7, 8, 9, 10, 11, 12, 13], [0, 1, 2, 3, 4, 5, 6, 7, 8, 9, 10, 11, 12, 13, 14], [0, 1, 2, 3, 4, 5, 6, 7, 8, 9, 10, 11, 12, 13, 14, 15], [0, 1, 2, 3, 4, 5, 6, 7, 8, 9, 10, 11, 12, 13, 14, 15, 16], [0, 1, 2, 3, 4, 5, 6, 7, 8, 9, 10, 11, 12, 13, 14, 15, 16, 17], [0, 1, 2, 3, 4, 5, 6, 7, 8, 9, 10, 11, 12, 13, 14, 15, 16, 17, 18], [0, 1, 2, 3, 4, 5, 6, 7, 8, 9, 10, 11, 12, 13, 14, 15, 16, 17, 18, 19], [0, 1, 2, 3, 4, 5, 6, 7, 8, 9, 10, 11, 12, 13, 14, 15, 16, 17, 18, 19, 20], [0, 1, 2, 3, 4, 5, 6, 7, 8, 9, 10, 11, 12, 13, 14, 15, 16, 17, 18, 19, 20, 21], [0, 1, 2, 3, 4, 5, 6, 7, 8, 9, 10, 11, 12, 13, 14, 15, 16, 17, 18, 19, 20, 21, 22], [0, 1, 2, 3, 4, 5, 6, 7, 8, 9, 10, 11, 12, 13, 14, 15, 16, 17, 18, 19, 20, 21, 22, 23], [0, 1, 2, 3, 4, 5, 6, 7, 8, 9, 10, 11, 12, 13, 14, 15, 16, 17, 18, 19, 20, 21, 22, 23, 24], [0, 1, 2, 3, 4, 5, 6, 7, 8, 9, 10, 11, 12, 13, 14, 15, 16, 17, 18, 19, 20, 21, 22, 23, 24, 25], [0, 1, 2, 3, 4, 5, 6, 7, 8, 9, 10, 11, 12, 13, 14, 15, 16, 17, 18, 19, 20, 21, 22, 23, 24], [0, 1, 2, 3, 4, 5, 6, 7, 8, 9, 10, 11, 12, 13, 14, 15, 16, 17, 18, 19, 20, 21, 22, 23, 24, 25, 26, 27], [0, 1, 2, 3, 4, 5, 6, 7, 8, 9, 10, 11, 12, 13, 14, 15, 16, 17, 18, 19, 20, 21, 22, 23, 24, 25, 26, 27, 28], [0, 1, 2, 3, 4, 5, 6, 7, 8, 9, 10, 11, 12, 13, 14, 15, 16, 17, 18, 19, 20, 21, 22, 23, 24, 25, 26, 27, 28, 29], [0, 1, 2, 3, 4, 5, 6, 7, 8, 9, 10, 11, 12, 13, 14, 15, 16, 17, 18, 19, 20, 21, 22, 23, 24, 25, 26, 27, 28, 29, 30]] [1, 3, 7, 8, 9, 12, 26, 28] [] (by kernel_rfl) (by kernel_rfl) rfl ?_
  show DK _ [0, 1, 2, 3, 4, 5, 6, 7, 8, 9, 10, 11, 12, 13, 14, 15, 16, 17, 18, 19, 20, 21, 22, 23, 24, 25, 26, 27, 28, 29, 30, 31] _ _ _
  refine .q rfl (op_move rfl) trivial ?_
  refine .q rfl (op_call (U := []) [] [] (rbigB_ev _ (by omega)) Tryd.func109 (by kernel_rfl) rfl rfl rfl (⟨⟨_, rfl, rfl, rfl⟩, trivial⟩) (trivial) (trivial) (trivial) rfl) trivial ?_
  refine .q rfl (op_move rfl) trivial ?_
  refine .q rfl (op_call (U := []) [] [] (rtextB_ev _ (by first | omega | (simp only [List.length_append, List.length_cons, List.length_nil]; omega))) Tryd.func110 (by kernel_rfl) rfl rfl rfl (⟨⟨_, rfl, rfl, rfl⟩, trivial⟩) (trivial) (trivial) (trivial) rfl) trivial ?_
  refine .q rfl (op_eqS rfl rfl rfl) trivial ?_
  refine .q rfl (op_move rfl) trivial ?_
  refine .know (b' := false) (bne_eq_false_iff_eq.2 (congrArg textR ((hu)))) ?_
  refine .no rfl ⟨_, rfl, rfl⟩ ?_
  refine .no rfl ⟨_, rfl, rfl⟩ ?_
  refine .no rfl ⟨_, rfl, rfl⟩ ?_
  refine .no rfl ⟨_, rfl, rfl⟩ ?_
  refine .no rfl ⟨_, rfl, rfl⟩ ?_
  refine .no rfl ⟨_, rfl, rfl⟩ ?_
  refine .no rfl ⟨_, rfl, rfl⟩ ?_
  refine .no rfl ⟨_, rfl, rfl⟩ ?_
  refine .q rfl (op_pick_false rfl rfl rfl) trivial ?_
  refine .q rfl (op_move rfl) trivial ?_
  refine .q rfl (op_move rfl) ⟨_, rfl, rfl⟩ ?_
  refine .q rfl (op_index_str Tryd.underlying9 rfl rfl rfl (by exact hp)) ⟨_, rfl, rfl⟩ ?_
  refine .q rfl (op_bin8 rfl rfl rfl) ⟨_, rfl, rfl⟩ ?_
  refine .q rfl (op_pick_false rfl rfl rfl) trivial ?_
  refine .q rfl (op_move rfl) trivial ?_
  refine .know (b' := false) (decide_eq_false (by rw [hz]; decide)) ?_
  refine .q rfl (op_move rfl) ⟨_, rfl, rfl⟩ ?_
  refine .q rfl (op_index_str Tryd.underlying9 rfl rfl rfl (by exact hp)) ⟨_, rfl, rfl⟩ ?_
  refine .q rfl (op_bin8 rfl rfl rfl) ⟨_, rfl, rfl⟩ ?_
  refine .q rfl (op_move rfl) ⟨_, rfl, rfl⟩ ?_
  refine .know (b' := true) (beq_iff_eq.2 hz) ?_
  refine .q rfl (op_move rfl) ⟨_, rfl, rfl⟩ ?_
  refine .q rfl (op_call (U := []) [] [] (rbigB_ev _ (by omega)) Tryd.func109 (by kernel_rfl) rfl rfl rfl (⟨⟨_, rfl, rfl, rfl⟩, trivial⟩) (trivial) (trivial) (trivial) rfl) ⟨_, rfl, rfl⟩ ?_
  refine .q rfl (op_move rfl) ⟨_, rfl, rfl⟩ ?_
  refine .q rfl (op_call (U := []) [] [] (rtextB_ev _ (by first | omega | (simp only [List.length_append, List.length_cons, List.length_nil]; omega))) Tryd.func110 (by kernel_rfl) rfl rfl rfl (⟨⟨_, rfl, rfl, rfl⟩, trivial⟩) (trivial) (trivial) (trivial) rfl) ⟨_, rfl, rfl⟩ ?_
  refine .q rfl (op_eqS rfl rfl rfl) ⟨_, rfl, rfl⟩ ?_
  refine .q rfl (op_pick_true rfl rfl rfl) ⟨_, rfl, rfl⟩ ?_
  refine .q rfl (op_pick_false rfl rfl rfl) trivial ?_
  refine .nil ?_
  show Ev _ _ _ _ _
  refine .cond_false rfl (bne_eq_false_iff_eq.2 (congrArg textR ((hu)))) ?_
  refine .skip ?_
  show Ev _ _ _ _ _
  refine .seq ?_
  refine .seq ?_
  refine .region ?_
  refine .q (op_move rfl) trivial rfl ?_
  refine .q (op_index_str Tryd.underlying9 rfl rfl rfl (by exact hp)) trivial rfl ?_
  refine .q (op_bin8 rfl rfl rfl) trivial rfl ?_
  refine .nil ?_
  show Ev _ _ _ _ _
  refine .cond_true rfl (beq_iff_eq.2 hz) ?_
  refine .region ?_
  refine .q (op_move rfl) trivial rfl ?_
  refine .q (ap_slice_str_lo Tryd.underlying9 rfl (bnd_some rfl rfl) (by show 1 ≤ (textD i (bigM most + 1)).2.length; have := List.length_pos_iff.2 h0; omega)) trivial rfl ?_
  refine .as (.str ((textD i (bigM most + 1)).2.drop 1)) rfl ?_
  refine .q (op_assign rfl) trivial rfl ?_
  refine .nil ?_
  show Ev _ _ _ _ _
  refine .seq ?_
  refine .seq ?_
  refine .region ?_
  refine .q (op_move rfl) trivial rfl ?_
  refine .q (op_len_str Tryd.underlying9 rfl) trivial rfl ?_
  refine .q (op_move rfl) trivial rfl ?_
  refine .q (op_cmpI rfl rfl rfl) trivial rfl ?_
  refine .nil ?_
  show Ev _ _ _ _ _
  refine .cond_false rfl (decide_eq_false (by have hM : bigM most = min (max most 0) 4096 := rfl; omega)) ?_
  refine .skip ?_
  show Ev _ _ _ _ _
  refine .seq ?_
  refine .region ?_
  refine .q (op_loadRow Tryd.underlying47 rfl (by kernel_rfl) rfl rfl rfl (rfl)) trivial rfl ?_
  refine .q (op_move rfl) trivial rfl ?_
  refine .w (op_storeRow (by kernel_rfl) rfl rfl rfl rfl rfl (rfl) (rfl)) trivial rfl ?_
  refine .q (op_assign rfl) trivial rfl ?_
  refine .nil ?_
  show Ev _ _ _ _ _
  refine .ret ?_
  show RetOk _ _ _ _ _ _ _
  exact retc2 rfl (.inl rfl) ⟨_, _, _, _, rfl, rfl, rfl, rfl, rfl, Tryd.underlying47, rfl, (by kernel_rfl)⟩ rfl trivial
set_option maxRecDepth 100000 in
theorem rbig_lowb (i : DI) (hi : i.ok) (hr : i.r.length ≤ 800000) (most : Int) (h0 : (textD i (bigM most + 1)).2 ≠ []) (hz : (textD i (bigM most + 1)).2.getD 0 0 = 0) (hu : unsB (shortB (textD i (bigM most + 1)).2) = (textD i (bigM most + 1)).2) (hb : bigM most < (((textD i (bigM most + 1)).2.drop 1).length : Int)) : Meets Tryd.prog 64 [.agg [.str (i).r, .i64 (((i).e : Nat) : Int)], .i64 most] [] (.tup [.agg [.str [], .i64 4], .str []]) [] := by
  have hl := (textD_len_le i (bigM most + 1)).1
  have hl2 : (textD i (bigM most + 1)).2.length ≤ i.r.length := hl
  have hp := List.length_pos_iff.2 h0
  have hd := ((big_zero h0 hz).2 hu).2
  refine meets_of_ev (nt := 67) Tryd.func64 rfl rfl (Nat.le_of_ble_eq_true rfl) ?_
  refine .seq ?_
  refine .region ?_
  refine .a (op_boxRow rfl rfl) trivial rfl ?_
  refine .a (op_allocRow zero47 rel_zero47 rfl) trivial rfl ?_
  refine .q (op_assign rfl) trivial rfl ?_
  refine .nil ?_
  show Ev _ _ _ _ _
  refine .seq ?_
  refine .region ?_
  refine .q (op_move rfl) trivial rfl ?_
  refine .q (op_maxI rfl rfl) trivial rfl ?_
  refine .q (op_minI rfl rfl) trivial rfl ?_
  refine .q (op_assign rfl) trivial rfl ?_
  refine .nil ?_
  show Ev _ _ _ _ _
  refine .seq ?_
  refine .region ?_
  refine .q (op_loadRow Tryd.underlying47 rfl (by kernel_rfl) rfl rfl rfl (rfl)) trivial rfl ?_
  refine .q (op_move rfl) trivial rfl ?_
  refine .q (op_maxI rfl rfl) trivial rfl ?_
  refine .q (op_addI rfl rfl ⟨by omega, by omega⟩) trivial rfl ?_
  refine .as (.i64 (bigM most + 1)) (congrArg AV.i64 (by unfold bigM; omega)) ?_
  refine .q (op_call (U := []) [] [] (rtext_ev i hi (bigM most + 1)) Tryd.func65 (by kernel_rfl) rfl rfl rfl (⟨⟨_, rfl, rfl, rfl⟩, ⟨_, rfl, rfl, rfl⟩, trivial⟩) (trivial) (trivial) (trivial) rfl) trivial rfl ?_
  refine .q (op_move rfl) trivial rfl ?_
  refine .q (op_extract rfl rfl) trivial rfl ?_
  refine .q (op_extract rfl rfl) trivial rfl ?_
  refine .a (op_allocRow zero47 rel_zero47 rfl) trivial rfl ?_
  refine .w (op_storeRow (by kernel_rfl) rfl rfl rfl rfl rfl (rfl) (rfl)) trivial rfl ?_
  refine .q (op_assign rfl) trivial rfl ?_
  refine .nil ?_
  show Ev _ _ _ _ _
  refine .seq ?_
  refine .seq ?_
  refine .region ?_
  refine .q (op_move rfl) trivial rfl ?_
  refine .q (op_eqS rfl rfl rfl) trivial rfl ?_
  refine .nil ?_
  show Ev _ _ _ _ _
  refine .cond_false rfl (beq_eq_false_iff_ne.2 h0) ?_
  refine .skip ?_
  show Ev _ _ _ _ _
  refine .seq ?_
  refine .seq ?_
  refine .drawn [[], [0], [], [0, 1, 2], [0, 1, 2, 3], [0, 1, 2, 3, 4], [0, 1, 2, 3, 4, 5], [0, 1, 2, 3, 4, 5, 6], [0, 1, 2, 3, 4, 5], [0, 1, 2, 3, 4, 5, 8], [0, 1, 2, 3, 4, 5], [0, 1, 2, 3, 4, 5, 8, 9, 10], [0, 1, 2, 3, 4, 5, 6, 7, 8, 9, 10, 11], [0, 1, 2, 3, 4, 5, 6, 7, 8, 9, 10, 11, 12], [0, 1, 2, 3, 4, 5, 6, 7, 8, 9, 10, 11, 12, 13], [0, 1, 2, 3, 4, 5, 6, 7, 8, 9, 10, 11, 12, 13, 14], [0, 1, 2, 3, 4, 5, 6, 7, 8, 9, 10, 11, 12, 13, 14, 15], [0, 1, 2, 3, 4, 5, 6, 7, 8, 9, 10, 11, 12, 13, 14, 15, 16], [0, 1, 2, 3, 4, 5, 6, 7, 8, 9, 10, 11, 12, 13, 14, 15, 16, 17], [0, 1, 2, 3, 4, 5, 6, 7, 8, 9, 10, 11, 12, 13, 14, 15, 16, 17, 18], [0, 1, 2, 3, 4, 5, 6, 7, 8, 9, 10, 11, 12, 13, 14, 15, 16, 17, 18, 19], [0, 1, 2, 3, 4, 5, 6, 7, 8, 9, 10, 11, 12, 13, 14, 15, 16, 17, 18, 19, 20], [0, 1, 2, 3, 4, 5, 6, 7, 8, 9, 10, 11, 12, 13, 14, 15, 16, 17, 18, 19, 20, 21], [0, 1, 2, 3, 4, 5, 6, 7, 8, 9, 10, 11, 12, 13, 14, 15, 16, 17, 18, 19, 20, 21, 22], [0, 1, 2, 3, 4, 5, 6, 7, 8, 9, 10, 11, 12, 13, 14, 15, 16, 17, 18, 19, 20, 21, 22, 23], [0, 1, 2, 3, 4, 5, 6, 7, 8, 9, 10, 11, 12, 13, 14, 15, 16, 17, 18, 19, 20, 21, 22, 23, 24], [0, 1, 2, 3, 4, 5, 6, 7, 8, 9, 10, 11, 12, 13, 14, 15, 16, 17, 18, 19, 20, 21, 22, 23, 24, 25], [0, 1, 2, 3, 4, 5, 6, 7, 8, 9, 10, 11, 12, 13, 14, 15, 16, 17, 18, 19, 20, 21, 22, 23, 24], [0, 1, 2, 3, 4, 5, 6, 7, 8, 9, 10, 11, 12, 13, 14, 15, 16, 17, 18, 19, 20, 21, 22, 23, 24, 25, 26, 27], [0, 1, 2, 3, 4, 5, 6, 7, 8, 9, 10, 11, 12, 13, 14, 15, 16, 17, 18, 19, 20, 21, 22, 23, 24, 25, 26, 27, 28], [0, 1, 2, 3, 4, 5, 6, 7, 8, 9, 10, 11, 12, 13, 14, 15, 16, 17, 18, 19, 20, 21, 22, 23, 24, 25, 26, 27, 28, 29], [0, 1, 2, 3, 4, 5, 6, 7, 8, 9, 10, 11, 12, 13, 14, 15, 16, 17, 18, 19, 20, 21, 22, 23, 24, 25, 26, 27, 28, 29, 30]] [1, 3, 7, 8, 9, 12, 26, 28] [] (by kernel_rfl) (by kernel_rfl) rfl ?_
  show DK _ [0, 1, 2, 3, 4, 5, 6, 7, 8, 9, 10, 11, 12, 13, 14, 15, 16, 17, 18, 19, 20, 21, 22, 23, 24, 25, 26, 27, 28, 29, 30, 31] _ _ _
  refine .q rfl (op_move rfl) trivial ?_
  refine .q rfl (op_call (U := []) [] [] (rbigB_ev _ (by omega)) Tryd.func109 (by kernel_rfl) rfl rfl rfl (⟨⟨_, rfl, rfl, rfl⟩, trivial⟩) (trivial) (trivial) (trivial) rfl) trivial ?_
  refine .q rfl (op_move rfl) trivial ?_
  refine .q rfl (op_call (U := []) [] [] (rtextB_ev _ (by first | omega | (simp only [List.length_append, List.length_cons, List.length_nil]; omega))) Tryd.func110 (by kernel_rfl) rfl rfl rfl (⟨⟨_, rfl, rfl, rfl⟩, trivial⟩) (trivial) (trivial) (trivial) rfl) trivial ?_
  refine .q rfl (op_eqS rfl rfl rfl) trivial ?_
  refine .q rfl (op_move rfl) trivial ?_
  refine .know (b' := false) (bne_eq_false_iff_eq.2 (congrArg textR ((hu)))) ?_
  refine .no rfl ⟨_, rfl, rfl⟩ ?_
  refine .no rfl ⟨_, rfl, rfl⟩ ?_
  refine .no rfl ⟨_, rfl, rfl⟩ ?_
  refine .no rfl ⟨_, rfl, rfl⟩ ?_
  refine .no rfl ⟨_, rfl, rfl⟩ ?_
  refine .no rfl ⟨_, rfl, rfl⟩ ?_
  refine .no rfl ⟨_, rfl, rfl⟩ ?_
  refine .no rfl ⟨_, rfl, rfl⟩ ?_
  refine .q rfl (op_pick_false rfl rfl rfl) trivial ?_
  refine .q rfl (op_move rfl) trivial ?_
  refine .q rfl (op_move rfl) ⟨_, rfl, rfl⟩ ?_
  refine .q rfl (op_index_str Tryd.underlying9 rfl rfl rfl (by exact hp)) ⟨_, rfl, rfl⟩ ?_
  refine .q rfl (op_bin8 rfl rfl rfl) ⟨_, rfl, rfl⟩ ?_
  refine .q rfl (op_pick_false rfl rfl rfl) trivial ?_
  refine .q rfl (op_move rfl) trivial ?_
  refine .know (b' := false) (decide_eq_false (by rw [hz]; decide)) ?_
  refine .q rfl (op_move rfl) ⟨_, rfl, rfl⟩ ?_
  refine .q rfl (op_index_str Tryd.underlying9 rfl rfl rfl (by exact hp)) ⟨_, rfl, rfl⟩ ?_
  refine .q rfl (op_bin8 rfl rfl rfl) ⟨_, rfl, rfl⟩ ?_
  refine .q rfl (op_move rfl) ⟨_, rfl, rfl⟩ ?_
  refine .know (b' := true) (beq_iff_eq.2 hz) ?_
  refine .q rfl (op_move rfl) ⟨_, rfl, rfl⟩ ?_
  refine .q rfl (op_call (U := []) [] [] (rbigB_ev _ (by omega)) Tryd.func109 (by kernel_rfl) rfl rfl rfl (⟨⟨_, rfl, rfl, rfl⟩, trivial⟩) (trivial) (trivial) (trivial) rfl) ⟨_, rfl, rfl⟩ ?_
  refine .q rfl (op_move rfl) ⟨_, rfl, rfl⟩ ?_
  refine .q rfl (op_call (U := []) [] [] (rtextB_ev _ (by first | omega | (simp only [List.length_append, List.length_cons, List.length_nil]; omega))) Tryd.func110 (by kernel_rfl) rfl rfl rfl (⟨⟨_, rfl, rfl, rfl⟩, trivial⟩) (trivial) (trivial) (trivial) rfl) ⟨_, rfl, rfl⟩ ?_
  refine .q rfl (op_eqS rfl rfl rfl) ⟨_, rfl, rfl⟩ ?_
  refine .q rfl (op_pick_true rfl rfl rfl) ⟨_, rfl, rfl⟩ ?_
  refine .q rfl (op_pick_false rfl rfl rfl) trivial ?_
  refine .nil ?_
  show Ev _ _ _ _ _
  refine .cond_false rfl (bne_eq_false_iff_eq.2 (congrArg textR ((hu)))) ?_
  refine .skip ?_
  show Ev _ _ _ _ _
  refine .seq ?_
  refine .seq ?_
  refine .region ?_
  refine .q (op_move rfl) trivial rfl ?_
  refine .q (op_index_str Tryd.underlying9 rfl rfl rfl (by exact hp)) trivial rfl ?_
  refine .q (op_bin8 rfl rfl rfl) trivial rfl ?_
  refine .nil ?_
  show Ev _ _ _ _ _
  refine .cond_true rfl (beq_iff_eq.2 hz) ?_
  refine .region ?_
  refine .q (op_move rfl) trivial rfl ?_
  refine .q (ap_slice_str_lo Tryd.underlying9 rfl (bnd_some rfl rfl) (by show 1 ≤ (textD i (bigM most + 1)).2.length; have := List.length_pos_iff.2 h0; omega)) trivial rfl ?_
  refine .as (.str ((textD i (bigM most + 1)).2.drop 1)) rfl ?_
  refine .q (op_assign rfl) trivial rfl ?_
  refine .nil ?_
  show Ev _ _ _ _ _
  refine .seq ?_
  refine .seq ?_
  refine .region ?_
  refine .q (op_move rfl) trivial rfl ?_
  refine .q (op_len_str Tryd.underlying9 rfl) trivial rfl ?_
  refine .q (op_move rfl) trivial rfl ?_
  refine .q (op_cmpI rfl rfl rfl) trivial rfl ?_
  refine .nil ?_
  show Ev _ _ _ _ _
  refine .cond_true rfl (decide_eq_true (by have hM : bigM most = min (max most 0) 4096 := rfl; omega)) ?_
  refine .seq ?_
  refine .region ?_
  refine .q (op_buildS (r := .agg [.str [], .i64 4]) Tryd.underlying47 rfl zero47 rel_zero47 rfl rfl rfl rfl) trivial rfl ?_
  refine .w (op_storeRow (by kernel_rfl) rfl rfl rfl rfl rfl (rfl) (rfl)) trivial rfl ?_
  refine .q (op_assign rfl) trivial rfl ?_
  refine .nil ?_
  show Ev _ _ _ _ _
  refine .ret ?_
  show RetOk _ _ _ _ _ _ _
  exact retc2 rfl (.inl rfl) ⟨_, _, _, _, rfl, rfl, rfl, rfl, rfl, Tryd.underlying47, rfl, (by kernel_rfl)⟩ rfl trivial
theorem rbig_ev (i : DI) (hi : i.ok) (hr : i.r.length ≤ 800000) (most : Int) : Meets Tryd.prog 64 [.agg [.str (i).r, .i64 (((i).e : Nat) : Int)], .i64 most] [] (.tup [.agg [.str ((bigD i most).1).r, .i64 ((((bigD i most).1).e : Nat) : Int)], .str (bigD i most).2]) [] := by
  by_cases h0 : (textD i (bigM most + 1)).2 = []
  · have e : bigD i most = ((textD i (bigM most + 1)).1, []) := by
      unfold bigD bigT
      rw [h0, if_pos (show unsB (shortB []) = [] from rfl), if_neg (by show ¬ bigM most < ((0 : Nat) : Int); have hM : bigM most = min (max most 0) 4096 := rfl; omega)]; rfl
    rw [e]; exact rbig_nil i hi hr most h0
  have he : (textD i (bigM most + 1)).1.e = 0 := textD_e hi h0
  have hF : ∀ k, failD (textD i (bigM most + 1)).1 k = ⟨[], k⟩ := fun k => by unfold failD; rw [he]; rfl
  by_cases hu : unsB (shortB (textD i (bigM most + 1)).2) = (textD i (bigM most + 1)).2
  · by_cases hz : (textD i (bigM most + 1)).2.getD 0 0 = 0
    · have hd := (big_zero h0 hz).2 hu
      by_cases hb : bigM most < (((textD i (bigM most + 1)).2.drop 1).length : Int)
      · have e : bigD i most = (⟨[], 4⟩, []) := by
          unfold bigD bigT
          rw [if_pos hu, hd.1, if_pos hb, hF]
        rw [e]; exact rbig_lowb i hi hr most h0 hz hu hb
      · have e : bigD i most = ((textD i (bigM most + 1)).1, (textD i (bigM most + 1)).2.drop 1) := by
          unfold bigD bigT
          rw [if_pos hu, hd.1, if_neg hb]
        rw [e]; exact rbig_low i hi hr most h0 hz hu hb
    · have hc : ¬ 127 < (textD i (bigM most + 1)).2.getD 0 0 := fun hc => (big_hi h0 hc).1 hu
      have hs := (big_mid hc hz).2
      by_cases hb : bigM most < ((textD i (bigM most + 1)).2.length : Int)
      · have e : bigD i most = (⟨[], 4⟩, []) := by
          unfold bigD bigT
          rw [if_pos hu, hs, if_pos hb, hF]
        rw [e]; exact rbig_midb i hi hr most h0 hc hz hb
      · have e : bigD i most = ((textD i (bigM most + 1)).1, (textD i (bigM most + 1)).2) := by
          unfold bigD bigT
          rw [if_pos hu, hs, if_neg hb]
        rw [e]; exact rbig_mid i hi hr most h0 hc hz hb
  · have e : bigD i most = (⟨[], 3⟩, []) := by
      unfold bigD bigT
      rw [if_neg hu, hF]
    rw [e]
    by_cases hc : 127 < (textD i (bigM most + 1)).2.getD 0 0
    · exact rbig_hi i hi hr most h0 hc
    · by_cases hz : (textD i (bigM most + 1)).2.getD 0 0 = 0
      · exact rbig_bad i hi hr most h0 hz hu
      · exact absurd (big_mid hc hz).1 hu
end Go.Proofs.YteefpaiefphdpaaDoor
namespace Go.Proofs.YteefpaiefphdpaaDoor
open Go.RowKit
theorem num1_lt (i : DI) : (numD i 1).2.toNat < 256 := by
  show (numL (rawD i 1).2 (rawD i 1).2.length).toNat < 256
  rcases rawD_length i 1 with h | h
  · rw [h]
    show ((0 : UInt64) <<< UInt64.ofNat 8 ||| ((rawD i 1).2.getD 0 0).toUInt64).toNat < 256
    rw [show (0 : UInt64) <<< UInt64.ofNat 8 = 0 from rfl, UInt64.zero_or]
    have := ((rawD i 1).2.getD 0 0).toNat_lt
    rw [UInt8.toNat_toUInt64]; exact this
  · rw [h]; decide
theorem byte_num (i : DI) : (byteD i).2.toUInt64 = (numD i 1).2 := by
  apply UInt64.toNat_inj.1
  have := num1_lt i
  show ((numD i 1).2.toUInt8).toUInt64.toNat = _
  rw [UInt8.toNat_toUInt64, UInt64.toNat_toUInt8]; omega
theorem u32_num (i : DI) : (u32D i).2.toUInt64 = (numD i 4).2 := by
  apply UInt64.toNat_inj.1
  have := num4_lt i
  show ((numD i 4).2.toUInt32).toUInt64.toNat = _
  rw [UInt32.toNat_toUInt64, UInt64.toNat_toUInt32]; omega
theorem bool_num (i : DI) : (boolD i).2 = ((numD i 1).2 != 0) := by
  show ((byteD i).2 != 0) = _
  rw [← byte_num]
  by_cases h : (byteD i).2 = 0
  · rw [h]; rfl
  · have h2 : (byteD i).2.toUInt64 ≠ 0 := fun e => h (by
      apply UInt8.toNat_inj.1
      have := congrArg UInt64.toNat e
      rw [UInt8.toNat_toUInt64] at this
      exact this)
    rw [bne_iff_ne.2 h, bne_iff_ne.2 h2]
/-- What is left after an ask. -/
def stepD (k n : Int) (i : DI) : DI :=
  if k = 0 then (byteD i).1 else if k = 1 then (boolD i).1 else if k = 2 then (u32D i).1 else if k = 3 then (u64D i).1
  else if k = 4 then (rawD i n.toNat).1 else if k = 6 then (namesD i).1 else if k = 7 then (bigD i n).1 else (textD i n).1
set_option maxRecDepth 100000 in
theorem lsame_nil  : Meets Tryd.prog 62 [.nilsl, .nilsl] [] (.bool true) [] := by
  refine meets_of_ev (nt := 26) Tryd.func62 rfl rfl (Nat.le_of_ble_eq_true rfl) ?_
  refine .seq ?_
  refine .region ?_
  refine .q (op_assign rfl) trivial rfl ?_
  refine .nil ?_
  show Ev _ _ _ _ _
  refine .seq ?_
  refine .seq ?_
  refine .region ?_
  refine .q (op_move rfl) trivial rfl ?_
  refine .q (op_len_nil Tryd.underlying104 rfl) trivial rfl ?_
  refine .q (op_move rfl) trivial rfl ?_
  refine .q (op_len_nil Tryd.underlying104 rfl) trivial rfl ?_
  refine .q (op_cmpI rfl rfl rfl) trivial rfl ?_
  refine .nil ?_
  show Ev _ _ _ _ _
  refine .cond_false rfl (bne_self_eq_false _) ?_
  refine .skip ?_
  show Ev _ _ _ _ _
  refine .seq ?_
  refine .seq ?_
  refine .region ?_
  refine .q (op_move rfl) trivial rfl ?_
  refine .q (op_len_nil Tryd.underlying104 rfl) trivial rfl ?_
  refine .q (op_move rfl) trivial rfl ?_
  refine .nil ?_
  show Ev _ _ _ _ _
  refine .block ?_
  refine Ev.rounds 1 ?_
  show Ev _ _ _ _ _
  refine .seq ?_
  refine .region ?_
  refine .q (op_cmpI rfl rfl rfl) trivial rfl ?_
  refine .nil ?_
  show Ev _ _ _ _ _
  refine .seq ?_
  refine .cond_false rfl (rfl) ?_
  refine .exit ?_
  show Ev _ _ _ _ _
  refine .seq ?_
  refine .region ?_
  refine .q (op_assign rfl) trivial rfl ?_
  refine .nil ?_
  show Ev _ _ _ _ _
  refine .ret ?_
  show RetOk _ _ _ _ _ _ _
  exact ret1v rfl (.inl rfl) rfl rfl trivial
set_option maxRecDepth 100000 in
theorem lsame_ok (l : List (List UInt8)) (n : Nat) (hn : n = l.length) (hb : n ≤ 1000000) : Meets Tryd.prog 62 [.sl 500 0 n 1, .sl 501 0 n 1] [(500, some ⟨.aggS l, 9, false⟩), (501, some ⟨.aggS l, 9, false⟩)] (.bool true) [(500, some ⟨.aggS l, 9, false⟩), (501, some ⟨.aggS l, 9, false⟩)] := by
  refine meets_of_ev (nt := 26) Tryd.func62 rfl rfl (Nat.le_of_ble_eq_true rfl) ?_
  refine .seq ?_
  refine .region ?_
  refine .q (op_assign rfl) trivial rfl ?_
  refine .nil ?_
  show Ev _ _ _ _ _
  refine .seq ?_
  refine .seq ?_
  refine .region ?_
  refine .q (op_move rfl) trivial rfl ?_
  refine .q (op_len_sl Tryd.underlying104 rfl) trivial rfl ?_
  refine .q (op_move rfl) trivial rfl ?_
  refine .q (op_len_sl Tryd.underlying104 rfl) trivial rfl ?_
  refine .q (op_cmpI rfl rfl rfl) trivial rfl ?_
  refine .nil ?_
  show Ev _ _ _ _ _
  refine .cond_false rfl (bne_self_eq_false _) ?_
  refine .skip ?_
  show Ev _ _ _ _ _
  refine .seq ?_
  refine .seq ?_
  refine .region ?_
  refine .q (op_move rfl) trivial rfl ?_
  refine .q (op_len_sl Tryd.underlying104 rfl) trivial rfl ?_
  refine .q (op_move rfl) trivial rfl ?_
  refine .nil ?_
  show Ev _ _ _ _ _
  refine .block ?_
  refine Ev.loop (ι := { j : Nat // j ≤ n }) (fun j => ⟨[(0, .sl 500 0 n 1), (1, .sl 501 0 n 1), (12, .i64 ((n : Nat) : Int)), (13, .i64 ((j.1 : Nat) : Int))], [(500, some ⟨.aggS l, 9, false⟩), (501, some ⟨.aggS l, 9, false⟩)], 1000⟩) (fun j => n - j.1) ⟨0, Nat.zero_le _⟩ (StLe.mk [] rfl rfl ⟨⟨_, rfl, by first | rfl | (simp only [AV.ren]; congr 1; omega), rfl⟩, ⟨_, rfl, by first | rfl | (simp only [AV.ren]; congr 1; omega), rfl⟩, ⟨_, rfl, by first | rfl | (simp only [AV.ren]; congr 1; omega), rfl⟩, ⟨_, rfl, by first | rfl | (simp only [AV.ren]; congr 1; omega), rfl⟩, trivial⟩ ⟨⟨_, _, rfl, rfl, by first | rfl | (simp only [AV.ren]; congr 1; omega), rfl, id, rfl⟩, ⟨_, _, rfl, rfl, by first | rfl | (simp only [AV.ren]; congr 1; omega), rfl, id, rfl⟩, trivial⟩) ?_
  rintro ⟨j, hj⟩
  dsimp only
  refine .seq ?_
  refine .region ?_
  refine .q (op_cmpI rfl rfl rfl) trivial rfl ?_
  refine .nil ?_
  show Ev _ _ _ _ _
  refine .seq ?_
  refine .cond rfl (fun hc14 => ?_) (fun hc14 => ?_)
  · first | replace hc14 := of_decide_eq_true hc14 | replace hc14 := of_decide_eq_false hc14 | replace hc14 := eq_of_beq hc14 | replace hc14 := ne_of_beq_false hc14 | simp only [bne_iff_ne, ne_eq] at hc14 | simp only [bne_eq_false_iff_eq] at hc14
    refine .skip ?_
    show Ev _ _ _ _ _
    refine .seq ?_
    refine .block ?_
    refine .seq ?_
    refine .region ?_
    refine .q (op_move rfl) trivial rfl ?_
    refine .q (op_assign rfl) trivial rfl ?_
    refine .nil ?_
    show Ev _ _ _ _ _
    refine .seq ?_
    refine .drawn [[], [], [0, 1], [0, 1, 2], [], [], [4, 5], [4, 5, 6], [0, 1, 2, 3, 4, 5, 6, 7]] [3, 7] [] (by kernel_rfl) (by kernel_rfl) rfl ?_
    show DK _ [0, 1, 2, 3, 4, 5, 6, 7, 8] _ _ _
    refine .q rfl (op_move rfl) trivial ?_
    refine .q rfl (op_move rfl) trivial ?_
    refine .q rfl (ap_idx0 Tryd.underlying104 inf9.sz rfl rfl rfl (by omega)) trivial ?_
    refine .q rfl (op_load Tryd.underlying9 rfl rfl rfl rfl (by show j < l.length; omega)) trivial ?_
    refine .q rfl (op_move rfl) trivial ?_
    refine .q rfl (op_move rfl) trivial ?_
    refine .q rfl (ap_idx0 Tryd.underlying104 inf9.sz rfl rfl rfl (by omega)) trivial ?_
    refine .q rfl (op_load Tryd.underlying9 rfl rfl rfl rfl (by show j < l.length; omega)) trivial ?_
    refine .q rfl (op_eqS rfl rfl rfl) trivial ?_
    refine .nil ?_
    show Ev _ _ _ _ _
    refine .cond_false rfl (bne_self_eq_false _) ?_
    refine .skip ?_
    show Ev _ _ _ _ _
    refine .region ?_
    refine .q (op_addI rfl rfl ⟨by first | omega | (simp only [AV.len]; omega) | (simp only [AV.len, List.length_set]; omega) | assumption | (simp [AV.len]; done), by first | omega | (simp only [AV.len]; omega) | (simp only [AV.len, List.length_set]; omega) | assumption | (simp [AV.len]; done)⟩) trivial rfl ?_
    refine .q (op_move rfl) trivial rfl ?_
    refine .nil ?_
    exact ⟨⟨j + 1, by omega⟩, by show n - (j + 1) < n - j; omega, StLe.mk [] rfl rfl ⟨⟨_, rfl, by first | rfl | (simp only [AV.ren]; congr 1; omega), rfl⟩, ⟨_, rfl, by first | rfl | (simp only [AV.ren]; congr 1; omega), rfl⟩, ⟨_, rfl, by first | rfl | (simp only [AV.ren]; congr 1; omega), rfl⟩, ⟨_, rfl, by first | rfl | (simp only [AV.ren]; congr 1; omega), rfl⟩, trivial⟩ ⟨⟨_, _, rfl, rfl, by first | rfl | (simp only [AV.ren]; congr 1; omega), rfl, id, rfl⟩, ⟨_, _, rfl, rfl, by first | rfl | (simp only [AV.ren]; congr 1; omega), rfl, id, rfl⟩, trivial⟩⟩
  · first | replace hc14 := of_decide_eq_true hc14 | replace hc14 := of_decide_eq_false hc14 | replace hc14 := eq_of_beq hc14 | replace hc14 := ne_of_beq_false hc14 | simp only [bne_iff_ne, ne_eq] at hc14 | simp only [bne_eq_false_iff_eq] at hc14
    refine .exit ?_
    show Ev _ _ _ _ _
    have ej : j = n := by omega
    refine Ev.weak (st2 := ⟨[(0, .sl 500 0 n 1), (1, .sl 501 0 n 1), (12, .i64 ((n : Nat) : Int)), (13, .i64 (((n) : Nat) : Int))], [(500, some ⟨.aggS l, 9, false⟩), (501, some ⟨.aggS l, 9, false⟩)], 1000⟩) (StLe.mk [] rfl rfl ⟨⟨_, rfl, by first | (simp only [AV.ren]; done) | (simp only [AV.ren]; rw [ej]; done) | rfl, rfl⟩, ⟨_, rfl, by first | (simp only [AV.ren]; done) | (simp only [AV.ren]; rw [ej]; done) | rfl, rfl⟩, ⟨_, rfl, by first | (simp only [AV.ren]; done) | (simp only [AV.ren]; rw [ej]; done) | rfl, rfl⟩, ⟨_, rfl, by first | (simp only [AV.ren]; done) | (simp only [AV.ren]; rw [ej]; done) | rfl, rfl⟩, trivial⟩ ⟨⟨_, _, rfl, rfl, by first | (simp only [AV.ren]; done) | (simp only [AV.ren]; rw [ej]; done) | rfl, rfl, id, rfl⟩, ⟨_, _, rfl, rfl, by first | (simp only [AV.ren]; done) | (simp only [AV.ren]; rw [ej]; done) | rfl, rfl, id, rfl⟩, trivial⟩) ?_
    refine .seq ?_
    refine .region ?_
    refine .q (op_assign rfl) trivial rfl ?_
    refine .nil ?_
    show Ev _ _ _ _ _
    refine .ret ?_
    show RetOk _ _ _ _ _ _ _
    exact ret1v rfl (.inl rfl) rfl rfl ⟨rfl, rfl, trivial⟩
set_option maxRecDepth 100000 in
theorem step_0 (i : DI) (hi : i.ok) (_hr : i.r.length ≤ 200) (n : Int) (eo : Nat → Nat × Nat) : Meets Tryd.prog 21 [.ptr 500 0, .agg [.str (i).r, .i64 (((i).e : Nat) : Int)], .agg [.i64 0, .i64 n]] [(500, some ⟨.agg [.str (i).r, .err 225 ((i).e) (offE eo ((i).e))], 96, true⟩), (1, some ⟨.agg [.err 225 (2) (offE eo (2))], errT, false⟩), (4, some ⟨.agg [.err 225 (4) (offE eo (4))], errT, false⟩), (0, some ⟨.agg [.err 225 (3) (offE eo (3))], errT, false⟩)] (.tup [.agg [.str ((byteD i).1).r, .i64 ((((byteD i).1).e : Nat) : Int)], .bool true]) [(500, some ⟨.agg [.str ((byteD i).1).r, .err 225 (((byteD i).1).e) (offE eo (((byteD i).1).e))], 96, true⟩)] := by
  refine meets_of_ev (nt := 135) Tryd.func21 rfl rfl (Nat.le_of_ble_eq_true rfl) ?_
  refine .seq ?_
  refine .region ?_
  refine .a (op_boxRow rfl rfl) trivial rfl ?_
  refine .a (op_boxRow rfl rfl) trivial rfl ?_
  refine .a (op_allocRow zero47 rel_zero47 rfl) trivial rfl ?_
  refine .q (op_assign rfl) trivial rfl ?_
  refine .nil ?_
  show Ev _ _ _ _ _
  refine .seq ?_
  refine .seq ?_
  refine .region ?_
  refine .q (op_fieldAddr (m := 0) Tryd.underlying51 rfl (by kernel_rfl) rfl) trivial rfl ?_
  refine .as (.ptr 1008 0) rfl ?_
  refine .q (op_load Tryd.underlying3 rfl rfl rfl rfl (by first | omega | (simp only [AV.len]; omega) | (simp only [AV.len]; omega) | assumption | (simp [AV.len]; done))) trivial rfl ?_
  refine .nil ?_
  show Ev _ _ _ _ _
  refine .block ?_
  refine .seq ?_
  refine .region ?_
  refine .q (op_cmpI rfl rfl rfl) trivial rfl ?_
  refine .q (op_assign rfl) trivial rfl ?_
  refine .nil ?_
  show Ev _ _ _ _ _
  refine .cond_true rfl (rfl) ?_
  refine .seq ?_
  refine .region ?_
  refine .q (op_loadRow Tryd.underlying47 rfl (by kernel_rfl) rfl rfl rfl (rfl)) trivial rfl ?_
  refine .q (op_call (U := []) [] [] (rnum_ev i hi 1 (by decide)) Tryd.func55 (by kernel_rfl) rfl rfl rfl (⟨⟨_, rfl, rfl, rfl⟩, ⟨_, rfl, rfl, rfl⟩, trivial⟩) (trivial) (trivial) (trivial) rfl) trivial rfl ?_
  refine .q (op_move rfl) trivial rfl ?_
  refine .q (op_extract rfl rfl) trivial rfl ?_
  refine .q (op_extract rfl rfl) trivial rfl ?_
  refine .a (op_allocRow zero47 rel_zero47 rfl) trivial rfl ?_
  refine .w (op_storeRow (by kernel_rfl) rfl rfl rfl rfl rfl (rfl) (rfl)) trivial rfl ?_
  refine .q (op_assign rfl) trivial rfl ?_
  refine .nil ?_
  show Ev _ _ _ _ _
  refine .seq ?_
  refine .drawnF [[], [], [1], [1, 2], [], [1, 2, 3, 4], [0, 1, 2], [0, 1, 2, 3, 4, 5, 6]] [0, 2, 6] [] [(0, ([1024], [])), (2, ([1], [500])), (6, ([], [1016]))] (by kernel_rfl) (by kernel_rfl) rfl ?_
  show DK _ [0, 1, 2, 3, 4, 5, 6, 7] _ _ _
  refine .q rfl (op_loadRow Tryd.underlying47 rfl (by kernel_rfl) rfl rfl rfl (rfl)) trivial ?_
  refine .q rfl (op_move rfl) trivial ?_
  refine .a rfl (op_call (U := [(500, some ⟨.agg [.str ((byteD i).1).r, .err 225 (((byteD i).1).e) (offE eo (((byteD i).1).e))], 96, true⟩)]) [(500, 500)] [] (ibyte_ev i eo) Tryd.func56 (by kernel_rfl) rfl rfl rfl (⟨⟨_, rfl, rfl, rfl⟩, trivial⟩) (⟨⟨_, _, rfl, rfl, rfl, rfl, id, rfl⟩, ⟨_, _, rfl, rfl, rfl, rfl, (fun h => by cases h), rfl⟩, trivial⟩) (⟨⟨500, _, rfl, rfl, rfl, rfl, .inr ⟨rfl, _, rfl, rfl⟩⟩, trivial⟩) (⟨(fun _ => ⟨500, _, rfl, rfl⟩), (fun h => by cases h), trivial⟩) rfl) trivial rfl rfl ?_
  refine .q rfl (op_conv Tryd.underlying5 Tryd.underlying77 rfl rfl) trivial ?_
  refine .q rfl (op_move rfl) trivial ?_
  refine .q rfl (op_bin64 rfl rfl rfl) trivial ?_
  refine .w rfl (op_storeRow (by kernel_rfl) rfl rfl rfl rfl rfl (rfl) (rfl)) trivial rfl rfl ?_
  refine .q rfl (op_assign rfl) trivial ?_
  refine .nil ?_
  show Ev _ _ _ _ _
  refine .ret ?_
  show RetOk _ _ _ _ _ _ _
  exact retc2 rfl (.inl rfl) ⟨_, _, _, _, rfl, rfl, rfl, rfl, rfl, Tryd.underlying47, rfl, (by kernel_rfl)⟩ (congrArg (fun b => some (AV.bool b)) (beq_iff_eq.2 (byte_num i))) ⟨rfl, trivial⟩
set_option maxRecDepth 100000 in
theorem step_1 (i : DI) (hi : i.ok) (_hr : i.r.length ≤ 200) (n : Int) (eo : Nat → Nat × Nat) : Meets Tryd.prog 21 [.ptr 500 0, .agg [.str (i).r, .i64 (((i).e : Nat) : Int)], .agg [.i64 1, .i64 n]] [(500, some ⟨.agg [.str (i).r, .err 225 ((i).e) (offE eo ((i).e))], 96, true⟩), (1, some ⟨.agg [.err 225 (2) (offE eo (2))], errT, false⟩), (4, some ⟨.agg [.err 225 (4) (offE eo (4))], errT, false⟩), (0, some ⟨.agg [.err 225 (3) (offE eo (3))], errT, false⟩)] (.tup [.agg [.str ((boolD i).1).r, .i64 ((((boolD i).1).e : Nat) : Int)], .bool true]) [(500, some ⟨.agg [.str ((boolD i).1).r, .err 225 (((boolD i).1).e) (offE eo (((boolD i).1).e))], 96, true⟩)] := by
  refine meets_of_ev (nt := 135) Tryd.func21 rfl rfl (Nat.le_of_ble_eq_true rfl) ?_
  refine .seq ?_
  refine .region ?_
  refine .a (op_boxRow rfl rfl) trivial rfl ?_
  refine .a (op_boxRow rfl rfl) trivial rfl ?_
  refine .a (op_allocRow zero47 rel_zero47 rfl) trivial rfl ?_
  refine .q (op_assign rfl) trivial rfl ?_
  refine .nil ?_
  show Ev _ _ _ _ _
  refine .seq ?_
  refine .seq ?_
  refine .region ?_
  refine .q (op_fieldAddr (m := 0) Tryd.underlying51 rfl (by kernel_rfl) rfl) trivial rfl ?_
  refine .as (.ptr 1008 0) rfl ?_
  refine .q (op_load Tryd.underlying3 rfl rfl rfl rfl (by first | omega | (simp only [AV.len]; omega) | (simp only [AV.len]; omega) | assumption | (simp [AV.len]; done))) trivial rfl ?_
  refine .nil ?_
  show Ev _ _ _ _ _
  refine .block ?_
  refine .seq ?_
  refine .region ?_
  refine .q (op_cmpI rfl rfl rfl) trivial rfl ?_
  refine .q (op_assign rfl) trivial rfl ?_
  refine .nil ?_
  show Ev _ _ _ _ _
  refine .cond_false rfl (rfl) ?_
  refine .seq ?_
  refine .region ?_
  refine .q (op_cmpI rfl rfl rfl) trivial rfl ?_
  refine .q (op_assign rfl) trivial rfl ?_
  refine .nil ?_
  show Ev _ _ _ _ _
  refine .cond_true rfl (rfl) ?_
  refine .seq ?_
  refine .region ?_
  refine .q (op_loadRow Tryd.underlying47 rfl (by kernel_rfl) rfl rfl rfl (rfl)) trivial rfl ?_
  refine .q (op_call (U := []) [] [] (rnum_ev i hi 1 (by decide)) Tryd.func55 (by kernel_rfl) rfl rfl rfl (⟨⟨_, rfl, rfl, rfl⟩, ⟨_, rfl, rfl, rfl⟩, trivial⟩) (trivial) (trivial) (trivial) rfl) trivial rfl ?_
  refine .q (op_move rfl) trivial rfl ?_
  refine .q (op_extract rfl rfl) trivial rfl ?_
  refine .q (op_extract rfl rfl) trivial rfl ?_
  refine .a (op_allocRow zero47 rel_zero47 rfl) trivial rfl ?_
  refine .w (op_storeRow (by kernel_rfl) rfl rfl rfl rfl rfl (rfl) (rfl)) trivial rfl ?_
  refine .q (op_assign rfl) trivial rfl ?_
  refine .nil ?_
  show Ev _ _ _ _ _
  refine .seq ?_
  refine .drawnF [[], [], [1], [], [3], [1, 2, 3, 4], [0, 1, 2], [0, 1, 2, 3, 4, 5, 6]] [0, 2, 6] [] [(0, ([1024], [])), (2, ([1], [500])), (6, ([], [1016]))] (by kernel_rfl) (by kernel_rfl) rfl ?_
  show DK _ [0, 1, 2, 3, 4, 5, 6, 7] _ _ _
  refine .q rfl (op_loadRow Tryd.underlying47 rfl (by kernel_rfl) rfl rfl rfl (rfl)) trivial ?_
  refine .q rfl (op_move rfl) trivial ?_
  refine .a rfl (op_call (U := [(500, some ⟨.agg [.str ((boolD i).1).r, .err 225 (((boolD i).1).e) (offE eo (((boolD i).1).e))], 96, true⟩)]) [(500, 500)] [] (ibool_ev i eo) Tryd.func54 (by kernel_rfl) rfl rfl rfl (⟨⟨_, rfl, rfl, rfl⟩, trivial⟩) (⟨⟨_, _, rfl, rfl, rfl, rfl, id, rfl⟩, ⟨_, _, rfl, rfl, rfl, rfl, (fun h => by cases h), rfl⟩, trivial⟩) (⟨⟨500, _, rfl, rfl, rfl, rfl, .inr ⟨rfl, _, rfl, rfl⟩⟩, trivial⟩) (⟨(fun _ => ⟨500, _, rfl, rfl⟩), (fun h => by cases h), trivial⟩) rfl) trivial rfl rfl ?_
  refine .q rfl (op_move rfl) trivial ?_
  refine .q rfl (op_bin64 rfl rfl rfl) trivial ?_
  refine .q rfl (op_eqB Tryd.underlying4 rfl rfl rfl) trivial ?_
  refine .w rfl (op_storeRow (by kernel_rfl) rfl rfl rfl rfl rfl (rfl) (rfl)) trivial rfl rfl ?_
  refine .q rfl (op_assign rfl) trivial ?_
  refine .nil ?_
  show Ev _ _ _ _ _
  refine .ret ?_
  show RetOk _ _ _ _ _ _ _
  exact retc2 rfl (.inl rfl) ⟨_, _, _, _, rfl, rfl, rfl, rfl, rfl, Tryd.underlying47, rfl, (by kernel_rfl)⟩ (congrArg (fun b => some (AV.bool b)) (beq_iff_eq.2 (bool_num i))) ⟨rfl, trivial⟩
set_option maxRecDepth 100000 in
theorem step_2 (i : DI) (hi : i.ok) (_hr : i.r.length ≤ 200) (n : Int) (eo : Nat → Nat × Nat) : Meets Tryd.prog 21 [.ptr 500 0, .agg [.str (i).r, .i64 (((i).e : Nat) : Int)], .agg [.i64 2, .i64 n]] [(500, some ⟨.agg [.str (i).r, .err 225 ((i).e) (offE eo ((i).e))], 96, true⟩), (1, some ⟨.agg [.err 225 (2) (offE eo (2))], errT, false⟩), (4, some ⟨.agg [.err 225 (4) (offE eo (4))], errT, false⟩), (0, some ⟨.agg [.err 225 (3) (offE eo (3))], errT, false⟩)] (.tup [.agg [.str ((u32D i).1).r, .i64 ((((u32D i).1).e : Nat) : Int)], .bool true]) [(500, some ⟨.agg [.str ((u32D i).1).r, .err 225 (((u32D i).1).e) (offE eo (((u32D i).1).e))], 96, true⟩)] := by
  refine meets_of_ev (nt := 135) Tryd.func21 rfl rfl (Nat.le_of_ble_eq_true rfl) ?_
  refine .seq ?_
  refine .region ?_
  refine .a (op_boxRow rfl rfl) trivial rfl ?_
  refine .a (op_boxRow rfl rfl) trivial rfl ?_
  refine .a (op_allocRow zero47 rel_zero47 rfl) trivial rfl ?_
  refine .q (op_assign rfl) trivial rfl ?_
  refine .nil ?_
  show Ev _ _ _ _ _
  refine .seq ?_
  refine .seq ?_
  refine .region ?_
  refine .q (op_fieldAddr (m := 0) Tryd.underlying51 rfl (by kernel_rfl) rfl) trivial rfl ?_
  refine .as (.ptr 1008 0) rfl ?_
  refine .q (op_load Tryd.underlying3 rfl rfl rfl rfl (by first | omega | (simp only [AV.len]; omega) | (simp only [AV.len]; omega) | assumption | (simp [AV.len]; done))) trivial rfl ?_
  refine .nil ?_
  show Ev _ _ _ _ _
  refine .block ?_
  refine .seq ?_
  refine .region ?_
  refine .q (op_cmpI rfl rfl rfl) trivial rfl ?_
  refine .q (op_assign rfl) trivial rfl ?_
  refine .nil ?_
  show Ev _ _ _ _ _
  refine .cond_false rfl (rfl) ?_
  refine .seq ?_
  refine .region ?_
  refine .q (op_cmpI rfl rfl rfl) trivial rfl ?_
  refine .q (op_assign rfl) trivial rfl ?_
  refine .nil ?_
  show Ev _ _ _ _ _
  refine .cond_false rfl (rfl) ?_
  refine .seq ?_
  refine .region ?_
  refine .q (op_cmpI rfl rfl rfl) trivial rfl ?_
  refine .q (op_assign rfl) trivial rfl ?_
  refine .nil ?_
  show Ev _ _ _ _ _
  refine .cond_true rfl (rfl) ?_
  refine .seq ?_
  refine .region ?_
  refine .q (op_loadRow Tryd.underlying47 rfl (by kernel_rfl) rfl rfl rfl (rfl)) trivial rfl ?_
  refine .q (op_call (U := []) [] [] (rnum_ev i hi 4 (by decide)) Tryd.func55 (by kernel_rfl) rfl rfl rfl (⟨⟨_, rfl, rfl, rfl⟩, ⟨_, rfl, rfl, rfl⟩, trivial⟩) (trivial) (trivial) (trivial) rfl) trivial rfl ?_
  refine .q (op_move rfl) trivial rfl ?_
  refine .q (op_extract rfl rfl) trivial rfl ?_
  refine .q (op_extract rfl rfl) trivial rfl ?_
  refine .a (op_allocRow zero47 rel_zero47 rfl) trivial rfl ?_
  refine .w (op_storeRow (by kernel_rfl) rfl rfl rfl rfl rfl (rfl) (rfl)) trivial rfl ?_
  refine .q (op_assign rfl) trivial rfl ?_
  refine .nil ?_
  show Ev _ _ _ _ _
  refine .seq ?_
  refine .drawnF [[], [], [1], [1, 2], [], [1, 2, 3, 4], [0, 1, 2], [0, 1, 2, 3, 4, 5, 6]] [0, 2, 6] [] [(0, ([1024], [])), (2, ([1], [500])), (6, ([], [1016]))] (by kernel_rfl) (by kernel_rfl) rfl ?_
  show DK _ [0, 1, 2, 3, 4, 5, 6, 7] _ _ _
  refine .q rfl (op_loadRow Tryd.underlying47 rfl (by kernel_rfl) rfl rfl rfl (rfl)) trivial ?_
  refine .q rfl (op_move rfl) trivial ?_
  refine .a rfl (op_call (U := [(500, some ⟨.agg [.str ((u32D i).1).r, .err 225 (((u32D i).1).e) (offE eo (((u32D i).1).e))], 96, true⟩)]) [(500, 500)] [] (iu32_ev i eo) Tryd.func57 (by kernel_rfl) rfl rfl rfl (⟨⟨_, rfl, rfl, rfl⟩, trivial⟩) (⟨⟨_, _, rfl, rfl, rfl, rfl, id, rfl⟩, ⟨_, _, rfl, rfl, rfl, rfl, (fun h => by cases h), rfl⟩, trivial⟩) (⟨⟨500, _, rfl, rfl, rfl, rfl, .inr ⟨rfl, _, rfl, rfl⟩⟩, trivial⟩) (⟨(fun _ => ⟨500, _, rfl, rfl⟩), (fun h => by cases h), trivial⟩) rfl) trivial rfl rfl ?_
  refine .q rfl (op_conv Tryd.underlying74 Tryd.underlying77 rfl rfl) trivial ?_
  refine .q rfl (op_move rfl) trivial ?_
  refine .q rfl (op_bin64 rfl rfl rfl) trivial ?_
  refine .w rfl (op_storeRow (by kernel_rfl) rfl rfl rfl rfl rfl (rfl) (rfl)) trivial rfl rfl ?_
  refine .q rfl (op_assign rfl) trivial ?_
  refine .nil ?_
  show Ev _ _ _ _ _
  refine .ret ?_
  show RetOk _ _ _ _ _ _ _
  exact retc2 rfl (.inl rfl) ⟨_, _, _, _, rfl, rfl, rfl, rfl, rfl, Tryd.underlying47, rfl, (by kernel_rfl)⟩ (congrArg (fun b => some (AV.bool b)) (beq_iff_eq.2 (u32_num i))) ⟨rfl, trivial⟩
set_option maxRecDepth 100000 in
theorem step_3 (i : DI) (hi : i.ok) (_hr : i.r.length ≤ 200) (n : Int) (eo : Nat → Nat × Nat) : Meets Tryd.prog 21 [.ptr 500 0, .agg [.str (i).r, .i64 (((i).e : Nat) : Int)], .agg [.i64 3, .i64 n]] [(500, some ⟨.agg [.str (i).r, .err 225 ((i).e) (offE eo ((i).e))], 96, true⟩), (1, some ⟨.agg [.err 225 (2) (offE eo (2))], errT, false⟩), (4, some ⟨.agg [.err 225 (4) (offE eo (4))], errT, false⟩), (0, some ⟨.agg [.err 225 (3) (offE eo (3))], errT, false⟩)] (.tup [.agg [.str ((u64D i).1).r, .i64 ((((u64D i).1).e : Nat) : Int)], .bool true]) [(500, some ⟨.agg [.str ((u64D i).1).r, .err 225 (((u64D i).1).e) (offE eo (((u64D i).1).e))], 96, true⟩)] := by
  refine meets_of_ev (nt := 135) Tryd.func21 rfl rfl (Nat.le_of_ble_eq_true rfl) ?_
  refine .seq ?_
  refine .region ?_
  refine .a (op_boxRow rfl rfl) trivial rfl ?_
  refine .a (op_boxRow rfl rfl) trivial rfl ?_
  refine .a (op_allocRow zero47 rel_zero47 rfl) trivial rfl ?_
  refine .q (op_assign rfl) trivial rfl ?_
  refine .nil ?_
  show Ev _ _ _ _ _
  refine .seq ?_
  refine .seq ?_
  refine .region ?_
  refine .q (op_fieldAddr (m := 0) Tryd.underlying51 rfl (by kernel_rfl) rfl) trivial rfl ?_
  refine .as (.ptr 1008 0) rfl ?_
  refine .q (op_load Tryd.underlying3 rfl rfl rfl rfl (by first | omega | (simp only [AV.len]; omega) | (simp only [AV.len]; omega) | assumption | (simp [AV.len]; done))) trivial rfl ?_
  refine .nil ?_
  show Ev _ _ _ _ _
  refine .block ?_
  refine .seq ?_
  refine .region ?_
  refine .q (op_cmpI rfl rfl rfl) trivial rfl ?_
  refine .q (op_assign rfl) trivial rfl ?_
  refine .nil ?_
  show Ev _ _ _ _ _
  refine .cond_false rfl (rfl) ?_
  refine .seq ?_
  refine .region ?_
  refine .q (op_cmpI rfl rfl rfl) trivial rfl ?_
  refine .q (op_assign rfl) trivial rfl ?_
  refine .nil ?_
  show Ev _ _ _ _ _
  refine .cond_false rfl (rfl) ?_
  refine .seq ?_
  refine .region ?_
  refine .q (op_cmpI rfl rfl rfl) trivial rfl ?_
  refine .q (op_assign rfl) trivial rfl ?_
  refine .nil ?_
  show Ev _ _ _ _ _
  refine .cond_false rfl (rfl) ?_
  refine .seq ?_
  refine .region ?_
  refine .q (op_cmpI rfl rfl rfl) trivial rfl ?_
  refine .q (op_assign rfl) trivial rfl ?_
  refine .nil ?_
  show Ev _ _ _ _ _
  refine .cond_true rfl (rfl) ?_
  refine .seq ?_
  refine .region ?_
  refine .q (op_loadRow Tryd.underlying47 rfl (by kernel_rfl) rfl rfl rfl (rfl)) trivial rfl ?_
  refine .q (op_call (U := []) [] [] (rnum_ev i hi 8 (by decide)) Tryd.func55 (by kernel_rfl) rfl rfl rfl (⟨⟨_, rfl, rfl, rfl⟩, ⟨_, rfl, rfl, rfl⟩, trivial⟩) (trivial) (trivial) (trivial) rfl) trivial rfl ?_
  refine .q (op_move rfl) trivial rfl ?_
  refine .q (op_extract rfl rfl) trivial rfl ?_
  refine .q (op_extract rfl rfl) trivial rfl ?_
  refine .a (op_allocRow zero47 rel_zero47 rfl) trivial rfl ?_
  refine .w (op_storeRow (by kernel_rfl) rfl rfl rfl rfl rfl (rfl) (rfl)) trivial rfl ?_
  refine .q (op_assign rfl) trivial rfl ?_
  refine .nil ?_
  show Ev _ _ _ _ _
  refine .seq ?_
  refine .drawnF [[], [], [1], [], [1, 2, 3], [0, 1, 2], [0, 1, 2, 3, 4, 5]] [0, 2, 5] [] [(0, ([1024], [])), (2, ([1], [500])), (5, ([], [1016]))] (by kernel_rfl) (by kernel_rfl) rfl ?_
  show DK _ [0, 1, 2, 3, 4, 5, 6] _ _ _
  refine .q rfl (op_loadRow Tryd.underlying47 rfl (by kernel_rfl) rfl rfl rfl (rfl)) trivial ?_
  refine .q rfl (op_move rfl) trivial ?_
  refine .a rfl (op_call (U := [(500, some ⟨.agg [.str ((u64D i).1).r, .err 225 (((u64D i).1).e) (offE eo (((u64D i).1).e))], 96, true⟩)]) [(500, 500)] [] (iu64_ev i eo) Tryd.func58 (by kernel_rfl) rfl rfl rfl (⟨⟨_, rfl, rfl, rfl⟩, trivial⟩) (⟨⟨_, _, rfl, rfl, rfl, rfl, id, rfl⟩, ⟨_, _, rfl, rfl, rfl, rfl, (fun h => by cases h), rfl⟩, trivial⟩) (⟨⟨500, _, rfl, rfl, rfl, rfl, .inr ⟨rfl, _, rfl, rfl⟩⟩, trivial⟩) (⟨(fun _ => ⟨500, _, rfl, rfl⟩), (fun h => by cases h), trivial⟩) rfl) trivial rfl rfl ?_
  refine .q rfl (op_move rfl) trivial ?_
  refine .q rfl (op_bin64 rfl rfl rfl) trivial ?_
  refine .w rfl (op_storeRow (by kernel_rfl) rfl rfl rfl rfl rfl (rfl) (rfl)) trivial rfl rfl ?_
  refine .q rfl (op_assign rfl) trivial ?_
  refine .nil ?_
  show Ev _ _ _ _ _
  refine .ret ?_
  show RetOk _ _ _ _ _ _ _
  exact retc2 rfl (.inl rfl) ⟨_, _, _, _, rfl, rfl, rfl, rfl, rfl, Tryd.underlying47, rfl, (by kernel_rfl)⟩ (congrArg (fun b => some (AV.bool b)) (beq_self_eq_true _)) ⟨rfl, trivial⟩
set_option maxRecDepth 100000 in
theorem step_4 (i : DI) (hi : i.ok) (_hr : i.r.length ≤ 200) (n : Int) (eo : Nat → Nat × Nat) : Meets Tryd.prog 21 [.ptr 500 0, .agg [.str (i).r, .i64 (((i).e : Nat) : Int)], .agg [.i64 4, .i64 n]] [(500, some ⟨.agg [.str (i).r, .err 225 ((i).e) (offE eo ((i).e))], 96, true⟩), (1, some ⟨.agg [.err 225 (2) (offE eo (2))], errT, false⟩), (4, some ⟨.agg [.err 225 (4) (offE eo (4))], errT, false⟩), (0, some ⟨.agg [.err 225 (3) (offE eo (3))], errT, false⟩)] (.tup [.agg [.str ((rawD i n.toNat).1).r, .i64 ((((rawD i n.toNat).1).e : Nat) : Int)], .bool true]) [(500, some ⟨.agg [.str ((rawD i n.toNat).1).r, .err 225 (((rawD i n.toNat).1).e) (offE eo (((rawD i n.toNat).1).e))], 96, true⟩)] := by
  refine meets_of_ev (nt := 135) Tryd.func21 rfl rfl (Nat.le_of_ble_eq_true rfl) ?_
  refine .seq ?_
  refine .region ?_
  refine .a (op_boxRow rfl rfl) trivial rfl ?_
  refine .a (op_boxRow rfl rfl) trivial rfl ?_
  refine .a (op_allocRow zero47 rel_zero47 rfl) trivial rfl ?_
  refine .q (op_assign rfl) trivial rfl ?_
  refine .nil ?_
  show Ev _ _ _ _ _
  refine .seq ?_
  refine .seq ?_
  refine .region ?_
  refine .q (op_fieldAddr (m := 0) Tryd.underlying51 rfl (by kernel_rfl) rfl) trivial rfl ?_
  refine .as (.ptr 1008 0) rfl ?_
  refine .q (op_load Tryd.underlying3 rfl rfl rfl rfl (by first | omega | (simp only [AV.len]; omega) | (simp only [AV.len]; omega) | assumption | (simp [AV.len]; done))) trivial rfl ?_
  refine .nil ?_
  show Ev _ _ _ _ _
  refine .block ?_
  refine .seq ?_
  refine .region ?_
  refine .q (op_cmpI rfl rfl rfl) trivial rfl ?_
  refine .q (op_assign rfl) trivial rfl ?_
  refine .nil ?_
  show Ev _ _ _ _ _
  refine .cond_false rfl (rfl) ?_
  refine .seq ?_
  refine .region ?_
  refine .q (op_cmpI rfl rfl rfl) trivial rfl ?_
  refine .q (op_assign rfl) trivial rfl ?_
  refine .nil ?_
  show Ev _ _ _ _ _
  refine .cond_false rfl (rfl) ?_
  refine .seq ?_
  refine .region ?_
  refine .q (op_cmpI rfl rfl rfl) trivial rfl ?_
  refine .q (op_assign rfl) trivial rfl ?_
  refine .nil ?_
  show Ev _ _ _ _ _
  refine .cond_false rfl (rfl) ?_
  refine .seq ?_
  refine .region ?_
  refine .q (op_cmpI rfl rfl rfl) trivial rfl ?_
  refine .q (op_assign rfl) trivial rfl ?_
  refine .nil ?_
  show Ev _ _ _ _ _
  refine .cond_false rfl (rfl) ?_
  refine .seq ?_
  refine .region ?_
  refine .q (op_cmpI rfl rfl rfl) trivial rfl ?_
  refine .q (op_assign rfl) trivial rfl ?_
  refine .nil ?_
  show Ev _ _ _ _ _
  refine .cond_true rfl (rfl) ?_
  refine .seq ?_
  refine .region ?_
  refine .q (op_loadRow Tryd.underlying47 rfl (by kernel_rfl) rfl rfl rfl (rfl)) trivial rfl ?_
  refine .q (op_fieldAddr (m := 0) Tryd.underlying51 rfl (by kernel_rfl) rfl) trivial rfl ?_
  refine .as (.ptr 1008 1) rfl ?_
  refine .q (op_load Tryd.underlying3 rfl rfl rfl rfl (by first | omega | (simp only [AV.len]; omega) | (simp only [AV.len]; omega) | assumption | (simp [AV.len]; done))) trivial rfl ?_
  refine .q (op_call (U := []) [] [] (rraw_ev i hi n) Tryd.func59 (by kernel_rfl) rfl rfl rfl (⟨⟨_, rfl, rfl, rfl⟩, ⟨_, rfl, rfl, rfl⟩, trivial⟩) (trivial) (trivial) (trivial) rfl) trivial rfl ?_
  refine .q (op_move rfl) trivial rfl ?_
  refine .q (op_extract rfl rfl) trivial rfl ?_
  refine .q (op_extract rfl rfl) trivial rfl ?_
  refine .a (op_allocRow zero47 rel_zero47 rfl) trivial rfl ?_
  refine .w (op_storeRow (by kernel_rfl) rfl rfl rfl rfl rfl (rfl) (rfl)) trivial rfl ?_
  refine .q (op_assign rfl) trivial rfl ?_
  refine .nil ?_
  show Ev _ _ _ _ _
  refine .seq ?_
  refine .drawnF [[], [], [], [2], [1, 2, 3], [], [1, 2, 3, 4, 5], [0, 1, 2, 3, 4], [0, 1, 2, 3, 4, 5, 6, 7]] [0, 3, 4, 7] [] [(0, ([1024], [])), (3, ([1008], [])), (4, ([1], [500])), (7, ([], [1016]))] (by kernel_rfl) (by kernel_rfl) rfl ?_
  show DK _ [0, 1, 2, 3, 4, 5, 6, 7, 8] _ _ _
  refine .q rfl (op_loadRow Tryd.underlying47 rfl (by kernel_rfl) rfl rfl rfl (rfl)) trivial ?_
  refine .q rfl (op_move rfl) trivial ?_
  refine .q rfl (op_fieldAddr (m := 0) Tryd.underlying51 rfl (by kernel_rfl) rfl) trivial ?_
  refine .as (.ptr 1008 1) rfl ?_
  refine .q rfl (op_load Tryd.underlying3 rfl rfl rfl rfl (by first | omega | (simp only [AV.len]; omega) | (simp only [AV.len]; omega) | assumption | (simp [AV.len]; done))) trivial ?_
  refine .a rfl (op_call (U := [(500, some ⟨.agg [.str ((rawD i n.toNat).1).r, .err 225 (((rawD i n.toNat).1).e) (offE eo (((rawD i n.toNat).1).e))], 96, true⟩)]) [(500, 500)] [] (raw_ev i n eo) Tryd.func60 (by kernel_rfl) rfl rfl rfl (⟨⟨_, rfl, rfl, rfl⟩, ⟨_, rfl, rfl, rfl⟩, trivial⟩) (⟨⟨_, _, rfl, rfl, rfl, rfl, id, rfl⟩, ⟨_, _, rfl, rfl, rfl, rfl, (fun h => by cases h), rfl⟩, trivial⟩) (⟨⟨500, _, rfl, rfl, rfl, rfl, .inr ⟨rfl, _, rfl, rfl⟩⟩, trivial⟩) (⟨(fun _ => ⟨500, _, rfl, rfl⟩), (fun h => by cases h), trivial⟩) rfl) trivial rfl rfl ?_
  refine .q rfl (op_move rfl) trivial ?_
  refine .q rfl (op_eqS rfl rfl rfl) trivial ?_
  refine .w rfl (op_storeRow (by kernel_rfl) rfl rfl rfl rfl rfl (rfl) (rfl)) trivial rfl rfl ?_
  refine .q rfl (op_assign rfl) trivial ?_
  refine .nil ?_
  show Ev _ _ _ _ _
  refine .ret ?_
  show RetOk _ _ _ _ _ _ _
  exact retc2 rfl (.inl rfl) ⟨_, _, _, _, rfl, rfl, rfl, rfl, rfl, Tryd.underlying47, rfl, (by kernel_rfl)⟩ (congrArg (fun b => some (AV.bool b)) (beq_self_eq_true _)) ⟨rfl, trivial⟩
set_option maxRecDepth 100000 in
theorem step_7 (i : DI) (hi : i.ok) (hr : i.r.length ≤ 200) (n : Int) (eo : Nat → Nat × Nat) : Meets Tryd.prog 21 [.ptr 500 0, .agg [.str (i).r, .i64 (((i).e : Nat) : Int)], .agg [.i64 7, .i64 n]] [(500, some ⟨.agg [.str (i).r, .err 225 ((i).e) (offE eo ((i).e))], 96, true⟩), (1, some ⟨.agg [.err 225 (2) (offE eo (2))], errT, false⟩), (4, some ⟨.agg [.err 225 (4) (offE eo (4))], errT, false⟩), (0, some ⟨.agg [.err 225 (3) (offE eo (3))], errT, false⟩)] (.tup [.agg [.str ((bigD i n).1).r, .i64 ((((bigD i n).1).e : Nat) : Int)], .bool true]) [(500, some ⟨.agg [.str ((bigD i n).1).r, .err 225 (((bigD i n).1).e) (offE eo (((bigD i n).1).e))], 96, true⟩)] := by
  refine meets_of_ev (nt := 135) Tryd.func21 rfl rfl (Nat.le_of_ble_eq_true rfl) ?_
  refine .seq ?_
  refine .region ?_
  refine .a (op_boxRow rfl rfl) trivial rfl ?_
  refine .a (op_boxRow rfl rfl) trivial rfl ?_
  refine .a (op_allocRow zero47 rel_zero47 rfl) trivial rfl ?_
  refine .q (op_assign rfl) trivial rfl ?_
  refine .nil ?_
  show Ev _ _ _ _ _
  refine .seq ?_
  refine .seq ?_
  refine .region ?_
  refine .q (op_fieldAddr (m := 0) Tryd.underlying51 rfl (by kernel_rfl) rfl) trivial rfl ?_
  refine .as (.ptr 1008 0) rfl ?_
  refine .q (op_load Tryd.underlying3 rfl rfl rfl rfl (by first | omega | (simp only [AV.len]; omega) | (simp only [AV.len]; omega) | assumption | (simp [AV.len]; done))) trivial rfl ?_
  refine .nil ?_
  show Ev _ _ _ _ _
  refine .block ?_
  refine .seq ?_
  refine .region ?_
  refine .q (op_cmpI rfl rfl rfl) trivial rfl ?_
  refine .q (op_assign rfl) trivial rfl ?_
  refine .nil ?_
  show Ev _ _ _ _ _
  refine .cond_false rfl (rfl) ?_
  refine .seq ?_
  refine .region ?_
  refine .q (op_cmpI rfl rfl rfl) trivial rfl ?_
  refine .q (op_assign rfl) trivial rfl ?_
  refine .nil ?_
  show Ev _ _ _ _ _
  refine .cond_false rfl (rfl) ?_
  refine .seq ?_
  refine .region ?_
  refine .q (op_cmpI rfl rfl rfl) trivial rfl ?_
  refine .q (op_assign rfl) trivial rfl ?_
  refine .nil ?_
  show Ev _ _ _ _ _
  refine .cond_false rfl (rfl) ?_
  refine .seq ?_
  refine .region ?_
  refine .q (op_cmpI rfl rfl rfl) trivial rfl ?_
  refine .q (op_assign rfl) trivial rfl ?_
  refine .nil ?_
  show Ev _ _ _ _ _
  refine .cond_false rfl (rfl) ?_
  refine .seq ?_
  refine .region ?_
  refine .q (op_cmpI rfl rfl rfl) trivial rfl ?_
  refine .q (op_assign rfl) trivial rfl ?_
  refine .nil ?_
  show Ev _ _ _ _ _
  refine .cond_false rfl (rfl) ?_
  refine .seq ?_
  refine .region ?_
  refine .q (op_cmpI rfl rfl rfl) trivial rfl ?_
  refine .q (op_assign rfl) trivial rfl ?_
  refine .nil ?_
  show Ev _ _ _ _ _
  refine .cond_false rfl (rfl) ?_
  refine .seq ?_
  refine .region ?_
  refine .q (op_cmpI rfl rfl rfl) trivial rfl ?_
  refine .q (op_assign rfl) trivial rfl ?_
  refine .nil ?_
  show Ev _ _ _ _ _
  refine .cond_true rfl (rfl) ?_
  refine .seq ?_
  refine .region ?_
  refine .q (op_loadRow Tryd.underlying47 rfl (by kernel_rfl) rfl rfl rfl (rfl)) trivial rfl ?_
  refine .q (op_fieldAddr (m := 0) Tryd.underlying51 rfl (by kernel_rfl) rfl) trivial rfl ?_
  refine .as (.ptr 1008 1) rfl ?_
  refine .q (op_load Tryd.underlying3 rfl rfl rfl rfl (by first | omega | (simp only [AV.len]; omega) | (simp only [AV.len]; omega) | assumption | (simp [AV.len]; done))) trivial rfl ?_
  refine .q (op_call (U := []) [] [] (rbig_ev i hi (by omega) n) Tryd.func64 (by kernel_rfl) rfl rfl rfl (⟨⟨_, rfl, rfl, rfl⟩, ⟨_, rfl, rfl, rfl⟩, trivial⟩) (trivial) (trivial) (trivial) rfl) trivial rfl ?_
  refine .q (op_move rfl) trivial rfl ?_
  refine .q (op_extract rfl rfl) trivial rfl ?_
  refine .q (op_extract rfl rfl) trivial rfl ?_
  refine .a (op_allocRow zero47 rel_zero47 rfl) trivial rfl ?_
  refine .w (op_storeRow (by kernel_rfl) rfl rfl rfl rfl rfl (rfl) (rfl)) trivial rfl ?_
  refine .q (op_assign rfl) trivial rfl ?_
  refine .nil ?_
  show Ev _ _ _ _ _
  refine .seq ?_
  refine .drawnF [[], [], [], [2], [1, 2, 3], [], [1, 2, 3, 4, 5], [0, 1, 2, 3, 4], [0, 1, 2, 3, 4, 5, 6, 7]] [0, 3, 4, 7] [] [(0, ([1024], [])), (3, ([1008], [])), (4, ([1, 4, 0], [500])), (7, ([], [1016]))] (by kernel_rfl) (by kernel_rfl) rfl ?_
  show DK _ [0, 1, 2, 3, 4, 5, 6, 7, 8] _ _ _
  refine .q rfl (op_loadRow Tryd.underlying47 rfl (by kernel_rfl) rfl rfl rfl (rfl)) trivial ?_
  refine .q rfl (op_move rfl) trivial ?_
  refine .q rfl (op_fieldAddr (m := 0) Tryd.underlying51 rfl (by kernel_rfl) rfl) trivial ?_
  refine .as (.ptr 1008 1) rfl ?_
  refine .q rfl (op_load Tryd.underlying3 rfl rfl rfl rfl (by first | omega | (simp only [AV.len]; omega) | (simp only [AV.len]; omega) | assumption | (simp [AV.len]; done))) trivial ?_
  refine .a rfl (op_call (U := [(500, some ⟨.agg [.str ((bigD i n).1).r, .err 225 (((bigD i n).1).e) (offE eo (((bigD i n).1).e))], 96, true⟩)]) [(500, 500)] [] (ibig_ev i n (by omega) eo) Tryd.func53 (by kernel_rfl) rfl rfl rfl (⟨⟨_, rfl, rfl, rfl⟩, ⟨_, rfl, rfl, rfl⟩, trivial⟩) (⟨⟨_, _, rfl, rfl, rfl, rfl, id, rfl⟩, ⟨_, _, rfl, rfl, rfl, rfl, (fun h => by cases h), rfl⟩, ⟨_, _, rfl, rfl, rfl, rfl, (fun h => by cases h), rfl⟩, ⟨_, _, rfl, rfl, rfl, rfl, (fun h => by cases h), rfl⟩, trivial⟩) (⟨⟨500, _, rfl, rfl, rfl, rfl, .inr ⟨rfl, _, rfl, rfl⟩⟩, trivial⟩) (⟨(fun _ => ⟨500, _, rfl, rfl⟩), (fun h => by cases h), (fun h => by cases h), (fun h => by cases h), trivial⟩) rfl) trivial rfl rfl ?_
  refine .q rfl (op_move rfl) trivial ?_
  refine .q rfl (op_eqS rfl rfl rfl) trivial ?_
  refine .w rfl (op_storeRow (by kernel_rfl) rfl rfl rfl rfl rfl (rfl) (rfl)) trivial rfl rfl ?_
  refine .q rfl (op_assign rfl) trivial ?_
  refine .nil ?_
  show Ev _ _ _ _ _
  refine .ret ?_
  show RetOk _ _ _ _ _ _ _
  exact retc2 rfl (.inl rfl) ⟨_, _, _, _, rfl, rfl, rfl, rfl, rfl, Tryd.underlying47, rfl, (by kernel_rfl)⟩ (congrArg (fun b => some (AV.bool b)) (beq_self_eq_true _)) ⟨rfl, trivial⟩
set_option maxRecDepth 100000 in
theorem step_t (i : DI) (hi : i.ok) (_hr : i.r.length ≤ 200) (n : Int) (k : Int) (hk : ¬ (k = 0 ∨ k = 1 ∨ k = 2 ∨ k = 3 ∨ k = 4 ∨ k = 6 ∨ k = 7)) (eo : Nat → Nat × Nat) : Meets Tryd.prog 21 [.ptr 500 0, .agg [.str (i).r, .i64 (((i).e : Nat) : Int)], .agg [.i64 k, .i64 n]] [(500, some ⟨.agg [.str (i).r, .err 225 ((i).e) (offE eo ((i).e))], 96, true⟩), (1, some ⟨.agg [.err 225 (2) (offE eo (2))], errT, false⟩), (4, some ⟨.agg [.err 225 (4) (offE eo (4))], errT, false⟩), (0, some ⟨.agg [.err 225 (3) (offE eo (3))], errT, false⟩)] (.tup [.agg [.str ((textD i n).1).r, .i64 ((((textD i n).1).e : Nat) : Int)], .bool true]) [(500, some ⟨.agg [.str ((textD i n).1).r, .err 225 (((textD i n).1).e) (offE eo (((textD i n).1).e))], 96, true⟩)] := by
  refine meets_of_ev (nt := 135) Tryd.func21 rfl rfl (Nat.le_of_ble_eq_true rfl) ?_
  refine .seq ?_
  refine .region ?_
  refine .a (op_boxRow rfl rfl) trivial rfl ?_
  refine .a (op_boxRow rfl rfl) trivial rfl ?_
  refine .a (op_allocRow zero47 rel_zero47 rfl) trivial rfl ?_
  refine .q (op_assign rfl) trivial rfl ?_
  refine .nil ?_
  show Ev _ _ _ _ _
  refine .seq ?_
  refine .seq ?_
  refine .region ?_
  refine .q (op_fieldAddr (m := 0) Tryd.underlying51 rfl (by kernel_rfl) rfl) trivial rfl ?_
  refine .as (.ptr 1008 0) rfl ?_
  refine .q (op_load Tryd.underlying3 rfl rfl rfl rfl (by first | omega | (simp only [AV.len]; omega) | (simp only [AV.len]; omega) | assumption | (simp [AV.len]; done))) trivial rfl ?_
  refine .nil ?_
  show Ev _ _ _ _ _
  refine .block ?_
  refine .seq ?_
  refine .region ?_
  refine .q (op_cmpI rfl rfl rfl) trivial rfl ?_
  refine .q (op_assign rfl) trivial rfl ?_
  refine .nil ?_
  show Ev _ _ _ _ _
  refine .cond_false rfl (beq_eq_false_iff_ne.2 (fun h => hk (by omega))) ?_
  refine .seq ?_
  refine .region ?_
  refine .q (op_cmpI rfl rfl rfl) trivial rfl ?_
  refine .q (op_assign rfl) trivial rfl ?_
  refine .nil ?_
  show Ev _ _ _ _ _
  refine .cond_false rfl (beq_eq_false_iff_ne.2 (fun h => hk (by omega))) ?_
  refine .seq ?_
  refine .region ?_
  refine .q (op_cmpI rfl rfl rfl) trivial rfl ?_
  refine .q (op_assign rfl) trivial rfl ?_
  refine .nil ?_
  show Ev _ _ _ _ _
  refine .cond_false rfl (beq_eq_false_iff_ne.2 (fun h => hk (by omega))) ?_
  refine .seq ?_
  refine .region ?_
  refine .q (op_cmpI rfl rfl rfl) trivial rfl ?_
  refine .q (op_assign rfl) trivial rfl ?_
  refine .nil ?_
  show Ev _ _ _ _ _
  refine .cond_false rfl (beq_eq_false_iff_ne.2 (fun h => hk (by omega))) ?_
  refine .seq ?_
  refine .region ?_
  refine .q (op_cmpI rfl rfl rfl) trivial rfl ?_
  refine .q (op_assign rfl) trivial rfl ?_
  refine .nil ?_
  show Ev _ _ _ _ _
  refine .cond_false rfl (beq_eq_false_iff_ne.2 (fun h => hk (by omega))) ?_
  refine .seq ?_
  refine .region ?_
  refine .q (op_cmpI rfl rfl rfl) trivial rfl ?_
  refine .q (op_assign rfl) trivial rfl ?_
  refine .nil ?_
  show Ev _ _ _ _ _
  refine .cond_false rfl (beq_eq_false_iff_ne.2 (fun h => hk (by omega))) ?_
  refine .seq ?_
  refine .region ?_
  refine .q (op_cmpI rfl rfl rfl) trivial rfl ?_
  refine .q (op_assign rfl) trivial rfl ?_
  refine .nil ?_
  show Ev _ _ _ _ _
  refine .cond_false rfl (beq_eq_false_iff_ne.2 (fun h => hk (by omega))) ?_
  refine .skip ?_
  show Ev _ _ _ _ _
  refine .seq ?_
  refine .region ?_
  refine .q (op_loadRow Tryd.underlying47 rfl (by kernel_rfl) rfl rfl rfl (rfl)) trivial rfl ?_
  refine .q (op_fieldAddr (m := 0) Tryd.underlying51 rfl (by kernel_rfl) rfl) trivial rfl ?_
  refine .as (.ptr 1008 1) rfl ?_
  refine .q (op_load Tryd.underlying3 rfl rfl rfl rfl (by first | omega | (simp only [AV.len]; omega) | (simp only [AV.len]; omega) | assumption | (simp [AV.len]; done))) trivial rfl ?_
  refine .q (op_call (U := []) [] [] (rtext_ev i hi n) Tryd.func65 (by kernel_rfl) rfl rfl rfl (⟨⟨_, rfl, rfl, rfl⟩, ⟨_, rfl, rfl, rfl⟩, trivial⟩) (trivial) (trivial) (trivial) rfl) trivial rfl ?_
  refine .q (op_move rfl) trivial rfl ?_
  refine .q (op_extract rfl rfl) trivial rfl ?_
  refine .q (op_extract rfl rfl) trivial rfl ?_
  refine .a (op_allocRow zero47 rel_zero47 rfl) trivial rfl ?_
  refine .w (op_storeRow (by kernel_rfl) rfl rfl rfl rfl rfl (rfl) (rfl)) trivial rfl ?_
  refine .q (op_assign rfl) trivial rfl ?_
  refine .nil ?_
  show Ev _ _ _ _ _
  refine .seq ?_
  refine .drawnF [[], [], [], [2], [1, 2, 3], [], [1, 2, 3, 4, 5], [0, 1, 2, 3, 4], [0, 1, 2, 3, 4, 5, 6, 7]] [0, 3, 4, 7] [] [(0, ([1024], [])), (3, ([1008], [])), (4, ([1, 4], [500])), (7, ([], [1016]))] (by kernel_rfl) (by kernel_rfl) rfl ?_
  show DK _ [0, 1, 2, 3, 4, 5, 6, 7, 8] _ _ _
  refine .q rfl (op_loadRow Tryd.underlying47 rfl (by kernel_rfl) rfl rfl rfl (rfl)) trivial ?_
  refine .q rfl (op_move rfl) trivial ?_
  refine .q rfl (op_fieldAddr (m := 0) Tryd.underlying51 rfl (by kernel_rfl) rfl) trivial ?_
  refine .as (.ptr 1008 1) rfl ?_
  refine .q rfl (op_load Tryd.underlying3 rfl rfl rfl rfl (by first | omega | (simp only [AV.len]; omega) | (simp only [AV.len]; omega) | assumption | (simp [AV.len]; done))) trivial ?_
  refine .a rfl (op_call (U := [(500, some ⟨.agg [.str ((textD i n).1).r, .err 225 (((textD i n).1).e) (offE eo (((textD i n).1).e))], 96, true⟩)]) [(500, 500)] [] (itext_ev i n eo) Tryd.func52 (by kernel_rfl) rfl rfl rfl (⟨⟨_, rfl, rfl, rfl⟩, ⟨_, rfl, rfl, rfl⟩, trivial⟩) (⟨⟨_, _, rfl, rfl, rfl, rfl, id, rfl⟩, ⟨_, _, rfl, rfl, rfl, rfl, (fun h => by cases h), rfl⟩, ⟨_, _, rfl, rfl, rfl, rfl, (fun h => by cases h), rfl⟩, trivial⟩) (⟨⟨500, _, rfl, rfl, rfl, rfl, .inr ⟨rfl, _, rfl, rfl⟩⟩, trivial⟩) (⟨(fun _ => ⟨500, _, rfl, rfl⟩), (fun h => by cases h), (fun h => by cases h), trivial⟩) rfl) trivial rfl rfl ?_
  refine .q rfl (op_move rfl) trivial ?_
  refine .q rfl (op_eqS rfl rfl rfl) trivial ?_
  refine .w rfl (op_storeRow (by kernel_rfl) rfl rfl rfl rfl rfl (rfl) (rfl)) trivial rfl rfl ?_
  refine .q rfl (op_assign rfl) trivial ?_
  refine .nil ?_
  show Ev _ _ _ _ _
  refine .ret ?_
  show RetOk _ _ _ _ _ _ _
  exact retc2 rfl (.inl rfl) ⟨_, _, _, _, rfl, rfl, rfl, rfl, rfl, Tryd.underlying47, rfl, (by kernel_rfl)⟩ (congrArg (fun b => some (AV.bool b)) (beq_self_eq_true _)) ⟨rfl, trivial⟩
set_option maxRecDepth 100000 in
theorem step_6n (i : DI) (hi : i.ok) (hr : i.r.length ≤ 200) (n : Int) (h0 : (textD i 4096).2 = []) (eo : Nat → Nat × Nat) : Meets Tryd.prog 21 [.ptr 500 0, .agg [.str (i).r, .i64 (((i).e : Nat) : Int)], .agg [.i64 6, .i64 n]] [(500, some ⟨.agg [.str (i).r, .err 225 ((i).e) (offE eo ((i).e))], 96, true⟩), (1, some ⟨.agg [.err 225 (2) (offE eo (2))], errT, false⟩), (4, some ⟨.agg [.err 225 (4) (offE eo (4))], errT, false⟩), (0, some ⟨.agg [.err 225 (3) (offE eo (3))], errT, false⟩)] (.tup [.agg [.str ((textD i 4096).1).r, .i64 ((((textD i 4096).1).e : Nat) : Int)], .bool true]) [(500, some ⟨.agg [.str ((textD i 4096).1).r, .err 225 (((textD i 4096).1).e) (offE eo (((textD i 4096).1).e))], 96, true⟩)] := by
  refine meets_of_ev (nt := 135) Tryd.func21 rfl rfl (Nat.le_of_ble_eq_true rfl) ?_
  refine .seq ?_
  refine .region ?_
  refine .a (op_boxRow rfl rfl) trivial rfl ?_
  refine .a (op_boxRow rfl rfl) trivial rfl ?_
  refine .a (op_allocRow zero47 rel_zero47 rfl) trivial rfl ?_
  refine .q (op_assign rfl) trivial rfl ?_
  refine .nil ?_
  show Ev _ _ _ _ _
  refine .seq ?_
  refine .seq ?_
  refine .region ?_
  refine .q (op_fieldAddr (m := 0) Tryd.underlying51 rfl (by kernel_rfl) rfl) trivial rfl ?_
  refine .as (.ptr 1008 0) rfl ?_
  refine .q (op_load Tryd.underlying3 rfl rfl rfl rfl (by first | omega | (simp only [AV.len]; omega) | (simp only [AV.len]; omega) | assumption | (simp [AV.len]; done))) trivial rfl ?_
  refine .nil ?_
  show Ev _ _ _ _ _
  refine .block ?_
  refine .seq ?_
  refine .region ?_
  refine .q (op_cmpI rfl rfl rfl) trivial rfl ?_
  refine .q (op_assign rfl) trivial rfl ?_
  refine .nil ?_
  show Ev _ _ _ _ _
  refine .cond_false rfl (rfl) ?_
  refine .seq ?_
  refine .region ?_
  refine .q (op_cmpI rfl rfl rfl) trivial rfl ?_
  refine .q (op_assign rfl) trivial rfl ?_
  refine .nil ?_
  show Ev _ _ _ _ _
  refine .cond_false rfl (rfl) ?_
  refine .seq ?_
  refine .region ?_
  refine .q (op_cmpI rfl rfl rfl) trivial rfl ?_
  refine .q (op_assign rfl) trivial rfl ?_
  refine .nil ?_
  show Ev _ _ _ _ _
  refine .cond_false rfl (rfl) ?_
  refine .seq ?_
  refine .region ?_
  refine .q (op_cmpI rfl rfl rfl) trivial rfl ?_
  refine .q (op_assign rfl) trivial rfl ?_
  refine .nil ?_
  show Ev _ _ _ _ _
  refine .cond_false rfl (rfl) ?_
  refine .seq ?_
  refine .region ?_
  refine .q (op_cmpI rfl rfl rfl) trivial rfl ?_
  refine .q (op_assign rfl) trivial rfl ?_
  refine .nil ?_
  show Ev _ _ _ _ _
  refine .cond_false rfl (rfl) ?_
  refine .seq ?_
  refine .region ?_
  refine .q (op_cmpI rfl rfl rfl) trivial rfl ?_
  refine .q (op_assign rfl) trivial rfl ?_
  refine .nil ?_
  show Ev _ _ _ _ _
  refine .cond_true rfl (rfl) ?_
  refine .seq ?_
  refine .region ?_
  refine .q (op_loadRow Tryd.underlying47 rfl (by kernel_rfl) rfl rfl rfl (rfl)) trivial rfl ?_
  refine .q (op_call (U := []) [] [] (rnames_nil i hi (by omega) h0) Tryd.func61 (by kernel_rfl) rfl rfl rfl (⟨⟨_, rfl, rfl, rfl⟩, trivial⟩) (trivial) (trivial) (trivial) rfl) trivial rfl ?_
  refine .q (op_move rfl) trivial rfl ?_
  refine .q (op_extract rfl rfl) trivial rfl ?_
  refine .q (op_extract rfl rfl) trivial rfl ?_
  refine .a (op_allocRow zero47 rel_zero47 rfl) trivial rfl ?_
  refine .w (op_storeRow (by kernel_rfl) rfl rfl rfl rfl rfl (rfl) (rfl)) trivial rfl ?_
  refine .q (op_assign rfl) trivial rfl ?_
  refine .nil ?_
  show Ev _ _ _ _ _
  refine .seq ?_
  refine .drawnF [[], [], [1], [], [1, 2, 3], [0, 1, 2, 3, 4], [0, 1, 2, 3, 4, 5]] [0, 2, 4, 5] [] [(0, ([1024], [])), (2, ([1, 4, 0], [500])), (5, ([], [1016]))] (by kernel_rfl) (by kernel_rfl) rfl ?_
  show DK _ [0, 1, 2, 3, 4, 5, 6] _ _ _
  refine .q rfl (op_loadRow Tryd.underlying47 rfl (by kernel_rfl) rfl rfl rfl (rfl)) trivial ?_
  refine .q rfl (op_move rfl) trivial ?_
  refine .a rfl (op_call (U := [(500, some ⟨.agg [.str ((textD i 4096).1).r, .err 225 (((textD i 4096).1).e) (offE eo (((textD i 4096).1).e))], 96, true⟩)]) [(500, 500)] [] (names_nil i (by omega) h0 eo) Tryd.func63 (by kernel_rfl) rfl rfl rfl (⟨⟨_, rfl, rfl, rfl⟩, trivial⟩) (⟨⟨_, _, rfl, rfl, rfl, rfl, id, rfl⟩, ⟨_, _, rfl, rfl, rfl, rfl, (fun h => by cases h), rfl⟩, ⟨_, _, rfl, rfl, rfl, rfl, (fun h => by cases h), rfl⟩, ⟨_, _, rfl, rfl, rfl, rfl, (fun h => by cases h), rfl⟩, trivial⟩) (⟨⟨500, _, rfl, rfl, rfl, rfl, .inr ⟨rfl, _, rfl, rfl⟩⟩, trivial⟩) (⟨(fun _ => ⟨500, _, rfl, rfl⟩), (fun h => by cases h), (fun h => by cases h), (fun h => by cases h), trivial⟩) rfl) trivial rfl rfl ?_
  refine .q rfl (op_move rfl) trivial ?_
  refine .q rfl (op_call (U := []) [] [] (lsame_nil) Tryd.func62 (by kernel_rfl) rfl rfl rfl (⟨⟨_, rfl, rfl, rfl⟩, ⟨_, rfl, rfl, rfl⟩, trivial⟩) (trivial) (trivial) (trivial) rfl) trivial ?_
  refine .w rfl (op_storeRow (by kernel_rfl) rfl rfl rfl rfl rfl (rfl) (rfl)) trivial rfl rfl ?_
  refine .q rfl (op_assign rfl) trivial ?_
  refine .nil ?_
  show Ev _ _ _ _ _
  refine .ret ?_
  show RetOk _ _ _ _ _ _ _
  exact retc2 rfl (.inl rfl) ⟨_, _, _, _, rfl, rfl, rfl, rfl, rfl, Tryd.underlying47, rfl, (by kernel_rfl)⟩ (congrArg (fun b => some (AV.bool b)) (rfl)) ⟨rfl, trivial⟩
set_option maxRecDepth 100000 in
theorem step_6y (i : DI) (hi : i.ok) (hr : i.r.length ≤ 200) (n : Int) (h0 : ¬ (textD i 4096).2 = []) (h : (splitC (textD i 4096).2).all nameOk = true) (eo : Nat → Nat × Nat) : Meets Tryd.prog 21 [.ptr 500 0, .agg [.str (i).r, .i64 (((i).e : Nat) : Int)], .agg [.i64 6, .i64 n]] [(500, some ⟨.agg [.str (i).r, .err 225 ((i).e) (offE eo ((i).e))], 96, true⟩), (1, some ⟨.agg [.err 225 (2) (offE eo (2))], errT, false⟩), (4, some ⟨.agg [.err 225 (4) (offE eo (4))], errT, false⟩), (0, some ⟨.agg [.err 225 (3) (offE eo (3))], errT, false⟩)] (.tup [.agg [.str ((textD i 4096).1).r, .i64 ((((textD i 4096).1).e : Nat) : Int)], .bool true]) [(500, some ⟨.agg [.str ((textD i 4096).1).r, .err 225 (((textD i 4096).1).e) (offE eo (((textD i 4096).1).e))], 96, true⟩)] := by
  have hn : (splitC (textD i 4096).2).length ≤ 1000000 := by
    rw [splitC_len]; have := List.count_le_length (a := (44 : UInt8)) (l := (textD i 4096).2); have := (textD_len_le i 4096).1; omega
  refine meets_of_ev (nt := 135) Tryd.func21 rfl rfl (Nat.le_of_ble_eq_true rfl) ?_
  refine .seq ?_
  refine .region ?_
  refine .a (op_boxRow rfl rfl) trivial rfl ?_
  refine .a (op_boxRow rfl rfl) trivial rfl ?_
  refine .a (op_allocRow zero47 rel_zero47 rfl) trivial rfl ?_
  refine .q (op_assign rfl) trivial rfl ?_
  refine .nil ?_
  show Ev _ _ _ _ _
  refine .seq ?_
  refine .seq ?_
  refine .region ?_
  refine .q (op_fieldAddr (m := 0) Tryd.underlying51 rfl (by kernel_rfl) rfl) trivial rfl ?_
  refine .as (.ptr 1008 0) rfl ?_
  refine .q (op_load Tryd.underlying3 rfl rfl rfl rfl (by first | omega | (simp only [AV.len]; omega) | (simp only [AV.len]; omega) | assumption | (simp [AV.len]; done))) trivial rfl ?_
  refine .nil ?_
  show Ev _ _ _ _ _
  refine .block ?_
  refine .seq ?_
  refine .region ?_
  refine .q (op_cmpI rfl rfl rfl) trivial rfl ?_
  refine .q (op_assign rfl) trivial rfl ?_
  refine .nil ?_
  show Ev _ _ _ _ _
  refine .cond_false rfl (rfl) ?_
  refine .seq ?_
  refine .region ?_
  refine .q (op_cmpI rfl rfl rfl) trivial rfl ?_
  refine .q (op_assign rfl) trivial rfl ?_
  refine .nil ?_
  show Ev _ _ _ _ _
  refine .cond_false rfl (rfl) ?_
  refine .seq ?_
  refine .region ?_
  refine .q (op_cmpI rfl rfl rfl) trivial rfl ?_
  refine .q (op_assign rfl) trivial rfl ?_
  refine .nil ?_
  show Ev _ _ _ _ _
  refine .cond_false rfl (rfl) ?_
  refine .seq ?_
  refine .region ?_
  refine .q (op_cmpI rfl rfl rfl) trivial rfl ?_
  refine .q (op_assign rfl) trivial rfl ?_
  refine .nil ?_
  show Ev _ _ _ _ _
  refine .cond_false rfl (rfl) ?_
  refine .seq ?_
  refine .region ?_
  refine .q (op_cmpI rfl rfl rfl) trivial rfl ?_
  refine .q (op_assign rfl) trivial rfl ?_
  refine .nil ?_
  show Ev _ _ _ _ _
  refine .cond_false rfl (rfl) ?_
  refine .seq ?_
  refine .region ?_
  refine .q (op_cmpI rfl rfl rfl) trivial rfl ?_
  refine .q (op_assign rfl) trivial rfl ?_
  refine .nil ?_
  show Ev _ _ _ _ _
  refine .cond_true rfl (rfl) ?_
  refine .seq ?_
  refine .region ?_
  refine .q (op_loadRow Tryd.underlying47 rfl (by kernel_rfl) rfl rfl rfl (rfl)) trivial rfl ?_
  refine .a (op_call (U := [(1024, some ⟨.aggS (splitC (textD i 4096).2), 9, true⟩)]) [] [(1024, 1024)] (rnames_ok i hi (by omega) h0 h) Tryd.func61 (by kernel_rfl) rfl rfl rfl (⟨⟨_, rfl, rfl, rfl⟩, trivial⟩) (trivial) (⟨⟨1024, _, rfl, rfl, rfl, rfl, .inl rfl⟩, trivial⟩) (trivial) rfl) trivial rfl ?_
  refine .q (op_move rfl) trivial rfl ?_
  refine .q (op_extract rfl rfl) trivial rfl ?_
  refine .q (op_extract rfl rfl) trivial rfl ?_
  refine .a (op_allocRow zero47 rel_zero47 rfl) trivial rfl ?_
  refine .w (op_storeRow (by kernel_rfl) rfl rfl rfl rfl rfl (rfl) (rfl)) trivial rfl ?_
  refine .q (op_assign rfl) trivial rfl ?_
  refine .nil ?_
  show Ev _ _ _ _ _
  refine .seq ?_
  refine .drawnF [[], [], [1], [], [1, 2, 3], [0, 1, 2, 3, 4], [0, 1, 2, 3, 4, 5]] [0, 2, 4, 5] [] [(0, ([1032], [])), (2, ([1, 4, 0], [500])), (4, ([1056, 1024], [])), (5, ([], [1016]))] (by kernel_rfl) (by kernel_rfl) rfl ?_
  show DK _ [0, 1, 2, 3, 4, 5, 6] _ _ _
  refine .q rfl (op_loadRow Tryd.underlying47 rfl (by kernel_rfl) rfl rfl rfl (rfl)) trivial ?_
  refine .q rfl (op_move rfl) trivial ?_
  refine .a rfl (op_call (U := [(500, some ⟨.agg [.str ((textD i 4096).1).r, .err 225 (((textD i 4096).1).e) (offE eo (((textD i 4096).1).e))], 96, true⟩), (1056, some ⟨.aggS (splitC (textD i 4096).2), 9, true⟩)]) [(500, 500)] [(1056, 1008)] (names_ok i (by omega) h0 h eo) Tryd.func63 (by kernel_rfl) rfl rfl rfl (⟨⟨_, rfl, rfl, rfl⟩, trivial⟩) (⟨⟨_, _, rfl, rfl, rfl, rfl, id, rfl⟩, ⟨_, _, rfl, rfl, rfl, rfl, (fun h => by cases h), rfl⟩, ⟨_, _, rfl, rfl, rfl, rfl, (fun h => by cases h), rfl⟩, ⟨_, _, rfl, rfl, rfl, rfl, (fun h => by cases h), rfl⟩, trivial⟩) (⟨⟨500, _, rfl, rfl, rfl, rfl, .inr ⟨rfl, _, rfl, rfl⟩⟩, ⟨1008, _, rfl, rfl, rfl, rfl, .inl rfl⟩, trivial⟩) (⟨(fun _ => ⟨500, _, rfl, rfl⟩), (fun h => by cases h), (fun h => by cases h), (fun h => by cases h), trivial⟩) rfl) trivial rfl rfl ?_
  refine .q rfl (op_move rfl) trivial ?_
  refine .q rfl (op_call (U := []) [(500, 1056), (501, 1024)] [] (lsame_ok (splitC (textD i 4096).2) _ rfl (by have := hn; omega)) Tryd.func62 (by kernel_rfl) rfl rfl rfl (⟨⟨_, rfl, rfl, rfl⟩, ⟨_, rfl, rfl, rfl⟩, trivial⟩) (⟨⟨_, ⟨.aggS (splitC (textD i 4096).2), 9, true⟩, rfl, by kernel_rfl, rfl, rfl, (fun h => by cases h), rfl⟩, ⟨_, ⟨.aggS (splitC (textD i 4096).2), 9, true⟩, rfl, by kernel_rfl, rfl, rfl, (fun h => by cases h), rfl⟩, trivial⟩) (trivial) (⟨(fun h => by cases h), (fun h => by cases h), trivial⟩) rfl) trivial ?_
  refine .w rfl (op_storeRow (by kernel_rfl) rfl rfl rfl rfl rfl (rfl) (rfl)) trivial rfl rfl ?_
  refine .q rfl (op_assign rfl) trivial ?_
  refine .nil ?_
  show Ev _ _ _ _ _
  refine .ret ?_
  show RetOk _ _ _ _ _ _ _
  exact retc2 rfl (.inl rfl) ⟨_, _, _, _, rfl, rfl, rfl, rfl, rfl, Tryd.underlying47, rfl, (by kernel_rfl)⟩ (congrArg (fun b => some (AV.bool b)) (rfl)) ⟨rfl, trivial⟩
set_option maxRecDepth 100000 in
theorem step_6b (i : DI) (hi : i.ok) (hr : i.r.length ≤ 200) (n : Int) (h0 : ¬ (textD i 4096).2 = []) (b : Nat) (hb : b < (splitC (textD i 4096).2).length) (hbad : nameOk ((splitC (textD i 4096).2).getD b []) = false) (eo : Nat → Nat × Nat) : Meets Tryd.prog 21 [.ptr 500 0, .agg [.str (i).r, .i64 (((i).e : Nat) : Int)], .agg [.i64 6, .i64 n]] [(500, some ⟨.agg [.str (i).r, .err 225 ((i).e) (offE eo ((i).e))], 96, true⟩), (1, some ⟨.agg [.err 225 (2) (offE eo (2))], errT, false⟩), (4, some ⟨.agg [.err 225 (4) (offE eo (4))], errT, false⟩), (0, some ⟨.agg [.err 225 (3) (offE eo (3))], errT, false⟩)] (.tup [.agg [.str [], .i64 3], .bool true]) [(500, some ⟨.agg [.str ((failD (textD i 4096).1 3)).r, .err 225 (((failD (textD i 4096).1 3)).e) (offE eo (((failD (textD i 4096).1 3)).e))], 96, true⟩)] := by
  refine meets_of_ev (nt := 135) Tryd.func21 rfl rfl (Nat.le_of_ble_eq_true rfl) ?_
  refine .seq ?_
  refine .region ?_
  refine .a (op_boxRow rfl rfl) trivial rfl ?_
  refine .a (op_boxRow rfl rfl) trivial rfl ?_
  refine .a (op_allocRow zero47 rel_zero47 rfl) trivial rfl ?_
  refine .q (op_assign rfl) trivial rfl ?_
  refine .nil ?_
  show Ev _ _ _ _ _
  refine .seq ?_
  refine .seq ?_
  refine .region ?_
  refine .q (op_fieldAddr (m := 0) Tryd.underlying51 rfl (by kernel_rfl) rfl) trivial rfl ?_
  refine .as (.ptr 1008 0) rfl ?_
  refine .q (op_load Tryd.underlying3 rfl rfl rfl rfl (by first | omega | (simp only [AV.len]; omega) | (simp only [AV.len]; omega) | assumption | (simp [AV.len]; done))) trivial rfl ?_
  refine .nil ?_
  show Ev _ _ _ _ _
  refine .block ?_
  refine .seq ?_
  refine .region ?_
  refine .q (op_cmpI rfl rfl rfl) trivial rfl ?_
  refine .q (op_assign rfl) trivial rfl ?_
  refine .nil ?_
  show Ev _ _ _ _ _
  refine .cond_false rfl (rfl) ?_
  refine .seq ?_
  refine .region ?_
  refine .q (op_cmpI rfl rfl rfl) trivial rfl ?_
  refine .q (op_assign rfl) trivial rfl ?_
  refine .nil ?_
  show Ev _ _ _ _ _
  refine .cond_false rfl (rfl) ?_
  refine .seq ?_
  refine .region ?_
  refine .q (op_cmpI rfl rfl rfl) trivial rfl ?_
  refine .q (op_assign rfl) trivial rfl ?_
  refine .nil ?_
  show Ev _ _ _ _ _
  refine .cond_false rfl (rfl) ?_
  refine .seq ?_
  refine .region ?_
  refine .q (op_cmpI rfl rfl rfl) trivial rfl ?_
  refine .q (op_assign rfl) trivial rfl ?_
  refine .nil ?_
  show Ev _ _ _ _ _
  refine .cond_false rfl (rfl) ?_
  refine .seq ?_
  refine .region ?_
  refine .q (op_cmpI rfl rfl rfl) trivial rfl ?_
  refine .q (op_assign rfl) trivial rfl ?_
  refine .nil ?_
  show Ev _ _ _ _ _
  refine .cond_false rfl (rfl) ?_
  refine .seq ?_
  refine .region ?_
  refine .q (op_cmpI rfl rfl rfl) trivial rfl ?_
  refine .q (op_assign rfl) trivial rfl ?_
  refine .nil ?_
  show Ev _ _ _ _ _
  refine .cond_true rfl (rfl) ?_
  refine .seq ?_
  refine .region ?_
  refine .q (op_loadRow Tryd.underlying47 rfl (by kernel_rfl) rfl rfl rfl (rfl)) trivial rfl ?_
  refine .q (op_call (U := []) [] [] (rnames_bad i hi (by omega) h0 b hb hbad) Tryd.func61 (by kernel_rfl) rfl rfl rfl (⟨⟨_, rfl, rfl, rfl⟩, trivial⟩) (trivial) (trivial) (trivial) rfl) trivial rfl ?_
  refine .q (op_move rfl) trivial rfl ?_
  refine .q (op_extract rfl rfl) trivial rfl ?_
  refine .q (op_extract rfl rfl) trivial rfl ?_
  refine .a (op_allocRow zero47 rel_zero47 rfl) trivial rfl ?_
  refine .w (op_storeRow (by kernel_rfl) rfl rfl rfl rfl rfl (rfl) (rfl)) trivial rfl ?_
  refine .q (op_assign rfl) trivial rfl ?_
  refine .nil ?_
  show Ev _ _ _ _ _
  refine .seq ?_
  refine .drawnF [[], [], [1], [], [1, 2, 3], [0, 1, 2, 3, 4], [0, 1, 2, 3, 4, 5]] [0, 2, 4, 5] [] [(0, ([1024], [])), (2, ([1, 4, 0], [500])), (5, ([], [1016]))] (by kernel_rfl) (by kernel_rfl) rfl ?_
  show DK _ [0, 1, 2, 3, 4, 5, 6] _ _ _
  refine .q rfl (op_loadRow Tryd.underlying47 rfl (by kernel_rfl) rfl rfl rfl (rfl)) trivial ?_
  refine .q rfl (op_move rfl) trivial ?_
  refine .a rfl (op_call (U := [(500, some ⟨.agg [.str ((failD (textD i 4096).1 3)).r, .err 225 (((failD (textD i 4096).1 3)).e) (offE eo (((failD (textD i 4096).1 3)).e))], 96, true⟩)]) [(500, 500)] [] (names_bad i (by omega) h0 b hb hbad eo) Tryd.func63 (by kernel_rfl) rfl rfl rfl (⟨⟨_, rfl, rfl, rfl⟩, trivial⟩) (⟨⟨_, _, rfl, rfl, rfl, rfl, id, rfl⟩, ⟨_, _, rfl, rfl, rfl, rfl, (fun h => by cases h), rfl⟩, ⟨_, _, rfl, rfl, rfl, rfl, (fun h => by cases h), rfl⟩, ⟨_, _, rfl, rfl, rfl, rfl, (fun h => by cases h), rfl⟩, trivial⟩) (⟨⟨500, _, rfl, rfl, rfl, rfl, .inr ⟨rfl, _, rfl, rfl⟩⟩, trivial⟩) (⟨(fun _ => ⟨500, _, rfl, rfl⟩), (fun h => by cases h), (fun h => by cases h), (fun h => by cases h), trivial⟩) rfl) trivial rfl rfl ?_
  refine .q rfl (op_move rfl) trivial ?_
  refine .q rfl (op_call (U := []) [] [] (lsame_nil) Tryd.func62 (by kernel_rfl) rfl rfl rfl (⟨⟨_, rfl, rfl, rfl⟩, ⟨_, rfl, rfl, rfl⟩, trivial⟩) (trivial) (trivial) (trivial) rfl) trivial ?_
  refine .w rfl (op_storeRow (by kernel_rfl) rfl rfl rfl rfl rfl (rfl) (rfl)) trivial rfl rfl ?_
  refine .q rfl (op_assign rfl) trivial ?_
  refine .nil ?_
  show Ev _ _ _ _ _
  refine .ret ?_
  show RetOk _ _ _ _ _ _ _
  exact retc2 rfl (.inl rfl) ⟨_, _, _, _, rfl, rfl, rfl, rfl, rfl, Tryd.underlying47, rfl, (by kernel_rfl)⟩ (congrArg (fun b => some (AV.bool b)) (rfl)) ⟨rfl, trivial⟩
end Go.Proofs.YteefpaiefphdpaaDoor
namespace Go.Proofs.YteefpaiefphdpaaDoor
open Go.RowKit
/-- What a decoder may be in this law. -/
structure DI.good (i : DI) : Prop where
  ok : i.ok
  le : i.r.length ≤ 200
  e : i.e = 0 ∨ i.e = 2 ∨ i.e = 3 ∨ i.e = 4
theorem good_fail {i : DI} (h : i.good) {x : Nat} (hx : x = 2 ∨ x = 3 ∨ x = 4) : (failD i x).good := by
  refine ⟨failD_ok _ _, Nat.zero_le _, ?_⟩
  show orE i.e x = 0 ∨ orE i.e x = 2 ∨ orE i.e x = 3 ∨ orE i.e x = 4
  rcases h.e with h | h | h | h <;> rw [h] <;> simp [orE] <;> omega
theorem good_raw {i : DI} (h : i.good) (n : Nat) : (rawD i n).1.good := by
  refine ⟨rawD_ok h.ok n, Nat.le_trans (rawD_len_le i n).2 h.le, ?_⟩
  unfold rawD
  split
  · exact h.e
  · exact (good_fail h (.inl rfl)).e
theorem good_text {i : DI} (h : i.good) (m : Int) : (textD i m).1.good := by
  have h4 : (u32D i).1.good := good_raw h 4
  unfold textD
  split
  · exact good_fail h4 (.inr (.inr rfl))
  · exact good_raw h4 _
theorem good_names {i : DI} (h : i.good) : (namesD i).1.good := by
  have ht := good_text h 4096
  unfold namesD
  split
  · exact ht
  · split
    · exact ht
    · exact good_fail ht (.inr (.inl rfl))
theorem good_big {i : DI} (h : i.good) (m : Int) : (bigD i m).1.good := by
  have ht : (bigT i m).1.good := good_text h _
  unfold bigD
  split
  · split
    · exact good_fail ht (.inr (.inr rfl))
    · exact ht
  · exact good_fail ht (.inr (.inl rfl))
theorem good_step {i : DI} (h : i.good) (k n : Int) : (stepD k n i).good := by
  unfold stepD
  split
  · exact good_raw h 1
  split
  · exact good_raw h 1
  split
  · exact good_raw h 4
  split
  · exact good_raw h 8
  split
  · exact good_raw h _
  split
  · exact good_names h
  split
  · exact good_big h n
  · exact good_text h n
theorem not_all2 {l : List (List UInt8)} (h : ¬ l.all nameOk = true) : ∃ b, b < l.length ∧ nameOk (l.getD b []) = false := not_all h
theorem step_ev (i : DI) (h : i.good) (k n : Int) (eo : Nat → Nat × Nat) : Meets Tryd.prog 21 [.ptr 500 0, .agg [.str (i).r, .i64 (((i).e : Nat) : Int)], .agg [.i64 k, .i64 n]] [(500, some ⟨.agg [.str (i).r, .err 225 ((i).e) (offE eo ((i).e))], 96, true⟩), (1, some ⟨.agg [.err 225 (2) (offE eo (2))], errT, false⟩), (4, some ⟨.agg [.err 225 (4) (offE eo (4))], errT, false⟩), (0, some ⟨.agg [.err 225 (3) (offE eo (3))], errT, false⟩)] (.tup [.agg [.str ((stepD k n i)).r, .i64 ((((stepD k n i)).e : Nat) : Int)], .bool true]) [(500, some ⟨.agg [.str ((stepD k n i)).r, .err 225 (((stepD k n i)).e) (offE eo (((stepD k n i)).e))], 96, true⟩)] := by
  have hi := h.ok
  have hr := h.le
  by_cases h0 : k = 0
  · subst h0; exact step_0 i hi hr n eo
  by_cases h1 : k = 1
  · subst h1; exact step_1 i hi hr n eo
  by_cases h2 : k = 2
  · subst h2; exact step_2 i hi hr n eo
  by_cases h3 : k = 3
  · subst h3; exact step_3 i hi hr n eo
  by_cases h4 : k = 4
  · subst h4; exact step_4 i hi hr n eo
  by_cases h6 : k = 6
  · subst h6
    show Meets _ _ _ _ (.tup [.agg [.str (namesD i).1.r, .i64 (((namesD i).1.e : Nat) : Int)], .bool true]) [(500, some ⟨.agg [.str (namesD i).1.r, .err 225 (namesD i).1.e (offE eo (namesD i).1.e)], 96, true⟩)]
    by_cases hs : (textD i 4096).2 = []
    · rw [show namesD i = ((textD i 4096).1, []) from if_pos hs]; exact step_6n i hi hr n hs eo
    · by_cases ha : (splitC (textD i 4096).2).all nameOk = true
      · rw [show namesD i = ((textD i 4096).1, splitC (textD i 4096).2) from (if_neg hs).trans (if_pos ha)]; exact step_6y i hi hr n hs ha eo
      · obtain ⟨b, hb, hbad⟩ := not_all ha
        rw [show namesD i = (failD (textD i 4096).1 3, []) from (if_neg hs).trans (if_neg ha)]
        have e0 : (failD (textD i 4096).1 3).e = 3 := by
          show orE (textD i 4096).1.e 3 = 3
          rw [textD_e hi hs]; rfl
        have := step_6b i hi hr n hs b hb hbad eo
        have e1 : (((failD (textD i 4096).1 3).e : Nat) : Int) = 3 := by rw [e0]; rfl
        rw [e1]; exact this
  by_cases h7 : k = 7
  · subst h7; exact step_7 i hi hr n eo
  have e : stepD k n i = (textD i n).1 := by
    unfold stepD
    rw [if_neg h0, if_neg h1, if_neg h2, if_neg h3, if_neg h4, if_neg h6, if_neg h7]
  rw [e]
  exact step_t i hi hr n k (by omega) eo
theorem codeD_ev (eo : Nat → Nat × Nat) (hd : ∀ i j, i < 20 → j < 20 → i ≠ j → eo i ≠ eo j) (i : DI) (h : i.good) : Meets Tryd.prog 14 [.err 225 (i.e) (offE eo (i.e))] [(3, some ⟨.agg [.err 225 (1) (offE eo (1))], errT, false⟩), (1, some ⟨.agg [.err 225 (2) (offE eo (2))], errT, false⟩), (0, some ⟨.agg [.err 225 (3) (offE eo (3))], errT, false⟩), (4, some ⟨.agg [.err 225 (4) (offE eo (4))], errT, false⟩), (2, some ⟨.agg [.err 225 (5) (offE eo (5))], errT, false⟩), (5, some ⟨.agg [.err 225 (6) (offE eo (6))], errT, false⟩), (6, some ⟨.agg [.err 225 (7) (offE eo (7))], errT, false⟩), (7, some ⟨.agg [.err 225 (8) (offE eo (8))], errT, false⟩), (8, some ⟨.agg [.err 225 (9) (offE eo (9))], errT, false⟩), (9, some ⟨.agg [.err 225 (10) (offE eo (10))], errT, false⟩), (10, some ⟨.agg [.err 225 (11) (offE eo (11))], errT, false⟩), (11, some ⟨.agg [.err 225 (12) (offE eo (12))], errT, false⟩), (12, some ⟨.agg [.err 225 (13) (offE eo (13))], errT, false⟩), (13, some ⟨.agg [.err 225 (14) (offE eo (14))], errT, false⟩), (14, some ⟨.agg [.err 225 (15) (offE eo (15))], errT, false⟩), (15, some ⟨.agg [.err 225 (16) (offE eo (16))], errT, false⟩), (16, some ⟨.agg [.err 225 (17) (offE eo (17))], errT, false⟩), (17, some ⟨.agg [.err 225 (18) (offE eo (18))], errT, false⟩), (18, some ⟨.agg [.err 225 (19) (offE eo (19))], errT, false⟩), (19, some ⟨.agg [.err 225 (20) (offE eo (20))], errT, false⟩), (401, some ⟨.agg [], errT, false⟩), (402, some ⟨.agg [], errT, false⟩), (403, some ⟨.agg [], errT, false⟩), (404, some ⟨.agg [], errT, false⟩), (405, some ⟨.agg [], errT, false⟩), (406, some ⟨.agg [], errT, false⟩), (407, some ⟨.agg [], errT, false⟩), (408, some ⟨.agg [], errT, false⟩), (409, some ⟨.agg [], errT, false⟩), (410, some ⟨.agg [], errT, false⟩), (411, some ⟨.agg [], errT, false⟩), (412, some ⟨.agg [], errT, false⟩), (413, some ⟨.agg [], errT, false⟩), (414, some ⟨.agg [], errT, false⟩), (415, some ⟨.agg [], errT, false⟩), (416, some ⟨.agg [], errT, false⟩), (417, some ⟨.agg [], errT, false⟩), (418, some ⟨.agg [], errT, false⟩), (419, some ⟨.agg [], errT, false⟩), (420, some ⟨.agg [], errT, false⟩)] (.i64 ((i.e : Nat) : Int)) [] := by
  rcases h.e with h | h | h | h <;> rw [h]
  · exact code_0 eo hd
  · exact code_2 eo hd
  · exact code_3 eo hd
  · exact code_4 eo hd
def runD (s : List UInt8) (l : List (Int × Int)) : Nat → DI
  | 0 => ⟨s, 0⟩
  | k + 1 => stepD (l.getD k (0, 0)).1 (l.getD k (0, 0)).2 (runD s l k)
theorem good_run {s : List UInt8} (hs : s.length ≤ 200) (l : List (Int × Int)) (k : Nat) : (runD s l k).good := by
  induction k with
  | zero => exact ⟨fun h => absurd rfl h, hs, .inl rfl⟩
  | succ k ih => exact good_step ih _ _
def askC (o : Nat) (l : List (Int × Int)) : List AV := List.replicate o .hole ++ l.flatMap fun p => [.i64 p.1, .i64 p.2]
theorem ask_len (l : List (Int × Int)) : (l.flatMap fun p => [AV.i64 p.1, AV.i64 p.2]).length = l.length * 2 := by
  induction l with
  | nil => rfl
  | cons p l ih => simp only [List.flatMap_cons, List.length_append, List.length_cons, List.length_nil, ih]; omega
theorem askC_len (o : Nat) (l : List (Int × Int)) : (askC o l).length = o + l.length * 2 := by
  unfold askC
  rw [List.length_append, List.length_replicate, ask_len]
theorem ask_get : ∀ (l : List (Int × Int)) (k : Nat), k < l.length → [AV.i64 (l.getD k (0, 0)).1, AV.i64 (l.getD k (0, 0)).2] = ((l.flatMap fun p => [AV.i64 p.1, AV.i64 p.2]).drop (k * 2)).take 2
  | p :: l, 0, _ => rfl
  | p :: l, k + 1, h => by
    rw [show (k + 1) * 2 = k * 2 + 1 + 1 by omega]
    exact ask_get l k (by simpa using h)
theorem askC_get (o : Nat) (l : List (Int × Int)) (k : Nat) (h : k < l.length) : [AV.i64 (l.getD k (0, 0)).1, AV.i64 (l.getD k (0, 0)).2] = ((askC o l).drop (o + k * 2)).take 2 := by
  unfold askC
  rw [ask_get l k h, List.drop_append, List.length_replicate, List.drop_of_length_le (l := List.replicate o AV.hole) (by rw [List.length_replicate]; omega), List.nil_append, show o + k * 2 - o = k * 2 by omega]
theorem ask_names (o : Nat) (l : List (Int × Int)) : (AV.agg (askC o l)).names = [] := by
  show AV.namesL (askC o l) = []
  unfold askC
  induction o with
  | zero =>
    induction l with
    | nil => rfl
    | cons p l ih => exact ih
  | succ o ih => exact ih
theorem ask_nm (L : List (Nat × Nat)) (o : Nat) (l : List (Int × Int)) : nmOk L (AV.agg (askC o l)).names = true := by rw [ask_names]; rfl
theorem ask_ren (f : Nat → Nat) (o : Nat) (l : List (Int × Int)) : (AV.agg (askC o l)).ren f = AV.agg (askC o l) := by
  show AV.agg (AV.renL f (askC o l)) = _
  refine congrArg AV.agg ?_
  unfold askC
  induction o with
  | zero =>
    induction l with
    | nil => rfl
    | cons p l ih => exact congrArg (fun z => AV.i64 p.1 :: AV.i64 p.2 :: z) ih
  | succ o ih => exact congrArg (fun z => AV.hole :: z) ih
theorem endD_err {i : DI} (h : i.ok) (he : i.e ≠ 0) : endD i = i := if_pos (h he)
theorem endD_left {i : DI} (he : i.e = 0) (hr : ¬ i.r = []) : endD i = ⟨[], 3⟩ := by
  unfold endD
  rw [if_neg hr]
  unfold failD
  rw [he]; rfl
set_option maxRecDepth 100000 in
theorem wireReads_ev (eo : Nat → Nat × Nat) (hd : ∀ i j, i < 20 → j < 20 → i ≠ j → eo i ≠ eo j) (s : List UInt8) (hs : s.length ≤ maxLen) (o : Nat) (l : List (Int × Int)) (te : TypeId) (hl : l.length ≤ maxLen) : Meets Tryd.prog 6 [.str s, .sl 450 o l.length 2] [(3, some ⟨.agg [.err 225 (1) (offE eo (1))], errT, false⟩), (1, some ⟨.agg [.err 225 (2) (offE eo (2))], errT, false⟩), (0, some ⟨.agg [.err 225 (3) (offE eo (3))], errT, false⟩), (4, some ⟨.agg [.err 225 (4) (offE eo (4))], errT, false⟩), (2, some ⟨.agg [.err 225 (5) (offE eo (5))], errT, false⟩), (5, some ⟨.agg [.err 225 (6) (offE eo (6))], errT, false⟩), (6, some ⟨.agg [.err 225 (7) (offE eo (7))], errT, false⟩), (7, some ⟨.agg [.err 225 (8) (offE eo (8))], errT, false⟩), (8, some ⟨.agg [.err 225 (9) (offE eo (9))], errT, false⟩), (9, some ⟨.agg [.err 225 (10) (offE eo (10))], errT, false⟩), (10, some ⟨.agg [.err 225 (11) (offE eo (11))], errT, false⟩), (11, some ⟨.agg [.err 225 (12) (offE eo (12))], errT, false⟩), (12, some ⟨.agg [.err 225 (13) (offE eo (13))], errT, false⟩), (13, some ⟨.agg [.err 225 (14) (offE eo (14))], errT, false⟩), (14, some ⟨.agg [.err 225 (15) (offE eo (15))], errT, false⟩), (15, some ⟨.agg [.err 225 (16) (offE eo (16))], errT, false⟩), (16, some ⟨.agg [.err 225 (17) (offE eo (17))], errT, false⟩), (17, some ⟨.agg [.err 225 (18) (offE eo (18))], errT, false⟩), (18, some ⟨.agg [.err 225 (19) (offE eo (19))], errT, false⟩), (19, some ⟨.agg [.err 225 (20) (offE eo (20))], errT, false⟩), (401, some ⟨.agg [], errT, false⟩), (402, some ⟨.agg [], errT, false⟩), (403, some ⟨.agg [], errT, false⟩), (404, some ⟨.agg [], errT, false⟩), (405, some ⟨.agg [], errT, false⟩), (406, some ⟨.agg [], errT, false⟩), (407, some ⟨.agg [], errT, false⟩), (408, some ⟨.agg [], errT, false⟩), (409, some ⟨.agg [], errT, false⟩), (410, some ⟨.agg [], errT, false⟩), (411, some ⟨.agg [], errT, false⟩), (412, some ⟨.agg [], errT, false⟩), (413, some ⟨.agg [], errT, false⟩), (414, some ⟨.agg [], errT, false⟩), (415, some ⟨.agg [], errT, false⟩), (416, some ⟨.agg [], errT, false⟩), (417, some ⟨.agg [], errT, false⟩), (418, some ⟨.agg [], errT, false⟩), (419, some ⟨.agg [], errT, false⟩), (420, some ⟨.agg [], errT, false⟩), (450, some ⟨.agg (askC o l), te, false⟩)] (.bool true) [] := by
  have hs2 : s.length ≤ 9223372036854775807 := by unfold maxLen at hs; omega
  refine meets_of_ev (nt := 85) Tryd.func6 rfl rfl (Nat.le_of_ble_eq_true rfl) ?_
  refine .seq ?_
  refine .region ?_
  refine .q (op_assign rfl) trivial rfl ?_
  refine .nil ?_
  show Ev _ _ _ _ _
  refine .seq ?_
  refine .seq ?_
  refine .region ?_
  refine .q (op_call (U := []) [] [] (awake9_ev eo) Tryd.func19 (by kernel_rfl) rfl rfl rfl (trivial) (⟨⟨_, _, rfl, rfl, rfl, rfl, (fun h => by cases h), rfl⟩, ⟨_, _, rfl, rfl, rfl, rfl, (fun h => by cases h), rfl⟩, ⟨_, _, rfl, rfl, rfl, rfl, (fun h => by cases h), rfl⟩, trivial⟩) (trivial) (⟨(fun h => by cases h), (fun h => by cases h), (fun h => by cases h), trivial⟩) rfl) trivial rfl ?_
  refine .q (op_notB rfl) trivial rfl ?_
  refine .nil ?_
  show Ev _ _ _ _ _
  refine .cond_false rfl (rfl) ?_
  refine .skip ?_
  show Ev _ _ _ _ _
  refine .seq ?_
  refine .region ?_
  refine .q (op_move rfl) trivial rfl ?_
  refine .q (op_call (U := []) [] [] (cut_ev s 200 (by omega)) Tryd.func11 (by kernel_rfl) rfl rfl rfl (⟨⟨_, rfl, rfl, rfl⟩, ⟨_, rfl, rfl, rfl⟩, trivial⟩) (trivial) (trivial) (trivial) rfl) trivial rfl ?_
  refine .q (op_assign rfl) trivial rfl ?_
  refine .nil ?_
  show Ev _ _ _ _ _
  refine .seq ?_
  refine .region ?_
  refine .q (op_move rfl) trivial rfl ?_
  refine .a (op_call (U := [(1000, some ⟨.agg [.str ((runD (s.take 200) l 0)).r, .err 225 (((runD (s.take 200) l 0)).e) (offE eo (((runD (s.take 200) l 0)).e))], 96, true⟩)]) [] [(1000, 1000)] (of_ev (s.take 200) eo) Tryd.func20 (by kernel_rfl) rfl rfl rfl (⟨⟨_, rfl, rfl, rfl⟩, trivial⟩) (trivial) (⟨⟨1000, _, rfl, rfl, rfl, rfl, .inl rfl⟩, trivial⟩) (trivial) rfl) trivial rfl ?_
  refine .q (op_move rfl) trivial rfl ?_
  refine .q (op_buildS (r := .agg [.str ((runD (s.take 200) l 0)).r, .i64 ((((runD (s.take 200) l 0)).e : Nat) : Int)]) Tryd.underlying47 rfl zero47 rel_zero47 rfl rfl rfl rfl) trivial rfl ?_
  refine .a (op_allocRow zero47 rel_zero47 rfl) trivial rfl ?_
  refine .q (op_assign rfl) trivial rfl ?_
  refine .w (op_storeRow (by kernel_rfl) rfl rfl rfl rfl rfl (rfl) (rfl)) trivial rfl ?_
  refine .nil ?_
  show Ev _ _ _ _ _
  refine .seq ?_
  refine .region ?_
  refine .q (op_assign rfl) trivial rfl ?_
  refine .nil ?_
  show Ev _ _ _ _ _
  refine .seq ?_
  refine .seq ?_
  refine .region ?_
  refine .q (op_assign rfl) trivial rfl ?_
  refine .nil ?_
  show Ev _ _ _ _ _
  refine .block ?_
  refine Ev.loop (ι := { k : Nat // k ≤ l.length }) (fun q => ⟨[(0, .str (s.take 200)), (1, .sl 450 o l.length 2), (4, .bool false), (5, .ptr 1000 0), (6, .ptr 1008 0), (8, .i64 ((q.1 : Nat) : Int))], [(1000, some ⟨.agg [.str ((runD (s.take 200) l q.1)).r, .err 225 (((runD (s.take 200) l q.1)).e) (offE eo (((runD (s.take 200) l q.1)).e))], 96, true⟩), (1008, some ⟨.agg [.str ((runD (s.take 200) l q.1)).r, .i64 ((((runD (s.take 200) l q.1)).e : Nat) : Int)], 47, true⟩), (3, some ⟨.agg [.err 225 (1) (offE eo (1))], errT, false⟩), (1, some ⟨.agg [.err 225 (2) (offE eo (2))], errT, false⟩), (0, some ⟨.agg [.err 225 (3) (offE eo (3))], errT, false⟩), (4, some ⟨.agg [.err 225 (4) (offE eo (4))], errT, false⟩), (2, some ⟨.agg [.err 225 (5) (offE eo (5))], errT, false⟩), (5, some ⟨.agg [.err 225 (6) (offE eo (6))], errT, false⟩), (6, some ⟨.agg [.err 225 (7) (offE eo (7))], errT, false⟩), (7, some ⟨.agg [.err 225 (8) (offE eo (8))], errT, false⟩), (8, some ⟨.agg [.err 225 (9) (offE eo (9))], errT, false⟩), (9, some ⟨.agg [.err 225 (10) (offE eo (10))], errT, false⟩), (10, some ⟨.agg [.err 225 (11) (offE eo (11))], errT, false⟩), (11, some ⟨.agg [.err 225 (12) (offE eo (12))], errT, false⟩), (12, some ⟨.agg [.err 225 (13) (offE eo (13))], errT, false⟩), (13, some ⟨.agg [.err 225 (14) (offE eo (14))], errT, false⟩), (14, some ⟨.agg [.err 225 (15) (offE eo (15))], errT, false⟩), (15, some ⟨.agg [.err 225 (16) (offE eo (16))], errT, false⟩), (16, some ⟨.agg [.err 225 (17) (offE eo (17))], errT, false⟩), (17, some ⟨.agg [.err 225 (18) (offE eo (18))], errT, false⟩), (18, some ⟨.agg [.err 225 (19) (offE eo (19))], errT, false⟩), (19, some ⟨.agg [.err 225 (20) (offE eo (20))], errT, false⟩), (401, some ⟨.agg [], errT, false⟩), (402, some ⟨.agg [], errT, false⟩), (403, some ⟨.agg [], errT, false⟩), (404, some ⟨.agg [], errT, false⟩), (405, some ⟨.agg [], errT, false⟩), (406, some ⟨.agg [], errT, false⟩), (407, some ⟨.agg [], errT, false⟩), (408, some ⟨.agg [], errT, false⟩), (409, some ⟨.agg [], errT, false⟩), (410, some ⟨.agg [], errT, false⟩), (411, some ⟨.agg [], errT, false⟩), (412, some ⟨.agg [], errT, false⟩), (413, some ⟨.agg [], errT, false⟩), (414, some ⟨.agg [], errT, false⟩), (415, some ⟨.agg [], errT, false⟩), (416, some ⟨.agg [], errT, false⟩), (417, some ⟨.agg [], errT, false⟩), (418, some ⟨.agg [], errT, false⟩), (419, some ⟨.agg [], errT, false⟩), (420, some ⟨.agg [], errT, false⟩), (450, some ⟨.agg (askC o l), te, false⟩)], 1016⟩) (fun q => l.length - q.1) ⟨0, Nat.zero_le _⟩ (StLe.mk [(1000, 1000), (1008, 1008)] rfl rfl ⟨⟨_, rfl, by first | rfl | (simp only [AV.ren]; congr 1; omega), rfl⟩, ⟨_, rfl, by first | rfl | (simp only [AV.ren]; congr 1; omega), rfl⟩, ⟨_, rfl, by first | rfl | (simp only [AV.ren]; congr 1; omega), rfl⟩, ⟨_, rfl, by first | rfl | (simp only [AV.ren]; congr 1; omega), rfl⟩, ⟨_, rfl, by first | rfl | (simp only [AV.ren]; congr 1; omega), rfl⟩, ⟨_, rfl, by first | rfl | (simp only [AV.ren]; congr 1; omega), rfl⟩, trivial⟩ ⟨⟨_, _, rfl, rfl, rfl, rfl, id, rfl⟩, ⟨_, _, rfl, rfl, rfl, rfl, id, rfl⟩, ⟨_, _, rfl, rfl, rfl, rfl, id, rfl⟩, ⟨_, _, rfl, rfl, rfl, rfl, id, rfl⟩, ⟨_, _, rfl, rfl, rfl, rfl, id, rfl⟩, ⟨_, _, rfl, rfl, rfl, rfl, id, rfl⟩, ⟨_, _, rfl, rfl, rfl, rfl, id, rfl⟩, ⟨_, _, rfl, rfl, rfl, rfl, id, rfl⟩, ⟨_, _, rfl, rfl, rfl, rfl, id, rfl⟩, ⟨_, _, rfl, rfl, rfl, rfl, id, rfl⟩, ⟨_, _, rfl, rfl, rfl, rfl, id, rfl⟩, ⟨_, _, rfl, rfl, rfl, rfl, id, rfl⟩, ⟨_, _, rfl, rfl, rfl, rfl, id, rfl⟩, ⟨_, _, rfl, rfl, rfl, rfl, id, rfl⟩, ⟨_, _, rfl, rfl, rfl, rfl, id, rfl⟩, ⟨_, _, rfl, rfl, rfl, rfl, id, rfl⟩, ⟨_, _, rfl, rfl, rfl, rfl, id, rfl⟩, ⟨_, _, rfl, rfl, rfl, rfl, id, rfl⟩, ⟨_, _, rfl, rfl, rfl, rfl, id, rfl⟩, ⟨_, _, rfl, rfl, rfl, rfl, id, rfl⟩, ⟨_, _, rfl, rfl, rfl, rfl, id, rfl⟩, ⟨_, _, rfl, rfl, rfl, rfl, id, rfl⟩, ⟨_, _, rfl, rfl, rfl, rfl, id, rfl⟩, ⟨_, _, rfl, rfl, rfl, rfl, id, rfl⟩, ⟨_, _, rfl, rfl, rfl, rfl, id, rfl⟩, ⟨_, _, rfl, rfl, rfl, rfl, id, rfl⟩, ⟨_, _, rfl, rfl, rfl, rfl, id, rfl⟩, ⟨_, _, rfl, rfl, rfl, rfl, id, rfl⟩, ⟨_, _, rfl, rfl, rfl, rfl, id, rfl⟩, ⟨_, _, rfl, rfl, rfl, rfl, id, rfl⟩, ⟨_, _, rfl, rfl, rfl, rfl, id, rfl⟩, ⟨_, _, rfl, rfl, rfl, rfl, id, rfl⟩, ⟨_, _, rfl, rfl, rfl, rfl, id, rfl⟩, ⟨_, _, rfl, rfl, rfl, rfl, id, rfl⟩, ⟨_, _, rfl, rfl, rfl, rfl, id, rfl⟩, ⟨_, _, rfl, rfl, rfl, rfl, id, rfl⟩, ⟨_, _, rfl, rfl, rfl, rfl, id, rfl⟩, ⟨_, _, rfl, rfl, rfl, rfl, id, rfl⟩, ⟨_, _, rfl, rfl, rfl, rfl, id, rfl⟩, ⟨_, _, rfl, rfl, rfl, rfl, id, rfl⟩, ⟨_, _, rfl, rfl, rfl, rfl, id, rfl⟩, ⟨_, _, rfl, rfl, rfl, rfl, id, rfl⟩, ⟨_, _, rfl, rfl, ask_ren _ o l, rfl, id, ask_nm _ o l⟩, trivial⟩) ?_
  rintro ⟨k, hk⟩
  try dsimp only
  refine .seq ?_
  refine .seq ?_
  refine .region ?_
  refine .q (op_move rfl) trivial rfl ?_
  refine .q (op_move rfl) trivial rfl ?_
  refine .q (op_len_sl Tryd.underlying43 rfl) trivial rfl ?_
  refine .q (op_cmpI rfl rfl rfl) trivial rfl ?_
  refine .q (op_move rfl) trivial rfl ?_
  refine .split (fun hg22 => ?_) (fun hg22 => ?_)
  · first | replace hg22 := of_decide_eq_true hg22 | replace hg22 := of_decide_eq_false hg22 | replace hg22 := eq_of_beq hg22 | replace hg22 := ne_of_beq_false hg22 | simp only [bne_iff_ne, ne_eq] at hg22 | simp only [bne_eq_false_iff_eq] at hg22
    refine .q (op_move rfl) ⟨_, rfl, rfl⟩ rfl ?_
    refine .q (op_cmpI rfl rfl rfl) ⟨_, rfl, rfl⟩ rfl ?_
    refine .q (op_pick_true rfl rfl rfl) trivial rfl ?_
    refine .nil ?_
    show Ev _ _ _ _ _
    refine .cond rfl (fun hc25 => ?_) (fun hc25 => ?_)
    · first | replace hc25 := of_decide_eq_true hc25 | replace hc25 := of_decide_eq_false hc25 | replace hc25 := eq_of_beq hc25 | replace hc25 := ne_of_beq_false hc25 | simp only [bne_iff_ne, ne_eq] at hc25 | simp only [bne_eq_false_iff_eq] at hc25
      refine .skip ?_
      show Ev _ _ _ _ _
      refine .seq ?_
      refine .block ?_
      refine .seq ?_
      refine .drawnF [[], [], [], [], [2, 3], [2, 3, 4], [0, 1, 2, 3, 4, 5], [0, 1, 2, 3, 4, 5, 6], [0, 1, 2, 3, 4, 5, 6, 7], [0, 1, 2, 3, 4, 5, 6, 7], [0, 1, 2, 3, 4, 5, 6, 7, 8], [0, 1, 2, 3, 4, 5, 6, 7, 8, 9, 10]] [1, 5, 6, 10] [] [(1, ([1008], [])), (5, ([450], [])), (6, ([1, 4, 0], [1000])), (10, ([], [1008]))] (by kernel_rfl) (by kernel_rfl) rfl ?_
      show DK _ [0, 1, 2, 3, 4, 5, 6, 7, 8, 9, 10, 11] _ _ _
      refine .q rfl (op_move rfl) trivial ?_
      refine .q rfl (op_loadRow Tryd.underlying47 rfl (by kernel_rfl) rfl rfl rfl (rfl)) trivial ?_
      refine .q rfl (op_move rfl) trivial ?_
      refine .q rfl (op_move rfl) trivial ?_
      refine .q rfl (op_indexAddr (z := 2) Tryd.underlying43 (by kernel_rfl) rfl rfl rfl (by omega)) trivial ?_
      refine .q rfl (op_loadPart (m := 2) (r := .agg [.i64 (l.getD k (0, 0)).1, .i64 (l.getD k (0, 0)).2]) (cs := [.i64 (l.getD k (0, 0)).1, .i64 (l.getD k (0, 0)).2]) Tryd.underlying51 rfl (by kernel_rfl) rfl rfl rfl rfl (askC_get o l k (by omega)) (by show o + k * 2 + 2 ≤ (askC o l).length; rw [askC_len]; omega)) trivial ?_
      refine .a rfl (op_call (U := [(1000, some ⟨.agg [.str ((runD (s.take 200) l (k + 1))).r, .err 225 (((runD (s.take 200) l (k + 1))).e) (offE eo (((runD (s.take 200) l (k + 1))).e))], 96, true⟩)]) [(500, 1000)] [] (step_ev (runD (s.take 200) l k) (good_run (List.length_take_le 200 s) l k) (l.getD k (0, 0)).1 (l.getD k (0, 0)).2 eo) Tryd.func21 (by kernel_rfl) rfl rfl rfl (⟨⟨_, rfl, rfl, rfl⟩, ⟨_, rfl, rfl, rfl⟩, ⟨_, rfl, rfl, rfl⟩, trivial⟩) (⟨⟨_, _, rfl, rfl, rfl, rfl, id, rfl⟩, ⟨_, _, rfl, rfl, rfl, rfl, (fun h => by cases h), rfl⟩, ⟨_, _, rfl, rfl, rfl, rfl, (fun h => by cases h), rfl⟩, ⟨_, _, rfl, rfl, rfl, rfl, (fun h => by cases h), rfl⟩, trivial⟩) (⟨⟨500, _, rfl, rfl, rfl, rfl, .inr ⟨rfl, _, rfl, rfl⟩⟩, trivial⟩) (⟨(fun _ => ⟨1000, _, rfl, rfl⟩), (fun h => by cases h), (fun h => by cases h), (fun h => by cases h), trivial⟩) rfl) trivial rfl rfl ?_
      refine .q rfl (op_move rfl) trivial ?_
      refine .q rfl (op_extract rfl rfl) trivial ?_
      refine .q rfl (op_extract rfl rfl) trivial ?_
      refine .w rfl (op_storeRow (by kernel_rfl) rfl rfl rfl rfl rfl (rfl) (rfl)) trivial rfl rfl ?_
      refine .q rfl (op_assign rfl) trivial ?_
      refine .nil ?_
      show Ev _ _ _ _ _
      refine .seq ?_
      refine .drawn [[], [0], [0, 1], [0, 1, 2], [0, 1, 2, 3], [0, 1, 2], [0, 1, 2, 5], [0, 1, 2, 5, 6], [0, 1, 2, 3, 4, 5, 6, 7], [0, 1, 2, 3, 4, 5, 6, 7, 8], [0, 1, 2, 3, 4, 5, 6, 7, 8, 9], [0, 1, 2, 3, 4, 5, 6, 7, 8, 9, 10], [0, 1, 2, 3, 4, 5, 6, 7, 8, 9, 10, 11], [0, 1, 2, 3, 4, 5, 6, 7, 8, 9, 10, 11, 12], [0, 1, 2, 3, 4, 5, 6, 7, 8, 9, 10], [0, 1, 2, 3, 4, 5, 6, 7, 8, 9, 10, 14], [0, 1, 2, 3, 4, 5, 6, 7, 8, 9, 10, 11, 12, 13, 14, 15], [0, 1, 2, 3, 4, 5, 6, 7, 8, 9, 10, 11, 12, 13, 14, 15, 16]] [4, 6, 12, 13, 15] [] (by kernel_rfl) (by kernel_rfl) rfl ?_
      show DK _ [0, 1, 2, 3, 4, 5, 6, 7, 8, 9, 10, 11, 12, 13, 14, 15, 16, 17] _ _ _
      refine .q rfl (op_move rfl) trivial ?_
      refine .q rfl (op_notB rfl) trivial ?_
      refine .q rfl (op_move rfl) trivial ?_
      refine .know (b' := false) (rfl) ?_
      refine .q rfl (op_move rfl) ⟨_, rfl, rfl⟩ ?_
      refine .q rfl (op_call (U := []) [(500, 1000)] [] (left_ev (runD (s.take 200) l (k + 1)) eo) Tryd.func22 (by kernel_rfl) rfl rfl rfl (⟨⟨_, rfl, rfl, rfl⟩, trivial⟩) (⟨⟨_, _, rfl, rfl, rfl, rfl, (fun h => by cases h), rfl⟩, trivial⟩) (trivial) (⟨(fun h => by cases h), trivial⟩) rfl) ⟨_, rfl, rfl⟩ ?_
      refine .q rfl (op_fieldAddr (m := 0) Tryd.underlying47 rfl (by kernel_rfl) rfl) ⟨_, rfl, rfl⟩ ?_
      refine .as (.ptr 1008 0) rfl ?_
      refine .q rfl (op_load Tryd.underlying9 rfl rfl rfl rfl (by show 0 < 2; decide)) ⟨_, rfl, rfl⟩ ?_
      refine .q rfl (op_len_str Tryd.underlying9 rfl) ⟨_, rfl, rfl⟩ ?_
      refine .q rfl (op_cmpI rfl rfl rfl) ⟨_, rfl, rfl⟩ ?_
      refine .q rfl (op_pick_false rfl rfl rfl) trivial ?_
      refine .q rfl (op_move rfl) trivial ?_
      refine .know (b' := false) (bne_self_eq_false _) ?_
      refine .q rfl (op_move rfl) ⟨_, rfl, rfl⟩ ?_
      refine .q rfl (op_call (U := []) [(500, 1000)] [] (err_ev (runD (s.take 200) l (k + 1)) eo) Tryd.func23 (by kernel_rfl) rfl rfl rfl (⟨⟨_, rfl, rfl, rfl⟩, trivial⟩) (⟨⟨_, _, rfl, rfl, rfl, rfl, (fun h => by cases h), rfl⟩, trivial⟩) (trivial) (⟨(fun h => by cases h), trivial⟩) rfl) ⟨_, rfl, rfl⟩ ?_
      refine .q rfl (op_call (U := []) [] [] (codeD_ev eo hd (runD (s.take 200) l (k + 1)) (good_run (List.length_take_le 200 s) l (k + 1))) Tryd.func14 (by kernel_rfl) rfl rfl rfl (⟨⟨_, rfl, rfl, rfl⟩, trivial⟩) (⟨⟨_, _, rfl, rfl, rfl, rfl, (fun h => by cases h), rfl⟩, ⟨_, _, rfl, rfl, rfl, rfl, (fun h => by cases h), rfl⟩, ⟨_, _, rfl, rfl, rfl, rfl, (fun h => by cases h), rfl⟩, ⟨_, _, rfl, rfl, rfl, rfl, (fun h => by cases h), rfl⟩, ⟨_, _, rfl, rfl, rfl, rfl, (fun h => by cases h), rfl⟩, ⟨_, _, rfl, rfl, rfl, rfl, (fun h => by cases h), rfl⟩, ⟨_, _, rfl, rfl, rfl, rfl, (fun h => by cases h), rfl⟩, ⟨_, _, rfl, rfl, rfl, rfl, (fun h => by cases h), rfl⟩, ⟨_, _, rfl, rfl, rfl, rfl, (fun h => by cases h), rfl⟩, ⟨_, _, rfl, rfl, rfl, rfl, (fun h => by cases h), rfl⟩, ⟨_, _, rfl, rfl, rfl, rfl, (fun h => by cases h), rfl⟩, ⟨_, _, rfl, rfl, rfl, rfl, (fun h => by cases h), rfl⟩, ⟨_, _, rfl, rfl, rfl, rfl, (fun h => by cases h), rfl⟩, ⟨_, _, rfl, rfl, rfl, rfl, (fun h => by cases h), rfl⟩, ⟨_, _, rfl, rfl, rfl, rfl, (fun h => by cases h), rfl⟩, ⟨_, _, rfl, rfl, rfl, rfl, (fun h => by cases h), rfl⟩, ⟨_, _, rfl, rfl, rfl, rfl, (fun h => by cases h), rfl⟩, ⟨_, _, rfl, rfl, rfl, rfl, (fun h => by cases h), rfl⟩, ⟨_, _, rfl, rfl, rfl, rfl, (fun h => by cases h), rfl⟩, ⟨_, _, rfl, rfl, rfl, rfl, (fun h => by cases h), rfl⟩, ⟨_, _, rfl, rfl, rfl, rfl, (fun h => by cases h), rfl⟩, ⟨_, _, rfl, rfl, rfl, rfl, (fun h => by cases h), rfl⟩, ⟨_, _, rfl, rfl, rfl, rfl, (fun h => by cases h), rfl⟩, ⟨_, _, rfl, rfl, rfl, rfl, (fun h => by cases h), rfl⟩, ⟨_, _, rfl, rfl, rfl, rfl, (fun h => by cases h), rfl⟩, ⟨_, _, rfl, rfl, rfl, rfl, (fun h => by cases h), rfl⟩, ⟨_, _, rfl, rfl, rfl, rfl, (fun h => by cases h), rfl⟩, ⟨_, _, rfl, rfl, rfl, rfl, (fun h => by cases h), rfl⟩, ⟨_, _, rfl, rfl, rfl, rfl, (fun h => by cases h), rfl⟩, ⟨_, _, rfl, rfl, rfl, rfl, (fun h => by cases h), rfl⟩, ⟨_, _, rfl, rfl, rfl, rfl, (fun h => by cases h), rfl⟩, ⟨_, _, rfl, rfl, rfl, rfl, (fun h => by cases h), rfl⟩, ⟨_, _, rfl, rfl, rfl, rfl, (fun h => by cases h), rfl⟩, ⟨_, _, rfl, rfl, rfl, rfl, (fun h => by cases h), rfl⟩, ⟨_, _, rfl, rfl, rfl, rfl, (fun h => by cases h), rfl⟩, ⟨_, _, rfl, rfl, rfl, rfl, (fun h => by cases h), rfl⟩, ⟨_, _, rfl, rfl, rfl, rfl, (fun h => by cases h), rfl⟩, ⟨_, _, rfl, rfl, rfl, rfl, (fun h => by cases h), rfl⟩, ⟨_, _, rfl, rfl, rfl, rfl, (fun h => by cases h), rfl⟩, ⟨_, _, rfl, rfl, rfl, rfl, (fun h => by cases h), rfl⟩, trivial⟩) (trivial) (⟨(fun h => by cases h), (fun h => by cases h), (fun h => by cases h), (fun h => by cases h), (fun h => by cases h), (fun h => by cases h), (fun h => by cases h), (fun h => by cases h), (fun h => by cases h), (fun h => by cases h), (fun h => by cases h), (fun h => by cases h), (fun h => by cases h), (fun h => by cases h), (fun h => by cases h), (fun h => by cases h), (fun h => by cases h), (fun h => by cases h), (fun h => by cases h), (fun h => by cases h), (fun h => by cases h), (fun h => by cases h), (fun h => by cases h), (fun h => by cases h), (fun h => by cases h), (fun h => by cases h), (fun h => by cases h), (fun h => by cases h), (fun h => by cases h), (fun h => by cases h), (fun h => by cases h), (fun h => by cases h), (fun h => by cases h), (fun h => by cases h), (fun h => by cases h), (fun h => by cases h), (fun h => by cases h), (fun h => by cases h), (fun h => by cases h), (fun h => by cases h), trivial⟩) rfl) ⟨_, rfl, rfl⟩ ?_
      refine .q rfl (op_fieldAddr (m := 0) Tryd.underlying47 rfl (by kernel_rfl) rfl) ⟨_, rfl, rfl⟩ ?_
      refine .as (.ptr 1008 1) rfl ?_
      refine .q rfl (op_load Tryd.underlying3 rfl rfl rfl rfl (by show 1 < 2; decide)) ⟨_, rfl, rfl⟩ ?_
      refine .q rfl (op_cmpI rfl rfl rfl) ⟨_, rfl, rfl⟩ ?_
      refine .q rfl (op_pick_false rfl rfl rfl) trivial ?_
      refine .nil ?_
      show Ev _ _ _ _ _
      refine .cond_false rfl (bne_self_eq_false _) ?_
      refine .skip ?_
      show Ev _ _ _ _ _
      refine .region ?_
      refine .q (op_move rfl) trivial rfl ?_
      refine .q (op_addI rfl rfl ⟨by first | omega | (simp only [AV.len]; omega) | (simp only [AV.len, List.length_set]; omega) | assumption | (simp [AV.len]; done), by first | omega | (simp only [AV.len]; omega) | (simp only [AV.len, List.length_set]; omega) | assumption | (simp [AV.len]; done)⟩) trivial rfl ?_
      refine .q (op_assign rfl) trivial rfl ?_
      refine .nil ?_
      exact ⟨⟨k + 1, by omega⟩, by (try dsimp only); omega, StLe.mk [(1000, 1000), (1008, 1008)] rfl rfl ⟨⟨_, rfl, by first | rfl | (simp only [AV.ren]; congr 1; omega), rfl⟩, ⟨_, rfl, by first | rfl | (simp only [AV.ren]; congr 1; omega), rfl⟩, ⟨_, rfl, by first | rfl | (simp only [AV.ren]; congr 1; omega), rfl⟩, ⟨_, rfl, by first | rfl | (simp only [AV.ren]; congr 1; omega), rfl⟩, ⟨_, rfl, by first | rfl | (simp only [AV.ren]; congr 1; omega), rfl⟩, ⟨_, rfl, by first | rfl | (simp only [AV.ren]; congr 1; omega), rfl⟩, trivial⟩ ⟨⟨_, _, rfl, rfl, rfl, rfl, id, rfl⟩, ⟨_, _, rfl, rfl, rfl, rfl, id, rfl⟩, ⟨_, _, rfl, rfl, rfl, rfl, id, rfl⟩, ⟨_, _, rfl, rfl, rfl, rfl, id, rfl⟩, ⟨_, _, rfl, rfl, rfl, rfl, id, rfl⟩, ⟨_, _, rfl, rfl, rfl, rfl, id, rfl⟩, ⟨_, _, rfl, rfl, rfl, rfl, id, rfl⟩, ⟨_, _, rfl, rfl, rfl, rfl, id, rfl⟩, ⟨_, _, rfl, rfl, rfl, rfl, id, rfl⟩, ⟨_, _, rfl, rfl, rfl, rfl, id, rfl⟩, ⟨_, _, rfl, rfl, rfl, rfl, id, rfl⟩, ⟨_, _, rfl, rfl, rfl, rfl, id, rfl⟩, ⟨_, _, rfl, rfl, rfl, rfl, id, rfl⟩, ⟨_, _, rfl, rfl, rfl, rfl, id, rfl⟩, ⟨_, _, rfl, rfl, rfl, rfl, id, rfl⟩, ⟨_, _, rfl, rfl, rfl, rfl, id, rfl⟩, ⟨_, _, rfl, rfl, rfl, rfl, id, rfl⟩, ⟨_, _, rfl, rfl, rfl, rfl, id, rfl⟩, ⟨_, _, rfl, rfl, rfl, rfl, id, rfl⟩, ⟨_, _, rfl, rfl, rfl, rfl, id, rfl⟩, ⟨_, _, rfl, rfl, rfl, rfl, id, rfl⟩, ⟨_, _, rfl, rfl, rfl, rfl, id, rfl⟩, ⟨_, _, rfl, rfl, rfl, rfl, id, rfl⟩, ⟨_, _, rfl, rfl, rfl, rfl, id, rfl⟩, ⟨_, _, rfl, rfl, rfl, rfl, id, rfl⟩, ⟨_, _, rfl, rfl, rfl, rfl, id, rfl⟩, ⟨_, _, rfl, rfl, rfl, rfl, id, rfl⟩, ⟨_, _, rfl, rfl, rfl, rfl, id, rfl⟩, ⟨_, _, rfl, rfl, rfl, rfl, id, rfl⟩, ⟨_, _, rfl, rfl, rfl, rfl, id, rfl⟩, ⟨_, _, rfl, rfl, rfl, rfl, id, rfl⟩, ⟨_, _, rfl, rfl, rfl, rfl, id, rfl⟩, ⟨_, _, rfl, rfl, rfl, rfl, id, rfl⟩, ⟨_, _, rfl, rfl, rfl, rfl, id, rfl⟩, ⟨_, _, rfl, rfl, rfl, rfl, id, rfl⟩, ⟨_, _, rfl, rfl, rfl, rfl, id, rfl⟩, ⟨_, _, rfl, rfl, rfl, rfl, id, rfl⟩, ⟨_, _, rfl, rfl, rfl, rfl, id, rfl⟩, ⟨_, _, rfl, rfl, rfl, rfl, id, rfl⟩, ⟨_, _, rfl, rfl, rfl, rfl, id, rfl⟩, ⟨_, _, rfl, rfl, rfl, rfl, id, rfl⟩, ⟨_, _, rfl, rfl, rfl, rfl, id, rfl⟩, ⟨_, _, rfl, rfl, ask_ren _ o l, rfl, id, ask_nm _ o l⟩, trivial⟩⟩
    · first | replace hc25 := of_decide_eq_true hc25 | replace hc25 := of_decide_eq_false hc25 | replace hc25 := eq_of_beq hc25 | replace hc25 := ne_of_beq_false hc25 | simp only [bne_iff_ne, ne_eq] at hc25 | simp only [bne_eq_false_iff_eq] at hc25
      refine .exit ?_
      show Ev _ _ _ _ _
      refine .seq ?_
      refine .region ?_
      refine .q (op_move rfl) trivial rfl ?_
      refine .a (op_call (U := [(1000, some ⟨.agg [.str (endD (runD (s.take 200) l k)).r, .err 225 ((endD (runD (s.take 200) l k)).e) (offE eo ((endD (runD (s.take 200) l k)).e))], 96, true⟩)]) [(500, 1000)] [] (end_ev (runD (s.take 200) l k) eo) Tryd.func24 (by kernel_rfl) rfl rfl rfl (⟨⟨_, rfl, rfl, rfl⟩, trivial⟩) (⟨⟨_, _, rfl, rfl, rfl, rfl, id, rfl⟩, ⟨_, _, rfl, rfl, rfl, rfl, (fun h => by cases h), rfl⟩, trivial⟩) (⟨⟨500, _, rfl, rfl, rfl, rfl, .inr ⟨rfl, _, rfl, rfl⟩⟩, trivial⟩) (⟨(fun _ => ⟨1000, _, rfl, rfl⟩), (fun h => by cases h), trivial⟩) rfl) trivial rfl ?_
      refine .q (op_assign rfl) trivial rfl ?_
      refine .nil ?_
      show Ev _ _ _ _ _
      refine .seq ?_
      refine .seq ?_
      refine .region ?_
      refine .q (op_fieldAddr (m := 0) Tryd.underlying47 rfl (by kernel_rfl) rfl) trivial rfl ?_
      refine .as (.ptr 1008 1) rfl ?_
      refine .q (op_load Tryd.underlying3 rfl rfl rfl rfl (by first | omega | (simp only [AV.len]; omega) | (simp only [AV.len]; omega) | assumption | (simp [AV.len]; done))) trivial rfl ?_
      refine .q (op_cmpI rfl rfl rfl) trivial rfl ?_
      refine .nil ?_
      show Ev _ _ _ _ _
      refine .cond rfl (fun hc60 => ?_) (fun hc60 => ?_)
      · first | replace hc60 := of_decide_eq_true hc60 | replace hc60 := of_decide_eq_false hc60 | replace hc60 := eq_of_beq hc60 | replace hc60 := ne_of_beq_false hc60 | simp only [bne_iff_ne, ne_eq] at hc60 | simp only [bne_eq_false_iff_eq] at hc60
        refine .seq ?_
        refine .drawn [[], [0], [], [2], [0, 1, 2, 3], [0, 1, 2, 3, 4]] [1, 3] [] (by kernel_rfl) (by kernel_rfl) rfl ?_
        show DK _ [0, 1, 2, 3, 4, 5] _ _ _
        refine .q rfl (op_move rfl) trivial ?_
        refine .as (.err 225 (runD (s.take 200) l k).e (offE eo (runD (s.take 200) l k).e)) (by rw [endD_err (good_run (List.length_take_le 200 s) l k).ok (by omega)]; rfl) ?_
        refine .q rfl (op_call (U := []) [] [] (codeD_ev eo hd (runD (s.take 200) l k) (good_run (List.length_take_le 200 s) l k)) Tryd.func14 (by kernel_rfl) rfl rfl rfl (⟨⟨_, rfl, rfl, rfl⟩, trivial⟩) (⟨⟨_, _, rfl, rfl, rfl, rfl, (fun h => by cases h), rfl⟩, ⟨_, _, rfl, rfl, rfl, rfl, (fun h => by cases h), rfl⟩, ⟨_, _, rfl, rfl, rfl, rfl, (fun h => by cases h), rfl⟩, ⟨_, _, rfl, rfl, rfl, rfl, (fun h => by cases h), rfl⟩, ⟨_, _, rfl, rfl, rfl, rfl, (fun h => by cases h), rfl⟩, ⟨_, _, rfl, rfl, rfl, rfl, (fun h => by cases h), rfl⟩, ⟨_, _, rfl, rfl, rfl, rfl, (fun h => by cases h), rfl⟩, ⟨_, _, rfl, rfl, rfl, rfl, (fun h => by cases h), rfl⟩, ⟨_, _, rfl, rfl, rfl, rfl, (fun h => by cases h), rfl⟩, ⟨_, _, rfl, rfl, rfl, rfl, (fun h => by cases h), rfl⟩, ⟨_, _, rfl, rfl, rfl, rfl, (fun h => by cases h), rfl⟩, ⟨_, _, rfl, rfl, rfl, rfl, (fun h => by cases h), rfl⟩, ⟨_, _, rfl, rfl, rfl, rfl, (fun h => by cases h), rfl⟩, ⟨_, _, rfl, rfl, rfl, rfl, (fun h => by cases h), rfl⟩, ⟨_, _, rfl, rfl, rfl, rfl, (fun h => by cases h), rfl⟩, ⟨_, _, rfl, rfl, rfl, rfl, (fun h => by cases h), rfl⟩, ⟨_, _, rfl, rfl, rfl, rfl, (fun h => by cases h), rfl⟩, ⟨_, _, rfl, rfl, rfl, rfl, (fun h => by cases h), rfl⟩, ⟨_, _, rfl, rfl, rfl, rfl, (fun h => by cases h), rfl⟩, ⟨_, _, rfl, rfl, rfl, rfl, (fun h => by cases h), rfl⟩, ⟨_, _, rfl, rfl, rfl, rfl, (fun h => by cases h), rfl⟩, ⟨_, _, rfl, rfl, rfl, rfl, (fun h => by cases h), rfl⟩, ⟨_, _, rfl, rfl, rfl, rfl, (fun h => by cases h), rfl⟩, ⟨_, _, rfl, rfl, rfl, rfl, (fun h => by cases h), rfl⟩, ⟨_, _, rfl, rfl, rfl, rfl, (fun h => by cases h), rfl⟩, ⟨_, _, rfl, rfl, rfl, rfl, (fun h => by cases h), rfl⟩, ⟨_, _, rfl, rfl, rfl, rfl, (fun h => by cases h), rfl⟩, ⟨_, _, rfl, rfl, rfl, rfl, (fun h => by cases h), rfl⟩, ⟨_, _, rfl, rfl, rfl, rfl, (fun h => by cases h), rfl⟩, ⟨_, _, rfl, rfl, rfl, rfl, (fun h => by cases h), rfl⟩, ⟨_, _, rfl, rfl, rfl, rfl, (fun h => by cases h), rfl⟩, ⟨_, _, rfl, rfl, rfl, rfl, (fun h => by cases h), rfl⟩, ⟨_, _, rfl, rfl, rfl, rfl, (fun h => by cases h), rfl⟩, ⟨_, _, rfl, rfl, rfl, rfl, (fun h => by cases h), rfl⟩, ⟨_, _, rfl, rfl, rfl, rfl, (fun h => by cases h), rfl⟩, ⟨_, _, rfl, rfl, rfl, rfl, (fun h => by cases h), rfl⟩, ⟨_, _, rfl, rfl, rfl, rfl, (fun h => by cases h), rfl⟩, ⟨_, _, rfl, rfl, rfl, rfl, (fun h => by cases h), rfl⟩, ⟨_, _, rfl, rfl, rfl, rfl, (fun h => by cases h), rfl⟩, ⟨_, _, rfl, rfl, rfl, rfl, (fun h => by cases h), rfl⟩, trivial⟩) (trivial) (⟨(fun h => by cases h), (fun h => by cases h), (fun h => by cases h), (fun h => by cases h), (fun h => by cases h), (fun h => by cases h), (fun h => by cases h), (fun h => by cases h), (fun h => by cases h), (fun h => by cases h), (fun h => by cases h), (fun h => by cases h), (fun h => by cases h), (fun h => by cases h), (fun h => by cases h), (fun h => by cases h), (fun h => by cases h), (fun h => by cases h), (fun h => by cases h), (fun h => by cases h), (fun h => by cases h), (fun h => by cases h), (fun h => by cases h), (fun h => by cases h), (fun h => by cases h), (fun h => by cases h), (fun h => by cases h), (fun h => by cases h), (fun h => by cases h), (fun h => by cases h), (fun h => by cases h), (fun h => by cases h), (fun h => by cases h), (fun h => by cases h), (fun h => by cases h), (fun h => by cases h), (fun h => by cases h), (fun h => by cases h), (fun h => by cases h), (fun h => by cases h), trivial⟩) rfl) trivial ?_
        refine .q rfl (op_fieldAddr (m := 0) Tryd.underlying47 rfl (by kernel_rfl) rfl) trivial ?_
        refine .as (.ptr 1008 1) rfl ?_
        refine .q rfl (op_load Tryd.underlying3 rfl rfl rfl rfl (by first | omega | (simp only [AV.len]; omega) | (simp only [AV.len]; omega) | assumption | (simp [AV.len]; done))) trivial ?_
        refine .q rfl (op_cmpI rfl rfl rfl) trivial ?_
        refine .q rfl (op_assign rfl) trivial ?_
        refine .nil ?_
        show Ev _ _ _ _ _
        refine .ret ?_
        show RetOk _ _ _ _ _ _ _
        exact ret1v rfl (.inl rfl) rfl (congrArg AV.bool (by first | exact beq_self_eq_true _ | (show ((endD (runD (s.take 200) l k)).e == 0) = true; rw [show endD (runD (s.take 200) l k) = (runD (s.take 200) l k) from if_pos (bne_eq_false_iff_eq.1 hc68)]; exact beq_iff_eq.2 (by omega)) | rfl)) trivial
      · first | replace hc60 := of_decide_eq_true hc60 | replace hc60 := of_decide_eq_false hc60 | replace hc60 := eq_of_beq hc60 | replace hc60 := ne_of_beq_false hc60 | simp only [bne_iff_ne, ne_eq] at hc60 | simp only [bne_eq_false_iff_eq] at hc60
        refine .skip ?_
        show Ev _ _ _ _ _
        refine .seq ?_
        refine .seq ?_
        refine .region ?_
        refine .q (op_fieldAddr (m := 0) Tryd.underlying47 rfl (by kernel_rfl) rfl) trivial rfl ?_
        refine .as (.ptr 1008 0) rfl ?_
        refine .q (op_load Tryd.underlying9 rfl rfl rfl rfl (by first | omega | (simp only [AV.len]; omega) | (simp only [AV.len]; omega) | assumption | (simp [AV.len]; done))) trivial rfl ?_
        refine .q (op_eqS rfl rfl rfl) trivial rfl ?_
        refine .nil ?_
        show Ev _ _ _ _ _
        refine .cond rfl (fun hc68 => ?_) (fun hc68 => ?_)
        · first | replace hc68 := of_decide_eq_true hc68 | replace hc68 := of_decide_eq_false hc68 | replace hc68 := eq_of_beq hc68 | replace hc68 := ne_of_beq_false hc68 | simp only [bne_iff_ne, ne_eq] at hc68 | simp only [bne_eq_false_iff_eq] at hc68
          refine .seq ?_
          refine .drawn [[], [], [0, 1], [0, 1, 2], [0, 1, 2, 3], [0, 1, 2, 3, 4], [0, 1, 2, 3], [0, 1, 2, 3, 4, 5, 6], [0, 1, 2, 3, 4, 5, 6, 7], [0, 1, 2, 3, 4, 5, 6, 7, 8], [0, 1, 2, 3, 4, 5, 6, 7, 8, 9], [0, 1, 2, 3, 4, 5, 6, 7, 8, 9, 10], [0, 1, 2, 3, 4, 5, 6, 7, 8, 9, 10, 11], [0, 1, 2, 3, 4, 5, 6, 7, 8, 9, 10, 11, 12], [0, 1, 2, 3, 4, 5, 6, 7, 8, 9, 10, 11, 12, 13]] [1, 2, 5, 6, 7, 11] [] (by kernel_rfl) (by kernel_rfl) rfl ?_
          show DK _ [0, 1, 2, 3, 4, 5, 6, 7, 8, 9, 10, 11, 12, 13, 14] _ _ _
          refine .q rfl (op_move rfl) trivial ?_
          refine .as (.err 225 3 (offE eo 3)) (by rw [endD_left (by omega) hc68]; rfl) ?_
          refine .q rfl (op_load Tryd.underlying26 rfl rfl rfl rfl (by first | omega | (simp only [AV.len]; omega) | (simp only [AV.len]; omega) | assumption | (simp [AV.len]; done))) trivial ?_
          refine .q rfl (op_call (U := []) [] [] (is_same_ev 2 (eo 2)) Tryd.func25 (by kernel_rfl) rfl rfl rfl (⟨⟨_, rfl, rfl, rfl⟩, ⟨_, rfl, rfl, rfl⟩, trivial⟩) (trivial) (trivial) (trivial) rfl) trivial ?_
          refine .q rfl (op_move rfl) trivial ?_
          refine .know (b' := true) (rfl) ?_
          refine .q rfl (op_move rfl) ⟨_, rfl, rfl⟩ ?_
          refine .q rfl (op_call (U := []) [(500, 1000)] [] (err_ev (endD (runD (s.take 200) l k)) eo) Tryd.func23 (by kernel_rfl) rfl rfl rfl (⟨⟨_, rfl, rfl, rfl⟩, trivial⟩) (⟨⟨_, _, rfl, rfl, rfl, rfl, (fun h => by cases h), rfl⟩, trivial⟩) (trivial) (⟨(fun h => by cases h), trivial⟩) rfl) ⟨_, rfl, rfl⟩ ?_
          refine .as (.err 225 3 (offE eo 3)) (by rw [endD_left (by omega) hc68]; rfl) ?_
          refine .q rfl (op_load Tryd.underlying26 rfl rfl rfl rfl (by first | omega | (simp only [AV.len]; omega) | (simp only [AV.len]; omega) | assumption | (simp [AV.len]; done))) ⟨_, rfl, rfl⟩ ?_
          refine .q rfl (op_call (U := []) [] [] (is_same_ev 2 (eo 2)) Tryd.func25 (by kernel_rfl) rfl rfl rfl (⟨⟨_, rfl, rfl, rfl⟩, ⟨_, rfl, rfl, rfl⟩, trivial⟩) (trivial) (trivial) (trivial) rfl) ⟨_, rfl, rfl⟩ ?_
          refine .q rfl (op_pick_true rfl rfl rfl) trivial ?_
          refine .q rfl (op_move rfl) trivial ?_
          refine .know (b' := true) (rfl) ?_
          refine .q rfl (op_move rfl) ⟨_, rfl, rfl⟩ ?_
          refine .q rfl (op_call (U := []) [(500, 1000)] [] (left_ev (endD (runD (s.take 200) l k)) eo) Tryd.func22 (by kernel_rfl) rfl rfl rfl (⟨⟨_, rfl, rfl, rfl⟩, trivial⟩) (⟨⟨_, _, rfl, rfl, rfl, rfl, (fun h => by cases h), rfl⟩, trivial⟩) (trivial) (⟨(fun h => by cases h), trivial⟩) rfl) ⟨_, rfl, rfl⟩ ?_
          refine .as (.i64 0) (by rw [endD_left (by omega) hc68]; rfl) ?_
          refine .q rfl (op_cmpI rfl rfl rfl) ⟨_, rfl, rfl⟩ ?_
          refine .q rfl (op_pick_true rfl rfl rfl) trivial ?_
          refine .q rfl (op_assign rfl) trivial ?_
          refine .nil ?_
          show Ev _ _ _ _ _
          refine .ret ?_
          show RetOk _ _ _ _ _ _ _
          exact ret1v rfl (.inl rfl) rfl (congrArg AV.bool (by first | exact beq_self_eq_true _ | (show ((endD (runD (s.take 200) l k)).e == 0) = true; rw [show endD (runD (s.take 200) l k) = (runD (s.take 200) l k) from if_pos (bne_eq_false_iff_eq.1 hc68)]; exact beq_iff_eq.2 (by omega)) | rfl)) trivial
        · first | replace hc68 := of_decide_eq_true hc68 | replace hc68 := of_decide_eq_false hc68 | replace hc68 := eq_of_beq hc68 | replace hc68 := ne_of_beq_false hc68 | simp only [bne_iff_ne, ne_eq] at hc68 | simp only [bne_eq_false_iff_eq] at hc68
          refine .skip ?_
          show Ev _ _ _ _ _
          refine .seq ?_
          refine .region ?_
          refine .q (op_move rfl) trivial rfl ?_
          refine .q (op_eqErrNil (e := (endD (runD (s.take 200) l k)).e) Tryd.underlying26 rfl rfl) trivial rfl ?_
          refine .q (op_assign rfl) trivial rfl ?_
          refine .nil ?_
          show Ev _ _ _ _ _
          refine .ret ?_
          show RetOk _ _ _ _ _ _ _
          exact ret1v rfl (.inl rfl) rfl (congrArg AV.bool (by first | exact beq_self_eq_true _ | (show ((endD (runD (s.take 200) l k)).e == 0) = true; rw [show endD (runD (s.take 200) l k) = (runD (s.take 200) l k) from if_pos (bne_eq_false_iff_eq.1 hc68)]; exact beq_iff_eq.2 (by omega)) | rfl)) trivial
  · first | replace hg22 := of_decide_eq_true hg22 | replace hg22 := of_decide_eq_false hg22 | replace hg22 := eq_of_beq hg22 | replace hg22 := ne_of_beq_false hg22 | simp only [bne_iff_ne, ne_eq] at hg22 | simp only [bne_eq_false_iff_eq] at hg22
    refine .no ⟨_, rfl, rfl⟩ rfl ?_
    refine .no ⟨_, rfl, rfl⟩ rfl ?_
    refine .q (op_pick_false rfl rfl rfl) trivial rfl ?_
    refine .nil ?_
    show Ev _ _ _ _ _
    refine .cond_false rfl rfl ?_
    refine .exit ?_
    show Ev _ _ _ _ _
    refine .seq ?_
    refine .region ?_
    refine .q (op_move rfl) trivial rfl ?_
    refine .a (op_call (U := [(1000, some ⟨.agg [.str (endD (runD (s.take 200) l k)).r, .err 225 ((endD (runD (s.take 200) l k)).e) (offE eo ((endD (runD (s.take 200) l k)).e))], 96, true⟩)]) [(500, 1000)] [] (end_ev (runD (s.take 200) l k) eo) Tryd.func24 (by kernel_rfl) rfl rfl rfl (⟨⟨_, rfl, rfl, rfl⟩, trivial⟩) (⟨⟨_, _, rfl, rfl, rfl, rfl, id, rfl⟩, ⟨_, _, rfl, rfl, rfl, rfl, (fun h => by cases h), rfl⟩, trivial⟩) (⟨⟨500, _, rfl, rfl, rfl, rfl, .inr ⟨rfl, _, rfl, rfl⟩⟩, trivial⟩) (⟨(fun _ => ⟨1000, _, rfl, rfl⟩), (fun h => by cases h), trivial⟩) rfl) trivial rfl ?_
    refine .q (op_assign rfl) trivial rfl ?_
    refine .nil ?_
    show Ev _ _ _ _ _
    refine .seq ?_
    refine .seq ?_
    refine .region ?_
    refine .q (op_fieldAddr (m := 0) Tryd.underlying47 rfl (by kernel_rfl) rfl) trivial rfl ?_
    refine .as (.ptr 1008 1) rfl ?_
    refine .q (op_load Tryd.underlying3 rfl rfl rfl rfl (by first | omega | (simp only [AV.len]; omega) | (simp only [AV.len]; omega) | assumption | (simp [AV.len]; done))) trivial rfl ?_
    refine .q (op_cmpI rfl rfl rfl) trivial rfl ?_
    refine .nil ?_
    show Ev _ _ _ _ _
    refine .cond rfl (fun hc60 => ?_) (fun hc60 => ?_)
    · first | replace hc60 := of_decide_eq_true hc60 | replace hc60 := of_decide_eq_false hc60 | replace hc60 := eq_of_beq hc60 | replace hc60 := ne_of_beq_false hc60 | simp only [bne_iff_ne, ne_eq] at hc60 | simp only [bne_eq_false_iff_eq] at hc60
      refine .seq ?_
      refine .drawn [[], [0], [], [2], [0, 1, 2, 3], [0, 1, 2, 3, 4]] [1, 3] [] (by kernel_rfl) (by kernel_rfl) rfl ?_
      show DK _ [0, 1, 2, 3, 4, 5] _ _ _
      refine .q rfl (op_move rfl) trivial ?_
      refine .as (.err 225 (runD (s.take 200) l k).e (offE eo (runD (s.take 200) l k).e)) (by rw [endD_err (good_run (List.length_take_le 200 s) l k).ok (by omega)]; rfl) ?_
      refine .q rfl (op_call (U := []) [] [] (codeD_ev eo hd (runD (s.take 200) l k) (good_run (List.length_take_le 200 s) l k)) Tryd.func14 (by kernel_rfl) rfl rfl rfl (⟨⟨_, rfl, rfl, rfl⟩, trivial⟩) (⟨⟨_, _, rfl, rfl, rfl, rfl, (fun h => by cases h), rfl⟩, ⟨_, _, rfl, rfl, rfl, rfl, (fun h => by cases h), rfl⟩, ⟨_, _, rfl, rfl, rfl, rfl, (fun h => by cases h), rfl⟩, ⟨_, _, rfl, rfl, rfl, rfl, (fun h => by cases h), rfl⟩, ⟨_, _, rfl, rfl, rfl, rfl, (fun h => by cases h), rfl⟩, ⟨_, _, rfl, rfl, rfl, rfl, (fun h => by cases h), rfl⟩, ⟨_, _, rfl, rfl, rfl, rfl, (fun h => by cases h), rfl⟩, ⟨_, _, rfl, rfl, rfl, rfl, (fun h => by cases h), rfl⟩, ⟨_, _, rfl, rfl, rfl, rfl, (fun h => by cases h), rfl⟩, ⟨_, _, rfl, rfl, rfl, rfl, (fun h => by cases h), rfl⟩, ⟨_, _, rfl, rfl, rfl, rfl, (fun h => by cases h), rfl⟩, ⟨_, _, rfl, rfl, rfl, rfl, (fun h => by cases h), rfl⟩, ⟨_, _, rfl, rfl, rfl, rfl, (fun h => by cases h), rfl⟩, ⟨_, _, rfl, rfl, rfl, rfl, (fun h => by cases h), rfl⟩, ⟨_, _, rfl, rfl, rfl, rfl, (fun h => by cases h), rfl⟩, ⟨_, _, rfl, rfl, rfl, rfl, (fun h => by cases h), rfl⟩, ⟨_, _, rfl, rfl, rfl, rfl, (fun h => by cases h), rfl⟩, ⟨_, _, rfl, rfl, rfl, rfl, (fun h => by cases h), rfl⟩, ⟨_, _, rfl, rfl, rfl, rfl, (fun h => by cases h), rfl⟩, ⟨_, _, rfl, rfl, rfl, rfl, (fun h => by cases h), rfl⟩, ⟨_, _, rfl, rfl, rfl, rfl, (fun h => by cases h), rfl⟩, ⟨_, _, rfl, rfl, rfl, rfl, (fun h => by cases h), rfl⟩, ⟨_, _, rfl, rfl, rfl, rfl, (fun h => by cases h), rfl⟩, ⟨_, _, rfl, rfl, rfl, rfl, (fun h => by cases h), rfl⟩, ⟨_, _, rfl, rfl, rfl, rfl, (fun h => by cases h), rfl⟩, ⟨_, _, rfl, rfl, rfl, rfl, (fun h => by cases h), rfl⟩, ⟨_, _, rfl, rfl, rfl, rfl, (fun h => by cases h), rfl⟩, ⟨_, _, rfl, rfl, rfl, rfl, (fun h => by cases h), rfl⟩, ⟨_, _, rfl, rfl, rfl, rfl, (fun h => by cases h), rfl⟩, ⟨_, _, rfl, rfl, rfl, rfl, (fun h => by cases h), rfl⟩, ⟨_, _, rfl, rfl, rfl, rfl, (fun h => by cases h), rfl⟩, ⟨_, _, rfl, rfl, rfl, rfl, (fun h => by cases h), rfl⟩, ⟨_, _, rfl, rfl, rfl, rfl, (fun h => by cases h), rfl⟩, ⟨_, _, rfl, rfl, rfl, rfl, (fun h => by cases h), rfl⟩, ⟨_, _, rfl, rfl, rfl, rfl, (fun h => by cases h), rfl⟩, ⟨_, _, rfl, rfl, rfl, rfl, (fun h => by cases h), rfl⟩, ⟨_, _, rfl, rfl, rfl, rfl, (fun h => by cases h), rfl⟩, ⟨_, _, rfl, rfl, rfl, rfl, (fun h => by cases h), rfl⟩, ⟨_, _, rfl, rfl, rfl, rfl, (fun h => by cases h), rfl⟩, ⟨_, _, rfl, rfl, rfl, rfl, (fun h => by cases h), rfl⟩, trivial⟩) (trivial) (⟨(fun h => by cases h), (fun h => by cases h), (fun h => by cases h), (fun h => by cases h), (fun h => by cases h), (fun h => by cases h), (fun h => by cases h), (fun h => by cases h), (fun h => by cases h), (fun h => by cases h), (fun h => by cases h), (fun h => by cases h), (fun h => by cases h), (fun h => by cases h), (fun h => by cases h), (fun h => by cases h), (fun h => by cases h), (fun h => by cases h), (fun h => by cases h), (fun h => by cases h), (fun h => by cases h), (fun h => by cases h), (fun h => by cases h), (fun h => by cases h), (fun h => by cases h), (fun h => by cases h), (fun h => by cases h), (fun h => by cases h), (fun h => by cases h), (fun h => by cases h), (fun h => by cases h), (fun h => by cases h), (fun h => by cases h), (fun h => by cases h), (fun h => by cases h), (fun h => by cases h), (fun h => by cases h), (fun h => by cases h), (fun h => by cases h), (fun h => by cases h), trivial⟩) rfl) trivial ?_
      refine .q rfl (op_fieldAddr (m := 0) Tryd.underlying47 rfl (by kernel_rfl) rfl) trivial ?_
      refine .as (.ptr 1008 1) rfl ?_
      refine .q rfl (op_load Tryd.underlying3 rfl rfl rfl rfl (by first | omega | (simp only [AV.len]; omega) | (simp only [AV.len]; omega) | assumption | (simp [AV.len]; done))) trivial ?_
      refine .q rfl (op_cmpI rfl rfl rfl) trivial ?_
      refine .q rfl (op_assign rfl) trivial ?_
      refine .nil ?_
      show Ev _ _ _ _ _
      refine .ret ?_
      show RetOk _ _ _ _ _ _ _
      exact ret1v rfl (.inl rfl) rfl (congrArg AV.bool (by first | exact beq_self_eq_true _ | (show ((endD (runD (s.take 200) l k)).e == 0) = true; rw [show endD (runD (s.take 200) l k) = (runD (s.take 200) l k) from if_pos (bne_eq_false_iff_eq.1 hc68)]; exact beq_iff_eq.2 (by omega)) | rfl)) trivial
    · first | replace hc60 := of_decide_eq_true hc60 | replace hc60 := of_decide_eq_false hc60 | replace hc60 := eq_of_beq hc60 | replace hc60 := ne_of_beq_false hc60 | simp only [bne_iff_ne, ne_eq] at hc60 | simp only [bne_eq_false_iff_eq] at hc60
      refine .skip ?_
      show Ev _ _ _ _ _
      refine .seq ?_
      refine .seq ?_
      refine .region ?_
      refine .q (op_fieldAddr (m := 0) Tryd.underlying47 rfl (by kernel_rfl) rfl) trivial rfl ?_
      refine .as (.ptr 1008 0) rfl ?_
      refine .q (op_load Tryd.underlying9 rfl rfl rfl rfl (by first | omega | (simp only [AV.len]; omega) | (simp only [AV.len]; omega) | assumption | (simp [AV.len]; done))) trivial rfl ?_
      refine .q (op_eqS rfl rfl rfl) trivial rfl ?_
      refine .nil ?_
      show Ev _ _ _ _ _
      refine .cond rfl (fun hc68 => ?_) (fun hc68 => ?_)
      · first | replace hc68 := of_decide_eq_true hc68 | replace hc68 := of_decide_eq_false hc68 | replace hc68 := eq_of_beq hc68 | replace hc68 := ne_of_beq_false hc68 | simp only [bne_iff_ne, ne_eq] at hc68 | simp only [bne_eq_false_iff_eq] at hc68
        refine .seq ?_
        refine .drawn [[], [], [0, 1], [0, 1, 2], [0, 1, 2, 3], [0, 1, 2, 3, 4], [0, 1, 2, 3], [0, 1, 2, 3, 4, 5, 6], [0, 1, 2, 3, 4, 5, 6, 7], [0, 1, 2, 3, 4, 5, 6, 7, 8], [0, 1, 2, 3, 4, 5, 6, 7, 8, 9], [0, 1, 2, 3, 4, 5, 6, 7, 8, 9, 10], [0, 1, 2, 3, 4, 5, 6, 7, 8, 9, 10, 11], [0, 1, 2, 3, 4, 5, 6, 7, 8, 9, 10, 11, 12], [0, 1, 2, 3, 4, 5, 6, 7, 8, 9, 10, 11, 12, 13]] [1, 2, 5, 6, 7, 11] [] (by kernel_rfl) (by kernel_rfl) rfl ?_
        show DK _ [0, 1, 2, 3, 4, 5, 6, 7, 8, 9, 10, 11, 12, 13, 14] _ _ _
        refine .q rfl (op_move rfl) trivial ?_
        refine .as (.err 225 3 (offE eo 3)) (by rw [endD_left (by omega) hc68]; rfl) ?_
        refine .q rfl (op_load Tryd.underlying26 rfl rfl rfl rfl (by first | omega | (simp only [AV.len]; omega) | (simp only [AV.len]; omega) | assumption | (simp [AV.len]; done))) trivial ?_
        refine .q rfl (op_call (U := []) [] [] (is_same_ev 2 (eo 2)) Tryd.func25 (by kernel_rfl) rfl rfl rfl (⟨⟨_, rfl, rfl, rfl⟩, ⟨_, rfl, rfl, rfl⟩, trivial⟩) (trivial) (trivial) (trivial) rfl) trivial ?_
        refine .q rfl (op_move rfl) trivial ?_
        refine .know (b' := true) (rfl) ?_
        refine .q rfl (op_move rfl) ⟨_, rfl, rfl⟩ ?_
        refine .q rfl (op_call (U := []) [(500, 1000)] [] (err_ev (endD (runD (s.take 200) l k)) eo) Tryd.func23 (by kernel_rfl) rfl rfl rfl (⟨⟨_, rfl, rfl, rfl⟩, trivial⟩) (⟨⟨_, _, rfl, rfl, rfl, rfl, (fun h => by cases h), rfl⟩, trivial⟩) (trivial) (⟨(fun h => by cases h), trivial⟩) rfl) ⟨_, rfl, rfl⟩ ?_
        refine .as (.err 225 3 (offE eo 3)) (by rw [endD_left (by omega) hc68]; rfl) ?_
        refine .q rfl (op_load Tryd.underlying26 rfl rfl rfl rfl (by first | omega | (simp only [AV.len]; omega) | (simp only [AV.len]; omega) | assumption | (simp [AV.len]; done))) ⟨_, rfl, rfl⟩ ?_
        refine .q rfl (op_call (U := []) [] [] (is_same_ev 2 (eo 2)) Tryd.func25 (by kernel_rfl) rfl rfl rfl (⟨⟨_, rfl, rfl, rfl⟩, ⟨_, rfl, rfl, rfl⟩, trivial⟩) (trivial) (trivial) (trivial) rfl) ⟨_, rfl, rfl⟩ ?_
        refine .q rfl (op_pick_true rfl rfl rfl) trivial ?_
        refine .q rfl (op_move rfl) trivial ?_
        refine .know (b' := true) (rfl) ?_
        refine .q rfl (op_move rfl) ⟨_, rfl, rfl⟩ ?_
        refine .q rfl (op_call (U := []) [(500, 1000)] [] (left_ev (endD (runD (s.take 200) l k)) eo) Tryd.func22 (by kernel_rfl) rfl rfl rfl (⟨⟨_, rfl, rfl, rfl⟩, trivial⟩) (⟨⟨_, _, rfl, rfl, rfl, rfl, (fun h => by cases h), rfl⟩, trivial⟩) (trivial) (⟨(fun h => by cases h), trivial⟩) rfl) ⟨_, rfl, rfl⟩ ?_
        refine .as (.i64 0) (by rw [endD_left (by omega) hc68]; rfl) ?_
        refine .q rfl (op_cmpI rfl rfl rfl) ⟨_, rfl, rfl⟩ ?_
        refine .q rfl (op_pick_true rfl rfl rfl) trivial ?_
        refine .q rfl (op_assign rfl) trivial ?_
        refine .nil ?_
        show Ev _ _ _ _ _
        refine .ret ?_
        show RetOk _ _ _ _ _ _ _
        exact ret1v rfl (.inl rfl) rfl (congrArg AV.bool (by first | exact beq_self_eq_true _ | (show ((endD (runD (s.take 200) l k)).e == 0) = true; rw [show endD (runD (s.take 200) l k) = (runD (s.take 200) l k) from if_pos (bne_eq_false_iff_eq.1 hc68)]; exact beq_iff_eq.2 (by omega)) | rfl)) trivial
      · first | replace hc68 := of_decide_eq_true hc68 | replace hc68 := of_decide_eq_false hc68 | replace hc68 := eq_of_beq hc68 | replace hc68 := ne_of_beq_false hc68 | simp only [bne_iff_ne, ne_eq] at hc68 | simp only [bne_eq_false_iff_eq] at hc68
        refine .skip ?_
        show Ev _ _ _ _ _
        refine .seq ?_
        refine .region ?_
        refine .q (op_move rfl) trivial rfl ?_
        refine .q (op_eqErrNil (e := (endD (runD (s.take 200) l k)).e) Tryd.underlying26 rfl rfl) trivial rfl ?_
        refine .q (op_assign rfl) trivial rfl ?_
        refine .nil ?_
        show Ev _ _ _ _ _
        refine .ret ?_
        show RetOk _ _ _ _ _ _ _
        exact ret1v rfl (.inl rfl) rfl (congrArg AV.bool (by first | exact beq_self_eq_true _ | (show ((endD (runD (s.take 200) l k)).e == 0) = true; rw [show endD (runD (s.take 200) l k) = (runD (s.take 200) l k) from if_pos (bne_eq_false_iff_eq.1 hc68)]; exact beq_iff_eq.2 (by omega)) | rfl)) trivial
end Go.Proofs.YteefpaiefphdpaaDoor
