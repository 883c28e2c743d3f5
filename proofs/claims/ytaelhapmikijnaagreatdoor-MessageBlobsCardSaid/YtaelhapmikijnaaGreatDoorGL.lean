/-
  The listed limbs of the prime.
-/
import Derived.Test.YtaelhapmikijnaaGreatDoorGY
namespace Go.Proofs.YtaelhapmikijnaaGreatDoor
open Go.RowKit
theorem ch_a {c : UInt8} (h : c ≤ 32) : chOk c = false := by simp [chOk, h]
theorem ch_b {c : UInt8} (h : 126 < c) : chOk c = false := by simp [chOk, h]
theorem ch_c {c : UInt8} (h : c = 44) : chOk c = false := by simp [chOk, h]
theorem ch_ok {c : UInt8} (h1 : ¬ c ≤ 32) (h2 : ¬ 126 < c) (h3 : ¬ c = 44) : chOk c = true := by simp [chOk, h1, h2, h3]
theorem lt33 {c : UInt8} : c < 33 ↔ c ≤ 32 := by simp only [UInt8.lt_iff_toNat_lt, UInt8.le_iff_toNat_le, UInt8.reduceToNat]; omega
theorem name_bad {s : List UInt8} {j : Nat} (hj : j < s.length) (h : chOk (s.getD j 0) = false) : nameOk s = false := by
  have : s.all chOk = false := by
    rw [List.all_eq_false]
    refine ⟨s[j], List.getElem_mem hj, ?_⟩
    rw [show s[j] = s.getD j 0 by simp [List.getD_eq_getElem?_getD, hj], h]; decide
  simp [nameOk, this]
theorem name_step {s : List UInt8} {j : Nat} (hj : j < s.length) (hq : (s.take j).all chOk = true) (h : chOk (s.getD j 0) = true) : (s.take (j + 1)).all chOk = true := by
  rw [List.take_add_one, List.getElem?_eq_getElem hj]
  simp only [Option.toList_some, List.all_append, hq, Bool.true_and, List.all_cons, List.all_nil, Bool.and_true]
  rw [show s[j] = s.getD j 0 by simp [List.getD_eq_getElem?_getD, hj], h]
theorem name_all {s : List UInt8} {j : Nat} (hj : s.length ≤ j) (hq : (s.take j).all chOk = true) : s.all chOk = true := by rwa [List.take_of_length_le hj] at hq
theorem name_ref1 {s : List UInt8} (h0 : 0 < s.length) (h : s.all chOk = true) : decide ((s.length : Int) < 65) = nameOk s := by
  have h1 : (s == []) = false := by cases s with | nil => cases h0 | cons x l => rfl
  simp only [nameOk, h, h1, Bool.and_true, Bool.not_false, Bool.true_and]
  by_cases h2 : 64 < s.length
  · rw [decide_eq_true h2, decide_eq_false (by omega)]; rfl
  · rw [decide_eq_false h2, decide_eq_true (by omega)]; rfl
theorem name_ref0 {s : List UInt8} (h0 : ¬ 0 < s.length) : false = nameOk s := by
  cases s with
  | nil => rfl
  | cons x l => exact absurd (Nat.succ_pos _) h0
set_option maxRecDepth 100000 in
theorem wname_ev (s : List UInt8) (hs : s.length ≤ 9223372036854775000) : Meets Tryz.prog 69 [.str s] [] (.bool (nameOk s)) [] := by
 refine meets_of_ev (nt := 33) Tryz.func69 rfl rfl (Nat.le_of_ble_eq_true rfl) ?_
 refine .seq ?_
 refine .region ?_
 refine .q (op_assign rfl) trivial rfl ?_
 refine .nil ?_
 show Ev _ _ _ _ _
 refine .seq ?_
 refine .seq ?_
 refine .region ?_
 refine .q (op_move rfl) trivial rfl ?_
 refine .q (op_eqS rfl rfl rfl) trivial rfl ?_
 refine .q (op_move rfl) trivial rfl ?_
 refine .split (fun hg6 => ?_) (fun hg6 => ?_)
 ·simp only [beq_iff_eq] at hg6
  refine .no ⟨_, rfl, rfl⟩ rfl ?_
  refine .no ⟨_, rfl, rfl⟩ rfl ?_
  refine .no ⟨_, rfl, rfl⟩ rfl ?_
  refine .q (op_pick_true rfl rfl rfl) trivial rfl ?_
  refine .nil ?_
  show Ev _ _ _ _ _
  refine .cond_true rfl rfl ?_
  refine .seq ?_
  refine .region ?_
  refine .q (op_assign rfl) trivial rfl ?_
  refine .nil ?_
  show Ev _ _ _ _ _
  refine .ret ?_
  show RetOk _ _ _ _ _ _ _
  exact ret1v rfl (.inl rfl) rfl (congrArg AV.bool (by first | exact (name_bad (j := j) (by omega) (by first | exact ch_a hg20 | exact ch_b hg26 | exact ch_c hc31)).symm | exact (by have := name_all (j := j) (by omega) hq; simp only [nameOk, this]; simp; first | done | omega | exact ⟨hg6, by omega⟩) | exact (by first | (subst hg6; rfl) | (simp [nameOk]; omega)))) trivial
 ·simp only [ne_eq, beq_eq_false_iff_ne] at hg6
  refine .q (op_move rfl) ⟨_, rfl, rfl⟩ rfl ?_
  refine .q (op_len_str Tryz.underlying9 rfl) ⟨_, rfl, rfl⟩ rfl ?_
  refine .q (op_cmpI rfl rfl rfl) ⟨_, rfl, rfl⟩ rfl ?_
  refine .q (op_pick_false rfl rfl rfl) trivial rfl ?_
  refine .nil ?_
  show Ev _ _ _ _ _
  refine .cond rfl (fun hc10 => ?_) (fun hc10 => ?_)
  ·simp only [decide_eq_true_eq] at hc10
   refine .seq ?_
   refine .region ?_
   refine .q (op_assign rfl) trivial rfl ?_
   refine .nil ?_
   show Ev _ _ _ _ _
   refine .ret ?_
   show RetOk _ _ _ _ _ _ _
   exact ret1v rfl (.inl rfl) rfl (congrArg AV.bool (by first | exact (name_bad (j := j) (by omega) (by first | exact ch_a hg20 | exact ch_b hg26 | exact ch_c hc31)).symm | exact (by have := name_all (j := j) (by omega) hq; simp only [nameOk, this]; simp; first | done | omega | exact ⟨hg6, by omega⟩) | exact (by first | (subst hg6; rfl) | (simp [nameOk]; omega)))) trivial
  ·simp only [decide_eq_false_iff_not] at hc10
   refine .skip ?_
   show Ev _ _ _ _ _
   refine .seq ?_
   refine .seq ?_
   refine .region ?_
   refine .q (op_move rfl) trivial rfl ?_
   refine .q (op_len_str Tryz.underlying9 rfl) trivial rfl ?_
   refine .q (op_move rfl) trivial rfl ?_
   refine .nil ?_
   show Ev _ _ _ _ _
   refine .block ?_
   refine Ev.loop (ι := { j : Nat // j ≤ s.length ∧ (s.take j).all chOk = true }) (fun q => ⟨[(0, .str s), (12, .i64 (s.length : Int)), (13, .i64 (q.1 : Int))], [], 1000⟩) (fun q => s.length - q.1) ⟨0, by omega, rfl⟩ (StLe.mk [] rfl rfl ⟨⟨_, rfl, by first | rfl | (simp only [AV.ren]; congr 1; omega), rfl⟩, ⟨_, rfl, by first | rfl | (simp only [AV.ren]; congr 1; omega), rfl⟩, ⟨_, rfl, by first | rfl | (simp only [AV.ren]; congr 1; omega), rfl⟩, trivial⟩ trivial) ?_
   rintro ⟨j, hj, hq⟩
   try dsimp only
   refine .seq ?_
   refine .region ?_
   refine .q (op_cmpI rfl rfl rfl) trivial rfl ?_
   refine .nil ?_
   show Ev _ _ _ _ _
   refine .seq ?_
   refine .cond rfl (fun hc14 => ?_) (fun hc14 => ?_)
   ·simp only [decide_eq_true_eq] at hc14
    refine .skip ?_
    show Ev _ _ _ _ _
    refine .seq ?_
    refine .block ?_
    refine .seq ?_
    refine .region ?_
    refine .q (op_move rfl) trivial rfl ?_
    refine .q (op_assign rfl) trivial rfl ?_
    refine .nil ?_
    show Ev _ _ _ _ _
    refine .seq ?_
    refine .region ?_
    refine .q (op_move rfl) trivial rfl ?_
    refine .q (op_move rfl) trivial rfl ?_
    refine .q (op_index_str Tryz.underlying9 rfl rfl rfl (by omega)) trivial rfl ?_
    refine .q (op_bin8 rfl rfl rfl) trivial rfl ?_
    refine .q (op_move rfl) trivial rfl ?_
    refine .split (fun hg20 => ?_) (fun hg20 => ?_)
    ·simp only [decide_eq_true_eq] at hg20
     refine .no ⟨_, rfl, rfl⟩ rfl ?_
     refine .no ⟨_, rfl, rfl⟩ rfl ?_
     refine .no ⟨_, rfl, rfl⟩ rfl ?_
     refine .no ⟨_, rfl, rfl⟩ rfl ?_
     refine .q (op_pick_true rfl rfl rfl) trivial rfl ?_
     refine .q (op_move rfl) trivial rfl ?_
     refine .no ⟨_, rfl, rfl⟩ rfl ?_
     refine .no ⟨_, rfl, rfl⟩ rfl ?_
     refine .no ⟨_, rfl, rfl⟩ rfl ?_
     refine .no ⟨_, rfl, rfl⟩ rfl ?_
     refine .q (op_pick_true rfl rfl rfl) trivial rfl ?_
     refine .nil ?_
     show Ev _ _ _ _ _
     refine .cond_true rfl rfl ?_
     refine .seq ?_
     refine .region ?_
     refine .q (op_assign rfl) trivial rfl ?_
     refine .nil ?_
     show Ev _ _ _ _ _
     refine .ret ?_
     show RetOk _ _ _ _ _ _ _
     exact ret1v rfl (.inl rfl) rfl (congrArg AV.bool (by first | exact (name_bad (j := j) (by omega) (by first | exact ch_a hg20 | exact ch_b hg26 | exact ch_c hc31)).symm | exact (by have := name_all (j := j) (by omega) hq; simp only [nameOk, this]; simp; first | done | omega | exact ⟨hg6, by omega⟩) | exact (by first | (subst hg6; rfl) | (simp [nameOk]; omega)))) trivial
    ·simp only [decide_eq_false_iff_not] at hg20
     refine .q (op_move rfl) ⟨_, rfl, rfl⟩ rfl ?_
     refine .q (op_move rfl) ⟨_, rfl, rfl⟩ rfl ?_
     refine .q (op_index_str Tryz.underlying9 rfl rfl rfl (by omega)) ⟨_, rfl, rfl⟩ rfl ?_
     refine .q (op_bin8 rfl rfl rfl) ⟨_, rfl, rfl⟩ rfl ?_
     refine .q (op_pick_false rfl rfl rfl) trivial rfl ?_
     refine .q (op_move rfl) trivial rfl ?_
     refine .split (fun hg26 => ?_) (fun hg26 => ?_)
     ·simp only [decide_eq_true_eq] at hg26
      refine .no ⟨_, rfl, rfl⟩ rfl ?_
      refine .no ⟨_, rfl, rfl⟩ rfl ?_
      refine .no ⟨_, rfl, rfl⟩ rfl ?_
      refine .no ⟨_, rfl, rfl⟩ rfl ?_
      refine .q (op_pick_true rfl rfl rfl) trivial rfl ?_
      refine .nil ?_
      show Ev _ _ _ _ _
      refine .cond_true rfl rfl ?_
      refine .seq ?_
      refine .region ?_
      refine .q (op_assign rfl) trivial rfl ?_
      refine .nil ?_
      show Ev _ _ _ _ _
      refine .ret ?_
      show RetOk _ _ _ _ _ _ _
      exact ret1v rfl (.inl rfl) rfl (congrArg AV.bool (by first | exact (name_bad (j := j) (by omega) (by first | exact ch_a hg20 | exact ch_b hg26 | exact ch_c hc31)).symm | exact (by have := name_all (j := j) (by omega) hq; simp only [nameOk, this]; simp; first | done | omega | exact ⟨hg6, by omega⟩) | exact (by first | (subst hg6; rfl) | (simp [nameOk]; omega)))) trivial
     ·simp only [decide_eq_false_iff_not] at hg26
      refine .q (op_move rfl) ⟨_, rfl, rfl⟩ rfl ?_
      refine .q (op_move rfl) ⟨_, rfl, rfl⟩ rfl ?_
      refine .q (op_index_str Tryz.underlying9 rfl rfl rfl (by omega)) ⟨_, rfl, rfl⟩ rfl ?_
      refine .q (op_bin8 rfl rfl rfl) ⟨_, rfl, rfl⟩ rfl ?_
      refine .q (op_pick_false rfl rfl rfl) trivial rfl ?_
      refine .nil ?_
      show Ev _ _ _ _ _
      refine .cond rfl (fun hc31 => ?_) (fun hc31 => ?_)
      ·simp only [beq_iff_eq] at hc31
       refine .seq ?_
       refine .region ?_
       refine .q (op_assign rfl) trivial rfl ?_
       refine .nil ?_
       show Ev _ _ _ _ _
       refine .ret ?_
       show RetOk _ _ _ _ _ _ _
       exact ret1v rfl (.inl rfl) rfl (congrArg AV.bool (by first | exact (name_bad (j := j) (by omega) (by first | exact ch_a hg20 | exact ch_b hg26 | exact ch_c hc31)).symm | exact (by have := name_all (j := j) (by omega) hq; simp only [nameOk, this]; simp; first | done | omega | exact ⟨hg6, by omega⟩) | exact (by first | (subst hg6; rfl) | (simp [nameOk]; omega)))) trivial
      ·simp only [ne_eq, beq_eq_false_iff_ne] at hc31
       refine .skip ?_
       show Ev _ _ _ _ _
       refine .region ?_
       refine .q (op_addI rfl rfl ⟨by omega, by omega⟩) trivial rfl ?_
       refine .q (op_move rfl) trivial rfl ?_
       refine .nil ?_
       exact ⟨⟨j + 1, by omega, name_step (by omega) hq (ch_ok hg20 hg26 hc31)⟩, by (try dsimp only); omega, StLe.mk [] rfl rfl ⟨⟨_, rfl, by first | rfl | (simp only [AV.ren]; congr 1; omega), rfl⟩, ⟨_, rfl, by first | rfl | (simp only [AV.ren]; congr 1; omega), rfl⟩, ⟨_, rfl, by first | rfl | (simp only [AV.ren]; congr 1; omega), rfl⟩, trivial⟩ trivial⟩
   ·simp only [decide_eq_false_iff_not] at hc14
    refine .exit ?_
    show Ev _ _ _ _ _
    refine .seq ?_
    refine .region ?_
    refine .q (op_assign rfl) trivial rfl ?_
    refine .nil ?_
    show Ev _ _ _ _ _
    refine .ret ?_
    show RetOk _ _ _ _ _ _ _
    exact ret1v rfl (.inl rfl) rfl (congrArg AV.bool (by first | exact (name_bad (j := j) (by omega) (by first | exact ch_a hg20 | exact ch_b hg26 | exact ch_c hc31)).symm | exact (by have := name_all (j := j) (by omega) hq; simp only [nameOk, this]; simp; first | done | omega | exact ⟨hg6, by omega⟩) | exact (by first | (subst hg6; rfl) | (simp [nameOk]; omega)))) trivial
set_option maxRecDepth 100000 in
theorem cut_ev (s : List UInt8) (n : Nat) (_hs : s.length ≤ 9223372036854775807) : Meets Tryz.prog 5 [.str s, .i64 (n : Int)] [] (.str (s.take n)) [] := by
 refine meets_of_ev (nt := 13) Tryz.func5 rfl rfl (Nat.le_of_ble_eq_true rfl) ?_
 refine .seq ?_
 refine .region ?_
 refine .q (op_assign rfl) trivial rfl ?_
 refine .nil ?_
 show Ev _ _ _ _ _
 refine .seq ?_
 refine .seq ?_
 refine .region ?_
 refine .q (op_move rfl) trivial rfl ?_
 refine .q (op_len_str Tryz.underlying9 rfl) trivial rfl ?_
 refine .q (op_move rfl) trivial rfl ?_
 refine .q (op_cmpI rfl rfl rfl) trivial rfl ?_
 refine .nil ?_
 show Ev _ _ _ _ _
 refine .cond rfl (fun hc8 => ?_) (fun hc8 => ?_)
 ·simp only [decide_eq_true_eq] at hc8
  refine .seq ?_
  refine .region ?_
  refine .q (op_move rfl) trivial rfl ?_
  refine .q (op_move rfl) trivial rfl ?_
  refine .q (ap_slice_str_hi Tryz.underlying9 rfl (bnd_some rfl rfl) (by omega)) trivial rfl ?_
  refine .q (op_assign rfl) trivial rfl ?_
  refine .nil ?_
  show Ev _ _ _ _ _
  refine .ret ?_
  show RetOk _ _ _ _ _ _ _
  exact ret1v rfl (.inl rfl) rfl (congrArg AV.str (by first | rfl | exact (List.take_of_length_le (by omega)).symm)) trivial
 ·simp only [decide_eq_false_iff_not] at hc8
  refine .skip ?_
  show Ev _ _ _ _ _
  refine .seq ?_
  refine .region ?_
  refine .q (op_move rfl) trivial rfl ?_
  refine .q (op_assign rfl) trivial rfl ?_
  refine .nil ?_
  show Ev _ _ _ _ _
  refine .ret ?_
  show RetOk _ _ _ _ _ _ _
  exact ret1v rfl (.inl rfl) rfl (congrArg AV.str (by first | rfl | exact (List.take_of_length_le (by omega)).symm)) trivial
end Go.Proofs.YtaelhapmikijnaaGreatDoor
namespace Go.Proofs.YtaelhapmikijnaaGreatDoor
open Go.RowKit
theorem rawD_err {i : DI} (h : i.ok) (he : i.e ≠ 0) (n : Nat) : rawD i n = (i, []) := by
  obtain ⟨r, e⟩ := i
  have hr : r = [] := h he
  subst hr
  unfold rawD
  cases e with
  | zero => exact absurd rfl he
  | succ e => split <;> simp [failD, orE]
theorem rawD_end {i : DI} (he : i.e = 0) {n : Nat} (h : ¬ n ≤ i.r.length) : rawD i n = (⟨[], 2⟩, []) := by
  obtain ⟨r, e⟩ := i
  simp only at he; subst he
  exact if_neg h
theorem rawD_yes {i : DI} (he : i.e = 0) {n : Nat} (h : n ≤ i.r.length) : rawD i n = (⟨i.r.drop n, 0⟩, i.r.take n) := by
  obtain ⟨r, e⟩ := i
  simp only at he; subst he
  exact if_pos h
theorem shl_add (n : UInt64) (b : UInt8) : n * 256 + b.toUInt64 = n <<< UInt64.ofNat 8 ||| b.toUInt64 := by
  apply UInt64.toNat_inj.1
  have hb : b.toNat < 2 ^ 8 := b.toNat_lt
  have hn := n.toNat_lt
  rw [UInt64.toNat_add, UInt64.toNat_mul, UInt64.toNat_or, UInt64.toNat_shiftLeft, UInt8.toNat_toUInt64]
  have e : (UInt64.ofNat 8).toNat % 64 = 8 := rfl
  have e2 : (256 : UInt64).toNat = 256 := rfl
  rw [e, e2, Nat.shiftLeft_eq]
  have hq : n.toNat * 2 ^ 8 % 2 ^ 64 = 2 ^ 8 * (n.toNat % 2 ^ 56) := by omega
  rw [hq, ← Nat.two_pow_add_eq_or_of_lt hb]
  omega
set_option maxRecDepth 100000 in
theorem rraw_err (i : DI) (j : Int) (he : i.e ≠ 0) : Meets Tryz.prog 39 [.agg [.str (i).r, .i64 (((i).e : Nat) : Int)], .i64 j] [] (.tup [.agg [.str (i).r, .i64 (((i).e : Nat) : Int)], .str []]) [] := by
 refine meets_of_ev (nt := 27) Tryz.func39 rfl rfl (Nat.le_of_ble_eq_true rfl) ?_
 refine .seq ?_
 refine .region ?_
 refine .a (op_boxRow rfl rfl) trivial rfl ?_
 refine .a (op_allocRow zero58 rel_zero58 rfl) trivial rfl ?_
 refine .q (op_assign rfl) trivial rfl ?_
 refine .nil ?_
 show Ev _ _ _ _ _
 refine .seq ?_
 refine .seq ?_
 refine .region ?_
 refine .q (op_fieldAddr (m := 0) Tryz.underlying58 rfl (by kernel_rfl) rfl) trivial rfl ?_
 refine .as (.ptr 1000 1) rfl ?_
 refine .q (op_load Tryz.underlying3 rfl rfl rfl rfl (by first | omega | (simp only [AV.len]; omega) | (simp only [AV.len]; omega) | assumption | (simp [AV.len]; done))) trivial rfl ?_
 refine .q (op_cmpI rfl rfl rfl) trivial rfl ?_
 refine .nil ?_
 show Ev _ _ _ _ _
 refine .cond_true rfl (bne_iff_ne.2 (by omega)) ?_
 refine .seq ?_
 refine .region ?_
 refine .q (op_loadRow Tryz.underlying58 rfl (by kernel_rfl) rfl rfl rfl (rfl)) trivial rfl ?_
 refine .w (op_storeRow (by kernel_rfl) rfl rfl rfl rfl rfl (rfl) (rfl)) trivial rfl ?_
 refine .q (op_assign rfl) trivial rfl ?_
 refine .nil ?_
 show Ev _ _ _ _ _
 refine .ret ?_
 show RetOk _ _ _ _ _ _ _
 exact retc2 rfl (.inl rfl) ⟨_, _, _, _, rfl, rfl, rfl, rfl, rfl, Tryz.underlying58, rfl, (by kernel_rfl)⟩ rfl trivial
set_option maxRecDepth 100000 in
theorem rraw_end (i : DI) (j : Int) (he : i.e = 0) (h : ¬ j.toNat ≤ i.r.length) : Meets Tryz.prog 39 [.agg [.str (i).r, .i64 (((i).e : Nat) : Int)], .i64 j] [] (.tup [.agg [.str [], .i64 2], .str []]) [] := by
 refine meets_of_ev (nt := 27) Tryz.func39 rfl rfl (Nat.le_of_ble_eq_true rfl) ?_
 refine .seq ?_
 refine .region ?_
 refine .a (op_boxRow rfl rfl) trivial rfl ?_
 refine .a (op_allocRow zero58 rel_zero58 rfl) trivial rfl ?_
 refine .q (op_assign rfl) trivial rfl ?_
 refine .nil ?_
 show Ev _ _ _ _ _
 refine .seq ?_
 refine .seq ?_
 refine .region ?_
 refine .q (op_fieldAddr (m := 0) Tryz.underlying58 rfl (by kernel_rfl) rfl) trivial rfl ?_
 refine .as (.ptr 1000 1) rfl ?_
 refine .q (op_load Tryz.underlying3 rfl rfl rfl rfl (by first | omega | (simp only [AV.len]; omega) | (simp only [AV.len]; omega) | assumption | (simp [AV.len]; done))) trivial rfl ?_
 refine .q (op_cmpI rfl rfl rfl) trivial rfl ?_
 refine .nil ?_
 show Ev _ _ _ _ _
 refine .cond_false rfl (bne_eq_false_iff_eq.2 (by omega)) ?_
 refine .skip ?_
 show Ev _ _ _ _ _
 refine .seq ?_
 refine .seq ?_
 refine .region ?_
 refine .q (op_move rfl) trivial rfl ?_
 refine .q (op_cmpI rfl rfl rfl) trivial rfl ?_
 refine .nil ?_
 show Ev _ _ _ _ _
 refine .cond rfl (fun hc11 => ?_) (fun hc11 => ?_)
 ·simp only [decide_eq_true_eq] at hc11
  refine .region ?_
  refine .q (op_assign rfl) trivial rfl ?_
  refine .nil ?_
  show Ev _ _ _ _ _
  refine .seq ?_
  refine .seq ?_
  refine .region ?_
  refine .q (op_move rfl) trivial rfl ?_
  refine .as (.i64 ((j.toNat : Nat) : Int)) (congrArg AV.i64 (by omega)) ?_
  refine .q (op_fieldAddr (m := 0) Tryz.underlying58 rfl (by kernel_rfl) rfl) trivial rfl ?_
  refine .as (.ptr 1000 0) rfl ?_
  refine .q (op_load Tryz.underlying9 rfl rfl rfl rfl (by first | omega | (simp only [AV.len]; omega) | (simp only [AV.len, List.length_set]; omega) | assumption | (simp [AV.len]; done))) trivial rfl ?_
  refine .q (op_len_str Tryz.underlying9 rfl) trivial rfl ?_
  refine .q (op_cmpI rfl rfl rfl) trivial rfl ?_
  refine .nil ?_
  show Ev _ _ _ _ _
  refine .cond_true rfl (decide_eq_true (by omega)) ?_
  refine .seq ?_
  refine .region ?_
  refine .q (op_buildS (r := .agg [.str [], .i64 2]) Tryz.underlying58 rfl zero58 rel_zero58 rfl rfl rfl rfl) trivial rfl ?_
  refine .w (op_storeRow (by kernel_rfl) rfl rfl rfl rfl rfl (rfl) (rfl)) trivial rfl ?_
  refine .q (op_assign rfl) trivial rfl ?_
  refine .nil ?_
  show Ev _ _ _ _ _
  refine .ret ?_
  show RetOk _ _ _ _ _ _ _
  exact retc2 rfl (.inl rfl) ⟨_, _, _, _, rfl, rfl, rfl, rfl, rfl, Tryz.underlying58, rfl, (by kernel_rfl)⟩ rfl trivial
 ·simp only [decide_eq_false_iff_not] at hc11
  refine .skip ?_
  show Ev _ _ _ _ _
  refine .seq ?_
  refine .seq ?_
  refine .region ?_
  refine .q (op_move rfl) trivial rfl ?_
  refine .as (.i64 ((j.toNat : Nat) : Int)) (congrArg AV.i64 (by omega)) ?_
  refine .q (op_fieldAddr (m := 0) Tryz.underlying58 rfl (by kernel_rfl) rfl) trivial rfl ?_
  refine .as (.ptr 1000 0) rfl ?_
  refine .q (op_load Tryz.underlying9 rfl rfl rfl rfl (by first | omega | (simp only [AV.len]; omega) | (simp only [AV.len]; omega) | assumption | (simp [AV.len]; done))) trivial rfl ?_
  refine .q (op_len_str Tryz.underlying9 rfl) trivial rfl ?_
  refine .q (op_cmpI rfl rfl rfl) trivial rfl ?_
  refine .nil ?_
  show Ev _ _ _ _ _
  refine .cond_true rfl (decide_eq_true (by omega)) ?_
  refine .seq ?_
  refine .region ?_
  refine .q (op_buildS (r := .agg [.str [], .i64 2]) Tryz.underlying58 rfl zero58 rel_zero58 rfl rfl rfl rfl) trivial rfl ?_
  refine .w (op_storeRow (by kernel_rfl) rfl rfl rfl rfl rfl (rfl) (rfl)) trivial rfl ?_
  refine .q (op_assign rfl) trivial rfl ?_
  refine .nil ?_
  show Ev _ _ _ _ _
  refine .ret ?_
  show RetOk _ _ _ _ _ _ _
  exact retc2 rfl (.inl rfl) ⟨_, _, _, _, rfl, rfl, rfl, rfl, rfl, Tryz.underlying58, rfl, (by kernel_rfl)⟩ rfl trivial
set_option maxRecDepth 100000 in
theorem rraw_yes (i : DI) (j : Int) (he : i.e = 0) (h : j.toNat ≤ i.r.length) : Meets Tryz.prog 39 [.agg [.str (i).r, .i64 (((i).e : Nat) : Int)], .i64 j] [] (.tup [.agg [.str (i.r.drop j.toNat), .i64 0], .str (i.r.take j.toNat)]) [] := by
 refine meets_of_ev (nt := 27) Tryz.func39 rfl rfl (Nat.le_of_ble_eq_true rfl) ?_
 refine .seq ?_
 refine .region ?_
 refine .a (op_boxRow rfl rfl) trivial rfl ?_
 refine .a (op_allocRow zero58 rel_zero58 rfl) trivial rfl ?_
 refine .q (op_assign rfl) trivial rfl ?_
 refine .nil ?_
 show Ev _ _ _ _ _
 refine .seq ?_
 refine .seq ?_
 refine .region ?_
 refine .q (op_fieldAddr (m := 0) Tryz.underlying58 rfl (by kernel_rfl) rfl) trivial rfl ?_
 refine .as (.ptr 1000 1) rfl ?_
 refine .q (op_load Tryz.underlying3 rfl rfl rfl rfl (by first | omega | (simp only [AV.len]; omega) | (simp only [AV.len]; omega) | assumption | (simp [AV.len]; done))) trivial rfl ?_
 refine .q (op_cmpI rfl rfl rfl) trivial rfl ?_
 refine .nil ?_
 show Ev _ _ _ _ _
 refine .cond_false rfl (bne_eq_false_iff_eq.2 (by omega)) ?_
 refine .skip ?_
 show Ev _ _ _ _ _
 refine .seq ?_
 refine .seq ?_
 refine .region ?_
 refine .q (op_move rfl) trivial rfl ?_
 refine .q (op_cmpI rfl rfl rfl) trivial rfl ?_
 refine .nil ?_
 show Ev _ _ _ _ _
 refine .cond rfl (fun hc11 => ?_) (fun hc11 => ?_)
 ·simp only [decide_eq_true_eq] at hc11
  refine .region ?_
  refine .q (op_assign rfl) trivial rfl ?_
  refine .nil ?_
  show Ev _ _ _ _ _
  refine .seq ?_
  refine .seq ?_
  refine .region ?_
  refine .q (op_move rfl) trivial rfl ?_
  refine .as (.i64 ((j.toNat : Nat) : Int)) (congrArg AV.i64 (by omega)) ?_
  refine .q (op_fieldAddr (m := 0) Tryz.underlying58 rfl (by kernel_rfl) rfl) trivial rfl ?_
  refine .as (.ptr 1000 0) rfl ?_
  refine .q (op_load Tryz.underlying9 rfl rfl rfl rfl (by first | omega | (simp only [AV.len]; omega) | (simp only [AV.len]; omega) | assumption | (simp [AV.len]; done))) trivial rfl ?_
  refine .q (op_len_str Tryz.underlying9 rfl) trivial rfl ?_
  refine .q (op_cmpI rfl rfl rfl) trivial rfl ?_
  refine .nil ?_
  show Ev _ _ _ _ _
  refine .cond_false rfl (decide_eq_false (by omega)) ?_
  refine .skip ?_
  show Ev _ _ _ _ _
  refine .seq ?_
  refine .drawnF [[], [0], [], [0, 1, 2], [0, 1, 2, 3], [], [5], [], [5, 6, 7], [0, 1, 2, 3, 4], [0, 1, 2, 3, 4, 5, 6, 7, 8, 9]] [1, 6, 9] [] [(1, ([1000], [])), (6, ([1000], [])), (9, ([], [1008]))] (by kernel_rfl) (by kernel_rfl) rfl ?_
  show DK _ [0, 1, 2, 3, 4, 5, 6, 7, 8, 9, 10] _ _ _
  refine .q rfl (op_fieldAddr (m := 0) Tryz.underlying58 rfl (by kernel_rfl) rfl) trivial ?_
  refine .as (.ptr 1000 0) rfl ?_
  refine .q rfl (op_load Tryz.underlying9 rfl rfl rfl rfl (by first | omega | (simp only [AV.len]; omega) | (simp only [AV.len]; omega) | assumption | (simp [AV.len]; done))) trivial ?_
  refine .q rfl (op_move rfl) trivial ?_
  refine .as (.i64 ((j.toNat : Nat) : Int)) (congrArg AV.i64 (by omega)) ?_
  refine .q rfl (ap_slice_str_lo Tryz.underlying9 rfl (bnd_some rfl rfl) (h)) trivial ?_
  refine .q rfl (op_buildS (r := .agg [.str (i.r.drop j.toNat), .i64 0]) Tryz.underlying58 rfl zero58 rel_zero58 rfl rfl rfl rfl) trivial ?_
  refine .q rfl (op_fieldAddr (m := 0) Tryz.underlying58 rfl (by kernel_rfl) rfl) trivial ?_
  refine .as (.ptr 1000 0) rfl ?_
  refine .q rfl (op_load Tryz.underlying9 rfl rfl rfl rfl (by first | omega | (simp only [AV.len]; omega) | (simp only [AV.len]; omega) | assumption | (simp [AV.len]; done))) trivial ?_
  refine .q rfl (op_move rfl) trivial ?_
  refine .as (.i64 ((j.toNat : Nat) : Int)) (congrArg AV.i64 (by omega)) ?_
  refine .q rfl (ap_slice_str_hi Tryz.underlying9 rfl (bnd_some rfl rfl) (h)) trivial ?_
  refine .w rfl (op_storeRow (by kernel_rfl) rfl rfl rfl rfl rfl (rfl) (rfl)) trivial rfl rfl ?_
  refine .q rfl (op_assign rfl) trivial ?_
  refine .nil ?_
  show Ev _ _ _ _ _
  refine .ret ?_
  show RetOk _ _ _ _ _ _ _
  exact retc2 rfl (.inl rfl) ⟨_, _, _, _, rfl, rfl, rfl, rfl, rfl, Tryz.underlying58, rfl, (by kernel_rfl)⟩ rfl trivial
 ·simp only [decide_eq_false_iff_not] at hc11
  refine .skip ?_
  show Ev _ _ _ _ _
  refine .seq ?_
  refine .seq ?_
  refine .region ?_
  refine .q (op_move rfl) trivial rfl ?_
  refine .as (.i64 ((j.toNat : Nat) : Int)) (congrArg AV.i64 (by omega)) ?_
  refine .q (op_fieldAddr (m := 0) Tryz.underlying58 rfl (by kernel_rfl) rfl) trivial rfl ?_
  refine .as (.ptr 1000 0) rfl ?_
  refine .q (op_load Tryz.underlying9 rfl rfl rfl rfl (by first | omega | (simp only [AV.len]; omega) | (simp only [AV.len]; omega) | assumption | (simp [AV.len]; done))) trivial rfl ?_
  refine .q (op_len_str Tryz.underlying9 rfl) trivial rfl ?_
  refine .q (op_cmpI rfl rfl rfl) trivial rfl ?_
  refine .nil ?_
  show Ev _ _ _ _ _
  refine .cond_false rfl (decide_eq_false (by omega)) ?_
  refine .skip ?_
  show Ev _ _ _ _ _
  refine .seq ?_
  refine .drawnF [[], [0], [], [0, 1, 2], [0, 1, 2, 3], [], [5], [], [5, 6, 7], [0, 1, 2, 3, 4], [0, 1, 2, 3, 4, 5, 6, 7, 8, 9]] [1, 6, 9] [] [(1, ([1000], [])), (6, ([1000], [])), (9, ([], [1008]))] (by kernel_rfl) (by kernel_rfl) rfl ?_
  show DK _ [0, 1, 2, 3, 4, 5, 6, 7, 8, 9, 10] _ _ _
  refine .q rfl (op_fieldAddr (m := 0) Tryz.underlying58 rfl (by kernel_rfl) rfl) trivial ?_
  refine .as (.ptr 1000 0) rfl ?_
  refine .q rfl (op_load Tryz.underlying9 rfl rfl rfl rfl (by first | omega | (simp only [AV.len]; omega) | (simp only [AV.len]; omega) | assumption | (simp [AV.len]; done))) trivial ?_
  refine .q rfl (op_move rfl) trivial ?_
  refine .as (.i64 ((j.toNat : Nat) : Int)) (congrArg AV.i64 (by omega)) ?_
  refine .q rfl (ap_slice_str_lo Tryz.underlying9 rfl (bnd_some rfl rfl) (h)) trivial ?_
  refine .q rfl (op_buildS (r := .agg [.str (i.r.drop j.toNat), .i64 0]) Tryz.underlying58 rfl zero58 rel_zero58 rfl rfl rfl rfl) trivial ?_
  refine .q rfl (op_fieldAddr (m := 0) Tryz.underlying58 rfl (by kernel_rfl) rfl) trivial ?_
  refine .as (.ptr 1000 0) rfl ?_
  refine .q rfl (op_load Tryz.underlying9 rfl rfl rfl rfl (by first | omega | (simp only [AV.len]; omega) | (simp only [AV.len]; omega) | assumption | (simp [AV.len]; done))) trivial ?_
  refine .q rfl (op_move rfl) trivial ?_
  refine .as (.i64 ((j.toNat : Nat) : Int)) (congrArg AV.i64 (by omega)) ?_
  refine .q rfl (ap_slice_str_hi Tryz.underlying9 rfl (bnd_some rfl rfl) (h)) trivial ?_
  refine .w rfl (op_storeRow (by kernel_rfl) rfl rfl rfl rfl rfl (rfl) (rfl)) trivial rfl rfl ?_
  refine .q rfl (op_assign rfl) trivial ?_
  refine .nil ?_
  show Ev _ _ _ _ _
  refine .ret ?_
  show RetOk _ _ _ _ _ _ _
  exact retc2 rfl (.inl rfl) ⟨_, _, _, _, rfl, rfl, rfl, rfl, rfl, Tryz.underlying58, rfl, (by kernel_rfl)⟩ rfl trivial
theorem rraw_ev (i : DI) (hi : i.ok) (j : Int) : Meets Tryz.prog 39 [.agg [.str (i).r, .i64 (((i).e : Nat) : Int)], .i64 j] [] (.tup [.agg [.str ((rawD i j.toNat).1).r, .i64 ((((rawD i j.toNat).1).e : Nat) : Int)], .str (rawD i j.toNat).2]) [] := by
 by_cases he : i.e = 0
 ·by_cases h : j.toNat ≤ i.r.length
  ·rw [rawD_yes he h]; exact rraw_yes i j he h
  ·rw [rawD_end he h]; exact rraw_end i j he h
 ·rw [rawD_err hi he]; exact rraw_err i j he
set_option maxRecDepth 100000 in
theorem rnum_ev (i : DI) (hi : i.ok) (k : Nat) (hk : k ≤ 8) : Meets Tryz.prog 38 [.agg [.str (i).r, .i64 (((i).e : Nat) : Int)], .i64 (k : Int)] [] (.tup [.agg [.str ((numD i k).1).r, .i64 ((((numD i k).1).e : Nat) : Int)], .u64 (numD i k).2]) [] := by
 have hS : (rawD i k).2.length ≤ 8 := by rcases rawD_length i k with h | h <;> simp [h] <;> omega
 refine meets_of_ev (nt := 31) Tryz.func38 rfl rfl (Nat.le_of_ble_eq_true rfl) ?_
 refine .seq ?_
 refine .region ?_
 refine .a (op_boxRow rfl rfl) trivial rfl ?_
 refine .a (op_allocRow zero58 rel_zero58 rfl) trivial rfl ?_
 refine .q (op_assign rfl) trivial rfl ?_
 refine .nil ?_
 show Ev _ _ _ _ _
 refine .seq ?_
 refine .region ?_
 refine .q (op_loadRow Tryz.underlying58 rfl (by kernel_rfl) rfl rfl rfl (rfl)) trivial rfl ?_
 refine .q (op_move rfl) trivial rfl ?_
 refine .q (op_call (U := []) [] [] (rraw_ev i hi (k : Int)) Tryz.func39 (by kernel_rfl) rfl rfl rfl (⟨⟨_, rfl, rfl, rfl⟩, ⟨_, rfl, rfl, rfl⟩, trivial⟩) (trivial) (trivial) (trivial) rfl) trivial rfl ?_
 refine .q (op_move rfl) trivial rfl ?_
 refine .q (op_extract rfl rfl) trivial rfl ?_
 refine .q (op_extract rfl rfl) trivial rfl ?_
 refine .a (op_allocRow zero58 rel_zero58 rfl) trivial rfl ?_
 refine .w (op_storeRow (by kernel_rfl) rfl rfl rfl rfl rfl (rfl) (rfl)) trivial rfl ?_
 refine .q (op_assign rfl) trivial rfl ?_
 refine .nil ?_
 show Ev _ _ _ _ _
 refine .seq ?_
 refine .region ?_
 refine .q (op_assign rfl) trivial rfl ?_
 refine .nil ?_
 show Ev _ _ _ _ _
 refine .seq ?_
 refine .seq ?_
 refine .region ?_
 refine .q (op_assign rfl) trivial rfl ?_
 refine .nil ?_
 show Ev _ _ _ _ _
 refine .block ?_
 refine Ev.loop (ι := { j : Nat // j ≤ (rawD i k).2.length }) (fun j => ⟨[(4, .ptr 1008 0), (6, .ptr 1016 0), (7, .str (rawD i k).2), (8, .u64 (numL (rawD i k).2 j.1)), (9, .i64 ((j.1 : Nat) : Int))], [(1008, some ⟨.agg [.str [], .i64 0], 58, true⟩), (1016, some ⟨.agg [.str ((rawD i k).1).r, .i64 ((((rawD i k).1).e : Nat) : Int)], 58, true⟩)], 1024⟩) (fun j => (rawD i k).2.length - j.1) ⟨0, Nat.zero_le _⟩ (StLe.mk [(1008, 1008), (1016, 1016)] rfl rfl ⟨⟨_, rfl, by first | rfl | (simp only [AV.ren]; congr 1; omega), rfl⟩, ⟨_, rfl, by first | rfl | (simp only [AV.ren]; congr 1; omega), rfl⟩, ⟨_, rfl, by first | rfl | (simp only [AV.ren]; congr 1; omega), rfl⟩, ⟨_, rfl, by first | rfl | (simp only [AV.ren]; congr 1; omega), rfl⟩, ⟨_, rfl, by first | rfl | (simp only [AV.ren]; congr 1; omega), rfl⟩, trivial⟩ ⟨⟨_, _, rfl, rfl, by first | rfl | (simp only [AV.ren]; congr 1; omega), rfl, id, rfl⟩, ⟨_, _, rfl, rfl, by first | rfl | (simp only [AV.ren]; congr 1; omega), rfl, id, rfl⟩, trivial⟩) ?_
 rintro ⟨j, hj⟩
 dsimp only
 refine .seq ?_
 refine .seq ?_
 refine .region ?_
 refine .q (op_move rfl) trivial rfl ?_
 refine .q (op_move rfl) trivial rfl ?_
 refine .q (op_len_str Tryz.underlying9 rfl) trivial rfl ?_
 refine .q (op_cmpI rfl rfl rfl) trivial rfl ?_
 refine .nil ?_
 show Ev _ _ _ _ _
 refine .cond rfl (fun hc19 => ?_) (fun hc19 => ?_)
 ·simp only [decide_eq_true_eq] at hc19
  refine .skip ?_
  show Ev _ _ _ _ _
  refine .seq ?_
  refine .block ?_
  refine .region ?_
  refine .q (op_move rfl) trivial rfl ?_
  refine .q (op_bin64 rfl rfl rfl) trivial rfl ?_
  refine .q (op_move rfl) trivial rfl ?_
  refine .q (op_move rfl) trivial rfl ?_
  refine .q (op_index_str Tryz.underlying9 rfl rfl rfl (by omega)) trivial rfl ?_
  refine .q (op_conv Tryz.underlying5 Tryz.underlying89 rfl rfl) trivial rfl ?_
  refine .q (op_bin64 rfl rfl rfl) trivial rfl ?_
  refine .q (op_assign rfl) trivial rfl ?_
  refine .nil ?_
  show Ev _ _ _ _ _
  refine .region ?_
  refine .q (op_move rfl) trivial rfl ?_
  refine .q (op_addI rfl rfl ⟨by omega, by omega⟩) trivial rfl ?_
  refine .q (op_assign rfl) trivial rfl ?_
  refine .nil ?_
  exact ⟨⟨j + 1, by omega⟩, by show (rawD i k).2.length - (j + 1) < (rawD i k).2.length - j; omega, StLe.mk [(1008, 1008), (1016, 1016)] rfl rfl ⟨⟨_, rfl, by first | rfl | (simp only [AV.ren]; congr 1; omega), rfl⟩, ⟨_, rfl, by first | rfl | (simp only [AV.ren]; congr 1; omega), rfl⟩, ⟨_, rfl, by first | rfl | (simp only [AV.ren]; congr 1; omega), rfl⟩, ⟨_, rfl, by exact congrArg AV.u64 (shl_add _ _), rfl⟩, ⟨_, rfl, by first | rfl | (simp only [AV.ren]; congr 1; omega), rfl⟩, trivial⟩ ⟨⟨_, _, rfl, rfl, by first | rfl | (simp only [AV.ren]; congr 1; omega), rfl, id, rfl⟩, ⟨_, _, rfl, rfl, by first | rfl | (simp only [AV.ren]; congr 1; omega), rfl, id, rfl⟩, trivial⟩⟩
 ·simp only [decide_eq_false_iff_not] at hc19
  refine .exit ?_
  show Ev _ _ _ _ _
  have ej : j = (rawD i k).2.length := by omega
  refine Ev.weak (st2 := ⟨[(4, .ptr 1008 0), (6, .ptr 1016 0), (7, .str (rawD i k).2), (8, .u64 (numL (rawD i k).2 ((rawD i k).2.length))), (9, .i64 ((((rawD i k).2.length) : Nat) : Int))], [(1008, some ⟨.agg [.str [], .i64 0], 58, true⟩), (1016, some ⟨.agg [.str ((rawD i k).1).r, .i64 ((((rawD i k).1).e : Nat) : Int)], 58, true⟩)], 1024⟩) (StLe.mk [(1008, 1008), (1016, 1016)] rfl rfl ⟨⟨_, rfl, by first | (simp only [AV.ren]; done) | (simp only [AV.ren]; rw [ej]; done) | rfl, rfl⟩, ⟨_, rfl, by first | (simp only [AV.ren]; done) | (simp only [AV.ren]; rw [ej]; done) | rfl, rfl⟩, ⟨_, rfl, by first | (simp only [AV.ren]; done) | (simp only [AV.ren]; rw [ej]; done) | rfl, rfl⟩, ⟨_, rfl, by first | (simp only [AV.ren]; done) | (simp only [AV.ren]; rw [ej]; done) | rfl, rfl⟩, ⟨_, rfl, by first | (simp only [AV.ren]; done) | (simp only [AV.ren]; rw [ej]; done) | rfl, rfl⟩, trivial⟩ ⟨⟨_, _, rfl, rfl, by first | (simp only [AV.ren]; done) | (simp only [AV.ren]; rw [ej]; done) | rfl, rfl, id, rfl⟩, ⟨_, _, rfl, rfl, by first | (simp only [AV.ren]; done) | (simp only [AV.ren]; rw [ej]; done) | rfl, rfl, id, rfl⟩, trivial⟩) ?_
  refine .seq ?_
  refine .region ?_
  refine .q (op_loadRow Tryz.underlying58 rfl (by kernel_rfl) rfl rfl rfl (rfl)) trivial rfl ?_
  refine .q (op_move rfl) trivial rfl ?_
  refine .w (op_storeRow (by kernel_rfl) rfl rfl rfl rfl rfl (rfl) (rfl)) trivial rfl ?_
  refine .q (op_assign rfl) trivial rfl ?_
  refine .nil ?_
  show Ev _ _ _ _ _
  refine .ret ?_
  show RetOk _ _ _ _ _ _ _
  exact retc2 rfl (.inl rfl) ⟨_, _, _, _, rfl, rfl, rfl, rfl, rfl, Tryz.underlying58, rfl, (by kernel_rfl)⟩ rfl trivial
theorem num4_lt (i : DI) : (numD i 4).2.toNat < 4294967296 := by
 have key : ∀ (s : List UInt8) (j : Nat), j ≤ 4 → (numL s j).toNat < 256 ^ j := fun s j => by
  induction j with
  | zero => intro _; show (0 : UInt64).toNat < 1; decide
  | succ j ih =>
   intro hj
   have h1 := ih (by omega)
   have hb := (s.getD j 0).toNat_lt
   have hp : 256 ^ j ≤ 256 ^ 3 := Nat.pow_le_pow_right (by decide) (by omega)
   show (numL s j <<< UInt64.ofNat 8 ||| (s.getD j 0).toUInt64).toNat < 256 ^ (j + 1)
   rw [← shl_add, UInt64.toNat_add, UInt64.toNat_mul, UInt8.toNat_toUInt64]
   have e2 : (256 : UInt64).toNat = 256 := rfl
   rw [e2, Nat.pow_succ]
   have hp3 : (256 : Nat) ^ 3 = 16777216 := by decide
   omega
 unfold numD numV
 have hl : (rawD i 4).2.length ≤ 4 := by rcases rawD_length i 4 with h | h <;> simp [h]
 have h1 := key (rawD i 4).2 (rawD i 4).2.length hl
 have hp : 256 ^ (rawD i 4).2.length ≤ 256 ^ 4 := Nat.pow_le_pow_right (by decide) hl
 have hp4 : (256 : Nat) ^ 4 = 4294967296 := by decide
 show (numL (rawD i 4).2 (rawD i 4).2.length).toNat < 4294967296
 omega
theorem u32D_num (i : DI) : (u32D i).2.toNat = (numD i 4).2.toNat := by
 have := num4_lt i
 show (numD i 4).2.toUInt32.toNat = _
 rw [UInt64.toNat_toUInt32]; omega
theorem textD_err {i : DI} (h : i.ok) (he : (u32D i).1.e ≠ 0) (m : Int) : textD i m = ((u32D i).1, []) := by
 have hok : (u32D i).1.ok := rawD_ok h 4
 unfold textD
 split
 ·have hr := hok he
  generalize (u32D i).1 = q at hr he
  obtain ⟨r, e⟩ := q
  simp only at hr he
  subst hr
  cases e with
  | zero => exact absurd rfl he
  | succ e => rfl
 ·exact rawD_err hok he _
set_option maxRecDepth 100000 in
theorem rtext_err (i : DI) (hi : i.ok) (most : Int) (he : (u32D i).1.e ≠ 0) : Meets Tryz.prog 22 [.agg [.str (i).r, .i64 (((i).e : Nat) : Int)], .i64 most] [] (.tup [.agg [.str ((rawD (u32D i).1 (numD i 4).2.toNat).1).r, .i64 ((((rawD (u32D i).1 (numD i 4).2.toNat).1).e : Nat) : Int)], .str (rawD (u32D i).1 (numD i 4).2.toNat).2]) [] := by
 refine meets_of_ev (nt := 29) Tryz.func22 rfl rfl (Nat.le_of_ble_eq_true rfl) ?_
 refine .seq ?_
 refine .region ?_
 refine .a (op_boxRow rfl rfl) trivial rfl ?_
 refine .a (op_allocRow zero58 rel_zero58 rfl) trivial rfl ?_
 refine .q (op_assign rfl) trivial rfl ?_
 refine .nil ?_
 show Ev _ _ _ _ _
 refine .seq ?_
 refine .region ?_
 refine .q (op_loadRow Tryz.underlying58 rfl (by kernel_rfl) rfl rfl rfl (rfl)) trivial rfl ?_
 refine .q (op_call (U := []) [] [] (rnum_ev i hi 4 (by decide)) Tryz.func38 (by kernel_rfl) rfl rfl rfl (⟨⟨_, rfl, rfl, rfl⟩, ⟨_, rfl, rfl, rfl⟩, trivial⟩) (trivial) (trivial) (trivial) rfl) trivial rfl ?_
 refine .q (op_move rfl) trivial rfl ?_
 refine .q (op_extract rfl rfl) trivial rfl ?_
 refine .q (op_extract rfl rfl) trivial rfl ?_
 refine .a (op_allocRow zero58 rel_zero58 rfl) trivial rfl ?_
 refine .w (op_storeRow (by kernel_rfl) rfl rfl rfl rfl rfl (rfl) (rfl)) trivial rfl ?_
 refine .q (op_assign rfl) trivial rfl ?_
 refine .nil ?_
 show Ev _ _ _ _ _
 refine .seq ?_
 refine .seq ?_
 refine .region ?_
 refine .q (op_fieldAddr (m := 0) Tryz.underlying58 rfl (by kernel_rfl) rfl) trivial rfl ?_
 refine .as (.ptr 1016 1) rfl ?_
 refine .q (op_load Tryz.underlying3 rfl rfl rfl rfl (show 1 < 2 by decide)) trivial rfl ?_
 refine .q (op_cmpI rfl rfl rfl) trivial rfl ?_
 refine .q (op_move rfl) trivial rfl ?_
 refine .know (b' := false) (beq_eq_false_iff_ne.2 (fun h => he (Int.ofNat.inj h))) ?_
 refine .no ⟨_, rfl, rfl⟩ rfl ?_
 refine .no ⟨_, rfl, rfl⟩ rfl ?_
 refine .no ⟨_, rfl, rfl⟩ rfl ?_
 refine .no ⟨_, rfl, rfl⟩ rfl ?_
 refine .q (op_pick_false rfl rfl rfl) trivial rfl ?_
 refine .nil ?_
 show Ev _ _ _ _ _
 refine .cond_false rfl rfl ?_
 refine .skip ?_
 show Ev _ _ _ _ _
 refine .seq ?_
 refine .region ?_
 refine .q (op_loadRow Tryz.underlying58 rfl (by kernel_rfl) rfl rfl rfl (rfl)) trivial rfl ?_
 refine .q (op_move rfl) trivial rfl ?_
 refine .q (op_conv64I Tryz.underlying89 Tryz.underlying3 rfl (by have := num4_lt i; omega)) trivial rfl ?_
 refine .q (op_call (U := []) [] [] (rraw_ev (u32D i).1 (rawD_ok hi 4) (((numD i 4).2.toNat : Nat) : Int)) Tryz.func39 (by kernel_rfl) rfl rfl rfl (⟨⟨_, rfl, rfl, rfl⟩, ⟨_, rfl, rfl, rfl⟩, trivial⟩) (trivial) (trivial) (trivial) rfl) trivial rfl ?_
 refine .q (op_extract rfl rfl) trivial rfl ?_
 refine .q (op_extract rfl rfl) trivial rfl ?_
 refine .w (op_storeRow (by kernel_rfl) rfl rfl rfl rfl rfl (rfl) (rfl)) trivial rfl ?_
 refine .q (op_assign rfl) trivial rfl ?_
 refine .nil ?_
 show Ev _ _ _ _ _
 refine .ret ?_
 show RetOk _ _ _ _ _ _ _
 exact retc2 rfl (.inl rfl) ⟨_, _, _, _, rfl, rfl, rfl, rfl, rfl, Tryz.underlying58, rfl, (by kernel_rfl)⟩ rfl trivial
set_option maxRecDepth 100000 in
theorem rtext_big (i : DI) (hi : i.ok) (most : Int) (he : (u32D i).1.e = 0) (h : most < (((numD i 4).2.toNat : Nat) : Int)) : Meets Tryz.prog 22 [.agg [.str (i).r, .i64 (((i).e : Nat) : Int)], .i64 most] [] (.tup [.agg [.str [], .i64 4], .str []]) [] := by
 refine meets_of_ev (nt := 29) Tryz.func22 rfl rfl (Nat.le_of_ble_eq_true rfl) ?_
 refine .seq ?_
 refine .region ?_
 refine .a (op_boxRow rfl rfl) trivial rfl ?_
 refine .a (op_allocRow zero58 rel_zero58 rfl) trivial rfl ?_
 refine .q (op_assign rfl) trivial rfl ?_
 refine .nil ?_
 show Ev _ _ _ _ _
 refine .seq ?_
 refine .region ?_
 refine .q (op_loadRow Tryz.underlying58 rfl (by kernel_rfl) rfl rfl rfl (rfl)) trivial rfl ?_
 refine .q (op_call (U := []) [] [] (rnum_ev i hi 4 (by decide)) Tryz.func38 (by kernel_rfl) rfl rfl rfl (⟨⟨_, rfl, rfl, rfl⟩, ⟨_, rfl, rfl, rfl⟩, trivial⟩) (trivial) (trivial) (trivial) rfl) trivial rfl ?_
 refine .q (op_move rfl) trivial rfl ?_
 refine .q (op_extract rfl rfl) trivial rfl ?_
 refine .q (op_extract rfl rfl) trivial rfl ?_
 refine .a (op_allocRow zero58 rel_zero58 rfl) trivial rfl ?_
 refine .w (op_storeRow (by kernel_rfl) rfl rfl rfl rfl rfl (rfl) (rfl)) trivial rfl ?_
 refine .q (op_assign rfl) trivial rfl ?_
 refine .nil ?_
 show Ev _ _ _ _ _
 refine .seq ?_
 refine .seq ?_
 refine .region ?_
 refine .q (op_fieldAddr (m := 0) Tryz.underlying58 rfl (by kernel_rfl) rfl) trivial rfl ?_
 refine .as (.ptr 1016 1) rfl ?_
 refine .q (op_load Tryz.underlying3 rfl rfl rfl rfl (show 1 < 2 by decide)) trivial rfl ?_
 refine .q (op_cmpI rfl rfl rfl) trivial rfl ?_
 refine .q (op_move rfl) trivial rfl ?_
 refine .know (b' := true) ((show (((u32D i).1.e : Int) == 0) = true by rw [he]; rfl)) ?_
 refine .q (op_move rfl) ⟨_, rfl, rfl⟩ rfl ?_
 refine .q (op_conv64I Tryz.underlying89 Tryz.underlying3 rfl (by have := num4_lt i; omega)) ⟨_, rfl, rfl⟩ rfl ?_
 refine .q (op_move rfl) ⟨_, rfl, rfl⟩ rfl ?_
 refine .q (op_cmpI rfl rfl rfl) ⟨_, rfl, rfl⟩ rfl ?_
 refine .q (op_pick_true rfl rfl rfl) trivial rfl ?_
 refine .nil ?_
 show Ev _ _ _ _ _
 refine .cond_true rfl (decide_eq_true h) ?_
 refine .seq ?_
 refine .region ?_
 refine .q (op_buildS (r := .agg [.str [], .i64 4]) Tryz.underlying58 rfl zero58 rel_zero58 rfl rfl rfl rfl) trivial rfl ?_
 refine .w (op_storeRow (by kernel_rfl) rfl rfl rfl rfl rfl (rfl) (rfl)) trivial rfl ?_
 refine .q (op_assign rfl) trivial rfl ?_
 refine .nil ?_
 show Ev _ _ _ _ _
 refine .ret ?_
 show RetOk _ _ _ _ _ _ _
 exact retc2 rfl (.inl rfl) ⟨_, _, _, _, rfl, rfl, rfl, rfl, rfl, Tryz.underlying58, rfl, (by kernel_rfl)⟩ rfl trivial
set_option maxRecDepth 100000 in
theorem rtext_yes (i : DI) (hi : i.ok) (most : Int) (he : (u32D i).1.e = 0) (h : ¬ most < (((numD i 4).2.toNat : Nat) : Int)) : Meets Tryz.prog 22 [.agg [.str (i).r, .i64 (((i).e : Nat) : Int)], .i64 most] [] (.tup [.agg [.str ((rawD (u32D i).1 (numD i 4).2.toNat).1).r, .i64 ((((rawD (u32D i).1 (numD i 4).2.toNat).1).e : Nat) : Int)], .str (rawD (u32D i).1 (numD i 4).2.toNat).2]) [] := by
 refine meets_of_ev (nt := 29) Tryz.func22 rfl rfl (Nat.le_of_ble_eq_true rfl) ?_
 refine .seq ?_
 refine .region ?_
 refine .a (op_boxRow rfl rfl) trivial rfl ?_
 refine .a (op_allocRow zero58 rel_zero58 rfl) trivial rfl ?_
 refine .q (op_assign rfl) trivial rfl ?_
 refine .nil ?_
 show Ev _ _ _ _ _
 refine .seq ?_
 refine .region ?_
 refine .q (op_loadRow Tryz.underlying58 rfl (by kernel_rfl) rfl rfl rfl (rfl)) trivial rfl ?_
 refine .q (op_call (U := []) [] [] (rnum_ev i hi 4 (by decide)) Tryz.func38 (by kernel_rfl) rfl rfl rfl (⟨⟨_, rfl, rfl, rfl⟩, ⟨_, rfl, rfl, rfl⟩, trivial⟩) (trivial) (trivial) (trivial) rfl) trivial rfl ?_
 refine .q (op_move rfl) trivial rfl ?_
 refine .q (op_extract rfl rfl) trivial rfl ?_
 refine .q (op_extract rfl rfl) trivial rfl ?_
 refine .a (op_allocRow zero58 rel_zero58 rfl) trivial rfl ?_
 refine .w (op_storeRow (by kernel_rfl) rfl rfl rfl rfl rfl (rfl) (rfl)) trivial rfl ?_
 refine .q (op_assign rfl) trivial rfl ?_
 refine .nil ?_
 show Ev _ _ _ _ _
 refine .seq ?_
 refine .seq ?_
 refine .region ?_
 refine .q (op_fieldAddr (m := 0) Tryz.underlying58 rfl (by kernel_rfl) rfl) trivial rfl ?_
 refine .as (.ptr 1016 1) rfl ?_
 refine .q (op_load Tryz.underlying3 rfl rfl rfl rfl (show 1 < 2 by decide)) trivial rfl ?_
 refine .q (op_cmpI rfl rfl rfl) trivial rfl ?_
 refine .q (op_move rfl) trivial rfl ?_
 refine .know (b' := true) ((show (((u32D i).1.e : Int) == 0) = true by rw [he]; rfl)) ?_
 refine .q (op_move rfl) ⟨_, rfl, rfl⟩ rfl ?_
 refine .q (op_conv64I Tryz.underlying89 Tryz.underlying3 rfl (by have := num4_lt i; omega)) ⟨_, rfl, rfl⟩ rfl ?_
 refine .q (op_move rfl) ⟨_, rfl, rfl⟩ rfl ?_
 refine .q (op_cmpI rfl rfl rfl) ⟨_, rfl, rfl⟩ rfl ?_
 refine .q (op_pick_true rfl rfl rfl) trivial rfl ?_
 refine .nil ?_
 show Ev _ _ _ _ _
 refine .cond_false rfl (decide_eq_false h) ?_
 refine .skip ?_
 show Ev _ _ _ _ _
 refine .seq ?_
 refine .region ?_
 refine .q (op_loadRow Tryz.underlying58 rfl (by kernel_rfl) rfl rfl rfl (rfl)) trivial rfl ?_
 refine .q (op_move rfl) trivial rfl ?_
 refine .q (op_conv64I Tryz.underlying89 Tryz.underlying3 rfl (by have := num4_lt i; omega)) trivial rfl ?_
 refine .q (op_call (U := []) [] [] (rraw_ev (u32D i).1 (rawD_ok hi 4) (((numD i 4).2.toNat : Nat) : Int)) Tryz.func39 (by kernel_rfl) rfl rfl rfl (⟨⟨_, rfl, rfl, rfl⟩, ⟨_, rfl, rfl, rfl⟩, trivial⟩) (trivial) (trivial) (trivial) rfl) trivial rfl ?_
 refine .q (op_extract rfl rfl) trivial rfl ?_
 refine .q (op_extract rfl rfl) trivial rfl ?_
 refine .w (op_storeRow (by kernel_rfl) rfl rfl rfl rfl rfl (rfl) (rfl)) trivial rfl ?_
 refine .q (op_assign rfl) trivial rfl ?_
 refine .nil ?_
 show Ev _ _ _ _ _
 refine .ret ?_
 show RetOk _ _ _ _ _ _ _
 exact retc2 rfl (.inl rfl) ⟨_, _, _, _, rfl, rfl, rfl, rfl, rfl, Tryz.underlying58, rfl, (by kernel_rfl)⟩ rfl trivial
theorem rtext_ev (i : DI) (hi : i.ok) (most : Int) : Meets Tryz.prog 22 [.agg [.str (i).r, .i64 (((i).e : Nat) : Int)], .i64 most] [] (.tup [.agg [.str ((textD i most).1).r, .i64 ((((textD i most).1).e : Nat) : Int)], .str (textD i most).2]) [] := by
 by_cases he : (u32D i).1.e = 0
 ·by_cases h : most < (((numD i 4).2.toNat : Nat) : Int)
  ·have e : textD i most = (⟨[], 4⟩, []) := by
    unfold textD
    rw [u32D_num, if_pos h]
    simp [failD, he, orE]
   rw [e]; exact rtext_big i hi most he h
  ·have e : textD i most = rawD (u32D i).1 (numD i 4).2.toNat := by
    unfold textD
    rw [u32D_num, if_neg h]
   rw [e]; exact rtext_yes i hi most he h
 ·rw [textD_err hi he most]
  have := rtext_err i hi most he
  rwa [rawD_err (i := (u32D i).1) (rawD_ok hi 4) he] at this
end Go.Proofs.YtaelhapmikijnaaGreatDoor
namespace Go.Proofs.YtaelhapmikijnaaGreatDoor
open Go.RowKit
theorem splitC_ne (s : List UInt8) : splitC s ≠ [] := by
  cases s with
  | nil => simp [splitC]
  | cons c s =>
    simp only [splitC]
    split
    · simp
    · split <;> simp
theorem splitC_cons_ne {c : UInt8} {s : List UInt8} (h : ¬ c = 44) : ∃ x l, splitC s = x :: l ∧ splitC (c :: s) = (c :: x) :: l := by
  cases hs : splitC s with
  | nil => exact absurd hs (splitC_ne s)
  | cons x l => exact ⟨x, l, rfl, by simp only [splitC, if_neg h, hs]⟩
theorem splitC_none : ∀ (s : List UInt8), s.count 44 = 0 → splitC s = [s]
  | [], _ => rfl
  | c :: s, h => by
    rw [List.count_cons] at h
    have hc : ¬ c = 44 := fun e => by subst e; simp at h
    have hs : s.count 44 = 0 := by omega
    obtain ⟨x, l, h1, h2⟩ := splitC_cons_ne (s := s) hc
    rw [splitC_none s hs] at h1
    injection h1 with h1 h3
    rw [h2, ← h1, ← h3]
theorem splitC_len : ∀ (s : List UInt8), (splitC s).length = s.count 44 + 1
  | [] => rfl
  | c :: s => by
    have ih := splitC_len s
    rw [List.count_cons]
    by_cases hc : c = 44
    · subst hc; simp [splitC, ih]
    · obtain ⟨x, l, h1, h2⟩ := splitC_cons_ne (s := s) hc
      rw [h1] at ih
      rw [h2]
      have : (c == 44) = false := by simpa using hc
      simp only [List.length_cons, this] at ih ⊢
      simpa using ih
theorem splitC_idx : ∀ (s : List UInt8), 0 < s.count 44 → ∃ m : Nat, Lib.indexByte s 44 = (m : Int) ∧ m < s.length ∧ splitC s = s.take m :: splitC (s.drop (m + 1)) ∧ (s.drop (m + 1)).count 44 + 1 = s.count 44
  | [], h => by simp at h
  | c :: s, h => by
    by_cases hc : c = 44
    · subst hc
      exact ⟨0, by simp [Lib.indexByte], by simp, by simp [splitC], by simp⟩
    · have hb : (c == 44) = false := by simpa using hc
      have hcount : (c :: s).count 44 = s.count 44 := by rw [List.count_cons, hb]; simp
      rw [hcount] at h
      obtain ⟨m, h1, h2, h3, h4⟩ := splitC_idx s h
      refine ⟨m + 1, ?_, by simp; omega, ?_, by rw [hcount]; simpa using h4⟩
      · simp only [Lib.indexByte, hb, h1]
        have : ((m : Int) == -1) = false := by
          rw [beq_eq_false_iff_ne]; omega
        simp [this]
      · obtain ⟨x, l, g1, g2⟩ := splitC_cons_ne (s := s) hc
        rw [h3] at g1
        injection g1 with g1 g3
        rw [g2, ← g1, ← g3]
        simp
/-- The parts, where w stands before the first one. -/
def joinW (w : List UInt8) : List (List UInt8) → List (List UInt8)
  | x :: l => (w ++ x) :: l
  | [] => [w]
theorem joinW_step {w : List UInt8} {c : UInt8} {s : List UInt8} (h : ¬ c = 44) : joinW w (splitC (c :: s)) = joinW (w ++ [c]) (splitC s) := by
  obtain ⟨x, l, h1, h2⟩ := splitC_cons_ne (s := s) h
  rw [h1, h2]; simp [joinW]
theorem joinW_comma {w s : List UInt8} : joinW w (splitC (44 :: s)) = w :: splitC s := by simp [splitC, joinW]
theorem joinW_nil (s : List UInt8) : joinW [] (splitC s) = splitC s := by
  cases h : splitC s with
  | nil => exact absurd h (splitC_ne s)
  | cons x l => simp [joinW]
theorem drop_cons {s : List UInt8} {k : Nat} (h : k < s.length) : s.drop k = s.getD k 0 :: s.drop (k + 1) := by
  rw [List.drop_eq_getElem_cons h]
  simp [List.getD_eq_getElem?_getD, h]
end Go.Proofs.YtaelhapmikijnaaGreatDoor
