/-
  Texts of this claim.
-/
import Derived.Test.YtgnicenhnchglaaDoorGRW
import Derived.Test.YtgnicenhnchglaaDoorGRE
namespace Go.Proofs.YtgnicenhnchglaaDoor
open Go.RowKit
theorem rawD_err {i : DI} (h : i.ok) (he : i.e ≠ 0) (n : Nat) : rawD i n = (i, []) := by
  obtain ⟨r, e⟩ := i
  have hr : r = [] := h he
  subst hr
  unfold rawD
  cases e with
  | zero => exact absurd rfl he
  | succ e => split <;> simp [failD, orE]
theorem rawD_end {i : DI} (he : i.e = 0) {n : Nat} (h : ¬ n ≤ i.r.length) : rawD i n = (⟨[], 2⟩, []) := by
  obtain ⟨r, e⟩ := i
  simp only at he; subst he
  exact if_neg h
theorem rawD_yes {i : DI} (he : i.e = 0) {n : Nat} (h : n ≤ i.r.length) : rawD i n = (⟨i.r.drop n, 0⟩, i.r.take n) := by
  obtain ⟨r, e⟩ := i
  simp only at he; subst he
  exact if_pos h
theorem shl_add (n : UInt64) (b : UInt8) : n * 256 + b.toUInt64 = n <<< UInt64.ofNat 8 ||| b.toUInt64 := by
  apply UInt64.toNat_inj.1
  have hb : b.toNat < 2 ^ 8 := b.toNat_lt
  have hn := n.toNat_lt
  rw [UInt64.toNat_add, UInt64.toNat_mul, UInt64.toNat_or, UInt64.toNat_shiftLeft, UInt8.toNat_toUInt64]
  have e : (UInt64.ofNat 8).toNat % 64 = 8 := rfl
  have e2 : (256 : UInt64).toNat = 256 := rfl
  rw [e, e2, Nat.shiftLeft_eq]
  have hq : n.toNat * 2 ^ 8 % 2 ^ 64 = 2 ^ 8 * (n.toNat % 2 ^ 56) := by omega
  rw [hq, ← Nat.two_pow_add_eq_or_of_lt hb]
  omega
set_option maxRecDepth 100000 in
theorem rraw_err (i : DI) (j : Int) (he : i.e ≠ 0) : Meets Tryd.prog 37 [.agg [.str (i).r, .i64 (((i).e : Nat) : Int)], .i64 j] [] (.tup [.agg [.str (i).r, .i64 (((i).e : Nat) : Int)], .str []]) [] := by
 refine meets_of_ev (nt := 27) Tryd.func37 rfl rfl (Nat.le_of_ble_eq_true rfl) ?_
 refine .seq ?_
 refine .region ?_
 refine .a (op_boxRow rfl rfl) trivial rfl ?_
 refine .a (op_allocRow zero71 rel_zero71 rfl) trivial rfl ?_
 refine .q (op_assign rfl) trivial rfl ?_
 refine .nil ?_
 show Ev _ _ _ _ _
 refine .seq ?_
 refine .seq ?_
 refine .region ?_
 refine .q (op_fieldAddr (m := 0) Tryd.underlying71 rfl (by kernel_rfl) rfl) trivial rfl ?_
 refine .as (.ptr 1000 1) rfl ?_
 refine .q (op_load Tryd.underlying3 rfl rfl rfl rfl (by first | omega | (simp only [AV.len]; omega) | (simp only [AV.len]; omega) | assumption | (simp [AV.len]; done))) trivial rfl ?_
 refine .q (op_cmpI rfl rfl rfl) trivial rfl ?_
 refine .nil ?_
 show Ev _ _ _ _ _
 refine .cond_true rfl (bne_iff_ne.2 (by omega)) ?_
 refine .seq ?_
 refine .region ?_
 refine .q (op_loadRow Tryd.underlying71 rfl (by kernel_rfl) rfl rfl rfl (rfl)) trivial rfl ?_
 refine .w (op_storeRow (by kernel_rfl) rfl rfl rfl rfl rfl (rfl) (rfl)) trivial rfl ?_
 refine .q (op_assign rfl) trivial rfl ?_
 refine .nil ?_
 show Ev _ _ _ _ _
 refine .ret ?_
 show RetOk _ _ _ _ _ _ _
 exact retc2 rfl (.inl rfl) ⟨_, _, _, _, rfl, rfl, rfl, rfl, rfl, Tryd.underlying71, rfl, (by kernel_rfl)⟩ rfl trivial
set_option maxRecDepth 100000 in
theorem rraw_end (i : DI) (j : Int) (he : i.e = 0) (h : ¬ j.toNat ≤ i.r.length) : Meets Tryd.prog 37 [.agg [.str (i).r, .i64 (((i).e : Nat) : Int)], .i64 j] [] (.tup [.agg [.str [], .i64 2], .str []]) [] := by
 refine meets_of_ev (nt := 27) Tryd.func37 rfl rfl (Nat.le_of_ble_eq_true rfl) ?_
 refine .seq ?_
 refine .region ?_
 refine .a (op_boxRow rfl rfl) trivial rfl ?_
 refine .a (op_allocRow zero71 rel_zero71 rfl) trivial rfl ?_
 refine .q (op_assign rfl) trivial rfl ?_
 refine .nil ?_
 show Ev _ _ _ _ _
 refine .seq ?_
 refine .seq ?_
 refine .region ?_
 refine .q (op_fieldAddr (m := 0) Tryd.underlying71 rfl (by kernel_rfl) rfl) trivial rfl ?_
 refine .as (.ptr 1000 1) rfl ?_
 refine .q (op_load Tryd.underlying3 rfl rfl rfl rfl (by first | omega | (simp only [AV.len]; omega) | (simp only [AV.len]; omega) | assumption | (simp [AV.len]; done))) trivial rfl ?_
 refine .q (op_cmpI rfl rfl rfl) trivial rfl ?_
 refine .nil ?_
 show Ev _ _ _ _ _
 refine .cond_false rfl (bne_eq_false_iff_eq.2 (by omega)) ?_
 refine .skip ?_
 show Ev _ _ _ _ _
 refine .seq ?_
 refine .seq ?_
 refine .region ?_
 refine .q (op_move rfl) trivial rfl ?_
 refine .q (op_cmpI rfl rfl rfl) trivial rfl ?_
 refine .nil ?_
 show Ev _ _ _ _ _
 refine .cond rfl (fun hc11 => ?_) (fun hc11 => ?_)
 ·simp only [decide_eq_true_eq] at hc11
  refine .region ?_
  refine .q (op_assign rfl) trivial rfl ?_
  refine .nil ?_
  show Ev _ _ _ _ _
  refine .seq ?_
  refine .seq ?_
  refine .region ?_
  refine .q (op_move rfl) trivial rfl ?_
  refine .as (.i64 ((j.toNat : Nat) : Int)) (congrArg AV.i64 (by omega)) ?_
  refine .q (op_fieldAddr (m := 0) Tryd.underlying71 rfl (by kernel_rfl) rfl) trivial rfl ?_
  refine .as (.ptr 1000 0) rfl ?_
  refine .q (op_load Tryd.underlying9 rfl rfl rfl rfl (by first | omega | (simp only [AV.len]; omega) | (simp only [AV.len, List.length_set]; omega) | assumption | (simp [AV.len]; done))) trivial rfl ?_
  refine .q (op_len_str Tryd.underlying9 rfl) trivial rfl ?_
  refine .q (op_cmpI rfl rfl rfl) trivial rfl ?_
  refine .nil ?_
  show Ev _ _ _ _ _
  refine .cond_true rfl (decide_eq_true (by omega)) ?_
  refine .seq ?_
  refine .region ?_
  refine .q (op_buildS (r := .agg [.str [], .i64 2]) Tryd.underlying71 rfl zero71 rel_zero71 rfl rfl rfl rfl) trivial rfl ?_
  refine .w (op_storeRow (by kernel_rfl) rfl rfl rfl rfl rfl (rfl) (rfl)) trivial rfl ?_
  refine .q (op_assign rfl) trivial rfl ?_
  refine .nil ?_
  show Ev _ _ _ _ _
  refine .ret ?_
  show RetOk _ _ _ _ _ _ _
  exact retc2 rfl (.inl rfl) ⟨_, _, _, _, rfl, rfl, rfl, rfl, rfl, Tryd.underlying71, rfl, (by kernel_rfl)⟩ rfl trivial
 ·simp only [decide_eq_false_iff_not] at hc11
  refine .skip ?_
  show Ev _ _ _ _ _
  refine .seq ?_
  refine .seq ?_
  refine .region ?_
  refine .q (op_move rfl) trivial rfl ?_
  refine .as (.i64 ((j.toNat : Nat) : Int)) (congrArg AV.i64 (by omega)) ?_
  refine .q (op_fieldAddr (m := 0) Tryd.underlying71 rfl (by kernel_rfl) rfl) trivial rfl ?_
  refine .as (.ptr 1000 0) rfl ?_
  refine .q (op_load Tryd.underlying9 rfl rfl rfl rfl (by first | omega | (simp only [AV.len]; omega) | (simp only [AV.len]; omega) | assumption | (simp [AV.len]; done))) trivial rfl ?_
  refine .q (op_len_str Tryd.underlying9 rfl) trivial rfl ?_
  refine .q (op_cmpI rfl rfl rfl) trivial rfl ?_
  refine .nil ?_
  show Ev _ _ _ _ _
  refine .cond_true rfl (decide_eq_true (by omega)) ?_
  refine .seq ?_
  refine .region ?_
  refine .q (op_buildS (r := .agg [.str [], .i64 2]) Tryd.underlying71 rfl zero71 rel_zero71 rfl rfl rfl rfl) trivial rfl ?_
  refine .w (op_storeRow (by kernel_rfl) rfl rfl rfl rfl rfl (rfl) (rfl)) trivial rfl ?_
  refine .q (op_assign rfl) trivial rfl ?_
  refine .nil ?_
  show Ev _ _ _ _ _
  refine .ret ?_
  show RetOk _ _ _ _ _ _ _
  exact retc2 rfl (.inl rfl) ⟨_, _, _, _, rfl, rfl, rfl, rfl, rfl, Tryd.underlying71, rfl, (by kernel_rfl)⟩ rfl trivial
set_option maxRecDepth 100000 in
theorem rraw_yes (i : DI) (j : Int) (he : i.e = 0) (h : j.toNat ≤ i.r.length) : Meets Tryd.prog 37 [.agg [.str (i).r, .i64 (((i).e : Nat) : Int)], .i64 j] [] (.tup [.agg [.str (i.r.drop j.toNat), .i64 0], .str (i.r.take j.toNat)]) [] := by
 refine meets_of_ev (nt := 27) Tryd.func37 rfl rfl (Nat.le_of_ble_eq_true rfl) ?_
 refine .seq ?_
 refine .region ?_
 refine .a (op_boxRow rfl rfl) trivial rfl ?_
 refine .a (op_allocRow zero71 rel_zero71 rfl) trivial rfl ?_
 refine .q (op_assign rfl) trivial rfl ?_
 refine .nil ?_
 show Ev _ _ _ _ _
 refine .seq ?_
 refine .seq ?_
 refine .region ?_
 refine .q (op_fieldAddr (m := 0) Tryd.underlying71 rfl (by kernel_rfl) rfl) trivial rfl ?_
 refine .as (.ptr 1000 1) rfl ?_
 refine .q (op_load Tryd.underlying3 rfl rfl rfl rfl (by first | omega | (simp only [AV.len]; omega) | (simp only [AV.len]; omega) | assumption | (simp [AV.len]; done))) trivial rfl ?_
 refine .q (op_cmpI rfl rfl rfl) trivial rfl ?_
 refine .nil ?_
 show Ev _ _ _ _ _
 refine .cond_false rfl (bne_eq_false_iff_eq.2 (by omega)) ?_
 refine .skip ?_
 show Ev _ _ _ _ _
 refine .seq ?_
 refine .seq ?_
 refine .region ?_
 refine .q (op_move rfl) trivial rfl ?_
 refine .q (op_cmpI rfl rfl rfl) trivial rfl ?_
 refine .nil ?_
 show Ev _ _ _ _ _
 refine .cond rfl (fun hc11 => ?_) (fun hc11 => ?_)
 ·simp only [decide_eq_true_eq] at hc11
  refine .region ?_
  refine .q (op_assign rfl) trivial rfl ?_
  refine .nil ?_
  show Ev _ _ _ _ _
  refine .seq ?_
  refine .seq ?_
  refine .region ?_
  refine .q (op_move rfl) trivial rfl ?_
  refine .as (.i64 ((j.toNat : Nat) : Int)) (congrArg AV.i64 (by omega)) ?_
  refine .q (op_fieldAddr (m := 0) Tryd.underlying71 rfl (by kernel_rfl) rfl) trivial rfl ?_
  refine .as (.ptr 1000 0) rfl ?_
  refine .q (op_load Tryd.underlying9 rfl rfl rfl rfl (by first | omega | (simp only [AV.len]; omega) | (simp only [AV.len]; omega) | assumption | (simp [AV.len]; done))) trivial rfl ?_
  refine .q (op_len_str Tryd.underlying9 rfl) trivial rfl ?_
  refine .q (op_cmpI rfl rfl rfl) trivial rfl ?_
  refine .nil ?_
  show Ev _ _ _ _ _
  refine .cond_false rfl (decide_eq_false (by omega)) ?_
  refine .skip ?_
  show Ev _ _ _ _ _
  refine .seq ?_
  refine .drawnF [[], [0], [], [0, 1, 2], [0, 1, 2, 3], [], [5], [], [5, 6, 7], [0, 1, 2, 3, 4], [0, 1, 2, 3, 4, 5, 6, 7, 8, 9]] [1, 6, 9] [] [(1, ([1000], [])), (6, ([1000], [])), (9, ([], [1008]))] (by kernel_rfl) (by kernel_rfl) rfl ?_
  show DK _ [0, 1, 2, 3, 4, 5, 6, 7, 8, 9, 10] _ _ _
  refine .q rfl (op_fieldAddr (m := 0) Tryd.underlying71 rfl (by kernel_rfl) rfl) trivial ?_
  refine .as (.ptr 1000 0) rfl ?_
  refine .q rfl (op_load Tryd.underlying9 rfl rfl rfl rfl (by first | omega | (simp only [AV.len]; omega) | (simp only [AV.len]; omega) | assumption | (simp [AV.len]; done))) trivial ?_
  refine .q rfl (op_move rfl) trivial ?_
  refine .as (.i64 ((j.toNat : Nat) : Int)) (congrArg AV.i64 (by omega)) ?_
  refine .q rfl (ap_slice_str_lo Tryd.underlying9 rfl (bnd_some rfl rfl) (h)) trivial ?_
  refine .q rfl (op_buildS (r := .agg [.str (i.r.drop j.toNat), .i64 0]) Tryd.underlying71 rfl zero71 rel_zero71 rfl rfl rfl rfl) trivial ?_
  refine .q rfl (op_fieldAddr (m := 0) Tryd.underlying71 rfl (by kernel_rfl) rfl) trivial ?_
  refine .as (.ptr 1000 0) rfl ?_
  refine .q rfl (op_load Tryd.underlying9 rfl rfl rfl rfl (by first | omega | (simp only [AV.len]; omega) | (simp only [AV.len]; omega) | assumption | (simp [AV.len]; done))) trivial ?_
  refine .q rfl (op_move rfl) trivial ?_
  refine .as (.i64 ((j.toNat : Nat) : Int)) (congrArg AV.i64 (by omega)) ?_
  refine .q rfl (ap_slice_str_hi Tryd.underlying9 rfl (bnd_some rfl rfl) (h)) trivial ?_
  refine .w rfl (op_storeRow (by kernel_rfl) rfl rfl rfl rfl rfl (rfl) (rfl)) trivial rfl rfl ?_
  refine .q rfl (op_assign rfl) trivial ?_
  refine .nil ?_
  show Ev _ _ _ _ _
  refine .ret ?_
  show RetOk _ _ _ _ _ _ _
  exact retc2 rfl (.inl rfl) ⟨_, _, _, _, rfl, rfl, rfl, rfl, rfl, Tryd.underlying71, rfl, (by kernel_rfl)⟩ rfl trivial
 ·simp only [decide_eq_false_iff_not] at hc11
  refine .skip ?_
  show Ev _ _ _ _ _
  refine .seq ?_
  refine .seq ?_
  refine .region ?_
  refine .q (op_move rfl) trivial rfl ?_
  refine .as (.i64 ((j.toNat : Nat) : Int)) (congrArg AV.i64 (by omega)) ?_
  refine .q (op_fieldAddr (m := 0) Tryd.underlying71 rfl (by kernel_rfl) rfl) trivial rfl ?_
  refine .as (.ptr 1000 0) rfl ?_
  refine .q (op_load Tryd.underlying9 rfl rfl rfl rfl (by first | omega | (simp only [AV.len]; omega) | (simp only [AV.len]; omega) | assumption | (simp [AV.len]; done))) trivial rfl ?_
  refine .q (op_len_str Tryd.underlying9 rfl) trivial rfl ?_
  refine .q (op_cmpI rfl rfl rfl) trivial rfl ?_
  refine .nil ?_
  show Ev _ _ _ _ _
  refine .cond_false rfl (decide_eq_false (by omega)) ?_
  refine .skip ?_
  show Ev _ _ _ _ _
  refine .seq ?_
  refine .drawnF [[], [0], [], [0, 1, 2], [0, 1, 2, 3], [], [5], [], [5, 6, 7], [0, 1, 2, 3, 4], [0, 1, 2, 3, 4, 5, 6, 7, 8, 9]] [1, 6, 9] [] [(1, ([1000], [])), (6, ([1000], [])), (9, ([], [1008]))] (by kernel_rfl) (by kernel_rfl) rfl ?_
  show DK _ [0, 1, 2, 3, 4, 5, 6, 7, 8, 9, 10] _ _ _
  refine .q rfl (op_fieldAddr (m := 0) Tryd.underlying71 rfl (by kernel_rfl) rfl) trivial ?_
  refine .as (.ptr 1000 0) rfl ?_
  refine .q rfl (op_load Tryd.underlying9 rfl rfl rfl rfl (by first | omega | (simp only [AV.len]; omega) | (simp only [AV.len]; omega) | assumption | (simp [AV.len]; done))) trivial ?_
  refine .q rfl (op_move rfl) trivial ?_
  refine .as (.i64 ((j.toNat : Nat) : Int)) (congrArg AV.i64 (by omega)) ?_
  refine .q rfl (ap_slice_str_lo Tryd.underlying9 rfl (bnd_some rfl rfl) (h)) trivial ?_
  refine .q rfl (op_buildS (r := .agg [.str (i.r.drop j.toNat), .i64 0]) Tryd.underlying71 rfl zero71 rel_zero71 rfl rfl rfl rfl) trivial ?_
  refine .q rfl (op_fieldAddr (m := 0) Tryd.underlying71 rfl (by kernel_rfl) rfl) trivial ?_
  refine .as (.ptr 1000 0) rfl ?_
  refine .q rfl (op_load Tryd.underlying9 rfl rfl rfl rfl (by first | omega | (simp only [AV.len]; omega) | (simp only [AV.len]; omega) | assumption | (simp [AV.len]; done))) trivial ?_
  refine .q rfl (op_move rfl) trivial ?_
  refine .as (.i64 ((j.toNat : Nat) : Int)) (congrArg AV.i64 (by omega)) ?_
  refine .q rfl (ap_slice_str_hi Tryd.underlying9 rfl (bnd_some rfl rfl) (h)) trivial ?_
  refine .w rfl (op_storeRow (by kernel_rfl) rfl rfl rfl rfl rfl (rfl) (rfl)) trivial rfl rfl ?_
  refine .q rfl (op_assign rfl) trivial ?_
  refine .nil ?_
  show Ev _ _ _ _ _
  refine .ret ?_
  show RetOk _ _ _ _ _ _ _
  exact retc2 rfl (.inl rfl) ⟨_, _, _, _, rfl, rfl, rfl, rfl, rfl, Tryd.underlying71, rfl, (by kernel_rfl)⟩ rfl trivial
theorem rraw_ev (i : DI) (hi : i.ok) (j : Int) : Meets Tryd.prog 37 [.agg [.str (i).r, .i64 (((i).e : Nat) : Int)], .i64 j] [] (.tup [.agg [.str ((rawD i j.toNat).1).r, .i64 ((((rawD i j.toNat).1).e : Nat) : Int)], .str (rawD i j.toNat).2]) [] := by
 by_cases he : i.e = 0
 ·by_cases h : j.toNat ≤ i.r.length
  ·rw [rawD_yes he h]; exact rraw_yes i j he h
  ·rw [rawD_end he h]; exact rraw_end i j he h
 ·rw [rawD_err hi he]; exact rraw_err i j he
set_option maxRecDepth 100000 in
theorem rnum_ev (i : DI) (hi : i.ok) (k : Nat) (hk : k ≤ 8) : Meets Tryd.prog 34 [.agg [.str (i).r, .i64 (((i).e : Nat) : Int)], .i64 (k : Int)] [] (.tup [.agg [.str ((numD i k).1).r, .i64 ((((numD i k).1).e : Nat) : Int)], .u64 (numD i k).2]) [] := by
 have hS : (rawD i k).2.length ≤ 8 := by rcases rawD_length i k with h | h <;> simp [h] <;> omega
 refine meets_of_ev (nt := 31) Tryd.func34 rfl rfl (Nat.le_of_ble_eq_true rfl) ?_
 refine .seq ?_
 refine .region ?_
 refine .a (op_boxRow rfl rfl) trivial rfl ?_
 refine .a (op_allocRow zero71 rel_zero71 rfl) trivial rfl ?_
 refine .q (op_assign rfl) trivial rfl ?_
 refine .nil ?_
 show Ev _ _ _ _ _
 refine .seq ?_
 refine .region ?_
 refine .q (op_loadRow Tryd.underlying71 rfl (by kernel_rfl) rfl rfl rfl (rfl)) trivial rfl ?_
 refine .q (op_move rfl) trivial rfl ?_
 refine .q (op_call (U := []) [] [] (rraw_ev i hi (k : Int)) Tryd.func37 (by kernel_rfl) rfl rfl rfl (⟨⟨_, rfl, rfl, rfl⟩, ⟨_, rfl, rfl, rfl⟩, trivial⟩) (trivial) (trivial) (trivial) rfl) trivial rfl ?_
 refine .q (op_move rfl) trivial rfl ?_
 refine .q (op_extract rfl rfl) trivial rfl ?_
 refine .q (op_extract rfl rfl) trivial rfl ?_
 refine .a (op_allocRow zero71 rel_zero71 rfl) trivial rfl ?_
 refine .w (op_storeRow (by kernel_rfl) rfl rfl rfl rfl rfl (rfl) (rfl)) trivial rfl ?_
 refine .q (op_assign rfl) trivial rfl ?_
 refine .nil ?_
 show Ev _ _ _ _ _
 refine .seq ?_
 refine .region ?_
 refine .q (op_assign rfl) trivial rfl ?_
 refine .nil ?_
 show Ev _ _ _ _ _
 refine .seq ?_
 refine .seq ?_
 refine .region ?_
 refine .q (op_assign rfl) trivial rfl ?_
 refine .nil ?_
 show Ev _ _ _ _ _
 refine .block ?_
 refine Ev.loop (ι := { j : Nat // j ≤ (rawD i k).2.length }) (fun j => ⟨[(4, .ptr 1008 0), (6, .ptr 1016 0), (7, .str (rawD i k).2), (8, .u64 (numL (rawD i k).2 j.1)), (9, .i64 ((j.1 : Nat) : Int))], [(1008, some ⟨.agg [.str [], .i64 0], 71, true⟩), (1016, some ⟨.agg [.str ((rawD i k).1).r, .i64 ((((rawD i k).1).e : Nat) : Int)], 71, true⟩)], 1024⟩) (fun j => (rawD i k).2.length - j.1) ⟨0, Nat.zero_le _⟩ (StLe.mk [(1008, 1008), (1016, 1016)] rfl rfl ⟨⟨_, rfl, by first | rfl | (simp only [AV.ren]; congr 1; omega), rfl⟩, ⟨_, rfl, by first | rfl | (simp only [AV.ren]; congr 1; omega), rfl⟩, ⟨_, rfl, by first | rfl | (simp only [AV.ren]; congr 1; omega), rfl⟩, ⟨_, rfl, by first | rfl | (simp only [AV.ren]; congr 1; omega), rfl⟩, ⟨_, rfl, by first | rfl | (simp only [AV.ren]; congr 1; omega), rfl⟩, trivial⟩ ⟨⟨_, _, rfl, rfl, by first | rfl | (simp only [AV.ren]; congr 1; omega), rfl, id, rfl⟩, ⟨_, _, rfl, rfl, by first | rfl | (simp only [AV.ren]; congr 1; omega), rfl, id, rfl⟩, trivial⟩) ?_
 rintro ⟨j, hj⟩
 dsimp only
 refine .seq ?_
 refine .seq ?_
 refine .region ?_
 refine .q (op_move rfl) trivial rfl ?_
 refine .q (op_move rfl) trivial rfl ?_
 refine .q (op_len_str Tryd.underlying9 rfl) trivial rfl ?_
 refine .q (op_cmpI rfl rfl rfl) trivial rfl ?_
 refine .nil ?_
 show Ev _ _ _ _ _
 refine .cond rfl (fun hc19 => ?_) (fun hc19 => ?_)
 ·simp only [decide_eq_true_eq] at hc19
  refine .skip ?_
  show Ev _ _ _ _ _
  refine .seq ?_
  refine .block ?_
  refine .region ?_
  refine .q (op_move rfl) trivial rfl ?_
  refine .q (op_bin64 rfl rfl rfl) trivial rfl ?_
  refine .q (op_move rfl) trivial rfl ?_
  refine .q (op_move rfl) trivial rfl ?_
  refine .q (op_index_str Tryd.underlying9 rfl rfl rfl (by omega)) trivial rfl ?_
  refine .q (op_conv Tryd.underlying5 Tryd.underlying64 rfl rfl) trivial rfl ?_
  refine .q (op_bin64 rfl rfl rfl) trivial rfl ?_
  refine .q (op_assign rfl) trivial rfl ?_
  refine .nil ?_
  show Ev _ _ _ _ _
  refine .region ?_
  refine .q (op_move rfl) trivial rfl ?_
  refine .q (op_addI rfl rfl ⟨by omega, by omega⟩) trivial rfl ?_
  refine .q (op_assign rfl) trivial rfl ?_
  refine .nil ?_
  exact ⟨⟨j + 1, by omega⟩, by show (rawD i k).2.length - (j + 1) < (rawD i k).2.length - j; omega, StLe.mk [(1008, 1008), (1016, 1016)] rfl rfl ⟨⟨_, rfl, by first | rfl | (simp only [AV.ren]; congr 1; omega), rfl⟩, ⟨_, rfl, by first | rfl | (simp only [AV.ren]; congr 1; omega), rfl⟩, ⟨_, rfl, by first | rfl | (simp only [AV.ren]; congr 1; omega), rfl⟩, ⟨_, rfl, by exact congrArg AV.u64 (shl_add _ _), rfl⟩, ⟨_, rfl, by first | rfl | (simp only [AV.ren]; congr 1; omega), rfl⟩, trivial⟩ ⟨⟨_, _, rfl, rfl, by first | rfl | (simp only [AV.ren]; congr 1; omega), rfl, id, rfl⟩, ⟨_, _, rfl, rfl, by first | rfl | (simp only [AV.ren]; congr 1; omega), rfl, id, rfl⟩, trivial⟩⟩
 ·simp only [decide_eq_false_iff_not] at hc19
  refine .exit ?_
  show Ev _ _ _ _ _
  have ej : j = (rawD i k).2.length := by omega
  refine Ev.weak (st2 := ⟨[(4, .ptr 1008 0), (6, .ptr 1016 0), (7, .str (rawD i k).2), (8, .u64 (numL (rawD i k).2 ((rawD i k).2.length))), (9, .i64 ((((rawD i k).2.length) : Nat) : Int))], [(1008, some ⟨.agg [.str [], .i64 0], 71, true⟩), (1016, some ⟨.agg [.str ((rawD i k).1).r, .i64 ((((rawD i k).1).e : Nat) : Int)], 71, true⟩)], 1024⟩) (StLe.mk [(1008, 1008), (1016, 1016)] rfl rfl ⟨⟨_, rfl, by first | (simp only [AV.ren]; done) | (simp only [AV.ren]; rw [ej]; done) | rfl, rfl⟩, ⟨_, rfl, by first | (simp only [AV.ren]; done) | (simp only [AV.ren]; rw [ej]; done) | rfl, rfl⟩, ⟨_, rfl, by first | (simp only [AV.ren]; done) | (simp only [AV.ren]; rw [ej]; done) | rfl, rfl⟩, ⟨_, rfl, by first | (simp only [AV.ren]; done) | (simp only [AV.ren]; rw [ej]; done) | rfl, rfl⟩, ⟨_, rfl, by first | (simp only [AV.ren]; done) | (simp only [AV.ren]; rw [ej]; done) | rfl, rfl⟩, trivial⟩ ⟨⟨_, _, rfl, rfl, by first | (simp only [AV.ren]; done) | (simp only [AV.ren]; rw [ej]; done) | rfl, rfl, id, rfl⟩, ⟨_, _, rfl, rfl, by first | (simp only [AV.ren]; done) | (simp only [AV.ren]; rw [ej]; done) | rfl, rfl, id, rfl⟩, trivial⟩) ?_
  refine .seq ?_
  refine .region ?_
  refine .q (op_loadRow Tryd.underlying71 rfl (by kernel_rfl) rfl rfl rfl (rfl)) trivial rfl ?_
  refine .q (op_move rfl) trivial rfl ?_
  refine .w (op_storeRow (by kernel_rfl) rfl rfl rfl rfl rfl (rfl) (rfl)) trivial rfl ?_
  refine .q (op_assign rfl) trivial rfl ?_
  refine .nil ?_
  show Ev _ _ _ _ _
  refine .ret ?_
  show RetOk _ _ _ _ _ _ _
  exact retc2 rfl (.inl rfl) ⟨_, _, _, _, rfl, rfl, rfl, rfl, rfl, Tryd.underlying71, rfl, (by kernel_rfl)⟩ rfl trivial
theorem num4_lt (i : DI) : (numD i 4).2.toNat < 4294967296 := by
 have key : ∀ (s : List UInt8) (j : Nat), j ≤ 4 → (numL s j).toNat < 256 ^ j := fun s j => by
  induction j with
  | zero => intro _; show (0 : UInt64).toNat < 1; decide
  | succ j ih =>
   intro hj
   have h1 := ih (by omega)
   have hb := (s.getD j 0).toNat_lt
   have hp : 256 ^ j ≤ 256 ^ 3 := Nat.pow_le_pow_right (by decide) (by omega)
   show (numL s j <<< UInt64.ofNat 8 ||| (s.getD j 0).toUInt64).toNat < 256 ^ (j + 1)
   rw [← shl_add, UInt64.toNat_add, UInt64.toNat_mul, UInt8.toNat_toUInt64]
   have e2 : (256 : UInt64).toNat = 256 := rfl
   rw [e2, Nat.pow_succ]
   have hp3 : (256 : Nat) ^ 3 = 16777216 := by decide
   omega
 unfold numD numV
 have hl : (rawD i 4).2.length ≤ 4 := by rcases rawD_length i 4 with h | h <;> simp [h]
 have h1 := key (rawD i 4).2 (rawD i 4).2.length hl
 have hp : 256 ^ (rawD i 4).2.length ≤ 256 ^ 4 := Nat.pow_le_pow_right (by decide) hl
 have hp4 : (256 : Nat) ^ 4 = 4294967296 := by decide
 show (numL (rawD i 4).2 (rawD i 4).2.length).toNat < 4294967296
 omega
theorem u32D_num (i : DI) : (u32D i).2.toNat = (numD i 4).2.toNat := by
 have := num4_lt i
 show (numD i 4).2.toUInt32.toNat = _
 rw [UInt64.toNat_toUInt32]; omega
theorem textD_err {i : DI} (h : i.ok) (he : (u32D i).1.e ≠ 0) (m : Int) : textD i m = ((u32D i).1, []) := by
 have hok : (u32D i).1.ok := rawD_ok h 4
 unfold textD
 split
 ·have hr := hok he
  generalize (u32D i).1 = q at hr he
  obtain ⟨r, e⟩ := q
  simp only at hr he
  subst hr
  cases e with
  | zero => exact absurd rfl he
  | succ e => rfl
 ·exact rawD_err hok he _
set_option maxRecDepth 100000 in
theorem rtext_err (i : DI) (hi : i.ok) (most : Int) (he : (u32D i).1.e ≠ 0) : Meets Tryd.prog 36 [.agg [.str (i).r, .i64 (((i).e : Nat) : Int)], .i64 most] [] (.tup [.agg [.str ((rawD (u32D i).1 (numD i 4).2.toNat).1).r, .i64 ((((rawD (u32D i).1 (numD i 4).2.toNat).1).e : Nat) : Int)], .str (rawD (u32D i).1 (numD i 4).2.toNat).2]) [] := by
 refine meets_of_ev (nt := 29) Tryd.func36 rfl rfl (Nat.le_of_ble_eq_true rfl) ?_
 refine .seq ?_
 refine .region ?_
 refine .a (op_boxRow rfl rfl) trivial rfl ?_
 refine .a (op_allocRow zero71 rel_zero71 rfl) trivial rfl ?_
 refine .q (op_assign rfl) trivial rfl ?_
 refine .nil ?_
 show Ev _ _ _ _ _
 refine .seq ?_
 refine .region ?_
 refine .q (op_loadRow Tryd.underlying71 rfl (by kernel_rfl) rfl rfl rfl (rfl)) trivial rfl ?_
 refine .q (op_call (U := []) [] [] (rnum_ev i hi 4 (by decide)) Tryd.func34 (by kernel_rfl) rfl rfl rfl (⟨⟨_, rfl, rfl, rfl⟩, ⟨_, rfl, rfl, rfl⟩, trivial⟩) (trivial) (trivial) (trivial) rfl) trivial rfl ?_
 refine .q (op_move rfl) trivial rfl ?_
 refine .q (op_extract rfl rfl) trivial rfl ?_
 refine .q (op_extract rfl rfl) trivial rfl ?_
 refine .a (op_allocRow zero71 rel_zero71 rfl) trivial rfl ?_
 refine .w (op_storeRow (by kernel_rfl) rfl rfl rfl rfl rfl (rfl) (rfl)) trivial rfl ?_
 refine .q (op_assign rfl) trivial rfl ?_
 refine .nil ?_
 show Ev _ _ _ _ _
 refine .seq ?_
 refine .seq ?_
 refine .region ?_
 refine .q (op_fieldAddr (m := 0) Tryd.underlying71 rfl (by kernel_rfl) rfl) trivial rfl ?_
 refine .as (.ptr 1016 1) rfl ?_
 refine .q (op_load Tryd.underlying3 rfl rfl rfl rfl (show 1 < 2 by decide)) trivial rfl ?_
 refine .q (op_cmpI rfl rfl rfl) trivial rfl ?_
 refine .q (op_move rfl) trivial rfl ?_
 refine .know (b' := false) (beq_eq_false_iff_ne.2 (fun h => he (Int.ofNat.inj h))) ?_
 refine .no ⟨_, rfl, rfl⟩ rfl ?_
 refine .no ⟨_, rfl, rfl⟩ rfl ?_
 refine .no ⟨_, rfl, rfl⟩ rfl ?_
 refine .no ⟨_, rfl, rfl⟩ rfl ?_
 refine .q (op_pick_false rfl rfl rfl) trivial rfl ?_
 refine .nil ?_
 show Ev _ _ _ _ _
 refine .cond_false rfl rfl ?_
 refine .skip ?_
 show Ev _ _ _ _ _
 refine .seq ?_
 refine .region ?_
 refine .q (op_loadRow Tryd.underlying71 rfl (by kernel_rfl) rfl rfl rfl (rfl)) trivial rfl ?_
 refine .q (op_move rfl) trivial rfl ?_
 refine .q (op_conv64I Tryd.underlying64 Tryd.underlying3 rfl (by have := num4_lt i; omega)) trivial rfl ?_
 refine .q (op_call (U := []) [] [] (rraw_ev (u32D i).1 (rawD_ok hi 4) (((numD i 4).2.toNat : Nat) : Int)) Tryd.func37 (by kernel_rfl) rfl rfl rfl (⟨⟨_, rfl, rfl, rfl⟩, ⟨_, rfl, rfl, rfl⟩, trivial⟩) (trivial) (trivial) (trivial) rfl) trivial rfl ?_
 refine .q (op_extract rfl rfl) trivial rfl ?_
 refine .q (op_extract rfl rfl) trivial rfl ?_
 refine .w (op_storeRow (by kernel_rfl) rfl rfl rfl rfl rfl (rfl) (rfl)) trivial rfl ?_
 refine .q (op_assign rfl) trivial rfl ?_
 refine .nil ?_
 show Ev _ _ _ _ _
 refine .ret ?_
 show RetOk _ _ _ _ _ _ _
 exact retc2 rfl (.inl rfl) ⟨_, _, _, _, rfl, rfl, rfl, rfl, rfl, Tryd.underlying71, rfl, (by kernel_rfl)⟩ rfl trivial
set_option maxRecDepth 100000 in
theorem rtext_big (i : DI) (hi : i.ok) (most : Int) (he : (u32D i).1.e = 0) (h : most < (((numD i 4).2.toNat : Nat) : Int)) : Meets Tryd.prog 36 [.agg [.str (i).r, .i64 (((i).e : Nat) : Int)], .i64 most] [] (.tup [.agg [.str [], .i64 4], .str []]) [] := by
 refine meets_of_ev (nt := 29) Tryd.func36 rfl rfl (Nat.le_of_ble_eq_true rfl) ?_
 refine .seq ?_
 refine .region ?_
 refine .a (op_boxRow rfl rfl) trivial rfl ?_
 refine .a (op_allocRow zero71 rel_zero71 rfl) trivial rfl ?_
 refine .q (op_assign rfl) trivial rfl ?_
 refine .nil ?_
 show Ev _ _ _ _ _
 refine .seq ?_
 refine .region ?_
 refine .q (op_loadRow Tryd.underlying71 rfl (by kernel_rfl) rfl rfl rfl (rfl)) trivial rfl ?_
 refine .q (op_call (U := []) [] [] (rnum_ev i hi 4 (by decide)) Tryd.func34 (by kernel_rfl) rfl rfl rfl (⟨⟨_, rfl, rfl, rfl⟩, ⟨_, rfl, rfl, rfl⟩, trivial⟩) (trivial) (trivial) (trivial) rfl) trivial rfl ?_
 refine .q (op_move rfl) trivial rfl ?_
 refine .q (op_extract rfl rfl) trivial rfl ?_
 refine .q (op_extract rfl rfl) trivial rfl ?_
 refine .a (op_allocRow zero71 rel_zero71 rfl) trivial rfl ?_
 refine .w (op_storeRow (by kernel_rfl) rfl rfl rfl rfl rfl (rfl) (rfl)) trivial rfl ?_
 refine .q (op_assign rfl) trivial rfl ?_
 refine .nil ?_
 show Ev _ _ _ _ _
 refine .seq ?_
 refine .seq ?_
 refine .region ?_
 refine .q (op_fieldAddr (m := 0) Tryd.underlying71 rfl (by kernel_rfl) rfl) trivial rfl ?_
 refine .as (.ptr 1016 1) rfl ?_
 refine .q (op_load Tryd.underlying3 rfl rfl rfl rfl (show 1 < 2 by decide)) trivial rfl ?_
 refine .q (op_cmpI rfl rfl rfl) trivial rfl ?_
 refine .q (op_move rfl) trivial rfl ?_
 refine .know (b' := true) ((show (((u32D i).1.e : Int) == 0) = true by rw [he]; rfl)) ?_
 refine .q (op_move rfl) ⟨_, rfl, rfl⟩ rfl ?_
 refine .q (op_conv64I Tryd.underlying64 Tryd.underlying3 rfl (by have := num4_lt i; omega)) ⟨_, rfl, rfl⟩ rfl ?_
 refine .q (op_move rfl) ⟨_, rfl, rfl⟩ rfl ?_
 refine .q (op_cmpI rfl rfl rfl) ⟨_, rfl, rfl⟩ rfl ?_
 refine .q (op_pick_true rfl rfl rfl) trivial rfl ?_
 refine .nil ?_
 show Ev _ _ _ _ _
 refine .cond_true rfl (decide_eq_true h) ?_
 refine .seq ?_
 refine .region ?_
 refine .q (op_buildS (r := .agg [.str [], .i64 4]) Tryd.underlying71 rfl zero71 rel_zero71 rfl rfl rfl rfl) trivial rfl ?_
 refine .w (op_storeRow (by kernel_rfl) rfl rfl rfl rfl rfl (rfl) (rfl)) trivial rfl ?_
 refine .q (op_assign rfl) trivial rfl ?_
 refine .nil ?_
 show Ev _ _ _ _ _
 refine .ret ?_
 show RetOk _ _ _ _ _ _ _
 exact retc2 rfl (.inl rfl) ⟨_, _, _, _, rfl, rfl, rfl, rfl, rfl, Tryd.underlying71, rfl, (by kernel_rfl)⟩ rfl trivial
set_option maxRecDepth 100000 in
theorem rtext_yes (i : DI) (hi : i.ok) (most : Int) (he : (u32D i).1.e = 0) (h : ¬ most < (((numD i 4).2.toNat : Nat) : Int)) : Meets Tryd.prog 36 [.agg [.str (i).r, .i64 (((i).e : Nat) : Int)], .i64 most] [] (.tup [.agg [.str ((rawD (u32D i).1 (numD i 4).2.toNat).1).r, .i64 ((((rawD (u32D i).1 (numD i 4).2.toNat).1).e : Nat) : Int)], .str (rawD (u32D i).1 (numD i 4).2.toNat).2]) [] := by
 refine meets_of_ev (nt := 29) Tryd.func36 rfl rfl (Nat.le_of_ble_eq_true rfl) ?_
 refine .seq ?_
 refine .region ?_
 refine .a (op_boxRow rfl rfl) trivial rfl ?_
 refine .a (op_allocRow zero71 rel_zero71 rfl) trivial rfl ?_
 refine .q (op_assign rfl) trivial rfl ?_
 refine .nil ?_
 show Ev _ _ _ _ _
 refine .seq ?_
 refine .region ?_
 refine .q (op_loadRow Tryd.underlying71 rfl (by kernel_rfl) rfl rfl rfl (rfl)) trivial rfl ?_
 refine .q (op_call (U := []) [] [] (rnum_ev i hi 4 (by decide)) Tryd.func34 (by kernel_rfl) rfl rfl rfl (⟨⟨_, rfl, rfl, rfl⟩, ⟨_, rfl, rfl, rfl⟩, trivial⟩) (trivial) (trivial) (trivial) rfl) trivial rfl ?_
 refine .q (op_move rfl) trivial rfl ?_
 refine .q (op_extract rfl rfl) trivial rfl ?_
 refine .q (op_extract rfl rfl) trivial rfl ?_
 refine .a (op_allocRow zero71 rel_zero71 rfl) trivial rfl ?_
 refine .w (op_storeRow (by kernel_rfl) rfl rfl rfl rfl rfl (rfl) (rfl)) trivial rfl ?_
 refine .q (op_assign rfl) trivial rfl ?_
 refine .nil ?_
 show Ev _ _ _ _ _
 refine .seq ?_
 refine .seq ?_
 refine .region ?_
 refine .q (op_fieldAddr (m := 0) Tryd.underlying71 rfl (by kernel_rfl) rfl) trivial rfl ?_
 refine .as (.ptr 1016 1) rfl ?_
 refine .q (op_load Tryd.underlying3 rfl rfl rfl rfl (show 1 < 2 by decide)) trivial rfl ?_
 refine .q (op_cmpI rfl rfl rfl) trivial rfl ?_
 refine .q (op_move rfl) trivial rfl ?_
 refine .know (b' := true) ((show (((u32D i).1.e : Int) == 0) = true by rw [he]; rfl)) ?_
 refine .q (op_move rfl) ⟨_, rfl, rfl⟩ rfl ?_
 refine .q (op_conv64I Tryd.underlying64 Tryd.underlying3 rfl (by have := num4_lt i; omega)) ⟨_, rfl, rfl⟩ rfl ?_
 refine .q (op_move rfl) ⟨_, rfl, rfl⟩ rfl ?_
 refine .q (op_cmpI rfl rfl rfl) ⟨_, rfl, rfl⟩ rfl ?_
 refine .q (op_pick_true rfl rfl rfl) trivial rfl ?_
 refine .nil ?_
 show Ev _ _ _ _ _
 refine .cond_false rfl (decide_eq_false h) ?_
 refine .skip ?_
 show Ev _ _ _ _ _
 refine .seq ?_
 refine .region ?_
 refine .q (op_loadRow Tryd.underlying71 rfl (by kernel_rfl) rfl rfl rfl (rfl)) trivial rfl ?_
 refine .q (op_move rfl) trivial rfl ?_
 refine .q (op_conv64I Tryd.underlying64 Tryd.underlying3 rfl (by have := num4_lt i; omega)) trivial rfl ?_
 refine .q (op_call (U := []) [] [] (rraw_ev (u32D i).1 (rawD_ok hi 4) (((numD i 4).2.toNat : Nat) : Int)) Tryd.func37 (by kernel_rfl) rfl rfl rfl (⟨⟨_, rfl, rfl, rfl⟩, ⟨_, rfl, rfl, rfl⟩, trivial⟩) (trivial) (trivial) (trivial) rfl) trivial rfl ?_
 refine .q (op_extract rfl rfl) trivial rfl ?_
 refine .q (op_extract rfl rfl) trivial rfl ?_
 refine .w (op_storeRow (by kernel_rfl) rfl rfl rfl rfl rfl (rfl) (rfl)) trivial rfl ?_
 refine .q (op_assign rfl) trivial rfl ?_
 refine .nil ?_
 show Ev _ _ _ _ _
 refine .ret ?_
 show RetOk _ _ _ _ _ _ _
 exact retc2 rfl (.inl rfl) ⟨_, _, _, _, rfl, rfl, rfl, rfl, rfl, Tryd.underlying71, rfl, (by kernel_rfl)⟩ rfl trivial
theorem rtext_ev (i : DI) (hi : i.ok) (most : Int) : Meets Tryd.prog 36 [.agg [.str (i).r, .i64 (((i).e : Nat) : Int)], .i64 most] [] (.tup [.agg [.str ((textD i most).1).r, .i64 ((((textD i most).1).e : Nat) : Int)], .str (textD i most).2]) [] := by
 by_cases he : (u32D i).1.e = 0
 ·by_cases h : most < (((numD i 4).2.toNat : Nat) : Int)
  ·have e : textD i most = (⟨[], 4⟩, []) := by
    unfold textD
    rw [u32D_num, if_pos h]
    simp [failD, he, orE]
   rw [e]; exact rtext_big i hi most he h
  ·have e : textD i most = rawD (u32D i).1 (numD i 4).2.toNat := by
    unfold textD
    rw [u32D_num, if_neg h]
   rw [e]; exact rtext_yes i hi most he h
 ·rw [textD_err hi he most]
  have := rtext_err i hi most he
  rwa [rawD_err (i := (u32D i).1) (rawD_ok hi 4) he] at this
end Go.Proofs.YtgnicenhnchglaaDoor
namespace Go.Proofs.YtgnicenhnchglaaDoor
open Go.RowKit
theorem splitC_ne (s : List UInt8) : splitC s ≠ [] := by
  cases s with
  | nil => simp [splitC]
  | cons c s =>
    simp only [splitC]
    split
    · simp
    · split <;> simp
theorem splitC_cons_ne {c : UInt8} {s : List UInt8} (h : ¬ c = 44) : ∃ x l, splitC s = x :: l ∧ splitC (c :: s) = (c :: x) :: l := by
  cases hs : splitC s with
  | nil => exact absurd hs (splitC_ne s)
  | cons x l => exact ⟨x, l, rfl, by simp only [splitC, if_neg h, hs]⟩
theorem splitC_none : ∀ (s : List UInt8), s.count 44 = 0 → splitC s = [s]
  | [], _ => rfl
  | c :: s, h => by
    rw [List.count_cons] at h
    have hc : ¬ c = 44 := fun e => by subst e; simp at h
    have hs : s.count 44 = 0 := by omega
    obtain ⟨x, l, h1, h2⟩ := splitC_cons_ne (s := s) hc
    rw [splitC_none s hs] at h1
    injection h1 with h1 h3
    rw [h2, ← h1, ← h3]
theorem splitC_len : ∀ (s : List UInt8), (splitC s).length = s.count 44 + 1
  | [] => rfl
  | c :: s => by
    have ih := splitC_len s
    rw [List.count_cons]
    by_cases hc : c = 44
    · subst hc; simp [splitC, ih]
    · obtain ⟨x, l, h1, h2⟩ := splitC_cons_ne (s := s) hc
      rw [h1] at ih
      rw [h2]
      have : (c == 44) = false := by simpa using hc
      simp only [List.length_cons, this] at ih ⊢
      simpa using ih
theorem splitC_idx : ∀ (s : List UInt8), 0 < s.count 44 → ∃ m : Nat, Lib.indexByte s 44 = (m : Int) ∧ m < s.length ∧ splitC s = s.take m :: splitC (s.drop (m + 1)) ∧ (s.drop (m + 1)).count 44 + 1 = s.count 44
  | [], h => by simp at h
  | c :: s, h => by
    by_cases hc : c = 44
    · subst hc
      exact ⟨0, by simp [Lib.indexByte], by simp, by simp [splitC], by simp⟩
    · have hb : (c == 44) = false := by simpa using hc
      have hcount : (c :: s).count 44 = s.count 44 := by rw [List.count_cons, hb]; simp
      rw [hcount] at h
      obtain ⟨m, h1, h2, h3, h4⟩ := splitC_idx s h
      refine ⟨m + 1, ?_, by simp; omega, ?_, by rw [hcount]; simpa using h4⟩
      · simp only [Lib.indexByte, hb, h1]
        have : ((m : Int) == -1) = false := by
          rw [beq_eq_false_iff_ne]; omega
        simp [this]
      · obtain ⟨x, l, g1, g2⟩ := splitC_cons_ne (s := s) hc
        rw [h3] at g1
        injection g1 with g1 g3
        rw [g2, ← g1, ← g3]
        simp
/-- The parts, where w stands before the first one. -/
def joinW (w : List UInt8) : List (List UInt8) → List (List UInt8)
  | x :: l => (w ++ x) :: l
  | [] => [w]
theorem joinW_step {w : List UInt8} {c : UInt8} {s : List UInt8} (h : ¬ c = 44) : joinW w (splitC (c :: s)) = joinW (w ++ [c]) (splitC s) := by
  obtain ⟨x, l, h1, h2⟩ := splitC_cons_ne (s := s) h
  rw [h1, h2]; simp [joinW]
theorem joinW_comma {w s : List UInt8} : joinW w (splitC (44 :: s)) = w :: splitC s := by simp [splitC, joinW]
theorem joinW_nil (s : List UInt8) : joinW [] (splitC s) = splitC s := by
  cases h : splitC s with
  | nil => exact absurd h (splitC_ne s)
  | cons x l => simp [joinW]
theorem drop_cons {s : List UInt8} {k : Nat} (h : k < s.length) : s.drop k = s.getD k 0 :: s.drop (k + 1) := by
  rw [List.drop_eq_getElem_cons h]
  simp [List.getD_eq_getElem?_getD, h]
end Go.Proofs.YtgnicenhnchglaaDoor
namespace Go.Proofs.YtgnicenhnchglaaDoor
open Go.RowKit
set_option maxRecDepth 100000 in
theorem count_ev (s : List UInt8) (c : UInt8) : Meets Tryd.prog 41 [.str s, .str [c]] [] (.i64 ((s.count c : Nat) : Int)) [] := by
 refine meets_of_ev (nt := 34) Tryd.func41 rfl rfl (Nat.le_of_ble_eq_true rfl) ?_
 refine .seq ?_
 refine .region ?_
 refine .q (op_assign rfl) trivial rfl ?_
 refine .nil ?_
 show Ev _ _ _ _ _
 refine .seq ?_
 refine .seq ?_
 refine .region ?_
 refine .q (op_move rfl) trivial rfl ?_
 refine .q (op_len_str Tryd.underlying9 rfl) trivial rfl ?_
 refine .q (op_cmpI rfl rfl rfl) trivial rfl ?_
 refine .nil ?_
 show Ev _ _ _ _ _
 refine .cond_false rfl (rfl) ?_
 refine .skip ?_
 show Ev _ _ _ _ _
 refine .seq ?_
 refine .seq ?_
 refine .region ?_
 refine .q (op_move rfl) trivial rfl ?_
 refine .q (op_len_str Tryd.underlying9 rfl) trivial rfl ?_
 refine .q (op_cmpI rfl rfl rfl) trivial rfl ?_
 refine .nil ?_
 show Ev _ _ _ _ _
 refine .cond_true rfl (rfl) ?_
 refine .seq ?_
 refine .region ?_
 refine .q (op_move rfl) trivial rfl ?_
 refine .q (op_move rfl) trivial rfl ?_
 refine .q (op_index_str Tryd.underlying9 rfl rfl rfl (by first | omega | (skip; omega) | (skip; omega) | assumption | (simp; done))) trivial rfl ?_
 refine .q (op_countStr Tryd.func64 (by kernel_rfl) (by kernel_rfl) (by kernel_rfl) (by kernel_rfl) rfl rfl) trivial rfl ?_
 refine .q (op_assign rfl) trivial rfl ?_
 refine .nil ?_
 show Ev _ _ _ _ _
 refine .ret ?_
 show RetOk _ _ _ _ _ _ _
 exact ret1v rfl (.inl rfl) rfl (rfl) trivial
set_option maxRecDepth 100000 in
theorem idxb_ev (s : List UInt8) (c : UInt8) : Meets Tryd.prog 76 [.str s, .u8 c] [] (.i64 (Lib.indexByte s c)) [] := by
 refine meets_of_ev (nt := 8) Tryd.func76 rfl rfl (Nat.le_of_ble_eq_true rfl) ?_
 refine .seq ?_
 refine .region ?_
 refine .q (op_assign rfl) trivial rfl ?_
 refine .nil ?_
 show Ev _ _ _ _ _
 refine .seq ?_
 refine .region ?_
 refine .q (op_move rfl) trivial rfl ?_
 refine .q (op_move rfl) trivial rfl ?_
 refine .q (op_indexByteStr Tryd.func82 (by kernel_rfl) (by kernel_rfl) (by kernel_rfl) (by kernel_rfl) rfl rfl) trivial rfl ?_
 refine .q (op_assign rfl) trivial rfl ?_
 refine .nil ?_
 show Ev _ _ _ _ _
 refine .ret ?_
 show RetOk _ _ _ _ _ _ _
 exact ret1v rfl (.inl rfl) rfl (rfl) trivial
set_option maxRecDepth 100000 in
theorem sidx_ev (s : List UInt8) (c : UInt8) : Meets Tryd.prog 72 [.str s, .str [c]] [] (.i64 (Lib.indexByte s c)) [] := by
 refine meets_of_ev (nt := 143) Tryd.func72 rfl rfl (Nat.le_of_ble_eq_true rfl) ?_
 refine .seq ?_
 refine .region ?_
 refine .q (op_assign rfl) trivial rfl ?_
 refine .nil ?_
 show Ev _ _ _ _ _
 refine .seq ?_
 refine .region ?_
 refine .q (op_move rfl) trivial rfl ?_
 refine .q (op_len_str Tryd.underlying9 rfl) trivial rfl ?_
 refine .q (op_assign rfl) trivial rfl ?_
 refine .nil ?_
 show Ev _ _ _ _ _
 refine .seq ?_
 refine .block ?_
 refine .seq ?_
 refine .region ?_
 refine .q (op_move rfl) trivial rfl ?_
 refine .q (op_cmpI rfl rfl rfl) trivial rfl ?_
 refine .q (op_move rfl) trivial rfl ?_
 refine .know (b' := false) (rfl) ?_
 refine .q (op_move rfl) ⟨_, rfl, rfl⟩ rfl ?_
 refine .q (op_move rfl) ⟨_, rfl, rfl⟩ rfl ?_
 refine .q (op_eqS rfl rfl rfl) ⟨_, rfl, rfl⟩ rfl ?_
 refine .q (op_pick_false rfl rfl rfl) trivial rfl ?_
 refine .q (op_assign rfl) trivial rfl ?_
 refine .nil ?_
 show Ev _ _ _ _ _
 refine .cond rfl (fun hc16 => ?_) (fun hc16 => ?_)
 ·simp only [beq_iff_eq] at hc16
  refine .seq ?_
  refine .region ?_
  refine .q (op_assign rfl) trivial rfl ?_
  refine .nil ?_
  show Ev _ _ _ _ _
  refine .ret ?_
  show RetOk _ _ _ _ _ _ _
  exact ret1v rfl (.inl rfl) rfl (by first | rfl | (subst hc16; simp [Lib.indexByte]; done)) trivial
 ·simp only [ne_eq, beq_eq_false_iff_ne] at hc16
  refine .seq ?_
  refine .region ?_
  refine .q (op_move rfl) trivial rfl ?_
  refine .q (op_cmpI rfl rfl rfl) trivial rfl ?_
  refine .q (op_assign rfl) trivial rfl ?_
  refine .nil ?_
  show Ev _ _ _ _ _
  refine .cond_true rfl (rfl) ?_
  refine .seq ?_
  refine .region ?_
  refine .q (op_move rfl) trivial rfl ?_
  refine .q (op_move rfl) trivial rfl ?_
  refine .q (op_index_str Tryd.underlying9 rfl rfl rfl (by first | omega | (skip; omega) | (skip; omega) | assumption | (simp; done))) trivial rfl ?_
  refine .q (op_call (U := []) [] [] (idxb_ev s c) Tryd.func76 (by kernel_rfl) rfl rfl rfl (⟨⟨_, rfl, rfl, rfl⟩, ⟨_, rfl, rfl, rfl⟩, trivial⟩) (trivial) (trivial) (trivial) rfl) trivial rfl ?_
  refine .q (op_assign rfl) trivial rfl ?_
  refine .nil ?_
  show Ev _ _ _ _ _
  refine .ret ?_
  show RetOk _ _ _ _ _ _ _
  exact ret1v rfl (.inl rfl) rfl (by first | rfl | (subst hc16; simp [Lib.indexByte]; done)) trivial
set_option maxRecDepth 100000 in
theorem index_ev (s : List UInt8) (c : UInt8) : Meets Tryd.prog 65 [.str s, .str [c]] [] (.i64 (Lib.indexByte s c)) [] := by
 refine meets_of_ev (nt := 8) Tryd.func65 rfl rfl (Nat.le_of_ble_eq_true rfl) ?_
 refine .seq ?_
 refine .region ?_
 refine .q (op_assign rfl) trivial rfl ?_
 refine .nil ?_
 show Ev _ _ _ _ _
 refine .seq ?_
 refine .region ?_
 refine .q (op_move rfl) trivial rfl ?_
 refine .q (op_move rfl) trivial rfl ?_
 refine .q (op_call (U := []) [] [] (sidx_ev s c) Tryd.func72 (by kernel_rfl) rfl rfl rfl (⟨⟨_, rfl, rfl, rfl⟩, ⟨_, rfl, rfl, rfl⟩, trivial⟩) (trivial) (trivial) (trivial) rfl) trivial rfl ?_
 refine .q (op_assign rfl) trivial rfl ?_
 refine .nil ?_
 show Ev _ _ _ _ _
 refine .ret ?_
 show RetOk _ _ _ _ _ _ _
 exact ret1v rfl (.inl rfl) rfl (rfl) trivial
end Go.Proofs.YtgnicenhnchglaaDoor
namespace Go.Proofs.YtgnicenhnchglaaDoor
open Go.RowKit
/-- Some parts are done, q is what is left of the text. -/
structure SpI (s : List UInt8) where
  d : List (List UInt8)
  q : List UInt8
  h : splitC s = d ++ splitC q
  c : d.length + q.count 44 = s.count 44
  l : q.length ≤ s.length
def SpI.next {s : List UInt8} (i : SpI s) (m : Nat) (h3 : splitC i.q = i.q.take m :: splitC (i.q.drop (m + 1))) (h4 : (i.q.drop (m + 1)).count 44 + 1 = i.q.count 44) : SpI s :=
  ⟨i.d ++ [i.q.take m], i.q.drop (m + 1), by rw [i.h, h3]; simp, by have := i.c; simp only [List.length_append, List.length_cons, List.length_nil]; omega, by have := i.l; simp only [List.length_drop]; omega⟩
def SpI.cells {s : List UInt8} (i : SpI s) : List (List UInt8) := i.d ++ List.replicate (s.count 44 + 1 - i.d.length) []
theorem SpI.set {s : List UInt8} (i : SpI s) (x : List UInt8) (h : i.d.length < s.count 44 + 1) : i.cells.set i.d.length x = i.d ++ [x] ++ List.replicate (s.count 44 + 1 - (i.d.length + 1)) [] := by
  unfold SpI.cells
  rw [List.set_append_right _ _ (Nat.le_refl _), Nat.sub_self, show s.count 44 + 1 - i.d.length = (s.count 44 + 1 - (i.d.length + 1)) + 1 by omega, List.replicate_succ]
  simp
theorem SpI.fin {s : List UInt8} (i : SpI s) (hz : i.q.count 44 = 0) : i.cells.set i.d.length i.q = splitC s := by
  have hc := i.c
  rw [SpI.set _ _ (by omega), show s.count 44 + 1 - (i.d.length + 1) = 0 by omega, i.h, splitC_none _ hz]
  simp
set_option maxRecDepth 100000 in
theorem gensplit_ev (s : List UInt8) (hs : s.length ≤ 100000000) : Meets Tryd.prog 75 [.str s, .str [44], .i64 0, .i64 (-1)] [] (.sl 1000 0 (splitC s).length 1) [(1000, some ⟨.aggS (splitC s), 9, true⟩)] := by
 have hcl := List.count_le_length (a := (44 : UInt8)) (l := s)
 refine meets_of_ev (nt := 66) Tryd.func75 rfl rfl (Nat.le_of_ble_eq_true rfl) ?_
 refine .seq ?_
 refine .region ?_
 refine .q (op_assign rfl) trivial rfl ?_
 refine .nil ?_
 show Ev _ _ _ _ _
 refine .seq ?_
 refine .seq ?_
 refine .region ?_
 refine .q (op_move rfl) trivial rfl ?_
 refine .q (op_cmpI rfl rfl rfl) trivial rfl ?_
 refine .nil ?_
 show Ev _ _ _ _ _
 refine .cond_false rfl (rfl) ?_
 refine .skip ?_
 show Ev _ _ _ _ _
 refine .seq ?_
 refine .seq ?_
 refine .region ?_
 refine .q (op_move rfl) trivial rfl ?_
 refine .q (op_eqS rfl rfl rfl) trivial rfl ?_
 refine .nil ?_
 show Ev _ _ _ _ _
 refine .cond_false rfl (rfl) ?_
 refine .skip ?_
 show Ev _ _ _ _ _
 refine .seq ?_
 refine .seq ?_
 refine .region ?_
 refine .q (op_move rfl) trivial rfl ?_
 refine .q (op_cmpI rfl rfl rfl) trivial rfl ?_
 refine .nil ?_
 show Ev _ _ _ _ _
 refine .cond_true rfl (rfl) ?_
 refine .region ?_
 refine .q (op_move rfl) trivial rfl ?_
 refine .q (op_move rfl) trivial rfl ?_
 refine .q (op_call (U := []) [] [] (count_ev s 44) Tryd.func41 (by kernel_rfl) rfl rfl rfl (⟨⟨_, rfl, rfl, rfl⟩, ⟨_, rfl, rfl, rfl⟩, trivial⟩) (trivial) (trivial) (trivial) rfl) trivial rfl ?_
 refine .q (op_addI rfl rfl ⟨by have := List.count_le_length (a := (44 : UInt8)) (l := s); omega, by have := List.count_le_length (a := (44 : UInt8)) (l := s); omega⟩) trivial rfl ?_
 refine .q (op_assign rfl) trivial rfl ?_
 refine .nil ?_
 show Ev _ _ _ _ _
 refine .seq ?_
 refine .region ?_
 refine .q (op_move rfl) trivial rfl ?_
 refine .q (op_move rfl) trivial rfl ?_
 refine .q (op_len_str Tryd.underlying9 rfl) trivial rfl ?_
 refine .q (op_addI rfl rfl ⟨by omega, by omega⟩) trivial rfl ?_
 refine .q (op_minI rfl rfl) trivial rfl ?_
 refine .as (.i64 ((s.count 44 + 1 : Nat) : Int)) (congrArg AV.i64 (by have := List.count_le_length (a := (44 : UInt8)) (l := s); omega)) ?_
 refine .q (op_assign rfl) trivial rfl ?_
 refine .nil ?_
 show Ev _ _ _ _ _
 refine .seq ?_
 refine .region ?_
 refine .q (op_move rfl) trivial rfl ?_
 refine .a (ap_make (n := s.count 44 + 1) (c := .aggS (List.replicate (s.count 44 + 1) [])) Tryd.underlying23 inf9 rfl rfl rfl rfl (by have := List.count_le_length (a := (44 : UInt8)) (l := s); omega) rel_zero9 rfl (by simp [AV.list, AV.parts])) trivial rfl ?_
 refine .q (op_assign rfl) trivial rfl ?_
 refine .nil ?_
 show Ev _ _ _ _ _
 refine .seq ?_
 refine .region ?_
 refine .q (op_move rfl) trivial rfl ?_
 refine .q (op_subI rfl rfl ⟨by have := List.count_le_length (a := (44 : UInt8)) (l := s); omega, by have := List.count_le_length (a := (44 : UInt8)) (l := s); omega⟩) trivial rfl ?_
 refine .as (.i64 ((s.count 44 : Nat) : Int)) (congrArg AV.i64 (by omega)) ?_
 refine .q (op_assign rfl) trivial rfl ?_
 refine .nil ?_
 show Ev _ _ _ _ _
 refine .seq ?_
 refine .region ?_
 refine .q (op_assign rfl) trivial rfl ?_
 refine .nil ?_
 show Ev _ _ _ _ _
 refine .seq ?_
 refine .block ?_
 refine Ev.loop (ι := SpI s) (fun q => ⟨[(0, .str q.q), (1, .str [44]), (2, .i64 0), (3, .i64 ((s.count 44 : Nat) : Int)), (9, .sl 1000 0 (s.count 44 + 1) 1), (10, .i64 ((q.d.length : Nat) : Int))], [(1000, some ⟨.aggS q.cells, 9, true⟩)], 1008⟩) (fun q => q.q.count 44) ⟨[], s, rfl, by simp, Nat.le_refl _⟩ (StLe.mk [(1000, 1000)] rfl rfl ⟨⟨_, rfl, by rfl, rfl⟩, ⟨_, rfl, by rfl, rfl⟩, ⟨_, rfl, by rfl, rfl⟩, ⟨_, rfl, by rfl, rfl⟩, ⟨_, rfl, by rfl, rfl⟩, ⟨_, rfl, by rfl, rfl⟩, trivial⟩ ⟨⟨_, _, rfl, rfl, rfl, rfl, id, rfl⟩, trivial⟩) ?_
 rintro q
 try dsimp only
 refine .seq ?_
 refine .seq ?_
 refine .region ?_
 refine .q (op_move rfl) trivial rfl ?_
 refine .q (op_move rfl) trivial rfl ?_
 refine .q (op_cmpI rfl rfl rfl) trivial rfl ?_
 refine .nil ?_
 show Ev _ _ _ _ _
 refine .cond rfl (fun hc36 => ?_) (fun hc36 => ?_)
 ·simp only [decide_eq_true_eq] at hc36
  refine .skip ?_
  show Ev _ _ _ _ _
  refine .block ?_
  refine .seq ?_
  refine .region ?_
  have hpos : 0 < q.q.count 44 := by have := q.c; omega
  obtain ⟨m, h1, h2, h3, h4⟩ := splitC_idx q.q hpos
  have hql := q.l
  have hqc := q.c
  refine .q (op_move rfl) trivial rfl ?_
  refine .q (op_move rfl) trivial rfl ?_
  refine .q (op_call (U := []) [] [] (index_ev q.q 44) Tryd.func65 (by kernel_rfl) rfl rfl rfl (⟨⟨_, rfl, rfl, rfl⟩, ⟨_, rfl, rfl, rfl⟩, trivial⟩) (trivial) (trivial) (trivial) rfl) trivial rfl ?_
  refine .as (.i64 ((m : Nat) : Int)) (congrArg AV.i64 h1) ?_
  refine .q (op_assign rfl) trivial rfl ?_
  refine .nil ?_
  show Ev _ _ _ _ _
  refine .seq ?_
  refine .seq ?_
  refine .region ?_
  refine .q (op_move rfl) trivial rfl ?_
  refine .q (op_cmpI rfl rfl rfl) trivial rfl ?_
  refine .nil ?_
  show Ev _ _ _ _ _
  refine .cond_false rfl (decide_eq_false (by omega)) ?_
  refine .skip ?_
  show Ev _ _ _ _ _
  refine .seq ?_
  refine .region ?_
  refine .q (op_move rfl) trivial rfl ?_
  refine .q (op_move rfl) trivial rfl ?_
  refine .q (op_move rfl) trivial rfl ?_
  refine .q (op_move rfl) trivial rfl ?_
  refine .q (op_move rfl) trivial rfl ?_
  refine .q (op_addI rfl rfl ⟨by omega, by omega⟩) trivial rfl ?_
  refine .as (.i64 ((m : Nat) : Int)) (congrArg AV.i64 (by omega)) ?_
  refine .q (ap_slice_str_hi Tryd.underlying9 rfl (bnd_some rfl rfl) (by omega)) trivial rfl ?_
  refine .q (ap_idx0 Tryd.underlying23 inf9.sz rfl rfl rfl (by omega)) trivial rfl ?_
  refine .w (op_store inf9.sz rfl rfl rfl rfl rfl (by show _ < q.cells.length; unfold SpI.cells; simp; omega)) trivial rfl ?_
  refine .nil ?_
  show Ev _ _ _ _ _
  refine .seq ?_
  refine .region ?_
  refine .q (op_move rfl) trivial rfl ?_
  refine .q (op_move rfl) trivial rfl ?_
  refine .q (op_move rfl) trivial rfl ?_
  refine .q (op_len_str Tryd.underlying9 rfl) trivial rfl ?_
  refine .as (.i64 1) rfl ?_
  refine .q (op_addI rfl rfl ⟨by omega, by omega⟩) trivial rfl ?_
  refine .as (.i64 ((m + 1 : Nat) : Int)) rfl ?_
  refine .q (ap_slice_str_lo Tryd.underlying9 rfl (bnd_some rfl rfl) (by omega)) trivial rfl ?_
  refine .q (op_assign rfl) trivial rfl ?_
  refine .nil ?_
  show Ev _ _ _ _ _
  refine .region ?_
  refine .q (op_move rfl) trivial rfl ?_
  refine .q (op_addI rfl rfl ⟨by omega, by omega⟩) trivial rfl ?_
  refine .q (op_assign rfl) trivial rfl ?_
  refine .nil ?_
  exact ⟨q.next m h3 h4, by (try dsimp only); show (q.q.drop (m + 1)).count 44 < q.q.count 44; omega, StLe.mk [(1000, 1000)] rfl rfl ⟨⟨_, rfl, by rfl, rfl⟩, ⟨_, rfl, by rfl, rfl⟩, ⟨_, rfl, by rfl, rfl⟩, ⟨_, rfl, by rfl, rfl⟩, ⟨_, rfl, by rfl, rfl⟩, ⟨_, rfl, by (show AV.i64 _ = AV.i64 _; simp [SpI.next]), rfl⟩, trivial⟩ ⟨⟨_, _, rfl, rfl, by (show AV.aggS _ = AV.aggS _; rw [SpI.set _ _ (by omega)]; simp [SpI.next, SpI.cells]), rfl, id, rfl⟩, trivial⟩⟩
 ·simp only [decide_eq_false_iff_not] at hc36
  refine .exit ?_
  show Ev _ _ _ _ _
  refine .seq ?_
  refine .region ?_
  have hqc := q.c
  have hz : q.q.count 44 = 0 := by omega
  refine .q (op_move rfl) trivial rfl ?_
  refine .q (op_move rfl) trivial rfl ?_
  refine .q (op_move rfl) trivial rfl ?_
  refine .q (ap_idx0 Tryd.underlying23 inf9.sz rfl rfl rfl (by omega)) trivial rfl ?_
  refine .w (op_store inf9.sz rfl rfl rfl rfl rfl (by show _ < q.cells.length; unfold SpI.cells; simp; omega)) trivial rfl ?_
  refine .nil ?_
  show Ev _ _ _ _ _
  refine .seq ?_
  refine .region ?_
  refine .q (op_move rfl) trivial rfl ?_
  refine .q (op_move rfl) trivial rfl ?_
  refine .q (op_addI rfl rfl ⟨by omega, by omega⟩) trivial rfl ?_
  refine .as (.i64 ((s.count 44 + 1 : Nat) : Int)) (congrArg AV.i64 (by omega)) ?_
  refine .q (ap_slice_sl_hi Tryd.underlying23 inf9.sz rfl (bnd_some rfl rfl) (by omega)) trivial rfl ?_
  refine .q (op_assign rfl) trivial rfl ?_
  refine .nil ?_
  show Ev _ _ _ _ _
  refine .ret ?_
  show RetOk _ _ _ _ _ _ _
  exact ret1v rfl (.inl rfl) rfl (congrArg (fun n => AV.sl 1000 0 n 1) (splitC_len s).symm) ⟨congrArg (fun l => some (ABlk.mk (AV.aggS l) 9 true)) (SpI.fin q hz), trivial⟩
end Go.Proofs.YtgnicenhnchglaaDoor
namespace Go.Proofs.YtgnicenhnchglaaDoor
open Go.RowKit
theorem splitC_mem : ∀ (s x : List UInt8), x ∈ splitC s → x.length ≤ s.length
  | [], x, h => by simp [splitC] at h; subst h; simp
  | c :: s, x, h => by
    by_cases hc : c = 44
    · subst hc
      simp only [splitC, if_true, List.mem_cons] at h
      rcases h with rfl | h
      · simp
      · have := splitC_mem s x h; simp only [List.length_cons]; omega
    · obtain ⟨y, l, h1, h2⟩ := splitC_cons_ne (s := s) hc
      rw [h2] at h
      rcases List.mem_cons.1 h with rfl | h
      · have := splitC_mem s y (by rw [h1]; simp); simp only [List.length_cons]; omega
      · have := splitC_mem s x (by rw [h1]; simp [h]); simp only [List.length_cons]; omega
theorem splitC_get (s : List UInt8) (j : Nat) : ((splitC s).getD j []).length ≤ s.length := by
  rcases Nat.lt_or_ge j (splitC s).length with h | h
  · rw [show (splitC s).getD j [] = (splitC s)[j] by simp [List.getD_eq_getElem?_getD, h]]
    exact splitC_mem _ _ (List.getElem_mem h)
  · rw [List.getD_eq_getElem?_getD, List.getElem?_eq_none h]; simp
theorem all_get {l : List (List UInt8)} (h : l.all nameOk = true) {j : Nat} (hj : j < l.length) : nameOk (l.getD j []) = true := by
  rw [show l.getD j [] = l[j] by simp [List.getD_eq_getElem?_getD, hj]]
  exact List.all_eq_true.1 h _ (List.getElem_mem hj)
theorem not_all {l : List (List UInt8)} (h : ¬ l.all nameOk = true) : ∃ b, b < l.length ∧ nameOk (l.getD b []) = false := by
  have h1 : l.all nameOk = false := by simpa using h
  rw [List.all_eq_false] at h1
  obtain ⟨x, hx, hn⟩ := h1
  obtain ⟨b, hb, rfl⟩ := List.mem_iff_getElem.1 hx
  exact ⟨b, hb, by rw [show l.getD b [] = l[b] by simp [List.getD_eq_getElem?_getD, hb]]; simpa using hn⟩
set_option maxRecDepth 100000 in
theorem split_ev (s : List UInt8) (hs : s.length ≤ 100000000) : Meets Tryd.prog 71 [.str s, .str [44]] [] (.sl 1000 0 (splitC s).length 1) [(1000, some ⟨.aggS (splitC s), 9, true⟩)] := by
 refine meets_of_ev (nt := 8) Tryd.func71 rfl rfl (Nat.le_of_ble_eq_true rfl) ?_
 refine .seq ?_
 refine .region ?_
 refine .q (op_assign rfl) trivial rfl ?_
 refine .nil ?_
 show Ev _ _ _ _ _
 refine .seq ?_
 refine .region ?_
 refine .q (op_move rfl) trivial rfl ?_
 refine .q (op_move rfl) trivial rfl ?_
 refine .a (op_call (U := [(1000, some ⟨.aggS (splitC s), 9, true⟩)]) [] [(1000, 1000)] (gensplit_ev s hs) Tryd.func75 (by kernel_rfl) rfl rfl rfl (⟨⟨_, rfl, rfl, rfl⟩, ⟨_, rfl, rfl, rfl⟩, ⟨_, rfl, rfl, rfl⟩, ⟨_, rfl, rfl, rfl⟩, trivial⟩) (trivial) (⟨⟨1000, _, rfl, rfl, rfl, rfl, .inl rfl⟩, trivial⟩) (trivial) rfl) trivial rfl ?_
 refine .q (op_assign rfl) trivial rfl ?_
 refine .nil ?_
 show Ev _ _ _ _ _
 refine .ret ?_
 show RetOk _ _ _ _ _ _ _
 exact ret1v rfl (.inl rfl) rfl rfl ⟨rfl, trivial⟩
end Go.Proofs.YtgnicenhnchglaaDoor
