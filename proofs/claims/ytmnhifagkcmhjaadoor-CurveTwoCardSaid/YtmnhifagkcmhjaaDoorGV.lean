/-
  The curve of the program, walked.
-/
import Derived.Test.YtmnhifagkcmhjaaDoorGI
import Derived.Test.YtmnhifagkcmhjaaDoorGF
import Derived.Test.YtmnhifagkcmhjaaDoorGE
import Derived.Test.YtmnhifagkcmhjaaDoorGK
namespace Go.Proofs.YtmnhifagkcmhjaaDoor
open Go.RowKit
theorem pw_add (a m n : Nat) : (a ^ m % fp) * (a ^ n % fp) % fp = a ^ (m + n) % fp := by rw [← Nat.mul_mod, Nat.pow_add]
theorem pw_add1 (a m : Nat) : (a ^ m % fp) * a % fp = a ^ (m + 1) % fp := by rw [Nat.mod_mul_mod, Nat.pow_succ]
theorem pw_pow (a m k : Nat) : (a ^ m % fp) ^ k % fp = a ^ (m * k) % fp := by rw [← Nat.pow_mod, Nat.pow_mul]
theorem sq_start (x : Nat) (h : x < fp) : x = x ^ (2 ^ 0) % fp := by rw [Nat.pow_zero, Nat.pow_one, Nat.mod_eq_of_lt h]
theorem sq_step (x j : Nat) : (x ^ (2 ^ j) % fp) * (x ^ (2 ^ j) % fp) % fp = x ^ (2 ^ (j + 1)) % fp := by
  rw [pw_add, Nat.pow_succ, Nat.mul_two]
theorem ones_start (a : Nat) (h : a < fp) : a = a ^ (2 ^ 1 - 1) % fp := by rw [show 2 ^ 1 - 1 = 1 from rfl, Nat.pow_one, Nat.mod_eq_of_lt h]
theorem ones_exp (h : Nat) : (2 ^ h - 1) * 2 ^ h + (2 ^ h - 1) = 2 ^ (2 * h) - 1 := by
  have e : 2 ^ (2 * h) = 2 ^ h * 2 ^ h := by rw [← Nat.pow_add, Nat.two_mul]
  have p : 0 < 2 ^ h := Nat.pow_pos (by decide)
  rw [e]
  generalize 2 ^ h = x at *
  obtain ⟨y, rfl⟩ : ∃ y, x = y + 1 := ⟨x - 1, by omega⟩
  rw [Nat.add_sub_cancel, Nat.add_mul, Nat.mul_add]; omega
theorem ones_odd (h : Nat) : (2 ^ (2 * h) - 1 + (2 ^ (2 * h) - 1)) + 1 = 2 ^ (2 * h + 1) - 1 := by
  have p : 0 < 2 ^ (2 * h) := Nat.pow_pos (by decide)
  rw [Nat.pow_succ]; omega
set_option maxRecDepth 100000 in
theorem squares_ev (x n : Nat) (hx : x < fp) (hn : n ≤ 1000) : Meets Tryd.prog 101 [.agg64 (fl x), .i64 (n : Int)] [] (.agg64 (fl (x ^ (2 ^ n) % fp))) [] := by
  refine meets_of_ev (nt := 12) Tryd.func101 rfl rfl (Nat.le_of_ble_eq_true rfl) ?_
  refine .seq ?_
  refine .region ?_
  refine .a (op_boxRow rfl rfl) trivial rfl ?_
  refine .a (op_allocRow zero48 rel_zero48 rfl) trivial rfl ?_
  refine .nil ?_
  show Ev _ _ _ _ _
  refine .seq ?_
  refine .seq ?_
  refine .region ?_
  refine .q (op_move rfl) trivial rfl ?_
  refine .q (op_move rfl) trivial rfl ?_
  refine .nil ?_
  show Ev _ _ _ _ _
  refine .block ?_
  refine Ev.loop (ι := { j : Nat // j ≤ n }) (fun j => ⟨[(2, .ptr 1000 0), (4, .ptr 1008 0), (5, .i64 (n : Int)), (6, .i64 ((j.1 : Nat) : Int))], [(1000, some ⟨.agg64 (fl (x ^ (2 ^ j.1) % fp)), 48, true⟩), (1008, some ⟨.agg64 (List.replicate 4 0), 48, true⟩)], 1016⟩) (fun j => n - j.1) ⟨0, Nat.zero_le _⟩ (StLe.mk [(1000, 1000), (1008, 1008)] rfl rfl ⟨⟨_, rfl, by first | rfl | (simp only [AV.ren]; congr 1; omega), rfl⟩, ⟨_, rfl, by first | rfl | (simp only [AV.ren]; congr 1; omega), rfl⟩, ⟨_, rfl, by first | rfl | (simp only [AV.ren]; congr 1; omega), rfl⟩, ⟨_, rfl, by first | rfl | (simp only [AV.ren]; congr 1; omega), rfl⟩, trivial⟩ ⟨⟨_, _, rfl, rfl, by (show AV.agg64 (fl x) = _; exact congrArg (fun z => AV.agg64 (fl z)) (sq_start x hx)), rfl, id, rfl⟩, ⟨_, _, rfl, rfl, by first | rfl | (simp only [AV.ren]; congr 1; omega), rfl, id, rfl⟩, trivial⟩) ?_
  rintro ⟨j, hj⟩
  dsimp only
  refine .seq ?_
  refine .region ?_
  refine .q (op_cmpI rfl rfl rfl) trivial rfl ?_
  refine .nil ?_
  show Ev _ _ _ _ _
  refine .seq ?_
  refine .cond rfl (fun hc7 => ?_) (fun hc7 => ?_)
  · first | replace hc7 := of_decide_eq_true hc7 | replace hc7 := of_decide_eq_false hc7 | replace hc7 := eq_of_beq hc7 | replace hc7 := ne_of_beq_false hc7 | simp only [bne_iff_ne, ne_eq] at hc7 | simp only [bne_eq_false_iff_eq] at hc7
    refine .skip ?_
    show Ev _ _ _ _ _
    refine .seq ?_
    refine .block ?_
    refine .region ?_
    refine .q (op_loadRow Tryd.underlying48 rfl sz48 rfl rfl rfl (rfl)) trivial rfl ?_
    refine .q (op_call (U := []) [] [] (fsquare_ev _ (fmod_lt _)) Tryd.func56 (by kernel_rfl) rfl rfl rfl (⟨⟨_, rfl, rfl, rfl⟩, trivial⟩) (trivial) (trivial) (trivial) rfl) trivial rfl ?_
    refine .w (op_storeRow sz48 rfl rfl rfl rfl rfl (rfl) (rfl)) trivial rfl ?_
    refine .nil ?_
    show Ev _ _ _ _ _
    refine .region ?_
    refine .q (op_addI rfl rfl ⟨by first | omega | (simp only [AV.len]; omega) | (simp only [AV.len, List.length_set]; omega) | assumption | (simp [AV.len]; done), by first | omega | (simp only [AV.len]; omega) | (simp only [AV.len, List.length_set]; omega) | assumption | (simp [AV.len]; done)⟩) trivial rfl ?_
    refine .q (op_move rfl) trivial rfl ?_
    refine .nil ?_
    exact ⟨⟨j + 1, by omega⟩, by show n - (j + 1) < n - j; omega, StLe.mk [(1000, 1000), (1008, 1008)] rfl rfl ⟨⟨_, rfl, by first | rfl | (simp only [AV.ren]; congr 1; omega), rfl⟩, ⟨_, rfl, by first | rfl | (simp only [AV.ren]; congr 1; omega), rfl⟩, ⟨_, rfl, by first | rfl | (simp only [AV.ren]; congr 1; omega), rfl⟩, ⟨_, rfl, by first | rfl | (simp only [AV.ren]; congr 1; omega), rfl⟩, trivial⟩ ⟨⟨_, _, rfl, rfl, by exact congrArg (fun z => AV.agg64 (fl z)) (sq_step x j), rfl, id, rfl⟩, ⟨_, _, rfl, rfl, by first | rfl | (simp only [AV.ren]; congr 1; omega), rfl, id, rfl⟩, trivial⟩⟩
  · first | replace hc7 := of_decide_eq_true hc7 | replace hc7 := of_decide_eq_false hc7 | replace hc7 := eq_of_beq hc7 | replace hc7 := ne_of_beq_false hc7 | simp only [bne_iff_ne, ne_eq] at hc7 | simp only [bne_eq_false_iff_eq] at hc7
    refine .exit ?_
    show Ev _ _ _ _ _
    have ej : j = n := by omega
    refine Ev.weak (st2 := ⟨[(2, .ptr 1000 0), (4, .ptr 1008 0), (5, .i64 (n : Int)), (6, .i64 (((n) : Nat) : Int))], [(1000, some ⟨.agg64 (fl (x ^ (2 ^ (n)) % fp)), 48, true⟩), (1008, some ⟨.agg64 (List.replicate 4 0), 48, true⟩)], 1016⟩) (StLe.mk [(1000, 1000), (1008, 1008)] rfl rfl ⟨⟨_, rfl, by first | (simp only [AV.ren]; done) | (simp only [AV.ren]; rw [ej]; done) | rfl, rfl⟩, ⟨_, rfl, by first | (simp only [AV.ren]; done) | (simp only [AV.ren]; rw [ej]; done) | rfl, rfl⟩, ⟨_, rfl, by first | (simp only [AV.ren]; done) | (simp only [AV.ren]; rw [ej]; done) | rfl, rfl⟩, ⟨_, rfl, by first | (simp only [AV.ren]; done) | (simp only [AV.ren]; rw [ej]; done) | rfl, rfl⟩, trivial⟩ ⟨⟨_, _, rfl, rfl, by first | (simp only [AV.ren]; done) | (simp only [AV.ren]; rw [ej]; done) | rfl, rfl, id, rfl⟩, ⟨_, _, rfl, rfl, by first | (simp only [AV.ren]; done) | (simp only [AV.ren]; rw [ej]; done) | rfl, rfl, id, rfl⟩, trivial⟩) ?_
    refine .seq ?_
    refine .region ?_
    refine .q (op_loadRow Tryd.underlying48 rfl sz48 rfl rfl rfl (rfl)) trivial rfl ?_
    refine .w (op_storeRow sz48 rfl rfl rfl rfl rfl (rfl) (rfl)) trivial rfl ?_
    refine .nil ?_
    show Ev _ _ _ _ _
    refine .ret ?_
    show RetOk _ _ _ _ _ _ _
    exact retc1 rfl (.inl rfl) ⟨_, _, _, _, rfl, rfl, rfl, rfl, (rfl), Tryd.underlying48, rfl, sz48⟩ trivial
set_option maxRecDepth 100000 in
theorem ones_ev (a : Nat) (ha : a < fp) (n : Nat) (h1 : 1 ≤ n) (h2 : n ≤ 1000) : Meets Tryd.prog 102 [.agg64 (fl a), .i64 (n : Int)] [] (.agg64 (fl (a ^ (2 ^ n - 1) % fp))) [] := by
  revert h1 h2
  refine Nat.strongRecOn n ?_
  clear n
  intro n ih h1 h2
  refine meets_of_ev (nt := 28) Tryd.func102 rfl rfl (Nat.le_of_ble_eq_true rfl) ?_
  refine .seq ?_
  refine .region ?_
  refine .a (op_boxRow rfl rfl) trivial rfl ?_
  refine .a (op_allocRow zero48 rel_zero48 rfl) trivial rfl ?_
  refine .nil ?_
  show Ev _ _ _ _ _
  refine .seq ?_
  refine .seq ?_
  refine .region ?_
  refine .q (op_move rfl) trivial rfl ?_
  refine .q (op_cmpI rfl rfl rfl) trivial rfl ?_
  refine .nil ?_
  show Ev _ _ _ _ _
  refine .cond rfl (fun hc8 => ?_) (fun hc8 => ?_)
  · first | replace hc8 := of_decide_eq_true hc8 | replace hc8 := of_decide_eq_false hc8 | replace hc8 := eq_of_beq hc8 | replace hc8 := ne_of_beq_false hc8 | simp only [bne_iff_ne, ne_eq] at hc8 | simp only [bne_eq_false_iff_eq] at hc8
    refine .seq ?_
    refine .region ?_
    refine .q (op_loadRow Tryd.underlying48 rfl sz48 rfl rfl rfl (rfl)) trivial rfl ?_
    refine .w (op_storeRow sz48 rfl rfl rfl rfl rfl (rfl) (rfl)) trivial rfl ?_
    refine .nil ?_
    show Ev _ _ _ _ _
    refine .ret ?_
    show RetOk _ _ _ _ _ _ _
    first
      | (exact retc1 rfl (.inl rfl) ⟨_, _, _, _, rfl, rfl, rfl, rfl, (rfl), Tryd.underlying48, rfl, sz48⟩ trivial)
      | (refine Eq.mp (congrArg (fun z => RetOk _ _ _ (AV.agg64 (fl z)) _ _ _) (show a = a ^ (2 ^ n - 1) % fp by rw [show n = 1 by omega]; exact ones_start a ha)) ?_; exact retc1 rfl (.inl rfl) ⟨_, _, _, _, rfl, rfl, rfl, rfl, (rfl), Tryd.underlying48, rfl, sz48⟩ trivial)
      | (refine Eq.mp (congrArg (fun z => RetOk _ _ _ (AV.agg64 (fl (a ^ (2 ^ z - 1) % fp))) _ _ _) (show 2 * (n / 2) = n by omega)) ?_; exact retc1 rfl (.inl rfl) ⟨_, _, _, _, rfl, rfl, rfl, rfl, (rfl), Tryd.underlying48, rfl, sz48⟩ trivial)
  · first | replace hc8 := of_decide_eq_true hc8 | replace hc8 := of_decide_eq_false hc8 | replace hc8 := eq_of_beq hc8 | replace hc8 := ne_of_beq_false hc8 | simp only [bne_iff_ne, ne_eq] at hc8 | simp only [bne_eq_false_iff_eq] at hc8
    refine .skip ?_
    show Ev _ _ _ _ _
    refine .seq ?_
    refine .region ?_
    refine .q (op_loadRow Tryd.underlying48 rfl sz48 rfl rfl rfl (rfl)) trivial rfl ?_
    refine .q (op_move rfl) trivial rfl ?_
    refine .q (op_quoI rfl rfl ⟨by first | omega | (simp only [AV.len]; omega) | (simp only [AV.len, List.length_set]; omega) | assumption | (simp [AV.len]; done), ⟨by first | omega | (simp only [AV.len]; omega) | (simp only [AV.len, List.length_set]; omega) | assumption | (simp [AV.len]; done), by first | omega | (simp only [AV.len]; omega) | (simp only [AV.len, List.length_set]; omega) | assumption | (simp [AV.len]; done)⟩, by first | omega | (simp only [AV.len]; omega) | (simp only [AV.len, List.length_set]; omega) | assumption | (simp [AV.len]; done)⟩) trivial rfl ?_
    refine .as (.i64 ((n / 2 : Nat) : Int)) (congrArg AV.i64 (by omega)) ?_
    refine .q (op_call (U := []) [] [] (ih (n / 2) (by omega) (by omega) (by omega)) Tryd.func102 (by kernel_rfl) rfl rfl rfl (⟨⟨_, rfl, rfl, rfl⟩, ⟨_, rfl, rfl, rfl⟩, trivial⟩) (trivial) (trivial) (trivial) rfl) trivial rfl ?_
    refine .as (.agg64 (fl (a ^ (2 ^ (n / 2) - 1) % fp))) rfl ?_
    refine .a (op_allocRow zero48 rel_zero48 rfl) trivial rfl ?_
    refine .w (op_storeRow sz48 rfl rfl rfl rfl rfl (rfl) (rfl)) trivial rfl ?_
    refine .nil ?_
    show Ev _ _ _ _ _
    refine .seq ?_
    refine .drawn [[], [], [1], [0, 1, 2], [], [0, 1, 2, 3, 4], [], [0, 1, 2, 3, 4, 5, 6]] [0, 3, 4, 5, 6, 7] [7] (by kernel_rfl) (by kernel_rfl) rfl ?_
    show DK _ [0, 1, 2, 3, 4, 5, 6, 7] _ _ _
    refine .q rfl (op_loadRow Tryd.underlying48 rfl sz48 rfl rfl rfl (rfl)) trivial ?_
    refine .q rfl (op_move rfl) trivial ?_
    refine .q rfl (op_quoI rfl rfl ⟨by first | omega | (simp only [AV.len]; omega) | (simp only [AV.len, List.length_set]; omega) | assumption | (simp [AV.len]; done), ⟨by first | omega | (simp only [AV.len]; omega) | (simp only [AV.len, List.length_set]; omega) | assumption | (simp [AV.len]; done), by first | omega | (simp only [AV.len]; omega) | (simp only [AV.len, List.length_set]; omega) | assumption | (simp [AV.len]; done)⟩, by first | omega | (simp only [AV.len]; omega) | (simp only [AV.len, List.length_set]; omega) | assumption | (simp [AV.len]; done)⟩) trivial ?_
    refine .as (.i64 ((n / 2 : Nat) : Int)) (congrArg AV.i64 (by omega)) ?_
    refine .q rfl (op_call (U := []) [] [] (squares_ev (a ^ (2 ^ (n / 2) - 1) % fp) (n / 2) (fmod_lt _) (by omega)) Tryd.func101 (by kernel_rfl) rfl rfl rfl (⟨⟨_, rfl, rfl, rfl⟩, ⟨_, rfl, rfl, rfl⟩, trivial⟩) (trivial) (trivial) (trivial) rfl) trivial ?_
    refine .as (.agg64 (fl (a ^ ((2 ^ (n / 2) - 1) * 2 ^ (n / 2)) % fp))) (congrArg (fun z => AV.agg64 (fl z)) (pw_pow a _ _)) ?_
    refine .q rfl (op_loadRow Tryd.underlying48 rfl sz48 rfl rfl rfl (rfl)) trivial ?_
    refine .q rfl (op_call (U := []) [] [] (fmul_ev _ _ (fmod_lt _) (fmod_lt _)) Tryd.func38 (by kernel_rfl) rfl rfl rfl (⟨⟨_, rfl, rfl, rfl⟩, ⟨_, rfl, rfl, rfl⟩, trivial⟩) (trivial) (trivial) (trivial) rfl) trivial ?_
    refine .as (.agg64 (fl (a ^ (2 ^ (2 * (n / 2)) - 1) % fp))) (congrArg (fun z => AV.agg64 (fl z)) (by rw [pw_add, ones_exp])) ?_
    refine .a rfl (op_allocRow zero48 rel_zero48 rfl) trivial rfl rfl ?_
    refine .w rfl (op_storeRow sz48 rfl rfl rfl rfl rfl (rfl) (rfl)) trivial rfl rfl ?_
    refine .nil ?_
    show Ev _ _ _ _ _
    refine .seq ?_
    refine .seq ?_
    refine .region ?_
    refine .q (op_move rfl) trivial rfl ?_
    refine .q (op_remI rfl rfl ⟨by first | omega | (simp only [AV.len]; omega) | (simp only [AV.len, List.length_set]; omega) | assumption | (simp [AV.len]; done), by first | omega | (simp only [AV.len]; omega) | (simp only [AV.len, List.length_set]; omega) | assumption | (simp [AV.len]; done)⟩) trivial rfl ?_
    refine .q (op_cmpI rfl rfl rfl) trivial rfl ?_
    refine .nil ?_
    show Ev _ _ _ _ _
    refine .cond rfl (fun hc22 => ?_) (fun hc22 => ?_)
    · first | replace hc22 := of_decide_eq_true hc22 | replace hc22 := of_decide_eq_false hc22 | replace hc22 := eq_of_beq hc22 | replace hc22 := ne_of_beq_false hc22 | simp only [bne_iff_ne, ne_eq] at hc22 | simp only [bne_eq_false_iff_eq] at hc22
      refine .drawn [[], [0], [], [0, 1, 2], [0, 1, 2, 3]] [0, 1, 2, 3, 4] [4] (by kernel_rfl) (by kernel_rfl) rfl ?_
      show DK _ [0, 1, 2, 3, 4] _ _ _
      refine .q rfl (op_loadRow Tryd.underlying48 rfl sz48 rfl rfl rfl (rfl)) trivial ?_
      refine .q rfl (op_call (U := []) [] [] (fsquare_ev _ (fmod_lt _)) Tryd.func56 (by kernel_rfl) rfl rfl rfl (⟨⟨_, rfl, rfl, rfl⟩, trivial⟩) (trivial) (trivial) (trivial) rfl) trivial ?_
      refine .as (.agg64 (fl (a ^ ((2 ^ (2 * (n / 2)) - 1) + (2 ^ (2 * (n / 2)) - 1)) % fp))) (congrArg (fun z => AV.agg64 (fl z)) (pw_add a _ _)) ?_
      refine .q rfl (op_loadRow Tryd.underlying48 rfl sz48 rfl rfl rfl (rfl)) trivial ?_
      refine .q rfl (op_call (U := []) [] [] (fmul_ev _ _ (fmod_lt _) ha) Tryd.func38 (by kernel_rfl) rfl rfl rfl (⟨⟨_, rfl, rfl, rfl⟩, ⟨_, rfl, rfl, rfl⟩, trivial⟩) (trivial) (trivial) (trivial) rfl) trivial ?_
      refine .as (.agg64 (fl (a ^ (2 ^ n - 1) % fp))) (congrArg (fun z => AV.agg64 (fl z)) (by rw [pw_add1, ones_odd, show 2 * (n / 2) + 1 = n by omega])) ?_
      refine .w rfl (op_storeRow sz48 rfl rfl rfl rfl rfl (rfl) (rfl)) trivial rfl rfl ?_
      refine .nil ?_
      show Ev _ _ _ _ _
      refine .seq ?_
      refine .region ?_
      refine .q (op_loadRow Tryd.underlying48 rfl sz48 rfl rfl rfl (rfl)) trivial rfl ?_
      refine .w (op_storeRow sz48 rfl rfl rfl rfl rfl (rfl) (rfl)) trivial rfl ?_
      refine .nil ?_
      show Ev _ _ _ _ _
      refine .ret ?_
      show RetOk _ _ _ _ _ _ _
      first
        | (exact retc1 rfl (.inl rfl) ⟨_, _, _, _, rfl, rfl, rfl, rfl, (rfl), Tryd.underlying48, rfl, sz48⟩ trivial)
        | (refine Eq.mp (congrArg (fun z => RetOk _ _ _ (AV.agg64 (fl z)) _ _ _) (show a = a ^ (2 ^ n - 1) % fp by rw [show n = 1 by omega]; exact ones_start a ha)) ?_; exact retc1 rfl (.inl rfl) ⟨_, _, _, _, rfl, rfl, rfl, rfl, (rfl), Tryd.underlying48, rfl, sz48⟩ trivial)
        | (refine Eq.mp (congrArg (fun z => RetOk _ _ _ (AV.agg64 (fl (a ^ (2 ^ z - 1) % fp))) _ _ _) (show 2 * (n / 2) = n by omega)) ?_; exact retc1 rfl (.inl rfl) ⟨_, _, _, _, rfl, rfl, rfl, rfl, (rfl), Tryd.underlying48, rfl, sz48⟩ trivial)
    · first | replace hc22 := of_decide_eq_true hc22 | replace hc22 := of_decide_eq_false hc22 | replace hc22 := eq_of_beq hc22 | replace hc22 := ne_of_beq_false hc22 | simp only [bne_iff_ne, ne_eq] at hc22 | simp only [bne_eq_false_iff_eq] at hc22
      refine .skip ?_
      show Ev _ _ _ _ _
      refine .seq ?_
      refine .region ?_
      refine .q (op_loadRow Tryd.underlying48 rfl sz48 rfl rfl rfl (rfl)) trivial rfl ?_
      refine .w (op_storeRow sz48 rfl rfl rfl rfl rfl (rfl) (rfl)) trivial rfl ?_
      refine .nil ?_
      show Ev _ _ _ _ _
      refine .ret ?_
      show RetOk _ _ _ _ _ _ _
      first
        | (exact retc1 rfl (.inl rfl) ⟨_, _, _, _, rfl, rfl, rfl, rfl, (rfl), Tryd.underlying48, rfl, sz48⟩ trivial)
        | (refine Eq.mp (congrArg (fun z => RetOk _ _ _ (AV.agg64 (fl z)) _ _ _) (show a = a ^ (2 ^ n - 1) % fp by rw [show n = 1 by omega]; exact ones_start a ha)) ?_; exact retc1 rfl (.inl rfl) ⟨_, _, _, _, rfl, rfl, rfl, rfl, (rfl), Tryd.underlying48, rfl, sz48⟩ trivial)
        | (refine Eq.mp (congrArg (fun z => RetOk _ _ _ (AV.agg64 (fl (a ^ (2 ^ z - 1) % fp))) _ _ _) (show 2 * (n / 2) = n by omega)) ?_; exact retc1 rfl (.inl rfl) ⟨_, _, _, _, rfl, rfl, rfl, rfl, (rfl), Tryd.underlying48, rfl, sz48⟩ trivial)
theorem ones_gen (a : Nat) (ha : a < fp) (n : Nat) (h1 : 1 ≤ n) (h2 : n ≤ 1000) (e0 : Nat) (h0 : 2 ^ n - 1 = e0) : Meets Tryd.prog 102 [.agg64 (fl a), .i64 (n : Int)] [] (.agg64 (fl (a ^ e0 % fp))) [] := h0 ▸ ones_ev a ha n h1 h2
theorem pw_powE (a m k e : Nat) (h : m * k = e) : (a ^ m % fp) ^ k % fp = a ^ e % fp := by rw [pw_pow, h]
theorem pw_addE (a m k e : Nat) (h : m + k = e) : (a ^ m % fp) * (a ^ k % fp) % fp = a ^ e % fp := by rw [pw_add, h]
theorem inv_exp : (2 ^ 250 - 1) * 2 ^ 5 + ((1 + 1) * 2 ^ 2 + (1 + 1) + 1) = fp - 2 := by decide +kernel
theorem root_exp : (2 ^ 250 - 1) * 2 ^ 2 + 1 = (fp - 5) / 8 := by decide +kernel
set_option maxRecDepth 100000 in
theorem finvert_gen (a : Nat) (ha : a < fp) (e0 e1 e2 : Nat) (h0 : 2 ^ 250 - 1 = e0) (h1 : e0 * 2 ^ 5 = e1) (h2 : e1 + ((1 + 1) * 2 ^ 2 + (1 + 1) + 1) = e2) : Meets Tryd.prog 40 [.agg64 (fl a)] [] (.agg64 (fl (a ^ e2 % fp))) [] := by
  refine meets_of_ev (nt := 18) Tryd.func40 rfl rfl (Nat.le_of_ble_eq_true rfl) ?_
  refine .seq ?_
  refine .region ?_
  refine .a (op_boxRow rfl rfl) trivial rfl ?_
  refine .a (op_allocRow zero48 rel_zero48 rfl) trivial rfl ?_
  refine .nil ?_
  show Ev _ _ _ _ _
  refine .seq ?_
  refine .region ?_
  refine .q (op_loadRow Tryd.underlying48 rfl sz48 rfl rfl rfl (rfl)) trivial rfl ?_
  refine .q (op_call (U := []) [] [] (fsquare_ev a ha) Tryd.func56 (by kernel_rfl) rfl rfl rfl (⟨⟨_, rfl, rfl, rfl⟩, trivial⟩) (trivial) (trivial) (trivial) rfl) trivial rfl ?_
  refine .as (.agg64 (fl (a ^ (1 + 1) % fp))) (congrArg (fun z => AV.agg64 (fl z)) (by rw [Nat.pow_succ, Nat.pow_one])) ?_
  refine .a (op_allocRow zero48 rel_zero48 rfl) trivial rfl ?_
  refine .w (op_storeRow sz48 rfl rfl rfl rfl rfl (rfl) (rfl)) trivial rfl ?_
  refine .nil ?_
  show Ev _ _ _ _ _
  refine .seq ?_
  refine .drawn [[], [0], [], [0, 1, 2], [], [0, 1, 2, 3, 4], [], [0, 1, 2, 3, 4, 5, 6]] [0, 1, 2, 3, 4, 5, 6, 7] [7] (by kernel_rfl) (by kernel_rfl) rfl ?_
  show DK _ [0, 1, 2, 3, 4, 5, 6, 7] _ _ _
  refine .q rfl (op_loadRow Tryd.underlying48 rfl sz48 rfl rfl rfl (rfl)) trivial ?_
  refine .q rfl (op_call (U := []) [] [] (squares_ev (a ^ (1 + 1) % fp) 2 (fmod_lt _) (by decide)) Tryd.func101 (by kernel_rfl) rfl rfl rfl (⟨⟨_, rfl, rfl, rfl⟩, ⟨_, rfl, rfl, rfl⟩, trivial⟩) (trivial) (trivial) (trivial) rfl) trivial ?_
  refine .as (.agg64 (fl (a ^ ((1 + 1) * 2 ^ 2) % fp))) (congrArg (fun z => AV.agg64 (fl z)) (pw_pow a _ _)) ?_
  refine .q rfl (op_loadRow Tryd.underlying48 rfl sz48 rfl rfl rfl (rfl)) trivial ?_
  refine .q rfl (op_call (U := []) [] [] (fmul_ev _ _ (fmod_lt _) (fmod_lt _)) Tryd.func38 (by kernel_rfl) rfl rfl rfl (⟨⟨_, rfl, rfl, rfl⟩, ⟨_, rfl, rfl, rfl⟩, trivial⟩) (trivial) (trivial) (trivial) rfl) trivial ?_
  refine .as (.agg64 (fl (a ^ ((1 + 1) * 2 ^ 2 + (1 + 1)) % fp))) (congrArg (fun z => AV.agg64 (fl z)) (pw_add a _ _)) ?_
  refine .q rfl (op_loadRow Tryd.underlying48 rfl sz48 rfl rfl rfl (rfl)) trivial ?_
  refine .q rfl (op_call (U := []) [] [] (fmul_ev _ _ (fmod_lt _) ha) Tryd.func38 (by kernel_rfl) rfl rfl rfl (⟨⟨_, rfl, rfl, rfl⟩, ⟨_, rfl, rfl, rfl⟩, trivial⟩) (trivial) (trivial) (trivial) rfl) trivial ?_
  refine .as (.agg64 (fl (a ^ ((1 + 1) * 2 ^ 2 + (1 + 1) + 1) % fp))) (congrArg (fun z => AV.agg64 (fl z)) (pw_add1 a _)) ?_
  refine .a rfl (op_allocRow zero48 rel_zero48 rfl) trivial rfl rfl ?_
  refine .w rfl (op_storeRow sz48 rfl rfl rfl rfl rfl (rfl) (rfl)) trivial rfl rfl ?_
  refine .nil ?_
  show Ev _ _ _ _ _
  refine .seq ?_
  refine .drawn [[], [0], [0, 1], [], [0, 1, 2, 3], [0, 1, 2, 3, 4]] [0, 1, 2, 3, 4, 5] [5] (by kernel_rfl) (by kernel_rfl) rfl ?_
  show DK _ [0, 1, 2, 3, 4, 5] _ _ _
  refine .q rfl (op_loadRow Tryd.underlying48 rfl sz48 rfl rfl rfl (rfl)) trivial ?_
  refine .q rfl (op_call (U := []) [] [] (ones_gen a ha 250 (by decide) (by decide) e0 h0) Tryd.func102 (by kernel_rfl) rfl rfl rfl (⟨⟨_, rfl, rfl, rfl⟩, ⟨_, rfl, rfl, rfl⟩, trivial⟩) (trivial) (trivial) (trivial) rfl) trivial ?_
  refine .as (.agg64 (fl (a ^ e0 % fp))) rfl ?_
  refine .q rfl (op_call (U := []) [] [] (squares_ev (a ^ e0 % fp) 5 (fmod_lt _) (by decide)) Tryd.func101 (by kernel_rfl) rfl rfl rfl (⟨⟨_, rfl, rfl, rfl⟩, ⟨_, rfl, rfl, rfl⟩, trivial⟩) (trivial) (trivial) (trivial) rfl) trivial ?_
  refine .as (.agg64 (fl (a ^ e1 % fp))) (congrArg (fun z => AV.agg64 (fl z)) (pw_powE a _ _ _ h1)) ?_
  refine .q rfl (op_loadRow Tryd.underlying48 rfl sz48 rfl rfl rfl (rfl)) trivial ?_
  refine .q rfl (op_call (U := []) [] [] (fmul_ev _ _ (fmod_lt _) (fmod_lt _)) Tryd.func38 (by kernel_rfl) rfl rfl rfl (⟨⟨_, rfl, rfl, rfl⟩, ⟨_, rfl, rfl, rfl⟩, trivial⟩) (trivial) (trivial) (trivial) rfl) trivial ?_
  refine .as (.agg64 (fl (a ^ e2 % fp))) (congrArg (fun z => AV.agg64 (fl z)) (pw_addE a _ _ _ h2)) ?_
  refine .w rfl (op_storeRow sz48 rfl rfl rfl rfl rfl (rfl) (rfl)) trivial rfl rfl ?_
  refine .nil ?_
  show Ev _ _ _ _ _
  refine .ret ?_
  show RetOk _ _ _ _ _ _ _
  exact retc1 rfl (.inl rfl) ⟨_, _, _, _, rfl, rfl, rfl, rfl, (rfl), Tryd.underlying48, rfl, sz48⟩ trivial
theorem finvert_ev (a : Nat) (ha : a < fp) : Meets Tryd.prog 40 [.agg64 (fl a)] [] (.agg64 (fl (a ^ (fp - 2) % fp))) [] := finvert_gen a ha _ _ _ rfl rfl inv_exp
end Go.Proofs.YtmnhifagkcmhjaaDoor
namespace Go.Proofs.YtmnhifagkcmhjaaDoor
open Go.RowKit
theorem ff_eq : ofV (List.replicate 32 255) = 18 := by decide +kernel
theorem rep_ff (j : Nat) : List.replicate j (255 : UInt8) ++ [255] = List.replicate (j + 1) 255 := (List.replicate_succ' ..).symm
theorem ring_dist (a b c p : Nat) : a * ((b + c) % p) % p = (a * b % p + a * c % p) % p := by simp [Nat.mul_add]
theorem ring_assoc (a b c p : Nat) : (a * b % p) * c % p = a * (b * c % p) % p := by simp [Nat.mul_assoc]
theorem ring_comm (a b p : Nat) : a * b % p = b * a % p := by rw [Nat.mul_comm]
theorem ring_back (a b p : Nat) (ha : a < p) (hb : b < p) : ((a + (p - b)) % p + b) % p = a := by
  rw [Nat.mod_add_mod, show a + (p - b) + b = a + p by omega, Nat.add_mod_right, Nat.mod_eq_of_lt ha]
theorem ring_turn (a b c p : Nat) : ((a + b) % p + c) % p = ((c + b) % p + a) % p := by
  rw [Nat.mod_add_mod, Nat.mod_add_mod, show a + b + c = c + b + a by omega]
theorem ring_one (a p : Nat) (ha : a < p) : a * 1 % p = a := by rw [Nat.mul_one, Nat.mod_eq_of_lt ha]
theorem ring_zero (a p : Nat) (ha : a < p) : (a + (p - a)) % p = 0 := by rw [show a + (p - a) = p by omega, Nat.mod_self]
set_option maxRecDepth 100000 in
theorem awake5_ev  : Meets Tryd.prog 50 [] [] (.bool true) [] := by
  refine meets_of_ev (nt := 26) Tryd.func50 rfl rfl (Nat.le_of_ble_eq_true rfl) ?_
  refine .seq ?_
  refine .region ?_
  refine .q (op_assign rfl) trivial rfl ?_
  refine .nil ?_
  show Ev _ _ _ _ _
  refine .seq ?_
  refine .region ?_
  refine .q (op_assign rfl) trivial rfl ?_
  refine .nil ?_
  show Ev _ _ _ _ _
  refine .seq ?_
  refine .seq ?_
  refine .region ?_
  refine .q (op_move rfl) trivial rfl ?_
  refine .nil ?_
  show Ev _ _ _ _ _
  refine .block ?_
  refine Ev.loop (ι := { j : Nat // j ≤ 32 }) (fun j => ⟨[(0, .bool false), (1, .str (List.replicate j.1 255)), (3, .i64 ((j.1 : Nat) : Int))], [], 1000⟩) (fun j => 32 - j.1) ⟨0, Nat.zero_le _⟩ (StLe.mk [] rfl rfl ⟨⟨_, rfl, by first | rfl | (simp only [AV.ren]; congr 1; omega), rfl⟩, ⟨_, rfl, by first | rfl | (simp only [AV.ren]; congr 1; omega), rfl⟩, ⟨_, rfl, by first | rfl | (simp only [AV.ren]; congr 1; omega), rfl⟩, trivial⟩ trivial) ?_
  rintro ⟨j, hj⟩
  dsimp only
  have hlr : (List.replicate j (255 : UInt8)).length = j := List.length_replicate
  refine .seq ?_
  refine .region ?_
  refine .q (op_cmpI rfl rfl rfl) trivial rfl ?_
  refine .nil ?_
  show Ev _ _ _ _ _
  refine .seq ?_
  refine .cond rfl (fun hc4 => ?_) (fun hc4 => ?_)
  · first | replace hc4 := of_decide_eq_true hc4 | replace hc4 := of_decide_eq_false hc4 | replace hc4 := eq_of_beq hc4 | replace hc4 := ne_of_beq_false hc4 | simp only [bne_iff_ne, ne_eq] at hc4 | simp only [bne_eq_false_iff_eq] at hc4
    refine .skip ?_
    show Ev _ _ _ _ _
    refine .seq ?_
    refine .block ?_
    refine .region ?_
    refine .q (op_move rfl) trivial rfl ?_
    refine .q (op_addS rfl rfl (by rw [hlr]; simp; omega)) trivial rfl ?_
    refine .q (op_assign rfl) trivial rfl ?_
    refine .nil ?_
    show Ev _ _ _ _ _
    refine .region ?_
    refine .q (op_addI rfl rfl ⟨by first | omega | (simp only [AV.len]; omega) | (simp only [AV.len, List.length_set]; omega) | assumption | (simp [AV.len]; done), by first | omega | (simp only [AV.len]; omega) | (simp only [AV.len, List.length_set]; omega) | assumption | (simp [AV.len]; done)⟩) trivial rfl ?_
    refine .q (op_move rfl) trivial rfl ?_
    refine .nil ?_
    exact ⟨⟨j + 1, by omega⟩, by show 32 - (j + 1) < 32 - j; omega, StLe.mk [] rfl rfl ⟨⟨_, rfl, by first | rfl | (simp only [AV.ren]; congr 1; omega), rfl⟩, ⟨_, rfl, by (simp only [AV.ren]; rw [← rep_ff]), rfl⟩, ⟨_, rfl, by first | rfl | (simp only [AV.ren]; congr 1; omega), rfl⟩, trivial⟩ trivial⟩
  · first | replace hc4 := of_decide_eq_true hc4 | replace hc4 := of_decide_eq_false hc4 | replace hc4 := eq_of_beq hc4 | replace hc4 := ne_of_beq_false hc4 | simp only [bne_iff_ne, ne_eq] at hc4 | simp only [bne_eq_false_iff_eq] at hc4
    refine .exit ?_
    show Ev _ _ _ _ _
    have ej : j = 32 := by omega
    refine Ev.weak (st2 := ⟨[(0, .bool false), (1, .str (List.replicate (32) 255)), (3, .i64 (((32) : Nat) : Int))], [], 1000⟩) (StLe.mk [] rfl rfl ⟨⟨_, rfl, by first | (simp only [AV.ren]; done) | (simp only [AV.ren]; rw [ej]; done) | rfl, rfl⟩, ⟨_, rfl, by first | (simp only [AV.ren]; done) | (simp only [AV.ren]; rw [ej]; done) | rfl, rfl⟩, ⟨_, rfl, by first | (simp only [AV.ren]; done) | (simp only [AV.ren]; rw [ej]; done) | rfl, rfl⟩, trivial⟩ trivial) ?_
    refine .seq ?_
    refine .region ?_
    refine .q (op_move rfl) trivial rfl ?_
    refine .q (op_call (U := []) [] [] (fof_ev (List.replicate 32 255) (by simp)) Tryd.func35 (by kernel_rfl) rfl rfl rfl (⟨⟨_, rfl, rfl, rfl⟩, trivial⟩) (trivial) (trivial) (trivial) rfl) trivial rfl ?_
    refine .as (.agg64 (fl 18)) (congrArg (fun x => AV.agg64 (fl x)) ff_eq) ?_
    refine .q (op_call (U := []) [] [] (fbytes_ev _) Tryd.func41 (by kernel_rfl) rfl rfl rfl (⟨⟨_, rfl, rfl, rfl⟩, trivial⟩) (trivial) (trivial) (trivial) rfl) trivial rfl ?_
    refine .as (.aggB (bsN 18 32)) rfl ?_
    refine .a (op_allocRow zero24 rel_zero24 rfl) trivial rfl ?_
    refine .w (op_storeRow sz24 rfl rfl rfl rfl rfl (by first | rfl | simp [AV.len, length_bsN]) (by first | rfl | simp [AV.len, length_bsN])) trivial rfl ?_
    refine .nil ?_
    show Ev _ _ _ _ _
    refine .seq ?_
    refine .region ?_
    refine .q (op_loadRow Tryd.underlying24 rfl sz24 rfl rfl rfl (length_bsN 18 32)) trivial rfl ?_
    refine .q (op_buildArr (us := [(0, _)]) Tryd.underlying24 inf5.sz zero24 rel_zero24 rfl (by decide) ⟨rfl, rfl, rfl, trivial⟩ rfl) trivial rfl ?_
    refine .as (.aggB (bsN 18 32)) rfl ?_
    refine .q (op_eqRow8 (n := 32) (by kernel_rfl) Tryd.underlying24 Tryd.underlying5 inf5.sz rfl rfl (length_bsN 18 32) (length_bsN 18 32)) trivial rfl ?_
    refine .q (op_move rfl) trivial rfl ?_
    refine .know (b' := true) (by simp) ?_
    refine .q (op_call (U := []) [] [] (fsmall_ev _) Tryd.func36 (by kernel_rfl) rfl rfl rfl (⟨⟨_, rfl, rfl, rfl⟩, trivial⟩) (trivial) (trivial) (trivial) rfl) ⟨_, rfl, rfl⟩ rfl ?_
    refine .as (.agg64 (fl 6)) rfl ?_
    refine .q (op_call (U := []) [] [] (fsmall_ev _) Tryd.func36 (by kernel_rfl) rfl rfl rfl (⟨⟨_, rfl, rfl, rfl⟩, trivial⟩) (trivial) (trivial) (trivial) rfl) ⟨_, rfl, rfl⟩ rfl ?_
    refine .as (.agg64 (fl 2)) rfl ?_
    refine .q (op_call (U := []) [] [] (fsmall_ev _) Tryd.func36 (by kernel_rfl) rfl rfl rfl (⟨⟨_, rfl, rfl, rfl⟩, trivial⟩) (trivial) (trivial) (trivial) rfl) ⟨_, rfl, rfl⟩ rfl ?_
    refine .as (.agg64 (fl 3)) rfl ?_
    refine .q (op_call (U := []) [] [] (fmul_ev _ _ (by first | assumption | exact fmod_lt _ | exact ofV_lt _ | exact fp_pos | decide) (by first | assumption | exact fmod_lt _ | exact ofV_lt _ | exact fp_pos | decide)) Tryd.func38 (by kernel_rfl) rfl rfl rfl (⟨⟨_, rfl, rfl, rfl⟩, ⟨_, rfl, rfl, rfl⟩, trivial⟩) (trivial) (trivial) (trivial) rfl) ⟨_, rfl, rfl⟩ rfl ?_
    refine .as (.agg64 (fl 6)) rfl ?_
    refine .q (op_call (U := []) [] [] (fsame_ev _ _ (by first | assumption | exact fmod_lt _ | exact ofV_lt _ | exact fp_pos | decide) (by first | assumption | exact fmod_lt _ | exact ofV_lt _ | exact fp_pos | decide)) Tryd.func58 (by kernel_rfl) rfl rfl rfl (⟨⟨_, rfl, rfl, rfl⟩, ⟨_, rfl, rfl, rfl⟩, trivial⟩) (trivial) (trivial) (trivial) rfl) ⟨_, rfl, rfl⟩ rfl ?_
    refine .q (op_pick_true rfl rfl rfl) trivial rfl ?_
    refine .q (op_move rfl) trivial rfl ?_
    refine .know (b' := true) (by decide) ?_
    refine .q (op_call (U := []) [] [] (fsmall_ev _) Tryd.func36 (by kernel_rfl) rfl rfl rfl (⟨⟨_, rfl, rfl, rfl⟩, trivial⟩) (trivial) (trivial) (trivial) rfl) ⟨_, rfl, rfl⟩ rfl ?_
    refine .as (.agg64 (fl 1)) rfl ?_
    refine .q (op_call (U := []) [] [] (fzero_ev _ (by first | assumption | exact fmod_lt _ | exact ofV_lt _ | exact fp_pos | decide)) Tryd.func42 (by kernel_rfl) rfl rfl rfl (⟨⟨_, rfl, rfl, rfl⟩, trivial⟩) (trivial) (trivial) (trivial) rfl) ⟨_, rfl, rfl⟩ rfl ?_
    refine .q (op_notB rfl) ⟨_, rfl, rfl⟩ rfl ?_
    refine .q (op_pick_true rfl rfl rfl) trivial rfl ?_
    refine .q (op_assign rfl) trivial rfl ?_
    refine .nil ?_
    show Ev _ _ _ _ _
    refine .ret ?_
    show RetOk _ _ _ _ _ _ _
    exact ret1v rfl (.inl rfl) rfl rfl trivial
end Go.Proofs.YtmnhifagkcmhjaaDoor
namespace Go.Proofs.YtmnhifagkcmhjaaDoor
open Go.RowKit
set_option maxRecDepth 100000 in
theorem csum_ev (e x1 z1 x2 z2 x : Nat) (h1 : x1 < fp) (h2 : z1 < fp) (h3 : x2 < fp) (h4 : z2 < fp) (h5 : x < fp) : Meets Tryd.prog 149 [.agg64 (fl x1 ++ fl z1), .agg64 (fl x2 ++ fl z2), .agg64 (fl x)] (HP e) (.agg64 (fl (csX x1 z1 x2 z2) ++ fl (csZ x x1 z1 x2 z2))) [] := by
  refine meets_of_ev (nt := 34) Tryd.func149 rfl rfl (Nat.le_of_ble_eq_true rfl) ?_
  refine .seq ?_
  refine .region ?_
  refine .a (op_boxRow rfl rfl) trivial rfl ?_
  refine .a (op_boxRow rfl rfl) trivial rfl ?_
  refine .a (op_boxRow rfl rfl) trivial rfl ?_
  refine .a (op_allocRow zero171 rel_zero171 rfl) trivial rfl ?_
  refine .nil ?_
  show Ev _ _ _ _ _
  refine .seq ?_
  refine .drawn [[], [0], [], [2], [0, 1, 2, 3], [], [5], [], [7], [0, 1, 2, 3, 4, 5, 6, 7, 8], [0, 1, 2, 3, 4, 5, 6, 7, 8, 9], [0, 1, 2, 3, 4, 5, 6, 7, 8, 9, 10], [], [], [13], [], [15], [0, 1, 2, 3, 4, 5, 6, 7, 8, 9, 10, 11, 13, 14, 15, 16], [], [18], [], [20], [0, 1, 2, 3, 4, 5, 6, 7, 8, 9, 10, 11, 13, 14, 15, 16, 17, 18, 19, 20, 21], [0, 1, 2, 3, 4, 5, 6, 7, 8, 9, 10, 11, 13, 14, 15, 16, 17, 18, 19, 20, 21, 22], [0, 1, 2, 3, 4, 5, 6, 7, 8, 9, 10, 11, 13, 14, 15, 16, 17, 18, 19, 20, 21, 22, 23], [0, 1, 2, 3, 4, 5, 6, 7, 8, 9, 10, 11, 12, 13, 14, 15, 16, 17, 18, 19, 20, 21, 22, 23, 24], [0, 1, 2, 3, 4, 5, 6, 7, 8, 9, 10, 11, 12, 13, 14, 15, 16, 17, 18, 19, 20, 21, 22, 23, 24, 25], [0, 1, 2, 3, 4, 5, 6, 7, 8, 9, 10, 11, 12, 13, 14, 15, 16, 17, 18, 19, 20, 21, 22, 23, 24, 25, 26]] [1, 3, 4, 6, 8, 9, 10, 11, 12, 14, 16, 17, 19, 21, 22, 23, 24, 25, 27] [27] (by kernel_rfl) (by kernel_rfl) rfl ?_
  show DK _ [0, 1, 2, 3, 4, 5, 6, 7, 8, 9, 10, 11, 12, 13, 14, 15, 16, 17, 18, 19, 20, 21, 22, 23, 24, 25, 26, 27] _ _ _
  refine .q rfl (op_fieldAddr (m := 3) Tryd.underlying171 rfl sz48 rfl) trivial ?_
  refine .q rfl (op_loadPart (r := .agg64 (fl (x1))) (cs := (fl (x1)).map AV.u64) Tryd.underlying48 rfl sz48 rfl rfl rfl rfl rfl (Nat.le_of_ble_eq_true rfl)) trivial ?_
  refine .q rfl (op_fieldAddr (m := 3) Tryd.underlying171 rfl sz48 rfl) trivial ?_
  refine .q rfl (op_loadPart (r := .agg64 (fl (x2))) (cs := (fl (x2)).map AV.u64) Tryd.underlying48 rfl sz48 rfl rfl rfl rfl rfl (Nat.le_of_ble_eq_true rfl)) trivial ?_
  refine .q rfl (op_call (U := []) [] [] (fmul_ev _ _ (by first | assumption | exact fmod_lt _ | exact hb.1 | exact hb.2.1 | decide) (by first | assumption | exact fmod_lt _ | exact hb.1 | exact hb.2.1 | decide)) Tryd.func38 (by kernel_rfl) rfl rfl rfl (⟨⟨_, rfl, rfl, rfl⟩, ⟨_, rfl, rfl, rfl⟩, trivial⟩) (trivial) (trivial) (trivial) rfl) trivial ?_
  refine .q rfl (op_fieldAddr (m := 3) Tryd.underlying171 rfl sz48 rfl) trivial ?_
  refine .q rfl (op_loadPart (r := .agg64 (fl (z1))) (cs := (fl (z1)).map AV.u64) Tryd.underlying48 rfl sz48 rfl rfl rfl rfl rfl (Nat.le_of_ble_eq_true rfl)) trivial ?_
  refine .q rfl (op_fieldAddr (m := 3) Tryd.underlying171 rfl sz48 rfl) trivial ?_
  refine .q rfl (op_loadPart (r := .agg64 (fl (z2))) (cs := (fl (z2)).map AV.u64) Tryd.underlying48 rfl sz48 rfl rfl rfl rfl rfl (Nat.le_of_ble_eq_true rfl)) trivial ?_
  refine .q rfl (op_call (U := []) [] [] (fmul_ev _ _ (by first | assumption | exact fmod_lt _ | exact hb.1 | exact hb.2.1 | decide) (by first | assumption | exact fmod_lt _ | exact hb.1 | exact hb.2.1 | decide)) Tryd.func38 (by kernel_rfl) rfl rfl rfl (⟨⟨_, rfl, rfl, rfl⟩, ⟨_, rfl, rfl, rfl⟩, trivial⟩) (trivial) (trivial) (trivial) rfl) trivial ?_
  refine .q rfl (op_call (U := []) [] [] (fsub_ev e _ _ (by first | assumption | exact fmod_lt _ | exact hb.1 | exact hb.2.1 | decide) (by first | assumption | exact fmod_lt _ | exact hb.1 | exact hb.2.1 | decide)) Tryd.func39 (by kernel_rfl) rfl rfl rfl (⟨⟨_, rfl, rfl, rfl⟩, ⟨_, rfl, rfl, rfl⟩, trivial⟩) (⟨⟨_, _, rfl, rfl, rfl, rfl, id, rfl⟩, trivial⟩) (trivial) (⟨(fun h => by cases h), trivial⟩) rfl) trivial ?_
  refine .q rfl (op_call (U := []) [] [] (fsquare_ev _ (by first | assumption | exact fmod_lt _ | exact hb.1 | exact hb.2.1 | decide)) Tryd.func56 (by kernel_rfl) rfl rfl rfl (⟨⟨_, rfl, rfl, rfl⟩, trivial⟩) (trivial) (trivial) (trivial) rfl) trivial ?_
  refine .q rfl (op_loadRow Tryd.underlying48 rfl sz48 rfl rfl rfl (rfl)) trivial ?_
  refine .q rfl (op_fieldAddr (m := 3) Tryd.underlying171 rfl sz48 rfl) trivial ?_
  refine .q rfl (op_loadPart (r := .agg64 (fl (x1))) (cs := (fl (x1)).map AV.u64) Tryd.underlying48 rfl sz48 rfl rfl rfl rfl rfl (Nat.le_of_ble_eq_true rfl)) trivial ?_
  refine .q rfl (op_fieldAddr (m := 3) Tryd.underlying171 rfl sz48 rfl) trivial ?_
  refine .q rfl (op_loadPart (r := .agg64 (fl (z2))) (cs := (fl (z2)).map AV.u64) Tryd.underlying48 rfl sz48 rfl rfl rfl rfl rfl (Nat.le_of_ble_eq_true rfl)) trivial ?_
  refine .q rfl (op_call (U := []) [] [] (fmul_ev _ _ (by first | assumption | exact fmod_lt _ | exact hb.1 | exact hb.2.1 | decide) (by first | assumption | exact fmod_lt _ | exact hb.1 | exact hb.2.1 | decide)) Tryd.func38 (by kernel_rfl) rfl rfl rfl (⟨⟨_, rfl, rfl, rfl⟩, ⟨_, rfl, rfl, rfl⟩, trivial⟩) (trivial) (trivial) (trivial) rfl) trivial ?_
  refine .q rfl (op_fieldAddr (m := 3) Tryd.underlying171 rfl sz48 rfl) trivial ?_
  refine .q rfl (op_loadPart (r := .agg64 (fl (z1))) (cs := (fl (z1)).map AV.u64) Tryd.underlying48 rfl sz48 rfl rfl rfl rfl rfl (Nat.le_of_ble_eq_true rfl)) trivial ?_
  refine .q rfl (op_fieldAddr (m := 3) Tryd.underlying171 rfl sz48 rfl) trivial ?_
  refine .q rfl (op_loadPart (r := .agg64 (fl (x2))) (cs := (fl (x2)).map AV.u64) Tryd.underlying48 rfl sz48 rfl rfl rfl rfl rfl (Nat.le_of_ble_eq_true rfl)) trivial ?_
  refine .q rfl (op_call (U := []) [] [] (fmul_ev _ _ (by first | assumption | exact fmod_lt _ | exact hb.1 | exact hb.2.1 | decide) (by first | assumption | exact fmod_lt _ | exact hb.1 | exact hb.2.1 | decide)) Tryd.func38 (by kernel_rfl) rfl rfl rfl (⟨⟨_, rfl, rfl, rfl⟩, ⟨_, rfl, rfl, rfl⟩, trivial⟩) (trivial) (trivial) (trivial) rfl) trivial ?_
  refine .q rfl (op_call (U := []) [] [] (fsub_ev e _ _ (by first | assumption | exact fmod_lt _ | exact hb.1 | exact hb.2.1 | decide) (by first | assumption | exact fmod_lt _ | exact hb.1 | exact hb.2.1 | decide)) Tryd.func39 (by kernel_rfl) rfl rfl rfl (⟨⟨_, rfl, rfl, rfl⟩, ⟨_, rfl, rfl, rfl⟩, trivial⟩) (⟨⟨_, _, rfl, rfl, rfl, rfl, id, rfl⟩, trivial⟩) (trivial) (⟨(fun h => by cases h), trivial⟩) rfl) trivial ?_
  refine .q rfl (op_call (U := []) [] [] (fsquare_ev _ (by first | assumption | exact fmod_lt _ | exact hb.1 | exact hb.2.1 | decide)) Tryd.func56 (by kernel_rfl) rfl rfl rfl (⟨⟨_, rfl, rfl, rfl⟩, trivial⟩) (trivial) (trivial) (trivial) rfl) trivial ?_
  refine .q rfl (op_call (U := []) [] [] (fmul_ev _ _ (by first | assumption | exact fmod_lt _ | exact hb.1 | exact hb.2.1 | decide) (by first | assumption | exact fmod_lt _ | exact hb.1 | exact hb.2.1 | decide)) Tryd.func38 (by kernel_rfl) rfl rfl rfl (⟨⟨_, rfl, rfl, rfl⟩, ⟨_, rfl, rfl, rfl⟩, trivial⟩) (trivial) (trivial) (trivial) rfl) trivial ?_
  refine .q rfl (op_buildPair Tryd.underlying171 rfl (by rfl) (by exact sz48) (by exact sz48) (by exact zero171) (by rfl) rfl rfl) trivial ?_
  refine .as (.agg64 (fl (csX x1 z1 x2 z2) ++ fl (csZ x x1 z1 x2 z2))) rfl ?_
  refine .w rfl (op_storeRow sz171 rfl rfl rfl rfl rfl (rfl) (rfl)) trivial rfl rfl ?_
  refine .nil ?_
  show Ev _ _ _ _ _
  refine .ret ?_
  show RetOk _ _ _ _ _ _ _
  exact retc1 rfl (.inl rfl) ⟨_, _, _, _, rfl, rfl, rfl, rfl, (rfl), Tryd.underlying171, rfl, sz171⟩ trivial
set_option maxRecDepth 100000 in
theorem cdouble_ev (e x z : Nat) (h1 : x < fp) (h2 : z < fp) : Meets Tryd.prog 150 [.agg64 (fl x ++ fl z)] (HP e) (.agg64 (fl (dblX x z) ++ fl (dblZ x z))) [] := by
  refine meets_of_ev (nt := 33) Tryd.func150 rfl rfl (Nat.le_of_ble_eq_true rfl) ?_
  refine .seq ?_
  refine .region ?_
  refine .a (op_boxRow rfl rfl) trivial rfl ?_
  refine .a (op_allocRow zero171 rel_zero171 rfl) trivial rfl ?_
  refine .nil ?_
  show Ev _ _ _ _ _
  refine .seq ?_
  refine .drawn [[], [0], [0, 1], [], [3], [0, 1, 2, 3, 4], [], [6], [], [8], [0, 1, 2, 3, 4, 5, 6, 7, 8, 9], [], [], [], [0, 1, 2, 3, 4, 5, 6, 7, 8, 9, 10, 11, 12, 13], [0, 1, 2, 3, 4, 5, 6, 7, 8, 9, 10, 11, 12, 13, 14], [0, 1, 2, 3, 4, 5, 6, 7, 8, 9, 10, 11, 12, 13, 14, 15]] [1, 2, 4, 5, 7, 9, 10, 11, 12, 13, 14, 15, 16] [14, 15, 16] (by kernel_rfl) (by kernel_rfl) rfl ?_
  show DK _ [0, 1, 2, 3, 4, 5, 6, 7, 8, 9, 10, 11, 12, 13, 14, 15, 16] _ _ _
  refine .q rfl (op_fieldAddr (m := 3) Tryd.underlying171 rfl sz48 rfl) trivial ?_
  refine .q rfl (op_loadPart (r := .agg64 (fl (x))) (cs := (fl (x)).map AV.u64) Tryd.underlying48 rfl sz48 rfl rfl rfl rfl rfl (Nat.le_of_ble_eq_true rfl)) trivial ?_
  refine .q rfl (op_call (U := []) [] [] (fsquare_ev _ (by first | assumption | exact fmod_lt _ | exact hb.1 | exact hb.2.1 | decide)) Tryd.func56 (by kernel_rfl) rfl rfl rfl (⟨⟨_, rfl, rfl, rfl⟩, trivial⟩) (trivial) (trivial) (trivial) rfl) trivial ?_
  refine .q rfl (op_fieldAddr (m := 3) Tryd.underlying171 rfl sz48 rfl) trivial ?_
  refine .q rfl (op_loadPart (r := .agg64 (fl (z))) (cs := (fl (z)).map AV.u64) Tryd.underlying48 rfl sz48 rfl rfl rfl rfl rfl (Nat.le_of_ble_eq_true rfl)) trivial ?_
  refine .q rfl (op_call (U := []) [] [] (fsquare_ev _ (by first | assumption | exact fmod_lt _ | exact hb.1 | exact hb.2.1 | decide)) Tryd.func56 (by kernel_rfl) rfl rfl rfl (⟨⟨_, rfl, rfl, rfl⟩, trivial⟩) (trivial) (trivial) (trivial) rfl) trivial ?_
  refine .q rfl (op_fieldAddr (m := 3) Tryd.underlying171 rfl sz48 rfl) trivial ?_
  refine .q rfl (op_loadPart (r := .agg64 (fl (x))) (cs := (fl (x)).map AV.u64) Tryd.underlying48 rfl sz48 rfl rfl rfl rfl rfl (Nat.le_of_ble_eq_true rfl)) trivial ?_
  refine .q rfl (op_fieldAddr (m := 3) Tryd.underlying171 rfl sz48 rfl) trivial ?_
  refine .q rfl (op_loadPart (r := .agg64 (fl (z))) (cs := (fl (z)).map AV.u64) Tryd.underlying48 rfl sz48 rfl rfl rfl rfl rfl (Nat.le_of_ble_eq_true rfl)) trivial ?_
  refine .q rfl (op_call (U := []) [] [] (fmul_ev _ _ (by first | assumption | exact fmod_lt _ | exact hb.1 | exact hb.2.1 | decide) (by first | assumption | exact fmod_lt _ | exact hb.1 | exact hb.2.1 | decide)) Tryd.func38 (by kernel_rfl) rfl rfl rfl (⟨⟨_, rfl, rfl, rfl⟩, ⟨_, rfl, rfl, rfl⟩, trivial⟩) (trivial) (trivial) (trivial) rfl) trivial ?_
  refine .a rfl (op_allocRow zero48 rel_zero48 rfl) trivial rfl rfl ?_
  refine .a rfl (op_allocRow zero48 rel_zero48 rfl) trivial rfl rfl ?_
  refine .a rfl (op_allocRow zero48 rel_zero48 rfl) trivial rfl rfl ?_
  refine .w rfl (op_storeRow sz48 rfl rfl rfl rfl rfl (rfl) (rfl)) trivial rfl rfl ?_
  refine .w rfl (op_storeRow sz48 rfl rfl rfl rfl rfl (rfl) (rfl)) trivial rfl rfl ?_
  refine .w rfl (op_storeRow sz48 rfl rfl rfl rfl rfl (rfl) (rfl)) trivial rfl rfl ?_
  refine .nil ?_
  show Ev _ _ _ _ _
  refine .seq ?_
  refine .drawn [[], [], [0, 1], [0, 1, 2], [0, 1, 2, 3], [], [0, 1, 2, 3, 4, 5], [], [0, 1, 2, 3, 4, 5, 6], [], [0, 1, 2, 3, 4, 5, 6, 8, 9], [0, 1, 2, 3, 4, 5, 6, 7, 8, 9, 10], [], [0, 1, 2, 3, 4, 5, 6, 7, 8, 9, 10, 11, 12], [0, 1, 2, 3, 4, 5, 6, 7, 8, 9, 10, 11, 12, 13], [0, 1, 2, 3, 4, 5, 6, 7, 8, 9, 10, 11, 12, 13, 14], [0, 1, 2, 3, 4, 5, 6, 7, 8, 9, 10, 11, 12, 13, 14, 15]] [0, 1, 2, 3, 4, 5, 6, 7, 8, 9, 10, 11, 12, 13, 14, 16] [16] (by kernel_rfl) (by kernel_rfl) rfl ?_
  show DK _ [0, 1, 2, 3, 4, 5, 6, 7, 8, 9, 10, 11, 12, 13, 14, 15, 16] _ _ _
  refine .q rfl (op_loadRow Tryd.underlying48 rfl sz48 rfl rfl rfl (rfl)) trivial ?_
  refine .q rfl (op_loadRow Tryd.underlying48 rfl sz48 rfl rfl rfl (rfl)) trivial ?_
  refine .q rfl (op_call (U := []) [] [] (fsub_ev e _ _ (by first | assumption | exact fmod_lt _ | exact hb.1 | exact hb.2.1 | decide) (by first | assumption | exact fmod_lt _ | exact hb.1 | exact hb.2.1 | decide)) Tryd.func39 (by kernel_rfl) rfl rfl rfl (⟨⟨_, rfl, rfl, rfl⟩, ⟨_, rfl, rfl, rfl⟩, trivial⟩) (⟨⟨_, _, rfl, rfl, rfl, rfl, id, rfl⟩, trivial⟩) (trivial) (⟨(fun h => by cases h), trivial⟩) rfl) trivial ?_
  refine .q rfl (op_call (U := []) [] [] (fsquare_ev _ (by first | assumption | exact fmod_lt _ | exact hb.1 | exact hb.2.1 | decide)) Tryd.func56 (by kernel_rfl) rfl rfl rfl (⟨⟨_, rfl, rfl, rfl⟩, trivial⟩) (trivial) (trivial) (trivial) rfl) trivial ?_
  refine .q rfl (op_call (U := []) [] [] (fsmall_ev _) Tryd.func36 (by kernel_rfl) rfl rfl rfl (⟨⟨_, rfl, rfl, rfl⟩, trivial⟩) (trivial) (trivial) (trivial) rfl) trivial ?_
  refine .as (.agg64 (fl 4)) rfl ?_
  refine .q rfl (op_loadRow Tryd.underlying48 rfl sz48 rfl rfl rfl (rfl)) trivial ?_
  refine .q rfl (op_call (U := []) [] [] (fmul_ev _ _ (by first | assumption | exact fmod_lt _ | exact hb.1 | exact hb.2.1 | decide) (by first | assumption | exact fmod_lt _ | exact hb.1 | exact hb.2.1 | decide)) Tryd.func38 (by kernel_rfl) rfl rfl rfl (⟨⟨_, rfl, rfl, rfl⟩, ⟨_, rfl, rfl, rfl⟩, trivial⟩) (trivial) (trivial) (trivial) rfl) trivial ?_
  refine .q rfl (op_loadRow Tryd.underlying48 rfl sz48 rfl rfl rfl (rfl)) trivial ?_
  refine .q rfl (op_call (U := []) [] [] (fsmall_ev _) Tryd.func36 (by kernel_rfl) rfl rfl rfl (⟨⟨_, rfl, rfl, rfl⟩, trivial⟩) (trivial) (trivial) (trivial) rfl) trivial ?_
  refine .as (.agg64 (fl 486662)) rfl ?_
  refine .q rfl (op_loadRow Tryd.underlying48 rfl sz48 rfl rfl rfl (rfl)) trivial ?_
  refine .q rfl (op_call (U := []) [] [] (fmul_ev _ _ (by first | assumption | exact fmod_lt _ | exact hb.1 | exact hb.2.1 | decide) (by first | assumption | exact fmod_lt _ | exact hb.1 | exact hb.2.1 | decide)) Tryd.func38 (by kernel_rfl) rfl rfl rfl (⟨⟨_, rfl, rfl, rfl⟩, ⟨_, rfl, rfl, rfl⟩, trivial⟩) (trivial) (trivial) (trivial) rfl) trivial ?_
  refine .q rfl (op_call (U := []) [] [] (fadd_ev _ _ (by first | assumption | exact fmod_lt _ | exact hb.1 | exact hb.2.1 | decide) (by first | assumption | exact fmod_lt _ | exact hb.1 | exact hb.2.1 | decide)) Tryd.func37 (by kernel_rfl) rfl rfl rfl (⟨⟨_, rfl, rfl, rfl⟩, ⟨_, rfl, rfl, rfl⟩, trivial⟩) (trivial) (trivial) (trivial) rfl) trivial ?_
  refine .q rfl (op_loadRow Tryd.underlying48 rfl sz48 rfl rfl rfl (rfl)) trivial ?_
  refine .q rfl (op_call (U := []) [] [] (fadd_ev _ _ (by first | assumption | exact fmod_lt _ | exact hb.1 | exact hb.2.1 | decide) (by first | assumption | exact fmod_lt _ | exact hb.1 | exact hb.2.1 | decide)) Tryd.func37 (by kernel_rfl) rfl rfl rfl (⟨⟨_, rfl, rfl, rfl⟩, ⟨_, rfl, rfl, rfl⟩, trivial⟩) (trivial) (trivial) (trivial) rfl) trivial ?_
  refine .q rfl (op_call (U := []) [] [] (fmul_ev _ _ (by first | assumption | exact fmod_lt _ | exact hb.1 | exact hb.2.1 | decide) (by first | assumption | exact fmod_lt _ | exact hb.1 | exact hb.2.1 | decide)) Tryd.func38 (by kernel_rfl) rfl rfl rfl (⟨⟨_, rfl, rfl, rfl⟩, ⟨_, rfl, rfl, rfl⟩, trivial⟩) (trivial) (trivial) (trivial) rfl) trivial ?_
  refine .q rfl (op_buildPair Tryd.underlying171 rfl (by rfl) (by exact sz48) (by exact sz48) (by exact zero171) (by rfl) rfl rfl) trivial ?_
  refine .as (.agg64 (fl (dblX x z) ++ fl (dblZ x z))) rfl ?_
  refine .w rfl (op_storeRow sz171 rfl rfl rfl rfl rfl (rfl) (rfl)) trivial rfl rfl ?_
  refine .nil ?_
  show Ev _ _ _ _ _
  refine .ret ?_
  show RetOk _ _ _ _ _ _ _
  exact retc1 rfl (.inl rfl) ⟨_, _, _, _, rfl, rfl, rfl, rfl, (rfl), Tryd.underlying171, rfl, sz171⟩ trivial
set_option maxRecDepth 100000 in
theorem cchoose_ev (c : Bool) (x1 z1 x2 z2 : Nat) : Meets Tryd.prog 151 [.bool c, .agg64 (fl x1 ++ fl z1), .agg64 (fl x2 ++ fl z2)] [] (.agg64 (fl (if c then x1 else x2) ++ fl (if c then z1 else z2))) [] := by
  refine meets_of_ev (nt := 20) Tryd.func151 rfl rfl (Nat.le_of_ble_eq_true rfl) ?_
  refine .seq ?_
  refine .region ?_
  refine .a (op_boxRow rfl rfl) trivial rfl ?_
  refine .a (op_boxRow rfl rfl) trivial rfl ?_
  refine .a (op_allocRow zero171 rel_zero171 rfl) trivial rfl ?_
  refine .nil ?_
  show Ev _ _ _ _ _
  refine .seq ?_
  refine .drawn [[], [], [1], [], [3], [0, 1, 2, 3, 4], [], [], [7], [], [9], [0, 1, 2, 3, 4, 5, 6, 7, 8, 9, 10], [0, 1, 2, 3, 4, 5, 6, 7, 8, 9, 10, 11], [0, 1, 2, 3, 4, 5, 6, 7, 8, 9, 10, 11, 12]] [2, 4, 5, 8, 10, 11, 13] [13] (by kernel_rfl) (by kernel_rfl) rfl ?_
  show DK _ [0, 1, 2, 3, 4, 5, 6, 7, 8, 9, 10, 11, 12, 13] _ _ _
  refine .q rfl (op_move rfl) trivial ?_
  refine .q rfl (op_fieldAddr (m := 3) Tryd.underlying171 rfl sz48 rfl) trivial ?_
  refine .q rfl (op_loadPart (r := .agg64 (fl (x1))) (cs := (fl (x1)).map AV.u64) Tryd.underlying48 rfl sz48 rfl rfl rfl rfl rfl (Nat.le_of_ble_eq_true rfl)) trivial ?_
  refine .q rfl (op_fieldAddr (m := 3) Tryd.underlying171 rfl sz48 rfl) trivial ?_
  refine .q rfl (op_loadPart (r := .agg64 (fl (x2))) (cs := (fl (x2)).map AV.u64) Tryd.underlying48 rfl sz48 rfl rfl rfl rfl rfl (Nat.le_of_ble_eq_true rfl)) trivial ?_
  refine .q rfl (op_call (U := []) [] [] (fchoose_ev _ _ _) Tryd.func59 (by kernel_rfl) rfl rfl rfl (⟨⟨_, rfl, rfl, rfl⟩, ⟨_, rfl, rfl, rfl⟩, ⟨_, rfl, rfl, rfl⟩, trivial⟩) (trivial) (trivial) (trivial) rfl) trivial ?_
  refine .q rfl (op_move rfl) trivial ?_
  refine .q rfl (op_fieldAddr (m := 3) Tryd.underlying171 rfl sz48 rfl) trivial ?_
  refine .q rfl (op_loadPart (r := .agg64 (fl (z1))) (cs := (fl (z1)).map AV.u64) Tryd.underlying48 rfl sz48 rfl rfl rfl rfl rfl (Nat.le_of_ble_eq_true rfl)) trivial ?_
  refine .q rfl (op_fieldAddr (m := 3) Tryd.underlying171 rfl sz48 rfl) trivial ?_
  refine .q rfl (op_loadPart (r := .agg64 (fl (z2))) (cs := (fl (z2)).map AV.u64) Tryd.underlying48 rfl sz48 rfl rfl rfl rfl rfl (Nat.le_of_ble_eq_true rfl)) trivial ?_
  refine .q rfl (op_call (U := []) [] [] (fchoose_ev _ _ _) Tryd.func59 (by kernel_rfl) rfl rfl rfl (⟨⟨_, rfl, rfl, rfl⟩, ⟨_, rfl, rfl, rfl⟩, ⟨_, rfl, rfl, rfl⟩, trivial⟩) (trivial) (trivial) (trivial) rfl) trivial ?_
  refine .q rfl (op_buildPair Tryd.underlying171 rfl (by rfl) (by exact sz48) (by exact sz48) (by exact zero171) (by rfl) rfl rfl) trivial ?_
  refine .w rfl (op_storeRow sz171 rfl rfl rfl rfl rfl (rfl) (rfl)) trivial rfl rfl ?_
  refine .nil ?_
  show Ev _ _ _ _ _
  refine .ret ?_
  show RetOk _ _ _ _ _ _ _
  exact retc1 rfl (.inl rfl) ⟨_, _, _, _, rfl, rfl, rfl, rfl, (rfl), Tryd.underlying171, rfl, sz171⟩ trivial
set_option maxRecDepth 100000 in
theorem cbit_ev (K : List UInt8) (i : Nat) (hK : K.length = 32) (hi : i < 256) : Meets Tryd.prog 148 [.aggB K, .i64 (i : Int)] [] (.bool (kb K i)) [] := by
  refine meets_of_ev (nt := 14) Tryd.func148 rfl rfl (Nat.le_of_ble_eq_true rfl) ?_
  refine .seq ?_
  refine .region ?_
  refine .a (op_boxRow rfl rfl) trivial rfl ?_
  refine .q (op_assign rfl) trivial rfl ?_
  refine .nil ?_
  show Ev _ _ _ _ _
  refine .seq ?_
  refine .region ?_
  refine .q (op_move rfl) trivial rfl ?_
  refine .q (op_quoI rfl rfl ⟨by omega, ⟨by omega, by omega⟩, by omega⟩) trivial rfl ?_
  refine .q (ap_idx_arr Tryd.underlying24 inf5.sz rfl rfl (i := i / 8) (by omega) (by omega)) trivial rfl ?_
  refine .q (op_load Tryd.underlying5 rfl rfl rfl rfl (by show i / 8 < K.length; omega)) trivial rfl ?_
  refine .q (op_move rfl) trivial rfl ?_
  refine .q (op_remI rfl rfl ⟨by first | omega | (simp only [AV.len]; omega) | (simp only [AV.len, List.length_set]; omega) | assumption | (simp [AV.len]; done), by first | omega | (simp only [AV.len]; omega) | (simp only [AV.len, List.length_set]; omega) | assumption | (simp [AV.len]; done)⟩) trivial rfl ?_
  refine .q (op_shr8 (n := i % 8) rfl rfl (by simp only [shiftBy]; rw [show ((i : Nat) : Int) % 8 = ((i % 8 : Nat) : Int) by omega]) (by omega)) trivial rfl ?_
  refine .q (op_bin8 rfl rfl rfl) trivial rfl ?_
  refine .q (op_bin8 rfl rfl rfl) trivial rfl ?_
  refine .q (op_assign rfl) trivial rfl ?_
  refine .nil ?_
  show Ev _ _ _ _ _
  refine .ret ?_
  show RetOk _ _ _ _ _ _ _
  exact ret1v rfl (.inl rfl) rfl (congrArg AV.bool (bit_prog K i)) trivial
set_option maxRecDepth 100000 in
theorem cusable_ev (K : List UInt8) (hK : K.length = 32) : Meets Tryd.prog 94 [.aggB K] [] (.aggB (usL K)) [] := by
  refine meets_of_ev (nt := 16) Tryd.func94 rfl rfl (Nat.le_of_ble_eq_true rfl) ?_
  refine .seq ?_
  refine .region ?_
  refine .a (op_boxRow rfl rfl) trivial rfl ?_
  refine .a (op_allocRow zero24 rel_zero24 rfl) trivial rfl ?_
  refine .nil ?_
  show Ev _ _ _ _ _
  refine .seq ?_
  refine .region ?_
  refine .q (ap_idx_arr Tryd.underlying24 inf5.sz rfl rfl rfl (by first | omega | (skip; omega) | (skip; omega) | assumption | (simp; done))) trivial rfl ?_
  refine .q (op_load Tryd.underlying5 rfl rfl rfl rfl (by simp only [AV.len]; omega)) trivial rfl ?_
  refine .q (op_andNot8 rfl rfl) trivial rfl ?_
  refine .q (ap_idx_arr Tryd.underlying24 inf5.sz rfl rfl rfl (by first | omega | (skip; omega) | (skip; omega) | assumption | (simp; done))) trivial rfl ?_
  refine .w (op_store inf5.sz rfl rfl rfl rfl rfl (by simp only [AV.len]; omega)) trivial rfl ?_
  refine .nil ?_
  show Ev _ _ _ _ _
  refine .seq ?_
  refine .region ?_
  refine .q (ap_idx_arr Tryd.underlying24 inf5.sz rfl rfl rfl (by first | omega | (skip; omega) | (skip; omega) | assumption | (simp; done))) trivial rfl ?_
  refine .q (op_load Tryd.underlying5 rfl rfl rfl rfl (by simp only [AV.len, List.length_set]; omega)) trivial rfl ?_
  refine .q (op_andNot8 rfl rfl) trivial rfl ?_
  refine .q (ap_idx_arr Tryd.underlying24 inf5.sz rfl rfl rfl (by first | omega | (skip; omega) | (skip; omega) | assumption | (simp; done))) trivial rfl ?_
  refine .w (op_store inf5.sz rfl rfl rfl rfl rfl (by simp only [AV.len, List.length_set]; omega)) trivial rfl ?_
  refine .nil ?_
  show Ev _ _ _ _ _
  refine .seq ?_
  refine .region ?_
  refine .q (ap_idx_arr Tryd.underlying24 inf5.sz rfl rfl rfl (by first | omega | (skip; omega) | (skip; omega) | assumption | (simp; done))) trivial rfl ?_
  refine .q (op_load Tryd.underlying5 rfl rfl rfl rfl (by simp only [AV.len, List.length_set]; omega)) trivial rfl ?_
  refine .q (op_bin8 rfl rfl rfl) trivial rfl ?_
  refine .q (ap_idx_arr Tryd.underlying24 inf5.sz rfl rfl rfl (by first | omega | (skip; omega) | (skip; omega) | assumption | (simp; done))) trivial rfl ?_
  refine .w (op_store inf5.sz rfl rfl rfl rfl rfl (by simp only [AV.len, List.length_set]; omega)) trivial rfl ?_
  refine .nil ?_
  show Ev _ _ _ _ _
  refine .seq ?_
  refine .region ?_
  refine .q (op_loadRow Tryd.underlying24 rfl sz24 rfl rfl rfl (by simp only [AV.len, List.length_set]; omega)) trivial rfl ?_
  refine .as (.aggB (usL K)) rfl ?_
  refine .w (op_storeRow sz24 rfl rfl rfl rfl rfl (by first | exact (length_usL K).trans hK | (simp [AV.len]; done)) (by first | exact (length_usL K).trans hK | (simp [AV.len]; done))) trivial rfl ?_
  refine .nil ?_
  show Ev _ _ _ _ _
  refine .ret ?_
  show RetOk _ _ _ _ _ _ _
  exact retc1 rfl (.inl rfl) ⟨_, _, _, _, rfl, rfl, rfl, rfl, ((length_usL K).trans hK), Tryd.underlying24, rfl, sz24⟩ trivial
set_option maxHeartbeats 2000000 in
set_option maxRecDepth 100000 in
theorem ctimes_ev (e : Nat) (K : List UInt8) (x : Nat) (hK : K.length = 32) (hx : x < fp) : Meets Tryd.prog 93 [.aggB K, .agg64 (fl x)] (HP e) (.agg64 (fl (tmV K x))) [] := by
  refine meets_of_ev (nt := 47) Tryd.func93 rfl rfl (Nat.le_of_ble_eq_true rfl) ?_
  refine .seq ?_
  refine .region ?_
  refine .a (op_boxRow rfl rfl) trivial rfl ?_
  refine .a (op_boxRow rfl rfl) trivial rfl ?_
  refine .a (op_allocRow zero48 rel_zero48 rfl) trivial rfl ?_
  refine .nil ?_
  show Ev _ _ _ _ _
  refine .seq ?_
  refine .region ?_
  refine .q (op_call (U := []) [] [] (fsmall_ev _) Tryd.func36 (by kernel_rfl) rfl rfl rfl (⟨⟨_, rfl, rfl, rfl⟩, trivial⟩) (trivial) (trivial) (trivial) rfl) trivial rfl ?_
  refine .as (.agg64 (fl 1)) rfl ?_
  refine .q (op_buildFirst (r := fl 0) Tryd.underlying171 rfl (by exact sz48) (by exact sz48) (by exact zero171) rfl rfl) trivial rfl ?_
  refine .a (op_allocRow zero171 rel_zero171 rfl) trivial rfl ?_
  refine .w (op_storeRow sz171 rfl rfl rfl rfl rfl (rfl) (rfl)) trivial rfl ?_
  refine .nil ?_
  show Ev _ _ _ _ _
  refine .seq ?_
  refine .drawn [[], [], [0, 1], [], [0, 1, 2, 3]] [0, 1, 3, 4] [4] (by kernel_rfl) (by kernel_rfl) rfl ?_
  show DK _ [0, 1, 2, 3, 4] _ _ _
  refine .q rfl (op_loadRow Tryd.underlying48 rfl sz48 rfl rfl rfl (rfl)) trivial ?_
  refine .q rfl (op_call (U := []) [] [] (fsmall_ev _) Tryd.func36 (by kernel_rfl) rfl rfl rfl (⟨⟨_, rfl, rfl, rfl⟩, trivial⟩) (trivial) (trivial) (trivial) rfl) trivial ?_
  refine .as (.agg64 (fl 1)) rfl ?_
  refine .q rfl (op_buildPair Tryd.underlying171 rfl (by rfl) (by exact sz48) (by exact sz48) (by exact zero171) (by rfl) rfl rfl) trivial ?_
  refine .a rfl (op_allocRow zero171 rel_zero171 rfl) trivial rfl rfl ?_
  refine .w rfl (op_storeRow sz171 rfl rfl rfl rfl rfl (rfl) (rfl)) trivial rfl rfl ?_
  refine .nil ?_
  show Ev _ _ _ _ _
  refine .seq ?_
  refine .seq ?_
  refine .region ?_
  refine .q (op_move rfl) trivial rfl ?_
  refine .nil ?_
  show Ev _ _ _ _ _
  refine .block ?_
  refine Ev.loop (ι := { j : Nat // j ≤ 256 }) (fun j => ⟨[(2, .ptr 1000 0), (3, .ptr 1008 0), (4, .ptr 1016 0), (5, .ptr 1024 0), (6, .ptr 1056 0), (16, .i64 ((j.1 : Nat) : Int))], [(1000, some ⟨.aggB K, 24, true⟩), (1008, some ⟨.agg64 (fl x), 48, true⟩), (1016, some ⟨.agg64 (List.replicate 4 0), 48, true⟩), (1024, some ⟨.agg64 (fl ((lad K x j.1).1) ++ fl ((lad K x j.1).2.1)), 171, true⟩), (1056, some ⟨.agg64 (fl ((lad K x j.1).2.2.1) ++ fl ((lad K x j.1).2.2.2)), 171, true⟩), (0, some ⟨.agg64 primeL, e, false⟩)], 1072⟩) (fun j => 256 - j.1) ⟨0, Nat.zero_le _⟩ (StLe.mk [(1000, 1000), (1008, 1008), (1016, 1016), (1024, 1024), (1056, 1056)] rfl rfl ⟨⟨_, rfl, by first | rfl | (simp only [AV.ren]; congr 1; omega), rfl⟩, ⟨_, rfl, by first | rfl | (simp only [AV.ren]; congr 1; omega), rfl⟩, ⟨_, rfl, by first | rfl | (simp only [AV.ren]; congr 1; omega), rfl⟩, ⟨_, rfl, by first | rfl | (simp only [AV.ren]; congr 1; omega), rfl⟩, ⟨_, rfl, by first | rfl | (simp only [AV.ren]; congr 1; omega), rfl⟩, ⟨_, rfl, by first | rfl | (simp only [AV.ren]; congr 1; omega), rfl⟩, trivial⟩ ⟨⟨_, _, rfl, rfl, by first | rfl | (simp only [AV.ren]; congr 1; omega), rfl, id, rfl⟩, ⟨_, _, rfl, rfl, by first | rfl | (simp only [AV.ren]; congr 1; omega), rfl, id, rfl⟩, ⟨_, _, rfl, rfl, by first | rfl | (simp only [AV.ren]; congr 1; omega), rfl, id, rfl⟩, ⟨_, _, rfl, rfl, by first | rfl | (simp only [AV.ren]; congr 1; omega), rfl, id, rfl⟩, ⟨_, _, rfl, rfl, by first | rfl | (simp only [AV.ren]; congr 1; omega), rfl, id, rfl⟩, ⟨_, _, rfl, rfl, by first | rfl | (simp only [AV.ren]; congr 1; omega), rfl, id, rfl⟩, trivial⟩) ?_
  rintro ⟨j, hj⟩
  dsimp only
  have hb := lad_lt K x hx j
  refine .seq ?_
  refine .region ?_
  refine .q (op_cmpI rfl rfl rfl) trivial rfl ?_
  refine .nil ?_
  show Ev _ _ _ _ _
  refine .seq ?_
  refine .cond rfl (fun hc17 => ?_) (fun hc17 => ?_)
  · first | replace hc17 := of_decide_eq_true hc17 | replace hc17 := of_decide_eq_false hc17 | replace hc17 := eq_of_beq hc17 | replace hc17 := ne_of_beq_false hc17 | simp only [bne_iff_ne, ne_eq] at hc17 | simp only [bne_eq_false_iff_eq] at hc17
    refine .skip ?_
    show Ev _ _ _ _ _
    refine .seq ?_
    refine .block ?_
    refine .seq ?_
    refine .region ?_
    refine .q (op_move rfl) trivial rfl ?_
    refine .q (op_assign rfl) trivial rfl ?_
    refine .nil ?_
    show Ev _ _ _ _ _
    refine .seq ?_
    refine .region ?_
    refine .q (op_loadRow Tryd.underlying24 rfl sz24 rfl rfl rfl (hK)) trivial rfl ?_
    refine .q (op_move rfl) trivial rfl ?_
    refine .q (op_subI rfl rfl ⟨by first | omega | (simp only [AV.len]; omega) | (simp only [AV.len, List.length_set]; omega) | assumption | (simp [AV.len]; done), by first | omega | (simp only [AV.len]; omega) | (simp only [AV.len, List.length_set]; omega) | assumption | (simp [AV.len]; done)⟩) trivial rfl ?_
    refine .as (.i64 ((255 - j : Nat) : Int)) (congrArg AV.i64 (by omega)) ?_
    refine .q (op_call (U := []) [] [] (cbit_ev K (255 - j) hK (by omega)) Tryd.func148 (by kernel_rfl) rfl rfl rfl (⟨⟨_, rfl, rfl, rfl⟩, ⟨_, rfl, rfl, rfl⟩, trivial⟩) (trivial) (trivial) (trivial) rfl) trivial rfl ?_
    refine .q (op_assign rfl) trivial rfl ?_
    refine .nil ?_
    show Ev _ _ _ _ _
    refine .seq ?_
    refine .region ?_
    refine .q (op_loadRow Tryd.underlying171 rfl sz171 rfl rfl rfl (rfl)) trivial rfl ?_
    refine .q (op_loadRow Tryd.underlying171 rfl sz171 rfl rfl rfl (rfl)) trivial rfl ?_
    refine .q (op_loadRow Tryd.underlying48 rfl sz48 rfl rfl rfl (rfl)) trivial rfl ?_
    refine .q (op_call (U := []) [] [] (csum_ev e _ _ _ _ _ hb.1 hb.2.1 hb.2.2.1 hb.2.2.2 hx) Tryd.func149 (by kernel_rfl) rfl rfl rfl (⟨⟨_, rfl, rfl, rfl⟩, ⟨_, rfl, rfl, rfl⟩, ⟨_, rfl, rfl, rfl⟩, trivial⟩) (⟨⟨_, _, rfl, rfl, rfl, rfl, id, rfl⟩, trivial⟩) (trivial) (⟨(fun h => by cases h), trivial⟩) rfl) trivial rfl ?_
    refine .a (op_allocRow zero171 rel_zero171 rfl) trivial rfl ?_
    refine .w (op_storeRow sz171 rfl rfl rfl rfl rfl (rfl) (rfl)) trivial rfl ?_
    refine .nil ?_
    show Ev _ _ _ _ _
    refine .seq ?_
    refine .region ?_
    refine .q (op_move rfl) trivial rfl ?_
    refine .q (op_loadRow Tryd.underlying171 rfl sz171 rfl rfl rfl (rfl)) trivial rfl ?_
    refine .q (op_loadRow Tryd.underlying171 rfl sz171 rfl rfl rfl (rfl)) trivial rfl ?_
    refine .q (op_call (U := []) [] [] (cchoose_ev _ _ _ _ _) Tryd.func151 (by kernel_rfl) rfl rfl rfl (⟨⟨_, rfl, rfl, rfl⟩, ⟨_, rfl, rfl, rfl⟩, ⟨_, rfl, rfl, rfl⟩, trivial⟩) (trivial) (trivial) (trivial) rfl) trivial rfl ?_
    refine .q (op_call (U := []) [] [] (cdouble_ev e _ _ (by split <;> first | exact hb.1 | exact hb.2.2.1) (by split <;> first | exact hb.2.1 | exact hb.2.2.2)) Tryd.func150 (by kernel_rfl) rfl rfl rfl (⟨⟨_, rfl, rfl, rfl⟩, trivial⟩) (⟨⟨_, _, rfl, rfl, rfl, rfl, id, rfl⟩, trivial⟩) (trivial) (⟨(fun h => by cases h), trivial⟩) rfl) trivial rfl ?_
    refine .a (op_allocRow zero171 rel_zero171 rfl) trivial rfl ?_
    refine .w (op_storeRow sz171 rfl rfl rfl rfl rfl (rfl) (rfl)) trivial rfl ?_
    refine .nil ?_
    show Ev _ _ _ _ _
    refine .drawn [[], [], [], [0, 1, 2], [], [], [], [0, 1, 2, 3, 4, 5, 6], [0, 1, 2, 3, 4, 5, 6, 7], [0, 1, 2, 3, 4, 5, 6, 7, 8]] [1, 2, 3, 5, 6, 7, 8, 9] [8, 9] (by kernel_rfl) (by kernel_rfl) rfl ?_
    show DK _ [0, 1, 2, 3, 4, 5, 6, 7, 8, 9] _ _ _
    refine .q rfl (op_move rfl) trivial ?_
    refine .q rfl (op_loadRow Tryd.underlying171 rfl sz171 rfl rfl rfl (rfl)) trivial ?_
    refine .q rfl (op_loadRow Tryd.underlying171 rfl sz171 rfl rfl rfl (rfl)) trivial ?_
    refine .q rfl (op_call (U := []) [] [] (cchoose_ev _ _ _ _ _) Tryd.func151 (by kernel_rfl) rfl rfl rfl (⟨⟨_, rfl, rfl, rfl⟩, ⟨_, rfl, rfl, rfl⟩, ⟨_, rfl, rfl, rfl⟩, trivial⟩) (trivial) (trivial) (trivial) rfl) trivial ?_
    refine .q rfl (op_move rfl) trivial ?_
    refine .q rfl (op_loadRow Tryd.underlying171 rfl sz171 rfl rfl rfl (rfl)) trivial ?_
    refine .q rfl (op_loadRow Tryd.underlying171 rfl sz171 rfl rfl rfl (rfl)) trivial ?_
    refine .q rfl (op_call (U := []) [] [] (cchoose_ev _ _ _ _ _) Tryd.func151 (by kernel_rfl) rfl rfl rfl (⟨⟨_, rfl, rfl, rfl⟩, ⟨_, rfl, rfl, rfl⟩, ⟨_, rfl, rfl, rfl⟩, trivial⟩) (trivial) (trivial) (trivial) rfl) trivial ?_
    refine .w rfl (op_storeRow sz171 rfl rfl rfl rfl rfl (rfl) (rfl)) trivial rfl rfl ?_
    refine .w rfl (op_storeRow sz171 rfl rfl rfl rfl rfl (rfl) (rfl)) trivial rfl rfl ?_
    refine .nil ?_
    show Ev _ _ _ _ _
    refine .region ?_
    refine .q (op_addI rfl rfl ⟨by first | omega | (simp only [AV.len]; omega) | (simp only [AV.len, List.length_set]; omega) | assumption | (simp [AV.len]; done), by first | omega | (simp only [AV.len]; omega) | (simp only [AV.len, List.length_set]; omega) | assumption | (simp [AV.len]; done)⟩) trivial rfl ?_
    refine .q (op_move rfl) trivial rfl ?_
    refine .nil ?_
    exact ⟨⟨j + 1, by omega⟩, by show 256 - (j + 1) < 256 - j; omega, StLe.mk [(1000, 1000), (1008, 1008), (1016, 1016), (1024, 1024), (1056, 1056)] rfl rfl ⟨⟨_, rfl, by first | rfl | (simp only [AV.ren]; congr 1; omega), rfl⟩, ⟨_, rfl, by first | rfl | (simp only [AV.ren]; congr 1; omega), rfl⟩, ⟨_, rfl, by first | rfl | (simp only [AV.ren]; congr 1; omega), rfl⟩, ⟨_, rfl, by first | rfl | (simp only [AV.ren]; congr 1; omega), rfl⟩, ⟨_, rfl, by first | rfl | (simp only [AV.ren]; congr 1; omega), rfl⟩, ⟨_, rfl, by first | rfl | (simp only [AV.ren]; congr 1; omega), rfl⟩, trivial⟩ ⟨⟨_, _, rfl, rfl, by first | rfl | (simp only [AV.ren]; congr 1; omega), rfl, id, rfl⟩, ⟨_, _, rfl, rfl, by first | rfl | (simp only [AV.ren]; congr 1; omega), rfl, id, rfl⟩, ⟨_, _, rfl, rfl, by first | rfl | (simp only [AV.ren]; congr 1; omega), rfl, id, rfl⟩, ⟨_, _, rfl, rfl, by (simp only [AV.ren, lad, lstep]; done), rfl, id, rfl⟩, ⟨_, _, rfl, rfl, by (simp only [AV.ren, lad, lstep]; done), rfl, id, rfl⟩, ⟨_, _, rfl, rfl, by first | rfl | (simp only [AV.ren]; congr 1; omega), rfl, id, rfl⟩, trivial⟩⟩
  · first | replace hc17 := of_decide_eq_true hc17 | replace hc17 := of_decide_eq_false hc17 | replace hc17 := eq_of_beq hc17 | replace hc17 := ne_of_beq_false hc17 | simp only [bne_iff_ne, ne_eq] at hc17 | simp only [bne_eq_false_iff_eq] at hc17
    refine .exit ?_
    show Ev _ _ _ _ _
    have ej : j = 256 := by omega
    refine Ev.weak (st2 := ⟨[(2, .ptr 1000 0), (3, .ptr 1008 0), (4, .ptr 1016 0), (5, .ptr 1024 0), (6, .ptr 1056 0), (16, .i64 (((256) : Nat) : Int))], [(1000, some ⟨.aggB K, 24, true⟩), (1008, some ⟨.agg64 (fl x), 48, true⟩), (1016, some ⟨.agg64 (List.replicate 4 0), 48, true⟩), (1024, some ⟨.agg64 (fl ((lad K x (256)).1) ++ fl ((lad K x (256)).2.1)), 171, true⟩), (1056, some ⟨.agg64 (fl ((lad K x (256)).2.2.1) ++ fl ((lad K x (256)).2.2.2)), 171, true⟩), (0, some ⟨.agg64 primeL, e, false⟩)], 1072⟩) (StLe.mk [(1000, 1000), (1008, 1008), (1016, 1016), (1024, 1024), (1056, 1056)] rfl rfl ⟨⟨_, rfl, by first | (simp only [AV.ren]; done) | (simp only [AV.ren]; rw [ej]; done) | rfl, rfl⟩, ⟨_, rfl, by first | (simp only [AV.ren]; done) | (simp only [AV.ren]; rw [ej]; done) | rfl, rfl⟩, ⟨_, rfl, by first | (simp only [AV.ren]; done) | (simp only [AV.ren]; rw [ej]; done) | rfl, rfl⟩, ⟨_, rfl, by first | (simp only [AV.ren]; done) | (simp only [AV.ren]; rw [ej]; done) | rfl, rfl⟩, ⟨_, rfl, by first | (simp only [AV.ren]; done) | (simp only [AV.ren]; rw [ej]; done) | rfl, rfl⟩, ⟨_, rfl, by first | (simp only [AV.ren]; done) | (simp only [AV.ren]; rw [ej]; done) | rfl, rfl⟩, trivial⟩ ⟨⟨_, _, rfl, rfl, by first | (simp only [AV.ren]; done) | (simp only [AV.ren]; rw [ej]; done) | rfl, rfl, id, rfl⟩, ⟨_, _, rfl, rfl, by first | (simp only [AV.ren]; done) | (simp only [AV.ren]; rw [ej]; done) | rfl, rfl, id, rfl⟩, ⟨_, _, rfl, rfl, by first | (simp only [AV.ren]; done) | (simp only [AV.ren]; rw [ej]; done) | rfl, rfl, id, rfl⟩, ⟨_, _, rfl, rfl, by first | (simp only [AV.ren]; done) | (simp only [AV.ren]; rw [ej]; done) | rfl, rfl, id, rfl⟩, ⟨_, _, rfl, rfl, by first | (simp only [AV.ren]; done) | (simp only [AV.ren]; rw [ej]; done) | rfl, rfl, id, rfl⟩, ⟨_, _, rfl, rfl, by first | (simp only [AV.ren]; done) | (simp only [AV.ren]; rw [ej]; done) | rfl, rfl, id, rfl⟩, trivial⟩) ?_
    refine .seq ?_
    refine .drawn [[], [0], [], [2], [2, 3], [0, 1, 2, 3, 4], [0, 1, 2, 3, 4, 5]] [1, 3, 4, 5, 6] [6] (by kernel_rfl) (by kernel_rfl) rfl ?_
    show DK _ [0, 1, 2, 3, 4, 5, 6] _ _ _
    have hb := lad_lt K x hx 256
    refine .q rfl (op_fieldAddr (m := 3) Tryd.underlying171 rfl sz48 rfl) trivial ?_
    refine .q rfl (op_loadPart (r := .agg64 (fl ((lad K x 256).1))) (cs := (fl ((lad K x 256).1)).map AV.u64) Tryd.underlying48 rfl sz48 rfl rfl rfl rfl rfl (Nat.le_of_ble_eq_true rfl)) trivial ?_
    refine .q rfl (op_fieldAddr (m := 3) Tryd.underlying171 rfl sz48 rfl) trivial ?_
    refine .q rfl (op_loadPart (r := .agg64 (fl ((lad K x 256).2.1))) (cs := (fl ((lad K x 256).2.1)).map AV.u64) Tryd.underlying48 rfl sz48 rfl rfl rfl rfl rfl (Nat.le_of_ble_eq_true rfl)) trivial ?_
    refine .q rfl (op_call (U := []) [] [] (finvert_ev _ (by first | assumption | exact fmod_lt _ | exact hb.1 | exact hb.2.1 | decide)) Tryd.func40 (by kernel_rfl) rfl rfl rfl (⟨⟨_, rfl, rfl, rfl⟩, trivial⟩) (trivial) (trivial) (trivial) rfl) trivial ?_
    refine .q rfl (op_call (U := []) [] [] (fmul_ev _ _ (by first | assumption | exact fmod_lt _ | exact hb.1 | exact hb.2.1 | decide) (by first | assumption | exact fmod_lt _ | exact hb.1 | exact hb.2.1 | decide)) Tryd.func38 (by kernel_rfl) rfl rfl rfl (⟨⟨_, rfl, rfl, rfl⟩, ⟨_, rfl, rfl, rfl⟩, trivial⟩) (trivial) (trivial) (trivial) rfl) trivial ?_
    refine .as (.agg64 (fl (tmV K x))) rfl ?_
    refine .w rfl (op_storeRow sz48 rfl rfl rfl rfl rfl (rfl) (rfl)) trivial rfl rfl ?_
    refine .nil ?_
    show Ev _ _ _ _ _
    refine .ret ?_
    show RetOk _ _ _ _ _ _ _
    exact retc1 rfl (.inl rfl) ⟨_, _, _, _, rfl, rfl, rfl, rfl, (rfl), Tryd.underlying48, rfl, sz48⟩ trivial
end Go.Proofs.YtmnhifagkcmhjaaDoor
namespace Go.Proofs.YtmnhifagkcmhjaaDoor
open Go.RowKit
set_option maxRecDepth 100000 in
theorem cbase_ev (e : Nat) (K : List UInt8) (hK : K.length = 32) : Meets Tryd.prog 34 [.aggB K] (HP e) (.aggB (bsN (tmV (usL K) 9) 32)) [] := by
  refine meets_of_ev (nt := 8) Tryd.func34 rfl rfl (Nat.le_of_ble_eq_true rfl) ?_
  refine .seq ?_
  refine .region ?_
  refine .a (op_boxRow rfl rfl) trivial rfl ?_
  refine .a (op_allocRow zero24 rel_zero24 rfl) trivial rfl ?_
  refine .nil ?_
  show Ev _ _ _ _ _
  refine .seq ?_
  refine .region ?_
  refine .q (op_loadRow Tryd.underlying24 rfl sz24 rfl rfl rfl (hK)) trivial rfl ?_
  refine .q (op_call (U := []) [] [] (cusable_ev K hK) Tryd.func94 (by kernel_rfl) rfl rfl rfl (⟨⟨_, rfl, rfl, rfl⟩, trivial⟩) (trivial) (trivial) (trivial) rfl) trivial rfl ?_
  refine .q (op_call (U := []) [] [] (fsmall_ev _) Tryd.func36 (by kernel_rfl) rfl rfl rfl (⟨⟨_, rfl, rfl, rfl⟩, trivial⟩) (trivial) (trivial) (trivial) rfl) trivial rfl ?_
  refine .as (.agg64 (fl 9)) rfl ?_
  refine .q (op_call (U := []) [] [] (ctimes_ev e (usL K) 9 ((length_usL K).trans hK) (show 9 < fp by decide)) Tryd.func93 (by kernel_rfl) rfl rfl rfl (⟨⟨_, rfl, rfl, rfl⟩, ⟨_, rfl, rfl, rfl⟩, trivial⟩) (⟨⟨_, _, rfl, rfl, rfl, rfl, id, rfl⟩, trivial⟩) (trivial) (⟨(fun h => by cases h), trivial⟩) rfl) trivial rfl ?_
  refine .as (.agg64 (fl (tmV (usL K) 9))) rfl ?_
  refine .q (op_call (U := []) [] [] (fbytes_ev (tmV (usL K) 9)) Tryd.func41 (by kernel_rfl) rfl rfl rfl (⟨⟨_, rfl, rfl, rfl⟩, trivial⟩) (trivial) (trivial) (trivial) rfl) trivial rfl ?_
  refine .as (.aggB (bsN (tmV (usL K) 9) 32)) rfl ?_
  refine .w (op_storeRow sz24 rfl rfl rfl rfl rfl (by simp [AV.len, length_bsN]) (by simp [AV.len])) trivial rfl ?_
  refine .nil ?_
  show Ev _ _ _ _ _
  refine .ret ?_
  show RetOk _ _ _ _ _ _ _
  exact retc1 rfl (.inl rfl) ⟨_, _, _, _, rfl, rfl, rfl, rfl, (length_bsN (tmV (usL K) 9) 32), Tryd.underlying24, rfl, sz24⟩ trivial
set_option maxRecDepth 100000 in
theorem cmult_ev (e : Nat) (K Q : List UInt8) (hK : K.length = 32) (hQ : Q.length = 32) : Meets Tryd.prog 61 [.aggB K, .aggB Q] (HP e) (.tup [.aggB (bsN (tmV (usL K) (ofV Q)) 32), .bool (!decide (tmV (usL K) (ofV Q) = 0))]) [] := by
  refine meets_of_ev (nt := 18) Tryd.func61 rfl rfl (Nat.le_of_ble_eq_true rfl) ?_
  refine .seq ?_
  refine .region ?_
  refine .a (op_boxRow rfl rfl) trivial rfl ?_
  refine .a (op_boxRow rfl rfl) trivial rfl ?_
  refine .a (op_allocRow zero24 rel_zero24 rfl) trivial rfl ?_
  refine .q (op_assign rfl) trivial rfl ?_
  refine .nil ?_
  show Ev _ _ _ _ _
  refine .seq ?_
  refine .drawn [[], [0], [], [2], [0, 1, 2, 3], [0, 1, 2, 3, 4], [], [0, 1, 2, 3, 4, 5, 6]] [0, 1, 2, 3, 4, 5, 6, 7] [7] (by kernel_rfl) (by kernel_rfl) rfl ?_
  show DK _ [0, 1, 2, 3, 4, 5, 6, 7] _ _ _
  refine .q rfl (op_loadRow Tryd.underlying24 rfl sz24 rfl rfl rfl (hK)) trivial ?_
  refine .q rfl (op_call (U := []) [] [] (cusable_ev K hK) Tryd.func94 (by kernel_rfl) rfl rfl rfl (⟨⟨_, rfl, rfl, rfl⟩, trivial⟩) (trivial) (trivial) (trivial) rfl) trivial ?_
  refine .q rfl (ap_slice_arr_hi Tryd.underlying24 inf5.sz rfl rfl (by first | omega | (simp [AV.len, hQ]; done)) (by decide) rfl (by first | omega | (simp [AV.len, hQ]; done))) trivial ?_
  refine .q rfl (op_bytes_str Tryd.underlying26 Tryd.underlying5 Tryd.underlying9 rfl rfl rfl (by first | omega | (simp [hQ]; done))) trivial ?_
  refine .as (.str Q) (by rw [List.drop_zero, List.take_of_length_le (Nat.le_of_eq hQ)]) ?_
  refine .q rfl (op_call (U := []) [] [] (fof_ev Q (by omega)) Tryd.func35 (by kernel_rfl) rfl rfl rfl (⟨⟨_, rfl, rfl, rfl⟩, trivial⟩) (trivial) (trivial) (trivial) rfl) trivial ?_
  refine .q rfl (op_call (U := []) [] [] (ctimes_ev e (usL K) (ofV Q) ((length_usL K).trans hK) (ofV_lt Q)) Tryd.func93 (by kernel_rfl) rfl rfl rfl (⟨⟨_, rfl, rfl, rfl⟩, ⟨_, rfl, rfl, rfl⟩, trivial⟩) (⟨⟨_, _, rfl, rfl, rfl, rfl, id, rfl⟩, trivial⟩) (trivial) (⟨(fun h => by cases h), trivial⟩) rfl) trivial ?_
  refine .as (.agg64 (fl (tmV (usL K) (ofV Q)))) rfl ?_
  refine .a rfl (op_allocRow zero48 rel_zero48 rfl) trivial rfl rfl ?_
  refine .w rfl (op_storeRow sz48 rfl rfl rfl rfl rfl (rfl) (rfl)) trivial rfl rfl ?_
  refine .nil ?_
  show Ev _ _ _ _ _
  refine .seq ?_
  refine .drawn [[], [0], [], [0, 1, 2], [0, 1, 2, 3], [0, 1, 2, 3], [0, 1, 2, 3, 4, 5]] [0, 1, 2, 3, 5] [5] (by kernel_rfl) (by kernel_rfl) rfl ?_
  show DK _ [0, 1, 2, 3, 4, 5, 6] _ _ _
  refine .q rfl (op_loadRow Tryd.underlying48 rfl sz48 rfl rfl rfl (rfl)) trivial ?_
  refine .q rfl (op_call (U := []) [] [] (fbytes_ev (tmV (usL K) (ofV Q))) Tryd.func41 (by kernel_rfl) rfl rfl rfl (⟨⟨_, rfl, rfl, rfl⟩, trivial⟩) (trivial) (trivial) (trivial) rfl) trivial ?_
  refine .as (.aggB (bsN (tmV (usL K) (ofV Q)) 32)) rfl ?_
  refine .q rfl (op_loadRow Tryd.underlying48 rfl sz48 rfl rfl rfl (rfl)) trivial ?_
  refine .q rfl (op_call (U := []) [] [] (fzero_ev (tmV (usL K) (ofV Q)) (tmV_lt _ _)) Tryd.func42 (by kernel_rfl) rfl rfl rfl (⟨⟨_, rfl, rfl, rfl⟩, trivial⟩) (trivial) (trivial) (trivial) rfl) trivial ?_
  refine .q rfl (op_notB rfl) trivial ?_
  refine .w rfl (op_storeRow sz24 rfl rfl rfl rfl rfl (by simp [AV.len, length_bsN]) (by simp [AV.len])) trivial rfl rfl ?_
  refine .q rfl (op_assign rfl) trivial ?_
  refine .nil ?_
  show Ev _ _ _ _ _
  refine .ret ?_
  show RetOk _ _ _ _ _ _ _
  exact retc2 rfl (.inl rfl) ⟨_, _, _, _, rfl, rfl, rfl, rfl, (length_bsN (tmV (usL K) (ofV Q)) 32), Tryd.underlying24, rfl, sz24⟩ rfl trivial
end Go.Proofs.YtmnhifagkcmhjaaDoor
namespace Go.Proofs.YtmnhifagkcmhjaaDoor
open Go.RowKit
theorem length_ka6 : ka6.length = 32 := rfl
theorem length_kb6 : kb6.length = 32 := rfl
theorem base6 (K : List UInt8) : tmV (usL K) 9 = tmC (usL K) 9 := tmC_eq _ _ (by decide)
def w6a : Nat := tmV (usL ka6) (ofV (bsN (tmV (usL kb6) 9) 32))
def w6b : Nat := tmV (usL kb6) (ofV (bsN (tmV (usL ka6) 9) 32))
theorem w6a_eq : w6a = tmC (usL ka6) (tmC (usL kb6) 9) := by
  unfold w6a
  rw [of_bytes _ (tmV_lt _ _), tmC_eq _ _ (tmV_lt _ _), base6]
theorem w6b_eq : w6b = tmC (usL kb6) (tmC (usL ka6) 9) := by
  unfold w6b
  rw [of_bytes _ (tmV_lt _ _), tmC_eq _ _ (tmV_lt _ _), base6]
theorem w6_same : w6a = w6b := by rw [w6a_eq, w6b_eq, fact6a]
theorem w6_ne : w6a ≠ 0 := by rw [w6a_eq]; exact fact6b
theorem w6_lt : w6a < fp := tmV_lt _ _
theorem bsN_zero : List.replicate 32 (0 : UInt8) = bsN 0 32 := by decide
theorem bs_ne (v : Nat) (h : v < fp) : (bsN v 32 != List.replicate 32 0) = !decide (v = 0) := by
  rw [bsN_zero]
  by_cases c : v = 0
  · subst c; simp
  · have : bsN v 32 ≠ bsN 0 32 := fun e => c (bsN_inj h fpos e)
    rw [decide_eq_false c]
    simpa using this
theorem bases_ne : (bsN (tmV (usL ka6) 9) 32 != bsN (tmV (usL kb6) 9) 32) = true := by
  have : bsN (tmV (usL ka6) 9) 32 ≠ bsN (tmV (usL kb6) 9) 32 := fun e => fact6c (by
    have := bsN_inj (tmV_lt _ _) (tmV_lt _ _) e
    rw [base6, base6] at this; exact this)
  simpa using this
set_option maxHeartbeats 1000000 in
set_option maxRecDepth 100000 in
theorem awake6_ev (e : Nat) : Meets Tryd.prog 60 [] (HP e) (.bool true) [] := by
  refine meets_of_ev (nt := 44) Tryd.func60 rfl rfl (Nat.le_of_ble_eq_true rfl) ?_
  refine .seq ?_
  refine .region ?_
  refine .q (op_assign rfl) trivial rfl ?_
  refine .nil ?_
  show Ev _ _ _ _ _
  refine .seq ?_
  refine .region ?_
  refine .q (op_buildArr (us := [(8, _)]) Tryd.underlying24 inf5.sz zero24 rel_zero24 rfl (by decide) ⟨rfl, rfl, rfl, trivial⟩ rfl) trivial rfl ?_
  refine .as (.aggB ka6) rfl ?_
  refine .q (op_buildArr (us := [(20, _)]) Tryd.underlying24 inf5.sz zero24 rel_zero24 rfl (by decide) ⟨rfl, rfl, rfl, trivial⟩ rfl) trivial rfl ?_
  refine .as (.aggB kb6) rfl ?_
  refine .a (op_allocRow zero24 rel_zero24 rfl) trivial rfl ?_
  refine .a (op_allocRow zero24 rel_zero24 rfl) trivial rfl ?_
  refine .w (op_storeRow sz24 rfl rfl rfl rfl rfl (by simp only [AV.len, length_ka6] <;> first | assumption | omega) (by simp only [AV.len, List.length_replicate] <;> first | assumption | omega)) trivial rfl ?_
  refine .w (op_storeRow sz24 rfl rfl rfl rfl rfl (by simp only [AV.len, length_kb6] <;> first | assumption | omega) (by simp only [AV.len, List.length_replicate] <;> first | assumption | omega)) trivial rfl ?_
  refine .nil ?_
  show Ev _ _ _ _ _
  refine .seq ?_
  refine .drawn [[], [], [1], [0, 1, 2], [0, 1, 2, 3], [0, 1, 2, 3, 4], [0, 1, 2, 3, 4], [], [0, 1, 2, 3, 4, 5, 7], [0, 1, 2, 3, 4, 5, 6, 7, 8]] [0, 1, 2, 3, 7, 8] [8] (by kernel_rfl) (by kernel_rfl) rfl ?_
  show DK _ [0, 1, 2, 3, 4, 5, 6, 7, 8, 9] _ _ _
  refine .q rfl (op_loadRow Tryd.underlying24 rfl sz24 rfl rfl rfl (by simp only [AV.len, length_ka6] <;> first | assumption | omega)) trivial ?_
  refine .q rfl (op_loadRow Tryd.underlying24 rfl sz24 rfl rfl rfl (by simp only [AV.len, length_kb6] <;> first | assumption | omega)) trivial ?_
  refine .q rfl (op_call (U := []) [] [] (cbase_ev e kb6 rfl) Tryd.func34 (by kernel_rfl) rfl rfl rfl (⟨⟨_, rfl, rfl, rfl⟩, trivial⟩) (⟨⟨_, _, rfl, rfl, rfl, rfl, id, rfl⟩, trivial⟩) (trivial) (⟨(fun h => by cases h), trivial⟩) rfl) trivial ?_
  refine .as (.aggB (bsN (tmV (usL kb6) 9) 32)) rfl ?_
  refine .q rfl (op_call (U := []) [] [] (cmult_ev e ka6 (bsN (tmV (usL kb6) 9) 32) rfl (length_bsN _ 32)) Tryd.func61 (by kernel_rfl) rfl rfl rfl (⟨⟨_, rfl, rfl, rfl⟩, ⟨_, rfl, rfl, rfl⟩, trivial⟩) (⟨⟨_, _, rfl, rfl, rfl, rfl, id, rfl⟩, trivial⟩) (trivial) (⟨(fun h => by cases h), trivial⟩) rfl) trivial ?_
  refine .as (.tup [.aggB (bsN w6a 32), .bool (!decide (w6a = 0))]) rfl ?_
  refine .q rfl (op_move rfl) trivial ?_
  refine .q rfl (op_extract rfl rfl) trivial ?_
  refine .q rfl (op_extract rfl rfl) trivial ?_
  refine .a rfl (op_allocRow zero24 rel_zero24 rfl) trivial rfl rfl ?_
  refine .w rfl (op_storeRow sz24 rfl rfl rfl rfl rfl (by simp only [AV.len, length_bsN] <;> first | assumption | omega) (by simp only [AV.len, List.length_replicate] <;> first | assumption | omega)) trivial rfl rfl ?_
  refine .q rfl (op_assign rfl) trivial ?_
  refine .nil ?_
  show Ev _ _ _ _ _
  refine .seq ?_
  refine .drawn [[], [], [1], [0, 1, 2], [0, 1, 2, 3], [0, 1, 2, 3, 4], [0, 1, 2, 3, 4], [], [0, 1, 2, 3, 4, 5, 7], [0, 1, 2, 3, 4, 5, 6, 7, 8]] [0, 1, 2, 3, 7, 8] [8] (by kernel_rfl) (by kernel_rfl) rfl ?_
  show DK _ [0, 1, 2, 3, 4, 5, 6, 7, 8, 9] _ _ _
  refine .q rfl (op_loadRow Tryd.underlying24 rfl sz24 rfl rfl rfl (by simp only [AV.len, length_kb6] <;> first | assumption | omega)) trivial ?_
  refine .q rfl (op_loadRow Tryd.underlying24 rfl sz24 rfl rfl rfl (by simp only [AV.len, length_ka6] <;> first | assumption | omega)) trivial ?_
  refine .q rfl (op_call (U := []) [] [] (cbase_ev e ka6 rfl) Tryd.func34 (by kernel_rfl) rfl rfl rfl (⟨⟨_, rfl, rfl, rfl⟩, trivial⟩) (⟨⟨_, _, rfl, rfl, rfl, rfl, id, rfl⟩, trivial⟩) (trivial) (⟨(fun h => by cases h), trivial⟩) rfl) trivial ?_
  refine .as (.aggB (bsN (tmV (usL ka6) 9) 32)) rfl ?_
  refine .q rfl (op_call (U := []) [] [] (cmult_ev e kb6 (bsN (tmV (usL ka6) 9) 32) rfl (length_bsN _ 32)) Tryd.func61 (by kernel_rfl) rfl rfl rfl (⟨⟨_, rfl, rfl, rfl⟩, ⟨_, rfl, rfl, rfl⟩, trivial⟩) (⟨⟨_, _, rfl, rfl, rfl, rfl, id, rfl⟩, trivial⟩) (trivial) (⟨(fun h => by cases h), trivial⟩) rfl) trivial ?_
  refine .as (.tup [.aggB (bsN w6b 32), .bool (!decide (w6b = 0))]) rfl ?_
  refine .q rfl (op_move rfl) trivial ?_
  refine .q rfl (op_extract rfl rfl) trivial ?_
  refine .q rfl (op_extract rfl rfl) trivial ?_
  refine .a rfl (op_allocRow zero24 rel_zero24 rfl) trivial rfl rfl ?_
  refine .w rfl (op_storeRow sz24 rfl rfl rfl rfl rfl (by simp only [AV.len, length_bsN] <;> first | assumption | omega) (by simp only [AV.len, List.length_replicate] <;> first | assumption | omega)) trivial rfl rfl ?_
  refine .q rfl (op_assign rfl) trivial ?_
  refine .nil ?_
  show Ev _ _ _ _ _
  refine .seq ?_
  refine .drawn [[], [], [0, 1], [0, 1, 2], [0, 1, 2, 3], [0, 1, 2, 3, 4], [0, 1, 2, 3, 4, 5], [0, 1, 2, 3, 4, 5, 6], [0, 1, 2, 3, 4, 5, 6, 7], [0, 1, 2, 3, 4, 5, 6, 7, 8], [0, 1, 2, 3, 4, 5, 6, 7, 8, 9], [0, 1, 2, 3, 4, 5, 6, 7, 8, 9], [0, 1, 2, 3, 4, 5, 6, 7, 8, 9, 10, 11], [0, 1, 2, 3, 4, 5, 6, 7, 8, 9, 10, 11, 12], [0, 1, 2, 3, 4, 5, 6, 7, 8, 9, 10, 11, 12, 13], [0, 1, 2, 3, 4, 5, 6, 7, 8, 9, 10, 11, 12, 13, 14], [0, 1, 2, 3, 4, 5, 6, 7, 8, 9, 10, 11, 12, 13, 14, 15], [0, 1, 2, 3, 4, 5, 6, 7, 8, 9, 10, 11, 12, 13, 14], [0, 1, 2, 3, 4, 5, 6, 7, 8, 9, 10, 11, 12, 13, 14, 15, 16, 17], [0, 1, 2, 3, 4, 5, 6, 7, 8, 9, 10, 11, 12, 13, 14, 15, 16, 17, 18], [0, 1, 2, 3, 4, 5, 6, 7, 8, 9, 10, 11, 12, 13, 14, 15, 16, 17, 18, 19], [0, 1, 2, 3, 4, 5, 6, 7, 8, 9, 10, 11, 12, 13, 14, 15, 16, 17, 18, 19, 20]] [0, 1, 10, 15, 16, 17, 18] [] (by kernel_rfl) (by kernel_rfl) rfl ?_
  show DK _ [0, 1, 2, 3, 4, 5, 6, 7, 8, 9, 10, 11, 12, 13, 14, 15, 16, 17, 18, 19, 20, 21] _ _ _
  refine .q rfl (op_loadRow Tryd.underlying24 rfl sz24 rfl rfl rfl (by simp only [AV.len, length_bsN] <;> first | assumption | omega)) trivial ?_
  refine .q rfl (op_loadRow Tryd.underlying24 rfl sz24 rfl rfl rfl (by simp only [AV.len, length_bsN] <;> first | assumption | omega)) trivial ?_
  refine .q rfl (op_eqRow8 (n := 32) (by kernel_rfl) Tryd.underlying24 Tryd.underlying5 inf5.sz rfl rfl (by simp only [length_bsN] <;> first | assumption | omega) (by simp only [length_bsN] <;> first | assumption | omega)) trivial ?_
  refine .q rfl (op_move rfl) trivial ?_
  refine .know (b' := true) (by rw [w6_same]; simp) ?_
  refine .q rfl (op_move rfl) ⟨_, rfl, rfl⟩ ?_
  refine .q rfl (op_pick_true rfl rfl rfl) trivial ?_
  refine .q rfl (op_move rfl) trivial ?_
  refine .know (b' := true) (by rw [decide_eq_false w6_ne]; rfl) ?_
  refine .q rfl (op_move rfl) ⟨_, rfl, rfl⟩ ?_
  refine .q rfl (op_pick_true rfl rfl rfl) trivial ?_
  refine .q rfl (op_move rfl) trivial ?_
  refine .know (b' := true) (by rw [← w6_same, decide_eq_false w6_ne]; rfl) ?_
  refine .q rfl (op_loadRow Tryd.underlying24 rfl sz24 rfl rfl rfl (by simp only [AV.len, length_bsN] <;> first | assumption | omega)) ⟨_, rfl, rfl⟩ ?_
  refine .q rfl (op_buildArr (us := []) Tryd.underlying24 inf5.sz zero24 rel_zero24 rfl (by decide) trivial rfl) ⟨_, rfl, rfl⟩ ?_
  refine .q rfl (op_neqRow8 (n := 32) (by kernel_rfl) Tryd.underlying24 Tryd.underlying5 inf5.sz rfl rfl (by simp only [length_bsN] <;> first | assumption | omega) (by simp only [List.length_replicate] <;> first | assumption | omega)) ⟨_, rfl, rfl⟩ ?_
  refine .q rfl (op_pick_true rfl rfl rfl) trivial ?_
  refine .q rfl (op_move rfl) trivial ?_
  refine .know (b' := true) (by rw [bs_ne _ w6_lt, decide_eq_false w6_ne]; rfl) ?_
  refine .q rfl (op_loadRow Tryd.underlying24 rfl sz24 rfl rfl rfl (by simp only [AV.len, length_ka6] <;> first | assumption | omega)) ⟨_, rfl, rfl⟩ ?_
  refine .q rfl (op_call (U := []) [] [] (cbase_ev e ka6 rfl) Tryd.func34 (by kernel_rfl) rfl rfl rfl (⟨⟨_, rfl, rfl, rfl⟩, trivial⟩) (⟨⟨_, _, rfl, rfl, rfl, rfl, id, rfl⟩, trivial⟩) (trivial) (⟨(fun h => by cases h), trivial⟩) rfl) ⟨_, rfl, rfl⟩ ?_
  refine .as (.aggB (bsN (tmV (usL ka6) 9) 32)) rfl ?_
  refine .q rfl (op_loadRow Tryd.underlying24 rfl sz24 rfl rfl rfl (by simp only [AV.len, length_kb6] <;> first | assumption | omega)) ⟨_, rfl, rfl⟩ ?_
  refine .q rfl (op_call (U := []) [] [] (cbase_ev e kb6 rfl) Tryd.func34 (by kernel_rfl) rfl rfl rfl (⟨⟨_, rfl, rfl, rfl⟩, trivial⟩) (⟨⟨_, _, rfl, rfl, rfl, rfl, id, rfl⟩, trivial⟩) (trivial) (⟨(fun h => by cases h), trivial⟩) rfl) ⟨_, rfl, rfl⟩ ?_
  refine .as (.aggB (bsN (tmV (usL kb6) 9) 32)) rfl ?_
  refine .q rfl (op_neqRow8 (n := 32) (by kernel_rfl) Tryd.underlying24 Tryd.underlying5 inf5.sz rfl rfl (by simp only [length_bsN] <;> first | assumption | omega) (by simp only [length_bsN] <;> first | assumption | omega)) ⟨_, rfl, rfl⟩ ?_
  refine .q rfl (op_pick_true rfl rfl rfl) trivial ?_
  refine .q rfl (op_assign rfl) trivial ?_
  refine .nil ?_
  show Ev _ _ _ _ _
  refine .ret ?_
  show RetOk _ _ _ _ _ _ _
  exact ret1v rfl (.inl rfl) rfl (congrArg AV.bool bases_ne) trivial
end Go.Proofs.YtmnhifagkcmhjaaDoor
