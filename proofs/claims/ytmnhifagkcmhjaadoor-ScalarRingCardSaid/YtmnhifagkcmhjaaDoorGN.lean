/-
  The scalars of the reference, walked; the fixed fact of layer 7.
-/
import Derived.Test.YtmnhifagkcmhjaaDoorGQ
import Derived.Test.YtmnhifagkcmhjaaDoorGE
import Derived.Test.YtmnhifagkcmhjaaDoorGT
import Derived.Test.YtmnhifagkcmhjaaDoorGK
namespace Go.Proofs.YtmnhifagkcmhjaaDoor
open Go.RowKit
theorem dl_mul (a b : Nat) : dl (a * b) ≤ dl a + dl b := by
  refine dl_le ?_
  rw [Nat.pow_add]
  have ha := dl_lt a
  have hb := dl_lt b
  rcases Nat.eq_zero_or_pos b with h | h
  · subst h; rw [Nat.mul_zero]; exact Nat.mul_pos (by omega) (by omega)
  · exact Nat.mul_lt_mul_of_lt_of_le ha (Nat.le_of_lt hb) (Nat.pow_pos (by decide))
theorem dl_two (k : Nat) : dl (2 ^ k) ≤ k / 16 + 1 := by
  refine dl_le ?_
  rw [show (65536 : Nat) = 2 ^ 16 from rfl, ← Nat.pow_mul]
  exact Nat.pow_lt_pow_right (by decide) (by omega)
theorem cmp_less {a b : Nat} (h : a < b) : cmpN a b = -1 := by unfold cmpN; rw [if_pos h]
theorem cmp_not {a b : Nat} (h : b ≤ a) : 0 ≤ cmpN a b := by unfold cmpN; rw [if_neg (by omega)]; split <;> decide
theorem cmp_neg {a b : Nat} : ¬ (0 ≤ cmpN a b) → a < b := fun h => by
  rcases Nat.lt_or_ge a b with c | c
  · exact c
  · exact absurd (cmp_not c) h
theorem cmp_pos {a b : Nat} : 0 ≤ cmpN a b → b ≤ a := fun h => by
  rcases Nat.lt_or_ge a b with c | c
  · rw [cmp_less c] at h; exact absurd h (by decide)
  · exact c
theorem two_ge (m k : Nat) : m ≤ m * 2 ^ k := Nat.le_mul_of_pos_right m (Nat.pow_pos (by decide))
theorem start_lt (a m : Nat) (h : m ≤ a) (h0 : 0 < m) : a < m * 2 ^ (16 * dl a + 16 - 16 * dl m + 1) := by
  have ha := dl_lt a
  have hm : 65536 ^ (dl m - 1) ≤ m := by
    rcases Nat.lt_or_ge m (65536 ^ (dl m - 1)) with c | c
    · have h1 := dl_le c
      have : dl m ≠ 0 := fun e => by have := dl_lt m; rw [e] at this; omega
      omega
    · exact c
  have hdl : dl m ≠ 0 := fun e => by have := dl_lt m; rw [e] at this; omega
  have hle := dl_mono2 h
  rw [show (65536 : Nat) = 2 ^ 16 from rfl, ← Nat.pow_mul] at ha hm
  have h2 : 2 ^ (16 * dl a) ≤ 2 ^ (16 * (dl m - 1)) * 2 ^ (16 * dl a + 16 - 16 * dl m + 1) := by
    rw [← Nat.pow_add]; exact Nat.pow_le_pow_right (by decide) (by omega)
  have h3 : 2 ^ (16 * (dl m - 1)) * 2 ^ (16 * dl a + 16 - 16 * dl m + 1) ≤ m * 2 ^ (16 * dl a + 16 - 16 * dl m + 1) := Nat.mul_le_mul_right _ hm
  omega
theorem sub_mod_mul (a m k : Nat) (h : m * k ≤ a) : (a - m * k) % m = a % m := by
  have e : a = (a - m * k) + m * k := by omega
  conv => rhs; rw [e, Nat.add_mul_mod_self_left]
theorem two_step (m n : Nat) : m * 2 ^ (n + 1) = m * 2 ^ n + m * 2 ^ n := by rw [Nat.pow_succ]; grind
set_option maxHeartbeats 1000000 in
set_option maxRecDepth 100000 in
theorem mod_id (a m : Nat) (h : a < m) (ha : dl a ≤ 200) (hm : dl m ≤ 200) : Meets Tryd.prog 71 [.sl 500 0 (dl a) 1, .sl 501 0 (dl m) 1] [(500, some ⟨.aggI (dg a), 3, false⟩), (501, some ⟨.aggI (dg m), 3, false⟩)] (.sl 500 0 (dl a) 1) [] := by
  have hda := length_dg a
  have hdm := length_dg m
  refine meets_of_ev (nt := 31) Tryd.func71 rfl rfl (Nat.le_of_ble_eq_true rfl) ?_
  refine .seq ?_
  refine .region ?_
  refine .q (op_assign rfl) trivial rfl ?_
  refine .nil ?_
  show Ev _ _ _ _ _
  refine .seq ?_
  refine .region ?_
  refine .q (op_move rfl) trivial rfl ?_
  refine .q (op_len_sl Tryd.underlying39 rfl) trivial rfl ?_
  refine .q (op_mulI rfl rfl ⟨by omega, by omega⟩) trivial rfl ?_
  refine .q (op_move rfl) trivial rfl ?_
  refine .q (op_len_sl Tryd.underlying39 rfl) trivial rfl ?_
  refine .q (op_mulI rfl rfl ⟨by omega, by omega⟩) trivial rfl ?_
  refine .q (op_subI rfl rfl ⟨by first | omega | (simp only [AV.len]; omega) | (simp only [AV.len, List.length_set]; omega) | assumption | (simp [AV.len]; done), by first | omega | (simp only [AV.len]; omega) | (simp only [AV.len, List.length_set]; omega) | assumption | (simp [AV.len]; done)⟩) trivial rfl ?_
  refine .q (op_addI rfl rfl ⟨by first | omega | (simp only [AV.len]; omega) | (simp only [AV.len, List.length_set]; omega) | assumption | (simp [AV.len]; done), by first | omega | (simp only [AV.len]; omega) | (simp only [AV.len, List.length_set]; omega) | assumption | (simp [AV.len]; done)⟩) trivial rfl ?_
  refine .q (op_assign rfl) trivial rfl ?_
  refine .nil ?_
  show Ev _ _ _ _ _
  refine .seq ?_
  refine .block ?_
  refine Ev.loop (ι := { n : Int // n ≤ 4000 ∧ -4000 ≤ n }) (fun q => ⟨[(0, .sl 500 0 (dl a) 1), (1, .sl 501 0 (dl m) 1), (5, .i64 q.1)], [(500, some ⟨.aggI (dg a), 3, false⟩), (501, some ⟨.aggI (dg m), 3, false⟩)], 1000⟩) (fun q => (q.1 + 4000).toNat) ⟨16 * (dl a : Int) - 16 * (dl m : Int) + 16, by omega⟩ (StLe.mk [] rfl rfl ⟨⟨_, rfl, by rfl, rfl⟩, ⟨_, rfl, by rfl, rfl⟩, ⟨_, rfl, by (first | rfl | (show AV.i64 _ = AV.i64 _; congr 1; omega)), rfl⟩, trivial⟩ ⟨⟨_, _, rfl, rfl, rfl, rfl, id, rfl⟩, ⟨_, _, rfl, rfl, rfl, rfl, id, rfl⟩, trivial⟩) ?_
  rintro ⟨n, hn⟩
  try dsimp only
  refine .seq ?_
  refine .seq ?_
  refine .region ?_
  refine .q (op_move rfl) trivial rfl ?_
  refine .q (op_cmpI rfl rfl rfl) trivial rfl ?_
  refine .nil ?_
  show Ev _ _ _ _ _
  refine .cond rfl (fun hc16 => ?_) (fun hc16 => ?_)
  · first | replace hc16 := of_decide_eq_true hc16 | replace hc16 := of_decide_eq_false hc16 | replace hc16 := eq_of_beq hc16 | replace hc16 := ne_of_beq_false hc16 | simp only [bne_iff_ne, ne_eq] at hc16 | simp only [bne_eq_false_iff_eq] at hc16
    refine .skip ?_
    show Ev _ _ _ _ _
    refine .block ?_
    refine .seq ?_
    refine .region ?_
    refine .q (op_move rfl) trivial rfl ?_
    refine .q (op_move rfl) trivial rfl ?_
    refine .as (.i64 ((n.toNat : Nat) : Int)) (congrArg AV.i64 (by omega)) ?_
    refine .a (op_call (U := [(1000, some ⟨.aggI (dg (2 ^ (n.toNat))), 3, true⟩)]) [] [(1000, 1000)] (power_ev (n.toNat) (by omega)) Tryd.func83 (by kernel_rfl) rfl rfl rfl (⟨⟨_, rfl, rfl, rfl⟩, trivial⟩) (trivial) (⟨⟨1000, _, rfl, rfl, rfl, rfl, .inl rfl⟩, trivial⟩) (trivial) rfl) trivial rfl ?_
    refine .a (op_call (U := [(1008, some ⟨.aggI (dg (m * 2 ^ (n.toNat))), 3, true⟩)]) [(500, 501), (501, 1000)] [(1008, 1000)] (mul_ev m (2 ^ (n.toNat)) (by omega) (by have := dl_two (n.toNat); omega)) Tryd.func77 (by kernel_rfl) rfl rfl rfl (⟨⟨_, rfl, rfl, rfl⟩, ⟨_, rfl, rfl, rfl⟩, trivial⟩) (⟨⟨_, _, rfl, rfl, rfl, rfl, (fun h => by cases h), rfl⟩, ⟨_, _, rfl, rfl, rfl, rfl, (fun h => by cases h), rfl⟩, trivial⟩) (⟨⟨1000, _, rfl, rfl, rfl, rfl, .inl rfl⟩, trivial⟩) (⟨(fun h => by cases h), (fun h => by cases h), trivial⟩) rfl) trivial rfl ?_
    refine .q (op_assign rfl) trivial rfl ?_
    refine .nil ?_
    show Ev _ _ _ _ _
    refine .seq ?_
    refine .region ?_
    refine .q (op_move rfl) trivial rfl ?_
    refine .q (op_move rfl) trivial rfl ?_
    refine .q (op_call (U := []) [(500, 500), (501, 1008)] [] (cmp_ev (a) (m * 2 ^ (n.toNat)) (by omega) (by have h1 := dl_two (n.toNat); have h2 := dl_mul m (2 ^ (n.toNat)); omega)) Tryd.func78 (by kernel_rfl) rfl rfl rfl (⟨⟨_, rfl, rfl, rfl⟩, ⟨_, rfl, rfl, rfl⟩, trivial⟩) (⟨⟨_, _, rfl, rfl, rfl, rfl, (fun h => by cases h), rfl⟩, ⟨_, _, rfl, rfl, rfl, rfl, (fun h => by cases h), rfl⟩, trivial⟩) (trivial) (⟨(fun h => by cases h), (fun h => by cases h), trivial⟩) rfl) trivial rfl ?_
    refine .q (op_cmpI rfl rfl rfl) trivial rfl ?_
    refine .nil ?_
    show Ev _ _ _ _ _
    refine .cond_false rfl (decide_eq_false (by show ¬ (0 ≤ cmpN a (m * 2 ^ n.toNat)); rw [cmp_less (Nat.lt_of_lt_of_le h (two_ge m n.toNat))]; decide)) ?_
    refine .region ?_
    refine .q (op_move rfl) trivial rfl ?_
    refine .q (op_subI rfl rfl ⟨by first | omega | (simp only [AV.len]; omega) | (simp only [AV.len, List.length_set]; omega) | assumption | (simp [AV.len]; done), by first | omega | (simp only [AV.len]; omega) | (simp only [AV.len, List.length_set]; omega) | assumption | (simp [AV.len]; done)⟩) trivial rfl ?_
    refine .q (op_assign rfl) trivial rfl ?_
    refine .nil ?_
    exact ⟨⟨n - 1, by omega⟩, by dsimp only; omega, StLe.mk [] rfl rfl ⟨⟨_, rfl, by rfl, rfl⟩, ⟨_, rfl, by rfl, rfl⟩, ⟨_, rfl, by (first | rfl | (show AV.i64 _ = AV.i64 _; congr 1; omega)), rfl⟩, trivial⟩ ⟨⟨_, _, rfl, rfl, rfl, rfl, id, rfl⟩, ⟨_, _, rfl, rfl, rfl, rfl, id, rfl⟩, trivial⟩⟩
  · first | replace hc16 := of_decide_eq_true hc16 | replace hc16 := of_decide_eq_false hc16 | replace hc16 := eq_of_beq hc16 | replace hc16 := ne_of_beq_false hc16 | simp only [bne_iff_ne, ne_eq] at hc16 | simp only [bne_eq_false_iff_eq] at hc16
    refine .exit ?_
    show Ev _ _ _ _ _
    refine .seq ?_
    refine .region ?_
    refine .q (op_move rfl) trivial rfl ?_
    refine .q (op_assign rfl) trivial rfl ?_
    refine .nil ?_
    show Ev _ _ _ _ _
    refine .ret ?_
    show RetOk _ _ _ _ _ _ _
    exact ret1v rfl (.inl rfl) rfl rfl trivial
set_option maxHeartbeats 1000000 in
set_option maxRecDepth 100000 in
theorem mod_new (a m : Nat) (h : m ≤ a) (h0 : 0 < m) (ha : dl a ≤ 200) (hm : dl m ≤ 200) : Meets Tryd.prog 71 [.sl 500 0 (dl a) 1, .sl 501 0 (dl m) 1] [(500, some ⟨.aggI (dg a), 3, false⟩), (501, some ⟨.aggI (dg m), 3, false⟩)] (.sl 1000 0 (dl (a % m)) 1) [(1000, some ⟨.aggI (dg (a % m)), 3, true⟩)] := by
  have hda := length_dg a
  have hdm := length_dg m
  have hmono := dl_mono2 h
  refine meets_of_ev (nt := 31) Tryd.func71 rfl rfl (Nat.le_of_ble_eq_true rfl) ?_
  refine .seq ?_
  refine .region ?_
  refine .q (op_assign rfl) trivial rfl ?_
  refine .nil ?_
  show Ev _ _ _ _ _
  refine .seq ?_
  refine .region ?_
  refine .q (op_move rfl) trivial rfl ?_
  refine .q (op_len_sl Tryd.underlying39 rfl) trivial rfl ?_
  refine .q (op_mulI rfl rfl ⟨by first | omega | (simp only [AV.len]; omega) | (simp only [AV.len, List.length_set]; omega) | assumption | (simp [AV.len]; done), by first | omega | (simp only [AV.len]; omega) | (simp only [AV.len, List.length_set]; omega) | assumption | (simp [AV.len]; done)⟩) trivial rfl ?_
  refine .q (op_move rfl) trivial rfl ?_
  refine .q (op_len_sl Tryd.underlying39 rfl) trivial rfl ?_
  refine .q (op_mulI rfl rfl ⟨by first | omega | (simp only [AV.len]; omega) | (simp only [AV.len, List.length_set]; omega) | assumption | (simp [AV.len]; done), by first | omega | (simp only [AV.len]; omega) | (simp only [AV.len, List.length_set]; omega) | assumption | (simp [AV.len]; done)⟩) trivial rfl ?_
  refine .q (op_subI rfl rfl ⟨by first | omega | (simp only [AV.len]; omega) | (simp only [AV.len, List.length_set]; omega) | assumption | (simp [AV.len]; done), by first | omega | (simp only [AV.len]; omega) | (simp only [AV.len, List.length_set]; omega) | assumption | (simp [AV.len]; done)⟩) trivial rfl ?_
  refine .q (op_addI rfl rfl ⟨by first | omega | (simp only [AV.len]; omega) | (simp only [AV.len, List.length_set]; omega) | assumption | (simp [AV.len]; done), by first | omega | (simp only [AV.len]; omega) | (simp only [AV.len, List.length_set]; omega) | assumption | (simp [AV.len]; done)⟩) trivial rfl ?_
  refine .q (op_assign rfl) trivial rfl ?_
  refine .nil ?_
  show Ev _ _ _ _ _
  refine .seq ?_
  refine .block ?_
  refine Ev.loop (ι := { n : Nat // a < m * 2 ^ (n + 1) ∧ n ≤ 4000 } ⊕ { p : Nat × Int // p.1 % m = a % m ∧ -1 ≤ p.2 ∧ p.2 ≤ 4000 ∧ p.1 < m * 2 ^ (p.2 + 1).toNat ∧ dl p.1 ≤ 200 }) (fun q => match q with | .inl n => ⟨[(0, .sl 500 0 (dl a) 1), (1, .sl 501 0 (dl m) 1), (5, .i64 ((n.1 : Nat) : Int))], [(500, some ⟨.aggI (dg a), 3, false⟩), (501, some ⟨.aggI (dg m), 3, false⟩)], 1000⟩ | .inr p => ⟨[(0, .sl 1000 0 (dl p.1.1) 1), (1, .sl 501 0 (dl m) 1), (5, .i64 p.1.2)], [(1000, some ⟨.aggI (dg p.1.1), 3, true⟩), (501, some ⟨.aggI (dg m), 3, false⟩)], 1008⟩) (fun q => match q with | .inl n => a + n.1 + 1 | .inr p => p.1.1 + (p.1.2 + 1).toNat) (.inl ⟨16 * dl a + 16 - 16 * dl m, start_lt a m h h0, by omega⟩) (StLe.mk [] rfl rfl ⟨⟨_, rfl, by rfl, rfl⟩, ⟨_, rfl, by rfl, rfl⟩, ⟨_, rfl, by (show AV.i64 _ = AV.i64 ((16 * dl a + 16 - 16 * dl m : Nat) : Int); congr 1; omega), rfl⟩, trivial⟩ ⟨⟨_, _, rfl, rfl, rfl, rfl, id, rfl⟩, ⟨_, _, rfl, rfl, rfl, rfl, id, rfl⟩, trivial⟩) ?_
  rintro (⟨n, hn, hn4⟩ | ⟨⟨x, n⟩, hx1, hx2, hx3, hx4, hx5⟩)
  · try dsimp only
    have hn1 : ¬ (0 ≤ cmpN a (m * 2 ^ n)) → 1 ≤ n := fun hq => by
      have := cmp_neg hq
      rcases Nat.eq_zero_or_pos n with e | e
      · rw [e, Nat.pow_zero, Nat.mul_one] at this; omega
      · exact e
    refine .seq ?_
    refine .seq ?_
    refine .region ?_
    refine .q (op_move rfl) trivial rfl ?_
    refine .q (op_cmpI rfl rfl rfl) trivial rfl ?_
    refine .nil ?_
    show Ev _ _ _ _ _
    refine .cond_true rfl (decide_eq_true (by omega)) ?_
    refine .skip ?_
    show Ev _ _ _ _ _
    refine .block ?_
    refine .seq ?_
    refine .region ?_
    refine .q (op_move rfl) trivial rfl ?_
    refine .q (op_move rfl) trivial rfl ?_
    refine .a (op_call (U := [(1000, some ⟨.aggI (dg (2 ^ (n))), 3, true⟩)]) [] [(1000, 1000)] (power_ev (n) (by omega)) Tryd.func83 (by kernel_rfl) rfl rfl rfl (⟨⟨_, rfl, rfl, rfl⟩, trivial⟩) (trivial) (⟨⟨1000, _, rfl, rfl, rfl, rfl, .inl rfl⟩, trivial⟩) (trivial) rfl) trivial rfl ?_
    refine .a (op_call (U := [(1008, some ⟨.aggI (dg (m * 2 ^ (n))), 3, true⟩)]) [(500, 501), (501, 1000)] [(1008, 1000)] (mul_ev m (2 ^ (n)) (by omega) (by have := dl_two (n); omega)) Tryd.func77 (by kernel_rfl) rfl rfl rfl (⟨⟨_, rfl, rfl, rfl⟩, ⟨_, rfl, rfl, rfl⟩, trivial⟩) (⟨⟨_, _, rfl, rfl, rfl, rfl, (fun h => by cases h), rfl⟩, ⟨_, _, rfl, rfl, rfl, rfl, (fun h => by cases h), rfl⟩, trivial⟩) (⟨⟨1000, _, rfl, rfl, rfl, rfl, .inl rfl⟩, trivial⟩) (⟨(fun h => by cases h), (fun h => by cases h), trivial⟩) rfl) trivial rfl ?_
    refine .q (op_assign rfl) trivial rfl ?_
    refine .nil ?_
    show Ev _ _ _ _ _
    refine .seq ?_
    refine .region ?_
    refine .q (op_move rfl) trivial rfl ?_
    refine .q (op_move rfl) trivial rfl ?_
    refine .q (op_call (U := []) [(500, 500), (501, 1008)] [] (cmp_ev (a) (m * 2 ^ (n)) (by omega) (by have h1 := dl_two (n); have h2 := dl_mul m (2 ^ (n)); omega)) Tryd.func78 (by kernel_rfl) rfl rfl rfl (⟨⟨_, rfl, rfl, rfl⟩, ⟨_, rfl, rfl, rfl⟩, trivial⟩) (⟨⟨_, _, rfl, rfl, rfl, rfl, (fun h => by cases h), rfl⟩, ⟨_, _, rfl, rfl, rfl, rfl, (fun h => by cases h), rfl⟩, trivial⟩) (trivial) (⟨(fun h => by cases h), (fun h => by cases h), trivial⟩) rfl) trivial rfl ?_
    refine .q (op_cmpI rfl rfl rfl) trivial rfl ?_
    refine .nil ?_
    show Ev _ _ _ _ _
    refine .cond rfl (fun hc24 => ?_) (fun hc24 => ?_)
    · first | replace hc24 := of_decide_eq_true hc24 | replace hc24 := of_decide_eq_false hc24 | replace hc24 := eq_of_beq hc24 | replace hc24 := ne_of_beq_false hc24 | simp only [bne_iff_ne, ne_eq] at hc24 | simp only [bne_eq_false_iff_eq] at hc24
      refine .region ?_
      refine .q (op_move rfl) trivial rfl ?_
      refine .q (op_move rfl) trivial rfl ?_
      refine .a (op_call (U := [(1016, some ⟨.aggI (dg (a - m * 2 ^ (n))), 3, true⟩)]) [(500, 500), (501, 1008)] [(1016, 1000)] (sub_ev (a) (m * 2 ^ (n)) (cmp_pos hc24) (by omega) (by have h1 := dl_two (n); have h2 := dl_mul m (2 ^ (n)); omega)) Tryd.func82 (by kernel_rfl) rfl rfl rfl (⟨⟨_, rfl, rfl, rfl⟩, ⟨_, rfl, rfl, rfl⟩, trivial⟩) (⟨⟨_, _, rfl, rfl, rfl, rfl, (fun h => by cases h), rfl⟩, ⟨_, _, rfl, rfl, rfl, rfl, (fun h => by cases h), rfl⟩, trivial⟩) (⟨⟨1000, _, rfl, rfl, rfl, rfl, .inl rfl⟩, trivial⟩) (⟨(fun h => by cases h), (fun h => by cases h), trivial⟩) rfl) trivial rfl ?_
      refine .q (op_assign rfl) trivial rfl ?_
      refine .nil ?_
      first
      | exact ⟨.inr ⟨(a - m * 2 ^ n, (n : Int)), sub_mod_mul a m _ (cmp_pos hc24), by show (-1 : Int) ≤ n; omega, by show (n : Int) ≤ 4000; omega, by show a - m * 2 ^ n < m * 2 ^ ((n : Int) + 1).toNat; rw [show ((n : Int) + 1).toNat = n + 1 by omega]; have := two_step m n; omega, Nat.le_trans (dl_mono2 (Nat.sub_le _ _)) ha⟩, by show a - m * 2 ^ n + ((n : Int) + 1).toNat < a + n + 1; have := two_ge m n; have := cmp_pos hc24; omega, StLe.mk [(1000, 1016)] rfl rfl ⟨⟨_, rfl, by rfl, rfl⟩, ⟨_, rfl, by rfl, rfl⟩, ⟨_, rfl, by rfl, rfl⟩, trivial⟩ ⟨⟨_, _, rfl, rfl, rfl, rfl, id, rfl⟩, ⟨_, _, rfl, rfl, rfl, rfl, id, rfl⟩, trivial⟩⟩
      | exact ⟨.inl ⟨n - 1, by have := hn1 hc24; rw [show n - 1 + 1 = n by omega]; exact cmp_neg hc24, by omega⟩, by show a + (n - 1) + 1 < a + n + 1; have := hn1 hc24; omega, StLe.mk [] rfl rfl ⟨⟨_, rfl, by rfl, rfl⟩, ⟨_, rfl, by rfl, rfl⟩, ⟨_, rfl, by (have := hn1 hc24; show AV.i64 _ = AV.i64 ((n - 1 : Nat) : Int); congr 1; omega), rfl⟩, trivial⟩ ⟨⟨_, _, rfl, rfl, rfl, rfl, id, rfl⟩, ⟨_, _, rfl, rfl, rfl, rfl, id, rfl⟩, trivial⟩⟩
    · first | replace hc24 := of_decide_eq_true hc24 | replace hc24 := of_decide_eq_false hc24 | replace hc24 := eq_of_beq hc24 | replace hc24 := ne_of_beq_false hc24 | simp only [bne_iff_ne, ne_eq] at hc24 | simp only [bne_eq_false_iff_eq] at hc24
      refine .region ?_
      refine .q (op_move rfl) trivial rfl ?_
      refine .q (op_subI rfl rfl ⟨by first | omega | (simp only [AV.len]; omega) | (simp only [AV.len, List.length_set]; omega) | assumption | (simp [AV.len]; done), by first | omega | (simp only [AV.len]; omega) | (simp only [AV.len, List.length_set]; omega) | assumption | (simp [AV.len]; done)⟩) trivial rfl ?_
      refine .q (op_assign rfl) trivial rfl ?_
      refine .nil ?_
      first
      | exact ⟨.inr ⟨(a - m * 2 ^ n, (n : Int)), sub_mod_mul a m _ (cmp_pos hc24), by show (-1 : Int) ≤ n; omega, by show (n : Int) ≤ 4000; omega, by show a - m * 2 ^ n < m * 2 ^ ((n : Int) + 1).toNat; rw [show ((n : Int) + 1).toNat = n + 1 by omega]; have := two_step m n; omega, Nat.le_trans (dl_mono2 (Nat.sub_le _ _)) ha⟩, by show a - m * 2 ^ n + ((n : Int) + 1).toNat < a + n + 1; have := two_ge m n; have := cmp_pos hc24; omega, StLe.mk [(1000, 1016)] rfl rfl ⟨⟨_, rfl, by rfl, rfl⟩, ⟨_, rfl, by rfl, rfl⟩, ⟨_, rfl, by rfl, rfl⟩, trivial⟩ ⟨⟨_, _, rfl, rfl, rfl, rfl, id, rfl⟩, ⟨_, _, rfl, rfl, rfl, rfl, id, rfl⟩, trivial⟩⟩
      | exact ⟨.inl ⟨n - 1, by have := hn1 hc24; rw [show n - 1 + 1 = n by omega]; exact cmp_neg hc24, by omega⟩, by show a + (n - 1) + 1 < a + n + 1; have := hn1 hc24; omega, StLe.mk [] rfl rfl ⟨⟨_, rfl, by rfl, rfl⟩, ⟨_, rfl, by rfl, rfl⟩, ⟨_, rfl, by (have := hn1 hc24; show AV.i64 _ = AV.i64 ((n - 1 : Nat) : Int); congr 1; omega), rfl⟩, trivial⟩ ⟨⟨_, _, rfl, rfl, rfl, rfl, id, rfl⟩, ⟨_, _, rfl, rfl, rfl, rfl, id, rfl⟩, trivial⟩⟩
  · try dsimp only
    replace hx1 : x % m = a % m := hx1
    replace hx2 : -1 ≤ n := hx2
    replace hx3 : n ≤ 4000 := hx3
    replace hx4 : x < m * 2 ^ (n + 1).toNat := hx4
    replace hx5 : dl x ≤ 200 := hx5
    have hlx := length_dg x
    refine .seq ?_
    refine .seq ?_
    refine .region ?_
    refine .q (op_move rfl) trivial rfl ?_
    refine .q (op_cmpI rfl rfl rfl) trivial rfl ?_
    refine .nil ?_
    show Ev _ _ _ _ _
    refine .cond rfl (fun hc16 => ?_) (fun hc16 => ?_)
    · first | replace hc16 := of_decide_eq_true hc16 | replace hc16 := of_decide_eq_false hc16 | replace hc16 := eq_of_beq hc16 | replace hc16 := ne_of_beq_false hc16 | simp only [bne_iff_ne, ne_eq] at hc16 | simp only [bne_eq_false_iff_eq] at hc16
      refine .skip ?_
      show Ev _ _ _ _ _
      refine .block ?_
      refine .seq ?_
      refine .region ?_
      refine .q (op_move rfl) trivial rfl ?_
      refine .q (op_move rfl) trivial rfl ?_
      refine .as (.i64 ((n.toNat : Nat) : Int)) (congrArg AV.i64 (by omega)) ?_
      refine .a (op_call (U := [(1008, some ⟨.aggI (dg (2 ^ (n.toNat))), 3, true⟩)]) [] [(1008, 1000)] (power_ev (n.toNat) (by omega)) Tryd.func83 (by kernel_rfl) rfl rfl rfl (⟨⟨_, rfl, rfl, rfl⟩, trivial⟩) (trivial) (⟨⟨1000, _, rfl, rfl, rfl, rfl, .inl rfl⟩, trivial⟩) (trivial) rfl) trivial rfl ?_
      refine .a (op_call (U := [(1016, some ⟨.aggI (dg (m * 2 ^ (n.toNat))), 3, true⟩)]) [(500, 501), (501, 1008)] [(1016, 1000)] (mul_ev m (2 ^ (n.toNat)) (by omega) (by have := dl_two (n.toNat); omega)) Tryd.func77 (by kernel_rfl) rfl rfl rfl (⟨⟨_, rfl, rfl, rfl⟩, ⟨_, rfl, rfl, rfl⟩, trivial⟩) (⟨⟨_, _, rfl, rfl, rfl, rfl, (fun h => by cases h), rfl⟩, ⟨_, _, rfl, rfl, rfl, rfl, (fun h => by cases h), rfl⟩, trivial⟩) (⟨⟨1000, _, rfl, rfl, rfl, rfl, .inl rfl⟩, trivial⟩) (⟨(fun h => by cases h), (fun h => by cases h), trivial⟩) rfl) trivial rfl ?_
      refine .q (op_assign rfl) trivial rfl ?_
      refine .nil ?_
      show Ev _ _ _ _ _
      refine .seq ?_
      refine .region ?_
      refine .q (op_move rfl) trivial rfl ?_
      refine .q (op_move rfl) trivial rfl ?_
      refine .q (op_call (U := []) [(500, 1000), (501, 1016)] [] (cmp_ev (x) (m * 2 ^ (n.toNat)) (by omega) (by have h1 := dl_two (n.toNat); have h2 := dl_mul m (2 ^ (n.toNat)); omega)) Tryd.func78 (by kernel_rfl) rfl rfl rfl (⟨⟨_, rfl, rfl, rfl⟩, ⟨_, rfl, rfl, rfl⟩, trivial⟩) (⟨⟨_, _, rfl, rfl, rfl, rfl, (fun h => by cases h), rfl⟩, ⟨_, _, rfl, rfl, rfl, rfl, (fun h => by cases h), rfl⟩, trivial⟩) (trivial) (⟨(fun h => by cases h), (fun h => by cases h), trivial⟩) rfl) trivial rfl ?_
      refine .q (op_cmpI rfl rfl rfl) trivial rfl ?_
      refine .nil ?_
      show Ev _ _ _ _ _
      refine .cond rfl (fun hc24 => ?_) (fun hc24 => ?_)
      · first | replace hc24 := of_decide_eq_true hc24 | replace hc24 := of_decide_eq_false hc24 | replace hc24 := eq_of_beq hc24 | replace hc24 := ne_of_beq_false hc24 | simp only [bne_iff_ne, ne_eq] at hc24 | simp only [bne_eq_false_iff_eq] at hc24
        refine .region ?_
        refine .q (op_move rfl) trivial rfl ?_
        refine .q (op_move rfl) trivial rfl ?_
        refine .a (op_call (U := [(1024, some ⟨.aggI (dg (x - m * 2 ^ (n.toNat))), 3, true⟩)]) [(500, 1000), (501, 1016)] [(1024, 1000)] (sub_ev (x) (m * 2 ^ (n.toNat)) (cmp_pos hc24) (by omega) (by have h1 := dl_two (n.toNat); have h2 := dl_mul m (2 ^ (n.toNat)); omega)) Tryd.func82 (by kernel_rfl) rfl rfl rfl (⟨⟨_, rfl, rfl, rfl⟩, ⟨_, rfl, rfl, rfl⟩, trivial⟩) (⟨⟨_, _, rfl, rfl, rfl, rfl, (fun h => by cases h), rfl⟩, ⟨_, _, rfl, rfl, rfl, rfl, (fun h => by cases h), rfl⟩, trivial⟩) (⟨⟨1000, _, rfl, rfl, rfl, rfl, .inl rfl⟩, trivial⟩) (⟨(fun h => by cases h), (fun h => by cases h), trivial⟩) rfl) trivial rfl ?_
        refine .q (op_assign rfl) trivial rfl ?_
        refine .nil ?_
        first
        | exact ⟨.inr ⟨(x - m * 2 ^ n.toNat, n), (sub_mod_mul x m _ (cmp_pos hc24)).trans hx1, hx2, hx3, by show x - m * 2 ^ n.toNat < m * 2 ^ (n + 1).toNat; omega, Nat.le_trans (dl_mono2 (Nat.sub_le _ _)) hx5⟩, by show x - m * 2 ^ n.toNat + (n + 1).toNat < x + (n + 1).toNat; have := two_ge m n.toNat; have := cmp_pos hc24; omega, StLe.mk [(1000, 1024)] rfl rfl ⟨⟨_, rfl, by rfl, rfl⟩, ⟨_, rfl, by rfl, rfl⟩, ⟨_, rfl, by rfl, rfl⟩, trivial⟩ ⟨⟨_, _, rfl, rfl, rfl, rfl, id, rfl⟩, ⟨_, _, rfl, rfl, rfl, rfl, id, rfl⟩, trivial⟩⟩
        | exact ⟨.inr ⟨(x, n - 1), hx1, by show -1 ≤ n - 1; omega, by show n - 1 ≤ 4000; omega, by show x < m * 2 ^ (n - 1 + 1).toNat; rw [show (n - 1 + 1).toNat = n.toNat by omega]; exact cmp_neg hc24, hx5⟩, by show x + (n - 1 + 1).toNat < x + (n + 1).toNat; omega, StLe.mk [(1000, 1000)] rfl rfl ⟨⟨_, rfl, by rfl, rfl⟩, ⟨_, rfl, by rfl, rfl⟩, ⟨_, rfl, by rfl, rfl⟩, trivial⟩ ⟨⟨_, _, rfl, rfl, rfl, rfl, id, rfl⟩, ⟨_, _, rfl, rfl, rfl, rfl, id, rfl⟩, trivial⟩⟩
      · first | replace hc24 := of_decide_eq_true hc24 | replace hc24 := of_decide_eq_false hc24 | replace hc24 := eq_of_beq hc24 | replace hc24 := ne_of_beq_false hc24 | simp only [bne_iff_ne, ne_eq] at hc24 | simp only [bne_eq_false_iff_eq] at hc24
        refine .region ?_
        refine .q (op_move rfl) trivial rfl ?_
        refine .q (op_subI rfl rfl ⟨by first | omega | (simp only [AV.len]; omega) | (simp only [AV.len, List.length_set]; omega) | assumption | (simp [AV.len]; done), by first | omega | (simp only [AV.len]; omega) | (simp only [AV.len, List.length_set]; omega) | assumption | (simp [AV.len]; done)⟩) trivial rfl ?_
        refine .q (op_assign rfl) trivial rfl ?_
        refine .nil ?_
        first
        | exact ⟨.inr ⟨(x - m * 2 ^ n.toNat, n), (sub_mod_mul x m _ (cmp_pos hc24)).trans hx1, hx2, hx3, by show x - m * 2 ^ n.toNat < m * 2 ^ (n + 1).toNat; omega, Nat.le_trans (dl_mono2 (Nat.sub_le _ _)) hx5⟩, by show x - m * 2 ^ n.toNat + (n + 1).toNat < x + (n + 1).toNat; have := two_ge m n.toNat; have := cmp_pos hc24; omega, StLe.mk [(1000, 1024)] rfl rfl ⟨⟨_, rfl, by rfl, rfl⟩, ⟨_, rfl, by rfl, rfl⟩, ⟨_, rfl, by rfl, rfl⟩, trivial⟩ ⟨⟨_, _, rfl, rfl, rfl, rfl, id, rfl⟩, ⟨_, _, rfl, rfl, rfl, rfl, id, rfl⟩, trivial⟩⟩
        | exact ⟨.inr ⟨(x, n - 1), hx1, by show -1 ≤ n - 1; omega, by show n - 1 ≤ 4000; omega, by show x < m * 2 ^ (n - 1 + 1).toNat; rw [show (n - 1 + 1).toNat = n.toNat by omega]; exact cmp_neg hc24, hx5⟩, by show x + (n - 1 + 1).toNat < x + (n + 1).toNat; omega, StLe.mk [(1000, 1000)] rfl rfl ⟨⟨_, rfl, by rfl, rfl⟩, ⟨_, rfl, by rfl, rfl⟩, ⟨_, rfl, by rfl, rfl⟩, trivial⟩ ⟨⟨_, _, rfl, rfl, rfl, rfl, id, rfl⟩, ⟨_, _, rfl, rfl, rfl, rfl, id, rfl⟩, trivial⟩⟩
    · first | replace hc16 := of_decide_eq_true hc16 | replace hc16 := of_decide_eq_false hc16 | replace hc16 := eq_of_beq hc16 | replace hc16 := ne_of_beq_false hc16 | simp only [bne_iff_ne, ne_eq] at hc16 | simp only [bne_eq_false_iff_eq] at hc16
      refine .exit ?_
      show Ev _ _ _ _ _
      refine .seq ?_
      refine .region ?_
      refine .q (op_move rfl) trivial rfl ?_
      refine .q (op_assign rfl) trivial rfl ?_
      refine .nil ?_
      show Ev _ _ _ _ _
      refine .ret ?_
      show RetOk _ _ _ _ _ _ _
      have ex : x = a % m := by rw [show (n + 1).toNat = 0 by omega, Nat.pow_zero, Nat.mul_one] at hx4; rw [← hx1, Nat.mod_eq_of_lt hx4]
      exact ret1v rfl (.inl rfl) rfl (by rw [ex]) ⟨by rw [← ex]; rfl, trivial⟩
end Go.Proofs.YtmnhifagkcmhjaaDoor
namespace Go.Proofs.YtmnhifagkcmhjaaDoor
open Go.RowKit
def digsL : List UInt8 := [50, 55, 55, 52, 50, 51, 49, 55, 55, 55, 55, 51, 55, 50, 51, 53, 51, 53, 51, 53, 56, 53, 49, 57, 51, 55, 55, 57, 48, 56, 56, 51, 54, 52, 56, 52, 57, 51]
theorem length_digs : digsL.length = 38 := rfl
def lvN : Nat → Nat
  | 0 => 0
  | i + 1 => lvN i * 10 + ((digsL.getD i 0).toNat - 48)
theorem digs_ok (i : Nat) (h : i < 38) : 48 ≤ (digsL.getD i 0).toNat ∧ (digsL.getD i 0).toNat ≤ 57 := by
  have : ∀ j : Fin 38, 48 ≤ (digsL.getD j.val 0).toNat ∧ (digsL.getD j.val 0).toNat ≤ 57 := by decide
  exact this ⟨i, h⟩
theorem lv_lt (i : Nat) (h : i ≤ 38) : lvN i < 10 ^ i := by
  induction i with
  | zero => decide
  | succ i ih =>
    have := ih (by omega)
    have := digs_ok i (by omega)
    simp only [lvN]; rw [Nat.pow_succ]; omega
theorem lv_dl (i : Nat) (h : i ≤ 38) : dl (lvN i) ≤ 10 :=
  dl_le (Nat.lt_of_lt_of_le (lv_lt i h) (Nat.le_trans (Nat.pow_le_pow_right (by decide) h) (by decide)))
theorem lv_end : 2 ^ 252 + lvN 38 = scL := by decide +kernel
theorem dl_scL : dl scL ≤ 16 := dl_le (by decide)
theorem dg_zero : dg 0 = [] := by unfold dg; rw [dl_zero]; rfl
theorem leN_take (s : List UInt8) (n : Nat) : leN (s.take n) (s.take n).length = leN s n := by
  rcases Nat.le_total n s.length with h | h
  · rw [List.length_take, Nat.min_eq_left h]
    exact leN_congr _ _ _ fun i hi => by rw [List.getD_eq_getElem?_getD, List.getElem?_take, if_pos hi, ← List.getD_eq_getElem?_getD]
  · rw [List.take_of_length_le h]
    have := leN_over s s.length (n - s.length) (Nat.le_refl _)
    rw [show s.length + (n - s.length) = n by omega] at this
    exact this.symm
theorem dl_leN (s : List UInt8) (n : Nat) : dl (leN s n) ≤ n := dl_le (Nat.lt_of_lt_of_le (leN_lt s n) (Nat.pow_le_pow_left (by decide) n))
set_option maxHeartbeats 1000000 in
set_option maxRecDepth 100000 in
theorem L_ev  : Meets Tryd.prog 67 [] [] (.sl 1000 0 (dl scL) 1) [(1000, some ⟨.aggI (dg scL), 3, true⟩)] := by
  refine meets_of_ev (nt := 24) Tryd.func67 rfl rfl (Nat.le_of_ble_eq_true rfl) ?_
  refine .seq ?_
  refine .region ?_
  refine .q (op_assign rfl) trivial rfl ?_
  refine .nil ?_
  show Ev _ _ _ _ _
  refine .seq ?_
  refine .region ?_
  refine .a (ap_build0 (z := 1) (c := .aggI []) Tryd.underlying39 inf3 rfl) trivial rfl ?_
  refine .q (op_assign rfl) trivial rfl ?_
  refine .nil ?_
  show Ev _ _ _ _ _
  refine .seq ?_
  refine .seq ?_
  refine .region ?_
  refine .a (ap_build (us := [_, _, _, _, _, _, _, _, _, _, _, _, _, _, _, _, _, _, _, _, _, _, _, _, _, _, _, _, _, _, _, _, _, _, _, _, _, _]) (c := .aggB [_, _, _, _, _, _, _, _, _, _, _, _, _, _, _, _, _, _, _, _, _, _, _, _, _, _, _, _, _, _, _, _, _, _, _, _, _, _]) Tryd.underlying26 inf5 rfl (by decide) (by decide) ⟨rfl, rfl, rfl, rfl, rfl, rfl, rfl, rfl, rfl, rfl, rfl, rfl, rfl, rfl, rfl, rfl, rfl, rfl, rfl, rfl, rfl, rfl, rfl, rfl, rfl, rfl, rfl, rfl, rfl, rfl, rfl, rfl, rfl, rfl, rfl, rfl, rfl, rfl, rfl, rfl, rfl, rfl, rfl, rfl, rfl, rfl, rfl, rfl, rfl, rfl, rfl, rfl, rfl, rfl, rfl, rfl, rfl, rfl, rfl, rfl, rfl, rfl, rfl, rfl, rfl, rfl, rfl, rfl, rfl, rfl, rfl, rfl, rfl, rfl, rfl, rfl, rfl, rfl, rfl, rfl, rfl, rfl, rfl, rfl, rfl, rfl, rfl, rfl, rfl, rfl, rfl, rfl, rfl, rfl, rfl, rfl, rfl, rfl, rfl, rfl, rfl, rfl, rfl, rfl, rfl, rfl, rfl, rfl, rfl, rfl, rfl, rfl, rfl, rfl, trivial⟩ rfl) trivial rfl ?_
  refine .as (.sl 1008 0 38 1) rfl ?_
  refine .a (op_mark Tryd.underlying26 Tryd.underlying5 rfl (by first | omega | (simp only [AV.len]; omega) | (simp only [AV.len, List.length_set]; omega) | assumption | (simp [AV.len]; done)) rfl rfl) trivial rfl ?_
  refine .q (op_len_sl Tryd.underlying26 rfl) trivial rfl ?_
  refine .q (op_move rfl) trivial rfl ?_
  refine .nil ?_
  show Ev _ _ _ _ _
  refine .block ?_
  refine Ev.loop (ι := { j : Nat // j ≤ 38 }) (fun j => ⟨[(1, .sl 1000 0 (dl (lvN j.1)) 1), (6, .sl 1008 0 38 1), (7, .i64 38), (8, .i64 ((j.1 : Nat) : Int))], [(1000, some ⟨.aggI (dg (lvN j.1)), 3, true⟩), (1008, some ⟨.aggB digsL, 5, false⟩)], 1016⟩) (fun j => 38 - j.1) ⟨0, Nat.zero_le _⟩ (StLe.mk [(1000, 1000), (1008, 1008)] rfl rfl ⟨⟨_, rfl, by (show AV.sl 1000 0 0 1 = AV.sl 1000 0 (dl 0) 1; rw [dl_zero]), rfl⟩, ⟨_, rfl, by first | rfl | (simp only [AV.ren]; congr 1; omega), rfl⟩, ⟨_, rfl, by first | rfl | (simp only [AV.ren]; congr 1; omega), rfl⟩, ⟨_, rfl, by first | rfl | (simp only [AV.ren]; congr 1; omega), rfl⟩, trivial⟩ ⟨⟨_, _, rfl, rfl, by (show AV.aggI [] = AV.aggI (dg 0); rw [dg_zero]), rfl, id, rfl⟩, ⟨_, _, rfl, rfl, by first | rfl | (simp only [AV.ren]; congr 1; omega), rfl, id, rfl⟩, trivial⟩) ?_
  rintro ⟨j, hj⟩
  dsimp only
  have hd := digs_ok j
  have hl := lv_dl j hj
  have hld := length_digs
  refine .seq ?_
  refine .region ?_
  refine .q (op_cmpI rfl rfl rfl) trivial rfl ?_
  refine .nil ?_
  show Ev _ _ _ _ _
  refine .seq ?_
  refine .cond rfl (fun hc9 => ?_) (fun hc9 => ?_)
  · first | replace hc9 := of_decide_eq_true hc9 | replace hc9 := of_decide_eq_false hc9 | replace hc9 := eq_of_beq hc9 | replace hc9 := ne_of_beq_false hc9 | simp only [bne_iff_ne, ne_eq] at hc9 | simp only [bne_eq_false_iff_eq] at hc9
    refine .skip ?_
    show Ev _ _ _ _ _
    refine .seq ?_
    refine .block ?_
    refine .seq ?_
    refine .region ?_
    refine .q (ap_idx0 Tryd.underlying26 inf5.sz rfl rfl rfl (by first | omega | (simp only [AV.len]; omega) | (simp only [AV.len, List.length_set]; omega) | assumption | (simp [AV.len]; done))) trivial rfl ?_
    refine .q (op_load Tryd.underlying5 rfl rfl rfl rfl (by first | omega | (simp only [AV.len]; omega) | (simp only [AV.len, List.length_set]; omega) | assumption | (simp [AV.len]; done))) trivial rfl ?_
    refine .q (op_assign rfl) trivial rfl ?_
    refine .nil ?_
    show Ev _ _ _ _ _
    refine .region ?_
    refine .q (op_move rfl) trivial rfl ?_
    refine .a (op_call (U := [(1016, some ⟨.aggI (dg (10)), 3, true⟩)]) [] [(1016, 1000)] (small_ev 10 (by omega)) Tryd.func84 (by kernel_rfl) rfl rfl rfl (⟨⟨_, rfl, rfl, rfl⟩, trivial⟩) (trivial) (⟨⟨1000, _, rfl, rfl, rfl, rfl, .inl rfl⟩, trivial⟩) (trivial) rfl) trivial rfl ?_
    refine .a (op_call (U := [(1024, some ⟨.aggI (dg (lvN j * 10)), 3, true⟩)]) [(500, 1000), (501, 1016)] [(1024, 1000)] (mul_ev (lvN j) 10 (by omega) (by have := dl_le (v := 10) (n := 1) (by decide); omega)) Tryd.func77 (by kernel_rfl) rfl rfl rfl (⟨⟨_, rfl, rfl, rfl⟩, ⟨_, rfl, rfl, rfl⟩, trivial⟩) (⟨⟨_, _, rfl, rfl, rfl, rfl, (fun h => by cases h), rfl⟩, ⟨_, _, rfl, rfl, rfl, rfl, (fun h => by cases h), rfl⟩, trivial⟩) (⟨⟨1000, _, rfl, rfl, rfl, rfl, .inl rfl⟩, trivial⟩) (⟨(fun h => by cases h), (fun h => by cases h), trivial⟩) rfl) trivial rfl ?_
    refine .q (op_move rfl) trivial rfl ?_
    refine .q (op_conv Tryd.underlying5 Tryd.underlying3 rfl rfl) trivial rfl ?_
    refine .q (op_subI rfl rfl ⟨by first | omega | (simp only [AV.len]; omega) | (simp only [AV.len, List.length_set]; omega) | assumption | (simp [AV.len]; done), by first | omega | (simp only [AV.len]; omega) | (simp only [AV.len, List.length_set]; omega) | assumption | (simp [AV.len]; done)⟩) trivial rfl ?_
    refine .as (.i64 ((((digsL.getD j 0).toNat - 48 : Nat)) : Int)) (congrArg AV.i64 (by omega)) ?_
    refine .a (op_call (U := [(1032, some ⟨.aggI (dg ((digsL.getD j 0).toNat - 48)), 3, true⟩)]) [] [(1032, 1000)] (small_ev ((digsL.getD j 0).toNat - 48) (by omega)) Tryd.func84 (by kernel_rfl) rfl rfl rfl (⟨⟨_, rfl, rfl, rfl⟩, trivial⟩) (trivial) (⟨⟨1000, _, rfl, rfl, rfl, rfl, .inl rfl⟩, trivial⟩) (trivial) rfl) trivial rfl ?_
    refine .a (op_call (U := [(1040, some ⟨.aggI (dg (lvN j * 10 + ((digsL.getD j 0).toNat - 48))), 3, true⟩)]) [(500, 1024), (501, 1032)] [(1040, 1000)] (add_ev (lvN j * 10) ((digsL.getD j 0).toNat - 48) (by have := dl_mul (lvN j) 10; have := dl_le (v := 10) (n := 1) (by decide); omega) (by have := dl_le (v := (digsL.getD j 0).toNat - 48) (n := 1) (by omega); omega)) Tryd.func76 (by kernel_rfl) rfl rfl rfl (⟨⟨_, rfl, rfl, rfl⟩, ⟨_, rfl, rfl, rfl⟩, trivial⟩) (⟨⟨_, _, rfl, rfl, rfl, rfl, (fun h => by cases h), rfl⟩, ⟨_, _, rfl, rfl, rfl, rfl, (fun h => by cases h), rfl⟩, trivial⟩) (⟨⟨1000, _, rfl, rfl, rfl, rfl, .inl rfl⟩, trivial⟩) (⟨(fun h => by cases h), (fun h => by cases h), trivial⟩) rfl) trivial rfl ?_
    refine .q (op_assign rfl) trivial rfl ?_
    refine .nil ?_
    show Ev _ _ _ _ _
    refine .region ?_
    refine .q (op_addI rfl rfl ⟨by first | omega | (simp only [AV.len]; omega) | (simp only [AV.len, List.length_set]; omega) | assumption | (simp [AV.len]; done), by first | omega | (simp only [AV.len]; omega) | (simp only [AV.len, List.length_set]; omega) | assumption | (simp [AV.len]; done)⟩) trivial rfl ?_
    refine .q (op_move rfl) trivial rfl ?_
    refine .nil ?_
    exact ⟨⟨j + 1, by omega⟩, by show 38 - (j + 1) < 38 - j; omega, StLe.mk [(1000, 1040), (1008, 1008)] rfl rfl ⟨⟨_, rfl, by first | rfl | (simp only [AV.ren]; congr 1; omega), rfl⟩, ⟨_, rfl, by first | rfl | (simp only [AV.ren]; congr 1; omega), rfl⟩, ⟨_, rfl, by first | rfl | (simp only [AV.ren]; congr 1; omega), rfl⟩, ⟨_, rfl, by first | rfl | (simp only [AV.ren]; congr 1; omega), rfl⟩, trivial⟩ ⟨⟨_, _, rfl, rfl, by first | rfl | (simp only [AV.ren]; congr 1; omega), rfl, id, rfl⟩, ⟨_, _, rfl, rfl, by first | rfl | (simp only [AV.ren]; congr 1; omega), rfl, id, rfl⟩, trivial⟩⟩
  · first | replace hc9 := of_decide_eq_true hc9 | replace hc9 := of_decide_eq_false hc9 | replace hc9 := eq_of_beq hc9 | replace hc9 := ne_of_beq_false hc9 | simp only [bne_iff_ne, ne_eq] at hc9 | simp only [bne_eq_false_iff_eq] at hc9
    refine .exit ?_
    show Ev _ _ _ _ _
    have ej : j = 38 := by omega
    refine Ev.weak (st2 := ⟨[(1, .sl 1000 0 (dl (lvN (38))) 1), (6, .sl 1008 0 38 1), (7, .i64 38), (8, .i64 (((38) : Nat) : Int))], [(1000, some ⟨.aggI (dg (lvN (38))), 3, true⟩), (1008, some ⟨.aggB digsL, 5, false⟩)], 1016⟩) (StLe.mk [(1000, 1000), (1008, 1008)] rfl rfl ⟨⟨_, rfl, by (rw [ej]; rfl), rfl⟩, ⟨_, rfl, by first | (simp only [AV.ren]; done) | (simp only [AV.ren]; rw [ej]; done) | rfl, rfl⟩, ⟨_, rfl, by first | (simp only [AV.ren]; done) | (simp only [AV.ren]; rw [ej]; done) | rfl, rfl⟩, ⟨_, rfl, by first | (simp only [AV.ren]; done) | (simp only [AV.ren]; rw [ej]; done) | rfl, rfl⟩, trivial⟩ ⟨⟨_, _, rfl, rfl, by (rw [ej]; rfl), rfl, id, rfl⟩, ⟨_, _, rfl, rfl, by first | (simp only [AV.ren]; done) | (simp only [AV.ren]; rw [ej]; done) | rfl, rfl, id, rfl⟩, trivial⟩) ?_
    refine .seq ?_
    refine .region ?_
    refine .a (op_call (U := [(1016, some ⟨.aggI (dg (2 ^ 252)), 3, true⟩)]) [] [(1016, 1000)] (power_ev 252 (by omega)) Tryd.func83 (by kernel_rfl) rfl rfl rfl (⟨⟨_, rfl, rfl, rfl⟩, trivial⟩) (trivial) (⟨⟨1000, _, rfl, rfl, rfl, rfl, .inl rfl⟩, trivial⟩) (trivial) rfl) trivial rfl ?_
    refine .q (op_move rfl) trivial rfl ?_
    refine .a (op_call (U := [(1024, some ⟨.aggI (dg (2 ^ 252 + lvN 38)), 3, true⟩)]) [(500, 1016), (501, 1000)] [(1024, 1000)] (add_ev (2 ^ 252) (lvN 38) (by have := dl_two 252; omega) (by have := lv_dl 38 (by omega); omega)) Tryd.func76 (by kernel_rfl) rfl rfl rfl (⟨⟨_, rfl, rfl, rfl⟩, ⟨_, rfl, rfl, rfl⟩, trivial⟩) (⟨⟨_, _, rfl, rfl, rfl, rfl, (fun h => by cases h), rfl⟩, ⟨_, _, rfl, rfl, rfl, rfl, (fun h => by cases h), rfl⟩, trivial⟩) (⟨⟨1000, _, rfl, rfl, rfl, rfl, .inl rfl⟩, trivial⟩) (⟨(fun h => by cases h), (fun h => by cases h), trivial⟩) rfl) trivial rfl ?_
    refine .q (op_assign rfl) trivial rfl ?_
    refine .nil ?_
    show Ev _ _ _ _ _
    refine Ev.weak (st2 := ⟨[(0, .sl 1000 0 (dl (scL)) 1)], [(1000, some ⟨.aggI (dg (scL)), 3, true⟩)], 1008⟩) (StLe.mk [(1000, 1024)] rfl rfl ⟨⟨_, rfl, by (show AV.sl 1000 0 (dl (2 ^ 252 + lvN 38)) 1 = _; rw [lv_end]), rfl⟩, trivial⟩ ⟨⟨_, _, rfl, rfl, by (show AV.aggI (dg (2 ^ 252 + lvN 38)) = _; rw [lv_end]), rfl, id, rfl⟩, trivial⟩) ?_
    refine .ret ?_
    show RetOk _ _ _ _ _ _ _
    exact ret1v rfl (.inl rfl) rfl rfl ⟨rfl, trivial⟩
set_option maxHeartbeats 1000000 in
set_option maxRecDepth 100000 in
theorem redR_a (s : List UInt8) (hs : s.length ≤ 1000000) (h : leN (s.take 64) (s.take 64).length < scL) : Meets Tryd.prog 20 [.str s] [] (.str (bsN (leN s 64 % scL) 32)) [] := by
  refine meets_of_ev (nt := 13) Tryd.func20 rfl rfl (Nat.le_of_ble_eq_true rfl) ?_
  refine .seq ?_
  refine .region ?_
  refine .q (op_assign rfl) trivial rfl ?_
  refine .nil ?_
  show Ev _ _ _ _ _
  refine .seq ?_
  refine .seq ?_
  refine .region ?_
  refine .q (op_move rfl) trivial rfl ?_
  refine .q (op_len_str Tryd.underlying9 rfl) trivial rfl ?_
  refine .q (op_cmpI rfl rfl rfl) trivial rfl ?_
  refine .nil ?_
  show Ev _ _ _ _ _
  refine .cond rfl (fun hc5 => ?_) (fun hc5 => ?_)
  · first | replace hc5 := of_decide_eq_true hc5 | replace hc5 := of_decide_eq_false hc5 | replace hc5 := eq_of_beq hc5 | replace hc5 := ne_of_beq_false hc5 | simp only [bne_iff_ne, ne_eq] at hc5 | simp only [bne_eq_false_iff_eq] at hc5
    refine .region ?_
    refine .q (op_move rfl) trivial rfl ?_
    refine .q (ap_slice_str_hi Tryd.underlying9 rfl (bnd_some rfl rfl) (by first | omega | (dsimp only; omega) | (simp only [AV.len]; omega) | (simp only [AV.len, List.length_set]; omega) | assumption | (simp [AV.len]; done))) trivial rfl ?_
    refine .q (op_assign rfl) trivial rfl ?_
    refine .nil ?_
    show Ev _ _ _ _ _
    refine .seq ?_
    refine .region ?_
    refine .q (op_move rfl) trivial rfl ?_
    refine .as (.str (s.take 64)) (by first | rfl | (rw [List.take_of_length_le (by omega)])) ?_
    refine .a (op_call (U := [(1000, some ⟨.aggI (dg (leN (s.take 64) (s.take 64).length)), 3, true⟩)]) [] [(1000, 1000)] (of_ev (s.take 64) (by rw [List.length_take]; omega)) Tryd.func72 (by kernel_rfl) rfl rfl rfl (⟨⟨_, rfl, rfl, rfl⟩, trivial⟩) (trivial) (⟨⟨1000, _, rfl, rfl, rfl, rfl, .inl rfl⟩, trivial⟩) (trivial) rfl) trivial rfl ?_
    refine .a (op_call (U := [(1008, some ⟨.aggI (dg (scL)), 3, true⟩)]) [] [(1008, 1000)] (L_ev) Tryd.func67 (by kernel_rfl) rfl rfl rfl (trivial) (trivial) (⟨⟨1000, _, rfl, rfl, rfl, rfl, .inl rfl⟩, trivial⟩) (trivial) rfl) trivial rfl ?_
    refine .q (op_call (U := []) [(500, 1000), (501, 1008)] [] (mod_id (leN (s.take 64) (s.take 64).length) scL h (Nat.le_trans (dl_leN _ _) (by rw [List.length_take]; omega)) (by have := dl_scL; omega)) Tryd.func71 (by kernel_rfl) rfl rfl rfl (⟨⟨_, rfl, rfl, rfl⟩, ⟨_, rfl, rfl, rfl⟩, trivial⟩) (⟨⟨_, _, rfl, rfl, rfl, rfl, (fun h => by cases h), rfl⟩, ⟨_, _, rfl, rfl, rfl, rfl, (fun h => by cases h), rfl⟩, trivial⟩) (trivial) (⟨(fun h => by cases h), (fun h => by cases h), trivial⟩) rfl) trivial rfl ?_
    refine .q (op_call (U := []) [(500, 1000)] [] (bytes_ev (leN (s.take 64) (s.take 64).length) 32 (by omega)) Tryd.func66 (by kernel_rfl) rfl rfl rfl (⟨⟨_, rfl, rfl, rfl⟩, ⟨_, rfl, rfl, rfl⟩, trivial⟩) (⟨⟨_, _, rfl, rfl, rfl, rfl, (fun h => by cases h), rfl⟩, trivial⟩) (trivial) (⟨(fun h => by cases h), trivial⟩) rfl) trivial rfl ?_
    refine .q (op_assign rfl) trivial rfl ?_
    refine .nil ?_
    show Ev _ _ _ _ _
    refine .ret ?_
    show RetOk _ _ _ _ _ _ _
    exact ret1v rfl (.inl rfl) rfl (congrArg AV.str (by rw [← leN_take s 64]; rw [Nat.mod_eq_of_lt h])) trivial
  · first | replace hc5 := of_decide_eq_true hc5 | replace hc5 := of_decide_eq_false hc5 | replace hc5 := eq_of_beq hc5 | replace hc5 := ne_of_beq_false hc5 | simp only [bne_iff_ne, ne_eq] at hc5 | simp only [bne_eq_false_iff_eq] at hc5
    refine .skip ?_
    show Ev _ _ _ _ _
    refine .seq ?_
    refine .region ?_
    refine .q (op_move rfl) trivial rfl ?_
    refine .as (.str (s.take 64)) (by first | rfl | (rw [List.take_of_length_le (by omega)])) ?_
    refine .a (op_call (U := [(1000, some ⟨.aggI (dg (leN (s.take 64) (s.take 64).length)), 3, true⟩)]) [] [(1000, 1000)] (of_ev (s.take 64) (by rw [List.length_take]; omega)) Tryd.func72 (by kernel_rfl) rfl rfl rfl (⟨⟨_, rfl, rfl, rfl⟩, trivial⟩) (trivial) (⟨⟨1000, _, rfl, rfl, rfl, rfl, .inl rfl⟩, trivial⟩) (trivial) rfl) trivial rfl ?_
    refine .a (op_call (U := [(1008, some ⟨.aggI (dg (scL)), 3, true⟩)]) [] [(1008, 1000)] (L_ev) Tryd.func67 (by kernel_rfl) rfl rfl rfl (trivial) (trivial) (⟨⟨1000, _, rfl, rfl, rfl, rfl, .inl rfl⟩, trivial⟩) (trivial) rfl) trivial rfl ?_
    refine .q (op_call (U := []) [(500, 1000), (501, 1008)] [] (mod_id (leN (s.take 64) (s.take 64).length) scL h (Nat.le_trans (dl_leN _ _) (by rw [List.length_take]; omega)) (by have := dl_scL; omega)) Tryd.func71 (by kernel_rfl) rfl rfl rfl (⟨⟨_, rfl, rfl, rfl⟩, ⟨_, rfl, rfl, rfl⟩, trivial⟩) (⟨⟨_, _, rfl, rfl, rfl, rfl, (fun h => by cases h), rfl⟩, ⟨_, _, rfl, rfl, rfl, rfl, (fun h => by cases h), rfl⟩, trivial⟩) (trivial) (⟨(fun h => by cases h), (fun h => by cases h), trivial⟩) rfl) trivial rfl ?_
    refine .q (op_call (U := []) [(500, 1000)] [] (bytes_ev (leN (s.take 64) (s.take 64).length) 32 (by omega)) Tryd.func66 (by kernel_rfl) rfl rfl rfl (⟨⟨_, rfl, rfl, rfl⟩, ⟨_, rfl, rfl, rfl⟩, trivial⟩) (⟨⟨_, _, rfl, rfl, rfl, rfl, (fun h => by cases h), rfl⟩, trivial⟩) (trivial) (⟨(fun h => by cases h), trivial⟩) rfl) trivial rfl ?_
    refine .q (op_assign rfl) trivial rfl ?_
    refine .nil ?_
    show Ev _ _ _ _ _
    refine .ret ?_
    show RetOk _ _ _ _ _ _ _
    exact ret1v rfl (.inl rfl) rfl (congrArg AV.str (by rw [← leN_take s 64]; rw [Nat.mod_eq_of_lt h])) trivial
set_option maxHeartbeats 1000000 in
set_option maxRecDepth 100000 in
theorem redR_b (s : List UInt8) (hs : s.length ≤ 1000000) (h : scL ≤ leN (s.take 64) (s.take 64).length) : Meets Tryd.prog 20 [.str s] [] (.str (bsN (leN s 64 % scL) 32)) [] := by
  refine meets_of_ev (nt := 13) Tryd.func20 rfl rfl (Nat.le_of_ble_eq_true rfl) ?_
  refine .seq ?_
  refine .region ?_
  refine .q (op_assign rfl) trivial rfl ?_
  refine .nil ?_
  show Ev _ _ _ _ _
  refine .seq ?_
  refine .seq ?_
  refine .region ?_
  refine .q (op_move rfl) trivial rfl ?_
  refine .q (op_len_str Tryd.underlying9 rfl) trivial rfl ?_
  refine .q (op_cmpI rfl rfl rfl) trivial rfl ?_
  refine .nil ?_
  show Ev _ _ _ _ _
  refine .cond rfl (fun hc5 => ?_) (fun hc5 => ?_)
  · first | replace hc5 := of_decide_eq_true hc5 | replace hc5 := of_decide_eq_false hc5 | replace hc5 := eq_of_beq hc5 | replace hc5 := ne_of_beq_false hc5 | simp only [bne_iff_ne, ne_eq] at hc5 | simp only [bne_eq_false_iff_eq] at hc5
    refine .region ?_
    refine .q (op_move rfl) trivial rfl ?_
    refine .q (ap_slice_str_hi Tryd.underlying9 rfl (bnd_some rfl rfl) (by first | omega | (dsimp only; omega) | (simp only [AV.len]; omega) | (simp only [AV.len, List.length_set]; omega) | assumption | (simp [AV.len]; done))) trivial rfl ?_
    refine .q (op_assign rfl) trivial rfl ?_
    refine .nil ?_
    show Ev _ _ _ _ _
    refine .seq ?_
    refine .region ?_
    refine .q (op_move rfl) trivial rfl ?_
    refine .as (.str (s.take 64)) (by first | rfl | (rw [List.take_of_length_le (by omega)])) ?_
    refine .a (op_call (U := [(1000, some ⟨.aggI (dg (leN (s.take 64) (s.take 64).length)), 3, true⟩)]) [] [(1000, 1000)] (of_ev (s.take 64) (by rw [List.length_take]; omega)) Tryd.func72 (by kernel_rfl) rfl rfl rfl (⟨⟨_, rfl, rfl, rfl⟩, trivial⟩) (trivial) (⟨⟨1000, _, rfl, rfl, rfl, rfl, .inl rfl⟩, trivial⟩) (trivial) rfl) trivial rfl ?_
    refine .a (op_call (U := [(1008, some ⟨.aggI (dg (scL)), 3, true⟩)]) [] [(1008, 1000)] (L_ev) Tryd.func67 (by kernel_rfl) rfl rfl rfl (trivial) (trivial) (⟨⟨1000, _, rfl, rfl, rfl, rfl, .inl rfl⟩, trivial⟩) (trivial) rfl) trivial rfl ?_
    refine .a (op_call (U := [(1016, some ⟨.aggI (dg (leN (s.take 64) (s.take 64).length % scL)), 3, true⟩)]) [(500, 1000), (501, 1008)] [(1016, 1000)] (mod_new (leN (s.take 64) (s.take 64).length) scL h scL_pos (Nat.le_trans (dl_leN _ _) (by rw [List.length_take]; omega)) (by have := dl_scL; omega)) Tryd.func71 (by kernel_rfl) rfl rfl rfl (⟨⟨_, rfl, rfl, rfl⟩, ⟨_, rfl, rfl, rfl⟩, trivial⟩) (⟨⟨_, _, rfl, rfl, rfl, rfl, (fun h => by cases h), rfl⟩, ⟨_, _, rfl, rfl, rfl, rfl, (fun h => by cases h), rfl⟩, trivial⟩) (⟨⟨1000, _, rfl, rfl, rfl, rfl, .inl rfl⟩, trivial⟩) (⟨(fun h => by cases h), (fun h => by cases h), trivial⟩) rfl) trivial rfl ?_
    refine .q (op_call (U := []) [(500, 1016)] [] (bytes_ev (leN (s.take 64) (s.take 64).length % scL) 32 (by omega)) Tryd.func66 (by kernel_rfl) rfl rfl rfl (⟨⟨_, rfl, rfl, rfl⟩, ⟨_, rfl, rfl, rfl⟩, trivial⟩) (⟨⟨_, _, rfl, rfl, rfl, rfl, (fun h => by cases h), rfl⟩, trivial⟩) (trivial) (⟨(fun h => by cases h), trivial⟩) rfl) trivial rfl ?_
    refine .q (op_assign rfl) trivial rfl ?_
    refine .nil ?_
    show Ev _ _ _ _ _
    refine .ret ?_
    show RetOk _ _ _ _ _ _ _
    exact ret1v rfl (.inl rfl) rfl (congrArg AV.str (by rw [← leN_take s 64])) trivial
  · first | replace hc5 := of_decide_eq_true hc5 | replace hc5 := of_decide_eq_false hc5 | replace hc5 := eq_of_beq hc5 | replace hc5 := ne_of_beq_false hc5 | simp only [bne_iff_ne, ne_eq] at hc5 | simp only [bne_eq_false_iff_eq] at hc5
    refine .skip ?_
    show Ev _ _ _ _ _
    refine .seq ?_
    refine .region ?_
    refine .q (op_move rfl) trivial rfl ?_
    refine .as (.str (s.take 64)) (by first | rfl | (rw [List.take_of_length_le (by omega)])) ?_
    refine .a (op_call (U := [(1000, some ⟨.aggI (dg (leN (s.take 64) (s.take 64).length)), 3, true⟩)]) [] [(1000, 1000)] (of_ev (s.take 64) (by rw [List.length_take]; omega)) Tryd.func72 (by kernel_rfl) rfl rfl rfl (⟨⟨_, rfl, rfl, rfl⟩, trivial⟩) (trivial) (⟨⟨1000, _, rfl, rfl, rfl, rfl, .inl rfl⟩, trivial⟩) (trivial) rfl) trivial rfl ?_
    refine .a (op_call (U := [(1008, some ⟨.aggI (dg (scL)), 3, true⟩)]) [] [(1008, 1000)] (L_ev) Tryd.func67 (by kernel_rfl) rfl rfl rfl (trivial) (trivial) (⟨⟨1000, _, rfl, rfl, rfl, rfl, .inl rfl⟩, trivial⟩) (trivial) rfl) trivial rfl ?_
    refine .a (op_call (U := [(1016, some ⟨.aggI (dg (leN (s.take 64) (s.take 64).length % scL)), 3, true⟩)]) [(500, 1000), (501, 1008)] [(1016, 1000)] (mod_new (leN (s.take 64) (s.take 64).length) scL h scL_pos (Nat.le_trans (dl_leN _ _) (by rw [List.length_take]; omega)) (by have := dl_scL; omega)) Tryd.func71 (by kernel_rfl) rfl rfl rfl (⟨⟨_, rfl, rfl, rfl⟩, ⟨_, rfl, rfl, rfl⟩, trivial⟩) (⟨⟨_, _, rfl, rfl, rfl, rfl, (fun h => by cases h), rfl⟩, ⟨_, _, rfl, rfl, rfl, rfl, (fun h => by cases h), rfl⟩, trivial⟩) (⟨⟨1000, _, rfl, rfl, rfl, rfl, .inl rfl⟩, trivial⟩) (⟨(fun h => by cases h), (fun h => by cases h), trivial⟩) rfl) trivial rfl ?_
    refine .q (op_call (U := []) [(500, 1016)] [] (bytes_ev (leN (s.take 64) (s.take 64).length % scL) 32 (by omega)) Tryd.func66 (by kernel_rfl) rfl rfl rfl (⟨⟨_, rfl, rfl, rfl⟩, ⟨_, rfl, rfl, rfl⟩, trivial⟩) (⟨⟨_, _, rfl, rfl, rfl, rfl, (fun h => by cases h), rfl⟩, trivial⟩) (trivial) (⟨(fun h => by cases h), trivial⟩) rfl) trivial rfl ?_
    refine .q (op_assign rfl) trivial rfl ?_
    refine .nil ?_
    show Ev _ _ _ _ _
    refine .ret ?_
    show RetOk _ _ _ _ _ _ _
    exact ret1v rfl (.inl rfl) rfl (congrArg AV.str (by rw [← leN_take s 64])) trivial
theorem redR (s : List UInt8) (hs : s.length ≤ 1000000) : Meets Tryd.prog 20 [.str s] [] (.str (bsN (leN s 64 % scL) 32)) [] := by
  by_cases h : leN (s.take 64) (s.take 64).length < scL
  · exact redR_a s hs h
  · exact redR_b s hs (by omega)
set_option maxHeartbeats 1000000 in
set_option maxRecDepth 100000 in
theorem maddR_a (x y z : List UInt8) (hx : x.length = 32) (hy : y.length = 32) (hz : z.length = 32) (h : leN x x.length * leN y y.length + leN z z.length < scL) : Meets Tryd.prog 23 [.str x, .str y, .str z] [] (.str (bsN ((leN x 32 * leN y 32 + leN z 32) % scL) 32)) [] := by
  refine meets_of_ev (nt := 20) Tryd.func23 rfl rfl (Nat.le_of_ble_eq_true rfl) ?_
  refine .seq ?_
  refine .region ?_
  refine .q (op_assign rfl) trivial rfl ?_
  refine .nil ?_
  show Ev _ _ _ _ _
  refine .seq ?_
  refine .region ?_
  refine .q (op_move rfl) trivial rfl ?_
  refine .a (op_call (U := [(1000, some ⟨.aggI (dg (leN x x.length)), 3, true⟩)]) [] [(1000, 1000)] (of_ev x (by omega)) Tryd.func72 (by kernel_rfl) rfl rfl rfl (⟨⟨_, rfl, rfl, rfl⟩, trivial⟩) (trivial) (⟨⟨1000, _, rfl, rfl, rfl, rfl, .inl rfl⟩, trivial⟩) (trivial) rfl) trivial rfl ?_
  refine .q (op_move rfl) trivial rfl ?_
  refine .a (op_call (U := [(1008, some ⟨.aggI (dg (leN y y.length)), 3, true⟩)]) [] [(1008, 1000)] (of_ev y (by omega)) Tryd.func72 (by kernel_rfl) rfl rfl rfl (⟨⟨_, rfl, rfl, rfl⟩, trivial⟩) (trivial) (⟨⟨1000, _, rfl, rfl, rfl, rfl, .inl rfl⟩, trivial⟩) (trivial) rfl) trivial rfl ?_
  refine .a (op_call (U := [(1016, some ⟨.aggI (dg (leN x x.length * leN y y.length)), 3, true⟩)]) [(500, 1000), (501, 1008)] [(1016, 1000)] (mul_ev (leN x x.length) (leN y y.length) (by have := dl_leN x x.length; omega) (by have := dl_leN y y.length; omega)) Tryd.func77 (by kernel_rfl) rfl rfl rfl (⟨⟨_, rfl, rfl, rfl⟩, ⟨_, rfl, rfl, rfl⟩, trivial⟩) (⟨⟨_, _, rfl, rfl, rfl, rfl, (fun h => by cases h), rfl⟩, ⟨_, _, rfl, rfl, rfl, rfl, (fun h => by cases h), rfl⟩, trivial⟩) (⟨⟨1000, _, rfl, rfl, rfl, rfl, .inl rfl⟩, trivial⟩) (⟨(fun h => by cases h), (fun h => by cases h), trivial⟩) rfl) trivial rfl ?_
  refine .q (op_move rfl) trivial rfl ?_
  refine .a (op_call (U := [(1024, some ⟨.aggI (dg (leN z z.length)), 3, true⟩)]) [] [(1024, 1000)] (of_ev z (by omega)) Tryd.func72 (by kernel_rfl) rfl rfl rfl (⟨⟨_, rfl, rfl, rfl⟩, trivial⟩) (trivial) (⟨⟨1000, _, rfl, rfl, rfl, rfl, .inl rfl⟩, trivial⟩) (trivial) rfl) trivial rfl ?_
  refine .a (op_call (U := [(1032, some ⟨.aggI (dg (leN x x.length * leN y y.length + leN z z.length)), 3, true⟩)]) [(500, 1016), (501, 1024)] [(1032, 1000)] (add_ev (leN x x.length * leN y y.length) (leN z z.length) (by have h1 := dl_mul (leN x x.length) (leN y y.length); have h2 := dl_leN x x.length; have h3 := dl_leN y y.length; omega) (by have := dl_leN z z.length; omega)) Tryd.func76 (by kernel_rfl) rfl rfl rfl (⟨⟨_, rfl, rfl, rfl⟩, ⟨_, rfl, rfl, rfl⟩, trivial⟩) (⟨⟨_, _, rfl, rfl, rfl, rfl, (fun h => by cases h), rfl⟩, ⟨_, _, rfl, rfl, rfl, rfl, (fun h => by cases h), rfl⟩, trivial⟩) (⟨⟨1000, _, rfl, rfl, rfl, rfl, .inl rfl⟩, trivial⟩) (⟨(fun h => by cases h), (fun h => by cases h), trivial⟩) rfl) trivial rfl ?_
  refine .q (op_assign rfl) trivial rfl ?_
  refine .nil ?_
  show Ev _ _ _ _ _
  refine .seq ?_
  refine .region ?_
  refine .q (op_move rfl) trivial rfl ?_
  refine .a (op_call (U := [(1040, some ⟨.aggI (dg (scL)), 3, true⟩)]) [] [(1040, 1000)] (L_ev) Tryd.func67 (by kernel_rfl) rfl rfl rfl (trivial) (trivial) (⟨⟨1000, _, rfl, rfl, rfl, rfl, .inl rfl⟩, trivial⟩) (trivial) rfl) trivial rfl ?_
  refine .q (op_call (U := []) [(500, 1032), (501, 1040)] [] (mod_id (leN x x.length * leN y y.length + leN z z.length) scL h (by have h1 := dl_mul (leN x x.length) (leN y y.length); have h2 := dl_leN x x.length; have h3 := dl_leN y y.length; have h4 := dl_leN z z.length; have h5 := dl_addF (n := 64) (a := leN x x.length * leN y y.length) (b := leN z z.length) (by omega) (by omega); omega) (by have := dl_scL; omega)) Tryd.func71 (by kernel_rfl) rfl rfl rfl (⟨⟨_, rfl, rfl, rfl⟩, ⟨_, rfl, rfl, rfl⟩, trivial⟩) (⟨⟨_, _, rfl, rfl, rfl, rfl, (fun h => by cases h), rfl⟩, ⟨_, _, rfl, rfl, rfl, rfl, (fun h => by cases h), rfl⟩, trivial⟩) (trivial) (⟨(fun h => by cases h), (fun h => by cases h), trivial⟩) rfl) trivial rfl ?_
  refine .q (op_call (U := []) [(500, 1032)] [] (bytes_ev (leN x x.length * leN y y.length + leN z z.length) 32 (by omega)) Tryd.func66 (by kernel_rfl) rfl rfl rfl (⟨⟨_, rfl, rfl, rfl⟩, ⟨_, rfl, rfl, rfl⟩, trivial⟩) (⟨⟨_, _, rfl, rfl, rfl, rfl, (fun h => by cases h), rfl⟩, trivial⟩) (trivial) (⟨(fun h => by cases h), trivial⟩) rfl) trivial rfl ?_
  refine .q (op_assign rfl) trivial rfl ?_
  refine .nil ?_
  show Ev _ _ _ _ _
  refine .ret ?_
  show RetOk _ _ _ _ _ _ _
  exact ret1v rfl (.inl rfl) rfl (congrArg AV.str (by rw [hx, hy, hz] at h; rw [Nat.mod_eq_of_lt h]; rw [hx, hy, hz])) trivial
set_option maxHeartbeats 1000000 in
set_option maxRecDepth 100000 in
theorem maddR_b (x y z : List UInt8) (hx : x.length = 32) (hy : y.length = 32) (hz : z.length = 32) (h : scL ≤ leN x x.length * leN y y.length + leN z z.length) : Meets Tryd.prog 23 [.str x, .str y, .str z] [] (.str (bsN ((leN x 32 * leN y 32 + leN z 32) % scL) 32)) [] := by
  refine meets_of_ev (nt := 20) Tryd.func23 rfl rfl (Nat.le_of_ble_eq_true rfl) ?_
  refine .seq ?_
  refine .region ?_
  refine .q (op_assign rfl) trivial rfl ?_
  refine .nil ?_
  show Ev _ _ _ _ _
  refine .seq ?_
  refine .region ?_
  refine .q (op_move rfl) trivial rfl ?_
  refine .a (op_call (U := [(1000, some ⟨.aggI (dg (leN x x.length)), 3, true⟩)]) [] [(1000, 1000)] (of_ev x (by omega)) Tryd.func72 (by kernel_rfl) rfl rfl rfl (⟨⟨_, rfl, rfl, rfl⟩, trivial⟩) (trivial) (⟨⟨1000, _, rfl, rfl, rfl, rfl, .inl rfl⟩, trivial⟩) (trivial) rfl) trivial rfl ?_
  refine .q (op_move rfl) trivial rfl ?_
  refine .a (op_call (U := [(1008, some ⟨.aggI (dg (leN y y.length)), 3, true⟩)]) [] [(1008, 1000)] (of_ev y (by omega)) Tryd.func72 (by kernel_rfl) rfl rfl rfl (⟨⟨_, rfl, rfl, rfl⟩, trivial⟩) (trivial) (⟨⟨1000, _, rfl, rfl, rfl, rfl, .inl rfl⟩, trivial⟩) (trivial) rfl) trivial rfl ?_
  refine .a (op_call (U := [(1016, some ⟨.aggI (dg (leN x x.length * leN y y.length)), 3, true⟩)]) [(500, 1000), (501, 1008)] [(1016, 1000)] (mul_ev (leN x x.length) (leN y y.length) (by have := dl_leN x x.length; omega) (by have := dl_leN y y.length; omega)) Tryd.func77 (by kernel_rfl) rfl rfl rfl (⟨⟨_, rfl, rfl, rfl⟩, ⟨_, rfl, rfl, rfl⟩, trivial⟩) (⟨⟨_, _, rfl, rfl, rfl, rfl, (fun h => by cases h), rfl⟩, ⟨_, _, rfl, rfl, rfl, rfl, (fun h => by cases h), rfl⟩, trivial⟩) (⟨⟨1000, _, rfl, rfl, rfl, rfl, .inl rfl⟩, trivial⟩) (⟨(fun h => by cases h), (fun h => by cases h), trivial⟩) rfl) trivial rfl ?_
  refine .q (op_move rfl) trivial rfl ?_
  refine .a (op_call (U := [(1024, some ⟨.aggI (dg (leN z z.length)), 3, true⟩)]) [] [(1024, 1000)] (of_ev z (by omega)) Tryd.func72 (by kernel_rfl) rfl rfl rfl (⟨⟨_, rfl, rfl, rfl⟩, trivial⟩) (trivial) (⟨⟨1000, _, rfl, rfl, rfl, rfl, .inl rfl⟩, trivial⟩) (trivial) rfl) trivial rfl ?_
  refine .a (op_call (U := [(1032, some ⟨.aggI (dg (leN x x.length * leN y y.length + leN z z.length)), 3, true⟩)]) [(500, 1016), (501, 1024)] [(1032, 1000)] (add_ev (leN x x.length * leN y y.length) (leN z z.length) (by have h1 := dl_mul (leN x x.length) (leN y y.length); have h2 := dl_leN x x.length; have h3 := dl_leN y y.length; omega) (by have := dl_leN z z.length; omega)) Tryd.func76 (by kernel_rfl) rfl rfl rfl (⟨⟨_, rfl, rfl, rfl⟩, ⟨_, rfl, rfl, rfl⟩, trivial⟩) (⟨⟨_, _, rfl, rfl, rfl, rfl, (fun h => by cases h), rfl⟩, ⟨_, _, rfl, rfl, rfl, rfl, (fun h => by cases h), rfl⟩, trivial⟩) (⟨⟨1000, _, rfl, rfl, rfl, rfl, .inl rfl⟩, trivial⟩) (⟨(fun h => by cases h), (fun h => by cases h), trivial⟩) rfl) trivial rfl ?_
  refine .q (op_assign rfl) trivial rfl ?_
  refine .nil ?_
  show Ev _ _ _ _ _
  refine .seq ?_
  refine .region ?_
  refine .q (op_move rfl) trivial rfl ?_
  refine .a (op_call (U := [(1040, some ⟨.aggI (dg (scL)), 3, true⟩)]) [] [(1040, 1000)] (L_ev) Tryd.func67 (by kernel_rfl) rfl rfl rfl (trivial) (trivial) (⟨⟨1000, _, rfl, rfl, rfl, rfl, .inl rfl⟩, trivial⟩) (trivial) rfl) trivial rfl ?_
  refine .a (op_call (U := [(1048, some ⟨.aggI (dg ((leN x x.length * leN y y.length + leN z z.length) % scL)), 3, true⟩)]) [(500, 1032), (501, 1040)] [(1048, 1000)] (mod_new (leN x x.length * leN y y.length + leN z z.length) scL h scL_pos (by have h1 := dl_mul (leN x x.length) (leN y y.length); have h2 := dl_leN x x.length; have h3 := dl_leN y y.length; have h4 := dl_leN z z.length; have h5 := dl_addF (n := 64) (a := leN x x.length * leN y y.length) (b := leN z z.length) (by omega) (by omega); omega) (by have := dl_scL; omega)) Tryd.func71 (by kernel_rfl) rfl rfl rfl (⟨⟨_, rfl, rfl, rfl⟩, ⟨_, rfl, rfl, rfl⟩, trivial⟩) (⟨⟨_, _, rfl, rfl, rfl, rfl, (fun h => by cases h), rfl⟩, ⟨_, _, rfl, rfl, rfl, rfl, (fun h => by cases h), rfl⟩, trivial⟩) (⟨⟨1000, _, rfl, rfl, rfl, rfl, .inl rfl⟩, trivial⟩) (⟨(fun h => by cases h), (fun h => by cases h), trivial⟩) rfl) trivial rfl ?_
  refine .q (op_call (U := []) [(500, 1048)] [] (bytes_ev ((leN x x.length * leN y y.length + leN z z.length) % scL) 32 (by omega)) Tryd.func66 (by kernel_rfl) rfl rfl rfl (⟨⟨_, rfl, rfl, rfl⟩, ⟨_, rfl, rfl, rfl⟩, trivial⟩) (⟨⟨_, _, rfl, rfl, rfl, rfl, (fun h => by cases h), rfl⟩, trivial⟩) (trivial) (⟨(fun h => by cases h), trivial⟩) rfl) trivial rfl ?_
  refine .q (op_assign rfl) trivial rfl ?_
  refine .nil ?_
  show Ev _ _ _ _ _
  refine .ret ?_
  show RetOk _ _ _ _ _ _ _
  exact ret1v rfl (.inl rfl) rfl (congrArg AV.str (by rw [hx, hy, hz])) trivial
theorem maddR (x y z : List UInt8) (hx : x.length = 32) (hy : y.length = 32) (hz : z.length = 32) : Meets Tryd.prog 23 [.str x, .str y, .str z] [] (.str (bsN ((leN x 32 * leN y 32 + leN z 32) % scL) 32)) [] := by
  by_cases h : leN x x.length * leN y y.length + leN z z.length < scL
  · exact maddR_a x y z hx hy hz h
  · exact maddR_b x y z hx hy hz (by omega)
theorem cmp_flag (a b : Nat) : decide (cmpN a b < 0) = decide (a < b) := by
  by_cases c : a < b
  · rw [cmp_less c, decide_eq_true c]; rfl
  · have := cmp_not (show b ≤ a by omega)
    rw [decide_eq_false c, decide_eq_false (by omega)]
set_option maxHeartbeats 1000000 in
set_option maxRecDepth 100000 in
theorem fitsR (s : List UInt8) (hs : s.length = 32) : Meets Tryd.prog 25 [.str s] [] (.bool (decide (leN s 32 < scL))) [] := by
  refine meets_of_ev (nt := 8) Tryd.func25 rfl rfl (Nat.le_of_ble_eq_true rfl) ?_
  refine .seq ?_
  refine .region ?_
  refine .q (op_assign rfl) trivial rfl ?_
  refine .nil ?_
  show Ev _ _ _ _ _
  refine .seq ?_
  refine .region ?_
  refine .q (op_move rfl) trivial rfl ?_
  refine .a (op_call (U := [(1000, some ⟨.aggI (dg (leN s s.length)), 3, true⟩)]) [] [(1000, 1000)] (of_ev s (by omega)) Tryd.func72 (by kernel_rfl) rfl rfl rfl (⟨⟨_, rfl, rfl, rfl⟩, trivial⟩) (trivial) (⟨⟨1000, _, rfl, rfl, rfl, rfl, .inl rfl⟩, trivial⟩) (trivial) rfl) trivial rfl ?_
  refine .a (op_call (U := [(1008, some ⟨.aggI (dg (scL)), 3, true⟩)]) [] [(1008, 1000)] (L_ev) Tryd.func67 (by kernel_rfl) rfl rfl rfl (trivial) (trivial) (⟨⟨1000, _, rfl, rfl, rfl, rfl, .inl rfl⟩, trivial⟩) (trivial) rfl) trivial rfl ?_
  refine .q (op_call (U := []) [(500, 1000), (501, 1008)] [] (cmp_ev (leN s s.length) scL (by have := dl_leN s s.length; omega) (by have := dl_scL; omega)) Tryd.func78 (by kernel_rfl) rfl rfl rfl (⟨⟨_, rfl, rfl, rfl⟩, ⟨_, rfl, rfl, rfl⟩, trivial⟩) (⟨⟨_, _, rfl, rfl, rfl, rfl, (fun h => by cases h), rfl⟩, ⟨_, _, rfl, rfl, rfl, rfl, (fun h => by cases h), rfl⟩, trivial⟩) (trivial) (⟨(fun h => by cases h), (fun h => by cases h), trivial⟩) rfl) trivial rfl ?_
  refine .q (op_cmpI rfl rfl rfl) trivial rfl ?_
  refine .q (op_assign rfl) trivial rfl ?_
  refine .nil ?_
  show Ev _ _ _ _ _
  refine .ret ?_
  show RetOk _ _ _ _ _ _ _
  exact ret1v rfl (.inl rfl) rfl (congrArg AV.bool (by rw [← hs]; exact cmp_flag _ _)) trivial
end Go.Proofs.YtmnhifagkcmhjaaDoor
namespace Go.Proofs.YtmnhifagkcmhjaaDoor
open Go.RowKit
def rowN (n : UInt8) : List UInt8 := [n, 0, 0, 0, 0, 0, 0, 0, 0, 0, 0, 0, 0, 0, 0, 0, 0, 0, 0, 0, 0, 0, 0, 0, 0, 0, 0, 0, 0, 0, 0, 0]
theorem length_rowN (n : UInt8) : (rowN n).length = 32 := rfl
theorem aw7a : (bsN (leN (bsN scL 32) 64 % scL) 32 == rowN 0) = true := by decide +kernel
theorem aw7b : (bsN (leN [5] 64 % scL) 32 == rowN 5) = true := by decide +kernel
theorem aw7c : decide (leN (rowN 1) 32 < scL) = true := by decide +kernel
theorem aw7d : (bsN ((leN (rowN 2) 32 * leN (rowN 3) 32 + leN (rowN 4) 32) % scL) 32 == rowN 10) = true := by decide +kernel
theorem scL_256 : scL < 256 ^ 32 := by decide +kernel
theorem leN_red (v : Nat) : leN (bsN (v % scL) 32) 32 = v % scL := by
  rw [leN_bsN, Nat.mod_eq_of_lt (Nat.lt_trans (Nat.mod_lt _ scL_pos) scL_256)]
theorem leN_64 (K : List UInt8) (h : K.length = 32) : leN K 64 = leN K 32 := leN_over K 32 32 (by omega)
theorem red_fits (v : Nat) : decide (leN (bsN (v % scL) 32) 32 < scL) = true := by rw [leN_red]; exact decide_eq_true (Nat.mod_lt _ scL_pos)
theorem red_again (v : Nat) : (bsN (leN (bsN (v % scL) 32) 64 % scL) 32 == bsN (v % scL) 32) = true := by
  rw [leN_64 _ (length_bsN _ _), leN_red, Nat.mod_mod, beq_self_eq_true]
theorem madd_comm (a b c : Nat) : (bsN ((b * a + c) % scL) 32 == bsN ((a * b + c) % scL) 32) = true := by rw [Nat.mul_comm b a, beq_self_eq_true]
theorem leN_row0 : leN (rowN 0) 32 = 0 := by decide
theorem leN_row1 : leN (rowN 1) 32 = 1 := by decide
theorem ring7a (a b c : Nat) : (bsN ((a * leN (bsN ((b * leN (rowN 1) 32 + c) % scL) 32) 32 + leN (rowN 0) 32) % scL) 32 == bsN ((a * b + leN (bsN ((a * c + leN (rowN 0) 32) % scL) 32) 32) % scL) 32) = true := by
  rw [leN_red, leN_red, leN_row0, leN_row1, Nat.mul_one, Nat.add_zero, Nat.add_zero, Nat.mul_mod_mod, Nat.add_mod_mod, Nat.mul_add, beq_self_eq_true]
theorem ring7b (a : List UInt8) (h : a.length = 32) : (bsN ((leN a 32 * leN (rowN 1) 32 + leN (rowN 0) 32) % scL) 32 == bsN (leN a 64 % scL) 32) = true := by
  rw [leN_64 a h, leN_row0, leN_row1, Nat.mul_one, Nat.add_zero, beq_self_eq_true]
theorem take_32 {l : List UInt8} (h : l.length = 32) : (l.drop 0).take (32 - 0) = l := by rw [List.drop_zero]; exact List.take_of_length_le (by omega)
set_option maxHeartbeats 1000000 in
set_option maxRecDepth 100000 in
theorem awake7_ev (e : Nat) : Meets Tryd.prog 17 [] (HO e) (.bool true) [] := by
  refine meets_of_ev (nt := 25) Tryd.func17 rfl rfl (Nat.le_of_ble_eq_true rfl) ?_
  refine .seq ?_
  refine .region ?_
  refine .q (op_assign rfl) trivial rfl ?_
  refine .nil ?_
  show Ev _ _ _ _ _
  refine .seq ?_
  refine .region ?_
  refine .a (op_call (U := [(1000, some ⟨.aggI (dg (scL)), 3, true⟩)]) [] [(1000, 1000)] (L_ev) Tryd.func67 (by kernel_rfl) rfl rfl rfl (trivial) (trivial) (⟨⟨1000, _, rfl, rfl, rfl, rfl, .inl rfl⟩, trivial⟩) (trivial) rfl) trivial rfl ?_
  refine .q (op_call (U := []) [(500, 1000)] [] (bytes_ev scL 32 (by omega)) Tryd.func66 (by kernel_rfl) rfl rfl rfl (⟨⟨_, rfl, rfl, rfl⟩, ⟨_, rfl, rfl, rfl⟩, trivial⟩) (⟨⟨_, _, rfl, rfl, rfl, rfl, (fun h => by cases h), rfl⟩, trivial⟩) (trivial) (⟨(fun h => by cases h), trivial⟩) rfl) trivial rfl ?_
  refine .q (op_assign rfl) trivial rfl ?_
  refine .nil ?_
  show Ev _ _ _ _ _
  refine .seq ?_
  refine .region ?_
  refine .q (op_move rfl) trivial rfl ?_
  refine .q (op_call (U := []) [] [] (sReduce_ev e (bsN scL 32) (by rw [length_bsN]; omega)) Tryd.func19 (by kernel_rfl) rfl rfl rfl (⟨⟨_, rfl, rfl, rfl⟩, trivial⟩) (⟨⟨_, _, rfl, rfl, rfl, rfl, id, rfl⟩, trivial⟩) (trivial) (⟨(fun h => by cases h), trivial⟩) rfl) trivial rfl ?_
  refine .q (op_buildArr (us := []) Tryd.underlying24 inf5.sz zero24 rel_zero24 rfl (by decide) trivial rfl) trivial rfl ?_
  refine .as (.aggB (rowN 0)) rfl ?_
  refine .q (op_eqRow8 (n := 32) (by kernel_rfl) Tryd.underlying24 Tryd.underlying5 inf5.sz rfl rfl (by first | omega | exact length_bsN _ _ | exact List.length_replicate | rfl | (simp only [AV.len, length_bsN, length_rowN, List.length_replicate]; done) | (simp only [AV.len]; omega)) (by first | omega | exact length_bsN _ _ | exact List.length_replicate | rfl | (simp only [AV.len, length_bsN, length_rowN, List.length_replicate]; done) | (simp only [AV.len]; omega))) trivial rfl ?_
  refine .as (.bool true) (congrArg AV.bool aw7a) ?_
  refine .q (op_move rfl) trivial rfl ?_
  refine .know (b' := true) (rfl) ?_
  refine .q (op_call (U := []) [] [] (sReduce_ev e [5] (by decide)) Tryd.func19 (by kernel_rfl) rfl rfl rfl (⟨⟨_, rfl, rfl, rfl⟩, trivial⟩) (⟨⟨_, _, rfl, rfl, rfl, rfl, id, rfl⟩, trivial⟩) (trivial) (⟨(fun h => by cases h), trivial⟩) rfl) ⟨_, rfl, rfl⟩ rfl ?_
  refine .q (op_buildArr (us := [(0, _)]) Tryd.underlying24 inf5.sz zero24 rel_zero24 rfl (by decide) ⟨rfl, rfl, rfl, trivial⟩ rfl) ⟨_, rfl, rfl⟩ rfl ?_
  refine .as (.aggB (rowN 5)) rfl ?_
  refine .q (op_eqRow8 (n := 32) (by kernel_rfl) Tryd.underlying24 Tryd.underlying5 inf5.sz rfl rfl (by first | omega | exact length_bsN _ _ | exact List.length_replicate | rfl | (simp only [AV.len, length_bsN, length_rowN, List.length_replicate]; done) | (simp only [AV.len]; omega)) (by first | omega | exact length_bsN _ _ | exact List.length_replicate | rfl | (simp only [AV.len, length_bsN, length_rowN, List.length_replicate]; done) | (simp only [AV.len]; omega))) ⟨_, rfl, rfl⟩ rfl ?_
  refine .as (.bool true) (congrArg AV.bool aw7b) ?_
  refine .q (op_pick_true rfl rfl rfl) trivial rfl ?_
  refine .q (op_move rfl) trivial rfl ?_
  refine .know (b' := true) (rfl) ?_
  refine .q (op_buildArr (us := [(0, _)]) Tryd.underlying24 inf5.sz zero24 rel_zero24 rfl (by decide) ⟨rfl, rfl, rfl, trivial⟩ rfl) ⟨_, rfl, rfl⟩ rfl ?_
  refine .as (.aggB (rowN 1)) rfl ?_
  refine .q (op_call (U := []) [] [] (sFits_ev e (rowN 1) rfl) Tryd.func21 (by kernel_rfl) rfl rfl rfl (⟨⟨_, rfl, rfl, rfl⟩, trivial⟩) (⟨⟨_, _, rfl, rfl, rfl, rfl, id, rfl⟩, trivial⟩) (trivial) (⟨(fun h => by cases h), trivial⟩) rfl) ⟨_, rfl, rfl⟩ rfl ?_
  refine .as (.bool true) (congrArg AV.bool aw7c) ?_
  refine .q (op_pick_true rfl rfl rfl) trivial rfl ?_
  refine .q (op_move rfl) trivial rfl ?_
  refine .know (b' := true) (rfl) ?_
  refine .q (op_buildArr (us := [(0, _)]) Tryd.underlying24 inf5.sz zero24 rel_zero24 rfl (by decide) ⟨rfl, rfl, rfl, trivial⟩ rfl) ⟨_, rfl, rfl⟩ rfl ?_
  refine .as (.aggB (rowN 2)) rfl ?_
  refine .q (op_buildArr (us := [(0, _)]) Tryd.underlying24 inf5.sz zero24 rel_zero24 rfl (by decide) ⟨rfl, rfl, rfl, trivial⟩ rfl) ⟨_, rfl, rfl⟩ rfl ?_
  refine .as (.aggB (rowN 3)) rfl ?_
  refine .q (op_buildArr (us := [(0, _)]) Tryd.underlying24 inf5.sz zero24 rel_zero24 rfl (by decide) ⟨rfl, rfl, rfl, trivial⟩ rfl) ⟨_, rfl, rfl⟩ rfl ?_
  refine .as (.aggB (rowN 4)) rfl ?_
  refine .q (op_call (U := []) [] [] (sMulAdd_ev e (rowN 2) (rowN 3) (rowN 4) rfl rfl rfl) Tryd.func22 (by kernel_rfl) rfl rfl rfl (⟨⟨_, rfl, rfl, rfl⟩, ⟨_, rfl, rfl, rfl⟩, ⟨_, rfl, rfl, rfl⟩, trivial⟩) (⟨⟨_, _, rfl, rfl, rfl, rfl, id, rfl⟩, trivial⟩) (trivial) (⟨(fun h => by cases h), trivial⟩) rfl) ⟨_, rfl, rfl⟩ rfl ?_
  refine .q (op_buildArr (us := [(0, _)]) Tryd.underlying24 inf5.sz zero24 rel_zero24 rfl (by decide) ⟨rfl, rfl, rfl, trivial⟩ rfl) ⟨_, rfl, rfl⟩ rfl ?_
  refine .as (.aggB (rowN 10)) rfl ?_
  refine .q (op_eqRow8 (n := 32) (by kernel_rfl) Tryd.underlying24 Tryd.underlying5 inf5.sz rfl rfl (by first | omega | exact length_bsN _ _ | exact List.length_replicate | rfl | (simp only [AV.len, length_bsN, length_rowN, List.length_replicate]; done) | (simp only [AV.len]; omega)) (by first | omega | exact length_bsN _ _ | exact List.length_replicate | rfl | (simp only [AV.len, length_bsN, length_rowN, List.length_replicate]; done) | (simp only [AV.len]; omega))) ⟨_, rfl, rfl⟩ rfl ?_
  refine .as (.bool true) (congrArg AV.bool aw7d) ?_
  refine .q (op_pick_true rfl rfl rfl) trivial rfl ?_
  refine .q (op_assign rfl) trivial rfl ?_
  refine .nil ?_
  show Ev _ _ _ _ _
  refine .ret ?_
  show RetOk _ _ _ _ _ _ _
  exact ret1v rfl (.inl rfl) rfl rfl trivial
end Go.Proofs.YtmnhifagkcmhjaaDoor
