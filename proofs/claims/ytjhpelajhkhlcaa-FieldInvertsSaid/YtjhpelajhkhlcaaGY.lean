/-
  Texts of this claim.
-/
import Derived.Test.YtjhpelajhkhlcaaGQ
import Derived.Test.YtjhpelajhkhlcaaGI
namespace Go.Proofs.Ytjhpelajhkhlcaa
open Go.RowKit
theorem inv_one (a : Nat) (ha : a < fp) (h : a ≠ 0) : a * (a ^ (fp - 2) % fp) % fp = 1 := by
  have h2 : 2 ≤ fp := by decide
  rw [Nat.mul_mod_mod, ← Nat.pow_succ', show (fp - 2).succ = fp - 1 by omega]
  exact fermat1 prm_fp fun hd => by have := Nat.le_of_dvd (by omega) hd; omega
theorem inv_zero : 0 ^ (fp - 2) % fp = 0 := by
  have h2 : 0 < fp - 2 := by decide
  rw [Nat.zero_pow h2, Nat.zero_mod]
set_option maxHeartbeats 2000000 in
set_option maxRecDepth 100000 in
theorem fieldInvertsA (s : List UInt8) (a : Nat) (ea : ofV (s.take 32) = a) (ha : a < fp) (h0 : a = 0) (hs : s.length ≤ maxLen) : Meets Try.prog 4 [.str s] [] (.bool true) [] := by
  refine meets_of_ev (nt := 34) Try.func4 rfl rfl (Nat.le_of_ble_eq_true rfl) ?_
  refine .seq ?_
  refine .region ?_
  refine .q (op_assign rfl) trivial rfl ?_
  refine .nil ?_
  show Ev _ _ _ _ _
  refine .seq ?_
  refine .seq ?_
  refine .region ?_
  refine .q (op_call (U := []) [] [] (awake5_ev) Try.func5 (by kernel_rfl) rfl rfl rfl (trivial) (trivial) (trivial) (trivial) rfl) trivial rfl ?_
  refine .q (op_notB rfl) trivial rfl ?_
  refine .nil ?_
  show Ev _ _ _ _ _
  refine .cond_false rfl (rfl) ?_
  refine .skip ?_
  show Ev _ _ _ _ _
  refine .seq ?_
  refine .region ?_
  refine .q (op_move rfl) trivial rfl ?_
  refine .q (op_call (U := []) [] [] (cut_ev s 32 hs (by decide)) Try.func6 (by kernel_rfl) rfl rfl rfl (⟨⟨_, rfl, rfl, rfl⟩, ⟨_, rfl, rfl, rfl⟩, trivial⟩) (trivial) (trivial) (trivial) rfl) trivial rfl ?_
  refine .q (op_assign rfl) trivial rfl ?_
  refine .nil ?_
  show Ev _ _ _ _ _
  refine .seq ?_
  refine .region ?_
  refine .q (op_move rfl) trivial rfl ?_
  refine .q (op_call (U := []) [] [] (fof_ev _ (by simp only [List.length_take]; omega)) Try.func8 (by kernel_rfl) rfl rfl rfl (⟨⟨_, rfl, rfl, rfl⟩, trivial⟩) (trivial) (trivial) (trivial) rfl) trivial rfl ?_
  refine .as (.agg64 (fl a)) (congrArg (fun x => AV.agg64 (fl x)) ea) ?_
  refine .q (op_move rfl) trivial rfl ?_
  refine .a (op_call (U := [(1000, some ⟨.aggI (dg (a)), 3, true⟩)]) [] [(1000, 1000)] (of05_as (s.take 32) a ea (by simp only [List.length_take]; omega)) Try.func7 (by kernel_rfl) rfl rfl rfl (⟨⟨_, rfl, rfl, rfl⟩, trivial⟩) (trivial) (⟨⟨1000, _, rfl, rfl, rfl, rfl, .inl rfl⟩, trivial⟩) (trivial) rfl) trivial rfl ?_
  refine .a (op_allocRow zero29 rel_zero29 rfl) trivial rfl ?_
  refine .w (op_storeRow sz29 rfl rfl rfl rfl rfl (rfl) (rfl)) trivial rfl ?_
  refine .q (op_assign rfl) trivial rfl ?_
  refine .nil ?_
  show Ev _ _ _ _ _
  refine .seq ?_
  refine .region ?_
  refine .q (op_loadRow Try.underlying29 rfl sz29 rfl rfl rfl (rfl)) trivial rfl ?_
  refine .q (op_call (U := []) [] [] (finvert_ev a ha) Try.func15 (by kernel_rfl) rfl rfl rfl (⟨⟨_, rfl, rfl, rfl⟩, trivial⟩) (trivial) (trivial) (trivial) rfl) trivial rfl ?_
  refine .a (op_allocRow zero29 rel_zero29 rfl) trivial rfl ?_
  refine .w (op_storeRow sz29 rfl rfl rfl rfl rfl (rfl) (rfl)) trivial rfl ?_
  refine .nil ?_
  show Ev _ _ _ _ _
  refine .seq ?_
  refine .seq ?_
  refine .drawn [[], [], [1], [0, 1, 2], [0, 1, 2, 3]] [0, 2, 3] [] (by kernel_rfl) (by kernel_rfl) rfl ?_
  show DK _ [0, 1, 2, 3, 4] _ _ _
  refine .q rfl (op_loadRow Try.underlying29 rfl sz29 rfl rfl rfl (rfl)) trivial ?_
  refine .q rfl (op_move rfl) trivial ?_
  refine .a rfl (op_call (U := [(1040, some ⟨.aggI (dg ((a ^ (fp - 2) % fp))), 3, true⟩)]) [(500, 1000)] [(1040, 1000)] (invert05 a (by first | assumption | exact Nat.mod_lt _ fp_pos' | exact fmod_lt _ | exact ofV_lt _ | exact fp_pos' | exact pw_lt _ _ _ | decide)) Try.func16 (by kernel_rfl) rfl rfl rfl (⟨⟨_, rfl, rfl, rfl⟩, trivial⟩) (⟨⟨_, _, rfl, rfl, rfl, rfl, (fun h => by cases h), rfl⟩, trivial⟩) (⟨⟨1000, _, rfl, rfl, rfl, rfl, .inl rfl⟩, trivial⟩) (⟨(fun h => by cases h), trivial⟩) rfl) trivial rfl rfl ?_
  refine .q rfl (op_call (U := []) [(500, 1040)] [] (is_ev ((a ^ (fp - 2) % fp))) Try.func9 (by kernel_rfl) rfl rfl rfl (⟨⟨_, rfl, rfl, rfl⟩, ⟨_, rfl, rfl, rfl⟩, trivial⟩) (⟨⟨_, ⟨.aggI (dg ((a ^ (fp - 2) % fp))), 3, true⟩, rfl, by kernel_rfl, rfl, rfl, (fun h => by cases h), rfl⟩, trivial⟩) (trivial) (⟨(fun h => by cases h), trivial⟩) rfl) trivial ?_
  refine .q rfl (op_notB rfl) trivial ?_
  refine .nil ?_
  show Ev _ _ _ _ _
  refine .cond_false rfl (rfl) ?_
  refine .skip ?_
  show Ev _ _ _ _ _
  refine .seq ?_
  refine .region ?_
  refine .q (op_loadRow Try.underlying29 rfl sz29 rfl rfl rfl (rfl)) trivial rfl ?_
  refine .q (op_call (U := []) [] [] (fzero_ev _ (by first | assumption | exact fmod_lt _ | exact ofV_lt _ | exact fp_pos | decide)) Try.func12 (by kernel_rfl) rfl rfl rfl (⟨⟨_, rfl, rfl, rfl⟩, trivial⟩) (trivial) (trivial) (trivial) rfl) trivial rfl ?_
  refine .q (op_move rfl) trivial rfl ?_
  refine .know (b' := true) (decide_eq_true h0) ?_
  refine .q (op_loadRow Try.underlying29 rfl sz29 rfl rfl rfl (rfl)) ⟨_, rfl, rfl⟩ rfl ?_
  refine .q (op_call (U := []) [] [] (fzero_ev _ (by first | assumption | exact fmod_lt _ | exact ofV_lt _ | exact fp_pos | decide)) Try.func12 (by kernel_rfl) rfl rfl rfl (⟨⟨_, rfl, rfl, rfl⟩, trivial⟩) (trivial) (trivial) (trivial) rfl) ⟨_, rfl, rfl⟩ rfl ?_
  refine .q (op_pick_true rfl rfl rfl) trivial rfl ?_
  refine .q (op_move rfl) trivial rfl ?_
  refine .know (b' := true) (decide_eq_true (by rw [h0]; exact inv_zero)) ?_
  refine .no ⟨_, rfl, rfl⟩ rfl ?_
  refine .no ⟨_, rfl, rfl⟩ rfl ?_
  refine .no ⟨_, rfl, rfl⟩ rfl ?_
  refine .no ⟨_, rfl, rfl⟩ rfl ?_
  refine .no ⟨_, rfl, rfl⟩ rfl ?_
  refine .q (op_pick_true rfl rfl rfl) trivial rfl ?_
  refine .q (op_assign rfl) trivial rfl ?_
  refine .nil ?_
  show Ev _ _ _ _ _
  refine .ret ?_
  show RetOk _ _ _ _ _ _ _
  exact ret1v rfl (.inl rfl) rfl (by first | rfl | (simp [h0, inv_zero]; done)) trivial
set_option maxHeartbeats 2000000 in
set_option maxRecDepth 100000 in
theorem fieldInvertsB (s : List UInt8) (a : Nat) (ea : ofV (s.take 32) = a) (ha : a < fp) (h0 : a ≠ 0) (hs : s.length ≤ maxLen) : Meets Try.prog 4 [.str s] [] (.bool true) [] := by
  refine meets_of_ev (nt := 34) Try.func4 rfl rfl (Nat.le_of_ble_eq_true rfl) ?_
  refine .seq ?_
  refine .region ?_
  refine .q (op_assign rfl) trivial rfl ?_
  refine .nil ?_
  show Ev _ _ _ _ _
  refine .seq ?_
  refine .seq ?_
  refine .region ?_
  refine .q (op_call (U := []) [] [] (awake5_ev) Try.func5 (by kernel_rfl) rfl rfl rfl (trivial) (trivial) (trivial) (trivial) rfl) trivial rfl ?_
  refine .q (op_notB rfl) trivial rfl ?_
  refine .nil ?_
  show Ev _ _ _ _ _
  refine .cond_false rfl (rfl) ?_
  refine .skip ?_
  show Ev _ _ _ _ _
  refine .seq ?_
  refine .region ?_
  refine .q (op_move rfl) trivial rfl ?_
  refine .q (op_call (U := []) [] [] (cut_ev s 32 hs (by decide)) Try.func6 (by kernel_rfl) rfl rfl rfl (⟨⟨_, rfl, rfl, rfl⟩, ⟨_, rfl, rfl, rfl⟩, trivial⟩) (trivial) (trivial) (trivial) rfl) trivial rfl ?_
  refine .q (op_assign rfl) trivial rfl ?_
  refine .nil ?_
  show Ev _ _ _ _ _
  refine .seq ?_
  refine .region ?_
  refine .q (op_move rfl) trivial rfl ?_
  refine .q (op_call (U := []) [] [] (fof_ev _ (by simp only [List.length_take]; omega)) Try.func8 (by kernel_rfl) rfl rfl rfl (⟨⟨_, rfl, rfl, rfl⟩, trivial⟩) (trivial) (trivial) (trivial) rfl) trivial rfl ?_
  refine .as (.agg64 (fl a)) (congrArg (fun x => AV.agg64 (fl x)) ea) ?_
  refine .q (op_move rfl) trivial rfl ?_
  refine .a (op_call (U := [(1000, some ⟨.aggI (dg (a)), 3, true⟩)]) [] [(1000, 1000)] (of05_as (s.take 32) a ea (by simp only [List.length_take]; omega)) Try.func7 (by kernel_rfl) rfl rfl rfl (⟨⟨_, rfl, rfl, rfl⟩, trivial⟩) (trivial) (⟨⟨1000, _, rfl, rfl, rfl, rfl, .inl rfl⟩, trivial⟩) (trivial) rfl) trivial rfl ?_
  refine .a (op_allocRow zero29 rel_zero29 rfl) trivial rfl ?_
  refine .w (op_storeRow sz29 rfl rfl rfl rfl rfl (rfl) (rfl)) trivial rfl ?_
  refine .q (op_assign rfl) trivial rfl ?_
  refine .nil ?_
  show Ev _ _ _ _ _
  refine .seq ?_
  refine .region ?_
  refine .q (op_loadRow Try.underlying29 rfl sz29 rfl rfl rfl (rfl)) trivial rfl ?_
  refine .q (op_call (U := []) [] [] (finvert_ev a ha) Try.func15 (by kernel_rfl) rfl rfl rfl (⟨⟨_, rfl, rfl, rfl⟩, trivial⟩) (trivial) (trivial) (trivial) rfl) trivial rfl ?_
  refine .a (op_allocRow zero29 rel_zero29 rfl) trivial rfl ?_
  refine .w (op_storeRow sz29 rfl rfl rfl rfl rfl (rfl) (rfl)) trivial rfl ?_
  refine .nil ?_
  show Ev _ _ _ _ _
  refine .seq ?_
  refine .seq ?_
  refine .drawn [[], [], [1], [0, 1, 2], [0, 1, 2, 3]] [0, 2, 3] [] (by kernel_rfl) (by kernel_rfl) rfl ?_
  show DK _ [0, 1, 2, 3, 4] _ _ _
  refine .q rfl (op_loadRow Try.underlying29 rfl sz29 rfl rfl rfl (rfl)) trivial ?_
  refine .q rfl (op_move rfl) trivial ?_
  refine .a rfl (op_call (U := [(1040, some ⟨.aggI (dg ((a ^ (fp - 2) % fp))), 3, true⟩)]) [(500, 1000)] [(1040, 1000)] (invert05 a (by first | assumption | exact Nat.mod_lt _ fp_pos' | exact fmod_lt _ | exact ofV_lt _ | exact fp_pos' | exact pw_lt _ _ _ | decide)) Try.func16 (by kernel_rfl) rfl rfl rfl (⟨⟨_, rfl, rfl, rfl⟩, trivial⟩) (⟨⟨_, _, rfl, rfl, rfl, rfl, (fun h => by cases h), rfl⟩, trivial⟩) (⟨⟨1000, _, rfl, rfl, rfl, rfl, .inl rfl⟩, trivial⟩) (⟨(fun h => by cases h), trivial⟩) rfl) trivial rfl rfl ?_
  refine .q rfl (op_call (U := []) [(500, 1040)] [] (is_ev ((a ^ (fp - 2) % fp))) Try.func9 (by kernel_rfl) rfl rfl rfl (⟨⟨_, rfl, rfl, rfl⟩, ⟨_, rfl, rfl, rfl⟩, trivial⟩) (⟨⟨_, ⟨.aggI (dg ((a ^ (fp - 2) % fp))), 3, true⟩, rfl, by kernel_rfl, rfl, rfl, (fun h => by cases h), rfl⟩, trivial⟩) (trivial) (⟨(fun h => by cases h), trivial⟩) rfl) trivial ?_
  refine .q rfl (op_notB rfl) trivial ?_
  refine .nil ?_
  show Ev _ _ _ _ _
  refine .cond_false rfl (rfl) ?_
  refine .skip ?_
  show Ev _ _ _ _ _
  refine .seq ?_
  refine .region ?_
  refine .q (op_loadRow Try.underlying29 rfl sz29 rfl rfl rfl (rfl)) trivial rfl ?_
  refine .q (op_call (U := []) [] [] (fzero_ev _ (by first | assumption | exact fmod_lt _ | exact ofV_lt _ | exact fp_pos | decide)) Try.func12 (by kernel_rfl) rfl rfl rfl (⟨⟨_, rfl, rfl, rfl⟩, trivial⟩) (trivial) (trivial) (trivial) rfl) trivial rfl ?_
  refine .q (op_move rfl) trivial rfl ?_
  refine .know (b' := false) (decide_eq_false h0) ?_
  refine .no ⟨_, rfl, rfl⟩ rfl ?_
  refine .no ⟨_, rfl, rfl⟩ rfl ?_
  refine .q (op_pick_false rfl rfl rfl) trivial rfl ?_
  refine .q (op_move rfl) trivial rfl ?_
  refine .q (op_loadRow Try.underlying29 rfl sz29 rfl rfl rfl (rfl)) ⟨_, rfl, rfl⟩ rfl ?_
  refine .q (op_loadRow Try.underlying29 rfl sz29 rfl rfl rfl (rfl)) ⟨_, rfl, rfl⟩ rfl ?_
  refine .q (op_call (U := []) [] [] (fmul_ev _ _ (by first | assumption | exact fmod_lt _ | exact ofV_lt _ | exact fp_pos | decide) (by first | assumption | exact fmod_lt _ | exact ofV_lt _ | exact fp_pos | decide)) Try.func18 (by kernel_rfl) rfl rfl rfl (⟨⟨_, rfl, rfl, rfl⟩, ⟨_, rfl, rfl, rfl⟩, trivial⟩) (trivial) (trivial) (trivial) rfl) ⟨_, rfl, rfl⟩ rfl ?_
  refine .q (op_call (U := []) [] [] (fsmall_ev _) Try.func13 (by kernel_rfl) rfl rfl rfl (⟨⟨_, rfl, rfl, rfl⟩, trivial⟩) (trivial) (trivial) (trivial) rfl) ⟨_, rfl, rfl⟩ rfl ?_
  refine .as (.agg64 (fl 1)) rfl ?_
  refine .q (op_call (U := []) [] [] (fsame_ev _ _ (by first | assumption | exact fmod_lt _ | exact ofV_lt _ | exact fp_pos | decide) (by first | assumption | exact fmod_lt _ | exact ofV_lt _ | exact fp_pos | decide)) Try.func17 (by kernel_rfl) rfl rfl rfl (⟨⟨_, rfl, rfl, rfl⟩, ⟨_, rfl, rfl, rfl⟩, trivial⟩) (trivial) (trivial) (trivial) rfl) ⟨_, rfl, rfl⟩ rfl ?_
  refine .q (op_pick_false rfl rfl rfl) trivial rfl ?_
  refine .q (op_assign rfl) trivial rfl ?_
  refine .nil ?_
  show Ev _ _ _ _ _
  refine .ret ?_
  show RetOk _ _ _ _ _ _ _
  exact ret1v rfl (.inl rfl) rfl (congrArg AV.bool (decide_eq_true (inv_one a ha h0))) trivial
theorem fieldInverts_ev (s : List UInt8) (hs : s.length ≤ maxLen) : Meets Try.prog 4 [.str s] [] (.bool true) [] := by
  by_cases h0 : ofV (s.take 32) = 0
  · exact fieldInvertsA s _ rfl (ofV_lt _) h0 hs
  · exact fieldInvertsB s _ rfl (ofV_lt _) h0 hs
end Go.Proofs.Ytjhpelajhkhlcaa
namespace Go.Proofs.Ytjhpelajhkhlcaa
open Go.RowKit
theorem fieldInverts_any (s : ByteArray) (w : World) (hs : s.size ≤ maxLen) :
    Calls Try.prog 4 #[.string s] w fun e w' => e = .returned (.bool true) ∧ Below w.heap.size w w' := by
  refine walk_of_meets (fieldInverts_ev s.data.toList hs) rfl (fun i x y hx hy => ?_) (fun b k hk => by cases hk)
  match i, hx, hy with
  | 0, hx, hy => injection hx with hx; injection hy with hy; subst hx; subst hy; exact .str _
  | i + 1, hx, _ => simp at hx
end Go.Proofs.Ytjhpelajhkhlcaa
