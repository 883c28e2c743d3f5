/-
  Texts of this claim.
-/
import Derived.Test.YtalhfkmkmmfkcaaDoorGX1
namespace Go.Proofs.YtalhfkmkmmfkcaaDoor
open Go.RowKit
def placesL : List (List UInt8) := [[107, 101, 120], [104, 111, 115, 116], [99, 105, 112, 104, 101, 114, 32, 48], [99, 105, 112, 104, 101, 114, 32, 49], [109, 97, 99, 32, 48], [109, 97, 99, 32, 49], [122, 105, 112, 32, 48], [122, 105, 112, 32, 49]]
theorem has_iff {l : List (List UInt8)} {v : List UInt8} : l.contains v = true ↔ ∃ j, j < l.length ∧ l.getD j [] = v := by
  rw [List.contains_iff_mem]
  constructor
  · intro h
    obtain ⟨j, hj, rfl⟩ := List.mem_iff_getElem.1 h
    exact ⟨j, hj, by simp [List.getD_eq_getElem?_getD, hj]⟩
  · rintro ⟨j, hj, rfl⟩
    rw [show l.getD j [] = l[j] by simp [List.getD_eq_getElem?_getD, hj]]
    exact List.getElem_mem hj
theorem first_of {p : Nat → Bool} {n : Nat} (h : ∃ j, j < n ∧ p j = true) : ∃ j, j < n ∧ p j = true ∧ ∀ i, i < j → p i = false := by
  induction n with
  | zero => obtain ⟨j, hj, _⟩ := h; exact absurd hj (Nat.not_lt_zero _)
  | succ n ih =>
    by_cases hx : ∃ j, j < n ∧ p j = true
    · obtain ⟨j, hj, h1, h2⟩ := ih hx
      exact ⟨j, by omega, h1, h2⟩
    · obtain ⟨j, hj, h1⟩ := h
      refine ⟨j, hj, h1, fun i hi => ?_⟩
      cases hp : p i with
      | false => rfl
      | true => exact absurd ⟨i, by omega, hp⟩ hx
set_option maxRecDepth 100000 in
theorem index_hit (l : List (List UInt8)) (hl : l.length ≤ 9223372036854775000) (v : List UInt8) (j : Nat) (hj : j < l.length) (hv : l.getD j [] = v) (hno : ∀ i, i < j → l.getD i [] ≠ v) : Meets Tryd.prog 21 [.dsl l, .str v] [] (.i64 ((j : Nat) : Int)) [] := by
 refine meets_of_ev (nt := 19) Tryd.func21 rfl rfl (Nat.le_of_ble_eq_true rfl) ?_
 refine .seq ?_
 refine .region ?_
 refine .q (op_assign rfl) trivial rfl ?_
 refine .nil ?_
 show Ev _ _ _ _ _
 refine .seq ?_
 refine .seq ?_
 refine .region ?_
 refine .q (op_move rfl) trivial rfl ?_
 refine .q (op_len_dsl Tryd.underlying22 rfl) trivial rfl ?_
 refine .q (op_move rfl) trivial rfl ?_
 refine .nil ?_
 show Ev _ _ _ _ _
 refine .block ?_
 refine Ev.loop (ι := { k : Nat // k ≤ j }) (fun q => ⟨[(0, .dsl l), (1, .str v), (6, .dsl l), (7, .i64 ((l.length : Nat) : Int)), (8, .i64 ((q.1 : Nat) : Int))], [], 1000⟩) (fun q => j - q.1) ⟨0, Nat.zero_le _⟩ (StLe.mk [] rfl rfl ⟨⟨_, rfl, by first | rfl | (simp only [AV.ren]; congr 1; omega), rfl⟩, ⟨_, rfl, by first | rfl | (simp only [AV.ren]; congr 1; omega), rfl⟩, ⟨_, rfl, by first | rfl | (simp only [AV.ren]; congr 1; omega), rfl⟩, ⟨_, rfl, by first | rfl | (simp only [AV.ren]; congr 1; omega), rfl⟩, ⟨_, rfl, by first | rfl | (simp only [AV.ren]; congr 1; omega), rfl⟩, trivial⟩ trivial) ?_
 rintro ⟨k, hk⟩
 try dsimp only
 refine .seq ?_
 refine .region ?_
 refine .q (op_cmpI rfl rfl rfl) trivial rfl ?_
 refine .nil ?_
 show Ev _ _ _ _ _
 refine .seq ?_
 refine .cond_true rfl (decide_eq_true (by omega)) ?_
 refine .skip ?_
 show Ev _ _ _ _ _
 refine .seq ?_
 refine .block ?_
 refine .seq ?_
 refine .region ?_
 refine .q (op_move rfl) trivial rfl ?_
 refine .q (op_assign rfl) trivial rfl ?_
 refine .nil ?_
 show Ev _ _ _ _ _
 refine .seq ?_
 refine .region ?_
 refine .q (op_move rfl) trivial rfl ?_
 refine .q (op_move rfl) trivial rfl ?_
 refine .q (op_move rfl) trivial rfl ?_
 refine .q (op_indexAddr_dsl Tryd.underlying22 inf9.sz rfl rfl rfl (by first | omega | (simp only [AV.len]; omega) | (simp only [AV.len, List.length_set]; omega) | assumption | (simp [AV.len]; done))) trivial rfl ?_
 refine .q (op_load_dptr Tryd.underlying9 rfl rfl (drop_get (by omega))) trivial rfl ?_
 refine .q (op_eqS rfl rfl rfl) trivial rfl ?_
 refine .nil ?_
 show Ev _ _ _ _ _
 refine .cond rfl (fun hc16 => ?_) (fun hc16 => ?_)
 ·simp only [beq_iff_eq] at hc16
  refine .seq ?_
  refine .region ?_
  refine .q (op_move rfl) trivial rfl ?_
  refine .q (op_assign rfl) trivial rfl ?_
  refine .nil ?_
  show Ev _ _ _ _ _
  refine .ret ?_
  show RetOk _ _ _ _ _ _ _
  have ek : k = j := by (rcases Nat.lt_or_ge k j with h | h) <;> first | exact absurd hc16.symm (hno k h) | omega
  subst ek
  exact ret1v rfl (.inl rfl) rfl rfl trivial
 ·simp only [ne_eq, beq_eq_false_iff_ne] at hc16
  refine .skip ?_
  show Ev _ _ _ _ _
  refine .region ?_
  refine .q (op_addI rfl rfl ⟨by omega, by omega⟩) trivial rfl ?_
  refine .q (op_move rfl) trivial rfl ?_
  refine .nil ?_
  exact ⟨⟨k + 1, by have : k ≠ j := fun e => hc16 (by rw [e]; exact hv.symm); omega⟩, by (try dsimp only); have : k ≠ j := fun e => hc16 (by rw [e]; exact hv.symm); omega, StLe.mk [] rfl rfl ⟨⟨_, rfl, by first | rfl | (simp only [AV.ren]; congr 1; omega), rfl⟩, ⟨_, rfl, by first | rfl | (simp only [AV.ren]; congr 1; omega), rfl⟩, ⟨_, rfl, by first | rfl | (simp only [AV.ren]; congr 1; omega), rfl⟩, ⟨_, rfl, by first | rfl | (simp only [AV.ren]; congr 1; omega), rfl⟩, ⟨_, rfl, by first | rfl | (simp only [AV.ren]; congr 1; omega), rfl⟩, trivial⟩ trivial⟩
set_option maxRecDepth 100000 in
theorem index_miss (l : List (List UInt8)) (hl : l.length ≤ 9223372036854775000) (v : List UInt8) (hno : ∀ i, i < l.length → l.getD i [] ≠ v) : Meets Tryd.prog 21 [.dsl l, .str v] [] (.i64 (-1)) [] := by
 refine meets_of_ev (nt := 19) Tryd.func21 rfl rfl (Nat.le_of_ble_eq_true rfl) ?_
 refine .seq ?_
 refine .region ?_
 refine .q (op_assign rfl) trivial rfl ?_
 refine .nil ?_
 show Ev _ _ _ _ _
 refine .seq ?_
 refine .seq ?_
 refine .region ?_
 refine .q (op_move rfl) trivial rfl ?_
 refine .q (op_len_dsl Tryd.underlying22 rfl) trivial rfl ?_
 refine .q (op_move rfl) trivial rfl ?_
 refine .nil ?_
 show Ev _ _ _ _ _
 refine .block ?_
 refine Ev.loop (ι := { k : Nat // k ≤ l.length }) (fun q => ⟨[(0, .dsl l), (1, .str v), (6, .dsl l), (7, .i64 ((l.length : Nat) : Int)), (8, .i64 ((q.1 : Nat) : Int))], [], 1000⟩) (fun q => l.length - q.1) ⟨0, Nat.zero_le _⟩ (StLe.mk [] rfl rfl ⟨⟨_, rfl, by first | rfl | (simp only [AV.ren]; congr 1; omega), rfl⟩, ⟨_, rfl, by first | rfl | (simp only [AV.ren]; congr 1; omega), rfl⟩, ⟨_, rfl, by first | rfl | (simp only [AV.ren]; congr 1; omega), rfl⟩, ⟨_, rfl, by first | rfl | (simp only [AV.ren]; congr 1; omega), rfl⟩, ⟨_, rfl, by first | rfl | (simp only [AV.ren]; congr 1; omega), rfl⟩, trivial⟩ trivial) ?_
 rintro ⟨k, hk⟩
 try dsimp only
 refine .seq ?_
 refine .region ?_
 refine .q (op_cmpI rfl rfl rfl) trivial rfl ?_
 refine .nil ?_
 show Ev _ _ _ _ _
 refine .seq ?_
 refine .cond rfl (fun hc9 => ?_) (fun hc9 => ?_)
 ·simp only [decide_eq_true_eq] at hc9
  refine .skip ?_
  show Ev _ _ _ _ _
  refine .seq ?_
  refine .block ?_
  refine .seq ?_
  refine .region ?_
  refine .q (op_move rfl) trivial rfl ?_
  refine .q (op_assign rfl) trivial rfl ?_
  refine .nil ?_
  show Ev _ _ _ _ _
  refine .seq ?_
  refine .region ?_
  refine .q (op_move rfl) trivial rfl ?_
  refine .q (op_move rfl) trivial rfl ?_
  refine .q (op_move rfl) trivial rfl ?_
  refine .q (op_indexAddr_dsl Tryd.underlying22 inf9.sz rfl rfl rfl (by first | omega | (simp only [AV.len]; omega) | (simp only [AV.len, List.length_set]; omega) | assumption | (simp [AV.len]; done))) trivial rfl ?_
  refine .q (op_load_dptr Tryd.underlying9 rfl rfl (drop_get (by omega))) trivial rfl ?_
  refine .q (op_eqS rfl rfl rfl) trivial rfl ?_
  refine .nil ?_
  show Ev _ _ _ _ _
  refine .cond_false rfl (beq_eq_false_iff_ne.2 (fun e => hno k (by omega) e.symm)) ?_
  refine .skip ?_
  show Ev _ _ _ _ _
  refine .region ?_
  refine .q (op_addI rfl rfl ⟨by omega, by omega⟩) trivial rfl ?_
  refine .q (op_move rfl) trivial rfl ?_
  refine .nil ?_
  exact ⟨⟨k + 1, by omega⟩, by (try dsimp only); omega, StLe.mk [] rfl rfl ⟨⟨_, rfl, by first | rfl | (simp only [AV.ren]; congr 1; omega), rfl⟩, ⟨_, rfl, by first | rfl | (simp only [AV.ren]; congr 1; omega), rfl⟩, ⟨_, rfl, by first | rfl | (simp only [AV.ren]; congr 1; omega), rfl⟩, ⟨_, rfl, by first | rfl | (simp only [AV.ren]; congr 1; omega), rfl⟩, ⟨_, rfl, by first | rfl | (simp only [AV.ren]; congr 1; omega), rfl⟩, trivial⟩ trivial⟩
 ·simp only [decide_eq_false_iff_not] at hc9
  refine .exit ?_
  show Ev _ _ _ _ _
  refine .seq ?_
  refine .region ?_
  refine .q (op_assign rfl) trivial rfl ?_
  refine .nil ?_
  show Ev _ _ _ _ _
  refine .ret ?_
  show RetOk _ _ _ _ _ _ _
  exact ret1v rfl (.inl rfl) rfl rfl trivial
set_option maxRecDepth 100000 in
theorem cont_hit (l : List (List UInt8)) (hl : l.length ≤ 9223372036854775000) (v : List UInt8) (j : Nat) (hj : j < l.length) (hv : l.getD j [] = v) (hno : ∀ i, i < j → l.getD i [] ≠ v) : Meets Tryd.prog 15 [.dsl l, .str v] [] (.bool true) [] := by
 refine meets_of_ev (nt := 9) Tryd.func15 rfl rfl (Nat.le_of_ble_eq_true rfl) ?_
 refine .seq ?_
 refine .region ?_
 refine .q (op_assign rfl) trivial rfl ?_
 refine .nil ?_
 show Ev _ _ _ _ _
 refine .seq ?_
 refine .region ?_
 refine .q (op_move rfl) trivial rfl ?_
 refine .q (op_move rfl) trivial rfl ?_
 refine .q (op_call (U := []) [] [] (index_hit l hl v j hj hv hno) Tryd.func21 (by kernel_rfl) rfl rfl rfl (⟨⟨_, rfl, rfl, rfl⟩, ⟨_, rfl, rfl, rfl⟩, trivial⟩) (trivial) (trivial) (trivial) rfl) trivial rfl ?_
 refine .q (op_cmpI rfl rfl rfl) trivial rfl ?_
 refine .q (op_assign rfl) trivial rfl ?_
 refine .nil ?_
 show Ev _ _ _ _ _
 refine .ret ?_
 show RetOk _ _ _ _ _ _ _
 exact ret1v rfl (.inl rfl) rfl (congrArg AV.bool (decide_eq_true (by omega))) trivial
set_option maxRecDepth 100000 in
theorem cont_miss (l : List (List UInt8)) (hl : l.length ≤ 9223372036854775000) (v : List UInt8) (hno : ∀ i, i < l.length → l.getD i [] ≠ v) : Meets Tryd.prog 15 [.dsl l, .str v] [] (.bool false) [] := by
 refine meets_of_ev (nt := 9) Tryd.func15 rfl rfl (Nat.le_of_ble_eq_true rfl) ?_
 refine .seq ?_
 refine .region ?_
 refine .q (op_assign rfl) trivial rfl ?_
 refine .nil ?_
 show Ev _ _ _ _ _
 refine .seq ?_
 refine .region ?_
 refine .q (op_move rfl) trivial rfl ?_
 refine .q (op_move rfl) trivial rfl ?_
 refine .q (op_call (U := []) [] [] (index_miss l hl v hno) Tryd.func21 (by kernel_rfl) rfl rfl rfl (⟨⟨_, rfl, rfl, rfl⟩, ⟨_, rfl, rfl, rfl⟩, trivial⟩) (trivial) (trivial) (trivial) rfl) trivial rfl ?_
 refine .q (op_cmpI rfl rfl rfl) trivial rfl ?_
 refine .q (op_assign rfl) trivial rfl ?_
 refine .nil ?_
 show Ev _ _ _ _ _
 refine .ret ?_
 show RetOk _ _ _ _ _ _ _
 exact ret1v rfl (.inl rfl) rfl (rfl) trivial
theorem cont_ev (l : List (List UInt8)) (hl : l.length ≤ 9223372036854775000) (v : List UInt8) : Meets Tryd.prog 15 [.dsl l, .str v] [] (.bool (l.contains v)) [] := by
 by_cases h : ∃ j, j < l.length ∧ (l.getD j [] == v) = true
 ·obtain ⟨j, h1, h2, h3⟩ := first_of (p := fun j => l.getD j [] == v) h
  rw [show l.contains v = true from has_iff.2 ⟨j, h1, eq_of_beq h2⟩]
  exact cont_hit l hl v j h1 (eq_of_beq h2) (fun i hi => ne_of_beq_false (h3 i hi))
 ·have hno : ∀ i, i < l.length → l.getD i [] ≠ v := fun i hi e => h ⟨i, hi, by rw [e]; exact beq_self_eq_true _⟩
  rw [show l.contains v = false by
   cases hc : l.contains v with
   | false => rfl
   | true => obtain ⟨j, h1, h2⟩ := has_iff.1 hc; exact absurd h2 (hno j h1)]
  exact cont_miss l hl v hno
set_option maxRecDepth 100000 in
theorem choose_hit (c s : List (List UInt8)) (hcl : c.length ≤ 1000000) (hsl : s.length ≤ 1000000) (i : Nat) (hi : i < c.length) (hin : s.contains (c.getD i []) = true) (hno : ∀ k, k < i → s.contains (c.getD k []) = false) : Meets Tryd.prog 6 [.dsl c, .dsl s] [] (.tup [.str (c.getD i []), .val .nilIface]) [] := by
 refine meets_of_ev (nt := 20) Tryd.func6 rfl rfl (Nat.le_of_ble_eq_true rfl) ?_
 refine .seq ?_
 refine .region ?_
 refine .q (op_assign rfl) trivial rfl ?_
 refine .q (op_assign rfl) trivial rfl ?_
 refine .nil ?_
 show Ev _ _ _ _ _
 refine .seq ?_
 refine .seq ?_
 refine .region ?_
 refine .q (op_move rfl) trivial rfl ?_
 refine .q (op_len_dsl Tryd.underlying22 rfl) trivial rfl ?_
 refine .q (op_move rfl) trivial rfl ?_
 refine .nil ?_
 show Ev _ _ _ _ _
 refine .block ?_
 refine Ev.loop (ι := { k : Nat // k ≤ i }) (fun q => ⟨[(1, .dsl s), (8, .dsl c), (9, .i64 ((c.length : Nat) : Int)), (10, .i64 ((q.1 : Nat) : Int))], [], 1000⟩) (fun q => i - q.1) ⟨0, Nat.zero_le _⟩ (StLe.mk [] rfl rfl ⟨⟨_, rfl, by first | rfl | (simp only [AV.ren]; congr 1; omega), rfl⟩, ⟨_, rfl, by first | rfl | (simp only [AV.ren]; congr 1; omega), rfl⟩, ⟨_, rfl, by first | rfl | (simp only [AV.ren]; congr 1; omega), rfl⟩, ⟨_, rfl, by first | rfl | (simp only [AV.ren]; congr 1; omega), rfl⟩, trivial⟩ trivial) ?_
 rintro ⟨k, hk⟩
 try dsimp only
 refine .seq ?_
 refine .region ?_
 refine .q (op_cmpI rfl rfl rfl) trivial rfl ?_
 refine .nil ?_
 show Ev _ _ _ _ _
 refine .seq ?_
 refine .cond_true rfl (decide_eq_true (by omega)) ?_
 refine .skip ?_
 show Ev _ _ _ _ _
 refine .seq ?_
 refine .block ?_
 refine .seq ?_
 refine .region ?_
 refine .q (op_indexAddr_dsl Tryd.underlying22 inf9.sz rfl rfl rfl (by first | omega | (simp only [AV.len]; omega) | (simp only [AV.len, List.length_set]; omega) | assumption | (simp [AV.len]; done))) trivial rfl ?_
 refine .q (op_load_dptr Tryd.underlying9 rfl rfl (drop_get (by omega))) trivial rfl ?_
 refine .q (op_assign rfl) trivial rfl ?_
 refine .nil ?_
 show Ev _ _ _ _ _
 refine .seq ?_
 refine .region ?_
 refine .q (op_move rfl) trivial rfl ?_
 refine .q (op_move rfl) trivial rfl ?_
 refine .q (op_call (U := []) [] [] (cont_ev s (by omega) (c.getD k [])) Tryd.func15 (by kernel_rfl) rfl rfl rfl (⟨⟨_, rfl, rfl, rfl⟩, ⟨_, rfl, rfl, rfl⟩, trivial⟩) (trivial) (trivial) (trivial) rfl) trivial rfl ?_
 refine .nil ?_
 show Ev _ _ _ _ _
 refine .cond rfl (fun hc16 => ?_) (fun hc16 => ?_)
 ·skip
  refine .seq ?_
  refine .region ?_
  refine .q (op_move rfl) trivial rfl ?_
  refine .q (op_assign rfl) trivial rfl ?_
  refine .q (op_assign rfl) trivial rfl ?_
  refine .nil ?_
  show Ev _ _ _ _ _
  refine .ret ?_
  show RetOk _ _ _ _ _ _ _
  have ek : k = i := by (rcases Nat.lt_or_ge k i with h | h) <;> first | exact absurd (hc16.symm.trans (hno k h)) (by decide) | omega
  subst ek
  exact ret2v rfl (.inl rfl) rfl rfl rfl rfl trivial
 ·skip
  refine .skip ?_
  show Ev _ _ _ _ _
  refine .region ?_
  refine .q (op_addI rfl rfl ⟨by omega, by omega⟩) trivial rfl ?_
  refine .q (op_move rfl) trivial rfl ?_
  refine .nil ?_
  exact ⟨⟨k + 1, by have : k ≠ i := fun e => (by rw [e, hin] at hc16; cases hc16); omega⟩, by (try dsimp only); have : k ≠ i := fun e => (by rw [e, hin] at hc16; cases hc16); omega, StLe.mk [] rfl rfl ⟨⟨_, rfl, by first | rfl | (simp only [AV.ren]; congr 1; omega), rfl⟩, ⟨_, rfl, by first | rfl | (simp only [AV.ren]; congr 1; omega), rfl⟩, ⟨_, rfl, by first | rfl | (simp only [AV.ren]; congr 1; omega), rfl⟩, ⟨_, rfl, by first | rfl | (simp only [AV.ren]; congr 1; omega), rfl⟩, trivial⟩ trivial⟩
set_option maxRecDepth 100000 in
theorem choose_miss (c s : List (List UInt8)) (hcl : c.length ≤ 1000000) (hsl : s.length ≤ 1000000) (hno : ∀ k, k < c.length → s.contains (c.getD k []) = false) (eo : Nat → Nat × Nat) : Meets Tryd.prog 6 [.dsl c, .dsl s] [(0, some ⟨.agg [.err 111 (13) (offE eo (13))], errT, false⟩)] (.tup [.str [], .err 111 (13) (offE eo (13))]) [] := by
 refine meets_of_ev (nt := 20) Tryd.func6 rfl rfl (Nat.le_of_ble_eq_true rfl) ?_
 refine .seq ?_
 refine .region ?_
 refine .q (op_assign rfl) trivial rfl ?_
 refine .q (op_assign rfl) trivial rfl ?_
 refine .nil ?_
 show Ev _ _ _ _ _
 refine .seq ?_
 refine .seq ?_
 refine .region ?_
 refine .q (op_move rfl) trivial rfl ?_
 refine .q (op_len_dsl Tryd.underlying22 rfl) trivial rfl ?_
 refine .q (op_move rfl) trivial rfl ?_
 refine .nil ?_
 show Ev _ _ _ _ _
 refine .block ?_
 refine Ev.loop (ι := { k : Nat // k ≤ c.length }) (fun q => ⟨[(1, .dsl s), (8, .dsl c), (9, .i64 ((c.length : Nat) : Int)), (10, .i64 ((q.1 : Nat) : Int))], [(0, some ⟨.agg [.err 111 (13) (offE eo (13))], errT, false⟩)], 1000⟩) (fun q => c.length - q.1) ⟨0, Nat.zero_le _⟩ (StLe.mk [] rfl rfl ⟨⟨_, rfl, by first | rfl | (simp only [AV.ren]; congr 1; omega), rfl⟩, ⟨_, rfl, by first | rfl | (simp only [AV.ren]; congr 1; omega), rfl⟩, ⟨_, rfl, by first | rfl | (simp only [AV.ren]; congr 1; omega), rfl⟩, ⟨_, rfl, by first | rfl | (simp only [AV.ren]; congr 1; omega), rfl⟩, trivial⟩ ⟨⟨_, _, rfl, rfl, rfl, rfl, id, rfl⟩, trivial⟩) ?_
 rintro ⟨k, hk⟩
 try dsimp only
 refine .seq ?_
 refine .region ?_
 refine .q (op_cmpI rfl rfl rfl) trivial rfl ?_
 refine .nil ?_
 show Ev _ _ _ _ _
 refine .seq ?_
 refine .cond rfl (fun hc11 => ?_) (fun hc11 => ?_)
 ·simp only [decide_eq_true_eq] at hc11
  refine .skip ?_
  show Ev _ _ _ _ _
  refine .seq ?_
  refine .block ?_
  refine .seq ?_
  refine .region ?_
  refine .q (op_indexAddr_dsl Tryd.underlying22 inf9.sz rfl rfl rfl (by first | omega | (simp only [AV.len]; omega) | (simp only [AV.len, List.length_set]; omega) | assumption | (simp [AV.len]; done))) trivial rfl ?_
  refine .q (op_load_dptr Tryd.underlying9 rfl rfl (drop_get (by omega))) trivial rfl ?_
  refine .q (op_assign rfl) trivial rfl ?_
  refine .nil ?_
  show Ev _ _ _ _ _
  refine .seq ?_
  refine .region ?_
  refine .q (op_move rfl) trivial rfl ?_
  refine .q (op_move rfl) trivial rfl ?_
  refine .q (op_call (U := []) [] [] (cont_ev s (by omega) (c.getD k [])) Tryd.func15 (by kernel_rfl) rfl rfl rfl (⟨⟨_, rfl, rfl, rfl⟩, ⟨_, rfl, rfl, rfl⟩, trivial⟩) (trivial) (trivial) (trivial) rfl) trivial rfl ?_
  refine .nil ?_
  show Ev _ _ _ _ _
  refine .cond_false rfl (hno k (by omega)) ?_
  refine .skip ?_
  show Ev _ _ _ _ _
  refine .region ?_
  refine .q (op_addI rfl rfl ⟨by omega, by omega⟩) trivial rfl ?_
  refine .q (op_move rfl) trivial rfl ?_
  refine .nil ?_
  exact ⟨⟨k + 1, by omega⟩, by (try dsimp only); omega, StLe.mk [] rfl rfl ⟨⟨_, rfl, by first | rfl | (simp only [AV.ren]; congr 1; omega), rfl⟩, ⟨_, rfl, by first | rfl | (simp only [AV.ren]; congr 1; omega), rfl⟩, ⟨_, rfl, by first | rfl | (simp only [AV.ren]; congr 1; omega), rfl⟩, ⟨_, rfl, by first | rfl | (simp only [AV.ren]; congr 1; omega), rfl⟩, trivial⟩ ⟨⟨_, _, rfl, rfl, rfl, rfl, id, rfl⟩, trivial⟩⟩
 ·simp only [decide_eq_false_iff_not] at hc11
  refine .exit ?_
  show Ev _ _ _ _ _
  refine .seq ?_
  refine .drawn [[], [], [0, 1]] [0] [] (by kernel_rfl) (by kernel_rfl) rfl ?_
  show DK _ [0, 1, 2] _ _ _
  refine .q rfl (op_load Tryd.underlying25 rfl rfl rfl rfl (by first | omega | (simp only [AV.len]; omega) | (simp only [AV.len]; omega) | assumption | (simp [AV.len]; done))) trivial ?_
  refine .q rfl (op_assign rfl) trivial ?_
  refine .q rfl (op_assign rfl) trivial ?_
  refine .nil ?_
  show Ev _ _ _ _ _
  refine .ret ?_
  show RetOk _ _ _ _ _ _ _
  exact ret2v rfl (.inl rfl) rfl rfl rfl rfl trivial
set_option maxRecDepth 100000 in
theorem wrap_nil (s : List UInt8) : Meets Tryd.prog 30 [.str s, .val .nilIface] [] (.val .nilIface) [] := by
 refine meets_of_ev (nt := 12) Tryd.func30 rfl rfl (Nat.le_of_ble_eq_true rfl) ?_
 refine .seq ?_
 refine .region ?_
 refine .q (op_assign rfl) trivial rfl ?_
 refine .nil ?_
 show Ev _ _ _ _ _
 refine .seq ?_
 refine .seq ?_
 refine .region ?_
 refine .q (op_move rfl) trivial rfl ?_
 refine .q (op_eqNilNil Tryd.underlying25 rfl rfl) trivial rfl ?_
 refine .nil ?_
 show Ev _ _ _ _ _
 refine .cond_true rfl (rfl) ?_
 refine .seq ?_
 refine .region ?_
 refine .q (op_assign rfl) trivial rfl ?_
 refine .nil ?_
 show Ev _ _ _ _ _
 refine .ret ?_
 show RetOk _ _ _ _ _ _ _
 exact ret1v rfl (.inl rfl) rfl (rfl) trivial
set_option maxRecDepth 100000 in
theorem tchoose_ev (u1 u2 : List UInt32) (s1 s2 : List (List UInt8)) (n1 n2 : List (List (List UInt8))) (b1 b2 : List Bool) (i : Nat) (hi : i < 8) (hn1 : 8 ≤ n1.length) (hn2 : 8 ≤ n2.length) (hl1 : (n1.getD i []).length ≤ 1000000) (hl2 : (n2.getD i []).length ≤ 1000000) (h0 : 0 < (n1.getD i []).length) (hin : (n2.getD i []).contains ((n1.getD i []).getD 0 []) = true) : Meets Tryd.prog 25 [.ptr 500 0, .i64 ((i : Nat) : Int)] [(500, some ⟨.agg [.i64 20, .fsl (List.map AV.u32 u1) (u1).length 1, .dsl s1, .fsl (List.map AV.dsl n1) (n1).length 1, .fsl (List.map AV.bool b1) (b1).length 1, .i64 20, .fsl (List.map AV.u32 u2) (u2).length 1, .dsl s2, .fsl (List.map AV.dsl n2) (n2).length 1, .fsl (List.map AV.bool b2) (b2).length 1, .err 111 0 (0, 0)], 60, true⟩), (20, some ⟨.aggS placesL, errT, false⟩)] (.str ((n1.getD i []).getD 0 [])) [(500, some ⟨.agg [.i64 20, .fsl (List.map AV.u32 u1) (u1).length 1, .dsl s1, .fsl (List.map AV.dsl n1) (n1).length 1, .fsl (List.map AV.bool b1) (b1).length 1, .i64 20, .fsl (List.map AV.u32 u2) (u2).length 1, .dsl s2, .fsl (List.map AV.dsl n2) (n2).length 1, .fsl (List.map AV.bool b2) (b2).length 1, .err 111 0 (0, 0)], 60, true⟩)] := by
 refine meets_of_ev (nt := 43) Tryd.func25 rfl rfl (Nat.le_of_ble_eq_true rfl) ?_
 refine .seq ?_
 refine .region ?_
 refine .q (op_assign rfl) trivial rfl ?_
 refine .nil ?_
 show Ev _ _ _ _ _
 refine .seq ?_
 refine .seq ?_
 refine .region ?_
 refine .q (op_move rfl) trivial rfl ?_
 refine .q (op_nilCheck rfl) trivial rfl ?_
 refine .q (op_fieldAddr (m := 0) Tryd.underlying60 rfl (by kernel_rfl) rfl) trivial rfl ?_
 refine .as (.ptr 500 10) rfl ?_
 refine .q (op_load Tryd.underlying25 rfl rfl rfl rfl (by show 10 < 11; decide)) trivial rfl ?_
 refine .q (op_eqErrNil (e := 0) Tryd.underlying25 rfl rfl) trivial rfl ?_
 refine .nil ?_
 show Ev _ _ _ _ _
 refine .cond_false rfl (rfl) ?_
 refine .skip ?_
 show Ev _ _ _ _ _
 refine .seq ?_
 refine .drawn [[], [0], [0, 1], [0, 1, 2], [0, 1, 2, 3], [0, 1, 2, 3, 4], [], [0, 1, 2, 3, 4, 5, 6], [0, 1, 2, 3, 4, 5, 6, 7], [], [9], [9, 10], [9, 10, 11], [9, 10, 11, 12], [9, 10, 11, 12, 13], [], [9, 10, 11, 12, 13, 14, 15], [9, 10, 11, 12, 13, 14, 15, 16], [0, 1, 2, 3, 4, 5, 6, 7, 8, 9, 10, 11, 12, 13, 14, 15, 16, 17], [0, 1, 2, 3, 4, 5, 6, 7, 8, 9, 10, 11, 12, 13, 14, 15, 16, 17, 18], [0, 1, 2, 3, 4, 5, 6, 7, 8, 9, 10, 11, 12, 13, 14, 15, 16, 17, 18, 19], [0, 1, 2, 3, 4, 5, 6, 7, 8, 9, 10, 11, 12, 13, 14, 15, 16, 17, 18, 19], [0, 1, 2, 3, 4, 5, 6, 7, 8, 9, 10, 11, 12, 13, 14, 15, 16, 17, 18, 19, 20], [0, 1, 2, 3, 4, 5, 6, 7, 8, 9, 10, 11, 12, 13, 14, 15, 16, 17, 18, 19, 20, 21, 22]] [5, 8, 14, 17, 18] [] (by kernel_rfl) (by kernel_rfl) rfl ?_
 show DK _ [0, 1, 2, 3, 4, 5, 6, 7, 8, 9, 10, 11, 12, 13, 14, 15, 16, 17, 18, 19, 20, 21, 22, 23] _ _ _
 refine .q rfl (op_move rfl) trivial ?_
 refine .q rfl (op_nilCheck rfl) trivial ?_
 refine .q rfl (op_fieldAddr (m := 9) Tryd.underlying60 rfl (by kernel_rfl) rfl) trivial ?_
 refine .as (.ptr 500 0) rfl ?_
 refine .q rfl (op_indexAddr_arr (i := 0) Tryd.underlying58 sz41 rfl rfl rfl (by decide)) trivial ?_
 refine .as (.ptr 500 0) rfl ?_
 refine .q rfl (op_fieldAddr (m := 0) Tryd.underlying41 rfl (by kernel_rfl) rfl) trivial ?_
 refine .as (.ptr 500 3) rfl ?_
 refine .q rfl (op_load Tryd.underlying38 rfl rfl rfl rfl (by show 3 < 11; decide)) trivial ?_
 refine .q rfl (op_move rfl) trivial ?_
 refine .q rfl (op_indexAddr_fsl (z := 1) Tryd.underlying38 inf22.sz (by decide) rfl rfl rfl (by omega)) trivial ?_
 refine .q rfl (op_load_fptr Tryd.underlying22 rfl rfl (get_names (by omega))) trivial ?_
 refine .q rfl (op_move rfl) trivial ?_
 refine .q rfl (op_nilCheck rfl) trivial ?_
 refine .q rfl (op_fieldAddr (m := 9) Tryd.underlying60 rfl (by kernel_rfl) rfl) trivial ?_
 refine .as (.ptr 500 0) rfl ?_
 refine .q rfl (op_indexAddr_arr (i := 1) Tryd.underlying58 sz41 rfl rfl rfl (by decide)) trivial ?_
 refine .as (.ptr 500 5) rfl ?_
 refine .q rfl (op_fieldAddr (m := 0) Tryd.underlying41 rfl (by kernel_rfl) rfl) trivial ?_
 refine .as (.ptr 500 8) rfl ?_
 refine .q rfl (op_load Tryd.underlying38 rfl rfl rfl rfl (by show 8 < 11; decide)) trivial ?_
 refine .q rfl (op_move rfl) trivial ?_
 refine .q rfl (op_indexAddr_fsl (z := 1) Tryd.underlying38 inf22.sz (by decide) rfl rfl rfl (by omega)) trivial ?_
 refine .q rfl (op_load_fptr Tryd.underlying22 rfl rfl (get_names (by omega))) trivial ?_
 refine .q rfl (op_call (U := []) [] [] (choose_hit (n1.getD i []) (n2.getD i []) hl1 hl2 0 h0 hin (fun k h => absurd h (Nat.not_lt_zero _))) Tryd.func6 (by kernel_rfl) rfl rfl rfl (⟨⟨_, rfl, rfl, rfl⟩, ⟨_, rfl, rfl, rfl⟩, trivial⟩) (trivial) (trivial) (trivial) rfl) trivial ?_
 refine .q rfl (op_move rfl) trivial ?_
 refine .q rfl (op_extract rfl rfl) trivial ?_
 refine .q rfl (op_extract rfl rfl) trivial ?_
 refine .q rfl (op_assign rfl) trivial ?_
 refine .q rfl (op_assign rfl) trivial ?_
 refine .nil ?_
 show Ev _ _ _ _ _
 refine .seq ?_
 refine .region ?_
 refine .q (op_move rfl) trivial rfl ?_
 refine .q (op_move rfl) trivial rfl ?_
 refine .q (ap_idx_arr Tryd.underlying84 inf9.sz rfl rfl rfl (by omega)) trivial rfl ?_
 refine .q (op_load (k := ⟨.aggS placesL, errT, false⟩) Tryd.underlying9 rfl rfl rfl rfl (show i < 8 by omega)) trivial rfl ?_
 refine .q (op_move rfl) trivial rfl ?_
 refine .q (op_call (U := []) [] [] (wrap_nil (placesL.getD i [])) Tryd.func30 (by kernel_rfl) rfl rfl rfl (⟨⟨_, rfl, rfl, rfl⟩, ⟨_, rfl, rfl, rfl⟩, trivial⟩) (trivial) (trivial) (trivial) rfl) trivial rfl ?_
 refine .asR (.err 111 0 (0, 0)) (nil_err _ _) ?_
 refine .q (op_nilCheck rfl) trivial rfl ?_
 refine .q (op_fieldAddr (m := 0) Tryd.underlying60 rfl (by kernel_rfl) rfl) trivial rfl ?_
 refine .as (.ptr 500 10) rfl ?_
 refine .w (op_store (by kernel_rfl) rfl rfl rfl rfl rfl (by show 10 < 11; decide)) trivial rfl ?_
 refine .nil ?_
 show Ev _ _ _ _ _
 refine .seq ?_
 refine .region ?_
 refine .q (op_move rfl) trivial rfl ?_
 refine .q (op_assign rfl) trivial rfl ?_
 refine .nil ?_
 show Ev _ _ _ _ _
 refine .ret ?_
 show RetOk _ _ _ _ _ _ _
 exact ret1v rfl (.inl rfl) rfl rfl ⟨rfl, trivial⟩
set_option maxRecDepth 100000 in
theorem tdiffers_ev (u1 u2 : List UInt32) (s1 s2 : List (List UInt8)) (n1 n2 : List (List (List UInt8))) (b1 b2 : List Bool) (i : Nat) (hn1 : i < n1.length) (hn2 : i < n2.length) (h1 : 0 < (n1.getD i []).length) (h2 : 0 < (n2.getD i []).length) (he : (n1.getD i []).getD 0 [] = (n2.getD i []).getD 0 []) : Meets Tryd.prog 20 [.ptr 500 0, .i64 ((i : Nat) : Int)] [(500, some ⟨.agg [.i64 20, .fsl (List.map AV.u32 u1) (u1).length 1, .dsl s1, .fsl (List.map AV.dsl n1) (n1).length 1, .fsl (List.map AV.bool b1) (b1).length 1, .i64 20, .fsl (List.map AV.u32 u2) (u2).length 1, .dsl s2, .fsl (List.map AV.dsl n2) (n2).length 1, .fsl (List.map AV.bool b2) (b2).length 1, .err 111 0 (0, 0)], 60, false⟩)] (.bool false) [(500, some ⟨.agg [.i64 20, .fsl (List.map AV.u32 u1) (u1).length 1, .dsl s1, .fsl (List.map AV.dsl n1) (n1).length 1, .fsl (List.map AV.bool b1) (b1).length 1, .i64 20, .fsl (List.map AV.u32 u2) (u2).length 1, .dsl s2, .fsl (List.map AV.dsl n2) (n2).length 1, .fsl (List.map AV.bool b2) (b2).length 1, .err 111 0 (0, 0)], 60, false⟩)] := by
 refine meets_of_ev (nt := 28) Tryd.func20 rfl rfl (Nat.le_of_ble_eq_true rfl) ?_
 refine .seq ?_
 refine .region ?_
 refine .q (op_assign rfl) trivial rfl ?_
 refine .nil ?_
 show Ev _ _ _ _ _
 refine .seq ?_
 refine .drawn [[], [0], [0, 1], [0, 1, 2], [0, 1, 2, 3], [0, 1, 2, 3, 4], [], [0, 1, 2, 3, 4, 5, 6], [0, 1, 2, 3, 4, 5, 6, 7], [0, 1, 2, 3, 4, 5, 6, 7, 8], [0, 1, 2, 3, 4, 5, 6, 7, 8, 9], [], [11], [11, 12], [11, 12, 13], [11, 12, 13, 14], [11, 12, 13, 14, 15], [], [11, 12, 13, 14, 15, 16, 17], [11, 12, 13, 14, 15, 16, 17, 18], [11, 12, 13, 14, 15, 16, 17, 18, 19], [11, 12, 13, 14, 15, 16, 17, 18, 19, 20], [0, 1, 2, 3, 4, 5, 6, 7, 8, 9, 10, 11, 12, 13, 14, 15, 16, 17, 18, 19, 20, 21], [0, 1, 2, 3, 4, 5, 6, 7, 8, 9, 10, 11, 12, 13, 14, 15, 16, 17, 18, 19, 20, 21, 22]] [5, 8, 10, 16, 19, 21] [] (by kernel_rfl) (by kernel_rfl) rfl ?_
 show DK _ [0, 1, 2, 3, 4, 5, 6, 7, 8, 9, 10, 11, 12, 13, 14, 15, 16, 17, 18, 19, 20, 21, 22, 23] _ _ _
 refine .q rfl (op_move rfl) trivial ?_
 refine .q rfl (op_nilCheck rfl) trivial ?_
 refine .q rfl (op_fieldAddr (m := 9) Tryd.underlying60 rfl (by kernel_rfl) rfl) trivial ?_
 refine .as (.ptr 500 0) rfl ?_
 refine .q rfl (op_indexAddr_arr (i := 0) Tryd.underlying58 sz41 rfl rfl rfl (by decide)) trivial ?_
 refine .as (.ptr 500 0) rfl ?_
 refine .q rfl (op_fieldAddr (m := 0) Tryd.underlying41 rfl (by kernel_rfl) rfl) trivial ?_
 refine .as (.ptr 500 3) rfl ?_
 refine .q rfl (op_load Tryd.underlying38 rfl rfl rfl rfl (by show 3 < 11; decide)) trivial ?_
 refine .q rfl (op_move rfl) trivial ?_
 refine .q rfl (op_indexAddr_fsl (z := 1) Tryd.underlying38 inf22.sz (by decide) rfl rfl rfl (by omega)) trivial ?_
 refine .q rfl (op_load_fptr Tryd.underlying22 rfl rfl (get_names (by omega))) trivial ?_
 refine .q rfl (op_indexAddr_dsl Tryd.underlying22 inf9.sz rfl rfl (i := 0) rfl (by omega)) trivial ?_
 refine .q rfl (op_load_dptr Tryd.underlying9 rfl rfl (drop_get (by omega))) trivial ?_
 refine .q rfl (op_move rfl) trivial ?_
 refine .q rfl (op_nilCheck rfl) trivial ?_
 refine .q rfl (op_fieldAddr (m := 9) Tryd.underlying60 rfl (by kernel_rfl) rfl) trivial ?_
 refine .as (.ptr 500 0) rfl ?_
 refine .q rfl (op_indexAddr_arr (i := 1) Tryd.underlying58 sz41 rfl rfl rfl (by decide)) trivial ?_
 refine .as (.ptr 500 5) rfl ?_
 refine .q rfl (op_fieldAddr (m := 0) Tryd.underlying41 rfl (by kernel_rfl) rfl) trivial ?_
 refine .as (.ptr 500 8) rfl ?_
 refine .q rfl (op_load Tryd.underlying38 rfl rfl rfl rfl (by show 8 < 11; decide)) trivial ?_
 refine .q rfl (op_move rfl) trivial ?_
 refine .q rfl (op_indexAddr_fsl (z := 1) Tryd.underlying38 inf22.sz (by decide) rfl rfl rfl (by omega)) trivial ?_
 refine .q rfl (op_load_fptr Tryd.underlying22 rfl rfl (get_names (by omega))) trivial ?_
 refine .q rfl (op_indexAddr_dsl Tryd.underlying22 inf9.sz rfl rfl (i := 0) rfl (by omega)) trivial ?_
 refine .q rfl (op_load_dptr Tryd.underlying9 rfl rfl (drop_get (by omega))) trivial ?_
 refine .q rfl (op_eqS rfl rfl rfl) trivial ?_
 refine .q rfl (op_assign rfl) trivial ?_
 refine .nil ?_
 show Ev _ _ _ _ _
 refine .ret ?_
 show RetOk _ _ _ _ _ _ _
 exact ret1v rfl (.inl rfl) rfl (congrArg AV.bool (by rw [he]; exact bne_self_eq_false _)) ⟨rfl, trivial⟩
end Go.Proofs.YtalhfkmkmmfkcaaDoor
namespace Go.Proofs.YtalhfkmkmmfkcaaDoor
open Go.RowKit
def awC : List UInt8 := 1 :: List.replicate 15 0
def awN : List (List (List UInt8)) := [[[99, 117, 114, 118, 101, 50, 53, 53, 49, 57, 45, 115, 104, 97, 50, 53, 54]], [[115, 115, 104, 45, 101, 100, 50, 53, 53, 49, 57]], [[99, 104, 97, 99, 104, 97, 50, 48, 45, 112, 111, 108, 121, 49, 51, 48, 53]], [[99, 104, 97, 99, 104, 97, 50, 48, 45, 112, 111, 108, 121, 49, 51, 48, 53]], [[110, 111, 110, 101]], [[110, 111, 110, 101]], [[110, 111, 110, 101]], [[110, 111, 110, 101]], [], []]
theorem all_idx {α : Type} {l : List α} {p : α → Bool} (d : α) (h : l.all p = true) (h0 : p d = true) : ∀ i, p (l.getD i d) = true := fun i => by
  rcases Nat.lt_or_ge i l.length with hi | hi
  · rw [show l.getD i d = l[i] by simp [List.getD_eq_getElem?_getD, hi]]
    exact List.all_eq_true.1 h _ (List.getElem_mem hi)
  · rw [List.getD_eq_getElem?_getD, List.getElem?_eq_none hi]; exact h0
theorem aw_names : ∀ i, (awN.getD i []).all nameOk = true := all_idx (p := fun l => l.all nameOk) [] (by decide +kernel) rfl
theorem aw_joins : ∀ i, (joinB (awN.getD i [])).length ≤ 4096 := fun i => of_decide_eq_true (all_idx (p := fun l => decide ((joinB l).length ≤ 4096)) [] (by decide +kernel) rfl i)
theorem aw_texts : ∀ i, ([awC].getD i []).length ≤ 32768 := fun i => of_decide_eq_true (all_idx (p := fun l : List UInt8 => decide (l.length ≤ 32768)) [] (by decide +kernel) rfl i)
set_option maxRecDepth 100000 in
theorem agree_aw  : Meets Tryd.prog 19 [.ptr 500 0] [(500, some ⟨.agg [.i64 20, .fsl (List.map AV.u32 [0]) ([0]).length 1, .dsl [awC], .fsl (List.map AV.dsl awN) (awN).length 1, .fsl (List.map AV.bool [false]) ([false]).length 1, .i64 20, .fsl (List.map AV.u32 [0]) ([0]).length 1, .dsl [awC], .fsl (List.map AV.dsl awN) (awN).length 1, .fsl (List.map AV.bool [false]) ([false]).length 1, .err 111 0 (0, 0)], 60, true⟩), (20, some ⟨.aggS placesL, errT, false⟩)] (.agg [.str ((awN.getD 0 []).getD 0 []), .str ((awN.getD 1 []).getD 0 []), .str ((awN.getD 2 []).getD 0 []), .str ((awN.getD 3 []).getD 0 []), .str [105, 109, 112, 108, 105, 101, 100], .str [105, 109, 112, 108, 105, 101, 100], .str ((awN.getD 6 []).getD 0 []), .str ((awN.getD 7 []).getD 0 []), .bool false, .bool false]) [(500, some ⟨.agg [.i64 20, .fsl (List.map AV.u32 [0]) ([0]).length 1, .dsl [awC], .fsl (List.map AV.dsl awN) (awN).length 1, .fsl (List.map AV.bool [false]) ([false]).length 1, .i64 20, .fsl (List.map AV.u32 [0]) ([0]).length 1, .dsl [awC], .fsl (List.map AV.dsl awN) (awN).length 1, .fsl (List.map AV.bool [false]) ([false]).length 1, .err 111 0 (0, 0)], 60, true⟩)] := by
 refine meets_of_ev (nt := 55) Tryd.func19 rfl rfl (Nat.le_of_ble_eq_true rfl) ?_
 refine .seq ?_
 refine .region ?_
 refine .a (op_allocRow zero52 rel_zero52 rfl) trivial rfl ?_
 refine .nil ?_
 show Ev _ _ _ _ _
 refine .seq ?_
 refine .region ?_
 refine .a (op_allocRow zero52 rel_zero52 rfl) trivial rfl ?_
 refine .nil ?_
 show Ev _ _ _ _ _
 refine .seq ?_
 refine .region ?_
 refine .q (op_move rfl) trivial rfl ?_
 refine .a (op_call (U := [(500, some ⟨.agg [.i64 20, .fsl (List.map AV.u32 [0]) ([0]).length 1, .dsl [awC], .fsl (List.map AV.dsl awN) (awN).length 1, .fsl (List.map AV.bool [false]) ([false]).length 1, .i64 20, .fsl (List.map AV.u32 [0]) ([0]).length 1, .dsl [awC], .fsl (List.map AV.dsl awN) (awN).length 1, .fsl (List.map AV.bool [false]) ([false]).length 1, .err 111 0 (0, 0)], 60, true⟩)]) [(500, 500)] [] (tchoose_ev [0] [0] [awC] [awC] awN awN [false] [false] 0 (by decide +kernel) (by decide +kernel) (by decide +kernel) (by decide +kernel) (by decide +kernel) (by decide +kernel) (by decide +kernel)) Tryd.func25 (by kernel_rfl) rfl rfl rfl (⟨⟨_, rfl, rfl, rfl⟩, ⟨_, rfl, rfl, rfl⟩, trivial⟩) (⟨⟨_, _, rfl, rfl, rfl, rfl, id, rfl⟩, ⟨_, _, rfl, rfl, rfl, rfl, (fun h => by cases h), rfl⟩, trivial⟩) (⟨⟨500, _, rfl, rfl, rfl, rfl, .inr ⟨rfl, _, rfl, rfl⟩⟩, trivial⟩) (⟨(fun _ => ⟨500, _, rfl, rfl⟩), (fun h => by cases h), trivial⟩) rfl) trivial rfl ?_
 refine .q (op_fieldAddr (m := 0) Tryd.underlying52 rfl (by kernel_rfl) rfl) trivial rfl ?_
 refine .as (.ptr 1008 0) rfl ?_
 refine .w (op_store inf9.sz rfl rfl rfl rfl rfl (by show 0 < 10; decide)) trivial rfl ?_
 refine .nil ?_
 show Ev _ _ _ _ _
 refine .seq ?_
 refine .region ?_
 refine .q (op_move rfl) trivial rfl ?_
 refine .a (op_call (U := [(500, some ⟨.agg [.i64 20, .fsl (List.map AV.u32 [0]) ([0]).length 1, .dsl [awC], .fsl (List.map AV.dsl awN) (awN).length 1, .fsl (List.map AV.bool [false]) ([false]).length 1, .i64 20, .fsl (List.map AV.u32 [0]) ([0]).length 1, .dsl [awC], .fsl (List.map AV.dsl awN) (awN).length 1, .fsl (List.map AV.bool [false]) ([false]).length 1, .err 111 0 (0, 0)], 60, true⟩)]) [(500, 500)] [] (tchoose_ev [0] [0] [awC] [awC] awN awN [false] [false] 1 (by decide +kernel) (by decide +kernel) (by decide +kernel) (by decide +kernel) (by decide +kernel) (by decide +kernel) (by decide +kernel)) Tryd.func25 (by kernel_rfl) rfl rfl rfl (⟨⟨_, rfl, rfl, rfl⟩, ⟨_, rfl, rfl, rfl⟩, trivial⟩) (⟨⟨_, _, rfl, rfl, rfl, rfl, id, rfl⟩, ⟨_, _, rfl, rfl, rfl, rfl, (fun h => by cases h), rfl⟩, trivial⟩) (⟨⟨500, _, rfl, rfl, rfl, rfl, .inr ⟨rfl, _, rfl, rfl⟩⟩, trivial⟩) (⟨(fun _ => ⟨500, _, rfl, rfl⟩), (fun h => by cases h), trivial⟩) rfl) trivial rfl ?_
 refine .q (op_fieldAddr (m := 0) Tryd.underlying52 rfl (by kernel_rfl) rfl) trivial rfl ?_
 refine .as (.ptr 1008 1) rfl ?_
 refine .w (op_store inf9.sz rfl rfl rfl rfl rfl (by show 1 < 10; decide)) trivial rfl ?_
 refine .nil ?_
 show Ev _ _ _ _ _
 refine .seq ?_
 refine .seq ?_
 refine .region ?_
 refine .q (op_move rfl) trivial rfl ?_
 refine .nil ?_
 show Ev _ _ _ _ _
 refine .block ?_
 refine Ev.rounds 3 ?_
 show Ev _ _ _ _ _
 refine .seq ?_
 refine .region ?_
 refine .q (op_cmpI rfl rfl rfl) trivial rfl ?_
 refine .nil ?_
 show Ev _ _ _ _ _
 refine .seq ?_
 refine .cond_true rfl (rfl) ?_
 refine .skip ?_
 show Ev _ _ _ _ _
 refine .seq ?_
 refine .block ?_
 refine .seq ?_
 refine .region ?_
 refine .q (op_move rfl) trivial rfl ?_
 refine .q (op_assign rfl) trivial rfl ?_
 refine .nil ?_
 show Ev _ _ _ _ _
 refine .region ?_
 refine .q (op_move rfl) trivial rfl ?_
 refine .q (op_move rfl) trivial rfl ?_
 refine .q (op_move rfl) trivial rfl ?_
 refine .q (op_addI rfl rfl ⟨by omega, by omega⟩) trivial rfl ?_
 refine .a (op_call (U := [(500, some ⟨.agg [.i64 20, .fsl (List.map AV.u32 [0]) ([0]).length 1, .dsl [awC], .fsl (List.map AV.dsl awN) (awN).length 1, .fsl (List.map AV.bool [false]) ([false]).length 1, .i64 20, .fsl (List.map AV.u32 [0]) ([0]).length 1, .dsl [awC], .fsl (List.map AV.dsl awN) (awN).length 1, .fsl (List.map AV.bool [false]) ([false]).length 1, .err 111 0 (0, 0)], 60, true⟩)]) [(500, 500)] [] (tchoose_ev [0] [0] [awC] [awC] awN awN [false] [false] 2 (by decide +kernel) (by decide +kernel) (by decide +kernel) (by decide +kernel) (by decide +kernel) (by decide +kernel) (by decide +kernel)) Tryd.func25 (by kernel_rfl) rfl rfl rfl (⟨⟨_, rfl, rfl, rfl⟩, ⟨_, rfl, rfl, rfl⟩, trivial⟩) (⟨⟨_, _, rfl, rfl, rfl, rfl, id, rfl⟩, ⟨_, _, rfl, rfl, rfl, rfl, (fun h => by cases h), rfl⟩, trivial⟩) (⟨⟨500, _, rfl, rfl, rfl, rfl, .inr ⟨rfl, _, rfl, rfl⟩⟩, trivial⟩) (⟨(fun _ => ⟨500, _, rfl, rfl⟩), (fun h => by cases h), trivial⟩) rfl) trivial rfl ?_
 refine .q (op_fieldAddr (m := 1) Tryd.underlying52 rfl (by kernel_rfl) rfl) trivial rfl ?_
 refine .as (.ptr 1008 2) rfl ?_
 refine .q (op_indexAddr_arr (i := 0) Tryd.underlying49 inf9.sz rfl rfl rfl (by decide)) trivial rfl ?_
 refine .as (.ptr 1008 2) rfl ?_
 refine .w (op_store inf9.sz rfl rfl rfl rfl rfl (by show 2 < 10; decide)) trivial rfl ?_
 refine .nil ?_
 show Ev _ _ _ _ _
 refine .region ?_
 refine .q (op_addI rfl rfl ⟨by omega, by omega⟩) trivial rfl ?_
 refine .q (op_move rfl) trivial rfl ?_
 refine .nil ?_
 show Ev _ _ _ _ _
 refine .seq ?_
 refine .region ?_
 refine .q (op_cmpI rfl rfl rfl) trivial rfl ?_
 refine .nil ?_
 show Ev _ _ _ _ _
 refine .seq ?_
 refine .cond_true rfl (rfl) ?_
 refine .skip ?_
 show Ev _ _ _ _ _
 refine .seq ?_
 refine .block ?_
 refine .seq ?_
 refine .region ?_
 refine .q (op_move rfl) trivial rfl ?_
 refine .q (op_assign rfl) trivial rfl ?_
 refine .nil ?_
 show Ev _ _ _ _ _
 refine .region ?_
 refine .q (op_move rfl) trivial rfl ?_
 refine .q (op_move rfl) trivial rfl ?_
 refine .q (op_move rfl) trivial rfl ?_
 refine .q (op_addI rfl rfl ⟨by omega, by omega⟩) trivial rfl ?_
 refine .a (op_call (U := [(500, some ⟨.agg [.i64 20, .fsl (List.map AV.u32 [0]) ([0]).length 1, .dsl [awC], .fsl (List.map AV.dsl awN) (awN).length 1, .fsl (List.map AV.bool [false]) ([false]).length 1, .i64 20, .fsl (List.map AV.u32 [0]) ([0]).length 1, .dsl [awC], .fsl (List.map AV.dsl awN) (awN).length 1, .fsl (List.map AV.bool [false]) ([false]).length 1, .err 111 0 (0, 0)], 60, true⟩)]) [(500, 500)] [] (tchoose_ev [0] [0] [awC] [awC] awN awN [false] [false] 3 (by decide +kernel) (by decide +kernel) (by decide +kernel) (by decide +kernel) (by decide +kernel) (by decide +kernel) (by decide +kernel)) Tryd.func25 (by kernel_rfl) rfl rfl rfl (⟨⟨_, rfl, rfl, rfl⟩, ⟨_, rfl, rfl, rfl⟩, trivial⟩) (⟨⟨_, _, rfl, rfl, rfl, rfl, id, rfl⟩, ⟨_, _, rfl, rfl, rfl, rfl, (fun h => by cases h), rfl⟩, trivial⟩) (⟨⟨500, _, rfl, rfl, rfl, rfl, .inr ⟨rfl, _, rfl, rfl⟩⟩, trivial⟩) (⟨(fun _ => ⟨500, _, rfl, rfl⟩), (fun h => by cases h), trivial⟩) rfl) trivial rfl ?_
 refine .q (op_fieldAddr (m := 1) Tryd.underlying52 rfl (by kernel_rfl) rfl) trivial rfl ?_
 refine .as (.ptr 1008 2) rfl ?_
 refine .q (op_indexAddr_arr (i := 1) Tryd.underlying49 inf9.sz rfl rfl rfl (by decide)) trivial rfl ?_
 refine .as (.ptr 1008 3) rfl ?_
 refine .w (op_store inf9.sz rfl rfl rfl rfl rfl (by show 3 < 10; decide)) trivial rfl ?_
 refine .nil ?_
 show Ev _ _ _ _ _
 refine .region ?_
 refine .q (op_addI rfl rfl ⟨by omega, by omega⟩) trivial rfl ?_
 refine .q (op_move rfl) trivial rfl ?_
 refine .nil ?_
 show Ev _ _ _ _ _
 refine .seq ?_
 refine .region ?_
 refine .q (op_cmpI rfl rfl rfl) trivial rfl ?_
 refine .nil ?_
 show Ev _ _ _ _ _
 refine .seq ?_
 refine .cond_false rfl (rfl) ?_
 refine .exit ?_
 show Ev _ _ _ _ _
 refine .seq ?_
 refine .seq ?_
 refine .region ?_
 refine .q (op_move rfl) trivial rfl ?_
 refine .nil ?_
 show Ev _ _ _ _ _
 refine .block ?_
 refine Ev.rounds 3 ?_
 show Ev _ _ _ _ _
 refine .seq ?_
 refine .region ?_
 refine .q (op_cmpI rfl rfl rfl) trivial rfl ?_
 refine .nil ?_
 show Ev _ _ _ _ _
 refine .seq ?_
 refine .cond_true rfl (rfl) ?_
 refine .skip ?_
 show Ev _ _ _ _ _
 refine .seq ?_
 refine .block ?_
 refine .seq ?_
 refine .region ?_
 refine .q (op_move rfl) trivial rfl ?_
 refine .q (op_assign rfl) trivial rfl ?_
 refine .nil ?_
 show Ev _ _ _ _ _
 refine .seq ?_
 refine .region ?_
 refine .q (op_move rfl) trivial rfl ?_
 refine .q (op_fieldAddr (m := 1) Tryd.underlying52 rfl (by kernel_rfl) rfl) trivial rfl ?_
 refine .as (.ptr 1008 4) rfl ?_
 refine .q (op_indexAddr_arr (i := 0) Tryd.underlying49 inf9.sz rfl rfl rfl (by decide)) trivial rfl ?_
 refine .as (.ptr 1008 4) rfl ?_
 refine .w (op_store inf9.sz rfl rfl rfl rfl rfl (by show 4 < 10; decide)) trivial rfl ?_
 refine .nil ?_
 show Ev _ _ _ _ _
 refine .seq ?_
 refine .region ?_
 refine .q (op_move rfl) trivial rfl ?_
 refine .q (op_fieldAddr (m := 1) Tryd.underlying52 rfl (by kernel_rfl) rfl) trivial rfl ?_
 refine .as (.ptr 1008 2) rfl ?_
 refine .q (op_indexAddr_arr (i := 0) Tryd.underlying49 inf9.sz rfl rfl rfl (by decide)) trivial rfl ?_
 refine .as (.ptr 1008 2) rfl ?_
 refine .q (op_load Tryd.underlying9 rfl rfl rfl rfl (by show 2 < 10; decide)) trivial rfl ?_
 refine .q (op_eqS rfl rfl rfl) trivial rfl ?_
 refine .nil ?_
 show Ev _ _ _ _ _
 refine .cond_false rfl (by decide +kernel) ?_
 refine .skip ?_
 show Ev _ _ _ _ _
 refine .region ?_
 refine .q (op_addI rfl rfl ⟨by omega, by omega⟩) trivial rfl ?_
 refine .q (op_move rfl) trivial rfl ?_
 refine .nil ?_
 show Ev _ _ _ _ _
 refine .seq ?_
 refine .region ?_
 refine .q (op_cmpI rfl rfl rfl) trivial rfl ?_
 refine .nil ?_
 show Ev _ _ _ _ _
 refine .seq ?_
 refine .cond_true rfl (rfl) ?_
 refine .skip ?_
 show Ev _ _ _ _ _
 refine .seq ?_
 refine .block ?_
 refine .seq ?_
 refine .region ?_
 refine .q (op_move rfl) trivial rfl ?_
 refine .q (op_assign rfl) trivial rfl ?_
 refine .nil ?_
 show Ev _ _ _ _ _
 refine .seq ?_
 refine .region ?_
 refine .q (op_move rfl) trivial rfl ?_
 refine .q (op_fieldAddr (m := 1) Tryd.underlying52 rfl (by kernel_rfl) rfl) trivial rfl ?_
 refine .as (.ptr 1008 4) rfl ?_
 refine .q (op_indexAddr_arr (i := 1) Tryd.underlying49 inf9.sz rfl rfl rfl (by decide)) trivial rfl ?_
 refine .as (.ptr 1008 5) rfl ?_
 refine .w (op_store inf9.sz rfl rfl rfl rfl rfl (by show 5 < 10; decide)) trivial rfl ?_
 refine .nil ?_
 show Ev _ _ _ _ _
 refine .seq ?_
 refine .region ?_
 refine .q (op_move rfl) trivial rfl ?_
 refine .q (op_fieldAddr (m := 1) Tryd.underlying52 rfl (by kernel_rfl) rfl) trivial rfl ?_
 refine .as (.ptr 1008 2) rfl ?_
 refine .q (op_indexAddr_arr (i := 1) Tryd.underlying49 inf9.sz rfl rfl rfl (by decide)) trivial rfl ?_
 refine .as (.ptr 1008 3) rfl ?_
 refine .q (op_load Tryd.underlying9 rfl rfl rfl rfl (by show 3 < 10; decide)) trivial rfl ?_
 refine .q (op_eqS rfl rfl rfl) trivial rfl ?_
 refine .nil ?_
 show Ev _ _ _ _ _
 refine .cond_false rfl (by decide +kernel) ?_
 refine .skip ?_
 show Ev _ _ _ _ _
 refine .region ?_
 refine .q (op_addI rfl rfl ⟨by omega, by omega⟩) trivial rfl ?_
 refine .q (op_move rfl) trivial rfl ?_
 refine .nil ?_
 show Ev _ _ _ _ _
 refine .seq ?_
 refine .region ?_
 refine .q (op_cmpI rfl rfl rfl) trivial rfl ?_
 refine .nil ?_
 show Ev _ _ _ _ _
 refine .seq ?_
 refine .cond_false rfl (rfl) ?_
 refine .exit ?_
 show Ev _ _ _ _ _
 refine .seq ?_
 refine .seq ?_
 refine .region ?_
 refine .q (op_move rfl) trivial rfl ?_
 refine .nil ?_
 show Ev _ _ _ _ _
 refine .block ?_
 refine Ev.rounds 3 ?_
 show Ev _ _ _ _ _
 refine .seq ?_
 refine .region ?_
 refine .q (op_cmpI rfl rfl rfl) trivial rfl ?_
 refine .nil ?_
 show Ev _ _ _ _ _
 refine .seq ?_
 refine .cond_true rfl (rfl) ?_
 refine .skip ?_
 show Ev _ _ _ _ _
 refine .seq ?_
 refine .block ?_
 refine .seq ?_
 refine .region ?_
 refine .q (op_move rfl) trivial rfl ?_
 refine .q (op_assign rfl) trivial rfl ?_
 refine .nil ?_
 show Ev _ _ _ _ _
 refine .region ?_
 refine .q (op_move rfl) trivial rfl ?_
 refine .q (op_move rfl) trivial rfl ?_
 refine .q (op_move rfl) trivial rfl ?_
 refine .q (op_addI rfl rfl ⟨by omega, by omega⟩) trivial rfl ?_
 refine .a (op_call (U := [(500, some ⟨.agg [.i64 20, .fsl (List.map AV.u32 [0]) ([0]).length 1, .dsl [awC], .fsl (List.map AV.dsl awN) (awN).length 1, .fsl (List.map AV.bool [false]) ([false]).length 1, .i64 20, .fsl (List.map AV.u32 [0]) ([0]).length 1, .dsl [awC], .fsl (List.map AV.dsl awN) (awN).length 1, .fsl (List.map AV.bool [false]) ([false]).length 1, .err 111 0 (0, 0)], 60, true⟩)]) [(500, 500)] [] (tchoose_ev [0] [0] [awC] [awC] awN awN [false] [false] 6 (by decide +kernel) (by decide +kernel) (by decide +kernel) (by decide +kernel) (by decide +kernel) (by decide +kernel) (by decide +kernel)) Tryd.func25 (by kernel_rfl) rfl rfl rfl (⟨⟨_, rfl, rfl, rfl⟩, ⟨_, rfl, rfl, rfl⟩, trivial⟩) (⟨⟨_, _, rfl, rfl, rfl, rfl, id, rfl⟩, ⟨_, _, rfl, rfl, rfl, rfl, (fun h => by cases h), rfl⟩, trivial⟩) (⟨⟨500, _, rfl, rfl, rfl, rfl, .inr ⟨rfl, _, rfl, rfl⟩⟩, trivial⟩) (⟨(fun _ => ⟨500, _, rfl, rfl⟩), (fun h => by cases h), trivial⟩) rfl) trivial rfl ?_
 refine .q (op_fieldAddr (m := 1) Tryd.underlying52 rfl (by kernel_rfl) rfl) trivial rfl ?_
 refine .as (.ptr 1008 6) rfl ?_
 refine .q (op_indexAddr_arr (i := 0) Tryd.underlying49 inf9.sz rfl rfl rfl (by decide)) trivial rfl ?_
 refine .as (.ptr 1008 6) rfl ?_
 refine .w (op_store inf9.sz rfl rfl rfl rfl rfl (by show 6 < 10; decide)) trivial rfl ?_
 refine .nil ?_
 show Ev _ _ _ _ _
 refine .region ?_
 refine .q (op_addI rfl rfl ⟨by omega, by omega⟩) trivial rfl ?_
 refine .q (op_move rfl) trivial rfl ?_
 refine .nil ?_
 show Ev _ _ _ _ _
 refine .seq ?_
 refine .region ?_
 refine .q (op_cmpI rfl rfl rfl) trivial rfl ?_
 refine .nil ?_
 show Ev _ _ _ _ _
 refine .seq ?_
 refine .cond_true rfl (rfl) ?_
 refine .skip ?_
 show Ev _ _ _ _ _
 refine .seq ?_
 refine .block ?_
 refine .seq ?_
 refine .region ?_
 refine .q (op_move rfl) trivial rfl ?_
 refine .q (op_assign rfl) trivial rfl ?_
 refine .nil ?_
 show Ev _ _ _ _ _
 refine .region ?_
 refine .q (op_move rfl) trivial rfl ?_
 refine .q (op_move rfl) trivial rfl ?_
 refine .q (op_move rfl) trivial rfl ?_
 refine .q (op_addI rfl rfl ⟨by omega, by omega⟩) trivial rfl ?_
 refine .a (op_call (U := [(500, some ⟨.agg [.i64 20, .fsl (List.map AV.u32 [0]) ([0]).length 1, .dsl [awC], .fsl (List.map AV.dsl awN) (awN).length 1, .fsl (List.map AV.bool [false]) ([false]).length 1, .i64 20, .fsl (List.map AV.u32 [0]) ([0]).length 1, .dsl [awC], .fsl (List.map AV.dsl awN) (awN).length 1, .fsl (List.map AV.bool [false]) ([false]).length 1, .err 111 0 (0, 0)], 60, true⟩)]) [(500, 500)] [] (tchoose_ev [0] [0] [awC] [awC] awN awN [false] [false] 7 (by decide +kernel) (by decide +kernel) (by decide +kernel) (by decide +kernel) (by decide +kernel) (by decide +kernel) (by decide +kernel)) Tryd.func25 (by kernel_rfl) rfl rfl rfl (⟨⟨_, rfl, rfl, rfl⟩, ⟨_, rfl, rfl, rfl⟩, trivial⟩) (⟨⟨_, _, rfl, rfl, rfl, rfl, id, rfl⟩, ⟨_, _, rfl, rfl, rfl, rfl, (fun h => by cases h), rfl⟩, trivial⟩) (⟨⟨500, _, rfl, rfl, rfl, rfl, .inr ⟨rfl, _, rfl, rfl⟩⟩, trivial⟩) (⟨(fun _ => ⟨500, _, rfl, rfl⟩), (fun h => by cases h), trivial⟩) rfl) trivial rfl ?_
 refine .q (op_fieldAddr (m := 1) Tryd.underlying52 rfl (by kernel_rfl) rfl) trivial rfl ?_
 refine .as (.ptr 1008 6) rfl ?_
 refine .q (op_indexAddr_arr (i := 1) Tryd.underlying49 inf9.sz rfl rfl rfl (by decide)) trivial rfl ?_
 refine .as (.ptr 1008 7) rfl ?_
 refine .w (op_store inf9.sz rfl rfl rfl rfl rfl (by show 7 < 10; decide)) trivial rfl ?_
 refine .nil ?_
 show Ev _ _ _ _ _
 refine .region ?_
 refine .q (op_addI rfl rfl ⟨by omega, by omega⟩) trivial rfl ?_
 refine .q (op_move rfl) trivial rfl ?_
 refine .nil ?_
 show Ev _ _ _ _ _
 refine .seq ?_
 refine .region ?_
 refine .q (op_cmpI rfl rfl rfl) trivial rfl ?_
 refine .nil ?_
 show Ev _ _ _ _ _
 refine .seq ?_
 refine .cond_false rfl (rfl) ?_
 refine .exit ?_
 show Ev _ _ _ _ _
 refine .seq ?_
 refine .region ?_
 refine .q (op_loadRow Tryd.underlying52 rfl (by kernel_rfl) rfl rfl rfl (rfl)) trivial rfl ?_
 refine .w (op_storeRow (by kernel_rfl) rfl rfl rfl rfl rfl (rfl) (rfl)) trivial rfl ?_
 refine .nil ?_
 show Ev _ _ _ _ _
 refine .ret ?_
 show RetOk _ _ _ _ _ _ _
 exact retc1 rfl (.inl rfl) ⟨_, _, _, _, rfl, rfl, rfl, rfl, rfl, Tryd.underlying52, rfl, (by kernel_rfl)⟩ ⟨rfl, trivial⟩
set_option maxRecDepth 100000 in
theorem Agree_aw  : Meets Tryd.prog 14 [.agg [.i64 20, .fsl (List.map AV.u32 [0]) ([0]).length 1, .dsl [awC], .fsl (List.map AV.dsl awN) (awN).length 1, .fsl (List.map AV.bool [false]) ([false]).length 1], .agg [.i64 20, .fsl (List.map AV.u32 [0]) ([0]).length 1, .dsl [awC], .fsl (List.map AV.dsl awN) (awN).length 1, .fsl (List.map AV.bool [false]) ([false]).length 1]] [(21, some ⟨.agg kindCells, errT, false⟩), (20, some ⟨.aggS placesL, errT, false⟩)] (.tup [.agg [.str ((awN.getD 0 []).getD 0 []), .str ((awN.getD 1 []).getD 0 []), .str ((awN.getD 2 []).getD 0 []), .str ((awN.getD 3 []).getD 0 []), .str [105, 109, 112, 108, 105, 101, 100], .str [105, 109, 112, 108, 105, 101, 100], .str ((awN.getD 6 []).getD 0 []), .str ((awN.getD 7 []).getD 0 []), .bool false, .bool false], .val .nilIface]) [] := by
 refine meets_of_ev (nt := 53) Tryd.func14 rfl rfl (Nat.le_of_ble_eq_true rfl) ?_
 refine .seq ?_
 refine .region ?_
 refine .a (op_boxRow rfl rfl) trivial rfl ?_
 refine .a (op_boxRow rfl rfl) trivial rfl ?_
 refine .a (op_allocRow zero52 rel_zero52 rfl) trivial rfl ?_
 refine .q (op_assign rfl) trivial rfl ?_
 refine .nil ?_
 show Ev _ _ _ _ _
 refine .seq ?_
 refine .seq ?_
 refine .region ?_
 refine .q (op_loadRow Tryd.underlying41 rfl (by kernel_rfl) rfl rfl rfl (rfl)) trivial rfl ?_
 refine .q (op_call (U := []) [] [] (isOffer_f [0] [awC] awN [false] (by decide +kernel) (by decide +kernel) (by decide +kernel) (by decide +kernel) (by decide +kernel) rfl (by decide +kernel) aw_names (by decide +kernel) aw_texts aw_joins) Tryd.func18 (by kernel_rfl) rfl rfl rfl (⟨⟨_, rfl, rfl, rfl⟩, trivial⟩) (⟨⟨_, _, rfl, rfl, rfl, rfl, (fun h => by cases h), rfl⟩, trivial⟩) (trivial) (⟨(fun h => by cases h), trivial⟩) rfl) trivial rfl ?_
 refine .q (op_notB rfl) trivial rfl ?_
 refine .q (op_move rfl) trivial rfl ?_
 refine .know (b' := false) (rfl) ?_
 refine .q (op_loadRow Tryd.underlying41 rfl (by kernel_rfl) rfl rfl rfl (rfl)) ⟨_, rfl, rfl⟩ rfl ?_
 refine .q (op_call (U := []) [] [] (isOffer_f [0] [awC] awN [false] (by decide +kernel) (by decide +kernel) (by decide +kernel) (by decide +kernel) (by decide +kernel) rfl (by decide +kernel) aw_names (by decide +kernel) aw_texts aw_joins) Tryd.func18 (by kernel_rfl) rfl rfl rfl (⟨⟨_, rfl, rfl, rfl⟩, trivial⟩) (⟨⟨_, _, rfl, rfl, rfl, rfl, (fun h => by cases h), rfl⟩, trivial⟩) (trivial) (⟨(fun h => by cases h), trivial⟩) rfl) ⟨_, rfl, rfl⟩ rfl ?_
 refine .q (op_notB rfl) ⟨_, rfl, rfl⟩ rfl ?_
 refine .q (op_pick_false rfl rfl rfl) trivial rfl ?_
 refine .nil ?_
 show Ev _ _ _ _ _
 refine .cond_false rfl (rfl) ?_
 refine .skip ?_
 show Ev _ _ _ _ _
 refine .seq ?_
 refine .region ?_
 refine .q (op_loadRow Tryd.underlying41 rfl (by kernel_rfl) rfl rfl rfl (rfl)) trivial rfl ?_
 refine .q (op_loadRow Tryd.underlying41 rfl (by kernel_rfl) rfl rfl rfl (rfl)) trivial rfl ?_
 refine .q (op_buildRows2 (z := 5) (r := .agg [.i64 20, .fsl (List.map AV.u32 [0]) ([0]).length 1, .dsl [awC], .fsl (List.map AV.dsl awN) (awN).length 1, .fsl (List.map AV.bool [false]) ([false]).length 1, .i64 20, .fsl (List.map AV.u32 [0]) ([0]).length 1, .dsl [awC], .fsl (List.map AV.dsl awN) (awN).length 1, .fsl (List.map AV.bool [false]) ([false]).length 1]) (ca := [.i64 20, .fsl (List.map AV.u32 [0]) ([0]).length 1, .dsl [awC], .fsl (List.map AV.dsl awN) (awN).length 1, .fsl (List.map AV.bool [false]) ([false]).length 1]) (cb := [.i64 20, .fsl (List.map AV.u32 [0]) ([0]).length 1, .dsl [awC], .fsl (List.map AV.dsl awN) (awN).length 1, .fsl (List.map AV.bool [false]) ([false]).length 1]) Tryd.underlying58 sz41 zero58 rfl rfl rfl rfl rfl rfl rfl rfl) trivial rfl ?_
 refine .q (op_buildS (r := .agg [.i64 20, .fsl (List.map AV.u32 [0]) ([0]).length 1, .dsl [awC], .fsl (List.map AV.dsl awN) (awN).length 1, .fsl (List.map AV.bool [false]) ([false]).length 1, .i64 20, .fsl (List.map AV.u32 [0]) ([0]).length 1, .dsl [awC], .fsl (List.map AV.dsl awN) (awN).length 1, .fsl (List.map AV.bool [false]) ([false]).length 1, .err 111 0 (0, 0)]) Tryd.underlying60 rfl zero60 rel_zero60 rfl rfl rfl rfl) trivial rfl ?_
 refine .a (op_allocRow zero60 rel_zero60 rfl) trivial rfl ?_
 refine .w (op_storeRow (by kernel_rfl) rfl rfl rfl rfl rfl (rfl) (rfl)) trivial rfl ?_
 refine .nil ?_
 show Ev _ _ _ _ _
 refine .seq ?_
 refine .region ?_
 refine .a (op_call (U := [(1024, some ⟨.agg [.i64 20, .fsl (List.map AV.u32 [0]) ([0]).length 1, .dsl [awC], .fsl (List.map AV.dsl awN) (awN).length 1, .fsl (List.map AV.bool [false]) ([false]).length 1, .i64 20, .fsl (List.map AV.u32 [0]) ([0]).length 1, .dsl [awC], .fsl (List.map AV.dsl awN) (awN).length 1, .fsl (List.map AV.bool [false]) ([false]).length 1, .err 111 0 (0, 0)], 60, true⟩)]) [(500, 1024)] [] (agree_aw) Tryd.func19 (by kernel_rfl) rfl rfl rfl (⟨⟨_, rfl, rfl, rfl⟩, trivial⟩) (⟨⟨_, _, rfl, rfl, rfl, rfl, id, rfl⟩, ⟨_, _, rfl, rfl, rfl, rfl, (fun h => by cases h), rfl⟩, trivial⟩) (⟨⟨500, _, rfl, rfl, rfl, rfl, .inr ⟨rfl, _, rfl, rfl⟩⟩, trivial⟩) (⟨(fun _ => ⟨1024, _, rfl, rfl⟩), (fun h => by cases h), trivial⟩) rfl) trivial rfl ?_
 refine .a (op_allocRow zero52 rel_zero52 rfl) trivial rfl ?_
 refine .w (op_storeRow (by kernel_rfl) rfl rfl rfl rfl rfl (rfl) (rfl)) trivial rfl ?_
 refine .nil ?_
 show Ev _ _ _ _ _
 refine .seq ?_
 refine .seq ?_
 refine .region ?_
 refine .q (op_fieldAddr (m := 0) Tryd.underlying60 rfl (by kernel_rfl) rfl) trivial rfl ?_
 refine .as (.ptr 1024 10) rfl ?_
 refine .q (op_load Tryd.underlying25 rfl rfl rfl rfl (by show 10 < 11; decide)) trivial rfl ?_
 refine .q (op_eqErrNil (e := 0) Tryd.underlying25 rfl rfl) trivial rfl ?_
 refine .nil ?_
 show Ev _ _ _ _ _
 refine .cond_false rfl (rfl) ?_
 refine .skip ?_
 show Ev _ _ _ _ _
 refine .seq ?_
 refine .region ?_
 refine .q (op_call (U := []) [(500, 1024)] [] (tdiffers_ev [0] [0] [awC] [awC] awN awN [false] [false] 0 (by decide +kernel) (by decide +kernel) (by decide +kernel) (by decide +kernel) rfl) Tryd.func20 (by kernel_rfl) rfl rfl rfl (⟨⟨_, rfl, rfl, rfl⟩, ⟨_, rfl, rfl, rfl⟩, trivial⟩) (⟨⟨_, _, rfl, rfl, rfl, rfl, (fun h => by cases h), rfl⟩, trivial⟩) (trivial) (⟨(fun h => by cases h), trivial⟩) rfl) trivial rfl ?_
 refine .q (op_move rfl) trivial rfl ?_
 refine .know (b' := false) (rfl) ?_
 refine .q (op_call (U := []) [(500, 1024)] [] (tdiffers_ev [0] [0] [awC] [awC] awN awN [false] [false] 1 (by decide +kernel) (by decide +kernel) (by decide +kernel) (by decide +kernel) rfl) Tryd.func20 (by kernel_rfl) rfl rfl rfl (⟨⟨_, rfl, rfl, rfl⟩, ⟨_, rfl, rfl, rfl⟩, trivial⟩) (⟨⟨_, _, rfl, rfl, rfl, rfl, (fun h => by cases h), rfl⟩, trivial⟩) (trivial) (⟨(fun h => by cases h), trivial⟩) rfl) ⟨_, rfl, rfl⟩ rfl ?_
 refine .q (op_pick_false rfl rfl rfl) trivial rfl ?_
 refine .q (op_assign rfl) trivial rfl ?_
 refine .nil ?_
 show Ev _ _ _ _ _
 refine .seq ?_
 refine .seq ?_
 refine .region ?_
 refine .q (op_move rfl) trivial rfl ?_
 refine .nil ?_
 show Ev _ _ _ _ _
 refine .block ?_
 refine Ev.rounds 3 ?_
 show Ev _ _ _ _ _
 refine .seq ?_
 refine .region ?_
 refine .q (op_cmpI rfl rfl rfl) trivial rfl ?_
 refine .nil ?_
 show Ev _ _ _ _ _
 refine .seq ?_
 refine .cond_true rfl (rfl) ?_
 refine .skip ?_
 show Ev _ _ _ _ _
 refine .seq ?_
 refine .block ?_
 refine .seq ?_
 refine .region ?_
 refine .q (op_move rfl) trivial rfl ?_
 refine .q (op_assign rfl) trivial rfl ?_
 refine .nil ?_
 show Ev _ _ _ _ _
 refine .region ?_
 refine .q (op_move rfl) trivial rfl ?_
 refine .q (op_move rfl) trivial rfl ?_
 refine .q (op_move rfl) trivial rfl ?_
 refine .know (b' := false) (rfl) ?_
 refine .no ⟨_, rfl, rfl⟩ rfl ?_
 refine .no ⟨_, rfl, rfl⟩ rfl ?_
 refine .no ⟨_, rfl, rfl⟩ rfl ?_
 refine .no ⟨_, rfl, rfl⟩ rfl ?_
 refine .no ⟨_, rfl, rfl⟩ rfl ?_
 refine .no ⟨_, rfl, rfl⟩ rfl ?_
 refine .no ⟨_, rfl, rfl⟩ rfl ?_
 refine .q (op_pick_false rfl rfl rfl) trivial rfl ?_
 refine .q (op_fieldAddr (m := 1) Tryd.underlying52 rfl (by kernel_rfl) rfl) trivial rfl ?_
 refine .as (.ptr 1040 8) rfl ?_
 refine .q (op_indexAddr_arr (i := 0) Tryd.underlying50 inf4.sz rfl rfl rfl (by decide)) trivial rfl ?_
 refine .as (.ptr 1040 8) rfl ?_
 refine .w (op_store inf4.sz rfl rfl rfl rfl rfl (by show 8 < 10; decide)) trivial rfl ?_
 refine .nil ?_
 show Ev _ _ _ _ _
 refine .region ?_
 refine .q (op_addI rfl rfl ⟨by omega, by omega⟩) trivial rfl ?_
 refine .q (op_move rfl) trivial rfl ?_
 refine .nil ?_
 show Ev _ _ _ _ _
 refine .seq ?_
 refine .region ?_
 refine .q (op_cmpI rfl rfl rfl) trivial rfl ?_
 refine .nil ?_
 show Ev _ _ _ _ _
 refine .seq ?_
 refine .cond_true rfl (rfl) ?_
 refine .skip ?_
 show Ev _ _ _ _ _
 refine .seq ?_
 refine .block ?_
 refine .seq ?_
 refine .region ?_
 refine .q (op_move rfl) trivial rfl ?_
 refine .q (op_assign rfl) trivial rfl ?_
 refine .nil ?_
 show Ev _ _ _ _ _
 refine .region ?_
 refine .q (op_move rfl) trivial rfl ?_
 refine .q (op_move rfl) trivial rfl ?_
 refine .q (op_move rfl) trivial rfl ?_
 refine .know (b' := false) (rfl) ?_
 refine .no ⟨_, rfl, rfl⟩ rfl ?_
 refine .no ⟨_, rfl, rfl⟩ rfl ?_
 refine .no ⟨_, rfl, rfl⟩ rfl ?_
 refine .no ⟨_, rfl, rfl⟩ rfl ?_
 refine .no ⟨_, rfl, rfl⟩ rfl ?_
 refine .no ⟨_, rfl, rfl⟩ rfl ?_
 refine .no ⟨_, rfl, rfl⟩ rfl ?_
 refine .q (op_pick_false rfl rfl rfl) trivial rfl ?_
 refine .q (op_fieldAddr (m := 1) Tryd.underlying52 rfl (by kernel_rfl) rfl) trivial rfl ?_
 refine .as (.ptr 1040 8) rfl ?_
 refine .q (op_indexAddr_arr (i := 1) Tryd.underlying50 inf4.sz rfl rfl rfl (by decide)) trivial rfl ?_
 refine .as (.ptr 1040 9) rfl ?_
 refine .w (op_store inf4.sz rfl rfl rfl rfl rfl (by show 9 < 10; decide)) trivial rfl ?_
 refine .nil ?_
 show Ev _ _ _ _ _
 refine .region ?_
 refine .q (op_addI rfl rfl ⟨by omega, by omega⟩) trivial rfl ?_
 refine .q (op_move rfl) trivial rfl ?_
 refine .nil ?_
 show Ev _ _ _ _ _
 refine .seq ?_
 refine .region ?_
 refine .q (op_cmpI rfl rfl rfl) trivial rfl ?_
 refine .nil ?_
 show Ev _ _ _ _ _
 refine .seq ?_
 refine .cond_false rfl (rfl) ?_
 refine .exit ?_
 show Ev _ _ _ _ _
 refine .seq ?_
 refine .region ?_
 refine .q (op_loadRow Tryd.underlying52 rfl (by kernel_rfl) rfl rfl rfl (rfl)) trivial rfl ?_
 refine .w (op_storeRow (by kernel_rfl) rfl rfl rfl rfl rfl (rfl) (rfl)) trivial rfl ?_
 refine .q (op_assign rfl) trivial rfl ?_
 refine .nil ?_
 show Ev _ _ _ _ _
 refine .ret ?_
 show RetOk _ _ _ _ _ _ _
 exact retc2 rfl (.inl rfl) ⟨_, _, _, _, rfl, rfl, rfl, rfl, rfl, Tryd.underlying52, rfl, (by kernel_rfl)⟩ rfl trivial
set_option maxRecDepth 100000 in
theorem awake13_ev  : Meets Tryd.prog 5 [] [(21, some ⟨.agg kindCells, errT, false⟩), (20, some ⟨.aggS placesL, errT, false⟩)] (.bool true) [] := by
 refine meets_of_ev (nt := 38) Tryd.func5 rfl rfl (Nat.le_of_ble_eq_true rfl) ?_
 refine .seq ?_
 refine .region ?_
 refine .q (op_assign rfl) trivial rfl ?_
 refine .nil ?_
 show Ev _ _ _ _ _
 refine .seq ?_
 refine .region ?_
 refine .q (op_buildArr (us := [(0, _)]) Tryd.underlying33 inf5.sz zero33 rel_zero33 rfl (by decide) ⟨rfl, rfl, rfl, trivial⟩ rfl) trivial rfl ?_
 refine .as (.aggB awC) rfl ?_
 refine .q (op_call (U := []) [] [] (ours_ev) Tryd.func13 (by kernel_rfl) rfl rfl rfl (trivial) (trivial) (trivial) (trivial) rfl) trivial rfl ?_
 refine .q (op_call (U := []) [] [] (make_ev awC rfl [[99, 117, 114, 118, 101, 50, 53, 53, 49, 57, 45, 115, 104, 97, 50, 53, 54]] [[115, 115, 104, 45, 101, 100, 50, 53, 53, 49, 57]] [[99, 104, 97, 99, 104, 97, 50, 48, 45, 112, 111, 108, 121, 49, 51, 48, 53]] [[110, 111, 110, 101]] [[110, 111, 110, 101]] (by decide) (by decide) (by decide) (by decide) (by decide) false) Tryd.func11 (by kernel_rfl) rfl rfl rfl (⟨⟨_, rfl, rfl, rfl⟩, ⟨_, rfl, rfl, rfl⟩, ⟨_, rfl, rfl, rfl⟩, trivial⟩) (trivial) (trivial) (trivial) rfl) trivial rfl ?_
 refine .as (.agg [.i64 20, .fsl (List.map AV.u32 [0]) ([0]).length 1, .dsl [awC], .fsl (List.map AV.dsl awN) (awN).length 1, .fsl (List.map AV.bool [false]) ([false]).length 1]) rfl ?_
 refine .a (op_allocRow zero41 rel_zero41 rfl) trivial rfl ?_
 refine .w (op_storeRow (by kernel_rfl) rfl rfl rfl rfl rfl (rfl) (rfl)) trivial rfl ?_
 refine .nil ?_
 show Ev _ _ _ _ _
 refine .seq ?_
 refine .region ?_
 refine .q (op_loadRow Tryd.underlying41 rfl (by kernel_rfl) rfl rfl rfl (rfl)) trivial rfl ?_
 refine .q (op_loadRow Tryd.underlying41 rfl (by kernel_rfl) rfl rfl rfl (rfl)) trivial rfl ?_
 refine .q (op_call (U := []) [] [] (Agree_aw) Tryd.func14 (by kernel_rfl) rfl rfl rfl (⟨⟨_, rfl, rfl, rfl⟩, ⟨_, rfl, rfl, rfl⟩, trivial⟩) (⟨⟨_, _, rfl, rfl, rfl, rfl, (fun h => by cases h), rfl⟩, ⟨_, _, rfl, rfl, rfl, rfl, (fun h => by cases h), rfl⟩, trivial⟩) (trivial) (⟨(fun h => by cases h), (fun h => by cases h), trivial⟩) rfl) trivial rfl ?_
 refine .q (op_move rfl) trivial rfl ?_
 refine .q (op_extract rfl rfl) trivial rfl ?_
 refine .q (op_extract rfl rfl) trivial rfl ?_
 refine .a (op_allocRow zero52 rel_zero52 rfl) trivial rfl ?_
 refine .w (op_storeRow (by kernel_rfl) rfl rfl rfl rfl rfl (rfl) (rfl)) trivial rfl ?_
 refine .q (op_assign rfl) trivial rfl ?_
 refine .nil ?_
 show Ev _ _ _ _ _
 refine .seq ?_
 refine .region ?_
 refine .q (op_fieldAddr (m := 0) Tryd.underlying41 rfl (by kernel_rfl) rfl) trivial rfl ?_
 refine .as (.ptr 1000 3) rfl ?_
 refine .q (op_load Tryd.underlying38 rfl rfl rfl rfl (by show 3 < 5; decide)) trivial rfl ?_
 refine .q (op_len_fsl Tryd.underlying38 rfl) trivial rfl ?_
 refine .q (op_cmpI rfl rfl rfl) trivial rfl ?_
 refine .q (op_move rfl) trivial rfl ?_
 refine .know (b' := true) (rfl) ?_
 refine .q (op_move rfl) ⟨_, rfl, rfl⟩ rfl ?_
 refine .q (op_eqNilNil Tryd.underlying25 rfl rfl) ⟨_, rfl, rfl⟩ rfl ?_
 refine .q (op_pick_true rfl rfl rfl) trivial rfl ?_
 refine .q (op_move rfl) trivial rfl ?_
 refine .know (b' := true) (by decide +kernel) ?_
 refine .q (op_fieldAddr (m := 0) Tryd.underlying52 rfl (by kernel_rfl) rfl) ⟨_, rfl, rfl⟩ rfl ?_
 refine .as (.ptr 1008 0) rfl ?_
 refine .q (op_load Tryd.underlying9 rfl rfl rfl rfl (by show 0 < 10; decide)) ⟨_, rfl, rfl⟩ rfl ?_
 refine .q (op_eqS rfl rfl rfl) ⟨_, rfl, rfl⟩ rfl ?_
 refine .q (op_pick_true rfl rfl rfl) trivial rfl ?_
 refine .q (op_move rfl) trivial rfl ?_
 refine .know (b' := true) (by decide +kernel) ?_
 refine .q (op_fieldAddr (m := 1) Tryd.underlying52 rfl (by kernel_rfl) rfl) ⟨_, rfl, rfl⟩ rfl ?_
 refine .as (.ptr 1008 4) rfl ?_
 refine .q (op_indexAddr_arr (i := 0) Tryd.underlying49 inf9.sz rfl rfl rfl (by decide)) ⟨_, rfl, rfl⟩ rfl ?_
 refine .as (.ptr 1008 4) rfl ?_
 refine .q (op_load Tryd.underlying9 rfl rfl rfl rfl (by show 4 < 10; decide)) ⟨_, rfl, rfl⟩ rfl ?_
 refine .q (op_eqS rfl rfl rfl) ⟨_, rfl, rfl⟩ rfl ?_
 refine .q (op_pick_true rfl rfl rfl) trivial rfl ?_
 refine .q (op_move rfl) trivial rfl ?_
 refine .know (b' := true) (by decide +kernel) ?_
 refine .q (op_fieldAddr (m := 1) Tryd.underlying52 rfl (by kernel_rfl) rfl) ⟨_, rfl, rfl⟩ rfl ?_
 refine .as (.ptr 1008 8) rfl ?_
 refine .q (op_indexAddr_arr (i := 0) Tryd.underlying50 inf4.sz rfl rfl rfl (by decide)) ⟨_, rfl, rfl⟩ rfl ?_
 refine .as (.ptr 1008 8) rfl ?_
 refine .q (op_load Tryd.underlying4 rfl rfl rfl rfl (by show 8 < 10; decide)) ⟨_, rfl, rfl⟩ rfl ?_
 refine .q (op_notB rfl) ⟨_, rfl, rfl⟩ rfl ?_
 refine .q (op_pick_true rfl rfl rfl) trivial rfl ?_
 refine .q (op_assign rfl) trivial rfl ?_
 refine .nil ?_
 show Ev _ _ _ _ _
 refine .ret ?_
 show RetOk _ _ _ _ _ _ _
 exact ret1v rfl (.inl rfl) rfl rfl trivial
end Go.Proofs.YtalhfkmkmmfkcaaDoor
