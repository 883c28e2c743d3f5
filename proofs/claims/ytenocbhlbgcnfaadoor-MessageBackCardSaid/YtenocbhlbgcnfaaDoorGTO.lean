/-
  Texts of this claim.
-/
import Derived.Test.YtenocbhlbgcnfaaDoorGTW
import Derived.Test.YtenocbhlbgcnfaaDoorGTE
namespace Go.Proofs.YtenocbhlbgcnfaaDoor
open Go.RowKit
end Go.Proofs.YtenocbhlbgcnfaaDoor
namespace Go.Proofs.YtenocbhlbgcnfaaDoor
open Go.RowKit
theorem splitC_ne (s : List UInt8) : splitC s ≠ [] := by
  cases s with
  | nil => simp [splitC]
  | cons c s =>
    simp only [splitC]
    split
    · simp
    · split <;> simp
theorem splitC_cons_ne {c : UInt8} {s : List UInt8} (h : ¬ c = 44) : ∃ x l, splitC s = x :: l ∧ splitC (c :: s) = (c :: x) :: l := by
  cases hs : splitC s with
  | nil => exact absurd hs (splitC_ne s)
  | cons x l => exact ⟨x, l, rfl, by simp only [splitC, if_neg h, hs]⟩
theorem splitC_none : ∀ (s : List UInt8), s.count 44 = 0 → splitC s = [s]
  | [], _ => rfl
  | c :: s, h => by
    rw [List.count_cons] at h
    have hc : ¬ c = 44 := fun e => by subst e; simp at h
    have hs : s.count 44 = 0 := by omega
    obtain ⟨x, l, h1, h2⟩ := splitC_cons_ne (s := s) hc
    rw [splitC_none s hs] at h1
    injection h1 with h1 h3
    rw [h2, ← h1, ← h3]
theorem splitC_len : ∀ (s : List UInt8), (splitC s).length = s.count 44 + 1
  | [] => rfl
  | c :: s => by
    have ih := splitC_len s
    rw [List.count_cons]
    by_cases hc : c = 44
    · subst hc; simp [splitC, ih]
    · obtain ⟨x, l, h1, h2⟩ := splitC_cons_ne (s := s) hc
      rw [h1] at ih
      rw [h2]
      have : (c == 44) = false := by simpa using hc
      simp only [List.length_cons, this] at ih ⊢
      simpa using ih
theorem splitC_idx : ∀ (s : List UInt8), 0 < s.count 44 → ∃ m : Nat, Lib.indexByte s 44 = (m : Int) ∧ m < s.length ∧ splitC s = s.take m :: splitC (s.drop (m + 1)) ∧ (s.drop (m + 1)).count 44 + 1 = s.count 44
  | [], h => by simp at h
  | c :: s, h => by
    by_cases hc : c = 44
    · subst hc
      exact ⟨0, by simp [Lib.indexByte], by simp, by simp [splitC], by simp⟩
    · have hb : (c == 44) = false := by simpa using hc
      have hcount : (c :: s).count 44 = s.count 44 := by rw [List.count_cons, hb]; simp
      rw [hcount] at h
      obtain ⟨m, h1, h2, h3, h4⟩ := splitC_idx s h
      refine ⟨m + 1, ?_, by simp; omega, ?_, by rw [hcount]; simpa using h4⟩
      · simp only [Lib.indexByte, hb, h1]
        have : ((m : Int) == -1) = false := by
          rw [beq_eq_false_iff_ne]; omega
        simp [this]
      · obtain ⟨x, l, g1, g2⟩ := splitC_cons_ne (s := s) hc
        rw [h3] at g1
        injection g1 with g1 g3
        rw [g2, ← g1, ← g3]
        simp
/-- The parts, where w stands before the first one. -/
def joinW (w : List UInt8) : List (List UInt8) → List (List UInt8)
  | x :: l => (w ++ x) :: l
  | [] => [w]
end Go.Proofs.YtenocbhlbgcnfaaDoor
namespace Go.Proofs.YtenocbhlbgcnfaaDoor
open Go.RowKit
set_option maxRecDepth 100000 in
theorem count_ev (s : List UInt8) (c : UInt8) : Meets Tryd.prog 35 [.str s, .str [c]] [] (.i64 ((s.count c : Nat) : Int)) [] := by
 refine meets_of_ev (nt := 34) Tryd.func35 rfl rfl (Nat.le_of_ble_eq_true rfl) ?_
 refine .seq ?_
 refine .region ?_
 refine .q (op_assign rfl) trivial rfl ?_
 refine .nil ?_
 show Ev _ _ _ _ _
 refine .seq ?_
 refine .seq ?_
 refine .region ?_
 refine .q (op_move rfl) trivial rfl ?_
 refine .q (op_len_str Tryd.underlying9 rfl) trivial rfl ?_
 refine .q (op_cmpI rfl rfl rfl) trivial rfl ?_
 refine .nil ?_
 show Ev _ _ _ _ _
 refine .cond_false rfl (rfl) ?_
 refine .skip ?_
 show Ev _ _ _ _ _
 refine .seq ?_
 refine .seq ?_
 refine .region ?_
 refine .q (op_move rfl) trivial rfl ?_
 refine .q (op_len_str Tryd.underlying9 rfl) trivial rfl ?_
 refine .q (op_cmpI rfl rfl rfl) trivial rfl ?_
 refine .nil ?_
 show Ev _ _ _ _ _
 refine .cond_true rfl (rfl) ?_
 refine .seq ?_
 refine .region ?_
 refine .q (op_move rfl) trivial rfl ?_
 refine .q (op_move rfl) trivial rfl ?_
 refine .q (op_index_str Tryd.underlying9 rfl rfl rfl (by first | omega | (skip; omega) | (skip; omega) | assumption | (simp; done))) trivial rfl ?_
 refine .q (op_countStr Tryd.func58 (by kernel_rfl) (by kernel_rfl) (by kernel_rfl) (by kernel_rfl) rfl rfl) trivial rfl ?_
 refine .q (op_assign rfl) trivial rfl ?_
 refine .nil ?_
 show Ev _ _ _ _ _
 refine .ret ?_
 show RetOk _ _ _ _ _ _ _
 exact ret1v rfl (.inl rfl) rfl (rfl) trivial
set_option maxRecDepth 100000 in
theorem idxb_ev (s : List UInt8) (c : UInt8) : Meets Tryd.prog 70 [.str s, .u8 c] [] (.i64 (Lib.indexByte s c)) [] := by
 refine meets_of_ev (nt := 8) Tryd.func70 rfl rfl (Nat.le_of_ble_eq_true rfl) ?_
 refine .seq ?_
 refine .region ?_
 refine .q (op_assign rfl) trivial rfl ?_
 refine .nil ?_
 show Ev _ _ _ _ _
 refine .seq ?_
 refine .region ?_
 refine .q (op_move rfl) trivial rfl ?_
 refine .q (op_move rfl) trivial rfl ?_
 refine .q (op_indexByteStr Tryd.func76 (by kernel_rfl) (by kernel_rfl) (by kernel_rfl) (by kernel_rfl) rfl rfl) trivial rfl ?_
 refine .q (op_assign rfl) trivial rfl ?_
 refine .nil ?_
 show Ev _ _ _ _ _
 refine .ret ?_
 show RetOk _ _ _ _ _ _ _
 exact ret1v rfl (.inl rfl) rfl (rfl) trivial
set_option maxRecDepth 100000 in
theorem sidx_ev (s : List UInt8) (c : UInt8) : Meets Tryd.prog 66 [.str s, .str [c]] [] (.i64 (Lib.indexByte s c)) [] := by
 refine meets_of_ev (nt := 143) Tryd.func66 rfl rfl (Nat.le_of_ble_eq_true rfl) ?_
 refine .seq ?_
 refine .region ?_
 refine .q (op_assign rfl) trivial rfl ?_
 refine .nil ?_
 show Ev _ _ _ _ _
 refine .seq ?_
 refine .region ?_
 refine .q (op_move rfl) trivial rfl ?_
 refine .q (op_len_str Tryd.underlying9 rfl) trivial rfl ?_
 refine .q (op_assign rfl) trivial rfl ?_
 refine .nil ?_
 show Ev _ _ _ _ _
 refine .seq ?_
 refine .block ?_
 refine .seq ?_
 refine .region ?_
 refine .q (op_move rfl) trivial rfl ?_
 refine .q (op_cmpI rfl rfl rfl) trivial rfl ?_
 refine .q (op_move rfl) trivial rfl ?_
 refine .know (b' := false) (rfl) ?_
 refine .q (op_move rfl) ⟨_, rfl, rfl⟩ rfl ?_
 refine .q (op_move rfl) ⟨_, rfl, rfl⟩ rfl ?_
 refine .q (op_eqS rfl rfl rfl) ⟨_, rfl, rfl⟩ rfl ?_
 refine .q (op_pick_false rfl rfl rfl) trivial rfl ?_
 refine .q (op_assign rfl) trivial rfl ?_
 refine .nil ?_
 show Ev _ _ _ _ _
 refine .cond rfl (fun hc16 => ?_) (fun hc16 => ?_)
 ·simp only [beq_iff_eq] at hc16
  refine .seq ?_
  refine .region ?_
  refine .q (op_assign rfl) trivial rfl ?_
  refine .nil ?_
  show Ev _ _ _ _ _
  refine .ret ?_
  show RetOk _ _ _ _ _ _ _
  exact ret1v rfl (.inl rfl) rfl (by first | rfl | (subst hc16; simp [Lib.indexByte]; done)) trivial
 ·simp only [ne_eq, beq_eq_false_iff_ne] at hc16
  refine .seq ?_
  refine .region ?_
  refine .q (op_move rfl) trivial rfl ?_
  refine .q (op_cmpI rfl rfl rfl) trivial rfl ?_
  refine .q (op_assign rfl) trivial rfl ?_
  refine .nil ?_
  show Ev _ _ _ _ _
  refine .cond_true rfl (rfl) ?_
  refine .seq ?_
  refine .region ?_
  refine .q (op_move rfl) trivial rfl ?_
  refine .q (op_move rfl) trivial rfl ?_
  refine .q (op_index_str Tryd.underlying9 rfl rfl rfl (by first | omega | (skip; omega) | (skip; omega) | assumption | (simp; done))) trivial rfl ?_
  refine .q (op_call (U := []) [] [] (idxb_ev s c) Tryd.func70 (by kernel_rfl) rfl rfl rfl (⟨⟨_, rfl, rfl, rfl⟩, ⟨_, rfl, rfl, rfl⟩, trivial⟩) (trivial) (trivial) (trivial) rfl) trivial rfl ?_
  refine .q (op_assign rfl) trivial rfl ?_
  refine .nil ?_
  show Ev _ _ _ _ _
  refine .ret ?_
  show RetOk _ _ _ _ _ _ _
  exact ret1v rfl (.inl rfl) rfl (by first | rfl | (subst hc16; simp [Lib.indexByte]; done)) trivial
set_option maxRecDepth 100000 in
theorem index_ev (s : List UInt8) (c : UInt8) : Meets Tryd.prog 59 [.str s, .str [c]] [] (.i64 (Lib.indexByte s c)) [] := by
 refine meets_of_ev (nt := 8) Tryd.func59 rfl rfl (Nat.le_of_ble_eq_true rfl) ?_
 refine .seq ?_
 refine .region ?_
 refine .q (op_assign rfl) trivial rfl ?_
 refine .nil ?_
 show Ev _ _ _ _ _
 refine .seq ?_
 refine .region ?_
 refine .q (op_move rfl) trivial rfl ?_
 refine .q (op_move rfl) trivial rfl ?_
 refine .q (op_call (U := []) [] [] (sidx_ev s c) Tryd.func66 (by kernel_rfl) rfl rfl rfl (⟨⟨_, rfl, rfl, rfl⟩, ⟨_, rfl, rfl, rfl⟩, trivial⟩) (trivial) (trivial) (trivial) rfl) trivial rfl ?_
 refine .q (op_assign rfl) trivial rfl ?_
 refine .nil ?_
 show Ev _ _ _ _ _
 refine .ret ?_
 show RetOk _ _ _ _ _ _ _
 exact ret1v rfl (.inl rfl) rfl (rfl) trivial
end Go.Proofs.YtenocbhlbgcnfaaDoor
namespace Go.Proofs.YtenocbhlbgcnfaaDoor
open Go.RowKit
/-- Some parts are done, q is what is left of the text. -/
structure SpI (s : List UInt8) where
  d : List (List UInt8)
  q : List UInt8
  h : splitC s = d ++ splitC q
  c : d.length + q.count 44 = s.count 44
  l : q.length ≤ s.length
def SpI.next {s : List UInt8} (i : SpI s) (m : Nat) (h3 : splitC i.q = i.q.take m :: splitC (i.q.drop (m + 1))) (h4 : (i.q.drop (m + 1)).count 44 + 1 = i.q.count 44) : SpI s :=
  ⟨i.d ++ [i.q.take m], i.q.drop (m + 1), by rw [i.h, h3]; simp, by have := i.c; simp only [List.length_append, List.length_cons, List.length_nil]; omega, by have := i.l; simp only [List.length_drop]; omega⟩
def SpI.cells {s : List UInt8} (i : SpI s) : List (List UInt8) := i.d ++ List.replicate (s.count 44 + 1 - i.d.length) []
theorem SpI.set {s : List UInt8} (i : SpI s) (x : List UInt8) (h : i.d.length < s.count 44 + 1) : i.cells.set i.d.length x = i.d ++ [x] ++ List.replicate (s.count 44 + 1 - (i.d.length + 1)) [] := by
  unfold SpI.cells
  rw [List.set_append_right _ _ (Nat.le_refl _), Nat.sub_self, show s.count 44 + 1 - i.d.length = (s.count 44 + 1 - (i.d.length + 1)) + 1 by omega, List.replicate_succ]
  simp
theorem SpI.fin {s : List UInt8} (i : SpI s) (hz : i.q.count 44 = 0) : i.cells.set i.d.length i.q = splitC s := by
  have hc := i.c
  rw [SpI.set _ _ (by omega), show s.count 44 + 1 - (i.d.length + 1) = 0 by omega, i.h, splitC_none _ hz]
  simp
set_option maxRecDepth 100000 in
theorem gensplit_ev (s : List UInt8) (hs : s.length ≤ 100000000) : Meets Tryd.prog 69 [.str s, .str [44], .i64 0, .i64 (-1)] [] (.sl 1000 0 (splitC s).length 1) [(1000, some ⟨.aggS (splitC s), 9, true⟩)] := by
 have hcl := List.count_le_length (a := (44 : UInt8)) (l := s)
 refine meets_of_ev (nt := 66) Tryd.func69 rfl rfl (Nat.le_of_ble_eq_true rfl) ?_
 refine .seq ?_
 refine .region ?_
 refine .q (op_assign rfl) trivial rfl ?_
 refine .nil ?_
 show Ev _ _ _ _ _
 refine .seq ?_
 refine .seq ?_
 refine .region ?_
 refine .q (op_move rfl) trivial rfl ?_
 refine .q (op_cmpI rfl rfl rfl) trivial rfl ?_
 refine .nil ?_
 show Ev _ _ _ _ _
 refine .cond_false rfl (rfl) ?_
 refine .skip ?_
 show Ev _ _ _ _ _
 refine .seq ?_
 refine .seq ?_
 refine .region ?_
 refine .q (op_move rfl) trivial rfl ?_
 refine .q (op_eqS rfl rfl rfl) trivial rfl ?_
 refine .nil ?_
 show Ev _ _ _ _ _
 refine .cond_false rfl (rfl) ?_
 refine .skip ?_
 show Ev _ _ _ _ _
 refine .seq ?_
 refine .seq ?_
 refine .region ?_
 refine .q (op_move rfl) trivial rfl ?_
 refine .q (op_cmpI rfl rfl rfl) trivial rfl ?_
 refine .nil ?_
 show Ev _ _ _ _ _
 refine .cond_true rfl (rfl) ?_
 refine .region ?_
 refine .q (op_move rfl) trivial rfl ?_
 refine .q (op_move rfl) trivial rfl ?_
 refine .q (op_call (U := []) [] [] (count_ev s 44) Tryd.func35 (by kernel_rfl) rfl rfl rfl (⟨⟨_, rfl, rfl, rfl⟩, ⟨_, rfl, rfl, rfl⟩, trivial⟩) (trivial) (trivial) (trivial) rfl) trivial rfl ?_
 refine .q (op_addI rfl rfl ⟨by have := List.count_le_length (a := (44 : UInt8)) (l := s); omega, by have := List.count_le_length (a := (44 : UInt8)) (l := s); omega⟩) trivial rfl ?_
 refine .q (op_assign rfl) trivial rfl ?_
 refine .nil ?_
 show Ev _ _ _ _ _
 refine .seq ?_
 refine .region ?_
 refine .q (op_move rfl) trivial rfl ?_
 refine .q (op_move rfl) trivial rfl ?_
 refine .q (op_len_str Tryd.underlying9 rfl) trivial rfl ?_
 refine .q (op_addI rfl rfl ⟨by omega, by omega⟩) trivial rfl ?_
 refine .q (op_minI rfl rfl) trivial rfl ?_
 refine .as (.i64 ((s.count 44 + 1 : Nat) : Int)) (congrArg AV.i64 (by have := List.count_le_length (a := (44 : UInt8)) (l := s); omega)) ?_
 refine .q (op_assign rfl) trivial rfl ?_
 refine .nil ?_
 show Ev _ _ _ _ _
 refine .seq ?_
 refine .region ?_
 refine .q (op_move rfl) trivial rfl ?_
 refine .a (ap_make (n := s.count 44 + 1) (c := .aggS (List.replicate (s.count 44 + 1) [])) Tryd.underlying23 inf9 rfl rfl rfl rfl (by have := List.count_le_length (a := (44 : UInt8)) (l := s); omega) rel_zero9 rfl (by simp [AV.list, AV.parts])) trivial rfl ?_
 refine .q (op_assign rfl) trivial rfl ?_
 refine .nil ?_
 show Ev _ _ _ _ _
 refine .seq ?_
 refine .region ?_
 refine .q (op_move rfl) trivial rfl ?_
 refine .q (op_subI rfl rfl ⟨by have := List.count_le_length (a := (44 : UInt8)) (l := s); omega, by have := List.count_le_length (a := (44 : UInt8)) (l := s); omega⟩) trivial rfl ?_
 refine .as (.i64 ((s.count 44 : Nat) : Int)) (congrArg AV.i64 (by omega)) ?_
 refine .q (op_assign rfl) trivial rfl ?_
 refine .nil ?_
 show Ev _ _ _ _ _
 refine .seq ?_
 refine .region ?_
 refine .q (op_assign rfl) trivial rfl ?_
 refine .nil ?_
 show Ev _ _ _ _ _
 refine .seq ?_
 refine .block ?_
 refine Ev.loop (ι := SpI s) (fun q => ⟨[(0, .str q.q), (1, .str [44]), (2, .i64 0), (3, .i64 ((s.count 44 : Nat) : Int)), (9, .sl 1000 0 (s.count 44 + 1) 1), (10, .i64 ((q.d.length : Nat) : Int))], [(1000, some ⟨.aggS q.cells, 9, true⟩)], 1008⟩) (fun q => q.q.count 44) ⟨[], s, rfl, by simp, Nat.le_refl _⟩ (StLe.mk [(1000, 1000)] rfl rfl ⟨⟨_, rfl, by rfl, rfl⟩, ⟨_, rfl, by rfl, rfl⟩, ⟨_, rfl, by rfl, rfl⟩, ⟨_, rfl, by rfl, rfl⟩, ⟨_, rfl, by rfl, rfl⟩, ⟨_, rfl, by rfl, rfl⟩, trivial⟩ ⟨⟨_, _, rfl, rfl, rfl, rfl, id, rfl⟩, trivial⟩) ?_
 rintro q
 try dsimp only
 refine .seq ?_
 refine .seq ?_
 refine .region ?_
 refine .q (op_move rfl) trivial rfl ?_
 refine .q (op_move rfl) trivial rfl ?_
 refine .q (op_cmpI rfl rfl rfl) trivial rfl ?_
 refine .nil ?_
 show Ev _ _ _ _ _
 refine .cond rfl (fun hc36 => ?_) (fun hc36 => ?_)
 ·simp only [decide_eq_true_eq] at hc36
  refine .skip ?_
  show Ev _ _ _ _ _
  refine .block ?_
  refine .seq ?_
  refine .region ?_
  have hpos : 0 < q.q.count 44 := by have := q.c; omega
  obtain ⟨m, h1, h2, h3, h4⟩ := splitC_idx q.q hpos
  have hql := q.l
  have hqc := q.c
  refine .q (op_move rfl) trivial rfl ?_
  refine .q (op_move rfl) trivial rfl ?_
  refine .q (op_call (U := []) [] [] (index_ev q.q 44) Tryd.func59 (by kernel_rfl) rfl rfl rfl (⟨⟨_, rfl, rfl, rfl⟩, ⟨_, rfl, rfl, rfl⟩, trivial⟩) (trivial) (trivial) (trivial) rfl) trivial rfl ?_
  refine .as (.i64 ((m : Nat) : Int)) (congrArg AV.i64 h1) ?_
  refine .q (op_assign rfl) trivial rfl ?_
  refine .nil ?_
  show Ev _ _ _ _ _
  refine .seq ?_
  refine .seq ?_
  refine .region ?_
  refine .q (op_move rfl) trivial rfl ?_
  refine .q (op_cmpI rfl rfl rfl) trivial rfl ?_
  refine .nil ?_
  show Ev _ _ _ _ _
  refine .cond_false rfl (decide_eq_false (by omega)) ?_
  refine .skip ?_
  show Ev _ _ _ _ _
  refine .seq ?_
  refine .region ?_
  refine .q (op_move rfl) trivial rfl ?_
  refine .q (op_move rfl) trivial rfl ?_
  refine .q (op_move rfl) trivial rfl ?_
  refine .q (op_move rfl) trivial rfl ?_
  refine .q (op_move rfl) trivial rfl ?_
  refine .q (op_addI rfl rfl ⟨by omega, by omega⟩) trivial rfl ?_
  refine .as (.i64 ((m : Nat) : Int)) (congrArg AV.i64 (by omega)) ?_
  refine .q (ap_slice_str_hi Tryd.underlying9 rfl (bnd_some rfl rfl) (by omega)) trivial rfl ?_
  refine .q (ap_idx0 Tryd.underlying23 inf9.sz rfl rfl rfl (by omega)) trivial rfl ?_
  refine .w (op_store inf9.sz rfl rfl rfl rfl rfl (by show _ < q.cells.length; unfold SpI.cells; simp; omega)) trivial rfl ?_
  refine .nil ?_
  show Ev _ _ _ _ _
  refine .seq ?_
  refine .region ?_
  refine .q (op_move rfl) trivial rfl ?_
  refine .q (op_move rfl) trivial rfl ?_
  refine .q (op_move rfl) trivial rfl ?_
  refine .q (op_len_str Tryd.underlying9 rfl) trivial rfl ?_
  refine .as (.i64 1) rfl ?_
  refine .q (op_addI rfl rfl ⟨by omega, by omega⟩) trivial rfl ?_
  refine .as (.i64 ((m + 1 : Nat) : Int)) rfl ?_
  refine .q (ap_slice_str_lo Tryd.underlying9 rfl (bnd_some rfl rfl) (by omega)) trivial rfl ?_
  refine .q (op_assign rfl) trivial rfl ?_
  refine .nil ?_
  show Ev _ _ _ _ _
  refine .region ?_
  refine .q (op_move rfl) trivial rfl ?_
  refine .q (op_addI rfl rfl ⟨by omega, by omega⟩) trivial rfl ?_
  refine .q (op_assign rfl) trivial rfl ?_
  refine .nil ?_
  exact ⟨q.next m h3 h4, by (try dsimp only); show (q.q.drop (m + 1)).count 44 < q.q.count 44; omega, StLe.mk [(1000, 1000)] rfl rfl ⟨⟨_, rfl, by rfl, rfl⟩, ⟨_, rfl, by rfl, rfl⟩, ⟨_, rfl, by rfl, rfl⟩, ⟨_, rfl, by rfl, rfl⟩, ⟨_, rfl, by rfl, rfl⟩, ⟨_, rfl, by (show AV.i64 _ = AV.i64 _; simp [SpI.next]), rfl⟩, trivial⟩ ⟨⟨_, _, rfl, rfl, by (show AV.aggS _ = AV.aggS _; rw [SpI.set _ _ (by omega)]; simp [SpI.next, SpI.cells]), rfl, id, rfl⟩, trivial⟩⟩
 ·simp only [decide_eq_false_iff_not] at hc36
  refine .exit ?_
  show Ev _ _ _ _ _
  refine .seq ?_
  refine .region ?_
  have hqc := q.c
  have hz : q.q.count 44 = 0 := by omega
  refine .q (op_move rfl) trivial rfl ?_
  refine .q (op_move rfl) trivial rfl ?_
  refine .q (op_move rfl) trivial rfl ?_
  refine .q (ap_idx0 Tryd.underlying23 inf9.sz rfl rfl rfl (by omega)) trivial rfl ?_
  refine .w (op_store inf9.sz rfl rfl rfl rfl rfl (by show _ < q.cells.length; unfold SpI.cells; simp; omega)) trivial rfl ?_
  refine .nil ?_
  show Ev _ _ _ _ _
  refine .seq ?_
  refine .region ?_
  refine .q (op_move rfl) trivial rfl ?_
  refine .q (op_move rfl) trivial rfl ?_
  refine .q (op_addI rfl rfl ⟨by omega, by omega⟩) trivial rfl ?_
  refine .as (.i64 ((s.count 44 + 1 : Nat) : Int)) (congrArg AV.i64 (by omega)) ?_
  refine .q (ap_slice_sl_hi Tryd.underlying23 inf9.sz rfl (bnd_some rfl rfl) (by omega)) trivial rfl ?_
  refine .q (op_assign rfl) trivial rfl ?_
  refine .nil ?_
  show Ev _ _ _ _ _
  refine .ret ?_
  show RetOk _ _ _ _ _ _ _
  exact ret1v rfl (.inl rfl) rfl (congrArg (fun n => AV.sl 1000 0 n 1) (splitC_len s).symm) ⟨congrArg (fun l => some (ABlk.mk (AV.aggS l) 9 true)) (SpI.fin q hz), trivial⟩
end Go.Proofs.YtenocbhlbgcnfaaDoor
namespace Go.Proofs.YtenocbhlbgcnfaaDoor
open Go.RowKit
theorem splitC_mem : ∀ (s x : List UInt8), x ∈ splitC s → x.length ≤ s.length
  | [], x, h => by simp [splitC] at h; subst h; simp
  | c :: s, x, h => by
    by_cases hc : c = 44
    · subst hc
      simp only [splitC, if_true, List.mem_cons] at h
      rcases h with rfl | h
      · simp
      · have := splitC_mem s x h; simp only [List.length_cons]; omega
    · obtain ⟨y, l, h1, h2⟩ := splitC_cons_ne (s := s) hc
      rw [h2] at h
      rcases List.mem_cons.1 h with rfl | h
      · have := splitC_mem s y (by rw [h1]; simp); simp only [List.length_cons]; omega
      · have := splitC_mem s x (by rw [h1]; simp [h]); simp only [List.length_cons]; omega
theorem splitC_get (s : List UInt8) (j : Nat) : ((splitC s).getD j []).length ≤ s.length := by
  rcases Nat.lt_or_ge j (splitC s).length with h | h
  · rw [show (splitC s).getD j [] = (splitC s)[j] by simp [List.getD_eq_getElem?_getD, h]]
    exact splitC_mem _ _ (List.getElem_mem h)
  · rw [List.getD_eq_getElem?_getD, List.getElem?_eq_none h]; simp
theorem all_get {l : List (List UInt8)} (h : l.all nameOk = true) {j : Nat} (hj : j < l.length) : nameOk (l.getD j []) = true := by
  rw [show l.getD j [] = l[j] by simp [List.getD_eq_getElem?_getD, hj]]
  exact List.all_eq_true.1 h _ (List.getElem_mem hj)
theorem not_all {l : List (List UInt8)} (h : ¬ l.all nameOk = true) : ∃ b, b < l.length ∧ nameOk (l.getD b []) = false := by
  have h1 : l.all nameOk = false := by simpa using h
  rw [List.all_eq_false] at h1
  obtain ⟨x, hx, hn⟩ := h1
  obtain ⟨b, hb, rfl⟩ := List.mem_iff_getElem.1 hx
  exact ⟨b, hb, by rw [show l.getD b [] = l[b] by simp [List.getD_eq_getElem?_getD, hb]]; simpa using hn⟩
set_option maxRecDepth 100000 in
theorem split_ev (s : List UInt8) (hs : s.length ≤ 100000000) : Meets Tryd.prog 65 [.str s, .str [44]] [] (.sl 1000 0 (splitC s).length 1) [(1000, some ⟨.aggS (splitC s), 9, true⟩)] := by
 refine meets_of_ev (nt := 8) Tryd.func65 rfl rfl (Nat.le_of_ble_eq_true rfl) ?_
 refine .seq ?_
 refine .region ?_
 refine .q (op_assign rfl) trivial rfl ?_
 refine .nil ?_
 show Ev _ _ _ _ _
 refine .seq ?_
 refine .region ?_
 refine .q (op_move rfl) trivial rfl ?_
 refine .q (op_move rfl) trivial rfl ?_
 refine .a (op_call (U := [(1000, some ⟨.aggS (splitC s), 9, true⟩)]) [] [(1000, 1000)] (gensplit_ev s hs) Tryd.func69 (by kernel_rfl) rfl rfl rfl (⟨⟨_, rfl, rfl, rfl⟩, ⟨_, rfl, rfl, rfl⟩, ⟨_, rfl, rfl, rfl⟩, ⟨_, rfl, rfl, rfl⟩, trivial⟩) (trivial) (⟨⟨1000, _, rfl, rfl, rfl, rfl, .inl rfl⟩, trivial⟩) (trivial) rfl) trivial rfl ?_
 refine .q (op_assign rfl) trivial rfl ?_
 refine .nil ?_
 show Ev _ _ _ _ _
 refine .ret ?_
 show RetOk _ _ _ _ _ _ _
 exact ret1v rfl (.inl rfl) rfl rfl ⟨rfl, trivial⟩
end Go.Proofs.YtenocbhlbgcnfaaDoor
