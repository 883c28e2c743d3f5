/-
  The program's bits of a scalar, walked over abstract values.
-/
import Derived.Test.YtmnhifagkcmhjaaDoorGT
import Derived.Test.YtmnhifagkcmhjaaDoorGK
import Derived.Test.YtmnhifagkcmhjaaDoorGE
namespace Go.Proofs.YtmnhifagkcmhjaaDoor
open Go.RowKit
/-- The first n bits. -/
def btN (K : List UInt8) : Nat → List Bool
  | 0 => []
  | n + 1 => btN K n ++ [kb K n]
theorem length_btN (K : List UInt8) (n : Nat) : (btN K n).length = n := by induction n with | zero => rfl | succ n ih => simp [btN, ih]
theorem btN_get (K : List UInt8) (n i : Nat) (h : i < n) : (btN K n).getD i false = kb K i := by
  induction n with
  | zero => omega
  | succ n ih =>
    have hl := length_btN K n
    simp only [btN]
    by_cases c : i < n
    · rw [List.getD_eq_getElem?_getD, List.getElem?_append_left (by omega), ← List.getD_eq_getElem?_getD, ih c]
    · rw [List.getD_eq_getElem?_getD, List.getElem?_append_right (by omega), show i - (btN K n).length = 0 by omega, show n = i by omega]; rfl
theorem bit_ij (K : List UInt8) (i j : Nat) (h : j < 8) : ((K.getD i 0 >>> UInt8.ofNat j) &&& UInt8.ofNat 1 == UInt8.ofNat 1) = kb K (8 * i + j) := by
  have := bit_prog K (8 * i + j)
  rwa [show (8 * i + j) / 8 = i by omega, show (8 * i + j) % 8 = j by omega] at this
set_option maxRecDepth 100000 in
theorem sbits_ev (K : List UInt8) (hK : K.length = 32) : Meets Tryd.prog 24 [.aggB K] [] (.sl 1008 0 256 1) [(1008, some ⟨.aggT (btN K 256), 4, true⟩)] := by
  refine meets_of_ev (nt := 25) Tryd.func24 rfl rfl (Nat.le_of_ble_eq_true rfl) ?_
  refine .seq ?_
  refine .region ?_
  refine .a (op_boxRow rfl rfl) trivial rfl ?_
  refine .q (op_assign rfl) trivial rfl ?_
  refine .nil ?_
  show Ev _ _ _ _ _
  refine .seq ?_
  refine .region ?_
  refine .q (op_assign rfl) trivial rfl ?_
  refine .nil ?_
  show Ev _ _ _ _ _
  refine .seq ?_
  refine .seq ?_
  refine .region ?_
  refine .q (op_move rfl) trivial rfl ?_
  refine .nil ?_
  show Ev _ _ _ _ _
  refine .block ?_
  refine Ev.loop (ι := Option { i : Nat // 1 ≤ i ∧ i ≤ 32 }) (fun q => match q with | none => ⟨[(1, .ptr 1000 0), (3, .nilsl), (6, .i64 0)], [(1000, some ⟨.aggB K, 24, true⟩)], 1008⟩ | some q => ⟨[(1, .ptr 1000 0), (3, .sl 1008 0 (8 * (q.1)) 1), (6, .i64 ((q.1 : Nat) : Int))], [(1000, some ⟨.aggB K, 24, true⟩), (1008, some ⟨.aggT (btN K (8 * (q.1))), 4, true⟩)], 1016⟩) (fun q => match q with | none => 32 | some q => 32 - q.1) none (StLe.mk [(1000, 1000)] rfl rfl ⟨⟨_, rfl, by first | rfl | (simp only [AV.ren]; congr 1; omega), rfl⟩, ⟨_, rfl, by first | rfl | (simp only [AV.ren]; congr 1; omega), rfl⟩, ⟨_, rfl, by first | rfl | (simp only [AV.ren]; congr 1; omega), rfl⟩, trivial⟩ ⟨⟨_, _, rfl, rfl, rfl, rfl, id, rfl⟩, trivial⟩) ?_
  rintro (_ | ⟨i, hi⟩)
  · try dsimp only
    refine .seq ?_
    refine .region ?_
    refine .q (op_cmpI rfl rfl rfl) trivial rfl ?_
    refine .nil ?_
    show Ev _ _ _ _ _
    refine .seq ?_
    refine .cond_true rfl (rfl) ?_
    refine .skip ?_
    show Ev _ _ _ _ _
    refine .seq ?_
    refine .block ?_
    refine .seq ?_
    refine .region ?_
    refine .q (op_move rfl) trivial rfl ?_
    refine .q (op_assign rfl) trivial rfl ?_
    refine .nil ?_
    show Ev _ _ _ _ _
    refine .seq ?_
    refine .region ?_
    refine .q (op_move rfl) trivial rfl ?_
    refine .nil ?_
    show Ev _ _ _ _ _
    refine .block ?_
    refine Ev.loop (ι := Option { j : Nat // 1 ≤ j ∧ j ≤ 8 }) (fun q => match q with | none => ⟨[(1, .ptr 1000 0), (4, .i64 0), (6, .i64 0), (3, .nilsl), (9, .i64 0)], [(1000, some ⟨.aggB K, 24, true⟩)], 1008⟩ | some q => ⟨[(1, .ptr 1000 0), (4, .i64 ((0 : Nat) : Int)), (6, .i64 ((0 : Nat) : Int)), (3, .sl 1008 0 (8 * (0) + (q.1)) 1), (9, .i64 ((q.1 : Nat) : Int))], [(1000, some ⟨.aggB K, 24, true⟩), (1008, some ⟨.aggT (btN K (8 * (0) + (q.1))), 4, true⟩)], 1016⟩) (fun q => match q with | none => 8 | some q => 8 - q.1) none (StLe.mk [(1000, 1000)] rfl rfl ⟨⟨_, rfl, by first | rfl | (simp only [AV.ren]; congr 1; omega), rfl⟩, ⟨_, rfl, by first | rfl | (simp only [AV.ren]; congr 1; omega), rfl⟩, ⟨_, rfl, by first | rfl | (simp only [AV.ren]; congr 1; omega), rfl⟩, ⟨_, rfl, by first | rfl | (simp only [AV.ren]; congr 1; omega), rfl⟩, ⟨_, rfl, by first | rfl | (simp only [AV.ren]; congr 1; omega), rfl⟩, trivial⟩ ⟨⟨_, _, rfl, rfl, rfl, rfl, id, rfl⟩, trivial⟩) ?_
    rintro (_ | ⟨j, hj⟩)
    · try dsimp only
      refine .seq ?_
      refine .region ?_
      refine .q (op_cmpI rfl rfl rfl) trivial rfl ?_
      refine .nil ?_
      show Ev _ _ _ _ _
      refine .seq ?_
      refine .cond_true rfl (rfl) ?_
      refine .skip ?_
      show Ev _ _ _ _ _
      refine .seq ?_
      refine .block ?_
      refine .seq ?_
      refine .region ?_
      refine .q (op_move rfl) trivial rfl ?_
      refine .q (op_assign rfl) trivial rfl ?_
      refine .nil ?_
      show Ev _ _ _ _ _
      refine .region ?_
      refine .q (op_move rfl) trivial rfl ?_
      refine .q (op_move rfl) trivial rfl ?_
      refine .q (ap_idx_arr Tryd.underlying24 inf5.sz rfl rfl rfl (by first | omega | (simp only [AV.len]; omega) | (simp only [AV.len, List.length_set]; omega) | assumption | (simp [AV.len]; done))) trivial rfl ?_
      refine .q (op_load Tryd.underlying5 rfl rfl rfl rfl (by show 0 < K.length; omega)) trivial rfl ?_
      refine .q (op_move rfl) trivial rfl ?_
      refine .q (op_shr8 (n := 0) rfl rfl rfl (by omega)) trivial rfl ?_
      refine .q (op_bin8 rfl rfl rfl) trivial rfl ?_
      refine .q (op_bin8 rfl rfl rfl) trivial rfl ?_
      refine .as (.bool (kb K (8 * (0) + (0)))) (congrArg AV.bool (bit_ij K (0) (0) (by omega))) ?_
      refine .a (ap_build (us := [_]) (c := .aggT [_]) Tryd.underlying33 inf4 rfl (by decide) (by decide) ⟨rfl, rfl, rfl, trivial⟩ rfl) trivial rfl ?_
      refine .a (ap_cat_nil Tryd.underlying33 inf4 rfl rfl rfl rfl (by first | omega | (simp only [AV.len]; omega) | (simp only [AV.len, List.length_set]; omega) | assumption | (simp [AV.len]; done)) (by first | omega | (simp only [AV.len]; omega) | (simp only [AV.len, List.length_set]; omega) | assumption | (simp [AV.len]; done))) trivial rfl ?_
      refine .q (op_assign rfl) trivial rfl ?_
      refine .nil ?_
      show Ev _ _ _ _ _
      refine .region ?_
      refine .q (op_addI rfl rfl ⟨by first | omega | (simp only [AV.len]; omega) | (simp only [AV.len, List.length_set]; omega) | assumption | (simp [AV.len]; done), by first | omega | (simp only [AV.len]; omega) | (simp only [AV.len, List.length_set]; omega) | assumption | (simp [AV.len]; done)⟩) trivial rfl ?_
      refine .q (op_move rfl) trivial rfl ?_
      refine .nil ?_
      exact ⟨some ⟨1, by omega⟩, by show 8 - 1 < 8; omega, StLe.mk [(1000, 1000), (1008, 1016)] rfl rfl ⟨⟨_, rfl, by first | rfl | (simp only [AV.ren]; congr 1; omega), rfl⟩, ⟨_, rfl, by first | rfl | (simp only [AV.ren]; congr 1; omega), rfl⟩, ⟨_, rfl, by first | rfl | (simp only [AV.ren]; congr 1; omega), rfl⟩, ⟨_, rfl, by first | rfl | (simp only [AV.ren]; congr 1; omega), rfl⟩, ⟨_, rfl, by first | rfl | (simp only [AV.ren]; congr 1; omega), rfl⟩, trivial⟩ ⟨⟨_, _, rfl, rfl, rfl, rfl, id, rfl⟩, ⟨_, _, rfl, rfl, rfl, rfl, id, rfl⟩, trivial⟩⟩
    · try dsimp only
      refine .seq ?_
      refine .region ?_
      refine .q (op_cmpI rfl rfl rfl) trivial rfl ?_
      refine .nil ?_
      show Ev _ _ _ _ _
      refine .seq ?_
      refine .cond rfl (fun hc10 => ?_) (fun hc10 => ?_)
      · first | replace hc10 := of_decide_eq_true hc10 | replace hc10 := of_decide_eq_false hc10 | replace hc10 := eq_of_beq hc10 | replace hc10 := ne_of_beq_false hc10 | simp only [bne_iff_ne, ne_eq] at hc10 | simp only [bne_eq_false_iff_eq] at hc10
        refine .skip ?_
        show Ev _ _ _ _ _
        refine .seq ?_
        refine .block ?_
        refine .seq ?_
        refine .region ?_
        refine .q (op_move rfl) trivial rfl ?_
        refine .q (op_assign rfl) trivial rfl ?_
        refine .nil ?_
        show Ev _ _ _ _ _
        refine .region ?_
        refine .q (op_move rfl) trivial rfl ?_
        refine .q (op_move rfl) trivial rfl ?_
        refine .q (ap_idx_arr Tryd.underlying24 inf5.sz rfl rfl rfl (by first | omega | (simp only [AV.len]; omega) | (simp only [AV.len, List.length_set]; omega) | assumption | (simp [AV.len]; done))) trivial rfl ?_
        refine .q (op_load Tryd.underlying5 rfl rfl rfl rfl (by show 0 < K.length; omega)) trivial rfl ?_
        refine .q (op_move rfl) trivial rfl ?_
        refine .q (op_shr8 (n := j) rfl rfl rfl (by omega)) trivial rfl ?_
        refine .q (op_bin8 rfl rfl rfl) trivial rfl ?_
        refine .q (op_bin8 rfl rfl rfl) trivial rfl ?_
        refine .as (.bool (kb K (8 * (0) + (j)))) (congrArg AV.bool (bit_ij K (0) (j) (by omega))) ?_
        refine .a (ap_build (us := [_]) (c := .aggT [_]) Tryd.underlying33 inf4 rfl (by decide) (by decide) ⟨rfl, rfl, rfl, trivial⟩ rfl) trivial rfl ?_
        refine .a (ap_cat Tryd.underlying33 inf4 rfl rfl rfl rfl (by first | rfl | omega | (simp [AV.len, length_btN]; done) | (simp [AV.len, length_btN]; omega)) rfl rfl (by first | rfl | omega | (simp [AV.len, length_btN]; done) | (simp [AV.len, length_btN]; omega)) rfl (by first | rfl | omega | (simp [AV.len, length_btN]; done) | (simp [AV.len, length_btN]; omega))) trivial rfl ?_
        refine .q (op_assign rfl) trivial rfl ?_
        refine .nil ?_
        show Ev _ _ _ _ _
        refine .region ?_
        refine .q (op_addI rfl rfl ⟨by first | omega | (simp only [AV.len]; omega) | (simp only [AV.len, List.length_set]; omega) | assumption | (simp [AV.len]; done), by first | omega | (simp only [AV.len]; omega) | (simp only [AV.len, List.length_set]; omega) | assumption | (simp [AV.len]; done)⟩) trivial rfl ?_
        refine .q (op_move rfl) trivial rfl ?_
        refine .nil ?_
        exact ⟨some ⟨j + 1, by omega⟩, by show 8 - (j + 1) < 8 - j; omega, StLe.mk [(1000, 1000), (1008, 1024)] rfl rfl ⟨⟨_, rfl, by first | rfl | (simp only [AV.ren]; congr 1; omega), rfl⟩, ⟨_, rfl, by first | rfl | (simp only [AV.ren]; congr 1; omega), rfl⟩, ⟨_, rfl, by first | rfl | (simp only [AV.ren]; congr 1; omega), rfl⟩, ⟨_, rfl, by first | rfl | (simp only [AV.ren]; congr 1; omega), rfl⟩, ⟨_, rfl, by first | rfl | (simp only [AV.ren]; congr 1; omega), rfl⟩, trivial⟩ ⟨⟨_, _, rfl, rfl, rfl, rfl, id, rfl⟩, ⟨_, _, rfl, rfl, rfl, rfl, id, rfl⟩, trivial⟩⟩
      · first | replace hc10 := of_decide_eq_true hc10 | replace hc10 := of_decide_eq_false hc10 | replace hc10 := eq_of_beq hc10 | replace hc10 := ne_of_beq_false hc10 | simp only [bne_iff_ne, ne_eq] at hc10 | simp only [bne_eq_false_iff_eq] at hc10
        refine .exit ?_
        show Ev _ _ _ _ _
        refine .region ?_
        refine .q (op_addI rfl rfl ⟨by first | omega | (simp only [AV.len]; omega) | (simp only [AV.len, List.length_set]; omega) | assumption | (simp [AV.len]; done), by first | omega | (simp only [AV.len]; omega) | (simp only [AV.len, List.length_set]; omega) | assumption | (simp [AV.len]; done)⟩) trivial rfl ?_
        refine .q (op_move rfl) trivial rfl ?_
        refine .nil ?_
        have ej : j = 8 := by omega
        subst ej
        exact ⟨some ⟨1, by omega⟩, by show 32 - 1 < 32; omega, StLe.mk [(1000, 1000), (1008, 1008)] rfl rfl ⟨⟨_, rfl, by first | rfl | (simp only [AV.ren]; congr 1; omega), rfl⟩, ⟨_, rfl, by first | rfl | (simp only [AV.ren]; congr 1; omega), rfl⟩, ⟨_, rfl, by first | rfl | (simp only [AV.ren]; congr 1; omega), rfl⟩, trivial⟩ ⟨⟨_, _, rfl, rfl, rfl, rfl, id, rfl⟩, ⟨_, _, rfl, rfl, rfl, rfl, id, rfl⟩, trivial⟩⟩
  · try dsimp only
    refine .seq ?_
    refine .region ?_
    refine .q (op_cmpI rfl rfl rfl) trivial rfl ?_
    refine .nil ?_
    show Ev _ _ _ _ _
    refine .seq ?_
    refine .cond rfl (fun hc7 => ?_) (fun hc7 => ?_)
    · first | replace hc7 := of_decide_eq_true hc7 | replace hc7 := of_decide_eq_false hc7 | replace hc7 := eq_of_beq hc7 | replace hc7 := ne_of_beq_false hc7 | simp only [bne_iff_ne, ne_eq] at hc7 | simp only [bne_eq_false_iff_eq] at hc7
      refine .skip ?_
      show Ev _ _ _ _ _
      refine .seq ?_
      refine .block ?_
      refine .seq ?_
      refine .region ?_
      refine .q (op_move rfl) trivial rfl ?_
      refine .q (op_assign rfl) trivial rfl ?_
      refine .nil ?_
      show Ev _ _ _ _ _
      refine .seq ?_
      refine .region ?_
      refine .q (op_move rfl) trivial rfl ?_
      refine .nil ?_
      show Ev _ _ _ _ _
      refine .block ?_
      refine Ev.loop (ι := { j : Nat // j ≤ 8 }) (fun q => ⟨[(1, .ptr 1000 0), (4, .i64 ((i : Nat) : Int)), (6, .i64 ((i : Nat) : Int)), (3, .sl 1008 0 (8 * (i) + (q.1)) 1), (9, .i64 ((q.1 : Nat) : Int))], [(1000, some ⟨.aggB K, 24, true⟩), (1008, some ⟨.aggT (btN K (8 * (i) + (q.1))), 4, true⟩)], 1016⟩) (fun q => 8 - q.1) ⟨0, Nat.zero_le _⟩ (StLe.mk [(1000, 1000), (1008, 1008)] rfl rfl ⟨⟨_, rfl, by first | rfl | (simp only [AV.ren]; congr 1; omega), rfl⟩, ⟨_, rfl, by first | rfl | (simp only [AV.ren]; congr 1; omega), rfl⟩, ⟨_, rfl, by first | rfl | (simp only [AV.ren]; congr 1; omega), rfl⟩, ⟨_, rfl, by first | rfl | (simp only [AV.ren]; congr 1; omega), rfl⟩, ⟨_, rfl, by first | rfl | (simp only [AV.ren]; congr 1; omega), rfl⟩, trivial⟩ ⟨⟨_, _, rfl, rfl, rfl, rfl, id, rfl⟩, ⟨_, _, rfl, rfl, rfl, rfl, id, rfl⟩, trivial⟩) ?_
      rintro ⟨j, hj⟩
      try dsimp only
      refine .seq ?_
      refine .region ?_
      refine .q (op_cmpI rfl rfl rfl) trivial rfl ?_
      refine .nil ?_
      show Ev _ _ _ _ _
      refine .seq ?_
      refine .cond rfl (fun hc10 => ?_) (fun hc10 => ?_)
      · first | replace hc10 := of_decide_eq_true hc10 | replace hc10 := of_decide_eq_false hc10 | replace hc10 := eq_of_beq hc10 | replace hc10 := ne_of_beq_false hc10 | simp only [bne_iff_ne, ne_eq] at hc10 | simp only [bne_eq_false_iff_eq] at hc10
        refine .skip ?_
        show Ev _ _ _ _ _
        refine .seq ?_
        refine .block ?_
        refine .seq ?_
        refine .region ?_
        refine .q (op_move rfl) trivial rfl ?_
        refine .q (op_assign rfl) trivial rfl ?_
        refine .nil ?_
        show Ev _ _ _ _ _
        refine .region ?_
        refine .q (op_move rfl) trivial rfl ?_
        refine .q (op_move rfl) trivial rfl ?_
        refine .q (ap_idx_arr Tryd.underlying24 inf5.sz rfl rfl rfl (by first | omega | (simp only [AV.len]; omega) | (simp only [AV.len, List.length_set]; omega) | assumption | (simp [AV.len]; done))) trivial rfl ?_
        refine .q (op_load Tryd.underlying5 rfl rfl rfl rfl (by show i < K.length; omega)) trivial rfl ?_
        refine .q (op_move rfl) trivial rfl ?_
        refine .q (op_shr8 (n := j) rfl rfl rfl (by omega)) trivial rfl ?_
        refine .q (op_bin8 rfl rfl rfl) trivial rfl ?_
        refine .q (op_bin8 rfl rfl rfl) trivial rfl ?_
        refine .as (.bool (kb K (8 * (i) + (j)))) (congrArg AV.bool (bit_ij K (i) (j) (by omega))) ?_
        refine .a (ap_build (us := [_]) (c := .aggT [_]) Tryd.underlying33 inf4 rfl (by decide) (by decide) ⟨rfl, rfl, rfl, trivial⟩ rfl) trivial rfl ?_
        refine .a (ap_cat Tryd.underlying33 inf4 rfl rfl rfl rfl (by first | rfl | omega | (simp [AV.len, length_btN]; done) | (simp [AV.len, length_btN]; omega)) rfl rfl (by first | rfl | omega | (simp [AV.len, length_btN]; done) | (simp [AV.len, length_btN]; omega)) rfl (by first | rfl | omega | (simp [AV.len, length_btN]; done) | (simp [AV.len, length_btN]; omega))) trivial rfl ?_
        refine .q (op_assign rfl) trivial rfl ?_
        refine .nil ?_
        show Ev _ _ _ _ _
        refine .region ?_
        refine .q (op_addI rfl rfl ⟨by first | omega | (simp only [AV.len]; omega) | (simp only [AV.len, List.length_set]; omega) | assumption | (simp [AV.len]; done), by first | omega | (simp only [AV.len]; omega) | (simp only [AV.len, List.length_set]; omega) | assumption | (simp [AV.len]; done)⟩) trivial rfl ?_
        refine .q (op_move rfl) trivial rfl ?_
        refine .nil ?_
        exact ⟨⟨j + 1, by omega⟩, by show 8 - (j + 1) < 8 - j; omega, StLe.mk [(1000, 1000), (1008, 1024)] rfl rfl ⟨⟨_, rfl, by first | rfl | (simp only [AV.ren]; congr 1; omega), rfl⟩, ⟨_, rfl, by first | rfl | (simp only [AV.ren]; congr 1; omega), rfl⟩, ⟨_, rfl, by first | rfl | (simp only [AV.ren]; congr 1; omega), rfl⟩, ⟨_, rfl, by first | rfl | (simp only [AV.ren]; congr 1; omega), rfl⟩, ⟨_, rfl, by first | rfl | (simp only [AV.ren]; congr 1; omega), rfl⟩, trivial⟩ ⟨⟨_, _, rfl, rfl, rfl, rfl, id, rfl⟩, ⟨_, _, rfl, rfl, rfl, rfl, id, rfl⟩, trivial⟩⟩
      · first | replace hc10 := of_decide_eq_true hc10 | replace hc10 := of_decide_eq_false hc10 | replace hc10 := eq_of_beq hc10 | replace hc10 := ne_of_beq_false hc10 | simp only [bne_iff_ne, ne_eq] at hc10 | simp only [bne_eq_false_iff_eq] at hc10
        refine .exit ?_
        show Ev _ _ _ _ _
        refine .region ?_
        refine .q (op_addI rfl rfl ⟨by first | omega | (simp only [AV.len]; omega) | (simp only [AV.len, List.length_set]; omega) | assumption | (simp [AV.len]; done), by first | omega | (simp only [AV.len]; omega) | (simp only [AV.len, List.length_set]; omega) | assumption | (simp [AV.len]; done)⟩) trivial rfl ?_
        refine .q (op_move rfl) trivial rfl ?_
        refine .nil ?_
        have ej : j = 8 := by omega
        subst ej
        exact ⟨some ⟨i + 1, by omega⟩, by show 32 - (i + 1) < 32 - i; omega, StLe.mk [(1000, 1000), (1008, 1008)] rfl rfl ⟨⟨_, rfl, by first | rfl | (simp only [AV.ren]; congr 1; omega), rfl⟩, ⟨_, rfl, by first | rfl | (simp only [AV.ren]; congr 1; omega), rfl⟩, ⟨_, rfl, by first | rfl | (simp only [AV.ren]; congr 1; omega), rfl⟩, trivial⟩ ⟨⟨_, _, rfl, rfl, rfl, rfl, id, rfl⟩, ⟨_, _, rfl, rfl, rfl, rfl, id, rfl⟩, trivial⟩⟩
    · first | replace hc7 := of_decide_eq_true hc7 | replace hc7 := of_decide_eq_false hc7 | replace hc7 := eq_of_beq hc7 | replace hc7 := ne_of_beq_false hc7 | simp only [bne_iff_ne, ne_eq] at hc7 | simp only [bne_eq_false_iff_eq] at hc7
      refine .exit ?_
      show Ev _ _ _ _ _
      refine .seq ?_
      refine .region ?_
      refine .q (op_move rfl) trivial rfl ?_
      refine .q (op_assign rfl) trivial rfl ?_
      refine .nil ?_
      show Ev _ _ _ _ _
      refine .ret ?_
      show RetOk _ _ _ _ _ _ _
      have ei : i = 32 := by omega
      subst ei
      exact ret1v rfl (.inl rfl) rfl rfl ⟨rfl, trivial⟩
end Go.Proofs.YtmnhifagkcmhjaaDoor
