/-
  Texts of this claim.
-/
import Derived.Test.YtenocbhlbgcnfaaDoorGTE
import Derived.Test.YtenocbhlbgcnfaaDoorGTO
import Derived.Test.YtenocbhlbgcnfaaDoorGTW
namespace Go.Proofs.YtenocbhlbgcnfaaDoor
open Go.RowKit
def kNums : List Int := [1, 2, 3, 4, 5, 6, 20, 21, 30, 31, 50, 51, 52, 53, 60, 80, 81, 82, 90, 91, 92, 93, 94, 95, 96, 97, 98, 99, 100]
def kNames : List (List UInt8) := [[100, 105, 115, 99, 111, 110, 110, 101, 99, 116], [105, 103, 110, 111, 114, 101], [117, 110, 105, 109, 112, 108, 101, 109, 101, 110, 116, 101, 100], [100, 101, 98, 117, 103], [115, 101, 114, 118, 105, 99, 101, 45, 114, 101, 113, 117, 101, 115, 116], [115, 101, 114, 118, 105, 99, 101, 45, 97, 99, 99, 101, 112, 116], [107, 101, 120, 105, 110, 105, 116], [110, 101, 119, 107, 101, 121, 115], [101, 99, 100, 104, 45, 105, 110, 105, 116], [101, 99, 100, 104, 45, 114, 101, 112, 108, 121], [97, 117, 116, 104, 45, 114, 101, 113, 117, 101, 115, 116], [97, 117, 116, 104, 45, 102, 97, 105, 108, 117, 114, 101], [97, 117, 116, 104, 45, 115, 117, 99, 99, 101, 115, 115], [98, 97, 110, 110, 101, 114], [112, 107, 45, 111, 107], [103, 108, 111, 98, 97, 108, 45, 114, 101, 113, 117, 101, 115, 116], [114, 101, 113, 117, 101, 115, 116, 45, 115, 117, 99, 99, 101, 115, 115], [114, 101, 113, 117, 101, 115, 116, 45, 102, 97, 105, 108, 117, 114, 101], [111, 112, 101, 110], [99, 111, 110, 102, 105, 114, 109], [111, 112, 101, 110, 45, 102, 97, 105, 108, 117, 114, 101], [97, 100, 106, 117, 115, 116], [100, 97, 116, 97], [101, 120, 116, 101, 110, 100, 101, 100], [101, 111, 102], [99, 108, 111, 115, 101], [99, 104, 97, 110, 110, 101, 108, 45, 114, 101, 113, 117, 101, 115, 116], [99, 104, 97, 110, 110, 101, 108, 45, 115, 117, 99, 99, 101, 115, 115], [99, 104, 97, 110, 110, 101, 108, 45, 102, 97, 105, 108, 117, 114, 101]]
def kFields : List (List UInt8) := [[117, 115, 115], [115], [117], [98, 115, 115], [115], [115], [99, 110, 110, 110, 110, 110, 110, 110, 110, 110, 110, 98, 117], [], [115], [115, 115, 115], [115, 115, 115, 114], [110, 98], [], [115, 115], [115, 115], [115, 98, 114], [114], [], [115, 117, 117, 117, 114], [117, 117, 117, 117, 114], [117, 117, 115, 115], [117, 117], [117, 115], [117, 117, 115], [117], [117], [117, 115, 98, 114], [117], [117]]
def kindCells : List AV := [.i64 1, .str [100, 105, 115, 99, 111, 110, 110, 101, 99, 116], .str [117, 115, 115], .i64 2, .str [105, 103, 110, 111, 114, 101], .str [115], .i64 3, .str [117, 110, 105, 109, 112, 108, 101, 109, 101, 110, 116, 101, 100], .str [117], .i64 4, .str [100, 101, 98, 117, 103], .str [98, 115, 115], .i64 5, .str [115, 101, 114, 118, 105, 99, 101, 45, 114, 101, 113, 117, 101, 115, 116], .str [115], .i64 6, .str [115, 101, 114, 118, 105, 99, 101, 45, 97, 99, 99, 101, 112, 116], .str [115], .i64 20, .str [107, 101, 120, 105, 110, 105, 116], .str [99, 110, 110, 110, 110, 110, 110, 110, 110, 110, 110, 98, 117], .i64 21, .str [110, 101, 119, 107, 101, 121, 115], .str [], .i64 30, .str [101, 99, 100, 104, 45, 105, 110, 105, 116], .str [115], .i64 31, .str [101, 99, 100, 104, 45, 114, 101, 112, 108, 121], .str [115, 115, 115], .i64 50, .str [97, 117, 116, 104, 45, 114, 101, 113, 117, 101, 115, 116], .str [115, 115, 115, 114], .i64 51, .str [97, 117, 116, 104, 45, 102, 97, 105, 108, 117, 114, 101], .str [110, 98], .i64 52, .str [97, 117, 116, 104, 45, 115, 117, 99, 99, 101, 115, 115], .str [], .i64 53, .str [98, 97, 110, 110, 101, 114], .str [115, 115], .i64 60, .str [112, 107, 45, 111, 107], .str [115, 115], .i64 80, .str [103, 108, 111, 98, 97, 108, 45, 114, 101, 113, 117, 101, 115, 116], .str [115, 98, 114], .i64 81, .str [114, 101, 113, 117, 101, 115, 116, 45, 115, 117, 99, 99, 101, 115, 115], .str [114], .i64 82, .str [114, 101, 113, 117, 101, 115, 116, 45, 102, 97, 105, 108, 117, 114, 101], .str [], .i64 90, .str [111, 112, 101, 110], .str [115, 117, 117, 117, 114], .i64 91, .str [99, 111, 110, 102, 105, 114, 109], .str [117, 117, 117, 117, 114], .i64 92, .str [111, 112, 101, 110, 45, 102, 97, 105, 108, 117, 114, 101], .str [117, 117, 115, 115], .i64 93, .str [97, 100, 106, 117, 115, 116], .str [117, 117], .i64 94, .str [100, 97, 116, 97], .str [117, 115], .i64 95, .str [101, 120, 116, 101, 110, 100, 101, 100], .str [117, 117, 115], .i64 96, .str [101, 111, 102], .str [117], .i64 97, .str [99, 108, 111, 115, 101], .str [117], .i64 98, .str [99, 104, 97, 110, 110, 101, 108, 45, 114, 101, 113, 117, 101, 115, 116], .str [117, 115, 98, 114], .i64 99, .str [99, 104, 97, 110, 110, 101, 108, 45, 115, 117, 99, 99, 101, 115, 115], .str [117], .i64 100, .str [99, 104, 97, 110, 110, 101, 108, 45, 102, 97, 105, 108, 117, 114, 101], .str [117]]
/-- The row of a kind, out of the rows before n. -/
def kAt (k : Int) : Nat → Option Nat
  | 0 => none
  | n + 1 => match kAt k n with
    | some i => some i
    | none => if kNums.getD n 0 = k then some n else none
def fieldsOf (k : Int) : List UInt8 := match kAt k 29 with
  | some i => kFields.getD i []
  | none => []
def isKind (k : Int) : Bool := (kAt k 29).isSome
def nameOf (k : Int) : List UInt8 := match kAt k 29 with
  | some i => kNames.getD i []
  | none => []
theorem kAt_more {k : Int} {i n : Nat} (h : kAt k n = some i) : ∀ m, kAt k (n + m) = some i
  | 0 => h
  | m + 1 => by
    show (match kAt k (n + m) with | some i => some i | none => if kNums.getD (n + m) 0 = k then some (n + m) else none) = some i
    rw [kAt_more h m]
theorem kAt_hit {k : Int} {n : Nat} (h : kAt k n = none) (hk : kNums.getD n 0 = k) (hn : n < 29) : kAt k 29 = some n := by
  have h1 : kAt k (n + 1) = some n := by
    show (match kAt k n with | some i => some i | none => if kNums.getD n 0 = k then some n else none) = some n
    rw [h]; simp only; rw [if_pos hk]
  have := kAt_more h1 (29 - (n + 1))
  rwa [show n + 1 + (29 - (n + 1)) = 29 by omega] at this
theorem kAt_miss {k : Int} {n : Nat} (h : kAt k n = none) (hk : ¬ kNums.getD n 0 = k) : kAt k (n + 1) = none := by
  show (match kAt k n with | some i => some i | none => if kNums.getD n 0 = k then some n else none) = none
  rw [h]; simp only; rw [if_neg hk]
theorem fields_hit {k : Int} {n : Nat} (h : kAt k n = none) (hk : kNums.getD n 0 = k) (hn : n < 29) : kFields.getD n [] = fieldsOf k ∧ true = isKind k ∧ kNames.getD n [] = nameOf k := by
  have e := kAt_hit h hk hn
  refine ⟨?_, ?_, ?_⟩
  · unfold fieldsOf; rw [e]
  · unfold isKind; rw [e]; rfl
  · unfold nameOf; rw [e]
theorem fields_none {k : Int} (h : kAt k 29 = none) : ([] : List UInt8) = fieldsOf k ∧ false = isKind k ∧ ([] : List UInt8) = nameOf k := by
  refine ⟨?_, ?_, ?_⟩
  · unfold fieldsOf; rw [h]
  · unfold isKind; rw [h]; rfl
  · unfold nameOf; rw [h]
theorem kind_row : ∀ j, j < 29 → AV.agg ((kindCells.drop (j * 3)).take 3) = .agg [.i64 (kNums.getD j 0), .str (kNames.getD j []), .str (kFields.getD j [])]
  | 0, _ => rfl
  | 1, _ => rfl
  | 2, _ => rfl
  | 3, _ => rfl
  | 4, _ => rfl
  | 5, _ => rfl
  | 6, _ => rfl
  | 7, _ => rfl
  | 8, _ => rfl
  | 9, _ => rfl
  | 10, _ => rfl
  | 11, _ => rfl
  | 12, _ => rfl
  | 13, _ => rfl
  | 14, _ => rfl
  | 15, _ => rfl
  | 16, _ => rfl
  | 17, _ => rfl
  | 18, _ => rfl
  | 19, _ => rfl
  | 20, _ => rfl
  | 21, _ => rfl
  | 22, _ => rfl
  | 23, _ => rfl
  | 24, _ => rfl
  | 25, _ => rfl
  | 26, _ => rfl
  | 27, _ => rfl
  | 28, _ => rfl
  | n + 29, h => absurd h (by omega)
set_option maxRecDepth 100000 in
theorem fields_ev (k : Int) : Meets Tryd.prog 16 [.i64 k] [(20, some ⟨.agg kindCells, errT, false⟩)] (.tup [.str (fieldsOf k), .bool (isKind k)]) [] := by
 refine meets_of_ev (nt := 17) Tryd.func16 rfl rfl (Nat.le_of_ble_eq_true rfl) ?_
 refine .seq ?_
 refine .region ?_
 refine .q (op_assign rfl) trivial rfl ?_
 refine .q (op_assign rfl) trivial rfl ?_
 refine .nil ?_
 show Ev _ _ _ _ _
 refine .seq ?_
 refine .seq ?_
 refine .region ?_
 refine .q (op_loadRow Tryd.underlying70 rfl (by kernel_rfl) rfl rfl rfl (rfl)) trivial rfl ?_
 refine .q (op_move rfl) trivial rfl ?_
 refine .nil ?_
 show Ev _ _ _ _ _
 refine .block ?_
 refine Ev.loop (ι := { j : Nat // j ≤ 29 ∧ kAt k j = none }) (fun q => ⟨[(6, .agg kindCells), (7, .i64 (q.1 : Int)), (0, .i64 k)], [], 1000⟩) (fun q => 29 - q.1) ⟨0, by omega, rfl⟩ (StLe.mk [] rfl rfl ⟨⟨_, rfl, by first | rfl | (simp only [AV.ren]; congr 1; omega), rfl⟩, ⟨_, rfl, by first | rfl | (simp only [AV.ren]; congr 1; omega), rfl⟩, ⟨_, rfl, by first | rfl | (simp only [AV.ren]; congr 1; omega), rfl⟩, trivial⟩ trivial) ?_
 rintro ⟨j, hj, hq⟩
 try dsimp only
 refine .seq ?_
 refine .region ?_
 refine .q (op_cmpI rfl rfl rfl) trivial rfl ?_
 refine .nil ?_
 show Ev _ _ _ _ _
 refine .seq ?_
 refine .cond rfl (fun hc8 => ?_) (fun hc8 => ?_)
 ·simp only [decide_eq_true_eq] at hc8
  refine .skip ?_
  show Ev _ _ _ _ _
  refine .seq ?_
  refine .block ?_
  refine .seq ?_
  refine .region ?_
  refine .q (op_index_rowS (z := 3) Tryd.underlying70 Tryd.underlying69 rfl (by kernel_rfl) rfl rfl rfl rfl (by show j * 3 + 3 ≤ 87; omega) (by omega)) trivial rfl ?_
  refine .as (.agg [.i64 (kNums.getD j 0), .str (kNames.getD j []), .str (kFields.getD j [])]) (kind_row j (by omega)) ?_
  refine .a (op_allocRow zero69 rel_zero69 rfl) trivial rfl ?_
  refine .w (op_storeRow (by kernel_rfl) rfl rfl rfl rfl rfl (rfl) (rfl)) trivial rfl ?_
  refine .nil ?_
  show Ev _ _ _ _ _
  refine .seq ?_
  refine .region ?_
  refine .q (op_fieldAddr (m := 0) Tryd.underlying69 rfl (by kernel_rfl) rfl) trivial rfl ?_
  refine .as (.ptr 1000 0) rfl ?_
  refine .q (op_load Tryd.underlying3 rfl rfl rfl rfl (by first | omega | (simp only [AV.len]; omega) | (simp only [AV.len]; omega) | assumption | (simp [AV.len]; done))) trivial rfl ?_
  refine .q (op_move rfl) trivial rfl ?_
  refine .q (op_cmpI rfl rfl rfl) trivial rfl ?_
  refine .nil ?_
  show Ev _ _ _ _ _
  refine .cond rfl (fun hc13 => ?_) (fun hc13 => ?_)
  ·simp only [beq_iff_eq] at hc13
   refine .seq ?_
   refine .region ?_
   refine .q (op_fieldAddr (m := 0) Tryd.underlying69 rfl (by kernel_rfl) rfl) trivial rfl ?_
   refine .as (.ptr 1000 2) rfl ?_
   refine .q (op_load Tryd.underlying9 rfl rfl rfl rfl (by first | omega | (simp only [AV.len]; omega) | (simp only [AV.len]; omega) | assumption | (simp [AV.len]; done))) trivial rfl ?_
   refine .q (op_assign rfl) trivial rfl ?_
   refine .q (op_assign rfl) trivial rfl ?_
   refine .nil ?_
   show Ev _ _ _ _ _
   refine .ret ?_
   show RetOk _ _ _ _ _ _ _
   exact ret2v rfl (.inl rfl) rfl rfl (congrArg AV.str (by first | exact (fields_hit hq hc13 (by omega)).1 | exact (fields_none (by rwa [show j = 29 by omega] at hq)).1)) (congrArg AV.bool (by first | exact (fields_hit hq hc13 (by omega)).2.1 | exact (fields_none (by rwa [show j = 29 by omega] at hq)).2.1)) trivial
  ·simp only [ne_eq, beq_eq_false_iff_ne] at hc13
   refine .skip ?_
   show Ev _ _ _ _ _
   refine .region ?_
   refine .q (op_addI rfl rfl ⟨by omega, by omega⟩) trivial rfl ?_
   refine .q (op_move rfl) trivial rfl ?_
   refine .nil ?_
   exact ⟨⟨j + 1, by omega, kAt_miss hq hc13⟩, by (try dsimp only); omega, StLe.mk [] rfl rfl ⟨⟨_, rfl, by first | rfl | (simp only [AV.ren]; congr 1; omega), rfl⟩, ⟨_, rfl, by first | rfl | (simp only [AV.ren]; congr 1; omega), rfl⟩, ⟨_, rfl, by first | rfl | (simp only [AV.ren]; congr 1; omega), rfl⟩, trivial⟩ trivial⟩
 ·simp only [decide_eq_false_iff_not] at hc8
  refine .exit ?_
  show Ev _ _ _ _ _
  refine .seq ?_
  refine .region ?_
  refine .q (op_assign rfl) trivial rfl ?_
  refine .q (op_assign rfl) trivial rfl ?_
  refine .nil ?_
  show Ev _ _ _ _ _
  refine .ret ?_
  show RetOk _ _ _ _ _ _ _
  exact ret2v rfl (.inl rfl) rfl rfl (congrArg AV.str (by first | exact (fields_hit hq hc13 (by omega)).1 | exact (fields_none (by rwa [show j = 29 by omega] at hq)).1)) (congrArg AV.bool (by first | exact (fields_hit hq hc13 (by omega)).2.1 | exact (fields_none (by rwa [show j = 29 by omega] at hq)).2.1)) trivial
set_option maxRecDepth 100000 in
theorem kname_ev (k : Int) : Meets Tryd.prog 13 [.i64 k] [(20, some ⟨.agg kindCells, errT, false⟩)] (.str (nameOf k)) [] := by
 refine meets_of_ev (nt := 16) Tryd.func13 rfl rfl (Nat.le_of_ble_eq_true rfl) ?_
 refine .seq ?_
 refine .region ?_
 refine .q (op_assign rfl) trivial rfl ?_
 refine .nil ?_
 show Ev _ _ _ _ _
 refine .seq ?_
 refine .seq ?_
 refine .region ?_
 refine .q (op_loadRow Tryd.underlying70 rfl (by kernel_rfl) rfl rfl rfl (rfl)) trivial rfl ?_
 refine .q (op_move rfl) trivial rfl ?_
 refine .nil ?_
 show Ev _ _ _ _ _
 refine .block ?_
 refine Ev.loop (ι := { j : Nat // j ≤ 29 ∧ kAt k j = none }) (fun q => ⟨[(5, .agg kindCells), (6, .i64 (q.1 : Int)), (0, .i64 k)], [], 1000⟩) (fun q => 29 - q.1) ⟨0, by omega, rfl⟩ (StLe.mk [] rfl rfl ⟨⟨_, rfl, by first | rfl | (simp only [AV.ren]; congr 1; omega), rfl⟩, ⟨_, rfl, by first | rfl | (simp only [AV.ren]; congr 1; omega), rfl⟩, ⟨_, rfl, by first | rfl | (simp only [AV.ren]; congr 1; omega), rfl⟩, trivial⟩ trivial) ?_
 rintro ⟨j, hj, hq⟩
 try dsimp only
 refine .seq ?_
 refine .region ?_
 refine .q (op_cmpI rfl rfl rfl) trivial rfl ?_
 refine .nil ?_
 show Ev _ _ _ _ _
 refine .seq ?_
 refine .cond rfl (fun hc7 => ?_) (fun hc7 => ?_)
 ·simp only [decide_eq_true_eq] at hc7
  refine .skip ?_
  show Ev _ _ _ _ _
  refine .seq ?_
  refine .block ?_
  refine .seq ?_
  refine .region ?_
  refine .q (op_index_rowS (z := 3) Tryd.underlying70 Tryd.underlying69 rfl (by kernel_rfl) rfl rfl rfl rfl (by show j * 3 + 3 ≤ 87; omega) (by omega)) trivial rfl ?_
  refine .as (.agg [.i64 (kNums.getD j 0), .str (kNames.getD j []), .str (kFields.getD j [])]) (kind_row j (by omega)) ?_
  refine .a (op_allocRow zero69 rel_zero69 rfl) trivial rfl ?_
  refine .w (op_storeRow (by kernel_rfl) rfl rfl rfl rfl rfl (rfl) (rfl)) trivial rfl ?_
  refine .nil ?_
  show Ev _ _ _ _ _
  refine .seq ?_
  refine .region ?_
  refine .q (op_fieldAddr (m := 0) Tryd.underlying69 rfl (by kernel_rfl) rfl) trivial rfl ?_
  refine .as (.ptr 1000 0) rfl ?_
  refine .q (op_load Tryd.underlying3 rfl rfl rfl rfl (by first | omega | (simp only [AV.len]; omega) | (simp only [AV.len]; omega) | assumption | (simp [AV.len]; done))) trivial rfl ?_
  refine .q (op_move rfl) trivial rfl ?_
  refine .q (op_cmpI rfl rfl rfl) trivial rfl ?_
  refine .nil ?_
  show Ev _ _ _ _ _
  refine .cond rfl (fun hc12 => ?_) (fun hc12 => ?_)
  ·simp only [beq_iff_eq] at hc12
   refine .seq ?_
   refine .region ?_
   refine .q (op_fieldAddr (m := 0) Tryd.underlying69 rfl (by kernel_rfl) rfl) trivial rfl ?_
   refine .as (.ptr 1000 1) rfl ?_
   refine .q (op_load Tryd.underlying9 rfl rfl rfl rfl (by first | omega | (simp only [AV.len]; omega) | (simp only [AV.len]; omega) | assumption | (simp [AV.len]; done))) trivial rfl ?_
   refine .q (op_assign rfl) trivial rfl ?_
   refine .nil ?_
   show Ev _ _ _ _ _
   refine .ret ?_
   show RetOk _ _ _ _ _ _ _
   exact ret1v rfl (.inl rfl) rfl (congrArg AV.str (by first | exact (fields_hit hq hc12 (by omega)).2.2 | exact (fields_none (by rwa [show j = 29 by omega] at hq)).2.2)) trivial
  ·simp only [ne_eq, beq_eq_false_iff_ne] at hc12
   refine .skip ?_
   show Ev _ _ _ _ _
   refine .region ?_
   refine .q (op_addI rfl rfl ⟨by omega, by omega⟩) trivial rfl ?_
   refine .q (op_move rfl) trivial rfl ?_
   refine .nil ?_
   exact ⟨⟨j + 1, by omega, kAt_miss hq hc12⟩, by (try dsimp only); omega, StLe.mk [] rfl rfl ⟨⟨_, rfl, by first | rfl | (simp only [AV.ren]; congr 1; omega), rfl⟩, ⟨_, rfl, by first | rfl | (simp only [AV.ren]; congr 1; omega), rfl⟩, ⟨_, rfl, by first | rfl | (simp only [AV.ren]; congr 1; omega), rfl⟩, trivial⟩ trivial⟩
 ·simp only [decide_eq_false_iff_not] at hc7
  refine .exit ?_
  show Ev _ _ _ _ _
  refine .seq ?_
  refine .region ?_
  refine .q (op_assign rfl) trivial rfl ?_
  refine .nil ?_
  show Ev _ _ _ _ _
  refine .ret ?_
  show RetOk _ _ _ _ _ _ _
  exact ret1v rfl (.inl rfl) rfl (congrArg AV.str (by first | exact (fields_hit hq hc12 (by omega)).2.2 | exact (fields_none (by rwa [show j = 29 by omega] at hq)).2.2)) trivial
theorem kAt_all {k : Int} (h0 : ¬ k = 1) (h1 : ¬ k = 2) (h2 : ¬ k = 3) (h3 : ¬ k = 4) (h4 : ¬ k = 5) (h5 : ¬ k = 6) (h6 : ¬ k = 20) (h7 : ¬ k = 21) (h8 : ¬ k = 30) (h9 : ¬ k = 31) (h10 : ¬ k = 50) (h11 : ¬ k = 51) (h12 : ¬ k = 52) (h13 : ¬ k = 53) (h14 : ¬ k = 60) (h15 : ¬ k = 80) (h16 : ¬ k = 81) (h17 : ¬ k = 82) (h18 : ¬ k = 90) (h19 : ¬ k = 91) (h20 : ¬ k = 92) (h21 : ¬ k = 93) (h22 : ¬ k = 94) (h23 : ¬ k = 95) (h24 : ¬ k = 96) (h25 : ¬ k = 97) (h26 : ¬ k = 98) (h27 : ¬ k = 99) (h28 : ¬ k = 100) : kAt k 29 = none := (kAt_miss (kAt_miss (kAt_miss (kAt_miss (kAt_miss (kAt_miss (kAt_miss (kAt_miss (kAt_miss (kAt_miss (kAt_miss (kAt_miss (kAt_miss (kAt_miss (kAt_miss (kAt_miss (kAt_miss (kAt_miss (kAt_miss (kAt_miss (kAt_miss (kAt_miss (kAt_miss (kAt_miss (kAt_miss (kAt_miss (kAt_miss (kAt_miss (kAt_miss (rfl : kAt k 0 = none) (fun e => h0 e.symm)) (fun e => h1 e.symm)) (fun e => h2 e.symm)) (fun e => h3 e.symm)) (fun e => h4 e.symm)) (fun e => h5 e.symm)) (fun e => h6 e.symm)) (fun e => h7 e.symm)) (fun e => h8 e.symm)) (fun e => h9 e.symm)) (fun e => h10 e.symm)) (fun e => h11 e.symm)) (fun e => h12 e.symm)) (fun e => h13 e.symm)) (fun e => h14 e.symm)) (fun e => h15 e.symm)) (fun e => h16 e.symm)) (fun e => h17 e.symm)) (fun e => h18 e.symm)) (fun e => h19 e.symm)) (fun e => h20 e.symm)) (fun e => h21 e.symm)) (fun e => h22 e.symm)) (fun e => h23 e.symm)) (fun e => h24 e.symm)) (fun e => h25 e.symm)) (fun e => h26 e.symm)) (fun e => h27 e.symm)) (fun e => h28 e.symm))
set_option maxRecDepth 100000 in
theorem rfields_ev (k : Int) : Meets Tryd.prog 20 [.i64 k] [] (.tup [.str (fieldsOf k), .bool (isKind k)]) [] := by
 refine meets_of_ev (nt := 63) Tryd.func20 rfl rfl (Nat.le_of_ble_eq_true rfl) ?_
 refine .seq ?_
 refine .region ?_
 refine .q (op_assign rfl) trivial rfl ?_
 refine .q (op_assign rfl) trivial rfl ?_
 refine .nil ?_
 show Ev _ _ _ _ _
 refine .seq ?_
 refine .seq ?_
 refine .region ?_
 refine .q (op_move rfl) trivial rfl ?_
 refine .nil ?_
 show Ev _ _ _ _ _
 refine .block ?_
 refine .seq ?_
 refine .region ?_
 refine .q (op_cmpI rfl rfl rfl) trivial rfl ?_
 refine .q (op_assign rfl) trivial rfl ?_
 refine .nil ?_
 show Ev _ _ _ _ _
 refine .cond rfl (fun hc5 => ?_) (fun hc5 => ?_)
 ·simp only [beq_iff_eq] at hc5
  refine .seq ?_
  refine .region ?_
  refine .q (op_assign rfl) trivial rfl ?_
  refine .q (op_assign rfl) trivial rfl ?_
  refine .nil ?_
  show Ev _ _ _ _ _
  refine .ret ?_
  show RetOk _ _ _ _ _ _ _
  exact ret2v rfl (.inl rfl) rfl rfl (congrArg AV.str (by first | (subst k; rfl) | exact (fields_none (kAt_all hc5 hc7 hc9 hc11 hc13 hc15 hc17 hc19 hc21 hc23 hc25 hc27 hc29 hc31 hc33 hc35 hc37 hc39 hc41 hc43 hc45 hc47 hc49 hc51 hc53 hc55 hc57 hc59 hc61)).1)) (congrArg AV.bool (by first | (subst k; rfl) | exact (fields_none (kAt_all hc5 hc7 hc9 hc11 hc13 hc15 hc17 hc19 hc21 hc23 hc25 hc27 hc29 hc31 hc33 hc35 hc37 hc39 hc41 hc43 hc45 hc47 hc49 hc51 hc53 hc55 hc57 hc59 hc61)).2.1)) trivial
 ·simp only [ne_eq, beq_eq_false_iff_ne] at hc5
  refine .seq ?_
  refine .region ?_
  refine .q (op_cmpI rfl rfl rfl) trivial rfl ?_
  refine .q (op_assign rfl) trivial rfl ?_
  refine .nil ?_
  show Ev _ _ _ _ _
  refine .cond rfl (fun hc7 => ?_) (fun hc7 => ?_)
  ·simp only [beq_iff_eq] at hc7
   refine .seq ?_
   refine .region ?_
   refine .q (op_assign rfl) trivial rfl ?_
   refine .q (op_assign rfl) trivial rfl ?_
   refine .nil ?_
   show Ev _ _ _ _ _
   refine .ret ?_
   show RetOk _ _ _ _ _ _ _
   exact ret2v rfl (.inl rfl) rfl rfl (congrArg AV.str (by first | (subst k; rfl) | exact (fields_none (kAt_all hc5 hc7 hc9 hc11 hc13 hc15 hc17 hc19 hc21 hc23 hc25 hc27 hc29 hc31 hc33 hc35 hc37 hc39 hc41 hc43 hc45 hc47 hc49 hc51 hc53 hc55 hc57 hc59 hc61)).1)) (congrArg AV.bool (by first | (subst k; rfl) | exact (fields_none (kAt_all hc5 hc7 hc9 hc11 hc13 hc15 hc17 hc19 hc21 hc23 hc25 hc27 hc29 hc31 hc33 hc35 hc37 hc39 hc41 hc43 hc45 hc47 hc49 hc51 hc53 hc55 hc57 hc59 hc61)).2.1)) trivial
  ·simp only [ne_eq, beq_eq_false_iff_ne] at hc7
   refine .seq ?_
   refine .region ?_
   refine .q (op_cmpI rfl rfl rfl) trivial rfl ?_
   refine .q (op_assign rfl) trivial rfl ?_
   refine .nil ?_
   show Ev _ _ _ _ _
   refine .cond rfl (fun hc9 => ?_) (fun hc9 => ?_)
   ·simp only [beq_iff_eq] at hc9
    refine .seq ?_
    refine .region ?_
    refine .q (op_assign rfl) trivial rfl ?_
    refine .q (op_assign rfl) trivial rfl ?_
    refine .nil ?_
    show Ev _ _ _ _ _
    refine .ret ?_
    show RetOk _ _ _ _ _ _ _
    exact ret2v rfl (.inl rfl) rfl rfl (congrArg AV.str (by first | (subst k; rfl) | exact (fields_none (kAt_all hc5 hc7 hc9 hc11 hc13 hc15 hc17 hc19 hc21 hc23 hc25 hc27 hc29 hc31 hc33 hc35 hc37 hc39 hc41 hc43 hc45 hc47 hc49 hc51 hc53 hc55 hc57 hc59 hc61)).1)) (congrArg AV.bool (by first | (subst k; rfl) | exact (fields_none (kAt_all hc5 hc7 hc9 hc11 hc13 hc15 hc17 hc19 hc21 hc23 hc25 hc27 hc29 hc31 hc33 hc35 hc37 hc39 hc41 hc43 hc45 hc47 hc49 hc51 hc53 hc55 hc57 hc59 hc61)).2.1)) trivial
   ·simp only [ne_eq, beq_eq_false_iff_ne] at hc9
    refine .seq ?_
    refine .region ?_
    refine .q (op_cmpI rfl rfl rfl) trivial rfl ?_
    refine .q (op_assign rfl) trivial rfl ?_
    refine .nil ?_
    show Ev _ _ _ _ _
    refine .cond rfl (fun hc11 => ?_) (fun hc11 => ?_)
    ·simp only [beq_iff_eq] at hc11
     refine .seq ?_
     refine .region ?_
     refine .q (op_assign rfl) trivial rfl ?_
     refine .q (op_assign rfl) trivial rfl ?_
     refine .nil ?_
     show Ev _ _ _ _ _
     refine .ret ?_
     show RetOk _ _ _ _ _ _ _
     exact ret2v rfl (.inl rfl) rfl rfl (congrArg AV.str (by first | (subst k; rfl) | exact (fields_none (kAt_all hc5 hc7 hc9 hc11 hc13 hc15 hc17 hc19 hc21 hc23 hc25 hc27 hc29 hc31 hc33 hc35 hc37 hc39 hc41 hc43 hc45 hc47 hc49 hc51 hc53 hc55 hc57 hc59 hc61)).1)) (congrArg AV.bool (by first | (subst k; rfl) | exact (fields_none (kAt_all hc5 hc7 hc9 hc11 hc13 hc15 hc17 hc19 hc21 hc23 hc25 hc27 hc29 hc31 hc33 hc35 hc37 hc39 hc41 hc43 hc45 hc47 hc49 hc51 hc53 hc55 hc57 hc59 hc61)).2.1)) trivial
    ·simp only [ne_eq, beq_eq_false_iff_ne] at hc11
     refine .seq ?_
     refine .region ?_
     refine .q (op_cmpI rfl rfl rfl) trivial rfl ?_
     refine .q (op_assign rfl) trivial rfl ?_
     refine .nil ?_
     show Ev _ _ _ _ _
     refine .cond rfl (fun hc13 => ?_) (fun hc13 => ?_)
     ·simp only [beq_iff_eq] at hc13
      refine .seq ?_
      refine .region ?_
      refine .q (op_assign rfl) trivial rfl ?_
      refine .q (op_assign rfl) trivial rfl ?_
      refine .nil ?_
      show Ev _ _ _ _ _
      refine .ret ?_
      show RetOk _ _ _ _ _ _ _
      exact ret2v rfl (.inl rfl) rfl rfl (congrArg AV.str (by first | (subst k; rfl) | exact (fields_none (kAt_all hc5 hc7 hc9 hc11 hc13 hc15 hc17 hc19 hc21 hc23 hc25 hc27 hc29 hc31 hc33 hc35 hc37 hc39 hc41 hc43 hc45 hc47 hc49 hc51 hc53 hc55 hc57 hc59 hc61)).1)) (congrArg AV.bool (by first | (subst k; rfl) | exact (fields_none (kAt_all hc5 hc7 hc9 hc11 hc13 hc15 hc17 hc19 hc21 hc23 hc25 hc27 hc29 hc31 hc33 hc35 hc37 hc39 hc41 hc43 hc45 hc47 hc49 hc51 hc53 hc55 hc57 hc59 hc61)).2.1)) trivial
     ·simp only [ne_eq, beq_eq_false_iff_ne] at hc13
      refine .seq ?_
      refine .region ?_
      refine .q (op_cmpI rfl rfl rfl) trivial rfl ?_
      refine .q (op_assign rfl) trivial rfl ?_
      refine .nil ?_
      show Ev _ _ _ _ _
      refine .cond rfl (fun hc15 => ?_) (fun hc15 => ?_)
      ·simp only [beq_iff_eq] at hc15
       refine .seq ?_
       refine .region ?_
       refine .q (op_assign rfl) trivial rfl ?_
       refine .q (op_assign rfl) trivial rfl ?_
       refine .nil ?_
       show Ev _ _ _ _ _
       refine .ret ?_
       show RetOk _ _ _ _ _ _ _
       exact ret2v rfl (.inl rfl) rfl rfl (congrArg AV.str (by first | (subst k; rfl) | exact (fields_none (kAt_all hc5 hc7 hc9 hc11 hc13 hc15 hc17 hc19 hc21 hc23 hc25 hc27 hc29 hc31 hc33 hc35 hc37 hc39 hc41 hc43 hc45 hc47 hc49 hc51 hc53 hc55 hc57 hc59 hc61)).1)) (congrArg AV.bool (by first | (subst k; rfl) | exact (fields_none (kAt_all hc5 hc7 hc9 hc11 hc13 hc15 hc17 hc19 hc21 hc23 hc25 hc27 hc29 hc31 hc33 hc35 hc37 hc39 hc41 hc43 hc45 hc47 hc49 hc51 hc53 hc55 hc57 hc59 hc61)).2.1)) trivial
      ·simp only [ne_eq, beq_eq_false_iff_ne] at hc15
       refine .seq ?_
       refine .region ?_
       refine .q (op_cmpI rfl rfl rfl) trivial rfl ?_
       refine .q (op_assign rfl) trivial rfl ?_
       refine .nil ?_
       show Ev _ _ _ _ _
       refine .cond rfl (fun hc17 => ?_) (fun hc17 => ?_)
       ·simp only [beq_iff_eq] at hc17
        refine .seq ?_
        refine .region ?_
        refine .q (op_assign rfl) trivial rfl ?_
        refine .q (op_assign rfl) trivial rfl ?_
        refine .nil ?_
        show Ev _ _ _ _ _
        refine .ret ?_
        show RetOk _ _ _ _ _ _ _
        exact ret2v rfl (.inl rfl) rfl rfl (congrArg AV.str (by first | (subst k; rfl) | exact (fields_none (kAt_all hc5 hc7 hc9 hc11 hc13 hc15 hc17 hc19 hc21 hc23 hc25 hc27 hc29 hc31 hc33 hc35 hc37 hc39 hc41 hc43 hc45 hc47 hc49 hc51 hc53 hc55 hc57 hc59 hc61)).1)) (congrArg AV.bool (by first | (subst k; rfl) | exact (fields_none (kAt_all hc5 hc7 hc9 hc11 hc13 hc15 hc17 hc19 hc21 hc23 hc25 hc27 hc29 hc31 hc33 hc35 hc37 hc39 hc41 hc43 hc45 hc47 hc49 hc51 hc53 hc55 hc57 hc59 hc61)).2.1)) trivial
       ·simp only [ne_eq, beq_eq_false_iff_ne] at hc17
        refine .seq ?_
        refine .region ?_
        refine .q (op_cmpI rfl rfl rfl) trivial rfl ?_
        refine .q (op_assign rfl) trivial rfl ?_
        refine .nil ?_
        show Ev _ _ _ _ _
        refine .cond rfl (fun hc19 => ?_) (fun hc19 => ?_)
        ·simp only [beq_iff_eq] at hc19
         refine .seq ?_
         refine .region ?_
         refine .q (op_assign rfl) trivial rfl ?_
         refine .q (op_assign rfl) trivial rfl ?_
         refine .nil ?_
         show Ev _ _ _ _ _
         refine .ret ?_
         show RetOk _ _ _ _ _ _ _
         exact ret2v rfl (.inl rfl) rfl rfl (congrArg AV.str (by first | (subst k; rfl) | exact (fields_none (kAt_all hc5 hc7 hc9 hc11 hc13 hc15 hc17 hc19 hc21 hc23 hc25 hc27 hc29 hc31 hc33 hc35 hc37 hc39 hc41 hc43 hc45 hc47 hc49 hc51 hc53 hc55 hc57 hc59 hc61)).1)) (congrArg AV.bool (by first | (subst k; rfl) | exact (fields_none (kAt_all hc5 hc7 hc9 hc11 hc13 hc15 hc17 hc19 hc21 hc23 hc25 hc27 hc29 hc31 hc33 hc35 hc37 hc39 hc41 hc43 hc45 hc47 hc49 hc51 hc53 hc55 hc57 hc59 hc61)).2.1)) trivial
        ·simp only [ne_eq, beq_eq_false_iff_ne] at hc19
         refine .seq ?_
         refine .region ?_
         refine .q (op_cmpI rfl rfl rfl) trivial rfl ?_
         refine .q (op_assign rfl) trivial rfl ?_
         refine .nil ?_
         show Ev _ _ _ _ _
         refine .cond rfl (fun hc21 => ?_) (fun hc21 => ?_)
         ·simp only [beq_iff_eq] at hc21
          refine .seq ?_
          refine .region ?_
          refine .q (op_assign rfl) trivial rfl ?_
          refine .q (op_assign rfl) trivial rfl ?_
          refine .nil ?_
          show Ev _ _ _ _ _
          refine .ret ?_
          show RetOk _ _ _ _ _ _ _
          exact ret2v rfl (.inl rfl) rfl rfl (congrArg AV.str (by first | (subst k; rfl) | exact (fields_none (kAt_all hc5 hc7 hc9 hc11 hc13 hc15 hc17 hc19 hc21 hc23 hc25 hc27 hc29 hc31 hc33 hc35 hc37 hc39 hc41 hc43 hc45 hc47 hc49 hc51 hc53 hc55 hc57 hc59 hc61)).1)) (congrArg AV.bool (by first | (subst k; rfl) | exact (fields_none (kAt_all hc5 hc7 hc9 hc11 hc13 hc15 hc17 hc19 hc21 hc23 hc25 hc27 hc29 hc31 hc33 hc35 hc37 hc39 hc41 hc43 hc45 hc47 hc49 hc51 hc53 hc55 hc57 hc59 hc61)).2.1)) trivial
         ·simp only [ne_eq, beq_eq_false_iff_ne] at hc21
          refine .seq ?_
          refine .region ?_
          refine .q (op_cmpI rfl rfl rfl) trivial rfl ?_
          refine .q (op_assign rfl) trivial rfl ?_
          refine .nil ?_
          show Ev _ _ _ _ _
          refine .cond rfl (fun hc23 => ?_) (fun hc23 => ?_)
          ·simp only [beq_iff_eq] at hc23
           refine .seq ?_
           refine .region ?_
           refine .q (op_assign rfl) trivial rfl ?_
           refine .q (op_assign rfl) trivial rfl ?_
           refine .nil ?_
           show Ev _ _ _ _ _
           refine .ret ?_
           show RetOk _ _ _ _ _ _ _
           exact ret2v rfl (.inl rfl) rfl rfl (congrArg AV.str (by first | (subst k; rfl) | exact (fields_none (kAt_all hc5 hc7 hc9 hc11 hc13 hc15 hc17 hc19 hc21 hc23 hc25 hc27 hc29 hc31 hc33 hc35 hc37 hc39 hc41 hc43 hc45 hc47 hc49 hc51 hc53 hc55 hc57 hc59 hc61)).1)) (congrArg AV.bool (by first | (subst k; rfl) | exact (fields_none (kAt_all hc5 hc7 hc9 hc11 hc13 hc15 hc17 hc19 hc21 hc23 hc25 hc27 hc29 hc31 hc33 hc35 hc37 hc39 hc41 hc43 hc45 hc47 hc49 hc51 hc53 hc55 hc57 hc59 hc61)).2.1)) trivial
          ·simp only [ne_eq, beq_eq_false_iff_ne] at hc23
           refine .seq ?_
           refine .region ?_
           refine .q (op_cmpI rfl rfl rfl) trivial rfl ?_
           refine .q (op_assign rfl) trivial rfl ?_
           refine .nil ?_
           show Ev _ _ _ _ _
           refine .cond rfl (fun hc25 => ?_) (fun hc25 => ?_)
           ·simp only [beq_iff_eq] at hc25
            refine .seq ?_
            refine .region ?_
            refine .q (op_assign rfl) trivial rfl ?_
            refine .q (op_assign rfl) trivial rfl ?_
            refine .nil ?_
            show Ev _ _ _ _ _
            refine .ret ?_
            show RetOk _ _ _ _ _ _ _
            exact ret2v rfl (.inl rfl) rfl rfl (congrArg AV.str (by first | (subst k; rfl) | exact (fields_none (kAt_all hc5 hc7 hc9 hc11 hc13 hc15 hc17 hc19 hc21 hc23 hc25 hc27 hc29 hc31 hc33 hc35 hc37 hc39 hc41 hc43 hc45 hc47 hc49 hc51 hc53 hc55 hc57 hc59 hc61)).1)) (congrArg AV.bool (by first | (subst k; rfl) | exact (fields_none (kAt_all hc5 hc7 hc9 hc11 hc13 hc15 hc17 hc19 hc21 hc23 hc25 hc27 hc29 hc31 hc33 hc35 hc37 hc39 hc41 hc43 hc45 hc47 hc49 hc51 hc53 hc55 hc57 hc59 hc61)).2.1)) trivial
           ·simp only [ne_eq, beq_eq_false_iff_ne] at hc25
            refine .seq ?_
            refine .region ?_
            refine .q (op_cmpI rfl rfl rfl) trivial rfl ?_
            refine .q (op_assign rfl) trivial rfl ?_
            refine .nil ?_
            show Ev _ _ _ _ _
            refine .cond rfl (fun hc27 => ?_) (fun hc27 => ?_)
            ·simp only [beq_iff_eq] at hc27
             refine .seq ?_
             refine .region ?_
             refine .q (op_assign rfl) trivial rfl ?_
             refine .q (op_assign rfl) trivial rfl ?_
             refine .nil ?_
             show Ev _ _ _ _ _
             refine .ret ?_
             show RetOk _ _ _ _ _ _ _
             exact ret2v rfl (.inl rfl) rfl rfl (congrArg AV.str (by first | (subst k; rfl) | exact (fields_none (kAt_all hc5 hc7 hc9 hc11 hc13 hc15 hc17 hc19 hc21 hc23 hc25 hc27 hc29 hc31 hc33 hc35 hc37 hc39 hc41 hc43 hc45 hc47 hc49 hc51 hc53 hc55 hc57 hc59 hc61)).1)) (congrArg AV.bool (by first | (subst k; rfl) | exact (fields_none (kAt_all hc5 hc7 hc9 hc11 hc13 hc15 hc17 hc19 hc21 hc23 hc25 hc27 hc29 hc31 hc33 hc35 hc37 hc39 hc41 hc43 hc45 hc47 hc49 hc51 hc53 hc55 hc57 hc59 hc61)).2.1)) trivial
            ·simp only [ne_eq, beq_eq_false_iff_ne] at hc27
             refine .seq ?_
             refine .region ?_
             refine .q (op_cmpI rfl rfl rfl) trivial rfl ?_
             refine .q (op_assign rfl) trivial rfl ?_
             refine .nil ?_
             show Ev _ _ _ _ _
             refine .cond rfl (fun hc29 => ?_) (fun hc29 => ?_)
             ·simp only [beq_iff_eq] at hc29
              refine .seq ?_
              refine .region ?_
              refine .q (op_assign rfl) trivial rfl ?_
              refine .q (op_assign rfl) trivial rfl ?_
              refine .nil ?_
              show Ev _ _ _ _ _
              refine .ret ?_
              show RetOk _ _ _ _ _ _ _
              exact ret2v rfl (.inl rfl) rfl rfl (congrArg AV.str (by first | (subst k; rfl) | exact (fields_none (kAt_all hc5 hc7 hc9 hc11 hc13 hc15 hc17 hc19 hc21 hc23 hc25 hc27 hc29 hc31 hc33 hc35 hc37 hc39 hc41 hc43 hc45 hc47 hc49 hc51 hc53 hc55 hc57 hc59 hc61)).1)) (congrArg AV.bool (by first | (subst k; rfl) | exact (fields_none (kAt_all hc5 hc7 hc9 hc11 hc13 hc15 hc17 hc19 hc21 hc23 hc25 hc27 hc29 hc31 hc33 hc35 hc37 hc39 hc41 hc43 hc45 hc47 hc49 hc51 hc53 hc55 hc57 hc59 hc61)).2.1)) trivial
             ·simp only [ne_eq, beq_eq_false_iff_ne] at hc29
              refine .seq ?_
              refine .region ?_
              refine .q (op_cmpI rfl rfl rfl) trivial rfl ?_
              refine .q (op_assign rfl) trivial rfl ?_
              refine .nil ?_
              show Ev _ _ _ _ _
              refine .cond rfl (fun hc31 => ?_) (fun hc31 => ?_)
              ·simp only [beq_iff_eq] at hc31
               refine .seq ?_
               refine .region ?_
               refine .q (op_assign rfl) trivial rfl ?_
               refine .q (op_assign rfl) trivial rfl ?_
               refine .nil ?_
               show Ev _ _ _ _ _
               refine .ret ?_
               show RetOk _ _ _ _ _ _ _
               exact ret2v rfl (.inl rfl) rfl rfl (congrArg AV.str (by first | (subst k; rfl) | exact (fields_none (kAt_all hc5 hc7 hc9 hc11 hc13 hc15 hc17 hc19 hc21 hc23 hc25 hc27 hc29 hc31 hc33 hc35 hc37 hc39 hc41 hc43 hc45 hc47 hc49 hc51 hc53 hc55 hc57 hc59 hc61)).1)) (congrArg AV.bool (by first | (subst k; rfl) | exact (fields_none (kAt_all hc5 hc7 hc9 hc11 hc13 hc15 hc17 hc19 hc21 hc23 hc25 hc27 hc29 hc31 hc33 hc35 hc37 hc39 hc41 hc43 hc45 hc47 hc49 hc51 hc53 hc55 hc57 hc59 hc61)).2.1)) trivial
              ·simp only [ne_eq, beq_eq_false_iff_ne] at hc31
               refine .seq ?_
               refine .region ?_
               refine .q (op_cmpI rfl rfl rfl) trivial rfl ?_
               refine .q (op_assign rfl) trivial rfl ?_
               refine .nil ?_
               show Ev _ _ _ _ _
               refine .cond rfl (fun hc33 => ?_) (fun hc33 => ?_)
               ·simp only [beq_iff_eq] at hc33
                refine .seq ?_
                refine .region ?_
                refine .q (op_assign rfl) trivial rfl ?_
                refine .q (op_assign rfl) trivial rfl ?_
                refine .nil ?_
                show Ev _ _ _ _ _
                refine .ret ?_
                show RetOk _ _ _ _ _ _ _
                exact ret2v rfl (.inl rfl) rfl rfl (congrArg AV.str (by first | (subst k; rfl) | exact (fields_none (kAt_all hc5 hc7 hc9 hc11 hc13 hc15 hc17 hc19 hc21 hc23 hc25 hc27 hc29 hc31 hc33 hc35 hc37 hc39 hc41 hc43 hc45 hc47 hc49 hc51 hc53 hc55 hc57 hc59 hc61)).1)) (congrArg AV.bool (by first | (subst k; rfl) | exact (fields_none (kAt_all hc5 hc7 hc9 hc11 hc13 hc15 hc17 hc19 hc21 hc23 hc25 hc27 hc29 hc31 hc33 hc35 hc37 hc39 hc41 hc43 hc45 hc47 hc49 hc51 hc53 hc55 hc57 hc59 hc61)).2.1)) trivial
               ·simp only [ne_eq, beq_eq_false_iff_ne] at hc33
                refine .seq ?_
                refine .region ?_
                refine .q (op_cmpI rfl rfl rfl) trivial rfl ?_
                refine .q (op_assign rfl) trivial rfl ?_
                refine .nil ?_
                show Ev _ _ _ _ _
                refine .cond rfl (fun hc35 => ?_) (fun hc35 => ?_)
                ·simp only [beq_iff_eq] at hc35
                 refine .seq ?_
                 refine .region ?_
                 refine .q (op_assign rfl) trivial rfl ?_
                 refine .q (op_assign rfl) trivial rfl ?_
                 refine .nil ?_
                 show Ev _ _ _ _ _
                 refine .ret ?_
                 show RetOk _ _ _ _ _ _ _
                 exact ret2v rfl (.inl rfl) rfl rfl (congrArg AV.str (by first | (subst k; rfl) | exact (fields_none (kAt_all hc5 hc7 hc9 hc11 hc13 hc15 hc17 hc19 hc21 hc23 hc25 hc27 hc29 hc31 hc33 hc35 hc37 hc39 hc41 hc43 hc45 hc47 hc49 hc51 hc53 hc55 hc57 hc59 hc61)).1)) (congrArg AV.bool (by first | (subst k; rfl) | exact (fields_none (kAt_all hc5 hc7 hc9 hc11 hc13 hc15 hc17 hc19 hc21 hc23 hc25 hc27 hc29 hc31 hc33 hc35 hc37 hc39 hc41 hc43 hc45 hc47 hc49 hc51 hc53 hc55 hc57 hc59 hc61)).2.1)) trivial
                ·simp only [ne_eq, beq_eq_false_iff_ne] at hc35
                 refine .seq ?_
                 refine .region ?_
                 refine .q (op_cmpI rfl rfl rfl) trivial rfl ?_
                 refine .q (op_assign rfl) trivial rfl ?_
                 refine .nil ?_
                 show Ev _ _ _ _ _
                 refine .cond rfl (fun hc37 => ?_) (fun hc37 => ?_)
                 ·simp only [beq_iff_eq] at hc37
                  refine .seq ?_
                  refine .region ?_
                  refine .q (op_assign rfl) trivial rfl ?_
                  refine .q (op_assign rfl) trivial rfl ?_
                  refine .nil ?_
                  show Ev _ _ _ _ _
                  refine .ret ?_
                  show RetOk _ _ _ _ _ _ _
                  exact ret2v rfl (.inl rfl) rfl rfl (congrArg AV.str (by first | (subst k; rfl) | exact (fields_none (kAt_all hc5 hc7 hc9 hc11 hc13 hc15 hc17 hc19 hc21 hc23 hc25 hc27 hc29 hc31 hc33 hc35 hc37 hc39 hc41 hc43 hc45 hc47 hc49 hc51 hc53 hc55 hc57 hc59 hc61)).1)) (congrArg AV.bool (by first | (subst k; rfl) | exact (fields_none (kAt_all hc5 hc7 hc9 hc11 hc13 hc15 hc17 hc19 hc21 hc23 hc25 hc27 hc29 hc31 hc33 hc35 hc37 hc39 hc41 hc43 hc45 hc47 hc49 hc51 hc53 hc55 hc57 hc59 hc61)).2.1)) trivial
                 ·simp only [ne_eq, beq_eq_false_iff_ne] at hc37
                  refine .seq ?_
                  refine .region ?_
                  refine .q (op_cmpI rfl rfl rfl) trivial rfl ?_
                  refine .q (op_assign rfl) trivial rfl ?_
                  refine .nil ?_
                  show Ev _ _ _ _ _
                  refine .cond rfl (fun hc39 => ?_) (fun hc39 => ?_)
                  ·simp only [beq_iff_eq] at hc39
                   refine .seq ?_
                   refine .region ?_
                   refine .q (op_assign rfl) trivial rfl ?_
                   refine .q (op_assign rfl) trivial rfl ?_
                   refine .nil ?_
                   show Ev _ _ _ _ _
                   refine .ret ?_
                   show RetOk _ _ _ _ _ _ _
                   exact ret2v rfl (.inl rfl) rfl rfl (congrArg AV.str (by first | (subst k; rfl) | exact (fields_none (kAt_all hc5 hc7 hc9 hc11 hc13 hc15 hc17 hc19 hc21 hc23 hc25 hc27 hc29 hc31 hc33 hc35 hc37 hc39 hc41 hc43 hc45 hc47 hc49 hc51 hc53 hc55 hc57 hc59 hc61)).1)) (congrArg AV.bool (by first | (subst k; rfl) | exact (fields_none (kAt_all hc5 hc7 hc9 hc11 hc13 hc15 hc17 hc19 hc21 hc23 hc25 hc27 hc29 hc31 hc33 hc35 hc37 hc39 hc41 hc43 hc45 hc47 hc49 hc51 hc53 hc55 hc57 hc59 hc61)).2.1)) trivial
                  ·simp only [ne_eq, beq_eq_false_iff_ne] at hc39
                   refine .seq ?_
                   refine .region ?_
                   refine .q (op_cmpI rfl rfl rfl) trivial rfl ?_
                   refine .q (op_assign rfl) trivial rfl ?_
                   refine .nil ?_
                   show Ev _ _ _ _ _
                   refine .cond rfl (fun hc41 => ?_) (fun hc41 => ?_)
                   ·simp only [beq_iff_eq] at hc41
                    refine .seq ?_
                    refine .region ?_
                    refine .q (op_assign rfl) trivial rfl ?_
                    refine .q (op_assign rfl) trivial rfl ?_
                    refine .nil ?_
                    show Ev _ _ _ _ _
                    refine .ret ?_
                    show RetOk _ _ _ _ _ _ _
                    exact ret2v rfl (.inl rfl) rfl rfl (congrArg AV.str (by first | (subst k; rfl) | exact (fields_none (kAt_all hc5 hc7 hc9 hc11 hc13 hc15 hc17 hc19 hc21 hc23 hc25 hc27 hc29 hc31 hc33 hc35 hc37 hc39 hc41 hc43 hc45 hc47 hc49 hc51 hc53 hc55 hc57 hc59 hc61)).1)) (congrArg AV.bool (by first | (subst k; rfl) | exact (fields_none (kAt_all hc5 hc7 hc9 hc11 hc13 hc15 hc17 hc19 hc21 hc23 hc25 hc27 hc29 hc31 hc33 hc35 hc37 hc39 hc41 hc43 hc45 hc47 hc49 hc51 hc53 hc55 hc57 hc59 hc61)).2.1)) trivial
                   ·simp only [ne_eq, beq_eq_false_iff_ne] at hc41
                    refine .seq ?_
                    refine .region ?_
                    refine .q (op_cmpI rfl rfl rfl) trivial rfl ?_
                    refine .q (op_assign rfl) trivial rfl ?_
                    refine .nil ?_
                    show Ev _ _ _ _ _
                    refine .cond rfl (fun hc43 => ?_) (fun hc43 => ?_)
                    ·simp only [beq_iff_eq] at hc43
                     refine .seq ?_
                     refine .region ?_
                     refine .q (op_assign rfl) trivial rfl ?_
                     refine .q (op_assign rfl) trivial rfl ?_
                     refine .nil ?_
                     show Ev _ _ _ _ _
                     refine .ret ?_
                     show RetOk _ _ _ _ _ _ _
                     exact ret2v rfl (.inl rfl) rfl rfl (congrArg AV.str (by first | (subst k; rfl) | exact (fields_none (kAt_all hc5 hc7 hc9 hc11 hc13 hc15 hc17 hc19 hc21 hc23 hc25 hc27 hc29 hc31 hc33 hc35 hc37 hc39 hc41 hc43 hc45 hc47 hc49 hc51 hc53 hc55 hc57 hc59 hc61)).1)) (congrArg AV.bool (by first | (subst k; rfl) | exact (fields_none (kAt_all hc5 hc7 hc9 hc11 hc13 hc15 hc17 hc19 hc21 hc23 hc25 hc27 hc29 hc31 hc33 hc35 hc37 hc39 hc41 hc43 hc45 hc47 hc49 hc51 hc53 hc55 hc57 hc59 hc61)).2.1)) trivial
                    ·simp only [ne_eq, beq_eq_false_iff_ne] at hc43
                     refine .seq ?_
                     refine .region ?_
                     refine .q (op_cmpI rfl rfl rfl) trivial rfl ?_
                     refine .q (op_assign rfl) trivial rfl ?_
                     refine .nil ?_
                     show Ev _ _ _ _ _
                     refine .cond rfl (fun hc45 => ?_) (fun hc45 => ?_)
                     ·simp only [beq_iff_eq] at hc45
                      refine .seq ?_
                      refine .region ?_
                      refine .q (op_assign rfl) trivial rfl ?_
                      refine .q (op_assign rfl) trivial rfl ?_
                      refine .nil ?_
                      show Ev _ _ _ _ _
                      refine .ret ?_
                      show RetOk _ _ _ _ _ _ _
                      exact ret2v rfl (.inl rfl) rfl rfl (congrArg AV.str (by first | (subst k; rfl) | exact (fields_none (kAt_all hc5 hc7 hc9 hc11 hc13 hc15 hc17 hc19 hc21 hc23 hc25 hc27 hc29 hc31 hc33 hc35 hc37 hc39 hc41 hc43 hc45 hc47 hc49 hc51 hc53 hc55 hc57 hc59 hc61)).1)) (congrArg AV.bool (by first | (subst k; rfl) | exact (fields_none (kAt_all hc5 hc7 hc9 hc11 hc13 hc15 hc17 hc19 hc21 hc23 hc25 hc27 hc29 hc31 hc33 hc35 hc37 hc39 hc41 hc43 hc45 hc47 hc49 hc51 hc53 hc55 hc57 hc59 hc61)).2.1)) trivial
                     ·simp only [ne_eq, beq_eq_false_iff_ne] at hc45
                      refine .seq ?_
                      refine .region ?_
                      refine .q (op_cmpI rfl rfl rfl) trivial rfl ?_
                      refine .q (op_assign rfl) trivial rfl ?_
                      refine .nil ?_
                      show Ev _ _ _ _ _
                      refine .cond rfl (fun hc47 => ?_) (fun hc47 => ?_)
                      ·simp only [beq_iff_eq] at hc47
                       refine .seq ?_
                       refine .region ?_
                       refine .q (op_assign rfl) trivial rfl ?_
                       refine .q (op_assign rfl) trivial rfl ?_
                       refine .nil ?_
                       show Ev _ _ _ _ _
                       refine .ret ?_
                       show RetOk _ _ _ _ _ _ _
                       exact ret2v rfl (.inl rfl) rfl rfl (congrArg AV.str (by first | (subst k; rfl) | exact (fields_none (kAt_all hc5 hc7 hc9 hc11 hc13 hc15 hc17 hc19 hc21 hc23 hc25 hc27 hc29 hc31 hc33 hc35 hc37 hc39 hc41 hc43 hc45 hc47 hc49 hc51 hc53 hc55 hc57 hc59 hc61)).1)) (congrArg AV.bool (by first | (subst k; rfl) | exact (fields_none (kAt_all hc5 hc7 hc9 hc11 hc13 hc15 hc17 hc19 hc21 hc23 hc25 hc27 hc29 hc31 hc33 hc35 hc37 hc39 hc41 hc43 hc45 hc47 hc49 hc51 hc53 hc55 hc57 hc59 hc61)).2.1)) trivial
                      ·simp only [ne_eq, beq_eq_false_iff_ne] at hc47
                       refine .seq ?_
                       refine .region ?_
                       refine .q (op_cmpI rfl rfl rfl) trivial rfl ?_
                       refine .q (op_assign rfl) trivial rfl ?_
                       refine .nil ?_
                       show Ev _ _ _ _ _
                       refine .cond rfl (fun hc49 => ?_) (fun hc49 => ?_)
                       ·simp only [beq_iff_eq] at hc49
                        refine .seq ?_
                        refine .region ?_
                        refine .q (op_assign rfl) trivial rfl ?_
                        refine .q (op_assign rfl) trivial rfl ?_
                        refine .nil ?_
                        show Ev _ _ _ _ _
                        refine .ret ?_
                        show RetOk _ _ _ _ _ _ _
                        exact ret2v rfl (.inl rfl) rfl rfl (congrArg AV.str (by first | (subst k; rfl) | exact (fields_none (kAt_all hc5 hc7 hc9 hc11 hc13 hc15 hc17 hc19 hc21 hc23 hc25 hc27 hc29 hc31 hc33 hc35 hc37 hc39 hc41 hc43 hc45 hc47 hc49 hc51 hc53 hc55 hc57 hc59 hc61)).1)) (congrArg AV.bool (by first | (subst k; rfl) | exact (fields_none (kAt_all hc5 hc7 hc9 hc11 hc13 hc15 hc17 hc19 hc21 hc23 hc25 hc27 hc29 hc31 hc33 hc35 hc37 hc39 hc41 hc43 hc45 hc47 hc49 hc51 hc53 hc55 hc57 hc59 hc61)).2.1)) trivial
                       ·simp only [ne_eq, beq_eq_false_iff_ne] at hc49
                        refine .seq ?_
                        refine .region ?_
                        refine .q (op_cmpI rfl rfl rfl) trivial rfl ?_
                        refine .q (op_assign rfl) trivial rfl ?_
                        refine .nil ?_
                        show Ev _ _ _ _ _
                        refine .cond rfl (fun hc51 => ?_) (fun hc51 => ?_)
                        ·simp only [beq_iff_eq] at hc51
                         refine .seq ?_
                         refine .region ?_
                         refine .q (op_assign rfl) trivial rfl ?_
                         refine .q (op_assign rfl) trivial rfl ?_
                         refine .nil ?_
                         show Ev _ _ _ _ _
                         refine .ret ?_
                         show RetOk _ _ _ _ _ _ _
                         exact ret2v rfl (.inl rfl) rfl rfl (congrArg AV.str (by first | (subst k; rfl) | exact (fields_none (kAt_all hc5 hc7 hc9 hc11 hc13 hc15 hc17 hc19 hc21 hc23 hc25 hc27 hc29 hc31 hc33 hc35 hc37 hc39 hc41 hc43 hc45 hc47 hc49 hc51 hc53 hc55 hc57 hc59 hc61)).1)) (congrArg AV.bool (by first | (subst k; rfl) | exact (fields_none (kAt_all hc5 hc7 hc9 hc11 hc13 hc15 hc17 hc19 hc21 hc23 hc25 hc27 hc29 hc31 hc33 hc35 hc37 hc39 hc41 hc43 hc45 hc47 hc49 hc51 hc53 hc55 hc57 hc59 hc61)).2.1)) trivial
                        ·simp only [ne_eq, beq_eq_false_iff_ne] at hc51
                         refine .seq ?_
                         refine .region ?_
                         refine .q (op_cmpI rfl rfl rfl) trivial rfl ?_
                         refine .q (op_assign rfl) trivial rfl ?_
                         refine .nil ?_
                         show Ev _ _ _ _ _
                         refine .cond rfl (fun hc53 => ?_) (fun hc53 => ?_)
                         ·simp only [beq_iff_eq] at hc53
                          refine .seq ?_
                          refine .region ?_
                          refine .q (op_assign rfl) trivial rfl ?_
                          refine .q (op_assign rfl) trivial rfl ?_
                          refine .nil ?_
                          show Ev _ _ _ _ _
                          refine .ret ?_
                          show RetOk _ _ _ _ _ _ _
                          exact ret2v rfl (.inl rfl) rfl rfl (congrArg AV.str (by first | (subst k; rfl) | exact (fields_none (kAt_all hc5 hc7 hc9 hc11 hc13 hc15 hc17 hc19 hc21 hc23 hc25 hc27 hc29 hc31 hc33 hc35 hc37 hc39 hc41 hc43 hc45 hc47 hc49 hc51 hc53 hc55 hc57 hc59 hc61)).1)) (congrArg AV.bool (by first | (subst k; rfl) | exact (fields_none (kAt_all hc5 hc7 hc9 hc11 hc13 hc15 hc17 hc19 hc21 hc23 hc25 hc27 hc29 hc31 hc33 hc35 hc37 hc39 hc41 hc43 hc45 hc47 hc49 hc51 hc53 hc55 hc57 hc59 hc61)).2.1)) trivial
                         ·simp only [ne_eq, beq_eq_false_iff_ne] at hc53
                          refine .seq ?_
                          refine .region ?_
                          refine .q (op_cmpI rfl rfl rfl) trivial rfl ?_
                          refine .q (op_assign rfl) trivial rfl ?_
                          refine .nil ?_
                          show Ev _ _ _ _ _
                          refine .cond rfl (fun hc55 => ?_) (fun hc55 => ?_)
                          ·simp only [beq_iff_eq] at hc55
                           refine .seq ?_
                           refine .region ?_
                           refine .q (op_assign rfl) trivial rfl ?_
                           refine .q (op_assign rfl) trivial rfl ?_
                           refine .nil ?_
                           show Ev _ _ _ _ _
                           refine .ret ?_
                           show RetOk _ _ _ _ _ _ _
                           exact ret2v rfl (.inl rfl) rfl rfl (congrArg AV.str (by first | (subst k; rfl) | exact (fields_none (kAt_all hc5 hc7 hc9 hc11 hc13 hc15 hc17 hc19 hc21 hc23 hc25 hc27 hc29 hc31 hc33 hc35 hc37 hc39 hc41 hc43 hc45 hc47 hc49 hc51 hc53 hc55 hc57 hc59 hc61)).1)) (congrArg AV.bool (by first | (subst k; rfl) | exact (fields_none (kAt_all hc5 hc7 hc9 hc11 hc13 hc15 hc17 hc19 hc21 hc23 hc25 hc27 hc29 hc31 hc33 hc35 hc37 hc39 hc41 hc43 hc45 hc47 hc49 hc51 hc53 hc55 hc57 hc59 hc61)).2.1)) trivial
                          ·simp only [ne_eq, beq_eq_false_iff_ne] at hc55
                           refine .seq ?_
                           refine .region ?_
                           refine .q (op_cmpI rfl rfl rfl) trivial rfl ?_
                           refine .q (op_assign rfl) trivial rfl ?_
                           refine .nil ?_
                           show Ev _ _ _ _ _
                           refine .cond rfl (fun hc57 => ?_) (fun hc57 => ?_)
                           ·simp only [beq_iff_eq] at hc57
                            refine .seq ?_
                            refine .region ?_
                            refine .q (op_assign rfl) trivial rfl ?_
                            refine .q (op_assign rfl) trivial rfl ?_
                            refine .nil ?_
                            show Ev _ _ _ _ _
                            refine .ret ?_
                            show RetOk _ _ _ _ _ _ _
                            exact ret2v rfl (.inl rfl) rfl rfl (congrArg AV.str (by first | (subst k; rfl) | exact (fields_none (kAt_all hc5 hc7 hc9 hc11 hc13 hc15 hc17 hc19 hc21 hc23 hc25 hc27 hc29 hc31 hc33 hc35 hc37 hc39 hc41 hc43 hc45 hc47 hc49 hc51 hc53 hc55 hc57 hc59 hc61)).1)) (congrArg AV.bool (by first | (subst k; rfl) | exact (fields_none (kAt_all hc5 hc7 hc9 hc11 hc13 hc15 hc17 hc19 hc21 hc23 hc25 hc27 hc29 hc31 hc33 hc35 hc37 hc39 hc41 hc43 hc45 hc47 hc49 hc51 hc53 hc55 hc57 hc59 hc61)).2.1)) trivial
                           ·simp only [ne_eq, beq_eq_false_iff_ne] at hc57
                            refine .seq ?_
                            refine .region ?_
                            refine .q (op_cmpI rfl rfl rfl) trivial rfl ?_
                            refine .q (op_assign rfl) trivial rfl ?_
                            refine .nil ?_
                            show Ev _ _ _ _ _
                            refine .cond rfl (fun hc59 => ?_) (fun hc59 => ?_)
                            ·simp only [beq_iff_eq] at hc59
                             refine .seq ?_
                             refine .region ?_
                             refine .q (op_assign rfl) trivial rfl ?_
                             refine .q (op_assign rfl) trivial rfl ?_
                             refine .nil ?_
                             show Ev _ _ _ _ _
                             refine .ret ?_
                             show RetOk _ _ _ _ _ _ _
                             exact ret2v rfl (.inl rfl) rfl rfl (congrArg AV.str (by first | (subst k; rfl) | exact (fields_none (kAt_all hc5 hc7 hc9 hc11 hc13 hc15 hc17 hc19 hc21 hc23 hc25 hc27 hc29 hc31 hc33 hc35 hc37 hc39 hc41 hc43 hc45 hc47 hc49 hc51 hc53 hc55 hc57 hc59 hc61)).1)) (congrArg AV.bool (by first | (subst k; rfl) | exact (fields_none (kAt_all hc5 hc7 hc9 hc11 hc13 hc15 hc17 hc19 hc21 hc23 hc25 hc27 hc29 hc31 hc33 hc35 hc37 hc39 hc41 hc43 hc45 hc47 hc49 hc51 hc53 hc55 hc57 hc59 hc61)).2.1)) trivial
                            ·simp only [ne_eq, beq_eq_false_iff_ne] at hc59
                             refine .seq ?_
                             refine .region ?_
                             refine .q (op_cmpI rfl rfl rfl) trivial rfl ?_
                             refine .q (op_assign rfl) trivial rfl ?_
                             refine .nil ?_
                             show Ev _ _ _ _ _
                             refine .cond rfl (fun hc61 => ?_) (fun hc61 => ?_)
                             ·simp only [beq_iff_eq] at hc61
                              refine .seq ?_
                              refine .region ?_
                              refine .q (op_assign rfl) trivial rfl ?_
                              refine .q (op_assign rfl) trivial rfl ?_
                              refine .nil ?_
                              show Ev _ _ _ _ _
                              refine .ret ?_
                              show RetOk _ _ _ _ _ _ _
                              exact ret2v rfl (.inl rfl) rfl rfl (congrArg AV.str (by first | (subst k; rfl) | exact (fields_none (kAt_all hc5 hc7 hc9 hc11 hc13 hc15 hc17 hc19 hc21 hc23 hc25 hc27 hc29 hc31 hc33 hc35 hc37 hc39 hc41 hc43 hc45 hc47 hc49 hc51 hc53 hc55 hc57 hc59 hc61)).1)) (congrArg AV.bool (by first | (subst k; rfl) | exact (fields_none (kAt_all hc5 hc7 hc9 hc11 hc13 hc15 hc17 hc19 hc21 hc23 hc25 hc27 hc29 hc31 hc33 hc35 hc37 hc39 hc41 hc43 hc45 hc47 hc49 hc51 hc53 hc55 hc57 hc59 hc61)).2.1)) trivial
                             ·simp only [ne_eq, beq_eq_false_iff_ne] at hc61
                              refine .skip ?_
                              show Ev _ _ _ _ _
                              refine .seq ?_
                              refine .region ?_
                              refine .q (op_assign rfl) trivial rfl ?_
                              refine .q (op_assign rfl) trivial rfl ?_
                              refine .nil ?_
                              show Ev _ _ _ _ _
                              refine .ret ?_
                              show RetOk _ _ _ _ _ _ _
                              exact ret2v rfl (.inl rfl) rfl rfl (congrArg AV.str (by first | (subst k; rfl) | exact (fields_none (kAt_all hc5 hc7 hc9 hc11 hc13 hc15 hc17 hc19 hc21 hc23 hc25 hc27 hc29 hc31 hc33 hc35 hc37 hc39 hc41 hc43 hc45 hc47 hc49 hc51 hc53 hc55 hc57 hc59 hc61)).1)) (congrArg AV.bool (by first | (subst k; rfl) | exact (fields_none (kAt_all hc5 hc7 hc9 hc11 hc13 hc15 hc17 hc19 hc21 hc23 hc25 hc27 hc29 hc31 hc33 hc35 hc37 hc39 hc41 hc43 hc45 hc47 hc49 hc51 hc53 hc55 hc57 hc59 hc61)).2.1)) trivial
end Go.Proofs.YtenocbhlbgcnfaaDoor
namespace Go.Proofs.YtenocbhlbgcnfaaDoor
open Go.RowKit
def cntL (letters : List UInt8) : List UInt8 → Nat
  | [] => 0
  | c :: l => letters.count c + cntL letters l
theorem cntL_append (x a b : List UInt8) : cntL x (a ++ b) = cntL x a + cntL x b := by
  induction a with
  | nil => simp [cntL]
  | cons c a ih => simp [cntL, ih, Nat.add_assoc]
theorem cntL_le (x l : List UInt8) (h : x.length ≤ 10) : cntL x l ≤ 10 * l.length := by
  induction l with
  | nil => simp [cntL]
  | cons c l ih =>
    have := List.count_le_length (a := c) (l := x)
    simp only [cntL, List.length_cons]; omega
theorem cnt_step (x l : List UInt8) {j : Nat} (hj : j < l.length) : ((cntL x (l.take (j + 1)) : Nat) : Int) = ((cntL x (l.take j) : Nat) : Int) + ((x.count (l.getD j 0) : Nat) : Int) := by
  rw [List.take_add_one, List.getElem?_eq_getElem hj, cntL_append]
  simp [cntL, List.getD_eq_getElem?_getD, hj]
def bigS (s : List UInt8) : Bool := decide ((32768 : Int) < (s.length : Int))
theorem any_step {ss : List (List UInt8)} {j : Nat} (hj : j < ss.length) (hq : (ss.take j).any bigS = false) (h : bigS (ss.getD j []) = false) : (ss.take (j + 1)).any bigS = false := by
  rw [List.take_add_one, List.getElem?_eq_getElem hj]
  simp only [Option.toList_some, List.any_append, hq, Bool.false_or, List.any_cons, List.any_nil, Bool.or_false]
  rw [show ss[j] = ss.getD j [] by simp [List.getD_eq_getElem?_getD, hj], h]
theorem any_hit {ss : List (List UInt8)} {j : Nat} (hj : j < ss.length) (h : bigS (ss.getD j []) = true) : ss.any bigS = true := by
  rw [List.any_eq_true]
  refine ⟨ss[j], List.getElem_mem hj, ?_⟩
  rw [show ss[j] = ss.getD j [] by simp [List.getD_eq_getElem?_getD, hj], h]
theorem any_all {ss : List (List UInt8)} {j : Nat} (hj : ss.length ≤ j) (hq : (ss.take j).any bigS = false) : ss.any bigS = false := by rwa [List.take_of_length_le hj] at hq
theorem fields_len (k : Int) : (fieldsOf k).length ≤ 100 := by
  have h : ∀ n, (kFields.getD n []).length ≤ 100 := fun n => by
    rcases Nat.lt_or_ge n 29 with hn | hn
    · exact (show ∀ n, n < 29 → (kFields.getD n []).length ≤ 100 by decide) n hn
    · rw [List.getD_eq_getElem?_getD, List.getElem?_eq_none (by exact hn)]; simp
  unfold fieldsOf
  split
  · exact h _
  · simp
set_option maxRecDepth 100000 in
theorem contains_ev (s : List UInt8) (c : UInt8) : Meets Tryd.prog 36 [.str s, .str [c]] [] (.bool (decide (0 ≤ Lib.indexByte s c))) [] := by
 refine meets_of_ev (nt := 9) Tryd.func36 rfl rfl (Nat.le_of_ble_eq_true rfl) ?_
 refine .seq ?_
 refine .region ?_
 refine .q (op_assign rfl) trivial rfl ?_
 refine .nil ?_
 show Ev _ _ _ _ _
 refine .seq ?_
 refine .region ?_
 refine .q (op_move rfl) trivial rfl ?_
 refine .q (op_move rfl) trivial rfl ?_
 refine .q (op_call (U := []) [] [] (index_ev s c) Tryd.func59 (by kernel_rfl) rfl rfl rfl (⟨⟨_, rfl, rfl, rfl⟩, ⟨_, rfl, rfl, rfl⟩, trivial⟩) (trivial) (trivial) (trivial) rfl) trivial rfl ?_
 refine .q (op_cmpI rfl rfl rfl) trivial rfl ?_
 refine .q (op_assign rfl) trivial rfl ?_
 refine .nil ?_
 show Ev _ _ _ _ _
 refine .ret ?_
 show RetOk _ _ _ _ _ _ _
 exact ret1v rfl (.inl rfl) rfl (rfl) trivial
theorem slice_one {l : List UInt8} {j : Nat} (hj : j < l.length) : (l.drop j).take (j + 1 - j) = [l.getD j 0] := by
 rw [show j + 1 - j = 1 by omega, List.drop_eq_getElem_cons hj, List.take_succ_cons, List.take_zero]
 simp [List.getD_eq_getElem?_getD, hj]
set_option maxRecDepth 100000 in
theorem cnt_ev (x fields : List UInt8) (hx : x.length ≤ 10) (hf : fields.length ≤ 100) : Meets Tryd.prog 34 [.str x, .ptr 500 0] [(500, some ⟨.agg [.str fields], 9, false⟩)] (.i64 ((cntL x fields : Nat) : Int)) [] := by
 refine meets_of_ev (nt := 22) Tryd.func34 rfl rfl (Nat.le_of_ble_eq_true rfl) ?_
 refine .seq ?_
 refine .region ?_
 refine .q (op_assign rfl) trivial rfl ?_
 refine .nil ?_
 show Ev _ _ _ _ _
 refine .seq ?_
 refine .region ?_
 refine .q (op_assign rfl) trivial rfl ?_
 refine .nil ?_
 show Ev _ _ _ _ _
 refine .seq ?_
 refine .seq ?_
 refine .region ?_
 refine .q (op_load Tryd.underlying9 rfl rfl rfl rfl (by first | omega | (simp only [AV.len]; omega) | (simp only [AV.len]; omega) | assumption | (simp [AV.len]; done))) trivial rfl ?_
 refine .q (op_len_str Tryd.underlying9 rfl) trivial rfl ?_
 refine .q (op_move rfl) trivial rfl ?_
 refine .nil ?_
 show Ev _ _ _ _ _
 refine .block ?_
 refine Ev.loop (ι := { j : Nat // j ≤ fields.length }) (fun j => ⟨[(0, .str x), (1, .ptr 500 0), (4, .i64 ((cntL x (fields.take j.1) : Nat) : Int)), (7, .i64 (fields.length : Int)), (8, .i64 ((j.1 : Nat) : Int))], [(500, some ⟨.agg [.str fields], 9, false⟩)], 1000⟩) (fun j => fields.length - j.1) ⟨0, Nat.zero_le _⟩ (StLe.mk [] rfl rfl ⟨⟨_, rfl, by first | rfl | (simp only [AV.ren]; congr 1; omega), rfl⟩, ⟨_, rfl, by first | rfl | (simp only [AV.ren]; congr 1; omega), rfl⟩, ⟨_, rfl, by first | rfl | (simp only [AV.ren]; congr 1; omega), rfl⟩, ⟨_, rfl, by first | rfl | (simp only [AV.ren]; congr 1; omega), rfl⟩, ⟨_, rfl, by first | rfl | (simp only [AV.ren]; congr 1; omega), rfl⟩, trivial⟩ ⟨⟨_, _, rfl, rfl, by first | rfl | (simp only [AV.ren]; congr 1; omega), rfl, id, rfl⟩, trivial⟩) ?_
 rintro ⟨j, hj⟩
 dsimp only
 have hb1 := cntL_le x (fields.take j) hx
 have hb2 := List.length_take_le j fields
 have hb3 := List.count_le_length (a := fields.getD j 0) (l := x)
 refine .seq ?_
 refine .region ?_
 refine .q (op_cmpI rfl rfl rfl) trivial rfl ?_
 refine .nil ?_
 show Ev _ _ _ _ _
 refine .seq ?_
 refine .cond rfl (fun hc9 => ?_) (fun hc9 => ?_)
 ·simp only [decide_eq_true_eq] at hc9
  refine .skip ?_
  show Ev _ _ _ _ _
  refine .seq ?_
  refine .block ?_
  refine .seq ?_
  refine .region ?_
  refine .q (op_move rfl) trivial rfl ?_
  refine .q (op_assign rfl) trivial rfl ?_
  refine .nil ?_
  show Ev _ _ _ _ _
  refine .region ?_
  refine .q (op_move rfl) trivial rfl ?_
  refine .q (op_move rfl) trivial rfl ?_
  refine .q (op_load Tryd.underlying9 rfl rfl rfl rfl (by first | omega | (simp only [AV.len]; omega) | (simp only [AV.len]; omega) | assumption | (simp [AV.len]; done))) trivial rfl ?_
  refine .q (op_move rfl) trivial rfl ?_
  refine .q (op_move rfl) trivial rfl ?_
  refine .q (op_addI rfl rfl ⟨by omega, by omega⟩) trivial rfl ?_
  refine .q (op_slice_str Tryd.underlying9 rfl (bnd_some rfl rfl) (bnd_some rfl (show ((j : Nat) : Int) + 1 = ((j + 1 : Nat) : Int) from rfl)) (by omega) (by omega)) trivial rfl ?_
  refine .as (.str [fields.getD j 0]) (congrArg AV.str (slice_one (by omega))) ?_
  refine .q (op_call (U := []) [] [] (count_ev x (fields.getD j 0)) Tryd.func35 (by kernel_rfl) rfl rfl rfl (⟨⟨_, rfl, rfl, rfl⟩, ⟨_, rfl, rfl, rfl⟩, trivial⟩) (trivial) (trivial) (trivial) rfl) trivial rfl ?_
  refine .q (op_addI rfl rfl ⟨by omega, by omega⟩) trivial rfl ?_
  refine .q (op_assign rfl) trivial rfl ?_
  refine .nil ?_
  show Ev _ _ _ _ _
  refine .region ?_
  refine .q (op_addI rfl rfl ⟨by omega, by omega⟩) trivial rfl ?_
  refine .q (op_move rfl) trivial rfl ?_
  refine .nil ?_
  exact ⟨⟨j + 1, by omega⟩, by show fields.length - (j + 1) < fields.length - j; omega, StLe.mk [] rfl rfl ⟨⟨_, rfl, by first | rfl | (simp only [AV.ren]; congr 1; omega), rfl⟩, ⟨_, rfl, by first | rfl | (simp only [AV.ren]; congr 1; omega), rfl⟩, ⟨_, rfl, by exact congrArg AV.i64 (cnt_step _ _ (by omega)).symm, rfl⟩, ⟨_, rfl, by first | rfl | (simp only [AV.ren]; congr 1; omega), rfl⟩, ⟨_, rfl, by first | rfl | (simp only [AV.ren]; congr 1; omega), rfl⟩, trivial⟩ ⟨⟨_, _, rfl, rfl, by first | rfl | (simp only [AV.ren]; congr 1; omega), rfl, id, rfl⟩, trivial⟩⟩
 ·simp only [decide_eq_false_iff_not] at hc9
  refine .exit ?_
  show Ev _ _ _ _ _
  have ej : j = fields.length := by omega
  refine Ev.weak (st2 := ⟨[(0, .str x), (1, .ptr 500 0), (4, .i64 ((cntL x (fields.take (fields.length)) : Nat) : Int)), (7, .i64 (fields.length : Int)), (8, .i64 (((fields.length) : Nat) : Int))], [(500, some ⟨.agg [.str fields], 9, false⟩)], 1000⟩) (StLe.mk [] rfl rfl ⟨⟨_, rfl, by first | (simp only [AV.ren]; done) | (simp only [AV.ren]; rw [ej]; done) | rfl, rfl⟩, ⟨_, rfl, by first | (simp only [AV.ren]; done) | (simp only [AV.ren]; rw [ej]; done) | rfl, rfl⟩, ⟨_, rfl, by (rw [ej, List.take_length]; rfl), rfl⟩, ⟨_, rfl, by first | (simp only [AV.ren]; done) | (simp only [AV.ren]; rw [ej]; done) | rfl, rfl⟩, ⟨_, rfl, by first | (simp only [AV.ren]; done) | (simp only [AV.ren]; rw [ej]; done) | rfl, rfl⟩, trivial⟩ ⟨⟨_, _, rfl, rfl, by first | (simp only [AV.ren]; done) | (simp only [AV.ren]; rw [ej]; done) | rfl, rfl, id, rfl⟩, trivial⟩) ?_
  refine .seq ?_
  refine .region ?_
  refine .q (op_move rfl) trivial rfl ?_
  refine .q (op_assign rfl) trivial rfl ?_
  refine .nil ?_
  show Ev _ _ _ _ _
  refine .ret ?_
  show RetOk _ _ _ _ _ _ _
  exact ret1v rfl (.inl rfl) rfl (congrArg (fun l => AV.i64 ((cntL x l : Nat) : Int)) (List.take_length (l := fields))) trivial
set_option maxRecDepth 100000 in
theorem counts_US (k : Int) (nu ns : Nat) (fields : List UInt8) (hf : fields.length ≤ 100) (h1 : ((nu : Nat) : Int) = ((cntL [117] fields : Nat) : Int)) (h2 : ((ns : Nat) : Int) = ((cntL [115, 99, 114] fields : Nat) : Int)) (h3 : ((0 : Nat) : Int) = ((cntL [110] fields : Nat) : Int)) (h4 : ((0 : Nat) : Int) = ((cntL [98] fields : Nat) : Int)) : Meets Tryd.prog 17 [.agg [.i64 (k), .sl 511 (0) (nu) 1, .sl 512 (0) (ns) 1, .nilsl, .nilsl], .str fields] [] (.bool true) [] := by
 refine meets_of_ev (nt := 37) Tryd.func17 rfl rfl (Nat.le_of_ble_eq_true rfl) ?_
 refine .seq ?_
 refine .region ?_
 refine .a (op_boxRow rfl rfl) trivial rfl ?_
 refine .a (op_boxOne rfl rfl) trivial rfl ?_
 refine .q (op_assign rfl) trivial rfl ?_
 refine .nil ?_
 show Ev _ _ _ _ _
 refine .seq ?_
 refine .region ?_
 refine .q (op_makeFunc1 rfl) trivial rfl ?_
 refine .q (op_assign rfl) trivial rfl ?_
 refine .nil ?_
 show Ev _ _ _ _ _
 refine .seq ?_
 refine .drawn [[], [0], [0, 1], [], [3], [0, 1, 2, 3, 4], [0, 1, 2, 3, 4, 5], [0, 1, 2, 3, 4, 5, 6], [0, 1, 2, 3, 4, 5, 6, 7], [0, 1, 2, 3, 4, 5, 6, 7, 8], [0, 1, 2, 3, 4, 5, 6], [0, 1, 2, 3, 4, 5, 6, 10], [0, 1, 2, 3, 4, 5, 6, 7, 8, 9, 10, 11], [0, 1, 2, 3, 4, 5, 6, 7, 8, 9, 10, 11, 12], [0, 1, 2, 3, 4, 5, 6, 7, 8, 9, 10, 11, 12, 13], [0, 1, 2, 3, 4, 5, 6, 7, 8, 9, 10, 11, 12, 13, 14], [0, 1, 2, 3, 4, 5, 6, 7, 8, 9, 10, 11, 12, 13, 14, 15], [0, 1, 2, 3, 4, 5, 6, 7, 8, 9, 10, 11, 12, 13, 14, 15, 16], [0, 1, 2, 3, 4, 5, 6, 7, 8, 9, 10, 11, 12, 13, 14], [0, 1, 2, 3, 4, 5, 6, 7, 8, 9, 10, 11, 12, 13, 14, 18], [0, 1, 2, 3, 4, 5, 6, 7, 8, 9, 10, 11, 12, 13, 14, 15, 16, 17, 18, 19], [0, 1, 2, 3, 4, 5, 6, 7, 8, 9, 10, 11, 12, 13, 14, 15, 16, 17, 18, 19, 20], [0, 1, 2, 3, 4, 5, 6, 7, 8, 9, 10, 11, 12, 13, 14, 15, 16, 17, 18, 19, 20, 21], [0, 1, 2, 3, 4, 5, 6, 7, 8, 9, 10, 11, 12, 13, 14, 15, 16, 17, 18, 19, 20, 21, 22], [0, 1, 2, 3, 4, 5, 6, 7, 8, 9, 10, 11, 12, 13, 14, 15, 16, 17, 18, 19, 20, 21, 22, 23], [0, 1, 2, 3, 4, 5, 6, 7, 8, 9, 10, 11, 12, 13, 14, 15, 16, 17, 18, 19, 20, 21, 22, 23, 24], [0, 1, 2, 3, 4, 5, 6, 7, 8, 9, 10, 11, 12, 13, 14, 15, 16, 17, 18, 19, 20, 21, 22], [0, 1, 2, 3, 4, 5, 6, 7, 8, 9, 10, 11, 12, 13, 14, 15, 16, 17, 18, 19, 20, 21, 22, 26], [0, 1, 2, 3, 4, 5, 6, 7, 8, 9, 10, 11, 12, 13, 14, 15, 16, 17, 18, 19, 20, 21, 22, 23, 24, 25, 26, 27], [0, 1, 2, 3, 4, 5, 6, 7, 8, 9, 10, 11, 12, 13, 14, 15, 16, 17, 18, 19, 20, 21, 22, 23, 24, 25, 26, 27, 28], [0, 1, 2, 3, 4, 5, 6, 7, 8, 9, 10, 11, 12, 13, 14, 15, 16, 17, 18, 19, 20, 21, 22, 23, 24, 25, 26, 27, 28, 29]] [1, 4, 8, 11, 16, 19, 24, 27] [] (by kernel_rfl) (by kernel_rfl) rfl ?_
 show DK _ [0, 1, 2, 3, 4, 5, 6, 7, 8, 9, 10, 11, 12, 13, 14, 15, 16, 17, 18, 19, 20, 21, 22, 23, 24, 25, 26, 27, 28, 29, 30] _ _ _
 refine .q rfl (op_fieldAddr (m := 0) Tryd.underlying30 rfl (by kernel_rfl) rfl) trivial ?_
 refine .as (.ptr 1000 1) rfl ?_
 refine .q rfl (op_load Tryd.underlying22 rfl rfl rfl rfl (by first | omega | (simp only [AV.len]; omega) | (simp only [AV.len]; omega) | assumption | (simp [AV.len]; done))) trivial ?_
 refine .q rfl (op_len_sl Tryd.underlying22 rfl) trivial ?_
 refine .q rfl (op_move rfl) trivial ?_
 refine .q rfl (op_callClo (args := [.str [117]]) (args2 := [.ptr 500 0]) (U := []) [(500, 1008)] [] (cnt_ev [117] fields (by decide) hf) Tryd.func34 (by kernel_rfl) rfl rfl rfl rfl rfl rfl ⟨⟨_, rfl, rfl, rfl⟩, trivial⟩ ⟨⟨_, _, rfl, rfl, rfl, rfl, (fun h => by cases h), rfl⟩, trivial⟩ trivial ⟨(fun h => by cases h), trivial⟩ rfl) trivial ?_
 refine .q rfl (op_cmpI rfl rfl rfl) trivial ?_
 refine .q rfl (op_move rfl) trivial ?_
 refine .know (b' := true) (decide_eq_true h1) ?_
 refine .q rfl (op_fieldAddr (m := 0) Tryd.underlying30 rfl (by kernel_rfl) rfl) ⟨_, rfl, rfl⟩ ?_
 refine .as (.ptr 1000 2) rfl ?_
 refine .q rfl (op_load Tryd.underlying23 rfl rfl rfl rfl (by first | omega | (simp only [AV.len]; omega) | (simp only [AV.len]; omega) | assumption | (simp [AV.len]; done))) ⟨_, rfl, rfl⟩ ?_
 refine .q rfl (op_len_sl Tryd.underlying23 rfl) ⟨_, rfl, rfl⟩ ?_
 refine .q rfl (op_move rfl) ⟨_, rfl, rfl⟩ ?_
 refine .q rfl (op_callClo (args := [.str [115, 99, 114]]) (args2 := [.ptr 500 0]) (U := []) [(500, 1008)] [] (cnt_ev [115, 99, 114] fields (by decide) hf) Tryd.func34 (by kernel_rfl) rfl rfl rfl rfl rfl rfl ⟨⟨_, rfl, rfl, rfl⟩, trivial⟩ ⟨⟨_, _, rfl, rfl, rfl, rfl, (fun h => by cases h), rfl⟩, trivial⟩ trivial ⟨(fun h => by cases h), trivial⟩ rfl) ⟨_, rfl, rfl⟩ ?_
 refine .q rfl (op_cmpI rfl rfl rfl) ⟨_, rfl, rfl⟩ ?_
 refine .q rfl (op_pick_true rfl rfl rfl) trivial ?_
 refine .q rfl (op_move rfl) trivial ?_
 refine .know (b' := true) (decide_eq_true h2) ?_
 refine .q rfl (op_fieldAddr (m := 0) Tryd.underlying30 rfl (by kernel_rfl) rfl) ⟨_, rfl, rfl⟩ ?_
 refine .as (.ptr 1000 3) rfl ?_
 refine .q rfl (op_load Tryd.underlying24 rfl rfl rfl rfl (by first | omega | (simp only [AV.len]; omega) | (simp only [AV.len]; omega) | assumption | (simp [AV.len]; done))) ⟨_, rfl, rfl⟩ ?_
 refine .q rfl (op_len_nil Tryd.underlying24 rfl) ⟨_, rfl, rfl⟩ ?_
 refine .q rfl (op_move rfl) ⟨_, rfl, rfl⟩ ?_
 refine .q rfl (op_callClo (args := [.str [110]]) (args2 := [.ptr 500 0]) (U := []) [(500, 1008)] [] (cnt_ev [110] fields (by decide) hf) Tryd.func34 (by kernel_rfl) rfl rfl rfl rfl rfl rfl ⟨⟨_, rfl, rfl, rfl⟩, trivial⟩ ⟨⟨_, _, rfl, rfl, rfl, rfl, (fun h => by cases h), rfl⟩, trivial⟩ trivial ⟨(fun h => by cases h), trivial⟩ rfl) ⟨_, rfl, rfl⟩ ?_
 refine .q rfl (op_cmpI rfl rfl rfl) ⟨_, rfl, rfl⟩ ?_
 refine .q rfl (op_pick_true rfl rfl rfl) trivial ?_
 refine .q rfl (op_move rfl) trivial ?_
 refine .know (b' := true) (decide_eq_true h3) ?_
 refine .q rfl (op_fieldAddr (m := 0) Tryd.underlying30 rfl (by kernel_rfl) rfl) ⟨_, rfl, rfl⟩ ?_
 refine .as (.ptr 1000 4) rfl ?_
 refine .q rfl (op_load Tryd.underlying25 rfl rfl rfl rfl (by first | omega | (simp only [AV.len]; omega) | (simp only [AV.len]; omega) | assumption | (simp [AV.len]; done))) ⟨_, rfl, rfl⟩ ?_
 refine .q rfl (op_len_nil Tryd.underlying25 rfl) ⟨_, rfl, rfl⟩ ?_
 refine .q rfl (op_move rfl) ⟨_, rfl, rfl⟩ ?_
 refine .q rfl (op_callClo (args := [.str [98]]) (args2 := [.ptr 500 0]) (U := []) [(500, 1008)] [] (cnt_ev [98] fields (by decide) hf) Tryd.func34 (by kernel_rfl) rfl rfl rfl rfl rfl rfl ⟨⟨_, rfl, rfl, rfl⟩, trivial⟩ ⟨⟨_, _, rfl, rfl, rfl, rfl, (fun h => by cases h), rfl⟩, trivial⟩ trivial ⟨(fun h => by cases h), trivial⟩ rfl) ⟨_, rfl, rfl⟩ ?_
 refine .q rfl (op_cmpI rfl rfl rfl) ⟨_, rfl, rfl⟩ ?_
 refine .q rfl (op_pick_true rfl rfl rfl) trivial ?_
 refine .q rfl (op_assign rfl) trivial ?_
 refine .nil ?_
 show Ev _ _ _ _ _
 refine .ret ?_
 show RetOk _ _ _ _ _ _ _
 exact ret1v rfl (.inl rfl) rfl (congrArg AV.bool (decide_eq_true h4)) trivial
set_option maxRecDepth 100000 in
theorem valid_US (k : Int) (nu ns : Nat) (fields : List UInt8) (hc0 : Lib.indexByte fields 99 = -1) : Meets Tryd.prog 18 [.agg [.i64 (k), .sl 511 (0) (nu) 1, .sl 512 (0) (ns) 1, .nilsl, .nilsl], .str fields] [] (.bool true) [] := by
 refine meets_of_ev (nt := 37) Tryd.func18 rfl rfl (Nat.le_of_ble_eq_true rfl) ?_
 refine .seq ?_
 refine .region ?_
 refine .a (op_boxRow rfl rfl) trivial rfl ?_
 refine .q (op_assign rfl) trivial rfl ?_
 refine .nil ?_
 show Ev _ _ _ _ _
 refine .seq ?_
 refine .seq ?_
 refine .region ?_
 refine .q (op_move rfl) trivial rfl ?_
 refine .q (op_call (U := []) [] [] (contains_ev fields 99) Tryd.func36 (by kernel_rfl) rfl rfl rfl (⟨⟨_, rfl, rfl, rfl⟩, ⟨_, rfl, rfl, rfl⟩, trivial⟩) (trivial) (trivial) (trivial) rfl) trivial rfl ?_
 refine .q (op_move rfl) trivial rfl ?_
 refine .know (b' := false) (by rw [hc0]; rfl) ?_
 refine .no ⟨_, rfl, rfl⟩ rfl ?_
 refine .no ⟨_, rfl, rfl⟩ rfl ?_
 refine .no ⟨_, rfl, rfl⟩ rfl ?_
 refine .no ⟨_, rfl, rfl⟩ rfl ?_
 refine .no ⟨_, rfl, rfl⟩ rfl ?_
 refine .no ⟨_, rfl, rfl⟩ rfl ?_
 refine .q (op_pick_false rfl rfl rfl) trivial rfl ?_
 refine .nil ?_
 show Ev _ _ _ _ _
 refine .cond_false rfl rfl ?_
 refine .skip ?_
 show Ev _ _ _ _ _
 refine .seq ?_
 refine .seq ?_
 refine .region ?_
 refine .q (op_fieldAddr (m := 0) Tryd.underlying30 rfl (by kernel_rfl) rfl) trivial rfl ?_
 refine .as (.ptr 1000 3) rfl ?_
 refine .q (op_load Tryd.underlying24 rfl rfl rfl rfl (by first | omega | (simp only [AV.len]; omega) | (simp only [AV.len]; omega) | assumption | (simp [AV.len]; done))) trivial rfl ?_
 refine .q (op_len_nil Tryd.underlying24 rfl) trivial rfl ?_
 refine .q (op_move rfl) trivial rfl ?_
 refine .nil ?_
 show Ev _ _ _ _ _
 refine .block ?_
 refine Ev.rounds 1 ?_
 show Ev _ _ _ _ _
 refine .seq ?_
 refine .region ?_
 refine .q (op_cmpI rfl rfl rfl) trivial rfl ?_
 refine .nil ?_
 show Ev _ _ _ _ _
 refine .seq ?_
 refine .cond_false rfl (rfl) ?_
 refine .exit ?_
 show Ev _ _ _ _ _
 refine .seq ?_
 refine .region ?_
 refine .q (op_assign rfl) trivial rfl ?_
 refine .nil ?_
 show Ev _ _ _ _ _
 refine .ret ?_
 show RetOk _ _ _ _ _ _ _
 exact ret1v rfl (.inl rfl) rfl (rfl) trivial
set_option maxRecDepth 100000 in
theorem toolong_US (k : Int) (nu ns : Nat) (ss : List (List UInt8)) (hn : ns = ss.length) (hs : ns ≤ 1000)  : Meets Tryd.prog 19 [.agg [.i64 (k), .sl 511 (0) (nu) 1, .sl 512 (0) (ns) 1, .nilsl, .nilsl]] [(512, some ⟨.aggS ss, 9, false⟩)] (.bool (ss.any bigS)) [(512, some ⟨.aggS ss, 9, false⟩)] := by
 refine meets_of_ev (nt := 30) Tryd.func19 rfl rfl (Nat.le_of_ble_eq_true rfl) ?_
 refine .seq ?_
 refine .region ?_
 refine .a (op_boxRow rfl rfl) trivial rfl ?_
 refine .q (op_assign rfl) trivial rfl ?_
 refine .nil ?_
 show Ev _ _ _ _ _
 refine .seq ?_
 refine .seq ?_
 refine .region ?_
 refine .q (op_fieldAddr (m := 0) Tryd.underlying30 rfl (by kernel_rfl) rfl) trivial rfl ?_
 refine .as (.ptr 1000 2) rfl ?_
 refine .q (op_load Tryd.underlying23 rfl rfl rfl rfl (by first | omega | (simp only [AV.len]; omega) | (simp only [AV.len]; omega) | assumption | (simp [AV.len]; done))) trivial rfl ?_
 refine .q (op_len_sl Tryd.underlying23 rfl) trivial rfl ?_
 refine .q (op_move rfl) trivial rfl ?_
 refine .nil ?_
 show Ev _ _ _ _ _
 refine .block ?_
 refine Ev.loop (ι := { j : Nat // j ≤ ns ∧ (ss.take j).any bigS = false }) (fun q => ⟨[(1, .ptr 1000 0), (8, .sl 512 0 ns 1), (9, .i64 (ns : Int)), (10, .i64 (q.1 : Int))], [(1000, some ⟨.agg [.i64 (k), .sl 511 (0) (nu) 1, .sl 512 (0) (ns) 1, .nilsl, .nilsl], 30, true⟩), (512, some ⟨.aggS ss, 9, false⟩)], 1008⟩) (fun q => ns - q.1) ⟨0, by omega, rfl⟩ (StLe.mk [(1000, 1000)] rfl rfl ⟨⟨_, rfl, by first | rfl | (simp only [AV.ren]; congr 1; omega), rfl⟩, ⟨_, rfl, by first | rfl | (simp only [AV.ren]; congr 1; omega), rfl⟩, ⟨_, rfl, by first | rfl | (simp only [AV.ren]; congr 1; omega), rfl⟩, ⟨_, rfl, by first | rfl | (simp only [AV.ren]; congr 1; omega), rfl⟩, trivial⟩ ⟨⟨_, _, rfl, rfl, rfl, rfl, id, rfl⟩, ⟨_, _, rfl, rfl, rfl, rfl, id, rfl⟩, trivial⟩) ?_
 rintro ⟨j, hj, hq⟩
 try dsimp only
 refine .seq ?_
 refine .region ?_
 refine .q (op_cmpI rfl rfl rfl) trivial rfl ?_
 refine .nil ?_
 show Ev _ _ _ _ _
 refine .seq ?_
 refine .cond rfl (fun hc11 => ?_) (fun hc11 => ?_)
 ·simp only [decide_eq_true_eq] at hc11
  refine .skip ?_
  show Ev _ _ _ _ _
  refine .seq ?_
  refine .block ?_
  refine .seq ?_
  refine .region ?_
  refine .q (ap_idx0 Tryd.underlying23 inf9.sz rfl rfl rfl (by omega)) trivial rfl ?_
  refine .q (op_load Tryd.underlying9 rfl rfl rfl rfl (by show j < ss.length; omega)) trivial rfl ?_
  refine .q (op_assign rfl) trivial rfl ?_
  refine .nil ?_
  show Ev _ _ _ _ _
  refine .seq ?_
  refine .region ?_
  refine .q (op_move rfl) trivial rfl ?_
  refine .q (op_len_str Tryd.underlying9 rfl) trivial rfl ?_
  refine .q (op_cmpI rfl rfl rfl) trivial rfl ?_
  refine .nil ?_
  show Ev _ _ _ _ _
  refine .cond rfl (fun hc16 => ?_) (fun hc16 => ?_)
  ·simp only [decide_eq_true_eq] at hc16
   refine .seq ?_
   refine .region ?_
   refine .q (op_assign rfl) trivial rfl ?_
   refine .nil ?_
   show Ev _ _ _ _ _
   refine .ret ?_
   show RetOk _ _ _ _ _ _ _
   exact ret1v rfl (.inl rfl) rfl (congrArg AV.bool (by first | exact (any_hit (j := j) (by omega) (decide_eq_true hc16)).symm | exact (any_all (by omega) hq).symm)) ⟨rfl, trivial⟩
  ·simp only [decide_eq_false_iff_not] at hc16
   refine .skip ?_
   show Ev _ _ _ _ _
   refine .region ?_
   refine .q (op_addI rfl rfl ⟨by omega, by omega⟩) trivial rfl ?_
   refine .q (op_move rfl) trivial rfl ?_
   refine .nil ?_
   exact ⟨⟨j + 1, by omega, any_step (by omega) hq (decide_eq_false hc16)⟩, by (try dsimp only); omega, StLe.mk [(1000, 1000)] rfl rfl ⟨⟨_, rfl, by first | rfl | (simp only [AV.ren]; congr 1; omega), rfl⟩, ⟨_, rfl, by first | rfl | (simp only [AV.ren]; congr 1; omega), rfl⟩, ⟨_, rfl, by first | rfl | (simp only [AV.ren]; congr 1; omega), rfl⟩, ⟨_, rfl, by first | rfl | (simp only [AV.ren]; congr 1; omega), rfl⟩, trivial⟩ ⟨⟨_, _, rfl, rfl, rfl, rfl, id, rfl⟩, ⟨_, _, rfl, rfl, rfl, rfl, id, rfl⟩, trivial⟩⟩
 ·simp only [decide_eq_false_iff_not] at hc11
  refine .exit ?_
  show Ev _ _ _ _ _
  skip
  refine .seq ?_
  refine .seq ?_
  refine .region ?_
  refine .q (op_fieldAddr (m := 0) Tryd.underlying30 rfl (by kernel_rfl) rfl) trivial rfl ?_
  refine .as (.ptr 1000 3) rfl ?_
  refine .q (op_load Tryd.underlying24 rfl rfl rfl rfl (by first | omega | (simp only [AV.len]; omega) | (simp only [AV.len]; omega) | assumption | (simp [AV.len]; done))) trivial rfl ?_
  refine .q (op_len_nil Tryd.underlying24 rfl) trivial rfl ?_
  refine .q (op_move rfl) trivial rfl ?_
  refine .nil ?_
  show Ev _ _ _ _ _
  refine .block ?_
  refine Ev.rounds 1 ?_
  show Ev _ _ _ _ _
  refine .seq ?_
  refine .region ?_
  refine .q (op_cmpI rfl rfl rfl) trivial rfl ?_
  refine .nil ?_
  show Ev _ _ _ _ _
  refine .seq ?_
  refine .cond_false rfl (rfl) ?_
  refine .exit ?_
  show Ev _ _ _ _ _
  refine .seq ?_
  refine .region ?_
  refine .q (op_assign rfl) trivial rfl ?_
  refine .nil ?_
  show Ev _ _ _ _ _
  refine .ret ?_
  show RetOk _ _ _ _ _ _ _
  exact ret1v rfl (.inl rfl) rfl (congrArg AV.bool (by first | exact (any_hit (j := j) (by omega) (decide_eq_true hc16)).symm | exact (any_all (by omega) hq).symm)) ⟨rfl, trivial⟩
set_option maxRecDepth 100000 in
theorem check_ok_US (k : Int) (nu ns : Nat) (ss : List (List UInt8)) (hn : ns = ss.length) (hs : ns ≤ 1000) (hk : isKind k = true) (h1 : ((nu : Nat) : Int) = ((cntL [117] (fieldsOf k) : Nat) : Int)) (h2 : ((ns : Nat) : Int) = ((cntL [115, 99, 114] (fieldsOf k) : Nat) : Int)) (h3 : ((0 : Nat) : Int) = ((cntL [110] (fieldsOf k) : Nat) : Int)) (h4 : ((0 : Nat) : Int) = ((cntL [98] (fieldsOf k) : Nat) : Int)) (hc0 : Lib.indexByte (fieldsOf k) 99 = -1) (hb : ss.any bigS = false) : Meets Tryd.prog 7 [.agg [.i64 (k), .sl 511 (0) (nu) 1, .sl 512 (0) (ns) 1, .nilsl, .nilsl]] [(512, some ⟨.aggS ss, 9, false⟩), (20, some ⟨.agg kindCells, errT, false⟩)] (.val .nilIface) [(512, some ⟨.aggS ss, 9, false⟩)] := by
 refine meets_of_ev (nt := 28) Tryd.func7 rfl rfl (Nat.le_of_ble_eq_true rfl) ?_
 refine .seq ?_
 refine .region ?_
 refine .a (op_boxRow rfl rfl) trivial rfl ?_
 refine .q (op_assign rfl) trivial rfl ?_
 refine .nil ?_
 show Ev _ _ _ _ _
 refine .seq ?_
 refine .region ?_
 refine .q (op_fieldAddr (m := 0) Tryd.underlying30 rfl (by kernel_rfl) rfl) trivial rfl ?_
 refine .as (.ptr 1000 0) rfl ?_
 refine .q (op_load Tryd.underlying3 rfl rfl rfl rfl (by first | omega | (simp only [AV.len]; omega) | (simp only [AV.len]; omega) | assumption | (simp [AV.len]; done))) trivial rfl ?_
 refine .q (op_call (U := []) [] [] (fields_ev k) Tryd.func16 (by kernel_rfl) rfl rfl rfl (⟨⟨_, rfl, rfl, rfl⟩, trivial⟩) (⟨⟨_, _, rfl, rfl, rfl, rfl, (fun h => by cases h), rfl⟩, trivial⟩) (trivial) (⟨(fun h => by cases h), trivial⟩) rfl) trivial rfl ?_
 refine .q (op_move rfl) trivial rfl ?_
 refine .q (op_extract rfl rfl) trivial rfl ?_
 refine .q (op_extract rfl rfl) trivial rfl ?_
 refine .q (op_assign rfl) trivial rfl ?_
 refine .q (op_assign rfl) trivial rfl ?_
 refine .nil ?_
 show Ev _ _ _ _ _
 refine .seq ?_
 refine .seq ?_
 refine .region ?_
 refine .q (op_move rfl) trivial rfl ?_
 refine .q (op_notB rfl) trivial rfl ?_
 refine .nil ?_
 show Ev _ _ _ _ _
 refine .cond_false rfl (by rw [hk]; rfl) ?_
 refine .skip ?_
 show Ev _ _ _ _ _
 refine .seq ?_
 refine .seq ?_
 refine .region ?_
 refine .q (op_loadRow Tryd.underlying30 rfl (by kernel_rfl) rfl rfl rfl (rfl)) trivial rfl ?_
 refine .q (op_move rfl) trivial rfl ?_
 refine .q (op_call (U := []) [(511, 511), (512, 512)] [] (counts_US k nu ns (fieldsOf k) (fields_len k) h1 h2 h3 h4) Tryd.func17 (by kernel_rfl) rfl rfl rfl (⟨⟨_, rfl, rfl, rfl⟩, ⟨_, rfl, rfl, rfl⟩, trivial⟩) (trivial) (trivial) (trivial) rfl) trivial rfl ?_
 refine .q (op_notB rfl) trivial rfl ?_
 refine .q (op_move rfl) trivial rfl ?_
 refine .know (b' := false) (rfl) ?_
 refine .q (op_loadRow Tryd.underlying30 rfl (by kernel_rfl) rfl rfl rfl (rfl)) ⟨_, rfl, rfl⟩ rfl ?_
 refine .q (op_move rfl) ⟨_, rfl, rfl⟩ rfl ?_
 refine .q (op_call (U := []) [(511, 511), (512, 512)] [] (valid_US k nu ns (fieldsOf k) hc0) Tryd.func18 (by kernel_rfl) rfl rfl rfl (⟨⟨_, rfl, rfl, rfl⟩, ⟨_, rfl, rfl, rfl⟩, trivial⟩) (trivial) (trivial) (trivial) rfl) ⟨_, rfl, rfl⟩ rfl ?_
 refine .q (op_notB rfl) ⟨_, rfl, rfl⟩ rfl ?_
 refine .q (op_pick_false rfl rfl rfl) trivial rfl ?_
 refine .nil ?_
 show Ev _ _ _ _ _
 refine .cond_false rfl (rfl) ?_
 refine .skip ?_
 show Ev _ _ _ _ _
 refine .seq ?_
 refine .seq ?_
 refine .region ?_
 refine .q (op_loadRow Tryd.underlying30 rfl (by kernel_rfl) rfl rfl rfl (rfl)) trivial rfl ?_
 refine .q (op_call (U := []) [(511, 511), (512, 512)] [] (toolong_US k nu ns ss hn hs) Tryd.func19 (by kernel_rfl) rfl rfl rfl (⟨⟨_, rfl, rfl, rfl⟩, trivial⟩) (⟨⟨_, _, rfl, rfl, rfl, rfl, (fun h => by cases h), rfl⟩, trivial⟩) (trivial) (⟨(fun h => by cases h), trivial⟩) rfl) trivial rfl ?_
 refine .nil ?_
 show Ev _ _ _ _ _
 refine .cond_false rfl (hb) ?_
 refine .skip ?_
 show Ev _ _ _ _ _
 refine .seq ?_
 refine .region ?_
 refine .q (op_assign rfl) trivial rfl ?_
 refine .nil ?_
 show Ev _ _ _ _ _
 refine .ret ?_
 show RetOk _ _ _ _ _ _ _
 exact ret1v rfl (.inl rfl) rfl (rfl) ⟨rfl, trivial⟩
end Go.Proofs.YtenocbhlbgcnfaaDoor
