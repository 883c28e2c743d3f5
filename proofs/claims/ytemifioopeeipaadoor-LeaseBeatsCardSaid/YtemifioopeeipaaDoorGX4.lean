/-
  Texts of this claim.
-/
import Derived.Test.YtemifioopeeipaaDoorGX3
import Derived.Test.YtemifioopeeipaaDoorGE2
import Derived.Test.YtemifioopeeipaaDoorGE1
import Derived.Test.YtemifioopeeipaaDoorGL1
namespace Go.Proofs.YtemifioopeeipaaDoor
open Go.RowKit
def andI (x m : Int) : Int := IntKind.i64.wrap ((BitVec.ofInt 64 x &&& BitVec.ofInt 64 m).toNat : Int)
theorem op_andV {P : Program} {T : Nat → Option AV} {H : Hp} {nm : Nat} {wr : Bool} {d : Option Tmp} {ty t t' : TypeId} {ps : String} {af : Array Edge} {gd : Option (Nat × Bool)} {x y : Operand} {j m : Int} (hx : aev T x = some (.i64 j)) (hy : aev T y = some (.i64 m)) : OpSem P T H ⟨d, .binOp .and t x y t', ty, ps, af, gd⟩ nm wr (.i64 (andI j m)) [] :=
  op_bin hx hy fun E y1 y2 w h1 h2 => by
    rw [h1.i64_inv, h2.i64_inv]
    exact ⟨_, rfl, .i64 _⟩
theorem and15 (x : Int) : andI x 15 = x % 16 := by
  have e : (BitVec.ofInt 64 x &&& BitVec.ofInt 64 15).toNat = (x % 16).toNat := by
    rw [BitVec.toNat_and, BitVec.toNat_ofInt, BitVec.toNat_ofInt, show ((15 : Int) % ((2 ^ 64 : Nat) : Int)).toNat = 2 ^ 4 - 1 by decide, Nat.and_two_pow_sub_one_eq_mod]; omega
  unfold andI
  rw [e, wrap_in ⟨by omega, by omega⟩]; omega
theorem and1 (x : Int) : andI x 1 = x % 2 := by
  have e : (BitVec.ofInt 64 x &&& BitVec.ofInt 64 1).toNat = (x % 2).toNat := by
    rw [BitVec.toNat_and, BitVec.toNat_ofInt, BitVec.toNat_ofInt, show ((1 : Int) % ((2 ^ 64 : Nat) : Int)).toNat = 2 ^ 1 - 1 by decide, Nat.and_two_pow_sub_one_eq_mod]; omega
  unfold andI
  rw [e, wrap_in ⟨by omega, by omega⟩]; omega
theorem life_eq (n : Int) : max 1 (min n 1073741824) = min (max n 1) 1073741824 := by omega
theorem tick_id {n : Int} (h0 : 0 ≤ n) (h1 : n ≤ 1099511627776) : tickV n = n := by unfold tickV; omega
theorem ints_flat (l : List Int) : (l.map AV.i64).all AV.flatV = true := by rw [List.all_map]; exact List.all_eq_true.2 fun _ _ => rfl
theorem int_at {l : List Int} {i : Nat} (h : i < l.length) : (l.map AV.i64)[i]? = some (.i64 (l.getD i 0)) := by
  rw [List.getElem?_map, List.getElem?_eq_getElem h]; simp [List.getD_eq_getElem?_getD, h]
set_option maxHeartbeats 2000000 in
set_option maxRecDepth 100000 in
theorem leaseBeats_ev (eo : Nat → Nat × Nat) (hd : ∀ i j, i < 20 → j < 20 → i ≠ j → eo i ≠ eo j) (life ticks : Int) (o : Nat) (l : List Int) (hl : l.length ≤ maxLen) : Meets Tryd.prog 5 [.i64 life, .sl 450 o l.length 1, .i64 ticks] [(3, some ⟨.agg [.err 124 (1) (offE eo (1))], errT, false⟩), (4, some ⟨.agg [.err 124 (2) (offE eo (2))], errT, false⟩), (5, some ⟨.agg [.err 124 (3) (offE eo (3))], errT, false⟩), (6, some ⟨.agg [.err 124 (4) (offE eo (4))], errT, false⟩), (7, some ⟨.agg [.err 124 (5) (offE eo (5))], errT, false⟩), (8, some ⟨.agg [.err 124 (6) (offE eo (6))], errT, false⟩), (9, some ⟨.agg [.err 124 (7) (offE eo (7))], errT, false⟩), (2, some ⟨.agg [.err 124 (8) (offE eo (8))], errT, false⟩), (1, some ⟨.agg [.err 124 (9) (offE eo (9))], errT, false⟩), (10, some ⟨.agg [.err 124 (10) (offE eo (10))], errT, false⟩), (11, some ⟨.agg [.err 124 (11) (offE eo (11))], errT, false⟩), (12, some ⟨.agg [.err 124 (12) (offE eo (12))], errT, false⟩), (13, some ⟨.agg [.err 124 (13) (offE eo (13))], errT, false⟩), (14, some ⟨.agg [.err 124 (14) (offE eo (14))], errT, false⟩), (15, some ⟨.agg [.err 124 (15) (offE eo (15))], errT, false⟩), (16, some ⟨.agg [.err 124 (16) (offE eo (16))], errT, false⟩), (0, some ⟨.agg [.err 124 (17) (offE eo (17))], errT, false⟩), (17, some ⟨.agg [.err 124 (18) (offE eo (18))], errT, false⟩), (18, some ⟨.agg [.err 124 (19) (offE eo (19))], errT, false⟩), (19, some ⟨.agg [.err 124 (20) (offE eo (20))], errT, false⟩), (401, some ⟨.agg [], errT, false⟩), (402, some ⟨.agg [], errT, false⟩), (403, some ⟨.agg [], errT, false⟩), (404, some ⟨.agg [], errT, false⟩), (405, some ⟨.agg [], errT, false⟩), (406, some ⟨.agg [], errT, false⟩), (407, some ⟨.agg [], errT, false⟩), (408, some ⟨.agg [], errT, false⟩), (409, some ⟨.agg [], errT, false⟩), (410, some ⟨.agg [], errT, false⟩), (411, some ⟨.agg [], errT, false⟩), (412, some ⟨.agg [], errT, false⟩), (413, some ⟨.agg [], errT, false⟩), (414, some ⟨.agg [], errT, false⟩), (415, some ⟨.agg [], errT, false⟩), (416, some ⟨.agg [], errT, false⟩), (417, some ⟨.agg [], errT, false⟩), (418, some ⟨.agg [], errT, false⟩), (419, some ⟨.agg [], errT, false⟩), (420, some ⟨.agg [], errT, false⟩), (450, some ⟨.agg (offC o (l.map .i64)), anyT, false⟩)] (.bool true) [] := by
 have hl2 : l.length ≤ 9223372036854775807 := by unfold maxLen at hl; omega
 refine meets_of_ev (nt := 120) Tryd.func5 rfl rfl (Nat.le_of_ble_eq_true rfl) ?_
 refine .seq ?_
 refine .region ?_
 refine .q (op_assign rfl) trivial rfl ?_
 refine .nil ?_
 show Ev _ _ _ _ _
 refine .seq ?_
 refine .seq ?_
 refine .region ?_
 refine .q (op_call (U := []) [] [] (awake20_ev eo hd) Tryd.func7 (by kernel_rfl) rfl rfl rfl (trivial) (⟨⟨_, _, rfl, rfl, rfl, rfl, (fun h => by cases h), rfl⟩, ⟨_, _, rfl, rfl, rfl, rfl, (fun h => by cases h), rfl⟩, ⟨_, _, rfl, rfl, rfl, rfl, (fun h => by cases h), rfl⟩, ⟨_, _, rfl, rfl, rfl, rfl, (fun h => by cases h), rfl⟩, ⟨_, _, rfl, rfl, rfl, rfl, (fun h => by cases h), rfl⟩, ⟨_, _, rfl, rfl, rfl, rfl, (fun h => by cases h), rfl⟩, ⟨_, _, rfl, rfl, rfl, rfl, (fun h => by cases h), rfl⟩, ⟨_, _, rfl, rfl, rfl, rfl, (fun h => by cases h), rfl⟩, ⟨_, _, rfl, rfl, rfl, rfl, (fun h => by cases h), rfl⟩, ⟨_, _, rfl, rfl, rfl, rfl, (fun h => by cases h), rfl⟩, ⟨_, _, rfl, rfl, rfl, rfl, (fun h => by cases h), rfl⟩, ⟨_, _, rfl, rfl, rfl, rfl, (fun h => by cases h), rfl⟩, ⟨_, _, rfl, rfl, rfl, rfl, (fun h => by cases h), rfl⟩, ⟨_, _, rfl, rfl, rfl, rfl, (fun h => by cases h), rfl⟩, ⟨_, _, rfl, rfl, rfl, rfl, (fun h => by cases h), rfl⟩, ⟨_, _, rfl, rfl, rfl, rfl, (fun h => by cases h), rfl⟩, ⟨_, _, rfl, rfl, rfl, rfl, (fun h => by cases h), rfl⟩, ⟨_, _, rfl, rfl, rfl, rfl, (fun h => by cases h), rfl⟩, ⟨_, _, rfl, rfl, rfl, rfl, (fun h => by cases h), rfl⟩, ⟨_, _, rfl, rfl, rfl, rfl, (fun h => by cases h), rfl⟩, ⟨_, _, rfl, rfl, rfl, rfl, (fun h => by cases h), rfl⟩, ⟨_, _, rfl, rfl, rfl, rfl, (fun h => by cases h), rfl⟩, ⟨_, _, rfl, rfl, rfl, rfl, (fun h => by cases h), rfl⟩, ⟨_, _, rfl, rfl, rfl, rfl, (fun h => by cases h), rfl⟩, ⟨_, _, rfl, rfl, rfl, rfl, (fun h => by cases h), rfl⟩, ⟨_, _, rfl, rfl, rfl, rfl, (fun h => by cases h), rfl⟩, ⟨_, _, rfl, rfl, rfl, rfl, (fun h => by cases h), rfl⟩, ⟨_, _, rfl, rfl, rfl, rfl, (fun h => by cases h), rfl⟩, ⟨_, _, rfl, rfl, rfl, rfl, (fun h => by cases h), rfl⟩, ⟨_, _, rfl, rfl, rfl, rfl, (fun h => by cases h), rfl⟩, ⟨_, _, rfl, rfl, rfl, rfl, (fun h => by cases h), rfl⟩, ⟨_, _, rfl, rfl, rfl, rfl, (fun h => by cases h), rfl⟩, ⟨_, _, rfl, rfl, rfl, rfl, (fun h => by cases h), rfl⟩, ⟨_, _, rfl, rfl, rfl, rfl, (fun h => by cases h), rfl⟩, ⟨_, _, rfl, rfl, rfl, rfl, (fun h => by cases h), rfl⟩, ⟨_, _, rfl, rfl, rfl, rfl, (fun h => by cases h), rfl⟩, ⟨_, _, rfl, rfl, rfl, rfl, (fun h => by cases h), rfl⟩, ⟨_, _, rfl, rfl, rfl, rfl, (fun h => by cases h), rfl⟩, ⟨_, _, rfl, rfl, rfl, rfl, (fun h => by cases h), rfl⟩, ⟨_, _, rfl, rfl, rfl, rfl, (fun h => by cases h), rfl⟩, trivial⟩) (trivial) (⟨(fun h => by cases h), (fun h => by cases h), (fun h => by cases h), (fun h => by cases h), (fun h => by cases h), (fun h => by cases h), (fun h => by cases h), (fun h => by cases h), (fun h => by cases h), (fun h => by cases h), (fun h => by cases h), (fun h => by cases h), (fun h => by cases h), (fun h => by cases h), (fun h => by cases h), (fun h => by cases h), (fun h => by cases h), (fun h => by cases h), (fun h => by cases h), (fun h => by cases h), (fun h => by cases h), (fun h => by cases h), (fun h => by cases h), (fun h => by cases h), (fun h => by cases h), (fun h => by cases h), (fun h => by cases h), (fun h => by cases h), (fun h => by cases h), (fun h => by cases h), (fun h => by cases h), (fun h => by cases h), (fun h => by cases h), (fun h => by cases h), (fun h => by cases h), (fun h => by cases h), (fun h => by cases h), (fun h => by cases h), (fun h => by cases h), (fun h => by cases h), trivial⟩) rfl) trivial rfl ?_
 refine .q (op_notB rfl) trivial rfl ?_
 refine .nil ?_
 show Ev _ _ _ _ _
 refine .cond_false rfl (rfl) ?_
 refine .skip ?_
 show Ev _ _ _ _ _
 refine .seq ?_
 refine .region ?_
 refine .q (op_move rfl) trivial rfl ?_
 refine .q (op_buildS (r := .agg _) Tryd.underlying23 rfl zero23 rel_zero23 rfl rfl rfl rfl) trivial rfl ?_
 refine .a (op_call (U := [(1000, some ⟨.agg [.i64 (min (max 1 0) 64), .i64 (min (max 1 0) 4096), .i64 (min (max life 1) 1073741824), .mp 1001, .i64 0], 60, true⟩), (1001, some ⟨.mapc [] [] [] 0, 0, true⟩)]) [] [(1000, 1024), (1001, 1016)] (new_ev 1 1 life) Tryd.func8 (by kernel_rfl) rfl rfl rfl (⟨⟨_, rfl, rfl, rfl⟩, trivial⟩) (trivial) (⟨⟨1024, _, rfl, rfl, rfl, rfl, .inl rfl⟩, ⟨1016, _, rfl, rfl, rfl, rfl, .inl rfl⟩, trivial⟩) (trivial) rfl) trivial rfl ?_
 refine .q (op_assign rfl) trivial rfl ?_
 refine .nil ?_
 show Ev _ _ _ _ _
 refine .seq ?_
 refine .seq ?_
 refine .region ?_
 refine .q (op_move rfl) trivial rfl ?_
 refine .q (op_eqPtrNil Tryd.underlying26 rfl rfl rfl) trivial rfl ?_
 refine .nil ?_
 show Ev _ _ _ _ _
 refine .cond_false rfl (rfl) ?_
 refine .skip ?_
 show Ev _ _ _ _ _
 refine .seq ?_
 refine .region ?_
 refine .q (op_move rfl) trivial rfl ?_
 refine .q (op_minI rfl rfl) trivial rfl ?_
 refine .q (op_maxI rfl rfl) trivial rfl ?_
 refine .as (.i64 (min (max life 1) 1073741824)) (congrArg AV.i64 (life_eq life)) ?_
 refine .q (op_assign rfl) trivial rfl ?_
 refine .nil ?_
 show Ev _ _ _ _ _
 refine .seq ?_
 refine .seq ?_
 refine .region ?_
 refine .q (op_move rfl) trivial rfl ?_
 refine .a (op_call (U := [(1000, some ⟨.agg [.i64 (min (max 1 0) 64), .i64 (min (max 1 0) 4096), .i64 (min (max life 1) 1073741824), .mp 1001, .i64 (0 + 1)], 60, true⟩), (1001, some ⟨.mapc [nmV] [.agg [.str [116], .str [97], .i64 7, .i64 (0 + 1), .i64 (tickV 0)]] [0] (0 + 1), 0, true⟩)]) [(500, 1000), (501, 1001)] [] (take0_ev (min (max 1 0) 64) (min (max 1 0) 4096) (min (max life 1) 1073741824) 0 7 0 0 eo (by decide) (by decide) (by decide)) Tryd.func15 (by kernel_rfl) rfl rfl rfl (⟨⟨_, rfl, rfl, rfl⟩, ⟨_, rfl, rfl, rfl⟩, ⟨_, rfl, rfl, rfl⟩, ⟨_, rfl, rfl, rfl⟩, ⟨_, rfl, rfl, rfl⟩, trivial⟩) (⟨⟨_, _, rfl, rfl, rfl, rfl, id, rfl⟩, ⟨_, _, rfl, rfl, rfl, rfl, id, rfl⟩, ⟨_, _, rfl, rfl, rfl, rfl, (fun h => by cases h), rfl⟩, trivial⟩) (⟨⟨500, _, rfl, rfl, rfl, rfl, .inr ⟨rfl, _, rfl, rfl⟩⟩, ⟨501, _, rfl, rfl, rfl, rfl, .inr ⟨rfl, _, rfl, rfl⟩⟩, trivial⟩) (⟨(fun _ => ⟨1000, _, rfl, rfl⟩), (fun _ => ⟨1001, _, rfl, rfl⟩), (fun h => by cases h), trivial⟩) rfl) trivial rfl ?_
 refine .q (op_move rfl) trivial rfl ?_
 refine .q (op_extract rfl rfl) trivial rfl ?_
 refine .q (op_extract rfl rfl) trivial rfl ?_
 refine .q (op_extract rfl rfl) trivial rfl ?_
 refine .a (op_allocRow zero43 rel_zero43 rfl) trivial rfl ?_
 refine .w (op_storeRow (by kernel_rfl) rfl rfl rfl rfl rfl (rfl) (rfl)) trivial rfl ?_
 refine .q (op_assign rfl) trivial rfl ?_
 refine .q (op_assign rfl) trivial rfl ?_
 refine .nil ?_
 show Ev _ _ _ _ _
 refine .seq ?_
 refine .region ?_
 refine .q (op_move rfl) trivial rfl ?_
 refine .asR (.err 124 0 (0, 0)) (nil_err _ _) ?_
 refine .q (op_eqErrNil (e := 0) Tryd.underlying45 rfl rfl) trivial rfl ?_
 refine .nil ?_
 show Ev _ _ _ _ _
 refine .cond_false rfl (rfl) ?_
 refine .skip ?_
 show Ev _ _ _ _ _
 refine .seq ?_
 refine .region ?_
 refine .q (op_assign rfl) trivial rfl ?_
 refine .q (op_assign rfl) trivial rfl ?_
 refine .nil ?_
 show Ev _ _ _ _ _
 refine .seq ?_
 refine .seq ?_
 refine .region ?_
 refine .q (op_assign rfl) trivial rfl ?_
 refine .nil ?_
 show Ev _ _ _ _ _
 refine .block ?_
 refine Ev.loop (ι := { p : Nat × Int × Int // p.1 ≤ l.length ∧ p.1 ≤ 40 ∧ 0 ≤ p.2.1 ∧ p.2.1 ≤ p.2.2 ∧ p.2.2 ≤ 15 * (p.1 : Int) }) (fun q => ⟨[(0, .i64 (min (max life 1) 1073741824)), (1, .sl 450 o l.length 1), (2, .i64 ticks), (7, .ptr 1000 0), (11, .i64 q.1.2.1), (12, .i64 q.1.2.2), (13, .i64 ((q.1.1 : Nat) : Int))], [(1000, some ⟨.agg [.i64 (min (max 1 0) 64), .i64 (min (max 1 0) 4096), .i64 (min (max life 1) 1073741824), .mp 1001, .i64 (0 + 1)], 60, true⟩), (1001, some ⟨.mapc [nmV] [.agg [.str [116], .str [97], .i64 7, .i64 (0 + 1), .i64 q.1.2.1]] [0] (0 + 1), 0, true⟩), (3, some ⟨.agg [.err 124 (1) (offE eo (1))], errT, false⟩), (4, some ⟨.agg [.err 124 (2) (offE eo (2))], errT, false⟩), (5, some ⟨.agg [.err 124 (3) (offE eo (3))], errT, false⟩), (6, some ⟨.agg [.err 124 (4) (offE eo (4))], errT, false⟩), (7, some ⟨.agg [.err 124 (5) (offE eo (5))], errT, false⟩), (8, some ⟨.agg [.err 124 (6) (offE eo (6))], errT, false⟩), (9, some ⟨.agg [.err 124 (7) (offE eo (7))], errT, false⟩), (2, some ⟨.agg [.err 124 (8) (offE eo (8))], errT, false⟩), (1, some ⟨.agg [.err 124 (9) (offE eo (9))], errT, false⟩), (10, some ⟨.agg [.err 124 (10) (offE eo (10))], errT, false⟩), (11, some ⟨.agg [.err 124 (11) (offE eo (11))], errT, false⟩), (12, some ⟨.agg [.err 124 (12) (offE eo (12))], errT, false⟩), (13, some ⟨.agg [.err 124 (13) (offE eo (13))], errT, false⟩), (14, some ⟨.agg [.err 124 (14) (offE eo (14))], errT, false⟩), (15, some ⟨.agg [.err 124 (15) (offE eo (15))], errT, false⟩), (16, some ⟨.agg [.err 124 (16) (offE eo (16))], errT, false⟩), (0, some ⟨.agg [.err 124 (17) (offE eo (17))], errT, false⟩), (17, some ⟨.agg [.err 124 (18) (offE eo (18))], errT, false⟩), (18, some ⟨.agg [.err 124 (19) (offE eo (19))], errT, false⟩), (19, some ⟨.agg [.err 124 (20) (offE eo (20))], errT, false⟩), (401, some ⟨.agg [], errT, false⟩), (402, some ⟨.agg [], errT, false⟩), (403, some ⟨.agg [], errT, false⟩), (404, some ⟨.agg [], errT, false⟩), (405, some ⟨.agg [], errT, false⟩), (406, some ⟨.agg [], errT, false⟩), (407, some ⟨.agg [], errT, false⟩), (408, some ⟨.agg [], errT, false⟩), (409, some ⟨.agg [], errT, false⟩), (410, some ⟨.agg [], errT, false⟩), (411, some ⟨.agg [], errT, false⟩), (412, some ⟨.agg [], errT, false⟩), (413, some ⟨.agg [], errT, false⟩), (414, some ⟨.agg [], errT, false⟩), (415, some ⟨.agg [], errT, false⟩), (416, some ⟨.agg [], errT, false⟩), (417, some ⟨.agg [], errT, false⟩), (418, some ⟨.agg [], errT, false⟩), (419, some ⟨.agg [], errT, false⟩), (420, some ⟨.agg [], errT, false⟩), (450, some ⟨.agg (offC o (l.map .i64)), anyT, false⟩)], 1024⟩) (fun q => 40 - q.1.1) ⟨(0, 0, 0), Nat.zero_le _, Nat.zero_le _, by decide, by decide, by decide⟩ (StLe.mk [(1000, 1000), (1001, 1001)] rfl rfl ⟨⟨_, rfl, by first | rfl | (simp only [AV.ren]; congr 1; omega), rfl⟩, ⟨_, rfl, by first | rfl | (simp only [AV.ren]; congr 1; omega), rfl⟩, ⟨_, rfl, by first | rfl | (simp only [AV.ren]; congr 1; omega), rfl⟩, ⟨_, rfl, by first | rfl | (simp only [AV.ren]; congr 1; omega), rfl⟩, ⟨_, rfl, by first | rfl | (simp only [AV.ren]; congr 1; omega), rfl⟩, ⟨_, rfl, by first | rfl | (simp only [AV.ren]; congr 1; omega), rfl⟩, ⟨_, rfl, by first | rfl | (simp only [AV.ren]; congr 1; omega), rfl⟩, trivial⟩ ⟨⟨_, _, rfl, rfl, rfl, rfl, id, rfl⟩, ⟨_, _, rfl, rfl, rfl, rfl, id, rfl⟩, ⟨_, _, rfl, rfl, rfl, rfl, (fun h => by cases h), rfl⟩, ⟨_, _, rfl, rfl, rfl, rfl, (fun h => by cases h), rfl⟩, ⟨_, _, rfl, rfl, rfl, rfl, (fun h => by cases h), rfl⟩, ⟨_, _, rfl, rfl, rfl, rfl, (fun h => by cases h), rfl⟩, ⟨_, _, rfl, rfl, rfl, rfl, (fun h => by cases h), rfl⟩, ⟨_, _, rfl, rfl, rfl, rfl, (fun h => by cases h), rfl⟩, ⟨_, _, rfl, rfl, rfl, rfl, (fun h => by cases h), rfl⟩, ⟨_, _, rfl, rfl, rfl, rfl, (fun h => by cases h), rfl⟩, ⟨_, _, rfl, rfl, rfl, rfl, (fun h => by cases h), rfl⟩, ⟨_, _, rfl, rfl, rfl, rfl, (fun h => by cases h), rfl⟩, ⟨_, _, rfl, rfl, rfl, rfl, (fun h => by cases h), rfl⟩, ⟨_, _, rfl, rfl, rfl, rfl, (fun h => by cases h), rfl⟩, ⟨_, _, rfl, rfl, rfl, rfl, (fun h => by cases h), rfl⟩, ⟨_, _, rfl, rfl, rfl, rfl, (fun h => by cases h), rfl⟩, ⟨_, _, rfl, rfl, rfl, rfl, (fun h => by cases h), rfl⟩, ⟨_, _, rfl, rfl, rfl, rfl, (fun h => by cases h), rfl⟩, ⟨_, _, rfl, rfl, rfl, rfl, (fun h => by cases h), rfl⟩, ⟨_, _, rfl, rfl, rfl, rfl, (fun h => by cases h), rfl⟩, ⟨_, _, rfl, rfl, rfl, rfl, (fun h => by cases h), rfl⟩, ⟨_, _, rfl, rfl, rfl, rfl, (fun h => by cases h), rfl⟩, ⟨_, _, rfl, rfl, rfl, rfl, (fun h => by cases h), rfl⟩, ⟨_, _, rfl, rfl, rfl, rfl, (fun h => by cases h), rfl⟩, ⟨_, _, rfl, rfl, rfl, rfl, (fun h => by cases h), rfl⟩, ⟨_, _, rfl, rfl, rfl, rfl, (fun h => by cases h), rfl⟩, ⟨_, _, rfl, rfl, rfl, rfl, (fun h => by cases h), rfl⟩, ⟨_, _, rfl, rfl, rfl, rfl, (fun h => by cases h), rfl⟩, ⟨_, _, rfl, rfl, rfl, rfl, (fun h => by cases h), rfl⟩, ⟨_, _, rfl, rfl, rfl, rfl, (fun h => by cases h), rfl⟩, ⟨_, _, rfl, rfl, rfl, rfl, (fun h => by cases h), rfl⟩, ⟨_, _, rfl, rfl, rfl, rfl, (fun h => by cases h), rfl⟩, ⟨_, _, rfl, rfl, rfl, rfl, (fun h => by cases h), rfl⟩, ⟨_, _, rfl, rfl, rfl, rfl, (fun h => by cases h), rfl⟩, ⟨_, _, rfl, rfl, rfl, rfl, (fun h => by cases h), rfl⟩, ⟨_, _, rfl, rfl, rfl, rfl, (fun h => by cases h), rfl⟩, ⟨_, _, rfl, rfl, rfl, rfl, (fun h => by cases h), rfl⟩, ⟨_, _, rfl, rfl, rfl, rfl, (fun h => by cases h), rfl⟩, ⟨_, _, rfl, rfl, rfl, rfl, (fun h => by cases h), rfl⟩, ⟨_, _, rfl, rfl, rfl, rfl, (fun h => by cases h), rfl⟩, ⟨_, _, rfl, rfl, rfl, rfl, (fun h => by cases h), rfl⟩, ⟨_, _, rfl, rfl, rfl, rfl, (fun h => by cases h), rfl⟩, ⟨_, _, rfl, rfl, offC_ren _ o (ints_flat l), rfl, id, offC_nm _ o (ints_flat l)⟩, trivial⟩) ?_
 rintro ⟨⟨i, last, now⟩, hi, hi40, hla, hln, hno⟩
 try dsimp only
 try simp only at hi hi40 hla hln hno
 refine .seq ?_
 refine .seq ?_
 refine .region ?_
 refine .q (op_move rfl) trivial rfl ?_
 refine .q (op_move rfl) trivial rfl ?_
 refine .q (op_len_sl Tryd.underlying51 rfl) trivial rfl ?_
 refine .q (op_cmpI rfl rfl rfl) trivial rfl ?_
 refine .q (op_move rfl) trivial rfl ?_
 refine .split (fun hg40 => ?_) (fun hg40 => ?_)
 ·simp only [decide_eq_true_eq] at hg40
  refine .q (op_move rfl) ⟨_, rfl, rfl⟩ rfl ?_
  refine .q (op_cmpI rfl rfl rfl) ⟨_, rfl, rfl⟩ rfl ?_
  refine .q (op_pick_true rfl rfl rfl) trivial rfl ?_
  refine .nil ?_
  show Ev _ _ _ _ _
  refine .cond rfl (fun hc43 => ?_) (fun hc43 => ?_)
  ·simp only [decide_eq_true_eq] at hc43
   refine .skip ?_
   show Ev _ _ _ _ _
   refine .seq ?_
   refine .block ?_
   refine .seq ?_
   refine .region ?_
   refine .q (op_move rfl) trivial rfl ?_
   refine .q (op_move rfl) trivial rfl ?_
   refine .q (op_move rfl) trivial rfl ?_
   refine .q (ap_idx Tryd.underlying51 inf3.sz rfl rfl rfl (show i < l.length by omega)) trivial rfl ?_
   refine .q (op_load Tryd.underlying3 rfl rfl rfl (offC_nth (int_at (show i < l.length by omega))) (by rw [offC_len, List.length_map]; omega)) trivial rfl ?_
   refine .q (op_andV rfl rfl) trivial rfl ?_
   refine .as (.i64 ((l.getD i 0) % 16)) (congrArg AV.i64 (and15 _)) ?_
   refine .q (op_addI rfl rfl ⟨by omega, by omega⟩) trivial rfl ?_
   refine .q (op_assign rfl) trivial rfl ?_
   refine .nil ?_
   show Ev _ _ _ _ _
   refine .seq ?_
   refine .region ?_
   have ht : tickV (now + (l.getD i 0) % 16) = (now + (l.getD i 0) % 16) := tick_id (by omega) (by omega)
   refine .q (op_move rfl) trivial rfl ?_
   refine .q (op_move rfl) trivial rfl ?_
   refine dite ((min (max life 1) 1073741824) ≤ tickV (now + (l.getD i 0) % 16) - last) (fun hw => ?_) (fun hw => ?_)
   ·refine .a (op_call (U := [(1024, some ⟨.agg [.str [116], .str [97], .i64 7, .i64 (0 + 1), .i64 last], 43, true⟩), (1001, some ⟨.mapc [] [] [] (0 + 1), 0, true⟩)]) [(500, 1000), (501, 1001)] [(1024, 1016)] (expH_ev (min (max 1 0) 64) (min (max 1 0) 4096) (min (max life 1) 1073741824) (0 + 1) 7 (0 + 1) last (now + (l.getD i 0) % 16) 0 (0 + 1) (by decide) ⟨by omega, by omega⟩ (decide_eq_true hw)) Tryd.func18 (by kernel_rfl) rfl rfl rfl (⟨⟨_, rfl, rfl, rfl⟩, ⟨_, rfl, rfl, rfl⟩, trivial⟩) (⟨⟨_, _, rfl, rfl, rfl, rfl, (fun h => by cases h), rfl⟩, ⟨_, _, rfl, rfl, rfl, rfl, id, rfl⟩, trivial⟩) (⟨⟨1016, _, rfl, rfl, rfl, rfl, .inl rfl⟩, ⟨501, _, rfl, rfl, rfl, rfl, .inr ⟨rfl, _, rfl, rfl⟩⟩, trivial⟩) (⟨(fun h => by cases h), (fun _ => ⟨1001, _, rfl, rfl⟩), trivial⟩) rfl) trivial rfl ?_
    refine .q (op_assign rfl) trivial rfl ?_
    refine .nil ?_
    show Ev _ _ _ _ _
    refine .seq ?_
    refine .seq ?_
    refine .region ?_
    refine .q (op_move rfl) trivial rfl ?_
    refine .q (op_len_sl Tryd.underlying37 rfl) trivial rfl ?_
    refine .q (op_cmpI rfl rfl rfl) trivial rfl ?_
    refine .q (op_move rfl) trivial rfl ?_
    refine .q (op_move rfl) trivial rfl ?_
    refine .q (op_subI rfl rfl ⟨by omega, by omega⟩) trivial rfl ?_
    refine .q (op_move rfl) trivial rfl ?_
    refine .q (op_cmpI rfl rfl rfl) trivial rfl ?_
    refine .q (op_eqB Tryd.underlying4 rfl rfl rfl) trivial rfl ?_
    refine .nil ?_
    show Ev _ _ _ _ _
    refine .cond_false rfl (by rw [ht] at hw; show (true != decide _) = false; rw [decide_eq_true hw]; rfl) ?_
    refine .skip ?_
    show Ev _ _ _ _ _
    refine .seq ?_
    refine .seq ?_
    refine .region ?_
    refine .q (op_move rfl) trivial rfl ?_
    refine .q (op_len_sl Tryd.underlying37 rfl) trivial rfl ?_
    refine .q (op_cmpI rfl rfl rfl) trivial rfl ?_
    refine .nil ?_
    show Ev _ _ _ _ _
    refine .cond_true rfl (rfl) ?_
    refine .seq ?_
    refine .region ?_
    refine .q (op_move rfl) trivial rfl ?_
    refine .q (op_call (U := []) [(500, 1000), (501, 1001)] [] (find0_ev (min (max 1 0) 64) (min (max 1 0) 4096) (min (max life 1) 1073741824) (0 + 1) (0 + 1) eo) Tryd.func17 (by kernel_rfl) rfl rfl rfl (⟨⟨_, rfl, rfl, rfl⟩, ⟨_, rfl, rfl, rfl⟩, ⟨_, rfl, rfl, rfl⟩, trivial⟩) (⟨⟨_, _, rfl, rfl, rfl, rfl, (fun h => by cases h), rfl⟩, ⟨_, _, rfl, rfl, rfl, rfl, (fun h => by cases h), rfl⟩, ⟨_, _, rfl, rfl, rfl, rfl, (fun h => by cases h), rfl⟩, trivial⟩) (trivial) (⟨(fun h => by cases h), (fun h => by cases h), (fun h => by cases h), trivial⟩) rfl) trivial rfl ?_
    refine .q (op_move rfl) trivial rfl ?_
    refine .q (op_extract rfl rfl) trivial rfl ?_
    refine .q (op_extract rfl rfl) trivial rfl ?_
    refine .a (op_allocRow zero43 rel_zero43 rfl) trivial rfl ?_
    refine .w (op_storeRow (by kernel_rfl) rfl rfl rfl rfl rfl (rfl) (rfl)) trivial rfl ?_
    refine .q (op_assign rfl) trivial rfl ?_
    refine .nil ?_
    show Ev _ _ _ _ _
    refine .seq ?_
    refine .region ?_
    refine .q (op_move rfl) trivial rfl ?_
    refine .q (op_indexAddr Tryd.underlying37 infLease.sz rfl rfl (i := 0) rfl (by decide)) trivial rfl ?_
    refine .q (op_fieldAddr (m := 0) Tryd.underlying43 rfl (by kernel_rfl) rfl) trivial rfl ?_
    refine .as (.ptr 1024 2) rfl ?_
    refine .q (op_load Tryd.underlying3 rfl rfl rfl rfl (by show 2 < 5; decide)) trivial rfl ?_
    refine .q (op_cmpI rfl rfl rfl) trivial rfl ?_
    refine .q (op_move rfl) trivial rfl ?_
    refine .know (b' := true) (rfl) ?_
    refine .q (op_move rfl) ⟨_, rfl, rfl⟩ rfl ?_
    refine .q (op_call (U := []) [] [] (code_8 eo hd) Tryd.func19 (by kernel_rfl) rfl rfl rfl (⟨⟨_, rfl, rfl, rfl⟩, trivial⟩) (⟨⟨_, _, rfl, rfl, rfl, rfl, (fun h => by cases h), rfl⟩, ⟨_, _, rfl, rfl, rfl, rfl, (fun h => by cases h), rfl⟩, ⟨_, _, rfl, rfl, rfl, rfl, (fun h => by cases h), rfl⟩, ⟨_, _, rfl, rfl, rfl, rfl, (fun h => by cases h), rfl⟩, ⟨_, _, rfl, rfl, rfl, rfl, (fun h => by cases h), rfl⟩, ⟨_, _, rfl, rfl, rfl, rfl, (fun h => by cases h), rfl⟩, ⟨_, _, rfl, rfl, rfl, rfl, (fun h => by cases h), rfl⟩, ⟨_, _, rfl, rfl, rfl, rfl, (fun h => by cases h), rfl⟩, ⟨_, _, rfl, rfl, rfl, rfl, (fun h => by cases h), rfl⟩, ⟨_, _, rfl, rfl, rfl, rfl, (fun h => by cases h), rfl⟩, ⟨_, _, rfl, rfl, rfl, rfl, (fun h => by cases h), rfl⟩, ⟨_, _, rfl, rfl, rfl, rfl, (fun h => by cases h), rfl⟩, ⟨_, _, rfl, rfl, rfl, rfl, (fun h => by cases h), rfl⟩, ⟨_, _, rfl, rfl, rfl, rfl, (fun h => by cases h), rfl⟩, ⟨_, _, rfl, rfl, rfl, rfl, (fun h => by cases h), rfl⟩, ⟨_, _, rfl, rfl, rfl, rfl, (fun h => by cases h), rfl⟩, ⟨_, _, rfl, rfl, rfl, rfl, (fun h => by cases h), rfl⟩, ⟨_, _, rfl, rfl, rfl, rfl, (fun h => by cases h), rfl⟩, ⟨_, _, rfl, rfl, rfl, rfl, (fun h => by cases h), rfl⟩, ⟨_, _, rfl, rfl, rfl, rfl, (fun h => by cases h), rfl⟩, ⟨_, _, rfl, rfl, rfl, rfl, (fun h => by cases h), rfl⟩, ⟨_, _, rfl, rfl, rfl, rfl, (fun h => by cases h), rfl⟩, ⟨_, _, rfl, rfl, rfl, rfl, (fun h => by cases h), rfl⟩, ⟨_, _, rfl, rfl, rfl, rfl, (fun h => by cases h), rfl⟩, ⟨_, _, rfl, rfl, rfl, rfl, (fun h => by cases h), rfl⟩, ⟨_, _, rfl, rfl, rfl, rfl, (fun h => by cases h), rfl⟩, ⟨_, _, rfl, rfl, rfl, rfl, (fun h => by cases h), rfl⟩, ⟨_, _, rfl, rfl, rfl, rfl, (fun h => by cases h), rfl⟩, ⟨_, _, rfl, rfl, rfl, rfl, (fun h => by cases h), rfl⟩, ⟨_, _, rfl, rfl, rfl, rfl, (fun h => by cases h), rfl⟩, ⟨_, _, rfl, rfl, rfl, rfl, (fun h => by cases h), rfl⟩, ⟨_, _, rfl, rfl, rfl, rfl, (fun h => by cases h), rfl⟩, ⟨_, _, rfl, rfl, rfl, rfl, (fun h => by cases h), rfl⟩, ⟨_, _, rfl, rfl, rfl, rfl, (fun h => by cases h), rfl⟩, ⟨_, _, rfl, rfl, rfl, rfl, (fun h => by cases h), rfl⟩, ⟨_, _, rfl, rfl, rfl, rfl, (fun h => by cases h), rfl⟩, ⟨_, _, rfl, rfl, rfl, rfl, (fun h => by cases h), rfl⟩, ⟨_, _, rfl, rfl, rfl, rfl, (fun h => by cases h), rfl⟩, ⟨_, _, rfl, rfl, rfl, rfl, (fun h => by cases h), rfl⟩, ⟨_, _, rfl, rfl, rfl, rfl, (fun h => by cases h), rfl⟩, trivial⟩) (trivial) (⟨(fun h => by cases h), (fun h => by cases h), (fun h => by cases h), (fun h => by cases h), (fun h => by cases h), (fun h => by cases h), (fun h => by cases h), (fun h => by cases h), (fun h => by cases h), (fun h => by cases h), (fun h => by cases h), (fun h => by cases h), (fun h => by cases h), (fun h => by cases h), (fun h => by cases h), (fun h => by cases h), (fun h => by cases h), (fun h => by cases h), (fun h => by cases h), (fun h => by cases h), (fun h => by cases h), (fun h => by cases h), (fun h => by cases h), (fun h => by cases h), (fun h => by cases h), (fun h => by cases h), (fun h => by cases h), (fun h => by cases h), (fun h => by cases h), (fun h => by cases h), (fun h => by cases h), (fun h => by cases h), (fun h => by cases h), (fun h => by cases h), (fun h => by cases h), (fun h => by cases h), (fun h => by cases h), (fun h => by cases h), (fun h => by cases h), (fun h => by cases h), trivial⟩) rfl) ⟨_, rfl, rfl⟩ rfl ?_
    refine .q (op_cmpI rfl rfl rfl) ⟨_, rfl, rfl⟩ rfl ?_
    refine .q (op_pick_true rfl rfl rfl) trivial rfl ?_
    refine .q (op_move rfl) trivial rfl ?_
    refine .know (b' := true) (rfl) ?_
    refine .q (op_move rfl) ⟨_, rfl, rfl⟩ rfl ?_
    refine .q (op_move rfl) ⟨_, rfl, rfl⟩ rfl ?_
    refine .q (op_call (U := []) [(500, 1000), (501, 1001)] [] (beat0_ev (min (max 1 0) 64) (min (max 1 0) 4096) (min (max life 1) 1073741824) (0 + 1) 7 (now + (l.getD i 0) % 16) (0 + 1)) Tryd.func20 (by kernel_rfl) rfl rfl rfl (⟨⟨_, rfl, rfl, rfl⟩, ⟨_, rfl, rfl, rfl⟩, ⟨_, rfl, rfl, rfl⟩, trivial⟩) (⟨⟨_, _, rfl, rfl, rfl, rfl, (fun h => by cases h), rfl⟩, ⟨_, _, rfl, rfl, rfl, rfl, (fun h => by cases h), rfl⟩, trivial⟩) (trivial) (⟨(fun h => by cases h), (fun h => by cases h), trivial⟩) rfl) ⟨_, rfl, rfl⟩ rfl ?_
    refine .q (op_cmpI rfl rfl rfl) ⟨_, rfl, rfl⟩ rfl ?_
    refine .q (op_pick_true rfl rfl rfl) trivial rfl ?_
    refine .q (op_assign rfl) trivial rfl ?_
    refine .nil ?_
    show Ev _ _ _ _ _
    refine .ret ?_
    show RetOk _ _ _ _ _ _ _
    first
     | exact ret1v rfl (.inl rfl) rfl rfl trivial
     | exact ret1v rfl (.inl rfl) rfl (congrArg AV.bool (by rw [ht2] at hw2; first | (rw [show ticks % 2 = 1 by omega]; rfl) | (rw [show ticks % 2 = 0 by omega]; rfl))) trivial
   ·refine .q (op_call (U := []) [(500, 1000), (501, 1001)] [] (expK_ev (min (max 1 0) 64) (min (max 1 0) 4096) (min (max life 1) 1073741824) (0 + 1) 7 (0 + 1) last (now + (l.getD i 0) % 16) 0 (0 + 1) (by decide) ⟨by omega, by omega⟩ (decide_eq_false hw)) Tryd.func18 (by kernel_rfl) rfl rfl rfl (⟨⟨_, rfl, rfl, rfl⟩, ⟨_, rfl, rfl, rfl⟩, trivial⟩) (⟨⟨_, _, rfl, rfl, rfl, rfl, (fun h => by cases h), rfl⟩, ⟨_, _, rfl, rfl, rfl, rfl, (fun h => by cases h), rfl⟩, trivial⟩) (trivial) (⟨(fun h => by cases h), (fun h => by cases h), trivial⟩) rfl) trivial rfl ?_
    refine .q (op_assign rfl) trivial rfl ?_
    refine .nil ?_
    show Ev _ _ _ _ _
    refine .seq ?_
    refine .seq ?_
    refine .region ?_
    refine .q (op_move rfl) trivial rfl ?_
    refine .q (op_len_nil Tryd.underlying37 rfl) trivial rfl ?_
    refine .q (op_cmpI rfl rfl rfl) trivial rfl ?_
    refine .q (op_move rfl) trivial rfl ?_
    refine .q (op_move rfl) trivial rfl ?_
    refine .q (op_subI rfl rfl ⟨by omega, by omega⟩) trivial rfl ?_
    refine .q (op_move rfl) trivial rfl ?_
    refine .q (op_cmpI rfl rfl rfl) trivial rfl ?_
    refine .q (op_eqB Tryd.underlying4 rfl rfl rfl) trivial rfl ?_
    refine .nil ?_
    show Ev _ _ _ _ _
    refine .cond_false rfl (by rw [ht] at hw; show (false != decide _) = false; rw [decide_eq_false hw]; rfl) ?_
    refine .skip ?_
    show Ev _ _ _ _ _
    refine .seq ?_
    refine .seq ?_
    refine .region ?_
    refine .q (op_move rfl) trivial rfl ?_
    refine .q (op_len_nil Tryd.underlying37 rfl) trivial rfl ?_
    refine .q (op_cmpI rfl rfl rfl) trivial rfl ?_
    refine .nil ?_
    show Ev _ _ _ _ _
    refine .cond_false rfl (rfl) ?_
    refine .skip ?_
    show Ev _ _ _ _ _
    refine .seq ?_
    refine .region ?_
    refine .q (op_move rfl) trivial rfl ?_
    refine .q (op_move rfl) trivial rfl ?_
    refine .q (ap_idx Tryd.underlying51 inf3.sz rfl rfl rfl (show i < l.length by omega)) trivial rfl ?_
    refine .q (op_load Tryd.underlying3 rfl rfl rfl (offC_nth (int_at (show i < l.length by omega))) (by rw [offC_len, List.length_map]; omega)) trivial rfl ?_
    refine .q (op_andV rfl rfl) trivial rfl ?_
    refine .q (op_cmpI rfl rfl rfl) trivial rfl ?_
    refine .nil ?_
    show Ev _ _ _ _ _
    refine .cond rfl (fun hc94 => ?_) (fun hc94 => ?_)
    ·skip
     refine .seq ?_
     refine .seq ?_
     refine .region ?_
     refine .q (op_move rfl) trivial rfl ?_
     refine .q (op_move rfl) trivial rfl ?_
     refine .a (op_call (U := [(1001, some ⟨.mapc [nmV] [.agg [.str [116], .str [97], .i64 7, .i64 (0 + 1), .i64 (max last (tickV (now + (l.getD i 0) % 16)))]] [0] (0 + 1), 0, true⟩)]) [(500, 1000), (501, 1001)] [] (beatH_ev (min (max 1 0) 64) (min (max 1 0) 4096) (min (max life 1) 1073741824) (0 + 1) 7 (0 + 1) last 7 (now + (l.getD i 0) % 16) 0 (0 + 1) (by decide) (by decide)) Tryd.func20 (by kernel_rfl) rfl rfl rfl (⟨⟨_, rfl, rfl, rfl⟩, ⟨_, rfl, rfl, rfl⟩, ⟨_, rfl, rfl, rfl⟩, trivial⟩) (⟨⟨_, _, rfl, rfl, rfl, rfl, (fun h => by cases h), rfl⟩, ⟨_, _, rfl, rfl, rfl, rfl, id, rfl⟩, trivial⟩) (⟨⟨501, _, rfl, rfl, rfl, rfl, .inr ⟨rfl, _, rfl, rfl⟩⟩, trivial⟩) (⟨(fun h => by cases h), (fun _ => ⟨1001, _, rfl, rfl⟩), trivial⟩) rfl) trivial rfl ?_
     refine .q (op_cmpI rfl rfl rfl) trivial rfl ?_
     refine .q (op_move rfl) trivial rfl ?_
     refine .know (b' := false) (rfl) ?_
     refine .q (op_move rfl) ⟨_, rfl, rfl⟩ rfl ?_
     refine .q (op_move rfl) ⟨_, rfl, rfl⟩ rfl ?_
     refine .q (op_call (U := []) [(500, 1000), (501, 1001)] [] (beatK_ev (min (max 1 0) 64) (min (max 1 0) 4096) (min (max life 1) 1073741824) (0 + 1) 7 (0 + 1) (max last (tickV (now + (l.getD i 0) % 16))) 8 (now + (l.getD i 0) % 16) 0 (0 + 1) (by decide) (by decide)) Tryd.func20 (by kernel_rfl) rfl rfl rfl (⟨⟨_, rfl, rfl, rfl⟩, ⟨_, rfl, rfl, rfl⟩, ⟨_, rfl, rfl, rfl⟩, trivial⟩) (⟨⟨_, _, rfl, rfl, rfl, rfl, (fun h => by cases h), rfl⟩, ⟨_, _, rfl, rfl, rfl, rfl, (fun h => by cases h), rfl⟩, trivial⟩) (trivial) (⟨(fun h => by cases h), (fun h => by cases h), trivial⟩) rfl) ⟨_, rfl, rfl⟩ rfl ?_
     refine .q (op_cmpI rfl rfl rfl) ⟨_, rfl, rfl⟩ rfl ?_
     refine .q (op_pick_false rfl rfl rfl) trivial rfl ?_
     refine .nil ?_
     show Ev _ _ _ _ _
     refine .cond_false rfl (rfl) ?_
     refine .skip ?_
     show Ev _ _ _ _ _
     refine .region ?_
     refine .q (op_move rfl) trivial rfl ?_
     refine .q (op_assign rfl) trivial rfl ?_
     refine .nil ?_
     show Ev _ _ _ _ _
     refine .region ?_
     refine .q (op_move rfl) trivial rfl ?_
     refine .q (op_addI rfl rfl ⟨by omega, by omega⟩) trivial rfl ?_
     refine .q (op_assign rfl) trivial rfl ?_
     refine .nil ?_
     exact ⟨⟨(i + 1, (now + (l.getD i 0) % 16), (now + (l.getD i 0) % 16)), by (try simp only); omega, by (try simp only); omega, by (try simp only); omega, by (try simp only); omega, by (try simp only); omega⟩, by (try dsimp only); omega, StLe.mk [(1000, 1000), (1001, 1001)] rfl rfl ⟨⟨_, rfl, by first | rfl | (simp only [AV.ren]; congr 1; omega), rfl⟩, ⟨_, rfl, by first | rfl | (simp only [AV.ren]; congr 1; omega), rfl⟩, ⟨_, rfl, by first | rfl | (simp only [AV.ren]; congr 1; omega), rfl⟩, ⟨_, rfl, by first | rfl | (simp only [AV.ren]; congr 1; omega), rfl⟩, ⟨_, rfl, by first | rfl | (simp only [AV.ren]; congr 1; omega), rfl⟩, ⟨_, rfl, by first | rfl | (simp only [AV.ren]; congr 1; omega), rfl⟩, ⟨_, rfl, by first | rfl | (simp only [AV.ren]; congr 1; omega), rfl⟩, trivial⟩ ⟨⟨_, _, rfl, rfl, rfl, rfl, id, rfl⟩, ⟨_, _, rfl, rfl, by first | rfl | (simp only [AV.ren, AV.renL]; rw [ht, show max last (now + (l.getD i 0) % 16) = (now + (l.getD i 0) % 16) by omega]), rfl, id, rfl⟩, ⟨_, _, rfl, rfl, rfl, rfl, (fun h => by cases h), rfl⟩, ⟨_, _, rfl, rfl, rfl, rfl, (fun h => by cases h), rfl⟩, ⟨_, _, rfl, rfl, rfl, rfl, (fun h => by cases h), rfl⟩, ⟨_, _, rfl, rfl, rfl, rfl, (fun h => by cases h), rfl⟩, ⟨_, _, rfl, rfl, rfl, rfl, (fun h => by cases h), rfl⟩, ⟨_, _, rfl, rfl, rfl, rfl, (fun h => by cases h), rfl⟩, ⟨_, _, rfl, rfl, rfl, rfl, (fun h => by cases h), rfl⟩, ⟨_, _, rfl, rfl, rfl, rfl, (fun h => by cases h), rfl⟩, ⟨_, _, rfl, rfl, rfl, rfl, (fun h => by cases h), rfl⟩, ⟨_, _, rfl, rfl, rfl, rfl, (fun h => by cases h), rfl⟩, ⟨_, _, rfl, rfl, rfl, rfl, (fun h => by cases h), rfl⟩, ⟨_, _, rfl, rfl, rfl, rfl, (fun h => by cases h), rfl⟩, ⟨_, _, rfl, rfl, rfl, rfl, (fun h => by cases h), rfl⟩, ⟨_, _, rfl, rfl, rfl, rfl, (fun h => by cases h), rfl⟩, ⟨_, _, rfl, rfl, rfl, rfl, (fun h => by cases h), rfl⟩, ⟨_, _, rfl, rfl, rfl, rfl, (fun h => by cases h), rfl⟩, ⟨_, _, rfl, rfl, rfl, rfl, (fun h => by cases h), rfl⟩, ⟨_, _, rfl, rfl, rfl, rfl, (fun h => by cases h), rfl⟩, ⟨_, _, rfl, rfl, rfl, rfl, (fun h => by cases h), rfl⟩, ⟨_, _, rfl, rfl, rfl, rfl, (fun h => by cases h), rfl⟩, ⟨_, _, rfl, rfl, rfl, rfl, (fun h => by cases h), rfl⟩, ⟨_, _, rfl, rfl, rfl, rfl, (fun h => by cases h), rfl⟩, ⟨_, _, rfl, rfl, rfl, rfl, (fun h => by cases h), rfl⟩, ⟨_, _, rfl, rfl, rfl, rfl, (fun h => by cases h), rfl⟩, ⟨_, _, rfl, rfl, rfl, rfl, (fun h => by cases h), rfl⟩, ⟨_, _, rfl, rfl, rfl, rfl, (fun h => by cases h), rfl⟩, ⟨_, _, rfl, rfl, rfl, rfl, (fun h => by cases h), rfl⟩, ⟨_, _, rfl, rfl, rfl, rfl, (fun h => by cases h), rfl⟩, ⟨_, _, rfl, rfl, rfl, rfl, (fun h => by cases h), rfl⟩, ⟨_, _, rfl, rfl, rfl, rfl, (fun h => by cases h), rfl⟩, ⟨_, _, rfl, rfl, rfl, rfl, (fun h => by cases h), rfl⟩, ⟨_, _, rfl, rfl, rfl, rfl, (fun h => by cases h), rfl⟩, ⟨_, _, rfl, rfl, rfl, rfl, (fun h => by cases h), rfl⟩, ⟨_, _, rfl, rfl, rfl, rfl, (fun h => by cases h), rfl⟩, ⟨_, _, rfl, rfl, rfl, rfl, (fun h => by cases h), rfl⟩, ⟨_, _, rfl, rfl, rfl, rfl, (fun h => by cases h), rfl⟩, ⟨_, _, rfl, rfl, rfl, rfl, (fun h => by cases h), rfl⟩, ⟨_, _, rfl, rfl, rfl, rfl, (fun h => by cases h), rfl⟩, ⟨_, _, rfl, rfl, rfl, rfl, (fun h => by cases h), rfl⟩, ⟨_, _, rfl, rfl, rfl, rfl, (fun h => by cases h), rfl⟩, ⟨_, _, rfl, rfl, offC_ren _ o (ints_flat l), rfl, id, offC_nm _ o (ints_flat l)⟩, trivial⟩⟩
    ·skip
     refine .skip ?_
     show Ev _ _ _ _ _
     refine .region ?_
     refine .q (op_move rfl) trivial rfl ?_
     refine .q (op_addI rfl rfl ⟨by omega, by omega⟩) trivial rfl ?_
     refine .q (op_assign rfl) trivial rfl ?_
     refine .nil ?_
     exact ⟨⟨(i + 1, last, (now + (l.getD i 0) % 16)), by (try simp only); omega, by (try simp only); omega, by (try simp only); omega, by (try simp only); omega, by (try simp only); omega⟩, by (try dsimp only); omega, StLe.mk [(1000, 1000), (1001, 1001)] rfl rfl ⟨⟨_, rfl, by first | rfl | (simp only [AV.ren]; congr 1; omega), rfl⟩, ⟨_, rfl, by first | rfl | (simp only [AV.ren]; congr 1; omega), rfl⟩, ⟨_, rfl, by first | rfl | (simp only [AV.ren]; congr 1; omega), rfl⟩, ⟨_, rfl, by first | rfl | (simp only [AV.ren]; congr 1; omega), rfl⟩, ⟨_, rfl, by first | rfl | (simp only [AV.ren]; congr 1; omega), rfl⟩, ⟨_, rfl, by first | rfl | (simp only [AV.ren]; congr 1; omega), rfl⟩, ⟨_, rfl, by first | rfl | (simp only [AV.ren]; congr 1; omega), rfl⟩, trivial⟩ ⟨⟨_, _, rfl, rfl, rfl, rfl, id, rfl⟩, ⟨_, _, rfl, rfl, by first | rfl | (simp only [AV.ren, AV.renL]; rw [ht, show max last (now + (l.getD i 0) % 16) = (now + (l.getD i 0) % 16) by omega]), rfl, id, rfl⟩, ⟨_, _, rfl, rfl, rfl, rfl, (fun h => by cases h), rfl⟩, ⟨_, _, rfl, rfl, rfl, rfl, (fun h => by cases h), rfl⟩, ⟨_, _, rfl, rfl, rfl, rfl, (fun h => by cases h), rfl⟩, ⟨_, _, rfl, rfl, rfl, rfl, (fun h => by cases h), rfl⟩, ⟨_, _, rfl, rfl, rfl, rfl, (fun h => by cases h), rfl⟩, ⟨_, _, rfl, rfl, rfl, rfl, (fun h => by cases h), rfl⟩, ⟨_, _, rfl, rfl, rfl, rfl, (fun h => by cases h), rfl⟩, ⟨_, _, rfl, rfl, rfl, rfl, (fun h => by cases h), rfl⟩, ⟨_, _, rfl, rfl, rfl, rfl, (fun h => by cases h), rfl⟩, ⟨_, _, rfl, rfl, rfl, rfl, (fun h => by cases h), rfl⟩, ⟨_, _, rfl, rfl, rfl, rfl, (fun h => by cases h), rfl⟩, ⟨_, _, rfl, rfl, rfl, rfl, (fun h => by cases h), rfl⟩, ⟨_, _, rfl, rfl, rfl, rfl, (fun h => by cases h), rfl⟩, ⟨_, _, rfl, rfl, rfl, rfl, (fun h => by cases h), rfl⟩, ⟨_, _, rfl, rfl, rfl, rfl, (fun h => by cases h), rfl⟩, ⟨_, _, rfl, rfl, rfl, rfl, (fun h => by cases h), rfl⟩, ⟨_, _, rfl, rfl, rfl, rfl, (fun h => by cases h), rfl⟩, ⟨_, _, rfl, rfl, rfl, rfl, (fun h => by cases h), rfl⟩, ⟨_, _, rfl, rfl, rfl, rfl, (fun h => by cases h), rfl⟩, ⟨_, _, rfl, rfl, rfl, rfl, (fun h => by cases h), rfl⟩, ⟨_, _, rfl, rfl, rfl, rfl, (fun h => by cases h), rfl⟩, ⟨_, _, rfl, rfl, rfl, rfl, (fun h => by cases h), rfl⟩, ⟨_, _, rfl, rfl, rfl, rfl, (fun h => by cases h), rfl⟩, ⟨_, _, rfl, rfl, rfl, rfl, (fun h => by cases h), rfl⟩, ⟨_, _, rfl, rfl, rfl, rfl, (fun h => by cases h), rfl⟩, ⟨_, _, rfl, rfl, rfl, rfl, (fun h => by cases h), rfl⟩, ⟨_, _, rfl, rfl, rfl, rfl, (fun h => by cases h), rfl⟩, ⟨_, _, rfl, rfl, rfl, rfl, (fun h => by cases h), rfl⟩, ⟨_, _, rfl, rfl, rfl, rfl, (fun h => by cases h), rfl⟩, ⟨_, _, rfl, rfl, rfl, rfl, (fun h => by cases h), rfl⟩, ⟨_, _, rfl, rfl, rfl, rfl, (fun h => by cases h), rfl⟩, ⟨_, _, rfl, rfl, rfl, rfl, (fun h => by cases h), rfl⟩, ⟨_, _, rfl, rfl, rfl, rfl, (fun h => by cases h), rfl⟩, ⟨_, _, rfl, rfl, rfl, rfl, (fun h => by cases h), rfl⟩, ⟨_, _, rfl, rfl, rfl, rfl, (fun h => by cases h), rfl⟩, ⟨_, _, rfl, rfl, rfl, rfl, (fun h => by cases h), rfl⟩, ⟨_, _, rfl, rfl, rfl, rfl, (fun h => by cases h), rfl⟩, ⟨_, _, rfl, rfl, rfl, rfl, (fun h => by cases h), rfl⟩, ⟨_, _, rfl, rfl, rfl, rfl, (fun h => by cases h), rfl⟩, ⟨_, _, rfl, rfl, rfl, rfl, (fun h => by cases h), rfl⟩, ⟨_, _, rfl, rfl, offC_ren _ o (ints_flat l), rfl, id, offC_nm _ o (ints_flat l)⟩, trivial⟩⟩
  ·simp only [decide_eq_false_iff_not] at hc43
   refine .exit ?_
   show Ev _ _ _ _ _
   refine .seq ?_
   refine .region ?_
   refine .q (op_move rfl) trivial rfl ?_
   refine .q (op_move rfl) trivial rfl ?_
   refine .q (op_addI rfl rfl ⟨by omega, by omega⟩) trivial rfl ?_
   refine .q (op_subI rfl rfl ⟨by omega, by omega⟩) trivial rfl ?_
   refine .q (op_move rfl) trivial rfl ?_
   refine .q (op_andV rfl rfl) trivial rfl ?_
   refine .as (.i64 (ticks % 2)) (congrArg AV.i64 (and1 ticks)) ?_
   refine .q (op_addI rfl rfl ⟨by omega, by omega⟩) trivial rfl ?_
   refine .q (op_assign rfl) trivial rfl ?_
   refine .nil ?_
   show Ev _ _ _ _ _
   refine .seq ?_
   refine .region ?_
   have ht2 : tickV (last + (min (max life 1) 1073741824) - 1 + ticks % 2) = (last + (min (max life 1) 1073741824) - 1 + ticks % 2) := tick_id (by omega) (by omega)
   refine .q (op_move rfl) trivial rfl ?_
   refine .q (op_move rfl) trivial rfl ?_
   refine dite ((min (max life 1) 1073741824) ≤ tickV (last + (min (max life 1) 1073741824) - 1 + ticks % 2) - last) (fun hw2 => ?_) (fun hw2 => ?_)
   ·refine .a (op_call (U := [(1024, some ⟨.agg [.str [116], .str [97], .i64 7, .i64 (0 + 1), .i64 last], 43, true⟩), (1001, some ⟨.mapc [] [] [] (0 + 1), 0, true⟩)]) [(500, 1000), (501, 1001)] [(1024, 1016)] (expH_ev (min (max 1 0) 64) (min (max 1 0) 4096) (min (max life 1) 1073741824) (0 + 1) 7 (0 + 1) last (last + (min (max life 1) 1073741824) - 1 + ticks % 2) 0 (0 + 1) (by decide) ⟨by omega, by omega⟩ (decide_eq_true hw2)) Tryd.func18 (by kernel_rfl) rfl rfl rfl (⟨⟨_, rfl, rfl, rfl⟩, ⟨_, rfl, rfl, rfl⟩, trivial⟩) (⟨⟨_, _, rfl, rfl, rfl, rfl, (fun h => by cases h), rfl⟩, ⟨_, _, rfl, rfl, rfl, rfl, id, rfl⟩, trivial⟩) (⟨⟨1016, _, rfl, rfl, rfl, rfl, .inl rfl⟩, ⟨501, _, rfl, rfl, rfl, rfl, .inr ⟨rfl, _, rfl, rfl⟩⟩, trivial⟩) (⟨(fun h => by cases h), (fun _ => ⟨1001, _, rfl, rfl⟩), trivial⟩) rfl) trivial rfl ?_
    refine .q (op_len_sl Tryd.underlying37 rfl) trivial rfl ?_
    refine .q (op_move rfl) trivial rfl ?_
    refine .q (op_andV rfl rfl) trivial rfl ?_
    refine .as (.i64 (ticks % 2)) (congrArg AV.i64 (and1 ticks)) ?_
    refine .q (op_cmpI rfl rfl rfl) trivial rfl ?_
    refine .q (op_assign rfl) trivial rfl ?_
    refine .nil ?_
    show Ev _ _ _ _ _
    refine .ret ?_
    show RetOk _ _ _ _ _ _ _
    first
     | exact ret1v rfl (.inl rfl) rfl rfl trivial
     | exact ret1v rfl (.inl rfl) rfl (congrArg AV.bool (by rw [ht2] at hw2; first | (rw [show ticks % 2 = 1 by omega]; rfl) | (rw [show ticks % 2 = 0 by omega]; rfl))) trivial
   ·refine .q (op_call (U := []) [(500, 1000), (501, 1001)] [] (expK_ev (min (max 1 0) 64) (min (max 1 0) 4096) (min (max life 1) 1073741824) (0 + 1) 7 (0 + 1) last (last + (min (max life 1) 1073741824) - 1 + ticks % 2) 0 (0 + 1) (by decide) ⟨by omega, by omega⟩ (decide_eq_false hw2)) Tryd.func18 (by kernel_rfl) rfl rfl rfl (⟨⟨_, rfl, rfl, rfl⟩, ⟨_, rfl, rfl, rfl⟩, trivial⟩) (⟨⟨_, _, rfl, rfl, rfl, rfl, (fun h => by cases h), rfl⟩, ⟨_, _, rfl, rfl, rfl, rfl, (fun h => by cases h), rfl⟩, trivial⟩) (trivial) (⟨(fun h => by cases h), (fun h => by cases h), trivial⟩) rfl) trivial rfl ?_
    refine .q (op_len_nil Tryd.underlying37 rfl) trivial rfl ?_
    refine .q (op_move rfl) trivial rfl ?_
    refine .q (op_andV rfl rfl) trivial rfl ?_
    refine .as (.i64 (ticks % 2)) (congrArg AV.i64 (and1 ticks)) ?_
    refine .q (op_cmpI rfl rfl rfl) trivial rfl ?_
    refine .q (op_assign rfl) trivial rfl ?_
    refine .nil ?_
    show Ev _ _ _ _ _
    refine .ret ?_
    show RetOk _ _ _ _ _ _ _
    first
     | exact ret1v rfl (.inl rfl) rfl rfl trivial
     | exact ret1v rfl (.inl rfl) rfl (congrArg AV.bool (by rw [ht2] at hw2; first | (rw [show ticks % 2 = 1 by omega]; rfl) | (rw [show ticks % 2 = 0 by omega]; rfl))) trivial
 ·simp only [decide_eq_false_iff_not] at hg40
  refine .no ⟨_, rfl, rfl⟩ rfl ?_
  refine .no ⟨_, rfl, rfl⟩ rfl ?_
  refine .q (op_pick_false rfl rfl rfl) trivial rfl ?_
  refine .nil ?_
  show Ev _ _ _ _ _
  refine .cond_false rfl rfl ?_
  refine .exit ?_
  show Ev _ _ _ _ _
  refine .seq ?_
  refine .region ?_
  refine .q (op_move rfl) trivial rfl ?_
  refine .q (op_move rfl) trivial rfl ?_
  refine .q (op_addI rfl rfl ⟨by omega, by omega⟩) trivial rfl ?_
  refine .q (op_subI rfl rfl ⟨by omega, by omega⟩) trivial rfl ?_
  refine .q (op_move rfl) trivial rfl ?_
  refine .q (op_andV rfl rfl) trivial rfl ?_
  refine .as (.i64 (ticks % 2)) (congrArg AV.i64 (and1 ticks)) ?_
  refine .q (op_addI rfl rfl ⟨by omega, by omega⟩) trivial rfl ?_
  refine .q (op_assign rfl) trivial rfl ?_
  refine .nil ?_
  show Ev _ _ _ _ _
  refine .seq ?_
  refine .region ?_
  have ht2 : tickV (last + (min (max life 1) 1073741824) - 1 + ticks % 2) = (last + (min (max life 1) 1073741824) - 1 + ticks % 2) := tick_id (by omega) (by omega)
  refine .q (op_move rfl) trivial rfl ?_
  refine .q (op_move rfl) trivial rfl ?_
  refine dite ((min (max life 1) 1073741824) ≤ tickV (last + (min (max life 1) 1073741824) - 1 + ticks % 2) - last) (fun hw2 => ?_) (fun hw2 => ?_)
  ·refine .a (op_call (U := [(1024, some ⟨.agg [.str [116], .str [97], .i64 7, .i64 (0 + 1), .i64 last], 43, true⟩), (1001, some ⟨.mapc [] [] [] (0 + 1), 0, true⟩)]) [(500, 1000), (501, 1001)] [(1024, 1016)] (expH_ev (min (max 1 0) 64) (min (max 1 0) 4096) (min (max life 1) 1073741824) (0 + 1) 7 (0 + 1) last (last + (min (max life 1) 1073741824) - 1 + ticks % 2) 0 (0 + 1) (by decide) ⟨by omega, by omega⟩ (decide_eq_true hw2)) Tryd.func18 (by kernel_rfl) rfl rfl rfl (⟨⟨_, rfl, rfl, rfl⟩, ⟨_, rfl, rfl, rfl⟩, trivial⟩) (⟨⟨_, _, rfl, rfl, rfl, rfl, (fun h => by cases h), rfl⟩, ⟨_, _, rfl, rfl, rfl, rfl, id, rfl⟩, trivial⟩) (⟨⟨1016, _, rfl, rfl, rfl, rfl, .inl rfl⟩, ⟨501, _, rfl, rfl, rfl, rfl, .inr ⟨rfl, _, rfl, rfl⟩⟩, trivial⟩) (⟨(fun h => by cases h), (fun _ => ⟨1001, _, rfl, rfl⟩), trivial⟩) rfl) trivial rfl ?_
   refine .q (op_len_sl Tryd.underlying37 rfl) trivial rfl ?_
   refine .q (op_move rfl) trivial rfl ?_
   refine .q (op_andV rfl rfl) trivial rfl ?_
   refine .as (.i64 (ticks % 2)) (congrArg AV.i64 (and1 ticks)) ?_
   refine .q (op_cmpI rfl rfl rfl) trivial rfl ?_
   refine .q (op_assign rfl) trivial rfl ?_
   refine .nil ?_
   show Ev _ _ _ _ _
   refine .ret ?_
   show RetOk _ _ _ _ _ _ _
   first
    | exact ret1v rfl (.inl rfl) rfl rfl trivial
    | exact ret1v rfl (.inl rfl) rfl (congrArg AV.bool (by rw [ht2] at hw2; first | (rw [show ticks % 2 = 1 by omega]; rfl) | (rw [show ticks % 2 = 0 by omega]; rfl))) trivial
  ·refine .q (op_call (U := []) [(500, 1000), (501, 1001)] [] (expK_ev (min (max 1 0) 64) (min (max 1 0) 4096) (min (max life 1) 1073741824) (0 + 1) 7 (0 + 1) last (last + (min (max life 1) 1073741824) - 1 + ticks % 2) 0 (0 + 1) (by decide) ⟨by omega, by omega⟩ (decide_eq_false hw2)) Tryd.func18 (by kernel_rfl) rfl rfl rfl (⟨⟨_, rfl, rfl, rfl⟩, ⟨_, rfl, rfl, rfl⟩, trivial⟩) (⟨⟨_, _, rfl, rfl, rfl, rfl, (fun h => by cases h), rfl⟩, ⟨_, _, rfl, rfl, rfl, rfl, (fun h => by cases h), rfl⟩, trivial⟩) (trivial) (⟨(fun h => by cases h), (fun h => by cases h), trivial⟩) rfl) trivial rfl ?_
   refine .q (op_len_nil Tryd.underlying37 rfl) trivial rfl ?_
   refine .q (op_move rfl) trivial rfl ?_
   refine .q (op_andV rfl rfl) trivial rfl ?_
   refine .as (.i64 (ticks % 2)) (congrArg AV.i64 (and1 ticks)) ?_
   refine .q (op_cmpI rfl rfl rfl) trivial rfl ?_
   refine .q (op_assign rfl) trivial rfl ?_
   refine .nil ?_
   show Ev _ _ _ _ _
   refine .ret ?_
   show RetOk _ _ _ _ _ _ _
   first
    | exact ret1v rfl (.inl rfl) rfl rfl trivial
    | exact ret1v rfl (.inl rfl) rfl (congrArg AV.bool (by rw [ht2] at hw2; first | (rw [show ticks % 2 = 1 by omega]; rfl) | (rw [show ticks % 2 = 0 by omega]; rfl))) trivial
end Go.Proofs.YtemifioopeeipaaDoor
namespace Go.Proofs.YtemifioopeeipaaDoor
open Go.ChangeShapes Go.WideShapes Go.ChangeAt Go.RowKit
set_option maxRecDepth 100000 in
theorem leaseBeats_all {H : Type} {enc : TypeId × Value → H} (life ticks : Int) {v : Value} {d : DataW H} {ps : List MemPlace} (W : World) {b0 : Nat} (hv : Value.okWide Tryd.prog W .any b0 51 v)
  (ht : DataW.Trod enc Tryd.prog W 0 (fun _ => true) true 51 v d ps) (h : laidMet Tryd.prog Rows.leaseBeatsRow.laid W) :
  Calls Tryd.prog 5 #[.int .i64 life, v, .int .i64 ticks] W fun e W' => e = .returned (.bool true) ∧ Below W.heap.size W W' := by
 obtain ⟨eo, hd, hkn⟩ := laid_errs h
 have ci : Tryd.prog.cellsOf 3 = 1 := by kernel_rfl
 obtain ⟨l, b, o, hl, hr, hb⟩ := ints_arg (P := Tryd.prog) (W := W) (eo := eo) Tryd.underlying51 Tryd.underlying3 ci hv ht (blk_of hkn)
 refine walk_of_meets_at (argE W eo b) (argE_glob _ _ _) (argE_top _ _ _) (leaseBeats_ev eo hd life ticks o l hl) rfl (fun i x y hx hy => ?_) (known.spec (known_app (known.mono (argE_le W eo b) hkn) ⟨⟨rfl, b, sizeAt W b, argE_450 W eo b, hb⟩, trivial⟩))
 match i, hx, hy with
 | 0, hx, hy => injection hx with hx; injection hy with hy; subst hx; subst hy; exact .i64 _
 | 1, hx, hy => injection hx with hx; injection hy with hy; subst hx; subst hy; exact hr
 | 2, hx, hy => injection hx with hx; injection hy with hy; subst hx; subst hy; exact .i64 _
 | i + 3, hx, _ => simp at hx
end Go.Proofs.YtemifioopeeipaaDoor
