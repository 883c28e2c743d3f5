/-
  Texts of this claim.
-/
import Derived.Test.YtpmoonglbcglaaaDoorGW8
namespace Go.Proofs.YtpmoonglbcglaaaDoor
open Go.RowKit
set_option maxHeartbeats 8000000 in
set_option maxRecDepth 100000 in
theorem plays_A (eo : Nat → Nat × Nat) (hd : ∀ i j, i < 20 → j < 20 → i ≠ j → eo i ≠ eo j) (R : Int) (hR0 : 0 ≤ R) (hR1 : R ≤ 1000000000) (o : Nat) (l : List ActN) (hl2 : l.length ≤ 9223372036854775807) (i : Nat) (hil : i < l.length) (h120 : i < 120) (d : Bool) (x y : Option BX) (hdd : (d = true ∧ x = none ∧ y = none) ∨ d = false) (hx : BOk x (30 * i)) (hy : BOk y (30 * i)) (lx : ((live x).length : Int) ≤ R) (ly : ((live y).length : Int) ≤ R) (hk : (l.getD i default).k = 4) :
  Ev Tryd.prog 287 (codeAt [true, true, true, true, true, true, true, false, true, false, false, true, false, false, true, true, true] ((Tryd.f3).body.getD .skip)) ⟨[(0, .i64 R), (1, .sl 450 o l.length 5), (5, .ptr 1000 0), (6, .sl 1024 0 2 1), (7, .bool (!d)), (8, .i64 ((i : Nat) : Int)), (9, .ptr 1032 0), (10, .i64 0)], [(1000, some ⟨rowW R d 1008 1016 x y, 51, true⟩), (1008, bK true x), (1016, bK true y), (1024, some ⟨.aggS [live x, live y], 9, true⟩), (1032, some ⟨.agg (actN (l.getD i default)), 28, true⟩), (0, some ⟨.agg [.err 79 (1) (offE eo (1))], errT, false⟩), (1, some ⟨.agg [.err 79 (2) (offE eo (2))], errT, false⟩), (2, some ⟨.agg [.err 79 (3) (offE eo (3))], errT, false⟩), (3, some ⟨.agg [.err 79 (4) (offE eo (4))], errT, false⟩), (4, some ⟨.agg [.err 79 (5) (offE eo (5))], errT, false⟩), (5, some ⟨.agg [.err 79 (6) (offE eo (6))], errT, false⟩), (6, some ⟨.agg [.err 79 (7) (offE eo (7))], errT, false⟩), (7, some ⟨.agg [.err 79 (8) (offE eo (8))], errT, false⟩), (8, some ⟨.agg [.err 79 (9) (offE eo (9))], errT, false⟩), (9, some ⟨.agg [.err 79 (10) (offE eo (10))], errT, false⟩), (10, some ⟨.agg [.err 79 (11) (offE eo (11))], errT, false⟩), (11, some ⟨.agg [.err 79 (12) (offE eo (12))], errT, false⟩), (12, some ⟨.agg [.err 79 (13) (offE eo (13))], errT, false⟩), (13, some ⟨.agg [.err 79 (14) (offE eo (14))], errT, false⟩), (14, some ⟨.agg [.err 79 (15) (offE eo (15))], errT, false⟩), (15, some ⟨.agg [.err 79 (16) (offE eo (16))], errT, false⟩), (16, some ⟨.agg [.err 79 (17) (offE eo (17))], errT, false⟩), (17, some ⟨.agg [.err 79 (18) (offE eo (18))], errT, false⟩), (18, some ⟨.agg [.err 79 (19) (offE eo (19))], errT, false⟩), (19, some ⟨.agg [.err 79 (20) (offE eo (20))], errT, false⟩), (401, some ⟨.agg [], errT, false⟩), (402, some ⟨.agg [], errT, false⟩), (403, some ⟨.agg [], errT, false⟩), (404, some ⟨.agg [], errT, false⟩), (405, some ⟨.agg [], errT, false⟩), (406, some ⟨.agg [], errT, false⟩), (407, some ⟨.agg [], errT, false⟩), (408, some ⟨.agg [], errT, false⟩), (409, some ⟨.agg [], errT, false⟩), (410, some ⟨.agg [], errT, false⟩), (411, some ⟨.agg [], errT, false⟩), (412, some ⟨.agg [], errT, false⟩), (413, some ⟨.agg [], errT, false⟩), (414, some ⟨.agg [], errT, false⟩), (415, some ⟨.agg [], errT, false⟩), (416, some ⟨.agg [], errT, false⟩), (417, some ⟨.agg [], errT, false⟩), (418, some ⟨.agg [], errT, false⟩), (419, some ⟨.agg [], errT, false⟩), (420, some ⟨.agg [], errT, false⟩), (450, some ⟨.agg (offC o (rowsC actN l)), anyT, false⟩)], 1048⟩ (thenA (fun st2 => ∃ q : NSt R (30 * (i + 1)), StLe 287 st2 ⟨[(0, .i64 R), (1, .sl 450 o l.length 5), (5, .ptr 1000 0), (6, .sl 1024 0 2 1), (7, .bool (!q.d)), (8, .i64 ((i : Nat) : Int))], [(1000, some ⟨rowW R q.d 1008 1016 q.x q.y, 51, true⟩), (1008, bK true q.x), (1016, bK true q.y), (1024, some ⟨.aggS [live q.x, live q.y], 9, true⟩), (0, some ⟨.agg [.err 79 (1) (offE eo (1))], errT, false⟩), (1, some ⟨.agg [.err 79 (2) (offE eo (2))], errT, false⟩), (2, some ⟨.agg [.err 79 (3) (offE eo (3))], errT, false⟩), (3, some ⟨.agg [.err 79 (4) (offE eo (4))], errT, false⟩), (4, some ⟨.agg [.err 79 (5) (offE eo (5))], errT, false⟩), (5, some ⟨.agg [.err 79 (6) (offE eo (6))], errT, false⟩), (6, some ⟨.agg [.err 79 (7) (offE eo (7))], errT, false⟩), (7, some ⟨.agg [.err 79 (8) (offE eo (8))], errT, false⟩), (8, some ⟨.agg [.err 79 (9) (offE eo (9))], errT, false⟩), (9, some ⟨.agg [.err 79 (10) (offE eo (10))], errT, false⟩), (10, some ⟨.agg [.err 79 (11) (offE eo (11))], errT, false⟩), (11, some ⟨.agg [.err 79 (12) (offE eo (12))], errT, false⟩), (12, some ⟨.agg [.err 79 (13) (offE eo (13))], errT, false⟩), (13, some ⟨.agg [.err 79 (14) (offE eo (14))], errT, false⟩), (14, some ⟨.agg [.err 79 (15) (offE eo (15))], errT, false⟩), (15, some ⟨.agg [.err 79 (16) (offE eo (16))], errT, false⟩), (16, some ⟨.agg [.err 79 (17) (offE eo (17))], errT, false⟩), (17, some ⟨.agg [.err 79 (18) (offE eo (18))], errT, false⟩), (18, some ⟨.agg [.err 79 (19) (offE eo (19))], errT, false⟩), (19, some ⟨.agg [.err 79 (20) (offE eo (20))], errT, false⟩), (401, some ⟨.agg [], errT, false⟩), (402, some ⟨.agg [], errT, false⟩), (403, some ⟨.agg [], errT, false⟩), (404, some ⟨.agg [], errT, false⟩), (405, some ⟨.agg [], errT, false⟩), (406, some ⟨.agg [], errT, false⟩), (407, some ⟨.agg [], errT, false⟩), (408, some ⟨.agg [], errT, false⟩), (409, some ⟨.agg [], errT, false⟩), (410, some ⟨.agg [], errT, false⟩), (411, some ⟨.agg [], errT, false⟩), (412, some ⟨.agg [], errT, false⟩), (413, some ⟨.agg [], errT, false⟩), (414, some ⟨.agg [], errT, false⟩), (415, some ⟨.agg [], errT, false⟩), (416, some ⟨.agg [], errT, false⟩), (417, some ⟨.agg [], errT, false⟩), (418, some ⟨.agg [], errT, false⟩), (419, some ⟨.agg [], errT, false⟩), (420, some ⟨.agg [], errT, false⟩), (450, some ⟨.agg (offC o (rowsC actN l)), anyT, false⟩)], 1048⟩) (fun _ _ => False)) := by
 have lx2 := live_le hx
 have ly2 := live_le hy
 refine .seq ?_
 refine .region ?_
 refine .q (op_fieldAddr (m := 0) Tryd.underlying28 rfl (by kernel_rfl) rfl) trivial rfl ?_
 refine .as (.ptr 1032 3) rfl ?_
 refine .q (op_load Tryd.underlying9 rfl rfl rfl rfl (by show 3 < 5; decide)) trivial rfl ?_
 refine .q (op_call (U := []) [] [] (cut_ev (l.getD i default).s 30 (l.getD i default).h (by decide)) Tryd.func8 (by kernel_rfl) rfl rfl rfl (⟨⟨_, rfl, rfl, rfl⟩, ⟨_, rfl, rfl, rfl⟩, trivial⟩) (trivial) (trivial) (trivial) rfl) trivial rfl ?_
 skip
 refine .q (op_assign rfl) trivial rfl ?_
 refine .nil ?_
 show Ev _ _ _ _ _
 refine .seq ?_
 refine .region ?_
 refine .q (op_assign rfl) trivial rfl ?_
 refine .nil ?_
 show Ev _ _ _ _ _
 refine .seq ?_
 refine .seq ?_
 refine .region ?_
 refine .q (op_move rfl) trivial rfl ?_
 refine .q (op_cmpI rfl rfl rfl) trivial rfl ?_
 refine .q (op_move rfl) trivial rfl ?_
 refine .know (b' := true) (rfl) ?_
 refine .q (op_fieldAddr (m := 0) Tryd.underlying28 rfl (by kernel_rfl) rfl) ⟨_, rfl, rfl⟩ rfl ?_
 refine .as (.ptr 1032 0) rfl ?_
 refine .q (op_load Tryd.underlying3 rfl rfl rfl rfl (by show 0 < 5; decide)) ⟨_, rfl, rfl⟩ rfl ?_
 refine .q (op_cmpI rfl rfl rfl) ⟨_, rfl, rfl⟩ rfl ?_
 refine .q (op_pick_true rfl rfl rfl) trivial rfl ?_
 refine .nil ?_
 show Ev _ _ _ _ _
 refine .cond_false rfl (bne_same hk) ?_
 refine .skip ?_
 show Ev _ _ _ _ _
 refine .seq ?_
 refine .region ?_
 refine .q (op_fieldAddr (m := 0) Tryd.underlying28 rfl (by kernel_rfl) rfl) trivial rfl ?_
 refine .as (.ptr 1032 2) rfl ?_
 refine .q (op_load Tryd.underlying3 rfl rfl rfl rfl (by show 2 < 5; decide)) trivial rfl ?_
 refine .q (op_move rfl) trivial rfl ?_
 refine .q (op_len_str Tryd.underlying9 rfl) trivial rfl ?_
 refine .q (op_minI rfl rfl) trivial rfl ?_
 refine .q (op_maxI rfl rfl) trivial rfl ?_
 refine .as (.i64 0) (congrArg AV.i64 (by show max 0 (min _ (0 : Int)) = 0; omega)) ?_
 refine .q (op_assign rfl) trivial rfl ?_
 refine .nil ?_
 show Ev _ _ _ _ _
 refine .seq ?_
 refine Ev.cutp (ι := NSt R (30 * (i + 1))) (fun q => ⟨[(0, .i64 R), (1, .sl 450 o l.length 5), (5, .ptr 1000 0), (6, .sl 1024 0 2 1), (7, .bool (!q.d)), (8, .i64 ((i : Nat) : Int))], [(1000, some ⟨rowW R q.d 1008 1016 q.x q.y, 51, true⟩), (1008, bK true q.x), (1016, bK true q.y), (1024, some ⟨.aggS [live q.x, live q.y], 9, true⟩), (0, some ⟨.agg [.err 79 (1) (offE eo (1))], errT, false⟩), (1, some ⟨.agg [.err 79 (2) (offE eo (2))], errT, false⟩), (2, some ⟨.agg [.err 79 (3) (offE eo (3))], errT, false⟩), (3, some ⟨.agg [.err 79 (4) (offE eo (4))], errT, false⟩), (4, some ⟨.agg [.err 79 (5) (offE eo (5))], errT, false⟩), (5, some ⟨.agg [.err 79 (6) (offE eo (6))], errT, false⟩), (6, some ⟨.agg [.err 79 (7) (offE eo (7))], errT, false⟩), (7, some ⟨.agg [.err 79 (8) (offE eo (8))], errT, false⟩), (8, some ⟨.agg [.err 79 (9) (offE eo (9))], errT, false⟩), (9, some ⟨.agg [.err 79 (10) (offE eo (10))], errT, false⟩), (10, some ⟨.agg [.err 79 (11) (offE eo (11))], errT, false⟩), (11, some ⟨.agg [.err 79 (12) (offE eo (12))], errT, false⟩), (12, some ⟨.agg [.err 79 (13) (offE eo (13))], errT, false⟩), (13, some ⟨.agg [.err 79 (14) (offE eo (14))], errT, false⟩), (14, some ⟨.agg [.err 79 (15) (offE eo (15))], errT, false⟩), (15, some ⟨.agg [.err 79 (16) (offE eo (16))], errT, false⟩), (16, some ⟨.agg [.err 79 (17) (offE eo (17))], errT, false⟩), (17, some ⟨.agg [.err 79 (18) (offE eo (18))], errT, false⟩), (18, some ⟨.agg [.err 79 (19) (offE eo (19))], errT, false⟩), (19, some ⟨.agg [.err 79 (20) (offE eo (20))], errT, false⟩), (401, some ⟨.agg [], errT, false⟩), (402, some ⟨.agg [], errT, false⟩), (403, some ⟨.agg [], errT, false⟩), (404, some ⟨.agg [], errT, false⟩), (405, some ⟨.agg [], errT, false⟩), (406, some ⟨.agg [], errT, false⟩), (407, some ⟨.agg [], errT, false⟩), (408, some ⟨.agg [], errT, false⟩), (409, some ⟨.agg [], errT, false⟩), (410, some ⟨.agg [], errT, false⟩), (411, some ⟨.agg [], errT, false⟩), (412, some ⟨.agg [], errT, false⟩), (413, some ⟨.agg [], errT, false⟩), (414, some ⟨.agg [], errT, false⟩), (415, some ⟨.agg [], errT, false⟩), (416, some ⟨.agg [], errT, false⟩), (417, some ⟨.agg [], errT, false⟩), (418, some ⟨.agg [], errT, false⟩), (419, some ⟨.agg [], errT, false⟩), (420, some ⟨.agg [], errT, false⟩), (450, some ⟨.agg (offC o (rowsC actN l)), anyT, false⟩)], 1048⟩) ?_ ?_
 ·refine .seq ?_
  refine .region ?_
  refine .q (op_fieldAddr (m := 0) Tryd.underlying28 rfl (by kernel_rfl) rfl) trivial rfl ?_
  refine .as (.ptr 1032 0) rfl ?_
  refine .q (op_load Tryd.underlying3 rfl rfl rfl rfl (by show 0 < 5; decide)) trivial rfl ?_
  refine .nil ?_
  show Ev _ _ _ _ _
  refine .block ?_
  refine .seq ?_
  refine .region ?_
  refine .q (op_cmpI rfl rfl rfl) trivial rfl ?_
  refine .q (op_assign rfl) trivial rfl ?_
  refine .nil ?_
  show Ev _ _ _ _ _
  refine .cond_false rfl (beq_no (by omega)) ?_
  refine .seq ?_
  refine .region ?_
  refine .q (op_cmpI rfl rfl rfl) trivial rfl ?_
  refine .q (op_assign rfl) trivial rfl ?_
  refine .nil ?_
  show Ev _ _ _ _ _
  refine .cond_false rfl (beq_no (by omega)) ?_
  refine .seq ?_
  refine .region ?_
  refine .q (op_cmpI rfl rfl rfl) trivial rfl ?_
  refine .q (op_assign rfl) trivial rfl ?_
  refine .nil ?_
  show Ev _ _ _ _ _
  refine .cond_false rfl (beq_no (by omega)) ?_
  refine .seq ?_
  refine .region ?_
  refine .q (op_cmpI rfl rfl rfl) trivial rfl ?_
  refine .q (op_assign rfl) trivial rfl ?_
  refine .nil ?_
  show Ev _ _ _ _ _
  refine .cond_false rfl (beq_no (by omega)) ?_
  refine .skip ?_
  exact ⟨⟨d, x, y, hdd, (hx.mono (by omega)), (hy.mono (by omega)), lx, ly⟩, StLe.mk [(1000, 1000), (1008, 1008), (1016, 1016), (1024, 1024)] rfl rfl ⟨⟨_, rfl, by first | rfl | (simp only [AV.ren]; congr 1; omega), rfl⟩, ⟨_, rfl, by first | rfl | (simp only [AV.ren]; congr 1; omega), rfl⟩, ⟨_, rfl, by first | rfl | (simp only [AV.ren]; congr 1; omega), rfl⟩, ⟨_, rfl, by first | rfl | (simp only [AV.ren]; congr 1; omega), rfl⟩, ⟨_, rfl, by first | rfl | (simp only [AV.ren]; congr 1; omega), rfl⟩, ⟨_, rfl, by first | rfl | (simp only [AV.ren]; congr 1; omega), rfl⟩, trivial⟩ ⟨⟨_, _, rfl, rfl, rowW_ren _ _ _ _ _ _ _, rfl, id, rowW_nm _ _ _ _ _ _ _ rfl rfl⟩, HLe.oc (bK_le rfl rfl) (HLe.oc (bK_le rfl rfl) ⟨⟨_, _, rfl, rfl, rfl, rfl, id, rfl⟩, p8, p8, p8, p8, p8, p8, p8, p8, p8, p8, p8, p8, p8, p8, p8, p8, p8, p8, p8, p8, p8, p8, p8, p8, p8, p8, p8, p8, p8, p8, p8, p8, p8, p8, p8, p8, p8, p8, p8, p8, ⟨_, _, rfl, rfl, offC_ren _ o (rowsC_flat actN_flat l), rfl, id, offC_nm _ o (rowsC_flat actN_flat l)⟩, trivial⟩)⟩⟩
 ·rintro ⟨d', x', y', hd', hx', hy', lx', ly'⟩
  exact plays_rest eo R hR0 hR1 o l i h120 d' x' y' hd' hx' hy' lx' ly'
set_option maxHeartbeats 8000000 in
set_option maxRecDepth 100000 in
theorem plays_B (eo : Nat → Nat × Nat) (hd : ∀ i j, i < 20 → j < 20 → i ≠ j → eo i ≠ eo j) (R : Int) (hR0 : 0 ≤ R) (hR1 : R ≤ 1000000000) (o : Nat) (l : List ActN) (hl2 : l.length ≤ 9223372036854775807) (i : Nat) (hil : i < l.length) (h120 : i < 120) (d : Bool) (x y : Option BX) (hdd : (d = true ∧ x = none ∧ y = none) ∨ d = false) (hx : BOk x (30 * i)) (hy : BOk y (30 * i)) (lx : ((live x).length : Int) ≤ R) (ly : ((live y).length : Int) ≤ R) (hk : (l.getD i default).k ≠ 4) (hb : (l.getD i default).w < 0 ∨ 2 ≤ (l.getD i default).w) :
  Ev Tryd.prog 287 (codeAt [true, true, true, true, true, true, true, false, true, false, false, true, false, false, true, true, true] ((Tryd.f3).body.getD .skip)) ⟨[(0, .i64 R), (1, .sl 450 o l.length 5), (5, .ptr 1000 0), (6, .sl 1024 0 2 1), (7, .bool (!d)), (8, .i64 ((i : Nat) : Int)), (9, .ptr 1032 0), (10, .i64 1)], [(1000, some ⟨rowW R d 1008 1016 x y, 51, true⟩), (1008, bK true x), (1016, bK true y), (1024, some ⟨.aggS [live x, live y], 9, true⟩), (1032, some ⟨.agg (actN (l.getD i default)), 28, true⟩), (0, some ⟨.agg [.err 79 (1) (offE eo (1))], errT, false⟩), (1, some ⟨.agg [.err 79 (2) (offE eo (2))], errT, false⟩), (2, some ⟨.agg [.err 79 (3) (offE eo (3))], errT, false⟩), (3, some ⟨.agg [.err 79 (4) (offE eo (4))], errT, false⟩), (4, some ⟨.agg [.err 79 (5) (offE eo (5))], errT, false⟩), (5, some ⟨.agg [.err 79 (6) (offE eo (6))], errT, false⟩), (6, some ⟨.agg [.err 79 (7) (offE eo (7))], errT, false⟩), (7, some ⟨.agg [.err 79 (8) (offE eo (8))], errT, false⟩), (8, some ⟨.agg [.err 79 (9) (offE eo (9))], errT, false⟩), (9, some ⟨.agg [.err 79 (10) (offE eo (10))], errT, false⟩), (10, some ⟨.agg [.err 79 (11) (offE eo (11))], errT, false⟩), (11, some ⟨.agg [.err 79 (12) (offE eo (12))], errT, false⟩), (12, some ⟨.agg [.err 79 (13) (offE eo (13))], errT, false⟩), (13, some ⟨.agg [.err 79 (14) (offE eo (14))], errT, false⟩), (14, some ⟨.agg [.err 79 (15) (offE eo (15))], errT, false⟩), (15, some ⟨.agg [.err 79 (16) (offE eo (16))], errT, false⟩), (16, some ⟨.agg [.err 79 (17) (offE eo (17))], errT, false⟩), (17, some ⟨.agg [.err 79 (18) (offE eo (18))], errT, false⟩), (18, some ⟨.agg [.err 79 (19) (offE eo (19))], errT, false⟩), (19, some ⟨.agg [.err 79 (20) (offE eo (20))], errT, false⟩), (401, some ⟨.agg [], errT, false⟩), (402, some ⟨.agg [], errT, false⟩), (403, some ⟨.agg [], errT, false⟩), (404, some ⟨.agg [], errT, false⟩), (405, some ⟨.agg [], errT, false⟩), (406, some ⟨.agg [], errT, false⟩), (407, some ⟨.agg [], errT, false⟩), (408, some ⟨.agg [], errT, false⟩), (409, some ⟨.agg [], errT, false⟩), (410, some ⟨.agg [], errT, false⟩), (411, some ⟨.agg [], errT, false⟩), (412, some ⟨.agg [], errT, false⟩), (413, some ⟨.agg [], errT, false⟩), (414, some ⟨.agg [], errT, false⟩), (415, some ⟨.agg [], errT, false⟩), (416, some ⟨.agg [], errT, false⟩), (417, some ⟨.agg [], errT, false⟩), (418, some ⟨.agg [], errT, false⟩), (419, some ⟨.agg [], errT, false⟩), (420, some ⟨.agg [], errT, false⟩), (450, some ⟨.agg (offC o (rowsC actN l)), anyT, false⟩)], 1048⟩ (thenA (fun st2 => ∃ q : NSt R (30 * (i + 1)), StLe 287 st2 ⟨[(0, .i64 R), (1, .sl 450 o l.length 5), (5, .ptr 1000 0), (6, .sl 1024 0 2 1), (7, .bool (!q.d)), (8, .i64 ((i : Nat) : Int))], [(1000, some ⟨rowW R q.d 1008 1016 q.x q.y, 51, true⟩), (1008, bK true q.x), (1016, bK true q.y), (1024, some ⟨.aggS [live q.x, live q.y], 9, true⟩), (0, some ⟨.agg [.err 79 (1) (offE eo (1))], errT, false⟩), (1, some ⟨.agg [.err 79 (2) (offE eo (2))], errT, false⟩), (2, some ⟨.agg [.err 79 (3) (offE eo (3))], errT, false⟩), (3, some ⟨.agg [.err 79 (4) (offE eo (4))], errT, false⟩), (4, some ⟨.agg [.err 79 (5) (offE eo (5))], errT, false⟩), (5, some ⟨.agg [.err 79 (6) (offE eo (6))], errT, false⟩), (6, some ⟨.agg [.err 79 (7) (offE eo (7))], errT, false⟩), (7, some ⟨.agg [.err 79 (8) (offE eo (8))], errT, false⟩), (8, some ⟨.agg [.err 79 (9) (offE eo (9))], errT, false⟩), (9, some ⟨.agg [.err 79 (10) (offE eo (10))], errT, false⟩), (10, some ⟨.agg [.err 79 (11) (offE eo (11))], errT, false⟩), (11, some ⟨.agg [.err 79 (12) (offE eo (12))], errT, false⟩), (12, some ⟨.agg [.err 79 (13) (offE eo (13))], errT, false⟩), (13, some ⟨.agg [.err 79 (14) (offE eo (14))], errT, false⟩), (14, some ⟨.agg [.err 79 (15) (offE eo (15))], errT, false⟩), (15, some ⟨.agg [.err 79 (16) (offE eo (16))], errT, false⟩), (16, some ⟨.agg [.err 79 (17) (offE eo (17))], errT, false⟩), (17, some ⟨.agg [.err 79 (18) (offE eo (18))], errT, false⟩), (18, some ⟨.agg [.err 79 (19) (offE eo (19))], errT, false⟩), (19, some ⟨.agg [.err 79 (20) (offE eo (20))], errT, false⟩), (401, some ⟨.agg [], errT, false⟩), (402, some ⟨.agg [], errT, false⟩), (403, some ⟨.agg [], errT, false⟩), (404, some ⟨.agg [], errT, false⟩), (405, some ⟨.agg [], errT, false⟩), (406, some ⟨.agg [], errT, false⟩), (407, some ⟨.agg [], errT, false⟩), (408, some ⟨.agg [], errT, false⟩), (409, some ⟨.agg [], errT, false⟩), (410, some ⟨.agg [], errT, false⟩), (411, some ⟨.agg [], errT, false⟩), (412, some ⟨.agg [], errT, false⟩), (413, some ⟨.agg [], errT, false⟩), (414, some ⟨.agg [], errT, false⟩), (415, some ⟨.agg [], errT, false⟩), (416, some ⟨.agg [], errT, false⟩), (417, some ⟨.agg [], errT, false⟩), (418, some ⟨.agg [], errT, false⟩), (419, some ⟨.agg [], errT, false⟩), (420, some ⟨.agg [], errT, false⟩), (450, some ⟨.agg (offC o (rowsC actN l)), anyT, false⟩)], 1048⟩) (fun _ _ => False)) := by
 have lx2 := live_le hx
 have ly2 := live_le hy
 refine .seq ?_
 refine .region ?_
 refine .q (op_fieldAddr (m := 0) Tryd.underlying28 rfl (by kernel_rfl) rfl) trivial rfl ?_
 refine .as (.ptr 1032 3) rfl ?_
 refine .q (op_load Tryd.underlying9 rfl rfl rfl rfl (by show 3 < 5; decide)) trivial rfl ?_
 refine .q (op_call (U := []) [] [] (cut_ev (l.getD i default).s 30 (l.getD i default).h (by decide)) Tryd.func8 (by kernel_rfl) rfl rfl rfl (⟨⟨_, rfl, rfl, rfl⟩, ⟨_, rfl, rfl, rfl⟩, trivial⟩) (trivial) (trivial) (trivial) rfl) trivial rfl ?_
 skip
 refine .q (op_assign rfl) trivial rfl ?_
 refine .nil ?_
 show Ev _ _ _ _ _
 refine .seq ?_
 refine .region ?_
 refine .q (op_assign rfl) trivial rfl ?_
 refine .nil ?_
 show Ev _ _ _ _ _
 refine .seq ?_
 refine .seq ?_
 refine .region ?_
 refine .q (op_move rfl) trivial rfl ?_
 refine .q (op_cmpI rfl rfl rfl) trivial rfl ?_
 refine .q (op_move rfl) trivial rfl ?_
 refine .know (b' := false) (rfl) ?_
 refine .no ⟨_, rfl, rfl⟩ rfl ?_
 refine .no ⟨_, rfl, rfl⟩ rfl ?_
 refine .no ⟨_, rfl, rfl⟩ rfl ?_
 refine .q (op_pick_false rfl rfl rfl) trivial rfl ?_
 refine .nil ?_
 show Ev _ _ _ _ _
 refine .cond_false rfl rfl ?_
 refine .skip ?_
 show Ev _ _ _ _ _
 refine .seq ?_
 refine .region ?_
 refine .q (op_fieldAddr (m := 0) Tryd.underlying28 rfl (by kernel_rfl) rfl) trivial rfl ?_
 refine .as (.ptr 1032 2) rfl ?_
 refine .q (op_load Tryd.underlying3 rfl rfl rfl rfl (by show 2 < 5; decide)) trivial rfl ?_
 refine .q (op_move rfl) trivial rfl ?_
 refine .q (op_len_str Tryd.underlying9 rfl) trivial rfl ?_
 refine .q (op_minI rfl rfl) trivial rfl ?_
 refine .q (op_maxI rfl rfl) trivial rfl ?_
 refine .as (.i64 0) (congrArg AV.i64 (by show max 0 (min _ (0 : Int)) = 0; omega)) ?_
 refine .q (op_assign rfl) trivial rfl ?_
 refine .nil ?_
 show Ev _ _ _ _ _
 refine .seq ?_
 refine Ev.cutp (ι := NSt R (30 * (i + 1))) (fun q => ⟨[(0, .i64 R), (1, .sl 450 o l.length 5), (5, .ptr 1000 0), (6, .sl 1024 0 2 1), (7, .bool (!q.d)), (8, .i64 ((i : Nat) : Int))], [(1000, some ⟨rowW R q.d 1008 1016 q.x q.y, 51, true⟩), (1008, bK true q.x), (1016, bK true q.y), (1024, some ⟨.aggS [live q.x, live q.y], 9, true⟩), (0, some ⟨.agg [.err 79 (1) (offE eo (1))], errT, false⟩), (1, some ⟨.agg [.err 79 (2) (offE eo (2))], errT, false⟩), (2, some ⟨.agg [.err 79 (3) (offE eo (3))], errT, false⟩), (3, some ⟨.agg [.err 79 (4) (offE eo (4))], errT, false⟩), (4, some ⟨.agg [.err 79 (5) (offE eo (5))], errT, false⟩), (5, some ⟨.agg [.err 79 (6) (offE eo (6))], errT, false⟩), (6, some ⟨.agg [.err 79 (7) (offE eo (7))], errT, false⟩), (7, some ⟨.agg [.err 79 (8) (offE eo (8))], errT, false⟩), (8, some ⟨.agg [.err 79 (9) (offE eo (9))], errT, false⟩), (9, some ⟨.agg [.err 79 (10) (offE eo (10))], errT, false⟩), (10, some ⟨.agg [.err 79 (11) (offE eo (11))], errT, false⟩), (11, some ⟨.agg [.err 79 (12) (offE eo (12))], errT, false⟩), (12, some ⟨.agg [.err 79 (13) (offE eo (13))], errT, false⟩), (13, some ⟨.agg [.err 79 (14) (offE eo (14))], errT, false⟩), (14, some ⟨.agg [.err 79 (15) (offE eo (15))], errT, false⟩), (15, some ⟨.agg [.err 79 (16) (offE eo (16))], errT, false⟩), (16, some ⟨.agg [.err 79 (17) (offE eo (17))], errT, false⟩), (17, some ⟨.agg [.err 79 (18) (offE eo (18))], errT, false⟩), (18, some ⟨.agg [.err 79 (19) (offE eo (19))], errT, false⟩), (19, some ⟨.agg [.err 79 (20) (offE eo (20))], errT, false⟩), (401, some ⟨.agg [], errT, false⟩), (402, some ⟨.agg [], errT, false⟩), (403, some ⟨.agg [], errT, false⟩), (404, some ⟨.agg [], errT, false⟩), (405, some ⟨.agg [], errT, false⟩), (406, some ⟨.agg [], errT, false⟩), (407, some ⟨.agg [], errT, false⟩), (408, some ⟨.agg [], errT, false⟩), (409, some ⟨.agg [], errT, false⟩), (410, some ⟨.agg [], errT, false⟩), (411, some ⟨.agg [], errT, false⟩), (412, some ⟨.agg [], errT, false⟩), (413, some ⟨.agg [], errT, false⟩), (414, some ⟨.agg [], errT, false⟩), (415, some ⟨.agg [], errT, false⟩), (416, some ⟨.agg [], errT, false⟩), (417, some ⟨.agg [], errT, false⟩), (418, some ⟨.agg [], errT, false⟩), (419, some ⟨.agg [], errT, false⟩), (420, some ⟨.agg [], errT, false⟩), (450, some ⟨.agg (offC o (rowsC actN l)), anyT, false⟩)], 1048⟩) ?_ ?_
 ·refine .seq ?_
  refine .region ?_
  refine .q (op_fieldAddr (m := 0) Tryd.underlying28 rfl (by kernel_rfl) rfl) trivial rfl ?_
  refine .as (.ptr 1032 0) rfl ?_
  refine .q (op_load Tryd.underlying3 rfl rfl rfl rfl (by show 0 < 5; decide)) trivial rfl ?_
  refine .nil ?_
  show Ev _ _ _ _ _
  refine .block ?_
  refine .seq ?_
  refine .region ?_
  refine dite ((l.getD i default).k = 0) (fun k0 => ?_) (fun k0 => dite ((l.getD i default).k = 1) (fun k1 => ?_) (fun k1 => dite ((l.getD i default).k = 2) (fun k2 => ?_) (fun k2 => dite ((l.getD i default).k = 3) (fun k3 => ?_) (fun k3 => ?_))))
  ·refine .q (op_cmpI rfl rfl rfl) trivial rfl ?_
   refine .q (op_assign rfl) trivial rfl ?_
   refine .nil ?_
   show Ev _ _ _ _ _
   refine .cond_true rfl (beq_of' k0) ?_
   refine .seq ?_
   refine .region ?_
   refine .q (op_move rfl) trivial rfl ?_
   refine .q (op_fieldAddr (m := 0) Tryd.underlying28 rfl (by kernel_rfl) rfl) trivial rfl ?_
   refine .as (.ptr 1032 1) rfl ?_
   refine .q (op_load Tryd.underlying3 rfl rfl rfl rfl (by show 1 < 5; decide)) trivial rfl ?_
   refine .q (op_move rfl) trivial rfl ?_
   refine .q (op_call (U := []) [(500, 1000)] [] (put_arg (l.getD i default).w hb ((l.getD i default).s.take 30) eo) Tryd.func9 (by kernel_rfl) rfl rfl rfl (⟨⟨_, rfl, rfl, rfl⟩, ⟨_, rfl, rfl, rfl⟩, ⟨_, rfl, rfl, rfl⟩, trivial⟩) (⟨⟨_, _, rfl, rfl, rfl, rfl, (fun h => by cases h), rfl⟩, trivial⟩) (trivial) (⟨(fun h => by cases h), trivial⟩) rfl) trivial rfl ?_
   refine .q (op_move rfl) trivial rfl ?_
   refine .q (op_extract rfl rfl) trivial rfl ?_
   refine .q (op_extract rfl rfl) trivial rfl ?_
   refine .q (op_assign rfl) trivial rfl ?_
   refine .q (op_assign rfl) trivial rfl ?_
   refine .nil ?_
   show Ev _ _ _ _ _
   refine .seq ?_
   refine .region ?_
   refine .q (op_assign rfl) trivial rfl ?_
   refine .nil ?_
   show Ev _ _ _ _ _
   refine .seq ?_
   refine .seq ?_
   refine .region ?_
   refine .q (op_move rfl) trivial rfl ?_
   refine .q (op_cmpI rfl rfl rfl) trivial rfl ?_
   refine .nil ?_
   show Ev _ _ _ _ _
   refine .cond_false rfl (rfl) ?_
   refine .skip ?_
   show Ev _ _ _ _ _
   refine .seq ?_
   refine .region ?_
   refine .q (op_move rfl) trivial rfl ?_
   refine .q (op_move rfl) trivial rfl ?_
   refine .q (op_cmpI rfl rfl rfl) trivial rfl ?_
   refine .q (op_move rfl) trivial rfl ?_
   refine .know (b' := false) (rfl) ?_
   refine .q (op_move rfl) ⟨_, rfl, rfl⟩ rfl ?_
   refine .q (op_call (U := []) [] [] (code_1 eo hd) Tryd.func10 (by kernel_rfl) rfl rfl rfl (⟨⟨_, rfl, rfl, rfl⟩, trivial⟩) (⟨q8, q8, q8, q8, q8, q8, q8, q8, q8, q8, q8, q8, q8, q8, q8, q8, q8, q8, q8, q8, q8, q8, q8, q8, q8, q8, q8, q8, q8, q8, q8, q8, q8, q8, q8, q8, q8, q8, q8, q8, trivial⟩) (trivial) (⟨c8, c8, c8, c8, c8, c8, c8, c8, c8, c8, c8, c8, c8, c8, c8, c8, c8, c8, c8, c8, c8, c8, c8, c8, c8, c8, c8, c8, c8, c8, c8, c8, c8, c8, c8, c8, c8, c8, c8, c8, trivial⟩) rfl) ⟨_, rfl, rfl⟩ rfl ?_
   refine .q (op_move rfl) ⟨_, rfl, rfl⟩ rfl ?_
   refine .q (op_cmpI rfl rfl rfl) ⟨_, rfl, rfl⟩ rfl ?_
   refine .q (op_pick_false rfl rfl rfl) trivial rfl ?_
   refine .nil ?_
   show Ev _ _ _ _ _
   refine .cond_false rfl (rfl) ?_
   refine .skip ?_
   exact ⟨⟨d, x, y, hdd, (hx.mono (by omega)), (hy.mono (by omega)), lx, ly⟩, StLe.mk [(1000, 1000), (1008, 1008), (1016, 1016), (1024, 1024)] rfl rfl ⟨⟨_, rfl, by first | rfl | (simp only [AV.ren]; congr 1; omega), rfl⟩, ⟨_, rfl, by first | rfl | (simp only [AV.ren]; congr 1; omega), rfl⟩, ⟨_, rfl, by first | rfl | (simp only [AV.ren]; congr 1; omega), rfl⟩, ⟨_, rfl, by first | rfl | (simp only [AV.ren]; congr 1; omega), rfl⟩, ⟨_, rfl, by first | rfl | (simp only [AV.ren]; congr 1; omega), rfl⟩, ⟨_, rfl, by first | rfl | (simp only [AV.ren]; congr 1; omega), rfl⟩, trivial⟩ ⟨⟨_, _, rfl, rfl, rowW_ren _ _ _ _ _ _ _, rfl, id, rowW_nm _ _ _ _ _ _ _ rfl rfl⟩, HLe.oc (bK_le rfl rfl) (HLe.oc (bK_le rfl rfl) ⟨⟨_, _, rfl, rfl, rfl, rfl, id, rfl⟩, p8, p8, p8, p8, p8, p8, p8, p8, p8, p8, p8, p8, p8, p8, p8, p8, p8, p8, p8, p8, p8, p8, p8, p8, p8, p8, p8, p8, p8, p8, p8, p8, p8, p8, p8, p8, p8, p8, p8, p8, ⟨_, _, rfl, rfl, offC_ren _ o (rowsC_flat actN_flat l), rfl, id, offC_nm _ o (rowsC_flat actN_flat l)⟩, trivial⟩)⟩⟩
  ·refine .q (op_cmpI rfl rfl rfl) trivial rfl ?_
   refine .q (op_assign rfl) trivial rfl ?_
   refine .nil ?_
   show Ev _ _ _ _ _
   refine .cond_false rfl (beq_no k0) ?_
   refine .seq ?_
   refine .region ?_
   refine .q (op_cmpI rfl rfl rfl) trivial rfl ?_
   refine .q (op_assign rfl) trivial rfl ?_
   refine .nil ?_
   show Ev _ _ _ _ _
   refine .cond_true rfl (beq_of' k1) ?_
   refine .seq ?_
   refine .region ?_
   refine .q (op_move rfl) trivial rfl ?_
   refine .q (op_fieldAddr (m := 0) Tryd.underlying28 rfl (by kernel_rfl) rfl) trivial rfl ?_
   refine .as (.ptr 1032 1) rfl ?_
   refine .q (op_load Tryd.underlying3 rfl rfl rfl rfl (by show 1 < 5; decide)) trivial rfl ?_
   refine .q (op_fieldAddr (m := 0) Tryd.underlying28 rfl (by kernel_rfl) rfl) trivial rfl ?_
   refine .as (.ptr 1032 2) rfl ?_
   refine .q (op_load Tryd.underlying3 rfl rfl rfl rfl (by show 2 < 5; decide)) trivial rfl ?_
   refine .q (op_call (U := []) [(500, 1000)] [] (take_arg (l.getD i default).w hb (l.getD i default).n eo) Tryd.func11 (by kernel_rfl) rfl rfl rfl (⟨⟨_, rfl, rfl, rfl⟩, ⟨_, rfl, rfl, rfl⟩, ⟨_, rfl, rfl, rfl⟩, trivial⟩) (⟨⟨_, _, rfl, rfl, rfl, rfl, (fun h => by cases h), rfl⟩, trivial⟩) (trivial) (⟨(fun h => by cases h), trivial⟩) rfl) trivial rfl ?_
   refine .q (op_move rfl) trivial rfl ?_
   refine .q (op_extract rfl rfl) trivial rfl ?_
   refine .q (op_extract rfl rfl) trivial rfl ?_
   refine .q (op_assign rfl) trivial rfl ?_
   refine .q (op_assign rfl) trivial rfl ?_
   refine .nil ?_
   show Ev _ _ _ _ _
   refine .seq ?_
   refine .seq ?_
   refine .region ?_
   refine .q (op_move rfl) trivial rfl ?_
   refine .q (op_cmpI rfl rfl rfl) trivial rfl ?_
   refine .nil ?_
   show Ev _ _ _ _ _
   refine .cond_false rfl (rfl) ?_
   refine .skip ?_
   show Ev _ _ _ _ _
   refine .seq ?_
   refine .region ?_
   refine .q (op_move rfl) trivial rfl ?_
   refine .q (op_move rfl) trivial rfl ?_
   refine .q (op_move rfl) trivial rfl ?_
   refine .q (ap_slice_str_hi Tryd.underlying9 rfl (bnd_some rfl rfl) (Nat.zero_le _)) trivial rfl ?_
   refine .q (op_eqS rfl rfl rfl) trivial rfl ?_
   refine .q (op_move rfl) trivial rfl ?_
   refine .know (b' := false) (rfl) ?_
   refine .q (op_move rfl) ⟨_, rfl, rfl⟩ rfl ?_
   refine .q (op_call (U := []) [] [] (code_1 eo hd) Tryd.func10 (by kernel_rfl) rfl rfl rfl (⟨⟨_, rfl, rfl, rfl⟩, trivial⟩) (⟨q8, q8, q8, q8, q8, q8, q8, q8, q8, q8, q8, q8, q8, q8, q8, q8, q8, q8, q8, q8, q8, q8, q8, q8, q8, q8, q8, q8, q8, q8, q8, q8, q8, q8, q8, q8, q8, q8, q8, q8, trivial⟩) (trivial) (⟨c8, c8, c8, c8, c8, c8, c8, c8, c8, c8, c8, c8, c8, c8, c8, c8, c8, c8, c8, c8, c8, c8, c8, c8, c8, c8, c8, c8, c8, c8, c8, c8, c8, c8, c8, c8, c8, c8, c8, c8, trivial⟩) rfl) ⟨_, rfl, rfl⟩ rfl ?_
   refine .q (op_move rfl) ⟨_, rfl, rfl⟩ rfl ?_
   refine .q (op_cmpI rfl rfl rfl) ⟨_, rfl, rfl⟩ rfl ?_
   refine .q (op_pick_false rfl rfl rfl) trivial rfl ?_
   refine .nil ?_
   show Ev _ _ _ _ _
   refine .cond_false rfl (rfl) ?_
   refine .skip ?_
   exact ⟨⟨d, x, y, hdd, (hx.mono (by omega)), (hy.mono (by omega)), lx, ly⟩, StLe.mk [(1000, 1000), (1008, 1008), (1016, 1016), (1024, 1024)] rfl rfl ⟨⟨_, rfl, by first | rfl | (simp only [AV.ren]; congr 1; omega), rfl⟩, ⟨_, rfl, by first | rfl | (simp only [AV.ren]; congr 1; omega), rfl⟩, ⟨_, rfl, by first | rfl | (simp only [AV.ren]; congr 1; omega), rfl⟩, ⟨_, rfl, by first | rfl | (simp only [AV.ren]; congr 1; omega), rfl⟩, ⟨_, rfl, by first | rfl | (simp only [AV.ren]; congr 1; omega), rfl⟩, ⟨_, rfl, by first | rfl | (simp only [AV.ren]; congr 1; omega), rfl⟩, trivial⟩ ⟨⟨_, _, rfl, rfl, rowW_ren _ _ _ _ _ _ _, rfl, id, rowW_nm _ _ _ _ _ _ _ rfl rfl⟩, HLe.oc (bK_le rfl rfl) (HLe.oc (bK_le rfl rfl) ⟨⟨_, _, rfl, rfl, rfl, rfl, id, rfl⟩, p8, p8, p8, p8, p8, p8, p8, p8, p8, p8, p8, p8, p8, p8, p8, p8, p8, p8, p8, p8, p8, p8, p8, p8, p8, p8, p8, p8, p8, p8, p8, p8, p8, p8, p8, p8, p8, p8, p8, p8, ⟨_, _, rfl, rfl, offC_ren _ o (rowsC_flat actN_flat l), rfl, id, offC_nm _ o (rowsC_flat actN_flat l)⟩, trivial⟩)⟩⟩
  ·refine .q (op_cmpI rfl rfl rfl) trivial rfl ?_
   refine .q (op_assign rfl) trivial rfl ?_
   refine .nil ?_
   show Ev _ _ _ _ _
   refine .cond_false rfl (beq_no k0) ?_
   refine .seq ?_
   refine .region ?_
   refine .q (op_cmpI rfl rfl rfl) trivial rfl ?_
   refine .q (op_assign rfl) trivial rfl ?_
   refine .nil ?_
   show Ev _ _ _ _ _
   refine .cond_false rfl (beq_no k1) ?_
   refine .seq ?_
   refine .region ?_
   refine .q (op_cmpI rfl rfl rfl) trivial rfl ?_
   refine .q (op_assign rfl) trivial rfl ?_
   refine .nil ?_
   show Ev _ _ _ _ _
   refine .cond_true rfl (beq_of' k2) ?_
   refine .seq ?_
   refine .region ?_
   refine .q (op_move rfl) trivial rfl ?_
   refine .q (op_fieldAddr (m := 0) Tryd.underlying28 rfl (by kernel_rfl) rfl) trivial rfl ?_
   refine .as (.ptr 1032 1) rfl ?_
   refine .q (op_load Tryd.underlying3 rfl rfl rfl rfl (by show 1 < 5; decide)) trivial rfl ?_
   refine .q (op_fieldAddr (m := 0) Tryd.underlying28 rfl (by kernel_rfl) rfl) trivial rfl ?_
   refine .as (.ptr 1032 2) rfl ?_
   refine .q (op_load Tryd.underlying3 rfl rfl rfl rfl (by show 2 < 5; decide)) trivial rfl ?_
   refine .q (op_fieldAddr (m := 0) Tryd.underlying28 rfl (by kernel_rfl) rfl) trivial rfl ?_
   refine .as (.ptr 1032 4) rfl ?_
   refine .q (op_load Tryd.underlying5 rfl rfl rfl rfl (by show 4 < 5; decide)) trivial rfl ?_
   refine .q (op_call (U := []) [(500, 1000)] [] (bend_arg (l.getD i default).w hb (l.getD i default).n (l.getD i default).y eo) Tryd.func12 (by kernel_rfl) rfl rfl rfl (⟨⟨_, rfl, rfl, rfl⟩, ⟨_, rfl, rfl, rfl⟩, ⟨_, rfl, rfl, rfl⟩, ⟨_, rfl, rfl, rfl⟩, trivial⟩) (⟨⟨_, _, rfl, rfl, rfl, rfl, (fun h => by cases h), rfl⟩, trivial⟩) (trivial) (⟨(fun h => by cases h), trivial⟩) rfl) trivial rfl ?_
   refine .q (op_assign rfl) trivial rfl ?_
   refine .nil ?_
   show Ev _ _ _ _ _
   refine .seq ?_
   refine .seq ?_
   refine .region ?_
   refine .q (op_move rfl) trivial rfl ?_
   refine .q (op_cmpI rfl rfl rfl) trivial rfl ?_
   refine .q (op_move rfl) trivial rfl ?_
   refine .know (b' := false) (rfl) ?_
   refine .no ⟨_, rfl, rfl⟩ rfl ?_
   refine .no ⟨_, rfl, rfl⟩ rfl ?_
   refine .no ⟨_, rfl, rfl⟩ rfl ?_
   refine .no ⟨_, rfl, rfl⟩ rfl ?_
   refine .noU ⟨_, rfl, rfl⟩ rfl ?_
   refine .noU ⟨_, rfl, rfl⟩ rfl ?_
   refine .noU ⟨_, rfl, rfl⟩ rfl ?_
   refine .noU ⟨_, rfl, rfl⟩ rfl ?_
   refine .noU ⟨_, rfl, rfl⟩ rfl ?_
   refine .no ⟨_, rfl, rfl⟩ rfl ?_
   refine .q (op_pick_false rfl rfl rfl) trivial rfl ?_
   refine .nil ?_
   show Ev _ _ _ _ _
   refine .cond_false rfl rfl ?_
   refine .skip ?_
   show Ev _ _ _ _ _
   refine .seq ?_
   refine .seq ?_
   refine .region ?_
   refine .q (op_move rfl) trivial rfl ?_
   refine .q (op_cmpI rfl rfl rfl) trivial rfl ?_
   refine .nil ?_
   show Ev _ _ _ _ _
   refine .cond_false rfl (rfl) ?_
   refine .skip ?_
   show Ev _ _ _ _ _
   refine .seq ?_
   refine .region ?_
   refine .q (op_move rfl) trivial rfl ?_
   refine .q (op_call (U := []) [] [] (code_1 eo hd) Tryd.func10 (by kernel_rfl) rfl rfl rfl (⟨⟨_, rfl, rfl, rfl⟩, trivial⟩) (⟨q8, q8, q8, q8, q8, q8, q8, q8, q8, q8, q8, q8, q8, q8, q8, q8, q8, q8, q8, q8, q8, q8, q8, q8, q8, q8, q8, q8, q8, q8, q8, q8, q8, q8, q8, q8, q8, q8, q8, q8, trivial⟩) (trivial) (⟨c8, c8, c8, c8, c8, c8, c8, c8, c8, c8, c8, c8, c8, c8, c8, c8, c8, c8, c8, c8, c8, c8, c8, c8, c8, c8, c8, c8, c8, c8, c8, c8, c8, c8, c8, c8, c8, c8, c8, c8, trivial⟩) rfl) trivial rfl ?_
   refine .q (op_move rfl) trivial rfl ?_
   refine .q (op_cmpI rfl rfl rfl) trivial rfl ?_
   refine .nil ?_
   show Ev _ _ _ _ _
   refine .cond_false rfl (rfl) ?_
   refine .skip ?_
   exact ⟨⟨d, x, y, hdd, (hx.mono (by omega)), (hy.mono (by omega)), lx, ly⟩, StLe.mk [(1000, 1000), (1008, 1008), (1016, 1016), (1024, 1024)] rfl rfl ⟨⟨_, rfl, by first | rfl | (simp only [AV.ren]; congr 1; omega), rfl⟩, ⟨_, rfl, by first | rfl | (simp only [AV.ren]; congr 1; omega), rfl⟩, ⟨_, rfl, by first | rfl | (simp only [AV.ren]; congr 1; omega), rfl⟩, ⟨_, rfl, by first | rfl | (simp only [AV.ren]; congr 1; omega), rfl⟩, ⟨_, rfl, by first | rfl | (simp only [AV.ren]; congr 1; omega), rfl⟩, ⟨_, rfl, by first | rfl | (simp only [AV.ren]; congr 1; omega), rfl⟩, trivial⟩ ⟨⟨_, _, rfl, rfl, rowW_ren _ _ _ _ _ _ _, rfl, id, rowW_nm _ _ _ _ _ _ _ rfl rfl⟩, HLe.oc (bK_le rfl rfl) (HLe.oc (bK_le rfl rfl) ⟨⟨_, _, rfl, rfl, rfl, rfl, id, rfl⟩, p8, p8, p8, p8, p8, p8, p8, p8, p8, p8, p8, p8, p8, p8, p8, p8, p8, p8, p8, p8, p8, p8, p8, p8, p8, p8, p8, p8, p8, p8, p8, p8, p8, p8, p8, p8, p8, p8, p8, p8, ⟨_, _, rfl, rfl, offC_ren _ o (rowsC_flat actN_flat l), rfl, id, offC_nm _ o (rowsC_flat actN_flat l)⟩, trivial⟩)⟩⟩
  ·refine .q (op_cmpI rfl rfl rfl) trivial rfl ?_
   refine .q (op_assign rfl) trivial rfl ?_
   refine .nil ?_
   show Ev _ _ _ _ _
   refine .cond_false rfl (beq_no k0) ?_
   refine .seq ?_
   refine .region ?_
   refine .q (op_cmpI rfl rfl rfl) trivial rfl ?_
   refine .q (op_assign rfl) trivial rfl ?_
   refine .nil ?_
   show Ev _ _ _ _ _
   refine .cond_false rfl (beq_no k1) ?_
   refine .seq ?_
   refine .region ?_
   refine .q (op_cmpI rfl rfl rfl) trivial rfl ?_
   refine .q (op_assign rfl) trivial rfl ?_
   refine .nil ?_
   show Ev _ _ _ _ _
   refine .cond_false rfl (beq_no k2) ?_
   refine .seq ?_
   refine .region ?_
   refine .q (op_cmpI rfl rfl rfl) trivial rfl ?_
   refine .q (op_assign rfl) trivial rfl ?_
   refine .nil ?_
   show Ev _ _ _ _ _
   refine .cond_true rfl (beq_of' k3) ?_
   refine .seq ?_
   refine .region ?_
   refine .q (op_move rfl) trivial rfl ?_
   refine .q (op_fieldAddr (m := 0) Tryd.underlying28 rfl (by kernel_rfl) rfl) trivial rfl ?_
   refine .as (.ptr 1032 1) rfl ?_
   refine .q (op_load Tryd.underlying3 rfl rfl rfl rfl (by show 1 < 5; decide)) trivial rfl ?_
   refine .q (op_fieldAddr (m := 0) Tryd.underlying28 rfl (by kernel_rfl) rfl) trivial rfl ?_
   refine .as (.ptr 1032 2) rfl ?_
   refine .q (op_load Tryd.underlying3 rfl rfl rfl rfl (by show 2 < 5; decide)) trivial rfl ?_
   refine .q (op_call (U := []) [(500, 1000)] [] (lose_arg (l.getD i default).w hb (l.getD i default).n eo) Tryd.func13 (by kernel_rfl) rfl rfl rfl (⟨⟨_, rfl, rfl, rfl⟩, ⟨_, rfl, rfl, rfl⟩, ⟨_, rfl, rfl, rfl⟩, trivial⟩) (⟨⟨_, _, rfl, rfl, rfl, rfl, (fun h => by cases h), rfl⟩, trivial⟩) (trivial) (⟨(fun h => by cases h), trivial⟩) rfl) trivial rfl ?_
   refine .q (op_move rfl) trivial rfl ?_
   refine .q (op_extract rfl rfl) trivial rfl ?_
   refine .q (op_extract rfl rfl) trivial rfl ?_
   refine .q (op_assign rfl) trivial rfl ?_
   refine .q (op_assign rfl) trivial rfl ?_
   refine .nil ?_
   show Ev _ _ _ _ _
   refine .seq ?_
   refine .seq ?_
   refine .region ?_
   refine .q (op_move rfl) trivial rfl ?_
   refine .q (op_cmpI rfl rfl rfl) trivial rfl ?_
   refine .nil ?_
   show Ev _ _ _ _ _
   refine .cond_false rfl (rfl) ?_
   refine .skip ?_
   show Ev _ _ _ _ _
   refine .seq ?_
   refine .region ?_
   refine .q (op_move rfl) trivial rfl ?_
   refine .q (op_move rfl) trivial rfl ?_
   refine .q (op_cmpI rfl rfl rfl) trivial rfl ?_
   refine .q (op_move rfl) trivial rfl ?_
   refine .know (b' := false) (rfl) ?_
   refine .q (op_move rfl) ⟨_, rfl, rfl⟩ rfl ?_
   refine .q (op_call (U := []) [] [] (code_1 eo hd) Tryd.func10 (by kernel_rfl) rfl rfl rfl (⟨⟨_, rfl, rfl, rfl⟩, trivial⟩) (⟨q8, q8, q8, q8, q8, q8, q8, q8, q8, q8, q8, q8, q8, q8, q8, q8, q8, q8, q8, q8, q8, q8, q8, q8, q8, q8, q8, q8, q8, q8, q8, q8, q8, q8, q8, q8, q8, q8, q8, q8, trivial⟩) (trivial) (⟨c8, c8, c8, c8, c8, c8, c8, c8, c8, c8, c8, c8, c8, c8, c8, c8, c8, c8, c8, c8, c8, c8, c8, c8, c8, c8, c8, c8, c8, c8, c8, c8, c8, c8, c8, c8, c8, c8, c8, c8, trivial⟩) rfl) ⟨_, rfl, rfl⟩ rfl ?_
   refine .q (op_move rfl) ⟨_, rfl, rfl⟩ rfl ?_
   refine .q (op_cmpI rfl rfl rfl) ⟨_, rfl, rfl⟩ rfl ?_
   refine .q (op_pick_false rfl rfl rfl) trivial rfl ?_
   refine .nil ?_
   show Ev _ _ _ _ _
   refine .cond_false rfl (rfl) ?_
   refine .skip ?_
   exact ⟨⟨d, x, y, hdd, (hx.mono (by omega)), (hy.mono (by omega)), lx, ly⟩, StLe.mk [(1000, 1000), (1008, 1008), (1016, 1016), (1024, 1024)] rfl rfl ⟨⟨_, rfl, by first | rfl | (simp only [AV.ren]; congr 1; omega), rfl⟩, ⟨_, rfl, by first | rfl | (simp only [AV.ren]; congr 1; omega), rfl⟩, ⟨_, rfl, by first | rfl | (simp only [AV.ren]; congr 1; omega), rfl⟩, ⟨_, rfl, by first | rfl | (simp only [AV.ren]; congr 1; omega), rfl⟩, ⟨_, rfl, by first | rfl | (simp only [AV.ren]; congr 1; omega), rfl⟩, ⟨_, rfl, by first | rfl | (simp only [AV.ren]; congr 1; omega), rfl⟩, trivial⟩ ⟨⟨_, _, rfl, rfl, rowW_ren _ _ _ _ _ _ _, rfl, id, rowW_nm _ _ _ _ _ _ _ rfl rfl⟩, HLe.oc (bK_le rfl rfl) (HLe.oc (bK_le rfl rfl) ⟨⟨_, _, rfl, rfl, rfl, rfl, id, rfl⟩, p8, p8, p8, p8, p8, p8, p8, p8, p8, p8, p8, p8, p8, p8, p8, p8, p8, p8, p8, p8, p8, p8, p8, p8, p8, p8, p8, p8, p8, p8, p8, p8, p8, p8, p8, p8, p8, p8, p8, p8, ⟨_, _, rfl, rfl, offC_ren _ o (rowsC_flat actN_flat l), rfl, id, offC_nm _ o (rowsC_flat actN_flat l)⟩, trivial⟩)⟩⟩
  ·refine .q (op_cmpI rfl rfl rfl) trivial rfl ?_
   refine .q (op_assign rfl) trivial rfl ?_
   refine .nil ?_
   show Ev _ _ _ _ _
   refine .cond_false rfl (beq_no k0) ?_
   refine .seq ?_
   refine .region ?_
   refine .q (op_cmpI rfl rfl rfl) trivial rfl ?_
   refine .q (op_assign rfl) trivial rfl ?_
   refine .nil ?_
   show Ev _ _ _ _ _
   refine .cond_false rfl (beq_no k1) ?_
   refine .seq ?_
   refine .region ?_
   refine .q (op_cmpI rfl rfl rfl) trivial rfl ?_
   refine .q (op_assign rfl) trivial rfl ?_
   refine .nil ?_
   show Ev _ _ _ _ _
   refine .cond_false rfl (beq_no k2) ?_
   refine .seq ?_
   refine .region ?_
   refine .q (op_cmpI rfl rfl rfl) trivial rfl ?_
   refine .q (op_assign rfl) trivial rfl ?_
   refine .nil ?_
   show Ev _ _ _ _ _
   refine .cond_false rfl (beq_no k3) ?_
   refine .skip ?_
   exact ⟨⟨d, x, y, hdd, (hx.mono (by omega)), (hy.mono (by omega)), lx, ly⟩, StLe.mk [(1000, 1000), (1008, 1008), (1016, 1016), (1024, 1024)] rfl rfl ⟨⟨_, rfl, by first | rfl | (simp only [AV.ren]; congr 1; omega), rfl⟩, ⟨_, rfl, by first | rfl | (simp only [AV.ren]; congr 1; omega), rfl⟩, ⟨_, rfl, by first | rfl | (simp only [AV.ren]; congr 1; omega), rfl⟩, ⟨_, rfl, by first | rfl | (simp only [AV.ren]; congr 1; omega), rfl⟩, ⟨_, rfl, by first | rfl | (simp only [AV.ren]; congr 1; omega), rfl⟩, ⟨_, rfl, by first | rfl | (simp only [AV.ren]; congr 1; omega), rfl⟩, trivial⟩ ⟨⟨_, _, rfl, rfl, rowW_ren _ _ _ _ _ _ _, rfl, id, rowW_nm _ _ _ _ _ _ _ rfl rfl⟩, HLe.oc (bK_le rfl rfl) (HLe.oc (bK_le rfl rfl) ⟨⟨_, _, rfl, rfl, rfl, rfl, id, rfl⟩, p8, p8, p8, p8, p8, p8, p8, p8, p8, p8, p8, p8, p8, p8, p8, p8, p8, p8, p8, p8, p8, p8, p8, p8, p8, p8, p8, p8, p8, p8, p8, p8, p8, p8, p8, p8, p8, p8, p8, p8, ⟨_, _, rfl, rfl, offC_ren _ o (rowsC_flat actN_flat l), rfl, id, offC_nm _ o (rowsC_flat actN_flat l)⟩, trivial⟩)⟩⟩
 ·rintro ⟨d', x', y', hd', hx', hy', lx', ly'⟩
  exact plays_rest eo R hR0 hR1 o l i h120 d' x' y' hd' hx' hy' lx' ly'
set_option maxHeartbeats 8000000 in
set_option maxRecDepth 100000 in
theorem plays_C (eo : Nat → Nat × Nat) (hd : ∀ i j, i < 20 → j < 20 → i ≠ j → eo i ≠ eo j) (R : Int) (hR0 : 0 ≤ R) (hR1 : R ≤ 1000000000) (o : Nat) (l : List ActN) (hl2 : l.length ≤ 9223372036854775807) (i : Nat) (hil : i < l.length) (h120 : i < 120) (lx : ((live none).length : Int) ≤ R) (ly : ((live none).length : Int) ≤ R) (hk : (l.getD i default).k ≠ 4) (hb0 : 0 ≤ (l.getD i default).w) (hb1 : (l.getD i default).w < 2) :
  Ev Tryd.prog 287 (codeAt [true, true, true, true, true, true, true, false, true, false, false, true, false, false, true, true, true] ((Tryd.f3).body.getD .skip)) ⟨[(0, .i64 R), (1, .sl 450 o l.length 5), (5, .ptr 1000 0), (6, .sl 1024 0 2 1), (7, .bool (!true)), (8, .i64 ((i : Nat) : Int)), (9, .ptr 1032 0), (10, .i64 18)], [(1000, some ⟨rowW R true 1008 1016 none none, 51, true⟩), (1008, bK true none), (1016, bK true none), (1024, some ⟨.aggS [live none, live none], 9, true⟩), (1032, some ⟨.agg (actN (l.getD i default)), 28, true⟩), (0, some ⟨.agg [.err 79 (1) (offE eo (1))], errT, false⟩), (1, some ⟨.agg [.err 79 (2) (offE eo (2))], errT, false⟩), (2, some ⟨.agg [.err 79 (3) (offE eo (3))], errT, false⟩), (3, some ⟨.agg [.err 79 (4) (offE eo (4))], errT, false⟩), (4, some ⟨.agg [.err 79 (5) (offE eo (5))], errT, false⟩), (5, some ⟨.agg [.err 79 (6) (offE eo (6))], errT, false⟩), (6, some ⟨.agg [.err 79 (7) (offE eo (7))], errT, false⟩), (7, some ⟨.agg [.err 79 (8) (offE eo (8))], errT, false⟩), (8, some ⟨.agg [.err 79 (9) (offE eo (9))], errT, false⟩), (9, some ⟨.agg [.err 79 (10) (offE eo (10))], errT, false⟩), (10, some ⟨.agg [.err 79 (11) (offE eo (11))], errT, false⟩), (11, some ⟨.agg [.err 79 (12) (offE eo (12))], errT, false⟩), (12, some ⟨.agg [.err 79 (13) (offE eo (13))], errT, false⟩), (13, some ⟨.agg [.err 79 (14) (offE eo (14))], errT, false⟩), (14, some ⟨.agg [.err 79 (15) (offE eo (15))], errT, false⟩), (15, some ⟨.agg [.err 79 (16) (offE eo (16))], errT, false⟩), (16, some ⟨.agg [.err 79 (17) (offE eo (17))], errT, false⟩), (17, some ⟨.agg [.err 79 (18) (offE eo (18))], errT, false⟩), (18, some ⟨.agg [.err 79 (19) (offE eo (19))], errT, false⟩), (19, some ⟨.agg [.err 79 (20) (offE eo (20))], errT, false⟩), (401, some ⟨.agg [], errT, false⟩), (402, some ⟨.agg [], errT, false⟩), (403, some ⟨.agg [], errT, false⟩), (404, some ⟨.agg [], errT, false⟩), (405, some ⟨.agg [], errT, false⟩), (406, some ⟨.agg [], errT, false⟩), (407, some ⟨.agg [], errT, false⟩), (408, some ⟨.agg [], errT, false⟩), (409, some ⟨.agg [], errT, false⟩), (410, some ⟨.agg [], errT, false⟩), (411, some ⟨.agg [], errT, false⟩), (412, some ⟨.agg [], errT, false⟩), (413, some ⟨.agg [], errT, false⟩), (414, some ⟨.agg [], errT, false⟩), (415, some ⟨.agg [], errT, false⟩), (416, some ⟨.agg [], errT, false⟩), (417, some ⟨.agg [], errT, false⟩), (418, some ⟨.agg [], errT, false⟩), (419, some ⟨.agg [], errT, false⟩), (420, some ⟨.agg [], errT, false⟩), (450, some ⟨.agg (offC o (rowsC actN l)), anyT, false⟩)], 1048⟩ (thenA (fun st2 => ∃ q : NSt R (30 * (i + 1)), StLe 287 st2 ⟨[(0, .i64 R), (1, .sl 450 o l.length 5), (5, .ptr 1000 0), (6, .sl 1024 0 2 1), (7, .bool (!q.d)), (8, .i64 ((i : Nat) : Int))], [(1000, some ⟨rowW R q.d 1008 1016 q.x q.y, 51, true⟩), (1008, bK true q.x), (1016, bK true q.y), (1024, some ⟨.aggS [live q.x, live q.y], 9, true⟩), (0, some ⟨.agg [.err 79 (1) (offE eo (1))], errT, false⟩), (1, some ⟨.agg [.err 79 (2) (offE eo (2))], errT, false⟩), (2, some ⟨.agg [.err 79 (3) (offE eo (3))], errT, false⟩), (3, some ⟨.agg [.err 79 (4) (offE eo (4))], errT, false⟩), (4, some ⟨.agg [.err 79 (5) (offE eo (5))], errT, false⟩), (5, some ⟨.agg [.err 79 (6) (offE eo (6))], errT, false⟩), (6, some ⟨.agg [.err 79 (7) (offE eo (7))], errT, false⟩), (7, some ⟨.agg [.err 79 (8) (offE eo (8))], errT, false⟩), (8, some ⟨.agg [.err 79 (9) (offE eo (9))], errT, false⟩), (9, some ⟨.agg [.err 79 (10) (offE eo (10))], errT, false⟩), (10, some ⟨.agg [.err 79 (11) (offE eo (11))], errT, false⟩), (11, some ⟨.agg [.err 79 (12) (offE eo (12))], errT, false⟩), (12, some ⟨.agg [.err 79 (13) (offE eo (13))], errT, false⟩), (13, some ⟨.agg [.err 79 (14) (offE eo (14))], errT, false⟩), (14, some ⟨.agg [.err 79 (15) (offE eo (15))], errT, false⟩), (15, some ⟨.agg [.err 79 (16) (offE eo (16))], errT, false⟩), (16, some ⟨.agg [.err 79 (17) (offE eo (17))], errT, false⟩), (17, some ⟨.agg [.err 79 (18) (offE eo (18))], errT, false⟩), (18, some ⟨.agg [.err 79 (19) (offE eo (19))], errT, false⟩), (19, some ⟨.agg [.err 79 (20) (offE eo (20))], errT, false⟩), (401, some ⟨.agg [], errT, false⟩), (402, some ⟨.agg [], errT, false⟩), (403, some ⟨.agg [], errT, false⟩), (404, some ⟨.agg [], errT, false⟩), (405, some ⟨.agg [], errT, false⟩), (406, some ⟨.agg [], errT, false⟩), (407, some ⟨.agg [], errT, false⟩), (408, some ⟨.agg [], errT, false⟩), (409, some ⟨.agg [], errT, false⟩), (410, some ⟨.agg [], errT, false⟩), (411, some ⟨.agg [], errT, false⟩), (412, some ⟨.agg [], errT, false⟩), (413, some ⟨.agg [], errT, false⟩), (414, some ⟨.agg [], errT, false⟩), (415, some ⟨.agg [], errT, false⟩), (416, some ⟨.agg [], errT, false⟩), (417, some ⟨.agg [], errT, false⟩), (418, some ⟨.agg [], errT, false⟩), (419, some ⟨.agg [], errT, false⟩), (420, some ⟨.agg [], errT, false⟩), (450, some ⟨.agg (offC o (rowsC actN l)), anyT, false⟩)], 1048⟩) (fun _ _ => False)) := by
 have hx : BOk none (30 * i) := trivial
 have hy : BOk none (30 * i) := trivial
 refine .seq ?_
 refine .region ?_
 refine .q (op_fieldAddr (m := 0) Tryd.underlying28 rfl (by kernel_rfl) rfl) trivial rfl ?_
 refine .as (.ptr 1032 3) rfl ?_
 refine .q (op_load Tryd.underlying9 rfl rfl rfl rfl (by show 3 < 5; decide)) trivial rfl ?_
 refine .q (op_call (U := []) [] [] (cut_ev (l.getD i default).s 30 (l.getD i default).h (by decide)) Tryd.func8 (by kernel_rfl) rfl rfl rfl (⟨⟨_, rfl, rfl, rfl⟩, ⟨_, rfl, rfl, rfl⟩, trivial⟩) (trivial) (trivial) (trivial) rfl) trivial rfl ?_
 skip
 refine .q (op_assign rfl) trivial rfl ?_
 refine .nil ?_
 show Ev _ _ _ _ _
 refine .seq ?_
 refine .region ?_
 refine .q (op_assign rfl) trivial rfl ?_
 refine .nil ?_
 show Ev _ _ _ _ _
 refine .seq ?_
 refine .seq ?_
 refine .region ?_
 refine .q (op_move rfl) trivial rfl ?_
 refine .q (op_cmpI rfl rfl rfl) trivial rfl ?_
 refine .q (op_move rfl) trivial rfl ?_
 refine .know (b' := false) (rfl) ?_
 refine .no ⟨_, rfl, rfl⟩ rfl ?_
 refine .no ⟨_, rfl, rfl⟩ rfl ?_
 refine .no ⟨_, rfl, rfl⟩ rfl ?_
 refine .q (op_pick_false rfl rfl rfl) trivial rfl ?_
 refine .nil ?_
 show Ev _ _ _ _ _
 refine .cond_false rfl rfl ?_
 refine .skip ?_
 show Ev _ _ _ _ _
 refine .seq ?_
 refine .region ?_
 refine .q (op_fieldAddr (m := 0) Tryd.underlying28 rfl (by kernel_rfl) rfl) trivial rfl ?_
 refine .as (.ptr 1032 2) rfl ?_
 refine .q (op_load Tryd.underlying3 rfl rfl rfl rfl (by show 2 < 5; decide)) trivial rfl ?_
 refine .q (op_move rfl) trivial rfl ?_
 refine .q (op_len_str Tryd.underlying9 rfl) trivial rfl ?_
 refine .q (op_minI rfl rfl) trivial rfl ?_
 refine .q (op_maxI rfl rfl) trivial rfl ?_
 refine .as (.i64 0) (congrArg AV.i64 (by show max 0 (min _ (0 : Int)) = 0; omega)) ?_
 refine .q (op_assign rfl) trivial rfl ?_
 refine .nil ?_
 show Ev _ _ _ _ _
 refine .seq ?_
 refine Ev.cutp (ι := NSt R (30 * (i + 1))) (fun q => ⟨[(0, .i64 R), (1, .sl 450 o l.length 5), (5, .ptr 1000 0), (6, .sl 1024 0 2 1), (7, .bool (!q.d)), (8, .i64 ((i : Nat) : Int))], [(1000, some ⟨rowW R q.d 1008 1016 q.x q.y, 51, true⟩), (1008, bK true q.x), (1016, bK true q.y), (1024, some ⟨.aggS [live q.x, live q.y], 9, true⟩), (0, some ⟨.agg [.err 79 (1) (offE eo (1))], errT, false⟩), (1, some ⟨.agg [.err 79 (2) (offE eo (2))], errT, false⟩), (2, some ⟨.agg [.err 79 (3) (offE eo (3))], errT, false⟩), (3, some ⟨.agg [.err 79 (4) (offE eo (4))], errT, false⟩), (4, some ⟨.agg [.err 79 (5) (offE eo (5))], errT, false⟩), (5, some ⟨.agg [.err 79 (6) (offE eo (6))], errT, false⟩), (6, some ⟨.agg [.err 79 (7) (offE eo (7))], errT, false⟩), (7, some ⟨.agg [.err 79 (8) (offE eo (8))], errT, false⟩), (8, some ⟨.agg [.err 79 (9) (offE eo (9))], errT, false⟩), (9, some ⟨.agg [.err 79 (10) (offE eo (10))], errT, false⟩), (10, some ⟨.agg [.err 79 (11) (offE eo (11))], errT, false⟩), (11, some ⟨.agg [.err 79 (12) (offE eo (12))], errT, false⟩), (12, some ⟨.agg [.err 79 (13) (offE eo (13))], errT, false⟩), (13, some ⟨.agg [.err 79 (14) (offE eo (14))], errT, false⟩), (14, some ⟨.agg [.err 79 (15) (offE eo (15))], errT, false⟩), (15, some ⟨.agg [.err 79 (16) (offE eo (16))], errT, false⟩), (16, some ⟨.agg [.err 79 (17) (offE eo (17))], errT, false⟩), (17, some ⟨.agg [.err 79 (18) (offE eo (18))], errT, false⟩), (18, some ⟨.agg [.err 79 (19) (offE eo (19))], errT, false⟩), (19, some ⟨.agg [.err 79 (20) (offE eo (20))], errT, false⟩), (401, some ⟨.agg [], errT, false⟩), (402, some ⟨.agg [], errT, false⟩), (403, some ⟨.agg [], errT, false⟩), (404, some ⟨.agg [], errT, false⟩), (405, some ⟨.agg [], errT, false⟩), (406, some ⟨.agg [], errT, false⟩), (407, some ⟨.agg [], errT, false⟩), (408, some ⟨.agg [], errT, false⟩), (409, some ⟨.agg [], errT, false⟩), (410, some ⟨.agg [], errT, false⟩), (411, some ⟨.agg [], errT, false⟩), (412, some ⟨.agg [], errT, false⟩), (413, some ⟨.agg [], errT, false⟩), (414, some ⟨.agg [], errT, false⟩), (415, some ⟨.agg [], errT, false⟩), (416, some ⟨.agg [], errT, false⟩), (417, some ⟨.agg [], errT, false⟩), (418, some ⟨.agg [], errT, false⟩), (419, some ⟨.agg [], errT, false⟩), (420, some ⟨.agg [], errT, false⟩), (450, some ⟨.agg (offC o (rowsC actN l)), anyT, false⟩)], 1048⟩) ?_ ?_
 ·refine .seq ?_
  refine .region ?_
  refine .q (op_fieldAddr (m := 0) Tryd.underlying28 rfl (by kernel_rfl) rfl) trivial rfl ?_
  refine .as (.ptr 1032 0) rfl ?_
  refine .q (op_load Tryd.underlying3 rfl rfl rfl rfl (by show 0 < 5; decide)) trivial rfl ?_
  refine .nil ?_
  show Ev _ _ _ _ _
  refine .block ?_
  refine .seq ?_
  refine .region ?_
  refine dite ((l.getD i default).k = 0) (fun k0 => ?_) (fun k0 => dite ((l.getD i default).k = 1) (fun k1 => ?_) (fun k1 => dite ((l.getD i default).k = 2) (fun k2 => ?_) (fun k2 => dite ((l.getD i default).k = 3) (fun k3 => ?_) (fun k3 => ?_))))
  ·refine .q (op_cmpI rfl rfl rfl) trivial rfl ?_
   refine .q (op_assign rfl) trivial rfl ?_
   refine .nil ?_
   show Ev _ _ _ _ _
   refine .cond_true rfl (beq_of' k0) ?_
   refine .seq ?_
   refine .region ?_
   refine .q (op_move rfl) trivial rfl ?_
   refine .q (op_fieldAddr (m := 0) Tryd.underlying28 rfl (by kernel_rfl) rfl) trivial rfl ?_
   refine .as (.ptr 1032 1) rfl ?_
   refine .q (op_load Tryd.underlying3 rfl rfl rfl rfl (by show 1 < 5; decide)) trivial rfl ?_
   refine .q (op_move rfl) trivial rfl ?_
   refine .q (op_call (U := []) [(500, 1000)] [] (put_gone R (l.getD i default).w hb0 hb1 ((l.getD i default).s.take 30) eo) Tryd.func9 (by kernel_rfl) rfl rfl rfl (⟨⟨_, rfl, rfl, rfl⟩, ⟨_, rfl, rfl, rfl⟩, ⟨_, rfl, rfl, rfl⟩, trivial⟩) (⟨⟨_, _, rfl, rfl, rfl, rfl, (fun h => by cases h), rfl⟩, ⟨_, _, rfl, rfl, rfl, rfl, (fun h => by cases h), rfl⟩, trivial⟩) (trivial) (⟨(fun h => by cases h), (fun h => by cases h), trivial⟩) rfl) trivial rfl ?_
   refine .q (op_move rfl) trivial rfl ?_
   refine .q (op_extract rfl rfl) trivial rfl ?_
   refine .q (op_extract rfl rfl) trivial rfl ?_
   refine .q (op_assign rfl) trivial rfl ?_
   refine .q (op_assign rfl) trivial rfl ?_
   refine .nil ?_
   show Ev _ _ _ _ _
   refine .seq ?_
   refine .region ?_
   refine .q (op_assign rfl) trivial rfl ?_
   refine .nil ?_
   show Ev _ _ _ _ _
   refine .seq ?_
   refine .seq ?_
   refine .region ?_
   refine .q (op_move rfl) trivial rfl ?_
   refine .q (op_cmpI rfl rfl rfl) trivial rfl ?_
   refine .nil ?_
   show Ev _ _ _ _ _
   refine .cond_false rfl (rfl) ?_
   refine .skip ?_
   show Ev _ _ _ _ _
   refine .seq ?_
   refine .region ?_
   refine .q (op_move rfl) trivial rfl ?_
   refine .q (op_move rfl) trivial rfl ?_
   refine .q (op_cmpI rfl rfl rfl) trivial rfl ?_
   refine .q (op_move rfl) trivial rfl ?_
   refine .know (b' := false) (rfl) ?_
   refine .q (op_move rfl) ⟨_, rfl, rfl⟩ rfl ?_
   refine .q (op_call (U := []) [] [] (code_18 eo hd) Tryd.func10 (by kernel_rfl) rfl rfl rfl (⟨⟨_, rfl, rfl, rfl⟩, trivial⟩) (⟨q8, q8, q8, q8, q8, q8, q8, q8, q8, q8, q8, q8, q8, q8, q8, q8, q8, q8, q8, q8, q8, q8, q8, q8, q8, q8, q8, q8, q8, q8, q8, q8, q8, q8, q8, q8, q8, q8, q8, q8, trivial⟩) (trivial) (⟨c8, c8, c8, c8, c8, c8, c8, c8, c8, c8, c8, c8, c8, c8, c8, c8, c8, c8, c8, c8, c8, c8, c8, c8, c8, c8, c8, c8, c8, c8, c8, c8, c8, c8, c8, c8, c8, c8, c8, c8, trivial⟩) rfl) ⟨_, rfl, rfl⟩ rfl ?_
   refine .q (op_move rfl) ⟨_, rfl, rfl⟩ rfl ?_
   refine .q (op_cmpI rfl rfl rfl) ⟨_, rfl, rfl⟩ rfl ?_
   refine .q (op_pick_false rfl rfl rfl) trivial rfl ?_
   refine .nil ?_
   show Ev _ _ _ _ _
   refine .cond_false rfl (rfl) ?_
   refine .skip ?_
   exact ⟨⟨true, none, none, .inl ⟨rfl, rfl, rfl⟩, trivial, trivial, lx, ly⟩, StLe.mk [(1000, 1000), (1008, 1008), (1016, 1016), (1024, 1024)] rfl rfl ⟨⟨_, rfl, by first | rfl | (simp only [AV.ren]; congr 1; omega), rfl⟩, ⟨_, rfl, by first | rfl | (simp only [AV.ren]; congr 1; omega), rfl⟩, ⟨_, rfl, by first | rfl | (simp only [AV.ren]; congr 1; omega), rfl⟩, ⟨_, rfl, by first | rfl | (simp only [AV.ren]; congr 1; omega), rfl⟩, ⟨_, rfl, by first | rfl | (simp only [AV.ren]; congr 1; omega), rfl⟩, ⟨_, rfl, by first | rfl | (simp only [AV.ren]; congr 1; omega), rfl⟩, trivial⟩ ⟨⟨_, _, rfl, rfl, rowW_ren _ _ _ _ _ _ _, rfl, id, rowW_nm _ _ _ _ _ _ _ rfl rfl⟩, HLe.oc (bK_le rfl rfl) (HLe.oc (bK_le rfl rfl) ⟨⟨_, _, rfl, rfl, rfl, rfl, id, rfl⟩, p8, p8, p8, p8, p8, p8, p8, p8, p8, p8, p8, p8, p8, p8, p8, p8, p8, p8, p8, p8, p8, p8, p8, p8, p8, p8, p8, p8, p8, p8, p8, p8, p8, p8, p8, p8, p8, p8, p8, p8, ⟨_, _, rfl, rfl, offC_ren _ o (rowsC_flat actN_flat l), rfl, id, offC_nm _ o (rowsC_flat actN_flat l)⟩, trivial⟩)⟩⟩
  ·refine .q (op_cmpI rfl rfl rfl) trivial rfl ?_
   refine .q (op_assign rfl) trivial rfl ?_
   refine .nil ?_
   show Ev _ _ _ _ _
   refine .cond_false rfl (beq_no k0) ?_
   refine .seq ?_
   refine .region ?_
   refine .q (op_cmpI rfl rfl rfl) trivial rfl ?_
   refine .q (op_assign rfl) trivial rfl ?_
   refine .nil ?_
   show Ev _ _ _ _ _
   refine .cond_true rfl (beq_of' k1) ?_
   refine .seq ?_
   refine .region ?_
   refine .q (op_move rfl) trivial rfl ?_
   refine .q (op_fieldAddr (m := 0) Tryd.underlying28 rfl (by kernel_rfl) rfl) trivial rfl ?_
   refine .as (.ptr 1032 1) rfl ?_
   refine .q (op_load Tryd.underlying3 rfl rfl rfl rfl (by show 1 < 5; decide)) trivial rfl ?_
   refine .q (op_fieldAddr (m := 0) Tryd.underlying28 rfl (by kernel_rfl) rfl) trivial rfl ?_
   refine .as (.ptr 1032 2) rfl ?_
   refine .q (op_load Tryd.underlying3 rfl rfl rfl rfl (by show 2 < 5; decide)) trivial rfl ?_
   refine .q (op_call (U := []) [(500, 1000)] [] (take_gone R (l.getD i default).w hb0 hb1 (l.getD i default).n eo) Tryd.func11 (by kernel_rfl) rfl rfl rfl (⟨⟨_, rfl, rfl, rfl⟩, ⟨_, rfl, rfl, rfl⟩, ⟨_, rfl, rfl, rfl⟩, trivial⟩) (⟨⟨_, _, rfl, rfl, rfl, rfl, (fun h => by cases h), rfl⟩, ⟨_, _, rfl, rfl, rfl, rfl, (fun h => by cases h), rfl⟩, trivial⟩) (trivial) (⟨(fun h => by cases h), (fun h => by cases h), trivial⟩) rfl) trivial rfl ?_
   refine .q (op_move rfl) trivial rfl ?_
   refine .q (op_extract rfl rfl) trivial rfl ?_
   refine .q (op_extract rfl rfl) trivial rfl ?_
   refine .q (op_assign rfl) trivial rfl ?_
   refine .q (op_assign rfl) trivial rfl ?_
   refine .nil ?_
   show Ev _ _ _ _ _
   refine .seq ?_
   refine .seq ?_
   refine .region ?_
   refine .q (op_move rfl) trivial rfl ?_
   refine .q (op_cmpI rfl rfl rfl) trivial rfl ?_
   refine .nil ?_
   show Ev _ _ _ _ _
   refine .cond_false rfl (rfl) ?_
   refine .skip ?_
   show Ev _ _ _ _ _
   refine .seq ?_
   refine .region ?_
   refine .q (op_move rfl) trivial rfl ?_
   refine .q (op_move rfl) trivial rfl ?_
   refine .q (op_move rfl) trivial rfl ?_
   refine .q (ap_slice_str_hi Tryd.underlying9 rfl (bnd_some rfl rfl) (Nat.zero_le _)) trivial rfl ?_
   refine .q (op_eqS rfl rfl rfl) trivial rfl ?_
   refine .q (op_move rfl) trivial rfl ?_
   refine .know (b' := false) (rfl) ?_
   refine .q (op_move rfl) ⟨_, rfl, rfl⟩ rfl ?_
   refine .q (op_call (U := []) [] [] (code_18 eo hd) Tryd.func10 (by kernel_rfl) rfl rfl rfl (⟨⟨_, rfl, rfl, rfl⟩, trivial⟩) (⟨q8, q8, q8, q8, q8, q8, q8, q8, q8, q8, q8, q8, q8, q8, q8, q8, q8, q8, q8, q8, q8, q8, q8, q8, q8, q8, q8, q8, q8, q8, q8, q8, q8, q8, q8, q8, q8, q8, q8, q8, trivial⟩) (trivial) (⟨c8, c8, c8, c8, c8, c8, c8, c8, c8, c8, c8, c8, c8, c8, c8, c8, c8, c8, c8, c8, c8, c8, c8, c8, c8, c8, c8, c8, c8, c8, c8, c8, c8, c8, c8, c8, c8, c8, c8, c8, trivial⟩) rfl) ⟨_, rfl, rfl⟩ rfl ?_
   refine .q (op_move rfl) ⟨_, rfl, rfl⟩ rfl ?_
   refine .q (op_cmpI rfl rfl rfl) ⟨_, rfl, rfl⟩ rfl ?_
   refine .q (op_pick_false rfl rfl rfl) trivial rfl ?_
   refine .nil ?_
   show Ev _ _ _ _ _
   refine .cond_false rfl (rfl) ?_
   refine .skip ?_
   exact ⟨⟨true, none, none, .inl ⟨rfl, rfl, rfl⟩, trivial, trivial, lx, ly⟩, StLe.mk [(1000, 1000), (1008, 1008), (1016, 1016), (1024, 1024)] rfl rfl ⟨⟨_, rfl, by first | rfl | (simp only [AV.ren]; congr 1; omega), rfl⟩, ⟨_, rfl, by first | rfl | (simp only [AV.ren]; congr 1; omega), rfl⟩, ⟨_, rfl, by first | rfl | (simp only [AV.ren]; congr 1; omega), rfl⟩, ⟨_, rfl, by first | rfl | (simp only [AV.ren]; congr 1; omega), rfl⟩, ⟨_, rfl, by first | rfl | (simp only [AV.ren]; congr 1; omega), rfl⟩, ⟨_, rfl, by first | rfl | (simp only [AV.ren]; congr 1; omega), rfl⟩, trivial⟩ ⟨⟨_, _, rfl, rfl, rowW_ren _ _ _ _ _ _ _, rfl, id, rowW_nm _ _ _ _ _ _ _ rfl rfl⟩, HLe.oc (bK_le rfl rfl) (HLe.oc (bK_le rfl rfl) ⟨⟨_, _, rfl, rfl, rfl, rfl, id, rfl⟩, p8, p8, p8, p8, p8, p8, p8, p8, p8, p8, p8, p8, p8, p8, p8, p8, p8, p8, p8, p8, p8, p8, p8, p8, p8, p8, p8, p8, p8, p8, p8, p8, p8, p8, p8, p8, p8, p8, p8, p8, ⟨_, _, rfl, rfl, offC_ren _ o (rowsC_flat actN_flat l), rfl, id, offC_nm _ o (rowsC_flat actN_flat l)⟩, trivial⟩)⟩⟩
  ·refine .q (op_cmpI rfl rfl rfl) trivial rfl ?_
   refine .q (op_assign rfl) trivial rfl ?_
   refine .nil ?_
   show Ev _ _ _ _ _
   refine .cond_false rfl (beq_no k0) ?_
   refine .seq ?_
   refine .region ?_
   refine .q (op_cmpI rfl rfl rfl) trivial rfl ?_
   refine .q (op_assign rfl) trivial rfl ?_
   refine .nil ?_
   show Ev _ _ _ _ _
   refine .cond_false rfl (beq_no k1) ?_
   refine .seq ?_
   refine .region ?_
   refine .q (op_cmpI rfl rfl rfl) trivial rfl ?_
   refine .q (op_assign rfl) trivial rfl ?_
   refine .nil ?_
   show Ev _ _ _ _ _
   refine .cond_true rfl (beq_of' k2) ?_
   refine .seq ?_
   refine .region ?_
   refine .q (op_move rfl) trivial rfl ?_
   refine .q (op_fieldAddr (m := 0) Tryd.underlying28 rfl (by kernel_rfl) rfl) trivial rfl ?_
   refine .as (.ptr 1032 1) rfl ?_
   refine .q (op_load Tryd.underlying3 rfl rfl rfl rfl (by show 1 < 5; decide)) trivial rfl ?_
   refine .q (op_fieldAddr (m := 0) Tryd.underlying28 rfl (by kernel_rfl) rfl) trivial rfl ?_
   refine .as (.ptr 1032 2) rfl ?_
   refine .q (op_load Tryd.underlying3 rfl rfl rfl rfl (by show 2 < 5; decide)) trivial rfl ?_
   refine .q (op_fieldAddr (m := 0) Tryd.underlying28 rfl (by kernel_rfl) rfl) trivial rfl ?_
   refine .as (.ptr 1032 4) rfl ?_
   refine .q (op_load Tryd.underlying5 rfl rfl rfl rfl (by show 4 < 5; decide)) trivial rfl ?_
   refine .q (op_call (U := []) [(500, 1000)] [] (bend_gone R (l.getD i default).w hb0 hb1 (l.getD i default).n (l.getD i default).y eo) Tryd.func12 (by kernel_rfl) rfl rfl rfl (⟨⟨_, rfl, rfl, rfl⟩, ⟨_, rfl, rfl, rfl⟩, ⟨_, rfl, rfl, rfl⟩, ⟨_, rfl, rfl, rfl⟩, trivial⟩) (⟨⟨_, _, rfl, rfl, rfl, rfl, (fun h => by cases h), rfl⟩, ⟨_, _, rfl, rfl, rfl, rfl, (fun h => by cases h), rfl⟩, trivial⟩) (trivial) (⟨(fun h => by cases h), (fun h => by cases h), trivial⟩) rfl) trivial rfl ?_
   refine .q (op_assign rfl) trivial rfl ?_
   refine .nil ?_
   show Ev _ _ _ _ _
   refine .seq ?_
   refine .seq ?_
   refine .region ?_
   refine .q (op_move rfl) trivial rfl ?_
   refine .q (op_cmpI rfl rfl rfl) trivial rfl ?_
   refine .q (op_move rfl) trivial rfl ?_
   refine .know (b' := false) (rfl) ?_
   refine .no ⟨_, rfl, rfl⟩ rfl ?_
   refine .no ⟨_, rfl, rfl⟩ rfl ?_
   refine .no ⟨_, rfl, rfl⟩ rfl ?_
   refine .no ⟨_, rfl, rfl⟩ rfl ?_
   refine .noU ⟨_, rfl, rfl⟩ rfl ?_
   refine .noU ⟨_, rfl, rfl⟩ rfl ?_
   refine .noU ⟨_, rfl, rfl⟩ rfl ?_
   refine .noU ⟨_, rfl, rfl⟩ rfl ?_
   refine .noU ⟨_, rfl, rfl⟩ rfl ?_
   refine .no ⟨_, rfl, rfl⟩ rfl ?_
   refine .q (op_pick_false rfl rfl rfl) trivial rfl ?_
   refine .nil ?_
   show Ev _ _ _ _ _
   refine .cond_false rfl rfl ?_
   refine .skip ?_
   show Ev _ _ _ _ _
   refine .seq ?_
   refine .seq ?_
   refine .region ?_
   refine .q (op_move rfl) trivial rfl ?_
   refine .q (op_cmpI rfl rfl rfl) trivial rfl ?_
   refine .nil ?_
   show Ev _ _ _ _ _
   refine .cond_false rfl (rfl) ?_
   refine .skip ?_
   show Ev _ _ _ _ _
   refine .seq ?_
   refine .region ?_
   refine .q (op_move rfl) trivial rfl ?_
   refine .q (op_call (U := []) [] [] (code_18 eo hd) Tryd.func10 (by kernel_rfl) rfl rfl rfl (⟨⟨_, rfl, rfl, rfl⟩, trivial⟩) (⟨q8, q8, q8, q8, q8, q8, q8, q8, q8, q8, q8, q8, q8, q8, q8, q8, q8, q8, q8, q8, q8, q8, q8, q8, q8, q8, q8, q8, q8, q8, q8, q8, q8, q8, q8, q8, q8, q8, q8, q8, trivial⟩) (trivial) (⟨c8, c8, c8, c8, c8, c8, c8, c8, c8, c8, c8, c8, c8, c8, c8, c8, c8, c8, c8, c8, c8, c8, c8, c8, c8, c8, c8, c8, c8, c8, c8, c8, c8, c8, c8, c8, c8, c8, c8, c8, trivial⟩) rfl) trivial rfl ?_
   refine .q (op_move rfl) trivial rfl ?_
   refine .q (op_cmpI rfl rfl rfl) trivial rfl ?_
   refine .nil ?_
   show Ev _ _ _ _ _
   refine .cond_false rfl (rfl) ?_
   refine .skip ?_
   exact ⟨⟨true, none, none, .inl ⟨rfl, rfl, rfl⟩, trivial, trivial, lx, ly⟩, StLe.mk [(1000, 1000), (1008, 1008), (1016, 1016), (1024, 1024)] rfl rfl ⟨⟨_, rfl, by first | rfl | (simp only [AV.ren]; congr 1; omega), rfl⟩, ⟨_, rfl, by first | rfl | (simp only [AV.ren]; congr 1; omega), rfl⟩, ⟨_, rfl, by first | rfl | (simp only [AV.ren]; congr 1; omega), rfl⟩, ⟨_, rfl, by first | rfl | (simp only [AV.ren]; congr 1; omega), rfl⟩, ⟨_, rfl, by first | rfl | (simp only [AV.ren]; congr 1; omega), rfl⟩, ⟨_, rfl, by first | rfl | (simp only [AV.ren]; congr 1; omega), rfl⟩, trivial⟩ ⟨⟨_, _, rfl, rfl, rowW_ren _ _ _ _ _ _ _, rfl, id, rowW_nm _ _ _ _ _ _ _ rfl rfl⟩, HLe.oc (bK_le rfl rfl) (HLe.oc (bK_le rfl rfl) ⟨⟨_, _, rfl, rfl, rfl, rfl, id, rfl⟩, p8, p8, p8, p8, p8, p8, p8, p8, p8, p8, p8, p8, p8, p8, p8, p8, p8, p8, p8, p8, p8, p8, p8, p8, p8, p8, p8, p8, p8, p8, p8, p8, p8, p8, p8, p8, p8, p8, p8, p8, ⟨_, _, rfl, rfl, offC_ren _ o (rowsC_flat actN_flat l), rfl, id, offC_nm _ o (rowsC_flat actN_flat l)⟩, trivial⟩)⟩⟩
  ·refine .q (op_cmpI rfl rfl rfl) trivial rfl ?_
   refine .q (op_assign rfl) trivial rfl ?_
   refine .nil ?_
   show Ev _ _ _ _ _
   refine .cond_false rfl (beq_no k0) ?_
   refine .seq ?_
   refine .region ?_
   refine .q (op_cmpI rfl rfl rfl) trivial rfl ?_
   refine .q (op_assign rfl) trivial rfl ?_
   refine .nil ?_
   show Ev _ _ _ _ _
   refine .cond_false rfl (beq_no k1) ?_
   refine .seq ?_
   refine .region ?_
   refine .q (op_cmpI rfl rfl rfl) trivial rfl ?_
   refine .q (op_assign rfl) trivial rfl ?_
   refine .nil ?_
   show Ev _ _ _ _ _
   refine .cond_false rfl (beq_no k2) ?_
   refine .seq ?_
   refine .region ?_
   refine .q (op_cmpI rfl rfl rfl) trivial rfl ?_
   refine .q (op_assign rfl) trivial rfl ?_
   refine .nil ?_
   show Ev _ _ _ _ _
   refine .cond_true rfl (beq_of' k3) ?_
   refine .seq ?_
   refine .region ?_
   refine .q (op_move rfl) trivial rfl ?_
   refine .q (op_fieldAddr (m := 0) Tryd.underlying28 rfl (by kernel_rfl) rfl) trivial rfl ?_
   refine .as (.ptr 1032 1) rfl ?_
   refine .q (op_load Tryd.underlying3 rfl rfl rfl rfl (by show 1 < 5; decide)) trivial rfl ?_
   refine .q (op_fieldAddr (m := 0) Tryd.underlying28 rfl (by kernel_rfl) rfl) trivial rfl ?_
   refine .as (.ptr 1032 2) rfl ?_
   refine .q (op_load Tryd.underlying3 rfl rfl rfl rfl (by show 2 < 5; decide)) trivial rfl ?_
   refine .q (op_call (U := []) [(500, 1000)] [] (lose_gone R (l.getD i default).w hb0 hb1 (l.getD i default).n eo) Tryd.func13 (by kernel_rfl) rfl rfl rfl (⟨⟨_, rfl, rfl, rfl⟩, ⟨_, rfl, rfl, rfl⟩, ⟨_, rfl, rfl, rfl⟩, trivial⟩) (⟨⟨_, _, rfl, rfl, rfl, rfl, (fun h => by cases h), rfl⟩, ⟨_, _, rfl, rfl, rfl, rfl, (fun h => by cases h), rfl⟩, trivial⟩) (trivial) (⟨(fun h => by cases h), (fun h => by cases h), trivial⟩) rfl) trivial rfl ?_
   refine .q (op_move rfl) trivial rfl ?_
   refine .q (op_extract rfl rfl) trivial rfl ?_
   refine .q (op_extract rfl rfl) trivial rfl ?_
   refine .q (op_assign rfl) trivial rfl ?_
   refine .q (op_assign rfl) trivial rfl ?_
   refine .nil ?_
   show Ev _ _ _ _ _
   refine .seq ?_
   refine .seq ?_
   refine .region ?_
   refine .q (op_move rfl) trivial rfl ?_
   refine .q (op_cmpI rfl rfl rfl) trivial rfl ?_
   refine .nil ?_
   show Ev _ _ _ _ _
   refine .cond_false rfl (rfl) ?_
   refine .skip ?_
   show Ev _ _ _ _ _
   refine .seq ?_
   refine .region ?_
   refine .q (op_move rfl) trivial rfl ?_
   refine .q (op_move rfl) trivial rfl ?_
   refine .q (op_cmpI rfl rfl rfl) trivial rfl ?_
   refine .q (op_move rfl) trivial rfl ?_
   refine .know (b' := false) (rfl) ?_
   refine .q (op_move rfl) ⟨_, rfl, rfl⟩ rfl ?_
   refine .q (op_call (U := []) [] [] (code_18 eo hd) Tryd.func10 (by kernel_rfl) rfl rfl rfl (⟨⟨_, rfl, rfl, rfl⟩, trivial⟩) (⟨q8, q8, q8, q8, q8, q8, q8, q8, q8, q8, q8, q8, q8, q8, q8, q8, q8, q8, q8, q8, q8, q8, q8, q8, q8, q8, q8, q8, q8, q8, q8, q8, q8, q8, q8, q8, q8, q8, q8, q8, trivial⟩) (trivial) (⟨c8, c8, c8, c8, c8, c8, c8, c8, c8, c8, c8, c8, c8, c8, c8, c8, c8, c8, c8, c8, c8, c8, c8, c8, c8, c8, c8, c8, c8, c8, c8, c8, c8, c8, c8, c8, c8, c8, c8, c8, trivial⟩) rfl) ⟨_, rfl, rfl⟩ rfl ?_
   refine .q (op_move rfl) ⟨_, rfl, rfl⟩ rfl ?_
   refine .q (op_cmpI rfl rfl rfl) ⟨_, rfl, rfl⟩ rfl ?_
   refine .q (op_pick_false rfl rfl rfl) trivial rfl ?_
   refine .nil ?_
   show Ev _ _ _ _ _
   refine .cond_false rfl (rfl) ?_
   refine .skip ?_
   exact ⟨⟨true, none, none, .inl ⟨rfl, rfl, rfl⟩, trivial, trivial, lx, ly⟩, StLe.mk [(1000, 1000), (1008, 1008), (1016, 1016), (1024, 1024)] rfl rfl ⟨⟨_, rfl, by first | rfl | (simp only [AV.ren]; congr 1; omega), rfl⟩, ⟨_, rfl, by first | rfl | (simp only [AV.ren]; congr 1; omega), rfl⟩, ⟨_, rfl, by first | rfl | (simp only [AV.ren]; congr 1; omega), rfl⟩, ⟨_, rfl, by first | rfl | (simp only [AV.ren]; congr 1; omega), rfl⟩, ⟨_, rfl, by first | rfl | (simp only [AV.ren]; congr 1; omega), rfl⟩, ⟨_, rfl, by first | rfl | (simp only [AV.ren]; congr 1; omega), rfl⟩, trivial⟩ ⟨⟨_, _, rfl, rfl, rowW_ren _ _ _ _ _ _ _, rfl, id, rowW_nm _ _ _ _ _ _ _ rfl rfl⟩, HLe.oc (bK_le rfl rfl) (HLe.oc (bK_le rfl rfl) ⟨⟨_, _, rfl, rfl, rfl, rfl, id, rfl⟩, p8, p8, p8, p8, p8, p8, p8, p8, p8, p8, p8, p8, p8, p8, p8, p8, p8, p8, p8, p8, p8, p8, p8, p8, p8, p8, p8, p8, p8, p8, p8, p8, p8, p8, p8, p8, p8, p8, p8, p8, ⟨_, _, rfl, rfl, offC_ren _ o (rowsC_flat actN_flat l), rfl, id, offC_nm _ o (rowsC_flat actN_flat l)⟩, trivial⟩)⟩⟩
  ·refine .q (op_cmpI rfl rfl rfl) trivial rfl ?_
   refine .q (op_assign rfl) trivial rfl ?_
   refine .nil ?_
   show Ev _ _ _ _ _
   refine .cond_false rfl (beq_no k0) ?_
   refine .seq ?_
   refine .region ?_
   refine .q (op_cmpI rfl rfl rfl) trivial rfl ?_
   refine .q (op_assign rfl) trivial rfl ?_
   refine .nil ?_
   show Ev _ _ _ _ _
   refine .cond_false rfl (beq_no k1) ?_
   refine .seq ?_
   refine .region ?_
   refine .q (op_cmpI rfl rfl rfl) trivial rfl ?_
   refine .q (op_assign rfl) trivial rfl ?_
   refine .nil ?_
   show Ev _ _ _ _ _
   refine .cond_false rfl (beq_no k2) ?_
   refine .seq ?_
   refine .region ?_
   refine .q (op_cmpI rfl rfl rfl) trivial rfl ?_
   refine .q (op_assign rfl) trivial rfl ?_
   refine .nil ?_
   show Ev _ _ _ _ _
   refine .cond_false rfl (beq_no k3) ?_
   refine .skip ?_
   exact ⟨⟨true, none, none, .inl ⟨rfl, rfl, rfl⟩, trivial, trivial, lx, ly⟩, StLe.mk [(1000, 1000), (1008, 1008), (1016, 1016), (1024, 1024)] rfl rfl ⟨⟨_, rfl, by first | rfl | (simp only [AV.ren]; congr 1; omega), rfl⟩, ⟨_, rfl, by first | rfl | (simp only [AV.ren]; congr 1; omega), rfl⟩, ⟨_, rfl, by first | rfl | (simp only [AV.ren]; congr 1; omega), rfl⟩, ⟨_, rfl, by first | rfl | (simp only [AV.ren]; congr 1; omega), rfl⟩, ⟨_, rfl, by first | rfl | (simp only [AV.ren]; congr 1; omega), rfl⟩, ⟨_, rfl, by first | rfl | (simp only [AV.ren]; congr 1; omega), rfl⟩, trivial⟩ ⟨⟨_, _, rfl, rfl, rowW_ren _ _ _ _ _ _ _, rfl, id, rowW_nm _ _ _ _ _ _ _ rfl rfl⟩, HLe.oc (bK_le rfl rfl) (HLe.oc (bK_le rfl rfl) ⟨⟨_, _, rfl, rfl, rfl, rfl, id, rfl⟩, p8, p8, p8, p8, p8, p8, p8, p8, p8, p8, p8, p8, p8, p8, p8, p8, p8, p8, p8, p8, p8, p8, p8, p8, p8, p8, p8, p8, p8, p8, p8, p8, p8, p8, p8, p8, p8, p8, p8, p8, ⟨_, _, rfl, rfl, offC_ren _ o (rowsC_flat actN_flat l), rfl, id, offC_nm _ o (rowsC_flat actN_flat l)⟩, trivial⟩)⟩⟩
 ·rintro ⟨d', x', y', hd', hx', hy', lx', ly'⟩
  exact plays_rest eo R hR0 hR1 o l i h120 d' x' y' hd' hx' hy' lx' ly'
end Go.Proofs.YtpmoonglbcglaaaDoor
