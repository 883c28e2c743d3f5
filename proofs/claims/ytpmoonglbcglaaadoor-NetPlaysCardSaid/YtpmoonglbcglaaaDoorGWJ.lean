/-
  Texts of this claim.
-/
import Derived.Test.YtpmoonglbcglaaaDoorGW9
import Derived.Test.YtpmoonglbcglaaaDoorGWI
import Derived.Test.YtpmoonglbcglaaaDoorGW7
import Derived.Test.YtpmoonglbcglaaaDoorGW8
import Derived.Test.YtpmoonglbcglaaaDoorGW6
namespace Go.Proofs.YtpmoonglbcglaaaDoor
open Go.RowKit
theorem plays_item (eo : Nat → Nat × Nat) (hd : ∀ i j, i < 20 → j < 20 → i ≠ j → eo i ≠ eo j) (R : Int) (hR0 : 0 ≤ R) (hR1 : R ≤ 1000000000) (o : Nat) (l : List ActN) (hl2 : l.length ≤ 9223372036854775807) (i : Nat) (hil : i < l.length) (h120 : i < 120) (d : Bool) (x y : Option BX) (hdd : (d = true ∧ x = none ∧ y = none) ∨ d = false) (hx : BOk x (30 * i)) (hy : BOk y (30 * i)) (lx : ((live x).length : Int) ≤ R) (ly : ((live y).length : Int) ≤ R) (want : Int) (hw : ((l.getD i default).k = 4 ∧ want = 0) ∨ ((l.getD i default).k ≠ 4 ∧ ((want = 1 ∧ ((l.getD i default).w < 0 ∨ 2 ≤ (l.getD i default).w)) ∨ (want = 18 ∧ 0 ≤ (l.getD i default).w ∧ (l.getD i default).w < 2 ∧ d = true) ∨ (want = 0 ∧ (l.getD i default).w = 0 ∧ d = false) ∨ (want = 0 ∧ (l.getD i default).w = 1 ∧ d = false)))) :
    Ev Tryd.prog 287 (codeAt [true, true, true, true, true, true, true, false, true, false, false, true, false, false, true, true, true] ((Tryd.f3).body.getD .skip)) ⟨[(0, .i64 R), (1, .sl 450 o l.length 5), (5, .ptr 1000 0), (6, .sl 1024 0 2 1), (7, .bool (!d)), (8, .i64 ((i : Nat) : Int)), (9, .ptr 1032 0), (10, .i64 want)], [(1000, some ⟨rowW R d 1008 1016 x y, 51, true⟩), (1008, bK true x), (1016, bK true y), (1024, some ⟨.aggS [live x, live y], 9, true⟩), (1032, some ⟨.agg (actN (l.getD i default)), 28, true⟩), (0, some ⟨.agg [.err 79 (1) (offE eo (1))], errT, false⟩), (1, some ⟨.agg [.err 79 (2) (offE eo (2))], errT, false⟩), (2, some ⟨.agg [.err 79 (3) (offE eo (3))], errT, false⟩), (3, some ⟨.agg [.err 79 (4) (offE eo (4))], errT, false⟩), (4, some ⟨.agg [.err 79 (5) (offE eo (5))], errT, false⟩), (5, some ⟨.agg [.err 79 (6) (offE eo (6))], errT, false⟩), (6, some ⟨.agg [.err 79 (7) (offE eo (7))], errT, false⟩), (7, some ⟨.agg [.err 79 (8) (offE eo (8))], errT, false⟩), (8, some ⟨.agg [.err 79 (9) (offE eo (9))], errT, false⟩), (9, some ⟨.agg [.err 79 (10) (offE eo (10))], errT, false⟩), (10, some ⟨.agg [.err 79 (11) (offE eo (11))], errT, false⟩), (11, some ⟨.agg [.err 79 (12) (offE eo (12))], errT, false⟩), (12, some ⟨.agg [.err 79 (13) (offE eo (13))], errT, false⟩), (13, some ⟨.agg [.err 79 (14) (offE eo (14))], errT, false⟩), (14, some ⟨.agg [.err 79 (15) (offE eo (15))], errT, false⟩), (15, some ⟨.agg [.err 79 (16) (offE eo (16))], errT, false⟩), (16, some ⟨.agg [.err 79 (17) (offE eo (17))], errT, false⟩), (17, some ⟨.agg [.err 79 (18) (offE eo (18))], errT, false⟩), (18, some ⟨.agg [.err 79 (19) (offE eo (19))], errT, false⟩), (19, some ⟨.agg [.err 79 (20) (offE eo (20))], errT, false⟩), (401, some ⟨.agg [], errT, false⟩), (402, some ⟨.agg [], errT, false⟩), (403, some ⟨.agg [], errT, false⟩), (404, some ⟨.agg [], errT, false⟩), (405, some ⟨.agg [], errT, false⟩), (406, some ⟨.agg [], errT, false⟩), (407, some ⟨.agg [], errT, false⟩), (408, some ⟨.agg [], errT, false⟩), (409, some ⟨.agg [], errT, false⟩), (410, some ⟨.agg [], errT, false⟩), (411, some ⟨.agg [], errT, false⟩), (412, some ⟨.agg [], errT, false⟩), (413, some ⟨.agg [], errT, false⟩), (414, some ⟨.agg [], errT, false⟩), (415, some ⟨.agg [], errT, false⟩), (416, some ⟨.agg [], errT, false⟩), (417, some ⟨.agg [], errT, false⟩), (418, some ⟨.agg [], errT, false⟩), (419, some ⟨.agg [], errT, false⟩), (420, some ⟨.agg [], errT, false⟩), (450, some ⟨.agg (offC o (rowsC actN l)), anyT, false⟩)], 1048⟩ (thenA (fun st2 => ∃ q : NSt R (30 * (i + 1)), StLe 287 st2 ⟨[(0, .i64 R), (1, .sl 450 o l.length 5), (5, .ptr 1000 0), (6, .sl 1024 0 2 1), (7, .bool (!q.d)), (8, .i64 ((i : Nat) : Int))], [(1000, some ⟨rowW R q.d 1008 1016 q.x q.y, 51, true⟩), (1008, bK true q.x), (1016, bK true q.y), (1024, some ⟨.aggS [live q.x, live q.y], 9, true⟩), (0, some ⟨.agg [.err 79 (1) (offE eo (1))], errT, false⟩), (1, some ⟨.agg [.err 79 (2) (offE eo (2))], errT, false⟩), (2, some ⟨.agg [.err 79 (3) (offE eo (3))], errT, false⟩), (3, some ⟨.agg [.err 79 (4) (offE eo (4))], errT, false⟩), (4, some ⟨.agg [.err 79 (5) (offE eo (5))], errT, false⟩), (5, some ⟨.agg [.err 79 (6) (offE eo (6))], errT, false⟩), (6, some ⟨.agg [.err 79 (7) (offE eo (7))], errT, false⟩), (7, some ⟨.agg [.err 79 (8) (offE eo (8))], errT, false⟩), (8, some ⟨.agg [.err 79 (9) (offE eo (9))], errT, false⟩), (9, some ⟨.agg [.err 79 (10) (offE eo (10))], errT, false⟩), (10, some ⟨.agg [.err 79 (11) (offE eo (11))], errT, false⟩), (11, some ⟨.agg [.err 79 (12) (offE eo (12))], errT, false⟩), (12, some ⟨.agg [.err 79 (13) (offE eo (13))], errT, false⟩), (13, some ⟨.agg [.err 79 (14) (offE eo (14))], errT, false⟩), (14, some ⟨.agg [.err 79 (15) (offE eo (15))], errT, false⟩), (15, some ⟨.agg [.err 79 (16) (offE eo (16))], errT, false⟩), (16, some ⟨.agg [.err 79 (17) (offE eo (17))], errT, false⟩), (17, some ⟨.agg [.err 79 (18) (offE eo (18))], errT, false⟩), (18, some ⟨.agg [.err 79 (19) (offE eo (19))], errT, false⟩), (19, some ⟨.agg [.err 79 (20) (offE eo (20))], errT, false⟩), (401, some ⟨.agg [], errT, false⟩), (402, some ⟨.agg [], errT, false⟩), (403, some ⟨.agg [], errT, false⟩), (404, some ⟨.agg [], errT, false⟩), (405, some ⟨.agg [], errT, false⟩), (406, some ⟨.agg [], errT, false⟩), (407, some ⟨.agg [], errT, false⟩), (408, some ⟨.agg [], errT, false⟩), (409, some ⟨.agg [], errT, false⟩), (410, some ⟨.agg [], errT, false⟩), (411, some ⟨.agg [], errT, false⟩), (412, some ⟨.agg [], errT, false⟩), (413, some ⟨.agg [], errT, false⟩), (414, some ⟨.agg [], errT, false⟩), (415, some ⟨.agg [], errT, false⟩), (416, some ⟨.agg [], errT, false⟩), (417, some ⟨.agg [], errT, false⟩), (418, some ⟨.agg [], errT, false⟩), (419, some ⟨.agg [], errT, false⟩), (420, some ⟨.agg [], errT, false⟩), (450, some ⟨.agg (offC o (rowsC actN l)), anyT, false⟩)], 1048⟩) (fun _ _ => False)) := by
  rcases hw with ⟨hk, rfl⟩ | ⟨hk, ⟨rfl, hb⟩ | ⟨rfl, hb0, hb1, rfl⟩ | ⟨rfl, hw, rfl⟩ | ⟨rfl, hw, rfl⟩⟩
  · exact plays_A eo hd R hR0 hR1 o l hl2 i hil h120 d x y hdd hx hy lx ly hk
  · exact plays_B eo hd R hR0 hR1 o l hl2 i hil h120 d x y hdd hx hy lx ly hk hb
  · obtain ⟨rfl, rfl⟩ : x = none ∧ y = none := hdd.elim (fun h9 => h9.2) (fun h9 => by cases h9)
    exact plays_C eo hd R hR0 hR1 o l hl2 i hil h120 lx ly hk hb0 hb1
  · exact plays_D eo hd R hR0 hR1 o l hl2 i hil h120 x y hx hy lx ly hk hw
  · exact plays_E eo hd R hR0 hR1 o l hl2 i hil h120 x y hx hy lx ly hk hw
set_option maxHeartbeats 16000000 in
set_option maxRecDepth 100000 in
theorem netPlays_ev (eo : Nat → Nat × Nat) (hd : ∀ i j, i < 20 → j < 20 → i ≠ j → eo i ≠ eo j) (n R : Int) (hR : min (max n 1) 16777216 = R) (o : Nat) (l : List ActN) (hl : l.length ≤ maxLen) : Meets Tryd.prog 3 [.i64 n, .sl 450 o l.length 5] [(0, some ⟨.agg [.err 79 (1) (offE eo (1))], errT, false⟩), (1, some ⟨.agg [.err 79 (2) (offE eo (2))], errT, false⟩), (2, some ⟨.agg [.err 79 (3) (offE eo (3))], errT, false⟩), (3, some ⟨.agg [.err 79 (4) (offE eo (4))], errT, false⟩), (4, some ⟨.agg [.err 79 (5) (offE eo (5))], errT, false⟩), (5, some ⟨.agg [.err 79 (6) (offE eo (6))], errT, false⟩), (6, some ⟨.agg [.err 79 (7) (offE eo (7))], errT, false⟩), (7, some ⟨.agg [.err 79 (8) (offE eo (8))], errT, false⟩), (8, some ⟨.agg [.err 79 (9) (offE eo (9))], errT, false⟩), (9, some ⟨.agg [.err 79 (10) (offE eo (10))], errT, false⟩), (10, some ⟨.agg [.err 79 (11) (offE eo (11))], errT, false⟩), (11, some ⟨.agg [.err 79 (12) (offE eo (12))], errT, false⟩), (12, some ⟨.agg [.err 79 (13) (offE eo (13))], errT, false⟩), (13, some ⟨.agg [.err 79 (14) (offE eo (14))], errT, false⟩), (14, some ⟨.agg [.err 79 (15) (offE eo (15))], errT, false⟩), (15, some ⟨.agg [.err 79 (16) (offE eo (16))], errT, false⟩), (16, some ⟨.agg [.err 79 (17) (offE eo (17))], errT, false⟩), (17, some ⟨.agg [.err 79 (18) (offE eo (18))], errT, false⟩), (18, some ⟨.agg [.err 79 (19) (offE eo (19))], errT, false⟩), (19, some ⟨.agg [.err 79 (20) (offE eo (20))], errT, false⟩), (401, some ⟨.agg [], errT, false⟩), (402, some ⟨.agg [], errT, false⟩), (403, some ⟨.agg [], errT, false⟩), (404, some ⟨.agg [], errT, false⟩), (405, some ⟨.agg [], errT, false⟩), (406, some ⟨.agg [], errT, false⟩), (407, some ⟨.agg [], errT, false⟩), (408, some ⟨.agg [], errT, false⟩), (409, some ⟨.agg [], errT, false⟩), (410, some ⟨.agg [], errT, false⟩), (411, some ⟨.agg [], errT, false⟩), (412, some ⟨.agg [], errT, false⟩), (413, some ⟨.agg [], errT, false⟩), (414, some ⟨.agg [], errT, false⟩), (415, some ⟨.agg [], errT, false⟩), (416, some ⟨.agg [], errT, false⟩), (417, some ⟨.agg [], errT, false⟩), (418, some ⟨.agg [], errT, false⟩), (419, some ⟨.agg [], errT, false⟩), (420, some ⟨.agg [], errT, false⟩), (450, some ⟨.agg (offC o (rowsC actN l)), anyT, false⟩)] (.bool true) [] := by
 have hl2 : l.length ≤ 9223372036854775807 := by unfold maxLen at hl; omega
 have hR0 : 0 ≤ R := by omega
 have hR1 : R ≤ 1000000000 := by omega
 refine meets_of_ev (nt := 287) Tryd.func3 rfl rfl (Nat.le_of_ble_eq_true rfl) ?_
 refine .seq ?_
 refine .region ?_
 refine .q (op_assign rfl) trivial rfl ?_
 refine .nil ?_
 show Ev _ _ _ _ _
 refine .seq ?_
 refine .seq ?_
 refine .region ?_
 refine .q (op_call (U := []) [] [] (awake25_ev) Tryd.func5 (by kernel_rfl) rfl rfl rfl (trivial) (trivial) (trivial) (trivial) rfl) trivial rfl ?_
 refine .q (op_notB rfl) trivial rfl ?_
 refine .nil ?_
 show Ev _ _ _ _ _
 refine .cond_false rfl (rfl) ?_
 refine .skip ?_
 show Ev _ _ _ _ _
 refine .seq ?_
 refine .region ?_
 refine .q (op_move rfl) trivial rfl ?_
 refine .a (op_call (U := [(1000, some ⟨rowW R false 501 502 none none, 51, true⟩)]) [] [(1000, 1000)] (new_R n R hR) Tryd.func6 (by kernel_rfl) rfl rfl rfl (⟨⟨_, rfl, rfl, rfl⟩, trivial⟩) (trivial) (⟨⟨1000, _, rfl, rfl, rfl, rfl, .inl rfl⟩, trivial⟩) (trivial) rfl) trivial rfl ?_
 refine .q (op_assign rfl) trivial rfl ?_
 refine .nil ?_
 show Ev _ _ _ _ _
 refine .seq ?_
 refine .seq ?_
 refine .region ?_
 refine .q (op_move rfl) trivial rfl ?_
 refine .q (op_eqPtrNil Tryd.underlying24 rfl rfl rfl) trivial rfl ?_
 refine .nil ?_
 show Ev _ _ _ _ _
 refine .cond_false rfl (rfl) ?_
 refine .skip ?_
 show Ev _ _ _ _ _
 refine .seq ?_
 refine .region ?_
 refine .q (op_move rfl) trivial rfl ?_
 refine .q (op_minI rfl rfl) trivial rfl ?_
 refine .q (op_maxI rfl rfl) trivial rfl ?_
 refine .as (.i64 R) (congrArg AV.i64 (by omega)) ?_
 refine .q (op_assign rfl) trivial rfl ?_
 refine .nil ?_
 show Ev _ _ _ _ _
 refine .seq ?_
 refine .region ?_
 refine .a (ap_build (us := [.str [], .str []]) (c := .aggS [[], []]) Tryd.underlying26 inf9 rfl (by decide) (by decide) ⟨rfl, rfl, rfl, rfl, rfl, rfl, trivial⟩ rfl) trivial rfl ?_
 refine .q (op_assign rfl) trivial rfl ?_
 refine .nil ?_
 show Ev _ _ _ _ _
 refine .seq ?_
 refine .region ?_
 refine .q (op_assign rfl) trivial rfl ?_
 refine .nil ?_
 show Ev _ _ _ _ _
 refine .seq ?_
 refine .seq ?_
 refine .region ?_
 refine .q (op_assign rfl) trivial rfl ?_
 refine .nil ?_
 show Ev _ _ _ _ _
 refine .block ?_
 refine Ev.loop (ι := NL R l.length) (fun q => ⟨[(0, .i64 R), (1, .sl 450 o l.length 5), (5, .ptr 1000 0), (6, .sl 1024 0 2 1), (7, .bool (!q.st.d)), (8, .i64 ((q.i : Nat) : Int))], [(1000, some ⟨rowW R q.st.d 1008 1016 q.st.x q.st.y, 51, true⟩), (1008, bK true q.st.x), (1016, bK true q.st.y), (1024, some ⟨.aggS [live q.st.x, live q.st.y], 9, true⟩), (0, some ⟨.agg [.err 79 (1) (offE eo (1))], errT, false⟩), (1, some ⟨.agg [.err 79 (2) (offE eo (2))], errT, false⟩), (2, some ⟨.agg [.err 79 (3) (offE eo (3))], errT, false⟩), (3, some ⟨.agg [.err 79 (4) (offE eo (4))], errT, false⟩), (4, some ⟨.agg [.err 79 (5) (offE eo (5))], errT, false⟩), (5, some ⟨.agg [.err 79 (6) (offE eo (6))], errT, false⟩), (6, some ⟨.agg [.err 79 (7) (offE eo (7))], errT, false⟩), (7, some ⟨.agg [.err 79 (8) (offE eo (8))], errT, false⟩), (8, some ⟨.agg [.err 79 (9) (offE eo (9))], errT, false⟩), (9, some ⟨.agg [.err 79 (10) (offE eo (10))], errT, false⟩), (10, some ⟨.agg [.err 79 (11) (offE eo (11))], errT, false⟩), (11, some ⟨.agg [.err 79 (12) (offE eo (12))], errT, false⟩), (12, some ⟨.agg [.err 79 (13) (offE eo (13))], errT, false⟩), (13, some ⟨.agg [.err 79 (14) (offE eo (14))], errT, false⟩), (14, some ⟨.agg [.err 79 (15) (offE eo (15))], errT, false⟩), (15, some ⟨.agg [.err 79 (16) (offE eo (16))], errT, false⟩), (16, some ⟨.agg [.err 79 (17) (offE eo (17))], errT, false⟩), (17, some ⟨.agg [.err 79 (18) (offE eo (18))], errT, false⟩), (18, some ⟨.agg [.err 79 (19) (offE eo (19))], errT, false⟩), (19, some ⟨.agg [.err 79 (20) (offE eo (20))], errT, false⟩), (401, some ⟨.agg [], errT, false⟩), (402, some ⟨.agg [], errT, false⟩), (403, some ⟨.agg [], errT, false⟩), (404, some ⟨.agg [], errT, false⟩), (405, some ⟨.agg [], errT, false⟩), (406, some ⟨.agg [], errT, false⟩), (407, some ⟨.agg [], errT, false⟩), (408, some ⟨.agg [], errT, false⟩), (409, some ⟨.agg [], errT, false⟩), (410, some ⟨.agg [], errT, false⟩), (411, some ⟨.agg [], errT, false⟩), (412, some ⟨.agg [], errT, false⟩), (413, some ⟨.agg [], errT, false⟩), (414, some ⟨.agg [], errT, false⟩), (415, some ⟨.agg [], errT, false⟩), (416, some ⟨.agg [], errT, false⟩), (417, some ⟨.agg [], errT, false⟩), (418, some ⟨.agg [], errT, false⟩), (419, some ⟨.agg [], errT, false⟩), (420, some ⟨.agg [], errT, false⟩), (450, some ⟨.agg (offC o (rowsC actN l)), anyT, false⟩)], 1048⟩) (fun q => 120 - q.i) ⟨0, ⟨false, none, none, .inr rfl, trivial, trivial, hR0, hR0⟩, Nat.zero_le _, Nat.zero_le _⟩ (StLe.mk [(1000, 1000), (1024, 1008)] rfl rfl ⟨⟨_, rfl, by first | rfl | (simp only [AV.ren]; congr 1; omega), rfl⟩, ⟨_, rfl, by first | rfl | (simp only [AV.ren]; congr 1; omega), rfl⟩, ⟨_, rfl, by first | rfl | (simp only [AV.ren]; congr 1; omega), rfl⟩, ⟨_, rfl, by first | rfl | (simp only [AV.ren]; congr 1; omega), rfl⟩, ⟨_, rfl, by first | rfl | (simp only [AV.ren]; congr 1; omega), rfl⟩, ⟨_, rfl, by first | rfl | (simp only [AV.ren]; congr 1; omega), rfl⟩, trivial⟩ ⟨⟨_, _, rfl, rfl, (by rfl), rfl, id, (by rfl)⟩, ⟨_, _, rfl, rfl, rfl, rfl, id, rfl⟩, p8, p8, p8, p8, p8, p8, p8, p8, p8, p8, p8, p8, p8, p8, p8, p8, p8, p8, p8, p8, p8, p8, p8, p8, p8, p8, p8, p8, p8, p8, p8, p8, p8, p8, p8, p8, p8, p8, p8, p8, ⟨_, _, rfl, rfl, offC_ren _ o (rowsC_flat actN_flat l), rfl, id, offC_nm _ o (rowsC_flat actN_flat l)⟩, trivial⟩) ?_
 rintro ⟨i, ⟨d, x, y, hdd, hx, hy, lx, ly⟩, hi, h120⟩
 dsimp only
 have lx2 := live_le hx
 have ly2 := live_le hy
 refine .seq ?_
 refine .seq ?_
 refine .region ?_
 refine .q (op_move rfl) trivial rfl ?_
 refine .q (op_move rfl) trivial rfl ?_
 refine .q (op_len_sl Tryd.underlying22 rfl) trivial rfl ?_
 refine .q (op_cmpI rfl rfl rfl) trivial rfl ?_
 refine .q (op_move rfl) trivial rfl ?_
 refine .split (fun hg38 => ?_) (fun hg38 => ?_)
 ·simp only [decide_eq_true_eq, decide_eq_false_iff_not, beq_iff_eq, bne_iff_ne, ne_eq, beq_eq_false_iff_ne, bne_eq_false_iff_eq] at hg38
  refine .q (op_move rfl) ⟨_, rfl, rfl⟩ rfl ?_
  refine .q (op_cmpI rfl rfl rfl) ⟨_, rfl, rfl⟩ rfl ?_
  refine .q (op_pick_true rfl rfl rfl) trivial rfl ?_
  refine .nil ?_
  show Ev _ _ _ _ _
  refine .cond rfl (fun hc41 => ?_) (fun hc41 => ?_)
  ·simp only [decide_eq_true_eq, decide_eq_false_iff_not, beq_iff_eq, bne_iff_ne, ne_eq, beq_eq_false_iff_ne, bne_eq_false_iff_eq] at hc41
   refine .skip ?_
   show Ev _ _ _ _ _
   refine .seq ?_
   refine .block ?_
   refine .seq ?_
   refine .region ?_
   refine .q (op_move rfl) trivial rfl ?_
   refine .q (op_move rfl) trivial rfl ?_
   refine .q (op_indexAddr (z := 5) Tryd.underlying22 (by kernel_rfl) rfl rfl rfl (show i < l.length by omega)) trivial rfl ?_
   refine .q (op_loadPart (m := 5) (r := .agg (actN (l.getD i default))) (cs := actN (l.getD i default)) Tryd.underlying28 rfl (by kernel_rfl) rfl rfl rfl rfl (by rw [show o + i * 5 = o + i * 5 + 0 from rfl, rows_part actN_len (get_i default (show i < l.length by omega)) (Nat.le_refl _)]; rfl) (by rw [offC_len, rowsC_len actN_len]; have h8 : (i + 1) * 5 ≤ l.length * 5 := Nat.mul_le_mul_right 5 (show i + 1 ≤ l.length by omega); omega)) trivial rfl ?_
   refine .a (op_allocRow zero28 rel_zero28 rfl) trivial rfl ?_
   refine .w (op_storeRow (by kernel_rfl) rfl rfl rfl rfl rfl (rfl) (rfl)) trivial rfl ?_
   refine .nil ?_
   show Ev _ _ _ _ _
   refine .seq ?_
   refine .region ?_
   refine .q (op_assign rfl) trivial rfl ?_
   refine .nil ?_
   show Ev _ _ _ _ _
   refine .seq ?_
   refine Ev.cutp (ι := NC R (30 * i) (l.getD i default)) (fun q => ⟨[(0, .i64 R), (1, .sl 450 o l.length 5), (5, .ptr 1000 0), (6, .sl 1024 0 2 1), (7, .bool (!q.st.d)), (8, .i64 ((i : Nat) : Int)), (9, .ptr 1032 0), (10, .i64 q.want)], [(1000, some ⟨rowW R q.st.d 1008 1016 q.st.x q.st.y, 51, true⟩), (1008, bK true q.st.x), (1016, bK true q.st.y), (1024, some ⟨.aggS [live q.st.x, live q.st.y], 9, true⟩), (1032, some ⟨.agg (actN (l.getD i default)), 28, true⟩), (0, some ⟨.agg [.err 79 (1) (offE eo (1))], errT, false⟩), (1, some ⟨.agg [.err 79 (2) (offE eo (2))], errT, false⟩), (2, some ⟨.agg [.err 79 (3) (offE eo (3))], errT, false⟩), (3, some ⟨.agg [.err 79 (4) (offE eo (4))], errT, false⟩), (4, some ⟨.agg [.err 79 (5) (offE eo (5))], errT, false⟩), (5, some ⟨.agg [.err 79 (6) (offE eo (6))], errT, false⟩), (6, some ⟨.agg [.err 79 (7) (offE eo (7))], errT, false⟩), (7, some ⟨.agg [.err 79 (8) (offE eo (8))], errT, false⟩), (8, some ⟨.agg [.err 79 (9) (offE eo (9))], errT, false⟩), (9, some ⟨.agg [.err 79 (10) (offE eo (10))], errT, false⟩), (10, some ⟨.agg [.err 79 (11) (offE eo (11))], errT, false⟩), (11, some ⟨.agg [.err 79 (12) (offE eo (12))], errT, false⟩), (12, some ⟨.agg [.err 79 (13) (offE eo (13))], errT, false⟩), (13, some ⟨.agg [.err 79 (14) (offE eo (14))], errT, false⟩), (14, some ⟨.agg [.err 79 (15) (offE eo (15))], errT, false⟩), (15, some ⟨.agg [.err 79 (16) (offE eo (16))], errT, false⟩), (16, some ⟨.agg [.err 79 (17) (offE eo (17))], errT, false⟩), (17, some ⟨.agg [.err 79 (18) (offE eo (18))], errT, false⟩), (18, some ⟨.agg [.err 79 (19) (offE eo (19))], errT, false⟩), (19, some ⟨.agg [.err 79 (20) (offE eo (20))], errT, false⟩), (401, some ⟨.agg [], errT, false⟩), (402, some ⟨.agg [], errT, false⟩), (403, some ⟨.agg [], errT, false⟩), (404, some ⟨.agg [], errT, false⟩), (405, some ⟨.agg [], errT, false⟩), (406, some ⟨.agg [], errT, false⟩), (407, some ⟨.agg [], errT, false⟩), (408, some ⟨.agg [], errT, false⟩), (409, some ⟨.agg [], errT, false⟩), (410, some ⟨.agg [], errT, false⟩), (411, some ⟨.agg [], errT, false⟩), (412, some ⟨.agg [], errT, false⟩), (413, some ⟨.agg [], errT, false⟩), (414, some ⟨.agg [], errT, false⟩), (415, some ⟨.agg [], errT, false⟩), (416, some ⟨.agg [], errT, false⟩), (417, some ⟨.agg [], errT, false⟩), (418, some ⟨.agg [], errT, false⟩), (419, some ⟨.agg [], errT, false⟩), (420, some ⟨.agg [], errT, false⟩), (450, some ⟨.agg (offC o (rowsC actN l)), anyT, false⟩)], 1048⟩) ?_ ?_
   ·rcases hdd with ⟨rfl, rfl, rfl⟩ | rfl
    ·refine .block ?_
     refine .seq ?_
     refine .region ?_
     refine dite ((l.getD i default).k = 4) (fun hk => ?_) (fun hk => ?_)
     ·refine .q (op_fieldAddr (m := 0) Tryd.underlying28 rfl (by kernel_rfl) rfl) trivial rfl ?_
      refine .as (.ptr 1048 0) rfl ?_
      refine .q (op_load Tryd.underlying3 rfl rfl rfl rfl (by show 0 < 5; decide)) trivial rfl ?_
      refine .q (op_cmpI rfl rfl rfl) trivial rfl ?_
      refine .q (op_assign rfl) trivial rfl ?_
      refine .nil ?_
      show Ev _ _ _ _ _
      refine .cond_true rfl (beq_of' hk) ?_
      refine .seq ?_
      refine .region ?_
      refine .q (op_move rfl) trivial rfl ?_
      refine .q (op_cmpI rfl rfl rfl) trivial rfl ?_
      refine .nil ?_
      show Ev _ _ _ _ _
      refine .cond rfl (fun hc53 => ?_) (fun hc53 => ?_)
      ·simp only [decide_eq_true_eq, decide_eq_false_iff_not, beq_iff_eq, bne_iff_ne, ne_eq, beq_eq_false_iff_ne, bne_eq_false_iff_eq] at hc53
       refine .seq ?_
       refine .region ?_
       refine .q (op_move rfl) trivial rfl ?_
       refine .a (op_call (U := [(1000, some ⟨rowW R true 501 502 none none, 51, true⟩)]) [(500, 1000)] [] (down_down R) Tryd.func7 (by kernel_rfl) rfl rfl rfl (⟨⟨_, rfl, rfl, rfl⟩, trivial⟩) (⟨⟨_, _, rfl, rfl, rfl, rfl, id, rfl⟩, trivial⟩) (⟨⟨500, _, rfl, rfl, rfl, rfl, .inr ⟨rfl, _, rfl, rfl⟩⟩, trivial⟩) (⟨(fun _ => ⟨1000, _, rfl, rfl⟩), trivial⟩) rfl) trivial rfl ?_
       refine .nil ?_
       show Ev _ _ _ _ _
       refine .region ?_
       refine .a (ap_build (us := [.str [], .str []]) (c := .aggS [[], []]) Tryd.underlying26 inf9 rfl (by decide) (by decide) ⟨rfl, rfl, rfl, rfl, rfl, rfl, trivial⟩ rfl) trivial rfl ?_
       refine .q (op_assign rfl) trivial rfl ?_
       refine .q (op_assign rfl) trivial rfl ?_
       refine .nil ?_
       exact ⟨⟨⟨true, none, none, .inl ⟨rfl, rfl, rfl⟩, trivial, trivial, hR0, hR0⟩, 0, .inl ⟨hk, rfl⟩⟩, StLe.mk [(1000, 1000), (1024, 1064), (1032, 1048)] rfl rfl ⟨⟨_, rfl, by first | rfl | (simp only [AV.ren]; congr 1; omega), rfl⟩, ⟨_, rfl, by first | rfl | (simp only [AV.ren]; congr 1; omega), rfl⟩, ⟨_, rfl, by first | rfl | (simp only [AV.ren]; congr 1; omega), rfl⟩, ⟨_, rfl, by first | rfl | (simp only [AV.ren]; congr 1; omega), rfl⟩, ⟨_, rfl, by first | rfl | (simp only [AV.ren]; congr 1; omega), rfl⟩, ⟨_, rfl, by first | rfl | (simp only [AV.ren]; congr 1; omega), rfl⟩, ⟨_, rfl, by first | rfl | (simp only [AV.ren]; congr 1; omega), rfl⟩, ⟨_, rfl, by first | rfl | (simp only [AV.ren]; congr 1; omega), rfl⟩, trivial⟩ ⟨⟨_, _, rfl, rfl, (by rfl), rfl, id, (by rfl)⟩, ⟨_, _, rfl, rfl, rfl, rfl, id, rfl⟩, ⟨_, _, rfl, rfl, rfl, rfl, id, rfl⟩, p8, p8, p8, p8, p8, p8, p8, p8, p8, p8, p8, p8, p8, p8, p8, p8, p8, p8, p8, p8, p8, p8, p8, p8, p8, p8, p8, p8, p8, p8, p8, p8, p8, p8, p8, p8, p8, p8, p8, p8, ⟨_, _, rfl, rfl, offC_ren _ o (rowsC_flat actN_flat l), rfl, id, offC_nm _ o (rowsC_flat actN_flat l)⟩, trivial⟩⟩
      ·simp only [decide_eq_true_eq, decide_eq_false_iff_not, beq_iff_eq, bne_iff_ne, ne_eq, beq_eq_false_iff_ne, bne_eq_false_iff_eq] at hc53
       refine .skip ?_
       exact ⟨⟨⟨true, none, none, .inl ⟨rfl, rfl, rfl⟩, hx, hy, lx, ly⟩, 0, .inl ⟨hk, rfl⟩⟩, StLe.mk [(1000, 1000), (1008, 1008), (1016, 1016), (1024, 1024), (1032, 1048)] rfl rfl ⟨⟨_, rfl, by first | rfl | (simp only [AV.ren]; congr 1; omega), rfl⟩, ⟨_, rfl, by first | rfl | (simp only [AV.ren]; congr 1; omega), rfl⟩, ⟨_, rfl, by first | rfl | (simp only [AV.ren]; congr 1; omega), rfl⟩, ⟨_, rfl, by first | rfl | (simp only [AV.ren]; congr 1; omega), rfl⟩, ⟨_, rfl, by first | rfl | (simp only [AV.ren]; congr 1; omega), rfl⟩, ⟨_, rfl, by first | rfl | (simp only [AV.ren]; congr 1; omega), rfl⟩, ⟨_, rfl, by first | rfl | (simp only [AV.ren]; congr 1; omega), rfl⟩, ⟨_, rfl, by first | rfl | (simp only [AV.ren]; congr 1; omega), rfl⟩, trivial⟩ ⟨⟨_, _, rfl, rfl, rowW_ren _ _ _ _ _ _ _, rfl, id, rowW_nm _ _ _ _ _ _ _ rfl rfl⟩, HLe.oc (bK_le rfl rfl) (HLe.oc (bK_le rfl rfl) ⟨⟨_, _, rfl, rfl, rfl, rfl, id, rfl⟩, ⟨_, _, rfl, rfl, rfl, rfl, id, rfl⟩, p8, p8, p8, p8, p8, p8, p8, p8, p8, p8, p8, p8, p8, p8, p8, p8, p8, p8, p8, p8, p8, p8, p8, p8, p8, p8, p8, p8, p8, p8, p8, p8, p8, p8, p8, p8, p8, p8, p8, p8, ⟨_, _, rfl, rfl, offC_ren _ o (rowsC_flat actN_flat l), rfl, id, offC_nm _ o (rowsC_flat actN_flat l)⟩, trivial⟩)⟩⟩
     ·refine .q (op_fieldAddr (m := 0) Tryd.underlying28 rfl (by kernel_rfl) rfl) trivial rfl ?_
      refine .as (.ptr 1048 0) rfl ?_
      refine .q (op_load Tryd.underlying3 rfl rfl rfl rfl (by show 0 < 5; decide)) trivial rfl ?_
      refine .q (op_cmpI rfl rfl rfl) trivial rfl ?_
      refine .q (op_assign rfl) trivial rfl ?_
      refine .nil ?_
      show Ev _ _ _ _ _
      refine .cond_false rfl (beq_no hk) ?_
      refine .seq ?_
      refine .region ?_
      refine dite ((l.getD i default).w < 0) (fun hb => ?_) (fun hb => dite (2 ≤ (l.getD i default).w) (fun hb2 => ?_) (fun hb2 => ?_))
      ·refine .q (op_fieldAddr (m := 0) Tryd.underlying28 rfl (by kernel_rfl) rfl) trivial rfl ?_
       refine .as (.ptr 1048 1) rfl ?_
       refine .q (op_load Tryd.underlying3 rfl rfl rfl rfl (by show 1 < 5; decide)) trivial rfl ?_
       refine .q (op_cmpI rfl rfl rfl) trivial rfl ?_
       refine .q (op_move rfl) trivial rfl ?_
       refine .know (b' := true) (decide_eq_true hb) ?_
       refine .no ⟨_, rfl, rfl⟩ rfl ?_
       refine .no ⟨_, rfl, rfl⟩ rfl ?_
       refine .no ⟨_, rfl, rfl⟩ rfl ?_
       refine .q (op_pick_true rfl rfl rfl) trivial rfl ?_
       refine .q (op_assign rfl) trivial rfl ?_
       refine .nil ?_
       show Ev _ _ _ _ _
       refine .cond_true rfl rfl ?_
       refine .region ?_
       refine .q (op_assign rfl) trivial rfl ?_
       refine .nil ?_
       exact ⟨⟨⟨true, none, none, .inl ⟨rfl, rfl, rfl⟩, hx, hy, lx, ly⟩, 1, .inr ⟨hk, .inl ⟨rfl, .inl hb⟩⟩⟩, StLe.mk [(1000, 1000), (1008, 1008), (1016, 1016), (1024, 1024), (1032, 1048)] rfl rfl ⟨⟨_, rfl, by first | rfl | (simp only [AV.ren]; congr 1; omega), rfl⟩, ⟨_, rfl, by first | rfl | (simp only [AV.ren]; congr 1; omega), rfl⟩, ⟨_, rfl, by first | rfl | (simp only [AV.ren]; congr 1; omega), rfl⟩, ⟨_, rfl, by first | rfl | (simp only [AV.ren]; congr 1; omega), rfl⟩, ⟨_, rfl, by first | rfl | (simp only [AV.ren]; congr 1; omega), rfl⟩, ⟨_, rfl, by first | rfl | (simp only [AV.ren]; congr 1; omega), rfl⟩, ⟨_, rfl, by first | rfl | (simp only [AV.ren]; congr 1; omega), rfl⟩, ⟨_, rfl, by first | rfl | (simp only [AV.ren]; congr 1; omega), rfl⟩, trivial⟩ ⟨⟨_, _, rfl, rfl, rowW_ren _ _ _ _ _ _ _, rfl, id, rowW_nm _ _ _ _ _ _ _ rfl rfl⟩, HLe.oc (bK_le rfl rfl) (HLe.oc (bK_le rfl rfl) ⟨⟨_, _, rfl, rfl, rfl, rfl, id, rfl⟩, ⟨_, _, rfl, rfl, rfl, rfl, id, rfl⟩, p8, p8, p8, p8, p8, p8, p8, p8, p8, p8, p8, p8, p8, p8, p8, p8, p8, p8, p8, p8, p8, p8, p8, p8, p8, p8, p8, p8, p8, p8, p8, p8, p8, p8, p8, p8, p8, p8, p8, p8, ⟨_, _, rfl, rfl, offC_ren _ o (rowsC_flat actN_flat l), rfl, id, offC_nm _ o (rowsC_flat actN_flat l)⟩, trivial⟩)⟩⟩
      ·refine .q (op_fieldAddr (m := 0) Tryd.underlying28 rfl (by kernel_rfl) rfl) trivial rfl ?_
       refine .as (.ptr 1048 1) rfl ?_
       refine .q (op_load Tryd.underlying3 rfl rfl rfl rfl (by show 1 < 5; decide)) trivial rfl ?_
       refine .q (op_cmpI rfl rfl rfl) trivial rfl ?_
       refine .q (op_move rfl) trivial rfl ?_
       refine .know (b' := false) (decide_eq_false hb) ?_
       refine .q (op_fieldAddr (m := 0) Tryd.underlying28 rfl (by kernel_rfl) rfl) ⟨_, rfl, rfl⟩ rfl ?_
       refine .as (.ptr 1048 1) rfl ?_
       refine .q (op_load Tryd.underlying3 rfl rfl rfl rfl (by show 1 < 5; decide)) ⟨_, rfl, rfl⟩ rfl ?_
       refine .q (op_cmpI rfl rfl rfl) ⟨_, rfl, rfl⟩ rfl ?_
       refine .q (op_pick_false rfl rfl rfl) trivial rfl ?_
       refine .q (op_assign rfl) trivial rfl ?_
       refine .nil ?_
       show Ev _ _ _ _ _
       refine .cond_true rfl (decide_eq_true (by omega)) ?_
       refine .region ?_
       refine .q (op_assign rfl) trivial rfl ?_
       refine .nil ?_
       exact ⟨⟨⟨true, none, none, .inl ⟨rfl, rfl, rfl⟩, hx, hy, lx, ly⟩, 1, .inr ⟨hk, .inl ⟨rfl, .inr hb2⟩⟩⟩, StLe.mk [(1000, 1000), (1008, 1008), (1016, 1016), (1024, 1024), (1032, 1048)] rfl rfl ⟨⟨_, rfl, by first | rfl | (simp only [AV.ren]; congr 1; omega), rfl⟩, ⟨_, rfl, by first | rfl | (simp only [AV.ren]; congr 1; omega), rfl⟩, ⟨_, rfl, by first | rfl | (simp only [AV.ren]; congr 1; omega), rfl⟩, ⟨_, rfl, by first | rfl | (simp only [AV.ren]; congr 1; omega), rfl⟩, ⟨_, rfl, by first | rfl | (simp only [AV.ren]; congr 1; omega), rfl⟩, ⟨_, rfl, by first | rfl | (simp only [AV.ren]; congr 1; omega), rfl⟩, ⟨_, rfl, by first | rfl | (simp only [AV.ren]; congr 1; omega), rfl⟩, ⟨_, rfl, by first | rfl | (simp only [AV.ren]; congr 1; omega), rfl⟩, trivial⟩ ⟨⟨_, _, rfl, rfl, rowW_ren _ _ _ _ _ _ _, rfl, id, rowW_nm _ _ _ _ _ _ _ rfl rfl⟩, HLe.oc (bK_le rfl rfl) (HLe.oc (bK_le rfl rfl) ⟨⟨_, _, rfl, rfl, rfl, rfl, id, rfl⟩, ⟨_, _, rfl, rfl, rfl, rfl, id, rfl⟩, p8, p8, p8, p8, p8, p8, p8, p8, p8, p8, p8, p8, p8, p8, p8, p8, p8, p8, p8, p8, p8, p8, p8, p8, p8, p8, p8, p8, p8, p8, p8, p8, p8, p8, p8, p8, p8, p8, p8, p8, ⟨_, _, rfl, rfl, offC_ren _ o (rowsC_flat actN_flat l), rfl, id, offC_nm _ o (rowsC_flat actN_flat l)⟩, trivial⟩)⟩⟩
      ·refine .q (op_fieldAddr (m := 0) Tryd.underlying28 rfl (by kernel_rfl) rfl) trivial rfl ?_
       refine .as (.ptr 1048 1) rfl ?_
       refine .q (op_load Tryd.underlying3 rfl rfl rfl rfl (by show 1 < 5; decide)) trivial rfl ?_
       refine .q (op_cmpI rfl rfl rfl) trivial rfl ?_
       refine .q (op_move rfl) trivial rfl ?_
       refine .know (b' := false) (decide_eq_false hb) ?_
       refine .q (op_fieldAddr (m := 0) Tryd.underlying28 rfl (by kernel_rfl) rfl) ⟨_, rfl, rfl⟩ rfl ?_
       refine .as (.ptr 1048 1) rfl ?_
       refine .q (op_load Tryd.underlying3 rfl rfl rfl rfl (by show 1 < 5; decide)) ⟨_, rfl, rfl⟩ rfl ?_
       refine .q (op_cmpI rfl rfl rfl) ⟨_, rfl, rfl⟩ rfl ?_
       refine .q (op_pick_false rfl rfl rfl) trivial rfl ?_
       refine .q (op_assign rfl) trivial rfl ?_
       refine .nil ?_
       show Ev _ _ _ _ _
       refine .cond_false rfl (decide_eq_false (by omega)) ?_
       refine .seq ?_
       refine .region ?_
       refine .q (op_move rfl) trivial rfl ?_
       refine .q (op_notB rfl) trivial rfl ?_
       refine .q (op_assign rfl) trivial rfl ?_
       refine .nil ?_
       show Ev _ _ _ _ _
       refine .cond_true rfl (rfl) ?_
       refine .region ?_
       refine .q (op_assign rfl) trivial rfl ?_
       refine .nil ?_
       exact ⟨⟨⟨true, none, none, .inl ⟨rfl, rfl, rfl⟩, hx, hy, lx, ly⟩, 18, .inr ⟨hk, .inr (.inl ⟨rfl, by omega, by omega, rfl⟩)⟩⟩, StLe.mk [(1000, 1000), (1008, 1008), (1016, 1016), (1024, 1024), (1032, 1048)] rfl rfl ⟨⟨_, rfl, by first | rfl | (simp only [AV.ren]; congr 1; omega), rfl⟩, ⟨_, rfl, by first | rfl | (simp only [AV.ren]; congr 1; omega), rfl⟩, ⟨_, rfl, by first | rfl | (simp only [AV.ren]; congr 1; omega), rfl⟩, ⟨_, rfl, by first | rfl | (simp only [AV.ren]; congr 1; omega), rfl⟩, ⟨_, rfl, by first | rfl | (simp only [AV.ren]; congr 1; omega), rfl⟩, ⟨_, rfl, by first | rfl | (simp only [AV.ren]; congr 1; omega), rfl⟩, ⟨_, rfl, by first | rfl | (simp only [AV.ren]; congr 1; omega), rfl⟩, ⟨_, rfl, by first | rfl | (simp only [AV.ren]; congr 1; omega), rfl⟩, trivial⟩ ⟨⟨_, _, rfl, rfl, rowW_ren _ _ _ _ _ _ _, rfl, id, rowW_nm _ _ _ _ _ _ _ rfl rfl⟩, HLe.oc (bK_le rfl rfl) (HLe.oc (bK_le rfl rfl) ⟨⟨_, _, rfl, rfl, rfl, rfl, id, rfl⟩, ⟨_, _, rfl, rfl, rfl, rfl, id, rfl⟩, p8, p8, p8, p8, p8, p8, p8, p8, p8, p8, p8, p8, p8, p8, p8, p8, p8, p8, p8, p8, p8, p8, p8, p8, p8, p8, p8, p8, p8, p8, p8, p8, p8, p8, p8, p8, p8, p8, p8, p8, ⟨_, _, rfl, rfl, offC_ren _ o (rowsC_flat actN_flat l), rfl, id, offC_nm _ o (rowsC_flat actN_flat l)⟩, trivial⟩)⟩⟩
    ·refine .block ?_
     refine .seq ?_
     refine .region ?_
     refine dite ((l.getD i default).k = 4) (fun hk => ?_) (fun hk => ?_)
     ·refine .q (op_fieldAddr (m := 0) Tryd.underlying28 rfl (by kernel_rfl) rfl) trivial rfl ?_
      refine .as (.ptr 1048 0) rfl ?_
      refine .q (op_load Tryd.underlying3 rfl rfl rfl rfl (by show 0 < 5; decide)) trivial rfl ?_
      refine .q (op_cmpI rfl rfl rfl) trivial rfl ?_
      refine .q (op_assign rfl) trivial rfl ?_
      refine .nil ?_
      show Ev _ _ _ _ _
      refine .cond_true rfl (beq_of' hk) ?_
      refine .seq ?_
      refine .region ?_
      refine .q (op_move rfl) trivial rfl ?_
      refine .q (op_cmpI rfl rfl rfl) trivial rfl ?_
      refine .nil ?_
      show Ev _ _ _ _ _
      refine .cond rfl (fun hc53 => ?_) (fun hc53 => ?_)
      ·simp only [decide_eq_true_eq, decide_eq_false_iff_not, beq_iff_eq, bne_iff_ne, ne_eq, beq_eq_false_iff_ne, bne_eq_false_iff_eq] at hc53
       refine .seq ?_
       refine .region ?_
       refine .q (op_move rfl) trivial rfl ?_
       refine .a (op_call (U := [(1000, some ⟨rowW R true 501 502 none none, 51, true⟩)]) [(500, 1000), (501, 1008), (502, 1016)] [] (down_ev R x y) Tryd.func7 (by kernel_rfl) rfl rfl rfl (⟨⟨_, rfl, rfl, rfl⟩, trivial⟩) (⟨⟨_, _, rfl, rfl, rowW_ren _ _ _ _ _ _ _, rfl, id, rowW_nmC _ _ _ _ _ _ _ rfl rfl⟩, trivial⟩) (⟨⟨500, _, rfl, rfl, rfl, rfl, .inr ⟨rfl, _, rfl, rfl⟩⟩, trivial⟩) (⟨(fun _ => ⟨1000, _, rfl, rfl⟩), trivial⟩) rfl) trivial rfl ?_
       refine .nil ?_
       show Ev _ _ _ _ _
       refine .region ?_
       refine .a (ap_build (us := [.str [], .str []]) (c := .aggS [[], []]) Tryd.underlying26 inf9 rfl (by decide) (by decide) ⟨rfl, rfl, rfl, rfl, rfl, rfl, trivial⟩ rfl) trivial rfl ?_
       refine .q (op_assign rfl) trivial rfl ?_
       refine .q (op_assign rfl) trivial rfl ?_
       refine .nil ?_
       exact ⟨⟨⟨true, none, none, .inl ⟨rfl, rfl, rfl⟩, trivial, trivial, hR0, hR0⟩, 0, .inl ⟨hk, rfl⟩⟩, StLe.mk [(1000, 1000), (1024, 1064), (1032, 1048)] rfl rfl ⟨⟨_, rfl, by first | rfl | (simp only [AV.ren]; congr 1; omega), rfl⟩, ⟨_, rfl, by first | rfl | (simp only [AV.ren]; congr 1; omega), rfl⟩, ⟨_, rfl, by first | rfl | (simp only [AV.ren]; congr 1; omega), rfl⟩, ⟨_, rfl, by first | rfl | (simp only [AV.ren]; congr 1; omega), rfl⟩, ⟨_, rfl, by first | rfl | (simp only [AV.ren]; congr 1; omega), rfl⟩, ⟨_, rfl, by first | rfl | (simp only [AV.ren]; congr 1; omega), rfl⟩, ⟨_, rfl, by first | rfl | (simp only [AV.ren]; congr 1; omega), rfl⟩, ⟨_, rfl, by first | rfl | (simp only [AV.ren]; congr 1; omega), rfl⟩, trivial⟩ ⟨⟨_, _, rfl, rfl, (by rfl), rfl, id, (by rfl)⟩, ⟨_, _, rfl, rfl, rfl, rfl, id, rfl⟩, ⟨_, _, rfl, rfl, rfl, rfl, id, rfl⟩, p8, p8, p8, p8, p8, p8, p8, p8, p8, p8, p8, p8, p8, p8, p8, p8, p8, p8, p8, p8, p8, p8, p8, p8, p8, p8, p8, p8, p8, p8, p8, p8, p8, p8, p8, p8, p8, p8, p8, p8, ⟨_, _, rfl, rfl, offC_ren _ o (rowsC_flat actN_flat l), rfl, id, offC_nm _ o (rowsC_flat actN_flat l)⟩, trivial⟩⟩
      ·simp only [decide_eq_true_eq, decide_eq_false_iff_not, beq_iff_eq, bne_iff_ne, ne_eq, beq_eq_false_iff_ne, bne_eq_false_iff_eq] at hc53
       refine .skip ?_
       exact ⟨⟨⟨false, x, y, .inr rfl, hx, hy, lx, ly⟩, 0, .inl ⟨hk, rfl⟩⟩, StLe.mk [(1000, 1000), (1008, 1008), (1016, 1016), (1024, 1024), (1032, 1048)] rfl rfl ⟨⟨_, rfl, by first | rfl | (simp only [AV.ren]; congr 1; omega), rfl⟩, ⟨_, rfl, by first | rfl | (simp only [AV.ren]; congr 1; omega), rfl⟩, ⟨_, rfl, by first | rfl | (simp only [AV.ren]; congr 1; omega), rfl⟩, ⟨_, rfl, by first | rfl | (simp only [AV.ren]; congr 1; omega), rfl⟩, ⟨_, rfl, by first | rfl | (simp only [AV.ren]; congr 1; omega), rfl⟩, ⟨_, rfl, by first | rfl | (simp only [AV.ren]; congr 1; omega), rfl⟩, ⟨_, rfl, by first | rfl | (simp only [AV.ren]; congr 1; omega), rfl⟩, ⟨_, rfl, by first | rfl | (simp only [AV.ren]; congr 1; omega), rfl⟩, trivial⟩ ⟨⟨_, _, rfl, rfl, rowW_ren _ _ _ _ _ _ _, rfl, id, rowW_nm _ _ _ _ _ _ _ rfl rfl⟩, HLe.oc (bK_le rfl rfl) (HLe.oc (bK_le rfl rfl) ⟨⟨_, _, rfl, rfl, rfl, rfl, id, rfl⟩, ⟨_, _, rfl, rfl, rfl, rfl, id, rfl⟩, p8, p8, p8, p8, p8, p8, p8, p8, p8, p8, p8, p8, p8, p8, p8, p8, p8, p8, p8, p8, p8, p8, p8, p8, p8, p8, p8, p8, p8, p8, p8, p8, p8, p8, p8, p8, p8, p8, p8, p8, ⟨_, _, rfl, rfl, offC_ren _ o (rowsC_flat actN_flat l), rfl, id, offC_nm _ o (rowsC_flat actN_flat l)⟩, trivial⟩)⟩⟩
     ·refine .q (op_fieldAddr (m := 0) Tryd.underlying28 rfl (by kernel_rfl) rfl) trivial rfl ?_
      refine .as (.ptr 1048 0) rfl ?_
      refine .q (op_load Tryd.underlying3 rfl rfl rfl rfl (by show 0 < 5; decide)) trivial rfl ?_
      refine .q (op_cmpI rfl rfl rfl) trivial rfl ?_
      refine .q (op_assign rfl) trivial rfl ?_
      refine .nil ?_
      show Ev _ _ _ _ _
      refine .cond_false rfl (beq_no hk) ?_
      refine .seq ?_
      refine .region ?_
      refine dite ((l.getD i default).w < 0) (fun hb => ?_) (fun hb => dite (2 ≤ (l.getD i default).w) (fun hb2 => ?_) (fun hb2 => ?_))
      ·refine .q (op_fieldAddr (m := 0) Tryd.underlying28 rfl (by kernel_rfl) rfl) trivial rfl ?_
       refine .as (.ptr 1048 1) rfl ?_
       refine .q (op_load Tryd.underlying3 rfl rfl rfl rfl (by show 1 < 5; decide)) trivial rfl ?_
       refine .q (op_cmpI rfl rfl rfl) trivial rfl ?_
       refine .q (op_move rfl) trivial rfl ?_
       refine .know (b' := true) (decide_eq_true hb) ?_
       refine .no ⟨_, rfl, rfl⟩ rfl ?_
       refine .no ⟨_, rfl, rfl⟩ rfl ?_
       refine .no ⟨_, rfl, rfl⟩ rfl ?_
       refine .q (op_pick_true rfl rfl rfl) trivial rfl ?_
       refine .q (op_assign rfl) trivial rfl ?_
       refine .nil ?_
       show Ev _ _ _ _ _
       refine .cond_true rfl rfl ?_
       refine .region ?_
       refine .q (op_assign rfl) trivial rfl ?_
       refine .nil ?_
       exact ⟨⟨⟨false, x, y, .inr rfl, hx, hy, lx, ly⟩, 1, .inr ⟨hk, .inl ⟨rfl, .inl hb⟩⟩⟩, StLe.mk [(1000, 1000), (1008, 1008), (1016, 1016), (1024, 1024), (1032, 1048)] rfl rfl ⟨⟨_, rfl, by first | rfl | (simp only [AV.ren]; congr 1; omega), rfl⟩, ⟨_, rfl, by first | rfl | (simp only [AV.ren]; congr 1; omega), rfl⟩, ⟨_, rfl, by first | rfl | (simp only [AV.ren]; congr 1; omega), rfl⟩, ⟨_, rfl, by first | rfl | (simp only [AV.ren]; congr 1; omega), rfl⟩, ⟨_, rfl, by first | rfl | (simp only [AV.ren]; congr 1; omega), rfl⟩, ⟨_, rfl, by first | rfl | (simp only [AV.ren]; congr 1; omega), rfl⟩, ⟨_, rfl, by first | rfl | (simp only [AV.ren]; congr 1; omega), rfl⟩, ⟨_, rfl, by first | rfl | (simp only [AV.ren]; congr 1; omega), rfl⟩, trivial⟩ ⟨⟨_, _, rfl, rfl, rowW_ren _ _ _ _ _ _ _, rfl, id, rowW_nm _ _ _ _ _ _ _ rfl rfl⟩, HLe.oc (bK_le rfl rfl) (HLe.oc (bK_le rfl rfl) ⟨⟨_, _, rfl, rfl, rfl, rfl, id, rfl⟩, ⟨_, _, rfl, rfl, rfl, rfl, id, rfl⟩, p8, p8, p8, p8, p8, p8, p8, p8, p8, p8, p8, p8, p8, p8, p8, p8, p8, p8, p8, p8, p8, p8, p8, p8, p8, p8, p8, p8, p8, p8, p8, p8, p8, p8, p8, p8, p8, p8, p8, p8, ⟨_, _, rfl, rfl, offC_ren _ o (rowsC_flat actN_flat l), rfl, id, offC_nm _ o (rowsC_flat actN_flat l)⟩, trivial⟩)⟩⟩
      ·refine .q (op_fieldAddr (m := 0) Tryd.underlying28 rfl (by kernel_rfl) rfl) trivial rfl ?_
       refine .as (.ptr 1048 1) rfl ?_
       refine .q (op_load Tryd.underlying3 rfl rfl rfl rfl (by show 1 < 5; decide)) trivial rfl ?_
       refine .q (op_cmpI rfl rfl rfl) trivial rfl ?_
       refine .q (op_move rfl) trivial rfl ?_
       refine .know (b' := false) (decide_eq_false hb) ?_
       refine .q (op_fieldAddr (m := 0) Tryd.underlying28 rfl (by kernel_rfl) rfl) ⟨_, rfl, rfl⟩ rfl ?_
       refine .as (.ptr 1048 1) rfl ?_
       refine .q (op_load Tryd.underlying3 rfl rfl rfl rfl (by show 1 < 5; decide)) ⟨_, rfl, rfl⟩ rfl ?_
       refine .q (op_cmpI rfl rfl rfl) ⟨_, rfl, rfl⟩ rfl ?_
       refine .q (op_pick_false rfl rfl rfl) trivial rfl ?_
       refine .q (op_assign rfl) trivial rfl ?_
       refine .nil ?_
       show Ev _ _ _ _ _
       refine .cond_true rfl (decide_eq_true (by omega)) ?_
       refine .region ?_
       refine .q (op_assign rfl) trivial rfl ?_
       refine .nil ?_
       exact ⟨⟨⟨false, x, y, .inr rfl, hx, hy, lx, ly⟩, 1, .inr ⟨hk, .inl ⟨rfl, .inr hb2⟩⟩⟩, StLe.mk [(1000, 1000), (1008, 1008), (1016, 1016), (1024, 1024), (1032, 1048)] rfl rfl ⟨⟨_, rfl, by first | rfl | (simp only [AV.ren]; congr 1; omega), rfl⟩, ⟨_, rfl, by first | rfl | (simp only [AV.ren]; congr 1; omega), rfl⟩, ⟨_, rfl, by first | rfl | (simp only [AV.ren]; congr 1; omega), rfl⟩, ⟨_, rfl, by first | rfl | (simp only [AV.ren]; congr 1; omega), rfl⟩, ⟨_, rfl, by first | rfl | (simp only [AV.ren]; congr 1; omega), rfl⟩, ⟨_, rfl, by first | rfl | (simp only [AV.ren]; congr 1; omega), rfl⟩, ⟨_, rfl, by first | rfl | (simp only [AV.ren]; congr 1; omega), rfl⟩, ⟨_, rfl, by first | rfl | (simp only [AV.ren]; congr 1; omega), rfl⟩, trivial⟩ ⟨⟨_, _, rfl, rfl, rowW_ren _ _ _ _ _ _ _, rfl, id, rowW_nm _ _ _ _ _ _ _ rfl rfl⟩, HLe.oc (bK_le rfl rfl) (HLe.oc (bK_le rfl rfl) ⟨⟨_, _, rfl, rfl, rfl, rfl, id, rfl⟩, ⟨_, _, rfl, rfl, rfl, rfl, id, rfl⟩, p8, p8, p8, p8, p8, p8, p8, p8, p8, p8, p8, p8, p8, p8, p8, p8, p8, p8, p8, p8, p8, p8, p8, p8, p8, p8, p8, p8, p8, p8, p8, p8, p8, p8, p8, p8, p8, p8, p8, p8, ⟨_, _, rfl, rfl, offC_ren _ o (rowsC_flat actN_flat l), rfl, id, offC_nm _ o (rowsC_flat actN_flat l)⟩, trivial⟩)⟩⟩
      ·refine .q (op_fieldAddr (m := 0) Tryd.underlying28 rfl (by kernel_rfl) rfl) trivial rfl ?_
       refine .as (.ptr 1048 1) rfl ?_
       refine .q (op_load Tryd.underlying3 rfl rfl rfl rfl (by show 1 < 5; decide)) trivial rfl ?_
       refine .q (op_cmpI rfl rfl rfl) trivial rfl ?_
       refine .q (op_move rfl) trivial rfl ?_
       refine .know (b' := false) (decide_eq_false hb) ?_
       refine .q (op_fieldAddr (m := 0) Tryd.underlying28 rfl (by kernel_rfl) rfl) ⟨_, rfl, rfl⟩ rfl ?_
       refine .as (.ptr 1048 1) rfl ?_
       refine .q (op_load Tryd.underlying3 rfl rfl rfl rfl (by show 1 < 5; decide)) ⟨_, rfl, rfl⟩ rfl ?_
       refine .q (op_cmpI rfl rfl rfl) ⟨_, rfl, rfl⟩ rfl ?_
       refine .q (op_pick_false rfl rfl rfl) trivial rfl ?_
       refine .q (op_assign rfl) trivial rfl ?_
       refine .nil ?_
       show Ev _ _ _ _ _
       refine .cond_false rfl (decide_eq_false (by omega)) ?_
       refine .seq ?_
       refine .region ?_
       refine .q (op_move rfl) trivial rfl ?_
       refine .q (op_notB rfl) trivial rfl ?_
       refine .q (op_assign rfl) trivial rfl ?_
       refine .nil ?_
       show Ev _ _ _ _ _
       refine .cond_false rfl (rfl) ?_
       refine .skip ?_
       have h8 : (l.getD i default).w = 0 ∨ (l.getD i default).w = 1 := by omega
       rcases h8 with h9 | h9
       ·exact ⟨⟨⟨false, x, y, .inr rfl, hx, hy, lx, ly⟩, 0, .inr ⟨hk, .inr (.inr (.inl ⟨rfl, h9, rfl⟩))⟩⟩, StLe.mk [(1000, 1000), (1008, 1008), (1016, 1016), (1024, 1024), (1032, 1048)] rfl rfl ⟨⟨_, rfl, by first | rfl | (simp only [AV.ren]; congr 1; omega), rfl⟩, ⟨_, rfl, by first | rfl | (simp only [AV.ren]; congr 1; omega), rfl⟩, ⟨_, rfl, by first | rfl | (simp only [AV.ren]; congr 1; omega), rfl⟩, ⟨_, rfl, by first | rfl | (simp only [AV.ren]; congr 1; omega), rfl⟩, ⟨_, rfl, by first | rfl | (simp only [AV.ren]; congr 1; omega), rfl⟩, ⟨_, rfl, by first | rfl | (simp only [AV.ren]; congr 1; omega), rfl⟩, ⟨_, rfl, by first | rfl | (simp only [AV.ren]; congr 1; omega), rfl⟩, ⟨_, rfl, by first | rfl | (simp only [AV.ren]; congr 1; omega), rfl⟩, trivial⟩ ⟨⟨_, _, rfl, rfl, rowW_ren _ _ _ _ _ _ _, rfl, id, rowW_nm _ _ _ _ _ _ _ rfl rfl⟩, HLe.oc (bK_le rfl rfl) (HLe.oc (bK_le rfl rfl) ⟨⟨_, _, rfl, rfl, rfl, rfl, id, rfl⟩, ⟨_, _, rfl, rfl, rfl, rfl, id, rfl⟩, p8, p8, p8, p8, p8, p8, p8, p8, p8, p8, p8, p8, p8, p8, p8, p8, p8, p8, p8, p8, p8, p8, p8, p8, p8, p8, p8, p8, p8, p8, p8, p8, p8, p8, p8, p8, p8, p8, p8, p8, ⟨_, _, rfl, rfl, offC_ren _ o (rowsC_flat actN_flat l), rfl, id, offC_nm _ o (rowsC_flat actN_flat l)⟩, trivial⟩)⟩⟩
       ·exact ⟨⟨⟨false, x, y, .inr rfl, hx, hy, lx, ly⟩, 0, .inr ⟨hk, .inr (.inr (.inr ⟨rfl, h9, rfl⟩))⟩⟩, StLe.mk [(1000, 1000), (1008, 1008), (1016, 1016), (1024, 1024), (1032, 1048)] rfl rfl ⟨⟨_, rfl, by first | rfl | (simp only [AV.ren]; congr 1; omega), rfl⟩, ⟨_, rfl, by first | rfl | (simp only [AV.ren]; congr 1; omega), rfl⟩, ⟨_, rfl, by first | rfl | (simp only [AV.ren]; congr 1; omega), rfl⟩, ⟨_, rfl, by first | rfl | (simp only [AV.ren]; congr 1; omega), rfl⟩, ⟨_, rfl, by first | rfl | (simp only [AV.ren]; congr 1; omega), rfl⟩, ⟨_, rfl, by first | rfl | (simp only [AV.ren]; congr 1; omega), rfl⟩, ⟨_, rfl, by first | rfl | (simp only [AV.ren]; congr 1; omega), rfl⟩, ⟨_, rfl, by first | rfl | (simp only [AV.ren]; congr 1; omega), rfl⟩, trivial⟩ ⟨⟨_, _, rfl, rfl, rowW_ren _ _ _ _ _ _ _, rfl, id, rowW_nm _ _ _ _ _ _ _ rfl rfl⟩, HLe.oc (bK_le rfl rfl) (HLe.oc (bK_le rfl rfl) ⟨⟨_, _, rfl, rfl, rfl, rfl, id, rfl⟩, ⟨_, _, rfl, rfl, rfl, rfl, id, rfl⟩, p8, p8, p8, p8, p8, p8, p8, p8, p8, p8, p8, p8, p8, p8, p8, p8, p8, p8, p8, p8, p8, p8, p8, p8, p8, p8, p8, p8, p8, p8, p8, p8, p8, p8, p8, p8, p8, p8, p8, p8, ⟨_, _, rfl, rfl, offC_ren _ o (rowsC_flat actN_flat l), rfl, id, offC_nm _ o (rowsC_flat actN_flat l)⟩, trivial⟩)⟩⟩
   ·rintro ⟨⟨d, x, y, hdd, hx, hy, lx, ly⟩, want, hw⟩
    refine Ev.monoQ (plays_item eo hd R hR0 hR1 o l hl2 i (by omega) (by omega) d x y hdd hx hy lx ly want hw) (fun e st2 h => ?_)
    cases e with
    | normal =>
     obtain ⟨⟨d', x', y', hd', hx', hy', lx', ly'⟩, hq⟩ := h
     show Ev _ _ _ _ _
     refine Ev.weak hq ?_
     dsimp only
     show Ev _ _ _ _ _
     refine .region ?_
     refine .q (op_move rfl) trivial rfl ?_
     refine .q (op_addI rfl rfl ⟨by omega, by omega⟩) trivial rfl ?_
     refine .q (op_assign rfl) trivial rfl ?_
     refine .nil ?_
     exact ⟨⟨i + 1, ⟨d', x', y', hd', hx', hy', lx', ly'⟩, by omega, by omega⟩, by show 120 - (i + 1) < 120 - i; omega, StLe.mk [(1000, 1000), (1008, 1008), (1016, 1016), (1024, 1024)] rfl rfl ⟨⟨_, rfl, by first | rfl | (simp only [AV.ren]; congr 1; omega), rfl⟩, ⟨_, rfl, by first | rfl | (simp only [AV.ren]; congr 1; omega), rfl⟩, ⟨_, rfl, by first | rfl | (simp only [AV.ren]; congr 1; omega), rfl⟩, ⟨_, rfl, by first | rfl | (simp only [AV.ren]; congr 1; omega), rfl⟩, ⟨_, rfl, by first | rfl | (simp only [AV.ren]; congr 1; omega), rfl⟩, ⟨_, rfl, by first | rfl | (simp only [AV.ren]; congr 1; omega), rfl⟩, trivial⟩ ⟨⟨_, _, rfl, rfl, rowW_ren _ _ _ _ _ _ _, rfl, id, rowW_nm _ _ _ _ _ _ _ rfl rfl⟩, HLe.oc (bK_le rfl rfl) (HLe.oc (bK_le rfl rfl) ⟨⟨_, _, rfl, rfl, rfl, rfl, id, rfl⟩, p8, p8, p8, p8, p8, p8, p8, p8, p8, p8, p8, p8, p8, p8, p8, p8, p8, p8, p8, p8, p8, p8, p8, p8, p8, p8, p8, p8, p8, p8, p8, p8, p8, p8, p8, p8, p8, p8, p8, p8, ⟨_, _, rfl, rfl, offC_ren _ o (rowsC_flat actN_flat l), rfl, id, offC_nm _ o (rowsC_flat actN_flat l)⟩, trivial⟩)⟩⟩
    | _ => exact h.elim
  ·simp only [decide_eq_true_eq, decide_eq_false_iff_not, beq_iff_eq, bne_iff_ne, ne_eq, beq_eq_false_iff_ne, bne_eq_false_iff_eq] at hc41
   refine .exit ?_
   show Ev _ _ _ _ _
   refine .seq ?_
   refine .region ?_
   refine .q (op_move rfl) trivial rfl ?_
   refine .q (op_call (U := []) [(500, 1000)] [] (len_arg 2 (by decide) eo) Tryd.func14 (by kernel_rfl) rfl rfl rfl (⟨⟨_, rfl, rfl, rfl⟩, ⟨_, rfl, rfl, rfl⟩, trivial⟩) (⟨⟨_, _, rfl, rfl, rfl, rfl, (fun h => by cases h), rfl⟩, trivial⟩) (trivial) (⟨(fun h => by cases h), trivial⟩) rfl) trivial rfl ?_
   refine .q (op_cmpI rfl rfl rfl) trivial rfl ?_
   refine .q (op_move rfl) trivial rfl ?_
   refine .know (b' := true) (rfl) ?_
   refine .q (op_move rfl) ⟨_, rfl, rfl⟩ rfl ?_
   refine .q (op_call (U := []) [(500, 1000)] [] (room_arg (-1) (by decide) eo) Tryd.func15 (by kernel_rfl) rfl rfl rfl (⟨⟨_, rfl, rfl, rfl⟩, ⟨_, rfl, rfl, rfl⟩, trivial⟩) (⟨⟨_, _, rfl, rfl, rfl, rfl, (fun h => by cases h), rfl⟩, trivial⟩) (trivial) (⟨(fun h => by cases h), trivial⟩) rfl) ⟨_, rfl, rfl⟩ rfl ?_
   refine .q (op_cmpI rfl rfl rfl) ⟨_, rfl, rfl⟩ rfl ?_
   refine .q (op_pick_true rfl rfl rfl) trivial rfl ?_
   refine .q (op_assign rfl) trivial rfl ?_
   refine .nil ?_
   show Ev _ _ _ _ _
   refine .ret ?_
   show RetOk _ _ _ _ _ _ _
   exact ret1v rfl (.inl rfl) rfl (rfl) trivial
 ·simp only [decide_eq_true_eq, decide_eq_false_iff_not, beq_iff_eq, bne_iff_ne, ne_eq, beq_eq_false_iff_ne, bne_eq_false_iff_eq] at hg38
  refine .no ⟨_, rfl, rfl⟩ rfl ?_
  refine .no ⟨_, rfl, rfl⟩ rfl ?_
  refine .q (op_pick_false rfl rfl rfl) trivial rfl ?_
  refine .nil ?_
  show Ev _ _ _ _ _
  refine .cond_false rfl rfl ?_
  refine .exit ?_
  show Ev _ _ _ _ _
  refine .seq ?_
  refine .region ?_
  refine .q (op_move rfl) trivial rfl ?_
  refine .q (op_call (U := []) [(500, 1000)] [] (len_arg 2 (by decide) eo) Tryd.func14 (by kernel_rfl) rfl rfl rfl (⟨⟨_, rfl, rfl, rfl⟩, ⟨_, rfl, rfl, rfl⟩, trivial⟩) (⟨⟨_, _, rfl, rfl, rfl, rfl, (fun h => by cases h), rfl⟩, trivial⟩) (trivial) (⟨(fun h => by cases h), trivial⟩) rfl) trivial rfl ?_
  refine .q (op_cmpI rfl rfl rfl) trivial rfl ?_
  refine .q (op_move rfl) trivial rfl ?_
  refine .know (b' := true) (rfl) ?_
  refine .q (op_move rfl) ⟨_, rfl, rfl⟩ rfl ?_
  refine .q (op_call (U := []) [(500, 1000)] [] (room_arg (-1) (by decide) eo) Tryd.func15 (by kernel_rfl) rfl rfl rfl (⟨⟨_, rfl, rfl, rfl⟩, ⟨_, rfl, rfl, rfl⟩, trivial⟩) (⟨⟨_, _, rfl, rfl, rfl, rfl, (fun h => by cases h), rfl⟩, trivial⟩) (trivial) (⟨(fun h => by cases h), trivial⟩) rfl) ⟨_, rfl, rfl⟩ rfl ?_
  refine .q (op_cmpI rfl rfl rfl) ⟨_, rfl, rfl⟩ rfl ?_
  refine .q (op_pick_true rfl rfl rfl) trivial rfl ?_
  refine .q (op_assign rfl) trivial rfl ?_
  refine .nil ?_
  show Ev _ _ _ _ _
  refine .ret ?_
  show RetOk _ _ _ _ _ _ _
  exact ret1v rfl (.inl rfl) rfl (rfl) trivial
end Go.Proofs.YtpmoonglbcglaaaDoor
namespace Go.Proofs.YtpmoonglbcglaaaDoor
open Go.ChangeShapes Go.WideShapes Go.ChangeAt Go.RowKit
def errTexts : List (List UInt8) := [[97, 110, 32, 97, 114, 103, 117, 109, 101, 110, 116, 32, 116, 104, 97, 116, 32, 109, 97, 121, 32, 110, 111, 116, 32, 98, 101], [98, 121, 116, 101, 115, 32, 97, 114, 101, 32, 119, 97, 110, 116, 105, 110, 103], [98, 121, 116, 101, 115, 32, 116, 104, 97, 116, 32, 115, 97, 121, 32, 110, 111, 116, 104, 105, 110, 103], [109, 111, 114, 101, 32, 116, 104, 97, 110, 32, 116, 104, 101, 114, 101, 32, 109, 97, 121, 32, 98, 101], [97, 32, 115, 117, 109, 32, 116, 104, 97, 116, 32, 100, 111, 101, 115, 110, 39, 116, 32, 102, 105, 116], [110, 111, 116, 32, 110, 111, 119], [116, 104, 101, 114, 101, 32, 105, 115, 32, 110, 111, 32, 114, 111, 111, 109], [116, 104, 101, 114, 101, 32, 105, 115, 32, 110, 111, 110, 101], [105, 116, 32, 105, 115, 32, 116, 104, 101, 114, 101, 32, 97, 108, 114, 101, 97, 100, 121], [97, 32, 107, 101, 121, 32, 116, 104, 97, 116, 32, 109, 97, 121, 32, 110, 111, 116, 32, 98, 101], [97, 32, 115, 105, 103, 110, 97, 116, 117, 114, 101, 32, 116, 104, 97, 116, 32, 100, 111, 101, 115, 110, 39, 116, 32, 102, 105, 116], [97, 110, 111, 116, 104, 101, 114, 32, 118, 101, 114, 115, 105, 111, 110], [110, 111, 116, 104, 105, 110, 103, 32, 105, 110, 32, 99, 111, 109, 109, 111, 110], [97, 110, 111, 116, 104, 101, 114, 32, 104, 111, 115, 116, 39, 115, 32, 107, 101, 121], [105, 116, 32, 109, 97, 121, 32, 110, 111, 116, 32, 99, 111, 109, 101, 32, 105, 110], [109, 111, 114, 101, 32, 116, 104, 97, 110, 32, 105, 116, 115, 32, 115, 104, 97, 114, 101], [97, 32, 110, 97, 109, 101, 32, 116, 104, 97, 116, 32, 109, 97, 121, 32, 110, 111, 116, 32, 98, 101], [105, 116, 32, 105, 115, 32, 103, 111, 110, 101], [98, 101, 121, 111, 110, 100, 32, 116, 104, 101, 32, 119, 105, 110, 100, 111, 119], [116, 104, 101, 114, 101, 32, 105, 115, 32, 110, 111, 32, 115, 117, 99, 104, 32, 107, 105, 110, 100]]
theorem texts_ne : ∀ i, i < 20 → ∀ j, j < 20 → errTexts.getD i [] = errTexts.getD j [] → i = j := by decide +kernel
theorem known_blk {W : World} {g n : Nat} {text : List UInt8} {eo : Nat → Nat × Nat} (h : SentAt W g (eo n) text) (hn : n < 49) : (⟨AV.agg [], errT, false⟩ : ABlk).own = false ∧ ∃ l s, errE W eo (401 + n) = some (l, s) ∧ BAt (errE W eo) ⟨.agg [], errT, false⟩ W l s := by
  obtain ⟨_, ⟨arr, t, h1⟩, _⟩ := h
  refine ⟨rfl, _, _, errE_err W eo n hn, arr, t, (0, 0), h1, (size_at h1).symm, ⟨⟨fun h => (by cases h), fun _ => rfl, fun _ h => absurd h (show ¬ (2000000 : Nat) ≤ 1000000 by decide)⟩, .inl rfl⟩, ?_, fun i x hx => ?_⟩
  · simp [AV.list, AV.parts]
  · simp [AV.list, AV.parts] at hx
theorem known_app {W : World} {E : Emb} : ∀ {a b : List (Nat × Option ABlk)}, known W E a → known W E b → known W E (a ++ b)
  | [], _, _, h => h
  | (_, none) :: r, _, h, k => known_app (a := r) h k
  | (_, some _) :: r, _, h, k => ⟨h.1, known_app (a := r) h.2 k⟩
theorem laid_errs {r : List (String × DataW Unit)} {W : World} (h : laidMet Tryd.prog (("speakeasy/api.ErrArg", Rows.laid_speakeasy_api_ErrArg) :: ("speakeasy/api.ErrEnd", Rows.laid_speakeasy_api_ErrEnd) :: ("speakeasy/api.ErrForm", Rows.laid_speakeasy_api_ErrForm) :: ("speakeasy/api.ErrBig", Rows.laid_speakeasy_api_ErrBig) :: ("speakeasy/api.ErrMac", Rows.laid_speakeasy_api_ErrMac) :: ("speakeasy/api.ErrState", Rows.laid_speakeasy_api_ErrState) :: ("speakeasy/api.ErrFull", Rows.laid_speakeasy_api_ErrFull) :: ("speakeasy/api.ErrNone", Rows.laid_speakeasy_api_ErrNone) :: ("speakeasy/api.ErrHave", Rows.laid_speakeasy_api_ErrHave) :: ("speakeasy/api.ErrKey", Rows.laid_speakeasy_api_ErrKey) :: ("speakeasy/api.ErrSign", Rows.laid_speakeasy_api_ErrSign) :: ("speakeasy/api.ErrVersion", Rows.laid_speakeasy_api_ErrVersion) :: ("speakeasy/api.ErrAlgo", Rows.laid_speakeasy_api_ErrAlgo) :: ("speakeasy/api.ErrHost", Rows.laid_speakeasy_api_ErrHost) :: ("speakeasy/api.ErrAuth", Rows.laid_speakeasy_api_ErrAuth) :: ("speakeasy/api.ErrQuota", Rows.laid_speakeasy_api_ErrQuota) :: ("speakeasy/api.ErrName", Rows.laid_speakeasy_api_ErrName) :: ("speakeasy/api.ErrGone", Rows.laid_speakeasy_api_ErrGone) :: ("speakeasy/api.ErrWindow", Rows.laid_speakeasy_api_ErrWindow) :: ("speakeasy/api.ErrKind", Rows.laid_speakeasy_api_ErrKind) :: r) W) : ∃ eo : Nat → Nat × Nat, (∀ i j, i < 20 → j < 20 → i ≠ j → eo i ≠ eo j) ∧ known W (errE W eo) [(0, some ⟨.agg [.err 79 (1) (offE eo (1))], errT, false⟩), (1, some ⟨.agg [.err 79 (2) (offE eo (2))], errT, false⟩), (2, some ⟨.agg [.err 79 (3) (offE eo (3))], errT, false⟩), (3, some ⟨.agg [.err 79 (4) (offE eo (4))], errT, false⟩), (4, some ⟨.agg [.err 79 (5) (offE eo (5))], errT, false⟩), (5, some ⟨.agg [.err 79 (6) (offE eo (6))], errT, false⟩), (6, some ⟨.agg [.err 79 (7) (offE eo (7))], errT, false⟩), (7, some ⟨.agg [.err 79 (8) (offE eo (8))], errT, false⟩), (8, some ⟨.agg [.err 79 (9) (offE eo (9))], errT, false⟩), (9, some ⟨.agg [.err 79 (10) (offE eo (10))], errT, false⟩), (10, some ⟨.agg [.err 79 (11) (offE eo (11))], errT, false⟩), (11, some ⟨.agg [.err 79 (12) (offE eo (12))], errT, false⟩), (12, some ⟨.agg [.err 79 (13) (offE eo (13))], errT, false⟩), (13, some ⟨.agg [.err 79 (14) (offE eo (14))], errT, false⟩), (14, some ⟨.agg [.err 79 (15) (offE eo (15))], errT, false⟩), (15, some ⟨.agg [.err 79 (16) (offE eo (16))], errT, false⟩), (16, some ⟨.agg [.err 79 (17) (offE eo (17))], errT, false⟩), (17, some ⟨.agg [.err 79 (18) (offE eo (18))], errT, false⟩), (18, some ⟨.agg [.err 79 (19) (offE eo (19))], errT, false⟩), (19, some ⟨.agg [.err 79 (20) (offE eo (20))], errT, false⟩), (401, some ⟨.agg [], errT, false⟩), (402, some ⟨.agg [], errT, false⟩), (403, some ⟨.agg [], errT, false⟩), (404, some ⟨.agg [], errT, false⟩), (405, some ⟨.agg [], errT, false⟩), (406, some ⟨.agg [], errT, false⟩), (407, some ⟨.agg [], errT, false⟩), (408, some ⟨.agg [], errT, false⟩), (409, some ⟨.agg [], errT, false⟩), (410, some ⟨.agg [], errT, false⟩), (411, some ⟨.agg [], errT, false⟩), (412, some ⟨.agg [], errT, false⟩), (413, some ⟨.agg [], errT, false⟩), (414, some ⟨.agg [], errT, false⟩), (415, some ⟨.agg [], errT, false⟩), (416, some ⟨.agg [], errT, false⟩), (417, some ⟨.agg [], errT, false⟩), (418, some ⟨.agg [], errT, false⟩), (419, some ⟨.agg [], errT, false⟩), (420, some ⟨.agg [], errT, false⟩)] := by
  have h0 := h
  have h1 := laidMet_tail h0
  have h2 := laidMet_tail h1
  have h3 := laidMet_tail h2
  have h4 := laidMet_tail h3
  have h5 := laidMet_tail h4
  have h6 := laidMet_tail h5
  have h7 := laidMet_tail h6
  have h8 := laidMet_tail h7
  have h9 := laidMet_tail h8
  have h10 := laidMet_tail h9
  have h11 := laidMet_tail h10
  have h12 := laidMet_tail h11
  have h13 := laidMet_tail h12
  have h14 := laidMet_tail h13
  have h15 := laidMet_tail h14
  have h16 := laidMet_tail h15
  have h17 := laidMet_tail h16
  have h18 := laidMet_tail h17
  have h19 := laidMet_tail h18
  obtain ⟨a0, s0⟩ := laid_err (g := 0) (text := [97, 110, 32, 97, 114, 103, 117, 109, 101, 110, 116, 32, 116, 104, 97, 116, 32, 109, 97, 121, 32, 110, 111, 116, 32, 98, 101]) h0 (by kernel_rfl) (by kernel_rfl)
  obtain ⟨a1, s1⟩ := laid_err (g := 1) (text := [98, 121, 116, 101, 115, 32, 97, 114, 101, 32, 119, 97, 110, 116, 105, 110, 103]) h1 (by kernel_rfl) (by kernel_rfl)
  obtain ⟨a2, s2⟩ := laid_err (g := 2) (text := [98, 121, 116, 101, 115, 32, 116, 104, 97, 116, 32, 115, 97, 121, 32, 110, 111, 116, 104, 105, 110, 103]) h2 (by kernel_rfl) (by kernel_rfl)
  obtain ⟨a3, s3⟩ := laid_err (g := 3) (text := [109, 111, 114, 101, 32, 116, 104, 97, 110, 32, 116, 104, 101, 114, 101, 32, 109, 97, 121, 32, 98, 101]) h3 (by kernel_rfl) (by kernel_rfl)
  obtain ⟨a4, s4⟩ := laid_err (g := 4) (text := [97, 32, 115, 117, 109, 32, 116, 104, 97, 116, 32, 100, 111, 101, 115, 110, 39, 116, 32, 102, 105, 116]) h4 (by kernel_rfl) (by kernel_rfl)
  obtain ⟨a5, s5⟩ := laid_err (g := 5) (text := [110, 111, 116, 32, 110, 111, 119]) h5 (by kernel_rfl) (by kernel_rfl)
  obtain ⟨a6, s6⟩ := laid_err (g := 6) (text := [116, 104, 101, 114, 101, 32, 105, 115, 32, 110, 111, 32, 114, 111, 111, 109]) h6 (by kernel_rfl) (by kernel_rfl)
  obtain ⟨a7, s7⟩ := laid_err (g := 7) (text := [116, 104, 101, 114, 101, 32, 105, 115, 32, 110, 111, 110, 101]) h7 (by kernel_rfl) (by kernel_rfl)
  obtain ⟨a8, s8⟩ := laid_err (g := 8) (text := [105, 116, 32, 105, 115, 32, 116, 104, 101, 114, 101, 32, 97, 108, 114, 101, 97, 100, 121]) h8 (by kernel_rfl) (by kernel_rfl)
  obtain ⟨a9, s9⟩ := laid_err (g := 9) (text := [97, 32, 107, 101, 121, 32, 116, 104, 97, 116, 32, 109, 97, 121, 32, 110, 111, 116, 32, 98, 101]) h9 (by kernel_rfl) (by kernel_rfl)
  obtain ⟨a10, s10⟩ := laid_err (g := 10) (text := [97, 32, 115, 105, 103, 110, 97, 116, 117, 114, 101, 32, 116, 104, 97, 116, 32, 100, 111, 101, 115, 110, 39, 116, 32, 102, 105, 116]) h10 (by kernel_rfl) (by kernel_rfl)
  obtain ⟨a11, s11⟩ := laid_err (g := 11) (text := [97, 110, 111, 116, 104, 101, 114, 32, 118, 101, 114, 115, 105, 111, 110]) h11 (by kernel_rfl) (by kernel_rfl)
  obtain ⟨a12, s12⟩ := laid_err (g := 12) (text := [110, 111, 116, 104, 105, 110, 103, 32, 105, 110, 32, 99, 111, 109, 109, 111, 110]) h12 (by kernel_rfl) (by kernel_rfl)
  obtain ⟨a13, s13⟩ := laid_err (g := 13) (text := [97, 110, 111, 116, 104, 101, 114, 32, 104, 111, 115, 116, 39, 115, 32, 107, 101, 121]) h13 (by kernel_rfl) (by kernel_rfl)
  obtain ⟨a14, s14⟩ := laid_err (g := 14) (text := [105, 116, 32, 109, 97, 121, 32, 110, 111, 116, 32, 99, 111, 109, 101, 32, 105, 110]) h14 (by kernel_rfl) (by kernel_rfl)
  obtain ⟨a15, s15⟩ := laid_err (g := 15) (text := [109, 111, 114, 101, 32, 116, 104, 97, 110, 32, 105, 116, 115, 32, 115, 104, 97, 114, 101]) h15 (by kernel_rfl) (by kernel_rfl)
  obtain ⟨a16, s16⟩ := laid_err (g := 16) (text := [97, 32, 110, 97, 109, 101, 32, 116, 104, 97, 116, 32, 109, 97, 121, 32, 110, 111, 116, 32, 98, 101]) h16 (by kernel_rfl) (by kernel_rfl)
  obtain ⟨a17, s17⟩ := laid_err (g := 17) (text := [105, 116, 32, 105, 115, 32, 103, 111, 110, 101]) h17 (by kernel_rfl) (by kernel_rfl)
  obtain ⟨a18, s18⟩ := laid_err (g := 18) (text := [98, 101, 121, 111, 110, 100, 32, 116, 104, 101, 32, 119, 105, 110, 100, 111, 119]) h18 (by kernel_rfl) (by kernel_rfl)
  obtain ⟨a19, s19⟩ := laid_err (g := 19) (text := [116, 104, 101, 114, 101, 32, 105, 115, 32, 110, 111, 32, 115, 117, 99, 104, 32, 107, 105, 110, 100]) h19 (by kernel_rfl) (by kernel_rfl)
  refine ⟨fun n => [a0, a1, a2, a3, a4, a5, a6, a7, a8, a9, a10, a11, a12, a13, a14, a15, a16, a17, a18, a19].getD n (0, 0), fun i j hi hj hne he => ?_, ?_⟩
  · have key : ∀ k, k < 20 → ∃ s, W.cell? ⟨([a0, a1, a2, a3, a4, a5, a6, a7, a8, a9, a10, a11, a12, a13, a14, a15, a16, a17, a18, a19].getD k (0, 0)).1, ([a0, a1, a2, a3, a4, a5, a6, a7, a8, a9, a10, a11, a12, a13, a14, a15, a16, a17, a18, a19].getD k (0, 0)).2, none⟩ = some (.string s) ∧ s.data.toList = errTexts.getD k [] := fun k hk => by
      match k, hk with
      | 0, _ => exact s0.txt
      | 1, _ => exact s1.txt
      | 2, _ => exact s2.txt
      | 3, _ => exact s3.txt
      | 4, _ => exact s4.txt
      | 5, _ => exact s5.txt
      | 6, _ => exact s6.txt
      | 7, _ => exact s7.txt
      | 8, _ => exact s8.txt
      | 9, _ => exact s9.txt
      | 10, _ => exact s10.txt
      | 11, _ => exact s11.txt
      | 12, _ => exact s12.txt
      | 13, _ => exact s13.txt
      | 14, _ => exact s14.txt
      | 15, _ => exact s15.txt
      | 16, _ => exact s16.txt
      | 17, _ => exact s17.txt
      | 18, _ => exact s18.txt
      | 19, _ => exact s19.txt
      | k + 20, hk => exact absurd hk (by omega)
    obtain ⟨s, c1, c2⟩ := key i hi
    obtain ⟨s', c3, c4⟩ := key j hj
    simp only at he
    rw [he] at c1
    rw [c1] at c3
    injection c3 with c3
    injection c3 with c3
    subst c3
    exact hne (texts_ne i hi j hj (c2.symm.trans c4))
  · exact ⟨known_var (n := 0) s0 (by decide) (by decide), known_var (n := 1) s1 (by decide) (by decide), known_var (n := 2) s2 (by decide) (by decide), known_var (n := 3) s3 (by decide) (by decide), known_var (n := 4) s4 (by decide) (by decide), known_var (n := 5) s5 (by decide) (by decide), known_var (n := 6) s6 (by decide) (by decide), known_var (n := 7) s7 (by decide) (by decide), known_var (n := 8) s8 (by decide) (by decide), known_var (n := 9) s9 (by decide) (by decide), known_var (n := 10) s10 (by decide) (by decide), known_var (n := 11) s11 (by decide) (by decide), known_var (n := 12) s12 (by decide) (by decide), known_var (n := 13) s13 (by decide) (by decide), known_var (n := 14) s14 (by decide) (by decide), known_var (n := 15) s15 (by decide) (by decide), known_var (n := 16) s16 (by decide) (by decide), known_var (n := 17) s17 (by decide) (by decide), known_var (n := 18) s18 (by decide) (by decide), known_var (n := 19) s19 (by decide) (by decide), known_blk (n := 0) s0 (by decide), known_blk (n := 1) s1 (by decide), known_blk (n := 2) s2 (by decide), known_blk (n := 3) s3 (by decide), known_blk (n := 4) s4 (by decide), known_blk (n := 5) s5 (by decide), known_blk (n := 6) s6 (by decide), known_blk (n := 7) s7 (by decide), known_blk (n := 8) s8 (by decide), known_blk (n := 9) s9 (by decide), known_blk (n := 10) s10 (by decide), known_blk (n := 11) s11 (by decide), known_blk (n := 12) s12 (by decide), known_blk (n := 13) s13 (by decide), known_blk (n := 14) s14 (by decide), known_blk (n := 15) s15 (by decide), known_blk (n := 16) s16 (by decide), known_blk (n := 17) s17 (by decide), known_blk (n := 18) s18 (by decide), known_blk (n := 19) s19 (by decide), trivial⟩
end Go.Proofs.YtpmoonglbcglaaaDoor
namespace Go.Proofs.YtpmoonglbcglaaaDoor
open Go.ChangeShapes Go.WideShapes Go.ChangeAt Go.RowKit
section
variable {H : Type} {enc : TypeId × Value → H} {P : Program} {W : World} {eo : Nat → Nat × Nat}
theorem slice_arg {α : Type} [Inhabited α] (f : α → List AV) {z : Nat} (hf : ∀ a, (f a).length = z) (hz0 : 0 < z) {t e : TypeId} {v : Value} {d : DataW H} {ps : List MemPlace} (ht : P.underlying t = some (.slice e)) (ce : P.cellsOf e = z) {b0 : Nat} (hv : Value.okWide P W .any b0 t v)
    (dec : ∀ n cs' y, cs'.length = z → DataW.trod enc P W 0 (fun _ => true) true n e cs' = some y → ∃ a : α, ∀ (k : Nat) x, (f a)[k]? = some x → x.cell = true ∧ ∃ u, cs'[k]? = some u ∧ ∀ E, Rel E x u)
    (h : DataW.Trod enc P W 0 (fun _ => true) true t v d ps) (hblk : ∃ (b : Nat) (arr : Array Value) (t : TypeId) (fz : Nat × Nat), W.heap[b]? = some (.cells arr t fz)) :
    ∃ (l : List α) (b o : Nat), l.length ≤ maxLen ∧ Rel (argE W eo b) (.sl 450 o l.length z) v ∧ BAt (argE W eo b) ⟨.agg (offC o (rowsC f l)), anyT, false⟩ W b (sizeAt W b) := by
  obtain ⟨sa, sl, sc, rfl⟩ := okWide_slice ht hv
  obtain ⟨fuel, hfu⟩ := h
  rcases Go.Deep.open_slice ht hfu with ⟨h1, _⟩ | ⟨a, len, cap, m, n, D, Pl, h1, _, hl, hm, hmm, _, hcell⟩
  · simp only [Value.cells, List.cons.injEq, Value.slice.injEq, and_true] at h1
    obtain ⟨rfl, rfl, rfl⟩ := h1
    obtain ⟨b, o, h2, h3⟩ := arg_nil (W := W) (eo := eo) z hblk
    exact ⟨[], b, o, Nat.zero_le _, h2, h3⟩
  · simp only [Value.cells, List.cons.injEq, Value.slice.injEq, and_true] at h1
    obtain ⟨rfl, rfl, rfl⟩ := h1
    simp only [if_true] at hmm
    subst hmm
    rw [ce] at hcell
    have each : ∀ i, i < m → ∃ q : α, ∀ (k : Nat) x, (f q)[k]? = some x → x.cell = true ∧ ∃ u, W.cell? (a.add (i * z + k)) = some u ∧ ∀ E, Rel E x u := fun i hi => by
      obtain ⟨cs', c1, c2⟩ := hcell i hi
      obtain ⟨_, c3, c4⟩ := World.cells?_some c1
      obtain ⟨q, hq⟩ := dec n cs' _ c3 c2
      refine ⟨q, fun k x hx => ?_⟩
      obtain ⟨g1, u, g2, g3⟩ := hq k x hx
      have hk : k < z := by rw [← hf q]; exact (List.getElem?_eq_some_iff.1 hx).1
      have := c4 k hk
      rw [Go.Deep.add_add] at this
      exact ⟨g1, u, this.trans g2, g3⟩
    obtain ⟨q, hq⟩ := Go.Deep.choose_lt each
    have hlen : ((List.range sl).map q).length = sl := by simp
    have first : ∀ i, i < m → ∀ k, k < z → ∃ y, W.cell? (a.add (i * z + k)) = some y := fun i hi k hk => by
      have hk2 : k < (f (q i)).length := by rw [hf]; exact hk
      obtain ⟨_, u, hu, _⟩ := hq i hi k _ (List.getElem?_eq_getElem hk2)
      exact ⟨u, hu⟩
    obtain ⟨b, o, h2, h3⟩ := arg_slice (W := W) (eo := eo) (a := a) (len := sl) (cap := m) (z := z) (cs := rowsC f ((List.range sl).map q)) (by rw [rowsC_len hf, hlen]) hl hm hz0 (fun j x hx => by
      have hj : j < sl * z := by have := (List.getElem?_eq_some_iff.1 hx).1; rwa [rowsC_len hf, hlen] at this
      have hi : j / z < sl := Nat.div_lt_of_lt_mul (by rwa [Nat.mul_comm] at hj)
      have hk : j % z < z := Nat.mod_lt _ hz0
      have hjz : j / z * z + j % z = j := by rw [Nat.mul_comm]; exact Nat.div_add_mod j z
      have hi2 : ((List.range sl).map q)[j / z]? = some (q (j / z)) := by simp [hi]
      have := rowsC_nth hf hi2 hk
      rw [hjz, hx] at this
      obtain ⟨g1, u, g2, g3⟩ := hq (j / z) (by omega) (j % z) x this.symm
      rw [hjz] at g2
      exact ⟨g1, u, g2, g3⟩) (fun h0 => by have := first 0 h0 0 hz0; rwa [Nat.zero_mul] at this) (fun h0 => by
        have := first (m - 1) (by omega) (z - 1) (by omega)
        have e : (m - 1) * z + (z - 1) = m * z - 1 := by
          have : m * z = (m - 1) * z + z := by rw [← Nat.succ_mul]; congr 1; omega
          omega
        rwa [e] at this) hblk
    exact ⟨(List.range sl).map q, b, o, by omega, by rw [hlen]; exact h2, h3⟩
theorem u8_lit {n : Int} (h : (Lit.int .u8 n).wf = true) : ∃ x : UInt8, n = (x.toNat : Int) := by
  simp [Lit.wf] at h
  have h1 : IntKind.u8.min = 0 := rfl
  have h2 : IntKind.u8.max = 255 := rfl
  refine ⟨UInt8.ofNat n.toNat, ?_⟩
  have h3 : (UInt8.ofNat n.toNat).toNat = n.toNat := by rw [UInt8.toNat_ofNat']; exact Nat.mod_eq_of_lt (by omega)
  rw [h3]; omega
end
end Go.Proofs.YtpmoonglbcglaaaDoor
namespace Go.Proofs.YtpmoonglbcglaaaDoor
open Go.ChangeShapes Go.WideShapes Go.ChangeAt Go.RowKit
/-- A slice of calls of a link. -/
theorem actn_arg {H : Type} {enc : TypeId × Value → H} {P : Program} {W : World} {eo : Nat → Nat × Nat} {t e ti ts tb : TypeId} {f0 f1 f2 f3 f4 : Field} {v : Value} {d : DataW H} {ps : List MemPlace} (ht : P.underlying t = some (.slice e)) (he : P.underlying e = some (.struct #[f0, f1, f2, f3, f4])) (ce : P.cellsOf e = 5)
    (o0 : f0.offset = 0) (o1 : f1.offset = 1) (o2 : f2.offset = 2) (o3 : f3.offset = 3) (o4 : f4.offset = 4) (t0 : f0.type = ti) (t1 : f1.type = ti) (t2 : f2.type = ti) (t3 : f3.type = ts) (t4 : f4.type = tb) (hi : P.underlying ti = some (.int .i64)) (hs : P.underlying ts = some .string) (hb : P.underlying tb = some (.int .u8)) (ci : P.cellsOf ti = 1) (cs_ : P.cellsOf ts = 1) (cb : P.cellsOf tb = 1) {b0 : Nat} (hv : Value.okWide P W .any b0 t v)
    (h : DataW.Trod enc P W 0 (fun _ => true) true t v d ps) (hblk : ∃ (b : Nat) (arr : Array Value) (t : TypeId) (fz : Nat × Nat), W.heap[b]? = some (.cells arr t fz)) :
    ∃ (l : List ActN) (b o : Nat), l.length ≤ maxLen ∧ Rel (argE W eo b) (.sl 450 o l.length 5) v ∧ BAt (argE W eo b) ⟨.agg (offC o (rowsC actN l)), anyT, false⟩ W b (sizeAt W b) := by
  refine slice_arg actN (fun _ => rfl) (by decide) ht ce hv (fun n cs' y hl hy => ?_) h hblk
  match cs', hl with
  | [w0, w1, w2, w3, w4], _ =>
    obtain ⟨xs, m, _, _, _, hxl, hf⟩ := DataW.trod_struct he hy
    have hxl' : xs.length = 5 := hxl
    have q0 := hf 0 f0 rfl
    have q1 := hf 1 f1 rfl
    have q2 := hf 2 f2 rfl
    have q3 := hf 3 f3 rfl
    have q4 := hf 4 f4 rfl
    rw [List.getElem?_eq_getElem (by omega)] at q0 q1 q2 q3 q4
    simp only [t0, o0, ci, t1, o1, t2, o2, t3, o3, t4, o4, cs_, cb, List.drop_zero, List.take_succ_cons, List.take_zero, List.drop_succ_cons, List.take_nil] at q0 q1 q2 q3 q4
    obtain ⟨k, k0, _, _⟩ := DataW.trod_int hi q0
    obtain ⟨m1, k1, _, _⟩ := DataW.trod_int hi q1
    obtain ⟨m2, k2, _, _⟩ := DataW.trod_int hi q2
    obtain ⟨s, k3, _, z3⟩ := DataW.trod_string hs q3
    obtain ⟨m4, k4, _, z4⟩ := DataW.trod_int hb q4
    obtain ⟨u, rfl⟩ := u8_lit z4
    simp only [List.cons.injEq, and_true] at k0 k1 k2 k3 k4
    refine ⟨⟨k, m1, m2, s.data.toList, u, z3⟩, fun j x hx => ?_⟩
    match j, hx with
    | 0, hx => simp only [actN, List.getElem?_cons_zero, Option.some.injEq] at hx; subst hx; exact ⟨rfl, w0, rfl, fun E => by rw [k0]; exact .i64 _⟩
    | 1, hx => simp only [actN, List.getElem?_cons_succ, List.getElem?_cons_zero, Option.some.injEq] at hx; subst hx; exact ⟨rfl, w1, rfl, fun E => by rw [k1]; exact .i64 _⟩
    | 2, hx => simp only [actN, List.getElem?_cons_succ, List.getElem?_cons_zero, Option.some.injEq] at hx; subst hx; exact ⟨rfl, w2, rfl, fun E => by rw [k2]; exact .i64 _⟩
    | 3, hx => simp only [actN, List.getElem?_cons_succ, List.getElem?_cons_zero, Option.some.injEq] at hx; subst hx; exact ⟨rfl, w3, rfl, fun E => by rw [k3]; exact .str _⟩
    | 4, hx => simp only [actN, List.getElem?_cons_succ, List.getElem?_cons_zero, Option.some.injEq] at hx; subst hx; exact ⟨rfl, w4, rfl, fun E => by rw [k4]; exact .u8 _⟩
    | j + 5, hx => simp [actN] at hx
set_option maxRecDepth 100000 in
theorem netPlays_all {H : Type} {enc : TypeId × Value → H} (n : Int) {v : Value} {d : DataW H} {ps : List MemPlace} (W : World) {b0 : Nat} (hv : Value.okWide Tryd.prog W .any b0 22 v)
  (ht : DataW.Trod enc Tryd.prog W 0 (fun _ => true) true 22 v d ps) (h : laidMet Tryd.prog Rows.netPlaysRow.laid W) :
  Calls Tryd.prog 3 #[.int .i64 n, v] W fun e W' => e = .returned (.bool true) ∧ Below W.heap.size W W' := by
 obtain ⟨eo, hd, hkn⟩ := laid_errs h
 have c5 : Tryd.prog.cellsOf 28 = 5 := by kernel_rfl
 have ci : Tryd.prog.cellsOf 3 = 1 := by kernel_rfl
 have cs_ : Tryd.prog.cellsOf 9 = 1 := by kernel_rfl
 have cb : Tryd.prog.cellsOf 5 = 1 := by kernel_rfl
 obtain ⟨l, b, o, hl, hr, hb⟩ := actn_arg (P := Tryd.prog) (W := W) (eo := eo) Tryd.underlying22 Tryd.underlying28 c5 rfl rfl rfl rfl rfl rfl rfl rfl rfl rfl Tryd.underlying3 Tryd.underlying9 Tryd.underlying5 ci cs_ cb hv ht (blk_of hkn)
 refine walk_of_meets_at (argE W eo b) (argE_glob _ _ _) (argE_top _ _ _) (netPlays_ev eo hd n _ rfl o l hl) rfl (fun i x y hx hy => ?_) (known.spec (known_app (known.mono (argE_le W eo b) hkn) ⟨⟨rfl, b, sizeAt W b, argE_450 W eo b, hb⟩, trivial⟩))
 match i, hx, hy with
 | 0, hx, hy => injection hx with hx; injection hy with hy; subst hx; subst hy; exact .i64 _
 | 1, hx, hy => injection hx with hx; injection hy with hy; subst hx; subst hy; exact hr
 | i + 2, hx, _ => simp at hx
end Go.Proofs.YtpmoonglbcglaaaDoor
