/-
  Texts of this claim.
-/
import Derived.Test.YteefpaiefphdpaaDoorGJ5
namespace Go.Proofs.YteefpaiefphdpaaDoor
open Go.RowKit
theorem feedR_ok {h : HD} {s : List UInt8} (he : (feedD h s).1.e = 0) : feedR h s = (feedD h s).2 := if_pos he
theorem feedR_e {h : HD} {s : List UInt8} (he : ¬ (feedD h s).1.e = 0) : feedR h s = [] := if_neg he
theorem WI.hv {S : List UInt8} {c : Bool} (q : WI S c) (hq : q.h.p ≠ []) : q.h.v = [] := Classical.byContradiction fun h => hq (q.fine.pv h)
theorem WI.got_same {S : List UInt8} {c : Bool} (q : WI S c) (n : Nat) (hv : q.h.v ≠ []) : feedR q.h (q.r.take n) = q.r.take n := feedR_of (q.same n hv) q.e
theorem WI.got_nil {S : List UInt8} {c : Bool} (q : WI S c) (n : Nat) (he : (q.k n).e = 0) (hv : (q.k n).v = []) : feedR q.h (q.r.take n) = [] := (feedR_ok he).trans (q.rest_nil n he hv)
theorem take_ne {r : List UInt8} {n : Nat} (hr : r ≠ []) (hn : 0 < n) : r.take n ≠ [] := by
  intro e
  rw [List.take_eq_nil_iff] at e
  rcases e with e | e
  · omega
  · exact hr e
theorem codeH_ev (eo : Nat → Nat × Nat) (hd : ∀ i j, i < 20 → j < 20 → i ≠ j → eo i ≠ eo j) (e : Nat) (h : okE e) : Meets Tryd.prog 14 [.err 225 (e) (offE eo (e))] [(3, some ⟨.agg [.err 225 (1) (offE eo (1))], errT, false⟩), (1, some ⟨.agg [.err 225 (2) (offE eo (2))], errT, false⟩), (0, some ⟨.agg [.err 225 (3) (offE eo (3))], errT, false⟩), (4, some ⟨.agg [.err 225 (4) (offE eo (4))], errT, false⟩), (2, some ⟨.agg [.err 225 (5) (offE eo (5))], errT, false⟩), (5, some ⟨.agg [.err 225 (6) (offE eo (6))], errT, false⟩), (6, some ⟨.agg [.err 225 (7) (offE eo (7))], errT, false⟩), (7, some ⟨.agg [.err 225 (8) (offE eo (8))], errT, false⟩), (8, some ⟨.agg [.err 225 (9) (offE eo (9))], errT, false⟩), (9, some ⟨.agg [.err 225 (10) (offE eo (10))], errT, false⟩), (10, some ⟨.agg [.err 225 (11) (offE eo (11))], errT, false⟩), (11, some ⟨.agg [.err 225 (12) (offE eo (12))], errT, false⟩), (12, some ⟨.agg [.err 225 (13) (offE eo (13))], errT, false⟩), (13, some ⟨.agg [.err 225 (14) (offE eo (14))], errT, false⟩), (14, some ⟨.agg [.err 225 (15) (offE eo (15))], errT, false⟩), (15, some ⟨.agg [.err 225 (16) (offE eo (16))], errT, false⟩), (16, some ⟨.agg [.err 225 (17) (offE eo (17))], errT, false⟩), (17, some ⟨.agg [.err 225 (18) (offE eo (18))], errT, false⟩), (18, some ⟨.agg [.err 225 (19) (offE eo (19))], errT, false⟩), (19, some ⟨.agg [.err 225 (20) (offE eo (20))], errT, false⟩), (401, some ⟨.agg [], errT, false⟩), (402, some ⟨.agg [], errT, false⟩), (403, some ⟨.agg [], errT, false⟩), (404, some ⟨.agg [], errT, false⟩), (405, some ⟨.agg [], errT, false⟩), (406, some ⟨.agg [], errT, false⟩), (407, some ⟨.agg [], errT, false⟩), (408, some ⟨.agg [], errT, false⟩), (409, some ⟨.agg [], errT, false⟩), (410, some ⟨.agg [], errT, false⟩), (411, some ⟨.agg [], errT, false⟩), (412, some ⟨.agg [], errT, false⟩), (413, some ⟨.agg [], errT, false⟩), (414, some ⟨.agg [], errT, false⟩), (415, some ⟨.agg [], errT, false⟩), (416, some ⟨.agg [], errT, false⟩), (417, some ⟨.agg [], errT, false⟩), (418, some ⟨.agg [], errT, false⟩), (419, some ⟨.agg [], errT, false⟩), (420, some ⟨.agg [], errT, false⟩)] (.i64 ((e : Nat) : Int)) [] := by
  rcases h with h | h | h | h <;> rw [h]
  · exact code_0 eo hd
  · exact code_3 eo hd
  · exact code_4 eo hd
  · exact code_12 eo hd
theorem moreH_ev (c : Bool) : Meets Tryd.prog 29 [.bool c] [] (.i64 ((moreD ⟨c, [], 0, [], 0⟩ : Nat) : Int)) [] := by
  cases c with
  | true => exact more_y
  | false => exact more_n
set_option maxHeartbeats 1000000 in
set_option maxRecDepth 100000 in
theorem helloReads_ev (eo : Nat → Nat × Nat) (hd : ∀ i j, i < 20 → j < 20 → i ≠ j → eo i ≠ eo j) (c : Bool) (s : List UInt8) (hs : s.length ≤ 9223372036854775807) (o : Nat) (l : List Int) (hl : l.length ≤ maxLen) : Meets Tryd.prog 7 [.bool c, .str s, .sl 450 o l.length 1] [(3, some ⟨.agg [.err 225 (1) (offE eo (1))], errT, false⟩), (1, some ⟨.agg [.err 225 (2) (offE eo (2))], errT, false⟩), (0, some ⟨.agg [.err 225 (3) (offE eo (3))], errT, false⟩), (4, some ⟨.agg [.err 225 (4) (offE eo (4))], errT, false⟩), (2, some ⟨.agg [.err 225 (5) (offE eo (5))], errT, false⟩), (5, some ⟨.agg [.err 225 (6) (offE eo (6))], errT, false⟩), (6, some ⟨.agg [.err 225 (7) (offE eo (7))], errT, false⟩), (7, some ⟨.agg [.err 225 (8) (offE eo (8))], errT, false⟩), (8, some ⟨.agg [.err 225 (9) (offE eo (9))], errT, false⟩), (9, some ⟨.agg [.err 225 (10) (offE eo (10))], errT, false⟩), (10, some ⟨.agg [.err 225 (11) (offE eo (11))], errT, false⟩), (11, some ⟨.agg [.err 225 (12) (offE eo (12))], errT, false⟩), (12, some ⟨.agg [.err 225 (13) (offE eo (13))], errT, false⟩), (13, some ⟨.agg [.err 225 (14) (offE eo (14))], errT, false⟩), (14, some ⟨.agg [.err 225 (15) (offE eo (15))], errT, false⟩), (15, some ⟨.agg [.err 225 (16) (offE eo (16))], errT, false⟩), (16, some ⟨.agg [.err 225 (17) (offE eo (17))], errT, false⟩), (17, some ⟨.agg [.err 225 (18) (offE eo (18))], errT, false⟩), (18, some ⟨.agg [.err 225 (19) (offE eo (19))], errT, false⟩), (19, some ⟨.agg [.err 225 (20) (offE eo (20))], errT, false⟩), (401, some ⟨.agg [], errT, false⟩), (402, some ⟨.agg [], errT, false⟩), (403, some ⟨.agg [], errT, false⟩), (404, some ⟨.agg [], errT, false⟩), (405, some ⟨.agg [], errT, false⟩), (406, some ⟨.agg [], errT, false⟩), (407, some ⟨.agg [], errT, false⟩), (408, some ⟨.agg [], errT, false⟩), (409, some ⟨.agg [], errT, false⟩), (410, some ⟨.agg [], errT, false⟩), (411, some ⟨.agg [], errT, false⟩), (412, some ⟨.agg [], errT, false⟩), (413, some ⟨.agg [], errT, false⟩), (414, some ⟨.agg [], errT, false⟩), (415, some ⟨.agg [], errT, false⟩), (416, some ⟨.agg [], errT, false⟩), (417, some ⟨.agg [], errT, false⟩), (418, some ⟨.agg [], errT, false⟩), (419, some ⟨.agg [], errT, false⟩), (420, some ⟨.agg [], errT, false⟩), (450, some ⟨.agg (cutC o l), anyT, false⟩)] (.bool true) [] := by
 have hl2 : l.length ≤ 9223372036854775807 := by unfold maxLen at hl; omega
 refine meets_of_ev (nt := 134) Tryd.func7 rfl rfl (Nat.le_of_ble_eq_true rfl) ?_
 refine .seq ?_
 refine .region ?_
 refine .q (op_assign rfl) trivial rfl ?_
 refine .nil ?_
 show Ev _ _ _ _ _
 refine .seq ?_
 refine .seq ?_
 refine .region ?_
 refine .q (op_call (U := []) [] [] (awake11_ev eo) Tryd.func26 (by kernel_rfl) rfl rfl rfl (trivial) (⟨⟨_, _, rfl, rfl, rfl, rfl, (fun h => by cases h), rfl⟩, ⟨_, _, rfl, rfl, rfl, rfl, (fun h => by cases h), rfl⟩, ⟨_, _, rfl, rfl, rfl, rfl, (fun h => by cases h), rfl⟩, ⟨_, _, rfl, rfl, rfl, rfl, (fun h => by cases h), rfl⟩, trivial⟩) (trivial) (⟨(fun h => by cases h), (fun h => by cases h), (fun h => by cases h), (fun h => by cases h), trivial⟩) rfl) trivial rfl ?_
 refine .q (op_notB rfl) trivial rfl ?_
 refine .nil ?_
 show Ev _ _ _ _ _
 refine .cond_false rfl (rfl) ?_
 refine .skip ?_
 show Ev _ _ _ _ _
 refine .seq ?_
 refine .region ?_
 refine .q (op_move rfl) trivial rfl ?_
 refine .q (op_call (U := []) [] [] (cut_ev s 900 hs) Tryd.func11 (by kernel_rfl) rfl rfl rfl (⟨⟨_, rfl, rfl, rfl⟩, ⟨_, rfl, rfl, rfl⟩, trivial⟩) (trivial) (trivial) (trivial) rfl) trivial rfl ?_
 refine .q (op_assign rfl) trivial rfl ?_
 refine .nil ?_
 show Ev _ _ _ _ _
 refine .seq ?_
 refine .region ?_
 refine .q (op_move rfl) trivial rfl ?_
 refine .a (op_call (U := [(1000, some ⟨.agg [.bool ((HD.mk c [] 0 [] 0)).c, .nilsl, .i64 ((((HD.mk c [] 0 [] 0)).g : Nat) : Int), .str ((HD.mk c [] 0 [] 0)).v, .err 225 (((HD.mk c [] 0 [] 0)).e) (offE eo (((HD.mk c [] 0 [] 0)).e))], 115, true⟩)]) [] [(1000, 1000)] (hnew_ev c eo) Tryd.func27 (by kernel_rfl) rfl rfl rfl (⟨⟨_, rfl, rfl, rfl⟩, trivial⟩) (trivial) (⟨⟨1000, _, rfl, rfl, rfl, rfl, .inl rfl⟩, trivial⟩) (trivial) rfl) trivial rfl ?_
 refine .q (op_assign rfl) trivial rfl ?_
 refine .nil ?_
 show Ev _ _ _ _ _
 refine .seq ?_
 refine .seq ?_
 refine .region ?_
 refine .q (op_move rfl) trivial rfl ?_
 refine .q (op_eqPtrNil Tryd.underlying57 rfl rfl rfl) trivial rfl ?_
 refine .nil ?_
 show Ev _ _ _ _ _
 refine .cond_false rfl (rfl) ?_
 refine .skip ?_
 show Ev _ _ _ _ _
 refine .seq ?_
 refine .region ?_
 refine .q (op_move rfl) trivial rfl ?_
 refine .q (op_move rfl) trivial rfl ?_
 refine .q (op_call (U := []) [] [] (moreH_ev c) Tryd.func29 (by kernel_rfl) rfl rfl rfl (⟨⟨_, rfl, rfl, rfl⟩, trivial⟩) (trivial) (trivial) (trivial) rfl) trivial rfl ?_
 refine .q (op_call (U := []) [] [] (rall_ev (s.take 900) (moreD ⟨c, [], 0, [], 0⟩) (by simp; omega) (by unfold moreD; split <;> omega)) Tryd.func28 (by kernel_rfl) rfl rfl rfl (⟨⟨_, rfl, rfl, rfl⟩, ⟨_, rfl, rfl, rfl⟩, trivial⟩) (trivial) (trivial) (trivial) rfl) trivial rfl ?_
 refine .a (op_allocRow zero60 rel_zero60 rfl) trivial rfl ?_
 refine .w (op_storeRow (by kernel_rfl) rfl rfl rfl rfl rfl (rfl) (rfl)) trivial rfl ?_
 refine .nil ?_
 show Ev _ _ _ _ _
 refine .seq ?_
 refine .region ?_
 refine .q (op_assign rfl) trivial rfl ?_
 refine .nil ?_
 show Ev _ _ _ _ _
 refine .seq ?_
 refine .seq ?_
 refine .region ?_
 refine .q (op_assign rfl) trivial rfl ?_
 refine .nil ?_
 show Ev _ _ _ _ _
 refine .block ?_
 refine Ev.loop (ι := WN (s.take 900) c ⊕ WS (s.take 900) c) (fun z => match z with | .inl q => ⟨[(0, .bool c), (1, .str q.1.r), (2, .sl 450 o l.length 1), (6, .bool false), (7, .ptr 1000 0), (8, .ptr 1008 0), (9, .str q.1.left), (10, .i64 ((q.1.i : Nat) : Int))], [(1000, some ⟨.agg [.bool (q.1.h).c, .nilsl, .i64 (((q.1.h).g : Nat) : Int), .str (q.1.h).v, .err 225 ((q.1.h).e) (offE eo ((q.1.h).e))], 115, true⟩), (1008, some ⟨.agg [.str ((allD (s.take 900) [] (moreD ⟨c, [], 0, [], 0⟩))).v, .str ((allD (s.take 900) [] (moreD ⟨c, [], 0, [], 0⟩))).r, .i64 ((((allD (s.take 900) [] (moreD ⟨c, [], 0, [], 0⟩))).e : Nat) : Int)], 60, true⟩), (3, some ⟨.agg [.err 225 (1) (offE eo (1))], errT, false⟩), (1, some ⟨.agg [.err 225 (2) (offE eo (2))], errT, false⟩), (0, some ⟨.agg [.err 225 (3) (offE eo (3))], errT, false⟩), (4, some ⟨.agg [.err 225 (4) (offE eo (4))], errT, false⟩), (2, some ⟨.agg [.err 225 (5) (offE eo (5))], errT, false⟩), (5, some ⟨.agg [.err 225 (6) (offE eo (6))], errT, false⟩), (6, some ⟨.agg [.err 225 (7) (offE eo (7))], errT, false⟩), (7, some ⟨.agg [.err 225 (8) (offE eo (8))], errT, false⟩), (8, some ⟨.agg [.err 225 (9) (offE eo (9))], errT, false⟩), (9, some ⟨.agg [.err 225 (10) (offE eo (10))], errT, false⟩), (10, some ⟨.agg [.err 225 (11) (offE eo (11))], errT, false⟩), (11, some ⟨.agg [.err 225 (12) (offE eo (12))], errT, false⟩), (12, some ⟨.agg [.err 225 (13) (offE eo (13))], errT, false⟩), (13, some ⟨.agg [.err 225 (14) (offE eo (14))], errT, false⟩), (14, some ⟨.agg [.err 225 (15) (offE eo (15))], errT, false⟩), (15, some ⟨.agg [.err 225 (16) (offE eo (16))], errT, false⟩), (16, some ⟨.agg [.err 225 (17) (offE eo (17))], errT, false⟩), (17, some ⟨.agg [.err 225 (18) (offE eo (18))], errT, false⟩), (18, some ⟨.agg [.err 225 (19) (offE eo (19))], errT, false⟩), (19, some ⟨.agg [.err 225 (20) (offE eo (20))], errT, false⟩), (401, some ⟨.agg [], errT, false⟩), (402, some ⟨.agg [], errT, false⟩), (403, some ⟨.agg [], errT, false⟩), (404, some ⟨.agg [], errT, false⟩), (405, some ⟨.agg [], errT, false⟩), (406, some ⟨.agg [], errT, false⟩), (407, some ⟨.agg [], errT, false⟩), (408, some ⟨.agg [], errT, false⟩), (409, some ⟨.agg [], errT, false⟩), (410, some ⟨.agg [], errT, false⟩), (411, some ⟨.agg [], errT, false⟩), (412, some ⟨.agg [], errT, false⟩), (413, some ⟨.agg [], errT, false⟩), (414, some ⟨.agg [], errT, false⟩), (415, some ⟨.agg [], errT, false⟩), (416, some ⟨.agg [], errT, false⟩), (417, some ⟨.agg [], errT, false⟩), (418, some ⟨.agg [], errT, false⟩), (419, some ⟨.agg [], errT, false⟩), (420, some ⟨.agg [], errT, false⟩), (450, some ⟨.agg (cutC o l), anyT, false⟩)], 1024⟩ | .inr q => ⟨[(0, .bool c), (1, .str q.1.r), (2, .sl 450 o l.length 1), (6, .bool false), (7, .ptr 1000 0), (8, .ptr 1008 0), (9, .str q.1.left), (10, .i64 ((q.1.i : Nat) : Int))], [(1000, some ⟨.agg [.bool (q.1.h).c, .sl 1016 0 q.1.h.p.length 1, .i64 (((q.1.h).g : Nat) : Int), .str (q.1.h).v, .err 225 ((q.1.h).e) (offE eo ((q.1.h).e))], 115, true⟩), (1008, some ⟨.agg [.str ((allD (s.take 900) [] (moreD ⟨c, [], 0, [], 0⟩))).v, .str ((allD (s.take 900) [] (moreD ⟨c, [], 0, [], 0⟩))).r, .i64 ((((allD (s.take 900) [] (moreD ⟨c, [], 0, [], 0⟩))).e : Nat) : Int)], 60, true⟩), (3, some ⟨.agg [.err 225 (1) (offE eo (1))], errT, false⟩), (1, some ⟨.agg [.err 225 (2) (offE eo (2))], errT, false⟩), (0, some ⟨.agg [.err 225 (3) (offE eo (3))], errT, false⟩), (4, some ⟨.agg [.err 225 (4) (offE eo (4))], errT, false⟩), (2, some ⟨.agg [.err 225 (5) (offE eo (5))], errT, false⟩), (5, some ⟨.agg [.err 225 (6) (offE eo (6))], errT, false⟩), (6, some ⟨.agg [.err 225 (7) (offE eo (7))], errT, false⟩), (7, some ⟨.agg [.err 225 (8) (offE eo (8))], errT, false⟩), (8, some ⟨.agg [.err 225 (9) (offE eo (9))], errT, false⟩), (9, some ⟨.agg [.err 225 (10) (offE eo (10))], errT, false⟩), (10, some ⟨.agg [.err 225 (11) (offE eo (11))], errT, false⟩), (11, some ⟨.agg [.err 225 (12) (offE eo (12))], errT, false⟩), (12, some ⟨.agg [.err 225 (13) (offE eo (13))], errT, false⟩), (13, some ⟨.agg [.err 225 (14) (offE eo (14))], errT, false⟩), (14, some ⟨.agg [.err 225 (15) (offE eo (15))], errT, false⟩), (15, some ⟨.agg [.err 225 (16) (offE eo (16))], errT, false⟩), (16, some ⟨.agg [.err 225 (17) (offE eo (17))], errT, false⟩), (17, some ⟨.agg [.err 225 (18) (offE eo (18))], errT, false⟩), (18, some ⟨.agg [.err 225 (19) (offE eo (19))], errT, false⟩), (19, some ⟨.agg [.err 225 (20) (offE eo (20))], errT, false⟩), (401, some ⟨.agg [], errT, false⟩), (402, some ⟨.agg [], errT, false⟩), (403, some ⟨.agg [], errT, false⟩), (404, some ⟨.agg [], errT, false⟩), (405, some ⟨.agg [], errT, false⟩), (406, some ⟨.agg [], errT, false⟩), (407, some ⟨.agg [], errT, false⟩), (408, some ⟨.agg [], errT, false⟩), (409, some ⟨.agg [], errT, false⟩), (410, some ⟨.agg [], errT, false⟩), (411, some ⟨.agg [], errT, false⟩), (412, some ⟨.agg [], errT, false⟩), (413, some ⟨.agg [], errT, false⟩), (414, some ⟨.agg [], errT, false⟩), (415, some ⟨.agg [], errT, false⟩), (416, some ⟨.agg [], errT, false⟩), (417, some ⟨.agg [], errT, false⟩), (418, some ⟨.agg [], errT, false⟩), (419, some ⟨.agg [], errT, false⟩), (420, some ⟨.agg [], errT, false⟩), (1016, some ⟨.aggB (q.1.h.p), 5, true⟩), (450, some ⟨.agg (cutC o l), anyT, false⟩)], 1024⟩) (fun z => match z with | .inl q => q.1.r.length | .inr q => q.1.r.length) (.inl (WI.start (s.take 900) c)) (StLe.mk [(1000, 1000), (1008, 1008)] rfl rfl ⟨⟨_, rfl, by first | rfl | (simp only [AV.ren]; congr 1; omega), rfl⟩, ⟨_, rfl, by first | rfl | (simp only [AV.ren]; congr 1; omega), rfl⟩, ⟨_, rfl, by first | rfl | (simp only [AV.ren]; congr 1; omega), rfl⟩, ⟨_, rfl, by first | rfl | (simp only [AV.ren]; congr 1; omega), rfl⟩, ⟨_, rfl, by first | rfl | (simp only [AV.ren]; congr 1; omega), rfl⟩, ⟨_, rfl, by first | rfl | (simp only [AV.ren]; congr 1; omega), rfl⟩, ⟨_, rfl, by first | rfl | (simp only [AV.ren]; congr 1; omega), rfl⟩, ⟨_, rfl, by first | rfl | (simp only [AV.ren]; congr 1; omega), rfl⟩, trivial⟩ ⟨⟨_, _, rfl, rfl, rfl, rfl, id, rfl⟩, ⟨_, _, rfl, rfl, rfl, rfl, id, rfl⟩, ⟨_, _, rfl, rfl, rfl, rfl, id, rfl⟩, ⟨_, _, rfl, rfl, rfl, rfl, id, rfl⟩, ⟨_, _, rfl, rfl, rfl, rfl, id, rfl⟩, ⟨_, _, rfl, rfl, rfl, rfl, id, rfl⟩, ⟨_, _, rfl, rfl, rfl, rfl, id, rfl⟩, ⟨_, _, rfl, rfl, rfl, rfl, id, rfl⟩, ⟨_, _, rfl, rfl, rfl, rfl, id, rfl⟩, ⟨_, _, rfl, rfl, rfl, rfl, id, rfl⟩, ⟨_, _, rfl, rfl, rfl, rfl, id, rfl⟩, ⟨_, _, rfl, rfl, rfl, rfl, id, rfl⟩, ⟨_, _, rfl, rfl, rfl, rfl, id, rfl⟩, ⟨_, _, rfl, rfl, rfl, rfl, id, rfl⟩, ⟨_, _, rfl, rfl, rfl, rfl, id, rfl⟩, ⟨_, _, rfl, rfl, rfl, rfl, id, rfl⟩, ⟨_, _, rfl, rfl, rfl, rfl, id, rfl⟩, ⟨_, _, rfl, rfl, rfl, rfl, id, rfl⟩, ⟨_, _, rfl, rfl, rfl, rfl, id, rfl⟩, ⟨_, _, rfl, rfl, rfl, rfl, id, rfl⟩, ⟨_, _, rfl, rfl, rfl, rfl, id, rfl⟩, ⟨_, _, rfl, rfl, rfl, rfl, id, rfl⟩, ⟨_, _, rfl, rfl, rfl, rfl, id, rfl⟩, ⟨_, _, rfl, rfl, rfl, rfl, id, rfl⟩, ⟨_, _, rfl, rfl, rfl, rfl, id, rfl⟩, ⟨_, _, rfl, rfl, rfl, rfl, id, rfl⟩, ⟨_, _, rfl, rfl, rfl, rfl, id, rfl⟩, ⟨_, _, rfl, rfl, rfl, rfl, id, rfl⟩, ⟨_, _, rfl, rfl, rfl, rfl, id, rfl⟩, ⟨_, _, rfl, rfl, rfl, rfl, id, rfl⟩, ⟨_, _, rfl, rfl, rfl, rfl, id, rfl⟩, ⟨_, _, rfl, rfl, rfl, rfl, id, rfl⟩, ⟨_, _, rfl, rfl, rfl, rfl, id, rfl⟩, ⟨_, _, rfl, rfl, rfl, rfl, id, rfl⟩, ⟨_, _, rfl, rfl, rfl, rfl, id, rfl⟩, ⟨_, _, rfl, rfl, rfl, rfl, id, rfl⟩, ⟨_, _, rfl, rfl, rfl, rfl, id, rfl⟩, ⟨_, _, rfl, rfl, rfl, rfl, id, rfl⟩, ⟨_, _, rfl, rfl, rfl, rfl, id, rfl⟩, ⟨_, _, rfl, rfl, rfl, rfl, id, rfl⟩, ⟨_, _, rfl, rfl, rfl, rfl, id, rfl⟩, ⟨_, _, rfl, rfl, rfl, rfl, id, rfl⟩, ⟨_, _, rfl, rfl, cut_ren _ o l, rfl, id, cut_nm _ o l⟩, trivial⟩) ?_
 rintro (⟨q, hq⟩ | ⟨q, hq⟩)
 ·dsimp only
  have hlen := q.len
  have hil := q.il
  have hSl : (s.take 900).length ≤ 900 := List.length_take_le 900 s
  refine .seq ?_
  refine .seq ?_
  refine .region ?_
  refine .q (op_move rfl) trivial rfl ?_
  refine .q (op_eqS rfl rfl rfl) trivial rfl ?_
  refine .nil ?_
  show Ev _ _ _ _ _
  refine .cond rfl (fun hc30 => ?_) (fun hc30 => ?_)
  ·skip
   refine .skip ?_
   show Ev _ _ _ _ _
   refine .seq ?_
   refine .block ?_
   refine .seq ?_
   refine .region ?_
   refine .q (op_assign rfl) trivial rfl ?_
   refine .nil ?_
   show Ev _ _ _ _ _
   refine .seq ?_
   refine .seq ?_
   refine .region ?_
   refine .q (op_move rfl) trivial rfl ?_
   refine .q (op_move rfl) trivial rfl ?_
   refine .q (op_len_sl Tryd.underlying56 rfl) trivial rfl ?_
   refine .q (op_cmpI rfl rfl rfl) trivial rfl ?_
   refine .nil ?_
   show Ev _ _ _ _ _
   refine .cond rfl (fun hc36 => ?_) (fun hc36 => ?_)
   ·first | replace hc36 := of_decide_eq_true hc36 | replace hc36 := of_decide_eq_false hc36 | replace hc36 := eq_of_beq hc36 | replace hc36 := ne_of_beq_false hc36 | simp only [bne_iff_ne, ne_eq] at hc36 | simp only [bne_eq_false_iff_eq] at hc36
    refine .region ?_
    refine .q (op_move rfl) trivial rfl ?_
    refine .q (op_move rfl) trivial rfl ?_
    refine .q (ap_idx Tryd.underlying56 inf3.sz rfl rfl rfl (by omega)) trivial rfl ?_
    refine .q (op_load Tryd.underlying3 rfl rfl rfl (cutC_nth o l q.i (by omega)) (by rw [cutC_len]; omega)) trivial rfl ?_
    refine .q (op_mask63 rfl rfl) trivial rfl ?_
    refine .q (op_addI rfl rfl ⟨by omega, by omega⟩) trivial rfl ?_
    refine .q (op_assign rfl) trivial rfl ?_
    refine .nil ?_
    show Ev _ _ _ _ _
    refine .seq ?_
    have hr0 : q.r ≠ [] := bne_iff_ne.1 hc30
    have hnp := cN_pos (l := l) (i := q.i) hr0
    refine Ev.weak (st2 := ⟨[(0, .bool c), (1, .str q.r), (2, .sl 450 o l.length 1), (6, .bool false), (7, .ptr 1000 0), (8, .ptr 1008 0), (9, .str q.left), (10, .i64 ((q.i : Nat) : Int)), (11, .i64 ((cN l q.i q.r : Nat) : Int))], [(1000, some ⟨.agg [.bool (q.h).c, .nilsl, .i64 (((q.h).g : Nat) : Int), .str (q.h).v, .err 225 ((q.h).e) (offE eo ((q.h).e))], 115, true⟩), (1008, some ⟨.agg [.str ((allD (s.take 900) [] (moreD ⟨c, [], 0, [], 0⟩))).v, .str ((allD (s.take 900) [] (moreD ⟨c, [], 0, [], 0⟩))).r, .i64 ((((allD (s.take 900) [] (moreD ⟨c, [], 0, [], 0⟩))).e : Nat) : Int)], 60, true⟩), (3, some ⟨.agg [.err 225 (1) (offE eo (1))], errT, false⟩), (1, some ⟨.agg [.err 225 (2) (offE eo (2))], errT, false⟩), (0, some ⟨.agg [.err 225 (3) (offE eo (3))], errT, false⟩), (4, some ⟨.agg [.err 225 (4) (offE eo (4))], errT, false⟩), (2, some ⟨.agg [.err 225 (5) (offE eo (5))], errT, false⟩), (5, some ⟨.agg [.err 225 (6) (offE eo (6))], errT, false⟩), (6, some ⟨.agg [.err 225 (7) (offE eo (7))], errT, false⟩), (7, some ⟨.agg [.err 225 (8) (offE eo (8))], errT, false⟩), (8, some ⟨.agg [.err 225 (9) (offE eo (9))], errT, false⟩), (9, some ⟨.agg [.err 225 (10) (offE eo (10))], errT, false⟩), (10, some ⟨.agg [.err 225 (11) (offE eo (11))], errT, false⟩), (11, some ⟨.agg [.err 225 (12) (offE eo (12))], errT, false⟩), (12, some ⟨.agg [.err 225 (13) (offE eo (13))], errT, false⟩), (13, some ⟨.agg [.err 225 (14) (offE eo (14))], errT, false⟩), (14, some ⟨.agg [.err 225 (15) (offE eo (15))], errT, false⟩), (15, some ⟨.agg [.err 225 (16) (offE eo (16))], errT, false⟩), (16, some ⟨.agg [.err 225 (17) (offE eo (17))], errT, false⟩), (17, some ⟨.agg [.err 225 (18) (offE eo (18))], errT, false⟩), (18, some ⟨.agg [.err 225 (19) (offE eo (19))], errT, false⟩), (19, some ⟨.agg [.err 225 (20) (offE eo (20))], errT, false⟩), (401, some ⟨.agg [], errT, false⟩), (402, some ⟨.agg [], errT, false⟩), (403, some ⟨.agg [], errT, false⟩), (404, some ⟨.agg [], errT, false⟩), (405, some ⟨.agg [], errT, false⟩), (406, some ⟨.agg [], errT, false⟩), (407, some ⟨.agg [], errT, false⟩), (408, some ⟨.agg [], errT, false⟩), (409, some ⟨.agg [], errT, false⟩), (410, some ⟨.agg [], errT, false⟩), (411, some ⟨.agg [], errT, false⟩), (412, some ⟨.agg [], errT, false⟩), (413, some ⟨.agg [], errT, false⟩), (414, some ⟨.agg [], errT, false⟩), (415, some ⟨.agg [], errT, false⟩), (416, some ⟨.agg [], errT, false⟩), (417, some ⟨.agg [], errT, false⟩), (418, some ⟨.agg [], errT, false⟩), (419, some ⟨.agg [], errT, false⟩), (420, some ⟨.agg [], errT, false⟩), (450, some ⟨.agg (cutC o l), anyT, false⟩)], 1024⟩) ?_ ?_
    ·exact StLe.mk [(1000, 1000), (1008, 1008)] rfl rfl ⟨⟨_, rfl, by first | rfl | (simp only [AV.ren]; congr 1; omega), rfl⟩, ⟨_, rfl, by first | rfl | (simp only [AV.ren]; congr 1; omega), rfl⟩, ⟨_, rfl, by first | rfl | (simp only [AV.ren]; congr 1; omega), rfl⟩, ⟨_, rfl, by first | rfl | (simp only [AV.ren]; congr 1; omega), rfl⟩, ⟨_, rfl, by first | rfl | (simp only [AV.ren]; congr 1; omega), rfl⟩, ⟨_, rfl, by first | rfl | (simp only [AV.ren]; congr 1; omega), rfl⟩, ⟨_, rfl, by first | rfl | (simp only [AV.ren]; congr 1; omega), rfl⟩, ⟨_, rfl, by first | rfl | (simp only [AV.ren]; congr 1; omega), rfl⟩, ⟨_, rfl, by (show AV.i64 _ = AV.i64 _; congr 1; first | exact (cN_y (by omega)).symm | rw [cN_n (by omega)]), rfl⟩, trivial⟩ ⟨⟨_, _, rfl, rfl, rfl, rfl, id, rfl⟩, ⟨_, _, rfl, rfl, rfl, rfl, id, rfl⟩, ⟨_, _, rfl, rfl, rfl, rfl, id, rfl⟩, ⟨_, _, rfl, rfl, rfl, rfl, id, rfl⟩, ⟨_, _, rfl, rfl, rfl, rfl, id, rfl⟩, ⟨_, _, rfl, rfl, rfl, rfl, id, rfl⟩, ⟨_, _, rfl, rfl, rfl, rfl, id, rfl⟩, ⟨_, _, rfl, rfl, rfl, rfl, id, rfl⟩, ⟨_, _, rfl, rfl, rfl, rfl, id, rfl⟩, ⟨_, _, rfl, rfl, rfl, rfl, id, rfl⟩, ⟨_, _, rfl, rfl, rfl, rfl, id, rfl⟩, ⟨_, _, rfl, rfl, rfl, rfl, id, rfl⟩, ⟨_, _, rfl, rfl, rfl, rfl, id, rfl⟩, ⟨_, _, rfl, rfl, rfl, rfl, id, rfl⟩, ⟨_, _, rfl, rfl, rfl, rfl, id, rfl⟩, ⟨_, _, rfl, rfl, rfl, rfl, id, rfl⟩, ⟨_, _, rfl, rfl, rfl, rfl, id, rfl⟩, ⟨_, _, rfl, rfl, rfl, rfl, id, rfl⟩, ⟨_, _, rfl, rfl, rfl, rfl, id, rfl⟩, ⟨_, _, rfl, rfl, rfl, rfl, id, rfl⟩, ⟨_, _, rfl, rfl, rfl, rfl, id, rfl⟩, ⟨_, _, rfl, rfl, rfl, rfl, id, rfl⟩, ⟨_, _, rfl, rfl, rfl, rfl, id, rfl⟩, ⟨_, _, rfl, rfl, rfl, rfl, id, rfl⟩, ⟨_, _, rfl, rfl, rfl, rfl, id, rfl⟩, ⟨_, _, rfl, rfl, rfl, rfl, id, rfl⟩, ⟨_, _, rfl, rfl, rfl, rfl, id, rfl⟩, ⟨_, _, rfl, rfl, rfl, rfl, id, rfl⟩, ⟨_, _, rfl, rfl, rfl, rfl, id, rfl⟩, ⟨_, _, rfl, rfl, rfl, rfl, id, rfl⟩, ⟨_, _, rfl, rfl, rfl, rfl, id, rfl⟩, ⟨_, _, rfl, rfl, rfl, rfl, id, rfl⟩, ⟨_, _, rfl, rfl, rfl, rfl, id, rfl⟩, ⟨_, _, rfl, rfl, rfl, rfl, id, rfl⟩, ⟨_, _, rfl, rfl, rfl, rfl, id, rfl⟩, ⟨_, _, rfl, rfl, rfl, rfl, id, rfl⟩, ⟨_, _, rfl, rfl, rfl, rfl, id, rfl⟩, ⟨_, _, rfl, rfl, rfl, rfl, id, rfl⟩, ⟨_, _, rfl, rfl, rfl, rfl, id, rfl⟩, ⟨_, _, rfl, rfl, rfl, rfl, id, rfl⟩, ⟨_, _, rfl, rfl, rfl, rfl, id, rfl⟩, ⟨_, _, rfl, rfl, rfl, rfl, id, rfl⟩, ⟨_, _, rfl, rfl, cut_ren _ o l, rfl, id, cut_nm _ o l⟩, trivial⟩
    refine .region ?_
    refine .q (op_move rfl) trivial rfl ?_
    refine .q (op_move rfl) trivial rfl ?_
    refine .q (op_len_str Tryd.underlying9 rfl) trivial rfl ?_
    refine .q (op_minI rfl rfl) trivial rfl ?_
    refine .as (.i64 (((min (cN l q.i q.r) q.r.length) : Nat) : Int)) (congrArg AV.i64 (by omega)) ?_
    refine .q (op_assign rfl) trivial rfl ?_
    refine .nil ?_
    show Ev _ _ _ _ _
    refine .seq ?_
    refine .region ?_
    refine .q (op_move rfl) trivial rfl ?_
    refine .q (op_call (U := []) [(500, 1000)] [] (done_n q.h eo) Tryd.func30 (by kernel_rfl) rfl rfl rfl (⟨⟨_, rfl, rfl, rfl⟩, trivial⟩) (⟨⟨_, _, rfl, rfl, rfl, rfl, (fun h => by cases h), rfl⟩, trivial⟩) (trivial) (⟨(fun h => by cases h), trivial⟩) rfl) trivial rfl ?_
    refine .q (op_assign rfl) trivial rfl ?_
    refine .nil ?_
    show Ev _ _ _ _ _
    refine .seq ?_
    refine .region ?_
    refine .q (op_move rfl) trivial rfl ?_
    refine .q (op_move rfl) trivial rfl ?_
    refine .q (op_move rfl) trivial rfl ?_
    refine .q (ap_slice_str_hi Tryd.underlying9 rfl (bnd_some rfl (l := (min (cN l q.i q.r) q.r.length)) rfl) (by omega)) trivial rfl ?_
    refine dite ((q.k (min (cN l q.i q.r) q.r.length)).p = []) (fun hP => ?_) (fun hP => ?_)
    ·refine .a (op_call (U := [(1000, some ⟨.agg [.bool ((feedD q.h (q.r.take (min (cN l q.i q.r) q.r.length))).1).c, .nilsl, .i64 ((((feedD q.h (q.r.take (min (cN l q.i q.r) q.r.length))).1).g : Nat) : Int), .str ((feedD q.h (q.r.take (min (cN l q.i q.r) q.r.length))).1).v, .err 225 (((feedD q.h (q.r.take (min (cN l q.i q.r) q.r.length))).1).e) (offE eo (((feedD q.h (q.r.take (min (cN l q.i q.r) q.r.length))).1).e))], 115, true⟩)]) [(500, 1000)] [] (feed_nn q.h (q.r.take (min (cN l q.i q.r) q.r.length)) q.fine hq (by rw [List.length_take]; omega) hP eo) Tryd.func31 (by kernel_rfl) rfl rfl rfl (⟨⟨_, rfl, rfl, rfl⟩, ⟨_, rfl, rfl, rfl⟩, trivial⟩) (⟨⟨_, _, rfl, rfl, rfl, rfl, id, rfl⟩, ⟨_, _, rfl, rfl, rfl, rfl, (fun h => by cases h), rfl⟩, ⟨_, _, rfl, rfl, rfl, rfl, (fun h => by cases h), rfl⟩, ⟨_, _, rfl, rfl, rfl, rfl, (fun h => by cases h), rfl⟩, trivial⟩) (⟨⟨500, _, rfl, rfl, rfl, rfl, .inr ⟨rfl, _, rfl, rfl⟩⟩, trivial⟩) (⟨(fun _ => ⟨1000, _, rfl, rfl⟩), (fun h => by cases h), (fun h => by cases h), (fun h => by cases h), trivial⟩) rfl) trivial rfl ?_
     refine .q (op_move rfl) trivial rfl ?_
     refine .q (op_extract rfl rfl) trivial rfl ?_
     refine .q (op_extract rfl rfl) trivial rfl ?_
     refine .q (op_assign rfl) trivial rfl ?_
     refine .q (op_assign rfl) trivial rfl ?_
     refine .nil ?_
     show Ev _ _ _ _ _
     refine .seq ?_
     refine .seq ?_
     refine .region ?_
     refine .q (op_move rfl) trivial rfl ?_
     refine .q (op_eqErrNil (e := (feedD q.h (q.r.take (min (cN l q.i q.r) q.r.length))).1.e) Tryd.underlying26 rfl rfl) trivial rfl ?_
     refine .nil ?_
     show Ev _ _ _ _ _
     refine .cond rfl (fun hc60 => ?_) (fun hc60 => ?_)
     ·skip
      refine .seq ?_
      refine .region ?_
      refine .q (op_move rfl) trivial rfl ?_
      refine .a (op_call (U := [(1000, some ⟨.agg [.bool ((feedD (feedD q.h (q.r.take (min (cN l q.i q.r) q.r.length))).1 [109, 111, 114, 101]).1).c, .nilsl, .i64 ((((feedD (feedD q.h (q.r.take (min (cN l q.i q.r) q.r.length))).1 [109, 111, 114, 101]).1).g : Nat) : Int), .str ((feedD (feedD q.h (q.r.take (min (cN l q.i q.r) q.r.length))).1 [109, 111, 114, 101]).1).v, .err 225 (((feedD (feedD q.h (q.r.take (min (cN l q.i q.r) q.r.length))).1 [109, 111, 114, 101]).1).e) (offE eo (((feedD (feedD q.h (q.r.take (min (cN l q.i q.r) q.r.length))).1 [109, 111, 114, 101]).1).e))], 115, true⟩)]) [(500, 1000)] [] (feed_nn (feedD q.h (q.r.take (min (cN l q.i q.r) q.r.length))).1 [109, 111, 114, 101] (q.feeds (min (cN l q.i q.r) q.r.length)).1 hP (by decide) (by rw [feedD_end (goes_e (bne_iff_ne.1 hc60))]; exact hP) eo) Tryd.func31 (by kernel_rfl) rfl rfl rfl (⟨⟨_, rfl, rfl, rfl⟩, ⟨_, rfl, rfl, rfl⟩, trivial⟩) (⟨⟨_, _, rfl, rfl, rfl, rfl, id, rfl⟩, ⟨_, _, rfl, rfl, rfl, rfl, (fun h => by cases h), rfl⟩, ⟨_, _, rfl, rfl, rfl, rfl, (fun h => by cases h), rfl⟩, ⟨_, _, rfl, rfl, rfl, rfl, (fun h => by cases h), rfl⟩, trivial⟩) (⟨⟨500, _, rfl, rfl, rfl, rfl, .inr ⟨rfl, _, rfl, rfl⟩⟩, trivial⟩) (⟨(fun _ => ⟨1000, _, rfl, rfl⟩), (fun h => by cases h), (fun h => by cases h), (fun h => by cases h), trivial⟩) rfl) trivial rfl ?_
      refine .as (.tup [.str [], .err 225 ((feedD q.h (q.r.take (min (cN l q.i q.r) q.r.length))).1.e) (offE eo ((feedD q.h (q.r.take (min (cN l q.i q.r) q.r.length))).1.e))]) (by show AV.tup [.str (feedR _ _), AV.err 225 ((feedD (feedD q.h (q.r.take (min (cN l q.i q.r) q.r.length))).1 [109, 111, 114, 101]).1.e) (offE eo ((feedD (feedD q.h (q.r.take (min (cN l q.i q.r) q.r.length))).1 [109, 111, 114, 101]).1.e))] = _; rw [feedR_bad (feedD_end (goes_e (bne_iff_ne.1 hc60))) (bne_iff_ne.1 hc60), feedD_end (goes_e (bne_iff_ne.1 hc60))]) ?_
      refine .q (op_move rfl) trivial rfl ?_
      refine .q (op_extract rfl rfl) trivial rfl ?_
      refine .q (op_extract rfl rfl) trivial rfl ?_
      refine .q (op_assign rfl) trivial rfl ?_
      refine .q (op_assign rfl) trivial rfl ?_
      refine .nil ?_
      show Ev _ _ _ _ _
      refine .seq ?_
      refine .drawn [[], [0], [], [2], [0, 1, 2, 3], [0, 1, 2, 3, 4], [0, 1, 2, 3, 4, 5], [0, 1, 2, 3, 4, 5, 6], [0, 1, 2, 3, 4, 5], [0, 1, 2, 3, 4, 5, 8], [0, 1, 2, 3, 4, 5, 6, 7, 8, 9], [0, 1, 2, 3, 4, 5, 6, 7, 8, 9, 10], [0, 1, 2, 3, 4, 5, 6, 7, 8, 9, 10, 11], [0, 1, 2, 3, 4, 5, 6, 7, 8, 9, 10, 11, 12], [0, 1, 2, 3, 4, 5, 6, 7, 8, 9, 10, 11, 12, 13], [0, 1, 2, 3, 4, 5, 6, 7, 8, 9, 10, 11, 12, 13, 14], [0, 1, 2, 3, 4, 5, 6, 7, 8, 9, 10, 11, 12, 13, 14, 15], [0, 1, 2, 3, 4, 5, 6, 7, 8, 9, 10, 11, 12, 13, 14, 15, 16], [0, 1, 2, 3, 4, 5, 6, 7, 8, 9, 10, 11, 12, 13, 14, 15, 16, 17], [0, 1, 2, 3, 4, 5, 6, 7, 8, 9, 10, 11, 12, 13, 14, 15, 16, 17, 18], [0, 1, 2, 3, 4, 5, 6, 7, 8, 9, 10, 11, 12, 13, 14, 15, 16, 17, 18, 19], [0, 1, 2, 3, 4, 5, 6, 7, 8, 9, 10, 11, 12, 13, 14, 15, 16, 17, 18, 19, 20]] [1, 3, 7, 9, 18] [] (by kernel_rfl) (by kernel_rfl) rfl ?_
      show DK _ [0, 1, 2, 3, 4, 5, 6, 7, 8, 9, 10, 11, 12, 13, 14, 15, 16, 17, 18, 19, 20, 21] _ _ _
      refine .q rfl (op_move rfl) trivial ?_
      refine .q rfl (op_call (U := []) [] [] (codeH_ev eo hd (feedD q.h (q.r.take (min (cN l q.i q.r) q.r.length))).1.e (q.okE (min (cN l q.i q.r) q.r.length))) Tryd.func14 (by kernel_rfl) rfl rfl rfl (⟨⟨_, rfl, rfl, rfl⟩, trivial⟩) (⟨⟨_, _, rfl, rfl, rfl, rfl, (fun h => by cases h), rfl⟩, ⟨_, _, rfl, rfl, rfl, rfl, (fun h => by cases h), rfl⟩, ⟨_, _, rfl, rfl, rfl, rfl, (fun h => by cases h), rfl⟩, ⟨_, _, rfl, rfl, rfl, rfl, (fun h => by cases h), rfl⟩, ⟨_, _, rfl, rfl, rfl, rfl, (fun h => by cases h), rfl⟩, ⟨_, _, rfl, rfl, rfl, rfl, (fun h => by cases h), rfl⟩, ⟨_, _, rfl, rfl, rfl, rfl, (fun h => by cases h), rfl⟩, ⟨_, _, rfl, rfl, rfl, rfl, (fun h => by cases h), rfl⟩, ⟨_, _, rfl, rfl, rfl, rfl, (fun h => by cases h), rfl⟩, ⟨_, _, rfl, rfl, rfl, rfl, (fun h => by cases h), rfl⟩, ⟨_, _, rfl, rfl, rfl, rfl, (fun h => by cases h), rfl⟩, ⟨_, _, rfl, rfl, rfl, rfl, (fun h => by cases h), rfl⟩, ⟨_, _, rfl, rfl, rfl, rfl, (fun h => by cases h), rfl⟩, ⟨_, _, rfl, rfl, rfl, rfl, (fun h => by cases h), rfl⟩, ⟨_, _, rfl, rfl, rfl, rfl, (fun h => by cases h), rfl⟩, ⟨_, _, rfl, rfl, rfl, rfl, (fun h => by cases h), rfl⟩, ⟨_, _, rfl, rfl, rfl, rfl, (fun h => by cases h), rfl⟩, ⟨_, _, rfl, rfl, rfl, rfl, (fun h => by cases h), rfl⟩, ⟨_, _, rfl, rfl, rfl, rfl, (fun h => by cases h), rfl⟩, ⟨_, _, rfl, rfl, rfl, rfl, (fun h => by cases h), rfl⟩, ⟨_, _, rfl, rfl, rfl, rfl, (fun h => by cases h), rfl⟩, ⟨_, _, rfl, rfl, rfl, rfl, (fun h => by cases h), rfl⟩, ⟨_, _, rfl, rfl, rfl, rfl, (fun h => by cases h), rfl⟩, ⟨_, _, rfl, rfl, rfl, rfl, (fun h => by cases h), rfl⟩, ⟨_, _, rfl, rfl, rfl, rfl, (fun h => by cases h), rfl⟩, ⟨_, _, rfl, rfl, rfl, rfl, (fun h => by cases h), rfl⟩, ⟨_, _, rfl, rfl, rfl, rfl, (fun h => by cases h), rfl⟩, ⟨_, _, rfl, rfl, rfl, rfl, (fun h => by cases h), rfl⟩, ⟨_, _, rfl, rfl, rfl, rfl, (fun h => by cases h), rfl⟩, ⟨_, _, rfl, rfl, rfl, rfl, (fun h => by cases h), rfl⟩, ⟨_, _, rfl, rfl, rfl, rfl, (fun h => by cases h), rfl⟩, ⟨_, _, rfl, rfl, rfl, rfl, (fun h => by cases h), rfl⟩, ⟨_, _, rfl, rfl, rfl, rfl, (fun h => by cases h), rfl⟩, ⟨_, _, rfl, rfl, rfl, rfl, (fun h => by cases h), rfl⟩, ⟨_, _, rfl, rfl, rfl, rfl, (fun h => by cases h), rfl⟩, ⟨_, _, rfl, rfl, rfl, rfl, (fun h => by cases h), rfl⟩, ⟨_, _, rfl, rfl, rfl, rfl, (fun h => by cases h), rfl⟩, ⟨_, _, rfl, rfl, rfl, rfl, (fun h => by cases h), rfl⟩, ⟨_, _, rfl, rfl, rfl, rfl, (fun h => by cases h), rfl⟩, ⟨_, _, rfl, rfl, rfl, rfl, (fun h => by cases h), rfl⟩, trivial⟩) (trivial) (⟨(fun h => by cases h), (fun h => by cases h), (fun h => by cases h), (fun h => by cases h), (fun h => by cases h), (fun h => by cases h), (fun h => by cases h), (fun h => by cases h), (fun h => by cases h), (fun h => by cases h), (fun h => by cases h), (fun h => by cases h), (fun h => by cases h), (fun h => by cases h), (fun h => by cases h), (fun h => by cases h), (fun h => by cases h), (fun h => by cases h), (fun h => by cases h), (fun h => by cases h), (fun h => by cases h), (fun h => by cases h), (fun h => by cases h), (fun h => by cases h), (fun h => by cases h), (fun h => by cases h), (fun h => by cases h), (fun h => by cases h), (fun h => by cases h), (fun h => by cases h), (fun h => by cases h), (fun h => by cases h), (fun h => by cases h), (fun h => by cases h), (fun h => by cases h), (fun h => by cases h), (fun h => by cases h), (fun h => by cases h), (fun h => by cases h), (fun h => by cases h), trivial⟩) rfl) trivial ?_
      refine .q rfl (op_fieldAddr (m := 0) Tryd.underlying60 rfl (by kernel_rfl) rfl) trivial ?_
      refine .as (.ptr 1008 2) rfl ?_
      refine .q rfl (op_load Tryd.underlying3 rfl rfl rfl rfl (by show 2 < 3; decide)) trivial ?_
      refine .q rfl (op_cmpI rfl rfl rfl) trivial ?_
      refine .q rfl (op_move rfl) trivial ?_
      refine .know (b' := true) (by rw [(q.err (min (cN l q.i q.r) q.r.length) (bne_iff_ne.1 hc60)).1]; first | rfl | exact beq_self_eq_true _ | exact decide_eq_true rfl) ?_
      refine .q rfl (op_move rfl) ⟨_, rfl, rfl⟩ ?_
      refine .q rfl (op_call (U := []) [] [] (codeH_ev eo hd (feedD q.h (q.r.take (min (cN l q.i q.r) q.r.length))).1.e (q.okE (min (cN l q.i q.r) q.r.length))) Tryd.func14 (by kernel_rfl) rfl rfl rfl (⟨⟨_, rfl, rfl, rfl⟩, trivial⟩) (⟨⟨_, _, rfl, rfl, rfl, rfl, (fun h => by cases h), rfl⟩, ⟨_, _, rfl, rfl, rfl, rfl, (fun h => by cases h), rfl⟩, ⟨_, _, rfl, rfl, rfl, rfl, (fun h => by cases h), rfl⟩, ⟨_, _, rfl, rfl, rfl, rfl, (fun h => by cases h), rfl⟩, ⟨_, _, rfl, rfl, rfl, rfl, (fun h => by cases h), rfl⟩, ⟨_, _, rfl, rfl, rfl, rfl, (fun h => by cases h), rfl⟩, ⟨_, _, rfl, rfl, rfl, rfl, (fun h => by cases h), rfl⟩, ⟨_, _, rfl, rfl, rfl, rfl, (fun h => by cases h), rfl⟩, ⟨_, _, rfl, rfl, rfl, rfl, (fun h => by cases h), rfl⟩, ⟨_, _, rfl, rfl, rfl, rfl, (fun h => by cases h), rfl⟩, ⟨_, _, rfl, rfl, rfl, rfl, (fun h => by cases h), rfl⟩, ⟨_, _, rfl, rfl, rfl, rfl, (fun h => by cases h), rfl⟩, ⟨_, _, rfl, rfl, rfl, rfl, (fun h => by cases h), rfl⟩, ⟨_, _, rfl, rfl, rfl, rfl, (fun h => by cases h), rfl⟩, ⟨_, _, rfl, rfl, rfl, rfl, (fun h => by cases h), rfl⟩, ⟨_, _, rfl, rfl, rfl, rfl, (fun h => by cases h), rfl⟩, ⟨_, _, rfl, rfl, rfl, rfl, (fun h => by cases h), rfl⟩, ⟨_, _, rfl, rfl, rfl, rfl, (fun h => by cases h), rfl⟩, ⟨_, _, rfl, rfl, rfl, rfl, (fun h => by cases h), rfl⟩, ⟨_, _, rfl, rfl, rfl, rfl, (fun h => by cases h), rfl⟩, ⟨_, _, rfl, rfl, rfl, rfl, (fun h => by cases h), rfl⟩, ⟨_, _, rfl, rfl, rfl, rfl, (fun h => by cases h), rfl⟩, ⟨_, _, rfl, rfl, rfl, rfl, (fun h => by cases h), rfl⟩, ⟨_, _, rfl, rfl, rfl, rfl, (fun h => by cases h), rfl⟩, ⟨_, _, rfl, rfl, rfl, rfl, (fun h => by cases h), rfl⟩, ⟨_, _, rfl, rfl, rfl, rfl, (fun h => by cases h), rfl⟩, ⟨_, _, rfl, rfl, rfl, rfl, (fun h => by cases h), rfl⟩, ⟨_, _, rfl, rfl, rfl, rfl, (fun h => by cases h), rfl⟩, ⟨_, _, rfl, rfl, rfl, rfl, (fun h => by cases h), rfl⟩, ⟨_, _, rfl, rfl, rfl, rfl, (fun h => by cases h), rfl⟩, ⟨_, _, rfl, rfl, rfl, rfl, (fun h => by cases h), rfl⟩, ⟨_, _, rfl, rfl, rfl, rfl, (fun h => by cases h), rfl⟩, ⟨_, _, rfl, rfl, rfl, rfl, (fun h => by cases h), rfl⟩, ⟨_, _, rfl, rfl, rfl, rfl, (fun h => by cases h), rfl⟩, ⟨_, _, rfl, rfl, rfl, rfl, (fun h => by cases h), rfl⟩, ⟨_, _, rfl, rfl, rfl, rfl, (fun h => by cases h), rfl⟩, ⟨_, _, rfl, rfl, rfl, rfl, (fun h => by cases h), rfl⟩, ⟨_, _, rfl, rfl, rfl, rfl, (fun h => by cases h), rfl⟩, ⟨_, _, rfl, rfl, rfl, rfl, (fun h => by cases h), rfl⟩, ⟨_, _, rfl, rfl, rfl, rfl, (fun h => by cases h), rfl⟩, trivial⟩) (trivial) (⟨(fun h => by cases h), (fun h => by cases h), (fun h => by cases h), (fun h => by cases h), (fun h => by cases h), (fun h => by cases h), (fun h => by cases h), (fun h => by cases h), (fun h => by cases h), (fun h => by cases h), (fun h => by cases h), (fun h => by cases h), (fun h => by cases h), (fun h => by cases h), (fun h => by cases h), (fun h => by cases h), (fun h => by cases h), (fun h => by cases h), (fun h => by cases h), (fun h => by cases h), (fun h => by cases h), (fun h => by cases h), (fun h => by cases h), (fun h => by cases h), (fun h => by cases h), (fun h => by cases h), (fun h => by cases h), (fun h => by cases h), (fun h => by cases h), (fun h => by cases h), (fun h => by cases h), (fun h => by cases h), (fun h => by cases h), (fun h => by cases h), (fun h => by cases h), (fun h => by cases h), (fun h => by cases h), (fun h => by cases h), (fun h => by cases h), (fun h => by cases h), trivial⟩) rfl) ⟨_, rfl, rfl⟩ ?_
      refine .q rfl (op_fieldAddr (m := 0) Tryd.underlying60 rfl (by kernel_rfl) rfl) ⟨_, rfl, rfl⟩ ?_
      refine .as (.ptr 1008 2) rfl ?_
      refine .q rfl (op_load Tryd.underlying3 rfl rfl rfl rfl (by show 2 < 3; decide)) ⟨_, rfl, rfl⟩ ?_
      refine .q rfl (op_cmpI rfl rfl rfl) ⟨_, rfl, rfl⟩ ?_
      refine .q rfl (op_pick_true rfl rfl rfl) trivial ?_
      refine .q rfl (op_move rfl) trivial ?_
      refine .know (b' := true) (by rw [(q.err (min (cN l q.i q.r) q.r.length) (bne_iff_ne.1 hc60)).1]; first | rfl | exact beq_self_eq_true _ | exact decide_eq_true rfl) ?_
      refine .q rfl (op_move rfl) ⟨_, rfl, rfl⟩ ?_
      refine .q rfl (op_eqS rfl rfl rfl) ⟨_, rfl, rfl⟩ ?_
      refine .q rfl (op_pick_true rfl rfl rfl) trivial ?_
      refine .q rfl (op_move rfl) trivial ?_
      refine .know (b' := true) (by rw [feedR_e (bne_iff_ne.1 hc60)]; rfl) ?_
      refine .q rfl (op_move rfl) ⟨_, rfl, rfl⟩ ?_
      refine .q rfl (op_call (U := []) [(500, 1000)] [] (peer_n (feedD (feedD q.h (q.r.take (min (cN l q.i q.r) q.r.length))).1 [109, 111, 114, 101]).1 eo) Tryd.func32 (by kernel_rfl) rfl rfl rfl (⟨⟨_, rfl, rfl, rfl⟩, trivial⟩) (⟨⟨_, _, rfl, rfl, rfl, rfl, (fun h => by cases h), rfl⟩, trivial⟩) (trivial) (⟨(fun h => by cases h), trivial⟩) rfl) ⟨_, rfl, rfl⟩ ?_
      refine .q rfl (op_eqS rfl rfl rfl) ⟨_, rfl, rfl⟩ ?_
      refine .q rfl (op_pick_true rfl rfl rfl) trivial ?_
      refine .q rfl (op_assign rfl) trivial ?_
      refine .nil ?_
      show Ev _ _ _ _ _
      refine .ret ?_
      show RetOk _ _ _ _ _ _ _
      first
       | exact ret1v rfl (.inl rfl) rfl (congrArg AV.bool (by rw [(q.want (bne_eq_false_iff_eq.1 hc30)).2.1]; exact beq_self_eq_true _)) trivial
       | exact ret1v rfl (.inl rfl) rfl (congrArg AV.bool (by rw [feedD_end (goes_e (bne_iff_ne.1 hc60))]; exact beq_iff_eq.2 (q.err (min (cN l q.i q.r) q.r.length) (bne_iff_ne.1 hc60)).2.1)) trivial
     ·skip
      refine .skip ?_
      show Ev _ _ _ _ _
      refine .seq ?_
      refine .seq ?_
      refine .region ?_
      refine .q (op_move rfl) trivial rfl ?_
      refine .q (op_move rfl) trivial rfl ?_
      refine .split (fun hg88 => ?_) (fun hg88 => ?_)
      ·skip
       refine .q (op_move rfl) ⟨_, rfl, rfl⟩ rfl ?_
       refine .q (op_move rfl) ⟨_, rfl, rfl⟩ rfl ?_
       refine .q (op_move rfl) ⟨_, rfl, rfl⟩ rfl ?_
       refine .q (ap_slice_str_hi Tryd.underlying9 rfl (bnd_some rfl (l := (min (cN l q.i q.r) q.r.length)) rfl) (by omega)) ⟨_, rfl, rfl⟩ rfl ?_
       refine .q (op_eqS rfl rfl rfl) ⟨_, rfl, rfl⟩ rfl ?_
       refine .q (op_pick_true rfl rfl rfl) trivial rfl ?_
       refine .q (op_move rfl) trivial rfl ?_
       refine .know (b' := false) (by first | rfl | exact bne_eq_false_iff_eq.2 (q.got_same (min (cN l q.i q.r) q.r.length) (bne_iff_ne.1 hg88))) ?_
       refine .q (op_move rfl) ⟨_, rfl, rfl⟩ rfl ?_
       refine .q (op_call (U := []) [(500, 1000)] [] (done_n (feedD q.h (q.r.take (min (cN l q.i q.r) q.r.length))).1 eo) Tryd.func30 (by kernel_rfl) rfl rfl rfl (⟨⟨_, rfl, rfl, rfl⟩, trivial⟩) (⟨⟨_, _, rfl, rfl, rfl, rfl, (fun h => by cases h), rfl⟩, trivial⟩) (trivial) (⟨(fun h => by cases h), trivial⟩) rfl) ⟨_, rfl, rfl⟩ rfl ?_
       refine .q (op_notB rfl) ⟨_, rfl, rfl⟩ rfl ?_
       refine .q (op_move rfl) ⟨_, rfl, rfl⟩ rfl ?_
       refine .split (fun hg99 => ?_) (fun hg99 => ?_)
       ·skip
        refine .q (op_move rfl) ⟨_, rfl, rfl⟩ rfl ?_
        refine .q (op_eqS rfl rfl rfl) ⟨_, rfl, rfl⟩ rfl ?_
        refine .q (op_pick_true rfl rfl rfl) ⟨_, rfl, rfl⟩ rfl ?_
        refine .q (op_pick_false rfl rfl rfl) trivial rfl ?_
        refine .nil ?_
        show Ev _ _ _ _ _
        refine .cond_false rfl (by first | rfl | exact bne_eq_false_iff_eq.2 (q.got_nil (min (cN l q.i q.r) q.r.length) (bne_eq_false_iff_eq.1 hc60) (nv_t hg99))) ?_
        refine .skip ?_
        show Ev _ _ _ _ _
        refine .seq ?_
        refine .region ?_
        refine .q (op_move rfl) trivial rfl ?_
        refine .q (op_move rfl) trivial rfl ?_
        refine .as (.str (feedD q.h (q.r.take (min (cN l q.i q.r) q.r.length))).2) (congrArg AV.str (feedR_ok (bne_eq_false_iff_eq.1 hc60))) ?_
        refine .q (op_addS rfl rfl (by have h9 := q.got_le (min (cN l q.i q.r) q.r.length); rw [List.length_take] at h9; omega)) trivial rfl ?_
        refine .q (op_assign rfl) trivial rfl ?_
        refine .nil ?_
        show Ev _ _ _ _ _
        refine .region ?_
        refine .q (op_move rfl) trivial rfl ?_
        refine .q (op_move rfl) trivial rfl ?_
        refine .q (ap_slice_str_lo Tryd.underlying9 rfl (bnd_some rfl (l := (min (cN l q.i q.r) q.r.length)) rfl) (by omega)) trivial rfl ?_
        refine .q (op_assign rfl) trivial rfl ?_
        refine .nil ?_
        show Ev _ _ _ _ _
        refine .region ?_
        refine .q (op_move rfl) trivial rfl ?_
        refine .q (op_addI rfl rfl ⟨by omega, by omega⟩) trivial rfl ?_
        refine .q (op_assign rfl) trivial rfl ?_
        refine .nil ?_
        exact ⟨.inl ⟨q.step (min (cN l q.i q.r) q.r.length) hnp (Nat.min_le_right _ _) (bne_eq_false_iff_eq.1 hc60), hP⟩, (by show (q.r.drop (min (cN l q.i q.r) q.r.length)).length < q.r.length; rw [List.length_drop]; omega), StLe.mk [(1000, 1000), (1008, 1008)] rfl rfl ⟨⟨_, rfl, by first | rfl | (simp only [AV.ren]; congr 1; omega), rfl⟩, ⟨_, rfl, by first | rfl | (simp only [AV.ren]; congr 1; omega), rfl⟩, ⟨_, rfl, by first | rfl | (simp only [AV.ren]; congr 1; omega), rfl⟩, ⟨_, rfl, by first | rfl | (simp only [AV.ren]; congr 1; omega), rfl⟩, ⟨_, rfl, by first | rfl | (simp only [AV.ren]; congr 1; omega), rfl⟩, ⟨_, rfl, by first | rfl | (simp only [AV.ren]; congr 1; omega), rfl⟩, ⟨_, rfl, by first | rfl | (simp only [AV.ren]; congr 1; omega), rfl⟩, ⟨_, rfl, by first | rfl | (simp only [AV.ren]; congr 1; omega), rfl⟩, trivial⟩ ⟨⟨_, _, rfl, rfl, rfl, rfl, id, rfl⟩, ⟨_, _, rfl, rfl, rfl, rfl, id, rfl⟩, ⟨_, _, rfl, rfl, rfl, rfl, id, rfl⟩, ⟨_, _, rfl, rfl, rfl, rfl, id, rfl⟩, ⟨_, _, rfl, rfl, rfl, rfl, id, rfl⟩, ⟨_, _, rfl, rfl, rfl, rfl, id, rfl⟩, ⟨_, _, rfl, rfl, rfl, rfl, id, rfl⟩, ⟨_, _, rfl, rfl, rfl, rfl, id, rfl⟩, ⟨_, _, rfl, rfl, rfl, rfl, id, rfl⟩, ⟨_, _, rfl, rfl, rfl, rfl, id, rfl⟩, ⟨_, _, rfl, rfl, rfl, rfl, id, rfl⟩, ⟨_, _, rfl, rfl, rfl, rfl, id, rfl⟩, ⟨_, _, rfl, rfl, rfl, rfl, id, rfl⟩, ⟨_, _, rfl, rfl, rfl, rfl, id, rfl⟩, ⟨_, _, rfl, rfl, rfl, rfl, id, rfl⟩, ⟨_, _, rfl, rfl, rfl, rfl, id, rfl⟩, ⟨_, _, rfl, rfl, rfl, rfl, id, rfl⟩, ⟨_, _, rfl, rfl, rfl, rfl, id, rfl⟩, ⟨_, _, rfl, rfl, rfl, rfl, id, rfl⟩, ⟨_, _, rfl, rfl, rfl, rfl, id, rfl⟩, ⟨_, _, rfl, rfl, rfl, rfl, id, rfl⟩, ⟨_, _, rfl, rfl, rfl, rfl, id, rfl⟩, ⟨_, _, rfl, rfl, rfl, rfl, id, rfl⟩, ⟨_, _, rfl, rfl, rfl, rfl, id, rfl⟩, ⟨_, _, rfl, rfl, rfl, rfl, id, rfl⟩, ⟨_, _, rfl, rfl, rfl, rfl, id, rfl⟩, ⟨_, _, rfl, rfl, rfl, rfl, id, rfl⟩, ⟨_, _, rfl, rfl, rfl, rfl, id, rfl⟩, ⟨_, _, rfl, rfl, rfl, rfl, id, rfl⟩, ⟨_, _, rfl, rfl, rfl, rfl, id, rfl⟩, ⟨_, _, rfl, rfl, rfl, rfl, id, rfl⟩, ⟨_, _, rfl, rfl, rfl, rfl, id, rfl⟩, ⟨_, _, rfl, rfl, rfl, rfl, id, rfl⟩, ⟨_, _, rfl, rfl, rfl, rfl, id, rfl⟩, ⟨_, _, rfl, rfl, rfl, rfl, id, rfl⟩, ⟨_, _, rfl, rfl, rfl, rfl, id, rfl⟩, ⟨_, _, rfl, rfl, rfl, rfl, id, rfl⟩, ⟨_, _, rfl, rfl, rfl, rfl, id, rfl⟩, ⟨_, _, rfl, rfl, rfl, rfl, id, rfl⟩, ⟨_, _, rfl, rfl, rfl, rfl, id, rfl⟩, ⟨_, _, rfl, rfl, rfl, rfl, id, rfl⟩, ⟨_, _, rfl, rfl, rfl, rfl, id, rfl⟩, ⟨_, _, rfl, rfl, cut_ren _ o l, rfl, id, cut_nm _ o l⟩, trivial⟩⟩
       ·skip
        refine .no ⟨_, rfl, rfl⟩ rfl ?_
        refine .no ⟨_, rfl, rfl⟩ rfl ?_
        refine .q (op_pick_false rfl rfl rfl) ⟨_, rfl, rfl⟩ rfl ?_
        refine .q (op_pick_false rfl rfl rfl) trivial rfl ?_
        refine .nil ?_
        show Ev _ _ _ _ _
        refine .cond_false rfl rfl ?_
        refine .skip ?_
        show Ev _ _ _ _ _
        refine .seq ?_
        refine .region ?_
        refine .q (op_move rfl) trivial rfl ?_
        refine .q (op_move rfl) trivial rfl ?_
        refine .as (.str (feedD q.h (q.r.take (min (cN l q.i q.r) q.r.length))).2) (congrArg AV.str (feedR_ok (bne_eq_false_iff_eq.1 hc60))) ?_
        refine .q (op_addS rfl rfl (by have h9 := q.got_le (min (cN l q.i q.r) q.r.length); rw [List.length_take] at h9; omega)) trivial rfl ?_
        refine .q (op_assign rfl) trivial rfl ?_
        refine .nil ?_
        show Ev _ _ _ _ _
        refine .region ?_
        refine .q (op_move rfl) trivial rfl ?_
        refine .q (op_move rfl) trivial rfl ?_
        refine .q (ap_slice_str_lo Tryd.underlying9 rfl (bnd_some rfl (l := (min (cN l q.i q.r) q.r.length)) rfl) (by omega)) trivial rfl ?_
        refine .q (op_assign rfl) trivial rfl ?_
        refine .nil ?_
        show Ev _ _ _ _ _
        refine .region ?_
        refine .q (op_move rfl) trivial rfl ?_
        refine .q (op_addI rfl rfl ⟨by omega, by omega⟩) trivial rfl ?_
        refine .q (op_assign rfl) trivial rfl ?_
        refine .nil ?_
        exact ⟨.inl ⟨q.step (min (cN l q.i q.r) q.r.length) hnp (Nat.min_le_right _ _) (bne_eq_false_iff_eq.1 hc60), hP⟩, (by show (q.r.drop (min (cN l q.i q.r) q.r.length)).length < q.r.length; rw [List.length_drop]; omega), StLe.mk [(1000, 1000), (1008, 1008)] rfl rfl ⟨⟨_, rfl, by first | rfl | (simp only [AV.ren]; congr 1; omega), rfl⟩, ⟨_, rfl, by first | rfl | (simp only [AV.ren]; congr 1; omega), rfl⟩, ⟨_, rfl, by first | rfl | (simp only [AV.ren]; congr 1; omega), rfl⟩, ⟨_, rfl, by first | rfl | (simp only [AV.ren]; congr 1; omega), rfl⟩, ⟨_, rfl, by first | rfl | (simp only [AV.ren]; congr 1; omega), rfl⟩, ⟨_, rfl, by first | rfl | (simp only [AV.ren]; congr 1; omega), rfl⟩, ⟨_, rfl, by first | rfl | (simp only [AV.ren]; congr 1; omega), rfl⟩, ⟨_, rfl, by first | rfl | (simp only [AV.ren]; congr 1; omega), rfl⟩, trivial⟩ ⟨⟨_, _, rfl, rfl, rfl, rfl, id, rfl⟩, ⟨_, _, rfl, rfl, rfl, rfl, id, rfl⟩, ⟨_, _, rfl, rfl, rfl, rfl, id, rfl⟩, ⟨_, _, rfl, rfl, rfl, rfl, id, rfl⟩, ⟨_, _, rfl, rfl, rfl, rfl, id, rfl⟩, ⟨_, _, rfl, rfl, rfl, rfl, id, rfl⟩, ⟨_, _, rfl, rfl, rfl, rfl, id, rfl⟩, ⟨_, _, rfl, rfl, rfl, rfl, id, rfl⟩, ⟨_, _, rfl, rfl, rfl, rfl, id, rfl⟩, ⟨_, _, rfl, rfl, rfl, rfl, id, rfl⟩, ⟨_, _, rfl, rfl, rfl, rfl, id, rfl⟩, ⟨_, _, rfl, rfl, rfl, rfl, id, rfl⟩, ⟨_, _, rfl, rfl, rfl, rfl, id, rfl⟩, ⟨_, _, rfl, rfl, rfl, rfl, id, rfl⟩, ⟨_, _, rfl, rfl, rfl, rfl, id, rfl⟩, ⟨_, _, rfl, rfl, rfl, rfl, id, rfl⟩, ⟨_, _, rfl, rfl, rfl, rfl, id, rfl⟩, ⟨_, _, rfl, rfl, rfl, rfl, id, rfl⟩, ⟨_, _, rfl, rfl, rfl, rfl, id, rfl⟩, ⟨_, _, rfl, rfl, rfl, rfl, id, rfl⟩, ⟨_, _, rfl, rfl, rfl, rfl, id, rfl⟩, ⟨_, _, rfl, rfl, rfl, rfl, id, rfl⟩, ⟨_, _, rfl, rfl, rfl, rfl, id, rfl⟩, ⟨_, _, rfl, rfl, rfl, rfl, id, rfl⟩, ⟨_, _, rfl, rfl, rfl, rfl, id, rfl⟩, ⟨_, _, rfl, rfl, rfl, rfl, id, rfl⟩, ⟨_, _, rfl, rfl, rfl, rfl, id, rfl⟩, ⟨_, _, rfl, rfl, rfl, rfl, id, rfl⟩, ⟨_, _, rfl, rfl, rfl, rfl, id, rfl⟩, ⟨_, _, rfl, rfl, rfl, rfl, id, rfl⟩, ⟨_, _, rfl, rfl, rfl, rfl, id, rfl⟩, ⟨_, _, rfl, rfl, rfl, rfl, id, rfl⟩, ⟨_, _, rfl, rfl, rfl, rfl, id, rfl⟩, ⟨_, _, rfl, rfl, rfl, rfl, id, rfl⟩, ⟨_, _, rfl, rfl, rfl, rfl, id, rfl⟩, ⟨_, _, rfl, rfl, rfl, rfl, id, rfl⟩, ⟨_, _, rfl, rfl, rfl, rfl, id, rfl⟩, ⟨_, _, rfl, rfl, rfl, rfl, id, rfl⟩, ⟨_, _, rfl, rfl, rfl, rfl, id, rfl⟩, ⟨_, _, rfl, rfl, rfl, rfl, id, rfl⟩, ⟨_, _, rfl, rfl, rfl, rfl, id, rfl⟩, ⟨_, _, rfl, rfl, rfl, rfl, id, rfl⟩, ⟨_, _, rfl, rfl, cut_ren _ o l, rfl, id, cut_nm _ o l⟩, trivial⟩⟩
      ·skip
       refine .no ⟨_, rfl, rfl⟩ rfl ?_
       refine .no ⟨_, rfl, rfl⟩ rfl ?_
       refine .no ⟨_, rfl, rfl⟩ rfl ?_
       refine .no ⟨_, rfl, rfl⟩ rfl ?_
       refine .no ⟨_, rfl, rfl⟩ rfl ?_
       refine .q (op_pick_false rfl rfl rfl) trivial rfl ?_
       refine .q (op_move rfl) trivial rfl ?_
       refine .q (op_move rfl) ⟨_, rfl, rfl⟩ rfl ?_
       refine .q (op_call (U := []) [(500, 1000)] [] (done_n (feedD q.h (q.r.take (min (cN l q.i q.r) q.r.length))).1 eo) Tryd.func30 (by kernel_rfl) rfl rfl rfl (⟨⟨_, rfl, rfl, rfl⟩, trivial⟩) (⟨⟨_, _, rfl, rfl, rfl, rfl, (fun h => by cases h), rfl⟩, trivial⟩) (trivial) (⟨(fun h => by cases h), trivial⟩) rfl) ⟨_, rfl, rfl⟩ rfl ?_
       refine .q (op_notB rfl) ⟨_, rfl, rfl⟩ rfl ?_
       refine .q (op_move rfl) ⟨_, rfl, rfl⟩ rfl ?_
       refine .split (fun hg99 => ?_) (fun hg99 => ?_)
       ·skip
        refine .q (op_move rfl) ⟨_, rfl, rfl⟩ rfl ?_
        refine .q (op_eqS rfl rfl rfl) ⟨_, rfl, rfl⟩ rfl ?_
        refine .q (op_pick_true rfl rfl rfl) ⟨_, rfl, rfl⟩ rfl ?_
        refine .q (op_pick_false rfl rfl rfl) trivial rfl ?_
        refine .nil ?_
        show Ev _ _ _ _ _
        refine .cond_false rfl (by first | rfl | exact bne_eq_false_iff_eq.2 (q.got_nil (min (cN l q.i q.r) q.r.length) (bne_eq_false_iff_eq.1 hc60) (nv_t hg99))) ?_
        refine .skip ?_
        show Ev _ _ _ _ _
        refine .seq ?_
        refine .region ?_
        refine .q (op_move rfl) trivial rfl ?_
        refine .q (op_move rfl) trivial rfl ?_
        refine .as (.str (feedD q.h (q.r.take (min (cN l q.i q.r) q.r.length))).2) (congrArg AV.str (feedR_ok (bne_eq_false_iff_eq.1 hc60))) ?_
        refine .q (op_addS rfl rfl (by have h9 := q.got_le (min (cN l q.i q.r) q.r.length); rw [List.length_take] at h9; omega)) trivial rfl ?_
        refine .q (op_assign rfl) trivial rfl ?_
        refine .nil ?_
        show Ev _ _ _ _ _
        refine .region ?_
        refine .q (op_move rfl) trivial rfl ?_
        refine .q (op_move rfl) trivial rfl ?_
        refine .q (ap_slice_str_lo Tryd.underlying9 rfl (bnd_some rfl (l := (min (cN l q.i q.r) q.r.length)) rfl) (by omega)) trivial rfl ?_
        refine .q (op_assign rfl) trivial rfl ?_
        refine .nil ?_
        show Ev _ _ _ _ _
        refine .region ?_
        refine .q (op_move rfl) trivial rfl ?_
        refine .q (op_addI rfl rfl ⟨by omega, by omega⟩) trivial rfl ?_
        refine .q (op_assign rfl) trivial rfl ?_
        refine .nil ?_
        exact ⟨.inl ⟨q.step (min (cN l q.i q.r) q.r.length) hnp (Nat.min_le_right _ _) (bne_eq_false_iff_eq.1 hc60), hP⟩, (by show (q.r.drop (min (cN l q.i q.r) q.r.length)).length < q.r.length; rw [List.length_drop]; omega), StLe.mk [(1000, 1000), (1008, 1008)] rfl rfl ⟨⟨_, rfl, by first | rfl | (simp only [AV.ren]; congr 1; omega), rfl⟩, ⟨_, rfl, by first | rfl | (simp only [AV.ren]; congr 1; omega), rfl⟩, ⟨_, rfl, by first | rfl | (simp only [AV.ren]; congr 1; omega), rfl⟩, ⟨_, rfl, by first | rfl | (simp only [AV.ren]; congr 1; omega), rfl⟩, ⟨_, rfl, by first | rfl | (simp only [AV.ren]; congr 1; omega), rfl⟩, ⟨_, rfl, by first | rfl | (simp only [AV.ren]; congr 1; omega), rfl⟩, ⟨_, rfl, by first | rfl | (simp only [AV.ren]; congr 1; omega), rfl⟩, ⟨_, rfl, by first | rfl | (simp only [AV.ren]; congr 1; omega), rfl⟩, trivial⟩ ⟨⟨_, _, rfl, rfl, rfl, rfl, id, rfl⟩, ⟨_, _, rfl, rfl, rfl, rfl, id, rfl⟩, ⟨_, _, rfl, rfl, rfl, rfl, id, rfl⟩, ⟨_, _, rfl, rfl, rfl, rfl, id, rfl⟩, ⟨_, _, rfl, rfl, rfl, rfl, id, rfl⟩, ⟨_, _, rfl, rfl, rfl, rfl, id, rfl⟩, ⟨_, _, rfl, rfl, rfl, rfl, id, rfl⟩, ⟨_, _, rfl, rfl, rfl, rfl, id, rfl⟩, ⟨_, _, rfl, rfl, rfl, rfl, id, rfl⟩, ⟨_, _, rfl, rfl, rfl, rfl, id, rfl⟩, ⟨_, _, rfl, rfl, rfl, rfl, id, rfl⟩, ⟨_, _, rfl, rfl, rfl, rfl, id, rfl⟩, ⟨_, _, rfl, rfl, rfl, rfl, id, rfl⟩, ⟨_, _, rfl, rfl, rfl, rfl, id, rfl⟩, ⟨_, _, rfl, rfl, rfl, rfl, id, rfl⟩, ⟨_, _, rfl, rfl, rfl, rfl, id, rfl⟩, ⟨_, _, rfl, rfl, rfl, rfl, id, rfl⟩, ⟨_, _, rfl, rfl, rfl, rfl, id, rfl⟩, ⟨_, _, rfl, rfl, rfl, rfl, id, rfl⟩, ⟨_, _, rfl, rfl, rfl, rfl, id, rfl⟩, ⟨_, _, rfl, rfl, rfl, rfl, id, rfl⟩, ⟨_, _, rfl, rfl, rfl, rfl, id, rfl⟩, ⟨_, _, rfl, rfl, rfl, rfl, id, rfl⟩, ⟨_, _, rfl, rfl, rfl, rfl, id, rfl⟩, ⟨_, _, rfl, rfl, rfl, rfl, id, rfl⟩, ⟨_, _, rfl, rfl, rfl, rfl, id, rfl⟩, ⟨_, _, rfl, rfl, rfl, rfl, id, rfl⟩, ⟨_, _, rfl, rfl, rfl, rfl, id, rfl⟩, ⟨_, _, rfl, rfl, rfl, rfl, id, rfl⟩, ⟨_, _, rfl, rfl, rfl, rfl, id, rfl⟩, ⟨_, _, rfl, rfl, rfl, rfl, id, rfl⟩, ⟨_, _, rfl, rfl, rfl, rfl, id, rfl⟩, ⟨_, _, rfl, rfl, rfl, rfl, id, rfl⟩, ⟨_, _, rfl, rfl, rfl, rfl, id, rfl⟩, ⟨_, _, rfl, rfl, rfl, rfl, id, rfl⟩, ⟨_, _, rfl, rfl, rfl, rfl, id, rfl⟩, ⟨_, _, rfl, rfl, rfl, rfl, id, rfl⟩, ⟨_, _, rfl, rfl, rfl, rfl, id, rfl⟩, ⟨_, _, rfl, rfl, rfl, rfl, id, rfl⟩, ⟨_, _, rfl, rfl, rfl, rfl, id, rfl⟩, ⟨_, _, rfl, rfl, rfl, rfl, id, rfl⟩, ⟨_, _, rfl, rfl, rfl, rfl, id, rfl⟩, ⟨_, _, rfl, rfl, cut_ren _ o l, rfl, id, cut_nm _ o l⟩, trivial⟩⟩
       ·skip
        refine .no ⟨_, rfl, rfl⟩ rfl ?_
        refine .no ⟨_, rfl, rfl⟩ rfl ?_
        refine .q (op_pick_false rfl rfl rfl) ⟨_, rfl, rfl⟩ rfl ?_
        refine .q (op_pick_false rfl rfl rfl) trivial rfl ?_
        refine .nil ?_
        show Ev _ _ _ _ _
        refine .cond_false rfl rfl ?_
        refine .skip ?_
        show Ev _ _ _ _ _
        refine .seq ?_
        refine .region ?_
        refine .q (op_move rfl) trivial rfl ?_
        refine .q (op_move rfl) trivial rfl ?_
        refine .as (.str (feedD q.h (q.r.take (min (cN l q.i q.r) q.r.length))).2) (congrArg AV.str (feedR_ok (bne_eq_false_iff_eq.1 hc60))) ?_
        refine .q (op_addS rfl rfl (by have h9 := q.got_le (min (cN l q.i q.r) q.r.length); rw [List.length_take] at h9; omega)) trivial rfl ?_
        refine .q (op_assign rfl) trivial rfl ?_
        refine .nil ?_
        show Ev _ _ _ _ _
        refine .region ?_
        refine .q (op_move rfl) trivial rfl ?_
        refine .q (op_move rfl) trivial rfl ?_
        refine .q (ap_slice_str_lo Tryd.underlying9 rfl (bnd_some rfl (l := (min (cN l q.i q.r) q.r.length)) rfl) (by omega)) trivial rfl ?_
        refine .q (op_assign rfl) trivial rfl ?_
        refine .nil ?_
        show Ev _ _ _ _ _
        refine .region ?_
        refine .q (op_move rfl) trivial rfl ?_
        refine .q (op_addI rfl rfl ⟨by omega, by omega⟩) trivial rfl ?_
        refine .q (op_assign rfl) trivial rfl ?_
        refine .nil ?_
        exact ⟨.inl ⟨q.step (min (cN l q.i q.r) q.r.length) hnp (Nat.min_le_right _ _) (bne_eq_false_iff_eq.1 hc60), hP⟩, (by show (q.r.drop (min (cN l q.i q.r) q.r.length)).length < q.r.length; rw [List.length_drop]; omega), StLe.mk [(1000, 1000), (1008, 1008)] rfl rfl ⟨⟨_, rfl, by first | rfl | (simp only [AV.ren]; congr 1; omega), rfl⟩, ⟨_, rfl, by first | rfl | (simp only [AV.ren]; congr 1; omega), rfl⟩, ⟨_, rfl, by first | rfl | (simp only [AV.ren]; congr 1; omega), rfl⟩, ⟨_, rfl, by first | rfl | (simp only [AV.ren]; congr 1; omega), rfl⟩, ⟨_, rfl, by first | rfl | (simp only [AV.ren]; congr 1; omega), rfl⟩, ⟨_, rfl, by first | rfl | (simp only [AV.ren]; congr 1; omega), rfl⟩, ⟨_, rfl, by first | rfl | (simp only [AV.ren]; congr 1; omega), rfl⟩, ⟨_, rfl, by first | rfl | (simp only [AV.ren]; congr 1; omega), rfl⟩, trivial⟩ ⟨⟨_, _, rfl, rfl, rfl, rfl, id, rfl⟩, ⟨_, _, rfl, rfl, rfl, rfl, id, rfl⟩, ⟨_, _, rfl, rfl, rfl, rfl, id, rfl⟩, ⟨_, _, rfl, rfl, rfl, rfl, id, rfl⟩, ⟨_, _, rfl, rfl, rfl, rfl, id, rfl⟩, ⟨_, _, rfl, rfl, rfl, rfl, id, rfl⟩, ⟨_, _, rfl, rfl, rfl, rfl, id, rfl⟩, ⟨_, _, rfl, rfl, rfl, rfl, id, rfl⟩, ⟨_, _, rfl, rfl, rfl, rfl, id, rfl⟩, ⟨_, _, rfl, rfl, rfl, rfl, id, rfl⟩, ⟨_, _, rfl, rfl, rfl, rfl, id, rfl⟩, ⟨_, _, rfl, rfl, rfl, rfl, id, rfl⟩, ⟨_, _, rfl, rfl, rfl, rfl, id, rfl⟩, ⟨_, _, rfl, rfl, rfl, rfl, id, rfl⟩, ⟨_, _, rfl, rfl, rfl, rfl, id, rfl⟩, ⟨_, _, rfl, rfl, rfl, rfl, id, rfl⟩, ⟨_, _, rfl, rfl, rfl, rfl, id, rfl⟩, ⟨_, _, rfl, rfl, rfl, rfl, id, rfl⟩, ⟨_, _, rfl, rfl, rfl, rfl, id, rfl⟩, ⟨_, _, rfl, rfl, rfl, rfl, id, rfl⟩, ⟨_, _, rfl, rfl, rfl, rfl, id, rfl⟩, ⟨_, _, rfl, rfl, rfl, rfl, id, rfl⟩, ⟨_, _, rfl, rfl, rfl, rfl, id, rfl⟩, ⟨_, _, rfl, rfl, rfl, rfl, id, rfl⟩, ⟨_, _, rfl, rfl, rfl, rfl, id, rfl⟩, ⟨_, _, rfl, rfl, rfl, rfl, id, rfl⟩, ⟨_, _, rfl, rfl, rfl, rfl, id, rfl⟩, ⟨_, _, rfl, rfl, rfl, rfl, id, rfl⟩, ⟨_, _, rfl, rfl, rfl, rfl, id, rfl⟩, ⟨_, _, rfl, rfl, rfl, rfl, id, rfl⟩, ⟨_, _, rfl, rfl, rfl, rfl, id, rfl⟩, ⟨_, _, rfl, rfl, rfl, rfl, id, rfl⟩, ⟨_, _, rfl, rfl, rfl, rfl, id, rfl⟩, ⟨_, _, rfl, rfl, rfl, rfl, id, rfl⟩, ⟨_, _, rfl, rfl, rfl, rfl, id, rfl⟩, ⟨_, _, rfl, rfl, rfl, rfl, id, rfl⟩, ⟨_, _, rfl, rfl, rfl, rfl, id, rfl⟩, ⟨_, _, rfl, rfl, rfl, rfl, id, rfl⟩, ⟨_, _, rfl, rfl, rfl, rfl, id, rfl⟩, ⟨_, _, rfl, rfl, rfl, rfl, id, rfl⟩, ⟨_, _, rfl, rfl, rfl, rfl, id, rfl⟩, ⟨_, _, rfl, rfl, rfl, rfl, id, rfl⟩, ⟨_, _, rfl, rfl, cut_ren _ o l, rfl, id, cut_nm _ o l⟩, trivial⟩⟩
    ·refine .a (op_call (U := [(1000, some ⟨.agg [.bool ((feedD q.h (q.r.take (min (cN l q.i q.r) q.r.length))).1).c, .sl 1024 0 (feedD q.h (q.r.take (min (cN l q.i q.r) q.r.length))).1.p.length 1, .i64 ((((feedD q.h (q.r.take (min (cN l q.i q.r) q.r.length))).1).g : Nat) : Int), .str ((feedD q.h (q.r.take (min (cN l q.i q.r) q.r.length))).1).v, .err 225 (((feedD q.h (q.r.take (min (cN l q.i q.r) q.r.length))).1).e) (offE eo (((feedD q.h (q.r.take (min (cN l q.i q.r) q.r.length))).1).e))], 115, true⟩), (1024, some ⟨.aggB (feedD q.h (q.r.take (min (cN l q.i q.r) q.r.length))).1.p, 5, true⟩)]) [(500, 1000)] [(1024, 1000)] (feed_ns q.h (q.r.take (min (cN l q.i q.r) q.r.length)) q.fine hq (by rw [List.length_take]; omega) hP eo) Tryd.func31 (by kernel_rfl) rfl rfl rfl (⟨⟨_, rfl, rfl, rfl⟩, ⟨_, rfl, rfl, rfl⟩, trivial⟩) (⟨⟨_, _, rfl, rfl, rfl, rfl, id, rfl⟩, ⟨_, _, rfl, rfl, rfl, rfl, (fun h => by cases h), rfl⟩, ⟨_, _, rfl, rfl, rfl, rfl, (fun h => by cases h), rfl⟩, ⟨_, _, rfl, rfl, rfl, rfl, (fun h => by cases h), rfl⟩, trivial⟩) (⟨⟨500, _, rfl, rfl, rfl, rfl, .inr ⟨rfl, _, rfl, rfl⟩⟩, ⟨1000, _, rfl, rfl, rfl, rfl, .inl rfl⟩, trivial⟩) (⟨(fun _ => ⟨1000, _, rfl, rfl⟩), (fun h => by cases h), (fun h => by cases h), (fun h => by cases h), trivial⟩) rfl) trivial rfl ?_
     refine .q (op_move rfl) trivial rfl ?_
     refine .q (op_extract rfl rfl) trivial rfl ?_
     refine .q (op_extract rfl rfl) trivial rfl ?_
     refine .q (op_assign rfl) trivial rfl ?_
     refine .q (op_assign rfl) trivial rfl ?_
     refine .nil ?_
     show Ev _ _ _ _ _
     refine .seq ?_
     refine .seq ?_
     refine .region ?_
     refine .q (op_move rfl) trivial rfl ?_
     refine .q (op_eqErrNil (e := (feedD q.h (q.r.take (min (cN l q.i q.r) q.r.length))).1.e) Tryd.underlying26 rfl rfl) trivial rfl ?_
     refine .nil ?_
     show Ev _ _ _ _ _
     refine .cond_false rfl (bne_eq_false_iff_eq.2 (Classical.byContradiction fun he => hP (q.err (min (cN l q.i q.r) q.r.length) he).2.2)) ?_
     refine .skip ?_
     show Ev _ _ _ _ _
     refine .seq ?_
     refine .seq ?_
     refine .region ?_
     refine .q (op_move rfl) trivial rfl ?_
     refine .q (op_move rfl) trivial rfl ?_
     refine .split (fun hg88 => ?_) (fun hg88 => ?_)
     ·skip
      refine .q (op_move rfl) ⟨_, rfl, rfl⟩ rfl ?_
      refine .q (op_move rfl) ⟨_, rfl, rfl⟩ rfl ?_
      refine .q (op_move rfl) ⟨_, rfl, rfl⟩ rfl ?_
      refine .q (ap_slice_str_hi Tryd.underlying9 rfl (bnd_some rfl (l := (min (cN l q.i q.r) q.r.length)) rfl) (by omega)) ⟨_, rfl, rfl⟩ rfl ?_
      refine .q (op_eqS rfl rfl rfl) ⟨_, rfl, rfl⟩ rfl ?_
      refine .q (op_pick_true rfl rfl rfl) trivial rfl ?_
      refine .q (op_move rfl) trivial rfl ?_
      refine .know (b' := false) (by first | rfl | exact bne_eq_false_iff_eq.2 (q.got_same (min (cN l q.i q.r) q.r.length) (bne_iff_ne.1 hg88))) ?_
      refine .q (op_move rfl) ⟨_, rfl, rfl⟩ rfl ?_
      refine .q (op_call (U := []) [(500, 1000), (501, 1024)] [] (done_s (feedD q.h (q.r.take (min (cN l q.i q.r) q.r.length))).1 eo) Tryd.func30 (by kernel_rfl) rfl rfl rfl (⟨⟨_, rfl, rfl, rfl⟩, trivial⟩) (⟨⟨_, _, rfl, rfl, rfl, rfl, (fun h => by cases h), rfl⟩, trivial⟩) (trivial) (⟨(fun h => by cases h), trivial⟩) rfl) ⟨_, rfl, rfl⟩ rfl ?_
      refine .q (op_notB rfl) ⟨_, rfl, rfl⟩ rfl ?_
      refine .q (op_move rfl) ⟨_, rfl, rfl⟩ rfl ?_
      refine .split (fun hg99 => ?_) (fun hg99 => ?_)
      ·skip
       refine .q (op_move rfl) ⟨_, rfl, rfl⟩ rfl ?_
       refine .q (op_eqS rfl rfl rfl) ⟨_, rfl, rfl⟩ rfl ?_
       refine .q (op_pick_true rfl rfl rfl) ⟨_, rfl, rfl⟩ rfl ?_
       refine .q (op_pick_false rfl rfl rfl) trivial rfl ?_
       refine .nil ?_
       show Ev _ _ _ _ _
       refine .cond_false rfl (by first | rfl | exact bne_eq_false_iff_eq.2 (q.got_nil (min (cN l q.i q.r) q.r.length) (Classical.byContradiction fun he => hP (q.err (min (cN l q.i q.r) q.r.length) he).2.2) (nv_t hg99))) ?_
       refine .skip ?_
       show Ev _ _ _ _ _
       refine .seq ?_
       refine .region ?_
       refine .q (op_move rfl) trivial rfl ?_
       refine .q (op_move rfl) trivial rfl ?_
       refine .as (.str (feedD q.h (q.r.take (min (cN l q.i q.r) q.r.length))).2) (congrArg AV.str (feedR_ok (Classical.byContradiction fun he => hP (q.err (min (cN l q.i q.r) q.r.length) he).2.2))) ?_
       refine .q (op_addS rfl rfl (by have h9 := q.got_le (min (cN l q.i q.r) q.r.length); rw [List.length_take] at h9; omega)) trivial rfl ?_
       refine .q (op_assign rfl) trivial rfl ?_
       refine .nil ?_
       show Ev _ _ _ _ _
       refine .region ?_
       refine .q (op_move rfl) trivial rfl ?_
       refine .q (op_move rfl) trivial rfl ?_
       refine .q (ap_slice_str_lo Tryd.underlying9 rfl (bnd_some rfl (l := (min (cN l q.i q.r) q.r.length)) rfl) (by omega)) trivial rfl ?_
       refine .q (op_assign rfl) trivial rfl ?_
       refine .nil ?_
       show Ev _ _ _ _ _
       refine .region ?_
       refine .q (op_move rfl) trivial rfl ?_
       refine .q (op_addI rfl rfl ⟨by omega, by omega⟩) trivial rfl ?_
       refine .q (op_assign rfl) trivial rfl ?_
       refine .nil ?_
       exact ⟨.inr ⟨q.step (min (cN l q.i q.r) q.r.length) hnp (Nat.min_le_right _ _) (Classical.byContradiction fun he => hP (q.err (min (cN l q.i q.r) q.r.length) he).2.2), hP⟩, (by show (q.r.drop (min (cN l q.i q.r) q.r.length)).length < q.r.length; rw [List.length_drop]; omega), StLe.mk [(1000, 1000), (1008, 1008), (1016, 1024)] rfl rfl ⟨⟨_, rfl, by first | rfl | (simp only [AV.ren]; congr 1; omega), rfl⟩, ⟨_, rfl, by first | rfl | (simp only [AV.ren]; congr 1; omega), rfl⟩, ⟨_, rfl, by first | rfl | (simp only [AV.ren]; congr 1; omega), rfl⟩, ⟨_, rfl, by first | rfl | (simp only [AV.ren]; congr 1; omega), rfl⟩, ⟨_, rfl, by first | rfl | (simp only [AV.ren]; congr 1; omega), rfl⟩, ⟨_, rfl, by first | rfl | (simp only [AV.ren]; congr 1; omega), rfl⟩, ⟨_, rfl, by first | rfl | (simp only [AV.ren]; congr 1; omega), rfl⟩, ⟨_, rfl, by first | rfl | (simp only [AV.ren]; congr 1; omega), rfl⟩, trivial⟩ ⟨⟨_, _, rfl, rfl, rfl, rfl, id, rfl⟩, ⟨_, _, rfl, rfl, rfl, rfl, id, rfl⟩, ⟨_, _, rfl, rfl, rfl, rfl, id, rfl⟩, ⟨_, _, rfl, rfl, rfl, rfl, id, rfl⟩, ⟨_, _, rfl, rfl, rfl, rfl, id, rfl⟩, ⟨_, _, rfl, rfl, rfl, rfl, id, rfl⟩, ⟨_, _, rfl, rfl, rfl, rfl, id, rfl⟩, ⟨_, _, rfl, rfl, rfl, rfl, id, rfl⟩, ⟨_, _, rfl, rfl, rfl, rfl, id, rfl⟩, ⟨_, _, rfl, rfl, rfl, rfl, id, rfl⟩, ⟨_, _, rfl, rfl, rfl, rfl, id, rfl⟩, ⟨_, _, rfl, rfl, rfl, rfl, id, rfl⟩, ⟨_, _, rfl, rfl, rfl, rfl, id, rfl⟩, ⟨_, _, rfl, rfl, rfl, rfl, id, rfl⟩, ⟨_, _, rfl, rfl, rfl, rfl, id, rfl⟩, ⟨_, _, rfl, rfl, rfl, rfl, id, rfl⟩, ⟨_, _, rfl, rfl, rfl, rfl, id, rfl⟩, ⟨_, _, rfl, rfl, rfl, rfl, id, rfl⟩, ⟨_, _, rfl, rfl, rfl, rfl, id, rfl⟩, ⟨_, _, rfl, rfl, rfl, rfl, id, rfl⟩, ⟨_, _, rfl, rfl, rfl, rfl, id, rfl⟩, ⟨_, _, rfl, rfl, rfl, rfl, id, rfl⟩, ⟨_, _, rfl, rfl, rfl, rfl, id, rfl⟩, ⟨_, _, rfl, rfl, rfl, rfl, id, rfl⟩, ⟨_, _, rfl, rfl, rfl, rfl, id, rfl⟩, ⟨_, _, rfl, rfl, rfl, rfl, id, rfl⟩, ⟨_, _, rfl, rfl, rfl, rfl, id, rfl⟩, ⟨_, _, rfl, rfl, rfl, rfl, id, rfl⟩, ⟨_, _, rfl, rfl, rfl, rfl, id, rfl⟩, ⟨_, _, rfl, rfl, rfl, rfl, id, rfl⟩, ⟨_, _, rfl, rfl, rfl, rfl, id, rfl⟩, ⟨_, _, rfl, rfl, rfl, rfl, id, rfl⟩, ⟨_, _, rfl, rfl, rfl, rfl, id, rfl⟩, ⟨_, _, rfl, rfl, rfl, rfl, id, rfl⟩, ⟨_, _, rfl, rfl, rfl, rfl, id, rfl⟩, ⟨_, _, rfl, rfl, rfl, rfl, id, rfl⟩, ⟨_, _, rfl, rfl, rfl, rfl, id, rfl⟩, ⟨_, _, rfl, rfl, rfl, rfl, id, rfl⟩, ⟨_, _, rfl, rfl, rfl, rfl, id, rfl⟩, ⟨_, _, rfl, rfl, rfl, rfl, id, rfl⟩, ⟨_, _, rfl, rfl, rfl, rfl, id, rfl⟩, ⟨_, _, rfl, rfl, rfl, rfl, id, rfl⟩, ⟨_, _, rfl, rfl, rfl, rfl, id, rfl⟩, ⟨_, _, rfl, rfl, cut_ren _ o l, rfl, id, cut_nm _ o l⟩, trivial⟩⟩
      ·skip
       refine .no ⟨_, rfl, rfl⟩ rfl ?_
       refine .no ⟨_, rfl, rfl⟩ rfl ?_
       refine .q (op_pick_false rfl rfl rfl) ⟨_, rfl, rfl⟩ rfl ?_
       refine .q (op_pick_false rfl rfl rfl) trivial rfl ?_
       refine .nil ?_
       show Ev _ _ _ _ _
       refine .cond_false rfl rfl ?_
       refine .skip ?_
       show Ev _ _ _ _ _
       refine .seq ?_
       refine .region ?_
       refine .q (op_move rfl) trivial rfl ?_
       refine .q (op_move rfl) trivial rfl ?_
       refine .as (.str (feedD q.h (q.r.take (min (cN l q.i q.r) q.r.length))).2) (congrArg AV.str (feedR_ok (Classical.byContradiction fun he => hP (q.err (min (cN l q.i q.r) q.r.length) he).2.2))) ?_
       refine .q (op_addS rfl rfl (by have h9 := q.got_le (min (cN l q.i q.r) q.r.length); rw [List.length_take] at h9; omega)) trivial rfl ?_
       refine .q (op_assign rfl) trivial rfl ?_
       refine .nil ?_
       show Ev _ _ _ _ _
       refine .region ?_
       refine .q (op_move rfl) trivial rfl ?_
       refine .q (op_move rfl) trivial rfl ?_
       refine .q (ap_slice_str_lo Tryd.underlying9 rfl (bnd_some rfl (l := (min (cN l q.i q.r) q.r.length)) rfl) (by omega)) trivial rfl ?_
       refine .q (op_assign rfl) trivial rfl ?_
       refine .nil ?_
       show Ev _ _ _ _ _
       refine .region ?_
       refine .q (op_move rfl) trivial rfl ?_
       refine .q (op_addI rfl rfl ⟨by omega, by omega⟩) trivial rfl ?_
       refine .q (op_assign rfl) trivial rfl ?_
       refine .nil ?_
       exact ⟨.inr ⟨q.step (min (cN l q.i q.r) q.r.length) hnp (Nat.min_le_right _ _) (Classical.byContradiction fun he => hP (q.err (min (cN l q.i q.r) q.r.length) he).2.2), hP⟩, (by show (q.r.drop (min (cN l q.i q.r) q.r.length)).length < q.r.length; rw [List.length_drop]; omega), StLe.mk [(1000, 1000), (1008, 1008), (1016, 1024)] rfl rfl ⟨⟨_, rfl, by first | rfl | (simp only [AV.ren]; congr 1; omega), rfl⟩, ⟨_, rfl, by first | rfl | (simp only [AV.ren]; congr 1; omega), rfl⟩, ⟨_, rfl, by first | rfl | (simp only [AV.ren]; congr 1; omega), rfl⟩, ⟨_, rfl, by first | rfl | (simp only [AV.ren]; congr 1; omega), rfl⟩, ⟨_, rfl, by first | rfl | (simp only [AV.ren]; congr 1; omega), rfl⟩, ⟨_, rfl, by first | rfl | (simp only [AV.ren]; congr 1; omega), rfl⟩, ⟨_, rfl, by first | rfl | (simp only [AV.ren]; congr 1; omega), rfl⟩, ⟨_, rfl, by first | rfl | (simp only [AV.ren]; congr 1; omega), rfl⟩, trivial⟩ ⟨⟨_, _, rfl, rfl, rfl, rfl, id, rfl⟩, ⟨_, _, rfl, rfl, rfl, rfl, id, rfl⟩, ⟨_, _, rfl, rfl, rfl, rfl, id, rfl⟩, ⟨_, _, rfl, rfl, rfl, rfl, id, rfl⟩, ⟨_, _, rfl, rfl, rfl, rfl, id, rfl⟩, ⟨_, _, rfl, rfl, rfl, rfl, id, rfl⟩, ⟨_, _, rfl, rfl, rfl, rfl, id, rfl⟩, ⟨_, _, rfl, rfl, rfl, rfl, id, rfl⟩, ⟨_, _, rfl, rfl, rfl, rfl, id, rfl⟩, ⟨_, _, rfl, rfl, rfl, rfl, id, rfl⟩, ⟨_, _, rfl, rfl, rfl, rfl, id, rfl⟩, ⟨_, _, rfl, rfl, rfl, rfl, id, rfl⟩, ⟨_, _, rfl, rfl, rfl, rfl, id, rfl⟩, ⟨_, _, rfl, rfl, rfl, rfl, id, rfl⟩, ⟨_, _, rfl, rfl, rfl, rfl, id, rfl⟩, ⟨_, _, rfl, rfl, rfl, rfl, id, rfl⟩, ⟨_, _, rfl, rfl, rfl, rfl, id, rfl⟩, ⟨_, _, rfl, rfl, rfl, rfl, id, rfl⟩, ⟨_, _, rfl, rfl, rfl, rfl, id, rfl⟩, ⟨_, _, rfl, rfl, rfl, rfl, id, rfl⟩, ⟨_, _, rfl, rfl, rfl, rfl, id, rfl⟩, ⟨_, _, rfl, rfl, rfl, rfl, id, rfl⟩, ⟨_, _, rfl, rfl, rfl, rfl, id, rfl⟩, ⟨_, _, rfl, rfl, rfl, rfl, id, rfl⟩, ⟨_, _, rfl, rfl, rfl, rfl, id, rfl⟩, ⟨_, _, rfl, rfl, rfl, rfl, id, rfl⟩, ⟨_, _, rfl, rfl, rfl, rfl, id, rfl⟩, ⟨_, _, rfl, rfl, rfl, rfl, id, rfl⟩, ⟨_, _, rfl, rfl, rfl, rfl, id, rfl⟩, ⟨_, _, rfl, rfl, rfl, rfl, id, rfl⟩, ⟨_, _, rfl, rfl, rfl, rfl, id, rfl⟩, ⟨_, _, rfl, rfl, rfl, rfl, id, rfl⟩, ⟨_, _, rfl, rfl, rfl, rfl, id, rfl⟩, ⟨_, _, rfl, rfl, rfl, rfl, id, rfl⟩, ⟨_, _, rfl, rfl, rfl, rfl, id, rfl⟩, ⟨_, _, rfl, rfl, rfl, rfl, id, rfl⟩, ⟨_, _, rfl, rfl, rfl, rfl, id, rfl⟩, ⟨_, _, rfl, rfl, rfl, rfl, id, rfl⟩, ⟨_, _, rfl, rfl, rfl, rfl, id, rfl⟩, ⟨_, _, rfl, rfl, rfl, rfl, id, rfl⟩, ⟨_, _, rfl, rfl, rfl, rfl, id, rfl⟩, ⟨_, _, rfl, rfl, rfl, rfl, id, rfl⟩, ⟨_, _, rfl, rfl, rfl, rfl, id, rfl⟩, ⟨_, _, rfl, rfl, cut_ren _ o l, rfl, id, cut_nm _ o l⟩, trivial⟩⟩
     ·skip
      refine .no ⟨_, rfl, rfl⟩ rfl ?_
      refine .no ⟨_, rfl, rfl⟩ rfl ?_
      refine .no ⟨_, rfl, rfl⟩ rfl ?_
      refine .no ⟨_, rfl, rfl⟩ rfl ?_
      refine .no ⟨_, rfl, rfl⟩ rfl ?_
      refine .q (op_pick_false rfl rfl rfl) trivial rfl ?_
      refine .q (op_move rfl) trivial rfl ?_
      refine .q (op_move rfl) ⟨_, rfl, rfl⟩ rfl ?_
      refine .q (op_call (U := []) [(500, 1000), (501, 1024)] [] (done_s (feedD q.h (q.r.take (min (cN l q.i q.r) q.r.length))).1 eo) Tryd.func30 (by kernel_rfl) rfl rfl rfl (⟨⟨_, rfl, rfl, rfl⟩, trivial⟩) (⟨⟨_, _, rfl, rfl, rfl, rfl, (fun h => by cases h), rfl⟩, trivial⟩) (trivial) (⟨(fun h => by cases h), trivial⟩) rfl) ⟨_, rfl, rfl⟩ rfl ?_
      refine .q (op_notB rfl) ⟨_, rfl, rfl⟩ rfl ?_
      refine .q (op_move rfl) ⟨_, rfl, rfl⟩ rfl ?_
      refine .split (fun hg99 => ?_) (fun hg99 => ?_)
      ·skip
       refine .q (op_move rfl) ⟨_, rfl, rfl⟩ rfl ?_
       refine .q (op_eqS rfl rfl rfl) ⟨_, rfl, rfl⟩ rfl ?_
       refine .q (op_pick_true rfl rfl rfl) ⟨_, rfl, rfl⟩ rfl ?_
       refine .q (op_pick_false rfl rfl rfl) trivial rfl ?_
       refine .nil ?_
       show Ev _ _ _ _ _
       refine .cond_false rfl (by first | rfl | exact bne_eq_false_iff_eq.2 (q.got_nil (min (cN l q.i q.r) q.r.length) (Classical.byContradiction fun he => hP (q.err (min (cN l q.i q.r) q.r.length) he).2.2) (nv_t hg99))) ?_
       refine .skip ?_
       show Ev _ _ _ _ _
       refine .seq ?_
       refine .region ?_
       refine .q (op_move rfl) trivial rfl ?_
       refine .q (op_move rfl) trivial rfl ?_
       refine .as (.str (feedD q.h (q.r.take (min (cN l q.i q.r) q.r.length))).2) (congrArg AV.str (feedR_ok (Classical.byContradiction fun he => hP (q.err (min (cN l q.i q.r) q.r.length) he).2.2))) ?_
       refine .q (op_addS rfl rfl (by have h9 := q.got_le (min (cN l q.i q.r) q.r.length); rw [List.length_take] at h9; omega)) trivial rfl ?_
       refine .q (op_assign rfl) trivial rfl ?_
       refine .nil ?_
       show Ev _ _ _ _ _
       refine .region ?_
       refine .q (op_move rfl) trivial rfl ?_
       refine .q (op_move rfl) trivial rfl ?_
       refine .q (ap_slice_str_lo Tryd.underlying9 rfl (bnd_some rfl (l := (min (cN l q.i q.r) q.r.length)) rfl) (by omega)) trivial rfl ?_
       refine .q (op_assign rfl) trivial rfl ?_
       refine .nil ?_
       show Ev _ _ _ _ _
       refine .region ?_
       refine .q (op_move rfl) trivial rfl ?_
       refine .q (op_addI rfl rfl ⟨by omega, by omega⟩) trivial rfl ?_
       refine .q (op_assign rfl) trivial rfl ?_
       refine .nil ?_
       exact ⟨.inr ⟨q.step (min (cN l q.i q.r) q.r.length) hnp (Nat.min_le_right _ _) (Classical.byContradiction fun he => hP (q.err (min (cN l q.i q.r) q.r.length) he).2.2), hP⟩, (by show (q.r.drop (min (cN l q.i q.r) q.r.length)).length < q.r.length; rw [List.length_drop]; omega), StLe.mk [(1000, 1000), (1008, 1008), (1016, 1024)] rfl rfl ⟨⟨_, rfl, by first | rfl | (simp only [AV.ren]; congr 1; omega), rfl⟩, ⟨_, rfl, by first | rfl | (simp only [AV.ren]; congr 1; omega), rfl⟩, ⟨_, rfl, by first | rfl | (simp only [AV.ren]; congr 1; omega), rfl⟩, ⟨_, rfl, by first | rfl | (simp only [AV.ren]; congr 1; omega), rfl⟩, ⟨_, rfl, by first | rfl | (simp only [AV.ren]; congr 1; omega), rfl⟩, ⟨_, rfl, by first | rfl | (simp only [AV.ren]; congr 1; omega), rfl⟩, ⟨_, rfl, by first | rfl | (simp only [AV.ren]; congr 1; omega), rfl⟩, ⟨_, rfl, by first | rfl | (simp only [AV.ren]; congr 1; omega), rfl⟩, trivial⟩ ⟨⟨_, _, rfl, rfl, rfl, rfl, id, rfl⟩, ⟨_, _, rfl, rfl, rfl, rfl, id, rfl⟩, ⟨_, _, rfl, rfl, rfl, rfl, id, rfl⟩, ⟨_, _, rfl, rfl, rfl, rfl, id, rfl⟩, ⟨_, _, rfl, rfl, rfl, rfl, id, rfl⟩, ⟨_, _, rfl, rfl, rfl, rfl, id, rfl⟩, ⟨_, _, rfl, rfl, rfl, rfl, id, rfl⟩, ⟨_, _, rfl, rfl, rfl, rfl, id, rfl⟩, ⟨_, _, rfl, rfl, rfl, rfl, id, rfl⟩, ⟨_, _, rfl, rfl, rfl, rfl, id, rfl⟩, ⟨_, _, rfl, rfl, rfl, rfl, id, rfl⟩, ⟨_, _, rfl, rfl, rfl, rfl, id, rfl⟩, ⟨_, _, rfl, rfl, rfl, rfl, id, rfl⟩, ⟨_, _, rfl, rfl, rfl, rfl, id, rfl⟩, ⟨_, _, rfl, rfl, rfl, rfl, id, rfl⟩, ⟨_, _, rfl, rfl, rfl, rfl, id, rfl⟩, ⟨_, _, rfl, rfl, rfl, rfl, id, rfl⟩, ⟨_, _, rfl, rfl, rfl, rfl, id, rfl⟩, ⟨_, _, rfl, rfl, rfl, rfl, id, rfl⟩, ⟨_, _, rfl, rfl, rfl, rfl, id, rfl⟩, ⟨_, _, rfl, rfl, rfl, rfl, id, rfl⟩, ⟨_, _, rfl, rfl, rfl, rfl, id, rfl⟩, ⟨_, _, rfl, rfl, rfl, rfl, id, rfl⟩, ⟨_, _, rfl, rfl, rfl, rfl, id, rfl⟩, ⟨_, _, rfl, rfl, rfl, rfl, id, rfl⟩, ⟨_, _, rfl, rfl, rfl, rfl, id, rfl⟩, ⟨_, _, rfl, rfl, rfl, rfl, id, rfl⟩, ⟨_, _, rfl, rfl, rfl, rfl, id, rfl⟩, ⟨_, _, rfl, rfl, rfl, rfl, id, rfl⟩, ⟨_, _, rfl, rfl, rfl, rfl, id, rfl⟩, ⟨_, _, rfl, rfl, rfl, rfl, id, rfl⟩, ⟨_, _, rfl, rfl, rfl, rfl, id, rfl⟩, ⟨_, _, rfl, rfl, rfl, rfl, id, rfl⟩, ⟨_, _, rfl, rfl, rfl, rfl, id, rfl⟩, ⟨_, _, rfl, rfl, rfl, rfl, id, rfl⟩, ⟨_, _, rfl, rfl, rfl, rfl, id, rfl⟩, ⟨_, _, rfl, rfl, rfl, rfl, id, rfl⟩, ⟨_, _, rfl, rfl, rfl, rfl, id, rfl⟩, ⟨_, _, rfl, rfl, rfl, rfl, id, rfl⟩, ⟨_, _, rfl, rfl, rfl, rfl, id, rfl⟩, ⟨_, _, rfl, rfl, rfl, rfl, id, rfl⟩, ⟨_, _, rfl, rfl, rfl, rfl, id, rfl⟩, ⟨_, _, rfl, rfl, rfl, rfl, id, rfl⟩, ⟨_, _, rfl, rfl, cut_ren _ o l, rfl, id, cut_nm _ o l⟩, trivial⟩⟩
      ·skip
       refine .no ⟨_, rfl, rfl⟩ rfl ?_
       refine .no ⟨_, rfl, rfl⟩ rfl ?_
       refine .q (op_pick_false rfl rfl rfl) ⟨_, rfl, rfl⟩ rfl ?_
       refine .q (op_pick_false rfl rfl rfl) trivial rfl ?_
       refine .nil ?_
       show Ev _ _ _ _ _
       refine .cond_false rfl rfl ?_
       refine .skip ?_
       show Ev _ _ _ _ _
       refine .seq ?_
       refine .region ?_
       refine .q (op_move rfl) trivial rfl ?_
       refine .q (op_move rfl) trivial rfl ?_
       refine .as (.str (feedD q.h (q.r.take (min (cN l q.i q.r) q.r.length))).2) (congrArg AV.str (feedR_ok (Classical.byContradiction fun he => hP (q.err (min (cN l q.i q.r) q.r.length) he).2.2))) ?_
       refine .q (op_addS rfl rfl (by have h9 := q.got_le (min (cN l q.i q.r) q.r.length); rw [List.length_take] at h9; omega)) trivial rfl ?_
       refine .q (op_assign rfl) trivial rfl ?_
       refine .nil ?_
       show Ev _ _ _ _ _
       refine .region ?_
       refine .q (op_move rfl) trivial rfl ?_
       refine .q (op_move rfl) trivial rfl ?_
       refine .q (ap_slice_str_lo Tryd.underlying9 rfl (bnd_some rfl (l := (min (cN l q.i q.r) q.r.length)) rfl) (by omega)) trivial rfl ?_
       refine .q (op_assign rfl) trivial rfl ?_
       refine .nil ?_
       show Ev _ _ _ _ _
       refine .region ?_
       refine .q (op_move rfl) trivial rfl ?_
       refine .q (op_addI rfl rfl ⟨by omega, by omega⟩) trivial rfl ?_
       refine .q (op_assign rfl) trivial rfl ?_
       refine .nil ?_
       exact ⟨.inr ⟨q.step (min (cN l q.i q.r) q.r.length) hnp (Nat.min_le_right _ _) (Classical.byContradiction fun he => hP (q.err (min (cN l q.i q.r) q.r.length) he).2.2), hP⟩, (by show (q.r.drop (min (cN l q.i q.r) q.r.length)).length < q.r.length; rw [List.length_drop]; omega), StLe.mk [(1000, 1000), (1008, 1008), (1016, 1024)] rfl rfl ⟨⟨_, rfl, by first | rfl | (simp only [AV.ren]; congr 1; omega), rfl⟩, ⟨_, rfl, by first | rfl | (simp only [AV.ren]; congr 1; omega), rfl⟩, ⟨_, rfl, by first | rfl | (simp only [AV.ren]; congr 1; omega), rfl⟩, ⟨_, rfl, by first | rfl | (simp only [AV.ren]; congr 1; omega), rfl⟩, ⟨_, rfl, by first | rfl | (simp only [AV.ren]; congr 1; omega), rfl⟩, ⟨_, rfl, by first | rfl | (simp only [AV.ren]; congr 1; omega), rfl⟩, ⟨_, rfl, by first | rfl | (simp only [AV.ren]; congr 1; omega), rfl⟩, ⟨_, rfl, by first | rfl | (simp only [AV.ren]; congr 1; omega), rfl⟩, trivial⟩ ⟨⟨_, _, rfl, rfl, rfl, rfl, id, rfl⟩, ⟨_, _, rfl, rfl, rfl, rfl, id, rfl⟩, ⟨_, _, rfl, rfl, rfl, rfl, id, rfl⟩, ⟨_, _, rfl, rfl, rfl, rfl, id, rfl⟩, ⟨_, _, rfl, rfl, rfl, rfl, id, rfl⟩, ⟨_, _, rfl, rfl, rfl, rfl, id, rfl⟩, ⟨_, _, rfl, rfl, rfl, rfl, id, rfl⟩, ⟨_, _, rfl, rfl, rfl, rfl, id, rfl⟩, ⟨_, _, rfl, rfl, rfl, rfl, id, rfl⟩, ⟨_, _, rfl, rfl, rfl, rfl, id, rfl⟩, ⟨_, _, rfl, rfl, rfl, rfl, id, rfl⟩, ⟨_, _, rfl, rfl, rfl, rfl, id, rfl⟩, ⟨_, _, rfl, rfl, rfl, rfl, id, rfl⟩, ⟨_, _, rfl, rfl, rfl, rfl, id, rfl⟩, ⟨_, _, rfl, rfl, rfl, rfl, id, rfl⟩, ⟨_, _, rfl, rfl, rfl, rfl, id, rfl⟩, ⟨_, _, rfl, rfl, rfl, rfl, id, rfl⟩, ⟨_, _, rfl, rfl, rfl, rfl, id, rfl⟩, ⟨_, _, rfl, rfl, rfl, rfl, id, rfl⟩, ⟨_, _, rfl, rfl, rfl, rfl, id, rfl⟩, ⟨_, _, rfl, rfl, rfl, rfl, id, rfl⟩, ⟨_, _, rfl, rfl, rfl, rfl, id, rfl⟩, ⟨_, _, rfl, rfl, rfl, rfl, id, rfl⟩, ⟨_, _, rfl, rfl, rfl, rfl, id, rfl⟩, ⟨_, _, rfl, rfl, rfl, rfl, id, rfl⟩, ⟨_, _, rfl, rfl, rfl, rfl, id, rfl⟩, ⟨_, _, rfl, rfl, rfl, rfl, id, rfl⟩, ⟨_, _, rfl, rfl, rfl, rfl, id, rfl⟩, ⟨_, _, rfl, rfl, rfl, rfl, id, rfl⟩, ⟨_, _, rfl, rfl, rfl, rfl, id, rfl⟩, ⟨_, _, rfl, rfl, rfl, rfl, id, rfl⟩, ⟨_, _, rfl, rfl, rfl, rfl, id, rfl⟩, ⟨_, _, rfl, rfl, rfl, rfl, id, rfl⟩, ⟨_, _, rfl, rfl, rfl, rfl, id, rfl⟩, ⟨_, _, rfl, rfl, rfl, rfl, id, rfl⟩, ⟨_, _, rfl, rfl, rfl, rfl, id, rfl⟩, ⟨_, _, rfl, rfl, rfl, rfl, id, rfl⟩, ⟨_, _, rfl, rfl, rfl, rfl, id, rfl⟩, ⟨_, _, rfl, rfl, rfl, rfl, id, rfl⟩, ⟨_, _, rfl, rfl, rfl, rfl, id, rfl⟩, ⟨_, _, rfl, rfl, rfl, rfl, id, rfl⟩, ⟨_, _, rfl, rfl, rfl, rfl, id, rfl⟩, ⟨_, _, rfl, rfl, rfl, rfl, id, rfl⟩, ⟨_, _, rfl, rfl, cut_ren _ o l, rfl, id, cut_nm _ o l⟩, trivial⟩⟩
   ·first | replace hc36 := of_decide_eq_true hc36 | replace hc36 := of_decide_eq_false hc36 | replace hc36 := eq_of_beq hc36 | replace hc36 := ne_of_beq_false hc36 | simp only [bne_iff_ne, ne_eq] at hc36 | simp only [bne_eq_false_iff_eq] at hc36
    refine .region ?_
    refine .q (op_move rfl) trivial rfl ?_
    refine .q (op_len_str Tryd.underlying9 rfl) trivial rfl ?_
    refine .q (op_assign rfl) trivial rfl ?_
    refine .nil ?_
    show Ev _ _ _ _ _
    refine .seq ?_
    have hr0 : q.r ≠ [] := bne_iff_ne.1 hc30
    have hnp := cN_pos (l := l) (i := q.i) hr0
    refine Ev.weak (st2 := ⟨[(0, .bool c), (1, .str q.r), (2, .sl 450 o l.length 1), (6, .bool false), (7, .ptr 1000 0), (8, .ptr 1008 0), (9, .str q.left), (10, .i64 ((q.i : Nat) : Int)), (11, .i64 ((cN l q.i q.r : Nat) : Int))], [(1000, some ⟨.agg [.bool (q.h).c, .nilsl, .i64 (((q.h).g : Nat) : Int), .str (q.h).v, .err 225 ((q.h).e) (offE eo ((q.h).e))], 115, true⟩), (1008, some ⟨.agg [.str ((allD (s.take 900) [] (moreD ⟨c, [], 0, [], 0⟩))).v, .str ((allD (s.take 900) [] (moreD ⟨c, [], 0, [], 0⟩))).r, .i64 ((((allD (s.take 900) [] (moreD ⟨c, [], 0, [], 0⟩))).e : Nat) : Int)], 60, true⟩), (3, some ⟨.agg [.err 225 (1) (offE eo (1))], errT, false⟩), (1, some ⟨.agg [.err 225 (2) (offE eo (2))], errT, false⟩), (0, some ⟨.agg [.err 225 (3) (offE eo (3))], errT, false⟩), (4, some ⟨.agg [.err 225 (4) (offE eo (4))], errT, false⟩), (2, some ⟨.agg [.err 225 (5) (offE eo (5))], errT, false⟩), (5, some ⟨.agg [.err 225 (6) (offE eo (6))], errT, false⟩), (6, some ⟨.agg [.err 225 (7) (offE eo (7))], errT, false⟩), (7, some ⟨.agg [.err 225 (8) (offE eo (8))], errT, false⟩), (8, some ⟨.agg [.err 225 (9) (offE eo (9))], errT, false⟩), (9, some ⟨.agg [.err 225 (10) (offE eo (10))], errT, false⟩), (10, some ⟨.agg [.err 225 (11) (offE eo (11))], errT, false⟩), (11, some ⟨.agg [.err 225 (12) (offE eo (12))], errT, false⟩), (12, some ⟨.agg [.err 225 (13) (offE eo (13))], errT, false⟩), (13, some ⟨.agg [.err 225 (14) (offE eo (14))], errT, false⟩), (14, some ⟨.agg [.err 225 (15) (offE eo (15))], errT, false⟩), (15, some ⟨.agg [.err 225 (16) (offE eo (16))], errT, false⟩), (16, some ⟨.agg [.err 225 (17) (offE eo (17))], errT, false⟩), (17, some ⟨.agg [.err 225 (18) (offE eo (18))], errT, false⟩), (18, some ⟨.agg [.err 225 (19) (offE eo (19))], errT, false⟩), (19, some ⟨.agg [.err 225 (20) (offE eo (20))], errT, false⟩), (401, some ⟨.agg [], errT, false⟩), (402, some ⟨.agg [], errT, false⟩), (403, some ⟨.agg [], errT, false⟩), (404, some ⟨.agg [], errT, false⟩), (405, some ⟨.agg [], errT, false⟩), (406, some ⟨.agg [], errT, false⟩), (407, some ⟨.agg [], errT, false⟩), (408, some ⟨.agg [], errT, false⟩), (409, some ⟨.agg [], errT, false⟩), (410, some ⟨.agg [], errT, false⟩), (411, some ⟨.agg [], errT, false⟩), (412, some ⟨.agg [], errT, false⟩), (413, some ⟨.agg [], errT, false⟩), (414, some ⟨.agg [], errT, false⟩), (415, some ⟨.agg [], errT, false⟩), (416, some ⟨.agg [], errT, false⟩), (417, some ⟨.agg [], errT, false⟩), (418, some ⟨.agg [], errT, false⟩), (419, some ⟨.agg [], errT, false⟩), (420, some ⟨.agg [], errT, false⟩), (450, some ⟨.agg (cutC o l), anyT, false⟩)], 1024⟩) ?_ ?_
    ·exact StLe.mk [(1000, 1000), (1008, 1008)] rfl rfl ⟨⟨_, rfl, by first | rfl | (simp only [AV.ren]; congr 1; omega), rfl⟩, ⟨_, rfl, by first | rfl | (simp only [AV.ren]; congr 1; omega), rfl⟩, ⟨_, rfl, by first | rfl | (simp only [AV.ren]; congr 1; omega), rfl⟩, ⟨_, rfl, by first | rfl | (simp only [AV.ren]; congr 1; omega), rfl⟩, ⟨_, rfl, by first | rfl | (simp only [AV.ren]; congr 1; omega), rfl⟩, ⟨_, rfl, by first | rfl | (simp only [AV.ren]; congr 1; omega), rfl⟩, ⟨_, rfl, by first | rfl | (simp only [AV.ren]; congr 1; omega), rfl⟩, ⟨_, rfl, by first | rfl | (simp only [AV.ren]; congr 1; omega), rfl⟩, ⟨_, rfl, by (show AV.i64 _ = AV.i64 _; congr 1; first | exact (cN_y (by omega)).symm | rw [cN_n (by omega)]), rfl⟩, trivial⟩ ⟨⟨_, _, rfl, rfl, rfl, rfl, id, rfl⟩, ⟨_, _, rfl, rfl, rfl, rfl, id, rfl⟩, ⟨_, _, rfl, rfl, rfl, rfl, id, rfl⟩, ⟨_, _, rfl, rfl, rfl, rfl, id, rfl⟩, ⟨_, _, rfl, rfl, rfl, rfl, id, rfl⟩, ⟨_, _, rfl, rfl, rfl, rfl, id, rfl⟩, ⟨_, _, rfl, rfl, rfl, rfl, id, rfl⟩, ⟨_, _, rfl, rfl, rfl, rfl, id, rfl⟩, ⟨_, _, rfl, rfl, rfl, rfl, id, rfl⟩, ⟨_, _, rfl, rfl, rfl, rfl, id, rfl⟩, ⟨_, _, rfl, rfl, rfl, rfl, id, rfl⟩, ⟨_, _, rfl, rfl, rfl, rfl, id, rfl⟩, ⟨_, _, rfl, rfl, rfl, rfl, id, rfl⟩, ⟨_, _, rfl, rfl, rfl, rfl, id, rfl⟩, ⟨_, _, rfl, rfl, rfl, rfl, id, rfl⟩, ⟨_, _, rfl, rfl, rfl, rfl, id, rfl⟩, ⟨_, _, rfl, rfl, rfl, rfl, id, rfl⟩, ⟨_, _, rfl, rfl, rfl, rfl, id, rfl⟩, ⟨_, _, rfl, rfl, rfl, rfl, id, rfl⟩, ⟨_, _, rfl, rfl, rfl, rfl, id, rfl⟩, ⟨_, _, rfl, rfl, rfl, rfl, id, rfl⟩, ⟨_, _, rfl, rfl, rfl, rfl, id, rfl⟩, ⟨_, _, rfl, rfl, rfl, rfl, id, rfl⟩, ⟨_, _, rfl, rfl, rfl, rfl, id, rfl⟩, ⟨_, _, rfl, rfl, rfl, rfl, id, rfl⟩, ⟨_, _, rfl, rfl, rfl, rfl, id, rfl⟩, ⟨_, _, rfl, rfl, rfl, rfl, id, rfl⟩, ⟨_, _, rfl, rfl, rfl, rfl, id, rfl⟩, ⟨_, _, rfl, rfl, rfl, rfl, id, rfl⟩, ⟨_, _, rfl, rfl, rfl, rfl, id, rfl⟩, ⟨_, _, rfl, rfl, rfl, rfl, id, rfl⟩, ⟨_, _, rfl, rfl, rfl, rfl, id, rfl⟩, ⟨_, _, rfl, rfl, rfl, rfl, id, rfl⟩, ⟨_, _, rfl, rfl, rfl, rfl, id, rfl⟩, ⟨_, _, rfl, rfl, rfl, rfl, id, rfl⟩, ⟨_, _, rfl, rfl, rfl, rfl, id, rfl⟩, ⟨_, _, rfl, rfl, rfl, rfl, id, rfl⟩, ⟨_, _, rfl, rfl, rfl, rfl, id, rfl⟩, ⟨_, _, rfl, rfl, rfl, rfl, id, rfl⟩, ⟨_, _, rfl, rfl, rfl, rfl, id, rfl⟩, ⟨_, _, rfl, rfl, rfl, rfl, id, rfl⟩, ⟨_, _, rfl, rfl, rfl, rfl, id, rfl⟩, ⟨_, _, rfl, rfl, cut_ren _ o l, rfl, id, cut_nm _ o l⟩, trivial⟩
    refine .region ?_
    refine .q (op_move rfl) trivial rfl ?_
    refine .q (op_move rfl) trivial rfl ?_
    refine .q (op_len_str Tryd.underlying9 rfl) trivial rfl ?_
    refine .q (op_minI rfl rfl) trivial rfl ?_
    refine .as (.i64 (((min (cN l q.i q.r) q.r.length) : Nat) : Int)) (congrArg AV.i64 (by omega)) ?_
    refine .q (op_assign rfl) trivial rfl ?_
    refine .nil ?_
    show Ev _ _ _ _ _
    refine .seq ?_
    refine .region ?_
    refine .q (op_move rfl) trivial rfl ?_
    refine .q (op_call (U := []) [(500, 1000)] [] (done_n q.h eo) Tryd.func30 (by kernel_rfl) rfl rfl rfl (⟨⟨_, rfl, rfl, rfl⟩, trivial⟩) (⟨⟨_, _, rfl, rfl, rfl, rfl, (fun h => by cases h), rfl⟩, trivial⟩) (trivial) (⟨(fun h => by cases h), trivial⟩) rfl) trivial rfl ?_
    refine .q (op_assign rfl) trivial rfl ?_
    refine .nil ?_
    show Ev _ _ _ _ _
    refine .seq ?_
    refine .region ?_
    refine .q (op_move rfl) trivial rfl ?_
    refine .q (op_move rfl) trivial rfl ?_
    refine .q (op_move rfl) trivial rfl ?_
    refine .q (ap_slice_str_hi Tryd.underlying9 rfl (bnd_some rfl (l := (min (cN l q.i q.r) q.r.length)) rfl) (by omega)) trivial rfl ?_
    refine dite ((q.k (min (cN l q.i q.r) q.r.length)).p = []) (fun hP => ?_) (fun hP => ?_)
    ·refine .a (op_call (U := [(1000, some ⟨.agg [.bool ((feedD q.h (q.r.take (min (cN l q.i q.r) q.r.length))).1).c, .nilsl, .i64 ((((feedD q.h (q.r.take (min (cN l q.i q.r) q.r.length))).1).g : Nat) : Int), .str ((feedD q.h (q.r.take (min (cN l q.i q.r) q.r.length))).1).v, .err 225 (((feedD q.h (q.r.take (min (cN l q.i q.r) q.r.length))).1).e) (offE eo (((feedD q.h (q.r.take (min (cN l q.i q.r) q.r.length))).1).e))], 115, true⟩)]) [(500, 1000)] [] (feed_nn q.h (q.r.take (min (cN l q.i q.r) q.r.length)) q.fine hq (by rw [List.length_take]; omega) hP eo) Tryd.func31 (by kernel_rfl) rfl rfl rfl (⟨⟨_, rfl, rfl, rfl⟩, ⟨_, rfl, rfl, rfl⟩, trivial⟩) (⟨⟨_, _, rfl, rfl, rfl, rfl, id, rfl⟩, ⟨_, _, rfl, rfl, rfl, rfl, (fun h => by cases h), rfl⟩, ⟨_, _, rfl, rfl, rfl, rfl, (fun h => by cases h), rfl⟩, ⟨_, _, rfl, rfl, rfl, rfl, (fun h => by cases h), rfl⟩, trivial⟩) (⟨⟨500, _, rfl, rfl, rfl, rfl, .inr ⟨rfl, _, rfl, rfl⟩⟩, trivial⟩) (⟨(fun _ => ⟨1000, _, rfl, rfl⟩), (fun h => by cases h), (fun h => by cases h), (fun h => by cases h), trivial⟩) rfl) trivial rfl ?_
     refine .q (op_move rfl) trivial rfl ?_
     refine .q (op_extract rfl rfl) trivial rfl ?_
     refine .q (op_extract rfl rfl) trivial rfl ?_
     refine .q (op_assign rfl) trivial rfl ?_
     refine .q (op_assign rfl) trivial rfl ?_
     refine .nil ?_
     show Ev _ _ _ _ _
     refine .seq ?_
     refine .seq ?_
     refine .region ?_
     refine .q (op_move rfl) trivial rfl ?_
     refine .q (op_eqErrNil (e := (feedD q.h (q.r.take (min (cN l q.i q.r) q.r.length))).1.e) Tryd.underlying26 rfl rfl) trivial rfl ?_
     refine .nil ?_
     show Ev _ _ _ _ _
     refine .cond rfl (fun hc60 => ?_) (fun hc60 => ?_)
     ·skip
      refine .seq ?_
      refine .region ?_
      refine .q (op_move rfl) trivial rfl ?_
      refine .a (op_call (U := [(1000, some ⟨.agg [.bool ((feedD (feedD q.h (q.r.take (min (cN l q.i q.r) q.r.length))).1 [109, 111, 114, 101]).1).c, .nilsl, .i64 ((((feedD (feedD q.h (q.r.take (min (cN l q.i q.r) q.r.length))).1 [109, 111, 114, 101]).1).g : Nat) : Int), .str ((feedD (feedD q.h (q.r.take (min (cN l q.i q.r) q.r.length))).1 [109, 111, 114, 101]).1).v, .err 225 (((feedD (feedD q.h (q.r.take (min (cN l q.i q.r) q.r.length))).1 [109, 111, 114, 101]).1).e) (offE eo (((feedD (feedD q.h (q.r.take (min (cN l q.i q.r) q.r.length))).1 [109, 111, 114, 101]).1).e))], 115, true⟩)]) [(500, 1000)] [] (feed_nn (feedD q.h (q.r.take (min (cN l q.i q.r) q.r.length))).1 [109, 111, 114, 101] (q.feeds (min (cN l q.i q.r) q.r.length)).1 hP (by decide) (by rw [feedD_end (goes_e (bne_iff_ne.1 hc60))]; exact hP) eo) Tryd.func31 (by kernel_rfl) rfl rfl rfl (⟨⟨_, rfl, rfl, rfl⟩, ⟨_, rfl, rfl, rfl⟩, trivial⟩) (⟨⟨_, _, rfl, rfl, rfl, rfl, id, rfl⟩, ⟨_, _, rfl, rfl, rfl, rfl, (fun h => by cases h), rfl⟩, ⟨_, _, rfl, rfl, rfl, rfl, (fun h => by cases h), rfl⟩, ⟨_, _, rfl, rfl, rfl, rfl, (fun h => by cases h), rfl⟩, trivial⟩) (⟨⟨500, _, rfl, rfl, rfl, rfl, .inr ⟨rfl, _, rfl, rfl⟩⟩, trivial⟩) (⟨(fun _ => ⟨1000, _, rfl, rfl⟩), (fun h => by cases h), (fun h => by cases h), (fun h => by cases h), trivial⟩) rfl) trivial rfl ?_
      refine .as (.tup [.str [], .err 225 ((feedD q.h (q.r.take (min (cN l q.i q.r) q.r.length))).1.e) (offE eo ((feedD q.h (q.r.take (min (cN l q.i q.r) q.r.length))).1.e))]) (by show AV.tup [.str (feedR _ _), AV.err 225 ((feedD (feedD q.h (q.r.take (min (cN l q.i q.r) q.r.length))).1 [109, 111, 114, 101]).1.e) (offE eo ((feedD (feedD q.h (q.r.take (min (cN l q.i q.r) q.r.length))).1 [109, 111, 114, 101]).1.e))] = _; rw [feedR_bad (feedD_end (goes_e (bne_iff_ne.1 hc60))) (bne_iff_ne.1 hc60), feedD_end (goes_e (bne_iff_ne.1 hc60))]) ?_
      refine .q (op_move rfl) trivial rfl ?_
      refine .q (op_extract rfl rfl) trivial rfl ?_
      refine .q (op_extract rfl rfl) trivial rfl ?_
      refine .q (op_assign rfl) trivial rfl ?_
      refine .q (op_assign rfl) trivial rfl ?_
      refine .nil ?_
      show Ev _ _ _ _ _
      refine .seq ?_
      refine .drawn [[], [0], [], [2], [0, 1, 2, 3], [0, 1, 2, 3, 4], [0, 1, 2, 3, 4, 5], [0, 1, 2, 3, 4, 5, 6], [0, 1, 2, 3, 4, 5], [0, 1, 2, 3, 4, 5, 8], [0, 1, 2, 3, 4, 5, 6, 7, 8, 9], [0, 1, 2, 3, 4, 5, 6, 7, 8, 9, 10], [0, 1, 2, 3, 4, 5, 6, 7, 8, 9, 10, 11], [0, 1, 2, 3, 4, 5, 6, 7, 8, 9, 10, 11, 12], [0, 1, 2, 3, 4, 5, 6, 7, 8, 9, 10, 11, 12, 13], [0, 1, 2, 3, 4, 5, 6, 7, 8, 9, 10, 11, 12, 13, 14], [0, 1, 2, 3, 4, 5, 6, 7, 8, 9, 10, 11, 12, 13, 14, 15], [0, 1, 2, 3, 4, 5, 6, 7, 8, 9, 10, 11, 12, 13, 14, 15, 16], [0, 1, 2, 3, 4, 5, 6, 7, 8, 9, 10, 11, 12, 13, 14, 15, 16, 17], [0, 1, 2, 3, 4, 5, 6, 7, 8, 9, 10, 11, 12, 13, 14, 15, 16, 17, 18], [0, 1, 2, 3, 4, 5, 6, 7, 8, 9, 10, 11, 12, 13, 14, 15, 16, 17, 18, 19], [0, 1, 2, 3, 4, 5, 6, 7, 8, 9, 10, 11, 12, 13, 14, 15, 16, 17, 18, 19, 20]] [1, 3, 7, 9, 18] [] (by kernel_rfl) (by kernel_rfl) rfl ?_
      show DK _ [0, 1, 2, 3, 4, 5, 6, 7, 8, 9, 10, 11, 12, 13, 14, 15, 16, 17, 18, 19, 20, 21] _ _ _
      refine .q rfl (op_move rfl) trivial ?_
      refine .q rfl (op_call (U := []) [] [] (codeH_ev eo hd (feedD q.h (q.r.take (min (cN l q.i q.r) q.r.length))).1.e (q.okE (min (cN l q.i q.r) q.r.length))) Tryd.func14 (by kernel_rfl) rfl rfl rfl (⟨⟨_, rfl, rfl, rfl⟩, trivial⟩) (⟨⟨_, _, rfl, rfl, rfl, rfl, (fun h => by cases h), rfl⟩, ⟨_, _, rfl, rfl, rfl, rfl, (fun h => by cases h), rfl⟩, ⟨_, _, rfl, rfl, rfl, rfl, (fun h => by cases h), rfl⟩, ⟨_, _, rfl, rfl, rfl, rfl, (fun h => by cases h), rfl⟩, ⟨_, _, rfl, rfl, rfl, rfl, (fun h => by cases h), rfl⟩, ⟨_, _, rfl, rfl, rfl, rfl, (fun h => by cases h), rfl⟩, ⟨_, _, rfl, rfl, rfl, rfl, (fun h => by cases h), rfl⟩, ⟨_, _, rfl, rfl, rfl, rfl, (fun h => by cases h), rfl⟩, ⟨_, _, rfl, rfl, rfl, rfl, (fun h => by cases h), rfl⟩, ⟨_, _, rfl, rfl, rfl, rfl, (fun h => by cases h), rfl⟩, ⟨_, _, rfl, rfl, rfl, rfl, (fun h => by cases h), rfl⟩, ⟨_, _, rfl, rfl, rfl, rfl, (fun h => by cases h), rfl⟩, ⟨_, _, rfl, rfl, rfl, rfl, (fun h => by cases h), rfl⟩, ⟨_, _, rfl, rfl, rfl, rfl, (fun h => by cases h), rfl⟩, ⟨_, _, rfl, rfl, rfl, rfl, (fun h => by cases h), rfl⟩, ⟨_, _, rfl, rfl, rfl, rfl, (fun h => by cases h), rfl⟩, ⟨_, _, rfl, rfl, rfl, rfl, (fun h => by cases h), rfl⟩, ⟨_, _, rfl, rfl, rfl, rfl, (fun h => by cases h), rfl⟩, ⟨_, _, rfl, rfl, rfl, rfl, (fun h => by cases h), rfl⟩, ⟨_, _, rfl, rfl, rfl, rfl, (fun h => by cases h), rfl⟩, ⟨_, _, rfl, rfl, rfl, rfl, (fun h => by cases h), rfl⟩, ⟨_, _, rfl, rfl, rfl, rfl, (fun h => by cases h), rfl⟩, ⟨_, _, rfl, rfl, rfl, rfl, (fun h => by cases h), rfl⟩, ⟨_, _, rfl, rfl, rfl, rfl, (fun h => by cases h), rfl⟩, ⟨_, _, rfl, rfl, rfl, rfl, (fun h => by cases h), rfl⟩, ⟨_, _, rfl, rfl, rfl, rfl, (fun h => by cases h), rfl⟩, ⟨_, _, rfl, rfl, rfl, rfl, (fun h => by cases h), rfl⟩, ⟨_, _, rfl, rfl, rfl, rfl, (fun h => by cases h), rfl⟩, ⟨_, _, rfl, rfl, rfl, rfl, (fun h => by cases h), rfl⟩, ⟨_, _, rfl, rfl, rfl, rfl, (fun h => by cases h), rfl⟩, ⟨_, _, rfl, rfl, rfl, rfl, (fun h => by cases h), rfl⟩, ⟨_, _, rfl, rfl, rfl, rfl, (fun h => by cases h), rfl⟩, ⟨_, _, rfl, rfl, rfl, rfl, (fun h => by cases h), rfl⟩, ⟨_, _, rfl, rfl, rfl, rfl, (fun h => by cases h), rfl⟩, ⟨_, _, rfl, rfl, rfl, rfl, (fun h => by cases h), rfl⟩, ⟨_, _, rfl, rfl, rfl, rfl, (fun h => by cases h), rfl⟩, ⟨_, _, rfl, rfl, rfl, rfl, (fun h => by cases h), rfl⟩, ⟨_, _, rfl, rfl, rfl, rfl, (fun h => by cases h), rfl⟩, ⟨_, _, rfl, rfl, rfl, rfl, (fun h => by cases h), rfl⟩, ⟨_, _, rfl, rfl, rfl, rfl, (fun h => by cases h), rfl⟩, trivial⟩) (trivial) (⟨(fun h => by cases h), (fun h => by cases h), (fun h => by cases h), (fun h => by cases h), (fun h => by cases h), (fun h => by cases h), (fun h => by cases h), (fun h => by cases h), (fun h => by cases h), (fun h => by cases h), (fun h => by cases h), (fun h => by cases h), (fun h => by cases h), (fun h => by cases h), (fun h => by cases h), (fun h => by cases h), (fun h => by cases h), (fun h => by cases h), (fun h => by cases h), (fun h => by cases h), (fun h => by cases h), (fun h => by cases h), (fun h => by cases h), (fun h => by cases h), (fun h => by cases h), (fun h => by cases h), (fun h => by cases h), (fun h => by cases h), (fun h => by cases h), (fun h => by cases h), (fun h => by cases h), (fun h => by cases h), (fun h => by cases h), (fun h => by cases h), (fun h => by cases h), (fun h => by cases h), (fun h => by cases h), (fun h => by cases h), (fun h => by cases h), (fun h => by cases h), trivial⟩) rfl) trivial ?_
      refine .q rfl (op_fieldAddr (m := 0) Tryd.underlying60 rfl (by kernel_rfl) rfl) trivial ?_
      refine .as (.ptr 1008 2) rfl ?_
      refine .q rfl (op_load Tryd.underlying3 rfl rfl rfl rfl (by show 2 < 3; decide)) trivial ?_
      refine .q rfl (op_cmpI rfl rfl rfl) trivial ?_
      refine .q rfl (op_move rfl) trivial ?_
      refine .know (b' := true) (by rw [(q.err (min (cN l q.i q.r) q.r.length) (bne_iff_ne.1 hc60)).1]; first | rfl | exact beq_self_eq_true _ | exact decide_eq_true rfl) ?_
      refine .q rfl (op_move rfl) ⟨_, rfl, rfl⟩ ?_
      refine .q rfl (op_call (U := []) [] [] (codeH_ev eo hd (feedD q.h (q.r.take (min (cN l q.i q.r) q.r.length))).1.e (q.okE (min (cN l q.i q.r) q.r.length))) Tryd.func14 (by kernel_rfl) rfl rfl rfl (⟨⟨_, rfl, rfl, rfl⟩, trivial⟩) (⟨⟨_, _, rfl, rfl, rfl, rfl, (fun h => by cases h), rfl⟩, ⟨_, _, rfl, rfl, rfl, rfl, (fun h => by cases h), rfl⟩, ⟨_, _, rfl, rfl, rfl, rfl, (fun h => by cases h), rfl⟩, ⟨_, _, rfl, rfl, rfl, rfl, (fun h => by cases h), rfl⟩, ⟨_, _, rfl, rfl, rfl, rfl, (fun h => by cases h), rfl⟩, ⟨_, _, rfl, rfl, rfl, rfl, (fun h => by cases h), rfl⟩, ⟨_, _, rfl, rfl, rfl, rfl, (fun h => by cases h), rfl⟩, ⟨_, _, rfl, rfl, rfl, rfl, (fun h => by cases h), rfl⟩, ⟨_, _, rfl, rfl, rfl, rfl, (fun h => by cases h), rfl⟩, ⟨_, _, rfl, rfl, rfl, rfl, (fun h => by cases h), rfl⟩, ⟨_, _, rfl, rfl, rfl, rfl, (fun h => by cases h), rfl⟩, ⟨_, _, rfl, rfl, rfl, rfl, (fun h => by cases h), rfl⟩, ⟨_, _, rfl, rfl, rfl, rfl, (fun h => by cases h), rfl⟩, ⟨_, _, rfl, rfl, rfl, rfl, (fun h => by cases h), rfl⟩, ⟨_, _, rfl, rfl, rfl, rfl, (fun h => by cases h), rfl⟩, ⟨_, _, rfl, rfl, rfl, rfl, (fun h => by cases h), rfl⟩, ⟨_, _, rfl, rfl, rfl, rfl, (fun h => by cases h), rfl⟩, ⟨_, _, rfl, rfl, rfl, rfl, (fun h => by cases h), rfl⟩, ⟨_, _, rfl, rfl, rfl, rfl, (fun h => by cases h), rfl⟩, ⟨_, _, rfl, rfl, rfl, rfl, (fun h => by cases h), rfl⟩, ⟨_, _, rfl, rfl, rfl, rfl, (fun h => by cases h), rfl⟩, ⟨_, _, rfl, rfl, rfl, rfl, (fun h => by cases h), rfl⟩, ⟨_, _, rfl, rfl, rfl, rfl, (fun h => by cases h), rfl⟩, ⟨_, _, rfl, rfl, rfl, rfl, (fun h => by cases h), rfl⟩, ⟨_, _, rfl, rfl, rfl, rfl, (fun h => by cases h), rfl⟩, ⟨_, _, rfl, rfl, rfl, rfl, (fun h => by cases h), rfl⟩, ⟨_, _, rfl, rfl, rfl, rfl, (fun h => by cases h), rfl⟩, ⟨_, _, rfl, rfl, rfl, rfl, (fun h => by cases h), rfl⟩, ⟨_, _, rfl, rfl, rfl, rfl, (fun h => by cases h), rfl⟩, ⟨_, _, rfl, rfl, rfl, rfl, (fun h => by cases h), rfl⟩, ⟨_, _, rfl, rfl, rfl, rfl, (fun h => by cases h), rfl⟩, ⟨_, _, rfl, rfl, rfl, rfl, (fun h => by cases h), rfl⟩, ⟨_, _, rfl, rfl, rfl, rfl, (fun h => by cases h), rfl⟩, ⟨_, _, rfl, rfl, rfl, rfl, (fun h => by cases h), rfl⟩, ⟨_, _, rfl, rfl, rfl, rfl, (fun h => by cases h), rfl⟩, ⟨_, _, rfl, rfl, rfl, rfl, (fun h => by cases h), rfl⟩, ⟨_, _, rfl, rfl, rfl, rfl, (fun h => by cases h), rfl⟩, ⟨_, _, rfl, rfl, rfl, rfl, (fun h => by cases h), rfl⟩, ⟨_, _, rfl, rfl, rfl, rfl, (fun h => by cases h), rfl⟩, ⟨_, _, rfl, rfl, rfl, rfl, (fun h => by cases h), rfl⟩, trivial⟩) (trivial) (⟨(fun h => by cases h), (fun h => by cases h), (fun h => by cases h), (fun h => by cases h), (fun h => by cases h), (fun h => by cases h), (fun h => by cases h), (fun h => by cases h), (fun h => by cases h), (fun h => by cases h), (fun h => by cases h), (fun h => by cases h), (fun h => by cases h), (fun h => by cases h), (fun h => by cases h), (fun h => by cases h), (fun h => by cases h), (fun h => by cases h), (fun h => by cases h), (fun h => by cases h), (fun h => by cases h), (fun h => by cases h), (fun h => by cases h), (fun h => by cases h), (fun h => by cases h), (fun h => by cases h), (fun h => by cases h), (fun h => by cases h), (fun h => by cases h), (fun h => by cases h), (fun h => by cases h), (fun h => by cases h), (fun h => by cases h), (fun h => by cases h), (fun h => by cases h), (fun h => by cases h), (fun h => by cases h), (fun h => by cases h), (fun h => by cases h), (fun h => by cases h), trivial⟩) rfl) ⟨_, rfl, rfl⟩ ?_
      refine .q rfl (op_fieldAddr (m := 0) Tryd.underlying60 rfl (by kernel_rfl) rfl) ⟨_, rfl, rfl⟩ ?_
      refine .as (.ptr 1008 2) rfl ?_
      refine .q rfl (op_load Tryd.underlying3 rfl rfl rfl rfl (by show 2 < 3; decide)) ⟨_, rfl, rfl⟩ ?_
      refine .q rfl (op_cmpI rfl rfl rfl) ⟨_, rfl, rfl⟩ ?_
      refine .q rfl (op_pick_true rfl rfl rfl) trivial ?_
      refine .q rfl (op_move rfl) trivial ?_
      refine .know (b' := true) (by rw [(q.err (min (cN l q.i q.r) q.r.length) (bne_iff_ne.1 hc60)).1]; first | rfl | exact beq_self_eq_true _ | exact decide_eq_true rfl) ?_
      refine .q rfl (op_move rfl) ⟨_, rfl, rfl⟩ ?_
      refine .q rfl (op_eqS rfl rfl rfl) ⟨_, rfl, rfl⟩ ?_
      refine .q rfl (op_pick_true rfl rfl rfl) trivial ?_
      refine .q rfl (op_move rfl) trivial ?_
      refine .know (b' := true) (by rw [feedR_e (bne_iff_ne.1 hc60)]; rfl) ?_
      refine .q rfl (op_move rfl) ⟨_, rfl, rfl⟩ ?_
      refine .q rfl (op_call (U := []) [(500, 1000)] [] (peer_n (feedD (feedD q.h (q.r.take (min (cN l q.i q.r) q.r.length))).1 [109, 111, 114, 101]).1 eo) Tryd.func32 (by kernel_rfl) rfl rfl rfl (⟨⟨_, rfl, rfl, rfl⟩, trivial⟩) (⟨⟨_, _, rfl, rfl, rfl, rfl, (fun h => by cases h), rfl⟩, trivial⟩) (trivial) (⟨(fun h => by cases h), trivial⟩) rfl) ⟨_, rfl, rfl⟩ ?_
      refine .q rfl (op_eqS rfl rfl rfl) ⟨_, rfl, rfl⟩ ?_
      refine .q rfl (op_pick_true rfl rfl rfl) trivial ?_
      refine .q rfl (op_assign rfl) trivial ?_
      refine .nil ?_
      show Ev _ _ _ _ _
      refine .ret ?_
      show RetOk _ _ _ _ _ _ _
      first
       | exact ret1v rfl (.inl rfl) rfl (congrArg AV.bool (by rw [(q.want (bne_eq_false_iff_eq.1 hc30)).2.1]; exact beq_self_eq_true _)) trivial
       | exact ret1v rfl (.inl rfl) rfl (congrArg AV.bool (by rw [feedD_end (goes_e (bne_iff_ne.1 hc60))]; exact beq_iff_eq.2 (q.err (min (cN l q.i q.r) q.r.length) (bne_iff_ne.1 hc60)).2.1)) trivial
     ·skip
      refine .skip ?_
      show Ev _ _ _ _ _
      refine .seq ?_
      refine .seq ?_
      refine .region ?_
      refine .q (op_move rfl) trivial rfl ?_
      refine .q (op_move rfl) trivial rfl ?_
      refine .split (fun hg88 => ?_) (fun hg88 => ?_)
      ·skip
       refine .q (op_move rfl) ⟨_, rfl, rfl⟩ rfl ?_
       refine .q (op_move rfl) ⟨_, rfl, rfl⟩ rfl ?_
       refine .q (op_move rfl) ⟨_, rfl, rfl⟩ rfl ?_
       refine .q (ap_slice_str_hi Tryd.underlying9 rfl (bnd_some rfl (l := (min (cN l q.i q.r) q.r.length)) rfl) (by omega)) ⟨_, rfl, rfl⟩ rfl ?_
       refine .q (op_eqS rfl rfl rfl) ⟨_, rfl, rfl⟩ rfl ?_
       refine .q (op_pick_true rfl rfl rfl) trivial rfl ?_
       refine .q (op_move rfl) trivial rfl ?_
       refine .know (b' := false) (by first | rfl | exact bne_eq_false_iff_eq.2 (q.got_same (min (cN l q.i q.r) q.r.length) (bne_iff_ne.1 hg88))) ?_
       refine .q (op_move rfl) ⟨_, rfl, rfl⟩ rfl ?_
       refine .q (op_call (U := []) [(500, 1000)] [] (done_n (feedD q.h (q.r.take (min (cN l q.i q.r) q.r.length))).1 eo) Tryd.func30 (by kernel_rfl) rfl rfl rfl (⟨⟨_, rfl, rfl, rfl⟩, trivial⟩) (⟨⟨_, _, rfl, rfl, rfl, rfl, (fun h => by cases h), rfl⟩, trivial⟩) (trivial) (⟨(fun h => by cases h), trivial⟩) rfl) ⟨_, rfl, rfl⟩ rfl ?_
       refine .q (op_notB rfl) ⟨_, rfl, rfl⟩ rfl ?_
       refine .q (op_move rfl) ⟨_, rfl, rfl⟩ rfl ?_
       refine .split (fun hg99 => ?_) (fun hg99 => ?_)
       ·skip
        refine .q (op_move rfl) ⟨_, rfl, rfl⟩ rfl ?_
        refine .q (op_eqS rfl rfl rfl) ⟨_, rfl, rfl⟩ rfl ?_
        refine .q (op_pick_true rfl rfl rfl) ⟨_, rfl, rfl⟩ rfl ?_
        refine .q (op_pick_false rfl rfl rfl) trivial rfl ?_
        refine .nil ?_
        show Ev _ _ _ _ _
        refine .cond_false rfl (by first | rfl | exact bne_eq_false_iff_eq.2 (q.got_nil (min (cN l q.i q.r) q.r.length) (bne_eq_false_iff_eq.1 hc60) (nv_t hg99))) ?_
        refine .skip ?_
        show Ev _ _ _ _ _
        refine .seq ?_
        refine .region ?_
        refine .q (op_move rfl) trivial rfl ?_
        refine .q (op_move rfl) trivial rfl ?_
        refine .as (.str (feedD q.h (q.r.take (min (cN l q.i q.r) q.r.length))).2) (congrArg AV.str (feedR_ok (bne_eq_false_iff_eq.1 hc60))) ?_
        refine .q (op_addS rfl rfl (by have h9 := q.got_le (min (cN l q.i q.r) q.r.length); rw [List.length_take] at h9; omega)) trivial rfl ?_
        refine .q (op_assign rfl) trivial rfl ?_
        refine .nil ?_
        show Ev _ _ _ _ _
        refine .region ?_
        refine .q (op_move rfl) trivial rfl ?_
        refine .q (op_move rfl) trivial rfl ?_
        refine .q (ap_slice_str_lo Tryd.underlying9 rfl (bnd_some rfl (l := (min (cN l q.i q.r) q.r.length)) rfl) (by omega)) trivial rfl ?_
        refine .q (op_assign rfl) trivial rfl ?_
        refine .nil ?_
        show Ev _ _ _ _ _
        refine .region ?_
        refine .q (op_move rfl) trivial rfl ?_
        refine .q (op_addI rfl rfl ⟨by omega, by omega⟩) trivial rfl ?_
        refine .q (op_assign rfl) trivial rfl ?_
        refine .nil ?_
        exact ⟨.inl ⟨q.step (min (cN l q.i q.r) q.r.length) hnp (Nat.min_le_right _ _) (bne_eq_false_iff_eq.1 hc60), hP⟩, (by show (q.r.drop (min (cN l q.i q.r) q.r.length)).length < q.r.length; rw [List.length_drop]; omega), StLe.mk [(1000, 1000), (1008, 1008)] rfl rfl ⟨⟨_, rfl, by first | rfl | (simp only [AV.ren]; congr 1; omega), rfl⟩, ⟨_, rfl, by first | rfl | (simp only [AV.ren]; congr 1; omega), rfl⟩, ⟨_, rfl, by first | rfl | (simp only [AV.ren]; congr 1; omega), rfl⟩, ⟨_, rfl, by first | rfl | (simp only [AV.ren]; congr 1; omega), rfl⟩, ⟨_, rfl, by first | rfl | (simp only [AV.ren]; congr 1; omega), rfl⟩, ⟨_, rfl, by first | rfl | (simp only [AV.ren]; congr 1; omega), rfl⟩, ⟨_, rfl, by first | rfl | (simp only [AV.ren]; congr 1; omega), rfl⟩, ⟨_, rfl, by first | rfl | (simp only [AV.ren]; congr 1; omega), rfl⟩, trivial⟩ ⟨⟨_, _, rfl, rfl, rfl, rfl, id, rfl⟩, ⟨_, _, rfl, rfl, rfl, rfl, id, rfl⟩, ⟨_, _, rfl, rfl, rfl, rfl, id, rfl⟩, ⟨_, _, rfl, rfl, rfl, rfl, id, rfl⟩, ⟨_, _, rfl, rfl, rfl, rfl, id, rfl⟩, ⟨_, _, rfl, rfl, rfl, rfl, id, rfl⟩, ⟨_, _, rfl, rfl, rfl, rfl, id, rfl⟩, ⟨_, _, rfl, rfl, rfl, rfl, id, rfl⟩, ⟨_, _, rfl, rfl, rfl, rfl, id, rfl⟩, ⟨_, _, rfl, rfl, rfl, rfl, id, rfl⟩, ⟨_, _, rfl, rfl, rfl, rfl, id, rfl⟩, ⟨_, _, rfl, rfl, rfl, rfl, id, rfl⟩, ⟨_, _, rfl, rfl, rfl, rfl, id, rfl⟩, ⟨_, _, rfl, rfl, rfl, rfl, id, rfl⟩, ⟨_, _, rfl, rfl, rfl, rfl, id, rfl⟩, ⟨_, _, rfl, rfl, rfl, rfl, id, rfl⟩, ⟨_, _, rfl, rfl, rfl, rfl, id, rfl⟩, ⟨_, _, rfl, rfl, rfl, rfl, id, rfl⟩, ⟨_, _, rfl, rfl, rfl, rfl, id, rfl⟩, ⟨_, _, rfl, rfl, rfl, rfl, id, rfl⟩, ⟨_, _, rfl, rfl, rfl, rfl, id, rfl⟩, ⟨_, _, rfl, rfl, rfl, rfl, id, rfl⟩, ⟨_, _, rfl, rfl, rfl, rfl, id, rfl⟩, ⟨_, _, rfl, rfl, rfl, rfl, id, rfl⟩, ⟨_, _, rfl, rfl, rfl, rfl, id, rfl⟩, ⟨_, _, rfl, rfl, rfl, rfl, id, rfl⟩, ⟨_, _, rfl, rfl, rfl, rfl, id, rfl⟩, ⟨_, _, rfl, rfl, rfl, rfl, id, rfl⟩, ⟨_, _, rfl, rfl, rfl, rfl, id, rfl⟩, ⟨_, _, rfl, rfl, rfl, rfl, id, rfl⟩, ⟨_, _, rfl, rfl, rfl, rfl, id, rfl⟩, ⟨_, _, rfl, rfl, rfl, rfl, id, rfl⟩, ⟨_, _, rfl, rfl, rfl, rfl, id, rfl⟩, ⟨_, _, rfl, rfl, rfl, rfl, id, rfl⟩, ⟨_, _, rfl, rfl, rfl, rfl, id, rfl⟩, ⟨_, _, rfl, rfl, rfl, rfl, id, rfl⟩, ⟨_, _, rfl, rfl, rfl, rfl, id, rfl⟩, ⟨_, _, rfl, rfl, rfl, rfl, id, rfl⟩, ⟨_, _, rfl, rfl, rfl, rfl, id, rfl⟩, ⟨_, _, rfl, rfl, rfl, rfl, id, rfl⟩, ⟨_, _, rfl, rfl, rfl, rfl, id, rfl⟩, ⟨_, _, rfl, rfl, rfl, rfl, id, rfl⟩, ⟨_, _, rfl, rfl, cut_ren _ o l, rfl, id, cut_nm _ o l⟩, trivial⟩⟩
       ·skip
        refine .no ⟨_, rfl, rfl⟩ rfl ?_
        refine .no ⟨_, rfl, rfl⟩ rfl ?_
        refine .q (op_pick_false rfl rfl rfl) ⟨_, rfl, rfl⟩ rfl ?_
        refine .q (op_pick_false rfl rfl rfl) trivial rfl ?_
        refine .nil ?_
        show Ev _ _ _ _ _
        refine .cond_false rfl rfl ?_
        refine .skip ?_
        show Ev _ _ _ _ _
        refine .seq ?_
        refine .region ?_
        refine .q (op_move rfl) trivial rfl ?_
        refine .q (op_move rfl) trivial rfl ?_
        refine .as (.str (feedD q.h (q.r.take (min (cN l q.i q.r) q.r.length))).2) (congrArg AV.str (feedR_ok (bne_eq_false_iff_eq.1 hc60))) ?_
        refine .q (op_addS rfl rfl (by have h9 := q.got_le (min (cN l q.i q.r) q.r.length); rw [List.length_take] at h9; omega)) trivial rfl ?_
        refine .q (op_assign rfl) trivial rfl ?_
        refine .nil ?_
        show Ev _ _ _ _ _
        refine .region ?_
        refine .q (op_move rfl) trivial rfl ?_
        refine .q (op_move rfl) trivial rfl ?_
        refine .q (ap_slice_str_lo Tryd.underlying9 rfl (bnd_some rfl (l := (min (cN l q.i q.r) q.r.length)) rfl) (by omega)) trivial rfl ?_
        refine .q (op_assign rfl) trivial rfl ?_
        refine .nil ?_
        show Ev _ _ _ _ _
        refine .region ?_
        refine .q (op_move rfl) trivial rfl ?_
        refine .q (op_addI rfl rfl ⟨by omega, by omega⟩) trivial rfl ?_
        refine .q (op_assign rfl) trivial rfl ?_
        refine .nil ?_
        exact ⟨.inl ⟨q.step (min (cN l q.i q.r) q.r.length) hnp (Nat.min_le_right _ _) (bne_eq_false_iff_eq.1 hc60), hP⟩, (by show (q.r.drop (min (cN l q.i q.r) q.r.length)).length < q.r.length; rw [List.length_drop]; omega), StLe.mk [(1000, 1000), (1008, 1008)] rfl rfl ⟨⟨_, rfl, by first | rfl | (simp only [AV.ren]; congr 1; omega), rfl⟩, ⟨_, rfl, by first | rfl | (simp only [AV.ren]; congr 1; omega), rfl⟩, ⟨_, rfl, by first | rfl | (simp only [AV.ren]; congr 1; omega), rfl⟩, ⟨_, rfl, by first | rfl | (simp only [AV.ren]; congr 1; omega), rfl⟩, ⟨_, rfl, by first | rfl | (simp only [AV.ren]; congr 1; omega), rfl⟩, ⟨_, rfl, by first | rfl | (simp only [AV.ren]; congr 1; omega), rfl⟩, ⟨_, rfl, by first | rfl | (simp only [AV.ren]; congr 1; omega), rfl⟩, ⟨_, rfl, by first | rfl | (simp only [AV.ren]; congr 1; omega), rfl⟩, trivial⟩ ⟨⟨_, _, rfl, rfl, rfl, rfl, id, rfl⟩, ⟨_, _, rfl, rfl, rfl, rfl, id, rfl⟩, ⟨_, _, rfl, rfl, rfl, rfl, id, rfl⟩, ⟨_, _, rfl, rfl, rfl, rfl, id, rfl⟩, ⟨_, _, rfl, rfl, rfl, rfl, id, rfl⟩, ⟨_, _, rfl, rfl, rfl, rfl, id, rfl⟩, ⟨_, _, rfl, rfl, rfl, rfl, id, rfl⟩, ⟨_, _, rfl, rfl, rfl, rfl, id, rfl⟩, ⟨_, _, rfl, rfl, rfl, rfl, id, rfl⟩, ⟨_, _, rfl, rfl, rfl, rfl, id, rfl⟩, ⟨_, _, rfl, rfl, rfl, rfl, id, rfl⟩, ⟨_, _, rfl, rfl, rfl, rfl, id, rfl⟩, ⟨_, _, rfl, rfl, rfl, rfl, id, rfl⟩, ⟨_, _, rfl, rfl, rfl, rfl, id, rfl⟩, ⟨_, _, rfl, rfl, rfl, rfl, id, rfl⟩, ⟨_, _, rfl, rfl, rfl, rfl, id, rfl⟩, ⟨_, _, rfl, rfl, rfl, rfl, id, rfl⟩, ⟨_, _, rfl, rfl, rfl, rfl, id, rfl⟩, ⟨_, _, rfl, rfl, rfl, rfl, id, rfl⟩, ⟨_, _, rfl, rfl, rfl, rfl, id, rfl⟩, ⟨_, _, rfl, rfl, rfl, rfl, id, rfl⟩, ⟨_, _, rfl, rfl, rfl, rfl, id, rfl⟩, ⟨_, _, rfl, rfl, rfl, rfl, id, rfl⟩, ⟨_, _, rfl, rfl, rfl, rfl, id, rfl⟩, ⟨_, _, rfl, rfl, rfl, rfl, id, rfl⟩, ⟨_, _, rfl, rfl, rfl, rfl, id, rfl⟩, ⟨_, _, rfl, rfl, rfl, rfl, id, rfl⟩, ⟨_, _, rfl, rfl, rfl, rfl, id, rfl⟩, ⟨_, _, rfl, rfl, rfl, rfl, id, rfl⟩, ⟨_, _, rfl, rfl, rfl, rfl, id, rfl⟩, ⟨_, _, rfl, rfl, rfl, rfl, id, rfl⟩, ⟨_, _, rfl, rfl, rfl, rfl, id, rfl⟩, ⟨_, _, rfl, rfl, rfl, rfl, id, rfl⟩, ⟨_, _, rfl, rfl, rfl, rfl, id, rfl⟩, ⟨_, _, rfl, rfl, rfl, rfl, id, rfl⟩, ⟨_, _, rfl, rfl, rfl, rfl, id, rfl⟩, ⟨_, _, rfl, rfl, rfl, rfl, id, rfl⟩, ⟨_, _, rfl, rfl, rfl, rfl, id, rfl⟩, ⟨_, _, rfl, rfl, rfl, rfl, id, rfl⟩, ⟨_, _, rfl, rfl, rfl, rfl, id, rfl⟩, ⟨_, _, rfl, rfl, rfl, rfl, id, rfl⟩, ⟨_, _, rfl, rfl, rfl, rfl, id, rfl⟩, ⟨_, _, rfl, rfl, cut_ren _ o l, rfl, id, cut_nm _ o l⟩, trivial⟩⟩
      ·skip
       refine .no ⟨_, rfl, rfl⟩ rfl ?_
       refine .no ⟨_, rfl, rfl⟩ rfl ?_
       refine .no ⟨_, rfl, rfl⟩ rfl ?_
       refine .no ⟨_, rfl, rfl⟩ rfl ?_
       refine .no ⟨_, rfl, rfl⟩ rfl ?_
       refine .q (op_pick_false rfl rfl rfl) trivial rfl ?_
       refine .q (op_move rfl) trivial rfl ?_
       refine .q (op_move rfl) ⟨_, rfl, rfl⟩ rfl ?_
       refine .q (op_call (U := []) [(500, 1000)] [] (done_n (feedD q.h (q.r.take (min (cN l q.i q.r) q.r.length))).1 eo) Tryd.func30 (by kernel_rfl) rfl rfl rfl (⟨⟨_, rfl, rfl, rfl⟩, trivial⟩) (⟨⟨_, _, rfl, rfl, rfl, rfl, (fun h => by cases h), rfl⟩, trivial⟩) (trivial) (⟨(fun h => by cases h), trivial⟩) rfl) ⟨_, rfl, rfl⟩ rfl ?_
       refine .q (op_notB rfl) ⟨_, rfl, rfl⟩ rfl ?_
       refine .q (op_move rfl) ⟨_, rfl, rfl⟩ rfl ?_
       refine .split (fun hg99 => ?_) (fun hg99 => ?_)
       ·skip
        refine .q (op_move rfl) ⟨_, rfl, rfl⟩ rfl ?_
        refine .q (op_eqS rfl rfl rfl) ⟨_, rfl, rfl⟩ rfl ?_
        refine .q (op_pick_true rfl rfl rfl) ⟨_, rfl, rfl⟩ rfl ?_
        refine .q (op_pick_false rfl rfl rfl) trivial rfl ?_
        refine .nil ?_
        show Ev _ _ _ _ _
        refine .cond_false rfl (by first | rfl | exact bne_eq_false_iff_eq.2 (q.got_nil (min (cN l q.i q.r) q.r.length) (bne_eq_false_iff_eq.1 hc60) (nv_t hg99))) ?_
        refine .skip ?_
        show Ev _ _ _ _ _
        refine .seq ?_
        refine .region ?_
        refine .q (op_move rfl) trivial rfl ?_
        refine .q (op_move rfl) trivial rfl ?_
        refine .as (.str (feedD q.h (q.r.take (min (cN l q.i q.r) q.r.length))).2) (congrArg AV.str (feedR_ok (bne_eq_false_iff_eq.1 hc60))) ?_
        refine .q (op_addS rfl rfl (by have h9 := q.got_le (min (cN l q.i q.r) q.r.length); rw [List.length_take] at h9; omega)) trivial rfl ?_
        refine .q (op_assign rfl) trivial rfl ?_
        refine .nil ?_
        show Ev _ _ _ _ _
        refine .region ?_
        refine .q (op_move rfl) trivial rfl ?_
        refine .q (op_move rfl) trivial rfl ?_
        refine .q (ap_slice_str_lo Tryd.underlying9 rfl (bnd_some rfl (l := (min (cN l q.i q.r) q.r.length)) rfl) (by omega)) trivial rfl ?_
        refine .q (op_assign rfl) trivial rfl ?_
        refine .nil ?_
        show Ev _ _ _ _ _
        refine .region ?_
        refine .q (op_move rfl) trivial rfl ?_
        refine .q (op_addI rfl rfl ⟨by omega, by omega⟩) trivial rfl ?_
        refine .q (op_assign rfl) trivial rfl ?_
        refine .nil ?_
        exact ⟨.inl ⟨q.step (min (cN l q.i q.r) q.r.length) hnp (Nat.min_le_right _ _) (bne_eq_false_iff_eq.1 hc60), hP⟩, (by show (q.r.drop (min (cN l q.i q.r) q.r.length)).length < q.r.length; rw [List.length_drop]; omega), StLe.mk [(1000, 1000), (1008, 1008)] rfl rfl ⟨⟨_, rfl, by first | rfl | (simp only [AV.ren]; congr 1; omega), rfl⟩, ⟨_, rfl, by first | rfl | (simp only [AV.ren]; congr 1; omega), rfl⟩, ⟨_, rfl, by first | rfl | (simp only [AV.ren]; congr 1; omega), rfl⟩, ⟨_, rfl, by first | rfl | (simp only [AV.ren]; congr 1; omega), rfl⟩, ⟨_, rfl, by first | rfl | (simp only [AV.ren]; congr 1; omega), rfl⟩, ⟨_, rfl, by first | rfl | (simp only [AV.ren]; congr 1; omega), rfl⟩, ⟨_, rfl, by first | rfl | (simp only [AV.ren]; congr 1; omega), rfl⟩, ⟨_, rfl, by first | rfl | (simp only [AV.ren]; congr 1; omega), rfl⟩, trivial⟩ ⟨⟨_, _, rfl, rfl, rfl, rfl, id, rfl⟩, ⟨_, _, rfl, rfl, rfl, rfl, id, rfl⟩, ⟨_, _, rfl, rfl, rfl, rfl, id, rfl⟩, ⟨_, _, rfl, rfl, rfl, rfl, id, rfl⟩, ⟨_, _, rfl, rfl, rfl, rfl, id, rfl⟩, ⟨_, _, rfl, rfl, rfl, rfl, id, rfl⟩, ⟨_, _, rfl, rfl, rfl, rfl, id, rfl⟩, ⟨_, _, rfl, rfl, rfl, rfl, id, rfl⟩, ⟨_, _, rfl, rfl, rfl, rfl, id, rfl⟩, ⟨_, _, rfl, rfl, rfl, rfl, id, rfl⟩, ⟨_, _, rfl, rfl, rfl, rfl, id, rfl⟩, ⟨_, _, rfl, rfl, rfl, rfl, id, rfl⟩, ⟨_, _, rfl, rfl, rfl, rfl, id, rfl⟩, ⟨_, _, rfl, rfl, rfl, rfl, id, rfl⟩, ⟨_, _, rfl, rfl, rfl, rfl, id, rfl⟩, ⟨_, _, rfl, rfl, rfl, rfl, id, rfl⟩, ⟨_, _, rfl, rfl, rfl, rfl, id, rfl⟩, ⟨_, _, rfl, rfl, rfl, rfl, id, rfl⟩, ⟨_, _, rfl, rfl, rfl, rfl, id, rfl⟩, ⟨_, _, rfl, rfl, rfl, rfl, id, rfl⟩, ⟨_, _, rfl, rfl, rfl, rfl, id, rfl⟩, ⟨_, _, rfl, rfl, rfl, rfl, id, rfl⟩, ⟨_, _, rfl, rfl, rfl, rfl, id, rfl⟩, ⟨_, _, rfl, rfl, rfl, rfl, id, rfl⟩, ⟨_, _, rfl, rfl, rfl, rfl, id, rfl⟩, ⟨_, _, rfl, rfl, rfl, rfl, id, rfl⟩, ⟨_, _, rfl, rfl, rfl, rfl, id, rfl⟩, ⟨_, _, rfl, rfl, rfl, rfl, id, rfl⟩, ⟨_, _, rfl, rfl, rfl, rfl, id, rfl⟩, ⟨_, _, rfl, rfl, rfl, rfl, id, rfl⟩, ⟨_, _, rfl, rfl, rfl, rfl, id, rfl⟩, ⟨_, _, rfl, rfl, rfl, rfl, id, rfl⟩, ⟨_, _, rfl, rfl, rfl, rfl, id, rfl⟩, ⟨_, _, rfl, rfl, rfl, rfl, id, rfl⟩, ⟨_, _, rfl, rfl, rfl, rfl, id, rfl⟩, ⟨_, _, rfl, rfl, rfl, rfl, id, rfl⟩, ⟨_, _, rfl, rfl, rfl, rfl, id, rfl⟩, ⟨_, _, rfl, rfl, rfl, rfl, id, rfl⟩, ⟨_, _, rfl, rfl, rfl, rfl, id, rfl⟩, ⟨_, _, rfl, rfl, rfl, rfl, id, rfl⟩, ⟨_, _, rfl, rfl, rfl, rfl, id, rfl⟩, ⟨_, _, rfl, rfl, rfl, rfl, id, rfl⟩, ⟨_, _, rfl, rfl, cut_ren _ o l, rfl, id, cut_nm _ o l⟩, trivial⟩⟩
       ·skip
        refine .no ⟨_, rfl, rfl⟩ rfl ?_
        refine .no ⟨_, rfl, rfl⟩ rfl ?_
        refine .q (op_pick_false rfl rfl rfl) ⟨_, rfl, rfl⟩ rfl ?_
        refine .q (op_pick_false rfl rfl rfl) trivial rfl ?_
        refine .nil ?_
        show Ev _ _ _ _ _
        refine .cond_false rfl rfl ?_
        refine .skip ?_
        show Ev _ _ _ _ _
        refine .seq ?_
        refine .region ?_
        refine .q (op_move rfl) trivial rfl ?_
        refine .q (op_move rfl) trivial rfl ?_
        refine .as (.str (feedD q.h (q.r.take (min (cN l q.i q.r) q.r.length))).2) (congrArg AV.str (feedR_ok (bne_eq_false_iff_eq.1 hc60))) ?_
        refine .q (op_addS rfl rfl (by have h9 := q.got_le (min (cN l q.i q.r) q.r.length); rw [List.length_take] at h9; omega)) trivial rfl ?_
        refine .q (op_assign rfl) trivial rfl ?_
        refine .nil ?_
        show Ev _ _ _ _ _
        refine .region ?_
        refine .q (op_move rfl) trivial rfl ?_
        refine .q (op_move rfl) trivial rfl ?_
        refine .q (ap_slice_str_lo Tryd.underlying9 rfl (bnd_some rfl (l := (min (cN l q.i q.r) q.r.length)) rfl) (by omega)) trivial rfl ?_
        refine .q (op_assign rfl) trivial rfl ?_
        refine .nil ?_
        show Ev _ _ _ _ _
        refine .region ?_
        refine .q (op_move rfl) trivial rfl ?_
        refine .q (op_addI rfl rfl ⟨by omega, by omega⟩) trivial rfl ?_
        refine .q (op_assign rfl) trivial rfl ?_
        refine .nil ?_
        exact ⟨.inl ⟨q.step (min (cN l q.i q.r) q.r.length) hnp (Nat.min_le_right _ _) (bne_eq_false_iff_eq.1 hc60), hP⟩, (by show (q.r.drop (min (cN l q.i q.r) q.r.length)).length < q.r.length; rw [List.length_drop]; omega), StLe.mk [(1000, 1000), (1008, 1008)] rfl rfl ⟨⟨_, rfl, by first | rfl | (simp only [AV.ren]; congr 1; omega), rfl⟩, ⟨_, rfl, by first | rfl | (simp only [AV.ren]; congr 1; omega), rfl⟩, ⟨_, rfl, by first | rfl | (simp only [AV.ren]; congr 1; omega), rfl⟩, ⟨_, rfl, by first | rfl | (simp only [AV.ren]; congr 1; omega), rfl⟩, ⟨_, rfl, by first | rfl | (simp only [AV.ren]; congr 1; omega), rfl⟩, ⟨_, rfl, by first | rfl | (simp only [AV.ren]; congr 1; omega), rfl⟩, ⟨_, rfl, by first | rfl | (simp only [AV.ren]; congr 1; omega), rfl⟩, ⟨_, rfl, by first | rfl | (simp only [AV.ren]; congr 1; omega), rfl⟩, trivial⟩ ⟨⟨_, _, rfl, rfl, rfl, rfl, id, rfl⟩, ⟨_, _, rfl, rfl, rfl, rfl, id, rfl⟩, ⟨_, _, rfl, rfl, rfl, rfl, id, rfl⟩, ⟨_, _, rfl, rfl, rfl, rfl, id, rfl⟩, ⟨_, _, rfl, rfl, rfl, rfl, id, rfl⟩, ⟨_, _, rfl, rfl, rfl, rfl, id, rfl⟩, ⟨_, _, rfl, rfl, rfl, rfl, id, rfl⟩, ⟨_, _, rfl, rfl, rfl, rfl, id, rfl⟩, ⟨_, _, rfl, rfl, rfl, rfl, id, rfl⟩, ⟨_, _, rfl, rfl, rfl, rfl, id, rfl⟩, ⟨_, _, rfl, rfl, rfl, rfl, id, rfl⟩, ⟨_, _, rfl, rfl, rfl, rfl, id, rfl⟩, ⟨_, _, rfl, rfl, rfl, rfl, id, rfl⟩, ⟨_, _, rfl, rfl, rfl, rfl, id, rfl⟩, ⟨_, _, rfl, rfl, rfl, rfl, id, rfl⟩, ⟨_, _, rfl, rfl, rfl, rfl, id, rfl⟩, ⟨_, _, rfl, rfl, rfl, rfl, id, rfl⟩, ⟨_, _, rfl, rfl, rfl, rfl, id, rfl⟩, ⟨_, _, rfl, rfl, rfl, rfl, id, rfl⟩, ⟨_, _, rfl, rfl, rfl, rfl, id, rfl⟩, ⟨_, _, rfl, rfl, rfl, rfl, id, rfl⟩, ⟨_, _, rfl, rfl, rfl, rfl, id, rfl⟩, ⟨_, _, rfl, rfl, rfl, rfl, id, rfl⟩, ⟨_, _, rfl, rfl, rfl, rfl, id, rfl⟩, ⟨_, _, rfl, rfl, rfl, rfl, id, rfl⟩, ⟨_, _, rfl, rfl, rfl, rfl, id, rfl⟩, ⟨_, _, rfl, rfl, rfl, rfl, id, rfl⟩, ⟨_, _, rfl, rfl, rfl, rfl, id, rfl⟩, ⟨_, _, rfl, rfl, rfl, rfl, id, rfl⟩, ⟨_, _, rfl, rfl, rfl, rfl, id, rfl⟩, ⟨_, _, rfl, rfl, rfl, rfl, id, rfl⟩, ⟨_, _, rfl, rfl, rfl, rfl, id, rfl⟩, ⟨_, _, rfl, rfl, rfl, rfl, id, rfl⟩, ⟨_, _, rfl, rfl, rfl, rfl, id, rfl⟩, ⟨_, _, rfl, rfl, rfl, rfl, id, rfl⟩, ⟨_, _, rfl, rfl, rfl, rfl, id, rfl⟩, ⟨_, _, rfl, rfl, rfl, rfl, id, rfl⟩, ⟨_, _, rfl, rfl, rfl, rfl, id, rfl⟩, ⟨_, _, rfl, rfl, rfl, rfl, id, rfl⟩, ⟨_, _, rfl, rfl, rfl, rfl, id, rfl⟩, ⟨_, _, rfl, rfl, rfl, rfl, id, rfl⟩, ⟨_, _, rfl, rfl, rfl, rfl, id, rfl⟩, ⟨_, _, rfl, rfl, cut_ren _ o l, rfl, id, cut_nm _ o l⟩, trivial⟩⟩
    ·refine .a (op_call (U := [(1000, some ⟨.agg [.bool ((feedD q.h (q.r.take (min (cN l q.i q.r) q.r.length))).1).c, .sl 1024 0 (feedD q.h (q.r.take (min (cN l q.i q.r) q.r.length))).1.p.length 1, .i64 ((((feedD q.h (q.r.take (min (cN l q.i q.r) q.r.length))).1).g : Nat) : Int), .str ((feedD q.h (q.r.take (min (cN l q.i q.r) q.r.length))).1).v, .err 225 (((feedD q.h (q.r.take (min (cN l q.i q.r) q.r.length))).1).e) (offE eo (((feedD q.h (q.r.take (min (cN l q.i q.r) q.r.length))).1).e))], 115, true⟩), (1024, some ⟨.aggB (feedD q.h (q.r.take (min (cN l q.i q.r) q.r.length))).1.p, 5, true⟩)]) [(500, 1000)] [(1024, 1000)] (feed_ns q.h (q.r.take (min (cN l q.i q.r) q.r.length)) q.fine hq (by rw [List.length_take]; omega) hP eo) Tryd.func31 (by kernel_rfl) rfl rfl rfl (⟨⟨_, rfl, rfl, rfl⟩, ⟨_, rfl, rfl, rfl⟩, trivial⟩) (⟨⟨_, _, rfl, rfl, rfl, rfl, id, rfl⟩, ⟨_, _, rfl, rfl, rfl, rfl, (fun h => by cases h), rfl⟩, ⟨_, _, rfl, rfl, rfl, rfl, (fun h => by cases h), rfl⟩, ⟨_, _, rfl, rfl, rfl, rfl, (fun h => by cases h), rfl⟩, trivial⟩) (⟨⟨500, _, rfl, rfl, rfl, rfl, .inr ⟨rfl, _, rfl, rfl⟩⟩, ⟨1000, _, rfl, rfl, rfl, rfl, .inl rfl⟩, trivial⟩) (⟨(fun _ => ⟨1000, _, rfl, rfl⟩), (fun h => by cases h), (fun h => by cases h), (fun h => by cases h), trivial⟩) rfl) trivial rfl ?_
     refine .q (op_move rfl) trivial rfl ?_
     refine .q (op_extract rfl rfl) trivial rfl ?_
     refine .q (op_extract rfl rfl) trivial rfl ?_
     refine .q (op_assign rfl) trivial rfl ?_
     refine .q (op_assign rfl) trivial rfl ?_
     refine .nil ?_
     show Ev _ _ _ _ _
     refine .seq ?_
     refine .seq ?_
     refine .region ?_
     refine .q (op_move rfl) trivial rfl ?_
     refine .q (op_eqErrNil (e := (feedD q.h (q.r.take (min (cN l q.i q.r) q.r.length))).1.e) Tryd.underlying26 rfl rfl) trivial rfl ?_
     refine .nil ?_
     show Ev _ _ _ _ _
     refine .cond_false rfl (bne_eq_false_iff_eq.2 (Classical.byContradiction fun he => hP (q.err (min (cN l q.i q.r) q.r.length) he).2.2)) ?_
     refine .skip ?_
     show Ev _ _ _ _ _
     refine .seq ?_
     refine .seq ?_
     refine .region ?_
     refine .q (op_move rfl) trivial rfl ?_
     refine .q (op_move rfl) trivial rfl ?_
     refine .split (fun hg88 => ?_) (fun hg88 => ?_)
     ·skip
      refine .q (op_move rfl) ⟨_, rfl, rfl⟩ rfl ?_
      refine .q (op_move rfl) ⟨_, rfl, rfl⟩ rfl ?_
      refine .q (op_move rfl) ⟨_, rfl, rfl⟩ rfl ?_
      refine .q (ap_slice_str_hi Tryd.underlying9 rfl (bnd_some rfl (l := (min (cN l q.i q.r) q.r.length)) rfl) (by omega)) ⟨_, rfl, rfl⟩ rfl ?_
      refine .q (op_eqS rfl rfl rfl) ⟨_, rfl, rfl⟩ rfl ?_
      refine .q (op_pick_true rfl rfl rfl) trivial rfl ?_
      refine .q (op_move rfl) trivial rfl ?_
      refine .know (b' := false) (by first | rfl | exact bne_eq_false_iff_eq.2 (q.got_same (min (cN l q.i q.r) q.r.length) (bne_iff_ne.1 hg88))) ?_
      refine .q (op_move rfl) ⟨_, rfl, rfl⟩ rfl ?_
      refine .q (op_call (U := []) [(500, 1000), (501, 1024)] [] (done_s (feedD q.h (q.r.take (min (cN l q.i q.r) q.r.length))).1 eo) Tryd.func30 (by kernel_rfl) rfl rfl rfl (⟨⟨_, rfl, rfl, rfl⟩, trivial⟩) (⟨⟨_, _, rfl, rfl, rfl, rfl, (fun h => by cases h), rfl⟩, trivial⟩) (trivial) (⟨(fun h => by cases h), trivial⟩) rfl) ⟨_, rfl, rfl⟩ rfl ?_
      refine .q (op_notB rfl) ⟨_, rfl, rfl⟩ rfl ?_
      refine .q (op_move rfl) ⟨_, rfl, rfl⟩ rfl ?_
      refine .split (fun hg99 => ?_) (fun hg99 => ?_)
      ·skip
       refine .q (op_move rfl) ⟨_, rfl, rfl⟩ rfl ?_
       refine .q (op_eqS rfl rfl rfl) ⟨_, rfl, rfl⟩ rfl ?_
       refine .q (op_pick_true rfl rfl rfl) ⟨_, rfl, rfl⟩ rfl ?_
       refine .q (op_pick_false rfl rfl rfl) trivial rfl ?_
       refine .nil ?_
       show Ev _ _ _ _ _
       refine .cond_false rfl (by first | rfl | exact bne_eq_false_iff_eq.2 (q.got_nil (min (cN l q.i q.r) q.r.length) (Classical.byContradiction fun he => hP (q.err (min (cN l q.i q.r) q.r.length) he).2.2) (nv_t hg99))) ?_
       refine .skip ?_
       show Ev _ _ _ _ _
       refine .seq ?_
       refine .region ?_
       refine .q (op_move rfl) trivial rfl ?_
       refine .q (op_move rfl) trivial rfl ?_
       refine .as (.str (feedD q.h (q.r.take (min (cN l q.i q.r) q.r.length))).2) (congrArg AV.str (feedR_ok (Classical.byContradiction fun he => hP (q.err (min (cN l q.i q.r) q.r.length) he).2.2))) ?_
       refine .q (op_addS rfl rfl (by have h9 := q.got_le (min (cN l q.i q.r) q.r.length); rw [List.length_take] at h9; omega)) trivial rfl ?_
       refine .q (op_assign rfl) trivial rfl ?_
       refine .nil ?_
       show Ev _ _ _ _ _
       refine .region ?_
       refine .q (op_move rfl) trivial rfl ?_
       refine .q (op_move rfl) trivial rfl ?_
       refine .q (ap_slice_str_lo Tryd.underlying9 rfl (bnd_some rfl (l := (min (cN l q.i q.r) q.r.length)) rfl) (by omega)) trivial rfl ?_
       refine .q (op_assign rfl) trivial rfl ?_
       refine .nil ?_
       show Ev _ _ _ _ _
       refine .region ?_
       refine .q (op_move rfl) trivial rfl ?_
       refine .q (op_addI rfl rfl ⟨by omega, by omega⟩) trivial rfl ?_
       refine .q (op_assign rfl) trivial rfl ?_
       refine .nil ?_
       exact ⟨.inr ⟨q.step (min (cN l q.i q.r) q.r.length) hnp (Nat.min_le_right _ _) (Classical.byContradiction fun he => hP (q.err (min (cN l q.i q.r) q.r.length) he).2.2), hP⟩, (by show (q.r.drop (min (cN l q.i q.r) q.r.length)).length < q.r.length; rw [List.length_drop]; omega), StLe.mk [(1000, 1000), (1008, 1008), (1016, 1024)] rfl rfl ⟨⟨_, rfl, by first | rfl | (simp only [AV.ren]; congr 1; omega), rfl⟩, ⟨_, rfl, by first | rfl | (simp only [AV.ren]; congr 1; omega), rfl⟩, ⟨_, rfl, by first | rfl | (simp only [AV.ren]; congr 1; omega), rfl⟩, ⟨_, rfl, by first | rfl | (simp only [AV.ren]; congr 1; omega), rfl⟩, ⟨_, rfl, by first | rfl | (simp only [AV.ren]; congr 1; omega), rfl⟩, ⟨_, rfl, by first | rfl | (simp only [AV.ren]; congr 1; omega), rfl⟩, ⟨_, rfl, by first | rfl | (simp only [AV.ren]; congr 1; omega), rfl⟩, ⟨_, rfl, by first | rfl | (simp only [AV.ren]; congr 1; omega), rfl⟩, trivial⟩ ⟨⟨_, _, rfl, rfl, rfl, rfl, id, rfl⟩, ⟨_, _, rfl, rfl, rfl, rfl, id, rfl⟩, ⟨_, _, rfl, rfl, rfl, rfl, id, rfl⟩, ⟨_, _, rfl, rfl, rfl, rfl, id, rfl⟩, ⟨_, _, rfl, rfl, rfl, rfl, id, rfl⟩, ⟨_, _, rfl, rfl, rfl, rfl, id, rfl⟩, ⟨_, _, rfl, rfl, rfl, rfl, id, rfl⟩, ⟨_, _, rfl, rfl, rfl, rfl, id, rfl⟩, ⟨_, _, rfl, rfl, rfl, rfl, id, rfl⟩, ⟨_, _, rfl, rfl, rfl, rfl, id, rfl⟩, ⟨_, _, rfl, rfl, rfl, rfl, id, rfl⟩, ⟨_, _, rfl, rfl, rfl, rfl, id, rfl⟩, ⟨_, _, rfl, rfl, rfl, rfl, id, rfl⟩, ⟨_, _, rfl, rfl, rfl, rfl, id, rfl⟩, ⟨_, _, rfl, rfl, rfl, rfl, id, rfl⟩, ⟨_, _, rfl, rfl, rfl, rfl, id, rfl⟩, ⟨_, _, rfl, rfl, rfl, rfl, id, rfl⟩, ⟨_, _, rfl, rfl, rfl, rfl, id, rfl⟩, ⟨_, _, rfl, rfl, rfl, rfl, id, rfl⟩, ⟨_, _, rfl, rfl, rfl, rfl, id, rfl⟩, ⟨_, _, rfl, rfl, rfl, rfl, id, rfl⟩, ⟨_, _, rfl, rfl, rfl, rfl, id, rfl⟩, ⟨_, _, rfl, rfl, rfl, rfl, id, rfl⟩, ⟨_, _, rfl, rfl, rfl, rfl, id, rfl⟩, ⟨_, _, rfl, rfl, rfl, rfl, id, rfl⟩, ⟨_, _, rfl, rfl, rfl, rfl, id, rfl⟩, ⟨_, _, rfl, rfl, rfl, rfl, id, rfl⟩, ⟨_, _, rfl, rfl, rfl, rfl, id, rfl⟩, ⟨_, _, rfl, rfl, rfl, rfl, id, rfl⟩, ⟨_, _, rfl, rfl, rfl, rfl, id, rfl⟩, ⟨_, _, rfl, rfl, rfl, rfl, id, rfl⟩, ⟨_, _, rfl, rfl, rfl, rfl, id, rfl⟩, ⟨_, _, rfl, rfl, rfl, rfl, id, rfl⟩, ⟨_, _, rfl, rfl, rfl, rfl, id, rfl⟩, ⟨_, _, rfl, rfl, rfl, rfl, id, rfl⟩, ⟨_, _, rfl, rfl, rfl, rfl, id, rfl⟩, ⟨_, _, rfl, rfl, rfl, rfl, id, rfl⟩, ⟨_, _, rfl, rfl, rfl, rfl, id, rfl⟩, ⟨_, _, rfl, rfl, rfl, rfl, id, rfl⟩, ⟨_, _, rfl, rfl, rfl, rfl, id, rfl⟩, ⟨_, _, rfl, rfl, rfl, rfl, id, rfl⟩, ⟨_, _, rfl, rfl, rfl, rfl, id, rfl⟩, ⟨_, _, rfl, rfl, rfl, rfl, id, rfl⟩, ⟨_, _, rfl, rfl, cut_ren _ o l, rfl, id, cut_nm _ o l⟩, trivial⟩⟩
      ·skip
       refine .no ⟨_, rfl, rfl⟩ rfl ?_
       refine .no ⟨_, rfl, rfl⟩ rfl ?_
       refine .q (op_pick_false rfl rfl rfl) ⟨_, rfl, rfl⟩ rfl ?_
       refine .q (op_pick_false rfl rfl rfl) trivial rfl ?_
       refine .nil ?_
       show Ev _ _ _ _ _
       refine .cond_false rfl rfl ?_
       refine .skip ?_
       show Ev _ _ _ _ _
       refine .seq ?_
       refine .region ?_
       refine .q (op_move rfl) trivial rfl ?_
       refine .q (op_move rfl) trivial rfl ?_
       refine .as (.str (feedD q.h (q.r.take (min (cN l q.i q.r) q.r.length))).2) (congrArg AV.str (feedR_ok (Classical.byContradiction fun he => hP (q.err (min (cN l q.i q.r) q.r.length) he).2.2))) ?_
       refine .q (op_addS rfl rfl (by have h9 := q.got_le (min (cN l q.i q.r) q.r.length); rw [List.length_take] at h9; omega)) trivial rfl ?_
       refine .q (op_assign rfl) trivial rfl ?_
       refine .nil ?_
       show Ev _ _ _ _ _
       refine .region ?_
       refine .q (op_move rfl) trivial rfl ?_
       refine .q (op_move rfl) trivial rfl ?_
       refine .q (ap_slice_str_lo Tryd.underlying9 rfl (bnd_some rfl (l := (min (cN l q.i q.r) q.r.length)) rfl) (by omega)) trivial rfl ?_
       refine .q (op_assign rfl) trivial rfl ?_
       refine .nil ?_
       show Ev _ _ _ _ _
       refine .region ?_
       refine .q (op_move rfl) trivial rfl ?_
       refine .q (op_addI rfl rfl ⟨by omega, by omega⟩) trivial rfl ?_
       refine .q (op_assign rfl) trivial rfl ?_
       refine .nil ?_
       exact ⟨.inr ⟨q.step (min (cN l q.i q.r) q.r.length) hnp (Nat.min_le_right _ _) (Classical.byContradiction fun he => hP (q.err (min (cN l q.i q.r) q.r.length) he).2.2), hP⟩, (by show (q.r.drop (min (cN l q.i q.r) q.r.length)).length < q.r.length; rw [List.length_drop]; omega), StLe.mk [(1000, 1000), (1008, 1008), (1016, 1024)] rfl rfl ⟨⟨_, rfl, by first | rfl | (simp only [AV.ren]; congr 1; omega), rfl⟩, ⟨_, rfl, by first | rfl | (simp only [AV.ren]; congr 1; omega), rfl⟩, ⟨_, rfl, by first | rfl | (simp only [AV.ren]; congr 1; omega), rfl⟩, ⟨_, rfl, by first | rfl | (simp only [AV.ren]; congr 1; omega), rfl⟩, ⟨_, rfl, by first | rfl | (simp only [AV.ren]; congr 1; omega), rfl⟩, ⟨_, rfl, by first | rfl | (simp only [AV.ren]; congr 1; omega), rfl⟩, ⟨_, rfl, by first | rfl | (simp only [AV.ren]; congr 1; omega), rfl⟩, ⟨_, rfl, by first | rfl | (simp only [AV.ren]; congr 1; omega), rfl⟩, trivial⟩ ⟨⟨_, _, rfl, rfl, rfl, rfl, id, rfl⟩, ⟨_, _, rfl, rfl, rfl, rfl, id, rfl⟩, ⟨_, _, rfl, rfl, rfl, rfl, id, rfl⟩, ⟨_, _, rfl, rfl, rfl, rfl, id, rfl⟩, ⟨_, _, rfl, rfl, rfl, rfl, id, rfl⟩, ⟨_, _, rfl, rfl, rfl, rfl, id, rfl⟩, ⟨_, _, rfl, rfl, rfl, rfl, id, rfl⟩, ⟨_, _, rfl, rfl, rfl, rfl, id, rfl⟩, ⟨_, _, rfl, rfl, rfl, rfl, id, rfl⟩, ⟨_, _, rfl, rfl, rfl, rfl, id, rfl⟩, ⟨_, _, rfl, rfl, rfl, rfl, id, rfl⟩, ⟨_, _, rfl, rfl, rfl, rfl, id, rfl⟩, ⟨_, _, rfl, rfl, rfl, rfl, id, rfl⟩, ⟨_, _, rfl, rfl, rfl, rfl, id, rfl⟩, ⟨_, _, rfl, rfl, rfl, rfl, id, rfl⟩, ⟨_, _, rfl, rfl, rfl, rfl, id, rfl⟩, ⟨_, _, rfl, rfl, rfl, rfl, id, rfl⟩, ⟨_, _, rfl, rfl, rfl, rfl, id, rfl⟩, ⟨_, _, rfl, rfl, rfl, rfl, id, rfl⟩, ⟨_, _, rfl, rfl, rfl, rfl, id, rfl⟩, ⟨_, _, rfl, rfl, rfl, rfl, id, rfl⟩, ⟨_, _, rfl, rfl, rfl, rfl, id, rfl⟩, ⟨_, _, rfl, rfl, rfl, rfl, id, rfl⟩, ⟨_, _, rfl, rfl, rfl, rfl, id, rfl⟩, ⟨_, _, rfl, rfl, rfl, rfl, id, rfl⟩, ⟨_, _, rfl, rfl, rfl, rfl, id, rfl⟩, ⟨_, _, rfl, rfl, rfl, rfl, id, rfl⟩, ⟨_, _, rfl, rfl, rfl, rfl, id, rfl⟩, ⟨_, _, rfl, rfl, rfl, rfl, id, rfl⟩, ⟨_, _, rfl, rfl, rfl, rfl, id, rfl⟩, ⟨_, _, rfl, rfl, rfl, rfl, id, rfl⟩, ⟨_, _, rfl, rfl, rfl, rfl, id, rfl⟩, ⟨_, _, rfl, rfl, rfl, rfl, id, rfl⟩, ⟨_, _, rfl, rfl, rfl, rfl, id, rfl⟩, ⟨_, _, rfl, rfl, rfl, rfl, id, rfl⟩, ⟨_, _, rfl, rfl, rfl, rfl, id, rfl⟩, ⟨_, _, rfl, rfl, rfl, rfl, id, rfl⟩, ⟨_, _, rfl, rfl, rfl, rfl, id, rfl⟩, ⟨_, _, rfl, rfl, rfl, rfl, id, rfl⟩, ⟨_, _, rfl, rfl, rfl, rfl, id, rfl⟩, ⟨_, _, rfl, rfl, rfl, rfl, id, rfl⟩, ⟨_, _, rfl, rfl, rfl, rfl, id, rfl⟩, ⟨_, _, rfl, rfl, rfl, rfl, id, rfl⟩, ⟨_, _, rfl, rfl, cut_ren _ o l, rfl, id, cut_nm _ o l⟩, trivial⟩⟩
     ·skip
      refine .no ⟨_, rfl, rfl⟩ rfl ?_
      refine .no ⟨_, rfl, rfl⟩ rfl ?_
      refine .no ⟨_, rfl, rfl⟩ rfl ?_
      refine .no ⟨_, rfl, rfl⟩ rfl ?_
      refine .no ⟨_, rfl, rfl⟩ rfl ?_
      refine .q (op_pick_false rfl rfl rfl) trivial rfl ?_
      refine .q (op_move rfl) trivial rfl ?_
      refine .q (op_move rfl) ⟨_, rfl, rfl⟩ rfl ?_
      refine .q (op_call (U := []) [(500, 1000), (501, 1024)] [] (done_s (feedD q.h (q.r.take (min (cN l q.i q.r) q.r.length))).1 eo) Tryd.func30 (by kernel_rfl) rfl rfl rfl (⟨⟨_, rfl, rfl, rfl⟩, trivial⟩) (⟨⟨_, _, rfl, rfl, rfl, rfl, (fun h => by cases h), rfl⟩, trivial⟩) (trivial) (⟨(fun h => by cases h), trivial⟩) rfl) ⟨_, rfl, rfl⟩ rfl ?_
      refine .q (op_notB rfl) ⟨_, rfl, rfl⟩ rfl ?_
      refine .q (op_move rfl) ⟨_, rfl, rfl⟩ rfl ?_
      refine .split (fun hg99 => ?_) (fun hg99 => ?_)
      ·skip
       refine .q (op_move rfl) ⟨_, rfl, rfl⟩ rfl ?_
       refine .q (op_eqS rfl rfl rfl) ⟨_, rfl, rfl⟩ rfl ?_
       refine .q (op_pick_true rfl rfl rfl) ⟨_, rfl, rfl⟩ rfl ?_
       refine .q (op_pick_false rfl rfl rfl) trivial rfl ?_
       refine .nil ?_
       show Ev _ _ _ _ _
       refine .cond_false rfl (by first | rfl | exact bne_eq_false_iff_eq.2 (q.got_nil (min (cN l q.i q.r) q.r.length) (Classical.byContradiction fun he => hP (q.err (min (cN l q.i q.r) q.r.length) he).2.2) (nv_t hg99))) ?_
       refine .skip ?_
       show Ev _ _ _ _ _
       refine .seq ?_
       refine .region ?_
       refine .q (op_move rfl) trivial rfl ?_
       refine .q (op_move rfl) trivial rfl ?_
       refine .as (.str (feedD q.h (q.r.take (min (cN l q.i q.r) q.r.length))).2) (congrArg AV.str (feedR_ok (Classical.byContradiction fun he => hP (q.err (min (cN l q.i q.r) q.r.length) he).2.2))) ?_
       refine .q (op_addS rfl rfl (by have h9 := q.got_le (min (cN l q.i q.r) q.r.length); rw [List.length_take] at h9; omega)) trivial rfl ?_
       refine .q (op_assign rfl) trivial rfl ?_
       refine .nil ?_
       show Ev _ _ _ _ _
       refine .region ?_
       refine .q (op_move rfl) trivial rfl ?_
       refine .q (op_move rfl) trivial rfl ?_
       refine .q (ap_slice_str_lo Tryd.underlying9 rfl (bnd_some rfl (l := (min (cN l q.i q.r) q.r.length)) rfl) (by omega)) trivial rfl ?_
       refine .q (op_assign rfl) trivial rfl ?_
       refine .nil ?_
       show Ev _ _ _ _ _
       refine .region ?_
       refine .q (op_move rfl) trivial rfl ?_
       refine .q (op_addI rfl rfl ⟨by omega, by omega⟩) trivial rfl ?_
       refine .q (op_assign rfl) trivial rfl ?_
       refine .nil ?_
       exact ⟨.inr ⟨q.step (min (cN l q.i q.r) q.r.length) hnp (Nat.min_le_right _ _) (Classical.byContradiction fun he => hP (q.err (min (cN l q.i q.r) q.r.length) he).2.2), hP⟩, (by show (q.r.drop (min (cN l q.i q.r) q.r.length)).length < q.r.length; rw [List.length_drop]; omega), StLe.mk [(1000, 1000), (1008, 1008), (1016, 1024)] rfl rfl ⟨⟨_, rfl, by first | rfl | (simp only [AV.ren]; congr 1; omega), rfl⟩, ⟨_, rfl, by first | rfl | (simp only [AV.ren]; congr 1; omega), rfl⟩, ⟨_, rfl, by first | rfl | (simp only [AV.ren]; congr 1; omega), rfl⟩, ⟨_, rfl, by first | rfl | (simp only [AV.ren]; congr 1; omega), rfl⟩, ⟨_, rfl, by first | rfl | (simp only [AV.ren]; congr 1; omega), rfl⟩, ⟨_, rfl, by first | rfl | (simp only [AV.ren]; congr 1; omega), rfl⟩, ⟨_, rfl, by first | rfl | (simp only [AV.ren]; congr 1; omega), rfl⟩, ⟨_, rfl, by first | rfl | (simp only [AV.ren]; congr 1; omega), rfl⟩, trivial⟩ ⟨⟨_, _, rfl, rfl, rfl, rfl, id, rfl⟩, ⟨_, _, rfl, rfl, rfl, rfl, id, rfl⟩, ⟨_, _, rfl, rfl, rfl, rfl, id, rfl⟩, ⟨_, _, rfl, rfl, rfl, rfl, id, rfl⟩, ⟨_, _, rfl, rfl, rfl, rfl, id, rfl⟩, ⟨_, _, rfl, rfl, rfl, rfl, id, rfl⟩, ⟨_, _, rfl, rfl, rfl, rfl, id, rfl⟩, ⟨_, _, rfl, rfl, rfl, rfl, id, rfl⟩, ⟨_, _, rfl, rfl, rfl, rfl, id, rfl⟩, ⟨_, _, rfl, rfl, rfl, rfl, id, rfl⟩, ⟨_, _, rfl, rfl, rfl, rfl, id, rfl⟩, ⟨_, _, rfl, rfl, rfl, rfl, id, rfl⟩, ⟨_, _, rfl, rfl, rfl, rfl, id, rfl⟩, ⟨_, _, rfl, rfl, rfl, rfl, id, rfl⟩, ⟨_, _, rfl, rfl, rfl, rfl, id, rfl⟩, ⟨_, _, rfl, rfl, rfl, rfl, id, rfl⟩, ⟨_, _, rfl, rfl, rfl, rfl, id, rfl⟩, ⟨_, _, rfl, rfl, rfl, rfl, id, rfl⟩, ⟨_, _, rfl, rfl, rfl, rfl, id, rfl⟩, ⟨_, _, rfl, rfl, rfl, rfl, id, rfl⟩, ⟨_, _, rfl, rfl, rfl, rfl, id, rfl⟩, ⟨_, _, rfl, rfl, rfl, rfl, id, rfl⟩, ⟨_, _, rfl, rfl, rfl, rfl, id, rfl⟩, ⟨_, _, rfl, rfl, rfl, rfl, id, rfl⟩, ⟨_, _, rfl, rfl, rfl, rfl, id, rfl⟩, ⟨_, _, rfl, rfl, rfl, rfl, id, rfl⟩, ⟨_, _, rfl, rfl, rfl, rfl, id, rfl⟩, ⟨_, _, rfl, rfl, rfl, rfl, id, rfl⟩, ⟨_, _, rfl, rfl, rfl, rfl, id, rfl⟩, ⟨_, _, rfl, rfl, rfl, rfl, id, rfl⟩, ⟨_, _, rfl, rfl, rfl, rfl, id, rfl⟩, ⟨_, _, rfl, rfl, rfl, rfl, id, rfl⟩, ⟨_, _, rfl, rfl, rfl, rfl, id, rfl⟩, ⟨_, _, rfl, rfl, rfl, rfl, id, rfl⟩, ⟨_, _, rfl, rfl, rfl, rfl, id, rfl⟩, ⟨_, _, rfl, rfl, rfl, rfl, id, rfl⟩, ⟨_, _, rfl, rfl, rfl, rfl, id, rfl⟩, ⟨_, _, rfl, rfl, rfl, rfl, id, rfl⟩, ⟨_, _, rfl, rfl, rfl, rfl, id, rfl⟩, ⟨_, _, rfl, rfl, rfl, rfl, id, rfl⟩, ⟨_, _, rfl, rfl, rfl, rfl, id, rfl⟩, ⟨_, _, rfl, rfl, rfl, rfl, id, rfl⟩, ⟨_, _, rfl, rfl, rfl, rfl, id, rfl⟩, ⟨_, _, rfl, rfl, cut_ren _ o l, rfl, id, cut_nm _ o l⟩, trivial⟩⟩
      ·skip
       refine .no ⟨_, rfl, rfl⟩ rfl ?_
       refine .no ⟨_, rfl, rfl⟩ rfl ?_
       refine .q (op_pick_false rfl rfl rfl) ⟨_, rfl, rfl⟩ rfl ?_
       refine .q (op_pick_false rfl rfl rfl) trivial rfl ?_
       refine .nil ?_
       show Ev _ _ _ _ _
       refine .cond_false rfl rfl ?_
       refine .skip ?_
       show Ev _ _ _ _ _
       refine .seq ?_
       refine .region ?_
       refine .q (op_move rfl) trivial rfl ?_
       refine .q (op_move rfl) trivial rfl ?_
       refine .as (.str (feedD q.h (q.r.take (min (cN l q.i q.r) q.r.length))).2) (congrArg AV.str (feedR_ok (Classical.byContradiction fun he => hP (q.err (min (cN l q.i q.r) q.r.length) he).2.2))) ?_
       refine .q (op_addS rfl rfl (by have h9 := q.got_le (min (cN l q.i q.r) q.r.length); rw [List.length_take] at h9; omega)) trivial rfl ?_
       refine .q (op_assign rfl) trivial rfl ?_
       refine .nil ?_
       show Ev _ _ _ _ _
       refine .region ?_
       refine .q (op_move rfl) trivial rfl ?_
       refine .q (op_move rfl) trivial rfl ?_
       refine .q (ap_slice_str_lo Tryd.underlying9 rfl (bnd_some rfl (l := (min (cN l q.i q.r) q.r.length)) rfl) (by omega)) trivial rfl ?_
       refine .q (op_assign rfl) trivial rfl ?_
       refine .nil ?_
       show Ev _ _ _ _ _
       refine .region ?_
       refine .q (op_move rfl) trivial rfl ?_
       refine .q (op_addI rfl rfl ⟨by omega, by omega⟩) trivial rfl ?_
       refine .q (op_assign rfl) trivial rfl ?_
       refine .nil ?_
       exact ⟨.inr ⟨q.step (min (cN l q.i q.r) q.r.length) hnp (Nat.min_le_right _ _) (Classical.byContradiction fun he => hP (q.err (min (cN l q.i q.r) q.r.length) he).2.2), hP⟩, (by show (q.r.drop (min (cN l q.i q.r) q.r.length)).length < q.r.length; rw [List.length_drop]; omega), StLe.mk [(1000, 1000), (1008, 1008), (1016, 1024)] rfl rfl ⟨⟨_, rfl, by first | rfl | (simp only [AV.ren]; congr 1; omega), rfl⟩, ⟨_, rfl, by first | rfl | (simp only [AV.ren]; congr 1; omega), rfl⟩, ⟨_, rfl, by first | rfl | (simp only [AV.ren]; congr 1; omega), rfl⟩, ⟨_, rfl, by first | rfl | (simp only [AV.ren]; congr 1; omega), rfl⟩, ⟨_, rfl, by first | rfl | (simp only [AV.ren]; congr 1; omega), rfl⟩, ⟨_, rfl, by first | rfl | (simp only [AV.ren]; congr 1; omega), rfl⟩, ⟨_, rfl, by first | rfl | (simp only [AV.ren]; congr 1; omega), rfl⟩, ⟨_, rfl, by first | rfl | (simp only [AV.ren]; congr 1; omega), rfl⟩, trivial⟩ ⟨⟨_, _, rfl, rfl, rfl, rfl, id, rfl⟩, ⟨_, _, rfl, rfl, rfl, rfl, id, rfl⟩, ⟨_, _, rfl, rfl, rfl, rfl, id, rfl⟩, ⟨_, _, rfl, rfl, rfl, rfl, id, rfl⟩, ⟨_, _, rfl, rfl, rfl, rfl, id, rfl⟩, ⟨_, _, rfl, rfl, rfl, rfl, id, rfl⟩, ⟨_, _, rfl, rfl, rfl, rfl, id, rfl⟩, ⟨_, _, rfl, rfl, rfl, rfl, id, rfl⟩, ⟨_, _, rfl, rfl, rfl, rfl, id, rfl⟩, ⟨_, _, rfl, rfl, rfl, rfl, id, rfl⟩, ⟨_, _, rfl, rfl, rfl, rfl, id, rfl⟩, ⟨_, _, rfl, rfl, rfl, rfl, id, rfl⟩, ⟨_, _, rfl, rfl, rfl, rfl, id, rfl⟩, ⟨_, _, rfl, rfl, rfl, rfl, id, rfl⟩, ⟨_, _, rfl, rfl, rfl, rfl, id, rfl⟩, ⟨_, _, rfl, rfl, rfl, rfl, id, rfl⟩, ⟨_, _, rfl, rfl, rfl, rfl, id, rfl⟩, ⟨_, _, rfl, rfl, rfl, rfl, id, rfl⟩, ⟨_, _, rfl, rfl, rfl, rfl, id, rfl⟩, ⟨_, _, rfl, rfl, rfl, rfl, id, rfl⟩, ⟨_, _, rfl, rfl, rfl, rfl, id, rfl⟩, ⟨_, _, rfl, rfl, rfl, rfl, id, rfl⟩, ⟨_, _, rfl, rfl, rfl, rfl, id, rfl⟩, ⟨_, _, rfl, rfl, rfl, rfl, id, rfl⟩, ⟨_, _, rfl, rfl, rfl, rfl, id, rfl⟩, ⟨_, _, rfl, rfl, rfl, rfl, id, rfl⟩, ⟨_, _, rfl, rfl, rfl, rfl, id, rfl⟩, ⟨_, _, rfl, rfl, rfl, rfl, id, rfl⟩, ⟨_, _, rfl, rfl, rfl, rfl, id, rfl⟩, ⟨_, _, rfl, rfl, rfl, rfl, id, rfl⟩, ⟨_, _, rfl, rfl, rfl, rfl, id, rfl⟩, ⟨_, _, rfl, rfl, rfl, rfl, id, rfl⟩, ⟨_, _, rfl, rfl, rfl, rfl, id, rfl⟩, ⟨_, _, rfl, rfl, rfl, rfl, id, rfl⟩, ⟨_, _, rfl, rfl, rfl, rfl, id, rfl⟩, ⟨_, _, rfl, rfl, rfl, rfl, id, rfl⟩, ⟨_, _, rfl, rfl, rfl, rfl, id, rfl⟩, ⟨_, _, rfl, rfl, rfl, rfl, id, rfl⟩, ⟨_, _, rfl, rfl, rfl, rfl, id, rfl⟩, ⟨_, _, rfl, rfl, rfl, rfl, id, rfl⟩, ⟨_, _, rfl, rfl, rfl, rfl, id, rfl⟩, ⟨_, _, rfl, rfl, rfl, rfl, id, rfl⟩, ⟨_, _, rfl, rfl, rfl, rfl, id, rfl⟩, ⟨_, _, rfl, rfl, cut_ren _ o l, rfl, id, cut_nm _ o l⟩, trivial⟩⟩
  ·skip
   refine .exit ?_
   show Ev _ _ _ _ _
   refine .seq ?_
   refine .drawn [[], [0], [0, 1], [0, 1, 2], [0, 1, 2, 3], [0, 1, 2, 3, 4], [0, 1, 2, 3], [0, 1, 2, 3, 6], [0, 1, 2, 3, 4, 5, 6, 7], [0, 1, 2, 3, 4, 5, 6, 7, 8], [0, 1, 2, 3, 4, 5, 6, 7, 8, 9], [0, 1, 2, 3, 4, 5, 6, 7, 8, 9, 10], [0, 1, 2, 3, 4, 5, 6, 7, 8, 9, 10], [0, 1, 2, 3, 4, 5, 6, 7, 8, 9, 10, 12], [0, 1, 2, 3, 4, 5, 6, 7, 8, 9, 10, 11, 12, 13], [0, 1, 2, 3, 4, 5, 6, 7, 8, 9, 10, 11, 12, 13, 14], [0, 1, 2, 3, 4, 5, 6, 7, 8, 9, 10, 11, 12, 13, 14, 15], [0, 1, 2, 3, 4, 5, 6, 7, 8, 9, 10, 11, 12, 13, 14, 15, 16], [0, 1, 2, 3, 4, 5, 6, 7, 8, 9, 10, 11, 12, 13, 14, 15, 16, 17], [0, 1, 2, 3, 4, 5, 6, 7, 8, 9, 10, 11, 12, 13, 14, 15, 16], [0, 1, 2, 3, 4, 5, 6, 7, 8, 9, 10, 11, 12, 13, 14, 15, 16, 19], [0, 1, 2, 3, 4, 5, 6, 7, 8, 9, 10, 11, 12, 13, 14, 15, 16, 19, 20], [0, 1, 2, 3, 4, 5, 6, 7, 8, 9, 10, 11, 12, 13, 14, 15, 16, 17, 18, 19, 20, 21], [0, 1, 2, 3, 4, 5, 6, 7, 8, 9, 10, 11, 12, 13, 14, 15, 16, 17, 18, 19, 20, 21, 22], [0, 1, 2, 3, 4, 5, 6, 7, 8, 9, 10, 11, 12, 13, 14, 15, 16, 17, 18, 19, 20, 21, 22, 23]] [1, 5, 7, 13, 18, 20] [] (by kernel_rfl) (by kernel_rfl) rfl ?_
   show DK _ [0, 1, 2, 3, 4, 5, 6, 7, 8, 9, 10, 11, 12, 13, 14, 15, 16, 17, 18, 19, 20, 21, 22, 23, 24] _ _ _
   refine .q rfl (op_fieldAddr (m := 0) Tryd.underlying60 rfl (by kernel_rfl) rfl) trivial ?_
   refine .as (.ptr 1008 2) rfl ?_
   refine .q rfl (op_load Tryd.underlying3 rfl rfl rfl rfl (by show 2 < 3; decide)) trivial ?_
   refine .q rfl (op_cmpI rfl rfl rfl) trivial ?_
   refine .q rfl (op_move rfl) trivial ?_
   refine .know (b' := true) (by rw [(q.want (bne_eq_false_iff_eq.1 hc30)).1]; rfl) ?_
   refine .q rfl (op_move rfl) ⟨_, rfl, rfl⟩ ?_
   refine .q rfl (op_call (U := []) [(500, 1000)] [] (peer_n q.h eo) Tryd.func32 (by kernel_rfl) rfl rfl rfl (⟨⟨_, rfl, rfl, rfl⟩, trivial⟩) (⟨⟨_, _, rfl, rfl, rfl, rfl, (fun h => by cases h), rfl⟩, trivial⟩) (trivial) (⟨(fun h => by cases h), trivial⟩) rfl) ⟨_, rfl, rfl⟩ ?_
   refine .q rfl (op_fieldAddr (m := 0) Tryd.underlying60 rfl (by kernel_rfl) rfl) ⟨_, rfl, rfl⟩ ?_
   refine .as (.ptr 1008 0) rfl ?_
   refine .q rfl (op_load Tryd.underlying9 rfl rfl rfl rfl (by show 0 < 3; decide)) ⟨_, rfl, rfl⟩ ?_
   refine .q rfl (op_eqS rfl rfl rfl) ⟨_, rfl, rfl⟩ ?_
   refine .q rfl (op_pick_true rfl rfl rfl) trivial ?_
   refine .q rfl (op_move rfl) trivial ?_
   refine .know (b' := true) (by rw [(q.want (bne_eq_false_iff_eq.1 hc30)).2.1]; exact beq_self_eq_true _) ?_
   refine .q rfl (op_move rfl) ⟨_, rfl, rfl⟩ ?_
   refine .q rfl (op_fieldAddr (m := 0) Tryd.underlying60 rfl (by kernel_rfl) rfl) ⟨_, rfl, rfl⟩ ?_
   refine .as (.ptr 1008 1) rfl ?_
   refine .q rfl (op_load Tryd.underlying9 rfl rfl rfl rfl (by show 1 < 3; decide)) ⟨_, rfl, rfl⟩ ?_
   refine .q rfl (op_eqS rfl rfl rfl) ⟨_, rfl, rfl⟩ ?_
   refine .q rfl (op_pick_true rfl rfl rfl) trivial ?_
   refine .q rfl (op_move rfl) trivial ?_
   refine .know (b' := true) (by rw [(q.want (bne_eq_false_iff_eq.1 hc30)).2.2]; exact beq_self_eq_true _) ?_
   refine .q rfl (op_move rfl) ⟨_, rfl, rfl⟩ ?_
   refine .q rfl (op_call (U := []) [(500, 1000)] [] (done_n q.h eo) Tryd.func30 (by kernel_rfl) rfl rfl rfl (⟨⟨_, rfl, rfl, rfl⟩, trivial⟩) (⟨⟨_, _, rfl, rfl, rfl, rfl, (fun h => by cases h), rfl⟩, trivial⟩) (trivial) (⟨(fun h => by cases h), trivial⟩) rfl) ⟨_, rfl, rfl⟩ ?_
   refine .q rfl (op_fieldAddr (m := 0) Tryd.underlying60 rfl (by kernel_rfl) rfl) ⟨_, rfl, rfl⟩ ?_
   refine .as (.ptr 1008 0) rfl ?_
   refine .q rfl (op_load Tryd.underlying9 rfl rfl rfl rfl (by show 0 < 3; decide)) ⟨_, rfl, rfl⟩ ?_
   refine .q rfl (op_eqS rfl rfl rfl) ⟨_, rfl, rfl⟩ ?_
   refine .q rfl (op_eqB Tryd.underlying4 rfl rfl rfl) ⟨_, rfl, rfl⟩ ?_
   refine .q rfl (op_pick_true rfl rfl rfl) trivial ?_
   refine .q rfl (op_assign rfl) trivial ?_
   refine .nil ?_
   show Ev _ _ _ _ _
   refine .ret ?_
   show RetOk _ _ _ _ _ _ _
   first
    | exact ret1v rfl (.inl rfl) rfl (congrArg AV.bool (by rw [(q.want (bne_eq_false_iff_eq.1 hc30)).2.1]; exact beq_self_eq_true _)) trivial
    | exact ret1v rfl (.inl rfl) rfl (congrArg AV.bool (by rw [feedD_end (goes_e (bne_iff_ne.1 hc60))]; exact beq_iff_eq.2 (q.err (min (cN l q.i q.r) q.r.length) (bne_iff_ne.1 hc60)).2.1)) trivial
 ·dsimp only
  have hlen := q.len
  have hil := q.il
  have hSl : (s.take 900).length ≤ 900 := List.length_take_le 900 s
  refine .seq ?_
  refine .seq ?_
  refine .region ?_
  refine .q (op_move rfl) trivial rfl ?_
  refine .q (op_eqS rfl rfl rfl) trivial rfl ?_
  refine .nil ?_
  show Ev _ _ _ _ _
  refine .cond rfl (fun hc30 => ?_) (fun hc30 => ?_)
  ·skip
   refine .skip ?_
   show Ev _ _ _ _ _
   refine .seq ?_
   refine .block ?_
   refine .seq ?_
   refine .region ?_
   refine .q (op_assign rfl) trivial rfl ?_
   refine .nil ?_
   show Ev _ _ _ _ _
   refine .seq ?_
   refine .seq ?_
   refine .region ?_
   refine .q (op_move rfl) trivial rfl ?_
   refine .q (op_move rfl) trivial rfl ?_
   refine .q (op_len_sl Tryd.underlying56 rfl) trivial rfl ?_
   refine .q (op_cmpI rfl rfl rfl) trivial rfl ?_
   refine .nil ?_
   show Ev _ _ _ _ _
   refine .cond rfl (fun hc36 => ?_) (fun hc36 => ?_)
   ·first | replace hc36 := of_decide_eq_true hc36 | replace hc36 := of_decide_eq_false hc36 | replace hc36 := eq_of_beq hc36 | replace hc36 := ne_of_beq_false hc36 | simp only [bne_iff_ne, ne_eq] at hc36 | simp only [bne_eq_false_iff_eq] at hc36
    refine .region ?_
    refine .q (op_move rfl) trivial rfl ?_
    refine .q (op_move rfl) trivial rfl ?_
    refine .q (ap_idx Tryd.underlying56 inf3.sz rfl rfl rfl (by omega)) trivial rfl ?_
    refine .q (op_load Tryd.underlying3 rfl rfl rfl (cutC_nth o l q.i (by omega)) (by rw [cutC_len]; omega)) trivial rfl ?_
    refine .q (op_mask63 rfl rfl) trivial rfl ?_
    refine .q (op_addI rfl rfl ⟨by omega, by omega⟩) trivial rfl ?_
    refine .q (op_assign rfl) trivial rfl ?_
    refine .nil ?_
    show Ev _ _ _ _ _
    refine .seq ?_
    have hr0 : q.r ≠ [] := bne_iff_ne.1 hc30
    have hnp := cN_pos (l := l) (i := q.i) hr0
    refine Ev.weak (st2 := ⟨[(0, .bool c), (1, .str q.r), (2, .sl 450 o l.length 1), (6, .bool false), (7, .ptr 1000 0), (8, .ptr 1008 0), (9, .str q.left), (10, .i64 ((q.i : Nat) : Int)), (11, .i64 ((cN l q.i q.r : Nat) : Int))], [(1000, some ⟨.agg [.bool (q.h).c, .sl 1016 0 q.h.p.length 1, .i64 (((q.h).g : Nat) : Int), .str (q.h).v, .err 225 ((q.h).e) (offE eo ((q.h).e))], 115, true⟩), (1008, some ⟨.agg [.str ((allD (s.take 900) [] (moreD ⟨c, [], 0, [], 0⟩))).v, .str ((allD (s.take 900) [] (moreD ⟨c, [], 0, [], 0⟩))).r, .i64 ((((allD (s.take 900) [] (moreD ⟨c, [], 0, [], 0⟩))).e : Nat) : Int)], 60, true⟩), (3, some ⟨.agg [.err 225 (1) (offE eo (1))], errT, false⟩), (1, some ⟨.agg [.err 225 (2) (offE eo (2))], errT, false⟩), (0, some ⟨.agg [.err 225 (3) (offE eo (3))], errT, false⟩), (4, some ⟨.agg [.err 225 (4) (offE eo (4))], errT, false⟩), (2, some ⟨.agg [.err 225 (5) (offE eo (5))], errT, false⟩), (5, some ⟨.agg [.err 225 (6) (offE eo (6))], errT, false⟩), (6, some ⟨.agg [.err 225 (7) (offE eo (7))], errT, false⟩), (7, some ⟨.agg [.err 225 (8) (offE eo (8))], errT, false⟩), (8, some ⟨.agg [.err 225 (9) (offE eo (9))], errT, false⟩), (9, some ⟨.agg [.err 225 (10) (offE eo (10))], errT, false⟩), (10, some ⟨.agg [.err 225 (11) (offE eo (11))], errT, false⟩), (11, some ⟨.agg [.err 225 (12) (offE eo (12))], errT, false⟩), (12, some ⟨.agg [.err 225 (13) (offE eo (13))], errT, false⟩), (13, some ⟨.agg [.err 225 (14) (offE eo (14))], errT, false⟩), (14, some ⟨.agg [.err 225 (15) (offE eo (15))], errT, false⟩), (15, some ⟨.agg [.err 225 (16) (offE eo (16))], errT, false⟩), (16, some ⟨.agg [.err 225 (17) (offE eo (17))], errT, false⟩), (17, some ⟨.agg [.err 225 (18) (offE eo (18))], errT, false⟩), (18, some ⟨.agg [.err 225 (19) (offE eo (19))], errT, false⟩), (19, some ⟨.agg [.err 225 (20) (offE eo (20))], errT, false⟩), (401, some ⟨.agg [], errT, false⟩), (402, some ⟨.agg [], errT, false⟩), (403, some ⟨.agg [], errT, false⟩), (404, some ⟨.agg [], errT, false⟩), (405, some ⟨.agg [], errT, false⟩), (406, some ⟨.agg [], errT, false⟩), (407, some ⟨.agg [], errT, false⟩), (408, some ⟨.agg [], errT, false⟩), (409, some ⟨.agg [], errT, false⟩), (410, some ⟨.agg [], errT, false⟩), (411, some ⟨.agg [], errT, false⟩), (412, some ⟨.agg [], errT, false⟩), (413, some ⟨.agg [], errT, false⟩), (414, some ⟨.agg [], errT, false⟩), (415, some ⟨.agg [], errT, false⟩), (416, some ⟨.agg [], errT, false⟩), (417, some ⟨.agg [], errT, false⟩), (418, some ⟨.agg [], errT, false⟩), (419, some ⟨.agg [], errT, false⟩), (420, some ⟨.agg [], errT, false⟩), (1016, some ⟨.aggB (q.h.p), 5, true⟩), (450, some ⟨.agg (cutC o l), anyT, false⟩)], 1024⟩) ?_ ?_
    ·exact StLe.mk [(1000, 1000), (1008, 1008), (1016, 1016)] rfl rfl ⟨⟨_, rfl, by first | rfl | (simp only [AV.ren]; congr 1; omega), rfl⟩, ⟨_, rfl, by first | rfl | (simp only [AV.ren]; congr 1; omega), rfl⟩, ⟨_, rfl, by first | rfl | (simp only [AV.ren]; congr 1; omega), rfl⟩, ⟨_, rfl, by first | rfl | (simp only [AV.ren]; congr 1; omega), rfl⟩, ⟨_, rfl, by first | rfl | (simp only [AV.ren]; congr 1; omega), rfl⟩, ⟨_, rfl, by first | rfl | (simp only [AV.ren]; congr 1; omega), rfl⟩, ⟨_, rfl, by first | rfl | (simp only [AV.ren]; congr 1; omega), rfl⟩, ⟨_, rfl, by first | rfl | (simp only [AV.ren]; congr 1; omega), rfl⟩, ⟨_, rfl, by (show AV.i64 _ = AV.i64 _; congr 1; first | exact (cN_y (by omega)).symm | rw [cN_n (by omega)]), rfl⟩, trivial⟩ ⟨⟨_, _, rfl, rfl, rfl, rfl, id, rfl⟩, ⟨_, _, rfl, rfl, rfl, rfl, id, rfl⟩, ⟨_, _, rfl, rfl, rfl, rfl, id, rfl⟩, ⟨_, _, rfl, rfl, rfl, rfl, id, rfl⟩, ⟨_, _, rfl, rfl, rfl, rfl, id, rfl⟩, ⟨_, _, rfl, rfl, rfl, rfl, id, rfl⟩, ⟨_, _, rfl, rfl, rfl, rfl, id, rfl⟩, ⟨_, _, rfl, rfl, rfl, rfl, id, rfl⟩, ⟨_, _, rfl, rfl, rfl, rfl, id, rfl⟩, ⟨_, _, rfl, rfl, rfl, rfl, id, rfl⟩, ⟨_, _, rfl, rfl, rfl, rfl, id, rfl⟩, ⟨_, _, rfl, rfl, rfl, rfl, id, rfl⟩, ⟨_, _, rfl, rfl, rfl, rfl, id, rfl⟩, ⟨_, _, rfl, rfl, rfl, rfl, id, rfl⟩, ⟨_, _, rfl, rfl, rfl, rfl, id, rfl⟩, ⟨_, _, rfl, rfl, rfl, rfl, id, rfl⟩, ⟨_, _, rfl, rfl, rfl, rfl, id, rfl⟩, ⟨_, _, rfl, rfl, rfl, rfl, id, rfl⟩, ⟨_, _, rfl, rfl, rfl, rfl, id, rfl⟩, ⟨_, _, rfl, rfl, rfl, rfl, id, rfl⟩, ⟨_, _, rfl, rfl, rfl, rfl, id, rfl⟩, ⟨_, _, rfl, rfl, rfl, rfl, id, rfl⟩, ⟨_, _, rfl, rfl, rfl, rfl, id, rfl⟩, ⟨_, _, rfl, rfl, rfl, rfl, id, rfl⟩, ⟨_, _, rfl, rfl, rfl, rfl, id, rfl⟩, ⟨_, _, rfl, rfl, rfl, rfl, id, rfl⟩, ⟨_, _, rfl, rfl, rfl, rfl, id, rfl⟩, ⟨_, _, rfl, rfl, rfl, rfl, id, rfl⟩, ⟨_, _, rfl, rfl, rfl, rfl, id, rfl⟩, ⟨_, _, rfl, rfl, rfl, rfl, id, rfl⟩, ⟨_, _, rfl, rfl, rfl, rfl, id, rfl⟩, ⟨_, _, rfl, rfl, rfl, rfl, id, rfl⟩, ⟨_, _, rfl, rfl, rfl, rfl, id, rfl⟩, ⟨_, _, rfl, rfl, rfl, rfl, id, rfl⟩, ⟨_, _, rfl, rfl, rfl, rfl, id, rfl⟩, ⟨_, _, rfl, rfl, rfl, rfl, id, rfl⟩, ⟨_, _, rfl, rfl, rfl, rfl, id, rfl⟩, ⟨_, _, rfl, rfl, rfl, rfl, id, rfl⟩, ⟨_, _, rfl, rfl, rfl, rfl, id, rfl⟩, ⟨_, _, rfl, rfl, rfl, rfl, id, rfl⟩, ⟨_, _, rfl, rfl, rfl, rfl, id, rfl⟩, ⟨_, _, rfl, rfl, rfl, rfl, id, rfl⟩, ⟨_, _, rfl, rfl, rfl, rfl, id, rfl⟩, ⟨_, _, rfl, rfl, cut_ren _ o l, rfl, id, cut_nm _ o l⟩, trivial⟩
    refine .region ?_
    refine .q (op_move rfl) trivial rfl ?_
    refine .q (op_move rfl) trivial rfl ?_
    refine .q (op_len_str Tryd.underlying9 rfl) trivial rfl ?_
    refine .q (op_minI rfl rfl) trivial rfl ?_
    refine .as (.i64 (((min (cN l q.i q.r) q.r.length) : Nat) : Int)) (congrArg AV.i64 (by omega)) ?_
    refine .q (op_assign rfl) trivial rfl ?_
    refine .nil ?_
    show Ev _ _ _ _ _
    refine .seq ?_
    refine .region ?_
    refine .q (op_move rfl) trivial rfl ?_
    refine .q (op_call (U := []) [(500, 1000), (501, 1016)] [] (done_s q.h eo) Tryd.func30 (by kernel_rfl) rfl rfl rfl (⟨⟨_, rfl, rfl, rfl⟩, trivial⟩) (⟨⟨_, _, rfl, rfl, rfl, rfl, (fun h => by cases h), rfl⟩, trivial⟩) (trivial) (⟨(fun h => by cases h), trivial⟩) rfl) trivial rfl ?_
    refine .q (op_assign rfl) trivial rfl ?_
    refine .nil ?_
    show Ev _ _ _ _ _
    refine .seq ?_
    refine .region ?_
    refine .q (op_move rfl) trivial rfl ?_
    refine .q (op_move rfl) trivial rfl ?_
    refine .q (op_move rfl) trivial rfl ?_
    refine .q (ap_slice_str_hi Tryd.underlying9 rfl (bnd_some rfl (l := (min (cN l q.i q.r) q.r.length)) rfl) (by omega)) trivial rfl ?_
    refine dite ((q.k (min (cN l q.i q.r) q.r.length)).p = []) (fun hP => ?_) (fun hP => ?_)
    ·refine .a (op_call (U := [(1000, some ⟨.agg [.bool ((feedD q.h (q.r.take (min (cN l q.i q.r) q.r.length))).1).c, .nilsl, .i64 ((((feedD q.h (q.r.take (min (cN l q.i q.r) q.r.length))).1).g : Nat) : Int), .str ((feedD q.h (q.r.take (min (cN l q.i q.r) q.r.length))).1).v, .err 225 (((feedD q.h (q.r.take (min (cN l q.i q.r) q.r.length))).1).e) (offE eo (((feedD q.h (q.r.take (min (cN l q.i q.r) q.r.length))).1).e))], 115, true⟩), (1016, none)]) [(500, 1000), (501, 1016)] [] (feed_sn q.h (q.r.take (min (cN l q.i q.r) q.r.length)) q.fine hq (by rw [List.length_take]; omega) (goes_t (take_ne hr0 hnp) q.e (q.hv hq)) hP eo) Tryd.func31 (by kernel_rfl) rfl rfl rfl (⟨⟨_, rfl, rfl, rfl⟩, ⟨_, rfl, rfl, rfl⟩, trivial⟩) (⟨⟨_, _, rfl, rfl, rfl, rfl, id, rfl⟩, ⟨_, _, rfl, rfl, rfl, rfl, id, rfl⟩, ⟨_, _, rfl, rfl, rfl, rfl, (fun h => by cases h), rfl⟩, ⟨_, _, rfl, rfl, rfl, rfl, (fun h => by cases h), rfl⟩, ⟨_, _, rfl, rfl, rfl, rfl, (fun h => by cases h), rfl⟩, trivial⟩) (⟨⟨500, _, rfl, rfl, rfl, rfl, .inr ⟨rfl, _, rfl, rfl⟩⟩, trivial⟩) (⟨(fun _ => ⟨1000, _, rfl, rfl⟩), (fun _ => ⟨1016, _, rfl, rfl⟩), (fun h => by cases h), (fun h => by cases h), (fun h => by cases h), trivial⟩) rfl) trivial rfl ?_
     refine .q (op_move rfl) trivial rfl ?_
     refine .q (op_extract rfl rfl) trivial rfl ?_
     refine .q (op_extract rfl rfl) trivial rfl ?_
     refine .q (op_assign rfl) trivial rfl ?_
     refine .q (op_assign rfl) trivial rfl ?_
     refine .nil ?_
     show Ev _ _ _ _ _
     refine .seq ?_
     refine .seq ?_
     refine .region ?_
     refine .q (op_move rfl) trivial rfl ?_
     refine .q (op_eqErrNil (e := (feedD q.h (q.r.take (min (cN l q.i q.r) q.r.length))).1.e) Tryd.underlying26 rfl rfl) trivial rfl ?_
     refine .nil ?_
     show Ev _ _ _ _ _
     refine .cond rfl (fun hc60 => ?_) (fun hc60 => ?_)
     ·skip
      refine .seq ?_
      refine .region ?_
      refine .q (op_move rfl) trivial rfl ?_
      refine .a (op_call (U := [(1000, some ⟨.agg [.bool ((feedD (feedD q.h (q.r.take (min (cN l q.i q.r) q.r.length))).1 [109, 111, 114, 101]).1).c, .nilsl, .i64 ((((feedD (feedD q.h (q.r.take (min (cN l q.i q.r) q.r.length))).1 [109, 111, 114, 101]).1).g : Nat) : Int), .str ((feedD (feedD q.h (q.r.take (min (cN l q.i q.r) q.r.length))).1 [109, 111, 114, 101]).1).v, .err 225 (((feedD (feedD q.h (q.r.take (min (cN l q.i q.r) q.r.length))).1 [109, 111, 114, 101]).1).e) (offE eo (((feedD (feedD q.h (q.r.take (min (cN l q.i q.r) q.r.length))).1 [109, 111, 114, 101]).1).e))], 115, true⟩)]) [(500, 1000)] [] (feed_nn (feedD q.h (q.r.take (min (cN l q.i q.r) q.r.length))).1 [109, 111, 114, 101] (q.feeds (min (cN l q.i q.r) q.r.length)).1 hP (by decide) (by rw [feedD_end (goes_e (bne_iff_ne.1 hc60))]; exact hP) eo) Tryd.func31 (by kernel_rfl) rfl rfl rfl (⟨⟨_, rfl, rfl, rfl⟩, ⟨_, rfl, rfl, rfl⟩, trivial⟩) (⟨⟨_, _, rfl, rfl, rfl, rfl, id, rfl⟩, ⟨_, _, rfl, rfl, rfl, rfl, (fun h => by cases h), rfl⟩, ⟨_, _, rfl, rfl, rfl, rfl, (fun h => by cases h), rfl⟩, ⟨_, _, rfl, rfl, rfl, rfl, (fun h => by cases h), rfl⟩, trivial⟩) (⟨⟨500, _, rfl, rfl, rfl, rfl, .inr ⟨rfl, _, rfl, rfl⟩⟩, trivial⟩) (⟨(fun _ => ⟨1000, _, rfl, rfl⟩), (fun h => by cases h), (fun h => by cases h), (fun h => by cases h), trivial⟩) rfl) trivial rfl ?_
      refine .as (.tup [.str [], .err 225 ((feedD q.h (q.r.take (min (cN l q.i q.r) q.r.length))).1.e) (offE eo ((feedD q.h (q.r.take (min (cN l q.i q.r) q.r.length))).1.e))]) (by show AV.tup [.str (feedR _ _), AV.err 225 ((feedD (feedD q.h (q.r.take (min (cN l q.i q.r) q.r.length))).1 [109, 111, 114, 101]).1.e) (offE eo ((feedD (feedD q.h (q.r.take (min (cN l q.i q.r) q.r.length))).1 [109, 111, 114, 101]).1.e))] = _; rw [feedR_bad (feedD_end (goes_e (bne_iff_ne.1 hc60))) (bne_iff_ne.1 hc60), feedD_end (goes_e (bne_iff_ne.1 hc60))]) ?_
      refine .q (op_move rfl) trivial rfl ?_
      refine .q (op_extract rfl rfl) trivial rfl ?_
      refine .q (op_extract rfl rfl) trivial rfl ?_
      refine .q (op_assign rfl) trivial rfl ?_
      refine .q (op_assign rfl) trivial rfl ?_
      refine .nil ?_
      show Ev _ _ _ _ _
      refine .seq ?_
      refine .drawn [[], [0], [], [2], [0, 1, 2, 3], [0, 1, 2, 3, 4], [0, 1, 2, 3, 4, 5], [0, 1, 2, 3, 4, 5, 6], [0, 1, 2, 3, 4, 5], [0, 1, 2, 3, 4, 5, 8], [0, 1, 2, 3, 4, 5, 6, 7, 8, 9], [0, 1, 2, 3, 4, 5, 6, 7, 8, 9, 10], [0, 1, 2, 3, 4, 5, 6, 7, 8, 9, 10, 11], [0, 1, 2, 3, 4, 5, 6, 7, 8, 9, 10, 11, 12], [0, 1, 2, 3, 4, 5, 6, 7, 8, 9, 10, 11, 12, 13], [0, 1, 2, 3, 4, 5, 6, 7, 8, 9, 10, 11, 12, 13, 14], [0, 1, 2, 3, 4, 5, 6, 7, 8, 9, 10, 11, 12, 13, 14, 15], [0, 1, 2, 3, 4, 5, 6, 7, 8, 9, 10, 11, 12, 13, 14, 15, 16], [0, 1, 2, 3, 4, 5, 6, 7, 8, 9, 10, 11, 12, 13, 14, 15, 16, 17], [0, 1, 2, 3, 4, 5, 6, 7, 8, 9, 10, 11, 12, 13, 14, 15, 16, 17, 18], [0, 1, 2, 3, 4, 5, 6, 7, 8, 9, 10, 11, 12, 13, 14, 15, 16, 17, 18, 19], [0, 1, 2, 3, 4, 5, 6, 7, 8, 9, 10, 11, 12, 13, 14, 15, 16, 17, 18, 19, 20]] [1, 3, 7, 9, 18] [] (by kernel_rfl) (by kernel_rfl) rfl ?_
      show DK _ [0, 1, 2, 3, 4, 5, 6, 7, 8, 9, 10, 11, 12, 13, 14, 15, 16, 17, 18, 19, 20, 21] _ _ _
      refine .q rfl (op_move rfl) trivial ?_
      refine .q rfl (op_call (U := []) [] [] (codeH_ev eo hd (feedD q.h (q.r.take (min (cN l q.i q.r) q.r.length))).1.e (q.okE (min (cN l q.i q.r) q.r.length))) Tryd.func14 (by kernel_rfl) rfl rfl rfl (⟨⟨_, rfl, rfl, rfl⟩, trivial⟩) (⟨⟨_, _, rfl, rfl, rfl, rfl, (fun h => by cases h), rfl⟩, ⟨_, _, rfl, rfl, rfl, rfl, (fun h => by cases h), rfl⟩, ⟨_, _, rfl, rfl, rfl, rfl, (fun h => by cases h), rfl⟩, ⟨_, _, rfl, rfl, rfl, rfl, (fun h => by cases h), rfl⟩, ⟨_, _, rfl, rfl, rfl, rfl, (fun h => by cases h), rfl⟩, ⟨_, _, rfl, rfl, rfl, rfl, (fun h => by cases h), rfl⟩, ⟨_, _, rfl, rfl, rfl, rfl, (fun h => by cases h), rfl⟩, ⟨_, _, rfl, rfl, rfl, rfl, (fun h => by cases h), rfl⟩, ⟨_, _, rfl, rfl, rfl, rfl, (fun h => by cases h), rfl⟩, ⟨_, _, rfl, rfl, rfl, rfl, (fun h => by cases h), rfl⟩, ⟨_, _, rfl, rfl, rfl, rfl, (fun h => by cases h), rfl⟩, ⟨_, _, rfl, rfl, rfl, rfl, (fun h => by cases h), rfl⟩, ⟨_, _, rfl, rfl, rfl, rfl, (fun h => by cases h), rfl⟩, ⟨_, _, rfl, rfl, rfl, rfl, (fun h => by cases h), rfl⟩, ⟨_, _, rfl, rfl, rfl, rfl, (fun h => by cases h), rfl⟩, ⟨_, _, rfl, rfl, rfl, rfl, (fun h => by cases h), rfl⟩, ⟨_, _, rfl, rfl, rfl, rfl, (fun h => by cases h), rfl⟩, ⟨_, _, rfl, rfl, rfl, rfl, (fun h => by cases h), rfl⟩, ⟨_, _, rfl, rfl, rfl, rfl, (fun h => by cases h), rfl⟩, ⟨_, _, rfl, rfl, rfl, rfl, (fun h => by cases h), rfl⟩, ⟨_, _, rfl, rfl, rfl, rfl, (fun h => by cases h), rfl⟩, ⟨_, _, rfl, rfl, rfl, rfl, (fun h => by cases h), rfl⟩, ⟨_, _, rfl, rfl, rfl, rfl, (fun h => by cases h), rfl⟩, ⟨_, _, rfl, rfl, rfl, rfl, (fun h => by cases h), rfl⟩, ⟨_, _, rfl, rfl, rfl, rfl, (fun h => by cases h), rfl⟩, ⟨_, _, rfl, rfl, rfl, rfl, (fun h => by cases h), rfl⟩, ⟨_, _, rfl, rfl, rfl, rfl, (fun h => by cases h), rfl⟩, ⟨_, _, rfl, rfl, rfl, rfl, (fun h => by cases h), rfl⟩, ⟨_, _, rfl, rfl, rfl, rfl, (fun h => by cases h), rfl⟩, ⟨_, _, rfl, rfl, rfl, rfl, (fun h => by cases h), rfl⟩, ⟨_, _, rfl, rfl, rfl, rfl, (fun h => by cases h), rfl⟩, ⟨_, _, rfl, rfl, rfl, rfl, (fun h => by cases h), rfl⟩, ⟨_, _, rfl, rfl, rfl, rfl, (fun h => by cases h), rfl⟩, ⟨_, _, rfl, rfl, rfl, rfl, (fun h => by cases h), rfl⟩, ⟨_, _, rfl, rfl, rfl, rfl, (fun h => by cases h), rfl⟩, ⟨_, _, rfl, rfl, rfl, rfl, (fun h => by cases h), rfl⟩, ⟨_, _, rfl, rfl, rfl, rfl, (fun h => by cases h), rfl⟩, ⟨_, _, rfl, rfl, rfl, rfl, (fun h => by cases h), rfl⟩, ⟨_, _, rfl, rfl, rfl, rfl, (fun h => by cases h), rfl⟩, ⟨_, _, rfl, rfl, rfl, rfl, (fun h => by cases h), rfl⟩, trivial⟩) (trivial) (⟨(fun h => by cases h), (fun h => by cases h), (fun h => by cases h), (fun h => by cases h), (fun h => by cases h), (fun h => by cases h), (fun h => by cases h), (fun h => by cases h), (fun h => by cases h), (fun h => by cases h), (fun h => by cases h), (fun h => by cases h), (fun h => by cases h), (fun h => by cases h), (fun h => by cases h), (fun h => by cases h), (fun h => by cases h), (fun h => by cases h), (fun h => by cases h), (fun h => by cases h), (fun h => by cases h), (fun h => by cases h), (fun h => by cases h), (fun h => by cases h), (fun h => by cases h), (fun h => by cases h), (fun h => by cases h), (fun h => by cases h), (fun h => by cases h), (fun h => by cases h), (fun h => by cases h), (fun h => by cases h), (fun h => by cases h), (fun h => by cases h), (fun h => by cases h), (fun h => by cases h), (fun h => by cases h), (fun h => by cases h), (fun h => by cases h), (fun h => by cases h), trivial⟩) rfl) trivial ?_
      refine .q rfl (op_fieldAddr (m := 0) Tryd.underlying60 rfl (by kernel_rfl) rfl) trivial ?_
      refine .as (.ptr 1008 2) rfl ?_
      refine .q rfl (op_load Tryd.underlying3 rfl rfl rfl rfl (by show 2 < 3; decide)) trivial ?_
      refine .q rfl (op_cmpI rfl rfl rfl) trivial ?_
      refine .q rfl (op_move rfl) trivial ?_
      refine .know (b' := true) (by rw [(q.err (min (cN l q.i q.r) q.r.length) (bne_iff_ne.1 hc60)).1]; first | rfl | exact beq_self_eq_true _ | exact decide_eq_true rfl) ?_
      refine .q rfl (op_move rfl) ⟨_, rfl, rfl⟩ ?_
      refine .q rfl (op_call (U := []) [] [] (codeH_ev eo hd (feedD q.h (q.r.take (min (cN l q.i q.r) q.r.length))).1.e (q.okE (min (cN l q.i q.r) q.r.length))) Tryd.func14 (by kernel_rfl) rfl rfl rfl (⟨⟨_, rfl, rfl, rfl⟩, trivial⟩) (⟨⟨_, _, rfl, rfl, rfl, rfl, (fun h => by cases h), rfl⟩, ⟨_, _, rfl, rfl, rfl, rfl, (fun h => by cases h), rfl⟩, ⟨_, _, rfl, rfl, rfl, rfl, (fun h => by cases h), rfl⟩, ⟨_, _, rfl, rfl, rfl, rfl, (fun h => by cases h), rfl⟩, ⟨_, _, rfl, rfl, rfl, rfl, (fun h => by cases h), rfl⟩, ⟨_, _, rfl, rfl, rfl, rfl, (fun h => by cases h), rfl⟩, ⟨_, _, rfl, rfl, rfl, rfl, (fun h => by cases h), rfl⟩, ⟨_, _, rfl, rfl, rfl, rfl, (fun h => by cases h), rfl⟩, ⟨_, _, rfl, rfl, rfl, rfl, (fun h => by cases h), rfl⟩, ⟨_, _, rfl, rfl, rfl, rfl, (fun h => by cases h), rfl⟩, ⟨_, _, rfl, rfl, rfl, rfl, (fun h => by cases h), rfl⟩, ⟨_, _, rfl, rfl, rfl, rfl, (fun h => by cases h), rfl⟩, ⟨_, _, rfl, rfl, rfl, rfl, (fun h => by cases h), rfl⟩, ⟨_, _, rfl, rfl, rfl, rfl, (fun h => by cases h), rfl⟩, ⟨_, _, rfl, rfl, rfl, rfl, (fun h => by cases h), rfl⟩, ⟨_, _, rfl, rfl, rfl, rfl, (fun h => by cases h), rfl⟩, ⟨_, _, rfl, rfl, rfl, rfl, (fun h => by cases h), rfl⟩, ⟨_, _, rfl, rfl, rfl, rfl, (fun h => by cases h), rfl⟩, ⟨_, _, rfl, rfl, rfl, rfl, (fun h => by cases h), rfl⟩, ⟨_, _, rfl, rfl, rfl, rfl, (fun h => by cases h), rfl⟩, ⟨_, _, rfl, rfl, rfl, rfl, (fun h => by cases h), rfl⟩, ⟨_, _, rfl, rfl, rfl, rfl, (fun h => by cases h), rfl⟩, ⟨_, _, rfl, rfl, rfl, rfl, (fun h => by cases h), rfl⟩, ⟨_, _, rfl, rfl, rfl, rfl, (fun h => by cases h), rfl⟩, ⟨_, _, rfl, rfl, rfl, rfl, (fun h => by cases h), rfl⟩, ⟨_, _, rfl, rfl, rfl, rfl, (fun h => by cases h), rfl⟩, ⟨_, _, rfl, rfl, rfl, rfl, (fun h => by cases h), rfl⟩, ⟨_, _, rfl, rfl, rfl, rfl, (fun h => by cases h), rfl⟩, ⟨_, _, rfl, rfl, rfl, rfl, (fun h => by cases h), rfl⟩, ⟨_, _, rfl, rfl, rfl, rfl, (fun h => by cases h), rfl⟩, ⟨_, _, rfl, rfl, rfl, rfl, (fun h => by cases h), rfl⟩, ⟨_, _, rfl, rfl, rfl, rfl, (fun h => by cases h), rfl⟩, ⟨_, _, rfl, rfl, rfl, rfl, (fun h => by cases h), rfl⟩, ⟨_, _, rfl, rfl, rfl, rfl, (fun h => by cases h), rfl⟩, ⟨_, _, rfl, rfl, rfl, rfl, (fun h => by cases h), rfl⟩, ⟨_, _, rfl, rfl, rfl, rfl, (fun h => by cases h), rfl⟩, ⟨_, _, rfl, rfl, rfl, rfl, (fun h => by cases h), rfl⟩, ⟨_, _, rfl, rfl, rfl, rfl, (fun h => by cases h), rfl⟩, ⟨_, _, rfl, rfl, rfl, rfl, (fun h => by cases h), rfl⟩, ⟨_, _, rfl, rfl, rfl, rfl, (fun h => by cases h), rfl⟩, trivial⟩) (trivial) (⟨(fun h => by cases h), (fun h => by cases h), (fun h => by cases h), (fun h => by cases h), (fun h => by cases h), (fun h => by cases h), (fun h => by cases h), (fun h => by cases h), (fun h => by cases h), (fun h => by cases h), (fun h => by cases h), (fun h => by cases h), (fun h => by cases h), (fun h => by cases h), (fun h => by cases h), (fun h => by cases h), (fun h => by cases h), (fun h => by cases h), (fun h => by cases h), (fun h => by cases h), (fun h => by cases h), (fun h => by cases h), (fun h => by cases h), (fun h => by cases h), (fun h => by cases h), (fun h => by cases h), (fun h => by cases h), (fun h => by cases h), (fun h => by cases h), (fun h => by cases h), (fun h => by cases h), (fun h => by cases h), (fun h => by cases h), (fun h => by cases h), (fun h => by cases h), (fun h => by cases h), (fun h => by cases h), (fun h => by cases h), (fun h => by cases h), (fun h => by cases h), trivial⟩) rfl) ⟨_, rfl, rfl⟩ ?_
      refine .q rfl (op_fieldAddr (m := 0) Tryd.underlying60 rfl (by kernel_rfl) rfl) ⟨_, rfl, rfl⟩ ?_
      refine .as (.ptr 1008 2) rfl ?_
      refine .q rfl (op_load Tryd.underlying3 rfl rfl rfl rfl (by show 2 < 3; decide)) ⟨_, rfl, rfl⟩ ?_
      refine .q rfl (op_cmpI rfl rfl rfl) ⟨_, rfl, rfl⟩ ?_
      refine .q rfl (op_pick_true rfl rfl rfl) trivial ?_
      refine .q rfl (op_move rfl) trivial ?_
      refine .know (b' := true) (by rw [(q.err (min (cN l q.i q.r) q.r.length) (bne_iff_ne.1 hc60)).1]; first | rfl | exact beq_self_eq_true _ | exact decide_eq_true rfl) ?_
      refine .q rfl (op_move rfl) ⟨_, rfl, rfl⟩ ?_
      refine .q rfl (op_eqS rfl rfl rfl) ⟨_, rfl, rfl⟩ ?_
      refine .q rfl (op_pick_true rfl rfl rfl) trivial ?_
      refine .q rfl (op_move rfl) trivial ?_
      refine .know (b' := true) (by rw [feedR_e (bne_iff_ne.1 hc60)]; rfl) ?_
      refine .q rfl (op_move rfl) ⟨_, rfl, rfl⟩ ?_
      refine .q rfl (op_call (U := []) [(500, 1000)] [] (peer_n (feedD (feedD q.h (q.r.take (min (cN l q.i q.r) q.r.length))).1 [109, 111, 114, 101]).1 eo) Tryd.func32 (by kernel_rfl) rfl rfl rfl (⟨⟨_, rfl, rfl, rfl⟩, trivial⟩) (⟨⟨_, _, rfl, rfl, rfl, rfl, (fun h => by cases h), rfl⟩, trivial⟩) (trivial) (⟨(fun h => by cases h), trivial⟩) rfl) ⟨_, rfl, rfl⟩ ?_
      refine .q rfl (op_eqS rfl rfl rfl) ⟨_, rfl, rfl⟩ ?_
      refine .q rfl (op_pick_true rfl rfl rfl) trivial ?_
      refine .q rfl (op_assign rfl) trivial ?_
      refine .nil ?_
      show Ev _ _ _ _ _
      refine .ret ?_
      show RetOk _ _ _ _ _ _ _
      first
       | exact ret1v rfl (.inl rfl) rfl (congrArg AV.bool (by rw [(q.want (bne_eq_false_iff_eq.1 hc30)).2.1]; exact beq_self_eq_true _)) trivial
       | exact ret1v rfl (.inl rfl) rfl (congrArg AV.bool (by rw [feedD_end (goes_e (bne_iff_ne.1 hc60))]; exact beq_iff_eq.2 (q.err (min (cN l q.i q.r) q.r.length) (bne_iff_ne.1 hc60)).2.1)) trivial
     ·skip
      refine .skip ?_
      show Ev _ _ _ _ _
      refine .seq ?_
      refine .seq ?_
      refine .region ?_
      refine .q (op_move rfl) trivial rfl ?_
      refine .q (op_move rfl) trivial rfl ?_
      refine .split (fun hg88 => ?_) (fun hg88 => ?_)
      ·skip
       refine .q (op_move rfl) ⟨_, rfl, rfl⟩ rfl ?_
       refine .q (op_move rfl) ⟨_, rfl, rfl⟩ rfl ?_
       refine .q (op_move rfl) ⟨_, rfl, rfl⟩ rfl ?_
       refine .q (ap_slice_str_hi Tryd.underlying9 rfl (bnd_some rfl (l := (min (cN l q.i q.r) q.r.length)) rfl) (by omega)) ⟨_, rfl, rfl⟩ rfl ?_
       refine .q (op_eqS rfl rfl rfl) ⟨_, rfl, rfl⟩ rfl ?_
       refine .q (op_pick_true rfl rfl rfl) trivial rfl ?_
       refine .q (op_move rfl) trivial rfl ?_
       refine .know (b' := false) (by first | rfl | exact bne_eq_false_iff_eq.2 (q.got_same (min (cN l q.i q.r) q.r.length) (bne_iff_ne.1 hg88))) ?_
       refine .q (op_move rfl) ⟨_, rfl, rfl⟩ rfl ?_
       refine .q (op_call (U := []) [(500, 1000)] [] (done_n (feedD q.h (q.r.take (min (cN l q.i q.r) q.r.length))).1 eo) Tryd.func30 (by kernel_rfl) rfl rfl rfl (⟨⟨_, rfl, rfl, rfl⟩, trivial⟩) (⟨⟨_, _, rfl, rfl, rfl, rfl, (fun h => by cases h), rfl⟩, trivial⟩) (trivial) (⟨(fun h => by cases h), trivial⟩) rfl) ⟨_, rfl, rfl⟩ rfl ?_
       refine .q (op_notB rfl) ⟨_, rfl, rfl⟩ rfl ?_
       refine .q (op_move rfl) ⟨_, rfl, rfl⟩ rfl ?_
       refine .split (fun hg99 => ?_) (fun hg99 => ?_)
       ·skip
        refine .q (op_move rfl) ⟨_, rfl, rfl⟩ rfl ?_
        refine .q (op_eqS rfl rfl rfl) ⟨_, rfl, rfl⟩ rfl ?_
        refine .q (op_pick_true rfl rfl rfl) ⟨_, rfl, rfl⟩ rfl ?_
        refine .q (op_pick_false rfl rfl rfl) trivial rfl ?_
        refine .nil ?_
        show Ev _ _ _ _ _
        refine .cond_false rfl (by first | rfl | exact bne_eq_false_iff_eq.2 (q.got_nil (min (cN l q.i q.r) q.r.length) (bne_eq_false_iff_eq.1 hc60) (nv_t hg99))) ?_
        refine .skip ?_
        show Ev _ _ _ _ _
        refine .seq ?_
        refine .region ?_
        refine .q (op_move rfl) trivial rfl ?_
        refine .q (op_move rfl) trivial rfl ?_
        refine .as (.str (feedD q.h (q.r.take (min (cN l q.i q.r) q.r.length))).2) (congrArg AV.str (feedR_ok (bne_eq_false_iff_eq.1 hc60))) ?_
        refine .q (op_addS rfl rfl (by have h9 := q.got_le (min (cN l q.i q.r) q.r.length); rw [List.length_take] at h9; omega)) trivial rfl ?_
        refine .q (op_assign rfl) trivial rfl ?_
        refine .nil ?_
        show Ev _ _ _ _ _
        refine .region ?_
        refine .q (op_move rfl) trivial rfl ?_
        refine .q (op_move rfl) trivial rfl ?_
        refine .q (ap_slice_str_lo Tryd.underlying9 rfl (bnd_some rfl (l := (min (cN l q.i q.r) q.r.length)) rfl) (by omega)) trivial rfl ?_
        refine .q (op_assign rfl) trivial rfl ?_
        refine .nil ?_
        show Ev _ _ _ _ _
        refine .region ?_
        refine .q (op_move rfl) trivial rfl ?_
        refine .q (op_addI rfl rfl ⟨by omega, by omega⟩) trivial rfl ?_
        refine .q (op_assign rfl) trivial rfl ?_
        refine .nil ?_
        exact ⟨.inl ⟨q.step (min (cN l q.i q.r) q.r.length) hnp (Nat.min_le_right _ _) (bne_eq_false_iff_eq.1 hc60), hP⟩, (by show (q.r.drop (min (cN l q.i q.r) q.r.length)).length < q.r.length; rw [List.length_drop]; omega), StLe.mk [(1000, 1000), (1008, 1008)] rfl rfl ⟨⟨_, rfl, by first | rfl | (simp only [AV.ren]; congr 1; omega), rfl⟩, ⟨_, rfl, by first | rfl | (simp only [AV.ren]; congr 1; omega), rfl⟩, ⟨_, rfl, by first | rfl | (simp only [AV.ren]; congr 1; omega), rfl⟩, ⟨_, rfl, by first | rfl | (simp only [AV.ren]; congr 1; omega), rfl⟩, ⟨_, rfl, by first | rfl | (simp only [AV.ren]; congr 1; omega), rfl⟩, ⟨_, rfl, by first | rfl | (simp only [AV.ren]; congr 1; omega), rfl⟩, ⟨_, rfl, by first | rfl | (simp only [AV.ren]; congr 1; omega), rfl⟩, ⟨_, rfl, by first | rfl | (simp only [AV.ren]; congr 1; omega), rfl⟩, trivial⟩ ⟨⟨_, _, rfl, rfl, rfl, rfl, id, rfl⟩, ⟨_, _, rfl, rfl, rfl, rfl, id, rfl⟩, ⟨_, _, rfl, rfl, rfl, rfl, id, rfl⟩, ⟨_, _, rfl, rfl, rfl, rfl, id, rfl⟩, ⟨_, _, rfl, rfl, rfl, rfl, id, rfl⟩, ⟨_, _, rfl, rfl, rfl, rfl, id, rfl⟩, ⟨_, _, rfl, rfl, rfl, rfl, id, rfl⟩, ⟨_, _, rfl, rfl, rfl, rfl, id, rfl⟩, ⟨_, _, rfl, rfl, rfl, rfl, id, rfl⟩, ⟨_, _, rfl, rfl, rfl, rfl, id, rfl⟩, ⟨_, _, rfl, rfl, rfl, rfl, id, rfl⟩, ⟨_, _, rfl, rfl, rfl, rfl, id, rfl⟩, ⟨_, _, rfl, rfl, rfl, rfl, id, rfl⟩, ⟨_, _, rfl, rfl, rfl, rfl, id, rfl⟩, ⟨_, _, rfl, rfl, rfl, rfl, id, rfl⟩, ⟨_, _, rfl, rfl, rfl, rfl, id, rfl⟩, ⟨_, _, rfl, rfl, rfl, rfl, id, rfl⟩, ⟨_, _, rfl, rfl, rfl, rfl, id, rfl⟩, ⟨_, _, rfl, rfl, rfl, rfl, id, rfl⟩, ⟨_, _, rfl, rfl, rfl, rfl, id, rfl⟩, ⟨_, _, rfl, rfl, rfl, rfl, id, rfl⟩, ⟨_, _, rfl, rfl, rfl, rfl, id, rfl⟩, ⟨_, _, rfl, rfl, rfl, rfl, id, rfl⟩, ⟨_, _, rfl, rfl, rfl, rfl, id, rfl⟩, ⟨_, _, rfl, rfl, rfl, rfl, id, rfl⟩, ⟨_, _, rfl, rfl, rfl, rfl, id, rfl⟩, ⟨_, _, rfl, rfl, rfl, rfl, id, rfl⟩, ⟨_, _, rfl, rfl, rfl, rfl, id, rfl⟩, ⟨_, _, rfl, rfl, rfl, rfl, id, rfl⟩, ⟨_, _, rfl, rfl, rfl, rfl, id, rfl⟩, ⟨_, _, rfl, rfl, rfl, rfl, id, rfl⟩, ⟨_, _, rfl, rfl, rfl, rfl, id, rfl⟩, ⟨_, _, rfl, rfl, rfl, rfl, id, rfl⟩, ⟨_, _, rfl, rfl, rfl, rfl, id, rfl⟩, ⟨_, _, rfl, rfl, rfl, rfl, id, rfl⟩, ⟨_, _, rfl, rfl, rfl, rfl, id, rfl⟩, ⟨_, _, rfl, rfl, rfl, rfl, id, rfl⟩, ⟨_, _, rfl, rfl, rfl, rfl, id, rfl⟩, ⟨_, _, rfl, rfl, rfl, rfl, id, rfl⟩, ⟨_, _, rfl, rfl, rfl, rfl, id, rfl⟩, ⟨_, _, rfl, rfl, rfl, rfl, id, rfl⟩, ⟨_, _, rfl, rfl, rfl, rfl, id, rfl⟩, ⟨_, _, rfl, rfl, cut_ren _ o l, rfl, id, cut_nm _ o l⟩, trivial⟩⟩
       ·skip
        refine .no ⟨_, rfl, rfl⟩ rfl ?_
        refine .no ⟨_, rfl, rfl⟩ rfl ?_
        refine .q (op_pick_false rfl rfl rfl) ⟨_, rfl, rfl⟩ rfl ?_
        refine .q (op_pick_false rfl rfl rfl) trivial rfl ?_
        refine .nil ?_
        show Ev _ _ _ _ _
        refine .cond_false rfl rfl ?_
        refine .skip ?_
        show Ev _ _ _ _ _
        refine .seq ?_
        refine .region ?_
        refine .q (op_move rfl) trivial rfl ?_
        refine .q (op_move rfl) trivial rfl ?_
        refine .as (.str (feedD q.h (q.r.take (min (cN l q.i q.r) q.r.length))).2) (congrArg AV.str (feedR_ok (bne_eq_false_iff_eq.1 hc60))) ?_
        refine .q (op_addS rfl rfl (by have h9 := q.got_le (min (cN l q.i q.r) q.r.length); rw [List.length_take] at h9; omega)) trivial rfl ?_
        refine .q (op_assign rfl) trivial rfl ?_
        refine .nil ?_
        show Ev _ _ _ _ _
        refine .region ?_
        refine .q (op_move rfl) trivial rfl ?_
        refine .q (op_move rfl) trivial rfl ?_
        refine .q (ap_slice_str_lo Tryd.underlying9 rfl (bnd_some rfl (l := (min (cN l q.i q.r) q.r.length)) rfl) (by omega)) trivial rfl ?_
        refine .q (op_assign rfl) trivial rfl ?_
        refine .nil ?_
        show Ev _ _ _ _ _
        refine .region ?_
        refine .q (op_move rfl) trivial rfl ?_
        refine .q (op_addI rfl rfl ⟨by omega, by omega⟩) trivial rfl ?_
        refine .q (op_assign rfl) trivial rfl ?_
        refine .nil ?_
        exact ⟨.inl ⟨q.step (min (cN l q.i q.r) q.r.length) hnp (Nat.min_le_right _ _) (bne_eq_false_iff_eq.1 hc60), hP⟩, (by show (q.r.drop (min (cN l q.i q.r) q.r.length)).length < q.r.length; rw [List.length_drop]; omega), StLe.mk [(1000, 1000), (1008, 1008)] rfl rfl ⟨⟨_, rfl, by first | rfl | (simp only [AV.ren]; congr 1; omega), rfl⟩, ⟨_, rfl, by first | rfl | (simp only [AV.ren]; congr 1; omega), rfl⟩, ⟨_, rfl, by first | rfl | (simp only [AV.ren]; congr 1; omega), rfl⟩, ⟨_, rfl, by first | rfl | (simp only [AV.ren]; congr 1; omega), rfl⟩, ⟨_, rfl, by first | rfl | (simp only [AV.ren]; congr 1; omega), rfl⟩, ⟨_, rfl, by first | rfl | (simp only [AV.ren]; congr 1; omega), rfl⟩, ⟨_, rfl, by first | rfl | (simp only [AV.ren]; congr 1; omega), rfl⟩, ⟨_, rfl, by first | rfl | (simp only [AV.ren]; congr 1; omega), rfl⟩, trivial⟩ ⟨⟨_, _, rfl, rfl, rfl, rfl, id, rfl⟩, ⟨_, _, rfl, rfl, rfl, rfl, id, rfl⟩, ⟨_, _, rfl, rfl, rfl, rfl, id, rfl⟩, ⟨_, _, rfl, rfl, rfl, rfl, id, rfl⟩, ⟨_, _, rfl, rfl, rfl, rfl, id, rfl⟩, ⟨_, _, rfl, rfl, rfl, rfl, id, rfl⟩, ⟨_, _, rfl, rfl, rfl, rfl, id, rfl⟩, ⟨_, _, rfl, rfl, rfl, rfl, id, rfl⟩, ⟨_, _, rfl, rfl, rfl, rfl, id, rfl⟩, ⟨_, _, rfl, rfl, rfl, rfl, id, rfl⟩, ⟨_, _, rfl, rfl, rfl, rfl, id, rfl⟩, ⟨_, _, rfl, rfl, rfl, rfl, id, rfl⟩, ⟨_, _, rfl, rfl, rfl, rfl, id, rfl⟩, ⟨_, _, rfl, rfl, rfl, rfl, id, rfl⟩, ⟨_, _, rfl, rfl, rfl, rfl, id, rfl⟩, ⟨_, _, rfl, rfl, rfl, rfl, id, rfl⟩, ⟨_, _, rfl, rfl, rfl, rfl, id, rfl⟩, ⟨_, _, rfl, rfl, rfl, rfl, id, rfl⟩, ⟨_, _, rfl, rfl, rfl, rfl, id, rfl⟩, ⟨_, _, rfl, rfl, rfl, rfl, id, rfl⟩, ⟨_, _, rfl, rfl, rfl, rfl, id, rfl⟩, ⟨_, _, rfl, rfl, rfl, rfl, id, rfl⟩, ⟨_, _, rfl, rfl, rfl, rfl, id, rfl⟩, ⟨_, _, rfl, rfl, rfl, rfl, id, rfl⟩, ⟨_, _, rfl, rfl, rfl, rfl, id, rfl⟩, ⟨_, _, rfl, rfl, rfl, rfl, id, rfl⟩, ⟨_, _, rfl, rfl, rfl, rfl, id, rfl⟩, ⟨_, _, rfl, rfl, rfl, rfl, id, rfl⟩, ⟨_, _, rfl, rfl, rfl, rfl, id, rfl⟩, ⟨_, _, rfl, rfl, rfl, rfl, id, rfl⟩, ⟨_, _, rfl, rfl, rfl, rfl, id, rfl⟩, ⟨_, _, rfl, rfl, rfl, rfl, id, rfl⟩, ⟨_, _, rfl, rfl, rfl, rfl, id, rfl⟩, ⟨_, _, rfl, rfl, rfl, rfl, id, rfl⟩, ⟨_, _, rfl, rfl, rfl, rfl, id, rfl⟩, ⟨_, _, rfl, rfl, rfl, rfl, id, rfl⟩, ⟨_, _, rfl, rfl, rfl, rfl, id, rfl⟩, ⟨_, _, rfl, rfl, rfl, rfl, id, rfl⟩, ⟨_, _, rfl, rfl, rfl, rfl, id, rfl⟩, ⟨_, _, rfl, rfl, rfl, rfl, id, rfl⟩, ⟨_, _, rfl, rfl, rfl, rfl, id, rfl⟩, ⟨_, _, rfl, rfl, rfl, rfl, id, rfl⟩, ⟨_, _, rfl, rfl, cut_ren _ o l, rfl, id, cut_nm _ o l⟩, trivial⟩⟩
      ·skip
       refine .no ⟨_, rfl, rfl⟩ rfl ?_
       refine .no ⟨_, rfl, rfl⟩ rfl ?_
       refine .no ⟨_, rfl, rfl⟩ rfl ?_
       refine .no ⟨_, rfl, rfl⟩ rfl ?_
       refine .no ⟨_, rfl, rfl⟩ rfl ?_
       refine .q (op_pick_false rfl rfl rfl) trivial rfl ?_
       refine .q (op_move rfl) trivial rfl ?_
       refine .q (op_move rfl) ⟨_, rfl, rfl⟩ rfl ?_
       refine .q (op_call (U := []) [(500, 1000)] [] (done_n (feedD q.h (q.r.take (min (cN l q.i q.r) q.r.length))).1 eo) Tryd.func30 (by kernel_rfl) rfl rfl rfl (⟨⟨_, rfl, rfl, rfl⟩, trivial⟩) (⟨⟨_, _, rfl, rfl, rfl, rfl, (fun h => by cases h), rfl⟩, trivial⟩) (trivial) (⟨(fun h => by cases h), trivial⟩) rfl) ⟨_, rfl, rfl⟩ rfl ?_
       refine .q (op_notB rfl) ⟨_, rfl, rfl⟩ rfl ?_
       refine .q (op_move rfl) ⟨_, rfl, rfl⟩ rfl ?_
       refine .split (fun hg99 => ?_) (fun hg99 => ?_)
       ·skip
        refine .q (op_move rfl) ⟨_, rfl, rfl⟩ rfl ?_
        refine .q (op_eqS rfl rfl rfl) ⟨_, rfl, rfl⟩ rfl ?_
        refine .q (op_pick_true rfl rfl rfl) ⟨_, rfl, rfl⟩ rfl ?_
        refine .q (op_pick_false rfl rfl rfl) trivial rfl ?_
        refine .nil ?_
        show Ev _ _ _ _ _
        refine .cond_false rfl (by first | rfl | exact bne_eq_false_iff_eq.2 (q.got_nil (min (cN l q.i q.r) q.r.length) (bne_eq_false_iff_eq.1 hc60) (nv_t hg99))) ?_
        refine .skip ?_
        show Ev _ _ _ _ _
        refine .seq ?_
        refine .region ?_
        refine .q (op_move rfl) trivial rfl ?_
        refine .q (op_move rfl) trivial rfl ?_
        refine .as (.str (feedD q.h (q.r.take (min (cN l q.i q.r) q.r.length))).2) (congrArg AV.str (feedR_ok (bne_eq_false_iff_eq.1 hc60))) ?_
        refine .q (op_addS rfl rfl (by have h9 := q.got_le (min (cN l q.i q.r) q.r.length); rw [List.length_take] at h9; omega)) trivial rfl ?_
        refine .q (op_assign rfl) trivial rfl ?_
        refine .nil ?_
        show Ev _ _ _ _ _
        refine .region ?_
        refine .q (op_move rfl) trivial rfl ?_
        refine .q (op_move rfl) trivial rfl ?_
        refine .q (ap_slice_str_lo Tryd.underlying9 rfl (bnd_some rfl (l := (min (cN l q.i q.r) q.r.length)) rfl) (by omega)) trivial rfl ?_
        refine .q (op_assign rfl) trivial rfl ?_
        refine .nil ?_
        show Ev _ _ _ _ _
        refine .region ?_
        refine .q (op_move rfl) trivial rfl ?_
        refine .q (op_addI rfl rfl ⟨by omega, by omega⟩) trivial rfl ?_
        refine .q (op_assign rfl) trivial rfl ?_
        refine .nil ?_
        exact ⟨.inl ⟨q.step (min (cN l q.i q.r) q.r.length) hnp (Nat.min_le_right _ _) (bne_eq_false_iff_eq.1 hc60), hP⟩, (by show (q.r.drop (min (cN l q.i q.r) q.r.length)).length < q.r.length; rw [List.length_drop]; omega), StLe.mk [(1000, 1000), (1008, 1008)] rfl rfl ⟨⟨_, rfl, by first | rfl | (simp only [AV.ren]; congr 1; omega), rfl⟩, ⟨_, rfl, by first | rfl | (simp only [AV.ren]; congr 1; omega), rfl⟩, ⟨_, rfl, by first | rfl | (simp only [AV.ren]; congr 1; omega), rfl⟩, ⟨_, rfl, by first | rfl | (simp only [AV.ren]; congr 1; omega), rfl⟩, ⟨_, rfl, by first | rfl | (simp only [AV.ren]; congr 1; omega), rfl⟩, ⟨_, rfl, by first | rfl | (simp only [AV.ren]; congr 1; omega), rfl⟩, ⟨_, rfl, by first | rfl | (simp only [AV.ren]; congr 1; omega), rfl⟩, ⟨_, rfl, by first | rfl | (simp only [AV.ren]; congr 1; omega), rfl⟩, trivial⟩ ⟨⟨_, _, rfl, rfl, rfl, rfl, id, rfl⟩, ⟨_, _, rfl, rfl, rfl, rfl, id, rfl⟩, ⟨_, _, rfl, rfl, rfl, rfl, id, rfl⟩, ⟨_, _, rfl, rfl, rfl, rfl, id, rfl⟩, ⟨_, _, rfl, rfl, rfl, rfl, id, rfl⟩, ⟨_, _, rfl, rfl, rfl, rfl, id, rfl⟩, ⟨_, _, rfl, rfl, rfl, rfl, id, rfl⟩, ⟨_, _, rfl, rfl, rfl, rfl, id, rfl⟩, ⟨_, _, rfl, rfl, rfl, rfl, id, rfl⟩, ⟨_, _, rfl, rfl, rfl, rfl, id, rfl⟩, ⟨_, _, rfl, rfl, rfl, rfl, id, rfl⟩, ⟨_, _, rfl, rfl, rfl, rfl, id, rfl⟩, ⟨_, _, rfl, rfl, rfl, rfl, id, rfl⟩, ⟨_, _, rfl, rfl, rfl, rfl, id, rfl⟩, ⟨_, _, rfl, rfl, rfl, rfl, id, rfl⟩, ⟨_, _, rfl, rfl, rfl, rfl, id, rfl⟩, ⟨_, _, rfl, rfl, rfl, rfl, id, rfl⟩, ⟨_, _, rfl, rfl, rfl, rfl, id, rfl⟩, ⟨_, _, rfl, rfl, rfl, rfl, id, rfl⟩, ⟨_, _, rfl, rfl, rfl, rfl, id, rfl⟩, ⟨_, _, rfl, rfl, rfl, rfl, id, rfl⟩, ⟨_, _, rfl, rfl, rfl, rfl, id, rfl⟩, ⟨_, _, rfl, rfl, rfl, rfl, id, rfl⟩, ⟨_, _, rfl, rfl, rfl, rfl, id, rfl⟩, ⟨_, _, rfl, rfl, rfl, rfl, id, rfl⟩, ⟨_, _, rfl, rfl, rfl, rfl, id, rfl⟩, ⟨_, _, rfl, rfl, rfl, rfl, id, rfl⟩, ⟨_, _, rfl, rfl, rfl, rfl, id, rfl⟩, ⟨_, _, rfl, rfl, rfl, rfl, id, rfl⟩, ⟨_, _, rfl, rfl, rfl, rfl, id, rfl⟩, ⟨_, _, rfl, rfl, rfl, rfl, id, rfl⟩, ⟨_, _, rfl, rfl, rfl, rfl, id, rfl⟩, ⟨_, _, rfl, rfl, rfl, rfl, id, rfl⟩, ⟨_, _, rfl, rfl, rfl, rfl, id, rfl⟩, ⟨_, _, rfl, rfl, rfl, rfl, id, rfl⟩, ⟨_, _, rfl, rfl, rfl, rfl, id, rfl⟩, ⟨_, _, rfl, rfl, rfl, rfl, id, rfl⟩, ⟨_, _, rfl, rfl, rfl, rfl, id, rfl⟩, ⟨_, _, rfl, rfl, rfl, rfl, id, rfl⟩, ⟨_, _, rfl, rfl, rfl, rfl, id, rfl⟩, ⟨_, _, rfl, rfl, rfl, rfl, id, rfl⟩, ⟨_, _, rfl, rfl, rfl, rfl, id, rfl⟩, ⟨_, _, rfl, rfl, cut_ren _ o l, rfl, id, cut_nm _ o l⟩, trivial⟩⟩
       ·skip
        refine .no ⟨_, rfl, rfl⟩ rfl ?_
        refine .no ⟨_, rfl, rfl⟩ rfl ?_
        refine .q (op_pick_false rfl rfl rfl) ⟨_, rfl, rfl⟩ rfl ?_
        refine .q (op_pick_false rfl rfl rfl) trivial rfl ?_
        refine .nil ?_
        show Ev _ _ _ _ _
        refine .cond_false rfl rfl ?_
        refine .skip ?_
        show Ev _ _ _ _ _
        refine .seq ?_
        refine .region ?_
        refine .q (op_move rfl) trivial rfl ?_
        refine .q (op_move rfl) trivial rfl ?_
        refine .as (.str (feedD q.h (q.r.take (min (cN l q.i q.r) q.r.length))).2) (congrArg AV.str (feedR_ok (bne_eq_false_iff_eq.1 hc60))) ?_
        refine .q (op_addS rfl rfl (by have h9 := q.got_le (min (cN l q.i q.r) q.r.length); rw [List.length_take] at h9; omega)) trivial rfl ?_
        refine .q (op_assign rfl) trivial rfl ?_
        refine .nil ?_
        show Ev _ _ _ _ _
        refine .region ?_
        refine .q (op_move rfl) trivial rfl ?_
        refine .q (op_move rfl) trivial rfl ?_
        refine .q (ap_slice_str_lo Tryd.underlying9 rfl (bnd_some rfl (l := (min (cN l q.i q.r) q.r.length)) rfl) (by omega)) trivial rfl ?_
        refine .q (op_assign rfl) trivial rfl ?_
        refine .nil ?_
        show Ev _ _ _ _ _
        refine .region ?_
        refine .q (op_move rfl) trivial rfl ?_
        refine .q (op_addI rfl rfl ⟨by omega, by omega⟩) trivial rfl ?_
        refine .q (op_assign rfl) trivial rfl ?_
        refine .nil ?_
        exact ⟨.inl ⟨q.step (min (cN l q.i q.r) q.r.length) hnp (Nat.min_le_right _ _) (bne_eq_false_iff_eq.1 hc60), hP⟩, (by show (q.r.drop (min (cN l q.i q.r) q.r.length)).length < q.r.length; rw [List.length_drop]; omega), StLe.mk [(1000, 1000), (1008, 1008)] rfl rfl ⟨⟨_, rfl, by first | rfl | (simp only [AV.ren]; congr 1; omega), rfl⟩, ⟨_, rfl, by first | rfl | (simp only [AV.ren]; congr 1; omega), rfl⟩, ⟨_, rfl, by first | rfl | (simp only [AV.ren]; congr 1; omega), rfl⟩, ⟨_, rfl, by first | rfl | (simp only [AV.ren]; congr 1; omega), rfl⟩, ⟨_, rfl, by first | rfl | (simp only [AV.ren]; congr 1; omega), rfl⟩, ⟨_, rfl, by first | rfl | (simp only [AV.ren]; congr 1; omega), rfl⟩, ⟨_, rfl, by first | rfl | (simp only [AV.ren]; congr 1; omega), rfl⟩, ⟨_, rfl, by first | rfl | (simp only [AV.ren]; congr 1; omega), rfl⟩, trivial⟩ ⟨⟨_, _, rfl, rfl, rfl, rfl, id, rfl⟩, ⟨_, _, rfl, rfl, rfl, rfl, id, rfl⟩, ⟨_, _, rfl, rfl, rfl, rfl, id, rfl⟩, ⟨_, _, rfl, rfl, rfl, rfl, id, rfl⟩, ⟨_, _, rfl, rfl, rfl, rfl, id, rfl⟩, ⟨_, _, rfl, rfl, rfl, rfl, id, rfl⟩, ⟨_, _, rfl, rfl, rfl, rfl, id, rfl⟩, ⟨_, _, rfl, rfl, rfl, rfl, id, rfl⟩, ⟨_, _, rfl, rfl, rfl, rfl, id, rfl⟩, ⟨_, _, rfl, rfl, rfl, rfl, id, rfl⟩, ⟨_, _, rfl, rfl, rfl, rfl, id, rfl⟩, ⟨_, _, rfl, rfl, rfl, rfl, id, rfl⟩, ⟨_, _, rfl, rfl, rfl, rfl, id, rfl⟩, ⟨_, _, rfl, rfl, rfl, rfl, id, rfl⟩, ⟨_, _, rfl, rfl, rfl, rfl, id, rfl⟩, ⟨_, _, rfl, rfl, rfl, rfl, id, rfl⟩, ⟨_, _, rfl, rfl, rfl, rfl, id, rfl⟩, ⟨_, _, rfl, rfl, rfl, rfl, id, rfl⟩, ⟨_, _, rfl, rfl, rfl, rfl, id, rfl⟩, ⟨_, _, rfl, rfl, rfl, rfl, id, rfl⟩, ⟨_, _, rfl, rfl, rfl, rfl, id, rfl⟩, ⟨_, _, rfl, rfl, rfl, rfl, id, rfl⟩, ⟨_, _, rfl, rfl, rfl, rfl, id, rfl⟩, ⟨_, _, rfl, rfl, rfl, rfl, id, rfl⟩, ⟨_, _, rfl, rfl, rfl, rfl, id, rfl⟩, ⟨_, _, rfl, rfl, rfl, rfl, id, rfl⟩, ⟨_, _, rfl, rfl, rfl, rfl, id, rfl⟩, ⟨_, _, rfl, rfl, rfl, rfl, id, rfl⟩, ⟨_, _, rfl, rfl, rfl, rfl, id, rfl⟩, ⟨_, _, rfl, rfl, rfl, rfl, id, rfl⟩, ⟨_, _, rfl, rfl, rfl, rfl, id, rfl⟩, ⟨_, _, rfl, rfl, rfl, rfl, id, rfl⟩, ⟨_, _, rfl, rfl, rfl, rfl, id, rfl⟩, ⟨_, _, rfl, rfl, rfl, rfl, id, rfl⟩, ⟨_, _, rfl, rfl, rfl, rfl, id, rfl⟩, ⟨_, _, rfl, rfl, rfl, rfl, id, rfl⟩, ⟨_, _, rfl, rfl, rfl, rfl, id, rfl⟩, ⟨_, _, rfl, rfl, rfl, rfl, id, rfl⟩, ⟨_, _, rfl, rfl, rfl, rfl, id, rfl⟩, ⟨_, _, rfl, rfl, rfl, rfl, id, rfl⟩, ⟨_, _, rfl, rfl, rfl, rfl, id, rfl⟩, ⟨_, _, rfl, rfl, rfl, rfl, id, rfl⟩, ⟨_, _, rfl, rfl, cut_ren _ o l, rfl, id, cut_nm _ o l⟩, trivial⟩⟩
    ·refine .a (op_call (U := [(1000, some ⟨.agg [.bool ((feedD q.h (q.r.take (min (cN l q.i q.r) q.r.length))).1).c, .sl 1024 0 (feedD q.h (q.r.take (min (cN l q.i q.r) q.r.length))).1.p.length 1, .i64 ((((feedD q.h (q.r.take (min (cN l q.i q.r) q.r.length))).1).g : Nat) : Int), .str ((feedD q.h (q.r.take (min (cN l q.i q.r) q.r.length))).1).v, .err 225 (((feedD q.h (q.r.take (min (cN l q.i q.r) q.r.length))).1).e) (offE eo (((feedD q.h (q.r.take (min (cN l q.i q.r) q.r.length))).1).e))], 115, true⟩), (1024, some ⟨.aggB (feedD q.h (q.r.take (min (cN l q.i q.r) q.r.length))).1.p, 5, true⟩), (1016, none)]) [(500, 1000), (501, 1016)] [(1024, 1000)] (feed_ss q.h (q.r.take (min (cN l q.i q.r) q.r.length)) q.fine hq (by rw [List.length_take]; omega) (goes_t (take_ne hr0 hnp) q.e (q.hv hq)) hP eo) Tryd.func31 (by kernel_rfl) rfl rfl rfl (⟨⟨_, rfl, rfl, rfl⟩, ⟨_, rfl, rfl, rfl⟩, trivial⟩) (⟨⟨_, _, rfl, rfl, rfl, rfl, id, rfl⟩, ⟨_, _, rfl, rfl, rfl, rfl, id, rfl⟩, ⟨_, _, rfl, rfl, rfl, rfl, (fun h => by cases h), rfl⟩, ⟨_, _, rfl, rfl, rfl, rfl, (fun h => by cases h), rfl⟩, ⟨_, _, rfl, rfl, rfl, rfl, (fun h => by cases h), rfl⟩, trivial⟩) (⟨⟨500, _, rfl, rfl, rfl, rfl, .inr ⟨rfl, _, rfl, rfl⟩⟩, ⟨1000, _, rfl, rfl, rfl, rfl, .inl rfl⟩, trivial⟩) (⟨(fun _ => ⟨1000, _, rfl, rfl⟩), (fun _ => ⟨1016, _, rfl, rfl⟩), (fun h => by cases h), (fun h => by cases h), (fun h => by cases h), trivial⟩) rfl) trivial rfl ?_
     refine .q (op_move rfl) trivial rfl ?_
     refine .q (op_extract rfl rfl) trivial rfl ?_
     refine .q (op_extract rfl rfl) trivial rfl ?_
     refine .q (op_assign rfl) trivial rfl ?_
     refine .q (op_assign rfl) trivial rfl ?_
     refine .nil ?_
     show Ev _ _ _ _ _
     refine .seq ?_
     refine .seq ?_
     refine .region ?_
     refine .q (op_move rfl) trivial rfl ?_
     refine .q (op_eqErrNil (e := (feedD q.h (q.r.take (min (cN l q.i q.r) q.r.length))).1.e) Tryd.underlying26 rfl rfl) trivial rfl ?_
     refine .nil ?_
     show Ev _ _ _ _ _
     refine .cond_false rfl (bne_eq_false_iff_eq.2 (Classical.byContradiction fun he => hP (q.err (min (cN l q.i q.r) q.r.length) he).2.2)) ?_
     refine .skip ?_
     show Ev _ _ _ _ _
     refine .seq ?_
     refine .seq ?_
     refine .region ?_
     refine .q (op_move rfl) trivial rfl ?_
     refine .q (op_move rfl) trivial rfl ?_
     refine .split (fun hg88 => ?_) (fun hg88 => ?_)
     ·skip
      refine .q (op_move rfl) ⟨_, rfl, rfl⟩ rfl ?_
      refine .q (op_move rfl) ⟨_, rfl, rfl⟩ rfl ?_
      refine .q (op_move rfl) ⟨_, rfl, rfl⟩ rfl ?_
      refine .q (ap_slice_str_hi Tryd.underlying9 rfl (bnd_some rfl (l := (min (cN l q.i q.r) q.r.length)) rfl) (by omega)) ⟨_, rfl, rfl⟩ rfl ?_
      refine .q (op_eqS rfl rfl rfl) ⟨_, rfl, rfl⟩ rfl ?_
      refine .q (op_pick_true rfl rfl rfl) trivial rfl ?_
      refine .q (op_move rfl) trivial rfl ?_
      refine .know (b' := false) (by first | rfl | exact bne_eq_false_iff_eq.2 (q.got_same (min (cN l q.i q.r) q.r.length) (bne_iff_ne.1 hg88))) ?_
      refine .q (op_move rfl) ⟨_, rfl, rfl⟩ rfl ?_
      refine .q (op_call (U := []) [(500, 1000), (501, 1024)] [] (done_s (feedD q.h (q.r.take (min (cN l q.i q.r) q.r.length))).1 eo) Tryd.func30 (by kernel_rfl) rfl rfl rfl (⟨⟨_, rfl, rfl, rfl⟩, trivial⟩) (⟨⟨_, _, rfl, rfl, rfl, rfl, (fun h => by cases h), rfl⟩, trivial⟩) (trivial) (⟨(fun h => by cases h), trivial⟩) rfl) ⟨_, rfl, rfl⟩ rfl ?_
      refine .q (op_notB rfl) ⟨_, rfl, rfl⟩ rfl ?_
      refine .q (op_move rfl) ⟨_, rfl, rfl⟩ rfl ?_
      refine .split (fun hg99 => ?_) (fun hg99 => ?_)
      ·skip
       refine .q (op_move rfl) ⟨_, rfl, rfl⟩ rfl ?_
       refine .q (op_eqS rfl rfl rfl) ⟨_, rfl, rfl⟩ rfl ?_
       refine .q (op_pick_true rfl rfl rfl) ⟨_, rfl, rfl⟩ rfl ?_
       refine .q (op_pick_false rfl rfl rfl) trivial rfl ?_
       refine .nil ?_
       show Ev _ _ _ _ _
       refine .cond_false rfl (by first | rfl | exact bne_eq_false_iff_eq.2 (q.got_nil (min (cN l q.i q.r) q.r.length) (Classical.byContradiction fun he => hP (q.err (min (cN l q.i q.r) q.r.length) he).2.2) (nv_t hg99))) ?_
       refine .skip ?_
       show Ev _ _ _ _ _
       refine .seq ?_
       refine .region ?_
       refine .q (op_move rfl) trivial rfl ?_
       refine .q (op_move rfl) trivial rfl ?_
       refine .as (.str (feedD q.h (q.r.take (min (cN l q.i q.r) q.r.length))).2) (congrArg AV.str (feedR_ok (Classical.byContradiction fun he => hP (q.err (min (cN l q.i q.r) q.r.length) he).2.2))) ?_
       refine .q (op_addS rfl rfl (by have h9 := q.got_le (min (cN l q.i q.r) q.r.length); rw [List.length_take] at h9; omega)) trivial rfl ?_
       refine .q (op_assign rfl) trivial rfl ?_
       refine .nil ?_
       show Ev _ _ _ _ _
       refine .region ?_
       refine .q (op_move rfl) trivial rfl ?_
       refine .q (op_move rfl) trivial rfl ?_
       refine .q (ap_slice_str_lo Tryd.underlying9 rfl (bnd_some rfl (l := (min (cN l q.i q.r) q.r.length)) rfl) (by omega)) trivial rfl ?_
       refine .q (op_assign rfl) trivial rfl ?_
       refine .nil ?_
       show Ev _ _ _ _ _
       refine .region ?_
       refine .q (op_move rfl) trivial rfl ?_
       refine .q (op_addI rfl rfl ⟨by omega, by omega⟩) trivial rfl ?_
       refine .q (op_assign rfl) trivial rfl ?_
       refine .nil ?_
       exact ⟨.inr ⟨q.step (min (cN l q.i q.r) q.r.length) hnp (Nat.min_le_right _ _) (Classical.byContradiction fun he => hP (q.err (min (cN l q.i q.r) q.r.length) he).2.2), hP⟩, (by show (q.r.drop (min (cN l q.i q.r) q.r.length)).length < q.r.length; rw [List.length_drop]; omega), StLe.mk [(1000, 1000), (1008, 1008), (1016, 1024)] rfl rfl ⟨⟨_, rfl, by first | rfl | (simp only [AV.ren]; congr 1; omega), rfl⟩, ⟨_, rfl, by first | rfl | (simp only [AV.ren]; congr 1; omega), rfl⟩, ⟨_, rfl, by first | rfl | (simp only [AV.ren]; congr 1; omega), rfl⟩, ⟨_, rfl, by first | rfl | (simp only [AV.ren]; congr 1; omega), rfl⟩, ⟨_, rfl, by first | rfl | (simp only [AV.ren]; congr 1; omega), rfl⟩, ⟨_, rfl, by first | rfl | (simp only [AV.ren]; congr 1; omega), rfl⟩, ⟨_, rfl, by first | rfl | (simp only [AV.ren]; congr 1; omega), rfl⟩, ⟨_, rfl, by first | rfl | (simp only [AV.ren]; congr 1; omega), rfl⟩, trivial⟩ ⟨⟨_, _, rfl, rfl, rfl, rfl, id, rfl⟩, ⟨_, _, rfl, rfl, rfl, rfl, id, rfl⟩, ⟨_, _, rfl, rfl, rfl, rfl, id, rfl⟩, ⟨_, _, rfl, rfl, rfl, rfl, id, rfl⟩, ⟨_, _, rfl, rfl, rfl, rfl, id, rfl⟩, ⟨_, _, rfl, rfl, rfl, rfl, id, rfl⟩, ⟨_, _, rfl, rfl, rfl, rfl, id, rfl⟩, ⟨_, _, rfl, rfl, rfl, rfl, id, rfl⟩, ⟨_, _, rfl, rfl, rfl, rfl, id, rfl⟩, ⟨_, _, rfl, rfl, rfl, rfl, id, rfl⟩, ⟨_, _, rfl, rfl, rfl, rfl, id, rfl⟩, ⟨_, _, rfl, rfl, rfl, rfl, id, rfl⟩, ⟨_, _, rfl, rfl, rfl, rfl, id, rfl⟩, ⟨_, _, rfl, rfl, rfl, rfl, id, rfl⟩, ⟨_, _, rfl, rfl, rfl, rfl, id, rfl⟩, ⟨_, _, rfl, rfl, rfl, rfl, id, rfl⟩, ⟨_, _, rfl, rfl, rfl, rfl, id, rfl⟩, ⟨_, _, rfl, rfl, rfl, rfl, id, rfl⟩, ⟨_, _, rfl, rfl, rfl, rfl, id, rfl⟩, ⟨_, _, rfl, rfl, rfl, rfl, id, rfl⟩, ⟨_, _, rfl, rfl, rfl, rfl, id, rfl⟩, ⟨_, _, rfl, rfl, rfl, rfl, id, rfl⟩, ⟨_, _, rfl, rfl, rfl, rfl, id, rfl⟩, ⟨_, _, rfl, rfl, rfl, rfl, id, rfl⟩, ⟨_, _, rfl, rfl, rfl, rfl, id, rfl⟩, ⟨_, _, rfl, rfl, rfl, rfl, id, rfl⟩, ⟨_, _, rfl, rfl, rfl, rfl, id, rfl⟩, ⟨_, _, rfl, rfl, rfl, rfl, id, rfl⟩, ⟨_, _, rfl, rfl, rfl, rfl, id, rfl⟩, ⟨_, _, rfl, rfl, rfl, rfl, id, rfl⟩, ⟨_, _, rfl, rfl, rfl, rfl, id, rfl⟩, ⟨_, _, rfl, rfl, rfl, rfl, id, rfl⟩, ⟨_, _, rfl, rfl, rfl, rfl, id, rfl⟩, ⟨_, _, rfl, rfl, rfl, rfl, id, rfl⟩, ⟨_, _, rfl, rfl, rfl, rfl, id, rfl⟩, ⟨_, _, rfl, rfl, rfl, rfl, id, rfl⟩, ⟨_, _, rfl, rfl, rfl, rfl, id, rfl⟩, ⟨_, _, rfl, rfl, rfl, rfl, id, rfl⟩, ⟨_, _, rfl, rfl, rfl, rfl, id, rfl⟩, ⟨_, _, rfl, rfl, rfl, rfl, id, rfl⟩, ⟨_, _, rfl, rfl, rfl, rfl, id, rfl⟩, ⟨_, _, rfl, rfl, rfl, rfl, id, rfl⟩, ⟨_, _, rfl, rfl, rfl, rfl, id, rfl⟩, ⟨_, _, rfl, rfl, cut_ren _ o l, rfl, id, cut_nm _ o l⟩, trivial⟩⟩
      ·skip
       refine .no ⟨_, rfl, rfl⟩ rfl ?_
       refine .no ⟨_, rfl, rfl⟩ rfl ?_
       refine .q (op_pick_false rfl rfl rfl) ⟨_, rfl, rfl⟩ rfl ?_
       refine .q (op_pick_false rfl rfl rfl) trivial rfl ?_
       refine .nil ?_
       show Ev _ _ _ _ _
       refine .cond_false rfl rfl ?_
       refine .skip ?_
       show Ev _ _ _ _ _
       refine .seq ?_
       refine .region ?_
       refine .q (op_move rfl) trivial rfl ?_
       refine .q (op_move rfl) trivial rfl ?_
       refine .as (.str (feedD q.h (q.r.take (min (cN l q.i q.r) q.r.length))).2) (congrArg AV.str (feedR_ok (Classical.byContradiction fun he => hP (q.err (min (cN l q.i q.r) q.r.length) he).2.2))) ?_
       refine .q (op_addS rfl rfl (by have h9 := q.got_le (min (cN l q.i q.r) q.r.length); rw [List.length_take] at h9; omega)) trivial rfl ?_
       refine .q (op_assign rfl) trivial rfl ?_
       refine .nil ?_
       show Ev _ _ _ _ _
       refine .region ?_
       refine .q (op_move rfl) trivial rfl ?_
       refine .q (op_move rfl) trivial rfl ?_
       refine .q (ap_slice_str_lo Tryd.underlying9 rfl (bnd_some rfl (l := (min (cN l q.i q.r) q.r.length)) rfl) (by omega)) trivial rfl ?_
       refine .q (op_assign rfl) trivial rfl ?_
       refine .nil ?_
       show Ev _ _ _ _ _
       refine .region ?_
       refine .q (op_move rfl) trivial rfl ?_
       refine .q (op_addI rfl rfl ⟨by omega, by omega⟩) trivial rfl ?_
       refine .q (op_assign rfl) trivial rfl ?_
       refine .nil ?_
       exact ⟨.inr ⟨q.step (min (cN l q.i q.r) q.r.length) hnp (Nat.min_le_right _ _) (Classical.byContradiction fun he => hP (q.err (min (cN l q.i q.r) q.r.length) he).2.2), hP⟩, (by show (q.r.drop (min (cN l q.i q.r) q.r.length)).length < q.r.length; rw [List.length_drop]; omega), StLe.mk [(1000, 1000), (1008, 1008), (1016, 1024)] rfl rfl ⟨⟨_, rfl, by first | rfl | (simp only [AV.ren]; congr 1; omega), rfl⟩, ⟨_, rfl, by first | rfl | (simp only [AV.ren]; congr 1; omega), rfl⟩, ⟨_, rfl, by first | rfl | (simp only [AV.ren]; congr 1; omega), rfl⟩, ⟨_, rfl, by first | rfl | (simp only [AV.ren]; congr 1; omega), rfl⟩, ⟨_, rfl, by first | rfl | (simp only [AV.ren]; congr 1; omega), rfl⟩, ⟨_, rfl, by first | rfl | (simp only [AV.ren]; congr 1; omega), rfl⟩, ⟨_, rfl, by first | rfl | (simp only [AV.ren]; congr 1; omega), rfl⟩, ⟨_, rfl, by first | rfl | (simp only [AV.ren]; congr 1; omega), rfl⟩, trivial⟩ ⟨⟨_, _, rfl, rfl, rfl, rfl, id, rfl⟩, ⟨_, _, rfl, rfl, rfl, rfl, id, rfl⟩, ⟨_, _, rfl, rfl, rfl, rfl, id, rfl⟩, ⟨_, _, rfl, rfl, rfl, rfl, id, rfl⟩, ⟨_, _, rfl, rfl, rfl, rfl, id, rfl⟩, ⟨_, _, rfl, rfl, rfl, rfl, id, rfl⟩, ⟨_, _, rfl, rfl, rfl, rfl, id, rfl⟩, ⟨_, _, rfl, rfl, rfl, rfl, id, rfl⟩, ⟨_, _, rfl, rfl, rfl, rfl, id, rfl⟩, ⟨_, _, rfl, rfl, rfl, rfl, id, rfl⟩, ⟨_, _, rfl, rfl, rfl, rfl, id, rfl⟩, ⟨_, _, rfl, rfl, rfl, rfl, id, rfl⟩, ⟨_, _, rfl, rfl, rfl, rfl, id, rfl⟩, ⟨_, _, rfl, rfl, rfl, rfl, id, rfl⟩, ⟨_, _, rfl, rfl, rfl, rfl, id, rfl⟩, ⟨_, _, rfl, rfl, rfl, rfl, id, rfl⟩, ⟨_, _, rfl, rfl, rfl, rfl, id, rfl⟩, ⟨_, _, rfl, rfl, rfl, rfl, id, rfl⟩, ⟨_, _, rfl, rfl, rfl, rfl, id, rfl⟩, ⟨_, _, rfl, rfl, rfl, rfl, id, rfl⟩, ⟨_, _, rfl, rfl, rfl, rfl, id, rfl⟩, ⟨_, _, rfl, rfl, rfl, rfl, id, rfl⟩, ⟨_, _, rfl, rfl, rfl, rfl, id, rfl⟩, ⟨_, _, rfl, rfl, rfl, rfl, id, rfl⟩, ⟨_, _, rfl, rfl, rfl, rfl, id, rfl⟩, ⟨_, _, rfl, rfl, rfl, rfl, id, rfl⟩, ⟨_, _, rfl, rfl, rfl, rfl, id, rfl⟩, ⟨_, _, rfl, rfl, rfl, rfl, id, rfl⟩, ⟨_, _, rfl, rfl, rfl, rfl, id, rfl⟩, ⟨_, _, rfl, rfl, rfl, rfl, id, rfl⟩, ⟨_, _, rfl, rfl, rfl, rfl, id, rfl⟩, ⟨_, _, rfl, rfl, rfl, rfl, id, rfl⟩, ⟨_, _, rfl, rfl, rfl, rfl, id, rfl⟩, ⟨_, _, rfl, rfl, rfl, rfl, id, rfl⟩, ⟨_, _, rfl, rfl, rfl, rfl, id, rfl⟩, ⟨_, _, rfl, rfl, rfl, rfl, id, rfl⟩, ⟨_, _, rfl, rfl, rfl, rfl, id, rfl⟩, ⟨_, _, rfl, rfl, rfl, rfl, id, rfl⟩, ⟨_, _, rfl, rfl, rfl, rfl, id, rfl⟩, ⟨_, _, rfl, rfl, rfl, rfl, id, rfl⟩, ⟨_, _, rfl, rfl, rfl, rfl, id, rfl⟩, ⟨_, _, rfl, rfl, rfl, rfl, id, rfl⟩, ⟨_, _, rfl, rfl, rfl, rfl, id, rfl⟩, ⟨_, _, rfl, rfl, cut_ren _ o l, rfl, id, cut_nm _ o l⟩, trivial⟩⟩
     ·skip
      refine .no ⟨_, rfl, rfl⟩ rfl ?_
      refine .no ⟨_, rfl, rfl⟩ rfl ?_
      refine .no ⟨_, rfl, rfl⟩ rfl ?_
      refine .no ⟨_, rfl, rfl⟩ rfl ?_
      refine .no ⟨_, rfl, rfl⟩ rfl ?_
      refine .q (op_pick_false rfl rfl rfl) trivial rfl ?_
      refine .q (op_move rfl) trivial rfl ?_
      refine .q (op_move rfl) ⟨_, rfl, rfl⟩ rfl ?_
      refine .q (op_call (U := []) [(500, 1000), (501, 1024)] [] (done_s (feedD q.h (q.r.take (min (cN l q.i q.r) q.r.length))).1 eo) Tryd.func30 (by kernel_rfl) rfl rfl rfl (⟨⟨_, rfl, rfl, rfl⟩, trivial⟩) (⟨⟨_, _, rfl, rfl, rfl, rfl, (fun h => by cases h), rfl⟩, trivial⟩) (trivial) (⟨(fun h => by cases h), trivial⟩) rfl) ⟨_, rfl, rfl⟩ rfl ?_
      refine .q (op_notB rfl) ⟨_, rfl, rfl⟩ rfl ?_
      refine .q (op_move rfl) ⟨_, rfl, rfl⟩ rfl ?_
      refine .split (fun hg99 => ?_) (fun hg99 => ?_)
      ·skip
       refine .q (op_move rfl) ⟨_, rfl, rfl⟩ rfl ?_
       refine .q (op_eqS rfl rfl rfl) ⟨_, rfl, rfl⟩ rfl ?_
       refine .q (op_pick_true rfl rfl rfl) ⟨_, rfl, rfl⟩ rfl ?_
       refine .q (op_pick_false rfl rfl rfl) trivial rfl ?_
       refine .nil ?_
       show Ev _ _ _ _ _
       refine .cond_false rfl (by first | rfl | exact bne_eq_false_iff_eq.2 (q.got_nil (min (cN l q.i q.r) q.r.length) (Classical.byContradiction fun he => hP (q.err (min (cN l q.i q.r) q.r.length) he).2.2) (nv_t hg99))) ?_
       refine .skip ?_
       show Ev _ _ _ _ _
       refine .seq ?_
       refine .region ?_
       refine .q (op_move rfl) trivial rfl ?_
       refine .q (op_move rfl) trivial rfl ?_
       refine .as (.str (feedD q.h (q.r.take (min (cN l q.i q.r) q.r.length))).2) (congrArg AV.str (feedR_ok (Classical.byContradiction fun he => hP (q.err (min (cN l q.i q.r) q.r.length) he).2.2))) ?_
       refine .q (op_addS rfl rfl (by have h9 := q.got_le (min (cN l q.i q.r) q.r.length); rw [List.length_take] at h9; omega)) trivial rfl ?_
       refine .q (op_assign rfl) trivial rfl ?_
       refine .nil ?_
       show Ev _ _ _ _ _
       refine .region ?_
       refine .q (op_move rfl) trivial rfl ?_
       refine .q (op_move rfl) trivial rfl ?_
       refine .q (ap_slice_str_lo Tryd.underlying9 rfl (bnd_some rfl (l := (min (cN l q.i q.r) q.r.length)) rfl) (by omega)) trivial rfl ?_
       refine .q (op_assign rfl) trivial rfl ?_
       refine .nil ?_
       show Ev _ _ _ _ _
       refine .region ?_
       refine .q (op_move rfl) trivial rfl ?_
       refine .q (op_addI rfl rfl ⟨by omega, by omega⟩) trivial rfl ?_
       refine .q (op_assign rfl) trivial rfl ?_
       refine .nil ?_
       exact ⟨.inr ⟨q.step (min (cN l q.i q.r) q.r.length) hnp (Nat.min_le_right _ _) (Classical.byContradiction fun he => hP (q.err (min (cN l q.i q.r) q.r.length) he).2.2), hP⟩, (by show (q.r.drop (min (cN l q.i q.r) q.r.length)).length < q.r.length; rw [List.length_drop]; omega), StLe.mk [(1000, 1000), (1008, 1008), (1016, 1024)] rfl rfl ⟨⟨_, rfl, by first | rfl | (simp only [AV.ren]; congr 1; omega), rfl⟩, ⟨_, rfl, by first | rfl | (simp only [AV.ren]; congr 1; omega), rfl⟩, ⟨_, rfl, by first | rfl | (simp only [AV.ren]; congr 1; omega), rfl⟩, ⟨_, rfl, by first | rfl | (simp only [AV.ren]; congr 1; omega), rfl⟩, ⟨_, rfl, by first | rfl | (simp only [AV.ren]; congr 1; omega), rfl⟩, ⟨_, rfl, by first | rfl | (simp only [AV.ren]; congr 1; omega), rfl⟩, ⟨_, rfl, by first | rfl | (simp only [AV.ren]; congr 1; omega), rfl⟩, ⟨_, rfl, by first | rfl | (simp only [AV.ren]; congr 1; omega), rfl⟩, trivial⟩ ⟨⟨_, _, rfl, rfl, rfl, rfl, id, rfl⟩, ⟨_, _, rfl, rfl, rfl, rfl, id, rfl⟩, ⟨_, _, rfl, rfl, rfl, rfl, id, rfl⟩, ⟨_, _, rfl, rfl, rfl, rfl, id, rfl⟩, ⟨_, _, rfl, rfl, rfl, rfl, id, rfl⟩, ⟨_, _, rfl, rfl, rfl, rfl, id, rfl⟩, ⟨_, _, rfl, rfl, rfl, rfl, id, rfl⟩, ⟨_, _, rfl, rfl, rfl, rfl, id, rfl⟩, ⟨_, _, rfl, rfl, rfl, rfl, id, rfl⟩, ⟨_, _, rfl, rfl, rfl, rfl, id, rfl⟩, ⟨_, _, rfl, rfl, rfl, rfl, id, rfl⟩, ⟨_, _, rfl, rfl, rfl, rfl, id, rfl⟩, ⟨_, _, rfl, rfl, rfl, rfl, id, rfl⟩, ⟨_, _, rfl, rfl, rfl, rfl, id, rfl⟩, ⟨_, _, rfl, rfl, rfl, rfl, id, rfl⟩, ⟨_, _, rfl, rfl, rfl, rfl, id, rfl⟩, ⟨_, _, rfl, rfl, rfl, rfl, id, rfl⟩, ⟨_, _, rfl, rfl, rfl, rfl, id, rfl⟩, ⟨_, _, rfl, rfl, rfl, rfl, id, rfl⟩, ⟨_, _, rfl, rfl, rfl, rfl, id, rfl⟩, ⟨_, _, rfl, rfl, rfl, rfl, id, rfl⟩, ⟨_, _, rfl, rfl, rfl, rfl, id, rfl⟩, ⟨_, _, rfl, rfl, rfl, rfl, id, rfl⟩, ⟨_, _, rfl, rfl, rfl, rfl, id, rfl⟩, ⟨_, _, rfl, rfl, rfl, rfl, id, rfl⟩, ⟨_, _, rfl, rfl, rfl, rfl, id, rfl⟩, ⟨_, _, rfl, rfl, rfl, rfl, id, rfl⟩, ⟨_, _, rfl, rfl, rfl, rfl, id, rfl⟩, ⟨_, _, rfl, rfl, rfl, rfl, id, rfl⟩, ⟨_, _, rfl, rfl, rfl, rfl, id, rfl⟩, ⟨_, _, rfl, rfl, rfl, rfl, id, rfl⟩, ⟨_, _, rfl, rfl, rfl, rfl, id, rfl⟩, ⟨_, _, rfl, rfl, rfl, rfl, id, rfl⟩, ⟨_, _, rfl, rfl, rfl, rfl, id, rfl⟩, ⟨_, _, rfl, rfl, rfl, rfl, id, rfl⟩, ⟨_, _, rfl, rfl, rfl, rfl, id, rfl⟩, ⟨_, _, rfl, rfl, rfl, rfl, id, rfl⟩, ⟨_, _, rfl, rfl, rfl, rfl, id, rfl⟩, ⟨_, _, rfl, rfl, rfl, rfl, id, rfl⟩, ⟨_, _, rfl, rfl, rfl, rfl, id, rfl⟩, ⟨_, _, rfl, rfl, rfl, rfl, id, rfl⟩, ⟨_, _, rfl, rfl, rfl, rfl, id, rfl⟩, ⟨_, _, rfl, rfl, rfl, rfl, id, rfl⟩, ⟨_, _, rfl, rfl, cut_ren _ o l, rfl, id, cut_nm _ o l⟩, trivial⟩⟩
      ·skip
       refine .no ⟨_, rfl, rfl⟩ rfl ?_
       refine .no ⟨_, rfl, rfl⟩ rfl ?_
       refine .q (op_pick_false rfl rfl rfl) ⟨_, rfl, rfl⟩ rfl ?_
       refine .q (op_pick_false rfl rfl rfl) trivial rfl ?_
       refine .nil ?_
       show Ev _ _ _ _ _
       refine .cond_false rfl rfl ?_
       refine .skip ?_
       show Ev _ _ _ _ _
       refine .seq ?_
       refine .region ?_
       refine .q (op_move rfl) trivial rfl ?_
       refine .q (op_move rfl) trivial rfl ?_
       refine .as (.str (feedD q.h (q.r.take (min (cN l q.i q.r) q.r.length))).2) (congrArg AV.str (feedR_ok (Classical.byContradiction fun he => hP (q.err (min (cN l q.i q.r) q.r.length) he).2.2))) ?_
       refine .q (op_addS rfl rfl (by have h9 := q.got_le (min (cN l q.i q.r) q.r.length); rw [List.length_take] at h9; omega)) trivial rfl ?_
       refine .q (op_assign rfl) trivial rfl ?_
       refine .nil ?_
       show Ev _ _ _ _ _
       refine .region ?_
       refine .q (op_move rfl) trivial rfl ?_
       refine .q (op_move rfl) trivial rfl ?_
       refine .q (ap_slice_str_lo Tryd.underlying9 rfl (bnd_some rfl (l := (min (cN l q.i q.r) q.r.length)) rfl) (by omega)) trivial rfl ?_
       refine .q (op_assign rfl) trivial rfl ?_
       refine .nil ?_
       show Ev _ _ _ _ _
       refine .region ?_
       refine .q (op_move rfl) trivial rfl ?_
       refine .q (op_addI rfl rfl ⟨by omega, by omega⟩) trivial rfl ?_
       refine .q (op_assign rfl) trivial rfl ?_
       refine .nil ?_
       exact ⟨.inr ⟨q.step (min (cN l q.i q.r) q.r.length) hnp (Nat.min_le_right _ _) (Classical.byContradiction fun he => hP (q.err (min (cN l q.i q.r) q.r.length) he).2.2), hP⟩, (by show (q.r.drop (min (cN l q.i q.r) q.r.length)).length < q.r.length; rw [List.length_drop]; omega), StLe.mk [(1000, 1000), (1008, 1008), (1016, 1024)] rfl rfl ⟨⟨_, rfl, by first | rfl | (simp only [AV.ren]; congr 1; omega), rfl⟩, ⟨_, rfl, by first | rfl | (simp only [AV.ren]; congr 1; omega), rfl⟩, ⟨_, rfl, by first | rfl | (simp only [AV.ren]; congr 1; omega), rfl⟩, ⟨_, rfl, by first | rfl | (simp only [AV.ren]; congr 1; omega), rfl⟩, ⟨_, rfl, by first | rfl | (simp only [AV.ren]; congr 1; omega), rfl⟩, ⟨_, rfl, by first | rfl | (simp only [AV.ren]; congr 1; omega), rfl⟩, ⟨_, rfl, by first | rfl | (simp only [AV.ren]; congr 1; omega), rfl⟩, ⟨_, rfl, by first | rfl | (simp only [AV.ren]; congr 1; omega), rfl⟩, trivial⟩ ⟨⟨_, _, rfl, rfl, rfl, rfl, id, rfl⟩, ⟨_, _, rfl, rfl, rfl, rfl, id, rfl⟩, ⟨_, _, rfl, rfl, rfl, rfl, id, rfl⟩, ⟨_, _, rfl, rfl, rfl, rfl, id, rfl⟩, ⟨_, _, rfl, rfl, rfl, rfl, id, rfl⟩, ⟨_, _, rfl, rfl, rfl, rfl, id, rfl⟩, ⟨_, _, rfl, rfl, rfl, rfl, id, rfl⟩, ⟨_, _, rfl, rfl, rfl, rfl, id, rfl⟩, ⟨_, _, rfl, rfl, rfl, rfl, id, rfl⟩, ⟨_, _, rfl, rfl, rfl, rfl, id, rfl⟩, ⟨_, _, rfl, rfl, rfl, rfl, id, rfl⟩, ⟨_, _, rfl, rfl, rfl, rfl, id, rfl⟩, ⟨_, _, rfl, rfl, rfl, rfl, id, rfl⟩, ⟨_, _, rfl, rfl, rfl, rfl, id, rfl⟩, ⟨_, _, rfl, rfl, rfl, rfl, id, rfl⟩, ⟨_, _, rfl, rfl, rfl, rfl, id, rfl⟩, ⟨_, _, rfl, rfl, rfl, rfl, id, rfl⟩, ⟨_, _, rfl, rfl, rfl, rfl, id, rfl⟩, ⟨_, _, rfl, rfl, rfl, rfl, id, rfl⟩, ⟨_, _, rfl, rfl, rfl, rfl, id, rfl⟩, ⟨_, _, rfl, rfl, rfl, rfl, id, rfl⟩, ⟨_, _, rfl, rfl, rfl, rfl, id, rfl⟩, ⟨_, _, rfl, rfl, rfl, rfl, id, rfl⟩, ⟨_, _, rfl, rfl, rfl, rfl, id, rfl⟩, ⟨_, _, rfl, rfl, rfl, rfl, id, rfl⟩, ⟨_, _, rfl, rfl, rfl, rfl, id, rfl⟩, ⟨_, _, rfl, rfl, rfl, rfl, id, rfl⟩, ⟨_, _, rfl, rfl, rfl, rfl, id, rfl⟩, ⟨_, _, rfl, rfl, rfl, rfl, id, rfl⟩, ⟨_, _, rfl, rfl, rfl, rfl, id, rfl⟩, ⟨_, _, rfl, rfl, rfl, rfl, id, rfl⟩, ⟨_, _, rfl, rfl, rfl, rfl, id, rfl⟩, ⟨_, _, rfl, rfl, rfl, rfl, id, rfl⟩, ⟨_, _, rfl, rfl, rfl, rfl, id, rfl⟩, ⟨_, _, rfl, rfl, rfl, rfl, id, rfl⟩, ⟨_, _, rfl, rfl, rfl, rfl, id, rfl⟩, ⟨_, _, rfl, rfl, rfl, rfl, id, rfl⟩, ⟨_, _, rfl, rfl, rfl, rfl, id, rfl⟩, ⟨_, _, rfl, rfl, rfl, rfl, id, rfl⟩, ⟨_, _, rfl, rfl, rfl, rfl, id, rfl⟩, ⟨_, _, rfl, rfl, rfl, rfl, id, rfl⟩, ⟨_, _, rfl, rfl, rfl, rfl, id, rfl⟩, ⟨_, _, rfl, rfl, rfl, rfl, id, rfl⟩, ⟨_, _, rfl, rfl, cut_ren _ o l, rfl, id, cut_nm _ o l⟩, trivial⟩⟩
   ·first | replace hc36 := of_decide_eq_true hc36 | replace hc36 := of_decide_eq_false hc36 | replace hc36 := eq_of_beq hc36 | replace hc36 := ne_of_beq_false hc36 | simp only [bne_iff_ne, ne_eq] at hc36 | simp only [bne_eq_false_iff_eq] at hc36
    refine .region ?_
    refine .q (op_move rfl) trivial rfl ?_
    refine .q (op_len_str Tryd.underlying9 rfl) trivial rfl ?_
    refine .q (op_assign rfl) trivial rfl ?_
    refine .nil ?_
    show Ev _ _ _ _ _
    refine .seq ?_
    have hr0 : q.r ≠ [] := bne_iff_ne.1 hc30
    have hnp := cN_pos (l := l) (i := q.i) hr0
    refine Ev.weak (st2 := ⟨[(0, .bool c), (1, .str q.r), (2, .sl 450 o l.length 1), (6, .bool false), (7, .ptr 1000 0), (8, .ptr 1008 0), (9, .str q.left), (10, .i64 ((q.i : Nat) : Int)), (11, .i64 ((cN l q.i q.r : Nat) : Int))], [(1000, some ⟨.agg [.bool (q.h).c, .sl 1016 0 q.h.p.length 1, .i64 (((q.h).g : Nat) : Int), .str (q.h).v, .err 225 ((q.h).e) (offE eo ((q.h).e))], 115, true⟩), (1008, some ⟨.agg [.str ((allD (s.take 900) [] (moreD ⟨c, [], 0, [], 0⟩))).v, .str ((allD (s.take 900) [] (moreD ⟨c, [], 0, [], 0⟩))).r, .i64 ((((allD (s.take 900) [] (moreD ⟨c, [], 0, [], 0⟩))).e : Nat) : Int)], 60, true⟩), (3, some ⟨.agg [.err 225 (1) (offE eo (1))], errT, false⟩), (1, some ⟨.agg [.err 225 (2) (offE eo (2))], errT, false⟩), (0, some ⟨.agg [.err 225 (3) (offE eo (3))], errT, false⟩), (4, some ⟨.agg [.err 225 (4) (offE eo (4))], errT, false⟩), (2, some ⟨.agg [.err 225 (5) (offE eo (5))], errT, false⟩), (5, some ⟨.agg [.err 225 (6) (offE eo (6))], errT, false⟩), (6, some ⟨.agg [.err 225 (7) (offE eo (7))], errT, false⟩), (7, some ⟨.agg [.err 225 (8) (offE eo (8))], errT, false⟩), (8, some ⟨.agg [.err 225 (9) (offE eo (9))], errT, false⟩), (9, some ⟨.agg [.err 225 (10) (offE eo (10))], errT, false⟩), (10, some ⟨.agg [.err 225 (11) (offE eo (11))], errT, false⟩), (11, some ⟨.agg [.err 225 (12) (offE eo (12))], errT, false⟩), (12, some ⟨.agg [.err 225 (13) (offE eo (13))], errT, false⟩), (13, some ⟨.agg [.err 225 (14) (offE eo (14))], errT, false⟩), (14, some ⟨.agg [.err 225 (15) (offE eo (15))], errT, false⟩), (15, some ⟨.agg [.err 225 (16) (offE eo (16))], errT, false⟩), (16, some ⟨.agg [.err 225 (17) (offE eo (17))], errT, false⟩), (17, some ⟨.agg [.err 225 (18) (offE eo (18))], errT, false⟩), (18, some ⟨.agg [.err 225 (19) (offE eo (19))], errT, false⟩), (19, some ⟨.agg [.err 225 (20) (offE eo (20))], errT, false⟩), (401, some ⟨.agg [], errT, false⟩), (402, some ⟨.agg [], errT, false⟩), (403, some ⟨.agg [], errT, false⟩), (404, some ⟨.agg [], errT, false⟩), (405, some ⟨.agg [], errT, false⟩), (406, some ⟨.agg [], errT, false⟩), (407, some ⟨.agg [], errT, false⟩), (408, some ⟨.agg [], errT, false⟩), (409, some ⟨.agg [], errT, false⟩), (410, some ⟨.agg [], errT, false⟩), (411, some ⟨.agg [], errT, false⟩), (412, some ⟨.agg [], errT, false⟩), (413, some ⟨.agg [], errT, false⟩), (414, some ⟨.agg [], errT, false⟩), (415, some ⟨.agg [], errT, false⟩), (416, some ⟨.agg [], errT, false⟩), (417, some ⟨.agg [], errT, false⟩), (418, some ⟨.agg [], errT, false⟩), (419, some ⟨.agg [], errT, false⟩), (420, some ⟨.agg [], errT, false⟩), (1016, some ⟨.aggB (q.h.p), 5, true⟩), (450, some ⟨.agg (cutC o l), anyT, false⟩)], 1024⟩) ?_ ?_
    ·exact StLe.mk [(1000, 1000), (1008, 1008), (1016, 1016)] rfl rfl ⟨⟨_, rfl, by first | rfl | (simp only [AV.ren]; congr 1; omega), rfl⟩, ⟨_, rfl, by first | rfl | (simp only [AV.ren]; congr 1; omega), rfl⟩, ⟨_, rfl, by first | rfl | (simp only [AV.ren]; congr 1; omega), rfl⟩, ⟨_, rfl, by first | rfl | (simp only [AV.ren]; congr 1; omega), rfl⟩, ⟨_, rfl, by first | rfl | (simp only [AV.ren]; congr 1; omega), rfl⟩, ⟨_, rfl, by first | rfl | (simp only [AV.ren]; congr 1; omega), rfl⟩, ⟨_, rfl, by first | rfl | (simp only [AV.ren]; congr 1; omega), rfl⟩, ⟨_, rfl, by first | rfl | (simp only [AV.ren]; congr 1; omega), rfl⟩, ⟨_, rfl, by (show AV.i64 _ = AV.i64 _; congr 1; first | exact (cN_y (by omega)).symm | rw [cN_n (by omega)]), rfl⟩, trivial⟩ ⟨⟨_, _, rfl, rfl, rfl, rfl, id, rfl⟩, ⟨_, _, rfl, rfl, rfl, rfl, id, rfl⟩, ⟨_, _, rfl, rfl, rfl, rfl, id, rfl⟩, ⟨_, _, rfl, rfl, rfl, rfl, id, rfl⟩, ⟨_, _, rfl, rfl, rfl, rfl, id, rfl⟩, ⟨_, _, rfl, rfl, rfl, rfl, id, rfl⟩, ⟨_, _, rfl, rfl, rfl, rfl, id, rfl⟩, ⟨_, _, rfl, rfl, rfl, rfl, id, rfl⟩, ⟨_, _, rfl, rfl, rfl, rfl, id, rfl⟩, ⟨_, _, rfl, rfl, rfl, rfl, id, rfl⟩, ⟨_, _, rfl, rfl, rfl, rfl, id, rfl⟩, ⟨_, _, rfl, rfl, rfl, rfl, id, rfl⟩, ⟨_, _, rfl, rfl, rfl, rfl, id, rfl⟩, ⟨_, _, rfl, rfl, rfl, rfl, id, rfl⟩, ⟨_, _, rfl, rfl, rfl, rfl, id, rfl⟩, ⟨_, _, rfl, rfl, rfl, rfl, id, rfl⟩, ⟨_, _, rfl, rfl, rfl, rfl, id, rfl⟩, ⟨_, _, rfl, rfl, rfl, rfl, id, rfl⟩, ⟨_, _, rfl, rfl, rfl, rfl, id, rfl⟩, ⟨_, _, rfl, rfl, rfl, rfl, id, rfl⟩, ⟨_, _, rfl, rfl, rfl, rfl, id, rfl⟩, ⟨_, _, rfl, rfl, rfl, rfl, id, rfl⟩, ⟨_, _, rfl, rfl, rfl, rfl, id, rfl⟩, ⟨_, _, rfl, rfl, rfl, rfl, id, rfl⟩, ⟨_, _, rfl, rfl, rfl, rfl, id, rfl⟩, ⟨_, _, rfl, rfl, rfl, rfl, id, rfl⟩, ⟨_, _, rfl, rfl, rfl, rfl, id, rfl⟩, ⟨_, _, rfl, rfl, rfl, rfl, id, rfl⟩, ⟨_, _, rfl, rfl, rfl, rfl, id, rfl⟩, ⟨_, _, rfl, rfl, rfl, rfl, id, rfl⟩, ⟨_, _, rfl, rfl, rfl, rfl, id, rfl⟩, ⟨_, _, rfl, rfl, rfl, rfl, id, rfl⟩, ⟨_, _, rfl, rfl, rfl, rfl, id, rfl⟩, ⟨_, _, rfl, rfl, rfl, rfl, id, rfl⟩, ⟨_, _, rfl, rfl, rfl, rfl, id, rfl⟩, ⟨_, _, rfl, rfl, rfl, rfl, id, rfl⟩, ⟨_, _, rfl, rfl, rfl, rfl, id, rfl⟩, ⟨_, _, rfl, rfl, rfl, rfl, id, rfl⟩, ⟨_, _, rfl, rfl, rfl, rfl, id, rfl⟩, ⟨_, _, rfl, rfl, rfl, rfl, id, rfl⟩, ⟨_, _, rfl, rfl, rfl, rfl, id, rfl⟩, ⟨_, _, rfl, rfl, rfl, rfl, id, rfl⟩, ⟨_, _, rfl, rfl, rfl, rfl, id, rfl⟩, ⟨_, _, rfl, rfl, cut_ren _ o l, rfl, id, cut_nm _ o l⟩, trivial⟩
    refine .region ?_
    refine .q (op_move rfl) trivial rfl ?_
    refine .q (op_move rfl) trivial rfl ?_
    refine .q (op_len_str Tryd.underlying9 rfl) trivial rfl ?_
    refine .q (op_minI rfl rfl) trivial rfl ?_
    refine .as (.i64 (((min (cN l q.i q.r) q.r.length) : Nat) : Int)) (congrArg AV.i64 (by omega)) ?_
    refine .q (op_assign rfl) trivial rfl ?_
    refine .nil ?_
    show Ev _ _ _ _ _
    refine .seq ?_
    refine .region ?_
    refine .q (op_move rfl) trivial rfl ?_
    refine .q (op_call (U := []) [(500, 1000), (501, 1016)] [] (done_s q.h eo) Tryd.func30 (by kernel_rfl) rfl rfl rfl (⟨⟨_, rfl, rfl, rfl⟩, trivial⟩) (⟨⟨_, _, rfl, rfl, rfl, rfl, (fun h => by cases h), rfl⟩, trivial⟩) (trivial) (⟨(fun h => by cases h), trivial⟩) rfl) trivial rfl ?_
    refine .q (op_assign rfl) trivial rfl ?_
    refine .nil ?_
    show Ev _ _ _ _ _
    refine .seq ?_
    refine .region ?_
    refine .q (op_move rfl) trivial rfl ?_
    refine .q (op_move rfl) trivial rfl ?_
    refine .q (op_move rfl) trivial rfl ?_
    refine .q (ap_slice_str_hi Tryd.underlying9 rfl (bnd_some rfl (l := (min (cN l q.i q.r) q.r.length)) rfl) (by omega)) trivial rfl ?_
    refine dite ((q.k (min (cN l q.i q.r) q.r.length)).p = []) (fun hP => ?_) (fun hP => ?_)
    ·refine .a (op_call (U := [(1000, some ⟨.agg [.bool ((feedD q.h (q.r.take (min (cN l q.i q.r) q.r.length))).1).c, .nilsl, .i64 ((((feedD q.h (q.r.take (min (cN l q.i q.r) q.r.length))).1).g : Nat) : Int), .str ((feedD q.h (q.r.take (min (cN l q.i q.r) q.r.length))).1).v, .err 225 (((feedD q.h (q.r.take (min (cN l q.i q.r) q.r.length))).1).e) (offE eo (((feedD q.h (q.r.take (min (cN l q.i q.r) q.r.length))).1).e))], 115, true⟩), (1016, none)]) [(500, 1000), (501, 1016)] [] (feed_sn q.h (q.r.take (min (cN l q.i q.r) q.r.length)) q.fine hq (by rw [List.length_take]; omega) (goes_t (take_ne hr0 hnp) q.e (q.hv hq)) hP eo) Tryd.func31 (by kernel_rfl) rfl rfl rfl (⟨⟨_, rfl, rfl, rfl⟩, ⟨_, rfl, rfl, rfl⟩, trivial⟩) (⟨⟨_, _, rfl, rfl, rfl, rfl, id, rfl⟩, ⟨_, _, rfl, rfl, rfl, rfl, id, rfl⟩, ⟨_, _, rfl, rfl, rfl, rfl, (fun h => by cases h), rfl⟩, ⟨_, _, rfl, rfl, rfl, rfl, (fun h => by cases h), rfl⟩, ⟨_, _, rfl, rfl, rfl, rfl, (fun h => by cases h), rfl⟩, trivial⟩) (⟨⟨500, _, rfl, rfl, rfl, rfl, .inr ⟨rfl, _, rfl, rfl⟩⟩, trivial⟩) (⟨(fun _ => ⟨1000, _, rfl, rfl⟩), (fun _ => ⟨1016, _, rfl, rfl⟩), (fun h => by cases h), (fun h => by cases h), (fun h => by cases h), trivial⟩) rfl) trivial rfl ?_
     refine .q (op_move rfl) trivial rfl ?_
     refine .q (op_extract rfl rfl) trivial rfl ?_
     refine .q (op_extract rfl rfl) trivial rfl ?_
     refine .q (op_assign rfl) trivial rfl ?_
     refine .q (op_assign rfl) trivial rfl ?_
     refine .nil ?_
     show Ev _ _ _ _ _
     refine .seq ?_
     refine .seq ?_
     refine .region ?_
     refine .q (op_move rfl) trivial rfl ?_
     refine .q (op_eqErrNil (e := (feedD q.h (q.r.take (min (cN l q.i q.r) q.r.length))).1.e) Tryd.underlying26 rfl rfl) trivial rfl ?_
     refine .nil ?_
     show Ev _ _ _ _ _
     refine .cond rfl (fun hc60 => ?_) (fun hc60 => ?_)
     ·skip
      refine .seq ?_
      refine .region ?_
      refine .q (op_move rfl) trivial rfl ?_
      refine .a (op_call (U := [(1000, some ⟨.agg [.bool ((feedD (feedD q.h (q.r.take (min (cN l q.i q.r) q.r.length))).1 [109, 111, 114, 101]).1).c, .nilsl, .i64 ((((feedD (feedD q.h (q.r.take (min (cN l q.i q.r) q.r.length))).1 [109, 111, 114, 101]).1).g : Nat) : Int), .str ((feedD (feedD q.h (q.r.take (min (cN l q.i q.r) q.r.length))).1 [109, 111, 114, 101]).1).v, .err 225 (((feedD (feedD q.h (q.r.take (min (cN l q.i q.r) q.r.length))).1 [109, 111, 114, 101]).1).e) (offE eo (((feedD (feedD q.h (q.r.take (min (cN l q.i q.r) q.r.length))).1 [109, 111, 114, 101]).1).e))], 115, true⟩)]) [(500, 1000)] [] (feed_nn (feedD q.h (q.r.take (min (cN l q.i q.r) q.r.length))).1 [109, 111, 114, 101] (q.feeds (min (cN l q.i q.r) q.r.length)).1 hP (by decide) (by rw [feedD_end (goes_e (bne_iff_ne.1 hc60))]; exact hP) eo) Tryd.func31 (by kernel_rfl) rfl rfl rfl (⟨⟨_, rfl, rfl, rfl⟩, ⟨_, rfl, rfl, rfl⟩, trivial⟩) (⟨⟨_, _, rfl, rfl, rfl, rfl, id, rfl⟩, ⟨_, _, rfl, rfl, rfl, rfl, (fun h => by cases h), rfl⟩, ⟨_, _, rfl, rfl, rfl, rfl, (fun h => by cases h), rfl⟩, ⟨_, _, rfl, rfl, rfl, rfl, (fun h => by cases h), rfl⟩, trivial⟩) (⟨⟨500, _, rfl, rfl, rfl, rfl, .inr ⟨rfl, _, rfl, rfl⟩⟩, trivial⟩) (⟨(fun _ => ⟨1000, _, rfl, rfl⟩), (fun h => by cases h), (fun h => by cases h), (fun h => by cases h), trivial⟩) rfl) trivial rfl ?_
      refine .as (.tup [.str [], .err 225 ((feedD q.h (q.r.take (min (cN l q.i q.r) q.r.length))).1.e) (offE eo ((feedD q.h (q.r.take (min (cN l q.i q.r) q.r.length))).1.e))]) (by show AV.tup [.str (feedR _ _), AV.err 225 ((feedD (feedD q.h (q.r.take (min (cN l q.i q.r) q.r.length))).1 [109, 111, 114, 101]).1.e) (offE eo ((feedD (feedD q.h (q.r.take (min (cN l q.i q.r) q.r.length))).1 [109, 111, 114, 101]).1.e))] = _; rw [feedR_bad (feedD_end (goes_e (bne_iff_ne.1 hc60))) (bne_iff_ne.1 hc60), feedD_end (goes_e (bne_iff_ne.1 hc60))]) ?_
      refine .q (op_move rfl) trivial rfl ?_
      refine .q (op_extract rfl rfl) trivial rfl ?_
      refine .q (op_extract rfl rfl) trivial rfl ?_
      refine .q (op_assign rfl) trivial rfl ?_
      refine .q (op_assign rfl) trivial rfl ?_
      refine .nil ?_
      show Ev _ _ _ _ _
      refine .seq ?_
      refine .drawn [[], [0], [], [2], [0, 1, 2, 3], [0, 1, 2, 3, 4], [0, 1, 2, 3, 4, 5], [0, 1, 2, 3, 4, 5, 6], [0, 1, 2, 3, 4, 5], [0, 1, 2, 3, 4, 5, 8], [0, 1, 2, 3, 4, 5, 6, 7, 8, 9], [0, 1, 2, 3, 4, 5, 6, 7, 8, 9, 10], [0, 1, 2, 3, 4, 5, 6, 7, 8, 9, 10, 11], [0, 1, 2, 3, 4, 5, 6, 7, 8, 9, 10, 11, 12], [0, 1, 2, 3, 4, 5, 6, 7, 8, 9, 10, 11, 12, 13], [0, 1, 2, 3, 4, 5, 6, 7, 8, 9, 10, 11, 12, 13, 14], [0, 1, 2, 3, 4, 5, 6, 7, 8, 9, 10, 11, 12, 13, 14, 15], [0, 1, 2, 3, 4, 5, 6, 7, 8, 9, 10, 11, 12, 13, 14, 15, 16], [0, 1, 2, 3, 4, 5, 6, 7, 8, 9, 10, 11, 12, 13, 14, 15, 16, 17], [0, 1, 2, 3, 4, 5, 6, 7, 8, 9, 10, 11, 12, 13, 14, 15, 16, 17, 18], [0, 1, 2, 3, 4, 5, 6, 7, 8, 9, 10, 11, 12, 13, 14, 15, 16, 17, 18, 19], [0, 1, 2, 3, 4, 5, 6, 7, 8, 9, 10, 11, 12, 13, 14, 15, 16, 17, 18, 19, 20]] [1, 3, 7, 9, 18] [] (by kernel_rfl) (by kernel_rfl) rfl ?_
      show DK _ [0, 1, 2, 3, 4, 5, 6, 7, 8, 9, 10, 11, 12, 13, 14, 15, 16, 17, 18, 19, 20, 21] _ _ _
      refine .q rfl (op_move rfl) trivial ?_
      refine .q rfl (op_call (U := []) [] [] (codeH_ev eo hd (feedD q.h (q.r.take (min (cN l q.i q.r) q.r.length))).1.e (q.okE (min (cN l q.i q.r) q.r.length))) Tryd.func14 (by kernel_rfl) rfl rfl rfl (⟨⟨_, rfl, rfl, rfl⟩, trivial⟩) (⟨⟨_, _, rfl, rfl, rfl, rfl, (fun h => by cases h), rfl⟩, ⟨_, _, rfl, rfl, rfl, rfl, (fun h => by cases h), rfl⟩, ⟨_, _, rfl, rfl, rfl, rfl, (fun h => by cases h), rfl⟩, ⟨_, _, rfl, rfl, rfl, rfl, (fun h => by cases h), rfl⟩, ⟨_, _, rfl, rfl, rfl, rfl, (fun h => by cases h), rfl⟩, ⟨_, _, rfl, rfl, rfl, rfl, (fun h => by cases h), rfl⟩, ⟨_, _, rfl, rfl, rfl, rfl, (fun h => by cases h), rfl⟩, ⟨_, _, rfl, rfl, rfl, rfl, (fun h => by cases h), rfl⟩, ⟨_, _, rfl, rfl, rfl, rfl, (fun h => by cases h), rfl⟩, ⟨_, _, rfl, rfl, rfl, rfl, (fun h => by cases h), rfl⟩, ⟨_, _, rfl, rfl, rfl, rfl, (fun h => by cases h), rfl⟩, ⟨_, _, rfl, rfl, rfl, rfl, (fun h => by cases h), rfl⟩, ⟨_, _, rfl, rfl, rfl, rfl, (fun h => by cases h), rfl⟩, ⟨_, _, rfl, rfl, rfl, rfl, (fun h => by cases h), rfl⟩, ⟨_, _, rfl, rfl, rfl, rfl, (fun h => by cases h), rfl⟩, ⟨_, _, rfl, rfl, rfl, rfl, (fun h => by cases h), rfl⟩, ⟨_, _, rfl, rfl, rfl, rfl, (fun h => by cases h), rfl⟩, ⟨_, _, rfl, rfl, rfl, rfl, (fun h => by cases h), rfl⟩, ⟨_, _, rfl, rfl, rfl, rfl, (fun h => by cases h), rfl⟩, ⟨_, _, rfl, rfl, rfl, rfl, (fun h => by cases h), rfl⟩, ⟨_, _, rfl, rfl, rfl, rfl, (fun h => by cases h), rfl⟩, ⟨_, _, rfl, rfl, rfl, rfl, (fun h => by cases h), rfl⟩, ⟨_, _, rfl, rfl, rfl, rfl, (fun h => by cases h), rfl⟩, ⟨_, _, rfl, rfl, rfl, rfl, (fun h => by cases h), rfl⟩, ⟨_, _, rfl, rfl, rfl, rfl, (fun h => by cases h), rfl⟩, ⟨_, _, rfl, rfl, rfl, rfl, (fun h => by cases h), rfl⟩, ⟨_, _, rfl, rfl, rfl, rfl, (fun h => by cases h), rfl⟩, ⟨_, _, rfl, rfl, rfl, rfl, (fun h => by cases h), rfl⟩, ⟨_, _, rfl, rfl, rfl, rfl, (fun h => by cases h), rfl⟩, ⟨_, _, rfl, rfl, rfl, rfl, (fun h => by cases h), rfl⟩, ⟨_, _, rfl, rfl, rfl, rfl, (fun h => by cases h), rfl⟩, ⟨_, _, rfl, rfl, rfl, rfl, (fun h => by cases h), rfl⟩, ⟨_, _, rfl, rfl, rfl, rfl, (fun h => by cases h), rfl⟩, ⟨_, _, rfl, rfl, rfl, rfl, (fun h => by cases h), rfl⟩, ⟨_, _, rfl, rfl, rfl, rfl, (fun h => by cases h), rfl⟩, ⟨_, _, rfl, rfl, rfl, rfl, (fun h => by cases h), rfl⟩, ⟨_, _, rfl, rfl, rfl, rfl, (fun h => by cases h), rfl⟩, ⟨_, _, rfl, rfl, rfl, rfl, (fun h => by cases h), rfl⟩, ⟨_, _, rfl, rfl, rfl, rfl, (fun h => by cases h), rfl⟩, ⟨_, _, rfl, rfl, rfl, rfl, (fun h => by cases h), rfl⟩, trivial⟩) (trivial) (⟨(fun h => by cases h), (fun h => by cases h), (fun h => by cases h), (fun h => by cases h), (fun h => by cases h), (fun h => by cases h), (fun h => by cases h), (fun h => by cases h), (fun h => by cases h), (fun h => by cases h), (fun h => by cases h), (fun h => by cases h), (fun h => by cases h), (fun h => by cases h), (fun h => by cases h), (fun h => by cases h), (fun h => by cases h), (fun h => by cases h), (fun h => by cases h), (fun h => by cases h), (fun h => by cases h), (fun h => by cases h), (fun h => by cases h), (fun h => by cases h), (fun h => by cases h), (fun h => by cases h), (fun h => by cases h), (fun h => by cases h), (fun h => by cases h), (fun h => by cases h), (fun h => by cases h), (fun h => by cases h), (fun h => by cases h), (fun h => by cases h), (fun h => by cases h), (fun h => by cases h), (fun h => by cases h), (fun h => by cases h), (fun h => by cases h), (fun h => by cases h), trivial⟩) rfl) trivial ?_
      refine .q rfl (op_fieldAddr (m := 0) Tryd.underlying60 rfl (by kernel_rfl) rfl) trivial ?_
      refine .as (.ptr 1008 2) rfl ?_
      refine .q rfl (op_load Tryd.underlying3 rfl rfl rfl rfl (by show 2 < 3; decide)) trivial ?_
      refine .q rfl (op_cmpI rfl rfl rfl) trivial ?_
      refine .q rfl (op_move rfl) trivial ?_
      refine .know (b' := true) (by rw [(q.err (min (cN l q.i q.r) q.r.length) (bne_iff_ne.1 hc60)).1]; first | rfl | exact beq_self_eq_true _ | exact decide_eq_true rfl) ?_
      refine .q rfl (op_move rfl) ⟨_, rfl, rfl⟩ ?_
      refine .q rfl (op_call (U := []) [] [] (codeH_ev eo hd (feedD q.h (q.r.take (min (cN l q.i q.r) q.r.length))).1.e (q.okE (min (cN l q.i q.r) q.r.length))) Tryd.func14 (by kernel_rfl) rfl rfl rfl (⟨⟨_, rfl, rfl, rfl⟩, trivial⟩) (⟨⟨_, _, rfl, rfl, rfl, rfl, (fun h => by cases h), rfl⟩, ⟨_, _, rfl, rfl, rfl, rfl, (fun h => by cases h), rfl⟩, ⟨_, _, rfl, rfl, rfl, rfl, (fun h => by cases h), rfl⟩, ⟨_, _, rfl, rfl, rfl, rfl, (fun h => by cases h), rfl⟩, ⟨_, _, rfl, rfl, rfl, rfl, (fun h => by cases h), rfl⟩, ⟨_, _, rfl, rfl, rfl, rfl, (fun h => by cases h), rfl⟩, ⟨_, _, rfl, rfl, rfl, rfl, (fun h => by cases h), rfl⟩, ⟨_, _, rfl, rfl, rfl, rfl, (fun h => by cases h), rfl⟩, ⟨_, _, rfl, rfl, rfl, rfl, (fun h => by cases h), rfl⟩, ⟨_, _, rfl, rfl, rfl, rfl, (fun h => by cases h), rfl⟩, ⟨_, _, rfl, rfl, rfl, rfl, (fun h => by cases h), rfl⟩, ⟨_, _, rfl, rfl, rfl, rfl, (fun h => by cases h), rfl⟩, ⟨_, _, rfl, rfl, rfl, rfl, (fun h => by cases h), rfl⟩, ⟨_, _, rfl, rfl, rfl, rfl, (fun h => by cases h), rfl⟩, ⟨_, _, rfl, rfl, rfl, rfl, (fun h => by cases h), rfl⟩, ⟨_, _, rfl, rfl, rfl, rfl, (fun h => by cases h), rfl⟩, ⟨_, _, rfl, rfl, rfl, rfl, (fun h => by cases h), rfl⟩, ⟨_, _, rfl, rfl, rfl, rfl, (fun h => by cases h), rfl⟩, ⟨_, _, rfl, rfl, rfl, rfl, (fun h => by cases h), rfl⟩, ⟨_, _, rfl, rfl, rfl, rfl, (fun h => by cases h), rfl⟩, ⟨_, _, rfl, rfl, rfl, rfl, (fun h => by cases h), rfl⟩, ⟨_, _, rfl, rfl, rfl, rfl, (fun h => by cases h), rfl⟩, ⟨_, _, rfl, rfl, rfl, rfl, (fun h => by cases h), rfl⟩, ⟨_, _, rfl, rfl, rfl, rfl, (fun h => by cases h), rfl⟩, ⟨_, _, rfl, rfl, rfl, rfl, (fun h => by cases h), rfl⟩, ⟨_, _, rfl, rfl, rfl, rfl, (fun h => by cases h), rfl⟩, ⟨_, _, rfl, rfl, rfl, rfl, (fun h => by cases h), rfl⟩, ⟨_, _, rfl, rfl, rfl, rfl, (fun h => by cases h), rfl⟩, ⟨_, _, rfl, rfl, rfl, rfl, (fun h => by cases h), rfl⟩, ⟨_, _, rfl, rfl, rfl, rfl, (fun h => by cases h), rfl⟩, ⟨_, _, rfl, rfl, rfl, rfl, (fun h => by cases h), rfl⟩, ⟨_, _, rfl, rfl, rfl, rfl, (fun h => by cases h), rfl⟩, ⟨_, _, rfl, rfl, rfl, rfl, (fun h => by cases h), rfl⟩, ⟨_, _, rfl, rfl, rfl, rfl, (fun h => by cases h), rfl⟩, ⟨_, _, rfl, rfl, rfl, rfl, (fun h => by cases h), rfl⟩, ⟨_, _, rfl, rfl, rfl, rfl, (fun h => by cases h), rfl⟩, ⟨_, _, rfl, rfl, rfl, rfl, (fun h => by cases h), rfl⟩, ⟨_, _, rfl, rfl, rfl, rfl, (fun h => by cases h), rfl⟩, ⟨_, _, rfl, rfl, rfl, rfl, (fun h => by cases h), rfl⟩, ⟨_, _, rfl, rfl, rfl, rfl, (fun h => by cases h), rfl⟩, trivial⟩) (trivial) (⟨(fun h => by cases h), (fun h => by cases h), (fun h => by cases h), (fun h => by cases h), (fun h => by cases h), (fun h => by cases h), (fun h => by cases h), (fun h => by cases h), (fun h => by cases h), (fun h => by cases h), (fun h => by cases h), (fun h => by cases h), (fun h => by cases h), (fun h => by cases h), (fun h => by cases h), (fun h => by cases h), (fun h => by cases h), (fun h => by cases h), (fun h => by cases h), (fun h => by cases h), (fun h => by cases h), (fun h => by cases h), (fun h => by cases h), (fun h => by cases h), (fun h => by cases h), (fun h => by cases h), (fun h => by cases h), (fun h => by cases h), (fun h => by cases h), (fun h => by cases h), (fun h => by cases h), (fun h => by cases h), (fun h => by cases h), (fun h => by cases h), (fun h => by cases h), (fun h => by cases h), (fun h => by cases h), (fun h => by cases h), (fun h => by cases h), (fun h => by cases h), trivial⟩) rfl) ⟨_, rfl, rfl⟩ ?_
      refine .q rfl (op_fieldAddr (m := 0) Tryd.underlying60 rfl (by kernel_rfl) rfl) ⟨_, rfl, rfl⟩ ?_
      refine .as (.ptr 1008 2) rfl ?_
      refine .q rfl (op_load Tryd.underlying3 rfl rfl rfl rfl (by show 2 < 3; decide)) ⟨_, rfl, rfl⟩ ?_
      refine .q rfl (op_cmpI rfl rfl rfl) ⟨_, rfl, rfl⟩ ?_
      refine .q rfl (op_pick_true rfl rfl rfl) trivial ?_
      refine .q rfl (op_move rfl) trivial ?_
      refine .know (b' := true) (by rw [(q.err (min (cN l q.i q.r) q.r.length) (bne_iff_ne.1 hc60)).1]; first | rfl | exact beq_self_eq_true _ | exact decide_eq_true rfl) ?_
      refine .q rfl (op_move rfl) ⟨_, rfl, rfl⟩ ?_
      refine .q rfl (op_eqS rfl rfl rfl) ⟨_, rfl, rfl⟩ ?_
      refine .q rfl (op_pick_true rfl rfl rfl) trivial ?_
      refine .q rfl (op_move rfl) trivial ?_
      refine .know (b' := true) (by rw [feedR_e (bne_iff_ne.1 hc60)]; rfl) ?_
      refine .q rfl (op_move rfl) ⟨_, rfl, rfl⟩ ?_
      refine .q rfl (op_call (U := []) [(500, 1000)] [] (peer_n (feedD (feedD q.h (q.r.take (min (cN l q.i q.r) q.r.length))).1 [109, 111, 114, 101]).1 eo) Tryd.func32 (by kernel_rfl) rfl rfl rfl (⟨⟨_, rfl, rfl, rfl⟩, trivial⟩) (⟨⟨_, _, rfl, rfl, rfl, rfl, (fun h => by cases h), rfl⟩, trivial⟩) (trivial) (⟨(fun h => by cases h), trivial⟩) rfl) ⟨_, rfl, rfl⟩ ?_
      refine .q rfl (op_eqS rfl rfl rfl) ⟨_, rfl, rfl⟩ ?_
      refine .q rfl (op_pick_true rfl rfl rfl) trivial ?_
      refine .q rfl (op_assign rfl) trivial ?_
      refine .nil ?_
      show Ev _ _ _ _ _
      refine .ret ?_
      show RetOk _ _ _ _ _ _ _
      first
       | exact ret1v rfl (.inl rfl) rfl (congrArg AV.bool (by rw [(q.want (bne_eq_false_iff_eq.1 hc30)).2.1]; exact beq_self_eq_true _)) trivial
       | exact ret1v rfl (.inl rfl) rfl (congrArg AV.bool (by rw [feedD_end (goes_e (bne_iff_ne.1 hc60))]; exact beq_iff_eq.2 (q.err (min (cN l q.i q.r) q.r.length) (bne_iff_ne.1 hc60)).2.1)) trivial
     ·skip
      refine .skip ?_
      show Ev _ _ _ _ _
      refine .seq ?_
      refine .seq ?_
      refine .region ?_
      refine .q (op_move rfl) trivial rfl ?_
      refine .q (op_move rfl) trivial rfl ?_
      refine .split (fun hg88 => ?_) (fun hg88 => ?_)
      ·skip
       refine .q (op_move rfl) ⟨_, rfl, rfl⟩ rfl ?_
       refine .q (op_move rfl) ⟨_, rfl, rfl⟩ rfl ?_
       refine .q (op_move rfl) ⟨_, rfl, rfl⟩ rfl ?_
       refine .q (ap_slice_str_hi Tryd.underlying9 rfl (bnd_some rfl (l := (min (cN l q.i q.r) q.r.length)) rfl) (by omega)) ⟨_, rfl, rfl⟩ rfl ?_
       refine .q (op_eqS rfl rfl rfl) ⟨_, rfl, rfl⟩ rfl ?_
       refine .q (op_pick_true rfl rfl rfl) trivial rfl ?_
       refine .q (op_move rfl) trivial rfl ?_
       refine .know (b' := false) (by first | rfl | exact bne_eq_false_iff_eq.2 (q.got_same (min (cN l q.i q.r) q.r.length) (bne_iff_ne.1 hg88))) ?_
       refine .q (op_move rfl) ⟨_, rfl, rfl⟩ rfl ?_
       refine .q (op_call (U := []) [(500, 1000)] [] (done_n (feedD q.h (q.r.take (min (cN l q.i q.r) q.r.length))).1 eo) Tryd.func30 (by kernel_rfl) rfl rfl rfl (⟨⟨_, rfl, rfl, rfl⟩, trivial⟩) (⟨⟨_, _, rfl, rfl, rfl, rfl, (fun h => by cases h), rfl⟩, trivial⟩) (trivial) (⟨(fun h => by cases h), trivial⟩) rfl) ⟨_, rfl, rfl⟩ rfl ?_
       refine .q (op_notB rfl) ⟨_, rfl, rfl⟩ rfl ?_
       refine .q (op_move rfl) ⟨_, rfl, rfl⟩ rfl ?_
       refine .split (fun hg99 => ?_) (fun hg99 => ?_)
       ·skip
        refine .q (op_move rfl) ⟨_, rfl, rfl⟩ rfl ?_
        refine .q (op_eqS rfl rfl rfl) ⟨_, rfl, rfl⟩ rfl ?_
        refine .q (op_pick_true rfl rfl rfl) ⟨_, rfl, rfl⟩ rfl ?_
        refine .q (op_pick_false rfl rfl rfl) trivial rfl ?_
        refine .nil ?_
        show Ev _ _ _ _ _
        refine .cond_false rfl (by first | rfl | exact bne_eq_false_iff_eq.2 (q.got_nil (min (cN l q.i q.r) q.r.length) (bne_eq_false_iff_eq.1 hc60) (nv_t hg99))) ?_
        refine .skip ?_
        show Ev _ _ _ _ _
        refine .seq ?_
        refine .region ?_
        refine .q (op_move rfl) trivial rfl ?_
        refine .q (op_move rfl) trivial rfl ?_
        refine .as (.str (feedD q.h (q.r.take (min (cN l q.i q.r) q.r.length))).2) (congrArg AV.str (feedR_ok (bne_eq_false_iff_eq.1 hc60))) ?_
        refine .q (op_addS rfl rfl (by have h9 := q.got_le (min (cN l q.i q.r) q.r.length); rw [List.length_take] at h9; omega)) trivial rfl ?_
        refine .q (op_assign rfl) trivial rfl ?_
        refine .nil ?_
        show Ev _ _ _ _ _
        refine .region ?_
        refine .q (op_move rfl) trivial rfl ?_
        refine .q (op_move rfl) trivial rfl ?_
        refine .q (ap_slice_str_lo Tryd.underlying9 rfl (bnd_some rfl (l := (min (cN l q.i q.r) q.r.length)) rfl) (by omega)) trivial rfl ?_
        refine .q (op_assign rfl) trivial rfl ?_
        refine .nil ?_
        show Ev _ _ _ _ _
        refine .region ?_
        refine .q (op_move rfl) trivial rfl ?_
        refine .q (op_addI rfl rfl ⟨by omega, by omega⟩) trivial rfl ?_
        refine .q (op_assign rfl) trivial rfl ?_
        refine .nil ?_
        exact ⟨.inl ⟨q.step (min (cN l q.i q.r) q.r.length) hnp (Nat.min_le_right _ _) (bne_eq_false_iff_eq.1 hc60), hP⟩, (by show (q.r.drop (min (cN l q.i q.r) q.r.length)).length < q.r.length; rw [List.length_drop]; omega), StLe.mk [(1000, 1000), (1008, 1008)] rfl rfl ⟨⟨_, rfl, by first | rfl | (simp only [AV.ren]; congr 1; omega), rfl⟩, ⟨_, rfl, by first | rfl | (simp only [AV.ren]; congr 1; omega), rfl⟩, ⟨_, rfl, by first | rfl | (simp only [AV.ren]; congr 1; omega), rfl⟩, ⟨_, rfl, by first | rfl | (simp only [AV.ren]; congr 1; omega), rfl⟩, ⟨_, rfl, by first | rfl | (simp only [AV.ren]; congr 1; omega), rfl⟩, ⟨_, rfl, by first | rfl | (simp only [AV.ren]; congr 1; omega), rfl⟩, ⟨_, rfl, by first | rfl | (simp only [AV.ren]; congr 1; omega), rfl⟩, ⟨_, rfl, by first | rfl | (simp only [AV.ren]; congr 1; omega), rfl⟩, trivial⟩ ⟨⟨_, _, rfl, rfl, rfl, rfl, id, rfl⟩, ⟨_, _, rfl, rfl, rfl, rfl, id, rfl⟩, ⟨_, _, rfl, rfl, rfl, rfl, id, rfl⟩, ⟨_, _, rfl, rfl, rfl, rfl, id, rfl⟩, ⟨_, _, rfl, rfl, rfl, rfl, id, rfl⟩, ⟨_, _, rfl, rfl, rfl, rfl, id, rfl⟩, ⟨_, _, rfl, rfl, rfl, rfl, id, rfl⟩, ⟨_, _, rfl, rfl, rfl, rfl, id, rfl⟩, ⟨_, _, rfl, rfl, rfl, rfl, id, rfl⟩, ⟨_, _, rfl, rfl, rfl, rfl, id, rfl⟩, ⟨_, _, rfl, rfl, rfl, rfl, id, rfl⟩, ⟨_, _, rfl, rfl, rfl, rfl, id, rfl⟩, ⟨_, _, rfl, rfl, rfl, rfl, id, rfl⟩, ⟨_, _, rfl, rfl, rfl, rfl, id, rfl⟩, ⟨_, _, rfl, rfl, rfl, rfl, id, rfl⟩, ⟨_, _, rfl, rfl, rfl, rfl, id, rfl⟩, ⟨_, _, rfl, rfl, rfl, rfl, id, rfl⟩, ⟨_, _, rfl, rfl, rfl, rfl, id, rfl⟩, ⟨_, _, rfl, rfl, rfl, rfl, id, rfl⟩, ⟨_, _, rfl, rfl, rfl, rfl, id, rfl⟩, ⟨_, _, rfl, rfl, rfl, rfl, id, rfl⟩, ⟨_, _, rfl, rfl, rfl, rfl, id, rfl⟩, ⟨_, _, rfl, rfl, rfl, rfl, id, rfl⟩, ⟨_, _, rfl, rfl, rfl, rfl, id, rfl⟩, ⟨_, _, rfl, rfl, rfl, rfl, id, rfl⟩, ⟨_, _, rfl, rfl, rfl, rfl, id, rfl⟩, ⟨_, _, rfl, rfl, rfl, rfl, id, rfl⟩, ⟨_, _, rfl, rfl, rfl, rfl, id, rfl⟩, ⟨_, _, rfl, rfl, rfl, rfl, id, rfl⟩, ⟨_, _, rfl, rfl, rfl, rfl, id, rfl⟩, ⟨_, _, rfl, rfl, rfl, rfl, id, rfl⟩, ⟨_, _, rfl, rfl, rfl, rfl, id, rfl⟩, ⟨_, _, rfl, rfl, rfl, rfl, id, rfl⟩, ⟨_, _, rfl, rfl, rfl, rfl, id, rfl⟩, ⟨_, _, rfl, rfl, rfl, rfl, id, rfl⟩, ⟨_, _, rfl, rfl, rfl, rfl, id, rfl⟩, ⟨_, _, rfl, rfl, rfl, rfl, id, rfl⟩, ⟨_, _, rfl, rfl, rfl, rfl, id, rfl⟩, ⟨_, _, rfl, rfl, rfl, rfl, id, rfl⟩, ⟨_, _, rfl, rfl, rfl, rfl, id, rfl⟩, ⟨_, _, rfl, rfl, rfl, rfl, id, rfl⟩, ⟨_, _, rfl, rfl, rfl, rfl, id, rfl⟩, ⟨_, _, rfl, rfl, cut_ren _ o l, rfl, id, cut_nm _ o l⟩, trivial⟩⟩
       ·skip
        refine .no ⟨_, rfl, rfl⟩ rfl ?_
        refine .no ⟨_, rfl, rfl⟩ rfl ?_
        refine .q (op_pick_false rfl rfl rfl) ⟨_, rfl, rfl⟩ rfl ?_
        refine .q (op_pick_false rfl rfl rfl) trivial rfl ?_
        refine .nil ?_
        show Ev _ _ _ _ _
        refine .cond_false rfl rfl ?_
        refine .skip ?_
        show Ev _ _ _ _ _
        refine .seq ?_
        refine .region ?_
        refine .q (op_move rfl) trivial rfl ?_
        refine .q (op_move rfl) trivial rfl ?_
        refine .as (.str (feedD q.h (q.r.take (min (cN l q.i q.r) q.r.length))).2) (congrArg AV.str (feedR_ok (bne_eq_false_iff_eq.1 hc60))) ?_
        refine .q (op_addS rfl rfl (by have h9 := q.got_le (min (cN l q.i q.r) q.r.length); rw [List.length_take] at h9; omega)) trivial rfl ?_
        refine .q (op_assign rfl) trivial rfl ?_
        refine .nil ?_
        show Ev _ _ _ _ _
        refine .region ?_
        refine .q (op_move rfl) trivial rfl ?_
        refine .q (op_move rfl) trivial rfl ?_
        refine .q (ap_slice_str_lo Tryd.underlying9 rfl (bnd_some rfl (l := (min (cN l q.i q.r) q.r.length)) rfl) (by omega)) trivial rfl ?_
        refine .q (op_assign rfl) trivial rfl ?_
        refine .nil ?_
        show Ev _ _ _ _ _
        refine .region ?_
        refine .q (op_move rfl) trivial rfl ?_
        refine .q (op_addI rfl rfl ⟨by omega, by omega⟩) trivial rfl ?_
        refine .q (op_assign rfl) trivial rfl ?_
        refine .nil ?_
        exact ⟨.inl ⟨q.step (min (cN l q.i q.r) q.r.length) hnp (Nat.min_le_right _ _) (bne_eq_false_iff_eq.1 hc60), hP⟩, (by show (q.r.drop (min (cN l q.i q.r) q.r.length)).length < q.r.length; rw [List.length_drop]; omega), StLe.mk [(1000, 1000), (1008, 1008)] rfl rfl ⟨⟨_, rfl, by first | rfl | (simp only [AV.ren]; congr 1; omega), rfl⟩, ⟨_, rfl, by first | rfl | (simp only [AV.ren]; congr 1; omega), rfl⟩, ⟨_, rfl, by first | rfl | (simp only [AV.ren]; congr 1; omega), rfl⟩, ⟨_, rfl, by first | rfl | (simp only [AV.ren]; congr 1; omega), rfl⟩, ⟨_, rfl, by first | rfl | (simp only [AV.ren]; congr 1; omega), rfl⟩, ⟨_, rfl, by first | rfl | (simp only [AV.ren]; congr 1; omega), rfl⟩, ⟨_, rfl, by first | rfl | (simp only [AV.ren]; congr 1; omega), rfl⟩, ⟨_, rfl, by first | rfl | (simp only [AV.ren]; congr 1; omega), rfl⟩, trivial⟩ ⟨⟨_, _, rfl, rfl, rfl, rfl, id, rfl⟩, ⟨_, _, rfl, rfl, rfl, rfl, id, rfl⟩, ⟨_, _, rfl, rfl, rfl, rfl, id, rfl⟩, ⟨_, _, rfl, rfl, rfl, rfl, id, rfl⟩, ⟨_, _, rfl, rfl, rfl, rfl, id, rfl⟩, ⟨_, _, rfl, rfl, rfl, rfl, id, rfl⟩, ⟨_, _, rfl, rfl, rfl, rfl, id, rfl⟩, ⟨_, _, rfl, rfl, rfl, rfl, id, rfl⟩, ⟨_, _, rfl, rfl, rfl, rfl, id, rfl⟩, ⟨_, _, rfl, rfl, rfl, rfl, id, rfl⟩, ⟨_, _, rfl, rfl, rfl, rfl, id, rfl⟩, ⟨_, _, rfl, rfl, rfl, rfl, id, rfl⟩, ⟨_, _, rfl, rfl, rfl, rfl, id, rfl⟩, ⟨_, _, rfl, rfl, rfl, rfl, id, rfl⟩, ⟨_, _, rfl, rfl, rfl, rfl, id, rfl⟩, ⟨_, _, rfl, rfl, rfl, rfl, id, rfl⟩, ⟨_, _, rfl, rfl, rfl, rfl, id, rfl⟩, ⟨_, _, rfl, rfl, rfl, rfl, id, rfl⟩, ⟨_, _, rfl, rfl, rfl, rfl, id, rfl⟩, ⟨_, _, rfl, rfl, rfl, rfl, id, rfl⟩, ⟨_, _, rfl, rfl, rfl, rfl, id, rfl⟩, ⟨_, _, rfl, rfl, rfl, rfl, id, rfl⟩, ⟨_, _, rfl, rfl, rfl, rfl, id, rfl⟩, ⟨_, _, rfl, rfl, rfl, rfl, id, rfl⟩, ⟨_, _, rfl, rfl, rfl, rfl, id, rfl⟩, ⟨_, _, rfl, rfl, rfl, rfl, id, rfl⟩, ⟨_, _, rfl, rfl, rfl, rfl, id, rfl⟩, ⟨_, _, rfl, rfl, rfl, rfl, id, rfl⟩, ⟨_, _, rfl, rfl, rfl, rfl, id, rfl⟩, ⟨_, _, rfl, rfl, rfl, rfl, id, rfl⟩, ⟨_, _, rfl, rfl, rfl, rfl, id, rfl⟩, ⟨_, _, rfl, rfl, rfl, rfl, id, rfl⟩, ⟨_, _, rfl, rfl, rfl, rfl, id, rfl⟩, ⟨_, _, rfl, rfl, rfl, rfl, id, rfl⟩, ⟨_, _, rfl, rfl, rfl, rfl, id, rfl⟩, ⟨_, _, rfl, rfl, rfl, rfl, id, rfl⟩, ⟨_, _, rfl, rfl, rfl, rfl, id, rfl⟩, ⟨_, _, rfl, rfl, rfl, rfl, id, rfl⟩, ⟨_, _, rfl, rfl, rfl, rfl, id, rfl⟩, ⟨_, _, rfl, rfl, rfl, rfl, id, rfl⟩, ⟨_, _, rfl, rfl, rfl, rfl, id, rfl⟩, ⟨_, _, rfl, rfl, rfl, rfl, id, rfl⟩, ⟨_, _, rfl, rfl, cut_ren _ o l, rfl, id, cut_nm _ o l⟩, trivial⟩⟩
      ·skip
       refine .no ⟨_, rfl, rfl⟩ rfl ?_
       refine .no ⟨_, rfl, rfl⟩ rfl ?_
       refine .no ⟨_, rfl, rfl⟩ rfl ?_
       refine .no ⟨_, rfl, rfl⟩ rfl ?_
       refine .no ⟨_, rfl, rfl⟩ rfl ?_
       refine .q (op_pick_false rfl rfl rfl) trivial rfl ?_
       refine .q (op_move rfl) trivial rfl ?_
       refine .q (op_move rfl) ⟨_, rfl, rfl⟩ rfl ?_
       refine .q (op_call (U := []) [(500, 1000)] [] (done_n (feedD q.h (q.r.take (min (cN l q.i q.r) q.r.length))).1 eo) Tryd.func30 (by kernel_rfl) rfl rfl rfl (⟨⟨_, rfl, rfl, rfl⟩, trivial⟩) (⟨⟨_, _, rfl, rfl, rfl, rfl, (fun h => by cases h), rfl⟩, trivial⟩) (trivial) (⟨(fun h => by cases h), trivial⟩) rfl) ⟨_, rfl, rfl⟩ rfl ?_
       refine .q (op_notB rfl) ⟨_, rfl, rfl⟩ rfl ?_
       refine .q (op_move rfl) ⟨_, rfl, rfl⟩ rfl ?_
       refine .split (fun hg99 => ?_) (fun hg99 => ?_)
       ·skip
        refine .q (op_move rfl) ⟨_, rfl, rfl⟩ rfl ?_
        refine .q (op_eqS rfl rfl rfl) ⟨_, rfl, rfl⟩ rfl ?_
        refine .q (op_pick_true rfl rfl rfl) ⟨_, rfl, rfl⟩ rfl ?_
        refine .q (op_pick_false rfl rfl rfl) trivial rfl ?_
        refine .nil ?_
        show Ev _ _ _ _ _
        refine .cond_false rfl (by first | rfl | exact bne_eq_false_iff_eq.2 (q.got_nil (min (cN l q.i q.r) q.r.length) (bne_eq_false_iff_eq.1 hc60) (nv_t hg99))) ?_
        refine .skip ?_
        show Ev _ _ _ _ _
        refine .seq ?_
        refine .region ?_
        refine .q (op_move rfl) trivial rfl ?_
        refine .q (op_move rfl) trivial rfl ?_
        refine .as (.str (feedD q.h (q.r.take (min (cN l q.i q.r) q.r.length))).2) (congrArg AV.str (feedR_ok (bne_eq_false_iff_eq.1 hc60))) ?_
        refine .q (op_addS rfl rfl (by have h9 := q.got_le (min (cN l q.i q.r) q.r.length); rw [List.length_take] at h9; omega)) trivial rfl ?_
        refine .q (op_assign rfl) trivial rfl ?_
        refine .nil ?_
        show Ev _ _ _ _ _
        refine .region ?_
        refine .q (op_move rfl) trivial rfl ?_
        refine .q (op_move rfl) trivial rfl ?_
        refine .q (ap_slice_str_lo Tryd.underlying9 rfl (bnd_some rfl (l := (min (cN l q.i q.r) q.r.length)) rfl) (by omega)) trivial rfl ?_
        refine .q (op_assign rfl) trivial rfl ?_
        refine .nil ?_
        show Ev _ _ _ _ _
        refine .region ?_
        refine .q (op_move rfl) trivial rfl ?_
        refine .q (op_addI rfl rfl ⟨by omega, by omega⟩) trivial rfl ?_
        refine .q (op_assign rfl) trivial rfl ?_
        refine .nil ?_
        exact ⟨.inl ⟨q.step (min (cN l q.i q.r) q.r.length) hnp (Nat.min_le_right _ _) (bne_eq_false_iff_eq.1 hc60), hP⟩, (by show (q.r.drop (min (cN l q.i q.r) q.r.length)).length < q.r.length; rw [List.length_drop]; omega), StLe.mk [(1000, 1000), (1008, 1008)] rfl rfl ⟨⟨_, rfl, by first | rfl | (simp only [AV.ren]; congr 1; omega), rfl⟩, ⟨_, rfl, by first | rfl | (simp only [AV.ren]; congr 1; omega), rfl⟩, ⟨_, rfl, by first | rfl | (simp only [AV.ren]; congr 1; omega), rfl⟩, ⟨_, rfl, by first | rfl | (simp only [AV.ren]; congr 1; omega), rfl⟩, ⟨_, rfl, by first | rfl | (simp only [AV.ren]; congr 1; omega), rfl⟩, ⟨_, rfl, by first | rfl | (simp only [AV.ren]; congr 1; omega), rfl⟩, ⟨_, rfl, by first | rfl | (simp only [AV.ren]; congr 1; omega), rfl⟩, ⟨_, rfl, by first | rfl | (simp only [AV.ren]; congr 1; omega), rfl⟩, trivial⟩ ⟨⟨_, _, rfl, rfl, rfl, rfl, id, rfl⟩, ⟨_, _, rfl, rfl, rfl, rfl, id, rfl⟩, ⟨_, _, rfl, rfl, rfl, rfl, id, rfl⟩, ⟨_, _, rfl, rfl, rfl, rfl, id, rfl⟩, ⟨_, _, rfl, rfl, rfl, rfl, id, rfl⟩, ⟨_, _, rfl, rfl, rfl, rfl, id, rfl⟩, ⟨_, _, rfl, rfl, rfl, rfl, id, rfl⟩, ⟨_, _, rfl, rfl, rfl, rfl, id, rfl⟩, ⟨_, _, rfl, rfl, rfl, rfl, id, rfl⟩, ⟨_, _, rfl, rfl, rfl, rfl, id, rfl⟩, ⟨_, _, rfl, rfl, rfl, rfl, id, rfl⟩, ⟨_, _, rfl, rfl, rfl, rfl, id, rfl⟩, ⟨_, _, rfl, rfl, rfl, rfl, id, rfl⟩, ⟨_, _, rfl, rfl, rfl, rfl, id, rfl⟩, ⟨_, _, rfl, rfl, rfl, rfl, id, rfl⟩, ⟨_, _, rfl, rfl, rfl, rfl, id, rfl⟩, ⟨_, _, rfl, rfl, rfl, rfl, id, rfl⟩, ⟨_, _, rfl, rfl, rfl, rfl, id, rfl⟩, ⟨_, _, rfl, rfl, rfl, rfl, id, rfl⟩, ⟨_, _, rfl, rfl, rfl, rfl, id, rfl⟩, ⟨_, _, rfl, rfl, rfl, rfl, id, rfl⟩, ⟨_, _, rfl, rfl, rfl, rfl, id, rfl⟩, ⟨_, _, rfl, rfl, rfl, rfl, id, rfl⟩, ⟨_, _, rfl, rfl, rfl, rfl, id, rfl⟩, ⟨_, _, rfl, rfl, rfl, rfl, id, rfl⟩, ⟨_, _, rfl, rfl, rfl, rfl, id, rfl⟩, ⟨_, _, rfl, rfl, rfl, rfl, id, rfl⟩, ⟨_, _, rfl, rfl, rfl, rfl, id, rfl⟩, ⟨_, _, rfl, rfl, rfl, rfl, id, rfl⟩, ⟨_, _, rfl, rfl, rfl, rfl, id, rfl⟩, ⟨_, _, rfl, rfl, rfl, rfl, id, rfl⟩, ⟨_, _, rfl, rfl, rfl, rfl, id, rfl⟩, ⟨_, _, rfl, rfl, rfl, rfl, id, rfl⟩, ⟨_, _, rfl, rfl, rfl, rfl, id, rfl⟩, ⟨_, _, rfl, rfl, rfl, rfl, id, rfl⟩, ⟨_, _, rfl, rfl, rfl, rfl, id, rfl⟩, ⟨_, _, rfl, rfl, rfl, rfl, id, rfl⟩, ⟨_, _, rfl, rfl, rfl, rfl, id, rfl⟩, ⟨_, _, rfl, rfl, rfl, rfl, id, rfl⟩, ⟨_, _, rfl, rfl, rfl, rfl, id, rfl⟩, ⟨_, _, rfl, rfl, rfl, rfl, id, rfl⟩, ⟨_, _, rfl, rfl, rfl, rfl, id, rfl⟩, ⟨_, _, rfl, rfl, cut_ren _ o l, rfl, id, cut_nm _ o l⟩, trivial⟩⟩
       ·skip
        refine .no ⟨_, rfl, rfl⟩ rfl ?_
        refine .no ⟨_, rfl, rfl⟩ rfl ?_
        refine .q (op_pick_false rfl rfl rfl) ⟨_, rfl, rfl⟩ rfl ?_
        refine .q (op_pick_false rfl rfl rfl) trivial rfl ?_
        refine .nil ?_
        show Ev _ _ _ _ _
        refine .cond_false rfl rfl ?_
        refine .skip ?_
        show Ev _ _ _ _ _
        refine .seq ?_
        refine .region ?_
        refine .q (op_move rfl) trivial rfl ?_
        refine .q (op_move rfl) trivial rfl ?_
        refine .as (.str (feedD q.h (q.r.take (min (cN l q.i q.r) q.r.length))).2) (congrArg AV.str (feedR_ok (bne_eq_false_iff_eq.1 hc60))) ?_
        refine .q (op_addS rfl rfl (by have h9 := q.got_le (min (cN l q.i q.r) q.r.length); rw [List.length_take] at h9; omega)) trivial rfl ?_
        refine .q (op_assign rfl) trivial rfl ?_
        refine .nil ?_
        show Ev _ _ _ _ _
        refine .region ?_
        refine .q (op_move rfl) trivial rfl ?_
        refine .q (op_move rfl) trivial rfl ?_
        refine .q (ap_slice_str_lo Tryd.underlying9 rfl (bnd_some rfl (l := (min (cN l q.i q.r) q.r.length)) rfl) (by omega)) trivial rfl ?_
        refine .q (op_assign rfl) trivial rfl ?_
        refine .nil ?_
        show Ev _ _ _ _ _
        refine .region ?_
        refine .q (op_move rfl) trivial rfl ?_
        refine .q (op_addI rfl rfl ⟨by omega, by omega⟩) trivial rfl ?_
        refine .q (op_assign rfl) trivial rfl ?_
        refine .nil ?_
        exact ⟨.inl ⟨q.step (min (cN l q.i q.r) q.r.length) hnp (Nat.min_le_right _ _) (bne_eq_false_iff_eq.1 hc60), hP⟩, (by show (q.r.drop (min (cN l q.i q.r) q.r.length)).length < q.r.length; rw [List.length_drop]; omega), StLe.mk [(1000, 1000), (1008, 1008)] rfl rfl ⟨⟨_, rfl, by first | rfl | (simp only [AV.ren]; congr 1; omega), rfl⟩, ⟨_, rfl, by first | rfl | (simp only [AV.ren]; congr 1; omega), rfl⟩, ⟨_, rfl, by first | rfl | (simp only [AV.ren]; congr 1; omega), rfl⟩, ⟨_, rfl, by first | rfl | (simp only [AV.ren]; congr 1; omega), rfl⟩, ⟨_, rfl, by first | rfl | (simp only [AV.ren]; congr 1; omega), rfl⟩, ⟨_, rfl, by first | rfl | (simp only [AV.ren]; congr 1; omega), rfl⟩, ⟨_, rfl, by first | rfl | (simp only [AV.ren]; congr 1; omega), rfl⟩, ⟨_, rfl, by first | rfl | (simp only [AV.ren]; congr 1; omega), rfl⟩, trivial⟩ ⟨⟨_, _, rfl, rfl, rfl, rfl, id, rfl⟩, ⟨_, _, rfl, rfl, rfl, rfl, id, rfl⟩, ⟨_, _, rfl, rfl, rfl, rfl, id, rfl⟩, ⟨_, _, rfl, rfl, rfl, rfl, id, rfl⟩, ⟨_, _, rfl, rfl, rfl, rfl, id, rfl⟩, ⟨_, _, rfl, rfl, rfl, rfl, id, rfl⟩, ⟨_, _, rfl, rfl, rfl, rfl, id, rfl⟩, ⟨_, _, rfl, rfl, rfl, rfl, id, rfl⟩, ⟨_, _, rfl, rfl, rfl, rfl, id, rfl⟩, ⟨_, _, rfl, rfl, rfl, rfl, id, rfl⟩, ⟨_, _, rfl, rfl, rfl, rfl, id, rfl⟩, ⟨_, _, rfl, rfl, rfl, rfl, id, rfl⟩, ⟨_, _, rfl, rfl, rfl, rfl, id, rfl⟩, ⟨_, _, rfl, rfl, rfl, rfl, id, rfl⟩, ⟨_, _, rfl, rfl, rfl, rfl, id, rfl⟩, ⟨_, _, rfl, rfl, rfl, rfl, id, rfl⟩, ⟨_, _, rfl, rfl, rfl, rfl, id, rfl⟩, ⟨_, _, rfl, rfl, rfl, rfl, id, rfl⟩, ⟨_, _, rfl, rfl, rfl, rfl, id, rfl⟩, ⟨_, _, rfl, rfl, rfl, rfl, id, rfl⟩, ⟨_, _, rfl, rfl, rfl, rfl, id, rfl⟩, ⟨_, _, rfl, rfl, rfl, rfl, id, rfl⟩, ⟨_, _, rfl, rfl, rfl, rfl, id, rfl⟩, ⟨_, _, rfl, rfl, rfl, rfl, id, rfl⟩, ⟨_, _, rfl, rfl, rfl, rfl, id, rfl⟩, ⟨_, _, rfl, rfl, rfl, rfl, id, rfl⟩, ⟨_, _, rfl, rfl, rfl, rfl, id, rfl⟩, ⟨_, _, rfl, rfl, rfl, rfl, id, rfl⟩, ⟨_, _, rfl, rfl, rfl, rfl, id, rfl⟩, ⟨_, _, rfl, rfl, rfl, rfl, id, rfl⟩, ⟨_, _, rfl, rfl, rfl, rfl, id, rfl⟩, ⟨_, _, rfl, rfl, rfl, rfl, id, rfl⟩, ⟨_, _, rfl, rfl, rfl, rfl, id, rfl⟩, ⟨_, _, rfl, rfl, rfl, rfl, id, rfl⟩, ⟨_, _, rfl, rfl, rfl, rfl, id, rfl⟩, ⟨_, _, rfl, rfl, rfl, rfl, id, rfl⟩, ⟨_, _, rfl, rfl, rfl, rfl, id, rfl⟩, ⟨_, _, rfl, rfl, rfl, rfl, id, rfl⟩, ⟨_, _, rfl, rfl, rfl, rfl, id, rfl⟩, ⟨_, _, rfl, rfl, rfl, rfl, id, rfl⟩, ⟨_, _, rfl, rfl, rfl, rfl, id, rfl⟩, ⟨_, _, rfl, rfl, rfl, rfl, id, rfl⟩, ⟨_, _, rfl, rfl, cut_ren _ o l, rfl, id, cut_nm _ o l⟩, trivial⟩⟩
    ·refine .a (op_call (U := [(1000, some ⟨.agg [.bool ((feedD q.h (q.r.take (min (cN l q.i q.r) q.r.length))).1).c, .sl 1024 0 (feedD q.h (q.r.take (min (cN l q.i q.r) q.r.length))).1.p.length 1, .i64 ((((feedD q.h (q.r.take (min (cN l q.i q.r) q.r.length))).1).g : Nat) : Int), .str ((feedD q.h (q.r.take (min (cN l q.i q.r) q.r.length))).1).v, .err 225 (((feedD q.h (q.r.take (min (cN l q.i q.r) q.r.length))).1).e) (offE eo (((feedD q.h (q.r.take (min (cN l q.i q.r) q.r.length))).1).e))], 115, true⟩), (1024, some ⟨.aggB (feedD q.h (q.r.take (min (cN l q.i q.r) q.r.length))).1.p, 5, true⟩), (1016, none)]) [(500, 1000), (501, 1016)] [(1024, 1000)] (feed_ss q.h (q.r.take (min (cN l q.i q.r) q.r.length)) q.fine hq (by rw [List.length_take]; omega) (goes_t (take_ne hr0 hnp) q.e (q.hv hq)) hP eo) Tryd.func31 (by kernel_rfl) rfl rfl rfl (⟨⟨_, rfl, rfl, rfl⟩, ⟨_, rfl, rfl, rfl⟩, trivial⟩) (⟨⟨_, _, rfl, rfl, rfl, rfl, id, rfl⟩, ⟨_, _, rfl, rfl, rfl, rfl, id, rfl⟩, ⟨_, _, rfl, rfl, rfl, rfl, (fun h => by cases h), rfl⟩, ⟨_, _, rfl, rfl, rfl, rfl, (fun h => by cases h), rfl⟩, ⟨_, _, rfl, rfl, rfl, rfl, (fun h => by cases h), rfl⟩, trivial⟩) (⟨⟨500, _, rfl, rfl, rfl, rfl, .inr ⟨rfl, _, rfl, rfl⟩⟩, ⟨1000, _, rfl, rfl, rfl, rfl, .inl rfl⟩, trivial⟩) (⟨(fun _ => ⟨1000, _, rfl, rfl⟩), (fun _ => ⟨1016, _, rfl, rfl⟩), (fun h => by cases h), (fun h => by cases h), (fun h => by cases h), trivial⟩) rfl) trivial rfl ?_
     refine .q (op_move rfl) trivial rfl ?_
     refine .q (op_extract rfl rfl) trivial rfl ?_
     refine .q (op_extract rfl rfl) trivial rfl ?_
     refine .q (op_assign rfl) trivial rfl ?_
     refine .q (op_assign rfl) trivial rfl ?_
     refine .nil ?_
     show Ev _ _ _ _ _
     refine .seq ?_
     refine .seq ?_
     refine .region ?_
     refine .q (op_move rfl) trivial rfl ?_
     refine .q (op_eqErrNil (e := (feedD q.h (q.r.take (min (cN l q.i q.r) q.r.length))).1.e) Tryd.underlying26 rfl rfl) trivial rfl ?_
     refine .nil ?_
     show Ev _ _ _ _ _
     refine .cond_false rfl (bne_eq_false_iff_eq.2 (Classical.byContradiction fun he => hP (q.err (min (cN l q.i q.r) q.r.length) he).2.2)) ?_
     refine .skip ?_
     show Ev _ _ _ _ _
     refine .seq ?_
     refine .seq ?_
     refine .region ?_
     refine .q (op_move rfl) trivial rfl ?_
     refine .q (op_move rfl) trivial rfl ?_
     refine .split (fun hg88 => ?_) (fun hg88 => ?_)
     ·skip
      refine .q (op_move rfl) ⟨_, rfl, rfl⟩ rfl ?_
      refine .q (op_move rfl) ⟨_, rfl, rfl⟩ rfl ?_
      refine .q (op_move rfl) ⟨_, rfl, rfl⟩ rfl ?_
      refine .q (ap_slice_str_hi Tryd.underlying9 rfl (bnd_some rfl (l := (min (cN l q.i q.r) q.r.length)) rfl) (by omega)) ⟨_, rfl, rfl⟩ rfl ?_
      refine .q (op_eqS rfl rfl rfl) ⟨_, rfl, rfl⟩ rfl ?_
      refine .q (op_pick_true rfl rfl rfl) trivial rfl ?_
      refine .q (op_move rfl) trivial rfl ?_
      refine .know (b' := false) (by first | rfl | exact bne_eq_false_iff_eq.2 (q.got_same (min (cN l q.i q.r) q.r.length) (bne_iff_ne.1 hg88))) ?_
      refine .q (op_move rfl) ⟨_, rfl, rfl⟩ rfl ?_
      refine .q (op_call (U := []) [(500, 1000), (501, 1024)] [] (done_s (feedD q.h (q.r.take (min (cN l q.i q.r) q.r.length))).1 eo) Tryd.func30 (by kernel_rfl) rfl rfl rfl (⟨⟨_, rfl, rfl, rfl⟩, trivial⟩) (⟨⟨_, _, rfl, rfl, rfl, rfl, (fun h => by cases h), rfl⟩, trivial⟩) (trivial) (⟨(fun h => by cases h), trivial⟩) rfl) ⟨_, rfl, rfl⟩ rfl ?_
      refine .q (op_notB rfl) ⟨_, rfl, rfl⟩ rfl ?_
      refine .q (op_move rfl) ⟨_, rfl, rfl⟩ rfl ?_
      refine .split (fun hg99 => ?_) (fun hg99 => ?_)
      ·skip
       refine .q (op_move rfl) ⟨_, rfl, rfl⟩ rfl ?_
       refine .q (op_eqS rfl rfl rfl) ⟨_, rfl, rfl⟩ rfl ?_
       refine .q (op_pick_true rfl rfl rfl) ⟨_, rfl, rfl⟩ rfl ?_
       refine .q (op_pick_false rfl rfl rfl) trivial rfl ?_
       refine .nil ?_
       show Ev _ _ _ _ _
       refine .cond_false rfl (by first | rfl | exact bne_eq_false_iff_eq.2 (q.got_nil (min (cN l q.i q.r) q.r.length) (Classical.byContradiction fun he => hP (q.err (min (cN l q.i q.r) q.r.length) he).2.2) (nv_t hg99))) ?_
       refine .skip ?_
       show Ev _ _ _ _ _
       refine .seq ?_
       refine .region ?_
       refine .q (op_move rfl) trivial rfl ?_
       refine .q (op_move rfl) trivial rfl ?_
       refine .as (.str (feedD q.h (q.r.take (min (cN l q.i q.r) q.r.length))).2) (congrArg AV.str (feedR_ok (Classical.byContradiction fun he => hP (q.err (min (cN l q.i q.r) q.r.length) he).2.2))) ?_
       refine .q (op_addS rfl rfl (by have h9 := q.got_le (min (cN l q.i q.r) q.r.length); rw [List.length_take] at h9; omega)) trivial rfl ?_
       refine .q (op_assign rfl) trivial rfl ?_
       refine .nil ?_
       show Ev _ _ _ _ _
       refine .region ?_
       refine .q (op_move rfl) trivial rfl ?_
       refine .q (op_move rfl) trivial rfl ?_
       refine .q (ap_slice_str_lo Tryd.underlying9 rfl (bnd_some rfl (l := (min (cN l q.i q.r) q.r.length)) rfl) (by omega)) trivial rfl ?_
       refine .q (op_assign rfl) trivial rfl ?_
       refine .nil ?_
       show Ev _ _ _ _ _
       refine .region ?_
       refine .q (op_move rfl) trivial rfl ?_
       refine .q (op_addI rfl rfl ⟨by omega, by omega⟩) trivial rfl ?_
       refine .q (op_assign rfl) trivial rfl ?_
       refine .nil ?_
       exact ⟨.inr ⟨q.step (min (cN l q.i q.r) q.r.length) hnp (Nat.min_le_right _ _) (Classical.byContradiction fun he => hP (q.err (min (cN l q.i q.r) q.r.length) he).2.2), hP⟩, (by show (q.r.drop (min (cN l q.i q.r) q.r.length)).length < q.r.length; rw [List.length_drop]; omega), StLe.mk [(1000, 1000), (1008, 1008), (1016, 1024)] rfl rfl ⟨⟨_, rfl, by first | rfl | (simp only [AV.ren]; congr 1; omega), rfl⟩, ⟨_, rfl, by first | rfl | (simp only [AV.ren]; congr 1; omega), rfl⟩, ⟨_, rfl, by first | rfl | (simp only [AV.ren]; congr 1; omega), rfl⟩, ⟨_, rfl, by first | rfl | (simp only [AV.ren]; congr 1; omega), rfl⟩, ⟨_, rfl, by first | rfl | (simp only [AV.ren]; congr 1; omega), rfl⟩, ⟨_, rfl, by first | rfl | (simp only [AV.ren]; congr 1; omega), rfl⟩, ⟨_, rfl, by first | rfl | (simp only [AV.ren]; congr 1; omega), rfl⟩, ⟨_, rfl, by first | rfl | (simp only [AV.ren]; congr 1; omega), rfl⟩, trivial⟩ ⟨⟨_, _, rfl, rfl, rfl, rfl, id, rfl⟩, ⟨_, _, rfl, rfl, rfl, rfl, id, rfl⟩, ⟨_, _, rfl, rfl, rfl, rfl, id, rfl⟩, ⟨_, _, rfl, rfl, rfl, rfl, id, rfl⟩, ⟨_, _, rfl, rfl, rfl, rfl, id, rfl⟩, ⟨_, _, rfl, rfl, rfl, rfl, id, rfl⟩, ⟨_, _, rfl, rfl, rfl, rfl, id, rfl⟩, ⟨_, _, rfl, rfl, rfl, rfl, id, rfl⟩, ⟨_, _, rfl, rfl, rfl, rfl, id, rfl⟩, ⟨_, _, rfl, rfl, rfl, rfl, id, rfl⟩, ⟨_, _, rfl, rfl, rfl, rfl, id, rfl⟩, ⟨_, _, rfl, rfl, rfl, rfl, id, rfl⟩, ⟨_, _, rfl, rfl, rfl, rfl, id, rfl⟩, ⟨_, _, rfl, rfl, rfl, rfl, id, rfl⟩, ⟨_, _, rfl, rfl, rfl, rfl, id, rfl⟩, ⟨_, _, rfl, rfl, rfl, rfl, id, rfl⟩, ⟨_, _, rfl, rfl, rfl, rfl, id, rfl⟩, ⟨_, _, rfl, rfl, rfl, rfl, id, rfl⟩, ⟨_, _, rfl, rfl, rfl, rfl, id, rfl⟩, ⟨_, _, rfl, rfl, rfl, rfl, id, rfl⟩, ⟨_, _, rfl, rfl, rfl, rfl, id, rfl⟩, ⟨_, _, rfl, rfl, rfl, rfl, id, rfl⟩, ⟨_, _, rfl, rfl, rfl, rfl, id, rfl⟩, ⟨_, _, rfl, rfl, rfl, rfl, id, rfl⟩, ⟨_, _, rfl, rfl, rfl, rfl, id, rfl⟩, ⟨_, _, rfl, rfl, rfl, rfl, id, rfl⟩, ⟨_, _, rfl, rfl, rfl, rfl, id, rfl⟩, ⟨_, _, rfl, rfl, rfl, rfl, id, rfl⟩, ⟨_, _, rfl, rfl, rfl, rfl, id, rfl⟩, ⟨_, _, rfl, rfl, rfl, rfl, id, rfl⟩, ⟨_, _, rfl, rfl, rfl, rfl, id, rfl⟩, ⟨_, _, rfl, rfl, rfl, rfl, id, rfl⟩, ⟨_, _, rfl, rfl, rfl, rfl, id, rfl⟩, ⟨_, _, rfl, rfl, rfl, rfl, id, rfl⟩, ⟨_, _, rfl, rfl, rfl, rfl, id, rfl⟩, ⟨_, _, rfl, rfl, rfl, rfl, id, rfl⟩, ⟨_, _, rfl, rfl, rfl, rfl, id, rfl⟩, ⟨_, _, rfl, rfl, rfl, rfl, id, rfl⟩, ⟨_, _, rfl, rfl, rfl, rfl, id, rfl⟩, ⟨_, _, rfl, rfl, rfl, rfl, id, rfl⟩, ⟨_, _, rfl, rfl, rfl, rfl, id, rfl⟩, ⟨_, _, rfl, rfl, rfl, rfl, id, rfl⟩, ⟨_, _, rfl, rfl, rfl, rfl, id, rfl⟩, ⟨_, _, rfl, rfl, cut_ren _ o l, rfl, id, cut_nm _ o l⟩, trivial⟩⟩
      ·skip
       refine .no ⟨_, rfl, rfl⟩ rfl ?_
       refine .no ⟨_, rfl, rfl⟩ rfl ?_
       refine .q (op_pick_false rfl rfl rfl) ⟨_, rfl, rfl⟩ rfl ?_
       refine .q (op_pick_false rfl rfl rfl) trivial rfl ?_
       refine .nil ?_
       show Ev _ _ _ _ _
       refine .cond_false rfl rfl ?_
       refine .skip ?_
       show Ev _ _ _ _ _
       refine .seq ?_
       refine .region ?_
       refine .q (op_move rfl) trivial rfl ?_
       refine .q (op_move rfl) trivial rfl ?_
       refine .as (.str (feedD q.h (q.r.take (min (cN l q.i q.r) q.r.length))).2) (congrArg AV.str (feedR_ok (Classical.byContradiction fun he => hP (q.err (min (cN l q.i q.r) q.r.length) he).2.2))) ?_
       refine .q (op_addS rfl rfl (by have h9 := q.got_le (min (cN l q.i q.r) q.r.length); rw [List.length_take] at h9; omega)) trivial rfl ?_
       refine .q (op_assign rfl) trivial rfl ?_
       refine .nil ?_
       show Ev _ _ _ _ _
       refine .region ?_
       refine .q (op_move rfl) trivial rfl ?_
       refine .q (op_move rfl) trivial rfl ?_
       refine .q (ap_slice_str_lo Tryd.underlying9 rfl (bnd_some rfl (l := (min (cN l q.i q.r) q.r.length)) rfl) (by omega)) trivial rfl ?_
       refine .q (op_assign rfl) trivial rfl ?_
       refine .nil ?_
       show Ev _ _ _ _ _
       refine .region ?_
       refine .q (op_move rfl) trivial rfl ?_
       refine .q (op_addI rfl rfl ⟨by omega, by omega⟩) trivial rfl ?_
       refine .q (op_assign rfl) trivial rfl ?_
       refine .nil ?_
       exact ⟨.inr ⟨q.step (min (cN l q.i q.r) q.r.length) hnp (Nat.min_le_right _ _) (Classical.byContradiction fun he => hP (q.err (min (cN l q.i q.r) q.r.length) he).2.2), hP⟩, (by show (q.r.drop (min (cN l q.i q.r) q.r.length)).length < q.r.length; rw [List.length_drop]; omega), StLe.mk [(1000, 1000), (1008, 1008), (1016, 1024)] rfl rfl ⟨⟨_, rfl, by first | rfl | (simp only [AV.ren]; congr 1; omega), rfl⟩, ⟨_, rfl, by first | rfl | (simp only [AV.ren]; congr 1; omega), rfl⟩, ⟨_, rfl, by first | rfl | (simp only [AV.ren]; congr 1; omega), rfl⟩, ⟨_, rfl, by first | rfl | (simp only [AV.ren]; congr 1; omega), rfl⟩, ⟨_, rfl, by first | rfl | (simp only [AV.ren]; congr 1; omega), rfl⟩, ⟨_, rfl, by first | rfl | (simp only [AV.ren]; congr 1; omega), rfl⟩, ⟨_, rfl, by first | rfl | (simp only [AV.ren]; congr 1; omega), rfl⟩, ⟨_, rfl, by first | rfl | (simp only [AV.ren]; congr 1; omega), rfl⟩, trivial⟩ ⟨⟨_, _, rfl, rfl, rfl, rfl, id, rfl⟩, ⟨_, _, rfl, rfl, rfl, rfl, id, rfl⟩, ⟨_, _, rfl, rfl, rfl, rfl, id, rfl⟩, ⟨_, _, rfl, rfl, rfl, rfl, id, rfl⟩, ⟨_, _, rfl, rfl, rfl, rfl, id, rfl⟩, ⟨_, _, rfl, rfl, rfl, rfl, id, rfl⟩, ⟨_, _, rfl, rfl, rfl, rfl, id, rfl⟩, ⟨_, _, rfl, rfl, rfl, rfl, id, rfl⟩, ⟨_, _, rfl, rfl, rfl, rfl, id, rfl⟩, ⟨_, _, rfl, rfl, rfl, rfl, id, rfl⟩, ⟨_, _, rfl, rfl, rfl, rfl, id, rfl⟩, ⟨_, _, rfl, rfl, rfl, rfl, id, rfl⟩, ⟨_, _, rfl, rfl, rfl, rfl, id, rfl⟩, ⟨_, _, rfl, rfl, rfl, rfl, id, rfl⟩, ⟨_, _, rfl, rfl, rfl, rfl, id, rfl⟩, ⟨_, _, rfl, rfl, rfl, rfl, id, rfl⟩, ⟨_, _, rfl, rfl, rfl, rfl, id, rfl⟩, ⟨_, _, rfl, rfl, rfl, rfl, id, rfl⟩, ⟨_, _, rfl, rfl, rfl, rfl, id, rfl⟩, ⟨_, _, rfl, rfl, rfl, rfl, id, rfl⟩, ⟨_, _, rfl, rfl, rfl, rfl, id, rfl⟩, ⟨_, _, rfl, rfl, rfl, rfl, id, rfl⟩, ⟨_, _, rfl, rfl, rfl, rfl, id, rfl⟩, ⟨_, _, rfl, rfl, rfl, rfl, id, rfl⟩, ⟨_, _, rfl, rfl, rfl, rfl, id, rfl⟩, ⟨_, _, rfl, rfl, rfl, rfl, id, rfl⟩, ⟨_, _, rfl, rfl, rfl, rfl, id, rfl⟩, ⟨_, _, rfl, rfl, rfl, rfl, id, rfl⟩, ⟨_, _, rfl, rfl, rfl, rfl, id, rfl⟩, ⟨_, _, rfl, rfl, rfl, rfl, id, rfl⟩, ⟨_, _, rfl, rfl, rfl, rfl, id, rfl⟩, ⟨_, _, rfl, rfl, rfl, rfl, id, rfl⟩, ⟨_, _, rfl, rfl, rfl, rfl, id, rfl⟩, ⟨_, _, rfl, rfl, rfl, rfl, id, rfl⟩, ⟨_, _, rfl, rfl, rfl, rfl, id, rfl⟩, ⟨_, _, rfl, rfl, rfl, rfl, id, rfl⟩, ⟨_, _, rfl, rfl, rfl, rfl, id, rfl⟩, ⟨_, _, rfl, rfl, rfl, rfl, id, rfl⟩, ⟨_, _, rfl, rfl, rfl, rfl, id, rfl⟩, ⟨_, _, rfl, rfl, rfl, rfl, id, rfl⟩, ⟨_, _, rfl, rfl, rfl, rfl, id, rfl⟩, ⟨_, _, rfl, rfl, rfl, rfl, id, rfl⟩, ⟨_, _, rfl, rfl, rfl, rfl, id, rfl⟩, ⟨_, _, rfl, rfl, cut_ren _ o l, rfl, id, cut_nm _ o l⟩, trivial⟩⟩
     ·skip
      refine .no ⟨_, rfl, rfl⟩ rfl ?_
      refine .no ⟨_, rfl, rfl⟩ rfl ?_
      refine .no ⟨_, rfl, rfl⟩ rfl ?_
      refine .no ⟨_, rfl, rfl⟩ rfl ?_
      refine .no ⟨_, rfl, rfl⟩ rfl ?_
      refine .q (op_pick_false rfl rfl rfl) trivial rfl ?_
      refine .q (op_move rfl) trivial rfl ?_
      refine .q (op_move rfl) ⟨_, rfl, rfl⟩ rfl ?_
      refine .q (op_call (U := []) [(500, 1000), (501, 1024)] [] (done_s (feedD q.h (q.r.take (min (cN l q.i q.r) q.r.length))).1 eo) Tryd.func30 (by kernel_rfl) rfl rfl rfl (⟨⟨_, rfl, rfl, rfl⟩, trivial⟩) (⟨⟨_, _, rfl, rfl, rfl, rfl, (fun h => by cases h), rfl⟩, trivial⟩) (trivial) (⟨(fun h => by cases h), trivial⟩) rfl) ⟨_, rfl, rfl⟩ rfl ?_
      refine .q (op_notB rfl) ⟨_, rfl, rfl⟩ rfl ?_
      refine .q (op_move rfl) ⟨_, rfl, rfl⟩ rfl ?_
      refine .split (fun hg99 => ?_) (fun hg99 => ?_)
      ·skip
       refine .q (op_move rfl) ⟨_, rfl, rfl⟩ rfl ?_
       refine .q (op_eqS rfl rfl rfl) ⟨_, rfl, rfl⟩ rfl ?_
       refine .q (op_pick_true rfl rfl rfl) ⟨_, rfl, rfl⟩ rfl ?_
       refine .q (op_pick_false rfl rfl rfl) trivial rfl ?_
       refine .nil ?_
       show Ev _ _ _ _ _
       refine .cond_false rfl (by first | rfl | exact bne_eq_false_iff_eq.2 (q.got_nil (min (cN l q.i q.r) q.r.length) (Classical.byContradiction fun he => hP (q.err (min (cN l q.i q.r) q.r.length) he).2.2) (nv_t hg99))) ?_
       refine .skip ?_
       show Ev _ _ _ _ _
       refine .seq ?_
       refine .region ?_
       refine .q (op_move rfl) trivial rfl ?_
       refine .q (op_move rfl) trivial rfl ?_
       refine .as (.str (feedD q.h (q.r.take (min (cN l q.i q.r) q.r.length))).2) (congrArg AV.str (feedR_ok (Classical.byContradiction fun he => hP (q.err (min (cN l q.i q.r) q.r.length) he).2.2))) ?_
       refine .q (op_addS rfl rfl (by have h9 := q.got_le (min (cN l q.i q.r) q.r.length); rw [List.length_take] at h9; omega)) trivial rfl ?_
       refine .q (op_assign rfl) trivial rfl ?_
       refine .nil ?_
       show Ev _ _ _ _ _
       refine .region ?_
       refine .q (op_move rfl) trivial rfl ?_
       refine .q (op_move rfl) trivial rfl ?_
       refine .q (ap_slice_str_lo Tryd.underlying9 rfl (bnd_some rfl (l := (min (cN l q.i q.r) q.r.length)) rfl) (by omega)) trivial rfl ?_
       refine .q (op_assign rfl) trivial rfl ?_
       refine .nil ?_
       show Ev _ _ _ _ _
       refine .region ?_
       refine .q (op_move rfl) trivial rfl ?_
       refine .q (op_addI rfl rfl ⟨by omega, by omega⟩) trivial rfl ?_
       refine .q (op_assign rfl) trivial rfl ?_
       refine .nil ?_
       exact ⟨.inr ⟨q.step (min (cN l q.i q.r) q.r.length) hnp (Nat.min_le_right _ _) (Classical.byContradiction fun he => hP (q.err (min (cN l q.i q.r) q.r.length) he).2.2), hP⟩, (by show (q.r.drop (min (cN l q.i q.r) q.r.length)).length < q.r.length; rw [List.length_drop]; omega), StLe.mk [(1000, 1000), (1008, 1008), (1016, 1024)] rfl rfl ⟨⟨_, rfl, by first | rfl | (simp only [AV.ren]; congr 1; omega), rfl⟩, ⟨_, rfl, by first | rfl | (simp only [AV.ren]; congr 1; omega), rfl⟩, ⟨_, rfl, by first | rfl | (simp only [AV.ren]; congr 1; omega), rfl⟩, ⟨_, rfl, by first | rfl | (simp only [AV.ren]; congr 1; omega), rfl⟩, ⟨_, rfl, by first | rfl | (simp only [AV.ren]; congr 1; omega), rfl⟩, ⟨_, rfl, by first | rfl | (simp only [AV.ren]; congr 1; omega), rfl⟩, ⟨_, rfl, by first | rfl | (simp only [AV.ren]; congr 1; omega), rfl⟩, ⟨_, rfl, by first | rfl | (simp only [AV.ren]; congr 1; omega), rfl⟩, trivial⟩ ⟨⟨_, _, rfl, rfl, rfl, rfl, id, rfl⟩, ⟨_, _, rfl, rfl, rfl, rfl, id, rfl⟩, ⟨_, _, rfl, rfl, rfl, rfl, id, rfl⟩, ⟨_, _, rfl, rfl, rfl, rfl, id, rfl⟩, ⟨_, _, rfl, rfl, rfl, rfl, id, rfl⟩, ⟨_, _, rfl, rfl, rfl, rfl, id, rfl⟩, ⟨_, _, rfl, rfl, rfl, rfl, id, rfl⟩, ⟨_, _, rfl, rfl, rfl, rfl, id, rfl⟩, ⟨_, _, rfl, rfl, rfl, rfl, id, rfl⟩, ⟨_, _, rfl, rfl, rfl, rfl, id, rfl⟩, ⟨_, _, rfl, rfl, rfl, rfl, id, rfl⟩, ⟨_, _, rfl, rfl, rfl, rfl, id, rfl⟩, ⟨_, _, rfl, rfl, rfl, rfl, id, rfl⟩, ⟨_, _, rfl, rfl, rfl, rfl, id, rfl⟩, ⟨_, _, rfl, rfl, rfl, rfl, id, rfl⟩, ⟨_, _, rfl, rfl, rfl, rfl, id, rfl⟩, ⟨_, _, rfl, rfl, rfl, rfl, id, rfl⟩, ⟨_, _, rfl, rfl, rfl, rfl, id, rfl⟩, ⟨_, _, rfl, rfl, rfl, rfl, id, rfl⟩, ⟨_, _, rfl, rfl, rfl, rfl, id, rfl⟩, ⟨_, _, rfl, rfl, rfl, rfl, id, rfl⟩, ⟨_, _, rfl, rfl, rfl, rfl, id, rfl⟩, ⟨_, _, rfl, rfl, rfl, rfl, id, rfl⟩, ⟨_, _, rfl, rfl, rfl, rfl, id, rfl⟩, ⟨_, _, rfl, rfl, rfl, rfl, id, rfl⟩, ⟨_, _, rfl, rfl, rfl, rfl, id, rfl⟩, ⟨_, _, rfl, rfl, rfl, rfl, id, rfl⟩, ⟨_, _, rfl, rfl, rfl, rfl, id, rfl⟩, ⟨_, _, rfl, rfl, rfl, rfl, id, rfl⟩, ⟨_, _, rfl, rfl, rfl, rfl, id, rfl⟩, ⟨_, _, rfl, rfl, rfl, rfl, id, rfl⟩, ⟨_, _, rfl, rfl, rfl, rfl, id, rfl⟩, ⟨_, _, rfl, rfl, rfl, rfl, id, rfl⟩, ⟨_, _, rfl, rfl, rfl, rfl, id, rfl⟩, ⟨_, _, rfl, rfl, rfl, rfl, id, rfl⟩, ⟨_, _, rfl, rfl, rfl, rfl, id, rfl⟩, ⟨_, _, rfl, rfl, rfl, rfl, id, rfl⟩, ⟨_, _, rfl, rfl, rfl, rfl, id, rfl⟩, ⟨_, _, rfl, rfl, rfl, rfl, id, rfl⟩, ⟨_, _, rfl, rfl, rfl, rfl, id, rfl⟩, ⟨_, _, rfl, rfl, rfl, rfl, id, rfl⟩, ⟨_, _, rfl, rfl, rfl, rfl, id, rfl⟩, ⟨_, _, rfl, rfl, rfl, rfl, id, rfl⟩, ⟨_, _, rfl, rfl, cut_ren _ o l, rfl, id, cut_nm _ o l⟩, trivial⟩⟩
      ·skip
       refine .no ⟨_, rfl, rfl⟩ rfl ?_
       refine .no ⟨_, rfl, rfl⟩ rfl ?_
       refine .q (op_pick_false rfl rfl rfl) ⟨_, rfl, rfl⟩ rfl ?_
       refine .q (op_pick_false rfl rfl rfl) trivial rfl ?_
       refine .nil ?_
       show Ev _ _ _ _ _
       refine .cond_false rfl rfl ?_
       refine .skip ?_
       show Ev _ _ _ _ _
       refine .seq ?_
       refine .region ?_
       refine .q (op_move rfl) trivial rfl ?_
       refine .q (op_move rfl) trivial rfl ?_
       refine .as (.str (feedD q.h (q.r.take (min (cN l q.i q.r) q.r.length))).2) (congrArg AV.str (feedR_ok (Classical.byContradiction fun he => hP (q.err (min (cN l q.i q.r) q.r.length) he).2.2))) ?_
       refine .q (op_addS rfl rfl (by have h9 := q.got_le (min (cN l q.i q.r) q.r.length); rw [List.length_take] at h9; omega)) trivial rfl ?_
       refine .q (op_assign rfl) trivial rfl ?_
       refine .nil ?_
       show Ev _ _ _ _ _
       refine .region ?_
       refine .q (op_move rfl) trivial rfl ?_
       refine .q (op_move rfl) trivial rfl ?_
       refine .q (ap_slice_str_lo Tryd.underlying9 rfl (bnd_some rfl (l := (min (cN l q.i q.r) q.r.length)) rfl) (by omega)) trivial rfl ?_
       refine .q (op_assign rfl) trivial rfl ?_
       refine .nil ?_
       show Ev _ _ _ _ _
       refine .region ?_
       refine .q (op_move rfl) trivial rfl ?_
       refine .q (op_addI rfl rfl ⟨by omega, by omega⟩) trivial rfl ?_
       refine .q (op_assign rfl) trivial rfl ?_
       refine .nil ?_
       exact ⟨.inr ⟨q.step (min (cN l q.i q.r) q.r.length) hnp (Nat.min_le_right _ _) (Classical.byContradiction fun he => hP (q.err (min (cN l q.i q.r) q.r.length) he).2.2), hP⟩, (by show (q.r.drop (min (cN l q.i q.r) q.r.length)).length < q.r.length; rw [List.length_drop]; omega), StLe.mk [(1000, 1000), (1008, 1008), (1016, 1024)] rfl rfl ⟨⟨_, rfl, by first | rfl | (simp only [AV.ren]; congr 1; omega), rfl⟩, ⟨_, rfl, by first | rfl | (simp only [AV.ren]; congr 1; omega), rfl⟩, ⟨_, rfl, by first | rfl | (simp only [AV.ren]; congr 1; omega), rfl⟩, ⟨_, rfl, by first | rfl | (simp only [AV.ren]; congr 1; omega), rfl⟩, ⟨_, rfl, by first | rfl | (simp only [AV.ren]; congr 1; omega), rfl⟩, ⟨_, rfl, by first | rfl | (simp only [AV.ren]; congr 1; omega), rfl⟩, ⟨_, rfl, by first | rfl | (simp only [AV.ren]; congr 1; omega), rfl⟩, ⟨_, rfl, by first | rfl | (simp only [AV.ren]; congr 1; omega), rfl⟩, trivial⟩ ⟨⟨_, _, rfl, rfl, rfl, rfl, id, rfl⟩, ⟨_, _, rfl, rfl, rfl, rfl, id, rfl⟩, ⟨_, _, rfl, rfl, rfl, rfl, id, rfl⟩, ⟨_, _, rfl, rfl, rfl, rfl, id, rfl⟩, ⟨_, _, rfl, rfl, rfl, rfl, id, rfl⟩, ⟨_, _, rfl, rfl, rfl, rfl, id, rfl⟩, ⟨_, _, rfl, rfl, rfl, rfl, id, rfl⟩, ⟨_, _, rfl, rfl, rfl, rfl, id, rfl⟩, ⟨_, _, rfl, rfl, rfl, rfl, id, rfl⟩, ⟨_, _, rfl, rfl, rfl, rfl, id, rfl⟩, ⟨_, _, rfl, rfl, rfl, rfl, id, rfl⟩, ⟨_, _, rfl, rfl, rfl, rfl, id, rfl⟩, ⟨_, _, rfl, rfl, rfl, rfl, id, rfl⟩, ⟨_, _, rfl, rfl, rfl, rfl, id, rfl⟩, ⟨_, _, rfl, rfl, rfl, rfl, id, rfl⟩, ⟨_, _, rfl, rfl, rfl, rfl, id, rfl⟩, ⟨_, _, rfl, rfl, rfl, rfl, id, rfl⟩, ⟨_, _, rfl, rfl, rfl, rfl, id, rfl⟩, ⟨_, _, rfl, rfl, rfl, rfl, id, rfl⟩, ⟨_, _, rfl, rfl, rfl, rfl, id, rfl⟩, ⟨_, _, rfl, rfl, rfl, rfl, id, rfl⟩, ⟨_, _, rfl, rfl, rfl, rfl, id, rfl⟩, ⟨_, _, rfl, rfl, rfl, rfl, id, rfl⟩, ⟨_, _, rfl, rfl, rfl, rfl, id, rfl⟩, ⟨_, _, rfl, rfl, rfl, rfl, id, rfl⟩, ⟨_, _, rfl, rfl, rfl, rfl, id, rfl⟩, ⟨_, _, rfl, rfl, rfl, rfl, id, rfl⟩, ⟨_, _, rfl, rfl, rfl, rfl, id, rfl⟩, ⟨_, _, rfl, rfl, rfl, rfl, id, rfl⟩, ⟨_, _, rfl, rfl, rfl, rfl, id, rfl⟩, ⟨_, _, rfl, rfl, rfl, rfl, id, rfl⟩, ⟨_, _, rfl, rfl, rfl, rfl, id, rfl⟩, ⟨_, _, rfl, rfl, rfl, rfl, id, rfl⟩, ⟨_, _, rfl, rfl, rfl, rfl, id, rfl⟩, ⟨_, _, rfl, rfl, rfl, rfl, id, rfl⟩, ⟨_, _, rfl, rfl, rfl, rfl, id, rfl⟩, ⟨_, _, rfl, rfl, rfl, rfl, id, rfl⟩, ⟨_, _, rfl, rfl, rfl, rfl, id, rfl⟩, ⟨_, _, rfl, rfl, rfl, rfl, id, rfl⟩, ⟨_, _, rfl, rfl, rfl, rfl, id, rfl⟩, ⟨_, _, rfl, rfl, rfl, rfl, id, rfl⟩, ⟨_, _, rfl, rfl, rfl, rfl, id, rfl⟩, ⟨_, _, rfl, rfl, rfl, rfl, id, rfl⟩, ⟨_, _, rfl, rfl, cut_ren _ o l, rfl, id, cut_nm _ o l⟩, trivial⟩⟩
  ·skip
   refine .exit ?_
   show Ev _ _ _ _ _
   refine .seq ?_
   refine .drawn [[], [0], [0, 1], [0, 1, 2], [0, 1, 2, 3], [0, 1, 2, 3, 4], [0, 1, 2, 3], [0, 1, 2, 3, 6], [0, 1, 2, 3, 4, 5, 6, 7], [0, 1, 2, 3, 4, 5, 6, 7, 8], [0, 1, 2, 3, 4, 5, 6, 7, 8, 9], [0, 1, 2, 3, 4, 5, 6, 7, 8, 9, 10], [0, 1, 2, 3, 4, 5, 6, 7, 8, 9, 10], [0, 1, 2, 3, 4, 5, 6, 7, 8, 9, 10, 12], [0, 1, 2, 3, 4, 5, 6, 7, 8, 9, 10, 11, 12, 13], [0, 1, 2, 3, 4, 5, 6, 7, 8, 9, 10, 11, 12, 13, 14], [0, 1, 2, 3, 4, 5, 6, 7, 8, 9, 10, 11, 12, 13, 14, 15], [0, 1, 2, 3, 4, 5, 6, 7, 8, 9, 10, 11, 12, 13, 14, 15, 16], [0, 1, 2, 3, 4, 5, 6, 7, 8, 9, 10, 11, 12, 13, 14, 15, 16, 17], [0, 1, 2, 3, 4, 5, 6, 7, 8, 9, 10, 11, 12, 13, 14, 15, 16], [0, 1, 2, 3, 4, 5, 6, 7, 8, 9, 10, 11, 12, 13, 14, 15, 16, 19], [0, 1, 2, 3, 4, 5, 6, 7, 8, 9, 10, 11, 12, 13, 14, 15, 16, 19, 20], [0, 1, 2, 3, 4, 5, 6, 7, 8, 9, 10, 11, 12, 13, 14, 15, 16, 17, 18, 19, 20, 21], [0, 1, 2, 3, 4, 5, 6, 7, 8, 9, 10, 11, 12, 13, 14, 15, 16, 17, 18, 19, 20, 21, 22], [0, 1, 2, 3, 4, 5, 6, 7, 8, 9, 10, 11, 12, 13, 14, 15, 16, 17, 18, 19, 20, 21, 22, 23]] [1, 5, 7, 13, 18, 20] [] (by kernel_rfl) (by kernel_rfl) rfl ?_
   show DK _ [0, 1, 2, 3, 4, 5, 6, 7, 8, 9, 10, 11, 12, 13, 14, 15, 16, 17, 18, 19, 20, 21, 22, 23, 24] _ _ _
   refine .q rfl (op_fieldAddr (m := 0) Tryd.underlying60 rfl (by kernel_rfl) rfl) trivial ?_
   refine .as (.ptr 1008 2) rfl ?_
   refine .q rfl (op_load Tryd.underlying3 rfl rfl rfl rfl (by show 2 < 3; decide)) trivial ?_
   refine .q rfl (op_cmpI rfl rfl rfl) trivial ?_
   refine .q rfl (op_move rfl) trivial ?_
   refine .know (b' := true) (by rw [(q.want (bne_eq_false_iff_eq.1 hc30)).1]; rfl) ?_
   refine .q rfl (op_move rfl) ⟨_, rfl, rfl⟩ ?_
   refine .q rfl (op_call (U := []) [(500, 1000), (501, 1016)] [] (peer_s q.h eo) Tryd.func32 (by kernel_rfl) rfl rfl rfl (⟨⟨_, rfl, rfl, rfl⟩, trivial⟩) (⟨⟨_, _, rfl, rfl, rfl, rfl, (fun h => by cases h), rfl⟩, trivial⟩) (trivial) (⟨(fun h => by cases h), trivial⟩) rfl) ⟨_, rfl, rfl⟩ ?_
   refine .q rfl (op_fieldAddr (m := 0) Tryd.underlying60 rfl (by kernel_rfl) rfl) ⟨_, rfl, rfl⟩ ?_
   refine .as (.ptr 1008 0) rfl ?_
   refine .q rfl (op_load Tryd.underlying9 rfl rfl rfl rfl (by show 0 < 3; decide)) ⟨_, rfl, rfl⟩ ?_
   refine .q rfl (op_eqS rfl rfl rfl) ⟨_, rfl, rfl⟩ ?_
   refine .q rfl (op_pick_true rfl rfl rfl) trivial ?_
   refine .q rfl (op_move rfl) trivial ?_
   refine .know (b' := true) (by rw [(q.want (bne_eq_false_iff_eq.1 hc30)).2.1]; exact beq_self_eq_true _) ?_
   refine .q rfl (op_move rfl) ⟨_, rfl, rfl⟩ ?_
   refine .q rfl (op_fieldAddr (m := 0) Tryd.underlying60 rfl (by kernel_rfl) rfl) ⟨_, rfl, rfl⟩ ?_
   refine .as (.ptr 1008 1) rfl ?_
   refine .q rfl (op_load Tryd.underlying9 rfl rfl rfl rfl (by show 1 < 3; decide)) ⟨_, rfl, rfl⟩ ?_
   refine .q rfl (op_eqS rfl rfl rfl) ⟨_, rfl, rfl⟩ ?_
   refine .q rfl (op_pick_true rfl rfl rfl) trivial ?_
   refine .q rfl (op_move rfl) trivial ?_
   refine .know (b' := true) (by rw [(q.want (bne_eq_false_iff_eq.1 hc30)).2.2]; exact beq_self_eq_true _) ?_
   refine .q rfl (op_move rfl) ⟨_, rfl, rfl⟩ ?_
   refine .q rfl (op_call (U := []) [(500, 1000), (501, 1016)] [] (done_s q.h eo) Tryd.func30 (by kernel_rfl) rfl rfl rfl (⟨⟨_, rfl, rfl, rfl⟩, trivial⟩) (⟨⟨_, _, rfl, rfl, rfl, rfl, (fun h => by cases h), rfl⟩, trivial⟩) (trivial) (⟨(fun h => by cases h), trivial⟩) rfl) ⟨_, rfl, rfl⟩ ?_
   refine .q rfl (op_fieldAddr (m := 0) Tryd.underlying60 rfl (by kernel_rfl) rfl) ⟨_, rfl, rfl⟩ ?_
   refine .as (.ptr 1008 0) rfl ?_
   refine .q rfl (op_load Tryd.underlying9 rfl rfl rfl rfl (by show 0 < 3; decide)) ⟨_, rfl, rfl⟩ ?_
   refine .q rfl (op_eqS rfl rfl rfl) ⟨_, rfl, rfl⟩ ?_
   refine .q rfl (op_eqB Tryd.underlying4 rfl rfl rfl) ⟨_, rfl, rfl⟩ ?_
   refine .q rfl (op_pick_true rfl rfl rfl) trivial ?_
   refine .q rfl (op_assign rfl) trivial ?_
   refine .nil ?_
   show Ev _ _ _ _ _
   refine .ret ?_
   show RetOk _ _ _ _ _ _ _
   first
    | exact ret1v rfl (.inl rfl) rfl (congrArg AV.bool (by rw [(q.want (bne_eq_false_iff_eq.1 hc30)).2.1]; exact beq_self_eq_true _)) trivial
    | exact ret1v rfl (.inl rfl) rfl (congrArg AV.bool (by rw [feedD_end (goes_e (bne_iff_ne.1 hc60))]; exact beq_iff_eq.2 (q.err (min (cN l q.i q.r) q.r.length) (bne_iff_ne.1 hc60)).2.1)) trivial
end Go.Proofs.YteefpaiefphdpaaDoor
