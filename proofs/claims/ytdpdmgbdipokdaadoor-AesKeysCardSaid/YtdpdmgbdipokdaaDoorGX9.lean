/-
  Texts of this claim.
-/
import Derived.Test.YtdpdmgbdipokdaaDoorGX8
import Derived.Test.YtdpdmgbdipokdaaDoorGXI
import Derived.Test.YtdpdmgbdipokdaaDoorGXZ
namespace Go.Proofs.YtdpdmgbdipokdaaDoor
open Go.RowKit
def oneZ : List UInt8 := [1, 0, 0, 0, 0, 0, 0, 0, 0, 0, 0, 0, 0, 0, 0, 0]
set_option maxRecDepth 100000 in
theorem newBad_ev (eo : Nat → Nat × Nat) (key : List UInt8) (hk0 : key.length ≤ 100000) (hbad : key.length ≠ 16 ∧ key.length ≠ 24 ∧ key.length ≠ 32) : Meets Tryd.prog 9 [.str key] [(0, some ⟨.agg [.err 80 (10) (offE eo (10))], errT, false⟩), (410, some ⟨.agg [], errT, false⟩)] (.tup [.val (.pointer none), .err 80 (10) (offE eo (10))]) [] := by
 refine meets_of_ev (nt := 59) Tryd.func9 rfl rfl (Nat.le_of_ble_eq_true rfl) ?_
 refine .seq ?_
 refine .region ?_
 refine .q (op_assign rfl) trivial rfl ?_
 refine .q (op_assign rfl) trivial rfl ?_
 refine .nil ?_
 show Ev _ _ _ _ _
 refine .seq ?_
 refine .region ?_
 refine .q (op_move rfl) trivial rfl ?_
 refine .q (op_len_str Tryd.underlying9 rfl) trivial rfl ?_
 refine .q (op_quoI rfl rfl ⟨by omega, ⟨by omega, by omega⟩, by omega⟩) trivial rfl ?_
 refine .q (op_assign rfl) trivial rfl ?_
 refine .nil ?_
 show Ev _ _ _ _ _
 refine .seq ?_
 refine .seq ?_
 refine .region ?_
 refine .q (op_move rfl) trivial rfl ?_
 refine .q (op_len_str Tryd.underlying9 rfl) trivial rfl ?_
 refine .q (op_remI rfl rfl ⟨by omega, by omega⟩) trivial rfl ?_
 refine .q (op_cmpI rfl rfl rfl) trivial rfl ?_
 refine .q (op_move rfl) trivial rfl ?_
 refine .split (fun hg15 => ?_) (fun hg15 => ?_)
 ·simp only [bne_iff_ne, ne_eq] at hg15
  refine .no ⟨_, rfl, rfl⟩ rfl ?_
  refine .no ⟨_, rfl, rfl⟩ rfl ?_
  refine .no ⟨_, rfl, rfl⟩ rfl ?_
  refine .noU ⟨_, rfl, rfl⟩ rfl ?_
  refine .noU ⟨_, rfl, rfl⟩ rfl ?_
  refine .no ⟨_, rfl, rfl⟩ rfl ?_
  refine .no ⟨_, rfl, rfl⟩ rfl ?_
  refine .noU ⟨_, rfl, rfl⟩ rfl ?_
  refine .noU ⟨_, rfl, rfl⟩ rfl ?_
  refine .no ⟨_, rfl, rfl⟩ rfl ?_
  refine .q (op_pick_true rfl rfl rfl) trivial rfl ?_
  refine .nil ?_
  show Ev _ _ _ _ _
  refine .cond_true rfl rfl ?_
  refine .seq ?_
  refine .drawn [[], [], [0, 1]] [0] [] (by kernel_rfl) (by kernel_rfl) rfl ?_
  show DK _ [0, 1, 2] _ _ _
  refine .q rfl (op_load Tryd.underlying29 rfl rfl rfl rfl (by first | omega | (simp only [AV.len]; omega) | (simp only [AV.len]; omega) | assumption | (simp [AV.len]; done))) trivial ?_
  refine .q rfl (op_assign rfl) trivial ?_
  refine .q rfl (op_assign rfl) trivial ?_
  refine .nil ?_
  show Ev _ _ _ _ _
  refine .ret ?_
  show RetOk _ _ _ _ _ _ _
  exact ret2v rfl (.inl rfl) rfl rfl rfl rfl trivial
 ·simp only [bne_eq_false_iff_eq] at hg15
  refine .q (op_move rfl) ⟨_, rfl, rfl⟩ rfl ?_
  refine .q (op_cmpI rfl rfl rfl) ⟨_, rfl, rfl⟩ rfl ?_
  refine .q (op_move rfl) ⟨_, rfl, rfl⟩ rfl ?_
  refine .split (fun hg18 => ?_) (fun hg18 => ?_)
  ·simp only [bne_iff_ne, ne_eq] at hg18
   refine .q (op_move rfl) ⟨_, rfl, rfl⟩ rfl ?_
   refine .q (op_cmpI rfl rfl rfl) ⟨_, rfl, rfl⟩ rfl ?_
   refine .q (op_pick_true rfl rfl rfl) ⟨_, rfl, rfl⟩ rfl ?_
   refine .q (op_move rfl) ⟨_, rfl, rfl⟩ rfl ?_
   refine .split (fun hg22 => ?_) (fun hg22 => ?_)
   ·simp only [bne_iff_ne, ne_eq] at hg22
    refine .q (op_move rfl) ⟨_, rfl, rfl⟩ rfl ?_
    refine .q (op_cmpI rfl rfl rfl) ⟨_, rfl, rfl⟩ rfl ?_
    refine .q (op_pick_true rfl rfl rfl) ⟨_, rfl, rfl⟩ rfl ?_
    refine .q (op_pick_false rfl rfl rfl) trivial rfl ?_
    refine .nil ?_
    show Ev _ _ _ _ _
    refine .cond rfl (fun hc26 => ?_) (fun hc26 => ?_)
    ·simp only [bne_iff_ne, ne_eq] at hc26
     refine .seq ?_
     refine .drawn [[], [], [0, 1]] [0] [] (by kernel_rfl) (by kernel_rfl) rfl ?_
     show DK _ [0, 1, 2] _ _ _
     refine .q rfl (op_load Tryd.underlying29 rfl rfl rfl rfl (by first | omega | (simp only [AV.len]; omega) | (simp only [AV.len]; omega) | assumption | (simp [AV.len]; done))) trivial ?_
     refine .q rfl (op_assign rfl) trivial ?_
     refine .q rfl (op_assign rfl) trivial ?_
     refine .nil ?_
     show Ev _ _ _ _ _
     refine .ret ?_
     show RetOk _ _ _ _ _ _ _
     exact ret2v rfl (.inl rfl) rfl rfl rfl rfl trivial
    ·simp only [bne_eq_false_iff_eq] at hc26
     exfalso; omega
   ·simp only [bne_eq_false_iff_eq] at hg22
    exfalso; omega
  ·simp only [bne_eq_false_iff_eq] at hg18
   exfalso; omega
set_option maxRecDepth 100000 in
theorem aesKeysBad_ev (eo : Nat → Nat × Nat) (hd : ∀ i j, i < 20 → j < 20 → i ≠ j → eo i ≠ eo j) (s0 : List UInt8) (hs0 : s0.length ≤ maxLen) (hbad : (s0.take 40).length ≠ 16 ∧ (s0.take 40).length ≠ 24 ∧ (s0.take 40).length ≠ 32) : Meets Tryd.prog 6 [.str s0] [(1, some ⟨.agg [.err 80 (1) (offE eo (1))], errT, false⟩), (2, some ⟨.agg [.err 80 (2) (offE eo (2))], errT, false⟩), (3, some ⟨.agg [.err 80 (3) (offE eo (3))], errT, false⟩), (4, some ⟨.agg [.err 80 (4) (offE eo (4))], errT, false⟩), (5, some ⟨.agg [.err 80 (5) (offE eo (5))], errT, false⟩), (6, some ⟨.agg [.err 80 (6) (offE eo (6))], errT, false⟩), (7, some ⟨.agg [.err 80 (7) (offE eo (7))], errT, false⟩), (8, some ⟨.agg [.err 80 (8) (offE eo (8))], errT, false⟩), (9, some ⟨.agg [.err 80 (9) (offE eo (9))], errT, false⟩), (0, some ⟨.agg [.err 80 (10) (offE eo (10))], errT, false⟩), (10, some ⟨.agg [.err 80 (11) (offE eo (11))], errT, false⟩), (11, some ⟨.agg [.err 80 (12) (offE eo (12))], errT, false⟩), (12, some ⟨.agg [.err 80 (13) (offE eo (13))], errT, false⟩), (13, some ⟨.agg [.err 80 (14) (offE eo (14))], errT, false⟩), (14, some ⟨.agg [.err 80 (15) (offE eo (15))], errT, false⟩), (15, some ⟨.agg [.err 80 (16) (offE eo (16))], errT, false⟩), (16, some ⟨.agg [.err 80 (17) (offE eo (17))], errT, false⟩), (17, some ⟨.agg [.err 80 (18) (offE eo (18))], errT, false⟩), (18, some ⟨.agg [.err 80 (19) (offE eo (19))], errT, false⟩), (19, some ⟨.agg [.err 80 (20) (offE eo (20))], errT, false⟩), (401, some ⟨.agg [], errT, false⟩), (402, some ⟨.agg [], errT, false⟩), (403, some ⟨.agg [], errT, false⟩), (404, some ⟨.agg [], errT, false⟩), (405, some ⟨.agg [], errT, false⟩), (406, some ⟨.agg [], errT, false⟩), (407, some ⟨.agg [], errT, false⟩), (408, some ⟨.agg [], errT, false⟩), (409, some ⟨.agg [], errT, false⟩), (410, some ⟨.agg [], errT, false⟩), (411, some ⟨.agg [], errT, false⟩), (412, some ⟨.agg [], errT, false⟩), (413, some ⟨.agg [], errT, false⟩), (414, some ⟨.agg [], errT, false⟩), (415, some ⟨.agg [], errT, false⟩), (416, some ⟨.agg [], errT, false⟩), (417, some ⟨.agg [], errT, false⟩), (418, some ⟨.agg [], errT, false⟩), (419, some ⟨.agg [], errT, false⟩), (420, some ⟨.agg [], errT, false⟩)] (.bool true) [] := by
 refine meets_of_ev (nt := 52) Tryd.func6 rfl rfl (Nat.le_of_ble_eq_true rfl) ?_
 refine .seq ?_
 refine .region ?_
 refine .q (op_assign rfl) trivial rfl ?_
 refine .nil ?_
 show Ev _ _ _ _ _
 refine .seq ?_
 refine .seq ?_
 refine .region ?_
 refine .q (op_call (U := []) [] [] (awakeA_ev) Tryd.func8 (by kernel_rfl) rfl rfl rfl (trivial) (trivial) (trivial) (trivial) rfl) trivial rfl ?_
 refine .q (op_notB rfl) trivial rfl ?_
 refine .nil ?_
 show Ev _ _ _ _ _
 refine .cond_false rfl (rfl) ?_
 refine .skip ?_
 show Ev _ _ _ _ _
 refine .seq ?_
 refine .region ?_
 refine .q (op_move rfl) trivial rfl ?_
 refine .q (op_call (U := []) [] [] (cut_ev s0 40 hs0 (by decide)) Tryd.func14 (by kernel_rfl) rfl rfl rfl (⟨⟨_, rfl, rfl, rfl⟩, ⟨_, rfl, rfl, rfl⟩, trivial⟩) (trivial) (trivial) (trivial) rfl) trivial rfl ?_
 refine .q (op_assign rfl) trivial rfl ?_
 refine .nil ?_
 show Ev _ _ _ _ _
 refine .seq ?_
 refine .region ?_
 refine .q (op_move rfl) trivial rfl ?_
 refine .q (op_call (U := []) [] [] (newBad_ev eo (s0.take 40) (by rw [List.length_take]; omega) hbad) Tryd.func9 (by kernel_rfl) rfl rfl rfl (⟨⟨_, rfl, rfl, rfl⟩, trivial⟩) (⟨⟨_, _, rfl, rfl, rfl, rfl, (fun h => by cases h), rfl⟩, ⟨_, _, rfl, rfl, rfl, rfl, (fun h => by cases h), rfl⟩, trivial⟩) (trivial) (⟨(fun h => by cases h), (fun h => by cases h), trivial⟩) rfl) trivial rfl ?_
 refine .q (op_move rfl) trivial rfl ?_
 refine .q (op_extract rfl rfl) trivial rfl ?_
 refine .q (op_extract rfl rfl) trivial rfl ?_
 refine .q (op_assign rfl) trivial rfl ?_
 refine .q (op_assign rfl) trivial rfl ?_
 refine .nil ?_
 show Ev _ _ _ _ _
 refine .seq ?_
 refine .seq ?_
 refine .region ?_
 refine .q (op_move rfl) trivial rfl ?_
 refine .q (op_len_str Tryd.underlying9 rfl) trivial rfl ?_
 refine .q (op_cmpI rfl rfl rfl) trivial rfl ?_
 refine .q (op_move rfl) trivial rfl ?_
 refine .know (b' := true) (bne_iff_ne.2 (by omega)) ?_
 refine .q (op_move rfl) ⟨_, rfl, rfl⟩ rfl ?_
 refine .q (op_len_str Tryd.underlying9 rfl) ⟨_, rfl, rfl⟩ rfl ?_
 refine .q (op_cmpI rfl rfl rfl) ⟨_, rfl, rfl⟩ rfl ?_
 refine .q (op_pick_true rfl rfl rfl) trivial rfl ?_
 refine .q (op_move rfl) trivial rfl ?_
 refine .know (b' := true) (bne_iff_ne.2 (by omega)) ?_
 refine .q (op_move rfl) ⟨_, rfl, rfl⟩ rfl ?_
 refine .q (op_len_str Tryd.underlying9 rfl) ⟨_, rfl, rfl⟩ rfl ?_
 refine .q (op_cmpI rfl rfl rfl) ⟨_, rfl, rfl⟩ rfl ?_
 refine .q (op_pick_true rfl rfl rfl) trivial rfl ?_
 refine .nil ?_
 show Ev _ _ _ _ _
 refine .cond_true rfl (bne_iff_ne.2 (by omega)) ?_
 refine .seq ?_
 refine .region ?_
 refine .q (op_move rfl) trivial rfl ?_
 refine .q (op_eqNilPtr Tryd.underlying27 rfl rfl rfl) trivial rfl ?_
 refine .q (op_move rfl) trivial rfl ?_
 refine .know (b' := true) (rfl) ?_
 refine .q (op_move rfl) ⟨_, rfl, rfl⟩ rfl ?_
 refine .q (op_call (U := []) [] [] (code_10 eo hd) Tryd.func17 (by kernel_rfl) rfl rfl rfl (⟨⟨_, rfl, rfl, rfl⟩, trivial⟩) (⟨⟨_, _, rfl, rfl, rfl, rfl, (fun h => by cases h), rfl⟩, ⟨_, _, rfl, rfl, rfl, rfl, (fun h => by cases h), rfl⟩, ⟨_, _, rfl, rfl, rfl, rfl, (fun h => by cases h), rfl⟩, ⟨_, _, rfl, rfl, rfl, rfl, (fun h => by cases h), rfl⟩, ⟨_, _, rfl, rfl, rfl, rfl, (fun h => by cases h), rfl⟩, ⟨_, _, rfl, rfl, rfl, rfl, (fun h => by cases h), rfl⟩, ⟨_, _, rfl, rfl, rfl, rfl, (fun h => by cases h), rfl⟩, ⟨_, _, rfl, rfl, rfl, rfl, (fun h => by cases h), rfl⟩, ⟨_, _, rfl, rfl, rfl, rfl, (fun h => by cases h), rfl⟩, ⟨_, _, rfl, rfl, rfl, rfl, (fun h => by cases h), rfl⟩, ⟨_, _, rfl, rfl, rfl, rfl, (fun h => by cases h), rfl⟩, ⟨_, _, rfl, rfl, rfl, rfl, (fun h => by cases h), rfl⟩, ⟨_, _, rfl, rfl, rfl, rfl, (fun h => by cases h), rfl⟩, ⟨_, _, rfl, rfl, rfl, rfl, (fun h => by cases h), rfl⟩, ⟨_, _, rfl, rfl, rfl, rfl, (fun h => by cases h), rfl⟩, ⟨_, _, rfl, rfl, rfl, rfl, (fun h => by cases h), rfl⟩, ⟨_, _, rfl, rfl, rfl, rfl, (fun h => by cases h), rfl⟩, ⟨_, _, rfl, rfl, rfl, rfl, (fun h => by cases h), rfl⟩, ⟨_, _, rfl, rfl, rfl, rfl, (fun h => by cases h), rfl⟩, ⟨_, _, rfl, rfl, rfl, rfl, (fun h => by cases h), rfl⟩, ⟨_, _, rfl, rfl, rfl, rfl, (fun h => by cases h), rfl⟩, ⟨_, _, rfl, rfl, rfl, rfl, (fun h => by cases h), rfl⟩, ⟨_, _, rfl, rfl, rfl, rfl, (fun h => by cases h), rfl⟩, ⟨_, _, rfl, rfl, rfl, rfl, (fun h => by cases h), rfl⟩, ⟨_, _, rfl, rfl, rfl, rfl, (fun h => by cases h), rfl⟩, ⟨_, _, rfl, rfl, rfl, rfl, (fun h => by cases h), rfl⟩, ⟨_, _, rfl, rfl, rfl, rfl, (fun h => by cases h), rfl⟩, ⟨_, _, rfl, rfl, rfl, rfl, (fun h => by cases h), rfl⟩, ⟨_, _, rfl, rfl, rfl, rfl, (fun h => by cases h), rfl⟩, ⟨_, _, rfl, rfl, rfl, rfl, (fun h => by cases h), rfl⟩, ⟨_, _, rfl, rfl, rfl, rfl, (fun h => by cases h), rfl⟩, ⟨_, _, rfl, rfl, rfl, rfl, (fun h => by cases h), rfl⟩, ⟨_, _, rfl, rfl, rfl, rfl, (fun h => by cases h), rfl⟩, ⟨_, _, rfl, rfl, rfl, rfl, (fun h => by cases h), rfl⟩, ⟨_, _, rfl, rfl, rfl, rfl, (fun h => by cases h), rfl⟩, ⟨_, _, rfl, rfl, rfl, rfl, (fun h => by cases h), rfl⟩, ⟨_, _, rfl, rfl, rfl, rfl, (fun h => by cases h), rfl⟩, ⟨_, _, rfl, rfl, rfl, rfl, (fun h => by cases h), rfl⟩, ⟨_, _, rfl, rfl, rfl, rfl, (fun h => by cases h), rfl⟩, ⟨_, _, rfl, rfl, rfl, rfl, (fun h => by cases h), rfl⟩, trivial⟩) (trivial) (⟨(fun h => by cases h), (fun h => by cases h), (fun h => by cases h), (fun h => by cases h), (fun h => by cases h), (fun h => by cases h), (fun h => by cases h), (fun h => by cases h), (fun h => by cases h), (fun h => by cases h), (fun h => by cases h), (fun h => by cases h), (fun h => by cases h), (fun h => by cases h), (fun h => by cases h), (fun h => by cases h), (fun h => by cases h), (fun h => by cases h), (fun h => by cases h), (fun h => by cases h), (fun h => by cases h), (fun h => by cases h), (fun h => by cases h), (fun h => by cases h), (fun h => by cases h), (fun h => by cases h), (fun h => by cases h), (fun h => by cases h), (fun h => by cases h), (fun h => by cases h), (fun h => by cases h), (fun h => by cases h), (fun h => by cases h), (fun h => by cases h), (fun h => by cases h), (fun h => by cases h), (fun h => by cases h), (fun h => by cases h), (fun h => by cases h), (fun h => by cases h), trivial⟩) rfl) ⟨_, rfl, rfl⟩ rfl ?_
 refine .q (op_cmpI rfl rfl rfl) ⟨_, rfl, rfl⟩ rfl ?_
 refine .q (op_pick_true rfl rfl rfl) trivial rfl ?_
 refine .q (op_assign rfl) trivial rfl ?_
 refine .nil ?_
 show Ev _ _ _ _ _
 refine .ret ?_
 show RetOk _ _ _ _ _ _ _
 exact ret1v rfl (.inl rfl) rfl rfl trivial
set_option maxRecDepth 100000 in
theorem aesKeys16_ev (eo : Nat → Nat × Nat) (s0 : List UInt8) (hs0 : s0.length ≤ maxLen) (hkey : (s0.take 40).length = 4 * 4) : Meets Tryd.prog 6 [.str s0] [(1, some ⟨.agg [.err 80 (1) (offE eo (1))], errT, false⟩), (2, some ⟨.agg [.err 80 (2) (offE eo (2))], errT, false⟩), (3, some ⟨.agg [.err 80 (3) (offE eo (3))], errT, false⟩), (4, some ⟨.agg [.err 80 (4) (offE eo (4))], errT, false⟩), (5, some ⟨.agg [.err 80 (5) (offE eo (5))], errT, false⟩), (6, some ⟨.agg [.err 80 (6) (offE eo (6))], errT, false⟩), (7, some ⟨.agg [.err 80 (7) (offE eo (7))], errT, false⟩), (8, some ⟨.agg [.err 80 (8) (offE eo (8))], errT, false⟩), (9, some ⟨.agg [.err 80 (9) (offE eo (9))], errT, false⟩), (0, some ⟨.agg [.err 80 (10) (offE eo (10))], errT, false⟩), (10, some ⟨.agg [.err 80 (11) (offE eo (11))], errT, false⟩), (11, some ⟨.agg [.err 80 (12) (offE eo (12))], errT, false⟩), (12, some ⟨.agg [.err 80 (13) (offE eo (13))], errT, false⟩), (13, some ⟨.agg [.err 80 (14) (offE eo (14))], errT, false⟩), (14, some ⟨.agg [.err 80 (15) (offE eo (15))], errT, false⟩), (15, some ⟨.agg [.err 80 (16) (offE eo (16))], errT, false⟩), (16, some ⟨.agg [.err 80 (17) (offE eo (17))], errT, false⟩), (17, some ⟨.agg [.err 80 (18) (offE eo (18))], errT, false⟩), (18, some ⟨.agg [.err 80 (19) (offE eo (19))], errT, false⟩), (19, some ⟨.agg [.err 80 (20) (offE eo (20))], errT, false⟩), (401, some ⟨.agg [], errT, false⟩), (402, some ⟨.agg [], errT, false⟩), (403, some ⟨.agg [], errT, false⟩), (404, some ⟨.agg [], errT, false⟩), (405, some ⟨.agg [], errT, false⟩), (406, some ⟨.agg [], errT, false⟩), (407, some ⟨.agg [], errT, false⟩), (408, some ⟨.agg [], errT, false⟩), (409, some ⟨.agg [], errT, false⟩), (410, some ⟨.agg [], errT, false⟩), (411, some ⟨.agg [], errT, false⟩), (412, some ⟨.agg [], errT, false⟩), (413, some ⟨.agg [], errT, false⟩), (414, some ⟨.agg [], errT, false⟩), (415, some ⟨.agg [], errT, false⟩), (416, some ⟨.agg [], errT, false⟩), (417, some ⟨.agg [], errT, false⟩), (418, some ⟨.agg [], errT, false⟩), (419, some ⟨.agg [], errT, false⟩), (420, some ⟨.agg [], errT, false⟩)] (.bool true) [] := by
 refine meets_of_ev (nt := 52) Tryd.func6 rfl rfl (Nat.le_of_ble_eq_true rfl) ?_
 refine .seq ?_
 refine .region ?_
 refine .q (op_assign rfl) trivial rfl ?_
 refine .nil ?_
 show Ev _ _ _ _ _
 refine .seq ?_
 refine .seq ?_
 refine .region ?_
 refine .q (op_call (U := []) [] [] (awakeA_ev) Tryd.func8 (by kernel_rfl) rfl rfl rfl (trivial) (trivial) (trivial) (trivial) rfl) trivial rfl ?_
 refine .q (op_notB rfl) trivial rfl ?_
 refine .nil ?_
 show Ev _ _ _ _ _
 refine .cond_false rfl (rfl) ?_
 refine .skip ?_
 show Ev _ _ _ _ _
 refine .seq ?_
 refine .region ?_
 refine .q (op_move rfl) trivial rfl ?_
 refine .q (op_call (U := []) [] [] (cut_ev s0 40 hs0 (by decide)) Tryd.func14 (by kernel_rfl) rfl rfl rfl (⟨⟨_, rfl, rfl, rfl⟩, ⟨_, rfl, rfl, rfl⟩, trivial⟩) (trivial) (trivial) (trivial) rfl) trivial rfl ?_
 refine .q (op_assign rfl) trivial rfl ?_
 refine .nil ?_
 show Ev _ _ _ _ _
 refine .seq ?_
 refine .region ?_
 refine .q (op_move rfl) trivial rfl ?_
 refine .a (op_call (U := [(1000, some ⟨cphA 4 (s0.take 40), 50, true⟩)]) [] [(1000, 1000)] (new_ev 4 (s0.take 40) (by decide) hkey) Tryd.func9 (by kernel_rfl) rfl rfl rfl (⟨⟨_, rfl, rfl, rfl⟩, trivial⟩) (trivial) (⟨⟨1000, _, rfl, congrArg (fun c => (⟨c, _, _⟩ : ABlk)) (ren_ca _).symm, rfl, nmF_ca _ _, .inl rfl⟩, trivial⟩) (trivial) rfl) trivial rfl ?_
 refine .q (op_move rfl) trivial rfl ?_
 refine .q (op_extract rfl rfl) trivial rfl ?_
 refine .q (op_extract rfl rfl) trivial rfl ?_
 refine .q (op_assign rfl) trivial rfl ?_
 refine .q (op_assign rfl) trivial rfl ?_
 refine .nil ?_
 show Ev _ _ _ _ _
 refine .seq ?_
 refine .seq ?_
 refine .region ?_
 refine .q (op_move rfl) trivial rfl ?_
 refine .q (op_len_str Tryd.underlying9 rfl) trivial rfl ?_
 refine .q (op_cmpI rfl rfl rfl) trivial rfl ?_
 refine .q (op_move rfl) trivial rfl ?_
 refine .know (b' := false) (bne_eq_false_iff_eq.2 (by omega)) ?_
 refine .no ⟨_, rfl, rfl⟩ rfl ?_
 refine .no ⟨_, rfl, rfl⟩ rfl ?_
 refine .no ⟨_, rfl, rfl⟩ rfl ?_
 refine .q (op_pick_false rfl rfl rfl) trivial rfl ?_
 refine .q (op_move rfl) trivial rfl ?_
 refine .no ⟨_, rfl, rfl⟩ rfl ?_
 refine .no ⟨_, rfl, rfl⟩ rfl ?_
 refine .no ⟨_, rfl, rfl⟩ rfl ?_
 refine .q (op_pick_false rfl rfl rfl) trivial rfl ?_
 refine .nil ?_
 show Ev _ _ _ _ _
 refine .cond_false rfl rfl ?_
 refine .skip ?_
 show Ev _ _ _ _ _
 refine .seq ?_
 refine .seq ?_
 refine .region ?_
 refine .q (op_move rfl) trivial rfl ?_
 refine .q (op_eqPtrNil Tryd.underlying27 rfl rfl rfl) trivial rfl ?_
 refine .q (op_move rfl) trivial rfl ?_
 refine .know (b' := false) (rfl) ?_
 refine .q (op_move rfl) ⟨_, rfl, rfl⟩ rfl ?_
 refine .q (op_eqNilNil Tryd.underlying29 rfl rfl) ⟨_, rfl, rfl⟩ rfl ?_
 refine .q (op_pick_false rfl rfl rfl) trivial rfl ?_
 refine .nil ?_
 show Ev _ _ _ _ _
 refine .cond_false rfl (rfl) ?_
 refine .skip ?_
 show Ev _ _ _ _ _
 refine .seq ?_
 refine .region ?_
 refine .q (op_move rfl) trivial rfl ?_
 refine .q (op_buildArr (us := [(0, _)]) Tryd.underlying25 inf5.sz zero25 rel_zero25 rfl (by decide) ⟨rfl, rfl, rfl, trivial⟩ rfl) trivial rfl ?_
 refine .as (.aggB oneZ) (rfl) ?_
 refine .q (op_call (U := []) [(500, 1000)] [] (block_ev bxT (padL (exL bxT 4 (s0.take 40)) 240) (4 + 6) 50 length_bxT (length_pad 4 _ hkey (by decide)) (by decide) oneZ rfl) Tryd.func11 (by kernel_rfl) rfl rfl rfl (⟨⟨_, rfl, rfl, rfl⟩, ⟨_, rfl, rfl, rfl⟩, trivial⟩) (⟨⟨_, _, rfl, rfl, ren_ca _, rfl, (fun h => by cases h), nmC_ca _⟩, trivial⟩) (trivial) (⟨(fun h => by cases h), trivial⟩) rfl) trivial rfl ?_
 refine .as (.aggB (blkL bxT (exL bxT 4 (s0.take 40)) (4 + 6) oneZ)) (congrArg AV.aggB (blk_padK _ _ _ hkey)) ?_
 refine .a (op_allocRow zero25 rel_zero25 rfl) trivial rfl ?_
 refine .w (op_storeRow sz25 rfl rfl rfl rfl rfl (by first | exact blkL_16 .. | (show List.length _ = 16; first | exact blkL_16 .. | rfl)) (by first | exact blkL_16 .. | (show List.length _ = 16; first | exact blkL_16 .. | rfl))) trivial rfl ?_
 refine .nil ?_
 show Ev _ _ _ _ _
 refine .seq ?_
 refine .drawn [[], [0], [], [], [3], [3, 4], [2, 3, 4, 5], [0, 1, 2, 3, 4, 5, 6], [0, 1, 2, 3, 4, 5, 6, 7]] [0, 1, 3, 4, 6] [] (by kernel_rfl) (by kernel_rfl) rfl ?_
 show DK _ [0, 1, 2, 3, 4, 5, 6, 7, 8] _ _ _
 refine .q rfl (op_slice_arr (l := 0) (h := 16) Tryd.underlying25 inf5.sz rfl rfl (by show _ ≤ List.length _; rw [blkL_16]; decide) (by decide) rfl rfl (by decide) (by decide)) trivial ?_
 refine .q rfl (op_bytes_str Tryd.underlying34 Tryd.underlying5 Tryd.underlying9 rfl rfl rfl (by show 0 + 16 ≤ List.length _; rw [blkL_16]; decide)) trivial ?_
 refine .as (.str (blkL bxT (exL bxT 4 (s0.take 40)) (4 + 6) oneZ)) (by rw [List.drop_zero, Nat.sub_zero, List.take_of_length_le (by rw [blkL_16]; decide)]) ?_
 refine .q rfl (op_move rfl) trivial ?_
 refine .a rfl (ap_make (n := 15) (c := .aggB (List.replicate 15 0)) Tryd.underlying34 inf5 rfl rfl rfl rfl (by decide) (rel_zero5) rfl (rfl)) trivial rfl rfl ?_
 refine .q rfl (op_bytes_str (l := List.replicate 15 0) (k := ⟨.aggB (List.replicate 15 0), 5, true⟩) Tryd.underlying34 Tryd.underlying5 Tryd.underlying9 rfl (by kernel_rfl) rfl (by decide)) trivial ?_
 refine .as (.str (List.replicate 15 0)) (rfl) ?_
 refine .q rfl (op_addS rfl rfl (by decide)) trivial ?_
 refine .as (.str oneZ) (rfl) ?_
 refine .q rfl (op_call (U := []) [] [] (rblock_ev (s0.take 40) oneZ 4 hkey (by decide) rfl) Tryd.func12 (by kernel_rfl) rfl rfl rfl (⟨⟨_, rfl, rfl, rfl⟩, ⟨_, rfl, rfl, rfl⟩, trivial⟩) (trivial) (trivial) (trivial) rfl) trivial ?_
 refine .q rfl (op_eqS rfl rfl rfl) trivial ?_
 refine .as (.bool true) (beq_rfl' _) ?_
 refine .q rfl (op_assign rfl) trivial ?_
 refine .nil ?_
 show Ev _ _ _ _ _
 refine .ret ?_
 show RetOk _ _ _ _ _ _ _
 exact ret1v rfl (.inl rfl) rfl rfl trivial
set_option maxRecDepth 100000 in
theorem aesKeys24_ev (eo : Nat → Nat × Nat) (s0 : List UInt8) (hs0 : s0.length ≤ maxLen) (hkey : (s0.take 40).length = 4 * 6) : Meets Tryd.prog 6 [.str s0] [(1, some ⟨.agg [.err 80 (1) (offE eo (1))], errT, false⟩), (2, some ⟨.agg [.err 80 (2) (offE eo (2))], errT, false⟩), (3, some ⟨.agg [.err 80 (3) (offE eo (3))], errT, false⟩), (4, some ⟨.agg [.err 80 (4) (offE eo (4))], errT, false⟩), (5, some ⟨.agg [.err 80 (5) (offE eo (5))], errT, false⟩), (6, some ⟨.agg [.err 80 (6) (offE eo (6))], errT, false⟩), (7, some ⟨.agg [.err 80 (7) (offE eo (7))], errT, false⟩), (8, some ⟨.agg [.err 80 (8) (offE eo (8))], errT, false⟩), (9, some ⟨.agg [.err 80 (9) (offE eo (9))], errT, false⟩), (0, some ⟨.agg [.err 80 (10) (offE eo (10))], errT, false⟩), (10, some ⟨.agg [.err 80 (11) (offE eo (11))], errT, false⟩), (11, some ⟨.agg [.err 80 (12) (offE eo (12))], errT, false⟩), (12, some ⟨.agg [.err 80 (13) (offE eo (13))], errT, false⟩), (13, some ⟨.agg [.err 80 (14) (offE eo (14))], errT, false⟩), (14, some ⟨.agg [.err 80 (15) (offE eo (15))], errT, false⟩), (15, some ⟨.agg [.err 80 (16) (offE eo (16))], errT, false⟩), (16, some ⟨.agg [.err 80 (17) (offE eo (17))], errT, false⟩), (17, some ⟨.agg [.err 80 (18) (offE eo (18))], errT, false⟩), (18, some ⟨.agg [.err 80 (19) (offE eo (19))], errT, false⟩), (19, some ⟨.agg [.err 80 (20) (offE eo (20))], errT, false⟩), (401, some ⟨.agg [], errT, false⟩), (402, some ⟨.agg [], errT, false⟩), (403, some ⟨.agg [], errT, false⟩), (404, some ⟨.agg [], errT, false⟩), (405, some ⟨.agg [], errT, false⟩), (406, some ⟨.agg [], errT, false⟩), (407, some ⟨.agg [], errT, false⟩), (408, some ⟨.agg [], errT, false⟩), (409, some ⟨.agg [], errT, false⟩), (410, some ⟨.agg [], errT, false⟩), (411, some ⟨.agg [], errT, false⟩), (412, some ⟨.agg [], errT, false⟩), (413, some ⟨.agg [], errT, false⟩), (414, some ⟨.agg [], errT, false⟩), (415, some ⟨.agg [], errT, false⟩), (416, some ⟨.agg [], errT, false⟩), (417, some ⟨.agg [], errT, false⟩), (418, some ⟨.agg [], errT, false⟩), (419, some ⟨.agg [], errT, false⟩), (420, some ⟨.agg [], errT, false⟩)] (.bool true) [] := by
 refine meets_of_ev (nt := 52) Tryd.func6 rfl rfl (Nat.le_of_ble_eq_true rfl) ?_
 refine .seq ?_
 refine .region ?_
 refine .q (op_assign rfl) trivial rfl ?_
 refine .nil ?_
 show Ev _ _ _ _ _
 refine .seq ?_
 refine .seq ?_
 refine .region ?_
 refine .q (op_call (U := []) [] [] (awakeA_ev) Tryd.func8 (by kernel_rfl) rfl rfl rfl (trivial) (trivial) (trivial) (trivial) rfl) trivial rfl ?_
 refine .q (op_notB rfl) trivial rfl ?_
 refine .nil ?_
 show Ev _ _ _ _ _
 refine .cond_false rfl (rfl) ?_
 refine .skip ?_
 show Ev _ _ _ _ _
 refine .seq ?_
 refine .region ?_
 refine .q (op_move rfl) trivial rfl ?_
 refine .q (op_call (U := []) [] [] (cut_ev s0 40 hs0 (by decide)) Tryd.func14 (by kernel_rfl) rfl rfl rfl (⟨⟨_, rfl, rfl, rfl⟩, ⟨_, rfl, rfl, rfl⟩, trivial⟩) (trivial) (trivial) (trivial) rfl) trivial rfl ?_
 refine .q (op_assign rfl) trivial rfl ?_
 refine .nil ?_
 show Ev _ _ _ _ _
 refine .seq ?_
 refine .region ?_
 refine .q (op_move rfl) trivial rfl ?_
 refine .a (op_call (U := [(1000, some ⟨cphA 6 (s0.take 40), 50, true⟩)]) [] [(1000, 1000)] (new_ev 6 (s0.take 40) (by decide) hkey) Tryd.func9 (by kernel_rfl) rfl rfl rfl (⟨⟨_, rfl, rfl, rfl⟩, trivial⟩) (trivial) (⟨⟨1000, _, rfl, congrArg (fun c => (⟨c, _, _⟩ : ABlk)) (ren_ca _).symm, rfl, nmF_ca _ _, .inl rfl⟩, trivial⟩) (trivial) rfl) trivial rfl ?_
 refine .q (op_move rfl) trivial rfl ?_
 refine .q (op_extract rfl rfl) trivial rfl ?_
 refine .q (op_extract rfl rfl) trivial rfl ?_
 refine .q (op_assign rfl) trivial rfl ?_
 refine .q (op_assign rfl) trivial rfl ?_
 refine .nil ?_
 show Ev _ _ _ _ _
 refine .seq ?_
 refine .seq ?_
 refine .region ?_
 refine .q (op_move rfl) trivial rfl ?_
 refine .q (op_len_str Tryd.underlying9 rfl) trivial rfl ?_
 refine .q (op_cmpI rfl rfl rfl) trivial rfl ?_
 refine .q (op_move rfl) trivial rfl ?_
 refine .know (b' := true) (bne_iff_ne.2 (by omega)) ?_
 refine .q (op_move rfl) ⟨_, rfl, rfl⟩ rfl ?_
 refine .q (op_len_str Tryd.underlying9 rfl) ⟨_, rfl, rfl⟩ rfl ?_
 refine .q (op_cmpI rfl rfl rfl) ⟨_, rfl, rfl⟩ rfl ?_
 refine .q (op_pick_true rfl rfl rfl) trivial rfl ?_
 refine .q (op_move rfl) trivial rfl ?_
 refine .know (b' := false) (bne_eq_false_iff_eq.2 (by omega)) ?_
 refine .no ⟨_, rfl, rfl⟩ rfl ?_
 refine .no ⟨_, rfl, rfl⟩ rfl ?_
 refine .no ⟨_, rfl, rfl⟩ rfl ?_
 refine .q (op_pick_false rfl rfl rfl) trivial rfl ?_
 refine .nil ?_
 show Ev _ _ _ _ _
 refine .cond_false rfl rfl ?_
 refine .skip ?_
 show Ev _ _ _ _ _
 refine .seq ?_
 refine .seq ?_
 refine .region ?_
 refine .q (op_move rfl) trivial rfl ?_
 refine .q (op_eqPtrNil Tryd.underlying27 rfl rfl rfl) trivial rfl ?_
 refine .q (op_move rfl) trivial rfl ?_
 refine .know (b' := false) (rfl) ?_
 refine .q (op_move rfl) ⟨_, rfl, rfl⟩ rfl ?_
 refine .q (op_eqNilNil Tryd.underlying29 rfl rfl) ⟨_, rfl, rfl⟩ rfl ?_
 refine .q (op_pick_false rfl rfl rfl) trivial rfl ?_
 refine .nil ?_
 show Ev _ _ _ _ _
 refine .cond_false rfl (rfl) ?_
 refine .skip ?_
 show Ev _ _ _ _ _
 refine .seq ?_
 refine .region ?_
 refine .q (op_move rfl) trivial rfl ?_
 refine .q (op_buildArr (us := [(0, _)]) Tryd.underlying25 inf5.sz zero25 rel_zero25 rfl (by decide) ⟨rfl, rfl, rfl, trivial⟩ rfl) trivial rfl ?_
 refine .as (.aggB oneZ) (rfl) ?_
 refine .q (op_call (U := []) [(500, 1000)] [] (block_ev bxT (padL (exL bxT 6 (s0.take 40)) 240) (6 + 6) 50 length_bxT (length_pad 6 _ hkey (by decide)) (by decide) oneZ rfl) Tryd.func11 (by kernel_rfl) rfl rfl rfl (⟨⟨_, rfl, rfl, rfl⟩, ⟨_, rfl, rfl, rfl⟩, trivial⟩) (⟨⟨_, _, rfl, rfl, ren_ca _, rfl, (fun h => by cases h), nmC_ca _⟩, trivial⟩) (trivial) (⟨(fun h => by cases h), trivial⟩) rfl) trivial rfl ?_
 refine .as (.aggB (blkL bxT (exL bxT 6 (s0.take 40)) (6 + 6) oneZ)) (congrArg AV.aggB (blk_padK _ _ _ hkey)) ?_
 refine .a (op_allocRow zero25 rel_zero25 rfl) trivial rfl ?_
 refine .w (op_storeRow sz25 rfl rfl rfl rfl rfl (by first | exact blkL_16 .. | (show List.length _ = 16; first | exact blkL_16 .. | rfl)) (by first | exact blkL_16 .. | (show List.length _ = 16; first | exact blkL_16 .. | rfl))) trivial rfl ?_
 refine .nil ?_
 show Ev _ _ _ _ _
 refine .seq ?_
 refine .drawn [[], [0], [], [], [3], [3, 4], [2, 3, 4, 5], [0, 1, 2, 3, 4, 5, 6], [0, 1, 2, 3, 4, 5, 6, 7]] [0, 1, 3, 4, 6] [] (by kernel_rfl) (by kernel_rfl) rfl ?_
 show DK _ [0, 1, 2, 3, 4, 5, 6, 7, 8] _ _ _
 refine .q rfl (op_slice_arr (l := 0) (h := 16) Tryd.underlying25 inf5.sz rfl rfl (by show _ ≤ List.length _; rw [blkL_16]; decide) (by decide) rfl rfl (by decide) (by decide)) trivial ?_
 refine .q rfl (op_bytes_str Tryd.underlying34 Tryd.underlying5 Tryd.underlying9 rfl rfl rfl (by show 0 + 16 ≤ List.length _; rw [blkL_16]; decide)) trivial ?_
 refine .as (.str (blkL bxT (exL bxT 6 (s0.take 40)) (6 + 6) oneZ)) (by rw [List.drop_zero, Nat.sub_zero, List.take_of_length_le (by rw [blkL_16]; decide)]) ?_
 refine .q rfl (op_move rfl) trivial ?_
 refine .a rfl (ap_make (n := 15) (c := .aggB (List.replicate 15 0)) Tryd.underlying34 inf5 rfl rfl rfl rfl (by decide) (rel_zero5) rfl (rfl)) trivial rfl rfl ?_
 refine .q rfl (op_bytes_str (l := List.replicate 15 0) (k := ⟨.aggB (List.replicate 15 0), 5, true⟩) Tryd.underlying34 Tryd.underlying5 Tryd.underlying9 rfl (by kernel_rfl) rfl (by decide)) trivial ?_
 refine .as (.str (List.replicate 15 0)) (rfl) ?_
 refine .q rfl (op_addS rfl rfl (by decide)) trivial ?_
 refine .as (.str oneZ) (rfl) ?_
 refine .q rfl (op_call (U := []) [] [] (rblock_ev (s0.take 40) oneZ 6 hkey (by decide) rfl) Tryd.func12 (by kernel_rfl) rfl rfl rfl (⟨⟨_, rfl, rfl, rfl⟩, ⟨_, rfl, rfl, rfl⟩, trivial⟩) (trivial) (trivial) (trivial) rfl) trivial ?_
 refine .q rfl (op_eqS rfl rfl rfl) trivial ?_
 refine .as (.bool true) (beq_rfl' _) ?_
 refine .q rfl (op_assign rfl) trivial ?_
 refine .nil ?_
 show Ev _ _ _ _ _
 refine .ret ?_
 show RetOk _ _ _ _ _ _ _
 exact ret1v rfl (.inl rfl) rfl rfl trivial
set_option maxRecDepth 100000 in
theorem aesKeys32_ev (eo : Nat → Nat × Nat) (s0 : List UInt8) (hs0 : s0.length ≤ maxLen) (hkey : (s0.take 40).length = 4 * 8) : Meets Tryd.prog 6 [.str s0] [(1, some ⟨.agg [.err 80 (1) (offE eo (1))], errT, false⟩), (2, some ⟨.agg [.err 80 (2) (offE eo (2))], errT, false⟩), (3, some ⟨.agg [.err 80 (3) (offE eo (3))], errT, false⟩), (4, some ⟨.agg [.err 80 (4) (offE eo (4))], errT, false⟩), (5, some ⟨.agg [.err 80 (5) (offE eo (5))], errT, false⟩), (6, some ⟨.agg [.err 80 (6) (offE eo (6))], errT, false⟩), (7, some ⟨.agg [.err 80 (7) (offE eo (7))], errT, false⟩), (8, some ⟨.agg [.err 80 (8) (offE eo (8))], errT, false⟩), (9, some ⟨.agg [.err 80 (9) (offE eo (9))], errT, false⟩), (0, some ⟨.agg [.err 80 (10) (offE eo (10))], errT, false⟩), (10, some ⟨.agg [.err 80 (11) (offE eo (11))], errT, false⟩), (11, some ⟨.agg [.err 80 (12) (offE eo (12))], errT, false⟩), (12, some ⟨.agg [.err 80 (13) (offE eo (13))], errT, false⟩), (13, some ⟨.agg [.err 80 (14) (offE eo (14))], errT, false⟩), (14, some ⟨.agg [.err 80 (15) (offE eo (15))], errT, false⟩), (15, some ⟨.agg [.err 80 (16) (offE eo (16))], errT, false⟩), (16, some ⟨.agg [.err 80 (17) (offE eo (17))], errT, false⟩), (17, some ⟨.agg [.err 80 (18) (offE eo (18))], errT, false⟩), (18, some ⟨.agg [.err 80 (19) (offE eo (19))], errT, false⟩), (19, some ⟨.agg [.err 80 (20) (offE eo (20))], errT, false⟩), (401, some ⟨.agg [], errT, false⟩), (402, some ⟨.agg [], errT, false⟩), (403, some ⟨.agg [], errT, false⟩), (404, some ⟨.agg [], errT, false⟩), (405, some ⟨.agg [], errT, false⟩), (406, some ⟨.agg [], errT, false⟩), (407, some ⟨.agg [], errT, false⟩), (408, some ⟨.agg [], errT, false⟩), (409, some ⟨.agg [], errT, false⟩), (410, some ⟨.agg [], errT, false⟩), (411, some ⟨.agg [], errT, false⟩), (412, some ⟨.agg [], errT, false⟩), (413, some ⟨.agg [], errT, false⟩), (414, some ⟨.agg [], errT, false⟩), (415, some ⟨.agg [], errT, false⟩), (416, some ⟨.agg [], errT, false⟩), (417, some ⟨.agg [], errT, false⟩), (418, some ⟨.agg [], errT, false⟩), (419, some ⟨.agg [], errT, false⟩), (420, some ⟨.agg [], errT, false⟩)] (.bool true) [] := by
 refine meets_of_ev (nt := 52) Tryd.func6 rfl rfl (Nat.le_of_ble_eq_true rfl) ?_
 refine .seq ?_
 refine .region ?_
 refine .q (op_assign rfl) trivial rfl ?_
 refine .nil ?_
 show Ev _ _ _ _ _
 refine .seq ?_
 refine .seq ?_
 refine .region ?_
 refine .q (op_call (U := []) [] [] (awakeA_ev) Tryd.func8 (by kernel_rfl) rfl rfl rfl (trivial) (trivial) (trivial) (trivial) rfl) trivial rfl ?_
 refine .q (op_notB rfl) trivial rfl ?_
 refine .nil ?_
 show Ev _ _ _ _ _
 refine .cond_false rfl (rfl) ?_
 refine .skip ?_
 show Ev _ _ _ _ _
 refine .seq ?_
 refine .region ?_
 refine .q (op_move rfl) trivial rfl ?_
 refine .q (op_call (U := []) [] [] (cut_ev s0 40 hs0 (by decide)) Tryd.func14 (by kernel_rfl) rfl rfl rfl (⟨⟨_, rfl, rfl, rfl⟩, ⟨_, rfl, rfl, rfl⟩, trivial⟩) (trivial) (trivial) (trivial) rfl) trivial rfl ?_
 refine .q (op_assign rfl) trivial rfl ?_
 refine .nil ?_
 show Ev _ _ _ _ _
 refine .seq ?_
 refine .region ?_
 refine .q (op_move rfl) trivial rfl ?_
 refine .a (op_call (U := [(1000, some ⟨cphA 8 (s0.take 40), 50, true⟩)]) [] [(1000, 1000)] (new_ev 8 (s0.take 40) (by decide) hkey) Tryd.func9 (by kernel_rfl) rfl rfl rfl (⟨⟨_, rfl, rfl, rfl⟩, trivial⟩) (trivial) (⟨⟨1000, _, rfl, congrArg (fun c => (⟨c, _, _⟩ : ABlk)) (ren_ca _).symm, rfl, nmF_ca _ _, .inl rfl⟩, trivial⟩) (trivial) rfl) trivial rfl ?_
 refine .q (op_move rfl) trivial rfl ?_
 refine .q (op_extract rfl rfl) trivial rfl ?_
 refine .q (op_extract rfl rfl) trivial rfl ?_
 refine .q (op_assign rfl) trivial rfl ?_
 refine .q (op_assign rfl) trivial rfl ?_
 refine .nil ?_
 show Ev _ _ _ _ _
 refine .seq ?_
 refine .seq ?_
 refine .region ?_
 refine .q (op_move rfl) trivial rfl ?_
 refine .q (op_len_str Tryd.underlying9 rfl) trivial rfl ?_
 refine .q (op_cmpI rfl rfl rfl) trivial rfl ?_
 refine .q (op_move rfl) trivial rfl ?_
 refine .know (b' := true) (bne_iff_ne.2 (by omega)) ?_
 refine .q (op_move rfl) ⟨_, rfl, rfl⟩ rfl ?_
 refine .q (op_len_str Tryd.underlying9 rfl) ⟨_, rfl, rfl⟩ rfl ?_
 refine .q (op_cmpI rfl rfl rfl) ⟨_, rfl, rfl⟩ rfl ?_
 refine .q (op_pick_true rfl rfl rfl) trivial rfl ?_
 refine .q (op_move rfl) trivial rfl ?_
 refine .know (b' := true) (bne_iff_ne.2 (by omega)) ?_
 refine .q (op_move rfl) ⟨_, rfl, rfl⟩ rfl ?_
 refine .q (op_len_str Tryd.underlying9 rfl) ⟨_, rfl, rfl⟩ rfl ?_
 refine .q (op_cmpI rfl rfl rfl) ⟨_, rfl, rfl⟩ rfl ?_
 refine .q (op_pick_true rfl rfl rfl) trivial rfl ?_
 refine .nil ?_
 show Ev _ _ _ _ _
 refine .cond_false rfl (bne_eq_false_iff_eq.2 (by omega)) ?_
 refine .skip ?_
 show Ev _ _ _ _ _
 refine .seq ?_
 refine .seq ?_
 refine .region ?_
 refine .q (op_move rfl) trivial rfl ?_
 refine .q (op_eqPtrNil Tryd.underlying27 rfl rfl rfl) trivial rfl ?_
 refine .q (op_move rfl) trivial rfl ?_
 refine .know (b' := false) (rfl) ?_
 refine .q (op_move rfl) ⟨_, rfl, rfl⟩ rfl ?_
 refine .q (op_eqNilNil Tryd.underlying29 rfl rfl) ⟨_, rfl, rfl⟩ rfl ?_
 refine .q (op_pick_false rfl rfl rfl) trivial rfl ?_
 refine .nil ?_
 show Ev _ _ _ _ _
 refine .cond_false rfl (rfl) ?_
 refine .skip ?_
 show Ev _ _ _ _ _
 refine .seq ?_
 refine .region ?_
 refine .q (op_move rfl) trivial rfl ?_
 refine .q (op_buildArr (us := [(0, _)]) Tryd.underlying25 inf5.sz zero25 rel_zero25 rfl (by decide) ⟨rfl, rfl, rfl, trivial⟩ rfl) trivial rfl ?_
 refine .as (.aggB oneZ) (rfl) ?_
 refine .q (op_call (U := []) [(500, 1000)] [] (block_ev bxT (padL (exL bxT 8 (s0.take 40)) 240) (8 + 6) 50 length_bxT (length_pad 8 _ hkey (by decide)) (by decide) oneZ rfl) Tryd.func11 (by kernel_rfl) rfl rfl rfl (⟨⟨_, rfl, rfl, rfl⟩, ⟨_, rfl, rfl, rfl⟩, trivial⟩) (⟨⟨_, _, rfl, rfl, ren_ca _, rfl, (fun h => by cases h), nmC_ca _⟩, trivial⟩) (trivial) (⟨(fun h => by cases h), trivial⟩) rfl) trivial rfl ?_
 refine .as (.aggB (blkL bxT (exL bxT 8 (s0.take 40)) (8 + 6) oneZ)) (congrArg AV.aggB (blk_padK _ _ _ hkey)) ?_
 refine .a (op_allocRow zero25 rel_zero25 rfl) trivial rfl ?_
 refine .w (op_storeRow sz25 rfl rfl rfl rfl rfl (by first | exact blkL_16 .. | (show List.length _ = 16; first | exact blkL_16 .. | rfl)) (by first | exact blkL_16 .. | (show List.length _ = 16; first | exact blkL_16 .. | rfl))) trivial rfl ?_
 refine .nil ?_
 show Ev _ _ _ _ _
 refine .seq ?_
 refine .drawn [[], [0], [], [], [3], [3, 4], [2, 3, 4, 5], [0, 1, 2, 3, 4, 5, 6], [0, 1, 2, 3, 4, 5, 6, 7]] [0, 1, 3, 4, 6] [] (by kernel_rfl) (by kernel_rfl) rfl ?_
 show DK _ [0, 1, 2, 3, 4, 5, 6, 7, 8] _ _ _
 refine .q rfl (op_slice_arr (l := 0) (h := 16) Tryd.underlying25 inf5.sz rfl rfl (by show _ ≤ List.length _; rw [blkL_16]; decide) (by decide) rfl rfl (by decide) (by decide)) trivial ?_
 refine .q rfl (op_bytes_str Tryd.underlying34 Tryd.underlying5 Tryd.underlying9 rfl rfl rfl (by show 0 + 16 ≤ List.length _; rw [blkL_16]; decide)) trivial ?_
 refine .as (.str (blkL bxT (exL bxT 8 (s0.take 40)) (8 + 6) oneZ)) (by rw [List.drop_zero, Nat.sub_zero, List.take_of_length_le (by rw [blkL_16]; decide)]) ?_
 refine .q rfl (op_move rfl) trivial ?_
 refine .a rfl (ap_make (n := 15) (c := .aggB (List.replicate 15 0)) Tryd.underlying34 inf5 rfl rfl rfl rfl (by decide) (rel_zero5) rfl (rfl)) trivial rfl rfl ?_
 refine .q rfl (op_bytes_str (l := List.replicate 15 0) (k := ⟨.aggB (List.replicate 15 0), 5, true⟩) Tryd.underlying34 Tryd.underlying5 Tryd.underlying9 rfl (by kernel_rfl) rfl (by decide)) trivial ?_
 refine .as (.str (List.replicate 15 0)) (rfl) ?_
 refine .q rfl (op_addS rfl rfl (by decide)) trivial ?_
 refine .as (.str oneZ) (rfl) ?_
 refine .q rfl (op_call (U := []) [] [] (rblock_ev (s0.take 40) oneZ 8 hkey (by decide) rfl) Tryd.func12 (by kernel_rfl) rfl rfl rfl (⟨⟨_, rfl, rfl, rfl⟩, ⟨_, rfl, rfl, rfl⟩, trivial⟩) (trivial) (trivial) (trivial) rfl) trivial ?_
 refine .q rfl (op_eqS rfl rfl rfl) trivial ?_
 refine .as (.bool true) (beq_rfl' _) ?_
 refine .q rfl (op_assign rfl) trivial ?_
 refine .nil ?_
 show Ev _ _ _ _ _
 refine .ret ?_
 show RetOk _ _ _ _ _ _ _
 exact ret1v rfl (.inl rfl) rfl rfl trivial
theorem aesKeys_ev (eo : Nat → Nat × Nat) (hd : ∀ i j, i < 20 → j < 20 → i ≠ j → eo i ≠ eo j) (s0 : List UInt8) (hs0 : s0.length ≤ maxLen) : Meets Tryd.prog 6 [.str s0] [(1, some ⟨.agg [.err 80 (1) (offE eo (1))], errT, false⟩), (2, some ⟨.agg [.err 80 (2) (offE eo (2))], errT, false⟩), (3, some ⟨.agg [.err 80 (3) (offE eo (3))], errT, false⟩), (4, some ⟨.agg [.err 80 (4) (offE eo (4))], errT, false⟩), (5, some ⟨.agg [.err 80 (5) (offE eo (5))], errT, false⟩), (6, some ⟨.agg [.err 80 (6) (offE eo (6))], errT, false⟩), (7, some ⟨.agg [.err 80 (7) (offE eo (7))], errT, false⟩), (8, some ⟨.agg [.err 80 (8) (offE eo (8))], errT, false⟩), (9, some ⟨.agg [.err 80 (9) (offE eo (9))], errT, false⟩), (0, some ⟨.agg [.err 80 (10) (offE eo (10))], errT, false⟩), (10, some ⟨.agg [.err 80 (11) (offE eo (11))], errT, false⟩), (11, some ⟨.agg [.err 80 (12) (offE eo (12))], errT, false⟩), (12, some ⟨.agg [.err 80 (13) (offE eo (13))], errT, false⟩), (13, some ⟨.agg [.err 80 (14) (offE eo (14))], errT, false⟩), (14, some ⟨.agg [.err 80 (15) (offE eo (15))], errT, false⟩), (15, some ⟨.agg [.err 80 (16) (offE eo (16))], errT, false⟩), (16, some ⟨.agg [.err 80 (17) (offE eo (17))], errT, false⟩), (17, some ⟨.agg [.err 80 (18) (offE eo (18))], errT, false⟩), (18, some ⟨.agg [.err 80 (19) (offE eo (19))], errT, false⟩), (19, some ⟨.agg [.err 80 (20) (offE eo (20))], errT, false⟩), (401, some ⟨.agg [], errT, false⟩), (402, some ⟨.agg [], errT, false⟩), (403, some ⟨.agg [], errT, false⟩), (404, some ⟨.agg [], errT, false⟩), (405, some ⟨.agg [], errT, false⟩), (406, some ⟨.agg [], errT, false⟩), (407, some ⟨.agg [], errT, false⟩), (408, some ⟨.agg [], errT, false⟩), (409, some ⟨.agg [], errT, false⟩), (410, some ⟨.agg [], errT, false⟩), (411, some ⟨.agg [], errT, false⟩), (412, some ⟨.agg [], errT, false⟩), (413, some ⟨.agg [], errT, false⟩), (414, some ⟨.agg [], errT, false⟩), (415, some ⟨.agg [], errT, false⟩), (416, some ⟨.agg [], errT, false⟩), (417, some ⟨.agg [], errT, false⟩), (418, some ⟨.agg [], errT, false⟩), (419, some ⟨.agg [], errT, false⟩), (420, some ⟨.agg [], errT, false⟩)] (.bool true) [] := by
 by_cases h1 : (s0.take 40).length = 16
 ·exact aesKeys16_ev eo s0 hs0 h1
 by_cases h2 : (s0.take 40).length = 24
 ·exact aesKeys24_ev eo s0 hs0 h2
 by_cases h3 : (s0.take 40).length = 32
 ·exact aesKeys32_ev eo s0 hs0 h3
 exact aesKeysBad_ev eo hd s0 hs0 ⟨h1, h2, h3⟩
end Go.Proofs.YtdpdmgbdipokdaaDoor
namespace Go.Proofs.YtdpdmgbdipokdaaDoor
open Go.ChangeShapes Go.WideShapes Go.ChangeAt Go.RowKit
set_option maxRecDepth 100000 in
theorem aesKeys_all (W : World) (s : ByteArray) (hs : s.size ≤ maxLen) (h : laidMet Tryd.prog Rows.aesKeysRow.laid W) :
  Calls Tryd.prog 6 #[.string s] W fun e W' => e = .returned (.bool true) ∧ Below W.heap.size W W' := by
 obtain ⟨eo, hd, hkn⟩ := laid_errs h
 refine walk_of_meets_at (errE W eo) (errE_glob _ _) (errE_top _ _) (aesKeys_ev eo hd s.data.toList (show s.data.toList.length ≤ maxLen from hs)) rfl (fun i x y hx hy => ?_) (known.spec hkn)
 match i, hx, hy with
 | 0, hx, hy => injection hx with hx; injection hy with hy; subst hx; subst hy; exact .str _
 | i + 1, hx, _ => simp at hx
end Go.Proofs.YtdpdmgbdipokdaaDoor
