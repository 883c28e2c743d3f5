/-
  Texts of this claim.
-/
import Derived.Test.YtenocbhlbgcnfaaDoorGT8
import Derived.Test.YtenocbhlbgcnfaaDoorGT9
import Derived.Test.YtenocbhlbgcnfaaDoorGTM
import Derived.Test.YtenocbhlbgcnfaaDoorGTI
namespace Go.Proofs.YtenocbhlbgcnfaaDoor
open Go.RowKit
theorem codeB_ev (eo : Nat → Nat × Nat) (hd : ∀ i j, i < 20 → j < 20 → i ≠ j → eo i ≠ eo j) (e : Nat) (he : e = 0 ∨ e = 1 ∨ e = 20) : Meets Tryd.prog 6 [.err 131 e (offE eo e)] [(0, some ⟨.agg [.err 131 (1) (offE eo (1))], errT, false⟩), (1, some ⟨.agg [.err 131 (2) (offE eo (2))], errT, false⟩), (2, some ⟨.agg [.err 131 (3) (offE eo (3))], errT, false⟩), (3, some ⟨.agg [.err 131 (4) (offE eo (4))], errT, false⟩), (4, some ⟨.agg [.err 131 (5) (offE eo (5))], errT, false⟩), (5, some ⟨.agg [.err 131 (6) (offE eo (6))], errT, false⟩), (6, some ⟨.agg [.err 131 (7) (offE eo (7))], errT, false⟩), (7, some ⟨.agg [.err 131 (8) (offE eo (8))], errT, false⟩), (8, some ⟨.agg [.err 131 (9) (offE eo (9))], errT, false⟩), (9, some ⟨.agg [.err 131 (10) (offE eo (10))], errT, false⟩), (10, some ⟨.agg [.err 131 (11) (offE eo (11))], errT, false⟩), (11, some ⟨.agg [.err 131 (12) (offE eo (12))], errT, false⟩), (12, some ⟨.agg [.err 131 (13) (offE eo (13))], errT, false⟩), (13, some ⟨.agg [.err 131 (14) (offE eo (14))], errT, false⟩), (14, some ⟨.agg [.err 131 (15) (offE eo (15))], errT, false⟩), (15, some ⟨.agg [.err 131 (16) (offE eo (16))], errT, false⟩), (16, some ⟨.agg [.err 131 (17) (offE eo (17))], errT, false⟩), (17, some ⟨.agg [.err 131 (18) (offE eo (18))], errT, false⟩), (18, some ⟨.agg [.err 131 (19) (offE eo (19))], errT, false⟩), (19, some ⟨.agg [.err 131 (20) (offE eo (20))], errT, false⟩), (401, some ⟨.agg [], errT, false⟩), (402, some ⟨.agg [], errT, false⟩), (403, some ⟨.agg [], errT, false⟩), (404, some ⟨.agg [], errT, false⟩), (405, some ⟨.agg [], errT, false⟩), (406, some ⟨.agg [], errT, false⟩), (407, some ⟨.agg [], errT, false⟩), (408, some ⟨.agg [], errT, false⟩), (409, some ⟨.agg [], errT, false⟩), (410, some ⟨.agg [], errT, false⟩), (411, some ⟨.agg [], errT, false⟩), (412, some ⟨.agg [], errT, false⟩), (413, some ⟨.agg [], errT, false⟩), (414, some ⟨.agg [], errT, false⟩), (415, some ⟨.agg [], errT, false⟩), (416, some ⟨.agg [], errT, false⟩), (417, some ⟨.agg [], errT, false⟩), (418, some ⟨.agg [], errT, false⟩), (419, some ⟨.agg [], errT, false⟩), (420, some ⟨.agg [], errT, false⟩)] (.i64 (e : Int)) [] := by
  rcases he with rfl | rfl | rfl
  · exact code_0 eo hd
  · exact code_1 eo hd
  · exact code_20 eo hd
theorem chkF_of (k : Int) (us : List UInt32) (ss : List (List UInt8)) (ns : List (List (List UInt8))) (bs : List Bool) : chkF k us ss ns bs = 0 ∨ chkF k us ss ns bs = 1 ∨ chkF k us ss ns bs = 20 := by
  unfold chkF
  split
  · split
    · exact .inl rfl
    · exact .inr (.inl rfl)
  · exact .inr (.inr rfl)
def cpOk (fs : List UInt8) : Bool := !(decide (0 ≤ Lib.indexByte fs 99)) || decide (0 < cntL [115, 99, 114] fs)
theorem cp_ok (k : Int) : cpOk (fieldsOf k) = true := by
  unfold fieldsOf
  cases h : kAt k 29 with
  | none => decide
  | some n =>
    show cpOk (kFields.getD n []) = true
    rcases Nat.lt_or_ge n 29 with hn | hn
    · exact (show ∀ n, n < 29 → cpOk (kFields.getD n []) = true by decide) n hn
    · rw [show kFields.getD n [] = [] by rw [List.getD_eq_getElem?_getD, List.getElem?_eq_none (by exact hn)]; rfl]; decide
theorem cnt_parts {us : List UInt32} {ss : List (List UInt8)} {ns : List (List (List UInt8))} {bs : List Bool} {fs : List UInt8} (h : cntB us ss ns bs fs = true) : us.length = cntL [117] fs ∧ ss.length = cntL [115, 99, 114] fs ∧ ns.length = cntL [110] fs ∧ bs.length = cntL [98] fs := by
  simp only [cntB, Bool.and_eq_true, decide_eq_true_eq] at h
  exact ⟨h.1, h.2.1, h.2.2.1, h.2.2.2⟩
theorem hs_of (k : Int) (us : List UInt32) (ss : List (List UInt8)) (ns : List (List (List UInt8))) (bs : List Bool) : isKind k = true → cntB us ss ns bs (fieldsOf k) = true → 0 ≤ Lib.indexByte (fieldsOf k) 99 → 0 < ss.length := by
  intro _ h h0
  have h1 := cp_ok k
  rw [(cnt_parts h).2.1]
  simp only [cpOk, decide_eq_true h0, Bool.not_true, Bool.false_or, decide_eq_true_eq] at h1
  exact h1
theorem chk_good {k : Int} {us : List UInt32} {ss : List (List UInt8)} {ns : List (List (List UInt8))} {bs : List Bool} (h : chkF k us ss ns bs = 0) : isKind k = true ∧ cntB us ss ns bs (fieldsOf k) = true ∧ cookB ss (fieldsOf k) = true ∧ namB ns = true := by
  unfold chkF at h
  split at h
  · rename_i h1
    split at h
    · rename_i h2
      simp only [Bool.and_eq_true] at h2
      exact ⟨h1, h2.1, h2.2.1, h2.2.2⟩
    · cases h
  · cases h
set_option maxRecDepth 100000 in
theorem messageBack_bad (k : Int) (us : List UInt32) (ss : List (List UInt8)) (ns : List (List (List UInt8))) (bs : List Bool) (us2 : List UInt32) (ss2 : List (List UInt8)) (ns2 : List (List (List UInt8))) (bs2 : List Bool) (hfew : Meets Tryd.prog 5 [msgF k us ss ns bs] [] (msgF k us2 ss2 ns2 bs2) []) (hul : us2.length ≤ 9) (hsl : ss2.length ≤ 9) (hnl : ns2.length ≤ 14) (hbl : bs2.length ≤ 9) (hss : ∀ i, (ss2.getD i []).length ≤ 100) (hjj : ∀ i, (joinB (ns2.getD i [])).length ≤ 430) (_hsm : ∀ i, sumB (ns2.getD i []) ≤ 430) (hnn : ∀ i, (ns2.getD i []).length ≤ 6) (hnj : ∀ i j, ((ns2.getD i []).getD j []).length ≤ 70) (hk : chkF k us2 ss2 ns2 bs2 ≠ 0) (eo : Nat → Nat × Nat) (hd : ∀ i j, i < 20 → j < 20 → i ≠ j → eo i ≠ eo j) : Meets Tryd.prog 3 [.agg [.i64 k, .fsl (List.map AV.u32 us) (us).length 1, .dsl ss, .fsl (List.map AV.dsl ns) (ns).length 1, .fsl (List.map AV.bool bs) (bs).length 1]] [(0, some ⟨.agg [.err 131 (1) (offE eo (1))], errT, false⟩), (1, some ⟨.agg [.err 131 (2) (offE eo (2))], errT, false⟩), (2, some ⟨.agg [.err 131 (3) (offE eo (3))], errT, false⟩), (3, some ⟨.agg [.err 131 (4) (offE eo (4))], errT, false⟩), (4, some ⟨.agg [.err 131 (5) (offE eo (5))], errT, false⟩), (5, some ⟨.agg [.err 131 (6) (offE eo (6))], errT, false⟩), (6, some ⟨.agg [.err 131 (7) (offE eo (7))], errT, false⟩), (7, some ⟨.agg [.err 131 (8) (offE eo (8))], errT, false⟩), (8, some ⟨.agg [.err 131 (9) (offE eo (9))], errT, false⟩), (9, some ⟨.agg [.err 131 (10) (offE eo (10))], errT, false⟩), (10, some ⟨.agg [.err 131 (11) (offE eo (11))], errT, false⟩), (11, some ⟨.agg [.err 131 (12) (offE eo (12))], errT, false⟩), (12, some ⟨.agg [.err 131 (13) (offE eo (13))], errT, false⟩), (13, some ⟨.agg [.err 131 (14) (offE eo (14))], errT, false⟩), (14, some ⟨.agg [.err 131 (15) (offE eo (15))], errT, false⟩), (15, some ⟨.agg [.err 131 (16) (offE eo (16))], errT, false⟩), (16, some ⟨.agg [.err 131 (17) (offE eo (17))], errT, false⟩), (17, some ⟨.agg [.err 131 (18) (offE eo (18))], errT, false⟩), (18, some ⟨.agg [.err 131 (19) (offE eo (19))], errT, false⟩), (19, some ⟨.agg [.err 131 (20) (offE eo (20))], errT, false⟩), (401, some ⟨.agg [], errT, false⟩), (402, some ⟨.agg [], errT, false⟩), (403, some ⟨.agg [], errT, false⟩), (404, some ⟨.agg [], errT, false⟩), (405, some ⟨.agg [], errT, false⟩), (406, some ⟨.agg [], errT, false⟩), (407, some ⟨.agg [], errT, false⟩), (408, some ⟨.agg [], errT, false⟩), (409, some ⟨.agg [], errT, false⟩), (410, some ⟨.agg [], errT, false⟩), (411, some ⟨.agg [], errT, false⟩), (412, some ⟨.agg [], errT, false⟩), (413, some ⟨.agg [], errT, false⟩), (414, some ⟨.agg [], errT, false⟩), (415, some ⟨.agg [], errT, false⟩), (416, some ⟨.agg [], errT, false⟩), (417, some ⟨.agg [], errT, false⟩), (418, some ⟨.agg [], errT, false⟩), (419, some ⟨.agg [], errT, false⟩), (420, some ⟨.agg [], errT, false⟩), (20, some ⟨.agg kindCells, errT, false⟩)] (.bool true) [] := by
 refine meets_of_ev (nt := 43) Tryd.func3 rfl rfl (Nat.le_of_ble_eq_true rfl) ?_
 refine .seq ?_
 refine .region ?_
 refine .a (op_boxRow rfl rfl) trivial rfl ?_
 refine .q (op_assign rfl) trivial rfl ?_
 refine .nil ?_
 show Ev _ _ _ _ _
 refine .seq ?_
 refine .seq ?_
 refine .region ?_
 refine .q (op_call (U := []) [] [] (awake10_ev eo) Tryd.func4 (by kernel_rfl) rfl rfl rfl (trivial) (⟨⟨_, _, rfl, rfl, rfl, rfl, (fun h => by cases h), rfl⟩, ⟨_, _, rfl, rfl, rfl, rfl, (fun h => by cases h), rfl⟩, ⟨_, _, rfl, rfl, rfl, rfl, (fun h => by cases h), rfl⟩, ⟨_, _, rfl, rfl, rfl, rfl, (fun h => by cases h), rfl⟩, trivial⟩) (trivial) (⟨(fun h => by cases h), (fun h => by cases h), (fun h => by cases h), (fun h => by cases h), trivial⟩) rfl) trivial rfl ?_
 refine .q (op_notB rfl) trivial rfl ?_
 refine .nil ?_
 show Ev _ _ _ _ _
 refine .cond_false rfl (rfl) ?_
 refine .skip ?_
 show Ev _ _ _ _ _
 refine .seq ?_
 refine .region ?_
 refine .q (op_loadRow Tryd.underlying27 rfl (by kernel_rfl) rfl rfl rfl (rfl)) trivial rfl ?_
 refine .q (op_call (U := []) [] [] (hfew) Tryd.func5 (by kernel_rfl) rfl rfl rfl (⟨⟨_, rfl, rfl, rfl⟩, trivial⟩) (trivial) (trivial) (trivial) rfl) trivial rfl ?_
 refine .w (op_storeRow (by kernel_rfl) rfl rfl rfl rfl rfl (rfl) (rfl)) trivial rfl ?_
 refine .nil ?_
 show Ev _ _ _ _ _
 refine .seq ?_
 refine .region ?_
 refine .q (op_loadRow Tryd.underlying27 rfl (by kernel_rfl) rfl rfl rfl (rfl)) trivial rfl ?_
 refine .a (op_allocRow zero30 rel_zero30 rfl) trivial rfl ?_
 refine .w (op_storeRow (by kernel_rfl) rfl rfl rfl rfl rfl (rfl) (rfl)) trivial rfl ?_
 refine .nil ?_
 show Ev _ _ _ _ _
 refine .seq ?_
 refine .seq ?_
 refine .drawn [[], [0], [0, 1], [], [0, 1, 2, 3], [0, 1, 2, 3, 4], [0, 1, 2, 3, 4, 5], [0, 1, 2, 3, 4, 5, 6], [0, 1, 2, 3, 4, 5, 6, 7], [0, 1, 2, 3, 4, 5, 6], [0, 1, 2, 3, 4, 5, 6, 7, 8, 9], [0, 1, 2, 3, 4, 5, 6, 7, 8, 9, 10], [0, 1, 2, 3, 4, 5, 6, 7, 8, 9, 10, 11]] [0, 1, 2, 3, 4, 7, 8, 9, 10] [] (by kernel_rfl) (by kernel_rfl) rfl ?_
 show DK _ [0, 1, 2, 3, 4, 5, 6, 7, 8, 9, 10, 11, 12] _ _ _
 refine .q rfl (op_loadRow Tryd.underlying30 rfl (by kernel_rfl) rfl rfl rfl (rfl)) trivial ?_
 refine .q rfl (op_call (U := []) [] [] (check_any k us2 ss2 ns2 bs2 (hs_of k us2 ss2 ns2 bs2) (Nat.le_trans hsl (by decide)) (fun i => Nat.le_trans (hss i) (by decide)) (fun i => Nat.le_trans (hjj i) (by decide)) (Nat.le_trans hnl (by decide)) (fun i => Nat.le_trans (hnn i) (by decide)) (fun i j => Nat.le_trans (hnj i j) (by decide)) eo) Tryd.func7 (by kernel_rfl) rfl rfl rfl (⟨⟨_, rfl, rfl, rfl⟩, trivial⟩) (⟨⟨_, _, rfl, rfl, rfl, rfl, (fun h => by cases h), rfl⟩, ⟨_, _, rfl, rfl, rfl, rfl, (fun h => by cases h), rfl⟩, ⟨_, _, rfl, rfl, rfl, rfl, (fun h => by cases h), rfl⟩, ⟨_, _, rfl, rfl, rfl, rfl, (fun h => by cases h), rfl⟩, trivial⟩) (trivial) (⟨(fun h => by cases h), (fun h => by cases h), (fun h => by cases h), (fun h => by cases h), trivial⟩) rfl) trivial ?_
 refine .q rfl (op_call (U := []) [] [] (codeB_ev eo hd (chkF k us2 ss2 ns2 bs2) (chkF_of k us2 ss2 ns2 bs2)) Tryd.func6 (by kernel_rfl) rfl rfl rfl (⟨⟨_, rfl, rfl, rfl⟩, trivial⟩) (⟨⟨_, _, rfl, rfl, rfl, rfl, (fun h => by cases h), rfl⟩, ⟨_, _, rfl, rfl, rfl, rfl, (fun h => by cases h), rfl⟩, ⟨_, _, rfl, rfl, rfl, rfl, (fun h => by cases h), rfl⟩, ⟨_, _, rfl, rfl, rfl, rfl, (fun h => by cases h), rfl⟩, ⟨_, _, rfl, rfl, rfl, rfl, (fun h => by cases h), rfl⟩, ⟨_, _, rfl, rfl, rfl, rfl, (fun h => by cases h), rfl⟩, ⟨_, _, rfl, rfl, rfl, rfl, (fun h => by cases h), rfl⟩, ⟨_, _, rfl, rfl, rfl, rfl, (fun h => by cases h), rfl⟩, ⟨_, _, rfl, rfl, rfl, rfl, (fun h => by cases h), rfl⟩, ⟨_, _, rfl, rfl, rfl, rfl, (fun h => by cases h), rfl⟩, ⟨_, _, rfl, rfl, rfl, rfl, (fun h => by cases h), rfl⟩, ⟨_, _, rfl, rfl, rfl, rfl, (fun h => by cases h), rfl⟩, ⟨_, _, rfl, rfl, rfl, rfl, (fun h => by cases h), rfl⟩, ⟨_, _, rfl, rfl, rfl, rfl, (fun h => by cases h), rfl⟩, ⟨_, _, rfl, rfl, rfl, rfl, (fun h => by cases h), rfl⟩, ⟨_, _, rfl, rfl, rfl, rfl, (fun h => by cases h), rfl⟩, ⟨_, _, rfl, rfl, rfl, rfl, (fun h => by cases h), rfl⟩, ⟨_, _, rfl, rfl, rfl, rfl, (fun h => by cases h), rfl⟩, ⟨_, _, rfl, rfl, rfl, rfl, (fun h => by cases h), rfl⟩, ⟨_, _, rfl, rfl, rfl, rfl, (fun h => by cases h), rfl⟩, ⟨_, _, rfl, rfl, rfl, rfl, (fun h => by cases h), rfl⟩, ⟨_, _, rfl, rfl, rfl, rfl, (fun h => by cases h), rfl⟩, ⟨_, _, rfl, rfl, rfl, rfl, (fun h => by cases h), rfl⟩, ⟨_, _, rfl, rfl, rfl, rfl, (fun h => by cases h), rfl⟩, ⟨_, _, rfl, rfl, rfl, rfl, (fun h => by cases h), rfl⟩, ⟨_, _, rfl, rfl, rfl, rfl, (fun h => by cases h), rfl⟩, ⟨_, _, rfl, rfl, rfl, rfl, (fun h => by cases h), rfl⟩, ⟨_, _, rfl, rfl, rfl, rfl, (fun h => by cases h), rfl⟩, ⟨_, _, rfl, rfl, rfl, rfl, (fun h => by cases h), rfl⟩, ⟨_, _, rfl, rfl, rfl, rfl, (fun h => by cases h), rfl⟩, ⟨_, _, rfl, rfl, rfl, rfl, (fun h => by cases h), rfl⟩, ⟨_, _, rfl, rfl, rfl, rfl, (fun h => by cases h), rfl⟩, ⟨_, _, rfl, rfl, rfl, rfl, (fun h => by cases h), rfl⟩, ⟨_, _, rfl, rfl, rfl, rfl, (fun h => by cases h), rfl⟩, ⟨_, _, rfl, rfl, rfl, rfl, (fun h => by cases h), rfl⟩, ⟨_, _, rfl, rfl, rfl, rfl, (fun h => by cases h), rfl⟩, ⟨_, _, rfl, rfl, rfl, rfl, (fun h => by cases h), rfl⟩, ⟨_, _, rfl, rfl, rfl, rfl, (fun h => by cases h), rfl⟩, ⟨_, _, rfl, rfl, rfl, rfl, (fun h => by cases h), rfl⟩, ⟨_, _, rfl, rfl, rfl, rfl, (fun h => by cases h), rfl⟩, trivial⟩) (trivial) (⟨(fun h => by cases h), (fun h => by cases h), (fun h => by cases h), (fun h => by cases h), (fun h => by cases h), (fun h => by cases h), (fun h => by cases h), (fun h => by cases h), (fun h => by cases h), (fun h => by cases h), (fun h => by cases h), (fun h => by cases h), (fun h => by cases h), (fun h => by cases h), (fun h => by cases h), (fun h => by cases h), (fun h => by cases h), (fun h => by cases h), (fun h => by cases h), (fun h => by cases h), (fun h => by cases h), (fun h => by cases h), (fun h => by cases h), (fun h => by cases h), (fun h => by cases h), (fun h => by cases h), (fun h => by cases h), (fun h => by cases h), (fun h => by cases h), (fun h => by cases h), (fun h => by cases h), (fun h => by cases h), (fun h => by cases h), (fun h => by cases h), (fun h => by cases h), (fun h => by cases h), (fun h => by cases h), (fun h => by cases h), (fun h => by cases h), (fun h => by cases h), trivial⟩) rfl) trivial ?_
 refine .q rfl (op_loadRow Tryd.underlying27 rfl (by kernel_rfl) rfl rfl rfl (rfl)) trivial ?_
 refine .q rfl (op_call (U := []) [] [] (rcheck_any k us2 ss2 ns2 bs2 (fun i => Nat.le_trans (hss i) (by decide)) (fun i => Nat.le_trans (hjj i) (by decide)) (Nat.le_trans hnl (by decide)) (fun i => Nat.le_trans (hnn i) (by decide)) (fun i j => Nat.le_trans (hnj i j) (by decide)) (Nat.le_trans hul (by decide)) (Nat.le_trans hsl (by decide)) (Nat.le_trans hbl (by decide))) Tryd.func8 (by kernel_rfl) rfl rfl rfl (⟨⟨_, rfl, rfl, rfl⟩, trivial⟩) (trivial) (trivial) (trivial) rfl) trivial ?_
 refine .q rfl (op_cmpI rfl rfl rfl) trivial ?_
 refine .q rfl (op_move rfl) trivial ?_
 refine .know (b' := false) (bne_self_eq_false _) ?_
 refine .q rfl (op_loadRow Tryd.underlying30 rfl (by kernel_rfl) rfl rfl rfl (rfl)) ⟨_, rfl, rfl⟩ ?_
 refine .q rfl (op_call (U := []) [] [] (mbytes_no k us2 ss2 ns2 bs2 (hs_of k us2 ss2 ns2 bs2) (Nat.le_trans hsl (by decide)) (fun i => Nat.le_trans (hss i) (by decide)) (fun i => Nat.le_trans (hjj i) (by decide)) (Nat.le_trans hnl (by decide)) (fun i => Nat.le_trans (hnn i) (by decide)) (fun i j => Nat.le_trans (hnj i j) (by decide)) hk eo) Tryd.func9 (by kernel_rfl) rfl rfl rfl (⟨⟨_, rfl, rfl, rfl⟩, trivial⟩) (⟨⟨_, _, rfl, rfl, rfl, rfl, (fun h => by cases h), rfl⟩, ⟨_, _, rfl, rfl, rfl, rfl, (fun h => by cases h), rfl⟩, ⟨_, _, rfl, rfl, rfl, rfl, (fun h => by cases h), rfl⟩, ⟨_, _, rfl, rfl, rfl, rfl, (fun h => by cases h), rfl⟩, trivial⟩) (trivial) (⟨(fun h => by cases h), (fun h => by cases h), (fun h => by cases h), (fun h => by cases h), trivial⟩) rfl) ⟨_, rfl, rfl⟩ ?_
 refine .q rfl (op_loadRow Tryd.underlying27 rfl (by kernel_rfl) rfl rfl rfl (rfl)) ⟨_, rfl, rfl⟩ ?_
 refine .q rfl (op_call (U := []) [] [] (rbytes_no k us2 ss2 ns2 bs2 (fun i => Nat.le_trans (hss i) (by decide)) (fun i => Nat.le_trans (hjj i) (by decide)) (Nat.le_trans hnl (by decide)) (fun i => Nat.le_trans (hnn i) (by decide)) (fun i j => Nat.le_trans (hnj i j) (by decide)) (Nat.le_trans hul (by decide)) (Nat.le_trans hsl (by decide)) (Nat.le_trans hbl (by decide)) hk) Tryd.func10 (by kernel_rfl) rfl rfl rfl (⟨⟨_, rfl, rfl, rfl⟩, trivial⟩) (trivial) (trivial) (trivial) rfl) ⟨_, rfl, rfl⟩ ?_
 refine .q rfl (op_eqS rfl rfl rfl) ⟨_, rfl, rfl⟩ ?_
 refine .q rfl (op_pick_false rfl rfl rfl) trivial ?_
 refine .nil ?_
 show Ev _ _ _ _ _
 refine .cond_false rfl (bne_self_eq_false _) ?_
 refine .skip ?_
 show Ev _ _ _ _ _
 refine .seq ?_
 refine .seq ?_
 refine .region ?_
 refine .q (op_loadRow Tryd.underlying27 rfl (by kernel_rfl) rfl rfl rfl (rfl)) trivial rfl ?_
 refine .q (op_call (U := []) [] [] (rcheck_any k us2 ss2 ns2 bs2 (fun i => Nat.le_trans (hss i) (by decide)) (fun i => Nat.le_trans (hjj i) (by decide)) (Nat.le_trans hnl (by decide)) (fun i => Nat.le_trans (hnn i) (by decide)) (fun i j => Nat.le_trans (hnj i j) (by decide)) (Nat.le_trans hul (by decide)) (Nat.le_trans hsl (by decide)) (Nat.le_trans hbl (by decide))) Tryd.func8 (by kernel_rfl) rfl rfl rfl (⟨⟨_, rfl, rfl, rfl⟩, trivial⟩) (trivial) (trivial) (trivial) rfl) trivial rfl ?_
 refine .q (op_cmpI rfl rfl rfl) trivial rfl ?_
 refine .nil ?_
 show Ev _ _ _ _ _
 refine .cond_true rfl (bne_iff_ne.2 (by omega)) ?_
 refine .seq ?_
 refine .region ?_
 refine .q (op_loadRow Tryd.underlying30 rfl (by kernel_rfl) rfl rfl rfl (rfl)) trivial rfl ?_
 refine .q (op_call (U := []) [] [] (mbytes_no k us2 ss2 ns2 bs2 (hs_of k us2 ss2 ns2 bs2) (Nat.le_trans hsl (by decide)) (fun i => Nat.le_trans (hss i) (by decide)) (fun i => Nat.le_trans (hjj i) (by decide)) (Nat.le_trans hnl (by decide)) (fun i => Nat.le_trans (hnn i) (by decide)) (fun i j => Nat.le_trans (hnj i j) (by decide)) hk eo) Tryd.func9 (by kernel_rfl) rfl rfl rfl (⟨⟨_, rfl, rfl, rfl⟩, trivial⟩) (⟨⟨_, _, rfl, rfl, rfl, rfl, (fun h => by cases h), rfl⟩, ⟨_, _, rfl, rfl, rfl, rfl, (fun h => by cases h), rfl⟩, ⟨_, _, rfl, rfl, rfl, rfl, (fun h => by cases h), rfl⟩, ⟨_, _, rfl, rfl, rfl, rfl, (fun h => by cases h), rfl⟩, trivial⟩) (trivial) (⟨(fun h => by cases h), (fun h => by cases h), (fun h => by cases h), (fun h => by cases h), trivial⟩) rfl) trivial rfl ?_
 refine .q (op_eqS rfl rfl rfl) trivial rfl ?_
 refine .q (op_assign rfl) trivial rfl ?_
 refine .nil ?_
 show Ev _ _ _ _ _
 refine .ret ?_
 show RetOk _ _ _ _ _ _ _
 exact ret1v rfl (.inl rfl) rfl rfl trivial
set_option maxRecDepth 100000 in
theorem messageBack_ok (k : Int) (us : List UInt32) (ss : List (List UInt8)) (ns : List (List (List UInt8))) (bs : List Bool) (us2 : List UInt32) (ss2 : List (List UInt8)) (ns2 : List (List (List UInt8))) (bs2 : List Bool) (hfew : Meets Tryd.prog 5 [msgF k us ss ns bs] [] (msgF k us2 ss2 ns2 bs2) []) (hul : us2.length ≤ 9) (hsl : ss2.length ≤ 9) (hnl : ns2.length ≤ 14) (hbl : bs2.length ≤ 9) (hss : ∀ i, (ss2.getD i []).length ≤ 100) (hjj : ∀ i, (joinB (ns2.getD i [])).length ≤ 430) (hsm : ∀ i, sumB (ns2.getD i []) ≤ 430) (hnn : ∀ i, (ns2.getD i []).length ≤ 6) (hnj : ∀ i j, ((ns2.getD i []).getD j []).length ≤ 70) (hk : chkF k us2 ss2 ns2 bs2 = 0) (eo : Nat → Nat × Nat) (hd : ∀ i j, i < 20 → j < 20 → i ≠ j → eo i ≠ eo j) : Meets Tryd.prog 3 [.agg [.i64 k, .fsl (List.map AV.u32 us) (us).length 1, .dsl ss, .fsl (List.map AV.dsl ns) (ns).length 1, .fsl (List.map AV.bool bs) (bs).length 1]] [(0, some ⟨.agg [.err 131 (1) (offE eo (1))], errT, false⟩), (1, some ⟨.agg [.err 131 (2) (offE eo (2))], errT, false⟩), (2, some ⟨.agg [.err 131 (3) (offE eo (3))], errT, false⟩), (3, some ⟨.agg [.err 131 (4) (offE eo (4))], errT, false⟩), (4, some ⟨.agg [.err 131 (5) (offE eo (5))], errT, false⟩), (5, some ⟨.agg [.err 131 (6) (offE eo (6))], errT, false⟩), (6, some ⟨.agg [.err 131 (7) (offE eo (7))], errT, false⟩), (7, some ⟨.agg [.err 131 (8) (offE eo (8))], errT, false⟩), (8, some ⟨.agg [.err 131 (9) (offE eo (9))], errT, false⟩), (9, some ⟨.agg [.err 131 (10) (offE eo (10))], errT, false⟩), (10, some ⟨.agg [.err 131 (11) (offE eo (11))], errT, false⟩), (11, some ⟨.agg [.err 131 (12) (offE eo (12))], errT, false⟩), (12, some ⟨.agg [.err 131 (13) (offE eo (13))], errT, false⟩), (13, some ⟨.agg [.err 131 (14) (offE eo (14))], errT, false⟩), (14, some ⟨.agg [.err 131 (15) (offE eo (15))], errT, false⟩), (15, some ⟨.agg [.err 131 (16) (offE eo (16))], errT, false⟩), (16, some ⟨.agg [.err 131 (17) (offE eo (17))], errT, false⟩), (17, some ⟨.agg [.err 131 (18) (offE eo (18))], errT, false⟩), (18, some ⟨.agg [.err 131 (19) (offE eo (19))], errT, false⟩), (19, some ⟨.agg [.err 131 (20) (offE eo (20))], errT, false⟩), (401, some ⟨.agg [], errT, false⟩), (402, some ⟨.agg [], errT, false⟩), (403, some ⟨.agg [], errT, false⟩), (404, some ⟨.agg [], errT, false⟩), (405, some ⟨.agg [], errT, false⟩), (406, some ⟨.agg [], errT, false⟩), (407, some ⟨.agg [], errT, false⟩), (408, some ⟨.agg [], errT, false⟩), (409, some ⟨.agg [], errT, false⟩), (410, some ⟨.agg [], errT, false⟩), (411, some ⟨.agg [], errT, false⟩), (412, some ⟨.agg [], errT, false⟩), (413, some ⟨.agg [], errT, false⟩), (414, some ⟨.agg [], errT, false⟩), (415, some ⟨.agg [], errT, false⟩), (416, some ⟨.agg [], errT, false⟩), (417, some ⟨.agg [], errT, false⟩), (418, some ⟨.agg [], errT, false⟩), (419, some ⟨.agg [], errT, false⟩), (420, some ⟨.agg [], errT, false⟩), (20, some ⟨.agg kindCells, errT, false⟩)] (.bool true) [] := by
 obtain ⟨hkk, hc, hck, hnam⟩ := chk_good hk
 obtain ⟨hcu, hcs, hcn, hcb⟩ := cnt_parts hc
 have hnU := hcu.trans (cn_U k).symm
 have hnS := hcs.trans (cn_S k).symm
 have hnN := hcn.trans (cn_N k).symm
 have hnB := hcb.trans (cn_B k).symm
 have hc16 : ∀ j, j < (fieldsOf k).length → (fieldsOf k).getD j 0 = 99 → (ss2.getD (cn pS (fieldsOf k) j) []).length = 16 := fun j h1 h2 => by
  rw [ck_first h1 h2]
  simp only [cookB, decide_eq_true (ck_has h1 h2), Bool.true_and, Bool.not_eq_true', bne_eq_false_iff_eq] at hck
  omega
 obtain ⟨s, es, h0, hK, hR⟩ := parse_back k us2 ss2 ns2 bs2 hnU hnS hnN hnB hc16 (fun i => Nat.le_trans (hss i) (by decide)) (fun i hi => alls_nth hnam hi) (fun i => Nat.le_trans (hjj i) (by decide)) hkk
 subst es
 have hlen : (encN (fieldsOf k) (EP.mk us2 ss2 ns2 bs2 [(ofI8 k)]) (fieldsOf k).length).w.length ≤ 10000 := by
  have h1 := enc_len k us2 ss2 ns2 bs2 hss hjj (fieldsOf k).length (Nat.le_refl _)
  have h2 := fields_13 k
  omega
 refine meets_of_ev (nt := 43) Tryd.func3 rfl rfl (Nat.le_of_ble_eq_true rfl) ?_
 refine .seq ?_
 refine .region ?_
 refine .a (op_boxRow rfl rfl) trivial rfl ?_
 refine .q (op_assign rfl) trivial rfl ?_
 refine .nil ?_
 show Ev _ _ _ _ _
 refine .seq ?_
 refine .seq ?_
 refine .region ?_
 refine .q (op_call (U := []) [] [] (awake10_ev eo) Tryd.func4 (by kernel_rfl) rfl rfl rfl (trivial) (⟨⟨_, _, rfl, rfl, rfl, rfl, (fun h => by cases h), rfl⟩, ⟨_, _, rfl, rfl, rfl, rfl, (fun h => by cases h), rfl⟩, ⟨_, _, rfl, rfl, rfl, rfl, (fun h => by cases h), rfl⟩, ⟨_, _, rfl, rfl, rfl, rfl, (fun h => by cases h), rfl⟩, trivial⟩) (trivial) (⟨(fun h => by cases h), (fun h => by cases h), (fun h => by cases h), (fun h => by cases h), trivial⟩) rfl) trivial rfl ?_
 refine .q (op_notB rfl) trivial rfl ?_
 refine .nil ?_
 show Ev _ _ _ _ _
 refine .cond_false rfl (rfl) ?_
 refine .skip ?_
 show Ev _ _ _ _ _
 refine .seq ?_
 refine .region ?_
 refine .q (op_loadRow Tryd.underlying27 rfl (by kernel_rfl) rfl rfl rfl (rfl)) trivial rfl ?_
 refine .q (op_call (U := []) [] [] (hfew) Tryd.func5 (by kernel_rfl) rfl rfl rfl (⟨⟨_, rfl, rfl, rfl⟩, trivial⟩) (trivial) (trivial) (trivial) rfl) trivial rfl ?_
 refine .w (op_storeRow (by kernel_rfl) rfl rfl rfl rfl rfl (rfl) (rfl)) trivial rfl ?_
 refine .nil ?_
 show Ev _ _ _ _ _
 refine .seq ?_
 refine .region ?_
 refine .q (op_loadRow Tryd.underlying27 rfl (by kernel_rfl) rfl rfl rfl (rfl)) trivial rfl ?_
 refine .a (op_allocRow zero30 rel_zero30 rfl) trivial rfl ?_
 refine .w (op_storeRow (by kernel_rfl) rfl rfl rfl rfl rfl (rfl) (rfl)) trivial rfl ?_
 refine .nil ?_
 show Ev _ _ _ _ _
 refine .seq ?_
 refine .seq ?_
 refine .drawn [[], [0], [0, 1], [], [0, 1, 2, 3], [0, 1, 2, 3, 4], [0, 1, 2, 3, 4, 5], [0, 1, 2, 3, 4, 5, 6], [0, 1, 2, 3, 4, 5, 6, 7], [0, 1, 2, 3, 4, 5, 6], [0, 1, 2, 3, 4, 5, 6, 7, 8, 9], [0, 1, 2, 3, 4, 5, 6, 7, 8, 9, 10], [0, 1, 2, 3, 4, 5, 6, 7, 8, 9, 10, 11]] [0, 1, 2, 3, 4, 7, 8, 9, 10] [] (by kernel_rfl) (by kernel_rfl) rfl ?_
 show DK _ [0, 1, 2, 3, 4, 5, 6, 7, 8, 9, 10, 11, 12] _ _ _
 refine .q rfl (op_loadRow Tryd.underlying30 rfl (by kernel_rfl) rfl rfl rfl (rfl)) trivial ?_
 refine .q rfl (op_call (U := []) [] [] (check_any k us2 ss2 ns2 bs2 (hs_of k us2 ss2 ns2 bs2) (Nat.le_trans hsl (by decide)) (fun i => Nat.le_trans (hss i) (by decide)) (fun i => Nat.le_trans (hjj i) (by decide)) (Nat.le_trans hnl (by decide)) (fun i => Nat.le_trans (hnn i) (by decide)) (fun i j => Nat.le_trans (hnj i j) (by decide)) eo) Tryd.func7 (by kernel_rfl) rfl rfl rfl (⟨⟨_, rfl, rfl, rfl⟩, trivial⟩) (⟨⟨_, _, rfl, rfl, rfl, rfl, (fun h => by cases h), rfl⟩, ⟨_, _, rfl, rfl, rfl, rfl, (fun h => by cases h), rfl⟩, ⟨_, _, rfl, rfl, rfl, rfl, (fun h => by cases h), rfl⟩, ⟨_, _, rfl, rfl, rfl, rfl, (fun h => by cases h), rfl⟩, trivial⟩) (trivial) (⟨(fun h => by cases h), (fun h => by cases h), (fun h => by cases h), (fun h => by cases h), trivial⟩) rfl) trivial ?_
 refine .q rfl (op_call (U := []) [] [] (codeB_ev eo hd (chkF k us2 ss2 ns2 bs2) (chkF_of k us2 ss2 ns2 bs2)) Tryd.func6 (by kernel_rfl) rfl rfl rfl (⟨⟨_, rfl, rfl, rfl⟩, trivial⟩) (⟨⟨_, _, rfl, rfl, rfl, rfl, (fun h => by cases h), rfl⟩, ⟨_, _, rfl, rfl, rfl, rfl, (fun h => by cases h), rfl⟩, ⟨_, _, rfl, rfl, rfl, rfl, (fun h => by cases h), rfl⟩, ⟨_, _, rfl, rfl, rfl, rfl, (fun h => by cases h), rfl⟩, ⟨_, _, rfl, rfl, rfl, rfl, (fun h => by cases h), rfl⟩, ⟨_, _, rfl, rfl, rfl, rfl, (fun h => by cases h), rfl⟩, ⟨_, _, rfl, rfl, rfl, rfl, (fun h => by cases h), rfl⟩, ⟨_, _, rfl, rfl, rfl, rfl, (fun h => by cases h), rfl⟩, ⟨_, _, rfl, rfl, rfl, rfl, (fun h => by cases h), rfl⟩, ⟨_, _, rfl, rfl, rfl, rfl, (fun h => by cases h), rfl⟩, ⟨_, _, rfl, rfl, rfl, rfl, (fun h => by cases h), rfl⟩, ⟨_, _, rfl, rfl, rfl, rfl, (fun h => by cases h), rfl⟩, ⟨_, _, rfl, rfl, rfl, rfl, (fun h => by cases h), rfl⟩, ⟨_, _, rfl, rfl, rfl, rfl, (fun h => by cases h), rfl⟩, ⟨_, _, rfl, rfl, rfl, rfl, (fun h => by cases h), rfl⟩, ⟨_, _, rfl, rfl, rfl, rfl, (fun h => by cases h), rfl⟩, ⟨_, _, rfl, rfl, rfl, rfl, (fun h => by cases h), rfl⟩, ⟨_, _, rfl, rfl, rfl, rfl, (fun h => by cases h), rfl⟩, ⟨_, _, rfl, rfl, rfl, rfl, (fun h => by cases h), rfl⟩, ⟨_, _, rfl, rfl, rfl, rfl, (fun h => by cases h), rfl⟩, ⟨_, _, rfl, rfl, rfl, rfl, (fun h => by cases h), rfl⟩, ⟨_, _, rfl, rfl, rfl, rfl, (fun h => by cases h), rfl⟩, ⟨_, _, rfl, rfl, rfl, rfl, (fun h => by cases h), rfl⟩, ⟨_, _, rfl, rfl, rfl, rfl, (fun h => by cases h), rfl⟩, ⟨_, _, rfl, rfl, rfl, rfl, (fun h => by cases h), rfl⟩, ⟨_, _, rfl, rfl, rfl, rfl, (fun h => by cases h), rfl⟩, ⟨_, _, rfl, rfl, rfl, rfl, (fun h => by cases h), rfl⟩, ⟨_, _, rfl, rfl, rfl, rfl, (fun h => by cases h), rfl⟩, ⟨_, _, rfl, rfl, rfl, rfl, (fun h => by cases h), rfl⟩, ⟨_, _, rfl, rfl, rfl, rfl, (fun h => by cases h), rfl⟩, ⟨_, _, rfl, rfl, rfl, rfl, (fun h => by cases h), rfl⟩, ⟨_, _, rfl, rfl, rfl, rfl, (fun h => by cases h), rfl⟩, ⟨_, _, rfl, rfl, rfl, rfl, (fun h => by cases h), rfl⟩, ⟨_, _, rfl, rfl, rfl, rfl, (fun h => by cases h), rfl⟩, ⟨_, _, rfl, rfl, rfl, rfl, (fun h => by cases h), rfl⟩, ⟨_, _, rfl, rfl, rfl, rfl, (fun h => by cases h), rfl⟩, ⟨_, _, rfl, rfl, rfl, rfl, (fun h => by cases h), rfl⟩, ⟨_, _, rfl, rfl, rfl, rfl, (fun h => by cases h), rfl⟩, ⟨_, _, rfl, rfl, rfl, rfl, (fun h => by cases h), rfl⟩, ⟨_, _, rfl, rfl, rfl, rfl, (fun h => by cases h), rfl⟩, trivial⟩) (trivial) (⟨(fun h => by cases h), (fun h => by cases h), (fun h => by cases h), (fun h => by cases h), (fun h => by cases h), (fun h => by cases h), (fun h => by cases h), (fun h => by cases h), (fun h => by cases h), (fun h => by cases h), (fun h => by cases h), (fun h => by cases h), (fun h => by cases h), (fun h => by cases h), (fun h => by cases h), (fun h => by cases h), (fun h => by cases h), (fun h => by cases h), (fun h => by cases h), (fun h => by cases h), (fun h => by cases h), (fun h => by cases h), (fun h => by cases h), (fun h => by cases h), (fun h => by cases h), (fun h => by cases h), (fun h => by cases h), (fun h => by cases h), (fun h => by cases h), (fun h => by cases h), (fun h => by cases h), (fun h => by cases h), (fun h => by cases h), (fun h => by cases h), (fun h => by cases h), (fun h => by cases h), (fun h => by cases h), (fun h => by cases h), (fun h => by cases h), (fun h => by cases h), trivial⟩) rfl) trivial ?_
 refine .q rfl (op_loadRow Tryd.underlying27 rfl (by kernel_rfl) rfl rfl rfl (rfl)) trivial ?_
 refine .q rfl (op_call (U := []) [] [] (rcheck_any k us2 ss2 ns2 bs2 (fun i => Nat.le_trans (hss i) (by decide)) (fun i => Nat.le_trans (hjj i) (by decide)) (Nat.le_trans hnl (by decide)) (fun i => Nat.le_trans (hnn i) (by decide)) (fun i j => Nat.le_trans (hnj i j) (by decide)) (Nat.le_trans hul (by decide)) (Nat.le_trans hsl (by decide)) (Nat.le_trans hbl (by decide))) Tryd.func8 (by kernel_rfl) rfl rfl rfl (⟨⟨_, rfl, rfl, rfl⟩, trivial⟩) (trivial) (trivial) (trivial) rfl) trivial ?_
 refine .q rfl (op_cmpI rfl rfl rfl) trivial ?_
 refine .q rfl (op_move rfl) trivial ?_
 refine .know (b' := false) (bne_self_eq_false _) ?_
 refine .q rfl (op_loadRow Tryd.underlying30 rfl (by kernel_rfl) rfl rfl rfl (rfl)) ⟨_, rfl, rfl⟩ ?_
 refine .q rfl (op_call (U := []) [] [] (mbytes_ok k us2 ss2 ns2 bs2 (hs_of k us2 ss2 ns2 bs2) (Nat.le_trans hsl (by decide)) (fun i => Nat.le_trans (hss i) (by decide)) (fun i => Nat.le_trans (hjj i) (by decide)) (Nat.le_trans hnl (by decide)) (fun i => Nat.le_trans (hnn i) (by decide)) (fun i j => Nat.le_trans (hnj i j) (by decide)) hcu hcs hcn hcb (fun i => Nat.le_trans (hsm i) (by decide)) hk eo) Tryd.func9 (by kernel_rfl) rfl rfl rfl (⟨⟨_, rfl, rfl, rfl⟩, trivial⟩) (⟨⟨_, _, rfl, rfl, rfl, rfl, (fun h => by cases h), rfl⟩, ⟨_, _, rfl, rfl, rfl, rfl, (fun h => by cases h), rfl⟩, ⟨_, _, rfl, rfl, rfl, rfl, (fun h => by cases h), rfl⟩, ⟨_, _, rfl, rfl, rfl, rfl, (fun h => by cases h), rfl⟩, trivial⟩) (trivial) (⟨(fun h => by cases h), (fun h => by cases h), (fun h => by cases h), (fun h => by cases h), trivial⟩) rfl) ⟨_, rfl, rfl⟩ ?_
 refine .q rfl (op_loadRow Tryd.underlying27 rfl (by kernel_rfl) rfl rfl rfl (rfl)) ⟨_, rfl, rfl⟩ ?_
 refine .q rfl (op_call (U := []) [] [] (rbytes_ok k us2 ss2 ns2 bs2 hnU hnS hnN hnB (fun i => Nat.le_trans (hss i) (by decide)) (fun i => Nat.le_trans (hjj i) (by decide)) (Nat.le_trans hnl (by decide)) (fun i => Nat.le_trans (hnn i) (by decide)) (fun i j => Nat.le_trans (hnj i j) (by decide)) (Nat.le_trans hul (by decide)) (Nat.le_trans hsl (by decide)) (Nat.le_trans hbl (by decide)) hk) Tryd.func10 (by kernel_rfl) rfl rfl rfl (⟨⟨_, rfl, rfl, rfl⟩, trivial⟩) (trivial) (trivial) (trivial) rfl) ⟨_, rfl, rfl⟩ ?_
 refine .q rfl (op_eqS rfl rfl rfl) ⟨_, rfl, rfl⟩ ?_
 refine .q rfl (op_pick_false rfl rfl rfl) trivial ?_
 refine .nil ?_
 show Ev _ _ _ _ _
 refine .cond_false rfl (bne_self_eq_false _) ?_
 refine .skip ?_
 show Ev _ _ _ _ _
 refine .seq ?_
 refine .seq ?_
 refine .region ?_
 refine .q (op_loadRow Tryd.underlying27 rfl (by kernel_rfl) rfl rfl rfl (rfl)) trivial rfl ?_
 refine .q (op_call (U := []) [] [] (rcheck_any k us2 ss2 ns2 bs2 (fun i => Nat.le_trans (hss i) (by decide)) (fun i => Nat.le_trans (hjj i) (by decide)) (Nat.le_trans hnl (by decide)) (fun i => Nat.le_trans (hnn i) (by decide)) (fun i j => Nat.le_trans (hnj i j) (by decide)) (Nat.le_trans hul (by decide)) (Nat.le_trans hsl (by decide)) (Nat.le_trans hbl (by decide))) Tryd.func8 (by kernel_rfl) rfl rfl rfl (⟨⟨_, rfl, rfl, rfl⟩, trivial⟩) (trivial) (trivial) (trivial) rfl) trivial rfl ?_
 refine .q (op_cmpI rfl rfl rfl) trivial rfl ?_
 refine .nil ?_
 show Ev _ _ _ _ _
 refine .cond_false rfl (by rw [hk]; rfl) ?_
 refine .skip ?_
 show Ev _ _ _ _ _
 refine .seq ?_
 refine .region ?_
 refine .q (op_loadRow Tryd.underlying30 rfl (by kernel_rfl) rfl rfl rfl (rfl)) trivial rfl ?_
 refine .q (op_call (U := []) [] [] (mbytes_ok k us2 ss2 ns2 bs2 (hs_of k us2 ss2 ns2 bs2) (Nat.le_trans hsl (by decide)) (fun i => Nat.le_trans (hss i) (by decide)) (fun i => Nat.le_trans (hjj i) (by decide)) (Nat.le_trans hnl (by decide)) (fun i => Nat.le_trans (hnn i) (by decide)) (fun i j => Nat.le_trans (hnj i j) (by decide)) hcu hcs hcn hcb (fun i => Nat.le_trans (hsm i) (by decide)) hk eo) Tryd.func9 (by kernel_rfl) rfl rfl rfl (⟨⟨_, rfl, rfl, rfl⟩, trivial⟩) (⟨⟨_, _, rfl, rfl, rfl, rfl, (fun h => by cases h), rfl⟩, ⟨_, _, rfl, rfl, rfl, rfl, (fun h => by cases h), rfl⟩, ⟨_, _, rfl, rfl, rfl, rfl, (fun h => by cases h), rfl⟩, ⟨_, _, rfl, rfl, rfl, rfl, (fun h => by cases h), rfl⟩, trivial⟩) (trivial) (⟨(fun h => by cases h), (fun h => by cases h), (fun h => by cases h), (fun h => by cases h), trivial⟩) rfl) trivial rfl ?_
 refine .q (op_call (U := []) [] [] (parseL_good (encN (fieldsOf k) (EP.mk us2 ss2 ns2 bs2 [(ofI8 k)]) (fieldsOf k).length).w h0 hlen k hK hkk ⟨⟨[], 0⟩, us2, ss2, ns2, bs2⟩ hR rfl (Nat.le_trans hnl (by decide)) (Nat.le_trans hsl (by decide)) (fun i => Nat.le_trans (hss i) (by decide)) (fun i => Nat.le_trans (hjj i) (by decide)) eo) Tryd.func11 (by kernel_rfl) rfl rfl rfl (⟨⟨_, rfl, rfl, rfl⟩, trivial⟩) (⟨⟨_, _, rfl, rfl, rfl, rfl, (fun h => by cases h), rfl⟩, ⟨_, _, rfl, rfl, rfl, rfl, (fun h => by cases h), rfl⟩, ⟨_, _, rfl, rfl, rfl, rfl, (fun h => by cases h), rfl⟩, ⟨_, _, rfl, rfl, rfl, rfl, (fun h => by cases h), rfl⟩, ⟨_, _, rfl, rfl, rfl, rfl, (fun h => by cases h), rfl⟩, trivial⟩) (trivial) (⟨(fun h => by cases h), (fun h => by cases h), (fun h => by cases h), (fun h => by cases h), (fun h => by cases h), trivial⟩) rfl) trivial rfl ?_
 refine .q (op_move rfl) trivial rfl ?_
 refine .q (op_extract rfl rfl) trivial rfl ?_
 refine .q (op_extract rfl rfl) trivial rfl ?_
 refine .a (op_allocRow zero30 rel_zero30 rfl) trivial rfl ?_
 refine .w (op_storeRow (by kernel_rfl) rfl rfl rfl rfl rfl (rfl) (rfl)) trivial rfl ?_
 refine .q (op_assign rfl) trivial rfl ?_
 refine .nil ?_
 show Ev _ _ _ _ _
 refine .seq ?_
 refine .region ?_
 refine .q (op_move rfl) trivial rfl ?_
 refine .q (op_eqNilNil Tryd.underlying33 rfl rfl) trivial rfl ?_
 refine .q (op_move rfl) trivial rfl ?_
 refine .know (b' := true) (rfl) ?_
 refine .q (op_loadRow Tryd.underlying30 rfl (by kernel_rfl) rfl rfl rfl (rfl)) ⟨_, rfl, rfl⟩ rfl ?_
 refine .q (op_loadRow Tryd.underlying27 rfl (by kernel_rfl) rfl rfl rfl (rfl)) ⟨_, rfl, rfl⟩ rfl ?_
 refine .q (op_call (U := []) [] [] (same_ff k us2 ss2 ns2 bs2 (Nat.le_trans hul (by decide)) (Nat.le_trans hsl (by decide)) (Nat.le_trans hnl (by decide)) (Nat.le_trans hbl (by decide)) (fun i => Nat.le_trans (hnn i) (by decide))) Tryd.func12 (by kernel_rfl) rfl rfl rfl (⟨⟨_, rfl, rfl, rfl⟩, ⟨_, rfl, rfl, rfl⟩, trivial⟩) (trivial) (trivial) (trivial) rfl) ⟨_, rfl, rfl⟩ rfl ?_
 refine .q (op_pick_true rfl rfl rfl) trivial rfl ?_
 refine .q (op_assign rfl) trivial rfl ?_
 refine .nil ?_
 show Ev _ _ _ _ _
 refine .ret ?_
 show RetOk _ _ _ _ _ _ _
 exact ret1v rfl (.inl rfl) rfl rfl trivial
end Go.Proofs.YtenocbhlbgcnfaaDoor
