/-
  Texts of this claim.
-/
import Derived.Test.YtenocbhlbgcnfaaDoorGT4
import Derived.Test.YtenocbhlbgcnfaaDoorGTP
namespace Go.Proofs.YtenocbhlbgcnfaaDoor
open Go.RowKit
theorem Meets.weakV' {P : Program} {f : FuncId} {args : List AV} {H0 H1 : List (Nat × Option ABlk)} {v v' : AV} (h : Meets P f args H0 v H1) (hv : ∀ E y, Rel E v y → Rel E v' y) : Meets P f args H0 v' H1 := by
  intro E S n0 vals w a1 a2 a3 a4 a5 a6 a7
  refine (h E S n0 vals w a1 a2 a3 a4 a5 a6 a7).mono fun e' w' hh => ?_
  obtain ⟨y, E', g1, g2, g3, g4, g5⟩ := hh
  exact ⟨y, E', g1, g2, hv _ _ g3, g4, g5⟩
/-- As many elements as fields. -/
def cntB (us : List UInt32) (ss : List (List UInt8)) (ns : List (List (List UInt8))) (bs : List Bool) (fields : List UInt8) : Bool :=
  decide (us.length = cntL [117] fields) && (decide (ss.length = cntL [115, 99, 114] fields) && (decide (ns.length = cntL [110] fields) && decide (bs.length = cntL [98] fields)))
/-- The cookie has its size, names are names. -/
def cookB (ss : List (List UInt8)) (fields : List UInt8) : Bool := !(decide (0 ≤ Lib.indexByte fields 99) && ((((ss.getD 0 []).length : Nat) : Int) != 16))
def namB (ns : List (List (List UInt8))) : Bool := ns.all fun l => l.all nameOk
def chkF (k : Int) (us : List UInt32) (ss : List (List UInt8)) (ns : List (List (List UInt8))) (bs : List Bool) : Nat :=
  if isKind k = true then (if (cntB us ss ns bs (fieldsOf k) && (cookB ss (fieldsOf k) && namB ns)) = true then 0 else 1) else 20
theorem all_step {l : List (List UInt8)} {j : Nat} (hj : j < l.length) (h : (l.take j).all nameOk = true) (hn : nameOk (l.getD j []) = true) : (l.take (j + 1)).all nameOk = true := by
  rw [List.take_add_one, List.getElem?_eq_getElem hj, Option.toList_some, List.all_append, h]
  simpa [List.getD_eq_getElem?_getD, hj] using hn
theorem all_no {l : List (List UInt8)} {j : Nat} (hj : j < l.length) (hn : nameOk (l.getD j []) = false) : l.all nameOk = false := by
  refine Bool.eq_false_iff.2 fun h => ?_
  have := List.all_eq_true.1 h (l.getD j []) (by rw [show l.getD j [] = l[j] by simp [List.getD_eq_getElem?_getD, hj]]; exact List.getElem_mem hj)
  rw [hn] at this; cases this
theorem alls_step {ns : List (List (List UInt8))} {i : Nat} (hi : i < ns.length) (h : namB (ns.take i) = true) (hn : (ns.getD i []).all nameOk = true) : namB (ns.take (i + 1)) = true := by
  unfold namB at h ⊢
  rw [List.take_add_one, List.getElem?_eq_getElem hi, Option.toList_some, List.all_append, h]
  simpa [List.getD_eq_getElem?_getD, hi] using hn
theorem alls_no {ns : List (List (List UInt8))} {i : Nat} (hi : i < ns.length) (hn : (ns.getD i []).all nameOk = false) : namB ns = false := by
  refine Bool.eq_false_iff.2 fun h => ?_
  have := List.all_eq_true.1 h (ns.getD i []) (by rw [show ns.getD i [] = ns[i] by simp [List.getD_eq_getElem?_getD, hi]]; exact List.getElem_mem hi)
  rw [hn] at this; cases this
set_option maxRecDepth 100000 in
theorem counts_0 (k : Int) (us : List UInt32) (ss : List (List UInt8)) (ns : List (List (List UInt8))) (bs : List Bool) (fields : List UInt8) (hf : fields.length ≤ 100) (h0 : ¬ us.length = cntL [117] fields) : Meets Tryd.prog 17 [.agg [.i64 k, .fsl (List.map AV.u32 us) (us).length 1, .dsl ss, .fsl (List.map AV.dsl ns) (ns).length 1, .fsl (List.map AV.bool bs) (bs).length 1], .str fields] [] (.bool false) [] := by
 refine meets_of_ev (nt := 37) Tryd.func17 rfl rfl (Nat.le_of_ble_eq_true rfl) ?_
 refine .seq ?_
 refine .region ?_
 refine .a (op_boxRow rfl rfl) trivial rfl ?_
 refine .a (op_boxOne rfl rfl) trivial rfl ?_
 refine .q (op_assign rfl) trivial rfl ?_
 refine .nil ?_
 show Ev _ _ _ _ _
 refine .seq ?_
 refine .region ?_
 refine .q (op_makeFunc1 rfl) trivial rfl ?_
 refine .q (op_assign rfl) trivial rfl ?_
 refine .nil ?_
 show Ev _ _ _ _ _
 refine .seq ?_
 refine .drawn [[], [0], [0, 1], [], [3], [0, 1, 2, 3, 4], [0, 1, 2, 3, 4, 5], [0, 1, 2, 3, 4, 5, 6], [0, 1, 2, 3, 4, 5, 6, 7], [0, 1, 2, 3, 4, 5, 6, 7, 8], [0, 1, 2, 3, 4, 5, 6], [0, 1, 2, 3, 4, 5, 6, 10], [0, 1, 2, 3, 4, 5, 6, 7, 8, 9, 10, 11], [0, 1, 2, 3, 4, 5, 6, 7, 8, 9, 10, 11, 12], [0, 1, 2, 3, 4, 5, 6, 7, 8, 9, 10, 11, 12, 13], [0, 1, 2, 3, 4, 5, 6, 7, 8, 9, 10, 11, 12, 13, 14], [0, 1, 2, 3, 4, 5, 6, 7, 8, 9, 10, 11, 12, 13, 14, 15], [0, 1, 2, 3, 4, 5, 6, 7, 8, 9, 10, 11, 12, 13, 14, 15, 16], [0, 1, 2, 3, 4, 5, 6, 7, 8, 9, 10, 11, 12, 13, 14], [0, 1, 2, 3, 4, 5, 6, 7, 8, 9, 10, 11, 12, 13, 14, 18], [0, 1, 2, 3, 4, 5, 6, 7, 8, 9, 10, 11, 12, 13, 14, 15, 16, 17, 18, 19], [0, 1, 2, 3, 4, 5, 6, 7, 8, 9, 10, 11, 12, 13, 14, 15, 16, 17, 18, 19, 20], [0, 1, 2, 3, 4, 5, 6, 7, 8, 9, 10, 11, 12, 13, 14, 15, 16, 17, 18, 19, 20, 21], [0, 1, 2, 3, 4, 5, 6, 7, 8, 9, 10, 11, 12, 13, 14, 15, 16, 17, 18, 19, 20, 21, 22], [0, 1, 2, 3, 4, 5, 6, 7, 8, 9, 10, 11, 12, 13, 14, 15, 16, 17, 18, 19, 20, 21, 22, 23], [0, 1, 2, 3, 4, 5, 6, 7, 8, 9, 10, 11, 12, 13, 14, 15, 16, 17, 18, 19, 20, 21, 22, 23, 24], [0, 1, 2, 3, 4, 5, 6, 7, 8, 9, 10, 11, 12, 13, 14, 15, 16, 17, 18, 19, 20, 21, 22], [0, 1, 2, 3, 4, 5, 6, 7, 8, 9, 10, 11, 12, 13, 14, 15, 16, 17, 18, 19, 20, 21, 22, 26], [0, 1, 2, 3, 4, 5, 6, 7, 8, 9, 10, 11, 12, 13, 14, 15, 16, 17, 18, 19, 20, 21, 22, 23, 24, 25, 26, 27], [0, 1, 2, 3, 4, 5, 6, 7, 8, 9, 10, 11, 12, 13, 14, 15, 16, 17, 18, 19, 20, 21, 22, 23, 24, 25, 26, 27, 28], [0, 1, 2, 3, 4, 5, 6, 7, 8, 9, 10, 11, 12, 13, 14, 15, 16, 17, 18, 19, 20, 21, 22, 23, 24, 25, 26, 27, 28, 29]] [1, 4, 8, 11, 16, 19, 24, 27] [] (by kernel_rfl) (by kernel_rfl) rfl ?_
 show DK _ [0, 1, 2, 3, 4, 5, 6, 7, 8, 9, 10, 11, 12, 13, 14, 15, 16, 17, 18, 19, 20, 21, 22, 23, 24, 25, 26, 27, 28, 29, 30] _ _ _
 refine .q rfl (op_fieldAddr (m := 0) Tryd.underlying30 rfl (by kernel_rfl) rfl) trivial ?_
 refine .as (.ptr 1000 1) rfl ?_
 refine .q rfl (op_load Tryd.underlying22 rfl rfl rfl rfl (by show 1 < 5; decide)) trivial ?_
 refine .q rfl (op_len_fsl Tryd.underlying22 rfl) trivial ?_
 refine .q rfl (op_move rfl) trivial ?_
 refine .q rfl (op_callClo (args := [.str [117]]) (args2 := [.ptr 500 0]) (U := []) [(500, 1008)] [] (cnt_ev [117] fields (by decide) hf) Tryd.func34 (by kernel_rfl) rfl rfl rfl rfl rfl rfl ⟨⟨_, rfl, rfl, rfl⟩, trivial⟩ ⟨⟨_, _, rfl, rfl, rfl, rfl, (fun h => by cases h), rfl⟩, trivial⟩ trivial ⟨(fun h => by cases h), trivial⟩ rfl) trivial ?_
 refine .q rfl (op_cmpI rfl rfl rfl) trivial ?_
 refine .q rfl (op_move rfl) trivial ?_
 refine .know (b' := false) (decide_eq_false (by omega)) ?_
 refine .no rfl ⟨_, rfl, rfl⟩ ?_
 refine .no rfl ⟨_, rfl, rfl⟩ ?_
 refine .no rfl ⟨_, rfl, rfl⟩ ?_
 refine .no rfl ⟨_, rfl, rfl⟩ ?_
 refine .no rfl ⟨_, rfl, rfl⟩ ?_
 refine .no rfl ⟨_, rfl, rfl⟩ ?_
 refine .q rfl (op_pick_false rfl rfl rfl) trivial ?_
 refine .q rfl (op_move rfl) trivial ?_
 refine .no rfl ⟨_, rfl, rfl⟩ ?_
 refine .no rfl ⟨_, rfl, rfl⟩ ?_
 refine .no rfl ⟨_, rfl, rfl⟩ ?_
 refine .no rfl ⟨_, rfl, rfl⟩ ?_
 refine .no rfl ⟨_, rfl, rfl⟩ ?_
 refine .no rfl ⟨_, rfl, rfl⟩ ?_
 refine .q rfl (op_pick_false rfl rfl rfl) trivial ?_
 refine .q rfl (op_move rfl) trivial ?_
 refine .no rfl ⟨_, rfl, rfl⟩ ?_
 refine .no rfl ⟨_, rfl, rfl⟩ ?_
 refine .no rfl ⟨_, rfl, rfl⟩ ?_
 refine .no rfl ⟨_, rfl, rfl⟩ ?_
 refine .no rfl ⟨_, rfl, rfl⟩ ?_
 refine .no rfl ⟨_, rfl, rfl⟩ ?_
 refine .q rfl (op_pick_false rfl rfl rfl) trivial ?_
 refine .q rfl (op_assign rfl) trivial ?_
 refine .nil ?_
 show Ev _ _ _ _ _
 refine .ret ?_
 show RetOk _ _ _ _ _ _ _
 exact ret1v rfl (.inl rfl) rfl (rfl) trivial
set_option maxRecDepth 100000 in
theorem counts_1 (k : Int) (us : List UInt32) (ss : List (List UInt8)) (ns : List (List (List UInt8))) (bs : List Bool) (fields : List UInt8) (hf : fields.length ≤ 100) (h0 : us.length = cntL [117] fields) (h1 : ¬ ss.length = cntL [115, 99, 114] fields) : Meets Tryd.prog 17 [.agg [.i64 k, .fsl (List.map AV.u32 us) (us).length 1, .dsl ss, .fsl (List.map AV.dsl ns) (ns).length 1, .fsl (List.map AV.bool bs) (bs).length 1], .str fields] [] (.bool false) [] := by
 refine meets_of_ev (nt := 37) Tryd.func17 rfl rfl (Nat.le_of_ble_eq_true rfl) ?_
 refine .seq ?_
 refine .region ?_
 refine .a (op_boxRow rfl rfl) trivial rfl ?_
 refine .a (op_boxOne rfl rfl) trivial rfl ?_
 refine .q (op_assign rfl) trivial rfl ?_
 refine .nil ?_
 show Ev _ _ _ _ _
 refine .seq ?_
 refine .region ?_
 refine .q (op_makeFunc1 rfl) trivial rfl ?_
 refine .q (op_assign rfl) trivial rfl ?_
 refine .nil ?_
 show Ev _ _ _ _ _
 refine .seq ?_
 refine .drawn [[], [0], [0, 1], [], [3], [0, 1, 2, 3, 4], [0, 1, 2, 3, 4, 5], [0, 1, 2, 3, 4, 5, 6], [0, 1, 2, 3, 4, 5, 6, 7], [0, 1, 2, 3, 4, 5, 6, 7, 8], [0, 1, 2, 3, 4, 5, 6], [0, 1, 2, 3, 4, 5, 6, 10], [0, 1, 2, 3, 4, 5, 6, 7, 8, 9, 10, 11], [0, 1, 2, 3, 4, 5, 6, 7, 8, 9, 10, 11, 12], [0, 1, 2, 3, 4, 5, 6, 7, 8, 9, 10, 11, 12, 13], [0, 1, 2, 3, 4, 5, 6, 7, 8, 9, 10, 11, 12, 13, 14], [0, 1, 2, 3, 4, 5, 6, 7, 8, 9, 10, 11, 12, 13, 14, 15], [0, 1, 2, 3, 4, 5, 6, 7, 8, 9, 10, 11, 12, 13, 14, 15, 16], [0, 1, 2, 3, 4, 5, 6, 7, 8, 9, 10, 11, 12, 13, 14], [0, 1, 2, 3, 4, 5, 6, 7, 8, 9, 10, 11, 12, 13, 14, 18], [0, 1, 2, 3, 4, 5, 6, 7, 8, 9, 10, 11, 12, 13, 14, 15, 16, 17, 18, 19], [0, 1, 2, 3, 4, 5, 6, 7, 8, 9, 10, 11, 12, 13, 14, 15, 16, 17, 18, 19, 20], [0, 1, 2, 3, 4, 5, 6, 7, 8, 9, 10, 11, 12, 13, 14, 15, 16, 17, 18, 19, 20, 21], [0, 1, 2, 3, 4, 5, 6, 7, 8, 9, 10, 11, 12, 13, 14, 15, 16, 17, 18, 19, 20, 21, 22], [0, 1, 2, 3, 4, 5, 6, 7, 8, 9, 10, 11, 12, 13, 14, 15, 16, 17, 18, 19, 20, 21, 22, 23], [0, 1, 2, 3, 4, 5, 6, 7, 8, 9, 10, 11, 12, 13, 14, 15, 16, 17, 18, 19, 20, 21, 22, 23, 24], [0, 1, 2, 3, 4, 5, 6, 7, 8, 9, 10, 11, 12, 13, 14, 15, 16, 17, 18, 19, 20, 21, 22], [0, 1, 2, 3, 4, 5, 6, 7, 8, 9, 10, 11, 12, 13, 14, 15, 16, 17, 18, 19, 20, 21, 22, 26], [0, 1, 2, 3, 4, 5, 6, 7, 8, 9, 10, 11, 12, 13, 14, 15, 16, 17, 18, 19, 20, 21, 22, 23, 24, 25, 26, 27], [0, 1, 2, 3, 4, 5, 6, 7, 8, 9, 10, 11, 12, 13, 14, 15, 16, 17, 18, 19, 20, 21, 22, 23, 24, 25, 26, 27, 28], [0, 1, 2, 3, 4, 5, 6, 7, 8, 9, 10, 11, 12, 13, 14, 15, 16, 17, 18, 19, 20, 21, 22, 23, 24, 25, 26, 27, 28, 29]] [1, 4, 8, 11, 16, 19, 24, 27] [] (by kernel_rfl) (by kernel_rfl) rfl ?_
 show DK _ [0, 1, 2, 3, 4, 5, 6, 7, 8, 9, 10, 11, 12, 13, 14, 15, 16, 17, 18, 19, 20, 21, 22, 23, 24, 25, 26, 27, 28, 29, 30] _ _ _
 refine .q rfl (op_fieldAddr (m := 0) Tryd.underlying30 rfl (by kernel_rfl) rfl) trivial ?_
 refine .as (.ptr 1000 1) rfl ?_
 refine .q rfl (op_load Tryd.underlying22 rfl rfl rfl rfl (by show 1 < 5; decide)) trivial ?_
 refine .q rfl (op_len_fsl Tryd.underlying22 rfl) trivial ?_
 refine .q rfl (op_move rfl) trivial ?_
 refine .q rfl (op_callClo (args := [.str [117]]) (args2 := [.ptr 500 0]) (U := []) [(500, 1008)] [] (cnt_ev [117] fields (by decide) hf) Tryd.func34 (by kernel_rfl) rfl rfl rfl rfl rfl rfl ⟨⟨_, rfl, rfl, rfl⟩, trivial⟩ ⟨⟨_, _, rfl, rfl, rfl, rfl, (fun h => by cases h), rfl⟩, trivial⟩ trivial ⟨(fun h => by cases h), trivial⟩ rfl) trivial ?_
 refine .q rfl (op_cmpI rfl rfl rfl) trivial ?_
 refine .q rfl (op_move rfl) trivial ?_
 refine .know (b' := true) (decide_eq_true (by omega)) ?_
 refine .q rfl (op_fieldAddr (m := 0) Tryd.underlying30 rfl (by kernel_rfl) rfl) ⟨_, rfl, rfl⟩ ?_
 refine .as (.ptr 1000 2) rfl ?_
 refine .q rfl (op_load Tryd.underlying23 rfl rfl rfl rfl (by show 2 < 5; decide)) ⟨_, rfl, rfl⟩ ?_
 refine .q rfl (op_len_dsl Tryd.underlying23 rfl) ⟨_, rfl, rfl⟩ ?_
 refine .q rfl (op_move rfl) ⟨_, rfl, rfl⟩ ?_
 refine .q rfl (op_callClo (args := [.str [115, 99, 114]]) (args2 := [.ptr 500 0]) (U := []) [(500, 1008)] [] (cnt_ev [115, 99, 114] fields (by decide) hf) Tryd.func34 (by kernel_rfl) rfl rfl rfl rfl rfl rfl ⟨⟨_, rfl, rfl, rfl⟩, trivial⟩ ⟨⟨_, _, rfl, rfl, rfl, rfl, (fun h => by cases h), rfl⟩, trivial⟩ trivial ⟨(fun h => by cases h), trivial⟩ rfl) ⟨_, rfl, rfl⟩ ?_
 refine .q rfl (op_cmpI rfl rfl rfl) ⟨_, rfl, rfl⟩ ?_
 refine .q rfl (op_pick_true rfl rfl rfl) trivial ?_
 refine .q rfl (op_move rfl) trivial ?_
 refine .know (b' := false) (decide_eq_false (by omega)) ?_
 refine .no rfl ⟨_, rfl, rfl⟩ ?_
 refine .no rfl ⟨_, rfl, rfl⟩ ?_
 refine .no rfl ⟨_, rfl, rfl⟩ ?_
 refine .no rfl ⟨_, rfl, rfl⟩ ?_
 refine .no rfl ⟨_, rfl, rfl⟩ ?_
 refine .no rfl ⟨_, rfl, rfl⟩ ?_
 refine .q rfl (op_pick_false rfl rfl rfl) trivial ?_
 refine .q rfl (op_move rfl) trivial ?_
 refine .no rfl ⟨_, rfl, rfl⟩ ?_
 refine .no rfl ⟨_, rfl, rfl⟩ ?_
 refine .no rfl ⟨_, rfl, rfl⟩ ?_
 refine .no rfl ⟨_, rfl, rfl⟩ ?_
 refine .no rfl ⟨_, rfl, rfl⟩ ?_
 refine .no rfl ⟨_, rfl, rfl⟩ ?_
 refine .q rfl (op_pick_false rfl rfl rfl) trivial ?_
 refine .q rfl (op_assign rfl) trivial ?_
 refine .nil ?_
 show Ev _ _ _ _ _
 refine .ret ?_
 show RetOk _ _ _ _ _ _ _
 exact ret1v rfl (.inl rfl) rfl (rfl) trivial
set_option maxRecDepth 100000 in
theorem counts_2 (k : Int) (us : List UInt32) (ss : List (List UInt8)) (ns : List (List (List UInt8))) (bs : List Bool) (fields : List UInt8) (hf : fields.length ≤ 100) (h0 : us.length = cntL [117] fields) (h1 : ss.length = cntL [115, 99, 114] fields) (h2 : ¬ ns.length = cntL [110] fields) : Meets Tryd.prog 17 [.agg [.i64 k, .fsl (List.map AV.u32 us) (us).length 1, .dsl ss, .fsl (List.map AV.dsl ns) (ns).length 1, .fsl (List.map AV.bool bs) (bs).length 1], .str fields] [] (.bool false) [] := by
 refine meets_of_ev (nt := 37) Tryd.func17 rfl rfl (Nat.le_of_ble_eq_true rfl) ?_
 refine .seq ?_
 refine .region ?_
 refine .a (op_boxRow rfl rfl) trivial rfl ?_
 refine .a (op_boxOne rfl rfl) trivial rfl ?_
 refine .q (op_assign rfl) trivial rfl ?_
 refine .nil ?_
 show Ev _ _ _ _ _
 refine .seq ?_
 refine .region ?_
 refine .q (op_makeFunc1 rfl) trivial rfl ?_
 refine .q (op_assign rfl) trivial rfl ?_
 refine .nil ?_
 show Ev _ _ _ _ _
 refine .seq ?_
 refine .drawn [[], [0], [0, 1], [], [3], [0, 1, 2, 3, 4], [0, 1, 2, 3, 4, 5], [0, 1, 2, 3, 4, 5, 6], [0, 1, 2, 3, 4, 5, 6, 7], [0, 1, 2, 3, 4, 5, 6, 7, 8], [0, 1, 2, 3, 4, 5, 6], [0, 1, 2, 3, 4, 5, 6, 10], [0, 1, 2, 3, 4, 5, 6, 7, 8, 9, 10, 11], [0, 1, 2, 3, 4, 5, 6, 7, 8, 9, 10, 11, 12], [0, 1, 2, 3, 4, 5, 6, 7, 8, 9, 10, 11, 12, 13], [0, 1, 2, 3, 4, 5, 6, 7, 8, 9, 10, 11, 12, 13, 14], [0, 1, 2, 3, 4, 5, 6, 7, 8, 9, 10, 11, 12, 13, 14, 15], [0, 1, 2, 3, 4, 5, 6, 7, 8, 9, 10, 11, 12, 13, 14, 15, 16], [0, 1, 2, 3, 4, 5, 6, 7, 8, 9, 10, 11, 12, 13, 14], [0, 1, 2, 3, 4, 5, 6, 7, 8, 9, 10, 11, 12, 13, 14, 18], [0, 1, 2, 3, 4, 5, 6, 7, 8, 9, 10, 11, 12, 13, 14, 15, 16, 17, 18, 19], [0, 1, 2, 3, 4, 5, 6, 7, 8, 9, 10, 11, 12, 13, 14, 15, 16, 17, 18, 19, 20], [0, 1, 2, 3, 4, 5, 6, 7, 8, 9, 10, 11, 12, 13, 14, 15, 16, 17, 18, 19, 20, 21], [0, 1, 2, 3, 4, 5, 6, 7, 8, 9, 10, 11, 12, 13, 14, 15, 16, 17, 18, 19, 20, 21, 22], [0, 1, 2, 3, 4, 5, 6, 7, 8, 9, 10, 11, 12, 13, 14, 15, 16, 17, 18, 19, 20, 21, 22, 23], [0, 1, 2, 3, 4, 5, 6, 7, 8, 9, 10, 11, 12, 13, 14, 15, 16, 17, 18, 19, 20, 21, 22, 23, 24], [0, 1, 2, 3, 4, 5, 6, 7, 8, 9, 10, 11, 12, 13, 14, 15, 16, 17, 18, 19, 20, 21, 22], [0, 1, 2, 3, 4, 5, 6, 7, 8, 9, 10, 11, 12, 13, 14, 15, 16, 17, 18, 19, 20, 21, 22, 26], [0, 1, 2, 3, 4, 5, 6, 7, 8, 9, 10, 11, 12, 13, 14, 15, 16, 17, 18, 19, 20, 21, 22, 23, 24, 25, 26, 27], [0, 1, 2, 3, 4, 5, 6, 7, 8, 9, 10, 11, 12, 13, 14, 15, 16, 17, 18, 19, 20, 21, 22, 23, 24, 25, 26, 27, 28], [0, 1, 2, 3, 4, 5, 6, 7, 8, 9, 10, 11, 12, 13, 14, 15, 16, 17, 18, 19, 20, 21, 22, 23, 24, 25, 26, 27, 28, 29]] [1, 4, 8, 11, 16, 19, 24, 27] [] (by kernel_rfl) (by kernel_rfl) rfl ?_
 show DK _ [0, 1, 2, 3, 4, 5, 6, 7, 8, 9, 10, 11, 12, 13, 14, 15, 16, 17, 18, 19, 20, 21, 22, 23, 24, 25, 26, 27, 28, 29, 30] _ _ _
 refine .q rfl (op_fieldAddr (m := 0) Tryd.underlying30 rfl (by kernel_rfl) rfl) trivial ?_
 refine .as (.ptr 1000 1) rfl ?_
 refine .q rfl (op_load Tryd.underlying22 rfl rfl rfl rfl (by show 1 < 5; decide)) trivial ?_
 refine .q rfl (op_len_fsl Tryd.underlying22 rfl) trivial ?_
 refine .q rfl (op_move rfl) trivial ?_
 refine .q rfl (op_callClo (args := [.str [117]]) (args2 := [.ptr 500 0]) (U := []) [(500, 1008)] [] (cnt_ev [117] fields (by decide) hf) Tryd.func34 (by kernel_rfl) rfl rfl rfl rfl rfl rfl ⟨⟨_, rfl, rfl, rfl⟩, trivial⟩ ⟨⟨_, _, rfl, rfl, rfl, rfl, (fun h => by cases h), rfl⟩, trivial⟩ trivial ⟨(fun h => by cases h), trivial⟩ rfl) trivial ?_
 refine .q rfl (op_cmpI rfl rfl rfl) trivial ?_
 refine .q rfl (op_move rfl) trivial ?_
 refine .know (b' := true) (decide_eq_true (by omega)) ?_
 refine .q rfl (op_fieldAddr (m := 0) Tryd.underlying30 rfl (by kernel_rfl) rfl) ⟨_, rfl, rfl⟩ ?_
 refine .as (.ptr 1000 2) rfl ?_
 refine .q rfl (op_load Tryd.underlying23 rfl rfl rfl rfl (by show 2 < 5; decide)) ⟨_, rfl, rfl⟩ ?_
 refine .q rfl (op_len_dsl Tryd.underlying23 rfl) ⟨_, rfl, rfl⟩ ?_
 refine .q rfl (op_move rfl) ⟨_, rfl, rfl⟩ ?_
 refine .q rfl (op_callClo (args := [.str [115, 99, 114]]) (args2 := [.ptr 500 0]) (U := []) [(500, 1008)] [] (cnt_ev [115, 99, 114] fields (by decide) hf) Tryd.func34 (by kernel_rfl) rfl rfl rfl rfl rfl rfl ⟨⟨_, rfl, rfl, rfl⟩, trivial⟩ ⟨⟨_, _, rfl, rfl, rfl, rfl, (fun h => by cases h), rfl⟩, trivial⟩ trivial ⟨(fun h => by cases h), trivial⟩ rfl) ⟨_, rfl, rfl⟩ ?_
 refine .q rfl (op_cmpI rfl rfl rfl) ⟨_, rfl, rfl⟩ ?_
 refine .q rfl (op_pick_true rfl rfl rfl) trivial ?_
 refine .q rfl (op_move rfl) trivial ?_
 refine .know (b' := true) (decide_eq_true (by omega)) ?_
 refine .q rfl (op_fieldAddr (m := 0) Tryd.underlying30 rfl (by kernel_rfl) rfl) ⟨_, rfl, rfl⟩ ?_
 refine .as (.ptr 1000 3) rfl ?_
 refine .q rfl (op_load Tryd.underlying24 rfl rfl rfl rfl (by show 3 < 5; decide)) ⟨_, rfl, rfl⟩ ?_
 refine .q rfl (op_len_fsl Tryd.underlying24 rfl) ⟨_, rfl, rfl⟩ ?_
 refine .q rfl (op_move rfl) ⟨_, rfl, rfl⟩ ?_
 refine .q rfl (op_callClo (args := [.str [110]]) (args2 := [.ptr 500 0]) (U := []) [(500, 1008)] [] (cnt_ev [110] fields (by decide) hf) Tryd.func34 (by kernel_rfl) rfl rfl rfl rfl rfl rfl ⟨⟨_, rfl, rfl, rfl⟩, trivial⟩ ⟨⟨_, _, rfl, rfl, rfl, rfl, (fun h => by cases h), rfl⟩, trivial⟩ trivial ⟨(fun h => by cases h), trivial⟩ rfl) ⟨_, rfl, rfl⟩ ?_
 refine .q rfl (op_cmpI rfl rfl rfl) ⟨_, rfl, rfl⟩ ?_
 refine .q rfl (op_pick_true rfl rfl rfl) trivial ?_
 refine .q rfl (op_move rfl) trivial ?_
 refine .know (b' := false) (decide_eq_false (by omega)) ?_
 refine .no rfl ⟨_, rfl, rfl⟩ ?_
 refine .no rfl ⟨_, rfl, rfl⟩ ?_
 refine .no rfl ⟨_, rfl, rfl⟩ ?_
 refine .no rfl ⟨_, rfl, rfl⟩ ?_
 refine .no rfl ⟨_, rfl, rfl⟩ ?_
 refine .no rfl ⟨_, rfl, rfl⟩ ?_
 refine .q rfl (op_pick_false rfl rfl rfl) trivial ?_
 refine .q rfl (op_assign rfl) trivial ?_
 refine .nil ?_
 show Ev _ _ _ _ _
 refine .ret ?_
 show RetOk _ _ _ _ _ _ _
 exact ret1v rfl (.inl rfl) rfl (rfl) trivial
set_option maxRecDepth 100000 in
theorem counts_3 (k : Int) (us : List UInt32) (ss : List (List UInt8)) (ns : List (List (List UInt8))) (bs : List Bool) (fields : List UInt8) (hf : fields.length ≤ 100) (h0 : us.length = cntL [117] fields) (h1 : ss.length = cntL [115, 99, 114] fields) (h2 : ns.length = cntL [110] fields) (h3 : ¬ bs.length = cntL [98] fields) : Meets Tryd.prog 17 [.agg [.i64 k, .fsl (List.map AV.u32 us) (us).length 1, .dsl ss, .fsl (List.map AV.dsl ns) (ns).length 1, .fsl (List.map AV.bool bs) (bs).length 1], .str fields] [] (.bool false) [] := by
 refine meets_of_ev (nt := 37) Tryd.func17 rfl rfl (Nat.le_of_ble_eq_true rfl) ?_
 refine .seq ?_
 refine .region ?_
 refine .a (op_boxRow rfl rfl) trivial rfl ?_
 refine .a (op_boxOne rfl rfl) trivial rfl ?_
 refine .q (op_assign rfl) trivial rfl ?_
 refine .nil ?_
 show Ev _ _ _ _ _
 refine .seq ?_
 refine .region ?_
 refine .q (op_makeFunc1 rfl) trivial rfl ?_
 refine .q (op_assign rfl) trivial rfl ?_
 refine .nil ?_
 show Ev _ _ _ _ _
 refine .seq ?_
 refine .drawn [[], [0], [0, 1], [], [3], [0, 1, 2, 3, 4], [0, 1, 2, 3, 4, 5], [0, 1, 2, 3, 4, 5, 6], [0, 1, 2, 3, 4, 5, 6, 7], [0, 1, 2, 3, 4, 5, 6, 7, 8], [0, 1, 2, 3, 4, 5, 6], [0, 1, 2, 3, 4, 5, 6, 10], [0, 1, 2, 3, 4, 5, 6, 7, 8, 9, 10, 11], [0, 1, 2, 3, 4, 5, 6, 7, 8, 9, 10, 11, 12], [0, 1, 2, 3, 4, 5, 6, 7, 8, 9, 10, 11, 12, 13], [0, 1, 2, 3, 4, 5, 6, 7, 8, 9, 10, 11, 12, 13, 14], [0, 1, 2, 3, 4, 5, 6, 7, 8, 9, 10, 11, 12, 13, 14, 15], [0, 1, 2, 3, 4, 5, 6, 7, 8, 9, 10, 11, 12, 13, 14, 15, 16], [0, 1, 2, 3, 4, 5, 6, 7, 8, 9, 10, 11, 12, 13, 14], [0, 1, 2, 3, 4, 5, 6, 7, 8, 9, 10, 11, 12, 13, 14, 18], [0, 1, 2, 3, 4, 5, 6, 7, 8, 9, 10, 11, 12, 13, 14, 15, 16, 17, 18, 19], [0, 1, 2, 3, 4, 5, 6, 7, 8, 9, 10, 11, 12, 13, 14, 15, 16, 17, 18, 19, 20], [0, 1, 2, 3, 4, 5, 6, 7, 8, 9, 10, 11, 12, 13, 14, 15, 16, 17, 18, 19, 20, 21], [0, 1, 2, 3, 4, 5, 6, 7, 8, 9, 10, 11, 12, 13, 14, 15, 16, 17, 18, 19, 20, 21, 22], [0, 1, 2, 3, 4, 5, 6, 7, 8, 9, 10, 11, 12, 13, 14, 15, 16, 17, 18, 19, 20, 21, 22, 23], [0, 1, 2, 3, 4, 5, 6, 7, 8, 9, 10, 11, 12, 13, 14, 15, 16, 17, 18, 19, 20, 21, 22, 23, 24], [0, 1, 2, 3, 4, 5, 6, 7, 8, 9, 10, 11, 12, 13, 14, 15, 16, 17, 18, 19, 20, 21, 22], [0, 1, 2, 3, 4, 5, 6, 7, 8, 9, 10, 11, 12, 13, 14, 15, 16, 17, 18, 19, 20, 21, 22, 26], [0, 1, 2, 3, 4, 5, 6, 7, 8, 9, 10, 11, 12, 13, 14, 15, 16, 17, 18, 19, 20, 21, 22, 23, 24, 25, 26, 27], [0, 1, 2, 3, 4, 5, 6, 7, 8, 9, 10, 11, 12, 13, 14, 15, 16, 17, 18, 19, 20, 21, 22, 23, 24, 25, 26, 27, 28], [0, 1, 2, 3, 4, 5, 6, 7, 8, 9, 10, 11, 12, 13, 14, 15, 16, 17, 18, 19, 20, 21, 22, 23, 24, 25, 26, 27, 28, 29]] [1, 4, 8, 11, 16, 19, 24, 27] [] (by kernel_rfl) (by kernel_rfl) rfl ?_
 show DK _ [0, 1, 2, 3, 4, 5, 6, 7, 8, 9, 10, 11, 12, 13, 14, 15, 16, 17, 18, 19, 20, 21, 22, 23, 24, 25, 26, 27, 28, 29, 30] _ _ _
 refine .q rfl (op_fieldAddr (m := 0) Tryd.underlying30 rfl (by kernel_rfl) rfl) trivial ?_
 refine .as (.ptr 1000 1) rfl ?_
 refine .q rfl (op_load Tryd.underlying22 rfl rfl rfl rfl (by show 1 < 5; decide)) trivial ?_
 refine .q rfl (op_len_fsl Tryd.underlying22 rfl) trivial ?_
 refine .q rfl (op_move rfl) trivial ?_
 refine .q rfl (op_callClo (args := [.str [117]]) (args2 := [.ptr 500 0]) (U := []) [(500, 1008)] [] (cnt_ev [117] fields (by decide) hf) Tryd.func34 (by kernel_rfl) rfl rfl rfl rfl rfl rfl ⟨⟨_, rfl, rfl, rfl⟩, trivial⟩ ⟨⟨_, _, rfl, rfl, rfl, rfl, (fun h => by cases h), rfl⟩, trivial⟩ trivial ⟨(fun h => by cases h), trivial⟩ rfl) trivial ?_
 refine .q rfl (op_cmpI rfl rfl rfl) trivial ?_
 refine .q rfl (op_move rfl) trivial ?_
 refine .know (b' := true) (decide_eq_true (by omega)) ?_
 refine .q rfl (op_fieldAddr (m := 0) Tryd.underlying30 rfl (by kernel_rfl) rfl) ⟨_, rfl, rfl⟩ ?_
 refine .as (.ptr 1000 2) rfl ?_
 refine .q rfl (op_load Tryd.underlying23 rfl rfl rfl rfl (by show 2 < 5; decide)) ⟨_, rfl, rfl⟩ ?_
 refine .q rfl (op_len_dsl Tryd.underlying23 rfl) ⟨_, rfl, rfl⟩ ?_
 refine .q rfl (op_move rfl) ⟨_, rfl, rfl⟩ ?_
 refine .q rfl (op_callClo (args := [.str [115, 99, 114]]) (args2 := [.ptr 500 0]) (U := []) [(500, 1008)] [] (cnt_ev [115, 99, 114] fields (by decide) hf) Tryd.func34 (by kernel_rfl) rfl rfl rfl rfl rfl rfl ⟨⟨_, rfl, rfl, rfl⟩, trivial⟩ ⟨⟨_, _, rfl, rfl, rfl, rfl, (fun h => by cases h), rfl⟩, trivial⟩ trivial ⟨(fun h => by cases h), trivial⟩ rfl) ⟨_, rfl, rfl⟩ ?_
 refine .q rfl (op_cmpI rfl rfl rfl) ⟨_, rfl, rfl⟩ ?_
 refine .q rfl (op_pick_true rfl rfl rfl) trivial ?_
 refine .q rfl (op_move rfl) trivial ?_
 refine .know (b' := true) (decide_eq_true (by omega)) ?_
 refine .q rfl (op_fieldAddr (m := 0) Tryd.underlying30 rfl (by kernel_rfl) rfl) ⟨_, rfl, rfl⟩ ?_
 refine .as (.ptr 1000 3) rfl ?_
 refine .q rfl (op_load Tryd.underlying24 rfl rfl rfl rfl (by show 3 < 5; decide)) ⟨_, rfl, rfl⟩ ?_
 refine .q rfl (op_len_fsl Tryd.underlying24 rfl) ⟨_, rfl, rfl⟩ ?_
 refine .q rfl (op_move rfl) ⟨_, rfl, rfl⟩ ?_
 refine .q rfl (op_callClo (args := [.str [110]]) (args2 := [.ptr 500 0]) (U := []) [(500, 1008)] [] (cnt_ev [110] fields (by decide) hf) Tryd.func34 (by kernel_rfl) rfl rfl rfl rfl rfl rfl ⟨⟨_, rfl, rfl, rfl⟩, trivial⟩ ⟨⟨_, _, rfl, rfl, rfl, rfl, (fun h => by cases h), rfl⟩, trivial⟩ trivial ⟨(fun h => by cases h), trivial⟩ rfl) ⟨_, rfl, rfl⟩ ?_
 refine .q rfl (op_cmpI rfl rfl rfl) ⟨_, rfl, rfl⟩ ?_
 refine .q rfl (op_pick_true rfl rfl rfl) trivial ?_
 refine .q rfl (op_move rfl) trivial ?_
 refine .know (b' := true) (decide_eq_true (by omega)) ?_
 refine .q rfl (op_fieldAddr (m := 0) Tryd.underlying30 rfl (by kernel_rfl) rfl) ⟨_, rfl, rfl⟩ ?_
 refine .as (.ptr 1000 4) rfl ?_
 refine .q rfl (op_load Tryd.underlying25 rfl rfl rfl rfl (by show 4 < 5; decide)) ⟨_, rfl, rfl⟩ ?_
 refine .q rfl (op_len_fsl Tryd.underlying25 rfl) ⟨_, rfl, rfl⟩ ?_
 refine .q rfl (op_move rfl) ⟨_, rfl, rfl⟩ ?_
 refine .q rfl (op_callClo (args := [.str [98]]) (args2 := [.ptr 500 0]) (U := []) [(500, 1008)] [] (cnt_ev [98] fields (by decide) hf) Tryd.func34 (by kernel_rfl) rfl rfl rfl rfl rfl rfl ⟨⟨_, rfl, rfl, rfl⟩, trivial⟩ ⟨⟨_, _, rfl, rfl, rfl, rfl, (fun h => by cases h), rfl⟩, trivial⟩ trivial ⟨(fun h => by cases h), trivial⟩ rfl) ⟨_, rfl, rfl⟩ ?_
 refine .q rfl (op_cmpI rfl rfl rfl) ⟨_, rfl, rfl⟩ ?_
 refine .q rfl (op_pick_true rfl rfl rfl) trivial ?_
 refine .q rfl (op_assign rfl) trivial ?_
 refine .nil ?_
 show Ev _ _ _ _ _
 refine .ret ?_
 show RetOk _ _ _ _ _ _ _
 exact ret1v rfl (.inl rfl) rfl (congrArg AV.bool (decide_eq_false (by omega))) trivial
set_option maxRecDepth 100000 in
theorem counts_4 (k : Int) (us : List UInt32) (ss : List (List UInt8)) (ns : List (List (List UInt8))) (bs : List Bool) (fields : List UInt8) (hf : fields.length ≤ 100) (h0 : us.length = cntL [117] fields) (h1 : ss.length = cntL [115, 99, 114] fields) (h2 : ns.length = cntL [110] fields) (h3 : bs.length = cntL [98] fields) : Meets Tryd.prog 17 [.agg [.i64 k, .fsl (List.map AV.u32 us) (us).length 1, .dsl ss, .fsl (List.map AV.dsl ns) (ns).length 1, .fsl (List.map AV.bool bs) (bs).length 1], .str fields] [] (.bool true) [] := by
 refine meets_of_ev (nt := 37) Tryd.func17 rfl rfl (Nat.le_of_ble_eq_true rfl) ?_
 refine .seq ?_
 refine .region ?_
 refine .a (op_boxRow rfl rfl) trivial rfl ?_
 refine .a (op_boxOne rfl rfl) trivial rfl ?_
 refine .q (op_assign rfl) trivial rfl ?_
 refine .nil ?_
 show Ev _ _ _ _ _
 refine .seq ?_
 refine .region ?_
 refine .q (op_makeFunc1 rfl) trivial rfl ?_
 refine .q (op_assign rfl) trivial rfl ?_
 refine .nil ?_
 show Ev _ _ _ _ _
 refine .seq ?_
 refine .drawn [[], [0], [0, 1], [], [3], [0, 1, 2, 3, 4], [0, 1, 2, 3, 4, 5], [0, 1, 2, 3, 4, 5, 6], [0, 1, 2, 3, 4, 5, 6, 7], [0, 1, 2, 3, 4, 5, 6, 7, 8], [0, 1, 2, 3, 4, 5, 6], [0, 1, 2, 3, 4, 5, 6, 10], [0, 1, 2, 3, 4, 5, 6, 7, 8, 9, 10, 11], [0, 1, 2, 3, 4, 5, 6, 7, 8, 9, 10, 11, 12], [0, 1, 2, 3, 4, 5, 6, 7, 8, 9, 10, 11, 12, 13], [0, 1, 2, 3, 4, 5, 6, 7, 8, 9, 10, 11, 12, 13, 14], [0, 1, 2, 3, 4, 5, 6, 7, 8, 9, 10, 11, 12, 13, 14, 15], [0, 1, 2, 3, 4, 5, 6, 7, 8, 9, 10, 11, 12, 13, 14, 15, 16], [0, 1, 2, 3, 4, 5, 6, 7, 8, 9, 10, 11, 12, 13, 14], [0, 1, 2, 3, 4, 5, 6, 7, 8, 9, 10, 11, 12, 13, 14, 18], [0, 1, 2, 3, 4, 5, 6, 7, 8, 9, 10, 11, 12, 13, 14, 15, 16, 17, 18, 19], [0, 1, 2, 3, 4, 5, 6, 7, 8, 9, 10, 11, 12, 13, 14, 15, 16, 17, 18, 19, 20], [0, 1, 2, 3, 4, 5, 6, 7, 8, 9, 10, 11, 12, 13, 14, 15, 16, 17, 18, 19, 20, 21], [0, 1, 2, 3, 4, 5, 6, 7, 8, 9, 10, 11, 12, 13, 14, 15, 16, 17, 18, 19, 20, 21, 22], [0, 1, 2, 3, 4, 5, 6, 7, 8, 9, 10, 11, 12, 13, 14, 15, 16, 17, 18, 19, 20, 21, 22, 23], [0, 1, 2, 3, 4, 5, 6, 7, 8, 9, 10, 11, 12, 13, 14, 15, 16, 17, 18, 19, 20, 21, 22, 23, 24], [0, 1, 2, 3, 4, 5, 6, 7, 8, 9, 10, 11, 12, 13, 14, 15, 16, 17, 18, 19, 20, 21, 22], [0, 1, 2, 3, 4, 5, 6, 7, 8, 9, 10, 11, 12, 13, 14, 15, 16, 17, 18, 19, 20, 21, 22, 26], [0, 1, 2, 3, 4, 5, 6, 7, 8, 9, 10, 11, 12, 13, 14, 15, 16, 17, 18, 19, 20, 21, 22, 23, 24, 25, 26, 27], [0, 1, 2, 3, 4, 5, 6, 7, 8, 9, 10, 11, 12, 13, 14, 15, 16, 17, 18, 19, 20, 21, 22, 23, 24, 25, 26, 27, 28], [0, 1, 2, 3, 4, 5, 6, 7, 8, 9, 10, 11, 12, 13, 14, 15, 16, 17, 18, 19, 20, 21, 22, 23, 24, 25, 26, 27, 28, 29]] [1, 4, 8, 11, 16, 19, 24, 27] [] (by kernel_rfl) (by kernel_rfl) rfl ?_
 show DK _ [0, 1, 2, 3, 4, 5, 6, 7, 8, 9, 10, 11, 12, 13, 14, 15, 16, 17, 18, 19, 20, 21, 22, 23, 24, 25, 26, 27, 28, 29, 30] _ _ _
 refine .q rfl (op_fieldAddr (m := 0) Tryd.underlying30 rfl (by kernel_rfl) rfl) trivial ?_
 refine .as (.ptr 1000 1) rfl ?_
 refine .q rfl (op_load Tryd.underlying22 rfl rfl rfl rfl (by show 1 < 5; decide)) trivial ?_
 refine .q rfl (op_len_fsl Tryd.underlying22 rfl) trivial ?_
 refine .q rfl (op_move rfl) trivial ?_
 refine .q rfl (op_callClo (args := [.str [117]]) (args2 := [.ptr 500 0]) (U := []) [(500, 1008)] [] (cnt_ev [117] fields (by decide) hf) Tryd.func34 (by kernel_rfl) rfl rfl rfl rfl rfl rfl ⟨⟨_, rfl, rfl, rfl⟩, trivial⟩ ⟨⟨_, _, rfl, rfl, rfl, rfl, (fun h => by cases h), rfl⟩, trivial⟩ trivial ⟨(fun h => by cases h), trivial⟩ rfl) trivial ?_
 refine .q rfl (op_cmpI rfl rfl rfl) trivial ?_
 refine .q rfl (op_move rfl) trivial ?_
 refine .know (b' := true) (decide_eq_true (by omega)) ?_
 refine .q rfl (op_fieldAddr (m := 0) Tryd.underlying30 rfl (by kernel_rfl) rfl) ⟨_, rfl, rfl⟩ ?_
 refine .as (.ptr 1000 2) rfl ?_
 refine .q rfl (op_load Tryd.underlying23 rfl rfl rfl rfl (by show 2 < 5; decide)) ⟨_, rfl, rfl⟩ ?_
 refine .q rfl (op_len_dsl Tryd.underlying23 rfl) ⟨_, rfl, rfl⟩ ?_
 refine .q rfl (op_move rfl) ⟨_, rfl, rfl⟩ ?_
 refine .q rfl (op_callClo (args := [.str [115, 99, 114]]) (args2 := [.ptr 500 0]) (U := []) [(500, 1008)] [] (cnt_ev [115, 99, 114] fields (by decide) hf) Tryd.func34 (by kernel_rfl) rfl rfl rfl rfl rfl rfl ⟨⟨_, rfl, rfl, rfl⟩, trivial⟩ ⟨⟨_, _, rfl, rfl, rfl, rfl, (fun h => by cases h), rfl⟩, trivial⟩ trivial ⟨(fun h => by cases h), trivial⟩ rfl) ⟨_, rfl, rfl⟩ ?_
 refine .q rfl (op_cmpI rfl rfl rfl) ⟨_, rfl, rfl⟩ ?_
 refine .q rfl (op_pick_true rfl rfl rfl) trivial ?_
 refine .q rfl (op_move rfl) trivial ?_
 refine .know (b' := true) (decide_eq_true (by omega)) ?_
 refine .q rfl (op_fieldAddr (m := 0) Tryd.underlying30 rfl (by kernel_rfl) rfl) ⟨_, rfl, rfl⟩ ?_
 refine .as (.ptr 1000 3) rfl ?_
 refine .q rfl (op_load Tryd.underlying24 rfl rfl rfl rfl (by show 3 < 5; decide)) ⟨_, rfl, rfl⟩ ?_
 refine .q rfl (op_len_fsl Tryd.underlying24 rfl) ⟨_, rfl, rfl⟩ ?_
 refine .q rfl (op_move rfl) ⟨_, rfl, rfl⟩ ?_
 refine .q rfl (op_callClo (args := [.str [110]]) (args2 := [.ptr 500 0]) (U := []) [(500, 1008)] [] (cnt_ev [110] fields (by decide) hf) Tryd.func34 (by kernel_rfl) rfl rfl rfl rfl rfl rfl ⟨⟨_, rfl, rfl, rfl⟩, trivial⟩ ⟨⟨_, _, rfl, rfl, rfl, rfl, (fun h => by cases h), rfl⟩, trivial⟩ trivial ⟨(fun h => by cases h), trivial⟩ rfl) ⟨_, rfl, rfl⟩ ?_
 refine .q rfl (op_cmpI rfl rfl rfl) ⟨_, rfl, rfl⟩ ?_
 refine .q rfl (op_pick_true rfl rfl rfl) trivial ?_
 refine .q rfl (op_move rfl) trivial ?_
 refine .know (b' := true) (decide_eq_true (by omega)) ?_
 refine .q rfl (op_fieldAddr (m := 0) Tryd.underlying30 rfl (by kernel_rfl) rfl) ⟨_, rfl, rfl⟩ ?_
 refine .as (.ptr 1000 4) rfl ?_
 refine .q rfl (op_load Tryd.underlying25 rfl rfl rfl rfl (by show 4 < 5; decide)) ⟨_, rfl, rfl⟩ ?_
 refine .q rfl (op_len_fsl Tryd.underlying25 rfl) ⟨_, rfl, rfl⟩ ?_
 refine .q rfl (op_move rfl) ⟨_, rfl, rfl⟩ ?_
 refine .q rfl (op_callClo (args := [.str [98]]) (args2 := [.ptr 500 0]) (U := []) [(500, 1008)] [] (cnt_ev [98] fields (by decide) hf) Tryd.func34 (by kernel_rfl) rfl rfl rfl rfl rfl rfl ⟨⟨_, rfl, rfl, rfl⟩, trivial⟩ ⟨⟨_, _, rfl, rfl, rfl, rfl, (fun h => by cases h), rfl⟩, trivial⟩ trivial ⟨(fun h => by cases h), trivial⟩ rfl) ⟨_, rfl, rfl⟩ ?_
 refine .q rfl (op_cmpI rfl rfl rfl) ⟨_, rfl, rfl⟩ ?_
 refine .q rfl (op_pick_true rfl rfl rfl) trivial ?_
 refine .q rfl (op_assign rfl) trivial ?_
 refine .nil ?_
 show Ev _ _ _ _ _
 refine .ret ?_
 show RetOk _ _ _ _ _ _ _
 exact ret1v rfl (.inl rfl) rfl (congrArg AV.bool (decide_eq_true (by omega))) trivial
theorem counts_any (k : Int) (us : List UInt32) (ss : List (List UInt8)) (ns : List (List (List UInt8))) (bs : List Bool) (fields : List UInt8) (hf : fields.length ≤ 100) : Meets Tryd.prog 17 [.agg [.i64 k, .fsl (List.map AV.u32 us) (us).length 1, .dsl ss, .fsl (List.map AV.dsl ns) (ns).length 1, .fsl (List.map AV.bool bs) (bs).length 1], .str fields] [] (.bool (cntB us ss ns bs fields)) [] := by
 by_cases h0 : us.length = cntL [117] fields
 ·by_cases h1 : ss.length = cntL [115, 99, 114] fields
  ·by_cases h2 : ns.length = cntL [110] fields
   ·by_cases h3 : bs.length = cntL [98] fields
    ·rw [show cntB us ss ns bs fields = true by simp only [cntB, decide_eq_true h0, decide_eq_true h1, decide_eq_true h2, decide_eq_true h3]; rfl]
     exact counts_4 k us ss ns bs fields hf h0 h1 h2 h3
    ·rw [show cntB us ss ns bs fields = false by simp only [cntB, decide_eq_false h3, Bool.and_false]]
     exact counts_3 k us ss ns bs fields hf h0 h1 h2 h3
   ·rw [show cntB us ss ns bs fields = false by simp only [cntB, decide_eq_false h2, Bool.and_false, Bool.false_and]]
    exact counts_2 k us ss ns bs fields hf h0 h1 h2
  ·rw [show cntB us ss ns bs fields = false by simp only [cntB, decide_eq_false h1, Bool.and_false, Bool.false_and]]
   exact counts_1 k us ss ns bs fields hf h0 h1
 ·rw [show cntB us ss ns bs fields = false by simp only [cntB, decide_eq_false h0, Bool.false_and]]
  exact counts_0 k us ss ns bs fields hf h0
set_option maxRecDepth 100000 in
theorem valid_bad (k : Int) (us : List UInt32) (ss : List (List UInt8)) (ns : List (List (List UInt8))) (bs : List Bool) (fields : List UInt8) (hc0 : 0 ≤ Lib.indexByte fields 99) (hs : 0 < ss.length) (h16 : (((((ss.getD 0 []).length : Nat) : Int)) != 16) = true) : Meets Tryd.prog 18 [.agg [.i64 k, .fsl (List.map AV.u32 us) (us).length 1, .dsl ss, .fsl (List.map AV.dsl ns) (ns).length 1, .fsl (List.map AV.bool bs) (bs).length 1], .str fields] [] (.bool false) [] := by
 refine meets_of_ev (nt := 37) Tryd.func18 rfl rfl (Nat.le_of_ble_eq_true rfl) ?_
 refine .seq ?_
 refine .region ?_
 refine .a (op_boxRow rfl rfl) trivial rfl ?_
 refine .q (op_assign rfl) trivial rfl ?_
 refine .nil ?_
 show Ev _ _ _ _ _
 refine .seq ?_
 refine .seq ?_
 refine .region ?_
 refine .q (op_move rfl) trivial rfl ?_
 refine .q (op_call (U := []) [] [] (contains_ev fields 99) Tryd.func36 (by kernel_rfl) rfl rfl rfl (⟨⟨_, rfl, rfl, rfl⟩, ⟨_, rfl, rfl, rfl⟩, trivial⟩) (trivial) (trivial) (trivial) rfl) trivial rfl ?_
 refine .q (op_move rfl) trivial rfl ?_
 refine .know (b' := true) (decide_eq_true hc0) ?_
 refine .q (op_fieldAddr (m := 0) Tryd.underlying30 rfl (by kernel_rfl) rfl) ⟨_, rfl, rfl⟩ rfl ?_
 refine .as (.ptr 1000 2) rfl ?_
 refine .q (op_load Tryd.underlying23 rfl rfl rfl rfl (by show 2 < 5; decide)) ⟨_, rfl, rfl⟩ rfl ?_
 refine .q (op_indexAddr_dsl Tryd.underlying23 inf9.sz rfl rfl (i := 0) rfl (hs)) ⟨_, rfl, rfl⟩ rfl ?_
 refine .q (op_load_dptr Tryd.underlying9 rfl rfl (drop_get hs)) ⟨_, rfl, rfl⟩ rfl ?_
 refine .q (op_len_str Tryd.underlying9 rfl) ⟨_, rfl, rfl⟩ rfl ?_
 refine .q (op_cmpI rfl rfl rfl) ⟨_, rfl, rfl⟩ rfl ?_
 refine .q (op_pick_true rfl rfl rfl) trivial rfl ?_
 refine .nil ?_
 show Ev _ _ _ _ _
 refine .cond_true rfl (h16) ?_
 refine .seq ?_
 refine .region ?_
 refine .q (op_assign rfl) trivial rfl ?_
 refine .nil ?_
 show Ev _ _ _ _ _
 refine .ret ?_
 show RetOk _ _ _ _ _ _ _
 exact ret1v rfl (.inl rfl) rfl (rfl) trivial
set_option maxRecDepth 100000 in
theorem valid_kex (k : Int) (us : List UInt32) (ss : List (List UInt8)) (ns : List (List (List UInt8))) (bs : List Bool) (fields : List UInt8) (hc0 : 0 ≤ Lib.indexByte fields 99) (hs : 0 < ss.length) (h16 : (((((ss.getD 0 []).length : Nat) : Int)) != 16) = false) (hnl : ns.length ≤ 1000) (hnn : ∀ i, (ns.getD i []).length ≤ 1000) (hnj : ∀ i j, ((ns.getD i []).getD j []).length ≤ 1000) : Meets Tryd.prog 18 [.agg [.i64 k, .fsl (List.map AV.u32 us) (us).length 1, .dsl ss, .fsl (List.map AV.dsl ns) (ns).length 1, .fsl (List.map AV.bool bs) (bs).length 1], .str fields] [] (.bool (namB ns)) [] := by
 refine meets_of_ev (nt := 37) Tryd.func18 rfl rfl (Nat.le_of_ble_eq_true rfl) ?_
 refine .seq ?_
 refine .region ?_
 refine .a (op_boxRow rfl rfl) trivial rfl ?_
 refine .q (op_assign rfl) trivial rfl ?_
 refine .nil ?_
 show Ev _ _ _ _ _
 refine .seq ?_
 refine .seq ?_
 refine .region ?_
 refine .q (op_move rfl) trivial rfl ?_
 refine .q (op_call (U := []) [] [] (contains_ev fields 99) Tryd.func36 (by kernel_rfl) rfl rfl rfl (⟨⟨_, rfl, rfl, rfl⟩, ⟨_, rfl, rfl, rfl⟩, trivial⟩) (trivial) (trivial) (trivial) rfl) trivial rfl ?_
 refine .q (op_move rfl) trivial rfl ?_
 refine .know (b' := true) (decide_eq_true hc0) ?_
 refine .q (op_fieldAddr (m := 0) Tryd.underlying30 rfl (by kernel_rfl) rfl) ⟨_, rfl, rfl⟩ rfl ?_
 refine .as (.ptr 1000 2) rfl ?_
 refine .q (op_load Tryd.underlying23 rfl rfl rfl rfl (by show 2 < 5; decide)) ⟨_, rfl, rfl⟩ rfl ?_
 refine .q (op_indexAddr_dsl Tryd.underlying23 inf9.sz rfl rfl (i := 0) rfl (hs)) ⟨_, rfl, rfl⟩ rfl ?_
 refine .q (op_load_dptr Tryd.underlying9 rfl rfl (drop_get hs)) ⟨_, rfl, rfl⟩ rfl ?_
 refine .q (op_len_str Tryd.underlying9 rfl) ⟨_, rfl, rfl⟩ rfl ?_
 refine .q (op_cmpI rfl rfl rfl) ⟨_, rfl, rfl⟩ rfl ?_
 refine .q (op_pick_true rfl rfl rfl) trivial rfl ?_
 refine .nil ?_
 show Ev _ _ _ _ _
 refine .cond_false rfl (h16) ?_
 refine .skip ?_
 show Ev _ _ _ _ _
 refine .seq ?_
 refine .seq ?_
 refine .region ?_
 refine .q (op_fieldAddr (m := 0) Tryd.underlying30 rfl (by kernel_rfl) rfl) trivial rfl ?_
 refine .as (.ptr 1000 3) rfl ?_
 refine .q (op_load Tryd.underlying24 rfl rfl rfl rfl (by show 3 < 5; decide)) trivial rfl ?_
 refine .q (op_len_fsl Tryd.underlying24 rfl) trivial rfl ?_
 refine .q (op_move rfl) trivial rfl ?_
 refine .nil ?_
 show Ev _ _ _ _ _
 refine .block ?_
 refine Ev.loop (ι := { i : Nat // i ≤ ns.length ∧ namB (ns.take i) = true }) (fun q => ⟨[(20, .fsl (List.map AV.dsl ns) ns.length 1), (21, .i64 ((ns.length : Nat) : Int)), (22, .i64 ((q.1 : Nat) : Int))], [], 1008⟩) (fun q => ns.length - q.1) ⟨0, Nat.zero_le _, rfl⟩ (StLe.mk [] rfl rfl ⟨⟨_, rfl, by first | rfl | (simp only [AV.ren]; congr 1; omega), rfl⟩, ⟨_, rfl, by first | rfl | (simp only [AV.ren]; congr 1; omega), rfl⟩, ⟨_, rfl, by first | rfl | (simp only [AV.ren]; congr 1; omega), rfl⟩, trivial⟩ trivial) ?_
 rintro ⟨i, hi, hna⟩
 dsimp only
 refine .seq ?_
 refine .region ?_
 refine .q (op_cmpI rfl rfl rfl) trivial rfl ?_
 refine .nil ?_
 show Ev _ _ _ _ _
 refine .seq ?_
 refine .cond rfl (fun hc23 => ?_) (fun hc23 => ?_)
 ·simp only [decide_eq_true_eq] at hc23
  refine .skip ?_
  show Ev _ _ _ _ _
  refine .seq ?_
  refine .block ?_
  refine .seq ?_
  refine .region ?_
  refine .q (op_indexAddr_fsl (z := 1) Tryd.underlying24 inf23.sz (by decide) rfl rfl rfl (by first | omega | (simp only [AV.len]; omega) | (simp only [AV.len, List.length_set]; omega) | assumption | (simp [AV.len]; done))) trivial rfl ?_
  refine .q (op_load_fptr Tryd.underlying23 rfl rfl (get_names (by omega))) trivial rfl ?_
  refine .q (op_assign rfl) trivial rfl ?_
  refine .nil ?_
  show Ev _ _ _ _ _
  refine .seq ?_
  refine .region ?_
  refine .q (op_move rfl) trivial rfl ?_
  refine .q (op_len_dsl Tryd.underlying23 rfl) trivial rfl ?_
  refine .q (op_move rfl) trivial rfl ?_
  refine .nil ?_
  show Ev _ _ _ _ _
  refine .block ?_
  refine Ev.loop (ι := { j : Nat // j ≤ (ns.getD i []).length ∧ ((ns.getD i []).take j).all nameOk = true }) (fun q => ⟨[(20, .fsl (List.map AV.dsl ns) ns.length 1), (21, .i64 ((ns.length : Nat) : Int)), (22, .i64 ((i : Nat) : Int)), (26, .dsl (ns.getD i [])), (27, .i64 (((ns.getD i []).length : Nat) : Int)), (28, .i64 ((q.1 : Nat) : Int))], [], 1008⟩) (fun q => (ns.getD i []).length - q.1) ⟨0, Nat.zero_le _, rfl⟩ (StLe.mk [] rfl rfl ⟨⟨_, rfl, by first | rfl | (simp only [AV.ren]; congr 1; omega), rfl⟩, ⟨_, rfl, by first | rfl | (simp only [AV.ren]; congr 1; omega), rfl⟩, ⟨_, rfl, by first | rfl | (simp only [AV.ren]; congr 1; omega), rfl⟩, ⟨_, rfl, by first | rfl | (simp only [AV.ren]; congr 1; omega), rfl⟩, ⟨_, rfl, by first | rfl | (simp only [AV.ren]; congr 1; omega), rfl⟩, ⟨_, rfl, by first | rfl | (simp only [AV.ren]; congr 1; omega), rfl⟩, trivial⟩ trivial) ?_
  rintro ⟨j, hj, hja⟩
  dsimp only
  refine .seq ?_
  refine .region ?_
  refine .q (op_cmpI rfl rfl rfl) trivial rfl ?_
  refine .nil ?_
  show Ev _ _ _ _ _
  refine .seq ?_
  refine .cond rfl (fun hc29 => ?_) (fun hc29 => ?_)
  ·simp only [decide_eq_true_eq] at hc29
   refine .skip ?_
   show Ev _ _ _ _ _
   refine .seq ?_
   refine .block ?_
   refine .seq ?_
   refine .region ?_
   have hlt : j < (ns.getD i []).length := by omega
   refine .q (op_indexAddr_dsl Tryd.underlying23 inf9.sz rfl rfl rfl (by first | omega | (simp only [AV.len]; omega) | (simp only [AV.len, List.length_set]; omega) | assumption | (simp [AV.len]; done))) trivial rfl ?_
   refine .q (op_load_dptr Tryd.underlying9 rfl rfl (drop_get (by omega))) trivial rfl ?_
   refine .q (op_assign rfl) trivial rfl ?_
   refine .nil ?_
   show Ev _ _ _ _ _
   refine .seq ?_
   refine .region ?_
   refine .q (op_move rfl) trivial rfl ?_
   refine .q (op_call (U := []) [] [] (wname_ev ((ns.getD i []).getD j []) (Nat.le_trans (hnj i j) (by decide))) Tryd.func37 (by kernel_rfl) rfl rfl rfl (⟨⟨_, rfl, rfl, rfl⟩, trivial⟩) (trivial) (trivial) (trivial) rfl) trivial rfl ?_
   refine .q (op_notB rfl) trivial rfl ?_
   refine .nil ?_
   show Ev _ _ _ _ _
   refine .cond rfl (fun hc34 => ?_) (fun hc34 => ?_)
   ·skip
    refine .seq ?_
    have hbad : nameOk ((ns.getD i []).getD j []) = false := by cases h9 : nameOk ((ns.getD i []).getD j []) with
     | false => rfl
     | true => rw [h9] at hc34; cases hc34
    have hall : namB ns = false := alls_no (show i < ns.length by omega) (all_no hlt hbad)
    refine .region ?_
    refine .q (op_assign rfl) trivial rfl ?_
    refine .nil ?_
    show Ev _ _ _ _ _
    refine .ret ?_
    show RetOk _ _ _ _ _ _ _
    exact ret1v rfl (.inl rfl) rfl (congrArg AV.bool hall.symm) trivial
   ·skip
    refine .skip ?_
    show Ev _ _ _ _ _
    refine .region ?_
    have hok : nameOk ((ns.getD i []).getD j []) = true := by cases h9 : nameOk ((ns.getD i []).getD j []) with
     | true => rfl
     | false => rw [h9] at hc34; cases hc34
    refine .q (op_addI rfl rfl ⟨by have := hnn i; omega, by have := hnn i; omega⟩) trivial rfl ?_
    refine .q (op_move rfl) trivial rfl ?_
    refine .nil ?_
    exact ⟨⟨j + 1, by omega, all_step hlt hja hok⟩, by show (ns.getD i []).length - (j + 1) < (ns.getD i []).length - j; omega, StLe.mk [] rfl rfl ⟨⟨_, rfl, by first | rfl | (simp only [AV.ren]; congr 1; omega), rfl⟩, ⟨_, rfl, by first | rfl | (simp only [AV.ren]; congr 1; omega), rfl⟩, ⟨_, rfl, by first | rfl | (simp only [AV.ren]; congr 1; omega), rfl⟩, ⟨_, rfl, by first | rfl | (simp only [AV.ren]; congr 1; omega), rfl⟩, ⟨_, rfl, by first | rfl | (simp only [AV.ren]; congr 1; omega), rfl⟩, ⟨_, rfl, by first | rfl | (simp only [AV.ren]; congr 1; omega), rfl⟩, trivial⟩ trivial⟩
  ·simp only [decide_eq_false_iff_not] at hc29
   refine .exit ?_
   show Ev _ _ _ _ _
   have hla : (ns.getD i []).all nameOk = true := by rw [← hja, List.take_of_length_le (by omega)]
   refine .region ?_
   refine .q (op_addI rfl rfl ⟨by omega, by omega⟩) trivial rfl ?_
   refine .q (op_move rfl) trivial rfl ?_
   refine .nil ?_
   exact ⟨⟨i + 1, by omega, alls_step (show i < ns.length by omega) hna hla⟩, by show ns.length - (i + 1) < ns.length - i; omega, StLe.mk [] rfl rfl ⟨⟨_, rfl, by first | rfl | (simp only [AV.ren]; congr 1; omega), rfl⟩, ⟨_, rfl, by first | rfl | (simp only [AV.ren]; congr 1; omega), rfl⟩, ⟨_, rfl, by first | rfl | (simp only [AV.ren]; congr 1; omega), rfl⟩, trivial⟩ trivial⟩
 ·simp only [decide_eq_false_iff_not] at hc23
  refine .exit ?_
  show Ev _ _ _ _ _
  have hall : namB ns = true := by rw [← hna, List.take_of_length_le (by omega)]
  refine .seq ?_
  refine .region ?_
  refine .q (op_assign rfl) trivial rfl ?_
  refine .nil ?_
  show Ev _ _ _ _ _
  refine .ret ?_
  show RetOk _ _ _ _ _ _ _
  exact ret1v rfl (.inl rfl) rfl (congrArg AV.bool hall.symm) trivial
set_option maxRecDepth 100000 in
theorem valid_not (k : Int) (us : List UInt32) (ss : List (List UInt8)) (ns : List (List (List UInt8))) (bs : List Bool) (fields : List UInt8) (hc0 : ¬ 0 ≤ Lib.indexByte fields 99) (hnl : ns.length ≤ 1000) (hnn : ∀ i, (ns.getD i []).length ≤ 1000) (hnj : ∀ i j, ((ns.getD i []).getD j []).length ≤ 1000) : Meets Tryd.prog 18 [.agg [.i64 k, .fsl (List.map AV.u32 us) (us).length 1, .dsl ss, .fsl (List.map AV.dsl ns) (ns).length 1, .fsl (List.map AV.bool bs) (bs).length 1], .str fields] [] (.bool (namB ns)) [] := by
 refine meets_of_ev (nt := 37) Tryd.func18 rfl rfl (Nat.le_of_ble_eq_true rfl) ?_
 refine .seq ?_
 refine .region ?_
 refine .a (op_boxRow rfl rfl) trivial rfl ?_
 refine .q (op_assign rfl) trivial rfl ?_
 refine .nil ?_
 show Ev _ _ _ _ _
 refine .seq ?_
 refine .seq ?_
 refine .region ?_
 refine .q (op_move rfl) trivial rfl ?_
 refine .q (op_call (U := []) [] [] (contains_ev fields 99) Tryd.func36 (by kernel_rfl) rfl rfl rfl (⟨⟨_, rfl, rfl, rfl⟩, ⟨_, rfl, rfl, rfl⟩, trivial⟩) (trivial) (trivial) (trivial) rfl) trivial rfl ?_
 refine .q (op_move rfl) trivial rfl ?_
 refine .know (b' := false) (decide_eq_false hc0) ?_
 refine .no ⟨_, rfl, rfl⟩ rfl ?_
 refine .no ⟨_, rfl, rfl⟩ rfl ?_
 refine .no ⟨_, rfl, rfl⟩ rfl ?_
 refine .no ⟨_, rfl, rfl⟩ rfl ?_
 refine .no ⟨_, rfl, rfl⟩ rfl ?_
 refine .no ⟨_, rfl, rfl⟩ rfl ?_
 refine .q (op_pick_false rfl rfl rfl) trivial rfl ?_
 refine .nil ?_
 show Ev _ _ _ _ _
 refine .cond_false rfl rfl ?_
 refine .skip ?_
 show Ev _ _ _ _ _
 refine .seq ?_
 refine .seq ?_
 refine .region ?_
 refine .q (op_fieldAddr (m := 0) Tryd.underlying30 rfl (by kernel_rfl) rfl) trivial rfl ?_
 refine .as (.ptr 1000 3) rfl ?_
 refine .q (op_load Tryd.underlying24 rfl rfl rfl rfl (by show 3 < 5; decide)) trivial rfl ?_
 refine .q (op_len_fsl Tryd.underlying24 rfl) trivial rfl ?_
 refine .q (op_move rfl) trivial rfl ?_
 refine .nil ?_
 show Ev _ _ _ _ _
 refine .block ?_
 refine Ev.loop (ι := { i : Nat // i ≤ ns.length ∧ namB (ns.take i) = true }) (fun q => ⟨[(20, .fsl (List.map AV.dsl ns) ns.length 1), (21, .i64 ((ns.length : Nat) : Int)), (22, .i64 ((q.1 : Nat) : Int))], [], 1008⟩) (fun q => ns.length - q.1) ⟨0, Nat.zero_le _, rfl⟩ (StLe.mk [] rfl rfl ⟨⟨_, rfl, by first | rfl | (simp only [AV.ren]; congr 1; omega), rfl⟩, ⟨_, rfl, by first | rfl | (simp only [AV.ren]; congr 1; omega), rfl⟩, ⟨_, rfl, by first | rfl | (simp only [AV.ren]; congr 1; omega), rfl⟩, trivial⟩ trivial) ?_
 rintro ⟨i, hi, hna⟩
 dsimp only
 refine .seq ?_
 refine .region ?_
 refine .q (op_cmpI rfl rfl rfl) trivial rfl ?_
 refine .nil ?_
 show Ev _ _ _ _ _
 refine .seq ?_
 refine .cond rfl (fun hc23 => ?_) (fun hc23 => ?_)
 ·simp only [decide_eq_true_eq] at hc23
  refine .skip ?_
  show Ev _ _ _ _ _
  refine .seq ?_
  refine .block ?_
  refine .seq ?_
  refine .region ?_
  refine .q (op_indexAddr_fsl (z := 1) Tryd.underlying24 inf23.sz (by decide) rfl rfl rfl (by first | omega | (simp only [AV.len]; omega) | (simp only [AV.len, List.length_set]; omega) | assumption | (simp [AV.len]; done))) trivial rfl ?_
  refine .q (op_load_fptr Tryd.underlying23 rfl rfl (get_names (by omega))) trivial rfl ?_
  refine .q (op_assign rfl) trivial rfl ?_
  refine .nil ?_
  show Ev _ _ _ _ _
  refine .seq ?_
  refine .region ?_
  refine .q (op_move rfl) trivial rfl ?_
  refine .q (op_len_dsl Tryd.underlying23 rfl) trivial rfl ?_
  refine .q (op_move rfl) trivial rfl ?_
  refine .nil ?_
  show Ev _ _ _ _ _
  refine .block ?_
  refine Ev.loop (ι := { j : Nat // j ≤ (ns.getD i []).length ∧ ((ns.getD i []).take j).all nameOk = true }) (fun q => ⟨[(20, .fsl (List.map AV.dsl ns) ns.length 1), (21, .i64 ((ns.length : Nat) : Int)), (22, .i64 ((i : Nat) : Int)), (26, .dsl (ns.getD i [])), (27, .i64 (((ns.getD i []).length : Nat) : Int)), (28, .i64 ((q.1 : Nat) : Int))], [], 1008⟩) (fun q => (ns.getD i []).length - q.1) ⟨0, Nat.zero_le _, rfl⟩ (StLe.mk [] rfl rfl ⟨⟨_, rfl, by first | rfl | (simp only [AV.ren]; congr 1; omega), rfl⟩, ⟨_, rfl, by first | rfl | (simp only [AV.ren]; congr 1; omega), rfl⟩, ⟨_, rfl, by first | rfl | (simp only [AV.ren]; congr 1; omega), rfl⟩, ⟨_, rfl, by first | rfl | (simp only [AV.ren]; congr 1; omega), rfl⟩, ⟨_, rfl, by first | rfl | (simp only [AV.ren]; congr 1; omega), rfl⟩, ⟨_, rfl, by first | rfl | (simp only [AV.ren]; congr 1; omega), rfl⟩, trivial⟩ trivial) ?_
  rintro ⟨j, hj, hja⟩
  dsimp only
  refine .seq ?_
  refine .region ?_
  refine .q (op_cmpI rfl rfl rfl) trivial rfl ?_
  refine .nil ?_
  show Ev _ _ _ _ _
  refine .seq ?_
  refine .cond rfl (fun hc29 => ?_) (fun hc29 => ?_)
  ·simp only [decide_eq_true_eq] at hc29
   refine .skip ?_
   show Ev _ _ _ _ _
   refine .seq ?_
   refine .block ?_
   refine .seq ?_
   refine .region ?_
   have hlt : j < (ns.getD i []).length := by omega
   refine .q (op_indexAddr_dsl Tryd.underlying23 inf9.sz rfl rfl rfl (by first | omega | (simp only [AV.len]; omega) | (simp only [AV.len, List.length_set]; omega) | assumption | (simp [AV.len]; done))) trivial rfl ?_
   refine .q (op_load_dptr Tryd.underlying9 rfl rfl (drop_get (by omega))) trivial rfl ?_
   refine .q (op_assign rfl) trivial rfl ?_
   refine .nil ?_
   show Ev _ _ _ _ _
   refine .seq ?_
   refine .region ?_
   refine .q (op_move rfl) trivial rfl ?_
   refine .q (op_call (U := []) [] [] (wname_ev ((ns.getD i []).getD j []) (Nat.le_trans (hnj i j) (by decide))) Tryd.func37 (by kernel_rfl) rfl rfl rfl (⟨⟨_, rfl, rfl, rfl⟩, trivial⟩) (trivial) (trivial) (trivial) rfl) trivial rfl ?_
   refine .q (op_notB rfl) trivial rfl ?_
   refine .nil ?_
   show Ev _ _ _ _ _
   refine .cond rfl (fun hc34 => ?_) (fun hc34 => ?_)
   ·skip
    refine .seq ?_
    have hbad : nameOk ((ns.getD i []).getD j []) = false := by cases h9 : nameOk ((ns.getD i []).getD j []) with
     | false => rfl
     | true => rw [h9] at hc34; cases hc34
    have hall : namB ns = false := alls_no (show i < ns.length by omega) (all_no hlt hbad)
    refine .region ?_
    refine .q (op_assign rfl) trivial rfl ?_
    refine .nil ?_
    show Ev _ _ _ _ _
    refine .ret ?_
    show RetOk _ _ _ _ _ _ _
    exact ret1v rfl (.inl rfl) rfl (congrArg AV.bool hall.symm) trivial
   ·skip
    refine .skip ?_
    show Ev _ _ _ _ _
    refine .region ?_
    have hok : nameOk ((ns.getD i []).getD j []) = true := by cases h9 : nameOk ((ns.getD i []).getD j []) with
     | true => rfl
     | false => rw [h9] at hc34; cases hc34
    refine .q (op_addI rfl rfl ⟨by have := hnn i; omega, by have := hnn i; omega⟩) trivial rfl ?_
    refine .q (op_move rfl) trivial rfl ?_
    refine .nil ?_
    exact ⟨⟨j + 1, by omega, all_step hlt hja hok⟩, by show (ns.getD i []).length - (j + 1) < (ns.getD i []).length - j; omega, StLe.mk [] rfl rfl ⟨⟨_, rfl, by first | rfl | (simp only [AV.ren]; congr 1; omega), rfl⟩, ⟨_, rfl, by first | rfl | (simp only [AV.ren]; congr 1; omega), rfl⟩, ⟨_, rfl, by first | rfl | (simp only [AV.ren]; congr 1; omega), rfl⟩, ⟨_, rfl, by first | rfl | (simp only [AV.ren]; congr 1; omega), rfl⟩, ⟨_, rfl, by first | rfl | (simp only [AV.ren]; congr 1; omega), rfl⟩, ⟨_, rfl, by first | rfl | (simp only [AV.ren]; congr 1; omega), rfl⟩, trivial⟩ trivial⟩
  ·simp only [decide_eq_false_iff_not] at hc29
   refine .exit ?_
   show Ev _ _ _ _ _
   have hla : (ns.getD i []).all nameOk = true := by rw [← hja, List.take_of_length_le (by omega)]
   refine .region ?_
   refine .q (op_addI rfl rfl ⟨by omega, by omega⟩) trivial rfl ?_
   refine .q (op_move rfl) trivial rfl ?_
   refine .nil ?_
   exact ⟨⟨i + 1, by omega, alls_step (show i < ns.length by omega) hna hla⟩, by show ns.length - (i + 1) < ns.length - i; omega, StLe.mk [] rfl rfl ⟨⟨_, rfl, by first | rfl | (simp only [AV.ren]; congr 1; omega), rfl⟩, ⟨_, rfl, by first | rfl | (simp only [AV.ren]; congr 1; omega), rfl⟩, ⟨_, rfl, by first | rfl | (simp only [AV.ren]; congr 1; omega), rfl⟩, trivial⟩ trivial⟩
 ·simp only [decide_eq_false_iff_not] at hc23
  refine .exit ?_
  show Ev _ _ _ _ _
  have hall : namB ns = true := by rw [← hna, List.take_of_length_le (by omega)]
  refine .seq ?_
  refine .region ?_
  refine .q (op_assign rfl) trivial rfl ?_
  refine .nil ?_
  show Ev _ _ _ _ _
  refine .ret ?_
  show RetOk _ _ _ _ _ _ _
  exact ret1v rfl (.inl rfl) rfl (congrArg AV.bool hall.symm) trivial
theorem valid_any (k : Int) (us : List UInt32) (ss : List (List UInt8)) (ns : List (List (List UInt8))) (bs : List Bool) (fields : List UInt8) (hs : 0 ≤ Lib.indexByte fields 99 → 0 < ss.length) (hnl : ns.length ≤ 1000) (hnn : ∀ i, (ns.getD i []).length ≤ 1000) (hnj : ∀ i j, ((ns.getD i []).getD j []).length ≤ 1000) : Meets Tryd.prog 18 [.agg [.i64 k, .fsl (List.map AV.u32 us) (us).length 1, .dsl ss, .fsl (List.map AV.dsl ns) (ns).length 1, .fsl (List.map AV.bool bs) (bs).length 1], .str fields] [] (.bool (cookB ss fields && namB ns)) [] := by
 by_cases hc0 : 0 ≤ Lib.indexByte fields 99
 ·cases h16 : (((((ss.getD 0 []).length : Nat) : Int)) != 16) with
  | true =>
   rw [show (cookB ss fields && namB ns) = false by simp only [cookB, decide_eq_true hc0, h16]; rfl]
   exact valid_bad k us ss ns bs fields hc0 (hs hc0) h16
  | false =>
   rw [show (cookB ss fields && namB ns) = namB ns by simp only [cookB, decide_eq_true hc0, h16]; rfl]
   exact valid_kex k us ss ns bs fields hc0 (hs hc0) h16 hnl hnn hnj
 ·rw [show (cookB ss fields && namB ns) = namB ns by simp only [cookB, decide_eq_false hc0]; rfl]
  exact valid_not k us ss ns bs fields hc0 hnl hnn hnj
set_option maxRecDepth 100000 in
theorem check_nokind (k : Int) (us : List UInt32) (ss : List (List UInt8)) (ns : List (List (List UInt8))) (bs : List Bool) (hk : isKind k = false) (eo : Nat → Nat × Nat) : Meets Tryd.prog 7 [.agg [.i64 k, .fsl (List.map AV.u32 us) (us).length 1, .dsl ss, .fsl (List.map AV.dsl ns) (ns).length 1, .fsl (List.map AV.bool bs) (bs).length 1]] [(20, some ⟨.agg kindCells, errT, false⟩), (19, some ⟨.agg [.err 131 (20) (offE eo (20))], errT, false⟩), (0, some ⟨.agg [.err 131 (1) (offE eo (1))], errT, false⟩), (3, some ⟨.agg [.err 131 (4) (offE eo (4))], errT, false⟩)] (.err 131 (20) (offE eo (20))) [] := by
 refine meets_of_ev (nt := 28) Tryd.func7 rfl rfl (Nat.le_of_ble_eq_true rfl) ?_
 refine .seq ?_
 refine .region ?_
 refine .a (op_boxRow rfl rfl) trivial rfl ?_
 refine .q (op_assign rfl) trivial rfl ?_
 refine .nil ?_
 show Ev _ _ _ _ _
 refine .seq ?_
 refine .region ?_
 refine .q (op_fieldAddr (m := 0) Tryd.underlying30 rfl (by kernel_rfl) rfl) trivial rfl ?_
 refine .as (.ptr 1000 0) rfl ?_
 refine .q (op_load Tryd.underlying3 rfl rfl rfl rfl (by show 0 < 5; decide)) trivial rfl ?_
 refine .q (op_call (U := []) [] [] (fields_ev k) Tryd.func16 (by kernel_rfl) rfl rfl rfl (⟨⟨_, rfl, rfl, rfl⟩, trivial⟩) (⟨⟨_, _, rfl, rfl, rfl, rfl, (fun h => by cases h), rfl⟩, trivial⟩) (trivial) (⟨(fun h => by cases h), trivial⟩) rfl) trivial rfl ?_
 refine .q (op_move rfl) trivial rfl ?_
 refine .q (op_extract rfl rfl) trivial rfl ?_
 refine .q (op_extract rfl rfl) trivial rfl ?_
 refine .q (op_assign rfl) trivial rfl ?_
 refine .q (op_assign rfl) trivial rfl ?_
 refine .nil ?_
 show Ev _ _ _ _ _
 refine .seq ?_
 refine .seq ?_
 refine .region ?_
 refine .q (op_move rfl) trivial rfl ?_
 refine .q (op_notB rfl) trivial rfl ?_
 refine .nil ?_
 show Ev _ _ _ _ _
 refine .cond_true rfl (by rw [hk]; rfl) ?_
 refine .seq ?_
 refine .region ?_
 refine .q (op_load Tryd.underlying33 rfl rfl rfl rfl (by first | omega | (simp only [AV.len]; omega) | (simp only [AV.len]; omega) | assumption | (simp [AV.len]; done))) trivial rfl ?_
 refine .q (op_assign rfl) trivial rfl ?_
 refine .nil ?_
 show Ev _ _ _ _ _
 refine .ret ?_
 show RetOk _ _ _ _ _ _ _
 exact ret1v rfl (.inl rfl) rfl (rfl) trivial
set_option maxRecDepth 100000 in
theorem check_nocnt (k : Int) (us : List UInt32) (ss : List (List UInt8)) (ns : List (List (List UInt8))) (bs : List Bool) (hk : isKind k = true) (hc : cntB us ss ns bs (fieldsOf k) = false) (eo : Nat → Nat × Nat) : Meets Tryd.prog 7 [.agg [.i64 k, .fsl (List.map AV.u32 us) (us).length 1, .dsl ss, .fsl (List.map AV.dsl ns) (ns).length 1, .fsl (List.map AV.bool bs) (bs).length 1]] [(20, some ⟨.agg kindCells, errT, false⟩), (19, some ⟨.agg [.err 131 (20) (offE eo (20))], errT, false⟩), (0, some ⟨.agg [.err 131 (1) (offE eo (1))], errT, false⟩), (3, some ⟨.agg [.err 131 (4) (offE eo (4))], errT, false⟩)] (.err 131 (1) (offE eo (1))) [] := by
 refine meets_of_ev (nt := 28) Tryd.func7 rfl rfl (Nat.le_of_ble_eq_true rfl) ?_
 refine .seq ?_
 refine .region ?_
 refine .a (op_boxRow rfl rfl) trivial rfl ?_
 refine .q (op_assign rfl) trivial rfl ?_
 refine .nil ?_
 show Ev _ _ _ _ _
 refine .seq ?_
 refine .region ?_
 refine .q (op_fieldAddr (m := 0) Tryd.underlying30 rfl (by kernel_rfl) rfl) trivial rfl ?_
 refine .as (.ptr 1000 0) rfl ?_
 refine .q (op_load Tryd.underlying3 rfl rfl rfl rfl (by show 0 < 5; decide)) trivial rfl ?_
 refine .q (op_call (U := []) [] [] (fields_ev k) Tryd.func16 (by kernel_rfl) rfl rfl rfl (⟨⟨_, rfl, rfl, rfl⟩, trivial⟩) (⟨⟨_, _, rfl, rfl, rfl, rfl, (fun h => by cases h), rfl⟩, trivial⟩) (trivial) (⟨(fun h => by cases h), trivial⟩) rfl) trivial rfl ?_
 refine .q (op_move rfl) trivial rfl ?_
 refine .q (op_extract rfl rfl) trivial rfl ?_
 refine .q (op_extract rfl rfl) trivial rfl ?_
 refine .q (op_assign rfl) trivial rfl ?_
 refine .q (op_assign rfl) trivial rfl ?_
 refine .nil ?_
 show Ev _ _ _ _ _
 refine .seq ?_
 refine .seq ?_
 refine .region ?_
 refine .q (op_move rfl) trivial rfl ?_
 refine .q (op_notB rfl) trivial rfl ?_
 refine .nil ?_
 show Ev _ _ _ _ _
 refine .cond_false rfl (by rw [hk]; rfl) ?_
 refine .skip ?_
 show Ev _ _ _ _ _
 refine .seq ?_
 refine .seq ?_
 refine .region ?_
 refine .q (op_loadRow Tryd.underlying30 rfl (by kernel_rfl) rfl rfl rfl (rfl)) trivial rfl ?_
 refine .q (op_move rfl) trivial rfl ?_
 refine .q (op_call (U := []) [] [] (counts_any k us ss ns bs (fieldsOf k) (fields_len k)) Tryd.func17 (by kernel_rfl) rfl rfl rfl (⟨⟨_, rfl, rfl, rfl⟩, ⟨_, rfl, rfl, rfl⟩, trivial⟩) (trivial) (trivial) (trivial) rfl) trivial rfl ?_
 refine .q (op_notB rfl) trivial rfl ?_
 refine .q (op_move rfl) trivial rfl ?_
 refine .know (b' := true) (by rw [hc]; rfl) ?_
 refine .no ⟨_, rfl, rfl⟩ rfl ?_
 refine .no ⟨_, rfl, rfl⟩ rfl ?_
 refine .no ⟨_, rfl, rfl⟩ rfl ?_
 refine .no ⟨_, rfl, rfl⟩ rfl ?_
 refine .q (op_pick_true rfl rfl rfl) trivial rfl ?_
 refine .nil ?_
 show Ev _ _ _ _ _
 refine .cond_true rfl rfl ?_
 refine .seq ?_
 refine .region ?_
 refine .q (op_load Tryd.underlying33 rfl rfl rfl rfl (by first | omega | (simp only [AV.len]; omega) | (simp only [AV.len]; omega) | assumption | (simp [AV.len]; done))) trivial rfl ?_
 refine .q (op_assign rfl) trivial rfl ?_
 refine .nil ?_
 show Ev _ _ _ _ _
 refine .ret ?_
 show RetOk _ _ _ _ _ _ _
 exact ret1v rfl (.inl rfl) rfl (rfl) trivial
set_option maxRecDepth 100000 in
theorem check_noval (k : Int) (us : List UInt32) (ss : List (List UInt8)) (ns : List (List (List UInt8))) (bs : List Bool) (hk : isKind k = true) (hc : cntB us ss ns bs (fieldsOf k) = true) (hs : 0 ≤ Lib.indexByte (fieldsOf k) 99 → 0 < ss.length) (hv : (cookB ss (fieldsOf k) && namB ns) = false) (_hsl : ss.length ≤ 1000) (_hss : ∀ i, (ss.getD i []).length ≤ 32768) (_hjj : ∀ i, (joinB (ns.getD i [])).length ≤ 4096) (hnl : ns.length ≤ 1000) (hnn : ∀ i, (ns.getD i []).length ≤ 1000) (hnj : ∀ i j, ((ns.getD i []).getD j []).length ≤ 1000) (eo : Nat → Nat × Nat) : Meets Tryd.prog 7 [.agg [.i64 k, .fsl (List.map AV.u32 us) (us).length 1, .dsl ss, .fsl (List.map AV.dsl ns) (ns).length 1, .fsl (List.map AV.bool bs) (bs).length 1]] [(20, some ⟨.agg kindCells, errT, false⟩), (19, some ⟨.agg [.err 131 (20) (offE eo (20))], errT, false⟩), (0, some ⟨.agg [.err 131 (1) (offE eo (1))], errT, false⟩), (3, some ⟨.agg [.err 131 (4) (offE eo (4))], errT, false⟩)] (.err 131 (1) (offE eo (1))) [] := by
 refine meets_of_ev (nt := 28) Tryd.func7 rfl rfl (Nat.le_of_ble_eq_true rfl) ?_
 refine .seq ?_
 refine .region ?_
 refine .a (op_boxRow rfl rfl) trivial rfl ?_
 refine .q (op_assign rfl) trivial rfl ?_
 refine .nil ?_
 show Ev _ _ _ _ _
 refine .seq ?_
 refine .region ?_
 refine .q (op_fieldAddr (m := 0) Tryd.underlying30 rfl (by kernel_rfl) rfl) trivial rfl ?_
 refine .as (.ptr 1000 0) rfl ?_
 refine .q (op_load Tryd.underlying3 rfl rfl rfl rfl (by show 0 < 5; decide)) trivial rfl ?_
 refine .q (op_call (U := []) [] [] (fields_ev k) Tryd.func16 (by kernel_rfl) rfl rfl rfl (⟨⟨_, rfl, rfl, rfl⟩, trivial⟩) (⟨⟨_, _, rfl, rfl, rfl, rfl, (fun h => by cases h), rfl⟩, trivial⟩) (trivial) (⟨(fun h => by cases h), trivial⟩) rfl) trivial rfl ?_
 refine .q (op_move rfl) trivial rfl ?_
 refine .q (op_extract rfl rfl) trivial rfl ?_
 refine .q (op_extract rfl rfl) trivial rfl ?_
 refine .q (op_assign rfl) trivial rfl ?_
 refine .q (op_assign rfl) trivial rfl ?_
 refine .nil ?_
 show Ev _ _ _ _ _
 refine .seq ?_
 refine .seq ?_
 refine .region ?_
 refine .q (op_move rfl) trivial rfl ?_
 refine .q (op_notB rfl) trivial rfl ?_
 refine .nil ?_
 show Ev _ _ _ _ _
 refine .cond_false rfl (by rw [hk]; rfl) ?_
 refine .skip ?_
 show Ev _ _ _ _ _
 refine .seq ?_
 refine .seq ?_
 refine .region ?_
 refine .q (op_loadRow Tryd.underlying30 rfl (by kernel_rfl) rfl rfl rfl (rfl)) trivial rfl ?_
 refine .q (op_move rfl) trivial rfl ?_
 refine .q (op_call (U := []) [] [] (counts_any k us ss ns bs (fieldsOf k) (fields_len k)) Tryd.func17 (by kernel_rfl) rfl rfl rfl (⟨⟨_, rfl, rfl, rfl⟩, ⟨_, rfl, rfl, rfl⟩, trivial⟩) (trivial) (trivial) (trivial) rfl) trivial rfl ?_
 refine .q (op_notB rfl) trivial rfl ?_
 refine .q (op_move rfl) trivial rfl ?_
 refine .know (b' := false) (by rw [hc]; rfl) ?_
 refine .q (op_loadRow Tryd.underlying30 rfl (by kernel_rfl) rfl rfl rfl (rfl)) ⟨_, rfl, rfl⟩ rfl ?_
 refine .q (op_move rfl) ⟨_, rfl, rfl⟩ rfl ?_
 refine .q (op_call (U := []) [] [] (valid_any k us ss ns bs (fieldsOf k) hs hnl hnn hnj) Tryd.func18 (by kernel_rfl) rfl rfl rfl (⟨⟨_, rfl, rfl, rfl⟩, ⟨_, rfl, rfl, rfl⟩, trivial⟩) (trivial) (trivial) (trivial) rfl) ⟨_, rfl, rfl⟩ rfl ?_
 refine .q (op_notB rfl) ⟨_, rfl, rfl⟩ rfl ?_
 refine .q (op_pick_false rfl rfl rfl) trivial rfl ?_
 refine .nil ?_
 show Ev _ _ _ _ _
 refine .cond_true rfl (by rw [hv]; rfl) ?_
 refine .seq ?_
 refine .region ?_
 refine .q (op_load Tryd.underlying33 rfl rfl rfl rfl (by first | omega | (simp only [AV.len]; omega) | (simp only [AV.len]; omega) | assumption | (simp [AV.len]; done))) trivial rfl ?_
 refine .q (op_assign rfl) trivial rfl ?_
 refine .nil ?_
 show Ev _ _ _ _ _
 refine .ret ?_
 show RetOk _ _ _ _ _ _ _
 exact ret1v rfl (.inl rfl) rfl (rfl) trivial
set_option maxRecDepth 100000 in
theorem check_ok (k : Int) (us : List UInt32) (ss : List (List UInt8)) (ns : List (List (List UInt8))) (bs : List Bool) (hk : isKind k = true) (hc : cntB us ss ns bs (fieldsOf k) = true) (hs : 0 ≤ Lib.indexByte (fieldsOf k) 99 → 0 < ss.length) (hv : (cookB ss (fieldsOf k) && namB ns) = true) (hsl : ss.length ≤ 1000) (hss : ∀ i, (ss.getD i []).length ≤ 32768) (hjj : ∀ i, (joinB (ns.getD i [])).length ≤ 4096) (hnl : ns.length ≤ 1000) (hnn : ∀ i, (ns.getD i []).length ≤ 1000) (hnj : ∀ i j, ((ns.getD i []).getD j []).length ≤ 1000) (eo : Nat → Nat × Nat) : Meets Tryd.prog 7 [.agg [.i64 k, .fsl (List.map AV.u32 us) (us).length 1, .dsl ss, .fsl (List.map AV.dsl ns) (ns).length 1, .fsl (List.map AV.bool bs) (bs).length 1]] [(20, some ⟨.agg kindCells, errT, false⟩), (19, some ⟨.agg [.err 131 (20) (offE eo (20))], errT, false⟩), (0, some ⟨.agg [.err 131 (1) (offE eo (1))], errT, false⟩), (3, some ⟨.agg [.err 131 (4) (offE eo (4))], errT, false⟩)] (.val .nilIface) [] := by
 refine meets_of_ev (nt := 28) Tryd.func7 rfl rfl (Nat.le_of_ble_eq_true rfl) ?_
 refine .seq ?_
 refine .region ?_
 refine .a (op_boxRow rfl rfl) trivial rfl ?_
 refine .q (op_assign rfl) trivial rfl ?_
 refine .nil ?_
 show Ev _ _ _ _ _
 refine .seq ?_
 refine .region ?_
 refine .q (op_fieldAddr (m := 0) Tryd.underlying30 rfl (by kernel_rfl) rfl) trivial rfl ?_
 refine .as (.ptr 1000 0) rfl ?_
 refine .q (op_load Tryd.underlying3 rfl rfl rfl rfl (by show 0 < 5; decide)) trivial rfl ?_
 refine .q (op_call (U := []) [] [] (fields_ev k) Tryd.func16 (by kernel_rfl) rfl rfl rfl (⟨⟨_, rfl, rfl, rfl⟩, trivial⟩) (⟨⟨_, _, rfl, rfl, rfl, rfl, (fun h => by cases h), rfl⟩, trivial⟩) (trivial) (⟨(fun h => by cases h), trivial⟩) rfl) trivial rfl ?_
 refine .q (op_move rfl) trivial rfl ?_
 refine .q (op_extract rfl rfl) trivial rfl ?_
 refine .q (op_extract rfl rfl) trivial rfl ?_
 refine .q (op_assign rfl) trivial rfl ?_
 refine .q (op_assign rfl) trivial rfl ?_
 refine .nil ?_
 show Ev _ _ _ _ _
 refine .seq ?_
 refine .seq ?_
 refine .region ?_
 refine .q (op_move rfl) trivial rfl ?_
 refine .q (op_notB rfl) trivial rfl ?_
 refine .nil ?_
 show Ev _ _ _ _ _
 refine .cond_false rfl (by rw [hk]; rfl) ?_
 refine .skip ?_
 show Ev _ _ _ _ _
 refine .seq ?_
 refine .seq ?_
 refine .region ?_
 refine .q (op_loadRow Tryd.underlying30 rfl (by kernel_rfl) rfl rfl rfl (rfl)) trivial rfl ?_
 refine .q (op_move rfl) trivial rfl ?_
 refine .q (op_call (U := []) [] [] (counts_any k us ss ns bs (fieldsOf k) (fields_len k)) Tryd.func17 (by kernel_rfl) rfl rfl rfl (⟨⟨_, rfl, rfl, rfl⟩, ⟨_, rfl, rfl, rfl⟩, trivial⟩) (trivial) (trivial) (trivial) rfl) trivial rfl ?_
 refine .q (op_notB rfl) trivial rfl ?_
 refine .q (op_move rfl) trivial rfl ?_
 refine .know (b' := false) (by rw [hc]; rfl) ?_
 refine .q (op_loadRow Tryd.underlying30 rfl (by kernel_rfl) rfl rfl rfl (rfl)) ⟨_, rfl, rfl⟩ rfl ?_
 refine .q (op_move rfl) ⟨_, rfl, rfl⟩ rfl ?_
 refine .q (op_call (U := []) [] [] (valid_any k us ss ns bs (fieldsOf k) hs hnl hnn hnj) Tryd.func18 (by kernel_rfl) rfl rfl rfl (⟨⟨_, rfl, rfl, rfl⟩, ⟨_, rfl, rfl, rfl⟩, trivial⟩) (trivial) (trivial) (trivial) rfl) ⟨_, rfl, rfl⟩ rfl ?_
 refine .q (op_notB rfl) ⟨_, rfl, rfl⟩ rfl ?_
 refine .q (op_pick_false rfl rfl rfl) trivial rfl ?_
 refine .nil ?_
 show Ev _ _ _ _ _
 refine .cond_false rfl (by rw [hv]; rfl) ?_
 refine .skip ?_
 show Ev _ _ _ _ _
 refine .seq ?_
 refine .seq ?_
 refine .region ?_
 refine .q (op_loadRow Tryd.underlying30 rfl (by kernel_rfl) rfl rfl rfl (rfl)) trivial rfl ?_
 refine .q (op_call (U := []) [] [] (toolong_f k us ss ns bs hnl hsl hss hjj) Tryd.func19 (by kernel_rfl) rfl rfl rfl (⟨⟨_, rfl, rfl, rfl⟩, trivial⟩) (trivial) (trivial) (trivial) rfl) trivial rfl ?_
 refine .nil ?_
 show Ev _ _ _ _ _
 refine .cond_false rfl (rfl) ?_
 refine .skip ?_
 show Ev _ _ _ _ _
 refine .seq ?_
 refine .region ?_
 refine .q (op_assign rfl) trivial rfl ?_
 refine .nil ?_
 show Ev _ _ _ _ _
 refine .ret ?_
 show RetOk _ _ _ _ _ _ _
 exact ret1v rfl (.inl rfl) rfl (rfl) trivial
/-- Check, whatever the message. -/
theorem check_any (k : Int) (us : List UInt32) (ss : List (List UInt8)) (ns : List (List (List UInt8))) (bs : List Bool) (hs : isKind k = true → cntB us ss ns bs (fieldsOf k) = true → 0 ≤ Lib.indexByte (fieldsOf k) 99 → 0 < ss.length) (hsl : ss.length ≤ 1000) (hss : ∀ i, (ss.getD i []).length ≤ 32768) (hjj : ∀ i, (joinB (ns.getD i [])).length ≤ 4096) (hnl : ns.length ≤ 1000) (hnn : ∀ i, (ns.getD i []).length ≤ 1000) (hnj : ∀ i j, ((ns.getD i []).getD j []).length ≤ 1000) (eo : Nat → Nat × Nat) : Meets Tryd.prog 7 [.agg [.i64 k, .fsl (List.map AV.u32 us) (us).length 1, .dsl ss, .fsl (List.map AV.dsl ns) (ns).length 1, .fsl (List.map AV.bool bs) (bs).length 1]] [(20, some ⟨.agg kindCells, errT, false⟩), (19, some ⟨.agg [.err 131 (20) (offE eo (20))], errT, false⟩), (0, some ⟨.agg [.err 131 (1) (offE eo (1))], errT, false⟩), (3, some ⟨.agg [.err 131 (4) (offE eo (4))], errT, false⟩)] (.err 131 (chkF k us ss ns bs) (offE eo (chkF k us ss ns bs))) [] := by
 unfold chkF
 cases hk : isKind k with
 | false => rw [if_neg (by decide)]; exact check_nokind k us ss ns bs hk eo
 | true =>
  rw [if_pos rfl]
  cases hc : cntB us ss ns bs (fieldsOf k) with
  | false => rw [Bool.false_and, if_neg (by decide)]; exact check_nocnt k us ss ns bs hk hc eo
  | true =>
   rw [Bool.true_and]
   cases hv : (cookB ss (fieldsOf k) && namB ns) with
   | false => rw [if_neg (by decide)]; exact check_noval k us ss ns bs hk hc (hs hk hc) hv hsl hss hjj hnl hnn hnj eo
   | true =>
    rw [if_pos rfl]
    exact Meets.weakV' (check_ok k us ss ns bs hk hc (hs hk hc) hv hsl hss hjj hnl hnn hnj eo) (fun E y h => by rw [h.val_inv]; exact .err0 _ _)
end Go.Proofs.YtenocbhlbgcnfaaDoor
