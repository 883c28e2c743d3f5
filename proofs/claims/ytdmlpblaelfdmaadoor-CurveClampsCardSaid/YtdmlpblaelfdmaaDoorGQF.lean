/-
  Texts of this claim.
-/
import Derived.Test.YtdmlpblaelfdmaaDoorGQE
namespace Go.Proofs.YtdmlpblaelfdmaaDoor
open Go.RowKit
theorem all88 (p : UInt8 → UInt8 → Bool) (h : ((List.range 256).all fun i => (List.range 256).all fun j => p (UInt8.ofNat i) (UInt8.ofNat j)) = true) (x y : UInt8) : p x y = true := by
  have := List.all_eq_true.1 (List.all_eq_true.1 h x.toNat (List.mem_range.2 x.toNat_lt)) y.toNat (List.mem_range.2 y.toNat_lt)
  simpa using this
theorem clamp0 (x y : UInt8) : (x ^^^ (y &&& UInt8.ofNat 7)) &&& ~~~(UInt8.ofNat 7) = x &&& ~~~(UInt8.ofNat 7) := by
  have := all88 (fun x y => (x ^^^ (y &&& UInt8.ofNat 7)) &&& ~~~(UInt8.ofNat 7) == x &&& ~~~(UInt8.ofNat 7)) (by decide +kernel) x y
  simpa using this
theorem clamp31 (x y : UInt8) : ((x ^^^ (y &&& UInt8.ofNat 192)) &&& ~~~(UInt8.ofNat 128)) ||| UInt8.ofNat 64 = (x &&& ~~~(UInt8.ofNat 128)) ||| UInt8.ofNat 64 := by
  have := all88 (fun x y => ((x ^^^ (y &&& UInt8.ofNat 192)) &&& ~~~(UInt8.ofNat 128)) ||| UInt8.ofNat 64 == (x &&& ~~~(UInt8.ofNat 128)) ||| UInt8.ofNat 64) (by decide +kernel) x y
  simpa using this
theorem clampP (x y : UInt8) : (x ^^^ (y &&& UInt8.ofNat 128)).toNat % 128 = x.toNat % 128 := by
  have := all88 (fun x y => decide ((x ^^^ (y &&& UInt8.ofNat 128)).toNat % 128 = x.toNat % 128)) (by decide +kernel) x y
  simpa using this
def clK (K : List UInt8) (y : UInt8) : List UInt8 := (K.set 0 (K.getD 0 0 ^^^ (y &&& UInt8.ofNat 7))).set 31 ((K.set 0 (K.getD 0 0 ^^^ (y &&& UInt8.ofNat 7))).getD 31 0 ^^^ (y &&& UInt8.ofNat 192))
def clQ (Q : List UInt8) (y : UInt8) : List UInt8 := Q.set 31 (Q.getD 31 0 ^^^ (y &&& UInt8.ofNat 128))
theorem length_clK (K : List UInt8) (y : UInt8) : (clK K y).length = K.length := by simp [clK]
theorem length_clQ (Q : List UInt8) (y : UInt8) : (clQ Q y).length = Q.length := by simp [clQ]
theorem us_two (K : List UInt8) (h : K.length = 32) : usL K = (K.set 0 (K.getD 0 0 &&& ~~~(UInt8.ofNat 7))).set 31 ((K.getD 31 0 &&& ~~~(UInt8.ofNat 128)) ||| UInt8.ofNat 64) := by
  unfold usL
  have e : ∀ v : UInt8, (K.set 0 v).getD 31 0 = K.getD 31 0 := fun v => by simp [List.getD_eq_getElem?_getD]
  rw [e]
  have h31 : ∀ v : UInt8, 31 < (K.set 0 v).length := fun v => by simp [h]
  rw [List.set_set, show ((K.set 0 (K.getD 0 0 &&& ~~~(UInt8.ofNat 7))).set 31 (K.getD 31 0 &&& ~~~(UInt8.ofNat 128))).getD 31 0 = K.getD 31 0 &&& ~~~(UInt8.ofNat 128) by rw [List.getD_eq_getElem?_getD, List.getElem?_set, if_pos rfl, if_pos (h31 _)]; rfl]
theorem cl_us (K : List UInt8) (y : UInt8) (h : K.length = 32) : usL (clK K y) = usL K := by
  rw [us_two _ ((length_clK K y).trans h), us_two K h]
  have e : ∀ v : UInt8, (K.set 0 v).getD 31 0 = K.getD 31 0 := fun v => by simp [List.getD_eq_getElem?_getD]
  have e0 : (clK K y).getD 0 0 = K.getD 0 0 ^^^ (y &&& UInt8.ofNat 7) := by
    unfold clK
    rw [List.getD_eq_getElem?_getD, List.getElem?_set, if_neg (by decide), List.getElem?_set, if_pos rfl, if_pos (by omega)]; rfl
  have e31 : (clK K y).getD 31 0 = K.getD 31 0 ^^^ (y &&& UInt8.ofNat 192) := by
    unfold clK
    rw [e, List.getD_eq_getElem?_getD, List.getElem?_set, if_pos rfl, if_pos (by simp; omega)]; rfl
  rw [e0, e31, clamp0, clamp31]
  unfold clK
  rw [List.set_comm _ _ (show (31 : Nat) ≠ 0 by decide), List.set_set, List.set_set]
theorem cl_of (Q : List UInt8) (y : UInt8) (h : Q.length = 32) : ofV (clQ Q y) = ofV Q := by
  have e : leN (clQ Q y) 31 = leN Q 31 := leN_congr _ _ _ fun i hi => by
    unfold clQ; rw [List.getD_eq_getElem?_getD, List.getElem?_set, if_neg (by omega), ← List.getD_eq_getElem?_getD]
  have e31 : (clQ Q y).getD 31 0 = Q.getD 31 0 ^^^ (y &&& UInt8.ofNat 128) := by
    unfold clQ; rw [List.getD_eq_getElem?_getD, List.getElem?_set, if_pos rfl, if_pos (by omega)]; rfl
  have hm := clampP (Q.getD 31 0) y
  have hl := leN_lt Q 31
  unfold ofV
  congr 1
  show (leN (clQ Q y) 31 + 256 ^ 31 * ((clQ Q y).getD 31 0).toNat) % _ = (leN Q 31 + 256 ^ 31 * (Q.getD 31 0).toNat) % _
  rw [e, e31]
  have h31 : (256 : Nat) ^ 31 = 452312848583266388373324160190187140051835877600158453279131187530910662656 := by decide
  rw [h31] at *
  generalize (Q.getD 31 0 ^^^ (y &&& UInt8.ofNat 128)).toNat = a at *
  generalize (Q.getD 31 0).toNat = b at *
  generalize leN Q 31 = c at *
  omega
set_option maxHeartbeats 1000000 in
set_option maxRecDepth 100000 in
theorem curveClamps_ev (e : Nat) (K Q : List UInt8) (y : UInt8) (hK : K.length = 32) (hQ : Q.length = 32) : Meets Tryd.prog 3 [.aggB K, .aggB Q, .u8 y] (HP e) (.bool true) [] := by
 refine meets_of_ev (nt := 62) Tryd.func3 rfl rfl (Nat.le_of_ble_eq_true rfl) ?_
 refine .seq ?_
 refine .region ?_
 refine .a (op_boxRow rfl rfl) trivial rfl ?_
 refine .a (op_boxRow rfl rfl) trivial rfl ?_
 refine .q (op_assign rfl) trivial rfl ?_
 refine .nil ?_
 show Ev _ _ _ _ _
 refine .seq ?_
 refine .seq ?_
 refine .region ?_
 refine .q (op_call (U := []) [] [] (awake6_ev e) Tryd.func5 (by kernel_rfl) rfl rfl rfl (trivial) (⟨⟨_, _, rfl, rfl, rfl, rfl, id, rfl⟩, trivial⟩) (trivial) (⟨(fun h => by cases h), trivial⟩) rfl) trivial rfl ?_
 refine .q (op_notB rfl) trivial rfl ?_
 refine .nil ?_
 show Ev _ _ _ _ _
 refine .cond_false rfl (rfl) ?_
 refine .skip ?_
 show Ev _ _ _ _ _
 refine .seq ?_
 refine .drawnF [[], [], [], [], [0, 2, 3], [0, 1, 2, 3, 4]] [0, 1, 2, 3, 4, 5] [] [(0, ([1000], [])), (1, ([1008], [])), (4, ([], [1032])), (5, ([], [1040]))] (by kernel_rfl) (by kernel_rfl) rfl ?_
 show DK _ [0, 1, 2, 3, 4, 5] _ _ _
 refine .q rfl (op_loadRow Tryd.underlying22 rfl sz22 rfl rfl rfl (by simp only [AV.len] <;> first | assumption | omega)) trivial ?_
 refine .q rfl (op_loadRow Tryd.underlying22 rfl sz22 rfl rfl rfl (by simp only [AV.len] <;> first | assumption | omega)) trivial ?_
 refine .a rfl (op_allocRow zero22 rel_zero22 rfl) trivial rfl rfl ?_
 refine .a rfl (op_allocRow zero22 rel_zero22 rfl) trivial rfl rfl ?_
 refine .w rfl (op_storeRow sz22 rfl rfl rfl rfl rfl (by simp only [AV.len] <;> first | assumption | omega) (by simp only [AV.len, List.length_replicate] <;> first | assumption | omega)) trivial rfl rfl ?_
 refine .w rfl (op_storeRow sz22 rfl rfl rfl rfl rfl (by simp only [AV.len] <;> first | assumption | omega) (by simp only [AV.len, List.length_replicate] <;> first | assumption | omega)) trivial rfl rfl ?_
 refine .nil ?_
 show Ev _ _ _ _ _
 refine .seq ?_
 refine .region ?_
 refine .q (ap_idx_arr Tryd.underlying22 inf5.sz rfl rfl rfl (by first | omega | (skip; omega) | (skip; omega) | assumption | (simp; done))) trivial rfl ?_
 refine .q (op_load Tryd.underlying5 rfl rfl rfl rfl (by simp only [AV.len]; omega)) trivial rfl ?_
 refine .q (op_move rfl) trivial rfl ?_
 refine .q (op_bin8 rfl rfl rfl) trivial rfl ?_
 refine .q (op_bin8 rfl rfl rfl) trivial rfl ?_
 refine .q (ap_idx_arr Tryd.underlying22 inf5.sz rfl rfl rfl (by first | omega | (skip; omega) | (skip; omega) | assumption | (simp; done))) trivial rfl ?_
 refine .w (op_store inf5.sz rfl rfl rfl rfl rfl (by simp only [AV.len]; omega)) trivial rfl ?_
 refine .nil ?_
 show Ev _ _ _ _ _
 refine .seq ?_
 refine .region ?_
 refine .q (ap_idx_arr Tryd.underlying22 inf5.sz rfl rfl rfl (by first | omega | (skip; omega) | (skip; omega) | assumption | (simp; done))) trivial rfl ?_
 refine .q (op_load Tryd.underlying5 rfl rfl rfl rfl (by simp only [AV.len, List.length_set]; omega)) trivial rfl ?_
 refine .q (op_move rfl) trivial rfl ?_
 refine .q (op_bin8 rfl rfl rfl) trivial rfl ?_
 refine .q (op_bin8 rfl rfl rfl) trivial rfl ?_
 refine .q (ap_idx_arr Tryd.underlying22 inf5.sz rfl rfl rfl (by first | omega | (skip; omega) | (skip; omega) | assumption | (simp; done))) trivial rfl ?_
 refine .w (op_store inf5.sz rfl rfl rfl rfl rfl (by simp only [AV.len, List.length_set]; omega)) trivial rfl ?_
 refine .nil ?_
 show Ev _ _ _ _ _
 refine .seq ?_
 refine .region ?_
 refine .q (ap_idx_arr Tryd.underlying22 inf5.sz rfl rfl rfl (by first | omega | (skip; omega) | (skip; omega) | assumption | (simp; done))) trivial rfl ?_
 refine .q (op_load Tryd.underlying5 rfl rfl rfl rfl (by simp only [AV.len]; omega)) trivial rfl ?_
 refine .q (op_move rfl) trivial rfl ?_
 refine .q (op_bin8 rfl rfl rfl) trivial rfl ?_
 refine .q (op_bin8 rfl rfl rfl) trivial rfl ?_
 refine .q (ap_idx_arr Tryd.underlying22 inf5.sz rfl rfl rfl (by first | omega | (skip; omega) | (skip; omega) | assumption | (simp; done))) trivial rfl ?_
 refine .w (op_store inf5.sz rfl rfl rfl rfl rfl (by simp only [AV.len]; omega)) trivial rfl ?_
 refine .nil ?_
 show Ev _ _ _ _ _
 refine .seq ?_
 refine .region ?_
 refine .q (op_loadRow Tryd.underlying22 rfl sz22 rfl rfl rfl (by simp only [AV.len] <;> first | assumption | omega)) trivial rfl ?_
 refine .q (op_loadRow Tryd.underlying22 rfl sz22 rfl rfl rfl (by simp only [AV.len] <;> first | assumption | omega)) trivial rfl ?_
 refine .q (op_call (U := []) [] [] (cmult_ev e K Q hK hQ) Tryd.func6 (by kernel_rfl) rfl rfl rfl (⟨⟨_, rfl, rfl, rfl⟩, ⟨_, rfl, rfl, rfl⟩, trivial⟩) (⟨⟨_, _, rfl, rfl, rfl, rfl, id, rfl⟩, trivial⟩) (trivial) (⟨(fun h => by cases h), trivial⟩) rfl) trivial rfl ?_
 refine .as (.tup [.aggB (bsN (tmV (usL K) (ofV Q)) 32), .bool (!decide (tmV (usL K) (ofV Q) = 0))]) rfl ?_
 refine .q (op_move rfl) trivial rfl ?_
 refine .q (op_extract rfl rfl) trivial rfl ?_
 refine .q (op_extract rfl rfl) trivial rfl ?_
 refine .a (op_allocRow zero22 rel_zero22 rfl) trivial rfl ?_
 refine .w (op_storeRow sz22 rfl rfl rfl rfl rfl (by simp only [AV.len, length_bsN] <;> first | assumption | omega) (by simp only [AV.len, List.length_replicate] <;> first | assumption | omega)) trivial rfl ?_
 refine .q (op_assign rfl) trivial rfl ?_
 refine .nil ?_
 show Ev _ _ _ _ _
 refine .seq ?_
 refine .region ?_
 refine .q (op_loadRow Tryd.underlying22 rfl sz22 rfl rfl rfl (by simp only [AV.len, List.length_set] <;> first | assumption | omega)) trivial rfl ?_
 refine .as (.aggB (clK K y)) rfl ?_
 refine .q (op_loadRow Tryd.underlying22 rfl sz22 rfl rfl rfl (by simp only [AV.len, List.length_set] <;> first | assumption | omega)) trivial rfl ?_
 refine .as (.aggB (clQ Q y)) rfl ?_
 refine .q (op_call (U := []) [] [] (cmult_ev e (clK K y) (clQ Q y) ((length_clK K y).trans hK) ((length_clQ Q y).trans hQ)) Tryd.func6 (by kernel_rfl) rfl rfl rfl (⟨⟨_, rfl, rfl, rfl⟩, ⟨_, rfl, rfl, rfl⟩, trivial⟩) (⟨⟨_, _, rfl, rfl, rfl, rfl, id, rfl⟩, trivial⟩) (trivial) (⟨(fun h => by cases h), trivial⟩) rfl) trivial rfl ?_
 refine .as (.tup [.aggB (bsN (tmV (usL K) (ofV Q)) 32), .bool (!decide (tmV (usL K) (ofV Q) = 0))]) (by show AV.tup [.aggB (bsN (tmV (usL (clK K y)) (ofV (clQ Q y))) 32), .bool (!decide (tmV (usL (clK K y)) (ofV (clQ Q y)) = 0))] = _; rw [cl_us K y hK, cl_of Q y hQ]) ?_
 refine .q (op_move rfl) trivial rfl ?_
 refine .q (op_extract rfl rfl) trivial rfl ?_
 refine .q (op_extract rfl rfl) trivial rfl ?_
 refine .a (op_allocRow zero22 rel_zero22 rfl) trivial rfl ?_
 refine .w (op_storeRow sz22 rfl rfl rfl rfl rfl (by simp only [AV.len, length_bsN] <;> first | assumption | omega) (by simp only [AV.len, List.length_replicate] <;> first | assumption | omega)) trivial rfl ?_
 refine .q (op_assign rfl) trivial rfl ?_
 refine .nil ?_
 show Ev _ _ _ _ _
 refine .seq ?_
 refine .drawn [[], [], [0, 1], [0, 1, 2], [0, 1, 2, 3], [0, 1, 2, 3], [0, 1, 2, 3, 4, 5], [0, 1, 2, 3, 4, 5, 6], [0, 1, 2, 3, 4, 5, 6, 7], [0, 1, 2, 3, 4, 5, 6, 7, 8], [0, 1, 2, 3, 4, 5, 6, 7, 8, 9], [0, 1, 2, 3, 4, 5, 6, 7, 8], [0, 1, 2, 3, 4, 5, 6, 7, 8, 9, 10, 11], [0, 1, 2, 3, 4, 5, 6, 7, 8, 9, 10, 11, 12], [0, 1, 2, 3, 4, 5, 6, 7, 8, 9, 10, 11, 12, 13], [0, 1, 2, 3, 4, 5, 6, 7, 8, 9, 10, 11, 12, 13, 14]] [0, 1, 9, 10, 11, 12] [] (by kernel_rfl) (by kernel_rfl) rfl ?_
 show DK _ [0, 1, 2, 3, 4, 5, 6, 7, 8, 9, 10, 11, 12, 13, 14, 15] _ _ _
 refine .q rfl (op_loadRow Tryd.underlying22 rfl sz22 rfl rfl rfl (by simp only [AV.len, length_bsN] <;> first | assumption | omega)) trivial ?_
 refine .q rfl (op_loadRow Tryd.underlying22 rfl sz22 rfl rfl rfl (by simp only [AV.len, length_bsN] <;> first | assumption | omega)) trivial ?_
 refine .q rfl (op_eqRow8 (n := 32) (by kernel_rfl) Tryd.underlying22 Tryd.underlying5 inf5.sz rfl rfl (by simp only [length_bsN] <;> first | assumption | omega) (by simp only [length_bsN] <;> first | assumption | omega)) trivial ?_
 refine .q rfl (op_move rfl) trivial ?_
 refine .know (b' := true) (by simp) ?_
 refine .q rfl (op_move rfl) ⟨_, rfl, rfl⟩ ?_
 refine .q rfl (op_move rfl) ⟨_, rfl, rfl⟩ ?_
 refine .q rfl (op_eqB Tryd.underlying4 rfl rfl rfl) ⟨_, rfl, rfl⟩ ?_
 refine .q rfl (op_pick_true rfl rfl rfl) trivial ?_
 refine .q rfl (op_move rfl) trivial ?_
 refine .know (b' := true) (by simp) ?_
 refine .q rfl (op_loadRow Tryd.underlying22 rfl sz22 rfl rfl rfl (by simp only [AV.len] <;> first | assumption | omega)) ⟨_, rfl, rfl⟩ ?_
 refine .q rfl (op_call (U := []) [] [] (cbase_ev e K hK) Tryd.func7 (by kernel_rfl) rfl rfl rfl (⟨⟨_, rfl, rfl, rfl⟩, trivial⟩) (⟨⟨_, _, rfl, rfl, rfl, rfl, id, rfl⟩, trivial⟩) (trivial) (⟨(fun h => by cases h), trivial⟩) rfl) ⟨_, rfl, rfl⟩ ?_
 refine .as (.aggB (bsN (tmV (usL K) 9) 32)) rfl ?_
 refine .q rfl (op_loadRow Tryd.underlying22 rfl sz22 rfl rfl rfl (by simp only [AV.len, List.length_set] <;> first | assumption | omega)) ⟨_, rfl, rfl⟩ ?_
 refine .as (.aggB (clK K y)) rfl ?_
 refine .q rfl (op_call (U := []) [] [] (cbase_ev e (clK K y) ((length_clK K y).trans hK)) Tryd.func7 (by kernel_rfl) rfl rfl rfl (⟨⟨_, rfl, rfl, rfl⟩, trivial⟩) (⟨⟨_, _, rfl, rfl, rfl, rfl, id, rfl⟩, trivial⟩) (trivial) (⟨(fun h => by cases h), trivial⟩) rfl) ⟨_, rfl, rfl⟩ ?_
 refine .as (.aggB (bsN (tmV (usL K) 9) 32)) (by show AV.aggB (bsN (tmV (usL (clK K y)) 9) 32) = _; rw [cl_us K y hK]) ?_
 refine .q rfl (op_eqRow8 (n := 32) (by kernel_rfl) Tryd.underlying22 Tryd.underlying5 inf5.sz rfl rfl (by simp only [length_bsN] <;> first | assumption | omega) (by simp only [length_bsN] <;> first | assumption | omega)) ⟨_, rfl, rfl⟩ ?_
 refine .q rfl (op_pick_true rfl rfl rfl) trivial ?_
 refine .q rfl (op_assign rfl) trivial ?_
 refine .nil ?_
 show Ev _ _ _ _ _
 refine .ret ?_
 show RetOk _ _ _ _ _ _ _
 exact ret1v rfl (.inl rfl) rfl (by simp) trivial
end Go.Proofs.YtdmlpblaelfdmaaDoor
