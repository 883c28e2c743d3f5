/-
  Texts of this claim.
-/
import Derived.Test.YticickigndgpcaaDoorGXAA
import Derived.Test.YticickigndgpcaaDoorGX8A
namespace Go.Proofs.YticickigndgpcaaDoor
open Go.RowKit
theorem lsC_set : ∀ {L : List Ls} {k : Nat}, k < L.length → (lsC L).set (k * 5 + 3) (.i64 0) = lsC (L.set k (zE (L.getD k default)))
  | [], _, h => by simp at h
  | _ :: _, 0, _ => rfl
  | x :: r, k + 1, h => by
    have h2 := lsC_set (L := r) (k := k) (by simpa using h)
    rw [show (k + 1) * 5 + 3 = (k * 5 + 3) + 5 by omega]
    show x.cs ++ (lsC r).set (k * 5 + 3) (.i64 0) = x.cs ++ lsC (r.set k (zE (r.getD k default)))
    rw [h2]
theorem zN_put {L : List Ls} {k : Nat} (h : k < L.length) : (AV.agg (lsC (zN L k))).put (0 + k * 5 + 3) (.i64 0) = some (.agg (lsC (zN L (k + 1)))) := by
  show some (AV.agg ((lsC (zN L k)).set _ _)) = _
  rw [Nat.zero_add, lsC_set (by rw [zN_len]; exact h), zN_at h, zN_set h]
theorem zN_get {L : List Ls} {k : Nat} (h : k < L.length) : (zN L (k + 1)).getD k default = zE (L.getD k default) := by
  unfold zN
  rw [List.getD_eq_getElem?_getD, List.getElem?_append_left (by rw [List.length_map, List.length_take]; omega), List.getElem?_map, List.getElem?_take, if_pos (Nat.lt_succ_self k), List.getD_eq_getElem?_getD, List.getElem?_eq_getElem h]
  rfl
theorem zN_part {L : List Ls} {k : Nat} (h : k < L.length) : (zE (L.getD k default)).cs = ((AV.agg (lsC (zN L (k + 1)))).list.drop (0 + k * 5)).take 5 := by
  show _ = ((lsC (zN L (k + 1))).drop (0 + k * 5)).take 5
  rw [Nat.zero_add, ls_take (by rw [zN_len]; exact h), zN_get h]
theorem zN_lt {L : List Ls} {k : Nat} (h : k < L.length) : 0 + k * 5 + 3 < (AV.agg (lsC (zN L k))).len := by
  show _ < (lsC (zN L k)).length
  rw [lsC_len, zN_len]; omega
theorem zN_room {L : List Ls} {k : Nat} (h : k < L.length) : 0 + k * 5 + 5 ≤ (AV.agg (lsC (zN L (k + 1)))).len := by
  show _ ≤ (lsC (zN L (k + 1))).length
  rw [lsC_len, zN_len]; omega
def LB (L : List Ls) : Prop := ∀ x ∈ L, 0 ≤ x.l ∧ x.l ≤ 1099511627776
theorem LB.nil : LB [] := fun x hx => by simp at hx
theorem LB.filter {L : List Ls} (h : LB L) (q : Ls → Bool) : LB (L.filter q) := fun x hx => h x (List.mem_filter.1 hx).1
theorem LB.beat {L : List Ls} (h : LB L) (o n : Int) : LB (L.map fun y : Ls => if y.o == o then beatL n y else y) := fun x hx => by
  obtain ⟨y, hy, rfl⟩ := List.mem_map.1 hx
  have h1 := h y hy
  have h2 := tick_in n
  split
  · show 0 ≤ max y.l (tickV n) ∧ max y.l (tickV n) ≤ 1099511627776; omega
  · exact h1
theorem LB.take {L : List Ls} (h : LB L) (a b ep : Int) (T A : List UInt8) (o n : Int) : LB (tkL a b ep L T A o n) := by
  unfold tkL
  split
  · intro x hx
    rcases ins_mem.1 hx with rfl | ⟨hx, _⟩
    · exact tick_in n
    · exact h x hx
  · exact h
theorem Ap.lb {La Lb : List Ls} (h : Ap La Lb) (hl : LB La) : LB Lb := fun y hy => by
  obtain ⟨x, hx, _, e⟩ := h.memB hy
  rw [← (zE_eq e).2.2.2]; exact hl x hx
structure PB (i : Nat) where
  Ma : List (Ls × Nat)
  ka : Nat
  La : List Ls
  ea : Int
  Mb : List (Ls × Nat)
  kb : Nat
  Lb : List Ls
  eb : Int
  ma : MI Ma ka La
  mb : MI Mb kb Lb
  ap : Ap La Lb
  lb : LB La
  len : La.length ≤ i
  ha : 0 ≤ ea ∧ ea ≤ (i : Int)
  hb : 0 ≤ eb ∧ eb ≤ (i : Int)
structure PA (n : Nat) where
  i : Nat
  q : PB i
  hi : i ≤ n
  h100 : i ≤ 100
structure LF (L : List Ls) where
  j : Nat
  F : List Ls
  hj : j ≤ L.length
  hF : F = fltN' mineP L j
theorem flt_yes1 {L F : List Ls} {j : Nat} (h : F = fltN' mineP L j) (hj : j < L.length) (hw : ((L.getD j default).t == [116]) = true) : F ++ [L.getD j default] = fltN' mineP L (j + 1) := by
  rw [h, flt_yes hj (show mineP (L.getD j default) = true from hw)]
theorem flt_no1 {L F : List Ls} {j : Nat} (h : F = fltN' mineP L j) (hj : j < L.length) (hw : ((L.getD j default).t == [116]) = false) : F = fltN' mineP L (j + 1) := by
  rw [h, flt_no hj (show mineP (L.getD j default) = false from hw)]
theorem MI.beats {M : List (Ls × Nat)} {ck : Nat} {L : List Ls} (h : MI M ck L) (o n : Int) : MI (ptN M ck ((L.filter (fun x => x.o == o)).map (beatL n)) (L.filter (fun x => x.o == o)).length).1 (ptN M ck ((L.filter (fun x => x.o == o)).map (beatL n)) (L.filter (fun x => x.o == o)).length).2 (L.map fun y : Ls => if y.o == o then beatL n y else y) := by
  have hm := h.puts (wd := fun x => x.o == o) n (Nat.le_refl _)
  rw [updN_all h.asc n] at hm
  exact hm
theorem MI.drops {M : List (Ls × Nat)} {ck : Nat} {L : List Ls} (h : MI M ck L) (wd : Ls → Bool) : MI (dlN M (L.filter wd) (L.filter wd).length) ck (L.filter fun x => !wd x) := by
  have hm := h.dels (L.filter wd) (L.filter wd).length
  rw [remN_all h.asc] at hm
  exact hm
theorem sl_snoc1 (b : Nat) (F : List Ls) (x : Ls) : AV.sl b 0 (F.length + 1) 5 = .sl b 0 (F ++ [x]).length 5 := by rw [List.length_append]; rfl
end Go.Proofs.YticickigndgpcaaDoor
namespace Go.Proofs.YticickigndgpcaaDoor
open Go.RowKit
set_option maxHeartbeats 2000000 in
set_option maxRecDepth 100000 in
theorem leaseApart_ev (eo : Nat → Nat × Nat) (hd : ∀ i j, i < 20 → j < 20 → i ≠ j → eo i ≠ eo j) (ca cc : Int) (o : Nat) (l : List LA) (hl : l.length ≤ maxLen) : Meets Tryd.prog 6 [.i64 ca, .i64 cc, .sl 450 o l.length 5] [(3, some ⟨.agg [.err 155 (1) (offE eo (1))], errT, false⟩), (4, some ⟨.agg [.err 155 (2) (offE eo (2))], errT, false⟩), (5, some ⟨.agg [.err 155 (3) (offE eo (3))], errT, false⟩), (6, some ⟨.agg [.err 155 (4) (offE eo (4))], errT, false⟩), (7, some ⟨.agg [.err 155 (5) (offE eo (5))], errT, false⟩), (8, some ⟨.agg [.err 155 (6) (offE eo (6))], errT, false⟩), (9, some ⟨.agg [.err 155 (7) (offE eo (7))], errT, false⟩), (2, some ⟨.agg [.err 155 (8) (offE eo (8))], errT, false⟩), (1, some ⟨.agg [.err 155 (9) (offE eo (9))], errT, false⟩), (10, some ⟨.agg [.err 155 (10) (offE eo (10))], errT, false⟩), (11, some ⟨.agg [.err 155 (11) (offE eo (11))], errT, false⟩), (12, some ⟨.agg [.err 155 (12) (offE eo (12))], errT, false⟩), (13, some ⟨.agg [.err 155 (13) (offE eo (13))], errT, false⟩), (14, some ⟨.agg [.err 155 (14) (offE eo (14))], errT, false⟩), (15, some ⟨.agg [.err 155 (15) (offE eo (15))], errT, false⟩), (16, some ⟨.agg [.err 155 (16) (offE eo (16))], errT, false⟩), (0, some ⟨.agg [.err 155 (17) (offE eo (17))], errT, false⟩), (17, some ⟨.agg [.err 155 (18) (offE eo (18))], errT, false⟩), (18, some ⟨.agg [.err 155 (19) (offE eo (19))], errT, false⟩), (19, some ⟨.agg [.err 155 (20) (offE eo (20))], errT, false⟩), (401, some ⟨.agg [], errT, false⟩), (402, some ⟨.agg [], errT, false⟩), (403, some ⟨.agg [], errT, false⟩), (404, some ⟨.agg [], errT, false⟩), (405, some ⟨.agg [], errT, false⟩), (406, some ⟨.agg [], errT, false⟩), (407, some ⟨.agg [], errT, false⟩), (408, some ⟨.agg [], errT, false⟩), (409, some ⟨.agg [], errT, false⟩), (410, some ⟨.agg [], errT, false⟩), (411, some ⟨.agg [], errT, false⟩), (412, some ⟨.agg [], errT, false⟩), (413, some ⟨.agg [], errT, false⟩), (414, some ⟨.agg [], errT, false⟩), (415, some ⟨.agg [], errT, false⟩), (416, some ⟨.agg [], errT, false⟩), (417, some ⟨.agg [], errT, false⟩), (418, some ⟨.agg [], errT, false⟩), (419, some ⟨.agg [], errT, false⟩), (420, some ⟨.agg [], errT, false⟩), (450, some ⟨.agg (offC o (rowsC actL l)), anyT, false⟩)] (.bool true) [] := by
 have hl2 : l.length ≤ 9223372036854775807 := by unfold maxLen at hl; omega
 refine meets_of_ev (nt := 201) Tryd.func6 rfl rfl (Nat.le_of_ble_eq_true rfl) ?_
 refine .seq ?_
 refine .region ?_
 refine .q (op_assign rfl) trivial rfl ?_
 refine .nil ?_
 show Ev _ _ _ _ _
 refine .seq ?_
 refine .seq ?_
 refine .region ?_
 refine .q (op_call (U := []) [] [] (awake20_ev eo hd) Tryd.func11 (by kernel_rfl) rfl rfl rfl (trivial) (⟨⟨_, _, rfl, rfl, rfl, rfl, (fun h => by cases h), rfl⟩, ⟨_, _, rfl, rfl, rfl, rfl, (fun h => by cases h), rfl⟩, ⟨_, _, rfl, rfl, rfl, rfl, (fun h => by cases h), rfl⟩, ⟨_, _, rfl, rfl, rfl, rfl, (fun h => by cases h), rfl⟩, ⟨_, _, rfl, rfl, rfl, rfl, (fun h => by cases h), rfl⟩, ⟨_, _, rfl, rfl, rfl, rfl, (fun h => by cases h), rfl⟩, ⟨_, _, rfl, rfl, rfl, rfl, (fun h => by cases h), rfl⟩, ⟨_, _, rfl, rfl, rfl, rfl, (fun h => by cases h), rfl⟩, ⟨_, _, rfl, rfl, rfl, rfl, (fun h => by cases h), rfl⟩, ⟨_, _, rfl, rfl, rfl, rfl, (fun h => by cases h), rfl⟩, ⟨_, _, rfl, rfl, rfl, rfl, (fun h => by cases h), rfl⟩, ⟨_, _, rfl, rfl, rfl, rfl, (fun h => by cases h), rfl⟩, ⟨_, _, rfl, rfl, rfl, rfl, (fun h => by cases h), rfl⟩, ⟨_, _, rfl, rfl, rfl, rfl, (fun h => by cases h), rfl⟩, ⟨_, _, rfl, rfl, rfl, rfl, (fun h => by cases h), rfl⟩, ⟨_, _, rfl, rfl, rfl, rfl, (fun h => by cases h), rfl⟩, ⟨_, _, rfl, rfl, rfl, rfl, (fun h => by cases h), rfl⟩, ⟨_, _, rfl, rfl, rfl, rfl, (fun h => by cases h), rfl⟩, ⟨_, _, rfl, rfl, rfl, rfl, (fun h => by cases h), rfl⟩, ⟨_, _, rfl, rfl, rfl, rfl, (fun h => by cases h), rfl⟩, ⟨_, _, rfl, rfl, rfl, rfl, (fun h => by cases h), rfl⟩, ⟨_, _, rfl, rfl, rfl, rfl, (fun h => by cases h), rfl⟩, ⟨_, _, rfl, rfl, rfl, rfl, (fun h => by cases h), rfl⟩, ⟨_, _, rfl, rfl, rfl, rfl, (fun h => by cases h), rfl⟩, ⟨_, _, rfl, rfl, rfl, rfl, (fun h => by cases h), rfl⟩, ⟨_, _, rfl, rfl, rfl, rfl, (fun h => by cases h), rfl⟩, ⟨_, _, rfl, rfl, rfl, rfl, (fun h => by cases h), rfl⟩, ⟨_, _, rfl, rfl, rfl, rfl, (fun h => by cases h), rfl⟩, ⟨_, _, rfl, rfl, rfl, rfl, (fun h => by cases h), rfl⟩, ⟨_, _, rfl, rfl, rfl, rfl, (fun h => by cases h), rfl⟩, ⟨_, _, rfl, rfl, rfl, rfl, (fun h => by cases h), rfl⟩, ⟨_, _, rfl, rfl, rfl, rfl, (fun h => by cases h), rfl⟩, ⟨_, _, rfl, rfl, rfl, rfl, (fun h => by cases h), rfl⟩, ⟨_, _, rfl, rfl, rfl, rfl, (fun h => by cases h), rfl⟩, ⟨_, _, rfl, rfl, rfl, rfl, (fun h => by cases h), rfl⟩, ⟨_, _, rfl, rfl, rfl, rfl, (fun h => by cases h), rfl⟩, ⟨_, _, rfl, rfl, rfl, rfl, (fun h => by cases h), rfl⟩, ⟨_, _, rfl, rfl, rfl, rfl, (fun h => by cases h), rfl⟩, ⟨_, _, rfl, rfl, rfl, rfl, (fun h => by cases h), rfl⟩, ⟨_, _, rfl, rfl, rfl, rfl, (fun h => by cases h), rfl⟩, trivial⟩) (trivial) (⟨(fun h => by cases h), (fun h => by cases h), (fun h => by cases h), (fun h => by cases h), (fun h => by cases h), (fun h => by cases h), (fun h => by cases h), (fun h => by cases h), (fun h => by cases h), (fun h => by cases h), (fun h => by cases h), (fun h => by cases h), (fun h => by cases h), (fun h => by cases h), (fun h => by cases h), (fun h => by cases h), (fun h => by cases h), (fun h => by cases h), (fun h => by cases h), (fun h => by cases h), (fun h => by cases h), (fun h => by cases h), (fun h => by cases h), (fun h => by cases h), (fun h => by cases h), (fun h => by cases h), (fun h => by cases h), (fun h => by cases h), (fun h => by cases h), (fun h => by cases h), (fun h => by cases h), (fun h => by cases h), (fun h => by cases h), (fun h => by cases h), (fun h => by cases h), (fun h => by cases h), (fun h => by cases h), (fun h => by cases h), (fun h => by cases h), (fun h => by cases h), trivial⟩) rfl) trivial rfl ?_
 refine .q (op_notB rfl) trivial rfl ?_
 refine .nil ?_
 show Ev _ _ _ _ _
 refine .cond_false rfl (rfl) ?_
 refine .skip ?_
 show Ev _ _ _ _ _
 refine .seq ?_
 refine .region ?_
 refine .q (op_move rfl) trivial rfl ?_
 refine .q (op_move rfl) trivial rfl ?_
 refine .q (op_buildS (r := .agg _) Tryd.underlying26 rfl zero26 rel_zero26 rfl rfl rfl rfl) trivial rfl ?_
 refine .a (op_allocRow zero26 rel_zero26 rfl) trivial rfl ?_
 refine .w (op_storeRow (by kernel_rfl) rfl rfl rfl rfl rfl (rfl) (rfl)) trivial rfl ?_
 refine .nil ?_
 show Ev _ _ _ _ _
 refine .seq ?_
 refine .drawnF [[], [0], [], [0, 1, 2], [0, 1, 2, 3], [0, 1, 2, 3, 4]] [0, 1, 2, 3] [] [(0, ([1000], [])), (1, ([], [])), (2, ([1000], [])), (3, ([], []))] (by kernel_rfl) (by kernel_rfl) rfl ?_
 show DK _ [0, 1, 2, 3, 4, 5] _ _ _
 refine .q rfl (op_loadRow Tryd.underlying26 rfl (by kernel_rfl) rfl rfl rfl (rfl)) trivial ?_
 refine .a rfl (op_call (U := [(1016, some ⟨.agg [.i64 (min (max ca 0) 64), .i64 4096, .i64 (min (max cc 1) 1073741824), .mp 1017, .i64 0], 68, true⟩), (1017, some ⟨mpV [] 0, 0, true⟩)]) [] [(1016, 1024), (1017, 1016)] (new_ev ca 4096 cc) Tryd.func12 (by kernel_rfl) rfl rfl rfl (⟨⟨_, rfl, rfl, rfl⟩, trivial⟩) (trivial) (⟨⟨1024, _, rfl, rfl, rfl, rfl, .inl rfl⟩, ⟨1016, _, rfl, rfl, rfl, rfl, .inl rfl⟩, trivial⟩) (trivial) rfl) trivial rfl rfl ?_
 refine .q rfl (op_loadRow Tryd.underlying26 rfl (by kernel_rfl) rfl rfl rfl (rfl)) trivial ?_
 refine .a rfl (op_call (U := [(1032, some ⟨.agg [.i64 (min (max ca 0) 64), .i64 4096, .i64 (min (max cc 1) 1073741824), .mp 1033, .i64 0], 68, true⟩), (1033, some ⟨mpV [] 0, 0, true⟩)]) [] [(1032, 1024), (1033, 1016)] (new_ev ca 4096 cc) Tryd.func12 (by kernel_rfl) rfl rfl rfl (⟨⟨_, rfl, rfl, rfl⟩, trivial⟩) (trivial) (⟨⟨1024, _, rfl, rfl, rfl, rfl, .inl rfl⟩, ⟨1016, _, rfl, rfl, rfl, rfl, .inl rfl⟩, trivial⟩) (trivial) rfl) trivial rfl rfl ?_
 refine .q rfl (op_assign rfl) trivial ?_
 refine .q rfl (op_assign rfl) trivial ?_
 refine .nil ?_
 show Ev _ _ _ _ _
 refine .seq ?_
 refine .seq ?_
 refine .region ?_
 refine .q (op_move rfl) trivial rfl ?_
 refine .q (op_eqPtrNil Tryd.underlying28 rfl rfl rfl) trivial rfl ?_
 refine .q (op_move rfl) trivial rfl ?_
 refine .know (b' := false) (rfl) ?_
 refine .q (op_move rfl) ⟨_, rfl, rfl⟩ rfl ?_
 refine .q (op_eqPtrNil Tryd.underlying28 rfl rfl rfl) ⟨_, rfl, rfl⟩ rfl ?_
 refine .q (op_pick_false rfl rfl rfl) trivial rfl ?_
 refine .nil ?_
 show Ev _ _ _ _ _
 refine .cond_false rfl (rfl) ?_
 refine .skip ?_
 show Ev _ _ _ _ _
 refine .seq ?_
 refine .seq ?_
 refine .region ?_
 refine .q (op_assign rfl) trivial rfl ?_
 refine .nil ?_
 show Ev _ _ _ _ _
 refine .block ?_
 refine Ev.loop (ι := PA l.length) (fun p => ⟨[(2, .sl 450 o l.length 5), (8, .ptr 1000 0), (9, .ptr 1008 0), (10, .i64 ((p.i : Nat) : Int))], [(1000, some ⟨.agg [.i64 (min (max ca 0) 64), .i64 4096, .i64 (min (max cc 1) 1073741824), .mp 1001, .i64 p.q.ea], 68, true⟩), (1001, some ⟨mpV p.q.Ma p.q.ka, 0, true⟩), (1008, some ⟨.agg [.i64 (min (max ca 0) 64), .i64 4096, .i64 (min (max cc 1) 1073741824), .mp 1009, .i64 p.q.eb], 68, true⟩), (1009, some ⟨mpV p.q.Mb p.q.kb, 0, true⟩), (3, some ⟨.agg [.err 155 (1) (offE eo (1))], errT, false⟩), (4, some ⟨.agg [.err 155 (2) (offE eo (2))], errT, false⟩), (5, some ⟨.agg [.err 155 (3) (offE eo (3))], errT, false⟩), (6, some ⟨.agg [.err 155 (4) (offE eo (4))], errT, false⟩), (7, some ⟨.agg [.err 155 (5) (offE eo (5))], errT, false⟩), (8, some ⟨.agg [.err 155 (6) (offE eo (6))], errT, false⟩), (9, some ⟨.agg [.err 155 (7) (offE eo (7))], errT, false⟩), (2, some ⟨.agg [.err 155 (8) (offE eo (8))], errT, false⟩), (1, some ⟨.agg [.err 155 (9) (offE eo (9))], errT, false⟩), (10, some ⟨.agg [.err 155 (10) (offE eo (10))], errT, false⟩), (11, some ⟨.agg [.err 155 (11) (offE eo (11))], errT, false⟩), (12, some ⟨.agg [.err 155 (12) (offE eo (12))], errT, false⟩), (13, some ⟨.agg [.err 155 (13) (offE eo (13))], errT, false⟩), (14, some ⟨.agg [.err 155 (14) (offE eo (14))], errT, false⟩), (15, some ⟨.agg [.err 155 (15) (offE eo (15))], errT, false⟩), (16, some ⟨.agg [.err 155 (16) (offE eo (16))], errT, false⟩), (0, some ⟨.agg [.err 155 (17) (offE eo (17))], errT, false⟩), (17, some ⟨.agg [.err 155 (18) (offE eo (18))], errT, false⟩), (18, some ⟨.agg [.err 155 (19) (offE eo (19))], errT, false⟩), (19, some ⟨.agg [.err 155 (20) (offE eo (20))], errT, false⟩), (401, some ⟨.agg [], errT, false⟩), (402, some ⟨.agg [], errT, false⟩), (403, some ⟨.agg [], errT, false⟩), (404, some ⟨.agg [], errT, false⟩), (405, some ⟨.agg [], errT, false⟩), (406, some ⟨.agg [], errT, false⟩), (407, some ⟨.agg [], errT, false⟩), (408, some ⟨.agg [], errT, false⟩), (409, some ⟨.agg [], errT, false⟩), (410, some ⟨.agg [], errT, false⟩), (411, some ⟨.agg [], errT, false⟩), (412, some ⟨.agg [], errT, false⟩), (413, some ⟨.agg [], errT, false⟩), (414, some ⟨.agg [], errT, false⟩), (415, some ⟨.agg [], errT, false⟩), (416, some ⟨.agg [], errT, false⟩), (417, some ⟨.agg [], errT, false⟩), (418, some ⟨.agg [], errT, false⟩), (419, some ⟨.agg [], errT, false⟩), (420, some ⟨.agg [], errT, false⟩), (450, some ⟨.agg (offC o (rowsC actL l)), anyT, false⟩)], 1016⟩) (fun p => 100 - p.i) ⟨0, ⟨[], 0, [], 0, [], 0, [], 0, MI0, MI0, Ap.nil, LB.nil, Nat.le_refl _, by decide, by decide⟩, Nat.zero_le _, Nat.zero_le _⟩ (StLe.mk [(1000, 1016), (1001, 1017), (1008, 1032), (1009, 1033)] rfl rfl ⟨⟨_, rfl, by first | rfl | (simp only [AV.ren]; congr 1; omega), rfl⟩, ⟨_, rfl, by first | rfl | (simp only [AV.ren]; congr 1; omega), rfl⟩, ⟨_, rfl, by first | rfl | (simp only [AV.ren]; congr 1; omega), rfl⟩, ⟨_, rfl, by first | rfl | (simp only [AV.ren]; congr 1; omega), rfl⟩, trivial⟩ ⟨⟨_, _, rfl, rfl, rfl, rfl, id, rfl⟩, ⟨_, _, rfl, rfl, rfl, rfl, id, rfl⟩, ⟨_, _, rfl, rfl, rfl, rfl, id, rfl⟩, ⟨_, _, rfl, rfl, rfl, rfl, id, rfl⟩, ⟨_, _, rfl, rfl, rfl, rfl, id, rfl⟩, ⟨_, _, rfl, rfl, rfl, rfl, id, rfl⟩, ⟨_, _, rfl, rfl, rfl, rfl, id, rfl⟩, ⟨_, _, rfl, rfl, rfl, rfl, id, rfl⟩, ⟨_, _, rfl, rfl, rfl, rfl, id, rfl⟩, ⟨_, _, rfl, rfl, rfl, rfl, id, rfl⟩, ⟨_, _, rfl, rfl, rfl, rfl, id, rfl⟩, ⟨_, _, rfl, rfl, rfl, rfl, id, rfl⟩, ⟨_, _, rfl, rfl, rfl, rfl, id, rfl⟩, ⟨_, _, rfl, rfl, rfl, rfl, id, rfl⟩, ⟨_, _, rfl, rfl, rfl, rfl, id, rfl⟩, ⟨_, _, rfl, rfl, rfl, rfl, id, rfl⟩, ⟨_, _, rfl, rfl, rfl, rfl, id, rfl⟩, ⟨_, _, rfl, rfl, rfl, rfl, id, rfl⟩, ⟨_, _, rfl, rfl, rfl, rfl, id, rfl⟩, ⟨_, _, rfl, rfl, rfl, rfl, id, rfl⟩, ⟨_, _, rfl, rfl, rfl, rfl, id, rfl⟩, ⟨_, _, rfl, rfl, rfl, rfl, id, rfl⟩, ⟨_, _, rfl, rfl, rfl, rfl, id, rfl⟩, ⟨_, _, rfl, rfl, rfl, rfl, id, rfl⟩, ⟨_, _, rfl, rfl, rfl, rfl, id, rfl⟩, ⟨_, _, rfl, rfl, rfl, rfl, id, rfl⟩, ⟨_, _, rfl, rfl, rfl, rfl, id, rfl⟩, ⟨_, _, rfl, rfl, rfl, rfl, id, rfl⟩, ⟨_, _, rfl, rfl, rfl, rfl, id, rfl⟩, ⟨_, _, rfl, rfl, rfl, rfl, id, rfl⟩, ⟨_, _, rfl, rfl, rfl, rfl, id, rfl⟩, ⟨_, _, rfl, rfl, rfl, rfl, id, rfl⟩, ⟨_, _, rfl, rfl, rfl, rfl, id, rfl⟩, ⟨_, _, rfl, rfl, rfl, rfl, id, rfl⟩, ⟨_, _, rfl, rfl, rfl, rfl, id, rfl⟩, ⟨_, _, rfl, rfl, rfl, rfl, id, rfl⟩, ⟨_, _, rfl, rfl, rfl, rfl, id, rfl⟩, ⟨_, _, rfl, rfl, rfl, rfl, id, rfl⟩, ⟨_, _, rfl, rfl, rfl, rfl, id, rfl⟩, ⟨_, _, rfl, rfl, rfl, rfl, id, rfl⟩, ⟨_, _, rfl, rfl, rfl, rfl, id, rfl⟩, ⟨_, _, rfl, rfl, rfl, rfl, id, rfl⟩, ⟨_, _, rfl, rfl, rfl, rfl, id, rfl⟩, ⟨_, _, rfl, rfl, rfl, rfl, id, rfl⟩, ⟨_, _, rfl, rfl, offC_ren _ o (rowsC_flat (fun _ => rfl) l), rfl, id, offC_nm _ o (rowsC_flat (fun _ => rfl) l)⟩, trivial⟩) ?_
 rintro ⟨i, ⟨Ma, ka, La, ea, Mb, kb, Lb, eb, ma, mb, ap, lb, hlen, ha, hb⟩, hi0, hi1⟩
 dsimp only
 refine .seq ?_
 refine .seq ?_
 refine .region ?_
 refine .q (op_move rfl) trivial rfl ?_
 refine .q (op_move rfl) trivial rfl ?_
 refine .q (op_len_sl Tryd.underlying27 rfl) trivial rfl ?_
 refine .q (op_cmpI rfl rfl rfl) trivial rfl ?_
 refine .q (op_move rfl) trivial rfl ?_
 refine .split (fun hg45 => ?_) (fun hg45 => ?_)
 ·simp only [decide_eq_true_eq, decide_eq_false_iff_not, beq_iff_eq, bne_iff_ne, ne_eq, beq_eq_false_iff_ne, bne_eq_false_iff_eq] at hg45
  refine .q (op_move rfl) ⟨_, rfl, rfl⟩ rfl ?_
  refine .q (op_cmpI rfl rfl rfl) ⟨_, rfl, rfl⟩ rfl ?_
  refine .q (op_pick_true rfl rfl rfl) trivial rfl ?_
  refine .nil ?_
  show Ev _ _ _ _ _
  refine .cond rfl (fun hc48 => ?_) (fun hc48 => ?_)
  ·simp only [decide_eq_true_eq, decide_eq_false_iff_not, beq_iff_eq, bne_iff_ne, ne_eq, beq_eq_false_iff_ne, bne_eq_false_iff_eq] at hc48
   refine .skip ?_
   show Ev _ _ _ _ _
   refine .seq ?_
   refine .block ?_
   refine .seq ?_
   refine .region ?_
   refine .q (op_move rfl) trivial rfl ?_
   refine .q (op_move rfl) trivial rfl ?_
   refine .q (op_indexAddr (z := 5) Tryd.underlying27 (by kernel_rfl) rfl rfl rfl (show i < l.length by omega)) trivial rfl ?_
   refine .q (op_loadPart (m := 5) (r := .agg (actL (l.getD i default))) (cs := actL (l.getD i default)) Tryd.underlying37 rfl (by kernel_rfl) rfl rfl rfl rfl (rowsL_part (show i < l.length by omega)).symm (rowsL_room (show i < l.length by omega))) trivial rfl ?_
   refine .a (op_allocRow zero37 rel_zero37 rfl) trivial rfl ?_
   refine .w (op_storeRow (by kernel_rfl) rfl rfl rfl rfl rfl (rfl) (rfl)) trivial rfl ?_
   refine .nil ?_
   show Ev _ _ _ _ _
   refine .seq ?_
   refine .drawnF [[], [0], [0, 1], [], [3], [0, 1, 2, 3, 4], [0, 1, 2, 3, 4, 5], [0, 1, 2, 3, 4, 5, 6]] [1, 2, 4, 5] [] [(1, ([1016], [])), (2, ([], [])), (4, ([1016], [])), (5, ([], []))] (by kernel_rfl) (by kernel_rfl) rfl ?_
   show DK _ [0, 1, 2, 3, 4, 5, 6, 7] _ _ _
   refine .q rfl (op_fieldAddr (m := 0) Tryd.underlying37 rfl (by kernel_rfl) rfl) trivial ?_
   refine .as (.ptr 1016 1) rfl ?_
   refine .q rfl (op_load Tryd.underlying9 rfl rfl rfl rfl (by show 1 < 5; decide)) trivial ?_
   refine .q rfl (op_call (U := []) [] [] (cut_ev (l.getD i default).T 70 (l.getD i default).hT (by decide)) Tryd.func8 (by kernel_rfl) rfl rfl rfl (⟨⟨_, rfl, rfl, rfl⟩, ⟨_, rfl, rfl, rfl⟩, trivial⟩) (trivial) (trivial) (trivial) rfl) trivial ?_
   refine .q rfl (op_fieldAddr (m := 0) Tryd.underlying37 rfl (by kernel_rfl) rfl) trivial ?_
   refine .as (.ptr 1016 2) rfl ?_
   refine .q rfl (op_load Tryd.underlying9 rfl rfl rfl rfl (by show 2 < 5; decide)) trivial ?_
   refine .q rfl (op_call (U := []) [] [] (cut_ev (l.getD i default).A 70 (l.getD i default).hA (by decide)) Tryd.func8 (by kernel_rfl) rfl rfl rfl (⟨⟨_, rfl, rfl, rfl⟩, ⟨_, rfl, rfl, rfl⟩, trivial⟩) (trivial) (trivial) (trivial) rfl) trivial ?_
   refine .q rfl (op_assign rfl) trivial ?_
   refine .q rfl (op_assign rfl) trivial ?_
   refine .nil ?_
   show Ev _ _ _ _ _
   refine .seq ?_
   refine .region ?_
   refine .q (op_move rfl) trivial rfl ?_
   refine .q (op_eqS rfl rfl rfl) trivial rfl ?_
   refine .q (op_assign rfl) trivial rfl ?_
   refine .nil ?_
   show Ev _ _ _ _ _
   refine .seq ?_
   refine Ev.cutp (ι := PB (i + 1)) (fun q => ⟨[(2, .sl 450 o l.length 5), (8, .ptr 1000 0), (9, .ptr 1008 0), (10, .i64 ((i : Nat) : Int))], [(1000, some ⟨.agg [.i64 (min (max ca 0) 64), .i64 4096, .i64 (min (max cc 1) 1073741824), .mp 1001, .i64 q.ea], 68, true⟩), (1001, some ⟨mpV q.Ma q.ka, 0, true⟩), (1008, some ⟨.agg [.i64 (min (max ca 0) 64), .i64 4096, .i64 (min (max cc 1) 1073741824), .mp 1009, .i64 q.eb], 68, true⟩), (1009, some ⟨mpV q.Mb q.kb, 0, true⟩), (3, some ⟨.agg [.err 155 (1) (offE eo (1))], errT, false⟩), (4, some ⟨.agg [.err 155 (2) (offE eo (2))], errT, false⟩), (5, some ⟨.agg [.err 155 (3) (offE eo (3))], errT, false⟩), (6, some ⟨.agg [.err 155 (4) (offE eo (4))], errT, false⟩), (7, some ⟨.agg [.err 155 (5) (offE eo (5))], errT, false⟩), (8, some ⟨.agg [.err 155 (6) (offE eo (6))], errT, false⟩), (9, some ⟨.agg [.err 155 (7) (offE eo (7))], errT, false⟩), (2, some ⟨.agg [.err 155 (8) (offE eo (8))], errT, false⟩), (1, some ⟨.agg [.err 155 (9) (offE eo (9))], errT, false⟩), (10, some ⟨.agg [.err 155 (10) (offE eo (10))], errT, false⟩), (11, some ⟨.agg [.err 155 (11) (offE eo (11))], errT, false⟩), (12, some ⟨.agg [.err 155 (12) (offE eo (12))], errT, false⟩), (13, some ⟨.agg [.err 155 (13) (offE eo (13))], errT, false⟩), (14, some ⟨.agg [.err 155 (14) (offE eo (14))], errT, false⟩), (15, some ⟨.agg [.err 155 (15) (offE eo (15))], errT, false⟩), (16, some ⟨.agg [.err 155 (16) (offE eo (16))], errT, false⟩), (0, some ⟨.agg [.err 155 (17) (offE eo (17))], errT, false⟩), (17, some ⟨.agg [.err 155 (18) (offE eo (18))], errT, false⟩), (18, some ⟨.agg [.err 155 (19) (offE eo (19))], errT, false⟩), (19, some ⟨.agg [.err 155 (20) (offE eo (20))], errT, false⟩), (401, some ⟨.agg [], errT, false⟩), (402, some ⟨.agg [], errT, false⟩), (403, some ⟨.agg [], errT, false⟩), (404, some ⟨.agg [], errT, false⟩), (405, some ⟨.agg [], errT, false⟩), (406, some ⟨.agg [], errT, false⟩), (407, some ⟨.agg [], errT, false⟩), (408, some ⟨.agg [], errT, false⟩), (409, some ⟨.agg [], errT, false⟩), (410, some ⟨.agg [], errT, false⟩), (411, some ⟨.agg [], errT, false⟩), (412, some ⟨.agg [], errT, false⟩), (413, some ⟨.agg [], errT, false⟩), (414, some ⟨.agg [], errT, false⟩), (415, some ⟨.agg [], errT, false⟩), (416, some ⟨.agg [], errT, false⟩), (417, some ⟨.agg [], errT, false⟩), (418, some ⟨.agg [], errT, false⟩), (419, some ⟨.agg [], errT, false⟩), (420, some ⟨.agg [], errT, false⟩), (450, some ⟨.agg (offC o (rowsC actL l)), anyT, false⟩)], 1016⟩) ?_ ?_
   ·refine .seq ?_
    refine .region ?_
    refine .q (op_fieldAddr (m := 0) Tryd.underlying37 rfl (by kernel_rfl) rfl) trivial rfl ?_
    refine .as (.ptr 1016 0) rfl ?_
    refine .q (op_load Tryd.underlying3 rfl rfl rfl rfl (by show 0 < 5; decide)) trivial rfl ?_
    refine .nil ?_
    show Ev _ _ _ _ _
    refine .block ?_
    refine .seq ?_
    refine .region ?_
    refine .q (op_cmpI rfl rfl rfl) trivial rfl ?_
    refine .q (op_assign rfl) trivial rfl ?_
    refine .nil ?_
    show Ev _ _ _ _ _
    refine .cond rfl (fun hc100 => ?_) (fun hc100 => ?_)
    ·skip
     refine .seq ?_
     have h9 := canc_all (min (max ca 0) 64) 4096 (min (max cc 1) 1073741824) ea ma eo (T := ((l.getD i default).T.take 70)) (A := ((l.getD i default).A.take 70)) (by rw [List.length_take]; exact Nat.le_trans (Nat.min_le_right _ _) (l.getD i default).hT) (by rw [List.length_take]; exact Nat.le_trans (Nat.min_le_right _ _) (l.getD i default).hA) (l.getD i default).o
     obtain ⟨Ma2, hma2, hca⟩ := h9
     refine .region ?_
     refine .q (op_move rfl) trivial rfl ?_
     refine .q (op_move rfl) trivial rfl ?_
     refine .q (op_move rfl) trivial rfl ?_
     refine .q (op_fieldAddr (m := 0) Tryd.underlying37 rfl (by kernel_rfl) rfl) trivial rfl ?_
     refine .as (.ptr 1016 3) rfl ?_
     refine .q (op_load Tryd.underlying3 rfl rfl rfl rfl (by show 3 < 5; decide)) trivial rfl ?_
     refine .a (op_call (U := [(1001, some ⟨mpV Ma2 ka, 0, true⟩)]) [(500, 1000), (501, 1001)] [] (hca) Tryd.func21 (by kernel_rfl) rfl rfl rfl (⟨⟨_, rfl, rfl, rfl⟩, ⟨_, rfl, rfl, rfl⟩, ⟨_, rfl, rfl, rfl⟩, ⟨_, rfl, rfl, rfl⟩, trivial⟩) (⟨⟨_, _, rfl, rfl, rfl, rfl, (fun h => by cases h), rfl⟩, ⟨_, _, rfl, rfl, rfl, rfl, id, rfl⟩, ⟨_, _, rfl, rfl, rfl, rfl, (fun h => by cases h), rfl⟩, ⟨_, _, rfl, rfl, rfl, rfl, (fun h => by cases h), rfl⟩, ⟨_, _, rfl, rfl, rfl, rfl, (fun h => by cases h), rfl⟩, ⟨_, _, rfl, rfl, rfl, rfl, (fun h => by cases h), rfl⟩, ⟨_, _, rfl, rfl, rfl, rfl, (fun h => by cases h), rfl⟩, ⟨_, _, rfl, rfl, rfl, rfl, (fun h => by cases h), rfl⟩, ⟨_, _, rfl, rfl, rfl, rfl, (fun h => by cases h), rfl⟩, ⟨_, _, rfl, rfl, rfl, rfl, (fun h => by cases h), rfl⟩, ⟨_, _, rfl, rfl, rfl, rfl, (fun h => by cases h), rfl⟩, ⟨_, _, rfl, rfl, rfl, rfl, (fun h => by cases h), rfl⟩, ⟨_, _, rfl, rfl, rfl, rfl, (fun h => by cases h), rfl⟩, ⟨_, _, rfl, rfl, rfl, rfl, (fun h => by cases h), rfl⟩, ⟨_, _, rfl, rfl, rfl, rfl, (fun h => by cases h), rfl⟩, ⟨_, _, rfl, rfl, rfl, rfl, (fun h => by cases h), rfl⟩, ⟨_, _, rfl, rfl, rfl, rfl, (fun h => by cases h), rfl⟩, ⟨_, _, rfl, rfl, rfl, rfl, (fun h => by cases h), rfl⟩, ⟨_, _, rfl, rfl, rfl, rfl, (fun h => by cases h), rfl⟩, ⟨_, _, rfl, rfl, rfl, rfl, (fun h => by cases h), rfl⟩, ⟨_, _, rfl, rfl, rfl, rfl, (fun h => by cases h), rfl⟩, ⟨_, _, rfl, rfl, rfl, rfl, (fun h => by cases h), rfl⟩, ⟨_, _, rfl, rfl, rfl, rfl, (fun h => by cases h), rfl⟩, ⟨_, _, rfl, rfl, rfl, rfl, (fun h => by cases h), rfl⟩, ⟨_, _, rfl, rfl, rfl, rfl, (fun h => by cases h), rfl⟩, ⟨_, _, rfl, rfl, rfl, rfl, (fun h => by cases h), rfl⟩, ⟨_, _, rfl, rfl, rfl, rfl, (fun h => by cases h), rfl⟩, ⟨_, _, rfl, rfl, rfl, rfl, (fun h => by cases h), rfl⟩, ⟨_, _, rfl, rfl, rfl, rfl, (fun h => by cases h), rfl⟩, ⟨_, _, rfl, rfl, rfl, rfl, (fun h => by cases h), rfl⟩, ⟨_, _, rfl, rfl, rfl, rfl, (fun h => by cases h), rfl⟩, ⟨_, _, rfl, rfl, rfl, rfl, (fun h => by cases h), rfl⟩, ⟨_, _, rfl, rfl, rfl, rfl, (fun h => by cases h), rfl⟩, ⟨_, _, rfl, rfl, rfl, rfl, (fun h => by cases h), rfl⟩, ⟨_, _, rfl, rfl, rfl, rfl, (fun h => by cases h), rfl⟩, ⟨_, _, rfl, rfl, rfl, rfl, (fun h => by cases h), rfl⟩, ⟨_, _, rfl, rfl, rfl, rfl, (fun h => by cases h), rfl⟩, ⟨_, _, rfl, rfl, rfl, rfl, (fun h => by cases h), rfl⟩, ⟨_, _, rfl, rfl, rfl, rfl, (fun h => by cases h), rfl⟩, ⟨_, _, rfl, rfl, rfl, rfl, (fun h => by cases h), rfl⟩, ⟨_, _, rfl, rfl, rfl, rfl, (fun h => by cases h), rfl⟩, ⟨_, _, rfl, rfl, rfl, rfl, (fun h => by cases h), rfl⟩, trivial⟩) (⟨⟨501, _, rfl, rfl, rfl, rfl, .inr ⟨rfl, _, rfl, rfl⟩⟩, trivial⟩) (⟨(fun h => by cases h), (fun _ => ⟨1001, _, rfl, rfl⟩), (fun h => by cases h), (fun h => by cases h), (fun h => by cases h), (fun h => by cases h), (fun h => by cases h), (fun h => by cases h), (fun h => by cases h), (fun h => by cases h), (fun h => by cases h), (fun h => by cases h), (fun h => by cases h), (fun h => by cases h), (fun h => by cases h), (fun h => by cases h), (fun h => by cases h), (fun h => by cases h), (fun h => by cases h), (fun h => by cases h), (fun h => by cases h), (fun h => by cases h), (fun h => by cases h), (fun h => by cases h), (fun h => by cases h), (fun h => by cases h), (fun h => by cases h), (fun h => by cases h), (fun h => by cases h), (fun h => by cases h), (fun h => by cases h), (fun h => by cases h), (fun h => by cases h), (fun h => by cases h), (fun h => by cases h), (fun h => by cases h), (fun h => by cases h), (fun h => by cases h), (fun h => by cases h), (fun h => by cases h), (fun h => by cases h), (fun h => by cases h), trivial⟩) rfl) trivial rfl ?_
     refine .nil ?_
     show Ev _ _ _ _ _
     refine .seq ?_
     refine .region ?_
     refine .q (op_move rfl) trivial rfl ?_
     refine .nil ?_
     show Ev _ _ _ _ _
     refine .cond rfl (fun hc108 => ?_) (fun hc108 => ?_)
     ·skip
      have hT1 : ((l.getD i default).T.take 70) = [116] := eq_of_beq hc108
      have h9 := canc_all (min (max ca 0) 64) 4096 (min (max cc 1) 1073741824) eb mb eo (T := ((l.getD i default).T.take 70)) (A := ((l.getD i default).A.take 70)) (by rw [List.length_take]; exact Nat.le_trans (Nat.min_le_right _ _) (l.getD i default).hT) (by rw [List.length_take]; exact Nat.le_trans (Nat.min_le_right _ _) (l.getD i default).hA) (l.getD i default).o
      obtain ⟨Mb2, hmb2, hcb⟩ := h9
      refine .region ?_
      refine .q (op_move rfl) trivial rfl ?_
      refine .q (op_move rfl) trivial rfl ?_
      refine .q (op_move rfl) trivial rfl ?_
      refine .q (op_fieldAddr (m := 0) Tryd.underlying37 rfl (by kernel_rfl) rfl) trivial rfl ?_
      refine .as (.ptr 1016 3) rfl ?_
      refine .q (op_load Tryd.underlying3 rfl rfl rfl rfl (by show 3 < 5; decide)) trivial rfl ?_
      refine .a (op_call (U := [(1009, some ⟨mpV Mb2 kb, 0, true⟩)]) [(500, 1008), (501, 1009)] [] (hcb) Tryd.func21 (by kernel_rfl) rfl rfl rfl (⟨⟨_, rfl, rfl, rfl⟩, ⟨_, rfl, rfl, rfl⟩, ⟨_, rfl, rfl, rfl⟩, ⟨_, rfl, rfl, rfl⟩, trivial⟩) (⟨⟨_, _, rfl, rfl, rfl, rfl, (fun h => by cases h), rfl⟩, ⟨_, _, rfl, rfl, rfl, rfl, id, rfl⟩, ⟨_, _, rfl, rfl, rfl, rfl, (fun h => by cases h), rfl⟩, ⟨_, _, rfl, rfl, rfl, rfl, (fun h => by cases h), rfl⟩, ⟨_, _, rfl, rfl, rfl, rfl, (fun h => by cases h), rfl⟩, ⟨_, _, rfl, rfl, rfl, rfl, (fun h => by cases h), rfl⟩, ⟨_, _, rfl, rfl, rfl, rfl, (fun h => by cases h), rfl⟩, ⟨_, _, rfl, rfl, rfl, rfl, (fun h => by cases h), rfl⟩, ⟨_, _, rfl, rfl, rfl, rfl, (fun h => by cases h), rfl⟩, ⟨_, _, rfl, rfl, rfl, rfl, (fun h => by cases h), rfl⟩, ⟨_, _, rfl, rfl, rfl, rfl, (fun h => by cases h), rfl⟩, ⟨_, _, rfl, rfl, rfl, rfl, (fun h => by cases h), rfl⟩, ⟨_, _, rfl, rfl, rfl, rfl, (fun h => by cases h), rfl⟩, ⟨_, _, rfl, rfl, rfl, rfl, (fun h => by cases h), rfl⟩, ⟨_, _, rfl, rfl, rfl, rfl, (fun h => by cases h), rfl⟩, ⟨_, _, rfl, rfl, rfl, rfl, (fun h => by cases h), rfl⟩, ⟨_, _, rfl, rfl, rfl, rfl, (fun h => by cases h), rfl⟩, ⟨_, _, rfl, rfl, rfl, rfl, (fun h => by cases h), rfl⟩, ⟨_, _, rfl, rfl, rfl, rfl, (fun h => by cases h), rfl⟩, ⟨_, _, rfl, rfl, rfl, rfl, (fun h => by cases h), rfl⟩, ⟨_, _, rfl, rfl, rfl, rfl, (fun h => by cases h), rfl⟩, ⟨_, _, rfl, rfl, rfl, rfl, (fun h => by cases h), rfl⟩, ⟨_, _, rfl, rfl, rfl, rfl, (fun h => by cases h), rfl⟩, ⟨_, _, rfl, rfl, rfl, rfl, (fun h => by cases h), rfl⟩, ⟨_, _, rfl, rfl, rfl, rfl, (fun h => by cases h), rfl⟩, ⟨_, _, rfl, rfl, rfl, rfl, (fun h => by cases h), rfl⟩, ⟨_, _, rfl, rfl, rfl, rfl, (fun h => by cases h), rfl⟩, ⟨_, _, rfl, rfl, rfl, rfl, (fun h => by cases h), rfl⟩, ⟨_, _, rfl, rfl, rfl, rfl, (fun h => by cases h), rfl⟩, ⟨_, _, rfl, rfl, rfl, rfl, (fun h => by cases h), rfl⟩, ⟨_, _, rfl, rfl, rfl, rfl, (fun h => by cases h), rfl⟩, ⟨_, _, rfl, rfl, rfl, rfl, (fun h => by cases h), rfl⟩, ⟨_, _, rfl, rfl, rfl, rfl, (fun h => by cases h), rfl⟩, ⟨_, _, rfl, rfl, rfl, rfl, (fun h => by cases h), rfl⟩, ⟨_, _, rfl, rfl, rfl, rfl, (fun h => by cases h), rfl⟩, ⟨_, _, rfl, rfl, rfl, rfl, (fun h => by cases h), rfl⟩, ⟨_, _, rfl, rfl, rfl, rfl, (fun h => by cases h), rfl⟩, ⟨_, _, rfl, rfl, rfl, rfl, (fun h => by cases h), rfl⟩, ⟨_, _, rfl, rfl, rfl, rfl, (fun h => by cases h), rfl⟩, ⟨_, _, rfl, rfl, rfl, rfl, (fun h => by cases h), rfl⟩, ⟨_, _, rfl, rfl, rfl, rfl, (fun h => by cases h), rfl⟩, ⟨_, _, rfl, rfl, rfl, rfl, (fun h => by cases h), rfl⟩, trivial⟩) (⟨⟨501, _, rfl, rfl, rfl, rfl, .inr ⟨rfl, _, rfl, rfl⟩⟩, trivial⟩) (⟨(fun h => by cases h), (fun _ => ⟨1009, _, rfl, rfl⟩), (fun h => by cases h), (fun h => by cases h), (fun h => by cases h), (fun h => by cases h), (fun h => by cases h), (fun h => by cases h), (fun h => by cases h), (fun h => by cases h), (fun h => by cases h), (fun h => by cases h), (fun h => by cases h), (fun h => by cases h), (fun h => by cases h), (fun h => by cases h), (fun h => by cases h), (fun h => by cases h), (fun h => by cases h), (fun h => by cases h), (fun h => by cases h), (fun h => by cases h), (fun h => by cases h), (fun h => by cases h), (fun h => by cases h), (fun h => by cases h), (fun h => by cases h), (fun h => by cases h), (fun h => by cases h), (fun h => by cases h), (fun h => by cases h), (fun h => by cases h), (fun h => by cases h), (fun h => by cases h), (fun h => by cases h), (fun h => by cases h), (fun h => by cases h), (fun h => by cases h), (fun h => by cases h), (fun h => by cases h), (fun h => by cases h), (fun h => by cases h), trivial⟩) rfl) trivial rfl ?_
      refine .nil ?_
      exact ⟨⟨Ma2, ka, _, ea, Mb2, kb, _, eb, hma2, hmb2, ap.cancel _ _ hT1, lb.filter _, Nat.le_trans (Nat.le_trans (List.length_filter_le _ _) hlen) (Nat.le_succ i), by omega, by omega⟩, StLe.mk [(1000, 1000), (1001, 1001), (1008, 1008), (1009, 1009)] rfl rfl ⟨⟨_, rfl, by first | rfl | (simp only [AV.ren]; congr 1; omega), rfl⟩, ⟨_, rfl, by first | rfl | (simp only [AV.ren]; congr 1; omega), rfl⟩, ⟨_, rfl, by first | rfl | (simp only [AV.ren]; congr 1; omega), rfl⟩, ⟨_, rfl, by first | rfl | (simp only [AV.ren]; congr 1; omega), rfl⟩, trivial⟩ ⟨⟨_, _, rfl, rfl, rfl, rfl, id, rfl⟩, ⟨_, _, rfl, rfl, rfl, rfl, id, rfl⟩, ⟨_, _, rfl, rfl, rfl, rfl, id, rfl⟩, ⟨_, _, rfl, rfl, rfl, rfl, id, rfl⟩, ⟨_, _, rfl, rfl, rfl, rfl, id, rfl⟩, ⟨_, _, rfl, rfl, rfl, rfl, id, rfl⟩, ⟨_, _, rfl, rfl, rfl, rfl, id, rfl⟩, ⟨_, _, rfl, rfl, rfl, rfl, id, rfl⟩, ⟨_, _, rfl, rfl, rfl, rfl, id, rfl⟩, ⟨_, _, rfl, rfl, rfl, rfl, id, rfl⟩, ⟨_, _, rfl, rfl, rfl, rfl, id, rfl⟩, ⟨_, _, rfl, rfl, rfl, rfl, id, rfl⟩, ⟨_, _, rfl, rfl, rfl, rfl, id, rfl⟩, ⟨_, _, rfl, rfl, rfl, rfl, id, rfl⟩, ⟨_, _, rfl, rfl, rfl, rfl, id, rfl⟩, ⟨_, _, rfl, rfl, rfl, rfl, id, rfl⟩, ⟨_, _, rfl, rfl, rfl, rfl, id, rfl⟩, ⟨_, _, rfl, rfl, rfl, rfl, id, rfl⟩, ⟨_, _, rfl, rfl, rfl, rfl, id, rfl⟩, ⟨_, _, rfl, rfl, rfl, rfl, id, rfl⟩, ⟨_, _, rfl, rfl, rfl, rfl, id, rfl⟩, ⟨_, _, rfl, rfl, rfl, rfl, id, rfl⟩, ⟨_, _, rfl, rfl, rfl, rfl, id, rfl⟩, ⟨_, _, rfl, rfl, rfl, rfl, id, rfl⟩, ⟨_, _, rfl, rfl, rfl, rfl, id, rfl⟩, ⟨_, _, rfl, rfl, rfl, rfl, id, rfl⟩, ⟨_, _, rfl, rfl, rfl, rfl, id, rfl⟩, ⟨_, _, rfl, rfl, rfl, rfl, id, rfl⟩, ⟨_, _, rfl, rfl, rfl, rfl, id, rfl⟩, ⟨_, _, rfl, rfl, rfl, rfl, id, rfl⟩, ⟨_, _, rfl, rfl, rfl, rfl, id, rfl⟩, ⟨_, _, rfl, rfl, rfl, rfl, id, rfl⟩, ⟨_, _, rfl, rfl, rfl, rfl, id, rfl⟩, ⟨_, _, rfl, rfl, rfl, rfl, id, rfl⟩, ⟨_, _, rfl, rfl, rfl, rfl, id, rfl⟩, ⟨_, _, rfl, rfl, rfl, rfl, id, rfl⟩, ⟨_, _, rfl, rfl, rfl, rfl, id, rfl⟩, ⟨_, _, rfl, rfl, rfl, rfl, id, rfl⟩, ⟨_, _, rfl, rfl, rfl, rfl, id, rfl⟩, ⟨_, _, rfl, rfl, rfl, rfl, id, rfl⟩, ⟨_, _, rfl, rfl, rfl, rfl, id, rfl⟩, ⟨_, _, rfl, rfl, rfl, rfl, id, rfl⟩, ⟨_, _, rfl, rfl, rfl, rfl, id, rfl⟩, ⟨_, _, rfl, rfl, rfl, rfl, id, rfl⟩, ⟨_, _, rfl, rfl, offC_ren _ o (rowsC_flat (fun _ => rfl) l), rfl, id, offC_nm _ o (rowsC_flat (fun _ => rfl) l)⟩, trivial⟩⟩
     ·skip
      refine .skip ?_
      exact ⟨⟨Ma2, ka, _, ea, Mb, kb, Lb, eb, hma2, mb, ap.cancelO (fun e => by rw [e] at hc108; cases hc108) _ _, lb.filter _, Nat.le_trans (Nat.le_trans (List.length_filter_le _ _) hlen) (Nat.le_succ i), by omega, by omega⟩, StLe.mk [(1000, 1000), (1001, 1001), (1008, 1008), (1009, 1009)] rfl rfl ⟨⟨_, rfl, by first | rfl | (simp only [AV.ren]; congr 1; omega), rfl⟩, ⟨_, rfl, by first | rfl | (simp only [AV.ren]; congr 1; omega), rfl⟩, ⟨_, rfl, by first | rfl | (simp only [AV.ren]; congr 1; omega), rfl⟩, ⟨_, rfl, by first | rfl | (simp only [AV.ren]; congr 1; omega), rfl⟩, trivial⟩ ⟨⟨_, _, rfl, rfl, rfl, rfl, id, rfl⟩, ⟨_, _, rfl, rfl, rfl, rfl, id, rfl⟩, ⟨_, _, rfl, rfl, rfl, rfl, id, rfl⟩, ⟨_, _, rfl, rfl, rfl, rfl, id, rfl⟩, ⟨_, _, rfl, rfl, rfl, rfl, id, rfl⟩, ⟨_, _, rfl, rfl, rfl, rfl, id, rfl⟩, ⟨_, _, rfl, rfl, rfl, rfl, id, rfl⟩, ⟨_, _, rfl, rfl, rfl, rfl, id, rfl⟩, ⟨_, _, rfl, rfl, rfl, rfl, id, rfl⟩, ⟨_, _, rfl, rfl, rfl, rfl, id, rfl⟩, ⟨_, _, rfl, rfl, rfl, rfl, id, rfl⟩, ⟨_, _, rfl, rfl, rfl, rfl, id, rfl⟩, ⟨_, _, rfl, rfl, rfl, rfl, id, rfl⟩, ⟨_, _, rfl, rfl, rfl, rfl, id, rfl⟩, ⟨_, _, rfl, rfl, rfl, rfl, id, rfl⟩, ⟨_, _, rfl, rfl, rfl, rfl, id, rfl⟩, ⟨_, _, rfl, rfl, rfl, rfl, id, rfl⟩, ⟨_, _, rfl, rfl, rfl, rfl, id, rfl⟩, ⟨_, _, rfl, rfl, rfl, rfl, id, rfl⟩, ⟨_, _, rfl, rfl, rfl, rfl, id, rfl⟩, ⟨_, _, rfl, rfl, rfl, rfl, id, rfl⟩, ⟨_, _, rfl, rfl, rfl, rfl, id, rfl⟩, ⟨_, _, rfl, rfl, rfl, rfl, id, rfl⟩, ⟨_, _, rfl, rfl, rfl, rfl, id, rfl⟩, ⟨_, _, rfl, rfl, rfl, rfl, id, rfl⟩, ⟨_, _, rfl, rfl, rfl, rfl, id, rfl⟩, ⟨_, _, rfl, rfl, rfl, rfl, id, rfl⟩, ⟨_, _, rfl, rfl, rfl, rfl, id, rfl⟩, ⟨_, _, rfl, rfl, rfl, rfl, id, rfl⟩, ⟨_, _, rfl, rfl, rfl, rfl, id, rfl⟩, ⟨_, _, rfl, rfl, rfl, rfl, id, rfl⟩, ⟨_, _, rfl, rfl, rfl, rfl, id, rfl⟩, ⟨_, _, rfl, rfl, rfl, rfl, id, rfl⟩, ⟨_, _, rfl, rfl, rfl, rfl, id, rfl⟩, ⟨_, _, rfl, rfl, rfl, rfl, id, rfl⟩, ⟨_, _, rfl, rfl, rfl, rfl, id, rfl⟩, ⟨_, _, rfl, rfl, rfl, rfl, id, rfl⟩, ⟨_, _, rfl, rfl, rfl, rfl, id, rfl⟩, ⟨_, _, rfl, rfl, rfl, rfl, id, rfl⟩, ⟨_, _, rfl, rfl, rfl, rfl, id, rfl⟩, ⟨_, _, rfl, rfl, rfl, rfl, id, rfl⟩, ⟨_, _, rfl, rfl, rfl, rfl, id, rfl⟩, ⟨_, _, rfl, rfl, rfl, rfl, id, rfl⟩, ⟨_, _, rfl, rfl, rfl, rfl, id, rfl⟩, ⟨_, _, rfl, rfl, offC_ren _ o (rowsC_flat (fun _ => rfl) l), rfl, id, offC_nm _ o (rowsC_flat (fun _ => rfl) l)⟩, trivial⟩⟩
    ·skip
     refine .seq ?_
     refine .region ?_
     refine .q (op_cmpI rfl rfl rfl) trivial rfl ?_
     refine .q (op_assign rfl) trivial rfl ?_
     refine .nil ?_
     show Ev _ _ _ _ _
     refine .cond rfl (fun hc115 => ?_) (fun hc115 => ?_)
     ·skip
      refine .seq ?_
      refine .region ?_
      refine .q (op_move rfl) trivial rfl ?_
      refine .q (op_fieldAddr (m := 0) Tryd.underlying37 rfl (by kernel_rfl) rfl) trivial rfl ?_
      refine .as (.ptr 1016 3) rfl ?_
      refine .q (op_load Tryd.underlying3 rfl rfl rfl rfl (by show 3 < 5; decide)) trivial rfl ?_
      refine .q (op_fieldAddr (m := 0) Tryd.underlying37 rfl (by kernel_rfl) rfl) trivial rfl ?_
      refine .as (.ptr 1016 4) rfl ?_
      refine .q (op_load Tryd.underlying3 rfl rfl rfl rfl (by show 4 < 5; decide)) trivial rfl ?_
      refine .a (op_call (U := [(1001, some ⟨mpV (ptN Ma ka ((La.filter (fun x => x.o == (l.getD i default).o)).map (beatL (l.getD i default).n)) (La.filter (fun x => x.o == (l.getD i default).o)).length).1 (ptN Ma ka ((La.filter (fun x => x.o == (l.getD i default).o)).map (beatL (l.getD i default).n)) (La.filter (fun x => x.o == (l.getD i default).o)).length).2, 0, true⟩)]) [(500, 1000), (501, 1001)] [] (beat_ev (min (max ca 0) 64) 4096 (min (max cc 1) 1073741824) ea ma (l.getD i default).o (l.getD i default).n) Tryd.func22 (by kernel_rfl) rfl rfl rfl (⟨⟨_, rfl, rfl, rfl⟩, ⟨_, rfl, rfl, rfl⟩, ⟨_, rfl, rfl, rfl⟩, trivial⟩) (⟨⟨_, _, rfl, rfl, rfl, rfl, (fun h => by cases h), rfl⟩, ⟨_, _, rfl, rfl, rfl, rfl, id, rfl⟩, trivial⟩) (⟨⟨501, _, rfl, rfl, rfl, rfl, .inr ⟨rfl, _, rfl, rfl⟩⟩, trivial⟩) (⟨(fun h => by cases h), (fun _ => ⟨1001, _, rfl, rfl⟩), trivial⟩) rfl) trivial rfl ?_
      refine .nil ?_
      show Ev _ _ _ _ _
      refine .region ?_
      refine .q (op_move rfl) trivial rfl ?_
      refine .q (op_fieldAddr (m := 0) Tryd.underlying37 rfl (by kernel_rfl) rfl) trivial rfl ?_
      refine .as (.ptr 1016 3) rfl ?_
      refine .q (op_load Tryd.underlying3 rfl rfl rfl rfl (by show 3 < 5; decide)) trivial rfl ?_
      refine .q (op_fieldAddr (m := 0) Tryd.underlying37 rfl (by kernel_rfl) rfl) trivial rfl ?_
      refine .as (.ptr 1016 4) rfl ?_
      refine .q (op_load Tryd.underlying3 rfl rfl rfl rfl (by show 4 < 5; decide)) trivial rfl ?_
      refine .a (op_call (U := [(1009, some ⟨mpV (ptN Mb kb ((Lb.filter (fun x => x.o == (l.getD i default).o)).map (beatL (l.getD i default).n)) (Lb.filter (fun x => x.o == (l.getD i default).o)).length).1 (ptN Mb kb ((Lb.filter (fun x => x.o == (l.getD i default).o)).map (beatL (l.getD i default).n)) (Lb.filter (fun x => x.o == (l.getD i default).o)).length).2, 0, true⟩)]) [(500, 1008), (501, 1009)] [] (beat_ev (min (max ca 0) 64) 4096 (min (max cc 1) 1073741824) eb mb (l.getD i default).o (l.getD i default).n) Tryd.func22 (by kernel_rfl) rfl rfl rfl (⟨⟨_, rfl, rfl, rfl⟩, ⟨_, rfl, rfl, rfl⟩, ⟨_, rfl, rfl, rfl⟩, trivial⟩) (⟨⟨_, _, rfl, rfl, rfl, rfl, (fun h => by cases h), rfl⟩, ⟨_, _, rfl, rfl, rfl, rfl, id, rfl⟩, trivial⟩) (⟨⟨501, _, rfl, rfl, rfl, rfl, .inr ⟨rfl, _, rfl, rfl⟩⟩, trivial⟩) (⟨(fun h => by cases h), (fun _ => ⟨1009, _, rfl, rfl⟩), trivial⟩) rfl) trivial rfl ?_
      refine .nil ?_
      exact ⟨⟨_, _, _, ea, _, _, _, eb, ma.beats (l.getD i default).o (l.getD i default).n, mb.beats (l.getD i default).o (l.getD i default).n, ap.beat _ _, lb.beat _ _, by rw [List.length_map]; omega, by omega, by omega⟩, StLe.mk [(1000, 1000), (1001, 1001), (1008, 1008), (1009, 1009)] rfl rfl ⟨⟨_, rfl, by first | rfl | (simp only [AV.ren]; congr 1; omega), rfl⟩, ⟨_, rfl, by first | rfl | (simp only [AV.ren]; congr 1; omega), rfl⟩, ⟨_, rfl, by first | rfl | (simp only [AV.ren]; congr 1; omega), rfl⟩, ⟨_, rfl, by first | rfl | (simp only [AV.ren]; congr 1; omega), rfl⟩, trivial⟩ ⟨⟨_, _, rfl, rfl, rfl, rfl, id, rfl⟩, ⟨_, _, rfl, rfl, rfl, rfl, id, rfl⟩, ⟨_, _, rfl, rfl, rfl, rfl, id, rfl⟩, ⟨_, _, rfl, rfl, rfl, rfl, id, rfl⟩, ⟨_, _, rfl, rfl, rfl, rfl, id, rfl⟩, ⟨_, _, rfl, rfl, rfl, rfl, id, rfl⟩, ⟨_, _, rfl, rfl, rfl, rfl, id, rfl⟩, ⟨_, _, rfl, rfl, rfl, rfl, id, rfl⟩, ⟨_, _, rfl, rfl, rfl, rfl, id, rfl⟩, ⟨_, _, rfl, rfl, rfl, rfl, id, rfl⟩, ⟨_, _, rfl, rfl, rfl, rfl, id, rfl⟩, ⟨_, _, rfl, rfl, rfl, rfl, id, rfl⟩, ⟨_, _, rfl, rfl, rfl, rfl, id, rfl⟩, ⟨_, _, rfl, rfl, rfl, rfl, id, rfl⟩, ⟨_, _, rfl, rfl, rfl, rfl, id, rfl⟩, ⟨_, _, rfl, rfl, rfl, rfl, id, rfl⟩, ⟨_, _, rfl, rfl, rfl, rfl, id, rfl⟩, ⟨_, _, rfl, rfl, rfl, rfl, id, rfl⟩, ⟨_, _, rfl, rfl, rfl, rfl, id, rfl⟩, ⟨_, _, rfl, rfl, rfl, rfl, id, rfl⟩, ⟨_, _, rfl, rfl, rfl, rfl, id, rfl⟩, ⟨_, _, rfl, rfl, rfl, rfl, id, rfl⟩, ⟨_, _, rfl, rfl, rfl, rfl, id, rfl⟩, ⟨_, _, rfl, rfl, rfl, rfl, id, rfl⟩, ⟨_, _, rfl, rfl, rfl, rfl, id, rfl⟩, ⟨_, _, rfl, rfl, rfl, rfl, id, rfl⟩, ⟨_, _, rfl, rfl, rfl, rfl, id, rfl⟩, ⟨_, _, rfl, rfl, rfl, rfl, id, rfl⟩, ⟨_, _, rfl, rfl, rfl, rfl, id, rfl⟩, ⟨_, _, rfl, rfl, rfl, rfl, id, rfl⟩, ⟨_, _, rfl, rfl, rfl, rfl, id, rfl⟩, ⟨_, _, rfl, rfl, rfl, rfl, id, rfl⟩, ⟨_, _, rfl, rfl, rfl, rfl, id, rfl⟩, ⟨_, _, rfl, rfl, rfl, rfl, id, rfl⟩, ⟨_, _, rfl, rfl, rfl, rfl, id, rfl⟩, ⟨_, _, rfl, rfl, rfl, rfl, id, rfl⟩, ⟨_, _, rfl, rfl, rfl, rfl, id, rfl⟩, ⟨_, _, rfl, rfl, rfl, rfl, id, rfl⟩, ⟨_, _, rfl, rfl, rfl, rfl, id, rfl⟩, ⟨_, _, rfl, rfl, rfl, rfl, id, rfl⟩, ⟨_, _, rfl, rfl, rfl, rfl, id, rfl⟩, ⟨_, _, rfl, rfl, rfl, rfl, id, rfl⟩, ⟨_, _, rfl, rfl, rfl, rfl, id, rfl⟩, ⟨_, _, rfl, rfl, rfl, rfl, id, rfl⟩, ⟨_, _, rfl, rfl, offC_ren _ o (rowsC_flat (fun _ => rfl) l), rfl, id, offC_nm _ o (rowsC_flat (fun _ => rfl) l)⟩, trivial⟩⟩
     ·skip
      refine .seq ?_
      refine .region ?_
      refine .q (op_cmpI rfl rfl rfl) trivial rfl ?_
      refine .q (op_assign rfl) trivial rfl ?_
      refine .nil ?_
      show Ev _ _ _ _ _
      refine .cond rfl (fun hc129 => ?_) (fun hc129 => ?_)
      ·skip
       refine .seq ?_
       refine .region ?_
       refine .q (op_move rfl) trivial rfl ?_
       refine .q (op_fieldAddr (m := 0) Tryd.underlying37 rfl (by kernel_rfl) rfl) trivial rfl ?_
       refine .as (.ptr 1016 3) rfl ?_
       refine .q (op_load Tryd.underlying3 rfl rfl rfl rfl (by show 3 < 5; decide)) trivial rfl ?_
       refine .a (op_call (U := [(1001, some ⟨mpV (dlN Ma (La.filter (fun x => x.o == (l.getD i default).o)) (La.filter (fun x => x.o == (l.getD i default).o)).length) ka, 0, true⟩)]) [(500, 1000), (501, 1001)] [] (drop_ev (min (max ca 0) 64) 4096 (min (max cc 1) 1073741824) ea ma (l.getD i default).o) Tryd.func23 (by kernel_rfl) rfl rfl rfl (⟨⟨_, rfl, rfl, rfl⟩, ⟨_, rfl, rfl, rfl⟩, trivial⟩) (⟨⟨_, _, rfl, rfl, rfl, rfl, (fun h => by cases h), rfl⟩, ⟨_, _, rfl, rfl, rfl, rfl, id, rfl⟩, trivial⟩) (⟨⟨501, _, rfl, rfl, rfl, rfl, .inr ⟨rfl, _, rfl, rfl⟩⟩, trivial⟩) (⟨(fun h => by cases h), (fun _ => ⟨1001, _, rfl, rfl⟩), trivial⟩) rfl) trivial rfl ?_
       refine .nil ?_
       show Ev _ _ _ _ _
       refine .region ?_
       refine .q (op_move rfl) trivial rfl ?_
       refine .q (op_fieldAddr (m := 0) Tryd.underlying37 rfl (by kernel_rfl) rfl) trivial rfl ?_
       refine .as (.ptr 1016 3) rfl ?_
       refine .q (op_load Tryd.underlying3 rfl rfl rfl rfl (by show 3 < 5; decide)) trivial rfl ?_
       refine .a (op_call (U := [(1009, some ⟨mpV (dlN Mb (Lb.filter (fun x => x.o == (l.getD i default).o)) (Lb.filter (fun x => x.o == (l.getD i default).o)).length) kb, 0, true⟩)]) [(500, 1008), (501, 1009)] [] (drop_ev (min (max ca 0) 64) 4096 (min (max cc 1) 1073741824) eb mb (l.getD i default).o) Tryd.func23 (by kernel_rfl) rfl rfl rfl (⟨⟨_, rfl, rfl, rfl⟩, ⟨_, rfl, rfl, rfl⟩, trivial⟩) (⟨⟨_, _, rfl, rfl, rfl, rfl, (fun h => by cases h), rfl⟩, ⟨_, _, rfl, rfl, rfl, rfl, id, rfl⟩, trivial⟩) (⟨⟨501, _, rfl, rfl, rfl, rfl, .inr ⟨rfl, _, rfl, rfl⟩⟩, trivial⟩) (⟨(fun h => by cases h), (fun _ => ⟨1009, _, rfl, rfl⟩), trivial⟩) rfl) trivial rfl ?_
       refine .nil ?_
       exact ⟨⟨_, ka, _, ea, _, kb, _, eb, ma.drops (fun x => x.o == (l.getD i default).o), mb.drops (fun x => x.o == (l.getD i default).o), ap.drop _, lb.filter _, Nat.le_trans (Nat.le_trans (List.length_filter_le _ _) hlen) (Nat.le_succ i), by omega, by omega⟩, StLe.mk [(1000, 1000), (1001, 1001), (1008, 1008), (1009, 1009)] rfl rfl ⟨⟨_, rfl, by first | rfl | (simp only [AV.ren]; congr 1; omega), rfl⟩, ⟨_, rfl, by first | rfl | (simp only [AV.ren]; congr 1; omega), rfl⟩, ⟨_, rfl, by first | rfl | (simp only [AV.ren]; congr 1; omega), rfl⟩, ⟨_, rfl, by first | rfl | (simp only [AV.ren]; congr 1; omega), rfl⟩, trivial⟩ ⟨⟨_, _, rfl, rfl, rfl, rfl, id, rfl⟩, ⟨_, _, rfl, rfl, rfl, rfl, id, rfl⟩, ⟨_, _, rfl, rfl, rfl, rfl, id, rfl⟩, ⟨_, _, rfl, rfl, rfl, rfl, id, rfl⟩, ⟨_, _, rfl, rfl, rfl, rfl, id, rfl⟩, ⟨_, _, rfl, rfl, rfl, rfl, id, rfl⟩, ⟨_, _, rfl, rfl, rfl, rfl, id, rfl⟩, ⟨_, _, rfl, rfl, rfl, rfl, id, rfl⟩, ⟨_, _, rfl, rfl, rfl, rfl, id, rfl⟩, ⟨_, _, rfl, rfl, rfl, rfl, id, rfl⟩, ⟨_, _, rfl, rfl, rfl, rfl, id, rfl⟩, ⟨_, _, rfl, rfl, rfl, rfl, id, rfl⟩, ⟨_, _, rfl, rfl, rfl, rfl, id, rfl⟩, ⟨_, _, rfl, rfl, rfl, rfl, id, rfl⟩, ⟨_, _, rfl, rfl, rfl, rfl, id, rfl⟩, ⟨_, _, rfl, rfl, rfl, rfl, id, rfl⟩, ⟨_, _, rfl, rfl, rfl, rfl, id, rfl⟩, ⟨_, _, rfl, rfl, rfl, rfl, id, rfl⟩, ⟨_, _, rfl, rfl, rfl, rfl, id, rfl⟩, ⟨_, _, rfl, rfl, rfl, rfl, id, rfl⟩, ⟨_, _, rfl, rfl, rfl, rfl, id, rfl⟩, ⟨_, _, rfl, rfl, rfl, rfl, id, rfl⟩, ⟨_, _, rfl, rfl, rfl, rfl, id, rfl⟩, ⟨_, _, rfl, rfl, rfl, rfl, id, rfl⟩, ⟨_, _, rfl, rfl, rfl, rfl, id, rfl⟩, ⟨_, _, rfl, rfl, rfl, rfl, id, rfl⟩, ⟨_, _, rfl, rfl, rfl, rfl, id, rfl⟩, ⟨_, _, rfl, rfl, rfl, rfl, id, rfl⟩, ⟨_, _, rfl, rfl, rfl, rfl, id, rfl⟩, ⟨_, _, rfl, rfl, rfl, rfl, id, rfl⟩, ⟨_, _, rfl, rfl, rfl, rfl, id, rfl⟩, ⟨_, _, rfl, rfl, rfl, rfl, id, rfl⟩, ⟨_, _, rfl, rfl, rfl, rfl, id, rfl⟩, ⟨_, _, rfl, rfl, rfl, rfl, id, rfl⟩, ⟨_, _, rfl, rfl, rfl, rfl, id, rfl⟩, ⟨_, _, rfl, rfl, rfl, rfl, id, rfl⟩, ⟨_, _, rfl, rfl, rfl, rfl, id, rfl⟩, ⟨_, _, rfl, rfl, rfl, rfl, id, rfl⟩, ⟨_, _, rfl, rfl, rfl, rfl, id, rfl⟩, ⟨_, _, rfl, rfl, rfl, rfl, id, rfl⟩, ⟨_, _, rfl, rfl, rfl, rfl, id, rfl⟩, ⟨_, _, rfl, rfl, rfl, rfl, id, rfl⟩, ⟨_, _, rfl, rfl, rfl, rfl, id, rfl⟩, ⟨_, _, rfl, rfl, rfl, rfl, id, rfl⟩, ⟨_, _, rfl, rfl, offC_ren _ o (rowsC_flat (fun _ => rfl) l), rfl, id, offC_nm _ o (rowsC_flat (fun _ => rfl) l)⟩, trivial⟩⟩
      ·skip
       refine .seq ?_
       refine .region ?_
       refine .q (op_cmpI rfl rfl rfl) trivial rfl ?_
       refine .q (op_assign rfl) trivial rfl ?_
       refine .nil ?_
       show Ev _ _ _ _ _
       refine .cond rfl (fun hc139 => ?_) (fun hc139 => ?_)
       ·skip
        refine .seq ?_
        refine .region ?_
        refine .q (op_move rfl) trivial rfl ?_
        refine .q (op_fieldAddr (m := 0) Tryd.underlying37 rfl (by kernel_rfl) rfl) trivial rfl ?_
        refine .as (.ptr 1016 4) rfl ?_
        refine .q (op_load Tryd.underlying3 rfl rfl rfl rfl (by show 4 < 5; decide)) trivial rfl ?_
        refine .a (op_call (U := [(1001, some ⟨mpV (dlN Ma (La.filter (fun x => decide ((min (max cc 1) 1073741824) ≤ tickV (l.getD i default).n - x.l))) (La.filter (fun x => decide ((min (max cc 1) 1073741824) ≤ tickV (l.getD i default).n - x.l))).length) ka, 0, true⟩)]) [(500, 1000), (501, 1001)] [] (expire_ev (min (max ca 0) 64) 4096 (min (max cc 1) 1073741824) ea ma (l.getD i default).n lb) Tryd.func24 (by kernel_rfl) rfl rfl rfl (⟨⟨_, rfl, rfl, rfl⟩, ⟨_, rfl, rfl, rfl⟩, trivial⟩) (⟨⟨_, _, rfl, rfl, rfl, rfl, (fun h => by cases h), rfl⟩, ⟨_, _, rfl, rfl, rfl, rfl, id, rfl⟩, trivial⟩) (⟨⟨501, _, rfl, rfl, rfl, rfl, .inr ⟨rfl, _, rfl, rfl⟩⟩, trivial⟩) (⟨(fun h => by cases h), (fun _ => ⟨1001, _, rfl, rfl⟩), trivial⟩) rfl) trivial rfl ?_
        refine .nil ?_
        show Ev _ _ _ _ _
        refine .region ?_
        refine .q (op_move rfl) trivial rfl ?_
        refine .q (op_fieldAddr (m := 0) Tryd.underlying37 rfl (by kernel_rfl) rfl) trivial rfl ?_
        refine .as (.ptr 1016 4) rfl ?_
        refine .q (op_load Tryd.underlying3 rfl rfl rfl rfl (by show 4 < 5; decide)) trivial rfl ?_
        refine .a (op_call (U := [(1009, some ⟨mpV (dlN Mb (Lb.filter (fun x => decide ((min (max cc 1) 1073741824) ≤ tickV (l.getD i default).n - x.l))) (Lb.filter (fun x => decide ((min (max cc 1) 1073741824) ≤ tickV (l.getD i default).n - x.l))).length) kb, 0, true⟩)]) [(500, 1008), (501, 1009)] [] (expire_ev (min (max ca 0) 64) 4096 (min (max cc 1) 1073741824) eb mb (l.getD i default).n (ap.lb lb)) Tryd.func24 (by kernel_rfl) rfl rfl rfl (⟨⟨_, rfl, rfl, rfl⟩, ⟨_, rfl, rfl, rfl⟩, trivial⟩) (⟨⟨_, _, rfl, rfl, rfl, rfl, (fun h => by cases h), rfl⟩, ⟨_, _, rfl, rfl, rfl, rfl, id, rfl⟩, trivial⟩) (⟨⟨501, _, rfl, rfl, rfl, rfl, .inr ⟨rfl, _, rfl, rfl⟩⟩, trivial⟩) (⟨(fun h => by cases h), (fun _ => ⟨1009, _, rfl, rfl⟩), trivial⟩) rfl) trivial rfl ?_
        refine .nil ?_
        exact ⟨⟨_, ka, _, ea, _, kb, _, eb, ma.drops (fun x => decide ((min (max cc 1) 1073741824) ≤ tickV (l.getD i default).n - x.l)), mb.drops (fun x => decide ((min (max cc 1) 1073741824) ≤ tickV (l.getD i default).n - x.l)), ap.expire _ _, lb.filter _, Nat.le_trans (Nat.le_trans (List.length_filter_le _ _) hlen) (Nat.le_succ i), by omega, by omega⟩, StLe.mk [(1000, 1000), (1001, 1001), (1008, 1008), (1009, 1009)] rfl rfl ⟨⟨_, rfl, by first | rfl | (simp only [AV.ren]; congr 1; omega), rfl⟩, ⟨_, rfl, by first | rfl | (simp only [AV.ren]; congr 1; omega), rfl⟩, ⟨_, rfl, by first | rfl | (simp only [AV.ren]; congr 1; omega), rfl⟩, ⟨_, rfl, by first | rfl | (simp only [AV.ren]; congr 1; omega), rfl⟩, trivial⟩ ⟨⟨_, _, rfl, rfl, rfl, rfl, id, rfl⟩, ⟨_, _, rfl, rfl, rfl, rfl, id, rfl⟩, ⟨_, _, rfl, rfl, rfl, rfl, id, rfl⟩, ⟨_, _, rfl, rfl, rfl, rfl, id, rfl⟩, ⟨_, _, rfl, rfl, rfl, rfl, id, rfl⟩, ⟨_, _, rfl, rfl, rfl, rfl, id, rfl⟩, ⟨_, _, rfl, rfl, rfl, rfl, id, rfl⟩, ⟨_, _, rfl, rfl, rfl, rfl, id, rfl⟩, ⟨_, _, rfl, rfl, rfl, rfl, id, rfl⟩, ⟨_, _, rfl, rfl, rfl, rfl, id, rfl⟩, ⟨_, _, rfl, rfl, rfl, rfl, id, rfl⟩, ⟨_, _, rfl, rfl, rfl, rfl, id, rfl⟩, ⟨_, _, rfl, rfl, rfl, rfl, id, rfl⟩, ⟨_, _, rfl, rfl, rfl, rfl, id, rfl⟩, ⟨_, _, rfl, rfl, rfl, rfl, id, rfl⟩, ⟨_, _, rfl, rfl, rfl, rfl, id, rfl⟩, ⟨_, _, rfl, rfl, rfl, rfl, id, rfl⟩, ⟨_, _, rfl, rfl, rfl, rfl, id, rfl⟩, ⟨_, _, rfl, rfl, rfl, rfl, id, rfl⟩, ⟨_, _, rfl, rfl, rfl, rfl, id, rfl⟩, ⟨_, _, rfl, rfl, rfl, rfl, id, rfl⟩, ⟨_, _, rfl, rfl, rfl, rfl, id, rfl⟩, ⟨_, _, rfl, rfl, rfl, rfl, id, rfl⟩, ⟨_, _, rfl, rfl, rfl, rfl, id, rfl⟩, ⟨_, _, rfl, rfl, rfl, rfl, id, rfl⟩, ⟨_, _, rfl, rfl, rfl, rfl, id, rfl⟩, ⟨_, _, rfl, rfl, rfl, rfl, id, rfl⟩, ⟨_, _, rfl, rfl, rfl, rfl, id, rfl⟩, ⟨_, _, rfl, rfl, rfl, rfl, id, rfl⟩, ⟨_, _, rfl, rfl, rfl, rfl, id, rfl⟩, ⟨_, _, rfl, rfl, rfl, rfl, id, rfl⟩, ⟨_, _, rfl, rfl, rfl, rfl, id, rfl⟩, ⟨_, _, rfl, rfl, rfl, rfl, id, rfl⟩, ⟨_, _, rfl, rfl, rfl, rfl, id, rfl⟩, ⟨_, _, rfl, rfl, rfl, rfl, id, rfl⟩, ⟨_, _, rfl, rfl, rfl, rfl, id, rfl⟩, ⟨_, _, rfl, rfl, rfl, rfl, id, rfl⟩, ⟨_, _, rfl, rfl, rfl, rfl, id, rfl⟩, ⟨_, _, rfl, rfl, rfl, rfl, id, rfl⟩, ⟨_, _, rfl, rfl, rfl, rfl, id, rfl⟩, ⟨_, _, rfl, rfl, rfl, rfl, id, rfl⟩, ⟨_, _, rfl, rfl, rfl, rfl, id, rfl⟩, ⟨_, _, rfl, rfl, rfl, rfl, id, rfl⟩, ⟨_, _, rfl, rfl, rfl, rfl, id, rfl⟩, ⟨_, _, rfl, rfl, offC_ren _ o (rowsC_flat (fun _ => rfl) l), rfl, id, offC_nm _ o (rowsC_flat (fun _ => rfl) l)⟩, trivial⟩⟩
       ·skip
        refine .seq ?_
        have h9 := take_all (min (max ca 0) 64) 4096 (min (max cc 1) 1073741824) ea ma (by decide) (by omega) eo (T := ((l.getD i default).T.take 70)) (A := ((l.getD i default).A.take 70)) (by rw [List.length_take]; have := (l.getD i default).hT; unfold maxLen at this; omega) (by rw [List.length_take]; have := (l.getD i default).hA; unfold maxLen at this; omega) (l.getD i default).o (l.getD i default).n
        obtain ⟨Ma2, ka2, hma2, hta⟩ := h9
        refine .region ?_
        refine .q (op_move rfl) trivial rfl ?_
        refine .q (op_move rfl) trivial rfl ?_
        refine .q (op_move rfl) trivial rfl ?_
        refine .q (op_fieldAddr (m := 0) Tryd.underlying37 rfl (by kernel_rfl) rfl) trivial rfl ?_
        refine .as (.ptr 1016 3) rfl ?_
        refine .q (op_load Tryd.underlying3 rfl rfl rfl rfl (by show 3 < 5; decide)) trivial rfl ?_
        refine .q (op_fieldAddr (m := 0) Tryd.underlying37 rfl (by kernel_rfl) rfl) trivial rfl ?_
        refine .as (.ptr 1016 4) rfl ?_
        refine .q (op_load Tryd.underlying3 rfl rfl rfl rfl (by show 4 < 5; decide)) trivial rfl ?_
        refine .a (op_call (U := [(1000, some ⟨.agg [.i64 (min (max ca 0) 64), .i64 4096, .i64 (min (max cc 1) 1073741824), .mp 1001, .i64 (tkE (min (max ca 0) 64) 4096 ea La ((l.getD i default).T.take 70) ((l.getD i default).A.take 70) (l.getD i default).o)], 68, true⟩), (1001, some ⟨mpV Ma2 ka2, 0, true⟩)]) [(500, 1000), (501, 1001)] [] (hta) Tryd.func19 (by kernel_rfl) rfl rfl rfl (⟨⟨_, rfl, rfl, rfl⟩, ⟨_, rfl, rfl, rfl⟩, ⟨_, rfl, rfl, rfl⟩, ⟨_, rfl, rfl, rfl⟩, ⟨_, rfl, rfl, rfl⟩, trivial⟩) (⟨⟨_, _, rfl, rfl, rfl, rfl, id, rfl⟩, ⟨_, _, rfl, rfl, rfl, rfl, id, rfl⟩, ⟨_, _, rfl, rfl, rfl, rfl, (fun h => by cases h), rfl⟩, ⟨_, _, rfl, rfl, rfl, rfl, (fun h => by cases h), rfl⟩, ⟨_, _, rfl, rfl, rfl, rfl, (fun h => by cases h), rfl⟩, ⟨_, _, rfl, rfl, rfl, rfl, (fun h => by cases h), rfl⟩, ⟨_, _, rfl, rfl, rfl, rfl, (fun h => by cases h), rfl⟩, ⟨_, _, rfl, rfl, rfl, rfl, (fun h => by cases h), rfl⟩, ⟨_, _, rfl, rfl, rfl, rfl, (fun h => by cases h), rfl⟩, ⟨_, _, rfl, rfl, rfl, rfl, (fun h => by cases h), rfl⟩, ⟨_, _, rfl, rfl, rfl, rfl, (fun h => by cases h), rfl⟩, ⟨_, _, rfl, rfl, rfl, rfl, (fun h => by cases h), rfl⟩, ⟨_, _, rfl, rfl, rfl, rfl, (fun h => by cases h), rfl⟩, ⟨_, _, rfl, rfl, rfl, rfl, (fun h => by cases h), rfl⟩, ⟨_, _, rfl, rfl, rfl, rfl, (fun h => by cases h), rfl⟩, ⟨_, _, rfl, rfl, rfl, rfl, (fun h => by cases h), rfl⟩, ⟨_, _, rfl, rfl, rfl, rfl, (fun h => by cases h), rfl⟩, ⟨_, _, rfl, rfl, rfl, rfl, (fun h => by cases h), rfl⟩, ⟨_, _, rfl, rfl, rfl, rfl, (fun h => by cases h), rfl⟩, ⟨_, _, rfl, rfl, rfl, rfl, (fun h => by cases h), rfl⟩, ⟨_, _, rfl, rfl, rfl, rfl, (fun h => by cases h), rfl⟩, ⟨_, _, rfl, rfl, rfl, rfl, (fun h => by cases h), rfl⟩, ⟨_, _, rfl, rfl, rfl, rfl, (fun h => by cases h), rfl⟩, ⟨_, _, rfl, rfl, rfl, rfl, (fun h => by cases h), rfl⟩, ⟨_, _, rfl, rfl, rfl, rfl, (fun h => by cases h), rfl⟩, ⟨_, _, rfl, rfl, rfl, rfl, (fun h => by cases h), rfl⟩, ⟨_, _, rfl, rfl, rfl, rfl, (fun h => by cases h), rfl⟩, ⟨_, _, rfl, rfl, rfl, rfl, (fun h => by cases h), rfl⟩, ⟨_, _, rfl, rfl, rfl, rfl, (fun h => by cases h), rfl⟩, ⟨_, _, rfl, rfl, rfl, rfl, (fun h => by cases h), rfl⟩, ⟨_, _, rfl, rfl, rfl, rfl, (fun h => by cases h), rfl⟩, ⟨_, _, rfl, rfl, rfl, rfl, (fun h => by cases h), rfl⟩, ⟨_, _, rfl, rfl, rfl, rfl, (fun h => by cases h), rfl⟩, ⟨_, _, rfl, rfl, rfl, rfl, (fun h => by cases h), rfl⟩, ⟨_, _, rfl, rfl, rfl, rfl, (fun h => by cases h), rfl⟩, ⟨_, _, rfl, rfl, rfl, rfl, (fun h => by cases h), rfl⟩, ⟨_, _, rfl, rfl, rfl, rfl, (fun h => by cases h), rfl⟩, ⟨_, _, rfl, rfl, rfl, rfl, (fun h => by cases h), rfl⟩, ⟨_, _, rfl, rfl, rfl, rfl, (fun h => by cases h), rfl⟩, ⟨_, _, rfl, rfl, rfl, rfl, (fun h => by cases h), rfl⟩, ⟨_, _, rfl, rfl, rfl, rfl, (fun h => by cases h), rfl⟩, ⟨_, _, rfl, rfl, rfl, rfl, (fun h => by cases h), rfl⟩, trivial⟩) (⟨⟨500, _, rfl, rfl, rfl, rfl, .inr ⟨rfl, _, rfl, rfl⟩⟩, ⟨501, _, rfl, rfl, rfl, rfl, .inr ⟨rfl, _, rfl, rfl⟩⟩, trivial⟩) (⟨(fun _ => ⟨1000, _, rfl, rfl⟩), (fun _ => ⟨1001, _, rfl, rfl⟩), (fun h => by cases h), (fun h => by cases h), (fun h => by cases h), (fun h => by cases h), (fun h => by cases h), (fun h => by cases h), (fun h => by cases h), (fun h => by cases h), (fun h => by cases h), (fun h => by cases h), (fun h => by cases h), (fun h => by cases h), (fun h => by cases h), (fun h => by cases h), (fun h => by cases h), (fun h => by cases h), (fun h => by cases h), (fun h => by cases h), (fun h => by cases h), (fun h => by cases h), (fun h => by cases h), (fun h => by cases h), (fun h => by cases h), (fun h => by cases h), (fun h => by cases h), (fun h => by cases h), (fun h => by cases h), (fun h => by cases h), (fun h => by cases h), (fun h => by cases h), (fun h => by cases h), (fun h => by cases h), (fun h => by cases h), (fun h => by cases h), (fun h => by cases h), (fun h => by cases h), (fun h => by cases h), (fun h => by cases h), (fun h => by cases h), (fun h => by cases h), trivial⟩) rfl) trivial rfl ?_
        refine .q (op_move rfl) trivial rfl ?_
        refine .q (op_extract rfl rfl) trivial rfl ?_
        refine .q (op_extract rfl rfl) trivial rfl ?_
        refine .q (op_extract rfl rfl) trivial rfl ?_
        refine .a (op_allocRow zero45 rel_zero45 rfl) trivial rfl ?_
        refine .w (op_storeRow (by kernel_rfl) rfl rfl rfl rfl rfl (rfl) (rfl)) trivial rfl ?_
        refine .q (op_assign rfl) trivial rfl ?_
        refine .q (op_assign rfl) trivial rfl ?_
        refine .nil ?_
        show Ev _ _ _ _ _
        refine .seq ?_
        refine .region ?_
        refine .q (op_move rfl) trivial rfl ?_
        refine .nil ?_
        show Ev _ _ _ _ _
        refine .cond rfl (fun hc77 => ?_) (fun hc77 => ?_)
        ·skip
         refine .seq ?_
         have hT1 : ((l.getD i default).T.take 70) = [116] := eq_of_beq hc77
         have h9 := take_all (min (max ca 0) 64) 4096 (min (max cc 1) 1073741824) eb mb (by decide) (by omega) eo (T := ((l.getD i default).T.take 70)) (A := ((l.getD i default).A.take 70)) (by rw [List.length_take]; have := (l.getD i default).hT; unfold maxLen at this; omega) (by rw [List.length_take]; have := (l.getD i default).hA; unfold maxLen at this; omega) (l.getD i default).o (l.getD i default).n
         obtain ⟨Mb2, kb2, hmb2, htb⟩ := h9
         have hte := ap.tkO (a := (min (max ca 0) 64)) (b := 4096) hT1 ((l.getD i default).A.take 70) (l.getD i default).o (by omega)
         refine .region ?_
         refine .q (op_move rfl) trivial rfl ?_
         refine .q (op_move rfl) trivial rfl ?_
         refine .q (op_move rfl) trivial rfl ?_
         refine .q (op_fieldAddr (m := 0) Tryd.underlying37 rfl (by kernel_rfl) rfl) trivial rfl ?_
         refine .as (.ptr 1016 3) rfl ?_
         refine .q (op_load Tryd.underlying3 rfl rfl rfl rfl (by show 3 < 5; decide)) trivial rfl ?_
         refine .q (op_fieldAddr (m := 0) Tryd.underlying37 rfl (by kernel_rfl) rfl) trivial rfl ?_
         refine .as (.ptr 1016 4) rfl ?_
         refine .q (op_load Tryd.underlying3 rfl rfl rfl rfl (by show 4 < 5; decide)) trivial rfl ?_
         refine .a (op_call (U := [(1008, some ⟨.agg [.i64 (min (max ca 0) 64), .i64 4096, .i64 (min (max cc 1) 1073741824), .mp 1009, .i64 (tkE (min (max ca 0) 64) 4096 eb Lb ((l.getD i default).T.take 70) ((l.getD i default).A.take 70) (l.getD i default).o)], 68, true⟩), (1009, some ⟨mpV Mb2 kb2, 0, true⟩)]) [(500, 1008), (501, 1009)] [] (htb) Tryd.func19 (by kernel_rfl) rfl rfl rfl (⟨⟨_, rfl, rfl, rfl⟩, ⟨_, rfl, rfl, rfl⟩, ⟨_, rfl, rfl, rfl⟩, ⟨_, rfl, rfl, rfl⟩, ⟨_, rfl, rfl, rfl⟩, trivial⟩) (⟨⟨_, _, rfl, rfl, rfl, rfl, id, rfl⟩, ⟨_, _, rfl, rfl, rfl, rfl, id, rfl⟩, ⟨_, _, rfl, rfl, rfl, rfl, (fun h => by cases h), rfl⟩, ⟨_, _, rfl, rfl, rfl, rfl, (fun h => by cases h), rfl⟩, ⟨_, _, rfl, rfl, rfl, rfl, (fun h => by cases h), rfl⟩, ⟨_, _, rfl, rfl, rfl, rfl, (fun h => by cases h), rfl⟩, ⟨_, _, rfl, rfl, rfl, rfl, (fun h => by cases h), rfl⟩, ⟨_, _, rfl, rfl, rfl, rfl, (fun h => by cases h), rfl⟩, ⟨_, _, rfl, rfl, rfl, rfl, (fun h => by cases h), rfl⟩, ⟨_, _, rfl, rfl, rfl, rfl, (fun h => by cases h), rfl⟩, ⟨_, _, rfl, rfl, rfl, rfl, (fun h => by cases h), rfl⟩, ⟨_, _, rfl, rfl, rfl, rfl, (fun h => by cases h), rfl⟩, ⟨_, _, rfl, rfl, rfl, rfl, (fun h => by cases h), rfl⟩, ⟨_, _, rfl, rfl, rfl, rfl, (fun h => by cases h), rfl⟩, ⟨_, _, rfl, rfl, rfl, rfl, (fun h => by cases h), rfl⟩, ⟨_, _, rfl, rfl, rfl, rfl, (fun h => by cases h), rfl⟩, ⟨_, _, rfl, rfl, rfl, rfl, (fun h => by cases h), rfl⟩, ⟨_, _, rfl, rfl, rfl, rfl, (fun h => by cases h), rfl⟩, ⟨_, _, rfl, rfl, rfl, rfl, (fun h => by cases h), rfl⟩, ⟨_, _, rfl, rfl, rfl, rfl, (fun h => by cases h), rfl⟩, ⟨_, _, rfl, rfl, rfl, rfl, (fun h => by cases h), rfl⟩, ⟨_, _, rfl, rfl, rfl, rfl, (fun h => by cases h), rfl⟩, ⟨_, _, rfl, rfl, rfl, rfl, (fun h => by cases h), rfl⟩, ⟨_, _, rfl, rfl, rfl, rfl, (fun h => by cases h), rfl⟩, ⟨_, _, rfl, rfl, rfl, rfl, (fun h => by cases h), rfl⟩, ⟨_, _, rfl, rfl, rfl, rfl, (fun h => by cases h), rfl⟩, ⟨_, _, rfl, rfl, rfl, rfl, (fun h => by cases h), rfl⟩, ⟨_, _, rfl, rfl, rfl, rfl, (fun h => by cases h), rfl⟩, ⟨_, _, rfl, rfl, rfl, rfl, (fun h => by cases h), rfl⟩, ⟨_, _, rfl, rfl, rfl, rfl, (fun h => by cases h), rfl⟩, ⟨_, _, rfl, rfl, rfl, rfl, (fun h => by cases h), rfl⟩, ⟨_, _, rfl, rfl, rfl, rfl, (fun h => by cases h), rfl⟩, ⟨_, _, rfl, rfl, rfl, rfl, (fun h => by cases h), rfl⟩, ⟨_, _, rfl, rfl, rfl, rfl, (fun h => by cases h), rfl⟩, ⟨_, _, rfl, rfl, rfl, rfl, (fun h => by cases h), rfl⟩, ⟨_, _, rfl, rfl, rfl, rfl, (fun h => by cases h), rfl⟩, ⟨_, _, rfl, rfl, rfl, rfl, (fun h => by cases h), rfl⟩, ⟨_, _, rfl, rfl, rfl, rfl, (fun h => by cases h), rfl⟩, ⟨_, _, rfl, rfl, rfl, rfl, (fun h => by cases h), rfl⟩, ⟨_, _, rfl, rfl, rfl, rfl, (fun h => by cases h), rfl⟩, ⟨_, _, rfl, rfl, rfl, rfl, (fun h => by cases h), rfl⟩, ⟨_, _, rfl, rfl, rfl, rfl, (fun h => by cases h), rfl⟩, trivial⟩) (⟨⟨500, _, rfl, rfl, rfl, rfl, .inr ⟨rfl, _, rfl, rfl⟩⟩, ⟨501, _, rfl, rfl, rfl, rfl, .inr ⟨rfl, _, rfl, rfl⟩⟩, trivial⟩) (⟨(fun _ => ⟨1008, _, rfl, rfl⟩), (fun _ => ⟨1009, _, rfl, rfl⟩), (fun h => by cases h), (fun h => by cases h), (fun h => by cases h), (fun h => by cases h), (fun h => by cases h), (fun h => by cases h), (fun h => by cases h), (fun h => by cases h), (fun h => by cases h), (fun h => by cases h), (fun h => by cases h), (fun h => by cases h), (fun h => by cases h), (fun h => by cases h), (fun h => by cases h), (fun h => by cases h), (fun h => by cases h), (fun h => by cases h), (fun h => by cases h), (fun h => by cases h), (fun h => by cases h), (fun h => by cases h), (fun h => by cases h), (fun h => by cases h), (fun h => by cases h), (fun h => by cases h), (fun h => by cases h), (fun h => by cases h), (fun h => by cases h), (fun h => by cases h), (fun h => by cases h), (fun h => by cases h), (fun h => by cases h), (fun h => by cases h), (fun h => by cases h), (fun h => by cases h), (fun h => by cases h), (fun h => by cases h), (fun h => by cases h), (fun h => by cases h), trivial⟩) rfl) trivial rfl ?_
         refine .q (op_move rfl) trivial rfl ?_
         refine .q (op_extract rfl rfl) trivial rfl ?_
         refine .q (op_extract rfl rfl) trivial rfl ?_
         refine .q (op_extract rfl rfl) trivial rfl ?_
         refine .a (op_allocRow zero45 rel_zero45 rfl) trivial rfl ?_
         refine .w (op_storeRow (by kernel_rfl) rfl rfl rfl rfl rfl (rfl) (rfl)) trivial rfl ?_
         refine .q (op_assign rfl) trivial rfl ?_
         refine .q (op_assign rfl) trivial rfl ?_
         refine .nil ?_
         show Ev _ _ _ _ _
         refine .seq ?_
         refine .region ?_
         refine .q (op_move rfl) trivial rfl ?_
         refine .q (op_move rfl) trivial rfl ?_
         refine .q (op_cmpI rfl rfl rfl) trivial rfl ?_
         refine .as (.bool false) (congrArg AV.bool (by rw [hte]; simp)) ?_
         refine .q (op_move rfl) trivial rfl ?_
         refine .know (b' := false) (rfl) ?_
         refine .q (op_move rfl) ⟨_, rfl, rfl⟩ rfl ?_
         refine .q (op_call (U := []) [] [] (codeT_ev eo hd (tkO_in (min (max ca 0) 64) 4096 La ((l.getD i default).T.take 70) ((l.getD i default).A.take 70) (l.getD i default).o)) Tryd.func25 (by kernel_rfl) rfl rfl rfl (⟨⟨_, rfl, rfl, rfl⟩, trivial⟩) (⟨⟨_, _, rfl, rfl, rfl, rfl, (fun h => by cases h), rfl⟩, ⟨_, _, rfl, rfl, rfl, rfl, (fun h => by cases h), rfl⟩, ⟨_, _, rfl, rfl, rfl, rfl, (fun h => by cases h), rfl⟩, ⟨_, _, rfl, rfl, rfl, rfl, (fun h => by cases h), rfl⟩, ⟨_, _, rfl, rfl, rfl, rfl, (fun h => by cases h), rfl⟩, ⟨_, _, rfl, rfl, rfl, rfl, (fun h => by cases h), rfl⟩, ⟨_, _, rfl, rfl, rfl, rfl, (fun h => by cases h), rfl⟩, ⟨_, _, rfl, rfl, rfl, rfl, (fun h => by cases h), rfl⟩, ⟨_, _, rfl, rfl, rfl, rfl, (fun h => by cases h), rfl⟩, ⟨_, _, rfl, rfl, rfl, rfl, (fun h => by cases h), rfl⟩, ⟨_, _, rfl, rfl, rfl, rfl, (fun h => by cases h), rfl⟩, ⟨_, _, rfl, rfl, rfl, rfl, (fun h => by cases h), rfl⟩, ⟨_, _, rfl, rfl, rfl, rfl, (fun h => by cases h), rfl⟩, ⟨_, _, rfl, rfl, rfl, rfl, (fun h => by cases h), rfl⟩, ⟨_, _, rfl, rfl, rfl, rfl, (fun h => by cases h), rfl⟩, ⟨_, _, rfl, rfl, rfl, rfl, (fun h => by cases h), rfl⟩, ⟨_, _, rfl, rfl, rfl, rfl, (fun h => by cases h), rfl⟩, ⟨_, _, rfl, rfl, rfl, rfl, (fun h => by cases h), rfl⟩, ⟨_, _, rfl, rfl, rfl, rfl, (fun h => by cases h), rfl⟩, ⟨_, _, rfl, rfl, rfl, rfl, (fun h => by cases h), rfl⟩, ⟨_, _, rfl, rfl, rfl, rfl, (fun h => by cases h), rfl⟩, ⟨_, _, rfl, rfl, rfl, rfl, (fun h => by cases h), rfl⟩, ⟨_, _, rfl, rfl, rfl, rfl, (fun h => by cases h), rfl⟩, ⟨_, _, rfl, rfl, rfl, rfl, (fun h => by cases h), rfl⟩, ⟨_, _, rfl, rfl, rfl, rfl, (fun h => by cases h), rfl⟩, ⟨_, _, rfl, rfl, rfl, rfl, (fun h => by cases h), rfl⟩, ⟨_, _, rfl, rfl, rfl, rfl, (fun h => by cases h), rfl⟩, ⟨_, _, rfl, rfl, rfl, rfl, (fun h => by cases h), rfl⟩, ⟨_, _, rfl, rfl, rfl, rfl, (fun h => by cases h), rfl⟩, ⟨_, _, rfl, rfl, rfl, rfl, (fun h => by cases h), rfl⟩, ⟨_, _, rfl, rfl, rfl, rfl, (fun h => by cases h), rfl⟩, ⟨_, _, rfl, rfl, rfl, rfl, (fun h => by cases h), rfl⟩, ⟨_, _, rfl, rfl, rfl, rfl, (fun h => by cases h), rfl⟩, ⟨_, _, rfl, rfl, rfl, rfl, (fun h => by cases h), rfl⟩, ⟨_, _, rfl, rfl, rfl, rfl, (fun h => by cases h), rfl⟩, ⟨_, _, rfl, rfl, rfl, rfl, (fun h => by cases h), rfl⟩, ⟨_, _, rfl, rfl, rfl, rfl, (fun h => by cases h), rfl⟩, ⟨_, _, rfl, rfl, rfl, rfl, (fun h => by cases h), rfl⟩, ⟨_, _, rfl, rfl, rfl, rfl, (fun h => by cases h), rfl⟩, ⟨_, _, rfl, rfl, rfl, rfl, (fun h => by cases h), rfl⟩, trivial⟩) (trivial) (⟨(fun h => by cases h), (fun h => by cases h), (fun h => by cases h), (fun h => by cases h), (fun h => by cases h), (fun h => by cases h), (fun h => by cases h), (fun h => by cases h), (fun h => by cases h), (fun h => by cases h), (fun h => by cases h), (fun h => by cases h), (fun h => by cases h), (fun h => by cases h), (fun h => by cases h), (fun h => by cases h), (fun h => by cases h), (fun h => by cases h), (fun h => by cases h), (fun h => by cases h), (fun h => by cases h), (fun h => by cases h), (fun h => by cases h), (fun h => by cases h), (fun h => by cases h), (fun h => by cases h), (fun h => by cases h), (fun h => by cases h), (fun h => by cases h), (fun h => by cases h), (fun h => by cases h), (fun h => by cases h), (fun h => by cases h), (fun h => by cases h), (fun h => by cases h), (fun h => by cases h), (fun h => by cases h), (fun h => by cases h), (fun h => by cases h), (fun h => by cases h), trivial⟩) rfl) ⟨_, rfl, rfl⟩ rfl ?_
         refine .q (op_move rfl) ⟨_, rfl, rfl⟩ rfl ?_
         refine .q (op_call (U := []) [] [] (codeT_ev eo hd (tkO_in (min (max ca 0) 64) 4096 Lb ((l.getD i default).T.take 70) ((l.getD i default).A.take 70) (l.getD i default).o)) Tryd.func25 (by kernel_rfl) rfl rfl rfl (⟨⟨_, rfl, rfl, rfl⟩, trivial⟩) (⟨⟨_, _, rfl, rfl, rfl, rfl, (fun h => by cases h), rfl⟩, ⟨_, _, rfl, rfl, rfl, rfl, (fun h => by cases h), rfl⟩, ⟨_, _, rfl, rfl, rfl, rfl, (fun h => by cases h), rfl⟩, ⟨_, _, rfl, rfl, rfl, rfl, (fun h => by cases h), rfl⟩, ⟨_, _, rfl, rfl, rfl, rfl, (fun h => by cases h), rfl⟩, ⟨_, _, rfl, rfl, rfl, rfl, (fun h => by cases h), rfl⟩, ⟨_, _, rfl, rfl, rfl, rfl, (fun h => by cases h), rfl⟩, ⟨_, _, rfl, rfl, rfl, rfl, (fun h => by cases h), rfl⟩, ⟨_, _, rfl, rfl, rfl, rfl, (fun h => by cases h), rfl⟩, ⟨_, _, rfl, rfl, rfl, rfl, (fun h => by cases h), rfl⟩, ⟨_, _, rfl, rfl, rfl, rfl, (fun h => by cases h), rfl⟩, ⟨_, _, rfl, rfl, rfl, rfl, (fun h => by cases h), rfl⟩, ⟨_, _, rfl, rfl, rfl, rfl, (fun h => by cases h), rfl⟩, ⟨_, _, rfl, rfl, rfl, rfl, (fun h => by cases h), rfl⟩, ⟨_, _, rfl, rfl, rfl, rfl, (fun h => by cases h), rfl⟩, ⟨_, _, rfl, rfl, rfl, rfl, (fun h => by cases h), rfl⟩, ⟨_, _, rfl, rfl, rfl, rfl, (fun h => by cases h), rfl⟩, ⟨_, _, rfl, rfl, rfl, rfl, (fun h => by cases h), rfl⟩, ⟨_, _, rfl, rfl, rfl, rfl, (fun h => by cases h), rfl⟩, ⟨_, _, rfl, rfl, rfl, rfl, (fun h => by cases h), rfl⟩, ⟨_, _, rfl, rfl, rfl, rfl, (fun h => by cases h), rfl⟩, ⟨_, _, rfl, rfl, rfl, rfl, (fun h => by cases h), rfl⟩, ⟨_, _, rfl, rfl, rfl, rfl, (fun h => by cases h), rfl⟩, ⟨_, _, rfl, rfl, rfl, rfl, (fun h => by cases h), rfl⟩, ⟨_, _, rfl, rfl, rfl, rfl, (fun h => by cases h), rfl⟩, ⟨_, _, rfl, rfl, rfl, rfl, (fun h => by cases h), rfl⟩, ⟨_, _, rfl, rfl, rfl, rfl, (fun h => by cases h), rfl⟩, ⟨_, _, rfl, rfl, rfl, rfl, (fun h => by cases h), rfl⟩, ⟨_, _, rfl, rfl, rfl, rfl, (fun h => by cases h), rfl⟩, ⟨_, _, rfl, rfl, rfl, rfl, (fun h => by cases h), rfl⟩, ⟨_, _, rfl, rfl, rfl, rfl, (fun h => by cases h), rfl⟩, ⟨_, _, rfl, rfl, rfl, rfl, (fun h => by cases h), rfl⟩, ⟨_, _, rfl, rfl, rfl, rfl, (fun h => by cases h), rfl⟩, ⟨_, _, rfl, rfl, rfl, rfl, (fun h => by cases h), rfl⟩, ⟨_, _, rfl, rfl, rfl, rfl, (fun h => by cases h), rfl⟩, ⟨_, _, rfl, rfl, rfl, rfl, (fun h => by cases h), rfl⟩, ⟨_, _, rfl, rfl, rfl, rfl, (fun h => by cases h), rfl⟩, ⟨_, _, rfl, rfl, rfl, rfl, (fun h => by cases h), rfl⟩, ⟨_, _, rfl, rfl, rfl, rfl, (fun h => by cases h), rfl⟩, ⟨_, _, rfl, rfl, rfl, rfl, (fun h => by cases h), rfl⟩, trivial⟩) (trivial) (⟨(fun h => by cases h), (fun h => by cases h), (fun h => by cases h), (fun h => by cases h), (fun h => by cases h), (fun h => by cases h), (fun h => by cases h), (fun h => by cases h), (fun h => by cases h), (fun h => by cases h), (fun h => by cases h), (fun h => by cases h), (fun h => by cases h), (fun h => by cases h), (fun h => by cases h), (fun h => by cases h), (fun h => by cases h), (fun h => by cases h), (fun h => by cases h), (fun h => by cases h), (fun h => by cases h), (fun h => by cases h), (fun h => by cases h), (fun h => by cases h), (fun h => by cases h), (fun h => by cases h), (fun h => by cases h), (fun h => by cases h), (fun h => by cases h), (fun h => by cases h), (fun h => by cases h), (fun h => by cases h), (fun h => by cases h), (fun h => by cases h), (fun h => by cases h), (fun h => by cases h), (fun h => by cases h), (fun h => by cases h), (fun h => by cases h), (fun h => by cases h), trivial⟩) rfl) ⟨_, rfl, rfl⟩ rfl ?_
         refine .q (op_cmpI rfl rfl rfl) ⟨_, rfl, rfl⟩ rfl ?_
         refine .as (.bool false) (congrArg AV.bool (by rw [hte]; simp)) ?_
         refine .q (op_pick_false rfl rfl rfl) trivial rfl ?_
         refine .nil ?_
         show Ev _ _ _ _ _
         refine .cond_false rfl (rfl) ?_
         refine .skip ?_
         exact ⟨⟨Ma2, ka2, _, (tkE (min (max ca 0) 64) 4096 ea La ((l.getD i default).T.take 70) ((l.getD i default).A.take 70) (l.getD i default).o), Mb2, kb2, _, (tkE (min (max ca 0) 64) 4096 eb Lb ((l.getD i default).T.take 70) ((l.getD i default).A.take 70) (l.getD i default).o), hma2, hmb2, ap.take hT1 _ _ _ (by omega), lb.take _ _ _ _ _ _ _, by have h1 := tkL_le (a := (min (max ca 0) 64)) (b := 4096) (ep := ea) (L := La) (T := ((l.getD i default).T.take 70)) (A := ((l.getD i default).A.take 70)) (o := (l.getD i default).o) (n := (l.getD i default).n); omega, by have h1 := tkE_in (a := (min (max ca 0) 64)) (b := 4096) (ep := ea) (L := La) (T := ((l.getD i default).T.take 70)) (A := ((l.getD i default).A.take 70)) (o := (l.getD i default).o); omega, by have h1 := tkE_in (a := (min (max ca 0) 64)) (b := 4096) (ep := eb) (L := Lb) (T := ((l.getD i default).T.take 70)) (A := ((l.getD i default).A.take 70)) (o := (l.getD i default).o); omega⟩, StLe.mk [(1000, 1000), (1001, 1001), (1008, 1008), (1009, 1009)] rfl rfl ⟨⟨_, rfl, by first | rfl | (simp only [AV.ren]; congr 1; omega), rfl⟩, ⟨_, rfl, by first | rfl | (simp only [AV.ren]; congr 1; omega), rfl⟩, ⟨_, rfl, by first | rfl | (simp only [AV.ren]; congr 1; omega), rfl⟩, ⟨_, rfl, by first | rfl | (simp only [AV.ren]; congr 1; omega), rfl⟩, trivial⟩ ⟨⟨_, _, rfl, rfl, rfl, rfl, id, rfl⟩, ⟨_, _, rfl, rfl, rfl, rfl, id, rfl⟩, ⟨_, _, rfl, rfl, rfl, rfl, id, rfl⟩, ⟨_, _, rfl, rfl, rfl, rfl, id, rfl⟩, ⟨_, _, rfl, rfl, rfl, rfl, id, rfl⟩, ⟨_, _, rfl, rfl, rfl, rfl, id, rfl⟩, ⟨_, _, rfl, rfl, rfl, rfl, id, rfl⟩, ⟨_, _, rfl, rfl, rfl, rfl, id, rfl⟩, ⟨_, _, rfl, rfl, rfl, rfl, id, rfl⟩, ⟨_, _, rfl, rfl, rfl, rfl, id, rfl⟩, ⟨_, _, rfl, rfl, rfl, rfl, id, rfl⟩, ⟨_, _, rfl, rfl, rfl, rfl, id, rfl⟩, ⟨_, _, rfl, rfl, rfl, rfl, id, rfl⟩, ⟨_, _, rfl, rfl, rfl, rfl, id, rfl⟩, ⟨_, _, rfl, rfl, rfl, rfl, id, rfl⟩, ⟨_, _, rfl, rfl, rfl, rfl, id, rfl⟩, ⟨_, _, rfl, rfl, rfl, rfl, id, rfl⟩, ⟨_, _, rfl, rfl, rfl, rfl, id, rfl⟩, ⟨_, _, rfl, rfl, rfl, rfl, id, rfl⟩, ⟨_, _, rfl, rfl, rfl, rfl, id, rfl⟩, ⟨_, _, rfl, rfl, rfl, rfl, id, rfl⟩, ⟨_, _, rfl, rfl, rfl, rfl, id, rfl⟩, ⟨_, _, rfl, rfl, rfl, rfl, id, rfl⟩, ⟨_, _, rfl, rfl, rfl, rfl, id, rfl⟩, ⟨_, _, rfl, rfl, rfl, rfl, id, rfl⟩, ⟨_, _, rfl, rfl, rfl, rfl, id, rfl⟩, ⟨_, _, rfl, rfl, rfl, rfl, id, rfl⟩, ⟨_, _, rfl, rfl, rfl, rfl, id, rfl⟩, ⟨_, _, rfl, rfl, rfl, rfl, id, rfl⟩, ⟨_, _, rfl, rfl, rfl, rfl, id, rfl⟩, ⟨_, _, rfl, rfl, rfl, rfl, id, rfl⟩, ⟨_, _, rfl, rfl, rfl, rfl, id, rfl⟩, ⟨_, _, rfl, rfl, rfl, rfl, id, rfl⟩, ⟨_, _, rfl, rfl, rfl, rfl, id, rfl⟩, ⟨_, _, rfl, rfl, rfl, rfl, id, rfl⟩, ⟨_, _, rfl, rfl, rfl, rfl, id, rfl⟩, ⟨_, _, rfl, rfl, rfl, rfl, id, rfl⟩, ⟨_, _, rfl, rfl, rfl, rfl, id, rfl⟩, ⟨_, _, rfl, rfl, rfl, rfl, id, rfl⟩, ⟨_, _, rfl, rfl, rfl, rfl, id, rfl⟩, ⟨_, _, rfl, rfl, rfl, rfl, id, rfl⟩, ⟨_, _, rfl, rfl, rfl, rfl, id, rfl⟩, ⟨_, _, rfl, rfl, rfl, rfl, id, rfl⟩, ⟨_, _, rfl, rfl, rfl, rfl, id, rfl⟩, ⟨_, _, rfl, rfl, offC_ren _ o (rowsC_flat (fun _ => rfl) l), rfl, id, offC_nm _ o (rowsC_flat (fun _ => rfl) l)⟩, trivial⟩⟩
        ·skip
         refine .skip ?_
         exact ⟨⟨Ma2, ka2, _, (tkE (min (max ca 0) 64) 4096 ea La ((l.getD i default).T.take 70) ((l.getD i default).A.take 70) (l.getD i default).o), Mb, kb, Lb, eb, hma2, mb, ap.takeO (fun e => by rw [e] at hc77; cases hc77) _ _ _, lb.take _ _ _ _ _ _ _, by have h1 := tkL_le (a := (min (max ca 0) 64)) (b := 4096) (ep := ea) (L := La) (T := ((l.getD i default).T.take 70)) (A := ((l.getD i default).A.take 70)) (o := (l.getD i default).o) (n := (l.getD i default).n); omega, by have h1 := tkE_in (a := (min (max ca 0) 64)) (b := 4096) (ep := ea) (L := La) (T := ((l.getD i default).T.take 70)) (A := ((l.getD i default).A.take 70)) (o := (l.getD i default).o); omega, by omega⟩, StLe.mk [(1000, 1000), (1001, 1001), (1008, 1008), (1009, 1009)] rfl rfl ⟨⟨_, rfl, by first | rfl | (simp only [AV.ren]; congr 1; omega), rfl⟩, ⟨_, rfl, by first | rfl | (simp only [AV.ren]; congr 1; omega), rfl⟩, ⟨_, rfl, by first | rfl | (simp only [AV.ren]; congr 1; omega), rfl⟩, ⟨_, rfl, by first | rfl | (simp only [AV.ren]; congr 1; omega), rfl⟩, trivial⟩ ⟨⟨_, _, rfl, rfl, rfl, rfl, id, rfl⟩, ⟨_, _, rfl, rfl, rfl, rfl, id, rfl⟩, ⟨_, _, rfl, rfl, rfl, rfl, id, rfl⟩, ⟨_, _, rfl, rfl, rfl, rfl, id, rfl⟩, ⟨_, _, rfl, rfl, rfl, rfl, id, rfl⟩, ⟨_, _, rfl, rfl, rfl, rfl, id, rfl⟩, ⟨_, _, rfl, rfl, rfl, rfl, id, rfl⟩, ⟨_, _, rfl, rfl, rfl, rfl, id, rfl⟩, ⟨_, _, rfl, rfl, rfl, rfl, id, rfl⟩, ⟨_, _, rfl, rfl, rfl, rfl, id, rfl⟩, ⟨_, _, rfl, rfl, rfl, rfl, id, rfl⟩, ⟨_, _, rfl, rfl, rfl, rfl, id, rfl⟩, ⟨_, _, rfl, rfl, rfl, rfl, id, rfl⟩, ⟨_, _, rfl, rfl, rfl, rfl, id, rfl⟩, ⟨_, _, rfl, rfl, rfl, rfl, id, rfl⟩, ⟨_, _, rfl, rfl, rfl, rfl, id, rfl⟩, ⟨_, _, rfl, rfl, rfl, rfl, id, rfl⟩, ⟨_, _, rfl, rfl, rfl, rfl, id, rfl⟩, ⟨_, _, rfl, rfl, rfl, rfl, id, rfl⟩, ⟨_, _, rfl, rfl, rfl, rfl, id, rfl⟩, ⟨_, _, rfl, rfl, rfl, rfl, id, rfl⟩, ⟨_, _, rfl, rfl, rfl, rfl, id, rfl⟩, ⟨_, _, rfl, rfl, rfl, rfl, id, rfl⟩, ⟨_, _, rfl, rfl, rfl, rfl, id, rfl⟩, ⟨_, _, rfl, rfl, rfl, rfl, id, rfl⟩, ⟨_, _, rfl, rfl, rfl, rfl, id, rfl⟩, ⟨_, _, rfl, rfl, rfl, rfl, id, rfl⟩, ⟨_, _, rfl, rfl, rfl, rfl, id, rfl⟩, ⟨_, _, rfl, rfl, rfl, rfl, id, rfl⟩, ⟨_, _, rfl, rfl, rfl, rfl, id, rfl⟩, ⟨_, _, rfl, rfl, rfl, rfl, id, rfl⟩, ⟨_, _, rfl, rfl, rfl, rfl, id, rfl⟩, ⟨_, _, rfl, rfl, rfl, rfl, id, rfl⟩, ⟨_, _, rfl, rfl, rfl, rfl, id, rfl⟩, ⟨_, _, rfl, rfl, rfl, rfl, id, rfl⟩, ⟨_, _, rfl, rfl, rfl, rfl, id, rfl⟩, ⟨_, _, rfl, rfl, rfl, rfl, id, rfl⟩, ⟨_, _, rfl, rfl, rfl, rfl, id, rfl⟩, ⟨_, _, rfl, rfl, rfl, rfl, id, rfl⟩, ⟨_, _, rfl, rfl, rfl, rfl, id, rfl⟩, ⟨_, _, rfl, rfl, rfl, rfl, id, rfl⟩, ⟨_, _, rfl, rfl, rfl, rfl, id, rfl⟩, ⟨_, _, rfl, rfl, rfl, rfl, id, rfl⟩, ⟨_, _, rfl, rfl, rfl, rfl, id, rfl⟩, ⟨_, _, rfl, rfl, offC_ren _ o (rowsC_flat (fun _ => rfl) l), rfl, id, offC_nm _ o (rowsC_flat (fun _ => rfl) l)⟩, trivial⟩⟩
   ·rintro q
    refine .seq ?_
    refine .region ?_
    refine .q (op_assign rfl) trivial rfl ?_
    refine .nil ?_
    show Ev _ _ _ _ _
    refine .seq ?_
    refine .seq ?_
    refine .region ?_
    refine .q (op_move rfl) trivial rfl ?_
    refine .q (op_call (U := []) [(500, 1000), (501, 1001)] [] (all_ev (min (max ca 0) 64) 4096 (min (max cc 1) 1073741824) q.ea q.ma) Tryd.func16 (by kernel_rfl) rfl rfl rfl (⟨⟨_, rfl, rfl, rfl⟩, trivial⟩) (⟨⟨_, _, rfl, rfl, rfl, rfl, (fun h => by cases h), rfl⟩, ⟨_, _, rfl, rfl, rfl, rfl, (fun h => by cases h), rfl⟩, trivial⟩) (trivial) (⟨(fun h => by cases h), (fun h => by cases h), trivial⟩) rfl) trivial rfl ?_
    refine .q (op_len_fsl Tryd.underlying39 rfl) trivial rfl ?_
    refine .q (op_move rfl) trivial rfl ?_
    refine .nil ?_
    show Ev _ _ _ _ _
    refine .block ?_
    refine Ev.loop (ι := { p : LF q.La // p.F = [] } ⊕ { p : LF q.La // p.F ≠ [] }) (fun p => match p with | .inl p => ⟨[(2, .sl 450 o l.length 5), (8, .ptr 1000 0), (9, .ptr 1008 0), (10, .i64 ((i : Nat) : Int)), (21, .nilsl), (150, .fsl (lsC q.La) q.La.length 5), (151, .i64 ((q.La.length : Nat) : Int)), (152, .i64 ((p.1.j : Nat) : Int))], [(1000, some ⟨.agg [.i64 (min (max ca 0) 64), .i64 4096, .i64 (min (max cc 1) 1073741824), .mp 1001, .i64 q.ea], 68, true⟩), (1001, some ⟨mpV q.Ma q.ka, 0, true⟩), (1008, some ⟨.agg [.i64 (min (max ca 0) 64), .i64 4096, .i64 (min (max cc 1) 1073741824), .mp 1009, .i64 q.eb], 68, true⟩), (1009, some ⟨mpV q.Mb q.kb, 0, true⟩), (3, some ⟨.agg [.err 155 (1) (offE eo (1))], errT, false⟩), (4, some ⟨.agg [.err 155 (2) (offE eo (2))], errT, false⟩), (5, some ⟨.agg [.err 155 (3) (offE eo (3))], errT, false⟩), (6, some ⟨.agg [.err 155 (4) (offE eo (4))], errT, false⟩), (7, some ⟨.agg [.err 155 (5) (offE eo (5))], errT, false⟩), (8, some ⟨.agg [.err 155 (6) (offE eo (6))], errT, false⟩), (9, some ⟨.agg [.err 155 (7) (offE eo (7))], errT, false⟩), (2, some ⟨.agg [.err 155 (8) (offE eo (8))], errT, false⟩), (1, some ⟨.agg [.err 155 (9) (offE eo (9))], errT, false⟩), (10, some ⟨.agg [.err 155 (10) (offE eo (10))], errT, false⟩), (11, some ⟨.agg [.err 155 (11) (offE eo (11))], errT, false⟩), (12, some ⟨.agg [.err 155 (12) (offE eo (12))], errT, false⟩), (13, some ⟨.agg [.err 155 (13) (offE eo (13))], errT, false⟩), (14, some ⟨.agg [.err 155 (14) (offE eo (14))], errT, false⟩), (15, some ⟨.agg [.err 155 (15) (offE eo (15))], errT, false⟩), (16, some ⟨.agg [.err 155 (16) (offE eo (16))], errT, false⟩), (0, some ⟨.agg [.err 155 (17) (offE eo (17))], errT, false⟩), (17, some ⟨.agg [.err 155 (18) (offE eo (18))], errT, false⟩), (18, some ⟨.agg [.err 155 (19) (offE eo (19))], errT, false⟩), (19, some ⟨.agg [.err 155 (20) (offE eo (20))], errT, false⟩), (401, some ⟨.agg [], errT, false⟩), (402, some ⟨.agg [], errT, false⟩), (403, some ⟨.agg [], errT, false⟩), (404, some ⟨.agg [], errT, false⟩), (405, some ⟨.agg [], errT, false⟩), (406, some ⟨.agg [], errT, false⟩), (407, some ⟨.agg [], errT, false⟩), (408, some ⟨.agg [], errT, false⟩), (409, some ⟨.agg [], errT, false⟩), (410, some ⟨.agg [], errT, false⟩), (411, some ⟨.agg [], errT, false⟩), (412, some ⟨.agg [], errT, false⟩), (413, some ⟨.agg [], errT, false⟩), (414, some ⟨.agg [], errT, false⟩), (415, some ⟨.agg [], errT, false⟩), (416, some ⟨.agg [], errT, false⟩), (417, some ⟨.agg [], errT, false⟩), (418, some ⟨.agg [], errT, false⟩), (419, some ⟨.agg [], errT, false⟩), (420, some ⟨.agg [], errT, false⟩), (450, some ⟨.agg (offC o (rowsC actL l)), anyT, false⟩)], 1016⟩ | .inr p => ⟨[(2, .sl 450 o l.length 5), (8, .ptr 1000 0), (9, .ptr 1008 0), (10, .i64 ((i : Nat) : Int)), (21, .sl 1016 0 p.1.F.length 5), (150, .fsl (lsC q.La) q.La.length 5), (151, .i64 ((q.La.length : Nat) : Int)), (152, .i64 ((p.1.j : Nat) : Int))], [(1000, some ⟨.agg [.i64 (min (max ca 0) 64), .i64 4096, .i64 (min (max cc 1) 1073741824), .mp 1001, .i64 q.ea], 68, true⟩), (1001, some ⟨mpV q.Ma q.ka, 0, true⟩), (1008, some ⟨.agg [.i64 (min (max ca 0) 64), .i64 4096, .i64 (min (max cc 1) 1073741824), .mp 1009, .i64 q.eb], 68, true⟩), (1009, some ⟨mpV q.Mb q.kb, 0, true⟩), (1016, some ⟨.agg (lsC p.1.F), 45, true⟩), (3, some ⟨.agg [.err 155 (1) (offE eo (1))], errT, false⟩), (4, some ⟨.agg [.err 155 (2) (offE eo (2))], errT, false⟩), (5, some ⟨.agg [.err 155 (3) (offE eo (3))], errT, false⟩), (6, some ⟨.agg [.err 155 (4) (offE eo (4))], errT, false⟩), (7, some ⟨.agg [.err 155 (5) (offE eo (5))], errT, false⟩), (8, some ⟨.agg [.err 155 (6) (offE eo (6))], errT, false⟩), (9, some ⟨.agg [.err 155 (7) (offE eo (7))], errT, false⟩), (2, some ⟨.agg [.err 155 (8) (offE eo (8))], errT, false⟩), (1, some ⟨.agg [.err 155 (9) (offE eo (9))], errT, false⟩), (10, some ⟨.agg [.err 155 (10) (offE eo (10))], errT, false⟩), (11, some ⟨.agg [.err 155 (11) (offE eo (11))], errT, false⟩), (12, some ⟨.agg [.err 155 (12) (offE eo (12))], errT, false⟩), (13, some ⟨.agg [.err 155 (13) (offE eo (13))], errT, false⟩), (14, some ⟨.agg [.err 155 (14) (offE eo (14))], errT, false⟩), (15, some ⟨.agg [.err 155 (15) (offE eo (15))], errT, false⟩), (16, some ⟨.agg [.err 155 (16) (offE eo (16))], errT, false⟩), (0, some ⟨.agg [.err 155 (17) (offE eo (17))], errT, false⟩), (17, some ⟨.agg [.err 155 (18) (offE eo (18))], errT, false⟩), (18, some ⟨.agg [.err 155 (19) (offE eo (19))], errT, false⟩), (19, some ⟨.agg [.err 155 (20) (offE eo (20))], errT, false⟩), (401, some ⟨.agg [], errT, false⟩), (402, some ⟨.agg [], errT, false⟩), (403, some ⟨.agg [], errT, false⟩), (404, some ⟨.agg [], errT, false⟩), (405, some ⟨.agg [], errT, false⟩), (406, some ⟨.agg [], errT, false⟩), (407, some ⟨.agg [], errT, false⟩), (408, some ⟨.agg [], errT, false⟩), (409, some ⟨.agg [], errT, false⟩), (410, some ⟨.agg [], errT, false⟩), (411, some ⟨.agg [], errT, false⟩), (412, some ⟨.agg [], errT, false⟩), (413, some ⟨.agg [], errT, false⟩), (414, some ⟨.agg [], errT, false⟩), (415, some ⟨.agg [], errT, false⟩), (416, some ⟨.agg [], errT, false⟩), (417, some ⟨.agg [], errT, false⟩), (418, some ⟨.agg [], errT, false⟩), (419, some ⟨.agg [], errT, false⟩), (420, some ⟨.agg [], errT, false⟩), (450, some ⟨.agg (offC o (rowsC actL l)), anyT, false⟩)], 1024⟩) (fun p => match p with | .inl p => q.La.length - p.1.j | .inr p => q.La.length - p.1.j) (.inl ⟨⟨0, [], Nat.zero_le _, rfl⟩, rfl⟩) (StLe.mk [(1000, 1000), (1001, 1001), (1008, 1008), (1009, 1009)] rfl rfl ⟨⟨_, rfl, by first | rfl | (simp only [AV.ren]; congr 1; omega), rfl⟩, ⟨_, rfl, by first | rfl | (simp only [AV.ren]; congr 1; omega), rfl⟩, ⟨_, rfl, by first | rfl | (simp only [AV.ren]; congr 1; omega), rfl⟩, ⟨_, rfl, by first | rfl | (simp only [AV.ren]; congr 1; omega), rfl⟩, ⟨_, rfl, by first | rfl | (simp only [AV.ren]; congr 1; omega), rfl⟩, ⟨_, rfl, by first | rfl | (simp only [AV.ren]; congr 1; omega), rfl⟩, ⟨_, rfl, by first | rfl | (simp only [AV.ren]; congr 1; omega), rfl⟩, ⟨_, rfl, by first | rfl | (simp only [AV.ren]; congr 1; omega), rfl⟩, trivial⟩ ⟨⟨_, _, rfl, rfl, rfl, rfl, id, rfl⟩, ⟨_, _, rfl, rfl, rfl, rfl, id, rfl⟩, ⟨_, _, rfl, rfl, rfl, rfl, id, rfl⟩, ⟨_, _, rfl, rfl, rfl, rfl, id, rfl⟩, ⟨_, _, rfl, rfl, rfl, rfl, id, rfl⟩, ⟨_, _, rfl, rfl, rfl, rfl, id, rfl⟩, ⟨_, _, rfl, rfl, rfl, rfl, id, rfl⟩, ⟨_, _, rfl, rfl, rfl, rfl, id, rfl⟩, ⟨_, _, rfl, rfl, rfl, rfl, id, rfl⟩, ⟨_, _, rfl, rfl, rfl, rfl, id, rfl⟩, ⟨_, _, rfl, rfl, rfl, rfl, id, rfl⟩, ⟨_, _, rfl, rfl, rfl, rfl, id, rfl⟩, ⟨_, _, rfl, rfl, rfl, rfl, id, rfl⟩, ⟨_, _, rfl, rfl, rfl, rfl, id, rfl⟩, ⟨_, _, rfl, rfl, rfl, rfl, id, rfl⟩, ⟨_, _, rfl, rfl, rfl, rfl, id, rfl⟩, ⟨_, _, rfl, rfl, rfl, rfl, id, rfl⟩, ⟨_, _, rfl, rfl, rfl, rfl, id, rfl⟩, ⟨_, _, rfl, rfl, rfl, rfl, id, rfl⟩, ⟨_, _, rfl, rfl, rfl, rfl, id, rfl⟩, ⟨_, _, rfl, rfl, rfl, rfl, id, rfl⟩, ⟨_, _, rfl, rfl, rfl, rfl, id, rfl⟩, ⟨_, _, rfl, rfl, rfl, rfl, id, rfl⟩, ⟨_, _, rfl, rfl, rfl, rfl, id, rfl⟩, ⟨_, _, rfl, rfl, rfl, rfl, id, rfl⟩, ⟨_, _, rfl, rfl, rfl, rfl, id, rfl⟩, ⟨_, _, rfl, rfl, rfl, rfl, id, rfl⟩, ⟨_, _, rfl, rfl, rfl, rfl, id, rfl⟩, ⟨_, _, rfl, rfl, rfl, rfl, id, rfl⟩, ⟨_, _, rfl, rfl, rfl, rfl, id, rfl⟩, ⟨_, _, rfl, rfl, rfl, rfl, id, rfl⟩, ⟨_, _, rfl, rfl, rfl, rfl, id, rfl⟩, ⟨_, _, rfl, rfl, rfl, rfl, id, rfl⟩, ⟨_, _, rfl, rfl, rfl, rfl, id, rfl⟩, ⟨_, _, rfl, rfl, rfl, rfl, id, rfl⟩, ⟨_, _, rfl, rfl, rfl, rfl, id, rfl⟩, ⟨_, _, rfl, rfl, rfl, rfl, id, rfl⟩, ⟨_, _, rfl, rfl, rfl, rfl, id, rfl⟩, ⟨_, _, rfl, rfl, rfl, rfl, id, rfl⟩, ⟨_, _, rfl, rfl, rfl, rfl, id, rfl⟩, ⟨_, _, rfl, rfl, rfl, rfl, id, rfl⟩, ⟨_, _, rfl, rfl, rfl, rfl, id, rfl⟩, ⟨_, _, rfl, rfl, rfl, rfl, id, rfl⟩, ⟨_, _, rfl, rfl, rfl, rfl, id, rfl⟩, ⟨_, _, rfl, rfl, offC_ren _ o (rowsC_flat (fun _ => rfl) l), rfl, id, offC_nm _ o (rowsC_flat (fun _ => rfl) l)⟩, trivial⟩) ?_
    rintro (⟨⟨j, F, hj0, hF⟩, hE⟩ | ⟨⟨j, F, hj0, hF⟩, hE⟩)
    ·show Ev _ _ _ ⟨[(2, .sl 450 o l.length 5), (8, .ptr 1000 0), (9, .ptr 1008 0), (10, .i64 ((i : Nat) : Int)), (21, .nilsl), (150, .fsl (lsC q.La) q.La.length 5), (151, .i64 ((q.La.length : Nat) : Int)), (152, .i64 ((j : Nat) : Int))], [(1000, some ⟨.agg [.i64 (min (max ca 0) 64), .i64 4096, .i64 (min (max cc 1) 1073741824), .mp 1001, .i64 q.ea], 68, true⟩), (1001, some ⟨mpV q.Ma q.ka, 0, true⟩), (1008, some ⟨.agg [.i64 (min (max ca 0) 64), .i64 4096, .i64 (min (max cc 1) 1073741824), .mp 1009, .i64 q.eb], 68, true⟩), (1009, some ⟨mpV q.Mb q.kb, 0, true⟩), (3, some ⟨.agg [.err 155 (1) (offE eo (1))], errT, false⟩), (4, some ⟨.agg [.err 155 (2) (offE eo (2))], errT, false⟩), (5, some ⟨.agg [.err 155 (3) (offE eo (3))], errT, false⟩), (6, some ⟨.agg [.err 155 (4) (offE eo (4))], errT, false⟩), (7, some ⟨.agg [.err 155 (5) (offE eo (5))], errT, false⟩), (8, some ⟨.agg [.err 155 (6) (offE eo (6))], errT, false⟩), (9, some ⟨.agg [.err 155 (7) (offE eo (7))], errT, false⟩), (2, some ⟨.agg [.err 155 (8) (offE eo (8))], errT, false⟩), (1, some ⟨.agg [.err 155 (9) (offE eo (9))], errT, false⟩), (10, some ⟨.agg [.err 155 (10) (offE eo (10))], errT, false⟩), (11, some ⟨.agg [.err 155 (11) (offE eo (11))], errT, false⟩), (12, some ⟨.agg [.err 155 (12) (offE eo (12))], errT, false⟩), (13, some ⟨.agg [.err 155 (13) (offE eo (13))], errT, false⟩), (14, some ⟨.agg [.err 155 (14) (offE eo (14))], errT, false⟩), (15, some ⟨.agg [.err 155 (15) (offE eo (15))], errT, false⟩), (16, some ⟨.agg [.err 155 (16) (offE eo (16))], errT, false⟩), (0, some ⟨.agg [.err 155 (17) (offE eo (17))], errT, false⟩), (17, some ⟨.agg [.err 155 (18) (offE eo (18))], errT, false⟩), (18, some ⟨.agg [.err 155 (19) (offE eo (19))], errT, false⟩), (19, some ⟨.agg [.err 155 (20) (offE eo (20))], errT, false⟩), (401, some ⟨.agg [], errT, false⟩), (402, some ⟨.agg [], errT, false⟩), (403, some ⟨.agg [], errT, false⟩), (404, some ⟨.agg [], errT, false⟩), (405, some ⟨.agg [], errT, false⟩), (406, some ⟨.agg [], errT, false⟩), (407, some ⟨.agg [], errT, false⟩), (408, some ⟨.agg [], errT, false⟩), (409, some ⟨.agg [], errT, false⟩), (410, some ⟨.agg [], errT, false⟩), (411, some ⟨.agg [], errT, false⟩), (412, some ⟨.agg [], errT, false⟩), (413, some ⟨.agg [], errT, false⟩), (414, some ⟨.agg [], errT, false⟩), (415, some ⟨.agg [], errT, false⟩), (416, some ⟨.agg [], errT, false⟩), (417, some ⟨.agg [], errT, false⟩), (418, some ⟨.agg [], errT, false⟩), (419, some ⟨.agg [], errT, false⟩), (420, some ⟨.agg [], errT, false⟩), (450, some ⟨.agg (offC o (rowsC actL l)), anyT, false⟩)], 1016⟩ _
     replace hE : F = [] := hE
     refine .seq ?_
     refine .region ?_
     refine .q (op_cmpI rfl rfl rfl) trivial rfl ?_
     refine .nil ?_
     show Ev _ _ _ _ _
     refine .seq ?_
     refine .cond rfl (fun hc153 => ?_) (fun hc153 => ?_)
     ·simp only [decide_eq_true_eq, decide_eq_false_iff_not, beq_iff_eq, bne_iff_ne, ne_eq, beq_eq_false_iff_ne, bne_eq_false_iff_eq] at hc153
      refine .skip ?_
      show Ev _ _ _ _ _
      refine .seq ?_
      refine .block ?_
      refine .seq ?_
      refine .region ?_
      have hj : j < q.La.length := by omega
      refine .q (op_indexAddr_fsl Tryd.underlying39 infLease.sz (by decide) rfl rfl (i := j) rfl (hj)) trivial rfl ?_
      refine .q (op_loadRow_fptr (v := lsV (q.La.getD j default)) Tryd.underlying45 rfl infLease.sz rfl rfl (ls_take (hj)) rfl) trivial rfl ?_
      refine .a (op_allocRow zero45 rel_zero45 rfl) trivial rfl ?_
      refine .w (op_storeRow (by kernel_rfl) rfl rfl rfl rfl rfl (rfl) (rfl)) trivial rfl ?_
      refine .nil ?_
      show Ev _ _ _ _ _
      refine .seq ?_
      refine .region ?_
      refine .q (op_fieldAddr (m := 0) Tryd.underlying45 rfl (by kernel_rfl) rfl) trivial rfl ?_
      refine .as (.ptr 1016 0) rfl ?_
      refine .q (op_load Tryd.underlying9 rfl rfl rfl rfl (by show 0 < 5; decide)) trivial rfl ?_
      refine .q (op_eqS rfl rfl rfl) trivial rfl ?_
      refine .nil ?_
      show Ev _ _ _ _ _
      refine .cond rfl (fun hc158 => ?_) (fun hc158 => ?_)
      ·skip
       refine .region ?_
       refine .q (op_move rfl) trivial rfl ?_
       refine .q (op_loadRow Tryd.underlying45 rfl infLease.sz rfl rfl rfl rfl) trivial rfl ?_
       refine .a (op_buildRow (z := 5) (r := lsV (q.La.getD j default)) (cs := Ls.cs (q.La.getD j default)) Tryd.underlying39 infLease (by decide) (by decide) rfl rfl rfl) trivial rfl ?_
       refine .a (ap_append_nil (c' := .agg (lsC [q.La.getD j default])) Tryd.underlying39 Tryd.underlying39 (.inr ⟨_, rfl⟩) infLease rfl (srcs_sl (m := 1) (o := 0) rfl rfl (by show 5 ≤ 5; decide)) rfl (by decide) (by decide)) trivial rfl ?_
       refine .q (op_assign rfl) trivial rfl ?_
       refine .nil ?_
       show Ev _ _ _ _ _
       refine .region ?_
       refine .q (op_addI rfl rfl ⟨by have := q.ma.len; omega, by have := q.ma.len; omega⟩) trivial rfl ?_
       refine .q (op_move rfl) trivial rfl ?_
       refine .nil ?_
       exact ⟨.inr ⟨⟨j + 1, [q.La.getD j default], hj, by have h1 := flt_yes1 hF hj hc158; rw [hE] at h1; exact h1⟩, by simp⟩, by show q.La.length - (j + 1) < q.La.length - j; omega, StLe.mk [(1000, 1000), (1001, 1001), (1008, 1008), (1009, 1009), (1016, 1032)] rfl rfl ⟨⟨_, rfl, by first | rfl | (simp only [AV.ren]; congr 1; omega), rfl⟩, ⟨_, rfl, by first | rfl | (simp only [AV.ren]; congr 1; omega), rfl⟩, ⟨_, rfl, by first | rfl | (simp only [AV.ren]; congr 1; omega), rfl⟩, ⟨_, rfl, by first | rfl | (simp only [AV.ren]; congr 1; omega), rfl⟩, ⟨_, rfl, by first | rfl | (simp only [AV.ren]; congr 1; omega), rfl⟩, ⟨_, rfl, by first | rfl | (simp only [AV.ren]; congr 1; omega), rfl⟩, ⟨_, rfl, by first | rfl | (simp only [AV.ren]; congr 1; omega), rfl⟩, ⟨_, rfl, by first | rfl | (simp only [AV.ren]; congr 1; omega), rfl⟩, trivial⟩ ⟨⟨_, _, rfl, rfl, rfl, rfl, id, rfl⟩, ⟨_, _, rfl, rfl, rfl, rfl, id, rfl⟩, ⟨_, _, rfl, rfl, rfl, rfl, id, rfl⟩, ⟨_, _, rfl, rfl, rfl, rfl, id, rfl⟩, ⟨_, _, rfl, rfl, by exact lsC_ren _ _, rfl, id, lsC_nm _ _⟩, ⟨_, _, rfl, rfl, rfl, rfl, id, rfl⟩, ⟨_, _, rfl, rfl, rfl, rfl, id, rfl⟩, ⟨_, _, rfl, rfl, rfl, rfl, id, rfl⟩, ⟨_, _, rfl, rfl, rfl, rfl, id, rfl⟩, ⟨_, _, rfl, rfl, rfl, rfl, id, rfl⟩, ⟨_, _, rfl, rfl, rfl, rfl, id, rfl⟩, ⟨_, _, rfl, rfl, rfl, rfl, id, rfl⟩, ⟨_, _, rfl, rfl, rfl, rfl, id, rfl⟩, ⟨_, _, rfl, rfl, rfl, rfl, id, rfl⟩, ⟨_, _, rfl, rfl, rfl, rfl, id, rfl⟩, ⟨_, _, rfl, rfl, rfl, rfl, id, rfl⟩, ⟨_, _, rfl, rfl, rfl, rfl, id, rfl⟩, ⟨_, _, rfl, rfl, rfl, rfl, id, rfl⟩, ⟨_, _, rfl, rfl, rfl, rfl, id, rfl⟩, ⟨_, _, rfl, rfl, rfl, rfl, id, rfl⟩, ⟨_, _, rfl, rfl, rfl, rfl, id, rfl⟩, ⟨_, _, rfl, rfl, rfl, rfl, id, rfl⟩, ⟨_, _, rfl, rfl, rfl, rfl, id, rfl⟩, ⟨_, _, rfl, rfl, rfl, rfl, id, rfl⟩, ⟨_, _, rfl, rfl, rfl, rfl, id, rfl⟩, ⟨_, _, rfl, rfl, rfl, rfl, id, rfl⟩, ⟨_, _, rfl, rfl, rfl, rfl, id, rfl⟩, ⟨_, _, rfl, rfl, rfl, rfl, id, rfl⟩, ⟨_, _, rfl, rfl, rfl, rfl, id, rfl⟩, ⟨_, _, rfl, rfl, rfl, rfl, id, rfl⟩, ⟨_, _, rfl, rfl, rfl, rfl, id, rfl⟩, ⟨_, _, rfl, rfl, rfl, rfl, id, rfl⟩, ⟨_, _, rfl, rfl, rfl, rfl, id, rfl⟩, ⟨_, _, rfl, rfl, rfl, rfl, id, rfl⟩, ⟨_, _, rfl, rfl, rfl, rfl, id, rfl⟩, ⟨_, _, rfl, rfl, rfl, rfl, id, rfl⟩, ⟨_, _, rfl, rfl, rfl, rfl, id, rfl⟩, ⟨_, _, rfl, rfl, rfl, rfl, id, rfl⟩, ⟨_, _, rfl, rfl, rfl, rfl, id, rfl⟩, ⟨_, _, rfl, rfl, rfl, rfl, id, rfl⟩, ⟨_, _, rfl, rfl, rfl, rfl, id, rfl⟩, ⟨_, _, rfl, rfl, rfl, rfl, id, rfl⟩, ⟨_, _, rfl, rfl, rfl, rfl, id, rfl⟩, ⟨_, _, rfl, rfl, rfl, rfl, id, rfl⟩, ⟨_, _, rfl, rfl, rfl, rfl, id, rfl⟩, ⟨_, _, rfl, rfl, offC_ren _ o (rowsC_flat (fun _ => rfl) l), rfl, id, offC_nm _ o (rowsC_flat (fun _ => rfl) l)⟩, trivial⟩⟩
      ·skip
       refine .skip ?_
       show Ev _ _ _ _ _
       refine .region ?_
       refine .q (op_addI rfl rfl ⟨by have := q.ma.len; omega, by have := q.ma.len; omega⟩) trivial rfl ?_
       refine .q (op_move rfl) trivial rfl ?_
       refine .nil ?_
       exact ⟨.inl ⟨⟨j + 1, F, hj, flt_no1 hF hj hc158⟩, hE⟩, by show q.La.length - (j + 1) < q.La.length - j; omega, StLe.mk [(1000, 1000), (1001, 1001), (1008, 1008), (1009, 1009)] rfl rfl ⟨⟨_, rfl, by first | rfl | (simp only [AV.ren]; congr 1; omega), rfl⟩, ⟨_, rfl, by first | rfl | (simp only [AV.ren]; congr 1; omega), rfl⟩, ⟨_, rfl, by first | rfl | (simp only [AV.ren]; congr 1; omega), rfl⟩, ⟨_, rfl, by first | rfl | (simp only [AV.ren]; congr 1; omega), rfl⟩, ⟨_, rfl, by first | rfl | (simp only [AV.ren]; congr 1; omega), rfl⟩, ⟨_, rfl, by first | rfl | (simp only [AV.ren]; congr 1; omega), rfl⟩, ⟨_, rfl, by first | rfl | (simp only [AV.ren]; congr 1; omega), rfl⟩, ⟨_, rfl, by first | rfl | (simp only [AV.ren]; congr 1; omega), rfl⟩, trivial⟩ ⟨⟨_, _, rfl, rfl, rfl, rfl, id, rfl⟩, ⟨_, _, rfl, rfl, rfl, rfl, id, rfl⟩, ⟨_, _, rfl, rfl, rfl, rfl, id, rfl⟩, ⟨_, _, rfl, rfl, rfl, rfl, id, rfl⟩, ⟨_, _, rfl, rfl, rfl, rfl, id, rfl⟩, ⟨_, _, rfl, rfl, rfl, rfl, id, rfl⟩, ⟨_, _, rfl, rfl, rfl, rfl, id, rfl⟩, ⟨_, _, rfl, rfl, rfl, rfl, id, rfl⟩, ⟨_, _, rfl, rfl, rfl, rfl, id, rfl⟩, ⟨_, _, rfl, rfl, rfl, rfl, id, rfl⟩, ⟨_, _, rfl, rfl, rfl, rfl, id, rfl⟩, ⟨_, _, rfl, rfl, rfl, rfl, id, rfl⟩, ⟨_, _, rfl, rfl, rfl, rfl, id, rfl⟩, ⟨_, _, rfl, rfl, rfl, rfl, id, rfl⟩, ⟨_, _, rfl, rfl, rfl, rfl, id, rfl⟩, ⟨_, _, rfl, rfl, rfl, rfl, id, rfl⟩, ⟨_, _, rfl, rfl, rfl, rfl, id, rfl⟩, ⟨_, _, rfl, rfl, rfl, rfl, id, rfl⟩, ⟨_, _, rfl, rfl, rfl, rfl, id, rfl⟩, ⟨_, _, rfl, rfl, rfl, rfl, id, rfl⟩, ⟨_, _, rfl, rfl, rfl, rfl, id, rfl⟩, ⟨_, _, rfl, rfl, rfl, rfl, id, rfl⟩, ⟨_, _, rfl, rfl, rfl, rfl, id, rfl⟩, ⟨_, _, rfl, rfl, rfl, rfl, id, rfl⟩, ⟨_, _, rfl, rfl, rfl, rfl, id, rfl⟩, ⟨_, _, rfl, rfl, rfl, rfl, id, rfl⟩, ⟨_, _, rfl, rfl, rfl, rfl, id, rfl⟩, ⟨_, _, rfl, rfl, rfl, rfl, id, rfl⟩, ⟨_, _, rfl, rfl, rfl, rfl, id, rfl⟩, ⟨_, _, rfl, rfl, rfl, rfl, id, rfl⟩, ⟨_, _, rfl, rfl, rfl, rfl, id, rfl⟩, ⟨_, _, rfl, rfl, rfl, rfl, id, rfl⟩, ⟨_, _, rfl, rfl, rfl, rfl, id, rfl⟩, ⟨_, _, rfl, rfl, rfl, rfl, id, rfl⟩, ⟨_, _, rfl, rfl, rfl, rfl, id, rfl⟩, ⟨_, _, rfl, rfl, rfl, rfl, id, rfl⟩, ⟨_, _, rfl, rfl, rfl, rfl, id, rfl⟩, ⟨_, _, rfl, rfl, rfl, rfl, id, rfl⟩, ⟨_, _, rfl, rfl, rfl, rfl, id, rfl⟩, ⟨_, _, rfl, rfl, rfl, rfl, id, rfl⟩, ⟨_, _, rfl, rfl, rfl, rfl, id, rfl⟩, ⟨_, _, rfl, rfl, rfl, rfl, id, rfl⟩, ⟨_, _, rfl, rfl, rfl, rfl, id, rfl⟩, ⟨_, _, rfl, rfl, rfl, rfl, id, rfl⟩, ⟨_, _, rfl, rfl, offC_ren _ o (rowsC_flat (fun _ => rfl) l), rfl, id, offC_nm _ o (rowsC_flat (fun _ => rfl) l)⟩, trivial⟩⟩
     ·simp only [decide_eq_true_eq, decide_eq_false_iff_not, beq_iff_eq, bne_iff_ne, ne_eq, beq_eq_false_iff_ne, bne_eq_false_iff_eq] at hc153
      refine .exit ?_
      show Ev _ _ _ _ _
      refine .seq ?_
      have hall : F = q.La.filter mineP := by rw [hF]; exact flt_all (by omega)
      have hcn : (q.La.filter mineP).length = q.Lb.length := q.ap.len
      have hb4 := q.mb.len
      have hb0 : q.Lb.length = 0 := by rw [← hcn, ← hall, hE]; rfl
      refine .region ?_
      refine .q (op_move rfl) trivial rfl ?_
      refine .q (op_call (U := []) [(500, 1008), (501, 1009)] [] (all_ev (min (max ca 0) 64) 4096 (min (max cc 1) 1073741824) q.eb q.mb) Tryd.func16 (by kernel_rfl) rfl rfl rfl (⟨⟨_, rfl, rfl, rfl⟩, trivial⟩) (⟨⟨_, _, rfl, rfl, rfl, rfl, (fun h => by cases h), rfl⟩, ⟨_, _, rfl, rfl, rfl, rfl, (fun h => by cases h), rfl⟩, trivial⟩) (trivial) (⟨(fun h => by cases h), (fun h => by cases h), trivial⟩) rfl) trivial rfl ?_
      refine .q (op_assign rfl) trivial rfl ?_
      refine .nil ?_
      show Ev _ _ _ _ _
      refine .seq ?_
      refine .seq ?_
      refine .region ?_
      refine .q (op_move rfl) trivial rfl ?_
      refine .q (op_len_nil Tryd.underlying39 rfl) trivial rfl ?_
      refine .q (op_move rfl) trivial rfl ?_
      refine .q (op_len_fsl Tryd.underlying39 rfl) trivial rfl ?_
      refine .q (op_cmpI rfl rfl rfl) trivial rfl ?_
      refine .as (.bool false) (congrArg AV.bool (by rw [hb0]; simp)) ?_
      refine .q (op_move rfl) trivial rfl ?_
      refine .know (b' := false) (rfl) ?_
      refine .q (op_move rfl) ⟨_, rfl, rfl⟩ rfl ?_
      refine .q (op_call (U := []) [(500, 1000), (501, 1001)] [] (count_ev (min (max ca 0) 64) 4096 (min (max cc 1) 1073741824) q.ea q.ma [116]) Tryd.func17 (by kernel_rfl) rfl rfl rfl (⟨⟨_, rfl, rfl, rfl⟩, ⟨_, rfl, rfl, rfl⟩, trivial⟩) (⟨⟨_, _, rfl, rfl, rfl, rfl, (fun h => by cases h), rfl⟩, ⟨_, _, rfl, rfl, rfl, rfl, (fun h => by cases h), rfl⟩, trivial⟩) (trivial) (⟨(fun h => by cases h), (fun h => by cases h), trivial⟩) rfl) ⟨_, rfl, rfl⟩ rfl ?_
      refine .q (op_move rfl) ⟨_, rfl, rfl⟩ rfl ?_
      refine .q (op_len_fsl Tryd.underlying39 rfl) ⟨_, rfl, rfl⟩ rfl ?_
      refine .q (op_cmpI rfl rfl rfl) ⟨_, rfl, rfl⟩ rfl ?_
      refine .as (.bool false) (congrArg AV.bool (by have h9 : (q.La.filter (fun x => x.t == [116])).length = q.Lb.length := hcn; rw [h9]; simp)) ?_
      refine .q (op_pick_false rfl rfl rfl) trivial rfl ?_
      refine .nil ?_
      show Ev _ _ _ _ _
      refine .cond_false rfl (rfl) ?_
      refine .skip ?_
      show Ev _ _ _ _ _
      refine .seq ?_
      refine .region ?_
      refine .q (op_move rfl) trivial rfl ?_
      refine .q (op_len_fsl Tryd.underlying39 rfl) trivial rfl ?_
      refine .q (op_move rfl) trivial rfl ?_
      refine .nil ?_
      show Ev _ _ _ _ _
      refine .block ?_
      refine Ev.loop (ι := { k : Nat // k ≤ q.Lb.length }) (fun p => ⟨[(2, .sl 450 o l.length 5), (8, .ptr 1000 0), (9, .ptr 1008 0), (10, .i64 ((i : Nat) : Int)), (179, .i64 ((q.Lb.length : Nat) : Int)), (180, .i64 ((p.1 : Nat) : Int))], [(1000, some ⟨.agg [.i64 (min (max ca 0) 64), .i64 4096, .i64 (min (max cc 1) 1073741824), .mp 1001, .i64 q.ea], 68, true⟩), (1001, some ⟨mpV q.Ma q.ka, 0, true⟩), (1008, some ⟨.agg [.i64 (min (max ca 0) 64), .i64 4096, .i64 (min (max cc 1) 1073741824), .mp 1009, .i64 q.eb], 68, true⟩), (1009, some ⟨mpV q.Mb q.kb, 0, true⟩), (3, some ⟨.agg [.err 155 (1) (offE eo (1))], errT, false⟩), (4, some ⟨.agg [.err 155 (2) (offE eo (2))], errT, false⟩), (5, some ⟨.agg [.err 155 (3) (offE eo (3))], errT, false⟩), (6, some ⟨.agg [.err 155 (4) (offE eo (4))], errT, false⟩), (7, some ⟨.agg [.err 155 (5) (offE eo (5))], errT, false⟩), (8, some ⟨.agg [.err 155 (6) (offE eo (6))], errT, false⟩), (9, some ⟨.agg [.err 155 (7) (offE eo (7))], errT, false⟩), (2, some ⟨.agg [.err 155 (8) (offE eo (8))], errT, false⟩), (1, some ⟨.agg [.err 155 (9) (offE eo (9))], errT, false⟩), (10, some ⟨.agg [.err 155 (10) (offE eo (10))], errT, false⟩), (11, some ⟨.agg [.err 155 (11) (offE eo (11))], errT, false⟩), (12, some ⟨.agg [.err 155 (12) (offE eo (12))], errT, false⟩), (13, some ⟨.agg [.err 155 (13) (offE eo (13))], errT, false⟩), (14, some ⟨.agg [.err 155 (14) (offE eo (14))], errT, false⟩), (15, some ⟨.agg [.err 155 (15) (offE eo (15))], errT, false⟩), (16, some ⟨.agg [.err 155 (16) (offE eo (16))], errT, false⟩), (0, some ⟨.agg [.err 155 (17) (offE eo (17))], errT, false⟩), (17, some ⟨.agg [.err 155 (18) (offE eo (18))], errT, false⟩), (18, some ⟨.agg [.err 155 (19) (offE eo (19))], errT, false⟩), (19, some ⟨.agg [.err 155 (20) (offE eo (20))], errT, false⟩), (401, some ⟨.agg [], errT, false⟩), (402, some ⟨.agg [], errT, false⟩), (403, some ⟨.agg [], errT, false⟩), (404, some ⟨.agg [], errT, false⟩), (405, some ⟨.agg [], errT, false⟩), (406, some ⟨.agg [], errT, false⟩), (407, some ⟨.agg [], errT, false⟩), (408, some ⟨.agg [], errT, false⟩), (409, some ⟨.agg [], errT, false⟩), (410, some ⟨.agg [], errT, false⟩), (411, some ⟨.agg [], errT, false⟩), (412, some ⟨.agg [], errT, false⟩), (413, some ⟨.agg [], errT, false⟩), (414, some ⟨.agg [], errT, false⟩), (415, some ⟨.agg [], errT, false⟩), (416, some ⟨.agg [], errT, false⟩), (417, some ⟨.agg [], errT, false⟩), (418, some ⟨.agg [], errT, false⟩), (419, some ⟨.agg [], errT, false⟩), (420, some ⟨.agg [], errT, false⟩), (450, some ⟨.agg (offC o (rowsC actL l)), anyT, false⟩)], 1016⟩) (fun p => q.Lb.length - p.1) ⟨0, Nat.zero_le _⟩ (StLe.mk [(1000, 1000), (1001, 1001), (1008, 1008), (1009, 1009)] rfl rfl ⟨⟨_, rfl, by first | rfl | (simp only [AV.ren]; congr 1; omega), rfl⟩, ⟨_, rfl, by first | rfl | (simp only [AV.ren]; congr 1; omega), rfl⟩, ⟨_, rfl, by first | rfl | (simp only [AV.ren]; congr 1; omega), rfl⟩, ⟨_, rfl, by first | rfl | (simp only [AV.ren]; congr 1; omega), rfl⟩, ⟨_, rfl, by first | rfl | (simp only [AV.ren]; congr 1; omega), rfl⟩, ⟨_, rfl, by first | rfl | (simp only [AV.ren]; congr 1; omega), rfl⟩, trivial⟩ ⟨⟨_, _, rfl, rfl, rfl, rfl, id, rfl⟩, ⟨_, _, rfl, rfl, rfl, rfl, id, rfl⟩, ⟨_, _, rfl, rfl, rfl, rfl, id, rfl⟩, ⟨_, _, rfl, rfl, rfl, rfl, id, rfl⟩, ⟨_, _, rfl, rfl, rfl, rfl, id, rfl⟩, ⟨_, _, rfl, rfl, rfl, rfl, id, rfl⟩, ⟨_, _, rfl, rfl, rfl, rfl, id, rfl⟩, ⟨_, _, rfl, rfl, rfl, rfl, id, rfl⟩, ⟨_, _, rfl, rfl, rfl, rfl, id, rfl⟩, ⟨_, _, rfl, rfl, rfl, rfl, id, rfl⟩, ⟨_, _, rfl, rfl, rfl, rfl, id, rfl⟩, ⟨_, _, rfl, rfl, rfl, rfl, id, rfl⟩, ⟨_, _, rfl, rfl, rfl, rfl, id, rfl⟩, ⟨_, _, rfl, rfl, rfl, rfl, id, rfl⟩, ⟨_, _, rfl, rfl, rfl, rfl, id, rfl⟩, ⟨_, _, rfl, rfl, rfl, rfl, id, rfl⟩, ⟨_, _, rfl, rfl, rfl, rfl, id, rfl⟩, ⟨_, _, rfl, rfl, rfl, rfl, id, rfl⟩, ⟨_, _, rfl, rfl, rfl, rfl, id, rfl⟩, ⟨_, _, rfl, rfl, rfl, rfl, id, rfl⟩, ⟨_, _, rfl, rfl, rfl, rfl, id, rfl⟩, ⟨_, _, rfl, rfl, rfl, rfl, id, rfl⟩, ⟨_, _, rfl, rfl, rfl, rfl, id, rfl⟩, ⟨_, _, rfl, rfl, rfl, rfl, id, rfl⟩, ⟨_, _, rfl, rfl, rfl, rfl, id, rfl⟩, ⟨_, _, rfl, rfl, rfl, rfl, id, rfl⟩, ⟨_, _, rfl, rfl, rfl, rfl, id, rfl⟩, ⟨_, _, rfl, rfl, rfl, rfl, id, rfl⟩, ⟨_, _, rfl, rfl, rfl, rfl, id, rfl⟩, ⟨_, _, rfl, rfl, rfl, rfl, id, rfl⟩, ⟨_, _, rfl, rfl, rfl, rfl, id, rfl⟩, ⟨_, _, rfl, rfl, rfl, rfl, id, rfl⟩, ⟨_, _, rfl, rfl, rfl, rfl, id, rfl⟩, ⟨_, _, rfl, rfl, rfl, rfl, id, rfl⟩, ⟨_, _, rfl, rfl, rfl, rfl, id, rfl⟩, ⟨_, _, rfl, rfl, rfl, rfl, id, rfl⟩, ⟨_, _, rfl, rfl, rfl, rfl, id, rfl⟩, ⟨_, _, rfl, rfl, rfl, rfl, id, rfl⟩, ⟨_, _, rfl, rfl, rfl, rfl, id, rfl⟩, ⟨_, _, rfl, rfl, rfl, rfl, id, rfl⟩, ⟨_, _, rfl, rfl, rfl, rfl, id, rfl⟩, ⟨_, _, rfl, rfl, rfl, rfl, id, rfl⟩, ⟨_, _, rfl, rfl, rfl, rfl, id, rfl⟩, ⟨_, _, rfl, rfl, rfl, rfl, id, rfl⟩, ⟨_, _, rfl, rfl, offC_ren _ o (rowsC_flat (fun _ => rfl) l), rfl, id, offC_nm _ o (rowsC_flat (fun _ => rfl) l)⟩, trivial⟩) ?_
      rintro ⟨k, hk0⟩
      dsimp only
      refine .seq ?_
      refine .region ?_
      refine .q (op_cmpI rfl rfl rfl) trivial rfl ?_
      refine .nil ?_
      show Ev _ _ _ _ _
      refine .seq ?_
      refine .cond_false rfl (decide_eq_false (by omega)) ?_
      refine .exit ?_
      show Ev _ _ _ _ _
      refine .region ?_
      refine .q (op_move rfl) trivial rfl ?_
      refine .q (op_addI rfl rfl ⟨by omega, by omega⟩) trivial rfl ?_
      refine .q (op_assign rfl) trivial rfl ?_
      refine .nil ?_
      exact ⟨⟨i + 1, q, by omega, by omega⟩, by show 100 - (i + 1) < 100 - i; omega, StLe.mk [(1000, 1000), (1001, 1001), (1008, 1008), (1009, 1009)] rfl rfl ⟨⟨_, rfl, by first | rfl | (simp only [AV.ren]; congr 1; omega), rfl⟩, ⟨_, rfl, by first | rfl | (simp only [AV.ren]; congr 1; omega), rfl⟩, ⟨_, rfl, by first | rfl | (simp only [AV.ren]; congr 1; omega), rfl⟩, ⟨_, rfl, by first | rfl | (simp only [AV.ren]; congr 1; omega), rfl⟩, trivial⟩ ⟨⟨_, _, rfl, rfl, rfl, rfl, id, rfl⟩, ⟨_, _, rfl, rfl, rfl, rfl, id, rfl⟩, ⟨_, _, rfl, rfl, rfl, rfl, id, rfl⟩, ⟨_, _, rfl, rfl, rfl, rfl, id, rfl⟩, ⟨_, _, rfl, rfl, rfl, rfl, id, rfl⟩, ⟨_, _, rfl, rfl, rfl, rfl, id, rfl⟩, ⟨_, _, rfl, rfl, rfl, rfl, id, rfl⟩, ⟨_, _, rfl, rfl, rfl, rfl, id, rfl⟩, ⟨_, _, rfl, rfl, rfl, rfl, id, rfl⟩, ⟨_, _, rfl, rfl, rfl, rfl, id, rfl⟩, ⟨_, _, rfl, rfl, rfl, rfl, id, rfl⟩, ⟨_, _, rfl, rfl, rfl, rfl, id, rfl⟩, ⟨_, _, rfl, rfl, rfl, rfl, id, rfl⟩, ⟨_, _, rfl, rfl, rfl, rfl, id, rfl⟩, ⟨_, _, rfl, rfl, rfl, rfl, id, rfl⟩, ⟨_, _, rfl, rfl, rfl, rfl, id, rfl⟩, ⟨_, _, rfl, rfl, rfl, rfl, id, rfl⟩, ⟨_, _, rfl, rfl, rfl, rfl, id, rfl⟩, ⟨_, _, rfl, rfl, rfl, rfl, id, rfl⟩, ⟨_, _, rfl, rfl, rfl, rfl, id, rfl⟩, ⟨_, _, rfl, rfl, rfl, rfl, id, rfl⟩, ⟨_, _, rfl, rfl, rfl, rfl, id, rfl⟩, ⟨_, _, rfl, rfl, rfl, rfl, id, rfl⟩, ⟨_, _, rfl, rfl, rfl, rfl, id, rfl⟩, ⟨_, _, rfl, rfl, rfl, rfl, id, rfl⟩, ⟨_, _, rfl, rfl, rfl, rfl, id, rfl⟩, ⟨_, _, rfl, rfl, rfl, rfl, id, rfl⟩, ⟨_, _, rfl, rfl, rfl, rfl, id, rfl⟩, ⟨_, _, rfl, rfl, rfl, rfl, id, rfl⟩, ⟨_, _, rfl, rfl, rfl, rfl, id, rfl⟩, ⟨_, _, rfl, rfl, rfl, rfl, id, rfl⟩, ⟨_, _, rfl, rfl, rfl, rfl, id, rfl⟩, ⟨_, _, rfl, rfl, rfl, rfl, id, rfl⟩, ⟨_, _, rfl, rfl, rfl, rfl, id, rfl⟩, ⟨_, _, rfl, rfl, rfl, rfl, id, rfl⟩, ⟨_, _, rfl, rfl, rfl, rfl, id, rfl⟩, ⟨_, _, rfl, rfl, rfl, rfl, id, rfl⟩, ⟨_, _, rfl, rfl, rfl, rfl, id, rfl⟩, ⟨_, _, rfl, rfl, rfl, rfl, id, rfl⟩, ⟨_, _, rfl, rfl, rfl, rfl, id, rfl⟩, ⟨_, _, rfl, rfl, rfl, rfl, id, rfl⟩, ⟨_, _, rfl, rfl, rfl, rfl, id, rfl⟩, ⟨_, _, rfl, rfl, rfl, rfl, id, rfl⟩, ⟨_, _, rfl, rfl, rfl, rfl, id, rfl⟩, ⟨_, _, rfl, rfl, offC_ren _ o (rowsC_flat (fun _ => rfl) l), rfl, id, offC_nm _ o (rowsC_flat (fun _ => rfl) l)⟩, trivial⟩⟩
    ·show Ev _ _ _ ⟨[(2, .sl 450 o l.length 5), (8, .ptr 1000 0), (9, .ptr 1008 0), (10, .i64 ((i : Nat) : Int)), (21, .sl 1016 0 F.length 5), (150, .fsl (lsC q.La) q.La.length 5), (151, .i64 ((q.La.length : Nat) : Int)), (152, .i64 ((j : Nat) : Int))], [(1000, some ⟨.agg [.i64 (min (max ca 0) 64), .i64 4096, .i64 (min (max cc 1) 1073741824), .mp 1001, .i64 q.ea], 68, true⟩), (1001, some ⟨mpV q.Ma q.ka, 0, true⟩), (1008, some ⟨.agg [.i64 (min (max ca 0) 64), .i64 4096, .i64 (min (max cc 1) 1073741824), .mp 1009, .i64 q.eb], 68, true⟩), (1009, some ⟨mpV q.Mb q.kb, 0, true⟩), (1016, some ⟨.agg (lsC F), 45, true⟩), (3, some ⟨.agg [.err 155 (1) (offE eo (1))], errT, false⟩), (4, some ⟨.agg [.err 155 (2) (offE eo (2))], errT, false⟩), (5, some ⟨.agg [.err 155 (3) (offE eo (3))], errT, false⟩), (6, some ⟨.agg [.err 155 (4) (offE eo (4))], errT, false⟩), (7, some ⟨.agg [.err 155 (5) (offE eo (5))], errT, false⟩), (8, some ⟨.agg [.err 155 (6) (offE eo (6))], errT, false⟩), (9, some ⟨.agg [.err 155 (7) (offE eo (7))], errT, false⟩), (2, some ⟨.agg [.err 155 (8) (offE eo (8))], errT, false⟩), (1, some ⟨.agg [.err 155 (9) (offE eo (9))], errT, false⟩), (10, some ⟨.agg [.err 155 (10) (offE eo (10))], errT, false⟩), (11, some ⟨.agg [.err 155 (11) (offE eo (11))], errT, false⟩), (12, some ⟨.agg [.err 155 (12) (offE eo (12))], errT, false⟩), (13, some ⟨.agg [.err 155 (13) (offE eo (13))], errT, false⟩), (14, some ⟨.agg [.err 155 (14) (offE eo (14))], errT, false⟩), (15, some ⟨.agg [.err 155 (15) (offE eo (15))], errT, false⟩), (16, some ⟨.agg [.err 155 (16) (offE eo (16))], errT, false⟩), (0, some ⟨.agg [.err 155 (17) (offE eo (17))], errT, false⟩), (17, some ⟨.agg [.err 155 (18) (offE eo (18))], errT, false⟩), (18, some ⟨.agg [.err 155 (19) (offE eo (19))], errT, false⟩), (19, some ⟨.agg [.err 155 (20) (offE eo (20))], errT, false⟩), (401, some ⟨.agg [], errT, false⟩), (402, some ⟨.agg [], errT, false⟩), (403, some ⟨.agg [], errT, false⟩), (404, some ⟨.agg [], errT, false⟩), (405, some ⟨.agg [], errT, false⟩), (406, some ⟨.agg [], errT, false⟩), (407, some ⟨.agg [], errT, false⟩), (408, some ⟨.agg [], errT, false⟩), (409, some ⟨.agg [], errT, false⟩), (410, some ⟨.agg [], errT, false⟩), (411, some ⟨.agg [], errT, false⟩), (412, some ⟨.agg [], errT, false⟩), (413, some ⟨.agg [], errT, false⟩), (414, some ⟨.agg [], errT, false⟩), (415, some ⟨.agg [], errT, false⟩), (416, some ⟨.agg [], errT, false⟩), (417, some ⟨.agg [], errT, false⟩), (418, some ⟨.agg [], errT, false⟩), (419, some ⟨.agg [], errT, false⟩), (420, some ⟨.agg [], errT, false⟩), (450, some ⟨.agg (offC o (rowsC actL l)), anyT, false⟩)], 1024⟩ _
     replace hE : F ≠ [] := hE
     refine .seq ?_
     refine .region ?_
     refine .q (op_cmpI rfl rfl rfl) trivial rfl ?_
     refine .nil ?_
     show Ev _ _ _ _ _
     refine .seq ?_
     refine .cond rfl (fun hc153 => ?_) (fun hc153 => ?_)
     ·simp only [decide_eq_true_eq, decide_eq_false_iff_not, beq_iff_eq, bne_iff_ne, ne_eq, beq_eq_false_iff_ne, bne_eq_false_iff_eq] at hc153
      refine .skip ?_
      show Ev _ _ _ _ _
      refine .seq ?_
      refine .block ?_
      refine .seq ?_
      refine .region ?_
      have hj : j < q.La.length := by omega
      refine .q (op_indexAddr_fsl Tryd.underlying39 infLease.sz (by decide) rfl rfl (i := j) rfl (hj)) trivial rfl ?_
      refine .q (op_loadRow_fptr (v := lsV (q.La.getD j default)) Tryd.underlying45 rfl infLease.sz rfl rfl (ls_take (hj)) rfl) trivial rfl ?_
      refine .a (op_allocRow zero45 rel_zero45 rfl) trivial rfl ?_
      refine .w (op_storeRow (by kernel_rfl) rfl rfl rfl rfl rfl (rfl) (rfl)) trivial rfl ?_
      refine .nil ?_
      show Ev _ _ _ _ _
      refine .seq ?_
      refine .region ?_
      refine .q (op_fieldAddr (m := 0) Tryd.underlying45 rfl (by kernel_rfl) rfl) trivial rfl ?_
      refine .as (.ptr 1024 0) rfl ?_
      refine .q (op_load Tryd.underlying9 rfl rfl rfl rfl (by show 0 < 5; decide)) trivial rfl ?_
      refine .q (op_eqS rfl rfl rfl) trivial rfl ?_
      refine .nil ?_
      show Ev _ _ _ _ _
      refine .cond rfl (fun hc158 => ?_) (fun hc158 => ?_)
      ·skip
       refine .region ?_
       refine .q (op_move rfl) trivial rfl ?_
       refine .q (op_loadRow Tryd.underlying45 rfl infLease.sz rfl rfl rfl rfl) trivial rfl ?_
       refine .a (op_buildRow (z := 5) (r := lsV (q.La.getD j default)) (cs := Ls.cs (q.La.getD j default)) Tryd.underlying39 infLease (by decide) (by decide) rfl rfl rfl) trivial rfl ?_
       refine .a (ap_append (c' := .agg (lsC (F ++ [q.La.getD j default]))) Tryd.underlying39 Tryd.underlying39 (.inr ⟨_, rfl⟩) infLease rfl rfl rfl rfl (lsC_len F) (srcs_sl (m := 1) (o := 0) rfl rfl (by show 5 ≤ 5; decide)) (lsC_app F [q.La.getD j default]) (by have h1 := congrArg List.length hF; have h2 := flt_le (wd := mineP) (L := q.La) (i := j); have h3 := q.ma.len; omega)) trivial rfl ?_
       refine .q (op_assign rfl) trivial rfl ?_
       refine .nil ?_
       show Ev _ _ _ _ _
       refine .region ?_
       refine .q (op_addI rfl rfl ⟨by have := q.ma.len; omega, by have := q.ma.len; omega⟩) trivial rfl ?_
       refine .q (op_move rfl) trivial rfl ?_
       refine .nil ?_
       exact ⟨.inr ⟨⟨j + 1, F ++ [q.La.getD j default], hj, flt_yes1 hF hj hc158⟩, by simp⟩, by show q.La.length - (j + 1) < q.La.length - j; omega, StLe.mk [(1000, 1000), (1001, 1001), (1008, 1008), (1009, 1009), (1016, 1040)] rfl rfl ⟨⟨_, rfl, by first | rfl | (simp only [AV.ren]; congr 1; omega), rfl⟩, ⟨_, rfl, by first | rfl | (simp only [AV.ren]; congr 1; omega), rfl⟩, ⟨_, rfl, by first | rfl | (simp only [AV.ren]; congr 1; omega), rfl⟩, ⟨_, rfl, by first | rfl | (simp only [AV.ren]; congr 1; omega), rfl⟩, ⟨_, rfl, by exact sl_snoc1 1016 F (q.La.getD j default), rfl⟩, ⟨_, rfl, by first | rfl | (simp only [AV.ren]; congr 1; omega), rfl⟩, ⟨_, rfl, by first | rfl | (simp only [AV.ren]; congr 1; omega), rfl⟩, ⟨_, rfl, by first | rfl | (simp only [AV.ren]; congr 1; omega), rfl⟩, trivial⟩ ⟨⟨_, _, rfl, rfl, rfl, rfl, id, rfl⟩, ⟨_, _, rfl, rfl, rfl, rfl, id, rfl⟩, ⟨_, _, rfl, rfl, rfl, rfl, id, rfl⟩, ⟨_, _, rfl, rfl, rfl, rfl, id, rfl⟩, ⟨_, _, rfl, rfl, by exact lsC_ren _ _, rfl, id, lsC_nm _ _⟩, ⟨_, _, rfl, rfl, rfl, rfl, id, rfl⟩, ⟨_, _, rfl, rfl, rfl, rfl, id, rfl⟩, ⟨_, _, rfl, rfl, rfl, rfl, id, rfl⟩, ⟨_, _, rfl, rfl, rfl, rfl, id, rfl⟩, ⟨_, _, rfl, rfl, rfl, rfl, id, rfl⟩, ⟨_, _, rfl, rfl, rfl, rfl, id, rfl⟩, ⟨_, _, rfl, rfl, rfl, rfl, id, rfl⟩, ⟨_, _, rfl, rfl, rfl, rfl, id, rfl⟩, ⟨_, _, rfl, rfl, rfl, rfl, id, rfl⟩, ⟨_, _, rfl, rfl, rfl, rfl, id, rfl⟩, ⟨_, _, rfl, rfl, rfl, rfl, id, rfl⟩, ⟨_, _, rfl, rfl, rfl, rfl, id, rfl⟩, ⟨_, _, rfl, rfl, rfl, rfl, id, rfl⟩, ⟨_, _, rfl, rfl, rfl, rfl, id, rfl⟩, ⟨_, _, rfl, rfl, rfl, rfl, id, rfl⟩, ⟨_, _, rfl, rfl, rfl, rfl, id, rfl⟩, ⟨_, _, rfl, rfl, rfl, rfl, id, rfl⟩, ⟨_, _, rfl, rfl, rfl, rfl, id, rfl⟩, ⟨_, _, rfl, rfl, rfl, rfl, id, rfl⟩, ⟨_, _, rfl, rfl, rfl, rfl, id, rfl⟩, ⟨_, _, rfl, rfl, rfl, rfl, id, rfl⟩, ⟨_, _, rfl, rfl, rfl, rfl, id, rfl⟩, ⟨_, _, rfl, rfl, rfl, rfl, id, rfl⟩, ⟨_, _, rfl, rfl, rfl, rfl, id, rfl⟩, ⟨_, _, rfl, rfl, rfl, rfl, id, rfl⟩, ⟨_, _, rfl, rfl, rfl, rfl, id, rfl⟩, ⟨_, _, rfl, rfl, rfl, rfl, id, rfl⟩, ⟨_, _, rfl, rfl, rfl, rfl, id, rfl⟩, ⟨_, _, rfl, rfl, rfl, rfl, id, rfl⟩, ⟨_, _, rfl, rfl, rfl, rfl, id, rfl⟩, ⟨_, _, rfl, rfl, rfl, rfl, id, rfl⟩, ⟨_, _, rfl, rfl, rfl, rfl, id, rfl⟩, ⟨_, _, rfl, rfl, rfl, rfl, id, rfl⟩, ⟨_, _, rfl, rfl, rfl, rfl, id, rfl⟩, ⟨_, _, rfl, rfl, rfl, rfl, id, rfl⟩, ⟨_, _, rfl, rfl, rfl, rfl, id, rfl⟩, ⟨_, _, rfl, rfl, rfl, rfl, id, rfl⟩, ⟨_, _, rfl, rfl, rfl, rfl, id, rfl⟩, ⟨_, _, rfl, rfl, rfl, rfl, id, rfl⟩, ⟨_, _, rfl, rfl, rfl, rfl, id, rfl⟩, ⟨_, _, rfl, rfl, offC_ren _ o (rowsC_flat (fun _ => rfl) l), rfl, id, offC_nm _ o (rowsC_flat (fun _ => rfl) l)⟩, trivial⟩⟩
      ·skip
       refine .skip ?_
       show Ev _ _ _ _ _
       refine .region ?_
       refine .q (op_addI rfl rfl ⟨by have := q.ma.len; omega, by have := q.ma.len; omega⟩) trivial rfl ?_
       refine .q (op_move rfl) trivial rfl ?_
       refine .nil ?_
       exact ⟨.inr ⟨⟨j + 1, F, hj, flt_no1 hF hj hc158⟩, hE⟩, by show q.La.length - (j + 1) < q.La.length - j; omega, StLe.mk [(1000, 1000), (1001, 1001), (1008, 1008), (1009, 1009), (1016, 1016)] rfl rfl ⟨⟨_, rfl, by first | rfl | (simp only [AV.ren]; congr 1; omega), rfl⟩, ⟨_, rfl, by first | rfl | (simp only [AV.ren]; congr 1; omega), rfl⟩, ⟨_, rfl, by first | rfl | (simp only [AV.ren]; congr 1; omega), rfl⟩, ⟨_, rfl, by first | rfl | (simp only [AV.ren]; congr 1; omega), rfl⟩, ⟨_, rfl, by first | rfl | (simp only [AV.ren]; congr 1; omega), rfl⟩, ⟨_, rfl, by first | rfl | (simp only [AV.ren]; congr 1; omega), rfl⟩, ⟨_, rfl, by first | rfl | (simp only [AV.ren]; congr 1; omega), rfl⟩, ⟨_, rfl, by first | rfl | (simp only [AV.ren]; congr 1; omega), rfl⟩, trivial⟩ ⟨⟨_, _, rfl, rfl, rfl, rfl, id, rfl⟩, ⟨_, _, rfl, rfl, rfl, rfl, id, rfl⟩, ⟨_, _, rfl, rfl, rfl, rfl, id, rfl⟩, ⟨_, _, rfl, rfl, rfl, rfl, id, rfl⟩, ⟨_, _, rfl, rfl, by exact lsC_ren _ _, rfl, id, lsC_nm _ _⟩, ⟨_, _, rfl, rfl, rfl, rfl, id, rfl⟩, ⟨_, _, rfl, rfl, rfl, rfl, id, rfl⟩, ⟨_, _, rfl, rfl, rfl, rfl, id, rfl⟩, ⟨_, _, rfl, rfl, rfl, rfl, id, rfl⟩, ⟨_, _, rfl, rfl, rfl, rfl, id, rfl⟩, ⟨_, _, rfl, rfl, rfl, rfl, id, rfl⟩, ⟨_, _, rfl, rfl, rfl, rfl, id, rfl⟩, ⟨_, _, rfl, rfl, rfl, rfl, id, rfl⟩, ⟨_, _, rfl, rfl, rfl, rfl, id, rfl⟩, ⟨_, _, rfl, rfl, rfl, rfl, id, rfl⟩, ⟨_, _, rfl, rfl, rfl, rfl, id, rfl⟩, ⟨_, _, rfl, rfl, rfl, rfl, id, rfl⟩, ⟨_, _, rfl, rfl, rfl, rfl, id, rfl⟩, ⟨_, _, rfl, rfl, rfl, rfl, id, rfl⟩, ⟨_, _, rfl, rfl, rfl, rfl, id, rfl⟩, ⟨_, _, rfl, rfl, rfl, rfl, id, rfl⟩, ⟨_, _, rfl, rfl, rfl, rfl, id, rfl⟩, ⟨_, _, rfl, rfl, rfl, rfl, id, rfl⟩, ⟨_, _, rfl, rfl, rfl, rfl, id, rfl⟩, ⟨_, _, rfl, rfl, rfl, rfl, id, rfl⟩, ⟨_, _, rfl, rfl, rfl, rfl, id, rfl⟩, ⟨_, _, rfl, rfl, rfl, rfl, id, rfl⟩, ⟨_, _, rfl, rfl, rfl, rfl, id, rfl⟩, ⟨_, _, rfl, rfl, rfl, rfl, id, rfl⟩, ⟨_, _, rfl, rfl, rfl, rfl, id, rfl⟩, ⟨_, _, rfl, rfl, rfl, rfl, id, rfl⟩, ⟨_, _, rfl, rfl, rfl, rfl, id, rfl⟩, ⟨_, _, rfl, rfl, rfl, rfl, id, rfl⟩, ⟨_, _, rfl, rfl, rfl, rfl, id, rfl⟩, ⟨_, _, rfl, rfl, rfl, rfl, id, rfl⟩, ⟨_, _, rfl, rfl, rfl, rfl, id, rfl⟩, ⟨_, _, rfl, rfl, rfl, rfl, id, rfl⟩, ⟨_, _, rfl, rfl, rfl, rfl, id, rfl⟩, ⟨_, _, rfl, rfl, rfl, rfl, id, rfl⟩, ⟨_, _, rfl, rfl, rfl, rfl, id, rfl⟩, ⟨_, _, rfl, rfl, rfl, rfl, id, rfl⟩, ⟨_, _, rfl, rfl, rfl, rfl, id, rfl⟩, ⟨_, _, rfl, rfl, rfl, rfl, id, rfl⟩, ⟨_, _, rfl, rfl, rfl, rfl, id, rfl⟩, ⟨_, _, rfl, rfl, rfl, rfl, id, rfl⟩, ⟨_, _, rfl, rfl, offC_ren _ o (rowsC_flat (fun _ => rfl) l), rfl, id, offC_nm _ o (rowsC_flat (fun _ => rfl) l)⟩, trivial⟩⟩
     ·simp only [decide_eq_true_eq, decide_eq_false_iff_not, beq_iff_eq, bne_iff_ne, ne_eq, beq_eq_false_iff_ne, bne_eq_false_iff_eq] at hc153
      refine .exit ?_
      show Ev _ _ _ _ _
      refine .seq ?_
      have hall : F = q.La.filter mineP := by rw [hF]; exact flt_all (by omega)
      have hcn : (q.La.filter mineP).length = q.Lb.length := q.ap.len
      have hb4 := q.mb.len
      have hne : q.Lb ≠ [] := fun e => hE (List.eq_nil_of_length_eq_zero (by rw [hall, hcn, e]; rfl))
      refine .region ?_
      refine .q (op_move rfl) trivial rfl ?_
      refine .a (op_call (U := [(1024, some ⟨.agg (lsC q.Lb), 45, true⟩)]) [(500, 1008), (501, 1009)] [(1024, 1000)] (allW_ev (min (max ca 0) 64) 4096 (min (max cc 1) 1073741824) q.eb q.mb hne) Tryd.func16 (by kernel_rfl) rfl rfl rfl (⟨⟨_, rfl, rfl, rfl⟩, trivial⟩) (⟨⟨_, _, rfl, rfl, rfl, rfl, (fun h => by cases h), rfl⟩, ⟨_, _, rfl, rfl, rfl, rfl, (fun h => by cases h), rfl⟩, trivial⟩) (⟨⟨1000, _, rfl, lsC_blk _ _ _ _, rfl, lsC_nmF _ _ _, .inl rfl⟩, trivial⟩) (⟨(fun h => by cases h), (fun h => by cases h), trivial⟩) rfl) trivial rfl ?_
      refine .q (op_assign rfl) trivial rfl ?_
      refine .nil ?_
      show Ev _ _ _ _ _
      refine .seq ?_
      refine .seq ?_
      refine .region ?_
      refine .q (op_move rfl) trivial rfl ?_
      refine .q (op_len_sl Tryd.underlying39 rfl) trivial rfl ?_
      refine .q (op_move rfl) trivial rfl ?_
      refine .q (op_len_sl Tryd.underlying39 rfl) trivial rfl ?_
      refine .q (op_cmpI rfl rfl rfl) trivial rfl ?_
      refine .as (.bool false) (congrArg AV.bool (by rw [show F.length = q.Lb.length from by rw [hall]; exact hcn]; simp)) ?_
      refine .q (op_move rfl) trivial rfl ?_
      refine .know (b' := false) (rfl) ?_
      refine .q (op_move rfl) ⟨_, rfl, rfl⟩ rfl ?_
      refine .q (op_call (U := []) [(500, 1000), (501, 1001)] [] (count_ev (min (max ca 0) 64) 4096 (min (max cc 1) 1073741824) q.ea q.ma [116]) Tryd.func17 (by kernel_rfl) rfl rfl rfl (⟨⟨_, rfl, rfl, rfl⟩, ⟨_, rfl, rfl, rfl⟩, trivial⟩) (⟨⟨_, _, rfl, rfl, rfl, rfl, (fun h => by cases h), rfl⟩, ⟨_, _, rfl, rfl, rfl, rfl, (fun h => by cases h), rfl⟩, trivial⟩) (trivial) (⟨(fun h => by cases h), (fun h => by cases h), trivial⟩) rfl) ⟨_, rfl, rfl⟩ rfl ?_
      refine .q (op_move rfl) ⟨_, rfl, rfl⟩ rfl ?_
      refine .q (op_len_sl Tryd.underlying39 rfl) ⟨_, rfl, rfl⟩ rfl ?_
      refine .q (op_cmpI rfl rfl rfl) ⟨_, rfl, rfl⟩ rfl ?_
      refine .as (.bool false) (congrArg AV.bool (by have h9 : (q.La.filter (fun x => x.t == [116])).length = q.Lb.length := hcn; rw [h9]; simp)) ?_
      refine .q (op_pick_false rfl rfl rfl) trivial rfl ?_
      refine .nil ?_
      show Ev _ _ _ _ _
      refine .cond_false rfl (rfl) ?_
      refine .skip ?_
      show Ev _ _ _ _ _
      refine .seq ?_
      refine .region ?_
      refine .q (op_move rfl) trivial rfl ?_
      refine .q (op_len_sl Tryd.underlying39 rfl) trivial rfl ?_
      refine .q (op_move rfl) trivial rfl ?_
      refine .nil ?_
      show Ev _ _ _ _ _
      refine .block ?_
      refine Ev.loop (ι := { k : Nat // k ≤ q.Lb.length }) (fun p => ⟨[(2, .sl 450 o l.length 5), (8, .ptr 1000 0), (9, .ptr 1008 0), (10, .i64 ((i : Nat) : Int)), (21, .sl 1016 0 F.length 5), (24, .sl 1024 0 q.Lb.length 5), (179, .i64 ((q.Lb.length : Nat) : Int)), (180, .i64 ((p.1 : Nat) : Int))], [(1000, some ⟨.agg [.i64 (min (max ca 0) 64), .i64 4096, .i64 (min (max cc 1) 1073741824), .mp 1001, .i64 q.ea], 68, true⟩), (1001, some ⟨mpV q.Ma q.ka, 0, true⟩), (1008, some ⟨.agg [.i64 (min (max ca 0) 64), .i64 4096, .i64 (min (max cc 1) 1073741824), .mp 1009, .i64 q.eb], 68, true⟩), (1009, some ⟨mpV q.Mb q.kb, 0, true⟩), (1016, some ⟨.agg (lsC (zN F p.1)), 45, true⟩), (1024, some ⟨.agg (lsC (zN q.Lb p.1)), 45, true⟩), (3, some ⟨.agg [.err 155 (1) (offE eo (1))], errT, false⟩), (4, some ⟨.agg [.err 155 (2) (offE eo (2))], errT, false⟩), (5, some ⟨.agg [.err 155 (3) (offE eo (3))], errT, false⟩), (6, some ⟨.agg [.err 155 (4) (offE eo (4))], errT, false⟩), (7, some ⟨.agg [.err 155 (5) (offE eo (5))], errT, false⟩), (8, some ⟨.agg [.err 155 (6) (offE eo (6))], errT, false⟩), (9, some ⟨.agg [.err 155 (7) (offE eo (7))], errT, false⟩), (2, some ⟨.agg [.err 155 (8) (offE eo (8))], errT, false⟩), (1, some ⟨.agg [.err 155 (9) (offE eo (9))], errT, false⟩), (10, some ⟨.agg [.err 155 (10) (offE eo (10))], errT, false⟩), (11, some ⟨.agg [.err 155 (11) (offE eo (11))], errT, false⟩), (12, some ⟨.agg [.err 155 (12) (offE eo (12))], errT, false⟩), (13, some ⟨.agg [.err 155 (13) (offE eo (13))], errT, false⟩), (14, some ⟨.agg [.err 155 (14) (offE eo (14))], errT, false⟩), (15, some ⟨.agg [.err 155 (15) (offE eo (15))], errT, false⟩), (16, some ⟨.agg [.err 155 (16) (offE eo (16))], errT, false⟩), (0, some ⟨.agg [.err 155 (17) (offE eo (17))], errT, false⟩), (17, some ⟨.agg [.err 155 (18) (offE eo (18))], errT, false⟩), (18, some ⟨.agg [.err 155 (19) (offE eo (19))], errT, false⟩), (19, some ⟨.agg [.err 155 (20) (offE eo (20))], errT, false⟩), (401, some ⟨.agg [], errT, false⟩), (402, some ⟨.agg [], errT, false⟩), (403, some ⟨.agg [], errT, false⟩), (404, some ⟨.agg [], errT, false⟩), (405, some ⟨.agg [], errT, false⟩), (406, some ⟨.agg [], errT, false⟩), (407, some ⟨.agg [], errT, false⟩), (408, some ⟨.agg [], errT, false⟩), (409, some ⟨.agg [], errT, false⟩), (410, some ⟨.agg [], errT, false⟩), (411, some ⟨.agg [], errT, false⟩), (412, some ⟨.agg [], errT, false⟩), (413, some ⟨.agg [], errT, false⟩), (414, some ⟨.agg [], errT, false⟩), (415, some ⟨.agg [], errT, false⟩), (416, some ⟨.agg [], errT, false⟩), (417, some ⟨.agg [], errT, false⟩), (418, some ⟨.agg [], errT, false⟩), (419, some ⟨.agg [], errT, false⟩), (420, some ⟨.agg [], errT, false⟩), (450, some ⟨.agg (offC o (rowsC actL l)), anyT, false⟩)], 1032⟩) (fun p => q.Lb.length - p.1) ⟨0, Nat.zero_le _⟩ (StLe.mk [(1000, 1000), (1001, 1001), (1008, 1008), (1009, 1009), (1016, 1016), (1024, 1024)] rfl rfl ⟨⟨_, rfl, by first | rfl | (simp only [AV.ren]; congr 1; omega), rfl⟩, ⟨_, rfl, by first | rfl | (simp only [AV.ren]; congr 1; omega), rfl⟩, ⟨_, rfl, by first | rfl | (simp only [AV.ren]; congr 1; omega), rfl⟩, ⟨_, rfl, by first | rfl | (simp only [AV.ren]; congr 1; omega), rfl⟩, ⟨_, rfl, by first | rfl | (simp only [AV.ren]; congr 1; omega), rfl⟩, ⟨_, rfl, by first | rfl | (simp only [AV.ren]; congr 1; omega), rfl⟩, ⟨_, rfl, by first | rfl | (simp only [AV.ren]; congr 1; omega), rfl⟩, ⟨_, rfl, by first | rfl | (simp only [AV.ren]; congr 1; omega), rfl⟩, trivial⟩ ⟨⟨_, _, rfl, rfl, rfl, rfl, id, rfl⟩, ⟨_, _, rfl, rfl, rfl, rfl, id, rfl⟩, ⟨_, _, rfl, rfl, rfl, rfl, id, rfl⟩, ⟨_, _, rfl, rfl, rfl, rfl, id, rfl⟩, ⟨_, _, rfl, rfl, by exact lsC_ren _ _, rfl, id, lsC_nm _ _⟩, ⟨_, _, rfl, rfl, by exact lsC_ren _ _, rfl, id, lsC_nm _ _⟩, ⟨_, _, rfl, rfl, rfl, rfl, id, rfl⟩, ⟨_, _, rfl, rfl, rfl, rfl, id, rfl⟩, ⟨_, _, rfl, rfl, rfl, rfl, id, rfl⟩, ⟨_, _, rfl, rfl, rfl, rfl, id, rfl⟩, ⟨_, _, rfl, rfl, rfl, rfl, id, rfl⟩, ⟨_, _, rfl, rfl, rfl, rfl, id, rfl⟩, ⟨_, _, rfl, rfl, rfl, rfl, id, rfl⟩, ⟨_, _, rfl, rfl, rfl, rfl, id, rfl⟩, ⟨_, _, rfl, rfl, rfl, rfl, id, rfl⟩, ⟨_, _, rfl, rfl, rfl, rfl, id, rfl⟩, ⟨_, _, rfl, rfl, rfl, rfl, id, rfl⟩, ⟨_, _, rfl, rfl, rfl, rfl, id, rfl⟩, ⟨_, _, rfl, rfl, rfl, rfl, id, rfl⟩, ⟨_, _, rfl, rfl, rfl, rfl, id, rfl⟩, ⟨_, _, rfl, rfl, rfl, rfl, id, rfl⟩, ⟨_, _, rfl, rfl, rfl, rfl, id, rfl⟩, ⟨_, _, rfl, rfl, rfl, rfl, id, rfl⟩, ⟨_, _, rfl, rfl, rfl, rfl, id, rfl⟩, ⟨_, _, rfl, rfl, rfl, rfl, id, rfl⟩, ⟨_, _, rfl, rfl, rfl, rfl, id, rfl⟩, ⟨_, _, rfl, rfl, rfl, rfl, id, rfl⟩, ⟨_, _, rfl, rfl, rfl, rfl, id, rfl⟩, ⟨_, _, rfl, rfl, rfl, rfl, id, rfl⟩, ⟨_, _, rfl, rfl, rfl, rfl, id, rfl⟩, ⟨_, _, rfl, rfl, rfl, rfl, id, rfl⟩, ⟨_, _, rfl, rfl, rfl, rfl, id, rfl⟩, ⟨_, _, rfl, rfl, rfl, rfl, id, rfl⟩, ⟨_, _, rfl, rfl, rfl, rfl, id, rfl⟩, ⟨_, _, rfl, rfl, rfl, rfl, id, rfl⟩, ⟨_, _, rfl, rfl, rfl, rfl, id, rfl⟩, ⟨_, _, rfl, rfl, rfl, rfl, id, rfl⟩, ⟨_, _, rfl, rfl, rfl, rfl, id, rfl⟩, ⟨_, _, rfl, rfl, rfl, rfl, id, rfl⟩, ⟨_, _, rfl, rfl, rfl, rfl, id, rfl⟩, ⟨_, _, rfl, rfl, rfl, rfl, id, rfl⟩, ⟨_, _, rfl, rfl, rfl, rfl, id, rfl⟩, ⟨_, _, rfl, rfl, rfl, rfl, id, rfl⟩, ⟨_, _, rfl, rfl, rfl, rfl, id, rfl⟩, ⟨_, _, rfl, rfl, rfl, rfl, id, rfl⟩, ⟨_, _, rfl, rfl, rfl, rfl, id, rfl⟩, ⟨_, _, rfl, rfl, offC_ren _ o (rowsC_flat (fun _ => rfl) l), rfl, id, offC_nm _ o (rowsC_flat (fun _ => rfl) l)⟩, trivial⟩) ?_
      rintro ⟨k, hk0⟩
      dsimp only
      refine .seq ?_
      refine .region ?_
      refine .q (op_cmpI rfl rfl rfl) trivial rfl ?_
      refine .nil ?_
      show Ev _ _ _ _ _
      refine .seq ?_
      refine .cond rfl (fun hc181 => ?_) (fun hc181 => ?_)
      ·simp only [decide_eq_true_eq, decide_eq_false_iff_not, beq_iff_eq, bne_iff_ne, ne_eq, beq_eq_false_iff_ne, bne_eq_false_iff_eq] at hc181
       refine .skip ?_
       show Ev _ _ _ _ _
       refine .seq ?_
       refine .block ?_
       refine .seq ?_
       refine .region ?_
       have hk : k < q.Lb.length := by omega
       have hkF : k < F.length := by have h1 : F.length = q.Lb.length := (by rw [hall]; exact hcn); omega
       refine .q (op_move rfl) trivial rfl ?_
       refine .q (op_assign rfl) trivial rfl ?_
       refine .nil ?_
       show Ev _ _ _ _ _
       refine .seq ?_
       refine .region ?_
       refine .q (op_move rfl) trivial rfl ?_
       refine .q (op_move rfl) trivial rfl ?_
       refine .q (op_move rfl) trivial rfl ?_
       refine .q (op_move rfl) trivial rfl ?_
       refine .q (op_indexAddr (z := 5) Tryd.underlying39 infLease.sz rfl rfl rfl hkF) trivial rfl ?_
       refine .q (op_fieldAddr (m := 0) Tryd.underlying45 rfl (by kernel_rfl) rfl) trivial rfl ?_
       refine .as (.ptr 1016 (0 + k * 5 + 3)) rfl ?_
       refine .w (op_store (c' := .agg (lsC (zN F (k + 1)))) (by kernel_rfl) rfl rfl rfl rfl (zN_put hkF) (zN_lt hkF)) trivial rfl ?_
       refine .q (op_indexAddr (z := 5) Tryd.underlying39 infLease.sz rfl rfl rfl hk) trivial rfl ?_
       refine .q (op_fieldAddr (m := 0) Tryd.underlying45 rfl (by kernel_rfl) rfl) trivial rfl ?_
       refine .as (.ptr 1024 (0 + k * 5 + 3)) rfl ?_
       refine .w (op_store (c' := .agg (lsC (zN q.Lb (k + 1)))) (by kernel_rfl) rfl rfl rfl rfl (zN_put hk) (zN_lt hk)) trivial rfl ?_
       refine .nil ?_
       show Ev _ _ _ _ _
       refine .seq ?_
       refine .drawnF [[], [], [0, 1], [0, 1, 2], [], [], [4, 5], [4, 5, 6], [0, 1, 2, 3, 4, 5, 6, 7]] [3, 7] [] [(3, ([1016], [])), (7, ([1024], []))] (by kernel_rfl) (by kernel_rfl) rfl ?_
       show DK _ [0, 1, 2, 3, 4, 5, 6, 7, 8] _ _ _
       refine .q rfl (op_move rfl) trivial ?_
       refine .q rfl (op_move rfl) trivial ?_
       refine .q rfl (op_indexAddr (z := 5) Tryd.underlying39 infLease.sz rfl rfl rfl hkF) trivial ?_
       refine .q rfl (op_loadPart (m := 5) (r := lsV (zE (F.getD k default))) (cs := (zE (F.getD k default)).cs) Tryd.underlying45 rfl infLease.sz rfl rfl rfl rfl (zN_part hkF) (zN_room hkF)) trivial ?_
       refine .q rfl (op_move rfl) trivial ?_
       refine .q rfl (op_move rfl) trivial ?_
       refine .q rfl (op_indexAddr (z := 5) Tryd.underlying39 infLease.sz rfl rfl rfl hk) trivial ?_
       refine .q rfl (op_loadPart (m := 5) (r := lsV (zE (q.Lb.getD k default))) (cs := (zE (q.Lb.getD k default)).cs) Tryd.underlying45 rfl infLease.sz rfl rfl rfl rfl (zN_part hk) (zN_room hk)) trivial ?_
       refine .q rfl (op_neqLsQ (p := zE (F.getD k default)) (q := zE (q.Lb.getD k default)) rfl rfl) trivial ?_
       refine .as (.bool false) (congrArg AV.bool (by rw [show zE (F.getD k default) = zE (q.Lb.getD k default) from by rw [hall]; exact zE_at q.ap.eq hk]; simp)) ?_
       refine .nil ?_
       show Ev _ _ _ _ _
       refine .cond_false rfl (rfl) ?_
       refine .skip ?_
       show Ev _ _ _ _ _
       refine .region ?_
       refine .q (op_addI rfl rfl ⟨by omega, by omega⟩) trivial rfl ?_
       refine .q (op_move rfl) trivial rfl ?_
       refine .nil ?_
       exact ⟨⟨k + 1, hk⟩, by show q.Lb.length - (k + 1) < q.Lb.length - k; omega, StLe.mk [(1000, 1000), (1001, 1001), (1008, 1008), (1009, 1009), (1016, 1016), (1024, 1024)] rfl rfl ⟨⟨_, rfl, by first | rfl | (simp only [AV.ren]; congr 1; omega), rfl⟩, ⟨_, rfl, by first | rfl | (simp only [AV.ren]; congr 1; omega), rfl⟩, ⟨_, rfl, by first | rfl | (simp only [AV.ren]; congr 1; omega), rfl⟩, ⟨_, rfl, by first | rfl | (simp only [AV.ren]; congr 1; omega), rfl⟩, ⟨_, rfl, by first | rfl | (simp only [AV.ren]; congr 1; omega), rfl⟩, ⟨_, rfl, by first | rfl | (simp only [AV.ren]; congr 1; omega), rfl⟩, ⟨_, rfl, by first | rfl | (simp only [AV.ren]; congr 1; omega), rfl⟩, ⟨_, rfl, by first | rfl | (simp only [AV.ren]; congr 1; omega), rfl⟩, trivial⟩ ⟨⟨_, _, rfl, rfl, rfl, rfl, id, rfl⟩, ⟨_, _, rfl, rfl, rfl, rfl, id, rfl⟩, ⟨_, _, rfl, rfl, rfl, rfl, id, rfl⟩, ⟨_, _, rfl, rfl, rfl, rfl, id, rfl⟩, ⟨_, _, rfl, rfl, by exact lsC_ren _ _, rfl, id, lsC_nm _ _⟩, ⟨_, _, rfl, rfl, by exact lsC_ren _ _, rfl, id, lsC_nm _ _⟩, ⟨_, _, rfl, rfl, rfl, rfl, id, rfl⟩, ⟨_, _, rfl, rfl, rfl, rfl, id, rfl⟩, ⟨_, _, rfl, rfl, rfl, rfl, id, rfl⟩, ⟨_, _, rfl, rfl, rfl, rfl, id, rfl⟩, ⟨_, _, rfl, rfl, rfl, rfl, id, rfl⟩, ⟨_, _, rfl, rfl, rfl, rfl, id, rfl⟩, ⟨_, _, rfl, rfl, rfl, rfl, id, rfl⟩, ⟨_, _, rfl, rfl, rfl, rfl, id, rfl⟩, ⟨_, _, rfl, rfl, rfl, rfl, id, rfl⟩, ⟨_, _, rfl, rfl, rfl, rfl, id, rfl⟩, ⟨_, _, rfl, rfl, rfl, rfl, id, rfl⟩, ⟨_, _, rfl, rfl, rfl, rfl, id, rfl⟩, ⟨_, _, rfl, rfl, rfl, rfl, id, rfl⟩, ⟨_, _, rfl, rfl, rfl, rfl, id, rfl⟩, ⟨_, _, rfl, rfl, rfl, rfl, id, rfl⟩, ⟨_, _, rfl, rfl, rfl, rfl, id, rfl⟩, ⟨_, _, rfl, rfl, rfl, rfl, id, rfl⟩, ⟨_, _, rfl, rfl, rfl, rfl, id, rfl⟩, ⟨_, _, rfl, rfl, rfl, rfl, id, rfl⟩, ⟨_, _, rfl, rfl, rfl, rfl, id, rfl⟩, ⟨_, _, rfl, rfl, rfl, rfl, id, rfl⟩, ⟨_, _, rfl, rfl, rfl, rfl, id, rfl⟩, ⟨_, _, rfl, rfl, rfl, rfl, id, rfl⟩, ⟨_, _, rfl, rfl, rfl, rfl, id, rfl⟩, ⟨_, _, rfl, rfl, rfl, rfl, id, rfl⟩, ⟨_, _, rfl, rfl, rfl, rfl, id, rfl⟩, ⟨_, _, rfl, rfl, rfl, rfl, id, rfl⟩, ⟨_, _, rfl, rfl, rfl, rfl, id, rfl⟩, ⟨_, _, rfl, rfl, rfl, rfl, id, rfl⟩, ⟨_, _, rfl, rfl, rfl, rfl, id, rfl⟩, ⟨_, _, rfl, rfl, rfl, rfl, id, rfl⟩, ⟨_, _, rfl, rfl, rfl, rfl, id, rfl⟩, ⟨_, _, rfl, rfl, rfl, rfl, id, rfl⟩, ⟨_, _, rfl, rfl, rfl, rfl, id, rfl⟩, ⟨_, _, rfl, rfl, rfl, rfl, id, rfl⟩, ⟨_, _, rfl, rfl, rfl, rfl, id, rfl⟩, ⟨_, _, rfl, rfl, rfl, rfl, id, rfl⟩, ⟨_, _, rfl, rfl, rfl, rfl, id, rfl⟩, ⟨_, _, rfl, rfl, rfl, rfl, id, rfl⟩, ⟨_, _, rfl, rfl, rfl, rfl, id, rfl⟩, ⟨_, _, rfl, rfl, offC_ren _ o (rowsC_flat (fun _ => rfl) l), rfl, id, offC_nm _ o (rowsC_flat (fun _ => rfl) l)⟩, trivial⟩⟩
      ·simp only [decide_eq_true_eq, decide_eq_false_iff_not, beq_iff_eq, bne_iff_ne, ne_eq, beq_eq_false_iff_ne, bne_eq_false_iff_eq] at hc181
       refine .exit ?_
       show Ev _ _ _ _ _
       refine .region ?_
       refine .q (op_move rfl) trivial rfl ?_
       refine .q (op_addI rfl rfl ⟨by omega, by omega⟩) trivial rfl ?_
       refine .q (op_assign rfl) trivial rfl ?_
       refine .nil ?_
       exact ⟨⟨i + 1, q, by omega, by omega⟩, by show 100 - (i + 1) < 100 - i; omega, StLe.mk [(1000, 1000), (1001, 1001), (1008, 1008), (1009, 1009)] rfl rfl ⟨⟨_, rfl, by first | rfl | (simp only [AV.ren]; congr 1; omega), rfl⟩, ⟨_, rfl, by first | rfl | (simp only [AV.ren]; congr 1; omega), rfl⟩, ⟨_, rfl, by first | rfl | (simp only [AV.ren]; congr 1; omega), rfl⟩, ⟨_, rfl, by first | rfl | (simp only [AV.ren]; congr 1; omega), rfl⟩, trivial⟩ ⟨⟨_, _, rfl, rfl, rfl, rfl, id, rfl⟩, ⟨_, _, rfl, rfl, rfl, rfl, id, rfl⟩, ⟨_, _, rfl, rfl, rfl, rfl, id, rfl⟩, ⟨_, _, rfl, rfl, rfl, rfl, id, rfl⟩, ⟨_, _, rfl, rfl, rfl, rfl, id, rfl⟩, ⟨_, _, rfl, rfl, rfl, rfl, id, rfl⟩, ⟨_, _, rfl, rfl, rfl, rfl, id, rfl⟩, ⟨_, _, rfl, rfl, rfl, rfl, id, rfl⟩, ⟨_, _, rfl, rfl, rfl, rfl, id, rfl⟩, ⟨_, _, rfl, rfl, rfl, rfl, id, rfl⟩, ⟨_, _, rfl, rfl, rfl, rfl, id, rfl⟩, ⟨_, _, rfl, rfl, rfl, rfl, id, rfl⟩, ⟨_, _, rfl, rfl, rfl, rfl, id, rfl⟩, ⟨_, _, rfl, rfl, rfl, rfl, id, rfl⟩, ⟨_, _, rfl, rfl, rfl, rfl, id, rfl⟩, ⟨_, _, rfl, rfl, rfl, rfl, id, rfl⟩, ⟨_, _, rfl, rfl, rfl, rfl, id, rfl⟩, ⟨_, _, rfl, rfl, rfl, rfl, id, rfl⟩, ⟨_, _, rfl, rfl, rfl, rfl, id, rfl⟩, ⟨_, _, rfl, rfl, rfl, rfl, id, rfl⟩, ⟨_, _, rfl, rfl, rfl, rfl, id, rfl⟩, ⟨_, _, rfl, rfl, rfl, rfl, id, rfl⟩, ⟨_, _, rfl, rfl, rfl, rfl, id, rfl⟩, ⟨_, _, rfl, rfl, rfl, rfl, id, rfl⟩, ⟨_, _, rfl, rfl, rfl, rfl, id, rfl⟩, ⟨_, _, rfl, rfl, rfl, rfl, id, rfl⟩, ⟨_, _, rfl, rfl, rfl, rfl, id, rfl⟩, ⟨_, _, rfl, rfl, rfl, rfl, id, rfl⟩, ⟨_, _, rfl, rfl, rfl, rfl, id, rfl⟩, ⟨_, _, rfl, rfl, rfl, rfl, id, rfl⟩, ⟨_, _, rfl, rfl, rfl, rfl, id, rfl⟩, ⟨_, _, rfl, rfl, rfl, rfl, id, rfl⟩, ⟨_, _, rfl, rfl, rfl, rfl, id, rfl⟩, ⟨_, _, rfl, rfl, rfl, rfl, id, rfl⟩, ⟨_, _, rfl, rfl, rfl, rfl, id, rfl⟩, ⟨_, _, rfl, rfl, rfl, rfl, id, rfl⟩, ⟨_, _, rfl, rfl, rfl, rfl, id, rfl⟩, ⟨_, _, rfl, rfl, rfl, rfl, id, rfl⟩, ⟨_, _, rfl, rfl, rfl, rfl, id, rfl⟩, ⟨_, _, rfl, rfl, rfl, rfl, id, rfl⟩, ⟨_, _, rfl, rfl, rfl, rfl, id, rfl⟩, ⟨_, _, rfl, rfl, rfl, rfl, id, rfl⟩, ⟨_, _, rfl, rfl, rfl, rfl, id, rfl⟩, ⟨_, _, rfl, rfl, rfl, rfl, id, rfl⟩, ⟨_, _, rfl, rfl, offC_ren _ o (rowsC_flat (fun _ => rfl) l), rfl, id, offC_nm _ o (rowsC_flat (fun _ => rfl) l)⟩, trivial⟩⟩
  ·simp only [decide_eq_true_eq, decide_eq_false_iff_not, beq_iff_eq, bne_iff_ne, ne_eq, beq_eq_false_iff_ne, bne_eq_false_iff_eq] at hc48
   refine .exit ?_
   show Ev _ _ _ _ _
   refine .seq ?_
   refine .region ?_
   refine .q (op_assign rfl) trivial rfl ?_
   refine .nil ?_
   show Ev _ _ _ _ _
   refine .ret ?_
   show RetOk _ _ _ _ _ _ _
   exact ret1v rfl (.inl rfl) rfl (rfl) trivial
 ·simp only [decide_eq_true_eq, decide_eq_false_iff_not, beq_iff_eq, bne_iff_ne, ne_eq, beq_eq_false_iff_ne, bne_eq_false_iff_eq] at hg45
  refine .no ⟨_, rfl, rfl⟩ rfl ?_
  refine .no ⟨_, rfl, rfl⟩ rfl ?_
  refine .q (op_pick_false rfl rfl rfl) trivial rfl ?_
  refine .nil ?_
  show Ev _ _ _ _ _
  refine .cond_false rfl rfl ?_
  refine .exit ?_
  show Ev _ _ _ _ _
  refine .seq ?_
  refine .region ?_
  refine .q (op_assign rfl) trivial rfl ?_
  refine .nil ?_
  show Ev _ _ _ _ _
  refine .ret ?_
  show RetOk _ _ _ _ _ _ _
  exact ret1v rfl (.inl rfl) rfl (rfl) trivial
end Go.Proofs.YticickigndgpcaaDoor
namespace Go.Proofs.YticickigndgpcaaDoor
open Go.ChangeShapes Go.WideShapes Go.ChangeAt Go.RowKit
set_option maxRecDepth 100000 in
theorem leaseApart_all {H : Type} {enc : TypeId × Value → H} (ca cc : Int) {v : Value} {d : DataW H} {ps : List MemPlace} (W : World) {b0 : Nat} (hv : Value.okWide Tryd.prog W .any b0 27 v)
  (ht : DataW.Trod enc Tryd.prog W 0 (fun _ => true) true 27 v d ps) (h : laidMet Tryd.prog Rows.leaseApartRow.laid W) :
  Calls Tryd.prog 6 #[.int .i64 ca, .int .i64 cc, v] W fun e W' => e = .returned (.bool true) ∧ Below W.heap.size W W' := by
 obtain ⟨eo, hd, hkn⟩ := laid_errs h
 have c5 : Tryd.prog.cellsOf 37 = 5 := by kernel_rfl
 have ci : Tryd.prog.cellsOf 3 = 1 := by kernel_rfl
 have cs_ : Tryd.prog.cellsOf 9 = 1 := by kernel_rfl
 obtain ⟨l, b, o, hl, hr, hb⟩ := actl_arg (P := Tryd.prog) (W := W) (eo := eo) Tryd.underlying27 Tryd.underlying37 c5 rfl rfl rfl rfl rfl rfl rfl rfl rfl rfl Tryd.underlying3 Tryd.underlying9 ci cs_ hv ht (blk_of hkn)
 refine walk_of_meets_at (argE W eo b) (argE_glob _ _ _) (argE_top _ _ _) (leaseApart_ev eo hd ca cc o l hl) rfl (fun i x y hx hy => ?_) (known.spec (known_app (known.mono (argE_le W eo b) hkn) ⟨⟨rfl, b, sizeAt W b, argE_450 W eo b, hb⟩, trivial⟩))
 match i, hx, hy with
 | 0, hx, hy => injection hx with hx; injection hy with hy; subst hx; subst hy; exact .i64 _
 | 1, hx, hy => injection hx with hx; injection hy with hy; subst hx; subst hy; exact .i64 _
 | 2, hx, hy => injection hx with hx; injection hy with hy; subst hx; subst hy; exact hr
 | i + 3, hx, _ => simp at hx
end Go.Proofs.YticickigndgpcaaDoor
