/-
  Texts of this claim.
-/
import Derived.Test.YtenocbhlbgcnfaaDoorGTJ
import Derived.Test.YtenocbhlbgcnfaaDoorGTY
import Derived.Test.YtenocbhlbgcnfaaDoorGTS
import Derived.Test.YtenocbhlbgcnfaaDoorGTO
namespace Go.Proofs.YtenocbhlbgcnfaaDoor
open Go.RowKit
theorem get_names {l : List (List (List UInt8))} {k : Nat} (h : k < l.length) : ((l.map AV.dsl).drop (k * 1))[0]? = some (.dsl (l.getD k [])) := by
  rw [List.getElem?_drop, Nat.mul_one, Nat.add_zero, List.getElem?_map, List.getElem?_eq_getElem h]; simp [List.getD, List.getElem?_eq_getElem h]
theorem all_nth {l : List (List UInt8)} (h : l.all nameOk = true) {j : Nat} (hj : j < l.length) : nameOk (l.getD j []) = true := by
  rw [show l.getD j [] = l[j] by simp [List.getD_eq_getElem?_getD, hj]]
  exact List.all_eq_true.1 h _ (List.getElem_mem hj)
theorem join_bounds {l : List (List UInt8)} (h : (joinB l).length ≤ 4096) : l.length ≤ 4097 ∧ sumB l ≤ 4096 := by
  rw [joinB_len] at h; omega
set_option maxRecDepth 100000 in
theorem toolong_f (k : Int) (us : List UInt32) (ss : List (List UInt8)) (ns : List (List (List UInt8))) (bs : List Bool) (hnl : ns.length ≤ 1000) (hsl : ss.length ≤ 1000) (hss : ∀ i, (ss.getD i []).length ≤ 32768) (hnj : ∀ i, (joinB (ns.getD i [])).length ≤ 4096) : Meets Tryd.prog 19 [.agg [.i64 k, .fsl (List.map AV.u32 us) (us).length 1, .dsl ss, .fsl (List.map AV.dsl ns) (ns).length 1, .fsl (List.map AV.bool bs) (bs).length 1]] [] (.bool false) [] := by
 refine meets_of_ev (nt := 30) Tryd.func19 rfl rfl (Nat.le_of_ble_eq_true rfl) ?_
 refine .seq ?_
 refine .region ?_
 refine .a (op_boxRow rfl rfl) trivial rfl ?_
 refine .q (op_assign rfl) trivial rfl ?_
 refine .nil ?_
 show Ev _ _ _ _ _
 refine .seq ?_
 refine .seq ?_
 refine .region ?_
 refine .q (op_fieldAddr (m := 0) Tryd.underlying30 rfl (by kernel_rfl) rfl) trivial rfl ?_
 refine .as (.ptr 1000 2) rfl ?_
 refine .q (op_load Tryd.underlying23 rfl rfl rfl rfl (by show 2 < 5; decide)) trivial rfl ?_
 refine .q (op_len_dsl Tryd.underlying23 rfl) trivial rfl ?_
 refine .q (op_move rfl) trivial rfl ?_
 refine .nil ?_
 show Ev _ _ _ _ _
 refine .block ?_
 refine Ev.loop (ι := { i : Nat // i ≤ ss.length }) (fun q => ⟨[(1, .ptr 1000 0), (8, .dsl ss), (9, .i64 ((ss.length : Nat) : Int)), (10, .i64 ((q.1 : Nat) : Int))], [(1000, some ⟨.agg [.i64 k, .fsl (List.map AV.u32 us) (us).length 1, .dsl ss, .fsl (List.map AV.dsl ns) (ns).length 1, .fsl (List.map AV.bool bs) (bs).length 1], 30, true⟩)], 1008⟩) (fun q => ss.length - q.1) ⟨0, Nat.zero_le _⟩ (StLe.mk [(1000, 1000)] rfl rfl ⟨⟨_, rfl, by first | rfl | (simp only [AV.ren]; congr 1; omega), rfl⟩, ⟨_, rfl, by first | rfl | (simp only [AV.ren]; congr 1; omega), rfl⟩, ⟨_, rfl, by first | rfl | (simp only [AV.ren]; congr 1; omega), rfl⟩, ⟨_, rfl, by first | rfl | (simp only [AV.ren]; congr 1; omega), rfl⟩, trivial⟩ ⟨⟨_, _, rfl, rfl, rfl, rfl, id, rfl⟩, trivial⟩) ?_
 rintro ⟨i, hi⟩
 try dsimp only
 refine .seq ?_
 refine .region ?_
 refine .q (op_cmpI rfl rfl rfl) trivial rfl ?_
 refine .nil ?_
 show Ev _ _ _ _ _
 refine .seq ?_
 refine .cond rfl (fun hc11 => ?_) (fun hc11 => ?_)
 ·first | replace hc11 := of_decide_eq_true hc11 | replace hc11 := of_decide_eq_false hc11 | replace hc11 := eq_of_beq hc11 | replace hc11 := ne_of_beq_false hc11 | simp only [bne_iff_ne, ne_eq] at hc11 | simp only [bne_eq_false_iff_eq] at hc11
  refine .skip ?_
  show Ev _ _ _ _ _
  refine .seq ?_
  refine .block ?_
  refine .seq ?_
  refine .region ?_
  refine .q (op_indexAddr_dsl Tryd.underlying23 inf9.sz rfl rfl rfl (by first | omega | (simp only [AV.len]; omega) | (simp only [AV.len, List.length_set]; omega) | assumption | (simp [AV.len]; done))) trivial rfl ?_
  refine .q (op_load_dptr Tryd.underlying9 rfl rfl (drop_get (by omega))) trivial rfl ?_
  refine .q (op_assign rfl) trivial rfl ?_
  refine .nil ?_
  show Ev _ _ _ _ _
  refine .seq ?_
  refine .region ?_
  refine .q (op_move rfl) trivial rfl ?_
  refine .q (op_len_str Tryd.underlying9 rfl) trivial rfl ?_
  refine .q (op_cmpI rfl rfl rfl) trivial rfl ?_
  refine .nil ?_
  show Ev _ _ _ _ _
  refine .cond_false rfl (decide_eq_false (by have := hss i; omega)) ?_
  refine .skip ?_
  show Ev _ _ _ _ _
  refine .region ?_
  refine .q (op_addI rfl rfl ⟨by first | omega | (simp only [AV.len]; omega) | (simp only [AV.len, List.length_set]; omega) | assumption | (simp [AV.len]; done), by first | omega | (simp only [AV.len]; omega) | (simp only [AV.len, List.length_set]; omega) | assumption | (simp [AV.len]; done)⟩) trivial rfl ?_
  refine .q (op_move rfl) trivial rfl ?_
  refine .nil ?_
  exact ⟨⟨i + 1, by omega⟩, by (try dsimp only); omega, StLe.mk [(1000, 1000)] rfl rfl ⟨⟨_, rfl, by first | rfl | (simp only [AV.ren]; congr 1; omega), rfl⟩, ⟨_, rfl, by first | rfl | (simp only [AV.ren]; congr 1; omega), rfl⟩, ⟨_, rfl, by first | rfl | (simp only [AV.ren]; congr 1; omega), rfl⟩, ⟨_, rfl, by first | rfl | (simp only [AV.ren]; congr 1; omega), rfl⟩, trivial⟩ ⟨⟨_, _, rfl, rfl, rfl, rfl, id, rfl⟩, trivial⟩⟩
 ·first | replace hc11 := of_decide_eq_true hc11 | replace hc11 := of_decide_eq_false hc11 | replace hc11 := eq_of_beq hc11 | replace hc11 := ne_of_beq_false hc11 | simp only [bne_iff_ne, ne_eq] at hc11 | simp only [bne_eq_false_iff_eq] at hc11
  refine .exit ?_
  show Ev _ _ _ _ _
  refine .seq ?_
  refine .seq ?_
  refine .region ?_
  refine .q (op_fieldAddr (m := 0) Tryd.underlying30 rfl (by kernel_rfl) rfl) trivial rfl ?_
  refine .as (.ptr 1000 3) rfl ?_
  refine .q (op_load Tryd.underlying24 rfl rfl rfl rfl (by show 3 < 5; decide)) trivial rfl ?_
  refine .q (op_len_fsl Tryd.underlying24 rfl) trivial rfl ?_
  refine .q (op_move rfl) trivial rfl ?_
  refine .nil ?_
  show Ev _ _ _ _ _
  refine .block ?_
  refine Ev.loop (ι := { i : Nat // i ≤ ns.length }) (fun q => ⟨[(19, .fsl (List.map AV.dsl ns) ns.length 1), (20, .i64 ((ns.length : Nat) : Int)), (21, .i64 ((q.1 : Nat) : Int))], [], 1008⟩) (fun q => ns.length - q.1) ⟨0, Nat.zero_le _⟩ (StLe.mk [] rfl rfl ⟨⟨_, rfl, by first | rfl | (simp only [AV.ren]; congr 1; omega), rfl⟩, ⟨_, rfl, by first | rfl | (simp only [AV.ren]; congr 1; omega), rfl⟩, ⟨_, rfl, by first | rfl | (simp only [AV.ren]; congr 1; omega), rfl⟩, trivial⟩ trivial) ?_
  rintro ⟨i, hi⟩
  try dsimp only
  refine .seq ?_
  refine .region ?_
  refine .q (op_cmpI rfl rfl rfl) trivial rfl ?_
  refine .nil ?_
  show Ev _ _ _ _ _
  refine .seq ?_
  refine .cond rfl (fun hc22 => ?_) (fun hc22 => ?_)
  ·first | replace hc22 := of_decide_eq_true hc22 | replace hc22 := of_decide_eq_false hc22 | replace hc22 := eq_of_beq hc22 | replace hc22 := ne_of_beq_false hc22 | simp only [bne_iff_ne, ne_eq] at hc22 | simp only [bne_eq_false_iff_eq] at hc22
   refine .skip ?_
   show Ev _ _ _ _ _
   refine .seq ?_
   refine .block ?_
   refine .seq ?_
   refine .region ?_
   refine .q (op_indexAddr_fsl (z := 1) Tryd.underlying24 inf23.sz (by decide) rfl rfl rfl (by first | omega | (simp only [AV.len]; omega) | (simp only [AV.len, List.length_set]; omega) | assumption | (simp [AV.len]; done))) trivial rfl ?_
   refine .q (op_load_fptr Tryd.underlying23 rfl rfl (get_names (by omega))) trivial rfl ?_
   refine .q (op_assign rfl) trivial rfl ?_
   refine .nil ?_
   show Ev _ _ _ _ _
   refine .seq ?_
   refine .region ?_
   refine .q (op_move rfl) trivial rfl ?_
   refine .q (op_call (U := []) [] [] (join_ev (ns.getD i []) (by have := (join_bounds (hnj i)).1; omega) (by have := (join_bounds (hnj i)).2; omega)) Tryd.func38 (by kernel_rfl) rfl rfl rfl (⟨⟨_, rfl, rfl, rfl⟩, ⟨_, rfl, rfl, rfl⟩, trivial⟩) (trivial) (trivial) (trivial) rfl) trivial rfl ?_
   refine .q (op_len_str Tryd.underlying9 rfl) trivial rfl ?_
   refine .q (op_cmpI rfl rfl rfl) trivial rfl ?_
   refine .nil ?_
   show Ev _ _ _ _ _
   refine .cond_false rfl (decide_eq_false (by have := hnj i; omega)) ?_
   refine .skip ?_
   show Ev _ _ _ _ _
   refine .region ?_
   refine .q (op_addI rfl rfl ⟨by first | omega | (simp only [AV.len]; omega) | (simp only [AV.len, List.length_set]; omega) | assumption | (simp [AV.len]; done), by first | omega | (simp only [AV.len]; omega) | (simp only [AV.len, List.length_set]; omega) | assumption | (simp [AV.len]; done)⟩) trivial rfl ?_
   refine .q (op_move rfl) trivial rfl ?_
   refine .nil ?_
   exact ⟨⟨i + 1, by omega⟩, by (try dsimp only); omega, StLe.mk [] rfl rfl ⟨⟨_, rfl, by first | rfl | (simp only [AV.ren]; congr 1; omega), rfl⟩, ⟨_, rfl, by first | rfl | (simp only [AV.ren]; congr 1; omega), rfl⟩, ⟨_, rfl, by first | rfl | (simp only [AV.ren]; congr 1; omega), rfl⟩, trivial⟩ trivial⟩
  ·first | replace hc22 := of_decide_eq_true hc22 | replace hc22 := of_decide_eq_false hc22 | replace hc22 := eq_of_beq hc22 | replace hc22 := ne_of_beq_false hc22 | simp only [bne_iff_ne, ne_eq] at hc22 | simp only [bne_eq_false_iff_eq] at hc22
   refine .exit ?_
   show Ev _ _ _ _ _
   refine .seq ?_
   refine .region ?_
   refine .q (op_assign rfl) trivial rfl ?_
   refine .nil ?_
   show Ev _ _ _ _ _
   refine .ret ?_
   show RetOk _ _ _ _ _ _ _
   exact ret1v rfl (.inl rfl) rfl (rfl) trivial
end Go.Proofs.YtenocbhlbgcnfaaDoor
namespace Go.Proofs.YtenocbhlbgcnfaaDoor
open Go.RowKit
theorem get_u32 {l : List UInt32} {k : Nat} (h : k < l.length) : ((l.map AV.u32).drop (k * 1))[0]? = some (.u32 (l.getD k 0)) := by
  rw [List.getElem?_drop, Nat.mul_one, Nat.add_zero, List.getElem?_map, List.getElem?_eq_getElem h]; simp [List.getD, List.getElem?_eq_getElem h]
theorem get_bool {l : List Bool} {k : Nat} (h : k < l.length) : ((l.map AV.bool).drop (k * 1))[0]? = some (.bool (l.getD k false)) := by
  rw [List.getElem?_drop, Nat.mul_one, Nat.add_zero, List.getElem?_map, List.getElem?_eq_getElem h]; simp [List.getD, List.getElem?_eq_getElem h]
set_option maxRecDepth 100000 in
theorem same_ff (k : Int) (us : List UInt32) (ss : List (List UInt8)) (ns : List (List (List UInt8))) (bs : List Bool) (hul : us.length ≤ 1000000) (hsl : ss.length ≤ 1000000) (hnl : ns.length ≤ 1000000) (hbl : bs.length ≤ 1000000) (hjl : ∀ i, (ns.getD i []).length ≤ 1000000) : Meets Tryd.prog 12 [.agg [.i64 k, .fsl (List.map AV.u32 us) (us).length 1, .dsl ss, .fsl (List.map AV.dsl ns) (ns).length 1, .fsl (List.map AV.bool bs) (bs).length 1], .agg [.i64 k, .fsl (List.map AV.u32 us) (us).length 1, .dsl ss, .fsl (List.map AV.dsl ns) (ns).length 1, .fsl (List.map AV.bool bs) (bs).length 1]] [] (.bool true) [] := by
 refine meets_of_ev (nt := 143) Tryd.func12 rfl rfl (Nat.le_of_ble_eq_true rfl) ?_
 refine .seq ?_
 refine .region ?_
 refine .a (op_boxRow rfl rfl) trivial rfl ?_
 refine .a (op_boxRow rfl rfl) trivial rfl ?_
 refine .q (op_assign rfl) trivial rfl ?_
 refine .nil ?_
 show Ev _ _ _ _ _
 refine .seq ?_
 refine .seq ?_
 refine .region ?_
 refine .q (op_fieldAddr (m := 0) Tryd.underlying30 rfl (by kernel_rfl) rfl) trivial rfl ?_
 refine .as (.ptr 1000 0) rfl ?_
 refine .q (op_load Tryd.underlying3 rfl rfl rfl rfl (by show 0 < 5; decide)) trivial rfl ?_
 refine .q (op_fieldAddr (m := 0) Tryd.underlying27 rfl (by kernel_rfl) rfl) trivial rfl ?_
 refine .as (.ptr 1008 0) rfl ?_
 refine .q (op_load Tryd.underlying3 rfl rfl rfl rfl (by show 0 < 5; decide)) trivial rfl ?_
 refine .q (op_cmpI rfl rfl rfl) trivial rfl ?_
 refine .q (op_move rfl) trivial rfl ?_
 refine .know (b' := false) (bne_self_eq_false _) ?_
 refine .q (op_fieldAddr (m := 0) Tryd.underlying30 rfl (by kernel_rfl) rfl) ⟨_, rfl, rfl⟩ rfl ?_
 refine .as (.ptr 1000 1) rfl ?_
 refine .q (op_load Tryd.underlying22 rfl rfl rfl rfl (by show 1 < 5; decide)) ⟨_, rfl, rfl⟩ rfl ?_
 refine .q (op_len_fsl Tryd.underlying22 rfl) ⟨_, rfl, rfl⟩ rfl ?_
 refine .q (op_fieldAddr (m := 0) Tryd.underlying27 rfl (by kernel_rfl) rfl) ⟨_, rfl, rfl⟩ rfl ?_
 refine .as (.ptr 1008 1) rfl ?_
 refine .q (op_load Tryd.underlying22 rfl rfl rfl rfl (by show 1 < 5; decide)) ⟨_, rfl, rfl⟩ rfl ?_
 refine .q (op_len_fsl Tryd.underlying22 rfl) ⟨_, rfl, rfl⟩ rfl ?_
 refine .q (op_cmpI rfl rfl rfl) ⟨_, rfl, rfl⟩ rfl ?_
 refine .q (op_pick_false rfl rfl rfl) trivial rfl ?_
 refine .q (op_move rfl) trivial rfl ?_
 refine .know (b' := false) (bne_self_eq_false _) ?_
 refine .q (op_fieldAddr (m := 0) Tryd.underlying30 rfl (by kernel_rfl) rfl) ⟨_, rfl, rfl⟩ rfl ?_
 refine .as (.ptr 1000 2) rfl ?_
 refine .q (op_load Tryd.underlying23 rfl rfl rfl rfl (by show 2 < 5; decide)) ⟨_, rfl, rfl⟩ rfl ?_
 refine .q (op_len_dsl Tryd.underlying23 rfl) ⟨_, rfl, rfl⟩ rfl ?_
 refine .q (op_fieldAddr (m := 0) Tryd.underlying27 rfl (by kernel_rfl) rfl) ⟨_, rfl, rfl⟩ rfl ?_
 refine .as (.ptr 1008 2) rfl ?_
 refine .q (op_load Tryd.underlying23 rfl rfl rfl rfl (by show 2 < 5; decide)) ⟨_, rfl, rfl⟩ rfl ?_
 refine .q (op_len_dsl Tryd.underlying23 rfl) ⟨_, rfl, rfl⟩ rfl ?_
 refine .q (op_cmpI rfl rfl rfl) ⟨_, rfl, rfl⟩ rfl ?_
 refine .q (op_pick_false rfl rfl rfl) trivial rfl ?_
 refine .q (op_move rfl) trivial rfl ?_
 refine .know (b' := false) (bne_self_eq_false _) ?_
 refine .q (op_fieldAddr (m := 0) Tryd.underlying30 rfl (by kernel_rfl) rfl) ⟨_, rfl, rfl⟩ rfl ?_
 refine .as (.ptr 1000 3) rfl ?_
 refine .q (op_load Tryd.underlying24 rfl rfl rfl rfl (by show 3 < 5; decide)) ⟨_, rfl, rfl⟩ rfl ?_
 refine .q (op_len_fsl Tryd.underlying24 rfl) ⟨_, rfl, rfl⟩ rfl ?_
 refine .q (op_fieldAddr (m := 0) Tryd.underlying27 rfl (by kernel_rfl) rfl) ⟨_, rfl, rfl⟩ rfl ?_
 refine .as (.ptr 1008 3) rfl ?_
 refine .q (op_load Tryd.underlying24 rfl rfl rfl rfl (by show 3 < 5; decide)) ⟨_, rfl, rfl⟩ rfl ?_
 refine .q (op_len_fsl Tryd.underlying24 rfl) ⟨_, rfl, rfl⟩ rfl ?_
 refine .q (op_cmpI rfl rfl rfl) ⟨_, rfl, rfl⟩ rfl ?_
 refine .q (op_pick_false rfl rfl rfl) trivial rfl ?_
 refine .q (op_move rfl) trivial rfl ?_
 refine .know (b' := false) (bne_self_eq_false _) ?_
 refine .q (op_fieldAddr (m := 0) Tryd.underlying30 rfl (by kernel_rfl) rfl) ⟨_, rfl, rfl⟩ rfl ?_
 refine .as (.ptr 1000 4) rfl ?_
 refine .q (op_load Tryd.underlying25 rfl rfl rfl rfl (by show 4 < 5; decide)) ⟨_, rfl, rfl⟩ rfl ?_
 refine .q (op_len_fsl Tryd.underlying25 rfl) ⟨_, rfl, rfl⟩ rfl ?_
 refine .q (op_fieldAddr (m := 0) Tryd.underlying27 rfl (by kernel_rfl) rfl) ⟨_, rfl, rfl⟩ rfl ?_
 refine .as (.ptr 1008 4) rfl ?_
 refine .q (op_load Tryd.underlying25 rfl rfl rfl rfl (by show 4 < 5; decide)) ⟨_, rfl, rfl⟩ rfl ?_
 refine .q (op_len_fsl Tryd.underlying25 rfl) ⟨_, rfl, rfl⟩ rfl ?_
 refine .q (op_cmpI rfl rfl rfl) ⟨_, rfl, rfl⟩ rfl ?_
 refine .q (op_pick_false rfl rfl rfl) trivial rfl ?_
 refine .nil ?_
 show Ev _ _ _ _ _
 refine .cond_false rfl (bne_self_eq_false _) ?_
 refine .skip ?_
 show Ev _ _ _ _ _
 refine .seq ?_
 refine .seq ?_
 refine .region ?_
 refine .q (op_fieldAddr (m := 0) Tryd.underlying27 rfl (by kernel_rfl) rfl) trivial rfl ?_
 refine .as (.ptr 1008 1) rfl ?_
 refine .q (op_load Tryd.underlying22 rfl rfl rfl rfl (by show 1 < 5; decide)) trivial rfl ?_
 refine .q (op_len_fsl Tryd.underlying22 rfl) trivial rfl ?_
 refine .q (op_move rfl) trivial rfl ?_
 refine .nil ?_
 show Ev _ _ _ _ _
 refine .block ?_
 refine Ev.loop (ι := { i : Nat // i ≤ us.length }) (fun q => ⟨[(2, .ptr 1000 0), (3, .ptr 1008 0), (54, .i64 ((us.length : Nat) : Int)), (55, .i64 ((q.1 : Nat) : Int))], [(1000, some ⟨.agg [.i64 k, .fsl (List.map AV.u32 us) (us).length 1, .dsl ss, .fsl (List.map AV.dsl ns) (ns).length 1, .fsl (List.map AV.bool bs) (bs).length 1], 30, true⟩), (1008, some ⟨.agg [.i64 k, .fsl (List.map AV.u32 us) (us).length 1, .dsl ss, .fsl (List.map AV.dsl ns) (ns).length 1, .fsl (List.map AV.bool bs) (bs).length 1], 27, true⟩)], 1016⟩) (fun q => us.length - q.1) ⟨0, Nat.zero_le _⟩ (StLe.mk [(1000, 1000), (1008, 1008)] rfl rfl ⟨⟨_, rfl, by first | rfl | (simp only [AV.ren]; congr 1; omega), rfl⟩, ⟨_, rfl, by first | rfl | (simp only [AV.ren]; congr 1; omega), rfl⟩, ⟨_, rfl, by first | rfl | (simp only [AV.ren]; congr 1; omega), rfl⟩, ⟨_, rfl, by first | rfl | (simp only [AV.ren]; congr 1; omega), rfl⟩, trivial⟩ ⟨⟨_, _, rfl, rfl, rfl, rfl, id, rfl⟩, ⟨_, _, rfl, rfl, rfl, rfl, id, rfl⟩, trivial⟩) ?_
 rintro ⟨i, hi⟩
 try dsimp only
 refine .seq ?_
 refine .region ?_
 refine .q (op_cmpI rfl rfl rfl) trivial rfl ?_
 refine .nil ?_
 show Ev _ _ _ _ _
 refine .seq ?_
 refine .cond rfl (fun hc56 => ?_) (fun hc56 => ?_)
 ·first | replace hc56 := of_decide_eq_true hc56 | replace hc56 := of_decide_eq_false hc56 | replace hc56 := eq_of_beq hc56 | replace hc56 := ne_of_beq_false hc56 | simp only [bne_iff_ne, ne_eq] at hc56 | simp only [bne_eq_false_iff_eq] at hc56
  refine .skip ?_
  show Ev _ _ _ _ _
  refine .seq ?_
  refine .block ?_
  refine .seq ?_
  refine .region ?_
  refine .q (op_move rfl) trivial rfl ?_
  refine .q (op_assign rfl) trivial rfl ?_
  refine .nil ?_
  show Ev _ _ _ _ _
  refine .seq ?_
  refine .drawn [[], [0], [], [0, 1, 2], [0, 1, 2, 3], [], [5], [], [5, 6, 7], [5, 6, 7, 8], [0, 1, 2, 3, 4, 5, 6, 7, 8, 9]] [1, 4, 6, 9] [] (by kernel_rfl) (by kernel_rfl) rfl ?_
  show DK _ [0, 1, 2, 3, 4, 5, 6, 7, 8, 9, 10] _ _ _
  refine .q rfl (op_fieldAddr (m := 0) Tryd.underlying30 rfl (by kernel_rfl) rfl) trivial ?_
  refine .as (.ptr 1000 1) rfl ?_
  refine .q rfl (op_load Tryd.underlying22 rfl rfl rfl rfl (by show 1 < 5; decide)) trivial ?_
  refine .q rfl (op_move rfl) trivial ?_
  refine .q rfl (op_indexAddr_fsl (z := 1) Tryd.underlying22 inf42.sz (by decide) rfl rfl rfl (by first | omega | (simp only [AV.len]; omega) | (simp only [AV.len, List.length_set]; omega) | assumption | (simp [AV.len]; done))) trivial ?_
  refine .q rfl (op_load_fptr Tryd.underlying42 rfl rfl (get_u32 (by omega))) trivial ?_
  refine .q rfl (op_fieldAddr (m := 0) Tryd.underlying27 rfl (by kernel_rfl) rfl) trivial ?_
  refine .as (.ptr 1008 1) rfl ?_
  refine .q rfl (op_load Tryd.underlying22 rfl rfl rfl rfl (by show 1 < 5; decide)) trivial ?_
  refine .q rfl (op_move rfl) trivial ?_
  refine .q rfl (op_indexAddr_fsl (z := 1) Tryd.underlying22 inf42.sz (by decide) rfl rfl rfl (by first | omega | (simp only [AV.len]; omega) | (simp only [AV.len, List.length_set]; omega) | assumption | (simp [AV.len]; done))) trivial ?_
  refine .q rfl (op_load_fptr Tryd.underlying42 rfl rfl (get_u32 (by omega))) trivial ?_
  refine .q rfl (op_bin32 rfl rfl rfl) trivial ?_
  refine .nil ?_
  show Ev _ _ _ _ _
  refine .cond_false rfl (bne_self_eq_false _) ?_
  refine .skip ?_
  show Ev _ _ _ _ _
  refine .region ?_
  refine .q (op_addI rfl rfl ⟨by first | omega | (simp only [AV.len]; omega) | (simp only [AV.len, List.length_set]; omega) | assumption | (simp [AV.len]; done), by first | omega | (simp only [AV.len]; omega) | (simp only [AV.len, List.length_set]; omega) | assumption | (simp [AV.len]; done)⟩) trivial rfl ?_
  refine .q (op_move rfl) trivial rfl ?_
  refine .nil ?_
  exact ⟨⟨i + 1, by omega⟩, by (try dsimp only); omega, StLe.mk [(1000, 1000), (1008, 1008)] rfl rfl ⟨⟨_, rfl, by first | rfl | (simp only [AV.ren]; congr 1; omega), rfl⟩, ⟨_, rfl, by first | rfl | (simp only [AV.ren]; congr 1; omega), rfl⟩, ⟨_, rfl, by first | rfl | (simp only [AV.ren]; congr 1; omega), rfl⟩, ⟨_, rfl, by first | rfl | (simp only [AV.ren]; congr 1; omega), rfl⟩, trivial⟩ ⟨⟨_, _, rfl, rfl, rfl, rfl, id, rfl⟩, ⟨_, _, rfl, rfl, rfl, rfl, id, rfl⟩, trivial⟩⟩
 ·first | replace hc56 := of_decide_eq_true hc56 | replace hc56 := of_decide_eq_false hc56 | replace hc56 := eq_of_beq hc56 | replace hc56 := ne_of_beq_false hc56 | simp only [bne_iff_ne, ne_eq] at hc56 | simp only [bne_eq_false_iff_eq] at hc56
  refine .exit ?_
  show Ev _ _ _ _ _
  refine .seq ?_
  refine .seq ?_
  refine .region ?_
  refine .q (op_fieldAddr (m := 0) Tryd.underlying27 rfl (by kernel_rfl) rfl) trivial rfl ?_
  refine .as (.ptr 1008 2) rfl ?_
  refine .q (op_load Tryd.underlying23 rfl rfl rfl rfl (by show 2 < 5; decide)) trivial rfl ?_
  refine .q (op_len_dsl Tryd.underlying23 rfl) trivial rfl ?_
  refine .q (op_move rfl) trivial rfl ?_
  refine .nil ?_
  show Ev _ _ _ _ _
  refine .block ?_
  refine Ev.loop (ι := { i : Nat // i ≤ ss.length }) (fun q => ⟨[(2, .ptr 1000 0), (3, .ptr 1008 0), (72, .i64 ((ss.length : Nat) : Int)), (73, .i64 ((q.1 : Nat) : Int))], [(1000, some ⟨.agg [.i64 k, .fsl (List.map AV.u32 us) (us).length 1, .dsl ss, .fsl (List.map AV.dsl ns) (ns).length 1, .fsl (List.map AV.bool bs) (bs).length 1], 30, true⟩), (1008, some ⟨.agg [.i64 k, .fsl (List.map AV.u32 us) (us).length 1, .dsl ss, .fsl (List.map AV.dsl ns) (ns).length 1, .fsl (List.map AV.bool bs) (bs).length 1], 27, true⟩)], 1016⟩) (fun q => ss.length - q.1) ⟨0, Nat.zero_le _⟩ (StLe.mk [(1000, 1000), (1008, 1008)] rfl rfl ⟨⟨_, rfl, by first | rfl | (simp only [AV.ren]; congr 1; omega), rfl⟩, ⟨_, rfl, by first | rfl | (simp only [AV.ren]; congr 1; omega), rfl⟩, ⟨_, rfl, by first | rfl | (simp only [AV.ren]; congr 1; omega), rfl⟩, ⟨_, rfl, by first | rfl | (simp only [AV.ren]; congr 1; omega), rfl⟩, trivial⟩ ⟨⟨_, _, rfl, rfl, rfl, rfl, id, rfl⟩, ⟨_, _, rfl, rfl, rfl, rfl, id, rfl⟩, trivial⟩) ?_
  rintro ⟨i, hi⟩
  try dsimp only
  refine .seq ?_
  refine .region ?_
  refine .q (op_cmpI rfl rfl rfl) trivial rfl ?_
  refine .nil ?_
  show Ev _ _ _ _ _
  refine .seq ?_
  refine .cond rfl (fun hc74 => ?_) (fun hc74 => ?_)
  ·first | replace hc74 := of_decide_eq_true hc74 | replace hc74 := of_decide_eq_false hc74 | replace hc74 := eq_of_beq hc74 | replace hc74 := ne_of_beq_false hc74 | simp only [bne_iff_ne, ne_eq] at hc74 | simp only [bne_eq_false_iff_eq] at hc74
   refine .skip ?_
   show Ev _ _ _ _ _
   refine .seq ?_
   refine .block ?_
   refine .seq ?_
   refine .region ?_
   refine .q (op_move rfl) trivial rfl ?_
   refine .q (op_assign rfl) trivial rfl ?_
   refine .nil ?_
   show Ev _ _ _ _ _
   refine .seq ?_
   refine .drawn [[], [0], [], [0, 1, 2], [0, 1, 2, 3], [], [5], [], [5, 6, 7], [5, 6, 7, 8], [0, 1, 2, 3, 4, 5, 6, 7, 8, 9]] [1, 4, 6, 9] [] (by kernel_rfl) (by kernel_rfl) rfl ?_
   show DK _ [0, 1, 2, 3, 4, 5, 6, 7, 8, 9, 10] _ _ _
   refine .q rfl (op_fieldAddr (m := 0) Tryd.underlying30 rfl (by kernel_rfl) rfl) trivial ?_
   refine .as (.ptr 1000 2) rfl ?_
   refine .q rfl (op_load Tryd.underlying23 rfl rfl rfl rfl (by show 2 < 5; decide)) trivial ?_
   refine .q rfl (op_move rfl) trivial ?_
   refine .q rfl (op_indexAddr_dsl Tryd.underlying23 inf9.sz rfl rfl rfl (by first | omega | (simp only [AV.len]; omega) | (simp only [AV.len, List.length_set]; omega) | assumption | (simp [AV.len]; done))) trivial ?_
   refine .q rfl (op_load_dptr Tryd.underlying9 rfl rfl (drop_get (by omega))) trivial ?_
   refine .q rfl (op_fieldAddr (m := 0) Tryd.underlying27 rfl (by kernel_rfl) rfl) trivial ?_
   refine .as (.ptr 1008 2) rfl ?_
   refine .q rfl (op_load Tryd.underlying23 rfl rfl rfl rfl (by show 2 < 5; decide)) trivial ?_
   refine .q rfl (op_move rfl) trivial ?_
   refine .q rfl (op_indexAddr_dsl Tryd.underlying23 inf9.sz rfl rfl rfl (by first | omega | (simp only [AV.len]; omega) | (simp only [AV.len, List.length_set]; omega) | assumption | (simp [AV.len]; done))) trivial ?_
   refine .q rfl (op_load_dptr Tryd.underlying9 rfl rfl (drop_get (by omega))) trivial ?_
   refine .q rfl (op_eqS rfl rfl rfl) trivial ?_
   refine .nil ?_
   show Ev _ _ _ _ _
   refine .cond_false rfl (bne_self_eq_false _) ?_
   refine .skip ?_
   show Ev _ _ _ _ _
   refine .region ?_
   refine .q (op_addI rfl rfl ⟨by first | omega | (simp only [AV.len]; omega) | (simp only [AV.len, List.length_set]; omega) | assumption | (simp [AV.len]; done), by first | omega | (simp only [AV.len]; omega) | (simp only [AV.len, List.length_set]; omega) | assumption | (simp [AV.len]; done)⟩) trivial rfl ?_
   refine .q (op_move rfl) trivial rfl ?_
   refine .nil ?_
   exact ⟨⟨i + 1, by omega⟩, by (try dsimp only); omega, StLe.mk [(1000, 1000), (1008, 1008)] rfl rfl ⟨⟨_, rfl, by first | rfl | (simp only [AV.ren]; congr 1; omega), rfl⟩, ⟨_, rfl, by first | rfl | (simp only [AV.ren]; congr 1; omega), rfl⟩, ⟨_, rfl, by first | rfl | (simp only [AV.ren]; congr 1; omega), rfl⟩, ⟨_, rfl, by first | rfl | (simp only [AV.ren]; congr 1; omega), rfl⟩, trivial⟩ ⟨⟨_, _, rfl, rfl, rfl, rfl, id, rfl⟩, ⟨_, _, rfl, rfl, rfl, rfl, id, rfl⟩, trivial⟩⟩
  ·first | replace hc74 := of_decide_eq_true hc74 | replace hc74 := of_decide_eq_false hc74 | replace hc74 := eq_of_beq hc74 | replace hc74 := ne_of_beq_false hc74 | simp only [bne_iff_ne, ne_eq] at hc74 | simp only [bne_eq_false_iff_eq] at hc74
   refine .exit ?_
   show Ev _ _ _ _ _
   refine .seq ?_
   refine .seq ?_
   refine .region ?_
   refine .q (op_fieldAddr (m := 0) Tryd.underlying27 rfl (by kernel_rfl) rfl) trivial rfl ?_
   refine .as (.ptr 1008 4) rfl ?_
   refine .q (op_load Tryd.underlying25 rfl rfl rfl rfl (by show 4 < 5; decide)) trivial rfl ?_
   refine .q (op_len_fsl Tryd.underlying25 rfl) trivial rfl ?_
   refine .q (op_move rfl) trivial rfl ?_
   refine .nil ?_
   show Ev _ _ _ _ _
   refine .block ?_
   refine Ev.loop (ι := { i : Nat // i ≤ bs.length }) (fun q => ⟨[(2, .ptr 1000 0), (3, .ptr 1008 0), (90, .i64 ((bs.length : Nat) : Int)), (91, .i64 ((q.1 : Nat) : Int))], [(1000, some ⟨.agg [.i64 k, .fsl (List.map AV.u32 us) (us).length 1, .dsl ss, .fsl (List.map AV.dsl ns) (ns).length 1, .fsl (List.map AV.bool bs) (bs).length 1], 30, true⟩), (1008, some ⟨.agg [.i64 k, .fsl (List.map AV.u32 us) (us).length 1, .dsl ss, .fsl (List.map AV.dsl ns) (ns).length 1, .fsl (List.map AV.bool bs) (bs).length 1], 27, true⟩)], 1016⟩) (fun q => bs.length - q.1) ⟨0, Nat.zero_le _⟩ (StLe.mk [(1000, 1000), (1008, 1008)] rfl rfl ⟨⟨_, rfl, by first | rfl | (simp only [AV.ren]; congr 1; omega), rfl⟩, ⟨_, rfl, by first | rfl | (simp only [AV.ren]; congr 1; omega), rfl⟩, ⟨_, rfl, by first | rfl | (simp only [AV.ren]; congr 1; omega), rfl⟩, ⟨_, rfl, by first | rfl | (simp only [AV.ren]; congr 1; omega), rfl⟩, trivial⟩ ⟨⟨_, _, rfl, rfl, rfl, rfl, id, rfl⟩, ⟨_, _, rfl, rfl, rfl, rfl, id, rfl⟩, trivial⟩) ?_
   rintro ⟨i, hi⟩
   try dsimp only
   refine .seq ?_
   refine .region ?_
   refine .q (op_cmpI rfl rfl rfl) trivial rfl ?_
   refine .nil ?_
   show Ev _ _ _ _ _
   refine .seq ?_
   refine .cond rfl (fun hc92 => ?_) (fun hc92 => ?_)
   ·first | replace hc92 := of_decide_eq_true hc92 | replace hc92 := of_decide_eq_false hc92 | replace hc92 := eq_of_beq hc92 | replace hc92 := ne_of_beq_false hc92 | simp only [bne_iff_ne, ne_eq] at hc92 | simp only [bne_eq_false_iff_eq] at hc92
    refine .skip ?_
    show Ev _ _ _ _ _
    refine .seq ?_
    refine .block ?_
    refine .seq ?_
    refine .region ?_
    refine .q (op_move rfl) trivial rfl ?_
    refine .q (op_assign rfl) trivial rfl ?_
    refine .nil ?_
    show Ev _ _ _ _ _
    refine .seq ?_
    refine .drawn [[], [0], [], [0, 1, 2], [0, 1, 2, 3], [], [5], [], [5, 6, 7], [5, 6, 7, 8], [0, 1, 2, 3, 4, 5, 6, 7, 8, 9]] [1, 4, 6, 9] [] (by kernel_rfl) (by kernel_rfl) rfl ?_
    show DK _ [0, 1, 2, 3, 4, 5, 6, 7, 8, 9, 10] _ _ _
    refine .q rfl (op_fieldAddr (m := 0) Tryd.underlying30 rfl (by kernel_rfl) rfl) trivial ?_
    refine .as (.ptr 1000 4) rfl ?_
    refine .q rfl (op_load Tryd.underlying25 rfl rfl rfl rfl (by show 4 < 5; decide)) trivial ?_
    refine .q rfl (op_move rfl) trivial ?_
    refine .q rfl (op_indexAddr_fsl (z := 1) Tryd.underlying25 inf4.sz (by decide) rfl rfl rfl (by first | omega | (simp only [AV.len]; omega) | (simp only [AV.len, List.length_set]; omega) | assumption | (simp [AV.len]; done))) trivial ?_
    refine .q rfl (op_load_fptr Tryd.underlying4 rfl rfl (get_bool (by omega))) trivial ?_
    refine .q rfl (op_fieldAddr (m := 0) Tryd.underlying27 rfl (by kernel_rfl) rfl) trivial ?_
    refine .as (.ptr 1008 4) rfl ?_
    refine .q rfl (op_load Tryd.underlying25 rfl rfl rfl rfl (by show 4 < 5; decide)) trivial ?_
    refine .q rfl (op_move rfl) trivial ?_
    refine .q rfl (op_indexAddr_fsl (z := 1) Tryd.underlying25 inf4.sz (by decide) rfl rfl rfl (by first | omega | (simp only [AV.len]; omega) | (simp only [AV.len, List.length_set]; omega) | assumption | (simp [AV.len]; done))) trivial ?_
    refine .q rfl (op_load_fptr Tryd.underlying4 rfl rfl (get_bool (by omega))) trivial ?_
    refine .q rfl (op_eqB Tryd.underlying4 rfl rfl rfl) trivial ?_
    refine .nil ?_
    show Ev _ _ _ _ _
    refine .cond_false rfl (bne_self_eq_false _) ?_
    refine .skip ?_
    show Ev _ _ _ _ _
    refine .region ?_
    refine .q (op_addI rfl rfl ⟨by first | omega | (simp only [AV.len]; omega) | (simp only [AV.len, List.length_set]; omega) | assumption | (simp [AV.len]; done), by first | omega | (simp only [AV.len]; omega) | (simp only [AV.len, List.length_set]; omega) | assumption | (simp [AV.len]; done)⟩) trivial rfl ?_
    refine .q (op_move rfl) trivial rfl ?_
    refine .nil ?_
    exact ⟨⟨i + 1, by omega⟩, by (try dsimp only); omega, StLe.mk [(1000, 1000), (1008, 1008)] rfl rfl ⟨⟨_, rfl, by first | rfl | (simp only [AV.ren]; congr 1; omega), rfl⟩, ⟨_, rfl, by first | rfl | (simp only [AV.ren]; congr 1; omega), rfl⟩, ⟨_, rfl, by first | rfl | (simp only [AV.ren]; congr 1; omega), rfl⟩, ⟨_, rfl, by first | rfl | (simp only [AV.ren]; congr 1; omega), rfl⟩, trivial⟩ ⟨⟨_, _, rfl, rfl, rfl, rfl, id, rfl⟩, ⟨_, _, rfl, rfl, rfl, rfl, id, rfl⟩, trivial⟩⟩
   ·first | replace hc92 := of_decide_eq_true hc92 | replace hc92 := of_decide_eq_false hc92 | replace hc92 := eq_of_beq hc92 | replace hc92 := ne_of_beq_false hc92 | simp only [bne_iff_ne, ne_eq] at hc92 | simp only [bne_eq_false_iff_eq] at hc92
    refine .exit ?_
    show Ev _ _ _ _ _
    refine .seq ?_
    refine .seq ?_
    refine .region ?_
    refine .q (op_fieldAddr (m := 0) Tryd.underlying27 rfl (by kernel_rfl) rfl) trivial rfl ?_
    refine .as (.ptr 1008 3) rfl ?_
    refine .q (op_load Tryd.underlying24 rfl rfl rfl rfl (by show 3 < 5; decide)) trivial rfl ?_
    refine .q (op_len_fsl Tryd.underlying24 rfl) trivial rfl ?_
    refine .q (op_move rfl) trivial rfl ?_
    refine .nil ?_
    show Ev _ _ _ _ _
    refine .block ?_
    refine Ev.loop (ι := { i : Nat // i ≤ ns.length }) (fun q => ⟨[(2, .ptr 1000 0), (3, .ptr 1008 0), (108, .i64 ((ns.length : Nat) : Int)), (109, .i64 ((q.1 : Nat) : Int)), (107, .fsl (List.map AV.dsl ns) ns.length 1)], [(1000, some ⟨.agg [.i64 k, .fsl (List.map AV.u32 us) (us).length 1, .dsl ss, .fsl (List.map AV.dsl ns) (ns).length 1, .fsl (List.map AV.bool bs) (bs).length 1], 30, true⟩), (1008, some ⟨.agg [.i64 k, .fsl (List.map AV.u32 us) (us).length 1, .dsl ss, .fsl (List.map AV.dsl ns) (ns).length 1, .fsl (List.map AV.bool bs) (bs).length 1], 27, true⟩)], 1016⟩) (fun q => ns.length - q.1) ⟨0, Nat.zero_le _⟩ (StLe.mk [(1000, 1000), (1008, 1008)] rfl rfl ⟨⟨_, rfl, by first | rfl | (simp only [AV.ren]; congr 1; omega), rfl⟩, ⟨_, rfl, by first | rfl | (simp only [AV.ren]; congr 1; omega), rfl⟩, ⟨_, rfl, by first | rfl | (simp only [AV.ren]; congr 1; omega), rfl⟩, ⟨_, rfl, by first | rfl | (simp only [AV.ren]; congr 1; omega), rfl⟩, ⟨_, rfl, by first | rfl | (simp only [AV.ren]; congr 1; omega), rfl⟩, trivial⟩ ⟨⟨_, _, rfl, rfl, rfl, rfl, id, rfl⟩, ⟨_, _, rfl, rfl, rfl, rfl, id, rfl⟩, trivial⟩) ?_
    rintro ⟨i, hi⟩
    try dsimp only
    refine .seq ?_
    refine .region ?_
    refine .q (op_cmpI rfl rfl rfl) trivial rfl ?_
    refine .nil ?_
    show Ev _ _ _ _ _
    refine .seq ?_
    refine .cond rfl (fun hc110 => ?_) (fun hc110 => ?_)
    ·first | replace hc110 := of_decide_eq_true hc110 | replace hc110 := of_decide_eq_false hc110 | replace hc110 := eq_of_beq hc110 | replace hc110 := ne_of_beq_false hc110 | simp only [bne_iff_ne, ne_eq] at hc110 | simp only [bne_eq_false_iff_eq] at hc110
     refine .skip ?_
     show Ev _ _ _ _ _
     refine .seq ?_
     refine .block ?_
     refine .seq ?_
     refine .region ?_
     have hlt : i < ns.length := by omega
     refine .q (op_move rfl) trivial rfl ?_
     refine .q (op_indexAddr_fsl (z := 1) Tryd.underlying24 inf23.sz (by decide) rfl rfl rfl (by first | omega | (simp only [AV.len]; omega) | (simp only [AV.len, List.length_set]; omega) | assumption | (simp [AV.len]; done))) trivial rfl ?_
     refine .q (op_load_fptr Tryd.underlying23 rfl rfl (get_names (by omega))) trivial rfl ?_
     refine .q (op_assign rfl) trivial rfl ?_
     refine .q (op_assign rfl) trivial rfl ?_
     refine .nil ?_
     show Ev _ _ _ _ _
     refine .seq ?_
     refine .seq ?_
     refine .region ?_
     refine .q (op_fieldAddr (m := 0) Tryd.underlying30 rfl (by kernel_rfl) rfl) trivial rfl ?_
     refine .as (.ptr 1000 3) rfl ?_
     refine .q (op_load Tryd.underlying24 rfl rfl rfl rfl (by show 3 < 5; decide)) trivial rfl ?_
     refine .q (op_move rfl) trivial rfl ?_
     refine .q (op_indexAddr_fsl (z := 1) Tryd.underlying24 inf23.sz (by decide) rfl rfl rfl (by omega)) trivial rfl ?_
     refine .q (op_load_fptr Tryd.underlying23 rfl rfl (get_names (by omega))) trivial rfl ?_
     refine .q (op_len_dsl Tryd.underlying23 rfl) trivial rfl ?_
     refine .q (op_move rfl) trivial rfl ?_
     refine .q (op_len_dsl Tryd.underlying23 rfl) trivial rfl ?_
     refine .q (op_cmpI rfl rfl rfl) trivial rfl ?_
     refine .nil ?_
     show Ev _ _ _ _ _
     refine .cond_false rfl (bne_self_eq_false _) ?_
     refine .skip ?_
     show Ev _ _ _ _ _
     refine .seq ?_
     refine .region ?_
     refine .q (op_move rfl) trivial rfl ?_
     refine .q (op_len_dsl Tryd.underlying23 rfl) trivial rfl ?_
     refine .q (op_move rfl) trivial rfl ?_
     refine .nil ?_
     show Ev _ _ _ _ _
     refine .block ?_
     refine Ev.loop (ι := { j : Nat // j ≤ (ns.getD i []).length }) (fun q => ⟨[(2, .ptr 1000 0), (3, .ptr 1008 0), (108, .i64 ((ns.length : Nat) : Int)), (109, .i64 ((i : Nat) : Int)), (107, .fsl (List.map AV.dsl ns) ns.length 1), (8, .i64 ((i : Nat) : Int)), (9, .dsl (ns.getD i [])), (124, .i64 (((ns.getD i []).length : Nat) : Int)), (125, .i64 ((q.1 : Nat) : Int))], [(1000, some ⟨.agg [.i64 k, .fsl (List.map AV.u32 us) (us).length 1, .dsl ss, .fsl (List.map AV.dsl ns) (ns).length 1, .fsl (List.map AV.bool bs) (bs).length 1], 30, true⟩), (1008, some ⟨.agg [.i64 k, .fsl (List.map AV.u32 us) (us).length 1, .dsl ss, .fsl (List.map AV.dsl ns) (ns).length 1, .fsl (List.map AV.bool bs) (bs).length 1], 27, true⟩)], 1016⟩) (fun q => (ns.getD i []).length - q.1) ⟨0, Nat.zero_le _⟩ (StLe.mk [(1000, 1000), (1008, 1008)] rfl rfl ⟨⟨_, rfl, by first | rfl | (simp only [AV.ren]; congr 1; omega), rfl⟩, ⟨_, rfl, by first | rfl | (simp only [AV.ren]; congr 1; omega), rfl⟩, ⟨_, rfl, by first | rfl | (simp only [AV.ren]; congr 1; omega), rfl⟩, ⟨_, rfl, by first | rfl | (simp only [AV.ren]; congr 1; omega), rfl⟩, ⟨_, rfl, by first | rfl | (simp only [AV.ren]; congr 1; omega), rfl⟩, ⟨_, rfl, by first | rfl | (simp only [AV.ren]; congr 1; omega), rfl⟩, ⟨_, rfl, by first | rfl | (simp only [AV.ren]; congr 1; omega), rfl⟩, ⟨_, rfl, by first | rfl | (simp only [AV.ren]; congr 1; omega), rfl⟩, ⟨_, rfl, by first | rfl | (simp only [AV.ren]; congr 1; omega), rfl⟩, trivial⟩ ⟨⟨_, _, rfl, rfl, rfl, rfl, id, rfl⟩, ⟨_, _, rfl, rfl, rfl, rfl, id, rfl⟩, trivial⟩) ?_
     rintro ⟨j, hj⟩
     try dsimp only
     refine .seq ?_
     refine .region ?_
     refine .q (op_cmpI rfl rfl rfl) trivial rfl ?_
     refine .nil ?_
     show Ev _ _ _ _ _
     refine .seq ?_
     refine .cond rfl (fun hc126 => ?_) (fun hc126 => ?_)
     ·first | replace hc126 := of_decide_eq_true hc126 | replace hc126 := of_decide_eq_false hc126 | replace hc126 := eq_of_beq hc126 | replace hc126 := ne_of_beq_false hc126 | simp only [bne_iff_ne, ne_eq] at hc126 | simp only [bne_eq_false_iff_eq] at hc126
      refine .skip ?_
      show Ev _ _ _ _ _
      refine .seq ?_
      refine .block ?_
      refine .seq ?_
      refine .region ?_
      refine .q (op_move rfl) trivial rfl ?_
      refine .q (op_assign rfl) trivial rfl ?_
      refine .nil ?_
      show Ev _ _ _ _ _
      refine .seq ?_
      refine .drawn [[], [0], [], [0, 1, 2], [0, 1, 2, 3], [], [0, 1, 2, 3, 4, 5], [0, 1, 2, 3, 4, 5, 6], [], [], [8, 9], [8, 9, 10], [0, 1, 2, 3, 4, 5, 6, 7, 8, 9, 10, 11]] [1, 4, 7, 11] [] (by kernel_rfl) (by kernel_rfl) rfl ?_
      show DK _ [0, 1, 2, 3, 4, 5, 6, 7, 8, 9, 10, 11, 12] _ _ _
      refine .q rfl (op_fieldAddr (m := 0) Tryd.underlying30 rfl (by kernel_rfl) rfl) trivial ?_
      refine .as (.ptr 1000 3) rfl ?_
      refine .q rfl (op_load Tryd.underlying24 rfl rfl rfl rfl (by show 3 < 5; decide)) trivial ?_
      refine .q rfl (op_move rfl) trivial ?_
      refine .q rfl (op_indexAddr_fsl (z := 1) Tryd.underlying24 inf23.sz (by decide) rfl rfl rfl (by omega)) trivial ?_
      refine .q rfl (op_load_fptr Tryd.underlying23 rfl rfl (get_names (by omega))) trivial ?_
      refine .q rfl (op_move rfl) trivial ?_
      refine .q rfl (op_indexAddr_dsl Tryd.underlying23 inf9.sz rfl rfl rfl (by omega)) trivial ?_
      refine .q rfl (op_load_dptr Tryd.underlying9 rfl rfl (drop_get (by omega))) trivial ?_
      refine .q rfl (op_move rfl) trivial ?_
      refine .q rfl (op_move rfl) trivial ?_
      refine .q rfl (op_indexAddr_dsl Tryd.underlying23 inf9.sz rfl rfl rfl (by omega)) trivial ?_
      refine .q rfl (op_load_dptr Tryd.underlying9 rfl rfl (drop_get (by omega))) trivial ?_
      refine .q rfl (op_eqS rfl rfl rfl) trivial ?_
      refine .nil ?_
      show Ev _ _ _ _ _
      refine .cond_false rfl (bne_self_eq_false _) ?_
      refine .skip ?_
      show Ev _ _ _ _ _
      refine .region ?_
      refine .q (op_addI rfl rfl ⟨by have := hjl i; omega, by have := hjl i; omega⟩) trivial rfl ?_
      refine .q (op_move rfl) trivial rfl ?_
      refine .nil ?_
      exact ⟨⟨j + 1, by omega⟩, by (try dsimp only); omega, StLe.mk [(1000, 1000), (1008, 1008)] rfl rfl ⟨⟨_, rfl, by first | rfl | (simp only [AV.ren]; congr 1; omega), rfl⟩, ⟨_, rfl, by first | rfl | (simp only [AV.ren]; congr 1; omega), rfl⟩, ⟨_, rfl, by first | rfl | (simp only [AV.ren]; congr 1; omega), rfl⟩, ⟨_, rfl, by first | rfl | (simp only [AV.ren]; congr 1; omega), rfl⟩, ⟨_, rfl, by first | rfl | (simp only [AV.ren]; congr 1; omega), rfl⟩, ⟨_, rfl, by first | rfl | (simp only [AV.ren]; congr 1; omega), rfl⟩, ⟨_, rfl, by first | rfl | (simp only [AV.ren]; congr 1; omega), rfl⟩, ⟨_, rfl, by first | rfl | (simp only [AV.ren]; congr 1; omega), rfl⟩, ⟨_, rfl, by first | rfl | (simp only [AV.ren]; congr 1; omega), rfl⟩, trivial⟩ ⟨⟨_, _, rfl, rfl, rfl, rfl, id, rfl⟩, ⟨_, _, rfl, rfl, rfl, rfl, id, rfl⟩, trivial⟩⟩
     ·first | replace hc126 := of_decide_eq_true hc126 | replace hc126 := of_decide_eq_false hc126 | replace hc126 := eq_of_beq hc126 | replace hc126 := ne_of_beq_false hc126 | simp only [bne_iff_ne, ne_eq] at hc126 | simp only [bne_eq_false_iff_eq] at hc126
      refine .exit ?_
      show Ev _ _ _ _ _
      refine .region ?_
      refine .q (op_addI rfl rfl ⟨by first | omega | (simp only [AV.len]; omega) | (simp only [AV.len, List.length_set]; omega) | assumption | (simp [AV.len]; done), by first | omega | (simp only [AV.len]; omega) | (simp only [AV.len, List.length_set]; omega) | assumption | (simp [AV.len]; done)⟩) trivial rfl ?_
      refine .q (op_move rfl) trivial rfl ?_
      refine .nil ?_
      exact ⟨⟨i + 1, by omega⟩, by (try dsimp only); omega, StLe.mk [(1000, 1000), (1008, 1008)] rfl rfl ⟨⟨_, rfl, by first | rfl | (simp only [AV.ren]; congr 1; omega), rfl⟩, ⟨_, rfl, by first | rfl | (simp only [AV.ren]; congr 1; omega), rfl⟩, ⟨_, rfl, by first | rfl | (simp only [AV.ren]; congr 1; omega), rfl⟩, ⟨_, rfl, by first | rfl | (simp only [AV.ren]; congr 1; omega), rfl⟩, ⟨_, rfl, by first | rfl | (simp only [AV.ren]; congr 1; omega), rfl⟩, trivial⟩ ⟨⟨_, _, rfl, rfl, rfl, rfl, id, rfl⟩, ⟨_, _, rfl, rfl, rfl, rfl, id, rfl⟩, trivial⟩⟩
    ·first | replace hc110 := of_decide_eq_true hc110 | replace hc110 := of_decide_eq_false hc110 | replace hc110 := eq_of_beq hc110 | replace hc110 := ne_of_beq_false hc110 | simp only [bne_iff_ne, ne_eq] at hc110 | simp only [bne_eq_false_iff_eq] at hc110
     refine .exit ?_
     show Ev _ _ _ _ _
     refine .seq ?_
     refine .region ?_
     refine .q (op_assign rfl) trivial rfl ?_
     refine .nil ?_
     show Ev _ _ _ _ _
     refine .ret ?_
     show RetOk _ _ _ _ _ _ _
     exact ret1v rfl (.inl rfl) rfl rfl trivial
end Go.Proofs.YtenocbhlbgcnfaaDoor
