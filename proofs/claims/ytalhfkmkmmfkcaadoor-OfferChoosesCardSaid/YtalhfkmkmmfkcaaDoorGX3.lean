/-
  Texts of this claim.
-/
import Derived.Test.YtalhfkmkmmfkcaaDoorGX2
namespace Go.Proofs.YtalhfkmkmmfkcaaDoor
open Go.RowKit
theorem nth_cell {nc : List AV} {i : Nat} (h : i < nc.length) : (AV.agg nc).nth i = some (nc.getD i .nilsl) := by
  show nc[i]? = _
  rw [List.getElem?_eq_getElem h]; simp [List.getD_eq_getElem?_getD, List.getElem?_eq_getElem h]
set_option maxRecDepth 100000 in
theorem same_fb (k : Int) (us : List UInt32) (ss : List (List UInt8)) (ns : List (List (List UInt8))) (bs : List Bool) (nc : List AV) (hul : us.length ≤ 1000000) (hsl : ss.length ≤ 1000000) (hnl : ns.length ≤ 1000000) (hbl : bs.length ≤ 1000000) (hjl : ∀ i, (ns.getD i []).length ≤ 1000000) (hncl : nc.length = ns.length) (hnc : ∀ i, i < ns.length → ∀ E y, Rel E (nc.getD i .nilsl) y → Rel E (.dsl (ns.getD i [])) y) (hnr : ∀ f, (AV.agg nc).ren f = .agg nc) (hnn : ∀ L, nmOk L (AV.agg nc).names = true) : Meets Tryd.prog 12 [.agg [.i64 k, .fsl (List.map AV.u32 us) (us).length 1, .dsl ss, .fsl (List.map AV.dsl ns) (ns).length 1, .fsl (List.map AV.bool bs) (bs).length 1], .agg [.i64 k, .sl 511 0 us.length 1, .sl 512 0 ss.length 1, .sl 513 0 ns.length 1, .sl 514 0 bs.length 1]] [(511, some ⟨.agg32 us, 43, false⟩), (512, some ⟨.aggS ss, 9, false⟩), (513, some ⟨.agg nc, 22, false⟩), (514, some ⟨.aggT bs, 4, false⟩)] (.bool true) [(511, some ⟨.agg32 us, 43, false⟩), (512, some ⟨.aggS ss, 9, false⟩), (513, some ⟨.agg nc, 22, false⟩), (514, some ⟨.aggT bs, 4, false⟩)] := by
 refine meets_of_ev (nt := 143) Tryd.func12 rfl rfl (Nat.le_of_ble_eq_true rfl) ?_
 refine .seq ?_
 refine .region ?_
 refine .a (op_boxRow rfl rfl) trivial rfl ?_
 refine .a (op_boxRow rfl rfl) trivial rfl ?_
 refine .q (op_assign rfl) trivial rfl ?_
 refine .nil ?_
 show Ev _ _ _ _ _
 refine .seq ?_
 refine .seq ?_
 refine .region ?_
 refine .q (op_fieldAddr (m := 0) Tryd.underlying41 rfl (by kernel_rfl) rfl) trivial rfl ?_
 refine .as (.ptr 1000 0) rfl ?_
 refine .q (op_load Tryd.underlying3 rfl rfl rfl rfl (by show 0 < 5; decide)) trivial rfl ?_
 refine .q (op_fieldAddr (m := 0) Tryd.underlying45 rfl (by kernel_rfl) rfl) trivial rfl ?_
 refine .as (.ptr 1008 0) rfl ?_
 refine .q (op_load Tryd.underlying3 rfl rfl rfl rfl (by show 0 < 5; decide)) trivial rfl ?_
 refine .q (op_cmpI rfl rfl rfl) trivial rfl ?_
 refine .q (op_move rfl) trivial rfl ?_
 refine .know (b' := false) (bne_self_eq_false _) ?_
 refine .q (op_fieldAddr (m := 0) Tryd.underlying41 rfl (by kernel_rfl) rfl) ⟨_, rfl, rfl⟩ rfl ?_
 refine .as (.ptr 1000 1) rfl ?_
 refine .q (op_load Tryd.underlying37 rfl rfl rfl rfl (by show 1 < 5; decide)) ⟨_, rfl, rfl⟩ rfl ?_
 refine .q (op_len_fsl Tryd.underlying37 rfl) ⟨_, rfl, rfl⟩ rfl ?_
 refine .q (op_fieldAddr (m := 0) Tryd.underlying45 rfl (by kernel_rfl) rfl) ⟨_, rfl, rfl⟩ rfl ?_
 refine .as (.ptr 1008 1) rfl ?_
 refine .q (op_load Tryd.underlying37 rfl rfl rfl rfl (by show 1 < 5; decide)) ⟨_, rfl, rfl⟩ rfl ?_
 refine .q (op_len_sl Tryd.underlying37 rfl) ⟨_, rfl, rfl⟩ rfl ?_
 refine .q (op_cmpI rfl rfl rfl) ⟨_, rfl, rfl⟩ rfl ?_
 refine .q (op_pick_false rfl rfl rfl) trivial rfl ?_
 refine .q (op_move rfl) trivial rfl ?_
 refine .know (b' := false) (bne_self_eq_false _) ?_
 refine .q (op_fieldAddr (m := 0) Tryd.underlying41 rfl (by kernel_rfl) rfl) ⟨_, rfl, rfl⟩ rfl ?_
 refine .as (.ptr 1000 2) rfl ?_
 refine .q (op_load Tryd.underlying22 rfl rfl rfl rfl (by show 2 < 5; decide)) ⟨_, rfl, rfl⟩ rfl ?_
 refine .q (op_len_dsl Tryd.underlying22 rfl) ⟨_, rfl, rfl⟩ rfl ?_
 refine .q (op_fieldAddr (m := 0) Tryd.underlying45 rfl (by kernel_rfl) rfl) ⟨_, rfl, rfl⟩ rfl ?_
 refine .as (.ptr 1008 2) rfl ?_
 refine .q (op_load Tryd.underlying22 rfl rfl rfl rfl (by show 2 < 5; decide)) ⟨_, rfl, rfl⟩ rfl ?_
 refine .q (op_len_sl Tryd.underlying22 rfl) ⟨_, rfl, rfl⟩ rfl ?_
 refine .q (op_cmpI rfl rfl rfl) ⟨_, rfl, rfl⟩ rfl ?_
 refine .q (op_pick_false rfl rfl rfl) trivial rfl ?_
 refine .q (op_move rfl) trivial rfl ?_
 refine .know (b' := false) (bne_self_eq_false _) ?_
 refine .q (op_fieldAddr (m := 0) Tryd.underlying41 rfl (by kernel_rfl) rfl) ⟨_, rfl, rfl⟩ rfl ?_
 refine .as (.ptr 1000 3) rfl ?_
 refine .q (op_load Tryd.underlying38 rfl rfl rfl rfl (by show 3 < 5; decide)) ⟨_, rfl, rfl⟩ rfl ?_
 refine .q (op_len_fsl Tryd.underlying38 rfl) ⟨_, rfl, rfl⟩ rfl ?_
 refine .q (op_fieldAddr (m := 0) Tryd.underlying45 rfl (by kernel_rfl) rfl) ⟨_, rfl, rfl⟩ rfl ?_
 refine .as (.ptr 1008 3) rfl ?_
 refine .q (op_load Tryd.underlying38 rfl rfl rfl rfl (by show 3 < 5; decide)) ⟨_, rfl, rfl⟩ rfl ?_
 refine .q (op_len_sl Tryd.underlying38 rfl) ⟨_, rfl, rfl⟩ rfl ?_
 refine .q (op_cmpI rfl rfl rfl) ⟨_, rfl, rfl⟩ rfl ?_
 refine .q (op_pick_false rfl rfl rfl) trivial rfl ?_
 refine .q (op_move rfl) trivial rfl ?_
 refine .know (b' := false) (bne_self_eq_false _) ?_
 refine .q (op_fieldAddr (m := 0) Tryd.underlying41 rfl (by kernel_rfl) rfl) ⟨_, rfl, rfl⟩ rfl ?_
 refine .as (.ptr 1000 4) rfl ?_
 refine .q (op_load Tryd.underlying39 rfl rfl rfl rfl (by show 4 < 5; decide)) ⟨_, rfl, rfl⟩ rfl ?_
 refine .q (op_len_fsl Tryd.underlying39 rfl) ⟨_, rfl, rfl⟩ rfl ?_
 refine .q (op_fieldAddr (m := 0) Tryd.underlying45 rfl (by kernel_rfl) rfl) ⟨_, rfl, rfl⟩ rfl ?_
 refine .as (.ptr 1008 4) rfl ?_
 refine .q (op_load Tryd.underlying39 rfl rfl rfl rfl (by show 4 < 5; decide)) ⟨_, rfl, rfl⟩ rfl ?_
 refine .q (op_len_sl Tryd.underlying39 rfl) ⟨_, rfl, rfl⟩ rfl ?_
 refine .q (op_cmpI rfl rfl rfl) ⟨_, rfl, rfl⟩ rfl ?_
 refine .q (op_pick_false rfl rfl rfl) trivial rfl ?_
 refine .nil ?_
 show Ev _ _ _ _ _
 refine .cond_false rfl (bne_self_eq_false _) ?_
 refine .skip ?_
 show Ev _ _ _ _ _
 refine .seq ?_
 refine .seq ?_
 refine .region ?_
 refine .q (op_fieldAddr (m := 0) Tryd.underlying45 rfl (by kernel_rfl) rfl) trivial rfl ?_
 refine .as (.ptr 1008 1) rfl ?_
 refine .q (op_load Tryd.underlying37 rfl rfl rfl rfl (by show 1 < 5; decide)) trivial rfl ?_
 refine .q (op_len_sl Tryd.underlying37 rfl) trivial rfl ?_
 refine .q (op_move rfl) trivial rfl ?_
 refine .nil ?_
 show Ev _ _ _ _ _
 refine .block ?_
 refine Ev.loop (ι := { i : Nat // i ≤ us.length }) (fun q => ⟨[(2, .ptr 1000 0), (3, .ptr 1008 0), (54, .i64 ((us.length : Nat) : Int)), (55, .i64 ((q.1 : Nat) : Int))], [(1000, some ⟨.agg [.i64 k, .fsl (List.map AV.u32 us) (us).length 1, .dsl ss, .fsl (List.map AV.dsl ns) (ns).length 1, .fsl (List.map AV.bool bs) (bs).length 1], 41, true⟩), (1008, some ⟨.agg [.i64 k, .sl 511 0 us.length 1, .sl 512 0 ss.length 1, .sl 513 0 ns.length 1, .sl 514 0 bs.length 1], 45, true⟩), (511, some ⟨.agg32 us, 43, false⟩), (512, some ⟨.aggS ss, 9, false⟩), (513, some ⟨.agg nc, 22, false⟩), (514, some ⟨.aggT bs, 4, false⟩)], 1016⟩) (fun q => us.length - q.1) ⟨0, Nat.zero_le _⟩ (StLe.mk [(1000, 1000), (1008, 1008)] rfl rfl ⟨⟨_, rfl, by rfl, rfl⟩, ⟨_, rfl, by rfl, rfl⟩, ⟨_, rfl, by rfl, rfl⟩, ⟨_, rfl, by rfl, rfl⟩, trivial⟩ ⟨⟨_, _, rfl, rfl, rfl, rfl, id, rfl⟩, ⟨_, _, rfl, rfl, rfl, rfl, id, rfl⟩, ⟨_, _, rfl, rfl, rfl, rfl, (fun h => by cases h), rfl⟩, ⟨_, _, rfl, rfl, rfl, rfl, (fun h => by cases h), rfl⟩, ⟨_, _, rfl, rfl, hnr _, rfl, (fun h => by cases h), hnn _⟩, ⟨_, _, rfl, rfl, rfl, rfl, (fun h => by cases h), rfl⟩, trivial⟩) ?_
 rintro ⟨i, hi⟩
 try dsimp only
 refine .seq ?_
 refine .region ?_
 refine .q (op_cmpI rfl rfl rfl) trivial rfl ?_
 refine .nil ?_
 show Ev _ _ _ _ _
 refine .seq ?_
 refine .cond rfl (fun hc56 => ?_) (fun hc56 => ?_)
 ·simp only [decide_eq_true_eq] at hc56
  refine .skip ?_
  show Ev _ _ _ _ _
  refine .seq ?_
  refine .block ?_
  refine .seq ?_
  refine .region ?_
  refine .q (op_move rfl) trivial rfl ?_
  refine .q (op_assign rfl) trivial rfl ?_
  refine .nil ?_
  show Ev _ _ _ _ _
  refine .seq ?_
  refine .drawn [[], [0], [], [0, 1, 2], [0, 1, 2, 3], [], [5], [], [5, 6, 7], [5, 6, 7, 8], [0, 1, 2, 3, 4, 5, 6, 7, 8, 9]] [1, 4, 6, 9] [] (by kernel_rfl) (by kernel_rfl) rfl ?_
  show DK _ [0, 1, 2, 3, 4, 5, 6, 7, 8, 9, 10] _ _ _
  refine .q rfl (op_fieldAddr (m := 0) Tryd.underlying41 rfl (by kernel_rfl) rfl) trivial ?_
  refine .as (.ptr 1000 1) rfl ?_
  refine .q rfl (op_load Tryd.underlying37 rfl rfl rfl rfl (by show 1 < 5; decide)) trivial ?_
  refine .q rfl (op_move rfl) trivial ?_
  refine .q rfl (op_indexAddr_fsl (z := 1) Tryd.underlying37 inf43.sz (by decide) rfl rfl rfl (by first | omega | (simp only [AV.len]; omega) | (simp only [AV.len, List.length_set]; omega) | assumption | (simp [AV.len]; done))) trivial ?_
  refine .q rfl (op_load_fptr Tryd.underlying43 rfl rfl (get_u32 (by omega))) trivial ?_
  refine .q rfl (op_fieldAddr (m := 0) Tryd.underlying45 rfl (by kernel_rfl) rfl) trivial ?_
  refine .as (.ptr 1008 1) rfl ?_
  refine .q rfl (op_load Tryd.underlying37 rfl rfl rfl rfl (by show 1 < 5; decide)) trivial ?_
  refine .q rfl (op_move rfl) trivial ?_
  refine .q rfl (ap_idx0 Tryd.underlying37 inf43.sz rfl rfl rfl (by omega)) trivial ?_
  refine .q rfl (op_load Tryd.underlying43 rfl rfl rfl rfl (by show i < us.length; omega)) trivial ?_
  refine .q rfl (op_bin32 rfl rfl rfl) trivial ?_
  refine .nil ?_
  show Ev _ _ _ _ _
  refine .cond_false rfl (bne_self_eq_false _) ?_
  refine .skip ?_
  show Ev _ _ _ _ _
  refine .region ?_
  refine .q (op_addI rfl rfl ⟨by omega, by omega⟩) trivial rfl ?_
  refine .q (op_move rfl) trivial rfl ?_
  refine .nil ?_
  exact ⟨⟨i + 1, by omega⟩, by (try dsimp only); omega, StLe.mk [(1000, 1000), (1008, 1008)] rfl rfl ⟨⟨_, rfl, by rfl, rfl⟩, ⟨_, rfl, by rfl, rfl⟩, ⟨_, rfl, by rfl, rfl⟩, ⟨_, rfl, by rfl, rfl⟩, trivial⟩ ⟨⟨_, _, rfl, rfl, rfl, rfl, id, rfl⟩, ⟨_, _, rfl, rfl, rfl, rfl, id, rfl⟩, ⟨_, _, rfl, rfl, rfl, rfl, (fun h => by cases h), rfl⟩, ⟨_, _, rfl, rfl, rfl, rfl, (fun h => by cases h), rfl⟩, ⟨_, _, rfl, rfl, hnr _, rfl, (fun h => by cases h), hnn _⟩, ⟨_, _, rfl, rfl, rfl, rfl, (fun h => by cases h), rfl⟩, trivial⟩⟩
 ·simp only [decide_eq_false_iff_not] at hc56
  refine .exit ?_
  show Ev _ _ _ _ _
  refine .seq ?_
  refine .seq ?_
  refine .region ?_
  refine .q (op_fieldAddr (m := 0) Tryd.underlying45 rfl (by kernel_rfl) rfl) trivial rfl ?_
  refine .as (.ptr 1008 2) rfl ?_
  refine .q (op_load Tryd.underlying22 rfl rfl rfl rfl (by show 2 < 5; decide)) trivial rfl ?_
  refine .q (op_len_sl Tryd.underlying22 rfl) trivial rfl ?_
  refine .q (op_move rfl) trivial rfl ?_
  refine .nil ?_
  show Ev _ _ _ _ _
  refine .block ?_
  refine Ev.loop (ι := { i : Nat // i ≤ ss.length }) (fun q => ⟨[(2, .ptr 1000 0), (3, .ptr 1008 0), (72, .i64 ((ss.length : Nat) : Int)), (73, .i64 ((q.1 : Nat) : Int))], [(1000, some ⟨.agg [.i64 k, .fsl (List.map AV.u32 us) (us).length 1, .dsl ss, .fsl (List.map AV.dsl ns) (ns).length 1, .fsl (List.map AV.bool bs) (bs).length 1], 41, true⟩), (1008, some ⟨.agg [.i64 k, .sl 511 0 us.length 1, .sl 512 0 ss.length 1, .sl 513 0 ns.length 1, .sl 514 0 bs.length 1], 45, true⟩), (511, some ⟨.agg32 us, 43, false⟩), (512, some ⟨.aggS ss, 9, false⟩), (513, some ⟨.agg nc, 22, false⟩), (514, some ⟨.aggT bs, 4, false⟩)], 1016⟩) (fun q => ss.length - q.1) ⟨0, Nat.zero_le _⟩ (StLe.mk [(1000, 1000), (1008, 1008)] rfl rfl ⟨⟨_, rfl, by rfl, rfl⟩, ⟨_, rfl, by rfl, rfl⟩, ⟨_, rfl, by rfl, rfl⟩, ⟨_, rfl, by rfl, rfl⟩, trivial⟩ ⟨⟨_, _, rfl, rfl, rfl, rfl, id, rfl⟩, ⟨_, _, rfl, rfl, rfl, rfl, id, rfl⟩, ⟨_, _, rfl, rfl, rfl, rfl, (fun h => by cases h), rfl⟩, ⟨_, _, rfl, rfl, rfl, rfl, (fun h => by cases h), rfl⟩, ⟨_, _, rfl, rfl, hnr _, rfl, (fun h => by cases h), hnn _⟩, ⟨_, _, rfl, rfl, rfl, rfl, (fun h => by cases h), rfl⟩, trivial⟩) ?_
  rintro ⟨i, hi⟩
  try dsimp only
  refine .seq ?_
  refine .region ?_
  refine .q (op_cmpI rfl rfl rfl) trivial rfl ?_
  refine .nil ?_
  show Ev _ _ _ _ _
  refine .seq ?_
  refine .cond rfl (fun hc74 => ?_) (fun hc74 => ?_)
  ·simp only [decide_eq_true_eq] at hc74
   refine .skip ?_
   show Ev _ _ _ _ _
   refine .seq ?_
   refine .block ?_
   refine .seq ?_
   refine .region ?_
   refine .q (op_move rfl) trivial rfl ?_
   refine .q (op_assign rfl) trivial rfl ?_
   refine .nil ?_
   show Ev _ _ _ _ _
   refine .seq ?_
   refine .drawn [[], [0], [], [0, 1, 2], [0, 1, 2, 3], [], [5], [], [5, 6, 7], [5, 6, 7, 8], [0, 1, 2, 3, 4, 5, 6, 7, 8, 9]] [1, 4, 6, 9] [] (by kernel_rfl) (by kernel_rfl) rfl ?_
   show DK _ [0, 1, 2, 3, 4, 5, 6, 7, 8, 9, 10] _ _ _
   refine .q rfl (op_fieldAddr (m := 0) Tryd.underlying41 rfl (by kernel_rfl) rfl) trivial ?_
   refine .as (.ptr 1000 2) rfl ?_
   refine .q rfl (op_load Tryd.underlying22 rfl rfl rfl rfl (by show 2 < 5; decide)) trivial ?_
   refine .q rfl (op_move rfl) trivial ?_
   refine .q rfl (op_indexAddr_dsl Tryd.underlying22 inf9.sz rfl rfl rfl (by first | omega | (simp only [AV.len]; omega) | (simp only [AV.len, List.length_set]; omega) | assumption | (simp [AV.len]; done))) trivial ?_
   refine .q rfl (op_load_dptr Tryd.underlying9 rfl rfl (drop_get (by omega))) trivial ?_
   refine .q rfl (op_fieldAddr (m := 0) Tryd.underlying45 rfl (by kernel_rfl) rfl) trivial ?_
   refine .as (.ptr 1008 2) rfl ?_
   refine .q rfl (op_load Tryd.underlying22 rfl rfl rfl rfl (by show 2 < 5; decide)) trivial ?_
   refine .q rfl (op_move rfl) trivial ?_
   refine .q rfl (ap_idx0 Tryd.underlying22 inf9.sz rfl rfl rfl (by omega)) trivial ?_
   refine .q rfl (op_load Tryd.underlying9 rfl rfl rfl rfl (by show i < ss.length; omega)) trivial ?_
   refine .q rfl (op_eqS rfl rfl rfl) trivial ?_
   refine .nil ?_
   show Ev _ _ _ _ _
   refine .cond_false rfl (bne_self_eq_false _) ?_
   refine .skip ?_
   show Ev _ _ _ _ _
   refine .region ?_
   refine .q (op_addI rfl rfl ⟨by omega, by omega⟩) trivial rfl ?_
   refine .q (op_move rfl) trivial rfl ?_
   refine .nil ?_
   exact ⟨⟨i + 1, by omega⟩, by (try dsimp only); omega, StLe.mk [(1000, 1000), (1008, 1008)] rfl rfl ⟨⟨_, rfl, by rfl, rfl⟩, ⟨_, rfl, by rfl, rfl⟩, ⟨_, rfl, by rfl, rfl⟩, ⟨_, rfl, by rfl, rfl⟩, trivial⟩ ⟨⟨_, _, rfl, rfl, rfl, rfl, id, rfl⟩, ⟨_, _, rfl, rfl, rfl, rfl, id, rfl⟩, ⟨_, _, rfl, rfl, rfl, rfl, (fun h => by cases h), rfl⟩, ⟨_, _, rfl, rfl, rfl, rfl, (fun h => by cases h), rfl⟩, ⟨_, _, rfl, rfl, hnr _, rfl, (fun h => by cases h), hnn _⟩, ⟨_, _, rfl, rfl, rfl, rfl, (fun h => by cases h), rfl⟩, trivial⟩⟩
  ·simp only [decide_eq_false_iff_not] at hc74
   refine .exit ?_
   show Ev _ _ _ _ _
   refine .seq ?_
   refine .seq ?_
   refine .region ?_
   refine .q (op_fieldAddr (m := 0) Tryd.underlying45 rfl (by kernel_rfl) rfl) trivial rfl ?_
   refine .as (.ptr 1008 4) rfl ?_
   refine .q (op_load Tryd.underlying39 rfl rfl rfl rfl (by show 4 < 5; decide)) trivial rfl ?_
   refine .q (op_len_sl Tryd.underlying39 rfl) trivial rfl ?_
   refine .q (op_move rfl) trivial rfl ?_
   refine .nil ?_
   show Ev _ _ _ _ _
   refine .block ?_
   refine Ev.loop (ι := { i : Nat // i ≤ bs.length }) (fun q => ⟨[(2, .ptr 1000 0), (3, .ptr 1008 0), (90, .i64 ((bs.length : Nat) : Int)), (91, .i64 ((q.1 : Nat) : Int))], [(1000, some ⟨.agg [.i64 k, .fsl (List.map AV.u32 us) (us).length 1, .dsl ss, .fsl (List.map AV.dsl ns) (ns).length 1, .fsl (List.map AV.bool bs) (bs).length 1], 41, true⟩), (1008, some ⟨.agg [.i64 k, .sl 511 0 us.length 1, .sl 512 0 ss.length 1, .sl 513 0 ns.length 1, .sl 514 0 bs.length 1], 45, true⟩), (511, some ⟨.agg32 us, 43, false⟩), (512, some ⟨.aggS ss, 9, false⟩), (513, some ⟨.agg nc, 22, false⟩), (514, some ⟨.aggT bs, 4, false⟩)], 1016⟩) (fun q => bs.length - q.1) ⟨0, Nat.zero_le _⟩ (StLe.mk [(1000, 1000), (1008, 1008)] rfl rfl ⟨⟨_, rfl, by rfl, rfl⟩, ⟨_, rfl, by rfl, rfl⟩, ⟨_, rfl, by rfl, rfl⟩, ⟨_, rfl, by rfl, rfl⟩, trivial⟩ ⟨⟨_, _, rfl, rfl, rfl, rfl, id, rfl⟩, ⟨_, _, rfl, rfl, rfl, rfl, id, rfl⟩, ⟨_, _, rfl, rfl, rfl, rfl, (fun h => by cases h), rfl⟩, ⟨_, _, rfl, rfl, rfl, rfl, (fun h => by cases h), rfl⟩, ⟨_, _, rfl, rfl, hnr _, rfl, (fun h => by cases h), hnn _⟩, ⟨_, _, rfl, rfl, rfl, rfl, (fun h => by cases h), rfl⟩, trivial⟩) ?_
   rintro ⟨i, hi⟩
   try dsimp only
   refine .seq ?_
   refine .region ?_
   refine .q (op_cmpI rfl rfl rfl) trivial rfl ?_
   refine .nil ?_
   show Ev _ _ _ _ _
   refine .seq ?_
   refine .cond rfl (fun hc92 => ?_) (fun hc92 => ?_)
   ·simp only [decide_eq_true_eq] at hc92
    refine .skip ?_
    show Ev _ _ _ _ _
    refine .seq ?_
    refine .block ?_
    refine .seq ?_
    refine .region ?_
    refine .q (op_move rfl) trivial rfl ?_
    refine .q (op_assign rfl) trivial rfl ?_
    refine .nil ?_
    show Ev _ _ _ _ _
    refine .seq ?_
    refine .drawn [[], [0], [], [0, 1, 2], [0, 1, 2, 3], [], [5], [], [5, 6, 7], [5, 6, 7, 8], [0, 1, 2, 3, 4, 5, 6, 7, 8, 9]] [1, 4, 6, 9] [] (by kernel_rfl) (by kernel_rfl) rfl ?_
    show DK _ [0, 1, 2, 3, 4, 5, 6, 7, 8, 9, 10] _ _ _
    refine .q rfl (op_fieldAddr (m := 0) Tryd.underlying41 rfl (by kernel_rfl) rfl) trivial ?_
    refine .as (.ptr 1000 4) rfl ?_
    refine .q rfl (op_load Tryd.underlying39 rfl rfl rfl rfl (by show 4 < 5; decide)) trivial ?_
    refine .q rfl (op_move rfl) trivial ?_
    refine .q rfl (op_indexAddr_fsl (z := 1) Tryd.underlying39 inf4.sz (by decide) rfl rfl rfl (by first | omega | (simp only [AV.len]; omega) | (simp only [AV.len, List.length_set]; omega) | assumption | (simp [AV.len]; done))) trivial ?_
    refine .q rfl (op_load_fptr Tryd.underlying4 rfl rfl (get_bool (by omega))) trivial ?_
    refine .q rfl (op_fieldAddr (m := 0) Tryd.underlying45 rfl (by kernel_rfl) rfl) trivial ?_
    refine .as (.ptr 1008 4) rfl ?_
    refine .q rfl (op_load Tryd.underlying39 rfl rfl rfl rfl (by show 4 < 5; decide)) trivial ?_
    refine .q rfl (op_move rfl) trivial ?_
    refine .q rfl (ap_idx0 Tryd.underlying39 inf4.sz rfl rfl rfl (by omega)) trivial ?_
    refine .q rfl (op_load Tryd.underlying4 rfl rfl rfl rfl (by show i < bs.length; omega)) trivial ?_
    refine .q rfl (op_eqB Tryd.underlying4 rfl rfl rfl) trivial ?_
    refine .nil ?_
    show Ev _ _ _ _ _
    refine .cond_false rfl (bne_self_eq_false _) ?_
    refine .skip ?_
    show Ev _ _ _ _ _
    refine .region ?_
    refine .q (op_addI rfl rfl ⟨by omega, by omega⟩) trivial rfl ?_
    refine .q (op_move rfl) trivial rfl ?_
    refine .nil ?_
    exact ⟨⟨i + 1, by omega⟩, by (try dsimp only); omega, StLe.mk [(1000, 1000), (1008, 1008)] rfl rfl ⟨⟨_, rfl, by rfl, rfl⟩, ⟨_, rfl, by rfl, rfl⟩, ⟨_, rfl, by rfl, rfl⟩, ⟨_, rfl, by rfl, rfl⟩, trivial⟩ ⟨⟨_, _, rfl, rfl, rfl, rfl, id, rfl⟩, ⟨_, _, rfl, rfl, rfl, rfl, id, rfl⟩, ⟨_, _, rfl, rfl, rfl, rfl, (fun h => by cases h), rfl⟩, ⟨_, _, rfl, rfl, rfl, rfl, (fun h => by cases h), rfl⟩, ⟨_, _, rfl, rfl, hnr _, rfl, (fun h => by cases h), hnn _⟩, ⟨_, _, rfl, rfl, rfl, rfl, (fun h => by cases h), rfl⟩, trivial⟩⟩
   ·simp only [decide_eq_false_iff_not] at hc92
    refine .exit ?_
    show Ev _ _ _ _ _
    refine .seq ?_
    refine .seq ?_
    refine .region ?_
    refine .q (op_fieldAddr (m := 0) Tryd.underlying45 rfl (by kernel_rfl) rfl) trivial rfl ?_
    refine .as (.ptr 1008 3) rfl ?_
    refine .q (op_load Tryd.underlying38 rfl rfl rfl rfl (by show 3 < 5; decide)) trivial rfl ?_
    refine .q (op_len_sl Tryd.underlying38 rfl) trivial rfl ?_
    refine .q (op_move rfl) trivial rfl ?_
    refine .nil ?_
    show Ev _ _ _ _ _
    refine .block ?_
    refine Ev.loop (ι := { i : Nat // i ≤ ns.length }) (fun q => ⟨[(2, .ptr 1000 0), (3, .ptr 1008 0), (108, .i64 ((ns.length : Nat) : Int)), (109, .i64 ((q.1 : Nat) : Int)), (107, .sl 513 0 ns.length 1)], [(1000, some ⟨.agg [.i64 k, .fsl (List.map AV.u32 us) (us).length 1, .dsl ss, .fsl (List.map AV.dsl ns) (ns).length 1, .fsl (List.map AV.bool bs) (bs).length 1], 41, true⟩), (1008, some ⟨.agg [.i64 k, .sl 511 0 us.length 1, .sl 512 0 ss.length 1, .sl 513 0 ns.length 1, .sl 514 0 bs.length 1], 45, true⟩), (511, some ⟨.agg32 us, 43, false⟩), (512, some ⟨.aggS ss, 9, false⟩), (513, some ⟨.agg nc, 22, false⟩), (514, some ⟨.aggT bs, 4, false⟩)], 1016⟩) (fun q => ns.length - q.1) ⟨0, Nat.zero_le _⟩ (StLe.mk [(1000, 1000), (1008, 1008)] rfl rfl ⟨⟨_, rfl, by rfl, rfl⟩, ⟨_, rfl, by rfl, rfl⟩, ⟨_, rfl, by rfl, rfl⟩, ⟨_, rfl, by rfl, rfl⟩, ⟨_, rfl, by rfl, rfl⟩, trivial⟩ ⟨⟨_, _, rfl, rfl, rfl, rfl, id, rfl⟩, ⟨_, _, rfl, rfl, rfl, rfl, id, rfl⟩, ⟨_, _, rfl, rfl, rfl, rfl, (fun h => by cases h), rfl⟩, ⟨_, _, rfl, rfl, rfl, rfl, (fun h => by cases h), rfl⟩, ⟨_, _, rfl, rfl, hnr _, rfl, (fun h => by cases h), hnn _⟩, ⟨_, _, rfl, rfl, rfl, rfl, (fun h => by cases h), rfl⟩, trivial⟩) ?_
    rintro ⟨i, hi⟩
    try dsimp only
    refine .seq ?_
    refine .region ?_
    refine .q (op_cmpI rfl rfl rfl) trivial rfl ?_
    refine .nil ?_
    show Ev _ _ _ _ _
    refine .seq ?_
    refine .cond rfl (fun hc110 => ?_) (fun hc110 => ?_)
    ·simp only [decide_eq_true_eq] at hc110
     refine .skip ?_
     show Ev _ _ _ _ _
     refine .seq ?_
     refine .block ?_
     refine .seq ?_
     refine .region ?_
     have hlt : i < ns.length := by omega
     refine .q (op_move rfl) trivial rfl ?_
     refine .q (op_indexAddr (z := 1) Tryd.underlying38 inf22.sz rfl rfl rfl hlt) trivial rfl ?_
     refine .as (.ptr 513 i) (congrArg (AV.ptr 513) (by omega)) ?_
     refine .q (op_load (k := ⟨.agg nc, 22, false⟩) Tryd.underlying22 rfl rfl rfl (nth_cell (by omega)) (show i < nc.length by omega)) trivial rfl ?_
     refine .asR (.dsl (ns.getD i [])) (hnc i hlt) ?_
     refine .q (op_assign rfl) trivial rfl ?_
     refine .q (op_assign rfl) trivial rfl ?_
     refine .nil ?_
     show Ev _ _ _ _ _
     refine .seq ?_
     refine .seq ?_
     refine .region ?_
     refine .q (op_fieldAddr (m := 0) Tryd.underlying41 rfl (by kernel_rfl) rfl) trivial rfl ?_
     refine .as (.ptr 1000 3) rfl ?_
     refine .q (op_load Tryd.underlying38 rfl rfl rfl rfl (by show 3 < 5; decide)) trivial rfl ?_
     refine .q (op_move rfl) trivial rfl ?_
     refine .q (op_indexAddr_fsl (z := 1) Tryd.underlying38 inf22.sz (by decide) rfl rfl rfl (by omega)) trivial rfl ?_
     refine .q (op_load_fptr Tryd.underlying22 rfl rfl (get_names (by omega))) trivial rfl ?_
     refine .q (op_len_dsl Tryd.underlying22 rfl) trivial rfl ?_
     refine .q (op_move rfl) trivial rfl ?_
     refine .q (op_len_dsl Tryd.underlying22 rfl) trivial rfl ?_
     refine .q (op_cmpI rfl rfl rfl) trivial rfl ?_
     refine .nil ?_
     show Ev _ _ _ _ _
     refine .cond_false rfl (bne_self_eq_false _) ?_
     refine .skip ?_
     show Ev _ _ _ _ _
     refine .seq ?_
     refine .region ?_
     refine .q (op_move rfl) trivial rfl ?_
     refine .q (op_len_dsl Tryd.underlying22 rfl) trivial rfl ?_
     refine .q (op_move rfl) trivial rfl ?_
     refine .nil ?_
     show Ev _ _ _ _ _
     refine .block ?_
     refine Ev.loop (ι := { j : Nat // j ≤ (ns.getD i []).length }) (fun q => ⟨[(2, .ptr 1000 0), (3, .ptr 1008 0), (108, .i64 ((ns.length : Nat) : Int)), (109, .i64 ((i : Nat) : Int)), (107, .sl 513 0 ns.length 1), (8, .i64 ((i : Nat) : Int)), (9, .dsl (ns.getD i [])), (124, .i64 (((ns.getD i []).length : Nat) : Int)), (125, .i64 ((q.1 : Nat) : Int))], [(1000, some ⟨.agg [.i64 k, .fsl (List.map AV.u32 us) (us).length 1, .dsl ss, .fsl (List.map AV.dsl ns) (ns).length 1, .fsl (List.map AV.bool bs) (bs).length 1], 41, true⟩), (1008, some ⟨.agg [.i64 k, .sl 511 0 us.length 1, .sl 512 0 ss.length 1, .sl 513 0 ns.length 1, .sl 514 0 bs.length 1], 45, true⟩), (511, some ⟨.agg32 us, 43, false⟩), (512, some ⟨.aggS ss, 9, false⟩), (513, some ⟨.agg nc, 22, false⟩), (514, some ⟨.aggT bs, 4, false⟩)], 1016⟩) (fun q => (ns.getD i []).length - q.1) ⟨0, Nat.zero_le _⟩ (StLe.mk [(1000, 1000), (1008, 1008)] rfl rfl ⟨⟨_, rfl, by rfl, rfl⟩, ⟨_, rfl, by rfl, rfl⟩, ⟨_, rfl, by rfl, rfl⟩, ⟨_, rfl, by rfl, rfl⟩, ⟨_, rfl, by rfl, rfl⟩, ⟨_, rfl, by rfl, rfl⟩, ⟨_, rfl, by rfl, rfl⟩, ⟨_, rfl, by rfl, rfl⟩, ⟨_, rfl, by rfl, rfl⟩, trivial⟩ ⟨⟨_, _, rfl, rfl, rfl, rfl, id, rfl⟩, ⟨_, _, rfl, rfl, rfl, rfl, id, rfl⟩, ⟨_, _, rfl, rfl, rfl, rfl, (fun h => by cases h), rfl⟩, ⟨_, _, rfl, rfl, rfl, rfl, (fun h => by cases h), rfl⟩, ⟨_, _, rfl, rfl, hnr _, rfl, (fun h => by cases h), hnn _⟩, ⟨_, _, rfl, rfl, rfl, rfl, (fun h => by cases h), rfl⟩, trivial⟩) ?_
     rintro ⟨j, hj⟩
     try dsimp only
     refine .seq ?_
     refine .region ?_
     refine .q (op_cmpI rfl rfl rfl) trivial rfl ?_
     refine .nil ?_
     show Ev _ _ _ _ _
     refine .seq ?_
     refine .cond rfl (fun hc126 => ?_) (fun hc126 => ?_)
     ·simp only [decide_eq_true_eq] at hc126
      refine .skip ?_
      show Ev _ _ _ _ _
      refine .seq ?_
      refine .block ?_
      refine .seq ?_
      refine .region ?_
      refine .q (op_move rfl) trivial rfl ?_
      refine .q (op_assign rfl) trivial rfl ?_
      refine .nil ?_
      show Ev _ _ _ _ _
      refine .seq ?_
      refine .drawn [[], [0], [], [0, 1, 2], [0, 1, 2, 3], [], [0, 1, 2, 3, 4, 5], [0, 1, 2, 3, 4, 5, 6], [], [], [8, 9], [8, 9, 10], [0, 1, 2, 3, 4, 5, 6, 7, 8, 9, 10, 11]] [1, 4, 7, 11] [] (by kernel_rfl) (by kernel_rfl) rfl ?_
      show DK _ [0, 1, 2, 3, 4, 5, 6, 7, 8, 9, 10, 11, 12] _ _ _
      refine .q rfl (op_fieldAddr (m := 0) Tryd.underlying41 rfl (by kernel_rfl) rfl) trivial ?_
      refine .as (.ptr 1000 3) rfl ?_
      refine .q rfl (op_load Tryd.underlying38 rfl rfl rfl rfl (by show 3 < 5; decide)) trivial ?_
      refine .q rfl (op_move rfl) trivial ?_
      refine .q rfl (op_indexAddr_fsl (z := 1) Tryd.underlying38 inf22.sz (by decide) rfl rfl rfl (by omega)) trivial ?_
      refine .q rfl (op_load_fptr Tryd.underlying22 rfl rfl (get_names (by omega))) trivial ?_
      refine .q rfl (op_move rfl) trivial ?_
      refine .q rfl (op_indexAddr_dsl Tryd.underlying22 inf9.sz rfl rfl rfl (by omega)) trivial ?_
      refine .q rfl (op_load_dptr Tryd.underlying9 rfl rfl (drop_get (by omega))) trivial ?_
      refine .q rfl (op_move rfl) trivial ?_
      refine .q rfl (op_move rfl) trivial ?_
      refine .q rfl (op_indexAddr_dsl Tryd.underlying22 inf9.sz rfl rfl rfl (by omega)) trivial ?_
      refine .q rfl (op_load_dptr Tryd.underlying9 rfl rfl (drop_get (by omega))) trivial ?_
      refine .q rfl (op_eqS rfl rfl rfl) trivial ?_
      refine .nil ?_
      show Ev _ _ _ _ _
      refine .cond_false rfl (bne_self_eq_false _) ?_
      refine .skip ?_
      show Ev _ _ _ _ _
      refine .region ?_
      refine .q (op_addI rfl rfl ⟨by have := hjl i; omega, by have := hjl i; omega⟩) trivial rfl ?_
      refine .q (op_move rfl) trivial rfl ?_
      refine .nil ?_
      exact ⟨⟨j + 1, by omega⟩, by (try dsimp only); omega, StLe.mk [(1000, 1000), (1008, 1008)] rfl rfl ⟨⟨_, rfl, by rfl, rfl⟩, ⟨_, rfl, by rfl, rfl⟩, ⟨_, rfl, by rfl, rfl⟩, ⟨_, rfl, by rfl, rfl⟩, ⟨_, rfl, by rfl, rfl⟩, ⟨_, rfl, by rfl, rfl⟩, ⟨_, rfl, by rfl, rfl⟩, ⟨_, rfl, by rfl, rfl⟩, ⟨_, rfl, by rfl, rfl⟩, trivial⟩ ⟨⟨_, _, rfl, rfl, rfl, rfl, id, rfl⟩, ⟨_, _, rfl, rfl, rfl, rfl, id, rfl⟩, ⟨_, _, rfl, rfl, rfl, rfl, (fun h => by cases h), rfl⟩, ⟨_, _, rfl, rfl, rfl, rfl, (fun h => by cases h), rfl⟩, ⟨_, _, rfl, rfl, hnr _, rfl, (fun h => by cases h), hnn _⟩, ⟨_, _, rfl, rfl, rfl, rfl, (fun h => by cases h), rfl⟩, trivial⟩⟩
     ·simp only [decide_eq_false_iff_not] at hc126
      refine .exit ?_
      show Ev _ _ _ _ _
      refine .region ?_
      refine .q (op_addI rfl rfl ⟨by omega, by omega⟩) trivial rfl ?_
      refine .q (op_move rfl) trivial rfl ?_
      refine .nil ?_
      exact ⟨⟨i + 1, by omega⟩, by (try dsimp only); omega, StLe.mk [(1000, 1000), (1008, 1008)] rfl rfl ⟨⟨_, rfl, by rfl, rfl⟩, ⟨_, rfl, by rfl, rfl⟩, ⟨_, rfl, by rfl, rfl⟩, ⟨_, rfl, by rfl, rfl⟩, ⟨_, rfl, by rfl, rfl⟩, trivial⟩ ⟨⟨_, _, rfl, rfl, rfl, rfl, id, rfl⟩, ⟨_, _, rfl, rfl, rfl, rfl, id, rfl⟩, ⟨_, _, rfl, rfl, rfl, rfl, (fun h => by cases h), rfl⟩, ⟨_, _, rfl, rfl, rfl, rfl, (fun h => by cases h), rfl⟩, ⟨_, _, rfl, rfl, hnr _, rfl, (fun h => by cases h), hnn _⟩, ⟨_, _, rfl, rfl, rfl, rfl, (fun h => by cases h), rfl⟩, trivial⟩⟩
    ·simp only [decide_eq_false_iff_not] at hc110
     refine .exit ?_
     show Ev _ _ _ _ _
     refine .seq ?_
     refine .region ?_
     refine .q (op_assign rfl) trivial rfl ?_
     refine .nil ?_
     show Ev _ _ _ _ _
     refine .ret ?_
     show RetOk _ _ _ _ _ _ _
     exact ret1v rfl (.inl rfl) rfl rfl ⟨rfl, rfl, rfl, rfl, trivial⟩
end Go.Proofs.YtalhfkmkmmfkcaaDoor
namespace Go.Proofs.YtalhfkmkmmfkcaaDoor
open Go.RowKit
theorem take_min {α : Type} (l : List α) (n : Nat) : l.take (min l.length n) = l.take n := by
  rcases Nat.le_total l.length n with h | h
  · rw [Nat.min_eq_left h, List.take_length, List.take_of_length_le h]
  · rw [Nat.min_eq_right h]
theorem want_nc (l0 l1 l2 l3 l4 : List (List UInt8)) : ∀ i, i < 10 → ∀ E y, Rel E (([.dsl l0, .dsl l1, .dsl l2, .dsl l2, .dsl l3, .dsl l3, .dsl l4, .dsl l4, .nilsl, .nilsl] : List AV).getD i .nilsl) y → Rel E (.dsl (([l0, l1, l2, l2, l3, l3, l4, l4, [], []] : List (List (List UInt8))).getD i [])) y := by
  intro i hi
  match i, hi with
  | 0, _ => exact fun _ _ h => h
  | 1, _ => exact fun _ _ h => h
  | 2, _ => exact fun _ _ h => h
  | 3, _ => exact fun _ _ h => h
  | 4, _ => exact fun _ _ h => h
  | 5, _ => exact fun _ _ h => h
  | 6, _ => exact fun _ _ h => h
  | 7, _ => exact fun _ _ h => h
  | 8, _ => exact nil_dsl
  | 9, _ => exact nil_dsl
  | n + 10, h => omega
theorem want_len (l0 l1 l2 l3 l4 : List (List UInt8)) (h0 : l0.length ≤ 5) (h1 : l1.length ≤ 5) (h2 : l2.length ≤ 5) (h3 : l3.length ≤ 5) (h4 : l4.length ≤ 5) : ∀ i, (([l0, l1, l2, l2, l3, l3, l4, l4, [], []] : List (List (List UInt8))).getD i []).length ≤ 1000000 := by
  have h := all_idx (l := [l0, l1, l2, l2, l3, l3, l4, l4, [], []]) (p := fun l => decide (l.length ≤ 1000000)) [] (by simp; omega) rfl
  exact fun i => of_decide_eq_true (h i)
set_option maxRecDepth 100000 in
theorem few5_ev (l : List (List UInt8)) : Meets Tryd.prog 10 [.dsl l] [] (.dsl (l.take 5)) [] := by
 refine meets_of_ev (nt := 8) Tryd.func10 rfl rfl (Nat.le_of_ble_eq_true rfl) ?_
 refine .seq ?_
 refine .region ?_
 refine .q (op_assign rfl) trivial rfl ?_
 refine .nil ?_
 show Ev _ _ _ _ _
 refine .seq ?_
 refine .region ?_
 refine .q (op_move rfl) trivial rfl ?_
 refine .q (op_move rfl) trivial rfl ?_
 refine .q (op_len_dsl Tryd.underlying22 rfl) trivial rfl ?_
 refine .q (op_minI rfl rfl) trivial rfl ?_
 refine .q (op_first_dsl (q := min l.length 5) Tryd.underlying22 inf9.sz rfl (bnd_some rfl (by omega)) (Nat.min_le_left _ _)) trivial rfl ?_
 refine .q (op_assign rfl) trivial rfl ?_
 refine .nil ?_
 show Ev _ _ _ _ _
 refine .ret ?_
 show RetOk _ _ _ _ _ _ _
 exact ret1v rfl (.inl rfl) rfl (congrArg AV.dsl (take_min l 5)) trivial
set_option maxRecDepth 100000 in
theorem offerMakes_ev (cookie : List UInt8) (hc : cookie.length = 16) (l0 l1 l2 l3 l4 : List (List UInt8)) (_h0 : l0.length ≤ maxLen) (_h1 : l1.length ≤ maxLen) (_h2 : l2.length ≤ maxLen) (_h3 : l3.length ≤ maxLen) (_h4 : l4.length ≤ maxLen) (guess : Bool) : Meets Tryd.prog 4 [.aggB cookie, .agg [.dsl l0, .dsl l1, .dsl l2, .dsl l3, .dsl l4], .bool guess] [(21, some ⟨.agg kindCells, errT, false⟩), (20, some ⟨.aggS placesL, errT, false⟩)] (.bool true) [] := by
 refine meets_of_ev (nt := 64) Tryd.func4 rfl rfl (Nat.le_of_ble_eq_true rfl) ?_
 refine .seq ?_
 refine .region ?_
 refine .a (op_boxRow rfl rfl) trivial rfl ?_
 refine .a (op_boxRow rfl rfl) trivial rfl ?_
 refine .q (op_assign rfl) trivial rfl ?_
 refine .nil ?_
 show Ev _ _ _ _ _
 refine .seq ?_
 refine .seq ?_
 refine .region ?_
 refine .q (op_call (U := []) [] [] (awake13_ev) Tryd.func5 (by kernel_rfl) rfl rfl rfl (trivial) (⟨⟨_, _, rfl, rfl, rfl, rfl, (fun h => by cases h), rfl⟩, ⟨_, _, rfl, rfl, rfl, rfl, (fun h => by cases h), rfl⟩, trivial⟩) (trivial) (⟨(fun h => by cases h), (fun h => by cases h), trivial⟩) rfl) trivial rfl ?_
 refine .q (op_notB rfl) trivial rfl ?_
 refine .nil ?_
 show Ev _ _ _ _ _
 refine .cond_false rfl (rfl) ?_
 refine .skip ?_
 show Ev _ _ _ _ _
 refine .seq ?_
 refine .region ?_
 refine .q (op_assign rfl) trivial rfl ?_
 refine .asR (.clo 10 []) (fn_clo _) ?_
 refine .nil ?_
 show Ev _ _ _ _ _
 refine .seq ?_
 refine .drawn [[], [], [1], [0, 1, 2], [], [], [5], [0, 1, 2, 3, 4, 5, 6], [], [], [9], [0, 1, 2, 3, 4, 5, 6, 7, 8, 9, 10], [], [], [13], [0, 1, 2, 3, 4, 5, 6, 7, 8, 9, 10, 11, 12, 13, 14], [], [], [17], [0, 1, 2, 3, 4, 5, 6, 7, 8, 9, 10, 11, 12, 13, 14, 15, 16, 17, 18], [0, 1, 2, 3, 4, 5, 6, 7, 8, 9, 10, 11, 12, 13, 14, 15, 16, 17, 18, 19], [0, 1, 2, 3, 4, 5, 6, 7, 8, 9, 10, 11, 12, 13, 14, 15, 16, 17, 18, 19, 20]] [2, 3, 6, 7, 10, 11, 14, 15, 18, 19, 21] [21] (by kernel_rfl) (by kernel_rfl) rfl ?_
 show DK _ [0, 1, 2, 3, 4, 5, 6, 7, 8, 9, 10, 11, 12, 13, 14, 15, 16, 17, 18, 19, 20, 21] _ _ _
 refine .q rfl (op_move rfl) trivial ?_
 refine .q rfl (op_fieldAddr (m := 0) Tryd.underlying35 rfl (by kernel_rfl) rfl) trivial ?_
 refine .as (.ptr 1008 0) rfl ?_
 refine .q rfl (op_load Tryd.underlying22 rfl rfl rfl rfl (by show 0 < 5; decide)) trivial ?_
 refine .q rfl (op_callClo (args := [.dsl l0]) (args2 := []) (U := []) [] [] (few5_ev l0) Tryd.func10 (by kernel_rfl) rfl rfl rfl rfl rfl rfl ⟨⟨_, rfl, rfl, rfl⟩, trivial⟩ trivial trivial trivial rfl) trivial ?_
 refine .as (.dsl (l0.take 5)) rfl ?_
 refine .q rfl (op_move rfl) trivial ?_
 refine .q rfl (op_fieldAddr (m := 0) Tryd.underlying35 rfl (by kernel_rfl) rfl) trivial ?_
 refine .as (.ptr 1008 1) rfl ?_
 refine .q rfl (op_load Tryd.underlying22 rfl rfl rfl rfl (by show 1 < 5; decide)) trivial ?_
 refine .q rfl (op_callClo (args := [.dsl l1]) (args2 := []) (U := []) [] [] (few5_ev l1) Tryd.func10 (by kernel_rfl) rfl rfl rfl rfl rfl rfl ⟨⟨_, rfl, rfl, rfl⟩, trivial⟩ trivial trivial trivial rfl) trivial ?_
 refine .as (.dsl (l1.take 5)) rfl ?_
 refine .q rfl (op_move rfl) trivial ?_
 refine .q rfl (op_fieldAddr (m := 0) Tryd.underlying35 rfl (by kernel_rfl) rfl) trivial ?_
 refine .as (.ptr 1008 2) rfl ?_
 refine .q rfl (op_load Tryd.underlying22 rfl rfl rfl rfl (by show 2 < 5; decide)) trivial ?_
 refine .q rfl (op_callClo (args := [.dsl l2]) (args2 := []) (U := []) [] [] (few5_ev l2) Tryd.func10 (by kernel_rfl) rfl rfl rfl rfl rfl rfl ⟨⟨_, rfl, rfl, rfl⟩, trivial⟩ trivial trivial trivial rfl) trivial ?_
 refine .as (.dsl (l2.take 5)) rfl ?_
 refine .q rfl (op_move rfl) trivial ?_
 refine .q rfl (op_fieldAddr (m := 0) Tryd.underlying35 rfl (by kernel_rfl) rfl) trivial ?_
 refine .as (.ptr 1008 3) rfl ?_
 refine .q rfl (op_load Tryd.underlying22 rfl rfl rfl rfl (by show 3 < 5; decide)) trivial ?_
 refine .q rfl (op_callClo (args := [.dsl l3]) (args2 := []) (U := []) [] [] (few5_ev l3) Tryd.func10 (by kernel_rfl) rfl rfl rfl rfl rfl rfl ⟨⟨_, rfl, rfl, rfl⟩, trivial⟩ trivial trivial trivial rfl) trivial ?_
 refine .as (.dsl (l3.take 5)) rfl ?_
 refine .q rfl (op_move rfl) trivial ?_
 refine .q rfl (op_fieldAddr (m := 0) Tryd.underlying35 rfl (by kernel_rfl) rfl) trivial ?_
 refine .as (.ptr 1008 4) rfl ?_
 refine .q rfl (op_load Tryd.underlying22 rfl rfl rfl rfl (by show 4 < 5; decide)) trivial ?_
 refine .q rfl (op_callClo (args := [.dsl l4]) (args2 := []) (U := []) [] [] (few5_ev l4) Tryd.func10 (by kernel_rfl) rfl rfl rfl rfl rfl rfl ⟨⟨_, rfl, rfl, rfl⟩, trivial⟩ trivial trivial trivial rfl) trivial ?_
 refine .as (.dsl (l4.take 5)) rfl ?_
 refine .q rfl (op_buildS (r := .agg [.dsl (l0.take 5), .dsl (l1.take 5), .dsl (l2.take 5), .dsl (l3.take 5), .dsl (l4.take 5)]) Tryd.underlying35 rfl zero35 rel_zero35 rfl rfl rfl rfl) trivial ?_
 refine .w rfl (op_storeRow (by kernel_rfl) rfl rfl rfl rfl rfl (rfl) (rfl)) trivial rfl rfl ?_
 refine .nil ?_
 show Ev _ _ _ _ _
 refine .seq ?_
 refine .region ?_
 refine .q (op_loadRow Tryd.underlying33 rfl sz33 rfl rfl rfl (by first | omega | (simp only [AV.len]; omega) | (simp only [AV.len, List.length_set]; omega) | assumption | (simp [AV.len]; done))) trivial rfl ?_
 refine .q (op_loadRow Tryd.underlying35 rfl (by kernel_rfl) rfl rfl rfl (rfl)) trivial rfl ?_
 refine .q (op_move rfl) trivial rfl ?_
 refine .q (op_call (U := []) [] [] (make_ev cookie hc (l0.take 5) (l1.take 5) (l2.take 5) (l3.take 5) (l4.take 5) (Nat.le_trans (List.length_take_le 5 _) (by decide)) (Nat.le_trans (List.length_take_le 5 _) (by decide)) (Nat.le_trans (List.length_take_le 5 _) (by decide)) (Nat.le_trans (List.length_take_le 5 _) (by decide)) (Nat.le_trans (List.length_take_le 5 _) (by decide)) guess) Tryd.func11 (by kernel_rfl) rfl rfl rfl (⟨⟨_, rfl, rfl, rfl⟩, ⟨_, rfl, rfl, rfl⟩, ⟨_, rfl, rfl, rfl⟩, trivial⟩) (trivial) (trivial) (trivial) rfl) trivial rfl ?_
 refine .a (op_allocRow zero41 rel_zero41 rfl) trivial rfl ?_
 refine .w (op_storeRow (by kernel_rfl) rfl rfl rfl rfl rfl (rfl) (rfl)) trivial rfl ?_
 refine .nil ?_
 show Ev _ _ _ _ _
 refine .seq ?_
 refine .drawn [[], [], [1], [1, 2], [], [4], [], [6], [], [8], [], [10], [], [12], [], [14], [], [16], [], [18], [], [20], [6, 7, 8, 9, 10, 11, 12, 13, 14, 15, 16, 17, 18, 19, 20, 21], [0, 1, 2, 3, 4, 5, 6, 7, 8, 9, 10, 11, 12, 13, 14, 15, 16, 17, 18, 19, 20, 21, 22], [], [0, 1, 2, 3, 4, 5, 6, 7, 8, 9, 10, 11, 12, 13, 14, 15, 16, 17, 18, 19, 20, 21, 22, 23, 24]] [0, 1, 2, 3, 5, 7, 9, 11, 13, 15, 17, 19, 21, 22, 24, 25] [25] (by kernel_rfl) (by kernel_rfl) rfl ?_
 show DK _ [0, 1, 2, 3, 4, 5, 6, 7, 8, 9, 10, 11, 12, 13, 14, 15, 16, 17, 18, 19, 20, 21, 22, 23, 24, 25] _ _ _
 refine .a rfl (ap_build (us := [.u32 0]) (c := .agg32 [0]) Tryd.underlying37 inf43 rfl (by decide) (by decide) ⟨rfl, rfl, rfl, trivial⟩ rfl) trivial rfl rfl ?_
 refine .q rfl (op_slice_arr Tryd.underlying33 inf5.sz rfl rfl (by rw [AV.len, hc]; exact Nat.le_refl _) (by decide) rfl rfl (by decide) (by decide)) trivial ?_
 refine .q rfl (op_bytes_str Tryd.underlying44 Tryd.underlying5 Tryd.underlying9 rfl rfl rfl (by show 0 + 16 ≤ cookie.length; omega)) trivial ?_
 refine .as (.str cookie) (congrArg AV.str (by rw [List.drop_zero, List.take_of_length_le (by omega)])) ?_
 refine .a rfl (ap_build (us := [.str cookie]) (c := .aggS [cookie]) Tryd.underlying22 inf9 rfl (by decide) (by decide) ⟨rfl, rfl, rfl, trivial⟩ rfl) trivial rfl rfl ?_
 refine .q rfl (op_move rfl) trivial ?_
 refine .a rfl (ap_build (us := [.bool guess]) (c := .aggT [guess]) Tryd.underlying39 inf4 rfl (by decide) (by decide) ⟨rfl, rfl, rfl, trivial⟩ rfl) trivial rfl rfl ?_
 refine .q rfl (op_fieldAddr (m := 0) Tryd.underlying35 rfl (by kernel_rfl) rfl) trivial ?_
 refine .as (.ptr 1008 0) rfl ?_
 refine .q rfl (op_load Tryd.underlying22 rfl rfl rfl rfl (by show 0 < 5; decide)) trivial ?_
 refine .q rfl (op_fieldAddr (m := 0) Tryd.underlying35 rfl (by kernel_rfl) rfl) trivial ?_
 refine .as (.ptr 1008 1) rfl ?_
 refine .q rfl (op_load Tryd.underlying22 rfl rfl rfl rfl (by show 1 < 5; decide)) trivial ?_
 refine .q rfl (op_fieldAddr (m := 0) Tryd.underlying35 rfl (by kernel_rfl) rfl) trivial ?_
 refine .as (.ptr 1008 2) rfl ?_
 refine .q rfl (op_load Tryd.underlying22 rfl rfl rfl rfl (by show 2 < 5; decide)) trivial ?_
 refine .q rfl (op_fieldAddr (m := 0) Tryd.underlying35 rfl (by kernel_rfl) rfl) trivial ?_
 refine .as (.ptr 1008 2) rfl ?_
 refine .q rfl (op_load Tryd.underlying22 rfl rfl rfl rfl (by show 2 < 5; decide)) trivial ?_
 refine .q rfl (op_fieldAddr (m := 0) Tryd.underlying35 rfl (by kernel_rfl) rfl) trivial ?_
 refine .as (.ptr 1008 3) rfl ?_
 refine .q rfl (op_load Tryd.underlying22 rfl rfl rfl rfl (by show 3 < 5; decide)) trivial ?_
 refine .q rfl (op_fieldAddr (m := 0) Tryd.underlying35 rfl (by kernel_rfl) rfl) trivial ?_
 refine .as (.ptr 1008 3) rfl ?_
 refine .q rfl (op_load Tryd.underlying22 rfl rfl rfl rfl (by show 3 < 5; decide)) trivial ?_
 refine .q rfl (op_fieldAddr (m := 0) Tryd.underlying35 rfl (by kernel_rfl) rfl) trivial ?_
 refine .as (.ptr 1008 4) rfl ?_
 refine .q rfl (op_load Tryd.underlying22 rfl rfl rfl rfl (by show 4 < 5; decide)) trivial ?_
 refine .q rfl (op_fieldAddr (m := 0) Tryd.underlying35 rfl (by kernel_rfl) rfl) trivial ?_
 refine .as (.ptr 1008 4) rfl ?_
 refine .q rfl (op_load Tryd.underlying22 rfl rfl rfl rfl (by show 4 < 5; decide)) trivial ?_
 refine .a rfl (ap_build (us := [.dsl (l0.take 5), .dsl (l1.take 5), .dsl (l2.take 5), .dsl (l2.take 5), .dsl (l3.take 5), .dsl (l3.take 5), .dsl (l4.take 5), .dsl (l4.take 5), .nilsl, .nilsl]) (c := .agg [.dsl (l0.take 5), .dsl (l1.take 5), .dsl (l2.take 5), .dsl (l2.take 5), .dsl (l3.take 5), .dsl (l3.take 5), .dsl (l4.take 5), .dsl (l4.take 5), .nilsl, .nilsl]) Tryd.underlying38 inf22 rfl (by decide) (by decide) ⟨rfl, rfl, rfl, rfl, rfl, rfl, rfl, rfl, rfl, rfl, rfl, rfl, rfl, rfl, rfl, rfl, rfl, rfl, rfl, rfl, rfl, rfl, rfl, rfl, rfl, rfl, rfl, rfl, rfl, rfl, trivial⟩ rfl) trivial rfl rfl ?_
 refine .q rfl (op_buildS (r := .agg [.i64 20, .sl 1200 0 1 1, .sl 1224 0 1 1, .sl 1376 0 10 1, .sl 1240 0 1 1]) Tryd.underlying45 rfl zero45 rel_zero45 rfl rfl rfl rfl) trivial ?_
 refine .a rfl (op_allocRow zero45 rel_zero45 rfl) trivial rfl rfl ?_
 refine .w rfl (op_storeRow (by kernel_rfl) rfl rfl rfl rfl rfl (rfl) (rfl)) trivial rfl rfl ?_
 refine .nil ?_
 show Ev _ _ _ _ _
 refine .seq ?_
 refine .region ?_
 refine .q (op_loadRow Tryd.underlying41 rfl (by kernel_rfl) rfl rfl rfl (rfl)) trivial rfl ?_
 refine .q (op_loadRow Tryd.underlying45 rfl (by kernel_rfl) rfl rfl rfl (rfl)) trivial rfl ?_
 refine .q (op_call (U := []) [(511, 1200), (512, 1224), (513, 1376), (514, 1240)] [] (same_fb 20 [0] [cookie] [(l0.take 5), (l1.take 5), (l2.take 5), (l2.take 5), (l3.take 5), (l3.take 5), (l4.take 5), (l4.take 5), [], []] [guess] [.dsl (l0.take 5), .dsl (l1.take 5), .dsl (l2.take 5), .dsl (l2.take 5), .dsl (l3.take 5), .dsl (l3.take 5), .dsl (l4.take 5), .dsl (l4.take 5), .nilsl, .nilsl] (by decide) (Nat.le_of_ble_eq_true rfl) (Nat.le_of_ble_eq_true rfl) (Nat.le_of_ble_eq_true rfl) (want_len (l0.take 5) (l1.take 5) (l2.take 5) (l3.take 5) (l4.take 5) (List.length_take_le 5 _) (List.length_take_le 5 _) (List.length_take_le 5 _) (List.length_take_le 5 _) (List.length_take_le 5 _)) rfl (want_nc (l0.take 5) (l1.take 5) (l2.take 5) (l3.take 5) (l4.take 5)) (fun f => rfl) (fun L => rfl)) Tryd.func12 (by kernel_rfl) rfl rfl rfl (⟨⟨_, rfl, rfl, rfl⟩, ⟨_, rfl, rfl, rfl⟩, trivial⟩) (⟨⟨_, _, rfl, rfl, rfl, rfl, (fun h => by cases h), rfl⟩, ⟨_, _, rfl, rfl, rfl, rfl, (fun h => by cases h), rfl⟩, ⟨_, _, rfl, rfl, rfl, rfl, (fun h => by cases h), rfl⟩, ⟨_, _, rfl, rfl, rfl, rfl, (fun h => by cases h), rfl⟩, trivial⟩) (trivial) (⟨(fun h => by cases h), (fun h => by cases h), (fun h => by cases h), (fun h => by cases h), trivial⟩) rfl) trivial rfl ?_
 refine .q (op_assign rfl) trivial rfl ?_
 refine .nil ?_
 show Ev _ _ _ _ _
 refine .ret ?_
 show RetOk _ _ _ _ _ _ _
 exact ret1v rfl (.inl rfl) rfl rfl trivial
end Go.Proofs.YtalhfkmkmmfkcaaDoor
