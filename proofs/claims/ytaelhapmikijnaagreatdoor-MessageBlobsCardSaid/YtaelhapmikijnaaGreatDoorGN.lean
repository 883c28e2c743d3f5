/-
  The scalars of the reference, walked; the fixed fact of layer 7.
-/
import Derived.Test.YtaelhapmikijnaaGreatDoorGM
namespace Go.Proofs.YtaelhapmikijnaaGreatDoor
open Go.RowKit
def a10 : List UInt8 := [94, 0, 0, 0, 7, 0, 0, 0, 2, 97, 98]
set_option maxRecDepth 100000 in
theorem same_US (k : Int) (nu ns : Nat) (us : List UInt32) (hU : nu = us.length) (lU : nu ≤ 1000) (ss : List (List UInt8)) (hS : ns = ss.length) (lS : ns ≤ 1000) : Meets Tryz.prog 16 [.agg [.i64 (k), .sl 511 (0) (nu) 1, .sl 512 (0) (ns) 1, .nilsl, .nilsl], .agg [.i64 (k), .sl 521 (0) (nu) 1, .sl 522 (0) (ns) 1, .nilsl, .nilsl]] [(511, some ⟨.agg32 us, 42, false⟩), (521, some ⟨.agg32 us, 42, false⟩), (512, some ⟨.aggS ss, 9, false⟩), (522, some ⟨.aggS ss, 9, false⟩)] (.bool true) [(511, some ⟨.agg32 us, 42, false⟩), (521, some ⟨.agg32 us, 42, false⟩), (512, some ⟨.aggS ss, 9, false⟩), (522, some ⟨.aggS ss, 9, false⟩)] := by
 refine meets_of_ev (nt := 143) Tryz.func16 rfl rfl (Nat.le_of_ble_eq_true rfl) ?_
 refine .seq ?_
 refine .region ?_
 refine .a (op_boxRow rfl rfl) trivial rfl ?_
 refine .a (op_boxRow rfl rfl) trivial rfl ?_
 refine .q (op_assign rfl) trivial rfl ?_
 refine .nil ?_
 show Ev _ _ _ _ _
 refine .seq ?_
 refine .seq ?_
 refine .region ?_
 refine .q (op_fieldAddr (m := 0) Tryz.underlying47 rfl (by kernel_rfl) rfl) trivial rfl ?_
 refine .as (.ptr 1000 0) rfl ?_
 refine .q (op_load Tryz.underlying3 rfl rfl rfl rfl (by first | omega | (simp only [AV.len]; omega) | (simp only [AV.len]; omega) | assumption | (simp [AV.len]; done))) trivial rfl ?_
 refine .q (op_fieldAddr (m := 0) Tryz.underlying52 rfl (by kernel_rfl) rfl) trivial rfl ?_
 refine .as (.ptr 1008 0) rfl ?_
 refine .q (op_load Tryz.underlying3 rfl rfl rfl rfl (by first | omega | (simp only [AV.len]; omega) | (simp only [AV.len]; omega) | assumption | (simp [AV.len]; done))) trivial rfl ?_
 refine .q (op_cmpI rfl rfl rfl) trivial rfl ?_
 refine .q (op_move rfl) trivial rfl ?_
 refine .know (b' := false) (bne_self_eq_false _) ?_
 refine .q (op_fieldAddr (m := 0) Tryz.underlying47 rfl (by kernel_rfl) rfl) ⟨_, rfl, rfl⟩ rfl ?_
 refine .as (.ptr 1000 1) rfl ?_
 refine .q (op_load Tryz.underlying43 rfl rfl rfl rfl (by first | omega | (simp only [AV.len]; omega) | (simp only [AV.len]; omega) | assumption | (simp [AV.len]; done))) ⟨_, rfl, rfl⟩ rfl ?_
 refine .q (op_len_sl Tryz.underlying43 rfl) ⟨_, rfl, rfl⟩ rfl ?_
 refine .q (op_fieldAddr (m := 0) Tryz.underlying52 rfl (by kernel_rfl) rfl) ⟨_, rfl, rfl⟩ rfl ?_
 refine .as (.ptr 1008 1) rfl ?_
 refine .q (op_load Tryz.underlying43 rfl rfl rfl rfl (by first | omega | (simp only [AV.len]; omega) | (simp only [AV.len]; omega) | assumption | (simp [AV.len]; done))) ⟨_, rfl, rfl⟩ rfl ?_
 refine .q (op_len_sl Tryz.underlying43 rfl) ⟨_, rfl, rfl⟩ rfl ?_
 refine .q (op_cmpI rfl rfl rfl) ⟨_, rfl, rfl⟩ rfl ?_
 refine .q (op_pick_false rfl rfl rfl) trivial rfl ?_
 refine .q (op_move rfl) trivial rfl ?_
 refine .know (b' := false) (bne_self_eq_false _) ?_
 refine .q (op_fieldAddr (m := 0) Tryz.underlying47 rfl (by kernel_rfl) rfl) ⟨_, rfl, rfl⟩ rfl ?_
 refine .as (.ptr 1000 2) rfl ?_
 refine .q (op_load Tryz.underlying36 rfl rfl rfl rfl (by first | omega | (simp only [AV.len]; omega) | (simp only [AV.len]; omega) | assumption | (simp [AV.len]; done))) ⟨_, rfl, rfl⟩ rfl ?_
 refine .q (op_len_sl Tryz.underlying36 rfl) ⟨_, rfl, rfl⟩ rfl ?_
 refine .q (op_fieldAddr (m := 0) Tryz.underlying52 rfl (by kernel_rfl) rfl) ⟨_, rfl, rfl⟩ rfl ?_
 refine .as (.ptr 1008 2) rfl ?_
 refine .q (op_load Tryz.underlying36 rfl rfl rfl rfl (by first | omega | (simp only [AV.len]; omega) | (simp only [AV.len]; omega) | assumption | (simp [AV.len]; done))) ⟨_, rfl, rfl⟩ rfl ?_
 refine .q (op_len_sl Tryz.underlying36 rfl) ⟨_, rfl, rfl⟩ rfl ?_
 refine .q (op_cmpI rfl rfl rfl) ⟨_, rfl, rfl⟩ rfl ?_
 refine .q (op_pick_false rfl rfl rfl) trivial rfl ?_
 refine .q (op_move rfl) trivial rfl ?_
 refine .know (b' := false) (bne_self_eq_false _) ?_
 refine .q (op_fieldAddr (m := 0) Tryz.underlying47 rfl (by kernel_rfl) rfl) ⟨_, rfl, rfl⟩ rfl ?_
 refine .as (.ptr 1000 3) rfl ?_
 refine .q (op_load Tryz.underlying44 rfl rfl rfl rfl (by first | omega | (simp only [AV.len]; omega) | (simp only [AV.len]; omega) | assumption | (simp [AV.len]; done))) ⟨_, rfl, rfl⟩ rfl ?_
 refine .q (op_len_nil Tryz.underlying44 rfl) ⟨_, rfl, rfl⟩ rfl ?_
 refine .q (op_fieldAddr (m := 0) Tryz.underlying52 rfl (by kernel_rfl) rfl) ⟨_, rfl, rfl⟩ rfl ?_
 refine .as (.ptr 1008 3) rfl ?_
 refine .q (op_load Tryz.underlying44 rfl rfl rfl rfl (by first | omega | (simp only [AV.len]; omega) | (simp only [AV.len]; omega) | assumption | (simp [AV.len]; done))) ⟨_, rfl, rfl⟩ rfl ?_
 refine .q (op_len_nil Tryz.underlying44 rfl) ⟨_, rfl, rfl⟩ rfl ?_
 refine .q (op_cmpI rfl rfl rfl) ⟨_, rfl, rfl⟩ rfl ?_
 refine .q (op_pick_false rfl rfl rfl) trivial rfl ?_
 refine .q (op_move rfl) trivial rfl ?_
 refine .know (b' := false) (bne_self_eq_false _) ?_
 refine .q (op_fieldAddr (m := 0) Tryz.underlying47 rfl (by kernel_rfl) rfl) ⟨_, rfl, rfl⟩ rfl ?_
 refine .as (.ptr 1000 4) rfl ?_
 refine .q (op_load Tryz.underlying45 rfl rfl rfl rfl (by first | omega | (simp only [AV.len]; omega) | (simp only [AV.len]; omega) | assumption | (simp [AV.len]; done))) ⟨_, rfl, rfl⟩ rfl ?_
 refine .q (op_len_nil Tryz.underlying45 rfl) ⟨_, rfl, rfl⟩ rfl ?_
 refine .q (op_fieldAddr (m := 0) Tryz.underlying52 rfl (by kernel_rfl) rfl) ⟨_, rfl, rfl⟩ rfl ?_
 refine .as (.ptr 1008 4) rfl ?_
 refine .q (op_load Tryz.underlying45 rfl rfl rfl rfl (by first | omega | (simp only [AV.len]; omega) | (simp only [AV.len]; omega) | assumption | (simp [AV.len]; done))) ⟨_, rfl, rfl⟩ rfl ?_
 refine .q (op_len_nil Tryz.underlying45 rfl) ⟨_, rfl, rfl⟩ rfl ?_
 refine .q (op_cmpI rfl rfl rfl) ⟨_, rfl, rfl⟩ rfl ?_
 refine .q (op_pick_false rfl rfl rfl) trivial rfl ?_
 refine .nil ?_
 show Ev _ _ _ _ _
 refine .cond_false rfl (bne_self_eq_false _) ?_
 refine .skip ?_
 show Ev _ _ _ _ _
 refine .seq ?_
 refine .seq ?_
 refine .region ?_
 refine .q (op_fieldAddr (m := 0) Tryz.underlying52 rfl (by kernel_rfl) rfl) trivial rfl ?_
 refine .as (.ptr 1008 1) rfl ?_
 refine .q (op_load Tryz.underlying43 rfl rfl rfl rfl (by first | omega | (simp only [AV.len]; omega) | (simp only [AV.len]; omega) | assumption | (simp [AV.len]; done))) trivial rfl ?_
 refine .q (op_len_sl Tryz.underlying43 rfl) trivial rfl ?_
 refine .q (op_move rfl) trivial rfl ?_
 refine .nil ?_
 show Ev _ _ _ _ _
 refine .block ?_
 refine Ev.loop (ι := { j : Nat // j ≤ nu }) (fun j => ⟨[(2, .ptr 1000 0), (3, .ptr 1008 0), (54, .i64 (nu : Int)), (55, .i64 ((j.1 : Nat) : Int))], [(1000, some ⟨.agg [.i64 (k), .sl 511 (0) (nu) 1, .sl 512 (0) (ns) 1, .nilsl, .nilsl], 47, true⟩), (1008, some ⟨.agg [.i64 (k), .sl 521 (0) (nu) 1, .sl 522 (0) (ns) 1, .nilsl, .nilsl], 52, true⟩), (511, some ⟨.agg32 us, 42, false⟩), (521, some ⟨.agg32 us, 42, false⟩), (512, some ⟨.aggS ss, 9, false⟩), (522, some ⟨.aggS ss, 9, false⟩)], 1016⟩) (fun j => nu - j.1) ⟨0, Nat.zero_le _⟩ (StLe.mk [(1000, 1000), (1008, 1008)] rfl rfl ⟨⟨_, rfl, by first | rfl | (simp only [AV.ren]; congr 1; omega), rfl⟩, ⟨_, rfl, by first | rfl | (simp only [AV.ren]; congr 1; omega), rfl⟩, ⟨_, rfl, by first | rfl | (simp only [AV.ren]; congr 1; omega), rfl⟩, ⟨_, rfl, by first | rfl | (simp only [AV.ren]; congr 1; omega), rfl⟩, trivial⟩ ⟨⟨_, _, rfl, rfl, by first | rfl | (simp only [AV.ren]; congr 1; omega), rfl, id, rfl⟩, ⟨_, _, rfl, rfl, by first | rfl | (simp only [AV.ren]; congr 1; omega), rfl, id, rfl⟩, ⟨_, _, rfl, rfl, by first | rfl | (simp only [AV.ren]; congr 1; omega), rfl, id, rfl⟩, ⟨_, _, rfl, rfl, by first | rfl | (simp only [AV.ren]; congr 1; omega), rfl, id, rfl⟩, ⟨_, _, rfl, rfl, by first | rfl | (simp only [AV.ren]; congr 1; omega), rfl, id, rfl⟩, ⟨_, _, rfl, rfl, by first | rfl | (simp only [AV.ren]; congr 1; omega), rfl, id, rfl⟩, trivial⟩) ?_
 rintro ⟨j, hj⟩
 dsimp only
 refine .seq ?_
 refine .region ?_
 refine .q (op_cmpI rfl rfl rfl) trivial rfl ?_
 refine .nil ?_
 show Ev _ _ _ _ _
 refine .seq ?_
 refine .cond rfl (fun hc56 => ?_) (fun hc56 => ?_)
 ·simp only [decide_eq_true_eq] at hc56
  refine .skip ?_
  show Ev _ _ _ _ _
  refine .seq ?_
  refine .block ?_
  refine .seq ?_
  refine .region ?_
  refine .q (op_move rfl) trivial rfl ?_
  refine .q (op_assign rfl) trivial rfl ?_
  refine .nil ?_
  show Ev _ _ _ _ _
  refine .seq ?_
  refine .drawn [[], [0], [], [0, 1, 2], [0, 1, 2, 3], [], [5], [], [5, 6, 7], [5, 6, 7, 8], [0, 1, 2, 3, 4, 5, 6, 7, 8, 9]] [1, 4, 6, 9] [] (by kernel_rfl) (by kernel_rfl) rfl ?_
  show DK _ [0, 1, 2, 3, 4, 5, 6, 7, 8, 9, 10] _ _ _
  refine .q rfl (op_fieldAddr (m := 0) Tryz.underlying47 rfl (by kernel_rfl) rfl) trivial ?_
  refine .as (.ptr 1000 1) rfl ?_
  refine .q rfl (op_load Tryz.underlying43 rfl rfl rfl rfl (by first | omega | (simp only [AV.len]; omega) | (simp only [AV.len]; omega) | assumption | (simp [AV.len]; done))) trivial ?_
  refine .q rfl (op_move rfl) trivial ?_
  refine .q rfl (ap_idx0 Tryz.underlying43 inf42.sz rfl rfl rfl (by omega)) trivial ?_
  refine .q rfl (op_load Tryz.underlying42 rfl rfl rfl rfl (by show j < us.length; omega)) trivial ?_
  refine .q rfl (op_fieldAddr (m := 0) Tryz.underlying52 rfl (by kernel_rfl) rfl) trivial ?_
  refine .as (.ptr 1008 1) rfl ?_
  refine .q rfl (op_load Tryz.underlying43 rfl rfl rfl rfl (by first | omega | (simp only [AV.len]; omega) | (simp only [AV.len]; omega) | assumption | (simp [AV.len]; done))) trivial ?_
  refine .q rfl (op_move rfl) trivial ?_
  refine .q rfl (ap_idx0 Tryz.underlying43 inf42.sz rfl rfl rfl (by omega)) trivial ?_
  refine .q rfl (op_load Tryz.underlying42 rfl rfl rfl rfl (by show j < us.length; omega)) trivial ?_
  refine .q rfl (op_bin32 rfl rfl rfl) trivial ?_
  refine .nil ?_
  show Ev _ _ _ _ _
  refine .cond_false rfl (by simp) ?_
  refine .skip ?_
  show Ev _ _ _ _ _
  refine .region ?_
  refine .q (op_addI rfl rfl ⟨by omega, by omega⟩) trivial rfl ?_
  refine .q (op_move rfl) trivial rfl ?_
  refine .nil ?_
  exact ⟨⟨j + 1, by omega⟩, by show nu - (j + 1) < nu - j; omega, StLe.mk [(1000, 1000), (1008, 1008)] rfl rfl ⟨⟨_, rfl, by first | rfl | (simp only [AV.ren]; congr 1; omega), rfl⟩, ⟨_, rfl, by first | rfl | (simp only [AV.ren]; congr 1; omega), rfl⟩, ⟨_, rfl, by first | rfl | (simp only [AV.ren]; congr 1; omega), rfl⟩, ⟨_, rfl, by first | rfl | (simp only [AV.ren]; congr 1; omega), rfl⟩, trivial⟩ ⟨⟨_, _, rfl, rfl, by first | rfl | (simp only [AV.ren]; congr 1; omega), rfl, id, rfl⟩, ⟨_, _, rfl, rfl, by first | rfl | (simp only [AV.ren]; congr 1; omega), rfl, id, rfl⟩, ⟨_, _, rfl, rfl, by first | rfl | (simp only [AV.ren]; congr 1; omega), rfl, id, rfl⟩, ⟨_, _, rfl, rfl, by first | rfl | (simp only [AV.ren]; congr 1; omega), rfl, id, rfl⟩, ⟨_, _, rfl, rfl, by first | rfl | (simp only [AV.ren]; congr 1; omega), rfl, id, rfl⟩, ⟨_, _, rfl, rfl, by first | rfl | (simp only [AV.ren]; congr 1; omega), rfl, id, rfl⟩, trivial⟩⟩
 ·simp only [decide_eq_false_iff_not] at hc56
  refine .exit ?_
  show Ev _ _ _ _ _
  have ej : j = nu := by omega
  refine Ev.weak (st2 := ⟨[(2, .ptr 1000 0), (3, .ptr 1008 0), (54, .i64 (nu : Int)), (55, .i64 (((nu) : Nat) : Int))], [(1000, some ⟨.agg [.i64 (k), .sl 511 (0) (nu) 1, .sl 512 (0) (ns) 1, .nilsl, .nilsl], 47, true⟩), (1008, some ⟨.agg [.i64 (k), .sl 521 (0) (nu) 1, .sl 522 (0) (ns) 1, .nilsl, .nilsl], 52, true⟩), (511, some ⟨.agg32 us, 42, false⟩), (521, some ⟨.agg32 us, 42, false⟩), (512, some ⟨.aggS ss, 9, false⟩), (522, some ⟨.aggS ss, 9, false⟩)], 1016⟩) (StLe.mk [(1000, 1000), (1008, 1008)] rfl rfl ⟨⟨_, rfl, by first | (simp only [AV.ren]; done) | (simp only [AV.ren]; rw [ej]; done) | rfl, rfl⟩, ⟨_, rfl, by first | (simp only [AV.ren]; done) | (simp only [AV.ren]; rw [ej]; done) | rfl, rfl⟩, ⟨_, rfl, by first | (simp only [AV.ren]; done) | (simp only [AV.ren]; rw [ej]; done) | rfl, rfl⟩, ⟨_, rfl, by first | (simp only [AV.ren]; done) | (simp only [AV.ren]; rw [ej]; done) | rfl, rfl⟩, trivial⟩ ⟨⟨_, _, rfl, rfl, by first | (simp only [AV.ren]; done) | (simp only [AV.ren]; rw [ej]; done) | rfl, rfl, id, rfl⟩, ⟨_, _, rfl, rfl, by first | (simp only [AV.ren]; done) | (simp only [AV.ren]; rw [ej]; done) | rfl, rfl, id, rfl⟩, ⟨_, _, rfl, rfl, by first | (simp only [AV.ren]; done) | (simp only [AV.ren]; rw [ej]; done) | rfl, rfl, id, rfl⟩, ⟨_, _, rfl, rfl, by first | (simp only [AV.ren]; done) | (simp only [AV.ren]; rw [ej]; done) | rfl, rfl, id, rfl⟩, ⟨_, _, rfl, rfl, by first | (simp only [AV.ren]; done) | (simp only [AV.ren]; rw [ej]; done) | rfl, rfl, id, rfl⟩, ⟨_, _, rfl, rfl, by first | (simp only [AV.ren]; done) | (simp only [AV.ren]; rw [ej]; done) | rfl, rfl, id, rfl⟩, trivial⟩) ?_
  refine .seq ?_
  refine .seq ?_
  refine .region ?_
  refine .q (op_fieldAddr (m := 0) Tryz.underlying52 rfl (by kernel_rfl) rfl) trivial rfl ?_
  refine .as (.ptr 1008 2) rfl ?_
  refine .q (op_load Tryz.underlying36 rfl rfl rfl rfl (by first | omega | (simp only [AV.len]; omega) | (simp only [AV.len]; omega) | assumption | (simp [AV.len]; done))) trivial rfl ?_
  refine .q (op_len_sl Tryz.underlying36 rfl) trivial rfl ?_
  refine .q (op_move rfl) trivial rfl ?_
  refine .nil ?_
  show Ev _ _ _ _ _
  refine .block ?_
  refine Ev.loop (ι := { j : Nat // j ≤ ns }) (fun j => ⟨[(2, .ptr 1000 0), (3, .ptr 1008 0), (72, .i64 (ns : Int)), (73, .i64 ((j.1 : Nat) : Int))], [(1000, some ⟨.agg [.i64 (k), .sl 511 (0) (nu) 1, .sl 512 (0) (ns) 1, .nilsl, .nilsl], 47, true⟩), (1008, some ⟨.agg [.i64 (k), .sl 521 (0) (nu) 1, .sl 522 (0) (ns) 1, .nilsl, .nilsl], 52, true⟩), (511, some ⟨.agg32 us, 42, false⟩), (521, some ⟨.agg32 us, 42, false⟩), (512, some ⟨.aggS ss, 9, false⟩), (522, some ⟨.aggS ss, 9, false⟩)], 1016⟩) (fun j => ns - j.1) ⟨0, Nat.zero_le _⟩ (StLe.mk [(1000, 1000), (1008, 1008)] rfl rfl ⟨⟨_, rfl, by first | rfl | (simp only [AV.ren]; congr 1; omega), rfl⟩, ⟨_, rfl, by first | rfl | (simp only [AV.ren]; congr 1; omega), rfl⟩, ⟨_, rfl, by first | rfl | (simp only [AV.ren]; congr 1; omega), rfl⟩, ⟨_, rfl, by first | rfl | (simp only [AV.ren]; congr 1; omega), rfl⟩, trivial⟩ ⟨⟨_, _, rfl, rfl, by first | rfl | (simp only [AV.ren]; congr 1; omega), rfl, id, rfl⟩, ⟨_, _, rfl, rfl, by first | rfl | (simp only [AV.ren]; congr 1; omega), rfl, id, rfl⟩, ⟨_, _, rfl, rfl, by first | rfl | (simp only [AV.ren]; congr 1; omega), rfl, id, rfl⟩, ⟨_, _, rfl, rfl, by first | rfl | (simp only [AV.ren]; congr 1; omega), rfl, id, rfl⟩, ⟨_, _, rfl, rfl, by first | rfl | (simp only [AV.ren]; congr 1; omega), rfl, id, rfl⟩, ⟨_, _, rfl, rfl, by first | rfl | (simp only [AV.ren]; congr 1; omega), rfl, id, rfl⟩, trivial⟩) ?_
  rintro ⟨j, hj⟩
  dsimp only
  refine .seq ?_
  refine .region ?_
  refine .q (op_cmpI rfl rfl rfl) trivial rfl ?_
  refine .nil ?_
  show Ev _ _ _ _ _
  refine .seq ?_
  refine .cond rfl (fun hc74 => ?_) (fun hc74 => ?_)
  ·simp only [decide_eq_true_eq] at hc74
   refine .skip ?_
   show Ev _ _ _ _ _
   refine .seq ?_
   refine .block ?_
   refine .seq ?_
   refine .region ?_
   refine .q (op_move rfl) trivial rfl ?_
   refine .q (op_assign rfl) trivial rfl ?_
   refine .nil ?_
   show Ev _ _ _ _ _
   refine .seq ?_
   refine .drawn [[], [0], [], [0, 1, 2], [0, 1, 2, 3], [], [5], [], [5, 6, 7], [5, 6, 7, 8], [0, 1, 2, 3, 4, 5, 6, 7, 8, 9]] [1, 4, 6, 9] [] (by kernel_rfl) (by kernel_rfl) rfl ?_
   show DK _ [0, 1, 2, 3, 4, 5, 6, 7, 8, 9, 10] _ _ _
   refine .q rfl (op_fieldAddr (m := 0) Tryz.underlying47 rfl (by kernel_rfl) rfl) trivial ?_
   refine .as (.ptr 1000 2) rfl ?_
   refine .q rfl (op_load Tryz.underlying36 rfl rfl rfl rfl (by first | omega | (simp only [AV.len]; omega) | (simp only [AV.len]; omega) | assumption | (simp [AV.len]; done))) trivial ?_
   refine .q rfl (op_move rfl) trivial ?_
   refine .q rfl (ap_idx0 Tryz.underlying36 inf9.sz rfl rfl rfl (by omega)) trivial ?_
   refine .q rfl (op_load Tryz.underlying9 rfl rfl rfl rfl (by show j < ss.length; omega)) trivial ?_
   refine .q rfl (op_fieldAddr (m := 0) Tryz.underlying52 rfl (by kernel_rfl) rfl) trivial ?_
   refine .as (.ptr 1008 2) rfl ?_
   refine .q rfl (op_load Tryz.underlying36 rfl rfl rfl rfl (by first | omega | (simp only [AV.len]; omega) | (simp only [AV.len]; omega) | assumption | (simp [AV.len]; done))) trivial ?_
   refine .q rfl (op_move rfl) trivial ?_
   refine .q rfl (ap_idx0 Tryz.underlying36 inf9.sz rfl rfl rfl (by omega)) trivial ?_
   refine .q rfl (op_load Tryz.underlying9 rfl rfl rfl rfl (by show j < ss.length; omega)) trivial ?_
   refine .q rfl (op_eqS rfl rfl rfl) trivial ?_
   refine .nil ?_
   show Ev _ _ _ _ _
   refine .cond_false rfl (by simp) ?_
   refine .skip ?_
   show Ev _ _ _ _ _
   refine .region ?_
   refine .q (op_addI rfl rfl ⟨by omega, by omega⟩) trivial rfl ?_
   refine .q (op_move rfl) trivial rfl ?_
   refine .nil ?_
   exact ⟨⟨j + 1, by omega⟩, by show ns - (j + 1) < ns - j; omega, StLe.mk [(1000, 1000), (1008, 1008)] rfl rfl ⟨⟨_, rfl, by first | rfl | (simp only [AV.ren]; congr 1; omega), rfl⟩, ⟨_, rfl, by first | rfl | (simp only [AV.ren]; congr 1; omega), rfl⟩, ⟨_, rfl, by first | rfl | (simp only [AV.ren]; congr 1; omega), rfl⟩, ⟨_, rfl, by first | rfl | (simp only [AV.ren]; congr 1; omega), rfl⟩, trivial⟩ ⟨⟨_, _, rfl, rfl, by first | rfl | (simp only [AV.ren]; congr 1; omega), rfl, id, rfl⟩, ⟨_, _, rfl, rfl, by first | rfl | (simp only [AV.ren]; congr 1; omega), rfl, id, rfl⟩, ⟨_, _, rfl, rfl, by first | rfl | (simp only [AV.ren]; congr 1; omega), rfl, id, rfl⟩, ⟨_, _, rfl, rfl, by first | rfl | (simp only [AV.ren]; congr 1; omega), rfl, id, rfl⟩, ⟨_, _, rfl, rfl, by first | rfl | (simp only [AV.ren]; congr 1; omega), rfl, id, rfl⟩, ⟨_, _, rfl, rfl, by first | rfl | (simp only [AV.ren]; congr 1; omega), rfl, id, rfl⟩, trivial⟩⟩
  ·simp only [decide_eq_false_iff_not] at hc74
   refine .exit ?_
   show Ev _ _ _ _ _
   have ej : j = ns := by omega
   refine Ev.weak (st2 := ⟨[(2, .ptr 1000 0), (3, .ptr 1008 0), (72, .i64 (ns : Int)), (73, .i64 (((ns) : Nat) : Int))], [(1000, some ⟨.agg [.i64 (k), .sl 511 (0) (nu) 1, .sl 512 (0) (ns) 1, .nilsl, .nilsl], 47, true⟩), (1008, some ⟨.agg [.i64 (k), .sl 521 (0) (nu) 1, .sl 522 (0) (ns) 1, .nilsl, .nilsl], 52, true⟩), (511, some ⟨.agg32 us, 42, false⟩), (521, some ⟨.agg32 us, 42, false⟩), (512, some ⟨.aggS ss, 9, false⟩), (522, some ⟨.aggS ss, 9, false⟩)], 1016⟩) (StLe.mk [(1000, 1000), (1008, 1008)] rfl rfl ⟨⟨_, rfl, by first | (simp only [AV.ren]; done) | (simp only [AV.ren]; rw [ej]; done) | rfl, rfl⟩, ⟨_, rfl, by first | (simp only [AV.ren]; done) | (simp only [AV.ren]; rw [ej]; done) | rfl, rfl⟩, ⟨_, rfl, by first | (simp only [AV.ren]; done) | (simp only [AV.ren]; rw [ej]; done) | rfl, rfl⟩, ⟨_, rfl, by first | (simp only [AV.ren]; done) | (simp only [AV.ren]; rw [ej]; done) | rfl, rfl⟩, trivial⟩ ⟨⟨_, _, rfl, rfl, by first | (simp only [AV.ren]; done) | (simp only [AV.ren]; rw [ej]; done) | rfl, rfl, id, rfl⟩, ⟨_, _, rfl, rfl, by first | (simp only [AV.ren]; done) | (simp only [AV.ren]; rw [ej]; done) | rfl, rfl, id, rfl⟩, ⟨_, _, rfl, rfl, by first | (simp only [AV.ren]; done) | (simp only [AV.ren]; rw [ej]; done) | rfl, rfl, id, rfl⟩, ⟨_, _, rfl, rfl, by first | (simp only [AV.ren]; done) | (simp only [AV.ren]; rw [ej]; done) | rfl, rfl, id, rfl⟩, ⟨_, _, rfl, rfl, by first | (simp only [AV.ren]; done) | (simp only [AV.ren]; rw [ej]; done) | rfl, rfl, id, rfl⟩, ⟨_, _, rfl, rfl, by first | (simp only [AV.ren]; done) | (simp only [AV.ren]; rw [ej]; done) | rfl, rfl, id, rfl⟩, trivial⟩) ?_
   refine .seq ?_
   refine .seq ?_
   refine .region ?_
   refine .q (op_fieldAddr (m := 0) Tryz.underlying52 rfl (by kernel_rfl) rfl) trivial rfl ?_
   refine .as (.ptr 1008 4) rfl ?_
   refine .q (op_load Tryz.underlying45 rfl rfl rfl rfl (by first | omega | (simp only [AV.len]; omega) | (simp only [AV.len]; omega) | assumption | (simp [AV.len]; done))) trivial rfl ?_
   refine .q (op_len_nil Tryz.underlying45 rfl) trivial rfl ?_
   refine .q (op_move rfl) trivial rfl ?_
   refine .nil ?_
   show Ev _ _ _ _ _
   refine .block ?_
   refine Ev.rounds 1 ?_
   show Ev _ _ _ _ _
   refine .seq ?_
   refine .region ?_
   refine .q (op_cmpI rfl rfl rfl) trivial rfl ?_
   refine .nil ?_
   show Ev _ _ _ _ _
   refine .seq ?_
   refine .cond_false rfl (rfl) ?_
   refine .exit ?_
   show Ev _ _ _ _ _
   refine .seq ?_
   refine .seq ?_
   refine .region ?_
   refine .q (op_fieldAddr (m := 0) Tryz.underlying52 rfl (by kernel_rfl) rfl) trivial rfl ?_
   refine .as (.ptr 1008 3) rfl ?_
   refine .q (op_load Tryz.underlying44 rfl rfl rfl rfl (by first | omega | (simp only [AV.len]; omega) | (simp only [AV.len]; omega) | assumption | (simp [AV.len]; done))) trivial rfl ?_
   refine .q (op_len_nil Tryz.underlying44 rfl) trivial rfl ?_
   refine .q (op_move rfl) trivial rfl ?_
   refine .nil ?_
   show Ev _ _ _ _ _
   refine .block ?_
   refine Ev.rounds 1 ?_
   show Ev _ _ _ _ _
   refine .seq ?_
   refine .region ?_
   refine .q (op_cmpI rfl rfl rfl) trivial rfl ?_
   refine .nil ?_
   show Ev _ _ _ _ _
   refine .seq ?_
   refine .cond_false rfl (rfl) ?_
   refine .exit ?_
   show Ev _ _ _ _ _
   refine .seq ?_
   refine .region ?_
   refine .q (op_assign rfl) trivial rfl ?_
   refine .nil ?_
   show Ev _ _ _ _ _
   refine .ret ?_
   show RetOk _ _ _ _ _ _ _
   exact ret1v rfl (.inl rfl) rfl (rfl) ⟨rfl, rfl, rfl, rfl, trivial⟩
set_option maxRecDepth 100000 in
theorem same_S (k : Int) (ns : Nat) (ss : List (List UInt8)) (hS : ns = ss.length) (lS : ns ≤ 1000) : Meets Tryz.prog 16 [.agg [.i64 (k), .nilsl, .sl 512 (0) (ns) 1, .nilsl, .nilsl], .agg [.i64 (k), .nilsl, .sl 522 (0) (ns) 1, .nilsl, .nilsl]] [(512, some ⟨.aggS ss, 9, false⟩), (522, some ⟨.aggS ss, 9, false⟩)] (.bool true) [(512, some ⟨.aggS ss, 9, false⟩), (522, some ⟨.aggS ss, 9, false⟩)] := by
 refine meets_of_ev (nt := 143) Tryz.func16 rfl rfl (Nat.le_of_ble_eq_true rfl) ?_
 refine .seq ?_
 refine .region ?_
 refine .a (op_boxRow rfl rfl) trivial rfl ?_
 refine .a (op_boxRow rfl rfl) trivial rfl ?_
 refine .q (op_assign rfl) trivial rfl ?_
 refine .nil ?_
 show Ev _ _ _ _ _
 refine .seq ?_
 refine .seq ?_
 refine .region ?_
 refine .q (op_fieldAddr (m := 0) Tryz.underlying47 rfl (by kernel_rfl) rfl) trivial rfl ?_
 refine .as (.ptr 1000 0) rfl ?_
 refine .q (op_load Tryz.underlying3 rfl rfl rfl rfl (by first | omega | (simp only [AV.len]; omega) | (simp only [AV.len]; omega) | assumption | (simp [AV.len]; done))) trivial rfl ?_
 refine .q (op_fieldAddr (m := 0) Tryz.underlying52 rfl (by kernel_rfl) rfl) trivial rfl ?_
 refine .as (.ptr 1008 0) rfl ?_
 refine .q (op_load Tryz.underlying3 rfl rfl rfl rfl (by first | omega | (simp only [AV.len]; omega) | (simp only [AV.len]; omega) | assumption | (simp [AV.len]; done))) trivial rfl ?_
 refine .q (op_cmpI rfl rfl rfl) trivial rfl ?_
 refine .q (op_move rfl) trivial rfl ?_
 refine .know (b' := false) (bne_self_eq_false _) ?_
 refine .q (op_fieldAddr (m := 0) Tryz.underlying47 rfl (by kernel_rfl) rfl) ⟨_, rfl, rfl⟩ rfl ?_
 refine .as (.ptr 1000 1) rfl ?_
 refine .q (op_load Tryz.underlying43 rfl rfl rfl rfl (by first | omega | (simp only [AV.len]; omega) | (simp only [AV.len]; omega) | assumption | (simp [AV.len]; done))) ⟨_, rfl, rfl⟩ rfl ?_
 refine .q (op_len_nil Tryz.underlying43 rfl) ⟨_, rfl, rfl⟩ rfl ?_
 refine .q (op_fieldAddr (m := 0) Tryz.underlying52 rfl (by kernel_rfl) rfl) ⟨_, rfl, rfl⟩ rfl ?_
 refine .as (.ptr 1008 1) rfl ?_
 refine .q (op_load Tryz.underlying43 rfl rfl rfl rfl (by first | omega | (simp only [AV.len]; omega) | (simp only [AV.len]; omega) | assumption | (simp [AV.len]; done))) ⟨_, rfl, rfl⟩ rfl ?_
 refine .q (op_len_nil Tryz.underlying43 rfl) ⟨_, rfl, rfl⟩ rfl ?_
 refine .q (op_cmpI rfl rfl rfl) ⟨_, rfl, rfl⟩ rfl ?_
 refine .q (op_pick_false rfl rfl rfl) trivial rfl ?_
 refine .q (op_move rfl) trivial rfl ?_
 refine .know (b' := false) (bne_self_eq_false _) ?_
 refine .q (op_fieldAddr (m := 0) Tryz.underlying47 rfl (by kernel_rfl) rfl) ⟨_, rfl, rfl⟩ rfl ?_
 refine .as (.ptr 1000 2) rfl ?_
 refine .q (op_load Tryz.underlying36 rfl rfl rfl rfl (by first | omega | (simp only [AV.len]; omega) | (simp only [AV.len]; omega) | assumption | (simp [AV.len]; done))) ⟨_, rfl, rfl⟩ rfl ?_
 refine .q (op_len_sl Tryz.underlying36 rfl) ⟨_, rfl, rfl⟩ rfl ?_
 refine .q (op_fieldAddr (m := 0) Tryz.underlying52 rfl (by kernel_rfl) rfl) ⟨_, rfl, rfl⟩ rfl ?_
 refine .as (.ptr 1008 2) rfl ?_
 refine .q (op_load Tryz.underlying36 rfl rfl rfl rfl (by first | omega | (simp only [AV.len]; omega) | (simp only [AV.len]; omega) | assumption | (simp [AV.len]; done))) ⟨_, rfl, rfl⟩ rfl ?_
 refine .q (op_len_sl Tryz.underlying36 rfl) ⟨_, rfl, rfl⟩ rfl ?_
 refine .q (op_cmpI rfl rfl rfl) ⟨_, rfl, rfl⟩ rfl ?_
 refine .q (op_pick_false rfl rfl rfl) trivial rfl ?_
 refine .q (op_move rfl) trivial rfl ?_
 refine .know (b' := false) (bne_self_eq_false _) ?_
 refine .q (op_fieldAddr (m := 0) Tryz.underlying47 rfl (by kernel_rfl) rfl) ⟨_, rfl, rfl⟩ rfl ?_
 refine .as (.ptr 1000 3) rfl ?_
 refine .q (op_load Tryz.underlying44 rfl rfl rfl rfl (by first | omega | (simp only [AV.len]; omega) | (simp only [AV.len]; omega) | assumption | (simp [AV.len]; done))) ⟨_, rfl, rfl⟩ rfl ?_
 refine .q (op_len_nil Tryz.underlying44 rfl) ⟨_, rfl, rfl⟩ rfl ?_
 refine .q (op_fieldAddr (m := 0) Tryz.underlying52 rfl (by kernel_rfl) rfl) ⟨_, rfl, rfl⟩ rfl ?_
 refine .as (.ptr 1008 3) rfl ?_
 refine .q (op_load Tryz.underlying44 rfl rfl rfl rfl (by first | omega | (simp only [AV.len]; omega) | (simp only [AV.len]; omega) | assumption | (simp [AV.len]; done))) ⟨_, rfl, rfl⟩ rfl ?_
 refine .q (op_len_nil Tryz.underlying44 rfl) ⟨_, rfl, rfl⟩ rfl ?_
 refine .q (op_cmpI rfl rfl rfl) ⟨_, rfl, rfl⟩ rfl ?_
 refine .q (op_pick_false rfl rfl rfl) trivial rfl ?_
 refine .q (op_move rfl) trivial rfl ?_
 refine .know (b' := false) (bne_self_eq_false _) ?_
 refine .q (op_fieldAddr (m := 0) Tryz.underlying47 rfl (by kernel_rfl) rfl) ⟨_, rfl, rfl⟩ rfl ?_
 refine .as (.ptr 1000 4) rfl ?_
 refine .q (op_load Tryz.underlying45 rfl rfl rfl rfl (by first | omega | (simp only [AV.len]; omega) | (simp only [AV.len]; omega) | assumption | (simp [AV.len]; done))) ⟨_, rfl, rfl⟩ rfl ?_
 refine .q (op_len_nil Tryz.underlying45 rfl) ⟨_, rfl, rfl⟩ rfl ?_
 refine .q (op_fieldAddr (m := 0) Tryz.underlying52 rfl (by kernel_rfl) rfl) ⟨_, rfl, rfl⟩ rfl ?_
 refine .as (.ptr 1008 4) rfl ?_
 refine .q (op_load Tryz.underlying45 rfl rfl rfl rfl (by first | omega | (simp only [AV.len]; omega) | (simp only [AV.len]; omega) | assumption | (simp [AV.len]; done))) ⟨_, rfl, rfl⟩ rfl ?_
 refine .q (op_len_nil Tryz.underlying45 rfl) ⟨_, rfl, rfl⟩ rfl ?_
 refine .q (op_cmpI rfl rfl rfl) ⟨_, rfl, rfl⟩ rfl ?_
 refine .q (op_pick_false rfl rfl rfl) trivial rfl ?_
 refine .nil ?_
 show Ev _ _ _ _ _
 refine .cond_false rfl (bne_self_eq_false _) ?_
 refine .skip ?_
 show Ev _ _ _ _ _
 refine .seq ?_
 refine .seq ?_
 refine .region ?_
 refine .q (op_fieldAddr (m := 0) Tryz.underlying52 rfl (by kernel_rfl) rfl) trivial rfl ?_
 refine .as (.ptr 1008 1) rfl ?_
 refine .q (op_load Tryz.underlying43 rfl rfl rfl rfl (by first | omega | (simp only [AV.len]; omega) | (simp only [AV.len]; omega) | assumption | (simp [AV.len]; done))) trivial rfl ?_
 refine .q (op_len_nil Tryz.underlying43 rfl) trivial rfl ?_
 refine .q (op_move rfl) trivial rfl ?_
 refine .nil ?_
 show Ev _ _ _ _ _
 refine .block ?_
 refine Ev.rounds 1 ?_
 show Ev _ _ _ _ _
 refine .seq ?_
 refine .region ?_
 refine .q (op_cmpI rfl rfl rfl) trivial rfl ?_
 refine .nil ?_
 show Ev _ _ _ _ _
 refine .seq ?_
 refine .cond_false rfl (rfl) ?_
 refine .exit ?_
 show Ev _ _ _ _ _
 refine .seq ?_
 refine .seq ?_
 refine .region ?_
 refine .q (op_fieldAddr (m := 0) Tryz.underlying52 rfl (by kernel_rfl) rfl) trivial rfl ?_
 refine .as (.ptr 1008 2) rfl ?_
 refine .q (op_load Tryz.underlying36 rfl rfl rfl rfl (by first | omega | (simp only [AV.len]; omega) | (simp only [AV.len]; omega) | assumption | (simp [AV.len]; done))) trivial rfl ?_
 refine .q (op_len_sl Tryz.underlying36 rfl) trivial rfl ?_
 refine .q (op_move rfl) trivial rfl ?_
 refine .nil ?_
 show Ev _ _ _ _ _
 refine .block ?_
 refine Ev.loop (ι := { j : Nat // j ≤ ns }) (fun j => ⟨[(2, .ptr 1000 0), (3, .ptr 1008 0), (72, .i64 (ns : Int)), (73, .i64 ((j.1 : Nat) : Int))], [(1000, some ⟨.agg [.i64 (k), .nilsl, .sl 512 (0) (ns) 1, .nilsl, .nilsl], 47, true⟩), (1008, some ⟨.agg [.i64 (k), .nilsl, .sl 522 (0) (ns) 1, .nilsl, .nilsl], 52, true⟩), (512, some ⟨.aggS ss, 9, false⟩), (522, some ⟨.aggS ss, 9, false⟩)], 1016⟩) (fun j => ns - j.1) ⟨0, Nat.zero_le _⟩ (StLe.mk [(1000, 1000), (1008, 1008)] rfl rfl ⟨⟨_, rfl, by first | rfl | (simp only [AV.ren]; congr 1; omega), rfl⟩, ⟨_, rfl, by first | rfl | (simp only [AV.ren]; congr 1; omega), rfl⟩, ⟨_, rfl, by first | rfl | (simp only [AV.ren]; congr 1; omega), rfl⟩, ⟨_, rfl, by first | rfl | (simp only [AV.ren]; congr 1; omega), rfl⟩, trivial⟩ ⟨⟨_, _, rfl, rfl, by first | rfl | (simp only [AV.ren]; congr 1; omega), rfl, id, rfl⟩, ⟨_, _, rfl, rfl, by first | rfl | (simp only [AV.ren]; congr 1; omega), rfl, id, rfl⟩, ⟨_, _, rfl, rfl, by first | rfl | (simp only [AV.ren]; congr 1; omega), rfl, id, rfl⟩, ⟨_, _, rfl, rfl, by first | rfl | (simp only [AV.ren]; congr 1; omega), rfl, id, rfl⟩, trivial⟩) ?_
 rintro ⟨j, hj⟩
 dsimp only
 refine .seq ?_
 refine .region ?_
 refine .q (op_cmpI rfl rfl rfl) trivial rfl ?_
 refine .nil ?_
 show Ev _ _ _ _ _
 refine .seq ?_
 refine .cond rfl (fun hc74 => ?_) (fun hc74 => ?_)
 ·simp only [decide_eq_true_eq] at hc74
  refine .skip ?_
  show Ev _ _ _ _ _
  refine .seq ?_
  refine .block ?_
  refine .seq ?_
  refine .region ?_
  refine .q (op_move rfl) trivial rfl ?_
  refine .q (op_assign rfl) trivial rfl ?_
  refine .nil ?_
  show Ev _ _ _ _ _
  refine .seq ?_
  refine .drawn [[], [0], [], [0, 1, 2], [0, 1, 2, 3], [], [5], [], [5, 6, 7], [5, 6, 7, 8], [0, 1, 2, 3, 4, 5, 6, 7, 8, 9]] [1, 4, 6, 9] [] (by kernel_rfl) (by kernel_rfl) rfl ?_
  show DK _ [0, 1, 2, 3, 4, 5, 6, 7, 8, 9, 10] _ _ _
  refine .q rfl (op_fieldAddr (m := 0) Tryz.underlying47 rfl (by kernel_rfl) rfl) trivial ?_
  refine .as (.ptr 1000 2) rfl ?_
  refine .q rfl (op_load Tryz.underlying36 rfl rfl rfl rfl (by first | omega | (simp only [AV.len]; omega) | (simp only [AV.len]; omega) | assumption | (simp [AV.len]; done))) trivial ?_
  refine .q rfl (op_move rfl) trivial ?_
  refine .q rfl (ap_idx0 Tryz.underlying36 inf9.sz rfl rfl rfl (by omega)) trivial ?_
  refine .q rfl (op_load Tryz.underlying9 rfl rfl rfl rfl (by show j < ss.length; omega)) trivial ?_
  refine .q rfl (op_fieldAddr (m := 0) Tryz.underlying52 rfl (by kernel_rfl) rfl) trivial ?_
  refine .as (.ptr 1008 2) rfl ?_
  refine .q rfl (op_load Tryz.underlying36 rfl rfl rfl rfl (by first | omega | (simp only [AV.len]; omega) | (simp only [AV.len]; omega) | assumption | (simp [AV.len]; done))) trivial ?_
  refine .q rfl (op_move rfl) trivial ?_
  refine .q rfl (ap_idx0 Tryz.underlying36 inf9.sz rfl rfl rfl (by omega)) trivial ?_
  refine .q rfl (op_load Tryz.underlying9 rfl rfl rfl rfl (by show j < ss.length; omega)) trivial ?_
  refine .q rfl (op_eqS rfl rfl rfl) trivial ?_
  refine .nil ?_
  show Ev _ _ _ _ _
  refine .cond_false rfl (by simp) ?_
  refine .skip ?_
  show Ev _ _ _ _ _
  refine .region ?_
  refine .q (op_addI rfl rfl ⟨by omega, by omega⟩) trivial rfl ?_
  refine .q (op_move rfl) trivial rfl ?_
  refine .nil ?_
  exact ⟨⟨j + 1, by omega⟩, by show ns - (j + 1) < ns - j; omega, StLe.mk [(1000, 1000), (1008, 1008)] rfl rfl ⟨⟨_, rfl, by first | rfl | (simp only [AV.ren]; congr 1; omega), rfl⟩, ⟨_, rfl, by first | rfl | (simp only [AV.ren]; congr 1; omega), rfl⟩, ⟨_, rfl, by first | rfl | (simp only [AV.ren]; congr 1; omega), rfl⟩, ⟨_, rfl, by first | rfl | (simp only [AV.ren]; congr 1; omega), rfl⟩, trivial⟩ ⟨⟨_, _, rfl, rfl, by first | rfl | (simp only [AV.ren]; congr 1; omega), rfl, id, rfl⟩, ⟨_, _, rfl, rfl, by first | rfl | (simp only [AV.ren]; congr 1; omega), rfl, id, rfl⟩, ⟨_, _, rfl, rfl, by first | rfl | (simp only [AV.ren]; congr 1; omega), rfl, id, rfl⟩, ⟨_, _, rfl, rfl, by first | rfl | (simp only [AV.ren]; congr 1; omega), rfl, id, rfl⟩, trivial⟩⟩
 ·simp only [decide_eq_false_iff_not] at hc74
  refine .exit ?_
  show Ev _ _ _ _ _
  have ej : j = ns := by omega
  refine Ev.weak (st2 := ⟨[(2, .ptr 1000 0), (3, .ptr 1008 0), (72, .i64 (ns : Int)), (73, .i64 (((ns) : Nat) : Int))], [(1000, some ⟨.agg [.i64 (k), .nilsl, .sl 512 (0) (ns) 1, .nilsl, .nilsl], 47, true⟩), (1008, some ⟨.agg [.i64 (k), .nilsl, .sl 522 (0) (ns) 1, .nilsl, .nilsl], 52, true⟩), (512, some ⟨.aggS ss, 9, false⟩), (522, some ⟨.aggS ss, 9, false⟩)], 1016⟩) (StLe.mk [(1000, 1000), (1008, 1008)] rfl rfl ⟨⟨_, rfl, by first | (simp only [AV.ren]; done) | (simp only [AV.ren]; rw [ej]; done) | rfl, rfl⟩, ⟨_, rfl, by first | (simp only [AV.ren]; done) | (simp only [AV.ren]; rw [ej]; done) | rfl, rfl⟩, ⟨_, rfl, by first | (simp only [AV.ren]; done) | (simp only [AV.ren]; rw [ej]; done) | rfl, rfl⟩, ⟨_, rfl, by first | (simp only [AV.ren]; done) | (simp only [AV.ren]; rw [ej]; done) | rfl, rfl⟩, trivial⟩ ⟨⟨_, _, rfl, rfl, by first | (simp only [AV.ren]; done) | (simp only [AV.ren]; rw [ej]; done) | rfl, rfl, id, rfl⟩, ⟨_, _, rfl, rfl, by first | (simp only [AV.ren]; done) | (simp only [AV.ren]; rw [ej]; done) | rfl, rfl, id, rfl⟩, ⟨_, _, rfl, rfl, by first | (simp only [AV.ren]; done) | (simp only [AV.ren]; rw [ej]; done) | rfl, rfl, id, rfl⟩, ⟨_, _, rfl, rfl, by first | (simp only [AV.ren]; done) | (simp only [AV.ren]; rw [ej]; done) | rfl, rfl, id, rfl⟩, trivial⟩) ?_
  refine .seq ?_
  refine .seq ?_
  refine .region ?_
  refine .q (op_fieldAddr (m := 0) Tryz.underlying52 rfl (by kernel_rfl) rfl) trivial rfl ?_
  refine .as (.ptr 1008 4) rfl ?_
  refine .q (op_load Tryz.underlying45 rfl rfl rfl rfl (by first | omega | (simp only [AV.len]; omega) | (simp only [AV.len]; omega) | assumption | (simp [AV.len]; done))) trivial rfl ?_
  refine .q (op_len_nil Tryz.underlying45 rfl) trivial rfl ?_
  refine .q (op_move rfl) trivial rfl ?_
  refine .nil ?_
  show Ev _ _ _ _ _
  refine .block ?_
  refine Ev.rounds 1 ?_
  show Ev _ _ _ _ _
  refine .seq ?_
  refine .region ?_
  refine .q (op_cmpI rfl rfl rfl) trivial rfl ?_
  refine .nil ?_
  show Ev _ _ _ _ _
  refine .seq ?_
  refine .cond_false rfl (rfl) ?_
  refine .exit ?_
  show Ev _ _ _ _ _
  refine .seq ?_
  refine .seq ?_
  refine .region ?_
  refine .q (op_fieldAddr (m := 0) Tryz.underlying52 rfl (by kernel_rfl) rfl) trivial rfl ?_
  refine .as (.ptr 1008 3) rfl ?_
  refine .q (op_load Tryz.underlying44 rfl rfl rfl rfl (by first | omega | (simp only [AV.len]; omega) | (simp only [AV.len]; omega) | assumption | (simp [AV.len]; done))) trivial rfl ?_
  refine .q (op_len_nil Tryz.underlying44 rfl) trivial rfl ?_
  refine .q (op_move rfl) trivial rfl ?_
  refine .nil ?_
  show Ev _ _ _ _ _
  refine .block ?_
  refine Ev.rounds 1 ?_
  show Ev _ _ _ _ _
  refine .seq ?_
  refine .region ?_
  refine .q (op_cmpI rfl rfl rfl) trivial rfl ?_
  refine .nil ?_
  show Ev _ _ _ _ _
  refine .seq ?_
  refine .cond_false rfl (rfl) ?_
  refine .exit ?_
  show Ev _ _ _ _ _
  refine .seq ?_
  refine .region ?_
  refine .q (op_assign rfl) trivial rfl ?_
  refine .nil ?_
  show Ev _ _ _ _ _
  refine .ret ?_
  show RetOk _ _ _ _ _ _ _
  exact ret1v rfl (.inl rfl) rfl (rfl) ⟨rfl, rfl, trivial⟩
set_option maxRecDepth 100000 in
theorem same_USB (k : Int) (nu ns nb : Nat) (us : List UInt32) (hU : nu = us.length) (lU : nu ≤ 1000) (ss : List (List UInt8)) (hS : ns = ss.length) (lS : ns ≤ 1000) (bs : List Bool) (hB : nb = bs.length) (lB : nb ≤ 1000) : Meets Tryz.prog 16 [.agg [.i64 (k), .sl 511 (0) (nu) 1, .sl 512 (0) (ns) 1, .nilsl, .sl 514 (0) (nb) 1], .agg [.i64 (k), .sl 521 (0) (nu) 1, .sl 522 (0) (ns) 1, .nilsl, .sl 524 (0) (nb) 1]] [(511, some ⟨.agg32 us, 42, false⟩), (521, some ⟨.agg32 us, 42, false⟩), (512, some ⟨.aggS ss, 9, false⟩), (522, some ⟨.aggS ss, 9, false⟩), (514, some ⟨.aggT bs, 4, false⟩), (524, some ⟨.aggT bs, 4, false⟩)] (.bool true) [(511, some ⟨.agg32 us, 42, false⟩), (521, some ⟨.agg32 us, 42, false⟩), (512, some ⟨.aggS ss, 9, false⟩), (522, some ⟨.aggS ss, 9, false⟩), (514, some ⟨.aggT bs, 4, false⟩), (524, some ⟨.aggT bs, 4, false⟩)] := by
 refine meets_of_ev (nt := 143) Tryz.func16 rfl rfl (Nat.le_of_ble_eq_true rfl) ?_
 refine .seq ?_
 refine .region ?_
 refine .a (op_boxRow rfl rfl) trivial rfl ?_
 refine .a (op_boxRow rfl rfl) trivial rfl ?_
 refine .q (op_assign rfl) trivial rfl ?_
 refine .nil ?_
 show Ev _ _ _ _ _
 refine .seq ?_
 refine .seq ?_
 refine .region ?_
 refine .q (op_fieldAddr (m := 0) Tryz.underlying47 rfl (by kernel_rfl) rfl) trivial rfl ?_
 refine .as (.ptr 1000 0) rfl ?_
 refine .q (op_load Tryz.underlying3 rfl rfl rfl rfl (by first | omega | (simp only [AV.len]; omega) | (simp only [AV.len]; omega) | assumption | (simp [AV.len]; done))) trivial rfl ?_
 refine .q (op_fieldAddr (m := 0) Tryz.underlying52 rfl (by kernel_rfl) rfl) trivial rfl ?_
 refine .as (.ptr 1008 0) rfl ?_
 refine .q (op_load Tryz.underlying3 rfl rfl rfl rfl (by first | omega | (simp only [AV.len]; omega) | (simp only [AV.len]; omega) | assumption | (simp [AV.len]; done))) trivial rfl ?_
 refine .q (op_cmpI rfl rfl rfl) trivial rfl ?_
 refine .q (op_move rfl) trivial rfl ?_
 refine .know (b' := false) (bne_self_eq_false _) ?_
 refine .q (op_fieldAddr (m := 0) Tryz.underlying47 rfl (by kernel_rfl) rfl) ⟨_, rfl, rfl⟩ rfl ?_
 refine .as (.ptr 1000 1) rfl ?_
 refine .q (op_load Tryz.underlying43 rfl rfl rfl rfl (by first | omega | (simp only [AV.len]; omega) | (simp only [AV.len]; omega) | assumption | (simp [AV.len]; done))) ⟨_, rfl, rfl⟩ rfl ?_
 refine .q (op_len_sl Tryz.underlying43 rfl) ⟨_, rfl, rfl⟩ rfl ?_
 refine .q (op_fieldAddr (m := 0) Tryz.underlying52 rfl (by kernel_rfl) rfl) ⟨_, rfl, rfl⟩ rfl ?_
 refine .as (.ptr 1008 1) rfl ?_
 refine .q (op_load Tryz.underlying43 rfl rfl rfl rfl (by first | omega | (simp only [AV.len]; omega) | (simp only [AV.len]; omega) | assumption | (simp [AV.len]; done))) ⟨_, rfl, rfl⟩ rfl ?_
 refine .q (op_len_sl Tryz.underlying43 rfl) ⟨_, rfl, rfl⟩ rfl ?_
 refine .q (op_cmpI rfl rfl rfl) ⟨_, rfl, rfl⟩ rfl ?_
 refine .q (op_pick_false rfl rfl rfl) trivial rfl ?_
 refine .q (op_move rfl) trivial rfl ?_
 refine .know (b' := false) (bne_self_eq_false _) ?_
 refine .q (op_fieldAddr (m := 0) Tryz.underlying47 rfl (by kernel_rfl) rfl) ⟨_, rfl, rfl⟩ rfl ?_
 refine .as (.ptr 1000 2) rfl ?_
 refine .q (op_load Tryz.underlying36 rfl rfl rfl rfl (by first | omega | (simp only [AV.len]; omega) | (simp only [AV.len]; omega) | assumption | (simp [AV.len]; done))) ⟨_, rfl, rfl⟩ rfl ?_
 refine .q (op_len_sl Tryz.underlying36 rfl) ⟨_, rfl, rfl⟩ rfl ?_
 refine .q (op_fieldAddr (m := 0) Tryz.underlying52 rfl (by kernel_rfl) rfl) ⟨_, rfl, rfl⟩ rfl ?_
 refine .as (.ptr 1008 2) rfl ?_
 refine .q (op_load Tryz.underlying36 rfl rfl rfl rfl (by first | omega | (simp only [AV.len]; omega) | (simp only [AV.len]; omega) | assumption | (simp [AV.len]; done))) ⟨_, rfl, rfl⟩ rfl ?_
 refine .q (op_len_sl Tryz.underlying36 rfl) ⟨_, rfl, rfl⟩ rfl ?_
 refine .q (op_cmpI rfl rfl rfl) ⟨_, rfl, rfl⟩ rfl ?_
 refine .q (op_pick_false rfl rfl rfl) trivial rfl ?_
 refine .q (op_move rfl) trivial rfl ?_
 refine .know (b' := false) (bne_self_eq_false _) ?_
 refine .q (op_fieldAddr (m := 0) Tryz.underlying47 rfl (by kernel_rfl) rfl) ⟨_, rfl, rfl⟩ rfl ?_
 refine .as (.ptr 1000 3) rfl ?_
 refine .q (op_load Tryz.underlying44 rfl rfl rfl rfl (by first | omega | (simp only [AV.len]; omega) | (simp only [AV.len]; omega) | assumption | (simp [AV.len]; done))) ⟨_, rfl, rfl⟩ rfl ?_
 refine .q (op_len_nil Tryz.underlying44 rfl) ⟨_, rfl, rfl⟩ rfl ?_
 refine .q (op_fieldAddr (m := 0) Tryz.underlying52 rfl (by kernel_rfl) rfl) ⟨_, rfl, rfl⟩ rfl ?_
 refine .as (.ptr 1008 3) rfl ?_
 refine .q (op_load Tryz.underlying44 rfl rfl rfl rfl (by first | omega | (simp only [AV.len]; omega) | (simp only [AV.len]; omega) | assumption | (simp [AV.len]; done))) ⟨_, rfl, rfl⟩ rfl ?_
 refine .q (op_len_nil Tryz.underlying44 rfl) ⟨_, rfl, rfl⟩ rfl ?_
 refine .q (op_cmpI rfl rfl rfl) ⟨_, rfl, rfl⟩ rfl ?_
 refine .q (op_pick_false rfl rfl rfl) trivial rfl ?_
 refine .q (op_move rfl) trivial rfl ?_
 refine .know (b' := false) (bne_self_eq_false _) ?_
 refine .q (op_fieldAddr (m := 0) Tryz.underlying47 rfl (by kernel_rfl) rfl) ⟨_, rfl, rfl⟩ rfl ?_
 refine .as (.ptr 1000 4) rfl ?_
 refine .q (op_load Tryz.underlying45 rfl rfl rfl rfl (by first | omega | (simp only [AV.len]; omega) | (simp only [AV.len]; omega) | assumption | (simp [AV.len]; done))) ⟨_, rfl, rfl⟩ rfl ?_
 refine .q (op_len_sl Tryz.underlying45 rfl) ⟨_, rfl, rfl⟩ rfl ?_
 refine .q (op_fieldAddr (m := 0) Tryz.underlying52 rfl (by kernel_rfl) rfl) ⟨_, rfl, rfl⟩ rfl ?_
 refine .as (.ptr 1008 4) rfl ?_
 refine .q (op_load Tryz.underlying45 rfl rfl rfl rfl (by first | omega | (simp only [AV.len]; omega) | (simp only [AV.len]; omega) | assumption | (simp [AV.len]; done))) ⟨_, rfl, rfl⟩ rfl ?_
 refine .q (op_len_sl Tryz.underlying45 rfl) ⟨_, rfl, rfl⟩ rfl ?_
 refine .q (op_cmpI rfl rfl rfl) ⟨_, rfl, rfl⟩ rfl ?_
 refine .q (op_pick_false rfl rfl rfl) trivial rfl ?_
 refine .nil ?_
 show Ev _ _ _ _ _
 refine .cond_false rfl (bne_self_eq_false _) ?_
 refine .skip ?_
 show Ev _ _ _ _ _
 refine .seq ?_
 refine .seq ?_
 refine .region ?_
 refine .q (op_fieldAddr (m := 0) Tryz.underlying52 rfl (by kernel_rfl) rfl) trivial rfl ?_
 refine .as (.ptr 1008 1) rfl ?_
 refine .q (op_load Tryz.underlying43 rfl rfl rfl rfl (by first | omega | (simp only [AV.len]; omega) | (simp only [AV.len]; omega) | assumption | (simp [AV.len]; done))) trivial rfl ?_
 refine .q (op_len_sl Tryz.underlying43 rfl) trivial rfl ?_
 refine .q (op_move rfl) trivial rfl ?_
 refine .nil ?_
 show Ev _ _ _ _ _
 refine .block ?_
 refine Ev.loop (ι := { j : Nat // j ≤ nu }) (fun j => ⟨[(2, .ptr 1000 0), (3, .ptr 1008 0), (54, .i64 (nu : Int)), (55, .i64 ((j.1 : Nat) : Int))], [(1000, some ⟨.agg [.i64 (k), .sl 511 (0) (nu) 1, .sl 512 (0) (ns) 1, .nilsl, .sl 514 (0) (nb) 1], 47, true⟩), (1008, some ⟨.agg [.i64 (k), .sl 521 (0) (nu) 1, .sl 522 (0) (ns) 1, .nilsl, .sl 524 (0) (nb) 1], 52, true⟩), (511, some ⟨.agg32 us, 42, false⟩), (521, some ⟨.agg32 us, 42, false⟩), (512, some ⟨.aggS ss, 9, false⟩), (522, some ⟨.aggS ss, 9, false⟩), (514, some ⟨.aggT bs, 4, false⟩), (524, some ⟨.aggT bs, 4, false⟩)], 1016⟩) (fun j => nu - j.1) ⟨0, Nat.zero_le _⟩ (StLe.mk [(1000, 1000), (1008, 1008)] rfl rfl ⟨⟨_, rfl, by first | rfl | (simp only [AV.ren]; congr 1; omega), rfl⟩, ⟨_, rfl, by first | rfl | (simp only [AV.ren]; congr 1; omega), rfl⟩, ⟨_, rfl, by first | rfl | (simp only [AV.ren]; congr 1; omega), rfl⟩, ⟨_, rfl, by first | rfl | (simp only [AV.ren]; congr 1; omega), rfl⟩, trivial⟩ ⟨⟨_, _, rfl, rfl, by first | rfl | (simp only [AV.ren]; congr 1; omega), rfl, id, rfl⟩, ⟨_, _, rfl, rfl, by first | rfl | (simp only [AV.ren]; congr 1; omega), rfl, id, rfl⟩, ⟨_, _, rfl, rfl, by first | rfl | (simp only [AV.ren]; congr 1; omega), rfl, id, rfl⟩, ⟨_, _, rfl, rfl, by first | rfl | (simp only [AV.ren]; congr 1; omega), rfl, id, rfl⟩, ⟨_, _, rfl, rfl, by first | rfl | (simp only [AV.ren]; congr 1; omega), rfl, id, rfl⟩, ⟨_, _, rfl, rfl, by first | rfl | (simp only [AV.ren]; congr 1; omega), rfl, id, rfl⟩, ⟨_, _, rfl, rfl, by first | rfl | (simp only [AV.ren]; congr 1; omega), rfl, id, rfl⟩, ⟨_, _, rfl, rfl, by first | rfl | (simp only [AV.ren]; congr 1; omega), rfl, id, rfl⟩, trivial⟩) ?_
 rintro ⟨j, hj⟩
 dsimp only
 refine .seq ?_
 refine .region ?_
 refine .q (op_cmpI rfl rfl rfl) trivial rfl ?_
 refine .nil ?_
 show Ev _ _ _ _ _
 refine .seq ?_
 refine .cond rfl (fun hc56 => ?_) (fun hc56 => ?_)
 ·simp only [decide_eq_true_eq] at hc56
  refine .skip ?_
  show Ev _ _ _ _ _
  refine .seq ?_
  refine .block ?_
  refine .seq ?_
  refine .region ?_
  refine .q (op_move rfl) trivial rfl ?_
  refine .q (op_assign rfl) trivial rfl ?_
  refine .nil ?_
  show Ev _ _ _ _ _
  refine .seq ?_
  refine .drawn [[], [0], [], [0, 1, 2], [0, 1, 2, 3], [], [5], [], [5, 6, 7], [5, 6, 7, 8], [0, 1, 2, 3, 4, 5, 6, 7, 8, 9]] [1, 4, 6, 9] [] (by kernel_rfl) (by kernel_rfl) rfl ?_
  show DK _ [0, 1, 2, 3, 4, 5, 6, 7, 8, 9, 10] _ _ _
  refine .q rfl (op_fieldAddr (m := 0) Tryz.underlying47 rfl (by kernel_rfl) rfl) trivial ?_
  refine .as (.ptr 1000 1) rfl ?_
  refine .q rfl (op_load Tryz.underlying43 rfl rfl rfl rfl (by first | omega | (simp only [AV.len]; omega) | (simp only [AV.len]; omega) | assumption | (simp [AV.len]; done))) trivial ?_
  refine .q rfl (op_move rfl) trivial ?_
  refine .q rfl (ap_idx0 Tryz.underlying43 inf42.sz rfl rfl rfl (by omega)) trivial ?_
  refine .q rfl (op_load Tryz.underlying42 rfl rfl rfl rfl (by show j < us.length; omega)) trivial ?_
  refine .q rfl (op_fieldAddr (m := 0) Tryz.underlying52 rfl (by kernel_rfl) rfl) trivial ?_
  refine .as (.ptr 1008 1) rfl ?_
  refine .q rfl (op_load Tryz.underlying43 rfl rfl rfl rfl (by first | omega | (simp only [AV.len]; omega) | (simp only [AV.len]; omega) | assumption | (simp [AV.len]; done))) trivial ?_
  refine .q rfl (op_move rfl) trivial ?_
  refine .q rfl (ap_idx0 Tryz.underlying43 inf42.sz rfl rfl rfl (by omega)) trivial ?_
  refine .q rfl (op_load Tryz.underlying42 rfl rfl rfl rfl (by show j < us.length; omega)) trivial ?_
  refine .q rfl (op_bin32 rfl rfl rfl) trivial ?_
  refine .nil ?_
  show Ev _ _ _ _ _
  refine .cond_false rfl (by simp) ?_
  refine .skip ?_
  show Ev _ _ _ _ _
  refine .region ?_
  refine .q (op_addI rfl rfl ⟨by omega, by omega⟩) trivial rfl ?_
  refine .q (op_move rfl) trivial rfl ?_
  refine .nil ?_
  exact ⟨⟨j + 1, by omega⟩, by show nu - (j + 1) < nu - j; omega, StLe.mk [(1000, 1000), (1008, 1008)] rfl rfl ⟨⟨_, rfl, by first | rfl | (simp only [AV.ren]; congr 1; omega), rfl⟩, ⟨_, rfl, by first | rfl | (simp only [AV.ren]; congr 1; omega), rfl⟩, ⟨_, rfl, by first | rfl | (simp only [AV.ren]; congr 1; omega), rfl⟩, ⟨_, rfl, by first | rfl | (simp only [AV.ren]; congr 1; omega), rfl⟩, trivial⟩ ⟨⟨_, _, rfl, rfl, by first | rfl | (simp only [AV.ren]; congr 1; omega), rfl, id, rfl⟩, ⟨_, _, rfl, rfl, by first | rfl | (simp only [AV.ren]; congr 1; omega), rfl, id, rfl⟩, ⟨_, _, rfl, rfl, by first | rfl | (simp only [AV.ren]; congr 1; omega), rfl, id, rfl⟩, ⟨_, _, rfl, rfl, by first | rfl | (simp only [AV.ren]; congr 1; omega), rfl, id, rfl⟩, ⟨_, _, rfl, rfl, by first | rfl | (simp only [AV.ren]; congr 1; omega), rfl, id, rfl⟩, ⟨_, _, rfl, rfl, by first | rfl | (simp only [AV.ren]; congr 1; omega), rfl, id, rfl⟩, ⟨_, _, rfl, rfl, by first | rfl | (simp only [AV.ren]; congr 1; omega), rfl, id, rfl⟩, ⟨_, _, rfl, rfl, by first | rfl | (simp only [AV.ren]; congr 1; omega), rfl, id, rfl⟩, trivial⟩⟩
 ·simp only [decide_eq_false_iff_not] at hc56
  refine .exit ?_
  show Ev _ _ _ _ _
  have ej : j = nu := by omega
  refine Ev.weak (st2 := ⟨[(2, .ptr 1000 0), (3, .ptr 1008 0), (54, .i64 (nu : Int)), (55, .i64 (((nu) : Nat) : Int))], [(1000, some ⟨.agg [.i64 (k), .sl 511 (0) (nu) 1, .sl 512 (0) (ns) 1, .nilsl, .sl 514 (0) (nb) 1], 47, true⟩), (1008, some ⟨.agg [.i64 (k), .sl 521 (0) (nu) 1, .sl 522 (0) (ns) 1, .nilsl, .sl 524 (0) (nb) 1], 52, true⟩), (511, some ⟨.agg32 us, 42, false⟩), (521, some ⟨.agg32 us, 42, false⟩), (512, some ⟨.aggS ss, 9, false⟩), (522, some ⟨.aggS ss, 9, false⟩), (514, some ⟨.aggT bs, 4, false⟩), (524, some ⟨.aggT bs, 4, false⟩)], 1016⟩) (StLe.mk [(1000, 1000), (1008, 1008)] rfl rfl ⟨⟨_, rfl, by first | (simp only [AV.ren]; done) | (simp only [AV.ren]; rw [ej]; done) | rfl, rfl⟩, ⟨_, rfl, by first | (simp only [AV.ren]; done) | (simp only [AV.ren]; rw [ej]; done) | rfl, rfl⟩, ⟨_, rfl, by first | (simp only [AV.ren]; done) | (simp only [AV.ren]; rw [ej]; done) | rfl, rfl⟩, ⟨_, rfl, by first | (simp only [AV.ren]; done) | (simp only [AV.ren]; rw [ej]; done) | rfl, rfl⟩, trivial⟩ ⟨⟨_, _, rfl, rfl, by first | (simp only [AV.ren]; done) | (simp only [AV.ren]; rw [ej]; done) | rfl, rfl, id, rfl⟩, ⟨_, _, rfl, rfl, by first | (simp only [AV.ren]; done) | (simp only [AV.ren]; rw [ej]; done) | rfl, rfl, id, rfl⟩, ⟨_, _, rfl, rfl, by first | (simp only [AV.ren]; done) | (simp only [AV.ren]; rw [ej]; done) | rfl, rfl, id, rfl⟩, ⟨_, _, rfl, rfl, by first | (simp only [AV.ren]; done) | (simp only [AV.ren]; rw [ej]; done) | rfl, rfl, id, rfl⟩, ⟨_, _, rfl, rfl, by first | (simp only [AV.ren]; done) | (simp only [AV.ren]; rw [ej]; done) | rfl, rfl, id, rfl⟩, ⟨_, _, rfl, rfl, by first | (simp only [AV.ren]; done) | (simp only [AV.ren]; rw [ej]; done) | rfl, rfl, id, rfl⟩, ⟨_, _, rfl, rfl, by first | (simp only [AV.ren]; done) | (simp only [AV.ren]; rw [ej]; done) | rfl, rfl, id, rfl⟩, ⟨_, _, rfl, rfl, by first | (simp only [AV.ren]; done) | (simp only [AV.ren]; rw [ej]; done) | rfl, rfl, id, rfl⟩, trivial⟩) ?_
  refine .seq ?_
  refine .seq ?_
  refine .region ?_
  refine .q (op_fieldAddr (m := 0) Tryz.underlying52 rfl (by kernel_rfl) rfl) trivial rfl ?_
  refine .as (.ptr 1008 2) rfl ?_
  refine .q (op_load Tryz.underlying36 rfl rfl rfl rfl (by first | omega | (simp only [AV.len]; omega) | (simp only [AV.len]; omega) | assumption | (simp [AV.len]; done))) trivial rfl ?_
  refine .q (op_len_sl Tryz.underlying36 rfl) trivial rfl ?_
  refine .q (op_move rfl) trivial rfl ?_
  refine .nil ?_
  show Ev _ _ _ _ _
  refine .block ?_
  refine Ev.loop (ι := { j : Nat // j ≤ ns }) (fun j => ⟨[(2, .ptr 1000 0), (3, .ptr 1008 0), (72, .i64 (ns : Int)), (73, .i64 ((j.1 : Nat) : Int))], [(1000, some ⟨.agg [.i64 (k), .sl 511 (0) (nu) 1, .sl 512 (0) (ns) 1, .nilsl, .sl 514 (0) (nb) 1], 47, true⟩), (1008, some ⟨.agg [.i64 (k), .sl 521 (0) (nu) 1, .sl 522 (0) (ns) 1, .nilsl, .sl 524 (0) (nb) 1], 52, true⟩), (511, some ⟨.agg32 us, 42, false⟩), (521, some ⟨.agg32 us, 42, false⟩), (512, some ⟨.aggS ss, 9, false⟩), (522, some ⟨.aggS ss, 9, false⟩), (514, some ⟨.aggT bs, 4, false⟩), (524, some ⟨.aggT bs, 4, false⟩)], 1016⟩) (fun j => ns - j.1) ⟨0, Nat.zero_le _⟩ (StLe.mk [(1000, 1000), (1008, 1008)] rfl rfl ⟨⟨_, rfl, by first | rfl | (simp only [AV.ren]; congr 1; omega), rfl⟩, ⟨_, rfl, by first | rfl | (simp only [AV.ren]; congr 1; omega), rfl⟩, ⟨_, rfl, by first | rfl | (simp only [AV.ren]; congr 1; omega), rfl⟩, ⟨_, rfl, by first | rfl | (simp only [AV.ren]; congr 1; omega), rfl⟩, trivial⟩ ⟨⟨_, _, rfl, rfl, by first | rfl | (simp only [AV.ren]; congr 1; omega), rfl, id, rfl⟩, ⟨_, _, rfl, rfl, by first | rfl | (simp only [AV.ren]; congr 1; omega), rfl, id, rfl⟩, ⟨_, _, rfl, rfl, by first | rfl | (simp only [AV.ren]; congr 1; omega), rfl, id, rfl⟩, ⟨_, _, rfl, rfl, by first | rfl | (simp only [AV.ren]; congr 1; omega), rfl, id, rfl⟩, ⟨_, _, rfl, rfl, by first | rfl | (simp only [AV.ren]; congr 1; omega), rfl, id, rfl⟩, ⟨_, _, rfl, rfl, by first | rfl | (simp only [AV.ren]; congr 1; omega), rfl, id, rfl⟩, ⟨_, _, rfl, rfl, by first | rfl | (simp only [AV.ren]; congr 1; omega), rfl, id, rfl⟩, ⟨_, _, rfl, rfl, by first | rfl | (simp only [AV.ren]; congr 1; omega), rfl, id, rfl⟩, trivial⟩) ?_
  rintro ⟨j, hj⟩
  dsimp only
  refine .seq ?_
  refine .region ?_
  refine .q (op_cmpI rfl rfl rfl) trivial rfl ?_
  refine .nil ?_
  show Ev _ _ _ _ _
  refine .seq ?_
  refine .cond rfl (fun hc74 => ?_) (fun hc74 => ?_)
  ·simp only [decide_eq_true_eq] at hc74
   refine .skip ?_
   show Ev _ _ _ _ _
   refine .seq ?_
   refine .block ?_
   refine .seq ?_
   refine .region ?_
   refine .q (op_move rfl) trivial rfl ?_
   refine .q (op_assign rfl) trivial rfl ?_
   refine .nil ?_
   show Ev _ _ _ _ _
   refine .seq ?_
   refine .drawn [[], [0], [], [0, 1, 2], [0, 1, 2, 3], [], [5], [], [5, 6, 7], [5, 6, 7, 8], [0, 1, 2, 3, 4, 5, 6, 7, 8, 9]] [1, 4, 6, 9] [] (by kernel_rfl) (by kernel_rfl) rfl ?_
   show DK _ [0, 1, 2, 3, 4, 5, 6, 7, 8, 9, 10] _ _ _
   refine .q rfl (op_fieldAddr (m := 0) Tryz.underlying47 rfl (by kernel_rfl) rfl) trivial ?_
   refine .as (.ptr 1000 2) rfl ?_
   refine .q rfl (op_load Tryz.underlying36 rfl rfl rfl rfl (by first | omega | (simp only [AV.len]; omega) | (simp only [AV.len]; omega) | assumption | (simp [AV.len]; done))) trivial ?_
   refine .q rfl (op_move rfl) trivial ?_
   refine .q rfl (ap_idx0 Tryz.underlying36 inf9.sz rfl rfl rfl (by omega)) trivial ?_
   refine .q rfl (op_load Tryz.underlying9 rfl rfl rfl rfl (by show j < ss.length; omega)) trivial ?_
   refine .q rfl (op_fieldAddr (m := 0) Tryz.underlying52 rfl (by kernel_rfl) rfl) trivial ?_
   refine .as (.ptr 1008 2) rfl ?_
   refine .q rfl (op_load Tryz.underlying36 rfl rfl rfl rfl (by first | omega | (simp only [AV.len]; omega) | (simp only [AV.len]; omega) | assumption | (simp [AV.len]; done))) trivial ?_
   refine .q rfl (op_move rfl) trivial ?_
   refine .q rfl (ap_idx0 Tryz.underlying36 inf9.sz rfl rfl rfl (by omega)) trivial ?_
   refine .q rfl (op_load Tryz.underlying9 rfl rfl rfl rfl (by show j < ss.length; omega)) trivial ?_
   refine .q rfl (op_eqS rfl rfl rfl) trivial ?_
   refine .nil ?_
   show Ev _ _ _ _ _
   refine .cond_false rfl (by simp) ?_
   refine .skip ?_
   show Ev _ _ _ _ _
   refine .region ?_
   refine .q (op_addI rfl rfl ⟨by omega, by omega⟩) trivial rfl ?_
   refine .q (op_move rfl) trivial rfl ?_
   refine .nil ?_
   exact ⟨⟨j + 1, by omega⟩, by show ns - (j + 1) < ns - j; omega, StLe.mk [(1000, 1000), (1008, 1008)] rfl rfl ⟨⟨_, rfl, by first | rfl | (simp only [AV.ren]; congr 1; omega), rfl⟩, ⟨_, rfl, by first | rfl | (simp only [AV.ren]; congr 1; omega), rfl⟩, ⟨_, rfl, by first | rfl | (simp only [AV.ren]; congr 1; omega), rfl⟩, ⟨_, rfl, by first | rfl | (simp only [AV.ren]; congr 1; omega), rfl⟩, trivial⟩ ⟨⟨_, _, rfl, rfl, by first | rfl | (simp only [AV.ren]; congr 1; omega), rfl, id, rfl⟩, ⟨_, _, rfl, rfl, by first | rfl | (simp only [AV.ren]; congr 1; omega), rfl, id, rfl⟩, ⟨_, _, rfl, rfl, by first | rfl | (simp only [AV.ren]; congr 1; omega), rfl, id, rfl⟩, ⟨_, _, rfl, rfl, by first | rfl | (simp only [AV.ren]; congr 1; omega), rfl, id, rfl⟩, ⟨_, _, rfl, rfl, by first | rfl | (simp only [AV.ren]; congr 1; omega), rfl, id, rfl⟩, ⟨_, _, rfl, rfl, by first | rfl | (simp only [AV.ren]; congr 1; omega), rfl, id, rfl⟩, ⟨_, _, rfl, rfl, by first | rfl | (simp only [AV.ren]; congr 1; omega), rfl, id, rfl⟩, ⟨_, _, rfl, rfl, by first | rfl | (simp only [AV.ren]; congr 1; omega), rfl, id, rfl⟩, trivial⟩⟩
  ·simp only [decide_eq_false_iff_not] at hc74
   refine .exit ?_
   show Ev _ _ _ _ _
   have ej : j = ns := by omega
   refine Ev.weak (st2 := ⟨[(2, .ptr 1000 0), (3, .ptr 1008 0), (72, .i64 (ns : Int)), (73, .i64 (((ns) : Nat) : Int))], [(1000, some ⟨.agg [.i64 (k), .sl 511 (0) (nu) 1, .sl 512 (0) (ns) 1, .nilsl, .sl 514 (0) (nb) 1], 47, true⟩), (1008, some ⟨.agg [.i64 (k), .sl 521 (0) (nu) 1, .sl 522 (0) (ns) 1, .nilsl, .sl 524 (0) (nb) 1], 52, true⟩), (511, some ⟨.agg32 us, 42, false⟩), (521, some ⟨.agg32 us, 42, false⟩), (512, some ⟨.aggS ss, 9, false⟩), (522, some ⟨.aggS ss, 9, false⟩), (514, some ⟨.aggT bs, 4, false⟩), (524, some ⟨.aggT bs, 4, false⟩)], 1016⟩) (StLe.mk [(1000, 1000), (1008, 1008)] rfl rfl ⟨⟨_, rfl, by first | (simp only [AV.ren]; done) | (simp only [AV.ren]; rw [ej]; done) | rfl, rfl⟩, ⟨_, rfl, by first | (simp only [AV.ren]; done) | (simp only [AV.ren]; rw [ej]; done) | rfl, rfl⟩, ⟨_, rfl, by first | (simp only [AV.ren]; done) | (simp only [AV.ren]; rw [ej]; done) | rfl, rfl⟩, ⟨_, rfl, by first | (simp only [AV.ren]; done) | (simp only [AV.ren]; rw [ej]; done) | rfl, rfl⟩, trivial⟩ ⟨⟨_, _, rfl, rfl, by first | (simp only [AV.ren]; done) | (simp only [AV.ren]; rw [ej]; done) | rfl, rfl, id, rfl⟩, ⟨_, _, rfl, rfl, by first | (simp only [AV.ren]; done) | (simp only [AV.ren]; rw [ej]; done) | rfl, rfl, id, rfl⟩, ⟨_, _, rfl, rfl, by first | (simp only [AV.ren]; done) | (simp only [AV.ren]; rw [ej]; done) | rfl, rfl, id, rfl⟩, ⟨_, _, rfl, rfl, by first | (simp only [AV.ren]; done) | (simp only [AV.ren]; rw [ej]; done) | rfl, rfl, id, rfl⟩, ⟨_, _, rfl, rfl, by first | (simp only [AV.ren]; done) | (simp only [AV.ren]; rw [ej]; done) | rfl, rfl, id, rfl⟩, ⟨_, _, rfl, rfl, by first | (simp only [AV.ren]; done) | (simp only [AV.ren]; rw [ej]; done) | rfl, rfl, id, rfl⟩, ⟨_, _, rfl, rfl, by first | (simp only [AV.ren]; done) | (simp only [AV.ren]; rw [ej]; done) | rfl, rfl, id, rfl⟩, ⟨_, _, rfl, rfl, by first | (simp only [AV.ren]; done) | (simp only [AV.ren]; rw [ej]; done) | rfl, rfl, id, rfl⟩, trivial⟩) ?_
   refine .seq ?_
   refine .seq ?_
   refine .region ?_
   refine .q (op_fieldAddr (m := 0) Tryz.underlying52 rfl (by kernel_rfl) rfl) trivial rfl ?_
   refine .as (.ptr 1008 4) rfl ?_
   refine .q (op_load Tryz.underlying45 rfl rfl rfl rfl (by first | omega | (simp only [AV.len]; omega) | (simp only [AV.len]; omega) | assumption | (simp [AV.len]; done))) trivial rfl ?_
   refine .q (op_len_sl Tryz.underlying45 rfl) trivial rfl ?_
   refine .q (op_move rfl) trivial rfl ?_
   refine .nil ?_
   show Ev _ _ _ _ _
   refine .block ?_
   refine Ev.loop (ι := { j : Nat // j ≤ nb }) (fun j => ⟨[(2, .ptr 1000 0), (3, .ptr 1008 0), (90, .i64 (nb : Int)), (91, .i64 ((j.1 : Nat) : Int))], [(1000, some ⟨.agg [.i64 (k), .sl 511 (0) (nu) 1, .sl 512 (0) (ns) 1, .nilsl, .sl 514 (0) (nb) 1], 47, true⟩), (1008, some ⟨.agg [.i64 (k), .sl 521 (0) (nu) 1, .sl 522 (0) (ns) 1, .nilsl, .sl 524 (0) (nb) 1], 52, true⟩), (511, some ⟨.agg32 us, 42, false⟩), (521, some ⟨.agg32 us, 42, false⟩), (512, some ⟨.aggS ss, 9, false⟩), (522, some ⟨.aggS ss, 9, false⟩), (514, some ⟨.aggT bs, 4, false⟩), (524, some ⟨.aggT bs, 4, false⟩)], 1016⟩) (fun j => nb - j.1) ⟨0, Nat.zero_le _⟩ (StLe.mk [(1000, 1000), (1008, 1008)] rfl rfl ⟨⟨_, rfl, by first | rfl | (simp only [AV.ren]; congr 1; omega), rfl⟩, ⟨_, rfl, by first | rfl | (simp only [AV.ren]; congr 1; omega), rfl⟩, ⟨_, rfl, by first | rfl | (simp only [AV.ren]; congr 1; omega), rfl⟩, ⟨_, rfl, by first | rfl | (simp only [AV.ren]; congr 1; omega), rfl⟩, trivial⟩ ⟨⟨_, _, rfl, rfl, by first | rfl | (simp only [AV.ren]; congr 1; omega), rfl, id, rfl⟩, ⟨_, _, rfl, rfl, by first | rfl | (simp only [AV.ren]; congr 1; omega), rfl, id, rfl⟩, ⟨_, _, rfl, rfl, by first | rfl | (simp only [AV.ren]; congr 1; omega), rfl, id, rfl⟩, ⟨_, _, rfl, rfl, by first | rfl | (simp only [AV.ren]; congr 1; omega), rfl, id, rfl⟩, ⟨_, _, rfl, rfl, by first | rfl | (simp only [AV.ren]; congr 1; omega), rfl, id, rfl⟩, ⟨_, _, rfl, rfl, by first | rfl | (simp only [AV.ren]; congr 1; omega), rfl, id, rfl⟩, ⟨_, _, rfl, rfl, by first | rfl | (simp only [AV.ren]; congr 1; omega), rfl, id, rfl⟩, ⟨_, _, rfl, rfl, by first | rfl | (simp only [AV.ren]; congr 1; omega), rfl, id, rfl⟩, trivial⟩) ?_
   rintro ⟨j, hj⟩
   dsimp only
   refine .seq ?_
   refine .region ?_
   refine .q (op_cmpI rfl rfl rfl) trivial rfl ?_
   refine .nil ?_
   show Ev _ _ _ _ _
   refine .seq ?_
   refine .cond rfl (fun hc92 => ?_) (fun hc92 => ?_)
   ·simp only [decide_eq_true_eq] at hc92
    refine .skip ?_
    show Ev _ _ _ _ _
    refine .seq ?_
    refine .block ?_
    refine .seq ?_
    refine .region ?_
    refine .q (op_move rfl) trivial rfl ?_
    refine .q (op_assign rfl) trivial rfl ?_
    refine .nil ?_
    show Ev _ _ _ _ _
    refine .seq ?_
    refine .drawn [[], [0], [], [0, 1, 2], [0, 1, 2, 3], [], [5], [], [5, 6, 7], [5, 6, 7, 8], [0, 1, 2, 3, 4, 5, 6, 7, 8, 9]] [1, 4, 6, 9] [] (by kernel_rfl) (by kernel_rfl) rfl ?_
    show DK _ [0, 1, 2, 3, 4, 5, 6, 7, 8, 9, 10] _ _ _
    refine .q rfl (op_fieldAddr (m := 0) Tryz.underlying47 rfl (by kernel_rfl) rfl) trivial ?_
    refine .as (.ptr 1000 4) rfl ?_
    refine .q rfl (op_load Tryz.underlying45 rfl rfl rfl rfl (by first | omega | (simp only [AV.len]; omega) | (simp only [AV.len]; omega) | assumption | (simp [AV.len]; done))) trivial ?_
    refine .q rfl (op_move rfl) trivial ?_
    refine .q rfl (ap_idx0 Tryz.underlying45 inf4.sz rfl rfl rfl (by omega)) trivial ?_
    refine .q rfl (op_load Tryz.underlying4 rfl rfl rfl rfl (by show j < bs.length; omega)) trivial ?_
    refine .q rfl (op_fieldAddr (m := 0) Tryz.underlying52 rfl (by kernel_rfl) rfl) trivial ?_
    refine .as (.ptr 1008 4) rfl ?_
    refine .q rfl (op_load Tryz.underlying45 rfl rfl rfl rfl (by first | omega | (simp only [AV.len]; omega) | (simp only [AV.len]; omega) | assumption | (simp [AV.len]; done))) trivial ?_
    refine .q rfl (op_move rfl) trivial ?_
    refine .q rfl (ap_idx0 Tryz.underlying45 inf4.sz rfl rfl rfl (by omega)) trivial ?_
    refine .q rfl (op_load Tryz.underlying4 rfl rfl rfl rfl (by show j < bs.length; omega)) trivial ?_
    refine .q rfl (op_eqB Tryz.underlying4 rfl rfl rfl) trivial ?_
    refine .nil ?_
    show Ev _ _ _ _ _
    refine .cond_false rfl (by simp) ?_
    refine .skip ?_
    show Ev _ _ _ _ _
    refine .region ?_
    refine .q (op_addI rfl rfl ⟨by omega, by omega⟩) trivial rfl ?_
    refine .q (op_move rfl) trivial rfl ?_
    refine .nil ?_
    exact ⟨⟨j + 1, by omega⟩, by show nb - (j + 1) < nb - j; omega, StLe.mk [(1000, 1000), (1008, 1008)] rfl rfl ⟨⟨_, rfl, by first | rfl | (simp only [AV.ren]; congr 1; omega), rfl⟩, ⟨_, rfl, by first | rfl | (simp only [AV.ren]; congr 1; omega), rfl⟩, ⟨_, rfl, by first | rfl | (simp only [AV.ren]; congr 1; omega), rfl⟩, ⟨_, rfl, by first | rfl | (simp only [AV.ren]; congr 1; omega), rfl⟩, trivial⟩ ⟨⟨_, _, rfl, rfl, by first | rfl | (simp only [AV.ren]; congr 1; omega), rfl, id, rfl⟩, ⟨_, _, rfl, rfl, by first | rfl | (simp only [AV.ren]; congr 1; omega), rfl, id, rfl⟩, ⟨_, _, rfl, rfl, by first | rfl | (simp only [AV.ren]; congr 1; omega), rfl, id, rfl⟩, ⟨_, _, rfl, rfl, by first | rfl | (simp only [AV.ren]; congr 1; omega), rfl, id, rfl⟩, ⟨_, _, rfl, rfl, by first | rfl | (simp only [AV.ren]; congr 1; omega), rfl, id, rfl⟩, ⟨_, _, rfl, rfl, by first | rfl | (simp only [AV.ren]; congr 1; omega), rfl, id, rfl⟩, ⟨_, _, rfl, rfl, by first | rfl | (simp only [AV.ren]; congr 1; omega), rfl, id, rfl⟩, ⟨_, _, rfl, rfl, by first | rfl | (simp only [AV.ren]; congr 1; omega), rfl, id, rfl⟩, trivial⟩⟩
   ·simp only [decide_eq_false_iff_not] at hc92
    refine .exit ?_
    show Ev _ _ _ _ _
    have ej : j = nb := by omega
    refine Ev.weak (st2 := ⟨[(2, .ptr 1000 0), (3, .ptr 1008 0), (90, .i64 (nb : Int)), (91, .i64 (((nb) : Nat) : Int))], [(1000, some ⟨.agg [.i64 (k), .sl 511 (0) (nu) 1, .sl 512 (0) (ns) 1, .nilsl, .sl 514 (0) (nb) 1], 47, true⟩), (1008, some ⟨.agg [.i64 (k), .sl 521 (0) (nu) 1, .sl 522 (0) (ns) 1, .nilsl, .sl 524 (0) (nb) 1], 52, true⟩), (511, some ⟨.agg32 us, 42, false⟩), (521, some ⟨.agg32 us, 42, false⟩), (512, some ⟨.aggS ss, 9, false⟩), (522, some ⟨.aggS ss, 9, false⟩), (514, some ⟨.aggT bs, 4, false⟩), (524, some ⟨.aggT bs, 4, false⟩)], 1016⟩) (StLe.mk [(1000, 1000), (1008, 1008)] rfl rfl ⟨⟨_, rfl, by first | (simp only [AV.ren]; done) | (simp only [AV.ren]; rw [ej]; done) | rfl, rfl⟩, ⟨_, rfl, by first | (simp only [AV.ren]; done) | (simp only [AV.ren]; rw [ej]; done) | rfl, rfl⟩, ⟨_, rfl, by first | (simp only [AV.ren]; done) | (simp only [AV.ren]; rw [ej]; done) | rfl, rfl⟩, ⟨_, rfl, by first | (simp only [AV.ren]; done) | (simp only [AV.ren]; rw [ej]; done) | rfl, rfl⟩, trivial⟩ ⟨⟨_, _, rfl, rfl, by first | (simp only [AV.ren]; done) | (simp only [AV.ren]; rw [ej]; done) | rfl, rfl, id, rfl⟩, ⟨_, _, rfl, rfl, by first | (simp only [AV.ren]; done) | (simp only [AV.ren]; rw [ej]; done) | rfl, rfl, id, rfl⟩, ⟨_, _, rfl, rfl, by first | (simp only [AV.ren]; done) | (simp only [AV.ren]; rw [ej]; done) | rfl, rfl, id, rfl⟩, ⟨_, _, rfl, rfl, by first | (simp only [AV.ren]; done) | (simp only [AV.ren]; rw [ej]; done) | rfl, rfl, id, rfl⟩, ⟨_, _, rfl, rfl, by first | (simp only [AV.ren]; done) | (simp only [AV.ren]; rw [ej]; done) | rfl, rfl, id, rfl⟩, ⟨_, _, rfl, rfl, by first | (simp only [AV.ren]; done) | (simp only [AV.ren]; rw [ej]; done) | rfl, rfl, id, rfl⟩, ⟨_, _, rfl, rfl, by first | (simp only [AV.ren]; done) | (simp only [AV.ren]; rw [ej]; done) | rfl, rfl, id, rfl⟩, ⟨_, _, rfl, rfl, by first | (simp only [AV.ren]; done) | (simp only [AV.ren]; rw [ej]; done) | rfl, rfl, id, rfl⟩, trivial⟩) ?_
    refine .seq ?_
    refine .seq ?_
    refine .region ?_
    refine .q (op_fieldAddr (m := 0) Tryz.underlying52 rfl (by kernel_rfl) rfl) trivial rfl ?_
    refine .as (.ptr 1008 3) rfl ?_
    refine .q (op_load Tryz.underlying44 rfl rfl rfl rfl (by first | omega | (simp only [AV.len]; omega) | (simp only [AV.len]; omega) | assumption | (simp [AV.len]; done))) trivial rfl ?_
    refine .q (op_len_nil Tryz.underlying44 rfl) trivial rfl ?_
    refine .q (op_move rfl) trivial rfl ?_
    refine .nil ?_
    show Ev _ _ _ _ _
    refine .block ?_
    refine Ev.rounds 1 ?_
    show Ev _ _ _ _ _
    refine .seq ?_
    refine .region ?_
    refine .q (op_cmpI rfl rfl rfl) trivial rfl ?_
    refine .nil ?_
    show Ev _ _ _ _ _
    refine .seq ?_
    refine .cond_false rfl (rfl) ?_
    refine .exit ?_
    show Ev _ _ _ _ _
    refine .seq ?_
    refine .region ?_
    refine .q (op_assign rfl) trivial rfl ?_
    refine .nil ?_
    show Ev _ _ _ _ _
    refine .ret ?_
    show RetOk _ _ _ _ _ _ _
    exact ret1v rfl (.inl rfl) rfl (rfl) ⟨rfl, rfl, rfl, rfl, rfl, rfl, trivial⟩
theorem parse_a10 (eo : Nat → Nat × Nat) : Meets Tryz.prog 14 [.str a10] [(3, some ⟨.agg [.err 165 (2) (offE eo (2))], errT, false⟩), (5, some ⟨.agg [.err 165 (4) (offE eo (4))], errT, false⟩), (4, some ⟨.agg [.err 165 (3) (offE eo (3))], errT, false⟩), (20, some ⟨.agg kindCells, errT, false⟩)] (.tup [.agg [.i64 (94), .sl 1032 (0) (1) 1, .sl 1040 (0) (1) 1, .nilsl, .nilsl], .val .nilIface]) [(1032, some ⟨.agg32 [7], 42, true⟩), (1040, some ⟨.aggS [[97, 98]], 9, true⟩)] := by
 have h := parse_94 a10 (by decide) (by decide +kernel) (by decide +kernel) (by decide +kernel) eo
 rw [show (u32D ((byteD (DI.mk a10 0)).1)).2 = 7 by decide +kernel, show (textD ((u32D ((byteD (DI.mk a10 0)).1)).1) 32768).2 = [97, 98] by decide +kernel] at h
 exact h
set_option maxRecDepth 100000 in
theorem awake10_ev (eo : Nat → Nat × Nat) : Meets Tryz.prog 4 [] [(3, some ⟨.agg [.err 165 (2) (offE eo (2))], errT, false⟩), (5, some ⟨.agg [.err 165 (4) (offE eo (4))], errT, false⟩), (4, some ⟨.agg [.err 165 (3) (offE eo (3))], errT, false⟩), (20, some ⟨.agg kindCells, errT, false⟩)] (.bool true) [] := by
 refine meets_of_ev (nt := 27) Tryz.func4 rfl rfl (Nat.le_of_ble_eq_true rfl) ?_
 refine .seq ?_
 refine .region ?_
 refine .q (op_assign rfl) trivial rfl ?_
 refine .nil ?_
 show Ev _ _ _ _ _
 refine .seq ?_
 refine .region ?_
 refine .a (ap_build (us := [_]) (c := .agg32 [_]) Tryz.underlying43 inf42 rfl (by decide) (by decide) ⟨rfl, rfl, rfl, trivial⟩ rfl) trivial rfl ?_
 refine .a (ap_build (us := [_]) (c := .aggS [_]) Tryz.underlying36 inf9 rfl (by decide) (by decide) ⟨rfl, rfl, rfl, trivial⟩ rfl) trivial rfl ?_
 refine .q (op_buildS (r := .agg [.i64 (94), .sl 1000 (0) (1) 1, .sl 1008 (0) (1) 1, .nilsl, .nilsl]) Tryz.underlying47 rfl zero47 rel_zero47 rfl rfl rfl rfl) trivial rfl ?_
 refine .a (op_allocRow zero47 rel_zero47 rfl) trivial rfl ?_
 refine .w (op_storeRow (by kernel_rfl) rfl rfl rfl rfl rfl (rfl) (rfl)) trivial rfl ?_
 refine .nil ?_
 show Ev _ _ _ _ _
 refine .seq ?_
 refine .region ?_
 refine .a (op_call (U := [(1024, some ⟨.agg32 [7], 42, true⟩), (1025, some ⟨.aggS [[97, 98]], 9, true⟩)]) [] [(1024, 1032), (1025, 1040)] (parse_a10 eo) Tryz.func14 (by kernel_rfl) rfl rfl rfl (⟨⟨_, rfl, rfl, rfl⟩, trivial⟩) (⟨⟨_, _, rfl, rfl, rfl, rfl, (fun h => by cases h), rfl⟩, ⟨_, _, rfl, rfl, rfl, rfl, (fun h => by cases h), rfl⟩, ⟨_, _, rfl, rfl, rfl, rfl, (fun h => by cases h), rfl⟩, ⟨_, _, rfl, rfl, rfl, rfl, (fun h => by cases h), rfl⟩, trivial⟩) (⟨⟨1032, _, rfl, rfl, rfl, rfl, .inl rfl⟩, ⟨1040, _, rfl, rfl, rfl, rfl, .inl rfl⟩, trivial⟩) (⟨(fun h => by cases h), (fun h => by cases h), (fun h => by cases h), (fun h => by cases h), trivial⟩) rfl) trivial rfl ?_
 refine .q (op_move rfl) trivial rfl ?_
 refine .q (op_extract rfl rfl) trivial rfl ?_
 refine .q (op_extract rfl rfl) trivial rfl ?_
 refine .a (op_allocRow zero47 rel_zero47 rfl) trivial rfl ?_
 refine .w (op_storeRow (by kernel_rfl) rfl rfl rfl rfl rfl (rfl) (rfl)) trivial rfl ?_
 refine .q (op_assign rfl) trivial rfl ?_
 refine .nil ?_
 show Ev _ _ _ _ _
 refine .seq ?_
 refine .region ?_
 refine .q (op_loadRow Tryz.underlying47 rfl (by kernel_rfl) rfl rfl rfl (rfl)) trivial rfl ?_
 refine .q (op_call (U := []) [(511, 1000), (512, 1008)] [] (bytes_94 [7] rfl [[97, 98]] rfl (by decide)) Tryz.func15 (by kernel_rfl) rfl rfl rfl (⟨⟨_, rfl, rfl, rfl⟩, trivial⟩) (⟨⟨_, _, rfl, rfl, rfl, rfl, (fun h => by cases h), rfl⟩, ⟨_, _, rfl, rfl, rfl, rfl, (fun h => by cases h), rfl⟩, ⟨_, _, rfl, rfl, rfl, rfl, (fun h => by cases h), rfl⟩, trivial⟩) (trivial) (⟨(fun h => by cases h), (fun h => by cases h), (fun h => by cases h), trivial⟩) rfl) trivial rfl ?_
 refine .q (op_eqS rfl rfl rfl) trivial rfl ?_
 refine .q (op_move rfl) trivial rfl ?_
 refine .know (b' := true) (by decide +kernel) ?_
 refine .q (op_move rfl) ⟨_, rfl, rfl⟩ rfl ?_
 refine .q (op_eqNilNil Tryz.underlying30 rfl rfl) ⟨_, rfl, rfl⟩ rfl ?_
 refine .q (op_pick_true rfl rfl rfl) trivial rfl ?_
 refine .q (op_move rfl) trivial rfl ?_
 refine .know (b' := true) (rfl) ?_
 refine .q (op_loadRow Tryz.underlying47 rfl (by kernel_rfl) rfl rfl rfl (rfl)) ⟨_, rfl, rfl⟩ rfl ?_
 refine .q (op_loadRow Tryz.underlying47 rfl (by kernel_rfl) rfl rfl rfl (rfl)) ⟨_, rfl, rfl⟩ rfl ?_
 refine .q (op_call (U := []) [(511, 1024), (521, 1000), (512, 1025), (522, 1008)] [] (same_US 94 1 1 [7] (by rfl) (by decide) [[97, 98]] (by rfl) (by decide)) Tryz.func16 (by kernel_rfl) rfl rfl rfl (⟨⟨_, rfl, rfl, rfl⟩, ⟨_, rfl, rfl, rfl⟩, trivial⟩) (⟨⟨_, _, rfl, rfl, rfl, rfl, (fun h => by cases h), rfl⟩, ⟨_, _, rfl, rfl, rfl, rfl, (fun h => by cases h), rfl⟩, ⟨_, _, rfl, rfl, rfl, rfl, (fun h => by cases h), rfl⟩, ⟨_, _, rfl, rfl, rfl, rfl, (fun h => by cases h), rfl⟩, trivial⟩) (trivial) (⟨(fun h => by cases h), (fun h => by cases h), (fun h => by cases h), (fun h => by cases h), trivial⟩) rfl) ⟨_, rfl, rfl⟩ rfl ?_
 refine .q (op_pick_true rfl rfl rfl) trivial rfl ?_
 refine .q (op_move rfl) trivial rfl ?_
 refine .know (b' := true) (rfl) ?_
 refine .q (op_call (U := []) [] [] (kname_ev 20) Tryz.func17 (by kernel_rfl) rfl rfl rfl (⟨⟨_, rfl, rfl, rfl⟩, trivial⟩) (⟨⟨_, _, rfl, rfl, rfl, rfl, (fun h => by cases h), rfl⟩, trivial⟩) (trivial) (⟨(fun h => by cases h), trivial⟩) rfl) ⟨_, rfl, rfl⟩ rfl ?_
 refine .q (op_eqS rfl rfl rfl) ⟨_, rfl, rfl⟩ rfl ?_
 refine .q (op_pick_true rfl rfl rfl) trivial rfl ?_
 refine .q (op_assign rfl) trivial rfl ?_
 refine .nil ?_
 show Ev _ _ _ _ _
 refine .ret ?_
 show RetOk _ _ _ _ _ _ _
 exact ret1v rfl (.inl rfl) rfl (congrArg AV.bool (by decide +kernel)) trivial
end Go.Proofs.YtaelhapmikijnaaGreatDoor
