/-
  Texts of this claim.
-/
import Derived.Test.YtcnjekoidgefpaaGreatDoorGFP
namespace Go.Proofs.YtcnjekoidgefpaaGreatDoor
open Go.RowKit
theorem length_foldL (p : List UInt64) : (foldL p).length = 4 := by unfold foldL; rw [length_redL, length_plusN, List.length_set, length_fdN]
theorem length_mulL (a b : List UInt64) : (mulL a b).length = 4 := length_foldL _
theorem length_ofL (s : List UInt8) : (ofL s).length = 4 := by unfold ofL; rw [length_redL, List.length_set, length_ofN]
theorem slice_as {b o n o' n' : Nat} (h1 : o = o') (h2 : n = n') : AV.sl b o n 1 = .sl b o' n' 1 := by rw [h1, h2]
set_option maxRecDepth 100000 in
theorem folded64_ev (p : List UInt64) (hp : p.length = 8) : Meets Tryz.prog 101 [.agg64 p] [] (.agg64 (foldL p)) [] := by
 refine meets_of_ev (nt := 44) Tryz.func101 rfl rfl (Nat.le_of_ble_eq_true rfl) ?_
 refine .seq ?_
 refine .region ?_
 refine .a (op_boxRow rfl rfl) trivial rfl ?_
 refine .a (op_allocRow zero55 rel_zero55 rfl) trivial rfl ?_
 refine .nil ?_
 show Ev _ _ _ _ _
 refine .seq ?_
 refine .region ?_
 refine .a (op_allocRow zero55 rel_zero55 rfl) trivial rfl ?_
 refine .nil ?_
 show Ev _ _ _ _ _
 refine .seq ?_
 refine .region ?_
 refine .q (op_assign rfl) trivial rfl ?_
 refine .nil ?_
 show Ev _ _ _ _ _
 refine .seq ?_
 refine .seq ?_
 refine .region ?_
 refine .q (op_move rfl) trivial rfl ?_
 refine .nil ?_
 show Ev _ _ _ _ _
 refine .block ?_
 refine Ev.loop (ι := { j : Nat // j ≤ 4 }) (fun j => ⟨[(1, .ptr 1000 0), (2, .ptr 1008 0), (3, .ptr 1016 0), (4, .u64 (fdN p j.1).2), (7, .i64 ((j.1 : Nat) : Int))], [(1000, some ⟨.agg64 p, 86, true⟩), (1008, some ⟨.agg64 (List.replicate 4 0), 55, true⟩), (1016, some ⟨.agg64 (fdN p j.1).1, 55, true⟩)], 1024⟩) (fun j => 4 - j.1) ⟨0, Nat.zero_le _⟩ (StLe.mk [(1000, 1000), (1008, 1008), (1016, 1016)] rfl rfl ⟨⟨_, rfl, by first | rfl | (simp only [AV.ren]; congr 1; omega), rfl⟩, ⟨_, rfl, by first | rfl | (simp only [AV.ren]; congr 1; omega), rfl⟩, ⟨_, rfl, by first | rfl | (simp only [AV.ren]; congr 1; omega), rfl⟩, ⟨_, rfl, by first | rfl | (simp only [AV.ren]; congr 1; omega), rfl⟩, ⟨_, rfl, by first | rfl | (simp only [AV.ren]; congr 1; omega), rfl⟩, trivial⟩ ⟨⟨_, _, rfl, rfl, by first | rfl | (simp only [AV.ren]; congr 1; omega), rfl, id, rfl⟩, ⟨_, _, rfl, rfl, by first | rfl | (simp only [AV.ren]; congr 1; omega), rfl, id, rfl⟩, ⟨_, _, rfl, rfl, by first | rfl | (simp only [AV.ren]; congr 1; omega), rfl, id, rfl⟩, trivial⟩) ?_
 rintro ⟨j, hj⟩
 dsimp only
 have hl : (fdN p j).1.length = 4 := length_fdN p j
 refine .seq ?_
 refine .region ?_
 refine .q (op_cmpI rfl rfl rfl) trivial rfl ?_
 refine .nil ?_
 show Ev _ _ _ _ _
 refine .seq ?_
 refine .cond rfl (fun hc8 => ?_) (fun hc8 => ?_)
 ·simp only [decide_eq_true_eq] at hc8
  refine .skip ?_
  show Ev _ _ _ _ _
  refine .seq ?_
  refine .block ?_
  refine .seq ?_
  refine .region ?_
  refine .q (op_move rfl) trivial rfl ?_
  refine .q (op_assign rfl) trivial rfl ?_
  refine .nil ?_
  show Ev _ _ _ _ _
  refine .drawn [[], [], [1], [1, 2], [1, 2, 3], [], [5], [5, 6], [], [1, 2, 3, 4, 5, 6, 7, 8], [1, 2, 3, 4, 5, 6, 7, 8, 9], [1, 2, 3, 4, 5, 6, 7, 8, 9, 10], [1, 2, 3, 4, 5, 6, 7, 8, 9, 10], [1, 2, 3, 4, 5, 6, 7, 8, 9, 10, 11], [], [0, 1, 2, 3, 4, 5, 6, 7, 8, 9, 10, 11, 12, 13, 14], [0, 1, 2, 3, 4, 5, 6, 7, 8, 9, 10, 11, 12, 13, 14, 15]] [4, 7, 9, 16] [16] (by kernel_rfl) (by kernel_rfl) rfl ?_
  show DK _ [0, 1, 2, 3, 4, 5, 6, 7, 8, 9, 10, 11, 12, 13, 14, 15, 16] _ _ _
  refine .q rfl (op_move rfl) trivial ?_
  refine .q rfl (op_move rfl) trivial ?_
  refine .q rfl (op_addI rfl rfl ⟨by omega, by omega⟩) trivial ?_
  refine .q rfl (ap_idx_arr Tryz.underlying86 inf52.sz rfl rfl (i := j + 4) (by omega) (by first | omega | (simp only [AV.len]; omega) | (simp only [AV.len, List.length_set]; omega) | assumption | (simp [AV.len]; done))) trivial ?_
  refine .q rfl (op_load Tryz.underlying52 rfl rfl rfl rfl (by first | omega | (simp only [AV.len]; omega) | (simp only [AV.len, List.length_set]; omega) | assumption | (simp [AV.len]; done))) trivial ?_
  refine .q rfl (op_move rfl) trivial ?_
  refine .q rfl (ap_idx_arr Tryz.underlying86 inf52.sz rfl rfl rfl (by first | omega | (simp only [AV.len]; omega) | (simp only [AV.len, List.length_set]; omega) | assumption | (simp [AV.len]; done))) trivial ?_
  refine .q rfl (op_load Tryz.underlying52 rfl rfl rfl rfl (by first | omega | (simp only [AV.len]; omega) | (simp only [AV.len, List.length_set]; omega) | assumption | (simp [AV.len]; done))) trivial ?_
  refine .q rfl (op_move rfl) trivial ?_
  refine .q rfl (op_call (U := []) [] [] (md_ev _ _ _ _) Tryz.func100 (by kernel_rfl) rfl rfl rfl (⟨⟨_, rfl, rfl, rfl⟩, ⟨_, rfl, rfl, rfl⟩, ⟨_, rfl, rfl, rfl⟩, ⟨_, rfl, rfl, rfl⟩, trivial⟩) (trivial) (trivial) (trivial) rfl) trivial ?_
  refine .q rfl (op_move rfl) trivial ?_
  refine .q rfl (op_extract rfl rfl) trivial ?_
  refine .q rfl (op_extract rfl rfl) trivial ?_
  refine .q rfl (op_assign rfl) trivial ?_
  refine .q rfl (op_fieldAddr (m := 3) Tryz.underlying55 rfl sz53 rfl) trivial ?_
  refine .q rfl (ap_idx_arr Tryz.underlying53 inf52.sz rfl rfl rfl (by first | omega | (simp only [AV.len]; omega) | (simp only [AV.len, List.length_set]; omega) | assumption | (simp [AV.len]; done))) trivial ?_
  refine .w rfl (op_store inf52.sz rfl rfl rfl rfl rfl (by first | omega | (simp only [AV.len]; omega) | (simp only [AV.len, List.length_set]; omega) | assumption | (simp [AV.len]; done))) trivial rfl rfl ?_
  refine .nil ?_
  show Ev _ _ _ _ _
  refine .region ?_
  refine .q (op_addI rfl rfl ⟨by omega, by omega⟩) trivial rfl ?_
  refine .q (op_move rfl) trivial rfl ?_
  refine .nil ?_
  exact ⟨⟨j + 1, by omega⟩, by show 4 - (j + 1) < 4 - j; omega, StLe.mk [(1000, 1000), (1008, 1008), (1016, 1016)] rfl rfl ⟨⟨_, rfl, by first | rfl | (simp only [AV.ren]; congr 1; omega), rfl⟩, ⟨_, rfl, by first | rfl | (simp only [AV.ren]; congr 1; omega), rfl⟩, ⟨_, rfl, by first | rfl | (simp only [AV.ren]; congr 1; omega), rfl⟩, ⟨_, rfl, by first | rfl | (simp only [AV.ren]; congr 1; omega), rfl⟩, ⟨_, rfl, by first | rfl | (simp only [AV.ren]; congr 1; omega), rfl⟩, trivial⟩ ⟨⟨_, _, rfl, rfl, by first | rfl | (simp only [AV.ren]; congr 1; omega), rfl, id, rfl⟩, ⟨_, _, rfl, rfl, by first | rfl | (simp only [AV.ren]; congr 1; omega), rfl, id, rfl⟩, ⟨_, _, rfl, rfl, by first | rfl | (simp only [AV.ren]; congr 1; omega), rfl, id, rfl⟩, trivial⟩⟩
 ·simp only [decide_eq_false_iff_not] at hc8
  refine .exit ?_
  show Ev _ _ _ _ _
  have ej : j = 4 := by omega
  refine Ev.weak (st2 := ⟨[(1, .ptr 1000 0), (2, .ptr 1008 0), (3, .ptr 1016 0), (4, .u64 (fdN p (4)).2), (7, .i64 (((4) : Nat) : Int))], [(1000, some ⟨.agg64 p, 86, true⟩), (1008, some ⟨.agg64 (List.replicate 4 0), 55, true⟩), (1016, some ⟨.agg64 (fdN p (4)).1, 55, true⟩)], 1024⟩) (StLe.mk [(1000, 1000), (1008, 1008), (1016, 1016)] rfl rfl ⟨⟨_, rfl, by first | (simp only [AV.ren]; done) | (simp only [AV.ren]; rw [ej]; done) | rfl, rfl⟩, ⟨_, rfl, by first | (simp only [AV.ren]; done) | (simp only [AV.ren]; rw [ej]; done) | rfl, rfl⟩, ⟨_, rfl, by first | (simp only [AV.ren]; done) | (simp only [AV.ren]; rw [ej]; done) | rfl, rfl⟩, ⟨_, rfl, by first | (simp only [AV.ren]; done) | (simp only [AV.ren]; rw [ej]; done) | rfl, rfl⟩, ⟨_, rfl, by first | (simp only [AV.ren]; done) | (simp only [AV.ren]; rw [ej]; done) | rfl, rfl⟩, trivial⟩ ⟨⟨_, _, rfl, rfl, by first | (simp only [AV.ren]; done) | (simp only [AV.ren]; rw [ej]; done) | rfl, rfl, id, rfl⟩, ⟨_, _, rfl, rfl, by first | (simp only [AV.ren]; done) | (simp only [AV.ren]; rw [ej]; done) | rfl, rfl, id, rfl⟩, ⟨_, _, rfl, rfl, by first | (simp only [AV.ren]; done) | (simp only [AV.ren]; rw [ej]; done) | rfl, rfl, id, rfl⟩, trivial⟩) ?_
  refine .seq ?_
  refine .region ?_
  refine .q (op_move rfl) trivial rfl ?_
  refine .q (op_shl64 (n := 1) rfl rfl rfl (by first | omega | (simp only [AV.len]; omega) | (simp only [AV.len, List.length_set]; omega) | assumption | (simp [AV.len]; done))) trivial rfl ?_
  refine .q (op_fieldAddr (m := 3) Tryz.underlying55 rfl sz53 rfl) trivial rfl ?_
  refine .q (ap_idx_arr Tryz.underlying53 inf52.sz rfl rfl rfl (by first | omega | (skip; omega) | (skip; omega) | assumption | (simp; done))) trivial rfl ?_
  refine .q (op_load Tryz.underlying52 rfl rfl rfl rfl (by show 3 < (fdN p 4).1.length; rw [length_fdN]; decide)) trivial rfl ?_
  refine .q (op_shr64 (n := 63) rfl rfl rfl (by first | omega | (simp only [AV.len]; omega) | (simp only [AV.len, List.length_set]; omega) | assumption | (simp [AV.len]; done))) trivial rfl ?_
  refine .q (op_bin64 rfl rfl rfl) trivial rfl ?_
  refine .as (.u64 (highL p)) rfl ?_
  refine .q (op_assign rfl) trivial rfl ?_
  refine .nil ?_
  show Ev _ _ _ _ _
  refine .seq ?_
  refine .region ?_
  refine .q (op_fieldAddr (m := 3) Tryz.underlying55 rfl sz53 rfl) trivial rfl ?_
  refine .q (ap_idx_arr Tryz.underlying53 inf52.sz rfl rfl rfl (by first | omega | (skip; omega) | (skip; omega) | assumption | (simp; done))) trivial rfl ?_
  refine .q (op_load Tryz.underlying52 rfl rfl rfl rfl (by show 3 < (fdN p 4).1.length; rw [length_fdN]; decide)) trivial rfl ?_
  refine .q (op_andNot64 rfl rfl) trivial rfl ?_
  refine .q (op_fieldAddr (m := 3) Tryz.underlying55 rfl sz53 rfl) trivial rfl ?_
  refine .q (ap_idx_arr Tryz.underlying53 inf52.sz rfl rfl rfl (by first | omega | (skip; omega) | (skip; omega) | assumption | (simp; done))) trivial rfl ?_
  refine .w (op_store inf52.sz rfl rfl rfl rfl rfl (by show 3 < (fdN p 4).1.length; rw [length_fdN]; decide)) trivial rfl ?_
  refine .nil ?_
  show Ev _ _ _ _ _
  refine .seq ?_
  refine .region ?_
  refine .q (op_loadRow Tryz.underlying55 rfl sz55 rfl rfl rfl (by show ((fdN p 4).1.set 3 _).length = 4; rw [List.length_set, length_fdN])) trivial rfl ?_
  refine .q (op_move rfl) trivial rfl ?_
  refine .q (op_bin64 rfl rfl rfl) trivial rfl ?_
  refine .q (op_call (U := []) [] [] (fplus_ev _ _ (by rw [List.length_set, length_fdN])) Tryz.func118 (by kernel_rfl) rfl rfl rfl (⟨⟨_, rfl, rfl, rfl⟩, ⟨_, rfl, rfl, rfl⟩, trivial⟩) (trivial) (trivial) (trivial) rfl) trivial rfl ?_
  refine .q (op_call (U := []) [] [] (reduced64_ev _ (by rw [length_plusN, List.length_set, length_fdN])) Tryz.func93 (by kernel_rfl) rfl rfl rfl (⟨⟨_, rfl, rfl, rfl⟩, trivial⟩) (trivial) (trivial) (trivial) rfl) trivial rfl ?_
  refine .as (.agg64 (foldL p)) rfl ?_
  refine .w (op_storeRow sz55 rfl rfl rfl rfl rfl (by first | rfl | exact length_foldL p) (by first | rfl | exact length_foldL p)) trivial rfl ?_
  refine .nil ?_
  show Ev _ _ _ _ _
  refine .ret ?_
  show RetOk _ _ _ _ _ _ _
  exact retc1 rfl (.inl rfl) ⟨_, _, _, _, rfl, rfl, rfl, rfl, (length_foldL p), Tryz.underlying55, rfl, sz55⟩ trivial
set_option maxRecDepth 100000 in
theorem mulL_ev (x y : List UInt64) (hx : x.length = 4) (hy : y.length = 4) : Meets Tryz.prog 55 [.agg64 x, .agg64 y] [] (.agg64 (mulL x y)) [] := by
 refine meets_of_ev (nt := 45) Tryz.func55 rfl rfl (Nat.le_of_ble_eq_true rfl) ?_
 refine .seq ?_
 refine .region ?_
 refine .a (op_boxRow rfl rfl) trivial rfl ?_
 refine .a (op_boxRow rfl rfl) trivial rfl ?_
 refine .a (op_allocRow zero55 rel_zero55 rfl) trivial rfl ?_
 refine .nil ?_
 show Ev _ _ _ _ _
 refine .seq ?_
 refine .region ?_
 refine .a (op_allocRow zero86 rel_zero86 rfl) trivial rfl ?_
 refine .nil ?_
 show Ev _ _ _ _ _
 refine .seq ?_
 refine .seq ?_
 refine .region ?_
 refine .q (op_move rfl) trivial rfl ?_
 refine .nil ?_
 show Ev _ _ _ _ _
 refine .block ?_
 refine Ev.loop (ι := { j : Nat // j ≤ 4 }) (fun j => ⟨[(2, .ptr 1000 0), (3, .ptr 1008 0), (4, .ptr 1016 0), (5, .ptr 1024 0), (9, .i64 ((j.1 : Nat) : Int))], [(1000, some ⟨.agg64 x, 55, true⟩), (1008, some ⟨.agg64 y, 55, true⟩), (1016, some ⟨.agg64 (List.replicate 4 0), 55, true⟩), (1024, some ⟨.agg64 (mulO x y j.1), 86, true⟩)], 1032⟩) (fun j => 4 - j.1) ⟨0, Nat.zero_le _⟩ (StLe.mk [(1000, 1000), (1008, 1008), (1016, 1016), (1024, 1024)] rfl rfl ⟨⟨_, rfl, by first | rfl | (simp only [AV.ren]; congr 1; omega), rfl⟩, ⟨_, rfl, by first | rfl | (simp only [AV.ren]; congr 1; omega), rfl⟩, ⟨_, rfl, by first | rfl | (simp only [AV.ren]; congr 1; omega), rfl⟩, ⟨_, rfl, by first | rfl | (simp only [AV.ren]; congr 1; omega), rfl⟩, ⟨_, rfl, by first | rfl | (simp only [AV.ren]; congr 1; omega), rfl⟩, trivial⟩ ⟨⟨_, _, rfl, rfl, by first | rfl | (simp only [AV.ren]; congr 1; omega), rfl, id, rfl⟩, ⟨_, _, rfl, rfl, by first | rfl | (simp only [AV.ren]; congr 1; omega), rfl, id, rfl⟩, ⟨_, _, rfl, rfl, by first | rfl | (simp only [AV.ren]; congr 1; omega), rfl, id, rfl⟩, ⟨_, _, rfl, rfl, by first | rfl | (simp only [AV.ren]; congr 1; omega), rfl, id, rfl⟩, trivial⟩) ?_
 rintro ⟨i, hi⟩
 dsimp only
 have hlo : (mulO x y i).length = 8 := length_mulO x y i
 refine .seq ?_
 refine .region ?_
 refine .q (op_cmpI rfl rfl rfl) trivial rfl ?_
 refine .nil ?_
 show Ev _ _ _ _ _
 refine .seq ?_
 refine .cond rfl (fun hc10 => ?_) (fun hc10 => ?_)
 ·simp only [decide_eq_true_eq] at hc10
  refine .skip ?_
  show Ev _ _ _ _ _
  refine .seq ?_
  refine .block ?_
  refine .seq ?_
  refine .region ?_
  refine .q (op_move rfl) trivial rfl ?_
  refine .q (op_assign rfl) trivial rfl ?_
  refine .nil ?_
  show Ev _ _ _ _ _
  refine .seq ?_
  refine .region ?_
  refine .q (op_assign rfl) trivial rfl ?_
  refine .nil ?_
  show Ev _ _ _ _ _
  refine .seq ?_
  refine .seq ?_
  refine .region ?_
  refine .q (op_move rfl) trivial rfl ?_
  refine .nil ?_
  show Ev _ _ _ _ _
  refine .block ?_
  refine Ev.loop (ι := { j : Nat // j ≤ 4 }) (fun j => ⟨[(2, .ptr 1000 0), (3, .ptr 1008 0), (4, .ptr 1016 0), (5, .ptr 1024 0), (6, .i64 ((i : Nat) : Int)), (9, .i64 ((i : Nat) : Int)), (7, .u64 (mulI x y i (mulO x y i) j.1).2), (12, .i64 ((j.1 : Nat) : Int))], [(1000, some ⟨.agg64 x, 55, true⟩), (1008, some ⟨.agg64 y, 55, true⟩), (1016, some ⟨.agg64 (List.replicate 4 0), 55, true⟩), (1024, some ⟨.agg64 (mulI x y i (mulO x y i) j.1).1, 86, true⟩)], 1032⟩) (fun j => 4 - j.1) ⟨0, Nat.zero_le _⟩ (StLe.mk [(1000, 1000), (1008, 1008), (1016, 1016), (1024, 1024)] rfl rfl ⟨⟨_, rfl, by first | rfl | (simp only [AV.ren]; congr 1; omega), rfl⟩, ⟨_, rfl, by first | rfl | (simp only [AV.ren]; congr 1; omega), rfl⟩, ⟨_, rfl, by first | rfl | (simp only [AV.ren]; congr 1; omega), rfl⟩, ⟨_, rfl, by first | rfl | (simp only [AV.ren]; congr 1; omega), rfl⟩, ⟨_, rfl, by first | rfl | (simp only [AV.ren]; congr 1; omega), rfl⟩, ⟨_, rfl, by first | rfl | (simp only [AV.ren]; congr 1; omega), rfl⟩, ⟨_, rfl, by first | rfl | (simp only [AV.ren]; congr 1; omega), rfl⟩, ⟨_, rfl, by first | rfl | (simp only [AV.ren]; congr 1; omega), rfl⟩, trivial⟩ ⟨⟨_, _, rfl, rfl, by first | rfl | (simp only [AV.ren]; congr 1; omega), rfl, id, rfl⟩, ⟨_, _, rfl, rfl, by first | rfl | (simp only [AV.ren]; congr 1; omega), rfl, id, rfl⟩, ⟨_, _, rfl, rfl, by first | rfl | (simp only [AV.ren]; congr 1; omega), rfl, id, rfl⟩, ⟨_, _, rfl, rfl, by first | rfl | (simp only [AV.ren]; congr 1; omega), rfl, id, rfl⟩, trivial⟩) ?_
  rintro ⟨j, hj⟩
  dsimp only
  have hli : (mulI x y i (mulO x y i) j).1.length = 8 := by rw [length_mulI]; exact hlo
  refine .seq ?_
  refine .region ?_
  refine .q (op_cmpI rfl rfl rfl) trivial rfl ?_
  refine .nil ?_
  show Ev _ _ _ _ _
  refine .seq ?_
  refine .cond rfl (fun hc13 => ?_) (fun hc13 => ?_)
  ·simp only [decide_eq_true_eq] at hc13
   refine .skip ?_
   show Ev _ _ _ _ _
   refine .seq ?_
   refine .block ?_
   refine .seq ?_
   refine .region ?_
   refine .q (op_move rfl) trivial rfl ?_
   refine .q (op_assign rfl) trivial rfl ?_
   refine .nil ?_
   show Ev _ _ _ _ _
   refine .drawn [[], [], [0, 1], [], [], [3, 4], [3, 4, 5], [], [], [7, 8], [7, 8, 9], [], [], [11, 12], [11, 12, 13], [11, 12, 13, 14], [], [3, 4, 5, 6, 7, 8, 9, 10, 11, 12, 13, 14, 15, 16], [3, 4, 5, 6, 7, 8, 9, 10, 11, 12, 13, 14, 15, 16, 17], [3, 4, 5, 6, 7, 8, 9, 10, 11, 12, 13, 14, 15, 16, 17, 18], [3, 4, 5, 6, 7, 8, 9, 10, 11, 12, 13, 14, 15, 16, 17, 18], [3, 4, 5, 6, 7, 8, 9, 10, 11, 12, 13, 14, 15, 16, 17, 18, 19], [0, 1, 2, 3, 4, 5, 6, 7, 8, 9, 10, 11, 12, 13, 14, 15, 16, 17, 18, 19, 20, 21], [0, 1, 2, 3, 4, 5, 6, 7, 8, 9, 10, 11, 12, 13, 14, 15, 16, 17, 18, 19, 20, 21, 22]] [6, 10, 15, 17, 23] [23] (by kernel_rfl) (by kernel_rfl) rfl ?_
   show DK _ [0, 1, 2, 3, 4, 5, 6, 7, 8, 9, 10, 11, 12, 13, 14, 15, 16, 17, 18, 19, 20, 21, 22, 23] _ _ _
   refine .q rfl (op_move rfl) trivial ?_
   refine .q rfl (op_move rfl) trivial ?_
   refine .q rfl (op_addI rfl rfl ⟨by omega, by omega⟩) trivial ?_
   refine .q rfl (op_move rfl) trivial ?_
   refine .q rfl (op_fieldAddr (m := 3) Tryz.underlying55 rfl sz53 rfl) trivial ?_
   refine .q rfl (ap_idx_arr Tryz.underlying53 inf52.sz rfl rfl rfl (by first | omega | (simp only [AV.len]; omega) | (simp only [AV.len, List.length_set]; omega) | assumption | (simp [AV.len]; done))) trivial ?_
   refine .q rfl (op_load Tryz.underlying52 rfl rfl rfl rfl (by first | omega | (simp only [AV.len]; omega) | (simp only [AV.len, List.length_set]; omega) | assumption | (simp [AV.len]; done))) trivial ?_
   refine .q rfl (op_move rfl) trivial ?_
   refine .q rfl (op_fieldAddr (m := 3) Tryz.underlying55 rfl sz53 rfl) trivial ?_
   refine .q rfl (ap_idx_arr Tryz.underlying53 inf52.sz rfl rfl rfl (by first | omega | (simp only [AV.len]; omega) | (simp only [AV.len, List.length_set]; omega) | assumption | (simp [AV.len]; done))) trivial ?_
   refine .q rfl (op_load Tryz.underlying52 rfl rfl rfl rfl (by first | omega | (simp only [AV.len]; omega) | (simp only [AV.len, List.length_set]; omega) | assumption | (simp [AV.len]; done))) trivial ?_
   refine .q rfl (op_move rfl) trivial ?_
   refine .q rfl (op_move rfl) trivial ?_
   refine .q rfl (op_addI rfl rfl ⟨by omega, by omega⟩) trivial ?_
   refine .q rfl (ap_idx_arr Tryz.underlying86 inf52.sz rfl rfl (i := i + j) (by omega) (by omega)) trivial ?_
   refine .q rfl (op_load Tryz.underlying52 rfl rfl rfl rfl (by first | omega | (simp only [AV.len]; omega) | (simp only [AV.len, List.length_set]; omega) | assumption | (simp [AV.len]; done))) trivial ?_
   refine .q rfl (op_move rfl) trivial ?_
   refine .q rfl (op_call (U := []) [] [] (md_ev _ _ _ _) Tryz.func100 (by kernel_rfl) rfl rfl rfl (⟨⟨_, rfl, rfl, rfl⟩, ⟨_, rfl, rfl, rfl⟩, ⟨_, rfl, rfl, rfl⟩, ⟨_, rfl, rfl, rfl⟩, trivial⟩) (trivial) (trivial) (trivial) rfl) trivial ?_
   refine .q rfl (op_move rfl) trivial ?_
   refine .q rfl (op_extract rfl rfl) trivial ?_
   refine .q rfl (op_extract rfl rfl) trivial ?_
   refine .q rfl (op_assign rfl) trivial ?_
   refine .q rfl (ap_idx_arr Tryz.underlying86 inf52.sz rfl rfl (i := i + j) (by omega) (by omega)) trivial ?_
   refine .w rfl (op_store inf52.sz rfl rfl rfl rfl rfl (by first | omega | (simp only [AV.len]; omega) | (simp only [AV.len, List.length_set]; omega) | assumption | (simp [AV.len]; done))) trivial rfl rfl ?_
   refine .nil ?_
   show Ev _ _ _ _ _
   refine .region ?_
   refine .q (op_addI rfl rfl ⟨by omega, by omega⟩) trivial rfl ?_
   refine .q (op_move rfl) trivial rfl ?_
   refine .nil ?_
   exact ⟨⟨j + 1, by omega⟩, by show 4 - (j + 1) < 4 - j; omega, StLe.mk [(1000, 1000), (1008, 1008), (1016, 1016), (1024, 1024)] rfl rfl ⟨⟨_, rfl, by first | rfl | (simp only [AV.ren]; congr 1; omega), rfl⟩, ⟨_, rfl, by first | rfl | (simp only [AV.ren]; congr 1; omega), rfl⟩, ⟨_, rfl, by first | rfl | (simp only [AV.ren]; congr 1; omega), rfl⟩, ⟨_, rfl, by first | rfl | (simp only [AV.ren]; congr 1; omega), rfl⟩, ⟨_, rfl, by first | rfl | (simp only [AV.ren]; congr 1; omega), rfl⟩, ⟨_, rfl, by first | rfl | (simp only [AV.ren]; congr 1; omega), rfl⟩, ⟨_, rfl, by first | rfl | (simp only [AV.ren]; congr 1; omega), rfl⟩, ⟨_, rfl, by first | rfl | (simp only [AV.ren]; congr 1; omega), rfl⟩, trivial⟩ ⟨⟨_, _, rfl, rfl, by first | rfl | (simp only [AV.ren]; congr 1; omega), rfl, id, rfl⟩, ⟨_, _, rfl, rfl, by first | rfl | (simp only [AV.ren]; congr 1; omega), rfl, id, rfl⟩, ⟨_, _, rfl, rfl, by first | rfl | (simp only [AV.ren]; congr 1; omega), rfl, id, rfl⟩, ⟨_, _, rfl, rfl, by first | rfl | (simp only [AV.ren]; congr 1; omega), rfl, id, rfl⟩, trivial⟩⟩
  ·simp only [decide_eq_false_iff_not] at hc13
   refine .exit ?_
   show Ev _ _ _ _ _
   have ej : j = 4 := by omega
   refine Ev.weak (st2 := ⟨[(2, .ptr 1000 0), (3, .ptr 1008 0), (4, .ptr 1016 0), (5, .ptr 1024 0), (6, .i64 ((i : Nat) : Int)), (9, .i64 ((i : Nat) : Int)), (7, .u64 (mulI x y i (mulO x y i) (4)).2), (12, .i64 (((4) : Nat) : Int))], [(1000, some ⟨.agg64 x, 55, true⟩), (1008, some ⟨.agg64 y, 55, true⟩), (1016, some ⟨.agg64 (List.replicate 4 0), 55, true⟩), (1024, some ⟨.agg64 (mulI x y i (mulO x y i) (4)).1, 86, true⟩)], 1032⟩) (StLe.mk [(1000, 1000), (1008, 1008), (1016, 1016), (1024, 1024)] rfl rfl ⟨⟨_, rfl, by first | (simp only [AV.ren]; done) | (simp only [AV.ren]; rw [ej]; done) | rfl, rfl⟩, ⟨_, rfl, by first | (simp only [AV.ren]; done) | (simp only [AV.ren]; rw [ej]; done) | rfl, rfl⟩, ⟨_, rfl, by first | (simp only [AV.ren]; done) | (simp only [AV.ren]; rw [ej]; done) | rfl, rfl⟩, ⟨_, rfl, by first | (simp only [AV.ren]; done) | (simp only [AV.ren]; rw [ej]; done) | rfl, rfl⟩, ⟨_, rfl, by first | (simp only [AV.ren]; done) | (simp only [AV.ren]; rw [ej]; done) | rfl, rfl⟩, ⟨_, rfl, by first | (simp only [AV.ren]; done) | (simp only [AV.ren]; rw [ej]; done) | rfl, rfl⟩, ⟨_, rfl, by first | (simp only [AV.ren]; done) | (simp only [AV.ren]; rw [ej]; done) | rfl, rfl⟩, ⟨_, rfl, by first | (simp only [AV.ren]; done) | (simp only [AV.ren]; rw [ej]; done) | rfl, rfl⟩, trivial⟩ ⟨⟨_, _, rfl, rfl, by first | (simp only [AV.ren]; done) | (simp only [AV.ren]; rw [ej]; done) | rfl, rfl, id, rfl⟩, ⟨_, _, rfl, rfl, by first | (simp only [AV.ren]; done) | (simp only [AV.ren]; rw [ej]; done) | rfl, rfl, id, rfl⟩, ⟨_, _, rfl, rfl, by first | (simp only [AV.ren]; done) | (simp only [AV.ren]; rw [ej]; done) | rfl, rfl, id, rfl⟩, ⟨_, _, rfl, rfl, by first | (simp only [AV.ren]; done) | (simp only [AV.ren]; rw [ej]; done) | rfl, rfl, id, rfl⟩, trivial⟩) ?_
   refine .region ?_
   refine .q (op_move rfl) trivial rfl ?_
   refine .q (op_addI rfl rfl ⟨by omega, by omega⟩) trivial rfl ?_
   refine .q (op_move rfl) trivial rfl ?_
   refine .q (ap_idx_arr Tryz.underlying86 inf52.sz rfl rfl (i := i + 4) (by omega) (by omega)) trivial rfl ?_
   refine .w (op_store inf52.sz rfl rfl rfl rfl rfl (by show i + 4 < (mulI x y i (mulO x y i) 4).1.length; rw [length_mulI]; omega)) trivial rfl ?_
   refine .nil ?_
   show Ev _ _ _ _ _
   refine .region ?_
   refine .q (op_addI rfl rfl ⟨by omega, by omega⟩) trivial rfl ?_
   refine .q (op_move rfl) trivial rfl ?_
   refine .nil ?_
   exact ⟨⟨i + 1, by omega⟩, by show 4 - (i + 1) < 4 - i; omega, StLe.mk [(1000, 1000), (1008, 1008), (1016, 1016), (1024, 1024)] rfl rfl ⟨⟨_, rfl, by first | rfl | (simp only [AV.ren]; congr 1; omega), rfl⟩, ⟨_, rfl, by first | rfl | (simp only [AV.ren]; congr 1; omega), rfl⟩, ⟨_, rfl, by first | rfl | (simp only [AV.ren]; congr 1; omega), rfl⟩, ⟨_, rfl, by first | rfl | (simp only [AV.ren]; congr 1; omega), rfl⟩, ⟨_, rfl, by first | rfl | (simp only [AV.ren]; congr 1; omega), rfl⟩, trivial⟩ ⟨⟨_, _, rfl, rfl, by first | rfl | (simp only [AV.ren]; congr 1; omega), rfl, id, rfl⟩, ⟨_, _, rfl, rfl, by first | rfl | (simp only [AV.ren]; congr 1; omega), rfl, id, rfl⟩, ⟨_, _, rfl, rfl, by first | rfl | (simp only [AV.ren]; congr 1; omega), rfl, id, rfl⟩, ⟨_, _, rfl, rfl, by first | rfl | (simp only [AV.ren]; congr 1; omega), rfl, id, rfl⟩, trivial⟩⟩
 ·simp only [decide_eq_false_iff_not] at hc10
  refine .exit ?_
  show Ev _ _ _ _ _
  have ei : i = 4 := by omega
  refine Ev.weak (st2 := ⟨[(2, .ptr 1000 0), (3, .ptr 1008 0), (4, .ptr 1016 0), (5, .ptr 1024 0), (9, .i64 (((4) : Nat) : Int))], [(1000, some ⟨.agg64 x, 55, true⟩), (1008, some ⟨.agg64 y, 55, true⟩), (1016, some ⟨.agg64 (List.replicate 4 0), 55, true⟩), (1024, some ⟨.agg64 (mulO x y (4)), 86, true⟩)], 1032⟩) (StLe.mk [(1000, 1000), (1008, 1008), (1016, 1016), (1024, 1024)] rfl rfl ⟨⟨_, rfl, by first | (simp only [AV.ren]; done) | (simp only [AV.ren]; rw [ei]; done) | rfl, rfl⟩, ⟨_, rfl, by first | (simp only [AV.ren]; done) | (simp only [AV.ren]; rw [ei]; done) | rfl, rfl⟩, ⟨_, rfl, by first | (simp only [AV.ren]; done) | (simp only [AV.ren]; rw [ei]; done) | rfl, rfl⟩, ⟨_, rfl, by first | (simp only [AV.ren]; done) | (simp only [AV.ren]; rw [ei]; done) | rfl, rfl⟩, ⟨_, rfl, by first | (simp only [AV.ren]; done) | (simp only [AV.ren]; rw [ei]; done) | rfl, rfl⟩, trivial⟩ ⟨⟨_, _, rfl, rfl, by first | (simp only [AV.ren]; done) | (simp only [AV.ren]; rw [ei]; done) | rfl, rfl, id, rfl⟩, ⟨_, _, rfl, rfl, by first | (simp only [AV.ren]; done) | (simp only [AV.ren]; rw [ei]; done) | rfl, rfl, id, rfl⟩, ⟨_, _, rfl, rfl, by first | (simp only [AV.ren]; done) | (simp only [AV.ren]; rw [ei]; done) | rfl, rfl, id, rfl⟩, ⟨_, _, rfl, rfl, by first | (simp only [AV.ren]; done) | (simp only [AV.ren]; rw [ei]; done) | rfl, rfl, id, rfl⟩, trivial⟩) ?_
  refine .seq ?_
  refine .region ?_
  refine .q (op_loadRow Tryz.underlying86 rfl sz86 rfl rfl rfl (length_mulO x y 4)) trivial rfl ?_
  refine .q (op_call (U := []) [] [] (folded64_ev (mulO x y 4) (length_mulO x y 4)) Tryz.func101 (by kernel_rfl) rfl rfl rfl (⟨⟨_, rfl, rfl, rfl⟩, trivial⟩) (trivial) (trivial) (trivial) rfl) trivial rfl ?_
  refine .as (.agg64 (mulL x y)) rfl ?_
  refine .w (op_storeRow sz55 rfl rfl rfl rfl rfl (by first | rfl | exact length_mulL x y) (by first | rfl | exact length_mulL x y)) trivial rfl ?_
  refine .nil ?_
  show Ev _ _ _ _ _
  refine .ret ?_
  show RetOk _ _ _ _ _ _ _
  exact retc1 rfl (.inl rfl) ⟨_, _, _, _, rfl, rfl, rfl, rfl, (length_mulL x y), Tryz.underlying55, rfl, sz55⟩ trivial
theorem fadd_ev (a b : Nat) (ha : a < fp) (hb : b < fp) : Meets Tryz.prog 56 [.agg64 (fl a), .agg64 (fl b)] [] (.agg64 (fl ((a + b) % fp))) [] := (add64_ev (fl a) (fl b) rfl rfl).as (congrArg AV.agg64 (add64_spec a b ha hb))
theorem fsub_ev (e a b : Nat) (ha : a < fp) (hb : b < fp) : Meets Tryz.prog 54 [.agg64 (fl a), .agg64 (fl b)] (HP e) (.agg64 (fl ((a + (fp - b)) % fp))) [] := (sub64_ev e (fl a) (fl b) rfl rfl).as (congrArg AV.agg64 (sub64_spec a b ha hb))
theorem fmul_ev (a b : Nat) (ha : a < fp) (hb : b < fp) : Meets Tryz.prog 55 [.agg64 (fl a), .agg64 (fl b)] [] (.agg64 (fl (a * b % fp))) [] := (mulL_ev (fl a) (fl b) rfl rfl).as (congrArg AV.agg64 (mul64_spec a b ha hb))
theorem fp_pos : 0 < fp := by decide
theorem fmod_lt (x : Nat) : x % fp < fp := Nat.mod_lt _ fp_pos
set_option maxRecDepth 100000 in
theorem fneg_ev (e b : Nat) (hb : b < fp) : Meets Tryz.prog 57 [.agg64 (fl b)] (HP e) (.agg64 (fl ((fp - b) % fp))) [] := by
 refine meets_of_ev (nt := 6) Tryz.func57 rfl rfl (Nat.le_of_ble_eq_true rfl) ?_
 refine .seq ?_
 refine .region ?_
 refine .a (op_boxRow rfl rfl) trivial rfl ?_
 refine .a (op_allocRow zero55 rel_zero55 rfl) trivial rfl ?_
 refine .nil ?_
 show Ev _ _ _ _ _
 refine .seq ?_
 refine .region ?_
 refine .q (op_buildBox0 (n := 4) Tryz.underlying55 sz53 zero55 rel_zero55) trivial rfl ?_
 refine .as (.agg64 (fl 0)) rfl ?_
 refine .q (op_loadRow Tryz.underlying55 rfl sz55 rfl rfl rfl (rfl)) trivial rfl ?_
 refine .q (op_call (U := []) [] [] (fsub_ev e 0 b fp_pos hb) Tryz.func54 (by kernel_rfl) rfl rfl rfl (⟨⟨_, rfl, rfl, rfl⟩, ⟨_, rfl, rfl, rfl⟩, trivial⟩) (⟨⟨_, _, rfl, rfl, rfl, rfl, id, rfl⟩, trivial⟩) (trivial) (⟨(fun h => by cases h), trivial⟩) rfl) trivial rfl ?_
 refine .as (.agg64 (fl ((fp - b) % fp))) (by show AV.agg64 (fl ((0 + (fp - b)) % fp)) = _; rw [Nat.zero_add]) ?_
 refine .w (op_storeRow sz55 rfl rfl rfl rfl rfl (rfl) (rfl)) trivial rfl ?_
 refine .nil ?_
 show Ev _ _ _ _ _
 refine .ret ?_
 show RetOk _ _ _ _ _ _ _
 exact retc1 rfl (.inl rfl) ⟨_, _, _, _, rfl, rfl, rfl, rfl, (rfl), Tryz.underlying55, rfl, sz55⟩ trivial
set_option maxRecDepth 100000 in
theorem fsquare_ev (a : Nat) (ha : a < fp) : Meets Tryz.prog 52 [.agg64 (fl a)] [] (.agg64 (fl (a * a % fp))) [] := by
 refine meets_of_ev (nt := 6) Tryz.func52 rfl rfl (Nat.le_of_ble_eq_true rfl) ?_
 refine .seq ?_
 refine .region ?_
 refine .a (op_boxRow rfl rfl) trivial rfl ?_
 refine .a (op_allocRow zero55 rel_zero55 rfl) trivial rfl ?_
 refine .nil ?_
 show Ev _ _ _ _ _
 refine .seq ?_
 refine .region ?_
 refine .q (op_loadRow Tryz.underlying55 rfl sz55 rfl rfl rfl (rfl)) trivial rfl ?_
 refine .q (op_loadRow Tryz.underlying55 rfl sz55 rfl rfl rfl (rfl)) trivial rfl ?_
 refine .q (op_call (U := []) [] [] (fmul_ev a a ha ha) Tryz.func55 (by kernel_rfl) rfl rfl rfl (⟨⟨_, rfl, rfl, rfl⟩, ⟨_, rfl, rfl, rfl⟩, trivial⟩) (trivial) (trivial) (trivial) rfl) trivial rfl ?_
 refine .as (.agg64 (fl (a * a % fp))) rfl ?_
 refine .w (op_storeRow sz55 rfl rfl rfl rfl rfl (rfl) (rfl)) trivial rfl ?_
 refine .nil ?_
 show Ev _ _ _ _ _
 refine .ret ?_
 show RetOk _ _ _ _ _ _ _
 exact retc1 rfl (.inl rfl) ⟨_, _, _, _, rfl, rfl, rfl, rfl, (rfl), Tryz.underlying55, rfl, sz55⟩ trivial
set_option maxRecDepth 100000 in
theorem freadWord_ev (l : List UInt8) (o n e : Nat) (h : o + n ≤ l.length) (hn : n ≤ 8) : Meets Tryz.prog 92 [.sl 500 o n 1] [(500, some ⟨.aggB l, e, false⟩)] (.u64 (rwN (l.drop o) n)) [(500, some ⟨.aggB l, e, false⟩)] := by
 refine meets_of_ev (nt := 22) Tryz.func92 rfl rfl (Nat.le_of_ble_eq_true rfl) ?_
 refine .seq ?_
 refine .region ?_
 refine .q (op_assign rfl) trivial rfl ?_
 refine .nil ?_
 show Ev _ _ _ _ _
 refine .seq ?_
 refine .region ?_
 refine .q (op_assign rfl) trivial rfl ?_
 refine .nil ?_
 show Ev _ _ _ _ _
 refine .seq ?_
 refine .seq ?_
 refine .region ?_
 refine .q (op_move rfl) trivial rfl ?_
 refine .q (op_len_sl Tryz.underlying25 rfl) trivial rfl ?_
 refine .q (op_move rfl) trivial rfl ?_
 refine .nil ?_
 show Ev _ _ _ _ _
 refine .block ?_
 refine Ev.loop (ι := { j : Nat // j ≤ n }) (fun j => ⟨[(0, .sl 500 o n 1), (3, .u64 (rwN (l.drop o) j.1)), (6, .i64 (n : Int)), (7, .i64 ((j.1 : Nat) : Int))], [(500, some ⟨.aggB l, e, false⟩)], 1000⟩) (fun j => n - j.1) ⟨0, Nat.zero_le _⟩ (StLe.mk [] rfl rfl ⟨⟨_, rfl, by first | rfl | (simp only [AV.ren]; congr 1; omega), rfl⟩, ⟨_, rfl, by first | rfl | (simp only [AV.ren]; congr 1; omega), rfl⟩, ⟨_, rfl, by first | rfl | (simp only [AV.ren]; congr 1; omega), rfl⟩, ⟨_, rfl, by first | rfl | (simp only [AV.ren]; congr 1; omega), rfl⟩, trivial⟩ ⟨⟨_, _, rfl, rfl, by first | rfl | (simp only [AV.ren]; congr 1; omega), rfl, id, rfl⟩, trivial⟩) ?_
 rintro ⟨j, hj⟩
 dsimp only
 refine .seq ?_
 refine .region ?_
 refine .q (op_cmpI rfl rfl rfl) trivial rfl ?_
 refine .nil ?_
 show Ev _ _ _ _ _
 refine .seq ?_
 refine .cond rfl (fun hc8 => ?_) (fun hc8 => ?_)
 ·simp only [decide_eq_true_eq] at hc8
  refine .skip ?_
  show Ev _ _ _ _ _
  refine .seq ?_
  refine .block ?_
  refine .seq ?_
  refine .region ?_
  refine .q (op_move rfl) trivial rfl ?_
  refine .q (op_assign rfl) trivial rfl ?_
  refine .nil ?_
  show Ev _ _ _ _ _
  refine .region ?_
  refine .q (op_move rfl) trivial rfl ?_
  refine .q (op_move rfl) trivial rfl ?_
  refine .q (op_move rfl) trivial rfl ?_
  refine .q (ap_idx Tryz.underlying25 inf5.sz rfl rfl rfl (by first | omega | (simp only [AV.len]; omega) | (simp only [AV.len, List.length_set]; omega) | assumption | (simp [AV.len]; done))) trivial rfl ?_
  refine .q (op_load Tryz.underlying5 rfl rfl rfl rfl (by first | omega | (simp only [AV.len]; omega) | (simp only [AV.len, List.length_set]; omega) | assumption | (simp [AV.len]; done))) trivial rfl ?_
  refine .q (op_conv Tryz.underlying5 Tryz.underlying52 rfl rfl) trivial rfl ?_
  refine .q (op_move rfl) trivial rfl ?_
  refine .q (op_mulI rfl rfl ⟨by omega, by omega⟩) trivial rfl ?_
  refine .q (op_shl64 (n := 8 * j) rfl rfl (by simp only [shiftBy]; rw [show (8 : Int) * (j : Int) = ((8 * j : Nat) : Int) by omega]) (by omega)) trivial rfl ?_
  refine .q (op_bin64 rfl rfl rfl) trivial rfl ?_
  refine .q (op_assign rfl) trivial rfl ?_
  refine .nil ?_
  show Ev _ _ _ _ _
  refine .region ?_
  refine .q (op_addI rfl rfl ⟨by omega, by omega⟩) trivial rfl ?_
  refine .q (op_move rfl) trivial rfl ?_
  refine .nil ?_
  exact ⟨⟨j + 1, by omega⟩, by show n - (j + 1) < n - j; omega, StLe.mk [] rfl rfl ⟨⟨_, rfl, by first | rfl | (simp only [AV.ren]; congr 1; omega), rfl⟩, ⟨_, rfl, by (simp only [AV.ren, rwN, List.getD_eq_getElem?_getD, List.getElem?_drop]), rfl⟩, ⟨_, rfl, by first | rfl | (simp only [AV.ren]; congr 1; omega), rfl⟩, ⟨_, rfl, by first | rfl | (simp only [AV.ren]; congr 1; omega), rfl⟩, trivial⟩ ⟨⟨_, _, rfl, rfl, by first | rfl | (simp only [AV.ren]; congr 1; omega), rfl, id, rfl⟩, trivial⟩⟩
 ·simp only [decide_eq_false_iff_not] at hc8
  refine .exit ?_
  show Ev _ _ _ _ _
  have ej : j = n := by omega
  refine Ev.weak (st2 := ⟨[(0, .sl 500 o n 1), (3, .u64 (rwN (l.drop o) (n))), (6, .i64 (n : Int)), (7, .i64 (((n) : Nat) : Int))], [(500, some ⟨.aggB l, e, false⟩)], 1000⟩) (StLe.mk [] rfl rfl ⟨⟨_, rfl, by first | (simp only [AV.ren]; done) | (simp only [AV.ren]; rw [ej]; done) | rfl, rfl⟩, ⟨_, rfl, by first | (simp only [AV.ren]; done) | (simp only [AV.ren]; rw [ej]; done) | rfl, rfl⟩, ⟨_, rfl, by first | (simp only [AV.ren]; done) | (simp only [AV.ren]; rw [ej]; done) | rfl, rfl⟩, ⟨_, rfl, by first | (simp only [AV.ren]; done) | (simp only [AV.ren]; rw [ej]; done) | rfl, rfl⟩, trivial⟩ ⟨⟨_, _, rfl, rfl, by first | (simp only [AV.ren]; done) | (simp only [AV.ren]; rw [ej]; done) | rfl, rfl, id, rfl⟩, trivial⟩) ?_
  refine .seq ?_
  refine .region ?_
  refine .q (op_move rfl) trivial rfl ?_
  refine .q (op_assign rfl) trivial rfl ?_
  refine .nil ?_
  show Ev _ _ _ _ _
  refine .ret ?_
  show RetOk _ _ _ _ _ _ _
  exact ret1v rfl (.inl rfl) rfl rfl ⟨rfl, trivial⟩
set_option maxRecDepth 100000 in
theorem fputWord_ev (l : List UInt8) (o n e : Nat) (x : UInt64) (h : o + n ≤ l.length) (hn : n ≤ 8) : Meets Tryz.prog 120 [.sl 500 o n 1, .u64 x] [(500, some ⟨.aggB l, e, true⟩)] (.tup []) [(500, some ⟨.aggB (pwN l o x n), e, true⟩)] := by
 refine meets_of_ev (nt := 19) Tryz.func120 rfl rfl (Nat.le_of_ble_eq_true rfl) ?_
 refine .seq ?_
 refine .region ?_
 refine .q (op_move rfl) trivial rfl ?_
 refine .q (op_len_sl Tryz.underlying25 rfl) trivial rfl ?_
 refine .q (op_move rfl) trivial rfl ?_
 refine .nil ?_
 show Ev _ _ _ _ _
 refine .block ?_
 refine Ev.loop (ι := { j : Nat // j ≤ n }) (fun j => ⟨[(0, .sl 500 o n 1), (1, .u64 x), (6, .i64 (n : Int)), (7, .i64 ((j.1 : Nat) : Int))], [(500, some ⟨.aggB (pwN l o x j.1), e, true⟩)], 1000⟩) (fun j => n - j.1) ⟨0, Nat.zero_le _⟩ (StLe.mk [] rfl rfl ⟨⟨_, rfl, by first | rfl | (simp only [AV.ren]; congr 1; omega), rfl⟩, ⟨_, rfl, by first | rfl | (simp only [AV.ren]; congr 1; omega), rfl⟩, ⟨_, rfl, by first | rfl | (simp only [AV.ren]; congr 1; omega), rfl⟩, ⟨_, rfl, by first | rfl | (simp only [AV.ren]; congr 1; omega), rfl⟩, trivial⟩ ⟨⟨_, _, rfl, rfl, by first | rfl | (simp only [AV.ren]; congr 1; omega), rfl, id, rfl⟩, trivial⟩) ?_
 rintro ⟨j, hj⟩
 dsimp only
 have hl : (pwN l o x j).length = l.length := length_pwN l o x j
 refine .seq ?_
 refine .region ?_
 refine .q (op_cmpI rfl rfl rfl) trivial rfl ?_
 refine .nil ?_
 show Ev _ _ _ _ _
 refine .seq ?_
 refine .cond rfl (fun hc8 => ?_) (fun hc8 => ?_)
 ·simp only [decide_eq_true_eq] at hc8
  refine .skip ?_
  show Ev _ _ _ _ _
  refine .seq ?_
  refine .block ?_
  refine .seq ?_
  refine .region ?_
  refine .q (op_move rfl) trivial rfl ?_
  refine .q (op_assign rfl) trivial rfl ?_
  refine .nil ?_
  show Ev _ _ _ _ _
  refine .region ?_
  refine .q (op_move rfl) trivial rfl ?_
  refine .q (op_move rfl) trivial rfl ?_
  refine .q (op_move rfl) trivial rfl ?_
  refine .q (op_move rfl) trivial rfl ?_
  refine .q (op_mulI rfl rfl ⟨by omega, by omega⟩) trivial rfl ?_
  refine .q (op_shr64 (n := 8 * j) rfl rfl (by simp only [shiftBy]; rw [show (8 : Int) * (j : Int) = ((8 * j : Nat) : Int) by omega]) (by omega)) trivial rfl ?_
  refine .q (op_conv Tryz.underlying52 Tryz.underlying5 rfl rfl) trivial rfl ?_
  refine .q (ap_idx Tryz.underlying25 inf5.sz rfl rfl rfl (by first | omega | (simp only [AV.len]; omega) | (simp only [AV.len, List.length_set]; omega) | assumption | (simp [AV.len]; done))) trivial rfl ?_
  refine .w (op_store inf5.sz rfl rfl rfl rfl rfl (by simp only [AV.len]; omega)) trivial rfl ?_
  refine .nil ?_
  show Ev _ _ _ _ _
  refine .region ?_
  refine .q (op_addI rfl rfl ⟨by omega, by omega⟩) trivial rfl ?_
  refine .q (op_move rfl) trivial rfl ?_
  refine .nil ?_
  exact ⟨⟨j + 1, by omega⟩, by show n - (j + 1) < n - j; omega, StLe.mk [] rfl rfl ⟨⟨_, rfl, by first | rfl | (simp only [AV.ren]; congr 1; omega), rfl⟩, ⟨_, rfl, by first | rfl | (simp only [AV.ren]; congr 1; omega), rfl⟩, ⟨_, rfl, by first | rfl | (simp only [AV.ren]; congr 1; omega), rfl⟩, ⟨_, rfl, by first | rfl | (simp only [AV.ren]; congr 1; omega), rfl⟩, trivial⟩ ⟨⟨_, _, rfl, rfl, by first | rfl | (simp only [AV.ren]; congr 1; omega), rfl, id, rfl⟩, trivial⟩⟩
 ·simp only [decide_eq_false_iff_not] at hc8
  refine .exit ?_
  show RetOk _ _ _ _ _ _ _
  have ej : j = n := by omega
  exact ret0 rfl (.inr rfl) ⟨by rw [ej]; rfl, trivial⟩
set_option maxHeartbeats 400000 in
set_option maxRecDepth 100000 in
theorem ofL_ev (s : List UInt8) (hs : s.length ≤ 1000000) : Meets Tryz.prog 50 [.str s] [] (.agg64 (ofL s)) [] := by
 refine meets_of_ev (nt := 31) Tryz.func50 rfl rfl (Nat.le_of_ble_eq_true rfl) ?_
 refine .seq ?_
 refine .region ?_
 refine .a (op_allocRow zero55 rel_zero55 rfl) trivial rfl ?_
 refine .nil ?_
 show Ev _ _ _ _ _
 refine .seq ?_
 refine .region ?_
 refine .a (op_allocRow zero22 rel_zero22 rfl) trivial rfl ?_
 refine .nil ?_
 show Ev _ _ _ _ _
 refine .seq ?_
 refine .region ?_
 refine .q (ap_slice_arr_hi Tryz.underlying22 inf5.sz rfl rfl (by first | omega | decide | (simp [AV.len]; done)) (by decide) rfl (by first | omega | decide | (simp [AV.len]; done))) trivial rfl ?_
 refine .q (op_move rfl) trivial rfl ?_
 refine .a (op_copy (q := (min s.length 32)) (c' := .aggB (pad32 s)) Tryz.underlying25 inf5.sz rfl rfl rfl (srcs_str rfl) (by first | omega | decide | (simp [AV.len]; done)) (by first | rfl | omega) (by simp only [AV.list, AV.parts, Option.getD_some, pad32, List.map_append, List.map_replicate, List.take_zero, List.nil_append, List.drop_replicate, Nat.zero_add, List.map_take]; congr 1; rw [List.take_eq_take_iff]; simp; omega)) trivial rfl ?_
 refine .nil ?_
 show Ev _ _ _ _ _
 refine .seq ?_
 refine .region ?_
 refine .a (op_allocRow zero55 rel_zero55 rfl) trivial rfl ?_
 refine .nil ?_
 show Ev _ _ _ _ _
 refine .seq ?_
 refine .seq ?_
 refine .region ?_
 refine .q (op_move rfl) trivial rfl ?_
 refine .nil ?_
 show Ev _ _ _ _ _
 refine .block ?_
 refine Ev.loop (ι := { j : Nat // j ≤ 4 }) (fun j => ⟨[(2, .ptr 1000 0), (3, .ptr 1008 0), (4, .ptr 1024 0), (9, .i64 ((j.1 : Nat) : Int))], [(1000, some ⟨.agg64 (List.replicate 4 0), 55, true⟩), (1008, some ⟨.aggB (pad32 s), 22, true⟩), (1024, some ⟨.agg64 (ofN (pad32 s) j.1), 55, true⟩)], 1032⟩) (fun j => 4 - j.1) ⟨0, Nat.zero_le _⟩ (StLe.mk [(1000, 1000), (1008, 1008), (1024, 1024)] rfl rfl ⟨⟨_, rfl, by first | rfl | (simp only [AV.ren]; congr 1; omega), rfl⟩, ⟨_, rfl, by first | rfl | (simp only [AV.ren]; congr 1; omega), rfl⟩, ⟨_, rfl, by first | rfl | (simp only [AV.ren]; congr 1; omega), rfl⟩, ⟨_, rfl, by first | rfl | (simp only [AV.ren]; congr 1; omega), rfl⟩, trivial⟩ ⟨⟨_, _, rfl, rfl, by first | rfl | (simp only [AV.ren]; congr 1; omega), rfl, id, rfl⟩, ⟨_, _, rfl, rfl, by first | rfl | (simp only [AV.ren]; congr 1; omega), rfl, id, rfl⟩, ⟨_, _, rfl, rfl, by first | rfl | (simp only [AV.ren]; congr 1; omega), rfl, id, rfl⟩, trivial⟩) ?_
 rintro ⟨j, hj⟩
 dsimp only
 have hl : (ofN (pad32 s) j).length = 4 := length_ofN _ j
 have hlp : (pad32 s).length = 32 := length_pad32 s
 refine .seq ?_
 refine .region ?_
 refine .q (op_cmpI rfl rfl rfl) trivial rfl ?_
 refine .nil ?_
 show Ev _ _ _ _ _
 refine .seq ?_
 refine .cond rfl (fun hc10 => ?_) (fun hc10 => ?_)
 ·simp only [decide_eq_true_eq] at hc10
  refine .skip ?_
  show Ev _ _ _ _ _
  refine .seq ?_
  refine .block ?_
  refine .seq ?_
  refine .region ?_
  refine .q (op_move rfl) trivial rfl ?_
  refine .q (op_assign rfl) trivial rfl ?_
  refine .nil ?_
  show Ev _ _ _ _ _
  refine .region ?_
  refine .q (op_move rfl) trivial rfl ?_
  refine .q (op_move rfl) trivial rfl ?_
  refine .q (op_mulI rfl rfl ⟨by omega, by omega⟩) trivial rfl ?_
  refine .q (op_move rfl) trivial rfl ?_
  refine .q (op_addI rfl rfl ⟨by omega, by omega⟩) trivial rfl ?_
  refine .q (op_mulI rfl rfl ⟨by omega, by omega⟩) trivial rfl ?_
  refine .q (op_slice_arr Tryz.underlying22 inf5.sz rfl rfl (by first | omega | (simp only [AV.len]; omega)) (by decide) (bnd_some rfl (l := 8 * j) (by omega)) (bnd_some rfl (l := 8 * (j + 1)) (by omega)) (by first | omega | (simp only [AV.len]; omega)) (by first | omega | (simp only [AV.len]; omega))) trivial rfl ?_
  refine .as (.sl 1008 (8 * j) 8 1) (slice_as (by omega) (by omega)) ?_
  refine .q (op_call (U := []) [(500, 1008)] [] (freadWord_ev (pad32 s) (8 * j) 8 22 (by rw [length_pad32]; omega) (by omega)) Tryz.func92 (by kernel_rfl) rfl rfl rfl (⟨⟨_, rfl, rfl, rfl⟩, trivial⟩) (⟨⟨_, _, rfl, rfl, rfl, rfl, (fun h => by cases h), rfl⟩, trivial⟩) (trivial) (⟨(fun h => by cases h), trivial⟩) rfl) trivial rfl ?_
  refine .q (op_fieldAddr (m := 3) Tryz.underlying55 rfl sz53 rfl) trivial rfl ?_
  refine .q (ap_idx_arr Tryz.underlying53 inf52.sz rfl rfl rfl (by first | omega | (simp only [AV.len]; omega) | (simp only [AV.len, List.length_set]; omega) | assumption | (simp [AV.len]; done))) trivial rfl ?_
  refine .w (op_store inf52.sz rfl rfl rfl rfl rfl (by first | omega | (simp only [AV.len]; omega) | (simp only [AV.len, List.length_set]; omega) | assumption | (simp [AV.len]; done))) trivial rfl ?_
  refine .nil ?_
  show Ev _ _ _ _ _
  refine .region ?_
  refine .q (op_addI rfl rfl ⟨by omega, by omega⟩) trivial rfl ?_
  refine .q (op_move rfl) trivial rfl ?_
  refine .nil ?_
  exact ⟨⟨j + 1, by omega⟩, by show 4 - (j + 1) < 4 - j; omega, StLe.mk [(1000, 1000), (1008, 1008), (1024, 1024)] rfl rfl ⟨⟨_, rfl, by first | rfl | (simp only [AV.ren]; congr 1; omega), rfl⟩, ⟨_, rfl, by first | rfl | (simp only [AV.ren]; congr 1; omega), rfl⟩, ⟨_, rfl, by first | rfl | (simp only [AV.ren]; congr 1; omega), rfl⟩, ⟨_, rfl, by first | rfl | (simp only [AV.ren]; congr 1; omega), rfl⟩, trivial⟩ ⟨⟨_, _, rfl, rfl, by first | rfl | (simp only [AV.ren]; congr 1; omega), rfl, id, rfl⟩, ⟨_, _, rfl, rfl, by first | rfl | (simp only [AV.ren]; congr 1; omega), rfl, id, rfl⟩, ⟨_, _, rfl, rfl, by first | rfl | (simp only [AV.ren]; congr 1; omega), rfl, id, rfl⟩, trivial⟩⟩
 ·simp only [decide_eq_false_iff_not] at hc10
  refine .exit ?_
  show Ev _ _ _ _ _
  have ej : j = 4 := by omega
  refine Ev.weak (st2 := ⟨[(2, .ptr 1000 0), (3, .ptr 1008 0), (4, .ptr 1024 0), (9, .i64 (((4) : Nat) : Int))], [(1000, some ⟨.agg64 (List.replicate 4 0), 55, true⟩), (1008, some ⟨.aggB (pad32 s), 22, true⟩), (1024, some ⟨.agg64 (ofN (pad32 s) (4)), 55, true⟩)], 1032⟩) (StLe.mk [(1000, 1000), (1008, 1008), (1024, 1024)] rfl rfl ⟨⟨_, rfl, by first | (simp only [AV.ren]; done) | (simp only [AV.ren]; rw [ej]; done) | rfl, rfl⟩, ⟨_, rfl, by first | (simp only [AV.ren]; done) | (simp only [AV.ren]; rw [ej]; done) | rfl, rfl⟩, ⟨_, rfl, by first | (simp only [AV.ren]; done) | (simp only [AV.ren]; rw [ej]; done) | rfl, rfl⟩, ⟨_, rfl, by first | (simp only [AV.ren]; done) | (simp only [AV.ren]; rw [ej]; done) | rfl, rfl⟩, trivial⟩ ⟨⟨_, _, rfl, rfl, by first | (simp only [AV.ren]; done) | (simp only [AV.ren]; rw [ej]; done) | rfl, rfl, id, rfl⟩, ⟨_, _, rfl, rfl, by first | (simp only [AV.ren]; done) | (simp only [AV.ren]; rw [ej]; done) | rfl, rfl, id, rfl⟩, ⟨_, _, rfl, rfl, by first | (simp only [AV.ren]; done) | (simp only [AV.ren]; rw [ej]; done) | rfl, rfl, id, rfl⟩, trivial⟩) ?_
  refine .seq ?_
  refine .region ?_
  refine .q (op_fieldAddr (m := 3) Tryz.underlying55 rfl sz53 rfl) trivial rfl ?_
  refine .q (ap_idx_arr Tryz.underlying53 inf52.sz rfl rfl rfl (by first | omega | (skip; omega) | (skip; omega) | assumption | (simp; done))) trivial rfl ?_
  refine .q (op_load Tryz.underlying52 rfl rfl rfl rfl (by show 3 < (ofN (pad32 s) 4).length; rw [length_ofN]; decide)) trivial rfl ?_
  refine .q (op_andNot64 rfl rfl) trivial rfl ?_
  refine .q (op_fieldAddr (m := 3) Tryz.underlying55 rfl sz53 rfl) trivial rfl ?_
  refine .q (ap_idx_arr Tryz.underlying53 inf52.sz rfl rfl rfl (by first | omega | (skip; omega) | (skip; omega) | assumption | (simp; done))) trivial rfl ?_
  refine .w (op_store inf52.sz rfl rfl rfl rfl rfl (by show 3 < (ofN (pad32 s) 4).length; rw [length_ofN]; decide)) trivial rfl ?_
  refine .nil ?_
  show Ev _ _ _ _ _
  refine .seq ?_
  refine .region ?_
  refine .q (op_loadRow Tryz.underlying55 rfl sz55 rfl rfl rfl (by show ((ofN (pad32 s) 4).set 3 _).length = 4; rw [List.length_set, length_ofN])) trivial rfl ?_
  refine .q (op_call (U := []) [] [] (reduced64_ev _ (by rw [List.length_set, length_ofN])) Tryz.func93 (by kernel_rfl) rfl rfl rfl (⟨⟨_, rfl, rfl, rfl⟩, trivial⟩) (trivial) (trivial) (trivial) rfl) trivial rfl ?_
  refine .as (.agg64 (ofL s)) rfl ?_
  refine .w (op_storeRow sz55 rfl rfl rfl rfl rfl (by first | rfl | exact length_ofL s) (by first | rfl | exact length_ofL s)) trivial rfl ?_
  refine .nil ?_
  show Ev _ _ _ _ _
  refine .ret ?_
  show RetOk _ _ _ _ _ _ _
  exact retc1 rfl (.inl rfl) ⟨_, _, _, _, rfl, rfl, rfl, rfl, (length_ofL s), Tryz.underlying55, rfl, sz55⟩ trivial
theorem fof_ev (s : List UInt8) (hs : s.length ≤ 1000000) : Meets Tryz.prog 50 [.str s] [] (.agg64 (fl (ofV s))) [] := (ofL_ev s hs).as (congrArg AV.agg64 (of64_spec s))
set_option maxHeartbeats 400000 in
set_option maxRecDepth 100000 in
theorem fbytes_ev (a : Nat) : Meets Tryz.prog 102 [.agg64 (fl a)] [] (.aggB (bsN a 32)) [] := by
 refine meets_of_ev (nt := 21) Tryz.func102 rfl rfl (Nat.le_of_ble_eq_true rfl) ?_
 refine .seq ?_
 refine .region ?_
 refine .a (op_boxRow rfl rfl) trivial rfl ?_
 refine .a (op_allocRow zero22 rel_zero22 rfl) trivial rfl ?_
 refine .nil ?_
 show Ev _ _ _ _ _
 refine .seq ?_
 refine .region ?_
 refine .a (op_allocRow zero22 rel_zero22 rfl) trivial rfl ?_
 refine .nil ?_
 show Ev _ _ _ _ _
 refine .seq ?_
 refine .seq ?_
 refine .region ?_
 refine .q (op_move rfl) trivial rfl ?_
 refine .nil ?_
 show Ev _ _ _ _ _
 refine .block ?_
 refine Ev.loop (ι := { j : Nat // j ≤ 4 }) (fun j => ⟨[(1, .ptr 1000 0), (2, .ptr 1008 0), (3, .ptr 1016 0), (5, .i64 ((j.1 : Nat) : Int))], [(1000, some ⟨.agg64 (fl a), 55, true⟩), (1008, some ⟨.aggB (List.replicate 32 0), 22, true⟩), (1016, some ⟨.aggB (byN (fl a) j.1), 22, true⟩)], 1024⟩) (fun j => 4 - j.1) ⟨0, Nat.zero_le _⟩ (StLe.mk [(1000, 1000), (1008, 1008), (1016, 1016)] rfl rfl ⟨⟨_, rfl, by first | rfl | (simp only [AV.ren]; congr 1; omega), rfl⟩, ⟨_, rfl, by first | rfl | (simp only [AV.ren]; congr 1; omega), rfl⟩, ⟨_, rfl, by first | rfl | (simp only [AV.ren]; congr 1; omega), rfl⟩, ⟨_, rfl, by first | rfl | (simp only [AV.ren]; congr 1; omega), rfl⟩, trivial⟩ ⟨⟨_, _, rfl, rfl, by first | rfl | (simp only [AV.ren]; congr 1; omega), rfl, id, rfl⟩, ⟨_, _, rfl, rfl, by first | rfl | (simp only [AV.ren]; congr 1; omega), rfl, id, rfl⟩, ⟨_, _, rfl, rfl, by first | rfl | (simp only [AV.ren]; congr 1; omega), rfl, id, rfl⟩, trivial⟩) ?_
 rintro ⟨j, hj⟩
 dsimp only
 have hlp : (byN (fl a) j).length = 32 := length_byN _ j
 have hlf : (fl a).length = 4 := rfl
 refine .seq ?_
 refine .region ?_
 refine .q (op_cmpI rfl rfl rfl) trivial rfl ?_
 refine .nil ?_
 show Ev _ _ _ _ _
 refine .seq ?_
 refine .cond rfl (fun hc6 => ?_) (fun hc6 => ?_)
 ·simp only [decide_eq_true_eq] at hc6
  refine .skip ?_
  show Ev _ _ _ _ _
  refine .seq ?_
  refine .block ?_
  refine .seq ?_
  refine .region ?_
  refine .q (op_move rfl) trivial rfl ?_
  refine .q (op_assign rfl) trivial rfl ?_
  refine .nil ?_
  show Ev _ _ _ _ _
  refine .drawn [[], [0], [], [2], [2, 3], [0, 1, 2, 3, 4], [], [], [6, 7], [6, 7, 8], [0, 1, 2, 3, 4, 5, 6, 7, 8, 9]] [5, 9, 10] [10] (by kernel_rfl) (by kernel_rfl) rfl ?_
  show DK _ [0, 1, 2, 3, 4, 5, 6, 7, 8, 9, 10] _ _ _
  refine .q rfl (op_move rfl) trivial ?_
  refine .q rfl (op_mulI rfl rfl ⟨by omega, by omega⟩) trivial ?_
  refine .q rfl (op_move rfl) trivial ?_
  refine .q rfl (op_addI rfl rfl ⟨by omega, by omega⟩) trivial ?_
  refine .q rfl (op_mulI rfl rfl ⟨by omega, by omega⟩) trivial ?_
  refine .q rfl (op_slice_arr Tryz.underlying22 inf5.sz rfl rfl (by first | omega | (simp only [AV.len]; omega)) (by decide) (bnd_some rfl (l := 8 * j) (by omega)) (bnd_some rfl (l := 8 * (j + 1)) (by omega)) (by first | omega | (simp only [AV.len]; omega)) (by first | omega | (simp only [AV.len]; omega))) trivial ?_
  refine .as (.sl 1016 (8 * j) 8 1) (slice_as (by omega) (by omega)) ?_
  refine .q rfl (op_move rfl) trivial ?_
  refine .q rfl (op_fieldAddr (m := 3) Tryz.underlying55 rfl sz53 rfl) trivial ?_
  refine .q rfl (ap_idx_arr Tryz.underlying53 inf52.sz rfl rfl rfl (by first | omega | (simp only [AV.len]; omega) | (simp only [AV.len, List.length_set]; omega) | assumption | (simp [AV.len]; done))) trivial ?_
  refine .q rfl (op_load Tryz.underlying52 rfl rfl rfl rfl (by first | omega | (simp only [AV.len]; omega) | (simp only [AV.len, List.length_set]; omega) | assumption | (simp [AV.len]; done))) trivial ?_
  refine .a rfl (op_call (U := [(1016, some ⟨.aggB (byN (fl a) (j + 1)), 22, true⟩)]) [(500, 1016)] [] (fputWord_ev (byN (fl a) j) (8 * j) 8 22 ((fl a).getD j 0) (by rw [length_byN]; omega) (by omega)) Tryz.func120 (by kernel_rfl) rfl rfl rfl (⟨⟨_, rfl, rfl, rfl⟩, ⟨_, rfl, rfl, rfl⟩, trivial⟩) (⟨⟨_, _, rfl, rfl, rfl, rfl, id, rfl⟩, trivial⟩) (⟨⟨500, _, rfl, rfl, rfl, rfl, .inr ⟨rfl, _, rfl, rfl⟩⟩, trivial⟩) (⟨(fun _ => ⟨1016, _, rfl, rfl⟩), trivial⟩) rfl) trivial rfl rfl ?_
  refine .nil ?_
  show Ev _ _ _ _ _
  refine .region ?_
  refine .q (op_addI rfl rfl ⟨by omega, by omega⟩) trivial rfl ?_
  refine .q (op_move rfl) trivial rfl ?_
  refine .nil ?_
  exact ⟨⟨j + 1, by omega⟩, by show 4 - (j + 1) < 4 - j; omega, StLe.mk [(1000, 1000), (1008, 1008), (1016, 1016)] rfl rfl ⟨⟨_, rfl, by first | rfl | (simp only [AV.ren]; congr 1; omega), rfl⟩, ⟨_, rfl, by first | rfl | (simp only [AV.ren]; congr 1; omega), rfl⟩, ⟨_, rfl, by first | rfl | (simp only [AV.ren]; congr 1; omega), rfl⟩, ⟨_, rfl, by first | rfl | (simp only [AV.ren]; congr 1; omega), rfl⟩, trivial⟩ ⟨⟨_, _, rfl, rfl, by first | rfl | (simp only [AV.ren]; congr 1; omega), rfl, id, rfl⟩, ⟨_, _, rfl, rfl, by first | rfl | (simp only [AV.ren]; congr 1; omega), rfl, id, rfl⟩, ⟨_, _, rfl, rfl, by first | rfl | (simp only [AV.ren]; congr 1; omega), rfl, id, rfl⟩, trivial⟩⟩
 ·simp only [decide_eq_false_iff_not] at hc6
  refine .exit ?_
  show Ev _ _ _ _ _
  have ej : j = 4 := by omega
  refine Ev.weak (st2 := ⟨[(1, .ptr 1000 0), (2, .ptr 1008 0), (3, .ptr 1016 0), (5, .i64 (((4) : Nat) : Int))], [(1000, some ⟨.agg64 (fl a), 55, true⟩), (1008, some ⟨.aggB (List.replicate 32 0), 22, true⟩), (1016, some ⟨.aggB (byN (fl a) (4)), 22, true⟩)], 1024⟩) (StLe.mk [(1000, 1000), (1008, 1008), (1016, 1016)] rfl rfl ⟨⟨_, rfl, by first | (simp only [AV.ren]; done) | (simp only [AV.ren]; rw [ej]; done) | rfl, rfl⟩, ⟨_, rfl, by first | (simp only [AV.ren]; done) | (simp only [AV.ren]; rw [ej]; done) | rfl, rfl⟩, ⟨_, rfl, by first | (simp only [AV.ren]; done) | (simp only [AV.ren]; rw [ej]; done) | rfl, rfl⟩, ⟨_, rfl, by first | (simp only [AV.ren]; done) | (simp only [AV.ren]; rw [ej]; done) | rfl, rfl⟩, trivial⟩ ⟨⟨_, _, rfl, rfl, by first | (simp only [AV.ren]; done) | (simp only [AV.ren]; rw [ej]; done) | rfl, rfl, id, rfl⟩, ⟨_, _, rfl, rfl, by first | (simp only [AV.ren]; done) | (simp only [AV.ren]; rw [ej]; done) | rfl, rfl, id, rfl⟩, ⟨_, _, rfl, rfl, by first | (simp only [AV.ren]; done) | (simp only [AV.ren]; rw [ej]; done) | rfl, rfl, id, rfl⟩, trivial⟩) ?_
  refine .seq ?_
  refine .region ?_
  refine .q (op_loadRow Tryz.underlying22 rfl sz22 rfl rfl rfl (by show (byN (fl a) 4).length = 32; exact length_byN _ _)) trivial rfl ?_
  refine .as (.aggB (bsN a 32)) (congrArg AV.aggB (bytes64_spec a)) ?_
  refine .w (op_storeRow sz22 rfl rfl rfl rfl rfl (by simp [AV.len, length_bsN]) (by simp [AV.len])) trivial rfl ?_
  refine .nil ?_
  show Ev _ _ _ _ _
  refine .ret ?_
  show RetOk _ _ _ _ _ _ _
  exact retc1 rfl (.inl rfl) ⟨_, _, _, _, rfl, rfl, rfl, rfl, (length_bsN a 32), Tryz.underlying22, rfl, sz22⟩ trivial
set_option maxRecDepth 100000 in
theorem fsmall_ev (n : UInt64) : Meets Tryz.prog 51 [.u64 n] [] (.agg64 (fl n.toNat)) [] := by
 refine meets_of_ev (nt := 6) Tryz.func51 rfl rfl (Nat.le_of_ble_eq_true rfl) ?_
 refine .seq ?_
 refine .region ?_
 refine .a (op_allocRow zero55 rel_zero55 rfl) trivial rfl ?_
 refine .nil ?_
 show Ev _ _ _ _ _
 refine .seq ?_
 refine .region ?_
 refine .q (op_move rfl) trivial rfl ?_
 refine .q (op_buildArr (us := [(0, _)]) Tryz.underlying53 inf52.sz zero53 rel_zero53 rfl (by decide) ⟨rfl, rfl, rfl, trivial⟩ rfl) trivial rfl ?_
 refine .as (.agg64 [n, 0, 0, 0]) rfl ?_
 refine .q (op_buildBox1 (l := [n, 0, 0, 0]) Tryz.underlying55 rfl sz53 zero55 (by simp) rfl) trivial rfl ?_
 refine .as (.agg64 (fl n.toNat)) (congrArg AV.agg64 (small64 n)) ?_
 refine .w (op_storeRow sz55 rfl rfl rfl rfl rfl (rfl) (rfl)) trivial rfl ?_
 refine .nil ?_
 show Ev _ _ _ _ _
 refine .ret ?_
 show RetOk _ _ _ _ _ _ _
 exact retc1 rfl (.inl rfl) ⟨_, _, _, _, rfl, rfl, rfl, rfl, (rfl), Tryz.underlying55, rfl, sz55⟩ trivial
set_option maxRecDepth 100000 in
theorem fodd_ev (a : Nat) : Meets Tryz.prog 97 [.agg64 (fl a)] [] (.bool (decide (a % 2 = 1))) [] := by
 refine meets_of_ev (nt := 8) Tryz.func97 rfl rfl (Nat.le_of_ble_eq_true rfl) ?_
 refine .seq ?_
 refine .region ?_
 refine .a (op_boxRow rfl rfl) trivial rfl ?_
 refine .q (op_assign rfl) trivial rfl ?_
 refine .nil ?_
 show Ev _ _ _ _ _
 refine .seq ?_
 refine .region ?_
 refine .q (op_fieldAddr (m := 3) Tryz.underlying55 rfl sz53 rfl) trivial rfl ?_
 refine .q (ap_idx_arr Tryz.underlying53 inf52.sz rfl rfl rfl (by first | omega | (skip; omega) | (skip; omega) | assumption | (simp; done))) trivial rfl ?_
 refine .q (op_load Tryz.underlying52 rfl rfl rfl rfl (Nat.zero_lt_succ 3)) trivial rfl ?_
 refine .q (op_bin64 rfl rfl rfl) trivial rfl ?_
 refine .q (op_bin64 rfl rfl rfl) trivial rfl ?_
 refine .q (op_assign rfl) trivial rfl ?_
 refine .nil ?_
 show Ev _ _ _ _ _
 refine .ret ?_
 show RetOk _ _ _ _ _ _ _
 exact ret1v rfl (.inl rfl) rfl (congrArg AV.bool (odd64 a)) trivial
set_option maxRecDepth 100000 in
theorem fchooseT_ev (a b : Nat) : Meets Tryz.prog 96 [.bool true, .agg64 (fl a), .agg64 (fl b)] [] (.agg64 (fl a)) [] := by
 refine meets_of_ev (nt := 33) Tryz.func96 rfl rfl (Nat.le_of_ble_eq_true rfl) ?_
 refine .seq ?_
 refine .region ?_
 refine .a (op_boxRow rfl rfl) trivial rfl ?_
 refine .a (op_boxRow rfl rfl) trivial rfl ?_
 refine .a (op_allocRow zero55 rel_zero55 rfl) trivial rfl ?_
 refine .nil ?_
 show Ev _ _ _ _ _
 refine .seq ?_
 refine .region ?_
 refine .q (op_assign rfl) trivial rfl ?_
 refine .nil ?_
 show Ev _ _ _ _ _
 refine .seq ?_
 refine .seq ?_
 refine .region ?_
 refine .q (op_move rfl) trivial rfl ?_
 refine .nil ?_
 show Ev _ _ _ _ _
 refine .cond_true rfl (rfl) ?_
 refine .region ?_
 refine .q (op_assign rfl) trivial rfl ?_
 refine .nil ?_
 show Ev _ _ _ _ _
 refine .seq ?_
 refine .seq ?_
 refine .region ?_
 refine .q (op_move rfl) trivial rfl ?_
 refine .nil ?_
 show Ev _ _ _ _ _
 refine .block ?_
 refine Ev.loop (ι := { j : Nat // j ≤ 4 }) (fun j => ⟨[(4, .ptr 1000 0), (5, .ptr 1008 0), (6, .ptr 1016 0), (7, .u64 (UInt64.ofNat 18446744073709551615)), (10, .i64 ((j.1 : Nat) : Int))], [(1000, some ⟨.agg64 (fl a), 55, true⟩), (1008, some ⟨.agg64 (selN (UInt64.ofNat 18446744073709551615) (fl a) (fl b) j.1), 55, true⟩), (1016, some ⟨.agg64 (List.replicate 4 0), 55, true⟩)], 1024⟩) (fun j => 4 - j.1) ⟨0, Nat.zero_le _⟩ (StLe.mk [(1000, 1000), (1008, 1008), (1016, 1016)] rfl rfl ⟨⟨_, rfl, by first | rfl | (simp only [AV.ren]; congr 1; omega), rfl⟩, ⟨_, rfl, by first | rfl | (simp only [AV.ren]; congr 1; omega), rfl⟩, ⟨_, rfl, by first | rfl | (simp only [AV.ren]; congr 1; omega), rfl⟩, ⟨_, rfl, by first | rfl | (simp only [AV.ren]; congr 1; omega), rfl⟩, ⟨_, rfl, by first | rfl | (simp only [AV.ren]; congr 1; omega), rfl⟩, trivial⟩ ⟨⟨_, _, rfl, rfl, by first | rfl | (simp only [AV.ren]; congr 1; omega), rfl, id, rfl⟩, ⟨_, _, rfl, rfl, by first | rfl | (simp only [AV.ren]; congr 1; omega), rfl, id, rfl⟩, ⟨_, _, rfl, rfl, by first | rfl | (simp only [AV.ren]; congr 1; omega), rfl, id, rfl⟩, trivial⟩) ?_
 rintro ⟨j, hj⟩
 dsimp only
 have hl : (selN (UInt64.ofNat 18446744073709551615) (fl a) (fl b) j).length = 4 := length_selN _ _ _ j
 have hlf : (fl a).length = 4 := rfl
 refine .seq ?_
 refine .region ?_
 refine .q (op_cmpI rfl rfl rfl) trivial rfl ?_
 refine .nil ?_
 show Ev _ _ _ _ _
 refine .seq ?_
 refine .cond rfl (fun hc11 => ?_) (fun hc11 => ?_)
 ·simp only [decide_eq_true_eq] at hc11
  refine .skip ?_
  show Ev _ _ _ _ _
  refine .seq ?_
  refine .block ?_
  refine .seq ?_
  refine .region ?_
  refine .q (op_move rfl) trivial rfl ?_
  refine .q (op_assign rfl) trivial rfl ?_
  refine .nil ?_
  show Ev _ _ _ _ _
  refine .drawn [[], [], [0, 1], [0, 1, 2], [], [], [], [5, 6], [5, 6, 7], [], [], [9, 10], [9, 10, 11], [5, 6, 7, 8, 9, 10, 11, 12], [4, 5, 6, 7, 8, 9, 10, 11, 12, 13], [0, 1, 2, 3, 4, 5, 6, 7, 8, 9, 10, 11, 12, 13, 14], [], [0, 1, 2, 3, 4, 5, 6, 7, 8, 9, 10, 11, 12, 13, 14, 15, 16], [0, 1, 2, 3, 4, 5, 6, 7, 8, 9, 10, 11, 12, 13, 14, 15, 16, 17]] [3, 8, 12, 18] [18] (by kernel_rfl) (by kernel_rfl) rfl ?_
  show DK _ [0, 1, 2, 3, 4, 5, 6, 7, 8, 9, 10, 11, 12, 13, 14, 15, 16, 17, 18] _ _ _
  refine .q rfl (op_move rfl) trivial ?_
  refine .q rfl (op_fieldAddr (m := 3) Tryz.underlying55 rfl sz53 rfl) trivial ?_
  refine .q rfl (ap_idx_arr Tryz.underlying53 inf52.sz rfl rfl rfl (by first | omega | (simp only [AV.len]; omega) | (simp only [AV.len, List.length_set]; omega) | assumption | (simp [AV.len]; done))) trivial ?_
  refine .q rfl (op_load Tryz.underlying52 rfl rfl rfl rfl (by first | omega | (simp only [AV.len]; omega) | (simp only [AV.len, List.length_set]; omega) | assumption | (simp [AV.len]; done))) trivial ?_
  refine .q rfl (op_move rfl) trivial ?_
  refine .q rfl (op_move rfl) trivial ?_
  refine .q rfl (op_fieldAddr (m := 3) Tryz.underlying55 rfl sz53 rfl) trivial ?_
  refine .q rfl (ap_idx_arr Tryz.underlying53 inf52.sz rfl rfl rfl (by first | omega | (simp only [AV.len]; omega) | (simp only [AV.len, List.length_set]; omega) | assumption | (simp [AV.len]; done))) trivial ?_
  refine .q rfl (op_load Tryz.underlying52 rfl rfl rfl rfl (by first | omega | (simp only [AV.len]; omega) | (simp only [AV.len, List.length_set]; omega) | assumption | (simp [AV.len]; done))) trivial ?_
  refine .q rfl (op_move rfl) trivial ?_
  refine .q rfl (op_fieldAddr (m := 3) Tryz.underlying55 rfl sz53 rfl) trivial ?_
  refine .q rfl (ap_idx_arr Tryz.underlying53 inf52.sz rfl rfl rfl (by first | omega | (simp only [AV.len]; omega) | (simp only [AV.len, List.length_set]; omega) | assumption | (simp [AV.len]; done))) trivial ?_
  refine .q rfl (op_load Tryz.underlying52 rfl rfl rfl rfl (by first | omega | (simp only [AV.len]; omega) | (simp only [AV.len, List.length_set]; omega) | assumption | (simp [AV.len]; done))) trivial ?_
  refine .q rfl (op_bin64 rfl rfl rfl) trivial ?_
  refine .q rfl (op_bin64 rfl rfl rfl) trivial ?_
  refine .q rfl (op_bin64 rfl rfl rfl) trivial ?_
  refine .q rfl (op_fieldAddr (m := 3) Tryz.underlying55 rfl sz53 rfl) trivial ?_
  refine .q rfl (ap_idx_arr Tryz.underlying53 inf52.sz rfl rfl rfl (by first | omega | (simp only [AV.len]; omega) | (simp only [AV.len, List.length_set]; omega) | assumption | (simp [AV.len]; done))) trivial ?_
  refine .w rfl (op_store inf52.sz rfl rfl rfl rfl rfl (by first | omega | (simp only [AV.len]; omega) | (simp only [AV.len, List.length_set]; omega) | assumption | (simp [AV.len]; done))) trivial rfl rfl ?_
  refine .nil ?_
  show Ev _ _ _ _ _
  refine .region ?_
  refine .q (op_addI rfl rfl ⟨by omega, by omega⟩) trivial rfl ?_
  refine .q (op_move rfl) trivial rfl ?_
  refine .nil ?_
  exact ⟨⟨j + 1, by omega⟩, by show 4 - (j + 1) < 4 - j; omega, StLe.mk [(1000, 1000), (1008, 1008), (1016, 1016)] rfl rfl ⟨⟨_, rfl, by first | rfl | (simp only [AV.ren]; congr 1; omega), rfl⟩, ⟨_, rfl, by first | rfl | (simp only [AV.ren]; congr 1; omega), rfl⟩, ⟨_, rfl, by first | rfl | (simp only [AV.ren]; congr 1; omega), rfl⟩, ⟨_, rfl, by first | rfl | (simp only [AV.ren]; congr 1; omega), rfl⟩, ⟨_, rfl, by first | rfl | (simp only [AV.ren]; congr 1; omega), rfl⟩, trivial⟩ ⟨⟨_, _, rfl, rfl, by first | rfl | (simp only [AV.ren]; congr 1; omega), rfl, id, rfl⟩, ⟨_, _, rfl, rfl, by (simp only [AV.ren, selN]; rw [UInt64.xor_comm ((fl a).getD j 0)]), rfl, id, rfl⟩, ⟨_, _, rfl, rfl, by first | rfl | (simp only [AV.ren]; congr 1; omega), rfl, id, rfl⟩, trivial⟩⟩
 ·simp only [decide_eq_false_iff_not] at hc11
  refine .exit ?_
  show Ev _ _ _ _ _
  have ej : j = 4 := by omega
  refine Ev.weak (st2 := ⟨[(4, .ptr 1000 0), (5, .ptr 1008 0), (6, .ptr 1016 0), (7, .u64 (UInt64.ofNat 18446744073709551615)), (10, .i64 (((4) : Nat) : Int))], [(1000, some ⟨.agg64 (fl a), 55, true⟩), (1008, some ⟨.agg64 (selN (UInt64.ofNat 18446744073709551615) (fl a) (fl b) (4)), 55, true⟩), (1016, some ⟨.agg64 (List.replicate 4 0), 55, true⟩)], 1024⟩) (StLe.mk [(1000, 1000), (1008, 1008), (1016, 1016)] rfl rfl ⟨⟨_, rfl, by first | (simp only [AV.ren]; done) | (simp only [AV.ren]; rw [ej]; done) | rfl, rfl⟩, ⟨_, rfl, by first | (simp only [AV.ren]; done) | (simp only [AV.ren]; rw [ej]; done) | rfl, rfl⟩, ⟨_, rfl, by first | (simp only [AV.ren]; done) | (simp only [AV.ren]; rw [ej]; done) | rfl, rfl⟩, ⟨_, rfl, by first | (simp only [AV.ren]; done) | (simp only [AV.ren]; rw [ej]; done) | rfl, rfl⟩, ⟨_, rfl, by first | (simp only [AV.ren]; done) | (simp only [AV.ren]; rw [ej]; done) | rfl, rfl⟩, trivial⟩ ⟨⟨_, _, rfl, rfl, by first | (simp only [AV.ren]; done) | (simp only [AV.ren]; rw [ej]; done) | rfl, rfl, id, rfl⟩, ⟨_, _, rfl, rfl, by first | (simp only [AV.ren]; done) | (simp only [AV.ren]; rw [ej]; done) | rfl, rfl, id, rfl⟩, ⟨_, _, rfl, rfl, by first | (simp only [AV.ren]; done) | (simp only [AV.ren]; rw [ej]; done) | rfl, rfl, id, rfl⟩, trivial⟩) ?_
  refine .seq ?_
  refine .region ?_
  refine .q (op_loadRow Tryz.underlying55 rfl sz55 rfl rfl rfl (length_selN _ _ _ 4)) trivial rfl ?_
  refine .as (.agg64 (fl a)) (congrArg AV.agg64 (sel_ones (fl a) (fl b) rfl rfl)) ?_
  refine .w (op_storeRow sz55 rfl rfl rfl rfl rfl (rfl) (rfl)) trivial rfl ?_
  refine .nil ?_
  show Ev _ _ _ _ _
  refine .ret ?_
  show RetOk _ _ _ _ _ _ _
  exact retc1 rfl (.inl rfl) ⟨_, _, _, _, rfl, rfl, rfl, rfl, (rfl), Tryz.underlying55, rfl, sz55⟩ trivial
set_option maxRecDepth 100000 in
theorem fchooseF_ev (a b : Nat) : Meets Tryz.prog 96 [.bool false, .agg64 (fl a), .agg64 (fl b)] [] (.agg64 (fl b)) [] := by
 refine meets_of_ev (nt := 33) Tryz.func96 rfl rfl (Nat.le_of_ble_eq_true rfl) ?_
 refine .seq ?_
 refine .region ?_
 refine .a (op_boxRow rfl rfl) trivial rfl ?_
 refine .a (op_boxRow rfl rfl) trivial rfl ?_
 refine .a (op_allocRow zero55 rel_zero55 rfl) trivial rfl ?_
 refine .nil ?_
 show Ev _ _ _ _ _
 refine .seq ?_
 refine .region ?_
 refine .q (op_assign rfl) trivial rfl ?_
 refine .nil ?_
 show Ev _ _ _ _ _
 refine .seq ?_
 refine .seq ?_
 refine .region ?_
 refine .q (op_move rfl) trivial rfl ?_
 refine .nil ?_
 show Ev _ _ _ _ _
 refine .cond_false rfl (rfl) ?_
 refine .skip ?_
 show Ev _ _ _ _ _
 refine .seq ?_
 refine .seq ?_
 refine .region ?_
 refine .q (op_move rfl) trivial rfl ?_
 refine .nil ?_
 show Ev _ _ _ _ _
 refine .block ?_
 refine Ev.loop (ι := { j : Nat // j ≤ 4 }) (fun j => ⟨[(4, .ptr 1000 0), (5, .ptr 1008 0), (6, .ptr 1016 0), (7, .u64 (UInt64.ofNat 0)), (10, .i64 ((j.1 : Nat) : Int))], [(1000, some ⟨.agg64 (fl a), 55, true⟩), (1008, some ⟨.agg64 (selN (UInt64.ofNat 0) (fl a) (fl b) j.1), 55, true⟩), (1016, some ⟨.agg64 (List.replicate 4 0), 55, true⟩)], 1024⟩) (fun j => 4 - j.1) ⟨0, Nat.zero_le _⟩ (StLe.mk [(1000, 1000), (1008, 1008), (1016, 1016)] rfl rfl ⟨⟨_, rfl, by first | rfl | (simp only [AV.ren]; congr 1; omega), rfl⟩, ⟨_, rfl, by first | rfl | (simp only [AV.ren]; congr 1; omega), rfl⟩, ⟨_, rfl, by first | rfl | (simp only [AV.ren]; congr 1; omega), rfl⟩, ⟨_, rfl, by first | rfl | (simp only [AV.ren]; congr 1; omega), rfl⟩, ⟨_, rfl, by first | rfl | (simp only [AV.ren]; congr 1; omega), rfl⟩, trivial⟩ ⟨⟨_, _, rfl, rfl, by first | rfl | (simp only [AV.ren]; congr 1; omega), rfl, id, rfl⟩, ⟨_, _, rfl, rfl, by first | rfl | (simp only [AV.ren]; congr 1; omega), rfl, id, rfl⟩, ⟨_, _, rfl, rfl, by first | rfl | (simp only [AV.ren]; congr 1; omega), rfl, id, rfl⟩, trivial⟩) ?_
 rintro ⟨j, hj⟩
 dsimp only
 have hl : (selN (UInt64.ofNat 0) (fl a) (fl b) j).length = 4 := length_selN _ _ _ j
 have hlf : (fl a).length = 4 := rfl
 refine .seq ?_
 refine .region ?_
 refine .q (op_cmpI rfl rfl rfl) trivial rfl ?_
 refine .nil ?_
 show Ev _ _ _ _ _
 refine .seq ?_
 refine .cond rfl (fun hc11 => ?_) (fun hc11 => ?_)
 ·simp only [decide_eq_true_eq] at hc11
  refine .skip ?_
  show Ev _ _ _ _ _
  refine .seq ?_
  refine .block ?_
  refine .seq ?_
  refine .region ?_
  refine .q (op_move rfl) trivial rfl ?_
  refine .q (op_assign rfl) trivial rfl ?_
  refine .nil ?_
  show Ev _ _ _ _ _
  refine .drawn [[], [], [0, 1], [0, 1, 2], [], [], [], [5, 6], [5, 6, 7], [], [], [9, 10], [9, 10, 11], [5, 6, 7, 8, 9, 10, 11, 12], [4, 5, 6, 7, 8, 9, 10, 11, 12, 13], [0, 1, 2, 3, 4, 5, 6, 7, 8, 9, 10, 11, 12, 13, 14], [], [0, 1, 2, 3, 4, 5, 6, 7, 8, 9, 10, 11, 12, 13, 14, 15, 16], [0, 1, 2, 3, 4, 5, 6, 7, 8, 9, 10, 11, 12, 13, 14, 15, 16, 17]] [3, 8, 12, 18] [18] (by kernel_rfl) (by kernel_rfl) rfl ?_
  show DK _ [0, 1, 2, 3, 4, 5, 6, 7, 8, 9, 10, 11, 12, 13, 14, 15, 16, 17, 18] _ _ _
  refine .q rfl (op_move rfl) trivial ?_
  refine .q rfl (op_fieldAddr (m := 3) Tryz.underlying55 rfl sz53 rfl) trivial ?_
  refine .q rfl (ap_idx_arr Tryz.underlying53 inf52.sz rfl rfl rfl (by first | omega | (simp only [AV.len]; omega) | (simp only [AV.len, List.length_set]; omega) | assumption | (simp [AV.len]; done))) trivial ?_
  refine .q rfl (op_load Tryz.underlying52 rfl rfl rfl rfl (by first | omega | (simp only [AV.len]; omega) | (simp only [AV.len, List.length_set]; omega) | assumption | (simp [AV.len]; done))) trivial ?_
  refine .q rfl (op_move rfl) trivial ?_
  refine .q rfl (op_move rfl) trivial ?_
  refine .q rfl (op_fieldAddr (m := 3) Tryz.underlying55 rfl sz53 rfl) trivial ?_
  refine .q rfl (ap_idx_arr Tryz.underlying53 inf52.sz rfl rfl rfl (by first | omega | (simp only [AV.len]; omega) | (simp only [AV.len, List.length_set]; omega) | assumption | (simp [AV.len]; done))) trivial ?_
  refine .q rfl (op_load Tryz.underlying52 rfl rfl rfl rfl (by first | omega | (simp only [AV.len]; omega) | (simp only [AV.len, List.length_set]; omega) | assumption | (simp [AV.len]; done))) trivial ?_
  refine .q rfl (op_move rfl) trivial ?_
  refine .q rfl (op_fieldAddr (m := 3) Tryz.underlying55 rfl sz53 rfl) trivial ?_
  refine .q rfl (ap_idx_arr Tryz.underlying53 inf52.sz rfl rfl rfl (by first | omega | (simp only [AV.len]; omega) | (simp only [AV.len, List.length_set]; omega) | assumption | (simp [AV.len]; done))) trivial ?_
  refine .q rfl (op_load Tryz.underlying52 rfl rfl rfl rfl (by first | omega | (simp only [AV.len]; omega) | (simp only [AV.len, List.length_set]; omega) | assumption | (simp [AV.len]; done))) trivial ?_
  refine .q rfl (op_bin64 rfl rfl rfl) trivial ?_
  refine .q rfl (op_bin64 rfl rfl rfl) trivial ?_
  refine .q rfl (op_bin64 rfl rfl rfl) trivial ?_
  refine .q rfl (op_fieldAddr (m := 3) Tryz.underlying55 rfl sz53 rfl) trivial ?_
  refine .q rfl (ap_idx_arr Tryz.underlying53 inf52.sz rfl rfl rfl (by first | omega | (simp only [AV.len]; omega) | (simp only [AV.len, List.length_set]; omega) | assumption | (simp [AV.len]; done))) trivial ?_
  refine .w rfl (op_store inf52.sz rfl rfl rfl rfl rfl (by first | omega | (simp only [AV.len]; omega) | (simp only [AV.len, List.length_set]; omega) | assumption | (simp [AV.len]; done))) trivial rfl rfl ?_
  refine .nil ?_
  show Ev _ _ _ _ _
  refine .region ?_
  refine .q (op_addI rfl rfl ⟨by omega, by omega⟩) trivial rfl ?_
  refine .q (op_move rfl) trivial rfl ?_
  refine .nil ?_
  exact ⟨⟨j + 1, by omega⟩, by show 4 - (j + 1) < 4 - j; omega, StLe.mk [(1000, 1000), (1008, 1008), (1016, 1016)] rfl rfl ⟨⟨_, rfl, by first | rfl | (simp only [AV.ren]; congr 1; omega), rfl⟩, ⟨_, rfl, by first | rfl | (simp only [AV.ren]; congr 1; omega), rfl⟩, ⟨_, rfl, by first | rfl | (simp only [AV.ren]; congr 1; omega), rfl⟩, ⟨_, rfl, by first | rfl | (simp only [AV.ren]; congr 1; omega), rfl⟩, ⟨_, rfl, by first | rfl | (simp only [AV.ren]; congr 1; omega), rfl⟩, trivial⟩ ⟨⟨_, _, rfl, rfl, by first | rfl | (simp only [AV.ren]; congr 1; omega), rfl, id, rfl⟩, ⟨_, _, rfl, rfl, by (simp only [AV.ren, selN]; rw [UInt64.xor_comm ((fl a).getD j 0)]), rfl, id, rfl⟩, ⟨_, _, rfl, rfl, by first | rfl | (simp only [AV.ren]; congr 1; omega), rfl, id, rfl⟩, trivial⟩⟩
 ·simp only [decide_eq_false_iff_not] at hc11
  refine .exit ?_
  show Ev _ _ _ _ _
  have ej : j = 4 := by omega
  refine Ev.weak (st2 := ⟨[(4, .ptr 1000 0), (5, .ptr 1008 0), (6, .ptr 1016 0), (7, .u64 (UInt64.ofNat 0)), (10, .i64 (((4) : Nat) : Int))], [(1000, some ⟨.agg64 (fl a), 55, true⟩), (1008, some ⟨.agg64 (selN (UInt64.ofNat 0) (fl a) (fl b) (4)), 55, true⟩), (1016, some ⟨.agg64 (List.replicate 4 0), 55, true⟩)], 1024⟩) (StLe.mk [(1000, 1000), (1008, 1008), (1016, 1016)] rfl rfl ⟨⟨_, rfl, by first | (simp only [AV.ren]; done) | (simp only [AV.ren]; rw [ej]; done) | rfl, rfl⟩, ⟨_, rfl, by first | (simp only [AV.ren]; done) | (simp only [AV.ren]; rw [ej]; done) | rfl, rfl⟩, ⟨_, rfl, by first | (simp only [AV.ren]; done) | (simp only [AV.ren]; rw [ej]; done) | rfl, rfl⟩, ⟨_, rfl, by first | (simp only [AV.ren]; done) | (simp only [AV.ren]; rw [ej]; done) | rfl, rfl⟩, ⟨_, rfl, by first | (simp only [AV.ren]; done) | (simp only [AV.ren]; rw [ej]; done) | rfl, rfl⟩, trivial⟩ ⟨⟨_, _, rfl, rfl, by first | (simp only [AV.ren]; done) | (simp only [AV.ren]; rw [ej]; done) | rfl, rfl, id, rfl⟩, ⟨_, _, rfl, rfl, by first | (simp only [AV.ren]; done) | (simp only [AV.ren]; rw [ej]; done) | rfl, rfl, id, rfl⟩, ⟨_, _, rfl, rfl, by first | (simp only [AV.ren]; done) | (simp only [AV.ren]; rw [ej]; done) | rfl, rfl, id, rfl⟩, trivial⟩) ?_
  refine .seq ?_
  refine .region ?_
  refine .q (op_loadRow Tryz.underlying55 rfl sz55 rfl rfl rfl (length_selN _ _ _ 4)) trivial rfl ?_
  refine .as (.agg64 (fl b)) (congrArg AV.agg64 (sel_zeros (fl a) (fl b) rfl rfl)) ?_
  refine .w (op_storeRow sz55 rfl rfl rfl rfl rfl (rfl) (rfl)) trivial rfl ?_
  refine .nil ?_
  show Ev _ _ _ _ _
  refine .ret ?_
  show RetOk _ _ _ _ _ _ _
  exact retc1 rfl (.inl rfl) ⟨_, _, _, _, rfl, rfl, rfl, rfl, (rfl), Tryz.underlying55, rfl, sz55⟩ trivial
theorem fchoose_ev (c : Bool) (a b : Nat) : Meets Tryz.prog 96 [.bool c, .agg64 (fl a), .agg64 (fl b)] [] (.agg64 (fl (if c then a else b))) [] := by
 cases c
 ·exact fchooseF_ev a b
 ·exact fchooseT_ev a b
end Go.Proofs.YtcnjekoidgefpaaGreatDoor
