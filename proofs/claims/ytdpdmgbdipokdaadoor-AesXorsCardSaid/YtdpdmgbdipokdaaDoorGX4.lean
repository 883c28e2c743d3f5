/-
  Texts of this claim.
-/
import Derived.Test.YtdpdmgbdipokdaaDoorGX3
namespace Go.Proofs.YtdpdmgbdipokdaaDoor
open Go.RowKit
theorem xs_step (B : List UInt8 → List UInt8) (c s : List UInt8) (k j : Nat) (hj : j < 16) : (mpU (xsF B c s) s (16 * k + j)).getD (16 * k + j) 0 ^^^ (B (nxK c k)).getD j 0 = xsF B c s (16 * k + j) := by
  rw [mpU_get _ _ _ _ (Nat.le_refl _)]
  unfold xsF
  rw [show (16 * k + j) / 16 = k by omega, show (16 * k + j) % 16 = j by omega]
set_option maxRecDepth 100000 in
theorem block_ev (bx ks : List UInt8) (r te : Nat) (hb : bx.length = 512) (hk : ks.length = 240) (hr : r ≤ 14) (b : List UInt8) (hl : b.length = 16) : Meets Tryd.prog 11 [.ptr 500 0, .aggB b] [(500, some ⟨ciC bx (r : Int) ks, te, false⟩)] (.aggB (blkL bx ks r b)) [] := by
 refine meets_of_ev (nt := 46) Tryd.func11 rfl rfl (Nat.le_of_ble_eq_true rfl) ?_
 refine .seq ?_
 refine .region ?_
 refine .a (op_boxRow rfl rfl) trivial rfl ?_
 refine .a (op_allocRow zero25 rel_zero25 rfl) trivial rfl ?_
 refine .nil ?_
 show Ev _ _ _ _ _
 refine .seq ?_
 refine .drawn [[], [], [1], [1, 2], [1, 2, 3], [1, 2, 3, 4], [0, 1, 2, 3, 4, 5], [0, 1, 2, 3, 4, 5, 6]] [0, 5, 6, 7] [7] (by kernel_rfl) (by kernel_rfl) rfl ?_
 show DK _ [0, 1, 2, 3, 4, 5, 6, 7] _ _ _
 refine .q rfl (op_loadRow Tryd.underlying25 rfl sz25 rfl rfl rfl (by first | omega | (simp only [AV.len, hl]; done) | (simp only [AV.ren, AV.len, hl]; omega))) trivial ?_
 refine .q rfl (op_move rfl) trivial ?_
 refine .q rfl (op_nilCheck rfl) trivial ?_
 refine .q rfl (op_fieldAddr (m := 239) Tryd.underlying50 rfl (by kernel_rfl) rfl) trivial ?_
 refine .as (.ptr 500 513) rfl ?_
 refine .q rfl (op_indexAddr_arr (i := 0) Tryd.underlying48 sz25 rfl rfl rfl (by omega)) trivial ?_
 refine .q rfl (op_loadPart (m := 16) (r := .aggB (kqL ks (0))) (cs := (kqL ks (0)).map .u8) Tryd.underlying25 rfl sz25 rfl rfl rfl (by rw [List.length_map]; exact length_kqL ks _ (by omega)) (ci_key hb (0)) (by rw [ci_len hb]; omega)) trivial ?_
 refine .q rfl (op_call (U := []) [] [] (add_ev b _ hl (length_kqL ks _ (by omega))) Tryd.func21 (by kernel_rfl) rfl rfl rfl (⟨⟨_, rfl, rfl, rfl⟩, ⟨_, rfl, rfl, rfl⟩, trivial⟩) (trivial) (trivial) (trivial) rfl) trivial ?_
 refine .w rfl (op_storeRow sz25 rfl rfl rfl rfl rfl (by first | omega | (simp only [AV.ren, AV.len, length_adL]; done) | (simp only [AV.ren, AV.len, length_adL, hl]; omega)) (by first | omega | (simp only [AV.len, hl]; done) | (simp only [AV.ren, AV.len, length_adL, hl]; omega))) trivial rfl rfl ?_
 refine .nil ?_
 show Ev _ _ _ _ _
 refine .seq ?_
 refine .seq ?_
 refine .region ?_
 refine .q (op_move rfl) trivial rfl ?_
 refine .q (op_nilCheck rfl) trivial rfl ?_
 refine .q (op_fieldAddr (m := 0) Tryd.underlying50 rfl (by kernel_rfl) rfl) trivial rfl ?_
 refine .as (.ptr 500 512) rfl ?_
 refine .q (op_load Tryd.underlying3 rfl rfl rfl (ci_r hb) (ci_lt hb hk (by decide))) trivial rfl ?_
 refine .q (op_move rfl) trivial rfl ?_
 refine .nil ?_
 show Ev _ _ _ _ _
 refine .block ?_
 refine Ev.loop (ι := { j : Nat // j ≤ r }) (fun j => ⟨[(0, .ptr 500 0), (3, .ptr 1000 0), (4, .ptr 1008 0), (16, .i64 (r : Int)), (17, .i64 ((j.1 : Nat) : Int))], [(500, some ⟨ciC bx (r : Int) ks, te, false⟩), (1000, some ⟨.aggB (blkN bx ks r b j.1), 25, true⟩), (1008, some ⟨.aggB (List.replicate 16 0), 25, true⟩)], 1016⟩) (fun j => r - j.1) ⟨0, Nat.zero_le _⟩ (StLe.mk [(1000, 1000), (1008, 1008)] rfl rfl ⟨⟨_, rfl, by first | rfl | (simp only [AV.ren]; congr 1; omega), rfl⟩, ⟨_, rfl, by first | rfl | (simp only [AV.ren]; congr 1; omega), rfl⟩, ⟨_, rfl, by first | rfl | (simp only [AV.ren]; congr 1; omega), rfl⟩, ⟨_, rfl, by first | rfl | (simp only [AV.ren]; congr 1; omega), rfl⟩, ⟨_, rfl, by first | rfl | (simp only [AV.ren]; congr 1; omega), rfl⟩, trivial⟩ ⟨⟨_, _, rfl, rfl, ren_ci _, rfl, id, nm_ci _⟩, ⟨_, _, rfl, rfl, by first | rfl | (simp only [AV.ren]; congr 1; omega), rfl, id, rfl⟩, ⟨_, _, rfl, rfl, by first | rfl | (simp only [AV.ren]; congr 1; omega), rfl, id, rfl⟩, trivial⟩) ?_
 rintro ⟨j, hj⟩
 dsimp only
 have hl := length_blkN bx ks r b j
 refine .seq ?_
 refine .region ?_
 refine .q (op_cmpI rfl rfl rfl) trivial rfl ?_
 refine .nil ?_
 show Ev _ _ _ _ _
 refine .seq ?_
 refine .cond rfl (fun hc18 => ?_) (fun hc18 => ?_)
 ·simp only [decide_eq_true_eq] at hc18
  refine .skip ?_
  show Ev _ _ _ _ _
  refine .seq ?_
  refine .block ?_
  refine .seq ?_
  refine .region ?_
  refine .q (op_move rfl) trivial rfl ?_
  refine .q (op_assign rfl) trivial rfl ?_
  refine .nil ?_
  show Ev _ _ _ _ _
  refine .seq ?_
  refine .drawn [[], [0], [0, 1], [], [0, 1, 2, 3], [0, 1, 2, 3, 4], [0, 1, 2, 3, 4, 5]] [3, 4, 5, 6] [6] (by kernel_rfl) (by kernel_rfl) rfl ?_
  show DK _ [0, 1, 2, 3, 4, 5, 6] _ _ _
  refine .q rfl (op_move rfl) trivial ?_
  refine .q rfl (op_nilCheck rfl) trivial ?_
  refine .q rfl (op_fieldAddr (m := 511) Tryd.underlying50 rfl (by kernel_rfl) rfl) trivial ?_
  refine .as (.ptr 500 0) rfl ?_
  refine .q rfl (op_loadRow Tryd.underlying25 rfl sz25 rfl rfl rfl (by first | omega | (simp only [AV.len, hl]; done) | (simp only [AV.ren, AV.len, hl]; omega))) trivial ?_
  refine .q rfl (op_call (U := []) [(500, 500)] [] (replace_ev bx ks _ _ te hb hk hl) Tryd.func23 (by kernel_rfl) rfl rfl rfl (⟨⟨_, rfl, rfl, rfl⟩, ⟨_, rfl, rfl, rfl⟩, trivial⟩) (⟨⟨_, _, rfl, rfl, ren_ci _, rfl, (fun h => by cases h), nmC_ci _⟩, trivial⟩) (trivial) (⟨(fun h => by cases h), trivial⟩) rfl) trivial ?_
  refine .q rfl (op_call (U := []) [] [] (shift_ev _ (length_sbL _ _)) Tryd.func22 (by kernel_rfl) rfl rfl rfl (⟨⟨_, rfl, rfl, rfl⟩, trivial⟩) (trivial) (trivial) (trivial) rfl) trivial ?_
  refine .w rfl (op_storeRow sz25 rfl rfl rfl rfl rfl (by first | omega | (simp only [AV.ren, AV.len, length_shL]; done) | (simp only [AV.ren, AV.len, length_shL, hl]; omega)) (by first | omega | (simp only [AV.len, hl]; done) | (simp only [AV.ren, AV.len, length_shL, hl]; omega))) trivial rfl rfl ?_
  refine .nil ?_
  show Ev _ _ _ _ _
  refine .seq ?_
  refine .seq ?_
  refine .region ?_
  refine .q (op_move rfl) trivial rfl ?_
  refine .q (op_move rfl) trivial rfl ?_
  refine .q (op_nilCheck rfl) trivial rfl ?_
  refine .q (op_fieldAddr (m := 0) Tryd.underlying50 rfl (by kernel_rfl) rfl) trivial rfl ?_
  refine .as (.ptr 500 512) rfl ?_
  refine .q (op_load Tryd.underlying3 rfl rfl rfl (ci_r hb) (ci_lt hb hk (by decide))) trivial rfl ?_
  refine .q (op_subI rfl rfl ⟨by omega, by omega⟩) trivial rfl ?_
  refine .q (op_cmpI rfl rfl rfl) trivial rfl ?_
  refine .nil ?_
  show Ev _ _ _ _ _
  refine .cond rfl (fun hc32 => ?_) (fun hc32 => ?_)
  ·simp only [decide_eq_true_eq] at hc32
   refine .region ?_
   refine .q (op_loadRow Tryd.underlying25 rfl sz25 rfl rfl rfl (by first | omega | (simp only [AV.ren, AV.len, length_shL]; done) | (simp only [AV.ren, AV.len, length_shL]; omega))) trivial rfl ?_
   refine .q (op_call (U := []) [] [] (mix_ev _ (length_shL _)) Tryd.func24 (by kernel_rfl) rfl rfl rfl (⟨⟨_, rfl, rfl, rfl⟩, trivial⟩) (trivial) (trivial) (trivial) rfl) trivial rfl ?_
   refine .w (op_storeRow sz25 rfl rfl rfl rfl rfl (by first | omega | (simp only [AV.ren, AV.len, length_mxL]; done) | (simp only [AV.ren, AV.len, length_shL, length_mxL]; omega)) (by first | omega | (simp only [AV.ren, AV.len, length_shL]; done) | (simp only [AV.ren, AV.len, length_shL, length_mxL]; omega))) trivial rfl ?_
   refine .nil ?_
   show Ev _ _ _ _ _
   refine .drawn [[], [], [], [2], [1], [1, 4], [1, 2, 3, 4, 5], [1, 2, 3, 4, 5, 6], [0, 1, 2, 3, 4, 5, 6, 7], [0, 1, 2, 3, 4, 5, 6, 7, 8]] [0, 7, 8, 9] [9] (by kernel_rfl) (by kernel_rfl) rfl ?_
   show DK _ [0, 1, 2, 3, 4, 5, 6, 7, 8, 9] _ _ _
   refine .q rfl (op_loadRow Tryd.underlying25 rfl sz25 rfl rfl rfl (by first | omega | (simp only [AV.ren, AV.len, length_mxL]; done) | (simp only [AV.ren, AV.len, length_shL, length_mxL]; omega))) trivial ?_
   refine .q rfl (op_move rfl) trivial ?_
   refine .q rfl (op_move rfl) trivial ?_
   refine .q rfl (op_addI rfl rfl ⟨by omega, by omega⟩) trivial ?_
   refine .q rfl (op_nilCheck rfl) trivial ?_
   refine .q rfl (op_fieldAddr (m := 239) Tryd.underlying50 rfl (by kernel_rfl) rfl) trivial ?_
   refine .as (.ptr 500 513) rfl ?_
   refine .q rfl (op_indexAddr_arr (i := j + 1) Tryd.underlying48 sz25 rfl rfl (by omega) (by omega)) trivial ?_
   refine .q rfl (op_loadPart (m := 16) (r := .aggB (kqL ks (j + 1))) (cs := (kqL ks (j + 1)).map .u8) Tryd.underlying25 rfl sz25 rfl rfl rfl (by rw [List.length_map]; exact length_kqL ks _ (by omega)) (ci_key hb (j + 1)) (by rw [ci_len hb]; omega)) trivial ?_
   refine .q rfl (op_call (U := []) [] [] (add_ev _ _ (length_rgL _ _) (length_kqL ks _ (by omega))) Tryd.func21 (by kernel_rfl) rfl rfl rfl (⟨⟨_, rfl, rfl, rfl⟩, ⟨_, rfl, rfl, rfl⟩, trivial⟩) (trivial) (trivial) (trivial) rfl) trivial ?_
   refine .w rfl (op_storeRow sz25 rfl rfl rfl rfl rfl (by first | omega | (simp only [AV.ren, AV.len, length_adL]; done) | (simp only [AV.ren, AV.len, length_shL, length_mxL, length_adL]; omega)) (by first | omega | (simp only [AV.ren, AV.len, length_mxL]; done) | (simp only [AV.ren, AV.len, length_shL, length_mxL, length_adL]; omega))) trivial rfl rfl ?_
   refine .nil ?_
   show Ev _ _ _ _ _
   refine .region ?_
   refine .q (op_addI rfl rfl ⟨by omega, by omega⟩) trivial rfl ?_
   refine .q (op_move rfl) trivial rfl ?_
   refine .nil ?_
   exact ⟨⟨j + 1, by omega⟩, by show r - (j + 1) < r - j; omega, StLe.mk [(1000, 1000), (1008, 1008)] rfl rfl ⟨⟨_, rfl, by first | rfl | (simp only [AV.ren]; congr 1; omega), rfl⟩, ⟨_, rfl, by first | rfl | (simp only [AV.ren]; congr 1; omega), rfl⟩, ⟨_, rfl, by first | rfl | (simp only [AV.ren]; congr 1; omega), rfl⟩, ⟨_, rfl, by first | rfl | (simp only [AV.ren]; congr 1; omega), rfl⟩, ⟨_, rfl, by first | rfl | (simp only [AV.ren]; congr 1; omega), rfl⟩, trivial⟩ ⟨⟨_, _, rfl, rfl, ren_ci _, rfl, id, nm_ci _⟩, ⟨_, _, rfl, rfl, by (simp only [AV.ren]; rw [blkN]; first | (rw [show decide (j + 1 < r) = true from decide_eq_true (by omega)]; rfl) | (rw [show decide (j + 1 < r) = false from decide_eq_false (by omega)]; rfl)), rfl, id, rfl⟩, ⟨_, _, rfl, rfl, by first | rfl | (simp only [AV.ren]; congr 1; omega), rfl, id, rfl⟩, trivial⟩⟩
  ·simp only [decide_eq_false_iff_not] at hc32
   refine .skip ?_
   show Ev _ _ _ _ _
   refine .drawn [[], [], [], [2], [1], [1, 4], [1, 2, 3, 4, 5], [1, 2, 3, 4, 5, 6], [0, 1, 2, 3, 4, 5, 6, 7], [0, 1, 2, 3, 4, 5, 6, 7, 8]] [0, 7, 8, 9] [9] (by kernel_rfl) (by kernel_rfl) rfl ?_
   show DK _ [0, 1, 2, 3, 4, 5, 6, 7, 8, 9] _ _ _
   refine .q rfl (op_loadRow Tryd.underlying25 rfl sz25 rfl rfl rfl (by first | omega | (simp only [AV.ren, AV.len, length_shL]; done) | (simp only [AV.ren, AV.len, length_shL, length_mxL]; omega))) trivial ?_
   refine .q rfl (op_move rfl) trivial ?_
   refine .q rfl (op_move rfl) trivial ?_
   refine .q rfl (op_addI rfl rfl ⟨by omega, by omega⟩) trivial ?_
   refine .q rfl (op_nilCheck rfl) trivial ?_
   refine .q rfl (op_fieldAddr (m := 239) Tryd.underlying50 rfl (by kernel_rfl) rfl) trivial ?_
   refine .as (.ptr 500 513) rfl ?_
   refine .q rfl (op_indexAddr_arr (i := j + 1) Tryd.underlying48 sz25 rfl rfl (by omega) (by omega)) trivial ?_
   refine .q rfl (op_loadPart (m := 16) (r := .aggB (kqL ks (j + 1))) (cs := (kqL ks (j + 1)).map .u8) Tryd.underlying25 rfl sz25 rfl rfl rfl (by rw [List.length_map]; exact length_kqL ks _ (by omega)) (ci_key hb (j + 1)) (by rw [ci_len hb]; omega)) trivial ?_
   refine .q rfl (op_call (U := []) [] [] (add_ev _ _ (length_rgL _ _) (length_kqL ks _ (by omega))) Tryd.func21 (by kernel_rfl) rfl rfl rfl (⟨⟨_, rfl, rfl, rfl⟩, ⟨_, rfl, rfl, rfl⟩, trivial⟩) (trivial) (trivial) (trivial) rfl) trivial ?_
   refine .w rfl (op_storeRow sz25 rfl rfl rfl rfl rfl (by first | omega | (simp only [AV.ren, AV.len, length_adL]; done) | (simp only [AV.ren, AV.len, length_shL, length_mxL, length_adL]; omega)) (by first | omega | (simp only [AV.ren, AV.len, length_shL]; done) | (simp only [AV.ren, AV.len, length_shL, length_mxL, length_adL]; omega))) trivial rfl rfl ?_
   refine .nil ?_
   show Ev _ _ _ _ _
   refine .region ?_
   refine .q (op_addI rfl rfl ⟨by omega, by omega⟩) trivial rfl ?_
   refine .q (op_move rfl) trivial rfl ?_
   refine .nil ?_
   exact ⟨⟨j + 1, by omega⟩, by show r - (j + 1) < r - j; omega, StLe.mk [(1000, 1000), (1008, 1008)] rfl rfl ⟨⟨_, rfl, by first | rfl | (simp only [AV.ren]; congr 1; omega), rfl⟩, ⟨_, rfl, by first | rfl | (simp only [AV.ren]; congr 1; omega), rfl⟩, ⟨_, rfl, by first | rfl | (simp only [AV.ren]; congr 1; omega), rfl⟩, ⟨_, rfl, by first | rfl | (simp only [AV.ren]; congr 1; omega), rfl⟩, ⟨_, rfl, by first | rfl | (simp only [AV.ren]; congr 1; omega), rfl⟩, trivial⟩ ⟨⟨_, _, rfl, rfl, ren_ci _, rfl, id, nm_ci _⟩, ⟨_, _, rfl, rfl, by (simp only [AV.ren]; rw [blkN]; first | (rw [show decide (j + 1 < r) = true from decide_eq_true (by omega)]; rfl) | (rw [show decide (j + 1 < r) = false from decide_eq_false (by omega)]; rfl)), rfl, id, rfl⟩, ⟨_, _, rfl, rfl, by first | rfl | (simp only [AV.ren]; congr 1; omega), rfl, id, rfl⟩, trivial⟩⟩
 ·simp only [decide_eq_false_iff_not] at hc18
  refine .exit ?_
  show Ev _ _ _ _ _
  have ej : j = r := by omega
  refine Ev.weak (st2 := ⟨[(0, .ptr 500 0), (3, .ptr 1000 0), (4, .ptr 1008 0), (16, .i64 (r : Int)), (17, .i64 (((r) : Nat) : Int))], [(500, some ⟨ciC bx (r : Int) ks, te, false⟩), (1000, some ⟨.aggB (blkN bx ks r b (r)), 25, true⟩), (1008, some ⟨.aggB (List.replicate 16 0), 25, true⟩)], 1016⟩) (StLe.mk [(1000, 1000), (1008, 1008)] rfl rfl ⟨⟨_, rfl, by first | (simp only [AV.ren]; done) | (simp only [AV.ren]; rw [ej]; done) | rfl, rfl⟩, ⟨_, rfl, by first | (simp only [AV.ren]; done) | (simp only [AV.ren]; rw [ej]; done) | rfl, rfl⟩, ⟨_, rfl, by first | (simp only [AV.ren]; done) | (simp only [AV.ren]; rw [ej]; done) | rfl, rfl⟩, ⟨_, rfl, by first | (simp only [AV.ren]; done) | (simp only [AV.ren]; rw [ej]; done) | rfl, rfl⟩, ⟨_, rfl, by first | (simp only [AV.ren]; done) | (simp only [AV.ren]; rw [ej]; done) | rfl, rfl⟩, trivial⟩ ⟨⟨_, _, rfl, rfl, ren_ci _, rfl, id, nm_ci _⟩, ⟨_, _, rfl, rfl, by first | (simp only [AV.ren]; done) | (simp only [AV.ren]; rw [ej]; done) | rfl, rfl, id, rfl⟩, ⟨_, _, rfl, rfl, by first | (simp only [AV.ren]; done) | (simp only [AV.ren]; rw [ej]; done) | rfl, rfl, id, rfl⟩, trivial⟩) ?_
  refine .seq ?_
  refine .region ?_
  refine .q (op_loadRow Tryd.underlying25 rfl sz25 rfl rfl rfl (by first | omega | (simp only [AV.len, length_blkN]; done) | (simp only [AV.ren, AV.len, length_blkN, List.length_replicate]; omega))) trivial rfl ?_
  refine .w (op_storeRow sz25 rfl rfl rfl rfl rfl (by first | omega | (simp only [AV.len, length_blkN]; done) | (simp only [AV.ren, AV.len, length_blkN, List.length_replicate]; omega)) (by first | omega | (simp only [AV.len, List.length_replicate]; done) | (simp only [AV.ren, AV.len, length_blkN, List.length_replicate]; omega))) trivial rfl ?_
  refine .nil ?_
  show Ev _ _ _ _ _
  refine .ret ?_
  show RetOk _ _ _ _ _ _ _
  exact retc1 rfl (.inl rfl) ⟨_, _, _, _, rfl, rfl, rfl, rfl, (length_blkN ..), Tryd.underlying25, rfl, sz25⟩ trivial
set_option maxRecDepth 100000 in
theorem back_ev (bx ks : List UInt8) (r te : Nat) (hb : bx.length = 512) (hk : ks.length = 240) (hr : r ≤ 14) (b : List UInt8) (hl : b.length = 16) : Meets Tryd.prog 13 [.ptr 500 0, .aggB b] [(500, some ⟨ciC bx (r : Int) ks, te, false⟩)] (.aggB (bakL bx ks r b)) [] := by
 refine meets_of_ev (nt := 44) Tryd.func13 rfl rfl (Nat.le_of_ble_eq_true rfl) ?_
 refine .seq ?_
 refine .region ?_
 refine .a (op_boxRow rfl rfl) trivial rfl ?_
 refine .a (op_allocRow zero25 rel_zero25 rfl) trivial rfl ?_
 refine .nil ?_
 show Ev _ _ _ _ _
 refine .seq ?_
 refine .seq ?_
 refine .region ?_
 refine .q (op_move rfl) trivial rfl ?_
 refine .q (op_nilCheck rfl) trivial rfl ?_
 refine .q (op_fieldAddr (m := 0) Tryd.underlying50 rfl (by kernel_rfl) rfl) trivial rfl ?_
 refine .as (.ptr 500 512) rfl ?_
 refine .q (op_load Tryd.underlying3 rfl rfl rfl (ci_r hb) (ci_lt hb hk (by decide))) trivial rfl ?_
 refine .q (op_move rfl) trivial rfl ?_
 refine .nil ?_
 show Ev _ _ _ _ _
 refine .block ?_
 refine Ev.loop (ι := { j : Nat // j ≤ r }) (fun j => ⟨[(0, .ptr 500 0), (3, .ptr 1000 0), (4, .ptr 1008 0), (9, .i64 (r : Int)), (10, .i64 ((j.1 : Nat) : Int))], [(500, some ⟨ciC bx (r : Int) ks, te, false⟩), (1000, some ⟨.aggB (bakN bx ks r b j.1), 25, true⟩), (1008, some ⟨.aggB (List.replicate 16 0), 25, true⟩)], 1016⟩) (fun j => r - j.1) ⟨0, Nat.zero_le _⟩ (StLe.mk [(1000, 1000), (1008, 1008)] rfl rfl ⟨⟨_, rfl, by first | rfl | (simp only [AV.ren]; congr 1; omega), rfl⟩, ⟨_, rfl, by first | rfl | (simp only [AV.ren]; congr 1; omega), rfl⟩, ⟨_, rfl, by first | rfl | (simp only [AV.ren]; congr 1; omega), rfl⟩, ⟨_, rfl, by first | rfl | (simp only [AV.ren]; congr 1; omega), rfl⟩, ⟨_, rfl, by first | rfl | (simp only [AV.ren]; congr 1; omega), rfl⟩, trivial⟩ ⟨⟨_, _, rfl, rfl, ren_ci _, rfl, id, nm_ci _⟩, ⟨_, _, rfl, rfl, by first | rfl | (simp only [AV.ren]; congr 1; omega), rfl, id, rfl⟩, ⟨_, _, rfl, rfl, by first | rfl | (simp only [AV.ren]; congr 1; omega), rfl, id, rfl⟩, trivial⟩) ?_
 rintro ⟨j, hj⟩
 dsimp only
 have hj := length_bakN bx ks r b hl j
 refine .seq ?_
 refine .region ?_
 refine .q (op_cmpI rfl rfl rfl) trivial rfl ?_
 refine .nil ?_
 show Ev _ _ _ _ _
 refine .seq ?_
 refine .cond rfl (fun hc11 => ?_) (fun hc11 => ?_)
 ·simp only [decide_eq_true_eq] at hc11
  refine .skip ?_
  show Ev _ _ _ _ _
  refine .seq ?_
  refine .block ?_
  refine .seq ?_
  refine .region ?_
  refine .q (op_move rfl) trivial rfl ?_
  refine .q (op_assign rfl) trivial rfl ?_
  refine .nil ?_
  show Ev _ _ _ _ _
  refine .seq ?_
  refine .drawn [[], [], [], [2], [2, 3], [2, 3, 4], [], [2, 3, 4, 5, 6], [1], [1, 8], [1, 2, 3, 4, 5, 6, 7, 8, 9], [1, 2, 3, 4, 5, 6, 7, 8, 9, 10], [0, 1, 2, 3, 4, 5, 6, 7, 8, 9, 10, 11], [0, 1, 2, 3, 4, 5, 6, 7, 8, 9, 10, 11, 12]] [0, 5, 11, 12, 13] [13] (by kernel_rfl) (by kernel_rfl) rfl ?_
  show DK _ [0, 1, 2, 3, 4, 5, 6, 7, 8, 9, 10, 11, 12, 13] _ _ _
  refine .q rfl (op_loadRow Tryd.underlying25 rfl sz25 rfl rfl rfl (by first | omega | (simp only [AV.len, hj]; done) | (simp only [AV.ren, AV.len, hj]; omega))) trivial ?_
  refine .q rfl (op_move rfl) trivial ?_
  refine .q rfl (op_move rfl) trivial ?_
  refine .q rfl (op_nilCheck rfl) trivial ?_
  refine .q rfl (op_fieldAddr (m := 0) Tryd.underlying50 rfl (by kernel_rfl) rfl) trivial ?_
  refine .as (.ptr 500 512) rfl ?_
  refine .q rfl (op_load Tryd.underlying3 rfl rfl rfl (ci_r hb) (ci_lt hb hk (by decide))) trivial ?_
  refine .q rfl (op_move rfl) trivial ?_
  refine .q rfl (op_subI rfl rfl ⟨by omega, by omega⟩) trivial ?_
  refine .q rfl (op_nilCheck rfl) trivial ?_
  refine .q rfl (op_fieldAddr (m := 239) Tryd.underlying50 rfl (by kernel_rfl) rfl) trivial ?_
  refine .as (.ptr 500 513) rfl ?_
  refine .q rfl (op_indexAddr_arr (i := r - j) Tryd.underlying48 sz25 rfl rfl (by omega) (by omega)) trivial ?_
  refine .q rfl (op_loadPart (m := 16) (r := .aggB (kqL ks (r - j))) (cs := (kqL ks (r - j)).map .u8) Tryd.underlying25 rfl sz25 rfl rfl rfl (by rw [List.length_map]; exact length_kqL ks _ (by omega)) (ci_key hb (r - j)) (by rw [ci_len hb]; omega)) trivial ?_
  refine .q rfl (op_call (U := []) [] [] (add_ev _ _ hj (length_kqL ks _ (by omega))) Tryd.func21 (by kernel_rfl) rfl rfl rfl (⟨⟨_, rfl, rfl, rfl⟩, ⟨_, rfl, rfl, rfl⟩, trivial⟩) (trivial) (trivial) (trivial) rfl) trivial ?_
  refine .w rfl (op_storeRow sz25 rfl rfl rfl rfl rfl (by first | omega | (simp only [AV.ren, AV.len, length_adL]; done) | (simp only [AV.ren, AV.len, length_adL, hj]; omega)) (by first | omega | (simp only [AV.len, hj]; done) | (simp only [AV.ren, AV.len, length_adL, hj]; omega))) trivial rfl rfl ?_
  refine .nil ?_
  show Ev _ _ _ _ _
  refine .seq ?_
  refine .seq ?_
  refine .region ?_
  refine .q (op_move rfl) trivial rfl ?_
  refine .q (op_cmpI rfl rfl rfl) trivial rfl ?_
  refine .nil ?_
  show Ev _ _ _ _ _
  refine .cond rfl (fun hc27 => ?_) (fun hc27 => ?_)
  ·simp only [decide_eq_true_eq] at hc27
   refine .region ?_
   refine .q (op_loadRow Tryd.underlying25 rfl sz25 rfl rfl rfl (by first | omega | (simp only [AV.ren, AV.len, length_adL]; done) | (simp only [AV.ren, AV.len, length_adL]; omega))) trivial rfl ?_
   refine .q (op_call (U := []) [] [] (unmix_ev _ (length_adL _ _)) Tryd.func28 (by kernel_rfl) rfl rfl rfl (⟨⟨_, rfl, rfl, rfl⟩, trivial⟩) (trivial) (trivial) (trivial) rfl) trivial rfl ?_
   refine .w (op_storeRow sz25 rfl rfl rfl rfl rfl (by first | omega | (simp only [AV.ren, AV.len, length_umL]; done) | (simp only [AV.ren, AV.len, length_umL, length_adL]; omega)) (by first | omega | (simp only [AV.ren, AV.len, length_adL]; done) | (simp only [AV.ren, AV.len, length_umL, length_adL]; omega))) trivial rfl ?_
   refine .nil ?_
   show Ev _ _ _ _ _
   refine .drawn [[], [0], [0, 1], [], [3], [0, 1, 2, 3, 4], [0, 1, 2, 3, 4, 5]] [3, 4, 5, 6] [6] (by kernel_rfl) (by kernel_rfl) rfl ?_
   show DK _ [0, 1, 2, 3, 4, 5, 6] _ _ _
   refine .q rfl (op_move rfl) trivial ?_
   refine .q rfl (op_nilCheck rfl) trivial ?_
   refine .q rfl (op_fieldAddr (m := 511) Tryd.underlying50 rfl (by kernel_rfl) rfl) trivial ?_
   refine .as (.ptr 500 0) rfl ?_
   refine .q rfl (op_loadRow Tryd.underlying25 rfl sz25 rfl rfl rfl (by first | omega | (simp only [AV.ren, AV.len, length_umL]; done) | (simp only [AV.ren, AV.len, length_umL, length_adL]; omega))) trivial ?_
   refine .q rfl (op_call (U := []) [] [] (unshift_ev _ (length_rgL _ _)) Tryd.func30 (by kernel_rfl) rfl rfl rfl (⟨⟨_, rfl, rfl, rfl⟩, trivial⟩) (trivial) (trivial) (trivial) rfl) trivial ?_
   refine .q rfl (op_call (U := []) [(500, 500)] [] (restore_ev bx ks _ _ te hb hk (length_usL _)) Tryd.func29 (by kernel_rfl) rfl rfl rfl (⟨⟨_, rfl, rfl, rfl⟩, ⟨_, rfl, rfl, rfl⟩, trivial⟩) (⟨⟨_, _, rfl, rfl, ren_ci _, rfl, (fun h => by cases h), nmC_ci _⟩, trivial⟩) (trivial) (⟨(fun h => by cases h), trivial⟩) rfl) trivial ?_
   refine .w rfl (op_storeRow sz25 rfl rfl rfl rfl rfl (by first | omega | (simp only [AV.ren, AV.len, length_rsL]; done) | (simp only [AV.ren, AV.len, length_rsL, length_umL, length_adL]; omega)) (by first | omega | (simp only [AV.ren, AV.len, length_umL]; done) | (simp only [AV.ren, AV.len, length_rsL, length_umL, length_adL]; omega))) trivial rfl rfl ?_
   refine .nil ?_
   show Ev _ _ _ _ _
   refine .region ?_
   refine .q (op_addI rfl rfl ⟨by omega, by omega⟩) trivial rfl ?_
   refine .q (op_move rfl) trivial rfl ?_
   refine .nil ?_
   exact ⟨⟨j + 1, by omega⟩, by show r - (j + 1) < r - j; omega, StLe.mk [(1000, 1000), (1008, 1008)] rfl rfl ⟨⟨_, rfl, by first | rfl | (simp only [AV.ren]; congr 1; omega), rfl⟩, ⟨_, rfl, by first | rfl | (simp only [AV.ren]; congr 1; omega), rfl⟩, ⟨_, rfl, by first | rfl | (simp only [AV.ren]; congr 1; omega), rfl⟩, ⟨_, rfl, by first | rfl | (simp only [AV.ren]; congr 1; omega), rfl⟩, ⟨_, rfl, by first | rfl | (simp only [AV.ren]; congr 1; omega), rfl⟩, trivial⟩ ⟨⟨_, _, rfl, rfl, ren_ci _, rfl, id, nm_ci _⟩, ⟨_, _, rfl, rfl, by (simp only [AV.ren]; rw [bakN]; first | (rw [show decide (0 < j) = true from decide_eq_true (by omega)]; rfl) | (rw [show decide (0 < j) = false from decide_eq_false (by omega)]; rfl)), rfl, id, rfl⟩, ⟨_, _, rfl, rfl, by first | rfl | (simp only [AV.ren]; congr 1; omega), rfl, id, rfl⟩, trivial⟩⟩
  ·simp only [decide_eq_false_iff_not] at hc27
   refine .skip ?_
   show Ev _ _ _ _ _
   refine .drawn [[], [0], [0, 1], [], [3], [0, 1, 2, 3, 4], [0, 1, 2, 3, 4, 5]] [3, 4, 5, 6] [6] (by kernel_rfl) (by kernel_rfl) rfl ?_
   show DK _ [0, 1, 2, 3, 4, 5, 6] _ _ _
   refine .q rfl (op_move rfl) trivial ?_
   refine .q rfl (op_nilCheck rfl) trivial ?_
   refine .q rfl (op_fieldAddr (m := 511) Tryd.underlying50 rfl (by kernel_rfl) rfl) trivial ?_
   refine .as (.ptr 500 0) rfl ?_
   refine .q rfl (op_loadRow Tryd.underlying25 rfl sz25 rfl rfl rfl (by first | omega | (simp only [AV.ren, AV.len, length_adL]; done) | (simp only [AV.ren, AV.len, length_umL, length_adL]; omega))) trivial ?_
   refine .q rfl (op_call (U := []) [] [] (unshift_ev _ (length_rgL _ _)) Tryd.func30 (by kernel_rfl) rfl rfl rfl (⟨⟨_, rfl, rfl, rfl⟩, trivial⟩) (trivial) (trivial) (trivial) rfl) trivial ?_
   refine .q rfl (op_call (U := []) [(500, 500)] [] (restore_ev bx ks _ _ te hb hk (length_usL _)) Tryd.func29 (by kernel_rfl) rfl rfl rfl (⟨⟨_, rfl, rfl, rfl⟩, ⟨_, rfl, rfl, rfl⟩, trivial⟩) (⟨⟨_, _, rfl, rfl, ren_ci _, rfl, (fun h => by cases h), nmC_ci _⟩, trivial⟩) (trivial) (⟨(fun h => by cases h), trivial⟩) rfl) trivial ?_
   refine .w rfl (op_storeRow sz25 rfl rfl rfl rfl rfl (by first | omega | (simp only [AV.ren, AV.len, length_rsL]; done) | (simp only [AV.ren, AV.len, length_rsL, length_umL, length_adL]; omega)) (by first | omega | (simp only [AV.ren, AV.len, length_adL]; done) | (simp only [AV.ren, AV.len, length_rsL, length_umL, length_adL]; omega))) trivial rfl rfl ?_
   refine .nil ?_
   show Ev _ _ _ _ _
   refine .region ?_
   refine .q (op_addI rfl rfl ⟨by omega, by omega⟩) trivial rfl ?_
   refine .q (op_move rfl) trivial rfl ?_
   refine .nil ?_
   exact ⟨⟨j + 1, by omega⟩, by show r - (j + 1) < r - j; omega, StLe.mk [(1000, 1000), (1008, 1008)] rfl rfl ⟨⟨_, rfl, by first | rfl | (simp only [AV.ren]; congr 1; omega), rfl⟩, ⟨_, rfl, by first | rfl | (simp only [AV.ren]; congr 1; omega), rfl⟩, ⟨_, rfl, by first | rfl | (simp only [AV.ren]; congr 1; omega), rfl⟩, ⟨_, rfl, by first | rfl | (simp only [AV.ren]; congr 1; omega), rfl⟩, ⟨_, rfl, by first | rfl | (simp only [AV.ren]; congr 1; omega), rfl⟩, trivial⟩ ⟨⟨_, _, rfl, rfl, ren_ci _, rfl, id, nm_ci _⟩, ⟨_, _, rfl, rfl, by (simp only [AV.ren]; rw [bakN]; first | (rw [show decide (0 < j) = true from decide_eq_true (by omega)]; rfl) | (rw [show decide (0 < j) = false from decide_eq_false (by omega)]; rfl)), rfl, id, rfl⟩, ⟨_, _, rfl, rfl, by first | rfl | (simp only [AV.ren]; congr 1; omega), rfl, id, rfl⟩, trivial⟩⟩
 ·simp only [decide_eq_false_iff_not] at hc11
  refine .exit ?_
  show Ev _ _ _ _ _
  have ej : j = r := by omega
  refine Ev.weak (st2 := ⟨[(0, .ptr 500 0), (3, .ptr 1000 0), (4, .ptr 1008 0), (9, .i64 (r : Int)), (10, .i64 (((r) : Nat) : Int))], [(500, some ⟨ciC bx (r : Int) ks, te, false⟩), (1000, some ⟨.aggB (bakN bx ks r b (r)), 25, true⟩), (1008, some ⟨.aggB (List.replicate 16 0), 25, true⟩)], 1016⟩) (StLe.mk [(1000, 1000), (1008, 1008)] rfl rfl ⟨⟨_, rfl, by first | (simp only [AV.ren]; done) | (simp only [AV.ren]; rw [ej]; done) | rfl, rfl⟩, ⟨_, rfl, by first | (simp only [AV.ren]; done) | (simp only [AV.ren]; rw [ej]; done) | rfl, rfl⟩, ⟨_, rfl, by first | (simp only [AV.ren]; done) | (simp only [AV.ren]; rw [ej]; done) | rfl, rfl⟩, ⟨_, rfl, by first | (simp only [AV.ren]; done) | (simp only [AV.ren]; rw [ej]; done) | rfl, rfl⟩, ⟨_, rfl, by first | (simp only [AV.ren]; done) | (simp only [AV.ren]; rw [ej]; done) | rfl, rfl⟩, trivial⟩ ⟨⟨_, _, rfl, rfl, ren_ci _, rfl, id, nm_ci _⟩, ⟨_, _, rfl, rfl, by first | (simp only [AV.ren]; done) | (simp only [AV.ren]; rw [ej]; done) | rfl, rfl, id, rfl⟩, ⟨_, _, rfl, rfl, by first | (simp only [AV.ren]; done) | (simp only [AV.ren]; rw [ej]; done) | rfl, rfl, id, rfl⟩, trivial⟩) ?_
  refine .seq ?_
  refine .drawn [[], [], [1], [1, 2], [1, 2, 3], [1, 2, 3, 4], [0, 1, 2, 3, 4, 5], [0, 1, 2, 3, 4, 5, 6]] [0, 5, 6, 7] [7] (by kernel_rfl) (by kernel_rfl) rfl ?_
  show DK _ [0, 1, 2, 3, 4, 5, 6, 7] _ _ _
  refine .q rfl (op_loadRow Tryd.underlying25 rfl sz25 rfl rfl rfl (by first | omega | (simp only [AV.len, length_bakN bx ks r b hl]; done) | (simp only [AV.ren, AV.len, length_bakN bx ks r b hl]; omega))) trivial ?_
  refine .q rfl (op_move rfl) trivial ?_
  refine .q rfl (op_nilCheck rfl) trivial ?_
  refine .q rfl (op_fieldAddr (m := 239) Tryd.underlying50 rfl (by kernel_rfl) rfl) trivial ?_
  refine .as (.ptr 500 513) rfl ?_
  refine .q rfl (op_indexAddr_arr (i := 0) Tryd.underlying48 sz25 rfl rfl rfl (by omega)) trivial ?_
  refine .q rfl (op_loadPart (m := 16) (r := .aggB (kqL ks (0))) (cs := (kqL ks (0)).map .u8) Tryd.underlying25 rfl sz25 rfl rfl rfl (by rw [List.length_map]; exact length_kqL ks _ (by omega)) (ci_key hb (0)) (by rw [ci_len hb]; omega)) trivial ?_
  refine .q rfl (op_call (U := []) [] [] (add_ev _ _ (length_bakN bx ks r b hl _) (length_kqL ks _ (by omega))) Tryd.func21 (by kernel_rfl) rfl rfl rfl (⟨⟨_, rfl, rfl, rfl⟩, ⟨_, rfl, rfl, rfl⟩, trivial⟩) (trivial) (trivial) (trivial) rfl) trivial ?_
  refine .w rfl (op_storeRow sz25 rfl rfl rfl rfl rfl (by first | omega | (simp only [AV.ren, AV.len, length_adL]; done) | (simp only [AV.ren, AV.len, length_adL, List.length_replicate]; omega)) (by first | omega | (simp only [AV.len, List.length_replicate]; done) | (simp only [AV.ren, AV.len, length_adL, List.length_replicate]; omega))) trivial rfl rfl ?_
  refine .nil ?_
  show Ev _ _ _ _ _
  refine .ret ?_
  show RetOk _ _ _ _ _ _ _
  exact retc1 rfl (.inl rfl) ⟨_, _, _, _, rfl, rfl, rfl, rfl, (length_adL ..), Tryd.underlying25, rfl, sz25⟩ trivial
set_option maxRecDepth 100000 in
theorem xor_ev (bx ks : List UInt8) (r te : Nat) (hb : bx.length = 512) (hk : ks.length = 240) (hr : r ≤ 14) (c s : List UInt8) (hc : c.length = 16) (hs : s.length ≤ 100000) : Meets Tryd.prog 15 [.ptr 500 0, .aggB c, .str s] [(500, some ⟨ciC bx (r : Int) ks, te, false⟩)] (.str (xoL (blkL bx ks r) c s)) [] := by
 refine meets_of_ev (nt := 50) Tryd.func15 rfl rfl (Nat.le_of_ble_eq_true rfl) ?_
 refine .seq ?_
 refine .region ?_
 refine .a (op_boxRow rfl rfl) trivial rfl ?_
 refine .q (op_assign rfl) trivial rfl ?_
 refine .nil ?_
 show Ev _ _ _ _ _
 refine .seq ?_
 refine .region ?_
 refine .q (op_move rfl) trivial rfl ?_
 refine .a (op_str_bytes Tryd.underlying9 Tryd.underlying34 Tryd.underlying5 rfl (by unfold maxLen; omega)) trivial rfl ?_
 refine .q (op_assign rfl) trivial rfl ?_
 refine .nil ?_
 show Ev _ _ _ _ _
 refine .seq ?_
 refine .seq ?_
 refine .region ?_
 refine .q (op_assign rfl) trivial rfl ?_
 refine .nil ?_
 show Ev _ _ _ _ _
 refine .block ?_
 refine Ev.loop (ι := { k : Nat // 16 * k ≤ s.length + 15 }) (fun q => ⟨[(0, .ptr 500 0), (4, .ptr 1000 0), (7, .sl 1008 0 s.length 1), (8, .i64 ((16 * q.1 : Nat) : Int))], [(500, some ⟨ciC bx (r : Int) ks, te, false⟩), (1000, some ⟨.aggB (nxK c q.1), 25, true⟩), (1008, some ⟨.aggB (mpU (xsF (blkL bx ks r) c s) s (min (16 * q.1) s.length)), 5, true⟩)], 1016⟩) (fun q => s.length + 16 - 16 * q.1) ⟨0, by omega⟩ (StLe.mk [(1000, 1000), (1008, 1008)] rfl rfl ⟨⟨_, rfl, by rfl, rfl⟩, ⟨_, rfl, by rfl, rfl⟩, ⟨_, rfl, by rfl, rfl⟩, ⟨_, rfl, by rfl, rfl⟩, trivial⟩ ⟨⟨_, _, rfl, rfl, ren_ci _, rfl, id, nm_ci _⟩, ⟨_, _, rfl, rfl, rfl, rfl, id, rfl⟩, ⟨_, _, rfl, rfl, by (simp only [AV.ren]; rw [Nat.mul_zero, Nat.zero_min, mpU_zero]), rfl, id, rfl⟩, trivial⟩) ?_
 rintro ⟨k, hq⟩
 try dsimp only
 have hlk := length_nxK c k
 have hm := length_mpU (xsF (blkL bx ks r) c s) s (min (16 * k) s.length) (by omega)
 refine .seq ?_
 refine .seq ?_
 refine .region ?_
 refine .q (op_move rfl) trivial rfl ?_
 refine .q (op_move rfl) trivial rfl ?_
 refine .q (op_len_sl Tryd.underlying34 rfl) trivial rfl ?_
 refine .q (op_cmpI rfl rfl rfl) trivial rfl ?_
 refine .nil ?_
 show Ev _ _ _ _ _
 refine .cond rfl (fun hc17 => ?_) (fun hc17 => ?_)
 ·simp only [decide_eq_true_eq] at hc17
  refine .skip ?_
  show Ev _ _ _ _ _
  refine .seq ?_
  refine .block ?_
  refine .seq ?_
  refine .region ?_
  refine .q (op_move rfl) trivial rfl ?_
  refine .q (op_loadRow Tryd.underlying25 rfl sz25 rfl rfl rfl (by first | omega | (simp only [AV.len, hlk, hc]; done) | (simp only [AV.ren, AV.len, hlk, hc]; omega))) trivial rfl ?_
  refine .q (op_call (U := []) [(500, 500)] [] (block_ev bx ks r te hb hk hr (nxK c k) (hlk.trans hc)) Tryd.func11 (by kernel_rfl) rfl rfl rfl (⟨⟨_, rfl, rfl, rfl⟩, ⟨_, rfl, rfl, rfl⟩, trivial⟩) (⟨⟨_, _, rfl, rfl, ren_ci _, rfl, (fun h => by cases h), nmC_ci _⟩, trivial⟩) (trivial) (⟨(fun h => by cases h), trivial⟩) rfl) trivial rfl ?_
  refine .a (op_allocRow zero25 rel_zero25 rfl) trivial rfl ?_
  refine .w (op_storeRow sz25 rfl rfl rfl rfl rfl (by first | omega | (simp only [AV.ren, AV.len, length_blkN, blkL]; done) | (simp only [AV.ren, AV.len, length_blkN, blkL, List.length_replicate]; omega)) (by first | omega | (simp only [AV.len, List.length_replicate]; done) | (simp only [AV.ren, AV.len, length_blkN, blkL, List.length_replicate]; omega))) trivial rfl ?_
  refine .nil ?_
  show Ev _ _ _ _ _
  refine .seq ?_
  refine .region ?_
  refine .q (op_loadRow Tryd.underlying25 rfl sz25 rfl rfl rfl (by first | omega | (simp only [AV.len, hlk, hc]; done) | (simp only [AV.ren, AV.len, hlk, hc]; omega))) trivial rfl ?_
  refine .q (op_call (U := []) [] [] (next_ev _ (hlk.trans hc)) Tryd.func31 (by kernel_rfl) rfl rfl rfl (⟨⟨_, rfl, rfl, rfl⟩, trivial⟩) (trivial) (trivial) (trivial) rfl) trivial rfl ?_
  refine .w (op_storeRow sz25 rfl rfl rfl rfl rfl (by first | omega | (simp only [AV.ren, AV.len, length_nxL, hlk, hc]; done) | (simp only [AV.ren, AV.len, length_nxL, hlk, hc]; omega)) (by first | omega | (simp only [AV.len, hlk, hc]; done) | (simp only [AV.ren, AV.len, length_nxL, hlk, hc]; omega))) trivial rfl ?_
  refine .nil ?_
  show Ev _ _ _ _ _
  refine .seq ?_
  refine .region ?_
  refine .q (op_move rfl) trivial rfl ?_
  refine .q (op_move rfl) trivial rfl ?_
  refine .q (op_move rfl) trivial rfl ?_
  refine .q (op_addI rfl rfl ⟨by omega, by omega⟩) trivial rfl ?_
  refine .q (op_move rfl) trivial rfl ?_
  refine .q (op_len_sl Tryd.underlying34 rfl) trivial rfl ?_
  refine .q (op_minI rfl rfl) trivial rfl ?_
  refine .q (op_slice_sl Tryd.underlying34 inf5.sz rfl (bnd_some rfl (l := 16 * k) (by omega)) (bnd_some rfl (l := min (16 * k + 16) s.length) (by omega)) (by omega) (by omega)) trivial rfl ?_
  refine .q (op_assign rfl) trivial rfl ?_
  refine .nil ?_
  show Ev _ _ _ _ _
  refine .seq ?_
  refine .region ?_
  refine .q (op_move rfl) trivial rfl ?_
  refine .q (op_len_sl Tryd.underlying34 rfl) trivial rfl ?_
  refine .q (op_move rfl) trivial rfl ?_
  refine .nil ?_
  show Ev _ _ _ _ _
  refine .block ?_
  refine Ev.loop (ι := { j : Nat // j ≤ (min (16 * k + 16) s.length - 16 * k) }) (fun j => ⟨[(0, .ptr 500 0), (4, .ptr 1000 0), (7, .sl 1008 0 s.length 1), (8, .i64 ((16 * k : Nat) : Int)), (9, .ptr 1016 0), (10, .sl 1008 (16 * k) (min (16 * k + 16) s.length - 16 * k) 1), (34, .i64 ((min (16 * k + 16) s.length - 16 * k) : Int)), (35, .i64 ((j.1 : Nat) : Int))], [(500, some ⟨ciC bx (r : Int) ks, te, false⟩), (1000, some ⟨.aggB (nxL (nxK c k)), 25, true⟩), (1008, some ⟨.aggB (mpU (xsF (blkL bx ks r) c s) s (16 * k + j.1)), 5, true⟩), (1016, some ⟨.aggB (blkL bx ks r (nxK c k)), 25, true⟩)], 1024⟩) (fun j => (min (16 * k + 16) s.length - 16 * k) - j.1) ⟨0, Nat.zero_le _⟩ (StLe.mk [(1000, 1000), (1008, 1008), (1016, 1016)] rfl rfl ⟨⟨_, rfl, by first | rfl | (simp only [AV.ren]; congr 1; omega), rfl⟩, ⟨_, rfl, by first | rfl | (simp only [AV.ren]; congr 1; omega), rfl⟩, ⟨_, rfl, by first | rfl | (simp only [AV.ren]; congr 1; omega), rfl⟩, ⟨_, rfl, by first | rfl | (simp only [AV.ren]; congr 1; omega), rfl⟩, ⟨_, rfl, by first | rfl | (simp only [AV.ren]; congr 1; omega), rfl⟩, ⟨_, rfl, by (simp only [AV.ren]; first | rfl | (congr 1; omega)), rfl⟩, ⟨_, rfl, by (simp only [AV.ren]; first | rfl | (congr 1; omega)), rfl⟩, ⟨_, rfl, by first | rfl | (simp only [AV.ren]; congr 1; omega), rfl⟩, trivial⟩ ⟨⟨_, _, rfl, rfl, ren_ci _, rfl, id, nm_ci _⟩, ⟨_, _, rfl, rfl, by first | rfl | (simp only [AV.ren]; congr 1; omega), rfl, id, rfl⟩, ⟨_, _, rfl, rfl, by (simp only [AV.ren]; congr 2 <;> omega), rfl, id, rfl⟩, ⟨_, _, rfl, rfl, by first | rfl | (simp only [AV.ren]; congr 1; omega), rfl, id, rfl⟩, trivial⟩) ?_
  rintro ⟨j, hj⟩
  dsimp only
  have hm2 := length_mpU (xsF (blkL bx ks r) c s) s (16 * k + j) (by omega)
  refine .seq ?_
  refine .region ?_
  refine .q (op_cmpI rfl rfl rfl) trivial rfl ?_
  refine .nil ?_
  show Ev _ _ _ _ _
  refine .seq ?_
  refine .cond rfl (fun hc36 => ?_) (fun hc36 => ?_)
  ·simp only [decide_eq_true_eq] at hc36
   refine .skip ?_
   show Ev _ _ _ _ _
   refine .seq ?_
   refine .block ?_
   refine .seq ?_
   refine .region ?_
   refine .q (op_move rfl) trivial rfl ?_
   refine .q (op_assign rfl) trivial rfl ?_
   refine .nil ?_
   show Ev _ _ _ _ _
   refine .drawn [[], [], [0, 1], [0, 1, 2], [], [4], [4, 5], [0, 1, 2, 3, 4, 5, 6], [0, 1, 2, 3, 4, 5, 6, 7], [0, 1, 2, 3, 4, 5, 6, 7, 8]] [3, 6, 9] [9] (by kernel_rfl) (by kernel_rfl) rfl ?_
   show DK _ [0, 1, 2, 3, 4, 5, 6, 7, 8, 9] _ _ _
   refine .q rfl (op_move rfl) trivial ?_
   refine .q rfl (op_move rfl) trivial ?_
   refine .q rfl (ap_idx Tryd.underlying34 inf5.sz rfl rfl (i := j) rfl (by omega)) trivial ?_
   refine .q rfl (op_load Tryd.underlying5 rfl rfl rfl rfl (by first | omega | (simp only [AV.len, hm2]; done) | (simp only [AV.len, hm2]; omega))) trivial ?_
   refine .q rfl (op_move rfl) trivial ?_
   refine .q rfl (ap_idx_arr Tryd.underlying25 inf5.sz rfl rfl rfl (by first | omega | (simp only [AV.len]; omega) | (simp only [AV.len, List.length_set]; omega) | assumption | (simp [AV.len]; done))) trivial ?_
   refine .q rfl (op_load Tryd.underlying5 rfl rfl rfl rfl (by first | omega | (simp only [AV.len, length_blkN, blkL]; done) | (simp only [AV.len, length_blkN, blkL]; omega))) trivial ?_
   refine .q rfl (op_bin8 rfl rfl rfl) trivial ?_
   refine .q rfl (ap_idx Tryd.underlying34 inf5.sz rfl rfl (i := j) rfl (by omega)) trivial ?_
   refine .w rfl (op_store inf5.sz rfl rfl rfl rfl rfl (by first | omega | (simp only [AV.len, hm2]; done) | (simp only [AV.len, hm2]; omega))) trivial rfl rfl ?_
   refine .nil ?_
   show Ev _ _ _ _ _
   refine .region ?_
   refine .q (op_addI rfl rfl ⟨by omega, by omega⟩) trivial rfl ?_
   refine .q (op_move rfl) trivial rfl ?_
   refine .nil ?_
   exact ⟨⟨j + 1, by omega⟩, by show (min (16 * k + 16) s.length - 16 * k) - (j + 1) < (min (16 * k + 16) s.length - 16 * k) - j; omega, StLe.mk [(1000, 1000), (1008, 1008), (1016, 1016)] rfl rfl ⟨⟨_, rfl, by first | rfl | (simp only [AV.ren]; congr 1; omega), rfl⟩, ⟨_, rfl, by first | rfl | (simp only [AV.ren]; congr 1; omega), rfl⟩, ⟨_, rfl, by first | rfl | (simp only [AV.ren]; congr 1; omega), rfl⟩, ⟨_, rfl, by first | rfl | (simp only [AV.ren]; congr 1; omega), rfl⟩, ⟨_, rfl, by first | rfl | (simp only [AV.ren]; congr 1; omega), rfl⟩, ⟨_, rfl, by first | rfl | (simp only [AV.ren]; congr 1; omega), rfl⟩, ⟨_, rfl, by first | rfl | (simp only [AV.ren]; congr 1; omega), rfl⟩, ⟨_, rfl, by first | rfl | (simp only [AV.ren]; congr 1; omega), rfl⟩, trivial⟩ ⟨⟨_, _, rfl, rfl, ren_ci _, rfl, id, nm_ci _⟩, ⟨_, _, rfl, rfl, by first | rfl | (simp only [AV.ren]; congr 1; omega), rfl, id, rfl⟩, ⟨_, _, rfl, rfl, by (simp only [AV.ren]; rw [mpU_set _ _ _ _ (by omega) (xs_step (blkL bx ks r) c s k j (by omega))]; rfl), rfl, id, rfl⟩, ⟨_, _, rfl, rfl, by first | rfl | (simp only [AV.ren]; congr 1; omega), rfl, id, rfl⟩, trivial⟩⟩
  ·simp only [decide_eq_false_iff_not] at hc36
   refine .exit ?_
   show Ev _ _ _ _ _
   have ej : j = (min (16 * k + 16) s.length - 16 * k) := by omega
   refine Ev.weak (st2 := ⟨[(0, .ptr 500 0), (4, .ptr 1000 0), (7, .sl 1008 0 s.length 1), (8, .i64 ((16 * k : Nat) : Int)), (9, .ptr 1016 0), (10, .sl 1008 (16 * k) (min (16 * k + 16) s.length - 16 * k) 1), (34, .i64 ((min (16 * k + 16) s.length - 16 * k) : Int)), (35, .i64 ((((min (16 * k + 16) s.length - 16 * k)) : Nat) : Int))], [(500, some ⟨ciC bx (r : Int) ks, te, false⟩), (1000, some ⟨.aggB (nxL (nxK c k)), 25, true⟩), (1008, some ⟨.aggB (mpU (xsF (blkL bx ks r) c s) s (16 * k + ((min (16 * k + 16) s.length - 16 * k)))), 5, true⟩), (1016, some ⟨.aggB (blkL bx ks r (nxK c k)), 25, true⟩)], 1024⟩) (StLe.mk [(1000, 1000), (1008, 1008), (1016, 1016)] rfl rfl ⟨⟨_, rfl, by first | (simp only [AV.ren]; done) | (simp only [AV.ren]; rw [ej]; done) | rfl, rfl⟩, ⟨_, rfl, by first | (simp only [AV.ren]; done) | (simp only [AV.ren]; rw [ej]; done) | rfl, rfl⟩, ⟨_, rfl, by first | (simp only [AV.ren]; done) | (simp only [AV.ren]; rw [ej]; done) | rfl, rfl⟩, ⟨_, rfl, by first | (simp only [AV.ren]; done) | (simp only [AV.ren]; rw [ej]; done) | rfl, rfl⟩, ⟨_, rfl, by first | (simp only [AV.ren]; done) | (simp only [AV.ren]; rw [ej]; done) | rfl, rfl⟩, ⟨_, rfl, by first | (simp only [AV.ren]; done) | (simp only [AV.ren]; rw [ej]; done) | rfl, rfl⟩, ⟨_, rfl, by first | (simp only [AV.ren]; done) | (simp only [AV.ren]; rw [ej]; done) | rfl, rfl⟩, ⟨_, rfl, by first | (simp only [AV.ren]; done) | (simp only [AV.ren]; rw [ej]; done) | rfl, rfl⟩, trivial⟩ ⟨⟨_, _, rfl, rfl, ren_ci _, rfl, id, nm_ci _⟩, ⟨_, _, rfl, rfl, by first | (simp only [AV.ren]; done) | (simp only [AV.ren]; rw [ej]; done) | rfl, rfl, id, rfl⟩, ⟨_, _, rfl, rfl, by first | (simp only [AV.ren]; done) | (simp only [AV.ren]; rw [ej]; done) | rfl, rfl, id, rfl⟩, ⟨_, _, rfl, rfl, by first | (simp only [AV.ren]; done) | (simp only [AV.ren]; rw [ej]; done) | rfl, rfl, id, rfl⟩, trivial⟩) ?_
   refine .region ?_
   refine .q (op_move rfl) trivial rfl ?_
   refine .q (op_addI rfl rfl ⟨by omega, by omega⟩) trivial rfl ?_
   refine .q (op_assign rfl) trivial rfl ?_
   refine .nil ?_
   exact ⟨⟨k + 1, by omega⟩, by (try dsimp only); omega, StLe.mk [(1000, 1000), (1008, 1008)] rfl rfl ⟨⟨_, rfl, by rfl, rfl⟩, ⟨_, rfl, by rfl, rfl⟩, ⟨_, rfl, by rfl, rfl⟩, ⟨_, rfl, by first | rfl | (simp only [AV.ren]; congr 1; omega), rfl⟩, trivial⟩ ⟨⟨_, _, rfl, rfl, ren_ci _, rfl, id, nm_ci _⟩, ⟨_, _, rfl, rfl, rfl, rfl, id, rfl⟩, ⟨_, _, rfl, rfl, by (simp only [AV.ren]; congr 2 <;> omega), rfl, id, rfl⟩, trivial⟩⟩
 ·simp only [decide_eq_false_iff_not] at hc17
  refine .exit ?_
  show Ev _ _ _ _ _
  refine .seq ?_
  refine .region ?_
  refine .q (op_move rfl) trivial rfl ?_
  refine .q (op_bytes_str Tryd.underlying34 Tryd.underlying5 Tryd.underlying9 rfl rfl rfl (by first | omega | (simp only [AV.ren, AV.len, hm]; done) | (simp only [AV.ren, AV.len, hm]; omega))) trivial rfl ?_
  refine .q (op_assign rfl) trivial rfl ?_
  refine .nil ?_
  show Ev _ _ _ _ _
  refine .ret ?_
  show RetOk _ _ _ _ _ _ _
  exact ret1v rfl (.inl rfl) rfl (congrArg AV.str (by rw [List.drop_zero, List.take_of_length_le (by omega), show min (16 * k) s.length = s.length by omega, mpU_all _ _ _ rfl]; rfl)) trivial
end Go.Proofs.YtdpdmgbdipokdaaDoor
