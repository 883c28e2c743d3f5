/-
  Messages written and read.
-/
import Derived.Test.YtaelhapmikijnaaGreatDoorGJ
namespace Go.Proofs.YtaelhapmikijnaaGreatDoor
open Go.RowKit
theorem any_le {ss : List (List UInt8)} (h : ss.any bigS = false) (i : Nat) : (ss.getD i []).length ≤ 40000 := by
  rcases Nat.lt_or_ge i ss.length with hi | hi
  · have h1 := List.any_eq_false.1 h (ss[i]) (List.getElem_mem hi)
    rw [show ss.getD i [] = ss[i] by simp [List.getD_eq_getElem?_getD, hi]]
    simp only [bigS, decide_eq_true_eq] at h1
    omega
  · simp [List.getD_eq_getElem?_getD, List.getElem?_eq_none hi]
set_option maxRecDepth 100000 in
theorem nextS_S (k : Int) (so ns : Nat) (ss : List (List UInt8)) (h : so < ss.length) : Meets Tryz.prog 64 [.ptr 500 2] [(500, some ⟨.agg [.i64 (k), .nilsl, .sl 512 (so) (ns + 1) 1, .nilsl, .nilsl], 47, true⟩), (512, some ⟨.aggS ss, 9, false⟩)] (.str (ss.getD so [])) [(500, some ⟨.agg [.i64 (k), .nilsl, .sl 512 (so + 1) (ns) 1, .nilsl, .nilsl], 47, true⟩), (512, some ⟨.aggS ss, 9, false⟩)] := by
 refine meets_of_ev (nt := 16) Tryz.func64 rfl rfl (Nat.le_of_ble_eq_true rfl) ?_
 refine .seq ?_
 refine .region ?_
 refine .q (op_assign rfl) trivial rfl ?_
 refine .nil ?_
 show Ev _ _ _ _ _
 refine .seq ?_
 refine .region ?_
 refine .q (op_move rfl) trivial rfl ?_
 refine .q (op_nilCheck rfl) trivial rfl ?_
 refine .q (op_load Tryz.underlying36 rfl rfl rfl rfl (by first | omega | (simp only [AV.len]; omega) | (simp only [AV.len]; omega) | assumption | (simp [AV.len]; done))) trivial rfl ?_
 refine .q (ap_idx Tryz.underlying36 inf9.sz rfl rfl (show (0 : Int) = ((0 : Nat) : Int) from rfl) (by omega)) trivial rfl ?_
 refine .q (op_load Tryz.underlying9 rfl rfl rfl rfl (h)) trivial rfl ?_
 refine .as (.str (ss.getD so [])) rfl ?_
 refine .q (op_assign rfl) trivial rfl ?_
 refine .nil ?_
 show Ev _ _ _ _ _
 refine .seq ?_
 refine .region ?_
 refine .q (op_move rfl) trivial rfl ?_
 refine .q (op_move rfl) trivial rfl ?_
 refine .q (op_nilCheck rfl) trivial rfl ?_
 refine .q (op_load Tryz.underlying36 rfl rfl rfl rfl (by first | omega | (simp only [AV.len]; omega) | (simp only [AV.len]; omega) | assumption | (simp [AV.len]; done))) trivial rfl ?_
 refine .q (op_slice_sl Tryz.underlying36 inf9.sz rfl (bnd_some rfl (show (1 : Int) = ((1 : Nat) : Int) from rfl)) rfl (by omega) (by omega)) trivial rfl ?_
 refine .as (.sl 512 (so + 1) ns 1) rfl ?_
 refine .q (op_nilCheck rfl) trivial rfl ?_
 refine .w (op_store (by kernel_rfl) rfl rfl rfl rfl rfl (by first | omega | (simp only [AV.len]; omega) | (simp only [AV.len]; omega) | assumption | (simp [AV.len]; done))) trivial rfl ?_
 refine .nil ?_
 show Ev _ _ _ _ _
 refine .seq ?_
 refine .region ?_
 refine .q (op_move rfl) trivial rfl ?_
 refine .q (op_assign rfl) trivial rfl ?_
 refine .nil ?_
 show Ev _ _ _ _ _
 refine .ret ?_
 show RetOk _ _ _ _ _ _ _
 exact ret1v rfl (.inl rfl) rfl (rfl) ⟨rfl, rfl, trivial⟩
set_option maxRecDepth 100000 in
theorem nextS_US (k : Int) (uo nu so ns : Nat) (ss : List (List UInt8)) (h : so < ss.length) : Meets Tryz.prog 64 [.ptr 500 2] [(500, some ⟨.agg [.i64 (k), .sl 511 (uo) (nu) 1, .sl 512 (so) (ns + 1) 1, .nilsl, .nilsl], 47, true⟩), (512, some ⟨.aggS ss, 9, false⟩)] (.str (ss.getD so [])) [(500, some ⟨.agg [.i64 (k), .sl 511 (uo) (nu) 1, .sl 512 (so + 1) (ns) 1, .nilsl, .nilsl], 47, true⟩), (512, some ⟨.aggS ss, 9, false⟩)] := by
 refine meets_of_ev (nt := 16) Tryz.func64 rfl rfl (Nat.le_of_ble_eq_true rfl) ?_
 refine .seq ?_
 refine .region ?_
 refine .q (op_assign rfl) trivial rfl ?_
 refine .nil ?_
 show Ev _ _ _ _ _
 refine .seq ?_
 refine .region ?_
 refine .q (op_move rfl) trivial rfl ?_
 refine .q (op_nilCheck rfl) trivial rfl ?_
 refine .q (op_load Tryz.underlying36 rfl rfl rfl rfl (by first | omega | (simp only [AV.len]; omega) | (simp only [AV.len]; omega) | assumption | (simp [AV.len]; done))) trivial rfl ?_
 refine .q (ap_idx Tryz.underlying36 inf9.sz rfl rfl (show (0 : Int) = ((0 : Nat) : Int) from rfl) (by omega)) trivial rfl ?_
 refine .q (op_load Tryz.underlying9 rfl rfl rfl rfl (h)) trivial rfl ?_
 refine .as (.str (ss.getD so [])) rfl ?_
 refine .q (op_assign rfl) trivial rfl ?_
 refine .nil ?_
 show Ev _ _ _ _ _
 refine .seq ?_
 refine .region ?_
 refine .q (op_move rfl) trivial rfl ?_
 refine .q (op_move rfl) trivial rfl ?_
 refine .q (op_nilCheck rfl) trivial rfl ?_
 refine .q (op_load Tryz.underlying36 rfl rfl rfl rfl (by first | omega | (simp only [AV.len]; omega) | (simp only [AV.len]; omega) | assumption | (simp [AV.len]; done))) trivial rfl ?_
 refine .q (op_slice_sl Tryz.underlying36 inf9.sz rfl (bnd_some rfl (show (1 : Int) = ((1 : Nat) : Int) from rfl)) rfl (by omega) (by omega)) trivial rfl ?_
 refine .as (.sl 512 (so + 1) ns 1) rfl ?_
 refine .q (op_nilCheck rfl) trivial rfl ?_
 refine .w (op_store (by kernel_rfl) rfl rfl rfl rfl rfl (by first | omega | (simp only [AV.len]; omega) | (simp only [AV.len]; omega) | assumption | (simp [AV.len]; done))) trivial rfl ?_
 refine .nil ?_
 show Ev _ _ _ _ _
 refine .seq ?_
 refine .region ?_
 refine .q (op_move rfl) trivial rfl ?_
 refine .q (op_assign rfl) trivial rfl ?_
 refine .nil ?_
 show Ev _ _ _ _ _
 refine .ret ?_
 show RetOk _ _ _ _ _ _ _
 exact ret1v rfl (.inl rfl) rfl (rfl) ⟨rfl, rfl, trivial⟩
set_option maxRecDepth 100000 in
theorem nextU_US (k : Int) (uo nu so ns : Nat) (us : List UInt32) (h : uo < us.length) : Meets Tryz.prog 58 [.ptr 500 1] [(500, some ⟨.agg [.i64 (k), .sl 511 (uo) (nu + 1) 1, .sl 512 (so) (ns) 1, .nilsl, .nilsl], 47, true⟩), (511, some ⟨.agg32 us, 42, false⟩)] (.u32 (us.getD uo 0)) [(500, some ⟨.agg [.i64 (k), .sl 511 (uo + 1) (nu) 1, .sl 512 (so) (ns) 1, .nilsl, .nilsl], 47, true⟩), (511, some ⟨.agg32 us, 42, false⟩)] := by
 refine meets_of_ev (nt := 16) Tryz.func58 rfl rfl (Nat.le_of_ble_eq_true rfl) ?_
 refine .seq ?_
 refine .region ?_
 refine .q (op_assign rfl) trivial rfl ?_
 refine .nil ?_
 show Ev _ _ _ _ _
 refine .seq ?_
 refine .region ?_
 refine .q (op_move rfl) trivial rfl ?_
 refine .q (op_nilCheck rfl) trivial rfl ?_
 refine .q (op_load Tryz.underlying43 rfl rfl rfl rfl (by first | omega | (simp only [AV.len]; omega) | (simp only [AV.len]; omega) | assumption | (simp [AV.len]; done))) trivial rfl ?_
 refine .q (ap_idx Tryz.underlying43 inf42.sz rfl rfl (show (0 : Int) = ((0 : Nat) : Int) from rfl) (by omega)) trivial rfl ?_
 refine .q (op_load Tryz.underlying42 rfl rfl rfl rfl (h)) trivial rfl ?_
 refine .as (.u32 (us.getD uo 0)) rfl ?_
 refine .q (op_assign rfl) trivial rfl ?_
 refine .nil ?_
 show Ev _ _ _ _ _
 refine .seq ?_
 refine .region ?_
 refine .q (op_move rfl) trivial rfl ?_
 refine .q (op_move rfl) trivial rfl ?_
 refine .q (op_nilCheck rfl) trivial rfl ?_
 refine .q (op_load Tryz.underlying43 rfl rfl rfl rfl (by first | omega | (simp only [AV.len]; omega) | (simp only [AV.len]; omega) | assumption | (simp [AV.len]; done))) trivial rfl ?_
 refine .q (op_slice_sl Tryz.underlying43 inf42.sz rfl (bnd_some rfl (show (1 : Int) = ((1 : Nat) : Int) from rfl)) rfl (by omega) (by omega)) trivial rfl ?_
 refine .as (.sl 511 (uo + 1) nu 1) rfl ?_
 refine .q (op_nilCheck rfl) trivial rfl ?_
 refine .w (op_store (by kernel_rfl) rfl rfl rfl rfl rfl (by first | omega | (simp only [AV.len]; omega) | (simp only [AV.len]; omega) | assumption | (simp [AV.len]; done))) trivial rfl ?_
 refine .nil ?_
 show Ev _ _ _ _ _
 refine .seq ?_
 refine .region ?_
 refine .q (op_move rfl) trivial rfl ?_
 refine .q (op_assign rfl) trivial rfl ?_
 refine .nil ?_
 show Ev _ _ _ _ _
 refine .ret ?_
 show RetOk _ _ _ _ _ _ _
 exact ret1v rfl (.inl rfl) rfl (rfl) ⟨rfl, rfl, trivial⟩
set_option maxRecDepth 100000 in
theorem nextB_USB (k : Int) (uo nu so ns bo nb : Nat) (bs : List Bool) (h : bo < bs.length) : Meets Tryz.prog 60 [.ptr 500 4] [(500, some ⟨.agg [.i64 (k), .sl 511 (uo) (nu) 1, .sl 512 (so) (ns) 1, .nilsl, .sl 514 (bo) (nb + 1) 1], 47, true⟩), (514, some ⟨.aggT bs, 4, false⟩)] (.bool (bs.getD bo false)) [(500, some ⟨.agg [.i64 (k), .sl 511 (uo) (nu) 1, .sl 512 (so) (ns) 1, .nilsl, .sl 514 (bo + 1) (nb) 1], 47, true⟩), (514, some ⟨.aggT bs, 4, false⟩)] := by
 refine meets_of_ev (nt := 16) Tryz.func60 rfl rfl (Nat.le_of_ble_eq_true rfl) ?_
 refine .seq ?_
 refine .region ?_
 refine .q (op_assign rfl) trivial rfl ?_
 refine .nil ?_
 show Ev _ _ _ _ _
 refine .seq ?_
 refine .region ?_
 refine .q (op_move rfl) trivial rfl ?_
 refine .q (op_nilCheck rfl) trivial rfl ?_
 refine .q (op_load Tryz.underlying45 rfl rfl rfl rfl (by first | omega | (simp only [AV.len]; omega) | (simp only [AV.len]; omega) | assumption | (simp [AV.len]; done))) trivial rfl ?_
 refine .q (ap_idx Tryz.underlying45 inf4.sz rfl rfl (show (0 : Int) = ((0 : Nat) : Int) from rfl) (by omega)) trivial rfl ?_
 refine .q (op_load Tryz.underlying4 rfl rfl rfl rfl (h)) trivial rfl ?_
 refine .as (.bool (bs.getD bo false)) rfl ?_
 refine .q (op_assign rfl) trivial rfl ?_
 refine .nil ?_
 show Ev _ _ _ _ _
 refine .seq ?_
 refine .region ?_
 refine .q (op_move rfl) trivial rfl ?_
 refine .q (op_move rfl) trivial rfl ?_
 refine .q (op_nilCheck rfl) trivial rfl ?_
 refine .q (op_load Tryz.underlying45 rfl rfl rfl rfl (by first | omega | (simp only [AV.len]; omega) | (simp only [AV.len]; omega) | assumption | (simp [AV.len]; done))) trivial rfl ?_
 refine .q (op_slice_sl Tryz.underlying45 inf4.sz rfl (bnd_some rfl (show (1 : Int) = ((1 : Nat) : Int) from rfl)) rfl (by omega) (by omega)) trivial rfl ?_
 refine .as (.sl 514 (bo + 1) nb 1) rfl ?_
 refine .q (op_nilCheck rfl) trivial rfl ?_
 refine .w (op_store (by kernel_rfl) rfl rfl rfl rfl rfl (by first | omega | (simp only [AV.len]; omega) | (simp only [AV.len]; omega) | assumption | (simp [AV.len]; done))) trivial rfl ?_
 refine .nil ?_
 show Ev _ _ _ _ _
 refine .seq ?_
 refine .region ?_
 refine .q (op_move rfl) trivial rfl ?_
 refine .q (op_assign rfl) trivial rfl ?_
 refine .nil ?_
 show Ev _ _ _ _ _
 refine .ret ?_
 show RetOk _ _ _ _ _ _ _
 exact ret1v rfl (.inl rfl) rfl (rfl) ⟨rfl, rfl, trivial⟩
set_option maxRecDepth 100000 in
theorem nextS_USB (k : Int) (uo nu so ns bo nb : Nat) (ss : List (List UInt8)) (h : so < ss.length) : Meets Tryz.prog 64 [.ptr 500 2] [(500, some ⟨.agg [.i64 (k), .sl 511 (uo) (nu) 1, .sl 512 (so) (ns + 1) 1, .nilsl, .sl 514 (bo) (nb) 1], 47, true⟩), (512, some ⟨.aggS ss, 9, false⟩)] (.str (ss.getD so [])) [(500, some ⟨.agg [.i64 (k), .sl 511 (uo) (nu) 1, .sl 512 (so + 1) (ns) 1, .nilsl, .sl 514 (bo) (nb) 1], 47, true⟩), (512, some ⟨.aggS ss, 9, false⟩)] := by
 refine meets_of_ev (nt := 16) Tryz.func64 rfl rfl (Nat.le_of_ble_eq_true rfl) ?_
 refine .seq ?_
 refine .region ?_
 refine .q (op_assign rfl) trivial rfl ?_
 refine .nil ?_
 show Ev _ _ _ _ _
 refine .seq ?_
 refine .region ?_
 refine .q (op_move rfl) trivial rfl ?_
 refine .q (op_nilCheck rfl) trivial rfl ?_
 refine .q (op_load Tryz.underlying36 rfl rfl rfl rfl (by first | omega | (simp only [AV.len]; omega) | (simp only [AV.len]; omega) | assumption | (simp [AV.len]; done))) trivial rfl ?_
 refine .q (ap_idx Tryz.underlying36 inf9.sz rfl rfl (show (0 : Int) = ((0 : Nat) : Int) from rfl) (by omega)) trivial rfl ?_
 refine .q (op_load Tryz.underlying9 rfl rfl rfl rfl (h)) trivial rfl ?_
 refine .as (.str (ss.getD so [])) rfl ?_
 refine .q (op_assign rfl) trivial rfl ?_
 refine .nil ?_
 show Ev _ _ _ _ _
 refine .seq ?_
 refine .region ?_
 refine .q (op_move rfl) trivial rfl ?_
 refine .q (op_move rfl) trivial rfl ?_
 refine .q (op_nilCheck rfl) trivial rfl ?_
 refine .q (op_load Tryz.underlying36 rfl rfl rfl rfl (by first | omega | (simp only [AV.len]; omega) | (simp only [AV.len]; omega) | assumption | (simp [AV.len]; done))) trivial rfl ?_
 refine .q (op_slice_sl Tryz.underlying36 inf9.sz rfl (bnd_some rfl (show (1 : Int) = ((1 : Nat) : Int) from rfl)) rfl (by omega) (by omega)) trivial rfl ?_
 refine .as (.sl 512 (so + 1) ns 1) rfl ?_
 refine .q (op_nilCheck rfl) trivial rfl ?_
 refine .w (op_store (by kernel_rfl) rfl rfl rfl rfl rfl (by first | omega | (simp only [AV.len]; omega) | (simp only [AV.len]; omega) | assumption | (simp [AV.len]; done))) trivial rfl ?_
 refine .nil ?_
 show Ev _ _ _ _ _
 refine .seq ?_
 refine .region ?_
 refine .q (op_move rfl) trivial rfl ?_
 refine .q (op_assign rfl) trivial rfl ?_
 refine .nil ?_
 show Ev _ _ _ _ _
 refine .ret ?_
 show RetOk _ _ _ _ _ _ _
 exact ret1v rfl (.inl rfl) rfl (rfl) ⟨rfl, rfl, trivial⟩
set_option maxRecDepth 100000 in
theorem nextU_USB (k : Int) (uo nu so ns bo nb : Nat) (us : List UInt32) (h : uo < us.length) : Meets Tryz.prog 58 [.ptr 500 1] [(500, some ⟨.agg [.i64 (k), .sl 511 (uo) (nu + 1) 1, .sl 512 (so) (ns) 1, .nilsl, .sl 514 (bo) (nb) 1], 47, true⟩), (511, some ⟨.agg32 us, 42, false⟩)] (.u32 (us.getD uo 0)) [(500, some ⟨.agg [.i64 (k), .sl 511 (uo + 1) (nu) 1, .sl 512 (so) (ns) 1, .nilsl, .sl 514 (bo) (nb) 1], 47, true⟩), (511, some ⟨.agg32 us, 42, false⟩)] := by
 refine meets_of_ev (nt := 16) Tryz.func58 rfl rfl (Nat.le_of_ble_eq_true rfl) ?_
 refine .seq ?_
 refine .region ?_
 refine .q (op_assign rfl) trivial rfl ?_
 refine .nil ?_
 show Ev _ _ _ _ _
 refine .seq ?_
 refine .region ?_
 refine .q (op_move rfl) trivial rfl ?_
 refine .q (op_nilCheck rfl) trivial rfl ?_
 refine .q (op_load Tryz.underlying43 rfl rfl rfl rfl (by first | omega | (simp only [AV.len]; omega) | (simp only [AV.len]; omega) | assumption | (simp [AV.len]; done))) trivial rfl ?_
 refine .q (ap_idx Tryz.underlying43 inf42.sz rfl rfl (show (0 : Int) = ((0 : Nat) : Int) from rfl) (by omega)) trivial rfl ?_
 refine .q (op_load Tryz.underlying42 rfl rfl rfl rfl (h)) trivial rfl ?_
 refine .as (.u32 (us.getD uo 0)) rfl ?_
 refine .q (op_assign rfl) trivial rfl ?_
 refine .nil ?_
 show Ev _ _ _ _ _
 refine .seq ?_
 refine .region ?_
 refine .q (op_move rfl) trivial rfl ?_
 refine .q (op_move rfl) trivial rfl ?_
 refine .q (op_nilCheck rfl) trivial rfl ?_
 refine .q (op_load Tryz.underlying43 rfl rfl rfl rfl (by first | omega | (simp only [AV.len]; omega) | (simp only [AV.len]; omega) | assumption | (simp [AV.len]; done))) trivial rfl ?_
 refine .q (op_slice_sl Tryz.underlying43 inf42.sz rfl (bnd_some rfl (show (1 : Int) = ((1 : Nat) : Int) from rfl)) rfl (by omega) (by omega)) trivial rfl ?_
 refine .as (.sl 511 (uo + 1) nu 1) rfl ?_
 refine .q (op_nilCheck rfl) trivial rfl ?_
 refine .w (op_store (by kernel_rfl) rfl rfl rfl rfl rfl (by first | omega | (simp only [AV.len]; omega) | (simp only [AV.len]; omega) | assumption | (simp [AV.len]; done))) trivial rfl ?_
 refine .nil ?_
 show Ev _ _ _ _ _
 refine .seq ?_
 refine .region ?_
 refine .q (op_move rfl) trivial rfl ?_
 refine .q (op_assign rfl) trivial rfl ?_
 refine .nil ?_
 show Ev _ _ _ _ _
 refine .ret ?_
 show RetOk _ _ _ _ _ _ _
 exact ret1v rfl (.inl rfl) rfl (rfl) ⟨rfl, rfl, trivial⟩
set_option maxRecDepth 100000 in
theorem putr_S (k : Int) (so ns : Nat) (ss : List (List UInt8)) (hi : so < ss.length) (hx : (ss.getD so []).length ≤ 40000)  (l : List UInt8) (n : Nat) (hn : n = l.length) (h : n ≤ 500000000) : Meets Tryz.prog 33 [.ptr 500 0, .u8 114, .ptr 510 0] [(500, some ⟨.agg [.ptr 500 0, .sl 501 0 (n) 1], 80, true⟩), (501, some ⟨.aggB l, 5, true⟩), (510, some ⟨.agg [.i64 (k), .nilsl, .sl 512 (so) (ns + 1) 1, .nilsl, .nilsl], 47, true⟩), (512, some ⟨.aggS ss, 9, false⟩)] (.tup []) [(500, some ⟨.agg [.ptr 500 0, .sl 1008 0 (n + (ss.getD so []).length) 1], 80, true⟩), (1008, some ⟨.aggB (l ++ (ss.getD so [])), 5, true⟩), (510, some ⟨.agg [.i64 (k), .nilsl, .sl 512 (so + 1) (ns) 1, .nilsl, .nilsl], 47, true⟩), (512, some ⟨.aggS ss, 9, false⟩)] := by
 refine meets_of_ev (nt := 52) Tryz.func33 rfl rfl (Nat.le_of_ble_eq_true rfl) ?_
 refine .seq ?_
 refine .region ?_
 refine .q (op_move rfl) trivial rfl ?_
 refine .nil ?_
 show Ev _ _ _ _ _
 refine .block ?_
 refine .seq ?_
 refine .block ?_
 refine .seq ?_
 refine .block ?_
 refine .seq ?_
 refine .block ?_
 refine .seq ?_
 refine .block ?_
 refine .seq ?_
 refine .block ?_
 refine .seq ?_
 refine .seq ?_
 refine .seq ?_
 refine .region ?_
 refine .q (op_bin8 rfl rfl rfl) trivial rfl ?_
 refine .q (op_assign rfl) trivial rfl ?_
 refine .nil ?_
 show Ev _ _ _ _ _
 refine .cond_false rfl (rfl) ?_
 refine .skip ?_
 show Ev _ _ _ _ _
 refine .seq ?_
 refine .seq ?_
 refine .region ?_
 refine .q (op_bin8 rfl rfl rfl) trivial rfl ?_
 refine .q (op_assign rfl) trivial rfl ?_
 refine .nil ?_
 show Ev _ _ _ _ _
 refine .cond_false rfl (rfl) ?_
 refine .skip ?_
 show Ev _ _ _ _ _
 refine .seq ?_
 refine .seq ?_
 refine .region ?_
 refine .q (op_bin8 rfl rfl rfl) trivial rfl ?_
 refine .q (op_assign rfl) trivial rfl ?_
 refine .nil ?_
 show Ev _ _ _ _ _
 refine .cond_false rfl (rfl) ?_
 refine .skip ?_
 show Ev _ _ _ _ _
 refine .seq ?_
 refine .seq ?_
 refine .region ?_
 refine .q (op_bin8 rfl rfl rfl) trivial rfl ?_
 refine .q (op_assign rfl) trivial rfl ?_
 refine .nil ?_
 show Ev _ _ _ _ _
 refine .cond_false rfl (rfl) ?_
 refine .skip ?_
 show Ev _ _ _ _ _
 refine .seq ?_
 refine .seq ?_
 refine .region ?_
 refine .q (op_bin8 rfl rfl rfl) trivial rfl ?_
 refine .q (op_assign rfl) trivial rfl ?_
 refine .nil ?_
 show Ev _ _ _ _ _
 refine .cond_false rfl (rfl) ?_
 refine .region ?_
 refine .q (op_bin8 rfl rfl rfl) trivial rfl ?_
 refine .q (op_assign rfl) trivial rfl ?_
 refine .nil ?_
 show Ev _ _ _ _ _
 refine .cond_true rfl (rfl) ?_
 refine .exit ?_
 show Ev _ _ _ _ _
 refine .seq ?_
 refine .region ?_
 refine .q (op_move rfl) trivial rfl ?_
 refine .q (op_move rfl) trivial rfl ?_
 refine .q (op_nilCheck rfl) trivial rfl ?_
 refine .q (op_fieldAddr (m := 0) Tryz.underlying47 rfl (by kernel_rfl) rfl) trivial rfl ?_
 refine .as (.ptr 510 2) rfl ?_
 refine .a (op_call (U := [(510, some ⟨.agg [.i64 (k), .nilsl, .sl 512 (so + 1) (ns) 1, .nilsl, .nilsl], 47, true⟩)]) [(500, 510), (512, 512)] [] (nextS_S k so ns ss hi) Tryz.func64 (by kernel_rfl) rfl rfl rfl (⟨⟨_, rfl, rfl, rfl⟩, trivial⟩) (⟨⟨_, _, rfl, rfl, rfl, rfl, id, rfl⟩, ⟨_, _, rfl, rfl, rfl, rfl, (fun h => by cases h), rfl⟩, trivial⟩) (⟨⟨500, _, rfl, rfl, rfl, rfl, .inr ⟨rfl, _, rfl, rfl⟩⟩, trivial⟩) (⟨(fun _ => ⟨510, _, rfl, rfl⟩), (fun h => by cases h), trivial⟩) rfl) trivial rfl ?_
 refine .a (op_call (U := [(500, some ⟨.agg [.ptr 500 0, .sl 1008 0 (n + (ss.getD so []).length) 1], 80, true⟩), (1008, some ⟨.aggB (l ++ (ss.getD so [])), 5, true⟩), (501, none)]) [(500, 500), (501, 501)] [(1008, 1000)] (raw2_ev (ss.getD so []) (by omega) (l) (n) (by first | exact hn | (simp [length_numB, length_lenB, length_textB]; done) | (simp [length_numB, length_lenB, length_textB]; omega) | omega | decide +kernel) (by omega)) Tryz.func63 (by kernel_rfl) rfl rfl rfl (⟨⟨_, rfl, rfl, rfl⟩, ⟨_, rfl, rfl, rfl⟩, trivial⟩) (⟨⟨_, _, rfl, rfl, rfl, rfl, id, rfl⟩, ⟨_, _, rfl, rfl, rfl, rfl, id, rfl⟩, trivial⟩) (⟨⟨500, _, rfl, rfl, rfl, rfl, .inr ⟨rfl, _, rfl, rfl⟩⟩, ⟨1000, _, rfl, rfl, rfl, rfl, .inl rfl⟩, trivial⟩) (⟨(fun _ => ⟨500, _, rfl, rfl⟩), (fun _ => ⟨501, _, rfl, rfl⟩), trivial⟩) rfl) trivial rfl ?_
 refine .nil ?_
 show Ev _ _ _ _ _
 refine .exit ?_
 show RetOk _ _ _ _ _ _ _
 exact ret0 rfl (.inr rfl) ⟨(by first | rfl | (simp only [Nat.add_assoc]; rfl)), (by first | rfl | (simp only [List.append_assoc, textB]; rfl)), rfl, rfl, trivial⟩
set_option maxRecDepth 100000 in
theorem puts_S (k : Int) (so ns : Nat) (ss : List (List UInt8)) (hi : so < ss.length) (hx : (ss.getD so []).length ≤ 40000)  (l : List UInt8) (n : Nat) (hn : n = l.length) (h : n ≤ 500000000) : Meets Tryz.prog 33 [.ptr 500 0, .u8 115, .ptr 510 0] [(500, some ⟨.agg [.ptr 500 0, .sl 501 0 (n) 1], 80, true⟩), (501, some ⟨.aggB l, 5, true⟩), (510, some ⟨.agg [.i64 (k), .nilsl, .sl 512 (so) (ns + 1) 1, .nilsl, .nilsl], 47, true⟩), (512, some ⟨.aggS ss, 9, false⟩)] (.tup []) [(500, some ⟨.agg [.ptr 500 0, .sl 1016 0 (n + (4 + (ss.getD so []).length)) 1], 80, true⟩), (1016, some ⟨.aggB (l ++ textB (ss.getD so [])), 5, true⟩), (510, some ⟨.agg [.i64 (k), .nilsl, .sl 512 (so + 1) (ns) 1, .nilsl, .nilsl], 47, true⟩), (512, some ⟨.aggS ss, 9, false⟩)] := by
 refine meets_of_ev (nt := 52) Tryz.func33 rfl rfl (Nat.le_of_ble_eq_true rfl) ?_
 refine .seq ?_
 refine .region ?_
 refine .q (op_move rfl) trivial rfl ?_
 refine .nil ?_
 show Ev _ _ _ _ _
 refine .block ?_
 refine .seq ?_
 refine .block ?_
 refine .seq ?_
 refine .block ?_
 refine .seq ?_
 refine .block ?_
 refine .seq ?_
 refine .block ?_
 refine .seq ?_
 refine .block ?_
 refine .seq ?_
 refine .seq ?_
 refine .seq ?_
 refine .region ?_
 refine .q (op_bin8 rfl rfl rfl) trivial rfl ?_
 refine .q (op_assign rfl) trivial rfl ?_
 refine .nil ?_
 show Ev _ _ _ _ _
 refine .cond_false rfl (rfl) ?_
 refine .skip ?_
 show Ev _ _ _ _ _
 refine .seq ?_
 refine .seq ?_
 refine .region ?_
 refine .q (op_bin8 rfl rfl rfl) trivial rfl ?_
 refine .q (op_assign rfl) trivial rfl ?_
 refine .nil ?_
 show Ev _ _ _ _ _
 refine .cond_false rfl (rfl) ?_
 refine .skip ?_
 show Ev _ _ _ _ _
 refine .seq ?_
 refine .seq ?_
 refine .region ?_
 refine .q (op_bin8 rfl rfl rfl) trivial rfl ?_
 refine .q (op_assign rfl) trivial rfl ?_
 refine .nil ?_
 show Ev _ _ _ _ _
 refine .cond_false rfl (rfl) ?_
 refine .skip ?_
 show Ev _ _ _ _ _
 refine .seq ?_
 refine .seq ?_
 refine .region ?_
 refine .q (op_bin8 rfl rfl rfl) trivial rfl ?_
 refine .q (op_assign rfl) trivial rfl ?_
 refine .nil ?_
 show Ev _ _ _ _ _
 refine .cond_true rfl (rfl) ?_
 refine .exit ?_
 show Ev _ _ _ _ _
 refine .region ?_
 refine .q (op_move rfl) trivial rfl ?_
 refine .q (op_move rfl) trivial rfl ?_
 refine .q (op_nilCheck rfl) trivial rfl ?_
 refine .q (op_fieldAddr (m := 0) Tryz.underlying47 rfl (by kernel_rfl) rfl) trivial rfl ?_
 refine .as (.ptr 510 2) rfl ?_
 refine .q (op_load Tryz.underlying36 rfl rfl rfl rfl (by first | omega | (simp only [AV.len]; omega) | (simp only [AV.len]; omega) | assumption | (simp [AV.len]; done))) trivial rfl ?_
 refine .q (ap_idx Tryz.underlying36 inf9.sz rfl rfl (show (0 : Int) = ((0 : Nat) : Int) from rfl) (by omega)) trivial rfl ?_
 refine .q (op_load Tryz.underlying9 rfl rfl rfl rfl (hi)) trivial rfl ?_
 refine .as (.str (ss.getD so [])) rfl ?_
 refine .q (op_len_str Tryz.underlying9 rfl) trivial rfl ?_
 refine .q (op_conv Tryz.underlying3 Tryz.underlying42 rfl rfl) trivial rfl ?_
 refine .a (op_call (U := [(500, some ⟨.agg [.ptr 500 0, .sl 1000 0 (n + 4) 1], 80, true⟩), (1000, some ⟨.aggB (l ++ lenB (ss.getD so [])), 5, true⟩), (501, none)]) [(500, 500), (501, 501)] [(1000, 1000)] (u322_ev (ofI32 ((ss.getD so []).length : Int)) (l) (n) (by first | exact hn | (simp [length_numB, length_lenB, length_textB]; done) | (simp [length_numB, length_lenB, length_textB]; omega) | omega | decide +kernel) (by omega)) Tryz.func57 (by kernel_rfl) rfl rfl rfl (⟨⟨_, rfl, rfl, rfl⟩, ⟨_, rfl, rfl, rfl⟩, trivial⟩) (⟨⟨_, _, rfl, rfl, rfl, rfl, id, rfl⟩, ⟨_, _, rfl, rfl, rfl, rfl, id, rfl⟩, trivial⟩) (⟨⟨500, _, rfl, rfl, rfl, rfl, .inr ⟨rfl, _, rfl, rfl⟩⟩, ⟨1000, _, rfl, rfl, rfl, rfl, .inl rfl⟩, trivial⟩) (⟨(fun _ => ⟨500, _, rfl, rfl⟩), (fun _ => ⟨501, _, rfl, rfl⟩), trivial⟩) rfl) trivial rfl ?_
 refine .nil ?_
 show Ev _ _ _ _ _
 refine .seq ?_
 refine .region ?_
 refine .q (op_move rfl) trivial rfl ?_
 refine .q (op_move rfl) trivial rfl ?_
 refine .q (op_nilCheck rfl) trivial rfl ?_
 refine .q (op_fieldAddr (m := 0) Tryz.underlying47 rfl (by kernel_rfl) rfl) trivial rfl ?_
 refine .as (.ptr 510 2) rfl ?_
 refine .a (op_call (U := [(510, some ⟨.agg [.i64 (k), .nilsl, .sl 512 (so + 1) (ns) 1, .nilsl, .nilsl], 47, true⟩)]) [(500, 510), (512, 512)] [] (nextS_S k so ns ss hi) Tryz.func64 (by kernel_rfl) rfl rfl rfl (⟨⟨_, rfl, rfl, rfl⟩, trivial⟩) (⟨⟨_, _, rfl, rfl, rfl, rfl, id, rfl⟩, ⟨_, _, rfl, rfl, rfl, rfl, (fun h => by cases h), rfl⟩, trivial⟩) (⟨⟨500, _, rfl, rfl, rfl, rfl, .inr ⟨rfl, _, rfl, rfl⟩⟩, trivial⟩) (⟨(fun _ => ⟨510, _, rfl, rfl⟩), (fun h => by cases h), trivial⟩) rfl) trivial rfl ?_
 refine .a (op_call (U := [(500, some ⟨.agg [.ptr 500 0, .sl 1016 0 (n + 4 + (ss.getD so []).length) 1], 80, true⟩), (1016, some ⟨.aggB ((l ++ lenB (ss.getD so [])) ++ (ss.getD so [])), 5, true⟩), (1000, none)]) [(500, 500), (501, 1000)] [(1016, 1000)] (raw2_ev (ss.getD so []) (by omega) ((l ++ lenB (ss.getD so []))) (n + 4) (by first | exact hn | (simp [length_lenB]; done) | (simp [length_lenB]; omega) | omega | decide +kernel) (by omega)) Tryz.func63 (by kernel_rfl) rfl rfl rfl (⟨⟨_, rfl, rfl, rfl⟩, ⟨_, rfl, rfl, rfl⟩, trivial⟩) (⟨⟨_, _, rfl, rfl, rfl, rfl, id, rfl⟩, ⟨_, _, rfl, rfl, rfl, rfl, id, rfl⟩, trivial⟩) (⟨⟨500, _, rfl, rfl, rfl, rfl, .inr ⟨rfl, _, rfl, rfl⟩⟩, ⟨1000, _, rfl, rfl, rfl, rfl, .inl rfl⟩, trivial⟩) (⟨(fun _ => ⟨500, _, rfl, rfl⟩), (fun _ => ⟨1000, _, rfl, rfl⟩), trivial⟩) rfl) trivial rfl ?_
 refine .nil ?_
 show Ev _ _ _ _ _
 refine .exit ?_
 show RetOk _ _ _ _ _ _ _
 exact ret0 rfl (.inr rfl) ⟨(by first | rfl | (simp only [Nat.add_assoc]; rfl)), (by first | rfl | (simp only [List.append_assoc, textB]; rfl)), rfl, rfl, trivial⟩
set_option maxRecDepth 100000 in
theorem puts_US (k : Int) (uo nu so ns : Nat) (ss : List (List UInt8)) (hi : so < ss.length) (hx : (ss.getD so []).length ≤ 40000)  (l : List UInt8) (n : Nat) (hn : n = l.length) (h : n ≤ 500000000) : Meets Tryz.prog 33 [.ptr 500 0, .u8 115, .ptr 510 0] [(500, some ⟨.agg [.ptr 500 0, .sl 501 0 (n) 1], 80, true⟩), (501, some ⟨.aggB l, 5, true⟩), (510, some ⟨.agg [.i64 (k), .sl 511 (uo) (nu) 1, .sl 512 (so) (ns + 1) 1, .nilsl, .nilsl], 47, true⟩), (512, some ⟨.aggS ss, 9, false⟩)] (.tup []) [(500, some ⟨.agg [.ptr 500 0, .sl 1016 0 (n + (4 + (ss.getD so []).length)) 1], 80, true⟩), (1016, some ⟨.aggB (l ++ textB (ss.getD so [])), 5, true⟩), (510, some ⟨.agg [.i64 (k), .sl 511 (uo) (nu) 1, .sl 512 (so + 1) (ns) 1, .nilsl, .nilsl], 47, true⟩), (512, some ⟨.aggS ss, 9, false⟩)] := by
 refine meets_of_ev (nt := 52) Tryz.func33 rfl rfl (Nat.le_of_ble_eq_true rfl) ?_
 refine .seq ?_
 refine .region ?_
 refine .q (op_move rfl) trivial rfl ?_
 refine .nil ?_
 show Ev _ _ _ _ _
 refine .block ?_
 refine .seq ?_
 refine .block ?_
 refine .seq ?_
 refine .block ?_
 refine .seq ?_
 refine .block ?_
 refine .seq ?_
 refine .block ?_
 refine .seq ?_
 refine .block ?_
 refine .seq ?_
 refine .seq ?_
 refine .seq ?_
 refine .region ?_
 refine .q (op_bin8 rfl rfl rfl) trivial rfl ?_
 refine .q (op_assign rfl) trivial rfl ?_
 refine .nil ?_
 show Ev _ _ _ _ _
 refine .cond_false rfl (rfl) ?_
 refine .skip ?_
 show Ev _ _ _ _ _
 refine .seq ?_
 refine .seq ?_
 refine .region ?_
 refine .q (op_bin8 rfl rfl rfl) trivial rfl ?_
 refine .q (op_assign rfl) trivial rfl ?_
 refine .nil ?_
 show Ev _ _ _ _ _
 refine .cond_false rfl (rfl) ?_
 refine .skip ?_
 show Ev _ _ _ _ _
 refine .seq ?_
 refine .seq ?_
 refine .region ?_
 refine .q (op_bin8 rfl rfl rfl) trivial rfl ?_
 refine .q (op_assign rfl) trivial rfl ?_
 refine .nil ?_
 show Ev _ _ _ _ _
 refine .cond_false rfl (rfl) ?_
 refine .skip ?_
 show Ev _ _ _ _ _
 refine .seq ?_
 refine .seq ?_
 refine .region ?_
 refine .q (op_bin8 rfl rfl rfl) trivial rfl ?_
 refine .q (op_assign rfl) trivial rfl ?_
 refine .nil ?_
 show Ev _ _ _ _ _
 refine .cond_true rfl (rfl) ?_
 refine .exit ?_
 show Ev _ _ _ _ _
 refine .region ?_
 refine .q (op_move rfl) trivial rfl ?_
 refine .q (op_move rfl) trivial rfl ?_
 refine .q (op_nilCheck rfl) trivial rfl ?_
 refine .q (op_fieldAddr (m := 0) Tryz.underlying47 rfl (by kernel_rfl) rfl) trivial rfl ?_
 refine .as (.ptr 510 2) rfl ?_
 refine .q (op_load Tryz.underlying36 rfl rfl rfl rfl (by first | omega | (simp only [AV.len]; omega) | (simp only [AV.len]; omega) | assumption | (simp [AV.len]; done))) trivial rfl ?_
 refine .q (ap_idx Tryz.underlying36 inf9.sz rfl rfl (show (0 : Int) = ((0 : Nat) : Int) from rfl) (by omega)) trivial rfl ?_
 refine .q (op_load Tryz.underlying9 rfl rfl rfl rfl (hi)) trivial rfl ?_
 refine .as (.str (ss.getD so [])) rfl ?_
 refine .q (op_len_str Tryz.underlying9 rfl) trivial rfl ?_
 refine .q (op_conv Tryz.underlying3 Tryz.underlying42 rfl rfl) trivial rfl ?_
 refine .a (op_call (U := [(500, some ⟨.agg [.ptr 500 0, .sl 1000 0 (n + 4) 1], 80, true⟩), (1000, some ⟨.aggB (l ++ lenB (ss.getD so [])), 5, true⟩), (501, none)]) [(500, 500), (501, 501)] [(1000, 1000)] (u322_ev (ofI32 ((ss.getD so []).length : Int)) (l) (n) (by first | exact hn | (simp [length_numB, length_lenB, length_textB]; done) | (simp [length_numB, length_lenB, length_textB]; omega) | omega | decide +kernel) (by omega)) Tryz.func57 (by kernel_rfl) rfl rfl rfl (⟨⟨_, rfl, rfl, rfl⟩, ⟨_, rfl, rfl, rfl⟩, trivial⟩) (⟨⟨_, _, rfl, rfl, rfl, rfl, id, rfl⟩, ⟨_, _, rfl, rfl, rfl, rfl, id, rfl⟩, trivial⟩) (⟨⟨500, _, rfl, rfl, rfl, rfl, .inr ⟨rfl, _, rfl, rfl⟩⟩, ⟨1000, _, rfl, rfl, rfl, rfl, .inl rfl⟩, trivial⟩) (⟨(fun _ => ⟨500, _, rfl, rfl⟩), (fun _ => ⟨501, _, rfl, rfl⟩), trivial⟩) rfl) trivial rfl ?_
 refine .nil ?_
 show Ev _ _ _ _ _
 refine .seq ?_
 refine .region ?_
 refine .q (op_move rfl) trivial rfl ?_
 refine .q (op_move rfl) trivial rfl ?_
 refine .q (op_nilCheck rfl) trivial rfl ?_
 refine .q (op_fieldAddr (m := 0) Tryz.underlying47 rfl (by kernel_rfl) rfl) trivial rfl ?_
 refine .as (.ptr 510 2) rfl ?_
 refine .a (op_call (U := [(510, some ⟨.agg [.i64 (k), .sl 511 (uo) (nu) 1, .sl 512 (so + 1) (ns) 1, .nilsl, .nilsl], 47, true⟩)]) [(500, 510), (511, 511), (512, 512)] [] (nextS_US k uo nu so ns ss hi) Tryz.func64 (by kernel_rfl) rfl rfl rfl (⟨⟨_, rfl, rfl, rfl⟩, trivial⟩) (⟨⟨_, _, rfl, rfl, rfl, rfl, id, rfl⟩, ⟨_, _, rfl, rfl, rfl, rfl, (fun h => by cases h), rfl⟩, trivial⟩) (⟨⟨500, _, rfl, rfl, rfl, rfl, .inr ⟨rfl, _, rfl, rfl⟩⟩, trivial⟩) (⟨(fun _ => ⟨510, _, rfl, rfl⟩), (fun h => by cases h), trivial⟩) rfl) trivial rfl ?_
 refine .a (op_call (U := [(500, some ⟨.agg [.ptr 500 0, .sl 1016 0 (n + 4 + (ss.getD so []).length) 1], 80, true⟩), (1016, some ⟨.aggB ((l ++ lenB (ss.getD so [])) ++ (ss.getD so [])), 5, true⟩), (1000, none)]) [(500, 500), (501, 1000)] [(1016, 1000)] (raw2_ev (ss.getD so []) (by omega) ((l ++ lenB (ss.getD so []))) (n + 4) (by first | exact hn | (simp [length_lenB]; done) | (simp [length_lenB]; omega) | omega | decide +kernel) (by omega)) Tryz.func63 (by kernel_rfl) rfl rfl rfl (⟨⟨_, rfl, rfl, rfl⟩, ⟨_, rfl, rfl, rfl⟩, trivial⟩) (⟨⟨_, _, rfl, rfl, rfl, rfl, id, rfl⟩, ⟨_, _, rfl, rfl, rfl, rfl, id, rfl⟩, trivial⟩) (⟨⟨500, _, rfl, rfl, rfl, rfl, .inr ⟨rfl, _, rfl, rfl⟩⟩, ⟨1000, _, rfl, rfl, rfl, rfl, .inl rfl⟩, trivial⟩) (⟨(fun _ => ⟨500, _, rfl, rfl⟩), (fun _ => ⟨1000, _, rfl, rfl⟩), trivial⟩) rfl) trivial rfl ?_
 refine .nil ?_
 show Ev _ _ _ _ _
 refine .exit ?_
 show RetOk _ _ _ _ _ _ _
 exact ret0 rfl (.inr rfl) ⟨(by first | rfl | (simp only [Nat.add_assoc]; rfl)), (by first | rfl | (simp only [List.append_assoc, textB]; rfl)), rfl, rfl, trivial⟩
set_option maxRecDepth 100000 in
theorem putu_US (k : Int) (uo nu so ns : Nat) (us : List UInt32) (hi : uo < us.length)  (l : List UInt8) (n : Nat) (hn : n = l.length) (h : n ≤ 500000000) : Meets Tryz.prog 33 [.ptr 500 0, .u8 117, .ptr 510 0] [(500, some ⟨.agg [.ptr 500 0, .sl 501 0 (n) 1], 80, true⟩), (501, some ⟨.aggB l, 5, true⟩), (510, some ⟨.agg [.i64 (k), .sl 511 (uo) (nu + 1) 1, .sl 512 (so) (ns) 1, .nilsl, .nilsl], 47, true⟩), (511, some ⟨.agg32 us, 42, false⟩)] (.tup []) [(500, some ⟨.agg [.ptr 500 0, .sl 1008 0 (n + 4) 1], 80, true⟩), (1008, some ⟨.aggB (l ++ numB (us.getD uo 0).toUInt64 4 4), 5, true⟩), (510, some ⟨.agg [.i64 (k), .sl 511 (uo + 1) (nu) 1, .sl 512 (so) (ns) 1, .nilsl, .nilsl], 47, true⟩), (511, some ⟨.agg32 us, 42, false⟩)] := by
 refine meets_of_ev (nt := 52) Tryz.func33 rfl rfl (Nat.le_of_ble_eq_true rfl) ?_
 refine .seq ?_
 refine .region ?_
 refine .q (op_move rfl) trivial rfl ?_
 refine .nil ?_
 show Ev _ _ _ _ _
 refine .block ?_
 refine .seq ?_
 refine .block ?_
 refine .seq ?_
 refine .block ?_
 refine .seq ?_
 refine .block ?_
 refine .seq ?_
 refine .block ?_
 refine .seq ?_
 refine .block ?_
 refine .seq ?_
 refine .seq ?_
 refine .seq ?_
 refine .region ?_
 refine .q (op_bin8 rfl rfl rfl) trivial rfl ?_
 refine .q (op_assign rfl) trivial rfl ?_
 refine .nil ?_
 show Ev _ _ _ _ _
 refine .cond_true rfl (rfl) ?_
 refine .exit ?_
 show Ev _ _ _ _ _
 refine .seq ?_
 refine .region ?_
 refine .q (op_move rfl) trivial rfl ?_
 refine .q (op_move rfl) trivial rfl ?_
 refine .q (op_nilCheck rfl) trivial rfl ?_
 refine .q (op_fieldAddr (m := 0) Tryz.underlying47 rfl (by kernel_rfl) rfl) trivial rfl ?_
 refine .as (.ptr 510 1) rfl ?_
 refine .a (op_call (U := [(510, some ⟨.agg [.i64 (k), .sl 511 (uo + 1) (nu) 1, .sl 512 (so) (ns) 1, .nilsl, .nilsl], 47, true⟩)]) [(500, 510), (511, 511), (512, 512)] [] (nextU_US k uo nu so ns us hi) Tryz.func58 (by kernel_rfl) rfl rfl rfl (⟨⟨_, rfl, rfl, rfl⟩, trivial⟩) (⟨⟨_, _, rfl, rfl, rfl, rfl, id, rfl⟩, ⟨_, _, rfl, rfl, rfl, rfl, (fun h => by cases h), rfl⟩, trivial⟩) (⟨⟨500, _, rfl, rfl, rfl, rfl, .inr ⟨rfl, _, rfl, rfl⟩⟩, trivial⟩) (⟨(fun _ => ⟨510, _, rfl, rfl⟩), (fun h => by cases h), trivial⟩) rfl) trivial rfl ?_
 refine .a (op_call (U := [(500, some ⟨.agg [.ptr 500 0, .sl 1008 0 (n + 4) 1], 80, true⟩), (1008, some ⟨.aggB (l ++ numB (us.getD uo 0).toUInt64 4 4), 5, true⟩), (501, none)]) [(500, 500), (501, 501)] [(1008, 1000)] (u322_ev (us.getD uo 0) (l) (n) (by first | exact hn | (simp [length_numB, length_lenB, length_textB]; done) | (simp [length_numB, length_lenB, length_textB]; omega) | omega | decide +kernel) (by omega)) Tryz.func57 (by kernel_rfl) rfl rfl rfl (⟨⟨_, rfl, rfl, rfl⟩, ⟨_, rfl, rfl, rfl⟩, trivial⟩) (⟨⟨_, _, rfl, rfl, rfl, rfl, id, rfl⟩, ⟨_, _, rfl, rfl, rfl, rfl, id, rfl⟩, trivial⟩) (⟨⟨500, _, rfl, rfl, rfl, rfl, .inr ⟨rfl, _, rfl, rfl⟩⟩, ⟨1000, _, rfl, rfl, rfl, rfl, .inl rfl⟩, trivial⟩) (⟨(fun _ => ⟨500, _, rfl, rfl⟩), (fun _ => ⟨501, _, rfl, rfl⟩), trivial⟩) rfl) trivial rfl ?_
 refine .nil ?_
 show Ev _ _ _ _ _
 refine .exit ?_
 show RetOk _ _ _ _ _ _ _
 exact ret0 rfl (.inr rfl) ⟨(by first | rfl | (simp only [Nat.add_assoc]; rfl)), (by first | rfl | (simp only [List.append_assoc, textB]; rfl)), rfl, rfl, trivial⟩
set_option maxRecDepth 100000 in
theorem putb_USB (k : Int) (uo nu so ns bo nb : Nat) (bs : List Bool) (hi : bo < bs.length)  (l : List UInt8) (n : Nat) (hn : n = l.length) (h : n ≤ 500000000) : Meets Tryz.prog 33 [.ptr 500 0, .u8 98, .ptr 510 0] [(500, some ⟨.agg [.ptr 500 0, .sl 501 0 (n) 1], 80, true⟩), (501, some ⟨.aggB l, 5, true⟩), (510, some ⟨.agg [.i64 (k), .sl 511 (uo) (nu) 1, .sl 512 (so) (ns) 1, .nilsl, .sl 514 (bo) (nb + 1) 1], 47, true⟩), (514, some ⟨.aggT bs, 4, false⟩)] (.tup []) [(500, some ⟨.agg [.ptr 500 0, .sl 1008 0 (n + 1) 1], 80, true⟩), (1008, some ⟨.aggB (l ++ boolB (bs.getD bo false)), 5, true⟩), (510, some ⟨.agg [.i64 (k), .sl 511 (uo) (nu) 1, .sl 512 (so) (ns) 1, .nilsl, .sl 514 (bo + 1) (nb) 1], 47, true⟩), (514, some ⟨.aggT bs, 4, false⟩)] := by
 refine meets_of_ev (nt := 52) Tryz.func33 rfl rfl (Nat.le_of_ble_eq_true rfl) ?_
 refine .seq ?_
 refine .region ?_
 refine .q (op_move rfl) trivial rfl ?_
 refine .nil ?_
 show Ev _ _ _ _ _
 refine .block ?_
 refine .seq ?_
 refine .block ?_
 refine .seq ?_
 refine .block ?_
 refine .seq ?_
 refine .block ?_
 refine .seq ?_
 refine .block ?_
 refine .seq ?_
 refine .block ?_
 refine .seq ?_
 refine .seq ?_
 refine .seq ?_
 refine .region ?_
 refine .q (op_bin8 rfl rfl rfl) trivial rfl ?_
 refine .q (op_assign rfl) trivial rfl ?_
 refine .nil ?_
 show Ev _ _ _ _ _
 refine .cond_false rfl (rfl) ?_
 refine .skip ?_
 show Ev _ _ _ _ _
 refine .seq ?_
 refine .seq ?_
 refine .region ?_
 refine .q (op_bin8 rfl rfl rfl) trivial rfl ?_
 refine .q (op_assign rfl) trivial rfl ?_
 refine .nil ?_
 show Ev _ _ _ _ _
 refine .cond_true rfl (rfl) ?_
 refine .exit ?_
 show Ev _ _ _ _ _
 refine .seq ?_
 refine .region ?_
 refine .q (op_move rfl) trivial rfl ?_
 refine .q (op_move rfl) trivial rfl ?_
 refine .q (op_nilCheck rfl) trivial rfl ?_
 refine .q (op_fieldAddr (m := 0) Tryz.underlying47 rfl (by kernel_rfl) rfl) trivial rfl ?_
 refine .as (.ptr 510 4) rfl ?_
 refine .a (op_call (U := [(510, some ⟨.agg [.i64 (k), .sl 511 (uo) (nu) 1, .sl 512 (so) (ns) 1, .nilsl, .sl 514 (bo + 1) (nb) 1], 47, true⟩)]) [(500, 510), (511, 511), (512, 512), (514, 514)] [] (nextB_USB k uo nu so ns bo nb bs hi) Tryz.func60 (by kernel_rfl) rfl rfl rfl (⟨⟨_, rfl, rfl, rfl⟩, trivial⟩) (⟨⟨_, _, rfl, rfl, rfl, rfl, id, rfl⟩, ⟨_, _, rfl, rfl, rfl, rfl, (fun h => by cases h), rfl⟩, trivial⟩) (⟨⟨500, _, rfl, rfl, rfl, rfl, .inr ⟨rfl, _, rfl, rfl⟩⟩, trivial⟩) (⟨(fun _ => ⟨510, _, rfl, rfl⟩), (fun h => by cases h), trivial⟩) rfl) trivial rfl ?_
 refine .a (op_call (U := [(500, some ⟨.agg [.ptr 500 0, .sl 1008 0 (n + 1) 1], 80, true⟩), (1008, some ⟨.aggB (l ++ boolB (bs.getD bo false)), 5, true⟩), (501, none)]) [(500, 500), (501, 501)] [(1008, 1000)] (bool2_ev (bs.getD bo false) (l) (n) (by first | exact hn | (simp [length_numB, length_lenB, length_textB]; done) | (simp [length_numB, length_lenB, length_textB]; omega) | omega | decide +kernel) (by omega)) Tryz.func59 (by kernel_rfl) rfl rfl rfl (⟨⟨_, rfl, rfl, rfl⟩, ⟨_, rfl, rfl, rfl⟩, trivial⟩) (⟨⟨_, _, rfl, rfl, rfl, rfl, id, rfl⟩, ⟨_, _, rfl, rfl, rfl, rfl, id, rfl⟩, trivial⟩) (⟨⟨500, _, rfl, rfl, rfl, rfl, .inr ⟨rfl, _, rfl, rfl⟩⟩, ⟨1000, _, rfl, rfl, rfl, rfl, .inl rfl⟩, trivial⟩) (⟨(fun _ => ⟨500, _, rfl, rfl⟩), (fun _ => ⟨501, _, rfl, rfl⟩), trivial⟩) rfl) trivial rfl ?_
 refine .nil ?_
 show Ev _ _ _ _ _
 refine .exit ?_
 show RetOk _ _ _ _ _ _ _
 exact ret0 rfl (.inr rfl) ⟨(by first | rfl | (simp only [Nat.add_assoc]; rfl)), (by first | rfl | (simp only [List.append_assoc, textB]; rfl)), rfl, rfl, trivial⟩
set_option maxRecDepth 100000 in
theorem putr_USB (k : Int) (uo nu so ns bo nb : Nat) (ss : List (List UInt8)) (hi : so < ss.length) (hx : (ss.getD so []).length ≤ 40000)  (l : List UInt8) (n : Nat) (hn : n = l.length) (h : n ≤ 500000000) : Meets Tryz.prog 33 [.ptr 500 0, .u8 114, .ptr 510 0] [(500, some ⟨.agg [.ptr 500 0, .sl 501 0 (n) 1], 80, true⟩), (501, some ⟨.aggB l, 5, true⟩), (510, some ⟨.agg [.i64 (k), .sl 511 (uo) (nu) 1, .sl 512 (so) (ns + 1) 1, .nilsl, .sl 514 (bo) (nb) 1], 47, true⟩), (512, some ⟨.aggS ss, 9, false⟩)] (.tup []) [(500, some ⟨.agg [.ptr 500 0, .sl 1008 0 (n + (ss.getD so []).length) 1], 80, true⟩), (1008, some ⟨.aggB (l ++ (ss.getD so [])), 5, true⟩), (510, some ⟨.agg [.i64 (k), .sl 511 (uo) (nu) 1, .sl 512 (so + 1) (ns) 1, .nilsl, .sl 514 (bo) (nb) 1], 47, true⟩), (512, some ⟨.aggS ss, 9, false⟩)] := by
 refine meets_of_ev (nt := 52) Tryz.func33 rfl rfl (Nat.le_of_ble_eq_true rfl) ?_
 refine .seq ?_
 refine .region ?_
 refine .q (op_move rfl) trivial rfl ?_
 refine .nil ?_
 show Ev _ _ _ _ _
 refine .block ?_
 refine .seq ?_
 refine .block ?_
 refine .seq ?_
 refine .block ?_
 refine .seq ?_
 refine .block ?_
 refine .seq ?_
 refine .block ?_
 refine .seq ?_
 refine .block ?_
 refine .seq ?_
 refine .seq ?_
 refine .seq ?_
 refine .region ?_
 refine .q (op_bin8 rfl rfl rfl) trivial rfl ?_
 refine .q (op_assign rfl) trivial rfl ?_
 refine .nil ?_
 show Ev _ _ _ _ _
 refine .cond_false rfl (rfl) ?_
 refine .skip ?_
 show Ev _ _ _ _ _
 refine .seq ?_
 refine .seq ?_
 refine .region ?_
 refine .q (op_bin8 rfl rfl rfl) trivial rfl ?_
 refine .q (op_assign rfl) trivial rfl ?_
 refine .nil ?_
 show Ev _ _ _ _ _
 refine .cond_false rfl (rfl) ?_
 refine .skip ?_
 show Ev _ _ _ _ _
 refine .seq ?_
 refine .seq ?_
 refine .region ?_
 refine .q (op_bin8 rfl rfl rfl) trivial rfl ?_
 refine .q (op_assign rfl) trivial rfl ?_
 refine .nil ?_
 show Ev _ _ _ _ _
 refine .cond_false rfl (rfl) ?_
 refine .skip ?_
 show Ev _ _ _ _ _
 refine .seq ?_
 refine .seq ?_
 refine .region ?_
 refine .q (op_bin8 rfl rfl rfl) trivial rfl ?_
 refine .q (op_assign rfl) trivial rfl ?_
 refine .nil ?_
 show Ev _ _ _ _ _
 refine .cond_false rfl (rfl) ?_
 refine .skip ?_
 show Ev _ _ _ _ _
 refine .seq ?_
 refine .seq ?_
 refine .region ?_
 refine .q (op_bin8 rfl rfl rfl) trivial rfl ?_
 refine .q (op_assign rfl) trivial rfl ?_
 refine .nil ?_
 show Ev _ _ _ _ _
 refine .cond_false rfl (rfl) ?_
 refine .region ?_
 refine .q (op_bin8 rfl rfl rfl) trivial rfl ?_
 refine .q (op_assign rfl) trivial rfl ?_
 refine .nil ?_
 show Ev _ _ _ _ _
 refine .cond_true rfl (rfl) ?_
 refine .exit ?_
 show Ev _ _ _ _ _
 refine .seq ?_
 refine .region ?_
 refine .q (op_move rfl) trivial rfl ?_
 refine .q (op_move rfl) trivial rfl ?_
 refine .q (op_nilCheck rfl) trivial rfl ?_
 refine .q (op_fieldAddr (m := 0) Tryz.underlying47 rfl (by kernel_rfl) rfl) trivial rfl ?_
 refine .as (.ptr 510 2) rfl ?_
 refine .a (op_call (U := [(510, some ⟨.agg [.i64 (k), .sl 511 (uo) (nu) 1, .sl 512 (so + 1) (ns) 1, .nilsl, .sl 514 (bo) (nb) 1], 47, true⟩)]) [(500, 510), (511, 511), (512, 512), (514, 514)] [] (nextS_USB k uo nu so ns bo nb ss hi) Tryz.func64 (by kernel_rfl) rfl rfl rfl (⟨⟨_, rfl, rfl, rfl⟩, trivial⟩) (⟨⟨_, _, rfl, rfl, rfl, rfl, id, rfl⟩, ⟨_, _, rfl, rfl, rfl, rfl, (fun h => by cases h), rfl⟩, trivial⟩) (⟨⟨500, _, rfl, rfl, rfl, rfl, .inr ⟨rfl, _, rfl, rfl⟩⟩, trivial⟩) (⟨(fun _ => ⟨510, _, rfl, rfl⟩), (fun h => by cases h), trivial⟩) rfl) trivial rfl ?_
 refine .a (op_call (U := [(500, some ⟨.agg [.ptr 500 0, .sl 1008 0 (n + (ss.getD so []).length) 1], 80, true⟩), (1008, some ⟨.aggB (l ++ (ss.getD so [])), 5, true⟩), (501, none)]) [(500, 500), (501, 501)] [(1008, 1000)] (raw2_ev (ss.getD so []) (by omega) (l) (n) (by first | exact hn | (simp [length_numB, length_lenB, length_textB]; done) | (simp [length_numB, length_lenB, length_textB]; omega) | omega | decide +kernel) (by omega)) Tryz.func63 (by kernel_rfl) rfl rfl rfl (⟨⟨_, rfl, rfl, rfl⟩, ⟨_, rfl, rfl, rfl⟩, trivial⟩) (⟨⟨_, _, rfl, rfl, rfl, rfl, id, rfl⟩, ⟨_, _, rfl, rfl, rfl, rfl, id, rfl⟩, trivial⟩) (⟨⟨500, _, rfl, rfl, rfl, rfl, .inr ⟨rfl, _, rfl, rfl⟩⟩, ⟨1000, _, rfl, rfl, rfl, rfl, .inl rfl⟩, trivial⟩) (⟨(fun _ => ⟨500, _, rfl, rfl⟩), (fun _ => ⟨501, _, rfl, rfl⟩), trivial⟩) rfl) trivial rfl ?_
 refine .nil ?_
 show Ev _ _ _ _ _
 refine .exit ?_
 show RetOk _ _ _ _ _ _ _
 exact ret0 rfl (.inr rfl) ⟨(by first | rfl | (simp only [Nat.add_assoc]; rfl)), (by first | rfl | (simp only [List.append_assoc, textB]; rfl)), rfl, rfl, trivial⟩
set_option maxRecDepth 100000 in
theorem puts_USB (k : Int) (uo nu so ns bo nb : Nat) (ss : List (List UInt8)) (hi : so < ss.length) (hx : (ss.getD so []).length ≤ 40000)  (l : List UInt8) (n : Nat) (hn : n = l.length) (h : n ≤ 500000000) : Meets Tryz.prog 33 [.ptr 500 0, .u8 115, .ptr 510 0] [(500, some ⟨.agg [.ptr 500 0, .sl 501 0 (n) 1], 80, true⟩), (501, some ⟨.aggB l, 5, true⟩), (510, some ⟨.agg [.i64 (k), .sl 511 (uo) (nu) 1, .sl 512 (so) (ns + 1) 1, .nilsl, .sl 514 (bo) (nb) 1], 47, true⟩), (512, some ⟨.aggS ss, 9, false⟩)] (.tup []) [(500, some ⟨.agg [.ptr 500 0, .sl 1016 0 (n + (4 + (ss.getD so []).length)) 1], 80, true⟩), (1016, some ⟨.aggB (l ++ textB (ss.getD so [])), 5, true⟩), (510, some ⟨.agg [.i64 (k), .sl 511 (uo) (nu) 1, .sl 512 (so + 1) (ns) 1, .nilsl, .sl 514 (bo) (nb) 1], 47, true⟩), (512, some ⟨.aggS ss, 9, false⟩)] := by
 refine meets_of_ev (nt := 52) Tryz.func33 rfl rfl (Nat.le_of_ble_eq_true rfl) ?_
 refine .seq ?_
 refine .region ?_
 refine .q (op_move rfl) trivial rfl ?_
 refine .nil ?_
 show Ev _ _ _ _ _
 refine .block ?_
 refine .seq ?_
 refine .block ?_
 refine .seq ?_
 refine .block ?_
 refine .seq ?_
 refine .block ?_
 refine .seq ?_
 refine .block ?_
 refine .seq ?_
 refine .block ?_
 refine .seq ?_
 refine .seq ?_
 refine .seq ?_
 refine .region ?_
 refine .q (op_bin8 rfl rfl rfl) trivial rfl ?_
 refine .q (op_assign rfl) trivial rfl ?_
 refine .nil ?_
 show Ev _ _ _ _ _
 refine .cond_false rfl (rfl) ?_
 refine .skip ?_
 show Ev _ _ _ _ _
 refine .seq ?_
 refine .seq ?_
 refine .region ?_
 refine .q (op_bin8 rfl rfl rfl) trivial rfl ?_
 refine .q (op_assign rfl) trivial rfl ?_
 refine .nil ?_
 show Ev _ _ _ _ _
 refine .cond_false rfl (rfl) ?_
 refine .skip ?_
 show Ev _ _ _ _ _
 refine .seq ?_
 refine .seq ?_
 refine .region ?_
 refine .q (op_bin8 rfl rfl rfl) trivial rfl ?_
 refine .q (op_assign rfl) trivial rfl ?_
 refine .nil ?_
 show Ev _ _ _ _ _
 refine .cond_false rfl (rfl) ?_
 refine .skip ?_
 show Ev _ _ _ _ _
 refine .seq ?_
 refine .seq ?_
 refine .region ?_
 refine .q (op_bin8 rfl rfl rfl) trivial rfl ?_
 refine .q (op_assign rfl) trivial rfl ?_
 refine .nil ?_
 show Ev _ _ _ _ _
 refine .cond_true rfl (rfl) ?_
 refine .exit ?_
 show Ev _ _ _ _ _
 refine .region ?_
 refine .q (op_move rfl) trivial rfl ?_
 refine .q (op_move rfl) trivial rfl ?_
 refine .q (op_nilCheck rfl) trivial rfl ?_
 refine .q (op_fieldAddr (m := 0) Tryz.underlying47 rfl (by kernel_rfl) rfl) trivial rfl ?_
 refine .as (.ptr 510 2) rfl ?_
 refine .q (op_load Tryz.underlying36 rfl rfl rfl rfl (by first | omega | (simp only [AV.len]; omega) | (simp only [AV.len]; omega) | assumption | (simp [AV.len]; done))) trivial rfl ?_
 refine .q (ap_idx Tryz.underlying36 inf9.sz rfl rfl (show (0 : Int) = ((0 : Nat) : Int) from rfl) (by omega)) trivial rfl ?_
 refine .q (op_load Tryz.underlying9 rfl rfl rfl rfl (hi)) trivial rfl ?_
 refine .as (.str (ss.getD so [])) rfl ?_
 refine .q (op_len_str Tryz.underlying9 rfl) trivial rfl ?_
 refine .q (op_conv Tryz.underlying3 Tryz.underlying42 rfl rfl) trivial rfl ?_
 refine .a (op_call (U := [(500, some ⟨.agg [.ptr 500 0, .sl 1000 0 (n + 4) 1], 80, true⟩), (1000, some ⟨.aggB (l ++ lenB (ss.getD so [])), 5, true⟩), (501, none)]) [(500, 500), (501, 501)] [(1000, 1000)] (u322_ev (ofI32 ((ss.getD so []).length : Int)) (l) (n) (by first | exact hn | (simp [length_numB, length_lenB, length_textB]; done) | (simp [length_numB, length_lenB, length_textB]; omega) | omega | decide +kernel) (by omega)) Tryz.func57 (by kernel_rfl) rfl rfl rfl (⟨⟨_, rfl, rfl, rfl⟩, ⟨_, rfl, rfl, rfl⟩, trivial⟩) (⟨⟨_, _, rfl, rfl, rfl, rfl, id, rfl⟩, ⟨_, _, rfl, rfl, rfl, rfl, id, rfl⟩, trivial⟩) (⟨⟨500, _, rfl, rfl, rfl, rfl, .inr ⟨rfl, _, rfl, rfl⟩⟩, ⟨1000, _, rfl, rfl, rfl, rfl, .inl rfl⟩, trivial⟩) (⟨(fun _ => ⟨500, _, rfl, rfl⟩), (fun _ => ⟨501, _, rfl, rfl⟩), trivial⟩) rfl) trivial rfl ?_
 refine .nil ?_
 show Ev _ _ _ _ _
 refine .seq ?_
 refine .region ?_
 refine .q (op_move rfl) trivial rfl ?_
 refine .q (op_move rfl) trivial rfl ?_
 refine .q (op_nilCheck rfl) trivial rfl ?_
 refine .q (op_fieldAddr (m := 0) Tryz.underlying47 rfl (by kernel_rfl) rfl) trivial rfl ?_
 refine .as (.ptr 510 2) rfl ?_
 refine .a (op_call (U := [(510, some ⟨.agg [.i64 (k), .sl 511 (uo) (nu) 1, .sl 512 (so + 1) (ns) 1, .nilsl, .sl 514 (bo) (nb) 1], 47, true⟩)]) [(500, 510), (511, 511), (512, 512), (514, 514)] [] (nextS_USB k uo nu so ns bo nb ss hi) Tryz.func64 (by kernel_rfl) rfl rfl rfl (⟨⟨_, rfl, rfl, rfl⟩, trivial⟩) (⟨⟨_, _, rfl, rfl, rfl, rfl, id, rfl⟩, ⟨_, _, rfl, rfl, rfl, rfl, (fun h => by cases h), rfl⟩, trivial⟩) (⟨⟨500, _, rfl, rfl, rfl, rfl, .inr ⟨rfl, _, rfl, rfl⟩⟩, trivial⟩) (⟨(fun _ => ⟨510, _, rfl, rfl⟩), (fun h => by cases h), trivial⟩) rfl) trivial rfl ?_
 refine .a (op_call (U := [(500, some ⟨.agg [.ptr 500 0, .sl 1016 0 (n + 4 + (ss.getD so []).length) 1], 80, true⟩), (1016, some ⟨.aggB ((l ++ lenB (ss.getD so [])) ++ (ss.getD so [])), 5, true⟩), (1000, none)]) [(500, 500), (501, 1000)] [(1016, 1000)] (raw2_ev (ss.getD so []) (by omega) ((l ++ lenB (ss.getD so []))) (n + 4) (by first | exact hn | (simp [length_lenB]; done) | (simp [length_lenB]; omega) | omega | decide +kernel) (by omega)) Tryz.func63 (by kernel_rfl) rfl rfl rfl (⟨⟨_, rfl, rfl, rfl⟩, ⟨_, rfl, rfl, rfl⟩, trivial⟩) (⟨⟨_, _, rfl, rfl, rfl, rfl, id, rfl⟩, ⟨_, _, rfl, rfl, rfl, rfl, id, rfl⟩, trivial⟩) (⟨⟨500, _, rfl, rfl, rfl, rfl, .inr ⟨rfl, _, rfl, rfl⟩⟩, ⟨1000, _, rfl, rfl, rfl, rfl, .inl rfl⟩, trivial⟩) (⟨(fun _ => ⟨500, _, rfl, rfl⟩), (fun _ => ⟨1000, _, rfl, rfl⟩), trivial⟩) rfl) trivial rfl ?_
 refine .nil ?_
 show Ev _ _ _ _ _
 refine .exit ?_
 show RetOk _ _ _ _ _ _ _
 exact ret0 rfl (.inr rfl) ⟨(by first | rfl | (simp only [Nat.add_assoc]; rfl)), (by first | rfl | (simp only [List.append_assoc, textB]; rfl)), rfl, rfl, trivial⟩
set_option maxRecDepth 100000 in
theorem putu_USB (k : Int) (uo nu so ns bo nb : Nat) (us : List UInt32) (hi : uo < us.length)  (l : List UInt8) (n : Nat) (hn : n = l.length) (h : n ≤ 500000000) : Meets Tryz.prog 33 [.ptr 500 0, .u8 117, .ptr 510 0] [(500, some ⟨.agg [.ptr 500 0, .sl 501 0 (n) 1], 80, true⟩), (501, some ⟨.aggB l, 5, true⟩), (510, some ⟨.agg [.i64 (k), .sl 511 (uo) (nu + 1) 1, .sl 512 (so) (ns) 1, .nilsl, .sl 514 (bo) (nb) 1], 47, true⟩), (511, some ⟨.agg32 us, 42, false⟩)] (.tup []) [(500, some ⟨.agg [.ptr 500 0, .sl 1008 0 (n + 4) 1], 80, true⟩), (1008, some ⟨.aggB (l ++ numB (us.getD uo 0).toUInt64 4 4), 5, true⟩), (510, some ⟨.agg [.i64 (k), .sl 511 (uo + 1) (nu) 1, .sl 512 (so) (ns) 1, .nilsl, .sl 514 (bo) (nb) 1], 47, true⟩), (511, some ⟨.agg32 us, 42, false⟩)] := by
 refine meets_of_ev (nt := 52) Tryz.func33 rfl rfl (Nat.le_of_ble_eq_true rfl) ?_
 refine .seq ?_
 refine .region ?_
 refine .q (op_move rfl) trivial rfl ?_
 refine .nil ?_
 show Ev _ _ _ _ _
 refine .block ?_
 refine .seq ?_
 refine .block ?_
 refine .seq ?_
 refine .block ?_
 refine .seq ?_
 refine .block ?_
 refine .seq ?_
 refine .block ?_
 refine .seq ?_
 refine .block ?_
 refine .seq ?_
 refine .seq ?_
 refine .seq ?_
 refine .region ?_
 refine .q (op_bin8 rfl rfl rfl) trivial rfl ?_
 refine .q (op_assign rfl) trivial rfl ?_
 refine .nil ?_
 show Ev _ _ _ _ _
 refine .cond_true rfl (rfl) ?_
 refine .exit ?_
 show Ev _ _ _ _ _
 refine .seq ?_
 refine .region ?_
 refine .q (op_move rfl) trivial rfl ?_
 refine .q (op_move rfl) trivial rfl ?_
 refine .q (op_nilCheck rfl) trivial rfl ?_
 refine .q (op_fieldAddr (m := 0) Tryz.underlying47 rfl (by kernel_rfl) rfl) trivial rfl ?_
 refine .as (.ptr 510 1) rfl ?_
 refine .a (op_call (U := [(510, some ⟨.agg [.i64 (k), .sl 511 (uo + 1) (nu) 1, .sl 512 (so) (ns) 1, .nilsl, .sl 514 (bo) (nb) 1], 47, true⟩)]) [(500, 510), (511, 511), (512, 512), (514, 514)] [] (nextU_USB k uo nu so ns bo nb us hi) Tryz.func58 (by kernel_rfl) rfl rfl rfl (⟨⟨_, rfl, rfl, rfl⟩, trivial⟩) (⟨⟨_, _, rfl, rfl, rfl, rfl, id, rfl⟩, ⟨_, _, rfl, rfl, rfl, rfl, (fun h => by cases h), rfl⟩, trivial⟩) (⟨⟨500, _, rfl, rfl, rfl, rfl, .inr ⟨rfl, _, rfl, rfl⟩⟩, trivial⟩) (⟨(fun _ => ⟨510, _, rfl, rfl⟩), (fun h => by cases h), trivial⟩) rfl) trivial rfl ?_
 refine .a (op_call (U := [(500, some ⟨.agg [.ptr 500 0, .sl 1008 0 (n + 4) 1], 80, true⟩), (1008, some ⟨.aggB (l ++ numB (us.getD uo 0).toUInt64 4 4), 5, true⟩), (501, none)]) [(500, 500), (501, 501)] [(1008, 1000)] (u322_ev (us.getD uo 0) (l) (n) (by first | exact hn | (simp [length_numB, length_lenB, length_textB]; done) | (simp [length_numB, length_lenB, length_textB]; omega) | omega | decide +kernel) (by omega)) Tryz.func57 (by kernel_rfl) rfl rfl rfl (⟨⟨_, rfl, rfl, rfl⟩, ⟨_, rfl, rfl, rfl⟩, trivial⟩) (⟨⟨_, _, rfl, rfl, rfl, rfl, id, rfl⟩, ⟨_, _, rfl, rfl, rfl, rfl, id, rfl⟩, trivial⟩) (⟨⟨500, _, rfl, rfl, rfl, rfl, .inr ⟨rfl, _, rfl, rfl⟩⟩, ⟨1000, _, rfl, rfl, rfl, rfl, .inl rfl⟩, trivial⟩) (⟨(fun _ => ⟨500, _, rfl, rfl⟩), (fun _ => ⟨501, _, rfl, rfl⟩), trivial⟩) rfl) trivial rfl ?_
 refine .nil ?_
 show Ev _ _ _ _ _
 refine .exit ?_
 show RetOk _ _ _ _ _ _ _
 exact ret0 rfl (.inr rfl) ⟨(by first | rfl | (simp only [Nat.add_assoc]; rfl)), (by first | rfl | (simp only [List.append_assoc, textB]; rfl)), rfl, rfl, trivial⟩
set_option maxRecDepth 100000 in
theorem bytes_94 (us : List UInt32) (hU : us.length = 1) (ss : List (List UInt8)) (hS : ss.length = 1) (hb : ss.any bigS = false) : Meets Tryz.prog 15 [.agg [.i64 (94), .sl 511 (0) (1) 1, .sl 512 (0) (1) 1, .nilsl, .nilsl]] [(511, some ⟨.agg32 us, 42, false⟩), (512, some ⟨.aggS ss, 9, false⟩), (20, some ⟨.agg kindCells, errT, false⟩)] (.str (((([94]) ++ numB (us.getD 0 0).toUInt64 4 4) ++ textB (ss.getD 0 [])))) [(511, some ⟨.agg32 us, 42, false⟩), (512, some ⟨.aggS ss, 9, false⟩)] := by
 have hx : ∀ i, (ss.getD i []).length ≤ 40000 := fun i => any_le hb i
 have hx0 := hx 0
 refine meets_of_ev (nt := 31) Tryz.func15 rfl rfl (Nat.le_of_ble_eq_true rfl) ?_
 refine .seq ?_
 refine .region ?_
 refine .a (op_boxRow rfl rfl) trivial rfl ?_
 refine .q (op_assign rfl) trivial rfl ?_
 refine .nil ?_
 show Ev _ _ _ _ _
 refine .seq ?_
 refine .seq ?_
 refine .region ?_
 refine .q (op_loadRow Tryz.underlying47 rfl (by kernel_rfl) rfl rfl rfl (rfl)) trivial rfl ?_
 refine .q (op_call (U := []) [(511, 511), (512, 512)] [] (check_ok_US 94 1 1 ss hS.symm (by decide) (by rfl) (by decide +kernel) (by decide +kernel) (by decide +kernel) (by decide +kernel) (by decide +kernel) hb) Tryz.func31 (by kernel_rfl) rfl rfl rfl (⟨⟨_, rfl, rfl, rfl⟩, trivial⟩) (⟨⟨_, _, rfl, rfl, rfl, rfl, (fun h => by cases h), rfl⟩, ⟨_, _, rfl, rfl, rfl, rfl, (fun h => by cases h), rfl⟩, trivial⟩) (trivial) (⟨(fun h => by cases h), (fun h => by cases h), trivial⟩) rfl) trivial rfl ?_
 refine .q (op_eqNilNil Tryz.underlying30 rfl rfl) trivial rfl ?_
 refine .nil ?_
 show Ev _ _ _ _ _
 refine .cond_false rfl (rfl) ?_
 refine .skip ?_
 show Ev _ _ _ _ _
 refine .seq ?_
 refine .region ?_
 refine .a (op_allocRow zero80 rel_zero80 rfl) trivial rfl ?_
 refine .nil ?_
 show Ev _ _ _ _ _
 refine .seq ?_
 refine .region ?_
 refine .q (op_fieldAddr (m := 0) Tryz.underlying47 rfl (by kernel_rfl) rfl) trivial rfl ?_
 refine .as (.ptr 1000 0) rfl ?_
 refine .q (op_load Tryz.underlying3 rfl rfl rfl rfl (by first | omega | (simp only [AV.len]; omega) | (simp only [AV.len]; omega) | assumption | (simp [AV.len]; done))) trivial rfl ?_
 refine .q (op_conv Tryz.underlying3 Tryz.underlying5 rfl rfl) trivial rfl ?_
 refine .as (.u8 (UInt8.ofNat 94)) (by rfl) ?_
 refine .a (op_call (U := [(1008, some ⟨.agg [.ptr 1008 0, .sl 1016 0 (1) 1], 80, true⟩), (1016, some ⟨.aggB ([94]), 5, true⟩)]) [(500, 1008)] [(1016, 1000)] (byte0_ev (UInt8.ofNat 94)) Tryz.func32 (by kernel_rfl) rfl rfl rfl (⟨⟨_, rfl, rfl, rfl⟩, ⟨_, rfl, rfl, rfl⟩, trivial⟩) (⟨⟨_, _, rfl, rfl, rfl, rfl, id, rfl⟩, trivial⟩) (⟨⟨500, _, rfl, rfl, rfl, rfl, .inr ⟨rfl, _, rfl, rfl⟩⟩, ⟨1000, _, rfl, rfl, rfl, rfl, .inl rfl⟩, trivial⟩) (⟨(fun _ => ⟨1008, _, rfl, rfl⟩), trivial⟩) rfl) trivial rfl ?_
 refine .nil ?_
 show Ev _ _ _ _ _
 refine .seq ?_
 refine .region ?_
 refine .q (op_fieldAddr (m := 0) Tryz.underlying47 rfl (by kernel_rfl) rfl) trivial rfl ?_
 refine .as (.ptr 1000 0) rfl ?_
 refine .q (op_load Tryz.underlying3 rfl rfl rfl rfl (by first | omega | (simp only [AV.len]; omega) | (simp only [AV.len]; omega) | assumption | (simp [AV.len]; done))) trivial rfl ?_
 refine .q (op_call (U := []) [] [] (fields_ev 94) Tryz.func27 (by kernel_rfl) rfl rfl rfl (⟨⟨_, rfl, rfl, rfl⟩, trivial⟩) (⟨⟨_, _, rfl, rfl, rfl, rfl, (fun h => by cases h), rfl⟩, trivial⟩) (trivial) (⟨(fun h => by cases h), trivial⟩) rfl) trivial rfl ?_
 refine .q (op_move rfl) trivial rfl ?_
 refine .q (op_extract rfl rfl) trivial rfl ?_
 refine .as (.str [117, 115]) (congrArg AV.str (by rfl)) ?_
 refine .q (op_extract rfl rfl) trivial rfl ?_
 refine .q (op_assign rfl) trivial rfl ?_
 refine .q (op_assign rfl) trivial rfl ?_
 refine .nil ?_
 show Ev _ _ _ _ _
 refine .seq ?_
 refine .seq ?_
 refine .region ?_
 refine .q (op_move rfl) trivial rfl ?_
 refine .q (op_len_str Tryz.underlying9 rfl) trivial rfl ?_
 refine .q (op_move rfl) trivial rfl ?_
 refine .nil ?_
 show Ev _ _ _ _ _
 refine .block ?_
 refine Ev.rounds 3 ?_
 show Ev _ _ _ _ _
 refine .seq ?_
 refine .region ?_
 refine .q (op_cmpI rfl rfl rfl) trivial rfl ?_
 refine .nil ?_
 show Ev _ _ _ _ _
 refine .seq ?_
 refine .cond_true rfl (rfl) ?_
 refine .skip ?_
 show Ev _ _ _ _ _
 refine .seq ?_
 refine .block ?_
 refine .seq ?_
 refine .region ?_
 refine .q (op_move rfl) trivial rfl ?_
 refine .q (op_assign rfl) trivial rfl ?_
 refine .nil ?_
 show Ev _ _ _ _ _
 refine .region ?_
 refine .q (op_move rfl) trivial rfl ?_
 refine .q (op_move rfl) trivial rfl ?_
 refine .q (op_index_str Tryz.underlying9 rfl rfl (show _ = ((0 : Nat) : Int) from rfl) (by decide)) trivial rfl ?_
 refine .a (op_call (U := [(1008, some ⟨.agg [.ptr 1008 0, .sl 1024 0 (1 + 4) 1], 80, true⟩), (1024, some ⟨.aggB (([94]) ++ numB (us.getD 0 0).toUInt64 4 4), 5, true⟩), (1016, none), (1000, some ⟨.agg [.i64 (94), .sl 511 (1) (0) 1, .sl 512 (0) (1) 1, .nilsl, .nilsl], 47, true⟩)]) [(500, 1008), (501, 1016), (510, 1000), (511, 511), (512, 512)] [(1024, 1008)] (putu_US 94 0 0 0 1 us (by omega) (([94])) (1) (by first | (simp; done) | (simp [length_numB, length_textB, length_boolB]; omega) | omega) (by omega)) Tryz.func33 (by kernel_rfl) rfl rfl rfl (⟨⟨_, rfl, rfl, rfl⟩, ⟨_, rfl, rfl, rfl⟩, ⟨_, rfl, rfl, rfl⟩, trivial⟩) (⟨⟨_, _, rfl, rfl, rfl, rfl, id, rfl⟩, ⟨_, _, rfl, rfl, rfl, rfl, id, rfl⟩, ⟨_, _, rfl, rfl, rfl, rfl, id, rfl⟩, ⟨_, _, rfl, rfl, rfl, rfl, (fun h => by cases h), rfl⟩, trivial⟩) (⟨⟨500, _, rfl, rfl, rfl, rfl, .inr ⟨rfl, _, rfl, rfl⟩⟩, ⟨1008, _, rfl, rfl, rfl, rfl, .inl rfl⟩, ⟨510, _, rfl, rfl, rfl, rfl, .inr ⟨rfl, _, rfl, rfl⟩⟩, trivial⟩) (⟨(fun _ => ⟨1008, _, rfl, rfl⟩), (fun _ => ⟨1016, _, rfl, rfl⟩), (fun _ => ⟨1000, _, rfl, rfl⟩), (fun h => by cases h), trivial⟩) rfl) trivial rfl ?_
 refine .nil ?_
 show Ev _ _ _ _ _
 refine .region ?_
 refine .q (op_addI rfl rfl ⟨by omega, by omega⟩) trivial rfl ?_
 refine .q (op_move rfl) trivial rfl ?_
 refine .nil ?_
 show Ev _ _ _ _ _
 refine .seq ?_
 refine .region ?_
 refine .q (op_cmpI rfl rfl rfl) trivial rfl ?_
 refine .nil ?_
 show Ev _ _ _ _ _
 refine .seq ?_
 refine .cond_true rfl (rfl) ?_
 refine .skip ?_
 show Ev _ _ _ _ _
 refine .seq ?_
 refine .block ?_
 refine .seq ?_
 refine .region ?_
 refine .q (op_move rfl) trivial rfl ?_
 refine .q (op_assign rfl) trivial rfl ?_
 refine .nil ?_
 show Ev _ _ _ _ _
 refine .region ?_
 refine .q (op_move rfl) trivial rfl ?_
 refine .q (op_move rfl) trivial rfl ?_
 refine .q (op_index_str Tryz.underlying9 rfl rfl (show _ = ((1 : Nat) : Int) from rfl) (by decide)) trivial rfl ?_
 refine .a (op_call (U := [(1008, some ⟨.agg [.ptr 1008 0, .sl 1032 0 (1 + 4 + (4 + (ss.getD 0 []).length)) 1], 80, true⟩), (1032, some ⟨.aggB ((([94]) ++ numB (us.getD 0 0).toUInt64 4 4) ++ textB (ss.getD 0 [])), 5, true⟩), (1024, none), (1000, some ⟨.agg [.i64 (94), .sl 511 (1) (0) 1, .sl 512 (1) (0) 1, .nilsl, .nilsl], 47, true⟩)]) [(500, 1008), (501, 1024), (510, 1000), (511, 511), (512, 512)] [(1032, 1016)] (puts_US 94 1 0 0 0 ss (by omega) (hx _) ((([94]) ++ numB (us.getD 0 0).toUInt64 4 4)) (1 + 4) (by first | (simp [length_numB]; done) | (simp [length_numB, length_textB, length_boolB]; omega) | omega) (by omega)) Tryz.func33 (by kernel_rfl) rfl rfl rfl (⟨⟨_, rfl, rfl, rfl⟩, ⟨_, rfl, rfl, rfl⟩, ⟨_, rfl, rfl, rfl⟩, trivial⟩) (⟨⟨_, _, rfl, rfl, rfl, rfl, id, rfl⟩, ⟨_, _, rfl, rfl, rfl, rfl, id, rfl⟩, ⟨_, _, rfl, rfl, rfl, rfl, id, rfl⟩, ⟨_, _, rfl, rfl, rfl, rfl, (fun h => by cases h), rfl⟩, trivial⟩) (⟨⟨500, _, rfl, rfl, rfl, rfl, .inr ⟨rfl, _, rfl, rfl⟩⟩, ⟨1016, _, rfl, rfl, rfl, rfl, .inl rfl⟩, ⟨510, _, rfl, rfl, rfl, rfl, .inr ⟨rfl, _, rfl, rfl⟩⟩, trivial⟩) (⟨(fun _ => ⟨1008, _, rfl, rfl⟩), (fun _ => ⟨1024, _, rfl, rfl⟩), (fun _ => ⟨1000, _, rfl, rfl⟩), (fun h => by cases h), trivial⟩) rfl) trivial rfl ?_
 refine .nil ?_
 show Ev _ _ _ _ _
 refine .region ?_
 refine .q (op_addI rfl rfl ⟨by omega, by omega⟩) trivial rfl ?_
 refine .q (op_move rfl) trivial rfl ?_
 refine .nil ?_
 show Ev _ _ _ _ _
 refine .seq ?_
 refine .region ?_
 refine .q (op_cmpI rfl rfl rfl) trivial rfl ?_
 refine .nil ?_
 show Ev _ _ _ _ _
 refine .seq ?_
 refine .cond_false rfl (rfl) ?_
 refine .exit ?_
 show Ev _ _ _ _ _
 refine .seq ?_
 refine .region ?_
 refine .a (op_call (U := [(1032, some ⟨.aggB (((([94]) ++ numB (us.getD 0 0).toUInt64 4 4) ++ textB (ss.getD 0 []))), (frz + 5), false⟩)]) [(500, 1008), (501, 1032)] [] (bytes2_ev (((([94]) ++ numB (us.getD 0 0).toUInt64 4 4) ++ textB (ss.getD 0 []))) (1 + 4 + (4 + (ss.getD 0 []).length)) (by first | (simp [length_numB, length_textB]; done) | (simp [length_numB, length_textB]; omega) | omega) (by omega) (by omega)) Tryz.func34 (by kernel_rfl) rfl rfl rfl (⟨⟨_, rfl, rfl, rfl⟩, trivial⟩) (⟨⟨_, _, rfl, rfl, rfl, rfl, (fun h => by cases h), rfl⟩, ⟨_, _, rfl, rfl, rfl, rfl, id, rfl⟩, trivial⟩) (⟨⟨501, _, rfl, rfl, rfl, rfl, .inr ⟨rfl, _, rfl, rfl⟩⟩, trivial⟩) (⟨(fun h => by cases h), (fun _ => ⟨1032, _, rfl, rfl⟩), trivial⟩) rfl) trivial rfl ?_
 refine .q (op_assign rfl) trivial rfl ?_
 refine .nil ?_
 show Ev _ _ _ _ _
 refine .ret ?_
 show RetOk _ _ _ _ _ _ _
 exact ret1v rfl (.inl rfl) rfl (rfl) ⟨rfl, rfl, trivial⟩
set_option maxRecDepth 100000 in
theorem bytes_2 (ss : List (List UInt8)) (hS : ss.length = 1) (hb : ss.any bigS = false) : Meets Tryz.prog 15 [.agg [.i64 (2), .nilsl, .sl 512 (0) (1) 1, .nilsl, .nilsl]] [(512, some ⟨.aggS ss, 9, false⟩), (20, some ⟨.agg kindCells, errT, false⟩)] (.str ((([2]) ++ textB (ss.getD 0 [])))) [(512, some ⟨.aggS ss, 9, false⟩)] := by
 have hx : ∀ i, (ss.getD i []).length ≤ 40000 := fun i => any_le hb i
 have hx0 := hx 0
 refine meets_of_ev (nt := 31) Tryz.func15 rfl rfl (Nat.le_of_ble_eq_true rfl) ?_
 refine .seq ?_
 refine .region ?_
 refine .a (op_boxRow rfl rfl) trivial rfl ?_
 refine .q (op_assign rfl) trivial rfl ?_
 refine .nil ?_
 show Ev _ _ _ _ _
 refine .seq ?_
 refine .seq ?_
 refine .region ?_
 refine .q (op_loadRow Tryz.underlying47 rfl (by kernel_rfl) rfl rfl rfl (rfl)) trivial rfl ?_
 refine .q (op_call (U := []) [(512, 512)] [] (check_ok_S 2 1 ss hS.symm (by decide) (by rfl) (by decide +kernel) (by decide +kernel) (by decide +kernel) (by decide +kernel) (by decide +kernel) hb) Tryz.func31 (by kernel_rfl) rfl rfl rfl (⟨⟨_, rfl, rfl, rfl⟩, trivial⟩) (⟨⟨_, _, rfl, rfl, rfl, rfl, (fun h => by cases h), rfl⟩, ⟨_, _, rfl, rfl, rfl, rfl, (fun h => by cases h), rfl⟩, trivial⟩) (trivial) (⟨(fun h => by cases h), (fun h => by cases h), trivial⟩) rfl) trivial rfl ?_
 refine .q (op_eqNilNil Tryz.underlying30 rfl rfl) trivial rfl ?_
 refine .nil ?_
 show Ev _ _ _ _ _
 refine .cond_false rfl (rfl) ?_
 refine .skip ?_
 show Ev _ _ _ _ _
 refine .seq ?_
 refine .region ?_
 refine .a (op_allocRow zero80 rel_zero80 rfl) trivial rfl ?_
 refine .nil ?_
 show Ev _ _ _ _ _
 refine .seq ?_
 refine .region ?_
 refine .q (op_fieldAddr (m := 0) Tryz.underlying47 rfl (by kernel_rfl) rfl) trivial rfl ?_
 refine .as (.ptr 1000 0) rfl ?_
 refine .q (op_load Tryz.underlying3 rfl rfl rfl rfl (by first | omega | (simp only [AV.len]; omega) | (simp only [AV.len]; omega) | assumption | (simp [AV.len]; done))) trivial rfl ?_
 refine .q (op_conv Tryz.underlying3 Tryz.underlying5 rfl rfl) trivial rfl ?_
 refine .as (.u8 (UInt8.ofNat 2)) (by rfl) ?_
 refine .a (op_call (U := [(1008, some ⟨.agg [.ptr 1008 0, .sl 1016 0 (1) 1], 80, true⟩), (1016, some ⟨.aggB ([2]), 5, true⟩)]) [(500, 1008)] [(1016, 1000)] (byte0_ev (UInt8.ofNat 2)) Tryz.func32 (by kernel_rfl) rfl rfl rfl (⟨⟨_, rfl, rfl, rfl⟩, ⟨_, rfl, rfl, rfl⟩, trivial⟩) (⟨⟨_, _, rfl, rfl, rfl, rfl, id, rfl⟩, trivial⟩) (⟨⟨500, _, rfl, rfl, rfl, rfl, .inr ⟨rfl, _, rfl, rfl⟩⟩, ⟨1000, _, rfl, rfl, rfl, rfl, .inl rfl⟩, trivial⟩) (⟨(fun _ => ⟨1008, _, rfl, rfl⟩), trivial⟩) rfl) trivial rfl ?_
 refine .nil ?_
 show Ev _ _ _ _ _
 refine .seq ?_
 refine .region ?_
 refine .q (op_fieldAddr (m := 0) Tryz.underlying47 rfl (by kernel_rfl) rfl) trivial rfl ?_
 refine .as (.ptr 1000 0) rfl ?_
 refine .q (op_load Tryz.underlying3 rfl rfl rfl rfl (by first | omega | (simp only [AV.len]; omega) | (simp only [AV.len]; omega) | assumption | (simp [AV.len]; done))) trivial rfl ?_
 refine .q (op_call (U := []) [] [] (fields_ev 2) Tryz.func27 (by kernel_rfl) rfl rfl rfl (⟨⟨_, rfl, rfl, rfl⟩, trivial⟩) (⟨⟨_, _, rfl, rfl, rfl, rfl, (fun h => by cases h), rfl⟩, trivial⟩) (trivial) (⟨(fun h => by cases h), trivial⟩) rfl) trivial rfl ?_
 refine .q (op_move rfl) trivial rfl ?_
 refine .q (op_extract rfl rfl) trivial rfl ?_
 refine .as (.str [115]) (congrArg AV.str (by rfl)) ?_
 refine .q (op_extract rfl rfl) trivial rfl ?_
 refine .q (op_assign rfl) trivial rfl ?_
 refine .q (op_assign rfl) trivial rfl ?_
 refine .nil ?_
 show Ev _ _ _ _ _
 refine .seq ?_
 refine .seq ?_
 refine .region ?_
 refine .q (op_move rfl) trivial rfl ?_
 refine .q (op_len_str Tryz.underlying9 rfl) trivial rfl ?_
 refine .q (op_move rfl) trivial rfl ?_
 refine .nil ?_
 show Ev _ _ _ _ _
 refine .block ?_
 refine Ev.rounds 2 ?_
 show Ev _ _ _ _ _
 refine .seq ?_
 refine .region ?_
 refine .q (op_cmpI rfl rfl rfl) trivial rfl ?_
 refine .nil ?_
 show Ev _ _ _ _ _
 refine .seq ?_
 refine .cond_true rfl (rfl) ?_
 refine .skip ?_
 show Ev _ _ _ _ _
 refine .seq ?_
 refine .block ?_
 refine .seq ?_
 refine .region ?_
 refine .q (op_move rfl) trivial rfl ?_
 refine .q (op_assign rfl) trivial rfl ?_
 refine .nil ?_
 show Ev _ _ _ _ _
 refine .region ?_
 refine .q (op_move rfl) trivial rfl ?_
 refine .q (op_move rfl) trivial rfl ?_
 refine .q (op_index_str Tryz.underlying9 rfl rfl (show _ = ((0 : Nat) : Int) from rfl) (by decide)) trivial rfl ?_
 refine .a (op_call (U := [(1008, some ⟨.agg [.ptr 1008 0, .sl 1024 0 (1 + (4 + (ss.getD 0 []).length)) 1], 80, true⟩), (1024, some ⟨.aggB (([2]) ++ textB (ss.getD 0 [])), 5, true⟩), (1016, none), (1000, some ⟨.agg [.i64 (2), .nilsl, .sl 512 (1) (0) 1, .nilsl, .nilsl], 47, true⟩)]) [(500, 1008), (501, 1016), (510, 1000), (512, 512)] [(1024, 1016)] (puts_S 2 0 0 ss (by omega) (hx _) (([2])) (1) (by first | (simp; done) | (simp [length_numB, length_textB, length_boolB]; omega) | omega) (by omega)) Tryz.func33 (by kernel_rfl) rfl rfl rfl (⟨⟨_, rfl, rfl, rfl⟩, ⟨_, rfl, rfl, rfl⟩, ⟨_, rfl, rfl, rfl⟩, trivial⟩) (⟨⟨_, _, rfl, rfl, rfl, rfl, id, rfl⟩, ⟨_, _, rfl, rfl, rfl, rfl, id, rfl⟩, ⟨_, _, rfl, rfl, rfl, rfl, id, rfl⟩, ⟨_, _, rfl, rfl, rfl, rfl, (fun h => by cases h), rfl⟩, trivial⟩) (⟨⟨500, _, rfl, rfl, rfl, rfl, .inr ⟨rfl, _, rfl, rfl⟩⟩, ⟨1016, _, rfl, rfl, rfl, rfl, .inl rfl⟩, ⟨510, _, rfl, rfl, rfl, rfl, .inr ⟨rfl, _, rfl, rfl⟩⟩, trivial⟩) (⟨(fun _ => ⟨1008, _, rfl, rfl⟩), (fun _ => ⟨1016, _, rfl, rfl⟩), (fun _ => ⟨1000, _, rfl, rfl⟩), (fun h => by cases h), trivial⟩) rfl) trivial rfl ?_
 refine .nil ?_
 show Ev _ _ _ _ _
 refine .region ?_
 refine .q (op_addI rfl rfl ⟨by omega, by omega⟩) trivial rfl ?_
 refine .q (op_move rfl) trivial rfl ?_
 refine .nil ?_
 show Ev _ _ _ _ _
 refine .seq ?_
 refine .region ?_
 refine .q (op_cmpI rfl rfl rfl) trivial rfl ?_
 refine .nil ?_
 show Ev _ _ _ _ _
 refine .seq ?_
 refine .cond_false rfl (rfl) ?_
 refine .exit ?_
 show Ev _ _ _ _ _
 refine .seq ?_
 refine .region ?_
 refine .a (op_call (U := [(1024, some ⟨.aggB ((([2]) ++ textB (ss.getD 0 []))), (frz + 5), false⟩)]) [(500, 1008), (501, 1024)] [] (bytes2_ev ((([2]) ++ textB (ss.getD 0 []))) (1 + (4 + (ss.getD 0 []).length)) (by first | (simp [length_textB]; done) | (simp [length_textB]; omega) | omega) (by omega) (by omega)) Tryz.func34 (by kernel_rfl) rfl rfl rfl (⟨⟨_, rfl, rfl, rfl⟩, trivial⟩) (⟨⟨_, _, rfl, rfl, rfl, rfl, (fun h => by cases h), rfl⟩, ⟨_, _, rfl, rfl, rfl, rfl, id, rfl⟩, trivial⟩) (⟨⟨501, _, rfl, rfl, rfl, rfl, .inr ⟨rfl, _, rfl, rfl⟩⟩, trivial⟩) (⟨(fun h => by cases h), (fun _ => ⟨1024, _, rfl, rfl⟩), trivial⟩) rfl) trivial rfl ?_
 refine .q (op_assign rfl) trivial rfl ?_
 refine .nil ?_
 show Ev _ _ _ _ _
 refine .ret ?_
 show RetOk _ _ _ _ _ _ _
 exact ret1v rfl (.inl rfl) rfl (rfl) ⟨rfl, trivial⟩
set_option maxRecDepth 100000 in
theorem bytes_81 (ss : List (List UInt8)) (hS : ss.length = 1) (hb : ss.any bigS = false) : Meets Tryz.prog 15 [.agg [.i64 (81), .nilsl, .sl 512 (0) (1) 1, .nilsl, .nilsl]] [(512, some ⟨.aggS ss, 9, false⟩), (20, some ⟨.agg kindCells, errT, false⟩)] (.str ((([81]) ++ (ss.getD 0 [])))) [(512, some ⟨.aggS ss, 9, false⟩)] := by
 have hx : ∀ i, (ss.getD i []).length ≤ 40000 := fun i => any_le hb i
 have hx0 := hx 0
 refine meets_of_ev (nt := 31) Tryz.func15 rfl rfl (Nat.le_of_ble_eq_true rfl) ?_
 refine .seq ?_
 refine .region ?_
 refine .a (op_boxRow rfl rfl) trivial rfl ?_
 refine .q (op_assign rfl) trivial rfl ?_
 refine .nil ?_
 show Ev _ _ _ _ _
 refine .seq ?_
 refine .seq ?_
 refine .region ?_
 refine .q (op_loadRow Tryz.underlying47 rfl (by kernel_rfl) rfl rfl rfl (rfl)) trivial rfl ?_
 refine .q (op_call (U := []) [(512, 512)] [] (check_ok_S 81 1 ss hS.symm (by decide) (by rfl) (by decide +kernel) (by decide +kernel) (by decide +kernel) (by decide +kernel) (by decide +kernel) hb) Tryz.func31 (by kernel_rfl) rfl rfl rfl (⟨⟨_, rfl, rfl, rfl⟩, trivial⟩) (⟨⟨_, _, rfl, rfl, rfl, rfl, (fun h => by cases h), rfl⟩, ⟨_, _, rfl, rfl, rfl, rfl, (fun h => by cases h), rfl⟩, trivial⟩) (trivial) (⟨(fun h => by cases h), (fun h => by cases h), trivial⟩) rfl) trivial rfl ?_
 refine .q (op_eqNilNil Tryz.underlying30 rfl rfl) trivial rfl ?_
 refine .nil ?_
 show Ev _ _ _ _ _
 refine .cond_false rfl (rfl) ?_
 refine .skip ?_
 show Ev _ _ _ _ _
 refine .seq ?_
 refine .region ?_
 refine .a (op_allocRow zero80 rel_zero80 rfl) trivial rfl ?_
 refine .nil ?_
 show Ev _ _ _ _ _
 refine .seq ?_
 refine .region ?_
 refine .q (op_fieldAddr (m := 0) Tryz.underlying47 rfl (by kernel_rfl) rfl) trivial rfl ?_
 refine .as (.ptr 1000 0) rfl ?_
 refine .q (op_load Tryz.underlying3 rfl rfl rfl rfl (by first | omega | (simp only [AV.len]; omega) | (simp only [AV.len]; omega) | assumption | (simp [AV.len]; done))) trivial rfl ?_
 refine .q (op_conv Tryz.underlying3 Tryz.underlying5 rfl rfl) trivial rfl ?_
 refine .as (.u8 (UInt8.ofNat 81)) (by rfl) ?_
 refine .a (op_call (U := [(1008, some ⟨.agg [.ptr 1008 0, .sl 1016 0 (1) 1], 80, true⟩), (1016, some ⟨.aggB ([81]), 5, true⟩)]) [(500, 1008)] [(1016, 1000)] (byte0_ev (UInt8.ofNat 81)) Tryz.func32 (by kernel_rfl) rfl rfl rfl (⟨⟨_, rfl, rfl, rfl⟩, ⟨_, rfl, rfl, rfl⟩, trivial⟩) (⟨⟨_, _, rfl, rfl, rfl, rfl, id, rfl⟩, trivial⟩) (⟨⟨500, _, rfl, rfl, rfl, rfl, .inr ⟨rfl, _, rfl, rfl⟩⟩, ⟨1000, _, rfl, rfl, rfl, rfl, .inl rfl⟩, trivial⟩) (⟨(fun _ => ⟨1008, _, rfl, rfl⟩), trivial⟩) rfl) trivial rfl ?_
 refine .nil ?_
 show Ev _ _ _ _ _
 refine .seq ?_
 refine .region ?_
 refine .q (op_fieldAddr (m := 0) Tryz.underlying47 rfl (by kernel_rfl) rfl) trivial rfl ?_
 refine .as (.ptr 1000 0) rfl ?_
 refine .q (op_load Tryz.underlying3 rfl rfl rfl rfl (by first | omega | (simp only [AV.len]; omega) | (simp only [AV.len]; omega) | assumption | (simp [AV.len]; done))) trivial rfl ?_
 refine .q (op_call (U := []) [] [] (fields_ev 81) Tryz.func27 (by kernel_rfl) rfl rfl rfl (⟨⟨_, rfl, rfl, rfl⟩, trivial⟩) (⟨⟨_, _, rfl, rfl, rfl, rfl, (fun h => by cases h), rfl⟩, trivial⟩) (trivial) (⟨(fun h => by cases h), trivial⟩) rfl) trivial rfl ?_
 refine .q (op_move rfl) trivial rfl ?_
 refine .q (op_extract rfl rfl) trivial rfl ?_
 refine .as (.str [114]) (congrArg AV.str (by rfl)) ?_
 refine .q (op_extract rfl rfl) trivial rfl ?_
 refine .q (op_assign rfl) trivial rfl ?_
 refine .q (op_assign rfl) trivial rfl ?_
 refine .nil ?_
 show Ev _ _ _ _ _
 refine .seq ?_
 refine .seq ?_
 refine .region ?_
 refine .q (op_move rfl) trivial rfl ?_
 refine .q (op_len_str Tryz.underlying9 rfl) trivial rfl ?_
 refine .q (op_move rfl) trivial rfl ?_
 refine .nil ?_
 show Ev _ _ _ _ _
 refine .block ?_
 refine Ev.rounds 2 ?_
 show Ev _ _ _ _ _
 refine .seq ?_
 refine .region ?_
 refine .q (op_cmpI rfl rfl rfl) trivial rfl ?_
 refine .nil ?_
 show Ev _ _ _ _ _
 refine .seq ?_
 refine .cond_true rfl (rfl) ?_
 refine .skip ?_
 show Ev _ _ _ _ _
 refine .seq ?_
 refine .block ?_
 refine .seq ?_
 refine .region ?_
 refine .q (op_move rfl) trivial rfl ?_
 refine .q (op_assign rfl) trivial rfl ?_
 refine .nil ?_
 show Ev _ _ _ _ _
 refine .region ?_
 refine .q (op_move rfl) trivial rfl ?_
 refine .q (op_move rfl) trivial rfl ?_
 refine .q (op_index_str Tryz.underlying9 rfl rfl (show _ = ((0 : Nat) : Int) from rfl) (by decide)) trivial rfl ?_
 refine .a (op_call (U := [(1008, some ⟨.agg [.ptr 1008 0, .sl 1024 0 (1 + (ss.getD 0 []).length) 1], 80, true⟩), (1024, some ⟨.aggB (([81]) ++ (ss.getD 0 [])), 5, true⟩), (1016, none), (1000, some ⟨.agg [.i64 (81), .nilsl, .sl 512 (1) (0) 1, .nilsl, .nilsl], 47, true⟩)]) [(500, 1008), (501, 1016), (510, 1000), (512, 512)] [(1024, 1008)] (putr_S 81 0 0 ss (by omega) (hx _) (([81])) (1) (by first | (simp; done) | (simp [length_numB, length_textB, length_boolB]; omega) | omega) (by omega)) Tryz.func33 (by kernel_rfl) rfl rfl rfl (⟨⟨_, rfl, rfl, rfl⟩, ⟨_, rfl, rfl, rfl⟩, ⟨_, rfl, rfl, rfl⟩, trivial⟩) (⟨⟨_, _, rfl, rfl, rfl, rfl, id, rfl⟩, ⟨_, _, rfl, rfl, rfl, rfl, id, rfl⟩, ⟨_, _, rfl, rfl, rfl, rfl, id, rfl⟩, ⟨_, _, rfl, rfl, rfl, rfl, (fun h => by cases h), rfl⟩, trivial⟩) (⟨⟨500, _, rfl, rfl, rfl, rfl, .inr ⟨rfl, _, rfl, rfl⟩⟩, ⟨1008, _, rfl, rfl, rfl, rfl, .inl rfl⟩, ⟨510, _, rfl, rfl, rfl, rfl, .inr ⟨rfl, _, rfl, rfl⟩⟩, trivial⟩) (⟨(fun _ => ⟨1008, _, rfl, rfl⟩), (fun _ => ⟨1016, _, rfl, rfl⟩), (fun _ => ⟨1000, _, rfl, rfl⟩), (fun h => by cases h), trivial⟩) rfl) trivial rfl ?_
 refine .nil ?_
 show Ev _ _ _ _ _
 refine .region ?_
 refine .q (op_addI rfl rfl ⟨by omega, by omega⟩) trivial rfl ?_
 refine .q (op_move rfl) trivial rfl ?_
 refine .nil ?_
 show Ev _ _ _ _ _
 refine .seq ?_
 refine .region ?_
 refine .q (op_cmpI rfl rfl rfl) trivial rfl ?_
 refine .nil ?_
 show Ev _ _ _ _ _
 refine .seq ?_
 refine .cond_false rfl (rfl) ?_
 refine .exit ?_
 show Ev _ _ _ _ _
 refine .seq ?_
 refine .region ?_
 refine .a (op_call (U := [(1024, some ⟨.aggB ((([81]) ++ (ss.getD 0 []))), (frz + 5), false⟩)]) [(500, 1008), (501, 1024)] [] (bytes2_ev ((([81]) ++ (ss.getD 0 []))) (1 + (ss.getD 0 []).length) (by first | (simp; done) | (simp; omega) | omega) (by omega) (by omega)) Tryz.func34 (by kernel_rfl) rfl rfl rfl (⟨⟨_, rfl, rfl, rfl⟩, trivial⟩) (⟨⟨_, _, rfl, rfl, rfl, rfl, (fun h => by cases h), rfl⟩, ⟨_, _, rfl, rfl, rfl, rfl, id, rfl⟩, trivial⟩) (⟨⟨501, _, rfl, rfl, rfl, rfl, .inr ⟨rfl, _, rfl, rfl⟩⟩, trivial⟩) (⟨(fun h => by cases h), (fun _ => ⟨1024, _, rfl, rfl⟩), trivial⟩) rfl) trivial rfl ?_
 refine .q (op_assign rfl) trivial rfl ?_
 refine .nil ?_
 show Ev _ _ _ _ _
 refine .ret ?_
 show RetOk _ _ _ _ _ _ _
 exact ret1v rfl (.inl rfl) rfl (rfl) ⟨rfl, trivial⟩
set_option maxRecDepth 100000 in
theorem bytes_98 (us : List UInt32) (hU : us.length = 1) (ss : List (List UInt8)) (hS : ss.length = 2) (bs : List Bool) (hB : bs.length = 1) (hb : ss.any bigS = false) : Meets Tryz.prog 15 [.agg [.i64 (98), .sl 511 (0) (1) 1, .sl 512 (0) (2) 1, .nilsl, .sl 514 (0) (1) 1]] [(511, some ⟨.agg32 us, 42, false⟩), (512, some ⟨.aggS ss, 9, false⟩), (514, some ⟨.aggT bs, 4, false⟩), (20, some ⟨.agg kindCells, errT, false⟩)] (.str (((((([98]) ++ numB (us.getD 0 0).toUInt64 4 4) ++ textB (ss.getD 0 [])) ++ boolB (bs.getD 0 false)) ++ (ss.getD 1 [])))) [(511, some ⟨.agg32 us, 42, false⟩), (512, some ⟨.aggS ss, 9, false⟩), (514, some ⟨.aggT bs, 4, false⟩)] := by
 have hx : ∀ i, (ss.getD i []).length ≤ 40000 := fun i => any_le hb i
 have hx0 := hx 0
 have hx1 := hx 1
 refine meets_of_ev (nt := 31) Tryz.func15 rfl rfl (Nat.le_of_ble_eq_true rfl) ?_
 refine .seq ?_
 refine .region ?_
 refine .a (op_boxRow rfl rfl) trivial rfl ?_
 refine .q (op_assign rfl) trivial rfl ?_
 refine .nil ?_
 show Ev _ _ _ _ _
 refine .seq ?_
 refine .seq ?_
 refine .region ?_
 refine .q (op_loadRow Tryz.underlying47 rfl (by kernel_rfl) rfl rfl rfl (rfl)) trivial rfl ?_
 refine .q (op_call (U := []) [(511, 511), (512, 512), (514, 514)] [] (check_ok_USB 98 1 2 1 ss hS.symm (by decide) (by rfl) (by decide +kernel) (by decide +kernel) (by decide +kernel) (by decide +kernel) (by decide +kernel) hb) Tryz.func31 (by kernel_rfl) rfl rfl rfl (⟨⟨_, rfl, rfl, rfl⟩, trivial⟩) (⟨⟨_, _, rfl, rfl, rfl, rfl, (fun h => by cases h), rfl⟩, ⟨_, _, rfl, rfl, rfl, rfl, (fun h => by cases h), rfl⟩, trivial⟩) (trivial) (⟨(fun h => by cases h), (fun h => by cases h), trivial⟩) rfl) trivial rfl ?_
 refine .q (op_eqNilNil Tryz.underlying30 rfl rfl) trivial rfl ?_
 refine .nil ?_
 show Ev _ _ _ _ _
 refine .cond_false rfl (rfl) ?_
 refine .skip ?_
 show Ev _ _ _ _ _
 refine .seq ?_
 refine .region ?_
 refine .a (op_allocRow zero80 rel_zero80 rfl) trivial rfl ?_
 refine .nil ?_
 show Ev _ _ _ _ _
 refine .seq ?_
 refine .region ?_
 refine .q (op_fieldAddr (m := 0) Tryz.underlying47 rfl (by kernel_rfl) rfl) trivial rfl ?_
 refine .as (.ptr 1000 0) rfl ?_
 refine .q (op_load Tryz.underlying3 rfl rfl rfl rfl (by first | omega | (simp only [AV.len]; omega) | (simp only [AV.len]; omega) | assumption | (simp [AV.len]; done))) trivial rfl ?_
 refine .q (op_conv Tryz.underlying3 Tryz.underlying5 rfl rfl) trivial rfl ?_
 refine .as (.u8 (UInt8.ofNat 98)) (by rfl) ?_
 refine .a (op_call (U := [(1008, some ⟨.agg [.ptr 1008 0, .sl 1016 0 (1) 1], 80, true⟩), (1016, some ⟨.aggB ([98]), 5, true⟩)]) [(500, 1008)] [(1016, 1000)] (byte0_ev (UInt8.ofNat 98)) Tryz.func32 (by kernel_rfl) rfl rfl rfl (⟨⟨_, rfl, rfl, rfl⟩, ⟨_, rfl, rfl, rfl⟩, trivial⟩) (⟨⟨_, _, rfl, rfl, rfl, rfl, id, rfl⟩, trivial⟩) (⟨⟨500, _, rfl, rfl, rfl, rfl, .inr ⟨rfl, _, rfl, rfl⟩⟩, ⟨1000, _, rfl, rfl, rfl, rfl, .inl rfl⟩, trivial⟩) (⟨(fun _ => ⟨1008, _, rfl, rfl⟩), trivial⟩) rfl) trivial rfl ?_
 refine .nil ?_
 show Ev _ _ _ _ _
 refine .seq ?_
 refine .region ?_
 refine .q (op_fieldAddr (m := 0) Tryz.underlying47 rfl (by kernel_rfl) rfl) trivial rfl ?_
 refine .as (.ptr 1000 0) rfl ?_
 refine .q (op_load Tryz.underlying3 rfl rfl rfl rfl (by first | omega | (simp only [AV.len]; omega) | (simp only [AV.len]; omega) | assumption | (simp [AV.len]; done))) trivial rfl ?_
 refine .q (op_call (U := []) [] [] (fields_ev 98) Tryz.func27 (by kernel_rfl) rfl rfl rfl (⟨⟨_, rfl, rfl, rfl⟩, trivial⟩) (⟨⟨_, _, rfl, rfl, rfl, rfl, (fun h => by cases h), rfl⟩, trivial⟩) (trivial) (⟨(fun h => by cases h), trivial⟩) rfl) trivial rfl ?_
 refine .q (op_move rfl) trivial rfl ?_
 refine .q (op_extract rfl rfl) trivial rfl ?_
 refine .as (.str [117, 115, 98, 114]) (congrArg AV.str (by rfl)) ?_
 refine .q (op_extract rfl rfl) trivial rfl ?_
 refine .q (op_assign rfl) trivial rfl ?_
 refine .q (op_assign rfl) trivial rfl ?_
 refine .nil ?_
 show Ev _ _ _ _ _
 refine .seq ?_
 refine .seq ?_
 refine .region ?_
 refine .q (op_move rfl) trivial rfl ?_
 refine .q (op_len_str Tryz.underlying9 rfl) trivial rfl ?_
 refine .q (op_move rfl) trivial rfl ?_
 refine .nil ?_
 show Ev _ _ _ _ _
 refine .block ?_
 refine Ev.rounds 5 ?_
 show Ev _ _ _ _ _
 refine .seq ?_
 refine .region ?_
 refine .q (op_cmpI rfl rfl rfl) trivial rfl ?_
 refine .nil ?_
 show Ev _ _ _ _ _
 refine .seq ?_
 refine .cond_true rfl (rfl) ?_
 refine .skip ?_
 show Ev _ _ _ _ _
 refine .seq ?_
 refine .block ?_
 refine .seq ?_
 refine .region ?_
 refine .q (op_move rfl) trivial rfl ?_
 refine .q (op_assign rfl) trivial rfl ?_
 refine .nil ?_
 show Ev _ _ _ _ _
 refine .region ?_
 refine .q (op_move rfl) trivial rfl ?_
 refine .q (op_move rfl) trivial rfl ?_
 refine .q (op_index_str Tryz.underlying9 rfl rfl (show _ = ((0 : Nat) : Int) from rfl) (by decide)) trivial rfl ?_
 refine .a (op_call (U := [(1008, some ⟨.agg [.ptr 1008 0, .sl 1024 0 (1 + 4) 1], 80, true⟩), (1024, some ⟨.aggB (([98]) ++ numB (us.getD 0 0).toUInt64 4 4), 5, true⟩), (1016, none), (1000, some ⟨.agg [.i64 (98), .sl 511 (1) (0) 1, .sl 512 (0) (2) 1, .nilsl, .sl 514 (0) (1) 1], 47, true⟩)]) [(500, 1008), (501, 1016), (510, 1000), (511, 511), (512, 512), (514, 514)] [(1024, 1008)] (putu_USB 98 0 0 0 2 0 1 us (by omega) (([98])) (1) (by first | (simp; done) | (simp [length_numB, length_textB, length_boolB]; omega) | omega) (by omega)) Tryz.func33 (by kernel_rfl) rfl rfl rfl (⟨⟨_, rfl, rfl, rfl⟩, ⟨_, rfl, rfl, rfl⟩, ⟨_, rfl, rfl, rfl⟩, trivial⟩) (⟨⟨_, _, rfl, rfl, rfl, rfl, id, rfl⟩, ⟨_, _, rfl, rfl, rfl, rfl, id, rfl⟩, ⟨_, _, rfl, rfl, rfl, rfl, id, rfl⟩, ⟨_, _, rfl, rfl, rfl, rfl, (fun h => by cases h), rfl⟩, trivial⟩) (⟨⟨500, _, rfl, rfl, rfl, rfl, .inr ⟨rfl, _, rfl, rfl⟩⟩, ⟨1008, _, rfl, rfl, rfl, rfl, .inl rfl⟩, ⟨510, _, rfl, rfl, rfl, rfl, .inr ⟨rfl, _, rfl, rfl⟩⟩, trivial⟩) (⟨(fun _ => ⟨1008, _, rfl, rfl⟩), (fun _ => ⟨1016, _, rfl, rfl⟩), (fun _ => ⟨1000, _, rfl, rfl⟩), (fun h => by cases h), trivial⟩) rfl) trivial rfl ?_
 refine .nil ?_
 show Ev _ _ _ _ _
 refine .region ?_
 refine .q (op_addI rfl rfl ⟨by omega, by omega⟩) trivial rfl ?_
 refine .q (op_move rfl) trivial rfl ?_
 refine .nil ?_
 show Ev _ _ _ _ _
 refine .seq ?_
 refine .region ?_
 refine .q (op_cmpI rfl rfl rfl) trivial rfl ?_
 refine .nil ?_
 show Ev _ _ _ _ _
 refine .seq ?_
 refine .cond_true rfl (rfl) ?_
 refine .skip ?_
 show Ev _ _ _ _ _
 refine .seq ?_
 refine .block ?_
 refine .seq ?_
 refine .region ?_
 refine .q (op_move rfl) trivial rfl ?_
 refine .q (op_assign rfl) trivial rfl ?_
 refine .nil ?_
 show Ev _ _ _ _ _
 refine .region ?_
 refine .q (op_move rfl) trivial rfl ?_
 refine .q (op_move rfl) trivial rfl ?_
 refine .q (op_index_str Tryz.underlying9 rfl rfl (show _ = ((1 : Nat) : Int) from rfl) (by decide)) trivial rfl ?_
 refine .a (op_call (U := [(1008, some ⟨.agg [.ptr 1008 0, .sl 1032 0 (1 + 4 + (4 + (ss.getD 0 []).length)) 1], 80, true⟩), (1032, some ⟨.aggB ((([98]) ++ numB (us.getD 0 0).toUInt64 4 4) ++ textB (ss.getD 0 [])), 5, true⟩), (1024, none), (1000, some ⟨.agg [.i64 (98), .sl 511 (1) (0) 1, .sl 512 (1) (1) 1, .nilsl, .sl 514 (0) (1) 1], 47, true⟩)]) [(500, 1008), (501, 1024), (510, 1000), (511, 511), (512, 512), (514, 514)] [(1032, 1016)] (puts_USB 98 1 0 0 1 0 1 ss (by omega) (hx _) ((([98]) ++ numB (us.getD 0 0).toUInt64 4 4)) (1 + 4) (by first | (simp [length_numB]; done) | (simp [length_numB, length_textB, length_boolB]; omega) | omega) (by omega)) Tryz.func33 (by kernel_rfl) rfl rfl rfl (⟨⟨_, rfl, rfl, rfl⟩, ⟨_, rfl, rfl, rfl⟩, ⟨_, rfl, rfl, rfl⟩, trivial⟩) (⟨⟨_, _, rfl, rfl, rfl, rfl, id, rfl⟩, ⟨_, _, rfl, rfl, rfl, rfl, id, rfl⟩, ⟨_, _, rfl, rfl, rfl, rfl, id, rfl⟩, ⟨_, _, rfl, rfl, rfl, rfl, (fun h => by cases h), rfl⟩, trivial⟩) (⟨⟨500, _, rfl, rfl, rfl, rfl, .inr ⟨rfl, _, rfl, rfl⟩⟩, ⟨1016, _, rfl, rfl, rfl, rfl, .inl rfl⟩, ⟨510, _, rfl, rfl, rfl, rfl, .inr ⟨rfl, _, rfl, rfl⟩⟩, trivial⟩) (⟨(fun _ => ⟨1008, _, rfl, rfl⟩), (fun _ => ⟨1024, _, rfl, rfl⟩), (fun _ => ⟨1000, _, rfl, rfl⟩), (fun h => by cases h), trivial⟩) rfl) trivial rfl ?_
 refine .nil ?_
 show Ev _ _ _ _ _
 refine .region ?_
 refine .q (op_addI rfl rfl ⟨by omega, by omega⟩) trivial rfl ?_
 refine .q (op_move rfl) trivial rfl ?_
 refine .nil ?_
 show Ev _ _ _ _ _
 refine .seq ?_
 refine .region ?_
 refine .q (op_cmpI rfl rfl rfl) trivial rfl ?_
 refine .nil ?_
 show Ev _ _ _ _ _
 refine .seq ?_
 refine .cond_true rfl (rfl) ?_
 refine .skip ?_
 show Ev _ _ _ _ _
 refine .seq ?_
 refine .block ?_
 refine .seq ?_
 refine .region ?_
 refine .q (op_move rfl) trivial rfl ?_
 refine .q (op_assign rfl) trivial rfl ?_
 refine .nil ?_
 show Ev _ _ _ _ _
 refine .region ?_
 refine .q (op_move rfl) trivial rfl ?_
 refine .q (op_move rfl) trivial rfl ?_
 refine .q (op_index_str Tryz.underlying9 rfl rfl (show _ = ((2 : Nat) : Int) from rfl) (by decide)) trivial rfl ?_
 refine .a (op_call (U := [(1008, some ⟨.agg [.ptr 1008 0, .sl 1040 0 (1 + 4 + (4 + (ss.getD 0 []).length) + 1) 1], 80, true⟩), (1040, some ⟨.aggB (((([98]) ++ numB (us.getD 0 0).toUInt64 4 4) ++ textB (ss.getD 0 [])) ++ boolB (bs.getD 0 false)), 5, true⟩), (1032, none), (1000, some ⟨.agg [.i64 (98), .sl 511 (1) (0) 1, .sl 512 (1) (1) 1, .nilsl, .sl 514 (1) (0) 1], 47, true⟩)]) [(500, 1008), (501, 1032), (510, 1000), (511, 511), (512, 512), (514, 514)] [(1040, 1008)] (putb_USB 98 1 0 1 1 0 0 bs (by omega) (((([98]) ++ numB (us.getD 0 0).toUInt64 4 4) ++ textB (ss.getD 0 []))) (1 + 4 + (4 + (ss.getD 0 []).length)) (by first | (simp [length_numB, length_textB]; done) | (simp [length_numB, length_textB]; omega) | omega) (by omega)) Tryz.func33 (by kernel_rfl) rfl rfl rfl (⟨⟨_, rfl, rfl, rfl⟩, ⟨_, rfl, rfl, rfl⟩, ⟨_, rfl, rfl, rfl⟩, trivial⟩) (⟨⟨_, _, rfl, rfl, rfl, rfl, id, rfl⟩, ⟨_, _, rfl, rfl, rfl, rfl, id, rfl⟩, ⟨_, _, rfl, rfl, rfl, rfl, id, rfl⟩, ⟨_, _, rfl, rfl, rfl, rfl, (fun h => by cases h), rfl⟩, trivial⟩) (⟨⟨500, _, rfl, rfl, rfl, rfl, .inr ⟨rfl, _, rfl, rfl⟩⟩, ⟨1008, _, rfl, rfl, rfl, rfl, .inl rfl⟩, ⟨510, _, rfl, rfl, rfl, rfl, .inr ⟨rfl, _, rfl, rfl⟩⟩, trivial⟩) (⟨(fun _ => ⟨1008, _, rfl, rfl⟩), (fun _ => ⟨1032, _, rfl, rfl⟩), (fun _ => ⟨1000, _, rfl, rfl⟩), (fun h => by cases h), trivial⟩) rfl) trivial rfl ?_
 refine .nil ?_
 show Ev _ _ _ _ _
 refine .region ?_
 refine .q (op_addI rfl rfl ⟨by omega, by omega⟩) trivial rfl ?_
 refine .q (op_move rfl) trivial rfl ?_
 refine .nil ?_
 show Ev _ _ _ _ _
 refine .seq ?_
 refine .region ?_
 refine .q (op_cmpI rfl rfl rfl) trivial rfl ?_
 refine .nil ?_
 show Ev _ _ _ _ _
 refine .seq ?_
 refine .cond_true rfl (rfl) ?_
 refine .skip ?_
 show Ev _ _ _ _ _
 refine .seq ?_
 refine .block ?_
 refine .seq ?_
 refine .region ?_
 refine .q (op_move rfl) trivial rfl ?_
 refine .q (op_assign rfl) trivial rfl ?_
 refine .nil ?_
 show Ev _ _ _ _ _
 refine .region ?_
 refine .q (op_move rfl) trivial rfl ?_
 refine .q (op_move rfl) trivial rfl ?_
 refine .q (op_index_str Tryz.underlying9 rfl rfl (show _ = ((3 : Nat) : Int) from rfl) (by decide)) trivial rfl ?_
 refine .a (op_call (U := [(1008, some ⟨.agg [.ptr 1008 0, .sl 1048 0 (1 + 4 + (4 + (ss.getD 0 []).length) + 1 + (ss.getD 1 []).length) 1], 80, true⟩), (1048, some ⟨.aggB ((((([98]) ++ numB (us.getD 0 0).toUInt64 4 4) ++ textB (ss.getD 0 [])) ++ boolB (bs.getD 0 false)) ++ (ss.getD 1 [])), 5, true⟩), (1040, none), (1000, some ⟨.agg [.i64 (98), .sl 511 (1) (0) 1, .sl 512 (2) (0) 1, .nilsl, .sl 514 (1) (0) 1], 47, true⟩)]) [(500, 1008), (501, 1040), (510, 1000), (511, 511), (512, 512), (514, 514)] [(1048, 1008)] (putr_USB 98 1 0 1 0 1 0 ss (by omega) (hx _) ((((([98]) ++ numB (us.getD 0 0).toUInt64 4 4) ++ textB (ss.getD 0 [])) ++ boolB (bs.getD 0 false))) (1 + 4 + (4 + (ss.getD 0 []).length) + 1) (by first | (simp [length_numB, length_textB, length_boolB]; done) | (simp [length_numB, length_textB, length_boolB]; omega) | omega) (by omega)) Tryz.func33 (by kernel_rfl) rfl rfl rfl (⟨⟨_, rfl, rfl, rfl⟩, ⟨_, rfl, rfl, rfl⟩, ⟨_, rfl, rfl, rfl⟩, trivial⟩) (⟨⟨_, _, rfl, rfl, rfl, rfl, id, rfl⟩, ⟨_, _, rfl, rfl, rfl, rfl, id, rfl⟩, ⟨_, _, rfl, rfl, rfl, rfl, id, rfl⟩, ⟨_, _, rfl, rfl, rfl, rfl, (fun h => by cases h), rfl⟩, trivial⟩) (⟨⟨500, _, rfl, rfl, rfl, rfl, .inr ⟨rfl, _, rfl, rfl⟩⟩, ⟨1008, _, rfl, rfl, rfl, rfl, .inl rfl⟩, ⟨510, _, rfl, rfl, rfl, rfl, .inr ⟨rfl, _, rfl, rfl⟩⟩, trivial⟩) (⟨(fun _ => ⟨1008, _, rfl, rfl⟩), (fun _ => ⟨1040, _, rfl, rfl⟩), (fun _ => ⟨1000, _, rfl, rfl⟩), (fun h => by cases h), trivial⟩) rfl) trivial rfl ?_
 refine .nil ?_
 show Ev _ _ _ _ _
 refine .region ?_
 refine .q (op_addI rfl rfl ⟨by omega, by omega⟩) trivial rfl ?_
 refine .q (op_move rfl) trivial rfl ?_
 refine .nil ?_
 show Ev _ _ _ _ _
 refine .seq ?_
 refine .region ?_
 refine .q (op_cmpI rfl rfl rfl) trivial rfl ?_
 refine .nil ?_
 show Ev _ _ _ _ _
 refine .seq ?_
 refine .cond_false rfl (rfl) ?_
 refine .exit ?_
 show Ev _ _ _ _ _
 refine .seq ?_
 refine .region ?_
 refine .a (op_call (U := [(1048, some ⟨.aggB (((((([98]) ++ numB (us.getD 0 0).toUInt64 4 4) ++ textB (ss.getD 0 [])) ++ boolB (bs.getD 0 false)) ++ (ss.getD 1 []))), (frz + 5), false⟩)]) [(500, 1008), (501, 1048)] [] (bytes2_ev (((((([98]) ++ numB (us.getD 0 0).toUInt64 4 4) ++ textB (ss.getD 0 [])) ++ boolB (bs.getD 0 false)) ++ (ss.getD 1 []))) (1 + 4 + (4 + (ss.getD 0 []).length) + 1 + (ss.getD 1 []).length) (by first | (simp [length_numB, length_textB, length_boolB]; done) | (simp [length_numB, length_textB, length_boolB]; omega) | omega) (by omega) (by omega)) Tryz.func34 (by kernel_rfl) rfl rfl rfl (⟨⟨_, rfl, rfl, rfl⟩, trivial⟩) (⟨⟨_, _, rfl, rfl, rfl, rfl, (fun h => by cases h), rfl⟩, ⟨_, _, rfl, rfl, rfl, rfl, id, rfl⟩, trivial⟩) (⟨⟨501, _, rfl, rfl, rfl, rfl, .inr ⟨rfl, _, rfl, rfl⟩⟩, trivial⟩) (⟨(fun h => by cases h), (fun _ => ⟨1048, _, rfl, rfl⟩), trivial⟩) rfl) trivial rfl ?_
 refine .q (op_assign rfl) trivial rfl ?_
 refine .nil ?_
 show Ev _ _ _ _ _
 refine .ret ?_
 show RetOk _ _ _ _ _ _ _
 exact ret1v rfl (.inl rfl) rfl (rfl) ⟨rfl, rfl, rfl, trivial⟩
end Go.Proofs.YtaelhapmikijnaaGreatDoor
namespace Go.Proofs.YtaelhapmikijnaaGreatDoor
open Go.RowKit
set_option maxRecDepth 100000 in
theorem getu_0 (i : DI) (k : Int) (eo : Nat → Nat × Nat) : Meets Tryz.prog 28 [.ptr 500 0, .u8 117, .ptr 510 0] [(500, some ⟨.agg [.str (i).r, .err 165 ((i).e) (offE eo ((i).e))], 107, true⟩), (510, some ⟨.agg [.i64 (k), .nilsl, .nilsl, .nilsl, .nilsl], 47, true⟩), (3, some ⟨.agg [.err 165 (2) (offE eo (2))], errT, false⟩)] (.tup []) [(500, some ⟨.agg [.str ((u32D (i)).1).r, .err 165 (((u32D (i)).1).e) (offE eo (((u32D (i)).1).e))], 107, true⟩), (510, some ⟨.agg [.i64 (k), .sl 1064 (0) (1) 1, .nilsl, .nilsl, .nilsl], 47, true⟩), (1064, some ⟨.agg32 [(u32D (i)).2], 42, true⟩)] := by
 refine meets_of_ev (nt := 87) Tryz.func28 rfl rfl (Nat.le_of_ble_eq_true rfl) ?_
 refine .seq ?_
 refine .region ?_
 refine .q (op_move rfl) trivial rfl ?_
 refine .nil ?_
 show Ev _ _ _ _ _
 refine .block ?_
 refine .seq ?_
 refine .region ?_
 refine .q (op_bin8 rfl rfl rfl) trivial rfl ?_
 refine .q (op_assign rfl) trivial rfl ?_
 refine .nil ?_
 show Ev _ _ _ _ _
 refine .cond_true rfl (rfl) ?_
 refine .drawnF [[], [], [1], [1, 2], [1, 2, 3], [], [5], [5, 6], [1, 2, 3, 4, 5, 6, 7], [0, 1, 2, 3, 4, 5, 6, 7, 8], [0, 1, 2, 3, 4, 5, 6, 7, 8, 9], [0, 1, 2, 3, 4, 5, 6, 7, 8, 9, 10]] [4, 6, 7, 8, 11] [] [(4, ([510], [])), (6, ([3], [500])), (7, ([], [])), (8, ([1056], [])), (11, ([], [510]))] (by kernel_rfl) (by kernel_rfl) rfl ?_
 show DK _ [0, 1, 2, 3, 4, 5, 6, 7, 8, 9, 10, 11] _ _ _
 refine .q rfl (op_move rfl) trivial ?_
 refine .q rfl (op_move rfl) trivial ?_
 refine .q rfl (op_nilCheck rfl) trivial ?_
 refine .q rfl (op_fieldAddr (m := 0) Tryz.underlying47 rfl (by kernel_rfl) rfl) trivial ?_
 refine .as (.ptr 510 1) rfl ?_
 refine .q rfl (op_load Tryz.underlying43 rfl rfl rfl rfl (by first | omega | (simp only [AV.len]; omega) | (simp only [AV.len]; omega) | assumption | (simp [AV.len]; done))) trivial ?_
 refine .q rfl (op_move rfl) trivial ?_
 refine .a rfl (op_call (U := [(500, some ⟨.agg [.str ((u32D (i)).1).r, .err 165 (((u32D (i)).1).e) (offE eo (((u32D (i)).1).e))], 107, true⟩)]) [(500, 500)] [] (iu32_ev i eo) Tryz.func47 (by kernel_rfl) rfl rfl rfl (⟨⟨_, rfl, rfl, rfl⟩, trivial⟩) (⟨⟨_, _, rfl, rfl, rfl, rfl, id, rfl⟩, ⟨_, _, rfl, rfl, rfl, rfl, (fun h => by cases h), rfl⟩, trivial⟩) (⟨⟨500, _, rfl, rfl, rfl, rfl, .inr ⟨rfl, _, rfl, rfl⟩⟩, trivial⟩) (⟨(fun _ => ⟨500, _, rfl, rfl⟩), (fun h => by cases h), trivial⟩) rfl) trivial rfl rfl ?_
 refine .a rfl (ap_build (us := [_]) (c := .agg32 [_]) Tryz.underlying43 inf42 rfl (by decide) (by decide) ⟨rfl, rfl, rfl, trivial⟩ rfl) trivial rfl rfl ?_
 refine .a rfl (ap_cat_nil Tryz.underlying43 inf42 rfl rfl rfl rfl (by decide) (by decide)) trivial rfl rfl ?_
 refine .q rfl (op_nilCheck rfl) trivial ?_
 refine .q rfl (op_fieldAddr (m := 0) Tryz.underlying47 rfl (by kernel_rfl) rfl) trivial ?_
 refine .as (.ptr 510 1) rfl ?_
 refine .w rfl (op_store (by kernel_rfl) rfl rfl rfl rfl rfl (by first | omega | (simp only [AV.len]; omega) | (simp only [AV.len]; omega) | assumption | (simp [AV.len]; done))) trivial rfl rfl ?_
 refine .nil ?_
 show RetOk _ _ _ _ _ _ _
 exact ret0 rfl (.inr rfl) ⟨rfl, rfl, rfl, trivial⟩
set_option maxRecDepth 100000 in
theorem gets_U (i : DI) (k : Int) (nu : Nat) (eo : Nat → Nat × Nat) : Meets Tryz.prog 28 [.ptr 500 0, .u8 115, .ptr 510 0] [(500, some ⟨.agg [.str (i).r, .err 165 ((i).e) (offE eo ((i).e))], 107, true⟩), (510, some ⟨.agg [.i64 (k), .sl 511 (0) (nu) 1, .nilsl, .nilsl, .nilsl], 47, true⟩), (3, some ⟨.agg [.err 165 (2) (offE eo (2))], errT, false⟩), (5, some ⟨.agg [.err 165 (4) (offE eo (4))], errT, false⟩)] (.tup []) [(500, some ⟨.agg [.str ((textD (i) 32768).1).r, .err 165 (((textD (i) 32768).1).e) (offE eo (((textD (i) 32768).1).e))], 107, true⟩), (510, some ⟨.agg [.i64 (k), .sl 511 (0) (nu) 1, .sl 1064 (0) (1) 1, .nilsl, .nilsl], 47, true⟩), (1064, some ⟨.aggS [(textD (i) 32768).2], 9, true⟩)] := by
 refine meets_of_ev (nt := 87) Tryz.func28 rfl rfl (Nat.le_of_ble_eq_true rfl) ?_
 refine .seq ?_
 refine .region ?_
 refine .q (op_move rfl) trivial rfl ?_
 refine .nil ?_
 show Ev _ _ _ _ _
 refine .block ?_
 refine .seq ?_
 refine .region ?_
 refine .q (op_bin8 rfl rfl rfl) trivial rfl ?_
 refine .q (op_assign rfl) trivial rfl ?_
 refine .nil ?_
 show Ev _ _ _ _ _
 refine .cond_false rfl (rfl) ?_
 refine .seq ?_
 refine .region ?_
 refine .q (op_bin8 rfl rfl rfl) trivial rfl ?_
 refine .q (op_assign rfl) trivial rfl ?_
 refine .nil ?_
 show Ev _ _ _ _ _
 refine .cond_false rfl (rfl) ?_
 refine .seq ?_
 refine .region ?_
 refine .q (op_bin8 rfl rfl rfl) trivial rfl ?_
 refine .q (op_assign rfl) trivial rfl ?_
 refine .nil ?_
 show Ev _ _ _ _ _
 refine .cond_false rfl (rfl) ?_
 refine .seq ?_
 refine .region ?_
 refine .q (op_bin8 rfl rfl rfl) trivial rfl ?_
 refine .q (op_assign rfl) trivial rfl ?_
 refine .nil ?_
 show Ev _ _ _ _ _
 refine .cond_true rfl (rfl) ?_
 refine .drawnF [[], [], [1], [1, 2], [1, 2, 3], [], [5], [5, 6], [1, 2, 3, 4, 5, 6, 7], [0, 1, 2, 3, 4, 5, 6, 7, 8], [0, 1, 2, 3, 4, 5, 6, 7, 8, 9], [0, 1, 2, 3, 4, 5, 6, 7, 8, 9, 10]] [4, 6, 7, 8, 11] [] [(4, ([510], [])), (6, ([3, 5], [500])), (7, ([], [])), (8, ([1056], [])), (11, ([], [510]))] (by kernel_rfl) (by kernel_rfl) rfl ?_
 show DK _ [0, 1, 2, 3, 4, 5, 6, 7, 8, 9, 10, 11] _ _ _
 refine .q rfl (op_move rfl) trivial ?_
 refine .q rfl (op_move rfl) trivial ?_
 refine .q rfl (op_nilCheck rfl) trivial ?_
 refine .q rfl (op_fieldAddr (m := 0) Tryz.underlying47 rfl (by kernel_rfl) rfl) trivial ?_
 refine .as (.ptr 510 2) rfl ?_
 refine .q rfl (op_load Tryz.underlying36 rfl rfl rfl rfl (by first | omega | (simp only [AV.len]; omega) | (simp only [AV.len]; omega) | assumption | (simp [AV.len]; done))) trivial ?_
 refine .q rfl (op_move rfl) trivial ?_
 refine .a rfl (op_call (U := [(500, some ⟨.agg [.str ((textD (i) 32768).1).r, .err 165 (((textD (i) 32768).1).e) (offE eo (((textD (i) 32768).1).e))], 107, true⟩)]) [(500, 500)] [] (itext_ev i 32768 eo) Tryz.func36 (by kernel_rfl) rfl rfl rfl (⟨⟨_, rfl, rfl, rfl⟩, ⟨_, rfl, rfl, rfl⟩, trivial⟩) (⟨⟨_, _, rfl, rfl, rfl, rfl, id, rfl⟩, ⟨_, _, rfl, rfl, rfl, rfl, (fun h => by cases h), rfl⟩, ⟨_, _, rfl, rfl, rfl, rfl, (fun h => by cases h), rfl⟩, trivial⟩) (⟨⟨500, _, rfl, rfl, rfl, rfl, .inr ⟨rfl, _, rfl, rfl⟩⟩, trivial⟩) (⟨(fun _ => ⟨500, _, rfl, rfl⟩), (fun h => by cases h), (fun h => by cases h), trivial⟩) rfl) trivial rfl rfl ?_
 refine .a rfl (ap_build (us := [_]) (c := .aggS [_]) Tryz.underlying36 inf9 rfl (by decide) (by decide) ⟨rfl, rfl, rfl, trivial⟩ rfl) trivial rfl rfl ?_
 refine .a rfl (ap_cat_nil Tryz.underlying36 inf9 rfl rfl rfl rfl (by decide) (by decide)) trivial rfl rfl ?_
 refine .q rfl (op_nilCheck rfl) trivial ?_
 refine .q rfl (op_fieldAddr (m := 0) Tryz.underlying47 rfl (by kernel_rfl) rfl) trivial ?_
 refine .as (.ptr 510 2) rfl ?_
 refine .w rfl (op_store (by kernel_rfl) rfl rfl rfl rfl rfl (by first | omega | (simp only [AV.len]; omega) | (simp only [AV.len]; omega) | assumption | (simp [AV.len]; done))) trivial rfl rfl ?_
 refine .nil ?_
 show RetOk _ _ _ _ _ _ _
 exact ret0 rfl (.inr rfl) ⟨rfl, rfl, rfl, trivial⟩
set_option maxRecDepth 100000 in
theorem gets_0 (i : DI) (k : Int) (eo : Nat → Nat × Nat) : Meets Tryz.prog 28 [.ptr 500 0, .u8 115, .ptr 510 0] [(500, some ⟨.agg [.str (i).r, .err 165 ((i).e) (offE eo ((i).e))], 107, true⟩), (510, some ⟨.agg [.i64 (k), .nilsl, .nilsl, .nilsl, .nilsl], 47, true⟩), (3, some ⟨.agg [.err 165 (2) (offE eo (2))], errT, false⟩), (5, some ⟨.agg [.err 165 (4) (offE eo (4))], errT, false⟩)] (.tup []) [(500, some ⟨.agg [.str ((textD (i) 32768).1).r, .err 165 (((textD (i) 32768).1).e) (offE eo (((textD (i) 32768).1).e))], 107, true⟩), (510, some ⟨.agg [.i64 (k), .nilsl, .sl 1064 (0) (1) 1, .nilsl, .nilsl], 47, true⟩), (1064, some ⟨.aggS [(textD (i) 32768).2], 9, true⟩)] := by
 refine meets_of_ev (nt := 87) Tryz.func28 rfl rfl (Nat.le_of_ble_eq_true rfl) ?_
 refine .seq ?_
 refine .region ?_
 refine .q (op_move rfl) trivial rfl ?_
 refine .nil ?_
 show Ev _ _ _ _ _
 refine .block ?_
 refine .seq ?_
 refine .region ?_
 refine .q (op_bin8 rfl rfl rfl) trivial rfl ?_
 refine .q (op_assign rfl) trivial rfl ?_
 refine .nil ?_
 show Ev _ _ _ _ _
 refine .cond_false rfl (rfl) ?_
 refine .seq ?_
 refine .region ?_
 refine .q (op_bin8 rfl rfl rfl) trivial rfl ?_
 refine .q (op_assign rfl) trivial rfl ?_
 refine .nil ?_
 show Ev _ _ _ _ _
 refine .cond_false rfl (rfl) ?_
 refine .seq ?_
 refine .region ?_
 refine .q (op_bin8 rfl rfl rfl) trivial rfl ?_
 refine .q (op_assign rfl) trivial rfl ?_
 refine .nil ?_
 show Ev _ _ _ _ _
 refine .cond_false rfl (rfl) ?_
 refine .seq ?_
 refine .region ?_
 refine .q (op_bin8 rfl rfl rfl) trivial rfl ?_
 refine .q (op_assign rfl) trivial rfl ?_
 refine .nil ?_
 show Ev _ _ _ _ _
 refine .cond_true rfl (rfl) ?_
 refine .drawnF [[], [], [1], [1, 2], [1, 2, 3], [], [5], [5, 6], [1, 2, 3, 4, 5, 6, 7], [0, 1, 2, 3, 4, 5, 6, 7, 8], [0, 1, 2, 3, 4, 5, 6, 7, 8, 9], [0, 1, 2, 3, 4, 5, 6, 7, 8, 9, 10]] [4, 6, 7, 8, 11] [] [(4, ([510], [])), (6, ([3, 5], [500])), (7, ([], [])), (8, ([1056], [])), (11, ([], [510]))] (by kernel_rfl) (by kernel_rfl) rfl ?_
 show DK _ [0, 1, 2, 3, 4, 5, 6, 7, 8, 9, 10, 11] _ _ _
 refine .q rfl (op_move rfl) trivial ?_
 refine .q rfl (op_move rfl) trivial ?_
 refine .q rfl (op_nilCheck rfl) trivial ?_
 refine .q rfl (op_fieldAddr (m := 0) Tryz.underlying47 rfl (by kernel_rfl) rfl) trivial ?_
 refine .as (.ptr 510 2) rfl ?_
 refine .q rfl (op_load Tryz.underlying36 rfl rfl rfl rfl (by first | omega | (simp only [AV.len]; omega) | (simp only [AV.len]; omega) | assumption | (simp [AV.len]; done))) trivial ?_
 refine .q rfl (op_move rfl) trivial ?_
 refine .a rfl (op_call (U := [(500, some ⟨.agg [.str ((textD (i) 32768).1).r, .err 165 (((textD (i) 32768).1).e) (offE eo (((textD (i) 32768).1).e))], 107, true⟩)]) [(500, 500)] [] (itext_ev i 32768 eo) Tryz.func36 (by kernel_rfl) rfl rfl rfl (⟨⟨_, rfl, rfl, rfl⟩, ⟨_, rfl, rfl, rfl⟩, trivial⟩) (⟨⟨_, _, rfl, rfl, rfl, rfl, id, rfl⟩, ⟨_, _, rfl, rfl, rfl, rfl, (fun h => by cases h), rfl⟩, ⟨_, _, rfl, rfl, rfl, rfl, (fun h => by cases h), rfl⟩, trivial⟩) (⟨⟨500, _, rfl, rfl, rfl, rfl, .inr ⟨rfl, _, rfl, rfl⟩⟩, trivial⟩) (⟨(fun _ => ⟨500, _, rfl, rfl⟩), (fun h => by cases h), (fun h => by cases h), trivial⟩) rfl) trivial rfl rfl ?_
 refine .a rfl (ap_build (us := [_]) (c := .aggS [_]) Tryz.underlying36 inf9 rfl (by decide) (by decide) ⟨rfl, rfl, rfl, trivial⟩ rfl) trivial rfl rfl ?_
 refine .a rfl (ap_cat_nil Tryz.underlying36 inf9 rfl rfl rfl rfl (by decide) (by decide)) trivial rfl rfl ?_
 refine .q rfl (op_nilCheck rfl) trivial ?_
 refine .q rfl (op_fieldAddr (m := 0) Tryz.underlying47 rfl (by kernel_rfl) rfl) trivial ?_
 refine .as (.ptr 510 2) rfl ?_
 refine .w rfl (op_store (by kernel_rfl) rfl rfl rfl rfl rfl (by first | omega | (simp only [AV.len]; omega) | (simp only [AV.len]; omega) | assumption | (simp [AV.len]; done))) trivial rfl rfl ?_
 refine .nil ?_
 show RetOk _ _ _ _ _ _ _
 exact ret0 rfl (.inr rfl) ⟨rfl, rfl, rfl, trivial⟩
set_option maxRecDepth 100000 in
theorem getr_0 (i : DI) (k : Int) (eo : Nat → Nat × Nat) : Meets Tryz.prog 28 [.ptr 500 0, .u8 114, .ptr 510 0] [(500, some ⟨.agg [.str (i).r, .err 165 ((i).e) (offE eo ((i).e))], 107, true⟩), (510, some ⟨.agg [.i64 (k), .nilsl, .nilsl, .nilsl, .nilsl], 47, true⟩), (3, some ⟨.agg [.err 165 (2) (offE eo (2))], errT, false⟩)] (.tup []) [(500, some ⟨.agg [.str ((rawD (i) (i).r.length).1).r, .err 165 (((rawD (i) (i).r.length).1).e) (offE eo (((rawD (i) (i).r.length).1).e))], 107, true⟩), (510, some ⟨.agg [.i64 (k), .nilsl, .sl 1080 (0) (1) 1, .nilsl, .nilsl], 47, true⟩), (1080, some ⟨.aggS [(rawD (i) (i).r.length).2], 9, true⟩)] := by
 refine meets_of_ev (nt := 87) Tryz.func28 rfl rfl (Nat.le_of_ble_eq_true rfl) ?_
 refine .seq ?_
 refine .region ?_
 refine .q (op_move rfl) trivial rfl ?_
 refine .nil ?_
 show Ev _ _ _ _ _
 refine .block ?_
 refine .seq ?_
 refine .region ?_
 refine .q (op_bin8 rfl rfl rfl) trivial rfl ?_
 refine .q (op_assign rfl) trivial rfl ?_
 refine .nil ?_
 show Ev _ _ _ _ _
 refine .cond_false rfl (rfl) ?_
 refine .seq ?_
 refine .region ?_
 refine .q (op_bin8 rfl rfl rfl) trivial rfl ?_
 refine .q (op_assign rfl) trivial rfl ?_
 refine .nil ?_
 show Ev _ _ _ _ _
 refine .cond_false rfl (rfl) ?_
 refine .seq ?_
 refine .region ?_
 refine .q (op_bin8 rfl rfl rfl) trivial rfl ?_
 refine .q (op_assign rfl) trivial rfl ?_
 refine .nil ?_
 show Ev _ _ _ _ _
 refine .cond_false rfl (rfl) ?_
 refine .seq ?_
 refine .region ?_
 refine .q (op_bin8 rfl rfl rfl) trivial rfl ?_
 refine .q (op_assign rfl) trivial rfl ?_
 refine .nil ?_
 show Ev _ _ _ _ _
 refine .cond_false rfl (rfl) ?_
 refine .seq ?_
 refine .region ?_
 refine .q (op_bin8 rfl rfl rfl) trivial rfl ?_
 refine .q (op_assign rfl) trivial rfl ?_
 refine .nil ?_
 show Ev _ _ _ _ _
 refine .cond_false rfl (rfl) ?_
 refine .seq ?_
 refine .region ?_
 refine .q (op_bin8 rfl rfl rfl) trivial rfl ?_
 refine .q (op_assign rfl) trivial rfl ?_
 refine .nil ?_
 show Ev _ _ _ _ _
 refine .cond_true rfl (rfl) ?_
 refine .drawnF [[], [], [1], [1, 2], [1, 2, 3], [], [], [6], [5, 6, 7], [5, 6, 7, 8], [1, 2, 3, 4, 5, 6, 7, 8, 9], [0, 1, 2, 3, 4, 5, 6, 7, 8, 9, 10], [0, 1, 2, 3, 4, 5, 6, 7, 8, 9, 10, 11], [0, 1, 2, 3, 4, 5, 6, 7, 8, 9, 10, 11, 12]] [4, 7, 8, 9, 10, 13] [] [(4, ([510], [])), (7, ([500], [])), (8, ([3], [500])), (9, ([], [])), (10, ([1072], [])), (13, ([], [510]))] (by kernel_rfl) (by kernel_rfl) rfl ?_
 show DK _ [0, 1, 2, 3, 4, 5, 6, 7, 8, 9, 10, 11, 12, 13] _ _ _
 refine .q rfl (op_move rfl) trivial ?_
 refine .q rfl (op_move rfl) trivial ?_
 refine .q rfl (op_nilCheck rfl) trivial ?_
 refine .q rfl (op_fieldAddr (m := 0) Tryz.underlying47 rfl (by kernel_rfl) rfl) trivial ?_
 refine .as (.ptr 510 2) rfl ?_
 refine .q rfl (op_load Tryz.underlying36 rfl rfl rfl rfl (by first | omega | (simp only [AV.len]; omega) | (simp only [AV.len]; omega) | assumption | (simp [AV.len]; done))) trivial ?_
 refine .q rfl (op_move rfl) trivial ?_
 refine .q rfl (op_move rfl) trivial ?_
 refine .q rfl (op_call (U := []) [(500, 500)] [] (left_ev i eo) Tryz.func51 (by kernel_rfl) rfl rfl rfl (⟨⟨_, rfl, rfl, rfl⟩, trivial⟩) (⟨⟨_, _, rfl, rfl, rfl, rfl, (fun h => by cases h), rfl⟩, trivial⟩) (trivial) (⟨(fun h => by cases h), trivial⟩) rfl) trivial ?_
 refine .a rfl (op_call (U := [(500, some ⟨.agg [.str ((rawD (i) (i).r.length).1).r, .err 165 (((rawD (i) (i).r.length).1).e) (offE eo (((rawD (i) (i).r.length).1).e))], 107, true⟩)]) [(500, 500)] [] (raw_ev i (i.r.length : Int) eo) Tryz.func50 (by kernel_rfl) rfl rfl rfl (⟨⟨_, rfl, rfl, rfl⟩, ⟨_, rfl, rfl, rfl⟩, trivial⟩) (⟨⟨_, _, rfl, rfl, rfl, rfl, id, rfl⟩, ⟨_, _, rfl, rfl, rfl, rfl, (fun h => by cases h), rfl⟩, trivial⟩) (⟨⟨500, _, rfl, rfl, rfl, rfl, .inr ⟨rfl, _, rfl, rfl⟩⟩, trivial⟩) (⟨(fun _ => ⟨500, _, rfl, rfl⟩), (fun h => by cases h), trivial⟩) rfl) trivial rfl rfl ?_
 refine .a rfl (ap_build (us := [_]) (c := .aggS [_]) Tryz.underlying36 inf9 rfl (by decide) (by decide) ⟨rfl, rfl, rfl, trivial⟩ rfl) trivial rfl rfl ?_
 refine .a rfl (ap_cat_nil Tryz.underlying36 inf9 rfl rfl rfl rfl (by decide) (by decide)) trivial rfl rfl ?_
 refine .q rfl (op_nilCheck rfl) trivial ?_
 refine .q rfl (op_fieldAddr (m := 0) Tryz.underlying47 rfl (by kernel_rfl) rfl) trivial ?_
 refine .as (.ptr 510 2) rfl ?_
 refine .w rfl (op_store (by kernel_rfl) rfl rfl rfl rfl rfl (by first | omega | (simp only [AV.len]; omega) | (simp only [AV.len]; omega) | assumption | (simp [AV.len]; done))) trivial rfl rfl ?_
 refine .nil ?_
 show RetOk _ _ _ _ _ _ _
 exact ret0 rfl (.inr rfl) ⟨rfl, rfl, rfl, trivial⟩
set_option maxRecDepth 100000 in
theorem getb_US (i : DI) (k : Int) (nu ns : Nat) (eo : Nat → Nat × Nat) : Meets Tryz.prog 28 [.ptr 500 0, .u8 98, .ptr 510 0] [(500, some ⟨.agg [.str (i).r, .err 165 ((i).e) (offE eo ((i).e))], 107, true⟩), (510, some ⟨.agg [.i64 (k), .sl 511 (0) (nu) 1, .sl 512 (0) (ns) 1, .nilsl, .nilsl], 47, true⟩), (3, some ⟨.agg [.err 165 (2) (offE eo (2))], errT, false⟩)] (.tup []) [(500, some ⟨.agg [.str ((boolD (i)).1).r, .err 165 (((boolD (i)).1).e) (offE eo (((boolD (i)).1).e))], 107, true⟩), (510, some ⟨.agg [.i64 (k), .sl 511 (0) (nu) 1, .sl 512 (0) (ns) 1, .nilsl, .sl 1064 (0) (1) 1], 47, true⟩), (1064, some ⟨.aggT [(boolD (i)).2], 4, true⟩)] := by
 refine meets_of_ev (nt := 87) Tryz.func28 rfl rfl (Nat.le_of_ble_eq_true rfl) ?_
 refine .seq ?_
 refine .region ?_
 refine .q (op_move rfl) trivial rfl ?_
 refine .nil ?_
 show Ev _ _ _ _ _
 refine .block ?_
 refine .seq ?_
 refine .region ?_
 refine .q (op_bin8 rfl rfl rfl) trivial rfl ?_
 refine .q (op_assign rfl) trivial rfl ?_
 refine .nil ?_
 show Ev _ _ _ _ _
 refine .cond_false rfl (rfl) ?_
 refine .seq ?_
 refine .region ?_
 refine .q (op_bin8 rfl rfl rfl) trivial rfl ?_
 refine .q (op_assign rfl) trivial rfl ?_
 refine .nil ?_
 show Ev _ _ _ _ _
 refine .cond_true rfl (rfl) ?_
 refine .drawnF [[], [], [1], [1, 2], [1, 2, 3], [], [5], [5, 6], [1, 2, 3, 4, 5, 6, 7], [0, 1, 2, 3, 4, 5, 6, 7, 8], [0, 1, 2, 3, 4, 5, 6, 7, 8, 9], [0, 1, 2, 3, 4, 5, 6, 7, 8, 9, 10]] [4, 6, 7, 8, 11] [] [(4, ([510], [])), (6, ([3], [500])), (7, ([], [])), (8, ([1056], [])), (11, ([], [510]))] (by kernel_rfl) (by kernel_rfl) rfl ?_
 show DK _ [0, 1, 2, 3, 4, 5, 6, 7, 8, 9, 10, 11] _ _ _
 refine .q rfl (op_move rfl) trivial ?_
 refine .q rfl (op_move rfl) trivial ?_
 refine .q rfl (op_nilCheck rfl) trivial ?_
 refine .q rfl (op_fieldAddr (m := 0) Tryz.underlying47 rfl (by kernel_rfl) rfl) trivial ?_
 refine .as (.ptr 510 4) rfl ?_
 refine .q rfl (op_load Tryz.underlying45 rfl rfl rfl rfl (by first | omega | (simp only [AV.len]; omega) | (simp only [AV.len]; omega) | assumption | (simp [AV.len]; done))) trivial ?_
 refine .q rfl (op_move rfl) trivial ?_
 refine .a rfl (op_call (U := [(500, some ⟨.agg [.str ((boolD (i)).1).r, .err 165 (((boolD (i)).1).e) (offE eo (((boolD (i)).1).e))], 107, true⟩)]) [(500, 500)] [] (ibool_ev i eo) Tryz.func48 (by kernel_rfl) rfl rfl rfl (⟨⟨_, rfl, rfl, rfl⟩, trivial⟩) (⟨⟨_, _, rfl, rfl, rfl, rfl, id, rfl⟩, ⟨_, _, rfl, rfl, rfl, rfl, (fun h => by cases h), rfl⟩, trivial⟩) (⟨⟨500, _, rfl, rfl, rfl, rfl, .inr ⟨rfl, _, rfl, rfl⟩⟩, trivial⟩) (⟨(fun _ => ⟨500, _, rfl, rfl⟩), (fun h => by cases h), trivial⟩) rfl) trivial rfl rfl ?_
 refine .a rfl (ap_build (us := [_]) (c := .aggT [_]) Tryz.underlying45 inf4 rfl (by decide) (by decide) ⟨rfl, rfl, rfl, trivial⟩ rfl) trivial rfl rfl ?_
 refine .a rfl (ap_cat_nil Tryz.underlying45 inf4 rfl rfl rfl rfl (by decide) (by decide)) trivial rfl rfl ?_
 refine .q rfl (op_nilCheck rfl) trivial ?_
 refine .q rfl (op_fieldAddr (m := 0) Tryz.underlying47 rfl (by kernel_rfl) rfl) trivial ?_
 refine .as (.ptr 510 4) rfl ?_
 refine .w rfl (op_store (by kernel_rfl) rfl rfl rfl rfl rfl (by first | omega | (simp only [AV.len]; omega) | (simp only [AV.len]; omega) | assumption | (simp [AV.len]; done))) trivial rfl rfl ?_
 refine .nil ?_
 show RetOk _ _ _ _ _ _ _
 exact ret0 rfl (.inr rfl) ⟨rfl, rfl, rfl, trivial⟩
set_option maxRecDepth 100000 in
theorem getr_USB (i : DI) (k : Int) (nu ns nb : Nat) (ss : List (List UInt8)) (hl : ns = ss.length) (hl2 : ns ≤ 1000) (eo : Nat → Nat × Nat) : Meets Tryz.prog 28 [.ptr 500 0, .u8 114, .ptr 510 0] [(500, some ⟨.agg [.str (i).r, .err 165 ((i).e) (offE eo ((i).e))], 107, true⟩), (510, some ⟨.agg [.i64 (k), .sl 511 (0) (nu) 1, .sl 512 (0) (ns) 1, .nilsl, .sl 514 (0) (nb) 1], 47, true⟩), (512, some ⟨.aggS ss, 9, true⟩), (3, some ⟨.agg [.err 165 (2) (offE eo (2))], errT, false⟩)] (.tup []) [(500, some ⟨.agg [.str ((rawD (i) (i).r.length).1).r, .err 165 (((rawD (i) (i).r.length).1).e) (offE eo (((rawD (i) (i).r.length).1).e))], 107, true⟩), (510, some ⟨.agg [.i64 (k), .sl 511 (0) (nu) 1, .sl 1080 (0) (ns + 1) 1, .nilsl, .sl 514 (0) (nb) 1], 47, true⟩), (1080, some ⟨.aggS (ss ++ [(rawD (i) (i).r.length).2]), 9, true⟩)] := by
 refine meets_of_ev (nt := 87) Tryz.func28 rfl rfl (Nat.le_of_ble_eq_true rfl) ?_
 refine .seq ?_
 refine .region ?_
 refine .q (op_move rfl) trivial rfl ?_
 refine .nil ?_
 show Ev _ _ _ _ _
 refine .block ?_
 refine .seq ?_
 refine .region ?_
 refine .q (op_bin8 rfl rfl rfl) trivial rfl ?_
 refine .q (op_assign rfl) trivial rfl ?_
 refine .nil ?_
 show Ev _ _ _ _ _
 refine .cond_false rfl (rfl) ?_
 refine .seq ?_
 refine .region ?_
 refine .q (op_bin8 rfl rfl rfl) trivial rfl ?_
 refine .q (op_assign rfl) trivial rfl ?_
 refine .nil ?_
 show Ev _ _ _ _ _
 refine .cond_false rfl (rfl) ?_
 refine .seq ?_
 refine .region ?_
 refine .q (op_bin8 rfl rfl rfl) trivial rfl ?_
 refine .q (op_assign rfl) trivial rfl ?_
 refine .nil ?_
 show Ev _ _ _ _ _
 refine .cond_false rfl (rfl) ?_
 refine .seq ?_
 refine .region ?_
 refine .q (op_bin8 rfl rfl rfl) trivial rfl ?_
 refine .q (op_assign rfl) trivial rfl ?_
 refine .nil ?_
 show Ev _ _ _ _ _
 refine .cond_false rfl (rfl) ?_
 refine .seq ?_
 refine .region ?_
 refine .q (op_bin8 rfl rfl rfl) trivial rfl ?_
 refine .q (op_assign rfl) trivial rfl ?_
 refine .nil ?_
 show Ev _ _ _ _ _
 refine .cond_false rfl (rfl) ?_
 refine .seq ?_
 refine .region ?_
 refine .q (op_bin8 rfl rfl rfl) trivial rfl ?_
 refine .q (op_assign rfl) trivial rfl ?_
 refine .nil ?_
 show Ev _ _ _ _ _
 refine .cond_true rfl (rfl) ?_
 refine .drawnF [[], [], [1], [1, 2], [1, 2, 3], [], [], [6], [5, 6, 7], [5, 6, 7, 8], [1, 2, 3, 4, 5, 6, 7, 8, 9], [0, 1, 2, 3, 4, 5, 6, 7, 8, 9, 10], [0, 1, 2, 3, 4, 5, 6, 7, 8, 9, 10, 11], [0, 1, 2, 3, 4, 5, 6, 7, 8, 9, 10, 11, 12]] [4, 7, 8, 9, 10, 13] [] [(4, ([510], [])), (7, ([500], [])), (8, ([3], [500])), (9, ([], [])), (10, ([1072], [512])), (13, ([], [510]))] (by kernel_rfl) (by kernel_rfl) rfl ?_
 show DK _ [0, 1, 2, 3, 4, 5, 6, 7, 8, 9, 10, 11, 12, 13] _ _ _
 refine .q rfl (op_move rfl) trivial ?_
 refine .q rfl (op_move rfl) trivial ?_
 refine .q rfl (op_nilCheck rfl) trivial ?_
 refine .q rfl (op_fieldAddr (m := 0) Tryz.underlying47 rfl (by kernel_rfl) rfl) trivial ?_
 refine .as (.ptr 510 2) rfl ?_
 refine .q rfl (op_load Tryz.underlying36 rfl rfl rfl rfl (by first | omega | (simp only [AV.len]; omega) | (simp only [AV.len]; omega) | assumption | (simp [AV.len]; done))) trivial ?_
 refine .q rfl (op_move rfl) trivial ?_
 refine .q rfl (op_move rfl) trivial ?_
 refine .q rfl (op_call (U := []) [(500, 500)] [] (left_ev i eo) Tryz.func51 (by kernel_rfl) rfl rfl rfl (⟨⟨_, rfl, rfl, rfl⟩, trivial⟩) (⟨⟨_, _, rfl, rfl, rfl, rfl, (fun h => by cases h), rfl⟩, trivial⟩) (trivial) (⟨(fun h => by cases h), trivial⟩) rfl) trivial ?_
 refine .a rfl (op_call (U := [(500, some ⟨.agg [.str ((rawD (i) (i).r.length).1).r, .err 165 (((rawD (i) (i).r.length).1).e) (offE eo (((rawD (i) (i).r.length).1).e))], 107, true⟩)]) [(500, 500)] [] (raw_ev i (i.r.length : Int) eo) Tryz.func50 (by kernel_rfl) rfl rfl rfl (⟨⟨_, rfl, rfl, rfl⟩, ⟨_, rfl, rfl, rfl⟩, trivial⟩) (⟨⟨_, _, rfl, rfl, rfl, rfl, id, rfl⟩, ⟨_, _, rfl, rfl, rfl, rfl, (fun h => by cases h), rfl⟩, trivial⟩) (⟨⟨500, _, rfl, rfl, rfl, rfl, .inr ⟨rfl, _, rfl, rfl⟩⟩, trivial⟩) (⟨(fun _ => ⟨500, _, rfl, rfl⟩), (fun h => by cases h), trivial⟩) rfl) trivial rfl rfl ?_
 refine .a rfl (ap_build (us := [_]) (c := .aggS [_]) Tryz.underlying36 inf9 rfl (by decide) (by decide) ⟨rfl, rfl, rfl, trivial⟩ rfl) trivial rfl rfl ?_
 refine .a rfl (ap_cat Tryz.underlying36 inf9 rfl rfl rfl rfl (by first | rfl | omega | (simp only [AV.len]; omega) | (show ss.length = ns * 1; omega)) rfl rfl (by first | rfl | omega | (simp only [AV.len]; omega) | (show ss.length = ns * 1; omega)) rfl (by first | rfl | omega | (simp only [AV.len]; omega) | (show ss.length = ns * 1; omega))) trivial rfl rfl ?_
 refine .q rfl (op_nilCheck rfl) trivial ?_
 refine .q rfl (op_fieldAddr (m := 0) Tryz.underlying47 rfl (by kernel_rfl) rfl) trivial ?_
 refine .as (.ptr 510 2) rfl ?_
 refine .w rfl (op_store (by kernel_rfl) rfl rfl rfl rfl rfl (by first | omega | (simp only [AV.len]; omega) | (simp only [AV.len]; omega) | assumption | (simp [AV.len]; done))) trivial rfl rfl ?_
 refine .nil ?_
 show RetOk _ _ _ _ _ _ _
 exact ret0 rfl (.inr rfl) ⟨rfl, rfl, rfl, trivial⟩
set_option maxRecDepth 100000 in
theorem parse_94 (s : List UInt8) (h0 : s ≠ []) (hk : (byteD (DI.mk s 0)).2.toNat = 94) (he : (endD ((textD ((u32D ((byteD (DI.mk s 0)).1)).1) 32768).1)).e = 0) (hb : [(textD ((u32D ((byteD (DI.mk s 0)).1)).1) 32768).2].any bigS = false) (eo : Nat → Nat × Nat) : Meets Tryz.prog 14 [.str s] [(3, some ⟨.agg [.err 165 (2) (offE eo (2))], errT, false⟩), (5, some ⟨.agg [.err 165 (4) (offE eo (4))], errT, false⟩), (4, some ⟨.agg [.err 165 (3) (offE eo (3))], errT, false⟩), (20, some ⟨.agg kindCells, errT, false⟩)] (.tup [.agg [.i64 (94), .sl 1032 (0) (1) 1, .sl 1040 (0) (1) 1, .nilsl, .nilsl], .val .nilIface]) [(1032, some ⟨.agg32 [(u32D ((byteD (DI.mk s 0)).1)).2], 42, true⟩), (1040, some ⟨.aggS [(textD ((u32D ((byteD (DI.mk s 0)).1)).1) 32768).2], 9, true⟩)] := by
 refine meets_of_ev (nt := 52) Tryz.func14 rfl rfl (Nat.le_of_ble_eq_true rfl) ?_
 refine .seq ?_
 refine .region ?_
 refine .a (op_allocRow zero47 rel_zero47 rfl) trivial rfl ?_
 refine .q (op_assign rfl) trivial rfl ?_
 refine .nil ?_
 show Ev _ _ _ _ _
 refine .seq ?_
 refine .seq ?_
 refine .region ?_
 refine .q (op_move rfl) trivial rfl ?_
 refine .q (op_eqS rfl rfl rfl) trivial rfl ?_
 refine .nil ?_
 show Ev _ _ _ _ _
 refine .cond_false rfl (by simpa using h0) ?_
 refine .skip ?_
 show Ev _ _ _ _ _
 refine .seq ?_
 refine .region ?_
 refine .q (op_move rfl) trivial rfl ?_
 refine .a (op_call (U := [(1008, some ⟨.agg [.str (DI.mk s 0).r, .err 165 ((DI.mk s 0).e) (offE eo ((DI.mk s 0).e))], 107, true⟩)]) [] [(1008, 1000)] (wof_ev s eo) Tryz.func25 (by kernel_rfl) rfl rfl rfl (⟨⟨_, rfl, rfl, rfl⟩, trivial⟩) (trivial) (⟨⟨1000, _, rfl, rfl, rfl, rfl, .inl rfl⟩, trivial⟩) (trivial) rfl) trivial rfl ?_
 refine .q (op_assign rfl) trivial rfl ?_
 refine .nil ?_
 show Ev _ _ _ _ _
 refine .seq ?_
 refine .region ?_
 refine .q (op_move rfl) trivial rfl ?_
 refine .a (op_call (U := [(1008, some ⟨.agg [.str ((byteD (DI.mk s 0)).1).r, .err 165 (((byteD (DI.mk s 0)).1).e) (offE eo (((byteD (DI.mk s 0)).1).e))], 107, true⟩)]) [(500, 1008)] [] (ibyte_ev (DI.mk s 0) eo) Tryz.func26 (by kernel_rfl) rfl rfl rfl (⟨⟨_, rfl, rfl, rfl⟩, trivial⟩) (⟨⟨_, _, rfl, rfl, rfl, rfl, id, rfl⟩, ⟨_, _, rfl, rfl, rfl, rfl, (fun h => by cases h), rfl⟩, trivial⟩) (⟨⟨500, _, rfl, rfl, rfl, rfl, .inr ⟨rfl, _, rfl, rfl⟩⟩, trivial⟩) (⟨(fun _ => ⟨1008, _, rfl, rfl⟩), (fun h => by cases h), trivial⟩) rfl) trivial rfl ?_
 refine .q (op_conv Tryz.underlying5 Tryz.underlying3 rfl rfl) trivial rfl ?_
 refine .as (.i64 94) (by rw [hk]; rfl) ?_
 refine .q (op_buildS (r := .agg [.i64 (94), .nilsl, .nilsl, .nilsl, .nilsl]) Tryz.underlying47 rfl zero47 rel_zero47 rfl rfl rfl rfl) trivial rfl ?_
 refine .a (op_allocRow zero47 rel_zero47 rfl) trivial rfl ?_
 refine .w (op_storeRow (by kernel_rfl) rfl rfl rfl rfl rfl (rfl) (rfl)) trivial rfl ?_
 refine .nil ?_
 show Ev _ _ _ _ _
 refine .seq ?_
 refine .region ?_
 refine .q (op_fieldAddr (m := 0) Tryz.underlying47 rfl (by kernel_rfl) rfl) trivial rfl ?_
 refine .as (.ptr 1024 0) rfl ?_
 refine .q (op_load Tryz.underlying3 rfl rfl rfl rfl (by first | omega | (simp only [AV.len]; omega) | (simp only [AV.len]; omega) | assumption | (simp [AV.len]; done))) trivial rfl ?_
 refine .q (op_call (U := []) [] [] (fields_ev 94) Tryz.func27 (by kernel_rfl) rfl rfl rfl (⟨⟨_, rfl, rfl, rfl⟩, trivial⟩) (⟨⟨_, _, rfl, rfl, rfl, rfl, (fun h => by cases h), rfl⟩, trivial⟩) (trivial) (⟨(fun h => by cases h), trivial⟩) rfl) trivial rfl ?_
 refine .q (op_move rfl) trivial rfl ?_
 refine .q (op_extract rfl rfl) trivial rfl ?_
 refine .as (.str [117, 115]) (congrArg AV.str (by rfl)) ?_
 refine .q (op_extract rfl rfl) trivial rfl ?_
 refine .q (op_assign rfl) trivial rfl ?_
 refine .q (op_assign rfl) trivial rfl ?_
 refine .nil ?_
 show Ev _ _ _ _ _
 refine .seq ?_
 refine .seq ?_
 refine .region ?_
 refine .q (op_move rfl) trivial rfl ?_
 refine .q (op_notB rfl) trivial rfl ?_
 refine .nil ?_
 show Ev _ _ _ _ _
 refine .cond_false rfl (rfl) ?_
 refine .skip ?_
 show Ev _ _ _ _ _
 refine .seq ?_
 refine .seq ?_
 refine .region ?_
 refine .q (op_move rfl) trivial rfl ?_
 refine .q (op_len_str Tryz.underlying9 rfl) trivial rfl ?_
 refine .q (op_move rfl) trivial rfl ?_
 refine .nil ?_
 show Ev _ _ _ _ _
 refine .block ?_
 refine Ev.rounds 3 ?_
 show Ev _ _ _ _ _
 refine .seq ?_
 refine .region ?_
 refine .q (op_cmpI rfl rfl rfl) trivial rfl ?_
 refine .nil ?_
 show Ev _ _ _ _ _
 refine .seq ?_
 refine .cond_true rfl (rfl) ?_
 refine .skip ?_
 show Ev _ _ _ _ _
 refine .seq ?_
 refine .block ?_
 refine .seq ?_
 refine .region ?_
 refine .q (op_move rfl) trivial rfl ?_
 refine .q (op_assign rfl) trivial rfl ?_
 refine .nil ?_
 show Ev _ _ _ _ _
 refine .region ?_
 refine .q (op_move rfl) trivial rfl ?_
 refine .q (op_move rfl) trivial rfl ?_
 refine .q (op_move rfl) trivial rfl ?_
 refine .q (op_index_str Tryz.underlying9 rfl rfl (show _ = ((0 : Nat) : Int) from rfl) (by decide)) trivial rfl ?_
 refine .a (op_call (U := [(1008, some ⟨.agg [.str ((u32D ((byteD (DI.mk s 0)).1)).1).r, .err 165 (((u32D ((byteD (DI.mk s 0)).1)).1).e) (offE eo (((u32D ((byteD (DI.mk s 0)).1)).1).e))], 107, true⟩), (1024, some ⟨.agg [.i64 (94), .sl 1032 (0) (1) 1, .nilsl, .nilsl, .nilsl], 47, true⟩), (1032, some ⟨.agg32 [(u32D ((byteD (DI.mk s 0)).1)).2], 42, true⟩)]) [(500, 1008), (510, 1024)] [(1032, 1064)] (getu_0 ((byteD (DI.mk s 0)).1) 94 eo) Tryz.func28 (by kernel_rfl) rfl rfl rfl (⟨⟨_, rfl, rfl, rfl⟩, ⟨_, rfl, rfl, rfl⟩, ⟨_, rfl, rfl, rfl⟩, trivial⟩) (⟨⟨_, _, rfl, rfl, rfl, rfl, id, rfl⟩, ⟨_, _, rfl, rfl, rfl, rfl, id, rfl⟩, ⟨_, _, rfl, rfl, rfl, rfl, (fun h => by cases h), rfl⟩, trivial⟩) (⟨⟨500, _, rfl, rfl, rfl, rfl, .inr ⟨rfl, _, rfl, rfl⟩⟩, ⟨510, _, rfl, rfl, rfl, rfl, .inr ⟨rfl, _, rfl, rfl⟩⟩, ⟨1064, _, rfl, rfl, rfl, rfl, .inl rfl⟩, trivial⟩) (⟨(fun _ => ⟨1008, _, rfl, rfl⟩), (fun _ => ⟨1024, _, rfl, rfl⟩), (fun h => by cases h), trivial⟩) rfl) trivial rfl ?_
 refine .nil ?_
 show Ev _ _ _ _ _
 refine .region ?_
 refine .q (op_addI rfl rfl ⟨by omega, by omega⟩) trivial rfl ?_
 refine .q (op_move rfl) trivial rfl ?_
 refine .nil ?_
 show Ev _ _ _ _ _
 refine .seq ?_
 refine .region ?_
 refine .q (op_cmpI rfl rfl rfl) trivial rfl ?_
 refine .nil ?_
 show Ev _ _ _ _ _
 refine .seq ?_
 refine .cond_true rfl (rfl) ?_
 refine .skip ?_
 show Ev _ _ _ _ _
 refine .seq ?_
 refine .block ?_
 refine .seq ?_
 refine .region ?_
 refine .q (op_move rfl) trivial rfl ?_
 refine .q (op_assign rfl) trivial rfl ?_
 refine .nil ?_
 show Ev _ _ _ _ _
 refine .region ?_
 refine .q (op_move rfl) trivial rfl ?_
 refine .q (op_move rfl) trivial rfl ?_
 refine .q (op_move rfl) trivial rfl ?_
 refine .q (op_index_str Tryz.underlying9 rfl rfl (show _ = ((1 : Nat) : Int) from rfl) (by decide)) trivial rfl ?_
 refine .a (op_call (U := [(1008, some ⟨.agg [.str ((textD ((u32D ((byteD (DI.mk s 0)).1)).1) 32768).1).r, .err 165 (((textD ((u32D ((byteD (DI.mk s 0)).1)).1) 32768).1).e) (offE eo (((textD ((u32D ((byteD (DI.mk s 0)).1)).1) 32768).1).e))], 107, true⟩), (1024, some ⟨.agg [.i64 (94), .sl 1032 (0) (1) 1, .sl 1040 (0) (1) 1, .nilsl, .nilsl], 47, true⟩), (1040, some ⟨.aggS [(textD ((u32D ((byteD (DI.mk s 0)).1)).1) 32768).2], 9, true⟩)]) [(500, 1008), (510, 1024), (511, 1032)] [(1040, 1064)] (gets_U ((u32D ((byteD (DI.mk s 0)).1)).1) 94 1 eo) Tryz.func28 (by kernel_rfl) rfl rfl rfl (⟨⟨_, rfl, rfl, rfl⟩, ⟨_, rfl, rfl, rfl⟩, ⟨_, rfl, rfl, rfl⟩, trivial⟩) (⟨⟨_, _, rfl, rfl, rfl, rfl, id, rfl⟩, ⟨_, _, rfl, rfl, rfl, rfl, id, rfl⟩, ⟨_, _, rfl, rfl, rfl, rfl, (fun h => by cases h), rfl⟩, ⟨_, _, rfl, rfl, rfl, rfl, (fun h => by cases h), rfl⟩, trivial⟩) (⟨⟨500, _, rfl, rfl, rfl, rfl, .inr ⟨rfl, _, rfl, rfl⟩⟩, ⟨510, _, rfl, rfl, rfl, rfl, .inr ⟨rfl, _, rfl, rfl⟩⟩, ⟨1064, _, rfl, rfl, rfl, rfl, .inl rfl⟩, trivial⟩) (⟨(fun _ => ⟨1008, _, rfl, rfl⟩), (fun _ => ⟨1024, _, rfl, rfl⟩), (fun h => by cases h), (fun h => by cases h), trivial⟩) rfl) trivial rfl ?_
 refine .nil ?_
 show Ev _ _ _ _ _
 refine .region ?_
 refine .q (op_addI rfl rfl ⟨by omega, by omega⟩) trivial rfl ?_
 refine .q (op_move rfl) trivial rfl ?_
 refine .nil ?_
 show Ev _ _ _ _ _
 refine .seq ?_
 refine .region ?_
 refine .q (op_cmpI rfl rfl rfl) trivial rfl ?_
 refine .nil ?_
 show Ev _ _ _ _ _
 refine .seq ?_
 refine .cond_false rfl (rfl) ?_
 refine .exit ?_
 show Ev _ _ _ _ _
 refine .seq ?_
 refine .seq ?_
 refine .region ?_
 refine .q (op_move rfl) trivial rfl ?_
 refine .a (op_call (U := [(1008, some ⟨.agg [.str (endD ((textD ((u32D ((byteD (DI.mk s 0)).1)).1) 32768).1)).r, .err 165 ((endD ((textD ((u32D ((byteD (DI.mk s 0)).1)).1) 32768).1)).e) (offE eo ((endD ((textD ((u32D ((byteD (DI.mk s 0)).1)).1) 32768).1)).e))], 107, true⟩)]) [(500, 1008)] [] (end_ev ((textD ((u32D ((byteD (DI.mk s 0)).1)).1) 32768).1) eo) Tryz.func29 (by kernel_rfl) rfl rfl rfl (⟨⟨_, rfl, rfl, rfl⟩, trivial⟩) (⟨⟨_, _, rfl, rfl, rfl, rfl, id, rfl⟩, ⟨_, _, rfl, rfl, rfl, rfl, (fun h => by cases h), rfl⟩, trivial⟩) (⟨⟨500, _, rfl, rfl, rfl, rfl, .inr ⟨rfl, _, rfl, rfl⟩⟩, trivial⟩) (⟨(fun _ => ⟨1008, _, rfl, rfl⟩), (fun h => by cases h), trivial⟩) rfl) trivial rfl ?_
 refine .q (op_assign rfl) trivial rfl ?_
 refine .nil ?_
 show Ev _ _ _ _ _
 refine .seq ?_
 refine .region ?_
 refine .q (op_move rfl) trivial rfl ?_
 refine .q (op_eqErrNil (e := (endD ((textD ((u32D ((byteD (DI.mk s 0)).1)).1) 32768).1)).e) Tryz.underlying30 rfl rfl) trivial rfl ?_
 refine .nil ?_
 show Ev _ _ _ _ _
 refine .cond_false rfl (by rw [he]; rfl) ?_
 refine .skip ?_
 show Ev _ _ _ _ _
 refine .seq ?_
 refine .seq ?_
 refine .region ?_
 refine .q (op_loadRow Tryz.underlying47 rfl (by kernel_rfl) rfl rfl rfl (rfl)) trivial rfl ?_
 refine .q (op_call (U := []) [(511, 1032), (512, 1040)] [] (toolong_US 94 1 1 [(textD ((u32D ((byteD (DI.mk s 0)).1)).1) 32768).2] (by rfl) (by decide)) Tryz.func30 (by kernel_rfl) rfl rfl rfl (⟨⟨_, rfl, rfl, rfl⟩, trivial⟩) (⟨⟨_, _, rfl, rfl, rfl, rfl, (fun h => by cases h), rfl⟩, trivial⟩) (trivial) (⟨(fun h => by cases h), trivial⟩) rfl) trivial rfl ?_
 refine .nil ?_
 show Ev _ _ _ _ _
 refine .cond_false rfl (hb) ?_
 refine .skip ?_
 show Ev _ _ _ _ _
 refine .seq ?_
 refine .region ?_
 refine .q (op_loadRow Tryz.underlying47 rfl (by kernel_rfl) rfl rfl rfl (rfl)) trivial rfl ?_
 refine .w (op_storeRow (by kernel_rfl) rfl rfl rfl rfl rfl (rfl) (rfl)) trivial rfl ?_
 refine .q (op_assign rfl) trivial rfl ?_
 refine .nil ?_
 show Ev _ _ _ _ _
 refine .ret ?_
 show RetOk _ _ _ _ _ _ _
 exact retc2 rfl (.inl rfl) ⟨_, _, _, _, rfl, rfl, rfl, rfl, rfl, Tryz.underlying47, rfl, (by kernel_rfl)⟩ rfl ⟨rfl, rfl, trivial⟩
set_option maxRecDepth 100000 in
theorem parse_2 (s : List UInt8) (h0 : s ≠ []) (hk : (byteD (DI.mk s 0)).2.toNat = 2) (he : (endD ((textD ((byteD (DI.mk s 0)).1) 32768).1)).e = 0) (hb : [(textD ((byteD (DI.mk s 0)).1) 32768).2].any bigS = false) (eo : Nat → Nat × Nat) : Meets Tryz.prog 14 [.str s] [(3, some ⟨.agg [.err 165 (2) (offE eo (2))], errT, false⟩), (5, some ⟨.agg [.err 165 (4) (offE eo (4))], errT, false⟩), (4, some ⟨.agg [.err 165 (3) (offE eo (3))], errT, false⟩), (20, some ⟨.agg kindCells, errT, false⟩)] (.tup [.agg [.i64 (2), .nilsl, .sl 1032 (0) (1) 1, .nilsl, .nilsl], .val .nilIface]) [(1032, some ⟨.aggS [(textD ((byteD (DI.mk s 0)).1) 32768).2], 9, true⟩)] := by
 refine meets_of_ev (nt := 52) Tryz.func14 rfl rfl (Nat.le_of_ble_eq_true rfl) ?_
 refine .seq ?_
 refine .region ?_
 refine .a (op_allocRow zero47 rel_zero47 rfl) trivial rfl ?_
 refine .q (op_assign rfl) trivial rfl ?_
 refine .nil ?_
 show Ev _ _ _ _ _
 refine .seq ?_
 refine .seq ?_
 refine .region ?_
 refine .q (op_move rfl) trivial rfl ?_
 refine .q (op_eqS rfl rfl rfl) trivial rfl ?_
 refine .nil ?_
 show Ev _ _ _ _ _
 refine .cond_false rfl (by simpa using h0) ?_
 refine .skip ?_
 show Ev _ _ _ _ _
 refine .seq ?_
 refine .region ?_
 refine .q (op_move rfl) trivial rfl ?_
 refine .a (op_call (U := [(1008, some ⟨.agg [.str (DI.mk s 0).r, .err 165 ((DI.mk s 0).e) (offE eo ((DI.mk s 0).e))], 107, true⟩)]) [] [(1008, 1000)] (wof_ev s eo) Tryz.func25 (by kernel_rfl) rfl rfl rfl (⟨⟨_, rfl, rfl, rfl⟩, trivial⟩) (trivial) (⟨⟨1000, _, rfl, rfl, rfl, rfl, .inl rfl⟩, trivial⟩) (trivial) rfl) trivial rfl ?_
 refine .q (op_assign rfl) trivial rfl ?_
 refine .nil ?_
 show Ev _ _ _ _ _
 refine .seq ?_
 refine .region ?_
 refine .q (op_move rfl) trivial rfl ?_
 refine .a (op_call (U := [(1008, some ⟨.agg [.str ((byteD (DI.mk s 0)).1).r, .err 165 (((byteD (DI.mk s 0)).1).e) (offE eo (((byteD (DI.mk s 0)).1).e))], 107, true⟩)]) [(500, 1008)] [] (ibyte_ev (DI.mk s 0) eo) Tryz.func26 (by kernel_rfl) rfl rfl rfl (⟨⟨_, rfl, rfl, rfl⟩, trivial⟩) (⟨⟨_, _, rfl, rfl, rfl, rfl, id, rfl⟩, ⟨_, _, rfl, rfl, rfl, rfl, (fun h => by cases h), rfl⟩, trivial⟩) (⟨⟨500, _, rfl, rfl, rfl, rfl, .inr ⟨rfl, _, rfl, rfl⟩⟩, trivial⟩) (⟨(fun _ => ⟨1008, _, rfl, rfl⟩), (fun h => by cases h), trivial⟩) rfl) trivial rfl ?_
 refine .q (op_conv Tryz.underlying5 Tryz.underlying3 rfl rfl) trivial rfl ?_
 refine .as (.i64 2) (by rw [hk]; rfl) ?_
 refine .q (op_buildS (r := .agg [.i64 (2), .nilsl, .nilsl, .nilsl, .nilsl]) Tryz.underlying47 rfl zero47 rel_zero47 rfl rfl rfl rfl) trivial rfl ?_
 refine .a (op_allocRow zero47 rel_zero47 rfl) trivial rfl ?_
 refine .w (op_storeRow (by kernel_rfl) rfl rfl rfl rfl rfl (rfl) (rfl)) trivial rfl ?_
 refine .nil ?_
 show Ev _ _ _ _ _
 refine .seq ?_
 refine .region ?_
 refine .q (op_fieldAddr (m := 0) Tryz.underlying47 rfl (by kernel_rfl) rfl) trivial rfl ?_
 refine .as (.ptr 1024 0) rfl ?_
 refine .q (op_load Tryz.underlying3 rfl rfl rfl rfl (by first | omega | (simp only [AV.len]; omega) | (simp only [AV.len]; omega) | assumption | (simp [AV.len]; done))) trivial rfl ?_
 refine .q (op_call (U := []) [] [] (fields_ev 2) Tryz.func27 (by kernel_rfl) rfl rfl rfl (⟨⟨_, rfl, rfl, rfl⟩, trivial⟩) (⟨⟨_, _, rfl, rfl, rfl, rfl, (fun h => by cases h), rfl⟩, trivial⟩) (trivial) (⟨(fun h => by cases h), trivial⟩) rfl) trivial rfl ?_
 refine .q (op_move rfl) trivial rfl ?_
 refine .q (op_extract rfl rfl) trivial rfl ?_
 refine .as (.str [115]) (congrArg AV.str (by rfl)) ?_
 refine .q (op_extract rfl rfl) trivial rfl ?_
 refine .q (op_assign rfl) trivial rfl ?_
 refine .q (op_assign rfl) trivial rfl ?_
 refine .nil ?_
 show Ev _ _ _ _ _
 refine .seq ?_
 refine .seq ?_
 refine .region ?_
 refine .q (op_move rfl) trivial rfl ?_
 refine .q (op_notB rfl) trivial rfl ?_
 refine .nil ?_
 show Ev _ _ _ _ _
 refine .cond_false rfl (rfl) ?_
 refine .skip ?_
 show Ev _ _ _ _ _
 refine .seq ?_
 refine .seq ?_
 refine .region ?_
 refine .q (op_move rfl) trivial rfl ?_
 refine .q (op_len_str Tryz.underlying9 rfl) trivial rfl ?_
 refine .q (op_move rfl) trivial rfl ?_
 refine .nil ?_
 show Ev _ _ _ _ _
 refine .block ?_
 refine Ev.rounds 2 ?_
 show Ev _ _ _ _ _
 refine .seq ?_
 refine .region ?_
 refine .q (op_cmpI rfl rfl rfl) trivial rfl ?_
 refine .nil ?_
 show Ev _ _ _ _ _
 refine .seq ?_
 refine .cond_true rfl (rfl) ?_
 refine .skip ?_
 show Ev _ _ _ _ _
 refine .seq ?_
 refine .block ?_
 refine .seq ?_
 refine .region ?_
 refine .q (op_move rfl) trivial rfl ?_
 refine .q (op_assign rfl) trivial rfl ?_
 refine .nil ?_
 show Ev _ _ _ _ _
 refine .region ?_
 refine .q (op_move rfl) trivial rfl ?_
 refine .q (op_move rfl) trivial rfl ?_
 refine .q (op_move rfl) trivial rfl ?_
 refine .q (op_index_str Tryz.underlying9 rfl rfl (show _ = ((0 : Nat) : Int) from rfl) (by decide)) trivial rfl ?_
 refine .a (op_call (U := [(1008, some ⟨.agg [.str ((textD ((byteD (DI.mk s 0)).1) 32768).1).r, .err 165 (((textD ((byteD (DI.mk s 0)).1) 32768).1).e) (offE eo (((textD ((byteD (DI.mk s 0)).1) 32768).1).e))], 107, true⟩), (1024, some ⟨.agg [.i64 (2), .nilsl, .sl 1032 (0) (1) 1, .nilsl, .nilsl], 47, true⟩), (1032, some ⟨.aggS [(textD ((byteD (DI.mk s 0)).1) 32768).2], 9, true⟩)]) [(500, 1008), (510, 1024)] [(1032, 1064)] (gets_0 ((byteD (DI.mk s 0)).1) 2 eo) Tryz.func28 (by kernel_rfl) rfl rfl rfl (⟨⟨_, rfl, rfl, rfl⟩, ⟨_, rfl, rfl, rfl⟩, ⟨_, rfl, rfl, rfl⟩, trivial⟩) (⟨⟨_, _, rfl, rfl, rfl, rfl, id, rfl⟩, ⟨_, _, rfl, rfl, rfl, rfl, id, rfl⟩, ⟨_, _, rfl, rfl, rfl, rfl, (fun h => by cases h), rfl⟩, ⟨_, _, rfl, rfl, rfl, rfl, (fun h => by cases h), rfl⟩, trivial⟩) (⟨⟨500, _, rfl, rfl, rfl, rfl, .inr ⟨rfl, _, rfl, rfl⟩⟩, ⟨510, _, rfl, rfl, rfl, rfl, .inr ⟨rfl, _, rfl, rfl⟩⟩, ⟨1064, _, rfl, rfl, rfl, rfl, .inl rfl⟩, trivial⟩) (⟨(fun _ => ⟨1008, _, rfl, rfl⟩), (fun _ => ⟨1024, _, rfl, rfl⟩), (fun h => by cases h), (fun h => by cases h), trivial⟩) rfl) trivial rfl ?_
 refine .nil ?_
 show Ev _ _ _ _ _
 refine .region ?_
 refine .q (op_addI rfl rfl ⟨by omega, by omega⟩) trivial rfl ?_
 refine .q (op_move rfl) trivial rfl ?_
 refine .nil ?_
 show Ev _ _ _ _ _
 refine .seq ?_
 refine .region ?_
 refine .q (op_cmpI rfl rfl rfl) trivial rfl ?_
 refine .nil ?_
 show Ev _ _ _ _ _
 refine .seq ?_
 refine .cond_false rfl (rfl) ?_
 refine .exit ?_
 show Ev _ _ _ _ _
 refine .seq ?_
 refine .seq ?_
 refine .region ?_
 refine .q (op_move rfl) trivial rfl ?_
 refine .a (op_call (U := [(1008, some ⟨.agg [.str (endD ((textD ((byteD (DI.mk s 0)).1) 32768).1)).r, .err 165 ((endD ((textD ((byteD (DI.mk s 0)).1) 32768).1)).e) (offE eo ((endD ((textD ((byteD (DI.mk s 0)).1) 32768).1)).e))], 107, true⟩)]) [(500, 1008)] [] (end_ev ((textD ((byteD (DI.mk s 0)).1) 32768).1) eo) Tryz.func29 (by kernel_rfl) rfl rfl rfl (⟨⟨_, rfl, rfl, rfl⟩, trivial⟩) (⟨⟨_, _, rfl, rfl, rfl, rfl, id, rfl⟩, ⟨_, _, rfl, rfl, rfl, rfl, (fun h => by cases h), rfl⟩, trivial⟩) (⟨⟨500, _, rfl, rfl, rfl, rfl, .inr ⟨rfl, _, rfl, rfl⟩⟩, trivial⟩) (⟨(fun _ => ⟨1008, _, rfl, rfl⟩), (fun h => by cases h), trivial⟩) rfl) trivial rfl ?_
 refine .q (op_assign rfl) trivial rfl ?_
 refine .nil ?_
 show Ev _ _ _ _ _
 refine .seq ?_
 refine .region ?_
 refine .q (op_move rfl) trivial rfl ?_
 refine .q (op_eqErrNil (e := (endD ((textD ((byteD (DI.mk s 0)).1) 32768).1)).e) Tryz.underlying30 rfl rfl) trivial rfl ?_
 refine .nil ?_
 show Ev _ _ _ _ _
 refine .cond_false rfl (by rw [he]; rfl) ?_
 refine .skip ?_
 show Ev _ _ _ _ _
 refine .seq ?_
 refine .seq ?_
 refine .region ?_
 refine .q (op_loadRow Tryz.underlying47 rfl (by kernel_rfl) rfl rfl rfl (rfl)) trivial rfl ?_
 refine .q (op_call (U := []) [(512, 1032)] [] (toolong_S 2 1 [(textD ((byteD (DI.mk s 0)).1) 32768).2] (by rfl) (by decide)) Tryz.func30 (by kernel_rfl) rfl rfl rfl (⟨⟨_, rfl, rfl, rfl⟩, trivial⟩) (⟨⟨_, _, rfl, rfl, rfl, rfl, (fun h => by cases h), rfl⟩, trivial⟩) (trivial) (⟨(fun h => by cases h), trivial⟩) rfl) trivial rfl ?_
 refine .nil ?_
 show Ev _ _ _ _ _
 refine .cond_false rfl (hb) ?_
 refine .skip ?_
 show Ev _ _ _ _ _
 refine .seq ?_
 refine .region ?_
 refine .q (op_loadRow Tryz.underlying47 rfl (by kernel_rfl) rfl rfl rfl (rfl)) trivial rfl ?_
 refine .w (op_storeRow (by kernel_rfl) rfl rfl rfl rfl rfl (rfl) (rfl)) trivial rfl ?_
 refine .q (op_assign rfl) trivial rfl ?_
 refine .nil ?_
 show Ev _ _ _ _ _
 refine .ret ?_
 show RetOk _ _ _ _ _ _ _
 exact retc2 rfl (.inl rfl) ⟨_, _, _, _, rfl, rfl, rfl, rfl, rfl, Tryz.underlying47, rfl, (by kernel_rfl)⟩ rfl ⟨rfl, trivial⟩
set_option maxRecDepth 100000 in
theorem parse_81 (s : List UInt8) (h0 : s ≠ []) (hk : (byteD (DI.mk s 0)).2.toNat = 81) (he : (endD ((rawD ((byteD (DI.mk s 0)).1) ((byteD (DI.mk s 0)).1).r.length).1)).e = 0) (hb : [(rawD ((byteD (DI.mk s 0)).1) ((byteD (DI.mk s 0)).1).r.length).2].any bigS = false) (eo : Nat → Nat × Nat) : Meets Tryz.prog 14 [.str s] [(3, some ⟨.agg [.err 165 (2) (offE eo (2))], errT, false⟩), (5, some ⟨.agg [.err 165 (4) (offE eo (4))], errT, false⟩), (4, some ⟨.agg [.err 165 (3) (offE eo (3))], errT, false⟩), (20, some ⟨.agg kindCells, errT, false⟩)] (.tup [.agg [.i64 (81), .nilsl, .sl 1032 (0) (1) 1, .nilsl, .nilsl], .val .nilIface]) [(1032, some ⟨.aggS [(rawD ((byteD (DI.mk s 0)).1) ((byteD (DI.mk s 0)).1).r.length).2], 9, true⟩)] := by
 refine meets_of_ev (nt := 52) Tryz.func14 rfl rfl (Nat.le_of_ble_eq_true rfl) ?_
 refine .seq ?_
 refine .region ?_
 refine .a (op_allocRow zero47 rel_zero47 rfl) trivial rfl ?_
 refine .q (op_assign rfl) trivial rfl ?_
 refine .nil ?_
 show Ev _ _ _ _ _
 refine .seq ?_
 refine .seq ?_
 refine .region ?_
 refine .q (op_move rfl) trivial rfl ?_
 refine .q (op_eqS rfl rfl rfl) trivial rfl ?_
 refine .nil ?_
 show Ev _ _ _ _ _
 refine .cond_false rfl (by simpa using h0) ?_
 refine .skip ?_
 show Ev _ _ _ _ _
 refine .seq ?_
 refine .region ?_
 refine .q (op_move rfl) trivial rfl ?_
 refine .a (op_call (U := [(1008, some ⟨.agg [.str (DI.mk s 0).r, .err 165 ((DI.mk s 0).e) (offE eo ((DI.mk s 0).e))], 107, true⟩)]) [] [(1008, 1000)] (wof_ev s eo) Tryz.func25 (by kernel_rfl) rfl rfl rfl (⟨⟨_, rfl, rfl, rfl⟩, trivial⟩) (trivial) (⟨⟨1000, _, rfl, rfl, rfl, rfl, .inl rfl⟩, trivial⟩) (trivial) rfl) trivial rfl ?_
 refine .q (op_assign rfl) trivial rfl ?_
 refine .nil ?_
 show Ev _ _ _ _ _
 refine .seq ?_
 refine .region ?_
 refine .q (op_move rfl) trivial rfl ?_
 refine .a (op_call (U := [(1008, some ⟨.agg [.str ((byteD (DI.mk s 0)).1).r, .err 165 (((byteD (DI.mk s 0)).1).e) (offE eo (((byteD (DI.mk s 0)).1).e))], 107, true⟩)]) [(500, 1008)] [] (ibyte_ev (DI.mk s 0) eo) Tryz.func26 (by kernel_rfl) rfl rfl rfl (⟨⟨_, rfl, rfl, rfl⟩, trivial⟩) (⟨⟨_, _, rfl, rfl, rfl, rfl, id, rfl⟩, ⟨_, _, rfl, rfl, rfl, rfl, (fun h => by cases h), rfl⟩, trivial⟩) (⟨⟨500, _, rfl, rfl, rfl, rfl, .inr ⟨rfl, _, rfl, rfl⟩⟩, trivial⟩) (⟨(fun _ => ⟨1008, _, rfl, rfl⟩), (fun h => by cases h), trivial⟩) rfl) trivial rfl ?_
 refine .q (op_conv Tryz.underlying5 Tryz.underlying3 rfl rfl) trivial rfl ?_
 refine .as (.i64 81) (by rw [hk]; rfl) ?_
 refine .q (op_buildS (r := .agg [.i64 (81), .nilsl, .nilsl, .nilsl, .nilsl]) Tryz.underlying47 rfl zero47 rel_zero47 rfl rfl rfl rfl) trivial rfl ?_
 refine .a (op_allocRow zero47 rel_zero47 rfl) trivial rfl ?_
 refine .w (op_storeRow (by kernel_rfl) rfl rfl rfl rfl rfl (rfl) (rfl)) trivial rfl ?_
 refine .nil ?_
 show Ev _ _ _ _ _
 refine .seq ?_
 refine .region ?_
 refine .q (op_fieldAddr (m := 0) Tryz.underlying47 rfl (by kernel_rfl) rfl) trivial rfl ?_
 refine .as (.ptr 1024 0) rfl ?_
 refine .q (op_load Tryz.underlying3 rfl rfl rfl rfl (by first | omega | (simp only [AV.len]; omega) | (simp only [AV.len]; omega) | assumption | (simp [AV.len]; done))) trivial rfl ?_
 refine .q (op_call (U := []) [] [] (fields_ev 81) Tryz.func27 (by kernel_rfl) rfl rfl rfl (⟨⟨_, rfl, rfl, rfl⟩, trivial⟩) (⟨⟨_, _, rfl, rfl, rfl, rfl, (fun h => by cases h), rfl⟩, trivial⟩) (trivial) (⟨(fun h => by cases h), trivial⟩) rfl) trivial rfl ?_
 refine .q (op_move rfl) trivial rfl ?_
 refine .q (op_extract rfl rfl) trivial rfl ?_
 refine .as (.str [114]) (congrArg AV.str (by rfl)) ?_
 refine .q (op_extract rfl rfl) trivial rfl ?_
 refine .q (op_assign rfl) trivial rfl ?_
 refine .q (op_assign rfl) trivial rfl ?_
 refine .nil ?_
 show Ev _ _ _ _ _
 refine .seq ?_
 refine .seq ?_
 refine .region ?_
 refine .q (op_move rfl) trivial rfl ?_
 refine .q (op_notB rfl) trivial rfl ?_
 refine .nil ?_
 show Ev _ _ _ _ _
 refine .cond_false rfl (rfl) ?_
 refine .skip ?_
 show Ev _ _ _ _ _
 refine .seq ?_
 refine .seq ?_
 refine .region ?_
 refine .q (op_move rfl) trivial rfl ?_
 refine .q (op_len_str Tryz.underlying9 rfl) trivial rfl ?_
 refine .q (op_move rfl) trivial rfl ?_
 refine .nil ?_
 show Ev _ _ _ _ _
 refine .block ?_
 refine Ev.rounds 2 ?_
 show Ev _ _ _ _ _
 refine .seq ?_
 refine .region ?_
 refine .q (op_cmpI rfl rfl rfl) trivial rfl ?_
 refine .nil ?_
 show Ev _ _ _ _ _
 refine .seq ?_
 refine .cond_true rfl (rfl) ?_
 refine .skip ?_
 show Ev _ _ _ _ _
 refine .seq ?_
 refine .block ?_
 refine .seq ?_
 refine .region ?_
 refine .q (op_move rfl) trivial rfl ?_
 refine .q (op_assign rfl) trivial rfl ?_
 refine .nil ?_
 show Ev _ _ _ _ _
 refine .region ?_
 refine .q (op_move rfl) trivial rfl ?_
 refine .q (op_move rfl) trivial rfl ?_
 refine .q (op_move rfl) trivial rfl ?_
 refine .q (op_index_str Tryz.underlying9 rfl rfl (show _ = ((0 : Nat) : Int) from rfl) (by decide)) trivial rfl ?_
 refine .a (op_call (U := [(1008, some ⟨.agg [.str ((rawD ((byteD (DI.mk s 0)).1) ((byteD (DI.mk s 0)).1).r.length).1).r, .err 165 (((rawD ((byteD (DI.mk s 0)).1) ((byteD (DI.mk s 0)).1).r.length).1).e) (offE eo (((rawD ((byteD (DI.mk s 0)).1) ((byteD (DI.mk s 0)).1).r.length).1).e))], 107, true⟩), (1024, some ⟨.agg [.i64 (81), .nilsl, .sl 1032 (0) (1) 1, .nilsl, .nilsl], 47, true⟩), (1032, some ⟨.aggS [(rawD ((byteD (DI.mk s 0)).1) ((byteD (DI.mk s 0)).1).r.length).2], 9, true⟩)]) [(500, 1008), (510, 1024)] [(1032, 1080)] (getr_0 ((byteD (DI.mk s 0)).1) 81 eo) Tryz.func28 (by kernel_rfl) rfl rfl rfl (⟨⟨_, rfl, rfl, rfl⟩, ⟨_, rfl, rfl, rfl⟩, ⟨_, rfl, rfl, rfl⟩, trivial⟩) (⟨⟨_, _, rfl, rfl, rfl, rfl, id, rfl⟩, ⟨_, _, rfl, rfl, rfl, rfl, id, rfl⟩, ⟨_, _, rfl, rfl, rfl, rfl, (fun h => by cases h), rfl⟩, trivial⟩) (⟨⟨500, _, rfl, rfl, rfl, rfl, .inr ⟨rfl, _, rfl, rfl⟩⟩, ⟨510, _, rfl, rfl, rfl, rfl, .inr ⟨rfl, _, rfl, rfl⟩⟩, ⟨1080, _, rfl, rfl, rfl, rfl, .inl rfl⟩, trivial⟩) (⟨(fun _ => ⟨1008, _, rfl, rfl⟩), (fun _ => ⟨1024, _, rfl, rfl⟩), (fun h => by cases h), trivial⟩) rfl) trivial rfl ?_
 refine .nil ?_
 show Ev _ _ _ _ _
 refine .region ?_
 refine .q (op_addI rfl rfl ⟨by omega, by omega⟩) trivial rfl ?_
 refine .q (op_move rfl) trivial rfl ?_
 refine .nil ?_
 show Ev _ _ _ _ _
 refine .seq ?_
 refine .region ?_
 refine .q (op_cmpI rfl rfl rfl) trivial rfl ?_
 refine .nil ?_
 show Ev _ _ _ _ _
 refine .seq ?_
 refine .cond_false rfl (rfl) ?_
 refine .exit ?_
 show Ev _ _ _ _ _
 refine .seq ?_
 refine .seq ?_
 refine .region ?_
 refine .q (op_move rfl) trivial rfl ?_
 refine .a (op_call (U := [(1008, some ⟨.agg [.str (endD ((rawD ((byteD (DI.mk s 0)).1) ((byteD (DI.mk s 0)).1).r.length).1)).r, .err 165 ((endD ((rawD ((byteD (DI.mk s 0)).1) ((byteD (DI.mk s 0)).1).r.length).1)).e) (offE eo ((endD ((rawD ((byteD (DI.mk s 0)).1) ((byteD (DI.mk s 0)).1).r.length).1)).e))], 107, true⟩)]) [(500, 1008)] [] (end_ev ((rawD ((byteD (DI.mk s 0)).1) ((byteD (DI.mk s 0)).1).r.length).1) eo) Tryz.func29 (by kernel_rfl) rfl rfl rfl (⟨⟨_, rfl, rfl, rfl⟩, trivial⟩) (⟨⟨_, _, rfl, rfl, rfl, rfl, id, rfl⟩, ⟨_, _, rfl, rfl, rfl, rfl, (fun h => by cases h), rfl⟩, trivial⟩) (⟨⟨500, _, rfl, rfl, rfl, rfl, .inr ⟨rfl, _, rfl, rfl⟩⟩, trivial⟩) (⟨(fun _ => ⟨1008, _, rfl, rfl⟩), (fun h => by cases h), trivial⟩) rfl) trivial rfl ?_
 refine .q (op_assign rfl) trivial rfl ?_
 refine .nil ?_
 show Ev _ _ _ _ _
 refine .seq ?_
 refine .region ?_
 refine .q (op_move rfl) trivial rfl ?_
 refine .q (op_eqErrNil (e := (endD ((rawD ((byteD (DI.mk s 0)).1) ((byteD (DI.mk s 0)).1).r.length).1)).e) Tryz.underlying30 rfl rfl) trivial rfl ?_
 refine .nil ?_
 show Ev _ _ _ _ _
 refine .cond_false rfl (by rw [he]; rfl) ?_
 refine .skip ?_
 show Ev _ _ _ _ _
 refine .seq ?_
 refine .seq ?_
 refine .region ?_
 refine .q (op_loadRow Tryz.underlying47 rfl (by kernel_rfl) rfl rfl rfl (rfl)) trivial rfl ?_
 refine .q (op_call (U := []) [(512, 1032)] [] (toolong_S 81 1 [(rawD ((byteD (DI.mk s 0)).1) ((byteD (DI.mk s 0)).1).r.length).2] (by rfl) (by decide)) Tryz.func30 (by kernel_rfl) rfl rfl rfl (⟨⟨_, rfl, rfl, rfl⟩, trivial⟩) (⟨⟨_, _, rfl, rfl, rfl, rfl, (fun h => by cases h), rfl⟩, trivial⟩) (trivial) (⟨(fun h => by cases h), trivial⟩) rfl) trivial rfl ?_
 refine .nil ?_
 show Ev _ _ _ _ _
 refine .cond_false rfl (hb) ?_
 refine .skip ?_
 show Ev _ _ _ _ _
 refine .seq ?_
 refine .region ?_
 refine .q (op_loadRow Tryz.underlying47 rfl (by kernel_rfl) rfl rfl rfl (rfl)) trivial rfl ?_
 refine .w (op_storeRow (by kernel_rfl) rfl rfl rfl rfl rfl (rfl) (rfl)) trivial rfl ?_
 refine .q (op_assign rfl) trivial rfl ?_
 refine .nil ?_
 show Ev _ _ _ _ _
 refine .ret ?_
 show RetOk _ _ _ _ _ _ _
 exact retc2 rfl (.inl rfl) ⟨_, _, _, _, rfl, rfl, rfl, rfl, rfl, Tryz.underlying47, rfl, (by kernel_rfl)⟩ rfl ⟨rfl, trivial⟩
set_option maxRecDepth 100000 in
theorem parse_98 (s : List UInt8) (h0 : s ≠ []) (hk : (byteD (DI.mk s 0)).2.toNat = 98) (he : (endD ((rawD ((boolD ((textD ((u32D ((byteD (DI.mk s 0)).1)).1) 32768).1)).1) ((boolD ((textD ((u32D ((byteD (DI.mk s 0)).1)).1) 32768).1)).1).r.length).1)).e = 0) (hb : [(textD ((u32D ((byteD (DI.mk s 0)).1)).1) 32768).2, (rawD ((boolD ((textD ((u32D ((byteD (DI.mk s 0)).1)).1) 32768).1)).1) ((boolD ((textD ((u32D ((byteD (DI.mk s 0)).1)).1) 32768).1)).1).r.length).2].any bigS = false) (eo : Nat → Nat × Nat) : Meets Tryz.prog 14 [.str s] [(3, some ⟨.agg [.err 165 (2) (offE eo (2))], errT, false⟩), (5, some ⟨.agg [.err 165 (4) (offE eo (4))], errT, false⟩), (4, some ⟨.agg [.err 165 (3) (offE eo (3))], errT, false⟩), (20, some ⟨.agg kindCells, errT, false⟩)] (.tup [.agg [.i64 (98), .sl 1032 (0) (1) 1, .sl 1056 (0) (2) 1, .nilsl, .sl 1048 (0) (1) 1], .val .nilIface]) [(1032, some ⟨.agg32 [(u32D ((byteD (DI.mk s 0)).1)).2], 42, true⟩), (1056, some ⟨.aggS [(textD ((u32D ((byteD (DI.mk s 0)).1)).1) 32768).2, (rawD ((boolD ((textD ((u32D ((byteD (DI.mk s 0)).1)).1) 32768).1)).1) ((boolD ((textD ((u32D ((byteD (DI.mk s 0)).1)).1) 32768).1)).1).r.length).2], 9, true⟩), (1048, some ⟨.aggT [(boolD ((textD ((u32D ((byteD (DI.mk s 0)).1)).1) 32768).1)).2], 4, true⟩)] := by
 refine meets_of_ev (nt := 52) Tryz.func14 rfl rfl (Nat.le_of_ble_eq_true rfl) ?_
 refine .seq ?_
 refine .region ?_
 refine .a (op_allocRow zero47 rel_zero47 rfl) trivial rfl ?_
 refine .q (op_assign rfl) trivial rfl ?_
 refine .nil ?_
 show Ev _ _ _ _ _
 refine .seq ?_
 refine .seq ?_
 refine .region ?_
 refine .q (op_move rfl) trivial rfl ?_
 refine .q (op_eqS rfl rfl rfl) trivial rfl ?_
 refine .nil ?_
 show Ev _ _ _ _ _
 refine .cond_false rfl (by simpa using h0) ?_
 refine .skip ?_
 show Ev _ _ _ _ _
 refine .seq ?_
 refine .region ?_
 refine .q (op_move rfl) trivial rfl ?_
 refine .a (op_call (U := [(1008, some ⟨.agg [.str (DI.mk s 0).r, .err 165 ((DI.mk s 0).e) (offE eo ((DI.mk s 0).e))], 107, true⟩)]) [] [(1008, 1000)] (wof_ev s eo) Tryz.func25 (by kernel_rfl) rfl rfl rfl (⟨⟨_, rfl, rfl, rfl⟩, trivial⟩) (trivial) (⟨⟨1000, _, rfl, rfl, rfl, rfl, .inl rfl⟩, trivial⟩) (trivial) rfl) trivial rfl ?_
 refine .q (op_assign rfl) trivial rfl ?_
 refine .nil ?_
 show Ev _ _ _ _ _
 refine .seq ?_
 refine .region ?_
 refine .q (op_move rfl) trivial rfl ?_
 refine .a (op_call (U := [(1008, some ⟨.agg [.str ((byteD (DI.mk s 0)).1).r, .err 165 (((byteD (DI.mk s 0)).1).e) (offE eo (((byteD (DI.mk s 0)).1).e))], 107, true⟩)]) [(500, 1008)] [] (ibyte_ev (DI.mk s 0) eo) Tryz.func26 (by kernel_rfl) rfl rfl rfl (⟨⟨_, rfl, rfl, rfl⟩, trivial⟩) (⟨⟨_, _, rfl, rfl, rfl, rfl, id, rfl⟩, ⟨_, _, rfl, rfl, rfl, rfl, (fun h => by cases h), rfl⟩, trivial⟩) (⟨⟨500, _, rfl, rfl, rfl, rfl, .inr ⟨rfl, _, rfl, rfl⟩⟩, trivial⟩) (⟨(fun _ => ⟨1008, _, rfl, rfl⟩), (fun h => by cases h), trivial⟩) rfl) trivial rfl ?_
 refine .q (op_conv Tryz.underlying5 Tryz.underlying3 rfl rfl) trivial rfl ?_
 refine .as (.i64 98) (by rw [hk]; rfl) ?_
 refine .q (op_buildS (r := .agg [.i64 (98), .nilsl, .nilsl, .nilsl, .nilsl]) Tryz.underlying47 rfl zero47 rel_zero47 rfl rfl rfl rfl) trivial rfl ?_
 refine .a (op_allocRow zero47 rel_zero47 rfl) trivial rfl ?_
 refine .w (op_storeRow (by kernel_rfl) rfl rfl rfl rfl rfl (rfl) (rfl)) trivial rfl ?_
 refine .nil ?_
 show Ev _ _ _ _ _
 refine .seq ?_
 refine .region ?_
 refine .q (op_fieldAddr (m := 0) Tryz.underlying47 rfl (by kernel_rfl) rfl) trivial rfl ?_
 refine .as (.ptr 1024 0) rfl ?_
 refine .q (op_load Tryz.underlying3 rfl rfl rfl rfl (by first | omega | (simp only [AV.len]; omega) | (simp only [AV.len]; omega) | assumption | (simp [AV.len]; done))) trivial rfl ?_
 refine .q (op_call (U := []) [] [] (fields_ev 98) Tryz.func27 (by kernel_rfl) rfl rfl rfl (⟨⟨_, rfl, rfl, rfl⟩, trivial⟩) (⟨⟨_, _, rfl, rfl, rfl, rfl, (fun h => by cases h), rfl⟩, trivial⟩) (trivial) (⟨(fun h => by cases h), trivial⟩) rfl) trivial rfl ?_
 refine .q (op_move rfl) trivial rfl ?_
 refine .q (op_extract rfl rfl) trivial rfl ?_
 refine .as (.str [117, 115, 98, 114]) (congrArg AV.str (by rfl)) ?_
 refine .q (op_extract rfl rfl) trivial rfl ?_
 refine .q (op_assign rfl) trivial rfl ?_
 refine .q (op_assign rfl) trivial rfl ?_
 refine .nil ?_
 show Ev _ _ _ _ _
 refine .seq ?_
 refine .seq ?_
 refine .region ?_
 refine .q (op_move rfl) trivial rfl ?_
 refine .q (op_notB rfl) trivial rfl ?_
 refine .nil ?_
 show Ev _ _ _ _ _
 refine .cond_false rfl (rfl) ?_
 refine .skip ?_
 show Ev _ _ _ _ _
 refine .seq ?_
 refine .seq ?_
 refine .region ?_
 refine .q (op_move rfl) trivial rfl ?_
 refine .q (op_len_str Tryz.underlying9 rfl) trivial rfl ?_
 refine .q (op_move rfl) trivial rfl ?_
 refine .nil ?_
 show Ev _ _ _ _ _
 refine .block ?_
 refine Ev.rounds 5 ?_
 show Ev _ _ _ _ _
 refine .seq ?_
 refine .region ?_
 refine .q (op_cmpI rfl rfl rfl) trivial rfl ?_
 refine .nil ?_
 show Ev _ _ _ _ _
 refine .seq ?_
 refine .cond_true rfl (rfl) ?_
 refine .skip ?_
 show Ev _ _ _ _ _
 refine .seq ?_
 refine .block ?_
 refine .seq ?_
 refine .region ?_
 refine .q (op_move rfl) trivial rfl ?_
 refine .q (op_assign rfl) trivial rfl ?_
 refine .nil ?_
 show Ev _ _ _ _ _
 refine .region ?_
 refine .q (op_move rfl) trivial rfl ?_
 refine .q (op_move rfl) trivial rfl ?_
 refine .q (op_move rfl) trivial rfl ?_
 refine .q (op_index_str Tryz.underlying9 rfl rfl (show _ = ((0 : Nat) : Int) from rfl) (by decide)) trivial rfl ?_
 refine .a (op_call (U := [(1008, some ⟨.agg [.str ((u32D ((byteD (DI.mk s 0)).1)).1).r, .err 165 (((u32D ((byteD (DI.mk s 0)).1)).1).e) (offE eo (((u32D ((byteD (DI.mk s 0)).1)).1).e))], 107, true⟩), (1024, some ⟨.agg [.i64 (98), .sl 1032 (0) (1) 1, .nilsl, .nilsl, .nilsl], 47, true⟩), (1032, some ⟨.agg32 [(u32D ((byteD (DI.mk s 0)).1)).2], 42, true⟩)]) [(500, 1008), (510, 1024)] [(1032, 1064)] (getu_0 ((byteD (DI.mk s 0)).1) 98 eo) Tryz.func28 (by kernel_rfl) rfl rfl rfl (⟨⟨_, rfl, rfl, rfl⟩, ⟨_, rfl, rfl, rfl⟩, ⟨_, rfl, rfl, rfl⟩, trivial⟩) (⟨⟨_, _, rfl, rfl, rfl, rfl, id, rfl⟩, ⟨_, _, rfl, rfl, rfl, rfl, id, rfl⟩, ⟨_, _, rfl, rfl, rfl, rfl, (fun h => by cases h), rfl⟩, trivial⟩) (⟨⟨500, _, rfl, rfl, rfl, rfl, .inr ⟨rfl, _, rfl, rfl⟩⟩, ⟨510, _, rfl, rfl, rfl, rfl, .inr ⟨rfl, _, rfl, rfl⟩⟩, ⟨1064, _, rfl, rfl, rfl, rfl, .inl rfl⟩, trivial⟩) (⟨(fun _ => ⟨1008, _, rfl, rfl⟩), (fun _ => ⟨1024, _, rfl, rfl⟩), (fun h => by cases h), trivial⟩) rfl) trivial rfl ?_
 refine .nil ?_
 show Ev _ _ _ _ _
 refine .region ?_
 refine .q (op_addI rfl rfl ⟨by omega, by omega⟩) trivial rfl ?_
 refine .q (op_move rfl) trivial rfl ?_
 refine .nil ?_
 show Ev _ _ _ _ _
 refine .seq ?_
 refine .region ?_
 refine .q (op_cmpI rfl rfl rfl) trivial rfl ?_
 refine .nil ?_
 show Ev _ _ _ _ _
 refine .seq ?_
 refine .cond_true rfl (rfl) ?_
 refine .skip ?_
 show Ev _ _ _ _ _
 refine .seq ?_
 refine .block ?_
 refine .seq ?_
 refine .region ?_
 refine .q (op_move rfl) trivial rfl ?_
 refine .q (op_assign rfl) trivial rfl ?_
 refine .nil ?_
 show Ev _ _ _ _ _
 refine .region ?_
 refine .q (op_move rfl) trivial rfl ?_
 refine .q (op_move rfl) trivial rfl ?_
 refine .q (op_move rfl) trivial rfl ?_
 refine .q (op_index_str Tryz.underlying9 rfl rfl (show _ = ((1 : Nat) : Int) from rfl) (by decide)) trivial rfl ?_
 refine .a (op_call (U := [(1008, some ⟨.agg [.str ((textD ((u32D ((byteD (DI.mk s 0)).1)).1) 32768).1).r, .err 165 (((textD ((u32D ((byteD (DI.mk s 0)).1)).1) 32768).1).e) (offE eo (((textD ((u32D ((byteD (DI.mk s 0)).1)).1) 32768).1).e))], 107, true⟩), (1024, some ⟨.agg [.i64 (98), .sl 1032 (0) (1) 1, .sl 1040 (0) (1) 1, .nilsl, .nilsl], 47, true⟩), (1040, some ⟨.aggS [(textD ((u32D ((byteD (DI.mk s 0)).1)).1) 32768).2], 9, true⟩)]) [(500, 1008), (510, 1024), (511, 1032)] [(1040, 1064)] (gets_U ((u32D ((byteD (DI.mk s 0)).1)).1) 98 1 eo) Tryz.func28 (by kernel_rfl) rfl rfl rfl (⟨⟨_, rfl, rfl, rfl⟩, ⟨_, rfl, rfl, rfl⟩, ⟨_, rfl, rfl, rfl⟩, trivial⟩) (⟨⟨_, _, rfl, rfl, rfl, rfl, id, rfl⟩, ⟨_, _, rfl, rfl, rfl, rfl, id, rfl⟩, ⟨_, _, rfl, rfl, rfl, rfl, (fun h => by cases h), rfl⟩, ⟨_, _, rfl, rfl, rfl, rfl, (fun h => by cases h), rfl⟩, trivial⟩) (⟨⟨500, _, rfl, rfl, rfl, rfl, .inr ⟨rfl, _, rfl, rfl⟩⟩, ⟨510, _, rfl, rfl, rfl, rfl, .inr ⟨rfl, _, rfl, rfl⟩⟩, ⟨1064, _, rfl, rfl, rfl, rfl, .inl rfl⟩, trivial⟩) (⟨(fun _ => ⟨1008, _, rfl, rfl⟩), (fun _ => ⟨1024, _, rfl, rfl⟩), (fun h => by cases h), (fun h => by cases h), trivial⟩) rfl) trivial rfl ?_
 refine .nil ?_
 show Ev _ _ _ _ _
 refine .region ?_
 refine .q (op_addI rfl rfl ⟨by omega, by omega⟩) trivial rfl ?_
 refine .q (op_move rfl) trivial rfl ?_
 refine .nil ?_
 show Ev _ _ _ _ _
 refine .seq ?_
 refine .region ?_
 refine .q (op_cmpI rfl rfl rfl) trivial rfl ?_
 refine .nil ?_
 show Ev _ _ _ _ _
 refine .seq ?_
 refine .cond_true rfl (rfl) ?_
 refine .skip ?_
 show Ev _ _ _ _ _
 refine .seq ?_
 refine .block ?_
 refine .seq ?_
 refine .region ?_
 refine .q (op_move rfl) trivial rfl ?_
 refine .q (op_assign rfl) trivial rfl ?_
 refine .nil ?_
 show Ev _ _ _ _ _
 refine .region ?_
 refine .q (op_move rfl) trivial rfl ?_
 refine .q (op_move rfl) trivial rfl ?_
 refine .q (op_move rfl) trivial rfl ?_
 refine .q (op_index_str Tryz.underlying9 rfl rfl (show _ = ((2 : Nat) : Int) from rfl) (by decide)) trivial rfl ?_
 refine .a (op_call (U := [(1008, some ⟨.agg [.str ((boolD ((textD ((u32D ((byteD (DI.mk s 0)).1)).1) 32768).1)).1).r, .err 165 (((boolD ((textD ((u32D ((byteD (DI.mk s 0)).1)).1) 32768).1)).1).e) (offE eo (((boolD ((textD ((u32D ((byteD (DI.mk s 0)).1)).1) 32768).1)).1).e))], 107, true⟩), (1024, some ⟨.agg [.i64 (98), .sl 1032 (0) (1) 1, .sl 1040 (0) (1) 1, .nilsl, .sl 1048 (0) (1) 1], 47, true⟩), (1048, some ⟨.aggT [(boolD ((textD ((u32D ((byteD (DI.mk s 0)).1)).1) 32768).1)).2], 4, true⟩)]) [(500, 1008), (510, 1024), (511, 1032), (512, 1040)] [(1048, 1064)] (getb_US ((textD ((u32D ((byteD (DI.mk s 0)).1)).1) 32768).1) 98 1 1 eo) Tryz.func28 (by kernel_rfl) rfl rfl rfl (⟨⟨_, rfl, rfl, rfl⟩, ⟨_, rfl, rfl, rfl⟩, ⟨_, rfl, rfl, rfl⟩, trivial⟩) (⟨⟨_, _, rfl, rfl, rfl, rfl, id, rfl⟩, ⟨_, _, rfl, rfl, rfl, rfl, id, rfl⟩, ⟨_, _, rfl, rfl, rfl, rfl, (fun h => by cases h), rfl⟩, trivial⟩) (⟨⟨500, _, rfl, rfl, rfl, rfl, .inr ⟨rfl, _, rfl, rfl⟩⟩, ⟨510, _, rfl, rfl, rfl, rfl, .inr ⟨rfl, _, rfl, rfl⟩⟩, ⟨1064, _, rfl, rfl, rfl, rfl, .inl rfl⟩, trivial⟩) (⟨(fun _ => ⟨1008, _, rfl, rfl⟩), (fun _ => ⟨1024, _, rfl, rfl⟩), (fun h => by cases h), trivial⟩) rfl) trivial rfl ?_
 refine .nil ?_
 show Ev _ _ _ _ _
 refine .region ?_
 refine .q (op_addI rfl rfl ⟨by omega, by omega⟩) trivial rfl ?_
 refine .q (op_move rfl) trivial rfl ?_
 refine .nil ?_
 show Ev _ _ _ _ _
 refine .seq ?_
 refine .region ?_
 refine .q (op_cmpI rfl rfl rfl) trivial rfl ?_
 refine .nil ?_
 show Ev _ _ _ _ _
 refine .seq ?_
 refine .cond_true rfl (rfl) ?_
 refine .skip ?_
 show Ev _ _ _ _ _
 refine .seq ?_
 refine .block ?_
 refine .seq ?_
 refine .region ?_
 refine .q (op_move rfl) trivial rfl ?_
 refine .q (op_assign rfl) trivial rfl ?_
 refine .nil ?_
 show Ev _ _ _ _ _
 refine .region ?_
 refine .q (op_move rfl) trivial rfl ?_
 refine .q (op_move rfl) trivial rfl ?_
 refine .q (op_move rfl) trivial rfl ?_
 refine .q (op_index_str Tryz.underlying9 rfl rfl (show _ = ((3 : Nat) : Int) from rfl) (by decide)) trivial rfl ?_
 refine .a (op_call (U := [(1008, some ⟨.agg [.str ((rawD ((boolD ((textD ((u32D ((byteD (DI.mk s 0)).1)).1) 32768).1)).1) ((boolD ((textD ((u32D ((byteD (DI.mk s 0)).1)).1) 32768).1)).1).r.length).1).r, .err 165 (((rawD ((boolD ((textD ((u32D ((byteD (DI.mk s 0)).1)).1) 32768).1)).1) ((boolD ((textD ((u32D ((byteD (DI.mk s 0)).1)).1) 32768).1)).1).r.length).1).e) (offE eo (((rawD ((boolD ((textD ((u32D ((byteD (DI.mk s 0)).1)).1) 32768).1)).1) ((boolD ((textD ((u32D ((byteD (DI.mk s 0)).1)).1) 32768).1)).1).r.length).1).e))], 107, true⟩), (1024, some ⟨.agg [.i64 (98), .sl 1032 (0) (1) 1, .sl 1056 (0) (2) 1, .nilsl, .sl 1048 (0) (1) 1], 47, true⟩), (1056, some ⟨.aggS [(textD ((u32D ((byteD (DI.mk s 0)).1)).1) 32768).2, (rawD ((boolD ((textD ((u32D ((byteD (DI.mk s 0)).1)).1) 32768).1)).1) ((boolD ((textD ((u32D ((byteD (DI.mk s 0)).1)).1) 32768).1)).1).r.length).2], 9, true⟩), (1040, none)]) [(500, 1008), (510, 1024), (511, 1032), (512, 1040), (514, 1048)] [(1056, 1080)] (getr_USB ((boolD ((textD ((u32D ((byteD (DI.mk s 0)).1)).1) 32768).1)).1) 98 1 1 1 [(textD ((u32D ((byteD (DI.mk s 0)).1)).1) 32768).2] (by rfl) (by decide) eo) Tryz.func28 (by kernel_rfl) rfl rfl rfl (⟨⟨_, rfl, rfl, rfl⟩, ⟨_, rfl, rfl, rfl⟩, ⟨_, rfl, rfl, rfl⟩, trivial⟩) (⟨⟨_, _, rfl, rfl, rfl, rfl, id, rfl⟩, ⟨_, _, rfl, rfl, rfl, rfl, id, rfl⟩, ⟨_, _, rfl, rfl, rfl, rfl, id, rfl⟩, ⟨_, _, rfl, rfl, rfl, rfl, (fun h => by cases h), rfl⟩, trivial⟩) (⟨⟨500, _, rfl, rfl, rfl, rfl, .inr ⟨rfl, _, rfl, rfl⟩⟩, ⟨510, _, rfl, rfl, rfl, rfl, .inr ⟨rfl, _, rfl, rfl⟩⟩, ⟨1080, _, rfl, rfl, rfl, rfl, .inl rfl⟩, trivial⟩) (⟨(fun _ => ⟨1008, _, rfl, rfl⟩), (fun _ => ⟨1024, _, rfl, rfl⟩), (fun _ => ⟨1040, _, rfl, rfl⟩), (fun h => by cases h), trivial⟩) rfl) trivial rfl ?_
 refine .nil ?_
 show Ev _ _ _ _ _
 refine .region ?_
 refine .q (op_addI rfl rfl ⟨by omega, by omega⟩) trivial rfl ?_
 refine .q (op_move rfl) trivial rfl ?_
 refine .nil ?_
 show Ev _ _ _ _ _
 refine .seq ?_
 refine .region ?_
 refine .q (op_cmpI rfl rfl rfl) trivial rfl ?_
 refine .nil ?_
 show Ev _ _ _ _ _
 refine .seq ?_
 refine .cond_false rfl (rfl) ?_
 refine .exit ?_
 show Ev _ _ _ _ _
 refine .seq ?_
 refine .seq ?_
 refine .region ?_
 refine .q (op_move rfl) trivial rfl ?_
 refine .a (op_call (U := [(1008, some ⟨.agg [.str (endD ((rawD ((boolD ((textD ((u32D ((byteD (DI.mk s 0)).1)).1) 32768).1)).1) ((boolD ((textD ((u32D ((byteD (DI.mk s 0)).1)).1) 32768).1)).1).r.length).1)).r, .err 165 ((endD ((rawD ((boolD ((textD ((u32D ((byteD (DI.mk s 0)).1)).1) 32768).1)).1) ((boolD ((textD ((u32D ((byteD (DI.mk s 0)).1)).1) 32768).1)).1).r.length).1)).e) (offE eo ((endD ((rawD ((boolD ((textD ((u32D ((byteD (DI.mk s 0)).1)).1) 32768).1)).1) ((boolD ((textD ((u32D ((byteD (DI.mk s 0)).1)).1) 32768).1)).1).r.length).1)).e))], 107, true⟩)]) [(500, 1008)] [] (end_ev ((rawD ((boolD ((textD ((u32D ((byteD (DI.mk s 0)).1)).1) 32768).1)).1) ((boolD ((textD ((u32D ((byteD (DI.mk s 0)).1)).1) 32768).1)).1).r.length).1) eo) Tryz.func29 (by kernel_rfl) rfl rfl rfl (⟨⟨_, rfl, rfl, rfl⟩, trivial⟩) (⟨⟨_, _, rfl, rfl, rfl, rfl, id, rfl⟩, ⟨_, _, rfl, rfl, rfl, rfl, (fun h => by cases h), rfl⟩, trivial⟩) (⟨⟨500, _, rfl, rfl, rfl, rfl, .inr ⟨rfl, _, rfl, rfl⟩⟩, trivial⟩) (⟨(fun _ => ⟨1008, _, rfl, rfl⟩), (fun h => by cases h), trivial⟩) rfl) trivial rfl ?_
 refine .q (op_assign rfl) trivial rfl ?_
 refine .nil ?_
 show Ev _ _ _ _ _
 refine .seq ?_
 refine .region ?_
 refine .q (op_move rfl) trivial rfl ?_
 refine .q (op_eqErrNil (e := (endD ((rawD ((boolD ((textD ((u32D ((byteD (DI.mk s 0)).1)).1) 32768).1)).1) ((boolD ((textD ((u32D ((byteD (DI.mk s 0)).1)).1) 32768).1)).1).r.length).1)).e) Tryz.underlying30 rfl rfl) trivial rfl ?_
 refine .nil ?_
 show Ev _ _ _ _ _
 refine .cond_false rfl (by rw [he]; rfl) ?_
 refine .skip ?_
 show Ev _ _ _ _ _
 refine .seq ?_
 refine .seq ?_
 refine .region ?_
 refine .q (op_loadRow Tryz.underlying47 rfl (by kernel_rfl) rfl rfl rfl (rfl)) trivial rfl ?_
 refine .q (op_call (U := []) [(511, 1032), (512, 1056), (514, 1048)] [] (toolong_USB 98 1 2 1 [(textD ((u32D ((byteD (DI.mk s 0)).1)).1) 32768).2, (rawD ((boolD ((textD ((u32D ((byteD (DI.mk s 0)).1)).1) 32768).1)).1) ((boolD ((textD ((u32D ((byteD (DI.mk s 0)).1)).1) 32768).1)).1).r.length).2] (by rfl) (by decide)) Tryz.func30 (by kernel_rfl) rfl rfl rfl (⟨⟨_, rfl, rfl, rfl⟩, trivial⟩) (⟨⟨_, _, rfl, rfl, rfl, rfl, (fun h => by cases h), rfl⟩, trivial⟩) (trivial) (⟨(fun h => by cases h), trivial⟩) rfl) trivial rfl ?_
 refine .nil ?_
 show Ev _ _ _ _ _
 refine .cond_false rfl (hb) ?_
 refine .skip ?_
 show Ev _ _ _ _ _
 refine .seq ?_
 refine .region ?_
 refine .q (op_loadRow Tryz.underlying47 rfl (by kernel_rfl) rfl rfl rfl (rfl)) trivial rfl ?_
 refine .w (op_storeRow (by kernel_rfl) rfl rfl rfl rfl rfl (rfl) (rfl)) trivial rfl ?_
 refine .q (op_assign rfl) trivial rfl ?_
 refine .nil ?_
 show Ev _ _ _ _ _
 refine .ret ?_
 show RetOk _ _ _ _ _ _ _
 exact retc2 rfl (.inl rfl) ⟨_, _, _, _, rfl, rfl, rfl, rfl, rfl, Tryz.underlying47, rfl, (by kernel_rfl)⟩ rfl ⟨rfl, rfl, rfl, trivial⟩
end Go.Proofs.YtaelhapmikijnaaGreatDoor
