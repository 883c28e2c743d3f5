/-
  Texts of this claim.
-/
import Derived.Test.YtdhpfkojodgadaaDoorGE
import Derived.Test.YtdhpfkojodgadaaDoorGP1
import Derived.Test.YtdhpfkojodgadaaDoorGK
namespace Go.Proofs.YtdhpfkojodgadaaDoor
open Go.RowKit
def numU (n : Int) : UInt64 := ofI64 (max n 0)
theorem zero49 : (Tryd.prog.info? 49).map (·.zero) = some (some (.agg #[.int .u32 0, .int .u32 0])) := by kernel_rfl
theorem rel_zero49 : Rel (fun _ => none) (.agg [.u32 0, .u32 0]) (.agg #[.int .u32 0, .int .u32 0]) := rel_agg rfl ⟨.u32 _, .u32 _, trivial⟩
theorem zero55 : (Tryd.prog.info? 55).map (·.zero) = some (some (.agg #[.int .u32 0, .int .u32 0, .int .u32 0, .int .u32 0])) := by kernel_rfl
theorem rel_zero55 : Rel (fun _ => none) (.agg [.u32 0, .u32 0, .u32 0, .u32 0]) (.agg #[.int .u32 0, .int .u32 0, .int .u32 0, .int .u32 0]) := rel_agg rfl ⟨.u32 _, .u32 _, .u32 _, .u32 _, trivial⟩
set_option maxRecDepth 100000 in
theorem number_ev (n : Int) : Meets Tryd.prog 25 [.i64 n] [] (.u64 (numU n)) [] := by
 refine meets_of_ev (nt := 6) Tryd.func25 rfl rfl (Nat.le_of_ble_eq_true rfl) ?_
 refine .seq ?_
 refine .region ?_
 refine .q (op_assign rfl) trivial rfl ?_
 refine .nil ?_
 show Ev _ _ _ _ _
 refine .seq ?_
 refine .region ?_
 refine .q (op_move rfl) trivial rfl ?_
 refine .q (op_maxI rfl rfl) trivial rfl ?_
 refine .q (op_conv Tryd.underlying3 Tryd.underlying52 rfl rfl) trivial rfl ?_
 refine .q (op_assign rfl) trivial rfl ?_
 refine .nil ?_
 show Ev _ _ _ _ _
 refine .ret ?_
 show RetOk _ _ _ _ _ _ _
 exact ret1v rfl (.inl rfl) rfl (rfl) trivial
set_option maxRecDepth 100000 in
theorem newSend_ev (w m : UInt32) : Meets Tryd.prog 8 [.u32 w, .u32 m] [] (.ptr 1000 0) [(1000, some ⟨.agg [.u32 w, .u32 (mx32 m 1)], 49, true⟩)] := by
 refine meets_of_ev (nt := 10) Tryd.func8 rfl rfl (Nat.le_of_ble_eq_true rfl) ?_
 refine .seq ?_
 refine .region ?_
 refine .q (op_assign rfl) trivial rfl ?_
 refine .nil ?_
 show Ev _ _ _ _ _
 refine .seq ?_
 refine .region ?_
 refine .q (op_move rfl) trivial rfl ?_
 refine .q (op_move rfl) trivial rfl ?_
 refine .q (op_max32 rfl rfl) trivial rfl ?_
 refine .q (op_buildS (r := .agg [.u32 w, .u32 (mx32 m 1)]) Tryd.underlying49 rfl zero49 rel_zero49 rfl rfl rfl rfl) trivial rfl ?_
 refine .a (op_boxRow rfl rfl) trivial rfl ?_
 refine .q (op_assign rfl) trivial rfl ?_
 refine .nil ?_
 show Ev _ _ _ _ _
 refine .ret ?_
 show RetOk _ _ _ _ _ _ _
 exact ret1v rfl (.inl rfl) rfl (rfl) ⟨rfl, trivial⟩
set_option maxRecDepth 100000 in
theorem newRecv_ev (w m : UInt32) : Meets Tryd.prog 13 [.u32 w, .u32 m] [] (.ptr 1000 0) [(1000, some ⟨.agg [.u32 w, .u32 (mx32 m 1), .u32 w, .u32 0], 55, true⟩)] := by
 refine meets_of_ev (nt := 11) Tryd.func13 rfl rfl (Nat.le_of_ble_eq_true rfl) ?_
 refine .seq ?_
 refine .region ?_
 refine .q (op_assign rfl) trivial rfl ?_
 refine .nil ?_
 show Ev _ _ _ _ _
 refine .seq ?_
 refine .region ?_
 refine .q (op_move rfl) trivial rfl ?_
 refine .q (op_move rfl) trivial rfl ?_
 refine .q (op_max32 rfl rfl) trivial rfl ?_
 refine .q (op_move rfl) trivial rfl ?_
 refine .q (op_buildS (r := .agg [.u32 w, .u32 (mx32 m 1), .u32 w, .u32 0]) Tryd.underlying55 rfl zero55 rel_zero55 rfl rfl rfl rfl) trivial rfl ?_
 refine .a (op_boxRow rfl rfl) trivial rfl ?_
 refine .q (op_assign rfl) trivial rfl ?_
 refine .nil ?_
 show Ev _ _ _ _ _
 refine .ret ?_
 show RetOk _ _ _ _ _ _ _
 exact ret1v rfl (.inl rfl) rfl (rfl) ⟨rfl, trivial⟩
theorem sub_max (w : UInt32) : (4294967295 - w).toNat = 4294967295 - w.toNat := by
 have := w.toNat_lt
 rw [UInt32.toNat_sub_of_le _ _ (by rw [UInt32.le_iff_toNat_le]; show w.toNat ≤ 4294967295; omega)]; rfl
theorem grow_cfalse (w n : UInt32) (h : w.toNat + n.toNat < 4294967296) : decide (n > 4294967295 - w) = false := by
 refine decide_eq_false fun hh => ?_
 rw [gt_iff_lt, UInt32.lt_iff_toNat_lt, sub_max] at hh; omega
theorem grow_ctrue (w n : UInt32) (h : ¬ w.toNat + n.toNat < 4294967296) : decide (n > 4294967295 - w) = true := by
 refine decide_eq_true ?_
 have := w.toNat_lt
 rw [gt_iff_lt, UInt32.lt_iff_toNat_lt, sub_max]; omega
set_option maxRecDepth 100000 in
theorem grow_ok (w m n : UInt32) (eo : Nat → Nat × Nat) (h : w.toNat + n.toNat < 4294967296) : Meets Tryd.prog 9 [.ptr 500 0, .u32 n] [(500, some ⟨.agg [.u32 w, .u32 m], 49, true⟩), (0, some ⟨.agg [.err 85 (19) (offE eo (19))], errT, false⟩)] (.val .nilIface) [(500, some ⟨.agg [.u32 (w + n), .u32 m], 49, true⟩)] := by
 refine meets_of_ev (nt := 21) Tryd.func9 rfl rfl (Nat.le_of_ble_eq_true rfl) ?_
 refine .seq ?_
 refine .region ?_
 refine .q (op_assign rfl) trivial rfl ?_
 refine .nil ?_
 show Ev _ _ _ _ _
 refine .seq ?_
 refine .seq ?_
 refine .region ?_
 refine .q (op_move rfl) trivial rfl ?_
 refine .q (op_move rfl) trivial rfl ?_
 refine .q (op_nilCheck rfl) trivial rfl ?_
 refine .q (op_fieldAddr (m := 0) Tryd.underlying49 rfl (by kernel_rfl) rfl) trivial rfl ?_
 refine .as (.ptr 500 0) rfl ?_
 refine .q (op_load Tryd.underlying22 rfl rfl rfl rfl (by show 0 < 2; decide)) trivial rfl ?_
 refine .q (op_bin32 rfl rfl rfl) trivial rfl ?_
 refine .q (op_bin32 rfl rfl rfl) trivial rfl ?_
 refine .nil ?_
 show Ev _ _ _ _ _
 refine .cond_false rfl (grow_cfalse w n h) ?_
 refine .skip ?_
 show Ev _ _ _ _ _
 refine .seq ?_
 refine .region ?_
 refine .q (op_move rfl) trivial rfl ?_
 refine .q (op_nilCheck rfl) trivial rfl ?_
 refine .q (op_fieldAddr (m := 0) Tryd.underlying49 rfl (by kernel_rfl) rfl) trivial rfl ?_
 refine .as (.ptr 500 0) rfl ?_
 refine .q (op_load Tryd.underlying22 rfl rfl rfl rfl (by show 0 < 2; decide)) trivial rfl ?_
 refine .q (op_move rfl) trivial rfl ?_
 refine .q (op_bin32 rfl rfl rfl) trivial rfl ?_
 refine .q (op_nilCheck rfl) trivial rfl ?_
 refine .q (op_fieldAddr (m := 0) Tryd.underlying49 rfl (by kernel_rfl) rfl) trivial rfl ?_
 refine .as (.ptr 500 0) rfl ?_
 refine .w (op_store inf22.sz rfl rfl rfl rfl rfl (by show 0 < 2; decide)) trivial rfl ?_
 refine .nil ?_
 show Ev _ _ _ _ _
 refine .seq ?_
 refine .region ?_
 refine .q (op_assign rfl) trivial rfl ?_
 refine .nil ?_
 show Ev _ _ _ _ _
 refine .ret ?_
 show RetOk _ _ _ _ _ _ _
 exact ret1v rfl (.inl rfl) rfl (rfl) ⟨rfl, trivial⟩
set_option maxRecDepth 100000 in
theorem grow_no (w m n : UInt32) (eo : Nat → Nat × Nat) (h : ¬ w.toNat + n.toNat < 4294967296) : Meets Tryd.prog 9 [.ptr 500 0, .u32 n] [(500, some ⟨.agg [.u32 w, .u32 m], 49, true⟩), (0, some ⟨.agg [.err 85 (19) (offE eo (19))], errT, false⟩)] (.err 85 (19) (offE eo (19))) [(500, some ⟨.agg [.u32 w, .u32 m], 49, true⟩)] := by
 refine meets_of_ev (nt := 21) Tryd.func9 rfl rfl (Nat.le_of_ble_eq_true rfl) ?_
 refine .seq ?_
 refine .region ?_
 refine .q (op_assign rfl) trivial rfl ?_
 refine .nil ?_
 show Ev _ _ _ _ _
 refine .seq ?_
 refine .seq ?_
 refine .region ?_
 refine .q (op_move rfl) trivial rfl ?_
 refine .q (op_move rfl) trivial rfl ?_
 refine .q (op_nilCheck rfl) trivial rfl ?_
 refine .q (op_fieldAddr (m := 0) Tryd.underlying49 rfl (by kernel_rfl) rfl) trivial rfl ?_
 refine .as (.ptr 500 0) rfl ?_
 refine .q (op_load Tryd.underlying22 rfl rfl rfl rfl (by show 0 < 2; decide)) trivial rfl ?_
 refine .q (op_bin32 rfl rfl rfl) trivial rfl ?_
 refine .q (op_bin32 rfl rfl rfl) trivial rfl ?_
 refine .nil ?_
 show Ev _ _ _ _ _
 refine .cond_true rfl (grow_ctrue w n h) ?_
 refine .seq ?_
 refine .region ?_
 refine .q (op_load Tryd.underlying30 rfl rfl rfl rfl (by first | omega | (simp only [AV.len]; omega) | (simp only [AV.len]; omega) | assumption | (simp [AV.len]; done))) trivial rfl ?_
 refine .q (op_assign rfl) trivial rfl ?_
 refine .nil ?_
 show Ev _ _ _ _ _
 refine .ret ?_
 show RetOk _ _ _ _ _ _ _
 exact ret1v rfl (.inl rfl) rfl (rfl) ⟨rfl, trivial⟩
def takeU (w m : UInt32) (n : Int) : UInt64 := mn64 (mn64 (numU n) w.toUInt64) m.toUInt64
theorem takeU_le (w m : UInt32) (n : Int) : (takeU w m n).toNat ≤ 9223372036854775807 := by
 unfold takeU
 rw [mn64_nat, mn64_nat, UInt32.toNat_toUInt64, UInt32.toNat_toUInt64]
 have := w.toNat_lt
 omega
set_option maxRecDepth 100000 in
theorem take_ev (w m : UInt32) (n : Int) : Meets Tryd.prog 11 [.ptr 500 0, .i64 n] [(500, some ⟨.agg [.u32 w, .u32 m], 49, true⟩)] (.i64 ((takeU w m n).toNat : Int)) [(500, some ⟨.agg [.u32 (w - (takeU w m n).toUInt32), .u32 m], 49, true⟩)] := by
 refine meets_of_ev (nt := 30) Tryd.func11 rfl rfl (Nat.le_of_ble_eq_true rfl) ?_
 refine .seq ?_
 refine .region ?_
 refine .q (op_assign rfl) trivial rfl ?_
 refine .nil ?_
 show Ev _ _ _ _ _
 refine .seq ?_
 refine .drawn [[], [0], [], [2], [2, 3], [2, 3, 4], [2, 3, 4, 5], [], [7], [7, 8], [7, 8, 9], [7, 8, 9, 10], [0, 1, 2, 3, 4, 5, 6, 7, 8, 9, 10, 11], [0, 1, 2, 3, 4, 5, 6, 7, 8, 9, 10, 11, 12]] [1, 5, 10] [] (by kernel_rfl) (by kernel_rfl) rfl ?_
 show DK _ [0, 1, 2, 3, 4, 5, 6, 7, 8, 9, 10, 11, 12, 13] _ _ _
 refine .q rfl (op_move rfl) trivial ?_
 refine .q rfl (op_call (U := []) [] [] (number_ev n) Tryd.func25 (by kernel_rfl) rfl rfl rfl (⟨⟨_, rfl, rfl, rfl⟩, trivial⟩) (trivial) (trivial) (trivial) rfl) trivial ?_
 refine .q rfl (op_move rfl) trivial ?_
 refine .q rfl (op_nilCheck rfl) trivial ?_
 refine .q rfl (op_fieldAddr (m := 0) Tryd.underlying49 rfl (by kernel_rfl) rfl) trivial ?_
 refine .as (.ptr 500 0) rfl ?_
 refine .q rfl (op_load Tryd.underlying22 rfl rfl rfl rfl (by show 0 < 2; decide)) trivial ?_
 refine .q rfl (op_conv Tryd.underlying22 Tryd.underlying52 rfl rfl) trivial ?_
 refine .q rfl (op_move rfl) trivial ?_
 refine .q rfl (op_nilCheck rfl) trivial ?_
 refine .q rfl (op_fieldAddr (m := 0) Tryd.underlying49 rfl (by kernel_rfl) rfl) trivial ?_
 refine .as (.ptr 500 1) rfl ?_
 refine .q rfl (op_load Tryd.underlying22 rfl rfl rfl rfl (by show 1 < 2; decide)) trivial ?_
 refine .q rfl (op_conv Tryd.underlying22 Tryd.underlying52 rfl rfl) trivial ?_
 refine .q rfl (op_min64x3 rfl rfl rfl) trivial ?_
 refine .q rfl (op_assign rfl) trivial ?_
 refine .nil ?_
 show Ev _ _ _ _ _
 refine .seq ?_
 refine .region ?_
 refine .q (op_move rfl) trivial rfl ?_
 refine .q (op_nilCheck rfl) trivial rfl ?_
 refine .q (op_fieldAddr (m := 0) Tryd.underlying49 rfl (by kernel_rfl) rfl) trivial rfl ?_
 refine .as (.ptr 500 0) rfl ?_
 refine .q (op_load Tryd.underlying22 rfl rfl rfl rfl (by show 0 < 2; decide)) trivial rfl ?_
 refine .q (op_move rfl) trivial rfl ?_
 refine .q (op_conv Tryd.underlying52 Tryd.underlying22 rfl rfl) trivial rfl ?_
 refine .q (op_bin32 rfl rfl rfl) trivial rfl ?_
 refine .q (op_nilCheck rfl) trivial rfl ?_
 refine .q (op_fieldAddr (m := 0) Tryd.underlying49 rfl (by kernel_rfl) rfl) trivial rfl ?_
 refine .as (.ptr 500 0) rfl ?_
 refine .w (op_store inf22.sz rfl rfl rfl rfl rfl (by show 0 < 2; decide)) trivial rfl ?_
 refine .nil ?_
 show Ev _ _ _ _ _
 refine .seq ?_
 refine .region ?_
 refine .q (op_move rfl) trivial rfl ?_
 refine .q (op_conv64I Tryd.underlying52 Tryd.underlying3 rfl (takeU_le w m n)) trivial rfl ?_
 refine .q (op_assign rfl) trivial rfl ?_
 refine .nil ?_
 show Ev _ _ _ _ _
 refine .ret ?_
 show RetOk _ _ _ _ _ _ _
 exact ret1v rfl (.inl rfl) rfl (rfl) ⟨rfl, trivial⟩
set_option maxRecDepth 100000 in
theorem sleft_ev (w m : UInt32) : Meets Tryd.prog 12 [.ptr 500 0] [(500, some ⟨.agg [.u32 w, .u32 m], 49, false⟩)] (.u32 w) [(500, some ⟨.agg [.u32 w, .u32 m], 49, false⟩)] := by
 refine meets_of_ev (nt := 7) Tryd.func12 rfl rfl (Nat.le_of_ble_eq_true rfl) ?_
 refine .seq ?_
 refine .region ?_
 refine .q (op_assign rfl) trivial rfl ?_
 refine .nil ?_
 show Ev _ _ _ _ _
 refine .seq ?_
 refine .region ?_
 refine .q (op_move rfl) trivial rfl ?_
 refine .q (op_nilCheck rfl) trivial rfl ?_
 refine .q (op_fieldAddr (m := 0) Tryd.underlying49 rfl (by kernel_rfl) rfl) trivial rfl ?_
 refine .as (.ptr 500 0) rfl ?_
 refine .q (op_load Tryd.underlying22 rfl rfl rfl rfl (by show 0 < 2; decide)) trivial rfl ?_
 refine .q (op_assign rfl) trivial rfl ?_
 refine .nil ?_
 show Ev _ _ _ _ _
 refine .ret ?_
 show RetOk _ _ _ _ _ _ _
 exact ret1v rfl (.inl rfl) rfl (rfl) ⟨rfl, trivial⟩
set_option maxRecDepth 100000 in
theorem rleft_ev (z m w u : UInt32) : Meets Tryd.prog 17 [.ptr 500 0] [(500, some ⟨.agg [.u32 z, .u32 m, .u32 w, .u32 u], 55, false⟩)] (.u32 w) [(500, some ⟨.agg [.u32 z, .u32 m, .u32 w, .u32 u], 55, false⟩)] := by
 refine meets_of_ev (nt := 7) Tryd.func17 rfl rfl (Nat.le_of_ble_eq_true rfl) ?_
 refine .seq ?_
 refine .region ?_
 refine .q (op_assign rfl) trivial rfl ?_
 refine .nil ?_
 show Ev _ _ _ _ _
 refine .seq ?_
 refine .region ?_
 refine .q (op_move rfl) trivial rfl ?_
 refine .q (op_nilCheck rfl) trivial rfl ?_
 refine .q (op_fieldAddr (m := 0) Tryd.underlying55 rfl (by kernel_rfl) rfl) trivial rfl ?_
 refine .as (.ptr 500 2) rfl ?_
 refine .q (op_load Tryd.underlying22 rfl rfl rfl rfl (by show 2 < 4; decide)) trivial rfl ?_
 refine .q (op_assign rfl) trivial rfl ?_
 refine .nil ?_
 show Ev _ _ _ _ _
 refine .ret ?_
 show RetOk _ _ _ _ _ _ _
 exact ret1v rfl (.inl rfl) rfl (rfl) ⟨rfl, trivial⟩
set_option maxRecDepth 100000 in
theorem got_ok (z m w u : UInt32) (n : Int) (eo : Nat → Nat × Nat) (h : decide (numU n > (mn32 w m).toUInt64) = false) : Meets Tryd.prog 16 [.ptr 500 0, .i64 n] [(500, some ⟨.agg [.u32 z, .u32 m, .u32 w, .u32 u], 55, true⟩), (0, some ⟨.agg [.err 85 (19) (offE eo (19))], errT, false⟩)] (.val .nilIface) [(500, some ⟨.agg [.u32 z, .u32 m, .u32 (w - (numU n).toUInt32), .u32 (u + (numU n).toUInt32)], 55, true⟩)] := by
 refine meets_of_ev (nt := 39) Tryd.func16 rfl rfl (Nat.le_of_ble_eq_true rfl) ?_
 refine .seq ?_
 refine .region ?_
 refine .q (op_assign rfl) trivial rfl ?_
 refine .nil ?_
 show Ev _ _ _ _ _
 refine .seq ?_
 refine .region ?_
 refine .q (op_move rfl) trivial rfl ?_
 refine .q (op_call (U := []) [] [] (number_ev n) Tryd.func25 (by kernel_rfl) rfl rfl rfl (⟨⟨_, rfl, rfl, rfl⟩, trivial⟩) (trivial) (trivial) (trivial) rfl) trivial rfl ?_
 refine .q (op_assign rfl) trivial rfl ?_
 refine .nil ?_
 show Ev _ _ _ _ _
 refine .seq ?_
 refine .seq ?_
 refine .drawn [[], [], [1], [1, 2], [1, 2, 3], [], [5], [5, 6], [5, 6, 7], [1, 2, 3, 4, 5, 6, 7, 8], [1, 2, 3, 4, 5, 6, 7, 8, 9], [0, 1, 2, 3, 4, 5, 6, 7, 8, 9, 10]] [4, 8] [] (by kernel_rfl) (by kernel_rfl) rfl ?_
 show DK _ [0, 1, 2, 3, 4, 5, 6, 7, 8, 9, 10, 11] _ _ _
 refine .q rfl (op_move rfl) trivial ?_
 refine .q rfl (op_move rfl) trivial ?_
 refine .q rfl (op_nilCheck rfl) trivial ?_
 refine .q rfl (op_fieldAddr (m := 0) Tryd.underlying55 rfl (by kernel_rfl) rfl) trivial ?_
 refine .as (.ptr 500 2) rfl ?_
 refine .q rfl (op_load Tryd.underlying22 rfl rfl rfl rfl (by show 2 < 4; decide)) trivial ?_
 refine .q rfl (op_move rfl) trivial ?_
 refine .q rfl (op_nilCheck rfl) trivial ?_
 refine .q rfl (op_fieldAddr (m := 0) Tryd.underlying55 rfl (by kernel_rfl) rfl) trivial ?_
 refine .as (.ptr 500 1) rfl ?_
 refine .q rfl (op_load Tryd.underlying22 rfl rfl rfl rfl (by show 1 < 4; decide)) trivial ?_
 refine .q rfl (op_min32 rfl rfl) trivial ?_
 refine .q rfl (op_conv Tryd.underlying22 Tryd.underlying52 rfl rfl) trivial ?_
 refine .q rfl (op_bin64 rfl rfl rfl) trivial ?_
 refine .nil ?_
 show Ev _ _ _ _ _
 refine .cond_false rfl (h) ?_
 refine .skip ?_
 show Ev _ _ _ _ _
 refine .seq ?_
 refine .region ?_
 refine .q (op_move rfl) trivial rfl ?_
 refine .q (op_nilCheck rfl) trivial rfl ?_
 refine .q (op_fieldAddr (m := 0) Tryd.underlying55 rfl (by kernel_rfl) rfl) trivial rfl ?_
 refine .as (.ptr 500 2) rfl ?_
 refine .q (op_load Tryd.underlying22 rfl rfl rfl rfl (by show 2 < 4; decide)) trivial rfl ?_
 refine .q (op_move rfl) trivial rfl ?_
 refine .q (op_conv Tryd.underlying52 Tryd.underlying22 rfl rfl) trivial rfl ?_
 refine .q (op_bin32 rfl rfl rfl) trivial rfl ?_
 refine .q (op_nilCheck rfl) trivial rfl ?_
 refine .q (op_fieldAddr (m := 0) Tryd.underlying55 rfl (by kernel_rfl) rfl) trivial rfl ?_
 refine .as (.ptr 500 2) rfl ?_
 refine .w (op_store inf22.sz rfl rfl rfl rfl rfl (by show 2 < 4; decide)) trivial rfl ?_
 refine .nil ?_
 show Ev _ _ _ _ _
 refine .seq ?_
 refine .region ?_
 refine .q (op_move rfl) trivial rfl ?_
 refine .q (op_nilCheck rfl) trivial rfl ?_
 refine .q (op_fieldAddr (m := 0) Tryd.underlying55 rfl (by kernel_rfl) rfl) trivial rfl ?_
 refine .as (.ptr 500 3) rfl ?_
 refine .q (op_load Tryd.underlying22 rfl rfl rfl rfl (by show 3 < 4; decide)) trivial rfl ?_
 refine .q (op_move rfl) trivial rfl ?_
 refine .q (op_conv Tryd.underlying52 Tryd.underlying22 rfl rfl) trivial rfl ?_
 refine .q (op_bin32 rfl rfl rfl) trivial rfl ?_
 refine .q (op_nilCheck rfl) trivial rfl ?_
 refine .q (op_fieldAddr (m := 0) Tryd.underlying55 rfl (by kernel_rfl) rfl) trivial rfl ?_
 refine .as (.ptr 500 3) rfl ?_
 refine .w (op_store inf22.sz rfl rfl rfl rfl rfl (by show 3 < 4; decide)) trivial rfl ?_
 refine .nil ?_
 show Ev _ _ _ _ _
 refine .seq ?_
 refine .region ?_
 refine .q (op_assign rfl) trivial rfl ?_
 refine .nil ?_
 show Ev _ _ _ _ _
 refine .ret ?_
 show RetOk _ _ _ _ _ _ _
 exact ret1v rfl (.inl rfl) rfl (rfl) ⟨rfl, trivial⟩
set_option maxRecDepth 100000 in
theorem got_no (z m w u : UInt32) (n : Int) (eo : Nat → Nat × Nat) (h : decide (numU n > (mn32 w m).toUInt64) = true) : Meets Tryd.prog 16 [.ptr 500 0, .i64 n] [(500, some ⟨.agg [.u32 z, .u32 m, .u32 w, .u32 u], 55, true⟩), (0, some ⟨.agg [.err 85 (19) (offE eo (19))], errT, false⟩)] (.err 85 (19) (offE eo (19))) [(500, some ⟨.agg [.u32 z, .u32 m, .u32 w, .u32 u], 55, true⟩)] := by
 refine meets_of_ev (nt := 39) Tryd.func16 rfl rfl (Nat.le_of_ble_eq_true rfl) ?_
 refine .seq ?_
 refine .region ?_
 refine .q (op_assign rfl) trivial rfl ?_
 refine .nil ?_
 show Ev _ _ _ _ _
 refine .seq ?_
 refine .region ?_
 refine .q (op_move rfl) trivial rfl ?_
 refine .q (op_call (U := []) [] [] (number_ev n) Tryd.func25 (by kernel_rfl) rfl rfl rfl (⟨⟨_, rfl, rfl, rfl⟩, trivial⟩) (trivial) (trivial) (trivial) rfl) trivial rfl ?_
 refine .q (op_assign rfl) trivial rfl ?_
 refine .nil ?_
 show Ev _ _ _ _ _
 refine .seq ?_
 refine .seq ?_
 refine .drawn [[], [], [1], [1, 2], [1, 2, 3], [], [5], [5, 6], [5, 6, 7], [1, 2, 3, 4, 5, 6, 7, 8], [1, 2, 3, 4, 5, 6, 7, 8, 9], [0, 1, 2, 3, 4, 5, 6, 7, 8, 9, 10]] [4, 8] [] (by kernel_rfl) (by kernel_rfl) rfl ?_
 show DK _ [0, 1, 2, 3, 4, 5, 6, 7, 8, 9, 10, 11] _ _ _
 refine .q rfl (op_move rfl) trivial ?_
 refine .q rfl (op_move rfl) trivial ?_
 refine .q rfl (op_nilCheck rfl) trivial ?_
 refine .q rfl (op_fieldAddr (m := 0) Tryd.underlying55 rfl (by kernel_rfl) rfl) trivial ?_
 refine .as (.ptr 500 2) rfl ?_
 refine .q rfl (op_load Tryd.underlying22 rfl rfl rfl rfl (by show 2 < 4; decide)) trivial ?_
 refine .q rfl (op_move rfl) trivial ?_
 refine .q rfl (op_nilCheck rfl) trivial ?_
 refine .q rfl (op_fieldAddr (m := 0) Tryd.underlying55 rfl (by kernel_rfl) rfl) trivial ?_
 refine .as (.ptr 500 1) rfl ?_
 refine .q rfl (op_load Tryd.underlying22 rfl rfl rfl rfl (by show 1 < 4; decide)) trivial ?_
 refine .q rfl (op_min32 rfl rfl) trivial ?_
 refine .q rfl (op_conv Tryd.underlying22 Tryd.underlying52 rfl rfl) trivial ?_
 refine .q rfl (op_bin64 rfl rfl rfl) trivial ?_
 refine .nil ?_
 show Ev _ _ _ _ _
 refine .cond_true rfl (h) ?_
 refine .seq ?_
 refine .region ?_
 refine .q (op_load Tryd.underlying30 rfl rfl rfl rfl (by first | omega | (simp only [AV.len]; omega) | (simp only [AV.len]; omega) | assumption | (simp [AV.len]; done))) trivial rfl ?_
 refine .q (op_assign rfl) trivial rfl ?_
 refine .nil ?_
 show Ev _ _ _ _ _
 refine .ret ?_
 show RetOk _ _ _ _ _ _ _
 exact ret1v rfl (.inl rfl) rfl (rfl) ⟨rfl, trivial⟩
set_option maxRecDepth 100000 in
theorem used_ev (z m w u : UInt32) (n : Int) : Meets Tryd.prog 14 [.ptr 500 0, .i64 n] [(500, some ⟨.agg [.u32 z, .u32 m, .u32 w, .u32 u], 55, true⟩)] (.tup []) [(500, some ⟨.agg [.u32 z, .u32 m, .u32 w, .u32 (u - (mn64 (numU n) u.toUInt64).toUInt32)], 55, true⟩)] := by
 refine meets_of_ev (nt := 20) Tryd.func14 rfl rfl (Nat.le_of_ble_eq_true rfl) ?_
 refine .drawn [[], [0], [0, 1], [0, 1, 2], [], [4], [], [6], [6, 7], [6, 7, 8], [6, 7, 8, 9], [4, 5, 6, 7, 8, 9, 10], [4, 5, 6, 7, 8, 9, 10, 11], [0, 1, 2, 3, 4, 5, 6, 7, 8, 9, 10, 11, 12], [0, 1, 2, 3, 4, 5, 6, 7, 8, 9, 10, 11, 12, 13], [0, 1, 2, 3, 4, 5, 6, 7, 8, 9, 10, 11, 12, 13, 14], [0, 1, 2, 3, 4, 5, 6, 7, 8, 9, 10, 11, 12, 13, 14, 15]] [3, 5, 9, 16] [16] (by kernel_rfl) (by kernel_rfl) rfl ?_
 show DK _ [0, 1, 2, 3, 4, 5, 6, 7, 8, 9, 10, 11, 12, 13, 14, 15, 16] _ _ _
 refine .q rfl (op_move rfl) trivial ?_
 refine .q rfl (op_nilCheck rfl) trivial ?_
 refine .q rfl (op_fieldAddr (m := 0) Tryd.underlying55 rfl (by kernel_rfl) rfl) trivial ?_
 refine .as (.ptr 500 3) rfl ?_
 refine .q rfl (op_load Tryd.underlying22 rfl rfl rfl rfl (by show 3 < 4; decide)) trivial ?_
 refine .q rfl (op_move rfl) trivial ?_
 refine .q rfl (op_call (U := []) [] [] (number_ev n) Tryd.func25 (by kernel_rfl) rfl rfl rfl (⟨⟨_, rfl, rfl, rfl⟩, trivial⟩) (trivial) (trivial) (trivial) rfl) trivial ?_
 refine .q rfl (op_move rfl) trivial ?_
 refine .q rfl (op_nilCheck rfl) trivial ?_
 refine .q rfl (op_fieldAddr (m := 0) Tryd.underlying55 rfl (by kernel_rfl) rfl) trivial ?_
 refine .as (.ptr 500 3) rfl ?_
 refine .q rfl (op_load Tryd.underlying22 rfl rfl rfl rfl (by show 3 < 4; decide)) trivial ?_
 refine .q rfl (op_conv Tryd.underlying22 Tryd.underlying52 rfl rfl) trivial ?_
 refine .q rfl (op_min64 rfl rfl) trivial ?_
 refine .q rfl (op_conv Tryd.underlying52 Tryd.underlying22 rfl rfl) trivial ?_
 refine .q rfl (op_bin32 rfl rfl rfl) trivial ?_
 refine .q rfl (op_nilCheck rfl) trivial ?_
 refine .q rfl (op_fieldAddr (m := 0) Tryd.underlying55 rfl (by kernel_rfl) rfl) trivial ?_
 refine .as (.ptr 500 3) rfl ?_
 refine .w rfl (op_store inf22.sz rfl rfl rfl rfl rfl (by show 3 < 4; decide)) trivial rfl rfl ?_
 refine .nil ?_
 show RetOk _ _ _ _ _ _ _
 exact ret0 rfl (.inr rfl) ⟨rfl, trivial⟩
set_option maxRecDepth 100000 in
theorem adj_ok (z m w u : UInt32) (h : decide (z - w - u < z - z / 2) = false) : Meets Tryd.prog 15 [.ptr 500 0] [(500, some ⟨.agg [.u32 z, .u32 m, .u32 w, .u32 u], 55, true⟩)] (.u32 (z - w - u)) [(500, some ⟨.agg [.u32 z, .u32 m, .u32 (w + (z - w - u)), .u32 u], 55, true⟩)] := by
 refine meets_of_ev (nt := 39) Tryd.func15 rfl rfl (Nat.le_of_ble_eq_true rfl) ?_
 refine .seq ?_
 refine .region ?_
 refine .q (op_assign rfl) trivial rfl ?_
 refine .nil ?_
 show Ev _ _ _ _ _
 refine .seq ?_
 refine .drawn [[], [0], [0, 1], [0, 1, 2], [], [4], [4, 5], [4, 5, 6], [0, 1, 2, 3, 4, 5, 6, 7], [], [9], [9, 10], [9, 10, 11], [0, 1, 2, 3, 4, 5, 6, 7, 8, 9, 10, 11, 12], [0, 1, 2, 3, 4, 5, 6, 7, 8, 9, 10, 11, 12, 13]] [3, 7, 12] [] (by kernel_rfl) (by kernel_rfl) rfl ?_
 show DK _ [0, 1, 2, 3, 4, 5, 6, 7, 8, 9, 10, 11, 12, 13, 14] _ _ _
 refine .q rfl (op_move rfl) trivial ?_
 refine .q rfl (op_nilCheck rfl) trivial ?_
 refine .q rfl (op_fieldAddr (m := 0) Tryd.underlying55 rfl (by kernel_rfl) rfl) trivial ?_
 refine .as (.ptr 500 0) rfl ?_
 refine .q rfl (op_load Tryd.underlying22 rfl rfl rfl rfl (by show 0 < 4; decide)) trivial ?_
 refine .q rfl (op_move rfl) trivial ?_
 refine .q rfl (op_nilCheck rfl) trivial ?_
 refine .q rfl (op_fieldAddr (m := 0) Tryd.underlying55 rfl (by kernel_rfl) rfl) trivial ?_
 refine .as (.ptr 500 2) rfl ?_
 refine .q rfl (op_load Tryd.underlying22 rfl rfl rfl rfl (by show 2 < 4; decide)) trivial ?_
 refine .q rfl (op_bin32 rfl rfl rfl) trivial ?_
 refine .q rfl (op_move rfl) trivial ?_
 refine .q rfl (op_nilCheck rfl) trivial ?_
 refine .q rfl (op_fieldAddr (m := 0) Tryd.underlying55 rfl (by kernel_rfl) rfl) trivial ?_
 refine .as (.ptr 500 3) rfl ?_
 refine .q rfl (op_load Tryd.underlying22 rfl rfl rfl rfl (by show 3 < 4; decide)) trivial ?_
 refine .q rfl (op_bin32 rfl rfl rfl) trivial ?_
 refine .q rfl (op_assign rfl) trivial ?_
 refine .nil ?_
 show Ev _ _ _ _ _
 refine .seq ?_
 refine .seq ?_
 refine .drawn [[], [], [1], [1, 2], [1, 2, 3], [], [5], [5, 6], [5, 6, 7], [5, 6, 7, 8], [1, 2, 3, 4, 5, 6, 7, 8, 9], [0, 1, 2, 3, 4, 5, 6, 7, 8, 9, 10]] [4, 8] [] (by kernel_rfl) (by kernel_rfl) rfl ?_
 show DK _ [0, 1, 2, 3, 4, 5, 6, 7, 8, 9, 10, 11] _ _ _
 refine .q rfl (op_move rfl) trivial ?_
 refine .q rfl (op_move rfl) trivial ?_
 refine .q rfl (op_nilCheck rfl) trivial ?_
 refine .q rfl (op_fieldAddr (m := 0) Tryd.underlying55 rfl (by kernel_rfl) rfl) trivial ?_
 refine .as (.ptr 500 0) rfl ?_
 refine .q rfl (op_load Tryd.underlying22 rfl rfl rfl rfl (by show 0 < 4; decide)) trivial ?_
 refine .q rfl (op_move rfl) trivial ?_
 refine .q rfl (op_nilCheck rfl) trivial ?_
 refine .q rfl (op_fieldAddr (m := 0) Tryd.underlying55 rfl (by kernel_rfl) rfl) trivial ?_
 refine .as (.ptr 500 0) rfl ?_
 refine .q rfl (op_load Tryd.underlying22 rfl rfl rfl rfl (by show 0 < 4; decide)) trivial ?_
 refine .q rfl (op_quo32 rfl rfl (by decide)) trivial ?_
 refine .q rfl (op_bin32 rfl rfl rfl) trivial ?_
 refine .q rfl (op_bin32 rfl rfl rfl) trivial ?_
 refine .nil ?_
 show Ev _ _ _ _ _
 refine .cond_false rfl (h) ?_
 refine .skip ?_
 show Ev _ _ _ _ _
 refine .seq ?_
 refine .region ?_
 refine .q (op_move rfl) trivial rfl ?_
 refine .q (op_nilCheck rfl) trivial rfl ?_
 refine .q (op_fieldAddr (m := 0) Tryd.underlying55 rfl (by kernel_rfl) rfl) trivial rfl ?_
 refine .as (.ptr 500 2) rfl ?_
 refine .q (op_load Tryd.underlying22 rfl rfl rfl rfl (by show 2 < 4; decide)) trivial rfl ?_
 refine .q (op_move rfl) trivial rfl ?_
 refine .q (op_bin32 rfl rfl rfl) trivial rfl ?_
 refine .q (op_nilCheck rfl) trivial rfl ?_
 refine .q (op_fieldAddr (m := 0) Tryd.underlying55 rfl (by kernel_rfl) rfl) trivial rfl ?_
 refine .as (.ptr 500 2) rfl ?_
 refine .w (op_store inf22.sz rfl rfl rfl rfl rfl (by show 2 < 4; decide)) trivial rfl ?_
 refine .nil ?_
 show Ev _ _ _ _ _
 refine .seq ?_
 refine .region ?_
 refine .q (op_move rfl) trivial rfl ?_
 refine .q (op_assign rfl) trivial rfl ?_
 refine .nil ?_
 show Ev _ _ _ _ _
 refine .ret ?_
 show RetOk _ _ _ _ _ _ _
 exact ret1v rfl (.inl rfl) rfl (rfl) ⟨rfl, trivial⟩
set_option maxRecDepth 100000 in
theorem adj_no (z m w u : UInt32) (h : decide (z - w - u < z - z / 2) = true) : Meets Tryd.prog 15 [.ptr 500 0] [(500, some ⟨.agg [.u32 z, .u32 m, .u32 w, .u32 u], 55, true⟩)] (.u32 0) [(500, some ⟨.agg [.u32 z, .u32 m, .u32 w, .u32 u], 55, true⟩)] := by
 refine meets_of_ev (nt := 39) Tryd.func15 rfl rfl (Nat.le_of_ble_eq_true rfl) ?_
 refine .seq ?_
 refine .region ?_
 refine .q (op_assign rfl) trivial rfl ?_
 refine .nil ?_
 show Ev _ _ _ _ _
 refine .seq ?_
 refine .drawn [[], [0], [0, 1], [0, 1, 2], [], [4], [4, 5], [4, 5, 6], [0, 1, 2, 3, 4, 5, 6, 7], [], [9], [9, 10], [9, 10, 11], [0, 1, 2, 3, 4, 5, 6, 7, 8, 9, 10, 11, 12], [0, 1, 2, 3, 4, 5, 6, 7, 8, 9, 10, 11, 12, 13]] [3, 7, 12] [] (by kernel_rfl) (by kernel_rfl) rfl ?_
 show DK _ [0, 1, 2, 3, 4, 5, 6, 7, 8, 9, 10, 11, 12, 13, 14] _ _ _
 refine .q rfl (op_move rfl) trivial ?_
 refine .q rfl (op_nilCheck rfl) trivial ?_
 refine .q rfl (op_fieldAddr (m := 0) Tryd.underlying55 rfl (by kernel_rfl) rfl) trivial ?_
 refine .as (.ptr 500 0) rfl ?_
 refine .q rfl (op_load Tryd.underlying22 rfl rfl rfl rfl (by show 0 < 4; decide)) trivial ?_
 refine .q rfl (op_move rfl) trivial ?_
 refine .q rfl (op_nilCheck rfl) trivial ?_
 refine .q rfl (op_fieldAddr (m := 0) Tryd.underlying55 rfl (by kernel_rfl) rfl) trivial ?_
 refine .as (.ptr 500 2) rfl ?_
 refine .q rfl (op_load Tryd.underlying22 rfl rfl rfl rfl (by show 2 < 4; decide)) trivial ?_
 refine .q rfl (op_bin32 rfl rfl rfl) trivial ?_
 refine .q rfl (op_move rfl) trivial ?_
 refine .q rfl (op_nilCheck rfl) trivial ?_
 refine .q rfl (op_fieldAddr (m := 0) Tryd.underlying55 rfl (by kernel_rfl) rfl) trivial ?_
 refine .as (.ptr 500 3) rfl ?_
 refine .q rfl (op_load Tryd.underlying22 rfl rfl rfl rfl (by show 3 < 4; decide)) trivial ?_
 refine .q rfl (op_bin32 rfl rfl rfl) trivial ?_
 refine .q rfl (op_assign rfl) trivial ?_
 refine .nil ?_
 show Ev _ _ _ _ _
 refine .seq ?_
 refine .seq ?_
 refine .drawn [[], [], [1], [1, 2], [1, 2, 3], [], [5], [5, 6], [5, 6, 7], [5, 6, 7, 8], [1, 2, 3, 4, 5, 6, 7, 8, 9], [0, 1, 2, 3, 4, 5, 6, 7, 8, 9, 10]] [4, 8] [] (by kernel_rfl) (by kernel_rfl) rfl ?_
 show DK _ [0, 1, 2, 3, 4, 5, 6, 7, 8, 9, 10, 11] _ _ _
 refine .q rfl (op_move rfl) trivial ?_
 refine .q rfl (op_move rfl) trivial ?_
 refine .q rfl (op_nilCheck rfl) trivial ?_
 refine .q rfl (op_fieldAddr (m := 0) Tryd.underlying55 rfl (by kernel_rfl) rfl) trivial ?_
 refine .as (.ptr 500 0) rfl ?_
 refine .q rfl (op_load Tryd.underlying22 rfl rfl rfl rfl (by show 0 < 4; decide)) trivial ?_
 refine .q rfl (op_move rfl) trivial ?_
 refine .q rfl (op_nilCheck rfl) trivial ?_
 refine .q rfl (op_fieldAddr (m := 0) Tryd.underlying55 rfl (by kernel_rfl) rfl) trivial ?_
 refine .as (.ptr 500 0) rfl ?_
 refine .q rfl (op_load Tryd.underlying22 rfl rfl rfl rfl (by show 0 < 4; decide)) trivial ?_
 refine .q rfl (op_quo32 rfl rfl (by decide)) trivial ?_
 refine .q rfl (op_bin32 rfl rfl rfl) trivial ?_
 refine .q rfl (op_bin32 rfl rfl rfl) trivial ?_
 refine .nil ?_
 show Ev _ _ _ _ _
 refine .cond_true rfl (h) ?_
 refine .seq ?_
 refine .region ?_
 refine .q (op_assign rfl) trivial rfl ?_
 refine .nil ?_
 show Ev _ _ _ _ _
 refine .ret ?_
 show RetOk _ _ _ _ _ _ _
 exact ret1v rfl (.inl rfl) rfl (rfl) ⟨rfl, trivial⟩
end Go.Proofs.YtdhpfkojodgadaaDoor
namespace Go.Proofs.YtdhpfkojodgadaaDoor
open Go.RowKit
def z64 : List UInt8 := List.replicate 64 0
theorem z64_len : z64.length = 64 := by simp [z64]
/-- Bytes written over those at m. -/
def wrB (l : List UInt8) (m : Nat) (s : List UInt8) : List UInt8 := l.take m ++ s ++ l.drop (m + s.length)
theorem wrB_list (l : List UInt8) (m : Nat) (s : List UInt8) : (AV.aggB (wrB l m s)).list = (AV.aggB l).list.take m ++ (s.map AV.u8).take s.length ++ (AV.aggB l).list.drop (m + s.length) := by
  have h : (s.map AV.u8).take s.length = s.map AV.u8 := List.take_of_length_le (by simp)
  rw [h]
  show (wrB l m s).map AV.u8 = (l.map AV.u8).take m ++ s.map AV.u8 ++ (l.map AV.u8).drop (m + s.length)
  simp [wrB, List.map_take, List.map_drop]
theorem InI_of {a : Int} (h1 : -1000000000000 ≤ a) (h2 : a ≤ 1000000000000) : InI a := ⟨by omega, by omega⟩
theorem zero62 : (Tryd.prog.info? 62).map (·.zero) = some (some (.agg #[.int .i64 0, .slice none 0 0, .int .i64 0, .int .i8 0])) := by kernel_rfl
theorem rel_zero62 : Rel (fun _ => none) (.agg [.i64 (0), .nilsl, .i64 (0), .val (.int .i8 (0))]) (.agg #[.int .i64 0, .slice none 0 0, .int .i64 0, .int .i8 0]) := rel_agg rfl ⟨.i64 _, .nilsl, .i64 _, .val _, trivial⟩
set_option maxRecDepth 100000 in
theorem blen_nil (most r : Int) : Meets Tryd.prog 28 [.ptr 500 1] [(500, some ⟨.agg [.i64 (most), .nilsl, .i64 (0), .val (.int .i8 (r))], 62, false⟩)] (.i64 0) [(500, some ⟨.agg [.i64 (most), .nilsl, .i64 (0), .val (.int .i8 (r))], 62, false⟩)] := by
 refine meets_of_ev (nt := 13) Tryd.func28 rfl rfl (Nat.le_of_ble_eq_true rfl) ?_
 refine .seq ?_
 refine .region ?_
 refine .q (op_assign rfl) trivial rfl ?_
 refine .nil ?_
 show Ev _ _ _ _ _
 refine .seq ?_
 refine .drawn [[], [0], [0, 1], [0, 1, 2], [0, 1, 2, 3], [], [5], [5, 6], [5, 6, 7], [0, 1, 2, 3, 4, 5, 6, 7, 8], [0, 1, 2, 3, 4, 5, 6, 7, 8, 9]] [3, 8] [] (by kernel_rfl) (by kernel_rfl) rfl ?_
 show DK _ [0, 1, 2, 3, 4, 5, 6, 7, 8, 9, 10] _ _ _
 refine .q rfl (op_move rfl) trivial ?_
 refine .q rfl (op_nilCheck rfl) trivial ?_
 refine .q rfl (op_fieldAddr (m := 0) Tryd.underlying60 rfl (by kernel_rfl) rfl) trivial ?_
 refine .as (.ptr 500 1) rfl ?_
 refine .q rfl (op_load Tryd.underlying56 rfl rfl rfl rfl (by show 1 < 4; decide)) trivial ?_
 refine .q rfl (op_len_nil Tryd.underlying56 rfl) trivial ?_
 refine .q rfl (op_move rfl) trivial ?_
 refine .q rfl (op_nilCheck rfl) trivial ?_
 refine .q rfl (op_fieldAddr (m := 0) Tryd.underlying60 rfl (by kernel_rfl) rfl) trivial ?_
 refine .as (.ptr 500 2) rfl ?_
 refine .q rfl (op_load Tryd.underlying3 rfl rfl rfl rfl (by show 2 < 4; decide)) trivial ?_
 refine .q rfl (op_subI rfl rfl ⟨by omega, by omega⟩) trivial ?_
 refine .q rfl (op_assign rfl) trivial ?_
 refine .nil ?_
 show Ev _ _ _ _ _
 refine .ret ?_
 show RetOk _ _ _ _ _ _ _
 exact ret1v rfl (.inl rfl) rfl (rfl) ⟨rfl, trivial⟩
set_option maxRecDepth 100000 in
theorem blen_ev (most r : Int) (n o c : Nat) (hn : n ≤ 1000000000) (ho : o ≤ n) : Meets Tryd.prog 28 [.ptr 500 1] [(500, some ⟨.agg [.i64 (most), .slk 501 0 (n) (c) true, .i64 ((o : Int)), .val (.int .i8 (r))], 62, false⟩)] (.i64 ((n : Int) - (o : Int))) [(500, some ⟨.agg [.i64 (most), .slk 501 0 (n) (c) true, .i64 ((o : Int)), .val (.int .i8 (r))], 62, false⟩)] := by
 refine meets_of_ev (nt := 13) Tryd.func28 rfl rfl (Nat.le_of_ble_eq_true rfl) ?_
 refine .seq ?_
 refine .region ?_
 refine .q (op_assign rfl) trivial rfl ?_
 refine .nil ?_
 show Ev _ _ _ _ _
 refine .seq ?_
 refine .drawn [[], [0], [0, 1], [0, 1, 2], [0, 1, 2, 3], [], [5], [5, 6], [5, 6, 7], [0, 1, 2, 3, 4, 5, 6, 7, 8], [0, 1, 2, 3, 4, 5, 6, 7, 8, 9]] [3, 8] [] (by kernel_rfl) (by kernel_rfl) rfl ?_
 show DK _ [0, 1, 2, 3, 4, 5, 6, 7, 8, 9, 10] _ _ _
 refine .q rfl (op_move rfl) trivial ?_
 refine .q rfl (op_nilCheck rfl) trivial ?_
 refine .q rfl (op_fieldAddr (m := 0) Tryd.underlying60 rfl (by kernel_rfl) rfl) trivial ?_
 refine .as (.ptr 500 1) rfl ?_
 refine .q rfl (op_load Tryd.underlying56 rfl rfl rfl rfl (by show 1 < 4; decide)) trivial ?_
 refine .q rfl (op_len_slk Tryd.underlying56 rfl) trivial ?_
 refine .q rfl (op_move rfl) trivial ?_
 refine .q rfl (op_nilCheck rfl) trivial ?_
 refine .q rfl (op_fieldAddr (m := 0) Tryd.underlying60 rfl (by kernel_rfl) rfl) trivial ?_
 refine .as (.ptr 500 2) rfl ?_
 refine .q rfl (op_load Tryd.underlying3 rfl rfl rfl rfl (by show 2 < 4; decide)) trivial ?_
 refine .q rfl (op_subI rfl rfl ⟨by omega, by omega⟩) trivial ?_
 refine .q rfl (op_assign rfl) trivial ?_
 refine .nil ?_
 show Ev _ _ _ _ _
 refine .ret ?_
 show RetOk _ _ _ _ _ _ _
 exact ret1v rfl (.inl rfl) rfl (rfl) ⟨rfl, trivial⟩
set_option maxRecDepth 100000 in
theorem flen_nil (most r : Int) : Meets Tryd.prog 22 [.ptr 500 0] [(500, some ⟨.agg [.i64 (most), .nilsl, .i64 (0), .val (.int .i8 (r))], 62, false⟩)] (.i64 0) [(500, some ⟨.agg [.i64 (most), .nilsl, .i64 (0), .val (.int .i8 (r))], 62, false⟩)] := by
 refine meets_of_ev (nt := 7) Tryd.func22 rfl rfl (Nat.le_of_ble_eq_true rfl) ?_
 refine .seq ?_
 refine .region ?_
 refine .q (op_assign rfl) trivial rfl ?_
 refine .nil ?_
 show Ev _ _ _ _ _
 refine .seq ?_
 refine .region ?_
 refine .q (op_move rfl) trivial rfl ?_
 refine .q (op_nilCheck rfl) trivial rfl ?_
 refine .q (op_fieldAddr (m := 2) Tryd.underlying62 rfl (by kernel_rfl) rfl) trivial rfl ?_
 refine .as (.ptr 500 1) rfl ?_
 refine .q (op_call (U := []) [(500, 500)] [] (blen_nil most r) Tryd.func28 (by kernel_rfl) rfl rfl rfl (⟨⟨_, rfl, rfl, rfl⟩, trivial⟩) (⟨⟨_, _, rfl, rfl, rfl, rfl, (fun h => by cases h), rfl⟩, trivial⟩) (trivial) (⟨(fun h => by cases h), trivial⟩) rfl) trivial rfl ?_
 refine .q (op_assign rfl) trivial rfl ?_
 refine .nil ?_
 show Ev _ _ _ _ _
 refine .ret ?_
 show RetOk _ _ _ _ _ _ _
 exact ret1v rfl (.inl rfl) rfl (rfl) ⟨rfl, trivial⟩
set_option maxRecDepth 100000 in
theorem flen_ev (most r : Int) (n o c : Nat) (hn : n ≤ 1000000000) (ho : o ≤ n) : Meets Tryd.prog 22 [.ptr 500 0] [(500, some ⟨.agg [.i64 (most), .slk 501 0 (n) (c) true, .i64 ((o : Int)), .val (.int .i8 (r))], 62, false⟩)] (.i64 ((n : Int) - (o : Int))) [(500, some ⟨.agg [.i64 (most), .slk 501 0 (n) (c) true, .i64 ((o : Int)), .val (.int .i8 (r))], 62, false⟩)] := by
 refine meets_of_ev (nt := 7) Tryd.func22 rfl rfl (Nat.le_of_ble_eq_true rfl) ?_
 refine .seq ?_
 refine .region ?_
 refine .q (op_assign rfl) trivial rfl ?_
 refine .nil ?_
 show Ev _ _ _ _ _
 refine .seq ?_
 refine .region ?_
 refine .q (op_move rfl) trivial rfl ?_
 refine .q (op_nilCheck rfl) trivial rfl ?_
 refine .q (op_fieldAddr (m := 2) Tryd.underlying62 rfl (by kernel_rfl) rfl) trivial rfl ?_
 refine .as (.ptr 500 1) rfl ?_
 refine .q (op_call (U := []) [(500, 500), (501, 501)] [] (blen_ev most r n o c hn ho) Tryd.func28 (by kernel_rfl) rfl rfl rfl (⟨⟨_, rfl, rfl, rfl⟩, trivial⟩) (⟨⟨_, _, rfl, rfl, rfl, rfl, (fun h => by cases h), rfl⟩, trivial⟩) (trivial) (⟨(fun h => by cases h), trivial⟩) rfl) trivial rfl ?_
 refine .q (op_assign rfl) trivial rfl ?_
 refine .nil ?_
 show Ev _ _ _ _ _
 refine .ret ?_
 show RetOk _ _ _ _ _ _ _
 exact ret1v rfl (.inl rfl) rfl (rfl) ⟨rfl, trivial⟩
set_option maxRecDepth 100000 in
theorem room_nil (most r : Int) (h0 : 0 ≤ most) (h1 : most ≤ 1000000000) : Meets Tryd.prog 23 [.ptr 500 0] [(500, some ⟨.agg [.i64 (most), .nilsl, .i64 (0), .val (.int .i8 (r))], 62, false⟩)] (.i64 (most - 0)) [(500, some ⟨.agg [.i64 (most), .nilsl, .i64 (0), .val (.int .i8 (r))], 62, false⟩)] := by
 refine meets_of_ev (nt := 10) Tryd.func23 rfl rfl (Nat.le_of_ble_eq_true rfl) ?_
 refine .seq ?_
 refine .region ?_
 refine .q (op_assign rfl) trivial rfl ?_
 refine .nil ?_
 show Ev _ _ _ _ _
 refine .seq ?_
 refine .drawn [[], [0], [0, 1], [0, 1, 2], [], [4], [0, 1, 2, 3, 4, 5], [0, 1, 2, 3, 4, 5, 6]] [3, 5] [] (by kernel_rfl) (by kernel_rfl) rfl ?_
 show DK _ [0, 1, 2, 3, 4, 5, 6, 7] _ _ _
 refine .q rfl (op_move rfl) trivial ?_
 refine .q rfl (op_nilCheck rfl) trivial ?_
 refine .q rfl (op_fieldAddr (m := 0) Tryd.underlying62 rfl (by kernel_rfl) rfl) trivial ?_
 refine .as (.ptr 500 0) rfl ?_
 refine .q rfl (op_load Tryd.underlying3 rfl rfl rfl rfl (by show 0 < 4; decide)) trivial ?_
 refine .q rfl (op_move rfl) trivial ?_
 refine .q rfl (op_call (U := []) [(500, 500)] [] (flen_nil most r) Tryd.func22 (by kernel_rfl) rfl rfl rfl (⟨⟨_, rfl, rfl, rfl⟩, trivial⟩) (⟨⟨_, _, rfl, rfl, rfl, rfl, (fun h => by cases h), rfl⟩, trivial⟩) (trivial) (⟨(fun h => by cases h), trivial⟩) rfl) trivial ?_
 refine .q rfl (op_subI rfl rfl ⟨by omega, by omega⟩) trivial ?_
 refine .q rfl (op_assign rfl) trivial ?_
 refine .nil ?_
 show Ev _ _ _ _ _
 refine .ret ?_
 show RetOk _ _ _ _ _ _ _
 exact ret1v rfl (.inl rfl) rfl (rfl) ⟨rfl, trivial⟩
set_option maxRecDepth 100000 in
theorem room_ev (most r : Int) (n o c : Nat) (hn : n ≤ 1000000000) (ho : o ≤ n) (h0 : 0 ≤ most) (h1 : most ≤ 1000000000) : Meets Tryd.prog 23 [.ptr 500 0] [(500, some ⟨.agg [.i64 (most), .slk 501 0 (n) (c) true, .i64 ((o : Int)), .val (.int .i8 (r))], 62, false⟩)] (.i64 (most - ((n : Int) - (o : Int)))) [(500, some ⟨.agg [.i64 (most), .slk 501 0 (n) (c) true, .i64 ((o : Int)), .val (.int .i8 (r))], 62, false⟩)] := by
 refine meets_of_ev (nt := 10) Tryd.func23 rfl rfl (Nat.le_of_ble_eq_true rfl) ?_
 refine .seq ?_
 refine .region ?_
 refine .q (op_assign rfl) trivial rfl ?_
 refine .nil ?_
 show Ev _ _ _ _ _
 refine .seq ?_
 refine .drawn [[], [0], [0, 1], [0, 1, 2], [], [4], [0, 1, 2, 3, 4, 5], [0, 1, 2, 3, 4, 5, 6]] [3, 5] [] (by kernel_rfl) (by kernel_rfl) rfl ?_
 show DK _ [0, 1, 2, 3, 4, 5, 6, 7] _ _ _
 refine .q rfl (op_move rfl) trivial ?_
 refine .q rfl (op_nilCheck rfl) trivial ?_
 refine .q rfl (op_fieldAddr (m := 0) Tryd.underlying62 rfl (by kernel_rfl) rfl) trivial ?_
 refine .as (.ptr 500 0) rfl ?_
 refine .q rfl (op_load Tryd.underlying3 rfl rfl rfl rfl (by show 0 < 4; decide)) trivial ?_
 refine .q rfl (op_move rfl) trivial ?_
 refine .q rfl (op_call (U := []) [(500, 500), (501, 501)] [] (flen_ev most r n o c hn ho) Tryd.func22 (by kernel_rfl) rfl rfl rfl (⟨⟨_, rfl, rfl, rfl⟩, trivial⟩) (⟨⟨_, _, rfl, rfl, rfl, rfl, (fun h => by cases h), rfl⟩, trivial⟩) (trivial) (⟨(fun h => by cases h), trivial⟩) rfl) trivial ?_
 refine .q rfl (op_subI rfl rfl ⟨by omega, by omega⟩) trivial ?_
 refine .q rfl (op_assign rfl) trivial ?_
 refine .nil ?_
 show Ev _ _ _ _ _
 refine .ret ?_
 show RetOk _ _ _ _ _ _ _
 exact ret1v rfl (.inl rfl) rfl (rfl) ⟨rfl, trivial⟩
set_option maxRecDepth 100000 in
theorem newBuffer_ev (n : Int) : Meets Tryd.prog 18 [.i64 n] [] (.ptr 1000 0) [(1000, some ⟨.agg [.i64 (min (max n 0) 16777216), .nilsl, .i64 (0), .val (.int .i8 (0))], 62, true⟩)] := by
 refine meets_of_ev (nt := 8) Tryd.func18 rfl rfl (Nat.le_of_ble_eq_true rfl) ?_
 refine .seq ?_
 refine .region ?_
 refine .q (op_assign rfl) trivial rfl ?_
 refine .nil ?_
 show Ev _ _ _ _ _
 refine .seq ?_
 refine .region ?_
 refine .q (op_move rfl) trivial rfl ?_
 refine .q (op_maxI rfl rfl) trivial rfl ?_
 refine .q (op_minI rfl rfl) trivial rfl ?_
 refine .q (op_buildS (r := .agg [.i64 (min (max n 0) 16777216), .nilsl, .i64 (0), .val (.int .i8 (0))]) Tryd.underlying62 rfl zero62 rel_zero62 rfl rfl rfl rfl) trivial rfl ?_
 refine .a (op_boxRow rfl rfl) trivial rfl ?_
 refine .q (op_assign rfl) trivial rfl ?_
 refine .nil ?_
 show Ev _ _ _ _ _
 refine .ret ?_
 show RetOk _ _ _ _ _ _ _
 exact ret1v rfl (.inl rfl) rfl (rfl) ⟨rfl, trivial⟩
set_option maxRecDepth 100000 in
theorem tg_nil (most r : Int) (n : Nat) (h : 0 < n) : Meets Tryd.prog 31 [.ptr 500 1, .i64 (n : Int)] [(500, some ⟨.agg [.i64 (most), .nilsl, .i64 (0), .val (.int .i8 (r))], 62, false⟩)] (.tup [.i64 0, .bool false]) [(500, some ⟨.agg [.i64 (most), .nilsl, .i64 (0), .val (.int .i8 (r))], 62, false⟩)] := by
 refine meets_of_ev (nt := 33) Tryd.func31 rfl rfl (Nat.le_of_ble_eq_true rfl) ?_
 refine .seq ?_
 refine .region ?_
 refine .q (op_assign rfl) trivial rfl ?_
 refine .q (op_assign rfl) trivial rfl ?_
 refine .nil ?_
 show Ev _ _ _ _ _
 refine .seq ?_
 refine .seq ?_
 refine .region ?_
 refine .q (op_move rfl) trivial rfl ?_
 refine .q (op_nilCheck rfl) trivial rfl ?_
 refine .q (op_fieldAddr (m := 0) Tryd.underlying60 rfl (by kernel_rfl) rfl) trivial rfl ?_
 refine .as (.ptr 500 1) rfl ?_
 refine .q (op_load Tryd.underlying56 rfl rfl rfl rfl (by show 1 < 4; decide)) trivial rfl ?_
 refine .q (op_len_nil Tryd.underlying56 rfl) trivial rfl ?_
 refine .q (op_assign rfl) trivial rfl ?_
 refine .nil ?_
 show Ev _ _ _ _ _
 refine .seq ?_
 refine .region ?_
 refine .q (op_move rfl) trivial rfl ?_
 refine .q (op_move rfl) trivial rfl ?_
 refine .q (op_nilCheck rfl) trivial rfl ?_
 refine .q (op_fieldAddr (m := 0) Tryd.underlying60 rfl (by kernel_rfl) rfl) trivial rfl ?_
 refine .as (.ptr 500 1) rfl ?_
 refine .q (op_load Tryd.underlying56 rfl rfl rfl rfl (by show 1 < 4; decide)) trivial rfl ?_
 refine .q (op_cap_nil Tryd.underlying56 rfl) trivial rfl ?_
 refine .q (op_move rfl) trivial rfl ?_
 refine .q (op_subI rfl rfl ⟨by omega, by omega⟩) trivial rfl ?_
 refine .q (op_cmpI rfl rfl rfl) trivial rfl ?_
 refine .nil ?_
 show Ev _ _ _ _ _
 refine .cond_false rfl (decide_eq_false (by omega)) ?_
 refine .skip ?_
 show Ev _ _ _ _ _
 refine .seq ?_
 refine .region ?_
 refine .q (op_assign rfl) trivial rfl ?_
 refine .q (op_assign rfl) trivial rfl ?_
 refine .nil ?_
 show Ev _ _ _ _ _
 refine .ret ?_
 show RetOk _ _ _ _ _ _ _
 exact ret2v rfl (.inl rfl) rfl rfl rfl rfl ⟨rfl, trivial⟩
set_option maxRecDepth 100000 in
theorem grow_nil (most r : Int) (n : Nat) (h : 0 < n) (h64 : n ≤ 64) : Meets Tryd.prog 32 [.ptr 500 1, .i64 (n : Int)] [(500, some ⟨.agg [.i64 (most), .nilsl, .i64 (0), .val (.int .i8 (r))], 62, true⟩)] (.i64 0) [(500, some ⟨.agg [.i64 (most), .slk 1000 0 (n) (64) true, .i64 (0), .val (.int .i8 (r))], 62, true⟩), (1000, some ⟨.aggB z64, 5, true⟩)] := by
 refine meets_of_ev (nt := 110) Tryd.func32 rfl rfl (Nat.le_of_ble_eq_true rfl) ?_
 refine .seq ?_
 refine .region ?_
 refine .q (op_assign rfl) trivial rfl ?_
 refine .nil ?_
 show Ev _ _ _ _ _
 refine .seq ?_
 refine .region ?_
 refine .q (op_move rfl) trivial rfl ?_
 refine .q (op_call (U := []) [(500, 500)] [] (blen_nil most r) Tryd.func28 (by kernel_rfl) rfl rfl rfl (⟨⟨_, rfl, rfl, rfl⟩, trivial⟩) (⟨⟨_, _, rfl, rfl, rfl, rfl, (fun h => by cases h), rfl⟩, trivial⟩) (trivial) (⟨(fun h => by cases h), trivial⟩) rfl) trivial rfl ?_
 refine .q (op_assign rfl) trivial rfl ?_
 refine .nil ?_
 show Ev _ _ _ _ _
 refine .seq ?_
 refine .seq ?_
 refine .region ?_
 refine .q (op_move rfl) trivial rfl ?_
 refine .q (op_cmpI rfl rfl rfl) trivial rfl ?_
 refine .q (op_move rfl) trivial rfl ?_
 refine .know (b' := true) (rfl) ?_
 refine .q (op_move rfl) ⟨_, rfl, rfl⟩ rfl ?_
 refine .q (op_nilCheck rfl) ⟨_, rfl, rfl⟩ rfl ?_
 refine .q (op_fieldAddr (m := 0) Tryd.underlying60 rfl (by kernel_rfl) rfl) ⟨_, rfl, rfl⟩ rfl ?_
 refine .as (.ptr 500 2) rfl ?_
 refine .q (op_load Tryd.underlying3 rfl rfl rfl rfl (by show 2 < 4; decide)) ⟨_, rfl, rfl⟩ rfl ?_
 refine .q (op_cmpI rfl rfl rfl) ⟨_, rfl, rfl⟩ rfl ?_
 refine .q (op_pick_true rfl rfl rfl) trivial rfl ?_
 refine .nil ?_
 show Ev _ _ _ _ _
 refine .cond_false rfl (rfl) ?_
 refine .skip ?_
 show Ev _ _ _ _ _
 refine .seq ?_
 refine .seq ?_
 refine .region ?_
 refine .q (op_move rfl) trivial rfl ?_
 refine .q (op_move rfl) trivial rfl ?_
 refine .q (op_call (U := []) [(500, 500)] [] (tg_nil most r n h) Tryd.func31 (by kernel_rfl) rfl rfl rfl (⟨⟨_, rfl, rfl, rfl⟩, ⟨_, rfl, rfl, rfl⟩, trivial⟩) (⟨⟨_, _, rfl, rfl, rfl, rfl, (fun h => by cases h), rfl⟩, trivial⟩) (trivial) (⟨(fun h => by cases h), trivial⟩) rfl) trivial rfl ?_
 refine .q (op_move rfl) trivial rfl ?_
 refine .q (op_extract rfl rfl) trivial rfl ?_
 refine .q (op_extract rfl rfl) trivial rfl ?_
 refine .q (op_assign rfl) trivial rfl ?_
 refine .q (op_assign rfl) trivial rfl ?_
 refine .nil ?_
 show Ev _ _ _ _ _
 refine .seq ?_
 refine .region ?_
 refine .q (op_move rfl) trivial rfl ?_
 refine .nil ?_
 show Ev _ _ _ _ _
 refine .cond_false rfl (rfl) ?_
 refine .skip ?_
 show Ev _ _ _ _ _
 refine .seq ?_
 refine .seq ?_
 refine .region ?_
 refine .q (op_move rfl) trivial rfl ?_
 refine .q (op_nilCheck rfl) trivial rfl ?_
 refine .q (op_fieldAddr (m := 0) Tryd.underlying60 rfl (by kernel_rfl) rfl) trivial rfl ?_
 refine .as (.ptr 500 1) rfl ?_
 refine .q (op_load Tryd.underlying56 rfl rfl rfl rfl (by show 1 < 4; decide)) trivial rfl ?_
 refine .q (op_eqNilSl Tryd.underlying56 rfl) trivial rfl ?_
 refine .q (op_move rfl) trivial rfl ?_
 refine .know (b' := true) (rfl) ?_
 refine .q (op_move rfl) ⟨_, rfl, rfl⟩ rfl ?_
 refine .q (op_cmpI rfl rfl rfl) ⟨_, rfl, rfl⟩ rfl ?_
 refine .q (op_pick_true rfl rfl rfl) trivial rfl ?_
 refine .nil ?_
 show Ev _ _ _ _ _
 refine .cond_true rfl (decide_eq_true (by omega)) ?_
 refine .seq ?_
 refine .region ?_
 refine .q (op_move rfl) trivial rfl ?_
 refine .q (op_move rfl) trivial rfl ?_
 refine .a (op_makeCap (n := n) (cp := 64) (u := .u8 0) (c := .aggB z64) Tryd.underlying56 inf5 rfl rfl rfl rfl (by omega) (by decide) (rel_zero5) rfl rfl) trivial rfl ?_
 refine .q (op_nilCheck rfl) trivial rfl ?_
 refine .q (op_fieldAddr (m := 0) Tryd.underlying60 rfl (by kernel_rfl) rfl) trivial rfl ?_
 refine .as (.ptr 500 1) rfl ?_
 refine .w (op_store (by kernel_rfl) rfl rfl rfl rfl rfl (by show 1 < 4; decide)) trivial rfl ?_
 refine .nil ?_
 show Ev _ _ _ _ _
 refine .seq ?_
 refine .region ?_
 refine .q (op_assign rfl) trivial rfl ?_
 refine .nil ?_
 show Ev _ _ _ _ _
 refine .ret ?_
 show RetOk _ _ _ _ _ _ _
 exact ret1v rfl (.inl rfl) rfl (rfl) ⟨rfl, rfl, trivial⟩
set_option maxRecDepth 100000 in
theorem ws_nil (most r : Int) (s : List UInt8) (h : 0 < s.length) (h64 : s.length ≤ 64) : Meets Tryd.prog 27 [.ptr 500 1, .str s] [(500, some ⟨.agg [.i64 (most), .nilsl, .i64 (0), .val (.int .i8 (r))], 62, true⟩)] (.tup [.i64 (s.length : Int), .val .nilIface]) [(500, some ⟨.agg [.i64 (most), .slk 1000 0 (s.length) (64) true, .i64 (0), .val (.int .i8 (0))], 62, true⟩), (1000, some ⟨.aggB (wrB z64 0 s), 5, true⟩)] := by
 refine meets_of_ev (nt := 32) Tryd.func27 rfl rfl (Nat.le_of_ble_eq_true rfl) ?_
 refine .seq ?_
 refine .region ?_
 refine .q (op_assign rfl) trivial rfl ?_
 refine .q (op_assign rfl) trivial rfl ?_
 refine .nil ?_
 show Ev _ _ _ _ _
 refine .seq ?_
 refine .region ?_
 refine .q (op_move rfl) trivial rfl ?_
 refine .q (op_nilCheck rfl) trivial rfl ?_
 refine .q (op_fieldAddr (m := 0) Tryd.underlying60 rfl (by kernel_rfl) rfl) trivial rfl ?_
 refine .as (.ptr 500 3) rfl ?_
 refine .w (op_store (by kernel_rfl) rfl rfl rfl rfl rfl (by show 3 < 4; decide)) trivial rfl ?_
 refine .nil ?_
 show Ev _ _ _ _ _
 refine .seq ?_
 refine .region ?_
 refine .q (op_move rfl) trivial rfl ?_
 refine .q (op_move rfl) trivial rfl ?_
 refine .q (op_len_str Tryd.underlying9 rfl) trivial rfl ?_
 refine .q (op_call (U := []) [(500, 500)] [] (tg_nil most 0 s.length h) Tryd.func31 (by kernel_rfl) rfl rfl rfl (⟨⟨_, rfl, rfl, rfl⟩, ⟨_, rfl, rfl, rfl⟩, trivial⟩) (⟨⟨_, _, rfl, rfl, rfl, rfl, (fun h => by cases h), rfl⟩, trivial⟩) (trivial) (⟨(fun h => by cases h), trivial⟩) rfl) trivial rfl ?_
 refine .q (op_move rfl) trivial rfl ?_
 refine .q (op_extract rfl rfl) trivial rfl ?_
 refine .q (op_extract rfl rfl) trivial rfl ?_
 refine .q (op_assign rfl) trivial rfl ?_
 refine .q (op_assign rfl) trivial rfl ?_
 refine .nil ?_
 show Ev _ _ _ _ _
 refine .seq ?_
 refine .seq ?_
 refine .region ?_
 refine .q (op_move rfl) trivial rfl ?_
 refine .q (op_notB rfl) trivial rfl ?_
 refine .nil ?_
 show Ev _ _ _ _ _
 refine .cond_true rfl (rfl) ?_
 refine .region ?_
 refine .q (op_move rfl) trivial rfl ?_
 refine .q (op_move rfl) trivial rfl ?_
 refine .q (op_len_str Tryd.underlying9 rfl) trivial rfl ?_
 refine .a (op_call (U := [(1000, some ⟨.aggB z64, 5, true⟩), (500, some ⟨.agg [.i64 (most), .slk 1000 0 (s.length) (64) true, .i64 (0), .val (.int .i8 (0))], 62, true⟩)]) [(500, 500)] [(1000, 1000)] (grow_nil most 0 s.length h h64) Tryd.func32 (by kernel_rfl) rfl rfl rfl (⟨⟨_, rfl, rfl, rfl⟩, ⟨_, rfl, rfl, rfl⟩, trivial⟩) (⟨⟨_, _, rfl, rfl, rfl, rfl, id, rfl⟩, trivial⟩) (⟨⟨1000, _, rfl, rfl, rfl, rfl, .inl rfl⟩, ⟨500, _, rfl, rfl, rfl, rfl, .inr ⟨rfl, _, rfl, rfl⟩⟩, trivial⟩) (⟨(fun _ => ⟨500, _, rfl, rfl⟩), trivial⟩) rfl) trivial rfl ?_
 refine .q (op_assign rfl) trivial rfl ?_
 refine .nil ?_
 show Ev _ _ _ _ _
 refine .seq ?_
 refine .region ?_
 refine .q (op_move rfl) trivial rfl ?_
 refine .q (op_nilCheck rfl) trivial rfl ?_
 refine .q (op_fieldAddr (m := 0) Tryd.underlying60 rfl (by kernel_rfl) rfl) trivial rfl ?_
 refine .as (.ptr 500 1) rfl ?_
 refine .q (op_load Tryd.underlying56 rfl rfl rfl rfl (by show 1 < 4; decide)) trivial rfl ?_
 refine .asR (.sl 1000 0 s.length 1) slk_sl ?_
 refine .q (op_move rfl) trivial rfl ?_
 refine .q (op_slice_sl Tryd.underlying56 inf5.sz rfl (bnd_some rfl rfl) rfl (by first | omega | (skip; omega) | (skip; omega) | assumption | (simp; done)) (by first | omega | (simp only [AV.len]; omega) | (simp only [AV.len, List.length_set]; omega) | assumption | (simp [AV.len]; done))) trivial rfl ?_
 refine .q (op_move rfl) trivial rfl ?_
 refine .a (op_copy (q := s.length) (c' := .aggB (wrB z64 0 s)) Tryd.underlying56 inf5.sz rfl rfl rfl (srcs_str rfl) (by simp only [AV.len, z64_len]; omega) (by simp) (wrB_list z64 0 s)) trivial rfl ?_
 refine .q (op_assign rfl) trivial rfl ?_
 refine .q (op_assign rfl) trivial rfl ?_
 refine .nil ?_
 show Ev _ _ _ _ _
 refine .ret ?_
 show RetOk _ _ _ _ _ _ _
 exact ret2v rfl (.inl rfl) rfl rfl rfl rfl ⟨rfl, rfl, trivial⟩
end Go.Proofs.YtdhpfkojodgadaaDoor
