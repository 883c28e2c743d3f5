/-
  Texts of this claim.
-/
import Derived.Test.YtcnjekoidgefpaaGreatDoorGT1P
import Derived.Test.YtcnjekoidgefpaaGreatDoorGF2P
import Derived.Test.YtcnjekoidgefpaaGreatDoorGEP
namespace Go.Proofs.YtcnjekoidgefpaaGreatDoor
open Go.RowKit
set_option maxHeartbeats 400000 in
set_option maxRecDepth 100000 in
theorem sReduce_ev (e : Nat) (s : List UInt8) (hs : s.length ≤ 1000000) : Meets Tryz.prog 27 [.str s] (HO e) (.aggB (bsN (leN s 64 % scL) 32)) [] := by
 obtain ⟨R, hR⟩ : ∃ R, R = bsN (leN s 64 % scL) 32 := ⟨_, rfl⟩
 have hlR : R.length = 32 := by rw [hR]; exact length_bsN _ 32
 rw [← hR]
 refine meets_of_ev (nt := 25) Tryz.func27 rfl rfl (Nat.le_of_ble_eq_true rfl) ?_
 refine .seq ?_
 refine .region ?_
 refine .a (op_allocRow zero22 rel_zero22 rfl) trivial rfl ?_
 refine .nil ?_
 show Ev _ _ _ _ _
 refine .seq ?_
 refine .region ?_
 refine .a (op_allocRow zero29 rel_zero29 rfl) trivial rfl ?_
 refine .nil ?_
 show Ev _ _ _ _ _
 refine .seq ?_
 refine .region ?_
 refine .q (ap_slice_arr_hi Tryz.underlying29 inf5.sz rfl rfl (by first | omega | decide | (simp [AV.len]; done)) (by decide) rfl (by first | omega | decide | (simp [AV.len]; done))) trivial rfl ?_
 refine .q (op_move rfl) trivial rfl ?_
 refine .a (op_copy (q := (min s.length 64)) (c' := .aggB (pad64 s)) Tryz.underlying25 inf5.sz rfl rfl rfl (srcs_str rfl) (by first | omega | decide | (simp [AV.len]; done)) (by first | rfl | omega) (by simp only [AV.list, AV.parts, Option.getD_some, pad64, List.map_append, List.map_replicate, List.take_zero, List.nil_append, List.drop_replicate, Nat.zero_add, List.map_take]; congr 1; rw [List.take_eq_take_iff]; simp; omega)) trivial rfl ?_
 refine .nil ?_
 show Ev _ _ _ _ _
 refine .seq ?_
 refine .region ?_
 refine .a (op_allocRow zero91 rel_zero91 rfl) trivial rfl ?_
 refine .nil ?_
 show Ev _ _ _ _ _
 refine .seq ?_
 refine .seq ?_
 refine .region ?_
 refine .q (op_move rfl) trivial rfl ?_
 refine .nil ?_
 show Ev _ _ _ _ _
 refine .block ?_
 refine Ev.loop (ι := { j : Nat // j ≤ 8 }) (fun j => ⟨[(2, .ptr 1000 0), (3, .ptr 1008 0), (4, .ptr 1024 0), (9, .i64 ((j.1 : Nat) : Int))], [(1000, some ⟨.aggB (List.replicate 32 0), 22, true⟩), (1008, some ⟨.aggB (pad64 s), 29, true⟩), (1024, some ⟨.agg64 (owN (pad64 s) j.1), 91, true⟩), (2, some ⟨.agg64 orderL, e, false⟩)], 1032⟩) (fun j => 8 - j.1) ⟨0, Nat.zero_le _⟩ (StLe.mk [(1000, 1000), (1008, 1008), (1024, 1024)] rfl rfl ⟨⟨_, rfl, by first | rfl | (simp only [AV.ren]; congr 1; omega), rfl⟩, ⟨_, rfl, by first | rfl | (simp only [AV.ren]; congr 1; omega), rfl⟩, ⟨_, rfl, by first | rfl | (simp only [AV.ren]; congr 1; omega), rfl⟩, ⟨_, rfl, by first | rfl | (simp only [AV.ren]; congr 1; omega), rfl⟩, trivial⟩ ⟨⟨_, _, rfl, rfl, by first | rfl | (simp only [AV.ren]; congr 1; omega), rfl, id, rfl⟩, ⟨_, _, rfl, rfl, by first | rfl | (simp only [AV.ren]; congr 1; omega), rfl, id, rfl⟩, ⟨_, _, rfl, rfl, by first | rfl | (simp only [AV.ren]; congr 1; omega), rfl, id, rfl⟩, ⟨_, _, rfl, rfl, by first | rfl | (simp only [AV.ren]; congr 1; omega), rfl, id, rfl⟩, trivial⟩) ?_
 rintro ⟨j, hj⟩
 dsimp only
 have hl : (owN (pad64 s) j).length = 8 := length_owN _ j
 have hlp : (pad64 s).length = 64 := length_pad64 s
 refine .seq ?_
 refine .region ?_
 refine .q (op_cmpI rfl rfl rfl) trivial rfl ?_
 refine .nil ?_
 show Ev _ _ _ _ _
 refine .seq ?_
 refine .cond rfl (fun hc10 => ?_) (fun hc10 => ?_)
 ·simp only [decide_eq_true_eq] at hc10
  refine .skip ?_
  show Ev _ _ _ _ _
  refine .seq ?_
  refine .block ?_
  refine .seq ?_
  refine .region ?_
  refine .q (op_move rfl) trivial rfl ?_
  refine .q (op_assign rfl) trivial rfl ?_
  refine .nil ?_
  show Ev _ _ _ _ _
  refine .region ?_
  refine .q (op_move rfl) trivial rfl ?_
  refine .q (op_move rfl) trivial rfl ?_
  refine .q (op_mulI rfl rfl ⟨by omega, by omega⟩) trivial rfl ?_
  refine .q (op_move rfl) trivial rfl ?_
  refine .q (op_addI rfl rfl ⟨by omega, by omega⟩) trivial rfl ?_
  refine .q (op_mulI rfl rfl ⟨by omega, by omega⟩) trivial rfl ?_
  refine .q (op_slice_arr Tryz.underlying29 inf5.sz rfl rfl (by first | omega | (simp only [AV.len]; omega)) (by decide) (bnd_some rfl (l := 8 * j) (by omega)) (bnd_some rfl (l := 8 * (j + 1)) (by omega)) (by first | omega | (simp only [AV.len]; omega)) (by first | omega | (simp only [AV.len]; omega))) trivial rfl ?_
  refine .as (.sl 1008 (8 * j) 8 1) (slice_as (by omega) (by omega)) ?_
  refine .q (op_call (U := []) [(500, 1008)] [] (sreadWord_ev (pad64 s) (8 * j) 8 29 (by rw [length_pad64]; omega) (by omega)) Tryz.func63 (by kernel_rfl) rfl rfl rfl (⟨⟨_, rfl, rfl, rfl⟩, trivial⟩) (⟨⟨_, _, rfl, rfl, rfl, rfl, (fun h => by cases h), rfl⟩, trivial⟩) (trivial) (⟨(fun h => by cases h), trivial⟩) rfl) trivial rfl ?_
  refine .q (ap_idx_arr Tryz.underlying91 inf52.sz rfl rfl rfl (by first | omega | (simp only [AV.len]; omega) | (simp only [AV.len, List.length_set]; omega) | assumption | (simp [AV.len]; done))) trivial rfl ?_
  refine .w (op_store inf52.sz rfl rfl rfl rfl rfl (by first | omega | (simp only [AV.len]; omega) | (simp only [AV.len, List.length_set]; omega) | assumption | (simp [AV.len]; done))) trivial rfl ?_
  refine .nil ?_
  show Ev _ _ _ _ _
  refine .region ?_
  refine .q (op_addI rfl rfl ⟨by omega, by omega⟩) trivial rfl ?_
  refine .q (op_move rfl) trivial rfl ?_
  refine .nil ?_
  exact ⟨⟨j + 1, by omega⟩, by show 8 - (j + 1) < 8 - j; omega, StLe.mk [(1000, 1000), (1008, 1008), (1024, 1024)] rfl rfl ⟨⟨_, rfl, by first | rfl | (simp only [AV.ren]; congr 1; omega), rfl⟩, ⟨_, rfl, by first | rfl | (simp only [AV.ren]; congr 1; omega), rfl⟩, ⟨_, rfl, by first | rfl | (simp only [AV.ren]; congr 1; omega), rfl⟩, ⟨_, rfl, by first | rfl | (simp only [AV.ren]; congr 1; omega), rfl⟩, trivial⟩ ⟨⟨_, _, rfl, rfl, by first | rfl | (simp only [AV.ren]; congr 1; omega), rfl, id, rfl⟩, ⟨_, _, rfl, rfl, by first | rfl | (simp only [AV.ren]; congr 1; omega), rfl, id, rfl⟩, ⟨_, _, rfl, rfl, by first | rfl | (simp only [AV.ren]; congr 1; omega), rfl, id, rfl⟩, ⟨_, _, rfl, rfl, by first | rfl | (simp only [AV.ren]; congr 1; omega), rfl, id, rfl⟩, trivial⟩⟩
 ·simp only [decide_eq_false_iff_not] at hc10
  refine .exit ?_
  show Ev _ _ _ _ _
  have ej : j = 8 := by omega
  refine Ev.weak (st2 := ⟨[(2, .ptr 1000 0), (3, .ptr 1008 0), (4, .ptr 1024 0), (9, .i64 (((8) : Nat) : Int))], [(1000, some ⟨.aggB (List.replicate 32 0), 22, true⟩), (1008, some ⟨.aggB (pad64 s), 29, true⟩), (1024, some ⟨.agg64 (owN (pad64 s) (8)), 91, true⟩), (2, some ⟨.agg64 orderL, e, false⟩)], 1032⟩) (StLe.mk [(1000, 1000), (1008, 1008), (1024, 1024)] rfl rfl ⟨⟨_, rfl, by first | (simp only [AV.ren]; done) | (simp only [AV.ren]; rw [ej]; done) | rfl, rfl⟩, ⟨_, rfl, by first | (simp only [AV.ren]; done) | (simp only [AV.ren]; rw [ej]; done) | rfl, rfl⟩, ⟨_, rfl, by first | (simp only [AV.ren]; done) | (simp only [AV.ren]; rw [ej]; done) | rfl, rfl⟩, ⟨_, rfl, by first | (simp only [AV.ren]; done) | (simp only [AV.ren]; rw [ej]; done) | rfl, rfl⟩, trivial⟩ ⟨⟨_, _, rfl, rfl, by first | (simp only [AV.ren]; done) | (simp only [AV.ren]; rw [ej]; done) | rfl, rfl, id, rfl⟩, ⟨_, _, rfl, rfl, by first | (simp only [AV.ren]; done) | (simp only [AV.ren]; rw [ej]; done) | rfl, rfl, id, rfl⟩, ⟨_, _, rfl, rfl, by first | (simp only [AV.ren]; done) | (simp only [AV.ren]; rw [ej]; done) | rfl, rfl, id, rfl⟩, ⟨_, _, rfl, rfl, by first | (simp only [AV.ren]; done) | (simp only [AV.ren]; rw [ej]; done) | rfl, rfl, id, rfl⟩, trivial⟩) ?_
  refine .seq ?_
  refine .region ?_
  refine .q (op_loadRow Tryz.underlying91 rfl sz91 rfl rfl rfl (length_owN _ 8)) trivial rfl ?_
  refine .as (.agg64 (wl (leN s 64))) (congrArg AV.agg64 (by rw [ow_wl, leN_pad64])) ?_
  refine .q (op_call (U := []) [] [] (sreduced_ev e (leN s 64) (leN_lt s 64)) Tryz.func65 (by kernel_rfl) rfl rfl rfl (⟨⟨_, rfl, rfl, rfl⟩, trivial⟩) (⟨⟨_, _, rfl, rfl, rfl, rfl, id, rfl⟩, trivial⟩) (trivial) (⟨(fun h => by cases h), trivial⟩) rfl) trivial rfl ?_
  refine .q (op_call (U := []) [] [] (swritten_ev _) Tryz.func64 (by kernel_rfl) rfl rfl rfl (⟨⟨_, rfl, rfl, rfl⟩, trivial⟩) (trivial) (trivial) (trivial) rfl) trivial rfl ?_
  refine .as (.aggB R) (by rw [hR]; rfl) ?_
  refine .w (op_storeRow sz22 rfl rfl rfl rfl rfl (by first | rfl | exact hlR) (by first | rfl | exact hlR)) trivial rfl ?_
  refine .nil ?_
  show Ev _ _ _ _ _
  refine .ret ?_
  show RetOk _ _ _ _ _ _ _
  exact retc1 rfl (.inl rfl) ⟨_, _, _, _, rfl, rfl, rfl, rfl, (hlR), Tryz.underlying22, rfl, sz22⟩ trivial
theorem ps_lt (x y z : List UInt8) : leN x 32 * leN y 32 + leN z 32 < 256 ^ 64 := by
 have hx := leN_lt x 32
 have hy := leN_lt y 32
 have hz := leN_lt z 32
 have h := Nat.mul_le_mul (Nat.le_sub_one_of_lt hx) (Nat.le_sub_one_of_lt hy)
 rw [show (256 : Nat) ^ 32 = 115792089237316195423570985008687907853269984665640564039457584007913129639936 from rfl] at *
 have e : (256 : Nat) ^ 64 = 256 ^ 32 * 256 ^ 32 := by rw [← Nat.pow_add]
 rw [show (256 : Nat) ^ 32 = 115792089237316195423570985008687907853269984665640564039457584007913129639936 from rfl] at e
 omega
set_option maxRecDepth 100000 in
theorem sMulAdd_ev (e : Nat) (x y z : List UInt8) (hx : x.length = 32) (hy : y.length = 32) (hz : z.length = 32) : Meets Tryz.prog 28 [.aggB x, .aggB y, .aggB z] (HO e) (.aggB (bsN ((leN x 32 * leN y 32 + leN z 32) % scL) 32)) [] := by
 obtain ⟨R, hR⟩ : ∃ R, R = bsN ((leN x 32 * leN y 32 + leN z 32) % scL) 32 := ⟨_, rfl⟩
 have hlR : R.length = 32 := by rw [hR]; exact length_bsN _ 32
 rw [← hR]
 refine meets_of_ev (nt := 16) Tryz.func28 rfl rfl (Nat.le_of_ble_eq_true rfl) ?_
 refine .seq ?_
 refine .region ?_
 refine .a (op_boxRow rfl rfl) trivial rfl ?_
 refine .a (op_boxRow rfl rfl) trivial rfl ?_
 refine .a (op_boxRow rfl rfl) trivial rfl ?_
 refine .a (op_allocRow zero22 rel_zero22 rfl) trivial rfl ?_
 refine .nil ?_
 show Ev _ _ _ _ _
 refine .seq ?_
 refine .drawn [[], [0], [], [0, 1, 2], [], [0, 1, 2, 3, 4], [0, 1, 2, 3, 4, 5], [0, 1, 2, 3, 4, 5, 6], [0, 1, 2, 3, 4, 5, 6, 7], [0, 1, 2, 3, 4, 5, 6, 7, 8]] [0, 1, 2, 3, 4, 5, 6, 7, 8, 9] [9] (by kernel_rfl) (by kernel_rfl) rfl ?_
 show DK _ [0, 1, 2, 3, 4, 5, 6, 7, 8, 9] _ _ _
 refine .q rfl (op_loadRow Tryz.underlying22 rfl sz22 rfl rfl rfl (by first | exact hx | (simp only [AV.len]; omega))) trivial ?_
 refine .q rfl (op_call (U := []) [] [] (sread_ev x hx) Tryz.func67 (by kernel_rfl) rfl rfl rfl (⟨⟨_, rfl, rfl, rfl⟩, trivial⟩) (trivial) (trivial) (trivial) rfl) trivial ?_
 refine .q rfl (op_loadRow Tryz.underlying22 rfl sz22 rfl rfl rfl (by first | exact hy | (simp only [AV.len]; omega))) trivial ?_
 refine .q rfl (op_call (U := []) [] [] (sread_ev y hy) Tryz.func67 (by kernel_rfl) rfl rfl rfl (⟨⟨_, rfl, rfl, rfl⟩, trivial⟩) (trivial) (trivial) (trivial) rfl) trivial ?_
 refine .q rfl (op_loadRow Tryz.underlying22 rfl sz22 rfl rfl rfl (by first | exact hz | (simp only [AV.len]; omega))) trivial ?_
 refine .q rfl (op_call (U := []) [] [] (sread_ev z hz) Tryz.func67 (by kernel_rfl) rfl rfl rfl (⟨⟨_, rfl, rfl, rfl⟩, trivial⟩) (trivial) (trivial) (trivial) rfl) trivial ?_
 refine .q rfl (op_call (U := []) [] [] (psum_ev (leN x 32) (leN y 32) (leN z 32) (by have := leN_lt x 32; rwa [show (256 : Nat) ^ 32 = 115792089237316195423570985008687907853269984665640564039457584007913129639936 from rfl] at this) (by have := leN_lt y 32; rwa [show (256 : Nat) ^ 32 = 115792089237316195423570985008687907853269984665640564039457584007913129639936 from rfl] at this) (by have := leN_lt z 32; rwa [show (256 : Nat) ^ 32 = 115792089237316195423570985008687907853269984665640564039457584007913129639936 from rfl] at this)) Tryz.func66 (by kernel_rfl) rfl rfl rfl (⟨⟨_, rfl, rfl, rfl⟩, ⟨_, rfl, rfl, rfl⟩, ⟨_, rfl, rfl, rfl⟩, trivial⟩) (trivial) (trivial) (trivial) rfl) trivial ?_
 refine .q rfl (op_call (U := []) [] [] (sreduced_ev e (leN x 32 * leN y 32 + leN z 32) (ps_lt x y z)) Tryz.func65 (by kernel_rfl) rfl rfl rfl (⟨⟨_, rfl, rfl, rfl⟩, trivial⟩) (⟨⟨_, _, rfl, rfl, rfl, rfl, id, rfl⟩, trivial⟩) (trivial) (⟨(fun h => by cases h), trivial⟩) rfl) trivial ?_
 refine .q rfl (op_call (U := []) [] [] (swritten_ev _) Tryz.func64 (by kernel_rfl) rfl rfl rfl (⟨⟨_, rfl, rfl, rfl⟩, trivial⟩) (trivial) (trivial) (trivial) rfl) trivial ?_
 refine .as (.aggB R) (by rw [hR]; rfl) ?_
 refine .w rfl (op_storeRow sz22 rfl rfl rfl rfl rfl (by first | rfl | exact hlR) (by first | rfl | exact hlR)) trivial rfl rfl ?_
 refine .nil ?_
 show Ev _ _ _ _ _
 refine .ret ?_
 show RetOk _ _ _ _ _ _ _
 exact retc1 rfl (.inl rfl) ⟨_, _, _, _, rfl, rfl, rfl, rfl, (hlR), Tryz.underlying22, rfl, sz22⟩ trivial
theorem fits_bit (a : Nat) : (UInt64.ofNat (if a < scL then 1 else 0) == UInt64.ofNat 1) = decide (a < scL) := by
 by_cases c : a < scL
 ·rw [if_pos c, decide_eq_true c]; rfl
 ·rw [if_neg c, decide_eq_false c]; rfl
set_option maxRecDepth 100000 in
theorem sFits_ev (e : Nat) (K : List UInt8) (hK : K.length = 32) : Meets Tryz.prog 33 [.aggB K] (HO e) (.bool (decide (leN K 32 < scL))) [] := by
 refine meets_of_ev (nt := 13) Tryz.func33 rfl rfl (Nat.le_of_ble_eq_true rfl) ?_
 refine .seq ?_
 refine .region ?_
 refine .a (op_boxRow rfl rfl) trivial rfl ?_
 refine .q (op_assign rfl) trivial rfl ?_
 refine .nil ?_
 show Ev _ _ _ _ _
 refine .seq ?_
 refine .region ?_
 refine .q (op_loadRow Tryz.underlying22 rfl sz22 rfl rfl rfl (by first | exact hK | (simp only [AV.len]; omega))) trivial rfl ?_
 refine .q (op_call (U := []) [] [] (sread_ev K hK) Tryz.func67 (by kernel_rfl) rfl rfl rfl (⟨⟨_, rfl, rfl, rfl⟩, trivial⟩) (trivial) (trivial) (trivial) rfl) trivial rfl ?_
 refine .q (op_call (U := []) [] [] (minus_ev e (leN K 32) (by have := leN_lt K 32; rwa [show (256 : Nat) ^ 32 = 115792089237316195423570985008687907853269984665640564039457584007913129639936 from rfl] at this)) Tryz.func74 (by kernel_rfl) rfl rfl rfl (⟨⟨_, rfl, rfl, rfl⟩, trivial⟩) (⟨⟨_, _, rfl, rfl, rfl, rfl, id, rfl⟩, trivial⟩) (trivial) (⟨(fun h => by cases h), trivial⟩) rfl) trivial rfl ?_
 refine .q (op_move rfl) trivial rfl ?_
 refine .q (op_extract rfl rfl) trivial rfl ?_
 refine .q (op_extract rfl rfl) trivial rfl ?_
 refine .a (op_allocRow zero94 rel_zero94 rfl) trivial rfl ?_
 refine .w (op_storeRow sz94 rfl rfl rfl rfl rfl (rfl) (rfl)) trivial rfl ?_
 refine .q (op_assign rfl) trivial rfl ?_
 refine .nil ?_
 show Ev _ _ _ _ _
 refine .seq ?_
 refine .region ?_
 refine .q (op_move rfl) trivial rfl ?_
 refine .q (op_bin64 rfl rfl rfl) trivial rfl ?_
 refine .q (op_assign rfl) trivial rfl ?_
 refine .nil ?_
 show Ev _ _ _ _ _
 refine .ret ?_
 show RetOk _ _ _ _ _ _ _
 exact ret1v rfl (.inl rfl) rfl (congrArg AV.bool (fits_bit (leN K 32))) trivial
end Go.Proofs.YtcnjekoidgefpaaGreatDoor
namespace Go.Proofs.YtcnjekoidgefpaaGreatDoor
open Go.RowKit
def btN (K : List UInt8) : Nat → List Bool
  | 0 => []
  | n + 1 => btN K n ++ [kb K n]
theorem length_btN (K : List UInt8) (n : Nat) : (btN K n).length = n := by induction n with | zero => rfl | succ n ih => simp [btN, ih]
theorem btN_get (K : List UInt8) (n i : Nat) (h : i < n) : (btN K n).getD i false = kb K i := by
  induction n with
  | zero => omega
  | succ n ih =>
    have hl := length_btN K n
    simp only [btN]
    by_cases c : i < n
    · rw [List.getD_eq_getElem?_getD, List.getElem?_append_left (by omega), ← List.getD_eq_getElem?_getD, ih c]
    · rw [List.getD_eq_getElem?_getD, List.getElem?_append_right (by omega), show i - (btN K n).length = 0 by omega, show n = i by omega]; rfl
theorem bit_ij (K : List UInt8) (i j : Nat) (h : j < 8) : ((K.getD i 0 >>> UInt8.ofNat j) &&& UInt8.ofNat 1 == UInt8.ofNat 1) = kb K (8 * i + j) := by
  have := bit_prog K (8 * i + j)
  rwa [show (8 * i + j) / 8 = i by omega, show (8 * i + j) % 8 = j by omega] at this
set_option maxRecDepth 100000 in
theorem sbits_ev (K : List UInt8) (hK : K.length = 32) : Meets Tryz.prog 78 [.aggB K] [] (.sl 1008 0 256 1) [(1008, some ⟨.aggT (btN K 256), 4, true⟩)] := by
 refine meets_of_ev (nt := 25) Tryz.func78 rfl rfl (Nat.le_of_ble_eq_true rfl) ?_
 refine .seq ?_
 refine .region ?_
 refine .a (op_boxRow rfl rfl) trivial rfl ?_
 refine .q (op_assign rfl) trivial rfl ?_
 refine .nil ?_
 show Ev _ _ _ _ _
 refine .seq ?_
 refine .region ?_
 refine .q (op_assign rfl) trivial rfl ?_
 refine .nil ?_
 show Ev _ _ _ _ _
 refine .seq ?_
 refine .seq ?_
 refine .region ?_
 refine .q (op_move rfl) trivial rfl ?_
 refine .nil ?_
 show Ev _ _ _ _ _
 refine .block ?_
 refine Ev.loop (ι := Option { i : Nat // 1 ≤ i ∧ i ≤ 32 }) (fun q => match q with | none => ⟨[(1, .ptr 1000 0), (3, .nilsl), (6, .i64 0)], [(1000, some ⟨.aggB K, 22, true⟩)], 1008⟩ | some q => ⟨[(1, .ptr 1000 0), (3, .sl 1008 0 (8 * (q.1)) 1), (6, .i64 ((q.1 : Nat) : Int))], [(1000, some ⟨.aggB K, 22, true⟩), (1008, some ⟨.aggT (btN K (8 * (q.1))), 4, true⟩)], 1016⟩) (fun q => match q with | none => 32 | some q => 32 - q.1) none (StLe.mk [(1000, 1000)] rfl rfl ⟨⟨_, rfl, by first | rfl | (simp only [AV.ren]; congr 1; omega), rfl⟩, ⟨_, rfl, by first | rfl | (simp only [AV.ren]; congr 1; omega), rfl⟩, ⟨_, rfl, by first | rfl | (simp only [AV.ren]; congr 1; omega), rfl⟩, trivial⟩ ⟨⟨_, _, rfl, rfl, rfl, rfl, id, rfl⟩, trivial⟩) ?_
 rintro (_ | ⟨i, hi⟩)
 ·try dsimp only
  refine .seq ?_
  refine .region ?_
  refine .q (op_cmpI rfl rfl rfl) trivial rfl ?_
  refine .nil ?_
  show Ev _ _ _ _ _
  refine .seq ?_
  refine .cond_true rfl (rfl) ?_
  refine .skip ?_
  show Ev _ _ _ _ _
  refine .seq ?_
  refine .block ?_
  refine .seq ?_
  refine .region ?_
  refine .q (op_move rfl) trivial rfl ?_
  refine .q (op_assign rfl) trivial rfl ?_
  refine .nil ?_
  show Ev _ _ _ _ _
  refine .seq ?_
  refine .region ?_
  refine .q (op_move rfl) trivial rfl ?_
  refine .nil ?_
  show Ev _ _ _ _ _
  refine .block ?_
  refine Ev.loop (ι := Option { j : Nat // 1 ≤ j ∧ j ≤ 8 }) (fun q => match q with | none => ⟨[(1, .ptr 1000 0), (4, .i64 0), (6, .i64 0), (3, .nilsl), (9, .i64 0)], [(1000, some ⟨.aggB K, 22, true⟩)], 1008⟩ | some q => ⟨[(1, .ptr 1000 0), (4, .i64 ((0 : Nat) : Int)), (6, .i64 ((0 : Nat) : Int)), (3, .sl 1008 0 (8 * (0) + (q.1)) 1), (9, .i64 ((q.1 : Nat) : Int))], [(1000, some ⟨.aggB K, 22, true⟩), (1008, some ⟨.aggT (btN K (8 * (0) + (q.1))), 4, true⟩)], 1016⟩) (fun q => match q with | none => 8 | some q => 8 - q.1) none (StLe.mk [(1000, 1000)] rfl rfl ⟨⟨_, rfl, by first | rfl | (simp only [AV.ren]; congr 1; omega), rfl⟩, ⟨_, rfl, by first | rfl | (simp only [AV.ren]; congr 1; omega), rfl⟩, ⟨_, rfl, by first | rfl | (simp only [AV.ren]; congr 1; omega), rfl⟩, ⟨_, rfl, by first | rfl | (simp only [AV.ren]; congr 1; omega), rfl⟩, ⟨_, rfl, by first | rfl | (simp only [AV.ren]; congr 1; omega), rfl⟩, trivial⟩ ⟨⟨_, _, rfl, rfl, rfl, rfl, id, rfl⟩, trivial⟩) ?_
  rintro (_ | ⟨j, hj⟩)
  ·try dsimp only
   refine .seq ?_
   refine .region ?_
   refine .q (op_cmpI rfl rfl rfl) trivial rfl ?_
   refine .nil ?_
   show Ev _ _ _ _ _
   refine .seq ?_
   refine .cond_true rfl (rfl) ?_
   refine .skip ?_
   show Ev _ _ _ _ _
   refine .seq ?_
   refine .block ?_
   refine .seq ?_
   refine .region ?_
   refine .q (op_move rfl) trivial rfl ?_
   refine .q (op_assign rfl) trivial rfl ?_
   refine .nil ?_
   show Ev _ _ _ _ _
   refine .region ?_
   refine .q (op_move rfl) trivial rfl ?_
   refine .q (op_move rfl) trivial rfl ?_
   refine .q (ap_idx_arr Tryz.underlying22 inf5.sz rfl rfl rfl (by first | omega | (skip; omega) | (skip; omega) | assumption | (simp; done))) trivial rfl ?_
   refine .q (op_load Tryz.underlying5 rfl rfl rfl rfl (by show 0 < K.length; omega)) trivial rfl ?_
   refine .q (op_move rfl) trivial rfl ?_
   refine .q (op_shr8 (n := 0) rfl rfl rfl (by omega)) trivial rfl ?_
   refine .q (op_bin8 rfl rfl rfl) trivial rfl ?_
   refine .q (op_bin8 rfl rfl rfl) trivial rfl ?_
   refine .as (.bool (kb K (8 * (0) + (0)))) (congrArg AV.bool (bit_ij K (0) (0) (by omega))) ?_
   refine .a (ap_build (us := [_]) (c := .aggT [_]) Tryz.underlying105 inf4 rfl (by decide) (by decide) ⟨rfl, rfl, rfl, trivial⟩ rfl) trivial rfl ?_
   refine .a (ap_cat_nil Tryz.underlying105 inf4 rfl rfl rfl rfl (by first | omega | (simp only [AV.len]; omega) | (simp only [AV.len, List.length_set]; omega) | assumption | (simp [AV.len]; done)) (by first | omega | (simp only [AV.len]; omega) | (simp only [AV.len, List.length_set]; omega) | assumption | (simp [AV.len]; done))) trivial rfl ?_
   refine .q (op_assign rfl) trivial rfl ?_
   refine .nil ?_
   show Ev _ _ _ _ _
   refine .region ?_
   refine .q (op_addI rfl rfl ⟨by omega, by omega⟩) trivial rfl ?_
   refine .q (op_move rfl) trivial rfl ?_
   refine .nil ?_
   exact ⟨some ⟨1, by omega⟩, by show 8 - 1 < 8; omega, StLe.mk [(1000, 1000), (1008, 1016)] rfl rfl ⟨⟨_, rfl, by first | rfl | (simp only [AV.ren]; congr 1; omega), rfl⟩, ⟨_, rfl, by first | rfl | (simp only [AV.ren]; congr 1; omega), rfl⟩, ⟨_, rfl, by first | rfl | (simp only [AV.ren]; congr 1; omega), rfl⟩, ⟨_, rfl, by first | rfl | (simp only [AV.ren]; congr 1; omega), rfl⟩, ⟨_, rfl, by first | rfl | (simp only [AV.ren]; congr 1; omega), rfl⟩, trivial⟩ ⟨⟨_, _, rfl, rfl, rfl, rfl, id, rfl⟩, ⟨_, _, rfl, rfl, rfl, rfl, id, rfl⟩, trivial⟩⟩
  ·try dsimp only
   refine .seq ?_
   refine .region ?_
   refine .q (op_cmpI rfl rfl rfl) trivial rfl ?_
   refine .nil ?_
   show Ev _ _ _ _ _
   refine .seq ?_
   refine .cond rfl (fun hc10 => ?_) (fun hc10 => ?_)
   ·simp only [decide_eq_true_eq] at hc10
    refine .skip ?_
    show Ev _ _ _ _ _
    refine .seq ?_
    refine .block ?_
    refine .seq ?_
    refine .region ?_
    refine .q (op_move rfl) trivial rfl ?_
    refine .q (op_assign rfl) trivial rfl ?_
    refine .nil ?_
    show Ev _ _ _ _ _
    refine .region ?_
    refine .q (op_move rfl) trivial rfl ?_
    refine .q (op_move rfl) trivial rfl ?_
    refine .q (ap_idx_arr Tryz.underlying22 inf5.sz rfl rfl rfl (by first | omega | (simp only [AV.len]; omega) | (simp only [AV.len, List.length_set]; omega) | assumption | (simp [AV.len]; done))) trivial rfl ?_
    refine .q (op_load Tryz.underlying5 rfl rfl rfl rfl (by show 0 < K.length; omega)) trivial rfl ?_
    refine .q (op_move rfl) trivial rfl ?_
    refine .q (op_shr8 (n := j) rfl rfl rfl (by omega)) trivial rfl ?_
    refine .q (op_bin8 rfl rfl rfl) trivial rfl ?_
    refine .q (op_bin8 rfl rfl rfl) trivial rfl ?_
    refine .as (.bool (kb K (8 * (0) + (j)))) (congrArg AV.bool (bit_ij K (0) (j) (by omega))) ?_
    refine .a (ap_build (us := [_]) (c := .aggT [_]) Tryz.underlying105 inf4 rfl (by decide) (by decide) ⟨rfl, rfl, rfl, trivial⟩ rfl) trivial rfl ?_
    refine .a (ap_cat Tryz.underlying105 inf4 rfl rfl rfl rfl (by first | rfl | omega | (simp [AV.len, length_btN]; done) | (simp [AV.len, length_btN]; omega)) rfl rfl (by first | rfl | omega | (simp [AV.len, length_btN]; done) | (simp [AV.len, length_btN]; omega)) rfl (by first | rfl | omega | (simp [AV.len, length_btN]; done) | (simp [AV.len, length_btN]; omega))) trivial rfl ?_
    refine .q (op_assign rfl) trivial rfl ?_
    refine .nil ?_
    show Ev _ _ _ _ _
    refine .region ?_
    refine .q (op_addI rfl rfl ⟨by omega, by omega⟩) trivial rfl ?_
    refine .q (op_move rfl) trivial rfl ?_
    refine .nil ?_
    exact ⟨some ⟨j + 1, by omega⟩, by show 8 - (j + 1) < 8 - j; omega, StLe.mk [(1000, 1000), (1008, 1024)] rfl rfl ⟨⟨_, rfl, by first | rfl | (simp only [AV.ren]; congr 1; omega), rfl⟩, ⟨_, rfl, by first | rfl | (simp only [AV.ren]; congr 1; omega), rfl⟩, ⟨_, rfl, by first | rfl | (simp only [AV.ren]; congr 1; omega), rfl⟩, ⟨_, rfl, by first | rfl | (simp only [AV.ren]; congr 1; omega), rfl⟩, ⟨_, rfl, by first | rfl | (simp only [AV.ren]; congr 1; omega), rfl⟩, trivial⟩ ⟨⟨_, _, rfl, rfl, rfl, rfl, id, rfl⟩, ⟨_, _, rfl, rfl, rfl, rfl, id, rfl⟩, trivial⟩⟩
   ·simp only [decide_eq_false_iff_not] at hc10
    refine .exit ?_
    show Ev _ _ _ _ _
    refine .region ?_
    refine .q (op_addI rfl rfl ⟨by omega, by omega⟩) trivial rfl ?_
    refine .q (op_move rfl) trivial rfl ?_
    refine .nil ?_
    have ej : j = 8 := by omega
    subst ej
    exact ⟨some ⟨1, by omega⟩, by show 32 - 1 < 32; omega, StLe.mk [(1000, 1000), (1008, 1008)] rfl rfl ⟨⟨_, rfl, by first | rfl | (simp only [AV.ren]; congr 1; omega), rfl⟩, ⟨_, rfl, by first | rfl | (simp only [AV.ren]; congr 1; omega), rfl⟩, ⟨_, rfl, by first | rfl | (simp only [AV.ren]; congr 1; omega), rfl⟩, trivial⟩ ⟨⟨_, _, rfl, rfl, rfl, rfl, id, rfl⟩, ⟨_, _, rfl, rfl, rfl, rfl, id, rfl⟩, trivial⟩⟩
 ·try dsimp only
  refine .seq ?_
  refine .region ?_
  refine .q (op_cmpI rfl rfl rfl) trivial rfl ?_
  refine .nil ?_
  show Ev _ _ _ _ _
  refine .seq ?_
  refine .cond rfl (fun hc7 => ?_) (fun hc7 => ?_)
  ·simp only [decide_eq_true_eq] at hc7
   refine .skip ?_
   show Ev _ _ _ _ _
   refine .seq ?_
   refine .block ?_
   refine .seq ?_
   refine .region ?_
   refine .q (op_move rfl) trivial rfl ?_
   refine .q (op_assign rfl) trivial rfl ?_
   refine .nil ?_
   show Ev _ _ _ _ _
   refine .seq ?_
   refine .region ?_
   refine .q (op_move rfl) trivial rfl ?_
   refine .nil ?_
   show Ev _ _ _ _ _
   refine .block ?_
   refine Ev.loop (ι := { j : Nat // j ≤ 8 }) (fun q => ⟨[(1, .ptr 1000 0), (4, .i64 ((i : Nat) : Int)), (6, .i64 ((i : Nat) : Int)), (3, .sl 1008 0 (8 * (i) + (q.1)) 1), (9, .i64 ((q.1 : Nat) : Int))], [(1000, some ⟨.aggB K, 22, true⟩), (1008, some ⟨.aggT (btN K (8 * (i) + (q.1))), 4, true⟩)], 1016⟩) (fun q => 8 - q.1) ⟨0, Nat.zero_le _⟩ (StLe.mk [(1000, 1000), (1008, 1008)] rfl rfl ⟨⟨_, rfl, by first | rfl | (simp only [AV.ren]; congr 1; omega), rfl⟩, ⟨_, rfl, by first | rfl | (simp only [AV.ren]; congr 1; omega), rfl⟩, ⟨_, rfl, by first | rfl | (simp only [AV.ren]; congr 1; omega), rfl⟩, ⟨_, rfl, by first | rfl | (simp only [AV.ren]; congr 1; omega), rfl⟩, ⟨_, rfl, by first | rfl | (simp only [AV.ren]; congr 1; omega), rfl⟩, trivial⟩ ⟨⟨_, _, rfl, rfl, rfl, rfl, id, rfl⟩, ⟨_, _, rfl, rfl, rfl, rfl, id, rfl⟩, trivial⟩) ?_
   rintro ⟨j, hj⟩
   try dsimp only
   refine .seq ?_
   refine .region ?_
   refine .q (op_cmpI rfl rfl rfl) trivial rfl ?_
   refine .nil ?_
   show Ev _ _ _ _ _
   refine .seq ?_
   refine .cond rfl (fun hc10 => ?_) (fun hc10 => ?_)
   ·simp only [decide_eq_true_eq] at hc10
    refine .skip ?_
    show Ev _ _ _ _ _
    refine .seq ?_
    refine .block ?_
    refine .seq ?_
    refine .region ?_
    refine .q (op_move rfl) trivial rfl ?_
    refine .q (op_assign rfl) trivial rfl ?_
    refine .nil ?_
    show Ev _ _ _ _ _
    refine .region ?_
    refine .q (op_move rfl) trivial rfl ?_
    refine .q (op_move rfl) trivial rfl ?_
    refine .q (ap_idx_arr Tryz.underlying22 inf5.sz rfl rfl rfl (by first | omega | (simp only [AV.len]; omega) | (simp only [AV.len, List.length_set]; omega) | assumption | (simp [AV.len]; done))) trivial rfl ?_
    refine .q (op_load Tryz.underlying5 rfl rfl rfl rfl (by show i < K.length; omega)) trivial rfl ?_
    refine .q (op_move rfl) trivial rfl ?_
    refine .q (op_shr8 (n := j) rfl rfl rfl (by omega)) trivial rfl ?_
    refine .q (op_bin8 rfl rfl rfl) trivial rfl ?_
    refine .q (op_bin8 rfl rfl rfl) trivial rfl ?_
    refine .as (.bool (kb K (8 * (i) + (j)))) (congrArg AV.bool (bit_ij K (i) (j) (by omega))) ?_
    refine .a (ap_build (us := [_]) (c := .aggT [_]) Tryz.underlying105 inf4 rfl (by decide) (by decide) ⟨rfl, rfl, rfl, trivial⟩ rfl) trivial rfl ?_
    refine .a (ap_cat Tryz.underlying105 inf4 rfl rfl rfl rfl (by first | rfl | omega | (simp [AV.len, length_btN]; done) | (simp [AV.len, length_btN]; omega)) rfl rfl (by first | rfl | omega | (simp [AV.len, length_btN]; done) | (simp [AV.len, length_btN]; omega)) rfl (by first | rfl | omega | (simp [AV.len, length_btN]; done) | (simp [AV.len, length_btN]; omega))) trivial rfl ?_
    refine .q (op_assign rfl) trivial rfl ?_
    refine .nil ?_
    show Ev _ _ _ _ _
    refine .region ?_
    refine .q (op_addI rfl rfl ⟨by omega, by omega⟩) trivial rfl ?_
    refine .q (op_move rfl) trivial rfl ?_
    refine .nil ?_
    exact ⟨⟨j + 1, by omega⟩, by show 8 - (j + 1) < 8 - j; omega, StLe.mk [(1000, 1000), (1008, 1024)] rfl rfl ⟨⟨_, rfl, by first | rfl | (simp only [AV.ren]; congr 1; omega), rfl⟩, ⟨_, rfl, by first | rfl | (simp only [AV.ren]; congr 1; omega), rfl⟩, ⟨_, rfl, by first | rfl | (simp only [AV.ren]; congr 1; omega), rfl⟩, ⟨_, rfl, by first | rfl | (simp only [AV.ren]; congr 1; omega), rfl⟩, ⟨_, rfl, by first | rfl | (simp only [AV.ren]; congr 1; omega), rfl⟩, trivial⟩ ⟨⟨_, _, rfl, rfl, rfl, rfl, id, rfl⟩, ⟨_, _, rfl, rfl, rfl, rfl, id, rfl⟩, trivial⟩⟩
   ·simp only [decide_eq_false_iff_not] at hc10
    refine .exit ?_
    show Ev _ _ _ _ _
    refine .region ?_
    refine .q (op_addI rfl rfl ⟨by omega, by omega⟩) trivial rfl ?_
    refine .q (op_move rfl) trivial rfl ?_
    refine .nil ?_
    have ej : j = 8 := by omega
    subst ej
    exact ⟨some ⟨i + 1, by omega⟩, by show 32 - (i + 1) < 32 - i; omega, StLe.mk [(1000, 1000), (1008, 1008)] rfl rfl ⟨⟨_, rfl, by first | rfl | (simp only [AV.ren]; congr 1; omega), rfl⟩, ⟨_, rfl, by first | rfl | (simp only [AV.ren]; congr 1; omega), rfl⟩, ⟨_, rfl, by first | rfl | (simp only [AV.ren]; congr 1; omega), rfl⟩, trivial⟩ ⟨⟨_, _, rfl, rfl, rfl, rfl, id, rfl⟩, ⟨_, _, rfl, rfl, rfl, rfl, id, rfl⟩, trivial⟩⟩
  ·simp only [decide_eq_false_iff_not] at hc7
   refine .exit ?_
   show Ev _ _ _ _ _
   refine .seq ?_
   refine .region ?_
   refine .q (op_move rfl) trivial rfl ?_
   refine .q (op_assign rfl) trivial rfl ?_
   refine .nil ?_
   show Ev _ _ _ _ _
   refine .ret ?_
   show RetOk _ _ _ _ _ _ _
   have ei : i = 32 := by omega
   subst ei
   exact ret1v rfl (.inl rfl) rfl rfl ⟨rfl, trivial⟩
end Go.Proofs.YtcnjekoidgefpaaGreatDoor
