/-
  Texts of this claim.
-/
import Derived.Test.YtcnjekoidgefpaaGreatDoorGT1V
import Derived.Test.YtcnjekoidgefpaaGreatDoorGF2V
import Derived.Test.YtcnjekoidgefpaaGreatDoorGEV
namespace Go.Proofs.YtcnjekoidgefpaaGreatDoor
open Go.RowKit
set_option maxHeartbeats 400000 in
set_option maxRecDepth 100000 in
theorem sReduce_ev (e : Nat) (s : List UInt8) (hs : s.length ≤ 1000000) : kZ Tryz.prog 27 [.str s] (HO e) (.aggB (bsN (leN s 64 % scL) 32)) [] := by
 obtain ⟨R, hR⟩ : ∃ R, R = bsN (leN s 64 % scL) 32 := ⟨_, rfl⟩
 have hlR : R.length = 32 := by rw [hR]; exact fY _ 32
 rw [← hR]
 refine mt (nt := 25) Tryz.func27 rfl rfl rfl <| .r <| .y (dZ xX kY rfl) rfl <| .nil <| .r <| .y (dZ dQ kV rfl) rfl <| .nil <| .r <| .x (sZ Tryz.underlying29 inf5.sz rfl rfl (by decide) (by decide) rfl (by omega)) rfl <| .m rfl rfl <| .y (zQ (q := (min s.length 64)) (c' := .aggB (nQ s)) Tryz.underlying25 inf5.sz rfl rfl rfl (srcs_str rfl) (by decide) (by rfl) (by simp only [AV.list, AV.parts, Option.getD_some, nQ, List.map_append, List.map_replicate, List.take_zero, List.nil_append, List.drop_replicate, Nat.zero_add, List.map_take]; congr 1; rw [List.take_eq_take_iff]; simp; omega)) rfl <| .nil <| .r <| .y (dZ zero91 kN rfl) rfl <| .nil <| .seq <| .r <| .m rfl rfl <| .nil <| .block <| Ev.loop (ι := { j : Nat // j ≤ 8 }) (fun j => ⟨[(2, .ptr 1000 0), (3, .ptr 1008 0), (4, .ptr 1024 0), (9, .i64 ((j.1 : Nat) : Int))], [(1000, some ⟨.aggB (List.replicate 32 0), 22, true⟩), (1008, some ⟨.aggB (nQ s), 29, true⟩), (1024, some ⟨.agg64 (owN (nQ s) j.1), 91, true⟩), (2, some ⟨.agg64 nW, e, false⟩)], 1032⟩) (fun j => 8 - j.1) ⟨0, Nat.zero_le _⟩ (StLe.mk [(1000, 1000), (1008, 1008), (1024, 1024)] rfl rfl ⟨⟨_, rfl, by first | rfl | (simp only [AV.ren]; congr 1; omega), rfl⟩, ⟨_, rfl, by first | rfl | (simp only [AV.ren]; congr 1; omega), rfl⟩, ⟨_, rfl, by first | rfl | (simp only [AV.ren]; congr 1; omega), rfl⟩, ⟨_, rfl, by first | rfl | (simp only [AV.ren]; congr 1; omega), rfl⟩, trivial⟩ ⟨⟨_, _, rfl, rfl, by first | rfl | (simp only [AV.ren]; congr 1; omega), rfl, id, rfl⟩, ⟨_, _, rfl, rfl, by first | rfl | (simp only [AV.ren]; congr 1; omega), rfl, id, rfl⟩, ⟨_, _, rfl, rfl, by first | rfl | (simp only [AV.ren]; congr 1; omega), rfl, id, rfl⟩, ⟨_, _, rfl, rfl, by first | rfl | (simp only [AV.ren]; congr 1; omega), rfl, id, rfl⟩, trivial⟩) ?_
 rintro ⟨j, hj⟩
 dsimp only
 have hl : (owN (nQ s) j).length = 8 := sN _ j
 have hlp : (nQ s).length = 64 := sL s
 refine .r <| .x (gZ rfl rfl rfl) rfl <| .nil <| .seq <| .cond rfl (fun hc10 => ?_) (fun hc10 => ?_)
 ·simp only [decide_eq_true_eq] at hc10
  refine .skip <| .seq <| .block <| .r <| .m rfl rfl <| .s rfl rfl <| .nil <| .region <| .m rfl rfl <| .m rfl rfl <| .x (uY rfl rfl ⟨by omega, by omega⟩) rfl <| .m rfl rfl <| .x (jZ rfl rfl ⟨by omega, by omega⟩) rfl <| .x (uY rfl rfl ⟨by omega, by omega⟩) rfl <| .x (sX Tryz.underlying29 inf5.sz rfl rfl (by simp only [AV.len]; omega) (by decide) (xZ rfl (l := 8 * j) (by omega)) (xZ rfl (l := 8 * (j + 1)) (by omega)) (by omega) (by omega)) rfl <| .as (.sl 1008 (8 * j) 8 1) (aO (by omega) (by omega)) <| .x (aZ (U := []) [(500, 1008)] [] (iL (nQ s) (8 * j) 8 29 (by rw [sL]; omega) (by omega)) Tryz.func63 (by kernel_rfl) rfl rfl rfl (⟨⟨_, rfl, rfl, rfl⟩, trivial⟩) (⟨⟨_, _, rfl, rfl, rfl, rfl, nf, rfl⟩, trivial⟩) (trivial) (⟨nf, trivial⟩) rfl) rfl <| .x (iZ Tryz.underlying91 qZ.sz rfl rfl rfl (by omega)) rfl <| .w (iY qZ.sz rfl rfl rfl rfl rfl (by simp only [AV.len]; omega)) trivial rfl <| .nil <| .region <| .x (jZ rfl rfl ⟨by omega, by omega⟩) rfl <| .m rfl rfl <| .nil ?_
  exact ⟨⟨j + 1, by omega⟩, by show 8 - (j + 1) < 8 - j; omega, StLe.mk [(1000, 1000), (1008, 1008), (1024, 1024)] rfl rfl ⟨⟨_, rfl, by first | rfl | (simp only [AV.ren]; congr 1; omega), rfl⟩, ⟨_, rfl, by first | rfl | (simp only [AV.ren]; congr 1; omega), rfl⟩, ⟨_, rfl, by first | rfl | (simp only [AV.ren]; congr 1; omega), rfl⟩, ⟨_, rfl, by first | rfl | (simp only [AV.ren]; congr 1; omega), rfl⟩, trivial⟩ ⟨⟨_, _, rfl, rfl, by first | rfl | (simp only [AV.ren]; congr 1; omega), rfl, id, rfl⟩, ⟨_, _, rfl, rfl, by first | rfl | (simp only [AV.ren]; congr 1; omega), rfl, id, rfl⟩, ⟨_, _, rfl, rfl, by first | rfl | (simp only [AV.ren]; congr 1; omega), rfl, id, rfl⟩, ⟨_, _, rfl, rfl, by first | rfl | (simp only [AV.ren]; congr 1; omega), rfl, id, rfl⟩, trivial⟩⟩
 ·simp only [decide_eq_false_iff_not] at hc10
  refine .exit ?_
  have ej : j = 8 := by omega
  refine Ev.weak (st2 := ⟨[(2, .ptr 1000 0), (3, .ptr 1008 0), (4, .ptr 1024 0), (9, .i64 (((8) : Nat) : Int))], [(1000, some ⟨.aggB (List.replicate 32 0), 22, true⟩), (1008, some ⟨.aggB (nQ s), 29, true⟩), (1024, some ⟨.agg64 (owN (nQ s) (8)), 91, true⟩), (2, some ⟨.agg64 nW, e, false⟩)], 1032⟩) (StLe.mk [(1000, 1000), (1008, 1008), (1024, 1024)] rfl rfl ⟨⟨_, rfl, by first | (simp only [AV.ren]; done) | (simp only [AV.ren]; rw [ej]; done) | rfl, rfl⟩, ⟨_, rfl, by first | (simp only [AV.ren]; done) | (simp only [AV.ren]; rw [ej]; done) | rfl, rfl⟩, ⟨_, rfl, by first | (simp only [AV.ren]; done) | (simp only [AV.ren]; rw [ej]; done) | rfl, rfl⟩, ⟨_, rfl, by first | (simp only [AV.ren]; done) | (simp only [AV.ren]; rw [ej]; done) | rfl, rfl⟩, trivial⟩ ⟨⟨_, _, rfl, rfl, by first | (simp only [AV.ren]; done) | (simp only [AV.ren]; rw [ej]; done) | rfl, rfl, id, rfl⟩, ⟨_, _, rfl, rfl, by first | (simp only [AV.ren]; done) | (simp only [AV.ren]; rw [ej]; done) | rfl, rfl, id, rfl⟩, ⟨_, _, rfl, rfl, by first | (simp only [AV.ren]; done) | (simp only [AV.ren]; rw [ej]; done) | rfl, rfl, id, rfl⟩, ⟨_, _, rfl, rfl, by first | (simp only [AV.ren]; done) | (simp only [AV.ren]; rw [ej]; done) | rfl, rfl, id, rfl⟩, trivial⟩) <| .r <| .x (bZ Tryz.underlying91 rfl sz91 rfl rfl rfl (sN _ 8)) rfl <| .as (.agg64 (wl (leN s 64))) (congrArg AV.agg64 (by rw [ow_wl, leN_pad64])) <| .x (aZ (U := []) [] [] (xK e (leN s 64) (cU s 64)) Tryz.func65 (by kernel_rfl) rfl rfl rfl (⟨⟨_, rfl, rfl, rfl⟩, trivial⟩) (⟨⟨_, _, rfl, rfl, rfl, rfl, id, rfl⟩, trivial⟩) (trivial) (⟨nf, trivial⟩) rfl) rfl <| .x (aZ (U := []) [] [] (wK _) Tryz.func64 (by kernel_rfl) rfl rfl rfl (⟨⟨_, rfl, rfl, rfl⟩, trivial⟩) (trivial) (trivial) (trivial) rfl) rfl <| .as (.aggB R) (by rw [hR]; rfl) <| .w (cZ sz22 rfl rfl rfl rfl rfl (by exact hlR) (by rfl)) trivial rfl <| .nil <| .ret ?_
  exact yY rfl (.inl rfl) ⟨_, _, _, _, rfl, rfl, rfl, rfl, (hlR), Tryz.underlying22, rfl, sz22⟩ trivial
theorem ps_lt (x y z : List UInt8) : leN x 32 * leN y 32 + leN z 32 < 256 ^ 64 := by
 have hx := cU x 32
 have hy := cU y 32
 have hz := cU z 32
 have h := Nat.mul_le_mul (Nat.le_sub_one_of_lt hx) (Nat.le_sub_one_of_lt hy)
 rw [show (256 : Nat) ^ 32 = 115792089237316195423570985008687907853269984665640564039457584007913129639936 from rfl] at *
 have e : (256 : Nat) ^ 64 = 256 ^ 32 * 256 ^ 32 := by rw [← Nat.pow_add]
 rw [show (256 : Nat) ^ 32 = 115792089237316195423570985008687907853269984665640564039457584007913129639936 from rfl] at e
 omega
set_option maxRecDepth 100000 in
theorem sMulAdd_ev (e : Nat) (x y z : List UInt8) (hx : x.length = 32) (hy : y.length = 32) (hz : z.length = 32) : kZ Tryz.prog 28 [.aggB x, .aggB y, .aggB z] (HO e) (.aggB (bsN ((leN x 32 * leN y 32 + leN z 32) % scL) 32)) [] := by
 obtain ⟨R, hR⟩ : ∃ R, R = bsN ((leN x 32 * leN y 32 + leN z 32) % scL) 32 := ⟨_, rfl⟩
 have hlR : R.length = 32 := by rw [hR]; exact fY _ 32
 rw [← hR]
 refine mt (nt := 16) Tryz.func28 rfl rfl rfl <| .r <| .y (lZ rfl rfl) rfl <| .y (lZ rfl rfl) rfl <| .y (lZ rfl rfl) rfl <| .y (dZ xX kY rfl) rfl <| .nil <| .seq <| .drawn [[], [0], [], [0, 1, 2], [], [0, 1, 2, 3, 4], [0, 1, 2, 3, 4, 5], [0, 1, 2, 3, 4, 5, 6], [0, 1, 2, 3, 4, 5, 6, 7], [0, 1, 2, 3, 4, 5, 6, 7, 8]] [0, 1, 2, 3, 4, 5, 6, 7, 8, 9] [9] (by kernel_rfl) (by kernel_rfl) rfl <| .x rfl (bZ Tryz.underlying22 rfl sz22 rfl rfl rfl (by exact hx)) <| .x rfl (aZ (U := []) [] [] (sM x hx) Tryz.func67 (by kernel_rfl) rfl rfl rfl (⟨⟨_, rfl, rfl, rfl⟩, trivial⟩) (trivial) (trivial) (trivial) rfl) <| .x rfl (bZ Tryz.underlying22 rfl sz22 rfl rfl rfl (by exact hy)) <| .x rfl (aZ (U := []) [] [] (sM y hy) Tryz.func67 (by kernel_rfl) rfl rfl rfl (⟨⟨_, rfl, rfl, rfl⟩, trivial⟩) (trivial) (trivial) (trivial) rfl) <| .x rfl (bZ Tryz.underlying22 rfl sz22 rfl rfl rfl (by exact hz)) <| .x rfl (aZ (U := []) [] [] (sM z hz) Tryz.func67 (by kernel_rfl) rfl rfl rfl (⟨⟨_, rfl, rfl, rfl⟩, trivial⟩) (trivial) (trivial) (trivial) rfl) <| .x rfl (aZ (U := []) [] [] (psum_ev (leN x 32) (leN y 32) (leN z 32) (by have := cU x 32; rwa [show (256 : Nat) ^ 32 = 115792089237316195423570985008687907853269984665640564039457584007913129639936 from rfl] at this) (by have := cU y 32; rwa [show (256 : Nat) ^ 32 = 115792089237316195423570985008687907853269984665640564039457584007913129639936 from rfl] at this) (by have := cU z 32; rwa [show (256 : Nat) ^ 32 = 115792089237316195423570985008687907853269984665640564039457584007913129639936 from rfl] at this)) Tryz.func66 (by kernel_rfl) rfl rfl rfl (⟨⟨_, rfl, rfl, rfl⟩, ⟨_, rfl, rfl, rfl⟩, ⟨_, rfl, rfl, rfl⟩, trivial⟩) (trivial) (trivial) (trivial) rfl) <| .x rfl (aZ (U := []) [] [] (xK e (leN x 32 * leN y 32 + leN z 32) (ps_lt x y z)) Tryz.func65 (by kernel_rfl) rfl rfl rfl (⟨⟨_, rfl, rfl, rfl⟩, trivial⟩) (⟨⟨_, _, rfl, rfl, rfl, rfl, id, rfl⟩, trivial⟩) (trivial) (⟨nf, trivial⟩) rfl) <| .x rfl (aZ (U := []) [] [] (wK _) Tryz.func64 (by kernel_rfl) rfl rfl rfl (⟨⟨_, rfl, rfl, rfl⟩, trivial⟩) (trivial) (trivial) (trivial) rfl) <| .as (.aggB R) (by rw [hR]; rfl) <| .w rfl (cZ sz22 rfl rfl rfl rfl rfl (by exact hlR) (by rfl)) trivial rfl rfl <| .nil <| .ret ?_
 exact yY rfl (.inl rfl) ⟨_, _, _, _, rfl, rfl, rfl, rfl, (hlR), Tryz.underlying22, rfl, sz22⟩ trivial
theorem fits_bit (a : Nat) : (UInt64.ofNat (if a < scL then 1 else 0) == UInt64.ofNat 1) = decide (a < scL) := by
 by_cases c : a < scL
 ·rw [if_pos c, decide_eq_true c]; rfl
 ·rw [if_neg c, decide_eq_false c]; rfl
set_option maxRecDepth 100000 in
theorem sFits_ev (e : Nat) (K : List UInt8) (hK : K.length = 32) : kZ Tryz.prog 33 [.aggB K] (HO e) (.bool (decide (leN K 32 < scL))) [] := by
 refine mt (nt := 13) Tryz.func33 rfl rfl rfl <| .r <| .y (lZ rfl rfl) rfl <| .s rfl rfl <| .nil <| .r <| .x (bZ Tryz.underlying22 rfl sz22 rfl rfl rfl (by exact hK)) rfl <| .x (aZ (U := []) [] [] (sM K hK) Tryz.func67 (by kernel_rfl) rfl rfl rfl (⟨⟨_, rfl, rfl, rfl⟩, trivial⟩) (trivial) (trivial) (trivial) rfl) rfl <| .x (aZ (U := []) [] [] (minus_ev e (leN K 32) (by have := cU K 32; rwa [show (256 : Nat) ^ 32 = 115792089237316195423570985008687907853269984665640564039457584007913129639936 from rfl] at this)) Tryz.func74 (by kernel_rfl) rfl rfl rfl (⟨⟨_, rfl, rfl, rfl⟩, trivial⟩) (⟨⟨_, _, rfl, rfl, rfl, rfl, id, rfl⟩, trivial⟩) (trivial) (⟨nf, trivial⟩) rfl) rfl <| .m rfl rfl <| .x (nZ rfl rfl) rfl <| .x (nZ rfl rfl) rfl <| .y (dZ tQ uV rfl) rfl <| .w (cZ sz94 rfl rfl rfl rfl rfl (rfl) (rfl)) trivial rfl <| .s rfl rfl <| .nil <| .r <| .m rfl rfl <| .x (mZ rfl rfl rfl) rfl <| .s rfl rfl <| .nil <| .ret ?_
 exact yZ rfl (.inl rfl) rfl (congrArg AV.bool (fits_bit (leN K 32))) trivial
end Go.Proofs.YtcnjekoidgefpaaGreatDoor
namespace Go.Proofs.YtcnjekoidgefpaaGreatDoor
open Go.RowKit
def btN (K : List UInt8) : Nat → List Bool
  | 0 => []
  | n + 1 => btN K n ++ [kb K n]
theorem lT (K : List UInt8) (n : Nat) : (btN K n).length = n := by induction n with | zero => rfl | succ n ih => simp [btN, ih]
theorem wJ (K : List UInt8) (n i : Nat) (h : i < n) : (btN K n).getD i false = kb K i := by
  induction n with
  | zero => omega
  | succ n ih =>
    have hl := lT K n
    simp only [btN]
    by_cases c : i < n
    · rw [List.getD_eq_getElem?_getD, List.getElem?_append_left (by omega), ← List.getD_eq_getElem?_getD, ih c]
    · rw [List.getD_eq_getElem?_getD, List.getElem?_append_right (by omega), show i - (btN K n).length = 0 by omega, show n = i by omega]; rfl
theorem bit_ij (K : List UInt8) (i j : Nat) (h : j < 8) : ((K.getD i 0 >>> UInt8.ofNat j) &&& UInt8.ofNat 1 == UInt8.ofNat 1) = kb K (8 * i + j) := by
  have := bit_prog K (8 * i + j)
  rwa [show (8 * i + j) / 8 = i by omega, show (8 * i + j) % 8 = j by omega] at this
set_option maxRecDepth 100000 in
theorem sbits_ev (K : List UInt8) (hK : K.length = 32) : kZ Tryz.prog 78 [.aggB K] [] (.sl 1008 0 256 1) [(1008, some ⟨.aggT (btN K 256), 4, true⟩)] := by
 refine mt (nt := 25) Tryz.func78 rfl rfl rfl <| .r <| .y (lZ rfl rfl) rfl <| .s rfl rfl <| .nil <| .r <| .s rfl rfl <| .nil <| .seq <| .r <| .m rfl rfl <| .nil <| .block <| Ev.loop (ι := Option { i : Nat // 1 ≤ i ∧ i ≤ 32 }) (fun q => match q with | none => ⟨[(1, .ptr 1000 0), (3, .nilsl), (6, .i64 0)], [(1000, some ⟨.aggB K, 22, true⟩)], 1008⟩ | some q => ⟨[(1, .ptr 1000 0), (3, .sl 1008 0 (8 * (q.1)) 1), (6, .i64 ((q.1 : Nat) : Int))], [(1000, some ⟨.aggB K, 22, true⟩), (1008, some ⟨.aggT (btN K (8 * (q.1))), 4, true⟩)], 1016⟩) (fun q => match q with | none => 32 | some q => 32 - q.1) none (StLe.mk [(1000, 1000)] rfl rfl ⟨⟨_, rfl, by first | rfl | (simp only [AV.ren]; congr 1; omega), rfl⟩, ⟨_, rfl, by first | rfl | (simp only [AV.ren]; congr 1; omega), rfl⟩, ⟨_, rfl, by first | rfl | (simp only [AV.ren]; congr 1; omega), rfl⟩, trivial⟩ ⟨⟨_, _, rfl, rfl, rfl, rfl, id, rfl⟩, trivial⟩) ?_
 rintro (_ | ⟨i, hi⟩)
 ·try dsimp only
  refine .r <| .x (gZ rfl rfl rfl) rfl <| .nil <| .seq <| .cond_true rfl (rfl) <| .skip <| .seq <| .block <| .r <| .m rfl rfl <| .s rfl rfl <| .nil <| .r <| .m rfl rfl <| .nil <| .block <| Ev.loop (ι := Option { j : Nat // 1 ≤ j ∧ j ≤ 8 }) (fun q => match q with | none => ⟨[(1, .ptr 1000 0), (4, .i64 0), (6, .i64 0), (3, .nilsl), (9, .i64 0)], [(1000, some ⟨.aggB K, 22, true⟩)], 1008⟩ | some q => ⟨[(1, .ptr 1000 0), (4, .i64 ((0 : Nat) : Int)), (6, .i64 ((0 : Nat) : Int)), (3, .sl 1008 0 (8 * (0) + (q.1)) 1), (9, .i64 ((q.1 : Nat) : Int))], [(1000, some ⟨.aggB K, 22, true⟩), (1008, some ⟨.aggT (btN K (8 * (0) + (q.1))), 4, true⟩)], 1016⟩) (fun q => match q with | none => 8 | some q => 8 - q.1) none (StLe.mk [(1000, 1000)] rfl rfl ⟨⟨_, rfl, by first | rfl | (simp only [AV.ren]; congr 1; omega), rfl⟩, ⟨_, rfl, by first | rfl | (simp only [AV.ren]; congr 1; omega), rfl⟩, ⟨_, rfl, by first | rfl | (simp only [AV.ren]; congr 1; omega), rfl⟩, ⟨_, rfl, by first | rfl | (simp only [AV.ren]; congr 1; omega), rfl⟩, ⟨_, rfl, by first | rfl | (simp only [AV.ren]; congr 1; omega), rfl⟩, trivial⟩ ⟨⟨_, _, rfl, rfl, rfl, rfl, id, rfl⟩, trivial⟩) ?_
  rintro (_ | ⟨j, hj⟩)
  ·try dsimp only
   refine .r <| .x (gZ rfl rfl rfl) rfl <| .nil <| .seq <| .cond_true rfl (rfl) <| .skip <| .seq <| .block <| .r <| .m rfl rfl <| .s rfl rfl <| .nil <| .region <| .m rfl rfl <| .m rfl rfl <| .x (iZ Tryz.underlying22 inf5.sz rfl rfl rfl (by simp; done)) rfl <| .x (fZ Tryz.underlying5 rfl rfl rfl rfl (by show 0 < K.length; omega)) rfl <| .m rfl rfl <| .x (op_shr8 (n := 0) rfl rfl rfl (by omega)) rfl <| .x (eV rfl rfl rfl) rfl <| .x (eV rfl rfl rfl) rfl <| .as (.bool (kb K (8 * (0) + (0)))) (congrArg AV.bool (bit_ij K (0) (0) (by omega))) <| .y (vZ (us := [_]) (c := .aggT [_]) Tryz.underlying105 inf4 rfl (by decide) (by decide) ⟨rfl, rfl, rfl, trivial⟩ rfl) rfl <| .y (ap_cat_nil Tryz.underlying105 inf4 rfl rfl rfl rfl (by omega) (by omega)) rfl <| .s rfl rfl <| .nil <| .region <| .x (jZ rfl rfl ⟨by omega, by omega⟩) rfl <| .m rfl rfl <| .nil ?_
   exact ⟨some ⟨1, by omega⟩, by show 8 - 1 < 8; omega, StLe.mk [(1000, 1000), (1008, 1016)] rfl rfl ⟨⟨_, rfl, by first | rfl | (simp only [AV.ren]; congr 1; omega), rfl⟩, ⟨_, rfl, by first | rfl | (simp only [AV.ren]; congr 1; omega), rfl⟩, ⟨_, rfl, by first | rfl | (simp only [AV.ren]; congr 1; omega), rfl⟩, ⟨_, rfl, by first | rfl | (simp only [AV.ren]; congr 1; omega), rfl⟩, ⟨_, rfl, by first | rfl | (simp only [AV.ren]; congr 1; omega), rfl⟩, trivial⟩ ⟨⟨_, _, rfl, rfl, rfl, rfl, id, rfl⟩, ⟨_, _, rfl, rfl, rfl, rfl, id, rfl⟩, trivial⟩⟩
  ·try dsimp only
   refine .r <| .x (gZ rfl rfl rfl) rfl <| .nil <| .seq <| .cond rfl (fun hc10 => ?_) (fun hc10 => ?_)
   ·simp only [decide_eq_true_eq] at hc10
    refine .skip <| .seq <| .block <| .r <| .m rfl rfl <| .s rfl rfl <| .nil <| .region <| .m rfl rfl <| .m rfl rfl <| .x (iZ Tryz.underlying22 inf5.sz rfl rfl rfl (by omega)) rfl <| .x (fZ Tryz.underlying5 rfl rfl rfl rfl (by show 0 < K.length; omega)) rfl <| .m rfl rfl <| .x (op_shr8 (n := j) rfl rfl rfl (by omega)) rfl <| .x (eV rfl rfl rfl) rfl <| .x (eV rfl rfl rfl) rfl <| .as (.bool (kb K (8 * (0) + (j)))) (congrArg AV.bool (bit_ij K (0) (j) (by omega))) <| .y (vZ (us := [_]) (c := .aggT [_]) Tryz.underlying105 inf4 rfl (by decide) (by decide) ⟨rfl, rfl, rfl, trivial⟩ rfl) rfl <| .y (aX Tryz.underlying105 inf4 rfl rfl rfl rfl (by simp [AV.len, lT]; done) rfl rfl (by rfl) rfl (by omega)) rfl <| .s rfl rfl <| .nil <| .region <| .x (jZ rfl rfl ⟨by omega, by omega⟩) rfl <| .m rfl rfl <| .nil ?_
    exact ⟨some ⟨j + 1, by omega⟩, by show 8 - (j + 1) < 8 - j; omega, StLe.mk [(1000, 1000), (1008, 1024)] rfl rfl ⟨⟨_, rfl, by first | rfl | (simp only [AV.ren]; congr 1; omega), rfl⟩, ⟨_, rfl, by first | rfl | (simp only [AV.ren]; congr 1; omega), rfl⟩, ⟨_, rfl, by first | rfl | (simp only [AV.ren]; congr 1; omega), rfl⟩, ⟨_, rfl, by first | rfl | (simp only [AV.ren]; congr 1; omega), rfl⟩, ⟨_, rfl, by first | rfl | (simp only [AV.ren]; congr 1; omega), rfl⟩, trivial⟩ ⟨⟨_, _, rfl, rfl, rfl, rfl, id, rfl⟩, ⟨_, _, rfl, rfl, rfl, rfl, id, rfl⟩, trivial⟩⟩
   ·simp only [decide_eq_false_iff_not] at hc10
    refine .exit <| .region <| .x (jZ rfl rfl ⟨by omega, by omega⟩) rfl <| .m rfl rfl <| .nil ?_
    have ej : j = 8 := by omega
    subst ej
    exact ⟨some ⟨1, by omega⟩, by show 32 - 1 < 32; omega, StLe.mk [(1000, 1000), (1008, 1008)] rfl rfl ⟨⟨_, rfl, by first | rfl | (simp only [AV.ren]; congr 1; omega), rfl⟩, ⟨_, rfl, by first | rfl | (simp only [AV.ren]; congr 1; omega), rfl⟩, ⟨_, rfl, by first | rfl | (simp only [AV.ren]; congr 1; omega), rfl⟩, trivial⟩ ⟨⟨_, _, rfl, rfl, rfl, rfl, id, rfl⟩, ⟨_, _, rfl, rfl, rfl, rfl, id, rfl⟩, trivial⟩⟩
 ·try dsimp only
  refine .r <| .x (gZ rfl rfl rfl) rfl <| .nil <| .seq <| .cond rfl (fun hc7 => ?_) (fun hc7 => ?_)
  ·simp only [decide_eq_true_eq] at hc7
   refine .skip <| .seq <| .block <| .r <| .m rfl rfl <| .s rfl rfl <| .nil <| .r <| .m rfl rfl <| .nil <| .block <| Ev.loop (ι := { j : Nat // j ≤ 8 }) (fun q => ⟨[(1, .ptr 1000 0), (4, .i64 ((i : Nat) : Int)), (6, .i64 ((i : Nat) : Int)), (3, .sl 1008 0 (8 * (i) + (q.1)) 1), (9, .i64 ((q.1 : Nat) : Int))], [(1000, some ⟨.aggB K, 22, true⟩), (1008, some ⟨.aggT (btN K (8 * (i) + (q.1))), 4, true⟩)], 1016⟩) (fun q => 8 - q.1) ⟨0, Nat.zero_le _⟩ (StLe.mk [(1000, 1000), (1008, 1008)] rfl rfl ⟨⟨_, rfl, by first | rfl | (simp only [AV.ren]; congr 1; omega), rfl⟩, ⟨_, rfl, by first | rfl | (simp only [AV.ren]; congr 1; omega), rfl⟩, ⟨_, rfl, by first | rfl | (simp only [AV.ren]; congr 1; omega), rfl⟩, ⟨_, rfl, by first | rfl | (simp only [AV.ren]; congr 1; omega), rfl⟩, ⟨_, rfl, by first | rfl | (simp only [AV.ren]; congr 1; omega), rfl⟩, trivial⟩ ⟨⟨_, _, rfl, rfl, rfl, rfl, id, rfl⟩, ⟨_, _, rfl, rfl, rfl, rfl, id, rfl⟩, trivial⟩) ?_
   rintro ⟨j, hj⟩
   try dsimp only
   refine .r <| .x (gZ rfl rfl rfl) rfl <| .nil <| .seq <| .cond rfl (fun hc10 => ?_) (fun hc10 => ?_)
   ·simp only [decide_eq_true_eq] at hc10
    refine .skip <| .seq <| .block <| .r <| .m rfl rfl <| .s rfl rfl <| .nil <| .region <| .m rfl rfl <| .m rfl rfl <| .x (iZ Tryz.underlying22 inf5.sz rfl rfl rfl (by omega)) rfl <| .x (fZ Tryz.underlying5 rfl rfl rfl rfl (by show i < K.length; omega)) rfl <| .m rfl rfl <| .x (op_shr8 (n := j) rfl rfl rfl (by omega)) rfl <| .x (eV rfl rfl rfl) rfl <| .x (eV rfl rfl rfl) rfl <| .as (.bool (kb K (8 * (i) + (j)))) (congrArg AV.bool (bit_ij K (i) (j) (by omega))) <| .y (vZ (us := [_]) (c := .aggT [_]) Tryz.underlying105 inf4 rfl (by decide) (by decide) ⟨rfl, rfl, rfl, trivial⟩ rfl) rfl <| .y (aX Tryz.underlying105 inf4 rfl rfl rfl rfl (by simp [AV.len, lT]; done) rfl rfl (by rfl) rfl (by omega)) rfl <| .s rfl rfl <| .nil <| .region <| .x (jZ rfl rfl ⟨by omega, by omega⟩) rfl <| .m rfl rfl <| .nil ?_
    exact ⟨⟨j + 1, by omega⟩, by show 8 - (j + 1) < 8 - j; omega, StLe.mk [(1000, 1000), (1008, 1024)] rfl rfl ⟨⟨_, rfl, by first | rfl | (simp only [AV.ren]; congr 1; omega), rfl⟩, ⟨_, rfl, by first | rfl | (simp only [AV.ren]; congr 1; omega), rfl⟩, ⟨_, rfl, by first | rfl | (simp only [AV.ren]; congr 1; omega), rfl⟩, ⟨_, rfl, by first | rfl | (simp only [AV.ren]; congr 1; omega), rfl⟩, ⟨_, rfl, by first | rfl | (simp only [AV.ren]; congr 1; omega), rfl⟩, trivial⟩ ⟨⟨_, _, rfl, rfl, rfl, rfl, id, rfl⟩, ⟨_, _, rfl, rfl, rfl, rfl, id, rfl⟩, trivial⟩⟩
   ·simp only [decide_eq_false_iff_not] at hc10
    refine .exit <| .region <| .x (jZ rfl rfl ⟨by omega, by omega⟩) rfl <| .m rfl rfl <| .nil ?_
    have ej : j = 8 := by omega
    subst ej
    exact ⟨some ⟨i + 1, by omega⟩, by show 32 - (i + 1) < 32 - i; omega, StLe.mk [(1000, 1000), (1008, 1008)] rfl rfl ⟨⟨_, rfl, by first | rfl | (simp only [AV.ren]; congr 1; omega), rfl⟩, ⟨_, rfl, by first | rfl | (simp only [AV.ren]; congr 1; omega), rfl⟩, ⟨_, rfl, by first | rfl | (simp only [AV.ren]; congr 1; omega), rfl⟩, trivial⟩ ⟨⟨_, _, rfl, rfl, rfl, rfl, id, rfl⟩, ⟨_, _, rfl, rfl, rfl, rfl, id, rfl⟩, trivial⟩⟩
  ·simp only [decide_eq_false_iff_not] at hc7
   refine .exit <| .r <| .m rfl rfl <| .s rfl rfl <| .nil <| .ret ?_
   have ei : i = 32 := by omega
   subst ei
   exact yZ rfl (.inl rfl) rfl rfl ⟨rfl, trivial⟩
end Go.Proofs.YtcnjekoidgefpaaGreatDoor
