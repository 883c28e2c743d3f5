/-
  Square roots in the field of 2^255 - 19: the program, the reference, the mathematics, and the law.
-/
import Derived.Test.YtjhpelajhkhlcaaDoorGI
import Derived.Test.YtjhpelajhkhlcaaDoorGQ
import Derived.Test.YtjhpelajhkhlcaaDoorGL
namespace Go.Proofs.YtjhpelajhkhlcaaDoor
def iV : Nat := 19681161376707505956807079304988542015446066515923890162744021073123829784752
theorem iV_sq : iV * iV % fp = fp - 1 := by decide +kernel
theorem iV_even : iV % 2 = 0 := by decide +kernel
theorem iV_lt : iV < fp := by decide +kernel
theorem iV_pow : 2 ^ (fp / 4) % fp = iV ∨ 2 ^ (fp / 4) % fp = fp - iV := by
  rw [← pm_spec fp 256 2 (fp / 4) (by decide +kernel)]
  decide +kernel
theorem root_num {p E u v : Nat} (hp : p = 8 * E + 5) (h1 : v ^ (p - 1) % p = 1) : (u * v ^ (p - 2)) ^ (E + 1) % p = (u * v ^ 3 * (u * v ^ 7) ^ E) % p := by
  have e1 : (u * v ^ (p - 2)) ^ (E + 1) = (u * v ^ 3 * (u * v ^ 7) ^ E) * (v ^ (p - 1)) ^ E := by
    rw [Nat.mul_pow, Nat.mul_pow, ← Nat.pow_mul, ← Nat.pow_mul, ← Nat.pow_mul, Nat.pow_succ]
    have e2 : (p - 2) * (E + 1) = 3 + 7 * E + (p - 1) * E := by
      rw [hp, show 8 * E + 5 - 2 = 8 * E + 3 by omega, show 8 * E + 5 - 1 = 8 * E + 4 by omega]
      grind
    rw [e2, Nat.pow_add, Nat.pow_add]
    grind
  rw [e1, Nat.mul_mod, Nat.pow_mod (v ^ (p - 1)), h1, Nat.one_pow]
  have hp1 : 1 % p = 1 := Nat.mod_eq_of_lt (by omega)
  rw [hp1, Nat.mul_one, Nat.mod_mod]
theorem root_back {p u v : Nat} (hp : 2 ≤ p) (h1 : v ^ (p - 1) % p = 1) : (u * v ^ (p - 2)) * v % p = u % p := by
  rw [Nat.mul_assoc, ← Nat.pow_succ, show (p - 2).succ = p - 1 by omega, Nat.mul_mod, h1, Nat.mul_one, Nat.mod_mod]
theorem root_ok {p u v q : Nat} (hp : 2 ≤ p) (h1 : v ^ (p - 1) % p = 1) : q * v % p = u % p ↔ q % p = u * v ^ (p - 2) % p := by
  constructor
  · intro h
    have e : q * v * v ^ (p - 2) % p = u * v ^ (p - 2) % p := by rw [Nat.mul_mod, h, ← Nat.mul_mod]
    rw [← e, Nat.mul_assoc, ← Nat.pow_succ', show (p - 2).succ = p - 1 by omega, Nat.mul_mod, h1, Nat.mul_one, Nat.mod_mod]
  · intro h
    rw [Nat.mul_mod, h, ← Nat.mul_mod, root_back hp h1]
theorem neg_mul_mod {p a b : Nat} (ha : a ≤ p) (hp : 0 < p) : (p - a) * b % p = (p - a * b % p) % p := by
  have h : ((p - a) * b + a * b) % p = 0 := by rw [← Nat.add_mul, Nat.sub_add_cancel ha, Nat.mul_mod_right]
  have h2 := Nat.mod_lt (a * b) hp
  have h3 := Nat.mod_lt ((p - a) * b) hp
  rw [Nat.add_mod] at h
  by_cases c : a * b % p = 0
  · rw [c, Nat.add_zero, Nat.mod_mod] at h
    rw [h, c, Nat.sub_zero, Nat.mod_self]
  · have : (p - a * b % p) % p = p - a * b % p := Nat.mod_eq_of_lt (by omega)
    rw [this]
    by_cases d : (p - a) * b % p + a * b % p < p
    · rw [Nat.mod_eq_of_lt d] at h; omega
    · rw [Nat.mod_eq_sub_mod (by omega), Nat.mod_eq_of_lt (by omega)] at h; omega
theorem cube_mod (v p : Nat) : v * v % p * v % p = v ^ 3 % p := by
  rw [Nat.mod_mul_mod, show v ^ 3 = v * v * v by grind]
theorem prog_root (p E u v : Nat) : (u * (v * v % p * v % p) % p) * (((u * ((v * v % p * v % p) * (v * v % p * v % p) % p) % p) * v % p) ^ E % p) % p = (u * v ^ 3 * (u * v ^ 7) ^ E) % p := by
  have h1 : ((u * ((v ^ 3 % p) * (v ^ 3 % p) % p) % p) * v % p) = u * v ^ 7 % p := by
    rw [← Nat.mul_mod, Nat.mul_mod_mod, Nat.mod_mul_mod, show u * (v ^ 3 * v ^ 3) * v = u * v ^ 7 by grind]
  have h2 : u * (v ^ 3 % p) % p = u * v ^ 3 % p := Nat.mul_mod_mod _ _ _
  rw [cube_mod, h1, h2, ← Nat.pow_mod, ← Nat.mul_mod]
theorem ref_root (p E u v : Nat) : (u * (v ^ (p - 2) % p) % p) ^ (E + 1) % p = (u * v ^ (p - 2)) ^ (E + 1) % p := by
  have h : u * (v ^ (p - 2) % p) % p = u * v ^ (p - 2) % p := Nat.mul_mod_mod _ _ _
  rw [h, ← Nat.pow_mod]
theorem fp_E : fp = 8 * ((fp - 5) / 8) + 5 := by decide +kernel
theorem fp_E1 : (fp + 3) / 2 ^ 3 = (fp - 5) / 8 + 1 := by decide +kernel
theorem not_dvd {v p : Nat} (h0 : v ≠ 0) (h : v < p) : ¬ p ∣ v := fun hd => by have := Nat.le_of_dvd (by omega) hd; omega
theorem root_same (u v : Nat) (h0 : v ≠ 0) (hv : v < fp) : (u * (v * v % fp * v % fp) % fp) * (((u * ((v * v % fp * v % fp) * (v * v % fp * v % fp) % fp) % fp) * v % fp) ^ ((fp - 5) / 8) % fp) % fp = (u * (v ^ (fp - 2) % fp) % fp) ^ ((fp + 3) / 2 ^ 3) % fp := by
  rw [prog_root, fp_E1, ref_root, root_num fp_E (fermat1 prm_fp (not_dvd h0 hv))]
end Go.Proofs.YtjhpelajhkhlcaaDoor
namespace Go.Proofs.YtjhpelajhkhlcaaDoor
open Go.RowKit
theorem pw_add1E (a m e : Nat) (h : m + 1 = e) : (a ^ m % fp) * a % fp = a ^ e % fp := by rw [pw_add1, h]
set_option maxRecDepth 100000 in
theorem frootPower_gen (a : Nat) (ha : a < fp) (e0 e1 e2 : Nat) (h0 : 2 ^ 250 - 1 = e0) (h1 : e0 * 2 ^ 2 = e1) (h2 : e1 + 1 = e2) : Meets Tryd.prog 92 [.agg64 (fl a)] [] (.agg64 (fl (a ^ e2 % fp))) [] := by
  refine meets_of_ev (nt := 8) Tryd.func92 rfl rfl (Nat.le_of_ble_eq_true rfl) ?_
  refine .seq ?_
  refine .region ?_
  refine .a (op_boxRow rfl rfl) trivial rfl ?_
  refine .a (op_allocRow zero48 rel_zero48 rfl) trivial rfl ?_
  refine .nil ?_
  show Ev _ _ _ _ _
  refine .seq ?_
  refine .drawn [[], [0], [0, 1], [], [0, 1, 2, 3], [0, 1, 2, 3, 4]] [0, 1, 2, 3, 4, 5] [5] (by kernel_rfl) (by kernel_rfl) rfl ?_
  show DK _ [0, 1, 2, 3, 4, 5] _ _ _
  refine .q rfl (op_loadRow Tryd.underlying48 rfl sz48 rfl rfl rfl (rfl)) trivial ?_
  refine .q rfl (op_call (U := []) [] [] (ones_gen a ha 250 (by decide) (by decide) e0 h0) Tryd.func118 (by kernel_rfl) rfl rfl rfl (⟨⟨_, rfl, rfl, rfl⟩, ⟨_, rfl, rfl, rfl⟩, trivial⟩) (trivial) (trivial) (trivial) rfl) trivial ?_
  refine .as (.agg64 (fl (a ^ e0 % fp))) rfl ?_
  refine .q rfl (op_call (U := []) [] [] (squares_ev (a ^ e0 % fp) 2 (fmod_lt _) (by decide)) Tryd.func119 (by kernel_rfl) rfl rfl rfl (⟨⟨_, rfl, rfl, rfl⟩, ⟨_, rfl, rfl, rfl⟩, trivial⟩) (trivial) (trivial) (trivial) rfl) trivial ?_
  refine .as (.agg64 (fl (a ^ e1 % fp))) (congrArg (fun z => AV.agg64 (fl z)) (pw_powE a _ _ _ h1)) ?_
  refine .q rfl (op_loadRow Tryd.underlying48 rfl sz48 rfl rfl rfl (rfl)) trivial ?_
  refine .q rfl (op_call (U := []) [] [] (fmul_ev _ _ (fmod_lt _) ha) Tryd.func35 (by kernel_rfl) rfl rfl rfl (⟨⟨_, rfl, rfl, rfl⟩, ⟨_, rfl, rfl, rfl⟩, trivial⟩) (trivial) (trivial) (trivial) rfl) trivial ?_
  refine .as (.agg64 (fl (a ^ e2 % fp))) (congrArg (fun z => AV.agg64 (fl z)) (pw_add1E a _ _ h2)) ?_
  refine .w rfl (op_storeRow sz48 rfl rfl rfl rfl rfl (rfl) (rfl)) trivial rfl rfl ?_
  refine .nil ?_
  show Ev _ _ _ _ _
  refine .ret ?_
  show RetOk _ _ _ _ _ _ _
  exact retc1 rfl (.inl rfl) ⟨_, _, _, _, rfl, rfl, rfl, rfl, (rfl), Tryd.underlying48, rfl, sz48⟩ trivial
theorem frootPower_ev (a : Nat) (ha : a < fp) : Meets Tryd.prog 92 [.agg64 (fl a)] [] (.agg64 (fl (a ^ ((fp - 5) / 8) % fp))) [] := frootPower_gen a ha _ _ _ rfl rfl root_exp
theorem iV_p : 2 ^ (fp / 2 ^ 2) % fp = iV := by
  rw [← pm_spec fp 256 2 (fp / 2 ^ 2) (by decide +kernel)]
  decide +kernel
theorem power05E (a n m : Nat) (h : a ^ n % fp = m) (ha : a < fp) (hn : dl n ≤ 16) : Meets Tryd.prog 93 [.sl 500 0 (dl a) 1, .sl 501 0 (dl n) 1] [(500, some ⟨.aggI (dg a), 3, false⟩), (501, some ⟨.aggI (dg n), 3, false⟩)] (.sl 1000 0 (dl m) 1) [(1000, some ⟨.aggI (dg m), 3, true⟩)] := h ▸ power05 a n ha hn
theorem power2_ev : Meets Tryd.prog 93 [.sl 500 0 (dl 2) 1, .sl 501 0 (dl (fp / 2 ^ 2)) 1] [(500, some ⟨.aggI (dg 2), 3, false⟩), (501, some ⟨.aggI (dg (fp / 2 ^ 2)), 3, false⟩)] (.sl 1000 0 (dl iV) 1) [(1000, some ⟨.aggI (dg iV), 3, true⟩)] :=
  power05E 2 (fp / 2 ^ 2) iV iV_p (by decide) (Nat.le_trans (dl_mono2 (Nat.div_le_self fp _)) dl_fp)
set_option maxHeartbeats 1000000 in
set_option maxRecDepth 100000 in
theorem minus1R_ev  : Meets Tryd.prog 94 [] [] (.sl 1000 0 (dl iV) 1) [(1000, some ⟨.aggI (dg iV), 3, true⟩)] := by
  refine meets_of_ev (nt := 11) Tryd.func94 rfl rfl (Nat.le_of_ble_eq_true rfl) ?_
  refine .seq ?_
  refine .region ?_
  refine .q (op_assign rfl) trivial rfl ?_
  refine .nil ?_
  show Ev _ _ _ _ _
  refine .seq ?_
  refine .region ?_
  refine .a (op_call (U := [(1000, some ⟨.aggI (dg (2)), 3, true⟩)]) [] [(1000, 1000)] (small_ev 2 (by omega)) Tryd.func70 (by kernel_rfl) rfl rfl rfl (⟨⟨_, rfl, rfl, rfl⟩, trivial⟩) (trivial) (⟨⟨1000, _, rfl, rfl, rfl, rfl, .inl rfl⟩, trivial⟩) (trivial) rfl) trivial rfl ?_
  refine .a (op_call (U := [(1008, some ⟨.aggI (dg (fp)), 3, true⟩)]) [] [(1008, 1000)] (P_ev) Tryd.func88 (by kernel_rfl) rfl rfl rfl (trivial) (trivial) (⟨⟨1000, _, rfl, rfl, rfl, rfl, .inl rfl⟩, trivial⟩) (trivial) rfl) trivial rfl ?_
  refine .a (op_call (U := [(1016, some ⟨.aggI (dg ((fp / 2 ^ 2))), 3, true⟩)]) [(500, 1008)] [(1016, 1000)] (half_ev (fp) 2 (by first | exact Nat.le_trans dl_fp (by decide) | exact hd3) (by decide)) Tryd.func74 (by kernel_rfl) rfl rfl rfl (⟨⟨_, rfl, rfl, rfl⟩, ⟨_, rfl, rfl, rfl⟩, trivial⟩) (⟨⟨_, _, rfl, rfl, rfl, rfl, (fun h => by cases h), rfl⟩, trivial⟩) (⟨⟨1000, _, rfl, rfl, rfl, rfl, .inl rfl⟩, trivial⟩) (⟨(fun h => by cases h), trivial⟩) rfl) trivial rfl ?_
  refine .a (op_call (U := [(1024, some ⟨.aggI (dg (iV)), 3, true⟩)]) [(500, 1000), (501, 1016)] [(1024, 1000)] (power2_ev) Tryd.func93 (by kernel_rfl) rfl rfl rfl (⟨⟨_, rfl, rfl, rfl⟩, ⟨_, rfl, rfl, rfl⟩, trivial⟩) (⟨⟨_, _, rfl, rfl, rfl, rfl, (fun h => by cases h), rfl⟩, ⟨_, _, rfl, rfl, rfl, rfl, (fun h => by cases h), rfl⟩, trivial⟩) (⟨⟨1000, _, rfl, rfl, rfl, rfl, .inl rfl⟩, trivial⟩) (⟨(fun h => by cases h), (fun h => by cases h), trivial⟩) rfl) trivial rfl ?_
  refine .q (op_assign rfl) trivial rfl ?_
  refine .nil ?_
  show Ev _ _ _ _ _
  refine .seq ?_
  refine .seq ?_
  refine .region ?_
  refine .q (op_move rfl) trivial rfl ?_
  refine .q (op_call (U := []) [(500, 1024)] [] (odd05 iV (by have := dl_of_fp iV_lt; omega)) Tryd.func95 (by kernel_rfl) rfl rfl rfl (⟨⟨_, rfl, rfl, rfl⟩, trivial⟩) (⟨⟨_, _, rfl, rfl, rfl, rfl, (fun h => by cases h), rfl⟩, trivial⟩) (trivial) (⟨(fun h => by cases h), trivial⟩) rfl) trivial rfl ?_
  refine .nil ?_
  show Ev _ _ _ _ _
  refine .cond_false rfl (by decide +kernel) ?_
  refine .skip ?_
  show Ev _ _ _ _ _
  refine .seq ?_
  refine .region ?_
  refine .q (op_move rfl) trivial rfl ?_
  refine .q (op_assign rfl) trivial rfl ?_
  refine .nil ?_
  show Ev _ _ _ _ _
  refine Ev.weak (st2 := ⟨[(0, .sl 1000 0 (dl iV) 1)], [(1000, some ⟨.aggI (dg iV), 3, true⟩)], 1008⟩) (StLe.mk [(1000, 1024)] rfl rfl ⟨⟨_, rfl, by (show AV.sl 1000 0 (dl iV) 1 = _; rfl), rfl⟩, trivial⟩ ⟨⟨_, _, rfl, rfl, by (show AV.aggI (dg iV) = _; rfl), rfl, id, rfl⟩, trivial⟩) ?_
  refine .ret ?_
  show RetOk _ _ _ _ _ _ _
  exact ret1v rfl (.inl rfl) rfl rfl ⟨rfl, trivial⟩
def minusL : List UInt64 := [0xc4ee1b274a0ea0b0, 0x2f431806ad2fe478, 0x2b4d00993dfbd7a7, 0x2b8324804fc1df0b]
theorem fl_iV : fl iV = minusL := by decide +kernel
def HM (e : Nat) : List (Nat × Option ABlk) := [(21, some ⟨.agg64 minusL, e, false⟩)]
set_option maxRecDepth 100000 in
theorem fminus1_ev (e : Nat) : Meets Tryd.prog 45 [] (HM e) (.agg64 (fl iV)) [] := by
  refine meets_of_ev (nt := 3) Tryd.func45 rfl rfl (Nat.le_of_ble_eq_true rfl) ?_
  refine .seq ?_
  refine .region ?_
  refine .a (op_allocRow zero48 rel_zero48 rfl) trivial rfl ?_
  refine .nil ?_
  show Ev _ _ _ _ _
  refine .seq ?_
  refine .region ?_
  refine .q (op_loadRow Tryd.underlying46 rfl sz46 rfl rfl rfl (rfl)) trivial rfl ?_
  refine .q (op_buildBox1 (l := minusL) Tryd.underlying48 rfl (by exact sz46) zero48 rfl rfl) trivial rfl ?_
  refine .as (.agg64 (fl iV)) (congrArg AV.agg64 fl_iV.symm) ?_
  refine .w (op_storeRow sz48 rfl rfl rfl rfl rfl (rfl) (rfl)) trivial rfl ?_
  refine .nil ?_
  show Ev _ _ _ _ _
  refine .ret ?_
  show RetOk _ _ _ _ _ _ _
  exact retc1 rfl (.inl rfl) ⟨_, _, _, _, rfl, rfl, rfl, rfl, (rfl), Tryd.underlying48, rfl, sz48⟩ trivial
end Go.Proofs.YtjhpelajhkhlcaaDoor
namespace Go.Proofs.YtjhpelajhkhlcaaDoor
open Go.RowKit
theorem cmp_zero (a b : Nat) : cmpN a b = 0 ↔ a = b := by
  unfold cmpN
  by_cases h : a < b
  · rw [if_pos h]; omega
  · rw [if_neg h]
    by_cases h2 : b < a
    · rw [if_pos h2]; omega
    · rw [if_neg h2]; omega
def r0N (x : Nat) : Nat := x ^ ((fp + 3) / 2 ^ 3) % fp
theorem r0_lt (x : Nat) : r0N x < fp := Nat.mod_lt _ fp_pos'
theorem pow3_ev (x r : Nat) (hx : x < fp) (hr : r0N x = r) : Meets Tryd.prog 93 [.sl 500 0 (dl x) 1, .sl 501 0 (dl ((fp + 3) / 2 ^ 3)) 1] [(500, some ⟨.aggI (dg x), 3, false⟩), (501, some ⟨.aggI (dg ((fp + 3) / 2 ^ 3)), 3, false⟩)] (.sl 1000 0 (dl r) 1) [(1000, some ⟨.aggI (dg r), 3, true⟩)] :=
  power05E x ((fp + 3) / 2 ^ 3) r hr hx (Nat.le_trans (dl_mono2 (show (fp + 3) / 2 ^ 3 ≤ fp by decide +kernel)) dl_fp)
theorem hd3 : dl (fp + 3) ≤ 1000 := Nat.le_trans (dl_le (n := 17) (by decide +kernel)) (by decide)
set_option maxHeartbeats 2000000 in
set_option maxRecDepth 100000 in
theorem rootR_Ae (x r : Nat) (hx : x < fp) (hr : r0N x = r) (hlt : r < fp) (h1 : r * r % fp = x) (h3 : r % 2 ≠ 1) : Meets Tryd.prog 43 [.sl 500 0 (dl x) 1] [(500, some ⟨.aggI (dg x), 3, false⟩)] (.tup [.sl 1000 0 (dl (r)) 1, .bool true]) [(1000, some ⟨.aggI (dg (r)), 3, true⟩)] := by
  refine meets_of_ev (nt := 31) Tryd.func43 rfl rfl (Nat.le_of_ble_eq_true rfl) ?_
  refine .seq ?_
  refine .region ?_
  refine .q (op_assign rfl) trivial rfl ?_
  refine .q (op_assign rfl) trivial rfl ?_
  refine .nil ?_
  show Ev _ _ _ _ _
  refine .seq ?_
  refine .region ?_
  refine .q (op_move rfl) trivial rfl ?_
  refine .a (op_call (U := [(1000, some ⟨.aggI (dg (fp)), 3, true⟩)]) [] [(1000, 1000)] (P_ev) Tryd.func88 (by kernel_rfl) rfl rfl rfl (trivial) (trivial) (⟨⟨1000, _, rfl, rfl, rfl, rfl, .inl rfl⟩, trivial⟩) (trivial) rfl) trivial rfl ?_
  refine .a (op_call (U := [(1008, some ⟨.aggI (dg (3)), 3, true⟩)]) [] [(1008, 1000)] (small_ev 3 (by omega)) Tryd.func70 (by kernel_rfl) rfl rfl rfl (⟨⟨_, rfl, rfl, rfl⟩, trivial⟩) (trivial) (⟨⟨1000, _, rfl, rfl, rfl, rfl, .inl rfl⟩, trivial⟩) (trivial) rfl) trivial rfl ?_
  refine .a (op_call (U := [(1016, some ⟨.aggI (dg ((fp + 3))), 3, true⟩)]) [(500, 1000), (501, 1008)] [(1016, 1000)] (add_ev (fp) (3) (by have := dl_fp; omega) (Nat.le_trans (dl_le (n := 1) (by decide)) (by decide))) Tryd.func72 (by kernel_rfl) rfl rfl rfl (⟨⟨_, rfl, rfl, rfl⟩, ⟨_, rfl, rfl, rfl⟩, trivial⟩) (⟨⟨_, _, rfl, rfl, rfl, rfl, (fun h => by cases h), rfl⟩, ⟨_, _, rfl, rfl, rfl, rfl, (fun h => by cases h), rfl⟩, trivial⟩) (⟨⟨1000, _, rfl, rfl, rfl, rfl, .inl rfl⟩, trivial⟩) (⟨(fun h => by cases h), (fun h => by cases h), trivial⟩) rfl) trivial rfl ?_
  refine .a (op_call (U := [(1024, some ⟨.aggI (dg (((fp + 3) / 2 ^ 3))), 3, true⟩)]) [(500, 1016)] [(1024, 1000)] (half_ev ((fp + 3)) 3 (by first | exact Nat.le_trans dl_fp (by decide) | exact hd3) (by decide)) Tryd.func74 (by kernel_rfl) rfl rfl rfl (⟨⟨_, rfl, rfl, rfl⟩, ⟨_, rfl, rfl, rfl⟩, trivial⟩) (⟨⟨_, _, rfl, rfl, rfl, rfl, (fun h => by cases h), rfl⟩, trivial⟩) (⟨⟨1000, _, rfl, rfl, rfl, rfl, .inl rfl⟩, trivial⟩) (⟨(fun h => by cases h), trivial⟩) rfl) trivial rfl ?_
  refine .a (op_call (U := [(1032, some ⟨.aggI (dg (r)), 3, true⟩)]) [(500, 500), (501, 1024)] [(1032, 1000)] (pow3_ev x r hx hr) Tryd.func93 (by kernel_rfl) rfl rfl rfl (⟨⟨_, rfl, rfl, rfl⟩, ⟨_, rfl, rfl, rfl⟩, trivial⟩) (⟨⟨_, _, rfl, rfl, rfl, rfl, (fun h => by cases h), rfl⟩, ⟨_, _, rfl, rfl, rfl, rfl, (fun h => by cases h), rfl⟩, trivial⟩) (⟨⟨1000, _, rfl, rfl, rfl, rfl, .inl rfl⟩, trivial⟩) (⟨(fun h => by cases h), (fun h => by cases h), trivial⟩) rfl) trivial rfl ?_
  refine .q (op_assign rfl) trivial rfl ?_
  refine .nil ?_
  show Ev _ _ _ _ _
  refine .seq ?_
  refine .seq ?_
  refine .region ?_
  refine .q (op_move rfl) trivial rfl ?_
  refine .q (op_move rfl) trivial rfl ?_
  refine .a (op_call (U := [(1040, some ⟨.aggI (dg ((r * r % fp))), 3, true⟩)]) [(500, 1032)] [(1040, 1000)] (mulsq05 (r) (by first | assumption | exact Nat.mod_lt _ fp_pos' | exact fmod_lt _ | exact ofV_lt _ | exact fp_pos' | exact pw_lt _ _ _ | decide)) Tryd.func36 (by kernel_rfl) rfl rfl rfl (⟨⟨_, rfl, rfl, rfl⟩, ⟨_, rfl, rfl, rfl⟩, trivial⟩) (⟨⟨_, _, rfl, rfl, rfl, rfl, (fun h => by cases h), rfl⟩, trivial⟩) (⟨⟨1000, _, rfl, rfl, rfl, rfl, .inl rfl⟩, trivial⟩) (⟨(fun h => by cases h), trivial⟩) rfl) trivial rfl ?_
  refine .q (op_move rfl) trivial rfl ?_
  refine .q (op_call (U := []) [(500, 1040), (501, 500)] [] (cmp_ev ((r * r % fp)) (x) (by have := dl_of_fp (a := (r * r % fp)) (by first | assumption | exact Nat.mod_lt _ fp_pos' | exact fmod_lt _ | exact ofV_lt _ | exact fp_pos' | exact pw_lt _ _ _ | decide); omega) (by have := dl_of_fp (a := x) (by first | assumption | exact Nat.mod_lt _ fp_pos' | exact fmod_lt _ | exact ofV_lt _ | exact fp_pos' | exact pw_lt _ _ _ | decide); omega)) Tryd.func39 (by kernel_rfl) rfl rfl rfl (⟨⟨_, rfl, rfl, rfl⟩, ⟨_, rfl, rfl, rfl⟩, trivial⟩) (⟨⟨_, _, rfl, rfl, rfl, rfl, (fun h => by cases h), rfl⟩, ⟨_, _, rfl, rfl, rfl, rfl, (fun h => by cases h), rfl⟩, trivial⟩) (trivial) (⟨(fun h => by cases h), (fun h => by cases h), trivial⟩) rfl) trivial rfl ?_
  refine .q (op_cmpI rfl rfl rfl) trivial rfl ?_
  refine .nil ?_
  show Ev _ _ _ _ _
  refine .cond_false rfl (by simp [cmp_zero, h1]) ?_
  refine .skip ?_
  show Ev _ _ _ _ _
  refine .seq ?_
  refine .seq ?_
  refine .region ?_
  refine .q (op_move rfl) trivial rfl ?_
  refine .q (op_move rfl) trivial rfl ?_
  refine .a (op_call (U := [(1048, some ⟨.aggI (dg ((r * r % fp))), 3, true⟩)]) [(500, 1032)] [(1048, 1000)] (mulsq05 (r) (by first | assumption | exact Nat.mod_lt _ fp_pos' | exact fmod_lt _ | exact ofV_lt _ | exact fp_pos' | exact pw_lt _ _ _ | decide)) Tryd.func36 (by kernel_rfl) rfl rfl rfl (⟨⟨_, rfl, rfl, rfl⟩, ⟨_, rfl, rfl, rfl⟩, trivial⟩) (⟨⟨_, _, rfl, rfl, rfl, rfl, (fun h => by cases h), rfl⟩, trivial⟩) (⟨⟨1000, _, rfl, rfl, rfl, rfl, .inl rfl⟩, trivial⟩) (⟨(fun h => by cases h), trivial⟩) rfl) trivial rfl ?_
  refine .q (op_move rfl) trivial rfl ?_
  refine .q (op_call (U := []) [(500, 1048), (501, 500)] [] (cmp_ev ((r * r % fp)) (x) (by have := dl_of_fp (a := (r * r % fp)) (by first | assumption | exact Nat.mod_lt _ fp_pos' | exact fmod_lt _ | exact ofV_lt _ | exact fp_pos' | exact pw_lt _ _ _ | decide); omega) (by have := dl_of_fp (a := x) (by first | assumption | exact Nat.mod_lt _ fp_pos' | exact fmod_lt _ | exact ofV_lt _ | exact fp_pos' | exact pw_lt _ _ _ | decide); omega)) Tryd.func39 (by kernel_rfl) rfl rfl rfl (⟨⟨_, rfl, rfl, rfl⟩, ⟨_, rfl, rfl, rfl⟩, trivial⟩) (⟨⟨_, _, rfl, rfl, rfl, rfl, (fun h => by cases h), rfl⟩, ⟨_, _, rfl, rfl, rfl, rfl, (fun h => by cases h), rfl⟩, trivial⟩) (trivial) (⟨(fun h => by cases h), (fun h => by cases h), trivial⟩) rfl) trivial rfl ?_
  refine .q (op_cmpI rfl rfl rfl) trivial rfl ?_
  refine .nil ?_
  show Ev _ _ _ _ _
  refine .cond_false rfl (by simp [cmp_zero, h1]) ?_
  refine .skip ?_
  show Ev _ _ _ _ _
  refine .seq ?_
  refine .seq ?_
  refine .region ?_
  refine .q (op_move rfl) trivial rfl ?_
  refine .q (op_call (U := []) [(500, 1032)] [] (odd05 (r) (by have := dl_of_fp (a := r) (by first | assumption | exact Nat.mod_lt _ fp_pos' | exact fmod_lt _ | exact ofV_lt _ | exact fp_pos' | exact pw_lt _ _ _ | decide); omega)) Tryd.func95 (by kernel_rfl) rfl rfl rfl (⟨⟨_, rfl, rfl, rfl⟩, trivial⟩) (⟨⟨_, _, rfl, rfl, rfl, rfl, (fun h => by cases h), rfl⟩, trivial⟩) (trivial) (⟨(fun h => by cases h), trivial⟩) rfl) trivial rfl ?_
  refine .nil ?_
  show Ev _ _ _ _ _
  refine .cond_false rfl (by simp [h3]) ?_
  refine .skip ?_
  show Ev _ _ _ _ _
  refine .seq ?_
  refine .region ?_
  refine .q (op_move rfl) trivial rfl ?_
  refine .q (op_assign rfl) trivial rfl ?_
  refine .q (op_assign rfl) trivial rfl ?_
  refine .nil ?_
  show Ev _ _ _ _ _
  refine Ev.weak (st2 := ⟨[(2, .sl 1000 0 (dl (r)) 1), (3, .bool true)], [(1000, some ⟨.aggI (dg (r)), 3, true⟩)], 1008⟩) (StLe.mk [(1000, 1032)] rfl rfl ⟨⟨_, rfl, by (show AV.sl 1000 0 (dl (r)) 1 = _; rfl), rfl⟩, ⟨_, rfl, by rfl, rfl⟩, trivial⟩ ⟨⟨_, _, rfl, rfl, by (show AV.aggI (dg (r)) = _; rfl), rfl, id, rfl⟩, trivial⟩) ?_
  refine .ret ?_
  show RetOk _ _ _ _ _ _ _
  exact ret2v rfl (.inl rfl) rfl rfl rfl rfl ⟨rfl, trivial⟩
set_option maxHeartbeats 2000000 in
set_option maxRecDepth 100000 in
theorem rootR_Ao (x r : Nat) (hx : x < fp) (hr : r0N x = r) (hlt : r < fp) (h1 : r * r % fp = x) (h3 : r % 2 = 1) : Meets Tryd.prog 43 [.sl 500 0 (dl x) 1] [(500, some ⟨.aggI (dg x), 3, false⟩)] (.tup [.sl 1000 0 (dl (((fp - r) % fp))) 1, .bool true]) [(1000, some ⟨.aggI (dg (((fp - r) % fp))), 3, true⟩)] := by
  refine meets_of_ev (nt := 31) Tryd.func43 rfl rfl (Nat.le_of_ble_eq_true rfl) ?_
  refine .seq ?_
  refine .region ?_
  refine .q (op_assign rfl) trivial rfl ?_
  refine .q (op_assign rfl) trivial rfl ?_
  refine .nil ?_
  show Ev _ _ _ _ _
  refine .seq ?_
  refine .region ?_
  refine .q (op_move rfl) trivial rfl ?_
  refine .a (op_call (U := [(1000, some ⟨.aggI (dg (fp)), 3, true⟩)]) [] [(1000, 1000)] (P_ev) Tryd.func88 (by kernel_rfl) rfl rfl rfl (trivial) (trivial) (⟨⟨1000, _, rfl, rfl, rfl, rfl, .inl rfl⟩, trivial⟩) (trivial) rfl) trivial rfl ?_
  refine .a (op_call (U := [(1008, some ⟨.aggI (dg (3)), 3, true⟩)]) [] [(1008, 1000)] (small_ev 3 (by omega)) Tryd.func70 (by kernel_rfl) rfl rfl rfl (⟨⟨_, rfl, rfl, rfl⟩, trivial⟩) (trivial) (⟨⟨1000, _, rfl, rfl, rfl, rfl, .inl rfl⟩, trivial⟩) (trivial) rfl) trivial rfl ?_
  refine .a (op_call (U := [(1016, some ⟨.aggI (dg ((fp + 3))), 3, true⟩)]) [(500, 1000), (501, 1008)] [(1016, 1000)] (add_ev (fp) (3) (by have := dl_fp; omega) (Nat.le_trans (dl_le (n := 1) (by decide)) (by decide))) Tryd.func72 (by kernel_rfl) rfl rfl rfl (⟨⟨_, rfl, rfl, rfl⟩, ⟨_, rfl, rfl, rfl⟩, trivial⟩) (⟨⟨_, _, rfl, rfl, rfl, rfl, (fun h => by cases h), rfl⟩, ⟨_, _, rfl, rfl, rfl, rfl, (fun h => by cases h), rfl⟩, trivial⟩) (⟨⟨1000, _, rfl, rfl, rfl, rfl, .inl rfl⟩, trivial⟩) (⟨(fun h => by cases h), (fun h => by cases h), trivial⟩) rfl) trivial rfl ?_
  refine .a (op_call (U := [(1024, some ⟨.aggI (dg (((fp + 3) / 2 ^ 3))), 3, true⟩)]) [(500, 1016)] [(1024, 1000)] (half_ev ((fp + 3)) 3 (by first | exact Nat.le_trans dl_fp (by decide) | exact hd3) (by decide)) Tryd.func74 (by kernel_rfl) rfl rfl rfl (⟨⟨_, rfl, rfl, rfl⟩, ⟨_, rfl, rfl, rfl⟩, trivial⟩) (⟨⟨_, _, rfl, rfl, rfl, rfl, (fun h => by cases h), rfl⟩, trivial⟩) (⟨⟨1000, _, rfl, rfl, rfl, rfl, .inl rfl⟩, trivial⟩) (⟨(fun h => by cases h), trivial⟩) rfl) trivial rfl ?_
  refine .a (op_call (U := [(1032, some ⟨.aggI (dg (r)), 3, true⟩)]) [(500, 500), (501, 1024)] [(1032, 1000)] (pow3_ev x r hx hr) Tryd.func93 (by kernel_rfl) rfl rfl rfl (⟨⟨_, rfl, rfl, rfl⟩, ⟨_, rfl, rfl, rfl⟩, trivial⟩) (⟨⟨_, _, rfl, rfl, rfl, rfl, (fun h => by cases h), rfl⟩, ⟨_, _, rfl, rfl, rfl, rfl, (fun h => by cases h), rfl⟩, trivial⟩) (⟨⟨1000, _, rfl, rfl, rfl, rfl, .inl rfl⟩, trivial⟩) (⟨(fun h => by cases h), (fun h => by cases h), trivial⟩) rfl) trivial rfl ?_
  refine .q (op_assign rfl) trivial rfl ?_
  refine .nil ?_
  show Ev _ _ _ _ _
  refine .seq ?_
  refine .seq ?_
  refine .region ?_
  refine .q (op_move rfl) trivial rfl ?_
  refine .q (op_move rfl) trivial rfl ?_
  refine .a (op_call (U := [(1040, some ⟨.aggI (dg ((r * r % fp))), 3, true⟩)]) [(500, 1032)] [(1040, 1000)] (mulsq05 (r) (by first | assumption | exact Nat.mod_lt _ fp_pos' | exact fmod_lt _ | exact ofV_lt _ | exact fp_pos' | exact pw_lt _ _ _ | decide)) Tryd.func36 (by kernel_rfl) rfl rfl rfl (⟨⟨_, rfl, rfl, rfl⟩, ⟨_, rfl, rfl, rfl⟩, trivial⟩) (⟨⟨_, _, rfl, rfl, rfl, rfl, (fun h => by cases h), rfl⟩, trivial⟩) (⟨⟨1000, _, rfl, rfl, rfl, rfl, .inl rfl⟩, trivial⟩) (⟨(fun h => by cases h), trivial⟩) rfl) trivial rfl ?_
  refine .q (op_move rfl) trivial rfl ?_
  refine .q (op_call (U := []) [(500, 1040), (501, 500)] [] (cmp_ev ((r * r % fp)) (x) (by have := dl_of_fp (a := (r * r % fp)) (by first | assumption | exact Nat.mod_lt _ fp_pos' | exact fmod_lt _ | exact ofV_lt _ | exact fp_pos' | exact pw_lt _ _ _ | decide); omega) (by have := dl_of_fp (a := x) (by first | assumption | exact Nat.mod_lt _ fp_pos' | exact fmod_lt _ | exact ofV_lt _ | exact fp_pos' | exact pw_lt _ _ _ | decide); omega)) Tryd.func39 (by kernel_rfl) rfl rfl rfl (⟨⟨_, rfl, rfl, rfl⟩, ⟨_, rfl, rfl, rfl⟩, trivial⟩) (⟨⟨_, _, rfl, rfl, rfl, rfl, (fun h => by cases h), rfl⟩, ⟨_, _, rfl, rfl, rfl, rfl, (fun h => by cases h), rfl⟩, trivial⟩) (trivial) (⟨(fun h => by cases h), (fun h => by cases h), trivial⟩) rfl) trivial rfl ?_
  refine .q (op_cmpI rfl rfl rfl) trivial rfl ?_
  refine .nil ?_
  show Ev _ _ _ _ _
  refine .cond_false rfl (by simp [cmp_zero, h1]) ?_
  refine .skip ?_
  show Ev _ _ _ _ _
  refine .seq ?_
  refine .seq ?_
  refine .region ?_
  refine .q (op_move rfl) trivial rfl ?_
  refine .q (op_move rfl) trivial rfl ?_
  refine .a (op_call (U := [(1048, some ⟨.aggI (dg ((r * r % fp))), 3, true⟩)]) [(500, 1032)] [(1048, 1000)] (mulsq05 (r) (by first | assumption | exact Nat.mod_lt _ fp_pos' | exact fmod_lt _ | exact ofV_lt _ | exact fp_pos' | exact pw_lt _ _ _ | decide)) Tryd.func36 (by kernel_rfl) rfl rfl rfl (⟨⟨_, rfl, rfl, rfl⟩, ⟨_, rfl, rfl, rfl⟩, trivial⟩) (⟨⟨_, _, rfl, rfl, rfl, rfl, (fun h => by cases h), rfl⟩, trivial⟩) (⟨⟨1000, _, rfl, rfl, rfl, rfl, .inl rfl⟩, trivial⟩) (⟨(fun h => by cases h), trivial⟩) rfl) trivial rfl ?_
  refine .q (op_move rfl) trivial rfl ?_
  refine .q (op_call (U := []) [(500, 1048), (501, 500)] [] (cmp_ev ((r * r % fp)) (x) (by have := dl_of_fp (a := (r * r % fp)) (by first | assumption | exact Nat.mod_lt _ fp_pos' | exact fmod_lt _ | exact ofV_lt _ | exact fp_pos' | exact pw_lt _ _ _ | decide); omega) (by have := dl_of_fp (a := x) (by first | assumption | exact Nat.mod_lt _ fp_pos' | exact fmod_lt _ | exact ofV_lt _ | exact fp_pos' | exact pw_lt _ _ _ | decide); omega)) Tryd.func39 (by kernel_rfl) rfl rfl rfl (⟨⟨_, rfl, rfl, rfl⟩, ⟨_, rfl, rfl, rfl⟩, trivial⟩) (⟨⟨_, _, rfl, rfl, rfl, rfl, (fun h => by cases h), rfl⟩, ⟨_, _, rfl, rfl, rfl, rfl, (fun h => by cases h), rfl⟩, trivial⟩) (trivial) (⟨(fun h => by cases h), (fun h => by cases h), trivial⟩) rfl) trivial rfl ?_
  refine .q (op_cmpI rfl rfl rfl) trivial rfl ?_
  refine .nil ?_
  show Ev _ _ _ _ _
  refine .cond_false rfl (by simp [cmp_zero, h1]) ?_
  refine .skip ?_
  show Ev _ _ _ _ _
  refine .seq ?_
  refine .seq ?_
  refine .region ?_
  refine .q (op_move rfl) trivial rfl ?_
  refine .q (op_call (U := []) [(500, 1032)] [] (odd05 (r) (by have := dl_of_fp (a := r) (by first | assumption | exact Nat.mod_lt _ fp_pos' | exact fmod_lt _ | exact ofV_lt _ | exact fp_pos' | exact pw_lt _ _ _ | decide); omega)) Tryd.func95 (by kernel_rfl) rfl rfl rfl (⟨⟨_, rfl, rfl, rfl⟩, trivial⟩) (⟨⟨_, _, rfl, rfl, rfl, rfl, (fun h => by cases h), rfl⟩, trivial⟩) (trivial) (⟨(fun h => by cases h), trivial⟩) rfl) trivial rfl ?_
  refine .nil ?_
  show Ev _ _ _ _ _
  refine .cond_true rfl (by simp [h3]) ?_
  refine .region ?_
  refine .q (op_move rfl) trivial rfl ?_
  refine .a (op_call (U := [(1056, some ⟨.aggI (dg (((fp - r) % fp))), 3, true⟩)]) [(501, 1032)] [(1056, 1000)] (subn05 (r) (by first | assumption | exact Nat.mod_lt _ fp_pos' | exact fmod_lt _ | exact ofV_lt _ | exact fp_pos' | exact pw_lt _ _ _ | decide)) Tryd.func33 (by kernel_rfl) rfl rfl rfl (⟨⟨_, rfl, rfl, rfl⟩, ⟨_, rfl, rfl, rfl⟩, trivial⟩) (⟨⟨_, _, rfl, rfl, rfl, rfl, (fun h => by cases h), rfl⟩, trivial⟩) (⟨⟨1000, _, rfl, rfl, rfl, rfl, .inl rfl⟩, trivial⟩) (⟨(fun h => by cases h), trivial⟩) rfl) trivial rfl ?_
  refine .q (op_assign rfl) trivial rfl ?_
  refine .nil ?_
  show Ev _ _ _ _ _
  refine .seq ?_
  refine .region ?_
  refine .q (op_move rfl) trivial rfl ?_
  refine .q (op_assign rfl) trivial rfl ?_
  refine .q (op_assign rfl) trivial rfl ?_
  refine .nil ?_
  show Ev _ _ _ _ _
  refine Ev.weak (st2 := ⟨[(2, .sl 1000 0 (dl (((fp - r) % fp))) 1), (3, .bool true)], [(1000, some ⟨.aggI (dg (((fp - r) % fp))), 3, true⟩)], 1008⟩) (StLe.mk [(1000, 1056)] rfl rfl ⟨⟨_, rfl, by (show AV.sl 1000 0 (dl (((fp - r) % fp))) 1 = _; rfl), rfl⟩, ⟨_, rfl, by rfl, rfl⟩, trivial⟩ ⟨⟨_, _, rfl, rfl, by (show AV.aggI (dg (((fp - r) % fp))) = _; rfl), rfl, id, rfl⟩, trivial⟩) ?_
  refine .ret ?_
  show RetOk _ _ _ _ _ _ _
  exact ret2v rfl (.inl rfl) rfl rfl rfl rfl ⟨rfl, trivial⟩
set_option maxHeartbeats 2000000 in
set_option maxRecDepth 100000 in
theorem rootR_Be (x r : Nat) (hx : x < fp) (hr : r0N x = r) (hlt : r < fp) (h1 : r * r % fp ≠ x) (h2 : (r * iV % fp) * (r * iV % fp) % fp = x) (h3 : (r * iV % fp) % 2 ≠ 1) : Meets Tryd.prog 43 [.sl 500 0 (dl x) 1] [(500, some ⟨.aggI (dg x), 3, false⟩)] (.tup [.sl 1000 0 (dl ((r * iV % fp))) 1, .bool true]) [(1000, some ⟨.aggI (dg ((r * iV % fp))), 3, true⟩)] := by
  refine meets_of_ev (nt := 31) Tryd.func43 rfl rfl (Nat.le_of_ble_eq_true rfl) ?_
  refine .seq ?_
  refine .region ?_
  refine .q (op_assign rfl) trivial rfl ?_
  refine .q (op_assign rfl) trivial rfl ?_
  refine .nil ?_
  show Ev _ _ _ _ _
  refine .seq ?_
  refine .region ?_
  refine .q (op_move rfl) trivial rfl ?_
  refine .a (op_call (U := [(1000, some ⟨.aggI (dg (fp)), 3, true⟩)]) [] [(1000, 1000)] (P_ev) Tryd.func88 (by kernel_rfl) rfl rfl rfl (trivial) (trivial) (⟨⟨1000, _, rfl, rfl, rfl, rfl, .inl rfl⟩, trivial⟩) (trivial) rfl) trivial rfl ?_
  refine .a (op_call (U := [(1008, some ⟨.aggI (dg (3)), 3, true⟩)]) [] [(1008, 1000)] (small_ev 3 (by omega)) Tryd.func70 (by kernel_rfl) rfl rfl rfl (⟨⟨_, rfl, rfl, rfl⟩, trivial⟩) (trivial) (⟨⟨1000, _, rfl, rfl, rfl, rfl, .inl rfl⟩, trivial⟩) (trivial) rfl) trivial rfl ?_
  refine .a (op_call (U := [(1016, some ⟨.aggI (dg ((fp + 3))), 3, true⟩)]) [(500, 1000), (501, 1008)] [(1016, 1000)] (add_ev (fp) (3) (by have := dl_fp; omega) (Nat.le_trans (dl_le (n := 1) (by decide)) (by decide))) Tryd.func72 (by kernel_rfl) rfl rfl rfl (⟨⟨_, rfl, rfl, rfl⟩, ⟨_, rfl, rfl, rfl⟩, trivial⟩) (⟨⟨_, _, rfl, rfl, rfl, rfl, (fun h => by cases h), rfl⟩, ⟨_, _, rfl, rfl, rfl, rfl, (fun h => by cases h), rfl⟩, trivial⟩) (⟨⟨1000, _, rfl, rfl, rfl, rfl, .inl rfl⟩, trivial⟩) (⟨(fun h => by cases h), (fun h => by cases h), trivial⟩) rfl) trivial rfl ?_
  refine .a (op_call (U := [(1024, some ⟨.aggI (dg (((fp + 3) / 2 ^ 3))), 3, true⟩)]) [(500, 1016)] [(1024, 1000)] (half_ev ((fp + 3)) 3 (by first | exact Nat.le_trans dl_fp (by decide) | exact hd3) (by decide)) Tryd.func74 (by kernel_rfl) rfl rfl rfl (⟨⟨_, rfl, rfl, rfl⟩, ⟨_, rfl, rfl, rfl⟩, trivial⟩) (⟨⟨_, _, rfl, rfl, rfl, rfl, (fun h => by cases h), rfl⟩, trivial⟩) (⟨⟨1000, _, rfl, rfl, rfl, rfl, .inl rfl⟩, trivial⟩) (⟨(fun h => by cases h), trivial⟩) rfl) trivial rfl ?_
  refine .a (op_call (U := [(1032, some ⟨.aggI (dg (r)), 3, true⟩)]) [(500, 500), (501, 1024)] [(1032, 1000)] (pow3_ev x r hx hr) Tryd.func93 (by kernel_rfl) rfl rfl rfl (⟨⟨_, rfl, rfl, rfl⟩, ⟨_, rfl, rfl, rfl⟩, trivial⟩) (⟨⟨_, _, rfl, rfl, rfl, rfl, (fun h => by cases h), rfl⟩, ⟨_, _, rfl, rfl, rfl, rfl, (fun h => by cases h), rfl⟩, trivial⟩) (⟨⟨1000, _, rfl, rfl, rfl, rfl, .inl rfl⟩, trivial⟩) (⟨(fun h => by cases h), (fun h => by cases h), trivial⟩) rfl) trivial rfl ?_
  refine .q (op_assign rfl) trivial rfl ?_
  refine .nil ?_
  show Ev _ _ _ _ _
  refine .seq ?_
  refine .seq ?_
  refine .region ?_
  refine .q (op_move rfl) trivial rfl ?_
  refine .q (op_move rfl) trivial rfl ?_
  refine .a (op_call (U := [(1040, some ⟨.aggI (dg ((r * r % fp))), 3, true⟩)]) [(500, 1032)] [(1040, 1000)] (mulsq05 (r) (by first | assumption | exact Nat.mod_lt _ fp_pos' | exact fmod_lt _ | exact ofV_lt _ | exact fp_pos' | exact pw_lt _ _ _ | decide)) Tryd.func36 (by kernel_rfl) rfl rfl rfl (⟨⟨_, rfl, rfl, rfl⟩, ⟨_, rfl, rfl, rfl⟩, trivial⟩) (⟨⟨_, _, rfl, rfl, rfl, rfl, (fun h => by cases h), rfl⟩, trivial⟩) (⟨⟨1000, _, rfl, rfl, rfl, rfl, .inl rfl⟩, trivial⟩) (⟨(fun h => by cases h), trivial⟩) rfl) trivial rfl ?_
  refine .q (op_move rfl) trivial rfl ?_
  refine .q (op_call (U := []) [(500, 1040), (501, 500)] [] (cmp_ev ((r * r % fp)) (x) (by have := dl_of_fp (a := (r * r % fp)) (by first | assumption | exact Nat.mod_lt _ fp_pos' | exact fmod_lt _ | exact ofV_lt _ | exact fp_pos' | exact pw_lt _ _ _ | decide); omega) (by have := dl_of_fp (a := x) (by first | assumption | exact Nat.mod_lt _ fp_pos' | exact fmod_lt _ | exact ofV_lt _ | exact fp_pos' | exact pw_lt _ _ _ | decide); omega)) Tryd.func39 (by kernel_rfl) rfl rfl rfl (⟨⟨_, rfl, rfl, rfl⟩, ⟨_, rfl, rfl, rfl⟩, trivial⟩) (⟨⟨_, _, rfl, rfl, rfl, rfl, (fun h => by cases h), rfl⟩, ⟨_, _, rfl, rfl, rfl, rfl, (fun h => by cases h), rfl⟩, trivial⟩) (trivial) (⟨(fun h => by cases h), (fun h => by cases h), trivial⟩) rfl) trivial rfl ?_
  refine .q (op_cmpI rfl rfl rfl) trivial rfl ?_
  refine .nil ?_
  show Ev _ _ _ _ _
  refine .cond_true rfl (by simp [cmp_zero, h1]) ?_
  refine .region ?_
  refine .q (op_move rfl) trivial rfl ?_
  refine .a (op_call (U := [(1048, some ⟨.aggI (dg (iV)), 3, true⟩)]) [] [(1048, 1000)] (minus1R_ev) Tryd.func94 (by kernel_rfl) rfl rfl rfl (trivial) (trivial) (⟨⟨1000, _, rfl, rfl, rfl, rfl, .inl rfl⟩, trivial⟩) (trivial) rfl) trivial rfl ?_
  refine .a (op_call (U := [(1056, some ⟨.aggI (dg ((r * iV % fp))), 3, true⟩)]) [(500, 1032), (501, 1048)] [(1056, 1000)] (mul05 (r) (iV) (by first | assumption | exact Nat.mod_lt _ fp_pos' | exact fmod_lt _ | exact ofV_lt _ | exact fp_pos' | exact pw_lt _ _ _ | decide) (by first | assumption | exact Nat.mod_lt _ fp_pos' | exact fmod_lt _ | exact ofV_lt _ | exact fp_pos' | exact pw_lt _ _ _ | decide)) Tryd.func36 (by kernel_rfl) rfl rfl rfl (⟨⟨_, rfl, rfl, rfl⟩, ⟨_, rfl, rfl, rfl⟩, trivial⟩) (⟨⟨_, _, rfl, rfl, rfl, rfl, (fun h => by cases h), rfl⟩, ⟨_, _, rfl, rfl, rfl, rfl, (fun h => by cases h), rfl⟩, trivial⟩) (⟨⟨1000, _, rfl, rfl, rfl, rfl, .inl rfl⟩, trivial⟩) (⟨(fun h => by cases h), (fun h => by cases h), trivial⟩) rfl) trivial rfl ?_
  refine .q (op_assign rfl) trivial rfl ?_
  refine .nil ?_
  show Ev _ _ _ _ _
  refine .seq ?_
  refine .seq ?_
  refine .region ?_
  refine .q (op_move rfl) trivial rfl ?_
  refine .q (op_move rfl) trivial rfl ?_
  refine .a (op_call (U := [(1064, some ⟨.aggI (dg (((r * iV % fp) * (r * iV % fp) % fp))), 3, true⟩)]) [(500, 1056)] [(1064, 1000)] (mulsq05 ((r * iV % fp)) (by first | assumption | exact Nat.mod_lt _ fp_pos' | exact fmod_lt _ | exact ofV_lt _ | exact fp_pos' | exact pw_lt _ _ _ | decide)) Tryd.func36 (by kernel_rfl) rfl rfl rfl (⟨⟨_, rfl, rfl, rfl⟩, ⟨_, rfl, rfl, rfl⟩, trivial⟩) (⟨⟨_, _, rfl, rfl, rfl, rfl, (fun h => by cases h), rfl⟩, trivial⟩) (⟨⟨1000, _, rfl, rfl, rfl, rfl, .inl rfl⟩, trivial⟩) (⟨(fun h => by cases h), trivial⟩) rfl) trivial rfl ?_
  refine .q (op_move rfl) trivial rfl ?_
  refine .q (op_call (U := []) [(500, 1064), (501, 500)] [] (cmp_ev (((r * iV % fp) * (r * iV % fp) % fp)) (x) (by have := dl_of_fp (a := ((r * iV % fp) * (r * iV % fp) % fp)) (by first | assumption | exact Nat.mod_lt _ fp_pos' | exact fmod_lt _ | exact ofV_lt _ | exact fp_pos' | exact pw_lt _ _ _ | decide); omega) (by have := dl_of_fp (a := x) (by first | assumption | exact Nat.mod_lt _ fp_pos' | exact fmod_lt _ | exact ofV_lt _ | exact fp_pos' | exact pw_lt _ _ _ | decide); omega)) Tryd.func39 (by kernel_rfl) rfl rfl rfl (⟨⟨_, rfl, rfl, rfl⟩, ⟨_, rfl, rfl, rfl⟩, trivial⟩) (⟨⟨_, _, rfl, rfl, rfl, rfl, (fun h => by cases h), rfl⟩, ⟨_, _, rfl, rfl, rfl, rfl, (fun h => by cases h), rfl⟩, trivial⟩) (trivial) (⟨(fun h => by cases h), (fun h => by cases h), trivial⟩) rfl) trivial rfl ?_
  refine .q (op_cmpI rfl rfl rfl) trivial rfl ?_
  refine .nil ?_
  show Ev _ _ _ _ _
  refine .cond_false rfl (by have h2b := h2; simp at h2b; simp [cmp_zero, h2b]) ?_
  refine .skip ?_
  show Ev _ _ _ _ _
  refine .seq ?_
  refine .seq ?_
  refine .region ?_
  refine .q (op_move rfl) trivial rfl ?_
  refine .q (op_call (U := []) [(500, 1056)] [] (odd05 ((r * iV % fp)) (by have := dl_of_fp (a := (r * iV % fp)) (by first | assumption | exact Nat.mod_lt _ fp_pos' | exact fmod_lt _ | exact ofV_lt _ | exact fp_pos' | exact pw_lt _ _ _ | decide); omega)) Tryd.func95 (by kernel_rfl) rfl rfl rfl (⟨⟨_, rfl, rfl, rfl⟩, trivial⟩) (⟨⟨_, _, rfl, rfl, rfl, rfl, (fun h => by cases h), rfl⟩, trivial⟩) (trivial) (⟨(fun h => by cases h), trivial⟩) rfl) trivial rfl ?_
  refine .nil ?_
  show Ev _ _ _ _ _
  refine .cond_false rfl (by simp [h3]) ?_
  refine .skip ?_
  show Ev _ _ _ _ _
  refine .seq ?_
  refine .region ?_
  refine .q (op_move rfl) trivial rfl ?_
  refine .q (op_assign rfl) trivial rfl ?_
  refine .q (op_assign rfl) trivial rfl ?_
  refine .nil ?_
  show Ev _ _ _ _ _
  refine Ev.weak (st2 := ⟨[(2, .sl 1000 0 (dl ((r * iV % fp))) 1), (3, .bool true)], [(1000, some ⟨.aggI (dg ((r * iV % fp))), 3, true⟩)], 1008⟩) (StLe.mk [(1000, 1056)] rfl rfl ⟨⟨_, rfl, by (show AV.sl 1000 0 (dl ((r * iV % fp))) 1 = _; rfl), rfl⟩, ⟨_, rfl, by rfl, rfl⟩, trivial⟩ ⟨⟨_, _, rfl, rfl, by (show AV.aggI (dg ((r * iV % fp))) = _; rfl), rfl, id, rfl⟩, trivial⟩) ?_
  refine .ret ?_
  show RetOk _ _ _ _ _ _ _
  exact ret2v rfl (.inl rfl) rfl rfl rfl rfl ⟨rfl, trivial⟩
set_option maxHeartbeats 2000000 in
set_option maxRecDepth 100000 in
theorem rootR_Bo (x r : Nat) (hx : x < fp) (hr : r0N x = r) (hlt : r < fp) (h1 : r * r % fp ≠ x) (h2 : (r * iV % fp) * (r * iV % fp) % fp = x) (h3 : (r * iV % fp) % 2 = 1) : Meets Tryd.prog 43 [.sl 500 0 (dl x) 1] [(500, some ⟨.aggI (dg x), 3, false⟩)] (.tup [.sl 1000 0 (dl (((fp - (r * iV % fp)) % fp))) 1, .bool true]) [(1000, some ⟨.aggI (dg (((fp - (r * iV % fp)) % fp))), 3, true⟩)] := by
  refine meets_of_ev (nt := 31) Tryd.func43 rfl rfl (Nat.le_of_ble_eq_true rfl) ?_
  refine .seq ?_
  refine .region ?_
  refine .q (op_assign rfl) trivial rfl ?_
  refine .q (op_assign rfl) trivial rfl ?_
  refine .nil ?_
  show Ev _ _ _ _ _
  refine .seq ?_
  refine .region ?_
  refine .q (op_move rfl) trivial rfl ?_
  refine .a (op_call (U := [(1000, some ⟨.aggI (dg (fp)), 3, true⟩)]) [] [(1000, 1000)] (P_ev) Tryd.func88 (by kernel_rfl) rfl rfl rfl (trivial) (trivial) (⟨⟨1000, _, rfl, rfl, rfl, rfl, .inl rfl⟩, trivial⟩) (trivial) rfl) trivial rfl ?_
  refine .a (op_call (U := [(1008, some ⟨.aggI (dg (3)), 3, true⟩)]) [] [(1008, 1000)] (small_ev 3 (by omega)) Tryd.func70 (by kernel_rfl) rfl rfl rfl (⟨⟨_, rfl, rfl, rfl⟩, trivial⟩) (trivial) (⟨⟨1000, _, rfl, rfl, rfl, rfl, .inl rfl⟩, trivial⟩) (trivial) rfl) trivial rfl ?_
  refine .a (op_call (U := [(1016, some ⟨.aggI (dg ((fp + 3))), 3, true⟩)]) [(500, 1000), (501, 1008)] [(1016, 1000)] (add_ev (fp) (3) (by have := dl_fp; omega) (Nat.le_trans (dl_le (n := 1) (by decide)) (by decide))) Tryd.func72 (by kernel_rfl) rfl rfl rfl (⟨⟨_, rfl, rfl, rfl⟩, ⟨_, rfl, rfl, rfl⟩, trivial⟩) (⟨⟨_, _, rfl, rfl, rfl, rfl, (fun h => by cases h), rfl⟩, ⟨_, _, rfl, rfl, rfl, rfl, (fun h => by cases h), rfl⟩, trivial⟩) (⟨⟨1000, _, rfl, rfl, rfl, rfl, .inl rfl⟩, trivial⟩) (⟨(fun h => by cases h), (fun h => by cases h), trivial⟩) rfl) trivial rfl ?_
  refine .a (op_call (U := [(1024, some ⟨.aggI (dg (((fp + 3) / 2 ^ 3))), 3, true⟩)]) [(500, 1016)] [(1024, 1000)] (half_ev ((fp + 3)) 3 (by first | exact Nat.le_trans dl_fp (by decide) | exact hd3) (by decide)) Tryd.func74 (by kernel_rfl) rfl rfl rfl (⟨⟨_, rfl, rfl, rfl⟩, ⟨_, rfl, rfl, rfl⟩, trivial⟩) (⟨⟨_, _, rfl, rfl, rfl, rfl, (fun h => by cases h), rfl⟩, trivial⟩) (⟨⟨1000, _, rfl, rfl, rfl, rfl, .inl rfl⟩, trivial⟩) (⟨(fun h => by cases h), trivial⟩) rfl) trivial rfl ?_
  refine .a (op_call (U := [(1032, some ⟨.aggI (dg (r)), 3, true⟩)]) [(500, 500), (501, 1024)] [(1032, 1000)] (pow3_ev x r hx hr) Tryd.func93 (by kernel_rfl) rfl rfl rfl (⟨⟨_, rfl, rfl, rfl⟩, ⟨_, rfl, rfl, rfl⟩, trivial⟩) (⟨⟨_, _, rfl, rfl, rfl, rfl, (fun h => by cases h), rfl⟩, ⟨_, _, rfl, rfl, rfl, rfl, (fun h => by cases h), rfl⟩, trivial⟩) (⟨⟨1000, _, rfl, rfl, rfl, rfl, .inl rfl⟩, trivial⟩) (⟨(fun h => by cases h), (fun h => by cases h), trivial⟩) rfl) trivial rfl ?_
  refine .q (op_assign rfl) trivial rfl ?_
  refine .nil ?_
  show Ev _ _ _ _ _
  refine .seq ?_
  refine .seq ?_
  refine .region ?_
  refine .q (op_move rfl) trivial rfl ?_
  refine .q (op_move rfl) trivial rfl ?_
  refine .a (op_call (U := [(1040, some ⟨.aggI (dg ((r * r % fp))), 3, true⟩)]) [(500, 1032)] [(1040, 1000)] (mulsq05 (r) (by first | assumption | exact Nat.mod_lt _ fp_pos' | exact fmod_lt _ | exact ofV_lt _ | exact fp_pos' | exact pw_lt _ _ _ | decide)) Tryd.func36 (by kernel_rfl) rfl rfl rfl (⟨⟨_, rfl, rfl, rfl⟩, ⟨_, rfl, rfl, rfl⟩, trivial⟩) (⟨⟨_, _, rfl, rfl, rfl, rfl, (fun h => by cases h), rfl⟩, trivial⟩) (⟨⟨1000, _, rfl, rfl, rfl, rfl, .inl rfl⟩, trivial⟩) (⟨(fun h => by cases h), trivial⟩) rfl) trivial rfl ?_
  refine .q (op_move rfl) trivial rfl ?_
  refine .q (op_call (U := []) [(500, 1040), (501, 500)] [] (cmp_ev ((r * r % fp)) (x) (by have := dl_of_fp (a := (r * r % fp)) (by first | assumption | exact Nat.mod_lt _ fp_pos' | exact fmod_lt _ | exact ofV_lt _ | exact fp_pos' | exact pw_lt _ _ _ | decide); omega) (by have := dl_of_fp (a := x) (by first | assumption | exact Nat.mod_lt _ fp_pos' | exact fmod_lt _ | exact ofV_lt _ | exact fp_pos' | exact pw_lt _ _ _ | decide); omega)) Tryd.func39 (by kernel_rfl) rfl rfl rfl (⟨⟨_, rfl, rfl, rfl⟩, ⟨_, rfl, rfl, rfl⟩, trivial⟩) (⟨⟨_, _, rfl, rfl, rfl, rfl, (fun h => by cases h), rfl⟩, ⟨_, _, rfl, rfl, rfl, rfl, (fun h => by cases h), rfl⟩, trivial⟩) (trivial) (⟨(fun h => by cases h), (fun h => by cases h), trivial⟩) rfl) trivial rfl ?_
  refine .q (op_cmpI rfl rfl rfl) trivial rfl ?_
  refine .nil ?_
  show Ev _ _ _ _ _
  refine .cond_true rfl (by simp [cmp_zero, h1]) ?_
  refine .region ?_
  refine .q (op_move rfl) trivial rfl ?_
  refine .a (op_call (U := [(1048, some ⟨.aggI (dg (iV)), 3, true⟩)]) [] [(1048, 1000)] (minus1R_ev) Tryd.func94 (by kernel_rfl) rfl rfl rfl (trivial) (trivial) (⟨⟨1000, _, rfl, rfl, rfl, rfl, .inl rfl⟩, trivial⟩) (trivial) rfl) trivial rfl ?_
  refine .a (op_call (U := [(1056, some ⟨.aggI (dg ((r * iV % fp))), 3, true⟩)]) [(500, 1032), (501, 1048)] [(1056, 1000)] (mul05 (r) (iV) (by first | assumption | exact Nat.mod_lt _ fp_pos' | exact fmod_lt _ | exact ofV_lt _ | exact fp_pos' | exact pw_lt _ _ _ | decide) (by first | assumption | exact Nat.mod_lt _ fp_pos' | exact fmod_lt _ | exact ofV_lt _ | exact fp_pos' | exact pw_lt _ _ _ | decide)) Tryd.func36 (by kernel_rfl) rfl rfl rfl (⟨⟨_, rfl, rfl, rfl⟩, ⟨_, rfl, rfl, rfl⟩, trivial⟩) (⟨⟨_, _, rfl, rfl, rfl, rfl, (fun h => by cases h), rfl⟩, ⟨_, _, rfl, rfl, rfl, rfl, (fun h => by cases h), rfl⟩, trivial⟩) (⟨⟨1000, _, rfl, rfl, rfl, rfl, .inl rfl⟩, trivial⟩) (⟨(fun h => by cases h), (fun h => by cases h), trivial⟩) rfl) trivial rfl ?_
  refine .q (op_assign rfl) trivial rfl ?_
  refine .nil ?_
  show Ev _ _ _ _ _
  refine .seq ?_
  refine .seq ?_
  refine .region ?_
  refine .q (op_move rfl) trivial rfl ?_
  refine .q (op_move rfl) trivial rfl ?_
  refine .a (op_call (U := [(1064, some ⟨.aggI (dg (((r * iV % fp) * (r * iV % fp) % fp))), 3, true⟩)]) [(500, 1056)] [(1064, 1000)] (mulsq05 ((r * iV % fp)) (by first | assumption | exact Nat.mod_lt _ fp_pos' | exact fmod_lt _ | exact ofV_lt _ | exact fp_pos' | exact pw_lt _ _ _ | decide)) Tryd.func36 (by kernel_rfl) rfl rfl rfl (⟨⟨_, rfl, rfl, rfl⟩, ⟨_, rfl, rfl, rfl⟩, trivial⟩) (⟨⟨_, _, rfl, rfl, rfl, rfl, (fun h => by cases h), rfl⟩, trivial⟩) (⟨⟨1000, _, rfl, rfl, rfl, rfl, .inl rfl⟩, trivial⟩) (⟨(fun h => by cases h), trivial⟩) rfl) trivial rfl ?_
  refine .q (op_move rfl) trivial rfl ?_
  refine .q (op_call (U := []) [(500, 1064), (501, 500)] [] (cmp_ev (((r * iV % fp) * (r * iV % fp) % fp)) (x) (by have := dl_of_fp (a := ((r * iV % fp) * (r * iV % fp) % fp)) (by first | assumption | exact Nat.mod_lt _ fp_pos' | exact fmod_lt _ | exact ofV_lt _ | exact fp_pos' | exact pw_lt _ _ _ | decide); omega) (by have := dl_of_fp (a := x) (by first | assumption | exact Nat.mod_lt _ fp_pos' | exact fmod_lt _ | exact ofV_lt _ | exact fp_pos' | exact pw_lt _ _ _ | decide); omega)) Tryd.func39 (by kernel_rfl) rfl rfl rfl (⟨⟨_, rfl, rfl, rfl⟩, ⟨_, rfl, rfl, rfl⟩, trivial⟩) (⟨⟨_, _, rfl, rfl, rfl, rfl, (fun h => by cases h), rfl⟩, ⟨_, _, rfl, rfl, rfl, rfl, (fun h => by cases h), rfl⟩, trivial⟩) (trivial) (⟨(fun h => by cases h), (fun h => by cases h), trivial⟩) rfl) trivial rfl ?_
  refine .q (op_cmpI rfl rfl rfl) trivial rfl ?_
  refine .nil ?_
  show Ev _ _ _ _ _
  refine .cond_false rfl (by have h2b := h2; simp at h2b; simp [cmp_zero, h2b]) ?_
  refine .skip ?_
  show Ev _ _ _ _ _
  refine .seq ?_
  refine .seq ?_
  refine .region ?_
  refine .q (op_move rfl) trivial rfl ?_
  refine .q (op_call (U := []) [(500, 1056)] [] (odd05 ((r * iV % fp)) (by have := dl_of_fp (a := (r * iV % fp)) (by first | assumption | exact Nat.mod_lt _ fp_pos' | exact fmod_lt _ | exact ofV_lt _ | exact fp_pos' | exact pw_lt _ _ _ | decide); omega)) Tryd.func95 (by kernel_rfl) rfl rfl rfl (⟨⟨_, rfl, rfl, rfl⟩, trivial⟩) (⟨⟨_, _, rfl, rfl, rfl, rfl, (fun h => by cases h), rfl⟩, trivial⟩) (trivial) (⟨(fun h => by cases h), trivial⟩) rfl) trivial rfl ?_
  refine .nil ?_
  show Ev _ _ _ _ _
  refine .cond_true rfl (by simp [h3]) ?_
  refine .region ?_
  refine .q (op_move rfl) trivial rfl ?_
  refine .a (op_call (U := [(1072, some ⟨.aggI (dg (((fp - (r * iV % fp)) % fp))), 3, true⟩)]) [(501, 1056)] [(1072, 1000)] (subn05 ((r * iV % fp)) (by first | assumption | exact Nat.mod_lt _ fp_pos' | exact fmod_lt _ | exact ofV_lt _ | exact fp_pos' | exact pw_lt _ _ _ | decide)) Tryd.func33 (by kernel_rfl) rfl rfl rfl (⟨⟨_, rfl, rfl, rfl⟩, ⟨_, rfl, rfl, rfl⟩, trivial⟩) (⟨⟨_, _, rfl, rfl, rfl, rfl, (fun h => by cases h), rfl⟩, trivial⟩) (⟨⟨1000, _, rfl, rfl, rfl, rfl, .inl rfl⟩, trivial⟩) (⟨(fun h => by cases h), trivial⟩) rfl) trivial rfl ?_
  refine .q (op_assign rfl) trivial rfl ?_
  refine .nil ?_
  show Ev _ _ _ _ _
  refine .seq ?_
  refine .region ?_
  refine .q (op_move rfl) trivial rfl ?_
  refine .q (op_assign rfl) trivial rfl ?_
  refine .q (op_assign rfl) trivial rfl ?_
  refine .nil ?_
  show Ev _ _ _ _ _
  refine Ev.weak (st2 := ⟨[(2, .sl 1000 0 (dl (((fp - (r * iV % fp)) % fp))) 1), (3, .bool true)], [(1000, some ⟨.aggI (dg (((fp - (r * iV % fp)) % fp))), 3, true⟩)], 1008⟩) (StLe.mk [(1000, 1072)] rfl rfl ⟨⟨_, rfl, by (show AV.sl 1000 0 (dl (((fp - (r * iV % fp)) % fp))) 1 = _; rfl), rfl⟩, ⟨_, rfl, by rfl, rfl⟩, trivial⟩ ⟨⟨_, _, rfl, rfl, by (show AV.aggI (dg (((fp - (r * iV % fp)) % fp))) = _; rfl), rfl, id, rfl⟩, trivial⟩) ?_
  refine .ret ?_
  show RetOk _ _ _ _ _ _ _
  exact ret2v rfl (.inl rfl) rfl rfl rfl rfl ⟨rfl, trivial⟩
set_option maxHeartbeats 2000000 in
set_option maxRecDepth 100000 in
theorem rootR_C (x r : Nat) (hx : x < fp) (hr : r0N x = r) (hlt : r < fp) (h1 : r * r % fp ≠ x) (h2 : (r * iV % fp) * (r * iV % fp) % fp ≠ x) : Meets Tryd.prog 43 [.sl 500 0 (dl x) 1] [(500, some ⟨.aggI (dg x), 3, false⟩)] (.tup [.nilsl, .bool false]) [] := by
  refine meets_of_ev (nt := 31) Tryd.func43 rfl rfl (Nat.le_of_ble_eq_true rfl) ?_
  refine .seq ?_
  refine .region ?_
  refine .q (op_assign rfl) trivial rfl ?_
  refine .q (op_assign rfl) trivial rfl ?_
  refine .nil ?_
  show Ev _ _ _ _ _
  refine .seq ?_
  refine .region ?_
  refine .q (op_move rfl) trivial rfl ?_
  refine .a (op_call (U := [(1000, some ⟨.aggI (dg (fp)), 3, true⟩)]) [] [(1000, 1000)] (P_ev) Tryd.func88 (by kernel_rfl) rfl rfl rfl (trivial) (trivial) (⟨⟨1000, _, rfl, rfl, rfl, rfl, .inl rfl⟩, trivial⟩) (trivial) rfl) trivial rfl ?_
  refine .a (op_call (U := [(1008, some ⟨.aggI (dg (3)), 3, true⟩)]) [] [(1008, 1000)] (small_ev 3 (by omega)) Tryd.func70 (by kernel_rfl) rfl rfl rfl (⟨⟨_, rfl, rfl, rfl⟩, trivial⟩) (trivial) (⟨⟨1000, _, rfl, rfl, rfl, rfl, .inl rfl⟩, trivial⟩) (trivial) rfl) trivial rfl ?_
  refine .a (op_call (U := [(1016, some ⟨.aggI (dg ((fp + 3))), 3, true⟩)]) [(500, 1000), (501, 1008)] [(1016, 1000)] (add_ev (fp) (3) (by have := dl_fp; omega) (Nat.le_trans (dl_le (n := 1) (by decide)) (by decide))) Tryd.func72 (by kernel_rfl) rfl rfl rfl (⟨⟨_, rfl, rfl, rfl⟩, ⟨_, rfl, rfl, rfl⟩, trivial⟩) (⟨⟨_, _, rfl, rfl, rfl, rfl, (fun h => by cases h), rfl⟩, ⟨_, _, rfl, rfl, rfl, rfl, (fun h => by cases h), rfl⟩, trivial⟩) (⟨⟨1000, _, rfl, rfl, rfl, rfl, .inl rfl⟩, trivial⟩) (⟨(fun h => by cases h), (fun h => by cases h), trivial⟩) rfl) trivial rfl ?_
  refine .a (op_call (U := [(1024, some ⟨.aggI (dg (((fp + 3) / 2 ^ 3))), 3, true⟩)]) [(500, 1016)] [(1024, 1000)] (half_ev ((fp + 3)) 3 (by first | exact Nat.le_trans dl_fp (by decide) | exact hd3) (by decide)) Tryd.func74 (by kernel_rfl) rfl rfl rfl (⟨⟨_, rfl, rfl, rfl⟩, ⟨_, rfl, rfl, rfl⟩, trivial⟩) (⟨⟨_, _, rfl, rfl, rfl, rfl, (fun h => by cases h), rfl⟩, trivial⟩) (⟨⟨1000, _, rfl, rfl, rfl, rfl, .inl rfl⟩, trivial⟩) (⟨(fun h => by cases h), trivial⟩) rfl) trivial rfl ?_
  refine .a (op_call (U := [(1032, some ⟨.aggI (dg (r)), 3, true⟩)]) [(500, 500), (501, 1024)] [(1032, 1000)] (pow3_ev x r hx hr) Tryd.func93 (by kernel_rfl) rfl rfl rfl (⟨⟨_, rfl, rfl, rfl⟩, ⟨_, rfl, rfl, rfl⟩, trivial⟩) (⟨⟨_, _, rfl, rfl, rfl, rfl, (fun h => by cases h), rfl⟩, ⟨_, _, rfl, rfl, rfl, rfl, (fun h => by cases h), rfl⟩, trivial⟩) (⟨⟨1000, _, rfl, rfl, rfl, rfl, .inl rfl⟩, trivial⟩) (⟨(fun h => by cases h), (fun h => by cases h), trivial⟩) rfl) trivial rfl ?_
  refine .q (op_assign rfl) trivial rfl ?_
  refine .nil ?_
  show Ev _ _ _ _ _
  refine .seq ?_
  refine .seq ?_
  refine .region ?_
  refine .q (op_move rfl) trivial rfl ?_
  refine .q (op_move rfl) trivial rfl ?_
  refine .a (op_call (U := [(1040, some ⟨.aggI (dg ((r * r % fp))), 3, true⟩)]) [(500, 1032)] [(1040, 1000)] (mulsq05 (r) (by first | assumption | exact Nat.mod_lt _ fp_pos' | exact fmod_lt _ | exact ofV_lt _ | exact fp_pos' | exact pw_lt _ _ _ | decide)) Tryd.func36 (by kernel_rfl) rfl rfl rfl (⟨⟨_, rfl, rfl, rfl⟩, ⟨_, rfl, rfl, rfl⟩, trivial⟩) (⟨⟨_, _, rfl, rfl, rfl, rfl, (fun h => by cases h), rfl⟩, trivial⟩) (⟨⟨1000, _, rfl, rfl, rfl, rfl, .inl rfl⟩, trivial⟩) (⟨(fun h => by cases h), trivial⟩) rfl) trivial rfl ?_
  refine .q (op_move rfl) trivial rfl ?_
  refine .q (op_call (U := []) [(500, 1040), (501, 500)] [] (cmp_ev ((r * r % fp)) (x) (by have := dl_of_fp (a := (r * r % fp)) (by first | assumption | exact Nat.mod_lt _ fp_pos' | exact fmod_lt _ | exact ofV_lt _ | exact fp_pos' | exact pw_lt _ _ _ | decide); omega) (by have := dl_of_fp (a := x) (by first | assumption | exact Nat.mod_lt _ fp_pos' | exact fmod_lt _ | exact ofV_lt _ | exact fp_pos' | exact pw_lt _ _ _ | decide); omega)) Tryd.func39 (by kernel_rfl) rfl rfl rfl (⟨⟨_, rfl, rfl, rfl⟩, ⟨_, rfl, rfl, rfl⟩, trivial⟩) (⟨⟨_, _, rfl, rfl, rfl, rfl, (fun h => by cases h), rfl⟩, ⟨_, _, rfl, rfl, rfl, rfl, (fun h => by cases h), rfl⟩, trivial⟩) (trivial) (⟨(fun h => by cases h), (fun h => by cases h), trivial⟩) rfl) trivial rfl ?_
  refine .q (op_cmpI rfl rfl rfl) trivial rfl ?_
  refine .nil ?_
  show Ev _ _ _ _ _
  refine .cond_true rfl (by simp [cmp_zero, h1]) ?_
  refine .region ?_
  refine .q (op_move rfl) trivial rfl ?_
  refine .a (op_call (U := [(1048, some ⟨.aggI (dg (iV)), 3, true⟩)]) [] [(1048, 1000)] (minus1R_ev) Tryd.func94 (by kernel_rfl) rfl rfl rfl (trivial) (trivial) (⟨⟨1000, _, rfl, rfl, rfl, rfl, .inl rfl⟩, trivial⟩) (trivial) rfl) trivial rfl ?_
  refine .a (op_call (U := [(1056, some ⟨.aggI (dg ((r * iV % fp))), 3, true⟩)]) [(500, 1032), (501, 1048)] [(1056, 1000)] (mul05 (r) (iV) (by first | assumption | exact Nat.mod_lt _ fp_pos' | exact fmod_lt _ | exact ofV_lt _ | exact fp_pos' | exact pw_lt _ _ _ | decide) (by first | assumption | exact Nat.mod_lt _ fp_pos' | exact fmod_lt _ | exact ofV_lt _ | exact fp_pos' | exact pw_lt _ _ _ | decide)) Tryd.func36 (by kernel_rfl) rfl rfl rfl (⟨⟨_, rfl, rfl, rfl⟩, ⟨_, rfl, rfl, rfl⟩, trivial⟩) (⟨⟨_, _, rfl, rfl, rfl, rfl, (fun h => by cases h), rfl⟩, ⟨_, _, rfl, rfl, rfl, rfl, (fun h => by cases h), rfl⟩, trivial⟩) (⟨⟨1000, _, rfl, rfl, rfl, rfl, .inl rfl⟩, trivial⟩) (⟨(fun h => by cases h), (fun h => by cases h), trivial⟩) rfl) trivial rfl ?_
  refine .q (op_assign rfl) trivial rfl ?_
  refine .nil ?_
  show Ev _ _ _ _ _
  refine .seq ?_
  refine .seq ?_
  refine .region ?_
  refine .q (op_move rfl) trivial rfl ?_
  refine .q (op_move rfl) trivial rfl ?_
  refine .a (op_call (U := [(1064, some ⟨.aggI (dg (((r * iV % fp) * (r * iV % fp) % fp))), 3, true⟩)]) [(500, 1056)] [(1064, 1000)] (mulsq05 ((r * iV % fp)) (by first | assumption | exact Nat.mod_lt _ fp_pos' | exact fmod_lt _ | exact ofV_lt _ | exact fp_pos' | exact pw_lt _ _ _ | decide)) Tryd.func36 (by kernel_rfl) rfl rfl rfl (⟨⟨_, rfl, rfl, rfl⟩, ⟨_, rfl, rfl, rfl⟩, trivial⟩) (⟨⟨_, _, rfl, rfl, rfl, rfl, (fun h => by cases h), rfl⟩, trivial⟩) (⟨⟨1000, _, rfl, rfl, rfl, rfl, .inl rfl⟩, trivial⟩) (⟨(fun h => by cases h), trivial⟩) rfl) trivial rfl ?_
  refine .q (op_move rfl) trivial rfl ?_
  refine .q (op_call (U := []) [(500, 1064), (501, 500)] [] (cmp_ev (((r * iV % fp) * (r * iV % fp) % fp)) (x) (by have := dl_of_fp (a := ((r * iV % fp) * (r * iV % fp) % fp)) (by first | assumption | exact Nat.mod_lt _ fp_pos' | exact fmod_lt _ | exact ofV_lt _ | exact fp_pos' | exact pw_lt _ _ _ | decide); omega) (by have := dl_of_fp (a := x) (by first | assumption | exact Nat.mod_lt _ fp_pos' | exact fmod_lt _ | exact ofV_lt _ | exact fp_pos' | exact pw_lt _ _ _ | decide); omega)) Tryd.func39 (by kernel_rfl) rfl rfl rfl (⟨⟨_, rfl, rfl, rfl⟩, ⟨_, rfl, rfl, rfl⟩, trivial⟩) (⟨⟨_, _, rfl, rfl, rfl, rfl, (fun h => by cases h), rfl⟩, ⟨_, _, rfl, rfl, rfl, rfl, (fun h => by cases h), rfl⟩, trivial⟩) (trivial) (⟨(fun h => by cases h), (fun h => by cases h), trivial⟩) rfl) trivial rfl ?_
  refine .q (op_cmpI rfl rfl rfl) trivial rfl ?_
  refine .nil ?_
  show Ev _ _ _ _ _
  refine .cond_true rfl (by have h2b := h2; simp at h2b; simp [cmp_zero, h2b]) ?_
  refine .seq ?_
  refine .region ?_
  refine .q (op_assign rfl) trivial rfl ?_
  refine .q (op_assign rfl) trivial rfl ?_
  refine .nil ?_
  show Ev _ _ _ _ _
  refine .ret ?_
  show RetOk _ _ _ _ _ _ _
  exact ret2v rfl (.inl rfl) rfl rfl rfl rfl trivial
end Go.Proofs.YtjhpelajhkhlcaaDoor
namespace Go.Proofs.YtjhpelajhkhlcaaDoor
open Go.RowKit
def HPM (e e2 : Nat) : List (Nat × Option ABlk) := [(20, some ⟨.agg64 primeL, e, false⟩), (21, some ⟨.agg64 minusL, e2, false⟩)]
theorem fl_ne (a b : Nat) (ha : a < fp) (hb : b < fp) : (fl a != fl b) = decide (a ≠ b) := by
  unfold bne; rw [fl_eq a b ha hb]; simp
set_option maxHeartbeats 2000000 in
set_option maxRecDepth 100000 in
theorem froot_P (e e2 u v c r q : Nat) (hu : u < fp) (hv : v < fp) (hcl : c < fp) (hrl : r < fp) (hql : q < fp) (hc : v * v % fp * v % fp = c) (hr : (u * c % fp) * (((u * (c * c % fp) % fp) * v % fp) ^ ((fp - 5) / 8) % fp) % fp = r) (hq : r * r % fp * v % fp = q) (h1 : q = (fp - u) % fp) : Meets Tryd.prog 41 [.agg64 (fl u), .agg64 (fl v)] (HPM e e2) (.tup [.agg64 (fl (if decide ((r * iV % fp) % 2 = 1) then (fp - (r * iV % fp)) % fp else (r * iV % fp))), .bool true]) [] := by
  refine meets_of_ev (nt := 47) Tryd.func41 rfl rfl (Nat.le_of_ble_eq_true rfl) ?_
  refine .seq ?_
  refine .region ?_
  refine .a (op_boxRow rfl rfl) trivial rfl ?_
  refine .a (op_boxRow rfl rfl) trivial rfl ?_
  refine .a (op_allocRow zero48 rel_zero48 rfl) trivial rfl ?_
  refine .q (op_assign rfl) trivial rfl ?_
  refine .nil ?_
  show Ev _ _ _ _ _
  refine .seq ?_
  refine .drawn [[], [0], [], [0, 1, 2], [], [0, 1, 2, 3, 4]] [0, 1, 2, 3, 4, 5] [5] (by kernel_rfl) (by kernel_rfl) rfl ?_
  show DK _ [0, 1, 2, 3, 4, 5] _ _ _
  refine .q rfl (op_loadRow Tryd.underlying48 rfl sz48 rfl rfl rfl (rfl)) trivial ?_
  refine .q rfl (op_call (U := []) [] [] (fsquare_ev _ (by first | assumption | exact fmod_lt _ | exact fp_pos | decide)) Tryd.func37 (by kernel_rfl) rfl rfl rfl (⟨⟨_, rfl, rfl, rfl⟩, trivial⟩) (trivial) (trivial) (trivial) rfl) trivial ?_
  refine .q rfl (op_loadRow Tryd.underlying48 rfl sz48 rfl rfl rfl (rfl)) trivial ?_
  refine .q rfl (op_call (U := []) [] [] (fmul_ev _ _ (by first | assumption | exact fmod_lt _ | exact fp_pos | decide) (by first | assumption | exact fmod_lt _ | exact fp_pos | decide)) Tryd.func35 (by kernel_rfl) rfl rfl rfl (⟨⟨_, rfl, rfl, rfl⟩, ⟨_, rfl, rfl, rfl⟩, trivial⟩) (trivial) (trivial) (trivial) rfl) trivial ?_
  refine .as (.agg64 (fl c)) (congrArg (fun z => AV.agg64 (fl z)) hc) ?_
  refine .a rfl (op_allocRow zero48 rel_zero48 rfl) trivial rfl rfl ?_
  refine .w rfl (op_storeRow sz48 rfl rfl rfl rfl rfl (rfl) (rfl)) trivial rfl rfl ?_
  refine .nil ?_
  show Ev _ _ _ _ _
  refine .seq ?_
  refine .drawn [[], [], [0, 1], [], [], [0, 1, 2, 4], [0, 1, 2, 3, 4, 5], [], [0, 1, 2, 3, 4, 5, 6, 7], [0, 1, 2, 3, 4, 5, 6, 7, 8], [0, 1, 2, 3, 4, 5, 6, 7, 8, 9], [], [0, 1, 2, 3, 4, 5, 6, 7, 8, 9, 10, 11]] [0, 1, 2, 3, 4, 5, 6, 7, 8, 9, 10, 11, 12] [12] (by kernel_rfl) (by kernel_rfl) rfl ?_
  show DK _ [0, 1, 2, 3, 4, 5, 6, 7, 8, 9, 10, 11, 12] _ _ _
  refine .q rfl (op_loadRow Tryd.underlying48 rfl sz48 rfl rfl rfl (rfl)) trivial ?_
  refine .q rfl (op_loadRow Tryd.underlying48 rfl sz48 rfl rfl rfl (rfl)) trivial ?_
  refine .q rfl (op_call (U := []) [] [] (fmul_ev _ _ (by first | assumption | exact fmod_lt _ | exact fp_pos | decide) (by first | assumption | exact fmod_lt _ | exact fp_pos | decide)) Tryd.func35 (by kernel_rfl) rfl rfl rfl (⟨⟨_, rfl, rfl, rfl⟩, ⟨_, rfl, rfl, rfl⟩, trivial⟩) (trivial) (trivial) (trivial) rfl) trivial ?_
  refine .q rfl (op_loadRow Tryd.underlying48 rfl sz48 rfl rfl rfl (rfl)) trivial ?_
  refine .q rfl (op_loadRow Tryd.underlying48 rfl sz48 rfl rfl rfl (rfl)) trivial ?_
  refine .q rfl (op_call (U := []) [] [] (fsquare_ev _ (by first | assumption | exact fmod_lt _ | exact fp_pos | decide)) Tryd.func37 (by kernel_rfl) rfl rfl rfl (⟨⟨_, rfl, rfl, rfl⟩, trivial⟩) (trivial) (trivial) (trivial) rfl) trivial ?_
  refine .q rfl (op_call (U := []) [] [] (fmul_ev _ _ (by first | assumption | exact fmod_lt _ | exact fp_pos | decide) (by first | assumption | exact fmod_lt _ | exact fp_pos | decide)) Tryd.func35 (by kernel_rfl) rfl rfl rfl (⟨⟨_, rfl, rfl, rfl⟩, ⟨_, rfl, rfl, rfl⟩, trivial⟩) (trivial) (trivial) (trivial) rfl) trivial ?_
  refine .q rfl (op_loadRow Tryd.underlying48 rfl sz48 rfl rfl rfl (rfl)) trivial ?_
  refine .q rfl (op_call (U := []) [] [] (fmul_ev _ _ (by first | assumption | exact fmod_lt _ | exact fp_pos | decide) (by first | assumption | exact fmod_lt _ | exact fp_pos | decide)) Tryd.func35 (by kernel_rfl) rfl rfl rfl (⟨⟨_, rfl, rfl, rfl⟩, ⟨_, rfl, rfl, rfl⟩, trivial⟩) (trivial) (trivial) (trivial) rfl) trivial ?_
  refine .q rfl (op_call (U := []) [] [] (frootPower_ev _ (by first | assumption | exact fmod_lt _ | exact fp_pos | decide)) Tryd.func92 (by kernel_rfl) rfl rfl rfl (⟨⟨_, rfl, rfl, rfl⟩, trivial⟩) (trivial) (trivial) (trivial) rfl) trivial ?_
  refine .q rfl (op_call (U := []) [] [] (fmul_ev _ _ (by first | assumption | exact fmod_lt _ | exact fp_pos | decide) (by first | assumption | exact fmod_lt _ | exact fp_pos | decide)) Tryd.func35 (by kernel_rfl) rfl rfl rfl (⟨⟨_, rfl, rfl, rfl⟩, ⟨_, rfl, rfl, rfl⟩, trivial⟩) (trivial) (trivial) (trivial) rfl) trivial ?_
  refine .as (.agg64 (fl r)) (congrArg (fun z => AV.agg64 (fl z)) hr) ?_
  refine .a rfl (op_allocRow zero48 rel_zero48 rfl) trivial rfl rfl ?_
  refine .w rfl (op_storeRow sz48 rfl rfl rfl rfl rfl (rfl) (rfl)) trivial rfl rfl ?_
  refine .nil ?_
  show Ev _ _ _ _ _
  refine .seq ?_
  refine .drawn [[], [0], [], [0, 1, 2], [], [0, 1, 2, 3, 4]] [0, 1, 2, 3, 4, 5] [5] (by kernel_rfl) (by kernel_rfl) rfl ?_
  show DK _ [0, 1, 2, 3, 4, 5] _ _ _
  refine .q rfl (op_loadRow Tryd.underlying48 rfl sz48 rfl rfl rfl (rfl)) trivial ?_
  refine .q rfl (op_call (U := []) [] [] (fsquare_ev _ (by first | assumption | exact fmod_lt _ | exact fp_pos | decide)) Tryd.func37 (by kernel_rfl) rfl rfl rfl (⟨⟨_, rfl, rfl, rfl⟩, trivial⟩) (trivial) (trivial) (trivial) rfl) trivial ?_
  refine .q rfl (op_loadRow Tryd.underlying48 rfl sz48 rfl rfl rfl (rfl)) trivial ?_
  refine .q rfl (op_call (U := []) [] [] (fmul_ev _ _ (by first | assumption | exact fmod_lt _ | exact fp_pos | decide) (by first | assumption | exact fmod_lt _ | exact fp_pos | decide)) Tryd.func35 (by kernel_rfl) rfl rfl rfl (⟨⟨_, rfl, rfl, rfl⟩, ⟨_, rfl, rfl, rfl⟩, trivial⟩) (trivial) (trivial) (trivial) rfl) trivial ?_
  refine .as (.agg64 (fl q)) (congrArg (fun z => AV.agg64 (fl z)) hq) ?_
  refine .a rfl (op_allocRow zero48 rel_zero48 rfl) trivial rfl rfl ?_
  refine .w rfl (op_storeRow sz48 rfl rfl rfl rfl rfl (rfl) (rfl)) trivial rfl rfl ?_
  refine .nil ?_
  show Ev _ _ _ _ _
  refine .seq ?_
  refine .block ?_
  refine .seq ?_
  refine .drawn [[], [], [1], [0, 1, 2], [0, 1, 2, 3]] [0, 1, 2] [] (by kernel_rfl) (by kernel_rfl) rfl ?_
  show DK _ [0, 1, 2, 3, 4] _ _ _
  refine .q rfl (op_loadRow Tryd.underlying48 rfl sz48 rfl rfl rfl (rfl)) trivial ?_
  refine .q rfl (op_loadRow Tryd.underlying48 rfl sz48 rfl rfl rfl (rfl)) trivial ?_
  refine .q rfl (op_call (U := []) [] [] (fneg_ev e _ (by first | assumption | exact fmod_lt _ | exact fp_pos | decide)) Tryd.func34 (by kernel_rfl) rfl rfl rfl (⟨⟨_, rfl, rfl, rfl⟩, trivial⟩) (⟨⟨_, _, rfl, rfl, rfl, rfl, id, rfl⟩, trivial⟩) (trivial) (⟨(fun h => by cases h), trivial⟩) rfl) trivial ?_
  refine .q rfl (op_eqBox (n := 4) (by kernel_rfl) Tryd.underlying48 (by kernel_rfl) rfl (by decide) rfl Tryd.underlying46 sz46 Tryd.underlying45 inf45.sz rfl rfl (rfl) (rfl)) trivial ?_
  refine .q rfl (op_assign rfl) trivial ?_
  refine .nil ?_
  show Ev _ _ _ _ _
  refine .cond_true rfl (by rw [fl_eq q _ hql (fmod_lt _)]; simp [h1]) ?_
  refine .drawn [[], [], [0, 1], [0, 1, 2]] [0, 1, 2, 3] [3] (by kernel_rfl) (by kernel_rfl) rfl ?_
  show DK _ [0, 1, 2, 3] _ _ _
  refine .q rfl (op_loadRow Tryd.underlying48 rfl sz48 rfl rfl rfl (rfl)) trivial ?_
  refine .q rfl (op_call (U := []) [] [] (fminus1_ev e2) Tryd.func45 (by kernel_rfl) rfl rfl rfl (trivial) (⟨⟨_, _, rfl, rfl, rfl, rfl, id, rfl⟩, trivial⟩) (trivial) (⟨(fun h => by cases h), trivial⟩) rfl) trivial ?_
  refine .q rfl (op_call (U := []) [] [] (fmul_ev _ _ (by first | assumption | exact fmod_lt _ | exact fp_pos | decide) (by first | assumption | exact fmod_lt _ | exact fp_pos | decide)) Tryd.func35 (by kernel_rfl) rfl rfl rfl (⟨⟨_, rfl, rfl, rfl⟩, ⟨_, rfl, rfl, rfl⟩, trivial⟩) (trivial) (trivial) (trivial) rfl) trivial ?_
  refine .w rfl (op_storeRow sz48 rfl rfl rfl rfl rfl (rfl) (rfl)) trivial rfl rfl ?_
  refine .nil ?_
  show Ev _ _ _ _ _
  refine .seq ?_
  refine .drawn [[], [0], [], [0, 1, 2], [], [0, 1, 2, 3, 4], [0, 1, 2, 3, 4, 5], [0, 1, 2, 3, 4, 5, 6]] [0, 1, 2, 3, 4, 5, 6] [6] (by kernel_rfl) (by kernel_rfl) rfl ?_
  show DK _ [0, 1, 2, 3, 4, 5, 6, 7] _ _ _
  refine .q rfl (op_loadRow Tryd.underlying48 rfl sz48 rfl rfl rfl (rfl)) trivial ?_
  refine .q rfl (op_call (U := []) [] [] (fodd_ev _) Tryd.func47 (by kernel_rfl) rfl rfl rfl (⟨⟨_, rfl, rfl, rfl⟩, trivial⟩) (trivial) (trivial) (trivial) rfl) trivial ?_
  refine .q rfl (op_loadRow Tryd.underlying48 rfl sz48 rfl rfl rfl (rfl)) trivial ?_
  refine .q rfl (op_call (U := []) [] [] (fneg_ev e _ (by first | assumption | exact fmod_lt _ | exact fp_pos | decide)) Tryd.func34 (by kernel_rfl) rfl rfl rfl (⟨⟨_, rfl, rfl, rfl⟩, trivial⟩) (⟨⟨_, _, rfl, rfl, rfl, rfl, id, rfl⟩, trivial⟩) (trivial) (⟨(fun h => by cases h), trivial⟩) rfl) trivial ?_
  refine .q rfl (op_loadRow Tryd.underlying48 rfl sz48 rfl rfl rfl (rfl)) trivial ?_
  refine .q rfl (op_call (U := []) [] [] (fchoose_ev _ _ _) Tryd.func40 (by kernel_rfl) rfl rfl rfl (⟨⟨_, rfl, rfl, rfl⟩, ⟨_, rfl, rfl, rfl⟩, ⟨_, rfl, rfl, rfl⟩, trivial⟩) (trivial) (trivial) (trivial) rfl) trivial ?_
  refine .w rfl (op_storeRow sz48 rfl rfl rfl rfl rfl (rfl) (rfl)) trivial rfl rfl ?_
  refine .q rfl (op_assign rfl) trivial ?_
  refine .nil ?_
  show Ev _ _ _ _ _
  refine .ret ?_
  show RetOk _ _ _ _ _ _ _
  exact retc2 rfl (.inl rfl) ⟨_, _, _, _, rfl, rfl, rfl, rfl, rfl, Tryd.underlying48, rfl, sz48⟩ rfl trivial
set_option maxHeartbeats 2000000 in
set_option maxRecDepth 100000 in
theorem froot_Q (e e2 u v c r q : Nat) (hu : u < fp) (hv : v < fp) (hcl : c < fp) (hrl : r < fp) (hql : q < fp) (hc : v * v % fp * v % fp = c) (hr : (u * c % fp) * (((u * (c * c % fp) % fp) * v % fp) ^ ((fp - 5) / 8) % fp) % fp = r) (hq : r * r % fp * v % fp = q) (h1 : q ≠ (fp - u) % fp) (h2 : q = u) : Meets Tryd.prog 41 [.agg64 (fl u), .agg64 (fl v)] (HPM e e2) (.tup [.agg64 (fl (if decide (r % 2 = 1) then (fp - r) % fp else r)), .bool true]) [] := by
  refine meets_of_ev (nt := 47) Tryd.func41 rfl rfl (Nat.le_of_ble_eq_true rfl) ?_
  refine .seq ?_
  refine .region ?_
  refine .a (op_boxRow rfl rfl) trivial rfl ?_
  refine .a (op_boxRow rfl rfl) trivial rfl ?_
  refine .a (op_allocRow zero48 rel_zero48 rfl) trivial rfl ?_
  refine .q (op_assign rfl) trivial rfl ?_
  refine .nil ?_
  show Ev _ _ _ _ _
  refine .seq ?_
  refine .drawn [[], [0], [], [0, 1, 2], [], [0, 1, 2, 3, 4]] [0, 1, 2, 3, 4, 5] [5] (by kernel_rfl) (by kernel_rfl) rfl ?_
  show DK _ [0, 1, 2, 3, 4, 5] _ _ _
  refine .q rfl (op_loadRow Tryd.underlying48 rfl sz48 rfl rfl rfl (rfl)) trivial ?_
  refine .q rfl (op_call (U := []) [] [] (fsquare_ev _ (by first | assumption | exact fmod_lt _ | exact fp_pos | decide)) Tryd.func37 (by kernel_rfl) rfl rfl rfl (⟨⟨_, rfl, rfl, rfl⟩, trivial⟩) (trivial) (trivial) (trivial) rfl) trivial ?_
  refine .q rfl (op_loadRow Tryd.underlying48 rfl sz48 rfl rfl rfl (rfl)) trivial ?_
  refine .q rfl (op_call (U := []) [] [] (fmul_ev _ _ (by first | assumption | exact fmod_lt _ | exact fp_pos | decide) (by first | assumption | exact fmod_lt _ | exact fp_pos | decide)) Tryd.func35 (by kernel_rfl) rfl rfl rfl (⟨⟨_, rfl, rfl, rfl⟩, ⟨_, rfl, rfl, rfl⟩, trivial⟩) (trivial) (trivial) (trivial) rfl) trivial ?_
  refine .as (.agg64 (fl c)) (congrArg (fun z => AV.agg64 (fl z)) hc) ?_
  refine .a rfl (op_allocRow zero48 rel_zero48 rfl) trivial rfl rfl ?_
  refine .w rfl (op_storeRow sz48 rfl rfl rfl rfl rfl (rfl) (rfl)) trivial rfl rfl ?_
  refine .nil ?_
  show Ev _ _ _ _ _
  refine .seq ?_
  refine .drawn [[], [], [0, 1], [], [], [0, 1, 2, 4], [0, 1, 2, 3, 4, 5], [], [0, 1, 2, 3, 4, 5, 6, 7], [0, 1, 2, 3, 4, 5, 6, 7, 8], [0, 1, 2, 3, 4, 5, 6, 7, 8, 9], [], [0, 1, 2, 3, 4, 5, 6, 7, 8, 9, 10, 11]] [0, 1, 2, 3, 4, 5, 6, 7, 8, 9, 10, 11, 12] [12] (by kernel_rfl) (by kernel_rfl) rfl ?_
  show DK _ [0, 1, 2, 3, 4, 5, 6, 7, 8, 9, 10, 11, 12] _ _ _
  refine .q rfl (op_loadRow Tryd.underlying48 rfl sz48 rfl rfl rfl (rfl)) trivial ?_
  refine .q rfl (op_loadRow Tryd.underlying48 rfl sz48 rfl rfl rfl (rfl)) trivial ?_
  refine .q rfl (op_call (U := []) [] [] (fmul_ev _ _ (by first | assumption | exact fmod_lt _ | exact fp_pos | decide) (by first | assumption | exact fmod_lt _ | exact fp_pos | decide)) Tryd.func35 (by kernel_rfl) rfl rfl rfl (⟨⟨_, rfl, rfl, rfl⟩, ⟨_, rfl, rfl, rfl⟩, trivial⟩) (trivial) (trivial) (trivial) rfl) trivial ?_
  refine .q rfl (op_loadRow Tryd.underlying48 rfl sz48 rfl rfl rfl (rfl)) trivial ?_
  refine .q rfl (op_loadRow Tryd.underlying48 rfl sz48 rfl rfl rfl (rfl)) trivial ?_
  refine .q rfl (op_call (U := []) [] [] (fsquare_ev _ (by first | assumption | exact fmod_lt _ | exact fp_pos | decide)) Tryd.func37 (by kernel_rfl) rfl rfl rfl (⟨⟨_, rfl, rfl, rfl⟩, trivial⟩) (trivial) (trivial) (trivial) rfl) trivial ?_
  refine .q rfl (op_call (U := []) [] [] (fmul_ev _ _ (by first | assumption | exact fmod_lt _ | exact fp_pos | decide) (by first | assumption | exact fmod_lt _ | exact fp_pos | decide)) Tryd.func35 (by kernel_rfl) rfl rfl rfl (⟨⟨_, rfl, rfl, rfl⟩, ⟨_, rfl, rfl, rfl⟩, trivial⟩) (trivial) (trivial) (trivial) rfl) trivial ?_
  refine .q rfl (op_loadRow Tryd.underlying48 rfl sz48 rfl rfl rfl (rfl)) trivial ?_
  refine .q rfl (op_call (U := []) [] [] (fmul_ev _ _ (by first | assumption | exact fmod_lt _ | exact fp_pos | decide) (by first | assumption | exact fmod_lt _ | exact fp_pos | decide)) Tryd.func35 (by kernel_rfl) rfl rfl rfl (⟨⟨_, rfl, rfl, rfl⟩, ⟨_, rfl, rfl, rfl⟩, trivial⟩) (trivial) (trivial) (trivial) rfl) trivial ?_
  refine .q rfl (op_call (U := []) [] [] (frootPower_ev _ (by first | assumption | exact fmod_lt _ | exact fp_pos | decide)) Tryd.func92 (by kernel_rfl) rfl rfl rfl (⟨⟨_, rfl, rfl, rfl⟩, trivial⟩) (trivial) (trivial) (trivial) rfl) trivial ?_
  refine .q rfl (op_call (U := []) [] [] (fmul_ev _ _ (by first | assumption | exact fmod_lt _ | exact fp_pos | decide) (by first | assumption | exact fmod_lt _ | exact fp_pos | decide)) Tryd.func35 (by kernel_rfl) rfl rfl rfl (⟨⟨_, rfl, rfl, rfl⟩, ⟨_, rfl, rfl, rfl⟩, trivial⟩) (trivial) (trivial) (trivial) rfl) trivial ?_
  refine .as (.agg64 (fl r)) (congrArg (fun z => AV.agg64 (fl z)) hr) ?_
  refine .a rfl (op_allocRow zero48 rel_zero48 rfl) trivial rfl rfl ?_
  refine .w rfl (op_storeRow sz48 rfl rfl rfl rfl rfl (rfl) (rfl)) trivial rfl rfl ?_
  refine .nil ?_
  show Ev _ _ _ _ _
  refine .seq ?_
  refine .drawn [[], [0], [], [0, 1, 2], [], [0, 1, 2, 3, 4]] [0, 1, 2, 3, 4, 5] [5] (by kernel_rfl) (by kernel_rfl) rfl ?_
  show DK _ [0, 1, 2, 3, 4, 5] _ _ _
  refine .q rfl (op_loadRow Tryd.underlying48 rfl sz48 rfl rfl rfl (rfl)) trivial ?_
  refine .q rfl (op_call (U := []) [] [] (fsquare_ev _ (by first | assumption | exact fmod_lt _ | exact fp_pos | decide)) Tryd.func37 (by kernel_rfl) rfl rfl rfl (⟨⟨_, rfl, rfl, rfl⟩, trivial⟩) (trivial) (trivial) (trivial) rfl) trivial ?_
  refine .q rfl (op_loadRow Tryd.underlying48 rfl sz48 rfl rfl rfl (rfl)) trivial ?_
  refine .q rfl (op_call (U := []) [] [] (fmul_ev _ _ (by first | assumption | exact fmod_lt _ | exact fp_pos | decide) (by first | assumption | exact fmod_lt _ | exact fp_pos | decide)) Tryd.func35 (by kernel_rfl) rfl rfl rfl (⟨⟨_, rfl, rfl, rfl⟩, ⟨_, rfl, rfl, rfl⟩, trivial⟩) (trivial) (trivial) (trivial) rfl) trivial ?_
  refine .as (.agg64 (fl q)) (congrArg (fun z => AV.agg64 (fl z)) hq) ?_
  refine .a rfl (op_allocRow zero48 rel_zero48 rfl) trivial rfl rfl ?_
  refine .w rfl (op_storeRow sz48 rfl rfl rfl rfl rfl (rfl) (rfl)) trivial rfl rfl ?_
  refine .nil ?_
  show Ev _ _ _ _ _
  refine .seq ?_
  refine .block ?_
  refine .seq ?_
  refine .drawn [[], [], [1], [0, 1, 2], [0, 1, 2, 3]] [0, 1, 2] [] (by kernel_rfl) (by kernel_rfl) rfl ?_
  show DK _ [0, 1, 2, 3, 4] _ _ _
  refine .q rfl (op_loadRow Tryd.underlying48 rfl sz48 rfl rfl rfl (rfl)) trivial ?_
  refine .q rfl (op_loadRow Tryd.underlying48 rfl sz48 rfl rfl rfl (rfl)) trivial ?_
  refine .q rfl (op_call (U := []) [] [] (fneg_ev e _ (by first | assumption | exact fmod_lt _ | exact fp_pos | decide)) Tryd.func34 (by kernel_rfl) rfl rfl rfl (⟨⟨_, rfl, rfl, rfl⟩, trivial⟩) (⟨⟨_, _, rfl, rfl, rfl, rfl, id, rfl⟩, trivial⟩) (trivial) (⟨(fun h => by cases h), trivial⟩) rfl) trivial ?_
  refine .q rfl (op_eqBox (n := 4) (by kernel_rfl) Tryd.underlying48 (by kernel_rfl) rfl (by decide) rfl Tryd.underlying46 sz46 Tryd.underlying45 inf45.sz rfl rfl (rfl) (rfl)) trivial ?_
  refine .q rfl (op_assign rfl) trivial ?_
  refine .nil ?_
  show Ev _ _ _ _ _
  refine .cond_false rfl (by rw [fl_eq q _ hql (fmod_lt _)]; simp [h1]) ?_
  refine .seq ?_
  refine .region ?_
  refine .q (op_loadRow Tryd.underlying48 rfl sz48 rfl rfl rfl (rfl)) trivial rfl ?_
  refine .q (op_loadRow Tryd.underlying48 rfl sz48 rfl rfl rfl (rfl)) trivial rfl ?_
  refine .q (op_neqBox (n := 4) (by kernel_rfl) Tryd.underlying48 (by kernel_rfl) rfl (by decide) rfl Tryd.underlying46 sz46 Tryd.underlying45 inf45.sz rfl rfl (rfl) (rfl)) trivial rfl ?_
  refine .q (op_assign rfl) trivial rfl ?_
  refine .nil ?_
  show Ev _ _ _ _ _
  refine .cond_false rfl (by rw [fl_ne q u hql hu]; simp [h2]) ?_
  refine .skip ?_
  show Ev _ _ _ _ _
  refine .seq ?_
  refine .drawn [[], [0], [], [0, 1, 2], [], [0, 1, 2, 3, 4], [0, 1, 2, 3, 4, 5], [0, 1, 2, 3, 4, 5, 6]] [0, 1, 2, 3, 4, 5, 6] [6] (by kernel_rfl) (by kernel_rfl) rfl ?_
  show DK _ [0, 1, 2, 3, 4, 5, 6, 7] _ _ _
  refine .q rfl (op_loadRow Tryd.underlying48 rfl sz48 rfl rfl rfl (rfl)) trivial ?_
  refine .q rfl (op_call (U := []) [] [] (fodd_ev _) Tryd.func47 (by kernel_rfl) rfl rfl rfl (⟨⟨_, rfl, rfl, rfl⟩, trivial⟩) (trivial) (trivial) (trivial) rfl) trivial ?_
  refine .q rfl (op_loadRow Tryd.underlying48 rfl sz48 rfl rfl rfl (rfl)) trivial ?_
  refine .q rfl (op_call (U := []) [] [] (fneg_ev e _ (by first | assumption | exact fmod_lt _ | exact fp_pos | decide)) Tryd.func34 (by kernel_rfl) rfl rfl rfl (⟨⟨_, rfl, rfl, rfl⟩, trivial⟩) (⟨⟨_, _, rfl, rfl, rfl, rfl, id, rfl⟩, trivial⟩) (trivial) (⟨(fun h => by cases h), trivial⟩) rfl) trivial ?_
  refine .q rfl (op_loadRow Tryd.underlying48 rfl sz48 rfl rfl rfl (rfl)) trivial ?_
  refine .q rfl (op_call (U := []) [] [] (fchoose_ev _ _ _) Tryd.func40 (by kernel_rfl) rfl rfl rfl (⟨⟨_, rfl, rfl, rfl⟩, ⟨_, rfl, rfl, rfl⟩, ⟨_, rfl, rfl, rfl⟩, trivial⟩) (trivial) (trivial) (trivial) rfl) trivial ?_
  refine .w rfl (op_storeRow sz48 rfl rfl rfl rfl rfl (rfl) (rfl)) trivial rfl rfl ?_
  refine .q rfl (op_assign rfl) trivial ?_
  refine .nil ?_
  show Ev _ _ _ _ _
  refine .ret ?_
  show RetOk _ _ _ _ _ _ _
  exact retc2 rfl (.inl rfl) ⟨_, _, _, _, rfl, rfl, rfl, rfl, rfl, Tryd.underlying48, rfl, sz48⟩ rfl trivial
set_option maxHeartbeats 2000000 in
set_option maxRecDepth 100000 in
theorem froot_R (e e2 u v c r q : Nat) (hu : u < fp) (hv : v < fp) (hcl : c < fp) (hrl : r < fp) (hql : q < fp) (hc : v * v % fp * v % fp = c) (hr : (u * c % fp) * (((u * (c * c % fp) % fp) * v % fp) ^ ((fp - 5) / 8) % fp) % fp = r) (hq : r * r % fp * v % fp = q) (h1 : q ≠ (fp - u) % fp) (h2 : q ≠ u) : Meets Tryd.prog 41 [.agg64 (fl u), .agg64 (fl v)] (HPM e e2) (.tup [.agg64 (fl 0), .bool false]) [] := by
  refine meets_of_ev (nt := 47) Tryd.func41 rfl rfl (Nat.le_of_ble_eq_true rfl) ?_
  refine .seq ?_
  refine .region ?_
  refine .a (op_boxRow rfl rfl) trivial rfl ?_
  refine .a (op_boxRow rfl rfl) trivial rfl ?_
  refine .a (op_allocRow zero48 rel_zero48 rfl) trivial rfl ?_
  refine .q (op_assign rfl) trivial rfl ?_
  refine .nil ?_
  show Ev _ _ _ _ _
  refine .seq ?_
  refine .drawn [[], [0], [], [0, 1, 2], [], [0, 1, 2, 3, 4]] [0, 1, 2, 3, 4, 5] [5] (by kernel_rfl) (by kernel_rfl) rfl ?_
  show DK _ [0, 1, 2, 3, 4, 5] _ _ _
  refine .q rfl (op_loadRow Tryd.underlying48 rfl sz48 rfl rfl rfl (rfl)) trivial ?_
  refine .q rfl (op_call (U := []) [] [] (fsquare_ev _ (by first | assumption | exact fmod_lt _ | exact fp_pos | decide)) Tryd.func37 (by kernel_rfl) rfl rfl rfl (⟨⟨_, rfl, rfl, rfl⟩, trivial⟩) (trivial) (trivial) (trivial) rfl) trivial ?_
  refine .q rfl (op_loadRow Tryd.underlying48 rfl sz48 rfl rfl rfl (rfl)) trivial ?_
  refine .q rfl (op_call (U := []) [] [] (fmul_ev _ _ (by first | assumption | exact fmod_lt _ | exact fp_pos | decide) (by first | assumption | exact fmod_lt _ | exact fp_pos | decide)) Tryd.func35 (by kernel_rfl) rfl rfl rfl (⟨⟨_, rfl, rfl, rfl⟩, ⟨_, rfl, rfl, rfl⟩, trivial⟩) (trivial) (trivial) (trivial) rfl) trivial ?_
  refine .as (.agg64 (fl c)) (congrArg (fun z => AV.agg64 (fl z)) hc) ?_
  refine .a rfl (op_allocRow zero48 rel_zero48 rfl) trivial rfl rfl ?_
  refine .w rfl (op_storeRow sz48 rfl rfl rfl rfl rfl (rfl) (rfl)) trivial rfl rfl ?_
  refine .nil ?_
  show Ev _ _ _ _ _
  refine .seq ?_
  refine .drawn [[], [], [0, 1], [], [], [0, 1, 2, 4], [0, 1, 2, 3, 4, 5], [], [0, 1, 2, 3, 4, 5, 6, 7], [0, 1, 2, 3, 4, 5, 6, 7, 8], [0, 1, 2, 3, 4, 5, 6, 7, 8, 9], [], [0, 1, 2, 3, 4, 5, 6, 7, 8, 9, 10, 11]] [0, 1, 2, 3, 4, 5, 6, 7, 8, 9, 10, 11, 12] [12] (by kernel_rfl) (by kernel_rfl) rfl ?_
  show DK _ [0, 1, 2, 3, 4, 5, 6, 7, 8, 9, 10, 11, 12] _ _ _
  refine .q rfl (op_loadRow Tryd.underlying48 rfl sz48 rfl rfl rfl (rfl)) trivial ?_
  refine .q rfl (op_loadRow Tryd.underlying48 rfl sz48 rfl rfl rfl (rfl)) trivial ?_
  refine .q rfl (op_call (U := []) [] [] (fmul_ev _ _ (by first | assumption | exact fmod_lt _ | exact fp_pos | decide) (by first | assumption | exact fmod_lt _ | exact fp_pos | decide)) Tryd.func35 (by kernel_rfl) rfl rfl rfl (⟨⟨_, rfl, rfl, rfl⟩, ⟨_, rfl, rfl, rfl⟩, trivial⟩) (trivial) (trivial) (trivial) rfl) trivial ?_
  refine .q rfl (op_loadRow Tryd.underlying48 rfl sz48 rfl rfl rfl (rfl)) trivial ?_
  refine .q rfl (op_loadRow Tryd.underlying48 rfl sz48 rfl rfl rfl (rfl)) trivial ?_
  refine .q rfl (op_call (U := []) [] [] (fsquare_ev _ (by first | assumption | exact fmod_lt _ | exact fp_pos | decide)) Tryd.func37 (by kernel_rfl) rfl rfl rfl (⟨⟨_, rfl, rfl, rfl⟩, trivial⟩) (trivial) (trivial) (trivial) rfl) trivial ?_
  refine .q rfl (op_call (U := []) [] [] (fmul_ev _ _ (by first | assumption | exact fmod_lt _ | exact fp_pos | decide) (by first | assumption | exact fmod_lt _ | exact fp_pos | decide)) Tryd.func35 (by kernel_rfl) rfl rfl rfl (⟨⟨_, rfl, rfl, rfl⟩, ⟨_, rfl, rfl, rfl⟩, trivial⟩) (trivial) (trivial) (trivial) rfl) trivial ?_
  refine .q rfl (op_loadRow Tryd.underlying48 rfl sz48 rfl rfl rfl (rfl)) trivial ?_
  refine .q rfl (op_call (U := []) [] [] (fmul_ev _ _ (by first | assumption | exact fmod_lt _ | exact fp_pos | decide) (by first | assumption | exact fmod_lt _ | exact fp_pos | decide)) Tryd.func35 (by kernel_rfl) rfl rfl rfl (⟨⟨_, rfl, rfl, rfl⟩, ⟨_, rfl, rfl, rfl⟩, trivial⟩) (trivial) (trivial) (trivial) rfl) trivial ?_
  refine .q rfl (op_call (U := []) [] [] (frootPower_ev _ (by first | assumption | exact fmod_lt _ | exact fp_pos | decide)) Tryd.func92 (by kernel_rfl) rfl rfl rfl (⟨⟨_, rfl, rfl, rfl⟩, trivial⟩) (trivial) (trivial) (trivial) rfl) trivial ?_
  refine .q rfl (op_call (U := []) [] [] (fmul_ev _ _ (by first | assumption | exact fmod_lt _ | exact fp_pos | decide) (by first | assumption | exact fmod_lt _ | exact fp_pos | decide)) Tryd.func35 (by kernel_rfl) rfl rfl rfl (⟨⟨_, rfl, rfl, rfl⟩, ⟨_, rfl, rfl, rfl⟩, trivial⟩) (trivial) (trivial) (trivial) rfl) trivial ?_
  refine .as (.agg64 (fl r)) (congrArg (fun z => AV.agg64 (fl z)) hr) ?_
  refine .a rfl (op_allocRow zero48 rel_zero48 rfl) trivial rfl rfl ?_
  refine .w rfl (op_storeRow sz48 rfl rfl rfl rfl rfl (rfl) (rfl)) trivial rfl rfl ?_
  refine .nil ?_
  show Ev _ _ _ _ _
  refine .seq ?_
  refine .drawn [[], [0], [], [0, 1, 2], [], [0, 1, 2, 3, 4]] [0, 1, 2, 3, 4, 5] [5] (by kernel_rfl) (by kernel_rfl) rfl ?_
  show DK _ [0, 1, 2, 3, 4, 5] _ _ _
  refine .q rfl (op_loadRow Tryd.underlying48 rfl sz48 rfl rfl rfl (rfl)) trivial ?_
  refine .q rfl (op_call (U := []) [] [] (fsquare_ev _ (by first | assumption | exact fmod_lt _ | exact fp_pos | decide)) Tryd.func37 (by kernel_rfl) rfl rfl rfl (⟨⟨_, rfl, rfl, rfl⟩, trivial⟩) (trivial) (trivial) (trivial) rfl) trivial ?_
  refine .q rfl (op_loadRow Tryd.underlying48 rfl sz48 rfl rfl rfl (rfl)) trivial ?_
  refine .q rfl (op_call (U := []) [] [] (fmul_ev _ _ (by first | assumption | exact fmod_lt _ | exact fp_pos | decide) (by first | assumption | exact fmod_lt _ | exact fp_pos | decide)) Tryd.func35 (by kernel_rfl) rfl rfl rfl (⟨⟨_, rfl, rfl, rfl⟩, ⟨_, rfl, rfl, rfl⟩, trivial⟩) (trivial) (trivial) (trivial) rfl) trivial ?_
  refine .as (.agg64 (fl q)) (congrArg (fun z => AV.agg64 (fl z)) hq) ?_
  refine .a rfl (op_allocRow zero48 rel_zero48 rfl) trivial rfl rfl ?_
  refine .w rfl (op_storeRow sz48 rfl rfl rfl rfl rfl (rfl) (rfl)) trivial rfl rfl ?_
  refine .nil ?_
  show Ev _ _ _ _ _
  refine .seq ?_
  refine .block ?_
  refine .seq ?_
  refine .drawn [[], [], [1], [0, 1, 2], [0, 1, 2, 3]] [0, 1, 2] [] (by kernel_rfl) (by kernel_rfl) rfl ?_
  show DK _ [0, 1, 2, 3, 4] _ _ _
  refine .q rfl (op_loadRow Tryd.underlying48 rfl sz48 rfl rfl rfl (rfl)) trivial ?_
  refine .q rfl (op_loadRow Tryd.underlying48 rfl sz48 rfl rfl rfl (rfl)) trivial ?_
  refine .q rfl (op_call (U := []) [] [] (fneg_ev e _ (by first | assumption | exact fmod_lt _ | exact fp_pos | decide)) Tryd.func34 (by kernel_rfl) rfl rfl rfl (⟨⟨_, rfl, rfl, rfl⟩, trivial⟩) (⟨⟨_, _, rfl, rfl, rfl, rfl, id, rfl⟩, trivial⟩) (trivial) (⟨(fun h => by cases h), trivial⟩) rfl) trivial ?_
  refine .q rfl (op_eqBox (n := 4) (by kernel_rfl) Tryd.underlying48 (by kernel_rfl) rfl (by decide) rfl Tryd.underlying46 sz46 Tryd.underlying45 inf45.sz rfl rfl (rfl) (rfl)) trivial ?_
  refine .q rfl (op_assign rfl) trivial ?_
  refine .nil ?_
  show Ev _ _ _ _ _
  refine .cond_false rfl (by rw [fl_eq q _ hql (fmod_lt _)]; simp [h1]) ?_
  refine .seq ?_
  refine .region ?_
  refine .q (op_loadRow Tryd.underlying48 rfl sz48 rfl rfl rfl (rfl)) trivial rfl ?_
  refine .q (op_loadRow Tryd.underlying48 rfl sz48 rfl rfl rfl (rfl)) trivial rfl ?_
  refine .q (op_neqBox (n := 4) (by kernel_rfl) Tryd.underlying48 (by kernel_rfl) rfl (by decide) rfl Tryd.underlying46 sz46 Tryd.underlying45 inf45.sz rfl rfl (rfl) (rfl)) trivial rfl ?_
  refine .q (op_assign rfl) trivial rfl ?_
  refine .nil ?_
  show Ev _ _ _ _ _
  refine .cond_true rfl (by rw [fl_ne q u hql hu]; simp [h2]) ?_
  refine .seq ?_
  refine .region ?_
  refine .q (op_buildBox0 (n := 4) Tryd.underlying48 sz46 zero48 rel_zero48) trivial rfl ?_
  refine .w (op_storeRow sz48 rfl rfl rfl rfl rfl (rfl) (rfl)) trivial rfl ?_
  refine .q (op_assign rfl) trivial rfl ?_
  refine .nil ?_
  show Ev _ _ _ _ _
  refine .ret ?_
  show RetOk _ _ _ _ _ _ _
  exact retc2 rfl (.inl rfl) ⟨_, _, _, _, rfl, rfl, rfl, rfl, rfl, Tryd.underlying48, rfl, sz48⟩ rfl trivial
end Go.Proofs.YtjhpelajhkhlcaaDoor
namespace Go.Proofs.YtjhpelajhkhlcaaDoor
open Go.RowKit
set_option maxHeartbeats 1000000 in
set_option maxRecDepth 100000 in
theorem bytesNil_ev (n : Nat) (hn : n ≤ 1000000) : Meets Tryd.prog 75 [.nilsl, .i64 (n : Int)] [] (.str (bsN 0 n)) [] := by
  refine meets_of_ev (nt := 37) Tryd.func75 rfl rfl (Nat.le_of_ble_eq_true rfl) ?_
  refine .seq ?_
  refine .region ?_
  refine .q (op_assign rfl) trivial rfl ?_
  refine .nil ?_
  show Ev _ _ _ _ _
  refine .seq ?_
  refine .region ?_
  refine .a (ap_build0 (z := 1) (c := .aggB []) Tryd.underlying27 inf5 rfl) trivial rfl ?_
  refine .q (op_assign rfl) trivial rfl ?_
  refine .nil ?_
  show Ev _ _ _ _ _
  refine .seq ?_
  refine .seq ?_
  refine .region ?_
  refine .q (op_assign rfl) trivial rfl ?_
  refine .nil ?_
  show Ev _ _ _ _ _
  refine .block ?_
  refine Ev.loop (ι := { k : Nat // k ≤ n }) (fun q => ⟨[(0, .nilsl), (1, .i64 (n : Int)), (5, .sl 1000 0 q.1 1), (6, .i64 ((q.1 : Nat) : Int))], [(1000, some ⟨.aggB (bsN 0 q.1), 5, true⟩)], 1008⟩) (fun q => n - q.1) ⟨0, Nat.zero_le _⟩ (StLe.mk [(1000, 1000)] rfl rfl ⟨⟨_, rfl, by first | rfl | (simp only [AV.ren]; congr 1; omega), rfl⟩, ⟨_, rfl, by first | rfl | (simp only [AV.ren]; congr 1; omega), rfl⟩, ⟨_, rfl, by first | rfl | (simp only [AV.ren]; congr 1; omega), rfl⟩, ⟨_, rfl, by first | rfl | (simp only [AV.ren]; congr 1; omega), rfl⟩, trivial⟩ ⟨⟨_, _, rfl, rfl, rfl, rfl, id, rfl⟩, trivial⟩) ?_
  rintro ⟨k, hk⟩
  try dsimp only
  have hl := length_bsN 0 k
  refine .seq ?_
  refine .seq ?_
  refine .region ?_
  refine .q (op_move rfl) trivial rfl ?_
  refine .q (op_move rfl) trivial rfl ?_
  refine .q (op_cmpI rfl rfl rfl) trivial rfl ?_
  refine .nil ?_
  show Ev _ _ _ _ _
  refine .cond rfl (fun hc11 => ?_) (fun hc11 => ?_)
  · first | replace hc11 := of_decide_eq_true hc11 | replace hc11 := of_decide_eq_false hc11 | replace hc11 := eq_of_beq hc11 | replace hc11 := ne_of_beq_false hc11 | simp only [bne_iff_ne, ne_eq] at hc11 | simp only [bne_eq_false_iff_eq] at hc11
    refine .skip ?_
    show Ev _ _ _ _ _
    refine .seq ?_
    refine .block ?_
    refine .seq ?_
    refine .region ?_
    refine .q (op_assign rfl) trivial rfl ?_
    refine .nil ?_
    show Ev _ _ _ _ _
    refine .seq ?_
    refine .seq ?_
    refine .region ?_
    refine .q (op_move rfl) trivial rfl ?_
    refine .q (op_quoI rfl rfl ⟨by first | omega | (simp only [AV.len]; omega) | (simp only [AV.len, List.length_set]; omega) | assumption | (simp [AV.len]; done), ⟨by first | omega | (simp only [AV.len]; omega) | (simp only [AV.len, List.length_set]; omega) | assumption | (simp [AV.len]; done), by first | omega | (simp only [AV.len]; omega) | (simp only [AV.len, List.length_set]; omega) | assumption | (simp [AV.len]; done)⟩, by first | omega | (simp only [AV.len]; omega) | (simp only [AV.len, List.length_set]; omega) | assumption | (simp [AV.len]; done)⟩) trivial rfl ?_
    refine .q (op_move rfl) trivial rfl ?_
    refine .q (op_len_nil Tryd.underlying50 rfl) trivial rfl ?_
    refine .q (op_cmpI rfl rfl rfl) trivial rfl ?_
    refine .nil ?_
    show Ev _ _ _ _ _
    refine .cond_false rfl (by first | (rw [decide_eq_false_iff_not]; omega) | (simp; omega)) ?_
    refine .skip ?_
    show Ev _ _ _ _ _
    refine .seq ?_
    refine .seq ?_
    refine .region ?_
    refine .q (op_move rfl) trivial rfl ?_
    refine .q (op_remI rfl rfl ⟨by first | omega | (simp only [AV.len]; omega) | (simp only [AV.len, List.length_set]; omega) | assumption | (simp [AV.len]; done), by first | omega | (simp only [AV.len]; omega) | (simp only [AV.len, List.length_set]; omega) | assumption | (simp [AV.len]; done)⟩) trivial rfl ?_
    refine .q (op_cmpI rfl rfl rfl) trivial rfl ?_
    refine .nil ?_
    show Ev _ _ _ _ _
    refine .cond rfl (fun hc26 => ?_) (fun hc26 => ?_)
    · first | replace hc26 := of_decide_eq_true hc26 | replace hc26 := of_decide_eq_false hc26 | replace hc26 := eq_of_beq hc26 | replace hc26 := ne_of_beq_false hc26 | simp only [bne_iff_ne, ne_eq] at hc26 | simp only [bne_eq_false_iff_eq] at hc26
      refine .region ?_
      refine .q (op_move rfl) trivial rfl ?_
      refine .q (op_quoI rfl rfl ⟨by first | omega | (simp only [AV.len]; omega) | (simp only [AV.len, List.length_set]; omega) | assumption | (simp [AV.len]; done), ⟨by first | omega | (simp only [AV.len]; omega) | (simp only [AV.len, List.length_set]; omega) | assumption | (simp [AV.len]; done), by first | omega | (simp only [AV.len]; omega) | (simp only [AV.len, List.length_set]; omega) | assumption | (simp [AV.len]; done)⟩, by first | omega | (simp only [AV.len]; omega) | (simp only [AV.len, List.length_set]; omega) | assumption | (simp [AV.len]; done)⟩) trivial rfl ?_
      refine .q (op_assign rfl) trivial rfl ?_
      refine .nil ?_
      show Ev _ _ _ _ _
      refine .region ?_
      refine .q (op_move rfl) trivial rfl ?_
      refine .q (op_move rfl) trivial rfl ?_
      refine .q (op_remI rfl rfl ⟨by first | omega | (simp only [AV.len]; omega) | (simp only [AV.len, List.length_set]; omega) | assumption | (simp [AV.len]; done), by first | omega | (simp only [AV.len]; omega) | (simp only [AV.len, List.length_set]; omega) | assumption | (simp [AV.len]; done)⟩) trivial rfl ?_
      refine .q (op_conv Tryd.underlying3 Tryd.underlying5 rfl rfl) trivial rfl ?_
      refine .a (ap_build (us := [_]) (c := .aggB [_]) Tryd.underlying27 inf5 rfl (by decide) (by decide) ⟨rfl, rfl, rfl, trivial⟩ rfl) trivial rfl ?_
      refine .a (ap_cat Tryd.underlying27 inf5 rfl rfl rfl rfl (by first | omega | (simp only [AV.len, length_dn, length_bsN]; done) | (simp [AV.len]; done)) rfl rfl (by first | omega | (simp only [AV.len, length_dn, length_bsN]; done) | (simp [AV.len]; done)) rfl (by first | omega | (simp only [AV.len, length_dn, length_bsN]; done) | (simp [AV.len]; done))) trivial rfl ?_
      refine .q (op_assign rfl) trivial rfl ?_
      refine .nil ?_
      show Ev _ _ _ _ _
      refine .region ?_
      refine .q (op_move rfl) trivial rfl ?_
      refine .q (op_addI rfl rfl ⟨by first | omega | (simp only [AV.len]; omega) | (simp only [AV.len, List.length_set]; omega) | assumption | (simp [AV.len]; done), by first | omega | (simp only [AV.len]; omega) | (simp only [AV.len, List.length_set]; omega) | assumption | (simp [AV.len]; done)⟩) trivial rfl ?_
      refine .q (op_assign rfl) trivial rfl ?_
      refine .nil ?_
      exact ⟨⟨k + 1, by omega⟩, by dsimp only; omega, StLe.mk [(1000, 1016)] rfl rfl ⟨⟨_, rfl, by rfl, rfl⟩, ⟨_, rfl, by rfl, rfl⟩, ⟨_, rfl, by rfl, rfl⟩, ⟨_, rfl, by rfl, rfl⟩, trivial⟩ ⟨⟨_, _, rfl, rfl, by (simp only [AV.ren, bsN, Nat.zero_div, Nat.zero_mod]; first | rfl | (split <;> rfl)), rfl, id, rfl⟩, trivial⟩⟩
    · first | replace hc26 := of_decide_eq_true hc26 | replace hc26 := of_decide_eq_false hc26 | replace hc26 := eq_of_beq hc26 | replace hc26 := ne_of_beq_false hc26 | simp only [bne_iff_ne, ne_eq] at hc26 | simp only [bne_eq_false_iff_eq] at hc26
      refine .skip ?_
      show Ev _ _ _ _ _
      refine .region ?_
      refine .q (op_move rfl) trivial rfl ?_
      refine .q (op_move rfl) trivial rfl ?_
      refine .q (op_remI rfl rfl ⟨by first | omega | (simp only [AV.len]; omega) | (simp only [AV.len, List.length_set]; omega) | assumption | (simp [AV.len]; done), by first | omega | (simp only [AV.len]; omega) | (simp only [AV.len, List.length_set]; omega) | assumption | (simp [AV.len]; done)⟩) trivial rfl ?_
      refine .q (op_conv Tryd.underlying3 Tryd.underlying5 rfl rfl) trivial rfl ?_
      refine .a (ap_build (us := [_]) (c := .aggB [_]) Tryd.underlying27 inf5 rfl (by decide) (by decide) ⟨rfl, rfl, rfl, trivial⟩ rfl) trivial rfl ?_
      refine .a (ap_cat Tryd.underlying27 inf5 rfl rfl rfl rfl (by first | omega | (simp only [AV.len, length_dn, length_bsN]; done) | (simp [AV.len]; done)) rfl rfl (by first | omega | (simp only [AV.len, length_dn, length_bsN]; done) | (simp [AV.len]; done)) rfl (by first | omega | (simp only [AV.len, length_dn, length_bsN]; done) | (simp [AV.len]; done))) trivial rfl ?_
      refine .q (op_assign rfl) trivial rfl ?_
      refine .nil ?_
      show Ev _ _ _ _ _
      refine .region ?_
      refine .q (op_move rfl) trivial rfl ?_
      refine .q (op_addI rfl rfl ⟨by first | omega | (simp only [AV.len]; omega) | (simp only [AV.len, List.length_set]; omega) | assumption | (simp [AV.len]; done), by first | omega | (simp only [AV.len]; omega) | (simp only [AV.len, List.length_set]; omega) | assumption | (simp [AV.len]; done)⟩) trivial rfl ?_
      refine .q (op_assign rfl) trivial rfl ?_
      refine .nil ?_
      exact ⟨⟨k + 1, by omega⟩, by dsimp only; omega, StLe.mk [(1000, 1016)] rfl rfl ⟨⟨_, rfl, by rfl, rfl⟩, ⟨_, rfl, by rfl, rfl⟩, ⟨_, rfl, by rfl, rfl⟩, ⟨_, rfl, by rfl, rfl⟩, trivial⟩ ⟨⟨_, _, rfl, rfl, by (simp only [AV.ren, bsN, Nat.zero_div, Nat.zero_mod]; first | rfl | (split <;> rfl)), rfl, id, rfl⟩, trivial⟩⟩
  · first | replace hc11 := of_decide_eq_true hc11 | replace hc11 := of_decide_eq_false hc11 | replace hc11 := eq_of_beq hc11 | replace hc11 := ne_of_beq_false hc11 | simp only [bne_iff_ne, ne_eq] at hc11 | simp only [bne_eq_false_iff_eq] at hc11
    refine .exit ?_
    show Ev _ _ _ _ _
    refine .seq ?_
    refine .region ?_
    refine .q (op_move rfl) trivial rfl ?_
    refine .q (op_bytes_str Tryd.underlying27 Tryd.underlying5 Tryd.underlying9 rfl rfl rfl (by rw [length_bsN]; omega)) trivial rfl ?_
    refine .q (op_assign rfl) trivial rfl ?_
    refine .nil ?_
    show Ev _ _ _ _ _
    refine .ret ?_
    show RetOk _ _ _ _ _ _ _
    have e : k = n := by omega
    exact ret1v rfl (.inl rfl) rfl (by rw [e, List.drop_zero, List.take_of_length_le (by rw [length_bsN]; omega)]) trivial
set_option maxRecDepth 100000 in
theorem bytesNil05  : Meets Tryd.prog 86 [.nilsl] [] (.str (bsN 0 32)) [] := by
  refine meets_of_ev (nt := 5) Tryd.func86 rfl rfl (Nat.le_of_ble_eq_true rfl) ?_
  refine .seq ?_
  refine .region ?_
  refine .q (op_assign rfl) trivial rfl ?_
  refine .nil ?_
  show Ev _ _ _ _ _
  refine .seq ?_
  refine .region ?_
  refine .q (op_move rfl) trivial rfl ?_
  refine .q (op_call (U := []) [] [] (bytesNil_ev 32 (by decide)) Tryd.func75 (by kernel_rfl) rfl rfl rfl (⟨⟨_, rfl, rfl, rfl⟩, ⟨_, rfl, rfl, rfl⟩, trivial⟩) (trivial) (trivial) (trivial) rfl) trivial rfl ?_
  refine .q (op_assign rfl) trivial rfl ?_
  refine .nil ?_
  show Ev _ _ _ _ _
  refine .ret ?_
  show RetOk _ _ _ _ _ _ _
  exact ret1v rfl (.inl rfl) rfl rfl trivial
set_option maxRecDepth 100000 in
theorem isNil_ev  : Meets Tryd.prog 29 [.agg64 (fl 0), .nilsl] [] (.bool true) [] := by
  refine meets_of_ev (nt := 13) Tryd.func29 rfl rfl (Nat.le_of_ble_eq_true rfl) ?_
  refine .seq ?_
  refine .region ?_
  refine .a (op_boxRow rfl rfl) trivial rfl ?_
  refine .q (op_assign rfl) trivial rfl ?_
  refine .nil ?_
  show Ev _ _ _ _ _
  refine .seq ?_
  refine .region ?_
  refine .q (op_loadRow Tryd.underlying48 rfl sz48 rfl rfl rfl (rfl)) trivial rfl ?_
  refine .q (op_call (U := []) [] [] (fbytes_ev 0) Tryd.func81 (by kernel_rfl) rfl rfl rfl (⟨⟨_, rfl, rfl, rfl⟩, trivial⟩) (trivial) (trivial) (trivial) rfl) trivial rfl ?_
  refine .as (.aggB (bsN 0 32)) rfl ?_
  refine .a (op_allocRow zero22 rel_zero22 rfl) trivial rfl ?_
  refine .w (op_storeRow sz22 rfl rfl rfl rfl rfl (by simp [AV.len, length_bsN]) (by simp [AV.len, length_bsN])) trivial rfl ?_
  refine .nil ?_
  show Ev _ _ _ _ _
  refine .seq ?_
  refine .drawn [[], [0], [], [2], [0, 1, 2, 3], [0, 1, 2, 3, 4]] [0, 1, 3] [] (by kernel_rfl) (by kernel_rfl) rfl ?_
  show DK _ [0, 1, 2, 3, 4, 5] _ _ _
  refine .q rfl (ap_slice_arr_hi Tryd.underlying22 inf5.sz rfl rfl (by first | omega | (simp [AV.len, length_bsN]; done)) (by decide) rfl (by first | omega | (simp [AV.len, length_bsN]; done))) trivial ?_
  refine .q rfl (op_bytes_str Tryd.underlying27 Tryd.underlying5 Tryd.underlying9 rfl rfl rfl (by simp [length_bsN])) trivial ?_
  refine .as (.str (bsN 0 32)) (by rw [List.drop_zero, List.take_of_length_le (by simp [length_bsN])]) ?_
  refine .q rfl (op_move rfl) trivial ?_
  refine .q rfl (op_call (U := []) [] [] (bytesNil05) Tryd.func86 (by kernel_rfl) rfl rfl rfl (⟨⟨_, rfl, rfl, rfl⟩, trivial⟩) (trivial) (trivial) (trivial) rfl) trivial ?_
  refine .q rfl (op_eqS rfl rfl rfl) trivial ?_
  refine .q rfl (op_assign rfl) trivial ?_
  refine .nil ?_
  show Ev _ _ _ _ _
  refine .ret ?_
  show RetOk _ _ _ _ _ _ _
  exact ret1v rfl (.inl rfl) rfl (by simp) trivial
end Go.Proofs.YtjhpelajhkhlcaaDoor
namespace Go.Proofs.YtjhpelajhkhlcaaDoor
open Go.RowKit
theorem iV_same : iV * iV % fp = (fp - 1) % fp := by rw [iV_sq, Nat.mod_eq_of_lt (by decide)]
set_option maxHeartbeats 2000000 in
set_option maxRecDepth 100000 in
theorem roots_T (e e2 : Nat) (s t : List UInt8) (hs : s.length ≤ maxLen) (ht : t.length ≤ maxLen) (u v z : Nat) (eu : ofV (s.take 32) = u) (ev : ofV (t.take 32) = v) (hu : u < fp) (hv : v < fp) (hv0 : v ≠ 0) (hP : Meets Tryd.prog 41 [.agg64 (fl u), .agg64 (fl v)] (HPM e e2) (.tup [.agg64 (fl z), .bool true]) []) (hR : Meets Tryd.prog 43 [.sl 500 0 (dl (u * (v ^ (fp - 2) % fp) % fp)) 1] [(500, some ⟨.aggI (dg (u * (v ^ (fp - 2) % fp) % fp)), 3, false⟩)] (.tup [.sl 1000 0 (dl z) 1, .bool true]) [(1000, some ⟨.aggI (dg z), 3, true⟩)]) (hzl : z < fp) (hz2 : z * z % fp * v % fp = u) (hz : z % 2 = 0) : Meets Tryd.prog 10 [.str s, .str t] (HPM e e2) (.bool true) [] := by
  refine meets_of_ev (nt := 85) Tryd.func10 rfl rfl (Nat.le_of_ble_eq_true rfl) ?_
  refine .seq ?_
  refine .region ?_
  refine .q (op_assign rfl) trivial rfl ?_
  refine .nil ?_
  show Ev _ _ _ _ _
  refine .seq ?_
  refine .seq ?_
  refine .region ?_
  refine .q (op_call (U := []) [] [] (awake5_ev) Tryd.func26 (by kernel_rfl) rfl rfl rfl (trivial) (trivial) (trivial) (trivial) rfl) trivial rfl ?_
  refine .q (op_notB rfl) trivial rfl ?_
  refine .nil ?_
  show Ev _ _ _ _ _
  refine .cond_false rfl (rfl) ?_
  refine .skip ?_
  show Ev _ _ _ _ _
  refine .seq ?_
  refine .region ?_
  refine .q (op_move rfl) trivial rfl ?_
  refine .q (op_call (U := []) [] [] (cut_ev s 32 hs (by decide)) Tryd.func18 (by kernel_rfl) rfl rfl rfl (⟨⟨_, rfl, rfl, rfl⟩, ⟨_, rfl, rfl, rfl⟩, trivial⟩) (trivial) (trivial) (trivial) rfl) trivial rfl ?_
  refine .q (op_move rfl) trivial rfl ?_
  refine .q (op_call (U := []) [] [] (cut_ev t 32 ht (by decide)) Tryd.func18 (by kernel_rfl) rfl rfl rfl (⟨⟨_, rfl, rfl, rfl⟩, ⟨_, rfl, rfl, rfl⟩, trivial⟩) (trivial) (trivial) (trivial) rfl) trivial rfl ?_
  refine .q (op_assign rfl) trivial rfl ?_
  refine .q (op_assign rfl) trivial rfl ?_
  refine .nil ?_
  show Ev _ _ _ _ _
  refine .seq ?_
  refine .region ?_
  refine .q (op_move rfl) trivial rfl ?_
  refine .q (op_call (U := []) [] [] (fof_ev _ (by simp only [List.length_take]; omega)) Tryd.func27 (by kernel_rfl) rfl rfl rfl (⟨⟨_, rfl, rfl, rfl⟩, trivial⟩) (trivial) (trivial) (trivial) rfl) trivial rfl ?_
  refine .as (.agg64 (fl u)) (congrArg (fun z => AV.agg64 (fl z)) eu) ?_
  refine .q (op_move rfl) trivial rfl ?_
  refine .q (op_call (U := []) [] [] (fof_ev _ (by simp only [List.length_take]; omega)) Tryd.func27 (by kernel_rfl) rfl rfl rfl (⟨⟨_, rfl, rfl, rfl⟩, trivial⟩) (trivial) (trivial) (trivial) rfl) trivial rfl ?_
  refine .as (.agg64 (fl v)) (congrArg (fun z => AV.agg64 (fl z)) ev) ?_
  refine .a (op_allocRow zero48 rel_zero48 rfl) trivial rfl ?_
  refine .a (op_allocRow zero48 rel_zero48 rfl) trivial rfl ?_
  refine .w (op_storeRow sz48 rfl rfl rfl rfl rfl (rfl) (rfl)) trivial rfl ?_
  refine .w (op_storeRow sz48 rfl rfl rfl rfl rfl (rfl) (rfl)) trivial rfl ?_
  refine .nil ?_
  show Ev _ _ _ _ _
  refine .seq ?_
  refine .region ?_
  refine .q (op_loadRow Tryd.underlying48 rfl sz48 rfl rfl rfl (rfl)) trivial rfl ?_
  refine .q (op_loadRow Tryd.underlying48 rfl sz48 rfl rfl rfl (rfl)) trivial rfl ?_
  refine .q (op_call (U := []) [] [] (hP) Tryd.func41 (by kernel_rfl) rfl rfl rfl (⟨⟨_, rfl, rfl, rfl⟩, ⟨_, rfl, rfl, rfl⟩, trivial⟩) (⟨⟨_, _, rfl, rfl, rfl, rfl, id, rfl⟩, ⟨_, _, rfl, rfl, rfl, rfl, id, rfl⟩, trivial⟩) (trivial) (⟨(fun h => by cases h), (fun h => by cases h), trivial⟩) rfl) trivial rfl ?_
  refine .q (op_move rfl) trivial rfl ?_
  refine .q (op_extract rfl rfl) trivial rfl ?_
  refine .q (op_extract rfl rfl) trivial rfl ?_
  refine .a (op_allocRow zero48 rel_zero48 rfl) trivial rfl ?_
  refine .w (op_storeRow sz48 rfl rfl rfl rfl rfl (rfl) (rfl)) trivial rfl ?_
  refine .q (op_assign rfl) trivial rfl ?_
  refine .nil ?_
  show Ev _ _ _ _ _
  refine .seq ?_
  refine .seq ?_
  refine .region ?_
  refine .q (op_loadRow Tryd.underlying48 rfl sz48 rfl rfl rfl (rfl)) trivial rfl ?_
  refine .q (op_call (U := []) [] [] (fzero_ev _ (by first | assumption | exact fmod_lt _ | exact ofV_lt _ | exact fp_pos | decide)) Tryd.func42 (by kernel_rfl) rfl rfl rfl (⟨⟨_, rfl, rfl, rfl⟩, trivial⟩) (trivial) (trivial) (trivial) rfl) trivial rfl ?_
  refine .nil ?_
  show Ev _ _ _ _ _
  refine .cond_false rfl (decide_eq_false hv0) ?_
  refine .skip ?_
  show Ev _ _ _ _ _
  refine .seq ?_
  refine .region ?_
  refine .q (op_move rfl) trivial rfl ?_
  refine .a (op_call (U := [(1024, some ⟨.aggI (dg (u)), 3, true⟩)]) [] [(1024, 1000)] (of05_as (s.take 32) u eu (by simp only [List.length_take]; omega)) Tryd.func28 (by kernel_rfl) rfl rfl rfl (⟨⟨_, rfl, rfl, rfl⟩, trivial⟩) (trivial) (⟨⟨1000, _, rfl, rfl, rfl, rfl, .inl rfl⟩, trivial⟩) (trivial) rfl) trivial rfl ?_
  refine .q (op_move rfl) trivial rfl ?_
  refine .a (op_call (U := [(1032, some ⟨.aggI (dg (v)), 3, true⟩)]) [] [(1032, 1000)] (of05_as (t.take 32) v ev (by simp only [List.length_take]; omega)) Tryd.func28 (by kernel_rfl) rfl rfl rfl (⟨⟨_, rfl, rfl, rfl⟩, trivial⟩) (trivial) (⟨⟨1000, _, rfl, rfl, rfl, rfl, .inl rfl⟩, trivial⟩) (trivial) rfl) trivial rfl ?_
  refine .a (op_call (U := [(1040, some ⟨.aggI (dg ((v ^ (fp - 2) % fp))), 3, true⟩)]) [(500, 1032)] [(1040, 1000)] (invert05 v (by first | assumption | exact Nat.mod_lt _ fp_pos' | exact fmod_lt _ | exact ofV_lt _ | exact fp_pos' | exact pw_lt _ _ _ | decide)) Tryd.func44 (by kernel_rfl) rfl rfl rfl (⟨⟨_, rfl, rfl, rfl⟩, trivial⟩) (⟨⟨_, _, rfl, rfl, rfl, rfl, (fun h => by cases h), rfl⟩, trivial⟩) (⟨⟨1000, _, rfl, rfl, rfl, rfl, .inl rfl⟩, trivial⟩) (⟨(fun h => by cases h), trivial⟩) rfl) trivial rfl ?_
  refine .a (op_call (U := [(1048, some ⟨.aggI (dg ((u * (v ^ (fp - 2) % fp) % fp))), 3, true⟩)]) [(500, 1024), (501, 1040)] [(1048, 1000)] (mul05 (u) ((v ^ (fp - 2) % fp)) (by first | assumption | exact Nat.mod_lt _ fp_pos' | exact fmod_lt _ | exact ofV_lt _ | exact fp_pos' | exact pw_lt _ _ _ | decide) (by first | assumption | exact Nat.mod_lt _ fp_pos' | exact fmod_lt _ | exact ofV_lt _ | exact fp_pos' | exact pw_lt _ _ _ | decide)) Tryd.func36 (by kernel_rfl) rfl rfl rfl (⟨⟨_, rfl, rfl, rfl⟩, ⟨_, rfl, rfl, rfl⟩, trivial⟩) (⟨⟨_, _, rfl, rfl, rfl, rfl, (fun h => by cases h), rfl⟩, ⟨_, _, rfl, rfl, rfl, rfl, (fun h => by cases h), rfl⟩, trivial⟩) (⟨⟨1000, _, rfl, rfl, rfl, rfl, .inl rfl⟩, trivial⟩) (⟨(fun h => by cases h), (fun h => by cases h), trivial⟩) rfl) trivial rfl ?_
  refine .a (op_call (U := [(1056, some ⟨.aggI (dg (z)), 3, true⟩)]) [(500, 1048)] [(1056, 1000)] (hR) Tryd.func43 (by kernel_rfl) rfl rfl rfl (⟨⟨_, rfl, rfl, rfl⟩, trivial⟩) (⟨⟨_, _, rfl, rfl, rfl, rfl, (fun h => by cases h), rfl⟩, trivial⟩) (⟨⟨1000, _, rfl, rfl, rfl, rfl, .inl rfl⟩, trivial⟩) (⟨(fun h => by cases h), trivial⟩) rfl) trivial rfl ?_
  refine .q (op_move rfl) trivial rfl ?_
  refine .q (op_extract rfl rfl) trivial rfl ?_
  refine .q (op_extract rfl rfl) trivial rfl ?_
  refine .q (op_assign rfl) trivial rfl ?_
  refine .q (op_assign rfl) trivial rfl ?_
  refine .nil ?_
  show Ev _ _ _ _ _
  refine .seq ?_
  refine .seq ?_
  refine .region ?_
  refine .q (op_move rfl) trivial rfl ?_
  refine .q (op_move rfl) trivial rfl ?_
  refine .q (op_eqB Tryd.underlying4 rfl rfl rfl) trivial rfl ?_
  refine .q (op_move rfl) trivial rfl ?_
  refine .know (b' := false) (rfl) ?_
  refine .q (op_loadRow Tryd.underlying48 rfl sz48 rfl rfl rfl (rfl)) ⟨_, rfl, rfl⟩ rfl ?_
  refine .q (op_move rfl) ⟨_, rfl, rfl⟩ rfl ?_
  refine .q (op_call (U := []) [(500, 1056)] [] (is_ev (z)) Tryd.func29 (by kernel_rfl) rfl rfl rfl (⟨⟨_, rfl, rfl, rfl⟩, ⟨_, rfl, rfl, rfl⟩, trivial⟩) (⟨⟨_, _, rfl, rfl, rfl, rfl, (fun h => by cases h), rfl⟩, trivial⟩) (trivial) (⟨(fun h => by cases h), trivial⟩) rfl) ⟨_, rfl, rfl⟩ rfl ?_
  refine .q (op_notB rfl) ⟨_, rfl, rfl⟩ rfl ?_
  refine .q (op_pick_false rfl rfl rfl) trivial rfl ?_
  refine .nil ?_
  show Ev _ _ _ _ _
  refine .cond_false rfl (rfl) ?_
  refine .skip ?_
  show Ev _ _ _ _ _
  refine .seq ?_
  refine .region ?_
  refine .q (op_call (U := []) [] [] (fminus1_ev e2) Tryd.func45 (by kernel_rfl) rfl rfl rfl (trivial) (⟨⟨_, _, rfl, rfl, rfl, rfl, id, rfl⟩, trivial⟩) (trivial) (⟨(fun h => by cases h), trivial⟩) rfl) trivial rfl ?_
  refine .a (op_allocRow zero48 rel_zero48 rfl) trivial rfl ?_
  refine .w (op_storeRow sz48 rfl rfl rfl rfl rfl (rfl) (rfl)) trivial rfl ?_
  refine .nil ?_
  show Ev _ _ _ _ _
  refine .seq ?_
  refine .drawn [[], [0], [0, 1], [0, 1, 2], [0, 1, 2, 3], [0, 1, 2, 3, 4], [0, 1, 2, 3, 4, 5], [0, 1, 2, 3, 4, 5, 6], [0, 1, 2, 3, 4, 5, 6, 7], [0, 1, 2, 3, 4, 5, 6, 7, 8], [0, 1, 2, 3, 4, 5, 6, 7, 8, 9], [0, 1, 2, 3, 4, 5, 6, 7, 8, 9, 10], [0, 1, 2, 3, 4, 5, 6, 7, 8, 9, 10, 11], [0, 1, 2, 3, 4, 5, 6, 7, 8, 9, 10, 11, 12], [0, 1, 2, 3, 4, 5, 6, 7, 8, 9, 10, 11, 12, 13], [0, 1, 2, 3, 4, 5, 6, 7, 8, 9, 10, 11, 12, 13, 14], [0, 1, 2, 3, 4, 5, 6, 7, 8, 9, 10, 11, 12, 13], [0, 1, 2, 3, 4, 5, 6, 7, 8, 9, 10, 11, 12, 13, 14, 15, 16], [0, 1, 2, 3, 4, 5, 6, 7, 8, 9, 10, 11, 12, 13], [0, 1, 2, 3, 4, 5, 6, 7, 8, 9, 10, 11, 12, 13, 14, 15, 16, 17, 18], [0, 1, 2, 3, 4, 5, 6, 7, 8, 9, 10, 11, 12, 13, 14, 15, 16, 17, 18, 19], [0, 1, 2, 3, 4, 5, 6, 7, 8, 9, 10, 11, 12, 13, 14, 15, 16, 17, 18, 19, 20], [0, 1, 2, 3, 4, 5, 6, 7, 8, 9, 10, 11, 12, 13, 14, 15, 16, 17, 18, 19, 20, 21], [0, 1, 2, 3, 4, 5, 6, 7, 8, 9, 10, 11, 12, 13, 14, 15, 16, 17, 18, 19, 20, 21, 22], [0, 1, 2, 3, 4, 5, 6, 7, 8, 9, 10, 11, 12, 13, 14, 15, 16, 17, 18, 19, 20, 21, 22, 23], [0, 1, 2, 3, 4, 5, 6, 7, 8, 9, 10, 11, 12, 13, 14, 15, 16, 17, 18, 19, 20, 21, 22, 23, 24], [0, 1, 2, 3, 4, 5, 6, 7, 8, 9, 10, 11, 12, 13, 14, 15, 16, 17, 18, 19, 20, 21, 22, 23, 24, 25], [0, 1, 2, 3, 4, 5, 6, 7, 8, 9, 10, 11, 12, 13, 14, 15, 16, 17, 18, 19, 20, 21, 22, 23, 24, 25, 26]] [0, 1, 2, 3, 4, 6, 7, 14, 15, 16, 17, 18, 19, 21, 22] [] (by kernel_rfl) (by kernel_rfl) rfl ?_
  show DK _ [0, 1, 2, 3, 4, 5, 6, 7, 8, 9, 10, 11, 12, 13, 14, 15, 16, 17, 18, 19, 20, 21, 22, 23, 24, 25, 26, 27] _ _ _
  refine .q rfl (op_loadRow Tryd.underlying48 rfl sz48 rfl rfl rfl (rfl)) trivial ?_
  refine .q rfl (op_call (U := []) [] [] (fsquare_ev _ (by first | assumption | exact fmod_lt _ | exact ofV_lt _ | exact fp_pos | decide)) Tryd.func37 (by kernel_rfl) rfl rfl rfl (⟨⟨_, rfl, rfl, rfl⟩, trivial⟩) (trivial) (trivial) (trivial) rfl) trivial ?_
  refine .q rfl (op_call (U := []) [] [] (fsmall_ev _) Tryd.func46 (by kernel_rfl) rfl rfl rfl (⟨⟨_, rfl, rfl, rfl⟩, trivial⟩) (trivial) (trivial) (trivial) rfl) trivial ?_
  refine .as (.agg64 (fl 1)) rfl ?_
  refine .q rfl (op_call (U := []) [] [] (fneg_ev e _ (by first | assumption | exact Nat.mod_lt _ fp_pos' | exact fmod_lt _ | exact ofV_lt _ | exact fp_pos' | exact pw_lt _ _ _ | decide)) Tryd.func34 (by kernel_rfl) rfl rfl rfl (⟨⟨_, rfl, rfl, rfl⟩, trivial⟩) (⟨⟨_, _, rfl, rfl, rfl, rfl, id, rfl⟩, trivial⟩) (trivial) (⟨(fun h => by cases h), trivial⟩) rfl) trivial ?_
  refine .q rfl (op_call (U := []) [] [] (fsame_ev _ _ (by first | assumption | exact fmod_lt _ | exact ofV_lt _ | exact fp_pos | decide) (by first | assumption | exact fmod_lt _ | exact ofV_lt _ | exact fp_pos | decide)) Tryd.func38 (by kernel_rfl) rfl rfl rfl (⟨⟨_, rfl, rfl, rfl⟩, ⟨_, rfl, rfl, rfl⟩, trivial⟩) (trivial) (trivial) (trivial) rfl) trivial ?_
  refine .q rfl (op_move rfl) trivial ?_
  refine .know (b' := true) (decide_eq_true iV_same) ?_
  refine .q rfl (op_loadRow Tryd.underlying48 rfl sz48 rfl rfl rfl (rfl)) ⟨_, rfl, rfl⟩ ?_
  refine .q rfl (op_call (U := []) [] [] (fodd_ev _) Tryd.func47 (by kernel_rfl) rfl rfl rfl (⟨⟨_, rfl, rfl, rfl⟩, trivial⟩) (trivial) (trivial) (trivial) rfl) ⟨_, rfl, rfl⟩ ?_
  refine .q rfl (op_notB rfl) ⟨_, rfl, rfl⟩ ?_
  refine .q rfl (op_pick_true rfl rfl rfl) trivial ?_
  refine .q rfl (op_move rfl) trivial ?_
  refine .know (b' := true) (by simp [iV_even]) ?_
  refine .q rfl (op_move rfl) ⟨_, rfl, rfl⟩ ?_
  refine .q rfl (op_notB rfl) ⟨_, rfl, rfl⟩ ?_
  refine .q rfl (op_move rfl) ⟨_, rfl, rfl⟩ ?_
  refine .know (b' := false) (rfl) ?_
  refine .q rfl (op_loadRow Tryd.underlying48 rfl sz48 rfl rfl rfl (rfl)) ⟨_, rfl, rfl⟩ ?_
  refine .q rfl (op_call (U := []) [] [] (fsquare_ev _ (by first | assumption | exact fmod_lt _ | exact ofV_lt _ | exact fp_pos | decide)) Tryd.func37 (by kernel_rfl) rfl rfl rfl (⟨⟨_, rfl, rfl, rfl⟩, trivial⟩) (trivial) (trivial) (trivial) rfl) ⟨_, rfl, rfl⟩ ?_
  refine .q rfl (op_loadRow Tryd.underlying48 rfl sz48 rfl rfl rfl (rfl)) ⟨_, rfl, rfl⟩ ?_
  refine .q rfl (op_call (U := []) [] [] (fmul_ev _ _ (by first | assumption | exact fmod_lt _ | exact ofV_lt _ | exact fp_pos | decide) (by first | assumption | exact fmod_lt _ | exact ofV_lt _ | exact fp_pos | decide)) Tryd.func35 (by kernel_rfl) rfl rfl rfl (⟨⟨_, rfl, rfl, rfl⟩, ⟨_, rfl, rfl, rfl⟩, trivial⟩) (trivial) (trivial) (trivial) rfl) ⟨_, rfl, rfl⟩ ?_
  refine .q rfl (op_loadRow Tryd.underlying48 rfl sz48 rfl rfl rfl (rfl)) ⟨_, rfl, rfl⟩ ?_
  refine .q rfl (op_call (U := []) [] [] (fsame_ev _ _ (by first | assumption | exact fmod_lt _ | exact ofV_lt _ | exact fp_pos | decide) (by first | assumption | exact fmod_lt _ | exact ofV_lt _ | exact fp_pos | decide)) Tryd.func38 (by kernel_rfl) rfl rfl rfl (⟨⟨_, rfl, rfl, rfl⟩, ⟨_, rfl, rfl, rfl⟩, trivial⟩) (trivial) (trivial) (trivial) rfl) ⟨_, rfl, rfl⟩ ?_
  refine .q rfl (op_move rfl) ⟨_, rfl, rfl⟩ ?_
  refine .know (b' := true) (decide_eq_true hz2) ?_
  refine .q rfl (op_loadRow Tryd.underlying48 rfl sz48 rfl rfl rfl (rfl)) ⟨_, rfl, rfl⟩ ?_
  refine .q rfl (op_call (U := []) [] [] (fodd_ev _) Tryd.func47 (by kernel_rfl) rfl rfl rfl (⟨⟨_, rfl, rfl, rfl⟩, trivial⟩) (trivial) (trivial) (trivial) rfl) ⟨_, rfl, rfl⟩ ?_
  refine .q rfl (op_notB rfl) ⟨_, rfl, rfl⟩ ?_
  refine .q rfl (op_pick_true rfl rfl rfl) ⟨_, rfl, rfl⟩ ?_
  refine .q rfl (op_pick_false rfl rfl rfl) ⟨_, rfl, rfl⟩ ?_
  refine .q rfl (op_pick_true rfl rfl rfl) trivial ?_
  refine .q rfl (op_assign rfl) trivial ?_
  refine .nil ?_
  show Ev _ _ _ _ _
  refine .ret ?_
  show RetOk _ _ _ _ _ _ _
  exact ret1v rfl (.inl rfl) rfl (by first | rfl | (simp [hz]; done) | (simp; done)) trivial
set_option maxHeartbeats 2000000 in
set_option maxRecDepth 100000 in
theorem roots_F (e e2 : Nat) (s t : List UInt8) (hs : s.length ≤ maxLen) (ht : t.length ≤ maxLen) (u v : Nat) (eu : ofV (s.take 32) = u) (ev : ofV (t.take 32) = v) (hu : u < fp) (hv : v < fp) (hv0 : v ≠ 0) (hP : Meets Tryd.prog 41 [.agg64 (fl u), .agg64 (fl v)] (HPM e e2) (.tup [.agg64 (fl 0), .bool false]) []) (hR : Meets Tryd.prog 43 [.sl 500 0 (dl (u * (v ^ (fp - 2) % fp) % fp)) 1] [(500, some ⟨.aggI (dg (u * (v ^ (fp - 2) % fp) % fp)), 3, false⟩)] (.tup [.nilsl, .bool false]) []) (hz : True) : Meets Tryd.prog 10 [.str s, .str t] (HPM e e2) (.bool true) [] := by
  refine meets_of_ev (nt := 85) Tryd.func10 rfl rfl (Nat.le_of_ble_eq_true rfl) ?_
  refine .seq ?_
  refine .region ?_
  refine .q (op_assign rfl) trivial rfl ?_
  refine .nil ?_
  show Ev _ _ _ _ _
  refine .seq ?_
  refine .seq ?_
  refine .region ?_
  refine .q (op_call (U := []) [] [] (awake5_ev) Tryd.func26 (by kernel_rfl) rfl rfl rfl (trivial) (trivial) (trivial) (trivial) rfl) trivial rfl ?_
  refine .q (op_notB rfl) trivial rfl ?_
  refine .nil ?_
  show Ev _ _ _ _ _
  refine .cond_false rfl (rfl) ?_
  refine .skip ?_
  show Ev _ _ _ _ _
  refine .seq ?_
  refine .region ?_
  refine .q (op_move rfl) trivial rfl ?_
  refine .q (op_call (U := []) [] [] (cut_ev s 32 hs (by decide)) Tryd.func18 (by kernel_rfl) rfl rfl rfl (⟨⟨_, rfl, rfl, rfl⟩, ⟨_, rfl, rfl, rfl⟩, trivial⟩) (trivial) (trivial) (trivial) rfl) trivial rfl ?_
  refine .q (op_move rfl) trivial rfl ?_
  refine .q (op_call (U := []) [] [] (cut_ev t 32 ht (by decide)) Tryd.func18 (by kernel_rfl) rfl rfl rfl (⟨⟨_, rfl, rfl, rfl⟩, ⟨_, rfl, rfl, rfl⟩, trivial⟩) (trivial) (trivial) (trivial) rfl) trivial rfl ?_
  refine .q (op_assign rfl) trivial rfl ?_
  refine .q (op_assign rfl) trivial rfl ?_
  refine .nil ?_
  show Ev _ _ _ _ _
  refine .seq ?_
  refine .region ?_
  refine .q (op_move rfl) trivial rfl ?_
  refine .q (op_call (U := []) [] [] (fof_ev _ (by simp only [List.length_take]; omega)) Tryd.func27 (by kernel_rfl) rfl rfl rfl (⟨⟨_, rfl, rfl, rfl⟩, trivial⟩) (trivial) (trivial) (trivial) rfl) trivial rfl ?_
  refine .as (.agg64 (fl u)) (congrArg (fun z => AV.agg64 (fl z)) eu) ?_
  refine .q (op_move rfl) trivial rfl ?_
  refine .q (op_call (U := []) [] [] (fof_ev _ (by simp only [List.length_take]; omega)) Tryd.func27 (by kernel_rfl) rfl rfl rfl (⟨⟨_, rfl, rfl, rfl⟩, trivial⟩) (trivial) (trivial) (trivial) rfl) trivial rfl ?_
  refine .as (.agg64 (fl v)) (congrArg (fun z => AV.agg64 (fl z)) ev) ?_
  refine .a (op_allocRow zero48 rel_zero48 rfl) trivial rfl ?_
  refine .a (op_allocRow zero48 rel_zero48 rfl) trivial rfl ?_
  refine .w (op_storeRow sz48 rfl rfl rfl rfl rfl (rfl) (rfl)) trivial rfl ?_
  refine .w (op_storeRow sz48 rfl rfl rfl rfl rfl (rfl) (rfl)) trivial rfl ?_
  refine .nil ?_
  show Ev _ _ _ _ _
  refine .seq ?_
  refine .region ?_
  refine .q (op_loadRow Tryd.underlying48 rfl sz48 rfl rfl rfl (rfl)) trivial rfl ?_
  refine .q (op_loadRow Tryd.underlying48 rfl sz48 rfl rfl rfl (rfl)) trivial rfl ?_
  refine .q (op_call (U := []) [] [] (hP) Tryd.func41 (by kernel_rfl) rfl rfl rfl (⟨⟨_, rfl, rfl, rfl⟩, ⟨_, rfl, rfl, rfl⟩, trivial⟩) (⟨⟨_, _, rfl, rfl, rfl, rfl, id, rfl⟩, ⟨_, _, rfl, rfl, rfl, rfl, id, rfl⟩, trivial⟩) (trivial) (⟨(fun h => by cases h), (fun h => by cases h), trivial⟩) rfl) trivial rfl ?_
  refine .q (op_move rfl) trivial rfl ?_
  refine .q (op_extract rfl rfl) trivial rfl ?_
  refine .q (op_extract rfl rfl) trivial rfl ?_
  refine .a (op_allocRow zero48 rel_zero48 rfl) trivial rfl ?_
  refine .w (op_storeRow sz48 rfl rfl rfl rfl rfl (rfl) (rfl)) trivial rfl ?_
  refine .q (op_assign rfl) trivial rfl ?_
  refine .nil ?_
  show Ev _ _ _ _ _
  refine .seq ?_
  refine .seq ?_
  refine .region ?_
  refine .q (op_loadRow Tryd.underlying48 rfl sz48 rfl rfl rfl (rfl)) trivial rfl ?_
  refine .q (op_call (U := []) [] [] (fzero_ev _ (by first | assumption | exact fmod_lt _ | exact ofV_lt _ | exact fp_pos | decide)) Tryd.func42 (by kernel_rfl) rfl rfl rfl (⟨⟨_, rfl, rfl, rfl⟩, trivial⟩) (trivial) (trivial) (trivial) rfl) trivial rfl ?_
  refine .nil ?_
  show Ev _ _ _ _ _
  refine .cond_false rfl (decide_eq_false hv0) ?_
  refine .skip ?_
  show Ev _ _ _ _ _
  refine .seq ?_
  refine .region ?_
  refine .q (op_move rfl) trivial rfl ?_
  refine .a (op_call (U := [(1024, some ⟨.aggI (dg (u)), 3, true⟩)]) [] [(1024, 1000)] (of05_as (s.take 32) u eu (by simp only [List.length_take]; omega)) Tryd.func28 (by kernel_rfl) rfl rfl rfl (⟨⟨_, rfl, rfl, rfl⟩, trivial⟩) (trivial) (⟨⟨1000, _, rfl, rfl, rfl, rfl, .inl rfl⟩, trivial⟩) (trivial) rfl) trivial rfl ?_
  refine .q (op_move rfl) trivial rfl ?_
  refine .a (op_call (U := [(1032, some ⟨.aggI (dg (v)), 3, true⟩)]) [] [(1032, 1000)] (of05_as (t.take 32) v ev (by simp only [List.length_take]; omega)) Tryd.func28 (by kernel_rfl) rfl rfl rfl (⟨⟨_, rfl, rfl, rfl⟩, trivial⟩) (trivial) (⟨⟨1000, _, rfl, rfl, rfl, rfl, .inl rfl⟩, trivial⟩) (trivial) rfl) trivial rfl ?_
  refine .a (op_call (U := [(1040, some ⟨.aggI (dg ((v ^ (fp - 2) % fp))), 3, true⟩)]) [(500, 1032)] [(1040, 1000)] (invert05 v (by first | assumption | exact Nat.mod_lt _ fp_pos' | exact fmod_lt _ | exact ofV_lt _ | exact fp_pos' | exact pw_lt _ _ _ | decide)) Tryd.func44 (by kernel_rfl) rfl rfl rfl (⟨⟨_, rfl, rfl, rfl⟩, trivial⟩) (⟨⟨_, _, rfl, rfl, rfl, rfl, (fun h => by cases h), rfl⟩, trivial⟩) (⟨⟨1000, _, rfl, rfl, rfl, rfl, .inl rfl⟩, trivial⟩) (⟨(fun h => by cases h), trivial⟩) rfl) trivial rfl ?_
  refine .a (op_call (U := [(1048, some ⟨.aggI (dg ((u * (v ^ (fp - 2) % fp) % fp))), 3, true⟩)]) [(500, 1024), (501, 1040)] [(1048, 1000)] (mul05 (u) ((v ^ (fp - 2) % fp)) (by first | assumption | exact Nat.mod_lt _ fp_pos' | exact fmod_lt _ | exact ofV_lt _ | exact fp_pos' | exact pw_lt _ _ _ | decide) (by first | assumption | exact Nat.mod_lt _ fp_pos' | exact fmod_lt _ | exact ofV_lt _ | exact fp_pos' | exact pw_lt _ _ _ | decide)) Tryd.func36 (by kernel_rfl) rfl rfl rfl (⟨⟨_, rfl, rfl, rfl⟩, ⟨_, rfl, rfl, rfl⟩, trivial⟩) (⟨⟨_, _, rfl, rfl, rfl, rfl, (fun h => by cases h), rfl⟩, ⟨_, _, rfl, rfl, rfl, rfl, (fun h => by cases h), rfl⟩, trivial⟩) (⟨⟨1000, _, rfl, rfl, rfl, rfl, .inl rfl⟩, trivial⟩) (⟨(fun h => by cases h), (fun h => by cases h), trivial⟩) rfl) trivial rfl ?_
  refine .q (op_call (U := []) [(500, 1048)] [] (hR) Tryd.func43 (by kernel_rfl) rfl rfl rfl (⟨⟨_, rfl, rfl, rfl⟩, trivial⟩) (⟨⟨_, _, rfl, rfl, rfl, rfl, (fun h => by cases h), rfl⟩, trivial⟩) (trivial) (⟨(fun h => by cases h), trivial⟩) rfl) trivial rfl ?_
  refine .q (op_move rfl) trivial rfl ?_
  refine .q (op_extract rfl rfl) trivial rfl ?_
  refine .q (op_extract rfl rfl) trivial rfl ?_
  refine .q (op_assign rfl) trivial rfl ?_
  refine .q (op_assign rfl) trivial rfl ?_
  refine .nil ?_
  show Ev _ _ _ _ _
  refine .seq ?_
  refine .seq ?_
  refine .region ?_
  refine .q (op_move rfl) trivial rfl ?_
  refine .q (op_move rfl) trivial rfl ?_
  refine .q (op_eqB Tryd.underlying4 rfl rfl rfl) trivial rfl ?_
  refine .q (op_move rfl) trivial rfl ?_
  refine .know (b' := false) (rfl) ?_
  refine .q (op_loadRow Tryd.underlying48 rfl sz48 rfl rfl rfl (rfl)) ⟨_, rfl, rfl⟩ rfl ?_
  refine .q (op_move rfl) ⟨_, rfl, rfl⟩ rfl ?_
  refine .q (op_call (U := []) [] [] (isNil_ev) Tryd.func29 (by kernel_rfl) rfl rfl rfl (⟨⟨_, rfl, rfl, rfl⟩, ⟨_, rfl, rfl, rfl⟩, trivial⟩) (trivial) (trivial) (trivial) rfl) ⟨_, rfl, rfl⟩ rfl ?_
  refine .q (op_notB rfl) ⟨_, rfl, rfl⟩ rfl ?_
  refine .q (op_pick_false rfl rfl rfl) trivial rfl ?_
  refine .nil ?_
  show Ev _ _ _ _ _
  refine .cond_false rfl (rfl) ?_
  refine .skip ?_
  show Ev _ _ _ _ _
  refine .seq ?_
  refine .region ?_
  refine .q (op_call (U := []) [] [] (fminus1_ev e2) Tryd.func45 (by kernel_rfl) rfl rfl rfl (trivial) (⟨⟨_, _, rfl, rfl, rfl, rfl, id, rfl⟩, trivial⟩) (trivial) (⟨(fun h => by cases h), trivial⟩) rfl) trivial rfl ?_
  refine .a (op_allocRow zero48 rel_zero48 rfl) trivial rfl ?_
  refine .w (op_storeRow sz48 rfl rfl rfl rfl rfl (rfl) (rfl)) trivial rfl ?_
  refine .nil ?_
  show Ev _ _ _ _ _
  refine .seq ?_
  refine .drawn [[], [0], [0, 1], [0, 1, 2], [0, 1, 2, 3], [0, 1, 2, 3, 4], [0, 1, 2, 3, 4, 5], [0, 1, 2, 3, 4, 5, 6], [0, 1, 2, 3, 4, 5, 6, 7], [0, 1, 2, 3, 4, 5, 6, 7, 8], [0, 1, 2, 3, 4, 5, 6, 7, 8, 9], [0, 1, 2, 3, 4, 5, 6, 7, 8, 9, 10], [0, 1, 2, 3, 4, 5, 6, 7, 8, 9, 10, 11], [0, 1, 2, 3, 4, 5, 6, 7, 8, 9, 10, 11, 12], [0, 1, 2, 3, 4, 5, 6, 7, 8, 9, 10, 11, 12, 13], [0, 1, 2, 3, 4, 5, 6, 7, 8, 9, 10, 11, 12, 13, 14], [0, 1, 2, 3, 4, 5, 6, 7, 8, 9, 10, 11, 12, 13], [0, 1, 2, 3, 4, 5, 6, 7, 8, 9, 10, 11, 12, 13, 14, 15, 16], [0, 1, 2, 3, 4, 5, 6, 7, 8, 9, 10, 11, 12, 13], [0, 1, 2, 3, 4, 5, 6, 7, 8, 9, 10, 11, 12, 13, 14, 15, 16, 17, 18], [0, 1, 2, 3, 4, 5, 6, 7, 8, 9, 10, 11, 12, 13, 14, 15, 16, 17, 18, 19], [0, 1, 2, 3, 4, 5, 6, 7, 8, 9, 10, 11, 12, 13, 14, 15, 16, 17, 18, 19, 20], [0, 1, 2, 3, 4, 5, 6, 7, 8, 9, 10, 11, 12, 13, 14, 15, 16, 17, 18, 19, 20, 21], [0, 1, 2, 3, 4, 5, 6, 7, 8, 9, 10, 11, 12, 13, 14, 15, 16, 17, 18, 19, 20, 21, 22], [0, 1, 2, 3, 4, 5, 6, 7, 8, 9, 10, 11, 12, 13, 14, 15, 16, 17, 18, 19, 20, 21, 22, 23], [0, 1, 2, 3, 4, 5, 6, 7, 8, 9, 10, 11, 12, 13, 14, 15, 16, 17, 18, 19, 20, 21, 22, 23, 24], [0, 1, 2, 3, 4, 5, 6, 7, 8, 9, 10, 11, 12, 13, 14, 15, 16, 17, 18, 19, 20, 21, 22, 23, 24, 25], [0, 1, 2, 3, 4, 5, 6, 7, 8, 9, 10, 11, 12, 13, 14, 15, 16, 17, 18, 19, 20, 21, 22, 23, 24, 25, 26]] [0, 1, 2, 3, 4, 6, 7, 14, 15, 16, 17, 18, 19, 21, 22] [] (by kernel_rfl) (by kernel_rfl) rfl ?_
  show DK _ [0, 1, 2, 3, 4, 5, 6, 7, 8, 9, 10, 11, 12, 13, 14, 15, 16, 17, 18, 19, 20, 21, 22, 23, 24, 25, 26, 27] _ _ _
  refine .q rfl (op_loadRow Tryd.underlying48 rfl sz48 rfl rfl rfl (rfl)) trivial ?_
  refine .q rfl (op_call (U := []) [] [] (fsquare_ev _ (by first | assumption | exact fmod_lt _ | exact ofV_lt _ | exact fp_pos | decide)) Tryd.func37 (by kernel_rfl) rfl rfl rfl (⟨⟨_, rfl, rfl, rfl⟩, trivial⟩) (trivial) (trivial) (trivial) rfl) trivial ?_
  refine .q rfl (op_call (U := []) [] [] (fsmall_ev _) Tryd.func46 (by kernel_rfl) rfl rfl rfl (⟨⟨_, rfl, rfl, rfl⟩, trivial⟩) (trivial) (trivial) (trivial) rfl) trivial ?_
  refine .as (.agg64 (fl 1)) rfl ?_
  refine .q rfl (op_call (U := []) [] [] (fneg_ev e _ (by first | assumption | exact Nat.mod_lt _ fp_pos' | exact fmod_lt _ | exact ofV_lt _ | exact fp_pos' | exact pw_lt _ _ _ | decide)) Tryd.func34 (by kernel_rfl) rfl rfl rfl (⟨⟨_, rfl, rfl, rfl⟩, trivial⟩) (⟨⟨_, _, rfl, rfl, rfl, rfl, id, rfl⟩, trivial⟩) (trivial) (⟨(fun h => by cases h), trivial⟩) rfl) trivial ?_
  refine .q rfl (op_call (U := []) [] [] (fsame_ev _ _ (by first | assumption | exact fmod_lt _ | exact ofV_lt _ | exact fp_pos | decide) (by first | assumption | exact fmod_lt _ | exact ofV_lt _ | exact fp_pos | decide)) Tryd.func38 (by kernel_rfl) rfl rfl rfl (⟨⟨_, rfl, rfl, rfl⟩, ⟨_, rfl, rfl, rfl⟩, trivial⟩) (trivial) (trivial) (trivial) rfl) trivial ?_
  refine .q rfl (op_move rfl) trivial ?_
  refine .know (b' := true) (decide_eq_true iV_same) ?_
  refine .q rfl (op_loadRow Tryd.underlying48 rfl sz48 rfl rfl rfl (rfl)) ⟨_, rfl, rfl⟩ ?_
  refine .q rfl (op_call (U := []) [] [] (fodd_ev _) Tryd.func47 (by kernel_rfl) rfl rfl rfl (⟨⟨_, rfl, rfl, rfl⟩, trivial⟩) (trivial) (trivial) (trivial) rfl) ⟨_, rfl, rfl⟩ ?_
  refine .q rfl (op_notB rfl) ⟨_, rfl, rfl⟩ ?_
  refine .q rfl (op_pick_true rfl rfl rfl) trivial ?_
  refine .q rfl (op_move rfl) trivial ?_
  refine .know (b' := true) (by simp [iV_even]) ?_
  refine .q rfl (op_move rfl) ⟨_, rfl, rfl⟩ ?_
  refine .q rfl (op_notB rfl) ⟨_, rfl, rfl⟩ ?_
  refine .q rfl (op_move rfl) ⟨_, rfl, rfl⟩ ?_
  refine .know (b' := true) (rfl) ?_
  refine .no rfl ⟨_, rfl, rfl⟩ ?_
  refine .no rfl ⟨_, rfl, rfl⟩ ?_
  refine .no rfl ⟨_, rfl, rfl⟩ ?_
  refine .no rfl ⟨_, rfl, rfl⟩ ?_
  refine .no rfl ⟨_, rfl, rfl⟩ ?_
  refine .no rfl ⟨_, rfl, rfl⟩ ?_
  refine .no rfl ⟨_, rfl, rfl⟩ ?_
  refine .noU rfl ⟨_, rfl, rfl⟩ ?_
  refine .noU rfl ⟨_, rfl, rfl⟩ ?_
  refine .noU rfl ⟨_, rfl, rfl⟩ ?_
  refine .no rfl ⟨_, rfl, rfl⟩ ?_
  refine .q rfl (op_pick_true rfl rfl rfl) ⟨_, rfl, rfl⟩ ?_
  refine .q rfl (op_pick_true rfl rfl rfl) trivial ?_
  refine .q rfl (op_assign rfl) trivial ?_
  refine .nil ?_
  show Ev _ _ _ _ _
  refine .ret ?_
  show RetOk _ _ _ _ _ _ _
  exact ret1v rfl (.inl rfl) rfl (by first | rfl | (simp [hz]; done) | (simp; done)) trivial
set_option maxHeartbeats 2000000 in
set_option maxRecDepth 100000 in
theorem roots_Z1 (e e2 : Nat) (s t : List UInt8) (hs : s.length ≤ maxLen) (ht : t.length ≤ maxLen) (u v : Nat) (eu : ofV (s.take 32) = u) (ev : ofV (t.take 32) = v) (hu : u < fp) (hv : v < fp) (hv0 : v = 0) (hu0 : u = 0) (hP : Meets Tryd.prog 41 [.agg64 (fl u), .agg64 (fl v)] (HPM e e2) (.tup [.agg64 (fl 0), .bool true]) []) (hz : True) : Meets Tryd.prog 10 [.str s, .str t] (HPM e e2) (.bool true) [] := by
  refine meets_of_ev (nt := 85) Tryd.func10 rfl rfl (Nat.le_of_ble_eq_true rfl) ?_
  refine .seq ?_
  refine .region ?_
  refine .q (op_assign rfl) trivial rfl ?_
  refine .nil ?_
  show Ev _ _ _ _ _
  refine .seq ?_
  refine .seq ?_
  refine .region ?_
  refine .q (op_call (U := []) [] [] (awake5_ev) Tryd.func26 (by kernel_rfl) rfl rfl rfl (trivial) (trivial) (trivial) (trivial) rfl) trivial rfl ?_
  refine .q (op_notB rfl) trivial rfl ?_
  refine .nil ?_
  show Ev _ _ _ _ _
  refine .cond_false rfl (rfl) ?_
  refine .skip ?_
  show Ev _ _ _ _ _
  refine .seq ?_
  refine .region ?_
  refine .q (op_move rfl) trivial rfl ?_
  refine .q (op_call (U := []) [] [] (cut_ev s 32 hs (by decide)) Tryd.func18 (by kernel_rfl) rfl rfl rfl (⟨⟨_, rfl, rfl, rfl⟩, ⟨_, rfl, rfl, rfl⟩, trivial⟩) (trivial) (trivial) (trivial) rfl) trivial rfl ?_
  refine .q (op_move rfl) trivial rfl ?_
  refine .q (op_call (U := []) [] [] (cut_ev t 32 ht (by decide)) Tryd.func18 (by kernel_rfl) rfl rfl rfl (⟨⟨_, rfl, rfl, rfl⟩, ⟨_, rfl, rfl, rfl⟩, trivial⟩) (trivial) (trivial) (trivial) rfl) trivial rfl ?_
  refine .q (op_assign rfl) trivial rfl ?_
  refine .q (op_assign rfl) trivial rfl ?_
  refine .nil ?_
  show Ev _ _ _ _ _
  refine .seq ?_
  refine .region ?_
  refine .q (op_move rfl) trivial rfl ?_
  refine .q (op_call (U := []) [] [] (fof_ev _ (by simp only [List.length_take]; omega)) Tryd.func27 (by kernel_rfl) rfl rfl rfl (⟨⟨_, rfl, rfl, rfl⟩, trivial⟩) (trivial) (trivial) (trivial) rfl) trivial rfl ?_
  refine .as (.agg64 (fl u)) (congrArg (fun z => AV.agg64 (fl z)) eu) ?_
  refine .q (op_move rfl) trivial rfl ?_
  refine .q (op_call (U := []) [] [] (fof_ev _ (by simp only [List.length_take]; omega)) Tryd.func27 (by kernel_rfl) rfl rfl rfl (⟨⟨_, rfl, rfl, rfl⟩, trivial⟩) (trivial) (trivial) (trivial) rfl) trivial rfl ?_
  refine .as (.agg64 (fl v)) (congrArg (fun z => AV.agg64 (fl z)) ev) ?_
  refine .a (op_allocRow zero48 rel_zero48 rfl) trivial rfl ?_
  refine .a (op_allocRow zero48 rel_zero48 rfl) trivial rfl ?_
  refine .w (op_storeRow sz48 rfl rfl rfl rfl rfl (rfl) (rfl)) trivial rfl ?_
  refine .w (op_storeRow sz48 rfl rfl rfl rfl rfl (rfl) (rfl)) trivial rfl ?_
  refine .nil ?_
  show Ev _ _ _ _ _
  refine .seq ?_
  refine .region ?_
  refine .q (op_loadRow Tryd.underlying48 rfl sz48 rfl rfl rfl (rfl)) trivial rfl ?_
  refine .q (op_loadRow Tryd.underlying48 rfl sz48 rfl rfl rfl (rfl)) trivial rfl ?_
  refine .q (op_call (U := []) [] [] (hP) Tryd.func41 (by kernel_rfl) rfl rfl rfl (⟨⟨_, rfl, rfl, rfl⟩, ⟨_, rfl, rfl, rfl⟩, trivial⟩) (⟨⟨_, _, rfl, rfl, rfl, rfl, id, rfl⟩, ⟨_, _, rfl, rfl, rfl, rfl, id, rfl⟩, trivial⟩) (trivial) (⟨(fun h => by cases h), (fun h => by cases h), trivial⟩) rfl) trivial rfl ?_
  refine .q (op_move rfl) trivial rfl ?_
  refine .q (op_extract rfl rfl) trivial rfl ?_
  refine .q (op_extract rfl rfl) trivial rfl ?_
  refine .a (op_allocRow zero48 rel_zero48 rfl) trivial rfl ?_
  refine .w (op_storeRow sz48 rfl rfl rfl rfl rfl (rfl) (rfl)) trivial rfl ?_
  refine .q (op_assign rfl) trivial rfl ?_
  refine .nil ?_
  show Ev _ _ _ _ _
  refine .seq ?_
  refine .seq ?_
  refine .region ?_
  refine .q (op_loadRow Tryd.underlying48 rfl sz48 rfl rfl rfl (rfl)) trivial rfl ?_
  refine .q (op_call (U := []) [] [] (fzero_ev _ (by first | assumption | exact fmod_lt _ | exact ofV_lt _ | exact fp_pos | decide)) Tryd.func42 (by kernel_rfl) rfl rfl rfl (⟨⟨_, rfl, rfl, rfl⟩, trivial⟩) (trivial) (trivial) (trivial) rfl) trivial rfl ?_
  refine .nil ?_
  show Ev _ _ _ _ _
  refine .cond_true rfl (decide_eq_true hv0) ?_
  refine .seq ?_
  refine .region ?_
  refine .q (op_move rfl) trivial rfl ?_
  refine .q (op_loadRow Tryd.underlying48 rfl sz48 rfl rfl rfl (rfl)) trivial rfl ?_
  refine .q (op_call (U := []) [] [] (fzero_ev _ (by first | assumption | exact fmod_lt _ | exact ofV_lt _ | exact fp_pos | decide)) Tryd.func42 (by kernel_rfl) rfl rfl rfl (⟨⟨_, rfl, rfl, rfl⟩, trivial⟩) (trivial) (trivial) (trivial) rfl) trivial rfl ?_
  refine .q (op_eqB Tryd.underlying4 rfl rfl rfl) trivial rfl ?_
  refine .q (op_move rfl) trivial rfl ?_
  refine .know (b' := true) (by simp [hu0]) ?_
  refine .q (op_loadRow Tryd.underlying48 rfl sz48 rfl rfl rfl (rfl)) ⟨_, rfl, rfl⟩ rfl ?_
  refine .q (op_call (U := []) [] [] (fzero_ev _ (by first | assumption | exact fmod_lt _ | exact ofV_lt _ | exact fp_pos | decide)) Tryd.func42 (by kernel_rfl) rfl rfl rfl (⟨⟨_, rfl, rfl, rfl⟩, trivial⟩) (trivial) (trivial) (trivial) rfl) ⟨_, rfl, rfl⟩ rfl ?_
  refine .q (op_pick_true rfl rfl rfl) trivial rfl ?_
  refine .q (op_assign rfl) trivial rfl ?_
  refine .nil ?_
  show Ev _ _ _ _ _
  refine .ret ?_
  show RetOk _ _ _ _ _ _ _
  exact ret1v rfl (.inl rfl) rfl (by first | rfl | (simp [hz]; done) | (simp; done)) trivial
set_option maxHeartbeats 2000000 in
set_option maxRecDepth 100000 in
theorem roots_Z2 (e e2 : Nat) (s t : List UInt8) (hs : s.length ≤ maxLen) (ht : t.length ≤ maxLen) (u v : Nat) (eu : ofV (s.take 32) = u) (ev : ofV (t.take 32) = v) (hu : u < fp) (hv : v < fp) (hv0 : v = 0) (hu0 : u ≠ 0) (hP : Meets Tryd.prog 41 [.agg64 (fl u), .agg64 (fl v)] (HPM e e2) (.tup [.agg64 (fl 0), .bool false]) []) (hz : True) : Meets Tryd.prog 10 [.str s, .str t] (HPM e e2) (.bool true) [] := by
  refine meets_of_ev (nt := 85) Tryd.func10 rfl rfl (Nat.le_of_ble_eq_true rfl) ?_
  refine .seq ?_
  refine .region ?_
  refine .q (op_assign rfl) trivial rfl ?_
  refine .nil ?_
  show Ev _ _ _ _ _
  refine .seq ?_
  refine .seq ?_
  refine .region ?_
  refine .q (op_call (U := []) [] [] (awake5_ev) Tryd.func26 (by kernel_rfl) rfl rfl rfl (trivial) (trivial) (trivial) (trivial) rfl) trivial rfl ?_
  refine .q (op_notB rfl) trivial rfl ?_
  refine .nil ?_
  show Ev _ _ _ _ _
  refine .cond_false rfl (rfl) ?_
  refine .skip ?_
  show Ev _ _ _ _ _
  refine .seq ?_
  refine .region ?_
  refine .q (op_move rfl) trivial rfl ?_
  refine .q (op_call (U := []) [] [] (cut_ev s 32 hs (by decide)) Tryd.func18 (by kernel_rfl) rfl rfl rfl (⟨⟨_, rfl, rfl, rfl⟩, ⟨_, rfl, rfl, rfl⟩, trivial⟩) (trivial) (trivial) (trivial) rfl) trivial rfl ?_
  refine .q (op_move rfl) trivial rfl ?_
  refine .q (op_call (U := []) [] [] (cut_ev t 32 ht (by decide)) Tryd.func18 (by kernel_rfl) rfl rfl rfl (⟨⟨_, rfl, rfl, rfl⟩, ⟨_, rfl, rfl, rfl⟩, trivial⟩) (trivial) (trivial) (trivial) rfl) trivial rfl ?_
  refine .q (op_assign rfl) trivial rfl ?_
  refine .q (op_assign rfl) trivial rfl ?_
  refine .nil ?_
  show Ev _ _ _ _ _
  refine .seq ?_
  refine .region ?_
  refine .q (op_move rfl) trivial rfl ?_
  refine .q (op_call (U := []) [] [] (fof_ev _ (by simp only [List.length_take]; omega)) Tryd.func27 (by kernel_rfl) rfl rfl rfl (⟨⟨_, rfl, rfl, rfl⟩, trivial⟩) (trivial) (trivial) (trivial) rfl) trivial rfl ?_
  refine .as (.agg64 (fl u)) (congrArg (fun z => AV.agg64 (fl z)) eu) ?_
  refine .q (op_move rfl) trivial rfl ?_
  refine .q (op_call (U := []) [] [] (fof_ev _ (by simp only [List.length_take]; omega)) Tryd.func27 (by kernel_rfl) rfl rfl rfl (⟨⟨_, rfl, rfl, rfl⟩, trivial⟩) (trivial) (trivial) (trivial) rfl) trivial rfl ?_
  refine .as (.agg64 (fl v)) (congrArg (fun z => AV.agg64 (fl z)) ev) ?_
  refine .a (op_allocRow zero48 rel_zero48 rfl) trivial rfl ?_
  refine .a (op_allocRow zero48 rel_zero48 rfl) trivial rfl ?_
  refine .w (op_storeRow sz48 rfl rfl rfl rfl rfl (rfl) (rfl)) trivial rfl ?_
  refine .w (op_storeRow sz48 rfl rfl rfl rfl rfl (rfl) (rfl)) trivial rfl ?_
  refine .nil ?_
  show Ev _ _ _ _ _
  refine .seq ?_
  refine .region ?_
  refine .q (op_loadRow Tryd.underlying48 rfl sz48 rfl rfl rfl (rfl)) trivial rfl ?_
  refine .q (op_loadRow Tryd.underlying48 rfl sz48 rfl rfl rfl (rfl)) trivial rfl ?_
  refine .q (op_call (U := []) [] [] (hP) Tryd.func41 (by kernel_rfl) rfl rfl rfl (⟨⟨_, rfl, rfl, rfl⟩, ⟨_, rfl, rfl, rfl⟩, trivial⟩) (⟨⟨_, _, rfl, rfl, rfl, rfl, id, rfl⟩, ⟨_, _, rfl, rfl, rfl, rfl, id, rfl⟩, trivial⟩) (trivial) (⟨(fun h => by cases h), (fun h => by cases h), trivial⟩) rfl) trivial rfl ?_
  refine .q (op_move rfl) trivial rfl ?_
  refine .q (op_extract rfl rfl) trivial rfl ?_
  refine .q (op_extract rfl rfl) trivial rfl ?_
  refine .a (op_allocRow zero48 rel_zero48 rfl) trivial rfl ?_
  refine .w (op_storeRow sz48 rfl rfl rfl rfl rfl (rfl) (rfl)) trivial rfl ?_
  refine .q (op_assign rfl) trivial rfl ?_
  refine .nil ?_
  show Ev _ _ _ _ _
  refine .seq ?_
  refine .seq ?_
  refine .region ?_
  refine .q (op_loadRow Tryd.underlying48 rfl sz48 rfl rfl rfl (rfl)) trivial rfl ?_
  refine .q (op_call (U := []) [] [] (fzero_ev _ (by first | assumption | exact fmod_lt _ | exact ofV_lt _ | exact fp_pos | decide)) Tryd.func42 (by kernel_rfl) rfl rfl rfl (⟨⟨_, rfl, rfl, rfl⟩, trivial⟩) (trivial) (trivial) (trivial) rfl) trivial rfl ?_
  refine .nil ?_
  show Ev _ _ _ _ _
  refine .cond_true rfl (decide_eq_true hv0) ?_
  refine .seq ?_
  refine .region ?_
  refine .q (op_move rfl) trivial rfl ?_
  refine .q (op_loadRow Tryd.underlying48 rfl sz48 rfl rfl rfl (rfl)) trivial rfl ?_
  refine .q (op_call (U := []) [] [] (fzero_ev _ (by first | assumption | exact fmod_lt _ | exact ofV_lt _ | exact fp_pos | decide)) Tryd.func42 (by kernel_rfl) rfl rfl rfl (⟨⟨_, rfl, rfl, rfl⟩, trivial⟩) (trivial) (trivial) (trivial) rfl) trivial rfl ?_
  refine .q (op_eqB Tryd.underlying4 rfl rfl rfl) trivial rfl ?_
  refine .q (op_move rfl) trivial rfl ?_
  refine .know (b' := true) (by simp [hu0]) ?_
  refine .q (op_loadRow Tryd.underlying48 rfl sz48 rfl rfl rfl (rfl)) ⟨_, rfl, rfl⟩ rfl ?_
  refine .q (op_call (U := []) [] [] (fzero_ev _ (by first | assumption | exact fmod_lt _ | exact ofV_lt _ | exact fp_pos | decide)) Tryd.func42 (by kernel_rfl) rfl rfl rfl (⟨⟨_, rfl, rfl, rfl⟩, trivial⟩) (trivial) (trivial) (trivial) rfl) ⟨_, rfl, rfl⟩ rfl ?_
  refine .q (op_pick_true rfl rfl rfl) trivial rfl ?_
  refine .q (op_assign rfl) trivial rfl ?_
  refine .nil ?_
  show Ev _ _ _ _ _
  refine .ret ?_
  show RetOk _ _ _ _ _ _ _
  exact ret1v rfl (.inl rfl) rfl (by first | rfl | (simp [hz]; done) | (simp; done)) trivial
end Go.Proofs.YtjhpelajhkhlcaaDoor
namespace Go.Proofs.YtjhpelajhkhlcaaDoor
theorem neg_neg_mod {p y : Nat} (hy : y < p) : (p - (p - y) % p) % p = y := by
  by_cases h : y = 0
  · rw [h, Nat.sub_zero, Nat.mod_self, Nat.sub_zero, Nat.mod_self]
  · rw [Nat.mod_eq_of_lt (show p - y < p by omega), show p - (p - y) = y by omega, Nat.mod_eq_of_lt hy]
theorem fp_odd : fp % 2 = 1 := by decide +kernel
theorem fp_pos2 : 0 < fp := by decide
def sgN (r : Nat) : Nat := if decide (r % 2 = 1) then (fp - r) % fp else r
theorem sg_lt {r : Nat} (h : r < fp) : sgN r < fp := by
  unfold sgN; split
  · exact Nat.mod_lt _ fp_pos2
  · exact h
theorem sg_even {r : Nat} (h : r < fp) : sgN r % 2 = 0 := by
  unfold sgN; split
  · rename_i c
    have c := of_decide_eq_true c
    have := fp_odd
    rw [Nat.mod_eq_of_lt (show fp - r < fp by omega)]; omega
  · rename_i c
    have : ¬ r % 2 = 1 := fun e => c (decide_eq_true e)
    omega
theorem neg_sq {p r : Nat} (h : r < p) : (p - r) % p * ((p - r) % p) % p = r * r % p := by
  have hp : 0 < p := by omega
  rw [← Nat.mul_mod, neg_mul_mod (Nat.le_of_lt h) hp, Nat.mul_comm r, neg_mul_mod (Nat.le_of_lt h) hp, neg_neg_mod (Nat.mod_lt _ hp)]
theorem sg_sq {r : Nat} (h : r < fp) : sgN r * sgN r % fp = r * r % fp := by
  unfold sgN; split
  · exact neg_sq h
  · rfl
theorem iV_neg (r : Nat) : (r * iV % fp) * (r * iV % fp) % fp = (fp - r * r % fp) % fp := by
  have h : r * iV * (r * iV) = (iV * iV) * (r * r) := by rw [Nat.mul_mul_mul_comm, Nat.mul_comm]
  rw [← Nat.mul_mod, h, Nat.mul_mod, iV_sq, ← Nat.mod_eq_of_lt (show fp - 1 < fp by decide), ← Nat.mul_mod, neg_mul_mod (by decide) fp_pos2, Nat.one_mul]
theorem q_pos {u v r : Nat} (hu : u < fp) (h0 : v ≠ 0) (hv : v < fp) : r * r % fp * v % fp = u ↔ r * r % fp = u * (v ^ (fp - 2) % fp) % fp := by
  have h := root_ok (u := u) (q := r * r) (p := fp) (by decide) (fermat1 prm_fp (not_dvd h0 hv))
  rw [Nat.mod_mul_mod, Nat.mul_mod_mod, ← h, Nat.mod_eq_of_lt hu]
theorem q_neg {u v r : Nat} (hu : u < fp) (h0 : v ≠ 0) (hv : v < fp) : r * r % fp * v % fp = (fp - u) % fp ↔ r * r % fp = (fp - u * (v ^ (fp - 2) % fp) % fp) % fp := by
  have h := root_ok (u := fp - u) (q := r * r) (p := fp) (by decide) (fermat1 prm_fp (not_dvd h0 hv))
  rw [Nat.mod_mul_mod, Nat.mul_mod_mod, h, neg_mul_mod (Nat.le_of_lt hu) fp_pos2]
theorem x_zero {u v : Nat} (hu : u < fp) (h0 : v ≠ 0) (hv : v < fp) (h : u * (v ^ (fp - 2) % fp) % fp = 0) : u = 0 := by
  have hb := root_back (u := u) (v := v) (p := fp) (by decide) (fermat1 prm_fp (not_dvd h0 hv))
  rw [Nat.mul_mod_mod] at h
  rw [Nat.mul_mod, h, Nat.zero_mul, Nat.zero_mod, Nat.mod_eq_of_lt hu] at hb
  exact hb.symm
end Go.Proofs.YtjhpelajhkhlcaaDoor
namespace Go.Proofs.YtjhpelajhkhlcaaDoor
open Go.RowKit
theorem pow_zero_gen (x n : Nat) (hx : x = 0) (hn : n ≠ 0) : x ^ n % fp = 0 := by
  subst hx; rw [Nat.zero_pow (by omega), Nat.zero_mod]
theorem mul_zero_gen (u p y : Nat) : (u * 0 % p) * y % p = 0 := by
  rw [Nat.mul_zero, Nat.zero_mod, Nat.zero_mul, Nat.zero_mod]
theorem r0_zero (x : Nat) (hx : x = 0) : r0N x = 0 := pow_zero_gen x _ hx (by decide +kernel)
theorem fieldRoots_ev (e e2 : Nat) (s t : List UInt8) (hs : s.length ≤ maxLen) (ht : t.length ≤ maxLen) : Meets Tryd.prog 10 [.str s, .str t] (HPM e e2) (.bool true) [] := by
  obtain ⟨u, eu⟩ : ∃ z, ofV (s.take 32) = z := ⟨_, rfl⟩
  obtain ⟨v, ev⟩ : ∃ z, ofV (t.take 32) = z := ⟨_, rfl⟩
  have hu : u < fp := by rw [← eu]; exact ofV_lt _
  have hv : v < fp := by rw [← ev]; exact ofV_lt _
  have hp0 : 0 < fp := fp_pos2
  have hodd := fp_odd
  by_cases hv0 : v = 0
  · have hc : v * v % fp * v % fp = 0 := by rw [hv0]; simp
    have hr : (u * 0 % fp) * (((u * (0 * 0 % fp) % fp) * v % fp) ^ ((fp - 5) / 8) % fp) % fp = 0 := mul_zero_gen u fp _
    have hq : 0 * 0 % fp * v % fp = 0 := by simp
    by_cases hu0 : u = 0
    · refine roots_Z1 e e2 s t hs ht u v eu ev hu hv hv0 hu0 ?_ trivial
      exact (froot_P e e2 u v 0 0 0 hu hv hp0 hp0 hp0 hc hr hq (by rw [hu0, Nat.sub_zero, Nat.mod_self])).as (by simp)
    · exact roots_Z2 e e2 s t hs ht u v eu ev hu hv hv0 hu0 (froot_R e e2 u v 0 0 0 hu hv hp0 hp0 hp0 hc hr hq (by rw [Nat.mod_eq_of_lt (show fp - u < fp by omega)]; omega) (fun h => hu0 h.symm)) trivial
  · obtain ⟨x, ex⟩ : ∃ z, u * (v ^ (fp - 2) % fp) % fp = z := ⟨_, rfl⟩
    obtain ⟨r, er⟩ : ∃ z, r0N x = z := ⟨_, rfl⟩
    obtain ⟨c, hc⟩ : ∃ z, v * v % fp * v % fp = z := ⟨_, rfl⟩
    obtain ⟨q, hq⟩ : ∃ z, r * r % fp * v % fp = z := ⟨_, rfl⟩
    have hx : x < fp := by rw [← ex]; exact fmod_lt _
    have hrl : r < fp := by rw [← er]; exact r0_lt x
    have hcl : c < fp := by rw [← hc]; exact fmod_lt _
    have hql : q < fp := by rw [← hq]; exact fmod_lt _
    have hr : (u * c % fp) * (((u * (c * c % fp) % fp) * v % fp) ^ ((fp - 5) / 8) % fp) % fp = r := by
      rw [← hc, root_same u v hv0 hv, ex]; exact er
    have hpos := q_pos (r := r) hu hv0 hv
    have hneg := q_neg (r := r) hu hv0 hv
    rw [hq, ex] at hpos hneg
    have hiv := iV_neg r
    have hxu : x = 0 → u = 0 := fun h => x_zero hu hv0 hv (ex.trans h)
    have hux : u = 0 → x = 0 := fun h => by rw [← ex, h, Nat.zero_mul, Nat.zero_mod]
    have hback : ∀ z, z * z % fp = x → z * z % fp * v % fp = u := fun z hz => (q_pos (r := z) hu hv0 hv).2 (hz.trans ex.symm)
    have hm : r * iV % fp < fp := fmod_lt _
    by_cases h1 : q = (fp - u) % fp
    · have h2 := hneg.1 h1
      have hP := froot_P e e2 u v c r q hu hv hcl hrl hql hc hr hq h1
      by_cases hu0 : u = 0
      · have hx0 := hux hu0
        have hr0 : r = 0 := er.symm.trans (r0_zero x hx0)
        have hR := rootR_Ae x r hx er hrl (by rw [hr0, hx0]; simp) (by rw [hr0]; decide)
        refine roots_T e e2 s t hs ht u v 0 eu ev hu hv hv0 (hP.as (by rw [hr0]; simp)) ?_ hp0 (by rw [hu0]; simp) rfl
        rw [ex]
        rw [hr0] at hR
        exact hR
      · have hx0 : x ≠ 0 := fun h => hu0 (hxu h)
        have h3 : (fp - x) % fp = fp - x := Nat.mod_eq_of_lt (by omega)
        have h4 : r * r % fp ≠ x := by rw [h2, h3]; omega
        have h5 : (r * iV % fp) * (r * iV % fp) % fp = x := by rw [hiv, h2, neg_neg_mod hx]
        have hz := hback (sgN (r * iV % fp)) ((sg_sq hm).trans h5)
        refine roots_T e e2 s t hs ht u v (sgN (r * iV % fp)) eu ev hu hv hv0 hP ?_ (sg_lt hm) hz (sg_even hm)
        rw [ex]
        by_cases ho : r * iV % fp % 2 = 1
        · have := rootR_Bo x r hx er hrl h4 h5 ho
          rw [show sgN (r * iV % fp) = (fp - r * iV % fp) % fp by unfold sgN; rw [if_pos (decide_eq_true ho)]]
          exact this
        · have := rootR_Be x r hx er hrl h4 h5 ho
          rw [show sgN (r * iV % fp) = r * iV % fp by unfold sgN; rw [if_neg (fun h => ho (of_decide_eq_true h))]]
          exact this
    · by_cases h2 : q = u
      · have h5 := hpos.1 h2
        have hP := froot_Q e e2 u v c r q hu hv hcl hrl hql hc hr hq h1 h2
        have hz := hback (sgN r) ((sg_sq hrl).trans h5)
        refine roots_T e e2 s t hs ht u v (sgN r) eu ev hu hv hv0 hP ?_ (sg_lt hrl) hz (sg_even hrl)
        rw [ex]
        by_cases ho : r % 2 = 1
        · have := rootR_Ao x r hx er hrl h5 ho
          rw [show sgN r = (fp - r) % fp by unfold sgN; rw [if_pos (decide_eq_true ho)]]
          exact this
        · have := rootR_Ae x r hx er hrl h5 ho
          rw [show sgN r = r by unfold sgN; rw [if_neg (fun h => ho (of_decide_eq_true h))]]
          exact this
      · have hP := froot_R e e2 u v c r q hu hv hcl hrl hql hc hr hq h1 h2
        have h5 : r * r % fp ≠ x := fun h => h2 (hpos.2 h)
        have h6 : (r * iV % fp) * (r * iV % fp) % fp ≠ x := fun h => h1 (hneg.2 (by
          rw [hiv] at h
          rw [← h, neg_neg_mod (fmod_lt _)]))
        refine roots_F e e2 s t hs ht u v eu ev hu hv hv0 hP ?_ trivial
        rw [ex]
        exact rootR_C x r hx er hrl h5 h6
end Go.Proofs.YtjhpelajhkhlcaaDoor
namespace Go.Proofs.YtjhpelajhkhlcaaDoor
open Go.ChangeShapes Go.WideShapes Go.ChangeAt Go.RowKit
theorem laidM_eq : (Rows.laid_speakeasy_field_minus1Root : DataW Unit) = Lib.tabData .u64 (minusL.map fun x => (x.toNat : Int)) := by kernel_rfl
theorem bat_minus {W : World} {rest : List (String × DataW Unit)} (h : laidMet Tryd.prog (("speakeasy/field.minus1Root", Rows.laid_speakeasy_field_minus1Root) :: rest) W) : ∃ e, BAt (topE W) ⟨.agg64 minusL, e, false⟩ W 21 (sizeAt W 21) := by
  rw [laidM_eq] at h
  exact laid_words (by kernel_rfl) (by kernel_rfl) rfl h
theorem hpm_laid {w : World} {e e2 : Nat} (h : BAt (topE w) ⟨.agg64 primeL, e, false⟩ w 20 (sizeAt w 20)) (h2 : BAt (topE w) ⟨.agg64 minusL, e2, false⟩ w 21 (sizeAt w 21)) : ∀ b k, hget (HPM e e2) b = some k → b < 500 ∧ k.own = false ∧ BAt (topE w) k w b (sizeAt w b) := by
  intro b k hk
  have hm := hget_mem hk
  simp only [HPM, List.mem_cons, List.not_mem_nil, or_false, Prod.mk.injEq, Option.some.injEq] at hm
  rcases hm with ⟨rfl, rfl⟩ | ⟨rfl, rfl⟩
  · exact ⟨by decide, rfl, h⟩
  · exact ⟨by decide, rfl, h2⟩
theorem fieldRoots_any (s t : ByteArray) (w : World) (hs : s.size ≤ maxLen) (ht : t.size ≤ maxLen) (hP : ∃ e, BAt (topE w) ⟨.agg64 primeL, e, false⟩ w 20 (sizeAt w 20)) (hM : ∃ e, BAt (topE w) ⟨.agg64 minusL, e, false⟩ w 21 (sizeAt w 21)) :
    Calls Tryd.prog 10 #[.string s, .string t] w fun e w' => e = .returned (.bool true) ∧ Below w.heap.size w w' := by
  obtain ⟨e, he⟩ := hP
  obtain ⟨e2, he2⟩ := hM
  refine walk_of_meets (fieldRoots_ev e e2 s.data.toList t.data.toList hs ht) rfl (fun i x y hx hy => ?_) (hpm_laid he he2)
  match i, hx, hy with
  | 0, hx, hy => injection hx with hx; injection hy with hy; subst hx; subst hy; exact .str _
  | 1, hx, hy => injection hx with hx; injection hy with hy; subst hx; subst hy; exact .str _
  | i + 2, hx, _ => simp at hx
end Go.Proofs.YtjhpelajhkhlcaaDoor
