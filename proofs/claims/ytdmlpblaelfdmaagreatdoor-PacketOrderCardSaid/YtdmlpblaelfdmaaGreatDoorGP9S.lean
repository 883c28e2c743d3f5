/-
  Texts of this claim.
-/
import Derived.Test.YtdmlpblaelfdmaaGreatDoorGR2S
import Derived.Test.YtdmlpblaelfdmaaGreatDoorGR1S
import Derived.Test.YtdmlpblaelfdmaaGreatDoorGPCS
import Derived.Test.YtdmlpblaelfdmaaGreatDoorGX1S
namespace Go.Proofs.YtdmlpblaelfdmaaGreatDoor
open Go.RowKit
def m16 (k : List UInt8) : Nat → List UInt8
  | 0 => k
  | j + 1 => (m16 k j).set (4 * j + 3) ((m16 k j).getD (4 * j + 3) 0 % 16)
def m4 (k : List UInt8) : Nat → List UInt8
  | 0 => k
  | j + 1 => (m4 k j).set (4 * j + 4) ((m4 k j).getD (4 * j + 4) 0 / 4 * 4)
theorem length_m16 (k : List UInt8) (j : Nat) : (m16 k j).length = k.length := by induction j with | zero => rfl | succ j ih => simp [m16, ih]
theorem length_m4 (k : List UInt8) (j : Nat) : (m4 k j).length = k.length := by induction j with | zero => rfl | succ j ih => simp [m4, ih]
/-- The key's first half, without the bits that are left out. -/
def clR (key : List UInt8) : List UInt8 := m4 (m16 (key.take 16) 4) 3
theorem length_clR (key : List UInt8) (h : key.length = 32) : (clR key).length = 16 := by unfold clR; rw [length_m4, length_m16, List.length_take]; omega
def rR (key : List UInt8) : Nat := leN (clR key) (clR key).length
def prR : Nat := 2 ^ 130 - 5
def partR (s : List UInt8) (m : Nat) : List UInt8 := (s.drop (16 * m)).take 16 ++ [1]
def nR (s : List UInt8) (m : Nat) : Nat := leN (partR s m) (partR s m).length
def acR (r : Nat) (s : List UInt8) : Nat → Nat
  | 0 => 0
  | m + 1 => (acR r s m + nR s m) * r % prR
def endR (key s : List UInt8) : Nat := acR (rR key) s ((s.length + 15) / 16) + leN (key.drop 16) (key.drop 16).length
/-- The reference's sum. -/
def sumR (key s : List UInt8) : List UInt8 := bsN (endR key s) 16
theorem take_minR (s : List UInt8) (j : Nat) : AV.str ((s.drop (16 * j)).take (min (16 * j + 16) s.length - 16 * j)) = .str ((s.drop (16 * j)).take 16) := by
  congr 1
  rcases Nat.le_total (16 * j + 16) s.length with h | h
  · congr 1; omega
  · rw [List.take_of_length_le (by rw [List.length_drop]; omega), List.take_of_length_le (by rw [List.length_drop]; omega)]
theorem ac_lt (r : Nat) (s : List UInt8) (m : Nat) : acR r s m < prR := by
  cases m with
  | zero => show 0 < prR; decide
  | succ m => exact Nat.mod_lt _ (by decide)
theorem dl_ac (r : Nat) (s : List UInt8) (m : Nat) : dl (acR r s m) ≤ 9 := dl_le (Nat.lt_trans (ac_lt r s m) (by decide))
theorem dl_leN (s : List UInt8) (i : Nat) : dl (leN s i) ≤ (i + 1) / 2 := dl_le (leN_lt2 s i)
theorem dl_nR (s : List UInt8) (m : Nat) : dl (nR s m) ≤ 9 := by
  have h := dl_leN (partR s m) (partR s m).length
  have : (partR s m).length ≤ 17 := by unfold partR; simp; omega
  exact Nat.le_trans h (by omega)
theorem dl_rR (key : List UInt8) (h : key.length = 32) : dl (rR key) ≤ 8 := by
  have h1 := dl_leN (clR key) (clR key).length
  rw [length_clR key h] at h1
  unfold rR; rw [length_clR key h]; omega
theorem dl_addR {a b n : Nat} (ha : dl a ≤ n) (hb : dl b ≤ n) : dl (a + b) ≤ n + 1 := by
  refine dl_le ?_
  have h1 := Nat.lt_of_lt_of_le (dl_lt a) (Nat.pow_le_pow_right (show 0 < 65536 by decide) ha)
  have h2 := Nat.lt_of_lt_of_le (dl_lt b) (Nat.pow_le_pow_right (show 0 < 65536 by decide) hb)
  rw [Nat.pow_succ]; omega
theorem dl_mulR {a b n m : Nat} (ha : dl a ≤ n) (hb : dl b ≤ m) : dl (a * b) ≤ n + m := by
  refine dl_le ?_
  have h1 := Nat.lt_of_lt_of_le (dl_lt a) (Nat.pow_le_pow_right (show 0 < 65536 by decide) ha)
  have h2 := Nat.lt_of_lt_of_le (dl_lt b) (Nat.pow_le_pow_right (show 0 < 65536 by decide) hb)
  rw [Nat.pow_add]
  exact Nat.mul_lt_mul_of_lt_of_le h1 (Nat.le_of_lt h2) (Nat.lt_of_le_of_lt (Nat.zero_le _) h2)
def xR (key s : List UInt8) (m : Nat) : Nat := (acR (rR key) s m + nR s m) * rR key
theorem dl_sR (key s : List UInt8) (m : Nat) : dl (acR (rR key) s m + nR s m) ≤ 10 := dl_addR (dl_ac _ _ _) (dl_nR _ _)
theorem dl_xR (key s : List UInt8) (m : Nat) (h : key.length = 32) : dl (xR key s m) ≤ 18 := dl_mulR (dl_sR key s m) (dl_rR key h)
theorem cmpN_ge (a b : Nat) : 0 ≤ cmpN a b ↔ b ≤ a := by
  unfold cmpN; split
  · omega
  · split <;> omega
def foldR (y : Nat) : Nat := y % 2 ^ 130 + y / 2 ^ 130 * 5
theorem fold_le (y : Nat) : foldR y ≤ y := by unfold foldR; omega
theorem fold_lt {y : Nat} (h : 2 ^ 130 ≤ y) : foldR y < y := by unfold foldR; omega
theorem fold_mod (y : Nat) : foldR y % prR = y % prR := by
  have : y = foldR y + prR * (y / 2 ^ 130) := by unfold foldR prR; omega
  conv => rhs; rw [this]
  rw [Nat.add_mul_mod_self_left]
theorem last_sub {x y : Nat} (h : y % prR = x % prR) (h1 : ¬ 2 ^ 130 ≤ y) (h2 : prR ≤ y) : y - prR = x % prR := by
  rw [← h]; unfold prR at *; omega
theorem last_id {x y : Nat} (h : y % prR = x % prR) (h2 : ¬ prR ≤ y) : y = x % prR := by
  rw [← h]; unfold prR at *; omega
theorem ac_succ (key s : List UInt8) (m : Nat) : acR (rR key) s (m + 1) = xR key s m % prR := rfl
theorem dl_pr : dl prR ≤ 9 := dl_le (by decide)
set_option maxHeartbeats 2000000 in
set_option maxRecDepth 100000 in
theorem sumR_ev (key s : List UInt8) (hk : key.length = 32) (hs : s.length ≤ 1000000000) : Meets Tryz.prog 108 [.str key, .str s] [] (.str (sumR key s)) [] := by
 refine meets_of_ev (nt := 103) Tryz.func108 rfl rfl (Nat.le_of_ble_eq_true rfl) ?_
 refine .seq ?_
 refine .region ?_
 refine .q (op_assign rfl) trivial rfl ?_
 refine .nil ?_
 show Ev _ _ _ _ _
 refine .seq ?_
 refine .region ?_
 refine .q (op_move rfl) trivial rfl ?_
 refine .q (ap_slice_str_hi Tryz.underlying9 rfl (bnd_some rfl rfl) (by rw [hk]; decide)) trivial rfl ?_
 refine .as (.str (key.take 16)) rfl ?_
 refine .a (op_str_bytes Tryz.underlying9 Tryz.underlying33 Tryz.underlying5 rfl (by rw [List.length_take]; exact Nat.le_trans (Nat.min_le_left _ _) (by decide))) trivial rfl ?_
 refine .as (.sl 1000 0 16 1) (by congr 1; simp; omega) ?_
 refine .q (op_assign rfl) trivial rfl ?_
 refine .nil ?_
 show Ev _ _ _ _ _
 refine .seq ?_
 refine .seq ?_
 refine .region ?_
 refine .a (ap_build (us := [_, _, _, _]) (c := .aggI [_, _, _, _]) Tryz.underlying55 inf3 rfl (by decide) (by decide) ⟨rfl, rfl, rfl, rfl, rfl, rfl, rfl, rfl, rfl, rfl, rfl, rfl, trivial⟩ rfl) trivial rfl ?_
 refine .q (op_len_sl Tryz.underlying55 rfl) trivial rfl ?_
 refine .q (op_move rfl) trivial rfl ?_
 refine .nil ?_
 show Ev _ _ _ _ _
 refine .block ?_
 refine Ev.loop (ι := { j : Nat // j ≤ 4 }) (fun q => ⟨[(0, .str key), (1, .str s), (5, .sl 1000 0 16 1), (18, .sl 1008 0 4 1), (19, .i64 4), (20, .i64 ((q.1 : Nat) : Int))], [(1000, some ⟨.aggB (m16 (key.take 16) q.1), 5, true⟩), (1008, some ⟨.aggI [3, 7, 11, 15], 3, true⟩)], 1016⟩) (fun q => 4 - q.1) ⟨0, Nat.zero_le _⟩ (StLe.mk [(1000, 1000), (1008, 1008)] rfl rfl ⟨⟨_, rfl, by first | rfl | (simp only [AV.ren]; congr 1; omega), rfl⟩, ⟨_, rfl, by first | rfl | (simp only [AV.ren]; congr 1; omega), rfl⟩, ⟨_, rfl, by first | rfl | (simp only [AV.ren]; congr 1; omega), rfl⟩, ⟨_, rfl, by first | rfl | (simp only [AV.ren]; congr 1; omega), rfl⟩, ⟨_, rfl, by first | rfl | (simp only [AV.ren]; congr 1; omega), rfl⟩, ⟨_, rfl, by first | rfl | (simp only [AV.ren]; congr 1; omega), rfl⟩, trivial⟩ ⟨⟨_, _, rfl, rfl, rfl, rfl, id, rfl⟩, ⟨_, _, rfl, rfl, rfl, rfl, id, rfl⟩, trivial⟩) ?_
 rintro ⟨j, hj⟩
 try dsimp only
 have hi : j < 4 → List.getD ([3, 7, 11, 15] : List Int) j 0 = ((4 * j + 3 : Nat) : Int) := fun h => by
  have h2 : j = 0 ∨ j = 1 ∨ j = 2 ∨ j = 3 := by omega
  rcases h2 with rfl | rfl | rfl | rfl <;> rfl
 have hl : (m16 (key.take 16) j).length = 16 := by rw [length_m16, List.length_take]; omega
 refine .seq ?_
 refine .region ?_
 refine .q (op_cmpI rfl rfl rfl) trivial rfl ?_
 refine .nil ?_
 show Ev _ _ _ _ _
 refine .seq ?_
 refine .cond rfl (fun hc21 => ?_) (fun hc21 => ?_)
 ·simp only [decide_eq_true_eq] at hc21
  refine .skip ?_
  show Ev _ _ _ _ _
  refine .seq ?_
  refine .block ?_
  refine .seq ?_
  refine .region ?_
  refine .q (ap_idx0 Tryz.underlying55 inf3.sz rfl rfl rfl (by omega)) trivial rfl ?_
  refine .q (op_load Tryz.underlying3 rfl rfl rfl rfl (by simp only [AV.len, List.length_cons, List.length_nil]; omega)) trivial rfl ?_
  refine .as (.i64 ((4 * j + 3 : Nat) : Int)) (congrArg AV.i64 (hi (by omega))) ?_
  refine .q (op_assign rfl) trivial rfl ?_
  refine .nil ?_
  show Ev _ _ _ _ _
  refine .region ?_
  refine .q (op_move rfl) trivial rfl ?_
  refine .q (op_move rfl) trivial rfl ?_
  refine .q (op_move rfl) trivial rfl ?_
  refine .q (op_move rfl) trivial rfl ?_
  refine .q (ap_idx0 Tryz.underlying33 inf5.sz rfl rfl (i := 4 * j + 3) rfl (by omega)) trivial rfl ?_
  refine .q (op_load Tryz.underlying5 rfl rfl rfl rfl (by simp only [AV.len]; omega)) trivial rfl ?_
  refine .q (op_rem8 rfl rfl (by decide)) trivial rfl ?_
  refine .q (ap_idx0 Tryz.underlying33 inf5.sz rfl rfl (i := 4 * j + 3) rfl (by omega)) trivial rfl ?_
  refine .w (op_store inf5.sz rfl rfl rfl rfl rfl (by simp only [AV.len]; omega)) trivial rfl ?_
  refine .nil ?_
  show Ev _ _ _ _ _
  refine .region ?_
  refine .q (op_addI rfl rfl ⟨by omega, by omega⟩) trivial rfl ?_
  refine .q (op_move rfl) trivial rfl ?_
  refine .nil ?_
  exact ⟨⟨j + 1, by omega⟩, by (try dsimp only); omega, StLe.mk [(1000, 1000), (1008, 1008)] rfl rfl ⟨⟨_, rfl, by first | rfl | (simp only [AV.ren]; congr 1; omega), rfl⟩, ⟨_, rfl, by first | rfl | (simp only [AV.ren]; congr 1; omega), rfl⟩, ⟨_, rfl, by first | rfl | (simp only [AV.ren]; congr 1; omega), rfl⟩, ⟨_, rfl, by first | rfl | (simp only [AV.ren]; congr 1; omega), rfl⟩, ⟨_, rfl, by first | rfl | (simp only [AV.ren]; congr 1; omega), rfl⟩, ⟨_, rfl, by first | rfl | (simp only [AV.ren]; congr 1; omega), rfl⟩, trivial⟩ ⟨⟨_, _, rfl, rfl, rfl, rfl, id, rfl⟩, ⟨_, _, rfl, rfl, rfl, rfl, id, rfl⟩, trivial⟩⟩
 ·simp only [decide_eq_false_iff_not] at hc21
  refine .exit ?_
  show Ev _ _ _ _ _
  refine .seq ?_
  refine .seq ?_
  refine .region ?_
  refine .a (ap_build (us := [_, _, _]) (c := .aggI [_, _, _]) Tryz.underlying55 inf3 rfl (by decide) (by decide) ⟨rfl, rfl, rfl, rfl, rfl, rfl, rfl, rfl, rfl, trivial⟩ rfl) trivial rfl ?_
  refine .q (op_len_sl Tryz.underlying55 rfl) trivial rfl ?_
  refine .q (op_move rfl) trivial rfl ?_
  refine .nil ?_
  show Ev _ _ _ _ _
  refine .block ?_
  refine Ev.loop (ι := { j : Nat // j ≤ 3 }) (fun q => ⟨[(0, .str key), (1, .str s), (5, .sl 1000 0 16 1), (33, .sl 1008 0 3 1), (34, .i64 3), (35, .i64 ((q.1 : Nat) : Int))], [(1000, some ⟨.aggB (m4 (m16 (key.take 16) 4) q.1), 5, true⟩), (1008, some ⟨.aggI [4, 8, 12], 3, true⟩)], 1016⟩) (fun q => 3 - q.1) ⟨0, Nat.zero_le _⟩ (StLe.mk [(1000, 1000), (1008, 1016)] rfl rfl ⟨⟨_, rfl, by first | rfl | (simp only [AV.ren]; congr 1; omega), rfl⟩, ⟨_, rfl, by first | rfl | (simp only [AV.ren]; congr 1; omega), rfl⟩, ⟨_, rfl, by first | rfl | (simp only [AV.ren]; congr 1; omega), rfl⟩, ⟨_, rfl, by first | rfl | (simp only [AV.ren]; congr 1; omega), rfl⟩, ⟨_, rfl, by first | rfl | (simp only [AV.ren]; congr 1; omega), rfl⟩, ⟨_, rfl, by first | rfl | (simp only [AV.ren]; congr 1; omega), rfl⟩, trivial⟩ ⟨⟨_, _, rfl, rfl, by (show AV.aggB (m16 (key.take 16) j) = AV.aggB (m4 (m16 (key.take 16) 4) 0); rw [show j = 4 by omega]; rfl), rfl, id, rfl⟩, ⟨_, _, rfl, rfl, rfl, rfl, id, rfl⟩, trivial⟩) ?_
  rintro ⟨j2, hj2⟩
  try dsimp only
  have hi2 : j2 < 3 → List.getD ([4, 8, 12] : List Int) j2 0 = ((4 * j2 + 4 : Nat) : Int) := fun h => by
   have h2 : j2 = 0 ∨ j2 = 1 ∨ j2 = 2 := by omega
   rcases h2 with rfl | rfl | rfl <;> rfl
  have hl2 : (m4 (m16 (key.take 16) 4) j2).length = 16 := by rw [length_m4, length_m16, List.length_take]; omega
  refine .seq ?_
  refine .region ?_
  refine .q (op_cmpI rfl rfl rfl) trivial rfl ?_
  refine .nil ?_
  show Ev _ _ _ _ _
  refine .seq ?_
  refine .cond rfl (fun hc36 => ?_) (fun hc36 => ?_)
  ·simp only [decide_eq_true_eq] at hc36
   refine .skip ?_
   show Ev _ _ _ _ _
   refine .seq ?_
   refine .block ?_
   refine .seq ?_
   refine .region ?_
   refine .q (ap_idx0 Tryz.underlying55 inf3.sz rfl rfl rfl (by omega)) trivial rfl ?_
   refine .q (op_load Tryz.underlying3 rfl rfl rfl rfl (by simp only [AV.len, List.length_cons, List.length_nil]; omega)) trivial rfl ?_
   refine .as (.i64 ((4 * j2 + 4 : Nat) : Int)) (congrArg AV.i64 (hi2 (by omega))) ?_
   refine .q (op_assign rfl) trivial rfl ?_
   refine .nil ?_
   show Ev _ _ _ _ _
   refine .region ?_
   refine .q (op_move rfl) trivial rfl ?_
   refine .q (op_move rfl) trivial rfl ?_
   refine .q (op_move rfl) trivial rfl ?_
   refine .q (op_move rfl) trivial rfl ?_
   refine .q (ap_idx0 Tryz.underlying33 inf5.sz rfl rfl (i := 4 * j2 + 4) rfl (by omega)) trivial rfl ?_
   refine .q (op_load Tryz.underlying5 rfl rfl rfl rfl (by simp only [AV.len]; omega)) trivial rfl ?_
   refine .q (op_quo8 rfl rfl (by decide)) trivial rfl ?_
   refine .q (op_bin8 rfl rfl rfl) trivial rfl ?_
   refine .q (ap_idx0 Tryz.underlying33 inf5.sz rfl rfl (i := 4 * j2 + 4) rfl (by omega)) trivial rfl ?_
   refine .w (op_store inf5.sz rfl rfl rfl rfl rfl (by simp only [AV.len]; omega)) trivial rfl ?_
   refine .nil ?_
   show Ev _ _ _ _ _
   refine .region ?_
   refine .q (op_addI rfl rfl ⟨by omega, by omega⟩) trivial rfl ?_
   refine .q (op_move rfl) trivial rfl ?_
   refine .nil ?_
   exact ⟨⟨j2 + 1, by omega⟩, by (try dsimp only); omega, StLe.mk [(1000, 1000), (1008, 1008)] rfl rfl ⟨⟨_, rfl, by first | rfl | (simp only [AV.ren]; congr 1; omega), rfl⟩, ⟨_, rfl, by first | rfl | (simp only [AV.ren]; congr 1; omega), rfl⟩, ⟨_, rfl, by first | rfl | (simp only [AV.ren]; congr 1; omega), rfl⟩, ⟨_, rfl, by first | rfl | (simp only [AV.ren]; congr 1; omega), rfl⟩, ⟨_, rfl, by first | rfl | (simp only [AV.ren]; congr 1; omega), rfl⟩, ⟨_, rfl, by first | rfl | (simp only [AV.ren]; congr 1; omega), rfl⟩, trivial⟩ ⟨⟨_, _, rfl, rfl, rfl, rfl, id, rfl⟩, ⟨_, _, rfl, rfl, rfl, rfl, id, rfl⟩, trivial⟩⟩
  ·simp only [decide_eq_false_iff_not] at hc36
   refine .exit ?_
   show Ev _ _ _ _ _
   refine .seq ?_
   refine .region ?_
   refine .q (op_move rfl) trivial rfl ?_
   refine .q (op_bytes_str Tryz.underlying33 Tryz.underlying5 Tryz.underlying9 rfl rfl rfl (by first | omega | (simp only [AV.len]; omega) | exact Nat.le_of_ble_eq_true rfl | (show _ ≤ (m4 (m16 (key.take 16) 4) j2).length; omega) | (rw [hl2]; exact Nat.le_of_ble_eq_true rfl))) trivial rfl ?_
   refine .as (.str (clR key)) (by rw [show j2 = 3 by omega, List.drop_zero, List.take_of_length_le (by rw [length_m4, length_m16, List.length_take]; omega)]; rfl) ?_
   refine .a (op_call (U := [(1016, some ⟨.aggI (dg (leN (clR key) (clR key).length)), 3, true⟩)]) [] [(1016, 1000)] (of_ev (clR key) (by rw [length_clR key hk]; omega)) Tryz.func153 (by kernel_rfl) rfl rfl rfl (⟨⟨_, rfl, rfl, rfl⟩, trivial⟩) (trivial) (⟨⟨1000, _, rfl, rfl, rfl, rfl, .inl rfl⟩, trivial⟩) (trivial) rfl) trivial rfl ?_
   refine .as (.sl 1016 0 (dl (rR key)) 1) rfl ?_
   refine .q (op_assign rfl) trivial rfl ?_
   refine .nil ?_
   show Ev _ _ _ _ _
   refine .seq ?_
   refine .region ?_
   refine .a (op_call (U := [(1024, some ⟨.aggI (dg (2 ^ 130)), 3, true⟩)]) [] [(1024, 1000)] (power_ev 130 (by omega)) Tryz.func155 (by kernel_rfl) rfl rfl rfl (⟨⟨_, rfl, rfl, rfl⟩, trivial⟩) (trivial) (⟨⟨1000, _, rfl, rfl, rfl, rfl, .inl rfl⟩, trivial⟩) (trivial) rfl) trivial rfl ?_
   refine .a (op_call (U := [(1032, some ⟨.aggI (dg (5)), 3, true⟩)]) [] [(1032, 1000)] (small_ev 5 (by omega)) Tryz.func111 (by kernel_rfl) rfl rfl rfl (⟨⟨_, rfl, rfl, rfl⟩, trivial⟩) (trivial) (⟨⟨1000, _, rfl, rfl, rfl, rfl, .inl rfl⟩, trivial⟩) (trivial) rfl) trivial rfl ?_
   refine .a (op_call (U := [(1040, some ⟨.aggI (dg (2 ^ 130 - 5)), 3, true⟩)]) [(500, 1024), (501, 1032)] [(1040, 1000)] (sub_ev (2 ^ 130) 5 (by decide) (by have := dl_pow 130; omega) (Nat.le_trans (dl_le (n := 1) (by decide)) (by decide))) Tryz.func154 (by kernel_rfl) rfl rfl rfl (⟨⟨_, rfl, rfl, rfl⟩, ⟨_, rfl, rfl, rfl⟩, trivial⟩) (⟨⟨_, _, rfl, rfl, rfl, rfl, (fun h => by cases h), rfl⟩, ⟨_, _, rfl, rfl, rfl, rfl, (fun h => by cases h), rfl⟩, trivial⟩) (⟨⟨1000, _, rfl, rfl, rfl, rfl, .inl rfl⟩, trivial⟩) (⟨(fun h => by cases h), (fun h => by cases h), trivial⟩) rfl) trivial rfl ?_
   refine .as (.sl 1040 0 (dl prR) 1) rfl ?_
   refine .q (op_assign rfl) trivial rfl ?_
   refine .nil ?_
   show Ev _ _ _ _ _
   refine .seq ?_
   refine .region ?_
   refine .a (ap_build0 (z := 1) (c := .aggI []) Tryz.underlying55 inf3 rfl) trivial rfl ?_
   refine .q (op_assign rfl) trivial rfl ?_
   refine .nil ?_
   show Ev _ _ _ _ _
   refine .seq ?_
   refine .seq ?_
   refine .region ?_
   refine .q (op_assign rfl) trivial rfl ?_
   refine .nil ?_
   show Ev _ _ _ _ _
   refine .block ?_
   refine Ev.loop (ι := { m : Nat // 16 * m < s.length + 16 }) (fun q => ⟨[(0, .str key), (1, .str s), (10, .sl 1000 0 (dl (rR key)) 1), (11, .sl 1008 0 (dl prR) 1), (12, .sl 1016 0 (dl (acR (rR key) s q.1)) 1), (13, .i64 (16 * ((q.1 : Nat) : Int)))], [(1000, some ⟨.aggI (dg (rR key)), 3, true⟩), (1008, some ⟨.aggI (dg prR), 3, true⟩), (1016, some ⟨.aggI (dg (acR (rR key) s q.1)), 3, true⟩)], 1024⟩) (fun q => s.length + 16 - 16 * q.1) ⟨0, by omega⟩ (StLe.mk [(1000, 1016), (1008, 1040), (1016, 1048)] rfl rfl ⟨⟨_, rfl, by rfl, rfl⟩, ⟨_, rfl, by rfl, rfl⟩, ⟨_, rfl, by rfl, rfl⟩, ⟨_, rfl, by rfl, rfl⟩, ⟨_, rfl, by (show AV.sl 1016 0 0 1 = AV.sl 1016 0 (dl 0) 1; rw [dl_zero]), rfl⟩, ⟨_, rfl, by rfl, rfl⟩, trivial⟩ ⟨⟨_, _, rfl, rfl, rfl, rfl, id, rfl⟩, ⟨_, _, rfl, rfl, rfl, rfl, id, rfl⟩, ⟨_, _, rfl, rfl, by (show AV.aggI [] = AV.aggI (dg 0); unfold dg; rw [dl_zero]; rfl), rfl, id, rfl⟩, trivial⟩) ?_
   rintro ⟨m, hm⟩
   dsimp only
   have hx := dl_xR key s m hk
   have hs1 := dl_sR key s m
   have ha := dl_ac (rR key) s m
   have hn := dl_nR s m
   have hr := dl_rR key hk
   refine .seq ?_
   refine .seq ?_
   refine .region ?_
   refine .q (op_move rfl) trivial rfl ?_
   refine .q (op_move rfl) trivial rfl ?_
   refine .q (op_len_str Tryz.underlying9 rfl) trivial rfl ?_
   refine .q (op_cmpI rfl rfl rfl) trivial rfl ?_
   refine .nil ?_
   show Ev _ _ _ _ _
   refine .cond rfl (fun hc59 => ?_) (fun hc59 => ?_)
   ·simp only [decide_eq_true_eq] at hc59
    refine .skip ?_
    show Ev _ _ _ _ _
    refine .seq ?_
    refine .block ?_
    refine .seq ?_
    refine .region ?_
    refine .q (op_move rfl) trivial rfl ?_
    refine .q (op_move rfl) trivial rfl ?_
    refine .q (op_move rfl) trivial rfl ?_
    refine .q (op_addI rfl rfl ⟨by omega, by omega⟩) trivial rfl ?_
    refine .q (op_move rfl) trivial rfl ?_
    refine .q (op_len_str Tryz.underlying9 rfl) trivial rfl ?_
    refine .q (op_minI rfl rfl) trivial rfl ?_
    refine .q (op_slice_str Tryz.underlying9 rfl (bnd_some rfl (l := 16 * m) (by omega)) (bnd_some rfl (l := min (16 * m + 16) s.length) (by omega)) (by omega) (by omega)) trivial rfl ?_
    refine .as (.str ((s.drop (16 * m)).take 16)) (take_minR s m) ?_
    refine .q (op_assign rfl) trivial rfl ?_
    refine .nil ?_
    show Ev _ _ _ _ _
    refine .seq ?_
    refine .region ?_
    refine .q (op_move rfl) trivial rfl ?_
    refine .q (op_move rfl) trivial rfl ?_
    refine .a (ap_build (us := [_]) (c := .aggB [_]) Tryz.underlying33 inf5 rfl (by decide) (by decide) ⟨rfl, rfl, rfl, trivial⟩ rfl) trivial rfl ?_
    refine .q (op_bytes_str Tryz.underlying33 Tryz.underlying5 Tryz.underlying9 rfl rfl rfl (by first | omega | (skip; omega) | (skip; omega) | assumption | (simp; done))) trivial rfl ?_
    refine .q (op_addS rfl rfl (by simp; omega)) trivial rfl ?_
    refine .as (.str (partR s m)) rfl ?_
    refine .a (op_call (U := [(1032, some ⟨.aggI (dg (nR s m)), 3, true⟩)]) [] [(1032, 1000)] (of_ev (partR s m) (by unfold partR; simp; omega)) Tryz.func153 (by kernel_rfl) rfl rfl rfl (⟨⟨_, rfl, rfl, rfl⟩, trivial⟩) (trivial) (⟨⟨1000, _, rfl, rfl, rfl, rfl, .inl rfl⟩, trivial⟩) (trivial) rfl) trivial rfl ?_
    refine .as (.sl 1032 0 (dl (nR s m)) 1) rfl ?_
    refine .a (op_call (U := [(1040, some ⟨.aggI (dg (acR (rR key) s m + nR s m)), 3, true⟩)]) [(500, 1016), (501, 1032)] [(1040, 1000)] (add_ev (acR (rR key) s m) (nR s m) (by omega) (by omega)) Tryz.func157 (by kernel_rfl) rfl rfl rfl (⟨⟨_, rfl, rfl, rfl⟩, ⟨_, rfl, rfl, rfl⟩, trivial⟩) (⟨⟨_, _, rfl, rfl, rfl, rfl, (fun h => by cases h), rfl⟩, ⟨_, _, rfl, rfl, rfl, rfl, (fun h => by cases h), rfl⟩, trivial⟩) (⟨⟨1000, _, rfl, rfl, rfl, rfl, .inl rfl⟩, trivial⟩) (⟨(fun h => by cases h), (fun h => by cases h), trivial⟩) rfl) trivial rfl ?_
    refine .q (op_move rfl) trivial rfl ?_
    refine .a (op_call (U := [(1048, some ⟨.aggI (dg (xR key s m)), 3, true⟩)]) [(500, 1040), (501, 1000)] [(1048, 1000)] (mul_ev (acR (rR key) s m + nR s m) (rR key) (by omega) (by omega)) Tryz.func156 (by kernel_rfl) rfl rfl rfl (⟨⟨_, rfl, rfl, rfl⟩, ⟨_, rfl, rfl, rfl⟩, trivial⟩) (⟨⟨_, _, rfl, rfl, rfl, rfl, (fun h => by cases h), rfl⟩, ⟨_, _, rfl, rfl, rfl, rfl, (fun h => by cases h), rfl⟩, trivial⟩) (⟨⟨1000, _, rfl, rfl, rfl, rfl, .inl rfl⟩, trivial⟩) (⟨(fun h => by cases h), (fun h => by cases h), trivial⟩) rfl) trivial rfl ?_
    refine .as (.sl 1048 0 (dl (xR key s m)) 1) rfl ?_
    refine .q (op_assign rfl) trivial rfl ?_
    refine .nil ?_
    show Ev _ _ _ _ _
    refine .seq ?_
    refine .block ?_
    refine Ev.loop (ι := { y : Nat // y % prR = xR key s m % prR ∧ dl y ≤ 18 }) (fun q => ⟨[(0, .str key), (1, .str s), (10, .sl 1000 0 (dl (rR key)) 1), (11, .sl 1008 0 (dl prR) 1), (12, .sl 1016 0 (dl (q.1)) 1), (13, .i64 (16 * ((m : Nat) : Int)))], [(1000, some ⟨.aggI (dg (rR key)), 3, true⟩), (1008, some ⟨.aggI (dg prR), 3, true⟩), (1016, some ⟨.aggI (dg (q.1)), 3, true⟩)], 1024⟩) (fun q => q.1) ⟨xR key s m, rfl, hx⟩ (StLe.mk [(1000, 1000), (1008, 1008), (1016, 1048)] rfl rfl ⟨⟨_, rfl, by first | rfl | (simp only [AV.ren]; congr 1; omega), rfl⟩, ⟨_, rfl, by first | rfl | (simp only [AV.ren]; congr 1; omega), rfl⟩, ⟨_, rfl, by first | rfl | (simp only [AV.ren]; congr 1; omega), rfl⟩, ⟨_, rfl, by first | rfl | (simp only [AV.ren]; congr 1; omega), rfl⟩, ⟨_, rfl, by first | rfl | (simp only [AV.ren]; congr 1; omega), rfl⟩, ⟨_, rfl, by first | rfl | (simp only [AV.ren]; congr 1; omega), rfl⟩, trivial⟩ ⟨⟨_, _, rfl, rfl, rfl, rfl, id, rfl⟩, ⟨_, _, rfl, rfl, rfl, rfl, id, rfl⟩, ⟨_, _, rfl, rfl, rfl, rfl, id, rfl⟩, trivial⟩) ?_
    rintro ⟨y, hy, hyd⟩
    try dsimp only
    have hg := cmpN_ge y (2 ^ 130)
    have hg2 := cmpN_ge y prR
    have hq1 := dl_mono2 (Nat.div_le_self y (2 ^ 130))
    have hq2 := dl_mono2 (Nat.mod_le y (2 ^ 130))
    have h130 : dl (2 ^ 130) = 9 := dl_pow 130
    have h5 : dl 5 ≤ 1 := dl_le (by decide)
    have hq3 : dl (y / 2 ^ 130 * 5) ≤ 19 := dl_mulR (Nat.le_trans hq1 hyd) h5
    have hpr := dl_pr
    have L1 : ¬ 2 ^ 130 ≤ y → prR ≤ y → y - prR = xR key s m % prR := last_sub hy
    have L2 : ¬ prR ≤ y → y = xR key s m % prR := last_id hy
    refine .seq ?_
    refine .seq ?_
    refine .region ?_
    refine .q (op_move rfl) trivial rfl ?_
    refine .a (op_call (U := [(1024, some ⟨.aggI (dg (2 ^ 130)), 3, true⟩)]) [] [(1024, 1000)] (power_ev 130 (by omega)) Tryz.func155 (by kernel_rfl) rfl rfl rfl (⟨⟨_, rfl, rfl, rfl⟩, trivial⟩) (trivial) (⟨⟨1000, _, rfl, rfl, rfl, rfl, .inl rfl⟩, trivial⟩) (trivial) rfl) trivial rfl ?_
    refine .q (op_call (U := []) [(500, 1016), (501, 1024)] [] (cmp_ev y (2 ^ 130) (by omega) (by omega)) Tryz.func158 (by kernel_rfl) rfl rfl rfl (⟨⟨_, rfl, rfl, rfl⟩, ⟨_, rfl, rfl, rfl⟩, trivial⟩) (⟨⟨_, _, rfl, rfl, rfl, rfl, (fun h => by cases h), rfl⟩, ⟨_, _, rfl, rfl, rfl, rfl, (fun h => by cases h), rfl⟩, trivial⟩) (trivial) (⟨(fun h => by cases h), (fun h => by cases h), trivial⟩) rfl) trivial rfl ?_
    refine .q (op_cmpI rfl rfl rfl) trivial rfl ?_
    refine .nil ?_
    show Ev _ _ _ _ _
    refine .cond rfl (fun hc82 => ?_) (fun hc82 => ?_)
    ·simp only [decide_eq_true_eq] at hc82
     refine .skip ?_
     show Ev _ _ _ _ _
     refine .block ?_
     refine .region ?_
     refine .q (op_move rfl) trivial rfl ?_
     refine .a (op_call (U := [(1032, some ⟨.aggI (dg (y % 2 ^ 130)), 3, true⟩)]) [(500, 1016)] [(1032, 1000)] (low_ev y 130 (by omega) (by omega)) Tryz.func159 (by kernel_rfl) rfl rfl rfl (⟨⟨_, rfl, rfl, rfl⟩, ⟨_, rfl, rfl, rfl⟩, trivial⟩) (⟨⟨_, _, rfl, rfl, rfl, rfl, (fun h => by cases h), rfl⟩, trivial⟩) (⟨⟨1000, _, rfl, rfl, rfl, rfl, .inl rfl⟩, trivial⟩) (⟨(fun h => by cases h), trivial⟩) rfl) trivial rfl ?_
     refine .q (op_move rfl) trivial rfl ?_
     refine .a (op_call (U := [(1040, some ⟨.aggI (dg (y / 2 ^ 130)), 3, true⟩)]) [(500, 1016)] [(1040, 1000)] (half_ev y 130 (by omega) (by omega)) Tryz.func160 (by kernel_rfl) rfl rfl rfl (⟨⟨_, rfl, rfl, rfl⟩, ⟨_, rfl, rfl, rfl⟩, trivial⟩) (⟨⟨_, _, rfl, rfl, rfl, rfl, (fun h => by cases h), rfl⟩, trivial⟩) (⟨⟨1000, _, rfl, rfl, rfl, rfl, .inl rfl⟩, trivial⟩) (⟨(fun h => by cases h), trivial⟩) rfl) trivial rfl ?_
     refine .a (op_call (U := [(1048, some ⟨.aggI (dg (5)), 3, true⟩)]) [] [(1048, 1000)] (small_ev 5 (by omega)) Tryz.func111 (by kernel_rfl) rfl rfl rfl (⟨⟨_, rfl, rfl, rfl⟩, trivial⟩) (trivial) (⟨⟨1000, _, rfl, rfl, rfl, rfl, .inl rfl⟩, trivial⟩) (trivial) rfl) trivial rfl ?_
     refine .a (op_call (U := [(1056, some ⟨.aggI (dg (y / 2 ^ 130 * 5)), 3, true⟩)]) [(500, 1040), (501, 1048)] [(1056, 1000)] (mul_ev (y / 2 ^ 130) 5 (by omega) (by omega)) Tryz.func156 (by kernel_rfl) rfl rfl rfl (⟨⟨_, rfl, rfl, rfl⟩, ⟨_, rfl, rfl, rfl⟩, trivial⟩) (⟨⟨_, _, rfl, rfl, rfl, rfl, (fun h => by cases h), rfl⟩, ⟨_, _, rfl, rfl, rfl, rfl, (fun h => by cases h), rfl⟩, trivial⟩) (⟨⟨1000, _, rfl, rfl, rfl, rfl, .inl rfl⟩, trivial⟩) (⟨(fun h => by cases h), (fun h => by cases h), trivial⟩) rfl) trivial rfl ?_
     refine .a (op_call (U := [(1064, some ⟨.aggI (dg (foldR y)), 3, true⟩)]) [(500, 1032), (501, 1056)] [(1064, 1000)] (add_ev (y % 2 ^ 130) (y / 2 ^ 130 * 5) (by omega) (by omega)) Tryz.func157 (by kernel_rfl) rfl rfl rfl (⟨⟨_, rfl, rfl, rfl⟩, ⟨_, rfl, rfl, rfl⟩, trivial⟩) (⟨⟨_, _, rfl, rfl, rfl, rfl, (fun h => by cases h), rfl⟩, ⟨_, _, rfl, rfl, rfl, rfl, (fun h => by cases h), rfl⟩, trivial⟩) (⟨⟨1000, _, rfl, rfl, rfl, rfl, .inl rfl⟩, trivial⟩) (⟨(fun h => by cases h), (fun h => by cases h), trivial⟩) rfl) trivial rfl ?_
     refine .as (.sl 1064 0 (dl (foldR y)) 1) rfl ?_
     refine .q (op_assign rfl) trivial rfl ?_
     refine .nil ?_
     exact ⟨⟨foldR y, (fold_mod y).trans hy, Nat.le_trans (dl_mono2 (fold_le y)) hyd⟩, by (try dsimp only); exact fold_lt (by omega), StLe.mk [(1000, 1000), (1008, 1008), (1016, 1064)] rfl rfl ⟨⟨_, rfl, by first | rfl | (simp only [AV.ren]; congr 1; omega), rfl⟩, ⟨_, rfl, by first | rfl | (simp only [AV.ren]; congr 1; omega), rfl⟩, ⟨_, rfl, by first | rfl | (simp only [AV.ren]; congr 1; omega), rfl⟩, ⟨_, rfl, by first | rfl | (simp only [AV.ren]; congr 1; omega), rfl⟩, ⟨_, rfl, by first | rfl | (simp only [AV.ren]; congr 1; omega), rfl⟩, ⟨_, rfl, by first | rfl | (simp only [AV.ren]; congr 1; omega), rfl⟩, trivial⟩ ⟨⟨_, _, rfl, rfl, rfl, rfl, id, rfl⟩, ⟨_, _, rfl, rfl, rfl, rfl, id, rfl⟩, ⟨_, _, rfl, rfl, rfl, rfl, id, rfl⟩, trivial⟩⟩
    ·simp only [decide_eq_false_iff_not] at hc82
     refine .exit ?_
     show Ev _ _ _ _ _
     refine .seq ?_
     refine .region ?_
     refine .q (op_move rfl) trivial rfl ?_
     refine .q (op_move rfl) trivial rfl ?_
     refine .q (op_call (U := []) [(500, 1016), (501, 1008)] [] (cmp_ev y prR (by omega) (by omega)) Tryz.func158 (by kernel_rfl) rfl rfl rfl (⟨⟨_, rfl, rfl, rfl⟩, ⟨_, rfl, rfl, rfl⟩, trivial⟩) (⟨⟨_, _, rfl, rfl, rfl, rfl, (fun h => by cases h), rfl⟩, ⟨_, _, rfl, rfl, rfl, rfl, (fun h => by cases h), rfl⟩, trivial⟩) (trivial) (⟨(fun h => by cases h), (fun h => by cases h), trivial⟩) rfl) trivial rfl ?_
     refine .q (op_cmpI rfl rfl rfl) trivial rfl ?_
     refine .nil ?_
     show Ev _ _ _ _ _
     refine .cond rfl (fun hc93 => ?_) (fun hc93 => ?_)
     ·simp only [decide_eq_true_eq] at hc93
      refine .region ?_
      refine .q (op_move rfl) trivial rfl ?_
      refine .q (op_move rfl) trivial rfl ?_
      refine .a (op_call (U := [(1032, some ⟨.aggI (dg (y - prR)), 3, true⟩)]) [(500, 1016), (501, 1008)] [(1032, 1000)] (sub_ev y prR (by omega) (by omega) (by omega)) Tryz.func154 (by kernel_rfl) rfl rfl rfl (⟨⟨_, rfl, rfl, rfl⟩, ⟨_, rfl, rfl, rfl⟩, trivial⟩) (⟨⟨_, _, rfl, rfl, rfl, rfl, (fun h => by cases h), rfl⟩, ⟨_, _, rfl, rfl, rfl, rfl, (fun h => by cases h), rfl⟩, trivial⟩) (⟨⟨1000, _, rfl, rfl, rfl, rfl, .inl rfl⟩, trivial⟩) (⟨(fun h => by cases h), (fun h => by cases h), trivial⟩) rfl) trivial rfl ?_
      refine .q (op_assign rfl) trivial rfl ?_
      refine .nil ?_
      show Ev _ _ _ _ _
      refine .region ?_
      refine .q (op_move rfl) trivial rfl ?_
      refine .q (op_addI rfl rfl ⟨by omega, by omega⟩) trivial rfl ?_
      refine .q (op_assign rfl) trivial rfl ?_
      refine .nil ?_
      first
       | exact ⟨⟨m + 1, by omega⟩, by dsimp only; omega, StLe.mk [(1000, 1000), (1008, 1008), (1016, 1032)] rfl rfl ⟨⟨_, rfl, by rfl, rfl⟩, ⟨_, rfl, by rfl, rfl⟩, ⟨_, rfl, by rfl, rfl⟩, ⟨_, rfl, by rfl, rfl⟩, ⟨_, rfl, by (show AV.sl 1016 0 (dl (y - prR)) 1 = AV.sl 1016 0 (dl (acR (rR key) s (m + 1))) 1; rw [ac_succ, ← L1 (by omega) (by omega)]), rfl⟩, ⟨_, rfl, by exact congrArg AV.i64 (show 16 * (m : Int) + 16 = 16 * ((m + 1 : Nat) : Int) by omega), rfl⟩, trivial⟩ ⟨⟨_, _, rfl, rfl, rfl, rfl, id, rfl⟩, ⟨_, _, rfl, rfl, rfl, rfl, id, rfl⟩, ⟨_, _, rfl, rfl, by exact congrArg (fun z => AV.aggI (dg z)) ((L1 (by omega) (by omega)).trans (ac_succ key s m).symm), (Eq.refl ((3 : Nat), false)), (fun _ => rfl), rfl⟩, trivial⟩⟩
       | exact ⟨⟨m + 1, by omega⟩, by dsimp only; omega, StLe.mk [(1000, 1000), (1008, 1008), (1016, 1016)] rfl rfl ⟨⟨_, rfl, by rfl, rfl⟩, ⟨_, rfl, by rfl, rfl⟩, ⟨_, rfl, by rfl, rfl⟩, ⟨_, rfl, by rfl, rfl⟩, ⟨_, rfl, by (show AV.sl 1016 0 (dl (y)) 1 = AV.sl 1016 0 (dl (acR (rR key) s (m + 1))) 1; rw [ac_succ, ← L2 (by omega)]), rfl⟩, ⟨_, rfl, by exact congrArg AV.i64 (show 16 * (m : Int) + 16 = 16 * ((m + 1 : Nat) : Int) by omega), rfl⟩, trivial⟩ ⟨⟨_, _, rfl, rfl, rfl, rfl, id, rfl⟩, ⟨_, _, rfl, rfl, rfl, rfl, id, rfl⟩, ⟨_, _, rfl, rfl, by exact congrArg (fun z => AV.aggI (dg z)) ((L2 (by omega)).trans (ac_succ key s m).symm), (Eq.refl ((3 : Nat), false)), (fun _ => rfl), rfl⟩, trivial⟩⟩
     ·simp only [decide_eq_false_iff_not] at hc93
      refine .skip ?_
      show Ev _ _ _ _ _
      refine .region ?_
      refine .q (op_move rfl) trivial rfl ?_
      refine .q (op_addI rfl rfl ⟨by omega, by omega⟩) trivial rfl ?_
      refine .q (op_assign rfl) trivial rfl ?_
      refine .nil ?_
      first
       | exact ⟨⟨m + 1, by omega⟩, by dsimp only; omega, StLe.mk [(1000, 1000), (1008, 1008), (1016, 1032)] rfl rfl ⟨⟨_, rfl, by rfl, rfl⟩, ⟨_, rfl, by rfl, rfl⟩, ⟨_, rfl, by rfl, rfl⟩, ⟨_, rfl, by rfl, rfl⟩, ⟨_, rfl, by (show AV.sl 1016 0 (dl (y - prR)) 1 = AV.sl 1016 0 (dl (acR (rR key) s (m + 1))) 1; rw [ac_succ, ← L1 (by omega) (by omega)]), rfl⟩, ⟨_, rfl, by exact congrArg AV.i64 (show 16 * (m : Int) + 16 = 16 * ((m + 1 : Nat) : Int) by omega), rfl⟩, trivial⟩ ⟨⟨_, _, rfl, rfl, rfl, rfl, id, rfl⟩, ⟨_, _, rfl, rfl, rfl, rfl, id, rfl⟩, ⟨_, _, rfl, rfl, by exact congrArg (fun z => AV.aggI (dg z)) ((L1 (by omega) (by omega)).trans (ac_succ key s m).symm), (Eq.refl ((3 : Nat), false)), (fun _ => rfl), rfl⟩, trivial⟩⟩
       | exact ⟨⟨m + 1, by omega⟩, by dsimp only; omega, StLe.mk [(1000, 1000), (1008, 1008), (1016, 1016)] rfl rfl ⟨⟨_, rfl, by rfl, rfl⟩, ⟨_, rfl, by rfl, rfl⟩, ⟨_, rfl, by rfl, rfl⟩, ⟨_, rfl, by rfl, rfl⟩, ⟨_, rfl, by (show AV.sl 1016 0 (dl (y)) 1 = AV.sl 1016 0 (dl (acR (rR key) s (m + 1))) 1; rw [ac_succ, ← L2 (by omega)]), rfl⟩, ⟨_, rfl, by exact congrArg AV.i64 (show 16 * (m : Int) + 16 = 16 * ((m + 1 : Nat) : Int) by omega), rfl⟩, trivial⟩ ⟨⟨_, _, rfl, rfl, rfl, rfl, id, rfl⟩, ⟨_, _, rfl, rfl, rfl, rfl, id, rfl⟩, ⟨_, _, rfl, rfl, by exact congrArg (fun z => AV.aggI (dg z)) ((L2 (by omega)).trans (ac_succ key s m).symm), (Eq.refl ((3 : Nat), false)), (fun _ => rfl), rfl⟩, trivial⟩⟩
   ·simp only [decide_eq_false_iff_not] at hc59
    refine .exit ?_
    show Ev _ _ _ _ _
    refine .seq ?_
    refine .region ?_
    refine .q (op_move rfl) trivial rfl ?_
    refine .q (op_move rfl) trivial rfl ?_
    refine .q (ap_slice_str_lo Tryz.underlying9 rfl (bnd_some rfl rfl) (by rw [hk]; decide)) trivial rfl ?_
    refine .as (.str (key.drop 16)) (by first | rfl | (congr 1; rw [List.take_of_length_le (by simp)])) ?_
    refine .a (op_call (U := [(1024, some ⟨.aggI (dg (leN (key.drop 16) (key.drop 16).length)), 3, true⟩)]) [] [(1024, 1000)] (of_ev (key.drop 16) (by simp; omega)) Tryz.func153 (by kernel_rfl) rfl rfl rfl (⟨⟨_, rfl, rfl, rfl⟩, trivial⟩) (trivial) (⟨⟨1000, _, rfl, rfl, rfl, rfl, .inl rfl⟩, trivial⟩) (trivial) rfl) trivial rfl ?_
    refine .a (op_call (U := [(1032, some ⟨.aggI (dg (acR (rR key) s m + leN (key.drop 16) (key.drop 16).length)), 3, true⟩)]) [(500, 1016), (501, 1024)] [(1032, 1000)] (add_ev (acR (rR key) s m) (leN (key.drop 16) (key.drop 16).length) (by omega) (Nat.le_trans (dl_leN _ _) (by simp; omega))) Tryz.func157 (by kernel_rfl) rfl rfl rfl (⟨⟨_, rfl, rfl, rfl⟩, ⟨_, rfl, rfl, rfl⟩, trivial⟩) (⟨⟨_, _, rfl, rfl, rfl, rfl, (fun h => by cases h), rfl⟩, ⟨_, _, rfl, rfl, rfl, rfl, (fun h => by cases h), rfl⟩, trivial⟩) (⟨⟨1000, _, rfl, rfl, rfl, rfl, .inl rfl⟩, trivial⟩) (⟨(fun h => by cases h), (fun h => by cases h), trivial⟩) rfl) trivial rfl ?_
    refine .q (op_call (U := []) [(500, 1032)] [] (bytes_ev _ 16 (by omega)) Tryz.func110 (by kernel_rfl) rfl rfl rfl (⟨⟨_, rfl, rfl, rfl⟩, ⟨_, rfl, rfl, rfl⟩, trivial⟩) (⟨⟨_, _, rfl, rfl, rfl, rfl, (fun h => by cases h), rfl⟩, trivial⟩) (trivial) (⟨(fun h => by cases h), trivial⟩) rfl) trivial rfl ?_
    refine .q (op_assign rfl) trivial rfl ?_
    refine .nil ?_
    show Ev _ _ _ _ _
    refine .ret ?_
    show RetOk _ _ _ _ _ _ _
    exact ret1v rfl (.inl rfl) rfl (by unfold sumR endR; rw [show (s.length + 15) / 16 = m by omega]; rfl) trivial
end Go.Proofs.YtdmlpblaelfdmaaGreatDoor
namespace Go.Proofs.YtdmlpblaelfdmaaGreatDoor
/-- Limb i of 17 bytes. -/
theorem rn_set (b : List UInt8) (n i : Nat) (hn : n ≤ 5) (hi : i < n) : lb (rnN b n) i = (rwN (b.drop (i * 26 / 8)) 4 >>> UInt64.ofNat (i * 26 % 8)).toNat % 67108864 := by
  induction n with
  | zero => omega
  | succ n ih =>
    simp only [rnN]
    rw [lb_set _ _ _ _ (by rw [length_rnN]; omega)]
    by_cases e : n = i
    · subst e; rw [if_pos rfl, and26]
    · rw [if_neg e]; exact ih (by omega) (by omega)
theorem rn_lb (b : List UInt8) (i : Nat) (hi : i < 5) : lb (rnN b 5) i = leN b 17 / 2 ^ (26 * i) % 67108864 := by
  rw [rn_set b 5 i (by decide) hi, shr_toNat _ _ (by omega), rwN_toNat _ _ (by decide)]
  have key : ∀ o k, o + 4 + k = 17 → leN b 17 = leN b o + 256 ^ o * (leN (b.drop o) 4 + 256 ^ 4 * leN (b.drop (o + 4)) k) := by
    intro o k h
    have h1 := leN_add b (o + 4) k
    rw [h, leN_add b o 4, Nat.pow_add, Nat.mul_assoc, Nat.add_assoc, ← Nat.mul_add] at h1
    exact h1
  have h4 : ∀ o, leN (b.drop o) 4 < 4294967296 := fun o => leN_lt (b.drop o) 4
  match i, hi with
  | 0, _ =>
    have h1 := key 0 13 rfl
    have h2 := h4 0
    have h3 := leN_lt b 0
    simp only [Nat.zero_mul, Nat.zero_div, Nat.zero_mod, Nat.mul_zero, Nat.pow_zero, Nat.div_one] at *
    generalize leN (b.drop 0) 4 = x at *
    generalize leN (b.drop (0 + 4)) 13 = y at *
    omega
  | 1, _ =>
    have h1 := key 3 10 rfl
    have h2 := h4 3
    have h3 := leN_lt b 3
    show leN (b.drop 3) 4 / 2 ^ 2 % 67108864 = leN b 17 / 2 ^ 26 % 67108864
    generalize leN (b.drop 3) 4 = x at *
    generalize leN (b.drop (3 + 4)) 10 = y at *
    omega
  | 2, _ =>
    have h1 := key 6 7 rfl
    have h2 := h4 6
    have h3 := leN_lt b 6
    show leN (b.drop 6) 4 / 2 ^ 4 % 67108864 = leN b 17 / 2 ^ 52 % 67108864
    generalize leN (b.drop 6) 4 = x at *
    generalize leN (b.drop (6 + 4)) 7 = y at *
    omega
  | 3, _ =>
    have h1 := key 9 4 rfl
    have h2 := h4 9
    have h3 := leN_lt b 9
    show leN (b.drop 9) 4 / 2 ^ 6 % 67108864 = leN b 17 / 2 ^ 78 % 67108864
    generalize leN (b.drop 9) 4 = x at *
    generalize leN (b.drop (9 + 4)) 4 = y at *
    omega
  | 4, _ =>
    have h1 := key 13 0 rfl
    have h2 := h4 13
    have h3 := leN_lt b 13
    show leN (b.drop 13) 4 / 2 ^ 0 % 67108864 = leN b 17 / 2 ^ 104 % 67108864
    have h5 : leN (b.drop (13 + 4)) 0 = 0 := rfl
    generalize leN (b.drop 13) 4 = x at *
    generalize leN (b.drop (13 + 4)) 0 = y at *
    omega
theorem rn_small (b : List UInt8) (i : Nat) (hi : i < 5) : lb (rnN b 5) i < 67108864 := by rw [rn_lb b i hi]; exact Nat.mod_lt _ (by decide)
theorem rn_lv (b : List UInt8) : lv (rnN b 5) = leN b 17 % 2 ^ 130 := by
  unfold lv
  rw [rn_lb b 0 (by decide), rn_lb b 1 (by decide), rn_lb b 2 (by decide), rn_lb b 3 (by decide), rn_lb b 4 (by decide)]
  simp only [Nat.mul_zero, Nat.pow_zero, Nat.div_one, Nat.mul_one, show 26 * 2 = 52 from rfl, show 26 * 3 = 78 from rfl, show 26 * 4 = 104 from rfl]
  omega
theorem pl_lb (x y : List UInt64) (n i : Nat) (hn : n ≤ x.length) (h : ∀ i, i < n → lb x i + lb y i < 18446744073709551616) : lb (plN x y n) i = if i < n then lb x i + lb y i else lb x i := by
  induction n generalizing i with
  | zero => rw [if_neg (by omega)]; rfl
  | succ n ih =>
    have ih := ih (hn := by omega) (h := fun i hi => h i (by omega))
    have e := ih n
    rw [if_neg (by omega)] at e
    simp only [plN]
    rw [lb_set _ _ _ _ (by rw [length_plN]; omega)]
    by_cases he : n = i
    · subst he
      rw [if_pos rfl, if_pos (by omega)]
      rw [add_noov _ _ (by show lb (plN x y n) n + lb y n < _; rw [e]; exact h n (by omega))]
      show lb (plN x y n) n + lb y n = _
      rw [e]
    · rw [if_neg he, ih i]
      by_cases h2 : i < n
      · rw [if_pos h2, if_pos (by omega)]
      · rw [if_neg h2, if_neg (by omega)]
theorem lb_cons0 (a : UInt64) (l : List UInt64) : lb (a :: l) 0 = a.toNat := rfl
theorem lb_cons (a : UInt64) (l : List UInt64) (i : Nat) : lb (a :: l) (i + 1) = lb l i := rfl
theorem list5 {α : Type} (x : List α) (h : x.length = 5) : ∃ a b c d e, x = [a, b, c, d, e] := by
  match x, h with
  | [a, b, c, d, e], _ => exact ⟨a, b, c, d, e, rfl⟩
theorem tm_list (x0 x1 x2 x3 x4 y0 y1 y2 y3 y4 : UInt64) : tmO [x0, x1, x2, x3, x4] [y0, y1, y2, y3, y4] 5 =
    [0 + x0 * y0 + UInt64.ofNat 5 * x1 * y4 + UInt64.ofNat 5 * x2 * y3 + UInt64.ofNat 5 * x3 * y2 + UInt64.ofNat 5 * x4 * y1,
     0 + x0 * y1 + x1 * y0 + UInt64.ofNat 5 * x2 * y4 + UInt64.ofNat 5 * x3 * y3 + UInt64.ofNat 5 * x4 * y2,
     0 + x0 * y2 + x1 * y1 + x2 * y0 + UInt64.ofNat 5 * x3 * y4 + UInt64.ofNat 5 * x4 * y3,
     0 + x0 * y3 + x1 * y2 + x2 * y1 + x3 * y0 + UInt64.ofNat 5 * x4 * y4,
     0 + x0 * y4 + x1 * y3 + x2 * y2 + x3 * y1 + x4 * y0] := by
  simp only [tmO, tmI, List.replicate, Nat.reduceAdd, Nat.reduceLT, Nat.reduceSub, if_true, if_false, List.set_cons_zero, List.set_cons_succ, List.getD_cons_zero, List.getD_cons_succ]
theorem five_toNat : (UInt64.ofNat 5).toNat = 5 := rfl
theorem zero_toNat : (0 : UInt64).toNat = 0 := rfl
theorem mul_b {a b : Nat} (ha : a < 268435456) (hb : b < 134217728) : a * b < 36028797018963968 := by
  have := Nat.mul_lt_mul_of_lt_of_le ha (Nat.le_of_lt hb) (by decide)
  exact this
/-- a product in 64 bits, or five of it. -/
theorem mb (x y : UInt64) (hx : x.toNat < 268435456) (hy : y.toNat < 134217728) : (x * y).toNat = x.toNat * y.toNat ∧ (UInt64.ofNat 5 * x * y).toNat = 5 * (x.toNat * y.toNat) ∧ x.toNat * y.toNat < 36028797018963968 := by
  have h := mul_b hx hy
  have h5 : (UInt64.ofNat 5 * x).toNat = 5 * x.toNat := by rw [mul_noov _ _ (by rw [five_toNat]; omega), five_toNat]
  refine ⟨mul_noov _ _ (by omega), ?_, h⟩
  rw [mul_noov _ _ (by rw [h5, Nat.mul_assoc]; omega), h5, Nat.mul_assoc]
theorem addm (a b : UInt64) {m n : Nat} (ha : a.toNat = m) (hb : b.toNat = n) (h : m + n < 18446744073709551616) : (a + b).toNat = m + n := by
  rw [add_noov _ _ (by omega), ha, hb]
theorem poly_id (x0 x1 x2 x3 x4 y0 y1 y2 y3 y4 B : Nat) :
    (x0 + B * x1 + B ^ 2 * x2 + B ^ 3 * x3 + B ^ 4 * x4) * (y0 + B * y1 + B ^ 2 * y2 + B ^ 3 * y3 + B ^ 4 * y4) =
    (x0 * y0) + B * (x0 * y1 + x1 * y0) + B ^ 2 * (x0 * y2 + x1 * y1 + x2 * y0) + B ^ 3 * (x0 * y3 + x1 * y2 + x2 * y1 + x3 * y0) + B ^ 4 * (x0 * y4 + x1 * y3 + x2 * y2 + x3 * y1 + x4 * y0)
    + B ^ 5 * ((x1 * y4 + x2 * y3 + x3 * y2 + x4 * y1) + B * (x2 * y4 + x3 * y3 + x4 * y2) + B ^ 2 * (x3 * y4 + x4 * y3) + B ^ 3 * (x4 * y4)) := by
  grind
theorem tm_spec (x y : List UInt64) (hx : x.length = 5) (hy : y.length = 5) (bx : ∀ i, i < 5 → lb x i < 268435456) (by' : ∀ i, i < 5 → lb y i < 134217728) :
    (∀ i, lb (tmO x y 5) i < 1152921504606846976) ∧ ∃ q, lv x * lv y = lv (tmO x y 5) + (2 ^ 130 - 5) * q := by
  obtain ⟨x0, x1, x2, x3, x4, rfl⟩ := list5 x hx
  obtain ⟨y0, y1, y2, y3, y4, rfl⟩ := list5 y hy
  have a0 : x0.toNat < 268435456 := bx 0 (by decide)
  have a1 : x1.toNat < 268435456 := bx 1 (by decide)
  have a2 : x2.toNat < 268435456 := bx 2 (by decide)
  have a3 : x3.toNat < 268435456 := bx 3 (by decide)
  have a4 : x4.toNat < 268435456 := bx 4 (by decide)
  have b0 : y0.toNat < 134217728 := by' 0 (by decide)
  have b1 : y1.toNat < 134217728 := by' 1 (by decide)
  have b2 : y2.toNat < 134217728 := by' 2 (by decide)
  have b3 : y3.toNat < 134217728 := by' 3 (by decide)
  have b4 : y4.toNat < 134217728 := by' 4 (by decide)
  obtain ⟨p00, q00, r00⟩ := mb x0 y0 a0 b0
  obtain ⟨p01, q01, r01⟩ := mb x0 y1 a0 b1
  obtain ⟨p02, q02, r02⟩ := mb x0 y2 a0 b2
  obtain ⟨p03, q03, r03⟩ := mb x0 y3 a0 b3
  obtain ⟨p04, q04, r04⟩ := mb x0 y4 a0 b4
  obtain ⟨p10, q10, r10⟩ := mb x1 y0 a1 b0
  obtain ⟨p11, q11, r11⟩ := mb x1 y1 a1 b1
  obtain ⟨p12, q12, r12⟩ := mb x1 y2 a1 b2
  obtain ⟨p13, q13, r13⟩ := mb x1 y3 a1 b3
  obtain ⟨p14, q14, r14⟩ := mb x1 y4 a1 b4
  obtain ⟨p20, q20, r20⟩ := mb x2 y0 a2 b0
  obtain ⟨p21, q21, r21⟩ := mb x2 y1 a2 b1
  obtain ⟨p22, q22, r22⟩ := mb x2 y2 a2 b2
  obtain ⟨p23, q23, r23⟩ := mb x2 y3 a2 b3
  obtain ⟨p24, q24, r24⟩ := mb x2 y4 a2 b4
  obtain ⟨p30, q30, r30⟩ := mb x3 y0 a3 b0
  obtain ⟨p31, q31, r31⟩ := mb x3 y1 a3 b1
  obtain ⟨p32, q32, r32⟩ := mb x3 y2 a3 b2
  obtain ⟨p33, q33, r33⟩ := mb x3 y3 a3 b3
  obtain ⟨p34, q34, r34⟩ := mb x3 y4 a3 b4
  obtain ⟨p40, q40, r40⟩ := mb x4 y0 a4 b0
  obtain ⟨p41, q41, r41⟩ := mb x4 y1 a4 b1
  obtain ⟨p42, q42, r42⟩ := mb x4 y2 a4 b2
  obtain ⟨p43, q43, r43⟩ := mb x4 y3 a4 b3
  obtain ⟨p44, q44, r44⟩ := mb x4 y4 a4 b4
  rw [tm_list]
  have id := poly_id x0.toNat x1.toNat x2.toNat x3.toNat x4.toNat y0.toNat y1.toNat y2.toNat y3.toNat y4.toNat 67108864
  generalize x0.toNat * y0.toNat = m00 at *
  generalize x0.toNat * y1.toNat = m01 at *
  generalize x0.toNat * y2.toNat = m02 at *
  generalize x0.toNat * y3.toNat = m03 at *
  generalize x0.toNat * y4.toNat = m04 at *
  generalize x1.toNat * y0.toNat = m10 at *
  generalize x1.toNat * y1.toNat = m11 at *
  generalize x1.toNat * y2.toNat = m12 at *
  generalize x1.toNat * y3.toNat = m13 at *
  generalize x1.toNat * y4.toNat = m14 at *
  generalize x2.toNat * y0.toNat = m20 at *
  generalize x2.toNat * y1.toNat = m21 at *
  generalize x2.toNat * y2.toNat = m22 at *
  generalize x2.toNat * y3.toNat = m23 at *
  generalize x2.toNat * y4.toNat = m24 at *
  generalize x3.toNat * y0.toNat = m30 at *
  generalize x3.toNat * y1.toNat = m31 at *
  generalize x3.toNat * y2.toNat = m32 at *
  generalize x3.toNat * y3.toNat = m33 at *
  generalize x3.toNat * y4.toNat = m34 at *
  generalize x4.toNat * y0.toNat = m40 at *
  generalize x4.toNat * y1.toNat = m41 at *
  generalize x4.toNat * y2.toNat = m42 at *
  generalize x4.toNat * y3.toNat = m43 at *
  generalize x4.toNat * y4.toNat = m44 at *
  have t0 := addm _ _ (addm _ _ (addm _ _ (addm _ _ (addm _ _ zero_toNat p00 (by omega)) q14 (by omega)) q23 (by omega)) q32 (by omega)) q41 (by omega)
  have t1 := addm _ _ (addm _ _ (addm _ _ (addm _ _ (addm _ _ zero_toNat p01 (by omega)) p10 (by omega)) q24 (by omega)) q33 (by omega)) q42 (by omega)
  have t2 := addm _ _ (addm _ _ (addm _ _ (addm _ _ (addm _ _ zero_toNat p02 (by omega)) p11 (by omega)) p20 (by omega)) q34 (by omega)) q43 (by omega)
  have t3 := addm _ _ (addm _ _ (addm _ _ (addm _ _ (addm _ _ zero_toNat p03 (by omega)) p12 (by omega)) p21 (by omega)) p30 (by omega)) q44 (by omega)
  have t4 := addm _ _ (addm _ _ (addm _ _ (addm _ _ (addm _ _ zero_toNat p04 (by omega)) p13 (by omega)) p22 (by omega)) p31 (by omega)) p40 (by omega)
  constructor
  · intro i
    match i with
    | 0 => rw [lb_cons0, t0]; omega
    | 1 => rw [show (1 : Nat) = 0 + 1 from rfl, lb_cons, lb_cons0, t1]; omega
    | 2 => rw [show (2 : Nat) = 0 + 1 + 1 from rfl, lb_cons, lb_cons, lb_cons0, t2]; omega
    | 3 => rw [show (3 : Nat) = 0 + 1 + 1 + 1 from rfl, lb_cons, lb_cons, lb_cons, lb_cons0, t3]; omega
    | 4 => rw [show (4 : Nat) = 0 + 1 + 1 + 1 + 1 from rfl, lb_cons, lb_cons, lb_cons, lb_cons, lb_cons0, t4]; omega
    | n + 5 => simp [lb]
  · refine ⟨(m14 + m23 + m32 + m41) + 67108864 * (m24 + m33 + m42) + 67108864 ^ 2 * (m34 + m43) + 67108864 ^ 3 * m44, ?_⟩
    have lx : lv [x0, x1, x2, x3, x4] = x0.toNat + 67108864 * x1.toNat + 67108864 ^ 2 * x2.toNat + 67108864 ^ 3 * x3.toNat + 67108864 ^ 4 * x4.toNat := rfl
    have ly : lv [y0, y1, y2, y3, y4] = y0.toNat + 67108864 * y1.toNat + 67108864 ^ 2 * y2.toNat + 67108864 ^ 3 * y3.toNat + 67108864 ^ 4 * y4.toNat := rfl
    rw [lx, ly, id]
    show _ = ((_ : UInt64).toNat + 67108864 * (_ : UInt64).toNat + 4503599627370496 * (_ : UInt64).toNat + 302231454903657293676544 * (_ : UInt64).toNat + 20282409603651670423947251286016 * (_ : UInt64).toNat) + _
    simp only [List.getD_cons_zero, List.getD_cons_succ]
    rw [t0, t1, t2, t3, t4]
    omega
theorem lb_big (x : List UInt64) (i : Nat) (h : x.length ≤ i) : lb x i = 0 := by
  unfold lb; rw [List.getD_eq_getElem?_getD, List.getElem?_eq_none h]; rfl
/-- What the rounds keep. -/
structure Good (x : List UInt64) : Prop where
  len : x.length = 5
  zero : lb x 0 < 67108869
  rest : ∀ i, 1 ≤ i → lb x i < 67108864
theorem cN_b (x : List UInt64) (h : ∀ i, lb x i < 1152921504606846976) (n : Nat) : cN x n < 34359738368 := by
  induction n with
  | zero => exact Nat.zero_lt_succ _
  | succ n ih => have := h n; simp only [cN]; omega
theorem times_spec (x y : List UInt64) (hx : x.length = 5) (hy : y.length = 5) (bx : ∀ i, i < 5 → lb x i < 268435456) (by' : ∀ i, i < 5 → lb y i < 134217728) :
    Good (times26 x y) ∧ ∃ q, lv x * lv y = lv (times26 x y) + prR * q := by
  obtain ⟨h1, q, h2⟩ := tm_spec x y hx hy bx by'
  have lt := length_tmO x y 5
  have h1' : ∀ i, lb (tmO x y 5) i < 9223372036854775808 := fun i => Nat.lt_trans (h1 i) (by decide)
  have c1 := cN_b _ h1 5
  have f1 := fold_lb _ h1' lt
  have v1 := fold_lv _ h1' lt
  have s1 : ∀ i, 1 ≤ i → lb (fold26 (tmO x y 5)) i < 67108864 := fun i hi => by
    rw [f1 i, if_neg (by omega)]
    by_cases h : i < 5
    · exact crN_small _ h1' lt i h
    · rw [lb_big _ _ (by rw [length_crN]; omega)]; decide
  have z1 : lb (fold26 (tmO x y 5)) 0 < 274877906944 := by
    rw [f1 0, if_pos rfl]; have := crN_small _ h1' lt 0 (by decide); omega
  have l1 : (fold26 (tmO x y 5)).length = 5 := by rw [length_fold26, lt]
  unfold times26
  generalize tmO x y 5 = t at *
  generalize fold26 t = u at *
  have h3 : ∀ i, lb u i < 9223372036854775808 := fun i => by
    by_cases h : i = 0
    · subst h; omega
    · exact Nat.lt_trans (s1 i (by omega)) (by decide)
  have f2 := fold_lb u h3 l1
  have v2 := fold_lv u h3 l1
  have c2 : cN u 5 ≤ 1 := by
    have a1 := s1 1 (by decide)
    have a2 := s1 2 (by decide)
    have a3 := s1 3 (by decide)
    have a4 := s1 4 (by decide)
    simp only [cN]
    omega
  refine ⟨⟨by rw [length_fold26, l1], ?_, fun i hi => ?_⟩, cN t 5 + cN u 5 + q, ?_⟩
  · rw [f2 0, if_pos rfl]; have := crN_small u h3 l1 0 (by decide); omega
  · rw [f2 i, if_neg (by omega)]
    by_cases h : i < 5
    · exact crN_small u h3 l1 i h
    · rw [lb_big _ _ (by rw [length_crN]; omega)]; decide
  · unfold prR
    rw [h2, ← v1, ← v2]; omega
theorem lv_lt (x : List UInt64) (h : ∀ i, i < 5 → lb x i < 67108864) : lv x < 2 ^ 130 := by
  have h0 := h 0 (by decide)
  have h1 := h 1 (by decide)
  have h2 := h 2 (by decide)
  have h3 := h 3 (by decide)
  have h4 := h 4 (by decide)
  unfold lv
  omega
theorem red_spec (x : List UInt64) (h : Good x) : (∀ i, i < 5 → lb (red26 x) i < 67108864) ∧ lv (red26 x) = lv x % prR := by
  have hl := h.len
  have hb : ∀ i, lb x i < 9223372036854775808 := fun i => by
    by_cases e : i = 0
    · subst e; have := h.zero; omega
    · exact Nat.lt_trans (h.rest i (by omega)) (by decide)
  have f := fold_lb x hb hl
  have v := fold_lv x hb hl
  have cs := crN_spec x hb 5 (by omega)
  have c0 : cN x 5 ≤ 1 ∧ lb (fold26 x) 0 < 67108864 := by
    have a0 := h.zero
    have a1 := h.rest 1 (by decide)
    have a2 := h.rest 2 (by decide)
    have a3 := h.rest 3 (by decide)
    have a4 := h.rest 4 (by decide)
    have e := cs.2 0
    rw [f 0, if_pos rfl, e, if_pos (by decide)]
    simp only [cN]
    omega
  have fs : ∀ i, i < 5 → lb (fold26 x) i < 67108864 := fun i hi => by
    by_cases e : i = 0
    · subst e; exact c0.2
    · rw [f i, if_neg e]; exact crN_small x hb hl i hi
  have fv := lv_lt _ fs
  have fl : (fold26 x).length = 5 := by rw [length_fold26, hl]
  have g := pl_lb (fold26 x) ((List.replicate 5 0).set 0 (UInt64.ofNat 5)) 5
  have five : ∀ i, lb ((List.replicate 5 0).set 0 (UInt64.ofNat 5)) i = if i = 0 then 5 else 0 := fun i => by
    rw [lb_set _ _ _ _ (by decide)]
    by_cases e : 0 = i
    · rw [if_pos e, if_pos e.symm]; rfl
    · rw [if_neg e, if_neg (fun h => e h.symm)]
      unfold lb
      match i with
      | 0 => rfl
      | 1 => rfl
      | 2 => rfl
      | 3 => rfl
      | 4 => rfl
      | n + 5 => simp
  have g : ∀ i, i < 5 → lb (plN (fold26 x) ((List.replicate 5 0).set 0 (UInt64.ofNat 5)) 5) i = lb (fold26 x) i + if i = 0 then 5 else 0 := fun i hi => by
    rw [pl_lb _ _ _ _ (by omega) (fun j hj => by have := fs j hj; rw [five j]; split <;> omega), if_pos hi, five i]
  have gl : (plN (fold26 x) ((List.replicate 5 0).set 0 (UInt64.ofNat 5)) 5).length = 5 := by rw [length_plN, fl]
  have gv : lv (plN (fold26 x) ((List.replicate 5 0).set 0 (UInt64.ofNat 5)) 5) = lv (fold26 x) + 5 := by
    unfold lv
    rw [g 0 (by decide), g 1 (by decide), g 2 (by decide), g 3 (by decide), g 4 (by decide)]
    simp only [if_true, show ¬ (1 : Nat) = 0 from by decide, show ¬ (2 : Nat) = 0 from by decide, show ¬ (3 : Nat) = 0 from by decide, show ¬ (4 : Nat) = 0 from by decide, if_false]
    omega
  unfold red26 less26
  generalize plN (fold26 x) ((List.replicate 5 0).set 0 (UInt64.ofNat 5)) 5 = y at *
  have yb : ∀ i, lb y i < 9223372036854775808 := fun i => by
    by_cases e : i < 5
    · rw [g i e]; have := fs i e; split <;> omega
    · rw [lb_big y i (by omega)]; decide
  have ys := crN_small y yb gl
  have yl := crN_lv y yb gl
  have y2 := (crN_spec y yb 5 (by omega)).1
  have yv := lv_lt _ ys
  by_cases e : (crN y 5).2 == UInt64.ofNat 0
  · rw [if_pos e]
    have e1 : (crN y 5).2 = UInt64.ofNat 0 := by simpa using e
    have e2 : cN y 5 = 0 := by rw [← y2, e1]; rfl
    refine ⟨fs, ?_⟩
    unfold prR
    omega
  · rw [if_neg e]
    have e2 : cN y 5 ≠ 0 := fun h0 => e (by
      have : (crN y 5).2 = UInt64.ofNat 0 := UInt64.toNat_inj.1 (by rw [y2, h0]; rfl)
      rw [this]; rfl)
    refine ⟨ys, ?_⟩
    unfold prR
    omega
theorem low_spec (x : List UInt64) (h : ∀ i, i < 5 → lb x i < 67108864) : (lowW x).toNat = lv x % 2 ^ 64 := by
  have h0 := h 0 (by decide)
  have h1 := h 1 (by decide)
  have h2 := h 2 (by decide)
  unfold lb at h0 h1 h2
  have s1 : (x.getD 1 0 <<< UInt64.ofNat 26).toNat = 67108864 * (x.getD 1 0).toNat := by rw [shl_toNat _ _ (by decide)]; omega
  have s2 := shl_toNat (x.getD 2 0) 52 (by decide)
  have o1 := or_add64 (x.getD 0 0) (x.getD 1 0 <<< UInt64.ofNat 26) 26 h0 ⟨_, s1⟩
  have o2 := or_add64 (x.getD 0 0 ||| (x.getD 1 0 <<< UInt64.ofNat 26)) (x.getD 2 0 <<< UInt64.ofNat 52) 52 (by rw [o1, s1]; omega) (by rw [s2]; omega)
  unfold lowW lv lb
  rw [o2, o1, s1, s2]
  omega
theorem high_spec (x : List UInt64) (h : ∀ i, i < 5 → lb x i < 67108864) : (highW x).toNat = lv x / 2 ^ 64 % 2 ^ 64 := by
  have h0 := h 0 (by decide)
  have h1 := h 1 (by decide)
  have h2 := h 2 (by decide)
  have h3 := h 3 (by decide)
  have h4 := h 4 (by decide)
  unfold lb at h0 h1 h2 h3 h4
  have s0 := shr_toNat (x.getD 2 0) 12 (by decide)
  have s1 : (x.getD 3 0 <<< UInt64.ofNat 14).toNat = 16384 * (x.getD 3 0).toNat := by rw [shl_toNat _ _ (by decide)]; omega
  have s2 := shl_toNat (x.getD 4 0) 40 (by decide)
  have o1 := or_add64 (x.getD 2 0 >>> UInt64.ofNat 12) (x.getD 3 0 <<< UInt64.ofNat 14) 14 (by rw [s0]; omega) ⟨_, s1⟩
  have o2 := or_add64 ((x.getD 2 0 >>> UInt64.ofNat 12) ||| (x.getD 3 0 <<< UInt64.ofNat 14)) (x.getD 4 0 <<< UInt64.ofNat 40) 40 (by rw [o1, s0, s1]; omega) (by rw [s2]; omega)
  unfold highW lv lb
  rw [o2, o1, s0, s1, s2]
  omega
theorem bytes_two (v : Nat) (lo hi : UInt64) (h : v % 2 ^ 128 = lo.toNat + 2 ^ 64 * hi.toNat) : pwN (pwN (List.replicate 16 0) 0 lo 8) 8 hi 8 = bsN v 16 := by
  refine ext_getD _ _ (by simp [length_pwN, length_bsN]) fun i hi' => ?_
  have hi' : i < 16 := by simpa [length_pwN] using hi'
  have b1 := lo.toNat_lt
  have b2 := hi.toNat_lt
  rw [bs_get _ _ _ hi', pw_get _ _ _ _ (by decide) (by simp [length_pwN]), pw_get _ _ _ _ (by decide) (by simp)]
  generalize lo.toNat = a at *
  generalize hi.toNat = b at *
  by_cases c : i < 8
  · rw [if_neg (by omega), if_pos (by omega)]
    have e : v = a + 2 ^ 64 * (b + 2 ^ 64 * (v / 2 ^ 128)) := by omega
    rw [e, low_byte _ _ _ c, Nat.sub_zero]
  · rw [if_pos (by omega)]
    have e1 : v / 256 ^ i = v / 2 ^ 64 / 256 ^ (i - 8) := by
      rw [Nat.div_div_eq_div_mul, show (2 : Nat) ^ 64 = 256 ^ 8 from rfl, ← Nat.pow_add]; congr 2; omega
    have e : v / 2 ^ 64 = b + 2 ^ 64 * (v / 2 ^ 128) := by omega
    rw [e1, e, low_byte _ _ _ (by omega)]
theorem and15 (x : UInt8) : x &&& UInt8.ofNat 15 = x % 16 := by
  refine UInt8.toNat_inj.1 ?_
  rw [UInt8.toNat_and, UInt8.toNat_mod, show (UInt8.ofNat 15).toNat = 2 ^ 4 - 1 from rfl, Nat.and_two_pow_sub_one_eq_mod]; rfl
theorem and252 (x : UInt8) : x &&& UInt8.ofNat 252 = x / 4 * 4 := by
  have h : ∀ n : Fin 256, n.val &&& 252 = n.val / 4 * 4 % 256 := by decide +kernel
  refine UInt8.toNat_inj.1 ?_
  rw [UInt8.toNat_and, UInt8.toNat_mul, UInt8.toNat_div]
  exact h ⟨x.toNat, x.toNat_lt⟩
theorem mA_app (l z : List UInt8) (j : Nat) (h : 4 * j ≤ l.length) : mA (l ++ z) j = m16 l j ++ z := by
  induction j with
  | zero => rfl
  | succ j ih =>
    have hl := length_m16 l j
    simp only [mA, m16]
    rw [ih (by omega), List.set_append_left _ _ (by omega), and15]
    congr 2
    rw [List.getD_eq_getElem?_getD, List.getElem?_append_left (by omega), ← List.getD_eq_getElem?_getD]
theorem mB_app (l z : List UInt8) (j : Nat) (h : 4 * j < l.length) : mB (l ++ z) j = m4 l j ++ z := by
  induction j with
  | zero => rfl
  | succ j ih =>
    have hl := length_m4 l j
    simp only [mB, m4]
    rw [ih (by omega), List.set_append_left _ _ (by omega), and252]
    congr 2
    rw [List.getD_eq_getElem?_getD, List.getElem?_append_left (by omega), ← List.getD_eq_getElem?_getD]
theorem mult_cl (key : List UInt8) (h : key.length = 32) : multL key = clR key ++ [0] := by
  have hl : (key.take 16).length = 16 := by rw [List.length_take]; omega
  unfold multL clR
  rw [mA_app _ _ _ (by omega), mB_app _ _ _ (by rw [length_m16]; omega)]
theorem r_lv (key : List UInt8) (h : key.length = 32) : lv (rnN (multL key) 5) = rR key := by
  rw [rn_lv, mult_cl key h]
  have hl := length_clR key h
  have e : leN (clR key ++ [0]) 17 = leN (clR key) 16 := by
    rw [← leN_over (clR key) 16 1 (by omega)]
    refine leN_congr _ _ _ fun i hi => ?_
    rw [getD_app]
    by_cases c : i < (clR key).length
    · rw [if_pos c]
    · rw [if_neg c, getD_over _ _ (by omega : (clR key).length ≤ i)]
      rw [show i - (clR key).length = 0 by omega]; rfl
  unfold rR
  rw [e, hl]
  have := leN_lt (clR key) 16
  omega
theorem chunk_le (c : List UInt8) (h : c.length ≤ 16) : leN (chunkL c) 17 = leN (c ++ [1]) (c ++ [1]).length ∧ leN (c ++ [1]) (c ++ [1]).length < 2 ^ 130 := by
  have hl : (c ++ [1]).length = c.length + 1 := by simp
  constructor
  · have e := leN_over (c ++ [1]) (c ++ [1]).length (16 - c.length) (Nat.le_refl _)
    rw [← e, show (c ++ [(1 : UInt8)]).length + (16 - c.length) = 17 by omega]
    refine leN_congr _ _ _ fun i hi => ?_
    unfold chunkL
    rw [List.getD_eq_getElem?_getD, List.getElem?_set]
    by_cases c1 : c.length = i
    · subst c1
      rw [if_pos rfl, if_pos (by simp; omega), getD_app, if_neg (by omega), Nat.sub_self]; rfl
    · rw [if_neg c1, ← List.getD_eq_getElem?_getD, getD_app, getD_app]
      by_cases c2 : i < c.length
      · rw [if_pos c2, if_pos c2]
      · rw [if_neg c2, if_neg c2, getD_over [1] _ (by simp; omega)]
        rw [List.getD_eq_getElem?_getD, List.getElem?_replicate]
        split <;> rfl
  · have h1 := leN_lt (c ++ [1]) c.length
    rw [hl]
    simp only [leN]
    rw [getD_app, if_neg (by omega), Nat.sub_self]
    show _ + 256 ^ c.length * 1 < _
    have h2 : 256 ^ c.length ≤ 256 ^ 16 := Nat.pow_le_pow_right (by decide) h
    have h3 : (256 : Nat) ^ 16 = 2 ^ 128 := by decide
    omega
theorem pl_lv (x y : List UInt64) (hx : x.length = 5) (h : ∀ i, i < 5 → lb x i + lb y i < 18446744073709551616) : lv (plN x y 5) = lv x + lv y := by
  have g := pl_lb x y 5
  unfold lv
  rw [g 0 (by omega) h, g 1 (by omega) h, g 2 (by omega) h, g 3 (by omega) h, g 4 (by omega) h]
  simp only [show (0 : Nat) < 5 from by decide, show (1 : Nat) < 5 from by decide, show (2 : Nat) < 5 from by decide, show (3 : Nat) < 5 from by decide, show (4 : Nat) < 5 from by decide, if_true]
  omega
theorem mod_l (a n r p : Nat) : (a + n) * r % p = (a % p + n) * r % p := by
  have h := Nat.mod_add_div a p
  have e : (a + n) * r = (a % p + n) * r + p * (a / p * r) := by
    conv => lhs; rw [← h]
    generalize a % p = x
    generalize a / p = y
    grind
  rw [e, Nat.add_mul_mod_self_left]
theorem acc_spec (key s : List UInt8) (hk : key.length = 32) (j : Nat) : Good (accN (rnN (multL key) 5) s j) ∧ lv (accN (rnN (multL key) 5) s j) % prR = acR (rR key) s j := by
  induction j with
  | zero => exact ⟨⟨rfl, by show lb (List.replicate 5 0) 0 < _; decide, fun i _ => by show lb (List.replicate 5 0) i < _; unfold lb; rw [List.getD_eq_getElem?_getD, List.getElem?_replicate]; split <;> decide⟩, rfl⟩
  | succ j ih =>
    obtain ⟨g, e⟩ := ih
    simp only [accN, acR]
    have cl : ((s.drop (16 * j)).take 16).length ≤ 16 := by rw [List.length_take]; omega
    obtain ⟨k1, k2⟩ := chunk_le _ cl
    have n1 : lv (rnN (chunkL ((s.drop (16 * j)).take 16)) 5) = nR s j := by
      rw [rn_lv, k1]; exact Nat.mod_eq_of_lt k2
    have rs := rn_small (chunkL ((s.drop (16 * j)).take 16))
    have ks := rn_small (multL key)
    generalize rnN (chunkL ((s.drop (16 * j)).take 16)) 5 = n at *
    have gb : ∀ i, lb (accN (rnN (multL key) 5) s j) i < 67108869 := fun i => by
      by_cases c : i = 0
      · subst c; exact g.zero
      · exact Nat.lt_trans (g.rest i (by omega)) (by decide)
    have gl := g.len
    rw [← r_lv key hk]
    rw [← r_lv key hk] at e
    have kl := length_rnN (multL key) 5
    generalize rnN (multL key) 5 = r at *
    generalize accN r s j = a at *
    have sb : ∀ i, i < 5 → lb a i + lb n i < 18446744073709551616 := fun i hi => by have := gb i; have := rs i hi; omega
    have pv := pl_lv a n gl sb
    have pb : ∀ i, i < 5 → lb (plN a n 5) i < 268435456 := fun i hi => by
      rw [pl_lb a n 5 i (by omega) sb, if_pos hi]; have := gb i; have := rs i hi; omega
    obtain ⟨t1, q, t2⟩ := times_spec (plN a n 5) r (by rw [length_plN, gl]) kl pb (fun i hi => Nat.lt_trans (ks i hi) (by decide))
    refine ⟨t1, ?_⟩
    rw [pv, n1] at t2
    rw [← e]
    have := congrArg (· % prR) t2
    simp only [Nat.add_mul_mod_self_left] at this
    rw [← this, mod_l]
/-- The program's sum and the reference's are one. -/
theorem sum_eq (key s : List UInt8) (hk : key.length = 32) : sumL key s = sumR key s := by
  unfold sumL sumR
  refine bytes_two _ _ _ ?_
  obtain ⟨g, e⟩ := acc_spec key s hk ((s.length + 15) / 16)
  obtain ⟨r1, r2⟩ := red_spec _ g
  have lo := low_spec _ r1
  have hi := high_spec _ r1
  rw [r2, e] at lo hi
  have ha : acR (rR key) s ((s.length + 15) / 16) < 2 ^ 130 := by rw [← e]; unfold prR; omega
  have hd : (key.drop 16).length = 16 := by rw [List.length_drop]; omega
  have s0 := leN_add (key.drop 16) 8 8
  rw [List.drop_drop] at s0
  have w0 := rwN_toNat (key.drop 16) 8 (by decide)
  have w1 := rwN_toNat (key.drop 24) 8 (by decide)
  have b0 := leN_lt (key.drop 16) 8
  have b1 := leN_lt (key.drop 24) 8
  unfold endR
  rw [hd, s0]
  unfold sumLo sumHi accL carW
  generalize red26 (accN (rnN (multL key) 5) s ((s.length + 15) / 16)) = x at *
  rw [UInt64.toNat_add, UInt64.toNat_add, UInt64.toNat_add, UInt64.toNat_add, lo, hi, w0, w1, show (UInt64.ofNat 0).toNat = 0 from rfl]
  rw [UInt64.toNat_ofNat_of_lt' (by show _ < 18446744073709551616; omega)]
  generalize acR (rR key) s ((s.length + 15) / 16) = a at *
  generalize leN (key.drop 16) 8 = p at *
  generalize leN (key.drop (16 + 8)) 8 = q at *
  generalize leN (key.drop 24) 8 = q' at *
  omega
end Go.Proofs.YtdmlpblaelfdmaaGreatDoor
namespace Go.Proofs.YtdmlpblaelfdmaaGreatDoor
open Go.RowKit
end Go.Proofs.YtdmlpblaelfdmaaGreatDoor
namespace Go.Proofs.YtdmlpblaelfdmaaGreatDoor
open Go.RowKit
theorem refCblock_ev (K N : List UInt8) (C : UInt32) (q : UInt64) (hq : q.toNat = C.toNat) (hK : K.length = 32) (hN : N.length = 12) : Meets Tryz.prog 107 [.str K, .u64 q, .str N] [] (.str (cBlock K C N)) [] :=
  meets_of_walk fun E _ vals w hg hl hr hR => by
    obtain ⟨a, b, c, rfl, ha, hb, hc⟩ := args3 hl hr
    rw [ha.str_inv, hb.u64_inv, hc.str_inv, hq]
    have hlt := C.toNat_lt
    exact (refCblock_any ⟨K.toArray⟩ ⟨N.toArray⟩ C (C.toNat : Int) w (by simpa [ByteArray.size] using hK) (by simpa [ByteArray.size] using hN) (by omega) (by unfold n32; omega)).mono fun ed w' ⟨h1, h2⟩ => ⟨_, h1, .str _, h2⟩
theorem lens_eq (lo hi : UInt64) : pwN (pwN (List.replicate 16 0) 0 lo 8) 8 hi 8 = bsN lo.toNat 8 ++ bsN hi.toNat 8 := by
  refine ext_getD _ _ (by simp [length_pwN, length_bsN]) fun i hi' => ?_
  have hi' : i < 16 := by simpa [length_pwN] using hi'
  rw [pw_get _ _ _ _ (by decide) (by simp [length_pwN]), pw_get _ _ _ _ (by decide) (by simp), getD_app, length_bsN]
  by_cases c : i < 8
  · rw [if_neg (by omega), if_pos (by omega), if_pos c, bs_get _ _ _ c, Nat.sub_zero]
  · rw [if_pos (by omega), if_neg c, bs_get _ _ _ (by omega)]
theorem ofI64_len {n : Nat} (h : n ≤ 1000000) : (ofI64 (n : Int)).toNat = n := by
  have := ofI64_toNat (n : Int)
  omega
theorem lens_two (extra cipher : List UInt8) (hE : extra.length ≤ 1000000) (hC : cipher.length ≤ 1000000) : lensL extra cipher = bsN extra.length 8 ++ bsN cipher.length 8 := by
  unfold lensL
  rw [lens_eq, ofI64_len hE, ofI64_len hC]
theorem rep_add (j : Nat) : List.replicate j (0 : UInt8) ++ [0] = List.replicate (j + 1) 0 := (List.replicate_succ' ..).symm
/-- What the reference authenticates. -/
theorem mark_eq (key nonce cipher extra : List UInt8) (hE : extra.length ≤ 1000000) (hC : cipher.length ≤ 1000000) :
    sumR (onceL key nonce) (((extra ++ padL extra) ++ (cipher ++ padL cipher)) ++ bsN extra.length 8 ++ bsN cipher.length 8) = tagL key nonce cipher extra := by
  unfold tagL
  rw [sum_eq _ _ (length_onceL key nonce)]
  unfold macIn
  rw [lens_two _ _ hE hC]
  simp only [List.append_assoc]
set_option maxRecDepth 100000 in
theorem filled_ev (s : List UInt8) (hs : s.length ≤ 1000000) : Meets Tryz.prog 109 [.str s] [] (.str (s ++ padL s)) [] := by
 refine meets_of_ev (nt := 12) Tryz.func109 rfl rfl (Nat.le_of_ble_eq_true rfl) ?_
 refine .seq ?_
 refine .region ?_
 refine .q (op_assign rfl) trivial rfl ?_
 refine .nil ?_
 show Ev _ _ _ _ _
 refine .seq ?_
 refine .block ?_
 refine Ev.loop (ι := { j : Nat // j ≤ (16 - s.length % 16) % 16 }) (fun q => ⟨[(0, .str (s ++ List.replicate q.1 0)), (2, .str [])], [], 1000⟩) (fun q => (16 - s.length % 16) % 16 - q.1) ⟨0, Nat.zero_le _⟩ (StLe.mk [] rfl rfl ⟨⟨_, rfl, by (show AV.str s = AV.str (s ++ List.replicate 0 0); rw [List.replicate_zero, List.append_nil]), rfl⟩, ⟨_, rfl, by rfl, rfl⟩, trivial⟩ trivial) ?_
 rintro ⟨j, hj⟩
 try dsimp only
 have hl : (s ++ List.replicate j (0 : UInt8)).length = s.length + j := by simp
 refine .seq ?_
 refine .seq ?_
 refine .region ?_
 refine .q (op_move rfl) trivial rfl ?_
 refine .q (op_len_str Tryz.underlying9 rfl) trivial rfl ?_
 refine .q (op_remI rfl rfl ⟨by first | omega | decide, by first | omega | decide⟩) trivial rfl ?_
 refine .q (op_cmpI rfl rfl rfl) trivial rfl ?_
 refine .nil ?_
 show Ev _ _ _ _ _
 refine .cond rfl (fun hc6 => ?_) (fun hc6 => ?_)
 ·simp only [bne_iff_ne, ne_eq] at hc6
  refine .skip ?_
  show Ev _ _ _ _ _
  refine .block ?_
  refine .region ?_
  refine .q (op_move rfl) trivial rfl ?_
  refine .a (ap_build (us := [_]) (c := .aggB [_]) Tryz.underlying33 inf5 rfl (by decide) (by decide) ⟨rfl, rfl, rfl, trivial⟩ rfl) trivial rfl ?_
  refine .q (op_bytes_str Tryz.underlying33 Tryz.underlying5 Tryz.underlying9 rfl rfl rfl (by first | omega | (skip; omega) | (skip; omega) | assumption | (simp; done))) trivial rfl ?_
  refine .q (op_addS rfl rfl (by rw [hl]; simp; omega)) trivial rfl ?_
  refine .q (op_assign rfl) trivial rfl ?_
  refine .nil ?_
  exact ⟨⟨j + 1, by omega⟩, by (try dsimp only); omega, StLe.mk [] rfl rfl ⟨⟨_, rfl, by (simp only [AV.ren]; rw [List.append_assoc]; congr 2; rw [← rep_add]; rfl), rfl⟩, ⟨_, rfl, by rfl, rfl⟩, trivial⟩ trivial⟩
 ·simp only [bne_eq_false_iff_eq] at hc6
  refine .exit ?_
  show Ev _ _ _ _ _
  refine .seq ?_
  refine .region ?_
  refine .q (op_move rfl) trivial rfl ?_
  refine .q (op_assign rfl) trivial rfl ?_
  refine .nil ?_
  show Ev _ _ _ _ _
  refine .ret ?_
  show RetOk _ _ _ _ _ _ _
  exact ret1v rfl (.inl rfl) rfl (by rw [show j = (16 - s.length % 16) % 16 by omega]; rfl) trivial
set_option maxHeartbeats 400000 in
set_option maxRecDepth 100000 in
theorem mark_ev (key nonce cipher extra : List UInt8) (hk : key.length = 32) (hn : nonce.length = 12) (hC : cipher.length ≤ 1000000) (hE : extra.length ≤ 1000000) : Meets Tryz.prog 72 [.str key, .str nonce, .str cipher, .str extra] [] (.str (tagL key nonce cipher extra)) [] := by
 refine meets_of_ev (nt := 31) Tryz.func72 rfl rfl (Nat.le_of_ble_eq_true rfl) ?_
 refine .seq ?_
 refine .region ?_
 refine .q (op_assign rfl) trivial rfl ?_
 refine .nil ?_
 show Ev _ _ _ _ _
 refine .seq ?_
 refine .region ?_
 refine .q (op_move rfl) trivial rfl ?_
 refine .q (op_move rfl) trivial rfl ?_
 refine .q (op_call (U := []) [] [] (refCblock_ev key nonce (UInt32.ofNat 0) _ rfl hk hn) Tryz.func107 (by kernel_rfl) rfl rfl rfl (⟨⟨_, rfl, rfl, rfl⟩, ⟨_, rfl, rfl, rfl⟩, ⟨_, rfl, rfl, rfl⟩, trivial⟩) (trivial) (trivial) (trivial) rfl) trivial rfl ?_
 refine .as (.str (cBlock key (UInt32.ofNat 0) nonce)) rfl ?_
 refine .q (ap_slice_str_hi Tryz.underlying9 rfl (bnd_some rfl rfl) (by rw [length_cBlk]; decide)) trivial rfl ?_
 refine .as (.str (onceL key nonce)) rfl ?_
 refine .q (op_assign rfl) trivial rfl ?_
 refine .nil ?_
 show Ev _ _ _ _ _
 refine .seq ?_
 refine .region ?_
 refine .q (op_move rfl) trivial rfl ?_
 refine .q (op_move rfl) trivial rfl ?_
 refine .q (op_call (U := []) [] [] (filled_ev extra hE) Tryz.func109 (by kernel_rfl) rfl rfl rfl (⟨⟨_, rfl, rfl, rfl⟩, trivial⟩) (trivial) (trivial) (trivial) rfl) trivial rfl ?_
 refine .q (op_move rfl) trivial rfl ?_
 refine .q (op_call (U := []) [] [] (filled_ev cipher hC) Tryz.func109 (by kernel_rfl) rfl rfl rfl (⟨⟨_, rfl, rfl, rfl⟩, trivial⟩) (trivial) (trivial) (trivial) rfl) trivial rfl ?_
 refine .q (op_addS rfl rfl (by have := length_padL extra; have := length_padL cipher; simp only [List.length_append]; omega)) trivial rfl ?_
 refine .q (op_move rfl) trivial rfl ?_
 refine .q (op_len_str Tryz.underlying9 rfl) trivial rfl ?_
 refine .a (op_call (U := [(1000, some ⟨.aggI (dg (extra.length)), 3, true⟩)]) [] [(1000, 1000)] (small_ev extra.length (by omega)) Tryz.func111 (by kernel_rfl) rfl rfl rfl (⟨⟨_, rfl, rfl, rfl⟩, trivial⟩) (trivial) (⟨⟨1000, _, rfl, rfl, rfl, rfl, .inl rfl⟩, trivial⟩) (trivial) rfl) trivial rfl ?_
 refine .q (op_call (U := []) [(500, 1000)] [] (bytes_ev extra.length 8 (by omega)) Tryz.func110 (by kernel_rfl) rfl rfl rfl (⟨⟨_, rfl, rfl, rfl⟩, ⟨_, rfl, rfl, rfl⟩, trivial⟩) (⟨⟨_, _, rfl, rfl, rfl, rfl, (fun h => by cases h), rfl⟩, trivial⟩) (trivial) (⟨(fun h => by cases h), trivial⟩) rfl) trivial rfl ?_
 refine .q (op_addS rfl rfl (by have := length_padL extra; have := length_padL cipher; simp only [List.length_append, length_bsN]; omega)) trivial rfl ?_
 refine .q (op_move rfl) trivial rfl ?_
 refine .q (op_len_str Tryz.underlying9 rfl) trivial rfl ?_
 refine .a (op_call (U := [(1008, some ⟨.aggI (dg (cipher.length)), 3, true⟩)]) [] [(1008, 1000)] (small_ev cipher.length (by omega)) Tryz.func111 (by kernel_rfl) rfl rfl rfl (⟨⟨_, rfl, rfl, rfl⟩, trivial⟩) (trivial) (⟨⟨1000, _, rfl, rfl, rfl, rfl, .inl rfl⟩, trivial⟩) (trivial) rfl) trivial rfl ?_
 refine .q (op_call (U := []) [(500, 1008)] [] (bytes_ev cipher.length 8 (by omega)) Tryz.func110 (by kernel_rfl) rfl rfl rfl (⟨⟨_, rfl, rfl, rfl⟩, ⟨_, rfl, rfl, rfl⟩, trivial⟩) (⟨⟨_, _, rfl, rfl, rfl, rfl, (fun h => by cases h), rfl⟩, trivial⟩) (trivial) (⟨(fun h => by cases h), trivial⟩) rfl) trivial rfl ?_
 refine .q (op_addS rfl rfl (by have := length_padL extra; have := length_padL cipher; simp only [List.length_append, length_bsN]; omega)) trivial rfl ?_
 refine .q (op_call (U := []) [] [] (sumR_ev (onceL key nonce) _ (length_onceL key nonce) (by have := length_padL extra; have := length_padL cipher; simp only [List.length_append, length_bsN]; omega)) Tryz.func108 (by kernel_rfl) rfl rfl rfl (⟨⟨_, rfl, rfl, rfl⟩, ⟨_, rfl, rfl, rfl⟩, trivial⟩) (trivial) (trivial) (trivial) rfl) trivial rfl ?_
 refine .q (op_assign rfl) trivial rfl ?_
 refine .nil ?_
 show Ev _ _ _ _ _
 refine .ret ?_
 show RetOk _ _ _ _ _ _ _
 exact ret1v rfl (.inl rfl) rfl (congrArg AV.str (mark_eq key nonce cipher extra hE hC)) trivial
end Go.Proofs.YtdmlpblaelfdmaaGreatDoor
