/-
  Texts of this claim.
-/
import Derived.Test.YtcnjekoidgefpaaDoorGKR
import Derived.Test.YtcnjekoidgefpaaDoorGKT
import Derived.Test.YtcnjekoidgefpaaDoorGF
import Derived.Test.YtcnjekoidgefpaaDoorGE
namespace Go.Proofs.YtcnjekoidgefpaaDoor
open Go.RowKit
theorem digit_mod (v k : Nat) : ((0 : Int) + ((dk v k : Nat) : Int)) % 65536 = ((dk v k : Nat) : Int) := by have := dk_lt v k; omega
theorem digit_quo (v k : Nat) : ((0 : Int) + ((dk v k : Nat) : Int)) / 65536 = 0 := by have := dk_lt v k; omega
end Go.Proofs.YtcnjekoidgefpaaDoor
namespace Go.Proofs.YtcnjekoidgefpaaDoor
open Go.RowKit
theorem dl_fp : dl fp ≤ 16 := dl_le (by decide)
theorem dl_255 : dl (2 ^ 255) = 16 := dl_pow 255
theorem dn_eq (n a b : Nat) (h : ∀ i, i < n → a / 65536 ^ i % 65536 = b / 65536 ^ i % 65536) : dn n a = dn n b := by
  induction n with
  | zero => rfl
  | succ n ih => rw [dn_succ, dn_succ, ih (fun i hi => h i (by omega)), h n (by omega)]
theorem low_digit (a : Nat) (i : Nat) (h : i < 15) : a / 65536 ^ i % 65536 = (a % 2 ^ 255) / 65536 ^ i % 65536 := by
  have e : a = a % 2 ^ 255 + 65536 ^ i * (65536 * (65536 ^ (14 - i) * (32768 * (a / 2 ^ 255)))) := by
    have hp : 65536 ^ i * (65536 * 65536 ^ (14 - i)) = 65536 ^ 15 := by rw [← Nat.pow_succ', ← Nat.pow_add, show i + (14 - i + 1) = 15 by omega]
    have : 65536 ^ i * (65536 * (65536 ^ (14 - i) * (32768 * (a / 2 ^ 255)))) = 65536 ^ 15 * (32768 * (a / 2 ^ 255)) := by rw [← hp]; grind
    rw [this]
    have h15 : (65536 : Nat) ^ 15 = 1766847064778384329583297500742918515827483896875618958121606201292619776 := by decide
    rw [h15]; omega
  conv => lhs; rw [e]
  rw [Nat.add_mul_div_left _ _ (Nat.pow_pos (by decide)), Nat.add_mul_mod_self_left]
theorem low_top (a : Nat) : (a % 2 ^ 255) / 65536 ^ 15 % 65536 = a / 65536 ^ 15 % 65536 % 32768 := by
  have h15 : (65536 : Nat) ^ 15 = 1766847064778384329583297500742918515827483896875618958121606201292619776 := by decide
  rw [h15]; omega
theorem low_set (a : Nat) : (dn 16 a).set 15 (((dk a 15 : Nat) : Int) % 32768) = dn 16 (a % 2 ^ 255) := by
  rw [dn_succ 15 a, dn_succ 15 (a % 2 ^ 255), List.set_append_right _ _ (by rw [length_dn]; omega), length_dn, Nat.sub_self, dn_eq 15 a (a % 2 ^ 255) (fun i hi => low_digit a i hi), low_top]
  simp only [List.set_cons_zero]
  congr 2
theorem low_lt16 (a : Nat) : a % 2 ^ 255 < 65536 ^ 16 := by
  have h16 : (65536 : Nat) ^ 16 = 2 ^ 256 := by decide
  rw [h16]; omega
theorem top_lt {a : Nat} (h : a < 2 ^ 255) : dk a 15 < 32768 := by
  have h15 : (65536 : Nat) ^ 15 = 1766847064778384329583297500742918515827483896875618958121606201292619776 := by decide
  unfold dk; rw [h15]; omega
theorem top_ge {a : Nat} (h : 2 ^ 255 ≤ a) (hd : dl a ≤ 16) : 32768 ≤ dk a 15 := by
  have h15 : (65536 : Nat) ^ 15 = 1766847064778384329583297500742918515827483896875618958121606201292619776 := by decide
  have h16 : (65536 : Nat) ^ 16 = 2 ^ 256 := by decide
  have hl := Nat.lt_of_lt_of_le (dl_lt a) (Nat.pow_le_pow_right (show 0 < 65536 by decide) hd)
  unfold dk; rw [h15]; rw [h16] at hl; omega
theorem dl_big {a : Nat} (h : 2 ^ 255 ≤ a) : 16 ≤ dl a := by
  refine dl_ge (n := 15) (Nat.le_trans ?_ h)
  decide
theorem dl_small {a : Nat} (h : a < 2 ^ 255) : dl a ≤ 16 := dl_le (Nat.lt_trans h (by decide))
theorem dl_lowid {a : Nat} (h : dl a < 16) : a % 2 ^ 255 = a := by
  refine Nat.mod_eq_of_lt (Nat.lt_of_lt_of_le (dl_lt a) ?_)
  exact Nat.le_trans (Nat.pow_le_pow_right (by decide) (show dl a ≤ 15 by omega)) (by decide)
theorem cmpF (a b : Nat) : 0 ≤ cmpN a b ↔ b ≤ a := by
  unfold cmpN; split
  · omega
  · split <;> omega
def foldF (y : Nat) : Nat := y % 2 ^ 255 + y / 2 ^ 255 * 19
theorem foldF_le (y : Nat) : foldF y ≤ y := by unfold foldF; omega
theorem foldF_lt {y : Nat} (h : 2 ^ 255 ≤ y) : foldF y < y := by unfold foldF; omega
theorem foldF_mod (y : Nat) : foldF y % fp = y % fp := by
  have : y = foldF y + fp * (y / 2 ^ 255) := by unfold foldF fp; omega
  conv => rhs; rw [this]
  rw [Nat.add_mul_mod_self_left]
theorem fp_255 : fp < 2 ^ 255 := by decide
theorem fin_sub {x y : Nat} (h : y % fp = x % fp) (h1 : y < 2 ^ 255) (h2 : fp ≤ y) : y - fp = x % fp := by
  rw [← h]; unfold fp at *; omega
theorem fin_id {x y : Nat} (h : y % fp = x % fp) (h2 : ¬ fp ≤ y) : y = x % fp := by
  rw [← h]; exact (Nat.mod_eq_of_lt (by omega)).symm
theorem dl_addF {a b n : Nat} (ha : dl a ≤ n) (hb : dl b ≤ n) : dl (a + b) ≤ n + 1 := by
  refine dl_le ?_
  have h1 := Nat.lt_of_lt_of_le (dl_lt a) (Nat.pow_le_pow_right (show 0 < 65536 by decide) ha)
  have h2 := Nat.lt_of_lt_of_le (dl_lt b) (Nat.pow_le_pow_right (show 0 < 65536 by decide) hb)
  rw [Nat.pow_succ]; omega
theorem dl_mulF {a b n m : Nat} (ha : dl a ≤ n) (hb : dl b ≤ m) : dl (a * b) ≤ n + m := by
  refine dl_le ?_
  have h1 := Nat.lt_of_lt_of_le (dl_lt a) (Nat.pow_le_pow_right (show 0 < 65536 by decide) ha)
  have h2 := Nat.lt_of_lt_of_le (dl_lt b) (Nat.pow_le_pow_right (show 0 < 65536 by decide) hb)
  rw [Nat.pow_add]
  exact Nat.mul_lt_mul_of_lt_of_le h1 (Nat.le_of_lt h2) (Nat.lt_of_le_of_lt (Nat.zero_le _) h2)
set_option maxHeartbeats 1000000 in
set_option maxRecDepth 100000 in
theorem P_ev  : Meets Tryd.prog 11 [] [] (.sl 1000 0 (dl fp) 1) [(1000, some ⟨.aggI (dg fp), 3, true⟩)] := by
 refine meets_of_ev (nt := 4) Tryd.func11 rfl rfl (Nat.le_of_ble_eq_true rfl) ?_
 refine .seq ?_
 refine .region ?_
 refine .q (op_assign rfl) trivial rfl ?_
 refine .nil ?_
 show Ev _ _ _ _ _
 refine .seq ?_
 refine .region ?_
 refine .a (op_call (U := [(1000, some ⟨.aggI (dg (2 ^ 255)), 3, true⟩)]) [] [(1000, 1000)] (power_ev 255 (by omega)) Tryd.func46 (by kernel_rfl) rfl rfl rfl (⟨⟨_, rfl, rfl, rfl⟩, trivial⟩) (trivial) (⟨⟨1000, _, rfl, rfl, rfl, rfl, .inl rfl⟩, trivial⟩) (trivial) rfl) trivial rfl ?_
 refine .a (op_call (U := [(1008, some ⟨.aggI (dg (19)), 3, true⟩)]) [] [(1008, 1000)] (small_ev 19 (by omega)) Tryd.func47 (by kernel_rfl) rfl rfl rfl (⟨⟨_, rfl, rfl, rfl⟩, trivial⟩) (trivial) (⟨⟨1000, _, rfl, rfl, rfl, rfl, .inl rfl⟩, trivial⟩) (trivial) rfl) trivial rfl ?_
 refine .a (op_call (U := [(1016, some ⟨.aggI (dg (2 ^ 255 - 19)), 3, true⟩)]) [(500, 1000), (501, 1008)] [(1016, 1000)] (sub_ev (2 ^ 255) 19 (by decide) (by have := dl_255; omega) (Nat.le_trans (dl_le (n := 1) (by decide)) (by decide))) Tryd.func45 (by kernel_rfl) rfl rfl rfl (⟨⟨_, rfl, rfl, rfl⟩, ⟨_, rfl, rfl, rfl⟩, trivial⟩) (⟨⟨_, _, rfl, rfl, rfl, rfl, (fun h => by cases h), rfl⟩, ⟨_, _, rfl, rfl, rfl, rfl, (fun h => by cases h), rfl⟩, trivial⟩) (⟨⟨1000, _, rfl, rfl, rfl, rfl, .inl rfl⟩, trivial⟩) (⟨(fun h => by cases h), (fun h => by cases h), trivial⟩) rfl) trivial rfl ?_
 refine .q (op_assign rfl) trivial rfl ?_
 refine .nil ?_
 show Ev _ _ _ _ _
 refine Ev.weak (st2 := ⟨[(0, .sl 1000 0 (dl (fp)) 1)], [(1000, some ⟨.aggI (dg (fp)), 3, true⟩)], 1008⟩) (StLe.mk [(1000, 1016)] rfl rfl ⟨⟨_, rfl, by (show AV.sl 1000 0 (dl (2 ^ 255 - 19)) 1 = _; rw [fp_eq]), rfl⟩, trivial⟩ ⟨⟨_, _, rfl, rfl, by (show AV.aggI (dg (2 ^ 255 - 19)) = _; rw [fp_eq]), rfl, id, rfl⟩, trivial⟩) ?_
 refine .ret ?_
 show RetOk _ _ _ _ _ _ _
 exact ret1v rfl (.inl rfl) rfl rfl ⟨rfl, trivial⟩
theorem cat16 (a : Nat) (h : 16 ≤ dl a) : (AV.aggI (dn 16 a)).list = (AV.aggI []).list ++ ((AV.aggI (dg a)).list.drop 0).take (16 * 1) := by
 show (dn 16 a).map AV.i64 = [] ++ (((dg a).map AV.i64).drop 0).take 16
 rw [List.nil_append, List.drop_zero, ← List.map_take, show (dg a).take 16 = dn 16 a from dn_take (dl a) 16 a h]
end Go.Proofs.YtcnjekoidgefpaaDoor
namespace Go.Proofs.YtcnjekoidgefpaaDoor
open Go.RowKit
end Go.Proofs.YtcnjekoidgefpaaDoor
namespace Go.Proofs.YtcnjekoidgefpaaDoor
open Go.RowKit
theorem dl_of_fp {a : Nat} (h : a < fp) : dl a ≤ 16 := dl_small (Nat.lt_trans h fp_255)
set_option maxHeartbeats 1000000 in
set_option maxRecDepth 100000 in
theorem bytes05 (a : Nat) : Meets Tryd.prog 12 [.sl 500 0 (dl a) 1] [(500, some ⟨.aggI (dg a), 3, false⟩)] (.str (bsN a 32)) [] := by
 refine meets_of_ev (nt := 5) Tryd.func12 rfl rfl (Nat.le_of_ble_eq_true rfl) ?_
 refine .seq ?_
 refine .region ?_
 refine .q (op_assign rfl) trivial rfl ?_
 refine .nil ?_
 show Ev _ _ _ _ _
 refine .seq ?_
 refine .region ?_
 refine .q (op_move rfl) trivial rfl ?_
 refine .q (op_call (U := []) [(500, 500)] [] (bytes_ev a 32 (by omega)) Tryd.func48 (by kernel_rfl) rfl rfl rfl (⟨⟨_, rfl, rfl, rfl⟩, ⟨_, rfl, rfl, rfl⟩, trivial⟩) (⟨⟨_, _, rfl, rfl, rfl, rfl, (fun h => by cases h), rfl⟩, trivial⟩) (trivial) (⟨(fun h => by cases h), trivial⟩) rfl) trivial rfl ?_
 refine .q (op_assign rfl) trivial rfl ?_
 refine .nil ?_
 show Ev _ _ _ _ _
 refine .ret ?_
 show RetOk _ _ _ _ _ _ _
 exact ret1v rfl (.inl rfl) rfl rfl trivial
theorem odd_yes (a : Nat) : decide (((dk a 0 : Nat) : Int) % 2 = 1) = decide (a % 2 = 1) := by
 have : dk a 0 = a % 65536 := by unfold dk; simp
 rw [this]; exact decide_eq_decide.2 (by omega)
theorem odd_no (a : Nat) (h : dl a ≤ 0) : false = decide (a % 2 = 1) := by
 have : a = 0 := by have := dl_lt a; rw [show dl a = 0 by omega] at this; omega
 subst this; rfl
end Go.Proofs.YtcnjekoidgefpaaDoor
