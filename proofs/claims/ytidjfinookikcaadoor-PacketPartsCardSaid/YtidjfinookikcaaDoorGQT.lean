/-
  Texts of this claim.
-/
import Derived.Test.YtidjfinookikcaaDoorGQR
import Derived.Test.YtidjfinookikcaaDoorGQW
namespace Go.Proofs.YtidjfinookikcaaDoor
open Go.RowKit
def badN (b : Bool) (m : Nat) : Nat := if 33024 < m then 4 else if m < leastP b ∨ (aheadP b + m) % 8 ≠ 0 then 3 else 0
theorem badP_N (b : Bool) (s : List UInt8) : badP b s = badN b (lenP s) := rfl
theorem badN_4 {b : Bool} {m : Nat} (h : 33024 < m) : badN b m = 4 := if_pos h
theorem badN_3 {b : Bool} {m : Nat} (h : ¬ 33024 < m) (h2 : m < leastP b ∨ (aheadP b + m) % 8 ≠ 0) : badN b m = 3 := (if_neg h).trans (if_pos h2)
theorem badN_0 {b : Bool} {m : Nat} (h : ¬ 33024 < m) (h2 : ¬ (m < leastP b ∨ (aheadP b + m) % 8 ≠ 0)) : badN b m = 0 := (if_neg h).trans (if_neg h2)
theorem badN_le {b : Bool} {m : Nat} (h : badN b m = 0) : m ≤ 33024 ∧ leastP b ≤ m := by
  unfold badN at h
  split at h
  · cases h
  · split at h
    · cases h
    · omega
theorem u32D_head (s : List UInt8) (h : ¬ s.length < 4) : (u32D ⟨s.take 4, 0⟩).2 = (numV (s.take 4)).toUInt32 := by
  show (numV (rawD ⟨s.take 4, 0⟩ 4).2).toUInt32 = _
  unfold rawD
  rw [if_pos (by simp; omega)]
  simp only [List.take_take, Nat.min_self]
theorem least_pos (b : Bool) : 8 ≤ leastP b := by cases b <;> decide
section
variable {b : Bool} {key : List UInt8} {n : UInt64} {s : List UInt8}
theorem firstP_0 (h : s.length < 4) : firstP b key n s = ([], 0, 0) := if_pos h
theorem firstP_1 (h4 : ¬ s.length < 4) (h : badP b s ≠ 0) : firstP b key n s = ([], 0, badP b s) := (if_neg h4).trans (if_pos h)
theorem firstP_2 (h4 : ¬ s.length < 4) (h : badP b s = 0) (hs : s.length < sizeP b s) : firstP b key n s = ([], 0, 0) := (if_neg h4).trans ((if_neg (by rw [h]; decide)).trans (if_pos hs))
theorem firstP_3 (h4 : ¬ s.length < 4) (h : badP b s = 0) (hs : ¬ s.length < sizeP b s) (ho : (openP b key n (boxP b s) (s.take 4)).2 ≠ 0) : firstP b key n s = ([], 0, (openP b key n (boxP b s) (s.take 4)).2) := (if_neg h4).trans ((if_neg (by rw [h]; decide)).trans ((if_neg hs).trans (if_pos ho)))
theorem firstP_4 (h4 : ¬ s.length < 4) (h : badP b s = 0) (hs : ¬ s.length < sizeP b s) (ho : (openP b key n (boxP b s) (s.take 4)).2 = 0) : firstP b key n s = ((unpadP (openP b key n (boxP b s) (s.take 4)).1).1, sizeP b s, (unpadP (openP b key n (boxP b s) (s.take 4)).1).2) := (if_neg h4).trans ((if_neg (by rw [h]; decide)).trans ((if_neg hs).trans (if_neg (fun h => h ho))))
theorem box_len (hs : ¬ s.length < sizeP b s) : (boxP b s).length = lenP s + tagP b := by
  unfold boxP
  have : sizeP b s = 4 + lenP s + tagP b := rfl
  rw [List.length_take, List.length_drop]; omega
theorem open_len {box head : List UInt8} {m : Nat} (hb : box.length = m + tagP b) (ho : (openP b key n box head).2 = 0) : (openP b key n box head).1.length = m := by
  cases b with
  | false => exact hb
  | true =>
    simp only [openP] at ho ⊢
    split at ho
    · rename_i h
      rw [if_pos h, length_cXor, List.length_take]; simp only [tagP] at hb; omega
    · cases ho
end
theorem erv_eq {t : Nat} {eo : Nat → Nat × Nat} {a b : Nat} (h : a = b) : AV.err t a (offE eo a) = AV.err t b (offE eo b) := by rw [h]
set_option maxRecDepth 100000 in
theorem unpad_ev (y : List UInt8) (h0 : 0 < y.length) (hy : y.length ≤ 1000000) (eo : Nat → Nat × Nat) : Meets Tryd.prog 34 [.str y] [(2, some ⟨.agg [.err 131 (3) (offE eo (3))], errT, false⟩)] (.tup [.str (unpadP y).1, .err 131 ((unpadP y).2) (offE eo ((unpadP y).2))]) [] := by
 have hpb : (y.getD 0 0).toNat < 256 := (y.getD 0 0).toNat_lt
 refine meets_of_ev (nt := 24) Tryd.func34 rfl rfl (Nat.le_of_ble_eq_true rfl) ?_
 refine .seq ?_
 refine .region ?_
 refine .q (op_assign rfl) trivial rfl ?_
 refine .q (op_assign rfl) trivial rfl ?_
 refine .nil ?_
 show Ev _ _ _ _ _
 refine .seq ?_
 refine .region ?_
 refine .q (op_move rfl) trivial rfl ?_
 refine .q (op_index_str Tryd.underlying9 rfl rfl rfl (h0)) trivial rfl ?_
 refine .q (op_conv Tryd.underlying5 Tryd.underlying3 rfl rfl) trivial rfl ?_
 refine .as (.i64 (((y.getD 0 0).toNat : Nat) : Int)) rfl ?_
 refine .q (op_assign rfl) trivial rfl ?_
 refine .nil ?_
 show Ev _ _ _ _ _
 refine .seq ?_
 refine .seq ?_
 refine .region ?_
 refine .q (op_move rfl) trivial rfl ?_
 refine .q (op_cmpI rfl rfl rfl) trivial rfl ?_
 refine .q (op_move rfl) trivial rfl ?_
 refine .split (fun hg10 => ?_) (fun hg10 => ?_)
 ·simp only [decide_eq_true_eq] at hg10
  refine .no ⟨_, rfl, rfl⟩ rfl ?_
  refine .no ⟨_, rfl, rfl⟩ rfl ?_
  refine .no ⟨_, rfl, rfl⟩ rfl ?_
  refine .no ⟨_, rfl, rfl⟩ rfl ?_
  refine .no ⟨_, rfl, rfl⟩ rfl ?_
  refine .q (op_pick_true rfl rfl rfl) trivial rfl ?_
  refine .nil ?_
  show Ev _ _ _ _ _
  refine .cond_true rfl rfl ?_
  refine .seq ?_
  refine .drawn [[], [], [0, 1]] [0] [] (by kernel_rfl) (by kernel_rfl) rfl ?_
  show DK _ [0, 1, 2] _ _ _
  refine .q rfl (op_load Tryd.underlying33 rfl rfl rfl rfl (by first | omega | (simp only [AV.len]; omega) | (simp only [AV.len]; omega) | assumption | (simp [AV.len]; done))) trivial ?_
  refine .q rfl (op_assign rfl) trivial ?_
  refine .q rfl (op_assign rfl) trivial ?_
  refine .nil ?_
  show Ev _ _ _ _ _
  refine .ret ?_
  show RetOk _ _ _ _ _ _ _
  first
   | exact ret2v rfl (.inl rfl) rfl rfl rfl rfl trivial
   | exact ret2v rfl (.inl rfl) rfl rfl (congrArg AV.str (congrArg Prod.fst (if_pos (by omega) : unpadP y = ([], 3))).symm) (erv_eq (congrArg Prod.snd (if_pos (by omega) : unpadP y = ([], 3))).symm) trivial
 ·simp only [decide_eq_false_iff_not] at hg10
  refine .q (op_move rfl) ⟨_, rfl, rfl⟩ rfl ?_
  refine .q (op_addI rfl rfl ⟨by omega, by omega⟩) ⟨_, rfl, rfl⟩ rfl ?_
  refine .q (op_move rfl) ⟨_, rfl, rfl⟩ rfl ?_
  refine .q (op_len_str Tryd.underlying9 rfl) ⟨_, rfl, rfl⟩ rfl ?_
  refine .q (op_cmpI rfl rfl rfl) ⟨_, rfl, rfl⟩ rfl ?_
  refine .q (op_pick_false rfl rfl rfl) trivial rfl ?_
  refine .nil ?_
  show Ev _ _ _ _ _
  refine .cond rfl (fun hc16 => ?_) (fun hc16 => ?_)
  ·simp only [decide_eq_true_eq] at hc16
   refine .seq ?_
   refine .drawn [[], [], [0, 1]] [0] [] (by kernel_rfl) (by kernel_rfl) rfl ?_
   show DK _ [0, 1, 2] _ _ _
   refine .q rfl (op_load Tryd.underlying33 rfl rfl rfl rfl (by first | omega | (simp only [AV.len]; omega) | (simp only [AV.len]; omega) | assumption | (simp [AV.len]; done))) trivial ?_
   refine .q rfl (op_assign rfl) trivial ?_
   refine .q rfl (op_assign rfl) trivial ?_
   refine .nil ?_
   show Ev _ _ _ _ _
   refine .ret ?_
   show RetOk _ _ _ _ _ _ _
   first
    | exact ret2v rfl (.inl rfl) rfl rfl rfl rfl trivial
    | exact ret2v rfl (.inl rfl) rfl rfl (congrArg AV.str (congrArg Prod.fst (if_pos (by omega) : unpadP y = ([], 3))).symm) (erv_eq (congrArg Prod.snd (if_pos (by omega) : unpadP y = ([], 3))).symm) trivial
  ·simp only [decide_eq_false_iff_not] at hc16
   refine .skip ?_
   show Ev _ _ _ _ _
   refine .seq ?_
   refine .region ?_
   refine .q (op_move rfl) trivial rfl ?_
   refine .q (op_move rfl) trivial rfl ?_
   refine .q (op_len_str Tryd.underlying9 rfl) trivial rfl ?_
   refine .q (op_move rfl) trivial rfl ?_
   refine .q (op_subI rfl rfl ⟨by omega, by omega⟩) trivial rfl ?_
   refine .q (op_slice_str Tryd.underlying9 rfl (bnd_some rfl (l := 1) rfl) (bnd_some rfl (l := y.length - (y.getD 0 0).toNat) (by omega)) (by omega) (by omega)) trivial rfl ?_
   refine .as (.str (unpadP y).1) (by rw [show unpadP y = ((y.take (y.length - (y.getD 0 0).toNat)).drop 1, 0) from if_neg (by omega), List.drop_take]) ?_
   refine .q (op_assign rfl) trivial rfl ?_
   refine .q (op_assign rfl) trivial rfl ?_
   refine .asR (.err 131 ((unpadP y).2) (offE eo ((unpadP y).2))) (by rw [show (unpadP y).2 = 0 from congrArg Prod.snd (if_neg (by omega) : unpadP y = ((y.take (y.length - (y.getD 0 0).toNat)).drop 1, 0))]; exact nil_err _ _) ?_
   refine .nil ?_
   show Ev _ _ _ _ _
   refine .ret ?_
   show RetOk _ _ _ _ _ _ _
   first
    | exact ret2v rfl (.inl rfl) rfl rfl rfl rfl trivial
    | exact ret2v rfl (.inl rfl) rfl rfl (congrArg AV.str (congrArg Prod.fst (if_pos (by omega) : unpadP y = ([], 3))).symm) (erv_eq (congrArg Prod.snd (if_pos (by omega) : unpadP y = ([], 3))).symm) trivial
set_option maxRecDepth 100000 in
theorem check_f (key : List UInt8) (n : UInt64) (q k : Nat) (L : UInt32) (eo : Nat → Nat × Nat) : Meets Tryd.prog 32 [.ptr 500 0, .u32 L] [(500, some ⟨dC false key n ([.sl 501 (q) (k) 1, .err 131 (0) (offE eo (0))]), 35, false⟩), (2, some ⟨.agg [.err 131 (3) (offE eo (3))], errT, false⟩), (1, some ⟨.agg [.err 131 (4) (offE eo (4))], errT, false⟩)] (.err 131 (badN false L.toNat) (offE eo (badN false L.toNat))) [] := by
 have hLt := L.toNat_lt
 have hah := ahead_le false
 have e1 : (UInt32.ofNat 33024 < L) ↔ 33024 < L.toNat := UInt32.lt_iff_toNat_lt
 have e2 : (L < UInt32.ofNat 12) ↔ L.toNat < leastP false := UInt32.lt_iff_toNat_lt
 refine meets_of_ev (nt := 29) Tryd.func32 rfl rfl (Nat.le_of_ble_eq_true rfl) ?_
 refine .seq ?_
 refine .region ?_
 refine .q (op_assign rfl) trivial rfl ?_
 refine .nil ?_
 show Ev _ _ _ _ _
 refine .seq ?_
 refine .seq ?_
 refine .region ?_
 refine .q (op_move rfl) trivial rfl ?_
 refine .q (op_bin32 rfl rfl rfl) trivial rfl ?_
 refine .nil ?_
 show Ev _ _ _ _ _
 refine .cond rfl (fun hc7 => ?_) (fun hc7 => ?_)
 ·simp only [decide_eq_true_eq] at hc7
  refine .seq ?_
  refine .region ?_
  refine .q (op_load Tryd.underlying33 rfl rfl rfl rfl (by first | omega | (simp only [AV.len]; omega) | (simp only [AV.len]; omega) | assumption | (simp [AV.len]; done))) trivial rfl ?_
  refine .q (op_assign rfl) trivial rfl ?_
  refine .nil ?_
  show Ev _ _ _ _ _
  refine .ret ?_
  show RetOk _ _ _ _ _ _ _
  exact ret1v rfl (.inl rfl) rfl (by first | exact erv_eq (badN_4 (e1.1 hc7)).symm | exact erv_eq (badN_3 (fun h => hc7 (e1.2 h)) (.inl (e2.1 hg17))).symm | exact erv_eq (badN_3 (fun h => hc7 (e1.2 h)) (.inr (by omega))).symm | rfl) trivial
 ·simp only [decide_eq_false_iff_not] at hc7
  refine .skip ?_
  show Ev _ _ _ _ _
  refine .seq ?_
  refine .region ?_
  refine .q (op_assign rfl) trivial rfl ?_
  refine .nil ?_
  show Ev _ _ _ _ _
  refine .seq ?_
  refine .seq ?_
  refine .region ?_
  refine .q (op_move rfl) trivial rfl ?_
  refine .q (op_nilCheck rfl) trivial rfl ?_
  refine .q (op_fieldAddr (m := 33) Tryd.underlying35 rfl (by kernel_rfl) rfl) trivial rfl ?_
  refine .as (.ptr 500 0) rfl ?_
  refine .q (op_fieldAddr (m := 0) Tryd.underlying28 rfl (by kernel_rfl) rfl) trivial rfl ?_
  refine .as (.ptr 500 0) rfl ?_
  refine .q (op_load Tryd.underlying4 rfl rfl rfl rfl (dC_lt (by decide))) trivial rfl ?_
  refine .nil ?_
  show Ev _ _ _ _ _
  refine .cond_false rfl (rfl) ?_
  refine .skip ?_
  show Ev _ _ _ _ _
  refine .seq ?_
  refine .seq ?_
  refine .region ?_
  refine .q (op_move rfl) trivial rfl ?_
  refine .q (op_move rfl) trivial rfl ?_
  refine .q (op_bin32 rfl rfl rfl) trivial rfl ?_
  refine .q (op_move rfl) trivial rfl ?_
  refine .split (fun hg17 => ?_) (fun hg17 => ?_)
  ·simp only [decide_eq_true_eq] at hg17
   refine .no ⟨_, rfl, rfl⟩ rfl ?_
   refine .no ⟨_, rfl, rfl⟩ rfl ?_
   refine .no ⟨_, rfl, rfl⟩ rfl ?_
   refine .no ⟨_, rfl, rfl⟩ rfl ?_
   refine .no ⟨_, rfl, rfl⟩ rfl ?_
   refine .no ⟨_, rfl, rfl⟩ rfl ?_
   refine .no ⟨_, rfl, rfl⟩ rfl ?_
   refine .no ⟨_, rfl, rfl⟩ rfl ?_
   refine .no ⟨_, rfl, rfl⟩ rfl ?_
   refine .q (op_pick_true rfl rfl rfl) trivial rfl ?_
   refine .nil ?_
   show Ev _ _ _ _ _
   refine .cond_true rfl rfl ?_
   refine .seq ?_
   refine .region ?_
   refine .q (op_load Tryd.underlying33 rfl rfl rfl rfl (by first | omega | (simp only [AV.len]; omega) | (simp only [AV.len]; omega) | assumption | (simp [AV.len]; done))) trivial rfl ?_
   refine .q (op_assign rfl) trivial rfl ?_
   refine .nil ?_
   show Ev _ _ _ _ _
   refine .ret ?_
   show RetOk _ _ _ _ _ _ _
   exact ret1v rfl (.inl rfl) rfl (by first | exact erv_eq (badN_4 (e1.1 hc7)).symm | exact erv_eq (badN_3 (fun h => hc7 (e1.2 h)) (.inl (e2.1 hg17))).symm | exact erv_eq (badN_3 (fun h => hc7 (e1.2 h)) (.inr (by omega))).symm | rfl) trivial
  ·simp only [decide_eq_false_iff_not] at hg17
   refine .q (op_move rfl) ⟨_, rfl, rfl⟩ rfl ?_
   refine .q (op_nilCheck rfl) ⟨_, rfl, rfl⟩ rfl ?_
   refine .q (op_fieldAddr (m := 33) Tryd.underlying35 rfl (by kernel_rfl) rfl) ⟨_, rfl, rfl⟩ rfl ?_
   refine .as (.ptr 500 0) rfl ?_
   refine .q (op_call (U := []) [(500, 500), (501, 501)] [] (padded_ev false key n [.sl 501 (q) (k) 1, .err 131 (0) (offE eo (0))] 35) Tryd.func21 (by kernel_rfl) rfl rfl rfl (⟨⟨_, rfl, rfl, rfl⟩, trivial⟩) (⟨⟨_, _, rfl, rfl, rfl, rfl, (fun h => by cases h), rfl⟩, trivial⟩) (trivial) (⟨(fun h => by cases h), trivial⟩) rfl) ⟨_, rfl, rfl⟩ rfl ?_
   refine .q (op_move rfl) ⟨_, rfl, rfl⟩ rfl ?_
   refine .q (op_conv Tryd.underlying58 Tryd.underlying3 rfl rfl) ⟨_, rfl, rfl⟩ rfl ?_
   refine .as (.i64 ((L.toNat : Nat) : Int)) rfl ?_
   refine .q (op_addI rfl rfl ⟨by omega, by omega⟩) ⟨_, rfl, rfl⟩ rfl ?_
   refine .q (op_remI rfl rfl ⟨by omega, by omega⟩) ⟨_, rfl, rfl⟩ rfl ?_
   refine .q (op_cmpI rfl rfl rfl) ⟨_, rfl, rfl⟩ rfl ?_
   refine .q (op_pick_false rfl rfl rfl) trivial rfl ?_
   refine .nil ?_
   show Ev _ _ _ _ _
   refine .cond rfl (fun hc27 => ?_) (fun hc27 => ?_)
   ·simp only [bne_iff_ne, ne_eq] at hc27
    refine .seq ?_
    refine .region ?_
    refine .q (op_load Tryd.underlying33 rfl rfl rfl rfl (by first | omega | (simp only [AV.len]; omega) | (simp only [AV.len]; omega) | assumption | (simp [AV.len]; done))) trivial rfl ?_
    refine .q (op_assign rfl) trivial rfl ?_
    refine .nil ?_
    show Ev _ _ _ _ _
    refine .ret ?_
    show RetOk _ _ _ _ _ _ _
    exact ret1v rfl (.inl rfl) rfl (by first | exact erv_eq (badN_4 (e1.1 hc7)).symm | exact erv_eq (badN_3 (fun h => hc7 (e1.2 h)) (.inl (e2.1 hg17))).symm | exact erv_eq (badN_3 (fun h => hc7 (e1.2 h)) (.inr (by omega))).symm | rfl) trivial
   ·simp only [bne_eq_false_iff_eq] at hc27
    refine .skip ?_
    show Ev _ _ _ _ _
    refine .seq ?_
    refine .region ?_
    refine .q (op_assign rfl) trivial rfl ?_
    refine .asR (.err 131 (badN false L.toNat) (offE eo (badN false L.toNat))) (by rw [badN_0 (b := false) (fun h => hc7 (e1.2 h)) (fun h => h.elim (fun h => hg17 (e2.2 h)) (fun h => h (by omega)))]; exact nil_err _ _) ?_
    refine .nil ?_
    show Ev _ _ _ _ _
    refine .ret ?_
    show RetOk _ _ _ _ _ _ _
    exact ret1v rfl (.inl rfl) rfl (by first | exact erv_eq (badN_4 (e1.1 hc7)).symm | exact erv_eq (badN_3 (fun h => hc7 (e1.2 h)) (.inl (e2.1 hg17))).symm | exact erv_eq (badN_3 (fun h => hc7 (e1.2 h)) (.inr (by omega))).symm | rfl) trivial
set_option maxRecDepth 100000 in
theorem opened_f (e : Nat) (key : List UInt8) (_hk : key.length = 32) (n : UInt64) (q k : Nat) (box head : List UInt8) (_hB : box.length ≤ 1000000) (_hH : head.length ≤ 1000000) (eo : Nat → Nat × Nat) : Meets Tryd.prog 33 [.ptr 500 0, .str box, .str head] [(500, some ⟨dC false key n ([.sl 501 (q) (k) 1, .err 131 (0) (offE eo (0))]), 35, false⟩)] (.tup [.str (openP false key n box head).1, .err 131 ((openP false key n box head).2) (offE eo ((openP false key n box head).2))]) [] := by
 refine meets_of_ev (nt := 29) Tryd.func33 rfl rfl (Nat.le_of_ble_eq_true rfl) ?_
 refine .seq ?_
 refine .region ?_
 refine .q (op_assign rfl) trivial rfl ?_
 refine .q (op_assign rfl) trivial rfl ?_
 refine .nil ?_
 show Ev _ _ _ _ _
 refine .seq ?_
 refine .seq ?_
 refine .region ?_
 refine .q (op_move rfl) trivial rfl ?_
 refine .q (op_nilCheck rfl) trivial rfl ?_
 refine .q (op_fieldAddr (m := 33) Tryd.underlying35 rfl (by kernel_rfl) rfl) trivial rfl ?_
 refine .as (.ptr 500 0) rfl ?_
 refine .q (op_fieldAddr (m := 0) Tryd.underlying28 rfl (by kernel_rfl) rfl) trivial rfl ?_
 refine .as (.ptr 500 0) rfl ?_
 refine .q (op_load Tryd.underlying4 rfl rfl rfl rfl (dC_lt (by decide))) trivial rfl ?_
 refine .q (op_notB rfl) trivial rfl ?_
 refine .nil ?_
 show Ev _ _ _ _ _
 refine .cond_true rfl (rfl) ?_
 refine .seq ?_
 refine .region ?_
 refine .q (op_move rfl) trivial rfl ?_
 refine .q (op_assign rfl) trivial rfl ?_
 refine .q (op_assign rfl) trivial rfl ?_
 refine .asR (.err 131 (0) (offE eo (0))) (nil_err _ _) ?_
 refine .nil ?_
 show Ev _ _ _ _ _
 refine .ret ?_
 show RetOk _ _ _ _ _ _ _
 exact ret2v rfl (.inl rfl) rfl rfl rfl rfl trivial
set_option maxHeartbeats 1000000 in
set_option maxRecDepth 100000 in
theorem first_f (e : Nat) (key : List UInt8) (hk : key.length = 32) (n : UInt64) (q k : Nat) (l : List UInt8) (hq : q + k = l.length) (_hl : l.length ≤ 1000000) (eo : Nat → Nat × Nat) : Meets Tryd.prog 19 [.ptr 500 0] [(500, some ⟨dC false key n ([.sl 501 (q) (k) 1, .err 131 (0) (offE eo (0))]), 35, false⟩), (501, some ⟨.aggB l, 5, false⟩), (3, some ⟨.aggI qsTab, e, false⟩), (0, some ⟨.agg [.err 131 (2) (offE eo (2))], errT, false⟩), (2, some ⟨.agg [.err 131 (3) (offE eo (3))], errT, false⟩), (1, some ⟨.agg [.err 131 (4) (offE eo (4))], errT, false⟩), (4, some ⟨.agg [.err 131 (5) (offE eo (5))], errT, false⟩)] (.tup [.str (firstP false key n (l.drop q)).1, .i64 (((firstP false key n (l.drop q)).2.1 : Nat) : Int), .err 131 ((firstP false key n (l.drop q)).2.2) (offE eo ((firstP false key n (l.drop q)).2.2))]) [] := by
 refine meets_of_ev (nt := 74) Tryd.func19 rfl rfl (Nat.le_of_ble_eq_true rfl) ?_
 refine .seq ?_
 refine .region ?_
 refine .q (op_assign rfl) trivial rfl ?_
 refine .q (op_assign rfl) trivial rfl ?_
 refine .q (op_assign rfl) trivial rfl ?_
 refine .nil ?_
 show Ev _ _ _ _ _
 refine .seq ?_
 refine .seq ?_
 refine .region ?_
 refine .q (op_move rfl) trivial rfl ?_
 refine .q (op_nilCheck rfl) trivial rfl ?_
 refine .q (op_fieldAddr (m := 0) Tryd.underlying35 rfl (by kernel_rfl) rfl) trivial rfl ?_
 refine .as (.ptr 500 34) rfl ?_
 refine .q (op_load Tryd.underlying31 rfl rfl rfl rfl (dC_ltt (i := 0) (by simp))) trivial rfl ?_
 refine .q (op_len_sl Tryd.underlying31 rfl) trivial rfl ?_
 refine .q (op_cmpI rfl rfl rfl) trivial rfl ?_
 refine .nil ?_
 show Ev _ _ _ _ _
 refine .cond rfl (fun hc17 => ?_) (fun hc17 => ?_)
 ·simp only [decide_eq_true_eq] at hc17
  refine .seq ?_
  refine .region ?_
  refine .q (op_assign rfl) trivial rfl ?_
  refine .q (op_assign rfl) trivial rfl ?_
  refine .q (op_assign rfl) trivial rfl ?_
  refine .asR (.err 131 (0) (offE eo (0))) (nil_err _ _) ?_
  refine .nil ?_
  show Ev _ _ _ _ _
  refine .ret ?_
  show RetOk _ _ _ _ _ _ _
  first
   | exact ret3v rfl (.inl rfl) rfl rfl rfl (congrArg (fun z : List UInt8 × Nat × Nat => AV.str z.1) (firstP_4 (b := false) (key := key) (n := n) (s := (l.drop q)) (by rw [List.length_drop]; omega) hb0 (by rw [List.length_drop]; omega) hc64).symm) (congrArg (fun z : List UInt8 × Nat × Nat => AV.i64 ((z.2.1 : Nat) : Int)) (firstP_4 (b := false) (key := key) (n := n) (s := (l.drop q)) (by rw [List.length_drop]; omega) hb0 (by rw [List.length_drop]; omega) hc64).symm) (erv_eq (congrArg (fun z : List UInt8 × Nat × Nat => z.2.2) (firstP_4 (b := false) (key := key) (n := n) (s := (l.drop q)) (by rw [List.length_drop]; omega) hb0 (by rw [List.length_drop]; omega) hc64)).symm) trivial
   | exact ret3v rfl (.inl rfl) rfl rfl rfl (congrArg (fun z : List UInt8 × Nat × Nat => AV.str z.1) (firstP_3 (b := false) (key := key) (n := n) (s := (l.drop q)) (by rw [List.length_drop]; omega) hb0 (by rw [List.length_drop]; omega) hc64).symm) (congrArg (fun z : List UInt8 × Nat × Nat => AV.i64 ((z.2.1 : Nat) : Int)) (firstP_3 (b := false) (key := key) (n := n) (s := (l.drop q)) (by rw [List.length_drop]; omega) hb0 (by rw [List.length_drop]; omega) hc64).symm) (erv_eq (congrArg (fun z : List UInt8 × Nat × Nat => z.2.2) (firstP_3 (b := false) (key := key) (n := n) (s := (l.drop q)) (by rw [List.length_drop]; omega) hb0 (by rw [List.length_drop]; omega) hc64)).symm) trivial
   | exact ret3v rfl (.inl rfl) rfl rfl rfl (congrArg (fun z : List UInt8 × Nat × Nat => AV.str z.1) (firstP_2 (b := false) (key := key) (n := n) (s := (l.drop q)) (by rw [List.length_drop]; omega) (by simpa using hc31) (by rw [List.length_drop]; omega)).symm) (congrArg (fun z : List UInt8 × Nat × Nat => AV.i64 ((z.2.1 : Nat) : Int)) (firstP_2 (b := false) (key := key) (n := n) (s := (l.drop q)) (by rw [List.length_drop]; omega) (by simpa using hc31) (by rw [List.length_drop]; omega)).symm) (erv_eq (congrArg (fun z : List UInt8 × Nat × Nat => z.2.2) (firstP_2 (b := false) (key := key) (n := n) (s := (l.drop q)) (by rw [List.length_drop]; omega) (by simpa using hc31) (by rw [List.length_drop]; omega))).symm) trivial
   | exact ret3v rfl (.inl rfl) rfl rfl rfl (congrArg (fun z : List UInt8 × Nat × Nat => AV.str z.1) (firstP_1 (b := false) (key := key) (n := n) (s := (l.drop q)) (by rw [List.length_drop]; omega) hc31).symm) (congrArg (fun z : List UInt8 × Nat × Nat => AV.i64 ((z.2.1 : Nat) : Int)) (firstP_1 (b := false) (key := key) (n := n) (s := (l.drop q)) (by rw [List.length_drop]; omega) hc31).symm) (erv_eq (congrArg (fun z : List UInt8 × Nat × Nat => z.2.2) (firstP_1 (b := false) (key := key) (n := n) (s := (l.drop q)) (by rw [List.length_drop]; omega) hc31)).symm) trivial
   | exact ret3v rfl (.inl rfl) rfl rfl rfl (congrArg (fun z : List UInt8 × Nat × Nat => AV.str z.1) (firstP_0 (b := false) (key := key) (n := n) (s := (l.drop q)) (by rw [List.length_drop]; omega)).symm) (congrArg (fun z : List UInt8 × Nat × Nat => AV.i64 ((z.2.1 : Nat) : Int)) (firstP_0 (b := false) (key := key) (n := n) (s := (l.drop q)) (by rw [List.length_drop]; omega)).symm) (erv_eq (congrArg (fun z : List UInt8 × Nat × Nat => z.2.2) (firstP_0 (b := false) (key := key) (n := n) (s := (l.drop q)) (by rw [List.length_drop]; omega))).symm) trivial
 ·simp only [decide_eq_false_iff_not] at hc17
  refine .skip ?_
  show Ev _ _ _ _ _
  refine .seq ?_
  refine .region ?_
  refine .q (op_move rfl) trivial rfl ?_
  refine .q (op_nilCheck rfl) trivial rfl ?_
  refine .q (op_fieldAddr (m := 0) Tryd.underlying35 rfl (by kernel_rfl) rfl) trivial rfl ?_
  refine .as (.ptr 500 34) rfl ?_
  refine .q (op_load Tryd.underlying31 rfl rfl rfl rfl (dC_ltt (i := 0) (by simp))) trivial rfl ?_
  refine .q (ap_slice_sl_hi Tryd.underlying31 inf5.sz rfl (bnd_some rfl (l := 4) rfl) (by omega)) trivial rfl ?_
  refine .q (op_bytes_str Tryd.underlying31 Tryd.underlying5 Tryd.underlying9 rfl rfl rfl (by omega)) trivial rfl ?_
  refine .as (.str ((l.drop q).take 4)) rfl ?_
  refine .q (op_assign rfl) trivial rfl ?_
  refine .nil ?_
  show Ev _ _ _ _ _
  refine .seq ?_
  refine .region ?_
  refine .q (op_move rfl) trivial rfl ?_
  refine .a (op_call (U := [(1000, some ⟨.agg [.str (DI.mk ((l.drop q).take 4) 0).r, .err 131 ((DI.mk ((l.drop q).take 4) 0).e) (offE eo ((DI.mk ((l.drop q).take 4) 0).e))], 96, true⟩)]) [] [(1000, 1000)] (wof_ev ((l.drop q).take 4) eo) Tryd.func30 (by kernel_rfl) rfl rfl rfl (⟨⟨_, rfl, rfl, rfl⟩, trivial⟩) (trivial) (⟨⟨1000, _, rfl, rfl, rfl, rfl, .inl rfl⟩, trivial⟩) (trivial) rfl) trivial rfl ?_
  refine .a (op_call (U := [(1000, some ⟨.agg [.str ((u32D ⟨((l.drop q).take 4), 0⟩).1).r, .err 131 (((u32D ⟨((l.drop q).take 4), 0⟩).1).e) (offE eo (((u32D ⟨((l.drop q).take 4), 0⟩).1).e))], 96, true⟩)]) [(500, 1000)] [] (iu32_ev ⟨((l.drop q).take 4), 0⟩ eo) Tryd.func31 (by kernel_rfl) rfl rfl rfl (⟨⟨_, rfl, rfl, rfl⟩, trivial⟩) (⟨⟨_, _, rfl, rfl, rfl, rfl, id, rfl⟩, ⟨_, _, rfl, rfl, rfl, rfl, (fun h => by cases h), rfl⟩, trivial⟩) (⟨⟨500, _, rfl, rfl, rfl, rfl, .inr ⟨rfl, _, rfl, rfl⟩⟩, trivial⟩) (⟨(fun _ => ⟨1000, _, rfl, rfl⟩), (fun h => by cases h), trivial⟩) rfl) trivial rfl ?_
  refine .as (.u32 ((numV ((l.drop q).take 4)).toUInt32)) (congrArg AV.u32 (u32D_head _ (by rw [List.length_drop]; omega))) ?_
  refine .q (op_assign rfl) trivial rfl ?_
  refine .nil ?_
  show Ev _ _ _ _ _
  refine .seq ?_
  refine .seq ?_
  refine .region ?_
  refine .q (op_move rfl) trivial rfl ?_
  refine .q (op_move rfl) trivial rfl ?_
  refine .q (op_call (U := []) [(500, 500), (501, 501)] [] (check_f key n q k ((numV ((l.drop q).take 4)).toUInt32) eo) Tryd.func32 (by kernel_rfl) rfl rfl rfl (⟨⟨_, rfl, rfl, rfl⟩, ⟨_, rfl, rfl, rfl⟩, trivial⟩) (⟨⟨_, _, rfl, rfl, rfl, rfl, (fun h => by cases h), rfl⟩, ⟨_, _, rfl, rfl, rfl, rfl, (fun h => by cases h), rfl⟩, ⟨_, _, rfl, rfl, rfl, rfl, (fun h => by cases h), rfl⟩, trivial⟩) (trivial) (⟨(fun h => by cases h), (fun h => by cases h), (fun h => by cases h), trivial⟩) rfl) trivial rfl ?_
  refine .as (.err 131 (badP false (l.drop q)) (offE eo (badP false (l.drop q)))) rfl ?_
  refine .q (op_assign rfl) trivial rfl ?_
  refine .nil ?_
  show Ev _ _ _ _ _
  refine .seq ?_
  refine .region ?_
  refine .q (op_move rfl) trivial rfl ?_
  refine .q (op_eqErrNil (e := badP false (l.drop q)) Tryd.underlying33 rfl rfl) trivial rfl ?_
  refine .nil ?_
  show Ev _ _ _ _ _
  refine .cond rfl (fun hc31 => ?_) (fun hc31 => ?_)
  ·simp only [bne_iff_ne, ne_eq] at hc31
   refine .seq ?_
   refine .region ?_
   refine .q (op_move rfl) trivial rfl ?_
   refine .q (op_assign rfl) trivial rfl ?_
   refine .q (op_assign rfl) trivial rfl ?_
   refine .q (op_assign rfl) trivial rfl ?_
   refine .nil ?_
   show Ev _ _ _ _ _
   refine .ret ?_
   show RetOk _ _ _ _ _ _ _
   first
    | exact ret3v rfl (.inl rfl) rfl rfl rfl (congrArg (fun z : List UInt8 × Nat × Nat => AV.str z.1) (firstP_4 (b := false) (key := key) (n := n) (s := (l.drop q)) (by rw [List.length_drop]; omega) hb0 (by rw [List.length_drop]; omega) hc64).symm) (congrArg (fun z : List UInt8 × Nat × Nat => AV.i64 ((z.2.1 : Nat) : Int)) (firstP_4 (b := false) (key := key) (n := n) (s := (l.drop q)) (by rw [List.length_drop]; omega) hb0 (by rw [List.length_drop]; omega) hc64).symm) (erv_eq (congrArg (fun z : List UInt8 × Nat × Nat => z.2.2) (firstP_4 (b := false) (key := key) (n := n) (s := (l.drop q)) (by rw [List.length_drop]; omega) hb0 (by rw [List.length_drop]; omega) hc64)).symm) trivial
    | exact ret3v rfl (.inl rfl) rfl rfl rfl (congrArg (fun z : List UInt8 × Nat × Nat => AV.str z.1) (firstP_3 (b := false) (key := key) (n := n) (s := (l.drop q)) (by rw [List.length_drop]; omega) hb0 (by rw [List.length_drop]; omega) hc64).symm) (congrArg (fun z : List UInt8 × Nat × Nat => AV.i64 ((z.2.1 : Nat) : Int)) (firstP_3 (b := false) (key := key) (n := n) (s := (l.drop q)) (by rw [List.length_drop]; omega) hb0 (by rw [List.length_drop]; omega) hc64).symm) (erv_eq (congrArg (fun z : List UInt8 × Nat × Nat => z.2.2) (firstP_3 (b := false) (key := key) (n := n) (s := (l.drop q)) (by rw [List.length_drop]; omega) hb0 (by rw [List.length_drop]; omega) hc64)).symm) trivial
    | exact ret3v rfl (.inl rfl) rfl rfl rfl (congrArg (fun z : List UInt8 × Nat × Nat => AV.str z.1) (firstP_2 (b := false) (key := key) (n := n) (s := (l.drop q)) (by rw [List.length_drop]; omega) (by simpa using hc31) (by rw [List.length_drop]; omega)).symm) (congrArg (fun z : List UInt8 × Nat × Nat => AV.i64 ((z.2.1 : Nat) : Int)) (firstP_2 (b := false) (key := key) (n := n) (s := (l.drop q)) (by rw [List.length_drop]; omega) (by simpa using hc31) (by rw [List.length_drop]; omega)).symm) (erv_eq (congrArg (fun z : List UInt8 × Nat × Nat => z.2.2) (firstP_2 (b := false) (key := key) (n := n) (s := (l.drop q)) (by rw [List.length_drop]; omega) (by simpa using hc31) (by rw [List.length_drop]; omega))).symm) trivial
    | exact ret3v rfl (.inl rfl) rfl rfl rfl (congrArg (fun z : List UInt8 × Nat × Nat => AV.str z.1) (firstP_1 (b := false) (key := key) (n := n) (s := (l.drop q)) (by rw [List.length_drop]; omega) hc31).symm) (congrArg (fun z : List UInt8 × Nat × Nat => AV.i64 ((z.2.1 : Nat) : Int)) (firstP_1 (b := false) (key := key) (n := n) (s := (l.drop q)) (by rw [List.length_drop]; omega) hc31).symm) (erv_eq (congrArg (fun z : List UInt8 × Nat × Nat => z.2.2) (firstP_1 (b := false) (key := key) (n := n) (s := (l.drop q)) (by rw [List.length_drop]; omega) hc31)).symm) trivial
    | exact ret3v rfl (.inl rfl) rfl rfl rfl (congrArg (fun z : List UInt8 × Nat × Nat => AV.str z.1) (firstP_0 (b := false) (key := key) (n := n) (s := (l.drop q)) (by rw [List.length_drop]; omega)).symm) (congrArg (fun z : List UInt8 × Nat × Nat => AV.i64 ((z.2.1 : Nat) : Int)) (firstP_0 (b := false) (key := key) (n := n) (s := (l.drop q)) (by rw [List.length_drop]; omega)).symm) (erv_eq (congrArg (fun z : List UInt8 × Nat × Nat => z.2.2) (firstP_0 (b := false) (key := key) (n := n) (s := (l.drop q)) (by rw [List.length_drop]; omega))).symm) trivial
  ·simp only [bne_eq_false_iff_eq] at hc31
   refine .skip ?_
   show Ev _ _ _ _ _
   refine .seq ?_
   have hb0 : badP false (l.drop q) = 0 := hc31
   have hbd := badN_le (b := false) (m := (lenP (l.drop q))) hb0
   have htg : tagP false = 0 := rfl
   have hsz : sizeP false (l.drop q) = 4 + (lenP (l.drop q)) + 0 := rfl
   have hle : leastP false = 12 := rfl
   refine .region ?_
   refine .q (op_move rfl) trivial rfl ?_
   refine .q (op_conv Tryd.underlying58 Tryd.underlying3 rfl rfl) trivial rfl ?_
   refine .as (.i64 (((lenP (l.drop q)) : Nat) : Int)) rfl ?_
   refine .q (op_addI rfl rfl ⟨by omega, by omega⟩) trivial rfl ?_
   refine .as (.i64 ((4 + (lenP (l.drop q)) : Nat) : Int)) (congrArg AV.i64 (by show (4 : Int) + (((lenP (l.drop q)) : Nat) : Int) = _; omega)) ?_
   refine .q (op_assign rfl) trivial rfl ?_
   refine .nil ?_
   show Ev _ _ _ _ _
   refine .seq ?_
   refine .seq ?_
   refine .region ?_
   refine .q (op_move rfl) trivial rfl ?_
   refine .q (op_nilCheck rfl) trivial rfl ?_
   refine .q (op_fieldAddr (m := 33) Tryd.underlying35 rfl (by kernel_rfl) rfl) trivial rfl ?_
   refine .as (.ptr 500 0) rfl ?_
   refine .q (op_fieldAddr (m := 0) Tryd.underlying28 rfl (by kernel_rfl) rfl) trivial rfl ?_
   refine .as (.ptr 500 0) rfl ?_
   refine .q (op_load Tryd.underlying4 rfl rfl rfl rfl (dC_lt (by decide))) trivial rfl ?_
   refine .nil ?_
   show Ev _ _ _ _ _
   refine .cond_false rfl (rfl) ?_
   refine .skip ?_
   show Ev _ _ _ _ _
   refine .seq ?_
   refine .seq ?_
   refine .region ?_
   refine .q (op_move rfl) trivial rfl ?_
   refine .q (op_nilCheck rfl) trivial rfl ?_
   refine .q (op_fieldAddr (m := 0) Tryd.underlying35 rfl (by kernel_rfl) rfl) trivial rfl ?_
   refine .as (.ptr 500 34) rfl ?_
   refine .q (op_load Tryd.underlying31 rfl rfl rfl rfl (dC_ltt (i := 0) (by simp))) trivial rfl ?_
   refine .q (op_len_sl Tryd.underlying31 rfl) trivial rfl ?_
   refine .q (op_move rfl) trivial rfl ?_
   refine .q (op_cmpI rfl rfl rfl) trivial rfl ?_
   refine .nil ?_
   show Ev _ _ _ _ _
   refine .cond rfl (fun hc49 => ?_) (fun hc49 => ?_)
   ·simp only [decide_eq_true_eq] at hc49
    refine .seq ?_
    refine .region ?_
    refine .q (op_assign rfl) trivial rfl ?_
    refine .q (op_assign rfl) trivial rfl ?_
    refine .q (op_assign rfl) trivial rfl ?_
    refine .asR (.err 131 (0) (offE eo (0))) (nil_err _ _) ?_
    refine .nil ?_
    show Ev _ _ _ _ _
    refine .ret ?_
    show RetOk _ _ _ _ _ _ _
    first
     | exact ret3v rfl (.inl rfl) rfl rfl rfl (congrArg (fun z : List UInt8 × Nat × Nat => AV.str z.1) (firstP_4 (b := false) (key := key) (n := n) (s := (l.drop q)) (by rw [List.length_drop]; omega) hb0 (by rw [List.length_drop]; omega) hc64).symm) (congrArg (fun z : List UInt8 × Nat × Nat => AV.i64 ((z.2.1 : Nat) : Int)) (firstP_4 (b := false) (key := key) (n := n) (s := (l.drop q)) (by rw [List.length_drop]; omega) hb0 (by rw [List.length_drop]; omega) hc64).symm) (erv_eq (congrArg (fun z : List UInt8 × Nat × Nat => z.2.2) (firstP_4 (b := false) (key := key) (n := n) (s := (l.drop q)) (by rw [List.length_drop]; omega) hb0 (by rw [List.length_drop]; omega) hc64)).symm) trivial
     | exact ret3v rfl (.inl rfl) rfl rfl rfl (congrArg (fun z : List UInt8 × Nat × Nat => AV.str z.1) (firstP_3 (b := false) (key := key) (n := n) (s := (l.drop q)) (by rw [List.length_drop]; omega) hb0 (by rw [List.length_drop]; omega) hc64).symm) (congrArg (fun z : List UInt8 × Nat × Nat => AV.i64 ((z.2.1 : Nat) : Int)) (firstP_3 (b := false) (key := key) (n := n) (s := (l.drop q)) (by rw [List.length_drop]; omega) hb0 (by rw [List.length_drop]; omega) hc64).symm) (erv_eq (congrArg (fun z : List UInt8 × Nat × Nat => z.2.2) (firstP_3 (b := false) (key := key) (n := n) (s := (l.drop q)) (by rw [List.length_drop]; omega) hb0 (by rw [List.length_drop]; omega) hc64)).symm) trivial
     | exact ret3v rfl (.inl rfl) rfl rfl rfl (congrArg (fun z : List UInt8 × Nat × Nat => AV.str z.1) (firstP_2 (b := false) (key := key) (n := n) (s := (l.drop q)) (by rw [List.length_drop]; omega) (by simpa using hc31) (by rw [List.length_drop]; omega)).symm) (congrArg (fun z : List UInt8 × Nat × Nat => AV.i64 ((z.2.1 : Nat) : Int)) (firstP_2 (b := false) (key := key) (n := n) (s := (l.drop q)) (by rw [List.length_drop]; omega) (by simpa using hc31) (by rw [List.length_drop]; omega)).symm) (erv_eq (congrArg (fun z : List UInt8 × Nat × Nat => z.2.2) (firstP_2 (b := false) (key := key) (n := n) (s := (l.drop q)) (by rw [List.length_drop]; omega) (by simpa using hc31) (by rw [List.length_drop]; omega))).symm) trivial
     | exact ret3v rfl (.inl rfl) rfl rfl rfl (congrArg (fun z : List UInt8 × Nat × Nat => AV.str z.1) (firstP_1 (b := false) (key := key) (n := n) (s := (l.drop q)) (by rw [List.length_drop]; omega) hc31).symm) (congrArg (fun z : List UInt8 × Nat × Nat => AV.i64 ((z.2.1 : Nat) : Int)) (firstP_1 (b := false) (key := key) (n := n) (s := (l.drop q)) (by rw [List.length_drop]; omega) hc31).symm) (erv_eq (congrArg (fun z : List UInt8 × Nat × Nat => z.2.2) (firstP_1 (b := false) (key := key) (n := n) (s := (l.drop q)) (by rw [List.length_drop]; omega) hc31)).symm) trivial
     | exact ret3v rfl (.inl rfl) rfl rfl rfl (congrArg (fun z : List UInt8 × Nat × Nat => AV.str z.1) (firstP_0 (b := false) (key := key) (n := n) (s := (l.drop q)) (by rw [List.length_drop]; omega)).symm) (congrArg (fun z : List UInt8 × Nat × Nat => AV.i64 ((z.2.1 : Nat) : Int)) (firstP_0 (b := false) (key := key) (n := n) (s := (l.drop q)) (by rw [List.length_drop]; omega)).symm) (erv_eq (congrArg (fun z : List UInt8 × Nat × Nat => z.2.2) (firstP_0 (b := false) (key := key) (n := n) (s := (l.drop q)) (by rw [List.length_drop]; omega))).symm) trivial
   ·simp only [decide_eq_false_iff_not] at hc49
    refine .skip ?_
    show Ev _ _ _ _ _
    refine .seq ?_
    have hbl := box_len (b := false) (s := (l.drop q)) (by rw [List.length_drop]; omega)
    refine .region ?_
    refine .q (op_move rfl) trivial rfl ?_
    refine .q (op_move rfl) trivial rfl ?_
    refine .q (op_nilCheck rfl) trivial rfl ?_
    refine .q (op_fieldAddr (m := 0) Tryd.underlying35 rfl (by kernel_rfl) rfl) trivial rfl ?_
    refine .as (.ptr 500 34) rfl ?_
    refine .q (op_load Tryd.underlying31 rfl rfl rfl rfl (dC_ltt (i := 0) (by simp))) trivial rfl ?_
    refine .q (op_move rfl) trivial rfl ?_
    refine .q (op_slice_sl Tryd.underlying31 inf5.sz rfl (bnd_some rfl (l := 4) rfl) (bnd_some rfl (l := (sizeP false (l.drop q))) rfl) (by omega) (by omega)) trivial rfl ?_
    refine .q (op_bytes_str Tryd.underlying31 Tryd.underlying5 Tryd.underlying9 rfl rfl rfl (by omega)) trivial rfl ?_
    refine .as (.str (boxP false (l.drop q))) (congrArg AV.str (by unfold boxP; rw [List.drop_drop, Nat.mul_one])) ?_
    refine .q (op_move rfl) trivial rfl ?_
    refine .q (op_call (U := []) [(500, 500), (501, 501)] [] (opened_f e key hk n q k (boxP false (l.drop q)) ((l.drop q).take 4) (by rw [hbl]; omega) (by rw [List.length_take]; omega) eo) Tryd.func33 (by kernel_rfl) rfl rfl rfl (⟨⟨_, rfl, rfl, rfl⟩, ⟨_, rfl, rfl, rfl⟩, ⟨_, rfl, rfl, rfl⟩, trivial⟩) (⟨⟨_, _, rfl, rfl, rfl, rfl, (fun h => by cases h), rfl⟩, trivial⟩) (trivial) (⟨(fun h => by cases h), trivial⟩) rfl) trivial rfl ?_
    refine .q (op_move rfl) trivial rfl ?_
    refine .q (op_extract rfl rfl) trivial rfl ?_
    refine .q (op_extract rfl rfl) trivial rfl ?_
    refine .q (op_assign rfl) trivial rfl ?_
    refine .q (op_assign rfl) trivial rfl ?_
    refine .nil ?_
    show Ev _ _ _ _ _
    refine .seq ?_
    refine .seq ?_
    refine .region ?_
    refine .q (op_move rfl) trivial rfl ?_
    refine .q (op_eqErrNil (e := (openP false key n (boxP false (l.drop q)) ((l.drop q).take 4)).2) Tryd.underlying33 rfl rfl) trivial rfl ?_
    refine .nil ?_
    show Ev _ _ _ _ _
    refine .cond rfl (fun hc64 => ?_) (fun hc64 => ?_)
    ·simp only [bne_iff_ne, ne_eq] at hc64
     refine .seq ?_
     refine .region ?_
     refine .q (op_move rfl) trivial rfl ?_
     refine .q (op_assign rfl) trivial rfl ?_
     refine .q (op_assign rfl) trivial rfl ?_
     refine .q (op_assign rfl) trivial rfl ?_
     refine .nil ?_
     show Ev _ _ _ _ _
     refine .ret ?_
     show RetOk _ _ _ _ _ _ _
     first
      | exact ret3v rfl (.inl rfl) rfl rfl rfl (congrArg (fun z : List UInt8 × Nat × Nat => AV.str z.1) (firstP_4 (b := false) (key := key) (n := n) (s := (l.drop q)) (by rw [List.length_drop]; omega) hb0 (by rw [List.length_drop]; omega) hc64).symm) (congrArg (fun z : List UInt8 × Nat × Nat => AV.i64 ((z.2.1 : Nat) : Int)) (firstP_4 (b := false) (key := key) (n := n) (s := (l.drop q)) (by rw [List.length_drop]; omega) hb0 (by rw [List.length_drop]; omega) hc64).symm) (erv_eq (congrArg (fun z : List UInt8 × Nat × Nat => z.2.2) (firstP_4 (b := false) (key := key) (n := n) (s := (l.drop q)) (by rw [List.length_drop]; omega) hb0 (by rw [List.length_drop]; omega) hc64)).symm) trivial
      | exact ret3v rfl (.inl rfl) rfl rfl rfl (congrArg (fun z : List UInt8 × Nat × Nat => AV.str z.1) (firstP_3 (b := false) (key := key) (n := n) (s := (l.drop q)) (by rw [List.length_drop]; omega) hb0 (by rw [List.length_drop]; omega) hc64).symm) (congrArg (fun z : List UInt8 × Nat × Nat => AV.i64 ((z.2.1 : Nat) : Int)) (firstP_3 (b := false) (key := key) (n := n) (s := (l.drop q)) (by rw [List.length_drop]; omega) hb0 (by rw [List.length_drop]; omega) hc64).symm) (erv_eq (congrArg (fun z : List UInt8 × Nat × Nat => z.2.2) (firstP_3 (b := false) (key := key) (n := n) (s := (l.drop q)) (by rw [List.length_drop]; omega) hb0 (by rw [List.length_drop]; omega) hc64)).symm) trivial
      | exact ret3v rfl (.inl rfl) rfl rfl rfl (congrArg (fun z : List UInt8 × Nat × Nat => AV.str z.1) (firstP_2 (b := false) (key := key) (n := n) (s := (l.drop q)) (by rw [List.length_drop]; omega) (by simpa using hc31) (by rw [List.length_drop]; omega)).symm) (congrArg (fun z : List UInt8 × Nat × Nat => AV.i64 ((z.2.1 : Nat) : Int)) (firstP_2 (b := false) (key := key) (n := n) (s := (l.drop q)) (by rw [List.length_drop]; omega) (by simpa using hc31) (by rw [List.length_drop]; omega)).symm) (erv_eq (congrArg (fun z : List UInt8 × Nat × Nat => z.2.2) (firstP_2 (b := false) (key := key) (n := n) (s := (l.drop q)) (by rw [List.length_drop]; omega) (by simpa using hc31) (by rw [List.length_drop]; omega))).symm) trivial
      | exact ret3v rfl (.inl rfl) rfl rfl rfl (congrArg (fun z : List UInt8 × Nat × Nat => AV.str z.1) (firstP_1 (b := false) (key := key) (n := n) (s := (l.drop q)) (by rw [List.length_drop]; omega) hc31).symm) (congrArg (fun z : List UInt8 × Nat × Nat => AV.i64 ((z.2.1 : Nat) : Int)) (firstP_1 (b := false) (key := key) (n := n) (s := (l.drop q)) (by rw [List.length_drop]; omega) hc31).symm) (erv_eq (congrArg (fun z : List UInt8 × Nat × Nat => z.2.2) (firstP_1 (b := false) (key := key) (n := n) (s := (l.drop q)) (by rw [List.length_drop]; omega) hc31)).symm) trivial
      | exact ret3v rfl (.inl rfl) rfl rfl rfl (congrArg (fun z : List UInt8 × Nat × Nat => AV.str z.1) (firstP_0 (b := false) (key := key) (n := n) (s := (l.drop q)) (by rw [List.length_drop]; omega)).symm) (congrArg (fun z : List UInt8 × Nat × Nat => AV.i64 ((z.2.1 : Nat) : Int)) (firstP_0 (b := false) (key := key) (n := n) (s := (l.drop q)) (by rw [List.length_drop]; omega)).symm) (erv_eq (congrArg (fun z : List UInt8 × Nat × Nat => z.2.2) (firstP_0 (b := false) (key := key) (n := n) (s := (l.drop q)) (by rw [List.length_drop]; omega))).symm) trivial
    ·simp only [bne_eq_false_iff_eq] at hc64
     refine .skip ?_
     show Ev _ _ _ _ _
     refine .seq ?_
     refine .region ?_
     refine .q (op_move rfl) trivial rfl ?_
     refine .q (op_call (U := []) [] [] (unpad_ev (openP false key n (boxP false (l.drop q)) ((l.drop q).take 4)).1 (by have h9 := open_len hbl hc64; omega) (by have h9 := open_len hbl hc64; omega) eo) Tryd.func34 (by kernel_rfl) rfl rfl rfl (⟨⟨_, rfl, rfl, rfl⟩, trivial⟩) (⟨⟨_, _, rfl, rfl, rfl, rfl, (fun h => by cases h), rfl⟩, trivial⟩) (trivial) (⟨(fun h => by cases h), trivial⟩) rfl) trivial rfl ?_
     refine .q (op_move rfl) trivial rfl ?_
     refine .q (op_extract rfl rfl) trivial rfl ?_
     refine .q (op_extract rfl rfl) trivial rfl ?_
     refine .q (op_assign rfl) trivial rfl ?_
     refine .q (op_assign rfl) trivial rfl ?_
     refine .nil ?_
     show Ev _ _ _ _ _
     refine .seq ?_
     refine .region ?_
     refine .q (op_move rfl) trivial rfl ?_
     refine .q (op_move rfl) trivial rfl ?_
     refine .q (op_move rfl) trivial rfl ?_
     refine .q (op_assign rfl) trivial rfl ?_
     refine .q (op_assign rfl) trivial rfl ?_
     refine .q (op_assign rfl) trivial rfl ?_
     refine .nil ?_
     show Ev _ _ _ _ _
     refine .ret ?_
     show RetOk _ _ _ _ _ _ _
     first
      | exact ret3v rfl (.inl rfl) rfl rfl rfl (congrArg (fun z : List UInt8 × Nat × Nat => AV.str z.1) (firstP_4 (b := false) (key := key) (n := n) (s := (l.drop q)) (by rw [List.length_drop]; omega) hb0 (by rw [List.length_drop]; omega) hc64).symm) (congrArg (fun z : List UInt8 × Nat × Nat => AV.i64 ((z.2.1 : Nat) : Int)) (firstP_4 (b := false) (key := key) (n := n) (s := (l.drop q)) (by rw [List.length_drop]; omega) hb0 (by rw [List.length_drop]; omega) hc64).symm) (erv_eq (congrArg (fun z : List UInt8 × Nat × Nat => z.2.2) (firstP_4 (b := false) (key := key) (n := n) (s := (l.drop q)) (by rw [List.length_drop]; omega) hb0 (by rw [List.length_drop]; omega) hc64)).symm) trivial
      | exact ret3v rfl (.inl rfl) rfl rfl rfl (congrArg (fun z : List UInt8 × Nat × Nat => AV.str z.1) (firstP_3 (b := false) (key := key) (n := n) (s := (l.drop q)) (by rw [List.length_drop]; omega) hb0 (by rw [List.length_drop]; omega) hc64).symm) (congrArg (fun z : List UInt8 × Nat × Nat => AV.i64 ((z.2.1 : Nat) : Int)) (firstP_3 (b := false) (key := key) (n := n) (s := (l.drop q)) (by rw [List.length_drop]; omega) hb0 (by rw [List.length_drop]; omega) hc64).symm) (erv_eq (congrArg (fun z : List UInt8 × Nat × Nat => z.2.2) (firstP_3 (b := false) (key := key) (n := n) (s := (l.drop q)) (by rw [List.length_drop]; omega) hb0 (by rw [List.length_drop]; omega) hc64)).symm) trivial
      | exact ret3v rfl (.inl rfl) rfl rfl rfl (congrArg (fun z : List UInt8 × Nat × Nat => AV.str z.1) (firstP_2 (b := false) (key := key) (n := n) (s := (l.drop q)) (by rw [List.length_drop]; omega) (by simpa using hc31) (by rw [List.length_drop]; omega)).symm) (congrArg (fun z : List UInt8 × Nat × Nat => AV.i64 ((z.2.1 : Nat) : Int)) (firstP_2 (b := false) (key := key) (n := n) (s := (l.drop q)) (by rw [List.length_drop]; omega) (by simpa using hc31) (by rw [List.length_drop]; omega)).symm) (erv_eq (congrArg (fun z : List UInt8 × Nat × Nat => z.2.2) (firstP_2 (b := false) (key := key) (n := n) (s := (l.drop q)) (by rw [List.length_drop]; omega) (by simpa using hc31) (by rw [List.length_drop]; omega))).symm) trivial
      | exact ret3v rfl (.inl rfl) rfl rfl rfl (congrArg (fun z : List UInt8 × Nat × Nat => AV.str z.1) (firstP_1 (b := false) (key := key) (n := n) (s := (l.drop q)) (by rw [List.length_drop]; omega) hc31).symm) (congrArg (fun z : List UInt8 × Nat × Nat => AV.i64 ((z.2.1 : Nat) : Int)) (firstP_1 (b := false) (key := key) (n := n) (s := (l.drop q)) (by rw [List.length_drop]; omega) hc31).symm) (erv_eq (congrArg (fun z : List UInt8 × Nat × Nat => z.2.2) (firstP_1 (b := false) (key := key) (n := n) (s := (l.drop q)) (by rw [List.length_drop]; omega) hc31)).symm) trivial
      | exact ret3v rfl (.inl rfl) rfl rfl rfl (congrArg (fun z : List UInt8 × Nat × Nat => AV.str z.1) (firstP_0 (b := false) (key := key) (n := n) (s := (l.drop q)) (by rw [List.length_drop]; omega)).symm) (congrArg (fun z : List UInt8 × Nat × Nat => AV.i64 ((z.2.1 : Nat) : Int)) (firstP_0 (b := false) (key := key) (n := n) (s := (l.drop q)) (by rw [List.length_drop]; omega)).symm) (erv_eq (congrArg (fun z : List UInt8 × Nat × Nat => z.2.2) (firstP_0 (b := false) (key := key) (n := n) (s := (l.drop q)) (by rw [List.length_drop]; omega))).symm) trivial
end Go.Proofs.YtidjfinookikcaaDoor
namespace Go.Proofs.YtidjfinookikcaaDoor
open Go.RowKit
theorem first_le (b : Bool) (key : List UInt8) (n : UInt64) (s : List UInt8) : (firstP b key n s).2.1 ≤ s.length := by
  unfold firstP
  split
  · exact Nat.zero_le _
  · split
    · exact Nat.zero_le _
    · split
      · exact Nat.zero_le _
      · rename_i h
        split
        · exact Nat.zero_le _
        · exact Nat.le_of_not_lt h
set_option maxRecDepth 100000 in
theorem pfeed_0 (b : Bool) (key : List UInt8) (n : UInt64) (s : List UInt8) (h0 : 0 < s.length) (hs : s.length ≤ 1000000) (eo : Nat → Nat × Nat) : Meets Tryd.prog 10 [.ptr 500 0, .str s] [(500, some ⟨dC b key n ([.nilsl, .err 131 (0) (offE eo (0))]), 35, true⟩)] (.tup []) [(500, some ⟨dC b key n ([.sl 1000 (0) (s.length) 1, .err 131 (0) (offE eo (0))]), 35, true⟩), (1000, some ⟨.aggB s, 5, true⟩)] := by
 refine meets_of_ev (nt := 18) Tryd.func10 rfl rfl (Nat.le_of_ble_eq_true rfl) ?_
 refine .seq ?_
 refine .region ?_
 refine .q (op_move rfl) trivial rfl ?_
 refine .q (op_nilCheck rfl) trivial rfl ?_
 refine .q (op_fieldAddr (m := 0) Tryd.underlying35 rfl (by kernel_rfl) rfl) trivial rfl ?_
 refine .as (.ptr 500 35) rfl ?_
 refine .q (op_load Tryd.underlying33 rfl rfl rfl rfl (dC_ltt (i := 1) (by simp))) trivial rfl ?_
 refine .q (op_eqErrNil (e := 0) Tryd.underlying33 rfl rfl) trivial rfl ?_
 refine .nil ?_
 show Ev _ _ _ _ _
 refine .cond_true rfl (rfl) ?_
 refine .region ?_
 refine .q (op_move rfl) trivial rfl ?_
 refine .q (op_move rfl) trivial rfl ?_
 refine .q (op_nilCheck rfl) trivial rfl ?_
 refine .q (op_fieldAddr (m := 0) Tryd.underlying35 rfl (by kernel_rfl) rfl) trivial rfl ?_
 refine .as (.ptr 500 34) rfl ?_
 refine .q (op_load Tryd.underlying31 rfl rfl rfl rfl (dC_ltt (i := 0) (by simp))) trivial rfl ?_
 refine .q (op_move rfl) trivial rfl ?_
 refine .a (ap_catS_nil Tryd.underlying31 inf5 Tryd.underlying9 rfl rfl (by omega) (by omega)) trivial rfl ?_
 refine .q (op_nilCheck rfl) trivial rfl ?_
 refine .q (op_fieldAddr (m := 0) Tryd.underlying35 rfl (by kernel_rfl) rfl) trivial rfl ?_
 refine .as (.ptr 500 34) rfl ?_
 refine .w (op_store (c' := dC b key n [.sl 1000 0 s.length 1, .err 131 (0) (offE eo (0))]) rfl rfl rfl rfl rfl rfl (dC_ltt (i := 0) (by simp))) trivial rfl ?_
 refine .nil ?_
 show RetOk _ _ _ _ _ _ _
 exact ret0 rfl (.inr rfl) ⟨rfl, rfl, trivial⟩
set_option maxRecDepth 100000 in
theorem first_nil (b : Bool) (key : List UInt8) (n : UInt64) (eo : Nat → Nat × Nat) : Meets Tryd.prog 19 [.ptr 500 0] [(500, some ⟨dC b key n ([.nilsl, .err 131 (0) (offE eo (0))]), 35, false⟩)] (.tup [.str [], .i64 0, .err 131 (0) (offE eo (0))]) [] := by
 refine meets_of_ev (nt := 74) Tryd.func19 rfl rfl (Nat.le_of_ble_eq_true rfl) ?_
 refine .seq ?_
 refine .region ?_
 refine .q (op_assign rfl) trivial rfl ?_
 refine .q (op_assign rfl) trivial rfl ?_
 refine .q (op_assign rfl) trivial rfl ?_
 refine .nil ?_
 show Ev _ _ _ _ _
 refine .seq ?_
 refine .seq ?_
 refine .region ?_
 refine .q (op_move rfl) trivial rfl ?_
 refine .q (op_nilCheck rfl) trivial rfl ?_
 refine .q (op_fieldAddr (m := 0) Tryd.underlying35 rfl (by kernel_rfl) rfl) trivial rfl ?_
 refine .as (.ptr 500 34) rfl ?_
 refine .q (op_load Tryd.underlying31 rfl rfl rfl rfl (dC_ltt (i := 0) (by simp))) trivial rfl ?_
 refine .q (op_len_nil Tryd.underlying31 rfl) trivial rfl ?_
 refine .q (op_cmpI rfl rfl rfl) trivial rfl ?_
 refine .nil ?_
 show Ev _ _ _ _ _
 refine .cond_true rfl (rfl) ?_
 refine .seq ?_
 refine .region ?_
 refine .q (op_assign rfl) trivial rfl ?_
 refine .q (op_assign rfl) trivial rfl ?_
 refine .q (op_assign rfl) trivial rfl ?_
 refine .asR (.err 131 (0) (offE eo (0))) (nil_err _ _) ?_
 refine .nil ?_
 show Ev _ _ _ _ _
 refine .ret ?_
 show RetOk _ _ _ _ _ _ _
 exact ret3v rfl (.inl rfl) rfl rfl rfl (rfl) (rfl) (rfl) trivial
set_option maxRecDepth 100000 in
theorem next_nil (b : Bool) (key : List UInt8) (n : UInt64) (eo : Nat → Nat × Nat) : Meets Tryd.prog 9 [.ptr 500 0] [(500, some ⟨dC b key n ([.nilsl, .err 131 (0) (offE eo (0))]), 35, false⟩)] (.tup [.str [], .bool false, .err 131 (0) (offE eo (0))]) [] := by
 refine meets_of_ev (nt := 58) Tryd.func9 rfl rfl (Nat.le_of_ble_eq_true rfl) ?_
 refine .seq ?_
 refine .region ?_
 refine .q (op_assign rfl) trivial rfl ?_
 refine .q (op_assign rfl) trivial rfl ?_
 refine .q (op_assign rfl) trivial rfl ?_
 refine .nil ?_
 show Ev _ _ _ _ _
 refine .seq ?_
 refine .seq ?_
 refine .region ?_
 refine .q (op_move rfl) trivial rfl ?_
 refine .q (op_nilCheck rfl) trivial rfl ?_
 refine .q (op_fieldAddr (m := 0) Tryd.underlying35 rfl (by kernel_rfl) rfl) trivial rfl ?_
 refine .as (.ptr 500 35) rfl ?_
 refine .q (op_load Tryd.underlying33 rfl rfl rfl rfl (dC_ltt (i := 1) (by simp))) trivial rfl ?_
 refine .q (op_eqErrNil (e := 0) Tryd.underlying33 rfl rfl) trivial rfl ?_
 refine .nil ?_
 show Ev _ _ _ _ _
 refine .cond_false rfl (rfl) ?_
 refine .skip ?_
 show Ev _ _ _ _ _
 refine .seq ?_
 refine .region ?_
 refine .q (op_move rfl) trivial rfl ?_
 refine .q (op_call (U := []) [(500, 500)] [] (first_nil b key n eo) Tryd.func19 (by kernel_rfl) rfl rfl rfl (⟨⟨_, rfl, rfl, rfl⟩, trivial⟩) (⟨⟨_, _, rfl, rfl, rfl, rfl, (fun h => by cases h), rfl⟩, trivial⟩) (trivial) (⟨(fun h => by cases h), trivial⟩) rfl) trivial rfl ?_
 refine .q (op_move rfl) trivial rfl ?_
 refine .q (op_extract rfl rfl) trivial rfl ?_
 refine .q (op_extract rfl rfl) trivial rfl ?_
 refine .q (op_extract rfl rfl) trivial rfl ?_
 refine .q (op_assign rfl) trivial rfl ?_
 refine .q (op_assign rfl) trivial rfl ?_
 refine .q (op_assign rfl) trivial rfl ?_
 refine .nil ?_
 show Ev _ _ _ _ _
 refine .seq ?_
 refine .seq ?_
 refine .region ?_
 refine .q (op_move rfl) trivial rfl ?_
 refine .q (op_eqErrNil (e := 0) Tryd.underlying33 rfl rfl) trivial rfl ?_
 refine .nil ?_
 show Ev _ _ _ _ _
 refine .cond_false rfl (rfl) ?_
 refine .skip ?_
 show Ev _ _ _ _ _
 refine .seq ?_
 refine .seq ?_
 refine .region ?_
 refine .q (op_move rfl) trivial rfl ?_
 refine .q (op_cmpI rfl rfl rfl) trivial rfl ?_
 refine .nil ?_
 show Ev _ _ _ _ _
 refine .cond_true rfl (rfl) ?_
 refine .seq ?_
 refine .region ?_
 refine .q (op_assign rfl) trivial rfl ?_
 refine .q (op_assign rfl) trivial rfl ?_
 refine .q (op_assign rfl) trivial rfl ?_
 refine .asR (.err 131 (0) (offE eo (0))) (nil_err _ _) ?_
 refine .nil ?_
 show Ev _ _ _ _ _
 refine .ret ?_
 show RetOk _ _ _ _ _ _ _
 exact ret3v rfl (.inl rfl) rfl rfl rfl (rfl) (rfl) (rfl) trivial
set_option maxRecDepth 100000 in
theorem next_ok_f (e : Nat) (key : List UInt8) (hk : key.length = 32) (n : UInt64) (q k : Nat) (l : List UInt8) (hq : q + k = l.length) (hl : l.length ≤ 1000000) (hE : (firstP false key n (l.drop q)).2.2 = 0) (h0 : (firstP false key n (l.drop q)).2.1 ≠ 0) (eo : Nat → Nat × Nat) : Meets Tryd.prog 9 [.ptr 500 0] [(500, some ⟨dC false key n ([.sl 501 (q) (k) 1, .err 131 (0) (offE eo (0))]), 35, true⟩), (501, some ⟨.aggB l, 5, false⟩), (3, some ⟨.aggI qsTab, e, false⟩), (0, some ⟨.agg [.err 131 (2) (offE eo (2))], errT, false⟩), (2, some ⟨.agg [.err 131 (3) (offE eo (3))], errT, false⟩), (1, some ⟨.agg [.err 131 (4) (offE eo (4))], errT, false⟩), (4, some ⟨.agg [.err 131 (5) (offE eo (5))], errT, false⟩)] (.tup [.str (firstP false key n (l.drop q)).1, .bool true, .err 131 (0) (offE eo (0))]) [(500, some ⟨dC false key (n + 1) ([.sl 501 (q + (firstP false key n (l.drop q)).2.1) (k - (firstP false key n (l.drop q)).2.1) 1, .err 131 (0) (offE eo (0))]), 35, true⟩)] := by
 have hle : (firstP false key n (l.drop q)).2.1 ≤ k := by have h9 := first_le false key n (l.drop q); rw [List.length_drop] at h9; omega
 refine meets_of_ev (nt := 58) Tryd.func9 rfl rfl (Nat.le_of_ble_eq_true rfl) ?_
 refine .seq ?_
 refine .region ?_
 refine .q (op_assign rfl) trivial rfl ?_
 refine .q (op_assign rfl) trivial rfl ?_
 refine .q (op_assign rfl) trivial rfl ?_
 refine .nil ?_
 show Ev _ _ _ _ _
 refine .seq ?_
 refine .seq ?_
 refine .region ?_
 refine .q (op_move rfl) trivial rfl ?_
 refine .q (op_nilCheck rfl) trivial rfl ?_
 refine .q (op_fieldAddr (m := 0) Tryd.underlying35 rfl (by kernel_rfl) rfl) trivial rfl ?_
 refine .as (.ptr 500 35) rfl ?_
 refine .q (op_load Tryd.underlying33 rfl rfl rfl rfl (dC_ltt (i := 1) (by simp))) trivial rfl ?_
 refine .q (op_eqErrNil (e := 0) Tryd.underlying33 rfl rfl) trivial rfl ?_
 refine .nil ?_
 show Ev _ _ _ _ _
 refine .cond_false rfl (rfl) ?_
 refine .skip ?_
 show Ev _ _ _ _ _
 refine .seq ?_
 refine .region ?_
 refine .q (op_move rfl) trivial rfl ?_
 refine .q (op_call (U := []) [(500, 500), (501, 501)] [] (first_f e key hk n q k l hq hl eo) Tryd.func19 (by kernel_rfl) rfl rfl rfl (⟨⟨_, rfl, rfl, rfl⟩, trivial⟩) (⟨⟨_, _, rfl, rfl, rfl, rfl, (fun h => by cases h), rfl⟩, ⟨_, _, rfl, rfl, rfl, rfl, (fun h => by cases h), rfl⟩, ⟨_, _, rfl, rfl, rfl, rfl, (fun h => by cases h), rfl⟩, ⟨_, _, rfl, rfl, rfl, rfl, (fun h => by cases h), rfl⟩, ⟨_, _, rfl, rfl, rfl, rfl, (fun h => by cases h), rfl⟩, ⟨_, _, rfl, rfl, rfl, rfl, (fun h => by cases h), rfl⟩, ⟨_, _, rfl, rfl, rfl, rfl, (fun h => by cases h), rfl⟩, trivial⟩) (trivial) (⟨(fun h => by cases h), (fun h => by cases h), (fun h => by cases h), (fun h => by cases h), (fun h => by cases h), (fun h => by cases h), (fun h => by cases h), trivial⟩) rfl) trivial rfl ?_
 refine .q (op_move rfl) trivial rfl ?_
 refine .q (op_extract rfl rfl) trivial rfl ?_
 refine .q (op_extract rfl rfl) trivial rfl ?_
 refine .q (op_extract rfl rfl) trivial rfl ?_
 refine .q (op_assign rfl) trivial rfl ?_
 refine .q (op_assign rfl) trivial rfl ?_
 refine .q (op_assign rfl) trivial rfl ?_
 refine .nil ?_
 show Ev _ _ _ _ _
 refine .seq ?_
 refine .seq ?_
 refine .region ?_
 refine .q (op_move rfl) trivial rfl ?_
 refine .q (op_eqErrNil (e := (firstP false key n (l.drop q)).2.2) Tryd.underlying33 rfl rfl) trivial rfl ?_
 refine .nil ?_
 show Ev _ _ _ _ _
 refine .cond_false rfl (by rw [hE]; rfl) ?_
 refine .skip ?_
 show Ev _ _ _ _ _
 refine .seq ?_
 refine .seq ?_
 refine .region ?_
 refine .q (op_move rfl) trivial rfl ?_
 refine .q (op_cmpI rfl rfl rfl) trivial rfl ?_
 refine .nil ?_
 show Ev _ _ _ _ _
 refine .cond_false rfl (decide_eq_false (by omega)) ?_
 refine .skip ?_
 show Ev _ _ _ _ _
 refine .seq ?_
 refine .region ?_
 refine .q (op_move rfl) trivial rfl ?_
 refine .q (op_move rfl) trivial rfl ?_
 refine .q (op_nilCheck rfl) trivial rfl ?_
 refine .q (op_fieldAddr (m := 0) Tryd.underlying35 rfl (by kernel_rfl) rfl) trivial rfl ?_
 refine .as (.ptr 500 34) rfl ?_
 refine .q (op_load Tryd.underlying31 rfl rfl rfl rfl (dC_ltt (i := 0) (by simp))) trivial rfl ?_
 refine .q (op_move rfl) trivial rfl ?_
 refine .q (op_slice_sl Tryd.underlying31 inf5.sz rfl (bnd_some rfl (l := (firstP false key n (l.drop q)).2.1) rfl) rfl (by first | exact hle | omega) (by first | exact hle | omega)) trivial rfl ?_
 refine .as (.sl 501 (q + (firstP false key n (l.drop q)).2.1) (k - (firstP false key n (l.drop q)).2.1) 1) (by rw [Nat.mul_one]) ?_
 refine .q (op_nilCheck rfl) trivial rfl ?_
 refine .q (op_fieldAddr (m := 0) Tryd.underlying35 rfl (by kernel_rfl) rfl) trivial rfl ?_
 refine .as (.ptr 500 34) rfl ?_
 refine .w (op_store (c' := dC false key n [.sl 501 (q + (firstP false key n (l.drop q)).2.1) (k - (firstP false key n (l.drop q)).2.1) 1, .err 131 (0) (offE eo (0))]) rfl rfl rfl rfl rfl rfl (dC_ltt (i := 0) (by simp))) trivial rfl ?_
 refine .nil ?_
 show Ev _ _ _ _ _
 refine .seq ?_
 refine .region ?_
 refine .q (op_move rfl) trivial rfl ?_
 refine .q (op_nilCheck rfl) trivial rfl ?_
 refine .q (op_fieldAddr (m := 33) Tryd.underlying35 rfl (by kernel_rfl) rfl) trivial rfl ?_
 refine .as (.ptr 500 0) rfl ?_
 refine .q (op_fieldAddr (m := 0) Tryd.underlying28 rfl (by kernel_rfl) rfl) trivial rfl ?_
 refine .as (.ptr 500 33) rfl ?_
 refine .q (op_load Tryd.underlying26 rfl rfl rfl rfl (dC_lt (by decide))) trivial rfl ?_
 refine .q (op_bin64 rfl rfl rfl) trivial rfl ?_
 refine .q (op_nilCheck rfl) trivial rfl ?_
 refine .q (op_fieldAddr (m := 33) Tryd.underlying35 rfl (by kernel_rfl) rfl) trivial rfl ?_
 refine .as (.ptr 500 0) rfl ?_
 refine .q (op_fieldAddr (m := 0) Tryd.underlying28 rfl (by kernel_rfl) rfl) trivial rfl ?_
 refine .as (.ptr 500 33) rfl ?_
 refine .w (op_store (c' := dC false key (n + 1) [.sl 501 (q + (firstP false key n (l.drop q)).2.1) (k - (firstP false key n (l.drop q)).2.1) 1, .err 131 (0) (offE eo (0))]) rfl rfl rfl rfl rfl rfl (dC_lt (by decide))) trivial rfl ?_
 refine .nil ?_
 show Ev _ _ _ _ _
 refine .seq ?_
 refine .region ?_
 refine .q (op_move rfl) trivial rfl ?_
 refine .q (op_assign rfl) trivial rfl ?_
 refine .q (op_assign rfl) trivial rfl ?_
 refine .q (op_assign rfl) trivial rfl ?_
 refine .asR (.err 131 (0) (offE eo (0))) (nil_err _ _) ?_
 refine .nil ?_
 show Ev _ _ _ _ _
 refine .ret ?_
 show RetOk _ _ _ _ _ _ _
 exact ret3v rfl (.inl rfl) rfl rfl rfl (rfl) (rfl) (rfl) ⟨rfl, trivial⟩
theorem pa_eq : (packP false (List.replicate 32 (0 : UInt8)) 0 [97]) = [0, 0, 0, 12, 10, 97, 0, 0, 0, 0, 0, 0, 0, 0, 0, 0] := by decide +kernel
theorem pa_first : (firstP false (List.replicate 32 (0 : UInt8)) 0 ((packP false (List.replicate 32 (0 : UInt8)) 0 [97]).drop 0)) = ([97], 16, 0) := by
 have h := first_pack false (List.replicate 32 (0 : UInt8)) 0 [97] [] (by decide) (by decide)
 rw [List.append_nil] at h
 rw [List.drop_zero, h, pa_eq]; rfl
set_option maxRecDepth 100000 in
theorem awake12_ev (e : Nat) (eo : Nat → Nat × Nat) : Meets Tryd.prog 4 [] [(3, some ⟨.aggI qsTab, e, false⟩), (0, some ⟨.agg [.err 131 (2) (offE eo (2))], errT, false⟩), (2, some ⟨.agg [.err 131 (3) (offE eo (3))], errT, false⟩), (1, some ⟨.agg [.err 131 (4) (offE eo (4))], errT, false⟩), (4, some ⟨.agg [.err 131 (5) (offE eo (5))], errT, false⟩)] (.bool true) [] := by
 refine meets_of_ev (nt := 46) Tryd.func4 rfl rfl (Nat.le_of_ble_eq_true rfl) ?_
 refine .seq ?_
 refine .region ?_
 refine .q (op_assign rfl) trivial rfl ?_
 refine .nil ?_
 show Ev _ _ _ _ _
 refine .seq ?_
 refine .region ?_
 refine .a (op_allocRow zeroW rel_zeroW rfl) trivial rfl ?_
 refine .nil ?_
 show Ev _ _ _ _ _
 refine .seq ?_
 refine .region ?_
 refine .a (op_call (U := [(1000, some ⟨dC false (List.replicate 32 (0 : UInt8)) 1 [], 30, true⟩)]) [(500, 1000)] [] (pack_f e (List.replicate 32 (0 : UInt8)) rfl 0 [97] (by decide) (by decide) eo) Tryd.func8 (by kernel_rfl) rfl rfl rfl (⟨⟨_, rfl, rfl, rfl⟩, ⟨_, rfl, rfl, rfl⟩, trivial⟩) (⟨⟨_, _, rfl, rfl, rfl, rfl, id, rfl⟩, ⟨_, _, rfl, rfl, rfl, rfl, (fun h => by cases h), rfl⟩, trivial⟩) (⟨⟨500, _, rfl, rfl, rfl, rfl, .inr ⟨rfl, _, rfl, rfl⟩⟩, trivial⟩) (⟨(fun _ => ⟨1000, _, rfl, rfl⟩), (fun h => by cases h), trivial⟩) rfl) trivial rfl ?_
 refine .q (op_move rfl) trivial rfl ?_
 refine .q (op_extract rfl rfl) trivial rfl ?_
 refine .q (op_extract rfl rfl) trivial rfl ?_
 refine .q (op_assign rfl) trivial rfl ?_
 refine .q (op_assign rfl) trivial rfl ?_
 refine .nil ?_
 show Ev _ _ _ _ _
 refine .seq ?_
 refine .region ?_
 refine .a (op_allocRow zeroR (rel_zeroR eo) rfl) trivial rfl ?_
 refine .nil ?_
 show Ev _ _ _ _ _
 refine .seq ?_
 refine .region ?_
 refine .q (op_move rfl) trivial rfl ?_
 refine .a (op_call (U := [(1016, some ⟨dC false (List.replicate 32 (0 : UInt8)) 0 ([.sl 1024 0 (packP false (List.replicate 32 (0 : UInt8)) 0 [97]).length 1, .err 131 (0) (offE eo (0))]), 35, true⟩), (1024, some ⟨.aggB (packP false (List.replicate 32 (0 : UInt8)) 0 [97]), 5, true⟩)]) [(500, 1016)] [(1024, 1000)] (pfeed_0 false (List.replicate 32 (0 : UInt8)) 0 (packP false (List.replicate 32 (0 : UInt8)) 0 [97]) (by rw [pa_eq]; decide) (by rw [pa_eq]; decide) eo) Tryd.func10 (by kernel_rfl) rfl rfl rfl (⟨⟨_, rfl, rfl, rfl⟩, ⟨_, rfl, rfl, rfl⟩, trivial⟩) (⟨⟨_, _, rfl, rfl, rfl, rfl, id, rfl⟩, trivial⟩) (⟨⟨500, _, rfl, rfl, rfl, rfl, .inr ⟨rfl, _, rfl, rfl⟩⟩, ⟨1000, _, rfl, rfl, rfl, rfl, .inl rfl⟩, trivial⟩) (⟨(fun _ => ⟨1016, _, rfl, rfl⟩), trivial⟩) rfl) trivial rfl ?_
 refine .nil ?_
 show Ev _ _ _ _ _
 refine .seq ?_
 refine .region ?_
 refine .a (op_call (U := [(1016, some ⟨dC false (List.replicate 32 (0 : UInt8)) 1 ([.sl 1024 (0 + (firstP false (List.replicate 32 (0 : UInt8)) 0 ((packP false (List.replicate 32 (0 : UInt8)) 0 [97]).drop 0)).2.1) ((packP false (List.replicate 32 (0 : UInt8)) 0 [97]).length - (firstP false (List.replicate 32 (0 : UInt8)) 0 ((packP false (List.replicate 32 (0 : UInt8)) 0 [97]).drop 0)).2.1) 1, .err 131 (0) (offE eo (0))]), 35, true⟩)]) [(500, 1016), (501, 1024)] [] (next_ok_f e (List.replicate 32 (0 : UInt8)) rfl 0 0 (packP false (List.replicate 32 (0 : UInt8)) 0 [97]).length (packP false (List.replicate 32 (0 : UInt8)) 0 [97]) (Nat.zero_add _) (by rw [pa_eq]; decide) (by rw [pa_first]) (by rw [pa_first]; decide) eo) Tryd.func9 (by kernel_rfl) rfl rfl rfl (⟨⟨_, rfl, rfl, rfl⟩, trivial⟩) (⟨⟨_, _, rfl, rfl, rfl, rfl, id, rfl⟩, ⟨_, _, rfl, rfl, rfl, rfl, (fun h => by cases h), rfl⟩, ⟨_, _, rfl, rfl, rfl, rfl, (fun h => by cases h), rfl⟩, ⟨_, _, rfl, rfl, rfl, rfl, (fun h => by cases h), rfl⟩, ⟨_, _, rfl, rfl, rfl, rfl, (fun h => by cases h), rfl⟩, ⟨_, _, rfl, rfl, rfl, rfl, (fun h => by cases h), rfl⟩, ⟨_, _, rfl, rfl, rfl, rfl, (fun h => by cases h), rfl⟩, trivial⟩) (⟨⟨500, _, rfl, rfl, rfl, rfl, .inr ⟨rfl, _, rfl, rfl⟩⟩, trivial⟩) (⟨(fun _ => ⟨1016, _, rfl, rfl⟩), (fun h => by cases h), (fun h => by cases h), (fun h => by cases h), (fun h => by cases h), (fun h => by cases h), (fun h => by cases h), trivial⟩) rfl) trivial rfl ?_
 refine .q (op_move rfl) trivial rfl ?_
 refine .q (op_extract rfl rfl) trivial rfl ?_
 refine .q (op_extract rfl rfl) trivial rfl ?_
 refine .q (op_extract rfl rfl) trivial rfl ?_
 refine .q (op_assign rfl) trivial rfl ?_
 refine .q (op_assign rfl) trivial rfl ?_
 refine .q (op_assign rfl) trivial rfl ?_
 refine .nil ?_
 show Ev _ _ _ _ _
 refine .seq ?_
 refine .region ?_
 refine .q (op_move rfl) trivial rfl ?_
 refine .q (op_eqS rfl rfl rfl) trivial rfl ?_
 refine .q (op_move rfl) trivial rfl ?_
 refine .know (b' := true) (by rw [pa_eq]; rfl) ?_
 refine .q (op_move rfl) ⟨_, rfl, rfl⟩ rfl ?_
 refine .q (op_eqErrNil (e := 0) Tryd.underlying33 rfl rfl) ⟨_, rfl, rfl⟩ rfl ?_
 refine .q (op_pick_true rfl rfl rfl) trivial rfl ?_
 refine .q (op_move rfl) trivial rfl ?_
 refine .know (b' := true) (rfl) ?_
 refine .q (op_move rfl) ⟨_, rfl, rfl⟩ rfl ?_
 refine .q (op_eqS rfl rfl rfl) ⟨_, rfl, rfl⟩ rfl ?_
 refine .q (op_pick_true rfl rfl rfl) trivial rfl ?_
 refine .q (op_move rfl) trivial rfl ?_
 refine .know (b' := true) (by rw [pa_first]; rfl) ?_
 refine .q (op_move rfl) ⟨_, rfl, rfl⟩ rfl ?_
 refine .q (op_pick_true rfl rfl rfl) trivial rfl ?_
 refine .q (op_move rfl) trivial rfl ?_
 refine .know (b' := true) (rfl) ?_
 refine .q (op_move rfl) ⟨_, rfl, rfl⟩ rfl ?_
 refine .q (op_eqErrNil (e := 0) Tryd.underlying33 rfl rfl) ⟨_, rfl, rfl⟩ rfl ?_
 refine .q (op_pick_true rfl rfl rfl) trivial rfl ?_
 refine .q (op_move rfl) trivial rfl ?_
 refine .know (b' := true) (rfl) ?_
 refine .q (op_fieldAddr (m := 33) Tryd.underlying30 rfl (by kernel_rfl) rfl) ⟨_, rfl, rfl⟩ rfl ?_
 refine .as (.ptr 1000 0) rfl ?_
 refine .q (op_call (U := []) [(500, 1000)] [] (count_ev false (List.replicate 32 (0 : UInt8)) 1 [] 30) Tryd.func12 (by kernel_rfl) rfl rfl rfl (⟨⟨_, rfl, rfl, rfl⟩, trivial⟩) (⟨⟨_, _, rfl, rfl, rfl, rfl, (fun h => by cases h), rfl⟩, trivial⟩) (trivial) (⟨(fun h => by cases h), trivial⟩) rfl) ⟨_, rfl, rfl⟩ rfl ?_
 refine .q (op_bin64 rfl rfl rfl) ⟨_, rfl, rfl⟩ rfl ?_
 refine .q (op_pick_true rfl rfl rfl) trivial rfl ?_
 refine .q (op_move rfl) trivial rfl ?_
 refine .know (b' := true) (rfl) ?_
 refine .q (op_fieldAddr (m := 33) Tryd.underlying35 rfl (by kernel_rfl) rfl) ⟨_, rfl, rfl⟩ rfl ?_
 refine .as (.ptr 1016 0) rfl ?_
 refine .q (op_call (U := []) [(500, 1016), (501, 1024)] [] (count_ev false (List.replicate 32 (0 : UInt8)) 1 [.sl 501 (0 + (firstP false (List.replicate 32 (0 : UInt8)) 0 ((packP false (List.replicate 32 (0 : UInt8)) 0 [97]).drop 0)).2.1) ((packP false (List.replicate 32 (0 : UInt8)) 0 [97]).length - (firstP false (List.replicate 32 (0 : UInt8)) 0 ((packP false (List.replicate 32 (0 : UInt8)) 0 [97]).drop 0)).2.1) 1, .err 131 (0) (offE eo (0))] 35) Tryd.func12 (by kernel_rfl) rfl rfl rfl (⟨⟨_, rfl, rfl, rfl⟩, trivial⟩) (⟨⟨_, _, rfl, rfl, rfl, rfl, (fun h => by cases h), rfl⟩, trivial⟩) (trivial) (⟨(fun h => by cases h), trivial⟩) rfl) ⟨_, rfl, rfl⟩ rfl ?_
 refine .q (op_bin64 rfl rfl rfl) ⟨_, rfl, rfl⟩ rfl ?_
 refine .q (op_pick_true rfl rfl rfl) trivial rfl ?_
 refine .q (op_assign rfl) trivial rfl ?_
 refine .nil ?_
 show Ev _ _ _ _ _
 refine .ret ?_
 show RetOk _ _ _ _ _ _ _
 exact ret1v rfl (.inl rfl) rfl rfl trivial
end Go.Proofs.YtidjfinookikcaaDoor
