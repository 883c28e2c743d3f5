/-
  Texts of this claim.
-/
import Derived.Test.YtdmlpblaelfdmaaGreatDoorGD2S
import Derived.Test.YtdmlpblaelfdmaaGreatDoorGP2S
namespace Go.Proofs.YtdmlpblaelfdmaaGreatDoor
open Go.RowKit
set_option maxRecDepth 100000 in
theorem check_t (key : List UInt8) (n : UInt64) (q k : Nat) (L : UInt32) (eo : Nat → Nat × Nat) : Meets Tryz.prog 75 [.ptr 500 0, .u32 L] [(500, some ⟨dC true key n ([.sl 501 (q) (k) 1, .err 269 (0) (offE eo (0))]), 44, false⟩), (3, some ⟨.agg [.err 269 (3) (offE eo (3))], errT, false⟩), (1, some ⟨.agg [.err 269 (4) (offE eo (4))], errT, false⟩)] (.err 269 (badN true L.toNat) (offE eo (badN true L.toNat))) [] := by
 have hLt := L.toNat_lt
 have hah := ahead_le true
 have e1 : (UInt32.ofNat 33024 < L) ↔ 33024 < L.toNat := UInt32.lt_iff_toNat_lt
 have e2 : (L < UInt32.ofNat 8) ↔ L.toNat < leastP true := UInt32.lt_iff_toNat_lt
 refine meets_of_ev (nt := 29) Tryz.func75 rfl rfl (Nat.le_of_ble_eq_true rfl) ?_
 refine .seq ?_
 refine .region ?_
 refine .q (op_assign rfl) trivial rfl ?_
 refine .nil ?_
 show Ev _ _ _ _ _
 refine .seq ?_
 refine .seq ?_
 refine .region ?_
 refine .q (op_move rfl) trivial rfl ?_
 refine .q (op_bin32 rfl rfl rfl) trivial rfl ?_
 refine .nil ?_
 show Ev _ _ _ _ _
 refine .cond rfl (fun hc7 => ?_) (fun hc7 => ?_)
 ·simp only [decide_eq_true_eq] at hc7
  refine .seq ?_
  refine .region ?_
  refine .q (op_load Tryz.underlying36 rfl rfl rfl rfl (by first | omega | (simp only [AV.len]; omega) | (simp only [AV.len]; omega) | assumption | (simp [AV.len]; done))) trivial rfl ?_
  refine .q (op_assign rfl) trivial rfl ?_
  refine .nil ?_
  show Ev _ _ _ _ _
  refine .ret ?_
  show RetOk _ _ _ _ _ _ _
  exact ret1v rfl (.inl rfl) rfl (by first | exact erv_eq (badN_4 (e1.1 hc7)).symm | exact erv_eq (badN_3 (fun h => hc7 (e1.2 h)) (.inl (e2.1 hg17))).symm | exact erv_eq (badN_3 (fun h => hc7 (e1.2 h)) (.inr (by omega))).symm | rfl) trivial
 ·simp only [decide_eq_false_iff_not] at hc7
  refine .skip ?_
  show Ev _ _ _ _ _
  refine .seq ?_
  refine .region ?_
  refine .q (op_assign rfl) trivial rfl ?_
  refine .nil ?_
  show Ev _ _ _ _ _
  refine .seq ?_
  refine .seq ?_
  refine .region ?_
  refine .q (op_move rfl) trivial rfl ?_
  refine .q (op_nilCheck rfl) trivial rfl ?_
  refine .q (op_fieldAddr (m := 33) Tryz.underlying44 rfl (by kernel_rfl) rfl) trivial rfl ?_
  refine .as (.ptr 500 0) rfl ?_
  refine .q (op_fieldAddr (m := 0) Tryz.underlying27 rfl (by kernel_rfl) rfl) trivial rfl ?_
  refine .as (.ptr 500 0) rfl ?_
  refine .q (op_load Tryz.underlying4 rfl rfl rfl rfl (dC_lt (by decide))) trivial rfl ?_
  refine .nil ?_
  show Ev _ _ _ _ _
  refine .cond_true rfl (rfl) ?_
  refine .region ?_
  refine .q (op_assign rfl) trivial rfl ?_
  refine .nil ?_
  show Ev _ _ _ _ _
  refine .seq ?_
  refine .seq ?_
  refine .region ?_
  refine .q (op_move rfl) trivial rfl ?_
  refine .q (op_move rfl) trivial rfl ?_
  refine .q (op_bin32 rfl rfl rfl) trivial rfl ?_
  refine .q (op_move rfl) trivial rfl ?_
  refine .split (fun hg17 => ?_) (fun hg17 => ?_)
  ·simp only [decide_eq_true_eq] at hg17
   refine .no ⟨_, rfl, rfl⟩ rfl ?_
   refine .no ⟨_, rfl, rfl⟩ rfl ?_
   refine .no ⟨_, rfl, rfl⟩ rfl ?_
   refine .no ⟨_, rfl, rfl⟩ rfl ?_
   refine .no ⟨_, rfl, rfl⟩ rfl ?_
   refine .no ⟨_, rfl, rfl⟩ rfl ?_
   refine .no ⟨_, rfl, rfl⟩ rfl ?_
   refine .no ⟨_, rfl, rfl⟩ rfl ?_
   refine .no ⟨_, rfl, rfl⟩ rfl ?_
   refine .q (op_pick_true rfl rfl rfl) trivial rfl ?_
   refine .nil ?_
   show Ev _ _ _ _ _
   refine .cond_true rfl rfl ?_
   refine .seq ?_
   refine .region ?_
   refine .q (op_load Tryz.underlying36 rfl rfl rfl rfl (by first | omega | (simp only [AV.len]; omega) | (simp only [AV.len]; omega) | assumption | (simp [AV.len]; done))) trivial rfl ?_
   refine .q (op_assign rfl) trivial rfl ?_
   refine .nil ?_
   show Ev _ _ _ _ _
   refine .ret ?_
   show RetOk _ _ _ _ _ _ _
   exact ret1v rfl (.inl rfl) rfl (by first | exact erv_eq (badN_4 (e1.1 hc7)).symm | exact erv_eq (badN_3 (fun h => hc7 (e1.2 h)) (.inl (e2.1 hg17))).symm | exact erv_eq (badN_3 (fun h => hc7 (e1.2 h)) (.inr (by omega))).symm | rfl) trivial
  ·simp only [decide_eq_false_iff_not] at hg17
   refine .q (op_move rfl) ⟨_, rfl, rfl⟩ rfl ?_
   refine .q (op_nilCheck rfl) ⟨_, rfl, rfl⟩ rfl ?_
   refine .q (op_fieldAddr (m := 33) Tryz.underlying44 rfl (by kernel_rfl) rfl) ⟨_, rfl, rfl⟩ rfl ?_
   refine .as (.ptr 500 0) rfl ?_
   refine .q (op_call (U := []) [(500, 500), (501, 501)] [] (padded_ev true key n [.sl 501 (q) (k) 1, .err 269 (0) (offE eo (0))] 44) Tryz.func60 (by kernel_rfl) rfl rfl rfl (⟨⟨_, rfl, rfl, rfl⟩, trivial⟩) (⟨⟨_, _, rfl, rfl, rfl, rfl, (fun h => by cases h), rfl⟩, trivial⟩) (trivial) (⟨(fun h => by cases h), trivial⟩) rfl) ⟨_, rfl, rfl⟩ rfl ?_
   refine .q (op_move rfl) ⟨_, rfl, rfl⟩ rfl ?_
   refine .q (op_conv Tryz.underlying85 Tryz.underlying3 rfl rfl) ⟨_, rfl, rfl⟩ rfl ?_
   refine .as (.i64 ((L.toNat : Nat) : Int)) rfl ?_
   refine .q (op_addI rfl rfl ⟨by omega, by omega⟩) ⟨_, rfl, rfl⟩ rfl ?_
   refine .q (op_remI rfl rfl ⟨by omega, by omega⟩) ⟨_, rfl, rfl⟩ rfl ?_
   refine .q (op_cmpI rfl rfl rfl) ⟨_, rfl, rfl⟩ rfl ?_
   refine .q (op_pick_false rfl rfl rfl) trivial rfl ?_
   refine .nil ?_
   show Ev _ _ _ _ _
   refine .cond rfl (fun hc27 => ?_) (fun hc27 => ?_)
   ·simp only [bne_iff_ne, ne_eq] at hc27
    refine .seq ?_
    refine .region ?_
    refine .q (op_load Tryz.underlying36 rfl rfl rfl rfl (by first | omega | (simp only [AV.len]; omega) | (simp only [AV.len]; omega) | assumption | (simp [AV.len]; done))) trivial rfl ?_
    refine .q (op_assign rfl) trivial rfl ?_
    refine .nil ?_
    show Ev _ _ _ _ _
    refine .ret ?_
    show RetOk _ _ _ _ _ _ _
    exact ret1v rfl (.inl rfl) rfl (by first | exact erv_eq (badN_4 (e1.1 hc7)).symm | exact erv_eq (badN_3 (fun h => hc7 (e1.2 h)) (.inl (e2.1 hg17))).symm | exact erv_eq (badN_3 (fun h => hc7 (e1.2 h)) (.inr (by omega))).symm | rfl) trivial
   ·simp only [bne_eq_false_iff_eq] at hc27
    refine .skip ?_
    show Ev _ _ _ _ _
    refine .seq ?_
    refine .region ?_
    refine .q (op_assign rfl) trivial rfl ?_
    refine .asR (.err 269 (badN true L.toNat) (offE eo (badN true L.toNat))) (by rw [badN_0 (b := true) (fun h => hc7 (e1.2 h)) (fun h => h.elim (fun h => hg17 (e2.2 h)) (fun h => h (by omega)))]; exact nil_err _ _) ?_
    refine .nil ?_
    show Ev _ _ _ _ _
    refine .ret ?_
    show RetOk _ _ _ _ _ _ _
    exact ret1v rfl (.inl rfl) rfl (by first | exact erv_eq (badN_4 (e1.1 hc7)).symm | exact erv_eq (badN_3 (fun h => hc7 (e1.2 h)) (.inl (e2.1 hg17))).symm | exact erv_eq (badN_3 (fun h => hc7 (e1.2 h)) (.inr (by omega))).symm | rfl) trivial
set_option maxRecDepth 100000 in
theorem opened_ok (e : Nat) (key : List UInt8) (hk : key.length = 32) (n : UInt64) (q k : Nat) (box head : List UInt8) (hB : box.length ≤ 1000000) (hH : head.length ≤ 1000000) (h16 : 16 ≤ box.length) (hTag : box.drop (box.length - 16) = (tagL key (nonceP n) (box.take (box.length - 16)) head)) (eo : Nat → Nat × Nat) : Meets Tryz.prog 76 [.ptr 500 0, .str box, .str head] [(500, some ⟨dC true key n ([.sl 501 (q) (k) 1, .err 269 (0) (offE eo (0))]), 44, false⟩), (22, some ⟨.aggI qsTab, e, false⟩), (4, some ⟨.agg [.err 269 (5) (offE eo (5))], errT, false⟩)] (.tup [.str (cXor key (UInt32.ofNat 1) (nonceP n) (box.take (box.length - 16))), .err 269 (0) (offE eo (0))]) [] := by
 refine meets_of_ev (nt := 29) Tryz.func76 rfl rfl (Nat.le_of_ble_eq_true rfl) ?_
 refine .seq ?_
 refine .region ?_
 refine .q (op_assign rfl) trivial rfl ?_
 refine .q (op_assign rfl) trivial rfl ?_
 refine .nil ?_
 show Ev _ _ _ _ _
 refine .seq ?_
 refine .seq ?_
 refine .region ?_
 refine .q (op_move rfl) trivial rfl ?_
 refine .q (op_nilCheck rfl) trivial rfl ?_
 refine .q (op_fieldAddr (m := 33) Tryz.underlying44 rfl (by kernel_rfl) rfl) trivial rfl ?_
 refine .as (.ptr 500 0) rfl ?_
 refine .q (op_fieldAddr (m := 0) Tryz.underlying27 rfl (by kernel_rfl) rfl) trivial rfl ?_
 refine .as (.ptr 500 0) rfl ?_
 refine .q (op_load Tryz.underlying4 rfl rfl rfl rfl (dC_lt (by decide))) trivial rfl ?_
 refine .q (op_notB rfl) trivial rfl ?_
 refine .nil ?_
 show Ev _ _ _ _ _
 refine .cond_false rfl (rfl) ?_
 refine .skip ?_
 show Ev _ _ _ _ _
 refine .seq ?_
 refine .drawn [[], [0], [0, 1], [0, 1, 2], [0, 1, 2, 3], [], [5], [5, 6], [5, 6, 7], [], [], [0, 1, 2, 3, 4, 5, 6, 7, 8, 9, 10], [0, 1, 2, 3, 4, 5, 6, 7, 8, 9, 10, 11], [0, 1, 2, 3, 4, 5, 6, 7, 8, 9, 10, 11], [0, 1, 2, 3, 4, 5, 6, 7, 8, 9, 10, 11, 12, 13], [0, 1, 2, 3, 4, 5, 6, 7, 8, 9, 10, 11, 12, 13, 14]] [4, 8, 11] [] (by kernel_rfl) (by kernel_rfl) rfl ?_
 show DK _ [0, 1, 2, 3, 4, 5, 6, 7, 8, 9, 10, 11, 12, 13, 14, 15] _ _ _
 refine .q rfl (op_move rfl) trivial ?_
 refine .q rfl (op_nilCheck rfl) trivial ?_
 refine .q rfl (op_fieldAddr (m := 33) Tryz.underlying44 rfl (by kernel_rfl) rfl) trivial ?_
 refine .as (.ptr 500 0) rfl ?_
 refine .q rfl (op_fieldAddr (m := 31) Tryz.underlying27 rfl (by kernel_rfl) rfl) trivial ?_
 refine .as (.ptr 500 1) rfl ?_
 refine .q rfl (op_loadPart (m := 32) (r := .aggB key) (cs := key.map .u8) Tryz.underlying24 rfl (by kernel_rfl) rfl rfl rfl (dC_keyL hk) (dC_key hk) (by rw [dC_len]; omega)) trivial ?_
 refine .q rfl (op_move rfl) trivial ?_
 refine .q rfl (op_nilCheck rfl) trivial ?_
 refine .q rfl (op_fieldAddr (m := 33) Tryz.underlying44 rfl (by kernel_rfl) rfl) trivial ?_
 refine .as (.ptr 500 0) rfl ?_
 refine .q rfl (op_call (U := []) [(500, 500), (501, 501)] [] (nonce_ev true key n [.sl 501 (q) (k) 1, .err 269 (0) (offE eo (0))] 44) Tryz.func39 (by kernel_rfl) rfl rfl rfl (⟨⟨_, rfl, rfl, rfl⟩, trivial⟩) (⟨⟨_, _, rfl, rfl, rfl, rfl, (fun h => by cases h), rfl⟩, trivial⟩) (trivial) (⟨(fun h => by cases h), trivial⟩) rfl) trivial ?_
 refine .q rfl (op_move rfl) trivial ?_
 refine .q rfl (op_move rfl) trivial ?_
 refine .q rfl (op_call (U := []) [] [] (popen_ok e key (nonceP n) box head hk (length_nonceP n) hB hH (by omega) hTag eo) Tryz.func113 (by kernel_rfl) rfl rfl rfl (⟨⟨_, rfl, rfl, rfl⟩, ⟨_, rfl, rfl, rfl⟩, ⟨_, rfl, rfl, rfl⟩, ⟨_, rfl, rfl, rfl⟩, trivial⟩) (⟨⟨_, _, rfl, rfl, rfl, rfl, (fun h => by cases h), rfl⟩, trivial⟩) (trivial) (⟨(fun h => by cases h), trivial⟩) rfl) trivial ?_
 refine .q rfl (op_extract rfl rfl) trivial ?_
 refine .q rfl (op_extract rfl rfl) trivial ?_
 refine .q rfl (op_assign rfl) trivial ?_
 refine .q rfl (op_assign rfl) trivial ?_
 refine .nil ?_
 show Ev _ _ _ _ _
 refine .ret ?_
 show RetOk _ _ _ _ _ _ _
 exact ret2v rfl (.inl rfl) rfl rfl rfl rfl trivial
set_option maxRecDepth 100000 in
theorem opened_mac (e : Nat) (key : List UInt8) (hk : key.length = 32) (n : UInt64) (q k : Nat) (box head : List UInt8) (hB : box.length ≤ 1000000) (hH : head.length ≤ 1000000) (h16 : 16 ≤ box.length) (hTag : ¬ box.drop (box.length - 16) = (tagL key (nonceP n) (box.take (box.length - 16)) head)) (eo : Nat → Nat × Nat) : Meets Tryz.prog 76 [.ptr 500 0, .str box, .str head] [(500, some ⟨dC true key n ([.sl 501 (q) (k) 1, .err 269 (0) (offE eo (0))]), 44, false⟩), (22, some ⟨.aggI qsTab, e, false⟩), (4, some ⟨.agg [.err 269 (5) (offE eo (5))], errT, false⟩)] (.tup [.str [], .err 269 (5) (offE eo (5))]) [] := by
 refine meets_of_ev (nt := 29) Tryz.func76 rfl rfl (Nat.le_of_ble_eq_true rfl) ?_
 refine .seq ?_
 refine .region ?_
 refine .q (op_assign rfl) trivial rfl ?_
 refine .q (op_assign rfl) trivial rfl ?_
 refine .nil ?_
 show Ev _ _ _ _ _
 refine .seq ?_
 refine .seq ?_
 refine .region ?_
 refine .q (op_move rfl) trivial rfl ?_
 refine .q (op_nilCheck rfl) trivial rfl ?_
 refine .q (op_fieldAddr (m := 33) Tryz.underlying44 rfl (by kernel_rfl) rfl) trivial rfl ?_
 refine .as (.ptr 500 0) rfl ?_
 refine .q (op_fieldAddr (m := 0) Tryz.underlying27 rfl (by kernel_rfl) rfl) trivial rfl ?_
 refine .as (.ptr 500 0) rfl ?_
 refine .q (op_load Tryz.underlying4 rfl rfl rfl rfl (dC_lt (by decide))) trivial rfl ?_
 refine .q (op_notB rfl) trivial rfl ?_
 refine .nil ?_
 show Ev _ _ _ _ _
 refine .cond_false rfl (rfl) ?_
 refine .skip ?_
 show Ev _ _ _ _ _
 refine .seq ?_
 refine .drawn [[], [0], [0, 1], [0, 1, 2], [0, 1, 2, 3], [], [5], [5, 6], [5, 6, 7], [], [], [0, 1, 2, 3, 4, 5, 6, 7, 8, 9, 10], [0, 1, 2, 3, 4, 5, 6, 7, 8, 9, 10, 11], [0, 1, 2, 3, 4, 5, 6, 7, 8, 9, 10, 11], [0, 1, 2, 3, 4, 5, 6, 7, 8, 9, 10, 11, 12, 13], [0, 1, 2, 3, 4, 5, 6, 7, 8, 9, 10, 11, 12, 13, 14]] [4, 8, 11] [] (by kernel_rfl) (by kernel_rfl) rfl ?_
 show DK _ [0, 1, 2, 3, 4, 5, 6, 7, 8, 9, 10, 11, 12, 13, 14, 15] _ _ _
 refine .q rfl (op_move rfl) trivial ?_
 refine .q rfl (op_nilCheck rfl) trivial ?_
 refine .q rfl (op_fieldAddr (m := 33) Tryz.underlying44 rfl (by kernel_rfl) rfl) trivial ?_
 refine .as (.ptr 500 0) rfl ?_
 refine .q rfl (op_fieldAddr (m := 31) Tryz.underlying27 rfl (by kernel_rfl) rfl) trivial ?_
 refine .as (.ptr 500 1) rfl ?_
 refine .q rfl (op_loadPart (m := 32) (r := .aggB key) (cs := key.map .u8) Tryz.underlying24 rfl (by kernel_rfl) rfl rfl rfl (dC_keyL hk) (dC_key hk) (by rw [dC_len]; omega)) trivial ?_
 refine .q rfl (op_move rfl) trivial ?_
 refine .q rfl (op_nilCheck rfl) trivial ?_
 refine .q rfl (op_fieldAddr (m := 33) Tryz.underlying44 rfl (by kernel_rfl) rfl) trivial ?_
 refine .as (.ptr 500 0) rfl ?_
 refine .q rfl (op_call (U := []) [(500, 500), (501, 501)] [] (nonce_ev true key n [.sl 501 (q) (k) 1, .err 269 (0) (offE eo (0))] 44) Tryz.func39 (by kernel_rfl) rfl rfl rfl (⟨⟨_, rfl, rfl, rfl⟩, trivial⟩) (⟨⟨_, _, rfl, rfl, rfl, rfl, (fun h => by cases h), rfl⟩, trivial⟩) (trivial) (⟨(fun h => by cases h), trivial⟩) rfl) trivial ?_
 refine .q rfl (op_move rfl) trivial ?_
 refine .q rfl (op_move rfl) trivial ?_
 refine .q rfl (op_call (U := []) [] [] (popen_mac e key (nonceP n) box head hk (length_nonceP n) hB hH (by omega) hTag eo) Tryz.func113 (by kernel_rfl) rfl rfl rfl (⟨⟨_, rfl, rfl, rfl⟩, ⟨_, rfl, rfl, rfl⟩, ⟨_, rfl, rfl, rfl⟩, ⟨_, rfl, rfl, rfl⟩, trivial⟩) (⟨⟨_, _, rfl, rfl, rfl, rfl, (fun h => by cases h), rfl⟩, ⟨_, _, rfl, rfl, rfl, rfl, (fun h => by cases h), rfl⟩, trivial⟩) (trivial) (⟨(fun h => by cases h), (fun h => by cases h), trivial⟩) rfl) trivial ?_
 refine .q rfl (op_extract rfl rfl) trivial ?_
 refine .q rfl (op_extract rfl rfl) trivial ?_
 refine .q rfl (op_assign rfl) trivial ?_
 refine .q rfl (op_assign rfl) trivial ?_
 refine .nil ?_
 show Ev _ _ _ _ _
 refine .ret ?_
 show RetOk _ _ _ _ _ _ _
 exact ret2v rfl (.inl rfl) rfl rfl rfl rfl trivial
theorem opened_t (e : Nat) (key : List UInt8) (hk : key.length = 32) (n : UInt64) (q k : Nat) (box head : List UInt8) (hB : box.length ≤ 1000000) (hH : head.length ≤ 1000000) (h16 : 16 ≤ box.length) (eo : Nat → Nat × Nat) : Meets Tryz.prog 76 [.ptr 500 0, .str box, .str head] [(500, some ⟨dC true key n ([.sl 501 (q) (k) 1, .err 269 (0) (offE eo (0))]), 44, false⟩), (22, some ⟨.aggI qsTab, e, false⟩), (4, some ⟨.agg [.err 269 (5) (offE eo (5))], errT, false⟩)] (.tup [.str (openP true key n box head).1, .err 269 ((openP true key n box head).2) (offE eo ((openP true key n box head).2))]) [] := by
 by_cases hTag : box.drop (box.length - 16) = (tagL key (nonceP n) (box.take (box.length - 16)) head)
 ·rw [show openP true key n box head = (cXor key (UInt32.ofNat 1) (nonceP n) (box.take (box.length - 16)), 0) from if_pos hTag]; exact opened_ok e key hk n q k box head hB hH h16 hTag eo
 ·rw [show openP true key n box head = ([], 5) from if_neg hTag]; exact opened_mac e key hk n q k box head hB hH h16 hTag eo
set_option maxHeartbeats 1000000 in
set_option maxRecDepth 100000 in
theorem first_t (e : Nat) (key : List UInt8) (hk : key.length = 32) (n : UInt64) (q k : Nat) (l : List UInt8) (hq : q + k = l.length) (_hl : l.length ≤ 1000000) (eo : Nat → Nat × Nat) : Meets Tryz.prog 45 [.ptr 500 0] [(500, some ⟨dC true key n ([.sl 501 (q) (k) 1, .err 269 (0) (offE eo (0))]), 44, false⟩), (501, some ⟨.aggB l, 5, false⟩), (22, some ⟨.aggI qsTab, e, false⟩), (0, some ⟨.agg [.err 269 (2) (offE eo (2))], errT, false⟩), (3, some ⟨.agg [.err 269 (3) (offE eo (3))], errT, false⟩), (1, some ⟨.agg [.err 269 (4) (offE eo (4))], errT, false⟩), (4, some ⟨.agg [.err 269 (5) (offE eo (5))], errT, false⟩)] (.tup [.str (firstP true key n (l.drop q)).1, .i64 (((firstP true key n (l.drop q)).2.1 : Nat) : Int), .err 269 ((firstP true key n (l.drop q)).2.2) (offE eo ((firstP true key n (l.drop q)).2.2))]) [] := by
 refine meets_of_ev (nt := 74) Tryz.func45 rfl rfl (Nat.le_of_ble_eq_true rfl) ?_
 refine .seq ?_
 refine .region ?_
 refine .q (op_assign rfl) trivial rfl ?_
 refine .q (op_assign rfl) trivial rfl ?_
 refine .q (op_assign rfl) trivial rfl ?_
 refine .nil ?_
 show Ev _ _ _ _ _
 refine .seq ?_
 refine .seq ?_
 refine .region ?_
 refine .q (op_move rfl) trivial rfl ?_
 refine .q (op_nilCheck rfl) trivial rfl ?_
 refine .q (op_fieldAddr (m := 0) Tryz.underlying44 rfl (by kernel_rfl) rfl) trivial rfl ?_
 refine .as (.ptr 500 34) rfl ?_
 refine .q (op_load Tryz.underlying33 rfl rfl rfl rfl (dC_ltt (i := 0) (by simp))) trivial rfl ?_
 refine .q (op_len_sl Tryz.underlying33 rfl) trivial rfl ?_
 refine .q (op_cmpI rfl rfl rfl) trivial rfl ?_
 refine .nil ?_
 show Ev _ _ _ _ _
 refine .cond rfl (fun hc17 => ?_) (fun hc17 => ?_)
 ·simp only [decide_eq_true_eq] at hc17
  refine .seq ?_
  refine .region ?_
  refine .q (op_assign rfl) trivial rfl ?_
  refine .q (op_assign rfl) trivial rfl ?_
  refine .q (op_assign rfl) trivial rfl ?_
  refine .asR (.err 269 (0) (offE eo (0))) (nil_err _ _) ?_
  refine .nil ?_
  show Ev _ _ _ _ _
  refine .ret ?_
  show RetOk _ _ _ _ _ _ _
  exact ret3v rfl (.inl rfl) rfl rfl rfl (congrArg (fun z : List UInt8 × Nat × Nat => AV.str z.1) (firstP_0 (b := true) (key := key) (n := n) (s := (l.drop q)) (by rw [List.length_drop]; omega)).symm) (congrArg (fun z : List UInt8 × Nat × Nat => AV.i64 ((z.2.1 : Nat) : Int)) (firstP_0 (b := true) (key := key) (n := n) (s := (l.drop q)) (by rw [List.length_drop]; omega)).symm) (erv_eq (congrArg (fun z : List UInt8 × Nat × Nat => z.2.2) (firstP_0 (b := true) (key := key) (n := n) (s := (l.drop q)) (by rw [List.length_drop]; omega))).symm) trivial
 ·simp only [decide_eq_false_iff_not] at hc17
  refine .skip ?_
  show Ev _ _ _ _ _
  refine .seq ?_
  refine .region ?_
  refine .q (op_move rfl) trivial rfl ?_
  refine .q (op_nilCheck rfl) trivial rfl ?_
  refine .q (op_fieldAddr (m := 0) Tryz.underlying44 rfl (by kernel_rfl) rfl) trivial rfl ?_
  refine .as (.ptr 500 34) rfl ?_
  refine .q (op_load Tryz.underlying33 rfl rfl rfl rfl (dC_ltt (i := 0) (by simp))) trivial rfl ?_
  refine .q (ap_slice_sl_hi Tryz.underlying33 inf5.sz rfl (bnd_some rfl (l := 4) rfl) (by omega)) trivial rfl ?_
  refine .q (op_bytes_str Tryz.underlying33 Tryz.underlying5 Tryz.underlying9 rfl rfl rfl (by omega)) trivial rfl ?_
  refine .as (.str ((l.drop q).take 4)) rfl ?_
  refine .q (op_assign rfl) trivial rfl ?_
  refine .nil ?_
  show Ev _ _ _ _ _
  refine .seq ?_
  refine .region ?_
  refine .q (op_move rfl) trivial rfl ?_
  refine .a (op_call (U := [(1000, some ⟨.agg [.str (DI.mk ((l.drop q).take 4) 0).r, .err 269 ((DI.mk ((l.drop q).take 4) 0).e) (offE eo ((DI.mk ((l.drop q).take 4) 0).e))], 188, true⟩)]) [] [(1000, 1000)] (wof_ev ((l.drop q).take 4) eo) Tryz.func73 (by kernel_rfl) rfl rfl rfl (⟨⟨_, rfl, rfl, rfl⟩, trivial⟩) (trivial) (⟨⟨1000, _, rfl, rfl, rfl, rfl, .inl rfl⟩, trivial⟩) (trivial) rfl) trivial rfl ?_
  refine .a (op_call (U := [(1000, some ⟨.agg [.str ((u32D ⟨((l.drop q).take 4), 0⟩).1).r, .err 269 (((u32D ⟨((l.drop q).take 4), 0⟩).1).e) (offE eo (((u32D ⟨((l.drop q).take 4), 0⟩).1).e))], 188, true⟩)]) [(500, 1000)] [] (iu32_ev ⟨((l.drop q).take 4), 0⟩ eo) Tryz.func74 (by kernel_rfl) rfl rfl rfl (⟨⟨_, rfl, rfl, rfl⟩, trivial⟩) (⟨⟨_, _, rfl, rfl, rfl, rfl, id, rfl⟩, ⟨_, _, rfl, rfl, rfl, rfl, (fun h => by cases h), rfl⟩, trivial⟩) (⟨⟨500, _, rfl, rfl, rfl, rfl, .inr ⟨rfl, _, rfl, rfl⟩⟩, trivial⟩) (⟨(fun _ => ⟨1000, _, rfl, rfl⟩), (fun h => by cases h), trivial⟩) rfl) trivial rfl ?_
  refine .as (.u32 ((numV ((l.drop q).take 4)).toUInt32)) (congrArg AV.u32 (u32D_head _ (by rw [List.length_drop]; omega))) ?_
  refine .q (op_assign rfl) trivial rfl ?_
  refine .nil ?_
  show Ev _ _ _ _ _
  refine .seq ?_
  refine .seq ?_
  refine .region ?_
  refine .q (op_move rfl) trivial rfl ?_
  refine .q (op_move rfl) trivial rfl ?_
  refine .q (op_call (U := []) [(500, 500), (501, 501)] [] (check_t key n q k ((numV ((l.drop q).take 4)).toUInt32) eo) Tryz.func75 (by kernel_rfl) rfl rfl rfl (⟨⟨_, rfl, rfl, rfl⟩, ⟨_, rfl, rfl, rfl⟩, trivial⟩) (⟨⟨_, _, rfl, rfl, rfl, rfl, (fun h => by cases h), rfl⟩, ⟨_, _, rfl, rfl, rfl, rfl, (fun h => by cases h), rfl⟩, ⟨_, _, rfl, rfl, rfl, rfl, (fun h => by cases h), rfl⟩, trivial⟩) (trivial) (⟨(fun h => by cases h), (fun h => by cases h), (fun h => by cases h), trivial⟩) rfl) trivial rfl ?_
  refine .as (.err 269 (badP true (l.drop q)) (offE eo (badP true (l.drop q)))) rfl ?_
  refine .q (op_assign rfl) trivial rfl ?_
  refine .nil ?_
  show Ev _ _ _ _ _
  refine .seq ?_
  refine .region ?_
  refine .q (op_move rfl) trivial rfl ?_
  refine .q (op_eqErrNil (e := badP true (l.drop q)) Tryz.underlying36 rfl rfl) trivial rfl ?_
  refine .nil ?_
  show Ev _ _ _ _ _
  refine .cond rfl (fun hc31 => ?_) (fun hc31 => ?_)
  ·simp only [bne_iff_ne, ne_eq] at hc31
   refine .seq ?_
   refine .region ?_
   refine .q (op_move rfl) trivial rfl ?_
   refine .q (op_assign rfl) trivial rfl ?_
   refine .q (op_assign rfl) trivial rfl ?_
   refine .q (op_assign rfl) trivial rfl ?_
   refine .nil ?_
   show Ev _ _ _ _ _
   refine .ret ?_
   show RetOk _ _ _ _ _ _ _
   exact ret3v rfl (.inl rfl) rfl rfl rfl (congrArg (fun z : List UInt8 × Nat × Nat => AV.str z.1) (firstP_1 (b := true) (key := key) (n := n) (s := (l.drop q)) (by rw [List.length_drop]; omega) hc31).symm) (congrArg (fun z : List UInt8 × Nat × Nat => AV.i64 ((z.2.1 : Nat) : Int)) (firstP_1 (b := true) (key := key) (n := n) (s := (l.drop q)) (by rw [List.length_drop]; omega) hc31).symm) (erv_eq (congrArg (fun z : List UInt8 × Nat × Nat => z.2.2) (firstP_1 (b := true) (key := key) (n := n) (s := (l.drop q)) (by rw [List.length_drop]; omega) hc31)).symm) trivial
  ·simp only [bne_eq_false_iff_eq] at hc31
   refine .skip ?_
   show Ev _ _ _ _ _
   refine .seq ?_
   have hb0 : badP true (l.drop q) = 0 := hc31
   have hbd := badN_le (b := true) (m := (lenP (l.drop q))) hb0
   have htg : tagP true = 16 := rfl
   have hsz : sizeP true (l.drop q) = 4 + (lenP (l.drop q)) + 16 := rfl
   have hle : leastP true = 8 := rfl
   refine .region ?_
   refine .q (op_move rfl) trivial rfl ?_
   refine .q (op_conv Tryz.underlying85 Tryz.underlying3 rfl rfl) trivial rfl ?_
   refine .as (.i64 (((lenP (l.drop q)) : Nat) : Int)) rfl ?_
   refine .q (op_addI rfl rfl ⟨by omega, by omega⟩) trivial rfl ?_
   refine .as (.i64 ((4 + (lenP (l.drop q)) : Nat) : Int)) (congrArg AV.i64 (by show (4 : Int) + (((lenP (l.drop q)) : Nat) : Int) = _; omega)) ?_
   refine .q (op_assign rfl) trivial rfl ?_
   refine .nil ?_
   show Ev _ _ _ _ _
   refine .seq ?_
   refine .seq ?_
   refine .region ?_
   refine .q (op_move rfl) trivial rfl ?_
   refine .q (op_nilCheck rfl) trivial rfl ?_
   refine .q (op_fieldAddr (m := 33) Tryz.underlying44 rfl (by kernel_rfl) rfl) trivial rfl ?_
   refine .as (.ptr 500 0) rfl ?_
   refine .q (op_fieldAddr (m := 0) Tryz.underlying27 rfl (by kernel_rfl) rfl) trivial rfl ?_
   refine .as (.ptr 500 0) rfl ?_
   refine .q (op_load Tryz.underlying4 rfl rfl rfl rfl (dC_lt (by decide))) trivial rfl ?_
   refine .nil ?_
   show Ev _ _ _ _ _
   refine .cond_true rfl (rfl) ?_
   refine .region ?_
   refine .q (op_move rfl) trivial rfl ?_
   refine .q (op_addI rfl rfl ⟨by omega, by omega⟩) trivial rfl ?_
   refine .as (.i64 (((sizeP true (l.drop q)) : Nat) : Int)) (congrArg AV.i64 (by show _ = ((4 + (lenP (l.drop q)) + 16 : Nat) : Int); omega)) ?_
   refine .q (op_assign rfl) trivial rfl ?_
   refine .nil ?_
   show Ev _ _ _ _ _
   refine .seq ?_
   refine .seq ?_
   refine .region ?_
   refine .q (op_move rfl) trivial rfl ?_
   refine .q (op_nilCheck rfl) trivial rfl ?_
   refine .q (op_fieldAddr (m := 0) Tryz.underlying44 rfl (by kernel_rfl) rfl) trivial rfl ?_
   refine .as (.ptr 500 34) rfl ?_
   refine .q (op_load Tryz.underlying33 rfl rfl rfl rfl (dC_ltt (i := 0) (by simp))) trivial rfl ?_
   refine .q (op_len_sl Tryz.underlying33 rfl) trivial rfl ?_
   refine .q (op_move rfl) trivial rfl ?_
   refine .q (op_cmpI rfl rfl rfl) trivial rfl ?_
   refine .nil ?_
   show Ev _ _ _ _ _
   refine .cond rfl (fun hc49 => ?_) (fun hc49 => ?_)
   ·simp only [decide_eq_true_eq] at hc49
    refine .seq ?_
    refine .region ?_
    refine .q (op_assign rfl) trivial rfl ?_
    refine .q (op_assign rfl) trivial rfl ?_
    refine .q (op_assign rfl) trivial rfl ?_
    refine .asR (.err 269 (0) (offE eo (0))) (nil_err _ _) ?_
    refine .nil ?_
    show Ev _ _ _ _ _
    refine .ret ?_
    show RetOk _ _ _ _ _ _ _
    exact ret3v rfl (.inl rfl) rfl rfl rfl (congrArg (fun z : List UInt8 × Nat × Nat => AV.str z.1) (firstP_2 (b := true) (key := key) (n := n) (s := (l.drop q)) (by rw [List.length_drop]; omega) (by simpa using hc31) (by rw [List.length_drop]; omega)).symm) (congrArg (fun z : List UInt8 × Nat × Nat => AV.i64 ((z.2.1 : Nat) : Int)) (firstP_2 (b := true) (key := key) (n := n) (s := (l.drop q)) (by rw [List.length_drop]; omega) (by simpa using hc31) (by rw [List.length_drop]; omega)).symm) (erv_eq (congrArg (fun z : List UInt8 × Nat × Nat => z.2.2) (firstP_2 (b := true) (key := key) (n := n) (s := (l.drop q)) (by rw [List.length_drop]; omega) (by simpa using hc31) (by rw [List.length_drop]; omega))).symm) trivial
   ·simp only [decide_eq_false_iff_not] at hc49
    refine .skip ?_
    show Ev _ _ _ _ _
    refine .seq ?_
    have hbl := box_len (b := true) (s := (l.drop q)) (by rw [List.length_drop]; omega)
    refine .region ?_
    refine .q (op_move rfl) trivial rfl ?_
    refine .q (op_move rfl) trivial rfl ?_
    refine .q (op_nilCheck rfl) trivial rfl ?_
    refine .q (op_fieldAddr (m := 0) Tryz.underlying44 rfl (by kernel_rfl) rfl) trivial rfl ?_
    refine .as (.ptr 500 34) rfl ?_
    refine .q (op_load Tryz.underlying33 rfl rfl rfl rfl (dC_ltt (i := 0) (by simp))) trivial rfl ?_
    refine .q (op_move rfl) trivial rfl ?_
    refine .q (op_slice_sl Tryz.underlying33 inf5.sz rfl (bnd_some rfl (l := 4) rfl) (bnd_some rfl (l := (sizeP true (l.drop q))) rfl) (by omega) (by omega)) trivial rfl ?_
    refine .q (op_bytes_str Tryz.underlying33 Tryz.underlying5 Tryz.underlying9 rfl rfl rfl (by omega)) trivial rfl ?_
    refine .as (.str (boxP true (l.drop q))) (congrArg AV.str (by unfold boxP; rw [List.drop_drop, Nat.mul_one])) ?_
    refine .q (op_move rfl) trivial rfl ?_
    refine .q (op_call (U := []) [(500, 500), (501, 501)] [] (opened_t e key hk n q k (boxP true (l.drop q)) ((l.drop q).take 4) (by rw [hbl]; omega) (by rw [List.length_take]; omega) (by omega) eo) Tryz.func76 (by kernel_rfl) rfl rfl rfl (⟨⟨_, rfl, rfl, rfl⟩, ⟨_, rfl, rfl, rfl⟩, ⟨_, rfl, rfl, rfl⟩, trivial⟩) (⟨⟨_, _, rfl, rfl, rfl, rfl, (fun h => by cases h), rfl⟩, ⟨_, _, rfl, rfl, rfl, rfl, (fun h => by cases h), rfl⟩, ⟨_, _, rfl, rfl, rfl, rfl, (fun h => by cases h), rfl⟩, trivial⟩) (trivial) (⟨(fun h => by cases h), (fun h => by cases h), (fun h => by cases h), trivial⟩) rfl) trivial rfl ?_
    refine .q (op_move rfl) trivial rfl ?_
    refine .q (op_extract rfl rfl) trivial rfl ?_
    refine .q (op_extract rfl rfl) trivial rfl ?_
    refine .q (op_assign rfl) trivial rfl ?_
    refine .q (op_assign rfl) trivial rfl ?_
    refine .nil ?_
    show Ev _ _ _ _ _
    refine .seq ?_
    refine .seq ?_
    refine .region ?_
    refine .q (op_move rfl) trivial rfl ?_
    refine .q (op_eqErrNil (e := (openP true key n (boxP true (l.drop q)) ((l.drop q).take 4)).2) Tryz.underlying36 rfl rfl) trivial rfl ?_
    refine .nil ?_
    show Ev _ _ _ _ _
    refine .cond rfl (fun hc64 => ?_) (fun hc64 => ?_)
    ·simp only [bne_iff_ne, ne_eq] at hc64
     refine .seq ?_
     refine .region ?_
     refine .q (op_move rfl) trivial rfl ?_
     refine .q (op_assign rfl) trivial rfl ?_
     refine .q (op_assign rfl) trivial rfl ?_
     refine .q (op_assign rfl) trivial rfl ?_
     refine .nil ?_
     show Ev _ _ _ _ _
     refine .ret ?_
     show RetOk _ _ _ _ _ _ _
     exact ret3v rfl (.inl rfl) rfl rfl rfl (congrArg (fun z : List UInt8 × Nat × Nat => AV.str z.1) (firstP_3 (b := true) (key := key) (n := n) (s := (l.drop q)) (by rw [List.length_drop]; omega) hb0 (by rw [List.length_drop]; omega) hc64).symm) (congrArg (fun z : List UInt8 × Nat × Nat => AV.i64 ((z.2.1 : Nat) : Int)) (firstP_3 (b := true) (key := key) (n := n) (s := (l.drop q)) (by rw [List.length_drop]; omega) hb0 (by rw [List.length_drop]; omega) hc64).symm) (erv_eq (congrArg (fun z : List UInt8 × Nat × Nat => z.2.2) (firstP_3 (b := true) (key := key) (n := n) (s := (l.drop q)) (by rw [List.length_drop]; omega) hb0 (by rw [List.length_drop]; omega) hc64)).symm) trivial
    ·simp only [bne_eq_false_iff_eq] at hc64
     refine .skip ?_
     show Ev _ _ _ _ _
     refine .seq ?_
     refine .region ?_
     refine .q (op_move rfl) trivial rfl ?_
     refine .q (op_call (U := []) [] [] (unpad_ev (openP true key n (boxP true (l.drop q)) ((l.drop q).take 4)).1 (by have h9 := open_len hbl hc64; omega) (by have h9 := open_len hbl hc64; omega) eo) Tryz.func77 (by kernel_rfl) rfl rfl rfl (⟨⟨_, rfl, rfl, rfl⟩, trivial⟩) (⟨⟨_, _, rfl, rfl, rfl, rfl, (fun h => by cases h), rfl⟩, trivial⟩) (trivial) (⟨(fun h => by cases h), trivial⟩) rfl) trivial rfl ?_
     refine .q (op_move rfl) trivial rfl ?_
     refine .q (op_extract rfl rfl) trivial rfl ?_
     refine .q (op_extract rfl rfl) trivial rfl ?_
     refine .q (op_assign rfl) trivial rfl ?_
     refine .q (op_assign rfl) trivial rfl ?_
     refine .nil ?_
     show Ev _ _ _ _ _
     refine .seq ?_
     refine .region ?_
     refine .q (op_move rfl) trivial rfl ?_
     refine .q (op_move rfl) trivial rfl ?_
     refine .q (op_move rfl) trivial rfl ?_
     refine .q (op_assign rfl) trivial rfl ?_
     refine .q (op_assign rfl) trivial rfl ?_
     refine .q (op_assign rfl) trivial rfl ?_
     refine .nil ?_
     show Ev _ _ _ _ _
     refine .ret ?_
     show RetOk _ _ _ _ _ _ _
     exact ret3v rfl (.inl rfl) rfl rfl rfl (congrArg (fun z : List UInt8 × Nat × Nat => AV.str z.1) (firstP_4 (b := true) (key := key) (n := n) (s := (l.drop q)) (by rw [List.length_drop]; omega) hb0 (by rw [List.length_drop]; omega) hc64).symm) (congrArg (fun z : List UInt8 × Nat × Nat => AV.i64 ((z.2.1 : Nat) : Int)) (firstP_4 (b := true) (key := key) (n := n) (s := (l.drop q)) (by rw [List.length_drop]; omega) hb0 (by rw [List.length_drop]; omega) hc64).symm) (erv_eq (congrArg (fun z : List UInt8 × Nat × Nat => z.2.2) (firstP_4 (b := true) (key := key) (n := n) (s := (l.drop q)) (by rw [List.length_drop]; omega) hb0 (by rw [List.length_drop]; omega) hc64)).symm) trivial
end Go.Proofs.YtdmlpblaelfdmaaGreatDoor
namespace Go.Proofs.YtdmlpblaelfdmaaGreatDoor
open Go.RowKit
set_option maxRecDepth 100000 in
theorem next_none_t (e : Nat) (key : List UInt8) (hk : key.length = 32) (n : UInt64) (q k : Nat) (l : List UInt8) (hq : q + k = l.length) (hl : l.length ≤ 1000000) (hE : (firstP true key n (l.drop q)).2.2 = 0) (h0 : (firstP true key n (l.drop q)).2.1 = 0) (eo : Nat → Nat × Nat) : Meets Tryz.prog 21 [.ptr 500 0] [(500, some ⟨dC true key n ([.sl 501 (q) (k) 1, .err 269 (0) (offE eo (0))]), 44, false⟩), (501, some ⟨.aggB l, 5, false⟩), (22, some ⟨.aggI qsTab, e, false⟩), (0, some ⟨.agg [.err 269 (2) (offE eo (2))], errT, false⟩), (3, some ⟨.agg [.err 269 (3) (offE eo (3))], errT, false⟩), (1, some ⟨.agg [.err 269 (4) (offE eo (4))], errT, false⟩), (4, some ⟨.agg [.err 269 (5) (offE eo (5))], errT, false⟩)] (.tup [.str [], .bool false, .err 269 (0) (offE eo (0))]) [] := by
 refine meets_of_ev (nt := 58) Tryz.func21 rfl rfl (Nat.le_of_ble_eq_true rfl) ?_
 refine .seq ?_
 refine .region ?_
 refine .q (op_assign rfl) trivial rfl ?_
 refine .q (op_assign rfl) trivial rfl ?_
 refine .q (op_assign rfl) trivial rfl ?_
 refine .nil ?_
 show Ev _ _ _ _ _
 refine .seq ?_
 refine .seq ?_
 refine .region ?_
 refine .q (op_move rfl) trivial rfl ?_
 refine .q (op_nilCheck rfl) trivial rfl ?_
 refine .q (op_fieldAddr (m := 0) Tryz.underlying44 rfl (by kernel_rfl) rfl) trivial rfl ?_
 refine .as (.ptr 500 35) rfl ?_
 refine .q (op_load Tryz.underlying36 rfl rfl rfl rfl (dC_ltt (i := 1) (by simp))) trivial rfl ?_
 refine .q (op_eqErrNil (e := 0) Tryz.underlying36 rfl rfl) trivial rfl ?_
 refine .nil ?_
 show Ev _ _ _ _ _
 refine .cond_false rfl (rfl) ?_
 refine .skip ?_
 show Ev _ _ _ _ _
 refine .seq ?_
 refine .region ?_
 refine .q (op_move rfl) trivial rfl ?_
 refine .q (op_call (U := []) [(500, 500), (501, 501)] [] (first_t e key hk n q k l hq hl eo) Tryz.func45 (by kernel_rfl) rfl rfl rfl (⟨⟨_, rfl, rfl, rfl⟩, trivial⟩) (⟨⟨_, _, rfl, rfl, rfl, rfl, (fun h => by cases h), rfl⟩, ⟨_, _, rfl, rfl, rfl, rfl, (fun h => by cases h), rfl⟩, ⟨_, _, rfl, rfl, rfl, rfl, (fun h => by cases h), rfl⟩, ⟨_, _, rfl, rfl, rfl, rfl, (fun h => by cases h), rfl⟩, ⟨_, _, rfl, rfl, rfl, rfl, (fun h => by cases h), rfl⟩, ⟨_, _, rfl, rfl, rfl, rfl, (fun h => by cases h), rfl⟩, ⟨_, _, rfl, rfl, rfl, rfl, (fun h => by cases h), rfl⟩, trivial⟩) (trivial) (⟨(fun h => by cases h), (fun h => by cases h), (fun h => by cases h), (fun h => by cases h), (fun h => by cases h), (fun h => by cases h), (fun h => by cases h), trivial⟩) rfl) trivial rfl ?_
 refine .q (op_move rfl) trivial rfl ?_
 refine .q (op_extract rfl rfl) trivial rfl ?_
 refine .q (op_extract rfl rfl) trivial rfl ?_
 refine .q (op_extract rfl rfl) trivial rfl ?_
 refine .q (op_assign rfl) trivial rfl ?_
 refine .q (op_assign rfl) trivial rfl ?_
 refine .q (op_assign rfl) trivial rfl ?_
 refine .nil ?_
 show Ev _ _ _ _ _
 refine .seq ?_
 refine .seq ?_
 refine .region ?_
 refine .q (op_move rfl) trivial rfl ?_
 refine .q (op_eqErrNil (e := (firstP true key n (l.drop q)).2.2) Tryz.underlying36 rfl rfl) trivial rfl ?_
 refine .nil ?_
 show Ev _ _ _ _ _
 refine .cond_false rfl (by rw [hE]; rfl) ?_
 refine .skip ?_
 show Ev _ _ _ _ _
 refine .seq ?_
 refine .seq ?_
 refine .region ?_
 refine .q (op_move rfl) trivial rfl ?_
 refine .q (op_cmpI rfl rfl rfl) trivial rfl ?_
 refine .nil ?_
 show Ev _ _ _ _ _
 refine .cond_true rfl (by rw [h0]; rfl) ?_
 refine .seq ?_
 refine .region ?_
 refine .q (op_assign rfl) trivial rfl ?_
 refine .q (op_assign rfl) trivial rfl ?_
 refine .q (op_assign rfl) trivial rfl ?_
 refine .asR (.err 269 (0) (offE eo (0))) (nil_err _ _) ?_
 refine .nil ?_
 show Ev _ _ _ _ _
 refine .ret ?_
 show RetOk _ _ _ _ _ _ _
 exact ret3v rfl (.inl rfl) rfl rfl rfl (rfl) (rfl) (rfl) trivial
set_option maxRecDepth 100000 in
theorem next_ok_t (e : Nat) (key : List UInt8) (hk : key.length = 32) (n : UInt64) (q k : Nat) (l : List UInt8) (hq : q + k = l.length) (hl : l.length ≤ 1000000) (hE : (firstP true key n (l.drop q)).2.2 = 0) (h0 : (firstP true key n (l.drop q)).2.1 ≠ 0) (eo : Nat → Nat × Nat) : Meets Tryz.prog 21 [.ptr 500 0] [(500, some ⟨dC true key n ([.sl 501 (q) (k) 1, .err 269 (0) (offE eo (0))]), 44, true⟩), (501, some ⟨.aggB l, 5, false⟩), (22, some ⟨.aggI qsTab, e, false⟩), (0, some ⟨.agg [.err 269 (2) (offE eo (2))], errT, false⟩), (3, some ⟨.agg [.err 269 (3) (offE eo (3))], errT, false⟩), (1, some ⟨.agg [.err 269 (4) (offE eo (4))], errT, false⟩), (4, some ⟨.agg [.err 269 (5) (offE eo (5))], errT, false⟩)] (.tup [.str (firstP true key n (l.drop q)).1, .bool true, .err 269 (0) (offE eo (0))]) [(500, some ⟨dC true key (n + 1) ([.sl 501 (q + (firstP true key n (l.drop q)).2.1) (k - (firstP true key n (l.drop q)).2.1) 1, .err 269 (0) (offE eo (0))]), 44, true⟩)] := by
 have hle : (firstP true key n (l.drop q)).2.1 ≤ k := by have h9 := first_le true key n (l.drop q); rw [List.length_drop] at h9; omega
 refine meets_of_ev (nt := 58) Tryz.func21 rfl rfl (Nat.le_of_ble_eq_true rfl) ?_
 refine .seq ?_
 refine .region ?_
 refine .q (op_assign rfl) trivial rfl ?_
 refine .q (op_assign rfl) trivial rfl ?_
 refine .q (op_assign rfl) trivial rfl ?_
 refine .nil ?_
 show Ev _ _ _ _ _
 refine .seq ?_
 refine .seq ?_
 refine .region ?_
 refine .q (op_move rfl) trivial rfl ?_
 refine .q (op_nilCheck rfl) trivial rfl ?_
 refine .q (op_fieldAddr (m := 0) Tryz.underlying44 rfl (by kernel_rfl) rfl) trivial rfl ?_
 refine .as (.ptr 500 35) rfl ?_
 refine .q (op_load Tryz.underlying36 rfl rfl rfl rfl (dC_ltt (i := 1) (by simp))) trivial rfl ?_
 refine .q (op_eqErrNil (e := 0) Tryz.underlying36 rfl rfl) trivial rfl ?_
 refine .nil ?_
 show Ev _ _ _ _ _
 refine .cond_false rfl (rfl) ?_
 refine .skip ?_
 show Ev _ _ _ _ _
 refine .seq ?_
 refine .region ?_
 refine .q (op_move rfl) trivial rfl ?_
 refine .q (op_call (U := []) [(500, 500), (501, 501)] [] (first_t e key hk n q k l hq hl eo) Tryz.func45 (by kernel_rfl) rfl rfl rfl (⟨⟨_, rfl, rfl, rfl⟩, trivial⟩) (⟨⟨_, _, rfl, rfl, rfl, rfl, (fun h => by cases h), rfl⟩, ⟨_, _, rfl, rfl, rfl, rfl, (fun h => by cases h), rfl⟩, ⟨_, _, rfl, rfl, rfl, rfl, (fun h => by cases h), rfl⟩, ⟨_, _, rfl, rfl, rfl, rfl, (fun h => by cases h), rfl⟩, ⟨_, _, rfl, rfl, rfl, rfl, (fun h => by cases h), rfl⟩, ⟨_, _, rfl, rfl, rfl, rfl, (fun h => by cases h), rfl⟩, ⟨_, _, rfl, rfl, rfl, rfl, (fun h => by cases h), rfl⟩, trivial⟩) (trivial) (⟨(fun h => by cases h), (fun h => by cases h), (fun h => by cases h), (fun h => by cases h), (fun h => by cases h), (fun h => by cases h), (fun h => by cases h), trivial⟩) rfl) trivial rfl ?_
 refine .q (op_move rfl) trivial rfl ?_
 refine .q (op_extract rfl rfl) trivial rfl ?_
 refine .q (op_extract rfl rfl) trivial rfl ?_
 refine .q (op_extract rfl rfl) trivial rfl ?_
 refine .q (op_assign rfl) trivial rfl ?_
 refine .q (op_assign rfl) trivial rfl ?_
 refine .q (op_assign rfl) trivial rfl ?_
 refine .nil ?_
 show Ev _ _ _ _ _
 refine .seq ?_
 refine .seq ?_
 refine .region ?_
 refine .q (op_move rfl) trivial rfl ?_
 refine .q (op_eqErrNil (e := (firstP true key n (l.drop q)).2.2) Tryz.underlying36 rfl rfl) trivial rfl ?_
 refine .nil ?_
 show Ev _ _ _ _ _
 refine .cond_false rfl (by rw [hE]; rfl) ?_
 refine .skip ?_
 show Ev _ _ _ _ _
 refine .seq ?_
 refine .seq ?_
 refine .region ?_
 refine .q (op_move rfl) trivial rfl ?_
 refine .q (op_cmpI rfl rfl rfl) trivial rfl ?_
 refine .nil ?_
 show Ev _ _ _ _ _
 refine .cond_false rfl (decide_eq_false (by omega)) ?_
 refine .skip ?_
 show Ev _ _ _ _ _
 refine .seq ?_
 refine .region ?_
 refine .q (op_move rfl) trivial rfl ?_
 refine .q (op_move rfl) trivial rfl ?_
 refine .q (op_nilCheck rfl) trivial rfl ?_
 refine .q (op_fieldAddr (m := 0) Tryz.underlying44 rfl (by kernel_rfl) rfl) trivial rfl ?_
 refine .as (.ptr 500 34) rfl ?_
 refine .q (op_load Tryz.underlying33 rfl rfl rfl rfl (dC_ltt (i := 0) (by simp))) trivial rfl ?_
 refine .q (op_move rfl) trivial rfl ?_
 refine .q (op_slice_sl Tryz.underlying33 inf5.sz rfl (bnd_some rfl (l := (firstP true key n (l.drop q)).2.1) rfl) rfl (by first | exact hle | omega) (by first | exact hle | omega)) trivial rfl ?_
 refine .as (.sl 501 (q + (firstP true key n (l.drop q)).2.1) (k - (firstP true key n (l.drop q)).2.1) 1) (by rw [Nat.mul_one]) ?_
 refine .q (op_nilCheck rfl) trivial rfl ?_
 refine .q (op_fieldAddr (m := 0) Tryz.underlying44 rfl (by kernel_rfl) rfl) trivial rfl ?_
 refine .as (.ptr 500 34) rfl ?_
 refine .w (op_store (c' := dC true key n [.sl 501 (q + (firstP true key n (l.drop q)).2.1) (k - (firstP true key n (l.drop q)).2.1) 1, .err 269 (0) (offE eo (0))]) rfl rfl rfl rfl rfl rfl (dC_ltt (i := 0) (by simp))) trivial rfl ?_
 refine .nil ?_
 show Ev _ _ _ _ _
 refine .seq ?_
 refine .region ?_
 refine .q (op_move rfl) trivial rfl ?_
 refine .q (op_nilCheck rfl) trivial rfl ?_
 refine .q (op_fieldAddr (m := 33) Tryz.underlying44 rfl (by kernel_rfl) rfl) trivial rfl ?_
 refine .as (.ptr 500 0) rfl ?_
 refine .q (op_fieldAddr (m := 0) Tryz.underlying27 rfl (by kernel_rfl) rfl) trivial rfl ?_
 refine .as (.ptr 500 33) rfl ?_
 refine .q (op_load Tryz.underlying25 rfl rfl rfl rfl (dC_lt (by decide))) trivial rfl ?_
 refine .q (op_bin64 rfl rfl rfl) trivial rfl ?_
 refine .q (op_nilCheck rfl) trivial rfl ?_
 refine .q (op_fieldAddr (m := 33) Tryz.underlying44 rfl (by kernel_rfl) rfl) trivial rfl ?_
 refine .as (.ptr 500 0) rfl ?_
 refine .q (op_fieldAddr (m := 0) Tryz.underlying27 rfl (by kernel_rfl) rfl) trivial rfl ?_
 refine .as (.ptr 500 33) rfl ?_
 refine .w (op_store (c' := dC true key (n + 1) [.sl 501 (q + (firstP true key n (l.drop q)).2.1) (k - (firstP true key n (l.drop q)).2.1) 1, .err 269 (0) (offE eo (0))]) rfl rfl rfl rfl rfl rfl (dC_lt (by decide))) trivial rfl ?_
 refine .nil ?_
 show Ev _ _ _ _ _
 refine .seq ?_
 refine .region ?_
 refine .q (op_move rfl) trivial rfl ?_
 refine .q (op_assign rfl) trivial rfl ?_
 refine .q (op_assign rfl) trivial rfl ?_
 refine .q (op_assign rfl) trivial rfl ?_
 refine .asR (.err 269 (0) (offE eo (0))) (nil_err _ _) ?_
 refine .nil ?_
 show Ev _ _ _ _ _
 refine .ret ?_
 show RetOk _ _ _ _ _ _ _
 exact ret3v rfl (.inl rfl) rfl rfl rfl (rfl) (rfl) (rfl) ⟨rfl, trivial⟩
end Go.Proofs.YtdmlpblaelfdmaaGreatDoor
