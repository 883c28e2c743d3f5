/-
  Texts of this claim.
-/
import Derived.Test.YtidjfinookikcaaDoorGQS
import Derived.Test.YtidjfinookikcaaDoorGQT
namespace Go.Proofs.YtidjfinookikcaaDoor
open Go.RowKit
set_option maxRecDepth 100000 in
theorem popen_end (key nonce s extra : List UInt8) (h16 : s.length < 16) (eo : Nat → Nat × Nat) : Meets Tryd.prog 46 [.aggB key, .aggB nonce, .str s, .str extra] [(0, some ⟨.agg [.err 131 (2) (offE eo (2))], errT, false⟩)] (.tup [.str [], .err 131 (2) (offE eo (2))]) [] := by
 refine meets_of_ev (nt := 42) Tryd.func46 rfl rfl (Nat.le_of_ble_eq_true rfl) ?_
 refine .seq ?_
 refine .region ?_
 refine .a (op_boxRow rfl rfl) trivial rfl ?_
 refine .a (op_boxRow rfl rfl) trivial rfl ?_
 refine .q (op_assign rfl) trivial rfl ?_
 refine .q (op_assign rfl) trivial rfl ?_
 refine .nil ?_
 show Ev _ _ _ _ _
 refine .seq ?_
 refine .seq ?_
 refine .region ?_
 refine .q (op_move rfl) trivial rfl ?_
 refine .q (op_len_str Tryd.underlying9 rfl) trivial rfl ?_
 refine .q (op_cmpI rfl rfl rfl) trivial rfl ?_
 refine .nil ?_
 show Ev _ _ _ _ _
 refine .cond_true rfl (decide_eq_true (by omega)) ?_
 refine .seq ?_
 refine .drawn [[], [], [0, 1]] [0] [] (by kernel_rfl) (by kernel_rfl) rfl ?_
 show DK _ [0, 1, 2] _ _ _
 refine .q rfl (op_load Tryd.underlying33 rfl rfl rfl rfl (by first | omega | (simp only [AV.len]; omega) | (simp only [AV.len]; omega) | assumption | (simp [AV.len]; done))) trivial ?_
 refine .q rfl (op_assign rfl) trivial ?_
 refine .q rfl (op_assign rfl) trivial ?_
 refine .nil ?_
 show Ev _ _ _ _ _
 refine .ret ?_
 show RetOk _ _ _ _ _ _ _
 exact ret2v rfl (.inl rfl) rfl rfl rfl rfl trivial
set_option maxRecDepth 100000 in
theorem popen_mac (e : Nat) (key nonce s extra : List UInt8) (hk : key.length = 32) (hn : nonce.length = 12) (hS : s.length ≤ 1000000) (hE : extra.length ≤ 1000000) (h16 : ¬ s.length < 16) (hTag : ¬ s.drop (s.length - 16) = (tagL key nonce (s.take (s.length - 16)) extra)) (eo : Nat → Nat × Nat) : Meets Tryd.prog 46 [.aggB key, .aggB nonce, .str s, .str extra] [(3, some ⟨.aggI qsTab, e, false⟩), (4, some ⟨.agg [.err 131 (5) (offE eo (5))], errT, false⟩)] (.tup [.str [], .err 131 (5) (offE eo (5))]) [] := by
 refine meets_of_ev (nt := 42) Tryd.func46 rfl rfl (Nat.le_of_ble_eq_true rfl) ?_
 refine .seq ?_
 refine .region ?_
 refine .a (op_boxRow rfl rfl) trivial rfl ?_
 refine .a (op_boxRow rfl rfl) trivial rfl ?_
 refine .q (op_assign rfl) trivial rfl ?_
 refine .q (op_assign rfl) trivial rfl ?_
 refine .nil ?_
 show Ev _ _ _ _ _
 refine .seq ?_
 refine .seq ?_
 refine .region ?_
 refine .q (op_move rfl) trivial rfl ?_
 refine .q (op_len_str Tryd.underlying9 rfl) trivial rfl ?_
 refine .q (op_cmpI rfl rfl rfl) trivial rfl ?_
 refine .nil ?_
 show Ev _ _ _ _ _
 refine .cond_false rfl (decide_eq_false (by omega)) ?_
 refine .skip ?_
 show Ev _ _ _ _ _
 refine .seq ?_
 refine .drawn [[], [], [1], [1, 2], [0, 1, 2, 3], [], [], [6], [6, 7], [5, 6, 7, 8], [0, 1, 2, 3, 4], [0, 1, 2, 3, 4, 5, 6, 7, 8, 9, 10]] [] [] (by kernel_rfl) (by kernel_rfl) rfl ?_
 show DK _ [0, 1, 2, 3, 4, 5, 6, 7, 8, 9, 10, 11] _ _ _
 refine .q rfl (op_move rfl) trivial ?_
 refine .q rfl (op_move rfl) trivial ?_
 refine .q rfl (op_len_str Tryd.underlying9 rfl) trivial ?_
 refine .q rfl (op_subI rfl rfl ⟨by omega, by omega⟩) trivial ?_
 refine .q rfl (ap_slice_str_hi Tryd.underlying9 rfl (bnd_some rfl (l := s.length - 16) (by omega)) (by omega)) trivial ?_
 refine .q rfl (op_move rfl) trivial ?_
 refine .q rfl (op_move rfl) trivial ?_
 refine .q rfl (op_len_str Tryd.underlying9 rfl) trivial ?_
 refine .q rfl (op_subI rfl rfl ⟨by omega, by omega⟩) trivial ?_
 refine .q rfl (ap_slice_str_lo Tryd.underlying9 rfl (bnd_some rfl (l := s.length - 16) (by omega)) (by omega)) trivial ?_
 refine .q rfl (op_assign rfl) trivial ?_
 refine .q rfl (op_assign rfl) trivial ?_
 refine .nil ?_
 show Ev _ _ _ _ _
 refine .seq ?_
 refine .region ?_
 refine .q (op_loadRow Tryd.underlying25 rfl sz25 rfl rfl rfl (hk)) trivial rfl ?_
 refine .q (op_loadRow Tryd.underlying61 rfl sz61 rfl rfl rfl (hn)) trivial rfl ?_
 refine .q (op_move rfl) trivial rfl ?_
 refine .q (op_move rfl) trivial rfl ?_
 refine .q (op_call (U := []) [] [] (tagOf_ev e key nonce (s.take (s.length - 16)) extra hk hn (by simp; omega) hE) Tryd.func28 (by kernel_rfl) rfl rfl rfl (⟨⟨_, rfl, rfl, rfl⟩, ⟨_, rfl, rfl, rfl⟩, ⟨_, rfl, rfl, rfl⟩, ⟨_, rfl, rfl, rfl⟩, trivial⟩) (⟨⟨_, _, rfl, rfl, rfl, rfl, (fun h => by cases h), rfl⟩, trivial⟩) (trivial) (⟨(fun h => by cases h), trivial⟩) rfl) trivial rfl ?_
 refine .as (.aggB (tagL key nonce (s.take (s.length - 16)) extra)) rfl ?_
 refine .a (op_allocRow zero71 rel_zero71 rfl) trivial rfl ?_
 refine .w (op_storeRow sz71 rfl rfl rfl rfl rfl (by first | rfl | simp [AV.len, length_tagL]) (by first | rfl | simp [AV.len, length_tagL])) trivial rfl ?_
 refine .nil ?_
 show Ev _ _ _ _ _
 refine .seq ?_
 refine .seq ?_
 refine .region ?_
 refine .q (op_move rfl) trivial rfl ?_
 refine .q (ap_slice_arr_hi Tryd.underlying71 inf5.sz rfl rfl (by first | omega | (simp [AV.len, length_tagL]; done)) (by decide) rfl (by first | omega | (simp [AV.len, length_tagL]; done))) trivial rfl ?_
 refine .q (op_bytes_str Tryd.underlying31 Tryd.underlying5 Tryd.underlying9 rfl rfl rfl (by simp [length_tagL])) trivial rfl ?_
 refine .as (.str (tagL key nonce (s.take (s.length - 16)) extra)) (by rw [List.drop_zero, List.take_of_length_le (by simp [length_tagL])]) ?_
 refine .q (op_call (U := []) [] [] (same_ev _ _ (by simp; omega) (by simp [length_tagL])) Tryd.func65 (by kernel_rfl) rfl rfl rfl (⟨⟨_, rfl, rfl, rfl⟩, ⟨_, rfl, rfl, rfl⟩, trivial⟩) (trivial) (trivial) (trivial) rfl) trivial rfl ?_
 refine .q (op_notB rfl) trivial rfl ?_
 refine .nil ?_
 show Ev _ _ _ _ _
 refine .cond_true rfl (by rw [beq_eq_false_iff_ne.2 hTag]; rfl) ?_
 refine .seq ?_
 refine .drawn [[], [], [0, 1]] [0] [] (by kernel_rfl) (by kernel_rfl) rfl ?_
 show DK _ [0, 1, 2] _ _ _
 refine .q rfl (op_load Tryd.underlying33 rfl rfl rfl rfl (by first | omega | (simp only [AV.len]; omega) | (simp only [AV.len]; omega) | assumption | (simp [AV.len]; done))) trivial ?_
 refine .q rfl (op_assign rfl) trivial ?_
 refine .q rfl (op_assign rfl) trivial ?_
 refine .nil ?_
 show Ev _ _ _ _ _
 refine .ret ?_
 show RetOk _ _ _ _ _ _ _
 exact ret2v rfl (.inl rfl) rfl rfl rfl rfl trivial
set_option maxRecDepth 100000 in
theorem popen_ok (e : Nat) (key nonce s extra : List UInt8) (hk : key.length = 32) (hn : nonce.length = 12) (hS : s.length ≤ 1000000) (hE : extra.length ≤ 1000000) (h16 : ¬ s.length < 16) (hTag : s.drop (s.length - 16) = (tagL key nonce (s.take (s.length - 16)) extra)) (eo : Nat → Nat × Nat) : Meets Tryd.prog 46 [.aggB key, .aggB nonce, .str s, .str extra] [(3, some ⟨.aggI qsTab, e, false⟩)] (.tup [.str (cXor key (UInt32.ofNat 1) nonce (s.take (s.length - 16))), .err 131 (0) (offE eo (0))]) [] := by
 refine meets_of_ev (nt := 42) Tryd.func46 rfl rfl (Nat.le_of_ble_eq_true rfl) ?_
 refine .seq ?_
 refine .region ?_
 refine .a (op_boxRow rfl rfl) trivial rfl ?_
 refine .a (op_boxRow rfl rfl) trivial rfl ?_
 refine .q (op_assign rfl) trivial rfl ?_
 refine .q (op_assign rfl) trivial rfl ?_
 refine .nil ?_
 show Ev _ _ _ _ _
 refine .seq ?_
 refine .seq ?_
 refine .region ?_
 refine .q (op_move rfl) trivial rfl ?_
 refine .q (op_len_str Tryd.underlying9 rfl) trivial rfl ?_
 refine .q (op_cmpI rfl rfl rfl) trivial rfl ?_
 refine .nil ?_
 show Ev _ _ _ _ _
 refine .cond_false rfl (decide_eq_false (by omega)) ?_
 refine .skip ?_
 show Ev _ _ _ _ _
 refine .seq ?_
 refine .drawn [[], [], [1], [1, 2], [0, 1, 2, 3], [], [], [6], [6, 7], [5, 6, 7, 8], [0, 1, 2, 3, 4], [0, 1, 2, 3, 4, 5, 6, 7, 8, 9, 10]] [] [] (by kernel_rfl) (by kernel_rfl) rfl ?_
 show DK _ [0, 1, 2, 3, 4, 5, 6, 7, 8, 9, 10, 11] _ _ _
 refine .q rfl (op_move rfl) trivial ?_
 refine .q rfl (op_move rfl) trivial ?_
 refine .q rfl (op_len_str Tryd.underlying9 rfl) trivial ?_
 refine .q rfl (op_subI rfl rfl ⟨by omega, by omega⟩) trivial ?_
 refine .q rfl (ap_slice_str_hi Tryd.underlying9 rfl (bnd_some rfl (l := s.length - 16) (by omega)) (by omega)) trivial ?_
 refine .q rfl (op_move rfl) trivial ?_
 refine .q rfl (op_move rfl) trivial ?_
 refine .q rfl (op_len_str Tryd.underlying9 rfl) trivial ?_
 refine .q rfl (op_subI rfl rfl ⟨by omega, by omega⟩) trivial ?_
 refine .q rfl (ap_slice_str_lo Tryd.underlying9 rfl (bnd_some rfl (l := s.length - 16) (by omega)) (by omega)) trivial ?_
 refine .q rfl (op_assign rfl) trivial ?_
 refine .q rfl (op_assign rfl) trivial ?_
 refine .nil ?_
 show Ev _ _ _ _ _
 refine .seq ?_
 refine .region ?_
 refine .q (op_loadRow Tryd.underlying25 rfl sz25 rfl rfl rfl (hk)) trivial rfl ?_
 refine .q (op_loadRow Tryd.underlying61 rfl sz61 rfl rfl rfl (hn)) trivial rfl ?_
 refine .q (op_move rfl) trivial rfl ?_
 refine .q (op_move rfl) trivial rfl ?_
 refine .q (op_call (U := []) [] [] (tagOf_ev e key nonce (s.take (s.length - 16)) extra hk hn (by simp; omega) hE) Tryd.func28 (by kernel_rfl) rfl rfl rfl (⟨⟨_, rfl, rfl, rfl⟩, ⟨_, rfl, rfl, rfl⟩, ⟨_, rfl, rfl, rfl⟩, ⟨_, rfl, rfl, rfl⟩, trivial⟩) (⟨⟨_, _, rfl, rfl, rfl, rfl, (fun h => by cases h), rfl⟩, trivial⟩) (trivial) (⟨(fun h => by cases h), trivial⟩) rfl) trivial rfl ?_
 refine .as (.aggB (tagL key nonce (s.take (s.length - 16)) extra)) rfl ?_
 refine .a (op_allocRow zero71 rel_zero71 rfl) trivial rfl ?_
 refine .w (op_storeRow sz71 rfl rfl rfl rfl rfl (by first | rfl | simp [AV.len, length_tagL]) (by first | rfl | simp [AV.len, length_tagL])) trivial rfl ?_
 refine .nil ?_
 show Ev _ _ _ _ _
 refine .seq ?_
 refine .seq ?_
 refine .region ?_
 refine .q (op_move rfl) trivial rfl ?_
 refine .q (ap_slice_arr_hi Tryd.underlying71 inf5.sz rfl rfl (by first | omega | (simp [AV.len, length_tagL]; done)) (by decide) rfl (by first | omega | (simp [AV.len, length_tagL]; done))) trivial rfl ?_
 refine .q (op_bytes_str Tryd.underlying31 Tryd.underlying5 Tryd.underlying9 rfl rfl rfl (by simp [length_tagL])) trivial rfl ?_
 refine .as (.str (tagL key nonce (s.take (s.length - 16)) extra)) (by rw [List.drop_zero, List.take_of_length_le (by simp [length_tagL])]) ?_
 refine .q (op_call (U := []) [] [] (same_ev _ _ (by simp; omega) (by simp [length_tagL])) Tryd.func65 (by kernel_rfl) rfl rfl rfl (⟨⟨_, rfl, rfl, rfl⟩, ⟨_, rfl, rfl, rfl⟩, trivial⟩) (trivial) (trivial) (trivial) rfl) trivial rfl ?_
 refine .q (op_notB rfl) trivial rfl ?_
 refine .nil ?_
 show Ev _ _ _ _ _
 refine .cond_false rfl (by simp [hTag]) ?_
 refine .skip ?_
 show Ev _ _ _ _ _
 refine .seq ?_
 refine .region ?_
 refine .q (op_loadRow Tryd.underlying25 rfl sz25 rfl rfl rfl (hk)) trivial rfl ?_
 refine .q (op_loadRow Tryd.underlying61 rfl sz61 rfl rfl rfl (hn)) trivial rfl ?_
 refine .q (op_move rfl) trivial rfl ?_
 refine .q (op_call (U := []) [] [] (cxor_ev e key nonce (s.take (s.length - 16)) (UInt32.ofNat 1) hk hn (by simp; omega)) Tryd.func27 (by kernel_rfl) rfl rfl rfl (⟨⟨_, rfl, rfl, rfl⟩, ⟨_, rfl, rfl, rfl⟩, ⟨_, rfl, rfl, rfl⟩, ⟨_, rfl, rfl, rfl⟩, trivial⟩) (⟨⟨_, _, rfl, rfl, rfl, rfl, (fun h => by cases h), rfl⟩, trivial⟩) (trivial) (⟨(fun h => by cases h), trivial⟩) rfl) trivial rfl ?_
 refine .as (.str (cXor key (UInt32.ofNat 1) nonce (s.take (s.length - 16)))) rfl ?_
 refine .q (op_assign rfl) trivial rfl ?_
 refine .q (op_assign rfl) trivial rfl ?_
 refine .asR (.err 131 (0) (offE eo (0))) (nil_err _ _) ?_
 refine .nil ?_
 show Ev _ _ _ _ _
 refine .ret ?_
 show RetOk _ _ _ _ _ _ _
 exact ret2v rfl (.inl rfl) rfl rfl rfl rfl trivial
end Go.Proofs.YtidjfinookikcaaDoor
namespace Go.Proofs.YtidjfinookikcaaDoor
open Go.RowKit
set_option maxRecDepth 100000 in
theorem check_t (key : List UInt8) (n : UInt64) (q k : Nat) (L : UInt32) (eo : Nat → Nat × Nat) : Meets Tryd.prog 32 [.ptr 500 0, .u32 L] [(500, some ⟨dC true key n ([.sl 501 (q) (k) 1, .err 131 (0) (offE eo (0))]), 35, false⟩), (2, some ⟨.agg [.err 131 (3) (offE eo (3))], errT, false⟩), (1, some ⟨.agg [.err 131 (4) (offE eo (4))], errT, false⟩)] (.err 131 (badN true L.toNat) (offE eo (badN true L.toNat))) [] := by
 have hLt := L.toNat_lt
 have hah := ahead_le true
 have e1 : (UInt32.ofNat 33024 < L) ↔ 33024 < L.toNat := UInt32.lt_iff_toNat_lt
 have e2 : (L < UInt32.ofNat 8) ↔ L.toNat < leastP true := UInt32.lt_iff_toNat_lt
 refine meets_of_ev (nt := 29) Tryd.func32 rfl rfl (Nat.le_of_ble_eq_true rfl) ?_
 refine .seq ?_
 refine .region ?_
 refine .q (op_assign rfl) trivial rfl ?_
 refine .nil ?_
 show Ev _ _ _ _ _
 refine .seq ?_
 refine .seq ?_
 refine .region ?_
 refine .q (op_move rfl) trivial rfl ?_
 refine .q (op_bin32 rfl rfl rfl) trivial rfl ?_
 refine .nil ?_
 show Ev _ _ _ _ _
 refine .cond rfl (fun hc7 => ?_) (fun hc7 => ?_)
 ·simp only [decide_eq_true_eq] at hc7
  refine .seq ?_
  refine .region ?_
  refine .q (op_load Tryd.underlying33 rfl rfl rfl rfl (by first | omega | (simp only [AV.len]; omega) | (simp only [AV.len]; omega) | assumption | (simp [AV.len]; done))) trivial rfl ?_
  refine .q (op_assign rfl) trivial rfl ?_
  refine .nil ?_
  show Ev _ _ _ _ _
  refine .ret ?_
  show RetOk _ _ _ _ _ _ _
  exact ret1v rfl (.inl rfl) rfl (by first | exact erv_eq (badN_4 (e1.1 hc7)).symm | exact erv_eq (badN_3 (fun h => hc7 (e1.2 h)) (.inl (e2.1 hg17))).symm | exact erv_eq (badN_3 (fun h => hc7 (e1.2 h)) (.inr (by omega))).symm | rfl) trivial
 ·simp only [decide_eq_false_iff_not] at hc7
  refine .skip ?_
  show Ev _ _ _ _ _
  refine .seq ?_
  refine .region ?_
  refine .q (op_assign rfl) trivial rfl ?_
  refine .nil ?_
  show Ev _ _ _ _ _
  refine .seq ?_
  refine .seq ?_
  refine .region ?_
  refine .q (op_move rfl) trivial rfl ?_
  refine .q (op_nilCheck rfl) trivial rfl ?_
  refine .q (op_fieldAddr (m := 33) Tryd.underlying35 rfl (by kernel_rfl) rfl) trivial rfl ?_
  refine .as (.ptr 500 0) rfl ?_
  refine .q (op_fieldAddr (m := 0) Tryd.underlying28 rfl (by kernel_rfl) rfl) trivial rfl ?_
  refine .as (.ptr 500 0) rfl ?_
  refine .q (op_load Tryd.underlying4 rfl rfl rfl rfl (dC_lt (by decide))) trivial rfl ?_
  refine .nil ?_
  show Ev _ _ _ _ _
  refine .cond_true rfl (rfl) ?_
  refine .region ?_
  refine .q (op_assign rfl) trivial rfl ?_
  refine .nil ?_
  show Ev _ _ _ _ _
  refine .seq ?_
  refine .seq ?_
  refine .region ?_
  refine .q (op_move rfl) trivial rfl ?_
  refine .q (op_move rfl) trivial rfl ?_
  refine .q (op_bin32 rfl rfl rfl) trivial rfl ?_
  refine .q (op_move rfl) trivial rfl ?_
  refine .split (fun hg17 => ?_) (fun hg17 => ?_)
  ·simp only [decide_eq_true_eq] at hg17
   refine .no ⟨_, rfl, rfl⟩ rfl ?_
   refine .no ⟨_, rfl, rfl⟩ rfl ?_
   refine .no ⟨_, rfl, rfl⟩ rfl ?_
   refine .no ⟨_, rfl, rfl⟩ rfl ?_
   refine .no ⟨_, rfl, rfl⟩ rfl ?_
   refine .no ⟨_, rfl, rfl⟩ rfl ?_
   refine .no ⟨_, rfl, rfl⟩ rfl ?_
   refine .no ⟨_, rfl, rfl⟩ rfl ?_
   refine .no ⟨_, rfl, rfl⟩ rfl ?_
   refine .q (op_pick_true rfl rfl rfl) trivial rfl ?_
   refine .nil ?_
   show Ev _ _ _ _ _
   refine .cond_true rfl rfl ?_
   refine .seq ?_
   refine .region ?_
   refine .q (op_load Tryd.underlying33 rfl rfl rfl rfl (by first | omega | (simp only [AV.len]; omega) | (simp only [AV.len]; omega) | assumption | (simp [AV.len]; done))) trivial rfl ?_
   refine .q (op_assign rfl) trivial rfl ?_
   refine .nil ?_
   show Ev _ _ _ _ _
   refine .ret ?_
   show RetOk _ _ _ _ _ _ _
   exact ret1v rfl (.inl rfl) rfl (by first | exact erv_eq (badN_4 (e1.1 hc7)).symm | exact erv_eq (badN_3 (fun h => hc7 (e1.2 h)) (.inl (e2.1 hg17))).symm | exact erv_eq (badN_3 (fun h => hc7 (e1.2 h)) (.inr (by omega))).symm | rfl) trivial
  ·simp only [decide_eq_false_iff_not] at hg17
   refine .q (op_move rfl) ⟨_, rfl, rfl⟩ rfl ?_
   refine .q (op_nilCheck rfl) ⟨_, rfl, rfl⟩ rfl ?_
   refine .q (op_fieldAddr (m := 33) Tryd.underlying35 rfl (by kernel_rfl) rfl) ⟨_, rfl, rfl⟩ rfl ?_
   refine .as (.ptr 500 0) rfl ?_
   refine .q (op_call (U := []) [(500, 500), (501, 501)] [] (padded_ev true key n [.sl 501 (q) (k) 1, .err 131 (0) (offE eo (0))] 35) Tryd.func21 (by kernel_rfl) rfl rfl rfl (⟨⟨_, rfl, rfl, rfl⟩, trivial⟩) (⟨⟨_, _, rfl, rfl, rfl, rfl, (fun h => by cases h), rfl⟩, trivial⟩) (trivial) (⟨(fun h => by cases h), trivial⟩) rfl) ⟨_, rfl, rfl⟩ rfl ?_
   refine .q (op_move rfl) ⟨_, rfl, rfl⟩ rfl ?_
   refine .q (op_conv Tryd.underlying58 Tryd.underlying3 rfl rfl) ⟨_, rfl, rfl⟩ rfl ?_
   refine .as (.i64 ((L.toNat : Nat) : Int)) rfl ?_
   refine .q (op_addI rfl rfl ⟨by omega, by omega⟩) ⟨_, rfl, rfl⟩ rfl ?_
   refine .q (op_remI rfl rfl ⟨by omega, by omega⟩) ⟨_, rfl, rfl⟩ rfl ?_
   refine .q (op_cmpI rfl rfl rfl) ⟨_, rfl, rfl⟩ rfl ?_
   refine .q (op_pick_false rfl rfl rfl) trivial rfl ?_
   refine .nil ?_
   show Ev _ _ _ _ _
   refine .cond rfl (fun hc27 => ?_) (fun hc27 => ?_)
   ·simp only [bne_iff_ne, ne_eq] at hc27
    refine .seq ?_
    refine .region ?_
    refine .q (op_load Tryd.underlying33 rfl rfl rfl rfl (by first | omega | (simp only [AV.len]; omega) | (simp only [AV.len]; omega) | assumption | (simp [AV.len]; done))) trivial rfl ?_
    refine .q (op_assign rfl) trivial rfl ?_
    refine .nil ?_
    show Ev _ _ _ _ _
    refine .ret ?_
    show RetOk _ _ _ _ _ _ _
    exact ret1v rfl (.inl rfl) rfl (by first | exact erv_eq (badN_4 (e1.1 hc7)).symm | exact erv_eq (badN_3 (fun h => hc7 (e1.2 h)) (.inl (e2.1 hg17))).symm | exact erv_eq (badN_3 (fun h => hc7 (e1.2 h)) (.inr (by omega))).symm | rfl) trivial
   ·simp only [bne_eq_false_iff_eq] at hc27
    refine .skip ?_
    show Ev _ _ _ _ _
    refine .seq ?_
    refine .region ?_
    refine .q (op_assign rfl) trivial rfl ?_
    refine .asR (.err 131 (badN true L.toNat) (offE eo (badN true L.toNat))) (by rw [badN_0 (b := true) (fun h => hc7 (e1.2 h)) (fun h => h.elim (fun h => hg17 (e2.2 h)) (fun h => h (by omega)))]; exact nil_err _ _) ?_
    refine .nil ?_
    show Ev _ _ _ _ _
    refine .ret ?_
    show RetOk _ _ _ _ _ _ _
    exact ret1v rfl (.inl rfl) rfl (by first | exact erv_eq (badN_4 (e1.1 hc7)).symm | exact erv_eq (badN_3 (fun h => hc7 (e1.2 h)) (.inl (e2.1 hg17))).symm | exact erv_eq (badN_3 (fun h => hc7 (e1.2 h)) (.inr (by omega))).symm | rfl) trivial
set_option maxRecDepth 100000 in
theorem opened_ok (e : Nat) (key : List UInt8) (hk : key.length = 32) (n : UInt64) (q k : Nat) (box head : List UInt8) (hB : box.length ≤ 1000000) (hH : head.length ≤ 1000000) (h16 : 16 ≤ box.length) (hTag : box.drop (box.length - 16) = (tagL key (nonceP n) (box.take (box.length - 16)) head)) (eo : Nat → Nat × Nat) : Meets Tryd.prog 33 [.ptr 500 0, .str box, .str head] [(500, some ⟨dC true key n ([.sl 501 (q) (k) 1, .err 131 (0) (offE eo (0))]), 35, false⟩), (3, some ⟨.aggI qsTab, e, false⟩), (4, some ⟨.agg [.err 131 (5) (offE eo (5))], errT, false⟩)] (.tup [.str (cXor key (UInt32.ofNat 1) (nonceP n) (box.take (box.length - 16))), .err 131 (0) (offE eo (0))]) [] := by
 refine meets_of_ev (nt := 29) Tryd.func33 rfl rfl (Nat.le_of_ble_eq_true rfl) ?_
 refine .seq ?_
 refine .region ?_
 refine .q (op_assign rfl) trivial rfl ?_
 refine .q (op_assign rfl) trivial rfl ?_
 refine .nil ?_
 show Ev _ _ _ _ _
 refine .seq ?_
 refine .seq ?_
 refine .region ?_
 refine .q (op_move rfl) trivial rfl ?_
 refine .q (op_nilCheck rfl) trivial rfl ?_
 refine .q (op_fieldAddr (m := 33) Tryd.underlying35 rfl (by kernel_rfl) rfl) trivial rfl ?_
 refine .as (.ptr 500 0) rfl ?_
 refine .q (op_fieldAddr (m := 0) Tryd.underlying28 rfl (by kernel_rfl) rfl) trivial rfl ?_
 refine .as (.ptr 500 0) rfl ?_
 refine .q (op_load Tryd.underlying4 rfl rfl rfl rfl (dC_lt (by decide))) trivial rfl ?_
 refine .q (op_notB rfl) trivial rfl ?_
 refine .nil ?_
 show Ev _ _ _ _ _
 refine .cond_false rfl (rfl) ?_
 refine .skip ?_
 show Ev _ _ _ _ _
 refine .seq ?_
 refine .drawn [[], [0], [0, 1], [0, 1, 2], [0, 1, 2, 3], [], [5], [5, 6], [5, 6, 7], [], [], [0, 1, 2, 3, 4, 5, 6, 7, 8, 9, 10], [0, 1, 2, 3, 4, 5, 6, 7, 8, 9, 10, 11], [0, 1, 2, 3, 4, 5, 6, 7, 8, 9, 10, 11], [0, 1, 2, 3, 4, 5, 6, 7, 8, 9, 10, 11, 12, 13], [0, 1, 2, 3, 4, 5, 6, 7, 8, 9, 10, 11, 12, 13, 14]] [4, 8, 11] [] (by kernel_rfl) (by kernel_rfl) rfl ?_
 show DK _ [0, 1, 2, 3, 4, 5, 6, 7, 8, 9, 10, 11, 12, 13, 14, 15] _ _ _
 refine .q rfl (op_move rfl) trivial ?_
 refine .q rfl (op_nilCheck rfl) trivial ?_
 refine .q rfl (op_fieldAddr (m := 33) Tryd.underlying35 rfl (by kernel_rfl) rfl) trivial ?_
 refine .as (.ptr 500 0) rfl ?_
 refine .q rfl (op_fieldAddr (m := 31) Tryd.underlying28 rfl (by kernel_rfl) rfl) trivial ?_
 refine .as (.ptr 500 1) rfl ?_
 refine .q rfl (op_loadPart (m := 32) (r := .aggB key) (cs := key.map .u8) Tryd.underlying25 rfl (by kernel_rfl) rfl rfl rfl (dC_keyL hk) (dC_key hk) (by rw [dC_len]; omega)) trivial ?_
 refine .q rfl (op_move rfl) trivial ?_
 refine .q rfl (op_nilCheck rfl) trivial ?_
 refine .q rfl (op_fieldAddr (m := 33) Tryd.underlying35 rfl (by kernel_rfl) rfl) trivial ?_
 refine .as (.ptr 500 0) rfl ?_
 refine .q rfl (op_call (U := []) [(500, 500), (501, 501)] [] (nonce_ev true key n [.sl 501 (q) (k) 1, .err 131 (0) (offE eo (0))] 35) Tryd.func18 (by kernel_rfl) rfl rfl rfl (⟨⟨_, rfl, rfl, rfl⟩, trivial⟩) (⟨⟨_, _, rfl, rfl, rfl, rfl, (fun h => by cases h), rfl⟩, trivial⟩) (trivial) (⟨(fun h => by cases h), trivial⟩) rfl) trivial ?_
 refine .q rfl (op_move rfl) trivial ?_
 refine .q rfl (op_move rfl) trivial ?_
 refine .q rfl (op_call (U := []) [] [] (popen_ok e key (nonceP n) box head hk (length_nonceP n) hB hH (by omega) hTag eo) Tryd.func46 (by kernel_rfl) rfl rfl rfl (⟨⟨_, rfl, rfl, rfl⟩, ⟨_, rfl, rfl, rfl⟩, ⟨_, rfl, rfl, rfl⟩, ⟨_, rfl, rfl, rfl⟩, trivial⟩) (⟨⟨_, _, rfl, rfl, rfl, rfl, (fun h => by cases h), rfl⟩, trivial⟩) (trivial) (⟨(fun h => by cases h), trivial⟩) rfl) trivial ?_
 refine .q rfl (op_extract rfl rfl) trivial ?_
 refine .q rfl (op_extract rfl rfl) trivial ?_
 refine .q rfl (op_assign rfl) trivial ?_
 refine .q rfl (op_assign rfl) trivial ?_
 refine .nil ?_
 show Ev _ _ _ _ _
 refine .ret ?_
 show RetOk _ _ _ _ _ _ _
 exact ret2v rfl (.inl rfl) rfl rfl rfl rfl trivial
set_option maxRecDepth 100000 in
theorem opened_mac (e : Nat) (key : List UInt8) (hk : key.length = 32) (n : UInt64) (q k : Nat) (box head : List UInt8) (hB : box.length ≤ 1000000) (hH : head.length ≤ 1000000) (h16 : 16 ≤ box.length) (hTag : ¬ box.drop (box.length - 16) = (tagL key (nonceP n) (box.take (box.length - 16)) head)) (eo : Nat → Nat × Nat) : Meets Tryd.prog 33 [.ptr 500 0, .str box, .str head] [(500, some ⟨dC true key n ([.sl 501 (q) (k) 1, .err 131 (0) (offE eo (0))]), 35, false⟩), (3, some ⟨.aggI qsTab, e, false⟩), (4, some ⟨.agg [.err 131 (5) (offE eo (5))], errT, false⟩)] (.tup [.str [], .err 131 (5) (offE eo (5))]) [] := by
 refine meets_of_ev (nt := 29) Tryd.func33 rfl rfl (Nat.le_of_ble_eq_true rfl) ?_
 refine .seq ?_
 refine .region ?_
 refine .q (op_assign rfl) trivial rfl ?_
 refine .q (op_assign rfl) trivial rfl ?_
 refine .nil ?_
 show Ev _ _ _ _ _
 refine .seq ?_
 refine .seq ?_
 refine .region ?_
 refine .q (op_move rfl) trivial rfl ?_
 refine .q (op_nilCheck rfl) trivial rfl ?_
 refine .q (op_fieldAddr (m := 33) Tryd.underlying35 rfl (by kernel_rfl) rfl) trivial rfl ?_
 refine .as (.ptr 500 0) rfl ?_
 refine .q (op_fieldAddr (m := 0) Tryd.underlying28 rfl (by kernel_rfl) rfl) trivial rfl ?_
 refine .as (.ptr 500 0) rfl ?_
 refine .q (op_load Tryd.underlying4 rfl rfl rfl rfl (dC_lt (by decide))) trivial rfl ?_
 refine .q (op_notB rfl) trivial rfl ?_
 refine .nil ?_
 show Ev _ _ _ _ _
 refine .cond_false rfl (rfl) ?_
 refine .skip ?_
 show Ev _ _ _ _ _
 refine .seq ?_
 refine .drawn [[], [0], [0, 1], [0, 1, 2], [0, 1, 2, 3], [], [5], [5, 6], [5, 6, 7], [], [], [0, 1, 2, 3, 4, 5, 6, 7, 8, 9, 10], [0, 1, 2, 3, 4, 5, 6, 7, 8, 9, 10, 11], [0, 1, 2, 3, 4, 5, 6, 7, 8, 9, 10, 11], [0, 1, 2, 3, 4, 5, 6, 7, 8, 9, 10, 11, 12, 13], [0, 1, 2, 3, 4, 5, 6, 7, 8, 9, 10, 11, 12, 13, 14]] [4, 8, 11] [] (by kernel_rfl) (by kernel_rfl) rfl ?_
 show DK _ [0, 1, 2, 3, 4, 5, 6, 7, 8, 9, 10, 11, 12, 13, 14, 15] _ _ _
 refine .q rfl (op_move rfl) trivial ?_
 refine .q rfl (op_nilCheck rfl) trivial ?_
 refine .q rfl (op_fieldAddr (m := 33) Tryd.underlying35 rfl (by kernel_rfl) rfl) trivial ?_
 refine .as (.ptr 500 0) rfl ?_
 refine .q rfl (op_fieldAddr (m := 31) Tryd.underlying28 rfl (by kernel_rfl) rfl) trivial ?_
 refine .as (.ptr 500 1) rfl ?_
 refine .q rfl (op_loadPart (m := 32) (r := .aggB key) (cs := key.map .u8) Tryd.underlying25 rfl (by kernel_rfl) rfl rfl rfl (dC_keyL hk) (dC_key hk) (by rw [dC_len]; omega)) trivial ?_
 refine .q rfl (op_move rfl) trivial ?_
 refine .q rfl (op_nilCheck rfl) trivial ?_
 refine .q rfl (op_fieldAddr (m := 33) Tryd.underlying35 rfl (by kernel_rfl) rfl) trivial ?_
 refine .as (.ptr 500 0) rfl ?_
 refine .q rfl (op_call (U := []) [(500, 500), (501, 501)] [] (nonce_ev true key n [.sl 501 (q) (k) 1, .err 131 (0) (offE eo (0))] 35) Tryd.func18 (by kernel_rfl) rfl rfl rfl (⟨⟨_, rfl, rfl, rfl⟩, trivial⟩) (⟨⟨_, _, rfl, rfl, rfl, rfl, (fun h => by cases h), rfl⟩, trivial⟩) (trivial) (⟨(fun h => by cases h), trivial⟩) rfl) trivial ?_
 refine .q rfl (op_move rfl) trivial ?_
 refine .q rfl (op_move rfl) trivial ?_
 refine .q rfl (op_call (U := []) [] [] (popen_mac e key (nonceP n) box head hk (length_nonceP n) hB hH (by omega) hTag eo) Tryd.func46 (by kernel_rfl) rfl rfl rfl (⟨⟨_, rfl, rfl, rfl⟩, ⟨_, rfl, rfl, rfl⟩, ⟨_, rfl, rfl, rfl⟩, ⟨_, rfl, rfl, rfl⟩, trivial⟩) (⟨⟨_, _, rfl, rfl, rfl, rfl, (fun h => by cases h), rfl⟩, ⟨_, _, rfl, rfl, rfl, rfl, (fun h => by cases h), rfl⟩, trivial⟩) (trivial) (⟨(fun h => by cases h), (fun h => by cases h), trivial⟩) rfl) trivial ?_
 refine .q rfl (op_extract rfl rfl) trivial ?_
 refine .q rfl (op_extract rfl rfl) trivial ?_
 refine .q rfl (op_assign rfl) trivial ?_
 refine .q rfl (op_assign rfl) trivial ?_
 refine .nil ?_
 show Ev _ _ _ _ _
 refine .ret ?_
 show RetOk _ _ _ _ _ _ _
 exact ret2v rfl (.inl rfl) rfl rfl rfl rfl trivial
theorem opened_t (e : Nat) (key : List UInt8) (hk : key.length = 32) (n : UInt64) (q k : Nat) (box head : List UInt8) (hB : box.length ≤ 1000000) (hH : head.length ≤ 1000000) (h16 : 16 ≤ box.length) (eo : Nat → Nat × Nat) : Meets Tryd.prog 33 [.ptr 500 0, .str box, .str head] [(500, some ⟨dC true key n ([.sl 501 (q) (k) 1, .err 131 (0) (offE eo (0))]), 35, false⟩), (3, some ⟨.aggI qsTab, e, false⟩), (4, some ⟨.agg [.err 131 (5) (offE eo (5))], errT, false⟩)] (.tup [.str (openP true key n box head).1, .err 131 ((openP true key n box head).2) (offE eo ((openP true key n box head).2))]) [] := by
 by_cases hTag : box.drop (box.length - 16) = (tagL key (nonceP n) (box.take (box.length - 16)) head)
 ·rw [show openP true key n box head = (cXor key (UInt32.ofNat 1) (nonceP n) (box.take (box.length - 16)), 0) from if_pos hTag]; exact opened_ok e key hk n q k box head hB hH h16 hTag eo
 ·rw [show openP true key n box head = ([], 5) from if_neg hTag]; exact opened_mac e key hk n q k box head hB hH h16 hTag eo
set_option maxHeartbeats 1000000 in
set_option maxRecDepth 100000 in
theorem first_t (e : Nat) (key : List UInt8) (hk : key.length = 32) (n : UInt64) (q k : Nat) (l : List UInt8) (hq : q + k = l.length) (_hl : l.length ≤ 1000000) (eo : Nat → Nat × Nat) : Meets Tryd.prog 19 [.ptr 500 0] [(500, some ⟨dC true key n ([.sl 501 (q) (k) 1, .err 131 (0) (offE eo (0))]), 35, false⟩), (501, some ⟨.aggB l, 5, false⟩), (3, some ⟨.aggI qsTab, e, false⟩), (0, some ⟨.agg [.err 131 (2) (offE eo (2))], errT, false⟩), (2, some ⟨.agg [.err 131 (3) (offE eo (3))], errT, false⟩), (1, some ⟨.agg [.err 131 (4) (offE eo (4))], errT, false⟩), (4, some ⟨.agg [.err 131 (5) (offE eo (5))], errT, false⟩)] (.tup [.str (firstP true key n (l.drop q)).1, .i64 (((firstP true key n (l.drop q)).2.1 : Nat) : Int), .err 131 ((firstP true key n (l.drop q)).2.2) (offE eo ((firstP true key n (l.drop q)).2.2))]) [] := by
 refine meets_of_ev (nt := 74) Tryd.func19 rfl rfl (Nat.le_of_ble_eq_true rfl) ?_
 refine .seq ?_
 refine .region ?_
 refine .q (op_assign rfl) trivial rfl ?_
 refine .q (op_assign rfl) trivial rfl ?_
 refine .q (op_assign rfl) trivial rfl ?_
 refine .nil ?_
 show Ev _ _ _ _ _
 refine .seq ?_
 refine .seq ?_
 refine .region ?_
 refine .q (op_move rfl) trivial rfl ?_
 refine .q (op_nilCheck rfl) trivial rfl ?_
 refine .q (op_fieldAddr (m := 0) Tryd.underlying35 rfl (by kernel_rfl) rfl) trivial rfl ?_
 refine .as (.ptr 500 34) rfl ?_
 refine .q (op_load Tryd.underlying31 rfl rfl rfl rfl (dC_ltt (i := 0) (by simp))) trivial rfl ?_
 refine .q (op_len_sl Tryd.underlying31 rfl) trivial rfl ?_
 refine .q (op_cmpI rfl rfl rfl) trivial rfl ?_
 refine .nil ?_
 show Ev _ _ _ _ _
 refine .cond rfl (fun hc17 => ?_) (fun hc17 => ?_)
 ·simp only [decide_eq_true_eq] at hc17
  refine .seq ?_
  refine .region ?_
  refine .q (op_assign rfl) trivial rfl ?_
  refine .q (op_assign rfl) trivial rfl ?_
  refine .q (op_assign rfl) trivial rfl ?_
  refine .asR (.err 131 (0) (offE eo (0))) (nil_err _ _) ?_
  refine .nil ?_
  show Ev _ _ _ _ _
  refine .ret ?_
  show RetOk _ _ _ _ _ _ _
  first
   | exact ret3v rfl (.inl rfl) rfl rfl rfl (congrArg (fun z : List UInt8 × Nat × Nat => AV.str z.1) (firstP_4 (b := true) (key := key) (n := n) (s := (l.drop q)) (by rw [List.length_drop]; omega) hb0 (by rw [List.length_drop]; omega) hc64).symm) (congrArg (fun z : List UInt8 × Nat × Nat => AV.i64 ((z.2.1 : Nat) : Int)) (firstP_4 (b := true) (key := key) (n := n) (s := (l.drop q)) (by rw [List.length_drop]; omega) hb0 (by rw [List.length_drop]; omega) hc64).symm) (erv_eq (congrArg (fun z : List UInt8 × Nat × Nat => z.2.2) (firstP_4 (b := true) (key := key) (n := n) (s := (l.drop q)) (by rw [List.length_drop]; omega) hb0 (by rw [List.length_drop]; omega) hc64)).symm) trivial
   | exact ret3v rfl (.inl rfl) rfl rfl rfl (congrArg (fun z : List UInt8 × Nat × Nat => AV.str z.1) (firstP_3 (b := true) (key := key) (n := n) (s := (l.drop q)) (by rw [List.length_drop]; omega) hb0 (by rw [List.length_drop]; omega) hc64).symm) (congrArg (fun z : List UInt8 × Nat × Nat => AV.i64 ((z.2.1 : Nat) : Int)) (firstP_3 (b := true) (key := key) (n := n) (s := (l.drop q)) (by rw [List.length_drop]; omega) hb0 (by rw [List.length_drop]; omega) hc64).symm) (erv_eq (congrArg (fun z : List UInt8 × Nat × Nat => z.2.2) (firstP_3 (b := true) (key := key) (n := n) (s := (l.drop q)) (by rw [List.length_drop]; omega) hb0 (by rw [List.length_drop]; omega) hc64)).symm) trivial
   | exact ret3v rfl (.inl rfl) rfl rfl rfl (congrArg (fun z : List UInt8 × Nat × Nat => AV.str z.1) (firstP_2 (b := true) (key := key) (n := n) (s := (l.drop q)) (by rw [List.length_drop]; omega) (by simpa using hc31) (by rw [List.length_drop]; omega)).symm) (congrArg (fun z : List UInt8 × Nat × Nat => AV.i64 ((z.2.1 : Nat) : Int)) (firstP_2 (b := true) (key := key) (n := n) (s := (l.drop q)) (by rw [List.length_drop]; omega) (by simpa using hc31) (by rw [List.length_drop]; omega)).symm) (erv_eq (congrArg (fun z : List UInt8 × Nat × Nat => z.2.2) (firstP_2 (b := true) (key := key) (n := n) (s := (l.drop q)) (by rw [List.length_drop]; omega) (by simpa using hc31) (by rw [List.length_drop]; omega))).symm) trivial
   | exact ret3v rfl (.inl rfl) rfl rfl rfl (congrArg (fun z : List UInt8 × Nat × Nat => AV.str z.1) (firstP_1 (b := true) (key := key) (n := n) (s := (l.drop q)) (by rw [List.length_drop]; omega) hc31).symm) (congrArg (fun z : List UInt8 × Nat × Nat => AV.i64 ((z.2.1 : Nat) : Int)) (firstP_1 (b := true) (key := key) (n := n) (s := (l.drop q)) (by rw [List.length_drop]; omega) hc31).symm) (erv_eq (congrArg (fun z : List UInt8 × Nat × Nat => z.2.2) (firstP_1 (b := true) (key := key) (n := n) (s := (l.drop q)) (by rw [List.length_drop]; omega) hc31)).symm) trivial
   | exact ret3v rfl (.inl rfl) rfl rfl rfl (congrArg (fun z : List UInt8 × Nat × Nat => AV.str z.1) (firstP_0 (b := true) (key := key) (n := n) (s := (l.drop q)) (by rw [List.length_drop]; omega)).symm) (congrArg (fun z : List UInt8 × Nat × Nat => AV.i64 ((z.2.1 : Nat) : Int)) (firstP_0 (b := true) (key := key) (n := n) (s := (l.drop q)) (by rw [List.length_drop]; omega)).symm) (erv_eq (congrArg (fun z : List UInt8 × Nat × Nat => z.2.2) (firstP_0 (b := true) (key := key) (n := n) (s := (l.drop q)) (by rw [List.length_drop]; omega))).symm) trivial
 ·simp only [decide_eq_false_iff_not] at hc17
  refine .skip ?_
  show Ev _ _ _ _ _
  refine .seq ?_
  refine .region ?_
  refine .q (op_move rfl) trivial rfl ?_
  refine .q (op_nilCheck rfl) trivial rfl ?_
  refine .q (op_fieldAddr (m := 0) Tryd.underlying35 rfl (by kernel_rfl) rfl) trivial rfl ?_
  refine .as (.ptr 500 34) rfl ?_
  refine .q (op_load Tryd.underlying31 rfl rfl rfl rfl (dC_ltt (i := 0) (by simp))) trivial rfl ?_
  refine .q (ap_slice_sl_hi Tryd.underlying31 inf5.sz rfl (bnd_some rfl (l := 4) rfl) (by omega)) trivial rfl ?_
  refine .q (op_bytes_str Tryd.underlying31 Tryd.underlying5 Tryd.underlying9 rfl rfl rfl (by omega)) trivial rfl ?_
  refine .as (.str ((l.drop q).take 4)) rfl ?_
  refine .q (op_assign rfl) trivial rfl ?_
  refine .nil ?_
  show Ev _ _ _ _ _
  refine .seq ?_
  refine .region ?_
  refine .q (op_move rfl) trivial rfl ?_
  refine .a (op_call (U := [(1000, some ⟨.agg [.str (DI.mk ((l.drop q).take 4) 0).r, .err 131 ((DI.mk ((l.drop q).take 4) 0).e) (offE eo ((DI.mk ((l.drop q).take 4) 0).e))], 96, true⟩)]) [] [(1000, 1000)] (wof_ev ((l.drop q).take 4) eo) Tryd.func30 (by kernel_rfl) rfl rfl rfl (⟨⟨_, rfl, rfl, rfl⟩, trivial⟩) (trivial) (⟨⟨1000, _, rfl, rfl, rfl, rfl, .inl rfl⟩, trivial⟩) (trivial) rfl) trivial rfl ?_
  refine .a (op_call (U := [(1000, some ⟨.agg [.str ((u32D ⟨((l.drop q).take 4), 0⟩).1).r, .err 131 (((u32D ⟨((l.drop q).take 4), 0⟩).1).e) (offE eo (((u32D ⟨((l.drop q).take 4), 0⟩).1).e))], 96, true⟩)]) [(500, 1000)] [] (iu32_ev ⟨((l.drop q).take 4), 0⟩ eo) Tryd.func31 (by kernel_rfl) rfl rfl rfl (⟨⟨_, rfl, rfl, rfl⟩, trivial⟩) (⟨⟨_, _, rfl, rfl, rfl, rfl, id, rfl⟩, ⟨_, _, rfl, rfl, rfl, rfl, (fun h => by cases h), rfl⟩, trivial⟩) (⟨⟨500, _, rfl, rfl, rfl, rfl, .inr ⟨rfl, _, rfl, rfl⟩⟩, trivial⟩) (⟨(fun _ => ⟨1000, _, rfl, rfl⟩), (fun h => by cases h), trivial⟩) rfl) trivial rfl ?_
  refine .as (.u32 ((numV ((l.drop q).take 4)).toUInt32)) (congrArg AV.u32 (u32D_head _ (by rw [List.length_drop]; omega))) ?_
  refine .q (op_assign rfl) trivial rfl ?_
  refine .nil ?_
  show Ev _ _ _ _ _
  refine .seq ?_
  refine .seq ?_
  refine .region ?_
  refine .q (op_move rfl) trivial rfl ?_
  refine .q (op_move rfl) trivial rfl ?_
  refine .q (op_call (U := []) [(500, 500), (501, 501)] [] (check_t key n q k ((numV ((l.drop q).take 4)).toUInt32) eo) Tryd.func32 (by kernel_rfl) rfl rfl rfl (⟨⟨_, rfl, rfl, rfl⟩, ⟨_, rfl, rfl, rfl⟩, trivial⟩) (⟨⟨_, _, rfl, rfl, rfl, rfl, (fun h => by cases h), rfl⟩, ⟨_, _, rfl, rfl, rfl, rfl, (fun h => by cases h), rfl⟩, ⟨_, _, rfl, rfl, rfl, rfl, (fun h => by cases h), rfl⟩, trivial⟩) (trivial) (⟨(fun h => by cases h), (fun h => by cases h), (fun h => by cases h), trivial⟩) rfl) trivial rfl ?_
  refine .as (.err 131 (badP true (l.drop q)) (offE eo (badP true (l.drop q)))) rfl ?_
  refine .q (op_assign rfl) trivial rfl ?_
  refine .nil ?_
  show Ev _ _ _ _ _
  refine .seq ?_
  refine .region ?_
  refine .q (op_move rfl) trivial rfl ?_
  refine .q (op_eqErrNil (e := badP true (l.drop q)) Tryd.underlying33 rfl rfl) trivial rfl ?_
  refine .nil ?_
  show Ev _ _ _ _ _
  refine .cond rfl (fun hc31 => ?_) (fun hc31 => ?_)
  ·simp only [bne_iff_ne, ne_eq] at hc31
   refine .seq ?_
   refine .region ?_
   refine .q (op_move rfl) trivial rfl ?_
   refine .q (op_assign rfl) trivial rfl ?_
   refine .q (op_assign rfl) trivial rfl ?_
   refine .q (op_assign rfl) trivial rfl ?_
   refine .nil ?_
   show Ev _ _ _ _ _
   refine .ret ?_
   show RetOk _ _ _ _ _ _ _
   first
    | exact ret3v rfl (.inl rfl) rfl rfl rfl (congrArg (fun z : List UInt8 × Nat × Nat => AV.str z.1) (firstP_4 (b := true) (key := key) (n := n) (s := (l.drop q)) (by rw [List.length_drop]; omega) hb0 (by rw [List.length_drop]; omega) hc64).symm) (congrArg (fun z : List UInt8 × Nat × Nat => AV.i64 ((z.2.1 : Nat) : Int)) (firstP_4 (b := true) (key := key) (n := n) (s := (l.drop q)) (by rw [List.length_drop]; omega) hb0 (by rw [List.length_drop]; omega) hc64).symm) (erv_eq (congrArg (fun z : List UInt8 × Nat × Nat => z.2.2) (firstP_4 (b := true) (key := key) (n := n) (s := (l.drop q)) (by rw [List.length_drop]; omega) hb0 (by rw [List.length_drop]; omega) hc64)).symm) trivial
    | exact ret3v rfl (.inl rfl) rfl rfl rfl (congrArg (fun z : List UInt8 × Nat × Nat => AV.str z.1) (firstP_3 (b := true) (key := key) (n := n) (s := (l.drop q)) (by rw [List.length_drop]; omega) hb0 (by rw [List.length_drop]; omega) hc64).symm) (congrArg (fun z : List UInt8 × Nat × Nat => AV.i64 ((z.2.1 : Nat) : Int)) (firstP_3 (b := true) (key := key) (n := n) (s := (l.drop q)) (by rw [List.length_drop]; omega) hb0 (by rw [List.length_drop]; omega) hc64).symm) (erv_eq (congrArg (fun z : List UInt8 × Nat × Nat => z.2.2) (firstP_3 (b := true) (key := key) (n := n) (s := (l.drop q)) (by rw [List.length_drop]; omega) hb0 (by rw [List.length_drop]; omega) hc64)).symm) trivial
    | exact ret3v rfl (.inl rfl) rfl rfl rfl (congrArg (fun z : List UInt8 × Nat × Nat => AV.str z.1) (firstP_2 (b := true) (key := key) (n := n) (s := (l.drop q)) (by rw [List.length_drop]; omega) (by simpa using hc31) (by rw [List.length_drop]; omega)).symm) (congrArg (fun z : List UInt8 × Nat × Nat => AV.i64 ((z.2.1 : Nat) : Int)) (firstP_2 (b := true) (key := key) (n := n) (s := (l.drop q)) (by rw [List.length_drop]; omega) (by simpa using hc31) (by rw [List.length_drop]; omega)).symm) (erv_eq (congrArg (fun z : List UInt8 × Nat × Nat => z.2.2) (firstP_2 (b := true) (key := key) (n := n) (s := (l.drop q)) (by rw [List.length_drop]; omega) (by simpa using hc31) (by rw [List.length_drop]; omega))).symm) trivial
    | exact ret3v rfl (.inl rfl) rfl rfl rfl (congrArg (fun z : List UInt8 × Nat × Nat => AV.str z.1) (firstP_1 (b := true) (key := key) (n := n) (s := (l.drop q)) (by rw [List.length_drop]; omega) hc31).symm) (congrArg (fun z : List UInt8 × Nat × Nat => AV.i64 ((z.2.1 : Nat) : Int)) (firstP_1 (b := true) (key := key) (n := n) (s := (l.drop q)) (by rw [List.length_drop]; omega) hc31).symm) (erv_eq (congrArg (fun z : List UInt8 × Nat × Nat => z.2.2) (firstP_1 (b := true) (key := key) (n := n) (s := (l.drop q)) (by rw [List.length_drop]; omega) hc31)).symm) trivial
    | exact ret3v rfl (.inl rfl) rfl rfl rfl (congrArg (fun z : List UInt8 × Nat × Nat => AV.str z.1) (firstP_0 (b := true) (key := key) (n := n) (s := (l.drop q)) (by rw [List.length_drop]; omega)).symm) (congrArg (fun z : List UInt8 × Nat × Nat => AV.i64 ((z.2.1 : Nat) : Int)) (firstP_0 (b := true) (key := key) (n := n) (s := (l.drop q)) (by rw [List.length_drop]; omega)).symm) (erv_eq (congrArg (fun z : List UInt8 × Nat × Nat => z.2.2) (firstP_0 (b := true) (key := key) (n := n) (s := (l.drop q)) (by rw [List.length_drop]; omega))).symm) trivial
  ·simp only [bne_eq_false_iff_eq] at hc31
   refine .skip ?_
   show Ev _ _ _ _ _
   refine .seq ?_
   have hb0 : badP true (l.drop q) = 0 := hc31
   have hbd := badN_le (b := true) (m := (lenP (l.drop q))) hb0
   have htg : tagP true = 16 := rfl
   have hsz : sizeP true (l.drop q) = 4 + (lenP (l.drop q)) + 16 := rfl
   have hle : leastP true = 8 := rfl
   refine .region ?_
   refine .q (op_move rfl) trivial rfl ?_
   refine .q (op_conv Tryd.underlying58 Tryd.underlying3 rfl rfl) trivial rfl ?_
   refine .as (.i64 (((lenP (l.drop q)) : Nat) : Int)) rfl ?_
   refine .q (op_addI rfl rfl ⟨by omega, by omega⟩) trivial rfl ?_
   refine .as (.i64 ((4 + (lenP (l.drop q)) : Nat) : Int)) (congrArg AV.i64 (by show (4 : Int) + (((lenP (l.drop q)) : Nat) : Int) = _; omega)) ?_
   refine .q (op_assign rfl) trivial rfl ?_
   refine .nil ?_
   show Ev _ _ _ _ _
   refine .seq ?_
   refine .seq ?_
   refine .region ?_
   refine .q (op_move rfl) trivial rfl ?_
   refine .q (op_nilCheck rfl) trivial rfl ?_
   refine .q (op_fieldAddr (m := 33) Tryd.underlying35 rfl (by kernel_rfl) rfl) trivial rfl ?_
   refine .as (.ptr 500 0) rfl ?_
   refine .q (op_fieldAddr (m := 0) Tryd.underlying28 rfl (by kernel_rfl) rfl) trivial rfl ?_
   refine .as (.ptr 500 0) rfl ?_
   refine .q (op_load Tryd.underlying4 rfl rfl rfl rfl (dC_lt (by decide))) trivial rfl ?_
   refine .nil ?_
   show Ev _ _ _ _ _
   refine .cond_true rfl (rfl) ?_
   refine .region ?_
   refine .q (op_move rfl) trivial rfl ?_
   refine .q (op_addI rfl rfl ⟨by omega, by omega⟩) trivial rfl ?_
   refine .as (.i64 (((sizeP true (l.drop q)) : Nat) : Int)) (congrArg AV.i64 (by show _ = ((4 + (lenP (l.drop q)) + 16 : Nat) : Int); omega)) ?_
   refine .q (op_assign rfl) trivial rfl ?_
   refine .nil ?_
   show Ev _ _ _ _ _
   refine .seq ?_
   refine .seq ?_
   refine .region ?_
   refine .q (op_move rfl) trivial rfl ?_
   refine .q (op_nilCheck rfl) trivial rfl ?_
   refine .q (op_fieldAddr (m := 0) Tryd.underlying35 rfl (by kernel_rfl) rfl) trivial rfl ?_
   refine .as (.ptr 500 34) rfl ?_
   refine .q (op_load Tryd.underlying31 rfl rfl rfl rfl (dC_ltt (i := 0) (by simp))) trivial rfl ?_
   refine .q (op_len_sl Tryd.underlying31 rfl) trivial rfl ?_
   refine .q (op_move rfl) trivial rfl ?_
   refine .q (op_cmpI rfl rfl rfl) trivial rfl ?_
   refine .nil ?_
   show Ev _ _ _ _ _
   refine .cond rfl (fun hc49 => ?_) (fun hc49 => ?_)
   ·simp only [decide_eq_true_eq] at hc49
    refine .seq ?_
    refine .region ?_
    refine .q (op_assign rfl) trivial rfl ?_
    refine .q (op_assign rfl) trivial rfl ?_
    refine .q (op_assign rfl) trivial rfl ?_
    refine .asR (.err 131 (0) (offE eo (0))) (nil_err _ _) ?_
    refine .nil ?_
    show Ev _ _ _ _ _
    refine .ret ?_
    show RetOk _ _ _ _ _ _ _
    first
     | exact ret3v rfl (.inl rfl) rfl rfl rfl (congrArg (fun z : List UInt8 × Nat × Nat => AV.str z.1) (firstP_4 (b := true) (key := key) (n := n) (s := (l.drop q)) (by rw [List.length_drop]; omega) hb0 (by rw [List.length_drop]; omega) hc64).symm) (congrArg (fun z : List UInt8 × Nat × Nat => AV.i64 ((z.2.1 : Nat) : Int)) (firstP_4 (b := true) (key := key) (n := n) (s := (l.drop q)) (by rw [List.length_drop]; omega) hb0 (by rw [List.length_drop]; omega) hc64).symm) (erv_eq (congrArg (fun z : List UInt8 × Nat × Nat => z.2.2) (firstP_4 (b := true) (key := key) (n := n) (s := (l.drop q)) (by rw [List.length_drop]; omega) hb0 (by rw [List.length_drop]; omega) hc64)).symm) trivial
     | exact ret3v rfl (.inl rfl) rfl rfl rfl (congrArg (fun z : List UInt8 × Nat × Nat => AV.str z.1) (firstP_3 (b := true) (key := key) (n := n) (s := (l.drop q)) (by rw [List.length_drop]; omega) hb0 (by rw [List.length_drop]; omega) hc64).symm) (congrArg (fun z : List UInt8 × Nat × Nat => AV.i64 ((z.2.1 : Nat) : Int)) (firstP_3 (b := true) (key := key) (n := n) (s := (l.drop q)) (by rw [List.length_drop]; omega) hb0 (by rw [List.length_drop]; omega) hc64).symm) (erv_eq (congrArg (fun z : List UInt8 × Nat × Nat => z.2.2) (firstP_3 (b := true) (key := key) (n := n) (s := (l.drop q)) (by rw [List.length_drop]; omega) hb0 (by rw [List.length_drop]; omega) hc64)).symm) trivial
     | exact ret3v rfl (.inl rfl) rfl rfl rfl (congrArg (fun z : List UInt8 × Nat × Nat => AV.str z.1) (firstP_2 (b := true) (key := key) (n := n) (s := (l.drop q)) (by rw [List.length_drop]; omega) (by simpa using hc31) (by rw [List.length_drop]; omega)).symm) (congrArg (fun z : List UInt8 × Nat × Nat => AV.i64 ((z.2.1 : Nat) : Int)) (firstP_2 (b := true) (key := key) (n := n) (s := (l.drop q)) (by rw [List.length_drop]; omega) (by simpa using hc31) (by rw [List.length_drop]; omega)).symm) (erv_eq (congrArg (fun z : List UInt8 × Nat × Nat => z.2.2) (firstP_2 (b := true) (key := key) (n := n) (s := (l.drop q)) (by rw [List.length_drop]; omega) (by simpa using hc31) (by rw [List.length_drop]; omega))).symm) trivial
     | exact ret3v rfl (.inl rfl) rfl rfl rfl (congrArg (fun z : List UInt8 × Nat × Nat => AV.str z.1) (firstP_1 (b := true) (key := key) (n := n) (s := (l.drop q)) (by rw [List.length_drop]; omega) hc31).symm) (congrArg (fun z : List UInt8 × Nat × Nat => AV.i64 ((z.2.1 : Nat) : Int)) (firstP_1 (b := true) (key := key) (n := n) (s := (l.drop q)) (by rw [List.length_drop]; omega) hc31).symm) (erv_eq (congrArg (fun z : List UInt8 × Nat × Nat => z.2.2) (firstP_1 (b := true) (key := key) (n := n) (s := (l.drop q)) (by rw [List.length_drop]; omega) hc31)).symm) trivial
     | exact ret3v rfl (.inl rfl) rfl rfl rfl (congrArg (fun z : List UInt8 × Nat × Nat => AV.str z.1) (firstP_0 (b := true) (key := key) (n := n) (s := (l.drop q)) (by rw [List.length_drop]; omega)).symm) (congrArg (fun z : List UInt8 × Nat × Nat => AV.i64 ((z.2.1 : Nat) : Int)) (firstP_0 (b := true) (key := key) (n := n) (s := (l.drop q)) (by rw [List.length_drop]; omega)).symm) (erv_eq (congrArg (fun z : List UInt8 × Nat × Nat => z.2.2) (firstP_0 (b := true) (key := key) (n := n) (s := (l.drop q)) (by rw [List.length_drop]; omega))).symm) trivial
   ·simp only [decide_eq_false_iff_not] at hc49
    refine .skip ?_
    show Ev _ _ _ _ _
    refine .seq ?_
    have hbl := box_len (b := true) (s := (l.drop q)) (by rw [List.length_drop]; omega)
    refine .region ?_
    refine .q (op_move rfl) trivial rfl ?_
    refine .q (op_move rfl) trivial rfl ?_
    refine .q (op_nilCheck rfl) trivial rfl ?_
    refine .q (op_fieldAddr (m := 0) Tryd.underlying35 rfl (by kernel_rfl) rfl) trivial rfl ?_
    refine .as (.ptr 500 34) rfl ?_
    refine .q (op_load Tryd.underlying31 rfl rfl rfl rfl (dC_ltt (i := 0) (by simp))) trivial rfl ?_
    refine .q (op_move rfl) trivial rfl ?_
    refine .q (op_slice_sl Tryd.underlying31 inf5.sz rfl (bnd_some rfl (l := 4) rfl) (bnd_some rfl (l := (sizeP true (l.drop q))) rfl) (by omega) (by omega)) trivial rfl ?_
    refine .q (op_bytes_str Tryd.underlying31 Tryd.underlying5 Tryd.underlying9 rfl rfl rfl (by omega)) trivial rfl ?_
    refine .as (.str (boxP true (l.drop q))) (congrArg AV.str (by unfold boxP; rw [List.drop_drop, Nat.mul_one])) ?_
    refine .q (op_move rfl) trivial rfl ?_
    refine .q (op_call (U := []) [(500, 500), (501, 501)] [] (opened_t e key hk n q k (boxP true (l.drop q)) ((l.drop q).take 4) (by rw [hbl]; omega) (by rw [List.length_take]; omega) (by omega) eo) Tryd.func33 (by kernel_rfl) rfl rfl rfl (⟨⟨_, rfl, rfl, rfl⟩, ⟨_, rfl, rfl, rfl⟩, ⟨_, rfl, rfl, rfl⟩, trivial⟩) (⟨⟨_, _, rfl, rfl, rfl, rfl, (fun h => by cases h), rfl⟩, ⟨_, _, rfl, rfl, rfl, rfl, (fun h => by cases h), rfl⟩, ⟨_, _, rfl, rfl, rfl, rfl, (fun h => by cases h), rfl⟩, trivial⟩) (trivial) (⟨(fun h => by cases h), (fun h => by cases h), (fun h => by cases h), trivial⟩) rfl) trivial rfl ?_
    refine .q (op_move rfl) trivial rfl ?_
    refine .q (op_extract rfl rfl) trivial rfl ?_
    refine .q (op_extract rfl rfl) trivial rfl ?_
    refine .q (op_assign rfl) trivial rfl ?_
    refine .q (op_assign rfl) trivial rfl ?_
    refine .nil ?_
    show Ev _ _ _ _ _
    refine .seq ?_
    refine .seq ?_
    refine .region ?_
    refine .q (op_move rfl) trivial rfl ?_
    refine .q (op_eqErrNil (e := (openP true key n (boxP true (l.drop q)) ((l.drop q).take 4)).2) Tryd.underlying33 rfl rfl) trivial rfl ?_
    refine .nil ?_
    show Ev _ _ _ _ _
    refine .cond rfl (fun hc64 => ?_) (fun hc64 => ?_)
    ·simp only [bne_iff_ne, ne_eq] at hc64
     refine .seq ?_
     refine .region ?_
     refine .q (op_move rfl) trivial rfl ?_
     refine .q (op_assign rfl) trivial rfl ?_
     refine .q (op_assign rfl) trivial rfl ?_
     refine .q (op_assign rfl) trivial rfl ?_
     refine .nil ?_
     show Ev _ _ _ _ _
     refine .ret ?_
     show RetOk _ _ _ _ _ _ _
     first
      | exact ret3v rfl (.inl rfl) rfl rfl rfl (congrArg (fun z : List UInt8 × Nat × Nat => AV.str z.1) (firstP_4 (b := true) (key := key) (n := n) (s := (l.drop q)) (by rw [List.length_drop]; omega) hb0 (by rw [List.length_drop]; omega) hc64).symm) (congrArg (fun z : List UInt8 × Nat × Nat => AV.i64 ((z.2.1 : Nat) : Int)) (firstP_4 (b := true) (key := key) (n := n) (s := (l.drop q)) (by rw [List.length_drop]; omega) hb0 (by rw [List.length_drop]; omega) hc64).symm) (erv_eq (congrArg (fun z : List UInt8 × Nat × Nat => z.2.2) (firstP_4 (b := true) (key := key) (n := n) (s := (l.drop q)) (by rw [List.length_drop]; omega) hb0 (by rw [List.length_drop]; omega) hc64)).symm) trivial
      | exact ret3v rfl (.inl rfl) rfl rfl rfl (congrArg (fun z : List UInt8 × Nat × Nat => AV.str z.1) (firstP_3 (b := true) (key := key) (n := n) (s := (l.drop q)) (by rw [List.length_drop]; omega) hb0 (by rw [List.length_drop]; omega) hc64).symm) (congrArg (fun z : List UInt8 × Nat × Nat => AV.i64 ((z.2.1 : Nat) : Int)) (firstP_3 (b := true) (key := key) (n := n) (s := (l.drop q)) (by rw [List.length_drop]; omega) hb0 (by rw [List.length_drop]; omega) hc64).symm) (erv_eq (congrArg (fun z : List UInt8 × Nat × Nat => z.2.2) (firstP_3 (b := true) (key := key) (n := n) (s := (l.drop q)) (by rw [List.length_drop]; omega) hb0 (by rw [List.length_drop]; omega) hc64)).symm) trivial
      | exact ret3v rfl (.inl rfl) rfl rfl rfl (congrArg (fun z : List UInt8 × Nat × Nat => AV.str z.1) (firstP_2 (b := true) (key := key) (n := n) (s := (l.drop q)) (by rw [List.length_drop]; omega) (by simpa using hc31) (by rw [List.length_drop]; omega)).symm) (congrArg (fun z : List UInt8 × Nat × Nat => AV.i64 ((z.2.1 : Nat) : Int)) (firstP_2 (b := true) (key := key) (n := n) (s := (l.drop q)) (by rw [List.length_drop]; omega) (by simpa using hc31) (by rw [List.length_drop]; omega)).symm) (erv_eq (congrArg (fun z : List UInt8 × Nat × Nat => z.2.2) (firstP_2 (b := true) (key := key) (n := n) (s := (l.drop q)) (by rw [List.length_drop]; omega) (by simpa using hc31) (by rw [List.length_drop]; omega))).symm) trivial
      | exact ret3v rfl (.inl rfl) rfl rfl rfl (congrArg (fun z : List UInt8 × Nat × Nat => AV.str z.1) (firstP_1 (b := true) (key := key) (n := n) (s := (l.drop q)) (by rw [List.length_drop]; omega) hc31).symm) (congrArg (fun z : List UInt8 × Nat × Nat => AV.i64 ((z.2.1 : Nat) : Int)) (firstP_1 (b := true) (key := key) (n := n) (s := (l.drop q)) (by rw [List.length_drop]; omega) hc31).symm) (erv_eq (congrArg (fun z : List UInt8 × Nat × Nat => z.2.2) (firstP_1 (b := true) (key := key) (n := n) (s := (l.drop q)) (by rw [List.length_drop]; omega) hc31)).symm) trivial
      | exact ret3v rfl (.inl rfl) rfl rfl rfl (congrArg (fun z : List UInt8 × Nat × Nat => AV.str z.1) (firstP_0 (b := true) (key := key) (n := n) (s := (l.drop q)) (by rw [List.length_drop]; omega)).symm) (congrArg (fun z : List UInt8 × Nat × Nat => AV.i64 ((z.2.1 : Nat) : Int)) (firstP_0 (b := true) (key := key) (n := n) (s := (l.drop q)) (by rw [List.length_drop]; omega)).symm) (erv_eq (congrArg (fun z : List UInt8 × Nat × Nat => z.2.2) (firstP_0 (b := true) (key := key) (n := n) (s := (l.drop q)) (by rw [List.length_drop]; omega))).symm) trivial
    ·simp only [bne_eq_false_iff_eq] at hc64
     refine .skip ?_
     show Ev _ _ _ _ _
     refine .seq ?_
     refine .region ?_
     refine .q (op_move rfl) trivial rfl ?_
     refine .q (op_call (U := []) [] [] (unpad_ev (openP true key n (boxP true (l.drop q)) ((l.drop q).take 4)).1 (by have h9 := open_len hbl hc64; omega) (by have h9 := open_len hbl hc64; omega) eo) Tryd.func34 (by kernel_rfl) rfl rfl rfl (⟨⟨_, rfl, rfl, rfl⟩, trivial⟩) (⟨⟨_, _, rfl, rfl, rfl, rfl, (fun h => by cases h), rfl⟩, trivial⟩) (trivial) (⟨(fun h => by cases h), trivial⟩) rfl) trivial rfl ?_
     refine .q (op_move rfl) trivial rfl ?_
     refine .q (op_extract rfl rfl) trivial rfl ?_
     refine .q (op_extract rfl rfl) trivial rfl ?_
     refine .q (op_assign rfl) trivial rfl ?_
     refine .q (op_assign rfl) trivial rfl ?_
     refine .nil ?_
     show Ev _ _ _ _ _
     refine .seq ?_
     refine .region ?_
     refine .q (op_move rfl) trivial rfl ?_
     refine .q (op_move rfl) trivial rfl ?_
     refine .q (op_move rfl) trivial rfl ?_
     refine .q (op_assign rfl) trivial rfl ?_
     refine .q (op_assign rfl) trivial rfl ?_
     refine .q (op_assign rfl) trivial rfl ?_
     refine .nil ?_
     show Ev _ _ _ _ _
     refine .ret ?_
     show RetOk _ _ _ _ _ _ _
     first
      | exact ret3v rfl (.inl rfl) rfl rfl rfl (congrArg (fun z : List UInt8 × Nat × Nat => AV.str z.1) (firstP_4 (b := true) (key := key) (n := n) (s := (l.drop q)) (by rw [List.length_drop]; omega) hb0 (by rw [List.length_drop]; omega) hc64).symm) (congrArg (fun z : List UInt8 × Nat × Nat => AV.i64 ((z.2.1 : Nat) : Int)) (firstP_4 (b := true) (key := key) (n := n) (s := (l.drop q)) (by rw [List.length_drop]; omega) hb0 (by rw [List.length_drop]; omega) hc64).symm) (erv_eq (congrArg (fun z : List UInt8 × Nat × Nat => z.2.2) (firstP_4 (b := true) (key := key) (n := n) (s := (l.drop q)) (by rw [List.length_drop]; omega) hb0 (by rw [List.length_drop]; omega) hc64)).symm) trivial
      | exact ret3v rfl (.inl rfl) rfl rfl rfl (congrArg (fun z : List UInt8 × Nat × Nat => AV.str z.1) (firstP_3 (b := true) (key := key) (n := n) (s := (l.drop q)) (by rw [List.length_drop]; omega) hb0 (by rw [List.length_drop]; omega) hc64).symm) (congrArg (fun z : List UInt8 × Nat × Nat => AV.i64 ((z.2.1 : Nat) : Int)) (firstP_3 (b := true) (key := key) (n := n) (s := (l.drop q)) (by rw [List.length_drop]; omega) hb0 (by rw [List.length_drop]; omega) hc64).symm) (erv_eq (congrArg (fun z : List UInt8 × Nat × Nat => z.2.2) (firstP_3 (b := true) (key := key) (n := n) (s := (l.drop q)) (by rw [List.length_drop]; omega) hb0 (by rw [List.length_drop]; omega) hc64)).symm) trivial
      | exact ret3v rfl (.inl rfl) rfl rfl rfl (congrArg (fun z : List UInt8 × Nat × Nat => AV.str z.1) (firstP_2 (b := true) (key := key) (n := n) (s := (l.drop q)) (by rw [List.length_drop]; omega) (by simpa using hc31) (by rw [List.length_drop]; omega)).symm) (congrArg (fun z : List UInt8 × Nat × Nat => AV.i64 ((z.2.1 : Nat) : Int)) (firstP_2 (b := true) (key := key) (n := n) (s := (l.drop q)) (by rw [List.length_drop]; omega) (by simpa using hc31) (by rw [List.length_drop]; omega)).symm) (erv_eq (congrArg (fun z : List UInt8 × Nat × Nat => z.2.2) (firstP_2 (b := true) (key := key) (n := n) (s := (l.drop q)) (by rw [List.length_drop]; omega) (by simpa using hc31) (by rw [List.length_drop]; omega))).symm) trivial
      | exact ret3v rfl (.inl rfl) rfl rfl rfl (congrArg (fun z : List UInt8 × Nat × Nat => AV.str z.1) (firstP_1 (b := true) (key := key) (n := n) (s := (l.drop q)) (by rw [List.length_drop]; omega) hc31).symm) (congrArg (fun z : List UInt8 × Nat × Nat => AV.i64 ((z.2.1 : Nat) : Int)) (firstP_1 (b := true) (key := key) (n := n) (s := (l.drop q)) (by rw [List.length_drop]; omega) hc31).symm) (erv_eq (congrArg (fun z : List UInt8 × Nat × Nat => z.2.2) (firstP_1 (b := true) (key := key) (n := n) (s := (l.drop q)) (by rw [List.length_drop]; omega) hc31)).symm) trivial
      | exact ret3v rfl (.inl rfl) rfl rfl rfl (congrArg (fun z : List UInt8 × Nat × Nat => AV.str z.1) (firstP_0 (b := true) (key := key) (n := n) (s := (l.drop q)) (by rw [List.length_drop]; omega)).symm) (congrArg (fun z : List UInt8 × Nat × Nat => AV.i64 ((z.2.1 : Nat) : Int)) (firstP_0 (b := true) (key := key) (n := n) (s := (l.drop q)) (by rw [List.length_drop]; omega)).symm) (erv_eq (congrArg (fun z : List UInt8 × Nat × Nat => z.2.2) (firstP_0 (b := true) (key := key) (n := n) (s := (l.drop q)) (by rw [List.length_drop]; omega))).symm) trivial
end Go.Proofs.YtidjfinookikcaaDoor
namespace Go.Proofs.YtidjfinookikcaaDoor
open Go.RowKit
set_option maxRecDepth 100000 in
theorem next_none_t (e : Nat) (key : List UInt8) (hk : key.length = 32) (n : UInt64) (q k : Nat) (l : List UInt8) (hq : q + k = l.length) (hl : l.length ≤ 1000000) (hE : (firstP true key n (l.drop q)).2.2 = 0) (h0 : (firstP true key n (l.drop q)).2.1 = 0) (eo : Nat → Nat × Nat) : Meets Tryd.prog 9 [.ptr 500 0] [(500, some ⟨dC true key n ([.sl 501 (q) (k) 1, .err 131 (0) (offE eo (0))]), 35, false⟩), (501, some ⟨.aggB l, 5, false⟩), (3, some ⟨.aggI qsTab, e, false⟩), (0, some ⟨.agg [.err 131 (2) (offE eo (2))], errT, false⟩), (2, some ⟨.agg [.err 131 (3) (offE eo (3))], errT, false⟩), (1, some ⟨.agg [.err 131 (4) (offE eo (4))], errT, false⟩), (4, some ⟨.agg [.err 131 (5) (offE eo (5))], errT, false⟩)] (.tup [.str [], .bool false, .err 131 (0) (offE eo (0))]) [] := by
 refine meets_of_ev (nt := 58) Tryd.func9 rfl rfl (Nat.le_of_ble_eq_true rfl) ?_
 refine .seq ?_
 refine .region ?_
 refine .q (op_assign rfl) trivial rfl ?_
 refine .q (op_assign rfl) trivial rfl ?_
 refine .q (op_assign rfl) trivial rfl ?_
 refine .nil ?_
 show Ev _ _ _ _ _
 refine .seq ?_
 refine .seq ?_
 refine .region ?_
 refine .q (op_move rfl) trivial rfl ?_
 refine .q (op_nilCheck rfl) trivial rfl ?_
 refine .q (op_fieldAddr (m := 0) Tryd.underlying35 rfl (by kernel_rfl) rfl) trivial rfl ?_
 refine .as (.ptr 500 35) rfl ?_
 refine .q (op_load Tryd.underlying33 rfl rfl rfl rfl (dC_ltt (i := 1) (by simp))) trivial rfl ?_
 refine .q (op_eqErrNil (e := 0) Tryd.underlying33 rfl rfl) trivial rfl ?_
 refine .nil ?_
 show Ev _ _ _ _ _
 refine .cond_false rfl (rfl) ?_
 refine .skip ?_
 show Ev _ _ _ _ _
 refine .seq ?_
 refine .region ?_
 refine .q (op_move rfl) trivial rfl ?_
 refine .q (op_call (U := []) [(500, 500), (501, 501)] [] (first_t e key hk n q k l hq hl eo) Tryd.func19 (by kernel_rfl) rfl rfl rfl (⟨⟨_, rfl, rfl, rfl⟩, trivial⟩) (⟨⟨_, _, rfl, rfl, rfl, rfl, (fun h => by cases h), rfl⟩, ⟨_, _, rfl, rfl, rfl, rfl, (fun h => by cases h), rfl⟩, ⟨_, _, rfl, rfl, rfl, rfl, (fun h => by cases h), rfl⟩, ⟨_, _, rfl, rfl, rfl, rfl, (fun h => by cases h), rfl⟩, ⟨_, _, rfl, rfl, rfl, rfl, (fun h => by cases h), rfl⟩, ⟨_, _, rfl, rfl, rfl, rfl, (fun h => by cases h), rfl⟩, ⟨_, _, rfl, rfl, rfl, rfl, (fun h => by cases h), rfl⟩, trivial⟩) (trivial) (⟨(fun h => by cases h), (fun h => by cases h), (fun h => by cases h), (fun h => by cases h), (fun h => by cases h), (fun h => by cases h), (fun h => by cases h), trivial⟩) rfl) trivial rfl ?_
 refine .q (op_move rfl) trivial rfl ?_
 refine .q (op_extract rfl rfl) trivial rfl ?_
 refine .q (op_extract rfl rfl) trivial rfl ?_
 refine .q (op_extract rfl rfl) trivial rfl ?_
 refine .q (op_assign rfl) trivial rfl ?_
 refine .q (op_assign rfl) trivial rfl ?_
 refine .q (op_assign rfl) trivial rfl ?_
 refine .nil ?_
 show Ev _ _ _ _ _
 refine .seq ?_
 refine .seq ?_
 refine .region ?_
 refine .q (op_move rfl) trivial rfl ?_
 refine .q (op_eqErrNil (e := (firstP true key n (l.drop q)).2.2) Tryd.underlying33 rfl rfl) trivial rfl ?_
 refine .nil ?_
 show Ev _ _ _ _ _
 refine .cond_false rfl (by rw [hE]; rfl) ?_
 refine .skip ?_
 show Ev _ _ _ _ _
 refine .seq ?_
 refine .seq ?_
 refine .region ?_
 refine .q (op_move rfl) trivial rfl ?_
 refine .q (op_cmpI rfl rfl rfl) trivial rfl ?_
 refine .nil ?_
 show Ev _ _ _ _ _
 refine .cond_true rfl (by rw [h0]; rfl) ?_
 refine .seq ?_
 refine .region ?_
 refine .q (op_assign rfl) trivial rfl ?_
 refine .q (op_assign rfl) trivial rfl ?_
 refine .q (op_assign rfl) trivial rfl ?_
 refine .asR (.err 131 (0) (offE eo (0))) (nil_err _ _) ?_
 refine .nil ?_
 show Ev _ _ _ _ _
 refine .ret ?_
 show RetOk _ _ _ _ _ _ _
 exact ret3v rfl (.inl rfl) rfl rfl rfl (rfl) (rfl) (rfl) trivial
set_option maxRecDepth 100000 in
theorem next_ok_t (e : Nat) (key : List UInt8) (hk : key.length = 32) (n : UInt64) (q k : Nat) (l : List UInt8) (hq : q + k = l.length) (hl : l.length ≤ 1000000) (hE : (firstP true key n (l.drop q)).2.2 = 0) (h0 : (firstP true key n (l.drop q)).2.1 ≠ 0) (eo : Nat → Nat × Nat) : Meets Tryd.prog 9 [.ptr 500 0] [(500, some ⟨dC true key n ([.sl 501 (q) (k) 1, .err 131 (0) (offE eo (0))]), 35, true⟩), (501, some ⟨.aggB l, 5, false⟩), (3, some ⟨.aggI qsTab, e, false⟩), (0, some ⟨.agg [.err 131 (2) (offE eo (2))], errT, false⟩), (2, some ⟨.agg [.err 131 (3) (offE eo (3))], errT, false⟩), (1, some ⟨.agg [.err 131 (4) (offE eo (4))], errT, false⟩), (4, some ⟨.agg [.err 131 (5) (offE eo (5))], errT, false⟩)] (.tup [.str (firstP true key n (l.drop q)).1, .bool true, .err 131 (0) (offE eo (0))]) [(500, some ⟨dC true key (n + 1) ([.sl 501 (q + (firstP true key n (l.drop q)).2.1) (k - (firstP true key n (l.drop q)).2.1) 1, .err 131 (0) (offE eo (0))]), 35, true⟩)] := by
 have hle : (firstP true key n (l.drop q)).2.1 ≤ k := by have h9 := first_le true key n (l.drop q); rw [List.length_drop] at h9; omega
 refine meets_of_ev (nt := 58) Tryd.func9 rfl rfl (Nat.le_of_ble_eq_true rfl) ?_
 refine .seq ?_
 refine .region ?_
 refine .q (op_assign rfl) trivial rfl ?_
 refine .q (op_assign rfl) trivial rfl ?_
 refine .q (op_assign rfl) trivial rfl ?_
 refine .nil ?_
 show Ev _ _ _ _ _
 refine .seq ?_
 refine .seq ?_
 refine .region ?_
 refine .q (op_move rfl) trivial rfl ?_
 refine .q (op_nilCheck rfl) trivial rfl ?_
 refine .q (op_fieldAddr (m := 0) Tryd.underlying35 rfl (by kernel_rfl) rfl) trivial rfl ?_
 refine .as (.ptr 500 35) rfl ?_
 refine .q (op_load Tryd.underlying33 rfl rfl rfl rfl (dC_ltt (i := 1) (by simp))) trivial rfl ?_
 refine .q (op_eqErrNil (e := 0) Tryd.underlying33 rfl rfl) trivial rfl ?_
 refine .nil ?_
 show Ev _ _ _ _ _
 refine .cond_false rfl (rfl) ?_
 refine .skip ?_
 show Ev _ _ _ _ _
 refine .seq ?_
 refine .region ?_
 refine .q (op_move rfl) trivial rfl ?_
 refine .q (op_call (U := []) [(500, 500), (501, 501)] [] (first_t e key hk n q k l hq hl eo) Tryd.func19 (by kernel_rfl) rfl rfl rfl (⟨⟨_, rfl, rfl, rfl⟩, trivial⟩) (⟨⟨_, _, rfl, rfl, rfl, rfl, (fun h => by cases h), rfl⟩, ⟨_, _, rfl, rfl, rfl, rfl, (fun h => by cases h), rfl⟩, ⟨_, _, rfl, rfl, rfl, rfl, (fun h => by cases h), rfl⟩, ⟨_, _, rfl, rfl, rfl, rfl, (fun h => by cases h), rfl⟩, ⟨_, _, rfl, rfl, rfl, rfl, (fun h => by cases h), rfl⟩, ⟨_, _, rfl, rfl, rfl, rfl, (fun h => by cases h), rfl⟩, ⟨_, _, rfl, rfl, rfl, rfl, (fun h => by cases h), rfl⟩, trivial⟩) (trivial) (⟨(fun h => by cases h), (fun h => by cases h), (fun h => by cases h), (fun h => by cases h), (fun h => by cases h), (fun h => by cases h), (fun h => by cases h), trivial⟩) rfl) trivial rfl ?_
 refine .q (op_move rfl) trivial rfl ?_
 refine .q (op_extract rfl rfl) trivial rfl ?_
 refine .q (op_extract rfl rfl) trivial rfl ?_
 refine .q (op_extract rfl rfl) trivial rfl ?_
 refine .q (op_assign rfl) trivial rfl ?_
 refine .q (op_assign rfl) trivial rfl ?_
 refine .q (op_assign rfl) trivial rfl ?_
 refine .nil ?_
 show Ev _ _ _ _ _
 refine .seq ?_
 refine .seq ?_
 refine .region ?_
 refine .q (op_move rfl) trivial rfl ?_
 refine .q (op_eqErrNil (e := (firstP true key n (l.drop q)).2.2) Tryd.underlying33 rfl rfl) trivial rfl ?_
 refine .nil ?_
 show Ev _ _ _ _ _
 refine .cond_false rfl (by rw [hE]; rfl) ?_
 refine .skip ?_
 show Ev _ _ _ _ _
 refine .seq ?_
 refine .seq ?_
 refine .region ?_
 refine .q (op_move rfl) trivial rfl ?_
 refine .q (op_cmpI rfl rfl rfl) trivial rfl ?_
 refine .nil ?_
 show Ev _ _ _ _ _
 refine .cond_false rfl (decide_eq_false (by omega)) ?_
 refine .skip ?_
 show Ev _ _ _ _ _
 refine .seq ?_
 refine .region ?_
 refine .q (op_move rfl) trivial rfl ?_
 refine .q (op_move rfl) trivial rfl ?_
 refine .q (op_nilCheck rfl) trivial rfl ?_
 refine .q (op_fieldAddr (m := 0) Tryd.underlying35 rfl (by kernel_rfl) rfl) trivial rfl ?_
 refine .as (.ptr 500 34) rfl ?_
 refine .q (op_load Tryd.underlying31 rfl rfl rfl rfl (dC_ltt (i := 0) (by simp))) trivial rfl ?_
 refine .q (op_move rfl) trivial rfl ?_
 refine .q (op_slice_sl Tryd.underlying31 inf5.sz rfl (bnd_some rfl (l := (firstP true key n (l.drop q)).2.1) rfl) rfl (by first | exact hle | omega) (by first | exact hle | omega)) trivial rfl ?_
 refine .as (.sl 501 (q + (firstP true key n (l.drop q)).2.1) (k - (firstP true key n (l.drop q)).2.1) 1) (by rw [Nat.mul_one]) ?_
 refine .q (op_nilCheck rfl) trivial rfl ?_
 refine .q (op_fieldAddr (m := 0) Tryd.underlying35 rfl (by kernel_rfl) rfl) trivial rfl ?_
 refine .as (.ptr 500 34) rfl ?_
 refine .w (op_store (c' := dC true key n [.sl 501 (q + (firstP true key n (l.drop q)).2.1) (k - (firstP true key n (l.drop q)).2.1) 1, .err 131 (0) (offE eo (0))]) rfl rfl rfl rfl rfl rfl (dC_ltt (i := 0) (by simp))) trivial rfl ?_
 refine .nil ?_
 show Ev _ _ _ _ _
 refine .seq ?_
 refine .region ?_
 refine .q (op_move rfl) trivial rfl ?_
 refine .q (op_nilCheck rfl) trivial rfl ?_
 refine .q (op_fieldAddr (m := 33) Tryd.underlying35 rfl (by kernel_rfl) rfl) trivial rfl ?_
 refine .as (.ptr 500 0) rfl ?_
 refine .q (op_fieldAddr (m := 0) Tryd.underlying28 rfl (by kernel_rfl) rfl) trivial rfl ?_
 refine .as (.ptr 500 33) rfl ?_
 refine .q (op_load Tryd.underlying26 rfl rfl rfl rfl (dC_lt (by decide))) trivial rfl ?_
 refine .q (op_bin64 rfl rfl rfl) trivial rfl ?_
 refine .q (op_nilCheck rfl) trivial rfl ?_
 refine .q (op_fieldAddr (m := 33) Tryd.underlying35 rfl (by kernel_rfl) rfl) trivial rfl ?_
 refine .as (.ptr 500 0) rfl ?_
 refine .q (op_fieldAddr (m := 0) Tryd.underlying28 rfl (by kernel_rfl) rfl) trivial rfl ?_
 refine .as (.ptr 500 33) rfl ?_
 refine .w (op_store (c' := dC true key (n + 1) [.sl 501 (q + (firstP true key n (l.drop q)).2.1) (k - (firstP true key n (l.drop q)).2.1) 1, .err 131 (0) (offE eo (0))]) rfl rfl rfl rfl rfl rfl (dC_lt (by decide))) trivial rfl ?_
 refine .nil ?_
 show Ev _ _ _ _ _
 refine .seq ?_
 refine .region ?_
 refine .q (op_move rfl) trivial rfl ?_
 refine .q (op_assign rfl) trivial rfl ?_
 refine .q (op_assign rfl) trivial rfl ?_
 refine .q (op_assign rfl) trivial rfl ?_
 refine .asR (.err 131 (0) (offE eo (0))) (nil_err _ _) ?_
 refine .nil ?_
 show Ev _ _ _ _ _
 refine .ret ?_
 show RetOk _ _ _ _ _ _ _
 exact ret3v rfl (.inl rfl) rfl rfl rfl (rfl) (rfl) (rfl) ⟨rfl, trivial⟩
set_option maxRecDepth 100000 in
theorem next_none_f (e : Nat) (key : List UInt8) (hk : key.length = 32) (n : UInt64) (q k : Nat) (l : List UInt8) (hq : q + k = l.length) (hl : l.length ≤ 1000000) (hE : (firstP false key n (l.drop q)).2.2 = 0) (h0 : (firstP false key n (l.drop q)).2.1 = 0) (eo : Nat → Nat × Nat) : Meets Tryd.prog 9 [.ptr 500 0] [(500, some ⟨dC false key n ([.sl 501 (q) (k) 1, .err 131 (0) (offE eo (0))]), 35, false⟩), (501, some ⟨.aggB l, 5, false⟩), (3, some ⟨.aggI qsTab, e, false⟩), (0, some ⟨.agg [.err 131 (2) (offE eo (2))], errT, false⟩), (2, some ⟨.agg [.err 131 (3) (offE eo (3))], errT, false⟩), (1, some ⟨.agg [.err 131 (4) (offE eo (4))], errT, false⟩), (4, some ⟨.agg [.err 131 (5) (offE eo (5))], errT, false⟩)] (.tup [.str [], .bool false, .err 131 (0) (offE eo (0))]) [] := by
 refine meets_of_ev (nt := 58) Tryd.func9 rfl rfl (Nat.le_of_ble_eq_true rfl) ?_
 refine .seq ?_
 refine .region ?_
 refine .q (op_assign rfl) trivial rfl ?_
 refine .q (op_assign rfl) trivial rfl ?_
 refine .q (op_assign rfl) trivial rfl ?_
 refine .nil ?_
 show Ev _ _ _ _ _
 refine .seq ?_
 refine .seq ?_
 refine .region ?_
 refine .q (op_move rfl) trivial rfl ?_
 refine .q (op_nilCheck rfl) trivial rfl ?_
 refine .q (op_fieldAddr (m := 0) Tryd.underlying35 rfl (by kernel_rfl) rfl) trivial rfl ?_
 refine .as (.ptr 500 35) rfl ?_
 refine .q (op_load Tryd.underlying33 rfl rfl rfl rfl (dC_ltt (i := 1) (by simp))) trivial rfl ?_
 refine .q (op_eqErrNil (e := 0) Tryd.underlying33 rfl rfl) trivial rfl ?_
 refine .nil ?_
 show Ev _ _ _ _ _
 refine .cond_false rfl (rfl) ?_
 refine .skip ?_
 show Ev _ _ _ _ _
 refine .seq ?_
 refine .region ?_
 refine .q (op_move rfl) trivial rfl ?_
 refine .q (op_call (U := []) [(500, 500), (501, 501)] [] (first_f e key hk n q k l hq hl eo) Tryd.func19 (by kernel_rfl) rfl rfl rfl (⟨⟨_, rfl, rfl, rfl⟩, trivial⟩) (⟨⟨_, _, rfl, rfl, rfl, rfl, (fun h => by cases h), rfl⟩, ⟨_, _, rfl, rfl, rfl, rfl, (fun h => by cases h), rfl⟩, ⟨_, _, rfl, rfl, rfl, rfl, (fun h => by cases h), rfl⟩, ⟨_, _, rfl, rfl, rfl, rfl, (fun h => by cases h), rfl⟩, ⟨_, _, rfl, rfl, rfl, rfl, (fun h => by cases h), rfl⟩, ⟨_, _, rfl, rfl, rfl, rfl, (fun h => by cases h), rfl⟩, ⟨_, _, rfl, rfl, rfl, rfl, (fun h => by cases h), rfl⟩, trivial⟩) (trivial) (⟨(fun h => by cases h), (fun h => by cases h), (fun h => by cases h), (fun h => by cases h), (fun h => by cases h), (fun h => by cases h), (fun h => by cases h), trivial⟩) rfl) trivial rfl ?_
 refine .q (op_move rfl) trivial rfl ?_
 refine .q (op_extract rfl rfl) trivial rfl ?_
 refine .q (op_extract rfl rfl) trivial rfl ?_
 refine .q (op_extract rfl rfl) trivial rfl ?_
 refine .q (op_assign rfl) trivial rfl ?_
 refine .q (op_assign rfl) trivial rfl ?_
 refine .q (op_assign rfl) trivial rfl ?_
 refine .nil ?_
 show Ev _ _ _ _ _
 refine .seq ?_
 refine .seq ?_
 refine .region ?_
 refine .q (op_move rfl) trivial rfl ?_
 refine .q (op_eqErrNil (e := (firstP false key n (l.drop q)).2.2) Tryd.underlying33 rfl rfl) trivial rfl ?_
 refine .nil ?_
 show Ev _ _ _ _ _
 refine .cond_false rfl (by rw [hE]; rfl) ?_
 refine .skip ?_
 show Ev _ _ _ _ _
 refine .seq ?_
 refine .seq ?_
 refine .region ?_
 refine .q (op_move rfl) trivial rfl ?_
 refine .q (op_cmpI rfl rfl rfl) trivial rfl ?_
 refine .nil ?_
 show Ev _ _ _ _ _
 refine .cond_true rfl (by rw [h0]; rfl) ?_
 refine .seq ?_
 refine .region ?_
 refine .q (op_assign rfl) trivial rfl ?_
 refine .q (op_assign rfl) trivial rfl ?_
 refine .q (op_assign rfl) trivial rfl ?_
 refine .asR (.err 131 (0) (offE eo (0))) (nil_err _ _) ?_
 refine .nil ?_
 show Ev _ _ _ _ _
 refine .ret ?_
 show RetOk _ _ _ _ _ _ _
 exact ret3v rfl (.inl rfl) rfl rfl rfl (rfl) (rfl) (rfl) trivial
set_option maxRecDepth 100000 in
theorem waits_ev (b : Bool) (key : List UInt8) (n : UInt64) (q k : Nat) (eo : Nat → Nat × Nat) : Meets Tryd.prog 11 [.ptr 500 0] [(500, some ⟨dC b key n ([.sl 501 (q) (k) 1, .err 131 (0) (offE eo (0))]), 35, false⟩)] (.i64 (k : Int)) [] := by
 refine meets_of_ev (nt := 8) Tryd.func11 rfl rfl (Nat.le_of_ble_eq_true rfl) ?_
 refine .seq ?_
 refine .region ?_
 refine .q (op_assign rfl) trivial rfl ?_
 refine .nil ?_
 show Ev _ _ _ _ _
 refine .seq ?_
 refine .region ?_
 refine .q (op_move rfl) trivial rfl ?_
 refine .q (op_nilCheck rfl) trivial rfl ?_
 refine .q (op_fieldAddr (m := 0) Tryd.underlying35 rfl (by kernel_rfl) rfl) trivial rfl ?_
 refine .as (.ptr 500 34) rfl ?_
 refine .q (op_load Tryd.underlying31 rfl rfl rfl rfl (dC_ltt (i := 0) (by simp))) trivial rfl ?_
 refine .q (op_len_sl Tryd.underlying31 rfl) trivial rfl ?_
 refine .q (op_assign rfl) trivial rfl ?_
 refine .nil ?_
 show Ev _ _ _ _ _
 refine .ret ?_
 show RetOk _ _ _ _ _ _ _
 exact ret1v rfl (.inl rfl) rfl (rfl) trivial
set_option maxRecDepth 100000 in
theorem waits_nil (b : Bool) (key : List UInt8) (n : UInt64) (eo : Nat → Nat × Nat) : Meets Tryd.prog 11 [.ptr 500 0] [(500, some ⟨dC b key n ([.nilsl, .err 131 (0) (offE eo (0))]), 35, false⟩)] (.i64 0) [] := by
 refine meets_of_ev (nt := 8) Tryd.func11 rfl rfl (Nat.le_of_ble_eq_true rfl) ?_
 refine .seq ?_
 refine .region ?_
 refine .q (op_assign rfl) trivial rfl ?_
 refine .nil ?_
 show Ev _ _ _ _ _
 refine .seq ?_
 refine .region ?_
 refine .q (op_move rfl) trivial rfl ?_
 refine .q (op_nilCheck rfl) trivial rfl ?_
 refine .q (op_fieldAddr (m := 0) Tryd.underlying35 rfl (by kernel_rfl) rfl) trivial rfl ?_
 refine .as (.ptr 500 34) rfl ?_
 refine .q (op_load Tryd.underlying31 rfl rfl rfl rfl (dC_ltt (i := 0) (by simp))) trivial rfl ?_
 refine .q (op_len_nil Tryd.underlying31 rfl) trivial rfl ?_
 refine .q (op_assign rfl) trivial rfl ?_
 refine .nil ?_
 show Ev _ _ _ _ _
 refine .ret ?_
 show RetOk _ _ _ _ _ _ _
 exact ret1v rfl (.inl rfl) rfl (rfl) trivial
end Go.Proofs.YtidjfinookikcaaDoor
