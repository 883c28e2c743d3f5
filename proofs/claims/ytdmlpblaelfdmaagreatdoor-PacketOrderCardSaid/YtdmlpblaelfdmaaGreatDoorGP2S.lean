/-
  Texts of this claim.
-/
import Derived.Test.YtdmlpblaelfdmaaGreatDoorGPCS
namespace Go.Proofs.YtdmlpblaelfdmaaGreatDoor
open Go.RowKit
set_option maxRecDepth 100000 in
theorem popen_mac (e : Nat) (key nonce s extra : List UInt8) (hk : key.length = 32) (hn : nonce.length = 12) (hS : s.length ≤ 1000000) (hE : extra.length ≤ 1000000) (h16 : ¬ s.length < 16) (hTag : ¬ s.drop (s.length - 16) = (tagL key nonce (s.take (s.length - 16)) extra)) (eo : Nat → Nat × Nat) : Meets Tryz.prog 113 [.aggB key, .aggB nonce, .str s, .str extra] [(22, some ⟨.aggI qsTab, e, false⟩), (4, some ⟨.agg [.err 269 (5) (offE eo (5))], errT, false⟩)] (.tup [.str [], .err 269 (5) (offE eo (5))]) [] := by
 refine meets_of_ev (nt := 42) Tryz.func113 rfl rfl (Nat.le_of_ble_eq_true rfl) ?_
 refine .seq ?_
 refine .region ?_
 refine .a (op_boxRow rfl rfl) trivial rfl ?_
 refine .a (op_boxRow rfl rfl) trivial rfl ?_
 refine .q (op_assign rfl) trivial rfl ?_
 refine .q (op_assign rfl) trivial rfl ?_
 refine .nil ?_
 show Ev _ _ _ _ _
 refine .seq ?_
 refine .seq ?_
 refine .region ?_
 refine .q (op_move rfl) trivial rfl ?_
 refine .q (op_len_str Tryz.underlying9 rfl) trivial rfl ?_
 refine .q (op_cmpI rfl rfl rfl) trivial rfl ?_
 refine .nil ?_
 show Ev _ _ _ _ _
 refine .cond_false rfl (decide_eq_false (by omega)) ?_
 refine .skip ?_
 show Ev _ _ _ _ _
 refine .seq ?_
 refine .drawn [[], [], [1], [1, 2], [0, 1, 2, 3], [], [], [6], [6, 7], [5, 6, 7, 8], [0, 1, 2, 3, 4], [0, 1, 2, 3, 4, 5, 6, 7, 8, 9, 10]] [] [] (by kernel_rfl) (by kernel_rfl) rfl ?_
 show DK _ [0, 1, 2, 3, 4, 5, 6, 7, 8, 9, 10, 11] _ _ _
 refine .q rfl (op_move rfl) trivial ?_
 refine .q rfl (op_move rfl) trivial ?_
 refine .q rfl (op_len_str Tryz.underlying9 rfl) trivial ?_
 refine .q rfl (op_subI rfl rfl ⟨by omega, by omega⟩) trivial ?_
 refine .q rfl (ap_slice_str_hi Tryz.underlying9 rfl (bnd_some rfl (l := s.length - 16) (by omega)) (by omega)) trivial ?_
 refine .q rfl (op_move rfl) trivial ?_
 refine .q rfl (op_move rfl) trivial ?_
 refine .q rfl (op_len_str Tryz.underlying9 rfl) trivial ?_
 refine .q rfl (op_subI rfl rfl ⟨by omega, by omega⟩) trivial ?_
 refine .q rfl (ap_slice_str_lo Tryz.underlying9 rfl (bnd_some rfl (l := s.length - 16) (by omega)) (by omega)) trivial ?_
 refine .q rfl (op_assign rfl) trivial ?_
 refine .q rfl (op_assign rfl) trivial ?_
 refine .nil ?_
 show Ev _ _ _ _ _
 refine .seq ?_
 refine .region ?_
 refine .q (op_loadRow Tryz.underlying24 rfl sz24 rfl rfl rfl (hk)) trivial rfl ?_
 refine .q (op_loadRow Tryz.underlying88 rfl sz88 rfl rfl rfl (hn)) trivial rfl ?_
 refine .q (op_move rfl) trivial rfl ?_
 refine .q (op_move rfl) trivial rfl ?_
 refine .q (op_call (U := []) [] [] (tagOf_ev e key nonce (s.take (s.length - 16)) extra hk hn (by simp; omega) hE) Tryz.func67 (by kernel_rfl) rfl rfl rfl (⟨⟨_, rfl, rfl, rfl⟩, ⟨_, rfl, rfl, rfl⟩, ⟨_, rfl, rfl, rfl⟩, ⟨_, rfl, rfl, rfl⟩, trivial⟩) (⟨⟨_, _, rfl, rfl, rfl, rfl, (fun h => by cases h), rfl⟩, trivial⟩) (trivial) (⟨(fun h => by cases h), trivial⟩) rfl) trivial rfl ?_
 refine .as (.aggB (tagL key nonce (s.take (s.length - 16)) extra)) rfl ?_
 refine .a (op_allocRow zero122 rel_zero122 rfl) trivial rfl ?_
 refine .w (op_storeRow sz122 rfl rfl rfl rfl rfl (by first | rfl | simp [AV.len, length_tagL]) (by first | rfl | simp [AV.len, length_tagL])) trivial rfl ?_
 refine .nil ?_
 show Ev _ _ _ _ _
 refine .seq ?_
 refine .seq ?_
 refine .region ?_
 refine .q (op_move rfl) trivial rfl ?_
 refine .q (ap_slice_arr_hi Tryz.underlying122 inf5.sz rfl rfl (by first | omega | (simp [AV.len, length_tagL]; done)) (by decide) rfl (by first | omega | (simp [AV.len, length_tagL]; done))) trivial rfl ?_
 refine .q (op_bytes_str Tryz.underlying33 Tryz.underlying5 Tryz.underlying9 rfl rfl rfl (by simp [length_tagL])) trivial rfl ?_
 refine .as (.str (tagL key nonce (s.take (s.length - 16)) extra)) (by rw [List.drop_zero, List.take_of_length_le (by simp [length_tagL])]) ?_
 refine .q (op_call (U := []) [] [] (same_ev _ _ (by simp; omega) (by simp [length_tagL])) Tryz.func162 (by kernel_rfl) rfl rfl rfl (⟨⟨_, rfl, rfl, rfl⟩, ⟨_, rfl, rfl, rfl⟩, trivial⟩) (trivial) (trivial) (trivial) rfl) trivial rfl ?_
 refine .q (op_notB rfl) trivial rfl ?_
 refine .nil ?_
 show Ev _ _ _ _ _
 refine .cond_true rfl (by rw [beq_eq_false_iff_ne.2 hTag]; rfl) ?_
 refine .seq ?_
 refine .drawn [[], [], [0, 1]] [0] [] (by kernel_rfl) (by kernel_rfl) rfl ?_
 show DK _ [0, 1, 2] _ _ _
 refine .q rfl (op_load Tryz.underlying36 rfl rfl rfl rfl (by first | omega | (simp only [AV.len]; omega) | (simp only [AV.len]; omega) | assumption | (simp [AV.len]; done))) trivial ?_
 refine .q rfl (op_assign rfl) trivial ?_
 refine .q rfl (op_assign rfl) trivial ?_
 refine .nil ?_
 show Ev _ _ _ _ _
 refine .ret ?_
 show RetOk _ _ _ _ _ _ _
 exact ret2v rfl (.inl rfl) rfl rfl rfl rfl trivial
set_option maxRecDepth 100000 in
theorem popen_ok (e : Nat) (key nonce s extra : List UInt8) (hk : key.length = 32) (hn : nonce.length = 12) (hS : s.length ≤ 1000000) (hE : extra.length ≤ 1000000) (h16 : ¬ s.length < 16) (hTag : s.drop (s.length - 16) = (tagL key nonce (s.take (s.length - 16)) extra)) (eo : Nat → Nat × Nat) : Meets Tryz.prog 113 [.aggB key, .aggB nonce, .str s, .str extra] [(22, some ⟨.aggI qsTab, e, false⟩)] (.tup [.str (cXor key (UInt32.ofNat 1) nonce (s.take (s.length - 16))), .err 269 (0) (offE eo (0))]) [] := by
 refine meets_of_ev (nt := 42) Tryz.func113 rfl rfl (Nat.le_of_ble_eq_true rfl) ?_
 refine .seq ?_
 refine .region ?_
 refine .a (op_boxRow rfl rfl) trivial rfl ?_
 refine .a (op_boxRow rfl rfl) trivial rfl ?_
 refine .q (op_assign rfl) trivial rfl ?_
 refine .q (op_assign rfl) trivial rfl ?_
 refine .nil ?_
 show Ev _ _ _ _ _
 refine .seq ?_
 refine .seq ?_
 refine .region ?_
 refine .q (op_move rfl) trivial rfl ?_
 refine .q (op_len_str Tryz.underlying9 rfl) trivial rfl ?_
 refine .q (op_cmpI rfl rfl rfl) trivial rfl ?_
 refine .nil ?_
 show Ev _ _ _ _ _
 refine .cond_false rfl (decide_eq_false (by omega)) ?_
 refine .skip ?_
 show Ev _ _ _ _ _
 refine .seq ?_
 refine .drawn [[], [], [1], [1, 2], [0, 1, 2, 3], [], [], [6], [6, 7], [5, 6, 7, 8], [0, 1, 2, 3, 4], [0, 1, 2, 3, 4, 5, 6, 7, 8, 9, 10]] [] [] (by kernel_rfl) (by kernel_rfl) rfl ?_
 show DK _ [0, 1, 2, 3, 4, 5, 6, 7, 8, 9, 10, 11] _ _ _
 refine .q rfl (op_move rfl) trivial ?_
 refine .q rfl (op_move rfl) trivial ?_
 refine .q rfl (op_len_str Tryz.underlying9 rfl) trivial ?_
 refine .q rfl (op_subI rfl rfl ⟨by omega, by omega⟩) trivial ?_
 refine .q rfl (ap_slice_str_hi Tryz.underlying9 rfl (bnd_some rfl (l := s.length - 16) (by omega)) (by omega)) trivial ?_
 refine .q rfl (op_move rfl) trivial ?_
 refine .q rfl (op_move rfl) trivial ?_
 refine .q rfl (op_len_str Tryz.underlying9 rfl) trivial ?_
 refine .q rfl (op_subI rfl rfl ⟨by omega, by omega⟩) trivial ?_
 refine .q rfl (ap_slice_str_lo Tryz.underlying9 rfl (bnd_some rfl (l := s.length - 16) (by omega)) (by omega)) trivial ?_
 refine .q rfl (op_assign rfl) trivial ?_
 refine .q rfl (op_assign rfl) trivial ?_
 refine .nil ?_
 show Ev _ _ _ _ _
 refine .seq ?_
 refine .region ?_
 refine .q (op_loadRow Tryz.underlying24 rfl sz24 rfl rfl rfl (hk)) trivial rfl ?_
 refine .q (op_loadRow Tryz.underlying88 rfl sz88 rfl rfl rfl (hn)) trivial rfl ?_
 refine .q (op_move rfl) trivial rfl ?_
 refine .q (op_move rfl) trivial rfl ?_
 refine .q (op_call (U := []) [] [] (tagOf_ev e key nonce (s.take (s.length - 16)) extra hk hn (by simp; omega) hE) Tryz.func67 (by kernel_rfl) rfl rfl rfl (⟨⟨_, rfl, rfl, rfl⟩, ⟨_, rfl, rfl, rfl⟩, ⟨_, rfl, rfl, rfl⟩, ⟨_, rfl, rfl, rfl⟩, trivial⟩) (⟨⟨_, _, rfl, rfl, rfl, rfl, (fun h => by cases h), rfl⟩, trivial⟩) (trivial) (⟨(fun h => by cases h), trivial⟩) rfl) trivial rfl ?_
 refine .as (.aggB (tagL key nonce (s.take (s.length - 16)) extra)) rfl ?_
 refine .a (op_allocRow zero122 rel_zero122 rfl) trivial rfl ?_
 refine .w (op_storeRow sz122 rfl rfl rfl rfl rfl (by first | rfl | simp [AV.len, length_tagL]) (by first | rfl | simp [AV.len, length_tagL])) trivial rfl ?_
 refine .nil ?_
 show Ev _ _ _ _ _
 refine .seq ?_
 refine .seq ?_
 refine .region ?_
 refine .q (op_move rfl) trivial rfl ?_
 refine .q (ap_slice_arr_hi Tryz.underlying122 inf5.sz rfl rfl (by first | omega | (simp [AV.len, length_tagL]; done)) (by decide) rfl (by first | omega | (simp [AV.len, length_tagL]; done))) trivial rfl ?_
 refine .q (op_bytes_str Tryz.underlying33 Tryz.underlying5 Tryz.underlying9 rfl rfl rfl (by simp [length_tagL])) trivial rfl ?_
 refine .as (.str (tagL key nonce (s.take (s.length - 16)) extra)) (by rw [List.drop_zero, List.take_of_length_le (by simp [length_tagL])]) ?_
 refine .q (op_call (U := []) [] [] (same_ev _ _ (by simp; omega) (by simp [length_tagL])) Tryz.func162 (by kernel_rfl) rfl rfl rfl (⟨⟨_, rfl, rfl, rfl⟩, ⟨_, rfl, rfl, rfl⟩, trivial⟩) (trivial) (trivial) (trivial) rfl) trivial rfl ?_
 refine .q (op_notB rfl) trivial rfl ?_
 refine .nil ?_
 show Ev _ _ _ _ _
 refine .cond_false rfl (by simp [hTag]) ?_
 refine .skip ?_
 show Ev _ _ _ _ _
 refine .seq ?_
 refine .region ?_
 refine .q (op_loadRow Tryz.underlying24 rfl sz24 rfl rfl rfl (hk)) trivial rfl ?_
 refine .q (op_loadRow Tryz.underlying88 rfl sz88 rfl rfl rfl (hn)) trivial rfl ?_
 refine .q (op_move rfl) trivial rfl ?_
 refine .q (op_call (U := []) [] [] (cxor_ev e key nonce (s.take (s.length - 16)) (UInt32.ofNat 1) hk hn (by simp; omega)) Tryz.func66 (by kernel_rfl) rfl rfl rfl (⟨⟨_, rfl, rfl, rfl⟩, ⟨_, rfl, rfl, rfl⟩, ⟨_, rfl, rfl, rfl⟩, ⟨_, rfl, rfl, rfl⟩, trivial⟩) (⟨⟨_, _, rfl, rfl, rfl, rfl, (fun h => by cases h), rfl⟩, trivial⟩) (trivial) (⟨(fun h => by cases h), trivial⟩) rfl) trivial rfl ?_
 refine .as (.str (cXor key (UInt32.ofNat 1) nonce (s.take (s.length - 16)))) rfl ?_
 refine .q (op_assign rfl) trivial rfl ?_
 refine .q (op_assign rfl) trivial rfl ?_
 refine .asR (.err 269 (0) (offE eo (0))) (nil_err _ _) ?_
 refine .nil ?_
 show Ev _ _ _ _ _
 refine .ret ?_
 show RetOk _ _ _ _ _ _ _
 exact ret2v rfl (.inl rfl) rfl rfl rfl rfl trivial
end Go.Proofs.YtdmlpblaelfdmaaGreatDoor
