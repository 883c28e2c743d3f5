/-
  Texts of this claim.
-/
import Derived.Test.YtgblhjmnenmlkaaDoorGP
import Derived.Test.YtgblhjmnenmlkaaDoorGK2
namespace Go.Proofs.YtgblhjmnenmlkaaDoor
open Go.RowKit
set_option maxRecDepth 100000 in
theorem popen_end (key nonce s extra : List UInt8) (h16 : s.length < 16) (eo : Nat → Nat × Nat) : Meets Tryd.prog 13 [.aggB key, .aggB nonce, .str s, .str extra] [(0, some ⟨.agg [.err 192 (2) (offE eo (2))], errT, false⟩)] (.tup [.str [], .err 192 (2) (offE eo (2))]) [] := by
  refine meets_of_ev (nt := 42) Tryd.func13 rfl rfl (Nat.le_of_ble_eq_true rfl) ?_
  refine .seq ?_
  refine .region ?_
  refine .a (op_boxRow rfl rfl) trivial rfl ?_
  refine .a (op_boxRow rfl rfl) trivial rfl ?_
  refine .q (op_assign rfl) trivial rfl ?_
  refine .q (op_assign rfl) trivial rfl ?_
  refine .nil ?_
  show Ev _ _ _ _ _
  refine .seq ?_
  refine .seq ?_
  refine .region ?_
  refine .q (op_move rfl) trivial rfl ?_
  refine .q (op_len_str Tryd.underlying9 rfl) trivial rfl ?_
  refine .q (op_cmpI rfl rfl rfl) trivial rfl ?_
  refine .nil ?_
  show Ev _ _ _ _ _
  refine .cond_true rfl (decide_eq_true (by omega)) ?_
  refine .seq ?_
  refine .drawn [[], [], [0, 1]] [0] [] (by kernel_rfl) (by kernel_rfl) rfl ?_
  show DK _ [0, 1, 2] _ _ _
  refine .q rfl (op_load Tryd.underlying31 rfl rfl rfl rfl (by first | omega | (simp only [AV.len]; omega) | (simp only [AV.len]; omega) | assumption | (simp [AV.len]; done))) trivial ?_
  refine .q rfl (op_assign rfl) trivial ?_
  refine .q rfl (op_assign rfl) trivial ?_
  refine .nil ?_
  show Ev _ _ _ _ _
  refine .ret ?_
  show RetOk _ _ _ _ _ _ _
  exact ret2v rfl (.inl rfl) rfl rfl rfl rfl trivial
set_option maxRecDepth 100000 in
theorem popen_mac (e : Nat) (key nonce s extra : List UInt8) (hk : key.length = 32) (hn : nonce.length = 12) (hS : s.length ≤ 1000000) (hE : extra.length ≤ 1000000) (h16 : ¬ s.length < 16) (hTag : ¬ s.drop (s.length - 16) = (tagL key nonce (s.take (s.length - 16)) extra)) (eo : Nat → Nat × Nat) : Meets Tryd.prog 13 [.aggB key, .aggB nonce, .str s, .str extra] [(21, some ⟨.aggI qsTab, e, false⟩), (1, some ⟨.agg [.err 192 (5) (offE eo (5))], errT, false⟩)] (.tup [.str [], .err 192 (5) (offE eo (5))]) [] := by
  refine meets_of_ev (nt := 42) Tryd.func13 rfl rfl (Nat.le_of_ble_eq_true rfl) ?_
  refine .seq ?_
  refine .region ?_
  refine .a (op_boxRow rfl rfl) trivial rfl ?_
  refine .a (op_boxRow rfl rfl) trivial rfl ?_
  refine .q (op_assign rfl) trivial rfl ?_
  refine .q (op_assign rfl) trivial rfl ?_
  refine .nil ?_
  show Ev _ _ _ _ _
  refine .seq ?_
  refine .seq ?_
  refine .region ?_
  refine .q (op_move rfl) trivial rfl ?_
  refine .q (op_len_str Tryd.underlying9 rfl) trivial rfl ?_
  refine .q (op_cmpI rfl rfl rfl) trivial rfl ?_
  refine .nil ?_
  show Ev _ _ _ _ _
  refine .cond_false rfl (decide_eq_false (by omega)) ?_
  refine .skip ?_
  show Ev _ _ _ _ _
  refine .seq ?_
  refine .drawn [[], [], [1], [1, 2], [0, 1, 2, 3], [], [], [6], [6, 7], [5, 6, 7, 8], [0, 1, 2, 3, 4], [0, 1, 2, 3, 4, 5, 6, 7, 8, 9, 10]] [] [] (by kernel_rfl) (by kernel_rfl) rfl ?_
  show DK _ [0, 1, 2, 3, 4, 5, 6, 7, 8, 9, 10, 11] _ _ _
  refine .q rfl (op_move rfl) trivial ?_
  refine .q rfl (op_move rfl) trivial ?_
  refine .q rfl (op_len_str Tryd.underlying9 rfl) trivial ?_
  refine .q rfl (op_subI rfl rfl ⟨by omega, by omega⟩) trivial ?_
  refine .q rfl (ap_slice_str_hi Tryd.underlying9 rfl (bnd_some rfl (l := s.length - 16) (by omega)) (by omega)) trivial ?_
  refine .q rfl (op_move rfl) trivial ?_
  refine .q rfl (op_move rfl) trivial ?_
  refine .q rfl (op_len_str Tryd.underlying9 rfl) trivial ?_
  refine .q rfl (op_subI rfl rfl ⟨by omega, by omega⟩) trivial ?_
  refine .q rfl (ap_slice_str_lo Tryd.underlying9 rfl (bnd_some rfl (l := s.length - 16) (by omega)) (by omega)) trivial ?_
  refine .q rfl (op_assign rfl) trivial ?_
  refine .q rfl (op_assign rfl) trivial ?_
  refine .nil ?_
  show Ev _ _ _ _ _
  refine .seq ?_
  refine .region ?_
  refine .q (op_loadRow Tryd.underlying22 rfl sz22 rfl rfl rfl (hk)) trivial rfl ?_
  refine .q (op_loadRow Tryd.underlying34 rfl sz34 rfl rfl rfl (hn)) trivial rfl ?_
  refine .q (op_move rfl) trivial rfl ?_
  refine .q (op_move rfl) trivial rfl ?_
  refine .q (op_call (U := []) [] [] (tagOf_ev e key nonce (s.take (s.length - 16)) extra hk hn (by simp; omega) hE) Tryd.func60 (by kernel_rfl) rfl rfl rfl (⟨⟨_, rfl, rfl, rfl⟩, ⟨_, rfl, rfl, rfl⟩, ⟨_, rfl, rfl, rfl⟩, ⟨_, rfl, rfl, rfl⟩, trivial⟩) (⟨⟨_, _, rfl, rfl, rfl, rfl, (fun h => by cases h), rfl⟩, trivial⟩) (trivial) (⟨(fun h => by cases h), trivial⟩) rfl) trivial rfl ?_
  refine .as (.aggB (tagL key nonce (s.take (s.length - 16)) extra)) rfl ?_
  refine .a (op_allocRow zero25 rel_zero25 rfl) trivial rfl ?_
  refine .w (op_storeRow sz25 rfl rfl rfl rfl rfl (by first | rfl | simp [AV.len, length_tagL]) (by first | rfl | simp [AV.len, length_tagL])) trivial rfl ?_
  refine .nil ?_
  show Ev _ _ _ _ _
  refine .seq ?_
  refine .seq ?_
  refine .region ?_
  refine .q (op_move rfl) trivial rfl ?_
  refine .q (ap_slice_arr_hi Tryd.underlying25 inf5.sz rfl rfl (by first | omega | (simp [AV.len, length_tagL]; done)) (by decide) rfl (by first | omega | (simp [AV.len, length_tagL]; done))) trivial rfl ?_
  refine .q (op_bytes_str Tryd.underlying23 Tryd.underlying5 Tryd.underlying9 rfl rfl rfl (by simp [length_tagL])) trivial rfl ?_
  refine .as (.str (tagL key nonce (s.take (s.length - 16)) extra)) (by rw [List.drop_zero, List.take_of_length_le (by simp [length_tagL])]) ?_
  refine .q (op_call (U := []) [] [] (same_ev _ _ (by simp; omega) (by simp [length_tagL])) Tryd.func61 (by kernel_rfl) rfl rfl rfl (⟨⟨_, rfl, rfl, rfl⟩, ⟨_, rfl, rfl, rfl⟩, trivial⟩) (trivial) (trivial) (trivial) rfl) trivial rfl ?_
  refine .q (op_notB rfl) trivial rfl ?_
  refine .nil ?_
  show Ev _ _ _ _ _
  refine .cond_true rfl (by rw [beq_eq_false_iff_ne.2 hTag]; rfl) ?_
  refine .seq ?_
  refine .drawn [[], [], [0, 1]] [0] [] (by kernel_rfl) (by kernel_rfl) rfl ?_
  show DK _ [0, 1, 2] _ _ _
  refine .q rfl (op_load Tryd.underlying31 rfl rfl rfl rfl (by first | omega | (simp only [AV.len]; omega) | (simp only [AV.len]; omega) | assumption | (simp [AV.len]; done))) trivial ?_
  refine .q rfl (op_assign rfl) trivial ?_
  refine .q rfl (op_assign rfl) trivial ?_
  refine .nil ?_
  show Ev _ _ _ _ _
  refine .ret ?_
  show RetOk _ _ _ _ _ _ _
  exact ret2v rfl (.inl rfl) rfl rfl rfl rfl trivial
set_option maxRecDepth 100000 in
theorem popen_ok (e : Nat) (key nonce s extra : List UInt8) (hk : key.length = 32) (hn : nonce.length = 12) (hS : s.length ≤ 1000000) (hE : extra.length ≤ 1000000) (h16 : ¬ s.length < 16) (hTag : s.drop (s.length - 16) = (tagL key nonce (s.take (s.length - 16)) extra)) (eo : Nat → Nat × Nat) : Meets Tryd.prog 13 [.aggB key, .aggB nonce, .str s, .str extra] [(21, some ⟨.aggI qsTab, e, false⟩)] (.tup [.str (cXor key (UInt32.ofNat 1) nonce (s.take (s.length - 16))), .err 192 (0) (offE eo (0))]) [] := by
  refine meets_of_ev (nt := 42) Tryd.func13 rfl rfl (Nat.le_of_ble_eq_true rfl) ?_
  refine .seq ?_
  refine .region ?_
  refine .a (op_boxRow rfl rfl) trivial rfl ?_
  refine .a (op_boxRow rfl rfl) trivial rfl ?_
  refine .q (op_assign rfl) trivial rfl ?_
  refine .q (op_assign rfl) trivial rfl ?_
  refine .nil ?_
  show Ev _ _ _ _ _
  refine .seq ?_
  refine .seq ?_
  refine .region ?_
  refine .q (op_move rfl) trivial rfl ?_
  refine .q (op_len_str Tryd.underlying9 rfl) trivial rfl ?_
  refine .q (op_cmpI rfl rfl rfl) trivial rfl ?_
  refine .nil ?_
  show Ev _ _ _ _ _
  refine .cond_false rfl (decide_eq_false (by omega)) ?_
  refine .skip ?_
  show Ev _ _ _ _ _
  refine .seq ?_
  refine .drawn [[], [], [1], [1, 2], [0, 1, 2, 3], [], [], [6], [6, 7], [5, 6, 7, 8], [0, 1, 2, 3, 4], [0, 1, 2, 3, 4, 5, 6, 7, 8, 9, 10]] [] [] (by kernel_rfl) (by kernel_rfl) rfl ?_
  show DK _ [0, 1, 2, 3, 4, 5, 6, 7, 8, 9, 10, 11] _ _ _
  refine .q rfl (op_move rfl) trivial ?_
  refine .q rfl (op_move rfl) trivial ?_
  refine .q rfl (op_len_str Tryd.underlying9 rfl) trivial ?_
  refine .q rfl (op_subI rfl rfl ⟨by omega, by omega⟩) trivial ?_
  refine .q rfl (ap_slice_str_hi Tryd.underlying9 rfl (bnd_some rfl (l := s.length - 16) (by omega)) (by omega)) trivial ?_
  refine .q rfl (op_move rfl) trivial ?_
  refine .q rfl (op_move rfl) trivial ?_
  refine .q rfl (op_len_str Tryd.underlying9 rfl) trivial ?_
  refine .q rfl (op_subI rfl rfl ⟨by omega, by omega⟩) trivial ?_
  refine .q rfl (ap_slice_str_lo Tryd.underlying9 rfl (bnd_some rfl (l := s.length - 16) (by omega)) (by omega)) trivial ?_
  refine .q rfl (op_assign rfl) trivial ?_
  refine .q rfl (op_assign rfl) trivial ?_
  refine .nil ?_
  show Ev _ _ _ _ _
  refine .seq ?_
  refine .region ?_
  refine .q (op_loadRow Tryd.underlying22 rfl sz22 rfl rfl rfl (hk)) trivial rfl ?_
  refine .q (op_loadRow Tryd.underlying34 rfl sz34 rfl rfl rfl (hn)) trivial rfl ?_
  refine .q (op_move rfl) trivial rfl ?_
  refine .q (op_move rfl) trivial rfl ?_
  refine .q (op_call (U := []) [] [] (tagOf_ev e key nonce (s.take (s.length - 16)) extra hk hn (by simp; omega) hE) Tryd.func60 (by kernel_rfl) rfl rfl rfl (⟨⟨_, rfl, rfl, rfl⟩, ⟨_, rfl, rfl, rfl⟩, ⟨_, rfl, rfl, rfl⟩, ⟨_, rfl, rfl, rfl⟩, trivial⟩) (⟨⟨_, _, rfl, rfl, rfl, rfl, (fun h => by cases h), rfl⟩, trivial⟩) (trivial) (⟨(fun h => by cases h), trivial⟩) rfl) trivial rfl ?_
  refine .as (.aggB (tagL key nonce (s.take (s.length - 16)) extra)) rfl ?_
  refine .a (op_allocRow zero25 rel_zero25 rfl) trivial rfl ?_
  refine .w (op_storeRow sz25 rfl rfl rfl rfl rfl (by first | rfl | simp [AV.len, length_tagL]) (by first | rfl | simp [AV.len, length_tagL])) trivial rfl ?_
  refine .nil ?_
  show Ev _ _ _ _ _
  refine .seq ?_
  refine .seq ?_
  refine .region ?_
  refine .q (op_move rfl) trivial rfl ?_
  refine .q (ap_slice_arr_hi Tryd.underlying25 inf5.sz rfl rfl (by first | omega | (simp [AV.len, length_tagL]; done)) (by decide) rfl (by first | omega | (simp [AV.len, length_tagL]; done))) trivial rfl ?_
  refine .q (op_bytes_str Tryd.underlying23 Tryd.underlying5 Tryd.underlying9 rfl rfl rfl (by simp [length_tagL])) trivial rfl ?_
  refine .as (.str (tagL key nonce (s.take (s.length - 16)) extra)) (by rw [List.drop_zero, List.take_of_length_le (by simp [length_tagL])]) ?_
  refine .q (op_call (U := []) [] [] (same_ev _ _ (by simp; omega) (by simp [length_tagL])) Tryd.func61 (by kernel_rfl) rfl rfl rfl (⟨⟨_, rfl, rfl, rfl⟩, ⟨_, rfl, rfl, rfl⟩, trivial⟩) (trivial) (trivial) (trivial) rfl) trivial rfl ?_
  refine .q (op_notB rfl) trivial rfl ?_
  refine .nil ?_
  show Ev _ _ _ _ _
  refine .cond_false rfl (by simp [hTag]) ?_
  refine .skip ?_
  show Ev _ _ _ _ _
  refine .seq ?_
  refine .region ?_
  refine .q (op_loadRow Tryd.underlying22 rfl sz22 rfl rfl rfl (hk)) trivial rfl ?_
  refine .q (op_loadRow Tryd.underlying34 rfl sz34 rfl rfl rfl (hn)) trivial rfl ?_
  refine .q (op_move rfl) trivial rfl ?_
  refine .q (op_call (U := []) [] [] (cxor_ev e key nonce (s.take (s.length - 16)) (UInt32.ofNat 1) hk hn (by simp; omega)) Tryd.func62 (by kernel_rfl) rfl rfl rfl (⟨⟨_, rfl, rfl, rfl⟩, ⟨_, rfl, rfl, rfl⟩, ⟨_, rfl, rfl, rfl⟩, ⟨_, rfl, rfl, rfl⟩, trivial⟩) (⟨⟨_, _, rfl, rfl, rfl, rfl, (fun h => by cases h), rfl⟩, trivial⟩) (trivial) (⟨(fun h => by cases h), trivial⟩) rfl) trivial rfl ?_
  refine .as (.str (cXor key (UInt32.ofNat 1) nonce (s.take (s.length - 16)))) rfl ?_
  refine .q (op_assign rfl) trivial rfl ?_
  refine .q (op_assign rfl) trivial rfl ?_
  refine .asR (.err 192 (0) (offE eo (0))) (nil_err _ _) ?_
  refine .nil ?_
  show Ev _ _ _ _ _
  refine .ret ?_
  show RetOk _ _ _ _ _ _ _
  exact ret2v rfl (.inl rfl) rfl rfl rfl rfl trivial
set_option maxRecDepth 100000 in
theorem ropen_end (key nonce s extra : List UInt8) (_hk : key.length = 32) (_hn : nonce.length = 12) (hS : s.length ≤ 1000000) (_hE : extra.length ≤ 1000000) (h16 : s.length < 16) : Meets Tryd.prog 14 [.str key, .str nonce, .str s, .str extra] [] (.tup [.str [], .i64 2]) [] := by
  refine meets_of_ev (nt := 34) Tryd.func14 rfl rfl (Nat.le_of_ble_eq_true rfl) ?_
  refine .seq ?_
  refine .region ?_
  refine .q (op_assign rfl) trivial rfl ?_
  refine .q (op_assign rfl) trivial rfl ?_
  refine .nil ?_
  show Ev _ _ _ _ _
  refine .seq ?_
  refine .seq ?_
  refine .region ?_
  refine .q (op_move rfl) trivial rfl ?_
  refine .q (op_len_str Tryd.underlying9 rfl) trivial rfl ?_
  refine .q (op_cmpI rfl rfl rfl) trivial rfl ?_
  refine .nil ?_
  show Ev _ _ _ _ _
  refine .cond_true rfl (decide_eq_true (by omega)) ?_
  refine .seq ?_
  refine .region ?_
  refine .q (op_assign rfl) trivial rfl ?_
  refine .q (op_assign rfl) trivial rfl ?_
  refine .nil ?_
  show Ev _ _ _ _ _
  refine .ret ?_
  show RetOk _ _ _ _ _ _ _
  exact ret2v rfl (.inl rfl) rfl rfl rfl rfl trivial
set_option maxRecDepth 100000 in
theorem ropen_mac (key nonce s extra : List UInt8) (hk : key.length = 32) (hn : nonce.length = 12) (hS : s.length ≤ 1000000) (hE : extra.length ≤ 1000000) (h16 : ¬ s.length < 16) (hTag : ¬ s.drop (s.length - 16) = (tagL key nonce (s.take (s.length - 16)) extra)) : Meets Tryd.prog 14 [.str key, .str nonce, .str s, .str extra] [] (.tup [.str [], .i64 5]) [] := by
  refine meets_of_ev (nt := 34) Tryd.func14 rfl rfl (Nat.le_of_ble_eq_true rfl) ?_
  refine .seq ?_
  refine .region ?_
  refine .q (op_assign rfl) trivial rfl ?_
  refine .q (op_assign rfl) trivial rfl ?_
  refine .nil ?_
  show Ev _ _ _ _ _
  refine .seq ?_
  refine .seq ?_
  refine .region ?_
  refine .q (op_move rfl) trivial rfl ?_
  refine .q (op_len_str Tryd.underlying9 rfl) trivial rfl ?_
  refine .q (op_cmpI rfl rfl rfl) trivial rfl ?_
  refine .nil ?_
  show Ev _ _ _ _ _
  refine .cond_false rfl (decide_eq_false (by omega)) ?_
  refine .skip ?_
  show Ev _ _ _ _ _
  refine .seq ?_
  refine .region ?_
  refine .q (op_move rfl) trivial rfl ?_
  refine .q (op_len_str Tryd.underlying9 rfl) trivial rfl ?_
  refine .q (op_subI rfl rfl ⟨by omega, by omega⟩) trivial rfl ?_
  refine .as (.i64 ((s.length - 16 : Nat) : Int)) (congrArg AV.i64 (by omega)) ?_
  refine .q (op_assign rfl) trivial rfl ?_
  refine .nil ?_
  show Ev _ _ _ _ _
  refine .seq ?_
  refine .seq ?_
  refine .drawn [[], [], [], [], [2, 3], [], [0, 1, 2, 3, 4, 5], [], [], [7, 8], [0, 1, 2, 3, 4, 5, 6, 7, 8, 9]] [6] [] (by kernel_rfl) (by kernel_rfl) rfl ?_
  show DK _ [0, 1, 2, 3, 4, 5, 6, 7, 8, 9, 10] _ _ _
  refine .q rfl (op_move rfl) trivial ?_
  refine .q rfl (op_move rfl) trivial ?_
  refine .q rfl (op_move rfl) trivial ?_
  refine .q rfl (op_move rfl) trivial ?_
  refine .q rfl (ap_slice_str_hi Tryd.underlying9 rfl (bnd_some rfl (l := s.length - 16) rfl) (by omega)) trivial ?_
  refine .q rfl (op_move rfl) trivial ?_
  refine .q rfl (op_call (U := []) [] [] (mark_ev key nonce (s.take (s.length - 16)) extra hk hn (by simp; omega) hE) Tryd.func63 (by kernel_rfl) rfl rfl rfl (⟨⟨_, rfl, rfl, rfl⟩, ⟨_, rfl, rfl, rfl⟩, ⟨_, rfl, rfl, rfl⟩, ⟨_, rfl, rfl, rfl⟩, trivial⟩) (trivial) (trivial) (trivial) rfl) trivial ?_
  refine .q rfl (op_move rfl) trivial ?_
  refine .q rfl (op_move rfl) trivial ?_
  refine .q rfl (ap_slice_str_lo Tryd.underlying9 rfl (bnd_some rfl (l := s.length - 16) rfl) (by omega)) trivial ?_
  refine .q rfl (op_eqS rfl rfl rfl) trivial ?_
  refine .nil ?_
  show Ev _ _ _ _ _
  refine .cond_true rfl (bne_iff_ne.2 (fun h => hTag h.symm)) ?_
  refine .seq ?_
  refine .region ?_
  refine .q (op_assign rfl) trivial rfl ?_
  refine .q (op_assign rfl) trivial rfl ?_
  refine .nil ?_
  show Ev _ _ _ _ _
  refine .ret ?_
  show RetOk _ _ _ _ _ _ _
  exact ret2v rfl (.inl rfl) rfl rfl rfl rfl trivial
set_option maxRecDepth 100000 in
theorem ropen_ok (key nonce s extra : List UInt8) (hk : key.length = 32) (hn : nonce.length = 12) (hS : s.length ≤ 1000000) (hE : extra.length ≤ 1000000) (h16 : ¬ s.length < 16) (hTag : s.drop (s.length - 16) = (tagL key nonce (s.take (s.length - 16)) extra)) : Meets Tryd.prog 14 [.str key, .str nonce, .str s, .str extra] [] (.tup [.str (cXor key (UInt32.ofNat 1) nonce (s.take (s.length - 16))), .i64 0]) [] := by
  refine meets_of_ev (nt := 34) Tryd.func14 rfl rfl (Nat.le_of_ble_eq_true rfl) ?_
  refine .seq ?_
  refine .region ?_
  refine .q (op_assign rfl) trivial rfl ?_
  refine .q (op_assign rfl) trivial rfl ?_
  refine .nil ?_
  show Ev _ _ _ _ _
  refine .seq ?_
  refine .seq ?_
  refine .region ?_
  refine .q (op_move rfl) trivial rfl ?_
  refine .q (op_len_str Tryd.underlying9 rfl) trivial rfl ?_
  refine .q (op_cmpI rfl rfl rfl) trivial rfl ?_
  refine .nil ?_
  show Ev _ _ _ _ _
  refine .cond_false rfl (decide_eq_false (by omega)) ?_
  refine .skip ?_
  show Ev _ _ _ _ _
  refine .seq ?_
  refine .region ?_
  refine .q (op_move rfl) trivial rfl ?_
  refine .q (op_len_str Tryd.underlying9 rfl) trivial rfl ?_
  refine .q (op_subI rfl rfl ⟨by omega, by omega⟩) trivial rfl ?_
  refine .as (.i64 ((s.length - 16 : Nat) : Int)) (congrArg AV.i64 (by omega)) ?_
  refine .q (op_assign rfl) trivial rfl ?_
  refine .nil ?_
  show Ev _ _ _ _ _
  refine .seq ?_
  refine .seq ?_
  refine .drawn [[], [], [], [], [2, 3], [], [0, 1, 2, 3, 4, 5], [], [], [7, 8], [0, 1, 2, 3, 4, 5, 6, 7, 8, 9]] [6] [] (by kernel_rfl) (by kernel_rfl) rfl ?_
  show DK _ [0, 1, 2, 3, 4, 5, 6, 7, 8, 9, 10] _ _ _
  refine .q rfl (op_move rfl) trivial ?_
  refine .q rfl (op_move rfl) trivial ?_
  refine .q rfl (op_move rfl) trivial ?_
  refine .q rfl (op_move rfl) trivial ?_
  refine .q rfl (ap_slice_str_hi Tryd.underlying9 rfl (bnd_some rfl (l := s.length - 16) rfl) (by omega)) trivial ?_
  refine .q rfl (op_move rfl) trivial ?_
  refine .q rfl (op_call (U := []) [] [] (mark_ev key nonce (s.take (s.length - 16)) extra hk hn (by simp; omega) hE) Tryd.func63 (by kernel_rfl) rfl rfl rfl (⟨⟨_, rfl, rfl, rfl⟩, ⟨_, rfl, rfl, rfl⟩, ⟨_, rfl, rfl, rfl⟩, ⟨_, rfl, rfl, rfl⟩, trivial⟩) (trivial) (trivial) (trivial) rfl) trivial ?_
  refine .q rfl (op_move rfl) trivial ?_
  refine .q rfl (op_move rfl) trivial ?_
  refine .q rfl (ap_slice_str_lo Tryd.underlying9 rfl (bnd_some rfl (l := s.length - 16) rfl) (by omega)) trivial ?_
  refine .q rfl (op_eqS rfl rfl rfl) trivial ?_
  refine .nil ?_
  show Ev _ _ _ _ _
  refine .cond_false rfl (bne_eq_false_iff_eq.2 hTag.symm) ?_
  refine .skip ?_
  show Ev _ _ _ _ _
  refine .seq ?_
  refine .region ?_
  refine .q (op_move rfl) trivial rfl ?_
  refine .q (op_move rfl) trivial rfl ?_
  refine .q (op_move rfl) trivial rfl ?_
  refine .q (op_move rfl) trivial rfl ?_
  refine .q (ap_slice_str_hi Tryd.underlying9 rfl (bnd_some rfl (l := s.length - 16) rfl) (by omega)) trivial rfl ?_
  refine .q (op_call (U := []) [] [] (refCxor_ev key nonce (s.take (s.length - 16)) (UInt32.ofNat 1) _ rfl hk hn (by simp; omega)) Tryd.func64 (by kernel_rfl) rfl rfl rfl (⟨⟨_, rfl, rfl, rfl⟩, ⟨_, rfl, rfl, rfl⟩, ⟨_, rfl, rfl, rfl⟩, ⟨_, rfl, rfl, rfl⟩, trivial⟩) (trivial) (trivial) (trivial) rfl) trivial rfl ?_
  refine .as (.str (cXor key (UInt32.ofNat 1) nonce (s.take (s.length - 16)))) rfl ?_
  refine .q (op_assign rfl) trivial rfl ?_
  refine .q (op_assign rfl) trivial rfl ?_
  refine .nil ?_
  show Ev _ _ _ _ _
  refine .ret ?_
  show RetOk _ _ _ _ _ _ _
  exact ret2v rfl (.inl rfl) rfl rfl rfl rfl trivial
set_option maxRecDepth 100000 in
theorem polyOpens_end (eo : Nat → Nat × Nat) (hd : ∀ i j, i < 20 → j < 20 → i ≠ j → eo i ≠ eo j) (e : Nat) (key s extra : List UInt8) (hk : key.length = 32) (hs : s.length ≤ maxLen) (he : extra.length ≤ maxLen) (h16 : (s.take 100).length < 16) : Meets Tryd.prog 4 [.aggB key, .str s, .str extra] [(21, some ⟨.aggI qsTab, e, false⟩), (2, some ⟨.agg [.err 192 (1) (offE eo (1))], errT, false⟩), (0, some ⟨.agg [.err 192 (2) (offE eo (2))], errT, false⟩), (3, some ⟨.agg [.err 192 (3) (offE eo (3))], errT, false⟩), (4, some ⟨.agg [.err 192 (4) (offE eo (4))], errT, false⟩), (1, some ⟨.agg [.err 192 (5) (offE eo (5))], errT, false⟩), (5, some ⟨.agg [.err 192 (6) (offE eo (6))], errT, false⟩), (6, some ⟨.agg [.err 192 (7) (offE eo (7))], errT, false⟩), (7, some ⟨.agg [.err 192 (8) (offE eo (8))], errT, false⟩), (8, some ⟨.agg [.err 192 (9) (offE eo (9))], errT, false⟩), (9, some ⟨.agg [.err 192 (10) (offE eo (10))], errT, false⟩), (10, some ⟨.agg [.err 192 (11) (offE eo (11))], errT, false⟩), (11, some ⟨.agg [.err 192 (12) (offE eo (12))], errT, false⟩), (12, some ⟨.agg [.err 192 (13) (offE eo (13))], errT, false⟩), (13, some ⟨.agg [.err 192 (14) (offE eo (14))], errT, false⟩), (14, some ⟨.agg [.err 192 (15) (offE eo (15))], errT, false⟩), (15, some ⟨.agg [.err 192 (16) (offE eo (16))], errT, false⟩), (16, some ⟨.agg [.err 192 (17) (offE eo (17))], errT, false⟩), (17, some ⟨.agg [.err 192 (18) (offE eo (18))], errT, false⟩), (18, some ⟨.agg [.err 192 (19) (offE eo (19))], errT, false⟩), (19, some ⟨.agg [.err 192 (20) (offE eo (20))], errT, false⟩), (401, some ⟨.agg [], errT, false⟩), (402, some ⟨.agg [], errT, false⟩), (403, some ⟨.agg [], errT, false⟩), (404, some ⟨.agg [], errT, false⟩), (405, some ⟨.agg [], errT, false⟩), (406, some ⟨.agg [], errT, false⟩), (407, some ⟨.agg [], errT, false⟩), (408, some ⟨.agg [], errT, false⟩), (409, some ⟨.agg [], errT, false⟩), (410, some ⟨.agg [], errT, false⟩), (411, some ⟨.agg [], errT, false⟩), (412, some ⟨.agg [], errT, false⟩), (413, some ⟨.agg [], errT, false⟩), (414, some ⟨.agg [], errT, false⟩), (415, some ⟨.agg [], errT, false⟩), (416, some ⟨.agg [], errT, false⟩), (417, some ⟨.agg [], errT, false⟩), (418, some ⟨.agg [], errT, false⟩), (419, some ⟨.agg [], errT, false⟩), (420, some ⟨.agg [], errT, false⟩)] (.bool true) [] := by
  refine meets_of_ev (nt := 44) Tryd.func4 rfl rfl (Nat.le_of_ble_eq_true rfl) ?_
  refine .seq ?_
  refine .region ?_
  refine .a (op_boxRow rfl rfl) trivial rfl ?_
  refine .q (op_assign rfl) trivial rfl ?_
  refine .nil ?_
  show Ev _ _ _ _ _
  refine .seq ?_
  refine .seq ?_
  refine .region ?_
  refine .q (op_call (U := []) [] [] (awake4_ev e) Tryd.func9 (by kernel_rfl) rfl rfl rfl (trivial) (⟨⟨_, _, rfl, rfl, rfl, rfl, (fun h => by cases h), rfl⟩, trivial⟩) (trivial) (⟨(fun h => by cases h), trivial⟩) rfl) trivial rfl ?_
  refine .q (op_notB rfl) trivial rfl ?_
  refine .nil ?_
  show Ev _ _ _ _ _
  refine .cond_false rfl (rfl) ?_
  refine .skip ?_
  show Ev _ _ _ _ _
  refine .seq ?_
  refine .region ?_
  refine .q (op_move rfl) trivial rfl ?_
  refine .q (op_call (U := []) [] [] (cut_ev s 100 hs (by decide)) Tryd.func12 (by kernel_rfl) rfl rfl rfl (⟨⟨_, rfl, rfl, rfl⟩, ⟨_, rfl, rfl, rfl⟩, trivial⟩) (trivial) (trivial) (trivial) rfl) trivial rfl ?_
  refine .q (op_move rfl) trivial rfl ?_
  refine .q (op_call (U := []) [] [] (cut_ev extra 40 he (by decide)) Tryd.func12 (by kernel_rfl) rfl rfl rfl (⟨⟨_, rfl, rfl, rfl⟩, ⟨_, rfl, rfl, rfl⟩, trivial⟩) (trivial) (trivial) (trivial) rfl) trivial rfl ?_
  refine .q (op_assign rfl) trivial rfl ?_
  refine .q (op_assign rfl) trivial rfl ?_
  refine .nil ?_
  show Ev _ _ _ _ _
  refine .seq ?_
  refine .region ?_
  refine .q (op_loadRow Tryd.underlying22 rfl sz22 rfl rfl rfl (hk)) trivial rfl ?_
  refine .q (op_buildArr (us := []) Tryd.underlying34 inf5.sz zero34 rel_zero34 rfl (by decide) trivial rfl) trivial rfl ?_
  refine .q (op_move rfl) trivial rfl ?_
  refine .q (op_move rfl) trivial rfl ?_
  refine .q (op_call (U := []) [] [] (popen_end key (List.replicate 12 (0 : UInt8)) (s.take 100) (extra.take 40) h16 eo) Tryd.func13 (by kernel_rfl) rfl rfl rfl (⟨⟨_, rfl, rfl, rfl⟩, ⟨_, rfl, rfl, rfl⟩, ⟨_, rfl, rfl, rfl⟩, ⟨_, rfl, rfl, rfl⟩, trivial⟩) (⟨⟨_, _, rfl, rfl, rfl, rfl, (fun h => by cases h), rfl⟩, trivial⟩) (trivial) (⟨(fun h => by cases h), trivial⟩) rfl) trivial rfl ?_
  refine .q (op_move rfl) trivial rfl ?_
  refine .q (op_extract rfl rfl) trivial rfl ?_
  refine .q (op_extract rfl rfl) trivial rfl ?_
  refine .q (op_assign rfl) trivial rfl ?_
  refine .q (op_assign rfl) trivial rfl ?_
  refine .nil ?_
  show Ev _ _ _ _ _
  refine .seq ?_
  refine .drawn [[], [0], [], [2], [], [], [0, 1, 2, 3, 4, 5], [0, 1, 2, 3, 4, 5, 6], [0, 1, 2, 3, 4, 5, 6, 7], [0, 1, 2, 3, 4, 5, 6, 7], [0, 1, 2, 3, 4, 5, 6, 7, 8], [0, 1, 2, 3, 4, 5, 6, 7, 8, 9, 10]] [0, 1, 2, 3, 6] [] (by kernel_rfl) (by kernel_rfl) rfl ?_
  show DK _ [0, 1, 2, 3, 4, 5, 6, 7, 8, 9, 10, 11] _ _ _
  refine .q rfl (ap_slice_arr_hi Tryd.underlying22 inf5.sz rfl rfl (by first | omega | (simp [AV.len, hk]; done)) (by decide) rfl (by first | omega | (simp [AV.len, hk]; done))) trivial ?_
  refine .q rfl (op_bytes_str Tryd.underlying23 Tryd.underlying5 Tryd.underlying9 rfl rfl rfl (by simp [hk])) trivial ?_
  refine .as (.str key) (by rw [List.drop_zero, List.take_of_length_le (Nat.le_of_eq hk)]) ?_
  refine .a rfl (ap_make (n := 12) (c := .aggB (List.replicate 12 (0 : UInt8))) Tryd.underlying23 inf5 rfl rfl rfl rfl (by omega) (rel_zero5) rfl (by simp [AV.list, AV.parts])) trivial rfl rfl ?_
  refine .q rfl (op_bytes_str (k := ⟨.aggB (List.replicate 12 (0 : UInt8)), 5, true⟩) (l := (List.replicate 12 (0 : UInt8))) Tryd.underlying23 Tryd.underlying5 Tryd.underlying9 rfl (by kernel_rfl) rfl (by simp)) trivial ?_
  refine .as (.str (List.replicate 12 (0 : UInt8))) rfl ?_
  refine .q rfl (op_move rfl) trivial ?_
  refine .q rfl (op_move rfl) trivial ?_
  refine .q rfl (op_call (U := []) [] [] (ropen_end key (List.replicate 12 (0 : UInt8)) (s.take 100) (extra.take 40) hk rfl (by simp only [List.length_take]; omega) (by simp only [List.length_take]; omega) h16) Tryd.func14 (by kernel_rfl) rfl rfl rfl (⟨⟨_, rfl, rfl, rfl⟩, ⟨_, rfl, rfl, rfl⟩, ⟨_, rfl, rfl, rfl⟩, ⟨_, rfl, rfl, rfl⟩, trivial⟩) (trivial) (trivial) (trivial) rfl) trivial ?_
  refine .q rfl (op_move rfl) trivial ?_
  refine .q rfl (op_extract rfl rfl) trivial ?_
  refine .q rfl (op_extract rfl rfl) trivial ?_
  refine .q rfl (op_assign rfl) trivial ?_
  refine .q rfl (op_assign rfl) trivial ?_
  refine .nil ?_
  show Ev _ _ _ _ _
  refine .seq ?_
  refine .region ?_
  refine .q (op_move rfl) trivial rfl ?_
  refine .q (op_move rfl) trivial rfl ?_
  refine .q (op_eqS rfl rfl rfl) trivial rfl ?_
  refine .q (op_move rfl) trivial rfl ?_
  refine .know (b' := true) (beq_self_eq_true _) ?_
  refine .q (op_move rfl) ⟨_, rfl, rfl⟩ rfl ?_
  refine .q (op_call (U := []) [] [] (code_2 eo hd) Tryd.func15 (by kernel_rfl) rfl rfl rfl (⟨⟨_, rfl, rfl, rfl⟩, trivial⟩) (⟨⟨_, _, rfl, rfl, rfl, rfl, (fun h => by cases h), rfl⟩, ⟨_, _, rfl, rfl, rfl, rfl, (fun h => by cases h), rfl⟩, ⟨_, _, rfl, rfl, rfl, rfl, (fun h => by cases h), rfl⟩, ⟨_, _, rfl, rfl, rfl, rfl, (fun h => by cases h), rfl⟩, ⟨_, _, rfl, rfl, rfl, rfl, (fun h => by cases h), rfl⟩, ⟨_, _, rfl, rfl, rfl, rfl, (fun h => by cases h), rfl⟩, ⟨_, _, rfl, rfl, rfl, rfl, (fun h => by cases h), rfl⟩, ⟨_, _, rfl, rfl, rfl, rfl, (fun h => by cases h), rfl⟩, ⟨_, _, rfl, rfl, rfl, rfl, (fun h => by cases h), rfl⟩, ⟨_, _, rfl, rfl, rfl, rfl, (fun h => by cases h), rfl⟩, ⟨_, _, rfl, rfl, rfl, rfl, (fun h => by cases h), rfl⟩, ⟨_, _, rfl, rfl, rfl, rfl, (fun h => by cases h), rfl⟩, ⟨_, _, rfl, rfl, rfl, rfl, (fun h => by cases h), rfl⟩, ⟨_, _, rfl, rfl, rfl, rfl, (fun h => by cases h), rfl⟩, ⟨_, _, rfl, rfl, rfl, rfl, (fun h => by cases h), rfl⟩, ⟨_, _, rfl, rfl, rfl, rfl, (fun h => by cases h), rfl⟩, ⟨_, _, rfl, rfl, rfl, rfl, (fun h => by cases h), rfl⟩, ⟨_, _, rfl, rfl, rfl, rfl, (fun h => by cases h), rfl⟩, ⟨_, _, rfl, rfl, rfl, rfl, (fun h => by cases h), rfl⟩, ⟨_, _, rfl, rfl, rfl, rfl, (fun h => by cases h), rfl⟩, ⟨_, _, rfl, rfl, rfl, rfl, (fun h => by cases h), rfl⟩, ⟨_, _, rfl, rfl, rfl, rfl, (fun h => by cases h), rfl⟩, ⟨_, _, rfl, rfl, rfl, rfl, (fun h => by cases h), rfl⟩, ⟨_, _, rfl, rfl, rfl, rfl, (fun h => by cases h), rfl⟩, ⟨_, _, rfl, rfl, rfl, rfl, (fun h => by cases h), rfl⟩, ⟨_, _, rfl, rfl, rfl, rfl, (fun h => by cases h), rfl⟩, ⟨_, _, rfl, rfl, rfl, rfl, (fun h => by cases h), rfl⟩, ⟨_, _, rfl, rfl, rfl, rfl, (fun h => by cases h), rfl⟩, ⟨_, _, rfl, rfl, rfl, rfl, (fun h => by cases h), rfl⟩, ⟨_, _, rfl, rfl, rfl, rfl, (fun h => by cases h), rfl⟩, ⟨_, _, rfl, rfl, rfl, rfl, (fun h => by cases h), rfl⟩, ⟨_, _, rfl, rfl, rfl, rfl, (fun h => by cases h), rfl⟩, ⟨_, _, rfl, rfl, rfl, rfl, (fun h => by cases h), rfl⟩, ⟨_, _, rfl, rfl, rfl, rfl, (fun h => by cases h), rfl⟩, ⟨_, _, rfl, rfl, rfl, rfl, (fun h => by cases h), rfl⟩, ⟨_, _, rfl, rfl, rfl, rfl, (fun h => by cases h), rfl⟩, ⟨_, _, rfl, rfl, rfl, rfl, (fun h => by cases h), rfl⟩, ⟨_, _, rfl, rfl, rfl, rfl, (fun h => by cases h), rfl⟩, ⟨_, _, rfl, rfl, rfl, rfl, (fun h => by cases h), rfl⟩, ⟨_, _, rfl, rfl, rfl, rfl, (fun h => by cases h), rfl⟩, trivial⟩) (trivial) (⟨(fun h => by cases h), (fun h => by cases h), (fun h => by cases h), (fun h => by cases h), (fun h => by cases h), (fun h => by cases h), (fun h => by cases h), (fun h => by cases h), (fun h => by cases h), (fun h => by cases h), (fun h => by cases h), (fun h => by cases h), (fun h => by cases h), (fun h => by cases h), (fun h => by cases h), (fun h => by cases h), (fun h => by cases h), (fun h => by cases h), (fun h => by cases h), (fun h => by cases h), (fun h => by cases h), (fun h => by cases h), (fun h => by cases h), (fun h => by cases h), (fun h => by cases h), (fun h => by cases h), (fun h => by cases h), (fun h => by cases h), (fun h => by cases h), (fun h => by cases h), (fun h => by cases h), (fun h => by cases h), (fun h => by cases h), (fun h => by cases h), (fun h => by cases h), (fun h => by cases h), (fun h => by cases h), (fun h => by cases h), (fun h => by cases h), (fun h => by cases h), trivial⟩) rfl) ⟨_, rfl, rfl⟩ rfl ?_
  refine .q (op_move rfl) ⟨_, rfl, rfl⟩ rfl ?_
  refine .q (op_cmpI rfl rfl rfl) ⟨_, rfl, rfl⟩ rfl ?_
  refine .q (op_pick_true rfl rfl rfl) trivial rfl ?_
  refine .q (op_assign rfl) trivial rfl ?_
  refine .nil ?_
  show Ev _ _ _ _ _
  refine .ret ?_
  show RetOk _ _ _ _ _ _ _
  exact ret1v rfl (.inl rfl) rfl rfl trivial
set_option maxRecDepth 100000 in
theorem polyOpens_mac (eo : Nat → Nat × Nat) (hd : ∀ i j, i < 20 → j < 20 → i ≠ j → eo i ≠ eo j) (e : Nat) (key s extra : List UInt8) (hk : key.length = 32) (hs : s.length ≤ maxLen) (he : extra.length ≤ maxLen) (h16 : ¬ (s.take 100).length < 16) (hTag : ¬ (s.take 100).drop ((s.take 100).length - 16) = (tagL key (List.replicate 12 (0 : UInt8)) ((s.take 100).take ((s.take 100).length - 16)) (extra.take 40))) : Meets Tryd.prog 4 [.aggB key, .str s, .str extra] [(21, some ⟨.aggI qsTab, e, false⟩), (2, some ⟨.agg [.err 192 (1) (offE eo (1))], errT, false⟩), (0, some ⟨.agg [.err 192 (2) (offE eo (2))], errT, false⟩), (3, some ⟨.agg [.err 192 (3) (offE eo (3))], errT, false⟩), (4, some ⟨.agg [.err 192 (4) (offE eo (4))], errT, false⟩), (1, some ⟨.agg [.err 192 (5) (offE eo (5))], errT, false⟩), (5, some ⟨.agg [.err 192 (6) (offE eo (6))], errT, false⟩), (6, some ⟨.agg [.err 192 (7) (offE eo (7))], errT, false⟩), (7, some ⟨.agg [.err 192 (8) (offE eo (8))], errT, false⟩), (8, some ⟨.agg [.err 192 (9) (offE eo (9))], errT, false⟩), (9, some ⟨.agg [.err 192 (10) (offE eo (10))], errT, false⟩), (10, some ⟨.agg [.err 192 (11) (offE eo (11))], errT, false⟩), (11, some ⟨.agg [.err 192 (12) (offE eo (12))], errT, false⟩), (12, some ⟨.agg [.err 192 (13) (offE eo (13))], errT, false⟩), (13, some ⟨.agg [.err 192 (14) (offE eo (14))], errT, false⟩), (14, some ⟨.agg [.err 192 (15) (offE eo (15))], errT, false⟩), (15, some ⟨.agg [.err 192 (16) (offE eo (16))], errT, false⟩), (16, some ⟨.agg [.err 192 (17) (offE eo (17))], errT, false⟩), (17, some ⟨.agg [.err 192 (18) (offE eo (18))], errT, false⟩), (18, some ⟨.agg [.err 192 (19) (offE eo (19))], errT, false⟩), (19, some ⟨.agg [.err 192 (20) (offE eo (20))], errT, false⟩), (401, some ⟨.agg [], errT, false⟩), (402, some ⟨.agg [], errT, false⟩), (403, some ⟨.agg [], errT, false⟩), (404, some ⟨.agg [], errT, false⟩), (405, some ⟨.agg [], errT, false⟩), (406, some ⟨.agg [], errT, false⟩), (407, some ⟨.agg [], errT, false⟩), (408, some ⟨.agg [], errT, false⟩), (409, some ⟨.agg [], errT, false⟩), (410, some ⟨.agg [], errT, false⟩), (411, some ⟨.agg [], errT, false⟩), (412, some ⟨.agg [], errT, false⟩), (413, some ⟨.agg [], errT, false⟩), (414, some ⟨.agg [], errT, false⟩), (415, some ⟨.agg [], errT, false⟩), (416, some ⟨.agg [], errT, false⟩), (417, some ⟨.agg [], errT, false⟩), (418, some ⟨.agg [], errT, false⟩), (419, some ⟨.agg [], errT, false⟩), (420, some ⟨.agg [], errT, false⟩)] (.bool true) [] := by
  refine meets_of_ev (nt := 44) Tryd.func4 rfl rfl (Nat.le_of_ble_eq_true rfl) ?_
  refine .seq ?_
  refine .region ?_
  refine .a (op_boxRow rfl rfl) trivial rfl ?_
  refine .q (op_assign rfl) trivial rfl ?_
  refine .nil ?_
  show Ev _ _ _ _ _
  refine .seq ?_
  refine .seq ?_
  refine .region ?_
  refine .q (op_call (U := []) [] [] (awake4_ev e) Tryd.func9 (by kernel_rfl) rfl rfl rfl (trivial) (⟨⟨_, _, rfl, rfl, rfl, rfl, (fun h => by cases h), rfl⟩, trivial⟩) (trivial) (⟨(fun h => by cases h), trivial⟩) rfl) trivial rfl ?_
  refine .q (op_notB rfl) trivial rfl ?_
  refine .nil ?_
  show Ev _ _ _ _ _
  refine .cond_false rfl (rfl) ?_
  refine .skip ?_
  show Ev _ _ _ _ _
  refine .seq ?_
  refine .region ?_
  refine .q (op_move rfl) trivial rfl ?_
  refine .q (op_call (U := []) [] [] (cut_ev s 100 hs (by decide)) Tryd.func12 (by kernel_rfl) rfl rfl rfl (⟨⟨_, rfl, rfl, rfl⟩, ⟨_, rfl, rfl, rfl⟩, trivial⟩) (trivial) (trivial) (trivial) rfl) trivial rfl ?_
  refine .q (op_move rfl) trivial rfl ?_
  refine .q (op_call (U := []) [] [] (cut_ev extra 40 he (by decide)) Tryd.func12 (by kernel_rfl) rfl rfl rfl (⟨⟨_, rfl, rfl, rfl⟩, ⟨_, rfl, rfl, rfl⟩, trivial⟩) (trivial) (trivial) (trivial) rfl) trivial rfl ?_
  refine .q (op_assign rfl) trivial rfl ?_
  refine .q (op_assign rfl) trivial rfl ?_
  refine .nil ?_
  show Ev _ _ _ _ _
  refine .seq ?_
  refine .region ?_
  refine .q (op_loadRow Tryd.underlying22 rfl sz22 rfl rfl rfl (hk)) trivial rfl ?_
  refine .q (op_buildArr (us := []) Tryd.underlying34 inf5.sz zero34 rel_zero34 rfl (by decide) trivial rfl) trivial rfl ?_
  refine .q (op_move rfl) trivial rfl ?_
  refine .q (op_move rfl) trivial rfl ?_
  refine .q (op_call (U := []) [] [] (popen_mac e key (List.replicate 12 (0 : UInt8)) (s.take 100) (extra.take 40) hk rfl (by simp only [List.length_take]; omega) (by simp only [List.length_take]; omega) h16 hTag eo) Tryd.func13 (by kernel_rfl) rfl rfl rfl (⟨⟨_, rfl, rfl, rfl⟩, ⟨_, rfl, rfl, rfl⟩, ⟨_, rfl, rfl, rfl⟩, ⟨_, rfl, rfl, rfl⟩, trivial⟩) (⟨⟨_, _, rfl, rfl, rfl, rfl, (fun h => by cases h), rfl⟩, ⟨_, _, rfl, rfl, rfl, rfl, (fun h => by cases h), rfl⟩, trivial⟩) (trivial) (⟨(fun h => by cases h), (fun h => by cases h), trivial⟩) rfl) trivial rfl ?_
  refine .q (op_move rfl) trivial rfl ?_
  refine .q (op_extract rfl rfl) trivial rfl ?_
  refine .q (op_extract rfl rfl) trivial rfl ?_
  refine .q (op_assign rfl) trivial rfl ?_
  refine .q (op_assign rfl) trivial rfl ?_
  refine .nil ?_
  show Ev _ _ _ _ _
  refine .seq ?_
  refine .drawn [[], [0], [], [2], [], [], [0, 1, 2, 3, 4, 5], [0, 1, 2, 3, 4, 5, 6], [0, 1, 2, 3, 4, 5, 6, 7], [0, 1, 2, 3, 4, 5, 6, 7], [0, 1, 2, 3, 4, 5, 6, 7, 8], [0, 1, 2, 3, 4, 5, 6, 7, 8, 9, 10]] [0, 1, 2, 3, 6] [] (by kernel_rfl) (by kernel_rfl) rfl ?_
  show DK _ [0, 1, 2, 3, 4, 5, 6, 7, 8, 9, 10, 11] _ _ _
  refine .q rfl (ap_slice_arr_hi Tryd.underlying22 inf5.sz rfl rfl (by first | omega | (simp [AV.len, hk]; done)) (by decide) rfl (by first | omega | (simp [AV.len, hk]; done))) trivial ?_
  refine .q rfl (op_bytes_str Tryd.underlying23 Tryd.underlying5 Tryd.underlying9 rfl rfl rfl (by simp [hk])) trivial ?_
  refine .as (.str key) (by rw [List.drop_zero, List.take_of_length_le (Nat.le_of_eq hk)]) ?_
  refine .a rfl (ap_make (n := 12) (c := .aggB (List.replicate 12 (0 : UInt8))) Tryd.underlying23 inf5 rfl rfl rfl rfl (by omega) (rel_zero5) rfl (by simp [AV.list, AV.parts])) trivial rfl rfl ?_
  refine .q rfl (op_bytes_str (k := ⟨.aggB (List.replicate 12 (0 : UInt8)), 5, true⟩) (l := (List.replicate 12 (0 : UInt8))) Tryd.underlying23 Tryd.underlying5 Tryd.underlying9 rfl (by kernel_rfl) rfl (by simp)) trivial ?_
  refine .as (.str (List.replicate 12 (0 : UInt8))) rfl ?_
  refine .q rfl (op_move rfl) trivial ?_
  refine .q rfl (op_move rfl) trivial ?_
  refine .q rfl (op_call (U := []) [] [] (ropen_mac key (List.replicate 12 (0 : UInt8)) (s.take 100) (extra.take 40) hk rfl (by simp only [List.length_take]; omega) (by simp only [List.length_take]; omega) h16 hTag) Tryd.func14 (by kernel_rfl) rfl rfl rfl (⟨⟨_, rfl, rfl, rfl⟩, ⟨_, rfl, rfl, rfl⟩, ⟨_, rfl, rfl, rfl⟩, ⟨_, rfl, rfl, rfl⟩, trivial⟩) (trivial) (trivial) (trivial) rfl) trivial ?_
  refine .q rfl (op_move rfl) trivial ?_
  refine .q rfl (op_extract rfl rfl) trivial ?_
  refine .q rfl (op_extract rfl rfl) trivial ?_
  refine .q rfl (op_assign rfl) trivial ?_
  refine .q rfl (op_assign rfl) trivial ?_
  refine .nil ?_
  show Ev _ _ _ _ _
  refine .seq ?_
  refine .region ?_
  refine .q (op_move rfl) trivial rfl ?_
  refine .q (op_move rfl) trivial rfl ?_
  refine .q (op_eqS rfl rfl rfl) trivial rfl ?_
  refine .q (op_move rfl) trivial rfl ?_
  refine .know (b' := true) (beq_self_eq_true _) ?_
  refine .q (op_move rfl) ⟨_, rfl, rfl⟩ rfl ?_
  refine .q (op_call (U := []) [] [] (code_5 eo hd) Tryd.func15 (by kernel_rfl) rfl rfl rfl (⟨⟨_, rfl, rfl, rfl⟩, trivial⟩) (⟨⟨_, _, rfl, rfl, rfl, rfl, (fun h => by cases h), rfl⟩, ⟨_, _, rfl, rfl, rfl, rfl, (fun h => by cases h), rfl⟩, ⟨_, _, rfl, rfl, rfl, rfl, (fun h => by cases h), rfl⟩, ⟨_, _, rfl, rfl, rfl, rfl, (fun h => by cases h), rfl⟩, ⟨_, _, rfl, rfl, rfl, rfl, (fun h => by cases h), rfl⟩, ⟨_, _, rfl, rfl, rfl, rfl, (fun h => by cases h), rfl⟩, ⟨_, _, rfl, rfl, rfl, rfl, (fun h => by cases h), rfl⟩, ⟨_, _, rfl, rfl, rfl, rfl, (fun h => by cases h), rfl⟩, ⟨_, _, rfl, rfl, rfl, rfl, (fun h => by cases h), rfl⟩, ⟨_, _, rfl, rfl, rfl, rfl, (fun h => by cases h), rfl⟩, ⟨_, _, rfl, rfl, rfl, rfl, (fun h => by cases h), rfl⟩, ⟨_, _, rfl, rfl, rfl, rfl, (fun h => by cases h), rfl⟩, ⟨_, _, rfl, rfl, rfl, rfl, (fun h => by cases h), rfl⟩, ⟨_, _, rfl, rfl, rfl, rfl, (fun h => by cases h), rfl⟩, ⟨_, _, rfl, rfl, rfl, rfl, (fun h => by cases h), rfl⟩, ⟨_, _, rfl, rfl, rfl, rfl, (fun h => by cases h), rfl⟩, ⟨_, _, rfl, rfl, rfl, rfl, (fun h => by cases h), rfl⟩, ⟨_, _, rfl, rfl, rfl, rfl, (fun h => by cases h), rfl⟩, ⟨_, _, rfl, rfl, rfl, rfl, (fun h => by cases h), rfl⟩, ⟨_, _, rfl, rfl, rfl, rfl, (fun h => by cases h), rfl⟩, ⟨_, _, rfl, rfl, rfl, rfl, (fun h => by cases h), rfl⟩, ⟨_, _, rfl, rfl, rfl, rfl, (fun h => by cases h), rfl⟩, ⟨_, _, rfl, rfl, rfl, rfl, (fun h => by cases h), rfl⟩, ⟨_, _, rfl, rfl, rfl, rfl, (fun h => by cases h), rfl⟩, ⟨_, _, rfl, rfl, rfl, rfl, (fun h => by cases h), rfl⟩, ⟨_, _, rfl, rfl, rfl, rfl, (fun h => by cases h), rfl⟩, ⟨_, _, rfl, rfl, rfl, rfl, (fun h => by cases h), rfl⟩, ⟨_, _, rfl, rfl, rfl, rfl, (fun h => by cases h), rfl⟩, ⟨_, _, rfl, rfl, rfl, rfl, (fun h => by cases h), rfl⟩, ⟨_, _, rfl, rfl, rfl, rfl, (fun h => by cases h), rfl⟩, ⟨_, _, rfl, rfl, rfl, rfl, (fun h => by cases h), rfl⟩, ⟨_, _, rfl, rfl, rfl, rfl, (fun h => by cases h), rfl⟩, ⟨_, _, rfl, rfl, rfl, rfl, (fun h => by cases h), rfl⟩, ⟨_, _, rfl, rfl, rfl, rfl, (fun h => by cases h), rfl⟩, ⟨_, _, rfl, rfl, rfl, rfl, (fun h => by cases h), rfl⟩, ⟨_, _, rfl, rfl, rfl, rfl, (fun h => by cases h), rfl⟩, ⟨_, _, rfl, rfl, rfl, rfl, (fun h => by cases h), rfl⟩, ⟨_, _, rfl, rfl, rfl, rfl, (fun h => by cases h), rfl⟩, ⟨_, _, rfl, rfl, rfl, rfl, (fun h => by cases h), rfl⟩, ⟨_, _, rfl, rfl, rfl, rfl, (fun h => by cases h), rfl⟩, trivial⟩) (trivial) (⟨(fun h => by cases h), (fun h => by cases h), (fun h => by cases h), (fun h => by cases h), (fun h => by cases h), (fun h => by cases h), (fun h => by cases h), (fun h => by cases h), (fun h => by cases h), (fun h => by cases h), (fun h => by cases h), (fun h => by cases h), (fun h => by cases h), (fun h => by cases h), (fun h => by cases h), (fun h => by cases h), (fun h => by cases h), (fun h => by cases h), (fun h => by cases h), (fun h => by cases h), (fun h => by cases h), (fun h => by cases h), (fun h => by cases h), (fun h => by cases h), (fun h => by cases h), (fun h => by cases h), (fun h => by cases h), (fun h => by cases h), (fun h => by cases h), (fun h => by cases h), (fun h => by cases h), (fun h => by cases h), (fun h => by cases h), (fun h => by cases h), (fun h => by cases h), (fun h => by cases h), (fun h => by cases h), (fun h => by cases h), (fun h => by cases h), (fun h => by cases h), trivial⟩) rfl) ⟨_, rfl, rfl⟩ rfl ?_
  refine .q (op_move rfl) ⟨_, rfl, rfl⟩ rfl ?_
  refine .q (op_cmpI rfl rfl rfl) ⟨_, rfl, rfl⟩ rfl ?_
  refine .q (op_pick_true rfl rfl rfl) trivial rfl ?_
  refine .q (op_assign rfl) trivial rfl ?_
  refine .nil ?_
  show Ev _ _ _ _ _
  refine .ret ?_
  show RetOk _ _ _ _ _ _ _
  exact ret1v rfl (.inl rfl) rfl rfl trivial
set_option maxRecDepth 100000 in
theorem polyOpens_ok (eo : Nat → Nat × Nat) (hd : ∀ i j, i < 20 → j < 20 → i ≠ j → eo i ≠ eo j) (e : Nat) (key s extra : List UInt8) (hk : key.length = 32) (hs : s.length ≤ maxLen) (he : extra.length ≤ maxLen) (h16 : ¬ (s.take 100).length < 16) (hTag : (s.take 100).drop ((s.take 100).length - 16) = (tagL key (List.replicate 12 (0 : UInt8)) ((s.take 100).take ((s.take 100).length - 16)) (extra.take 40))) : Meets Tryd.prog 4 [.aggB key, .str s, .str extra] [(21, some ⟨.aggI qsTab, e, false⟩), (2, some ⟨.agg [.err 192 (1) (offE eo (1))], errT, false⟩), (0, some ⟨.agg [.err 192 (2) (offE eo (2))], errT, false⟩), (3, some ⟨.agg [.err 192 (3) (offE eo (3))], errT, false⟩), (4, some ⟨.agg [.err 192 (4) (offE eo (4))], errT, false⟩), (1, some ⟨.agg [.err 192 (5) (offE eo (5))], errT, false⟩), (5, some ⟨.agg [.err 192 (6) (offE eo (6))], errT, false⟩), (6, some ⟨.agg [.err 192 (7) (offE eo (7))], errT, false⟩), (7, some ⟨.agg [.err 192 (8) (offE eo (8))], errT, false⟩), (8, some ⟨.agg [.err 192 (9) (offE eo (9))], errT, false⟩), (9, some ⟨.agg [.err 192 (10) (offE eo (10))], errT, false⟩), (10, some ⟨.agg [.err 192 (11) (offE eo (11))], errT, false⟩), (11, some ⟨.agg [.err 192 (12) (offE eo (12))], errT, false⟩), (12, some ⟨.agg [.err 192 (13) (offE eo (13))], errT, false⟩), (13, some ⟨.agg [.err 192 (14) (offE eo (14))], errT, false⟩), (14, some ⟨.agg [.err 192 (15) (offE eo (15))], errT, false⟩), (15, some ⟨.agg [.err 192 (16) (offE eo (16))], errT, false⟩), (16, some ⟨.agg [.err 192 (17) (offE eo (17))], errT, false⟩), (17, some ⟨.agg [.err 192 (18) (offE eo (18))], errT, false⟩), (18, some ⟨.agg [.err 192 (19) (offE eo (19))], errT, false⟩), (19, some ⟨.agg [.err 192 (20) (offE eo (20))], errT, false⟩), (401, some ⟨.agg [], errT, false⟩), (402, some ⟨.agg [], errT, false⟩), (403, some ⟨.agg [], errT, false⟩), (404, some ⟨.agg [], errT, false⟩), (405, some ⟨.agg [], errT, false⟩), (406, some ⟨.agg [], errT, false⟩), (407, some ⟨.agg [], errT, false⟩), (408, some ⟨.agg [], errT, false⟩), (409, some ⟨.agg [], errT, false⟩), (410, some ⟨.agg [], errT, false⟩), (411, some ⟨.agg [], errT, false⟩), (412, some ⟨.agg [], errT, false⟩), (413, some ⟨.agg [], errT, false⟩), (414, some ⟨.agg [], errT, false⟩), (415, some ⟨.agg [], errT, false⟩), (416, some ⟨.agg [], errT, false⟩), (417, some ⟨.agg [], errT, false⟩), (418, some ⟨.agg [], errT, false⟩), (419, some ⟨.agg [], errT, false⟩), (420, some ⟨.agg [], errT, false⟩)] (.bool true) [] := by
  refine meets_of_ev (nt := 44) Tryd.func4 rfl rfl (Nat.le_of_ble_eq_true rfl) ?_
  refine .seq ?_
  refine .region ?_
  refine .a (op_boxRow rfl rfl) trivial rfl ?_
  refine .q (op_assign rfl) trivial rfl ?_
  refine .nil ?_
  show Ev _ _ _ _ _
  refine .seq ?_
  refine .seq ?_
  refine .region ?_
  refine .q (op_call (U := []) [] [] (awake4_ev e) Tryd.func9 (by kernel_rfl) rfl rfl rfl (trivial) (⟨⟨_, _, rfl, rfl, rfl, rfl, (fun h => by cases h), rfl⟩, trivial⟩) (trivial) (⟨(fun h => by cases h), trivial⟩) rfl) trivial rfl ?_
  refine .q (op_notB rfl) trivial rfl ?_
  refine .nil ?_
  show Ev _ _ _ _ _
  refine .cond_false rfl (rfl) ?_
  refine .skip ?_
  show Ev _ _ _ _ _
  refine .seq ?_
  refine .region ?_
  refine .q (op_move rfl) trivial rfl ?_
  refine .q (op_call (U := []) [] [] (cut_ev s 100 hs (by decide)) Tryd.func12 (by kernel_rfl) rfl rfl rfl (⟨⟨_, rfl, rfl, rfl⟩, ⟨_, rfl, rfl, rfl⟩, trivial⟩) (trivial) (trivial) (trivial) rfl) trivial rfl ?_
  refine .q (op_move rfl) trivial rfl ?_
  refine .q (op_call (U := []) [] [] (cut_ev extra 40 he (by decide)) Tryd.func12 (by kernel_rfl) rfl rfl rfl (⟨⟨_, rfl, rfl, rfl⟩, ⟨_, rfl, rfl, rfl⟩, trivial⟩) (trivial) (trivial) (trivial) rfl) trivial rfl ?_
  refine .q (op_assign rfl) trivial rfl ?_
  refine .q (op_assign rfl) trivial rfl ?_
  refine .nil ?_
  show Ev _ _ _ _ _
  refine .seq ?_
  refine .region ?_
  refine .q (op_loadRow Tryd.underlying22 rfl sz22 rfl rfl rfl (hk)) trivial rfl ?_
  refine .q (op_buildArr (us := []) Tryd.underlying34 inf5.sz zero34 rel_zero34 rfl (by decide) trivial rfl) trivial rfl ?_
  refine .q (op_move rfl) trivial rfl ?_
  refine .q (op_move rfl) trivial rfl ?_
  refine .q (op_call (U := []) [] [] (popen_ok e key (List.replicate 12 (0 : UInt8)) (s.take 100) (extra.take 40) hk rfl (by simp only [List.length_take]; omega) (by simp only [List.length_take]; omega) h16 hTag eo) Tryd.func13 (by kernel_rfl) rfl rfl rfl (⟨⟨_, rfl, rfl, rfl⟩, ⟨_, rfl, rfl, rfl⟩, ⟨_, rfl, rfl, rfl⟩, ⟨_, rfl, rfl, rfl⟩, trivial⟩) (⟨⟨_, _, rfl, rfl, rfl, rfl, (fun h => by cases h), rfl⟩, trivial⟩) (trivial) (⟨(fun h => by cases h), trivial⟩) rfl) trivial rfl ?_
  refine .q (op_move rfl) trivial rfl ?_
  refine .q (op_extract rfl rfl) trivial rfl ?_
  refine .q (op_extract rfl rfl) trivial rfl ?_
  refine .q (op_assign rfl) trivial rfl ?_
  refine .q (op_assign rfl) trivial rfl ?_
  refine .nil ?_
  show Ev _ _ _ _ _
  refine .seq ?_
  refine .drawn [[], [0], [], [2], [], [], [0, 1, 2, 3, 4, 5], [0, 1, 2, 3, 4, 5, 6], [0, 1, 2, 3, 4, 5, 6, 7], [0, 1, 2, 3, 4, 5, 6, 7], [0, 1, 2, 3, 4, 5, 6, 7, 8], [0, 1, 2, 3, 4, 5, 6, 7, 8, 9, 10]] [0, 1, 2, 3, 6] [] (by kernel_rfl) (by kernel_rfl) rfl ?_
  show DK _ [0, 1, 2, 3, 4, 5, 6, 7, 8, 9, 10, 11] _ _ _
  refine .q rfl (ap_slice_arr_hi Tryd.underlying22 inf5.sz rfl rfl (by first | omega | (simp [AV.len, hk]; done)) (by decide) rfl (by first | omega | (simp [AV.len, hk]; done))) trivial ?_
  refine .q rfl (op_bytes_str Tryd.underlying23 Tryd.underlying5 Tryd.underlying9 rfl rfl rfl (by simp [hk])) trivial ?_
  refine .as (.str key) (by rw [List.drop_zero, List.take_of_length_le (Nat.le_of_eq hk)]) ?_
  refine .a rfl (ap_make (n := 12) (c := .aggB (List.replicate 12 (0 : UInt8))) Tryd.underlying23 inf5 rfl rfl rfl rfl (by omega) (rel_zero5) rfl (by simp [AV.list, AV.parts])) trivial rfl rfl ?_
  refine .q rfl (op_bytes_str (k := ⟨.aggB (List.replicate 12 (0 : UInt8)), 5, true⟩) (l := (List.replicate 12 (0 : UInt8))) Tryd.underlying23 Tryd.underlying5 Tryd.underlying9 rfl (by kernel_rfl) rfl (by simp)) trivial ?_
  refine .as (.str (List.replicate 12 (0 : UInt8))) rfl ?_
  refine .q rfl (op_move rfl) trivial ?_
  refine .q rfl (op_move rfl) trivial ?_
  refine .q rfl (op_call (U := []) [] [] (ropen_ok key (List.replicate 12 (0 : UInt8)) (s.take 100) (extra.take 40) hk rfl (by simp only [List.length_take]; omega) (by simp only [List.length_take]; omega) h16 hTag) Tryd.func14 (by kernel_rfl) rfl rfl rfl (⟨⟨_, rfl, rfl, rfl⟩, ⟨_, rfl, rfl, rfl⟩, ⟨_, rfl, rfl, rfl⟩, ⟨_, rfl, rfl, rfl⟩, trivial⟩) (trivial) (trivial) (trivial) rfl) trivial ?_
  refine .q rfl (op_move rfl) trivial ?_
  refine .q rfl (op_extract rfl rfl) trivial ?_
  refine .q rfl (op_extract rfl rfl) trivial ?_
  refine .q rfl (op_assign rfl) trivial ?_
  refine .q rfl (op_assign rfl) trivial ?_
  refine .nil ?_
  show Ev _ _ _ _ _
  refine .seq ?_
  refine .region ?_
  refine .q (op_move rfl) trivial rfl ?_
  refine .q (op_move rfl) trivial rfl ?_
  refine .q (op_eqS rfl rfl rfl) trivial rfl ?_
  refine .q (op_move rfl) trivial rfl ?_
  refine .know (b' := true) (beq_self_eq_true _) ?_
  refine .q (op_move rfl) ⟨_, rfl, rfl⟩ rfl ?_
  refine .q (op_call (U := []) [] [] (code_0 eo hd) Tryd.func15 (by kernel_rfl) rfl rfl rfl (⟨⟨_, rfl, rfl, rfl⟩, trivial⟩) (⟨⟨_, _, rfl, rfl, rfl, rfl, (fun h => by cases h), rfl⟩, ⟨_, _, rfl, rfl, rfl, rfl, (fun h => by cases h), rfl⟩, ⟨_, _, rfl, rfl, rfl, rfl, (fun h => by cases h), rfl⟩, ⟨_, _, rfl, rfl, rfl, rfl, (fun h => by cases h), rfl⟩, ⟨_, _, rfl, rfl, rfl, rfl, (fun h => by cases h), rfl⟩, ⟨_, _, rfl, rfl, rfl, rfl, (fun h => by cases h), rfl⟩, ⟨_, _, rfl, rfl, rfl, rfl, (fun h => by cases h), rfl⟩, ⟨_, _, rfl, rfl, rfl, rfl, (fun h => by cases h), rfl⟩, ⟨_, _, rfl, rfl, rfl, rfl, (fun h => by cases h), rfl⟩, ⟨_, _, rfl, rfl, rfl, rfl, (fun h => by cases h), rfl⟩, ⟨_, _, rfl, rfl, rfl, rfl, (fun h => by cases h), rfl⟩, ⟨_, _, rfl, rfl, rfl, rfl, (fun h => by cases h), rfl⟩, ⟨_, _, rfl, rfl, rfl, rfl, (fun h => by cases h), rfl⟩, ⟨_, _, rfl, rfl, rfl, rfl, (fun h => by cases h), rfl⟩, ⟨_, _, rfl, rfl, rfl, rfl, (fun h => by cases h), rfl⟩, ⟨_, _, rfl, rfl, rfl, rfl, (fun h => by cases h), rfl⟩, ⟨_, _, rfl, rfl, rfl, rfl, (fun h => by cases h), rfl⟩, ⟨_, _, rfl, rfl, rfl, rfl, (fun h => by cases h), rfl⟩, ⟨_, _, rfl, rfl, rfl, rfl, (fun h => by cases h), rfl⟩, ⟨_, _, rfl, rfl, rfl, rfl, (fun h => by cases h), rfl⟩, ⟨_, _, rfl, rfl, rfl, rfl, (fun h => by cases h), rfl⟩, ⟨_, _, rfl, rfl, rfl, rfl, (fun h => by cases h), rfl⟩, ⟨_, _, rfl, rfl, rfl, rfl, (fun h => by cases h), rfl⟩, ⟨_, _, rfl, rfl, rfl, rfl, (fun h => by cases h), rfl⟩, ⟨_, _, rfl, rfl, rfl, rfl, (fun h => by cases h), rfl⟩, ⟨_, _, rfl, rfl, rfl, rfl, (fun h => by cases h), rfl⟩, ⟨_, _, rfl, rfl, rfl, rfl, (fun h => by cases h), rfl⟩, ⟨_, _, rfl, rfl, rfl, rfl, (fun h => by cases h), rfl⟩, ⟨_, _, rfl, rfl, rfl, rfl, (fun h => by cases h), rfl⟩, ⟨_, _, rfl, rfl, rfl, rfl, (fun h => by cases h), rfl⟩, ⟨_, _, rfl, rfl, rfl, rfl, (fun h => by cases h), rfl⟩, ⟨_, _, rfl, rfl, rfl, rfl, (fun h => by cases h), rfl⟩, ⟨_, _, rfl, rfl, rfl, rfl, (fun h => by cases h), rfl⟩, ⟨_, _, rfl, rfl, rfl, rfl, (fun h => by cases h), rfl⟩, ⟨_, _, rfl, rfl, rfl, rfl, (fun h => by cases h), rfl⟩, ⟨_, _, rfl, rfl, rfl, rfl, (fun h => by cases h), rfl⟩, ⟨_, _, rfl, rfl, rfl, rfl, (fun h => by cases h), rfl⟩, ⟨_, _, rfl, rfl, rfl, rfl, (fun h => by cases h), rfl⟩, ⟨_, _, rfl, rfl, rfl, rfl, (fun h => by cases h), rfl⟩, ⟨_, _, rfl, rfl, rfl, rfl, (fun h => by cases h), rfl⟩, trivial⟩) (trivial) (⟨(fun h => by cases h), (fun h => by cases h), (fun h => by cases h), (fun h => by cases h), (fun h => by cases h), (fun h => by cases h), (fun h => by cases h), (fun h => by cases h), (fun h => by cases h), (fun h => by cases h), (fun h => by cases h), (fun h => by cases h), (fun h => by cases h), (fun h => by cases h), (fun h => by cases h), (fun h => by cases h), (fun h => by cases h), (fun h => by cases h), (fun h => by cases h), (fun h => by cases h), (fun h => by cases h), (fun h => by cases h), (fun h => by cases h), (fun h => by cases h), (fun h => by cases h), (fun h => by cases h), (fun h => by cases h), (fun h => by cases h), (fun h => by cases h), (fun h => by cases h), (fun h => by cases h), (fun h => by cases h), (fun h => by cases h), (fun h => by cases h), (fun h => by cases h), (fun h => by cases h), (fun h => by cases h), (fun h => by cases h), (fun h => by cases h), (fun h => by cases h), trivial⟩) rfl) ⟨_, rfl, rfl⟩ rfl ?_
  refine .q (op_move rfl) ⟨_, rfl, rfl⟩ rfl ?_
  refine .q (op_cmpI rfl rfl rfl) ⟨_, rfl, rfl⟩ rfl ?_
  refine .q (op_pick_true rfl rfl rfl) trivial rfl ?_
  refine .q (op_assign rfl) trivial rfl ?_
  refine .nil ?_
  show Ev _ _ _ _ _
  refine .ret ?_
  show RetOk _ _ _ _ _ _ _
  exact ret1v rfl (.inl rfl) rfl rfl trivial
theorem polyOpens_ev (eo : Nat → Nat × Nat) (hd : ∀ i j, i < 20 → j < 20 → i ≠ j → eo i ≠ eo j) (e : Nat) (key s extra : List UInt8) (hk : key.length = 32) (hs : s.length ≤ maxLen) (he : extra.length ≤ maxLen) : Meets Tryd.prog 4 [.aggB key, .str s, .str extra] [(21, some ⟨.aggI qsTab, e, false⟩), (2, some ⟨.agg [.err 192 (1) (offE eo (1))], errT, false⟩), (0, some ⟨.agg [.err 192 (2) (offE eo (2))], errT, false⟩), (3, some ⟨.agg [.err 192 (3) (offE eo (3))], errT, false⟩), (4, some ⟨.agg [.err 192 (4) (offE eo (4))], errT, false⟩), (1, some ⟨.agg [.err 192 (5) (offE eo (5))], errT, false⟩), (5, some ⟨.agg [.err 192 (6) (offE eo (6))], errT, false⟩), (6, some ⟨.agg [.err 192 (7) (offE eo (7))], errT, false⟩), (7, some ⟨.agg [.err 192 (8) (offE eo (8))], errT, false⟩), (8, some ⟨.agg [.err 192 (9) (offE eo (9))], errT, false⟩), (9, some ⟨.agg [.err 192 (10) (offE eo (10))], errT, false⟩), (10, some ⟨.agg [.err 192 (11) (offE eo (11))], errT, false⟩), (11, some ⟨.agg [.err 192 (12) (offE eo (12))], errT, false⟩), (12, some ⟨.agg [.err 192 (13) (offE eo (13))], errT, false⟩), (13, some ⟨.agg [.err 192 (14) (offE eo (14))], errT, false⟩), (14, some ⟨.agg [.err 192 (15) (offE eo (15))], errT, false⟩), (15, some ⟨.agg [.err 192 (16) (offE eo (16))], errT, false⟩), (16, some ⟨.agg [.err 192 (17) (offE eo (17))], errT, false⟩), (17, some ⟨.agg [.err 192 (18) (offE eo (18))], errT, false⟩), (18, some ⟨.agg [.err 192 (19) (offE eo (19))], errT, false⟩), (19, some ⟨.agg [.err 192 (20) (offE eo (20))], errT, false⟩), (401, some ⟨.agg [], errT, false⟩), (402, some ⟨.agg [], errT, false⟩), (403, some ⟨.agg [], errT, false⟩), (404, some ⟨.agg [], errT, false⟩), (405, some ⟨.agg [], errT, false⟩), (406, some ⟨.agg [], errT, false⟩), (407, some ⟨.agg [], errT, false⟩), (408, some ⟨.agg [], errT, false⟩), (409, some ⟨.agg [], errT, false⟩), (410, some ⟨.agg [], errT, false⟩), (411, some ⟨.agg [], errT, false⟩), (412, some ⟨.agg [], errT, false⟩), (413, some ⟨.agg [], errT, false⟩), (414, some ⟨.agg [], errT, false⟩), (415, some ⟨.agg [], errT, false⟩), (416, some ⟨.agg [], errT, false⟩), (417, some ⟨.agg [], errT, false⟩), (418, some ⟨.agg [], errT, false⟩), (419, some ⟨.agg [], errT, false⟩), (420, some ⟨.agg [], errT, false⟩)] (.bool true) [] := by
  by_cases h16 : (s.take 100).length < 16
  · exact polyOpens_end eo hd e key s extra hk hs he h16
  · by_cases hTag : (s.take 100).drop ((s.take 100).length - 16) = (tagL key (List.replicate 12 (0 : UInt8)) ((s.take 100).take ((s.take 100).length - 16)) (extra.take 40))
    · exact polyOpens_ok eo hd e key s extra hk hs he h16 hTag
    · exact polyOpens_mac eo hd e key s extra hk hs he h16 hTag
end Go.Proofs.YtgblhjmnenmlkaaDoor
