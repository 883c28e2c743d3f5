/-
  Texts of this claim.
-/
import Derived.Test.YtdmlpblaelfdmaaGreatDoorGP9S
import Derived.Test.YtdmlpblaelfdmaaGreatDoorGK2S
import Derived.Test.YtdmlpblaelfdmaaGreatDoorGP2S
namespace Go.Proofs.YtdmlpblaelfdmaaGreatDoor
open Go.RowKit
set_option maxRecDepth 100000 in
theorem ropen_mac (key nonce s extra : List UInt8) (hk : key.length = 32) (hn : nonce.length = 12) (hS : s.length ≤ 1000000) (hE : extra.length ≤ 1000000) (h16 : ¬ s.length < 16) (hTag : ¬ s.drop (s.length - 16) = (tagL key nonce (s.take (s.length - 16)) extra)) : Meets Tryz.prog 44 [.str key, .str nonce, .str s, .str extra] [] (.tup [.str [], .i64 5]) [] := by
 refine meets_of_ev (nt := 34) Tryz.func44 rfl rfl (Nat.le_of_ble_eq_true rfl) ?_
 refine .seq ?_
 refine .region ?_
 refine .q (op_assign rfl) trivial rfl ?_
 refine .q (op_assign rfl) trivial rfl ?_
 refine .nil ?_
 show Ev _ _ _ _ _
 refine .seq ?_
 refine .seq ?_
 refine .region ?_
 refine .q (op_move rfl) trivial rfl ?_
 refine .q (op_len_str Tryz.underlying9 rfl) trivial rfl ?_
 refine .q (op_cmpI rfl rfl rfl) trivial rfl ?_
 refine .nil ?_
 show Ev _ _ _ _ _
 refine .cond_false rfl (decide_eq_false (by omega)) ?_
 refine .skip ?_
 show Ev _ _ _ _ _
 refine .seq ?_
 refine .region ?_
 refine .q (op_move rfl) trivial rfl ?_
 refine .q (op_len_str Tryz.underlying9 rfl) trivial rfl ?_
 refine .q (op_subI rfl rfl ⟨by omega, by omega⟩) trivial rfl ?_
 refine .as (.i64 ((s.length - 16 : Nat) : Int)) (congrArg AV.i64 (by omega)) ?_
 refine .q (op_assign rfl) trivial rfl ?_
 refine .nil ?_
 show Ev _ _ _ _ _
 refine .seq ?_
 refine .seq ?_
 refine .drawn [[], [], [], [], [2, 3], [], [0, 1, 2, 3, 4, 5], [], [], [7, 8], [0, 1, 2, 3, 4, 5, 6, 7, 8, 9]] [6] [] (by kernel_rfl) (by kernel_rfl) rfl ?_
 show DK _ [0, 1, 2, 3, 4, 5, 6, 7, 8, 9, 10] _ _ _
 refine .q rfl (op_move rfl) trivial ?_
 refine .q rfl (op_move rfl) trivial ?_
 refine .q rfl (op_move rfl) trivial ?_
 refine .q rfl (op_move rfl) trivial ?_
 refine .q rfl (ap_slice_str_hi Tryz.underlying9 rfl (bnd_some rfl (l := s.length - 16) rfl) (by omega)) trivial ?_
 refine .q rfl (op_move rfl) trivial ?_
 refine .q rfl (op_call (U := []) [] [] (mark_ev key nonce (s.take (s.length - 16)) extra hk hn (by simp; omega) hE) Tryz.func72 (by kernel_rfl) rfl rfl rfl (⟨⟨_, rfl, rfl, rfl⟩, ⟨_, rfl, rfl, rfl⟩, ⟨_, rfl, rfl, rfl⟩, ⟨_, rfl, rfl, rfl⟩, trivial⟩) (trivial) (trivial) (trivial) rfl) trivial ?_
 refine .q rfl (op_move rfl) trivial ?_
 refine .q rfl (op_move rfl) trivial ?_
 refine .q rfl (ap_slice_str_lo Tryz.underlying9 rfl (bnd_some rfl (l := s.length - 16) rfl) (by omega)) trivial ?_
 refine .q rfl (op_eqS rfl rfl rfl) trivial ?_
 refine .nil ?_
 show Ev _ _ _ _ _
 refine .cond_true rfl (bne_iff_ne.2 (fun h => hTag h.symm)) ?_
 refine .seq ?_
 refine .region ?_
 refine .q (op_assign rfl) trivial rfl ?_
 refine .q (op_assign rfl) trivial rfl ?_
 refine .nil ?_
 show Ev _ _ _ _ _
 refine .ret ?_
 show RetOk _ _ _ _ _ _ _
 exact ret2v rfl (.inl rfl) rfl rfl rfl rfl trivial
set_option maxRecDepth 100000 in
theorem ropen_ok (key nonce s extra : List UInt8) (hk : key.length = 32) (hn : nonce.length = 12) (hS : s.length ≤ 1000000) (hE : extra.length ≤ 1000000) (h16 : ¬ s.length < 16) (hTag : s.drop (s.length - 16) = (tagL key nonce (s.take (s.length - 16)) extra)) : Meets Tryz.prog 44 [.str key, .str nonce, .str s, .str extra] [] (.tup [.str (cXor key (UInt32.ofNat 1) nonce (s.take (s.length - 16))), .i64 0]) [] := by
 refine meets_of_ev (nt := 34) Tryz.func44 rfl rfl (Nat.le_of_ble_eq_true rfl) ?_
 refine .seq ?_
 refine .region ?_
 refine .q (op_assign rfl) trivial rfl ?_
 refine .q (op_assign rfl) trivial rfl ?_
 refine .nil ?_
 show Ev _ _ _ _ _
 refine .seq ?_
 refine .seq ?_
 refine .region ?_
 refine .q (op_move rfl) trivial rfl ?_
 refine .q (op_len_str Tryz.underlying9 rfl) trivial rfl ?_
 refine .q (op_cmpI rfl rfl rfl) trivial rfl ?_
 refine .nil ?_
 show Ev _ _ _ _ _
 refine .cond_false rfl (decide_eq_false (by omega)) ?_
 refine .skip ?_
 show Ev _ _ _ _ _
 refine .seq ?_
 refine .region ?_
 refine .q (op_move rfl) trivial rfl ?_
 refine .q (op_len_str Tryz.underlying9 rfl) trivial rfl ?_
 refine .q (op_subI rfl rfl ⟨by omega, by omega⟩) trivial rfl ?_
 refine .as (.i64 ((s.length - 16 : Nat) : Int)) (congrArg AV.i64 (by omega)) ?_
 refine .q (op_assign rfl) trivial rfl ?_
 refine .nil ?_
 show Ev _ _ _ _ _
 refine .seq ?_
 refine .seq ?_
 refine .drawn [[], [], [], [], [2, 3], [], [0, 1, 2, 3, 4, 5], [], [], [7, 8], [0, 1, 2, 3, 4, 5, 6, 7, 8, 9]] [6] [] (by kernel_rfl) (by kernel_rfl) rfl ?_
 show DK _ [0, 1, 2, 3, 4, 5, 6, 7, 8, 9, 10] _ _ _
 refine .q rfl (op_move rfl) trivial ?_
 refine .q rfl (op_move rfl) trivial ?_
 refine .q rfl (op_move rfl) trivial ?_
 refine .q rfl (op_move rfl) trivial ?_
 refine .q rfl (ap_slice_str_hi Tryz.underlying9 rfl (bnd_some rfl (l := s.length - 16) rfl) (by omega)) trivial ?_
 refine .q rfl (op_move rfl) trivial ?_
 refine .q rfl (op_call (U := []) [] [] (mark_ev key nonce (s.take (s.length - 16)) extra hk hn (by simp; omega) hE) Tryz.func72 (by kernel_rfl) rfl rfl rfl (⟨⟨_, rfl, rfl, rfl⟩, ⟨_, rfl, rfl, rfl⟩, ⟨_, rfl, rfl, rfl⟩, ⟨_, rfl, rfl, rfl⟩, trivial⟩) (trivial) (trivial) (trivial) rfl) trivial ?_
 refine .q rfl (op_move rfl) trivial ?_
 refine .q rfl (op_move rfl) trivial ?_
 refine .q rfl (ap_slice_str_lo Tryz.underlying9 rfl (bnd_some rfl (l := s.length - 16) rfl) (by omega)) trivial ?_
 refine .q rfl (op_eqS rfl rfl rfl) trivial ?_
 refine .nil ?_
 show Ev _ _ _ _ _
 refine .cond_false rfl (bne_eq_false_iff_eq.2 hTag.symm) ?_
 refine .skip ?_
 show Ev _ _ _ _ _
 refine .seq ?_
 refine .region ?_
 refine .q (op_move rfl) trivial rfl ?_
 refine .q (op_move rfl) trivial rfl ?_
 refine .q (op_move rfl) trivial rfl ?_
 refine .q (op_move rfl) trivial rfl ?_
 refine .q (ap_slice_str_hi Tryz.underlying9 rfl (bnd_some rfl (l := s.length - 16) rfl) (by omega)) trivial rfl ?_
 refine .q (op_call (U := []) [] [] (refCxor_ev key nonce (s.take (s.length - 16)) (UInt32.ofNat 1) _ rfl hk hn (by simp; omega)) Tryz.func71 (by kernel_rfl) rfl rfl rfl (⟨⟨_, rfl, rfl, rfl⟩, ⟨_, rfl, rfl, rfl⟩, ⟨_, rfl, rfl, rfl⟩, ⟨_, rfl, rfl, rfl⟩, trivial⟩) (trivial) (trivial) (trivial) rfl) trivial rfl ?_
 refine .as (.str (cXor key (UInt32.ofNat 1) nonce (s.take (s.length - 16)))) rfl ?_
 refine .q (op_assign rfl) trivial rfl ?_
 refine .q (op_assign rfl) trivial rfl ?_
 refine .nil ?_
 show Ev _ _ _ _ _
 refine .ret ?_
 show RetOk _ _ _ _ _ _ _
 exact ret2v rfl (.inl rfl) rfl rfl rfl rfl trivial
end Go.Proofs.YtdmlpblaelfdmaaGreatDoor
