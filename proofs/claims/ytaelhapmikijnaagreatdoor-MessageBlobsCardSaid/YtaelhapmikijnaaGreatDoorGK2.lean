/-
  Texts of this claim.
-/
import Derived.Test.YtaelhapmikijnaaGreatDoorGK
namespace Go.Proofs.YtaelhapmikijnaaGreatDoor
open Go.RowKit
set_option maxRecDepth 100000 in
theorem code_0 (eo : Nat → Nat × Nat) (_hd : ∀ i j, i < 20 → j < 20 → i ≠ j → eo i ≠ eo j) : Meets Tryz.prog 12 [.err 165 (0) (offE eo (0))] [(2, some ⟨.agg [.err 165 (1) (offE eo (1))], errT, false⟩), (3, some ⟨.agg [.err 165 (2) (offE eo (2))], errT, false⟩), (4, some ⟨.agg [.err 165 (3) (offE eo (3))], errT, false⟩), (5, some ⟨.agg [.err 165 (4) (offE eo (4))], errT, false⟩), (6, some ⟨.agg [.err 165 (5) (offE eo (5))], errT, false⟩), (7, some ⟨.agg [.err 165 (6) (offE eo (6))], errT, false⟩), (8, some ⟨.agg [.err 165 (7) (offE eo (7))], errT, false⟩), (9, some ⟨.agg [.err 165 (8) (offE eo (8))], errT, false⟩), (10, some ⟨.agg [.err 165 (9) (offE eo (9))], errT, false⟩), (0, some ⟨.agg [.err 165 (10) (offE eo (10))], errT, false⟩), (1, some ⟨.agg [.err 165 (11) (offE eo (11))], errT, false⟩), (11, some ⟨.agg [.err 165 (12) (offE eo (12))], errT, false⟩), (12, some ⟨.agg [.err 165 (13) (offE eo (13))], errT, false⟩), (13, some ⟨.agg [.err 165 (14) (offE eo (14))], errT, false⟩), (14, some ⟨.agg [.err 165 (15) (offE eo (15))], errT, false⟩), (15, some ⟨.agg [.err 165 (16) (offE eo (16))], errT, false⟩), (16, some ⟨.agg [.err 165 (17) (offE eo (17))], errT, false⟩), (17, some ⟨.agg [.err 165 (18) (offE eo (18))], errT, false⟩), (18, some ⟨.agg [.err 165 (19) (offE eo (19))], errT, false⟩), (19, some ⟨.agg [.err 165 (20) (offE eo (20))], errT, false⟩), (401, some ⟨.agg [], errT, false⟩), (402, some ⟨.agg [], errT, false⟩), (403, some ⟨.agg [], errT, false⟩), (404, some ⟨.agg [], errT, false⟩), (405, some ⟨.agg [], errT, false⟩), (406, some ⟨.agg [], errT, false⟩), (407, some ⟨.agg [], errT, false⟩), (408, some ⟨.agg [], errT, false⟩), (409, some ⟨.agg [], errT, false⟩), (410, some ⟨.agg [], errT, false⟩), (411, some ⟨.agg [], errT, false⟩), (412, some ⟨.agg [], errT, false⟩), (413, some ⟨.agg [], errT, false⟩), (414, some ⟨.agg [], errT, false⟩), (415, some ⟨.agg [], errT, false⟩), (416, some ⟨.agg [], errT, false⟩), (417, some ⟨.agg [], errT, false⟩), (418, some ⟨.agg [], errT, false⟩), (419, some ⟨.agg [], errT, false⟩), (420, some ⟨.agg [], errT, false⟩)] (.i64 0) [] := by
 refine meets_of_ev (nt := 38) Tryz.func12 rfl rfl (Nat.le_of_ble_eq_true rfl) ?_
 refine .seq ?_
 refine .region ?_
 refine .q (op_assign rfl) trivial rfl ?_
 refine .nil ?_
 show Ev _ _ _ _ _
 refine .seq ?_
 refine .seq ?_
 refine .region ?_
 refine .q (op_move rfl) trivial rfl ?_
 refine .q (op_eqErrNil (e := 0) Tryz.underlying30 rfl rfl) trivial rfl ?_
 refine .nil ?_
 show Ev _ _ _ _ _
 refine .cond_true rfl (rfl) ?_
 refine .seq ?_
 refine .region ?_
 refine .q (op_assign rfl) trivial rfl ?_
 refine .nil ?_
 show Ev _ _ _ _ _
 refine .ret ?_
 show RetOk _ _ _ _ _ _ _
 exact ret1v rfl (.inl rfl) rfl rfl trivial
end Go.Proofs.YtaelhapmikijnaaGreatDoor
