/-
  Texts of this claim.
-/
import Derived.Test.YtdmlpblaelfdmaaGreatDoorGD2R
import Derived.Test.YtdmlpblaelfdmaaGreatDoorGP9R
import Derived.Test.YtdmlpblaelfdmaaGreatDoorGDR
namespace Go.Proofs.YtdmlpblaelfdmaaGreatDoor
open Go.RowKit
set_option maxRecDepth 100000 in
theorem rnonce_ev (c : Int) (n : UInt64) (hn : ofI64 c = n) : Meets Tryz.prog 43 [.i64 c] [] (.str (nonceP n)) [] := by
 refine meets_of_ev (nt := 8) Tryz.func43 rfl rfl (Nat.le_of_ble_eq_true rfl) ?_
 refine .seq ?_
 refine .region ?_
 refine .q (op_assign rfl) trivial rfl ?_
 refine .nil ?_
 show Ev _ _ _ _ _
 refine .seq ?_
 refine .region ?_
 refine .q (op_call (U := []) [] [] (rnumB_ev 0 4 (by decide)) Tryz.func41 (by kernel_rfl) rfl rfl rfl (⟨⟨_, rfl, rfl, rfl⟩, ⟨_, rfl, rfl, rfl⟩, trivial⟩) (trivial) (trivial) (trivial) rfl) trivial rfl ?_
 refine .q (op_move rfl) trivial rfl ?_
 refine .q (op_conv Tryz.underlying3 Tryz.underlying25 rfl rfl) trivial rfl ?_
 refine .as (.u64 n) (congrArg AV.u64 hn) ?_
 refine .q (op_call (U := []) [] [] (rnumB_ev n 8 (by decide)) Tryz.func41 (by kernel_rfl) rfl rfl rfl (⟨⟨_, rfl, rfl, rfl⟩, ⟨_, rfl, rfl, rfl⟩, trivial⟩) (trivial) (trivial) (trivial) rfl) trivial rfl ?_
 refine .q (op_addS rfl rfl (by simp [length_tlB])) trivial rfl ?_
 refine .q (op_assign rfl) trivial rfl ?_
 refine .nil ?_
 show Ev _ _ _ _ _
 refine .ret ?_
 show RetOk _ _ _ _ _ _ _
 exact ret1v rfl (.inl rfl) rfl (congrArg AV.str (by rw [tl4B, tl8B]; rfl)) trivial
end Go.Proofs.YtdmlpblaelfdmaaGreatDoor
