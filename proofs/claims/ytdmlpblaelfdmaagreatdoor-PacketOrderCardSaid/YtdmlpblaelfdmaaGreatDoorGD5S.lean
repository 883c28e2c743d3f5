/-
  Texts of this claim.
-/
import Derived.Test.YtdmlpblaelfdmaaGreatDoorGD2S
import Derived.Test.YtdmlpblaelfdmaaGreatDoorGP9S
import Derived.Test.YtdmlpblaelfdmaaGreatDoorGDS
namespace Go.Proofs.YtdmlpblaelfdmaaGreatDoor
open Go.RowKit
set_option maxRecDepth 100000 in
theorem rnonce_ev (c : Int) (n : UInt64) (hn : ofI64 c = n) : Meets Tryz.prog 43 [.i64 c] [] (.str (nonceP n)) [] := by
 refine meets_of_ev (nt := 8) Tryz.func43 rfl rfl (Nat.le_of_ble_eq_true rfl) ?_
 refine .seq ?_
 refine .region ?_
 refine .q (op_assign rfl) trivial rfl ?_
 refine .nil ?_
 show Ev _ _ _ _ _
 refine .seq ?_
 refine .region ?_
 refine .q (op_call (U := []) [] [] (rnumB_ev 0 4 (by decide)) Tryz.func41 (by kernel_rfl) rfl rfl rfl (⟨⟨_, rfl, rfl, rfl⟩, ⟨_, rfl, rfl, rfl⟩, trivial⟩) (trivial) (trivial) (trivial) rfl) trivial rfl ?_
 refine .q (op_move rfl) trivial rfl ?_
 refine .q (op_conv Tryz.underlying3 Tryz.underlying25 rfl rfl) trivial rfl ?_
 refine .as (.u64 n) (congrArg AV.u64 hn) ?_
 refine .q (op_call (U := []) [] [] (rnumB_ev n 8 (by decide)) Tryz.func41 (by kernel_rfl) rfl rfl rfl (⟨⟨_, rfl, rfl, rfl⟩, ⟨_, rfl, rfl, rfl⟩, trivial⟩) (trivial) (trivial) (trivial) rfl) trivial rfl ?_
 refine .q (op_addS rfl rfl (by simp [length_tlB])) trivial rfl ?_
 refine .q (op_assign rfl) trivial rfl ?_
 refine .nil ?_
 show Ev _ _ _ _ _
 refine .ret ?_
 show RetOk _ _ _ _ _ _ _
 exact ret1v rfl (.inl rfl) rfl (congrArg AV.str (by rw [tl4B, tl8B]; rfl)) trivial
theorem pack_ev (b : Bool) (e : Nat) (key : List UInt8) (hk : key.length = 32) (n : UInt64) (p : List UInt8) (h1 : 1 ≤ p.length) (h2 : p.length ≤ 32768) (eo : Nat → Nat × Nat) : Meets Tryz.prog 14 [.ptr 500 0, .str p] [(500, some ⟨dC b key n ([]), 29, true⟩), (22, some ⟨.aggI qsTab, e, false⟩)] (.tup [.str (packP b key n p), .err 269 (0) (offE eo (0))]) [(500, some ⟨dC b key (n + 1) ([]), 29, true⟩)] := by
 cases b
 ·exact pack_f e key hk n p h1 h2 eo
 ·exact pack_t e key hk n p h1 h2 eo
end Go.Proofs.YtdmlpblaelfdmaaGreatDoor
