/-
  Texts of this claim.
-/
import Derived.Laws.Build
import Derived.OwnWalk
import Derived.Test.YtdmlpblaelfdmaaGreatDoorGEP
namespace Go.Proofs.YtdmlpblaelfdmaaGreatDoor
open Go.RowKit
section
variable {α : Type} {f : α → List AV} {z : Nat}
end
end Go.Proofs.YtdmlpblaelfdmaaGreatDoor
namespace Go.Proofs.YtdmlpblaelfdmaaGreatDoor
open Go.RowKit
section
variable {P : Program} {T : Nat → Option AV} {H : Hp} {nm : Nat} {wr : Bool} {d : Option Tmp} {ty t : TypeId} {ps : String} {af : Array Edge} {gd : Option (Nat × Bool)} {x y : Operand}
end
end Go.Proofs.YtdmlpblaelfdmaaGreatDoor
namespace Go.Proofs.YtdmlpblaelfdmaaGreatDoor
open Go.RowKit
theorem op_makeIface {P : Program} {T : Nat → Option AV} {H : Hp} {nm : Nat} {wr : Bool} {d : Option Tmp} {ty t : TypeId} {ps : String} {af : Array Edge} {gd : Option (Nat × Bool)} {x : Operand} {u : AV} (hc : P.concrete t = true) (hx : aev T x = some u) :
    OpSem P T H ⟨d, .makeInterface t x, ty, ps, af, gd⟩ nm wr (.ifc t u) [] :=
  .quiet fun E a w h => ⟨.iface t (a.eval x), by simp [execOp, run_makeInterface _ _ _ hc], .ifc _ _ _ (h x mem1 _ hx)⟩
end Go.Proofs.YtdmlpblaelfdmaaGreatDoor
