/-
  Texts of this claim.
-/
import Derived.Laws.CopyRow
import Derived.Deep.Draws
import Derived.Deep.WholeRow
import Derived.Test.YtcnjekoidgefpaaGreatDoorGAV
namespace Go.Proofs.YtcnjekoidgefpaaGreatDoor
open Go.RowKit
section
variable {w w' : World} {g : Nat} {t : TypeId} {cs : Array Value}
end
theorem hid {p : Prop} (h : p) : Hid p := h
section
variable {P : Program}
end
theorem dJ {B g : Nat} {a w w' : World} (h : Below B a w) (hg : w.grownBy w' (some g)) (hB : B ≤ w.heap.size) (hr : B ≤ g) : Below B a w' :=
  h.grown hg hB (fun k hk => by injection hk with hk; omega)
end Go.Proofs.YtcnjekoidgefpaaGreatDoor
