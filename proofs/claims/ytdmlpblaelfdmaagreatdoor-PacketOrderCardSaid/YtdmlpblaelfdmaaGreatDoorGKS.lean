/-
  The ladder on Curve25519 as numbers.
-/
import Derived.WalkKit
import Derived.LaidEql
import Derived.Stop.Asserts
import Derived.RowKitTokens
import Derived.Test.YtdmlpblaelfdmaaGreatDoorGES
namespace Go.Proofs.YtdmlpblaelfdmaaGreatDoor
open Go.RowKit Go.Extern.Stop Go.Stop Go.Extern
theorem isTypeOf (v : Value) (w : World) : (Extern.ReflectliteType.typeOf #[.iface 269 v]).run Tryz.prog w = .ok (.iface 173 (.agg #[.pointer (some ⟨27, 269, none⟩)])) w := by kernel_rfl
/-- Comparable of a type. -/
def isCmp : Array Value → Sem Value := Extern.ReflectliteType.method fun t => do _root_.Go.Extern.Rtype.noPackHeld "Comparable" t; pure (.bool (← typeInfo t).comparable)
theorem isComparable (w : World) : (isCmp #[.agg #[.pointer (some ⟨27, 269, none⟩)]]).run Tryz.prog w = .ok (.bool true) w := by kernel_rfl
theorem isMethodComparable (v : Value) (w : World) : (Go.method 399 173 v "Comparable").run Tryz.prog w = .ok (224, v) w := by kernel_rfl
theorem isComp : (Tryz.prog.info? 269).map (·.comparable) = some true := by kernel_rfl
theorem isSize : (Tryz.prog.info? 287).map (·.size) = some 1 := by kernel_rfl
theorem noIsE (v : Value) (xT : TypeId) (w : World) : (Instr.typeAssert (.iface 269 v) xT 175 true).run Tryz.prog w = .ok (.tuple #[.nilIface, .bool false]) w := run_typeAssert_lacksB Tryz.underlying175 (by kernel_rfl) (by kernel_rfl) v xT w
theorem noUnwrapE (v : Value) (xT : TypeId) (w : World) : (Instr.typeAssert (.iface 269 v) xT 178 true).run Tryz.prog w = .ok (.tuple #[.nilIface, .bool false]) w := run_typeAssert_lacksB Tryz.underlying178 (by kernel_rfl) (by kernel_rfl) v xT w
theorem noUnwrapsE (v : Value) (xT : TypeId) (w : World) : (Instr.typeAssert (.iface 269 v) xT 180 true).run Tryz.prog w = .ok (.tuple #[.nilIface, .bool false]) w := run_typeAssert_lacksB Tryz.underlying180 (by kernel_rfl) (by kernel_rfl) v xT w
end Go.Proofs.YtdmlpblaelfdmaaGreatDoor
namespace Go.Proofs.YtdmlpblaelfdmaaGreatDoor
open Go.RowKit
theorem below_of {w w' : World} (h : w' = w) : Below w.heap.size w w' := by subst h; exact ⟨rfl, rfl, rfl, Nat.le_refl _, fun _ _ => rfl⟩
end Go.Proofs.YtdmlpblaelfdmaaGreatDoor
