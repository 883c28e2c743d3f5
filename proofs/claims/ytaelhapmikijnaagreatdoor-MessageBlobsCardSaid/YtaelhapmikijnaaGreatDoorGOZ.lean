/-
  Texts of this claim.
-/
import Derived.Lay
import Derived.LaidHandle
import Derived.Test.YtaelhapmikijnaaGreatDoorProg
namespace Go.Proofs.YtaelhapmikijnaaGreatDoor
theorem laidMetH_layAt {P : Program} {w0 : World} {l : List (String × DataW Unit)} (args : Array Value) (hf : w0.layFits P (l.filter fun x => x.2.handleName?.isNone) [] = true)
    (hi : w0.layIfaces P (l.filter fun x => x.2.handleName?.isNone) (w0.layVars P (l.filter fun x => x.2.handleName?.isNone)) = true)
    (hh : (l.filter fun x => x.2.handleName?.isSome).all (handleAtB P ((w0.layVars P (l.filter fun x => x.2.handleName?.isNone)).forCall (fun _ _ => 0) ⟨#[], args, []⟩).memory) = true) :
    laidMetH P l ((w0.layVars P (l.filter fun x => x.2.handleName?.isNone)).forCall (fun _ _ => 0) ⟨#[], args, []⟩).memory := by
  generalize hq : (l.filter fun x => x.2.handleName?.isNone) = q at hf hi hh ⊢
  have e1 : (q.filter fun x => (q.map (·.1)).contains x.1) = q := List.filter_eq_self.2 fun x hx => List.contains_iff_mem.2 (List.mem_map.2 ⟨x, hx, rfl⟩)
  have e2 : (q.filter fun x => !(q.map (·.1)).contains x.1) = [] := List.filter_eq_nil_iff.2 fun x hx => by rw [List.contains_iff_mem.2 (List.mem_map.2 ⟨x, hx, rfl⟩)]; simp
  have h : laidMet P q (w0.layVars P q) := laidMet_layVars (w0 := w0) (q.map (·.1)) [] (by rw [e1]) (by rw [e1]; exact hf) (by rw [e1]; exact hi) (by rw [e2]; exact LaidIn.none)
  exact laidMetH_of_parts (by rw [hq]; exact h.of_heap (by simp [World.memory, World.forCall, Input.heap])) hh
end Go.Proofs.YtaelhapmikijnaaGreatDoor
