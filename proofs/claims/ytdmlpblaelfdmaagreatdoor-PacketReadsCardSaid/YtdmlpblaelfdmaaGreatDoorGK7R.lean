/-
  Texts of this claim.
-/
import Derived.Test.YtdmlpblaelfdmaaGreatDoorGK6R
import Derived.Test.YtdmlpblaelfdmaaGreatDoorGER
import Derived.Test.YtdmlpblaelfdmaaGreatDoorGKR
namespace Go.Proofs.YtdmlpblaelfdmaaGreatDoor
open Go.RowKit
/-- What the library's variable errors.errorType holds: the handle of the type error. -/
def hndE : AV := .agg [.val (.iface 173 (.agg #[.pointer (some ⟨27, 36, none⟩)]))]
theorem where_fault_ev (n : Nat) (o : Nat × Nat) (ws : List UInt8) (te ty : Nat) : Meets Tryz.prog 23 [.ifc 102 (.ptr 500 0)] [(500, some ⟨.agg [.str ws, .err 269 (n + 1) o], te, false⟩), (20, some ⟨hndE, ty, false⟩)] (.str ws) [] :=
  meets_of_walk fun E S vals w hg hl hr hR => by
    obtain ⟨x, rfl, hx⟩ := args1 hl hr
    obtain ⟨z, rfl, hz⟩ := hx.ifc_inv
    obtain ⟨pl, ps, hE, rfl⟩ := hz.ptr_inv
    obtain ⟨l, q, g1, arr, t, fz, g2, _, _, _, g5⟩ := hR.blk 500 _ rfl
    rw [hE] at g1; injection g1 with g1; injection g1 with g1 _; subst g1
    obtain ⟨_, v, g6, g7⟩ := g5 0 (.str ws) rfl
    obtain rfl := g7.str_inv
    obtain ⟨y, h1, h2⟩ := tab_cell hR hg (g := 20) (by decide) (k := ⟨hndE, ty, false⟩) rfl (i := 0) rfl
    obtain rfl := h2.val_inv
    exact (where_fault pl 0 _ w h1 (by rw [cell_of_row w pl 0 arr t fz g2]; exact g6)).mono fun e w' hh => ⟨_, hh.1, .str _, hh.2⟩
end Go.Proofs.YtdmlpblaelfdmaaGreatDoor
