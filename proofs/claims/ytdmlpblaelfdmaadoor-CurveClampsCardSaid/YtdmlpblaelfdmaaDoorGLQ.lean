/-
  Texts of this claim.
-/
import Derived.Test.YtdmlpblaelfdmaaDoorGOD
import Derived.Test.YtdmlpblaelfdmaaDoorGQF
namespace Go.Proofs.YtdmlpblaelfdmaaDoor
open Go.ChangeShapes Go.WideShapes Go.ChangeAt Go.RowKit
theorem u8_wf {n : Int} (h : (Lit.int .u8 n).wf = true) : ∃ x : UInt8, n = (x.toNat : Int) := by
  simp [Lit.wf] at h
  have h1 : IntKind.u8.min = 0 := rfl
  have h2 : IntKind.u8.max = 255 := rfl
  refine ⟨UInt8.ofNat n.toNat, ?_⟩
  have h3 : (UInt8.ofNat n.toNat).toNat = n.toNat := by rw [UInt8.toNat_ofNat']; exact Nat.mod_eq_of_lt (by omega)
  rw [h3]; omega
theorem curveClamps_any (K Q : List UInt8) (y : Int) (w : World) (hK : K.length = 32) (hQ : Q.length = 32) (hy : (Lit.int .u8 y).wf = true) (hP : ∃ e, BAt (topE w) ⟨.agg64 primeL, e, false⟩ w 3 (sizeAt w 3)) :
    Calls Tryd.prog 3 #[.agg (K.map U8).toArray, .agg (Q.map U8).toArray, .int .u8 y] w fun e w' => e = .returned (.bool true) ∧ Below w.heap.size w w' := by
  obtain ⟨e, he⟩ := hP
  obtain ⟨x, rfl⟩ := u8_wf hy
  refine walk_of_meets (curveClamps_ev e K Q x hK hQ) rfl (fun i x y hx hy => ?_) (hp_laid he)
  match i, hx, hy with
  | 0, hx, hy => injection hx with hx; injection hy with hy; subst hx; subst hy; exact rel_bytes _ _
  | 1, hx, hy => injection hx with hx; injection hy with hy; subst hx; subst hy; exact rel_bytes _ _
  | 2, hx, hy => injection hx with hx; injection hy with hy; subst hx; subst hy; exact .u8 _
  | i + 3, hx, _ => simp at hx
end Go.Proofs.YtdmlpblaelfdmaaDoor
