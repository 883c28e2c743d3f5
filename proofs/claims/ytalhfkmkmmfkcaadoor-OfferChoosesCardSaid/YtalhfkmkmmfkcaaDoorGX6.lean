/-
  Texts of this claim.
-/
import Derived.Test.YtalhfkmkmmfkcaaDoorGX5
import Derived.Test.YtalhfkmkmmfkcaaDoorGZ
import Derived.Test.YtalhfkmkmmfkcaaDoorGE1
import Derived.Test.YtalhfkmkmmfkcaaDoorGX4
namespace Go.Proofs.YtalhfkmkmmfkcaaDoor
open Go.ChangeShapes Go.WideShapes Go.ChangeAt Go.RowKit
/-- A slice of strings that is an argument. -/
theorem strs_still {H : Type} {enc : TypeId × Value → H} {P : Program} {W : World} {t e : TypeId} {v : Value} {d : DataW H} {ps : List MemPlace} (ht : P.underlying t = some (.slice e)) (he : P.underlying e = some .string) (ce : P.cellsOf e = 1) {b0 : Nat} (hv : Value.okWide P W .any b0 t v)
    (h : DataW.Trod enc P W 0 (fun _ => true) true t v d ps) : ∃ l : List (List UInt8), l.length ≤ maxLen ∧ ∀ f, Rel (stillE W f) (.dsl l) v := by
  obtain ⟨sa, sl, sc, rfl⟩ := okWide_slice ht hv
  obtain ⟨fuel, hfu⟩ := h
  obtain ⟨l, h1, _, h3⟩ := dsl_cell ht he ce (show DataW.trod enc P W 0 (fun _ => true) true fuel t [.slice sa sl sc] = some (d, ps) from hfu)
  exact ⟨l, h1, h3⟩
set_option maxRecDepth 100000 in
theorem offerChooses_all {H : Type} {enc : TypeId × Value → H} {v1 v2 : Value} {d1 d2 : DataW H} {ps1 ps2 : List MemPlace} (W : World) {b1 b2 : Nat} (hv1 : Value.okWide Tryd.prog W .any b1 22 v1)
  (ht1 : DataW.Trod enc Tryd.prog W 0 (fun _ => true) true 22 v1 d1 ps1) (hv2 : Value.okWide Tryd.prog W .any b2 22 v2) (ht2 : DataW.Trod enc Tryd.prog W 0 (fun _ => true) true 22 v2 d2 ps2) (h : laidMet Tryd.prog Rows.offerChoosesRow.laid W) :
  Calls Tryd.prog 3 #[v1, v2] W fun e W' => e = .returned (.bool true) ∧ Below W.heap.size W W' := by
 obtain ⟨eo, hd, hkn⟩ := laid_errs h
 have cs_ : Tryd.prog.cellsOf 9 = 1 := by kernel_rfl
 obtain ⟨c, hc, rc⟩ := strs_still (P := Tryd.prog) (W := W) Tryd.underlying22 Tryd.underlying9 cs_ hv1 ht1
 obtain ⟨s, hs, rs⟩ := strs_still (P := Tryd.prog) (W := W) Tryd.underlying22 Tryd.underlying9 cs_ hv2 ht2
 have h1 := laidMet_tail h
 have h2 := laidMet_tail h1
 have h3 := laidMet_tail h2
 have h4 := laidMet_tail h3
 have h5 := laidMet_tail h4
 have h6 := laidMet_tail h5
 have h7 := laidMet_tail h6
 have h8 := laidMet_tail h7
 have h9 := laidMet_tail h8
 have h10 := laidMet_tail h9
 have h11 := laidMet_tail h10
 have h12 := laidMet_tail h11
 have h13 := laidMet_tail h12
 have h14 := laidMet_tail h13
 have h15 := laidMet_tail h14
 have h16 := laidMet_tail h15
 have h17 := laidMet_tail h16
 have h18 := laidMet_tail h17
 have h19 := laidMet_tail h18
 have h20 := laidMet_tail h19
 have h21 := laidMet_tail h20
 refine walk_of_meets_at (errD W eo) (errD_glob _ _) (errD_top _ _) (offerChooses_ev eo hd c s hc hs) rfl (fun i x y hx hy => ?_) (known.spec (known.mono (errE_leD W eo) ⟨known_kinds h20, known_places h21, hkn⟩)) (errD_at W _)
 match i, hx, hy with
 | 0, hx, hy => injection hx with hx; injection hy with hy; subst hx; subst hy; exact rc _
 | 1, hx, hy => injection hx with hx; injection hy with hy; subst hx; subst hy; exact rs _
 | i + 2, hx, _ => simp at hx
end Go.Proofs.YtalhfkmkmmfkcaaDoor
