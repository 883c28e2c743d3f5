/-
  Texts of this claim.
-/
import Derived.Test.YtcnjekoidgefpaaDoorGKN
import Derived.Test.YtcnjekoidgefpaaDoorGFV
import Derived.Test.YtcnjekoidgefpaaDoorGS
import Derived.Test.YtcnjekoidgefpaaDoorGKI
namespace Go.Proofs.YtcnjekoidgefpaaDoor
open Go.ChangeShapes Go.WideShapes Go.ChangeAt Go.RowKit
theorem laidM_eq : (Rows.laid_speakeasy_field_minus1Root : DataW Unit) = Lib.tabData .u64 (minusL.map fun x => (x.toNat : Int)) := by kernel_rfl
theorem bat_minus {W : World} {rest : List (String × DataW Unit)} (h : laidMet Tryd.prog (("speakeasy/field.minus1Root", Rows.laid_speakeasy_field_minus1Root) :: rest) W) : ∃ e, BAt (topE W) ⟨.agg64 minusL, e, false⟩ W 9 (sizeAt W 9) := by
  rw [laidM_eq] at h
  exact laid_words (by kernel_rfl) (by kernel_rfl) rfl h
theorem cells80w : Tryd.prog.cellsOf 188 = 80 := by kernel_rfl
theorem laidK5_eq : (Rows.laid_speakeasy_sha2_k512 : DataW Unit) = Lib.tabData .u64 (K512.map fun x => (x.toNat : Int)) := by kernel_rfl
theorem bat_k512 {W : World} {rest : List (String × DataW Unit)} (h : laidMet Tryd.prog (("speakeasy/sha2.k512", Rows.laid_speakeasy_sha2_k512) :: rest) W) : ∃ e, BAt (topE W) ⟨.agg64 K512, e, false⟩ W 6 (sizeAt W 6) := by
  rw [laidK5_eq] at h
  obtain ⟨ps, ⟨g', t', cs, fuel, p, q, hg', ht', hvar, hd, _, _⟩, _⟩ := h
  have hg : Tryd.prog.globalNamed "speakeasy/sha2.k512" = some 6 := by kernel_rfl
  have ht : (Tryd.prog.globals[6]?).map (·.type) = some 188 := by kernel_rfl
  obtain rfl := Option.some.inj (hg.symm.trans hg')
  obtain rfl := Option.some.inj (ht.symm.trans ht')
  have hc := Lib.cells_of_tab Tryd.underlying188 Tryd.underlying37 cellsU cells80w hd
  refine bat_words (by decide) fun i hi => ?_
  rw [World.var?_cell (P := Tryd.prog) hg hvar i]
  have e2 : cs[i]? = cs.toList[i]? := by simp
  rw [e2, hc]
  simp [List.getD_eq_getElem?_getD, hi]
end Go.Proofs.YtcnjekoidgefpaaDoor
namespace Go.Proofs.YtcnjekoidgefpaaDoor
open Go.ChangeShapes Go.WideShapes Go.ChangeAt Go.RowKit
theorem speakMaps_any (a : List UInt8) (w : World) (ha : a.length = 32) (hP : ∃ e, BAt (topE w) ⟨.agg64 primeL, e, false⟩ w 4 (sizeAt w 4)) (hM : ∃ e, BAt (topE w) ⟨.agg64 minusL, e, false⟩ w 9 (sizeAt w 9)) (hK : ∃ e, BAt (topE w) ⟨.agg64 K512, e, false⟩ w 6 (sizeAt w 6)) :
    Calls Tryd.prog 6 #[.agg (a.map U8).toArray] w fun e w' => e = .returned (.bool true) ∧ Below w.heap.size w w' := by
  obtain ⟨e, he⟩ := hP
  obtain ⟨e2, he2⟩ := hM
  obtain ⟨ek, hek⟩ := hK
  refine walk_of_meets (speakMaps_ev e e2 ek a ha) rfl (fun i x y hx hy => ?_) (fun b k hk => ?_)
  · match i, hx, hy with
    | 0, hx, hy => injection hx with hx; injection hy with hy; subst hx; subst hy; exact rel_bytes _ _
    | i + 1, hx, _ => simp at hx
  · have hm := hget_mem hk
    simp only [List.mem_cons, List.not_mem_nil, or_false, Prod.mk.injEq, Option.some.injEq] at hm
    rcases hm with ⟨rfl, rfl⟩ | ⟨rfl, rfl⟩ | ⟨rfl, rfl⟩
    · exact ⟨by decide, rfl, he⟩
    · exact ⟨by decide, rfl, he2⟩
    · exact ⟨by decide, rfl, hek⟩
end Go.Proofs.YtcnjekoidgefpaaDoor
