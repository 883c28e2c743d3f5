/-
  Texts of this claim.
-/
import Derived.LaidHandle
import Derived.Test.YtdmlpblaelfdmaaGreatDoorGCP
import Derived.Test.YtdmlpblaelfdmaaGreatDoorGFP
import Derived.Test.YtdmlpblaelfdmaaGreatDoorGE1P
import Derived.Test.YtdmlpblaelfdmaaGreatDoorGK7P
import Derived.Test.YtdmlpblaelfdmaaGreatDoorGSP
namespace Go.Proofs.YtdmlpblaelfdmaaGreatDoor
open Go.ChangeShapes Go.WideShapes Go.ChangeAt Go.RowKit
theorem cellsU : Tryz.prog.cellsOf 25 = 1 := by kernel_rfl
theorem cellsP : Tryz.prog.cellsOf 113 = 4 := by kernel_rfl
theorem laidP_eq : (Rows.laid_speakeasy_field_prime : DataW Unit) = Lib.tabData .u64 (primeL.map fun x => (x.toNat : Int)) := by kernel_rfl
end Go.Proofs.YtdmlpblaelfdmaaGreatDoor
namespace Go.Proofs.YtdmlpblaelfdmaaGreatDoor
open Go.ChangeShapes Go.WideShapes Go.ChangeAt Go.RowKit
theorem laidMetH_two {P : Program} {l : List (String × DataW Unit)} {w : World} (h : laidMetH P l w) : laidMet P (l.filter fun x => x.2.handleName?.isNone) w ∧ handlesMet P (l.filter fun x => x.2.handleName?.isSome) w := by
  unfold laidMetH at h
  generalize hfl : (l.filter fun x => x.2.handleName?.isSome) = fl at h ⊢
  cases fl with
  | nil =>
    have e : (l.filter fun x => x.2.handleName?.isNone) = l := by
      rw [List.filter_eq_self]
      intro x hx
      have := (List.filter_eq_nil_iff.1 hfl) x hx
      cases hn : x.2.handleName? with
      | none => rfl
      | some s => rw [hn] at this; exact absurd rfl this
    rw [e]
    exact ⟨h, fun x hx => by cases hx⟩
  | cons a r => exact h
theorem bat_words32 {w : World} {g : Nat} {l : List UInt32} {E : Emb} (h0 : 0 < l.length) (h : ∀ i, i < l.length → w.cell? ⟨g, i, none⟩ = some (.int .u32 ((l.getD i 0).toNat : Int))) : BAt E ⟨.agg32 l, anyT, false⟩ w g (sizeAt w g) := by
  have hc := h 0 h0
  unfold World.cell? at hc
  split at hc
  · rename_i arr e fz hb
    refine ⟨arr, e, fz, hb, by simp [sizeAt, hb], ⟨⟨fun h => (by cases h), fun h => absurd h (show anyT ≠ errT by decide), fun _ _ h => absurd h (Nat.lt_irrefl _)⟩, .inr (.inr (.inr rfl))⟩, ?_, fun i x hx => ?_⟩
    · have := h (l.length - 1) (by omega)
      rw [cell_of_row w g _ arr e fz hb] at this
      have := (Array.getElem?_eq_some_iff.1 this).1
      simp [AV.list, AV.parts, sizeAt, hb]; omega
    · obtain ⟨y, hy, rfl⟩ := get_map_some (l := l) hx
      have hi := (List.getElem?_eq_some_iff.1 hy).1
      have := h i hi
      rw [cell_of_row w g _ arr e fz hb] at this
      refine ⟨rfl, .int .u32 (y.toNat : Int), ?_, .u32 y⟩
      rw [this]
      simp [List.getD_eq_getElem?_getD, hy]
  · cases hc
theorem bat_words64 {w : World} {g : Nat} {l : List UInt64} {E : Emb} (h0 : 0 < l.length) (h : ∀ i, i < l.length → w.cell? ⟨g, i, none⟩ = some (.int .u64 ((l.getD i 0).toNat : Int))) : BAt E ⟨.agg64 l, anyT, false⟩ w g (sizeAt w g) := by
  have hc := h 0 h0
  unfold World.cell? at hc
  split at hc
  · rename_i arr e fz hb
    refine ⟨arr, e, fz, hb, by simp [sizeAt, hb], ⟨⟨fun h => (by cases h), fun h => absurd h (show anyT ≠ errT by decide), fun _ _ h => absurd h (Nat.lt_irrefl _)⟩, .inr (.inr (.inr rfl))⟩, ?_, fun i x hx => ?_⟩
    · have := h (l.length - 1) (by omega)
      rw [cell_of_row w g _ arr e fz hb] at this
      have := (Array.getElem?_eq_some_iff.1 this).1
      simp [AV.list, AV.parts, sizeAt, hb]; omega
    · obtain ⟨y, hy, rfl⟩ := get_map_some (l := l) hx
      have hi := (List.getElem?_eq_some_iff.1 hy).1
      have := h i hi
      rw [cell_of_row w g _ arr e fz hb] at this
      refine ⟨rfl, .int .u64 (y.toNat : Int), ?_, .u64 y⟩
      rw [this]
      simp [List.getD_eq_getElem?_getD, hy]
  · cases hc
theorem bat_val1 {w : World} {g : Nat} {v : Value} {E : Emb} (h1 : v.oneCell' = true) (h : w.cell? ⟨g, 0, none⟩ = some v) : BAt E ⟨.agg [.val v], anyT, false⟩ w g (sizeAt w g) := by
  have hc := h
  unfold World.cell? at hc
  split at hc
  · rename_i arr e fz hb
    have h0 := h
    rw [cell_of_row w g _ arr e fz hb] at h0
    refine ⟨arr, e, fz, hb, by simp [sizeAt, hb], ⟨⟨fun h => (by cases h), fun h => absurd h (show anyT ≠ errT by decide), fun _ _ h => absurd h (Nat.lt_irrefl _)⟩, .inr (.inr (.inr rfl))⟩, ?_, fun i x hx => ?_⟩
    · have := (Array.getElem?_eq_some_iff.1 h0).1
      simp [AV.list, AV.parts, sizeAt, hb]; omega
    · match i, hx with
      | 0, hx =>
        injection hx with hx
        subst hx
        exact ⟨AV.cell_of h1, v, h0, .val v⟩
      | i + 1, hx => cases hx
  · cases hc
theorem cellsU4w : Tryz.prog.cellsOf 85 = 1 := by kernel_rfl
theorem cellsK4w : Tryz.prog.cellsOf 198 = 64 := by kernel_rfl
theorem laidK_eq : (Rows.laid_speakeasy_sha2_k256 : DataW Unit) = Lib.tabData .u32 (K256.map fun x => (x.toNat : Int)) := by kernel_rfl
theorem bat_k256 {W : World} {E : Emb} {rest : List (String × DataW Unit)} (h : laidMet Tryz.prog (("speakeasy/sha2.k256", Rows.laid_speakeasy_sha2_k256) :: rest) W) : BAt E ⟨.agg32 K256, anyT, false⟩ W 21 (sizeAt W 21) := by
  rw [laidK_eq] at h
  obtain ⟨ps, ⟨g', t', cs, fuel, p, q, hg', ht', hvar, hd, _, _⟩, _⟩ := h
  have hg : Tryz.prog.globalNamed "speakeasy/sha2.k256" = some 21 := by kernel_rfl
  have ht : (Tryz.prog.globals[21]?).map (·.type) = some 198 := by kernel_rfl
  obtain rfl := Option.some.inj (hg.symm.trans hg')
  obtain rfl := Option.some.inj (ht.symm.trans ht')
  have hc := Lib.cells_of_tab Tryz.underlying198 Tryz.underlying85 cellsU4w cellsK4w hd
  refine bat_words32 (by decide) fun i hi => ?_
  rw [World.var?_cell (P := Tryz.prog) hg hvar i]
  have e2 : cs[i]? = cs.toList[i]? := by simp
  rw [e2, hc]
  simp [List.getD_eq_getElem?_getD, hi]
theorem bat_primeE {W : World} {E : Emb} {rest : List (String × DataW Unit)} (h : laidMet Tryz.prog (("speakeasy/field.prime", Rows.laid_speakeasy_field_prime) :: rest) W) : BAt E ⟨.agg64 primeL, anyT, false⟩ W 23 (sizeAt W 23) := by
  rw [laidP_eq] at h
  obtain ⟨ps, ⟨g', t', cs, fuel, p, q, hg', ht', hvar, hd, _, _⟩, _⟩ := h
  have hg : Tryz.prog.globalNamed "speakeasy/field.prime" = some 23 := by kernel_rfl
  have ht : (Tryz.prog.globals[23]?).map (·.type) = some 113 := by kernel_rfl
  obtain rfl := Option.some.inj (hg.symm.trans hg')
  obtain rfl := Option.some.inj (ht.symm.trans ht')
  have hc := Lib.cells_of_tab Tryz.underlying113 Tryz.underlying25 cellsU cellsP hd
  refine bat_words64 (by decide) fun i hi => ?_
  rw [World.var?_cell (P := Tryz.prog) hg hvar i]
  have e2 : cs[i]? = cs.toList[i]? := by simp
  rw [e2, hc]
  simp [List.getD_eq_getElem?_getD, hi]
theorem et_global : Tryz.prog.globalNamed "errors.errorType" = some 20 := by kernel_rfl
theorem et_rtype : (Tryz.prog.cutTypes.find? (·.1 == "internal/reflectlite.rtype")).map (·.2) = some 173 := by kernel_rfl
theorem et_row : ((List.range 299).filter fun t => Tryz.prog.rowNamed t [101, 114, 114, 111, 114]) = [36] := by kernel_rfl
theorem et_size : Tryz.prog.types.size = 299 := by kernel_rfl
theorem et_handle : typeHandle Tryz.prog 36 = .pointer (some ⟨27, 36, none⟩) := by kernel_rfl
theorem handle_cell {W : World} {r : List (String × DataW Unit)} (h : handlesMet Tryz.prog (("errors.errorType", Rows.laid_errors_errorType) :: r) W) : W.cell? ⟨20, 0, none⟩ = some (.iface 173 (.agg #[.pointer (some ⟨27, 36, none⟩)])) := by
  obtain ⟨name, u, ty, e1, e2, e3, e4, e5⟩ := h _ (List.mem_cons_self ..)
  have en : name = [101, 114, 114, 111, 114] := (Option.some.inj e1).symm
  subst en
  obtain rfl := Option.some.inj (et_rtype.symm.trans e2)
  have hm : ty ∈ (List.range 299).filter fun t => Tryz.prog.rowNamed t [101, 114, 114, 111, 114] := List.mem_filter.2 ⟨List.mem_range.2 (by rw [← et_size]; exact e3), e4⟩
  rw [et_row] at hm
  obtain rfl := List.mem_singleton.1 hm
  rw [et_handle] at e5
  simpa using World.var?_cell et_global e5 0
theorem bat_handle {W : World} {E : Emb} {r : List (String × DataW Unit)} (h : handlesMet Tryz.prog (("errors.errorType", Rows.laid_errors_errorType) :: r) W) : BAt E ⟨hndE, anyT, false⟩ W 20 (sizeAt W 20) := bat_val1 rfl (handle_cell h)
end Go.Proofs.YtdmlpblaelfdmaaGreatDoor
namespace Go.Proofs.YtdmlpblaelfdmaaGreatDoor
open Go.ChangeShapes Go.WideShapes Go.ChangeAt Go.RowKit
set_option maxHeartbeats 1000000 in
theorem kex_env {W : World} (h : laidMetH Tryz.prog [("unicode/utf8.acceptRanges", Rows.laid_unicode_utf8_acceptRanges), ("errors.errorType", Rows.laid_errors_errorType), ("speakeasy/api.ErrArg", Rows.laid_speakeasy_api_ErrArg), ("speakeasy/api.ErrEnd", Rows.laid_speakeasy_api_ErrEnd), ("speakeasy/api.ErrForm", Rows.laid_speakeasy_api_ErrForm), ("speakeasy/api.ErrBig", Rows.laid_speakeasy_api_ErrBig), ("speakeasy/api.ErrMac", Rows.laid_speakeasy_api_ErrMac), ("speakeasy/api.ErrState", Rows.laid_speakeasy_api_ErrState), ("speakeasy/api.ErrFull", Rows.laid_speakeasy_api_ErrFull), ("speakeasy/api.ErrNone", Rows.laid_speakeasy_api_ErrNone), ("speakeasy/api.ErrHave", Rows.laid_speakeasy_api_ErrHave), ("speakeasy/api.ErrKey", Rows.laid_speakeasy_api_ErrKey), ("speakeasy/api.ErrSign", Rows.laid_speakeasy_api_ErrSign), ("speakeasy/api.ErrVersion", Rows.laid_speakeasy_api_ErrVersion), ("speakeasy/api.ErrAlgo", Rows.laid_speakeasy_api_ErrAlgo), ("speakeasy/api.ErrHost", Rows.laid_speakeasy_api_ErrHost), ("speakeasy/api.ErrAuth", Rows.laid_speakeasy_api_ErrAuth), ("speakeasy/api.ErrQuota", Rows.laid_speakeasy_api_ErrQuota), ("speakeasy/api.ErrName", Rows.laid_speakeasy_api_ErrName), ("speakeasy/api.ErrGone", Rows.laid_speakeasy_api_ErrGone), ("speakeasy/api.ErrWindow", Rows.laid_speakeasy_api_ErrWindow), ("speakeasy/api.ErrKind", Rows.laid_speakeasy_api_ErrKind), ("speakeasy/field.prime", Rows.laid_speakeasy_field_prime), ("speakeasy/sha2.k256", Rows.laid_speakeasy_sha2_k256), ("unicode/utf8.first", Rows.laid_unicode_utf8_first)] W) : ∃ eo : Nat → Nat × Nat, (∀ i j, i < 20 → j < 20 → i ≠ j → eo i ≠ eo j) ∧ known W (errE W eo) [(23, some ⟨.agg64 primeL, anyT, false⟩), (21, some ⟨.agg32 K256, anyT, false⟩), (20, some ⟨hndE, anyT, false⟩), (2, some ⟨.agg [.err 269 (1) (offE eo (1))], errT, false⟩), (0, some ⟨.agg [.err 269 (2) (offE eo (2))], errT, false⟩), (3, some ⟨.agg [.err 269 (3) (offE eo (3))], errT, false⟩), (1, some ⟨.agg [.err 269 (4) (offE eo (4))], errT, false⟩), (4, some ⟨.agg [.err 269 (5) (offE eo (5))], errT, false⟩), (5, some ⟨.agg [.err 269 (6) (offE eo (6))], errT, false⟩), (6, some ⟨.agg [.err 269 (7) (offE eo (7))], errT, false⟩), (7, some ⟨.agg [.err 269 (8) (offE eo (8))], errT, false⟩), (8, some ⟨.agg [.err 269 (9) (offE eo (9))], errT, false⟩), (9, some ⟨.agg [.err 269 (10) (offE eo (10))], errT, false⟩), (10, some ⟨.agg [.err 269 (11) (offE eo (11))], errT, false⟩), (11, some ⟨.agg [.err 269 (12) (offE eo (12))], errT, false⟩), (12, some ⟨.agg [.err 269 (13) (offE eo (13))], errT, false⟩), (13, some ⟨.agg [.err 269 (14) (offE eo (14))], errT, false⟩), (14, some ⟨.agg [.err 269 (15) (offE eo (15))], errT, false⟩), (15, some ⟨.agg [.err 269 (16) (offE eo (16))], errT, false⟩), (16, some ⟨.agg [.err 269 (17) (offE eo (17))], errT, false⟩), (17, some ⟨.agg [.err 269 (18) (offE eo (18))], errT, false⟩), (18, some ⟨.agg [.err 269 (19) (offE eo (19))], errT, false⟩), (19, some ⟨.agg [.err 269 (20) (offE eo (20))], errT, false⟩), (401, some ⟨.agg [], errT, false⟩), (402, some ⟨.agg [], errT, false⟩), (403, some ⟨.agg [], errT, false⟩), (404, some ⟨.agg [], errT, false⟩), (405, some ⟨.agg [], errT, false⟩), (406, some ⟨.agg [], errT, false⟩), (407, some ⟨.agg [], errT, false⟩), (408, some ⟨.agg [], errT, false⟩), (409, some ⟨.agg [], errT, false⟩), (410, some ⟨.agg [], errT, false⟩), (411, some ⟨.agg [], errT, false⟩), (412, some ⟨.agg [], errT, false⟩), (413, some ⟨.agg [], errT, false⟩), (414, some ⟨.agg [], errT, false⟩), (415, some ⟨.agg [], errT, false⟩), (416, some ⟨.agg [], errT, false⟩), (417, some ⟨.agg [], errT, false⟩), (418, some ⟨.agg [], errT, false⟩), (419, some ⟨.agg [], errT, false⟩), (420, some ⟨.agg [], errT, false⟩)] := by
  obtain ⟨hl, hh⟩ := laidMetH_two h
  have h0 := laidMet_tail (show laidMet Tryz.prog (_ :: _) W from hl)
  have h1 := laidMet_tail h0
  have h2 := laidMet_tail h1
  have h3 := laidMet_tail h2
  have h4 := laidMet_tail h3
  have h5 := laidMet_tail h4
  have h6 := laidMet_tail h5
  have h7 := laidMet_tail h6
  have h8 := laidMet_tail h7
  have h9 := laidMet_tail h8
  have h10 := laidMet_tail h9
  have h11 := laidMet_tail h10
  have h12 := laidMet_tail h11
  have h13 := laidMet_tail h12
  have h14 := laidMet_tail h13
  have h15 := laidMet_tail h14
  have h16 := laidMet_tail h15
  have h17 := laidMet_tail h16
  have h18 := laidMet_tail h17
  have h19 := laidMet_tail h18
  have h20 := laidMet_tail h19
  have h21 := laidMet_tail h20
  obtain ⟨eo, hd, hkn⟩ := laid_errs h0
  exact ⟨eo, hd, ⟨rfl, 23, sizeAt W 23, by simp [errE], bat_primeE h20⟩, ⟨rfl, 21, sizeAt W 21, by simp [errE], bat_k256 h21⟩, ⟨rfl, 20, sizeAt W 20, by simp [errE], bat_handle (show handlesMet Tryz.prog (_ :: _) W from hh)⟩, hkn⟩
end Go.Proofs.YtdmlpblaelfdmaaGreatDoor
