/-
  Texts of this claim.
-/
import Derived.Test.YtdmlpblaelfdmaaGreatDoorGYDR
import Derived.Test.YtdmlpblaelfdmaaGreatDoorGOUR
import Derived.Test.YtdmlpblaelfdmaaGreatDoorGP3R
namespace Go.Proofs.YtdmlpblaelfdmaaGreatDoor
open Go.ChangeShapes Go.WideShapes Go.ChangeAt Go.RowKit
theorem packetReads_ev (eo : Nat → Nat × Nat) (hd : ∀ i j, i < 20 → j < 20 → i ≠ j → eo i ≠ eo j) (e ty : Nat) (key : List UInt8) (hk : key.length = 32) (b : Bool) (s : List UInt8) (hs : s.length ≤ maxLen) : Meets Tryz.prog 4 [.aggB key, .bool b, .str s] [(22, some ⟨.aggI qsTab, e, false⟩), (20, some ⟨hndE, ty, false⟩), (2, some ⟨.agg [.err 269 (1) (offE eo (1))], errT, false⟩), (0, some ⟨.agg [.err 269 (2) (offE eo (2))], errT, false⟩), (3, some ⟨.agg [.err 269 (3) (offE eo (3))], errT, false⟩), (1, some ⟨.agg [.err 269 (4) (offE eo (4))], errT, false⟩), (4, some ⟨.agg [.err 269 (5) (offE eo (5))], errT, false⟩), (5, some ⟨.agg [.err 269 (6) (offE eo (6))], errT, false⟩), (6, some ⟨.agg [.err 269 (7) (offE eo (7))], errT, false⟩), (7, some ⟨.agg [.err 269 (8) (offE eo (8))], errT, false⟩), (8, some ⟨.agg [.err 269 (9) (offE eo (9))], errT, false⟩), (9, some ⟨.agg [.err 269 (10) (offE eo (10))], errT, false⟩), (10, some ⟨.agg [.err 269 (11) (offE eo (11))], errT, false⟩), (11, some ⟨.agg [.err 269 (12) (offE eo (12))], errT, false⟩), (12, some ⟨.agg [.err 269 (13) (offE eo (13))], errT, false⟩), (13, some ⟨.agg [.err 269 (14) (offE eo (14))], errT, false⟩), (14, some ⟨.agg [.err 269 (15) (offE eo (15))], errT, false⟩), (15, some ⟨.agg [.err 269 (16) (offE eo (16))], errT, false⟩), (16, some ⟨.agg [.err 269 (17) (offE eo (17))], errT, false⟩), (17, some ⟨.agg [.err 269 (18) (offE eo (18))], errT, false⟩), (18, some ⟨.agg [.err 269 (19) (offE eo (19))], errT, false⟩), (19, some ⟨.agg [.err 269 (20) (offE eo (20))], errT, false⟩), (401, some ⟨.agg [], errT, false⟩), (402, some ⟨.agg [], errT, false⟩), (403, some ⟨.agg [], errT, false⟩), (404, some ⟨.agg [], errT, false⟩), (405, some ⟨.agg [], errT, false⟩), (406, some ⟨.agg [], errT, false⟩), (407, some ⟨.agg [], errT, false⟩), (408, some ⟨.agg [], errT, false⟩), (409, some ⟨.agg [], errT, false⟩), (410, some ⟨.agg [], errT, false⟩), (411, some ⟨.agg [], errT, false⟩), (412, some ⟨.agg [], errT, false⟩), (413, some ⟨.agg [], errT, false⟩), (414, some ⟨.agg [], errT, false⟩), (415, some ⟨.agg [], errT, false⟩), (416, some ⟨.agg [], errT, false⟩), (417, some ⟨.agg [], errT, false⟩), (418, some ⟨.agg [], errT, false⟩), (419, some ⟨.agg [], errT, false⟩), (420, some ⟨.agg [], errT, false⟩)] (.bool true) [] := by
  by_cases h : s.take 400 = []
  · cases b
    · exact packetReads_fe eo hd e ty key hk s hs h
    · exact packetReads_te eo hd e ty key hk s hs h
  · cases b
    · exact packetReads_f eo hd e ty key hk s _ hs rfl h
    · exact packetReads_t eo hd e ty key hk s _ hs rfl h
set_option maxRecDepth 100000 in
theorem packetReads_all (key : List UInt8) (b : Bool) (s : ByteArray) (W : World) (hk : key.length = 32) (hs : s.size ≤ maxLen) (hQ : ∀ r, laidMet Tryz.prog (("speakeasy/chacha.quarters", Rows.laid_speakeasy_chacha_quarters) :: r) W → QAt W) (h : laidMetH Tryz.prog Rows.packetReadsRow.laid W) :
  Calls Tryz.prog 4 #[.agg (key.map U8).toArray, .bool b, .string s] W fun e W' => e = .returned (.bool true) ∧ Below W.heap.size W W' := by
 obtain ⟨hl, hh⟩ := laidMetH_two h
 have hl' := show laidMet Tryz.prog (("speakeasy/chacha.quarters", Rows.laid_speakeasy_chacha_quarters) :: _) W from hl
 have h1 := laidMet_tail hl'
 obtain ⟨eo, hd, hkn⟩ := laid_errs h1
 refine walk_of_meets_at (errE W eo) (errE_glob _ _) (errE_top _ _) (packetReads_ev eo hd anyT anyT key hk b s.data.toList hs) rfl (fun i x y hx hy => ?_) (known.spec ⟨⟨rfl, 22, sizeAt W 22, by simp [errE], quarters_any (hQ _ hl')⟩, ⟨rfl, 20, sizeAt W 20, by simp [errE], bat_handle (show handlesMet Tryz.prog (_ :: _) W from hh)⟩, hkn⟩)
 match i, hx, hy with
 | 0, hx, hy => injection hx with hx; injection hy with hy; subst hx; subst hy; exact rel_bytes _ _
 | 1, hx, hy => injection hx with hx; injection hy with hy; subst hx; subst hy; exact .bool _
 | 2, hx, hy => injection hx with hx; injection hy with hy; subst hx; subst hy; exact .str _
 | i + 3, hx, _ => simp at hx
end Go.Proofs.YtdmlpblaelfdmaaGreatDoor
