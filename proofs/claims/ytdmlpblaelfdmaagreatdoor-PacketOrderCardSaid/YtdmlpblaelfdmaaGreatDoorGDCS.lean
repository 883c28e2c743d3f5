/-
  Texts of this claim.
-/
import Derived.Test.YtdmlpblaelfdmaaGreatDoorGDBS
import Derived.Test.YtdmlpblaelfdmaaGreatDoorGK3S
import Derived.Test.YtdmlpblaelfdmaaGreatDoorGK4S
namespace Go.Proofs.YtdmlpblaelfdmaaGreatDoor
open Go.RowKit
theorem okV_y {fp : List UInt8 × Nat × Nat} (h : fp.2.2 = 0) (h0 : fp.2.1 ≠ 0) : okV fp = true := by
  unfold okV; rw [h, bne_iff_ne.2 h0]; rfl
theorem first_nil1 {b : Bool} {key : List UInt8} {n : UInt64} {s : List UInt8} (_h : (firstP b key n s).2.2 = 0) (h0 : (firstP b key n s).2.1 = 0) : (firstP b key n s).1 = [] := by
  unfold firstP at _h h0 ⊢
  split
  · rfl
  · rename_i h4
    rw [if_neg h4] at _h h0
    split
    · rfl
    · rename_i hb
      rw [if_neg hb] at _h h0
      split
      · rfl
      · rename_i hs
        rw [if_neg hs] at _h h0
        split
        · rfl
        · rename_i ho
          rw [if_neg ho] at _h h0
          have : sizeP b s = 0 := h0
          unfold sizeP at this; omega
theorem first_bad1 {b : Bool} {key : List UInt8} {n : UInt64} {s : List UInt8} (h : (firstP b key n s).2.2 ≠ 0) : (firstP b key n s).1 = [] := by
  unfold firstP at h ⊢
  split
  · rfl
  · rename_i h4
    rw [if_neg h4] at h
    split
    · rfl
    · rename_i hb
      rw [if_neg hb] at h
      split
      · rfl
      · rename_i hs
        rw [if_neg hs] at h
        split
        · rfl
        · rename_i ho
          rw [if_neg ho] at h
          simp only at h ⊢
          unfold unpadP at h ⊢
          split
          · rfl
          · rename_i hu; rw [if_neg hu] at h; exact absurd rfl h
theorem first_code (b : Bool) (key : List UInt8) (n : UInt64) (s : List UInt8) : (firstP b key n s).2.2 = 0 ∨ (firstP b key n s).2.2 = 3 ∨ (firstP b key n s).2.2 = 4 ∨ (firstP b key n s).2.2 = 5 := by
  have hb : badP b s = 0 ∨ badP b s = 3 ∨ badP b s = 4 := by
    unfold badP; split
    · simp
    · split <;> simp
  have hu : ∀ y, (unpadP y).2 = 0 ∨ (unpadP y).2 = 3 := fun y => by unfold unpadP; split <;> simp
  have ho : ∀ box head, (openP b key n box head).2 = 0 ∨ (openP b key n box head).2 = 5 := fun box head => by
    cases b with
    | false => left; rfl
    | true => simp only [openP]; split <;> simp
  unfold firstP
  split
  · simp
  · split
    · simp only; omega
    · split
      · simp
      · split
        · rcases ho (boxP b s) (s.take 4) with h | h <;> simp [h]
        · have := hu (openP b key n (boxP b s) (s.take 4)).1
          simp only; omega
theorem codeF_ev (eo : Nat → Nat × Nat) (hd : ∀ i j, i < 20 → j < 20 → i ≠ j → eo i ≠ eo j) (ws : List UInt8) (te : Nat) (x : Nat) (hx : x = 2 ∨ x = 3 ∨ x = 4) : Meets Tryz.prog 15 [.ifc 102 (.ptr 500 0)] [(2, some ⟨.agg [.err 269 (1) (offE eo (1))], errT, false⟩), (0, some ⟨.agg [.err 269 (2) (offE eo (2))], errT, false⟩), (3, some ⟨.agg [.err 269 (3) (offE eo (3))], errT, false⟩), (1, some ⟨.agg [.err 269 (4) (offE eo (4))], errT, false⟩), (4, some ⟨.agg [.err 269 (5) (offE eo (5))], errT, false⟩), (5, some ⟨.agg [.err 269 (6) (offE eo (6))], errT, false⟩), (6, some ⟨.agg [.err 269 (7) (offE eo (7))], errT, false⟩), (7, some ⟨.agg [.err 269 (8) (offE eo (8))], errT, false⟩), (8, some ⟨.agg [.err 269 (9) (offE eo (9))], errT, false⟩), (9, some ⟨.agg [.err 269 (10) (offE eo (10))], errT, false⟩), (10, some ⟨.agg [.err 269 (11) (offE eo (11))], errT, false⟩), (11, some ⟨.agg [.err 269 (12) (offE eo (12))], errT, false⟩), (12, some ⟨.agg [.err 269 (13) (offE eo (13))], errT, false⟩), (13, some ⟨.agg [.err 269 (14) (offE eo (14))], errT, false⟩), (14, some ⟨.agg [.err 269 (15) (offE eo (15))], errT, false⟩), (15, some ⟨.agg [.err 269 (16) (offE eo (16))], errT, false⟩), (16, some ⟨.agg [.err 269 (17) (offE eo (17))], errT, false⟩), (17, some ⟨.agg [.err 269 (18) (offE eo (18))], errT, false⟩), (18, some ⟨.agg [.err 269 (19) (offE eo (19))], errT, false⟩), (19, some ⟨.agg [.err 269 (20) (offE eo (20))], errT, false⟩), (401, some ⟨.agg [], errT, false⟩), (402, some ⟨.agg [], errT, false⟩), (403, some ⟨.agg [], errT, false⟩), (404, some ⟨.agg [], errT, false⟩), (405, some ⟨.agg [], errT, false⟩), (406, some ⟨.agg [], errT, false⟩), (407, some ⟨.agg [], errT, false⟩), (408, some ⟨.agg [], errT, false⟩), (409, some ⟨.agg [], errT, false⟩), (410, some ⟨.agg [], errT, false⟩), (411, some ⟨.agg [], errT, false⟩), (412, some ⟨.agg [], errT, false⟩), (413, some ⟨.agg [], errT, false⟩), (414, some ⟨.agg [], errT, false⟩), (415, some ⟨.agg [], errT, false⟩), (416, some ⟨.agg [], errT, false⟩), (417, some ⟨.agg [], errT, false⟩), (418, some ⟨.agg [], errT, false⟩), (419, some ⟨.agg [], errT, false⟩), (420, some ⟨.agg [], errT, false⟩), (500, some ⟨.agg [.str ws, .err 269 (x + 1) (offE eo (x + 1))], te, false⟩)] (.i64 ((x + 1 : Nat) : Int)) [] := by
  rcases hx with rfl | rfl | rfl
  · exact codeF_3 eo hd ws te
  · exact codeF_4 eo hd ws te
  · exact codeF_5 eo hd ws te
end Go.Proofs.YtdmlpblaelfdmaaGreatDoor
