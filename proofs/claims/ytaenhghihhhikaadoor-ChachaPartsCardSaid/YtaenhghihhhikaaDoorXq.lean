/-
  The quarter round of ChaCha20, walked.
-/
import Derived.Test.YtaenhghihhhikaaDoorXi
import Derived.BigRegion
namespace Go.Proofs.YtaenhghihhhikaaDoor
open Go.RowKit
attribute [local go_sem] and_n32 or_n32 xor_n32 add_n32 add_n32' wrap_n32

theorem map_get {α : Type} (f : α → Value) (z : α) (l : List α) (i : Nat) (h : i < l.length) : (l.map f).toArray[i]? = some (f (l.getD i z)) := by
  simp [List.getD_eq_getElem?_getD, List.getElem?_eq_getElem h]
theorem map_set {α : Type} (f : α → Value) (l : List α) (i : Nat) (v : α) : (l.map f).toArray.setIfInBounds i (f v) = ((l.set i v).map f).toArray := by
  simp [List.map_set]
set_option maxHeartbeats 2000000 in
set_option maxRecDepth 100000 in
theorem quarter_any (g a b c d : Nat) (l : List UInt32) (w : World) (hg : Blk w g 60 (l.map U32).toArray) (hl : l.length = 16) (ha : a < 16) (hb : b < 16) (hc : c < 16) (hd : d < 16) (hab : a ≠ b) (hac : a ≠ c) (had : a ≠ d) (hbc : b ≠ c) (hbd : b ≠ d) (hcd : c ≠ d) :
    Calls Tryd.prog 30 #[.pointer (some ⟨g, 0, none⟩), .agg #[.int .i64 (a : Int), .int .i64 (b : Int), .int .i64 (c : Int), .int .i64 (d : Int)]] w
      fun e w' => e = .returned (.tuple #[]) ∧ w.grownBy w' (some g) ∧ Blk w' g 60 ((quarter l a b c d).map U32).toArray := by
  obtain ⟨w1, hw1, hbel1, hb1, hsz1⟩ : ∃ w1 : World, w1 = w.alloc (.cells #[.int .i64 (a : Int), .int .i64 (b : Int), .int .i64 (c : Int), .int .i64 (d : Int)] 64) ∧ Below w.heap.size w w1 ∧ Blk w1 w.heap.size 64 #[.int .i64 (a : Int), .int .i64 (b : Int), .int .i64 (c : Int), .int .i64 (d : Int)] ∧ w1.heap.size = w.heap.size + 1 :=
    ⟨_, rfl, (Below.refl _ _).alloc (Nat.le_refl _) _, Blk.new w _ _, by simp⟩
  have hg1 := hg.below hbel1 hg.lt
  have hne : g ≠ w.heap.size := Nat.ne_of_lt hg.lt
  have HW := hid hw1
  clear hw1 hsz1 hg
  have ca := (hg1.cell a).trans (map_get U32 0 l a (by omega))
  have cb := (hg1.cell b).trans (map_get U32 0 l b (by omega))
  have cc := (hg1.cell c).trans (map_get U32 0 l c (by omega))
  have cd := (hg1.cell d).trans (map_get U32 0 l d (by omega))
  obtain ⟨A, hA⟩ : ∃ A, A = l.getD a 0 := ⟨_, rfl⟩
  obtain ⟨B, hB⟩ : ∃ A, A = l.getD b 0 := ⟨_, rfl⟩
  obtain ⟨C, hC⟩ : ∃ A, A = l.getD c 0 := ⟨_, rfl⟩
  obtain ⟨D, hD⟩ : ∃ A, A = l.getD d 0 := ⟨_, rfl⟩
  rw [← hA] at ca
  rw [← hB] at cb
  rw [← hC] at cc
  rw [← hD] at cd
  have i0 : w1.cell? ⟨w.heap.size, 0, none⟩ = some (.int .i64 (a : Int)) := hb1.cell 0
  have i1 : w1.cell? ⟨w.heap.size, 1, none⟩ = some (.int .i64 (b : Int)) := hb1.cell 1
  have i2 : w1.cell? ⟨w.heap.size, 2, none⟩ = some (.int .i64 (c : Int)) := hb1.cell 2
  have i3 : w1.cell? ⟨w.heap.size, 3, none⟩ = some (.int .i64 (d : Int)) := hb1.cell 3
  have HA := hid hA
  have HB := hid hB
  have HC := hid hC
  have HD := hid hD
  have HL := hid hl
  clear hA hB hC hD hl
  go_enter Tryd.func30, Tryd.ntmps30
  go_wp2
  rw [← HW.out]
  go_quiet (fail)
  go_wp2_with (go_at_call 64; refine (mix_any _ _ _ _ _ (by omega) (by omega)).mono ?_; rintro e w' ⟨rfl, rfl⟩)
  obtain ⟨A2, hA2⟩ : ∃ x, x = A + B + rotl32 (B ^^^ (C + rotl32 (D ^^^ (A + B)) 16)) 12 := ⟨_, rfl⟩
  obtain ⟨D2, hD2⟩ : ∃ x, x = rotl32 (rotl32 (D ^^^ (A + B)) 16 ^^^ A2) 8 := ⟨_, rfl⟩
  obtain ⟨C2, hC2⟩ : ∃ x, x = C + rotl32 (D ^^^ (A + B)) 16 + D2 := ⟨_, rfl⟩
  obtain ⟨B2, hB2⟩ : ∃ x, x = rotl32 (rotl32 (B ^^^ (C + rotl32 (D ^^^ (A + B)) 16)) 12 ^^^ C2) 7 := ⟨_, rfl⟩
  simp only [← hA2, ← hD2, ← hC2, ← hB2]
  have hq : quarter l a b c d = (((l.set a A2).set b B2).set c C2).set d D2 := by
    rw [quarter, ← HA.out, ← HB.out, ← HC.out, ← HD.out, hB2, hC2, hD2, hA2]; rfl
  have HQ := hid hq
  clear hq hA2 hB2 hC2 hD2
  obtain ⟨w2, hw2, hg2, hbel2, hb2⟩ : ∃ w2, w2 = w1.drewN _ ∧ Blk w2 g 60 (l.map U32).toArray ∧ Below w.heap.size w w2 ∧ Blk w2 w.heap.size 64 #[.int .i64 (a : Int), .int .i64 (b : Int), .int .i64 (c : Int), .int .i64 (d : Int)] :=
    ⟨_, rfl, hg1.drewN _, below_drewN hbel1 _, hb1.drewN _⟩
  rw [← hw2]
  clear hw2 ca cb cc cd i0 i1 i2 i3 hg1 hbel1 hb1
  have i0 : w2.cell? ⟨w.heap.size, 0, none⟩ = some (.int .i64 (a : Int)) := hb2.cell 0
  have i1 : w2.cell? ⟨w.heap.size, 1, none⟩ = some (.int .i64 (b : Int)) := hb2.cell 1
  have i2 : w2.cell? ⟨w.heap.size, 2, none⟩ = some (.int .i64 (c : Int)) := hb2.cell 2
  have i3 : w2.cell? ⟨w.heap.size, 3, none⟩ = some (.int .i64 (d : Int)) := hb2.cell 3
  have hl := HL.out
  have ca := (hg2.cell a).trans (map_get U32 0 l a (by omega))
  have cb := (hg2.cell b).trans (map_get U32 0 l b (by omega))
  have cc := (hg2.cell c).trans (map_get U32 0 l c (by omega))
  have cd := (hg2.cell d).trans (map_get U32 0 l d (by omega))
  have fa := hg2.frozen a
  have fb := hg2.frozen b
  have fc := hg2.frozen c
  have fd := hg2.frozen d
  clear hl
  go_region
  go_end0
  refine ⟨rfl, ?_, ?_⟩
  · have h0 : w.grownBy w2 (some g) := ⟨hbel2.os, hbel2.tape, hbel2.output, hbel2.size, fun k hk _ => hbel2.block k hk⟩
    exact grown_drew (grown_setCell (grown_setCell (grown_setCell (grown_setCell h0 _ _) _ _) _ _) _ _)
  · rw [HQ.out, ← map_set, ← map_set, ← map_set, ← map_set]
    exact ((((hg2.set_ a _).set_ b _).set_ c _).set_ d _).drew
theorem qAt_bd (i : Nat) (h : i < 8) : qAt i 0 < 16 ∧ qAt i 1 < 16 ∧ qAt i 2 < 16 ∧ qAt i 3 < 16 ∧ qAt i 0 ≠ qAt i 1 ∧ qAt i 0 ≠ qAt i 2 ∧ qAt i 0 ≠ qAt i 3 ∧ qAt i 1 ≠ qAt i 2 ∧ qAt i 1 ≠ qAt i 3 ∧ qAt i 2 ≠ qAt i 3 := by
  revert i; decide
theorem qrow_any (g i : Nat) (l : List UInt32) (w : World) (hg : Blk w g 60 (l.map U32).toArray) (hl : l.length = 16) (hi : i < 8) :
    Calls Tryd.prog 30 #[.pointer (some ⟨g, 0, none⟩), .agg #[.int .i64 (qAt i 0 : Int), .int .i64 (qAt i 1 : Int), .int .i64 (qAt i 2 : Int), .int .i64 (qAt i 3 : Int)]] w
      fun e w' => e = .returned (.tuple #[]) ∧ w.grownBy w' (some g) ∧ Blk w' g 60 ((qrow l i).map U32).toArray := by
  obtain ⟨h1, h2, h3, h4, h5, h6, h7, h8, h9, h10⟩ := qAt_bd i hi
  exact quarter_any g _ _ _ _ l w hg hl h1 h2 h3 h4 h5 h6 h7 h8 h9 h10
end Go.Proofs.YtaenhghihhhikaaDoor
