/-
  The reference's quarter round, walked.
-/
import Derived.Test.YtaenhghihhhikaaDoorYl
import Derived.Test.YtaenhghihhhikaaDoorYw
import Derived.Deep.RegionWith
import Derived.StillTailTactics
import Derived.Lib.AppendZeros
namespace Go.Proofs.YtaenhghihhhikaaDoor
open Go.RowKit

theorem region_tail' {P : Program} {id : Nat} {Q : Exit → Act → World → Prop} {a : Act} {w : World} {l : List Oper} (n : Nat) (hm : P.follows .mixedOrders = true) (hB : Region.lexTailB .any l.toArray n = true)
    (h : wpStill P l.toArray w.drew (fun a' => wpList P l.toArray Q (l.drop n) a' w.drew) (l.take n) a) : (Code.region id l.toArray true).wp P Q a w :=
  wp_region_still_tail n hm hB h
def nAt (k : Nat) : Nat := [16, 12, 8, 7].getD k 0
def qsE (m : List UInt32) (a b d n : Nat) : List UInt32 := (m.set a (m.getD a 0 + m.getD b 0)).set d (rotl32 (m.getD d 0 ^^^ (m.getD a 0 + m.getD b 0)) n)
def qs (l : List UInt32) (a b c d : Nat) : Nat → List UInt32
  | 0 => l
  | k + 1 => if k % 2 = 0 then qsE (qs l a b c d k) a b d (nAt k) else qsE (qs l a b c d k) c d b (nAt k)
theorem length_qs (l : List UInt32) (a b c d k : Nat) : (qs l a b c d k).length = l.length := by
  induction k with
  | zero => rfl
  | succ k ih => rw [qs]; split <;> simp [qsE, ih]
theorem getD_set (l : List UInt32) (i j : Nat) (v : UInt32) (h : i < l.length) : (l.set i v).getD j 0 = if i = j then v else l.getD j 0 := by
  simp only [List.getD_eq_getElem?_getD, List.getElem?_set]
  by_cases e : i = j
  · subst e; simp [h]
  · simp [e]
theorem qs_four (l : List UInt32) (a b c d : Nat) (ha : a < l.length) (hb : b < l.length) (hc : c < l.length) (hd : d < l.length) (hab : a ≠ b) (hac : a ≠ c) (had : a ≠ d) (hbc : b ≠ c) (hbd : b ≠ d) (hcd : c ≠ d) :
    qs l a b c d 4 = quarter l a b c d := by
  apply List.ext_getElem?
  intro i
  have e : ∀ m : List UInt32, m.length = l.length → m[i]? = if i < l.length then some (m.getD i 0) else none := by
    intro m hm
    by_cases h : i < l.length
    · rw [if_pos h, List.getD_eq_getElem?_getD, List.getElem?_eq_getElem (by omega)]; rfl
    · rw [if_neg h, List.getElem?_eq_none (by omega)]
  rw [e _ (length_qs _ _ _ _ _ _), e _ (length_quarter _ _ _ _ _)]
  congr 2
  simp only [qs, qsE, quarter, qmix, nAt, Nat.reduceMod, if_true, Nat.one_ne_zero, if_false, List.getD_cons_zero, List.getD_cons_succ]
  have hba := hab.symm
  have hca := hac.symm
  have hda := had.symm
  have hcb := hbc.symm
  have hdb := hbd.symm
  have hdc := hcd.symm
  simp only [getD_set, List.length_set, *, if_true, if_false]
  by_cases h1 : a = i
  · subst h1; simp [*]
  · by_cases h2 : b = i
    · subst h2; simp [*]
    · by_cases h3 : c = i
      · subst h3; simp [*]
      · by_cases h4 : d = i
        · subst h4; simp [*]
        · simp [h1, h2, h3, h4]
theorem xor_w64 (x y : UInt32) : bits .xor .u64 (n32 x) (n32 y) = n32 (x ^^^ y) := by
  rw [n64_of_n32, n64_of_n32, xor_n64, n64_of_n32]; rfl
theorem add_w64 (x y : UInt32) : IntKind.u64.wrap (n32 x + n32 y) % 4294967296 = n32 (x + y) := by
  have := n32_lt x; have := n32_lt y; have := n32_nonneg x; have := n32_nonneg y
  rw [wrap_u64, ← add_n32']; omega
def QRel (w : World) (V : Value) (l : List UInt32) (bK : Nat) (wr : World) : Prop :=
  Own wr w.heap.size 30 W64 V l ∧ Below w.heap.size w wr ∧ Blk wr bK 3 #[.int .i64 16, .int .i64 12, .int .i64 8, .int .i64 7]
theorem nAt_cell (k : Nat) (h : k < 4) : (#[.int .i64 16, .int .i64 12, .int .i64 8, .int .i64 7] : Array Value)[k]? = some (.int .i64 (nAt k : Int)) := by
  match k, h with
  | 0, _ => rfl
  | 1, _ => rfl
  | 2, _ => rfl
  | 3, _ => rfl
theorem leftN_any (x : UInt32) (n : Nat) (w : World) (h1 : 1 ≤ n) (h : n < 32) :
    Calls Tryd.prog 65 #[.int .u64 (n32 x), .int .i64 (n : Int)] w fun e w' => e = .returned (.int .u64 (n32 (rotl32 x n))) ∧ w = w' := by
  rw [← rotI_eq x n h1 h]; exact left_any x n w (by omega)
theorem leftN_q (x : UInt32) (n : Nat) (w : World) (h1 : 1 ≤ n) (h : n < 32) :
    Calls Tryd.prog 65 #[.int .u64 (n32 x), .int .i64 (n : Int)] w fun e w' => e = .returned (.int .u64 (n32 (rotl32 x n))) ∧ w' = w :=
  (leftN_any x n w h1 h).mono fun _ _ h => ⟨h.1, h.2.symm⟩
set_option maxHeartbeats 1000000 in
set_option maxRecDepth 100000 in
theorem refQuarter_any (V : Value) (l : List UInt32) (a b c d : Nat) (w : World) (hV : Own w 0 30 W64 V l) (hl : l.length = 16) (ha : a < 16) (hb : b < 16) (hc : c < 16) (hd : d < 16)
    (hab : a ≠ b) (hac : a ≠ c) (had : a ≠ d) (hbc : b ≠ c) (hbd : b ≠ d) (hcd : c ≠ d) :
    Calls Tryd.prog 33 #[V, .int .i64 (a : Int), .int .i64 (b : Int), .int .i64 (c : Int), .int .i64 (d : Int)] w
      fun e w' => ∃ V', e = .returned V' ∧ Own w' w.heap.size 30 W64 V' (quarter l a b c d) ∧ Below w.heap.size w w' := by
  obtain ⟨i0, hi, hz0, hz1, hz2⟩ := info_parts infoU64
  obtain ⟨V1, w1, hrun, hown1, hg1⟩ := run_append_rows (P := Tryd.prog) (w.alloc (.cells #[] 30)) w.heap.size 0 67 67 30 i0 _ 8 W64 (fun _ => rfl) Tryd.underlying67 hi hz0 hz1 hz2 rfl
    (.slice (some ⟨w.heap.size, 0, none⟩) 0 0) V [] l (Own.new w _ _ W64 [] (Nat.le_refl _) (Nat.zero_le _)) (hV.alloc _) (by rw [hl]; decide) (by omega) (by simp)
  have hbel1 : Below w.heap.size w w1 := ((Below.refl _ _).alloc (Nat.le_refl _) _).grown hg1 (by simp) (fun k hk => by injection hk with hk; exact hk ▸ Nat.le_refl _)
  rw [List.nil_append] at hown1
  have HR := hid hrun
  have hfin := qs_four l a b c d (by omega) (by omega) (by omega) (by omega) hab hac had hbc hbd hcd
  have HF := hid hfin
  have HL := hid hl
  obtain ⟨A, cap, hV2⟩ := hV.slice
  rw [hl] at hV2
  subst hV2
  clear hz0 hz1 hz2 hi hrun hfin hl hg1
  go_enter Tryd.func33, Tryd.ntmps33
  go_wp2_with (at_builtin; refine Lib.wpList_append_run _ rfl (.tmp 14) (.tmp 15) _ _ rfl _ _ rfl rfl _ _ HR.out ?_)
  rcases hown1.form with ⟨_, e⟩ | ⟨g, cap1, hV1, hg1, hg2, _, _⟩
  · have := HL.out; rw [e] at this; exact absurd this (by decide)
  rw [HL.out] at hV1
  subst hV1
  have HG := hid (And.intro hg1 hg2)
  have hK0 : QRel w (.slice (some ⟨g, 0, none⟩) 16 cap1) (qs l a b c d 0) w1.heap.size (w1.alloc (.cells #[.int .i64 16, .int .i64 12, .int .i64 8, .int .i64 7] 3)) := ⟨hown1.alloc _, hbel1.alloc hbel1.size _, Blk.new w1 _ _⟩
  clear hown1 hbel1 HR
  go_loopw [13, 19] (fun _ i wr => ∃ k : Nat, k ≤ 4 ∧ i = .int .i64 k ∧ QRel w (.slice (some ⟨g, 0, none⟩) 16 cap1) (qs l a b c d k) w1.heap.size wr) (fun _ i _ => 4 - (intOf i).toNat)
  case atStart => exact ⟨0, Nat.zero_le _, rfl, hK0⟩
  case round =>
    clear hK0
    obtain ⟨k, hk, rfl, hR⟩ := hrel
    by_cases hlt : k < 4
    · have h4 : k = 0 ∨ k = 1 ∨ k = 2 ∨ k = 3 := by omega
      rcases h4 with h4 | h4 | h4 | h4
      · rw [show k = 0 by omega] at hR
        obtain ⟨hown, hbel, hbk⟩ := hR
        have hkc : wr.cell? ⟨w1.heap.size, 0, none⟩ = some (.int .i64 16) := hbk.cell 0
        have hq : qs l a b c d (0 + 1) = qsE (qs l a b c d 0) a b d 16 := rfl
        obtain ⟨m, hm⟩ : ∃ m, m = qs l a b c d 0 := ⟨_, rfl⟩
        have hml : m.length = 16 := by rw [hm, length_qs, HL.out]
        rw [← hm] at hown hq
        have HQ := hid hq
        have HML := hid hml
        clear hq hm
        rw [← hml] at hown
        have cx := hown.cell 0 a (by omega)
        have cy := hown.cell 0 b (by omega)
        have cz := hown.cell 0 d (by omega)
        have fx := hown.frozen a
        have fz := hown.frozen d
        rw [hml] at hown
        obtain ⟨X, hX⟩ : ∃ x, x = m.getD a 0 := ⟨_, rfl⟩
        obtain ⟨Y, hY⟩ : ∃ x, x = m.getD b 0 := ⟨_, rfl⟩
        obtain ⟨Z, hZ⟩ : ∃ x, x = m.getD d 0 := ⟨_, rfl⟩
        rw [← hX] at cx
        rw [← hY] at cy
        rw [← hZ] at cz
        have hE : qsE m a b d 16 = (m.set a (X + Y)).set d (rotl32 (Z ^^^ (X + Y)) 16) := by rw [qsE, ← hX, ← hY, ← hZ]
        have HE := hid hE
        have hadd := add_w64 X Y
        have hxor := xor_w64 Z (X + Y)
        have hle : (0 : Int) ≤ IntKind.u64.wrap (n32 X + n32 Y) := by have := n32_nonneg X; have := n32_nonneg Y; rw [wrap_u64]; omega
        have hkl : ((k : Int)) = 0 := by omega
        have hRR : QRel w (.slice (some ⟨g, 0, none⟩) 16 cap1) m w1.heap.size wr := ⟨hown, hbel, hbk⟩
        have HRR := hid hRR
        have HZ := hid hZ
        clear hX hY hZ hE hml hRR hown hbel hbk
        go_wp2
        go_region
        obtain ⟨w2, hw2⟩ : ∃ w2, w2 = (wr.setCell ⟨g, a, none⟩ (W64 (X + Y))).drew := ⟨_, rfl⟩
        have hR2 : QRel w (.slice (some ⟨g, 0, none⟩) 16 cap1) (m.set a (X + Y)) w1.heap.size w2 := by
          rw [hw2]
          exact ⟨(HRR.out.1.set_ a (X + Y)).drew, (HRR.out.2.1.setCell HG.out.1 _).drew, (HRR.out.2.2.far (fun e => by have e' : w1.heap.size = g := e; exact absurd e' (Nat.ne_of_gt HG.out.2)) _).drew⟩
        rw [← hw2]
        clear hw2 cx cy cz fx fz hadd hle HRR hkc
        have hml2 : (m.set a (X + Y)).length = 16 := by rw [List.length_set, HML.out]
        have hown2 := hR2.1
        rw [← hml2] at hown2
        have cz := hown2.cell 0 d (by rw [hml2]; omega)
        have cx := hown2.cell 0 a (by rw [hml2]; omega)
        have fz := hown2.frozen d
        rw [getD_set _ _ _ _ (by rw [HML.out]; omega), if_neg (by omega), ← HZ.out] at cz
        rw [getD_set _ _ _ _ (by rw [HML.out]; omega), if_pos rfl] at cx
        have HR2 := hid hR2
        clear hml2 hown2 hR2
        have hzi : (d : Int) < 16 := by omega
        have hxi : (a : Int) < 16 := by omega
        have hzp : (0 : Int) ≤ d := by omega
        have hxp : (0 : Int) ≤ a := by omega
        go_wp2
        refine region_tail' 13 (by kernel_rfl) (by kernel_rfl) ?_
        simp only [List.take_succ_cons, List.take_zero, List.drop_succ_cons, List.drop_zero]
        repeat still_step
        still_call (leftN_q _ 16 _ (by omega) (by omega))
        repeat still_step
        refine wpStill_nil ?_
        go_wp2
        go_roundw
        case rel =>
          refine ⟨0 + 1, by omega, by simp, ?_⟩
          rw [HQ.out, HE.out]
          exact ⟨(HR2.out.1.set_ d (rotl32 (Z ^^^ (X + Y)) 16)).drew, (HR2.out.2.1.setCell HG.out.1 _).drew, (HR2.out.2.2.far (fun e => by have e' : w1.heap.size = g := e; exact absurd e' (Nat.ne_of_gt HG.out.2)) _).drew⟩
        case measure => simp [intOf]; omega
      · rw [show k = 1 by omega] at hR
        obtain ⟨hown, hbel, hbk⟩ := hR
        have hkc : wr.cell? ⟨w1.heap.size, 1, none⟩ = some (.int .i64 12) := hbk.cell 1
        have hq : qs l a b c d (1 + 1) = qsE (qs l a b c d 1) c d b 12 := rfl
        obtain ⟨m, hm⟩ : ∃ m, m = qs l a b c d 1 := ⟨_, rfl⟩
        have hml : m.length = 16 := by rw [hm, length_qs, HL.out]
        rw [← hm] at hown hq
        have HQ := hid hq
        have HML := hid hml
        clear hq hm
        rw [← hml] at hown
        have cx := hown.cell 0 c (by omega)
        have cy := hown.cell 0 d (by omega)
        have cz := hown.cell 0 b (by omega)
        have fx := hown.frozen c
        have fz := hown.frozen b
        rw [hml] at hown
        obtain ⟨X, hX⟩ : ∃ x, x = m.getD c 0 := ⟨_, rfl⟩
        obtain ⟨Y, hY⟩ : ∃ x, x = m.getD d 0 := ⟨_, rfl⟩
        obtain ⟨Z, hZ⟩ : ∃ x, x = m.getD b 0 := ⟨_, rfl⟩
        rw [← hX] at cx
        rw [← hY] at cy
        rw [← hZ] at cz
        have hE : qsE m c d b 12 = (m.set c (X + Y)).set b (rotl32 (Z ^^^ (X + Y)) 12) := by rw [qsE, ← hX, ← hY, ← hZ]
        have HE := hid hE
        have hadd := add_w64 X Y
        have hxor := xor_w64 Z (X + Y)
        have hle : (0 : Int) ≤ IntKind.u64.wrap (n32 X + n32 Y) := by have := n32_nonneg X; have := n32_nonneg Y; rw [wrap_u64]; omega
        have hkl : ((k : Int)) = 1 := by omega
        have hRR : QRel w (.slice (some ⟨g, 0, none⟩) 16 cap1) m w1.heap.size wr := ⟨hown, hbel, hbk⟩
        have HRR := hid hRR
        have HZ := hid hZ
        clear hX hY hZ hE hml hRR hown hbel hbk
        go_wp2
        go_region
        obtain ⟨w2, hw2⟩ : ∃ w2, w2 = (wr.setCell ⟨g, c, none⟩ (W64 (X + Y))).drew := ⟨_, rfl⟩
        have hR2 : QRel w (.slice (some ⟨g, 0, none⟩) 16 cap1) (m.set c (X + Y)) w1.heap.size w2 := by
          rw [hw2]
          exact ⟨(HRR.out.1.set_ c (X + Y)).drew, (HRR.out.2.1.setCell HG.out.1 _).drew, (HRR.out.2.2.far (fun e => by have e' : w1.heap.size = g := e; exact absurd e' (Nat.ne_of_gt HG.out.2)) _).drew⟩
        rw [← hw2]
        clear hw2 cx cy cz fx fz hadd hle HRR hkc
        have hml2 : (m.set c (X + Y)).length = 16 := by rw [List.length_set, HML.out]
        have hown2 := hR2.1
        rw [← hml2] at hown2
        have cz := hown2.cell 0 b (by rw [hml2]; omega)
        have cx := hown2.cell 0 c (by rw [hml2]; omega)
        have fz := hown2.frozen b
        rw [getD_set _ _ _ _ (by rw [HML.out]; omega), if_neg (by omega), ← HZ.out] at cz
        rw [getD_set _ _ _ _ (by rw [HML.out]; omega), if_pos rfl] at cx
        have HR2 := hid hR2
        clear hml2 hown2 hR2
        have hzi : (b : Int) < 16 := by omega
        have hxi : (c : Int) < 16 := by omega
        have hzp : (0 : Int) ≤ b := by omega
        have hxp : (0 : Int) ≤ c := by omega
        go_wp2
        refine region_tail' 13 (by kernel_rfl) (by kernel_rfl) ?_
        simp only [List.take_succ_cons, List.take_zero, List.drop_succ_cons, List.drop_zero]
        repeat still_step
        still_call (leftN_q _ 12 _ (by omega) (by omega))
        repeat still_step
        refine wpStill_nil ?_
        go_wp2
        go_roundw
        case rel =>
          refine ⟨1 + 1, by omega, by simp, ?_⟩
          rw [HQ.out, HE.out]
          exact ⟨(HR2.out.1.set_ b (rotl32 (Z ^^^ (X + Y)) 12)).drew, (HR2.out.2.1.setCell HG.out.1 _).drew, (HR2.out.2.2.far (fun e => by have e' : w1.heap.size = g := e; exact absurd e' (Nat.ne_of_gt HG.out.2)) _).drew⟩
        case measure => simp [intOf]; omega
      · rw [show k = 2 by omega] at hR
        obtain ⟨hown, hbel, hbk⟩ := hR
        have hkc : wr.cell? ⟨w1.heap.size, 2, none⟩ = some (.int .i64 8) := hbk.cell 2
        have hq : qs l a b c d (2 + 1) = qsE (qs l a b c d 2) a b d 8 := rfl
        obtain ⟨m, hm⟩ : ∃ m, m = qs l a b c d 2 := ⟨_, rfl⟩
        have hml : m.length = 16 := by rw [hm, length_qs, HL.out]
        rw [← hm] at hown hq
        have HQ := hid hq
        have HML := hid hml
        clear hq hm
        rw [← hml] at hown
        have cx := hown.cell 0 a (by omega)
        have cy := hown.cell 0 b (by omega)
        have cz := hown.cell 0 d (by omega)
        have fx := hown.frozen a
        have fz := hown.frozen d
        rw [hml] at hown
        obtain ⟨X, hX⟩ : ∃ x, x = m.getD a 0 := ⟨_, rfl⟩
        obtain ⟨Y, hY⟩ : ∃ x, x = m.getD b 0 := ⟨_, rfl⟩
        obtain ⟨Z, hZ⟩ : ∃ x, x = m.getD d 0 := ⟨_, rfl⟩
        rw [← hX] at cx
        rw [← hY] at cy
        rw [← hZ] at cz
        have hE : qsE m a b d 8 = (m.set a (X + Y)).set d (rotl32 (Z ^^^ (X + Y)) 8) := by rw [qsE, ← hX, ← hY, ← hZ]
        have HE := hid hE
        have hadd := add_w64 X Y
        have hxor := xor_w64 Z (X + Y)
        have hle : (0 : Int) ≤ IntKind.u64.wrap (n32 X + n32 Y) := by have := n32_nonneg X; have := n32_nonneg Y; rw [wrap_u64]; omega
        have hkl : ((k : Int)) = 2 := by omega
        have hRR : QRel w (.slice (some ⟨g, 0, none⟩) 16 cap1) m w1.heap.size wr := ⟨hown, hbel, hbk⟩
        have HRR := hid hRR
        have HZ := hid hZ
        clear hX hY hZ hE hml hRR hown hbel hbk
        go_wp2
        go_region
        obtain ⟨w2, hw2⟩ : ∃ w2, w2 = (wr.setCell ⟨g, a, none⟩ (W64 (X + Y))).drew := ⟨_, rfl⟩
        have hR2 : QRel w (.slice (some ⟨g, 0, none⟩) 16 cap1) (m.set a (X + Y)) w1.heap.size w2 := by
          rw [hw2]
          exact ⟨(HRR.out.1.set_ a (X + Y)).drew, (HRR.out.2.1.setCell HG.out.1 _).drew, (HRR.out.2.2.far (fun e => by have e' : w1.heap.size = g := e; exact absurd e' (Nat.ne_of_gt HG.out.2)) _).drew⟩
        rw [← hw2]
        clear hw2 cx cy cz fx fz hadd hle HRR hkc
        have hml2 : (m.set a (X + Y)).length = 16 := by rw [List.length_set, HML.out]
        have hown2 := hR2.1
        rw [← hml2] at hown2
        have cz := hown2.cell 0 d (by rw [hml2]; omega)
        have cx := hown2.cell 0 a (by rw [hml2]; omega)
        have fz := hown2.frozen d
        rw [getD_set _ _ _ _ (by rw [HML.out]; omega), if_neg (by omega), ← HZ.out] at cz
        rw [getD_set _ _ _ _ (by rw [HML.out]; omega), if_pos rfl] at cx
        have HR2 := hid hR2
        clear hml2 hown2 hR2
        have hzi : (d : Int) < 16 := by omega
        have hxi : (a : Int) < 16 := by omega
        have hzp : (0 : Int) ≤ d := by omega
        have hxp : (0 : Int) ≤ a := by omega
        go_wp2
        refine region_tail' 13 (by kernel_rfl) (by kernel_rfl) ?_
        simp only [List.take_succ_cons, List.take_zero, List.drop_succ_cons, List.drop_zero]
        repeat still_step
        still_call (leftN_q _ 8 _ (by omega) (by omega))
        repeat still_step
        refine wpStill_nil ?_
        go_wp2
        go_roundw
        case rel =>
          refine ⟨2 + 1, by omega, by simp, ?_⟩
          rw [HQ.out, HE.out]
          exact ⟨(HR2.out.1.set_ d (rotl32 (Z ^^^ (X + Y)) 8)).drew, (HR2.out.2.1.setCell HG.out.1 _).drew, (HR2.out.2.2.far (fun e => by have e' : w1.heap.size = g := e; exact absurd e' (Nat.ne_of_gt HG.out.2)) _).drew⟩
        case measure => simp [intOf]; omega
      · rw [show k = 3 by omega] at hR
        obtain ⟨hown, hbel, hbk⟩ := hR
        have hkc : wr.cell? ⟨w1.heap.size, 3, none⟩ = some (.int .i64 7) := hbk.cell 3
        have hq : qs l a b c d (3 + 1) = qsE (qs l a b c d 3) c d b 7 := rfl
        obtain ⟨m, hm⟩ : ∃ m, m = qs l a b c d 3 := ⟨_, rfl⟩
        have hml : m.length = 16 := by rw [hm, length_qs, HL.out]
        rw [← hm] at hown hq
        have HQ := hid hq
        have HML := hid hml
        clear hq hm
        rw [← hml] at hown
        have cx := hown.cell 0 c (by omega)
        have cy := hown.cell 0 d (by omega)
        have cz := hown.cell 0 b (by omega)
        have fx := hown.frozen c
        have fz := hown.frozen b
        rw [hml] at hown
        obtain ⟨X, hX⟩ : ∃ x, x = m.getD c 0 := ⟨_, rfl⟩
        obtain ⟨Y, hY⟩ : ∃ x, x = m.getD d 0 := ⟨_, rfl⟩
        obtain ⟨Z, hZ⟩ : ∃ x, x = m.getD b 0 := ⟨_, rfl⟩
        rw [← hX] at cx
        rw [← hY] at cy
        rw [← hZ] at cz
        have hE : qsE m c d b 7 = (m.set c (X + Y)).set b (rotl32 (Z ^^^ (X + Y)) 7) := by rw [qsE, ← hX, ← hY, ← hZ]
        have HE := hid hE
        have hadd := add_w64 X Y
        have hxor := xor_w64 Z (X + Y)
        have hle : (0 : Int) ≤ IntKind.u64.wrap (n32 X + n32 Y) := by have := n32_nonneg X; have := n32_nonneg Y; rw [wrap_u64]; omega
        have hkl : ((k : Int)) = 3 := by omega
        have hRR : QRel w (.slice (some ⟨g, 0, none⟩) 16 cap1) m w1.heap.size wr := ⟨hown, hbel, hbk⟩
        have HRR := hid hRR
        have HZ := hid hZ
        clear hX hY hZ hE hml hRR hown hbel hbk
        go_wp2
        go_region
        obtain ⟨w2, hw2⟩ : ∃ w2, w2 = (wr.setCell ⟨g, c, none⟩ (W64 (X + Y))).drew := ⟨_, rfl⟩
        have hR2 : QRel w (.slice (some ⟨g, 0, none⟩) 16 cap1) (m.set c (X + Y)) w1.heap.size w2 := by
          rw [hw2]
          exact ⟨(HRR.out.1.set_ c (X + Y)).drew, (HRR.out.2.1.setCell HG.out.1 _).drew, (HRR.out.2.2.far (fun e => by have e' : w1.heap.size = g := e; exact absurd e' (Nat.ne_of_gt HG.out.2)) _).drew⟩
        rw [← hw2]
        clear hw2 cx cy cz fx fz hadd hle HRR hkc
        have hml2 : (m.set c (X + Y)).length = 16 := by rw [List.length_set, HML.out]
        have hown2 := hR2.1
        rw [← hml2] at hown2
        have cz := hown2.cell 0 b (by rw [hml2]; omega)
        have cx := hown2.cell 0 c (by rw [hml2]; omega)
        have fz := hown2.frozen b
        rw [getD_set _ _ _ _ (by rw [HML.out]; omega), if_neg (by omega), ← HZ.out] at cz
        rw [getD_set _ _ _ _ (by rw [HML.out]; omega), if_pos rfl] at cx
        have HR2 := hid hR2
        clear hml2 hown2 hR2
        have hzi : (b : Int) < 16 := by omega
        have hxi : (c : Int) < 16 := by omega
        have hzp : (0 : Int) ≤ b := by omega
        have hxp : (0 : Int) ≤ c := by omega
        go_wp2
        refine region_tail' 13 (by kernel_rfl) (by kernel_rfl) ?_
        simp only [List.take_succ_cons, List.take_zero, List.drop_succ_cons, List.drop_zero]
        repeat still_step
        still_call (leftN_q _ 7 _ (by omega) (by omega))
        repeat still_step
        refine wpStill_nil ?_
        go_wp2
        go_roundw
        case rel =>
          refine ⟨3 + 1, by omega, by simp, ?_⟩
          rw [HQ.out, HE.out]
          exact ⟨(HR2.out.1.set_ b (rotl32 (Z ^^^ (X + Y)) 7)).drew, (HR2.out.2.1.setCell HG.out.1 _).drew, (HR2.out.2.2.far (fun e => by have e' : w1.heap.size = g := e; exact absurd e' (Nat.ne_of_gt HG.out.2)) _).drew⟩
        case measure => simp [intOf]; omega
    · rw [show k = 4 by omega, HF.out] at hR
      have hd : decide ((k : Int) < 4) = false := by simp; omega
      go_wp2
      go_ret
      exact ⟨_, rfl, hR.1, hR.2.1⟩
end Go.Proofs.YtaenhghihhhikaaDoor
