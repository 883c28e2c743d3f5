/-
  The reference's block of the stream cipher, walked.
-/
import Derived.Test.YtaenhghihhhikaaDoorYq
import Derived.Test.YtaenhghihhhikaaDoorXb
import Derived.Deep.QuietTactic
import Derived.BigQuiet
namespace Go.Proofs.YtaenhghihhhikaaDoor
open Go.RowKit

theorem refQ0_any (V : Value) (l : List UInt32) (w : World) (hV : Own w 0 30 W64 V (dbl l 0)) (hl : l.length = 16) :
    Calls Tryd.prog 33 #[V, .int .i64 0, .int .i64 4, .int .i64 8, .int .i64 12] w fun e w' => ∃ V', e = .returned V' ∧ Own w' w.heap.size 30 W64 V' (dbl l 1) ∧ Below w.heap.size w w' :=
  refQuarter_any V (dbl l 0) 0 4 8 12 w hV (by rw [length_dbl, hl]) (by decide) (by decide) (by decide) (by decide) (by decide) (by decide) (by decide) (by decide) (by decide) (by decide)
theorem refQ1_any (V : Value) (l : List UInt32) (w : World) (hV : Own w 0 30 W64 V (dbl l 1)) (hl : l.length = 16) :
    Calls Tryd.prog 33 #[V, .int .i64 1, .int .i64 5, .int .i64 9, .int .i64 13] w fun e w' => ∃ V', e = .returned V' ∧ Own w' w.heap.size 30 W64 V' (dbl l 2) ∧ Below w.heap.size w w' :=
  refQuarter_any V (dbl l 1) 1 5 9 13 w hV (by rw [length_dbl, hl]) (by decide) (by decide) (by decide) (by decide) (by decide) (by decide) (by decide) (by decide) (by decide) (by decide)
theorem refQ2_any (V : Value) (l : List UInt32) (w : World) (hV : Own w 0 30 W64 V (dbl l 2)) (hl : l.length = 16) :
    Calls Tryd.prog 33 #[V, .int .i64 2, .int .i64 6, .int .i64 10, .int .i64 14] w fun e w' => ∃ V', e = .returned V' ∧ Own w' w.heap.size 30 W64 V' (dbl l 3) ∧ Below w.heap.size w w' :=
  refQuarter_any V (dbl l 2) 2 6 10 14 w hV (by rw [length_dbl, hl]) (by decide) (by decide) (by decide) (by decide) (by decide) (by decide) (by decide) (by decide) (by decide) (by decide)
theorem refQ3_any (V : Value) (l : List UInt32) (w : World) (hV : Own w 0 30 W64 V (dbl l 3)) (hl : l.length = 16) :
    Calls Tryd.prog 33 #[V, .int .i64 3, .int .i64 7, .int .i64 11, .int .i64 15] w fun e w' => ∃ V', e = .returned V' ∧ Own w' w.heap.size 30 W64 V' (dbl l 4) ∧ Below w.heap.size w w' :=
  refQuarter_any V (dbl l 3) 3 7 11 15 w hV (by rw [length_dbl, hl]) (by decide) (by decide) (by decide) (by decide) (by decide) (by decide) (by decide) (by decide) (by decide) (by decide)
theorem refQ4_any (V : Value) (l : List UInt32) (w : World) (hV : Own w 0 30 W64 V (dbl l 4)) (hl : l.length = 16) :
    Calls Tryd.prog 33 #[V, .int .i64 0, .int .i64 5, .int .i64 10, .int .i64 15] w fun e w' => ∃ V', e = .returned V' ∧ Own w' w.heap.size 30 W64 V' (dbl l 5) ∧ Below w.heap.size w w' :=
  refQuarter_any V (dbl l 4) 0 5 10 15 w hV (by rw [length_dbl, hl]) (by decide) (by decide) (by decide) (by decide) (by decide) (by decide) (by decide) (by decide) (by decide) (by decide)
theorem refQ5_any (V : Value) (l : List UInt32) (w : World) (hV : Own w 0 30 W64 V (dbl l 5)) (hl : l.length = 16) :
    Calls Tryd.prog 33 #[V, .int .i64 1, .int .i64 6, .int .i64 11, .int .i64 12] w fun e w' => ∃ V', e = .returned V' ∧ Own w' w.heap.size 30 W64 V' (dbl l 6) ∧ Below w.heap.size w w' :=
  refQuarter_any V (dbl l 5) 1 6 11 12 w hV (by rw [length_dbl, hl]) (by decide) (by decide) (by decide) (by decide) (by decide) (by decide) (by decide) (by decide) (by decide) (by decide)
theorem refQ6_any (V : Value) (l : List UInt32) (w : World) (hV : Own w 0 30 W64 V (dbl l 6)) (hl : l.length = 16) :
    Calls Tryd.prog 33 #[V, .int .i64 2, .int .i64 7, .int .i64 8, .int .i64 13] w fun e w' => ∃ V', e = .returned V' ∧ Own w' w.heap.size 30 W64 V' (dbl l 7) ∧ Below w.heap.size w w' :=
  refQuarter_any V (dbl l 6) 2 7 8 13 w hV (by rw [length_dbl, hl]) (by decide) (by decide) (by decide) (by decide) (by decide) (by decide) (by decide) (by decide) (by decide) (by decide)
theorem refQ7_any (V : Value) (l : List UInt32) (w : World) (hV : Own w 0 30 W64 V (dbl l 7)) (hl : l.length = 16) :
    Calls Tryd.prog 33 #[V, .int .i64 3, .int .i64 4, .int .i64 9, .int .i64 14] w fun e w' => ∃ V', e = .returned V' ∧ Own w' w.heap.size 30 W64 V' (dbl l 8) ∧ Below w.heap.size w w' :=
  refQuarter_any V (dbl l 7) 3 4 9 14 w hV (by rw [length_dbl, hl]) (by decide) (by decide) (by decide) (by decide) (by decide) (by decide) (by decide) (by decide) (by decide) (by decide)
theorem sigma_words : leWords (ByteArray.mk #[101, 120, 112, 97, 110, 100, 32, 51, 50, 45, 98, 121, 116, 101, 32, 107]).data.toList 4 = sigma := by decide
theorem infoU8 : (Tryd.prog.info? 5).map (fun i => (i.zero, i.size, i.bytes)) = some (some (.int .u8 0), 1, 1) := by kernel_rfl
theorem byteL_ref (y : UInt32) : IntKind.u8.wrap (n32 y % 256) = n8 (byteL y 0) ∧ IntKind.u8.wrap (n32 y / 256 % 256) = n8 (byteL y 1) ∧ IntKind.u8.wrap (n32 y / 65536 % 256) = n8 (byteL y 2) ∧ IntKind.u8.wrap (n32 y / 16777216) = n8 (byteL y 3) := by
  have h : ∀ k, k < 4 → n8 (byteL y k) = n32 y / 2 ^ (8 * k) % 256 := fun k hk => by rw [← byteL_eq y k hk, wrap_u8]
  have h0 := n32_nonneg y
  refine ⟨?_, ?_, ?_, ?_⟩
  · rw [h 0 (by omega), wrap_u8]; simp
  · rw [h 1 (by omega), wrap_u8]; simp
  · rw [h 2 (by omega), wrap_u8]; simp
  · rw [h 3 (by omega), wrap_u8]; simp
def BRf (w : World) (V at_ : Value) (l m : List UInt32) (wr : World) : Prop := Own wr w.heap.size 30 W64 V m ∧ Own wr w.heap.size 30 W64 at_ l ∧ Below w.heap.size w wr
def BOut (w : World) (gx cx ga ca : Nat) (l : List UInt32) (j : Nat) (V : Value) (wx : World) : Prop :=
  Own wx w.heap.size 5 U8 V (outBytes ((cSums l).take j)) ∧ Own wx w.heap.size 30 W64 (.slice (some ⟨gx, 0, none⟩) 16 cx) (rnds l 10) ∧ Own wx w.heap.size 30 W64 (.slice (some ⟨ga, 0, none⟩) 16 ca) l ∧ Below w.heap.size w wx
set_option maxHeartbeats 1000000 in
set_option maxRecDepth 100000 in
theorem refCblock_any (K N : ByteArray) (C : UInt32) (c : Int) (w : World) (hK : K.size = 32) (hN : N.size = 12) (h0 : 0 ≤ c) (hc : c % 4294967296 = n32 C) :
    Calls Tryd.prog 14 #[.string K, .int .u64 c, .string N] w fun e w' => e = .returned (.string ⟨(cBlock K.data.toList C N.data.toList).toArray⟩) ∧ Below w.heap.size w w' := by
  obtain ⟨i0, hi, hz0, hz1, hz2⟩ := info_parts infoU64
  obtain ⟨i8, hi8, hy0, hy1, hy2⟩ := info_parts infoU8
  have H8 := hid (And.intro hi8 (And.intro hy0 (And.intro hy1 hy2)))
  clear hi8 hy0 hy1 hy2
  have HC := hid hc
  clear hc
  go_enter Tryd.func14, Tryd.ntmps14
  go_wp2_with fail
  refine (words_any _ 4 w (by decide) (by omega)).mono ?_
  rintro e w1 ⟨V1, rfl, ho1, hb1⟩
  rw [sigma_words] at ho1
  go_wp2_with fail
  refine (words_any K 8 w1 (by rw [hK]) (by omega)).mono ?_
  rintro e w2 ⟨V2, rfl, ho2, hb2⟩
  have ho1b := ho1.below hb2 (Nat.le_refl _)
  have hbel2 : Below w.heap.size w w2 := hb1.trans (hb2.mono hb1.size)
  obtain ⟨V3, w3, hrun, ho3, hg3⟩ := run_append_rows (P := Tryd.prog) w2 w.heap.size w1.heap.size 67 67 30 i0 _ 8 W64 (fun _ => rfl) Tryd.underlying67 hi hz0 hz1 hz2 rfl V1 V2 sigma (leWords K.data.toList 8) ho1b ho2 (by rw [length_leWords]; decide) (by omega) hbel2.size
  have hbel3 : Below w.heap.size w w3 := hbel2.trans (ho1b.below_of hg3 hbel2.size)
  have HR := hid hrun
  clear hrun ho1 ho2 ho1b hb1 hb2 hg3 hbel2
  have hl3 := length_leWords K.data.toList 8
  have hs3 := hbel3.size
  have HCW : Hid (Value.int .u64 (c % 4294967296) = W64 C) := hid (by rw [HC.out])
  go_wp2_with (first
    | (at_builtin; refine Lib.wpList_append_run _ rfl (.tmp 13) (.tmp 15) _ _ rfl _ _ rfl rfl _ _ HR.out ?_)
    | (at_builtin; refine wpList_append_lit rfl (.tmp 17) (.tmp 20) 67 rfl w.heap.size 30 i0 _ 8 W64 (fun _ => rfl) Tryd.underlying67 hi hz0 hz1 hz2 rfl (by omega) _ _ [C] 1 rfl rfl (ho3.alloc _) _ 0 1 rfl (new_lit _ _ _ _ (by rw [HCW.out]; rfl)) (by simp [hl3, sigma]) (by simp <;> omega) ?_
       intro V4 w4 ho4 _ hb4))
  have hbel4 : Below w.heap.size w w4 := (hbel3.alloc hs3 _).trans hb4
  clear hb4 HR ho3 hbel3
  refine (words_any N 3 w4 (by rw [hN]) (by omega)).mono ?_
  rintro e w5 ⟨V5, rfl, ho5, hb5⟩
  have ho4b := ho4.below hb5 (Nat.le_refl _)
  have hbel5 : Below w.heap.size w w5 := hbel4.trans (hb5.mono hbel4.size)
  obtain ⟨V6, w6, hrun, ho6, hg6⟩ := run_append_rows (P := Tryd.prog) w5 w.heap.size w4.heap.size 67 67 30 i0 _ 8 W64 (fun _ => rfl) Tryd.underlying67 hi hz0 hz1 hz2 rfl V4 V5 _ (leWords N.data.toList 3) ho4b ho5 (by simp [length_leWords, sigma]) (by omega) hbel5.size
  have hbel6 : Below w.heap.size w w6 := hbel5.trans (ho4b.below_of hg6 hbel5.size)
  have HR := hid hrun
  obtain ⟨l, hl0⟩ : ∃ l, l = cInit K.data.toList C N.data.toList := ⟨_, rfl⟩
  rw [show sigma ++ leWords K.data.toList 8 ++ [C] ++ leWords N.data.toList 3 = l from hl0.symm] at ho6
  have hl : l.length = 16 := by rw [hl0, length_cInit]
  have hout : cBlock K.data.toList C N.data.toList = outBytes (cSums l) := by rw [cBlock, hl0]
  have HOUT := hid hout
  have HL := hid hl
  clear hrun ho4 ho5 ho4b hb5 hg6 hbel5 hbel4 hl3 hs3 hl0 hout hl
  go_wp2_with (at_builtin; refine Lib.wpList_append_run _ rfl (.tmp 22) (.tmp 24) _ _ rfl _ _ rfl rfl _ _ HR.out ?_)
  clear hi hz0 hz1 hz2 hK hN h0
  have hK0 : BRf w V6 V6 l (rnds l 0) w6 := ⟨ho6, ho6, hbel6⟩
  clear ho6 hbel6 HR
  go_loopw [8, 9] (fun V i wr => ∃ k : Nat, k ≤ 10 ∧ i = .int .i64 k ∧ BRf w V V6 l (rnds l k) wr) (fun _ i _ => 10 - (intOf i).toNat)
  case atStart => exact ⟨0, Nat.zero_le _, rfl, hK0⟩
  case round =>
    clear hK0
    obtain ⟨k, hk, rfl, hR⟩ := hrel
    by_cases hlt : k < 10
    · obtain ⟨hv0, hat, hbel⟩ := hR
      have hml : (rnds l k).length = 16 := by rw [length_rnds, HL.out]
      obtain ⟨m, hm⟩ : ∃ m, m = rnds l k := ⟨_, rfl⟩
      have hnx : rnds l (k + 1) = dbl m 8 := by rw [rnds, hm]
      rw [← hm] at hv0 hml
      have HNX := hid hnx
      have HML := hid hml
      clear hm hnx hml
      have hv0' : Own wr w.heap.size 30 W64 _ (dbl m 0) := hv0
      clear hv0
      have hd : decide ((k : Int) < 10) = true := by simp; omega
      go_wp2_with fail
      refine (refQ0_any _ m _ (hv0'.mono (Nat.zero_le _)) HML.out).mono ?_
      rintro e z1 ⟨Z1, rfl, hv1, hbz1⟩
      have hat1 := hat.below hbz1 (Nat.le_refl _)
      have hbel1 := hbel.trans (hbz1.mono hbel.size)
      have _hsz1 := hbel.size
      clear hv0' hat hbel hbz1
      go_wp2_with fail
      refine (refQ1_any _ m _ (hv1.mono (Nat.zero_le _)) HML.out).mono ?_
      rintro e z2 ⟨Z2, rfl, hv2, hbz2⟩
      have hat2 := hat1.below hbz2 (Nat.le_refl _)
      have hbel2 := hbel1.trans (hbz2.mono hbel1.size)
      have _hsz2 := hbel1.size
      clear hv1 hat1 hbel1 hbz2
      go_wp2_with fail
      refine (refQ2_any _ m _ (hv2.mono (Nat.zero_le _)) HML.out).mono ?_
      rintro e z3 ⟨Z3, rfl, hv3, hbz3⟩
      have hat3 := hat2.below hbz3 (Nat.le_refl _)
      have hbel3 := hbel2.trans (hbz3.mono hbel2.size)
      have _hsz3 := hbel2.size
      clear hv2 hat2 hbel2 hbz3
      go_wp2_with fail
      refine (refQ3_any _ m _ (hv3.mono (Nat.zero_le _)) HML.out).mono ?_
      rintro e z4 ⟨Z4, rfl, hv4, hbz4⟩
      have hat4 := hat3.below hbz4 (Nat.le_refl _)
      have hbel4 := hbel3.trans (hbz4.mono hbel3.size)
      have _hsz4 := hbel3.size
      clear hv3 hat3 hbel3 hbz4
      go_wp2_with fail
      refine (refQ4_any _ m _ (hv4.mono (Nat.zero_le _)) HML.out).mono ?_
      rintro e z5 ⟨Z5, rfl, hv5, hbz5⟩
      have hat5 := hat4.below hbz5 (Nat.le_refl _)
      have hbel5 := hbel4.trans (hbz5.mono hbel4.size)
      have _hsz5 := hbel4.size
      clear hv4 hat4 hbel4 hbz5
      go_wp2_with fail
      refine (refQ5_any _ m _ (hv5.mono (Nat.zero_le _)) HML.out).mono ?_
      rintro e z6 ⟨Z6, rfl, hv6, hbz6⟩
      have hat6 := hat5.below hbz6 (Nat.le_refl _)
      have hbel6 := hbel5.trans (hbz6.mono hbel5.size)
      have _hsz6 := hbel5.size
      clear hv5 hat5 hbel5 hbz6
      go_wp2_with fail
      refine (refQ6_any _ m _ (hv6.mono (Nat.zero_le _)) HML.out).mono ?_
      rintro e z7 ⟨Z7, rfl, hv7, hbz7⟩
      have hat7 := hat6.below hbz7 (Nat.le_refl _)
      have hbel7 := hbel6.trans (hbz7.mono hbel6.size)
      have _hsz7 := hbel6.size
      clear hv6 hat6 hbel6 hbz7
      go_wp2_with fail
      refine (refQ7_any _ m _ (hv7.mono (Nat.zero_le _)) HML.out).mono ?_
      rintro e z8 ⟨Z8, rfl, hv8, hbz8⟩
      have hat8 := hat7.below hbz8 (Nat.le_refl _)
      have hbel8 := hbel7.trans (hbz8.mono hbel7.size)
      have hsz8 := hbel7.size
      clear hv7 hat7 hbel7 hbz8
      go_wp2
      go_roundw
      case rel => exact ⟨k + 1, by omega, by go_num, by rw [HNX.out]; exact ⟨hv8.mono hsz8, hat8, hbel8⟩⟩
      case measure => simp [intOf]; omega
    · have hd : decide ((k : Int) < 10) = false := by simp; omega
      rw [show k = 10 by omega] at hR
      obtain ⟨hv, hat, hbel⟩ := hR
      have hml : (rnds l 10).length = 16 := by rw [length_rnds, HL.out]
      have hsz := hbel.size
      rcases hv.form with ⟨_, e⟩ | ⟨gx, cx, rfl, hgx, hgx2, _, _⟩
      · rw [e] at hml; exact absurd hml (by decide)
      rcases hat.form with ⟨_, e⟩ | ⟨ga, ca, rfl, hga, hga2, _, _⟩
      · have := HL.out; rw [e] at this; exact absurd this (by decide)
      have HML := hid hml
      rw [hml] at hv ⊢
      clear hml
      have hlen := HL.out
      rw [hlen] at hat ⊢
      clear hlen
      have hone : Own (wr.alloc (.cells #[] 5)) w.heap.size 5 U8 (.slice (some ⟨wr.heap.size, 0, none⟩) 0 0) (outBytes ((cSums l).take 0)) := Own.new (α := UInt8) wr w.heap.size 5 U8 [] hsz (Nat.zero_le _)
      go_wp2
      go_loopw [10, 11, 50] (fun V _ i wx => ∃ j : Nat, j ≤ 16 ∧ i = .int .i64 j ∧ BOut w gx cx ga ca l j V wx) (fun _ _ i _ => 16 - (intOf i).toNat)
      case atStart => exact ⟨0, Nat.zero_le _, rfl, hone, hv.alloc _, hat.alloc _, hbel.alloc hsz _⟩
      case round =>
        clear hone hv hat hbel hsz
        obtain ⟨j, hj, rfl, ho, hv, hat, hbel⟩ := hrel
        by_cases hlt2 : j < 16
        · have hd2 : decide ((j : Int) < 16) = true := by simp; omega
          have cv := Own.cell (l := rnds l 10) (by rw [HML.out]; exact hv) 0 j (by rw [HML.out]; exact hlt2)
          have ca := Own.cell (l := l) (by rw [HL.out]; exact hat) 0 j (by rw [HL.out]; exact hlt2)
          have hjl : j < (cSums l).length := by rw [length_cSums, HL.out]; exact hlt2
          have hsum : (cSums l).getD j 0 = (rnds l 10).getD j 0 + l.getD j 0 := cSums_get l j (by rw [HL.out]; omega)
          have hnx := outBytes_succ (cSums l) j hjl
          have hge : (cSums l)[j] = (cSums l).getD j 0 := by rw [List.getD_eq_getElem?_getD, List.getElem?_eq_getElem hjl]; rfl
          rw [hge, hsum] at hnx
          obtain ⟨X, hX⟩ : ∃ x, x = (rnds l 10).getD j 0 := ⟨_, rfl⟩
          obtain ⟨Y, hY⟩ : ∃ x, x = l.getD j 0 := ⟨_, rfl⟩
          rw [← hX] at cv hnx
          rw [← hY] at ca hnx
          have hol : (outBytes ((cSums l).take j)).length = 4 * j := by rw [length_outBytes, List.length_take]; omega
          have HOL := hid hol
          have HNX := hid hnx
          have hadd := add_w64 X Y
          obtain ⟨y0, y1, y2, y3⟩ := byteL_ref (X + Y)
          have hp := n32_nonneg (X + Y)
          have hle : (0 : Int) ≤ IntKind.u64.wrap (n32 X + n32 Y) := by have := n32_nonneg X; have := n32_nonneg Y; rw [wrap_u64]; omega
          have hji : (j : Int) < 16 := by omega
          have hjp : (0 : Int) ≤ j := by omega
          have hsz := hbel.size
          clear hX hY hge hsum hnx hol
          go_wp2
          go_quiet (fail)
          go_wp2_with (at_builtin; refine wpList_append_lit rfl (.tmp 63) (.tmp 78) 28 rfl w.heap.size 5 _ _ 1 U8 (fun _ => rfl) Tryd.underlying28 H8.out.1 H8.out.2.1 H8.out.2.2.1 H8.out.2.2.2 rfl (by omega) _ _ (wordBytes (X + Y)) 4 rfl rfl ((ho.drewN _).alloc _) _ 0 4 rfl (new_lit _ _ _ _ rfl) (by rw [HOL.out]; omega) (by simp <;> omega) ?_
                       intro V2 wz ho2 hg2 hbz)
          have hv2 := ((hv.drewN _).alloc _).grown hg2 (hv.apart ho (by decide))
          have hat2 := ((hat.drewN _).alloc _).grown hg2 (hat.apart ho (by decide))
          have hbel2 := ((below_drewN hbel _).alloc hsz _).trans hbz
          clear hg2 hbz hv hat hbel ho
          go_roundw
          case rel => exact ⟨j + 1, by omega, by go_num, by rw [HNX.out]; exact ho2, hv2, hat2, hbel2⟩
          case measure => simp [intOf]; omega
        · have hd2 : decide ((j : Int) < 16) = false := by simp; omega
          rw [show j = 16 by omega, List.take_of_length_le (by rw [length_cSums, HL.out]; omega)] at ho
          have hol : (outBytes (cSums l)).length = 64 := by rw [length_outBytes, length_cSums, HL.out]
          rcases ho.form with ⟨_, e⟩ | ⟨gz, cz, rfl, _, _, _, _⟩
          · rw [e] at hol; exact absurd hol (by decide)
          rw [hol] at ho ⊢
          have HOL := hid hol
          have hby : Bytes wr gz 0 (outBytes (cSums l)) := fun j hj => by
            have := ho.cells (g := gz) rfl j (U8 ((outBytes (cSums l))[j])) (by simp [hj])
            rw [addr_add] at this
            rw [Nat.zero_add]
            exact this
          clear hol hv hat
          go_wp2_with (refine wpList_string_of _ rfl 28 9 5 (.tmp 81) rfl Tryd.underlying28 Tryd.underlying5 Tryd.underlying9 gz 0 64 cz (outBytes (cSums l)) rfl HOL.out hby ?_)
          go_ret
          exact ⟨by rw [HOUT.out]; rfl, hbel⟩
end Go.Proofs.YtaenhghihhhikaaDoor
