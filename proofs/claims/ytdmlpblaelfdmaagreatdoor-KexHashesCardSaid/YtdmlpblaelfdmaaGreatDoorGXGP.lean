/-
  Texts of this claim.
-/
import Derived.Test.YtdmlpblaelfdmaaGreatDoorGXFP
import Derived.Test.YtdmlpblaelfdmaaGreatDoorGYP
namespace Go.Proofs.YtdmlpblaelfdmaaGreatDoor
open Go.RowKit
/-- A word behind so many bytes. -/
def xqN (x : UInt64) : Nat → UInt64
  | 0 => x
  | j + 1 => xqN x j / 256
def nuN (x : UInt64) : Nat → List UInt8
  | 0 => []
  | j + 1 => [(xqN x j % 256).toUInt8] ++ nuN x j
theorem length_nuN (x : UInt64) (j : Nat) : (nuN x j).length = j := by
  induction j with
  | zero => rfl
  | succ j ih => simp [nuN, ih]
theorem nu_len (s : List UInt8) (hs : s.length ≤ 90000000) : nuN (ofI64 (s.length : Int)) 4 = lenB s := by
  have h1 := ofI64_toNat (s.length : Int)
  have h2 := ofI32_toNat (s.length : Int)
  have h3 : (ofI64 (s.length : Int)).toNat = s.length := by omega
  have h4 : (ofI32 (s.length : Int)).toUInt64.toNat = s.length := by rw [UInt32.toNat_toUInt64]; omega
  generalize ofI64 (s.length : Int) = x at h3
  unfold lenB
  generalize (ofI32 (s.length : Int)).toUInt64 = y at h4
  have e : x = y := UInt64.toNat_inj.1 (by omega)
  subst e
  have key : ∀ k, k < 4 → (xqN x k % 256).toUInt8 = (x >>> UInt64.ofNat (8 * k)).toUInt8 := by
    intro k hk
    apply UInt8.toNat_inj.1
    rw [UInt64.toNat_toUInt8, UInt64.toNat_toUInt8, UInt64.toNat_shiftRight, UInt64.toNat_ofNat_of_lt' (show 8 * k < 2 ^ 64 by omega), Nat.mod_eq_of_lt (show 8 * k < 64 by omega), Nat.shiftRight_eq_div_pow, UInt64.toNat_mod]
    match k, hk with
    | 0, _ => simp [xqN]
    | 1, _ => simp only [xqN, UInt64.toNat_div]; show x.toNat / 256 % 256 % 256 = x.toNat / 256 % 256; omega
    | 2, _ => simp only [xqN, UInt64.toNat_div]; show x.toNat / 256 / 256 % 256 % 256 = x.toNat / 65536 % 256; omega
    | 3, _ => simp only [xqN, UInt64.toNat_div]; show x.toNat / 256 / 256 / 256 % 256 % 256 = x.toNat / 16777216 % 256; omega
    | k + 4, h => omega
  simp only [nuN, key 0 (by decide), key 1 (by decide), key 2 (by decide), key 3 (by decide)]
  rfl
theorem short_drop {r : List UInt8} (h : r ≠ []) (h0 : r.getD 0 0 = 0) : shortB (r.drop 1) = shortB r := by
  cases r with
  | nil => exact absurd rfl h
  | cons a l =>
    have ha : a = 0 := by simpa using h0
    subst ha
    simp [shortB]
theorem short_stop {r : List UInt8} (h : r ≠ []) (h0 : r.getD 0 0 ≠ 0) : shortB r = r := by
  cases r with
  | nil => exact absurd rfl h
  | cons a l =>
    have ha : a ≠ 0 := by simpa using h0
    simp [shortB, ha]
theorem uns_nil {r : List UInt8} (h : r = []) : r = unsB r := by subst h; rfl
theorem uns_low {r : List UInt8} (h : r ≠ []) (h1 : ¬ r.getD 0 0 > 127) : r = unsB r := by
  unfold unsB
  rw [if_neg h, if_pos (by have : ¬ (127 : UInt8) < r.getD 0 0 := h1; rw [UInt8.lt_iff_toNat_lt] at this ⊢; show _ < 128; have e : (127 : UInt8).toNat = 127 := rfl; omega)]
theorem uns_high {r : List UInt8} (h : r ≠ []) (h1 : r.getD 0 0 > 127) : [0] ++ r = unsB r := by
  unfold unsB
  rw [if_neg h, if_neg (by have : (127 : UInt8) < r.getD 0 0 := h1; rw [UInt8.lt_iff_toNat_lt] at this ⊢; show ¬ _ < 128; have e : (127 : UInt8).toNat = 127 := rfl; omega)]; rfl
theorem ne_pos {r : List UInt8} (h : r ≠ []) : 0 < r.length := List.length_pos_iff.2 h
set_option maxHeartbeats 1000000 in
set_option maxRecDepth 100000 in
theorem rnum9_ev (x : UInt64) : Meets Tryz.prog 41 [.u64 x, .i64 4] [] (.str (nuN x 4)) [] := by
 refine meets_of_ev (nt := 23) Tryz.func41 rfl rfl (Nat.le_of_ble_eq_true rfl) ?_
 refine .seq ?_
 refine .region ?_
 refine .q (op_assign rfl) trivial rfl ?_
 refine .nil ?_
 show Ev _ _ _ _ _
 refine .seq ?_
 refine .region ?_
 refine .a (ap_build0 (z := 1) (c := .aggB []) Tryz.underlying33 inf5 rfl) trivial rfl ?_
 refine .q (op_assign rfl) trivial rfl ?_
 refine .nil ?_
 show Ev _ _ _ _ _
 refine .seq ?_
 refine .seq ?_
 refine .region ?_
 refine .q (op_assign rfl) trivial rfl ?_
 refine .nil ?_
 show Ev _ _ _ _ _
 refine .block ?_
 refine Ev.loop (ι := { q : Nat // q ≤ 4 }) (fun q => ⟨[(0, .u64 (xqN x q.1)), (1, .i64 4), (5, .sl 1000 0 q.1 1), (6, .i64 ((q.1 : Nat) : Int))], [(1000, some ⟨.aggB (nuN x q.1), 5, true⟩)], 1008⟩) (fun q => 4 - q.1) ⟨0, Nat.zero_le _⟩ (StLe.mk [(1000, 1000)] rfl rfl ⟨⟨_, rfl, by first | rfl | (simp only [AV.ren]; congr 1; omega), rfl⟩, ⟨_, rfl, by first | rfl | (simp only [AV.ren]; congr 1; omega), rfl⟩, ⟨_, rfl, by first | rfl | (simp only [AV.ren]; congr 1; omega), rfl⟩, ⟨_, rfl, by first | rfl | (simp only [AV.ren]; congr 1; omega), rfl⟩, trivial⟩ ⟨⟨_, _, rfl, rfl, by first | rfl | (simp only [AV.ren]; congr 1; omega), rfl, id, rfl⟩, trivial⟩) ?_
 rintro ⟨j, hj⟩
 dsimp only
 have hnl := length_nuN x j
 refine .seq ?_
 refine .seq ?_
 refine .region ?_
 refine .q (op_move rfl) trivial rfl ?_
 refine .q (op_move rfl) trivial rfl ?_
 refine .q (op_cmpI rfl rfl rfl) trivial rfl ?_
 refine .nil ?_
 show Ev _ _ _ _ _
 refine .cond rfl (fun hc10 => ?_) (fun hc10 => ?_)
 ·simp only [decide_eq_true_eq] at hc10
  refine .skip ?_
  show Ev _ _ _ _ _
  refine .seq ?_
  refine .block ?_
  refine .seq ?_
  refine .region ?_
  refine .q (op_move rfl) trivial rfl ?_
  refine .q (op_rem64 rfl rfl (by decide)) trivial rfl ?_
  refine .q (op_conv Tryz.underlying25 Tryz.underlying5 rfl rfl) trivial rfl ?_
  refine .as (.u8 ((xqN x j % 256).toUInt8)) rfl ?_
  refine .a (ap_build (us := [.u8 ((xqN x j % 256).toUInt8)]) (c := .aggB [(xqN x j % 256).toUInt8]) Tryz.underlying33 inf5 rfl (by decide) (by decide) ⟨rfl, rfl, rfl, trivial⟩ rfl) trivial rfl ?_
  refine .q (op_move rfl) trivial rfl ?_
  refine .a (ap_cat Tryz.underlying33 inf5 rfl rfl rfl rfl (by first | (simp only [AV.len, List.length_singleton]; done) | (simp only [AV.len]; omega) | omega) rfl rfl (by first | (simp only [AV.len]; done) | (simp only [AV.len]; omega) | omega) rfl (by first | (simp only [AV.len, List.length_singleton]; done) | (simp only [AV.len]; omega) | omega)) trivial rfl ?_
  refine .q (op_assign rfl) trivial rfl ?_
  refine .nil ?_
  show Ev _ _ _ _ _
  refine .region ?_
  refine .q (op_move rfl) trivial rfl ?_
  refine .q (op_quo64 rfl rfl (by decide)) trivial rfl ?_
  refine .q (op_assign rfl) trivial rfl ?_
  refine .nil ?_
  show Ev _ _ _ _ _
  refine .region ?_
  refine .q (op_move rfl) trivial rfl ?_
  refine .q (op_addI rfl rfl ⟨by omega, by omega⟩) trivial rfl ?_
  refine .q (op_assign rfl) trivial rfl ?_
  refine .nil ?_
  exact ⟨⟨j + 1, by omega⟩, by show 4 - (j + 1) < 4 - j; omega, StLe.mk [(1000, 1016)] rfl rfl ⟨⟨_, rfl, by first | rfl | (simp only [AV.ren]; congr 1; omega), rfl⟩, ⟨_, rfl, by first | rfl | (simp only [AV.ren]; congr 1; omega), rfl⟩, ⟨_, rfl, by first | rfl | (simp only [AV.ren]; congr 1; omega), rfl⟩, ⟨_, rfl, by first | rfl | (simp only [AV.ren]; congr 1; omega), rfl⟩, trivial⟩ ⟨⟨_, _, rfl, rfl, by first | rfl | (simp only [AV.ren]; congr 1; omega), rfl, id, rfl⟩, trivial⟩⟩
 ·simp only [decide_eq_false_iff_not] at hc10
  refine .exit ?_
  show Ev _ _ _ _ _
  have ej : j = 4 := by omega
  refine Ev.weak (st2 := ⟨[(0, .u64 (xqN x (4))), (1, .i64 4), (5, .sl 1000 0 (4) 1), (6, .i64 (((4) : Nat) : Int))], [(1000, some ⟨.aggB (nuN x (4)), 5, true⟩)], 1008⟩) (StLe.mk [(1000, 1000)] rfl rfl ⟨⟨_, rfl, by (rw [ej]; rfl), rfl⟩, ⟨_, rfl, by first | (simp only [AV.ren]; done) | (simp only [AV.ren]; rw [ej]; done) | rfl, rfl⟩, ⟨_, rfl, by (show AV.sl 1000 0 j 1 = AV.sl 1000 0 4 1; rw [ej]), rfl⟩, ⟨_, rfl, by first | (simp only [AV.ren]; done) | (simp only [AV.ren]; rw [ej]; done) | rfl, rfl⟩, trivial⟩ ⟨⟨_, _, rfl, rfl, by first | (simp only [AV.ren]; done) | (simp only [AV.ren]; rw [ej]; done) | rfl, rfl, id, rfl⟩, trivial⟩) ?_
  refine .seq ?_
  refine .region ?_
  refine .q (op_move rfl) trivial rfl ?_
  refine .q (op_bytes_str Tryz.underlying33 Tryz.underlying5 Tryz.underlying9 rfl rfl rfl (by have hq := length_nuN x 4; omega)) trivial rfl ?_
  refine .as (.str (nuN x 4)) (congrArg AV.str (by rw [List.drop_zero, List.take_of_length_le (by rw [length_nuN]; omega)])) ?_
  refine .q (op_assign rfl) trivial rfl ?_
  refine .nil ?_
  show Ev _ _ _ _ _
  refine .ret ?_
  show RetOk _ _ _ _ _ _ _
  exact ret1v rfl (.inl rfl) rfl rfl trivial
set_option maxRecDepth 100000 in
theorem rtext9_ev (s : List UInt8) (hs : s.length ≤ 90000000) : Meets Tryz.prog 51 [.str s] [] (.str (textB s)) [] := by
 refine meets_of_ev (nt := 9) Tryz.func51 rfl rfl (Nat.le_of_ble_eq_true rfl) ?_
 refine .seq ?_
 refine .region ?_
 refine .q (op_assign rfl) trivial rfl ?_
 refine .nil ?_
 show Ev _ _ _ _ _
 refine .seq ?_
 refine .region ?_
 refine .q (op_move rfl) trivial rfl ?_
 refine .q (op_len_str Tryz.underlying9 rfl) trivial rfl ?_
 refine .q (op_conv Tryz.underlying3 Tryz.underlying25 rfl rfl) trivial rfl ?_
 refine .q (op_call (U := []) [] [] (rnum9_ev (ofI64 (s.length : Int))) Tryz.func41 (by kernel_rfl) rfl rfl rfl (⟨⟨_, rfl, rfl, rfl⟩, ⟨_, rfl, rfl, rfl⟩, trivial⟩) (trivial) (trivial) (trivial) rfl) trivial rfl ?_
 refine .as (.str (lenB s)) (congrArg AV.str (nu_len s hs)) ?_
 refine .q (op_move rfl) trivial rfl ?_
 refine .q (op_addS rfl rfl (by rw [length_lenB]; omega)) trivial rfl ?_
 refine .q (op_assign rfl) trivial rfl ?_
 refine .nil ?_
 show Ev _ _ _ _ _
 refine .ret ?_
 show RetOk _ _ _ _ _ _ _
 exact ret1v rfl (.inl rfl) rfl rfl trivial
set_option maxHeartbeats 1000000 in
set_option maxRecDepth 100000 in
theorem rbig9_ev (s : List UInt8) (hs : s.length ≤ 80000000) : Meets Tryz.prog 53 [.str s] [] (.str (bigB s)) [] := by
 obtain ⟨r, hr⟩ : ∃ r, shortB s = r := ⟨_, rfl⟩
 have hrl : r.length ≤ s.length := by rw [← hr]; exact length_shortB s
 have hul := length_unsB r
 refine meets_of_ev (nt := 25) Tryz.func53 rfl rfl (Nat.le_of_ble_eq_true rfl) ?_
 refine .seq ?_
 refine .region ?_
 refine .q (op_assign rfl) trivial rfl ?_
 refine .nil ?_
 show Ev _ _ _ _ _
 refine .seq ?_
 refine .block ?_
 refine Ev.loop (ι := { q : List UInt8 // shortB q = shortB s ∧ q.length ≤ s.length }) (fun q => ⟨[(0, .str (q.1))], [], 1000⟩) (fun q => q.1.length) ⟨s, rfl, Nat.le_refl _⟩ (StLe.mk [] rfl rfl ⟨⟨_, rfl, by rfl, rfl⟩, trivial⟩ trivial) ?_
 rintro ⟨q, hq1, hq2⟩
 try dsimp only
 refine .seq ?_
 refine .seq ?_
 refine .region ?_
 refine .q (op_move rfl) trivial rfl ?_
 refine .q (op_eqS rfl rfl rfl) trivial rfl ?_
 refine .q (op_move rfl) trivial rfl ?_
 refine .split (fun hg5 => ?_) (fun hg5 => ?_)
 ·skip
  refine .q (op_move rfl) ⟨_, rfl, rfl⟩ rfl ?_
  have hne : q ≠ [] := by simpa using hg5
  have hlp := ne_pos hne
  refine .q (op_index_str Tryz.underlying9 rfl rfl (i := 0) rfl (by omega)) ⟨_, rfl, rfl⟩ rfl ?_
  refine .q (op_bin8 rfl rfl rfl) ⟨_, rfl, rfl⟩ rfl ?_
  refine .q (op_pick_true rfl rfl rfl) trivial rfl ?_
  refine .nil ?_
  show Ev _ _ _ _ _
  refine .cond rfl (fun hc9 => ?_) (fun hc9 => ?_)
  ·skip
   have hz : q.getD 0 0 = 0 := by simpa using hc9
   refine .skip ?_
   show Ev _ _ _ _ _
   refine .block ?_
   refine .region ?_
   refine .q (op_move rfl) trivial rfl ?_
   refine .q (ap_slice_str_lo Tryz.underlying9 rfl (bnd_some rfl (l := 1) rfl) (by omega)) trivial rfl ?_
   refine .q (op_assign rfl) trivial rfl ?_
   refine .nil ?_
   exact ⟨⟨q.drop 1, (short_drop hne hz).trans hq1, by rw [List.length_drop]; omega⟩, by show (q.drop 1).length < q.length; rw [List.length_drop]; omega, StLe.mk [] rfl rfl ⟨⟨_, rfl, by rfl, rfl⟩, trivial⟩ trivial⟩
  ·skip
   have hz : q.getD 0 0 ≠ 0 := by simpa using hc9
   refine .exit ?_
   show Ev _ _ _ _ _
   refine Ev.weak (st2 := ⟨[(0, .str (r))], [], 1000⟩) (StLe.mk [] rfl rfl ⟨⟨_, rfl, by (simp only [AV.ren]; rw [← hr, ← hq1]; first | (rw [hnil]; rfl) | (rw [short_stop hne hz])), rfl⟩, trivial⟩ trivial) ?_
   show Ev _ _ _ _ _
   refine .seq ?_
   refine .seq ?_
   refine .region ?_
   refine .q (op_move rfl) trivial rfl ?_
   refine .q (op_eqS rfl rfl rfl) trivial rfl ?_
   refine .q (op_move rfl) trivial rfl ?_
   refine .split (fun hg14 => ?_) (fun hg14 => ?_)
   ·skip
    refine .q (op_move rfl) ⟨_, rfl, rfl⟩ rfl ?_
    have hne : r ≠ [] := by simpa using hg14
    have hlp := ne_pos hne
    refine .q (op_index_str Tryz.underlying9 rfl rfl (i := 0) rfl (by omega)) ⟨_, rfl, rfl⟩ rfl ?_
    refine .q (op_bin8 rfl rfl rfl) ⟨_, rfl, rfl⟩ rfl ?_
    refine .q (op_pick_true rfl rfl rfl) trivial rfl ?_
    refine .nil ?_
    show Ev _ _ _ _ _
    refine .cond rfl (fun hc18 => ?_) (fun hc18 => ?_)
    ·skip
     refine .region ?_
     refine .a (ap_build (us := [.u8 0]) (c := .aggB [0]) Tryz.underlying33 inf5 rfl (by decide) (by decide) ⟨rfl, rfl, rfl, trivial⟩ rfl) trivial rfl ?_
     refine .q (op_bytes_str Tryz.underlying33 Tryz.underlying5 Tryz.underlying9 rfl rfl rfl (by show 0 + 1 ≤ 1; decide)) trivial rfl ?_
     refine .as (.str [0]) rfl ?_
     refine .q (op_move rfl) trivial rfl ?_
     refine .q (op_addS rfl rfl (by first | (simp only [List.length_singleton]; omega) | omega)) trivial rfl ?_
     refine .q (op_assign rfl) trivial rfl ?_
     refine .nil ?_
     show Ev _ _ _ _ _
     refine .seq ?_
     refine .region ?_
     refine .q (op_move rfl) trivial rfl ?_
     refine .as (.str (unsB r)) (congrArg AV.str (by first | exact uns_high hne (by simpa using hc18) | exact uns_low hne (by simpa using hc18) | exact uns_nil (by simpa using hg14))) ?_
     refine .q (op_call (U := []) [] [] (rtext9_ev (unsB r) (by omega)) Tryz.func51 (by kernel_rfl) rfl rfl rfl (⟨⟨_, rfl, rfl, rfl⟩, trivial⟩) (trivial) (trivial) (trivial) rfl) trivial rfl ?_
     refine .q (op_assign rfl) trivial rfl ?_
     refine .nil ?_
     show Ev _ _ _ _ _
     refine .ret ?_
     show RetOk _ _ _ _ _ _ _
     exact ret1v rfl (.inl rfl) rfl (by rw [← hr]; rfl) trivial
    ·skip
     refine .skip ?_
     show Ev _ _ _ _ _
     refine .seq ?_
     refine .region ?_
     refine .q (op_move rfl) trivial rfl ?_
     refine .as (.str (unsB r)) (congrArg AV.str (by first | exact uns_high hne (by simpa using hc18) | exact uns_low hne (by simpa using hc18) | exact uns_nil (by simpa using hg14))) ?_
     refine .q (op_call (U := []) [] [] (rtext9_ev (unsB r) (by omega)) Tryz.func51 (by kernel_rfl) rfl rfl rfl (⟨⟨_, rfl, rfl, rfl⟩, trivial⟩) (trivial) (trivial) (trivial) rfl) trivial rfl ?_
     refine .q (op_assign rfl) trivial rfl ?_
     refine .nil ?_
     show Ev _ _ _ _ _
     refine .ret ?_
     show RetOk _ _ _ _ _ _ _
     exact ret1v rfl (.inl rfl) rfl (by rw [← hr]; rfl) trivial
   ·skip
    refine .no ⟨_, rfl, rfl⟩ rfl ?_
    refine .no ⟨_, rfl, rfl⟩ rfl ?_
    refine .no ⟨_, rfl, rfl⟩ rfl ?_
    refine .q (op_pick_false rfl rfl rfl) trivial rfl ?_
    refine .nil ?_
    show Ev _ _ _ _ _
    refine .cond_false rfl rfl ?_
    refine .skip ?_
    show Ev _ _ _ _ _
    refine .seq ?_
    refine .region ?_
    refine .q (op_move rfl) trivial rfl ?_
    refine .as (.str (unsB r)) (congrArg AV.str (by first | exact uns_high hne (by simpa using hc18) | exact uns_low hne (by simpa using hc18) | exact uns_nil (by simpa using hg14))) ?_
    refine .q (op_call (U := []) [] [] (rtext9_ev (unsB r) (by omega)) Tryz.func51 (by kernel_rfl) rfl rfl rfl (⟨⟨_, rfl, rfl, rfl⟩, trivial⟩) (trivial) (trivial) (trivial) rfl) trivial rfl ?_
    refine .q (op_assign rfl) trivial rfl ?_
    refine .nil ?_
    show Ev _ _ _ _ _
    refine .ret ?_
    show RetOk _ _ _ _ _ _ _
    exact ret1v rfl (.inl rfl) rfl (by rw [← hr]; rfl) trivial
 ·skip
  refine .no ⟨_, rfl, rfl⟩ rfl ?_
  refine .no ⟨_, rfl, rfl⟩ rfl ?_
  refine .no ⟨_, rfl, rfl⟩ rfl ?_
  refine .q (op_pick_false rfl rfl rfl) trivial rfl ?_
  refine .nil ?_
  show Ev _ _ _ _ _
  refine .cond_false rfl rfl ?_
  have hnil : q = [] := by simpa using hg5
  refine .exit ?_
  show Ev _ _ _ _ _
  refine Ev.weak (st2 := ⟨[(0, .str (r))], [], 1000⟩) (StLe.mk [] rfl rfl ⟨⟨_, rfl, by (simp only [AV.ren]; rw [← hr, ← hq1]; first | (rw [hnil]; rfl) | (rw [short_stop hne hz])), rfl⟩, trivial⟩ trivial) ?_
  show Ev _ _ _ _ _
  refine .seq ?_
  refine .seq ?_
  refine .region ?_
  refine .q (op_move rfl) trivial rfl ?_
  refine .q (op_eqS rfl rfl rfl) trivial rfl ?_
  refine .q (op_move rfl) trivial rfl ?_
  refine .split (fun hg14 => ?_) (fun hg14 => ?_)
  ·skip
   refine .q (op_move rfl) ⟨_, rfl, rfl⟩ rfl ?_
   have hne : r ≠ [] := by simpa using hg14
   have hlp := ne_pos hne
   refine .q (op_index_str Tryz.underlying9 rfl rfl (i := 0) rfl (by omega)) ⟨_, rfl, rfl⟩ rfl ?_
   refine .q (op_bin8 rfl rfl rfl) ⟨_, rfl, rfl⟩ rfl ?_
   refine .q (op_pick_true rfl rfl rfl) trivial rfl ?_
   refine .nil ?_
   show Ev _ _ _ _ _
   refine .cond rfl (fun hc18 => ?_) (fun hc18 => ?_)
   ·skip
    refine .region ?_
    refine .a (ap_build (us := [.u8 0]) (c := .aggB [0]) Tryz.underlying33 inf5 rfl (by decide) (by decide) ⟨rfl, rfl, rfl, trivial⟩ rfl) trivial rfl ?_
    refine .q (op_bytes_str Tryz.underlying33 Tryz.underlying5 Tryz.underlying9 rfl rfl rfl (by show 0 + 1 ≤ 1; decide)) trivial rfl ?_
    refine .as (.str [0]) rfl ?_
    refine .q (op_move rfl) trivial rfl ?_
    refine .q (op_addS rfl rfl (by first | (simp only [List.length_singleton]; omega) | omega)) trivial rfl ?_
    refine .q (op_assign rfl) trivial rfl ?_
    refine .nil ?_
    show Ev _ _ _ _ _
    refine .seq ?_
    refine .region ?_
    refine .q (op_move rfl) trivial rfl ?_
    refine .as (.str (unsB r)) (congrArg AV.str (by first | exact uns_high hne (by simpa using hc18) | exact uns_low hne (by simpa using hc18) | exact uns_nil (by simpa using hg14))) ?_
    refine .q (op_call (U := []) [] [] (rtext9_ev (unsB r) (by omega)) Tryz.func51 (by kernel_rfl) rfl rfl rfl (⟨⟨_, rfl, rfl, rfl⟩, trivial⟩) (trivial) (trivial) (trivial) rfl) trivial rfl ?_
    refine .q (op_assign rfl) trivial rfl ?_
    refine .nil ?_
    show Ev _ _ _ _ _
    refine .ret ?_
    show RetOk _ _ _ _ _ _ _
    exact ret1v rfl (.inl rfl) rfl (by rw [← hr]; rfl) trivial
   ·skip
    refine .skip ?_
    show Ev _ _ _ _ _
    refine .seq ?_
    refine .region ?_
    refine .q (op_move rfl) trivial rfl ?_
    refine .as (.str (unsB r)) (congrArg AV.str (by first | exact uns_high hne (by simpa using hc18) | exact uns_low hne (by simpa using hc18) | exact uns_nil (by simpa using hg14))) ?_
    refine .q (op_call (U := []) [] [] (rtext9_ev (unsB r) (by omega)) Tryz.func51 (by kernel_rfl) rfl rfl rfl (⟨⟨_, rfl, rfl, rfl⟩, trivial⟩) (trivial) (trivial) (trivial) rfl) trivial rfl ?_
    refine .q (op_assign rfl) trivial rfl ?_
    refine .nil ?_
    show Ev _ _ _ _ _
    refine .ret ?_
    show RetOk _ _ _ _ _ _ _
    exact ret1v rfl (.inl rfl) rfl (by rw [← hr]; rfl) trivial
  ·skip
   refine .no ⟨_, rfl, rfl⟩ rfl ?_
   refine .no ⟨_, rfl, rfl⟩ rfl ?_
   refine .no ⟨_, rfl, rfl⟩ rfl ?_
   refine .q (op_pick_false rfl rfl rfl) trivial rfl ?_
   refine .nil ?_
   show Ev _ _ _ _ _
   refine .cond_false rfl rfl ?_
   refine .skip ?_
   show Ev _ _ _ _ _
   refine .seq ?_
   refine .region ?_
   refine .q (op_move rfl) trivial rfl ?_
   refine .as (.str (unsB r)) (congrArg AV.str (by first | exact uns_high hne (by simpa using hc18) | exact uns_low hne (by simpa using hc18) | exact uns_nil (by simpa using hg14))) ?_
   refine .q (op_call (U := []) [] [] (rtext9_ev (unsB r) (by omega)) Tryz.func51 (by kernel_rfl) rfl rfl rfl (⟨⟨_, rfl, rfl, rfl⟩, trivial⟩) (trivial) (trivial) (trivial) rfl) trivial rfl ?_
   refine .q (op_assign rfl) trivial rfl ?_
   refine .nil ?_
   show Ev _ _ _ _ _
   refine .ret ?_
   show RetOk _ _ _ _ _ _ _
   exact ret1v rfl (.inl rfl) rfl (by rw [← hr]; rfl) trivial
end Go.Proofs.YtdmlpblaelfdmaaGreatDoor
