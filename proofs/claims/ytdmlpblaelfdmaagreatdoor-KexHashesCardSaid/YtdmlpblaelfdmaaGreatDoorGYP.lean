/-
  The encoder and the decoder, walked.
-/
import Derived.Test.YtdmlpblaelfdmaaGreatDoorGEP
namespace Go.Proofs.YtdmlpblaelfdmaaGreatDoor
open Go.RowKit

/-- What is left to read, and the number of the first error (0: none). -/
structure DI where
  r : List UInt8
  e : Nat
def shortB (s : List UInt8) : List UInt8 := s.dropWhile (fun x => x == 0)
def unsB (s : List UInt8) : List UInt8 := if s = [] then [] else if s.getD 0 0 < 128 then s else 0 :: s
theorem length_shortB (s : List UInt8) : (shortB s).length ≤ s.length := by unfold shortB; exact (List.dropWhile_sublist _).length_le
theorem length_unsB (s : List UInt8) : (unsB s).length ≤ s.length + 1 := by unfold unsB; split <;> (try split) <;> simp_all

/-- Where an error is, nothing is left. -/
def DI.ok (i : DI) : Prop := i.e ≠ 0 → i.r = []
end Go.Proofs.YtdmlpblaelfdmaaGreatDoor
namespace Go.Proofs.YtdmlpblaelfdmaaGreatDoor
open Go.RowKit
set_option maxRecDepth 100000 in
theorem cc0_ev  : Meets Tryz.prog 134 [.ptr 500 0] [(500, some ⟨.agg [.val (.pointer none), .nilsl], 82, true⟩)] (.tup []) [(500, some ⟨.agg [.ptr 500 0, .nilsl], 82, true⟩)] := by
 refine meets_of_ev (nt := 20) Tryz.func134 rfl rfl (Nat.le_of_ble_eq_true rfl) ?_
 refine .seq ?_
 refine .region ?_
 refine .q (op_move rfl) trivial rfl ?_
 refine .q (op_nilCheck rfl) trivial rfl ?_
 refine .q (op_fieldAddr (m := 0) Tryz.underlying80 rfl (by kernel_rfl) rfl) trivial rfl ?_
 refine .as (.ptr 500 0) rfl ?_
 refine .q (op_load Tryz.underlying78 rfl rfl rfl rfl (by first | omega | (simp only [AV.len]; omega) | (simp only [AV.len]; omega) | assumption | (simp [AV.len]; done))) trivial rfl ?_
 refine .q (op_eqNilPtr Tryz.underlying78 rfl rfl rfl) trivial rfl ?_
 refine .nil ?_
 show Ev _ _ _ _ _
 refine .cond_true rfl (rfl) ?_
 refine .region ?_
 refine .q (op_move rfl) trivial rfl ?_
 refine .q (op_move rfl) trivial rfl ?_
 refine .q (op_toUnsafe Tryz.underlying78 Tryz.underlying135 (by kernel_rfl) rfl rfl rfl) trivial rfl ?_
 refine .q (op_noEscape Tryz.func172 (by kernel_rfl) (by kernel_rfl) (by kernel_rfl) rfl rfl) trivial rfl ?_
 refine .q (op_fromUnsafe Tryz.underlying135 Tryz.underlying78 (by kernel_rfl) rfl rfl (by decide) rfl (by kernel_rfl) (by kernel_rfl) (by kernel_rfl)) trivial rfl ?_
 refine .q (op_nilCheck rfl) trivial rfl ?_
 refine .q (op_fieldAddr (m := 0) Tryz.underlying80 rfl (by kernel_rfl) rfl) trivial rfl ?_
 refine .as (.ptr 500 0) rfl ?_
 refine .w (op_store (by kernel_rfl) rfl rfl rfl rfl rfl (by first | omega | (simp only [AV.len]; omega) | (simp only [AV.len]; omega) | assumption | (simp [AV.len]; done))) trivial rfl ?_
 refine .nil ?_
 show RetOk _ _ _ _ _ _ _
 exact ret0 rfl (.inr rfl) ⟨rfl, trivial⟩
set_option maxRecDepth 100000 in
theorem cc2_ev (n : Nat) : Meets Tryz.prog 134 [.ptr 500 0] [(500, some ⟨.agg [.ptr 500 0, .sl 501 0 (n) 1], 82, false⟩)] (.tup []) [(500, some ⟨.agg [.ptr 500 0, .sl 501 0 (n) 1], 82, false⟩)] := by
 refine meets_of_ev (nt := 20) Tryz.func134 rfl rfl (Nat.le_of_ble_eq_true rfl) ?_
 refine .seq ?_
 refine .region ?_
 refine .q (op_move rfl) trivial rfl ?_
 refine .q (op_nilCheck rfl) trivial rfl ?_
 refine .q (op_fieldAddr (m := 0) Tryz.underlying80 rfl (by kernel_rfl) rfl) trivial rfl ?_
 refine .as (.ptr 500 0) rfl ?_
 refine .q (op_load Tryz.underlying78 rfl rfl rfl rfl (by first | omega | (simp only [AV.len]; omega) | (simp only [AV.len]; omega) | assumption | (simp [AV.len]; done))) trivial rfl ?_
 refine .q (op_eqPtrNil Tryz.underlying78 rfl rfl rfl) trivial rfl ?_
 refine .nil ?_
 show Ev _ _ _ _ _
 refine .cond_false rfl (rfl) ?_
 refine .seq ?_
 refine .region ?_
 refine .q (op_move rfl) trivial rfl ?_
 refine .q (op_nilCheck rfl) trivial rfl ?_
 refine .q (op_fieldAddr (m := 0) Tryz.underlying80 rfl (by kernel_rfl) rfl) trivial rfl ?_
 refine .as (.ptr 500 0) rfl ?_
 refine .q (op_load Tryz.underlying78 rfl rfl rfl rfl (by first | omega | (simp only [AV.len]; omega) | (simp only [AV.len]; omega) | assumption | (simp [AV.len]; done))) trivial rfl ?_
 refine .q (op_move rfl) trivial rfl ?_
 refine .q (op_eqPtrSame Tryz.underlying78 (by kernel_rfl) rfl rfl rfl) trivial rfl ?_
 refine .nil ?_
 show Ev _ _ _ _ _
 refine .cond_false rfl (rfl) ?_
 refine .skip ?_
 show RetOk _ _ _ _ _ _ _
 exact ret0 rfl (.inr rfl) ⟨rfl, trivial⟩
set_option maxRecDepth 100000 in
theorem wb0_ev (c : UInt8) : Meets Tryz.prog 97 [.ptr 500 0, .u8 c] [(500, some ⟨.agg [.val (.pointer none), .nilsl], 82, true⟩)] (.val .nilIface) [(500, some ⟨.agg [.ptr 500 0, .sl 1016 0 (1) 1], 82, true⟩), (1016, some ⟨.aggB [c], 5, true⟩)] := by
 refine meets_of_ev (nt := 17) Tryz.func97 rfl rfl (Nat.le_of_ble_eq_true rfl) ?_
 refine .seq ?_
 refine .region ?_
 refine .q (op_assign rfl) trivial rfl ?_
 refine .nil ?_
 show Ev _ _ _ _ _
 refine .seq ?_
 refine .region ?_
 refine .q (op_move rfl) trivial rfl ?_
 refine .a (op_call (U := [(500, some ⟨.agg [.ptr 500 0, .nilsl], 82, true⟩)]) [(500, 500)] [] (cc0_ev) Tryz.func134 (by kernel_rfl) rfl rfl rfl (⟨⟨_, rfl, rfl, rfl⟩, trivial⟩) (⟨⟨_, _, rfl, rfl, rfl, rfl, id, rfl⟩, trivial⟩) (⟨⟨500, _, rfl, rfl, rfl, rfl, .inr ⟨rfl, _, rfl, rfl⟩⟩, trivial⟩) (⟨(fun _ => ⟨500, _, rfl, rfl⟩), trivial⟩) rfl) trivial rfl ?_
 refine .nil ?_
 show Ev _ _ _ _ _
 refine .seq ?_
 refine .region ?_
 refine .q (op_move rfl) trivial rfl ?_
 refine .q (op_move rfl) trivial rfl ?_
 refine .q (op_nilCheck rfl) trivial rfl ?_
 refine .q (op_fieldAddr (m := 0) Tryz.underlying80 rfl (by kernel_rfl) rfl) trivial rfl ?_
 refine .as (.ptr 500 1) rfl ?_
 refine .q (op_load Tryz.underlying33 rfl rfl rfl rfl (by first | omega | (simp only [AV.len]; omega) | (simp only [AV.len]; omega) | assumption | (simp [AV.len]; done))) trivial rfl ?_
 refine .q (op_move rfl) trivial rfl ?_
 refine .a (ap_build (us := [_]) (c := .aggB [_]) Tryz.underlying33 inf5 rfl (by decide) (by decide) ⟨rfl, rfl, rfl, trivial⟩ rfl) trivial rfl ?_
 refine .a (ap_cat_nil Tryz.underlying33 inf5 rfl rfl rfl rfl (by first | omega | (simp only [AV.len]; omega) | (simp only [AV.len, List.length_set]; omega) | assumption | (simp [AV.len]; done)) (by first | omega | (simp only [AV.len]; omega) | (simp only [AV.len, List.length_set]; omega) | assumption | (simp [AV.len]; done))) trivial rfl ?_
 refine .q (op_nilCheck rfl) trivial rfl ?_
 refine .q (op_fieldAddr (m := 0) Tryz.underlying80 rfl (by kernel_rfl) rfl) trivial rfl ?_
 refine .as (.ptr 500 1) rfl ?_
 refine .w (op_store (by kernel_rfl) rfl rfl rfl rfl rfl (by first | omega | (simp only [AV.len]; omega) | (simp only [AV.len]; omega) | assumption | (simp [AV.len]; done))) trivial rfl ?_
 refine .nil ?_
 show Ev _ _ _ _ _
 refine .seq ?_
 refine .region ?_
 refine .q (op_assign rfl) trivial rfl ?_
 refine .nil ?_
 show Ev _ _ _ _ _
 refine .ret ?_
 show RetOk _ _ _ _ _ _ _
 exact ret1v rfl (.inl rfl) rfl rfl ⟨rfl, rfl, trivial⟩
set_option maxRecDepth 100000 in
theorem wb2_ev (l : List UInt8) (n : Nat) (hn : n = l.length) (h : n ≤ 1000000000) (c : UInt8) : Meets Tryz.prog 97 [.ptr 500 0, .u8 c] [(500, some ⟨.agg [.ptr 500 0, .sl 501 0 (n) 1], 82, true⟩), (501, some ⟨.aggB l, 5, true⟩)] (.val .nilIface) [(500, some ⟨.agg [.ptr 500 0, .sl 1008 0 (n + 1) 1], 82, true⟩), (1008, some ⟨.aggB (l ++ [c]), 5, true⟩)] := by
 refine meets_of_ev (nt := 17) Tryz.func97 rfl rfl (Nat.le_of_ble_eq_true rfl) ?_
 refine .seq ?_
 refine .region ?_
 refine .q (op_assign rfl) trivial rfl ?_
 refine .nil ?_
 show Ev _ _ _ _ _
 refine .seq ?_
 refine .region ?_
 refine .q (op_move rfl) trivial rfl ?_
 refine .q (op_call (U := []) [(500, 500), (501, 501)] [] (cc2_ev n) Tryz.func134 (by kernel_rfl) rfl rfl rfl (⟨⟨_, rfl, rfl, rfl⟩, trivial⟩) (⟨⟨_, _, rfl, rfl, rfl, rfl, (fun h => by cases h), rfl⟩, trivial⟩) (trivial) (⟨(fun h => by cases h), trivial⟩) rfl) trivial rfl ?_
 refine .nil ?_
 show Ev _ _ _ _ _
 refine .seq ?_
 refine .region ?_
 refine .q (op_move rfl) trivial rfl ?_
 refine .q (op_move rfl) trivial rfl ?_
 refine .q (op_nilCheck rfl) trivial rfl ?_
 refine .q (op_fieldAddr (m := 0) Tryz.underlying80 rfl (by kernel_rfl) rfl) trivial rfl ?_
 refine .as (.ptr 500 1) rfl ?_
 refine .q (op_load Tryz.underlying33 rfl rfl rfl rfl (by first | omega | (simp only [AV.len]; omega) | (simp only [AV.len]; omega) | assumption | (simp [AV.len]; done))) trivial rfl ?_
 refine .q (op_move rfl) trivial rfl ?_
 refine .a (ap_build (us := [_]) (c := .aggB [_]) Tryz.underlying33 inf5 rfl (by decide) (by decide) ⟨rfl, rfl, rfl, trivial⟩ rfl) trivial rfl ?_
 refine .a (ap_cat Tryz.underlying33 inf5 rfl rfl rfl rfl (by first | rfl | omega | (simp only [AV.len]; omega)) rfl rfl (by first | rfl | omega | (simp only [AV.len]; omega)) rfl (by first | rfl | omega | (simp only [AV.len]; omega))) trivial rfl ?_
 refine .q (op_nilCheck rfl) trivial rfl ?_
 refine .q (op_fieldAddr (m := 0) Tryz.underlying80 rfl (by kernel_rfl) rfl) trivial rfl ?_
 refine .as (.ptr 500 1) rfl ?_
 refine .w (op_store (by kernel_rfl) rfl rfl rfl rfl rfl (by first | omega | (simp only [AV.len]; omega) | (simp only [AV.len]; omega) | assumption | (simp [AV.len]; done))) trivial rfl ?_
 refine .nil ?_
 show Ev _ _ _ _ _
 refine .seq ?_
 refine .region ?_
 refine .q (op_assign rfl) trivial rfl ?_
 refine .nil ?_
 show Ev _ _ _ _ _
 refine .ret ?_
 show RetOk _ _ _ _ _ _ _
 exact ret1v rfl (.inl rfl) rfl rfl ⟨rfl, rfl, trivial⟩
set_option maxRecDepth 100000 in
theorem ws2_ev (l : List UInt8) (n : Nat) (hn : n = l.length) (h : n ≤ 1000000000) (s : List UInt8) (hs : s.length ≤ 1000000000) : Meets Tryz.prog 98 [.ptr 500 0, .str s] [(500, some ⟨.agg [.ptr 500 0, .sl 501 0 (n) 1], 82, true⟩), (501, some ⟨.aggB l, 5, true⟩)] (.tup [.i64 (s.length : Int), .val .nilIface]) [(500, some ⟨.agg [.ptr 500 0, .sl 1000 0 (n + s.length) 1], 82, true⟩), (1000, some ⟨.aggB (l ++ s), 5, true⟩)] := by
 refine meets_of_ev (nt := 19) Tryz.func98 rfl rfl (Nat.le_of_ble_eq_true rfl) ?_
 refine .seq ?_
 refine .region ?_
 refine .q (op_assign rfl) trivial rfl ?_
 refine .q (op_assign rfl) trivial rfl ?_
 refine .nil ?_
 show Ev _ _ _ _ _
 refine .seq ?_
 refine .region ?_
 refine .q (op_move rfl) trivial rfl ?_
 refine .q (op_call (U := []) [(500, 500), (501, 501)] [] (cc2_ev n) Tryz.func134 (by kernel_rfl) rfl rfl rfl (⟨⟨_, rfl, rfl, rfl⟩, trivial⟩) (⟨⟨_, _, rfl, rfl, rfl, rfl, (fun h => by cases h), rfl⟩, trivial⟩) (trivial) (⟨(fun h => by cases h), trivial⟩) rfl) trivial rfl ?_
 refine .nil ?_
 show Ev _ _ _ _ _
 refine .seq ?_
 refine .region ?_
 refine .q (op_move rfl) trivial rfl ?_
 refine .q (op_move rfl) trivial rfl ?_
 refine .q (op_nilCheck rfl) trivial rfl ?_
 refine .q (op_fieldAddr (m := 0) Tryz.underlying80 rfl (by kernel_rfl) rfl) trivial rfl ?_
 refine .as (.ptr 500 1) rfl ?_
 refine .q (op_load Tryz.underlying33 rfl rfl rfl rfl (by first | omega | (simp only [AV.len]; omega) | (simp only [AV.len]; omega) | assumption | (simp [AV.len]; done))) trivial rfl ?_
 refine .q (op_move rfl) trivial rfl ?_
 refine .a (ap_catS Tryz.underlying33 inf5 Tryz.underlying9 rfl rfl rfl (hn) (by omega)) trivial rfl ?_
 refine .q (op_nilCheck rfl) trivial rfl ?_
 refine .q (op_fieldAddr (m := 0) Tryz.underlying80 rfl (by kernel_rfl) rfl) trivial rfl ?_
 refine .as (.ptr 500 1) rfl ?_
 refine .w (op_store (by kernel_rfl) rfl rfl rfl rfl rfl (by first | omega | (simp only [AV.len]; omega) | (simp only [AV.len]; omega) | assumption | (simp [AV.len]; done))) trivial rfl ?_
 refine .nil ?_
 show Ev _ _ _ _ _
 refine .seq ?_
 refine .region ?_
 refine .q (op_move rfl) trivial rfl ?_
 refine .q (op_len_str Tryz.underlying9 rfl) trivial rfl ?_
 refine .q (op_assign rfl) trivial rfl ?_
 refine .q (op_assign rfl) trivial rfl ?_
 refine .nil ?_
 show Ev _ _ _ _ _
 refine .ret ?_
 show RetOk _ _ _ _ _ _ _
 exact ret2v rfl (.inl rfl) rfl rfl rfl rfl ⟨rfl, rfl, trivial⟩
set_option maxRecDepth 100000 in
theorem st2_ev (l : List UInt8) (n : Nat) (hn : n = l.length) (h0 : 0 < n) (h : n ≤ 1000000000) : Meets Tryz.prog 65 [.ptr 500 0] [(500, some ⟨.agg [.ptr 500 0, .sl 501 0 (n) 1], 82, false⟩), (501, some ⟨.aggB l, 5, true⟩)] (.str l) [(500, some ⟨.agg [.ptr 500 0, .sl 501 0 (n) 1], 82, false⟩), (501, some ⟨.aggB l, (frz + 5), false⟩)] := by
 refine meets_of_ev (nt := 14) Tryz.func65 rfl rfl (Nat.le_of_ble_eq_true rfl) ?_
 refine .seq ?_
 refine .region ?_
 refine .q (op_assign rfl) trivial rfl ?_
 refine .nil ?_
 show Ev _ _ _ _ _
 refine .seq ?_
 refine .drawn [[], [0], [0, 1], [0, 1, 2], [0, 1, 2, 3], [], [5], [5, 6], [5, 6, 7], [5, 6, 7, 8], [0, 1, 2, 3, 4, 5, 6, 7, 8, 9], [0, 1, 2, 3, 4, 5, 6, 7, 8, 9, 10]] [3, 8, 10] [10] (by kernel_rfl) (by kernel_rfl) rfl ?_
 show DK _ [0, 1, 2, 3, 4, 5, 6, 7, 8, 9, 10, 11] _ _ _
 refine .q rfl (op_move rfl) trivial ?_
 refine .q rfl (op_nilCheck rfl) trivial ?_
 refine .q rfl (op_fieldAddr (m := 0) Tryz.underlying80 rfl (by kernel_rfl) rfl) trivial ?_
 refine .as (.ptr 500 1) rfl ?_
 refine .q rfl (op_load Tryz.underlying33 rfl rfl rfl rfl (by first | omega | (simp only [AV.len]; omega) | (simp only [AV.len]; omega) | assumption | (simp [AV.len]; done))) trivial ?_
 refine .q rfl (op_sliceData rfl (h0)) trivial ?_
 refine .q rfl (op_move rfl) trivial ?_
 refine .q rfl (op_nilCheck rfl) trivial ?_
 refine .q rfl (op_fieldAddr (m := 0) Tryz.underlying80 rfl (by kernel_rfl) rfl) trivial ?_
 refine .as (.ptr 500 1) rfl ?_
 refine .q rfl (op_load Tryz.underlying33 rfl rfl rfl rfl (by first | omega | (simp only [AV.len]; omega) | (simp only [AV.len]; omega) | assumption | (simp [AV.len]; done))) trivial ?_
 refine .q rfl (op_len_sl Tryz.underlying33 rfl) trivial ?_
 refine .a rfl (op_unsafeString (e := 5) Tryz.underlying168 (by kernel_rfl) rfl rfl (congrArg Int.ofNat hn) rfl rfl rfl (by decide) (by decide) rfl (by omega) (by omega)) trivial rfl rfl ?_
 refine .q rfl (op_assign rfl) trivial ?_
 refine .nil ?_
 show Ev _ _ _ _ _
 refine .ret ?_
 show RetOk _ _ _ _ _ _ _
 exact ret1v rfl (.inl rfl) rfl rfl ⟨rfl, rfl, trivial⟩
end Go.Proofs.YtdmlpblaelfdmaaGreatDoor
namespace Go.Proofs.YtdmlpblaelfdmaaGreatDoor
open Go.RowKit
theorem shortB_zero {q : List UInt8} (h0 : 0 < q.length) (h : q.getD 0 0 = 0) : shortB (q.drop 1) = shortB q := by
 cases q with
 | nil => cases h0
 | cons x q => simp only [List.getD_cons_zero] at h; subst h; simp [shortB]
theorem shortB_stop {q : List UInt8} (h : ¬ q.getD 0 0 = 0) : shortB q = q := by
 cases q with
 | nil => rfl
 | cons x q =>
  simp only [List.getD_cons_zero] at h
  simp [shortB, h]
set_option maxRecDepth 100000 in
theorem trimByte_ev (s : List UInt8) (_hs : s.length ≤ 9223372036854775807) : Meets Tryz.prog 181 [.str s, .u8 0] [] (.str (shortB s)) [] := by
 refine meets_of_ev (nt := 17) Tryz.func181 rfl rfl (Nat.le_of_ble_eq_true rfl) ?_
 refine .seq ?_
 refine .region ?_
 refine .q (op_assign rfl) trivial rfl ?_
 refine .nil ?_
 show Ev _ _ _ _ _
 refine .seq ?_
 refine .block ?_
 refine Ev.loop (ι := { q : List UInt8 // shortB q = shortB s ∧ q.length ≤ s.length }) (fun q => ⟨[(0, .str q.1), (1, .u8 0)], [], 1000⟩) (fun q => q.1.length) ⟨s, rfl, Nat.le_refl _⟩ (StLe.mk [] rfl rfl ⟨⟨_, rfl, by first | rfl | (simp only [AV.ren]; congr 1; omega), rfl⟩, ⟨_, rfl, by first | rfl | (simp only [AV.ren]; congr 1; omega), rfl⟩, trivial⟩ trivial) ?_
 rintro ⟨q, hq, hql⟩
 try dsimp only
 refine .seq ?_
 refine .seq ?_
 refine .region ?_
 refine .q (op_move rfl) trivial rfl ?_
 refine .q (op_len_str Tryz.underlying9 rfl) trivial rfl ?_
 refine .q (op_cmpI rfl rfl rfl) trivial rfl ?_
 refine .q (op_move rfl) trivial rfl ?_
 refine .split (fun hg8 => ?_) (fun hg8 => ?_)
 ·simp only [decide_eq_true_eq] at hg8
  refine .q (op_move rfl) ⟨_, rfl, rfl⟩ rfl ?_
  refine .q (op_index_str Tryz.underlying9 rfl rfl rfl (by first | omega | (simp only [AV.len]; omega) | (simp only [AV.len, List.length_set]; omega) | assumption | (simp [AV.len]; done))) ⟨_, rfl, rfl⟩ rfl ?_
  refine .q (op_move rfl) ⟨_, rfl, rfl⟩ rfl ?_
  refine .q (op_bin8 rfl rfl rfl) ⟨_, rfl, rfl⟩ rfl ?_
  refine .q (op_pick_true rfl rfl rfl) trivial rfl ?_
  refine .nil ?_
  show Ev _ _ _ _ _
  refine .cond rfl (fun hc13 => ?_) (fun hc13 => ?_)
  ·simp only [beq_iff_eq] at hc13
   refine .skip ?_
   show Ev _ _ _ _ _
   refine .block ?_
   refine .region ?_
   refine .q (op_move rfl) trivial rfl ?_
   refine .q (ap_slice_str_lo Tryz.underlying9 rfl (bnd_some rfl rfl) (by show 1 ≤ q.length; omega)) trivial rfl ?_
   refine .q (op_assign rfl) trivial rfl ?_
   refine .nil ?_
   exact ⟨⟨q.drop 1, (shortB_zero (by omega) hc13).trans hq, by simp only [List.length_drop]; omega⟩, by (try dsimp only); simp only [List.length_drop]; omega, StLe.mk [] rfl rfl ⟨⟨_, rfl, by first | rfl | (simp only [AV.ren]; congr 1; omega), rfl⟩, ⟨_, rfl, by first | rfl | (simp only [AV.ren]; congr 1; omega), rfl⟩, trivial⟩ trivial⟩
  ·simp only [ne_eq, beq_eq_false_iff_ne] at hc13
   refine .exit ?_
   show Ev _ _ _ _ _
   refine .seq ?_
   refine .region ?_
   refine .q (op_move rfl) trivial rfl ?_
   refine .q (op_assign rfl) trivial rfl ?_
   refine .nil ?_
   show Ev _ _ _ _ _
   refine .ret ?_
   show RetOk _ _ _ _ _ _ _
   exact ret1v rfl (.inl rfl) rfl (congrArg AV.str (Eq.trans (Eq.symm (show shortB q = q by first | exact shortB_stop hc13 | (rw [List.eq_nil_of_length_eq_zero (show q.length = 0 by omega)]; rfl))) hq)) trivial
 ·simp only [decide_eq_false_iff_not] at hg8
  refine .no ⟨_, rfl, rfl⟩ rfl ?_
  refine .no ⟨_, rfl, rfl⟩ rfl ?_
  refine .no ⟨_, rfl, rfl⟩ rfl ?_
  refine .no ⟨_, rfl, rfl⟩ rfl ?_
  refine .q (op_pick_false rfl rfl rfl) trivial rfl ?_
  refine .nil ?_
  show Ev _ _ _ _ _
  refine .cond_false rfl rfl ?_
  refine .exit ?_
  show Ev _ _ _ _ _
  refine .seq ?_
  refine .region ?_
  refine .q (op_move rfl) trivial rfl ?_
  refine .q (op_assign rfl) trivial rfl ?_
  refine .nil ?_
  show Ev _ _ _ _ _
  refine .ret ?_
  show RetOk _ _ _ _ _ _ _
  exact ret1v rfl (.inl rfl) rfl (congrArg AV.str (Eq.trans (Eq.symm (show shortB q = q by first | exact shortB_stop hc13 | (rw [List.eq_nil_of_length_eq_zero (show q.length = 0 by omega)]; rfl))) hq)) trivial
set_option maxRecDepth 100000 in
theorem trimLeft_ev (s : List UInt8) (hs : s.length ≤ 9223372036854775807) : Meets Tryz.prog 167 [.str s, .str [0]] [] (.str (shortB s)) [] := by
 refine meets_of_ev (nt := 37) Tryz.func167 rfl rfl (Nat.le_of_ble_eq_true rfl) ?_
 refine .seq ?_
 refine .region ?_
 refine .q (op_assign rfl) trivial rfl ?_
 refine .nil ?_
 show Ev _ _ _ _ _
 refine .seq ?_
 refine .seq ?_
 refine .region ?_
 refine .q (op_move rfl) trivial rfl ?_
 refine .q (op_eqS rfl rfl rfl) trivial rfl ?_
 refine .q (op_move rfl) trivial rfl ?_
 refine .split (fun hg9 => ?_) (fun hg9 => ?_)
 ·simp only [beq_iff_eq] at hg9
  refine .no ⟨_, rfl, rfl⟩ rfl ?_
  refine .no ⟨_, rfl, rfl⟩ rfl ?_
  refine .q (op_pick_true rfl rfl rfl) trivial rfl ?_
  refine .nil ?_
  show Ev _ _ _ _ _
  refine .cond_true rfl rfl ?_
  refine .seq ?_
  refine .region ?_
  refine .q (op_move rfl) trivial rfl ?_
  refine .q (op_assign rfl) trivial rfl ?_
  refine .nil ?_
  show Ev _ _ _ _ _
  refine .ret ?_
  show RetOk _ _ _ _ _ _ _
  exact ret1v rfl (.inl rfl) rfl (by first | rfl | exact congrArg AV.str (by subst hg9; rfl)) trivial
 ·simp only [ne_eq, beq_eq_false_iff_ne] at hg9
  refine .q (op_move rfl) ⟨_, rfl, rfl⟩ rfl ?_
  refine .q (op_eqS rfl rfl rfl) ⟨_, rfl, rfl⟩ rfl ?_
  refine .q (op_pick_false rfl rfl rfl) trivial rfl ?_
  refine .nil ?_
  show Ev _ _ _ _ _
  refine .cond_false rfl (rfl) ?_
  refine .skip ?_
  show Ev _ _ _ _ _
  refine .seq ?_
  refine .seq ?_
  refine .region ?_
  refine .q (op_move rfl) trivial rfl ?_
  refine .q (op_len_str Tryz.underlying9 rfl) trivial rfl ?_
  refine .q (op_cmpI rfl rfl rfl) trivial rfl ?_
  refine .q (op_move rfl) trivial rfl ?_
  refine .know (b' := true) (rfl) ?_
  refine .q (op_move rfl) ⟨_, rfl, rfl⟩ rfl ?_
  refine .q (op_index_str Tryz.underlying9 rfl rfl rfl (by first | omega | (skip; omega) | (skip; omega) | assumption | (simp; done))) ⟨_, rfl, rfl⟩ rfl ?_
  refine .q (op_bin8 rfl rfl rfl) ⟨_, rfl, rfl⟩ rfl ?_
  refine .q (op_pick_true rfl rfl rfl) trivial rfl ?_
  refine .nil ?_
  show Ev _ _ _ _ _
  refine .cond_true rfl (rfl) ?_
  refine .seq ?_
  refine .region ?_
  refine .q (op_move rfl) trivial rfl ?_
  refine .q (op_move rfl) trivial rfl ?_
  refine .q (op_index_str Tryz.underlying9 rfl rfl rfl (by first | omega | (skip; omega) | (skip; omega) | assumption | (simp; done))) trivial rfl ?_
  refine .q (op_call (U := []) [] [] (trimByte_ev s (by omega)) Tryz.func181 (by kernel_rfl) rfl rfl rfl (⟨⟨_, rfl, rfl, rfl⟩, ⟨_, rfl, rfl, rfl⟩, trivial⟩) (trivial) (trivial) (trivial) rfl) trivial rfl ?_
  refine .q (op_assign rfl) trivial rfl ?_
  refine .nil ?_
  show Ev _ _ _ _ _
  refine .ret ?_
  show RetOk _ _ _ _ _ _ _
  exact ret1v rfl (.inl rfl) rfl (by first | rfl | exact congrArg AV.str (by subst hg9; rfl)) trivial
set_option maxRecDepth 100000 in
theorem short_ev (s : List UInt8) (hs : s.length ≤ 9223372036854775807) : Meets Tryz.prog 122 [.str s] [] (.str (shortB s)) [] := by
 refine meets_of_ev (nt := 5) Tryz.func122 rfl rfl (Nat.le_of_ble_eq_true rfl) ?_
 refine .seq ?_
 refine .region ?_
 refine .q (op_assign rfl) trivial rfl ?_
 refine .nil ?_
 show Ev _ _ _ _ _
 refine .seq ?_
 refine .region ?_
 refine .q (op_move rfl) trivial rfl ?_
 refine .q (op_call (U := []) [] [] (trimLeft_ev s (by omega)) Tryz.func167 (by kernel_rfl) rfl rfl rfl (⟨⟨_, rfl, rfl, rfl⟩, ⟨_, rfl, rfl, rfl⟩, trivial⟩) (trivial) (trivial) (trivial) rfl) trivial rfl ?_
 refine .q (op_assign rfl) trivial rfl ?_
 refine .nil ?_
 show Ev _ _ _ _ _
 refine .ret ?_
 show RetOk _ _ _ _ _ _ _
 exact ret1v rfl (.inl rfl) rfl rfl trivial
set_option maxRecDepth 100000 in
theorem uns_ev (s : List UInt8) (hs : s.length ≤ 9223372036854775000) : Meets Tryz.prog 121 [.str s] [] (.str (unsB s)) [] := by
 refine meets_of_ev (nt := 13) Tryz.func121 rfl rfl (Nat.le_of_ble_eq_true rfl) ?_
 refine .seq ?_
 refine .region ?_
 refine .q (op_assign rfl) trivial rfl ?_
 refine .nil ?_
 show Ev _ _ _ _ _
 refine .seq ?_
 refine .seq ?_
 refine .region ?_
 refine .q (op_move rfl) trivial rfl ?_
 refine .q (op_eqS rfl rfl rfl) trivial rfl ?_
 refine .q (op_move rfl) trivial rfl ?_
 refine .split (fun hg5 => ?_) (fun hg5 => ?_)
 ·simp only [bne_iff_ne, ne_eq] at hg5
  refine .q (op_move rfl) ⟨_, rfl, rfl⟩ rfl ?_
  refine .q (op_index_str Tryz.underlying9 rfl rfl rfl (by have := List.length_pos_iff.2 hg5; omega)) ⟨_, rfl, rfl⟩ rfl ?_
  refine .q (op_bin8 rfl rfl rfl) ⟨_, rfl, rfl⟩ rfl ?_
  refine .q (op_pick_true rfl rfl rfl) trivial rfl ?_
  refine .nil ?_
  show Ev _ _ _ _ _
  refine .cond rfl (fun hc9 => ?_) (fun hc9 => ?_)
  ·simp only [decide_eq_true_eq] at hc9
   refine .seq ?_
   refine .region ?_
   refine .q (op_move rfl) trivial rfl ?_
   refine .q (op_addS rfl rfl (by simp only [List.length_cons, List.length_nil]; omega)) trivial rfl ?_
   refine .q (op_assign rfl) trivial rfl ?_
   refine .nil ?_
   show Ev _ _ _ _ _
   refine .ret ?_
   show RetOk _ _ _ _ _ _ _
   exact ret1v rfl (.inl rfl) rfl (congrArg AV.str (by first | (simp [unsB, hg5]; done) | (simp [unsB, hg5]; omega) | (simp_all [unsB]; done))) trivial
  ·simp only [decide_eq_false_iff_not] at hc9
   refine .skip ?_
   show Ev _ _ _ _ _
   refine .seq ?_
   refine .region ?_
   refine .q (op_move rfl) trivial rfl ?_
   refine .q (op_assign rfl) trivial rfl ?_
   refine .nil ?_
   show Ev _ _ _ _ _
   refine .ret ?_
   show RetOk _ _ _ _ _ _ _
   exact ret1v rfl (.inl rfl) rfl (congrArg AV.str (by first | (simp [unsB, hg5]; done) | (simp [unsB, hg5]; omega) | (simp_all [unsB]; done))) trivial
 ·simp only [bne_eq_false_iff_eq] at hg5
  refine .no ⟨_, rfl, rfl⟩ rfl ?_
  refine .no ⟨_, rfl, rfl⟩ rfl ?_
  refine .no ⟨_, rfl, rfl⟩ rfl ?_
  refine .q (op_pick_false rfl rfl rfl) trivial rfl ?_
  refine .nil ?_
  show Ev _ _ _ _ _
  refine .cond_false rfl rfl ?_
  refine .skip ?_
  show Ev _ _ _ _ _
  refine .seq ?_
  refine .region ?_
  refine .q (op_move rfl) trivial rfl ?_
  refine .q (op_assign rfl) trivial rfl ?_
  refine .nil ?_
  show Ev _ _ _ _ _
  refine .ret ?_
  show RetOk _ _ _ _ _ _ _
  exact ret1v rfl (.inl rfl) rfl (congrArg AV.str (by first | (simp [unsB, hg5, hc9]; done) | (simp [unsB, hg5]; omega) | (simp_all [unsB]; done))) trivial
end Go.Proofs.YtdmlpblaelfdmaaGreatDoor
namespace Go.Proofs.YtdmlpblaelfdmaaGreatDoor
open Go.RowKit
/-- The last sz bytes of a number, of which j are written. -/
def numB (x : UInt64) (sz : Nat) : Nat → List UInt8
  | 0 => []
  | j + 1 => numB x sz j ++ [(x >>> UInt64.ofNat (8 * (sz - 1 - j))).toUInt8]
theorem length_numB (x : UInt64) (sz j : Nat) : (numB x sz j).length = j := by induction j with | zero => rfl | succ j ih => simp [numB, ih]
def lenB (s : List UInt8) : List UInt8 := numB (ofI32 (s.length : Int)).toUInt64 4 4
def textB (s : List UInt8) : List UInt8 := lenB s ++ s
theorem length_lenB (s : List UInt8) : (lenB s).length = 4 := length_numB _ _ _
theorem length_textB (s : List UInt8) : (textB s).length = 4 + s.length := by simp [textB, length_lenB]
def bigB (s : List UInt8) : List UInt8 := textB (unsB (shortB s))
set_option maxRecDepth 100000 in
theorem byte0_ev (c : UInt8) : Meets Tryz.prog 61 [.ptr 500 0, .u8 c] [(500, some ⟨.agg [.val (.pointer none), .nilsl], 82, true⟩)] (.ptr 500 0) [(500, some ⟨.agg [.ptr 500 0, .sl 1000 0 (1) 1], 82, true⟩), (1000, some ⟨.aggB ([c]), 5, true⟩)] := by
 refine meets_of_ev (nt := 11) Tryz.func61 rfl rfl (Nat.le_of_ble_eq_true rfl) ?_
 refine .seq ?_
 refine .region ?_
 refine .q (op_assign rfl) trivial rfl ?_
 refine .nil ?_
 show Ev _ _ _ _ _
 refine .seq ?_
 refine .region ?_
 refine .q (op_move rfl) trivial rfl ?_
 refine .q (op_nilCheck rfl) trivial rfl ?_
 refine .q (op_fieldAddr (m := 1) Tryz.underlying82 rfl (by kernel_rfl) rfl) trivial rfl ?_
 refine .as (.ptr 500 0) rfl ?_
 refine .q (op_move rfl) trivial rfl ?_
 refine .a (op_call (U := [(500, some ⟨.agg [.ptr 500 0, .sl 1000 0 (1) 1], 82, true⟩), (1000, some ⟨.aggB [c], 5, true⟩)]) [(500, 500)] [(1000, 1016)] (wb0_ev c) Tryz.func97 (by kernel_rfl) rfl rfl rfl (⟨⟨_, rfl, rfl, rfl⟩, ⟨_, rfl, rfl, rfl⟩, trivial⟩) (⟨⟨_, _, rfl, rfl, rfl, rfl, id, rfl⟩, trivial⟩) (⟨⟨500, _, rfl, rfl, rfl, rfl, .inr ⟨rfl, _, rfl, rfl⟩⟩, ⟨1016, _, rfl, rfl, rfl, rfl, .inl rfl⟩, trivial⟩) (⟨(fun _ => ⟨500, _, rfl, rfl⟩), trivial⟩) rfl) trivial rfl ?_
 refine .nil ?_
 show Ev _ _ _ _ _
 refine .seq ?_
 refine .region ?_
 refine .q (op_move rfl) trivial rfl ?_
 refine .q (op_assign rfl) trivial rfl ?_
 refine .nil ?_
 show Ev _ _ _ _ _
 refine .ret ?_
 show RetOk _ _ _ _ _ _ _
 exact ret1v rfl (.inl rfl) rfl rfl ⟨(by first | rfl | (simp only [List.append_assoc, Nat.add_assoc, textB, bigB]; rfl)), (by first | rfl | (simp only [List.append_assoc, Nat.add_assoc, textB, bigB]; rfl)), trivial⟩
set_option maxRecDepth 100000 in
theorem byte2_ev (c : UInt8) (l : List UInt8) (n : Nat) (hn : n = l.length) (h : n ≤ 900000000) : Meets Tryz.prog 61 [.ptr 500 0, .u8 c] [(500, some ⟨.agg [.ptr 500 0, .sl 501 0 (n) 1], 82, true⟩), (501, some ⟨.aggB l, 5, true⟩)] (.ptr 500 0) [(500, some ⟨.agg [.ptr 500 0, .sl 1000 0 (n + 1) 1], 82, true⟩), (1000, some ⟨.aggB (l ++ [c]), 5, true⟩)] := by
 refine meets_of_ev (nt := 11) Tryz.func61 rfl rfl (Nat.le_of_ble_eq_true rfl) ?_
 refine .seq ?_
 refine .region ?_
 refine .q (op_assign rfl) trivial rfl ?_
 refine .nil ?_
 show Ev _ _ _ _ _
 refine .seq ?_
 refine .region ?_
 refine .q (op_move rfl) trivial rfl ?_
 refine .q (op_nilCheck rfl) trivial rfl ?_
 refine .q (op_fieldAddr (m := 1) Tryz.underlying82 rfl (by kernel_rfl) rfl) trivial rfl ?_
 refine .as (.ptr 500 0) rfl ?_
 refine .q (op_move rfl) trivial rfl ?_
 refine .a (op_call (U := [(500, some ⟨.agg [.ptr 500 0, .sl 1000 0 (n + 1) 1], 82, true⟩), (1000, some ⟨.aggB (l ++ [c]), 5, true⟩), (501, none)]) [(500, 500), (501, 501)] [(1000, 1008)] (wb2_ev l n hn (by omega) c) Tryz.func97 (by kernel_rfl) rfl rfl rfl (⟨⟨_, rfl, rfl, rfl⟩, ⟨_, rfl, rfl, rfl⟩, trivial⟩) (⟨⟨_, _, rfl, rfl, rfl, rfl, id, rfl⟩, ⟨_, _, rfl, rfl, rfl, rfl, id, rfl⟩, trivial⟩) (⟨⟨500, _, rfl, rfl, rfl, rfl, .inr ⟨rfl, _, rfl, rfl⟩⟩, ⟨1008, _, rfl, rfl, rfl, rfl, .inl rfl⟩, trivial⟩) (⟨(fun _ => ⟨500, _, rfl, rfl⟩), (fun _ => ⟨501, _, rfl, rfl⟩), trivial⟩) rfl) trivial rfl ?_
 refine .nil ?_
 show Ev _ _ _ _ _
 refine .seq ?_
 refine .region ?_
 refine .q (op_move rfl) trivial rfl ?_
 refine .q (op_assign rfl) trivial rfl ?_
 refine .nil ?_
 show Ev _ _ _ _ _
 refine .ret ?_
 show RetOk _ _ _ _ _ _ _
 exact ret1v rfl (.inl rfl) rfl rfl ⟨(by first | rfl | (simp only [List.append_assoc, Nat.add_assoc, textB, bigB]; rfl)), (by first | rfl | (simp only [List.append_assoc, Nat.add_assoc, textB, bigB]; rfl)), trivial⟩
set_option maxRecDepth 100000 in
theorem raw2_ev (s : List UInt8) (hs : s.length ≤ 900000000) (l : List UInt8) (n : Nat) (hn : n = l.length) (h : n ≤ 900000000) : Meets Tryz.prog 62 [.ptr 500 0, .str s] [(500, some ⟨.agg [.ptr 500 0, .sl 501 0 (n) 1], 82, true⟩), (501, some ⟨.aggB l, 5, true⟩)] (.ptr 500 0) [(500, some ⟨.agg [.ptr 500 0, .sl 1000 0 (n + s.length) 1], 82, true⟩), (1000, some ⟨.aggB (l ++ s), 5, true⟩)] := by
 refine meets_of_ev (nt := 11) Tryz.func62 rfl rfl (Nat.le_of_ble_eq_true rfl) ?_
 refine .seq ?_
 refine .region ?_
 refine .q (op_assign rfl) trivial rfl ?_
 refine .nil ?_
 show Ev _ _ _ _ _
 refine .seq ?_
 refine .region ?_
 refine .q (op_move rfl) trivial rfl ?_
 refine .q (op_nilCheck rfl) trivial rfl ?_
 refine .q (op_fieldAddr (m := 1) Tryz.underlying82 rfl (by kernel_rfl) rfl) trivial rfl ?_
 refine .as (.ptr 500 0) rfl ?_
 refine .q (op_move rfl) trivial rfl ?_
 refine .a (op_call (U := [(500, some ⟨.agg [.ptr 500 0, .sl 1000 0 (n + s.length) 1], 82, true⟩), (1000, some ⟨.aggB (l ++ s), 5, true⟩), (501, none)]) [(500, 500), (501, 501)] [(1000, 1000)] (ws2_ev l n hn (by omega) s (by omega)) Tryz.func98 (by kernel_rfl) rfl rfl rfl (⟨⟨_, rfl, rfl, rfl⟩, ⟨_, rfl, rfl, rfl⟩, trivial⟩) (⟨⟨_, _, rfl, rfl, rfl, rfl, id, rfl⟩, ⟨_, _, rfl, rfl, rfl, rfl, id, rfl⟩, trivial⟩) (⟨⟨500, _, rfl, rfl, rfl, rfl, .inr ⟨rfl, _, rfl, rfl⟩⟩, ⟨1000, _, rfl, rfl, rfl, rfl, .inl rfl⟩, trivial⟩) (⟨(fun _ => ⟨500, _, rfl, rfl⟩), (fun _ => ⟨501, _, rfl, rfl⟩), trivial⟩) rfl) trivial rfl ?_
 refine .nil ?_
 show Ev _ _ _ _ _
 refine .seq ?_
 refine .region ?_
 refine .q (op_move rfl) trivial rfl ?_
 refine .q (op_assign rfl) trivial rfl ?_
 refine .nil ?_
 show Ev _ _ _ _ _
 refine .ret ?_
 show RetOk _ _ _ _ _ _ _
 exact ret1v rfl (.inl rfl) rfl rfl ⟨(by first | rfl | (simp only [List.append_assoc, Nat.add_assoc, textB, bigB]; rfl)), (by first | rfl | (simp only [List.append_assoc, Nat.add_assoc, textB, bigB]; rfl)), trivial⟩
set_option maxRecDepth 100000 in
theorem num0_ev (x : UInt64) (sz : Nat) (h0 : 1 ≤ sz) (h8 : sz ≤ 8) : Meets Tryz.prog 64 [.ptr 500 0, .u64 x, .i64 (sz : Int)] [(500, some ⟨.agg [.val (.pointer none), .nilsl], 82, true⟩)] (.ptr 500 0) [(500, some ⟨.agg [.ptr 500 0, .sl 1000 0 (sz) 1], 82, true⟩), (1000, some ⟨.aggB (numB x sz sz), 5, true⟩)] := by
 refine meets_of_ev (nt := 24) Tryz.func64 rfl rfl (Nat.le_of_ble_eq_true rfl) ?_
 refine .seq ?_
 refine .region ?_
 refine .q (op_assign rfl) trivial rfl ?_
 refine .nil ?_
 show Ev _ _ _ _ _
 refine .seq ?_
 refine .seq ?_
 refine .region ?_
 refine .q (op_move rfl) trivial rfl ?_
 refine .q (op_move rfl) trivial rfl ?_
 refine .nil ?_
 show Ev _ _ _ _ _
 refine .block ?_
 refine Ev.loop (ι := Option { j : Nat // 1 ≤ j ∧ j ≤ sz }) (fun q => match q with | none => ⟨[(0, .ptr 500 0), (1, .u64 x), (2, .i64 (sz : Int)), (8, .i64 (sz : Int)), (9, .i64 0)], [(500, some ⟨.agg [.val (.pointer none), .nilsl], 82, true⟩)], 1000⟩ | some q => ⟨[(0, .ptr 500 0), (1, .u64 x), (2, .i64 (sz : Int)), (8, .i64 (sz : Int)), (9, .i64 ((q.1 : Nat) : Int))], [(500, some ⟨.agg [.ptr 500 0, .sl 1000 0 (q.1) 1], 82, true⟩), (1000, some ⟨.aggB (numB x sz (q.1)), 5, true⟩)], 1008⟩) (fun q => match q with | none => sz | some q => sz - q.1) none (StLe.mk [] rfl rfl ⟨⟨_, rfl, by first | rfl | (simp only [AV.ren]; congr 1; omega), rfl⟩, ⟨_, rfl, by first | rfl | (simp only [AV.ren]; congr 1; omega), rfl⟩, ⟨_, rfl, by first | rfl | (simp only [AV.ren]; congr 1; omega), rfl⟩, ⟨_, rfl, by first | rfl | (simp only [AV.ren]; congr 1; omega), rfl⟩, ⟨_, rfl, by first | rfl | (simp only [AV.ren]; congr 1; omega), rfl⟩, trivial⟩ ⟨⟨_, _, rfl, rfl, rfl, rfl, id, rfl⟩, trivial⟩) ?_
 rintro (_ | ⟨j, hj⟩)
 ·try dsimp only
  refine .seq ?_
  refine .region ?_
  refine .q (op_cmpI rfl rfl rfl) trivial rfl ?_
  refine .nil ?_
  show Ev _ _ _ _ _
  refine .seq ?_
  refine .cond_true rfl (decide_eq_true (by omega)) ?_
  refine .skip ?_
  show Ev _ _ _ _ _
  refine .seq ?_
  refine .block ?_
  refine .seq ?_
  refine .region ?_
  refine .q (op_move rfl) trivial rfl ?_
  refine .q (op_assign rfl) trivial rfl ?_
  refine .nil ?_
  show Ev _ _ _ _ _
  refine .region ?_
  refine .q (op_move rfl) trivial rfl ?_
  refine .q (op_move rfl) trivial rfl ?_
  refine .q (op_move rfl) trivial rfl ?_
  refine .q (op_subI rfl rfl ⟨by omega, by omega⟩) trivial rfl ?_
  refine .q (op_move rfl) trivial rfl ?_
  refine .q (op_subI rfl rfl ⟨by omega, by omega⟩) trivial rfl ?_
  refine .q (op_mulI rfl rfl ⟨by omega, by omega⟩) trivial rfl ?_
  refine .q (op_shr64 (n := 8 * (sz - 1 - 0)) rfl rfl (by simp only [shiftBy]; rw [show (8 : Int) * ((sz : Int) - 1 - 0) = ((8 * (sz - 1 - 0) : Nat) : Int) by omega]) (by omega)) trivial rfl ?_
  refine .q (op_conv Tryz.underlying25 Tryz.underlying5 rfl rfl) trivial rfl ?_
  refine .a (op_call (U := [(500, some ⟨.agg [.ptr 500 0, .sl 1000 0 (1) 1], 82, true⟩), (1000, some ⟨.aggB ([(x >>> UInt64.ofNat (8 * (sz - 1 - 0))).toUInt8]), 5, true⟩)]) [(500, 500)] [(1000, 1000)] (byte0_ev ((x >>> UInt64.ofNat (8 * (sz - 1 - 0))).toUInt8)) Tryz.func61 (by kernel_rfl) rfl rfl rfl (⟨⟨_, rfl, rfl, rfl⟩, ⟨_, rfl, rfl, rfl⟩, trivial⟩) (⟨⟨_, _, rfl, rfl, rfl, rfl, id, rfl⟩, trivial⟩) (⟨⟨500, _, rfl, rfl, rfl, rfl, .inr ⟨rfl, _, rfl, rfl⟩⟩, ⟨1000, _, rfl, rfl, rfl, rfl, .inl rfl⟩, trivial⟩) (⟨(fun _ => ⟨500, _, rfl, rfl⟩), trivial⟩) rfl) trivial rfl ?_
  refine .nil ?_
  show Ev _ _ _ _ _
  refine .region ?_
  refine .q (op_addI rfl rfl ⟨by omega, by omega⟩) trivial rfl ?_
  refine .q (op_move rfl) trivial rfl ?_
  refine .nil ?_
  exact ⟨some ⟨1, by omega⟩, by show sz - 1 < sz; omega, StLe.mk [(1000, 1000)] rfl rfl ⟨⟨_, rfl, by first | rfl | (simp only [AV.ren]; congr 1; omega), rfl⟩, ⟨_, rfl, by first | rfl | (simp only [AV.ren]; congr 1; omega), rfl⟩, ⟨_, rfl, by first | rfl | (simp only [AV.ren]; congr 1; omega), rfl⟩, ⟨_, rfl, by first | rfl | (simp only [AV.ren]; congr 1; omega), rfl⟩, ⟨_, rfl, by first | rfl | (simp only [AV.ren]; congr 1; omega), rfl⟩, trivial⟩ ⟨⟨_, _, rfl, rfl, rfl, rfl, id, rfl⟩, ⟨_, _, rfl, rfl, rfl, rfl, id, rfl⟩, trivial⟩⟩
 ·try dsimp only
  refine .seq ?_
  refine .region ?_
  refine .q (op_cmpI rfl rfl rfl) trivial rfl ?_
  refine .nil ?_
  show Ev _ _ _ _ _
  refine .seq ?_
  refine .cond rfl (fun hc10 => ?_) (fun hc10 => ?_)
  ·simp only [decide_eq_true_eq] at hc10
   refine .skip ?_
   show Ev _ _ _ _ _
   refine .seq ?_
   refine .block ?_
   refine .seq ?_
   refine .region ?_
   refine .q (op_move rfl) trivial rfl ?_
   refine .q (op_assign rfl) trivial rfl ?_
   refine .nil ?_
   show Ev _ _ _ _ _
   refine .region ?_
   refine .q (op_move rfl) trivial rfl ?_
   refine .q (op_move rfl) trivial rfl ?_
   refine .q (op_move rfl) trivial rfl ?_
   refine .q (op_subI rfl rfl ⟨by omega, by omega⟩) trivial rfl ?_
   refine .q (op_move rfl) trivial rfl ?_
   refine .q (op_subI rfl rfl ⟨by omega, by omega⟩) trivial rfl ?_
   refine .q (op_mulI rfl rfl ⟨by omega, by omega⟩) trivial rfl ?_
   refine .q (op_shr64 (n := 8 * (sz - 1 - j)) rfl rfl (by simp only [shiftBy]; rw [show (8 : Int) * ((sz : Int) - 1 - (j : Int)) = ((8 * (sz - 1 - j) : Nat) : Int) by omega]) (by omega)) trivial rfl ?_
   refine .q (op_conv Tryz.underlying25 Tryz.underlying5 rfl rfl) trivial rfl ?_
   refine .a (op_call (U := [(500, some ⟨.agg [.ptr 500 0, .sl 1008 0 (j + 1) 1], 82, true⟩), (1008, some ⟨.aggB ((numB x sz j) ++ [(x >>> UInt64.ofNat (8 * (sz - 1 - j))).toUInt8]), 5, true⟩), (1000, none)]) [(500, 500), (501, 1000)] [(1008, 1000)] (byte2_ev ((x >>> UInt64.ofNat (8 * (sz - 1 - j))).toUInt8) ((numB x sz j)) (j) (by first | exact hn | (simp [length_numB]; done) | (simp [length_numB, length_lenB, length_textB]; omega) | omega | decide +kernel) (by omega)) Tryz.func61 (by kernel_rfl) rfl rfl rfl (⟨⟨_, rfl, rfl, rfl⟩, ⟨_, rfl, rfl, rfl⟩, trivial⟩) (⟨⟨_, _, rfl, rfl, rfl, rfl, id, rfl⟩, ⟨_, _, rfl, rfl, rfl, rfl, id, rfl⟩, trivial⟩) (⟨⟨500, _, rfl, rfl, rfl, rfl, .inr ⟨rfl, _, rfl, rfl⟩⟩, ⟨1000, _, rfl, rfl, rfl, rfl, .inl rfl⟩, trivial⟩) (⟨(fun _ => ⟨500, _, rfl, rfl⟩), (fun _ => ⟨1000, _, rfl, rfl⟩), trivial⟩) rfl) trivial rfl ?_
   refine .nil ?_
   show Ev _ _ _ _ _
   refine .region ?_
   refine .q (op_addI rfl rfl ⟨by omega, by omega⟩) trivial rfl ?_
   refine .q (op_move rfl) trivial rfl ?_
   refine .nil ?_
   exact ⟨some ⟨j + 1, by omega⟩, by show sz - (j + 1) < sz - j; omega, StLe.mk [(1000, 1008)] rfl rfl ⟨⟨_, rfl, by first | rfl | (simp only [AV.ren]; congr 1; omega), rfl⟩, ⟨_, rfl, by first | rfl | (simp only [AV.ren]; congr 1; omega), rfl⟩, ⟨_, rfl, by first | rfl | (simp only [AV.ren]; congr 1; omega), rfl⟩, ⟨_, rfl, by first | rfl | (simp only [AV.ren]; congr 1; omega), rfl⟩, ⟨_, rfl, by first | rfl | (simp only [AV.ren]; congr 1; omega), rfl⟩, trivial⟩ ⟨⟨_, _, rfl, rfl, rfl, rfl, id, rfl⟩, ⟨_, _, rfl, rfl, by (simp only [AV.ren, numB]; done), rfl, id, rfl⟩, trivial⟩⟩
  ·simp only [decide_eq_false_iff_not] at hc10
   refine .exit ?_
   show Ev _ _ _ _ _
   refine .seq ?_
   refine .region ?_
   refine .q (op_move rfl) trivial rfl ?_
   refine .q (op_assign rfl) trivial rfl ?_
   refine .nil ?_
   show Ev _ _ _ _ _
   refine .ret ?_
   show RetOk _ _ _ _ _ _ _
   have ej : j = sz := by omega
   subst ej
   exact ret1v rfl (.inl rfl) rfl rfl ⟨rfl, rfl, trivial⟩
set_option maxRecDepth 100000 in
theorem num2_ev (x : UInt64) (sz : Nat) (h0 : 1 ≤ sz) (h8 : sz ≤ 8) (l : List UInt8) (n : Nat) (hn : n = l.length) (h : n ≤ 800000000) : Meets Tryz.prog 64 [.ptr 500 0, .u64 x, .i64 (sz : Int)] [(500, some ⟨.agg [.ptr 500 0, .sl 501 0 (n) 1], 82, true⟩), (501, some ⟨.aggB l, 5, true⟩)] (.ptr 500 0) [(500, some ⟨.agg [.ptr 500 0, .sl 1000 0 (n + sz) 1], 82, true⟩), (1000, some ⟨.aggB (l ++ numB x sz sz), 5, true⟩)] := by
 refine meets_of_ev (nt := 24) Tryz.func64 rfl rfl (Nat.le_of_ble_eq_true rfl) ?_
 refine .seq ?_
 refine .region ?_
 refine .q (op_assign rfl) trivial rfl ?_
 refine .nil ?_
 show Ev _ _ _ _ _
 refine .seq ?_
 refine .seq ?_
 refine .region ?_
 refine .q (op_move rfl) trivial rfl ?_
 refine .q (op_move rfl) trivial rfl ?_
 refine .nil ?_
 show Ev _ _ _ _ _
 refine .block ?_
 refine Ev.loop (ι := Option { j : Nat // 1 ≤ j ∧ j ≤ sz }) (fun q => match q with | none => ⟨[(0, .ptr 500 0), (1, .u64 x), (2, .i64 (sz : Int)), (8, .i64 (sz : Int)), (9, .i64 0)], [(500, some ⟨.agg [.ptr 500 0, .sl 501 0 (n) 1], 82, true⟩), (501, some ⟨.aggB l, 5, true⟩)], 1000⟩ | some q => ⟨[(0, .ptr 500 0), (1, .u64 x), (2, .i64 (sz : Int)), (8, .i64 (sz : Int)), (9, .i64 ((q.1 : Nat) : Int))], [(500, some ⟨.agg [.ptr 500 0, .sl 1000 0 (n + q.1) 1], 82, true⟩), (1000, some ⟨.aggB (l ++ numB x sz (q.1)), 5, true⟩)], 1008⟩) (fun q => match q with | none => sz | some q => sz - q.1) none (StLe.mk [] rfl rfl ⟨⟨_, rfl, by first | rfl | (simp only [AV.ren]; congr 1; omega), rfl⟩, ⟨_, rfl, by first | rfl | (simp only [AV.ren]; congr 1; omega), rfl⟩, ⟨_, rfl, by first | rfl | (simp only [AV.ren]; congr 1; omega), rfl⟩, ⟨_, rfl, by first | rfl | (simp only [AV.ren]; congr 1; omega), rfl⟩, ⟨_, rfl, by first | rfl | (simp only [AV.ren]; congr 1; omega), rfl⟩, trivial⟩ ⟨⟨_, _, rfl, rfl, rfl, rfl, id, rfl⟩, ⟨_, _, rfl, rfl, rfl, rfl, id, rfl⟩, trivial⟩) ?_
 rintro (_ | ⟨j, hj⟩)
 ·try dsimp only
  refine .seq ?_
  refine .region ?_
  refine .q (op_cmpI rfl rfl rfl) trivial rfl ?_
  refine .nil ?_
  show Ev _ _ _ _ _
  refine .seq ?_
  refine .cond_true rfl (decide_eq_true (by omega)) ?_
  refine .skip ?_
  show Ev _ _ _ _ _
  refine .seq ?_
  refine .block ?_
  refine .seq ?_
  refine .region ?_
  refine .q (op_move rfl) trivial rfl ?_
  refine .q (op_assign rfl) trivial rfl ?_
  refine .nil ?_
  show Ev _ _ _ _ _
  refine .region ?_
  refine .q (op_move rfl) trivial rfl ?_
  refine .q (op_move rfl) trivial rfl ?_
  refine .q (op_move rfl) trivial rfl ?_
  refine .q (op_subI rfl rfl ⟨by omega, by omega⟩) trivial rfl ?_
  refine .q (op_move rfl) trivial rfl ?_
  refine .q (op_subI rfl rfl ⟨by omega, by omega⟩) trivial rfl ?_
  refine .q (op_mulI rfl rfl ⟨by omega, by omega⟩) trivial rfl ?_
  refine .q (op_shr64 (n := 8 * (sz - 1 - 0)) rfl rfl (by simp only [shiftBy]; rw [show (8 : Int) * ((sz : Int) - 1 - 0) = ((8 * (sz - 1 - 0) : Nat) : Int) by omega]) (by omega)) trivial rfl ?_
  refine .q (op_conv Tryz.underlying25 Tryz.underlying5 rfl rfl) trivial rfl ?_
  refine .a (op_call (U := [(500, some ⟨.agg [.ptr 500 0, .sl 1000 0 (n + 1) 1], 82, true⟩), (1000, some ⟨.aggB (l ++ [(x >>> UInt64.ofNat (8 * (sz - 1 - 0))).toUInt8]), 5, true⟩), (501, none)]) [(500, 500), (501, 501)] [(1000, 1000)] (byte2_ev ((x >>> UInt64.ofNat (8 * (sz - 1 - 0))).toUInt8) (l) (n) (by first | exact hn | (simp [length_numB, length_lenB, length_textB]; done) | (simp [length_numB, length_lenB, length_textB]; omega) | omega | decide +kernel) (by omega)) Tryz.func61 (by kernel_rfl) rfl rfl rfl (⟨⟨_, rfl, rfl, rfl⟩, ⟨_, rfl, rfl, rfl⟩, trivial⟩) (⟨⟨_, _, rfl, rfl, rfl, rfl, id, rfl⟩, ⟨_, _, rfl, rfl, rfl, rfl, id, rfl⟩, trivial⟩) (⟨⟨500, _, rfl, rfl, rfl, rfl, .inr ⟨rfl, _, rfl, rfl⟩⟩, ⟨1000, _, rfl, rfl, rfl, rfl, .inl rfl⟩, trivial⟩) (⟨(fun _ => ⟨500, _, rfl, rfl⟩), (fun _ => ⟨501, _, rfl, rfl⟩), trivial⟩) rfl) trivial rfl ?_
  refine .nil ?_
  show Ev _ _ _ _ _
  refine .region ?_
  refine .q (op_addI rfl rfl ⟨by omega, by omega⟩) trivial rfl ?_
  refine .q (op_move rfl) trivial rfl ?_
  refine .nil ?_
  exact ⟨some ⟨1, by omega⟩, by show sz - 1 < sz; omega, StLe.mk [(1000, 1000)] rfl rfl ⟨⟨_, rfl, by first | rfl | (simp only [AV.ren]; congr 1; omega), rfl⟩, ⟨_, rfl, by first | rfl | (simp only [AV.ren]; congr 1; omega), rfl⟩, ⟨_, rfl, by first | rfl | (simp only [AV.ren]; congr 1; omega), rfl⟩, ⟨_, rfl, by first | rfl | (simp only [AV.ren]; congr 1; omega), rfl⟩, ⟨_, rfl, by first | rfl | (simp only [AV.ren]; congr 1; omega), rfl⟩, trivial⟩ ⟨⟨_, _, rfl, rfl, rfl, rfl, id, rfl⟩, ⟨_, _, rfl, rfl, rfl, rfl, id, rfl⟩, trivial⟩⟩
 ·try dsimp only
  refine .seq ?_
  refine .region ?_
  refine .q (op_cmpI rfl rfl rfl) trivial rfl ?_
  refine .nil ?_
  show Ev _ _ _ _ _
  refine .seq ?_
  refine .cond rfl (fun hc10 => ?_) (fun hc10 => ?_)
  ·simp only [decide_eq_true_eq] at hc10
   refine .skip ?_
   show Ev _ _ _ _ _
   refine .seq ?_
   refine .block ?_
   refine .seq ?_
   refine .region ?_
   refine .q (op_move rfl) trivial rfl ?_
   refine .q (op_assign rfl) trivial rfl ?_
   refine .nil ?_
   show Ev _ _ _ _ _
   refine .region ?_
   refine .q (op_move rfl) trivial rfl ?_
   refine .q (op_move rfl) trivial rfl ?_
   refine .q (op_move rfl) trivial rfl ?_
   refine .q (op_subI rfl rfl ⟨by omega, by omega⟩) trivial rfl ?_
   refine .q (op_move rfl) trivial rfl ?_
   refine .q (op_subI rfl rfl ⟨by omega, by omega⟩) trivial rfl ?_
   refine .q (op_mulI rfl rfl ⟨by omega, by omega⟩) trivial rfl ?_
   refine .q (op_shr64 (n := 8 * (sz - 1 - j)) rfl rfl (by simp only [shiftBy]; rw [show (8 : Int) * ((sz : Int) - 1 - (j : Int)) = ((8 * (sz - 1 - j) : Nat) : Int) by omega]) (by omega)) trivial rfl ?_
   refine .q (op_conv Tryz.underlying25 Tryz.underlying5 rfl rfl) trivial rfl ?_
   refine .a (op_call (U := [(500, some ⟨.agg [.ptr 500 0, .sl 1008 0 (n + j + 1) 1], 82, true⟩), (1008, some ⟨.aggB ((l ++ numB x sz j) ++ [(x >>> UInt64.ofNat (8 * (sz - 1 - j))).toUInt8]), 5, true⟩), (1000, none)]) [(500, 500), (501, 1000)] [(1008, 1000)] (byte2_ev ((x >>> UInt64.ofNat (8 * (sz - 1 - j))).toUInt8) ((l ++ numB x sz j)) (n + j) (by first | exact hn | (simp [length_numB]; done) | (simp [length_numB]; omega) | omega | decide +kernel) (by omega)) Tryz.func61 (by kernel_rfl) rfl rfl rfl (⟨⟨_, rfl, rfl, rfl⟩, ⟨_, rfl, rfl, rfl⟩, trivial⟩) (⟨⟨_, _, rfl, rfl, rfl, rfl, id, rfl⟩, ⟨_, _, rfl, rfl, rfl, rfl, id, rfl⟩, trivial⟩) (⟨⟨500, _, rfl, rfl, rfl, rfl, .inr ⟨rfl, _, rfl, rfl⟩⟩, ⟨1000, _, rfl, rfl, rfl, rfl, .inl rfl⟩, trivial⟩) (⟨(fun _ => ⟨500, _, rfl, rfl⟩), (fun _ => ⟨1000, _, rfl, rfl⟩), trivial⟩) rfl) trivial rfl ?_
   refine .nil ?_
   show Ev _ _ _ _ _
   refine .region ?_
   refine .q (op_addI rfl rfl ⟨by omega, by omega⟩) trivial rfl ?_
   refine .q (op_move rfl) trivial rfl ?_
   refine .nil ?_
   exact ⟨some ⟨j + 1, by omega⟩, by show sz - (j + 1) < sz - j; omega, StLe.mk [(1000, 1008)] rfl rfl ⟨⟨_, rfl, by first | rfl | (simp only [AV.ren]; congr 1; omega), rfl⟩, ⟨_, rfl, by first | rfl | (simp only [AV.ren]; congr 1; omega), rfl⟩, ⟨_, rfl, by first | rfl | (simp only [AV.ren]; congr 1; omega), rfl⟩, ⟨_, rfl, by first | rfl | (simp only [AV.ren]; congr 1; omega), rfl⟩, ⟨_, rfl, by first | rfl | (simp only [AV.ren]; congr 1; omega), rfl⟩, trivial⟩ ⟨⟨_, _, rfl, rfl, rfl, rfl, id, rfl⟩, ⟨_, _, rfl, rfl, by (simp only [AV.ren, numB, List.append_assoc]; done), rfl, id, rfl⟩, trivial⟩⟩
  ·simp only [decide_eq_false_iff_not] at hc10
   refine .exit ?_
   show Ev _ _ _ _ _
   refine .seq ?_
   refine .region ?_
   refine .q (op_move rfl) trivial rfl ?_
   refine .q (op_assign rfl) trivial rfl ?_
   refine .nil ?_
   show Ev _ _ _ _ _
   refine .ret ?_
   show RetOk _ _ _ _ _ _ _
   have ej : j = sz := by omega
   subst ej
   exact ret1v rfl (.inl rfl) rfl rfl ⟨rfl, rfl, trivial⟩
set_option maxRecDepth 100000 in
theorem u320_ev (x : UInt32) : Meets Tryz.prog 36 [.ptr 500 0, .u32 x] [(500, some ⟨.agg [.val (.pointer none), .nilsl], 82, true⟩)] (.ptr 500 0) [(500, some ⟨.agg [.ptr 500 0, .sl 1000 0 (4) 1], 82, true⟩), (1000, some ⟨.aggB (numB x.toUInt64 4 4), 5, true⟩)] := by
 refine meets_of_ev (nt := 9) Tryz.func36 rfl rfl (Nat.le_of_ble_eq_true rfl) ?_
 refine .seq ?_
 refine .region ?_
 refine .q (op_assign rfl) trivial rfl ?_
 refine .nil ?_
 show Ev _ _ _ _ _
 refine .seq ?_
 refine .region ?_
 refine .q (op_move rfl) trivial rfl ?_
 refine .q (op_move rfl) trivial rfl ?_
 refine .q (op_conv Tryz.underlying85 Tryz.underlying25 rfl rfl) trivial rfl ?_
 refine .a (op_call (U := [(500, some ⟨.agg [.ptr 500 0, .sl 1000 0 (4) 1], 82, true⟩), (1000, some ⟨.aggB (numB x.toUInt64 4 4), 5, true⟩)]) [(500, 500)] [(1000, 1000)] (num0_ev x.toUInt64 4 (by decide) (by decide)) Tryz.func64 (by kernel_rfl) rfl rfl rfl (⟨⟨_, rfl, rfl, rfl⟩, ⟨_, rfl, rfl, rfl⟩, ⟨_, rfl, rfl, rfl⟩, trivial⟩) (⟨⟨_, _, rfl, rfl, rfl, rfl, id, rfl⟩, trivial⟩) (⟨⟨500, _, rfl, rfl, rfl, rfl, .inr ⟨rfl, _, rfl, rfl⟩⟩, ⟨1000, _, rfl, rfl, rfl, rfl, .inl rfl⟩, trivial⟩) (⟨(fun _ => ⟨500, _, rfl, rfl⟩), trivial⟩) rfl) trivial rfl ?_
 refine .q (op_assign rfl) trivial rfl ?_
 refine .nil ?_
 show Ev _ _ _ _ _
 refine .ret ?_
 show RetOk _ _ _ _ _ _ _
 exact ret1v rfl (.inl rfl) rfl rfl ⟨(by first | rfl | (simp only [List.append_assoc, Nat.add_assoc, textB, bigB]; rfl)), (by first | rfl | (simp only [List.append_assoc, Nat.add_assoc, textB, bigB]; rfl)), trivial⟩
set_option maxRecDepth 100000 in
theorem u322_ev (x : UInt32) (l : List UInt8) (n : Nat) (hn : n = l.length) (h : n ≤ 700000000) : Meets Tryz.prog 36 [.ptr 500 0, .u32 x] [(500, some ⟨.agg [.ptr 500 0, .sl 501 0 (n) 1], 82, true⟩), (501, some ⟨.aggB l, 5, true⟩)] (.ptr 500 0) [(500, some ⟨.agg [.ptr 500 0, .sl 1000 0 (n + 4) 1], 82, true⟩), (1000, some ⟨.aggB (l ++ numB x.toUInt64 4 4), 5, true⟩)] := by
 refine meets_of_ev (nt := 9) Tryz.func36 rfl rfl (Nat.le_of_ble_eq_true rfl) ?_
 refine .seq ?_
 refine .region ?_
 refine .q (op_assign rfl) trivial rfl ?_
 refine .nil ?_
 show Ev _ _ _ _ _
 refine .seq ?_
 refine .region ?_
 refine .q (op_move rfl) trivial rfl ?_
 refine .q (op_move rfl) trivial rfl ?_
 refine .q (op_conv Tryz.underlying85 Tryz.underlying25 rfl rfl) trivial rfl ?_
 refine .a (op_call (U := [(500, some ⟨.agg [.ptr 500 0, .sl 1000 0 (n + 4) 1], 82, true⟩), (1000, some ⟨.aggB (l ++ numB x.toUInt64 4 4), 5, true⟩), (501, none)]) [(500, 500), (501, 501)] [(1000, 1000)] (num2_ev x.toUInt64 4 (by decide) (by decide) (l) (n) (by first | exact hn | (simp [length_numB, length_lenB, length_textB]; done) | (simp [length_numB, length_lenB, length_textB]; omega) | omega | decide +kernel) (by omega)) Tryz.func64 (by kernel_rfl) rfl rfl rfl (⟨⟨_, rfl, rfl, rfl⟩, ⟨_, rfl, rfl, rfl⟩, ⟨_, rfl, rfl, rfl⟩, trivial⟩) (⟨⟨_, _, rfl, rfl, rfl, rfl, id, rfl⟩, ⟨_, _, rfl, rfl, rfl, rfl, id, rfl⟩, trivial⟩) (⟨⟨500, _, rfl, rfl, rfl, rfl, .inr ⟨rfl, _, rfl, rfl⟩⟩, ⟨1000, _, rfl, rfl, rfl, rfl, .inl rfl⟩, trivial⟩) (⟨(fun _ => ⟨500, _, rfl, rfl⟩), (fun _ => ⟨501, _, rfl, rfl⟩), trivial⟩) rfl) trivial rfl ?_
 refine .q (op_assign rfl) trivial rfl ?_
 refine .nil ?_
 show Ev _ _ _ _ _
 refine .ret ?_
 show RetOk _ _ _ _ _ _ _
 exact ret1v rfl (.inl rfl) rfl rfl ⟨(by first | rfl | (simp only [List.append_assoc, Nat.add_assoc, textB, bigB]; rfl)), (by first | rfl | (simp only [List.append_assoc, Nat.add_assoc, textB, bigB]; rfl)), trivial⟩
set_option maxRecDepth 100000 in
theorem text0_ev (s : List UInt8) (hs : s.length ≤ 100000000) : Meets Tryz.prog 48 [.ptr 500 0, .str s] [(500, some ⟨.agg [.val (.pointer none), .nilsl], 82, true⟩)] (.ptr 500 0) [(500, some ⟨.agg [.ptr 500 0, .sl 1008 0 ((4 + s.length)) 1], 82, true⟩), (1008, some ⟨.aggB (textB s), 5, true⟩)] := by
 refine meets_of_ev (nt := 12) Tryz.func48 rfl rfl (Nat.le_of_ble_eq_true rfl) ?_
 refine .seq ?_
 refine .region ?_
 refine .q (op_assign rfl) trivial rfl ?_
 refine .nil ?_
 show Ev _ _ _ _ _
 refine .seq ?_
 refine .region ?_
 refine .q (op_move rfl) trivial rfl ?_
 refine .q (op_move rfl) trivial rfl ?_
 refine .q (op_len_str Tryz.underlying9 rfl) trivial rfl ?_
 refine .q (op_conv Tryz.underlying3 Tryz.underlying85 rfl rfl) trivial rfl ?_
 refine .a (op_call (U := [(500, some ⟨.agg [.ptr 500 0, .sl 1000 0 (4) 1], 82, true⟩), (1000, some ⟨.aggB (lenB s), 5, true⟩)]) [(500, 500)] [(1000, 1000)] (u320_ev (ofI32 (s.length : Int))) Tryz.func36 (by kernel_rfl) rfl rfl rfl (⟨⟨_, rfl, rfl, rfl⟩, ⟨_, rfl, rfl, rfl⟩, trivial⟩) (⟨⟨_, _, rfl, rfl, rfl, rfl, id, rfl⟩, trivial⟩) (⟨⟨500, _, rfl, rfl, rfl, rfl, .inr ⟨rfl, _, rfl, rfl⟩⟩, ⟨1000, _, rfl, rfl, rfl, rfl, .inl rfl⟩, trivial⟩) (⟨(fun _ => ⟨500, _, rfl, rfl⟩), trivial⟩) rfl) trivial rfl ?_
 refine .q (op_move rfl) trivial rfl ?_
 refine .a (op_call (U := [(500, some ⟨.agg [.ptr 500 0, .sl 1008 0 (4 + s.length) 1], 82, true⟩), (1008, some ⟨.aggB ((lenB s) ++ s), 5, true⟩), (1000, none)]) [(500, 500), (501, 1000)] [(1008, 1000)] (raw2_ev s (by omega) ((lenB s)) (4) (by first | exact hn | (simp [length_lenB]; done) | (simp [length_numB, length_lenB, length_textB]; omega) | omega | decide +kernel) (by omega)) Tryz.func62 (by kernel_rfl) rfl rfl rfl (⟨⟨_, rfl, rfl, rfl⟩, ⟨_, rfl, rfl, rfl⟩, trivial⟩) (⟨⟨_, _, rfl, rfl, rfl, rfl, id, rfl⟩, ⟨_, _, rfl, rfl, rfl, rfl, id, rfl⟩, trivial⟩) (⟨⟨500, _, rfl, rfl, rfl, rfl, .inr ⟨rfl, _, rfl, rfl⟩⟩, ⟨1000, _, rfl, rfl, rfl, rfl, .inl rfl⟩, trivial⟩) (⟨(fun _ => ⟨500, _, rfl, rfl⟩), (fun _ => ⟨1000, _, rfl, rfl⟩), trivial⟩) rfl) trivial rfl ?_
 refine .q (op_assign rfl) trivial rfl ?_
 refine .nil ?_
 show Ev _ _ _ _ _
 refine .ret ?_
 show RetOk _ _ _ _ _ _ _
 exact ret1v rfl (.inl rfl) rfl rfl ⟨(by first | rfl | (simp only [List.append_assoc, Nat.add_assoc, textB, bigB]; rfl)), (by first | rfl | (simp only [List.append_assoc, Nat.add_assoc, textB, bigB]; rfl)), trivial⟩
set_option maxRecDepth 100000 in
theorem text2_ev (s : List UInt8) (hs : s.length ≤ 100000000) (l : List UInt8) (n : Nat) (hn : n = l.length) (h : n ≤ 600000000) : Meets Tryz.prog 48 [.ptr 500 0, .str s] [(500, some ⟨.agg [.ptr 500 0, .sl 501 0 (n) 1], 82, true⟩), (501, some ⟨.aggB l, 5, true⟩)] (.ptr 500 0) [(500, some ⟨.agg [.ptr 500 0, .sl 1008 0 (n + (4 + s.length)) 1], 82, true⟩), (1008, some ⟨.aggB (l ++ textB s), 5, true⟩)] := by
 refine meets_of_ev (nt := 12) Tryz.func48 rfl rfl (Nat.le_of_ble_eq_true rfl) ?_
 refine .seq ?_
 refine .region ?_
 refine .q (op_assign rfl) trivial rfl ?_
 refine .nil ?_
 show Ev _ _ _ _ _
 refine .seq ?_
 refine .region ?_
 refine .q (op_move rfl) trivial rfl ?_
 refine .q (op_move rfl) trivial rfl ?_
 refine .q (op_len_str Tryz.underlying9 rfl) trivial rfl ?_
 refine .q (op_conv Tryz.underlying3 Tryz.underlying85 rfl rfl) trivial rfl ?_
 refine .a (op_call (U := [(500, some ⟨.agg [.ptr 500 0, .sl 1000 0 (n + 4) 1], 82, true⟩), (1000, some ⟨.aggB (l ++ lenB s), 5, true⟩), (501, none)]) [(500, 500), (501, 501)] [(1000, 1000)] (u322_ev (ofI32 (s.length : Int)) (l) (n) (by first | exact hn | (simp [length_numB, length_lenB, length_textB]; done) | (simp [length_numB, length_lenB, length_textB]; omega) | omega | decide +kernel) (by omega)) Tryz.func36 (by kernel_rfl) rfl rfl rfl (⟨⟨_, rfl, rfl, rfl⟩, ⟨_, rfl, rfl, rfl⟩, trivial⟩) (⟨⟨_, _, rfl, rfl, rfl, rfl, id, rfl⟩, ⟨_, _, rfl, rfl, rfl, rfl, id, rfl⟩, trivial⟩) (⟨⟨500, _, rfl, rfl, rfl, rfl, .inr ⟨rfl, _, rfl, rfl⟩⟩, ⟨1000, _, rfl, rfl, rfl, rfl, .inl rfl⟩, trivial⟩) (⟨(fun _ => ⟨500, _, rfl, rfl⟩), (fun _ => ⟨501, _, rfl, rfl⟩), trivial⟩) rfl) trivial rfl ?_
 refine .q (op_move rfl) trivial rfl ?_
 refine .a (op_call (U := [(500, some ⟨.agg [.ptr 500 0, .sl 1008 0 (n + 4 + s.length) 1], 82, true⟩), (1008, some ⟨.aggB ((l ++ lenB s) ++ s), 5, true⟩), (1000, none)]) [(500, 500), (501, 1000)] [(1008, 1000)] (raw2_ev s (by omega) ((l ++ lenB s)) (n + 4) (by first | exact hn | (simp [length_lenB]; done) | (simp [length_lenB]; omega) | omega | decide +kernel) (by omega)) Tryz.func62 (by kernel_rfl) rfl rfl rfl (⟨⟨_, rfl, rfl, rfl⟩, ⟨_, rfl, rfl, rfl⟩, trivial⟩) (⟨⟨_, _, rfl, rfl, rfl, rfl, id, rfl⟩, ⟨_, _, rfl, rfl, rfl, rfl, id, rfl⟩, trivial⟩) (⟨⟨500, _, rfl, rfl, rfl, rfl, .inr ⟨rfl, _, rfl, rfl⟩⟩, ⟨1000, _, rfl, rfl, rfl, rfl, .inl rfl⟩, trivial⟩) (⟨(fun _ => ⟨500, _, rfl, rfl⟩), (fun _ => ⟨1000, _, rfl, rfl⟩), trivial⟩) rfl) trivial rfl ?_
 refine .q (op_assign rfl) trivial rfl ?_
 refine .nil ?_
 show Ev _ _ _ _ _
 refine .ret ?_
 show RetOk _ _ _ _ _ _ _
 exact ret1v rfl (.inl rfl) rfl rfl ⟨(by first | rfl | (simp only [List.append_assoc, Nat.add_assoc]; rfl)), (by first | rfl | (simp only [List.append_assoc, Nat.add_assoc, textB]; rfl)), trivial⟩
end Go.Proofs.YtdmlpblaelfdmaaGreatDoor
namespace Go.Proofs.YtdmlpblaelfdmaaGreatDoor
open Go.RowKit
set_option maxRecDepth 100000 in
theorem big0_ev (s : List UInt8) (hs : s.length ≤ 90000000) : Meets Tryz.prog 86 [.ptr 500 0, .str s] [(500, some ⟨.agg [.val (.pointer none), .nilsl], 82, true⟩)] (.ptr 500 0) [(500, some ⟨.agg [.ptr 500 0, .sl 1000 0 ((4 + (unsB (shortB s)).length)) 1], 82, true⟩), (1000, some ⟨.aggB (bigB s), 5, true⟩)] := by
 have q1 := length_shortB s
 have q2 := length_unsB (shortB s)
 refine meets_of_ev (nt := 10) Tryz.func86 rfl rfl (Nat.le_of_ble_eq_true rfl) ?_
 refine .seq ?_
 refine .region ?_
 refine .q (op_assign rfl) trivial rfl ?_
 refine .nil ?_
 show Ev _ _ _ _ _
 refine .seq ?_
 refine .region ?_
 refine .q (op_move rfl) trivial rfl ?_
 refine .q (op_move rfl) trivial rfl ?_
 refine .q (op_call (U := []) [] [] (short_ev s (by omega)) Tryz.func122 (by kernel_rfl) rfl rfl rfl (⟨⟨_, rfl, rfl, rfl⟩, trivial⟩) (trivial) (trivial) (trivial) rfl) trivial rfl ?_
 refine .q (op_call (U := []) [] [] (uns_ev (shortB s) (by omega)) Tryz.func121 (by kernel_rfl) rfl rfl rfl (⟨⟨_, rfl, rfl, rfl⟩, trivial⟩) (trivial) (trivial) (trivial) rfl) trivial rfl ?_
 refine .a (op_call (U := [(500, some ⟨.agg [.ptr 500 0, .sl 1000 0 ((4 + (unsB (shortB s)).length)) 1], 82, true⟩), (1000, some ⟨.aggB (bigB s), 5, true⟩)]) [(500, 500)] [(1000, 1008)] (text0_ev (unsB (shortB s)) (by omega)) Tryz.func48 (by kernel_rfl) rfl rfl rfl (⟨⟨_, rfl, rfl, rfl⟩, ⟨_, rfl, rfl, rfl⟩, trivial⟩) (⟨⟨_, _, rfl, rfl, rfl, rfl, id, rfl⟩, trivial⟩) (⟨⟨500, _, rfl, rfl, rfl, rfl, .inr ⟨rfl, _, rfl, rfl⟩⟩, ⟨1008, _, rfl, rfl, rfl, rfl, .inl rfl⟩, trivial⟩) (⟨(fun _ => ⟨500, _, rfl, rfl⟩), trivial⟩) rfl) trivial rfl ?_
 refine .q (op_assign rfl) trivial rfl ?_
 refine .nil ?_
 show Ev _ _ _ _ _
 refine .ret ?_
 show RetOk _ _ _ _ _ _ _
 exact ret1v rfl (.inl rfl) rfl rfl ⟨(by first | rfl | (simp only [List.append_assoc, Nat.add_assoc, textB, bigB]; rfl)), (by first | rfl | (simp only [List.append_assoc, Nat.add_assoc, textB, bigB]; rfl)), trivial⟩
set_option maxRecDepth 100000 in
theorem bytes2_ev (l : List UInt8) (n : Nat) (hn : n = l.length) (h0 : 0 < n) (h : n ≤ 1000000000) : Meets Tryz.prog 37 [.ptr 500 0] [(500, some ⟨.agg [.ptr 500 0, .sl 501 0 (n) 1], 82, false⟩), (501, some ⟨.aggB l, 5, true⟩)] (.str l) [(500, some ⟨.agg [.ptr 500 0, .sl 501 0 (n) 1], 82, false⟩), (501, some ⟨.aggB l, (frz + 5), false⟩)] := by
 refine meets_of_ev (nt := 7) Tryz.func37 rfl rfl (Nat.le_of_ble_eq_true rfl) ?_
 refine .seq ?_
 refine .region ?_
 refine .q (op_assign rfl) trivial rfl ?_
 refine .nil ?_
 show Ev _ _ _ _ _
 refine .seq ?_
 refine .region ?_
 refine .q (op_move rfl) trivial rfl ?_
 refine .q (op_nilCheck rfl) trivial rfl ?_
 refine .q (op_fieldAddr (m := 1) Tryz.underlying82 rfl (by kernel_rfl) rfl) trivial rfl ?_
 refine .as (.ptr 500 0) rfl ?_
 refine .a (op_call (U := [(501, some ⟨.aggB l, (frz + 5), false⟩)]) [(500, 500), (501, 501)] [] (st2_ev l n hn h0 h) Tryz.func65 (by kernel_rfl) rfl rfl rfl (⟨⟨_, rfl, rfl, rfl⟩, trivial⟩) (⟨⟨_, _, rfl, rfl, rfl, rfl, (fun h => by cases h), rfl⟩, ⟨_, _, rfl, rfl, rfl, rfl, id, rfl⟩, trivial⟩) (⟨⟨501, _, rfl, rfl, rfl, rfl, .inr ⟨rfl, _, rfl, rfl⟩⟩, trivial⟩) (⟨(fun h => by cases h), (fun _ => ⟨501, _, rfl, rfl⟩), trivial⟩) rfl) trivial rfl ?_
 refine .q (op_assign rfl) trivial rfl ?_
 refine .nil ?_
 show Ev _ _ _ _ _
 refine .ret ?_
 show RetOk _ _ _ _ _ _ _
 exact ret1v rfl (.inl rfl) rfl rfl ⟨rfl, rfl, trivial⟩
end Go.Proofs.YtdmlpblaelfdmaaGreatDoor
namespace Go.Proofs.YtdmlpblaelfdmaaGreatDoor
open Go.RowKit
end Go.Proofs.YtdmlpblaelfdmaaGreatDoor
