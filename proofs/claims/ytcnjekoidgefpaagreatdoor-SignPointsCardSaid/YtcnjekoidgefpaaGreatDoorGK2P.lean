/-
  Texts of this claim.
-/
import Derived.Test.YtcnjekoidgefpaaGreatDoorGK1P
import Derived.Test.YtcnjekoidgefpaaGreatDoorGUP
namespace Go.Proofs.YtcnjekoidgefpaaGreatDoor
open Go.RowKit
theorem encR_t (p : P3) (B : List UInt8) (hB : bsN (mF p.2.1 (invF p.2.2)) 32 = B) (h : mF p.1 (invF p.2.2) % 2 = 1) (_hl : B.length = 32) : ((B.set 31 (B.getD 31 0 + 128)).drop 0).take B.length = encR p := by
 have h1 := (last_lt (mF p.2.1 (invF p.2.2)) (mF_lt _ _))
 rw [hB] at h1
 unfold encR encN
 rw [if_pos h, hB, List.drop_zero, List.take_of_length_le (by rw [List.length_set]; exact Nat.le_refl _), ← top_add _ (by rw [h1.1]; exact h1.2)]
 rfl
theorem encR_f (p : P3) (B : List UInt8) (hB : bsN (mF p.2.1 (invF p.2.2)) 32 = B) (h : ¬ mF p.1 (invF p.2.2) % 2 = 1) (_hl : B.length = 32) : (B.drop 0).take B.length = encR p := by
 unfold encR encN
 rw [if_neg h, hB, List.drop_zero, List.take_of_length_le (Nat.le_refl _)]
set_option maxHeartbeats 1000000 in
set_option maxRecDepth 100000 in
theorem k8bytes_gen (p : P3) (hp : PL p) (B : List UInt8) (hB : bsN (mF p.2.1 (invF p.2.2)) 32 = B) (hlB : B.length = 32) : Meets Tryz.prog 21 [.agg [.sl 500 0 (dl (p.1)) 1, .sl 501 0 (dl (p.2.1)) 1, .sl 502 0 (dl (p.2.2)) 1]] [(500, some ⟨.aggI (dg (p.1)), 3, false⟩), (501, some ⟨.aggI (dg (p.2.1)), 3, false⟩), (502, some ⟨.aggI (dg (p.2.2)), 3, false⟩)] (.str (encR p)) [] := by
 refine meets_of_ev (nt := 26) Tryz.func21 rfl rfl (Nat.le_of_ble_eq_true rfl) ?_
 refine .seq ?_
 refine .region ?_
 refine .a (op_boxRow rfl rfl) trivial rfl ?_
 refine .q (op_assign rfl) trivial rfl ?_
 refine .nil ?_
 show Ev _ _ _ _ _
 refine .seq ?_
 refine .region ?_
 refine .q (op_fieldAddr (m := 0) Tryz.underlying40 rfl (by kernel_rfl) rfl) trivial rfl ?_
 refine .as (.ptr 1000 2) rfl ?_
 refine .q (op_load Tryz.underlying38 rfl rfl rfl rfl (by first | omega | (simp only [AV.len]; omega) | (simp only [AV.len]; omega) | assumption | (simp [AV.len]; done))) trivial rfl ?_
 refine .a (op_call (U := [(1008, some ⟨.aggI (dg (invF (p.2.2))), 3, true⟩)]) [(500, 502)] [(1008, 1000)] (k5inv (p.2.2) hp.2.2) Tryz.func44 (by kernel_rfl) rfl rfl rfl (⟨⟨_, rfl, rfl, rfl⟩, trivial⟩) (⟨⟨_, _, rfl, rfl, rfl, rfl, (fun h => by cases h), rfl⟩, trivial⟩) (⟨⟨1000, _, rfl, rfl, rfl, rfl, .inl rfl⟩, trivial⟩) (⟨(fun h => by cases h), trivial⟩) rfl) trivial rfl ?_
 refine .q (op_assign rfl) trivial rfl ?_
 refine .nil ?_
 show Ev _ _ _ _ _
 refine .seq ?_
 refine .region ?_
 refine .q (op_fieldAddr (m := 0) Tryz.underlying40 rfl (by kernel_rfl) rfl) trivial rfl ?_
 refine .as (.ptr 1000 1) rfl ?_
 refine .q (op_load Tryz.underlying38 rfl rfl rfl rfl (by first | omega | (simp only [AV.len]; omega) | (simp only [AV.len]; omega) | assumption | (simp [AV.len]; done))) trivial rfl ?_
 refine .q (op_move rfl) trivial rfl ?_
 refine .a (op_call (U := [(1016, some ⟨.aggI (dg (mF (p.2.1) (invF (p.2.2)))), 3, true⟩)]) [(500, 501), (501, 1008)] [(1016, 1000)] (k8mul (p.2.1) (invF (p.2.2)) hp.2.1 (invF_lt _)) Tryz.func41 (by kernel_rfl) rfl rfl rfl (⟨⟨_, rfl, rfl, rfl⟩, ⟨_, rfl, rfl, rfl⟩, trivial⟩) (⟨⟨_, _, rfl, rfl, rfl, rfl, (fun h => by cases h), rfl⟩, ⟨_, _, rfl, rfl, rfl, rfl, (fun h => by cases h), rfl⟩, trivial⟩) (⟨⟨1000, _, rfl, rfl, rfl, rfl, .inl rfl⟩, trivial⟩) (⟨(fun h => by cases h), (fun h => by cases h), trivial⟩) rfl) trivial rfl ?_
 refine .q (op_call (U := []) [(500, 1016)] [] (bytes05 (mF (p.2.1) (invF (p.2.2)))) Tryz.func47 (by kernel_rfl) rfl rfl rfl (⟨⟨_, rfl, rfl, rfl⟩, trivial⟩) (⟨⟨_, _, rfl, rfl, rfl, rfl, (fun h => by cases h), rfl⟩, trivial⟩) (trivial) (⟨(fun h => by cases h), trivial⟩) rfl) trivial rfl ?_
 refine .as (.str B) (congrArg AV.str hB) ?_
 refine .a (op_str_bytes Tryz.underlying9 Tryz.underlying25 Tryz.underlying5 rfl (by unfold maxLen; omega)) trivial rfl ?_
 refine .q (op_assign rfl) trivial rfl ?_
 refine .nil ?_
 show Ev _ _ _ _ _
 refine .seq ?_
 refine .seq ?_
 refine .region ?_
 refine .q (op_fieldAddr (m := 0) Tryz.underlying40 rfl (by kernel_rfl) rfl) trivial rfl ?_
 refine .as (.ptr 1000 0) rfl ?_
 refine .q (op_load Tryz.underlying38 rfl rfl rfl rfl (by first | omega | (simp only [AV.len]; omega) | (simp only [AV.len]; omega) | assumption | (simp [AV.len]; done))) trivial rfl ?_
 refine .q (op_move rfl) trivial rfl ?_
 refine .a (op_call (U := [(1032, some ⟨.aggI (dg (mF (p.1) (invF (p.2.2)))), 3, true⟩)]) [(500, 500), (501, 1008)] [(1032, 1000)] (k8mul (p.1) (invF (p.2.2)) hp.1 (invF_lt _)) Tryz.func41 (by kernel_rfl) rfl rfl rfl (⟨⟨_, rfl, rfl, rfl⟩, ⟨_, rfl, rfl, rfl⟩, trivial⟩) (⟨⟨_, _, rfl, rfl, rfl, rfl, (fun h => by cases h), rfl⟩, ⟨_, _, rfl, rfl, rfl, rfl, (fun h => by cases h), rfl⟩, trivial⟩) (⟨⟨1000, _, rfl, rfl, rfl, rfl, .inl rfl⟩, trivial⟩) (⟨(fun h => by cases h), (fun h => by cases h), trivial⟩) rfl) trivial rfl ?_
 refine .q (op_call (U := []) [(500, 1032)] [] (odd05 (mF (p.1) (invF (p.2.2))) (Nat.le_trans (dl_of_fp (mF_lt _ _)) (by decide))) Tryz.func48 (by kernel_rfl) rfl rfl rfl (⟨⟨_, rfl, rfl, rfl⟩, trivial⟩) (⟨⟨_, _, rfl, rfl, rfl, rfl, (fun h => by cases h), rfl⟩, trivial⟩) (trivial) (⟨(fun h => by cases h), trivial⟩) rfl) trivial rfl ?_
 refine .as (.bool (decide ((mF p.1 (invF p.2.2)) % 2 = 1))) rfl ?_
 refine .nil ?_
 show Ev _ _ _ _ _
 refine .cond rfl (fun hc18 => ?_) (fun hc18 => ?_)
 ·simp only [decide_eq_true_eq] at hc18
  refine .region ?_
  refine .q (op_move rfl) trivial rfl ?_
  refine .q (ap_idx0 Tryz.underlying25 inf5.sz rfl rfl rfl (by rw [hlB]; decide)) trivial rfl ?_
  refine .q (op_load Tryz.underlying5 rfl rfl rfl rfl (by show 31 < B.length; omega)) trivial rfl ?_
  refine .q (op_bin8 rfl rfl rfl) trivial rfl ?_
  refine .q (ap_idx0 Tryz.underlying25 inf5.sz rfl rfl rfl (by rw [hlB]; decide)) trivial rfl ?_
  refine .w (op_store inf5.sz rfl rfl rfl rfl rfl (by show 31 < B.length; omega)) trivial rfl ?_
  refine .nil ?_
  show Ev _ _ _ _ _
  refine .seq ?_
  refine .region ?_
  refine .q (op_move rfl) trivial rfl ?_
  refine .q (op_bytes_str Tryz.underlying25 Tryz.underlying5 Tryz.underlying9 rfl rfl rfl (by first | omega | (simp only [List.length_set]; omega))) trivial rfl ?_
  refine .as (.str (encR p)) (congrArg AV.str (by first | exact encR_t p B hB (by first | exact hc18) hlB | exact encR_f p B hB (by first | exact hc18) hlB)) ?_
  refine .q (op_assign rfl) trivial rfl ?_
  refine .nil ?_
  show Ev _ _ _ _ _
  refine .ret ?_
  show RetOk _ _ _ _ _ _ _
  exact ret1v rfl (.inl rfl) rfl rfl trivial
 ·simp only [decide_eq_false_iff_not] at hc18
  refine .skip ?_
  show Ev _ _ _ _ _
  refine .seq ?_
  refine .region ?_
  refine .q (op_move rfl) trivial rfl ?_
  refine .q (op_bytes_str Tryz.underlying25 Tryz.underlying5 Tryz.underlying9 rfl rfl rfl (by first | omega | (simp only [AV.len, List.length_set]; omega))) trivial rfl ?_
  refine .as (.str (encR p)) (congrArg AV.str (by first | exact encR_t p B hB (by first | exact hc18) hlB | exact encR_f p B hB (by first | exact hc18) hlB)) ?_
  refine .q (op_assign rfl) trivial rfl ?_
  refine .nil ?_
  show Ev _ _ _ _ _
  refine .ret ?_
  show RetOk _ _ _ _ _ _ _
  exact ret1v rfl (.inl rfl) rfl rfl trivial
theorem k8bytes (p : P3) (hp : PL p) : Meets Tryz.prog 21 [.agg [.sl 500 0 (dl (p.1)) 1, .sl 501 0 (dl (p.2.1)) 1, .sl 502 0 (dl (p.2.2)) 1]] [(500, some ⟨.aggI (dg (p.1)), 3, false⟩), (501, some ⟨.aggI (dg (p.2.1)), 3, false⟩), (502, some ⟨.aggI (dg (p.2.2)), 3, false⟩)] (.str (encR p)) [] := k8bytes_gen p hp _ rfl (length_bsN _ _)
end Go.Proofs.YtcnjekoidgefpaaGreatDoor
namespace Go.Proofs.YtcnjekoidgefpaaGreatDoor
open Go.RowKit
theorem k8root_T (x : Nat) (hx : x < fp) (h : rtB x = true) : Meets Tryz.prog 43 [.sl 500 0 (dl x) 1] [(500, some ⟨.aggI (dg x), 3, false⟩)] (.tup [.sl 1000 0 (dl (rtV x)) 1, .bool true]) [(1000, some ⟨.aggI (dg (rtV x)), 3, true⟩)] := by
  obtain ⟨r, hr⟩ : ∃ r, rtR x = r := ⟨_, rfl⟩
  have hlt : r < fp := by rw [← hr]; exact rtR_lt x
  have hr0 : r0N x = r := hr
  have hm : r * iV % fp < fp := Nat.mod_lt _ fpos
  by_cases h1 : r * r % fp = x
  · have hV : rtV x = sgN r := by unfold rtV; rw [hr, if_pos h1]
    by_cases h3 : r % 2 = 1
    · have e : sgN r = (fp - r) % fp := by unfold sgN; rw [if_pos (decide_eq_true h3)]
      rw [hV, e]; exact rootR_Ao x r hx hr0 hlt h1 h3
    · have e : sgN r = r := by unfold sgN; rw [if_neg (by simpa using h3)]
      rw [hV, e]; exact rootR_Ae x r hx hr0 hlt h1 h3
  · have h2 : (r * iV % fp) * (r * iV % fp) % fp = x := by
      unfold rtB at h; rw [hr, decide_eq_false h1, Bool.false_or] at h; exact of_decide_eq_true h
    have hV : rtV x = sgN (r * iV % fp) := by unfold rtV; rw [hr, if_neg h1, if_pos h2]
    by_cases h3 : (r * iV % fp) % 2 = 1
    · have e : sgN (r * iV % fp) = (fp - (r * iV % fp)) % fp := by unfold sgN; rw [if_pos (decide_eq_true h3)]
      rw [hV, e]; exact rootR_Bo x r hx hr0 hlt h1 h2 h3
    · have e : sgN (r * iV % fp) = r * iV % fp := by unfold sgN; rw [if_neg (by simpa using h3)]
      rw [hV, e]; exact rootR_Be x r hx hr0 hlt h1 h2 h3
theorem k8root_F (x : Nat) (hx : x < fp) (h : rtB x = false) : Meets Tryz.prog 43 [.sl 500 0 (dl x) 1] [(500, some ⟨.aggI (dg x), 3, false⟩)] (.tup [.nilsl, .bool false]) [] := by
  obtain ⟨r, hr⟩ : ∃ r, rtR x = r := ⟨_, rfl⟩
  have hlt : r < fp := by rw [← hr]; exact rtR_lt x
  unfold rtB at h
  rw [hr, Bool.or_eq_false_iff] at h
  exact rootR_C x r hx hr hlt (of_decide_eq_false h.1) (of_decide_eq_false h.2)
theorem k8of (s : List UInt8) (hm : s.length ≤ 1000000) : Meets Tryz.prog 40 [.str s] [] (.sl 1000 0 (dl (ofV s)) 1) [(1000, some ⟨.aggI (dg (ofV s)), 3, true⟩)] := of05 s hm
theorem k8mulc (a b : Nat) (ha : a < fp) (hb : b < fp) : Meets Tryz.prog 41 [.sl 500 0 (dl a) 1, .sl 501 0 (dl b) 1] [(500, some ⟨.aggI (dg a), 3, false⟩), (501, some ⟨.aggI (dg b), 3, false⟩)] (.sl 1000 0 (dl (mF b a)) 1) [(1000, some ⟨.aggI (dg (mF b a)), 3, true⟩)] := by
  have h := k8mul a b ha hb
  have e : mF a b = mF b a := by unfold mF; rw [Nat.mul_comm]
  rw [e] at h; exact h
theorem ge_128 (a : UInt8) : decide (UInt8.ofNat 128 ≤ a) = decide (128 ≤ a.toNat) := by
  rw [decide_eq_decide]; exact UInt8.le_iff_toNat_le
theorem enc_enc (x y : Nat) (hx : x < fp) (hy : y < fp) : encR (x, y, 1) = encN x y := encR_one hx hy
set_option maxHeartbeats 2000000 in
set_option maxRecDepth 100000 in
theorem k8read_T (s : List UInt8) (hs : s.length = 32) (hR : rtB (decR (ofV s)) = true) : Meets Tryz.prog 16 [.sl 500 0 (dl (dV)) 1, .str s] [(500, some ⟨.aggI (dg (dV)), 3, false⟩)] (.tup [.agg [.sl 2000 0 (dl (decX s)) 1, .sl 2008 0 (dl (ofV s)) 1, .sl 2016 0 (dl (1)) 1], .bool (encN (decX s) (ofV s) == s)]) [(2000, some ⟨.aggI (dg (decX s)), 3, true⟩), (2008, some ⟨.aggI (dg (ofV s)), 3, true⟩), (2016, some ⟨.aggI (dg (1)), 3, true⟩)] := by
 refine meets_of_ev (nt := 51) Tryz.func16 rfl rfl (Nat.le_of_ble_eq_true rfl) ?_
 refine .seq ?_
 refine .region ?_
 refine .a (op_allocRow zero40 rel_zero40 rfl) trivial rfl ?_
 refine .q (op_assign rfl) trivial rfl ?_
 refine .nil ?_
 show Ev _ _ _ _ _
 refine .seq ?_
 refine .region ?_
 refine .q (op_move rfl) trivial rfl ?_
 refine .a (op_call (U := [(1008, some ⟨.aggI (dg (ofV s)), 3, true⟩)]) [] [(1008, 1000)] (k8of s (by omega)) Tryz.func40 (by kernel_rfl) rfl rfl rfl (⟨⟨_, rfl, rfl, rfl⟩, trivial⟩) (trivial) (⟨⟨1000, _, rfl, rfl, rfl, rfl, .inl rfl⟩, trivial⟩) (trivial) rfl) trivial rfl ?_
 refine .q (op_assign rfl) trivial rfl ?_
 refine .nil ?_
 show Ev _ _ _ _ _
 refine .seq ?_
 refine .region ?_
 refine .q (op_move rfl) trivial rfl ?_
 refine .q (op_move rfl) trivial rfl ?_
 refine .a (op_call (U := [(1016, some ⟨.aggI (dg (mF (ofV s) (ofV s))), 3, true⟩)]) [(500, 1008)] [(1016, 1000)] (k8mulq (ofV s) (ofV_lt _)) Tryz.func41 (by kernel_rfl) rfl rfl rfl (⟨⟨_, rfl, rfl, rfl⟩, ⟨_, rfl, rfl, rfl⟩, trivial⟩) (⟨⟨_, _, rfl, rfl, rfl, rfl, (fun h => by cases h), rfl⟩, trivial⟩) (⟨⟨1000, _, rfl, rfl, rfl, rfl, .inl rfl⟩, trivial⟩) (⟨(fun h => by cases h), trivial⟩) rfl) trivial rfl ?_
 refine .q (op_assign rfl) trivial rfl ?_
 refine .nil ?_
 show Ev _ _ _ _ _
 refine .seq ?_
 refine .region ?_
 refine .a (op_call (U := [(1024, some ⟨.aggI (dg (1)), 3, true⟩)]) [] [(1024, 1000)] (small_ev 1 (by omega)) Tryz.func42 (by kernel_rfl) rfl rfl rfl (⟨⟨_, rfl, rfl, rfl⟩, trivial⟩) (trivial) (⟨⟨1000, _, rfl, rfl, rfl, rfl, .inl rfl⟩, trivial⟩) (trivial) rfl) trivial rfl ?_
 refine .q (op_assign rfl) trivial rfl ?_
 refine .nil ?_
 show Ev _ _ _ _ _
 refine .seq ?_
 refine .region ?_
 refine .q (op_move rfl) trivial rfl ?_
 refine .q (op_move rfl) trivial rfl ?_
 refine .a (op_call (U := [(1032, some ⟨.aggI (dg (sF (mF (ofV s) (ofV s)) (1))), 3, true⟩)]) [(500, 1016), (501, 1024)] [(1032, 1000)] (k5sub (mF (ofV s) (ofV s)) (1) (mF_lt _ _) one_fp) Tryz.func38 (by kernel_rfl) rfl rfl rfl (⟨⟨_, rfl, rfl, rfl⟩, ⟨_, rfl, rfl, rfl⟩, trivial⟩) (⟨⟨_, _, rfl, rfl, rfl, rfl, (fun h => by cases h), rfl⟩, ⟨_, _, rfl, rfl, rfl, rfl, (fun h => by cases h), rfl⟩, trivial⟩) (⟨⟨1000, _, rfl, rfl, rfl, rfl, .inl rfl⟩, trivial⟩) (⟨(fun h => by cases h), (fun h => by cases h), trivial⟩) rfl) trivial rfl ?_
 refine .q (op_move rfl) trivial rfl ?_
 refine .q (op_move rfl) trivial rfl ?_
 refine .a (op_call (U := [(1040, some ⟨.aggI (dg (mF (mF (ofV s) (ofV s)) dV)), 3, true⟩)]) [(500, 500), (501, 1016)] [(1040, 1000)] (k8mulc dV (mF (ofV s) (ofV s)) dV_lt (mF_lt _ _)) Tryz.func41 (by kernel_rfl) rfl rfl rfl (⟨⟨_, rfl, rfl, rfl⟩, ⟨_, rfl, rfl, rfl⟩, trivial⟩) (⟨⟨_, _, rfl, rfl, rfl, rfl, (fun h => by cases h), rfl⟩, ⟨_, _, rfl, rfl, rfl, rfl, (fun h => by cases h), rfl⟩, trivial⟩) (⟨⟨1000, _, rfl, rfl, rfl, rfl, .inl rfl⟩, trivial⟩) (⟨(fun h => by cases h), (fun h => by cases h), trivial⟩) rfl) trivial rfl ?_
 refine .q (op_move rfl) trivial rfl ?_
 refine .a (op_call (U := [(1048, some ⟨.aggI (dg (aF (mF (mF (ofV s) (ofV s)) dV) (1))), 3, true⟩)]) [(500, 1040), (501, 1024)] [(1048, 1000)] (k5add (mF (mF (ofV s) (ofV s)) dV) (1) (mF_lt _ _) one_fp) Tryz.func45 (by kernel_rfl) rfl rfl rfl (⟨⟨_, rfl, rfl, rfl⟩, ⟨_, rfl, rfl, rfl⟩, trivial⟩) (⟨⟨_, _, rfl, rfl, rfl, rfl, (fun h => by cases h), rfl⟩, ⟨_, _, rfl, rfl, rfl, rfl, (fun h => by cases h), rfl⟩, trivial⟩) (⟨⟨1000, _, rfl, rfl, rfl, rfl, .inl rfl⟩, trivial⟩) (⟨(fun h => by cases h), (fun h => by cases h), trivial⟩) rfl) trivial rfl ?_
 refine .a (op_call (U := [(1056, some ⟨.aggI (dg (invF (aF (mF (mF (ofV s) (ofV s)) dV) (1)))), 3, true⟩)]) [(500, 1048)] [(1056, 1000)] (k5inv (aF (mF (mF (ofV s) (ofV s)) dV) (1)) (aF_lt _ _)) Tryz.func44 (by kernel_rfl) rfl rfl rfl (⟨⟨_, rfl, rfl, rfl⟩, trivial⟩) (⟨⟨_, _, rfl, rfl, rfl, rfl, (fun h => by cases h), rfl⟩, trivial⟩) (⟨⟨1000, _, rfl, rfl, rfl, rfl, .inl rfl⟩, trivial⟩) (⟨(fun h => by cases h), trivial⟩) rfl) trivial rfl ?_
 refine .a (op_call (U := [(1064, some ⟨.aggI (dg (decR (ofV s))), 3, true⟩)]) [(500, 1032), (501, 1056)] [(1064, 1000)] (k8mul (sF (mF (ofV s) (ofV s)) (1)) (invF (aF (mF (mF (ofV s) (ofV s)) dV) (1))) (sF_lt _ _) (invF_lt _)) Tryz.func41 (by kernel_rfl) rfl rfl rfl (⟨⟨_, rfl, rfl, rfl⟩, ⟨_, rfl, rfl, rfl⟩, trivial⟩) (⟨⟨_, _, rfl, rfl, rfl, rfl, (fun h => by cases h), rfl⟩, ⟨_, _, rfl, rfl, rfl, rfl, (fun h => by cases h), rfl⟩, trivial⟩) (⟨⟨1000, _, rfl, rfl, rfl, rfl, .inl rfl⟩, trivial⟩) (⟨(fun h => by cases h), (fun h => by cases h), trivial⟩) rfl) trivial rfl ?_
 refine .a (op_call (U := [(1072, some ⟨.aggI (dg (rtV (decR (ofV s)))), 3, true⟩)]) [(500, 1064)] [(1072, 1000)] (k8root_T (decR (ofV s)) (rtX_lt _ _) hR) Tryz.func43 (by kernel_rfl) rfl rfl rfl (⟨⟨_, rfl, rfl, rfl⟩, trivial⟩) (⟨⟨_, _, rfl, rfl, rfl, rfl, (fun h => by cases h), rfl⟩, trivial⟩) (⟨⟨1000, _, rfl, rfl, rfl, rfl, .inl rfl⟩, trivial⟩) (⟨(fun h => by cases h), trivial⟩) rfl) trivial rfl ?_
 refine .q (op_move rfl) trivial rfl ?_
 refine .q (op_extract rfl rfl) trivial rfl ?_
 refine .q (op_extract rfl rfl) trivial rfl ?_
 refine .q (op_assign rfl) trivial rfl ?_
 refine .q (op_assign rfl) trivial rfl ?_
 refine .nil ?_
 show Ev _ _ _ _ _
 refine .seq ?_
 refine .seq ?_
 refine .region ?_
 refine .q (op_move rfl) trivial rfl ?_
 refine .q (op_notB rfl) trivial rfl ?_
 refine .nil ?_
 show Ev _ _ _ _ _
 refine .cond_false rfl (rfl) ?_
 refine .skip ?_
 show Ev _ _ _ _ _
 refine .seq ?_
 refine .seq ?_
 refine .region ?_
 refine .q (op_move rfl) trivial rfl ?_
 refine .q (op_index_str Tryz.underlying9 rfl rfl rfl (by rw [hs]; decide)) trivial rfl ?_
 refine .q (op_bin8 rfl rfl rfl) trivial rfl ?_
 refine .as (.bool (decide (128 ≤ (s.getD 31 0).toNat))) (congrArg AV.bool (by first | rfl | exact ge_128 _)) ?_
 refine .nil ?_
 show Ev _ _ _ _ _
 refine .cond rfl (fun hc39 => ?_) (fun hc39 => ?_)
 ·simp only [decide_eq_true_eq] at hc39
  refine .region ?_
  refine .q (op_move rfl) trivial rfl ?_
  refine .a (op_call (U := [(1080, some ⟨.aggI (dg (nF (rtV (decR (ofV s))))), 3, true⟩)]) [(501, 1072)] [(1080, 1000)] (k5subn (rtV (decR (ofV s))) (rtV_lt _)) Tryz.func38 (by kernel_rfl) rfl rfl rfl (⟨⟨_, rfl, rfl, rfl⟩, ⟨_, rfl, rfl, rfl⟩, trivial⟩) (⟨⟨_, _, rfl, rfl, rfl, rfl, (fun h => by cases h), rfl⟩, trivial⟩) (⟨⟨1000, _, rfl, rfl, rfl, rfl, .inl rfl⟩, trivial⟩) (⟨(fun h => by cases h), trivial⟩) rfl) trivial rfl ?_
  refine .q (op_assign rfl) trivial rfl ?_
  refine .nil ?_
  show Ev _ _ _ _ _
  refine .seq ?_
  have hXt : 128 ≤ (s.getD 31 0).toNat → nF (rtV (decR (ofV s))) = decX s := fun h => (if_pos h).symm
  have hXf : ¬ 128 ≤ (s.getD 31 0).toNat → rtV (decR (ofV s)) = decX s := fun h => (if_neg h).symm
  refine Ev.weak (st2 := ⟨[(1, .str s), (4, .ptr 1000 0), (9, .sl 2000 0 (dl (decX s)) 1), (6, .sl 2008 0 (dl (ofV s)) 1), (8, .sl 2016 0 (dl (1)) 1)], [(1000, some ⟨.agg [.nilsl, .nilsl, .nilsl], 40, true⟩), (2000, some ⟨.aggI (dg (decX s)), 3, true⟩), (2008, some ⟨.aggI (dg (ofV s)), 3, true⟩), (2016, some ⟨.aggI (dg (1)), 3, true⟩)], 2024⟩) ?_ ?_
  ·exact StLe.mk [(1000, 1000), (2000, 1080), (2008, 1008), (2016, 1024)] rfl rfl ⟨⟨_, rfl, by rfl, rfl⟩, ⟨_, rfl, by rfl, rfl⟩, ⟨_, rfl, by (first | (rw [← hXt (by assumption)]; rfl) | (rw [← hXf (by assumption)]; rfl)), rfl⟩, ⟨_, rfl, by rfl, rfl⟩, ⟨_, rfl, by rfl, rfl⟩, trivial⟩ ⟨⟨_, _, rfl, rfl, rfl, rfl, id, rfl⟩, ⟨_, _, rfl, rfl, by (first | (rw [← hXt (by assumption)]; rfl) | (rw [← hXf (by assumption)]; rfl)), rfl, id, rfl⟩, ⟨_, _, rfl, rfl, rfl, rfl, id, rfl⟩, ⟨_, _, rfl, rfl, rfl, rfl, id, rfl⟩, trivial⟩
  show Ev _ _ _ _ _
  refine .region ?_
  refine .q (op_move rfl) trivial rfl ?_
  refine .q (op_move rfl) trivial rfl ?_
  refine .q (op_move rfl) trivial rfl ?_
  refine .q (op_buildS (r := .agg [.sl 2000 0 (dl (decX s)) 1, .sl 2008 0 (dl (ofV s)) 1, .sl 2016 0 (dl (1)) 1]) Tryz.underlying40 rfl zero40 rel_zero40 rfl rfl rfl rfl) trivial rfl ?_
  refine .a (op_allocRow zero40 rel_zero40 rfl) trivial rfl ?_
  refine .w (op_storeRow (by kernel_rfl) rfl rfl rfl rfl rfl (rfl) (rfl)) trivial rfl ?_
  refine .nil ?_
  show Ev _ _ _ _ _
  refine .seq ?_
  refine .drawn [[], [], [1], [], [1, 2, 3], [0, 1, 2], [0, 1, 2, 3, 4, 5]] [0, 1, 2, 5] [5] (by kernel_rfl) (by kernel_rfl) rfl ?_
  show DK _ [0, 1, 2, 3, 4, 5, 6] _ _ _
  refine .q rfl (op_loadRow Tryz.underlying40 rfl (by kernel_rfl) rfl rfl rfl (rfl)) trivial ?_
  refine .q rfl (op_loadRow Tryz.underlying40 rfl (by kernel_rfl) rfl rfl rfl (rfl)) trivial ?_
  refine .q rfl (op_call (U := []) [(500, 2000), (501, 2008), (502, 2016)] [] (k8bytes (decX s, ofV s, 1) ⟨(decX_lt _), (ofV_lt _), one_fp⟩) Tryz.func21 (by kernel_rfl) rfl rfl rfl (⟨⟨_, rfl, rfl, rfl⟩, trivial⟩) (⟨⟨_, _, rfl, rfl, rfl, rfl, (fun h => by cases h), rfl⟩, ⟨_, _, rfl, rfl, rfl, rfl, (fun h => by cases h), rfl⟩, ⟨_, _, rfl, rfl, rfl, rfl, (fun h => by cases h), rfl⟩, trivial⟩) (trivial) (⟨(fun h => by cases h), (fun h => by cases h), (fun h => by cases h), trivial⟩) rfl) trivial ?_
  refine .as (.str (encN (decX s) (ofV s))) (congrArg AV.str (enc_enc _ _ (decX_lt _) (ofV_lt _))) ?_
  refine .q rfl (op_move rfl) trivial ?_
  refine .q rfl (op_eqS rfl rfl rfl) trivial ?_
  refine .w rfl (op_storeRow (by kernel_rfl) rfl rfl rfl rfl rfl (rfl) (rfl)) trivial rfl rfl ?_
  refine .q rfl (op_assign rfl) trivial ?_
  refine .nil ?_
  show Ev _ _ _ _ _
  refine .ret ?_
  show RetOk _ _ _ _ _ _ _
  exact retc2 rfl (.inl rfl) ⟨_, _, _, _, rfl, rfl, rfl, rfl, rfl, Tryz.underlying40, rfl, (by kernel_rfl)⟩ rfl ⟨rfl, rfl, rfl, trivial⟩
 ·simp only [decide_eq_false_iff_not] at hc39
  refine .skip ?_
  show Ev _ _ _ _ _
  refine .seq ?_
  have hXt : 128 ≤ (s.getD 31 0).toNat → nF (rtV (decR (ofV s))) = decX s := fun h => (if_pos h).symm
  have hXf : ¬ 128 ≤ (s.getD 31 0).toNat → rtV (decR (ofV s)) = decX s := fun h => (if_neg h).symm
  refine Ev.weak (st2 := ⟨[(1, .str s), (4, .ptr 1000 0), (9, .sl 2000 0 (dl (decX s)) 1), (6, .sl 2008 0 (dl (ofV s)) 1), (8, .sl 2016 0 (dl (1)) 1)], [(1000, some ⟨.agg [.nilsl, .nilsl, .nilsl], 40, true⟩), (2000, some ⟨.aggI (dg (decX s)), 3, true⟩), (2008, some ⟨.aggI (dg (ofV s)), 3, true⟩), (2016, some ⟨.aggI (dg (1)), 3, true⟩)], 2024⟩) ?_ ?_
  ·exact StLe.mk [(1000, 1000), (2000, 1072), (2008, 1008), (2016, 1024)] rfl rfl ⟨⟨_, rfl, by rfl, rfl⟩, ⟨_, rfl, by rfl, rfl⟩, ⟨_, rfl, by (first | (rw [← hXt (by assumption)]; rfl) | (rw [← hXf (by assumption)]; rfl)), rfl⟩, ⟨_, rfl, by rfl, rfl⟩, ⟨_, rfl, by rfl, rfl⟩, trivial⟩ ⟨⟨_, _, rfl, rfl, rfl, rfl, id, rfl⟩, ⟨_, _, rfl, rfl, by (first | (rw [← hXt (by assumption)]; rfl) | (rw [← hXf (by assumption)]; rfl)), rfl, id, rfl⟩, ⟨_, _, rfl, rfl, rfl, rfl, id, rfl⟩, ⟨_, _, rfl, rfl, rfl, rfl, id, rfl⟩, trivial⟩
  show Ev _ _ _ _ _
  refine .region ?_
  refine .q (op_move rfl) trivial rfl ?_
  refine .q (op_move rfl) trivial rfl ?_
  refine .q (op_move rfl) trivial rfl ?_
  refine .q (op_buildS (r := .agg [.sl 2000 0 (dl (decX s)) 1, .sl 2008 0 (dl (ofV s)) 1, .sl 2016 0 (dl (1)) 1]) Tryz.underlying40 rfl zero40 rel_zero40 rfl rfl rfl rfl) trivial rfl ?_
  refine .a (op_allocRow zero40 rel_zero40 rfl) trivial rfl ?_
  refine .w (op_storeRow (by kernel_rfl) rfl rfl rfl rfl rfl (rfl) (rfl)) trivial rfl ?_
  refine .nil ?_
  show Ev _ _ _ _ _
  refine .seq ?_
  refine .drawn [[], [], [1], [], [1, 2, 3], [0, 1, 2], [0, 1, 2, 3, 4, 5]] [0, 1, 2, 5] [5] (by kernel_rfl) (by kernel_rfl) rfl ?_
  show DK _ [0, 1, 2, 3, 4, 5, 6] _ _ _
  refine .q rfl (op_loadRow Tryz.underlying40 rfl (by kernel_rfl) rfl rfl rfl (rfl)) trivial ?_
  refine .q rfl (op_loadRow Tryz.underlying40 rfl (by kernel_rfl) rfl rfl rfl (rfl)) trivial ?_
  refine .q rfl (op_call (U := []) [(500, 2000), (501, 2008), (502, 2016)] [] (k8bytes (decX s, ofV s, 1) ⟨(decX_lt _), (ofV_lt _), one_fp⟩) Tryz.func21 (by kernel_rfl) rfl rfl rfl (⟨⟨_, rfl, rfl, rfl⟩, trivial⟩) (⟨⟨_, _, rfl, rfl, rfl, rfl, (fun h => by cases h), rfl⟩, ⟨_, _, rfl, rfl, rfl, rfl, (fun h => by cases h), rfl⟩, ⟨_, _, rfl, rfl, rfl, rfl, (fun h => by cases h), rfl⟩, trivial⟩) (trivial) (⟨(fun h => by cases h), (fun h => by cases h), (fun h => by cases h), trivial⟩) rfl) trivial ?_
  refine .as (.str (encN (decX s) (ofV s))) (congrArg AV.str (enc_enc _ _ (decX_lt _) (ofV_lt _))) ?_
  refine .q rfl (op_move rfl) trivial ?_
  refine .q rfl (op_eqS rfl rfl rfl) trivial ?_
  refine .w rfl (op_storeRow (by kernel_rfl) rfl rfl rfl rfl rfl (rfl) (rfl)) trivial rfl rfl ?_
  refine .q rfl (op_assign rfl) trivial ?_
  refine .nil ?_
  show Ev _ _ _ _ _
  refine .ret ?_
  show RetOk _ _ _ _ _ _ _
  exact retc2 rfl (.inl rfl) ⟨_, _, _, _, rfl, rfl, rfl, rfl, rfl, Tryz.underlying40, rfl, (by kernel_rfl)⟩ rfl ⟨rfl, rfl, rfl, trivial⟩
set_option maxHeartbeats 2000000 in
set_option maxRecDepth 100000 in
theorem k8read_F (s : List UInt8) (hs : s.length = 32) (hR : rtB (decR (ofV s)) = false) : Meets Tryz.prog 16 [.sl 500 0 (dl (dV)) 1, .str s] [(500, some ⟨.aggI (dg (dV)), 3, false⟩)] (.tup [.agg [.nilsl, .sl 1024 0 (dl (1)) 1, .sl 1024 0 (dl (1)) 1], .bool false]) [(1024, some ⟨.aggI (dg (1)), 3, true⟩)] := by
 refine meets_of_ev (nt := 51) Tryz.func16 rfl rfl (Nat.le_of_ble_eq_true rfl) ?_
 refine .seq ?_
 refine .region ?_
 refine .a (op_allocRow zero40 rel_zero40 rfl) trivial rfl ?_
 refine .q (op_assign rfl) trivial rfl ?_
 refine .nil ?_
 show Ev _ _ _ _ _
 refine .seq ?_
 refine .region ?_
 refine .q (op_move rfl) trivial rfl ?_
 refine .a (op_call (U := [(1008, some ⟨.aggI (dg (ofV s)), 3, true⟩)]) [] [(1008, 1000)] (k8of s (by omega)) Tryz.func40 (by kernel_rfl) rfl rfl rfl (⟨⟨_, rfl, rfl, rfl⟩, trivial⟩) (trivial) (⟨⟨1000, _, rfl, rfl, rfl, rfl, .inl rfl⟩, trivial⟩) (trivial) rfl) trivial rfl ?_
 refine .q (op_assign rfl) trivial rfl ?_
 refine .nil ?_
 show Ev _ _ _ _ _
 refine .seq ?_
 refine .region ?_
 refine .q (op_move rfl) trivial rfl ?_
 refine .q (op_move rfl) trivial rfl ?_
 refine .a (op_call (U := [(1016, some ⟨.aggI (dg (mF (ofV s) (ofV s))), 3, true⟩)]) [(500, 1008)] [(1016, 1000)] (k8mulq (ofV s) (ofV_lt _)) Tryz.func41 (by kernel_rfl) rfl rfl rfl (⟨⟨_, rfl, rfl, rfl⟩, ⟨_, rfl, rfl, rfl⟩, trivial⟩) (⟨⟨_, _, rfl, rfl, rfl, rfl, (fun h => by cases h), rfl⟩, trivial⟩) (⟨⟨1000, _, rfl, rfl, rfl, rfl, .inl rfl⟩, trivial⟩) (⟨(fun h => by cases h), trivial⟩) rfl) trivial rfl ?_
 refine .q (op_assign rfl) trivial rfl ?_
 refine .nil ?_
 show Ev _ _ _ _ _
 refine .seq ?_
 refine .region ?_
 refine .a (op_call (U := [(1024, some ⟨.aggI (dg (1)), 3, true⟩)]) [] [(1024, 1000)] (small_ev 1 (by omega)) Tryz.func42 (by kernel_rfl) rfl rfl rfl (⟨⟨_, rfl, rfl, rfl⟩, trivial⟩) (trivial) (⟨⟨1000, _, rfl, rfl, rfl, rfl, .inl rfl⟩, trivial⟩) (trivial) rfl) trivial rfl ?_
 refine .q (op_assign rfl) trivial rfl ?_
 refine .nil ?_
 show Ev _ _ _ _ _
 refine .seq ?_
 refine .region ?_
 refine .q (op_move rfl) trivial rfl ?_
 refine .q (op_move rfl) trivial rfl ?_
 refine .a (op_call (U := [(1032, some ⟨.aggI (dg (sF (mF (ofV s) (ofV s)) (1))), 3, true⟩)]) [(500, 1016), (501, 1024)] [(1032, 1000)] (k5sub (mF (ofV s) (ofV s)) (1) (mF_lt _ _) one_fp) Tryz.func38 (by kernel_rfl) rfl rfl rfl (⟨⟨_, rfl, rfl, rfl⟩, ⟨_, rfl, rfl, rfl⟩, trivial⟩) (⟨⟨_, _, rfl, rfl, rfl, rfl, (fun h => by cases h), rfl⟩, ⟨_, _, rfl, rfl, rfl, rfl, (fun h => by cases h), rfl⟩, trivial⟩) (⟨⟨1000, _, rfl, rfl, rfl, rfl, .inl rfl⟩, trivial⟩) (⟨(fun h => by cases h), (fun h => by cases h), trivial⟩) rfl) trivial rfl ?_
 refine .q (op_move rfl) trivial rfl ?_
 refine .q (op_move rfl) trivial rfl ?_
 refine .a (op_call (U := [(1040, some ⟨.aggI (dg (mF (mF (ofV s) (ofV s)) dV)), 3, true⟩)]) [(500, 500), (501, 1016)] [(1040, 1000)] (k8mulc dV (mF (ofV s) (ofV s)) dV_lt (mF_lt _ _)) Tryz.func41 (by kernel_rfl) rfl rfl rfl (⟨⟨_, rfl, rfl, rfl⟩, ⟨_, rfl, rfl, rfl⟩, trivial⟩) (⟨⟨_, _, rfl, rfl, rfl, rfl, (fun h => by cases h), rfl⟩, ⟨_, _, rfl, rfl, rfl, rfl, (fun h => by cases h), rfl⟩, trivial⟩) (⟨⟨1000, _, rfl, rfl, rfl, rfl, .inl rfl⟩, trivial⟩) (⟨(fun h => by cases h), (fun h => by cases h), trivial⟩) rfl) trivial rfl ?_
 refine .q (op_move rfl) trivial rfl ?_
 refine .a (op_call (U := [(1048, some ⟨.aggI (dg (aF (mF (mF (ofV s) (ofV s)) dV) (1))), 3, true⟩)]) [(500, 1040), (501, 1024)] [(1048, 1000)] (k5add (mF (mF (ofV s) (ofV s)) dV) (1) (mF_lt _ _) one_fp) Tryz.func45 (by kernel_rfl) rfl rfl rfl (⟨⟨_, rfl, rfl, rfl⟩, ⟨_, rfl, rfl, rfl⟩, trivial⟩) (⟨⟨_, _, rfl, rfl, rfl, rfl, (fun h => by cases h), rfl⟩, ⟨_, _, rfl, rfl, rfl, rfl, (fun h => by cases h), rfl⟩, trivial⟩) (⟨⟨1000, _, rfl, rfl, rfl, rfl, .inl rfl⟩, trivial⟩) (⟨(fun h => by cases h), (fun h => by cases h), trivial⟩) rfl) trivial rfl ?_
 refine .a (op_call (U := [(1056, some ⟨.aggI (dg (invF (aF (mF (mF (ofV s) (ofV s)) dV) (1)))), 3, true⟩)]) [(500, 1048)] [(1056, 1000)] (k5inv (aF (mF (mF (ofV s) (ofV s)) dV) (1)) (aF_lt _ _)) Tryz.func44 (by kernel_rfl) rfl rfl rfl (⟨⟨_, rfl, rfl, rfl⟩, trivial⟩) (⟨⟨_, _, rfl, rfl, rfl, rfl, (fun h => by cases h), rfl⟩, trivial⟩) (⟨⟨1000, _, rfl, rfl, rfl, rfl, .inl rfl⟩, trivial⟩) (⟨(fun h => by cases h), trivial⟩) rfl) trivial rfl ?_
 refine .a (op_call (U := [(1064, some ⟨.aggI (dg (decR (ofV s))), 3, true⟩)]) [(500, 1032), (501, 1056)] [(1064, 1000)] (k8mul (sF (mF (ofV s) (ofV s)) (1)) (invF (aF (mF (mF (ofV s) (ofV s)) dV) (1))) (sF_lt _ _) (invF_lt _)) Tryz.func41 (by kernel_rfl) rfl rfl rfl (⟨⟨_, rfl, rfl, rfl⟩, ⟨_, rfl, rfl, rfl⟩, trivial⟩) (⟨⟨_, _, rfl, rfl, rfl, rfl, (fun h => by cases h), rfl⟩, ⟨_, _, rfl, rfl, rfl, rfl, (fun h => by cases h), rfl⟩, trivial⟩) (⟨⟨1000, _, rfl, rfl, rfl, rfl, .inl rfl⟩, trivial⟩) (⟨(fun h => by cases h), (fun h => by cases h), trivial⟩) rfl) trivial rfl ?_
 refine .q (op_call (U := []) [(500, 1064)] [] (k8root_F (decR (ofV s)) (rtX_lt _ _) hR) Tryz.func43 (by kernel_rfl) rfl rfl rfl (⟨⟨_, rfl, rfl, rfl⟩, trivial⟩) (⟨⟨_, _, rfl, rfl, rfl, rfl, (fun h => by cases h), rfl⟩, trivial⟩) (trivial) (⟨(fun h => by cases h), trivial⟩) rfl) trivial rfl ?_
 refine .q (op_move rfl) trivial rfl ?_
 refine .q (op_extract rfl rfl) trivial rfl ?_
 refine .q (op_extract rfl rfl) trivial rfl ?_
 refine .q (op_assign rfl) trivial rfl ?_
 refine .q (op_assign rfl) trivial rfl ?_
 refine .nil ?_
 show Ev _ _ _ _ _
 refine .seq ?_
 refine .seq ?_
 refine .region ?_
 refine .q (op_move rfl) trivial rfl ?_
 refine .q (op_notB rfl) trivial rfl ?_
 refine .nil ?_
 show Ev _ _ _ _ _
 refine .cond_true rfl (rfl) ?_
 refine .seq ?_
 refine .region ?_
 refine .q (op_move rfl) trivial rfl ?_
 refine .q (op_move rfl) trivial rfl ?_
 refine .q (op_buildS (r := .agg [.nilsl, .sl 1024 0 (dl (1)) 1, .sl 1024 0 (dl (1)) 1]) Tryz.underlying40 rfl zero40 rel_zero40 rfl rfl rfl rfl) trivial rfl ?_
 refine .w (op_storeRow (by kernel_rfl) rfl rfl rfl rfl rfl (rfl) (rfl)) trivial rfl ?_
 refine .q (op_assign rfl) trivial rfl ?_
 refine .nil ?_
 show Ev _ _ _ _ _
 refine .ret ?_
 show RetOk _ _ _ _ _ _ _
 exact retc2 rfl (.inl rfl) ⟨_, _, _, _, rfl, rfl, rfl, rfl, rfl, Tryz.underlying40, rfl, (by kernel_rfl)⟩ rfl ⟨rfl, trivial⟩
end Go.Proofs.YtcnjekoidgefpaaGreatDoor
