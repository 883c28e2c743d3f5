/-
  Texts of this claim.
-/
import Derived.Test.YticickigndgpcaaDoorGX1A
import Derived.Test.YticickigndgpcaaDoorGL0A
import Derived.Test.YticickigndgpcaaDoorGP1A
namespace Go.Proofs.YticickigndgpcaaDoor
open Go.RowKit
theorem infLease : Inf Tryd.prog 45 5 (.agg #[.string ⟨#[]⟩, .string ⟨#[]⟩, .int .i64 0, .int .i64 0, .int .i64 0]) := Inf.mk (b := 56) (by kernel_rfl) (by decide) rfl
theorem slen (F : List Ls) (x : Ls) : AV.sl 1016 0 (F.length + 1) 5 = .sl 1016 0 (F ++ [x]).length 5 := by rw [List.length_append]; rfl
theorem lsC_whole (l : List Ls) : ((AV.agg (lsC l)).list.drop 0).take (l.length * 5) = lsC l := by
  rw [List.drop_zero]
  exact List.take_of_length_le (by show (lsC l).length ≤ _; rw [lsC_len]; exact Nat.le_refl _)
set_option maxRecDepth 100000 in
theorem allc_ev (x : Ls) : Meets Tryd.prog 36 [lsV x] [] (.bool true) [] := by
 refine meets_of_ev (nt := 3) Tryd.func36 rfl rfl (Nat.le_of_ble_eq_true rfl) ?_
 refine .seq ?_
 refine .region ?_
 refine .a (op_boxRow rfl rfl) trivial rfl ?_
 refine .q (op_assign rfl) trivial rfl ?_
 refine .nil ?_
 show Ev _ _ _ _ _
 refine .seq ?_
 refine .region ?_
 refine .q (op_assign rfl) trivial rfl ?_
 refine .nil ?_
 show Ev _ _ _ _ _
 refine .ret ?_
 show RetOk _ _ _ _ _ _ _
 exact ret1v rfl (.inl rfl) rfl (rfl) trivial
set_option maxRecDepth 100000 in
theorem countc_ev (x : Ls) (w : List UInt8) : Meets Tryd.prog 37 [lsV x, .ptr 500 0] [(500, some ⟨.agg [.str w], 9, false⟩)] (.bool (x.t == w)) [] := by
 refine meets_of_ev (nt := 8) Tryd.func37 rfl rfl (Nat.le_of_ble_eq_true rfl) ?_
 refine .seq ?_
 refine .region ?_
 refine .a (op_boxRow rfl rfl) trivial rfl ?_
 refine .q (op_assign rfl) trivial rfl ?_
 refine .nil ?_
 show Ev _ _ _ _ _
 refine .seq ?_
 refine .region ?_
 refine .q (op_fieldAddr (m := 0) Tryd.underlying45 rfl (by kernel_rfl) rfl) trivial rfl ?_
 refine .as (.ptr 1000 0) rfl ?_
 refine .q (op_load Tryd.underlying9 rfl rfl rfl rfl (by show 0 < 5; decide)) trivial rfl ?_
 refine .q (op_load Tryd.underlying9 rfl rfl rfl rfl (by first | omega | (simp only [AV.len]; omega) | (simp only [AV.len, List.length_set]; omega) | assumption | (simp [AV.len]; done))) trivial rfl ?_
 refine .q (op_eqS rfl rfl rfl) trivial rfl ?_
 refine .q (op_assign rfl) trivial rfl ?_
 refine .nil ?_
 show Ev _ _ _ _ _
 refine .ret ?_
 show RetOk _ _ _ _ _ _ _
 exact ret1v rfl (.inl rfl) rfl (rfl) trivial
set_option maxRecDepth 100000 in
theorem beatc_ev (x : Ls) (w : Int) : Meets Tryd.prog 42 [lsV x, .ptr 500 0] [(500, some ⟨.agg [.i64 w], 3, false⟩)] (.bool (x.o == w)) [] := by
 refine meets_of_ev (nt := 8) Tryd.func42 rfl rfl (Nat.le_of_ble_eq_true rfl) ?_
 refine .seq ?_
 refine .region ?_
 refine .a (op_boxRow rfl rfl) trivial rfl ?_
 refine .q (op_assign rfl) trivial rfl ?_
 refine .nil ?_
 show Ev _ _ _ _ _
 refine .seq ?_
 refine .region ?_
 refine .q (op_fieldAddr (m := 0) Tryd.underlying45 rfl (by kernel_rfl) rfl) trivial rfl ?_
 refine .as (.ptr 1000 2) rfl ?_
 refine .q (op_load Tryd.underlying3 rfl rfl rfl rfl (by show 2 < 5; decide)) trivial rfl ?_
 refine .q (op_load Tryd.underlying3 rfl rfl rfl rfl (by first | omega | (simp only [AV.len]; omega) | (simp only [AV.len, List.length_set]; omega) | assumption | (simp [AV.len]; done))) trivial rfl ?_
 refine .q (op_cmpI rfl rfl rfl) trivial rfl ?_
 refine .q (op_assign rfl) trivial rfl ?_
 refine .nil ?_
 show Ev _ _ _ _ _
 refine .ret ?_
 show RetOk _ _ _ _ _ _ _
 exact ret1v rfl (.inl rfl) rfl (rfl) trivial
set_option maxRecDepth 100000 in
theorem dropc_ev (x : Ls) (w : Int) : Meets Tryd.prog 44 [lsV x, .ptr 500 0] [(500, some ⟨.agg [.i64 w], 3, false⟩)] (.bool (x.o == w)) [] := by
 refine meets_of_ev (nt := 8) Tryd.func44 rfl rfl (Nat.le_of_ble_eq_true rfl) ?_
 refine .seq ?_
 refine .region ?_
 refine .a (op_boxRow rfl rfl) trivial rfl ?_
 refine .q (op_assign rfl) trivial rfl ?_
 refine .nil ?_
 show Ev _ _ _ _ _
 refine .seq ?_
 refine .region ?_
 refine .q (op_fieldAddr (m := 0) Tryd.underlying45 rfl (by kernel_rfl) rfl) trivial rfl ?_
 refine .as (.ptr 1000 2) rfl ?_
 refine .q (op_load Tryd.underlying3 rfl rfl rfl rfl (by show 2 < 5; decide)) trivial rfl ?_
 refine .q (op_load Tryd.underlying3 rfl rfl rfl rfl (by first | omega | (simp only [AV.len]; omega) | (simp only [AV.len, List.length_set]; omega) | assumption | (simp [AV.len]; done))) trivial rfl ?_
 refine .q (op_cmpI rfl rfl rfl) trivial rfl ?_
 refine .q (op_assign rfl) trivial rfl ?_
 refine .nil ?_
 show Ev _ _ _ _ _
 refine .ret ?_
 show RetOk _ _ _ _ _ _ _
 exact ret1v rfl (.inl rfl) rfl (rfl) trivial
set_option maxRecDepth 100000 in
theorem expc_ev (a b c ep : Int) (x : Ls) (now : Int) (hl : 0 ≤ x.l ∧ x.l ≤ 1099511627776) : Meets Tryd.prog 45 [lsV x, .ptr 500 0, .ptr 501 0] [(500, some ⟨.agg [.i64 now], 3, false⟩), (501, some ⟨.agg [.ptr 502 0], 28, false⟩), (502, some ⟨.agg [.i64 a, .i64 b, .i64 c, .mp 503, .i64 ep], 68, false⟩)] (.bool (decide (c ≤ tickV now - x.l))) [] := by
 refine meets_of_ev (nt := 16) Tryd.func45 rfl rfl (Nat.le_of_ble_eq_true rfl) ?_
 refine .seq ?_
 refine .region ?_
 refine .a (op_boxRow rfl rfl) trivial rfl ?_
 refine .q (op_assign rfl) trivial rfl ?_
 refine .nil ?_
 show Ev _ _ _ _ _
 refine .seq ?_
 refine .drawn [[], [0], [], [2], [0, 1, 2, 3], [], [5], [5, 6], [5, 6, 7], [5, 6, 7, 8], [0, 1, 2, 3, 4, 5, 6, 7, 8, 9], [0, 1, 2, 3, 4, 5, 6, 7, 8, 9, 10]] [0, 1, 3, 5, 9] [] (by kernel_rfl) (by kernel_rfl) rfl ?_
 show DK _ [0, 1, 2, 3, 4, 5, 6, 7, 8, 9, 10, 11] _ _ _
 refine .q rfl (op_load Tryd.underlying3 rfl rfl rfl rfl (by first | omega | (simp only [AV.len]; omega) | (simp only [AV.len, List.length_set]; omega) | assumption | (simp [AV.len]; done))) trivial ?_
 refine .q rfl (op_call (U := []) [] [] (tick_ev now) Tryd.func39 (by kernel_rfl) rfl rfl rfl (⟨⟨_, rfl, rfl, rfl⟩, trivial⟩) (trivial) (trivial) (trivial) rfl) trivial ?_
 refine .q rfl (op_fieldAddr (m := 0) Tryd.underlying45 rfl (by kernel_rfl) rfl) trivial ?_
 refine .as (.ptr 1000 4) rfl ?_
 refine .q rfl (op_load Tryd.underlying3 rfl rfl rfl rfl (by show 4 < 5; decide)) trivial ?_
 refine .q rfl (op_subI rfl rfl ⟨by have := tick_in now; omega, by have := tick_in now; omega⟩) trivial ?_
 refine .q rfl (op_load Tryd.underlying28 rfl rfl rfl rfl (by first | omega | (simp only [AV.len]; omega) | (simp only [AV.len, List.length_set]; omega) | assumption | (simp [AV.len]; done))) trivial ?_
 refine .q rfl (op_nilCheck rfl) trivial ?_
 refine .q rfl (op_fieldAddr (m := 2) Tryd.underlying68 rfl (by kernel_rfl) rfl) trivial ?_
 refine .as (.ptr 502 0) rfl ?_
 refine .q rfl (op_fieldAddr (m := 0) Tryd.underlying26 rfl (by kernel_rfl) rfl) trivial ?_
 refine .as (.ptr 502 2) rfl ?_
 refine .q rfl (op_load Tryd.underlying3 rfl rfl rfl rfl (by first | omega | (simp only [AV.len]; omega) | (simp only [AV.len, List.length_set]; omega) | assumption | (simp [AV.len]; done))) trivial ?_
 refine .q rfl (op_cmpI rfl rfl rfl) trivial ?_
 refine .q rfl (op_assign rfl) trivial ?_
 refine .nil ?_
 show Ev _ _ _ _ _
 refine .ret ?_
 show RetOk _ _ _ _ _ _ _
 exact ret1v rfl (.inl rfl) rfl (rfl) trivial
set_option maxRecDepth 100000 in
theorem filtA_ev (a b c ep : Int) {M : List (Ls × Nat)} {ck : Nat} {L : List Ls} (h : MI M ck L)  : Meets Tryd.prog 35 [.ptr 500 0, .val (.func (.func 36) #[] #[])] [(500, some ⟨.agg [.i64 a, .i64 b, .i64 c, .mp 501, .i64 ep], 68, false⟩), (501, some ⟨mpV (M) (ck), 0, false⟩)] (.fsl (lsC (L.filter (fun _ => true))) (L.filter (fun _ => true)).length 5) [] := by
 refine meets_of_ev (nt := 27) Tryd.func35 rfl rfl (Nat.le_of_ble_eq_true rfl) ?_
 refine .seq ?_
 refine .region ?_
 refine .q (op_assign rfl) trivial rfl ?_
 refine .nil ?_
 show Ev _ _ _ _ _
 refine .seq ?_
 refine .region ?_
 refine .q (op_assign rfl) trivial rfl ?_
 refine .nil ?_
 show Ev _ _ _ _ _
 refine .seq ?_
 refine .seq ?_
 refine .region ?_
 refine .q (op_move rfl) trivial rfl ?_
 refine .q (op_nilCheck rfl) trivial rfl ?_
 refine .q (op_fieldAddr (m := 0) Tryd.underlying68 rfl (by kernel_rfl) rfl) trivial rfl ?_
 refine .as (.ptr 500 3) rfl ?_
 refine .q (op_load Tryd.underlying66 rfl rfl rfl rfl (by first | omega | (simp only [AV.len]; omega) | (simp only [AV.len, List.length_set]; omega) | assumption | (simp [AV.len]; done))) trivial rfl ?_
 refine .a (op_range 0 Tryd.underlying66 rfl rfl rfl) trivial rfl ?_
 refine .nil ?_
 show Ev _ _ _ _ _
 refine .block ?_
 refine Ev.loop (ι := { q : FS M (fun _ => true) // q.F = [] } ⊕ FS M (fun _ => true)) (fun q => match q with | .inl q => ⟨[(0, .ptr 500 0), (1, .val (.func (.func 36) #[] #[])), (5, .nilsl), (12, .ptr 1000 0)], [(1000, some ⟨.iter 501 ck q.1.seen ck, 0, true⟩), (500, some ⟨.agg [.i64 a, .i64 b, .i64 c, .mp 501, .i64 ep], 68, false⟩), (501, some ⟨mpV (M) (ck), 0, false⟩)], 1024⟩ | .inr q => ⟨[(0, .ptr 500 0), (1, .val (.func (.func 36) #[] #[])), (5, .sl 1016 0 q.F.length 5), (12, .ptr 1000 0)], [(1000, some ⟨.iter 501 ck q.seen ck, 0, true⟩), (1016, some ⟨.agg (lsC q.F), 45, true⟩), (500, some ⟨.agg [.i64 a, .i64 b, .i64 c, .mp 501, .i64 ep], 68, false⟩), (501, some ⟨mpV (M) (ck), 0, false⟩)], 1024⟩) (fun q => match q with | .inl q => FS.mu M q.1.seen | .inr q => FS.mu M q.seen) (.inl ⟨⟨[], [], FS.none0 M _⟩, rfl⟩) (StLe.mk [(1000, 1000)] rfl rfl ⟨⟨_, rfl, by rfl, rfl⟩, ⟨_, rfl, by rfl, rfl⟩, ⟨_, rfl, by rfl, rfl⟩, ⟨_, rfl, by rfl, rfl⟩, trivial⟩ ⟨⟨_, _, rfl, rfl, by rfl, rfl, id, rfl⟩, ⟨_, _, rfl, rfl, rfl, rfl, id, rfl⟩, ⟨_, _, rfl, rfl, rfl, rfl, id, rfl⟩, trivial⟩) ?_
 rintro (⟨⟨seen, F, hp⟩, hF⟩ | ⟨seen, F, hp⟩)
 ·try dsimp only at hF
  show Ev _ _ _ ⟨[(0, .ptr 500 0), (1, .val (.func (.func 36) #[] #[])), (5, .nilsl), (12, .ptr 1000 0)], [(1000, some ⟨.iter 501 ck seen ck, 0, true⟩), (500, some ⟨.agg [.i64 a, .i64 b, .i64 c, .mp 501, .i64 ep], 68, false⟩), (501, some ⟨mpV (M) (ck), 0, false⟩)], 1024⟩ _
  refine .seq ?_
  refine .region ?_
  refine dite (∃ n ∈ mBs M, n ∉ seen) (fun hs => ?_) (fun hs => ?_)
  ·refine .ax (op_nextX (q := 1000) (b := 501) (seen := seen) (since := ck) (last := ck) (kA := fun _ => .hole) (vA := fun _ => .hole) rfl rfl rfl (mpV_ents _ _) h.blt (Nat.le_refl _) hs (fun _ _ _ E => .hole _) (fun _ _ _ E _ _ => .hole _)) trivial rfl (fun j => ?_)
   obtain ⟨j, n, hj, hn⟩ := j
   simp only [bs_getD hj]
   show EvL _ _ _ _ _ _
   refine .q (op_extract rfl rfl) trivial rfl ?_
   refine .nil ?_
   show Ev _ _ _ _ _
   refine .seq ?_
   refine .cond_true rfl (rfl) ?_
   refine .skip ?_
   show Ev _ _ _ _ _
   refine .block ?_
   refine .seq ?_
   refine .region ?_
   refine .q (op_entry (q := 1000) (b := 501) (i := j) (n := n) (seen := seen) (since := ck) (kA := .hole) (vA := lsV (atM M j)) rfl rfl rfl (mpV_ents _ _) hj (h.bUniq hj) (fun _ _ E => .hole _) (fun v hv E y hy => ls_of _ E y (by rw [mVs_at (atM_eq hj)] at hv; injection hv with hv; subst hv; exact hy))) trivial rfl ?_
   refine .q (op_extract rfl rfl) trivial rfl ?_
   refine .a (op_allocRow zero45 rel_zero45 rfl) trivial rfl ?_
   refine .w (op_storeRow (by kernel_rfl) rfl rfl rfl rfl rfl (rfl) (rfl)) trivial rfl ?_
   refine .nil ?_
   show Ev _ _ _ _ _
   refine .seq ?_
   refine .region ?_
   refine .q (op_move rfl) trivial rfl ?_
   refine .asR (.clo 36 []) (fn_clo _) ?_
   refine .q (op_loadRow Tryd.underlying45 rfl (by kernel_rfl) rfl rfl rfl (rfl)) trivial rfl ?_
   refine .q (op_callClo (args := [lsV (atM M j)]) (args2 := []) (U := []) [] [] (allc_ev (atM M j)) Tryd.func36 (by kernel_rfl) rfl rfl rfl rfl rfl rfl ⟨⟨_, rfl, rfl, rfl⟩, trivial⟩ trivial trivial trivial rfl) trivial rfl ?_
   refine .nil ?_
   show Ev _ _ _ _ _
   refine .cond_true rfl (rfl) ?_
   refine .region ?_
   refine .q (op_move rfl) trivial rfl ?_
   refine .q (op_loadRow Tryd.underlying45 rfl (by kernel_rfl) rfl rfl rfl (rfl)) trivial rfl ?_
   refine .a (op_buildRow (z := 5) (r := lsV (atM M j)) (cs := Ls.cs (atM M j)) Tryd.underlying39 infLease (by decide) (by decide) rfl rfl rfl) trivial rfl ?_
   refine .a (ap_append_nil (c' := .agg (lsC [(atM M j)])) Tryd.underlying39 Tryd.underlying39 (.inr ⟨_, rfl⟩) infLease rfl (srcs_sl (m := 1) (o := 0) rfl rfl (by show 5 ≤ 5; decide)) rfl (by decide) (by decide)) trivial rfl ?_
   refine .q (op_assign rfl) trivial rfl ?_
   refine .nil ?_
   exact ⟨.inr ⟨seen ++ [n], [(atM M j)], by have := h.yes hj hn hp rfl; rw [hF] at this; exact this⟩, FS.less hj hn, StLe.mk [(1000, 1000), (1016, 1048)] rfl rfl ⟨⟨_, rfl, by rfl, rfl⟩, ⟨_, rfl, by rfl, rfl⟩, ⟨_, rfl, by rfl, rfl⟩, ⟨_, rfl, by rfl, rfl⟩, trivial⟩ ⟨⟨_, _, rfl, rfl, by rfl, rfl, id, rfl⟩, ⟨_, _, rfl, rfl, by exact lsC_ren _ _, rfl, id, lsC_nm _ _⟩, ⟨_, _, rfl, rfl, rfl, rfl, id, rfl⟩, ⟨_, _, rfl, rfl, rfl, rfl, id, rfl⟩, trivial⟩⟩
  ·refine .q (op_nextEnd (q := 1000) (b := 501) (seen := seen) (since := ck) (last := ck) rfl rfl rfl (mpV_ents _ _) h.blt (Nat.le_refl _) (fun n hn => Classical.not_not.1 fun hc => hs ⟨n, hn, hc⟩)) trivial rfl ?_
   refine .q (op_extract rfl rfl) trivial rfl ?_
   refine .nil ?_
   show Ev _ _ _ _ _
   refine .seq ?_
   refine .cond_false rfl (rfl) ?_
   refine .exit ?_
   show Ev _ _ _ _ _
   refine .seq ?_
   refine .region ?_
   have hall : ∀ n ∈ mBs M, n ∈ seen := fun n hn => Classical.not_not.1 fun hc => hs ⟨n, hn, hc⟩
   have hfin := h.all hp hall
   refine .q (op_move rfl) trivial rfl ?_
   refine .q (op_call (U := []) [] [] (sortNil_ev) Tryd.func50 (by kernel_rfl) rfl rfl rfl (⟨⟨_, rfl, rfl, rfl⟩, ⟨_, rfl, rfl, rfl⟩, trivial⟩) (trivial) (trivial) (trivial) rfl) trivial rfl ?_
   refine .nil ?_
   show Ev _ _ _ _ _
   refine .seq ?_
   refine .region ?_
   refine .q (op_move rfl) trivial rfl ?_
   refine .q (op_assign rfl) trivial rfl ?_
   refine .nil ?_
   show Ev _ _ _ _ _
   first
    | refine Ev.weak (StLe.freezeF (t := 4) (b := 1016) (o := 0) (n := F.length) (z := 5) (e := 45) (c := .agg (lsC (L.filter (fun _ => true)))) (Nat.le_of_ble_eq_true rfl) rfl rfl (by show 0 + F.length * 5 ≤ (lsC _).length; rw [lsC_len, ← hfin.length_eq]; omega) (lsC_still _)) ?_
    | refine Ev.asR (T1 := []) (.fsl (lsC (L.filter (fun _ => true))) (L.filter (fun _ => true)).length 5) (fun E y hy => by have hz : L.filter (fun _ => true) = [] := List.eq_nil_of_length_eq_zero (by rw [← hfin.length_eq, hF]; rfl); rw [hz]; exact nil_fsl 5 E y hy) ?_
   show Ev _ _ _ _ _
   refine .ret ?_
   show RetOk _ _ _ _ _ _ _
   exact ret1v rfl (.inl rfl) rfl (by first | rw [hfin.length_eq, lsC_whole] | rfl) trivial
 ·show Ev _ _ _ ⟨[(0, .ptr 500 0), (1, .val (.func (.func 36) #[] #[])), (5, .sl 1016 0 F.length 5), (12, .ptr 1000 0)], [(1000, some ⟨.iter 501 ck seen ck, 0, true⟩), (1016, some ⟨.agg (lsC F), 45, true⟩), (500, some ⟨.agg [.i64 a, .i64 b, .i64 c, .mp 501, .i64 ep], 68, false⟩), (501, some ⟨mpV (M) (ck), 0, false⟩)], 1024⟩ _
  refine .seq ?_
  refine .region ?_
  refine dite (∃ n ∈ mBs M, n ∉ seen) (fun hs => ?_) (fun hs => ?_)
  ·refine .ax (op_nextX (q := 1000) (b := 501) (seen := seen) (since := ck) (last := ck) (kA := fun _ => .hole) (vA := fun _ => .hole) rfl rfl rfl (mpV_ents _ _) h.blt (Nat.le_refl _) hs (fun _ _ _ E => .hole _) (fun _ _ _ E _ _ => .hole _)) trivial rfl (fun j => ?_)
   obtain ⟨j, n, hj, hn⟩ := j
   simp only [bs_getD hj]
   show EvL _ _ _ _ _ _
   refine .q (op_extract rfl rfl) trivial rfl ?_
   refine .nil ?_
   show Ev _ _ _ _ _
   refine .seq ?_
   refine .cond_true rfl (rfl) ?_
   refine .skip ?_
   show Ev _ _ _ _ _
   refine .block ?_
   refine .seq ?_
   refine .region ?_
   refine .q (op_entry (q := 1000) (b := 501) (i := j) (n := n) (seen := seen) (since := ck) (kA := .hole) (vA := lsV (atM M j)) rfl rfl rfl (mpV_ents _ _) hj (h.bUniq hj) (fun _ _ E => .hole _) (fun v hv E y hy => ls_of _ E y (by rw [mVs_at (atM_eq hj)] at hv; injection hv with hv; subst hv; exact hy))) trivial rfl ?_
   refine .q (op_extract rfl rfl) trivial rfl ?_
   refine .a (op_allocRow zero45 rel_zero45 rfl) trivial rfl ?_
   refine .w (op_storeRow (by kernel_rfl) rfl rfl rfl rfl rfl (rfl) (rfl)) trivial rfl ?_
   refine .nil ?_
   show Ev _ _ _ _ _
   refine .seq ?_
   refine .region ?_
   refine .q (op_move rfl) trivial rfl ?_
   refine .asR (.clo 36 []) (fn_clo _) ?_
   refine .q (op_loadRow Tryd.underlying45 rfl (by kernel_rfl) rfl rfl rfl (rfl)) trivial rfl ?_
   refine .q (op_callClo (args := [lsV (atM M j)]) (args2 := []) (U := []) [] [] (allc_ev (atM M j)) Tryd.func36 (by kernel_rfl) rfl rfl rfl rfl rfl rfl ⟨⟨_, rfl, rfl, rfl⟩, trivial⟩ trivial trivial trivial rfl) trivial rfl ?_
   refine .nil ?_
   show Ev _ _ _ _ _
   refine .cond_true rfl (rfl) ?_
   refine .region ?_
   refine .q (op_move rfl) trivial rfl ?_
   refine .q (op_loadRow Tryd.underlying45 rfl (by kernel_rfl) rfl rfl rfl (rfl)) trivial rfl ?_
   refine .a (op_buildRow (z := 5) (r := lsV (atM M j)) (cs := Ls.cs (atM M j)) Tryd.underlying39 infLease (by decide) (by decide) rfl rfl rfl) trivial rfl ?_
   refine .a (ap_append (c' := .agg (lsC (F ++ [(atM M j)]))) Tryd.underlying39 Tryd.underlying39 (.inr ⟨_, rfl⟩) infLease rfl rfl rfl rfl (lsC_len F) (srcs_sl (m := 1) (o := 0) rfl rfl (by show 5 ≤ 5; decide)) (lsC_app F [(atM M j)]) (by have := h.few hp; omega)) trivial rfl ?_
   refine .q (op_assign rfl) trivial rfl ?_
   refine .nil ?_
   exact ⟨.inr ⟨seen ++ [n], F ++ [(atM M j)], h.yes hj hn hp rfl⟩, FS.less hj hn, StLe.mk [(1000, 1000), (1016, 1048)] rfl rfl ⟨⟨_, rfl, by rfl, rfl⟩, ⟨_, rfl, by rfl, rfl⟩, ⟨_, rfl, by exact slen F (atM M j), rfl⟩, ⟨_, rfl, by rfl, rfl⟩, trivial⟩ ⟨⟨_, _, rfl, rfl, by rfl, rfl, id, rfl⟩, ⟨_, _, rfl, rfl, by exact lsC_ren _ _, rfl, id, lsC_nm _ _⟩, ⟨_, _, rfl, rfl, rfl, rfl, id, rfl⟩, ⟨_, _, rfl, rfl, rfl, rfl, id, rfl⟩, trivial⟩⟩
  ·refine .q (op_nextEnd (q := 1000) (b := 501) (seen := seen) (since := ck) (last := ck) rfl rfl rfl (mpV_ents _ _) h.blt (Nat.le_refl _) (fun n hn => Classical.not_not.1 fun hc => hs ⟨n, hn, hc⟩)) trivial rfl ?_
   refine .q (op_extract rfl rfl) trivial rfl ?_
   refine .nil ?_
   show Ev _ _ _ _ _
   refine .seq ?_
   refine .cond_false rfl (rfl) ?_
   refine .exit ?_
   show Ev _ _ _ _ _
   refine .seq ?_
   refine .region ?_
   have hall : ∀ n ∈ mBs M, n ∈ seen := fun n hn => Classical.not_not.1 fun hc => hs ⟨n, hn, hc⟩
   have hfin := h.all hp hall
   refine .q (op_move rfl) trivial rfl ?_
   refine .a (op_call (U := [(1016, some ⟨.agg (lsC (L.filter (fun _ => true))), 45, true⟩)]) [(500, 1016)] [] (sort_ev hfin (h.asc.filter _) (by have := h.few hp; omega)) Tryd.func50 (by kernel_rfl) rfl rfl rfl (⟨⟨_, rfl, rfl, rfl⟩, ⟨_, rfl, rfl, rfl⟩, trivial⟩) (⟨⟨_, _, rfl, rfl, lsC_ren _ _, rfl, id, lsC_nmC _ _⟩, trivial⟩) (⟨⟨500, _, rfl, lsC_blk _ _ _ _, rfl, lsC_nmF _ _ _, .inr ⟨rfl, _, rfl, rfl⟩⟩, trivial⟩) (⟨(fun _ => ⟨1016, _, rfl, rfl⟩), trivial⟩) rfl) trivial rfl ?_
   refine .nil ?_
   show Ev _ _ _ _ _
   refine .seq ?_
   refine .region ?_
   refine .q (op_move rfl) trivial rfl ?_
   refine .q (op_assign rfl) trivial rfl ?_
   refine .nil ?_
   show Ev _ _ _ _ _
   first
    | refine Ev.weak (StLe.freezeF (t := 4) (b := 1016) (o := 0) (n := F.length) (z := 5) (e := 45) (c := .agg (lsC (L.filter (fun _ => true)))) (Nat.le_of_ble_eq_true rfl) rfl rfl (by show 0 + F.length * 5 ≤ (lsC _).length; rw [lsC_len, ← hfin.length_eq]; omega) (lsC_still _)) ?_
    | refine Ev.asR (T1 := []) (.fsl (lsC (L.filter (fun _ => true))) (L.filter (fun _ => true)).length 5) (fun E y hy => by have hz : L.filter (fun _ => true) = [] := List.eq_nil_of_length_eq_zero (by rw [← hfin.length_eq, hF]; rfl); rw [hz]; exact nil_fsl 5 E y hy) ?_
   show Ev _ _ _ _ _
   refine .ret ?_
   show RetOk _ _ _ _ _ _ _
   exact ret1v rfl (.inl rfl) rfl (by first | rw [hfin.length_eq, lsC_whole] | rfl) trivial
set_option maxRecDepth 100000 in
theorem filtT_ev (a b c ep : Int) {M : List (Ls × Nat)} {ck : Nat} {L : List Ls} (h : MI M ck L) (w : List UInt8)  : Meets Tryd.prog 35 [.ptr 500 0, .clo 37 [.ptr 502 0]] [(500, some ⟨.agg [.i64 a, .i64 b, .i64 c, .mp 501, .i64 ep], 68, false⟩), (501, some ⟨mpV (M) (ck), 0, false⟩), (502, some ⟨.agg [.str w], 9, false⟩)] (.fsl (lsC (L.filter (fun x => x.t == w))) (L.filter (fun x => x.t == w)).length 5) [] := by
 refine meets_of_ev (nt := 27) Tryd.func35 rfl rfl (Nat.le_of_ble_eq_true rfl) ?_
 refine .seq ?_
 refine .region ?_
 refine .q (op_assign rfl) trivial rfl ?_
 refine .nil ?_
 show Ev _ _ _ _ _
 refine .seq ?_
 refine .region ?_
 refine .q (op_assign rfl) trivial rfl ?_
 refine .nil ?_
 show Ev _ _ _ _ _
 refine .seq ?_
 refine .seq ?_
 refine .region ?_
 refine .q (op_move rfl) trivial rfl ?_
 refine .q (op_nilCheck rfl) trivial rfl ?_
 refine .q (op_fieldAddr (m := 0) Tryd.underlying68 rfl (by kernel_rfl) rfl) trivial rfl ?_
 refine .as (.ptr 500 3) rfl ?_
 refine .q (op_load Tryd.underlying66 rfl rfl rfl rfl (by first | omega | (simp only [AV.len]; omega) | (simp only [AV.len, List.length_set]; omega) | assumption | (simp [AV.len]; done))) trivial rfl ?_
 refine .a (op_range 0 Tryd.underlying66 rfl rfl rfl) trivial rfl ?_
 refine .nil ?_
 show Ev _ _ _ _ _
 refine .block ?_
 refine Ev.loop (ι := { q : FS M (fun x => x.t == w) // q.F = [] } ⊕ FS M (fun x => x.t == w)) (fun q => match q with | .inl q => ⟨[(0, .ptr 500 0), (1, .clo 37 [.ptr 502 0]), (5, .nilsl), (12, .ptr 1000 0)], [(1000, some ⟨.iter 501 ck q.1.seen ck, 0, true⟩), (500, some ⟨.agg [.i64 a, .i64 b, .i64 c, .mp 501, .i64 ep], 68, false⟩), (501, some ⟨mpV (M) (ck), 0, false⟩), (502, some ⟨.agg [.str w], 9, false⟩)], 1024⟩ | .inr q => ⟨[(0, .ptr 500 0), (1, .clo 37 [.ptr 502 0]), (5, .sl 1016 0 q.F.length 5), (12, .ptr 1000 0)], [(1000, some ⟨.iter 501 ck q.seen ck, 0, true⟩), (1016, some ⟨.agg (lsC q.F), 45, true⟩), (500, some ⟨.agg [.i64 a, .i64 b, .i64 c, .mp 501, .i64 ep], 68, false⟩), (501, some ⟨mpV (M) (ck), 0, false⟩), (502, some ⟨.agg [.str w], 9, false⟩)], 1024⟩) (fun q => match q with | .inl q => FS.mu M q.1.seen | .inr q => FS.mu M q.seen) (.inl ⟨⟨[], [], FS.none0 M _⟩, rfl⟩) (StLe.mk [(1000, 1000)] rfl rfl ⟨⟨_, rfl, by rfl, rfl⟩, ⟨_, rfl, by rfl, rfl⟩, ⟨_, rfl, by rfl, rfl⟩, ⟨_, rfl, by rfl, rfl⟩, trivial⟩ ⟨⟨_, _, rfl, rfl, by rfl, rfl, id, rfl⟩, ⟨_, _, rfl, rfl, rfl, rfl, id, rfl⟩, ⟨_, _, rfl, rfl, rfl, rfl, id, rfl⟩, ⟨_, _, rfl, rfl, rfl, rfl, id, rfl⟩, trivial⟩) ?_
 rintro (⟨⟨seen, F, hp⟩, hF⟩ | ⟨seen, F, hp⟩)
 ·try dsimp only at hF
  show Ev _ _ _ ⟨[(0, .ptr 500 0), (1, .clo 37 [.ptr 502 0]), (5, .nilsl), (12, .ptr 1000 0)], [(1000, some ⟨.iter 501 ck seen ck, 0, true⟩), (500, some ⟨.agg [.i64 a, .i64 b, .i64 c, .mp 501, .i64 ep], 68, false⟩), (501, some ⟨mpV (M) (ck), 0, false⟩), (502, some ⟨.agg [.str w], 9, false⟩)], 1024⟩ _
  refine .seq ?_
  refine .region ?_
  refine dite (∃ n ∈ mBs M, n ∉ seen) (fun hs => ?_) (fun hs => ?_)
  ·refine .ax (op_nextX (q := 1000) (b := 501) (seen := seen) (since := ck) (last := ck) (kA := fun _ => .hole) (vA := fun _ => .hole) rfl rfl rfl (mpV_ents _ _) h.blt (Nat.le_refl _) hs (fun _ _ _ E => .hole _) (fun _ _ _ E _ _ => .hole _)) trivial rfl (fun j => ?_)
   obtain ⟨j, n, hj, hn⟩ := j
   simp only [bs_getD hj]
   show EvL _ _ _ _ _ _
   refine .q (op_extract rfl rfl) trivial rfl ?_
   refine .nil ?_
   show Ev _ _ _ _ _
   refine .seq ?_
   refine .cond_true rfl (rfl) ?_
   refine .skip ?_
   show Ev _ _ _ _ _
   refine .block ?_
   refine .seq ?_
   refine .region ?_
   refine .q (op_entry (q := 1000) (b := 501) (i := j) (n := n) (seen := seen) (since := ck) (kA := .hole) (vA := lsV (atM M j)) rfl rfl rfl (mpV_ents _ _) hj (h.bUniq hj) (fun _ _ E => .hole _) (fun v hv E y hy => ls_of _ E y (by rw [mVs_at (atM_eq hj)] at hv; injection hv with hv; subst hv; exact hy))) trivial rfl ?_
   refine .q (op_extract rfl rfl) trivial rfl ?_
   refine .a (op_allocRow zero45 rel_zero45 rfl) trivial rfl ?_
   refine .w (op_storeRow (by kernel_rfl) rfl rfl rfl rfl rfl (rfl) (rfl)) trivial rfl ?_
   refine .nil ?_
   show Ev _ _ _ _ _
   refine .seq ?_
   refine .region ?_
   refine .q (op_move rfl) trivial rfl ?_
   refine .q (op_loadRow Tryd.underlying45 rfl (by kernel_rfl) rfl rfl rfl (rfl)) trivial rfl ?_
   refine .q (op_callClo (args := [lsV (atM M j)]) (args2 := [.ptr 500 0]) (U := []) [(500, 502)] [] (countc_ev (atM M j) w) Tryd.func37 (by kernel_rfl) rfl rfl rfl rfl rfl rfl ⟨⟨_, rfl, rfl, rfl⟩, trivial⟩ ⟨⟨_, _, rfl, rfl, rfl, rfl, (fun h => by cases h), rfl⟩, trivial⟩ trivial ⟨(fun h => by cases h), trivial⟩ rfl) trivial rfl ?_
   refine .nil ?_
   show Ev _ _ _ _ _
   refine .cond rfl (fun hc19 => ?_) (fun hc19 => ?_)
   ·skip
    refine .region ?_
    refine .q (op_move rfl) trivial rfl ?_
    refine .q (op_loadRow Tryd.underlying45 rfl (by kernel_rfl) rfl rfl rfl (rfl)) trivial rfl ?_
    refine .a (op_buildRow (z := 5) (r := lsV (atM M j)) (cs := Ls.cs (atM M j)) Tryd.underlying39 infLease (by decide) (by decide) rfl rfl rfl) trivial rfl ?_
    refine .a (ap_append_nil (c' := .agg (lsC [(atM M j)])) Tryd.underlying39 Tryd.underlying39 (.inr ⟨_, rfl⟩) infLease rfl (srcs_sl (m := 1) (o := 0) rfl rfl (by show 5 ≤ 5; decide)) rfl (by decide) (by decide)) trivial rfl ?_
    refine .q (op_assign rfl) trivial rfl ?_
    refine .nil ?_
    exact ⟨.inr ⟨seen ++ [n], [(atM M j)], by have := h.yes hj hn hp hc19; rw [hF] at this; exact this⟩, FS.less hj hn, StLe.mk [(1000, 1000), (1016, 1048)] rfl rfl ⟨⟨_, rfl, by rfl, rfl⟩, ⟨_, rfl, by rfl, rfl⟩, ⟨_, rfl, by rfl, rfl⟩, ⟨_, rfl, by rfl, rfl⟩, trivial⟩ ⟨⟨_, _, rfl, rfl, by rfl, rfl, id, rfl⟩, ⟨_, _, rfl, rfl, by exact lsC_ren _ _, rfl, id, lsC_nm _ _⟩, ⟨_, _, rfl, rfl, rfl, rfl, id, rfl⟩, ⟨_, _, rfl, rfl, rfl, rfl, id, rfl⟩, ⟨_, _, rfl, rfl, rfl, rfl, id, rfl⟩, trivial⟩⟩
   ·skip
    refine .skip ?_
    exact ⟨.inl ⟨⟨seen ++ [n], [], by have := h.nope hj hn hp hc19; rw [hF] at this; exact this⟩, rfl⟩, FS.less hj hn, StLe.mk [(1000, 1000)] rfl rfl ⟨⟨_, rfl, by rfl, rfl⟩, ⟨_, rfl, by rfl, rfl⟩, ⟨_, rfl, by rfl, rfl⟩, ⟨_, rfl, by rfl, rfl⟩, trivial⟩ ⟨⟨_, _, rfl, rfl, by rfl, rfl, id, rfl⟩, ⟨_, _, rfl, rfl, rfl, rfl, id, rfl⟩, ⟨_, _, rfl, rfl, rfl, rfl, id, rfl⟩, ⟨_, _, rfl, rfl, rfl, rfl, id, rfl⟩, trivial⟩⟩
  ·refine .q (op_nextEnd (q := 1000) (b := 501) (seen := seen) (since := ck) (last := ck) rfl rfl rfl (mpV_ents _ _) h.blt (Nat.le_refl _) (fun n hn => Classical.not_not.1 fun hc => hs ⟨n, hn, hc⟩)) trivial rfl ?_
   refine .q (op_extract rfl rfl) trivial rfl ?_
   refine .nil ?_
   show Ev _ _ _ _ _
   refine .seq ?_
   refine .cond_false rfl (rfl) ?_
   refine .exit ?_
   show Ev _ _ _ _ _
   refine .seq ?_
   refine .region ?_
   have hall : ∀ n ∈ mBs M, n ∈ seen := fun n hn => Classical.not_not.1 fun hc => hs ⟨n, hn, hc⟩
   have hfin := h.all hp hall
   refine .q (op_move rfl) trivial rfl ?_
   refine .q (op_call (U := []) [] [] (sortNil_ev) Tryd.func50 (by kernel_rfl) rfl rfl rfl (⟨⟨_, rfl, rfl, rfl⟩, ⟨_, rfl, rfl, rfl⟩, trivial⟩) (trivial) (trivial) (trivial) rfl) trivial rfl ?_
   refine .nil ?_
   show Ev _ _ _ _ _
   refine .seq ?_
   refine .region ?_
   refine .q (op_move rfl) trivial rfl ?_
   refine .q (op_assign rfl) trivial rfl ?_
   refine .nil ?_
   show Ev _ _ _ _ _
   first
    | refine Ev.weak (StLe.freezeF (t := 4) (b := 1016) (o := 0) (n := F.length) (z := 5) (e := 45) (c := .agg (lsC (L.filter (fun x => x.t == w)))) (Nat.le_of_ble_eq_true rfl) rfl rfl (by show 0 + F.length * 5 ≤ (lsC _).length; rw [lsC_len, ← hfin.length_eq]; omega) (lsC_still _)) ?_
    | refine Ev.asR (T1 := []) (.fsl (lsC (L.filter (fun x => x.t == w))) (L.filter (fun x => x.t == w)).length 5) (fun E y hy => by have hz : L.filter (fun x => x.t == w) = [] := List.eq_nil_of_length_eq_zero (by rw [← hfin.length_eq, hF]; rfl); rw [hz]; exact nil_fsl 5 E y hy) ?_
   show Ev _ _ _ _ _
   refine .ret ?_
   show RetOk _ _ _ _ _ _ _
   exact ret1v rfl (.inl rfl) rfl (by first | rw [hfin.length_eq, lsC_whole] | rfl) trivial
 ·show Ev _ _ _ ⟨[(0, .ptr 500 0), (1, .clo 37 [.ptr 502 0]), (5, .sl 1016 0 F.length 5), (12, .ptr 1000 0)], [(1000, some ⟨.iter 501 ck seen ck, 0, true⟩), (1016, some ⟨.agg (lsC F), 45, true⟩), (500, some ⟨.agg [.i64 a, .i64 b, .i64 c, .mp 501, .i64 ep], 68, false⟩), (501, some ⟨mpV (M) (ck), 0, false⟩), (502, some ⟨.agg [.str w], 9, false⟩)], 1024⟩ _
  refine .seq ?_
  refine .region ?_
  refine dite (∃ n ∈ mBs M, n ∉ seen) (fun hs => ?_) (fun hs => ?_)
  ·refine .ax (op_nextX (q := 1000) (b := 501) (seen := seen) (since := ck) (last := ck) (kA := fun _ => .hole) (vA := fun _ => .hole) rfl rfl rfl (mpV_ents _ _) h.blt (Nat.le_refl _) hs (fun _ _ _ E => .hole _) (fun _ _ _ E _ _ => .hole _)) trivial rfl (fun j => ?_)
   obtain ⟨j, n, hj, hn⟩ := j
   simp only [bs_getD hj]
   show EvL _ _ _ _ _ _
   refine .q (op_extract rfl rfl) trivial rfl ?_
   refine .nil ?_
   show Ev _ _ _ _ _
   refine .seq ?_
   refine .cond_true rfl (rfl) ?_
   refine .skip ?_
   show Ev _ _ _ _ _
   refine .block ?_
   refine .seq ?_
   refine .region ?_
   refine .q (op_entry (q := 1000) (b := 501) (i := j) (n := n) (seen := seen) (since := ck) (kA := .hole) (vA := lsV (atM M j)) rfl rfl rfl (mpV_ents _ _) hj (h.bUniq hj) (fun _ _ E => .hole _) (fun v hv E y hy => ls_of _ E y (by rw [mVs_at (atM_eq hj)] at hv; injection hv with hv; subst hv; exact hy))) trivial rfl ?_
   refine .q (op_extract rfl rfl) trivial rfl ?_
   refine .a (op_allocRow zero45 rel_zero45 rfl) trivial rfl ?_
   refine .w (op_storeRow (by kernel_rfl) rfl rfl rfl rfl rfl (rfl) (rfl)) trivial rfl ?_
   refine .nil ?_
   show Ev _ _ _ _ _
   refine .seq ?_
   refine .region ?_
   refine .q (op_move rfl) trivial rfl ?_
   refine .q (op_loadRow Tryd.underlying45 rfl (by kernel_rfl) rfl rfl rfl (rfl)) trivial rfl ?_
   refine .q (op_callClo (args := [lsV (atM M j)]) (args2 := [.ptr 500 0]) (U := []) [(500, 502)] [] (countc_ev (atM M j) w) Tryd.func37 (by kernel_rfl) rfl rfl rfl rfl rfl rfl ⟨⟨_, rfl, rfl, rfl⟩, trivial⟩ ⟨⟨_, _, rfl, rfl, rfl, rfl, (fun h => by cases h), rfl⟩, trivial⟩ trivial ⟨(fun h => by cases h), trivial⟩ rfl) trivial rfl ?_
   refine .nil ?_
   show Ev _ _ _ _ _
   refine .cond rfl (fun hc19 => ?_) (fun hc19 => ?_)
   ·skip
    refine .region ?_
    refine .q (op_move rfl) trivial rfl ?_
    refine .q (op_loadRow Tryd.underlying45 rfl (by kernel_rfl) rfl rfl rfl (rfl)) trivial rfl ?_
    refine .a (op_buildRow (z := 5) (r := lsV (atM M j)) (cs := Ls.cs (atM M j)) Tryd.underlying39 infLease (by decide) (by decide) rfl rfl rfl) trivial rfl ?_
    refine .a (ap_append (c' := .agg (lsC (F ++ [(atM M j)]))) Tryd.underlying39 Tryd.underlying39 (.inr ⟨_, rfl⟩) infLease rfl rfl rfl rfl (lsC_len F) (srcs_sl (m := 1) (o := 0) rfl rfl (by show 5 ≤ 5; decide)) (lsC_app F [(atM M j)]) (by have := h.few hp; omega)) trivial rfl ?_
    refine .q (op_assign rfl) trivial rfl ?_
    refine .nil ?_
    exact ⟨.inr ⟨seen ++ [n], F ++ [(atM M j)], h.yes hj hn hp hc19⟩, FS.less hj hn, StLe.mk [(1000, 1000), (1016, 1048)] rfl rfl ⟨⟨_, rfl, by rfl, rfl⟩, ⟨_, rfl, by rfl, rfl⟩, ⟨_, rfl, by exact slen F (atM M j), rfl⟩, ⟨_, rfl, by rfl, rfl⟩, trivial⟩ ⟨⟨_, _, rfl, rfl, by rfl, rfl, id, rfl⟩, ⟨_, _, rfl, rfl, by exact lsC_ren _ _, rfl, id, lsC_nm _ _⟩, ⟨_, _, rfl, rfl, rfl, rfl, id, rfl⟩, ⟨_, _, rfl, rfl, rfl, rfl, id, rfl⟩, ⟨_, _, rfl, rfl, rfl, rfl, id, rfl⟩, trivial⟩⟩
   ·skip
    refine .skip ?_
    exact ⟨.inr ⟨seen ++ [n], F, h.nope hj hn hp hc19⟩, FS.less hj hn, StLe.mk [(1000, 1000), (1016, 1016)] rfl rfl ⟨⟨_, rfl, by rfl, rfl⟩, ⟨_, rfl, by rfl, rfl⟩, ⟨_, rfl, by rfl, rfl⟩, ⟨_, rfl, by rfl, rfl⟩, trivial⟩ ⟨⟨_, _, rfl, rfl, by rfl, rfl, id, rfl⟩, ⟨_, _, rfl, rfl, by exact lsC_ren _ _, rfl, id, lsC_nm _ _⟩, ⟨_, _, rfl, rfl, rfl, rfl, id, rfl⟩, ⟨_, _, rfl, rfl, rfl, rfl, id, rfl⟩, ⟨_, _, rfl, rfl, rfl, rfl, id, rfl⟩, trivial⟩⟩
  ·refine .q (op_nextEnd (q := 1000) (b := 501) (seen := seen) (since := ck) (last := ck) rfl rfl rfl (mpV_ents _ _) h.blt (Nat.le_refl _) (fun n hn => Classical.not_not.1 fun hc => hs ⟨n, hn, hc⟩)) trivial rfl ?_
   refine .q (op_extract rfl rfl) trivial rfl ?_
   refine .nil ?_
   show Ev _ _ _ _ _
   refine .seq ?_
   refine .cond_false rfl (rfl) ?_
   refine .exit ?_
   show Ev _ _ _ _ _
   refine .seq ?_
   refine .region ?_
   have hall : ∀ n ∈ mBs M, n ∈ seen := fun n hn => Classical.not_not.1 fun hc => hs ⟨n, hn, hc⟩
   have hfin := h.all hp hall
   refine .q (op_move rfl) trivial rfl ?_
   refine .a (op_call (U := [(1016, some ⟨.agg (lsC (L.filter (fun x => x.t == w))), 45, true⟩)]) [(500, 1016)] [] (sort_ev hfin (h.asc.filter _) (by have := h.few hp; omega)) Tryd.func50 (by kernel_rfl) rfl rfl rfl (⟨⟨_, rfl, rfl, rfl⟩, ⟨_, rfl, rfl, rfl⟩, trivial⟩) (⟨⟨_, _, rfl, rfl, lsC_ren _ _, rfl, id, lsC_nmC _ _⟩, trivial⟩) (⟨⟨500, _, rfl, lsC_blk _ _ _ _, rfl, lsC_nmF _ _ _, .inr ⟨rfl, _, rfl, rfl⟩⟩, trivial⟩) (⟨(fun _ => ⟨1016, _, rfl, rfl⟩), trivial⟩) rfl) trivial rfl ?_
   refine .nil ?_
   show Ev _ _ _ _ _
   refine .seq ?_
   refine .region ?_
   refine .q (op_move rfl) trivial rfl ?_
   refine .q (op_assign rfl) trivial rfl ?_
   refine .nil ?_
   show Ev _ _ _ _ _
   first
    | refine Ev.weak (StLe.freezeF (t := 4) (b := 1016) (o := 0) (n := F.length) (z := 5) (e := 45) (c := .agg (lsC (L.filter (fun x => x.t == w)))) (Nat.le_of_ble_eq_true rfl) rfl rfl (by show 0 + F.length * 5 ≤ (lsC _).length; rw [lsC_len, ← hfin.length_eq]; omega) (lsC_still _)) ?_
    | refine Ev.asR (T1 := []) (.fsl (lsC (L.filter (fun x => x.t == w))) (L.filter (fun x => x.t == w)).length 5) (fun E y hy => by have hz : L.filter (fun x => x.t == w) = [] := List.eq_nil_of_length_eq_zero (by rw [← hfin.length_eq, hF]; rfl); rw [hz]; exact nil_fsl 5 E y hy) ?_
   show Ev _ _ _ _ _
   refine .ret ?_
   show RetOk _ _ _ _ _ _ _
   exact ret1v rfl (.inl rfl) rfl (by first | rw [hfin.length_eq, lsC_whole] | rfl) trivial
set_option maxRecDepth 100000 in
theorem filtB_ev (a b c ep : Int) {M : List (Ls × Nat)} {ck : Nat} {L : List Ls} (h : MI M ck L) (w : Int)  : Meets Tryd.prog 35 [.ptr 500 0, .clo 42 [.ptr 502 0]] [(500, some ⟨.agg [.i64 a, .i64 b, .i64 c, .mp 501, .i64 ep], 68, false⟩), (501, some ⟨mpV (M) (ck), 0, false⟩), (502, some ⟨.agg [.i64 w], 3, false⟩)] (.fsl (lsC (L.filter (fun x => x.o == w))) (L.filter (fun x => x.o == w)).length 5) [] := by
 refine meets_of_ev (nt := 27) Tryd.func35 rfl rfl (Nat.le_of_ble_eq_true rfl) ?_
 refine .seq ?_
 refine .region ?_
 refine .q (op_assign rfl) trivial rfl ?_
 refine .nil ?_
 show Ev _ _ _ _ _
 refine .seq ?_
 refine .region ?_
 refine .q (op_assign rfl) trivial rfl ?_
 refine .nil ?_
 show Ev _ _ _ _ _
 refine .seq ?_
 refine .seq ?_
 refine .region ?_
 refine .q (op_move rfl) trivial rfl ?_
 refine .q (op_nilCheck rfl) trivial rfl ?_
 refine .q (op_fieldAddr (m := 0) Tryd.underlying68 rfl (by kernel_rfl) rfl) trivial rfl ?_
 refine .as (.ptr 500 3) rfl ?_
 refine .q (op_load Tryd.underlying66 rfl rfl rfl rfl (by first | omega | (simp only [AV.len]; omega) | (simp only [AV.len, List.length_set]; omega) | assumption | (simp [AV.len]; done))) trivial rfl ?_
 refine .a (op_range 0 Tryd.underlying66 rfl rfl rfl) trivial rfl ?_
 refine .nil ?_
 show Ev _ _ _ _ _
 refine .block ?_
 refine Ev.loop (ι := { q : FS M (fun x => x.o == w) // q.F = [] } ⊕ FS M (fun x => x.o == w)) (fun q => match q with | .inl q => ⟨[(0, .ptr 500 0), (1, .clo 42 [.ptr 502 0]), (5, .nilsl), (12, .ptr 1000 0)], [(1000, some ⟨.iter 501 ck q.1.seen ck, 0, true⟩), (500, some ⟨.agg [.i64 a, .i64 b, .i64 c, .mp 501, .i64 ep], 68, false⟩), (501, some ⟨mpV (M) (ck), 0, false⟩), (502, some ⟨.agg [.i64 w], 3, false⟩)], 1024⟩ | .inr q => ⟨[(0, .ptr 500 0), (1, .clo 42 [.ptr 502 0]), (5, .sl 1016 0 q.F.length 5), (12, .ptr 1000 0)], [(1000, some ⟨.iter 501 ck q.seen ck, 0, true⟩), (1016, some ⟨.agg (lsC q.F), 45, true⟩), (500, some ⟨.agg [.i64 a, .i64 b, .i64 c, .mp 501, .i64 ep], 68, false⟩), (501, some ⟨mpV (M) (ck), 0, false⟩), (502, some ⟨.agg [.i64 w], 3, false⟩)], 1024⟩) (fun q => match q with | .inl q => FS.mu M q.1.seen | .inr q => FS.mu M q.seen) (.inl ⟨⟨[], [], FS.none0 M _⟩, rfl⟩) (StLe.mk [(1000, 1000)] rfl rfl ⟨⟨_, rfl, by rfl, rfl⟩, ⟨_, rfl, by rfl, rfl⟩, ⟨_, rfl, by rfl, rfl⟩, ⟨_, rfl, by rfl, rfl⟩, trivial⟩ ⟨⟨_, _, rfl, rfl, by rfl, rfl, id, rfl⟩, ⟨_, _, rfl, rfl, rfl, rfl, id, rfl⟩, ⟨_, _, rfl, rfl, rfl, rfl, id, rfl⟩, ⟨_, _, rfl, rfl, rfl, rfl, id, rfl⟩, trivial⟩) ?_
 rintro (⟨⟨seen, F, hp⟩, hF⟩ | ⟨seen, F, hp⟩)
 ·try dsimp only at hF
  show Ev _ _ _ ⟨[(0, .ptr 500 0), (1, .clo 42 [.ptr 502 0]), (5, .nilsl), (12, .ptr 1000 0)], [(1000, some ⟨.iter 501 ck seen ck, 0, true⟩), (500, some ⟨.agg [.i64 a, .i64 b, .i64 c, .mp 501, .i64 ep], 68, false⟩), (501, some ⟨mpV (M) (ck), 0, false⟩), (502, some ⟨.agg [.i64 w], 3, false⟩)], 1024⟩ _
  refine .seq ?_
  refine .region ?_
  refine dite (∃ n ∈ mBs M, n ∉ seen) (fun hs => ?_) (fun hs => ?_)
  ·refine .ax (op_nextX (q := 1000) (b := 501) (seen := seen) (since := ck) (last := ck) (kA := fun _ => .hole) (vA := fun _ => .hole) rfl rfl rfl (mpV_ents _ _) h.blt (Nat.le_refl _) hs (fun _ _ _ E => .hole _) (fun _ _ _ E _ _ => .hole _)) trivial rfl (fun j => ?_)
   obtain ⟨j, n, hj, hn⟩ := j
   simp only [bs_getD hj]
   show EvL _ _ _ _ _ _
   refine .q (op_extract rfl rfl) trivial rfl ?_
   refine .nil ?_
   show Ev _ _ _ _ _
   refine .seq ?_
   refine .cond_true rfl (rfl) ?_
   refine .skip ?_
   show Ev _ _ _ _ _
   refine .block ?_
   refine .seq ?_
   refine .region ?_
   refine .q (op_entry (q := 1000) (b := 501) (i := j) (n := n) (seen := seen) (since := ck) (kA := .hole) (vA := lsV (atM M j)) rfl rfl rfl (mpV_ents _ _) hj (h.bUniq hj) (fun _ _ E => .hole _) (fun v hv E y hy => ls_of _ E y (by rw [mVs_at (atM_eq hj)] at hv; injection hv with hv; subst hv; exact hy))) trivial rfl ?_
   refine .q (op_extract rfl rfl) trivial rfl ?_
   refine .a (op_allocRow zero45 rel_zero45 rfl) trivial rfl ?_
   refine .w (op_storeRow (by kernel_rfl) rfl rfl rfl rfl rfl (rfl) (rfl)) trivial rfl ?_
   refine .nil ?_
   show Ev _ _ _ _ _
   refine .seq ?_
   refine .region ?_
   refine .q (op_move rfl) trivial rfl ?_
   refine .q (op_loadRow Tryd.underlying45 rfl (by kernel_rfl) rfl rfl rfl (rfl)) trivial rfl ?_
   refine .q (op_callClo (args := [lsV (atM M j)]) (args2 := [.ptr 500 0]) (U := []) [(500, 502)] [] (beatc_ev (atM M j) w) Tryd.func42 (by kernel_rfl) rfl rfl rfl rfl rfl rfl ⟨⟨_, rfl, rfl, rfl⟩, trivial⟩ ⟨⟨_, _, rfl, rfl, rfl, rfl, (fun h => by cases h), rfl⟩, trivial⟩ trivial ⟨(fun h => by cases h), trivial⟩ rfl) trivial rfl ?_
   refine .nil ?_
   show Ev _ _ _ _ _
   refine .cond rfl (fun hc19 => ?_) (fun hc19 => ?_)
   ·skip
    refine .region ?_
    refine .q (op_move rfl) trivial rfl ?_
    refine .q (op_loadRow Tryd.underlying45 rfl (by kernel_rfl) rfl rfl rfl (rfl)) trivial rfl ?_
    refine .a (op_buildRow (z := 5) (r := lsV (atM M j)) (cs := Ls.cs (atM M j)) Tryd.underlying39 infLease (by decide) (by decide) rfl rfl rfl) trivial rfl ?_
    refine .a (ap_append_nil (c' := .agg (lsC [(atM M j)])) Tryd.underlying39 Tryd.underlying39 (.inr ⟨_, rfl⟩) infLease rfl (srcs_sl (m := 1) (o := 0) rfl rfl (by show 5 ≤ 5; decide)) rfl (by decide) (by decide)) trivial rfl ?_
    refine .q (op_assign rfl) trivial rfl ?_
    refine .nil ?_
    exact ⟨.inr ⟨seen ++ [n], [(atM M j)], by have := h.yes hj hn hp hc19; rw [hF] at this; exact this⟩, FS.less hj hn, StLe.mk [(1000, 1000), (1016, 1048)] rfl rfl ⟨⟨_, rfl, by rfl, rfl⟩, ⟨_, rfl, by rfl, rfl⟩, ⟨_, rfl, by rfl, rfl⟩, ⟨_, rfl, by rfl, rfl⟩, trivial⟩ ⟨⟨_, _, rfl, rfl, by rfl, rfl, id, rfl⟩, ⟨_, _, rfl, rfl, by exact lsC_ren _ _, rfl, id, lsC_nm _ _⟩, ⟨_, _, rfl, rfl, rfl, rfl, id, rfl⟩, ⟨_, _, rfl, rfl, rfl, rfl, id, rfl⟩, ⟨_, _, rfl, rfl, rfl, rfl, id, rfl⟩, trivial⟩⟩
   ·skip
    refine .skip ?_
    exact ⟨.inl ⟨⟨seen ++ [n], [], by have := h.nope hj hn hp hc19; rw [hF] at this; exact this⟩, rfl⟩, FS.less hj hn, StLe.mk [(1000, 1000)] rfl rfl ⟨⟨_, rfl, by rfl, rfl⟩, ⟨_, rfl, by rfl, rfl⟩, ⟨_, rfl, by rfl, rfl⟩, ⟨_, rfl, by rfl, rfl⟩, trivial⟩ ⟨⟨_, _, rfl, rfl, by rfl, rfl, id, rfl⟩, ⟨_, _, rfl, rfl, rfl, rfl, id, rfl⟩, ⟨_, _, rfl, rfl, rfl, rfl, id, rfl⟩, ⟨_, _, rfl, rfl, rfl, rfl, id, rfl⟩, trivial⟩⟩
  ·refine .q (op_nextEnd (q := 1000) (b := 501) (seen := seen) (since := ck) (last := ck) rfl rfl rfl (mpV_ents _ _) h.blt (Nat.le_refl _) (fun n hn => Classical.not_not.1 fun hc => hs ⟨n, hn, hc⟩)) trivial rfl ?_
   refine .q (op_extract rfl rfl) trivial rfl ?_
   refine .nil ?_
   show Ev _ _ _ _ _
   refine .seq ?_
   refine .cond_false rfl (rfl) ?_
   refine .exit ?_
   show Ev _ _ _ _ _
   refine .seq ?_
   refine .region ?_
   have hall : ∀ n ∈ mBs M, n ∈ seen := fun n hn => Classical.not_not.1 fun hc => hs ⟨n, hn, hc⟩
   have hfin := h.all hp hall
   refine .q (op_move rfl) trivial rfl ?_
   refine .q (op_call (U := []) [] [] (sortNil_ev) Tryd.func50 (by kernel_rfl) rfl rfl rfl (⟨⟨_, rfl, rfl, rfl⟩, ⟨_, rfl, rfl, rfl⟩, trivial⟩) (trivial) (trivial) (trivial) rfl) trivial rfl ?_
   refine .nil ?_
   show Ev _ _ _ _ _
   refine .seq ?_
   refine .region ?_
   refine .q (op_move rfl) trivial rfl ?_
   refine .q (op_assign rfl) trivial rfl ?_
   refine .nil ?_
   show Ev _ _ _ _ _
   first
    | refine Ev.weak (StLe.freezeF (t := 4) (b := 1016) (o := 0) (n := F.length) (z := 5) (e := 45) (c := .agg (lsC (L.filter (fun x => x.o == w)))) (Nat.le_of_ble_eq_true rfl) rfl rfl (by show 0 + F.length * 5 ≤ (lsC _).length; rw [lsC_len, ← hfin.length_eq]; omega) (lsC_still _)) ?_
    | refine Ev.asR (T1 := []) (.fsl (lsC (L.filter (fun x => x.o == w))) (L.filter (fun x => x.o == w)).length 5) (fun E y hy => by have hz : L.filter (fun x => x.o == w) = [] := List.eq_nil_of_length_eq_zero (by rw [← hfin.length_eq, hF]; rfl); rw [hz]; exact nil_fsl 5 E y hy) ?_
   show Ev _ _ _ _ _
   refine .ret ?_
   show RetOk _ _ _ _ _ _ _
   exact ret1v rfl (.inl rfl) rfl (by first | rw [hfin.length_eq, lsC_whole] | rfl) trivial
 ·show Ev _ _ _ ⟨[(0, .ptr 500 0), (1, .clo 42 [.ptr 502 0]), (5, .sl 1016 0 F.length 5), (12, .ptr 1000 0)], [(1000, some ⟨.iter 501 ck seen ck, 0, true⟩), (1016, some ⟨.agg (lsC F), 45, true⟩), (500, some ⟨.agg [.i64 a, .i64 b, .i64 c, .mp 501, .i64 ep], 68, false⟩), (501, some ⟨mpV (M) (ck), 0, false⟩), (502, some ⟨.agg [.i64 w], 3, false⟩)], 1024⟩ _
  refine .seq ?_
  refine .region ?_
  refine dite (∃ n ∈ mBs M, n ∉ seen) (fun hs => ?_) (fun hs => ?_)
  ·refine .ax (op_nextX (q := 1000) (b := 501) (seen := seen) (since := ck) (last := ck) (kA := fun _ => .hole) (vA := fun _ => .hole) rfl rfl rfl (mpV_ents _ _) h.blt (Nat.le_refl _) hs (fun _ _ _ E => .hole _) (fun _ _ _ E _ _ => .hole _)) trivial rfl (fun j => ?_)
   obtain ⟨j, n, hj, hn⟩ := j
   simp only [bs_getD hj]
   show EvL _ _ _ _ _ _
   refine .q (op_extract rfl rfl) trivial rfl ?_
   refine .nil ?_
   show Ev _ _ _ _ _
   refine .seq ?_
   refine .cond_true rfl (rfl) ?_
   refine .skip ?_
   show Ev _ _ _ _ _
   refine .block ?_
   refine .seq ?_
   refine .region ?_
   refine .q (op_entry (q := 1000) (b := 501) (i := j) (n := n) (seen := seen) (since := ck) (kA := .hole) (vA := lsV (atM M j)) rfl rfl rfl (mpV_ents _ _) hj (h.bUniq hj) (fun _ _ E => .hole _) (fun v hv E y hy => ls_of _ E y (by rw [mVs_at (atM_eq hj)] at hv; injection hv with hv; subst hv; exact hy))) trivial rfl ?_
   refine .q (op_extract rfl rfl) trivial rfl ?_
   refine .a (op_allocRow zero45 rel_zero45 rfl) trivial rfl ?_
   refine .w (op_storeRow (by kernel_rfl) rfl rfl rfl rfl rfl (rfl) (rfl)) trivial rfl ?_
   refine .nil ?_
   show Ev _ _ _ _ _
   refine .seq ?_
   refine .region ?_
   refine .q (op_move rfl) trivial rfl ?_
   refine .q (op_loadRow Tryd.underlying45 rfl (by kernel_rfl) rfl rfl rfl (rfl)) trivial rfl ?_
   refine .q (op_callClo (args := [lsV (atM M j)]) (args2 := [.ptr 500 0]) (U := []) [(500, 502)] [] (beatc_ev (atM M j) w) Tryd.func42 (by kernel_rfl) rfl rfl rfl rfl rfl rfl ⟨⟨_, rfl, rfl, rfl⟩, trivial⟩ ⟨⟨_, _, rfl, rfl, rfl, rfl, (fun h => by cases h), rfl⟩, trivial⟩ trivial ⟨(fun h => by cases h), trivial⟩ rfl) trivial rfl ?_
   refine .nil ?_
   show Ev _ _ _ _ _
   refine .cond rfl (fun hc19 => ?_) (fun hc19 => ?_)
   ·skip
    refine .region ?_
    refine .q (op_move rfl) trivial rfl ?_
    refine .q (op_loadRow Tryd.underlying45 rfl (by kernel_rfl) rfl rfl rfl (rfl)) trivial rfl ?_
    refine .a (op_buildRow (z := 5) (r := lsV (atM M j)) (cs := Ls.cs (atM M j)) Tryd.underlying39 infLease (by decide) (by decide) rfl rfl rfl) trivial rfl ?_
    refine .a (ap_append (c' := .agg (lsC (F ++ [(atM M j)]))) Tryd.underlying39 Tryd.underlying39 (.inr ⟨_, rfl⟩) infLease rfl rfl rfl rfl (lsC_len F) (srcs_sl (m := 1) (o := 0) rfl rfl (by show 5 ≤ 5; decide)) (lsC_app F [(atM M j)]) (by have := h.few hp; omega)) trivial rfl ?_
    refine .q (op_assign rfl) trivial rfl ?_
    refine .nil ?_
    exact ⟨.inr ⟨seen ++ [n], F ++ [(atM M j)], h.yes hj hn hp hc19⟩, FS.less hj hn, StLe.mk [(1000, 1000), (1016, 1048)] rfl rfl ⟨⟨_, rfl, by rfl, rfl⟩, ⟨_, rfl, by rfl, rfl⟩, ⟨_, rfl, by exact slen F (atM M j), rfl⟩, ⟨_, rfl, by rfl, rfl⟩, trivial⟩ ⟨⟨_, _, rfl, rfl, by rfl, rfl, id, rfl⟩, ⟨_, _, rfl, rfl, by exact lsC_ren _ _, rfl, id, lsC_nm _ _⟩, ⟨_, _, rfl, rfl, rfl, rfl, id, rfl⟩, ⟨_, _, rfl, rfl, rfl, rfl, id, rfl⟩, ⟨_, _, rfl, rfl, rfl, rfl, id, rfl⟩, trivial⟩⟩
   ·skip
    refine .skip ?_
    exact ⟨.inr ⟨seen ++ [n], F, h.nope hj hn hp hc19⟩, FS.less hj hn, StLe.mk [(1000, 1000), (1016, 1016)] rfl rfl ⟨⟨_, rfl, by rfl, rfl⟩, ⟨_, rfl, by rfl, rfl⟩, ⟨_, rfl, by rfl, rfl⟩, ⟨_, rfl, by rfl, rfl⟩, trivial⟩ ⟨⟨_, _, rfl, rfl, by rfl, rfl, id, rfl⟩, ⟨_, _, rfl, rfl, by exact lsC_ren _ _, rfl, id, lsC_nm _ _⟩, ⟨_, _, rfl, rfl, rfl, rfl, id, rfl⟩, ⟨_, _, rfl, rfl, rfl, rfl, id, rfl⟩, ⟨_, _, rfl, rfl, rfl, rfl, id, rfl⟩, trivial⟩⟩
  ·refine .q (op_nextEnd (q := 1000) (b := 501) (seen := seen) (since := ck) (last := ck) rfl rfl rfl (mpV_ents _ _) h.blt (Nat.le_refl _) (fun n hn => Classical.not_not.1 fun hc => hs ⟨n, hn, hc⟩)) trivial rfl ?_
   refine .q (op_extract rfl rfl) trivial rfl ?_
   refine .nil ?_
   show Ev _ _ _ _ _
   refine .seq ?_
   refine .cond_false rfl (rfl) ?_
   refine .exit ?_
   show Ev _ _ _ _ _
   refine .seq ?_
   refine .region ?_
   have hall : ∀ n ∈ mBs M, n ∈ seen := fun n hn => Classical.not_not.1 fun hc => hs ⟨n, hn, hc⟩
   have hfin := h.all hp hall
   refine .q (op_move rfl) trivial rfl ?_
   refine .a (op_call (U := [(1016, some ⟨.agg (lsC (L.filter (fun x => x.o == w))), 45, true⟩)]) [(500, 1016)] [] (sort_ev hfin (h.asc.filter _) (by have := h.few hp; omega)) Tryd.func50 (by kernel_rfl) rfl rfl rfl (⟨⟨_, rfl, rfl, rfl⟩, ⟨_, rfl, rfl, rfl⟩, trivial⟩) (⟨⟨_, _, rfl, rfl, lsC_ren _ _, rfl, id, lsC_nmC _ _⟩, trivial⟩) (⟨⟨500, _, rfl, lsC_blk _ _ _ _, rfl, lsC_nmF _ _ _, .inr ⟨rfl, _, rfl, rfl⟩⟩, trivial⟩) (⟨(fun _ => ⟨1016, _, rfl, rfl⟩), trivial⟩) rfl) trivial rfl ?_
   refine .nil ?_
   show Ev _ _ _ _ _
   refine .seq ?_
   refine .region ?_
   refine .q (op_move rfl) trivial rfl ?_
   refine .q (op_assign rfl) trivial rfl ?_
   refine .nil ?_
   show Ev _ _ _ _ _
   first
    | refine Ev.weak (StLe.freezeF (t := 4) (b := 1016) (o := 0) (n := F.length) (z := 5) (e := 45) (c := .agg (lsC (L.filter (fun x => x.o == w)))) (Nat.le_of_ble_eq_true rfl) rfl rfl (by show 0 + F.length * 5 ≤ (lsC _).length; rw [lsC_len, ← hfin.length_eq]; omega) (lsC_still _)) ?_
    | refine Ev.asR (T1 := []) (.fsl (lsC (L.filter (fun x => x.o == w))) (L.filter (fun x => x.o == w)).length 5) (fun E y hy => by have hz : L.filter (fun x => x.o == w) = [] := List.eq_nil_of_length_eq_zero (by rw [← hfin.length_eq, hF]; rfl); rw [hz]; exact nil_fsl 5 E y hy) ?_
   show Ev _ _ _ _ _
   refine .ret ?_
   show RetOk _ _ _ _ _ _ _
   exact ret1v rfl (.inl rfl) rfl (by first | rw [hfin.length_eq, lsC_whole] | rfl) trivial
set_option maxRecDepth 100000 in
theorem filtD_ev (a b c ep : Int) {M : List (Ls × Nat)} {ck : Nat} {L : List Ls} (h : MI M ck L) (w : Int)  : Meets Tryd.prog 35 [.ptr 500 0, .clo 44 [.ptr 502 0]] [(500, some ⟨.agg [.i64 a, .i64 b, .i64 c, .mp 501, .i64 ep], 68, false⟩), (501, some ⟨mpV (M) (ck), 0, false⟩), (502, some ⟨.agg [.i64 w], 3, false⟩)] (.fsl (lsC (L.filter (fun x => x.o == w))) (L.filter (fun x => x.o == w)).length 5) [] := by
 refine meets_of_ev (nt := 27) Tryd.func35 rfl rfl (Nat.le_of_ble_eq_true rfl) ?_
 refine .seq ?_
 refine .region ?_
 refine .q (op_assign rfl) trivial rfl ?_
 refine .nil ?_
 show Ev _ _ _ _ _
 refine .seq ?_
 refine .region ?_
 refine .q (op_assign rfl) trivial rfl ?_
 refine .nil ?_
 show Ev _ _ _ _ _
 refine .seq ?_
 refine .seq ?_
 refine .region ?_
 refine .q (op_move rfl) trivial rfl ?_
 refine .q (op_nilCheck rfl) trivial rfl ?_
 refine .q (op_fieldAddr (m := 0) Tryd.underlying68 rfl (by kernel_rfl) rfl) trivial rfl ?_
 refine .as (.ptr 500 3) rfl ?_
 refine .q (op_load Tryd.underlying66 rfl rfl rfl rfl (by first | omega | (simp only [AV.len]; omega) | (simp only [AV.len, List.length_set]; omega) | assumption | (simp [AV.len]; done))) trivial rfl ?_
 refine .a (op_range 0 Tryd.underlying66 rfl rfl rfl) trivial rfl ?_
 refine .nil ?_
 show Ev _ _ _ _ _
 refine .block ?_
 refine Ev.loop (ι := { q : FS M (fun x => x.o == w) // q.F = [] } ⊕ FS M (fun x => x.o == w)) (fun q => match q with | .inl q => ⟨[(0, .ptr 500 0), (1, .clo 44 [.ptr 502 0]), (5, .nilsl), (12, .ptr 1000 0)], [(1000, some ⟨.iter 501 ck q.1.seen ck, 0, true⟩), (500, some ⟨.agg [.i64 a, .i64 b, .i64 c, .mp 501, .i64 ep], 68, false⟩), (501, some ⟨mpV (M) (ck), 0, false⟩), (502, some ⟨.agg [.i64 w], 3, false⟩)], 1024⟩ | .inr q => ⟨[(0, .ptr 500 0), (1, .clo 44 [.ptr 502 0]), (5, .sl 1016 0 q.F.length 5), (12, .ptr 1000 0)], [(1000, some ⟨.iter 501 ck q.seen ck, 0, true⟩), (1016, some ⟨.agg (lsC q.F), 45, true⟩), (500, some ⟨.agg [.i64 a, .i64 b, .i64 c, .mp 501, .i64 ep], 68, false⟩), (501, some ⟨mpV (M) (ck), 0, false⟩), (502, some ⟨.agg [.i64 w], 3, false⟩)], 1024⟩) (fun q => match q with | .inl q => FS.mu M q.1.seen | .inr q => FS.mu M q.seen) (.inl ⟨⟨[], [], FS.none0 M _⟩, rfl⟩) (StLe.mk [(1000, 1000)] rfl rfl ⟨⟨_, rfl, by rfl, rfl⟩, ⟨_, rfl, by rfl, rfl⟩, ⟨_, rfl, by rfl, rfl⟩, ⟨_, rfl, by rfl, rfl⟩, trivial⟩ ⟨⟨_, _, rfl, rfl, by rfl, rfl, id, rfl⟩, ⟨_, _, rfl, rfl, rfl, rfl, id, rfl⟩, ⟨_, _, rfl, rfl, rfl, rfl, id, rfl⟩, ⟨_, _, rfl, rfl, rfl, rfl, id, rfl⟩, trivial⟩) ?_
 rintro (⟨⟨seen, F, hp⟩, hF⟩ | ⟨seen, F, hp⟩)
 ·try dsimp only at hF
  show Ev _ _ _ ⟨[(0, .ptr 500 0), (1, .clo 44 [.ptr 502 0]), (5, .nilsl), (12, .ptr 1000 0)], [(1000, some ⟨.iter 501 ck seen ck, 0, true⟩), (500, some ⟨.agg [.i64 a, .i64 b, .i64 c, .mp 501, .i64 ep], 68, false⟩), (501, some ⟨mpV (M) (ck), 0, false⟩), (502, some ⟨.agg [.i64 w], 3, false⟩)], 1024⟩ _
  refine .seq ?_
  refine .region ?_
  refine dite (∃ n ∈ mBs M, n ∉ seen) (fun hs => ?_) (fun hs => ?_)
  ·refine .ax (op_nextX (q := 1000) (b := 501) (seen := seen) (since := ck) (last := ck) (kA := fun _ => .hole) (vA := fun _ => .hole) rfl rfl rfl (mpV_ents _ _) h.blt (Nat.le_refl _) hs (fun _ _ _ E => .hole _) (fun _ _ _ E _ _ => .hole _)) trivial rfl (fun j => ?_)
   obtain ⟨j, n, hj, hn⟩ := j
   simp only [bs_getD hj]
   show EvL _ _ _ _ _ _
   refine .q (op_extract rfl rfl) trivial rfl ?_
   refine .nil ?_
   show Ev _ _ _ _ _
   refine .seq ?_
   refine .cond_true rfl (rfl) ?_
   refine .skip ?_
   show Ev _ _ _ _ _
   refine .block ?_
   refine .seq ?_
   refine .region ?_
   refine .q (op_entry (q := 1000) (b := 501) (i := j) (n := n) (seen := seen) (since := ck) (kA := .hole) (vA := lsV (atM M j)) rfl rfl rfl (mpV_ents _ _) hj (h.bUniq hj) (fun _ _ E => .hole _) (fun v hv E y hy => ls_of _ E y (by rw [mVs_at (atM_eq hj)] at hv; injection hv with hv; subst hv; exact hy))) trivial rfl ?_
   refine .q (op_extract rfl rfl) trivial rfl ?_
   refine .a (op_allocRow zero45 rel_zero45 rfl) trivial rfl ?_
   refine .w (op_storeRow (by kernel_rfl) rfl rfl rfl rfl rfl (rfl) (rfl)) trivial rfl ?_
   refine .nil ?_
   show Ev _ _ _ _ _
   refine .seq ?_
   refine .region ?_
   refine .q (op_move rfl) trivial rfl ?_
   refine .q (op_loadRow Tryd.underlying45 rfl (by kernel_rfl) rfl rfl rfl (rfl)) trivial rfl ?_
   refine .q (op_callClo (args := [lsV (atM M j)]) (args2 := [.ptr 500 0]) (U := []) [(500, 502)] [] (dropc_ev (atM M j) w) Tryd.func44 (by kernel_rfl) rfl rfl rfl rfl rfl rfl ⟨⟨_, rfl, rfl, rfl⟩, trivial⟩ ⟨⟨_, _, rfl, rfl, rfl, rfl, (fun h => by cases h), rfl⟩, trivial⟩ trivial ⟨(fun h => by cases h), trivial⟩ rfl) trivial rfl ?_
   refine .nil ?_
   show Ev _ _ _ _ _
   refine .cond rfl (fun hc19 => ?_) (fun hc19 => ?_)
   ·skip
    refine .region ?_
    refine .q (op_move rfl) trivial rfl ?_
    refine .q (op_loadRow Tryd.underlying45 rfl (by kernel_rfl) rfl rfl rfl (rfl)) trivial rfl ?_
    refine .a (op_buildRow (z := 5) (r := lsV (atM M j)) (cs := Ls.cs (atM M j)) Tryd.underlying39 infLease (by decide) (by decide) rfl rfl rfl) trivial rfl ?_
    refine .a (ap_append_nil (c' := .agg (lsC [(atM M j)])) Tryd.underlying39 Tryd.underlying39 (.inr ⟨_, rfl⟩) infLease rfl (srcs_sl (m := 1) (o := 0) rfl rfl (by show 5 ≤ 5; decide)) rfl (by decide) (by decide)) trivial rfl ?_
    refine .q (op_assign rfl) trivial rfl ?_
    refine .nil ?_
    exact ⟨.inr ⟨seen ++ [n], [(atM M j)], by have := h.yes hj hn hp hc19; rw [hF] at this; exact this⟩, FS.less hj hn, StLe.mk [(1000, 1000), (1016, 1048)] rfl rfl ⟨⟨_, rfl, by rfl, rfl⟩, ⟨_, rfl, by rfl, rfl⟩, ⟨_, rfl, by rfl, rfl⟩, ⟨_, rfl, by rfl, rfl⟩, trivial⟩ ⟨⟨_, _, rfl, rfl, by rfl, rfl, id, rfl⟩, ⟨_, _, rfl, rfl, by exact lsC_ren _ _, rfl, id, lsC_nm _ _⟩, ⟨_, _, rfl, rfl, rfl, rfl, id, rfl⟩, ⟨_, _, rfl, rfl, rfl, rfl, id, rfl⟩, ⟨_, _, rfl, rfl, rfl, rfl, id, rfl⟩, trivial⟩⟩
   ·skip
    refine .skip ?_
    exact ⟨.inl ⟨⟨seen ++ [n], [], by have := h.nope hj hn hp hc19; rw [hF] at this; exact this⟩, rfl⟩, FS.less hj hn, StLe.mk [(1000, 1000)] rfl rfl ⟨⟨_, rfl, by rfl, rfl⟩, ⟨_, rfl, by rfl, rfl⟩, ⟨_, rfl, by rfl, rfl⟩, ⟨_, rfl, by rfl, rfl⟩, trivial⟩ ⟨⟨_, _, rfl, rfl, by rfl, rfl, id, rfl⟩, ⟨_, _, rfl, rfl, rfl, rfl, id, rfl⟩, ⟨_, _, rfl, rfl, rfl, rfl, id, rfl⟩, ⟨_, _, rfl, rfl, rfl, rfl, id, rfl⟩, trivial⟩⟩
  ·refine .q (op_nextEnd (q := 1000) (b := 501) (seen := seen) (since := ck) (last := ck) rfl rfl rfl (mpV_ents _ _) h.blt (Nat.le_refl _) (fun n hn => Classical.not_not.1 fun hc => hs ⟨n, hn, hc⟩)) trivial rfl ?_
   refine .q (op_extract rfl rfl) trivial rfl ?_
   refine .nil ?_
   show Ev _ _ _ _ _
   refine .seq ?_
   refine .cond_false rfl (rfl) ?_
   refine .exit ?_
   show Ev _ _ _ _ _
   refine .seq ?_
   refine .region ?_
   have hall : ∀ n ∈ mBs M, n ∈ seen := fun n hn => Classical.not_not.1 fun hc => hs ⟨n, hn, hc⟩
   have hfin := h.all hp hall
   refine .q (op_move rfl) trivial rfl ?_
   refine .q (op_call (U := []) [] [] (sortNil_ev) Tryd.func50 (by kernel_rfl) rfl rfl rfl (⟨⟨_, rfl, rfl, rfl⟩, ⟨_, rfl, rfl, rfl⟩, trivial⟩) (trivial) (trivial) (trivial) rfl) trivial rfl ?_
   refine .nil ?_
   show Ev _ _ _ _ _
   refine .seq ?_
   refine .region ?_
   refine .q (op_move rfl) trivial rfl ?_
   refine .q (op_assign rfl) trivial rfl ?_
   refine .nil ?_
   show Ev _ _ _ _ _
   first
    | refine Ev.weak (StLe.freezeF (t := 4) (b := 1016) (o := 0) (n := F.length) (z := 5) (e := 45) (c := .agg (lsC (L.filter (fun x => x.o == w)))) (Nat.le_of_ble_eq_true rfl) rfl rfl (by show 0 + F.length * 5 ≤ (lsC _).length; rw [lsC_len, ← hfin.length_eq]; omega) (lsC_still _)) ?_
    | refine Ev.asR (T1 := []) (.fsl (lsC (L.filter (fun x => x.o == w))) (L.filter (fun x => x.o == w)).length 5) (fun E y hy => by have hz : L.filter (fun x => x.o == w) = [] := List.eq_nil_of_length_eq_zero (by rw [← hfin.length_eq, hF]; rfl); rw [hz]; exact nil_fsl 5 E y hy) ?_
   show Ev _ _ _ _ _
   refine .ret ?_
   show RetOk _ _ _ _ _ _ _
   exact ret1v rfl (.inl rfl) rfl (by first | rw [hfin.length_eq, lsC_whole] | rfl) trivial
 ·show Ev _ _ _ ⟨[(0, .ptr 500 0), (1, .clo 44 [.ptr 502 0]), (5, .sl 1016 0 F.length 5), (12, .ptr 1000 0)], [(1000, some ⟨.iter 501 ck seen ck, 0, true⟩), (1016, some ⟨.agg (lsC F), 45, true⟩), (500, some ⟨.agg [.i64 a, .i64 b, .i64 c, .mp 501, .i64 ep], 68, false⟩), (501, some ⟨mpV (M) (ck), 0, false⟩), (502, some ⟨.agg [.i64 w], 3, false⟩)], 1024⟩ _
  refine .seq ?_
  refine .region ?_
  refine dite (∃ n ∈ mBs M, n ∉ seen) (fun hs => ?_) (fun hs => ?_)
  ·refine .ax (op_nextX (q := 1000) (b := 501) (seen := seen) (since := ck) (last := ck) (kA := fun _ => .hole) (vA := fun _ => .hole) rfl rfl rfl (mpV_ents _ _) h.blt (Nat.le_refl _) hs (fun _ _ _ E => .hole _) (fun _ _ _ E _ _ => .hole _)) trivial rfl (fun j => ?_)
   obtain ⟨j, n, hj, hn⟩ := j
   simp only [bs_getD hj]
   show EvL _ _ _ _ _ _
   refine .q (op_extract rfl rfl) trivial rfl ?_
   refine .nil ?_
   show Ev _ _ _ _ _
   refine .seq ?_
   refine .cond_true rfl (rfl) ?_
   refine .skip ?_
   show Ev _ _ _ _ _
   refine .block ?_
   refine .seq ?_
   refine .region ?_
   refine .q (op_entry (q := 1000) (b := 501) (i := j) (n := n) (seen := seen) (since := ck) (kA := .hole) (vA := lsV (atM M j)) rfl rfl rfl (mpV_ents _ _) hj (h.bUniq hj) (fun _ _ E => .hole _) (fun v hv E y hy => ls_of _ E y (by rw [mVs_at (atM_eq hj)] at hv; injection hv with hv; subst hv; exact hy))) trivial rfl ?_
   refine .q (op_extract rfl rfl) trivial rfl ?_
   refine .a (op_allocRow zero45 rel_zero45 rfl) trivial rfl ?_
   refine .w (op_storeRow (by kernel_rfl) rfl rfl rfl rfl rfl (rfl) (rfl)) trivial rfl ?_
   refine .nil ?_
   show Ev _ _ _ _ _
   refine .seq ?_
   refine .region ?_
   refine .q (op_move rfl) trivial rfl ?_
   refine .q (op_loadRow Tryd.underlying45 rfl (by kernel_rfl) rfl rfl rfl (rfl)) trivial rfl ?_
   refine .q (op_callClo (args := [lsV (atM M j)]) (args2 := [.ptr 500 0]) (U := []) [(500, 502)] [] (dropc_ev (atM M j) w) Tryd.func44 (by kernel_rfl) rfl rfl rfl rfl rfl rfl ⟨⟨_, rfl, rfl, rfl⟩, trivial⟩ ⟨⟨_, _, rfl, rfl, rfl, rfl, (fun h => by cases h), rfl⟩, trivial⟩ trivial ⟨(fun h => by cases h), trivial⟩ rfl) trivial rfl ?_
   refine .nil ?_
   show Ev _ _ _ _ _
   refine .cond rfl (fun hc19 => ?_) (fun hc19 => ?_)
   ·skip
    refine .region ?_
    refine .q (op_move rfl) trivial rfl ?_
    refine .q (op_loadRow Tryd.underlying45 rfl (by kernel_rfl) rfl rfl rfl (rfl)) trivial rfl ?_
    refine .a (op_buildRow (z := 5) (r := lsV (atM M j)) (cs := Ls.cs (atM M j)) Tryd.underlying39 infLease (by decide) (by decide) rfl rfl rfl) trivial rfl ?_
    refine .a (ap_append (c' := .agg (lsC (F ++ [(atM M j)]))) Tryd.underlying39 Tryd.underlying39 (.inr ⟨_, rfl⟩) infLease rfl rfl rfl rfl (lsC_len F) (srcs_sl (m := 1) (o := 0) rfl rfl (by show 5 ≤ 5; decide)) (lsC_app F [(atM M j)]) (by have := h.few hp; omega)) trivial rfl ?_
    refine .q (op_assign rfl) trivial rfl ?_
    refine .nil ?_
    exact ⟨.inr ⟨seen ++ [n], F ++ [(atM M j)], h.yes hj hn hp hc19⟩, FS.less hj hn, StLe.mk [(1000, 1000), (1016, 1048)] rfl rfl ⟨⟨_, rfl, by rfl, rfl⟩, ⟨_, rfl, by rfl, rfl⟩, ⟨_, rfl, by exact slen F (atM M j), rfl⟩, ⟨_, rfl, by rfl, rfl⟩, trivial⟩ ⟨⟨_, _, rfl, rfl, by rfl, rfl, id, rfl⟩, ⟨_, _, rfl, rfl, by exact lsC_ren _ _, rfl, id, lsC_nm _ _⟩, ⟨_, _, rfl, rfl, rfl, rfl, id, rfl⟩, ⟨_, _, rfl, rfl, rfl, rfl, id, rfl⟩, ⟨_, _, rfl, rfl, rfl, rfl, id, rfl⟩, trivial⟩⟩
   ·skip
    refine .skip ?_
    exact ⟨.inr ⟨seen ++ [n], F, h.nope hj hn hp hc19⟩, FS.less hj hn, StLe.mk [(1000, 1000), (1016, 1016)] rfl rfl ⟨⟨_, rfl, by rfl, rfl⟩, ⟨_, rfl, by rfl, rfl⟩, ⟨_, rfl, by rfl, rfl⟩, ⟨_, rfl, by rfl, rfl⟩, trivial⟩ ⟨⟨_, _, rfl, rfl, by rfl, rfl, id, rfl⟩, ⟨_, _, rfl, rfl, by exact lsC_ren _ _, rfl, id, lsC_nm _ _⟩, ⟨_, _, rfl, rfl, rfl, rfl, id, rfl⟩, ⟨_, _, rfl, rfl, rfl, rfl, id, rfl⟩, ⟨_, _, rfl, rfl, rfl, rfl, id, rfl⟩, trivial⟩⟩
  ·refine .q (op_nextEnd (q := 1000) (b := 501) (seen := seen) (since := ck) (last := ck) rfl rfl rfl (mpV_ents _ _) h.blt (Nat.le_refl _) (fun n hn => Classical.not_not.1 fun hc => hs ⟨n, hn, hc⟩)) trivial rfl ?_
   refine .q (op_extract rfl rfl) trivial rfl ?_
   refine .nil ?_
   show Ev _ _ _ _ _
   refine .seq ?_
   refine .cond_false rfl (rfl) ?_
   refine .exit ?_
   show Ev _ _ _ _ _
   refine .seq ?_
   refine .region ?_
   have hall : ∀ n ∈ mBs M, n ∈ seen := fun n hn => Classical.not_not.1 fun hc => hs ⟨n, hn, hc⟩
   have hfin := h.all hp hall
   refine .q (op_move rfl) trivial rfl ?_
   refine .a (op_call (U := [(1016, some ⟨.agg (lsC (L.filter (fun x => x.o == w))), 45, true⟩)]) [(500, 1016)] [] (sort_ev hfin (h.asc.filter _) (by have := h.few hp; omega)) Tryd.func50 (by kernel_rfl) rfl rfl rfl (⟨⟨_, rfl, rfl, rfl⟩, ⟨_, rfl, rfl, rfl⟩, trivial⟩) (⟨⟨_, _, rfl, rfl, lsC_ren _ _, rfl, id, lsC_nmC _ _⟩, trivial⟩) (⟨⟨500, _, rfl, lsC_blk _ _ _ _, rfl, lsC_nmF _ _ _, .inr ⟨rfl, _, rfl, rfl⟩⟩, trivial⟩) (⟨(fun _ => ⟨1016, _, rfl, rfl⟩), trivial⟩) rfl) trivial rfl ?_
   refine .nil ?_
   show Ev _ _ _ _ _
   refine .seq ?_
   refine .region ?_
   refine .q (op_move rfl) trivial rfl ?_
   refine .q (op_assign rfl) trivial rfl ?_
   refine .nil ?_
   show Ev _ _ _ _ _
   first
    | refine Ev.weak (StLe.freezeF (t := 4) (b := 1016) (o := 0) (n := F.length) (z := 5) (e := 45) (c := .agg (lsC (L.filter (fun x => x.o == w)))) (Nat.le_of_ble_eq_true rfl) rfl rfl (by show 0 + F.length * 5 ≤ (lsC _).length; rw [lsC_len, ← hfin.length_eq]; omega) (lsC_still _)) ?_
    | refine Ev.asR (T1 := []) (.fsl (lsC (L.filter (fun x => x.o == w))) (L.filter (fun x => x.o == w)).length 5) (fun E y hy => by have hz : L.filter (fun x => x.o == w) = [] := List.eq_nil_of_length_eq_zero (by rw [← hfin.length_eq, hF]; rfl); rw [hz]; exact nil_fsl 5 E y hy) ?_
   show Ev _ _ _ _ _
   refine .ret ?_
   show RetOk _ _ _ _ _ _ _
   exact ret1v rfl (.inl rfl) rfl (by first | rw [hfin.length_eq, lsC_whole] | rfl) trivial
set_option maxRecDepth 100000 in
theorem filtE_ev (a b c ep : Int) {M : List (Ls × Nat)} {ck : Nat} {L : List Ls} (h : MI M ck L) (now : Int) (hl : ∀ x ∈ L, 0 ≤ x.l ∧ x.l ≤ 1099511627776)  : Meets Tryd.prog 35 [.ptr 500 0, .clo 45 [.ptr 502 0, .ptr 503 0]] [(500, some ⟨.agg [.i64 a, .i64 b, .i64 c, .mp 501, .i64 ep], 68, false⟩), (501, some ⟨mpV (M) (ck), 0, false⟩), (502, some ⟨.agg [.i64 now], 3, false⟩), (503, some ⟨.agg [.ptr 500 0], 28, false⟩)] (.fsl (lsC (L.filter (fun x => decide (c ≤ tickV now - x.l)))) (L.filter (fun x => decide (c ≤ tickV now - x.l))).length 5) [] := by
 refine meets_of_ev (nt := 27) Tryd.func35 rfl rfl (Nat.le_of_ble_eq_true rfl) ?_
 refine .seq ?_
 refine .region ?_
 refine .q (op_assign rfl) trivial rfl ?_
 refine .nil ?_
 show Ev _ _ _ _ _
 refine .seq ?_
 refine .region ?_
 refine .q (op_assign rfl) trivial rfl ?_
 refine .nil ?_
 show Ev _ _ _ _ _
 refine .seq ?_
 refine .seq ?_
 refine .region ?_
 refine .q (op_move rfl) trivial rfl ?_
 refine .q (op_nilCheck rfl) trivial rfl ?_
 refine .q (op_fieldAddr (m := 0) Tryd.underlying68 rfl (by kernel_rfl) rfl) trivial rfl ?_
 refine .as (.ptr 500 3) rfl ?_
 refine .q (op_load Tryd.underlying66 rfl rfl rfl rfl (by first | omega | (simp only [AV.len]; omega) | (simp only [AV.len, List.length_set]; omega) | assumption | (simp [AV.len]; done))) trivial rfl ?_
 refine .a (op_range 0 Tryd.underlying66 rfl rfl rfl) trivial rfl ?_
 refine .nil ?_
 show Ev _ _ _ _ _
 refine .block ?_
 refine Ev.loop (ι := { q : FS M (fun x => decide (c ≤ tickV now - x.l)) // q.F = [] } ⊕ FS M (fun x => decide (c ≤ tickV now - x.l))) (fun q => match q with | .inl q => ⟨[(0, .ptr 500 0), (1, .clo 45 [.ptr 502 0, .ptr 503 0]), (5, .nilsl), (12, .ptr 1000 0)], [(1000, some ⟨.iter 501 ck q.1.seen ck, 0, true⟩), (500, some ⟨.agg [.i64 a, .i64 b, .i64 c, .mp 501, .i64 ep], 68, false⟩), (501, some ⟨mpV (M) (ck), 0, false⟩), (502, some ⟨.agg [.i64 now], 3, false⟩), (503, some ⟨.agg [.ptr 500 0], 28, false⟩)], 1024⟩ | .inr q => ⟨[(0, .ptr 500 0), (1, .clo 45 [.ptr 502 0, .ptr 503 0]), (5, .sl 1016 0 q.F.length 5), (12, .ptr 1000 0)], [(1000, some ⟨.iter 501 ck q.seen ck, 0, true⟩), (1016, some ⟨.agg (lsC q.F), 45, true⟩), (500, some ⟨.agg [.i64 a, .i64 b, .i64 c, .mp 501, .i64 ep], 68, false⟩), (501, some ⟨mpV (M) (ck), 0, false⟩), (502, some ⟨.agg [.i64 now], 3, false⟩), (503, some ⟨.agg [.ptr 500 0], 28, false⟩)], 1024⟩) (fun q => match q with | .inl q => FS.mu M q.1.seen | .inr q => FS.mu M q.seen) (.inl ⟨⟨[], [], FS.none0 M _⟩, rfl⟩) (StLe.mk [(1000, 1000)] rfl rfl ⟨⟨_, rfl, by rfl, rfl⟩, ⟨_, rfl, by rfl, rfl⟩, ⟨_, rfl, by rfl, rfl⟩, ⟨_, rfl, by rfl, rfl⟩, trivial⟩ ⟨⟨_, _, rfl, rfl, by rfl, rfl, id, rfl⟩, ⟨_, _, rfl, rfl, rfl, rfl, id, rfl⟩, ⟨_, _, rfl, rfl, rfl, rfl, id, rfl⟩, ⟨_, _, rfl, rfl, rfl, rfl, id, rfl⟩, ⟨_, _, rfl, rfl, rfl, rfl, id, rfl⟩, trivial⟩) ?_
 rintro (⟨⟨seen, F, hp⟩, hF⟩ | ⟨seen, F, hp⟩)
 ·try dsimp only at hF
  show Ev _ _ _ ⟨[(0, .ptr 500 0), (1, .clo 45 [.ptr 502 0, .ptr 503 0]), (5, .nilsl), (12, .ptr 1000 0)], [(1000, some ⟨.iter 501 ck seen ck, 0, true⟩), (500, some ⟨.agg [.i64 a, .i64 b, .i64 c, .mp 501, .i64 ep], 68, false⟩), (501, some ⟨mpV (M) (ck), 0, false⟩), (502, some ⟨.agg [.i64 now], 3, false⟩), (503, some ⟨.agg [.ptr 500 0], 28, false⟩)], 1024⟩ _
  refine .seq ?_
  refine .region ?_
  refine dite (∃ n ∈ mBs M, n ∉ seen) (fun hs => ?_) (fun hs => ?_)
  ·refine .ax (op_nextX (q := 1000) (b := 501) (seen := seen) (since := ck) (last := ck) (kA := fun _ => .hole) (vA := fun _ => .hole) rfl rfl rfl (mpV_ents _ _) h.blt (Nat.le_refl _) hs (fun _ _ _ E => .hole _) (fun _ _ _ E _ _ => .hole _)) trivial rfl (fun j => ?_)
   obtain ⟨j, n, hj, hn⟩ := j
   simp only [bs_getD hj]
   show EvL _ _ _ _ _ _
   refine .q (op_extract rfl rfl) trivial rfl ?_
   refine .nil ?_
   show Ev _ _ _ _ _
   refine .seq ?_
   refine .cond_true rfl (rfl) ?_
   refine .skip ?_
   show Ev _ _ _ _ _
   refine .block ?_
   refine .seq ?_
   refine .region ?_
   refine .q (op_entry (q := 1000) (b := 501) (i := j) (n := n) (seen := seen) (since := ck) (kA := .hole) (vA := lsV (atM M j)) rfl rfl rfl (mpV_ents _ _) hj (h.bUniq hj) (fun _ _ E => .hole _) (fun v hv E y hy => ls_of _ E y (by rw [mVs_at (atM_eq hj)] at hv; injection hv with hv; subst hv; exact hy))) trivial rfl ?_
   refine .q (op_extract rfl rfl) trivial rfl ?_
   refine .a (op_allocRow zero45 rel_zero45 rfl) trivial rfl ?_
   refine .w (op_storeRow (by kernel_rfl) rfl rfl rfl rfl rfl (rfl) (rfl)) trivial rfl ?_
   refine .nil ?_
   show Ev _ _ _ _ _
   refine .seq ?_
   refine .region ?_
   refine .q (op_move rfl) trivial rfl ?_
   refine .q (op_loadRow Tryd.underlying45 rfl (by kernel_rfl) rfl rfl rfl (rfl)) trivial rfl ?_
   refine .q (op_callClo (args := [lsV (atM M j)]) (args2 := [.ptr 500 0, .ptr 501 0]) (U := []) [(500, 502), (501, 503), (502, 500), (503, 501)] [] (expc_ev a b c ep (atM M j) now (hl _ (h.atL hj))) Tryd.func45 (by kernel_rfl) rfl rfl rfl rfl rfl rfl ⟨⟨_, rfl, rfl, rfl⟩, trivial⟩ ⟨⟨_, _, rfl, rfl, rfl, rfl, (fun h => by cases h), rfl⟩, ⟨_, _, rfl, rfl, rfl, rfl, (fun h => by cases h), rfl⟩, ⟨_, _, rfl, rfl, rfl, rfl, (fun h => by cases h), rfl⟩, trivial⟩ trivial ⟨(fun h => by cases h), (fun h => by cases h), (fun h => by cases h), trivial⟩ rfl) trivial rfl ?_
   refine .nil ?_
   show Ev _ _ _ _ _
   refine .cond rfl (fun hc19 => ?_) (fun hc19 => ?_)
   ·skip
    refine .region ?_
    refine .q (op_move rfl) trivial rfl ?_
    refine .q (op_loadRow Tryd.underlying45 rfl (by kernel_rfl) rfl rfl rfl (rfl)) trivial rfl ?_
    refine .a (op_buildRow (z := 5) (r := lsV (atM M j)) (cs := Ls.cs (atM M j)) Tryd.underlying39 infLease (by decide) (by decide) rfl rfl rfl) trivial rfl ?_
    refine .a (ap_append_nil (c' := .agg (lsC [(atM M j)])) Tryd.underlying39 Tryd.underlying39 (.inr ⟨_, rfl⟩) infLease rfl (srcs_sl (m := 1) (o := 0) rfl rfl (by show 5 ≤ 5; decide)) rfl (by decide) (by decide)) trivial rfl ?_
    refine .q (op_assign rfl) trivial rfl ?_
    refine .nil ?_
    exact ⟨.inr ⟨seen ++ [n], [(atM M j)], by have := h.yes hj hn hp hc19; rw [hF] at this; exact this⟩, FS.less hj hn, StLe.mk [(1000, 1000), (1016, 1048)] rfl rfl ⟨⟨_, rfl, by rfl, rfl⟩, ⟨_, rfl, by rfl, rfl⟩, ⟨_, rfl, by rfl, rfl⟩, ⟨_, rfl, by rfl, rfl⟩, trivial⟩ ⟨⟨_, _, rfl, rfl, by rfl, rfl, id, rfl⟩, ⟨_, _, rfl, rfl, by exact lsC_ren _ _, rfl, id, lsC_nm _ _⟩, ⟨_, _, rfl, rfl, rfl, rfl, id, rfl⟩, ⟨_, _, rfl, rfl, rfl, rfl, id, rfl⟩, ⟨_, _, rfl, rfl, rfl, rfl, id, rfl⟩, ⟨_, _, rfl, rfl, rfl, rfl, id, rfl⟩, trivial⟩⟩
   ·skip
    refine .skip ?_
    exact ⟨.inl ⟨⟨seen ++ [n], [], by have := h.nope hj hn hp hc19; rw [hF] at this; exact this⟩, rfl⟩, FS.less hj hn, StLe.mk [(1000, 1000)] rfl rfl ⟨⟨_, rfl, by rfl, rfl⟩, ⟨_, rfl, by rfl, rfl⟩, ⟨_, rfl, by rfl, rfl⟩, ⟨_, rfl, by rfl, rfl⟩, trivial⟩ ⟨⟨_, _, rfl, rfl, by rfl, rfl, id, rfl⟩, ⟨_, _, rfl, rfl, rfl, rfl, id, rfl⟩, ⟨_, _, rfl, rfl, rfl, rfl, id, rfl⟩, ⟨_, _, rfl, rfl, rfl, rfl, id, rfl⟩, ⟨_, _, rfl, rfl, rfl, rfl, id, rfl⟩, trivial⟩⟩
  ·refine .q (op_nextEnd (q := 1000) (b := 501) (seen := seen) (since := ck) (last := ck) rfl rfl rfl (mpV_ents _ _) h.blt (Nat.le_refl _) (fun n hn => Classical.not_not.1 fun hc => hs ⟨n, hn, hc⟩)) trivial rfl ?_
   refine .q (op_extract rfl rfl) trivial rfl ?_
   refine .nil ?_
   show Ev _ _ _ _ _
   refine .seq ?_
   refine .cond_false rfl (rfl) ?_
   refine .exit ?_
   show Ev _ _ _ _ _
   refine .seq ?_
   refine .region ?_
   have hall : ∀ n ∈ mBs M, n ∈ seen := fun n hn => Classical.not_not.1 fun hc => hs ⟨n, hn, hc⟩
   have hfin := h.all hp hall
   refine .q (op_move rfl) trivial rfl ?_
   refine .q (op_call (U := []) [] [] (sortNil_ev) Tryd.func50 (by kernel_rfl) rfl rfl rfl (⟨⟨_, rfl, rfl, rfl⟩, ⟨_, rfl, rfl, rfl⟩, trivial⟩) (trivial) (trivial) (trivial) rfl) trivial rfl ?_
   refine .nil ?_
   show Ev _ _ _ _ _
   refine .seq ?_
   refine .region ?_
   refine .q (op_move rfl) trivial rfl ?_
   refine .q (op_assign rfl) trivial rfl ?_
   refine .nil ?_
   show Ev _ _ _ _ _
   first
    | refine Ev.weak (StLe.freezeF (t := 4) (b := 1016) (o := 0) (n := F.length) (z := 5) (e := 45) (c := .agg (lsC (L.filter (fun x => decide (c ≤ tickV now - x.l))))) (Nat.le_of_ble_eq_true rfl) rfl rfl (by show 0 + F.length * 5 ≤ (lsC _).length; rw [lsC_len, ← hfin.length_eq]; omega) (lsC_still _)) ?_
    | refine Ev.asR (T1 := []) (.fsl (lsC (L.filter (fun x => decide (c ≤ tickV now - x.l)))) (L.filter (fun x => decide (c ≤ tickV now - x.l))).length 5) (fun E y hy => by have hz : L.filter (fun x => decide (c ≤ tickV now - x.l)) = [] := List.eq_nil_of_length_eq_zero (by rw [← hfin.length_eq, hF]; rfl); rw [hz]; exact nil_fsl 5 E y hy) ?_
   show Ev _ _ _ _ _
   refine .ret ?_
   show RetOk _ _ _ _ _ _ _
   exact ret1v rfl (.inl rfl) rfl (by first | rw [hfin.length_eq, lsC_whole] | rfl) trivial
 ·show Ev _ _ _ ⟨[(0, .ptr 500 0), (1, .clo 45 [.ptr 502 0, .ptr 503 0]), (5, .sl 1016 0 F.length 5), (12, .ptr 1000 0)], [(1000, some ⟨.iter 501 ck seen ck, 0, true⟩), (1016, some ⟨.agg (lsC F), 45, true⟩), (500, some ⟨.agg [.i64 a, .i64 b, .i64 c, .mp 501, .i64 ep], 68, false⟩), (501, some ⟨mpV (M) (ck), 0, false⟩), (502, some ⟨.agg [.i64 now], 3, false⟩), (503, some ⟨.agg [.ptr 500 0], 28, false⟩)], 1024⟩ _
  refine .seq ?_
  refine .region ?_
  refine dite (∃ n ∈ mBs M, n ∉ seen) (fun hs => ?_) (fun hs => ?_)
  ·refine .ax (op_nextX (q := 1000) (b := 501) (seen := seen) (since := ck) (last := ck) (kA := fun _ => .hole) (vA := fun _ => .hole) rfl rfl rfl (mpV_ents _ _) h.blt (Nat.le_refl _) hs (fun _ _ _ E => .hole _) (fun _ _ _ E _ _ => .hole _)) trivial rfl (fun j => ?_)
   obtain ⟨j, n, hj, hn⟩ := j
   simp only [bs_getD hj]
   show EvL _ _ _ _ _ _
   refine .q (op_extract rfl rfl) trivial rfl ?_
   refine .nil ?_
   show Ev _ _ _ _ _
   refine .seq ?_
   refine .cond_true rfl (rfl) ?_
   refine .skip ?_
   show Ev _ _ _ _ _
   refine .block ?_
   refine .seq ?_
   refine .region ?_
   refine .q (op_entry (q := 1000) (b := 501) (i := j) (n := n) (seen := seen) (since := ck) (kA := .hole) (vA := lsV (atM M j)) rfl rfl rfl (mpV_ents _ _) hj (h.bUniq hj) (fun _ _ E => .hole _) (fun v hv E y hy => ls_of _ E y (by rw [mVs_at (atM_eq hj)] at hv; injection hv with hv; subst hv; exact hy))) trivial rfl ?_
   refine .q (op_extract rfl rfl) trivial rfl ?_
   refine .a (op_allocRow zero45 rel_zero45 rfl) trivial rfl ?_
   refine .w (op_storeRow (by kernel_rfl) rfl rfl rfl rfl rfl (rfl) (rfl)) trivial rfl ?_
   refine .nil ?_
   show Ev _ _ _ _ _
   refine .seq ?_
   refine .region ?_
   refine .q (op_move rfl) trivial rfl ?_
   refine .q (op_loadRow Tryd.underlying45 rfl (by kernel_rfl) rfl rfl rfl (rfl)) trivial rfl ?_
   refine .q (op_callClo (args := [lsV (atM M j)]) (args2 := [.ptr 500 0, .ptr 501 0]) (U := []) [(500, 502), (501, 503), (502, 500), (503, 501)] [] (expc_ev a b c ep (atM M j) now (hl _ (h.atL hj))) Tryd.func45 (by kernel_rfl) rfl rfl rfl rfl rfl rfl ⟨⟨_, rfl, rfl, rfl⟩, trivial⟩ ⟨⟨_, _, rfl, rfl, rfl, rfl, (fun h => by cases h), rfl⟩, ⟨_, _, rfl, rfl, rfl, rfl, (fun h => by cases h), rfl⟩, ⟨_, _, rfl, rfl, rfl, rfl, (fun h => by cases h), rfl⟩, trivial⟩ trivial ⟨(fun h => by cases h), (fun h => by cases h), (fun h => by cases h), trivial⟩ rfl) trivial rfl ?_
   refine .nil ?_
   show Ev _ _ _ _ _
   refine .cond rfl (fun hc19 => ?_) (fun hc19 => ?_)
   ·skip
    refine .region ?_
    refine .q (op_move rfl) trivial rfl ?_
    refine .q (op_loadRow Tryd.underlying45 rfl (by kernel_rfl) rfl rfl rfl (rfl)) trivial rfl ?_
    refine .a (op_buildRow (z := 5) (r := lsV (atM M j)) (cs := Ls.cs (atM M j)) Tryd.underlying39 infLease (by decide) (by decide) rfl rfl rfl) trivial rfl ?_
    refine .a (ap_append (c' := .agg (lsC (F ++ [(atM M j)]))) Tryd.underlying39 Tryd.underlying39 (.inr ⟨_, rfl⟩) infLease rfl rfl rfl rfl (lsC_len F) (srcs_sl (m := 1) (o := 0) rfl rfl (by show 5 ≤ 5; decide)) (lsC_app F [(atM M j)]) (by have := h.few hp; omega)) trivial rfl ?_
    refine .q (op_assign rfl) trivial rfl ?_
    refine .nil ?_
    exact ⟨.inr ⟨seen ++ [n], F ++ [(atM M j)], h.yes hj hn hp hc19⟩, FS.less hj hn, StLe.mk [(1000, 1000), (1016, 1048)] rfl rfl ⟨⟨_, rfl, by rfl, rfl⟩, ⟨_, rfl, by rfl, rfl⟩, ⟨_, rfl, by exact slen F (atM M j), rfl⟩, ⟨_, rfl, by rfl, rfl⟩, trivial⟩ ⟨⟨_, _, rfl, rfl, by rfl, rfl, id, rfl⟩, ⟨_, _, rfl, rfl, by exact lsC_ren _ _, rfl, id, lsC_nm _ _⟩, ⟨_, _, rfl, rfl, rfl, rfl, id, rfl⟩, ⟨_, _, rfl, rfl, rfl, rfl, id, rfl⟩, ⟨_, _, rfl, rfl, rfl, rfl, id, rfl⟩, ⟨_, _, rfl, rfl, rfl, rfl, id, rfl⟩, trivial⟩⟩
   ·skip
    refine .skip ?_
    exact ⟨.inr ⟨seen ++ [n], F, h.nope hj hn hp hc19⟩, FS.less hj hn, StLe.mk [(1000, 1000), (1016, 1016)] rfl rfl ⟨⟨_, rfl, by rfl, rfl⟩, ⟨_, rfl, by rfl, rfl⟩, ⟨_, rfl, by rfl, rfl⟩, ⟨_, rfl, by rfl, rfl⟩, trivial⟩ ⟨⟨_, _, rfl, rfl, by rfl, rfl, id, rfl⟩, ⟨_, _, rfl, rfl, by exact lsC_ren _ _, rfl, id, lsC_nm _ _⟩, ⟨_, _, rfl, rfl, rfl, rfl, id, rfl⟩, ⟨_, _, rfl, rfl, rfl, rfl, id, rfl⟩, ⟨_, _, rfl, rfl, rfl, rfl, id, rfl⟩, ⟨_, _, rfl, rfl, rfl, rfl, id, rfl⟩, trivial⟩⟩
  ·refine .q (op_nextEnd (q := 1000) (b := 501) (seen := seen) (since := ck) (last := ck) rfl rfl rfl (mpV_ents _ _) h.blt (Nat.le_refl _) (fun n hn => Classical.not_not.1 fun hc => hs ⟨n, hn, hc⟩)) trivial rfl ?_
   refine .q (op_extract rfl rfl) trivial rfl ?_
   refine .nil ?_
   show Ev _ _ _ _ _
   refine .seq ?_
   refine .cond_false rfl (rfl) ?_
   refine .exit ?_
   show Ev _ _ _ _ _
   refine .seq ?_
   refine .region ?_
   have hall : ∀ n ∈ mBs M, n ∈ seen := fun n hn => Classical.not_not.1 fun hc => hs ⟨n, hn, hc⟩
   have hfin := h.all hp hall
   refine .q (op_move rfl) trivial rfl ?_
   refine .a (op_call (U := [(1016, some ⟨.agg (lsC (L.filter (fun x => decide (c ≤ tickV now - x.l)))), 45, true⟩)]) [(500, 1016)] [] (sort_ev hfin (h.asc.filter _) (by have := h.few hp; omega)) Tryd.func50 (by kernel_rfl) rfl rfl rfl (⟨⟨_, rfl, rfl, rfl⟩, ⟨_, rfl, rfl, rfl⟩, trivial⟩) (⟨⟨_, _, rfl, rfl, lsC_ren _ _, rfl, id, lsC_nmC _ _⟩, trivial⟩) (⟨⟨500, _, rfl, lsC_blk _ _ _ _, rfl, lsC_nmF _ _ _, .inr ⟨rfl, _, rfl, rfl⟩⟩, trivial⟩) (⟨(fun _ => ⟨1016, _, rfl, rfl⟩), trivial⟩) rfl) trivial rfl ?_
   refine .nil ?_
   show Ev _ _ _ _ _
   refine .seq ?_
   refine .region ?_
   refine .q (op_move rfl) trivial rfl ?_
   refine .q (op_assign rfl) trivial rfl ?_
   refine .nil ?_
   show Ev _ _ _ _ _
   first
    | refine Ev.weak (StLe.freezeF (t := 4) (b := 1016) (o := 0) (n := F.length) (z := 5) (e := 45) (c := .agg (lsC (L.filter (fun x => decide (c ≤ tickV now - x.l))))) (Nat.le_of_ble_eq_true rfl) rfl rfl (by show 0 + F.length * 5 ≤ (lsC _).length; rw [lsC_len, ← hfin.length_eq]; omega) (lsC_still _)) ?_
    | refine Ev.asR (T1 := []) (.fsl (lsC (L.filter (fun x => decide (c ≤ tickV now - x.l)))) (L.filter (fun x => decide (c ≤ tickV now - x.l))).length 5) (fun E y hy => by have hz : L.filter (fun x => decide (c ≤ tickV now - x.l)) = [] := List.eq_nil_of_length_eq_zero (by rw [← hfin.length_eq, hF]; rfl); rw [hz]; exact nil_fsl 5 E y hy) ?_
   show Ev _ _ _ _ _
   refine .ret ?_
   show RetOk _ _ _ _ _ _ _
   exact ret1v rfl (.inl rfl) rfl (by first | rw [hfin.length_eq, lsC_whole] | rfl) trivial
end Go.Proofs.YticickigndgpcaaDoor
namespace Go.Proofs.YticickigndgpcaaDoor
open Go.RowKit
theorem op_makeFunc2 {P : Program} {T : Nat → Option AV} {H : Hp} {f : FuncId} {x y : Operand} {u v : AV} {d ty ps af gd} {nm : Nat} {wr : Bool} (hx : aev T x = some u) (hy : aev T y = some v) :
    OpSem P T H ⟨d, .makeFunc (.func f) #[] #[x, y], ty, ps, af, gd⟩ nm wr (.clo f [u, v]) [] :=
  op_makeFunc rfl (fun i x' u' h1 h2 => by
    match i with
    | 0 => simp at h1 h2; subst h1; subst h2; exact hx
    | 1 => simp at h1 h2; subst h1; subst h2; exact hy
    | n + 2 => simp at h1)
theorem filter_tt (l : List Ls) : l.filter (fun _ => true) = l := List.filter_eq_self.2 fun _ _ => rfl
set_option maxRecDepth 100000 in
theorem all_ev (a b c ep : Int) {M : List (Ls × Nat)} {ck : Nat} {L : List Ls} (h : MI M ck L)  : Meets Tryd.prog 16 [.ptr 500 0] [(500, some ⟨.agg [.i64 a, .i64 b, .i64 c, .mp 501, .i64 ep], 68, false⟩), (501, some ⟨mpV (M) (ck), 0, false⟩)] (.fsl (lsC L) L.length 5) [] := by
 refine meets_of_ev (nt := 5) Tryd.func16 rfl rfl (Nat.le_of_ble_eq_true rfl) ?_
 refine .seq ?_
 refine .region ?_
 refine .q (op_assign rfl) trivial rfl ?_
 refine .nil ?_
 show Ev _ _ _ _ _
 refine .seq ?_
 refine .region ?_
 refine .q (op_move rfl) trivial rfl ?_
 refine .q (op_call (U := []) [(500, 500), (501, 501)] [] (filtA_ev a b c ep h) Tryd.func35 (by kernel_rfl) rfl rfl rfl (⟨⟨_, rfl, rfl, rfl⟩, ⟨_, rfl, rfl, rfl⟩, trivial⟩) (⟨⟨_, _, rfl, rfl, rfl, rfl, (fun h => by cases h), rfl⟩, ⟨_, _, rfl, rfl, rfl, rfl, (fun h => by cases h), rfl⟩, trivial⟩) (trivial) (⟨(fun h => by cases h), (fun h => by cases h), trivial⟩) rfl) trivial rfl ?_
 refine .q (op_assign rfl) trivial rfl ?_
 refine .nil ?_
 show Ev _ _ _ _ _
 refine .ret ?_
 show RetOk _ _ _ _ _ _ _
 exact ret1v rfl (.inl rfl) rfl (by rw [filter_tt]; rfl) trivial
set_option maxRecDepth 100000 in
theorem count_ev (a b c ep : Int) {M : List (Ls × Nat)} {ck : Nat} {L : List Ls} (h : MI M ck L) (w : List UInt8)  : Meets Tryd.prog 17 [.ptr 500 0, .str w] [(500, some ⟨.agg [.i64 a, .i64 b, .i64 c, .mp 501, .i64 ep], 68, false⟩), (501, some ⟨mpV (M) (ck), 0, false⟩)] (.i64 (((L.filter (fun x => x.t == w)).length : Nat) : Int)) [] := by
 refine meets_of_ev (nt := 9) Tryd.func17 rfl rfl (Nat.le_of_ble_eq_true rfl) ?_
 refine .seq ?_
 refine .region ?_
 refine .a (op_boxOne rfl rfl) trivial rfl ?_
 refine .q (op_assign rfl) trivial rfl ?_
 refine .nil ?_
 show Ev _ _ _ _ _
 refine .seq ?_
 refine .region ?_
 refine .q (op_move rfl) trivial rfl ?_
 refine .q (op_makeFunc1 rfl) trivial rfl ?_
 refine .q (op_call (U := []) [(500, 500), (501, 501), (502, 1000)] [] (filtT_ev a b c ep h w) Tryd.func35 (by kernel_rfl) rfl rfl rfl (⟨⟨_, rfl, rfl, rfl⟩, ⟨_, rfl, rfl, rfl⟩, trivial⟩) (⟨⟨_, _, rfl, rfl, rfl, rfl, (fun h => by cases h), rfl⟩, ⟨_, _, rfl, rfl, rfl, rfl, (fun h => by cases h), rfl⟩, ⟨_, _, rfl, rfl, rfl, rfl, (fun h => by cases h), rfl⟩, trivial⟩) (trivial) (⟨(fun h => by cases h), (fun h => by cases h), (fun h => by cases h), trivial⟩) rfl) trivial rfl ?_
 refine .q (op_len_fsl Tryd.underlying39 rfl) trivial rfl ?_
 refine .q (op_assign rfl) trivial rfl ?_
 refine .nil ?_
 show Ev _ _ _ _ _
 refine .ret ?_
 show RetOk _ _ _ _ _ _ _
 exact ret1v rfl (.inl rfl) rfl (rfl) trivial
set_option maxRecDepth 100000 in
theorem roomQ_ev (a b c ep : Int) {M : List (Ls × Nat)} {ck : Nat} {L : List Ls} (h : MI M ck L) (w : List UInt8) (eo : Nat → Nat × Nat) (hq : a ≤ ((L.filter (fun x => x.t == w)).length : Nat)) : Meets Tryd.prog 38 [.ptr 500 0, .str w] [(500, some ⟨.agg [.i64 a, .i64 b, .i64 c, .mp 501, .i64 ep], 68, false⟩), (501, some ⟨mpV (M) (ck), 0, false⟩), (16, some ⟨.agg [.err 155 (16) (offE eo (16))], errT, false⟩)] (.err 155 (16) (offE eo (16))) [] := by
 refine meets_of_ev (nt := 27) Tryd.func38 rfl rfl (Nat.le_of_ble_eq_true rfl) ?_
 refine .seq ?_
 refine .region ?_
 refine .q (op_assign rfl) trivial rfl ?_
 refine .nil ?_
 show Ev _ _ _ _ _
 refine .seq ?_
 refine .seq ?_
 refine .drawn [[], [], [0, 1], [], [3], [3, 4], [3, 4, 5], [3, 4, 5, 6], [0, 1, 2, 3, 4, 5, 6, 7]] [2, 7] [] (by kernel_rfl) (by kernel_rfl) rfl ?_
 show DK _ [0, 1, 2, 3, 4, 5, 6, 7, 8] _ _ _
 refine .q rfl (op_move rfl) trivial ?_
 refine .q rfl (op_move rfl) trivial ?_
 refine .q rfl (op_call (U := []) [(500, 500), (501, 501)] [] (count_ev a b c ep h w) Tryd.func17 (by kernel_rfl) rfl rfl rfl (⟨⟨_, rfl, rfl, rfl⟩, ⟨_, rfl, rfl, rfl⟩, trivial⟩) (⟨⟨_, _, rfl, rfl, rfl, rfl, (fun h => by cases h), rfl⟩, ⟨_, _, rfl, rfl, rfl, rfl, (fun h => by cases h), rfl⟩, trivial⟩) (trivial) (⟨(fun h => by cases h), (fun h => by cases h), trivial⟩) rfl) trivial ?_
 refine .q rfl (op_move rfl) trivial ?_
 refine .q rfl (op_nilCheck rfl) trivial ?_
 refine .q rfl (op_fieldAddr (m := 2) Tryd.underlying68 rfl (by kernel_rfl) rfl) trivial ?_
 refine .as (.ptr 500 0) rfl ?_
 refine .q rfl (op_fieldAddr (m := 0) Tryd.underlying26 rfl (by kernel_rfl) rfl) trivial ?_
 refine .as (.ptr 500 0) rfl ?_
 refine .q rfl (op_load Tryd.underlying3 rfl rfl rfl rfl (by first | omega | (simp only [AV.len]; omega) | (simp only [AV.len, List.length_set]; omega) | assumption | (simp [AV.len]; done))) trivial ?_
 refine .q rfl (op_cmpI rfl rfl rfl) trivial ?_
 refine .nil ?_
 show Ev _ _ _ _ _
 refine .cond_true rfl (decide_eq_true hq) ?_
 refine .seq ?_
 refine .region ?_
 refine .q (op_load Tryd.underlying47 rfl rfl rfl rfl (by first | omega | (simp only [AV.len]; omega) | (simp only [AV.len, List.length_set]; omega) | assumption | (simp [AV.len]; done))) trivial rfl ?_
 refine .q (op_assign rfl) trivial rfl ?_
 refine .nil ?_
 show Ev _ _ _ _ _
 refine .ret ?_
 show RetOk _ _ _ _ _ _ _
 exact ret1v rfl (.inl rfl) rfl (rfl) trivial
set_option maxRecDepth 100000 in
theorem roomF_ev (a b c ep : Int) {M : List (Ls × Nat)} {ck : Nat} {L : List Ls} (h : MI M ck L) (w : List UInt8) (eo : Nat → Nat × Nat) (hq : ¬ a ≤ ((L.filter (fun x => x.t == w)).length : Nat)) (hf : b ≤ (L.length : Nat)) : Meets Tryd.prog 38 [.ptr 500 0, .str w] [(500, some ⟨.agg [.i64 a, .i64 b, .i64 c, .mp 501, .i64 ep], 68, false⟩), (501, some ⟨mpV (M) (ck), 0, false⟩), (9, some ⟨.agg [.err 155 (7) (offE eo (7))], errT, false⟩)] (.err 155 (7) (offE eo (7))) [] := by
 refine meets_of_ev (nt := 27) Tryd.func38 rfl rfl (Nat.le_of_ble_eq_true rfl) ?_
 refine .seq ?_
 refine .region ?_
 refine .q (op_assign rfl) trivial rfl ?_
 refine .nil ?_
 show Ev _ _ _ _ _
 refine .seq ?_
 refine .seq ?_
 refine .drawn [[], [], [0, 1], [], [3], [3, 4], [3, 4, 5], [3, 4, 5, 6], [0, 1, 2, 3, 4, 5, 6, 7]] [2, 7] [] (by kernel_rfl) (by kernel_rfl) rfl ?_
 show DK _ [0, 1, 2, 3, 4, 5, 6, 7, 8] _ _ _
 refine .q rfl (op_move rfl) trivial ?_
 refine .q rfl (op_move rfl) trivial ?_
 refine .q rfl (op_call (U := []) [(500, 500), (501, 501)] [] (count_ev a b c ep h w) Tryd.func17 (by kernel_rfl) rfl rfl rfl (⟨⟨_, rfl, rfl, rfl⟩, ⟨_, rfl, rfl, rfl⟩, trivial⟩) (⟨⟨_, _, rfl, rfl, rfl, rfl, (fun h => by cases h), rfl⟩, ⟨_, _, rfl, rfl, rfl, rfl, (fun h => by cases h), rfl⟩, trivial⟩) (trivial) (⟨(fun h => by cases h), (fun h => by cases h), trivial⟩) rfl) trivial ?_
 refine .q rfl (op_move rfl) trivial ?_
 refine .q rfl (op_nilCheck rfl) trivial ?_
 refine .q rfl (op_fieldAddr (m := 2) Tryd.underlying68 rfl (by kernel_rfl) rfl) trivial ?_
 refine .as (.ptr 500 0) rfl ?_
 refine .q rfl (op_fieldAddr (m := 0) Tryd.underlying26 rfl (by kernel_rfl) rfl) trivial ?_
 refine .as (.ptr 500 0) rfl ?_
 refine .q rfl (op_load Tryd.underlying3 rfl rfl rfl rfl (by first | omega | (simp only [AV.len]; omega) | (simp only [AV.len, List.length_set]; omega) | assumption | (simp [AV.len]; done))) trivial ?_
 refine .q rfl (op_cmpI rfl rfl rfl) trivial ?_
 refine .nil ?_
 show Ev _ _ _ _ _
 refine .cond_false rfl (decide_eq_false hq) ?_
 refine .skip ?_
 show Ev _ _ _ _ _
 refine .seq ?_
 refine .seq ?_
 refine .drawn [[], [0], [0, 1], [0, 1, 2], [0, 1, 2, 3], [], [5], [5, 6], [5, 6, 7], [5, 6, 7, 8], [0, 1, 2, 3, 4, 5, 6, 7, 8, 9]] [3, 4, 9] [] (by kernel_rfl) (by kernel_rfl) rfl ?_
 show DK _ [0, 1, 2, 3, 4, 5, 6, 7, 8, 9, 10] _ _ _
 refine .q rfl (op_move rfl) trivial ?_
 refine .q rfl (op_nilCheck rfl) trivial ?_
 refine .q rfl (op_fieldAddr (m := 0) Tryd.underlying68 rfl (by kernel_rfl) rfl) trivial ?_
 refine .as (.ptr 500 3) rfl ?_
 refine .q rfl (op_load Tryd.underlying66 rfl rfl rfl rfl (by first | omega | (simp only [AV.len]; omega) | (simp only [AV.len, List.length_set]; omega) | assumption | (simp [AV.len]; done))) trivial ?_
 refine .q rfl (op_len_map (k := ⟨mpV M ck, 0, false⟩) Tryd.underlying66 rfl rfl (mpV_ents _ _)) trivial ?_
 refine .q rfl (op_move rfl) trivial ?_
 refine .q rfl (op_nilCheck rfl) trivial ?_
 refine .q rfl (op_fieldAddr (m := 2) Tryd.underlying68 rfl (by kernel_rfl) rfl) trivial ?_
 refine .as (.ptr 500 0) rfl ?_
 refine .q rfl (op_fieldAddr (m := 0) Tryd.underlying26 rfl (by kernel_rfl) rfl) trivial ?_
 refine .as (.ptr 500 1) rfl ?_
 refine .q rfl (op_load Tryd.underlying3 rfl rfl rfl rfl (by first | omega | (simp only [AV.len]; omega) | (simp only [AV.len, List.length_set]; omega) | assumption | (simp [AV.len]; done))) trivial ?_
 refine .q rfl (op_cmpI rfl rfl rfl) trivial ?_
 refine .nil ?_
 show Ev _ _ _ _ _
 refine .cond_true rfl (decide_eq_true (by rw [mKs, List.length_map, h.size]; exact hf)) ?_
 refine .seq ?_
 refine .region ?_
 refine .q (op_load Tryd.underlying47 rfl rfl rfl rfl (by first | omega | (simp only [AV.len]; omega) | (simp only [AV.len, List.length_set]; omega) | assumption | (simp [AV.len]; done))) trivial rfl ?_
 refine .q (op_assign rfl) trivial rfl ?_
 refine .nil ?_
 show Ev _ _ _ _ _
 refine .ret ?_
 show RetOk _ _ _ _ _ _ _
 exact ret1v rfl (.inl rfl) rfl (rfl) trivial
set_option maxRecDepth 100000 in
theorem roomI_ev (a b c ep : Int) {M : List (Ls × Nat)} {ck : Nat} {L : List Ls} (h : MI M ck L) (w : List UInt8) (hq : ¬ a ≤ ((L.filter (fun x => x.t == w)).length : Nat)) (hf : ¬ b ≤ (L.length : Nat)) : Meets Tryd.prog 38 [.ptr 500 0, .str w] [(500, some ⟨.agg [.i64 a, .i64 b, .i64 c, .mp 501, .i64 ep], 68, false⟩), (501, some ⟨mpV (M) (ck), 0, false⟩)] (.val .nilIface) [] := by
 refine meets_of_ev (nt := 27) Tryd.func38 rfl rfl (Nat.le_of_ble_eq_true rfl) ?_
 refine .seq ?_
 refine .region ?_
 refine .q (op_assign rfl) trivial rfl ?_
 refine .nil ?_
 show Ev _ _ _ _ _
 refine .seq ?_
 refine .seq ?_
 refine .drawn [[], [], [0, 1], [], [3], [3, 4], [3, 4, 5], [3, 4, 5, 6], [0, 1, 2, 3, 4, 5, 6, 7]] [2, 7] [] (by kernel_rfl) (by kernel_rfl) rfl ?_
 show DK _ [0, 1, 2, 3, 4, 5, 6, 7, 8] _ _ _
 refine .q rfl (op_move rfl) trivial ?_
 refine .q rfl (op_move rfl) trivial ?_
 refine .q rfl (op_call (U := []) [(500, 500), (501, 501)] [] (count_ev a b c ep h w) Tryd.func17 (by kernel_rfl) rfl rfl rfl (⟨⟨_, rfl, rfl, rfl⟩, ⟨_, rfl, rfl, rfl⟩, trivial⟩) (⟨⟨_, _, rfl, rfl, rfl, rfl, (fun h => by cases h), rfl⟩, ⟨_, _, rfl, rfl, rfl, rfl, (fun h => by cases h), rfl⟩, trivial⟩) (trivial) (⟨(fun h => by cases h), (fun h => by cases h), trivial⟩) rfl) trivial ?_
 refine .q rfl (op_move rfl) trivial ?_
 refine .q rfl (op_nilCheck rfl) trivial ?_
 refine .q rfl (op_fieldAddr (m := 2) Tryd.underlying68 rfl (by kernel_rfl) rfl) trivial ?_
 refine .as (.ptr 500 0) rfl ?_
 refine .q rfl (op_fieldAddr (m := 0) Tryd.underlying26 rfl (by kernel_rfl) rfl) trivial ?_
 refine .as (.ptr 500 0) rfl ?_
 refine .q rfl (op_load Tryd.underlying3 rfl rfl rfl rfl (by first | omega | (simp only [AV.len]; omega) | (simp only [AV.len, List.length_set]; omega) | assumption | (simp [AV.len]; done))) trivial ?_
 refine .q rfl (op_cmpI rfl rfl rfl) trivial ?_
 refine .nil ?_
 show Ev _ _ _ _ _
 refine .cond_false rfl (decide_eq_false hq) ?_
 refine .skip ?_
 show Ev _ _ _ _ _
 refine .seq ?_
 refine .seq ?_
 refine .drawn [[], [0], [0, 1], [0, 1, 2], [0, 1, 2, 3], [], [5], [5, 6], [5, 6, 7], [5, 6, 7, 8], [0, 1, 2, 3, 4, 5, 6, 7, 8, 9]] [3, 4, 9] [] (by kernel_rfl) (by kernel_rfl) rfl ?_
 show DK _ [0, 1, 2, 3, 4, 5, 6, 7, 8, 9, 10] _ _ _
 refine .q rfl (op_move rfl) trivial ?_
 refine .q rfl (op_nilCheck rfl) trivial ?_
 refine .q rfl (op_fieldAddr (m := 0) Tryd.underlying68 rfl (by kernel_rfl) rfl) trivial ?_
 refine .as (.ptr 500 3) rfl ?_
 refine .q rfl (op_load Tryd.underlying66 rfl rfl rfl rfl (by first | omega | (simp only [AV.len]; omega) | (simp only [AV.len, List.length_set]; omega) | assumption | (simp [AV.len]; done))) trivial ?_
 refine .q rfl (op_len_map (k := ⟨mpV M ck, 0, false⟩) Tryd.underlying66 rfl rfl (mpV_ents _ _)) trivial ?_
 refine .q rfl (op_move rfl) trivial ?_
 refine .q rfl (op_nilCheck rfl) trivial ?_
 refine .q rfl (op_fieldAddr (m := 2) Tryd.underlying68 rfl (by kernel_rfl) rfl) trivial ?_
 refine .as (.ptr 500 0) rfl ?_
 refine .q rfl (op_fieldAddr (m := 0) Tryd.underlying26 rfl (by kernel_rfl) rfl) trivial ?_
 refine .as (.ptr 500 1) rfl ?_
 refine .q rfl (op_load Tryd.underlying3 rfl rfl rfl rfl (by first | omega | (simp only [AV.len]; omega) | (simp only [AV.len, List.length_set]; omega) | assumption | (simp [AV.len]; done))) trivial ?_
 refine .q rfl (op_cmpI rfl rfl rfl) trivial ?_
 refine .nil ?_
 show Ev _ _ _ _ _
 refine .cond_false rfl (decide_eq_false (by rw [mKs, List.length_map, h.size]; exact hf)) ?_
 refine .skip ?_
 show Ev _ _ _ _ _
 refine .seq ?_
 refine .region ?_
 refine .q (op_assign rfl) trivial rfl ?_
 refine .nil ?_
 show Ev _ _ _ _ _
 refine .ret ?_
 show RetOk _ _ _ _ _ _ _
 exact ret1v rfl (.inl rfl) rfl (rfl) trivial
set_option maxRecDepth 100000 in
theorem extD_ev (a b c ep : Int) {M : List (Ls × Nat)} {ck : Nat} {L : List Ls} (h : MI M ck L) (w : Int)  : Meets Tryd.prog 43 [.ptr 500 0, .clo 44 [.ptr 502 0]] [(500, some ⟨.agg [.i64 a, .i64 b, .i64 c, .mp 501, .i64 ep], 68, false⟩), (501, some ⟨mpV (M) (ck), 0, true⟩), (502, some ⟨.agg [.i64 w], 3, false⟩)] (.fsl (lsC (L.filter (fun x => x.o == w))) (L.filter (fun x => x.o == w)).length 5) [(501, some ⟨mpV (dlN M (L.filter (fun x => x.o == w)) (L.filter (fun x => x.o == w)).length) (ck), 0, true⟩)] := by
 refine meets_of_ev (nt := 22) Tryd.func43 rfl rfl (Nat.le_of_ble_eq_true rfl) ?_
 refine .seq ?_
 refine .region ?_
 refine .q (op_assign rfl) trivial rfl ?_
 refine .nil ?_
 show Ev _ _ _ _ _
 refine .seq ?_
 refine .region ?_
 refine .q (op_move rfl) trivial rfl ?_
 refine .q (op_move rfl) trivial rfl ?_
 refine .q (op_call (U := []) [(500, 500), (501, 501), (502, 502)] [] (filtD_ev a b c ep h w) Tryd.func35 (by kernel_rfl) rfl rfl rfl (⟨⟨_, rfl, rfl, rfl⟩, ⟨_, rfl, rfl, rfl⟩, trivial⟩) (⟨⟨_, _, rfl, rfl, rfl, rfl, (fun h => by cases h), rfl⟩, ⟨_, _, rfl, rfl, rfl, rfl, (fun h => by cases h), rfl⟩, ⟨_, _, rfl, rfl, rfl, rfl, (fun h => by cases h), rfl⟩, trivial⟩) (trivial) (⟨(fun h => by cases h), (fun h => by cases h), (fun h => by cases h), trivial⟩) rfl) trivial rfl ?_
 refine .q (op_assign rfl) trivial rfl ?_
 refine .nil ?_
 show Ev _ _ _ _ _
 refine .seq ?_
 refine .seq ?_
 refine .region ?_
 refine .q (op_move rfl) trivial rfl ?_
 refine .q (op_len_fsl Tryd.underlying39 rfl) trivial rfl ?_
 refine .q (op_move rfl) trivial rfl ?_
 refine .nil ?_
 show Ev _ _ _ _ _
 refine .block ?_
 refine Ev.loop (ι := { i : Nat // i ≤ (L.filter (fun x => x.o == w)).length }) (fun q => ⟨[(0, .ptr 500 0), (5, .fsl (lsC (L.filter (fun x => x.o == w))) (L.filter (fun x => x.o == w)).length 5), (11, .fsl (lsC (L.filter (fun x => x.o == w))) (L.filter (fun x => x.o == w)).length 5), (12, .i64 (((L.filter (fun x => x.o == w)).length : Nat) : Int)), (13, .i64 ((q.1 : Nat) : Int))], [(500, some ⟨.agg [.i64 a, .i64 b, .i64 c, .mp 501, .i64 ep], 68, false⟩), (501, some ⟨mpV (dlN M (L.filter (fun x => x.o == w)) q.1) (ck), 0, true⟩), (502, some ⟨.agg [.i64 w], 3, false⟩)], 1016⟩) (fun q => (L.filter (fun x => x.o == w)).length - q.1) ⟨0, Nat.zero_le _⟩ (StLe.mk [] rfl rfl ⟨⟨_, rfl, by first | rfl | (simp only [AV.ren]; congr 1; omega), rfl⟩, ⟨_, rfl, by first | rfl | (simp only [AV.ren]; congr 1; omega), rfl⟩, ⟨_, rfl, by first | rfl | (simp only [AV.ren]; congr 1; omega), rfl⟩, ⟨_, rfl, by first | rfl | (simp only [AV.ren]; congr 1; omega), rfl⟩, ⟨_, rfl, by first | rfl | (simp only [AV.ren]; congr 1; omega), rfl⟩, trivial⟩ ⟨⟨_, _, rfl, rfl, rfl, rfl, id, rfl⟩, ⟨_, _, rfl, rfl, rfl, rfl, id, rfl⟩, ⟨_, _, rfl, rfl, rfl, rfl, id, rfl⟩, trivial⟩) ?_
 rintro ⟨i, hi0⟩
 dsimp only
 refine .seq ?_
 refine .region ?_
 refine .q (op_cmpI rfl rfl rfl) trivial rfl ?_
 refine .nil ?_
 show Ev _ _ _ _ _
 refine .seq ?_
 refine .cond rfl (fun hc14 => ?_) (fun hc14 => ?_)
 ·simp only [decide_eq_true_eq, decide_eq_false_iff_not, beq_iff_eq, bne_iff_ne, ne_eq, beq_eq_false_iff_ne, bne_eq_false_iff_eq] at hc14
  refine .skip ?_
  show Ev _ _ _ _ _
  refine .seq ?_
  refine .block ?_
  refine .seq ?_
  refine .region ?_
  have hi : i < (L.filter (fun x => x.o == w)).length := by omega
  have hb9 : (L.filter (fun x => x.o == w)).length ≤ 4096 := Nat.le_trans (List.length_filter_le _ _) h.len
  refine .q (op_indexAddr_fsl Tryd.underlying39 infLease.sz (by decide) rfl rfl (i := i) rfl (hi)) trivial rfl ?_
  refine .q (op_loadRow_fptr (v := lsV ((L.filter (fun x => x.o == w)).getD i default)) Tryd.underlying45 rfl infLease.sz rfl rfl (ls_take (hi)) rfl) trivial rfl ?_
  refine .a (op_allocRow zero45 rel_zero45 rfl) trivial rfl ?_
  refine .w (op_storeRow (by kernel_rfl) rfl rfl rfl rfl rfl (rfl) (rfl)) trivial rfl ?_
  refine .nil ?_
  show Ev _ _ _ _ _
  refine .region ?_
  refine .q (op_move rfl) trivial rfl ?_
  refine .q (op_loadRow Tryd.underlying45 rfl (by kernel_rfl) rfl rfl rfl (rfl)) trivial rfl ?_
  refine .a (op_call (U := [(501, some ⟨mpV (dlN M (L.filter (fun x => x.o == w)) (i + 1)) ck, 0, true⟩)]) [(500, 500), (501, 501)] [] (remove_ev a b c ep (h.dels (L.filter (fun x => x.o == w)) i) (left_remN h.asc hi)) Tryd.func41 (by kernel_rfl) rfl rfl rfl (⟨⟨_, rfl, rfl, rfl⟩, ⟨_, rfl, rfl, rfl⟩, trivial⟩) (⟨⟨_, _, rfl, rfl, rfl, rfl, (fun h => by cases h), rfl⟩, ⟨_, _, rfl, rfl, rfl, rfl, id, rfl⟩, trivial⟩) (⟨⟨501, _, rfl, rfl, rfl, rfl, .inr ⟨rfl, _, rfl, rfl⟩⟩, trivial⟩) (⟨(fun h => by cases h), (fun _ => ⟨501, _, rfl, rfl⟩), trivial⟩) rfl) trivial rfl ?_
  refine .nil ?_
  show Ev _ _ _ _ _
  refine .region ?_
  refine .q (op_addI rfl rfl ⟨by omega, by omega⟩) trivial rfl ?_
  refine .q (op_move rfl) trivial rfl ?_
  refine .nil ?_
  exact ⟨⟨i + 1, hi⟩, by show _ - (i + 1) < _ - i; omega, StLe.mk [] rfl rfl ⟨⟨_, rfl, by first | rfl | (simp only [AV.ren]; congr 1; omega), rfl⟩, ⟨_, rfl, by first | rfl | (simp only [AV.ren]; congr 1; omega), rfl⟩, ⟨_, rfl, by first | rfl | (simp only [AV.ren]; congr 1; omega), rfl⟩, ⟨_, rfl, by first | rfl | (simp only [AV.ren]; congr 1; omega), rfl⟩, ⟨_, rfl, by first | rfl | (simp only [AV.ren]; congr 1; omega), rfl⟩, trivial⟩ ⟨⟨_, _, rfl, rfl, rfl, rfl, id, rfl⟩, ⟨_, _, rfl, rfl, rfl, rfl, id, rfl⟩, ⟨_, _, rfl, rfl, rfl, rfl, id, rfl⟩, trivial⟩⟩
 ·simp only [decide_eq_true_eq, decide_eq_false_iff_not, beq_iff_eq, bne_iff_ne, ne_eq, beq_eq_false_iff_ne, bne_eq_false_iff_eq] at hc14
  refine .exit ?_
  show Ev _ _ _ _ _
  refine .seq ?_
  refine .region ?_
  have he : i = (L.filter (fun x => x.o == w)).length := by omega
  subst he
  refine .q (op_move rfl) trivial rfl ?_
  refine .q (op_assign rfl) trivial rfl ?_
  refine .nil ?_
  show Ev _ _ _ _ _
  refine .ret ?_
  show RetOk _ _ _ _ _ _ _
  exact ret1v rfl (.inl rfl) rfl (rfl) ⟨rfl, trivial⟩
set_option maxRecDepth 100000 in
theorem extE_ev (a b c ep : Int) {M : List (Ls × Nat)} {ck : Nat} {L : List Ls} (h : MI M ck L) (now : Int) (hl : ∀ x ∈ L, 0 ≤ x.l ∧ x.l ≤ 1099511627776)  : Meets Tryd.prog 43 [.ptr 500 0, .clo 45 [.ptr 502 0, .ptr 503 0]] [(500, some ⟨.agg [.i64 a, .i64 b, .i64 c, .mp 501, .i64 ep], 68, false⟩), (501, some ⟨mpV (M) (ck), 0, true⟩), (502, some ⟨.agg [.i64 now], 3, false⟩), (503, some ⟨.agg [.ptr 500 0], 28, false⟩)] (.fsl (lsC (L.filter (fun x => decide (c ≤ tickV now - x.l)))) (L.filter (fun x => decide (c ≤ tickV now - x.l))).length 5) [(501, some ⟨mpV (dlN M (L.filter (fun x => decide (c ≤ tickV now - x.l))) (L.filter (fun x => decide (c ≤ tickV now - x.l))).length) (ck), 0, true⟩)] := by
 refine meets_of_ev (nt := 22) Tryd.func43 rfl rfl (Nat.le_of_ble_eq_true rfl) ?_
 refine .seq ?_
 refine .region ?_
 refine .q (op_assign rfl) trivial rfl ?_
 refine .nil ?_
 show Ev _ _ _ _ _
 refine .seq ?_
 refine .region ?_
 refine .q (op_move rfl) trivial rfl ?_
 refine .q (op_move rfl) trivial rfl ?_
 refine .q (op_call (U := []) [(500, 500), (501, 501), (502, 502), (503, 503)] [] (filtE_ev a b c ep h now hl) Tryd.func35 (by kernel_rfl) rfl rfl rfl (⟨⟨_, rfl, rfl, rfl⟩, ⟨_, rfl, rfl, rfl⟩, trivial⟩) (⟨⟨_, _, rfl, rfl, rfl, rfl, (fun h => by cases h), rfl⟩, ⟨_, _, rfl, rfl, rfl, rfl, (fun h => by cases h), rfl⟩, ⟨_, _, rfl, rfl, rfl, rfl, (fun h => by cases h), rfl⟩, ⟨_, _, rfl, rfl, rfl, rfl, (fun h => by cases h), rfl⟩, trivial⟩) (trivial) (⟨(fun h => by cases h), (fun h => by cases h), (fun h => by cases h), (fun h => by cases h), trivial⟩) rfl) trivial rfl ?_
 refine .q (op_assign rfl) trivial rfl ?_
 refine .nil ?_
 show Ev _ _ _ _ _
 refine .seq ?_
 refine .seq ?_
 refine .region ?_
 refine .q (op_move rfl) trivial rfl ?_
 refine .q (op_len_fsl Tryd.underlying39 rfl) trivial rfl ?_
 refine .q (op_move rfl) trivial rfl ?_
 refine .nil ?_
 show Ev _ _ _ _ _
 refine .block ?_
 refine Ev.loop (ι := { i : Nat // i ≤ (L.filter (fun x => decide (c ≤ tickV now - x.l))).length }) (fun q => ⟨[(0, .ptr 500 0), (5, .fsl (lsC (L.filter (fun x => decide (c ≤ tickV now - x.l)))) (L.filter (fun x => decide (c ≤ tickV now - x.l))).length 5), (11, .fsl (lsC (L.filter (fun x => decide (c ≤ tickV now - x.l)))) (L.filter (fun x => decide (c ≤ tickV now - x.l))).length 5), (12, .i64 (((L.filter (fun x => decide (c ≤ tickV now - x.l))).length : Nat) : Int)), (13, .i64 ((q.1 : Nat) : Int))], [(500, some ⟨.agg [.i64 a, .i64 b, .i64 c, .mp 501, .i64 ep], 68, false⟩), (501, some ⟨mpV (dlN M (L.filter (fun x => decide (c ≤ tickV now - x.l))) q.1) (ck), 0, true⟩), (502, some ⟨.agg [.i64 now], 3, false⟩), (503, some ⟨.agg [.ptr 500 0], 28, false⟩)], 1016⟩) (fun q => (L.filter (fun x => decide (c ≤ tickV now - x.l))).length - q.1) ⟨0, Nat.zero_le _⟩ (StLe.mk [] rfl rfl ⟨⟨_, rfl, by first | rfl | (simp only [AV.ren]; congr 1; omega), rfl⟩, ⟨_, rfl, by first | rfl | (simp only [AV.ren]; congr 1; omega), rfl⟩, ⟨_, rfl, by first | rfl | (simp only [AV.ren]; congr 1; omega), rfl⟩, ⟨_, rfl, by first | rfl | (simp only [AV.ren]; congr 1; omega), rfl⟩, ⟨_, rfl, by first | rfl | (simp only [AV.ren]; congr 1; omega), rfl⟩, trivial⟩ ⟨⟨_, _, rfl, rfl, rfl, rfl, id, rfl⟩, ⟨_, _, rfl, rfl, rfl, rfl, id, rfl⟩, ⟨_, _, rfl, rfl, rfl, rfl, id, rfl⟩, ⟨_, _, rfl, rfl, rfl, rfl, id, rfl⟩, trivial⟩) ?_
 rintro ⟨i, hi0⟩
 dsimp only
 refine .seq ?_
 refine .region ?_
 refine .q (op_cmpI rfl rfl rfl) trivial rfl ?_
 refine .nil ?_
 show Ev _ _ _ _ _
 refine .seq ?_
 refine .cond rfl (fun hc14 => ?_) (fun hc14 => ?_)
 ·simp only [decide_eq_true_eq, decide_eq_false_iff_not, beq_iff_eq, bne_iff_ne, ne_eq, beq_eq_false_iff_ne, bne_eq_false_iff_eq] at hc14
  refine .skip ?_
  show Ev _ _ _ _ _
  refine .seq ?_
  refine .block ?_
  refine .seq ?_
  refine .region ?_
  have hi : i < (L.filter (fun x => decide (c ≤ tickV now - x.l))).length := by omega
  have hb9 : (L.filter (fun x => decide (c ≤ tickV now - x.l))).length ≤ 4096 := Nat.le_trans (List.length_filter_le _ _) h.len
  refine .q (op_indexAddr_fsl Tryd.underlying39 infLease.sz (by decide) rfl rfl (i := i) rfl (hi)) trivial rfl ?_
  refine .q (op_loadRow_fptr (v := lsV ((L.filter (fun x => decide (c ≤ tickV now - x.l))).getD i default)) Tryd.underlying45 rfl infLease.sz rfl rfl (ls_take (hi)) rfl) trivial rfl ?_
  refine .a (op_allocRow zero45 rel_zero45 rfl) trivial rfl ?_
  refine .w (op_storeRow (by kernel_rfl) rfl rfl rfl rfl rfl (rfl) (rfl)) trivial rfl ?_
  refine .nil ?_
  show Ev _ _ _ _ _
  refine .region ?_
  refine .q (op_move rfl) trivial rfl ?_
  refine .q (op_loadRow Tryd.underlying45 rfl (by kernel_rfl) rfl rfl rfl (rfl)) trivial rfl ?_
  refine .a (op_call (U := [(501, some ⟨mpV (dlN M (L.filter (fun x => decide (c ≤ tickV now - x.l))) (i + 1)) ck, 0, true⟩)]) [(500, 500), (501, 501)] [] (remove_ev a b c ep (h.dels (L.filter (fun x => decide (c ≤ tickV now - x.l))) i) (left_remN h.asc hi)) Tryd.func41 (by kernel_rfl) rfl rfl rfl (⟨⟨_, rfl, rfl, rfl⟩, ⟨_, rfl, rfl, rfl⟩, trivial⟩) (⟨⟨_, _, rfl, rfl, rfl, rfl, (fun h => by cases h), rfl⟩, ⟨_, _, rfl, rfl, rfl, rfl, id, rfl⟩, trivial⟩) (⟨⟨501, _, rfl, rfl, rfl, rfl, .inr ⟨rfl, _, rfl, rfl⟩⟩, trivial⟩) (⟨(fun h => by cases h), (fun _ => ⟨501, _, rfl, rfl⟩), trivial⟩) rfl) trivial rfl ?_
  refine .nil ?_
  show Ev _ _ _ _ _
  refine .region ?_
  refine .q (op_addI rfl rfl ⟨by omega, by omega⟩) trivial rfl ?_
  refine .q (op_move rfl) trivial rfl ?_
  refine .nil ?_
  exact ⟨⟨i + 1, hi⟩, by show _ - (i + 1) < _ - i; omega, StLe.mk [] rfl rfl ⟨⟨_, rfl, by first | rfl | (simp only [AV.ren]; congr 1; omega), rfl⟩, ⟨_, rfl, by first | rfl | (simp only [AV.ren]; congr 1; omega), rfl⟩, ⟨_, rfl, by first | rfl | (simp only [AV.ren]; congr 1; omega), rfl⟩, ⟨_, rfl, by first | rfl | (simp only [AV.ren]; congr 1; omega), rfl⟩, ⟨_, rfl, by first | rfl | (simp only [AV.ren]; congr 1; omega), rfl⟩, trivial⟩ ⟨⟨_, _, rfl, rfl, rfl, rfl, id, rfl⟩, ⟨_, _, rfl, rfl, rfl, rfl, id, rfl⟩, ⟨_, _, rfl, rfl, rfl, rfl, id, rfl⟩, ⟨_, _, rfl, rfl, rfl, rfl, id, rfl⟩, trivial⟩⟩
 ·simp only [decide_eq_true_eq, decide_eq_false_iff_not, beq_iff_eq, bne_iff_ne, ne_eq, beq_eq_false_iff_ne, bne_eq_false_iff_eq] at hc14
  refine .exit ?_
  show Ev _ _ _ _ _
  refine .seq ?_
  refine .region ?_
  have he : i = (L.filter (fun x => decide (c ≤ tickV now - x.l))).length := by omega
  subst he
  refine .q (op_move rfl) trivial rfl ?_
  refine .q (op_assign rfl) trivial rfl ?_
  refine .nil ?_
  show Ev _ _ _ _ _
  refine .ret ?_
  show RetOk _ _ _ _ _ _ _
  exact ret1v rfl (.inl rfl) rfl (rfl) ⟨rfl, trivial⟩
set_option maxRecDepth 100000 in
theorem drop_ev (a b c ep : Int) {M : List (Ls × Nat)} {ck : Nat} {L : List Ls} (h : MI M ck L) (w : Int)  : Meets Tryd.prog 23 [.ptr 500 0, .i64 w] [(500, some ⟨.agg [.i64 a, .i64 b, .i64 c, .mp 501, .i64 ep], 68, false⟩), (501, some ⟨mpV (M) (ck), 0, true⟩)] (.fsl (lsC (L.filter (fun x => x.o == w))) (L.filter (fun x => x.o == w)).length 5) [(501, some ⟨mpV (dlN M (L.filter (fun x => x.o == w)) (L.filter (fun x => x.o == w)).length) (ck), 0, true⟩)] := by
 refine meets_of_ev (nt := 8) Tryd.func23 rfl rfl (Nat.le_of_ble_eq_true rfl) ?_
 refine .seq ?_
 refine .region ?_
 refine .a (op_boxOne rfl rfl) trivial rfl ?_
 refine .q (op_assign rfl) trivial rfl ?_
 refine .nil ?_
 show Ev _ _ _ _ _
 refine .seq ?_
 refine .region ?_
 refine .q (op_move rfl) trivial rfl ?_
 refine .q (op_makeFunc1 rfl) trivial rfl ?_
 refine .a (op_call (U := [(501, some ⟨mpV (dlN M (L.filter (fun x => x.o == w)) (L.filter (fun x => x.o == w)).length) ck, 0, true⟩)]) [(500, 500), (501, 501), (502, 1000)] [] (extD_ev a b c ep h w) Tryd.func43 (by kernel_rfl) rfl rfl rfl (⟨⟨_, rfl, rfl, rfl⟩, ⟨_, rfl, rfl, rfl⟩, trivial⟩) (⟨⟨_, _, rfl, rfl, rfl, rfl, (fun h => by cases h), rfl⟩, ⟨_, _, rfl, rfl, rfl, rfl, id, rfl⟩, ⟨_, _, rfl, rfl, rfl, rfl, (fun h => by cases h), rfl⟩, trivial⟩) (⟨⟨501, _, rfl, rfl, rfl, rfl, .inr ⟨rfl, _, rfl, rfl⟩⟩, trivial⟩) (⟨(fun h => by cases h), (fun _ => ⟨501, _, rfl, rfl⟩), (fun h => by cases h), trivial⟩) rfl) trivial rfl ?_
 refine .q (op_assign rfl) trivial rfl ?_
 refine .nil ?_
 show Ev _ _ _ _ _
 refine .ret ?_
 show RetOk _ _ _ _ _ _ _
 exact ret1v rfl (.inl rfl) rfl (rfl) ⟨rfl, trivial⟩
set_option maxRecDepth 100000 in
theorem expire_ev (a b c ep : Int) {M : List (Ls × Nat)} {ck : Nat} {L : List Ls} (h : MI M ck L) (now : Int) (hl : ∀ x ∈ L, 0 ≤ x.l ∧ x.l ≤ 1099511627776)  : Meets Tryd.prog 24 [.ptr 500 0, .i64 now] [(500, some ⟨.agg [.i64 a, .i64 b, .i64 c, .mp 501, .i64 ep], 68, false⟩), (501, some ⟨mpV (M) (ck), 0, true⟩)] (.fsl (lsC (L.filter (fun x => decide (c ≤ tickV now - x.l)))) (L.filter (fun x => decide (c ≤ tickV now - x.l))).length 5) [(501, some ⟨mpV (dlN M (L.filter (fun x => decide (c ≤ tickV now - x.l))) (L.filter (fun x => decide (c ≤ tickV now - x.l))).length) (ck), 0, true⟩)] := by
 refine meets_of_ev (nt := 8) Tryd.func24 rfl rfl (Nat.le_of_ble_eq_true rfl) ?_
 refine .seq ?_
 refine .region ?_
 refine .a (op_boxOne rfl rfl) trivial rfl ?_
 refine .a (op_boxOne rfl rfl) trivial rfl ?_
 refine .q (op_assign rfl) trivial rfl ?_
 refine .nil ?_
 show Ev _ _ _ _ _
 refine .seq ?_
 refine .region ?_
 refine .q (op_load Tryd.underlying28 rfl rfl rfl rfl (by first | omega | (simp only [AV.len]; omega) | (simp only [AV.len, List.length_set]; omega) | assumption | (simp [AV.len]; done))) trivial rfl ?_
 refine .q (op_makeFunc2 rfl rfl) trivial rfl ?_
 refine .a (op_call (U := [(501, some ⟨mpV (dlN M (L.filter (fun x => decide (c ≤ tickV now - x.l))) (L.filter (fun x => decide (c ≤ tickV now - x.l))).length) ck, 0, true⟩)]) [(500, 500), (501, 501), (502, 1008), (503, 1000)] [] (extE_ev a b c ep h now hl) Tryd.func43 (by kernel_rfl) rfl rfl rfl (⟨⟨_, rfl, rfl, rfl⟩, ⟨_, rfl, rfl, rfl⟩, trivial⟩) (⟨⟨_, _, rfl, rfl, rfl, rfl, (fun h => by cases h), rfl⟩, ⟨_, _, rfl, rfl, rfl, rfl, id, rfl⟩, ⟨_, _, rfl, rfl, rfl, rfl, (fun h => by cases h), rfl⟩, ⟨_, _, rfl, rfl, rfl, rfl, (fun h => by cases h), rfl⟩, trivial⟩) (⟨⟨501, _, rfl, rfl, rfl, rfl, .inr ⟨rfl, _, rfl, rfl⟩⟩, trivial⟩) (⟨(fun h => by cases h), (fun _ => ⟨501, _, rfl, rfl⟩), (fun h => by cases h), (fun h => by cases h), trivial⟩) rfl) trivial rfl ?_
 refine .q (op_assign rfl) trivial rfl ?_
 refine .nil ?_
 show Ev _ _ _ _ _
 refine .ret ?_
 show RetOk _ _ _ _ _ _ _
 exact ret1v rfl (.inl rfl) rfl (rfl) ⟨rfl, trivial⟩
set_option maxRecDepth 100000 in
theorem beat_ev (a b c ep : Int) {M : List (Ls × Nat)} {ck : Nat} {L : List Ls} (h : MI M ck L) (w now : Int)  : Meets Tryd.prog 22 [.ptr 500 0, .i64 w, .i64 now] [(500, some ⟨.agg [.i64 a, .i64 b, .i64 c, .mp 501, .i64 ep], 68, false⟩), (501, some ⟨mpV (M) (ck), 0, true⟩)] (.i64 (((L.filter (fun x => x.o == w)).length : Nat) : Int)) [(501, some ⟨mpV ((ptN M ck ((L.filter (fun x => x.o == w)).map (beatL now)) (L.filter (fun x => x.o == w)).length).1) ((ptN M ck ((L.filter (fun x => x.o == w)).map (beatL now)) (L.filter (fun x => x.o == w)).length).2), 0, true⟩)] := by
 refine meets_of_ev (nt := 31) Tryd.func22 rfl rfl (Nat.le_of_ble_eq_true rfl) ?_
 refine .seq ?_
 refine .region ?_
 refine .a (op_boxOne rfl rfl) trivial rfl ?_
 refine .q (op_assign rfl) trivial rfl ?_
 refine .nil ?_
 show Ev _ _ _ _ _
 refine .seq ?_
 refine .region ?_
 refine .q (op_move rfl) trivial rfl ?_
 refine .q (op_makeFunc1 rfl) trivial rfl ?_
 refine .q (op_call (U := []) [(500, 500), (501, 501), (502, 1000)] [] (filtB_ev a b c ep h w) Tryd.func35 (by kernel_rfl) rfl rfl rfl (⟨⟨_, rfl, rfl, rfl⟩, ⟨_, rfl, rfl, rfl⟩, trivial⟩) (⟨⟨_, _, rfl, rfl, rfl, rfl, (fun h => by cases h), rfl⟩, ⟨_, _, rfl, rfl, rfl, rfl, (fun h => by cases h), rfl⟩, ⟨_, _, rfl, rfl, rfl, rfl, (fun h => by cases h), rfl⟩, trivial⟩) (trivial) (⟨(fun h => by cases h), (fun h => by cases h), (fun h => by cases h), trivial⟩) rfl) trivial rfl ?_
 refine .q (op_assign rfl) trivial rfl ?_
 refine .nil ?_
 show Ev _ _ _ _ _
 refine .seq ?_
 refine .seq ?_
 refine .region ?_
 refine .q (op_move rfl) trivial rfl ?_
 refine .q (op_len_fsl Tryd.underlying39 rfl) trivial rfl ?_
 refine .q (op_move rfl) trivial rfl ?_
 refine .nil ?_
 show Ev _ _ _ _ _
 refine .block ?_
 refine Ev.loop (ι := { i : Nat // i ≤ (L.filter (fun x => x.o == w)).length }) (fun q => ⟨[(0, .ptr 500 0), (2, .i64 now), (7, .fsl (lsC (L.filter (fun x => x.o == w))) (L.filter (fun x => x.o == w)).length 5), (13, .fsl (lsC (L.filter (fun x => x.o == w))) (L.filter (fun x => x.o == w)).length 5), (14, .i64 (((L.filter (fun x => x.o == w)).length : Nat) : Int)), (15, .i64 ((q.1 : Nat) : Int))], [(500, some ⟨.agg [.i64 a, .i64 b, .i64 c, .mp 501, .i64 ep], 68, false⟩), (501, some ⟨mpV ((ptN M ck ((L.filter (fun x => x.o == w)).map (beatL now)) q.1).1) ((ptN M ck ((L.filter (fun x => x.o == w)).map (beatL now)) q.1).2), 0, true⟩)], 1016⟩) (fun q => (L.filter (fun x => x.o == w)).length - q.1) ⟨0, Nat.zero_le _⟩ (StLe.mk [] rfl rfl ⟨⟨_, rfl, by first | rfl | (simp only [AV.ren]; congr 1; omega), rfl⟩, ⟨_, rfl, by first | rfl | (simp only [AV.ren]; congr 1; omega), rfl⟩, ⟨_, rfl, by first | rfl | (simp only [AV.ren]; congr 1; omega), rfl⟩, ⟨_, rfl, by first | rfl | (simp only [AV.ren]; congr 1; omega), rfl⟩, ⟨_, rfl, by first | rfl | (simp only [AV.ren]; congr 1; omega), rfl⟩, ⟨_, rfl, by first | rfl | (simp only [AV.ren]; congr 1; omega), rfl⟩, trivial⟩ ⟨⟨_, _, rfl, rfl, rfl, rfl, id, rfl⟩, ⟨_, _, rfl, rfl, rfl, rfl, id, rfl⟩, trivial⟩) ?_
 rintro ⟨i, hi0⟩
 dsimp only
 refine .seq ?_
 refine .region ?_
 refine .q (op_cmpI rfl rfl rfl) trivial rfl ?_
 refine .nil ?_
 show Ev _ _ _ _ _
 refine .seq ?_
 refine .cond rfl (fun hc16 => ?_) (fun hc16 => ?_)
 ·simp only [decide_eq_true_eq, decide_eq_false_iff_not, beq_iff_eq, bne_iff_ne, ne_eq, beq_eq_false_iff_ne, bne_eq_false_iff_eq] at hc16
  refine .skip ?_
  show Ev _ _ _ _ _
  refine .seq ?_
  refine .block ?_
  refine .seq ?_
  refine .region ?_
  have hi : i < (L.filter (fun x => x.o == w)).length := by omega
  have hb9 : (L.filter (fun x => x.o == w)).length ≤ 4096 := Nat.le_trans (List.length_filter_le _ _) h.len
  refine .q (op_indexAddr_fsl Tryd.underlying39 infLease.sz (by decide) rfl rfl (i := i) rfl (hi)) trivial rfl ?_
  refine .q (op_loadRow_fptr (v := lsV ((L.filter (fun x => x.o == w)).getD i default)) Tryd.underlying45 rfl infLease.sz rfl rfl (ls_take (hi)) rfl) trivial rfl ?_
  refine .a (op_allocRow zero45 rel_zero45 rfl) trivial rfl ?_
  refine .w (op_storeRow (by kernel_rfl) rfl rfl rfl rfl rfl (rfl) (rfl)) trivial rfl ?_
  refine .nil ?_
  show Ev _ _ _ _ _
  refine .seq ?_
  refine .drawn [[], [0], [], [2], [0, 1, 2, 3], [0, 1, 2, 3, 4], [0, 1, 2, 3, 4, 5]] [1, 3, 6] [6] (by kernel_rfl) (by kernel_rfl) rfl ?_
  show DK _ [0, 1, 2, 3, 4, 5, 6] _ _ _
  refine .q rfl (op_fieldAddr (m := 0) Tryd.underlying45 rfl (by kernel_rfl) rfl) trivial ?_
  refine .as (.ptr 1016 4) rfl ?_
  refine .q rfl (op_load Tryd.underlying3 rfl rfl rfl rfl (by show 4 < 5; decide)) trivial ?_
  refine .q rfl (op_move rfl) trivial ?_
  refine .q rfl (op_call (U := []) [] [] (tick_ev now) Tryd.func39 (by kernel_rfl) rfl rfl rfl (⟨⟨_, rfl, rfl, rfl⟩, trivial⟩) (trivial) (trivial) (trivial) rfl) trivial ?_
  refine .q rfl (op_maxI rfl rfl) trivial ?_
  refine .q rfl (op_fieldAddr (m := 0) Tryd.underlying45 rfl (by kernel_rfl) rfl) trivial ?_
  refine .as (.ptr 1016 4) rfl ?_
  refine .w rfl (op_store inf3.sz rfl rfl rfl rfl rfl (by show 4 < 5; decide)) trivial rfl rfl ?_
  refine .nil ?_
  show Ev _ _ _ _ _
  refine .region ?_
  have hgm := getD_map (f := beatL now) hi
  refine .q (op_move rfl) trivial rfl ?_
  refine .q (op_loadRow Tryd.underlying45 rfl infLease.sz rfl rfl rfl rfl) trivial rfl ?_
  refine .as (lsV (((L.filter (fun x => x.o == w)).map (beatL now)).getD i default)) (by rw [hgm]; rfl) ?_
  refine .a (op_call (U := [(501, some ⟨mpV (ptN M ck ((L.filter (fun x => x.o == w)).map (beatL now)) (i + 1)).1 (ptN M ck ((L.filter (fun x => x.o == w)).map (beatL now)) (i + 1)).2, 0, true⟩)]) [(500, 500), (501, 501)] [] (put_ev a b c ep (h.puts (wd := fun x => x.o == w) now (Nat.le_of_lt hi)) (((L.filter (fun x => x.o == w)).map (beatL now)).getD i default) (by rw [getD_map hi]; have h9 := h.sz _ (List.mem_filter.1 (getD_mem hi)).1; exact h9)) Tryd.func40 (by kernel_rfl) rfl rfl rfl (⟨⟨_, rfl, rfl, rfl⟩, ⟨_, rfl, rfl, rfl⟩, trivial⟩) (⟨⟨_, _, rfl, rfl, rfl, rfl, (fun h => by cases h), rfl⟩, ⟨_, _, rfl, rfl, rfl, rfl, id, rfl⟩, trivial⟩) (⟨⟨501, _, rfl, rfl, rfl, rfl, .inr ⟨rfl, _, rfl, rfl⟩⟩, trivial⟩) (⟨(fun h => by cases h), (fun _ => ⟨501, _, rfl, rfl⟩), trivial⟩) rfl) trivial rfl ?_
  refine .nil ?_
  show Ev _ _ _ _ _
  refine .region ?_
  refine .q (op_addI rfl rfl ⟨by omega, by omega⟩) trivial rfl ?_
  refine .q (op_move rfl) trivial rfl ?_
  refine .nil ?_
  exact ⟨⟨i + 1, hi⟩, by show _ - (i + 1) < _ - i; omega, StLe.mk [] rfl rfl ⟨⟨_, rfl, by first | rfl | (simp only [AV.ren]; congr 1; omega), rfl⟩, ⟨_, rfl, by first | rfl | (simp only [AV.ren]; congr 1; omega), rfl⟩, ⟨_, rfl, by first | rfl | (simp only [AV.ren]; congr 1; omega), rfl⟩, ⟨_, rfl, by first | rfl | (simp only [AV.ren]; congr 1; omega), rfl⟩, ⟨_, rfl, by first | rfl | (simp only [AV.ren]; congr 1; omega), rfl⟩, ⟨_, rfl, by first | rfl | (simp only [AV.ren]; congr 1; omega), rfl⟩, trivial⟩ ⟨⟨_, _, rfl, rfl, rfl, rfl, id, rfl⟩, ⟨_, _, rfl, rfl, rfl, rfl, id, rfl⟩, trivial⟩⟩
 ·simp only [decide_eq_true_eq, decide_eq_false_iff_not, beq_iff_eq, bne_iff_ne, ne_eq, beq_eq_false_iff_ne, bne_eq_false_iff_eq] at hc16
  refine .exit ?_
  show Ev _ _ _ _ _
  refine .seq ?_
  refine .region ?_
  have he : i = (L.filter (fun x => x.o == w)).length := by omega
  subst he
  refine .q (op_move rfl) trivial rfl ?_
  refine .q (op_len_fsl Tryd.underlying39 rfl) trivial rfl ?_
  refine .q (op_assign rfl) trivial rfl ?_
  refine .nil ?_
  show Ev _ _ _ _ _
  refine .ret ?_
  show RetOk _ _ _ _ _ _ _
  exact ret1v rfl (.inl rfl) rfl (rfl) ⟨rfl, trivial⟩
end Go.Proofs.YticickigndgpcaaDoor
