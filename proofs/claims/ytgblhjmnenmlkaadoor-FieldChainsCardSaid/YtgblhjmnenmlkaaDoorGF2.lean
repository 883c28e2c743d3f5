/-
  Texts of this claim.
-/
import Derived.Test.YtgblhjmnenmlkaaDoorGR
import Derived.Test.YtgblhjmnenmlkaaDoorGF
import Derived.Test.YtgblhjmnenmlkaaDoorGE
import Derived.Test.YtgblhjmnenmlkaaDoorGF1
namespace Go.Proofs.YtgblhjmnenmlkaaDoor
open Go.RowKit
theorem digit_mod (v k : Nat) : ((0 : Int) + ((dk v k : Nat) : Int)) % 65536 = ((dk v k : Nat) : Int) := by have := dk_lt v k; omega
theorem digit_quo (v k : Nat) : ((0 : Int) + ((dk v k : Nat) : Int)) / 65536 = 0 := by have := dk_lt v k; omega
set_option maxHeartbeats 1000000 in
set_option maxRecDepth 100000 in
theorem add_nr (n v : Nat) (hv : v < 65536 ^ n) (hn : n ≤ 1000) : Meets Tryd.prog 55 [.sl 500 0 n 1, .nilsl] [(500, some ⟨.aggI (dn n v), 3, false⟩)] (.sl 1000 0 (dl v) 1) [(1000, some ⟨.aggI (dg v), 3, true⟩)] := by
  refine meets_of_ev (nt := 54) Tryd.func55 rfl rfl (Nat.le_of_ble_eq_true rfl) ?_
  refine .seq ?_
  refine .region ?_
  refine .q (op_assign rfl) trivial rfl ?_
  refine .nil ?_
  show Ev _ _ _ _ _
  refine .seq ?_
  refine .region ?_
  refine .a (ap_build0 (z := 1) (c := .aggI []) Tryd.underlying49 inf3 rfl) trivial rfl ?_
  refine .q (op_assign rfl) trivial rfl ?_
  refine .nil ?_
  show Ev _ _ _ _ _
  refine .seq ?_
  refine .region ?_
  refine .q (op_assign rfl) trivial rfl ?_
  refine .nil ?_
  show Ev _ _ _ _ _
  refine .seq ?_
  refine .seq ?_
  refine .region ?_
  refine .q (op_assign rfl) trivial rfl ?_
  refine .nil ?_
  show Ev _ _ _ _ _
  refine .block ?_
  refine Ev.loop (ι := { k : Nat // k ≤ n }) (fun q => ⟨[(0, .sl 500 0 n 1), (1, .nilsl), (5, .sl 1000 0 q.1 1), (6, .i64 0), (7, .i64 ((q.1 : Nat) : Int))], [(500, some ⟨.aggI (dn n v), 3, false⟩), (1000, some ⟨.aggI (dn q.1 v), 3, true⟩)], 1008⟩) (fun q => n - q.1) ⟨0, Nat.zero_le _⟩ (StLe.mk [(1000, 1000)] rfl rfl ⟨⟨_, rfl, by first | rfl | (simp only [AV.ren]; congr 1; omega), rfl⟩, ⟨_, rfl, by first | rfl | (simp only [AV.ren]; congr 1; omega), rfl⟩, ⟨_, rfl, by first | rfl | (simp only [AV.ren]; congr 1; omega), rfl⟩, ⟨_, rfl, by first | rfl | (simp only [AV.ren]; congr 1; omega), rfl⟩, ⟨_, rfl, by first | rfl | (simp only [AV.ren]; congr 1; omega), rfl⟩, trivial⟩ ⟨⟨_, _, rfl, rfl, rfl, rfl, id, rfl⟩, ⟨_, _, rfl, rfl, rfl, rfl, id, rfl⟩, trivial⟩) ?_
  rintro ⟨k, hk⟩
  try dsimp only
  have hl := length_dn k v
  have hln := length_dn n v
  have hA : k < n → (dn n v).getD k 0 = (dk v k : Int) := fun h => dn_getk _ _ _ h
  have d1 := dk_lt v k
  refine .seq ?_
  refine .seq ?_
  refine .region ?_
  refine .q (op_move rfl) trivial rfl ?_
  refine .q (op_move rfl) trivial rfl ?_
  refine .q (op_len_sl Tryd.underlying49 rfl) trivial rfl ?_
  refine .q (op_cmpI rfl rfl rfl) trivial rfl ?_
  refine .q (op_move rfl) trivial rfl ?_
  refine .split (fun hg13 => ?_) (fun hg13 => ?_)
  · first | replace hg13 := of_decide_eq_true hg13 | replace hg13 := of_decide_eq_false hg13 | replace hg13 := eq_of_beq hg13 | replace hg13 := ne_of_beq_false hg13 | simp only [bne_iff_ne, ne_eq] at hg13 | simp only [bne_eq_false_iff_eq] at hg13
    refine .no ⟨_, rfl, rfl⟩ rfl ?_
    refine .no ⟨_, rfl, rfl⟩ rfl ?_
    refine .no ⟨_, rfl, rfl⟩ rfl ?_
    refine .no ⟨_, rfl, rfl⟩ rfl ?_
    refine .q (op_pick_true rfl rfl rfl) trivial rfl ?_
    refine .q (op_move rfl) trivial rfl ?_
    refine .no ⟨_, rfl, rfl⟩ rfl ?_
    refine .no ⟨_, rfl, rfl⟩ rfl ?_
    refine .q (op_pick_true rfl rfl rfl) trivial rfl ?_
    refine .nil ?_
    show Ev _ _ _ _ _
    refine .cond_true rfl rfl ?_
    refine .skip ?_
    show Ev _ _ _ _ _
    refine .seq ?_
    refine .block ?_
    refine .seq ?_
    refine .seq ?_
    refine .region ?_
    refine .q (op_move rfl) trivial rfl ?_
    refine .q (op_move rfl) trivial rfl ?_
    refine .q (op_len_sl Tryd.underlying49 rfl) trivial rfl ?_
    refine .q (op_cmpI rfl rfl rfl) trivial rfl ?_
    refine .nil ?_
    show Ev _ _ _ _ _
    refine .cond_true rfl (decide_eq_true (by omega)) ?_
    refine .region ?_
    refine .q (op_move rfl) trivial rfl ?_
    refine .q (op_move rfl) trivial rfl ?_
    refine .q (op_move rfl) trivial rfl ?_
    refine .q (ap_idx0 Tryd.underlying49 inf3.sz rfl rfl rfl (by first | omega | (simp only [AV.len]; omega) | (simp only [AV.len, List.length_set]; omega) | assumption | (simp [AV.len]; done))) trivial rfl ?_
    refine .q (op_load Tryd.underlying3 rfl rfl rfl rfl (by first | omega | (simp only [AV.len]; omega) | (simp only [AV.len, List.length_set]; omega) | assumption | (simp [AV.len]; done))) trivial rfl ?_
    refine .as (.i64 ((dk v k : Nat) : Int)) (congrArg AV.i64 (hA (by omega))) ?_
    refine .q (op_addI rfl rfl ⟨by first | omega | (simp only [AV.len]; omega) | (simp only [AV.len, List.length_set]; omega) | assumption | (simp [AV.len]; done), by first | omega | (simp only [AV.len]; omega) | (simp only [AV.len, List.length_set]; omega) | assumption | (simp [AV.len]; done)⟩) trivial rfl ?_
    refine .q (op_assign rfl) trivial rfl ?_
    refine .nil ?_
    show Ev _ _ _ _ _
    refine .seq ?_
    refine .seq ?_
    refine .region ?_
    refine .q (op_move rfl) trivial rfl ?_
    refine .q (op_move rfl) trivial rfl ?_
    refine .q (op_len_nil Tryd.underlying49 rfl) trivial rfl ?_
    refine .q (op_cmpI rfl rfl rfl) trivial rfl ?_
    refine .nil ?_
    show Ev _ _ _ _ _
    refine .cond_false rfl (decide_eq_false (by omega)) ?_
    refine .skip ?_
    show Ev _ _ _ _ _
    refine .seq ?_
    refine .region ?_
    refine .q (op_move rfl) trivial rfl ?_
    refine .q (op_move rfl) trivial rfl ?_
    refine .q (op_remI rfl rfl ⟨by first | omega | (simp only [AV.len]; omega) | (simp only [AV.len, List.length_set]; omega) | assumption | (simp [AV.len]; done), by first | omega | (simp only [AV.len]; omega) | (simp only [AV.len, List.length_set]; omega) | assumption | (simp [AV.len]; done)⟩) trivial rfl ?_
    refine .as (.i64 ((dk v k : Nat) : Int)) (congrArg AV.i64 (digit_mod v k)) ?_
    refine .a (ap_build (us := [_]) (c := .aggI [_]) Tryd.underlying49 inf3 rfl (by decide) (by decide) ⟨rfl, rfl, rfl, trivial⟩ rfl) trivial rfl ?_
    refine .a (ap_cat Tryd.underlying49 inf3 rfl rfl rfl rfl (by first | omega | (simp only [AV.len, length_dn]; done) | (simp [AV.len]; done)) rfl rfl (by first | omega | (simp only [AV.len]; done) | (simp [AV.len]; done)) rfl (by first | omega | (simp only [AV.len, length_dn]; done) | (simp [AV.len]; done))) trivial rfl ?_
    refine .q (op_assign rfl) trivial rfl ?_
    refine .nil ?_
    show Ev _ _ _ _ _
    refine .region ?_
    refine .q (op_move rfl) trivial rfl ?_
    refine .q (op_quoI rfl rfl ⟨by first | omega | (simp only [AV.len]; omega) | (simp only [AV.len, List.length_set]; omega) | assumption | (simp [AV.len]; done), ⟨by first | omega | (simp only [AV.len]; omega) | (simp only [AV.len, List.length_set]; omega) | assumption | (simp [AV.len]; done), by first | omega | (simp only [AV.len]; omega) | (simp only [AV.len, List.length_set]; omega) | assumption | (simp [AV.len]; done)⟩, by first | omega | (simp only [AV.len]; omega) | (simp only [AV.len, List.length_set]; omega) | assumption | (simp [AV.len]; done)⟩) trivial rfl ?_
    refine .as (.i64 0) (congrArg AV.i64 (digit_quo v k)) ?_
    refine .q (op_assign rfl) trivial rfl ?_
    refine .nil ?_
    show Ev _ _ _ _ _
    refine .region ?_
    refine .q (op_move rfl) trivial rfl ?_
    refine .q (op_addI rfl rfl ⟨by first | omega | (simp only [AV.len]; omega) | (simp only [AV.len, List.length_set]; omega) | assumption | (simp [AV.len]; done), by first | omega | (simp only [AV.len]; omega) | (simp only [AV.len, List.length_set]; omega) | assumption | (simp [AV.len]; done)⟩) trivial rfl ?_
    refine .q (op_assign rfl) trivial rfl ?_
    refine .nil ?_
    exact ⟨⟨k + 1, by omega⟩, by (try dsimp only); omega, StLe.mk [(1000, 1016)] rfl rfl ⟨⟨_, rfl, by rfl, rfl⟩, ⟨_, rfl, by rfl, rfl⟩, ⟨_, rfl, by rfl, rfl⟩, ⟨_, rfl, by rfl, rfl⟩, ⟨_, rfl, by (simp only [AV.ren]; congr 1), rfl⟩, trivial⟩ ⟨⟨_, _, rfl, rfl, rfl, rfl, id, rfl⟩, ⟨_, _, rfl, rfl, by (simp only [AV.ren]; rw [dn_succk]), rfl, id, rfl⟩, trivial⟩⟩
  · first | replace hg13 := of_decide_eq_true hg13 | replace hg13 := of_decide_eq_false hg13 | replace hg13 := eq_of_beq hg13 | replace hg13 := ne_of_beq_false hg13 | simp only [bne_iff_ne, ne_eq] at hg13 | simp only [bne_eq_false_iff_eq] at hg13
    refine .q (op_move rfl) ⟨_, rfl, rfl⟩ rfl ?_
    refine .q (op_move rfl) ⟨_, rfl, rfl⟩ rfl ?_
    refine .q (op_len_nil Tryd.underlying49 rfl) ⟨_, rfl, rfl⟩ rfl ?_
    refine .q (op_cmpI rfl rfl rfl) ⟨_, rfl, rfl⟩ rfl ?_
    refine .q (op_pick_false rfl rfl rfl) trivial rfl ?_
    refine .q (op_move rfl) trivial rfl ?_
    refine .know (b' := false) (decide_eq_false (by omega)) ?_
    refine .q (op_move rfl) ⟨_, rfl, rfl⟩ rfl ?_
    refine .q (op_cmpI rfl rfl rfl) ⟨_, rfl, rfl⟩ rfl ?_
    refine .q (op_pick_false rfl rfl rfl) trivial rfl ?_
    refine .nil ?_
    show Ev _ _ _ _ _
    refine .cond_false rfl (by decide) ?_
    refine .exit ?_
    show Ev _ _ _ _ _
    refine .seq ?_
    refine .region ?_
    refine .q (op_move rfl) trivial rfl ?_
    refine .q (op_call (U := []) [(500, 1000)] [] (trim_dn k v (by rw [show k = n by omega]; exact hv) (by omega)) Tryd.func87 (by kernel_rfl) rfl rfl rfl (⟨⟨_, rfl, rfl, rfl⟩, trivial⟩) (⟨⟨_, _, rfl, rfl, rfl, rfl, (fun h => by cases h), rfl⟩, trivial⟩) (trivial) (⟨(fun h => by cases h), trivial⟩) rfl) trivial rfl ?_
    refine .q (op_assign rfl) trivial rfl ?_
    refine .nil ?_
    show Ev _ _ _ _ _
    refine Ev.pre (H2 := [(1000, some ⟨.aggI (dg v), 3, true⟩)]) ⟨⟨.aggI (dn k v), dl v, rfl, pre_dn k v (dl_le (by rw [show k = n by omega]; exact hv))⟩, trivial⟩ ?_
    refine .ret ?_
    show RetOk _ _ _ _ _ _ _
    exact ret1v rfl (.inl rfl) rfl rfl ⟨rfl, trivial⟩
set_option maxHeartbeats 1000000 in
set_option maxRecDepth 100000 in
theorem add_nl (n v : Nat) (hv : v < 65536 ^ n) (hn : n ≤ 1000) : Meets Tryd.prog 55 [.nilsl, .sl 501 0 n 1] [(501, some ⟨.aggI (dn n v), 3, false⟩)] (.sl 1000 0 (dl v) 1) [(1000, some ⟨.aggI (dg v), 3, true⟩)] := by
  refine meets_of_ev (nt := 54) Tryd.func55 rfl rfl (Nat.le_of_ble_eq_true rfl) ?_
  refine .seq ?_
  refine .region ?_
  refine .q (op_assign rfl) trivial rfl ?_
  refine .nil ?_
  show Ev _ _ _ _ _
  refine .seq ?_
  refine .region ?_
  refine .a (ap_build0 (z := 1) (c := .aggI []) Tryd.underlying49 inf3 rfl) trivial rfl ?_
  refine .q (op_assign rfl) trivial rfl ?_
  refine .nil ?_
  show Ev _ _ _ _ _
  refine .seq ?_
  refine .region ?_
  refine .q (op_assign rfl) trivial rfl ?_
  refine .nil ?_
  show Ev _ _ _ _ _
  refine .seq ?_
  refine .seq ?_
  refine .region ?_
  refine .q (op_assign rfl) trivial rfl ?_
  refine .nil ?_
  show Ev _ _ _ _ _
  refine .block ?_
  refine Ev.loop (ι := { k : Nat // k ≤ n }) (fun q => ⟨[(0, .nilsl), (1, .sl 501 0 n 1), (5, .sl 1000 0 q.1 1), (6, .i64 0), (7, .i64 ((q.1 : Nat) : Int))], [(501, some ⟨.aggI (dn n v), 3, false⟩), (1000, some ⟨.aggI (dn q.1 v), 3, true⟩)], 1008⟩) (fun q => n - q.1) ⟨0, Nat.zero_le _⟩ (StLe.mk [(1000, 1000)] rfl rfl ⟨⟨_, rfl, by first | rfl | (simp only [AV.ren]; congr 1; omega), rfl⟩, ⟨_, rfl, by first | rfl | (simp only [AV.ren]; congr 1; omega), rfl⟩, ⟨_, rfl, by first | rfl | (simp only [AV.ren]; congr 1; omega), rfl⟩, ⟨_, rfl, by first | rfl | (simp only [AV.ren]; congr 1; omega), rfl⟩, ⟨_, rfl, by first | rfl | (simp only [AV.ren]; congr 1; omega), rfl⟩, trivial⟩ ⟨⟨_, _, rfl, rfl, rfl, rfl, id, rfl⟩, ⟨_, _, rfl, rfl, rfl, rfl, id, rfl⟩, trivial⟩) ?_
  rintro ⟨k, hk⟩
  try dsimp only
  have hl := length_dn k v
  have hln := length_dn n v
  have hA : k < n → (dn n v).getD k 0 = (dk v k : Int) := fun h => dn_getk _ _ _ h
  have d1 := dk_lt v k
  refine .seq ?_
  refine .seq ?_
  refine .region ?_
  refine .q (op_move rfl) trivial rfl ?_
  refine .q (op_move rfl) trivial rfl ?_
  refine .q (op_len_nil Tryd.underlying49 rfl) trivial rfl ?_
  refine .q (op_cmpI rfl rfl rfl) trivial rfl ?_
  refine .q (op_move rfl) trivial rfl ?_
  refine .know (b' := false) (decide_eq_false (by omega)) ?_
  refine .q (op_move rfl) ⟨_, rfl, rfl⟩ rfl ?_
  refine .q (op_move rfl) ⟨_, rfl, rfl⟩ rfl ?_
  refine .q (op_len_sl Tryd.underlying49 rfl) ⟨_, rfl, rfl⟩ rfl ?_
  refine .q (op_cmpI rfl rfl rfl) ⟨_, rfl, rfl⟩ rfl ?_
  refine .q (op_pick_false rfl rfl rfl) trivial rfl ?_
  refine .q (op_move rfl) trivial rfl ?_
  refine .split (fun hg19 => ?_) (fun hg19 => ?_)
  · first | replace hg19 := of_decide_eq_true hg19 | replace hg19 := of_decide_eq_false hg19 | replace hg19 := eq_of_beq hg19 | replace hg19 := ne_of_beq_false hg19 | simp only [bne_iff_ne, ne_eq] at hg19 | simp only [bne_eq_false_iff_eq] at hg19
    refine .no ⟨_, rfl, rfl⟩ rfl ?_
    refine .no ⟨_, rfl, rfl⟩ rfl ?_
    refine .q (op_pick_true rfl rfl rfl) trivial rfl ?_
    refine .nil ?_
    show Ev _ _ _ _ _
    refine .cond_true rfl rfl ?_
    refine .skip ?_
    show Ev _ _ _ _ _
    refine .seq ?_
    refine .block ?_
    refine .seq ?_
    refine .seq ?_
    refine .region ?_
    refine .q (op_move rfl) trivial rfl ?_
    refine .q (op_move rfl) trivial rfl ?_
    refine .q (op_len_nil Tryd.underlying49 rfl) trivial rfl ?_
    refine .q (op_cmpI rfl rfl rfl) trivial rfl ?_
    refine .nil ?_
    show Ev _ _ _ _ _
    refine .cond_false rfl (decide_eq_false (by omega)) ?_
    refine .skip ?_
    show Ev _ _ _ _ _
    refine .seq ?_
    refine .seq ?_
    refine .region ?_
    refine .q (op_move rfl) trivial rfl ?_
    refine .q (op_move rfl) trivial rfl ?_
    refine .q (op_len_sl Tryd.underlying49 rfl) trivial rfl ?_
    refine .q (op_cmpI rfl rfl rfl) trivial rfl ?_
    refine .nil ?_
    show Ev _ _ _ _ _
    refine .cond_true rfl (decide_eq_true (by omega)) ?_
    refine .region ?_
    refine .q (op_move rfl) trivial rfl ?_
    refine .q (op_move rfl) trivial rfl ?_
    refine .q (op_move rfl) trivial rfl ?_
    refine .q (ap_idx0 Tryd.underlying49 inf3.sz rfl rfl rfl (by first | omega | (simp only [AV.len]; omega) | (simp only [AV.len, List.length_set]; omega) | assumption | (simp [AV.len]; done))) trivial rfl ?_
    refine .q (op_load Tryd.underlying3 rfl rfl rfl rfl (by first | omega | (simp only [AV.len]; omega) | (simp only [AV.len, List.length_set]; omega) | assumption | (simp [AV.len]; done))) trivial rfl ?_
    refine .as (.i64 ((dk v k : Nat) : Int)) (congrArg AV.i64 (hA (by omega))) ?_
    refine .q (op_addI rfl rfl ⟨by first | omega | (simp only [AV.len]; omega) | (simp only [AV.len, List.length_set]; omega) | assumption | (simp [AV.len]; done), by first | omega | (simp only [AV.len]; omega) | (simp only [AV.len, List.length_set]; omega) | assumption | (simp [AV.len]; done)⟩) trivial rfl ?_
    refine .q (op_assign rfl) trivial rfl ?_
    refine .nil ?_
    show Ev _ _ _ _ _
    refine .seq ?_
    refine .region ?_
    refine .q (op_move rfl) trivial rfl ?_
    refine .q (op_move rfl) trivial rfl ?_
    refine .q (op_remI rfl rfl ⟨by first | omega | (simp only [AV.len]; omega) | (simp only [AV.len, List.length_set]; omega) | assumption | (simp [AV.len]; done), by first | omega | (simp only [AV.len]; omega) | (simp only [AV.len, List.length_set]; omega) | assumption | (simp [AV.len]; done)⟩) trivial rfl ?_
    refine .as (.i64 ((dk v k : Nat) : Int)) (congrArg AV.i64 (digit_mod v k)) ?_
    refine .a (ap_build (us := [_]) (c := .aggI [_]) Tryd.underlying49 inf3 rfl (by decide) (by decide) ⟨rfl, rfl, rfl, trivial⟩ rfl) trivial rfl ?_
    refine .a (ap_cat Tryd.underlying49 inf3 rfl rfl rfl rfl (by first | omega | (simp only [AV.len, length_dn]; done) | (simp [AV.len]; done)) rfl rfl (by first | omega | (simp only [AV.len]; done) | (simp [AV.len]; done)) rfl (by first | omega | (simp only [AV.len, length_dn]; done) | (simp [AV.len]; done))) trivial rfl ?_
    refine .q (op_assign rfl) trivial rfl ?_
    refine .nil ?_
    show Ev _ _ _ _ _
    refine .region ?_
    refine .q (op_move rfl) trivial rfl ?_
    refine .q (op_quoI rfl rfl ⟨by first | omega | (simp only [AV.len]; omega) | (simp only [AV.len, List.length_set]; omega) | assumption | (simp [AV.len]; done), ⟨by first | omega | (simp only [AV.len]; omega) | (simp only [AV.len, List.length_set]; omega) | assumption | (simp [AV.len]; done), by first | omega | (simp only [AV.len]; omega) | (simp only [AV.len, List.length_set]; omega) | assumption | (simp [AV.len]; done)⟩, by first | omega | (simp only [AV.len]; omega) | (simp only [AV.len, List.length_set]; omega) | assumption | (simp [AV.len]; done)⟩) trivial rfl ?_
    refine .as (.i64 0) (congrArg AV.i64 (digit_quo v k)) ?_
    refine .q (op_assign rfl) trivial rfl ?_
    refine .nil ?_
    show Ev _ _ _ _ _
    refine .region ?_
    refine .q (op_move rfl) trivial rfl ?_
    refine .q (op_addI rfl rfl ⟨by first | omega | (simp only [AV.len]; omega) | (simp only [AV.len, List.length_set]; omega) | assumption | (simp [AV.len]; done), by first | omega | (simp only [AV.len]; omega) | (simp only [AV.len, List.length_set]; omega) | assumption | (simp [AV.len]; done)⟩) trivial rfl ?_
    refine .q (op_assign rfl) trivial rfl ?_
    refine .nil ?_
    exact ⟨⟨k + 1, by omega⟩, by (try dsimp only); omega, StLe.mk [(1000, 1016)] rfl rfl ⟨⟨_, rfl, by rfl, rfl⟩, ⟨_, rfl, by rfl, rfl⟩, ⟨_, rfl, by rfl, rfl⟩, ⟨_, rfl, by rfl, rfl⟩, ⟨_, rfl, by (simp only [AV.ren]; congr 1), rfl⟩, trivial⟩ ⟨⟨_, _, rfl, rfl, rfl, rfl, id, rfl⟩, ⟨_, _, rfl, rfl, by (simp only [AV.ren]; rw [dn_succk]), rfl, id, rfl⟩, trivial⟩⟩
  · first | replace hg19 := of_decide_eq_true hg19 | replace hg19 := of_decide_eq_false hg19 | replace hg19 := eq_of_beq hg19 | replace hg19 := ne_of_beq_false hg19 | simp only [bne_iff_ne, ne_eq] at hg19 | simp only [bne_eq_false_iff_eq] at hg19
    refine .q (op_move rfl) ⟨_, rfl, rfl⟩ rfl ?_
    refine .q (op_cmpI rfl rfl rfl) ⟨_, rfl, rfl⟩ rfl ?_
    refine .q (op_pick_false rfl rfl rfl) trivial rfl ?_
    refine .nil ?_
    show Ev _ _ _ _ _
    refine .cond_false rfl (by decide) ?_
    refine .exit ?_
    show Ev _ _ _ _ _
    refine .seq ?_
    refine .region ?_
    refine .q (op_move rfl) trivial rfl ?_
    refine .q (op_call (U := []) [(500, 1000)] [] (trim_dn k v (by rw [show k = n by omega]; exact hv) (by omega)) Tryd.func87 (by kernel_rfl) rfl rfl rfl (⟨⟨_, rfl, rfl, rfl⟩, trivial⟩) (⟨⟨_, _, rfl, rfl, rfl, rfl, (fun h => by cases h), rfl⟩, trivial⟩) (trivial) (⟨(fun h => by cases h), trivial⟩) rfl) trivial rfl ?_
    refine .q (op_assign rfl) trivial rfl ?_
    refine .nil ?_
    show Ev _ _ _ _ _
    refine Ev.pre (H2 := [(1000, some ⟨.aggI (dg v), 3, true⟩)]) ⟨⟨.aggI (dn k v), dl v, rfl, pre_dn k v (dl_le (by rw [show k = n by omega]; exact hv))⟩, trivial⟩ ?_
    refine .ret ?_
    show RetOk _ _ _ _ _ _ _
    exact ret1v rfl (.inl rfl) rfl rfl ⟨rfl, trivial⟩
end Go.Proofs.YtgblhjmnenmlkaaDoor
namespace Go.Proofs.YtgblhjmnenmlkaaDoor
open Go.RowKit
theorem dl_fp : dl fp ≤ 16 := dl_le (by decide)
theorem dl_255 : dl (2 ^ 255) = 16 := dl_pow 255
theorem dn_eq (n a b : Nat) (h : ∀ i, i < n → a / 65536 ^ i % 65536 = b / 65536 ^ i % 65536) : dn n a = dn n b := by
  induction n with
  | zero => rfl
  | succ n ih => rw [dn_succ, dn_succ, ih (fun i hi => h i (by omega)), h n (by omega)]
theorem low_digit (a : Nat) (i : Nat) (h : i < 15) : a / 65536 ^ i % 65536 = (a % 2 ^ 255) / 65536 ^ i % 65536 := by
  have e : a = a % 2 ^ 255 + 65536 ^ i * (65536 * (65536 ^ (14 - i) * (32768 * (a / 2 ^ 255)))) := by
    have hp : 65536 ^ i * (65536 * 65536 ^ (14 - i)) = 65536 ^ 15 := by rw [← Nat.pow_succ', ← Nat.pow_add, show i + (14 - i + 1) = 15 by omega]
    have : 65536 ^ i * (65536 * (65536 ^ (14 - i) * (32768 * (a / 2 ^ 255)))) = 65536 ^ 15 * (32768 * (a / 2 ^ 255)) := by rw [← hp]; grind
    rw [this]
    have h15 : (65536 : Nat) ^ 15 = 1766847064778384329583297500742918515827483896875618958121606201292619776 := by decide
    rw [h15]; omega
  conv => lhs; rw [e]
  rw [Nat.add_mul_div_left _ _ (Nat.pow_pos (by decide)), Nat.add_mul_mod_self_left]
theorem low_top (a : Nat) : (a % 2 ^ 255) / 65536 ^ 15 % 65536 = a / 65536 ^ 15 % 65536 % 32768 := by
  have h15 : (65536 : Nat) ^ 15 = 1766847064778384329583297500742918515827483896875618958121606201292619776 := by decide
  rw [h15]; omega
theorem low_set (a : Nat) : (dn 16 a).set 15 (((dk a 15 : Nat) : Int) % 32768) = dn 16 (a % 2 ^ 255) := by
  rw [dn_succ 15 a, dn_succ 15 (a % 2 ^ 255), List.set_append_right _ _ (by rw [length_dn]; omega), length_dn, Nat.sub_self, dn_eq 15 a (a % 2 ^ 255) (fun i hi => low_digit a i hi), low_top]
  simp only [List.set_cons_zero]
  congr 2
theorem low_lt16 (a : Nat) : a % 2 ^ 255 < 65536 ^ 16 := by
  have h16 : (65536 : Nat) ^ 16 = 2 ^ 256 := by decide
  rw [h16]; omega
theorem top_lt {a : Nat} (h : a < 2 ^ 255) : dk a 15 < 32768 := by
  have h15 : (65536 : Nat) ^ 15 = 1766847064778384329583297500742918515827483896875618958121606201292619776 := by decide
  unfold dk; rw [h15]; omega
theorem top_ge {a : Nat} (h : 2 ^ 255 ≤ a) (hd : dl a ≤ 16) : 32768 ≤ dk a 15 := by
  have h15 : (65536 : Nat) ^ 15 = 1766847064778384329583297500742918515827483896875618958121606201292619776 := by decide
  have h16 : (65536 : Nat) ^ 16 = 2 ^ 256 := by decide
  have hl := Nat.lt_of_lt_of_le (dl_lt a) (Nat.pow_le_pow_right (show 0 < 65536 by decide) hd)
  unfold dk; rw [h15]; rw [h16] at hl; omega
theorem dl_big {a : Nat} (h : 2 ^ 255 ≤ a) : 16 ≤ dl a := by
  refine dl_ge (n := 15) (Nat.le_trans ?_ h)
  decide
theorem dl_small {a : Nat} (h : a < 2 ^ 255) : dl a ≤ 16 := dl_le (Nat.lt_trans h (by decide))
theorem dl_lowid {a : Nat} (h : dl a < 16) : a % 2 ^ 255 = a := by
  refine Nat.mod_eq_of_lt (Nat.lt_of_lt_of_le (dl_lt a) ?_)
  exact Nat.le_trans (Nat.pow_le_pow_right (by decide) (show dl a ≤ 15 by omega)) (by decide)
theorem cmpF (a b : Nat) : 0 ≤ cmpN a b ↔ b ≤ a := by
  unfold cmpN; split
  · omega
  · split <;> omega
def foldF (y : Nat) : Nat := y % 2 ^ 255 + y / 2 ^ 255 * 19
theorem foldF_le (y : Nat) : foldF y ≤ y := by unfold foldF; omega
theorem foldF_lt {y : Nat} (h : 2 ^ 255 ≤ y) : foldF y < y := by unfold foldF; omega
theorem foldF_mod (y : Nat) : foldF y % fp = y % fp := by
  have : y = foldF y + fp * (y / 2 ^ 255) := by unfold foldF fp; omega
  conv => rhs; rw [this]
  rw [Nat.add_mul_mod_self_left]
theorem fp_255 : fp < 2 ^ 255 := by decide
theorem fin_sub {x y : Nat} (h : y % fp = x % fp) (h1 : y < 2 ^ 255) (h2 : fp ≤ y) : y - fp = x % fp := by
  rw [← h]; unfold fp at *; omega
theorem fin_id {x y : Nat} (h : y % fp = x % fp) (h2 : ¬ fp ≤ y) : y = x % fp := by
  rw [← h]; exact (Nat.mod_eq_of_lt (by omega)).symm
theorem dl_addF {a b n : Nat} (ha : dl a ≤ n) (hb : dl b ≤ n) : dl (a + b) ≤ n + 1 := by
  refine dl_le ?_
  have h1 := Nat.lt_of_lt_of_le (dl_lt a) (Nat.pow_le_pow_right (show 0 < 65536 by decide) ha)
  have h2 := Nat.lt_of_lt_of_le (dl_lt b) (Nat.pow_le_pow_right (show 0 < 65536 by decide) hb)
  rw [Nat.pow_succ]; omega
theorem dl_mulF {a b n m : Nat} (ha : dl a ≤ n) (hb : dl b ≤ m) : dl (a * b) ≤ n + m := by
  refine dl_le ?_
  have h1 := Nat.lt_of_lt_of_le (dl_lt a) (Nat.pow_le_pow_right (show 0 < 65536 by decide) ha)
  have h2 := Nat.lt_of_lt_of_le (dl_lt b) (Nat.pow_le_pow_right (show 0 < 65536 by decide) hb)
  rw [Nat.pow_add]
  exact Nat.mul_lt_mul_of_lt_of_le h1 (Nat.le_of_lt h2) (Nat.lt_of_le_of_lt (Nat.zero_le _) h2)
set_option maxHeartbeats 1000000 in
set_option maxRecDepth 100000 in
theorem P_ev  : Meets Tryd.prog 74 [] [] (.sl 1000 0 (dl fp) 1) [(1000, some ⟨.aggI (dg fp), 3, true⟩)] := by
  refine meets_of_ev (nt := 4) Tryd.func74 rfl rfl (Nat.le_of_ble_eq_true rfl) ?_
  refine .seq ?_
  refine .region ?_
  refine .q (op_assign rfl) trivial rfl ?_
  refine .nil ?_
  show Ev _ _ _ _ _
  refine .seq ?_
  refine .region ?_
  refine .a (op_call (U := [(1000, some ⟨.aggI (dg (2 ^ 255)), 3, true⟩)]) [] [(1000, 1000)] (power_ev 255 (by omega)) Tryd.func52 (by kernel_rfl) rfl rfl rfl (⟨⟨_, rfl, rfl, rfl⟩, trivial⟩) (trivial) (⟨⟨1000, _, rfl, rfl, rfl, rfl, .inl rfl⟩, trivial⟩) (trivial) rfl) trivial rfl ?_
  refine .a (op_call (U := [(1008, some ⟨.aggI (dg (19)), 3, true⟩)]) [] [(1008, 1000)] (small_ev 19 (by omega)) Tryd.func53 (by kernel_rfl) rfl rfl rfl (⟨⟨_, rfl, rfl, rfl⟩, trivial⟩) (trivial) (⟨⟨1000, _, rfl, rfl, rfl, rfl, .inl rfl⟩, trivial⟩) (trivial) rfl) trivial rfl ?_
  refine .a (op_call (U := [(1016, some ⟨.aggI (dg (2 ^ 255 - 19)), 3, true⟩)]) [(500, 1000), (501, 1008)] [(1016, 1000)] (sub_ev (2 ^ 255) 19 (by decide) (by have := dl_255; omega) (Nat.le_trans (dl_le (n := 1) (by decide)) (by decide))) Tryd.func51 (by kernel_rfl) rfl rfl rfl (⟨⟨_, rfl, rfl, rfl⟩, ⟨_, rfl, rfl, rfl⟩, trivial⟩) (⟨⟨_, _, rfl, rfl, rfl, rfl, (fun h => by cases h), rfl⟩, ⟨_, _, rfl, rfl, rfl, rfl, (fun h => by cases h), rfl⟩, trivial⟩) (⟨⟨1000, _, rfl, rfl, rfl, rfl, .inl rfl⟩, trivial⟩) (⟨(fun h => by cases h), (fun h => by cases h), trivial⟩) rfl) trivial rfl ?_
  refine .q (op_assign rfl) trivial rfl ?_
  refine .nil ?_
  show Ev _ _ _ _ _
  refine Ev.weak (st2 := ⟨[(0, .sl 1000 0 (dl (fp)) 1)], [(1000, some ⟨.aggI (dg (fp)), 3, true⟩)], 1008⟩) (StLe.mk [(1000, 1016)] rfl rfl ⟨⟨_, rfl, by (show AV.sl 1000 0 (dl (2 ^ 255 - 19)) 1 = _; rw [fp_eq]), rfl⟩, trivial⟩ ⟨⟨_, _, rfl, rfl, by (show AV.aggI (dg (2 ^ 255 - 19)) = _; rw [fp_eq]), rfl, id, rfl⟩, trivial⟩) ?_
  refine .ret ?_
  show RetOk _ _ _ _ _ _ _
  exact ret1v rfl (.inl rfl) rfl rfl ⟨rfl, trivial⟩
set_option maxHeartbeats 1000000 in
set_option maxRecDepth 100000 in
theorem low_id (a : Nat) (h : dl a < 16) : Meets Tryd.prog 72 [.sl 500 0 (dl a) 1] [(500, some ⟨.aggI (dg a), 3, false⟩)] (.sl 500 0 (dl a) 1) [] := by
  refine meets_of_ev (nt := 20) Tryd.func72 rfl rfl (Nat.le_of_ble_eq_true rfl) ?_
  refine .seq ?_
  refine .region ?_
  refine .q (op_assign rfl) trivial rfl ?_
  refine .nil ?_
  show Ev _ _ _ _ _
  refine .seq ?_
  refine .seq ?_
  refine .region ?_
  refine .q (op_move rfl) trivial rfl ?_
  refine .q (op_len_sl Tryd.underlying49 rfl) trivial rfl ?_
  refine .q (op_cmpI rfl rfl rfl) trivial rfl ?_
  refine .nil ?_
  show Ev _ _ _ _ _
  refine .cond_true rfl (decide_eq_true (by omega)) ?_
  refine .seq ?_
  refine .region ?_
  refine .q (op_move rfl) trivial rfl ?_
  refine .q (op_assign rfl) trivial rfl ?_
  refine .nil ?_
  show Ev _ _ _ _ _
  refine .ret ?_
  show RetOk _ _ _ _ _ _ _
  exact ret1v rfl (.inl rfl) rfl rfl trivial
theorem cat16 (a : Nat) (h : 16 ≤ dl a) : (AV.aggI (dn 16 a)).list = (AV.aggI []).list ++ ((AV.aggI (dg a)).list.drop 0).take (16 * 1) := by
  show (dn 16 a).map AV.i64 = [] ++ (((dg a).map AV.i64).drop 0).take 16
  rw [List.nil_append, List.drop_zero, ← List.map_take, show (dg a).take 16 = dn 16 a from dn_take (dl a) 16 a h]
set_option maxHeartbeats 1000000 in
set_option maxRecDepth 100000 in
theorem low_new (a : Nat) (h : 16 ≤ dl a) (ha : dl a ≤ 1000) : Meets Tryd.prog 72 [.sl 500 0 (dl a) 1] [(500, some ⟨.aggI (dg a), 3, false⟩)] (.sl 1000 0 (dl (a % 2 ^ 255)) 1) [(1000, some ⟨.aggI (dg (a % 2 ^ 255)), 3, true⟩)] := by
  refine meets_of_ev (nt := 20) Tryd.func72 rfl rfl (Nat.le_of_ble_eq_true rfl) ?_
  refine .seq ?_
  refine .region ?_
  refine .q (op_assign rfl) trivial rfl ?_
  refine .nil ?_
  show Ev _ _ _ _ _
  refine .seq ?_
  refine .seq ?_
  refine .region ?_
  refine .q (op_move rfl) trivial rfl ?_
  refine .q (op_len_sl Tryd.underlying49 rfl) trivial rfl ?_
  refine .q (op_cmpI rfl rfl rfl) trivial rfl ?_
  refine .nil ?_
  show Ev _ _ _ _ _
  refine .cond_false rfl (decide_eq_false (by omega)) ?_
  refine .skip ?_
  show Ev _ _ _ _ _
  refine .seq ?_
  refine .region ?_
  refine .a (ap_build0 (z := 1) (c := .aggI []) Tryd.underlying49 inf3 rfl) trivial rfl ?_
  refine .q (op_move rfl) trivial rfl ?_
  refine .q (ap_slice_sl_hi Tryd.underlying49 inf3.sz rfl (bnd_some rfl rfl) (by omega)) trivial rfl ?_
  refine .a (ap_append (c' := .aggI (dn 16 a)) Tryd.underlying49 Tryd.underlying49 (.inr ⟨_, rfl⟩) inf3 rfl rfl rfl rfl rfl (srcs_sl (z := 1) (m := 16) (o := 0) rfl rfl (by show 0 + 16 * 1 ≤ (dg a).length; rw [length_dg]; omega)) (cat16 a h) (by decide)) trivial rfl ?_
  refine .q (op_assign rfl) trivial rfl ?_
  refine .nil ?_
  show Ev _ _ _ _ _
  refine .seq ?_
  refine .region ?_
  refine .q (op_move rfl) trivial rfl ?_
  refine .q (op_move rfl) trivial rfl ?_
  refine .q (ap_idx0 Tryd.underlying49 inf3.sz rfl rfl rfl (by first | omega | (skip; omega) | (skip; omega) | assumption | (simp; done))) trivial rfl ?_
  refine .q (op_load Tryd.underlying3 rfl rfl rfl rfl (by show 15 < (dn 16 a).length; rw [length_dn]; decide)) trivial rfl ?_
  refine .as (.i64 ((dk a 15 : Nat) : Int)) (congrArg AV.i64 (dn_getk 16 a 15 (by decide))) ?_
  refine .q (op_remI rfl rfl ⟨by first | omega | (simp only [AV.len]; omega) | (simp only [AV.len, List.length_set]; omega) | assumption | (simp [AV.len]; done), by first | omega | (simp only [AV.len]; omega) | (simp only [AV.len, List.length_set]; omega) | assumption | (simp [AV.len]; done)⟩) trivial rfl ?_
  refine .q (ap_idx0 Tryd.underlying49 inf3.sz rfl rfl rfl (by first | omega | (skip; omega) | (skip; omega) | assumption | (simp; done))) trivial rfl ?_
  refine .w (op_store inf3.sz rfl rfl rfl rfl rfl (by show 15 < (dn 16 a).length; rw [length_dn]; decide)) trivial rfl ?_
  refine .asH (.aggI (dn 16 (a % 2 ^ 255))) (congrArg AV.aggI (low_set a)) ?_
  refine .nil ?_
  show Ev _ _ _ _ _
  refine .seq ?_
  refine .region ?_
  refine .q (op_move rfl) trivial rfl ?_
  refine .a (op_call (U := [(1016, some ⟨.aggI (dg (a % 2 ^ 255)), 3, true⟩)]) [(500, 1008)] [(1016, 1000)] (add_nr 16 (a % 2 ^ 255) (low_lt16 a) (by decide)) Tryd.func55 (by kernel_rfl) rfl rfl rfl (⟨⟨_, rfl, rfl, rfl⟩, ⟨_, rfl, rfl, rfl⟩, trivial⟩) (⟨⟨_, _, rfl, rfl, rfl, rfl, (fun h => by cases h), rfl⟩, trivial⟩) (⟨⟨1000, _, rfl, rfl, rfl, rfl, .inl rfl⟩, trivial⟩) (⟨(fun h => by cases h), trivial⟩) rfl) trivial rfl ?_
  refine .q (op_assign rfl) trivial rfl ?_
  refine .nil ?_
  show Ev _ _ _ _ _
  refine Ev.weak (st2 := ⟨[(2, .sl 1000 0 (dl (a % 2 ^ 255)) 1)], [(1000, some ⟨.aggI (dg (a % 2 ^ 255)), 3, true⟩)], 1008⟩) (StLe.mk [(1000, 1016)] rfl rfl ⟨⟨_, rfl, by (show AV.sl 1000 0 (dl (a % 2 ^ 255)) 1 = _; rfl), rfl⟩, trivial⟩ ⟨⟨_, _, rfl, rfl, by (show AV.aggI (dg (a % 2 ^ 255)) = _; rfl), rfl, id, rfl⟩, trivial⟩) ?_
  refine .ret ?_
  show RetOk _ _ _ _ _ _ _
  exact ret1v rfl (.inl rfl) rfl rfl ⟨rfl, trivial⟩
end Go.Proofs.YtgblhjmnenmlkaaDoor
namespace Go.Proofs.YtgblhjmnenmlkaaDoor
open Go.RowKit
set_option maxHeartbeats 1000000 in
set_option maxRecDepth 100000 in
theorem cut_id (a : Nat) (h : a < fp) : Meets Tryd.prog 71 [.sl 500 0 (dl a) 1] [(500, some ⟨.aggI (dg a), 3, false⟩)] (.sl 500 0 (dl a) 1) [] := by
  have hd : dl a ≤ 16 := dl_small (by have := fp_255; omega)
  have htop := top_lt (a := a) (by have := fp_255; omega)
  have hdk : 15 < dl a → (dg a).getD 15 0 = (dk a 15 : Int) := fun h => dn_getk _ _ _ h
  have hlg := length_dg a
  have hcm := cmpF a fp
  refine meets_of_ev (nt := 32) Tryd.func71 rfl rfl (Nat.le_of_ble_eq_true rfl) ?_
  refine .seq ?_
  refine .region ?_
  refine .q (op_assign rfl) trivial rfl ?_
  refine .nil ?_
  show Ev _ _ _ _ _
  refine .seq ?_
  refine .block ?_
  refine Ev.loop (ι := Unit) (fun q => ⟨[(0, .sl 500 0 (dl a) 1)], [(500, some ⟨.aggI (dg a), 3, false⟩)], 1000⟩) (fun q => 0) () (StLe.mk [] rfl rfl ⟨⟨_, rfl, by first | rfl | (simp only [AV.ren]; congr 1; omega), rfl⟩, trivial⟩ ⟨⟨_, _, rfl, rfl, rfl, rfl, id, rfl⟩, trivial⟩) ?_
  rintro ⟨⟩
  try dsimp only
  refine .seq ?_
  refine .seq ?_
  refine .region ?_
  refine .q (op_move rfl) trivial rfl ?_
  refine .q (op_len_sl Tryd.underlying49 rfl) trivial rfl ?_
  refine .q (op_cmpI rfl rfl rfl) trivial rfl ?_
  refine .q (op_move rfl) trivial rfl ?_
  refine .know (b' := false) (decide_eq_false (by omega)) ?_
  refine .q (op_move rfl) ⟨_, rfl, rfl⟩ rfl ?_
  refine .q (op_len_sl Tryd.underlying49 rfl) ⟨_, rfl, rfl⟩ rfl ?_
  refine .q (op_cmpI rfl rfl rfl) ⟨_, rfl, rfl⟩ rfl ?_
  refine .q (op_move rfl) ⟨_, rfl, rfl⟩ rfl ?_
  refine .split (fun hg10 => ?_) (fun hg10 => ?_)
  · first | replace hg10 := of_decide_eq_true hg10 | replace hg10 := of_decide_eq_false hg10 | replace hg10 := eq_of_beq hg10 | replace hg10 := ne_of_beq_false hg10 | simp only [bne_iff_ne, ne_eq] at hg10 | simp only [bne_eq_false_iff_eq] at hg10
    refine .q (op_move rfl) ⟨_, rfl, rfl⟩ rfl ?_
    refine .q (ap_idx0 Tryd.underlying49 inf3.sz rfl rfl rfl (by first | omega | (simp only [AV.len]; omega) | (simp only [AV.len, List.length_set]; omega) | assumption | (simp [AV.len]; done))) ⟨_, rfl, rfl⟩ rfl ?_
    refine .q (op_load Tryd.underlying3 rfl rfl rfl rfl (by show 15 < (dg a).length; omega)) ⟨_, rfl, rfl⟩ rfl ?_
    refine .as (.i64 ((dk a 15 : Nat) : Int)) (congrArg AV.i64 (hdk (by omega))) ?_
    refine .q (op_cmpI rfl rfl rfl) ⟨_, rfl, rfl⟩ rfl ?_
    refine .q (op_pick_true rfl rfl rfl) ⟨_, rfl, rfl⟩ rfl ?_
    refine .q (op_pick_false rfl rfl rfl) trivial rfl ?_
    refine .nil ?_
    show Ev _ _ _ _ _
    refine .cond_false rfl (by first | exact decide_eq_false (by omega) | rfl) ?_
    refine .exit ?_
    show Ev _ _ _ _ _
    refine .seq ?_
    refine .seq ?_
    refine .region ?_
    refine .q (op_move rfl) trivial rfl ?_
    refine .a (op_call (U := [(1000, some ⟨.aggI (dg (fp)), 3, true⟩)]) [] [(1000, 1000)] (P_ev) Tryd.func74 (by kernel_rfl) rfl rfl rfl (trivial) (trivial) (⟨⟨1000, _, rfl, rfl, rfl, rfl, .inl rfl⟩, trivial⟩) (trivial) rfl) trivial rfl ?_
    refine .q (op_call (U := []) [(500, 500), (501, 1000)] [] (cmp_ev a fp (by omega) (by have := dl_fp; omega)) Tryd.func56 (by kernel_rfl) rfl rfl rfl (⟨⟨_, rfl, rfl, rfl⟩, ⟨_, rfl, rfl, rfl⟩, trivial⟩) (⟨⟨_, _, rfl, rfl, rfl, rfl, (fun h => by cases h), rfl⟩, ⟨_, _, rfl, rfl, rfl, rfl, (fun h => by cases h), rfl⟩, trivial⟩) (trivial) (⟨(fun h => by cases h), (fun h => by cases h), trivial⟩) rfl) trivial rfl ?_
    refine .q (op_cmpI rfl rfl rfl) trivial rfl ?_
    refine .nil ?_
    show Ev _ _ _ _ _
    refine .cond_false rfl (decide_eq_false (by omega)) ?_
    refine .skip ?_
    show Ev _ _ _ _ _
    refine .seq ?_
    refine .region ?_
    refine .q (op_move rfl) trivial rfl ?_
    refine .q (op_assign rfl) trivial rfl ?_
    refine .nil ?_
    show Ev _ _ _ _ _
    refine .ret ?_
    show RetOk _ _ _ _ _ _ _
    exact ret1v rfl (.inl rfl) rfl rfl trivial
  · first | replace hg10 := of_decide_eq_true hg10 | replace hg10 := of_decide_eq_false hg10 | replace hg10 := eq_of_beq hg10 | replace hg10 := ne_of_beq_false hg10 | simp only [bne_iff_ne, ne_eq] at hg10 | simp only [bne_eq_false_iff_eq] at hg10
    refine .no ⟨_, rfl, rfl⟩ rfl ?_
    refine .no ⟨_, rfl, rfl⟩ rfl ?_
    refine .no ⟨_, rfl, rfl⟩ rfl ?_
    refine .no ⟨_, rfl, rfl⟩ rfl ?_
    refine .q (op_pick_false rfl rfl rfl) ⟨_, rfl, rfl⟩ rfl ?_
    refine .q (op_pick_false rfl rfl rfl) trivial rfl ?_
    refine .nil ?_
    show Ev _ _ _ _ _
    refine .cond_false rfl rfl ?_
    refine .exit ?_
    show Ev _ _ _ _ _
    refine .seq ?_
    refine .seq ?_
    refine .region ?_
    refine .q (op_move rfl) trivial rfl ?_
    refine .a (op_call (U := [(1000, some ⟨.aggI (dg (fp)), 3, true⟩)]) [] [(1000, 1000)] (P_ev) Tryd.func74 (by kernel_rfl) rfl rfl rfl (trivial) (trivial) (⟨⟨1000, _, rfl, rfl, rfl, rfl, .inl rfl⟩, trivial⟩) (trivial) rfl) trivial rfl ?_
    refine .q (op_call (U := []) [(500, 500), (501, 1000)] [] (cmp_ev a fp (by omega) (by have := dl_fp; omega)) Tryd.func56 (by kernel_rfl) rfl rfl rfl (⟨⟨_, rfl, rfl, rfl⟩, ⟨_, rfl, rfl, rfl⟩, trivial⟩) (⟨⟨_, _, rfl, rfl, rfl, rfl, (fun h => by cases h), rfl⟩, ⟨_, _, rfl, rfl, rfl, rfl, (fun h => by cases h), rfl⟩, trivial⟩) (trivial) (⟨(fun h => by cases h), (fun h => by cases h), trivial⟩) rfl) trivial rfl ?_
    refine .q (op_cmpI rfl rfl rfl) trivial rfl ?_
    refine .nil ?_
    show Ev _ _ _ _ _
    refine .cond_false rfl (decide_eq_false (by omega)) ?_
    refine .skip ?_
    show Ev _ _ _ _ _
    refine .seq ?_
    refine .region ?_
    refine .q (op_move rfl) trivial rfl ?_
    refine .q (op_assign rfl) trivial rfl ?_
    refine .nil ?_
    show Ev _ _ _ _ _
    refine .ret ?_
    show RetOk _ _ _ _ _ _ _
    exact ret1v rfl (.inl rfl) rfl rfl trivial
set_option maxHeartbeats 1000000 in
set_option maxRecDepth 100000 in
theorem cut_sub (a : Nat) (h : fp ≤ a) (h2 : a < 2 ^ 255) : Meets Tryd.prog 71 [.sl 500 0 (dl a) 1] [(500, some ⟨.aggI (dg a), 3, false⟩)] (.sl 1000 0 (dl (a % fp)) 1) [(1000, some ⟨.aggI (dg (a % fp)), 3, true⟩)] := by
  have hd : dl a ≤ 16 := dl_small (by have := fp_255; omega)
  have htop := top_lt (a := a) (by have := fp_255; omega)
  have hdk : 15 < dl a → (dg a).getD 15 0 = (dk a 15 : Int) := fun h => dn_getk _ _ _ h
  have hlg := length_dg a
  have hcm := cmpF a fp
  refine meets_of_ev (nt := 32) Tryd.func71 rfl rfl (Nat.le_of_ble_eq_true rfl) ?_
  refine .seq ?_
  refine .region ?_
  refine .q (op_assign rfl) trivial rfl ?_
  refine .nil ?_
  show Ev _ _ _ _ _
  refine .seq ?_
  refine .block ?_
  refine Ev.loop (ι := Unit) (fun q => ⟨[(0, .sl 500 0 (dl a) 1)], [(500, some ⟨.aggI (dg a), 3, false⟩)], 1000⟩) (fun q => 0) () (StLe.mk [] rfl rfl ⟨⟨_, rfl, by first | rfl | (simp only [AV.ren]; congr 1; omega), rfl⟩, trivial⟩ ⟨⟨_, _, rfl, rfl, rfl, rfl, id, rfl⟩, trivial⟩) ?_
  rintro ⟨⟩
  try dsimp only
  refine .seq ?_
  refine .seq ?_
  refine .region ?_
  refine .q (op_move rfl) trivial rfl ?_
  refine .q (op_len_sl Tryd.underlying49 rfl) trivial rfl ?_
  refine .q (op_cmpI rfl rfl rfl) trivial rfl ?_
  refine .q (op_move rfl) trivial rfl ?_
  refine .know (b' := false) (decide_eq_false (by omega)) ?_
  refine .q (op_move rfl) ⟨_, rfl, rfl⟩ rfl ?_
  refine .q (op_len_sl Tryd.underlying49 rfl) ⟨_, rfl, rfl⟩ rfl ?_
  refine .q (op_cmpI rfl rfl rfl) ⟨_, rfl, rfl⟩ rfl ?_
  refine .q (op_move rfl) ⟨_, rfl, rfl⟩ rfl ?_
  refine .split (fun hg10 => ?_) (fun hg10 => ?_)
  · first | replace hg10 := of_decide_eq_true hg10 | replace hg10 := of_decide_eq_false hg10 | replace hg10 := eq_of_beq hg10 | replace hg10 := ne_of_beq_false hg10 | simp only [bne_iff_ne, ne_eq] at hg10 | simp only [bne_eq_false_iff_eq] at hg10
    refine .q (op_move rfl) ⟨_, rfl, rfl⟩ rfl ?_
    refine .q (ap_idx0 Tryd.underlying49 inf3.sz rfl rfl rfl (by first | omega | (simp only [AV.len]; omega) | (simp only [AV.len, List.length_set]; omega) | assumption | (simp [AV.len]; done))) ⟨_, rfl, rfl⟩ rfl ?_
    refine .q (op_load Tryd.underlying3 rfl rfl rfl rfl (by show 15 < (dg a).length; omega)) ⟨_, rfl, rfl⟩ rfl ?_
    refine .as (.i64 ((dk a 15 : Nat) : Int)) (congrArg AV.i64 (hdk (by omega))) ?_
    refine .q (op_cmpI rfl rfl rfl) ⟨_, rfl, rfl⟩ rfl ?_
    refine .q (op_pick_true rfl rfl rfl) ⟨_, rfl, rfl⟩ rfl ?_
    refine .q (op_pick_false rfl rfl rfl) trivial rfl ?_
    refine .nil ?_
    show Ev _ _ _ _ _
    refine .cond_false rfl (by first | exact decide_eq_false (by omega) | rfl) ?_
    refine .exit ?_
    show Ev _ _ _ _ _
    refine .seq ?_
    refine .seq ?_
    refine .region ?_
    refine .q (op_move rfl) trivial rfl ?_
    refine .a (op_call (U := [(1000, some ⟨.aggI (dg (fp)), 3, true⟩)]) [] [(1000, 1000)] (P_ev) Tryd.func74 (by kernel_rfl) rfl rfl rfl (trivial) (trivial) (⟨⟨1000, _, rfl, rfl, rfl, rfl, .inl rfl⟩, trivial⟩) (trivial) rfl) trivial rfl ?_
    refine .q (op_call (U := []) [(500, 500), (501, 1000)] [] (cmp_ev a fp (by omega) (by have := dl_fp; omega)) Tryd.func56 (by kernel_rfl) rfl rfl rfl (⟨⟨_, rfl, rfl, rfl⟩, ⟨_, rfl, rfl, rfl⟩, trivial⟩) (⟨⟨_, _, rfl, rfl, rfl, rfl, (fun h => by cases h), rfl⟩, ⟨_, _, rfl, rfl, rfl, rfl, (fun h => by cases h), rfl⟩, trivial⟩) (trivial) (⟨(fun h => by cases h), (fun h => by cases h), trivial⟩) rfl) trivial rfl ?_
    refine .q (op_cmpI rfl rfl rfl) trivial rfl ?_
    refine .nil ?_
    show Ev _ _ _ _ _
    refine .cond_true rfl (decide_eq_true (by omega)) ?_
    refine .region ?_
    refine .q (op_move rfl) trivial rfl ?_
    refine .a (op_call (U := [(1008, some ⟨.aggI (dg (fp)), 3, true⟩)]) [] [(1008, 1000)] (P_ev) Tryd.func74 (by kernel_rfl) rfl rfl rfl (trivial) (trivial) (⟨⟨1000, _, rfl, rfl, rfl, rfl, .inl rfl⟩, trivial⟩) (trivial) rfl) trivial rfl ?_
    refine .a (op_call (U := [(1016, some ⟨.aggI (dg (a - fp)), 3, true⟩)]) [(500, 500), (501, 1008)] [(1016, 1000)] (sub_ev a fp (by omega) (by omega) (by have := dl_fp; omega)) Tryd.func51 (by kernel_rfl) rfl rfl rfl (⟨⟨_, rfl, rfl, rfl⟩, ⟨_, rfl, rfl, rfl⟩, trivial⟩) (⟨⟨_, _, rfl, rfl, rfl, rfl, (fun h => by cases h), rfl⟩, ⟨_, _, rfl, rfl, rfl, rfl, (fun h => by cases h), rfl⟩, trivial⟩) (⟨⟨1000, _, rfl, rfl, rfl, rfl, .inl rfl⟩, trivial⟩) (⟨(fun h => by cases h), (fun h => by cases h), trivial⟩) rfl) trivial rfl ?_
    refine .q (op_assign rfl) trivial rfl ?_
    refine .nil ?_
    show Ev _ _ _ _ _
    refine .seq ?_
    refine .region ?_
    refine .q (op_move rfl) trivial rfl ?_
    refine .q (op_assign rfl) trivial rfl ?_
    refine .nil ?_
    show Ev _ _ _ _ _
    refine Ev.weak (st2 := ⟨[(2, .sl 1000 0 (dl (a % fp)) 1)], [(1000, some ⟨.aggI (dg (a % fp)), 3, true⟩)], 1008⟩) (StLe.mk [(1000, 1016)] rfl rfl ⟨⟨_, rfl, by (show AV.sl 1000 0 (dl (a - fp)) 1 = _; rw [fin_sub rfl h2 h]), rfl⟩, trivial⟩ ⟨⟨_, _, rfl, rfl, by (show AV.aggI (dg (a - fp)) = _; rw [fin_sub rfl h2 h]), rfl, id, rfl⟩, trivial⟩) ?_
    refine .ret ?_
    show RetOk _ _ _ _ _ _ _
    exact ret1v rfl (.inl rfl) rfl rfl ⟨rfl, trivial⟩
  · first | replace hg10 := of_decide_eq_true hg10 | replace hg10 := of_decide_eq_false hg10 | replace hg10 := eq_of_beq hg10 | replace hg10 := ne_of_beq_false hg10 | simp only [bne_iff_ne, ne_eq] at hg10 | simp only [bne_eq_false_iff_eq] at hg10
    refine .no ⟨_, rfl, rfl⟩ rfl ?_
    refine .no ⟨_, rfl, rfl⟩ rfl ?_
    refine .no ⟨_, rfl, rfl⟩ rfl ?_
    refine .no ⟨_, rfl, rfl⟩ rfl ?_
    refine .q (op_pick_false rfl rfl rfl) ⟨_, rfl, rfl⟩ rfl ?_
    refine .q (op_pick_false rfl rfl rfl) trivial rfl ?_
    refine .nil ?_
    show Ev _ _ _ _ _
    refine .cond_false rfl rfl ?_
    refine .exit ?_
    show Ev _ _ _ _ _
    refine .seq ?_
    refine .seq ?_
    refine .region ?_
    refine .q (op_move rfl) trivial rfl ?_
    refine .a (op_call (U := [(1000, some ⟨.aggI (dg (fp)), 3, true⟩)]) [] [(1000, 1000)] (P_ev) Tryd.func74 (by kernel_rfl) rfl rfl rfl (trivial) (trivial) (⟨⟨1000, _, rfl, rfl, rfl, rfl, .inl rfl⟩, trivial⟩) (trivial) rfl) trivial rfl ?_
    refine .q (op_call (U := []) [(500, 500), (501, 1000)] [] (cmp_ev a fp (by omega) (by have := dl_fp; omega)) Tryd.func56 (by kernel_rfl) rfl rfl rfl (⟨⟨_, rfl, rfl, rfl⟩, ⟨_, rfl, rfl, rfl⟩, trivial⟩) (⟨⟨_, _, rfl, rfl, rfl, rfl, (fun h => by cases h), rfl⟩, ⟨_, _, rfl, rfl, rfl, rfl, (fun h => by cases h), rfl⟩, trivial⟩) (trivial) (⟨(fun h => by cases h), (fun h => by cases h), trivial⟩) rfl) trivial rfl ?_
    refine .q (op_cmpI rfl rfl rfl) trivial rfl ?_
    refine .nil ?_
    show Ev _ _ _ _ _
    refine .cond_true rfl (decide_eq_true (by omega)) ?_
    refine .region ?_
    refine .q (op_move rfl) trivial rfl ?_
    refine .a (op_call (U := [(1008, some ⟨.aggI (dg (fp)), 3, true⟩)]) [] [(1008, 1000)] (P_ev) Tryd.func74 (by kernel_rfl) rfl rfl rfl (trivial) (trivial) (⟨⟨1000, _, rfl, rfl, rfl, rfl, .inl rfl⟩, trivial⟩) (trivial) rfl) trivial rfl ?_
    refine .a (op_call (U := [(1016, some ⟨.aggI (dg (a - fp)), 3, true⟩)]) [(500, 500), (501, 1008)] [(1016, 1000)] (sub_ev a fp (by omega) (by omega) (by have := dl_fp; omega)) Tryd.func51 (by kernel_rfl) rfl rfl rfl (⟨⟨_, rfl, rfl, rfl⟩, ⟨_, rfl, rfl, rfl⟩, trivial⟩) (⟨⟨_, _, rfl, rfl, rfl, rfl, (fun h => by cases h), rfl⟩, ⟨_, _, rfl, rfl, rfl, rfl, (fun h => by cases h), rfl⟩, trivial⟩) (⟨⟨1000, _, rfl, rfl, rfl, rfl, .inl rfl⟩, trivial⟩) (⟨(fun h => by cases h), (fun h => by cases h), trivial⟩) rfl) trivial rfl ?_
    refine .q (op_assign rfl) trivial rfl ?_
    refine .nil ?_
    show Ev _ _ _ _ _
    refine .seq ?_
    refine .region ?_
    refine .q (op_move rfl) trivial rfl ?_
    refine .q (op_assign rfl) trivial rfl ?_
    refine .nil ?_
    show Ev _ _ _ _ _
    refine Ev.weak (st2 := ⟨[(2, .sl 1000 0 (dl (a % fp)) 1)], [(1000, some ⟨.aggI (dg (a % fp)), 3, true⟩)], 1008⟩) (StLe.mk [(1000, 1016)] rfl rfl ⟨⟨_, rfl, by (show AV.sl 1000 0 (dl (a - fp)) 1 = _; rw [fin_sub rfl h2 h]), rfl⟩, trivial⟩ ⟨⟨_, _, rfl, rfl, by (show AV.aggI (dg (a - fp)) = _; rw [fin_sub rfl h2 h]), rfl, id, rfl⟩, trivial⟩) ?_
    refine .ret ?_
    show RetOk _ _ _ _ _ _ _
    exact ret1v rfl (.inl rfl) rfl rfl ⟨rfl, trivial⟩
set_option maxHeartbeats 4000000 in
set_option maxRecDepth 100000 in
theorem cut_big (a : Nat) (h : 2 ^ 255 ≤ a) (hd : dl a ≤ 100) : Meets Tryd.prog 71 [.sl 500 0 (dl a) 1] [(500, some ⟨.aggI (dg a), 3, false⟩)] (.sl 1000 0 (dl (a % fp)) 1) [(1000, some ⟨.aggI (dg (a % fp)), 3, true⟩)] := by
  refine meets_of_ev (nt := 32) Tryd.func71 rfl rfl (Nat.le_of_ble_eq_true rfl) ?_
  refine .seq ?_
  refine .region ?_
  refine .q (op_assign rfl) trivial rfl ?_
  refine .nil ?_
  show Ev _ _ _ _ _
  refine .seq ?_
  refine .block ?_
  refine Ev.loop (ι := Option { v : Nat // v % fp = a % fp ∧ dl v ≤ 100 }) (fun q => (match q with | none => ⟨[(0, .sl 500 0 (dl a) 1)], [(500, some ⟨.aggI (dg a), 3, false⟩)], 1008⟩ | some v => ⟨[(0, .sl 1000 0 (dl v.1) 1)], [(1000, some ⟨.aggI (dg v.1), 3, true⟩)], 1008⟩)) (fun q => match q with | none => a + 1 | some v => v.1) none (StLe.mk [] rfl rfl ⟨⟨_, rfl, by first | rfl | (simp only [AV.ren]; congr 1; omega), rfl⟩, trivial⟩ ⟨⟨_, _, rfl, rfl, rfl, rfl, id, rfl⟩, trivial⟩) ?_
  rintro (_ | ⟨v, hv, hd⟩)
  · dsimp only
    have hdk : 15 < dl a → (dg a).getD 15 0 = (dk a 15 : Int) := fun h => dn_getk _ _ _ h
    have hlg := length_dg a
    have hcm := cmpF a fp
    have hb1 : 2 ^ 255 ≤ a → 16 ≤ dl a := dl_big
    have hb2 : a < 2 ^ 255 → dl a ≤ 16 := dl_small
    have hb3 : a < 2 ^ 255 → dk a 15 < 32768 := top_lt
    have hb4 : 2 ^ 255 ≤ a → dl a ≤ 16 → 32768 ≤ dk a 15 := top_ge
    have hq1 := dl_mono2 (Nat.div_le_self a (2 ^ 255))
    have hq2 := dl_mono2 (Nat.mod_le a (2 ^ 255))
    have hq3 : dl (a / 2 ^ 255 * 19) ≤ 101 := dl_mulF (n := 100) (m := 1) (by omega) (dl_le (by decide))
    have h19 : dl 19 ≤ 1 := dl_le (by decide)
    have hfp := dl_fp
    refine .seq ?_
    refine .seq ?_
    refine .region ?_
    refine .q (op_move rfl) trivial rfl ?_
    refine .q (op_len_sl Tryd.underlying49 rfl) trivial rfl ?_
    refine .q (op_cmpI rfl rfl rfl) trivial rfl ?_
    refine .q (op_move rfl) trivial rfl ?_
    refine .split (fun hg6 => ?_) (fun hg6 => ?_)
    · first | replace hg6 := of_decide_eq_true hg6 | replace hg6 := of_decide_eq_false hg6 | replace hg6 := eq_of_beq hg6 | replace hg6 := ne_of_beq_false hg6 | simp only [bne_iff_ne, ne_eq] at hg6 | simp only [bne_eq_false_iff_eq] at hg6
      refine .no ⟨_, rfl, rfl⟩ rfl ?_
      refine .no ⟨_, rfl, rfl⟩ rfl ?_
      refine .no ⟨_, rfl, rfl⟩ rfl ?_
      refine .no ⟨_, rfl, rfl⟩ rfl ?_
      refine .noU ⟨_, rfl, rfl⟩ rfl ?_
      refine .noU ⟨_, rfl, rfl⟩ rfl ?_
      refine .noU ⟨_, rfl, rfl⟩ rfl ?_
      refine .noU ⟨_, rfl, rfl⟩ rfl ?_
      refine .no ⟨_, rfl, rfl⟩ rfl ?_
      refine .q (op_pick_true rfl rfl rfl) trivial rfl ?_
      refine .nil ?_
      show Ev _ _ _ _ _
      refine .cond_true rfl rfl ?_
      refine .skip ?_
      show Ev _ _ _ _ _
      refine .block ?_
      refine .region ?_
      refine .q (op_move rfl) trivial rfl ?_
      refine .a (op_call (U := [(1008, some ⟨.aggI (dg (a % 2 ^ 255)), 3, true⟩)]) [(500, 500)] [(1008, 1000)] (low_new a (by omega) (by omega)) Tryd.func72 (by kernel_rfl) rfl rfl rfl (⟨⟨_, rfl, rfl, rfl⟩, trivial⟩) (⟨⟨_, _, rfl, rfl, rfl, rfl, (fun h => by cases h), rfl⟩, trivial⟩) (⟨⟨1000, _, rfl, rfl, rfl, rfl, .inl rfl⟩, trivial⟩) (⟨(fun h => by cases h), trivial⟩) rfl) trivial rfl ?_
      refine .q (op_move rfl) trivial rfl ?_
      refine .a (op_call (U := [(1016, some ⟨.aggI (dg (a / 2 ^ 255)), 3, true⟩)]) [(500, 500)] [(1016, 1000)] (half_ev a 255 (by omega) (by omega)) Tryd.func58 (by kernel_rfl) rfl rfl rfl (⟨⟨_, rfl, rfl, rfl⟩, ⟨_, rfl, rfl, rfl⟩, trivial⟩) (⟨⟨_, _, rfl, rfl, rfl, rfl, (fun h => by cases h), rfl⟩, trivial⟩) (⟨⟨1000, _, rfl, rfl, rfl, rfl, .inl rfl⟩, trivial⟩) (⟨(fun h => by cases h), trivial⟩) rfl) trivial rfl ?_
      refine .a (op_call (U := [(1024, some ⟨.aggI (dg (19)), 3, true⟩)]) [] [(1024, 1000)] (small_ev 19 (by omega)) Tryd.func53 (by kernel_rfl) rfl rfl rfl (⟨⟨_, rfl, rfl, rfl⟩, trivial⟩) (trivial) (⟨⟨1000, _, rfl, rfl, rfl, rfl, .inl rfl⟩, trivial⟩) (trivial) rfl) trivial rfl ?_
      refine .a (op_call (U := [(1032, some ⟨.aggI (dg (a / 2 ^ 255 * 19)), 3, true⟩)]) [(500, 1016), (501, 1024)] [(1032, 1000)] (mul_ev (a / 2 ^ 255) 19 (by omega) (by omega)) Tryd.func54 (by kernel_rfl) rfl rfl rfl (⟨⟨_, rfl, rfl, rfl⟩, ⟨_, rfl, rfl, rfl⟩, trivial⟩) (⟨⟨_, _, rfl, rfl, rfl, rfl, (fun h => by cases h), rfl⟩, ⟨_, _, rfl, rfl, rfl, rfl, (fun h => by cases h), rfl⟩, trivial⟩) (⟨⟨1000, _, rfl, rfl, rfl, rfl, .inl rfl⟩, trivial⟩) (⟨(fun h => by cases h), (fun h => by cases h), trivial⟩) rfl) trivial rfl ?_
      refine .a (op_call (U := [(1040, some ⟨.aggI (dg (foldF a)), 3, true⟩)]) [(500, 1008), (501, 1032)] [(1040, 1000)] (add_ev (a % 2 ^ 255) (a / 2 ^ 255 * 19) (by omega) (by omega)) Tryd.func55 (by kernel_rfl) rfl rfl rfl (⟨⟨_, rfl, rfl, rfl⟩, ⟨_, rfl, rfl, rfl⟩, trivial⟩) (⟨⟨_, _, rfl, rfl, rfl, rfl, (fun h => by cases h), rfl⟩, ⟨_, _, rfl, rfl, rfl, rfl, (fun h => by cases h), rfl⟩, trivial⟩) (⟨⟨1000, _, rfl, rfl, rfl, rfl, .inl rfl⟩, trivial⟩) (⟨(fun h => by cases h), (fun h => by cases h), trivial⟩) rfl) trivial rfl ?_
      refine .as (.sl 1040 0 (dl (foldF a)) 1) rfl ?_
      refine .q (op_assign rfl) trivial rfl ?_
      refine .nil ?_
      exact ⟨some ⟨foldF a, (foldF_mod a), Nat.le_trans (dl_mono2 (foldF_le a)) (by omega)⟩, (by show foldF a < _; exact Nat.lt_succ_of_le (foldF_le a)), StLe.mk [(1000, 1040)] rfl rfl ⟨⟨_, rfl, by rfl, rfl⟩, trivial⟩ ⟨⟨_, _, rfl, rfl, rfl, rfl, id, rfl⟩, trivial⟩⟩
    · first | replace hg6 := of_decide_eq_true hg6 | replace hg6 := of_decide_eq_false hg6 | replace hg6 := eq_of_beq hg6 | replace hg6 := ne_of_beq_false hg6 | simp only [bne_iff_ne, ne_eq] at hg6 | simp only [bne_eq_false_iff_eq] at hg6
      refine .q (op_move rfl) ⟨_, rfl, rfl⟩ rfl ?_
      refine .q (op_len_sl Tryd.underlying49 rfl) ⟨_, rfl, rfl⟩ rfl ?_
      refine .q (op_cmpI rfl rfl rfl) ⟨_, rfl, rfl⟩ rfl ?_
      refine .q (op_move rfl) ⟨_, rfl, rfl⟩ rfl ?_
      refine .know (b' := true) (decide_eq_true (by omega)) ?_
      refine .q (op_move rfl) ⟨_, rfl, rfl⟩ rfl ?_
      refine .q (ap_idx0 Tryd.underlying49 inf3.sz rfl rfl rfl (by first | omega | (simp only [AV.len]; omega) | (simp only [AV.len, List.length_set]; omega) | assumption | (simp [AV.len]; done))) ⟨_, rfl, rfl⟩ rfl ?_
      refine .q (op_load Tryd.underlying3 rfl rfl rfl rfl (by show 15 < (dg a).length; omega)) ⟨_, rfl, rfl⟩ rfl ?_
      refine .as (.i64 ((dk a 15 : Nat) : Int)) (congrArg AV.i64 (hdk (by omega))) ?_
      refine .q (op_cmpI rfl rfl rfl) ⟨_, rfl, rfl⟩ rfl ?_
      refine .q (op_pick_true rfl rfl rfl) ⟨_, rfl, rfl⟩ rfl ?_
      refine .q (op_pick_false rfl rfl rfl) trivial rfl ?_
      refine .nil ?_
      show Ev _ _ _ _ _
      refine .cond_true rfl (by first | exact decide_eq_true (by omega) | rfl) ?_
      refine .skip ?_
      show Ev _ _ _ _ _
      refine .block ?_
      refine .region ?_
      refine .q (op_move rfl) trivial rfl ?_
      refine .a (op_call (U := [(1008, some ⟨.aggI (dg (a % 2 ^ 255)), 3, true⟩)]) [(500, 500)] [(1008, 1000)] (low_new a (by omega) (by omega)) Tryd.func72 (by kernel_rfl) rfl rfl rfl (⟨⟨_, rfl, rfl, rfl⟩, trivial⟩) (⟨⟨_, _, rfl, rfl, rfl, rfl, (fun h => by cases h), rfl⟩, trivial⟩) (⟨⟨1000, _, rfl, rfl, rfl, rfl, .inl rfl⟩, trivial⟩) (⟨(fun h => by cases h), trivial⟩) rfl) trivial rfl ?_
      refine .q (op_move rfl) trivial rfl ?_
      refine .a (op_call (U := [(1016, some ⟨.aggI (dg (a / 2 ^ 255)), 3, true⟩)]) [(500, 500)] [(1016, 1000)] (half_ev a 255 (by omega) (by omega)) Tryd.func58 (by kernel_rfl) rfl rfl rfl (⟨⟨_, rfl, rfl, rfl⟩, ⟨_, rfl, rfl, rfl⟩, trivial⟩) (⟨⟨_, _, rfl, rfl, rfl, rfl, (fun h => by cases h), rfl⟩, trivial⟩) (⟨⟨1000, _, rfl, rfl, rfl, rfl, .inl rfl⟩, trivial⟩) (⟨(fun h => by cases h), trivial⟩) rfl) trivial rfl ?_
      refine .a (op_call (U := [(1024, some ⟨.aggI (dg (19)), 3, true⟩)]) [] [(1024, 1000)] (small_ev 19 (by omega)) Tryd.func53 (by kernel_rfl) rfl rfl rfl (⟨⟨_, rfl, rfl, rfl⟩, trivial⟩) (trivial) (⟨⟨1000, _, rfl, rfl, rfl, rfl, .inl rfl⟩, trivial⟩) (trivial) rfl) trivial rfl ?_
      refine .a (op_call (U := [(1032, some ⟨.aggI (dg (a / 2 ^ 255 * 19)), 3, true⟩)]) [(500, 1016), (501, 1024)] [(1032, 1000)] (mul_ev (a / 2 ^ 255) 19 (by omega) (by omega)) Tryd.func54 (by kernel_rfl) rfl rfl rfl (⟨⟨_, rfl, rfl, rfl⟩, ⟨_, rfl, rfl, rfl⟩, trivial⟩) (⟨⟨_, _, rfl, rfl, rfl, rfl, (fun h => by cases h), rfl⟩, ⟨_, _, rfl, rfl, rfl, rfl, (fun h => by cases h), rfl⟩, trivial⟩) (⟨⟨1000, _, rfl, rfl, rfl, rfl, .inl rfl⟩, trivial⟩) (⟨(fun h => by cases h), (fun h => by cases h), trivial⟩) rfl) trivial rfl ?_
      refine .a (op_call (U := [(1040, some ⟨.aggI (dg (foldF a)), 3, true⟩)]) [(500, 1008), (501, 1032)] [(1040, 1000)] (add_ev (a % 2 ^ 255) (a / 2 ^ 255 * 19) (by omega) (by omega)) Tryd.func55 (by kernel_rfl) rfl rfl rfl (⟨⟨_, rfl, rfl, rfl⟩, ⟨_, rfl, rfl, rfl⟩, trivial⟩) (⟨⟨_, _, rfl, rfl, rfl, rfl, (fun h => by cases h), rfl⟩, ⟨_, _, rfl, rfl, rfl, rfl, (fun h => by cases h), rfl⟩, trivial⟩) (⟨⟨1000, _, rfl, rfl, rfl, rfl, .inl rfl⟩, trivial⟩) (⟨(fun h => by cases h), (fun h => by cases h), trivial⟩) rfl) trivial rfl ?_
      refine .as (.sl 1040 0 (dl (foldF a)) 1) rfl ?_
      refine .q (op_assign rfl) trivial rfl ?_
      refine .nil ?_
      exact ⟨some ⟨foldF a, (foldF_mod a), Nat.le_trans (dl_mono2 (foldF_le a)) (by omega)⟩, (by show foldF a < _; exact Nat.lt_succ_of_le (foldF_le a)), StLe.mk [(1000, 1040)] rfl rfl ⟨⟨_, rfl, by rfl, rfl⟩, trivial⟩ ⟨⟨_, _, rfl, rfl, rfl, rfl, id, rfl⟩, trivial⟩⟩
  · dsimp only
    have hdk : 15 < dl v → (dg v).getD 15 0 = (dk v 15 : Int) := fun h => dn_getk _ _ _ h
    have hlg := length_dg v
    have hcm := cmpF v fp
    have hb1 : 2 ^ 255 ≤ v → 16 ≤ dl v := dl_big
    have hb2 : v < 2 ^ 255 → dl v ≤ 16 := dl_small
    have hb3 : v < 2 ^ 255 → dk v 15 < 32768 := top_lt
    have hb4 : 2 ^ 255 ≤ v → dl v ≤ 16 → 32768 ≤ dk v 15 := top_ge
    have hq1 := dl_mono2 (Nat.div_le_self v (2 ^ 255))
    have hq2 := dl_mono2 (Nat.mod_le v (2 ^ 255))
    have hq3 : dl (v / 2 ^ 255 * 19) ≤ 101 := dl_mulF (n := 100) (m := 1) (by omega) (dl_le (by decide))
    have h19 : dl 19 ≤ 1 := dl_le (by decide)
    have hfp := dl_fp
    refine .seq ?_
    refine .seq ?_
    refine .region ?_
    refine .q (op_move rfl) trivial rfl ?_
    refine .q (op_len_sl Tryd.underlying49 rfl) trivial rfl ?_
    refine .q (op_cmpI rfl rfl rfl) trivial rfl ?_
    refine .q (op_move rfl) trivial rfl ?_
    refine .split (fun hg6 => ?_) (fun hg6 => ?_)
    · first | replace hg6 := of_decide_eq_true hg6 | replace hg6 := of_decide_eq_false hg6 | replace hg6 := eq_of_beq hg6 | replace hg6 := ne_of_beq_false hg6 | simp only [bne_iff_ne, ne_eq] at hg6 | simp only [bne_eq_false_iff_eq] at hg6
      refine .no ⟨_, rfl, rfl⟩ rfl ?_
      refine .no ⟨_, rfl, rfl⟩ rfl ?_
      refine .no ⟨_, rfl, rfl⟩ rfl ?_
      refine .no ⟨_, rfl, rfl⟩ rfl ?_
      refine .noU ⟨_, rfl, rfl⟩ rfl ?_
      refine .noU ⟨_, rfl, rfl⟩ rfl ?_
      refine .noU ⟨_, rfl, rfl⟩ rfl ?_
      refine .noU ⟨_, rfl, rfl⟩ rfl ?_
      refine .no ⟨_, rfl, rfl⟩ rfl ?_
      refine .q (op_pick_true rfl rfl rfl) trivial rfl ?_
      refine .nil ?_
      show Ev _ _ _ _ _
      refine .cond_true rfl rfl ?_
      refine .skip ?_
      show Ev _ _ _ _ _
      refine .block ?_
      refine .region ?_
      refine .q (op_move rfl) trivial rfl ?_
      refine .a (op_call (U := [(1008, some ⟨.aggI (dg (v % 2 ^ 255)), 3, true⟩)]) [(500, 1000)] [(1008, 1000)] (low_new v (by omega) (by omega)) Tryd.func72 (by kernel_rfl) rfl rfl rfl (⟨⟨_, rfl, rfl, rfl⟩, trivial⟩) (⟨⟨_, _, rfl, rfl, rfl, rfl, (fun h => by cases h), rfl⟩, trivial⟩) (⟨⟨1000, _, rfl, rfl, rfl, rfl, .inl rfl⟩, trivial⟩) (⟨(fun h => by cases h), trivial⟩) rfl) trivial rfl ?_
      refine .q (op_move rfl) trivial rfl ?_
      refine .a (op_call (U := [(1016, some ⟨.aggI (dg (v / 2 ^ 255)), 3, true⟩)]) [(500, 1000)] [(1016, 1000)] (half_ev v 255 (by omega) (by omega)) Tryd.func58 (by kernel_rfl) rfl rfl rfl (⟨⟨_, rfl, rfl, rfl⟩, ⟨_, rfl, rfl, rfl⟩, trivial⟩) (⟨⟨_, _, rfl, rfl, rfl, rfl, (fun h => by cases h), rfl⟩, trivial⟩) (⟨⟨1000, _, rfl, rfl, rfl, rfl, .inl rfl⟩, trivial⟩) (⟨(fun h => by cases h), trivial⟩) rfl) trivial rfl ?_
      refine .a (op_call (U := [(1024, some ⟨.aggI (dg (19)), 3, true⟩)]) [] [(1024, 1000)] (small_ev 19 (by omega)) Tryd.func53 (by kernel_rfl) rfl rfl rfl (⟨⟨_, rfl, rfl, rfl⟩, trivial⟩) (trivial) (⟨⟨1000, _, rfl, rfl, rfl, rfl, .inl rfl⟩, trivial⟩) (trivial) rfl) trivial rfl ?_
      refine .a (op_call (U := [(1032, some ⟨.aggI (dg (v / 2 ^ 255 * 19)), 3, true⟩)]) [(500, 1016), (501, 1024)] [(1032, 1000)] (mul_ev (v / 2 ^ 255) 19 (by omega) (by omega)) Tryd.func54 (by kernel_rfl) rfl rfl rfl (⟨⟨_, rfl, rfl, rfl⟩, ⟨_, rfl, rfl, rfl⟩, trivial⟩) (⟨⟨_, _, rfl, rfl, rfl, rfl, (fun h => by cases h), rfl⟩, ⟨_, _, rfl, rfl, rfl, rfl, (fun h => by cases h), rfl⟩, trivial⟩) (⟨⟨1000, _, rfl, rfl, rfl, rfl, .inl rfl⟩, trivial⟩) (⟨(fun h => by cases h), (fun h => by cases h), trivial⟩) rfl) trivial rfl ?_
      refine .a (op_call (U := [(1040, some ⟨.aggI (dg (foldF v)), 3, true⟩)]) [(500, 1008), (501, 1032)] [(1040, 1000)] (add_ev (v % 2 ^ 255) (v / 2 ^ 255 * 19) (by omega) (by omega)) Tryd.func55 (by kernel_rfl) rfl rfl rfl (⟨⟨_, rfl, rfl, rfl⟩, ⟨_, rfl, rfl, rfl⟩, trivial⟩) (⟨⟨_, _, rfl, rfl, rfl, rfl, (fun h => by cases h), rfl⟩, ⟨_, _, rfl, rfl, rfl, rfl, (fun h => by cases h), rfl⟩, trivial⟩) (⟨⟨1000, _, rfl, rfl, rfl, rfl, .inl rfl⟩, trivial⟩) (⟨(fun h => by cases h), (fun h => by cases h), trivial⟩) rfl) trivial rfl ?_
      refine .as (.sl 1040 0 (dl (foldF v)) 1) rfl ?_
      refine .q (op_assign rfl) trivial rfl ?_
      refine .nil ?_
      exact ⟨some ⟨foldF v, (foldF_mod v).trans hv, Nat.le_trans (dl_mono2 (foldF_le v)) (by omega)⟩, (by show foldF v < _; exact foldF_lt (by omega)), StLe.mk [(1000, 1040)] rfl rfl ⟨⟨_, rfl, by rfl, rfl⟩, trivial⟩ ⟨⟨_, _, rfl, rfl, rfl, rfl, id, rfl⟩, trivial⟩⟩
    · first | replace hg6 := of_decide_eq_true hg6 | replace hg6 := of_decide_eq_false hg6 | replace hg6 := eq_of_beq hg6 | replace hg6 := ne_of_beq_false hg6 | simp only [bne_iff_ne, ne_eq] at hg6 | simp only [bne_eq_false_iff_eq] at hg6
      refine .q (op_move rfl) ⟨_, rfl, rfl⟩ rfl ?_
      refine .q (op_len_sl Tryd.underlying49 rfl) ⟨_, rfl, rfl⟩ rfl ?_
      refine .q (op_cmpI rfl rfl rfl) ⟨_, rfl, rfl⟩ rfl ?_
      refine .q (op_move rfl) ⟨_, rfl, rfl⟩ rfl ?_
      refine .split (fun hg10 => ?_) (fun hg10 => ?_)
      · first | replace hg10 := of_decide_eq_true hg10 | replace hg10 := of_decide_eq_false hg10 | replace hg10 := eq_of_beq hg10 | replace hg10 := ne_of_beq_false hg10 | simp only [bne_iff_ne, ne_eq] at hg10 | simp only [bne_eq_false_iff_eq] at hg10
        refine .q (op_move rfl) ⟨_, rfl, rfl⟩ rfl ?_
        refine .q (ap_idx0 Tryd.underlying49 inf3.sz rfl rfl rfl (by first | omega | (simp only [AV.len]; omega) | (simp only [AV.len, List.length_set]; omega) | assumption | (simp [AV.len]; done))) ⟨_, rfl, rfl⟩ rfl ?_
        refine .q (op_load Tryd.underlying3 rfl rfl rfl rfl (by show 15 < (dg v).length; omega)) ⟨_, rfl, rfl⟩ rfl ?_
        refine .as (.i64 ((dk v 15 : Nat) : Int)) (congrArg AV.i64 (hdk (by omega))) ?_
        refine .q (op_cmpI rfl rfl rfl) ⟨_, rfl, rfl⟩ rfl ?_
        refine .q (op_pick_true rfl rfl rfl) ⟨_, rfl, rfl⟩ rfl ?_
        refine .q (op_pick_false rfl rfl rfl) trivial rfl ?_
        refine .nil ?_
        show Ev _ _ _ _ _
        refine .cond rfl (fun hc16 => ?_) (fun hc16 => ?_)
        · first | replace hc16 := of_decide_eq_true hc16 | replace hc16 := of_decide_eq_false hc16 | replace hc16 := eq_of_beq hc16 | replace hc16 := ne_of_beq_false hc16 | simp only [bne_iff_ne, ne_eq] at hc16 | simp only [bne_eq_false_iff_eq] at hc16
          refine .skip ?_
          show Ev _ _ _ _ _
          refine .block ?_
          refine .region ?_
          refine .q (op_move rfl) trivial rfl ?_
          refine .a (op_call (U := [(1008, some ⟨.aggI (dg (v % 2 ^ 255)), 3, true⟩)]) [(500, 1000)] [(1008, 1000)] (low_new v (by omega) (by omega)) Tryd.func72 (by kernel_rfl) rfl rfl rfl (⟨⟨_, rfl, rfl, rfl⟩, trivial⟩) (⟨⟨_, _, rfl, rfl, rfl, rfl, (fun h => by cases h), rfl⟩, trivial⟩) (⟨⟨1000, _, rfl, rfl, rfl, rfl, .inl rfl⟩, trivial⟩) (⟨(fun h => by cases h), trivial⟩) rfl) trivial rfl ?_
          refine .q (op_move rfl) trivial rfl ?_
          refine .a (op_call (U := [(1016, some ⟨.aggI (dg (v / 2 ^ 255)), 3, true⟩)]) [(500, 1000)] [(1016, 1000)] (half_ev v 255 (by omega) (by omega)) Tryd.func58 (by kernel_rfl) rfl rfl rfl (⟨⟨_, rfl, rfl, rfl⟩, ⟨_, rfl, rfl, rfl⟩, trivial⟩) (⟨⟨_, _, rfl, rfl, rfl, rfl, (fun h => by cases h), rfl⟩, trivial⟩) (⟨⟨1000, _, rfl, rfl, rfl, rfl, .inl rfl⟩, trivial⟩) (⟨(fun h => by cases h), trivial⟩) rfl) trivial rfl ?_
          refine .a (op_call (U := [(1024, some ⟨.aggI (dg (19)), 3, true⟩)]) [] [(1024, 1000)] (small_ev 19 (by omega)) Tryd.func53 (by kernel_rfl) rfl rfl rfl (⟨⟨_, rfl, rfl, rfl⟩, trivial⟩) (trivial) (⟨⟨1000, _, rfl, rfl, rfl, rfl, .inl rfl⟩, trivial⟩) (trivial) rfl) trivial rfl ?_
          refine .a (op_call (U := [(1032, some ⟨.aggI (dg (v / 2 ^ 255 * 19)), 3, true⟩)]) [(500, 1016), (501, 1024)] [(1032, 1000)] (mul_ev (v / 2 ^ 255) 19 (by omega) (by omega)) Tryd.func54 (by kernel_rfl) rfl rfl rfl (⟨⟨_, rfl, rfl, rfl⟩, ⟨_, rfl, rfl, rfl⟩, trivial⟩) (⟨⟨_, _, rfl, rfl, rfl, rfl, (fun h => by cases h), rfl⟩, ⟨_, _, rfl, rfl, rfl, rfl, (fun h => by cases h), rfl⟩, trivial⟩) (⟨⟨1000, _, rfl, rfl, rfl, rfl, .inl rfl⟩, trivial⟩) (⟨(fun h => by cases h), (fun h => by cases h), trivial⟩) rfl) trivial rfl ?_
          refine .a (op_call (U := [(1040, some ⟨.aggI (dg (foldF v)), 3, true⟩)]) [(500, 1008), (501, 1032)] [(1040, 1000)] (add_ev (v % 2 ^ 255) (v / 2 ^ 255 * 19) (by omega) (by omega)) Tryd.func55 (by kernel_rfl) rfl rfl rfl (⟨⟨_, rfl, rfl, rfl⟩, ⟨_, rfl, rfl, rfl⟩, trivial⟩) (⟨⟨_, _, rfl, rfl, rfl, rfl, (fun h => by cases h), rfl⟩, ⟨_, _, rfl, rfl, rfl, rfl, (fun h => by cases h), rfl⟩, trivial⟩) (⟨⟨1000, _, rfl, rfl, rfl, rfl, .inl rfl⟩, trivial⟩) (⟨(fun h => by cases h), (fun h => by cases h), trivial⟩) rfl) trivial rfl ?_
          refine .as (.sl 1040 0 (dl (foldF v)) 1) rfl ?_
          refine .q (op_assign rfl) trivial rfl ?_
          refine .nil ?_
          exact ⟨some ⟨foldF v, (foldF_mod v).trans hv, Nat.le_trans (dl_mono2 (foldF_le v)) (by omega)⟩, (by show foldF v < _; exact foldF_lt (by omega)), StLe.mk [(1000, 1040)] rfl rfl ⟨⟨_, rfl, by rfl, rfl⟩, trivial⟩ ⟨⟨_, _, rfl, rfl, rfl, rfl, id, rfl⟩, trivial⟩⟩
        · first | replace hc16 := of_decide_eq_true hc16 | replace hc16 := of_decide_eq_false hc16 | replace hc16 := eq_of_beq hc16 | replace hc16 := ne_of_beq_false hc16 | simp only [bne_iff_ne, ne_eq] at hc16 | simp only [bne_eq_false_iff_eq] at hc16
          refine .exit ?_
          show Ev _ _ _ _ _
          refine .seq ?_
          refine .seq ?_
          refine .region ?_
          refine .q (op_move rfl) trivial rfl ?_
          refine .a (op_call (U := [(1008, some ⟨.aggI (dg (fp)), 3, true⟩)]) [] [(1008, 1000)] (P_ev) Tryd.func74 (by kernel_rfl) rfl rfl rfl (trivial) (trivial) (⟨⟨1000, _, rfl, rfl, rfl, rfl, .inl rfl⟩, trivial⟩) (trivial) rfl) trivial rfl ?_
          refine .q (op_call (U := []) [(500, 1000), (501, 1008)] [] (cmp_ev v fp (by omega) (by omega)) Tryd.func56 (by kernel_rfl) rfl rfl rfl (⟨⟨_, rfl, rfl, rfl⟩, ⟨_, rfl, rfl, rfl⟩, trivial⟩) (⟨⟨_, _, rfl, rfl, rfl, rfl, (fun h => by cases h), rfl⟩, ⟨_, _, rfl, rfl, rfl, rfl, (fun h => by cases h), rfl⟩, trivial⟩) (trivial) (⟨(fun h => by cases h), (fun h => by cases h), trivial⟩) rfl) trivial rfl ?_
          refine .q (op_cmpI rfl rfl rfl) trivial rfl ?_
          refine .nil ?_
          show Ev _ _ _ _ _
          refine .cond rfl (fun hc27 => ?_) (fun hc27 => ?_)
          · first | replace hc27 := of_decide_eq_true hc27 | replace hc27 := of_decide_eq_false hc27 | replace hc27 := eq_of_beq hc27 | replace hc27 := ne_of_beq_false hc27 | simp only [bne_iff_ne, ne_eq] at hc27 | simp only [bne_eq_false_iff_eq] at hc27
            refine .region ?_
            refine .q (op_move rfl) trivial rfl ?_
            refine .a (op_call (U := [(1016, some ⟨.aggI (dg (fp)), 3, true⟩)]) [] [(1016, 1000)] (P_ev) Tryd.func74 (by kernel_rfl) rfl rfl rfl (trivial) (trivial) (⟨⟨1000, _, rfl, rfl, rfl, rfl, .inl rfl⟩, trivial⟩) (trivial) rfl) trivial rfl ?_
            refine .a (op_call (U := [(1024, some ⟨.aggI (dg (v - fp)), 3, true⟩)]) [(500, 1000), (501, 1016)] [(1024, 1000)] (sub_ev v fp (by omega) (by omega) (by omega)) Tryd.func51 (by kernel_rfl) rfl rfl rfl (⟨⟨_, rfl, rfl, rfl⟩, ⟨_, rfl, rfl, rfl⟩, trivial⟩) (⟨⟨_, _, rfl, rfl, rfl, rfl, (fun h => by cases h), rfl⟩, ⟨_, _, rfl, rfl, rfl, rfl, (fun h => by cases h), rfl⟩, trivial⟩) (⟨⟨1000, _, rfl, rfl, rfl, rfl, .inl rfl⟩, trivial⟩) (⟨(fun h => by cases h), (fun h => by cases h), trivial⟩) rfl) trivial rfl ?_
            refine .q (op_assign rfl) trivial rfl ?_
            refine .nil ?_
            show Ev _ _ _ _ _
            refine .seq ?_
            refine .region ?_
            refine .q (op_move rfl) trivial rfl ?_
            refine .q (op_assign rfl) trivial rfl ?_
            refine .nil ?_
            show Ev _ _ _ _ _
            first
              | (refine Ev.weak (st2 := ⟨[(2, .sl 1000 0 (dl (a % fp)) 1)], [(1000, some ⟨.aggI (dg (a % fp)), 3, true⟩)], 1008⟩) (StLe.mk [(1000, 1024)] rfl rfl ⟨⟨_, rfl, by (show AV.sl 1000 0 (dl (v - fp)) 1 = _; rw [fin_sub hv (by omega) (by omega)]), rfl⟩, trivial⟩ ⟨⟨_, _, rfl, rfl, by (show AV.aggI (dg (v - fp)) = _; rw [fin_sub hv (by omega) (by omega)]), rfl, id, rfl⟩, trivial⟩) ?_)
              | (refine Ev.weak (st2 := ⟨[(2, .sl 1000 0 (dl (a % fp)) 1)], [(1000, some ⟨.aggI (dg (a % fp)), 3, true⟩)], 1008⟩) (StLe.mk [(1000, 1000)] rfl rfl ⟨⟨_, rfl, by (show AV.sl 1000 0 (dl (v)) 1 = _; rw [← fin_id hv (by omega)]), rfl⟩, trivial⟩ ⟨⟨_, _, rfl, rfl, by (show AV.aggI (dg (v)) = _; rw [← fin_id hv (by omega)]), rfl, id, rfl⟩, trivial⟩) ?_)
            refine .ret ?_
            show RetOk _ _ _ _ _ _ _
            exact ret1v rfl (.inl rfl) rfl rfl ⟨rfl, trivial⟩
          · first | replace hc27 := of_decide_eq_true hc27 | replace hc27 := of_decide_eq_false hc27 | replace hc27 := eq_of_beq hc27 | replace hc27 := ne_of_beq_false hc27 | simp only [bne_iff_ne, ne_eq] at hc27 | simp only [bne_eq_false_iff_eq] at hc27
            refine .skip ?_
            show Ev _ _ _ _ _
            refine .seq ?_
            refine .region ?_
            refine .q (op_move rfl) trivial rfl ?_
            refine .q (op_assign rfl) trivial rfl ?_
            refine .nil ?_
            show Ev _ _ _ _ _
            first
              | (refine Ev.weak (st2 := ⟨[(2, .sl 1000 0 (dl (a % fp)) 1)], [(1000, some ⟨.aggI (dg (a % fp)), 3, true⟩)], 1008⟩) (StLe.mk [(1000, 1024)] rfl rfl ⟨⟨_, rfl, by (show AV.sl 1000 0 (dl (v - fp)) 1 = _; rw [fin_sub hv (by omega) (by omega)]), rfl⟩, trivial⟩ ⟨⟨_, _, rfl, rfl, by (show AV.aggI (dg (v - fp)) = _; rw [fin_sub hv (by omega) (by omega)]), rfl, id, rfl⟩, trivial⟩) ?_)
              | (refine Ev.weak (st2 := ⟨[(2, .sl 1000 0 (dl (a % fp)) 1)], [(1000, some ⟨.aggI (dg (a % fp)), 3, true⟩)], 1008⟩) (StLe.mk [(1000, 1000)] rfl rfl ⟨⟨_, rfl, by (show AV.sl 1000 0 (dl (v)) 1 = _; rw [← fin_id hv (by omega)]), rfl⟩, trivial⟩ ⟨⟨_, _, rfl, rfl, by (show AV.aggI (dg (v)) = _; rw [← fin_id hv (by omega)]), rfl, id, rfl⟩, trivial⟩) ?_)
            refine .ret ?_
            show RetOk _ _ _ _ _ _ _
            exact ret1v rfl (.inl rfl) rfl rfl ⟨rfl, trivial⟩
      · first | replace hg10 := of_decide_eq_true hg10 | replace hg10 := of_decide_eq_false hg10 | replace hg10 := eq_of_beq hg10 | replace hg10 := ne_of_beq_false hg10 | simp only [bne_iff_ne, ne_eq] at hg10 | simp only [bne_eq_false_iff_eq] at hg10
        refine .no ⟨_, rfl, rfl⟩ rfl ?_
        refine .no ⟨_, rfl, rfl⟩ rfl ?_
        refine .no ⟨_, rfl, rfl⟩ rfl ?_
        refine .no ⟨_, rfl, rfl⟩ rfl ?_
        refine .q (op_pick_false rfl rfl rfl) ⟨_, rfl, rfl⟩ rfl ?_
        refine .q (op_pick_false rfl rfl rfl) trivial rfl ?_
        refine .nil ?_
        show Ev _ _ _ _ _
        refine .cond_false rfl rfl ?_
        refine .exit ?_
        show Ev _ _ _ _ _
        refine .seq ?_
        refine .seq ?_
        refine .region ?_
        refine .q (op_move rfl) trivial rfl ?_
        refine .a (op_call (U := [(1008, some ⟨.aggI (dg (fp)), 3, true⟩)]) [] [(1008, 1000)] (P_ev) Tryd.func74 (by kernel_rfl) rfl rfl rfl (trivial) (trivial) (⟨⟨1000, _, rfl, rfl, rfl, rfl, .inl rfl⟩, trivial⟩) (trivial) rfl) trivial rfl ?_
        refine .q (op_call (U := []) [(500, 1000), (501, 1008)] [] (cmp_ev v fp (by omega) (by omega)) Tryd.func56 (by kernel_rfl) rfl rfl rfl (⟨⟨_, rfl, rfl, rfl⟩, ⟨_, rfl, rfl, rfl⟩, trivial⟩) (⟨⟨_, _, rfl, rfl, rfl, rfl, (fun h => by cases h), rfl⟩, ⟨_, _, rfl, rfl, rfl, rfl, (fun h => by cases h), rfl⟩, trivial⟩) (trivial) (⟨(fun h => by cases h), (fun h => by cases h), trivial⟩) rfl) trivial rfl ?_
        refine .q (op_cmpI rfl rfl rfl) trivial rfl ?_
        refine .nil ?_
        show Ev _ _ _ _ _
        refine .cond rfl (fun hc27 => ?_) (fun hc27 => ?_)
        · first | replace hc27 := of_decide_eq_true hc27 | replace hc27 := of_decide_eq_false hc27 | replace hc27 := eq_of_beq hc27 | replace hc27 := ne_of_beq_false hc27 | simp only [bne_iff_ne, ne_eq] at hc27 | simp only [bne_eq_false_iff_eq] at hc27
          refine .region ?_
          refine .q (op_move rfl) trivial rfl ?_
          refine .a (op_call (U := [(1016, some ⟨.aggI (dg (fp)), 3, true⟩)]) [] [(1016, 1000)] (P_ev) Tryd.func74 (by kernel_rfl) rfl rfl rfl (trivial) (trivial) (⟨⟨1000, _, rfl, rfl, rfl, rfl, .inl rfl⟩, trivial⟩) (trivial) rfl) trivial rfl ?_
          refine .a (op_call (U := [(1024, some ⟨.aggI (dg (v - fp)), 3, true⟩)]) [(500, 1000), (501, 1016)] [(1024, 1000)] (sub_ev v fp (by omega) (by omega) (by omega)) Tryd.func51 (by kernel_rfl) rfl rfl rfl (⟨⟨_, rfl, rfl, rfl⟩, ⟨_, rfl, rfl, rfl⟩, trivial⟩) (⟨⟨_, _, rfl, rfl, rfl, rfl, (fun h => by cases h), rfl⟩, ⟨_, _, rfl, rfl, rfl, rfl, (fun h => by cases h), rfl⟩, trivial⟩) (⟨⟨1000, _, rfl, rfl, rfl, rfl, .inl rfl⟩, trivial⟩) (⟨(fun h => by cases h), (fun h => by cases h), trivial⟩) rfl) trivial rfl ?_
          refine .q (op_assign rfl) trivial rfl ?_
          refine .nil ?_
          show Ev _ _ _ _ _
          refine .seq ?_
          refine .region ?_
          refine .q (op_move rfl) trivial rfl ?_
          refine .q (op_assign rfl) trivial rfl ?_
          refine .nil ?_
          show Ev _ _ _ _ _
          first
            | (refine Ev.weak (st2 := ⟨[(2, .sl 1000 0 (dl (a % fp)) 1)], [(1000, some ⟨.aggI (dg (a % fp)), 3, true⟩)], 1008⟩) (StLe.mk [(1000, 1024)] rfl rfl ⟨⟨_, rfl, by (show AV.sl 1000 0 (dl (v - fp)) 1 = _; rw [fin_sub hv (by omega) (by omega)]), rfl⟩, trivial⟩ ⟨⟨_, _, rfl, rfl, by (show AV.aggI (dg (v - fp)) = _; rw [fin_sub hv (by omega) (by omega)]), rfl, id, rfl⟩, trivial⟩) ?_)
            | (refine Ev.weak (st2 := ⟨[(2, .sl 1000 0 (dl (a % fp)) 1)], [(1000, some ⟨.aggI (dg (a % fp)), 3, true⟩)], 1008⟩) (StLe.mk [(1000, 1000)] rfl rfl ⟨⟨_, rfl, by (show AV.sl 1000 0 (dl (v)) 1 = _; rw [← fin_id hv (by omega)]), rfl⟩, trivial⟩ ⟨⟨_, _, rfl, rfl, by (show AV.aggI (dg (v)) = _; rw [← fin_id hv (by omega)]), rfl, id, rfl⟩, trivial⟩) ?_)
          refine .ret ?_
          show RetOk _ _ _ _ _ _ _
          exact ret1v rfl (.inl rfl) rfl rfl ⟨rfl, trivial⟩
        · first | replace hc27 := of_decide_eq_true hc27 | replace hc27 := of_decide_eq_false hc27 | replace hc27 := eq_of_beq hc27 | replace hc27 := ne_of_beq_false hc27 | simp only [bne_iff_ne, ne_eq] at hc27 | simp only [bne_eq_false_iff_eq] at hc27
          refine .skip ?_
          show Ev _ _ _ _ _
          refine .seq ?_
          refine .region ?_
          refine .q (op_move rfl) trivial rfl ?_
          refine .q (op_assign rfl) trivial rfl ?_
          refine .nil ?_
          show Ev _ _ _ _ _
          first
            | (refine Ev.weak (st2 := ⟨[(2, .sl 1000 0 (dl (a % fp)) 1)], [(1000, some ⟨.aggI (dg (a % fp)), 3, true⟩)], 1008⟩) (StLe.mk [(1000, 1024)] rfl rfl ⟨⟨_, rfl, by (show AV.sl 1000 0 (dl (v - fp)) 1 = _; rw [fin_sub hv (by omega) (by omega)]), rfl⟩, trivial⟩ ⟨⟨_, _, rfl, rfl, by (show AV.aggI (dg (v - fp)) = _; rw [fin_sub hv (by omega) (by omega)]), rfl, id, rfl⟩, trivial⟩) ?_)
            | (refine Ev.weak (st2 := ⟨[(2, .sl 1000 0 (dl (a % fp)) 1)], [(1000, some ⟨.aggI (dg (a % fp)), 3, true⟩)], 1008⟩) (StLe.mk [(1000, 1000)] rfl rfl ⟨⟨_, rfl, by (show AV.sl 1000 0 (dl (v)) 1 = _; rw [← fin_id hv (by omega)]), rfl⟩, trivial⟩ ⟨⟨_, _, rfl, rfl, by (show AV.aggI (dg (v)) = _; rw [← fin_id hv (by omega)]), rfl, id, rfl⟩, trivial⟩) ?_)
          refine .ret ?_
          show RetOk _ _ _ _ _ _ _
          exact ret1v rfl (.inl rfl) rfl rfl ⟨rfl, trivial⟩
theorem cut_new (a : Nat) (h : fp ≤ a) (hd : dl a ≤ 100) : Meets Tryd.prog 71 [.sl 500 0 (dl a) 1] [(500, some ⟨.aggI (dg a), 3, false⟩)] (.sl 1000 0 (dl (a % fp)) 1) [(1000, some ⟨.aggI (dg (a % fp)), 3, true⟩)] := by
  by_cases c : a < 2 ^ 255
  · exact cut_sub a h c
  · exact cut_big a (by omega) hd
end Go.Proofs.YtgblhjmnenmlkaaDoor
namespace Go.Proofs.YtgblhjmnenmlkaaDoor
open Go.RowKit
theorem dl_of_fp {a : Nat} (h : a < fp) : dl a ≤ 16 := dl_small (Nat.lt_trans h fp_255)
set_option maxHeartbeats 1000000 in
set_option maxRecDepth 100000 in
theorem add05_a (a b : Nat) (ha : a < fp) (hb : b < fp) (h : a + b < fp) : Meets Tryd.prog 21 [.sl 500 0 (dl a) 1, .sl 501 0 (dl b) 1] [(500, some ⟨.aggI (dg a), 3, false⟩), (501, some ⟨.aggI (dg b), 3, false⟩)] (.sl 1000 0 (dl ((a + b) % fp)) 1) [(1000, some ⟨.aggI (dg ((a + b) % fp)), 3, true⟩)] := by
  have hda := dl_of_fp ha
  have hdb := dl_of_fp hb
  have hfp := dl_fp
  have hs := dl_addF (a := a) (b := b) hda hdb
  refine meets_of_ev (nt := 9) Tryd.func21 rfl rfl (Nat.le_of_ble_eq_true rfl) ?_
  refine .seq ?_
  refine .region ?_
  refine .q (op_assign rfl) trivial rfl ?_
  refine .nil ?_
  show Ev _ _ _ _ _
  refine .seq ?_
  refine .region ?_
  refine .q (op_move rfl) trivial rfl ?_
  refine .q (op_move rfl) trivial rfl ?_
  refine .a (op_call (U := [(1000, some ⟨.aggI (dg (a + b)), 3, true⟩)]) [(500, 500), (501, 501)] [(1000, 1000)] (add_ev a b (by omega) (by omega)) Tryd.func55 (by kernel_rfl) rfl rfl rfl (⟨⟨_, rfl, rfl, rfl⟩, ⟨_, rfl, rfl, rfl⟩, trivial⟩) (⟨⟨_, _, rfl, rfl, rfl, rfl, (fun h => by cases h), rfl⟩, ⟨_, _, rfl, rfl, rfl, rfl, (fun h => by cases h), rfl⟩, trivial⟩) (⟨⟨1000, _, rfl, rfl, rfl, rfl, .inl rfl⟩, trivial⟩) (⟨(fun h => by cases h), (fun h => by cases h), trivial⟩) rfl) trivial rfl ?_
  refine .q (op_call (U := []) [(500, 1000)] [] (cut_id (a + b) h) Tryd.func71 (by kernel_rfl) rfl rfl rfl (⟨⟨_, rfl, rfl, rfl⟩, trivial⟩) (⟨⟨_, _, rfl, rfl, rfl, rfl, (fun h => by cases h), rfl⟩, trivial⟩) (trivial) (⟨(fun h => by cases h), trivial⟩) rfl) trivial rfl ?_
  refine .q (op_assign rfl) trivial rfl ?_
  refine .nil ?_
  show Ev _ _ _ _ _
  refine Ev.weak (st2 := ⟨[(4, .sl 1000 0 (dl ((a + b) % fp)) 1)], [(1000, some ⟨.aggI (dg ((a + b) % fp)), 3, true⟩)], 1008⟩) (StLe.mk [(1000, 1000)] rfl rfl ⟨⟨_, rfl, by (show AV.sl 1000 0 (dl (a + b)) 1 = _; rw [Nat.mod_eq_of_lt h]), rfl⟩, trivial⟩ ⟨⟨_, _, rfl, rfl, by (show AV.aggI (dg (a + b)) = _; rw [Nat.mod_eq_of_lt h]), rfl, id, rfl⟩, trivial⟩) ?_
  refine .ret ?_
  show RetOk _ _ _ _ _ _ _
  exact ret1v rfl (.inl rfl) rfl rfl ⟨rfl, trivial⟩
set_option maxHeartbeats 1000000 in
set_option maxRecDepth 100000 in
theorem add05_b (a b : Nat) (ha : a < fp) (hb : b < fp) (h : fp ≤ a + b) : Meets Tryd.prog 21 [.sl 500 0 (dl a) 1, .sl 501 0 (dl b) 1] [(500, some ⟨.aggI (dg a), 3, false⟩), (501, some ⟨.aggI (dg b), 3, false⟩)] (.sl 1000 0 (dl ((a + b) % fp)) 1) [(1000, some ⟨.aggI (dg ((a + b) % fp)), 3, true⟩)] := by
  have hda := dl_of_fp ha
  have hdb := dl_of_fp hb
  have hfp := dl_fp
  have hs := dl_addF (a := a) (b := b) hda hdb
  refine meets_of_ev (nt := 9) Tryd.func21 rfl rfl (Nat.le_of_ble_eq_true rfl) ?_
  refine .seq ?_
  refine .region ?_
  refine .q (op_assign rfl) trivial rfl ?_
  refine .nil ?_
  show Ev _ _ _ _ _
  refine .seq ?_
  refine .region ?_
  refine .q (op_move rfl) trivial rfl ?_
  refine .q (op_move rfl) trivial rfl ?_
  refine .a (op_call (U := [(1000, some ⟨.aggI (dg (a + b)), 3, true⟩)]) [(500, 500), (501, 501)] [(1000, 1000)] (add_ev a b (by omega) (by omega)) Tryd.func55 (by kernel_rfl) rfl rfl rfl (⟨⟨_, rfl, rfl, rfl⟩, ⟨_, rfl, rfl, rfl⟩, trivial⟩) (⟨⟨_, _, rfl, rfl, rfl, rfl, (fun h => by cases h), rfl⟩, ⟨_, _, rfl, rfl, rfl, rfl, (fun h => by cases h), rfl⟩, trivial⟩) (⟨⟨1000, _, rfl, rfl, rfl, rfl, .inl rfl⟩, trivial⟩) (⟨(fun h => by cases h), (fun h => by cases h), trivial⟩) rfl) trivial rfl ?_
  refine .a (op_call (U := [(1008, some ⟨.aggI (dg ((a + b) % fp)), 3, true⟩)]) [(500, 1000)] [(1008, 1000)] (cut_new (a + b) h (by omega)) Tryd.func71 (by kernel_rfl) rfl rfl rfl (⟨⟨_, rfl, rfl, rfl⟩, trivial⟩) (⟨⟨_, _, rfl, rfl, rfl, rfl, (fun h => by cases h), rfl⟩, trivial⟩) (⟨⟨1000, _, rfl, rfl, rfl, rfl, .inl rfl⟩, trivial⟩) (⟨(fun h => by cases h), trivial⟩) rfl) trivial rfl ?_
  refine .q (op_assign rfl) trivial rfl ?_
  refine .nil ?_
  show Ev _ _ _ _ _
  refine Ev.weak (st2 := ⟨[(4, .sl 1000 0 (dl ((a + b) % fp)) 1)], [(1000, some ⟨.aggI (dg ((a + b) % fp)), 3, true⟩)], 1008⟩) (StLe.mk [(1000, 1008)] rfl rfl ⟨⟨_, rfl, by (show AV.sl 1000 0 (dl ((a + b) % fp)) 1 = _; rfl), rfl⟩, trivial⟩ ⟨⟨_, _, rfl, rfl, by (show AV.aggI (dg ((a + b) % fp)) = _; rfl), rfl, id, rfl⟩, trivial⟩) ?_
  refine .ret ?_
  show RetOk _ _ _ _ _ _ _
  exact ret1v rfl (.inl rfl) rfl rfl ⟨rfl, trivial⟩
theorem add05 (a b : Nat) (ha : a < fp) (hb : b < fp) : Meets Tryd.prog 21 [.sl 500 0 (dl a) 1, .sl 501 0 (dl b) 1] [(500, some ⟨.aggI (dg a), 3, false⟩), (501, some ⟨.aggI (dg b), 3, false⟩)] (.sl 1000 0 (dl ((a + b) % fp)) 1) [(1000, some ⟨.aggI (dg ((a + b) % fp)), 3, true⟩)] := by
  by_cases h : a + b < fp
  · exact add05_a a b ha hb h
  · exact add05_b a b ha hb (by omega)
set_option maxHeartbeats 1000000 in
set_option maxRecDepth 100000 in
theorem mul05_a (a b : Nat) (ha : a < fp) (hb : b < fp) (h : a * b < fp) : Meets Tryd.prog 25 [.sl 500 0 (dl a) 1, .sl 501 0 (dl b) 1] [(500, some ⟨.aggI (dg a), 3, false⟩), (501, some ⟨.aggI (dg b), 3, false⟩)] (.sl 1000 0 (dl (a * b % fp)) 1) [(1000, some ⟨.aggI (dg (a * b % fp)), 3, true⟩)] := by
  have hda := dl_of_fp ha
  have hdb := dl_of_fp hb
  have hfp := dl_fp
  have hs := dl_mulF (a := a) (b := b) hda hdb
  refine meets_of_ev (nt := 9) Tryd.func25 rfl rfl (Nat.le_of_ble_eq_true rfl) ?_
  refine .seq ?_
  refine .region ?_
  refine .q (op_assign rfl) trivial rfl ?_
  refine .nil ?_
  show Ev _ _ _ _ _
  refine .seq ?_
  refine .region ?_
  refine .q (op_move rfl) trivial rfl ?_
  refine .q (op_move rfl) trivial rfl ?_
  refine .a (op_call (U := [(1000, some ⟨.aggI (dg (a * b)), 3, true⟩)]) [(500, 500), (501, 501)] [(1000, 1000)] (mul_ev a b (by omega) (by omega)) Tryd.func54 (by kernel_rfl) rfl rfl rfl (⟨⟨_, rfl, rfl, rfl⟩, ⟨_, rfl, rfl, rfl⟩, trivial⟩) (⟨⟨_, _, rfl, rfl, rfl, rfl, (fun h => by cases h), rfl⟩, ⟨_, _, rfl, rfl, rfl, rfl, (fun h => by cases h), rfl⟩, trivial⟩) (⟨⟨1000, _, rfl, rfl, rfl, rfl, .inl rfl⟩, trivial⟩) (⟨(fun h => by cases h), (fun h => by cases h), trivial⟩) rfl) trivial rfl ?_
  refine .q (op_call (U := []) [(500, 1000)] [] (cut_id (a * b) h) Tryd.func71 (by kernel_rfl) rfl rfl rfl (⟨⟨_, rfl, rfl, rfl⟩, trivial⟩) (⟨⟨_, _, rfl, rfl, rfl, rfl, (fun h => by cases h), rfl⟩, trivial⟩) (trivial) (⟨(fun h => by cases h), trivial⟩) rfl) trivial rfl ?_
  refine .q (op_assign rfl) trivial rfl ?_
  refine .nil ?_
  show Ev _ _ _ _ _
  refine Ev.weak (st2 := ⟨[(4, .sl 1000 0 (dl (a * b % fp)) 1)], [(1000, some ⟨.aggI (dg (a * b % fp)), 3, true⟩)], 1008⟩) (StLe.mk [(1000, 1000)] rfl rfl ⟨⟨_, rfl, by (show AV.sl 1000 0 (dl (a * b)) 1 = _; rw [Nat.mod_eq_of_lt h]), rfl⟩, trivial⟩ ⟨⟨_, _, rfl, rfl, by (show AV.aggI (dg (a * b)) = _; rw [Nat.mod_eq_of_lt h]), rfl, id, rfl⟩, trivial⟩) ?_
  refine .ret ?_
  show RetOk _ _ _ _ _ _ _
  exact ret1v rfl (.inl rfl) rfl rfl ⟨rfl, trivial⟩
set_option maxHeartbeats 1000000 in
set_option maxRecDepth 100000 in
theorem mul05_b (a b : Nat) (ha : a < fp) (hb : b < fp) (h : fp ≤ a * b) : Meets Tryd.prog 25 [.sl 500 0 (dl a) 1, .sl 501 0 (dl b) 1] [(500, some ⟨.aggI (dg a), 3, false⟩), (501, some ⟨.aggI (dg b), 3, false⟩)] (.sl 1000 0 (dl (a * b % fp)) 1) [(1000, some ⟨.aggI (dg (a * b % fp)), 3, true⟩)] := by
  have hda := dl_of_fp ha
  have hdb := dl_of_fp hb
  have hfp := dl_fp
  have hs := dl_mulF (a := a) (b := b) hda hdb
  refine meets_of_ev (nt := 9) Tryd.func25 rfl rfl (Nat.le_of_ble_eq_true rfl) ?_
  refine .seq ?_
  refine .region ?_
  refine .q (op_assign rfl) trivial rfl ?_
  refine .nil ?_
  show Ev _ _ _ _ _
  refine .seq ?_
  refine .region ?_
  refine .q (op_move rfl) trivial rfl ?_
  refine .q (op_move rfl) trivial rfl ?_
  refine .a (op_call (U := [(1000, some ⟨.aggI (dg (a * b)), 3, true⟩)]) [(500, 500), (501, 501)] [(1000, 1000)] (mul_ev a b (by omega) (by omega)) Tryd.func54 (by kernel_rfl) rfl rfl rfl (⟨⟨_, rfl, rfl, rfl⟩, ⟨_, rfl, rfl, rfl⟩, trivial⟩) (⟨⟨_, _, rfl, rfl, rfl, rfl, (fun h => by cases h), rfl⟩, ⟨_, _, rfl, rfl, rfl, rfl, (fun h => by cases h), rfl⟩, trivial⟩) (⟨⟨1000, _, rfl, rfl, rfl, rfl, .inl rfl⟩, trivial⟩) (⟨(fun h => by cases h), (fun h => by cases h), trivial⟩) rfl) trivial rfl ?_
  refine .a (op_call (U := [(1008, some ⟨.aggI (dg ((a * b) % fp)), 3, true⟩)]) [(500, 1000)] [(1008, 1000)] (cut_new (a * b) h (by omega)) Tryd.func71 (by kernel_rfl) rfl rfl rfl (⟨⟨_, rfl, rfl, rfl⟩, trivial⟩) (⟨⟨_, _, rfl, rfl, rfl, rfl, (fun h => by cases h), rfl⟩, trivial⟩) (⟨⟨1000, _, rfl, rfl, rfl, rfl, .inl rfl⟩, trivial⟩) (⟨(fun h => by cases h), trivial⟩) rfl) trivial rfl ?_
  refine .q (op_assign rfl) trivial rfl ?_
  refine .nil ?_
  show Ev _ _ _ _ _
  refine Ev.weak (st2 := ⟨[(4, .sl 1000 0 (dl (a * b % fp)) 1)], [(1000, some ⟨.aggI (dg (a * b % fp)), 3, true⟩)], 1008⟩) (StLe.mk [(1000, 1008)] rfl rfl ⟨⟨_, rfl, by (show AV.sl 1000 0 (dl ((a * b) % fp)) 1 = _; rfl), rfl⟩, trivial⟩ ⟨⟨_, _, rfl, rfl, by (show AV.aggI (dg ((a * b) % fp)) = _; rfl), rfl, id, rfl⟩, trivial⟩) ?_
  refine .ret ?_
  show RetOk _ _ _ _ _ _ _
  exact ret1v rfl (.inl rfl) rfl rfl ⟨rfl, trivial⟩
theorem mul05 (a b : Nat) (ha : a < fp) (hb : b < fp) : Meets Tryd.prog 25 [.sl 500 0 (dl a) 1, .sl 501 0 (dl b) 1] [(500, some ⟨.aggI (dg a), 3, false⟩), (501, some ⟨.aggI (dg b), 3, false⟩)] (.sl 1000 0 (dl (a * b % fp)) 1) [(1000, some ⟨.aggI (dg (a * b % fp)), 3, true⟩)] := by
  by_cases h : a * b < fp
  · exact mul05_a a b ha hb h
  · exact mul05_b a b ha hb (by omega)
set_option maxHeartbeats 1000000 in
set_option maxRecDepth 100000 in
theorem sub05_a (a b : Nat) (ha : a < fp) (hb : b < fp) (h : a + fp - b < fp) : Meets Tryd.prog 23 [.sl 500 0 (dl a) 1, .sl 501 0 (dl b) 1] [(500, some ⟨.aggI (dg a), 3, false⟩), (501, some ⟨.aggI (dg b), 3, false⟩)] (.sl 1000 0 (dl ((a + (fp - b)) % fp)) 1) [(1000, some ⟨.aggI (dg ((a + (fp - b)) % fp)), 3, true⟩)] := by
  have hda := dl_of_fp ha
  have hdb := dl_of_fp hb
  have hfp := dl_fp
  have hs := dl_addF (a := a) (b := fp) hda hfp
  have hs2 := dl_mono2 (Nat.sub_le (a + fp) b)
  refine meets_of_ev (nt := 11) Tryd.func23 rfl rfl (Nat.le_of_ble_eq_true rfl) ?_
  refine .seq ?_
  refine .region ?_
  refine .q (op_assign rfl) trivial rfl ?_
  refine .nil ?_
  show Ev _ _ _ _ _
  refine .seq ?_
  refine .region ?_
  refine .q (op_move rfl) trivial rfl ?_
  refine .a (op_call (U := [(1000, some ⟨.aggI (dg (fp)), 3, true⟩)]) [] [(1000, 1000)] (P_ev) Tryd.func74 (by kernel_rfl) rfl rfl rfl (trivial) (trivial) (⟨⟨1000, _, rfl, rfl, rfl, rfl, .inl rfl⟩, trivial⟩) (trivial) rfl) trivial rfl ?_
  refine .a (op_call (U := [(1008, some ⟨.aggI (dg (a + fp)), 3, true⟩)]) [(500, 500), (501, 1000)] [(1008, 1000)] (add_ev a fp (by omega) (by omega)) Tryd.func55 (by kernel_rfl) rfl rfl rfl (⟨⟨_, rfl, rfl, rfl⟩, ⟨_, rfl, rfl, rfl⟩, trivial⟩) (⟨⟨_, _, rfl, rfl, rfl, rfl, (fun h => by cases h), rfl⟩, ⟨_, _, rfl, rfl, rfl, rfl, (fun h => by cases h), rfl⟩, trivial⟩) (⟨⟨1000, _, rfl, rfl, rfl, rfl, .inl rfl⟩, trivial⟩) (⟨(fun h => by cases h), (fun h => by cases h), trivial⟩) rfl) trivial rfl ?_
  refine .q (op_move rfl) trivial rfl ?_
  refine .a (op_call (U := [(1016, some ⟨.aggI (dg (a + fp - b)), 3, true⟩)]) [(500, 1008), (501, 501)] [(1016, 1000)] (sub_ev (a + fp) b (by omega) (by omega) (by omega)) Tryd.func51 (by kernel_rfl) rfl rfl rfl (⟨⟨_, rfl, rfl, rfl⟩, ⟨_, rfl, rfl, rfl⟩, trivial⟩) (⟨⟨_, _, rfl, rfl, rfl, rfl, (fun h => by cases h), rfl⟩, ⟨_, _, rfl, rfl, rfl, rfl, (fun h => by cases h), rfl⟩, trivial⟩) (⟨⟨1000, _, rfl, rfl, rfl, rfl, .inl rfl⟩, trivial⟩) (⟨(fun h => by cases h), (fun h => by cases h), trivial⟩) rfl) trivial rfl ?_
  refine .q (op_call (U := []) [(500, 1016)] [] (cut_id (a + fp - b) h) Tryd.func71 (by kernel_rfl) rfl rfl rfl (⟨⟨_, rfl, rfl, rfl⟩, trivial⟩) (⟨⟨_, _, rfl, rfl, rfl, rfl, (fun h => by cases h), rfl⟩, trivial⟩) (trivial) (⟨(fun h => by cases h), trivial⟩) rfl) trivial rfl ?_
  refine .q (op_assign rfl) trivial rfl ?_
  refine .nil ?_
  show Ev _ _ _ _ _
  refine Ev.weak (st2 := ⟨[(4, .sl 1000 0 (dl ((a + (fp - b)) % fp)) 1)], [(1000, some ⟨.aggI (dg ((a + (fp - b)) % fp)), 3, true⟩)], 1008⟩) (StLe.mk [(1000, 1016)] rfl rfl ⟨⟨_, rfl, by (show AV.sl 1000 0 (dl (a + fp - b)) 1 = _; rw [show a + (fp - b) = a + fp - b by omega, Nat.mod_eq_of_lt h]), rfl⟩, trivial⟩ ⟨⟨_, _, rfl, rfl, by (show AV.aggI (dg (a + fp - b)) = _; rw [show a + (fp - b) = a + fp - b by omega, Nat.mod_eq_of_lt h]), rfl, id, rfl⟩, trivial⟩) ?_
  refine .ret ?_
  show RetOk _ _ _ _ _ _ _
  exact ret1v rfl (.inl rfl) rfl rfl ⟨rfl, trivial⟩
set_option maxHeartbeats 1000000 in
set_option maxRecDepth 100000 in
theorem sub05_b (a b : Nat) (ha : a < fp) (hb : b < fp) (h : fp ≤ a + fp - b) : Meets Tryd.prog 23 [.sl 500 0 (dl a) 1, .sl 501 0 (dl b) 1] [(500, some ⟨.aggI (dg a), 3, false⟩), (501, some ⟨.aggI (dg b), 3, false⟩)] (.sl 1000 0 (dl ((a + (fp - b)) % fp)) 1) [(1000, some ⟨.aggI (dg ((a + (fp - b)) % fp)), 3, true⟩)] := by
  have hda := dl_of_fp ha
  have hdb := dl_of_fp hb
  have hfp := dl_fp
  have hs := dl_addF (a := a) (b := fp) hda hfp
  have hs2 := dl_mono2 (Nat.sub_le (a + fp) b)
  refine meets_of_ev (nt := 11) Tryd.func23 rfl rfl (Nat.le_of_ble_eq_true rfl) ?_
  refine .seq ?_
  refine .region ?_
  refine .q (op_assign rfl) trivial rfl ?_
  refine .nil ?_
  show Ev _ _ _ _ _
  refine .seq ?_
  refine .region ?_
  refine .q (op_move rfl) trivial rfl ?_
  refine .a (op_call (U := [(1000, some ⟨.aggI (dg (fp)), 3, true⟩)]) [] [(1000, 1000)] (P_ev) Tryd.func74 (by kernel_rfl) rfl rfl rfl (trivial) (trivial) (⟨⟨1000, _, rfl, rfl, rfl, rfl, .inl rfl⟩, trivial⟩) (trivial) rfl) trivial rfl ?_
  refine .a (op_call (U := [(1008, some ⟨.aggI (dg (a + fp)), 3, true⟩)]) [(500, 500), (501, 1000)] [(1008, 1000)] (add_ev a fp (by omega) (by omega)) Tryd.func55 (by kernel_rfl) rfl rfl rfl (⟨⟨_, rfl, rfl, rfl⟩, ⟨_, rfl, rfl, rfl⟩, trivial⟩) (⟨⟨_, _, rfl, rfl, rfl, rfl, (fun h => by cases h), rfl⟩, ⟨_, _, rfl, rfl, rfl, rfl, (fun h => by cases h), rfl⟩, trivial⟩) (⟨⟨1000, _, rfl, rfl, rfl, rfl, .inl rfl⟩, trivial⟩) (⟨(fun h => by cases h), (fun h => by cases h), trivial⟩) rfl) trivial rfl ?_
  refine .q (op_move rfl) trivial rfl ?_
  refine .a (op_call (U := [(1016, some ⟨.aggI (dg (a + fp - b)), 3, true⟩)]) [(500, 1008), (501, 501)] [(1016, 1000)] (sub_ev (a + fp) b (by omega) (by omega) (by omega)) Tryd.func51 (by kernel_rfl) rfl rfl rfl (⟨⟨_, rfl, rfl, rfl⟩, ⟨_, rfl, rfl, rfl⟩, trivial⟩) (⟨⟨_, _, rfl, rfl, rfl, rfl, (fun h => by cases h), rfl⟩, ⟨_, _, rfl, rfl, rfl, rfl, (fun h => by cases h), rfl⟩, trivial⟩) (⟨⟨1000, _, rfl, rfl, rfl, rfl, .inl rfl⟩, trivial⟩) (⟨(fun h => by cases h), (fun h => by cases h), trivial⟩) rfl) trivial rfl ?_
  refine .a (op_call (U := [(1024, some ⟨.aggI (dg ((a + fp - b) % fp)), 3, true⟩)]) [(500, 1016)] [(1024, 1000)] (cut_new (a + fp - b) h (by omega)) Tryd.func71 (by kernel_rfl) rfl rfl rfl (⟨⟨_, rfl, rfl, rfl⟩, trivial⟩) (⟨⟨_, _, rfl, rfl, rfl, rfl, (fun h => by cases h), rfl⟩, trivial⟩) (⟨⟨1000, _, rfl, rfl, rfl, rfl, .inl rfl⟩, trivial⟩) (⟨(fun h => by cases h), trivial⟩) rfl) trivial rfl ?_
  refine .q (op_assign rfl) trivial rfl ?_
  refine .nil ?_
  show Ev _ _ _ _ _
  refine Ev.weak (st2 := ⟨[(4, .sl 1000 0 (dl ((a + (fp - b)) % fp)) 1)], [(1000, some ⟨.aggI (dg ((a + (fp - b)) % fp)), 3, true⟩)], 1008⟩) (StLe.mk [(1000, 1024)] rfl rfl ⟨⟨_, rfl, by (show AV.sl 1000 0 (dl ((a + fp - b) % fp)) 1 = _; rw [show a + (fp - b) = a + fp - b by omega]), rfl⟩, trivial⟩ ⟨⟨_, _, rfl, rfl, by (show AV.aggI (dg ((a + fp - b) % fp)) = _; rw [show a + (fp - b) = a + fp - b by omega]), rfl, id, rfl⟩, trivial⟩) ?_
  refine .ret ?_
  show RetOk _ _ _ _ _ _ _
  exact ret1v rfl (.inl rfl) rfl rfl ⟨rfl, trivial⟩
theorem sub05 (a b : Nat) (ha : a < fp) (hb : b < fp) : Meets Tryd.prog 23 [.sl 500 0 (dl a) 1, .sl 501 0 (dl b) 1] [(500, some ⟨.aggI (dg a), 3, false⟩), (501, some ⟨.aggI (dg b), 3, false⟩)] (.sl 1000 0 (dl ((a + (fp - b)) % fp)) 1) [(1000, some ⟨.aggI (dg ((a + (fp - b)) % fp)), 3, true⟩)] := by
  by_cases h : a + fp - b < fp
  · exact sub05_a a b ha hb h
  · exact sub05_b a b ha hb (by omega)
set_option maxHeartbeats 1000000 in
set_option maxRecDepth 100000 in
theorem subn05_a (b : Nat) (hb : b < fp) (h : fp - b < fp) : Meets Tryd.prog 23 [.nilsl, .sl 501 0 (dl b) 1] [(501, some ⟨.aggI (dg b), 3, false⟩)] (.sl 1000 0 (dl ((fp - b) % fp)) 1) [(1000, some ⟨.aggI (dg ((fp - b) % fp)), 3, true⟩)] := by
  have hdb := dl_of_fp hb
  have hfp := dl_fp
  have hs2 := dl_mono2 (Nat.sub_le fp b)
  refine meets_of_ev (nt := 11) Tryd.func23 rfl rfl (Nat.le_of_ble_eq_true rfl) ?_
  refine .seq ?_
  refine .region ?_
  refine .q (op_assign rfl) trivial rfl ?_
  refine .nil ?_
  show Ev _ _ _ _ _
  refine .seq ?_
  refine .region ?_
  refine .q (op_move rfl) trivial rfl ?_
  refine .a (op_call (U := [(1000, some ⟨.aggI (dg (fp)), 3, true⟩)]) [] [(1000, 1000)] (P_ev) Tryd.func74 (by kernel_rfl) rfl rfl rfl (trivial) (trivial) (⟨⟨1000, _, rfl, rfl, rfl, rfl, .inl rfl⟩, trivial⟩) (trivial) rfl) trivial rfl ?_
  refine .a (op_call (U := [(1008, some ⟨.aggI (dg fp), 3, true⟩)]) [(501, 1000)] [(1008, 1000)] (add_nl (dl fp) fp (dl_lt fp) (by omega)) Tryd.func55 (by kernel_rfl) rfl rfl rfl (⟨⟨_, rfl, rfl, rfl⟩, ⟨_, rfl, rfl, rfl⟩, trivial⟩) (⟨⟨_, _, rfl, rfl, rfl, rfl, (fun h => by cases h), rfl⟩, trivial⟩) (⟨⟨1000, _, rfl, rfl, rfl, rfl, .inl rfl⟩, trivial⟩) (⟨(fun h => by cases h), trivial⟩) rfl) trivial rfl ?_
  refine .q (op_move rfl) trivial rfl ?_
  refine .a (op_call (U := [(1016, some ⟨.aggI (dg (fp - b)), 3, true⟩)]) [(500, 1008), (501, 501)] [(1016, 1000)] (sub_ev fp b (by omega) (by omega) (by omega)) Tryd.func51 (by kernel_rfl) rfl rfl rfl (⟨⟨_, rfl, rfl, rfl⟩, ⟨_, rfl, rfl, rfl⟩, trivial⟩) (⟨⟨_, _, rfl, rfl, rfl, rfl, (fun h => by cases h), rfl⟩, ⟨_, _, rfl, rfl, rfl, rfl, (fun h => by cases h), rfl⟩, trivial⟩) (⟨⟨1000, _, rfl, rfl, rfl, rfl, .inl rfl⟩, trivial⟩) (⟨(fun h => by cases h), (fun h => by cases h), trivial⟩) rfl) trivial rfl ?_
  refine .q (op_call (U := []) [(500, 1016)] [] (cut_id (fp - b) h) Tryd.func71 (by kernel_rfl) rfl rfl rfl (⟨⟨_, rfl, rfl, rfl⟩, trivial⟩) (⟨⟨_, _, rfl, rfl, rfl, rfl, (fun h => by cases h), rfl⟩, trivial⟩) (trivial) (⟨(fun h => by cases h), trivial⟩) rfl) trivial rfl ?_
  refine .q (op_assign rfl) trivial rfl ?_
  refine .nil ?_
  show Ev _ _ _ _ _
  refine Ev.weak (st2 := ⟨[(4, .sl 1000 0 (dl ((fp - b) % fp)) 1)], [(1000, some ⟨.aggI (dg ((fp - b) % fp)), 3, true⟩)], 1008⟩) (StLe.mk [(1000, 1016)] rfl rfl ⟨⟨_, rfl, by (show AV.sl 1000 0 (dl (fp - b)) 1 = _; rw [Nat.mod_eq_of_lt h]), rfl⟩, trivial⟩ ⟨⟨_, _, rfl, rfl, by (show AV.aggI (dg (fp - b)) = _; rw [Nat.mod_eq_of_lt h]), rfl, id, rfl⟩, trivial⟩) ?_
  refine .ret ?_
  show RetOk _ _ _ _ _ _ _
  exact ret1v rfl (.inl rfl) rfl rfl ⟨rfl, trivial⟩
set_option maxHeartbeats 1000000 in
set_option maxRecDepth 100000 in
theorem subn05_b (b : Nat) (hb : b < fp) (h : fp ≤ fp - b) : Meets Tryd.prog 23 [.nilsl, .sl 501 0 (dl b) 1] [(501, some ⟨.aggI (dg b), 3, false⟩)] (.sl 1000 0 (dl ((fp - b) % fp)) 1) [(1000, some ⟨.aggI (dg ((fp - b) % fp)), 3, true⟩)] := by
  have hdb := dl_of_fp hb
  have hfp := dl_fp
  have hs2 := dl_mono2 (Nat.sub_le fp b)
  refine meets_of_ev (nt := 11) Tryd.func23 rfl rfl (Nat.le_of_ble_eq_true rfl) ?_
  refine .seq ?_
  refine .region ?_
  refine .q (op_assign rfl) trivial rfl ?_
  refine .nil ?_
  show Ev _ _ _ _ _
  refine .seq ?_
  refine .region ?_
  refine .q (op_move rfl) trivial rfl ?_
  refine .a (op_call (U := [(1000, some ⟨.aggI (dg (fp)), 3, true⟩)]) [] [(1000, 1000)] (P_ev) Tryd.func74 (by kernel_rfl) rfl rfl rfl (trivial) (trivial) (⟨⟨1000, _, rfl, rfl, rfl, rfl, .inl rfl⟩, trivial⟩) (trivial) rfl) trivial rfl ?_
  refine .a (op_call (U := [(1008, some ⟨.aggI (dg fp), 3, true⟩)]) [(501, 1000)] [(1008, 1000)] (add_nl (dl fp) fp (dl_lt fp) (by omega)) Tryd.func55 (by kernel_rfl) rfl rfl rfl (⟨⟨_, rfl, rfl, rfl⟩, ⟨_, rfl, rfl, rfl⟩, trivial⟩) (⟨⟨_, _, rfl, rfl, rfl, rfl, (fun h => by cases h), rfl⟩, trivial⟩) (⟨⟨1000, _, rfl, rfl, rfl, rfl, .inl rfl⟩, trivial⟩) (⟨(fun h => by cases h), trivial⟩) rfl) trivial rfl ?_
  refine .q (op_move rfl) trivial rfl ?_
  refine .a (op_call (U := [(1016, some ⟨.aggI (dg (fp - b)), 3, true⟩)]) [(500, 1008), (501, 501)] [(1016, 1000)] (sub_ev fp b (by omega) (by omega) (by omega)) Tryd.func51 (by kernel_rfl) rfl rfl rfl (⟨⟨_, rfl, rfl, rfl⟩, ⟨_, rfl, rfl, rfl⟩, trivial⟩) (⟨⟨_, _, rfl, rfl, rfl, rfl, (fun h => by cases h), rfl⟩, ⟨_, _, rfl, rfl, rfl, rfl, (fun h => by cases h), rfl⟩, trivial⟩) (⟨⟨1000, _, rfl, rfl, rfl, rfl, .inl rfl⟩, trivial⟩) (⟨(fun h => by cases h), (fun h => by cases h), trivial⟩) rfl) trivial rfl ?_
  refine .a (op_call (U := [(1024, some ⟨.aggI (dg ((fp - b) % fp)), 3, true⟩)]) [(500, 1016)] [(1024, 1000)] (cut_new (fp - b) h (by omega)) Tryd.func71 (by kernel_rfl) rfl rfl rfl (⟨⟨_, rfl, rfl, rfl⟩, trivial⟩) (⟨⟨_, _, rfl, rfl, rfl, rfl, (fun h => by cases h), rfl⟩, trivial⟩) (⟨⟨1000, _, rfl, rfl, rfl, rfl, .inl rfl⟩, trivial⟩) (⟨(fun h => by cases h), trivial⟩) rfl) trivial rfl ?_
  refine .q (op_assign rfl) trivial rfl ?_
  refine .nil ?_
  show Ev _ _ _ _ _
  refine Ev.weak (st2 := ⟨[(4, .sl 1000 0 (dl ((fp - b) % fp)) 1)], [(1000, some ⟨.aggI (dg ((fp - b) % fp)), 3, true⟩)], 1008⟩) (StLe.mk [(1000, 1024)] rfl rfl ⟨⟨_, rfl, by (show AV.sl 1000 0 (dl ((fp - b) % fp)) 1 = _; rfl), rfl⟩, trivial⟩ ⟨⟨_, _, rfl, rfl, by (show AV.aggI (dg ((fp - b) % fp)) = _; rfl), rfl, id, rfl⟩, trivial⟩) ?_
  refine .ret ?_
  show RetOk _ _ _ _ _ _ _
  exact ret1v rfl (.inl rfl) rfl rfl ⟨rfl, trivial⟩
theorem subn05 (b : Nat) (hb : b < fp) : Meets Tryd.prog 23 [.nilsl, .sl 501 0 (dl b) 1] [(501, some ⟨.aggI (dg b), 3, false⟩)] (.sl 1000 0 (dl ((fp - b) % fp)) 1) [(1000, some ⟨.aggI (dg ((fp - b) % fp)), 3, true⟩)] := by
  by_cases h : fp - b < fp
  · exact subn05_a b hb h
  · exact subn05_b b hb (by omega)
set_option maxHeartbeats 1000000 in
set_option maxRecDepth 100000 in
theorem bytes05 (a : Nat) : Meets Tryd.prog 77 [.sl 500 0 (dl a) 1] [(500, some ⟨.aggI (dg a), 3, false⟩)] (.str (bsN a 32)) [] := by
  refine meets_of_ev (nt := 5) Tryd.func77 rfl rfl (Nat.le_of_ble_eq_true rfl) ?_
  refine .seq ?_
  refine .region ?_
  refine .q (op_assign rfl) trivial rfl ?_
  refine .nil ?_
  show Ev _ _ _ _ _
  refine .seq ?_
  refine .region ?_
  refine .q (op_move rfl) trivial rfl ?_
  refine .q (op_call (U := []) [(500, 500)] [] (bytes_ev a 32 (by omega)) Tryd.func59 (by kernel_rfl) rfl rfl rfl (⟨⟨_, rfl, rfl, rfl⟩, ⟨_, rfl, rfl, rfl⟩, trivial⟩) (⟨⟨_, _, rfl, rfl, rfl, rfl, (fun h => by cases h), rfl⟩, trivial⟩) (trivial) (⟨(fun h => by cases h), trivial⟩) rfl) trivial rfl ?_
  refine .q (op_assign rfl) trivial rfl ?_
  refine .nil ?_
  show Ev _ _ _ _ _
  refine .ret ?_
  show RetOk _ _ _ _ _ _ _
  exact ret1v rfl (.inl rfl) rfl rfl trivial
theorem odd_yes (a : Nat) : decide (((dk a 0 : Nat) : Int) % 2 = 1) = decide (a % 2 = 1) := by
  have : dk a 0 = a % 65536 := by unfold dk; simp
  rw [this]; exact decide_eq_decide.2 (by omega)
theorem odd_no (a : Nat) (h : dl a ≤ 0) : false = decide (a % 2 = 1) := by
  have : a = 0 := by have := dl_lt a; rw [show dl a = 0 by omega] at this; omega
  subst this; rfl
end Go.Proofs.YtgblhjmnenmlkaaDoor
namespace Go.Proofs.YtgblhjmnenmlkaaDoor
open Go.RowKit
theorem of_len (s : List UInt8) (h : s.length ≤ 32) : leN s s.length % 2 ^ 255 % fp = ofV s := by
  have := leN_over s s.length (32 - s.length) (Nat.le_refl _)
  rw [show s.length + (32 - s.length) = 32 by omega] at this
  unfold ofV; rw [this]
theorem of_take (s : List UInt8) : ofV (s.take 32) = ofV s := by
  unfold ofV
  rw [leN_congr (s.take 32) s 32 (fun i hi => by rw [List.getD_eq_getElem?_getD, List.getElem?_take, if_pos hi, ← List.getD_eq_getElem?_getD])]
set_option maxHeartbeats 1000000 in
set_option maxRecDepth 100000 in
theorem of05_sa (s : List UInt8) (hm : s.length ≤ 1000000) (hs : s.length ≤ 32) (h1 : dl (leN s s.length) < 16) (h : leN s s.length < fp) : Meets Tryd.prog 19 [.str s] [] (.sl 1000 0 (dl (ofV s)) 1) [(1000, some ⟨.aggI (dg (ofV s)), 3, true⟩)] := by
  have hs2 : s.length ≤ 32 := by omega
  have hd0 := dl_le (n := 16) (Nat.lt_of_lt_of_le (leN_lt2 s s.length) (Nat.pow_le_pow_right (by decide) (by omega)))
  have hq2 := dl_mono2 (Nat.mod_le (leN s s.length) (2 ^ 255))
  have he : ofV s = leN s s.length % 2 ^ 255 % fp := (of_len s hs).symm
  refine meets_of_ev (nt := 12) Tryd.func19 rfl rfl (Nat.le_of_ble_eq_true rfl) ?_
  refine .seq ?_
  refine .region ?_
  refine .q (op_assign rfl) trivial rfl ?_
  refine .nil ?_
  show Ev _ _ _ _ _
  refine .seq ?_
  refine .seq ?_
  refine .region ?_
  refine .q (op_move rfl) trivial rfl ?_
  refine .q (op_len_str Tryd.underlying9 rfl) trivial rfl ?_
  refine .q (op_cmpI rfl rfl rfl) trivial rfl ?_
  refine .nil ?_
  show Ev _ _ _ _ _
  refine .cond_false rfl (decide_eq_false (by omega)) ?_
  refine .skip ?_
  show Ev _ _ _ _ _
  refine .seq ?_
  refine .region ?_
  refine .q (op_move rfl) trivial rfl ?_
  refine .a (op_call (U := [(1000, some ⟨.aggI (dg (leN s s.length)), 3, true⟩)]) [] [(1000, 1000)] (of_ev s (by omega)) Tryd.func50 (by kernel_rfl) rfl rfl rfl (⟨⟨_, rfl, rfl, rfl⟩, trivial⟩) (trivial) (⟨⟨1000, _, rfl, rfl, rfl, rfl, .inl rfl⟩, trivial⟩) (trivial) rfl) trivial rfl ?_
  refine .q (op_call (U := []) [(500, 1000)] [] (low_id (leN s s.length) h1) Tryd.func72 (by kernel_rfl) rfl rfl rfl (⟨⟨_, rfl, rfl, rfl⟩, trivial⟩) (⟨⟨_, _, rfl, rfl, rfl, rfl, (fun h => by cases h), rfl⟩, trivial⟩) (trivial) (⟨(fun h => by cases h), trivial⟩) rfl) trivial rfl ?_
  refine .q (op_call (U := []) [(500, 1000)] [] (cut_id (leN s s.length) h) Tryd.func71 (by kernel_rfl) rfl rfl rfl (⟨⟨_, rfl, rfl, rfl⟩, trivial⟩) (⟨⟨_, _, rfl, rfl, rfl, rfl, (fun h => by cases h), rfl⟩, trivial⟩) (trivial) (⟨(fun h => by cases h), trivial⟩) rfl) trivial rfl ?_
  refine .q (op_assign rfl) trivial rfl ?_
  refine .nil ?_
  show Ev _ _ _ _ _
  refine Ev.weak (st2 := ⟨[(2, .sl 1000 0 (dl (ofV s)) 1)], [(1000, some ⟨.aggI (dg (ofV s)), 3, true⟩)], 1008⟩) (StLe.mk [(1000, 1000)] rfl rfl ⟨⟨_, rfl, by (show AV.sl 1000 0 (dl (leN s s.length)) 1 = _; rw [he, dl_lowid h1, Nat.mod_eq_of_lt h]), rfl⟩, trivial⟩ ⟨⟨_, _, rfl, rfl, by (show AV.aggI (dg (leN s s.length)) = _; rw [he, dl_lowid h1, Nat.mod_eq_of_lt h]), rfl, id, rfl⟩, trivial⟩) ?_
  refine .ret ?_
  show RetOk _ _ _ _ _ _ _
  exact ret1v rfl (.inl rfl) rfl rfl ⟨rfl, trivial⟩
set_option maxHeartbeats 1000000 in
set_option maxRecDepth 100000 in
theorem of05_sb (s : List UInt8) (hm : s.length ≤ 1000000) (hs : s.length ≤ 32) (h1 : 16 ≤ dl (leN s s.length)) (h : (leN s s.length) % 2 ^ 255 < fp) : Meets Tryd.prog 19 [.str s] [] (.sl 1000 0 (dl (ofV s)) 1) [(1000, some ⟨.aggI (dg (ofV s)), 3, true⟩)] := by
  have hs2 : s.length ≤ 32 := by omega
  have hd0 := dl_le (n := 16) (Nat.lt_of_lt_of_le (leN_lt2 s s.length) (Nat.pow_le_pow_right (by decide) (by omega)))
  have hq2 := dl_mono2 (Nat.mod_le (leN s s.length) (2 ^ 255))
  have he : ofV s = leN s s.length % 2 ^ 255 % fp := (of_len s hs).symm
  refine meets_of_ev (nt := 12) Tryd.func19 rfl rfl (Nat.le_of_ble_eq_true rfl) ?_
  refine .seq ?_
  refine .region ?_
  refine .q (op_assign rfl) trivial rfl ?_
  refine .nil ?_
  show Ev _ _ _ _ _
  refine .seq ?_
  refine .seq ?_
  refine .region ?_
  refine .q (op_move rfl) trivial rfl ?_
  refine .q (op_len_str Tryd.underlying9 rfl) trivial rfl ?_
  refine .q (op_cmpI rfl rfl rfl) trivial rfl ?_
  refine .nil ?_
  show Ev _ _ _ _ _
  refine .cond_false rfl (decide_eq_false (by omega)) ?_
  refine .skip ?_
  show Ev _ _ _ _ _
  refine .seq ?_
  refine .region ?_
  refine .q (op_move rfl) trivial rfl ?_
  refine .a (op_call (U := [(1000, some ⟨.aggI (dg (leN s s.length)), 3, true⟩)]) [] [(1000, 1000)] (of_ev s (by omega)) Tryd.func50 (by kernel_rfl) rfl rfl rfl (⟨⟨_, rfl, rfl, rfl⟩, trivial⟩) (trivial) (⟨⟨1000, _, rfl, rfl, rfl, rfl, .inl rfl⟩, trivial⟩) (trivial) rfl) trivial rfl ?_
  refine .a (op_call (U := [(1008, some ⟨.aggI (dg ((leN s s.length) % 2 ^ 255)), 3, true⟩)]) [(500, 1000)] [(1008, 1000)] (low_new (leN s s.length) h1 (by omega)) Tryd.func72 (by kernel_rfl) rfl rfl rfl (⟨⟨_, rfl, rfl, rfl⟩, trivial⟩) (⟨⟨_, _, rfl, rfl, rfl, rfl, (fun h => by cases h), rfl⟩, trivial⟩) (⟨⟨1000, _, rfl, rfl, rfl, rfl, .inl rfl⟩, trivial⟩) (⟨(fun h => by cases h), trivial⟩) rfl) trivial rfl ?_
  refine .q (op_call (U := []) [(500, 1008)] [] (cut_id ((leN s s.length) % 2 ^ 255) h) Tryd.func71 (by kernel_rfl) rfl rfl rfl (⟨⟨_, rfl, rfl, rfl⟩, trivial⟩) (⟨⟨_, _, rfl, rfl, rfl, rfl, (fun h => by cases h), rfl⟩, trivial⟩) (trivial) (⟨(fun h => by cases h), trivial⟩) rfl) trivial rfl ?_
  refine .q (op_assign rfl) trivial rfl ?_
  refine .nil ?_
  show Ev _ _ _ _ _
  refine Ev.weak (st2 := ⟨[(2, .sl 1000 0 (dl (ofV s)) 1)], [(1000, some ⟨.aggI (dg (ofV s)), 3, true⟩)], 1008⟩) (StLe.mk [(1000, 1008)] rfl rfl ⟨⟨_, rfl, by (show AV.sl 1000 0 (dl ((leN s s.length) % 2 ^ 255)) 1 = _; rw [he, Nat.mod_eq_of_lt h]), rfl⟩, trivial⟩ ⟨⟨_, _, rfl, rfl, by (show AV.aggI (dg ((leN s s.length) % 2 ^ 255)) = _; rw [he, Nat.mod_eq_of_lt h]), rfl, id, rfl⟩, trivial⟩) ?_
  refine .ret ?_
  show RetOk _ _ _ _ _ _ _
  exact ret1v rfl (.inl rfl) rfl rfl ⟨rfl, trivial⟩
set_option maxHeartbeats 1000000 in
set_option maxRecDepth 100000 in
theorem of05_sc (s : List UInt8) (hm : s.length ≤ 1000000) (hs : s.length ≤ 32) (h1 : 16 ≤ dl (leN s s.length)) (h : fp ≤ (leN s s.length) % 2 ^ 255) : Meets Tryd.prog 19 [.str s] [] (.sl 1000 0 (dl (ofV s)) 1) [(1000, some ⟨.aggI (dg (ofV s)), 3, true⟩)] := by
  have hs2 : s.length ≤ 32 := by omega
  have hd0 := dl_le (n := 16) (Nat.lt_of_lt_of_le (leN_lt2 s s.length) (Nat.pow_le_pow_right (by decide) (by omega)))
  have hq2 := dl_mono2 (Nat.mod_le (leN s s.length) (2 ^ 255))
  have he : ofV s = leN s s.length % 2 ^ 255 % fp := (of_len s hs).symm
  refine meets_of_ev (nt := 12) Tryd.func19 rfl rfl (Nat.le_of_ble_eq_true rfl) ?_
  refine .seq ?_
  refine .region ?_
  refine .q (op_assign rfl) trivial rfl ?_
  refine .nil ?_
  show Ev _ _ _ _ _
  refine .seq ?_
  refine .seq ?_
  refine .region ?_
  refine .q (op_move rfl) trivial rfl ?_
  refine .q (op_len_str Tryd.underlying9 rfl) trivial rfl ?_
  refine .q (op_cmpI rfl rfl rfl) trivial rfl ?_
  refine .nil ?_
  show Ev _ _ _ _ _
  refine .cond_false rfl (decide_eq_false (by omega)) ?_
  refine .skip ?_
  show Ev _ _ _ _ _
  refine .seq ?_
  refine .region ?_
  refine .q (op_move rfl) trivial rfl ?_
  refine .a (op_call (U := [(1000, some ⟨.aggI (dg (leN s s.length)), 3, true⟩)]) [] [(1000, 1000)] (of_ev s (by omega)) Tryd.func50 (by kernel_rfl) rfl rfl rfl (⟨⟨_, rfl, rfl, rfl⟩, trivial⟩) (trivial) (⟨⟨1000, _, rfl, rfl, rfl, rfl, .inl rfl⟩, trivial⟩) (trivial) rfl) trivial rfl ?_
  refine .a (op_call (U := [(1008, some ⟨.aggI (dg ((leN s s.length) % 2 ^ 255)), 3, true⟩)]) [(500, 1000)] [(1008, 1000)] (low_new (leN s s.length) h1 (by omega)) Tryd.func72 (by kernel_rfl) rfl rfl rfl (⟨⟨_, rfl, rfl, rfl⟩, trivial⟩) (⟨⟨_, _, rfl, rfl, rfl, rfl, (fun h => by cases h), rfl⟩, trivial⟩) (⟨⟨1000, _, rfl, rfl, rfl, rfl, .inl rfl⟩, trivial⟩) (⟨(fun h => by cases h), trivial⟩) rfl) trivial rfl ?_
  refine .a (op_call (U := [(1016, some ⟨.aggI (dg (((leN s s.length) % 2 ^ 255) % fp)), 3, true⟩)]) [(500, 1008)] [(1016, 1000)] (cut_new ((leN s s.length) % 2 ^ 255) h (by omega)) Tryd.func71 (by kernel_rfl) rfl rfl rfl (⟨⟨_, rfl, rfl, rfl⟩, trivial⟩) (⟨⟨_, _, rfl, rfl, rfl, rfl, (fun h => by cases h), rfl⟩, trivial⟩) (⟨⟨1000, _, rfl, rfl, rfl, rfl, .inl rfl⟩, trivial⟩) (⟨(fun h => by cases h), trivial⟩) rfl) trivial rfl ?_
  refine .q (op_assign rfl) trivial rfl ?_
  refine .nil ?_
  show Ev _ _ _ _ _
  refine Ev.weak (st2 := ⟨[(2, .sl 1000 0 (dl (ofV s)) 1)], [(1000, some ⟨.aggI (dg (ofV s)), 3, true⟩)], 1008⟩) (StLe.mk [(1000, 1016)] rfl rfl ⟨⟨_, rfl, by (show AV.sl 1000 0 (dl (((leN s s.length) % 2 ^ 255) % fp)) 1 = _; rw [he]), rfl⟩, trivial⟩ ⟨⟨_, _, rfl, rfl, by (show AV.aggI (dg (((leN s s.length) % 2 ^ 255) % fp)) = _; rw [he]), rfl, id, rfl⟩, trivial⟩) ?_
  refine .ret ?_
  show RetOk _ _ _ _ _ _ _
  exact ret1v rfl (.inl rfl) rfl rfl ⟨rfl, trivial⟩
set_option maxHeartbeats 1000000 in
set_option maxRecDepth 100000 in
theorem of05_ta (s : List UInt8) (hm : s.length ≤ 1000000) (hs : 32 < s.length) (h1 : dl (leN (s.take 32) (s.take 32).length) < 16) (h : leN (s.take 32) (s.take 32).length < fp) : Meets Tryd.prog 19 [.str s] [] (.sl 1000 0 (dl (ofV s)) 1) [(1000, some ⟨.aggI (dg (ofV s)), 3, true⟩)] := by
  have hs2 : (s.take 32).length ≤ 32 := by simp; omega
  have hd0 := dl_le (n := 16) (Nat.lt_of_lt_of_le (leN_lt2 (s.take 32) (s.take 32).length) (Nat.pow_le_pow_right (by decide) (by omega)))
  have hq2 := dl_mono2 (Nat.mod_le (leN (s.take 32) (s.take 32).length) (2 ^ 255))
  have he : ofV s = leN (s.take 32) (s.take 32).length % 2 ^ 255 % fp := ((of_len _ hs2).trans (of_take s)).symm
  refine meets_of_ev (nt := 12) Tryd.func19 rfl rfl (Nat.le_of_ble_eq_true rfl) ?_
  refine .seq ?_
  refine .region ?_
  refine .q (op_assign rfl) trivial rfl ?_
  refine .nil ?_
  show Ev _ _ _ _ _
  refine .seq ?_
  refine .seq ?_
  refine .region ?_
  refine .q (op_move rfl) trivial rfl ?_
  refine .q (op_len_str Tryd.underlying9 rfl) trivial rfl ?_
  refine .q (op_cmpI rfl rfl rfl) trivial rfl ?_
  refine .nil ?_
  show Ev _ _ _ _ _
  refine .cond_true rfl (decide_eq_true (by omega)) ?_
  refine .region ?_
  refine .q (op_move rfl) trivial rfl ?_
  refine .q (ap_slice_str_hi Tryd.underlying9 rfl (bnd_some rfl (l := 32) rfl) (by omega)) trivial rfl ?_
  refine .q (op_assign rfl) trivial rfl ?_
  refine .nil ?_
  show Ev _ _ _ _ _
  refine .seq ?_
  refine .region ?_
  refine .q (op_move rfl) trivial rfl ?_
  refine .a (op_call (U := [(1000, some ⟨.aggI (dg (leN (s.take 32) (s.take 32).length)), 3, true⟩)]) [] [(1000, 1000)] (of_ev (s.take 32) (by omega)) Tryd.func50 (by kernel_rfl) rfl rfl rfl (⟨⟨_, rfl, rfl, rfl⟩, trivial⟩) (trivial) (⟨⟨1000, _, rfl, rfl, rfl, rfl, .inl rfl⟩, trivial⟩) (trivial) rfl) trivial rfl ?_
  refine .q (op_call (U := []) [(500, 1000)] [] (low_id (leN (s.take 32) (s.take 32).length) h1) Tryd.func72 (by kernel_rfl) rfl rfl rfl (⟨⟨_, rfl, rfl, rfl⟩, trivial⟩) (⟨⟨_, _, rfl, rfl, rfl, rfl, (fun h => by cases h), rfl⟩, trivial⟩) (trivial) (⟨(fun h => by cases h), trivial⟩) rfl) trivial rfl ?_
  refine .q (op_call (U := []) [(500, 1000)] [] (cut_id (leN (s.take 32) (s.take 32).length) h) Tryd.func71 (by kernel_rfl) rfl rfl rfl (⟨⟨_, rfl, rfl, rfl⟩, trivial⟩) (⟨⟨_, _, rfl, rfl, rfl, rfl, (fun h => by cases h), rfl⟩, trivial⟩) (trivial) (⟨(fun h => by cases h), trivial⟩) rfl) trivial rfl ?_
  refine .q (op_assign rfl) trivial rfl ?_
  refine .nil ?_
  show Ev _ _ _ _ _
  refine Ev.weak (st2 := ⟨[(2, .sl 1000 0 (dl (ofV s)) 1)], [(1000, some ⟨.aggI (dg (ofV s)), 3, true⟩)], 1008⟩) (StLe.mk [(1000, 1000)] rfl rfl ⟨⟨_, rfl, by (show AV.sl 1000 0 (dl (leN (s.take 32) (s.take 32).length)) 1 = _; rw [he, dl_lowid h1, Nat.mod_eq_of_lt h]), rfl⟩, trivial⟩ ⟨⟨_, _, rfl, rfl, by (show AV.aggI (dg (leN (s.take 32) (s.take 32).length)) = _; rw [he, dl_lowid h1, Nat.mod_eq_of_lt h]), rfl, id, rfl⟩, trivial⟩) ?_
  refine .ret ?_
  show RetOk _ _ _ _ _ _ _
  exact ret1v rfl (.inl rfl) rfl rfl ⟨rfl, trivial⟩
set_option maxHeartbeats 1000000 in
set_option maxRecDepth 100000 in
theorem of05_tb (s : List UInt8) (hm : s.length ≤ 1000000) (hs : 32 < s.length) (h1 : 16 ≤ dl (leN (s.take 32) (s.take 32).length)) (h : (leN (s.take 32) (s.take 32).length) % 2 ^ 255 < fp) : Meets Tryd.prog 19 [.str s] [] (.sl 1000 0 (dl (ofV s)) 1) [(1000, some ⟨.aggI (dg (ofV s)), 3, true⟩)] := by
  have hs2 : (s.take 32).length ≤ 32 := by simp; omega
  have hd0 := dl_le (n := 16) (Nat.lt_of_lt_of_le (leN_lt2 (s.take 32) (s.take 32).length) (Nat.pow_le_pow_right (by decide) (by omega)))
  have hq2 := dl_mono2 (Nat.mod_le (leN (s.take 32) (s.take 32).length) (2 ^ 255))
  have he : ofV s = leN (s.take 32) (s.take 32).length % 2 ^ 255 % fp := ((of_len _ hs2).trans (of_take s)).symm
  refine meets_of_ev (nt := 12) Tryd.func19 rfl rfl (Nat.le_of_ble_eq_true rfl) ?_
  refine .seq ?_
  refine .region ?_
  refine .q (op_assign rfl) trivial rfl ?_
  refine .nil ?_
  show Ev _ _ _ _ _
  refine .seq ?_
  refine .seq ?_
  refine .region ?_
  refine .q (op_move rfl) trivial rfl ?_
  refine .q (op_len_str Tryd.underlying9 rfl) trivial rfl ?_
  refine .q (op_cmpI rfl rfl rfl) trivial rfl ?_
  refine .nil ?_
  show Ev _ _ _ _ _
  refine .cond_true rfl (decide_eq_true (by omega)) ?_
  refine .region ?_
  refine .q (op_move rfl) trivial rfl ?_
  refine .q (ap_slice_str_hi Tryd.underlying9 rfl (bnd_some rfl (l := 32) rfl) (by omega)) trivial rfl ?_
  refine .q (op_assign rfl) trivial rfl ?_
  refine .nil ?_
  show Ev _ _ _ _ _
  refine .seq ?_
  refine .region ?_
  refine .q (op_move rfl) trivial rfl ?_
  refine .a (op_call (U := [(1000, some ⟨.aggI (dg (leN (s.take 32) (s.take 32).length)), 3, true⟩)]) [] [(1000, 1000)] (of_ev (s.take 32) (by omega)) Tryd.func50 (by kernel_rfl) rfl rfl rfl (⟨⟨_, rfl, rfl, rfl⟩, trivial⟩) (trivial) (⟨⟨1000, _, rfl, rfl, rfl, rfl, .inl rfl⟩, trivial⟩) (trivial) rfl) trivial rfl ?_
  refine .a (op_call (U := [(1008, some ⟨.aggI (dg ((leN (s.take 32) (s.take 32).length) % 2 ^ 255)), 3, true⟩)]) [(500, 1000)] [(1008, 1000)] (low_new (leN (s.take 32) (s.take 32).length) h1 (by omega)) Tryd.func72 (by kernel_rfl) rfl rfl rfl (⟨⟨_, rfl, rfl, rfl⟩, trivial⟩) (⟨⟨_, _, rfl, rfl, rfl, rfl, (fun h => by cases h), rfl⟩, trivial⟩) (⟨⟨1000, _, rfl, rfl, rfl, rfl, .inl rfl⟩, trivial⟩) (⟨(fun h => by cases h), trivial⟩) rfl) trivial rfl ?_
  refine .q (op_call (U := []) [(500, 1008)] [] (cut_id ((leN (s.take 32) (s.take 32).length) % 2 ^ 255) h) Tryd.func71 (by kernel_rfl) rfl rfl rfl (⟨⟨_, rfl, rfl, rfl⟩, trivial⟩) (⟨⟨_, _, rfl, rfl, rfl, rfl, (fun h => by cases h), rfl⟩, trivial⟩) (trivial) (⟨(fun h => by cases h), trivial⟩) rfl) trivial rfl ?_
  refine .q (op_assign rfl) trivial rfl ?_
  refine .nil ?_
  show Ev _ _ _ _ _
  refine Ev.weak (st2 := ⟨[(2, .sl 1000 0 (dl (ofV s)) 1)], [(1000, some ⟨.aggI (dg (ofV s)), 3, true⟩)], 1008⟩) (StLe.mk [(1000, 1008)] rfl rfl ⟨⟨_, rfl, by (show AV.sl 1000 0 (dl ((leN (s.take 32) (s.take 32).length) % 2 ^ 255)) 1 = _; rw [he, Nat.mod_eq_of_lt h]), rfl⟩, trivial⟩ ⟨⟨_, _, rfl, rfl, by (show AV.aggI (dg ((leN (s.take 32) (s.take 32).length) % 2 ^ 255)) = _; rw [he, Nat.mod_eq_of_lt h]), rfl, id, rfl⟩, trivial⟩) ?_
  refine .ret ?_
  show RetOk _ _ _ _ _ _ _
  exact ret1v rfl (.inl rfl) rfl rfl ⟨rfl, trivial⟩
set_option maxHeartbeats 1000000 in
set_option maxRecDepth 100000 in
theorem of05_tc (s : List UInt8) (hm : s.length ≤ 1000000) (hs : 32 < s.length) (h1 : 16 ≤ dl (leN (s.take 32) (s.take 32).length)) (h : fp ≤ (leN (s.take 32) (s.take 32).length) % 2 ^ 255) : Meets Tryd.prog 19 [.str s] [] (.sl 1000 0 (dl (ofV s)) 1) [(1000, some ⟨.aggI (dg (ofV s)), 3, true⟩)] := by
  have hs2 : (s.take 32).length ≤ 32 := by simp; omega
  have hd0 := dl_le (n := 16) (Nat.lt_of_lt_of_le (leN_lt2 (s.take 32) (s.take 32).length) (Nat.pow_le_pow_right (by decide) (by omega)))
  have hq2 := dl_mono2 (Nat.mod_le (leN (s.take 32) (s.take 32).length) (2 ^ 255))
  have he : ofV s = leN (s.take 32) (s.take 32).length % 2 ^ 255 % fp := ((of_len _ hs2).trans (of_take s)).symm
  refine meets_of_ev (nt := 12) Tryd.func19 rfl rfl (Nat.le_of_ble_eq_true rfl) ?_
  refine .seq ?_
  refine .region ?_
  refine .q (op_assign rfl) trivial rfl ?_
  refine .nil ?_
  show Ev _ _ _ _ _
  refine .seq ?_
  refine .seq ?_
  refine .region ?_
  refine .q (op_move rfl) trivial rfl ?_
  refine .q (op_len_str Tryd.underlying9 rfl) trivial rfl ?_
  refine .q (op_cmpI rfl rfl rfl) trivial rfl ?_
  refine .nil ?_
  show Ev _ _ _ _ _
  refine .cond_true rfl (decide_eq_true (by omega)) ?_
  refine .region ?_
  refine .q (op_move rfl) trivial rfl ?_
  refine .q (ap_slice_str_hi Tryd.underlying9 rfl (bnd_some rfl (l := 32) rfl) (by omega)) trivial rfl ?_
  refine .q (op_assign rfl) trivial rfl ?_
  refine .nil ?_
  show Ev _ _ _ _ _
  refine .seq ?_
  refine .region ?_
  refine .q (op_move rfl) trivial rfl ?_
  refine .a (op_call (U := [(1000, some ⟨.aggI (dg (leN (s.take 32) (s.take 32).length)), 3, true⟩)]) [] [(1000, 1000)] (of_ev (s.take 32) (by omega)) Tryd.func50 (by kernel_rfl) rfl rfl rfl (⟨⟨_, rfl, rfl, rfl⟩, trivial⟩) (trivial) (⟨⟨1000, _, rfl, rfl, rfl, rfl, .inl rfl⟩, trivial⟩) (trivial) rfl) trivial rfl ?_
  refine .a (op_call (U := [(1008, some ⟨.aggI (dg ((leN (s.take 32) (s.take 32).length) % 2 ^ 255)), 3, true⟩)]) [(500, 1000)] [(1008, 1000)] (low_new (leN (s.take 32) (s.take 32).length) h1 (by omega)) Tryd.func72 (by kernel_rfl) rfl rfl rfl (⟨⟨_, rfl, rfl, rfl⟩, trivial⟩) (⟨⟨_, _, rfl, rfl, rfl, rfl, (fun h => by cases h), rfl⟩, trivial⟩) (⟨⟨1000, _, rfl, rfl, rfl, rfl, .inl rfl⟩, trivial⟩) (⟨(fun h => by cases h), trivial⟩) rfl) trivial rfl ?_
  refine .a (op_call (U := [(1016, some ⟨.aggI (dg (((leN (s.take 32) (s.take 32).length) % 2 ^ 255) % fp)), 3, true⟩)]) [(500, 1008)] [(1016, 1000)] (cut_new ((leN (s.take 32) (s.take 32).length) % 2 ^ 255) h (by omega)) Tryd.func71 (by kernel_rfl) rfl rfl rfl (⟨⟨_, rfl, rfl, rfl⟩, trivial⟩) (⟨⟨_, _, rfl, rfl, rfl, rfl, (fun h => by cases h), rfl⟩, trivial⟩) (⟨⟨1000, _, rfl, rfl, rfl, rfl, .inl rfl⟩, trivial⟩) (⟨(fun h => by cases h), trivial⟩) rfl) trivial rfl ?_
  refine .q (op_assign rfl) trivial rfl ?_
  refine .nil ?_
  show Ev _ _ _ _ _
  refine Ev.weak (st2 := ⟨[(2, .sl 1000 0 (dl (ofV s)) 1)], [(1000, some ⟨.aggI (dg (ofV s)), 3, true⟩)], 1008⟩) (StLe.mk [(1000, 1016)] rfl rfl ⟨⟨_, rfl, by (show AV.sl 1000 0 (dl (((leN (s.take 32) (s.take 32).length) % 2 ^ 255) % fp)) 1 = _; rw [he]), rfl⟩, trivial⟩ ⟨⟨_, _, rfl, rfl, by (show AV.aggI (dg (((leN (s.take 32) (s.take 32).length) % 2 ^ 255) % fp)) = _; rw [he]), rfl, id, rfl⟩, trivial⟩) ?_
  refine .ret ?_
  show RetOk _ _ _ _ _ _ _
  exact ret1v rfl (.inl rfl) rfl rfl ⟨rfl, trivial⟩
theorem of05 (s : List UInt8) (hm : s.length ≤ 1000000) : Meets Tryd.prog 19 [.str s] [] (.sl 1000 0 (dl (ofV s)) 1) [(1000, some ⟨.aggI (dg (ofV s)), 3, true⟩)] := by
  by_cases hs : s.length ≤ 32
  · by_cases h1 : dl (leN s s.length) < 16
    · have h2 : leN s s.length < fp := Nat.lt_of_lt_of_le (dl_lt _) (Nat.le_trans (Nat.pow_le_pow_right (by decide) (show dl (leN s s.length) ≤ 15 by omega)) (by decide))
      exact of05_sa s hm hs h1 h2
    · by_cases h : leN s s.length % 2 ^ 255 < fp
      · exact of05_sb s hm hs (by omega) h
      · exact of05_sc s hm hs (by omega) (by omega)
  · by_cases h1 : dl (leN (s.take 32) (s.take 32).length) < 16
    · have h2 : leN (s.take 32) (s.take 32).length < fp := Nat.lt_of_lt_of_le (dl_lt _) (Nat.le_trans (Nat.pow_le_pow_right (by decide) (show dl (leN (s.take 32) (s.take 32).length) ≤ 15 by omega)) (by decide))
      exact of05_ta s hm (by omega) h1 h2
    · by_cases h : leN (s.take 32) (s.take 32).length % 2 ^ 255 < fp
      · exact of05_tb s hm (by omega) (by omega) h
      · exact of05_tc s hm (by omega) (by omega) (by omega)
theorem mulsq05 (a : Nat) (ha : a < fp) : Meets Tryd.prog 25 [.sl 500 0 (dl a) 1, .sl 500 0 (dl a) 1] [(500, some ⟨.aggI (dg a), 3, false⟩)] (.sl 1000 0 (dl (a * a % fp)) 1) [(1000, some ⟨.aggI (dg (a * a % fp)), 3, true⟩)] := (mul05 a a ha ha).alias
theorem addsq05 (a : Nat) (ha : a < fp) : Meets Tryd.prog 21 [.sl 500 0 (dl a) 1, .sl 500 0 (dl a) 1] [(500, some ⟨.aggI (dg a), 3, false⟩)] (.sl 1000 0 (dl ((a + a) % fp)) 1) [(1000, some ⟨.aggI (dg ((a + a) % fp)), 3, true⟩)] := (add05 a a ha ha).alias
theorem subsq05 (a : Nat) (ha : a < fp) : Meets Tryd.prog 23 [.sl 500 0 (dl a) 1, .sl 500 0 (dl a) 1] [(500, some ⟨.aggI (dg a), 3, false⟩)] (.sl 1000 0 (dl ((a + (fp - a)) % fp)) 1) [(1000, some ⟨.aggI (dg ((a + (fp - a)) % fp)), 3, true⟩)] := (sub05 a a ha ha).alias
/-! Powers. -/
theorem fp_pos' : 0 < fp := by decide
theorem bit_of (n i : Nat) : dk n (i / 16) / 2 ^ (i % 16) % 2 = n / 2 ^ i % 2 := by
  unfold dk
  have e : n / 2 ^ i = n / 65536 ^ (i / 16) / 2 ^ (i % 16) := by
    rw [Nat.div_div_eq_div_mul, show (65536 : Nat) = 2 ^ 16 from rfl, ← Nat.pow_mul, ← Nat.pow_add, Nat.div_add_mod]
  rw [e]
  generalize n / 65536 ^ (i / 16) = x
  have h : i % 16 < 16 := Nat.mod_lt _ (by decide)
  generalize i % 16 = m at *
  have e2 : x = x % 65536 + 2 ^ m * (2 * (2 ^ (15 - m) * (x / 65536))) := by
    have : 2 ^ m * (2 * (2 ^ (15 - m) * (x / 65536))) = 65536 * (x / 65536) := by
      rw [← Nat.mul_assoc 2, ← Nat.pow_succ', ← Nat.mul_assoc, ← Nat.pow_add, show m + (15 - m).succ = 16 by omega]
    rw [this]; omega
  conv => rhs; rw [e2, Nat.add_mul_div_left _ _ (Nat.pow_pos (by decide)), Nat.add_mul_mod_self_left]
def pwF (a n k : Nat) : Nat := a ^ (n / 2 ^ k) % fp
theorem pw_zero (a n : Nat) : pwF a n 0 = a ^ n % fp := by unfold pwF; simp
theorem pw_top (a n k : Nat) (h : n < 2 ^ k) : pwF a n k = 1 := by
  unfold pwF; rw [Nat.div_eq_of_lt h, Nat.pow_zero]; decide
theorem pw_half (n k : Nat) : n / 2 ^ k = 2 * (n / 2 ^ (k + 1)) + n / 2 ^ k % 2 := by
  rw [Nat.pow_succ, ← Nat.div_div_eq_div_mul]; omega
theorem pw_even (a n k : Nat) (h : n / 2 ^ k % 2 ≠ 1) : pwF a n (k + 1) * pwF a n (k + 1) % fp = pwF a n k := by
  unfold pwF
  conv => rhs; rw [pw_half n k, show n / 2 ^ k % 2 = 0 by omega, Nat.add_zero, Nat.mul_comm 2, Nat.pow_mul, Nat.pow_two]
  rw [← Nat.mul_mod]
theorem pw_odd (a n k : Nat) (h : n / 2 ^ k % 2 = 1) : pwF a n (k + 1) * pwF a n (k + 1) % fp * a % fp = pwF a n k := by
  unfold pwF
  conv => rhs; rw [pw_half n k, h, Nat.pow_succ, Nat.mul_comm 2, Nat.pow_mul, Nat.pow_two]
  rw [← Nat.mul_mod, Nat.mod_mul_mod]
theorem pw_lt (a n k : Nat) : pwF a n k < fp := Nat.mod_lt _ fp_pos'
theorem shr_bit (x m : Nat) : ((x : Nat) : Int) / 2 ^ m % 2 = ((x / 2 ^ m % 2 : Nat) : Int) := by simp
theorem bits_lt (n : Nat) : n < 2 ^ (16 * dl n) := by
  have := dl_lt n
  rw [show (65536 : Nat) = 2 ^ 16 from rfl, ← Nat.pow_mul] at this; exact this
end Go.Proofs.YtgblhjmnenmlkaaDoor
namespace Go.Proofs.YtgblhjmnenmlkaaDoor
open Go.RowKit
theorem ff_eq : ofV (List.replicate 32 255) = 18 := by decide +kernel
theorem rep_ff (j : Nat) : List.replicate j (255 : UInt8) ++ [255] = List.replicate (j + 1) 255 := (List.replicate_succ' ..).symm
theorem ring_dist (a b c p : Nat) : a * ((b + c) % p) % p = (a * b % p + a * c % p) % p := by simp [Nat.mul_add]
theorem ring_assoc (a b c p : Nat) : (a * b % p) * c % p = a * (b * c % p) % p := by simp [Nat.mul_assoc]
theorem ring_comm (a b p : Nat) : a * b % p = b * a % p := by rw [Nat.mul_comm]
theorem ring_back (a b p : Nat) (ha : a < p) (hb : b < p) : ((a + (p - b)) % p + b) % p = a := by
  rw [Nat.mod_add_mod, show a + (p - b) + b = a + p by omega, Nat.add_mod_right, Nat.mod_eq_of_lt ha]
theorem ring_turn (a b c p : Nat) : ((a + b) % p + c) % p = ((c + b) % p + a) % p := by
  rw [Nat.mod_add_mod, Nat.mod_add_mod, show a + b + c = c + b + a by omega]
theorem ring_one (a p : Nat) (ha : a < p) : a * 1 % p = a := by rw [Nat.mul_one, Nat.mod_eq_of_lt ha]
theorem ring_zero (a p : Nat) (ha : a < p) : (a + (p - a)) % p = 0 := by rw [show a + (p - a) = p by omega, Nat.mod_self]
set_option maxRecDepth 100000 in
theorem awake5_ev  : Meets Tryd.prog 17 [] [] (.bool true) [] := by
  refine meets_of_ev (nt := 26) Tryd.func17 rfl rfl (Nat.le_of_ble_eq_true rfl) ?_
  refine .seq ?_
  refine .region ?_
  refine .q (op_assign rfl) trivial rfl ?_
  refine .nil ?_
  show Ev _ _ _ _ _
  refine .seq ?_
  refine .region ?_
  refine .q (op_assign rfl) trivial rfl ?_
  refine .nil ?_
  show Ev _ _ _ _ _
  refine .seq ?_
  refine .seq ?_
  refine .region ?_
  refine .q (op_move rfl) trivial rfl ?_
  refine .nil ?_
  show Ev _ _ _ _ _
  refine .block ?_
  refine Ev.loop (ι := { j : Nat // j ≤ 32 }) (fun j => ⟨[(0, .bool false), (1, .str (List.replicate j.1 255)), (3, .i64 ((j.1 : Nat) : Int))], [], 1000⟩) (fun j => 32 - j.1) ⟨0, Nat.zero_le _⟩ (StLe.mk [] rfl rfl ⟨⟨_, rfl, by first | rfl | (simp only [AV.ren]; congr 1; omega), rfl⟩, ⟨_, rfl, by first | rfl | (simp only [AV.ren]; congr 1; omega), rfl⟩, ⟨_, rfl, by first | rfl | (simp only [AV.ren]; congr 1; omega), rfl⟩, trivial⟩ trivial) ?_
  rintro ⟨j, hj⟩
  dsimp only
  have hlr : (List.replicate j (255 : UInt8)).length = j := List.length_replicate
  refine .seq ?_
  refine .region ?_
  refine .q (op_cmpI rfl rfl rfl) trivial rfl ?_
  refine .nil ?_
  show Ev _ _ _ _ _
  refine .seq ?_
  refine .cond rfl (fun hc4 => ?_) (fun hc4 => ?_)
  · first | replace hc4 := of_decide_eq_true hc4 | replace hc4 := of_decide_eq_false hc4 | replace hc4 := eq_of_beq hc4 | replace hc4 := ne_of_beq_false hc4 | simp only [bne_iff_ne, ne_eq] at hc4 | simp only [bne_eq_false_iff_eq] at hc4
    refine .skip ?_
    show Ev _ _ _ _ _
    refine .seq ?_
    refine .block ?_
    refine .region ?_
    refine .q (op_move rfl) trivial rfl ?_
    refine .q (op_addS rfl rfl (by rw [hlr]; simp; omega)) trivial rfl ?_
    refine .q (op_assign rfl) trivial rfl ?_
    refine .nil ?_
    show Ev _ _ _ _ _
    refine .region ?_
    refine .q (op_addI rfl rfl ⟨by first | omega | (simp only [AV.len]; omega) | (simp only [AV.len, List.length_set]; omega) | assumption | (simp [AV.len]; done), by first | omega | (simp only [AV.len]; omega) | (simp only [AV.len, List.length_set]; omega) | assumption | (simp [AV.len]; done)⟩) trivial rfl ?_
    refine .q (op_move rfl) trivial rfl ?_
    refine .nil ?_
    exact ⟨⟨j + 1, by omega⟩, by show 32 - (j + 1) < 32 - j; omega, StLe.mk [] rfl rfl ⟨⟨_, rfl, by first | rfl | (simp only [AV.ren]; congr 1; omega), rfl⟩, ⟨_, rfl, by (simp only [AV.ren]; rw [← rep_ff]), rfl⟩, ⟨_, rfl, by first | rfl | (simp only [AV.ren]; congr 1; omega), rfl⟩, trivial⟩ trivial⟩
  · first | replace hc4 := of_decide_eq_true hc4 | replace hc4 := of_decide_eq_false hc4 | replace hc4 := eq_of_beq hc4 | replace hc4 := ne_of_beq_false hc4 | simp only [bne_iff_ne, ne_eq] at hc4 | simp only [bne_eq_false_iff_eq] at hc4
    refine .exit ?_
    show Ev _ _ _ _ _
    have ej : j = 32 := by omega
    refine Ev.weak (st2 := ⟨[(0, .bool false), (1, .str (List.replicate (32) 255)), (3, .i64 (((32) : Nat) : Int))], [], 1000⟩) (StLe.mk [] rfl rfl ⟨⟨_, rfl, by first | (simp only [AV.ren]; done) | (simp only [AV.ren]; rw [ej]; done) | rfl, rfl⟩, ⟨_, rfl, by first | (simp only [AV.ren]; done) | (simp only [AV.ren]; rw [ej]; done) | rfl, rfl⟩, ⟨_, rfl, by first | (simp only [AV.ren]; done) | (simp only [AV.ren]; rw [ej]; done) | rfl, rfl⟩, trivial⟩ trivial) ?_
    refine .seq ?_
    refine .region ?_
    refine .q (op_move rfl) trivial rfl ?_
    refine .q (op_call (U := []) [] [] (fof_ev (List.replicate 32 255) (by simp)) Tryd.func18 (by kernel_rfl) rfl rfl rfl (⟨⟨_, rfl, rfl, rfl⟩, trivial⟩) (trivial) (trivial) (trivial) rfl) trivial rfl ?_
    refine .as (.agg64 (fl 18)) (congrArg (fun x => AV.agg64 (fl x)) ff_eq) ?_
    refine .q (op_call (U := []) [] [] (fbytes_ev _) Tryd.func66 (by kernel_rfl) rfl rfl rfl (⟨⟨_, rfl, rfl, rfl⟩, trivial⟩) (trivial) (trivial) (trivial) rfl) trivial rfl ?_
    refine .as (.aggB (bsN 18 32)) rfl ?_
    refine .a (op_allocRow zero22 rel_zero22 rfl) trivial rfl ?_
    refine .w (op_storeRow sz22 rfl rfl rfl rfl rfl (by first | rfl | simp [AV.len, length_bsN]) (by first | rfl | simp [AV.len, length_bsN])) trivial rfl ?_
    refine .nil ?_
    show Ev _ _ _ _ _
    refine .seq ?_
    refine .region ?_
    refine .q (op_loadRow Tryd.underlying22 rfl sz22 rfl rfl rfl (length_bsN 18 32)) trivial rfl ?_
    refine .q (op_buildArr (us := [(0, _)]) Tryd.underlying22 inf5.sz zero22 rel_zero22 rfl (by decide) ⟨rfl, rfl, rfl, trivial⟩ rfl) trivial rfl ?_
    refine .as (.aggB (bsN 18 32)) rfl ?_
    refine .q (op_eqRow8 (n := 32) (by kernel_rfl) Tryd.underlying22 Tryd.underlying5 inf5.sz rfl rfl (length_bsN 18 32) (length_bsN 18 32)) trivial rfl ?_
    refine .q (op_move rfl) trivial rfl ?_
    refine .know (b' := true) (by simp) ?_
    refine .q (op_call (U := []) [] [] (fsmall_ev _) Tryd.func67 (by kernel_rfl) rfl rfl rfl (⟨⟨_, rfl, rfl, rfl⟩, trivial⟩) (trivial) (trivial) (trivial) rfl) ⟨_, rfl, rfl⟩ rfl ?_
    refine .as (.agg64 (fl 6)) rfl ?_
    refine .q (op_call (U := []) [] [] (fsmall_ev _) Tryd.func67 (by kernel_rfl) rfl rfl rfl (⟨⟨_, rfl, rfl, rfl⟩, trivial⟩) (trivial) (trivial) (trivial) rfl) ⟨_, rfl, rfl⟩ rfl ?_
    refine .as (.agg64 (fl 2)) rfl ?_
    refine .q (op_call (U := []) [] [] (fsmall_ev _) Tryd.func67 (by kernel_rfl) rfl rfl rfl (⟨⟨_, rfl, rfl, rfl⟩, trivial⟩) (trivial) (trivial) (trivial) rfl) ⟨_, rfl, rfl⟩ rfl ?_
    refine .as (.agg64 (fl 3)) rfl ?_
    refine .q (op_call (U := []) [] [] (fmul_ev _ _ (by first | assumption | exact fmod_lt _ | exact ofV_lt _ | exact fp_pos | decide) (by first | assumption | exact fmod_lt _ | exact ofV_lt _ | exact fp_pos | decide)) Tryd.func24 (by kernel_rfl) rfl rfl rfl (⟨⟨_, rfl, rfl, rfl⟩, ⟨_, rfl, rfl, rfl⟩, trivial⟩) (trivial) (trivial) (trivial) rfl) ⟨_, rfl, rfl⟩ rfl ?_
    refine .as (.agg64 (fl 6)) rfl ?_
    refine .q (op_call (U := []) [] [] (fsame_ev _ _ (by first | assumption | exact fmod_lt _ | exact ofV_lt _ | exact fp_pos | decide) (by first | assumption | exact fmod_lt _ | exact ofV_lt _ | exact fp_pos | decide)) Tryd.func29 (by kernel_rfl) rfl rfl rfl (⟨⟨_, rfl, rfl, rfl⟩, ⟨_, rfl, rfl, rfl⟩, trivial⟩) (trivial) (trivial) (trivial) rfl) ⟨_, rfl, rfl⟩ rfl ?_
    refine .q (op_pick_true rfl rfl rfl) trivial rfl ?_
    refine .q (op_move rfl) trivial rfl ?_
    refine .know (b' := true) (by decide) ?_
    refine .q (op_call (U := []) [] [] (fsmall_ev _) Tryd.func67 (by kernel_rfl) rfl rfl rfl (⟨⟨_, rfl, rfl, rfl⟩, trivial⟩) (trivial) (trivial) (trivial) rfl) ⟨_, rfl, rfl⟩ rfl ?_
    refine .as (.agg64 (fl 1)) rfl ?_
    refine .q (op_call (U := []) [] [] (fzero_ev _ (by first | assumption | exact fmod_lt _ | exact ofV_lt _ | exact fp_pos | decide)) Tryd.func68 (by kernel_rfl) rfl rfl rfl (⟨⟨_, rfl, rfl, rfl⟩, trivial⟩) (trivial) (trivial) (trivial) rfl) ⟨_, rfl, rfl⟩ rfl ?_
    refine .q (op_notB rfl) ⟨_, rfl, rfl⟩ rfl ?_
    refine .q (op_pick_true rfl rfl rfl) trivial rfl ?_
    refine .q (op_assign rfl) trivial rfl ?_
    refine .nil ?_
    show Ev _ _ _ _ _
    refine .ret ?_
    show RetOk _ _ _ _ _ _ _
    exact ret1v rfl (.inl rfl) rfl rfl trivial
end Go.Proofs.YtgblhjmnenmlkaaDoor
namespace Go.Proofs.YtgblhjmnenmlkaaDoor
open Go.RowKit
theorem of05_as (s : List UInt8) (a : Nat) (h : ofV s = a) (hm : s.length ≤ 1000000) : Meets Tryd.prog 19 [.str s] [] (.sl 1000 0 (dl a) 1) [(1000, some ⟨.aggI (dg a), 3, true⟩)] := h ▸ of05 s hm
theorem same_cmp (a b : Nat) : (decide (a = b) == decide (cmpN a b = 0)) = true := by
  unfold cmpN
  by_cases h : a < b
  · rw [if_pos h, decide_eq_false (by omega)]; rfl
  · rw [if_neg h]
    by_cases h2 : b < a
    · rw [if_pos h2, decide_eq_false (by omega)]; rfl
    · rw [if_neg h2, decide_eq_true (by omega)]; rfl
set_option maxRecDepth 100000 in
theorem is_ev (a : Nat) : Meets Tryd.prog 28 [.agg64 (fl a), .sl 500 0 (dl a) 1] [(500, some ⟨.aggI (dg a), 3, false⟩)] (.bool true) [] := by
  refine meets_of_ev (nt := 13) Tryd.func28 rfl rfl (Nat.le_of_ble_eq_true rfl) ?_
  refine .seq ?_
  refine .region ?_
  refine .a (op_boxRow rfl rfl) trivial rfl ?_
  refine .q (op_assign rfl) trivial rfl ?_
  refine .nil ?_
  show Ev _ _ _ _ _
  refine .seq ?_
  refine .region ?_
  refine .q (op_loadRow Tryd.underlying47 rfl sz47 rfl rfl rfl (rfl)) trivial rfl ?_
  refine .q (op_call (U := []) [] [] (fbytes_ev a) Tryd.func66 (by kernel_rfl) rfl rfl rfl (⟨⟨_, rfl, rfl, rfl⟩, trivial⟩) (trivial) (trivial) (trivial) rfl) trivial rfl ?_
  refine .as (.aggB (bsN a 32)) rfl ?_
  refine .a (op_allocRow zero22 rel_zero22 rfl) trivial rfl ?_
  refine .w (op_storeRow sz22 rfl rfl rfl rfl rfl (by simp [AV.len, length_bsN]) (by simp [AV.len])) trivial rfl ?_
  refine .nil ?_
  show Ev _ _ _ _ _
  refine .seq ?_
  refine .drawn [[], [0], [], [2], [0, 1, 2, 3], [0, 1, 2, 3, 4]] [0, 1, 3] [] (by kernel_rfl) (by kernel_rfl) rfl ?_
  show DK _ [0, 1, 2, 3, 4, 5] _ _ _
  refine .q rfl (ap_slice_arr_hi Tryd.underlying22 inf5.sz rfl rfl (by first | omega | (simp [AV.len, length_bsN]; done)) (by decide) rfl (by first | omega | (simp [AV.len, length_bsN]; done))) trivial ?_
  refine .q rfl (op_bytes_str Tryd.underlying23 Tryd.underlying5 Tryd.underlying9 rfl rfl rfl (by simp [length_bsN])) trivial ?_
  refine .as (.str (bsN a 32)) (by rw [List.drop_zero, List.take_of_length_le (by simp [length_bsN])]) ?_
  refine .q rfl (op_move rfl) trivial ?_
  refine .q rfl (op_call (U := []) [(500, 500)] [] (bytes05 a) Tryd.func77 (by kernel_rfl) rfl rfl rfl (⟨⟨_, rfl, rfl, rfl⟩, trivial⟩) (⟨⟨_, _, rfl, rfl, rfl, rfl, (fun h => by cases h), rfl⟩, trivial⟩) (trivial) (⟨(fun h => by cases h), trivial⟩) rfl) trivial ?_
  refine .q rfl (op_eqS rfl rfl rfl) trivial ?_
  refine .q rfl (op_assign rfl) trivial ?_
  refine .nil ?_
  show Ev _ _ _ _ _
  refine .ret ?_
  show RetOk _ _ _ _ _ _ _
  exact ret1v rfl (.inl rfl) rfl (by simp) trivial
end Go.Proofs.YtgblhjmnenmlkaaDoor
