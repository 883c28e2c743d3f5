/-
  Texts of this claim.
-/
import Derived.DeepKeys4
import Derived.Test.YticickigndgpcaaDoorGSE
import Derived.Test.YticickigndgpcaaDoorGSP
import Derived.Test.YticickigndgpcaaDoorGSK
namespace Go.Proofs.YticickigndgpcaaDoor
open Go.RowKit
/-- A byte of a name. -/
def nameB (c : UInt8) : Bool := (decide (97 ≤ c) && decide (c ≤ 122)) || (decide (48 ≤ c) && decide (c ≤ 57)) || c == 45
/-- A name that may be. -/
def nameN (s : List UInt8) : Bool := decide (0 < s.length ∧ s.length ≤ 63) && s.all nameB && s.getD 0 0 != 45 && s.getD (s.length - 1) 0 != 45
set_option maxRecDepth 100000 in
theorem nameB_ev (c : UInt8) : Meets Tryd.prog 30 [.u8 c] [] (.bool (nameB c)) [] := by
 refine meets_of_ev (nt := 21) Tryd.func30 rfl rfl (Nat.le_of_ble_eq_true rfl) ?_
 refine .seq ?_
 refine .region ?_
 refine .q (op_assign rfl) trivial rfl ?_
 refine .nil ?_
 show Ev _ _ _ _ _
 refine .seq ?_
 refine .region ?_
 refine .q (op_move rfl) trivial rfl ?_
 refine .q (op_bin8 rfl rfl rfl) trivial rfl ?_
 refine .q (op_move rfl) trivial rfl ?_
 refine .split (fun hg5 => ?_) (fun hg5 => ?_)
 ·skip
  refine .q (op_move rfl) ⟨_, rfl, rfl⟩ rfl ?_
  refine .q (op_bin8 rfl rfl rfl) ⟨_, rfl, rfl⟩ rfl ?_
  refine .q (op_pick_true rfl rfl rfl) trivial rfl ?_
  refine .q (op_move rfl) trivial rfl ?_
  refine .split (fun hg9 => ?_) (fun hg9 => ?_)
  ·skip
   refine .no ⟨_, rfl, rfl⟩ rfl ?_
   refine .no ⟨_, rfl, rfl⟩ rfl ?_
   refine .no ⟨_, rfl, rfl⟩ rfl ?_
   refine .noU ⟨_, rfl, rfl⟩ rfl ?_
   refine .noU ⟨_, rfl, rfl⟩ rfl ?_
   refine .no ⟨_, rfl, rfl⟩ rfl ?_
   refine .q (op_pick_true rfl rfl rfl) trivial rfl ?_
   refine .q (op_move rfl) trivial rfl ?_
   refine .no ⟨_, rfl, rfl⟩ rfl ?_
   refine .no ⟨_, rfl, rfl⟩ rfl ?_
   refine .q (op_pick_true rfl rfl rfl) trivial rfl ?_
   refine .q (op_assign rfl) trivial rfl ?_
   refine .nil ?_
   show Ev _ _ _ _ _
   refine .ret ?_
   show RetOk _ _ _ _ _ _ _
   exact ret1v rfl (.inl rfl) rfl (congrArg AV.bool (by unfold nameB; first | (simp_all; done) | (simp_all [UInt8.le_iff_toNat_le, UInt8.lt_iff_toNat_lt]; omega))) trivial
  ·skip
   refine .q (op_move rfl) ⟨_, rfl, rfl⟩ rfl ?_
   refine .q (op_bin8 rfl rfl rfl) ⟨_, rfl, rfl⟩ rfl ?_
   refine .q (op_move rfl) ⟨_, rfl, rfl⟩ rfl ?_
   refine .split (fun hg12 => ?_) (fun hg12 => ?_)
   ·skip
    refine .q (op_move rfl) ⟨_, rfl, rfl⟩ rfl ?_
    refine .q (op_bin8 rfl rfl rfl) ⟨_, rfl, rfl⟩ rfl ?_
    refine .q (op_pick_true rfl rfl rfl) ⟨_, rfl, rfl⟩ rfl ?_
    refine .q (op_pick_false rfl rfl rfl) trivial rfl ?_
    refine .q (op_move rfl) trivial rfl ?_
    refine .split (fun hg17 => ?_) (fun hg17 => ?_)
    ·skip
     refine .no ⟨_, rfl, rfl⟩ rfl ?_
     refine .no ⟨_, rfl, rfl⟩ rfl ?_
     refine .q (op_pick_true rfl rfl rfl) trivial rfl ?_
     refine .q (op_assign rfl) trivial rfl ?_
     refine .nil ?_
     show Ev _ _ _ _ _
     refine .ret ?_
     show RetOk _ _ _ _ _ _ _
     exact ret1v rfl (.inl rfl) rfl (congrArg AV.bool (by unfold nameB; first | (simp_all; done) | (simp_all [UInt8.le_iff_toNat_le, UInt8.lt_iff_toNat_lt]; omega))) trivial
    ·skip
     refine .q (op_move rfl) ⟨_, rfl, rfl⟩ rfl ?_
     refine .q (op_bin8 rfl rfl rfl) ⟨_, rfl, rfl⟩ rfl ?_
     refine .q (op_pick_false rfl rfl rfl) trivial rfl ?_
     refine .q (op_assign rfl) trivial rfl ?_
     refine .nil ?_
     show Ev _ _ _ _ _
     refine .ret ?_
     show RetOk _ _ _ _ _ _ _
     exact ret1v rfl (.inl rfl) rfl (congrArg AV.bool (by unfold nameB; first | (simp_all; done) | (simp_all [UInt8.le_iff_toNat_le, UInt8.lt_iff_toNat_lt]; omega))) trivial
   ·skip
    refine .no ⟨_, rfl, rfl⟩ rfl ?_
    refine .no ⟨_, rfl, rfl⟩ rfl ?_
    refine .q (op_pick_false rfl rfl rfl) ⟨_, rfl, rfl⟩ rfl ?_
    refine .q (op_pick_false rfl rfl rfl) trivial rfl ?_
    refine .q (op_move rfl) trivial rfl ?_
    refine .q (op_move rfl) ⟨_, rfl, rfl⟩ rfl ?_
    refine .q (op_bin8 rfl rfl rfl) ⟨_, rfl, rfl⟩ rfl ?_
    refine .q (op_pick_false rfl rfl rfl) trivial rfl ?_
    refine .q (op_assign rfl) trivial rfl ?_
    refine .nil ?_
    show Ev _ _ _ _ _
    refine .ret ?_
    show RetOk _ _ _ _ _ _ _
    exact ret1v rfl (.inl rfl) rfl (congrArg AV.bool (by unfold nameB; first | (simp_all; done) | (simp_all [UInt8.le_iff_toNat_le, UInt8.lt_iff_toNat_lt]; omega))) trivial
 ·skip
  refine .no ⟨_, rfl, rfl⟩ rfl ?_
  refine .no ⟨_, rfl, rfl⟩ rfl ?_
  refine .q (op_pick_false rfl rfl rfl) trivial rfl ?_
  refine .q (op_move rfl) trivial rfl ?_
  refine .q (op_move rfl) ⟨_, rfl, rfl⟩ rfl ?_
  refine .q (op_bin8 rfl rfl rfl) ⟨_, rfl, rfl⟩ rfl ?_
  refine .q (op_move rfl) ⟨_, rfl, rfl⟩ rfl ?_
  refine .split (fun hg12 => ?_) (fun hg12 => ?_)
  ·skip
   refine .q (op_move rfl) ⟨_, rfl, rfl⟩ rfl ?_
   refine .q (op_bin8 rfl rfl rfl) ⟨_, rfl, rfl⟩ rfl ?_
   refine .q (op_pick_true rfl rfl rfl) ⟨_, rfl, rfl⟩ rfl ?_
   refine .q (op_pick_false rfl rfl rfl) trivial rfl ?_
   refine .q (op_move rfl) trivial rfl ?_
   refine .split (fun hg17 => ?_) (fun hg17 => ?_)
   ·skip
    refine .no ⟨_, rfl, rfl⟩ rfl ?_
    refine .no ⟨_, rfl, rfl⟩ rfl ?_
    refine .q (op_pick_true rfl rfl rfl) trivial rfl ?_
    refine .q (op_assign rfl) trivial rfl ?_
    refine .nil ?_
    show Ev _ _ _ _ _
    refine .ret ?_
    show RetOk _ _ _ _ _ _ _
    exact ret1v rfl (.inl rfl) rfl (congrArg AV.bool (by unfold nameB; first | (simp_all; done) | (simp_all [UInt8.le_iff_toNat_le, UInt8.lt_iff_toNat_lt]; omega))) trivial
   ·skip
    refine .q (op_move rfl) ⟨_, rfl, rfl⟩ rfl ?_
    refine .q (op_bin8 rfl rfl rfl) ⟨_, rfl, rfl⟩ rfl ?_
    refine .q (op_pick_false rfl rfl rfl) trivial rfl ?_
    refine .q (op_assign rfl) trivial rfl ?_
    refine .nil ?_
    show Ev _ _ _ _ _
    refine .ret ?_
    show RetOk _ _ _ _ _ _ _
    exact ret1v rfl (.inl rfl) rfl (congrArg AV.bool (by unfold nameB; first | (simp_all; done) | (simp_all [UInt8.le_iff_toNat_le, UInt8.lt_iff_toNat_lt]; omega))) trivial
  ·skip
   refine .no ⟨_, rfl, rfl⟩ rfl ?_
   refine .no ⟨_, rfl, rfl⟩ rfl ?_
   refine .q (op_pick_false rfl rfl rfl) ⟨_, rfl, rfl⟩ rfl ?_
   refine .q (op_pick_false rfl rfl rfl) trivial rfl ?_
   refine .q (op_move rfl) trivial rfl ?_
   refine .q (op_move rfl) ⟨_, rfl, rfl⟩ rfl ?_
   refine .q (op_bin8 rfl rfl rfl) ⟨_, rfl, rfl⟩ rfl ?_
   refine .q (op_pick_false rfl rfl rfl) trivial rfl ?_
   refine .q (op_assign rfl) trivial rfl ?_
   refine .nil ?_
   show Ev _ _ _ _ _
   refine .ret ?_
   show RetOk _ _ _ _ _ _ _
   exact ret1v rfl (.inl rfl) rfl (congrArg AV.bool (by unfold nameB; first | (simp_all; done) | (simp_all [UInt8.le_iff_toNat_le, UInt8.lt_iff_toNat_lt]; omega))) trivial
theorem all_take {s : List UInt8} {j : Nat} (hj : j < s.length) : (s.take (j + 1)).all nameB = ((s.take j).all nameB && nameB (s.getD j 0)) := by
 rw [List.take_succ_eq_append_getElem hj, List.all_append]; simp [List.getD_eq_getElem?_getD, hj]
theorem all_no {s : List UInt8} {j : Nat} (hj : j < s.length) (h : nameB (s.getD j 0) = false) : s.all nameB = false := by
 rw [List.all_eq_false]
 exact ⟨s[j], List.getElem_mem hj, by rw [List.getD_eq_getElem?_getD, List.getElem?_eq_getElem hj] at h; simpa using h⟩
theorem name_nil {s : List UInt8} (h : (s == (⟨#[]⟩ : ByteArray).data.toList) = true) : false = nameN s := by
 have : s = [] := by simpa using h
 subst this; rfl
theorem name_long {s : List UInt8} (h : decide (63 < (s.length : Int)) = true) : false = nameN s := by
 have := of_decide_eq_true h
 unfold nameN
 rw [decide_eq_false (show ¬ (0 < s.length ∧ s.length ≤ 63) by omega)]; rfl
theorem name_bad {s : List UInt8} {i : Nat} (hi : i < s.length) (h : (!nameB (s.getD i 0)) = true) : false = nameN s := by
 unfold nameN
 rw [all_no hi (by simpa using h)]; simp
theorem name_end {s : List UInt8} {i : Nat} {b : Bool} (h1 : (s == (⟨#[]⟩ : ByteArray).data.toList) = false) (h2 : decide (63 < (s.length : Int)) = false) (hi : i ≤ s.length) (hn : ¬ (i : Int) < (s.length : Int)) (ha : (s.take i).all nameB = true) (hb : b = (s.getD 0 0 != 45 && s.getD (s.length - 1) 0 != 45)) : b = nameN s := by
 have h3 := of_decide_eq_false h2
 have h4 : s ≠ [] := by simpa using h1
 have h5 := List.length_pos_iff.2 h4
 rw [show i = s.length by omega, List.take_length] at ha
 unfold nameN
 rw [decide_eq_true (show 0 < s.length ∧ s.length ≤ 63 by omega), ha, hb]; rfl
set_option maxRecDepth 100000 in
theorem nameN_ev (s : List UInt8) (hl : s.length ≤ 9223372036854775000) : Meets Tryd.prog 9 [.str s] [] (.bool (nameN s)) [] := by
 refine meets_of_ev (nt := 33) Tryd.func9 rfl rfl (Nat.le_of_ble_eq_true rfl) ?_
 refine .seq ?_
 refine .region ?_
 refine .q (op_assign rfl) trivial rfl ?_
 refine .nil ?_
 show Ev _ _ _ _ _
 refine .seq ?_
 refine .seq ?_
 refine .region ?_
 refine .q (op_move rfl) trivial rfl ?_
 refine .q (op_eqS rfl rfl rfl) trivial rfl ?_
 refine .q (op_move rfl) trivial rfl ?_
 refine .split (fun hg6 => ?_) (fun hg6 => ?_)
 ·skip
  refine .no ⟨_, rfl, rfl⟩ rfl ?_
  refine .no ⟨_, rfl, rfl⟩ rfl ?_
  refine .no ⟨_, rfl, rfl⟩ rfl ?_
  refine .q (op_pick_true rfl rfl rfl) trivial rfl ?_
  refine .nil ?_
  show Ev _ _ _ _ _
  refine .cond_true rfl rfl ?_
  refine .seq ?_
  refine .region ?_
  refine .q (op_assign rfl) trivial rfl ?_
  refine .nil ?_
  show Ev _ _ _ _ _
  refine .ret ?_
  show RetOk _ _ _ _ _ _ _
  exact ret1v rfl (.inl rfl) rfl (congrArg AV.bool (by first | exact name_nil hg6 | exact name_long hc10 | exact name_bad (by omega) hc20 | exact name_end hg6 hc10 hi hc14 ha (by rw [hg25]; rfl) | exact name_end hg6 hc10 hi hc14 ha (by have h := hg25; simp at h; simp [h]))) trivial
 ·skip
  refine .q (op_move rfl) ⟨_, rfl, rfl⟩ rfl ?_
  refine .q (op_len_str Tryd.underlying9 rfl) ⟨_, rfl, rfl⟩ rfl ?_
  refine .q (op_cmpI rfl rfl rfl) ⟨_, rfl, rfl⟩ rfl ?_
  refine .q (op_pick_false rfl rfl rfl) trivial rfl ?_
  refine .nil ?_
  show Ev _ _ _ _ _
  refine .cond rfl (fun hc10 => ?_) (fun hc10 => ?_)
  ·skip
   refine .seq ?_
   refine .region ?_
   refine .q (op_assign rfl) trivial rfl ?_
   refine .nil ?_
   show Ev _ _ _ _ _
   refine .ret ?_
   show RetOk _ _ _ _ _ _ _
   exact ret1v rfl (.inl rfl) rfl (congrArg AV.bool (by first | exact name_nil hg6 | exact name_long hc10 | exact name_bad (by omega) hc20 | exact name_end hg6 hc10 hi hc14 ha (by rw [hg25]; rfl) | exact name_end hg6 hc10 hi hc14 ha (by have h := hg25; simp at h; simp [h]))) trivial
  ·skip
   refine .skip ?_
   show Ev _ _ _ _ _
   refine .seq ?_
   refine .seq ?_
   refine .region ?_
   refine .q (op_move rfl) trivial rfl ?_
   refine .q (op_len_str Tryd.underlying9 rfl) trivial rfl ?_
   refine .q (op_move rfl) trivial rfl ?_
   refine .nil ?_
   show Ev _ _ _ _ _
   refine .block ?_
   refine Ev.loop (ι := { i : Nat // i ≤ s.length ∧ (s.take i).all nameB = true }) (fun q => ⟨[(0, .str s), (12, .i64 ((s.length : Nat) : Int)), (13, .i64 ((q.1 : Nat) : Int))], [], 1000⟩) (fun q => s.length - q.1) ⟨0, Nat.zero_le _, rfl⟩ (StLe.mk [] rfl rfl ⟨⟨_, rfl, by first | rfl | (simp only [AV.ren]; congr 1; omega), rfl⟩, ⟨_, rfl, by first | rfl | (simp only [AV.ren]; congr 1; omega), rfl⟩, ⟨_, rfl, by first | rfl | (simp only [AV.ren]; congr 1; omega), rfl⟩, trivial⟩ trivial) ?_
   rintro ⟨i, hi, ha⟩
   try dsimp only
   refine .seq ?_
   refine .region ?_
   refine .q (op_cmpI rfl rfl rfl) trivial rfl ?_
   refine .nil ?_
   show Ev _ _ _ _ _
   refine .seq ?_
   refine .cond rfl (fun hc14 => ?_) (fun hc14 => ?_)
   ·simp only [decide_eq_true_eq, decide_eq_false_iff_not, beq_iff_eq, bne_iff_ne, ne_eq, beq_eq_false_iff_ne, bne_eq_false_iff_eq] at hc14
    refine .skip ?_
    show Ev _ _ _ _ _
    refine .seq ?_
    refine .block ?_
    refine .seq ?_
    refine .region ?_
    refine .q (op_move rfl) trivial rfl ?_
    refine .q (op_assign rfl) trivial rfl ?_
    refine .nil ?_
    show Ev _ _ _ _ _
    refine .seq ?_
    refine .region ?_
    refine .q (op_move rfl) trivial rfl ?_
    refine .q (op_move rfl) trivial rfl ?_
    refine .q (op_index_str Tryd.underlying9 rfl rfl (i := i) rfl (by omega)) trivial rfl ?_
    refine .q (op_call (U := []) [] [] (nameB_ev (s.getD i 0)) Tryd.func30 (by kernel_rfl) rfl rfl rfl (⟨⟨_, rfl, rfl, rfl⟩, trivial⟩) (trivial) (trivial) (trivial) rfl) trivial rfl ?_
    refine .q (op_notB rfl) trivial rfl ?_
    refine .nil ?_
    show Ev _ _ _ _ _
    refine .cond rfl (fun hc20 => ?_) (fun hc20 => ?_)
    ·skip
     refine .seq ?_
     refine .region ?_
     refine .q (op_assign rfl) trivial rfl ?_
     refine .nil ?_
     show Ev _ _ _ _ _
     refine .ret ?_
     show RetOk _ _ _ _ _ _ _
     exact ret1v rfl (.inl rfl) rfl (congrArg AV.bool (by first | exact name_nil hg6 | exact name_long hc10 | exact name_bad (by omega) hc20 | exact name_end hg6 hc10 hi hc14 ha (by rw [hg25]; rfl) | exact name_end hg6 hc10 hi hc14 ha (by have h := hg25; simp at h; simp [h]))) trivial
    ·skip
     refine .skip ?_
     show Ev _ _ _ _ _
     refine .region ?_
     refine .q (op_addI rfl rfl ⟨by omega, by omega⟩) trivial rfl ?_
     refine .q (op_move rfl) trivial rfl ?_
     refine .nil ?_
     exact ⟨⟨i + 1, by omega, by rw [all_take (show i < s.length by omega), ha]; simpa using hc20⟩, by (try dsimp only); omega, StLe.mk [] rfl rfl ⟨⟨_, rfl, by first | rfl | (simp only [AV.ren]; congr 1; omega), rfl⟩, ⟨_, rfl, by first | rfl | (simp only [AV.ren]; congr 1; omega), rfl⟩, ⟨_, rfl, by first | rfl | (simp only [AV.ren]; congr 1; omega), rfl⟩, trivial⟩ trivial⟩
   ·simp only [decide_eq_true_eq, decide_eq_false_iff_not, beq_iff_eq, bne_iff_ne, ne_eq, beq_eq_false_iff_ne, bne_eq_false_iff_eq] at hc14
    refine .exit ?_
    show Ev _ _ _ _ _
    refine .seq ?_
    refine .region ?_
    refine .q (op_move rfl) trivial rfl ?_
    refine .q (op_index_str Tryd.underlying9 rfl rfl (i := 0) rfl (by (have h6 := hg6; simp at h6; have := List.length_pos_iff.2 h6; omega))) trivial rfl ?_
    refine .q (op_bin8 rfl rfl rfl) trivial rfl ?_
    refine .q (op_move rfl) trivial rfl ?_
    refine .split (fun hg25 => ?_) (fun hg25 => ?_)
    ·skip
     refine .q (op_move rfl) ⟨_, rfl, rfl⟩ rfl ?_
     refine .q (op_move rfl) ⟨_, rfl, rfl⟩ rfl ?_
     refine .q (op_len_str Tryd.underlying9 rfl) ⟨_, rfl, rfl⟩ rfl ?_
     refine .q (op_subI rfl rfl ⟨by omega, by omega⟩) ⟨_, rfl, rfl⟩ rfl ?_
     refine .q (op_index_str Tryd.underlying9 rfl rfl (i := s.length - 1) (by (have h6 := hg6; simp at h6; have := List.length_pos_iff.2 h6; omega)) (by (have h6 := hg6; simp at h6; have := List.length_pos_iff.2 h6; omega))) ⟨_, rfl, rfl⟩ rfl ?_
     refine .q (op_bin8 rfl rfl rfl) ⟨_, rfl, rfl⟩ rfl ?_
     refine .q (op_pick_true rfl rfl rfl) trivial rfl ?_
     refine .q (op_assign rfl) trivial rfl ?_
     refine .nil ?_
     show Ev _ _ _ _ _
     refine .ret ?_
     show RetOk _ _ _ _ _ _ _
     exact ret1v rfl (.inl rfl) rfl (congrArg AV.bool (by first | exact name_nil hg6 | exact name_long hc10 | exact name_bad (by omega) hc20 | exact name_end hg6 hc10 hi hc14 ha (by rw [hg25]; rfl) | exact name_end hg6 hc10 hi hc14 ha (by have h := hg25; simp at h; simp [h]))) trivial
    ·skip
     refine .no ⟨_, rfl, rfl⟩ rfl ?_
     refine .no ⟨_, rfl, rfl⟩ rfl ?_
     refine .no ⟨_, rfl, rfl⟩ rfl ?_
     refine .no ⟨_, rfl, rfl⟩ rfl ?_
     refine .no ⟨_, rfl, rfl⟩ rfl ?_
     refine .no ⟨_, rfl, rfl⟩ rfl ?_
     refine .q (op_pick_false rfl rfl rfl) trivial rfl ?_
     refine .q (op_assign rfl) trivial rfl ?_
     refine .nil ?_
     show Ev _ _ _ _ _
     refine .ret ?_
     show RetOk _ _ _ _ _ _ _
     exact ret1v rfl (.inl rfl) rfl (congrArg AV.bool (by first | exact name_nil hg6 | exact name_long hc10 | exact name_bad (by omega) hc20 | exact name_end hg6 hc10 hi hc14 ha (by rw [hg25]; rfl) | exact name_end hg6 hc10 hi hc14 ha (by have h := hg25; simp at h; simp [h]))) trivial
end Go.Proofs.YticickigndgpcaaDoor
namespace Go.Proofs.YticickigndgpcaaDoor
open Go.RowKit
theorem sz90 : (Tryd.prog.info? 90).map (·.size) = some 4 := by kernel_rfl
theorem zero90 : (Tryd.prog.info? 90).map (·.zero) = some (some (.agg #[.int .i64 0, .int .i64 0, .map none, .map none])) := by kernel_rfl
theorem rel_zero90 : Rel Emb.nil (.agg [.i64 0, .i64 0, .val (.map none), .val (.map none)]) (.agg #[.int .i64 0, .int .i64 0, .map none, .map none]) := rel_agg rfl ⟨.i64 _, .i64 _, .val _, .val _, trivial⟩
theorem sz94 : (Tryd.prog.info? 94).map (·.size) = some 2 := by kernel_rfl
theorem zero94 : (Tryd.prog.info? 94).map (·.zero) = some (some (.agg #[.string ⟨#[]⟩, .slice none 0 0])) := by kernel_rfl
theorem rel_zero94 : Rel Emb.nil (.agg [.str [], .nilsl]) (.agg #[.string ⟨#[]⟩, .slice none 0 0]) := rel_agg rfl ⟨.str _, .nilsl, trivial⟩
theorem laid_outS : laidOutB Tryd.prog = true := by kernel_rfl
/-- The tenant "t". -/
def tnV : Value := .string ⟨#[116]⟩
/-- The key that begins with one. -/
def kyV : Value := .agg (#[.int .u8 1] ++ (Array.replicate 31 (.int .u8 0)))
theorem tn_law : Maps.Keyed Tryd.prog 9 := Maps.string_keyed Tryd.underlying9
theorem ky_law : Maps.Keyed Tryd.prog 60 := Maps.Keyed.of_law (deep_law_laid laid_outS (m := 2) (by omega) (by decide +kernel) (by kernel_rfl) (by rw [Tryd.underlying60]))
theorem tn_is : (keyOf Tryd.prog 9 tnV).isSome = true := by kernel_rfl
theorem ky_is : (keyOf Tryd.prog 60 kyV).isSome = true := by kernel_rfl
set_option maxRecDepth 100000 in
theorem snew_ev (a b : Int) : Meets Tryd.prog 26 [.i64 a, .i64 b] [] (.ptr 1016 0) [(1016, some ⟨.agg [.i64 (min (max a 0) 64), .i64 (min (max b 0) 64), .mp 1000, .mp 1008], 90, true⟩), (1000, some ⟨.mapc [] [] [] 0, 0, true⟩), (1008, some ⟨.mapc [] [] [] 0, 0, true⟩)] := by
 refine meets_of_ev (nt := 15) Tryd.func26 rfl rfl (Nat.le_of_ble_eq_true rfl) ?_
 refine .seq ?_
 refine .region ?_
 refine .q (op_assign rfl) trivial rfl ?_
 refine .nil ?_
 show Ev _ _ _ _ _
 refine .seq ?_
 refine .region ?_
 refine .q (op_move rfl) trivial rfl ?_
 refine .q (op_maxI rfl rfl) trivial rfl ?_
 refine .q (op_minI rfl rfl) trivial rfl ?_
 refine .q (op_move rfl) trivial rfl ?_
 refine .q (op_maxI rfl rfl) trivial rfl ?_
 refine .q (op_minI rfl rfl) trivial rfl ?_
 refine .a (op_makeMap 0 (c := .mapc [] [] [] 0)) trivial rfl ?_
 refine .a (op_makeMap 0 (c := .mapc [] [] [] 0)) trivial rfl ?_
 refine .q (op_buildS (r := .agg _) Tryd.underlying90 rfl zero90 rel_zero90 rfl rfl rfl rfl) trivial rfl ?_
 refine .a (op_boxRow rfl rfl) trivial rfl ?_
 refine .q (op_assign rfl) trivial rfl ?_
 refine .nil ?_
 show Ev _ _ _ _ _
 refine .ret ?_
 show RetOk _ _ _ _ _ _ _
 exact ret1v rfl (.inl rfl) rfl rfl ⟨rfl, rfl, rfl, trivial⟩
theorem ky_val (E : Emb) (y : Value) (h : Rel E (.aggB (1 :: List.replicate 31 0)) y) : y = kyV := by
 obtain ⟨ds, rfl, h2, _, h4⟩ := h.agg_inv (show (AV.aggB (1 :: List.replicate 31 0)).parts = some _ from rfl)
 congr 1
 refine Array.ext (h2.symm.trans rfl) fun i h1 h3 => ?_
 have hi : i < 32 := by simpa using h3
 match i, hi with
 | 0, _ => exact (h4 0 (.u8 1) _ rfl (Array.getElem?_eq_getElem h1)).u8_inv
 | i + 1, hi => 
  have := (h4 (i + 1) (.u8 0) _ (by show ((1 :: List.replicate 31 0).map AV.u8)[i + 1]? = _; rw [List.getElem?_map, List.getElem?_cons_succ, List.getElem?_replicate, if_pos (by omega)]; rfl) (Array.getElem?_eq_getElem h1)).u8_inv
  rw [this]; simp
theorem tn_val (s : List UInt8) (E : Emb) (y : Value) (h : Rel E (.str s) y) : y = .string ⟨s.toArray⟩ := h.str_inv
theorem tk0 : KeysOk Tryd.prog 9 [] (.str [116]) tnV := ⟨tn_law, fun q hq => (by cases hq), tn_is, tn_val [116]⟩
theorem kk0 : KeysOk Tryd.prog 60 [] (.aggB (1 :: List.replicate 31 0)) kyV := ⟨ky_law, fun q hq => (by cases hq), ky_is, ky_val⟩
theorem infKey : Inf Tryd.prog 60 32 (.agg (Array.replicate 32 (.int .u8 0))) := Inf.mk (b := 32) (by kernel_rfl) (by decide) rfl
theorem none_atS {v : Value} (j : Nat) : ([] : List Value)[j]? ≠ some v := by simp
set_option maxRecDepth 100000 in
theorem sadd_ev  : Meets Tryd.prog 27 [.ptr 500 0, .str [116], (.aggB (1 :: List.replicate 31 0))] [(500, some ⟨.agg [.i64 4, .i64 4, .mp 501, .mp 502], 90, true⟩), (501, some ⟨.mapc [] [] [] 0, 0, true⟩), (502, some ⟨.mapc [] [] [] 0, 0, true⟩)] (.val .nilIface) [(500, some ⟨.agg [.i64 4, .i64 4, .mp 501, .mp 502], 90, true⟩), (501, some ⟨.mapc [tnV] [.ptr 1144 0] [0] 1, 0, true⟩), (502, some ⟨.mapc [kyV] [.ptr 1144 0] [0] 1, 0, true⟩), (1144, some ⟨.agg [.str [116], .sl 1288 0 1 32], 94, true⟩), (1288, some ⟨(.aggB (1 :: List.replicate 31 0)), 60, true⟩)] := by
 refine meets_of_ev (nt := 75) Tryd.func27 rfl rfl (Nat.le_of_ble_eq_true rfl) ?_
 refine .seq ?_
 refine .region ?_
 refine .a (op_boxRow rfl rfl) trivial rfl ?_
 refine .q (op_assign rfl) trivial rfl ?_
 refine .nil ?_
 show Ev _ _ _ _ _
 refine .seq ?_
 refine .seq ?_
 refine .region ?_
 refine .q (op_move rfl) trivial rfl ?_
 refine .q (op_call (U := []) [] [] (nameN_ev [116] (by decide)) Tryd.func9 (by kernel_rfl) rfl rfl rfl (⟨⟨_, rfl, rfl, rfl⟩, trivial⟩) (trivial) (trivial) (trivial) rfl) trivial rfl ?_
 refine .q (op_notB rfl) trivial rfl ?_
 refine .nil ?_
 show Ev _ _ _ _ _
 refine .cond_false rfl (rfl) ?_
 refine .skip ?_
 show Ev _ _ _ _ _
 refine .seq ?_
 refine .seq ?_
 refine .drawn [[], [0], [0, 1], [0, 1, 2], [], [0, 1, 2, 3, 4], [0, 1, 2, 3, 4, 5]] [3, 4, 5] [] (by kernel_rfl) (by kernel_rfl) rfl ?_
 show DK _ [0, 1, 2, 3, 4, 5, 6] _ _ _
 refine .q rfl (op_move rfl) trivial ?_
 refine .q rfl (op_nilCheck rfl) trivial ?_
 refine .q rfl (op_fieldAddr (m := 0) Tryd.underlying90 rfl (by kernel_rfl) rfl) trivial ?_
 refine .as (.ptr 500 3) rfl ?_
 refine .q rfl (op_load Tryd.underlying88 rfl rfl rfl rfl (by show 3 < 4; decide)) trivial ?_
 refine .q rfl (op_loadRow Tryd.underlying60 rfl sz60 rfl rfl rfl (by first | omega | (simp only [AV.len]; omega) | (simp only [AV.len, List.length_set]; omega) | assumption | (simp [AV.len]; done))) trivial ?_
 refine .q rfl (op_lookupN1 (v := .val (.pointer none)) kk0 Tryd.underlying88 (by kernel_rfl) (.val _) rfl rfl rfl rfl none_atS) trivial ?_
 refine .q rfl (op_eqNilPtr Tryd.underlying91 rfl rfl rfl) trivial ?_
 refine .nil ?_
 show Ev _ _ _ _ _
 refine .cond_false rfl (rfl) ?_
 refine .skip ?_
 show Ev _ _ _ _ _
 refine .seq ?_
 refine .region ?_
 refine .q (op_move rfl) trivial rfl ?_
 refine .q (op_nilCheck rfl) trivial rfl ?_
 refine .q (op_fieldAddr (m := 0) Tryd.underlying90 rfl (by kernel_rfl) rfl) trivial rfl ?_
 refine .as (.ptr 500 2) rfl ?_
 refine .q (op_load Tryd.underlying87 rfl rfl rfl rfl (by show 2 < 4; decide)) trivial rfl ?_
 refine .q (op_move rfl) trivial rfl ?_
 refine .q (op_lookupN1 (v := .val (.pointer none)) tk0 Tryd.underlying87 (by kernel_rfl) (.val _) rfl rfl rfl rfl none_atS) trivial rfl ?_
 refine .q (op_assign rfl) trivial rfl ?_
 refine .nil ?_
 show Ev _ _ _ _ _
 refine .seq ?_
 refine .seq ?_
 refine .region ?_
 refine .q (op_move rfl) trivial rfl ?_
 refine .q (op_eqNilPtr Tryd.underlying91 rfl rfl rfl) trivial rfl ?_
 refine .nil ?_
 show Ev _ _ _ _ _
 refine .cond_true rfl (rfl) ?_
 refine .seq ?_
 refine .seq ?_
 refine .drawn [[], [0], [0, 1], [0, 1, 2], [0, 1, 2, 3], [], [5], [5, 6], [5, 6, 7], [0, 1, 2, 3, 4, 5, 6, 7, 8]] [3, 4, 8] [] (by kernel_rfl) (by kernel_rfl) rfl ?_
 show DK _ [0, 1, 2, 3, 4, 5, 6, 7, 8, 9] _ _ _
 refine .q rfl (op_move rfl) trivial ?_
 refine .q rfl (op_nilCheck rfl) trivial ?_
 refine .q rfl (op_fieldAddr (m := 0) Tryd.underlying90 rfl (by kernel_rfl) rfl) trivial ?_
 refine .as (.ptr 500 2) rfl ?_
 refine .q rfl (op_load Tryd.underlying87 rfl rfl rfl rfl (by show 2 < 4; decide)) trivial ?_
 refine .q rfl (op_len_map (k := ⟨.mapc [] [] [] 0, 0, true⟩) Tryd.underlying87 rfl rfl rfl) trivial ?_
 refine .q rfl (op_move rfl) trivial ?_
 refine .q rfl (op_nilCheck rfl) trivial ?_
 refine .q rfl (op_fieldAddr (m := 0) Tryd.underlying90 rfl (by kernel_rfl) rfl) trivial ?_
 refine .as (.ptr 500 0) rfl ?_
 refine .q rfl (op_load Tryd.underlying3 rfl rfl rfl rfl (by show 0 < 4; decide)) trivial ?_
 refine .q rfl (op_cmpI rfl rfl rfl) trivial ?_
 refine .nil ?_
 show Ev _ _ _ _ _
 refine .cond_false rfl (rfl) ?_
 refine .skip ?_
 show Ev _ _ _ _ _
 refine .region ?_
 refine .q (op_move rfl) trivial rfl ?_
 refine .q (op_buildS (r := .agg _) Tryd.underlying94 rfl zero94 rel_zero94 rfl rfl rfl rfl) trivial rfl ?_
 refine .a (op_boxRow rfl rfl) trivial rfl ?_
 refine .q (op_assign rfl) trivial rfl ?_
 refine .nil ?_
 show Ev _ _ _ _ _
 refine .seq ?_
 refine .seq ?_
 refine .drawn [[], [0], [0, 1], [0, 1, 2], [0, 1, 2, 3], [], [5], [5, 6], [5, 6, 7], [0, 1, 2, 3, 4, 5, 6, 7, 8]] [3, 8] [] (by kernel_rfl) (by kernel_rfl) rfl ?_
 show DK _ [0, 1, 2, 3, 4, 5, 6, 7, 8, 9] _ _ _
 refine .q rfl (op_move rfl) trivial ?_
 refine .q rfl (op_nilCheck rfl) trivial ?_
 refine .q rfl (op_fieldAddr (m := 0) Tryd.underlying94 rfl (by kernel_rfl) rfl) trivial ?_
 refine .as (.ptr 1144 1) rfl ?_
 refine .q rfl (op_load Tryd.underlying92 rfl rfl rfl rfl (by show 1 < 2; decide)) trivial ?_
 refine .q rfl (op_len_nil Tryd.underlying92 rfl) trivial ?_
 refine .q rfl (op_move rfl) trivial ?_
 refine .q rfl (op_nilCheck rfl) trivial ?_
 refine .q rfl (op_fieldAddr (m := 0) Tryd.underlying90 rfl (by kernel_rfl) rfl) trivial ?_
 refine .as (.ptr 500 1) rfl ?_
 refine .q rfl (op_load Tryd.underlying3 rfl rfl rfl rfl (by show 1 < 4; decide)) trivial ?_
 refine .q rfl (op_cmpI rfl rfl rfl) trivial ?_
 refine .nil ?_
 show Ev _ _ _ _ _
 refine .cond_false rfl (rfl) ?_
 refine .skip ?_
 show Ev _ _ _ _ _
 refine .seq ?_
 refine .drawn [[], [], [1], [1, 2], [1, 2, 3], [], [5], [1, 2, 3, 4, 5, 6], [0, 1, 2, 3, 4, 5, 6, 7], [0, 1, 2, 3, 4, 5, 6, 7, 8], [0, 1, 2, 3, 4, 5, 6, 7, 8, 9]] [4, 5, 6, 7, 10] [7, 10] (by kernel_rfl) (by kernel_rfl) rfl ?_
 show DK _ [0, 1, 2, 3, 4, 5, 6, 7, 8, 9, 10] _ _ _
 refine .q rfl (op_move rfl) trivial ?_
 refine .q rfl (op_move rfl) trivial ?_
 refine .q rfl (op_nilCheck rfl) trivial ?_
 refine .q rfl (op_fieldAddr (m := 0) Tryd.underlying94 rfl (by kernel_rfl) rfl) trivial ?_
 refine .as (.ptr 1144 1) rfl ?_
 refine .q rfl (op_load Tryd.underlying92 rfl rfl rfl rfl (by show 1 < 2; decide)) trivial ?_
 refine .q rfl (op_loadRow Tryd.underlying60 rfl sz60 rfl rfl rfl (by first | omega | (simp only [AV.len]; omega) | (simp only [AV.len, List.length_set]; omega) | assumption | (simp [AV.len]; done))) trivial ?_
 refine .a rfl (op_buildRow (z := 32) (r := (.aggB (1 :: List.replicate 31 0))) (cs := (1 :: List.replicate 31 0).map .u8) Tryd.underlying92 infKey (by decide) (by decide) rfl rfl rfl) trivial rfl rfl ?_
 refine .a rfl (ap_append_nil (c' := (.aggB (1 :: List.replicate 31 0))) Tryd.underlying92 Tryd.underlying92 (.inr ⟨_, rfl⟩) infKey rfl (srcs_sl (m := 1) (o := 0) rfl rfl (by decide)) rfl (by decide) (by decide)) trivial rfl rfl ?_
 refine .q rfl (op_nilCheck rfl) trivial ?_
 refine .q rfl (op_fieldAddr (m := 0) Tryd.underlying94 rfl (by kernel_rfl) rfl) trivial ?_
 refine .as (.ptr 1144 1) rfl ?_
 refine .w rfl (op_store (by kernel_rfl) rfl rfl rfl rfl rfl (by show 1 < 2; decide)) trivial rfl rfl ?_
 refine .nil ?_
 show Ev _ _ _ _ _
 refine .seq ?_
 refine .region ?_
 refine .q (op_move rfl) trivial rfl ?_
 refine .q (op_nilCheck rfl) trivial rfl ?_
 refine .q (op_fieldAddr (m := 0) Tryd.underlying90 rfl (by kernel_rfl) rfl) trivial rfl ?_
 refine .as (.ptr 500 2) rfl ?_
 refine .q (op_load Tryd.underlying87 rfl rfl rfl rfl (by show 2 < 4; decide)) trivial rfl ?_
 refine .q (op_move rfl) trivial rfl ?_
 refine .q (op_move rfl) trivial rfl ?_
 refine .w (op_mapPutN (c' := .mapc [tnV] [.ptr 1144 0] [0] 1) tk0 Tryd.underlying87 rfl rfl rfl rfl rfl rfl none_atS (fun _ _ h => h) rfl) trivial rfl ?_
 refine .nil ?_
 show Ev _ _ _ _ _
 refine .seq ?_
 refine .drawn [[], [0], [0, 1], [0, 1, 2], [], [], [0, 1, 2, 3, 4, 5]] [3, 4, 6] [6] (by kernel_rfl) (by kernel_rfl) rfl ?_
 show DK _ [0, 1, 2, 3, 4, 5, 6] _ _ _
 refine .q rfl (op_move rfl) trivial ?_
 refine .q rfl (op_nilCheck rfl) trivial ?_
 refine .q rfl (op_fieldAddr (m := 0) Tryd.underlying90 rfl (by kernel_rfl) rfl) trivial ?_
 refine .as (.ptr 500 3) rfl ?_
 refine .q rfl (op_load Tryd.underlying88 rfl rfl rfl rfl (by show 3 < 4; decide)) trivial ?_
 refine .q rfl (op_loadRow Tryd.underlying60 rfl sz60 rfl rfl rfl (by first | omega | (simp only [AV.len]; omega) | (simp only [AV.len, List.length_set]; omega) | assumption | (simp [AV.len]; done))) trivial ?_
 refine .q rfl (op_move rfl) trivial ?_
 refine .w rfl (op_mapPutN (c' := .mapc [kyV] [.ptr 1144 0] [0] 1) kk0 Tryd.underlying88 rfl rfl rfl rfl rfl rfl none_atS (fun _ _ h => h) rfl) trivial rfl rfl ?_
 refine .nil ?_
 show Ev _ _ _ _ _
 refine .seq ?_
 refine .region ?_
 refine .q (op_assign rfl) trivial rfl ?_
 refine .nil ?_
 show Ev _ _ _ _ _
 refine .ret ?_
 show RetOk _ _ _ _ _ _ _
 exact ret1v rfl (.inl rfl) rfl (rfl) ⟨rfl, rfl, rfl, rfl, rfl, trivial⟩
end Go.Proofs.YticickigndgpcaaDoor
namespace Go.Proofs.YticickigndgpcaaDoor
open Go.RowKit
theorem one_atS {v : Value} (j : Nat) : ([v] : List Value)[j]? = some v ↔ j = 0 := by
  cases j with
  | zero => simp
  | succ n => simp
theorem kk1 : KeysOk Tryd.prog 60 [kyV] (.aggB (1 :: List.replicate 31 0)) kyV := ⟨ky_law, fun q hq => (by rw [List.mem_singleton] at hq; subst hq; exact ky_is), ky_is, ky_val⟩
set_option maxRecDepth 100000 in
theorem sadd2_ev (eo : Nat → Nat × Nat) : Meets Tryd.prog 27 [.ptr 500 0, .str [117], (.aggB (1 :: List.replicate 31 0))] [(500, some ⟨.agg [.i64 4, .i64 4, .mp 501, .mp 502], 90, false⟩), (501, some ⟨.mapc [tnV] [.ptr 503 0] [0] 1, 0, false⟩), (502, some ⟨.mapc [kyV] [.ptr 503 0] [0] 1, 0, false⟩), (503, some ⟨.agg [.str [116], .sl 504 0 1 32], 94, false⟩), (1, some ⟨.agg [.err 155 (9) (offE eo (9))], errT, false⟩)] (.err 155 (9) (offE eo (9))) [] := by
 refine meets_of_ev (nt := 75) Tryd.func27 rfl rfl (Nat.le_of_ble_eq_true rfl) ?_
 refine .seq ?_
 refine .region ?_
 refine .a (op_boxRow rfl rfl) trivial rfl ?_
 refine .q (op_assign rfl) trivial rfl ?_
 refine .nil ?_
 show Ev _ _ _ _ _
 refine .seq ?_
 refine .seq ?_
 refine .region ?_
 refine .q (op_move rfl) trivial rfl ?_
 refine .q (op_call (U := []) [] [] (nameN_ev [117] (by decide)) Tryd.func9 (by kernel_rfl) rfl rfl rfl (⟨⟨_, rfl, rfl, rfl⟩, trivial⟩) (trivial) (trivial) (trivial) rfl) trivial rfl ?_
 refine .q (op_notB rfl) trivial rfl ?_
 refine .nil ?_
 show Ev _ _ _ _ _
 refine .cond_false rfl (rfl) ?_
 refine .skip ?_
 show Ev _ _ _ _ _
 refine .seq ?_
 refine .seq ?_
 refine .drawn [[], [0], [0, 1], [0, 1, 2], [], [0, 1, 2, 3, 4], [0, 1, 2, 3, 4, 5]] [3, 4, 5] [] (by kernel_rfl) (by kernel_rfl) rfl ?_
 show DK _ [0, 1, 2, 3, 4, 5, 6] _ _ _
 refine .q rfl (op_move rfl) trivial ?_
 refine .q rfl (op_nilCheck rfl) trivial ?_
 refine .q rfl (op_fieldAddr (m := 0) Tryd.underlying90 rfl (by kernel_rfl) rfl) trivial ?_
 refine .as (.ptr 500 3) rfl ?_
 refine .q rfl (op_load Tryd.underlying88 rfl rfl rfl rfl (by show 3 < 4; decide)) trivial ?_
 refine .q rfl (op_loadRow Tryd.underlying60 rfl sz60 rfl rfl rfl (by first | omega | (simp only [AV.len]; omega) | (simp only [AV.len, List.length_set]; omega) | assumption | (simp [AV.len]; done))) trivial ?_
 refine .q rfl (op_lookupY1 (i := 0) (v := .ptr 503 0) kk1 Tryd.underlying88 rfl rfl rfl rfl one_atS rfl (fun _ _ h => h)) trivial ?_
 refine .q rfl (op_eqPtrNil Tryd.underlying91 rfl rfl rfl) trivial ?_
 refine .nil ?_
 show Ev _ _ _ _ _
 refine .cond_true rfl (rfl) ?_
 refine .seq ?_
 refine .region ?_
 refine .q (op_load Tryd.underlying47 rfl rfl rfl rfl (by first | omega | (simp only [AV.len]; omega) | (simp only [AV.len, List.length_set]; omega) | assumption | (simp [AV.len]; done))) trivial rfl ?_
 refine .q (op_assign rfl) trivial rfl ?_
 refine .nil ?_
 show Ev _ _ _ _ _
 refine .ret ?_
 show RetOk _ _ _ _ _ _ _
 exact ret1v rfl (.inl rfl) rfl (rfl) trivial
set_option maxRecDepth 100000 in
theorem slook_ev  : Meets Tryd.prog 28 [.ptr 500 0, (.aggB (1 :: List.replicate 31 0))] [(500, some ⟨.agg [.i64 4, .i64 4, .mp 501, .mp 502], 90, false⟩), (501, some ⟨.mapc [tnV] [.ptr 503 0] [0] 1, 0, false⟩), (502, some ⟨.mapc [kyV] [.ptr 503 0] [0] 1, 0, false⟩), (503, some ⟨.agg [.str [116], .sl 504 0 1 32], 94, false⟩)] (.tup [.str [116], .val .nilIface]) [] := by
 refine meets_of_ev (nt := 20) Tryd.func28 rfl rfl (Nat.le_of_ble_eq_true rfl) ?_
 refine .seq ?_
 refine .region ?_
 refine .a (op_boxRow rfl rfl) trivial rfl ?_
 refine .q (op_assign rfl) trivial rfl ?_
 refine .q (op_assign rfl) trivial rfl ?_
 refine .nil ?_
 show Ev _ _ _ _ _
 refine .seq ?_
 refine .drawn [[], [0], [0, 1], [0, 1, 2], [], [0, 1, 2, 3, 4], [0, 1, 2, 3, 4, 5]] [3, 4, 5] [] (by kernel_rfl) (by kernel_rfl) rfl ?_
 show DK _ [0, 1, 2, 3, 4, 5, 6] _ _ _
 refine .q rfl (op_move rfl) trivial ?_
 refine .q rfl (op_nilCheck rfl) trivial ?_
 refine .q rfl (op_fieldAddr (m := 0) Tryd.underlying90 rfl (by kernel_rfl) rfl) trivial ?_
 refine .as (.ptr 500 3) rfl ?_
 refine .q rfl (op_load Tryd.underlying88 rfl rfl rfl rfl (by show 3 < 4; decide)) trivial ?_
 refine .q rfl (op_loadRow Tryd.underlying60 rfl sz60 rfl rfl rfl (by first | omega | (simp only [AV.len]; omega) | (simp only [AV.len, List.length_set]; omega) | assumption | (simp [AV.len]; done))) trivial ?_
 refine .q rfl (op_lookupY1 (i := 0) (v := .ptr 503 0) kk1 Tryd.underlying88 rfl rfl rfl rfl one_atS rfl (fun _ _ h => h)) trivial ?_
 refine .q rfl (op_assign rfl) trivial ?_
 refine .nil ?_
 show Ev _ _ _ _ _
 refine .seq ?_
 refine .seq ?_
 refine .region ?_
 refine .q (op_move rfl) trivial rfl ?_
 refine .q (op_eqPtrNil Tryd.underlying91 rfl rfl rfl) trivial rfl ?_
 refine .nil ?_
 show Ev _ _ _ _ _
 refine .cond_false rfl (rfl) ?_
 refine .skip ?_
 show Ev _ _ _ _ _
 refine .seq ?_
 refine .region ?_
 refine .q (op_move rfl) trivial rfl ?_
 refine .q (op_nilCheck rfl) trivial rfl ?_
 refine .q (op_fieldAddr (m := 0) Tryd.underlying94 rfl (by kernel_rfl) rfl) trivial rfl ?_
 refine .as (.ptr 503 0) rfl ?_
 refine .q (op_load Tryd.underlying9 rfl rfl rfl rfl (by show 0 < 2; decide)) trivial rfl ?_
 refine .q (op_assign rfl) trivial rfl ?_
 refine .q (op_assign rfl) trivial rfl ?_
 refine .nil ?_
 show Ev _ _ _ _ _
 refine .ret ?_
 show RetOk _ _ _ _ _ _ _
 exact ret2v rfl (.inl rfl) rfl rfl rfl rfl trivial
end Go.Proofs.YticickigndgpcaaDoor
