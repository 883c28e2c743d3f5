/-
  Texts of this claim.
-/
import Derived.Test.YtpmambceojbkaaaDoorGES
import Derived.Test.YtpmambceojbkaaaDoorGX2S
import Derived.Test.YtpmambceojbkaaaDoorGL0S
namespace Go.Proofs.YtpmambceojbkaaaDoor
open Go.RowKit
def nameB (c : UInt8) : Bool := (decide (97 ≤ c) && decide (c ≤ 122)) || (decide (48 ≤ c) && decide (c ≤ 57)) || c == 45
def nameN (s : List UInt8) : Bool := decide (0 < s.length ∧ s.length ≤ 63) && s.all nameB && s.getD 0 0 != 45 && s.getD (s.length - 1) 0 != 45
set_option maxRecDepth 100000 in
theorem nameB_ev (c : UInt8) : Meets Tryd.prog 30 [.u8 c] [] (.bool (nameB c)) [] := by
 refine meets_of_ev (nt := 21) Tryd.func30 rfl rfl (Nat.le_of_ble_eq_true rfl) ?_
 refine .seq ?_
 refine .region ?_
 refine .q (op_assign rfl) trivial rfl ?_
 refine .nil ?_
 show Ev _ _ _ _ _
 refine .seq ?_
 refine .region ?_
 refine .q (op_move rfl) trivial rfl ?_
 refine .q (op_bin8 rfl rfl rfl) trivial rfl ?_
 refine .q (op_move rfl) trivial rfl ?_
 refine .split (fun hg5 => ?_) (fun hg5 => ?_)
 ·skip
  refine .q (op_move rfl) ⟨_, rfl, rfl⟩ rfl ?_
  refine .q (op_bin8 rfl rfl rfl) ⟨_, rfl, rfl⟩ rfl ?_
  refine .q (op_pick_true rfl rfl rfl) trivial rfl ?_
  refine .q (op_move rfl) trivial rfl ?_
  refine .split (fun hg9 => ?_) (fun hg9 => ?_)
  ·skip
   refine .no ⟨_, rfl, rfl⟩ rfl ?_
   refine .no ⟨_, rfl, rfl⟩ rfl ?_
   refine .no ⟨_, rfl, rfl⟩ rfl ?_
   refine .noU ⟨_, rfl, rfl⟩ rfl ?_
   refine .noU ⟨_, rfl, rfl⟩ rfl ?_
   refine .no ⟨_, rfl, rfl⟩ rfl ?_
   refine .q (op_pick_true rfl rfl rfl) trivial rfl ?_
   refine .q (op_move rfl) trivial rfl ?_
   refine .no ⟨_, rfl, rfl⟩ rfl ?_
   refine .no ⟨_, rfl, rfl⟩ rfl ?_
   refine .q (op_pick_true rfl rfl rfl) trivial rfl ?_
   refine .q (op_assign rfl) trivial rfl ?_
   refine .nil ?_
   show Ev _ _ _ _ _
   refine .ret ?_
   show RetOk _ _ _ _ _ _ _
   exact ret1v rfl (.inl rfl) rfl (congrArg AV.bool (by unfold nameB; first | (simp_all; done) | (simp_all [UInt8.le_iff_toNat_le, UInt8.lt_iff_toNat_lt]; omega))) trivial
  ·skip
   refine .q (op_move rfl) ⟨_, rfl, rfl⟩ rfl ?_
   refine .q (op_bin8 rfl rfl rfl) ⟨_, rfl, rfl⟩ rfl ?_
   refine .q (op_move rfl) ⟨_, rfl, rfl⟩ rfl ?_
   refine .split (fun hg12 => ?_) (fun hg12 => ?_)
   ·skip
    refine .q (op_move rfl) ⟨_, rfl, rfl⟩ rfl ?_
    refine .q (op_bin8 rfl rfl rfl) ⟨_, rfl, rfl⟩ rfl ?_
    refine .q (op_pick_true rfl rfl rfl) ⟨_, rfl, rfl⟩ rfl ?_
    refine .q (op_pick_false rfl rfl rfl) trivial rfl ?_
    refine .q (op_move rfl) trivial rfl ?_
    refine .split (fun hg17 => ?_) (fun hg17 => ?_)
    ·skip
     refine .no ⟨_, rfl, rfl⟩ rfl ?_
     refine .no ⟨_, rfl, rfl⟩ rfl ?_
     refine .q (op_pick_true rfl rfl rfl) trivial rfl ?_
     refine .q (op_assign rfl) trivial rfl ?_
     refine .nil ?_
     show Ev _ _ _ _ _
     refine .ret ?_
     show RetOk _ _ _ _ _ _ _
     exact ret1v rfl (.inl rfl) rfl (congrArg AV.bool (by unfold nameB; first | (simp_all; done) | (simp_all [UInt8.le_iff_toNat_le, UInt8.lt_iff_toNat_lt]; omega))) trivial
    ·skip
     refine .q (op_move rfl) ⟨_, rfl, rfl⟩ rfl ?_
     refine .q (op_bin8 rfl rfl rfl) ⟨_, rfl, rfl⟩ rfl ?_
     refine .q (op_pick_false rfl rfl rfl) trivial rfl ?_
     refine .q (op_assign rfl) trivial rfl ?_
     refine .nil ?_
     show Ev _ _ _ _ _
     refine .ret ?_
     show RetOk _ _ _ _ _ _ _
     exact ret1v rfl (.inl rfl) rfl (congrArg AV.bool (by unfold nameB; first | (simp_all; done) | (simp_all [UInt8.le_iff_toNat_le]; omega))) trivial
   ·skip
    refine .no ⟨_, rfl, rfl⟩ rfl ?_
    refine .no ⟨_, rfl, rfl⟩ rfl ?_
    refine .q (op_pick_false rfl rfl rfl) ⟨_, rfl, rfl⟩ rfl ?_
    refine .q (op_pick_false rfl rfl rfl) trivial rfl ?_
    refine .q (op_move rfl) trivial rfl ?_
    refine .q (op_move rfl) ⟨_, rfl, rfl⟩ rfl ?_
    refine .q (op_bin8 rfl rfl rfl) ⟨_, rfl, rfl⟩ rfl ?_
    refine .q (op_pick_false rfl rfl rfl) trivial rfl ?_
    refine .q (op_assign rfl) trivial rfl ?_
    refine .nil ?_
    show Ev _ _ _ _ _
    refine .ret ?_
    show RetOk _ _ _ _ _ _ _
    exact ret1v rfl (.inl rfl) rfl (congrArg AV.bool (by unfold nameB; first | (simp_all; done) | (simp_all [UInt8.le_iff_toNat_le]; omega))) trivial
 ·skip
  refine .no ⟨_, rfl, rfl⟩ rfl ?_
  refine .no ⟨_, rfl, rfl⟩ rfl ?_
  refine .q (op_pick_false rfl rfl rfl) trivial rfl ?_
  refine .q (op_move rfl) trivial rfl ?_
  refine .q (op_move rfl) ⟨_, rfl, rfl⟩ rfl ?_
  refine .q (op_bin8 rfl rfl rfl) ⟨_, rfl, rfl⟩ rfl ?_
  refine .q (op_move rfl) ⟨_, rfl, rfl⟩ rfl ?_
  refine .split (fun hg12 => ?_) (fun hg12 => ?_)
  ·skip
   refine .q (op_move rfl) ⟨_, rfl, rfl⟩ rfl ?_
   refine .q (op_bin8 rfl rfl rfl) ⟨_, rfl, rfl⟩ rfl ?_
   refine .q (op_pick_true rfl rfl rfl) ⟨_, rfl, rfl⟩ rfl ?_
   refine .q (op_pick_false rfl rfl rfl) trivial rfl ?_
   refine .q (op_move rfl) trivial rfl ?_
   refine .split (fun hg17 => ?_) (fun hg17 => ?_)
   ·skip
    refine .no ⟨_, rfl, rfl⟩ rfl ?_
    refine .no ⟨_, rfl, rfl⟩ rfl ?_
    refine .q (op_pick_true rfl rfl rfl) trivial rfl ?_
    refine .q (op_assign rfl) trivial rfl ?_
    refine .nil ?_
    show Ev _ _ _ _ _
    refine .ret ?_
    show RetOk _ _ _ _ _ _ _
    exact ret1v rfl (.inl rfl) rfl (congrArg AV.bool (by unfold nameB; first | (simp_all; done) | (simp_all [UInt8.le_iff_toNat_le, UInt8.lt_iff_toNat_lt]; omega))) trivial
   ·skip
    refine .q (op_move rfl) ⟨_, rfl, rfl⟩ rfl ?_
    refine .q (op_bin8 rfl rfl rfl) ⟨_, rfl, rfl⟩ rfl ?_
    refine .q (op_pick_false rfl rfl rfl) trivial rfl ?_
    refine .q (op_assign rfl) trivial rfl ?_
    refine .nil ?_
    show Ev _ _ _ _ _
    refine .ret ?_
    show RetOk _ _ _ _ _ _ _
    exact ret1v rfl (.inl rfl) rfl (congrArg AV.bool (by unfold nameB; first | (simp_all; done) | (simp_all [UInt8.le_iff_toNat_le]; omega))) trivial
  ·skip
   refine .no ⟨_, rfl, rfl⟩ rfl ?_
   refine .no ⟨_, rfl, rfl⟩ rfl ?_
   refine .q (op_pick_false rfl rfl rfl) ⟨_, rfl, rfl⟩ rfl ?_
   refine .q (op_pick_false rfl rfl rfl) trivial rfl ?_
   refine .q (op_move rfl) trivial rfl ?_
   refine .q (op_move rfl) ⟨_, rfl, rfl⟩ rfl ?_
   refine .q (op_bin8 rfl rfl rfl) ⟨_, rfl, rfl⟩ rfl ?_
   refine .q (op_pick_false rfl rfl rfl) trivial rfl ?_
   refine .q (op_assign rfl) trivial rfl ?_
   refine .nil ?_
   show Ev _ _ _ _ _
   refine .ret ?_
   show RetOk _ _ _ _ _ _ _
   exact ret1v rfl (.inl rfl) rfl (congrArg AV.bool (by unfold nameB; first | (simp_all; done) | (simp_all [UInt8.le_iff_toNat_le]; omega))) trivial
theorem all_take {s : List UInt8} {j : Nat} (hj : j < s.length) : (s.take (j + 1)).all nameB = ((s.take j).all nameB && nameB (s.getD j 0)) := by
 rw [List.take_succ_eq_append_getElem hj, List.all_append]; simp [List.getD_eq_getElem?_getD, hj]
theorem all_no {s : List UInt8} {j : Nat} (hj : j < s.length) (h : nameB (s.getD j 0) = false) : s.all nameB = false := by
 rw [List.all_eq_false]
 exact ⟨s[j], List.getElem_mem hj, by rw [List.getD_eq_getElem?_getD, List.getElem?_eq_getElem hj] at h; simpa using h⟩
theorem name_nil {s : List UInt8} (h : (s == (⟨#[]⟩ : ByteArray).data.toList) = true) : false = nameN s := by
 have : s = [] := by simpa using h
 subst this; rfl
theorem name_long {s : List UInt8} (h : decide (63 < (s.length : Int)) = true) : false = nameN s := by
 have := of_decide_eq_true h
 unfold nameN
 rw [decide_eq_false (show ¬ (0 < s.length ∧ s.length ≤ 63) by omega)]; rfl
theorem name_bad {s : List UInt8} {i : Nat} (hi : i < s.length) (h : (!nameB (s.getD i 0)) = true) : false = nameN s := by
 unfold nameN
 rw [all_no hi (by simpa using h)]; simp
theorem name_end {s : List UInt8} {i : Nat} {b : Bool} (h1 : (s == (⟨#[]⟩ : ByteArray).data.toList) = false) (h2 : decide (63 < (s.length : Int)) = false) (hi : i ≤ s.length) (hn : ¬ (i : Int) < (s.length : Int)) (ha : (s.take i).all nameB = true) (hb : b = (s.getD 0 0 != 45 && s.getD (s.length - 1) 0 != 45)) : b = nameN s := by
 have h3 := of_decide_eq_false h2
 have h4 : s ≠ [] := by simpa using h1
 have h5 := List.length_pos_iff.2 h4
 rw [show i = s.length by omega, List.take_length] at ha
 unfold nameN
 rw [decide_eq_true (show 0 < s.length ∧ s.length ≤ 63 by omega), ha, hb]; rfl
set_option maxRecDepth 100000 in
theorem nameN_ev (s : List UInt8) (hl : s.length ≤ 9223372036854775000) : Meets Tryd.prog 9 [.str s] [] (.bool (nameN s)) [] := by
 refine meets_of_ev (nt := 33) Tryd.func9 rfl rfl (Nat.le_of_ble_eq_true rfl) ?_
 refine .seq ?_
 refine .region ?_
 refine .q (op_assign rfl) trivial rfl ?_
 refine .nil ?_
 show Ev _ _ _ _ _
 refine .seq ?_
 refine .seq ?_
 refine .region ?_
 refine .q (op_move rfl) trivial rfl ?_
 refine .q (op_eqS rfl rfl rfl) trivial rfl ?_
 refine .q (op_move rfl) trivial rfl ?_
 refine .split (fun hg6 => ?_) (fun hg6 => ?_)
 ·skip
  refine .no ⟨_, rfl, rfl⟩ rfl ?_
  refine .no ⟨_, rfl, rfl⟩ rfl ?_
  refine .no ⟨_, rfl, rfl⟩ rfl ?_
  refine .q (op_pick_true rfl rfl rfl) trivial rfl ?_
  refine .nil ?_
  show Ev _ _ _ _ _
  refine .cond_true rfl rfl ?_
  refine .seq ?_
  refine .region ?_
  refine .q (op_assign rfl) trivial rfl ?_
  refine .nil ?_
  show Ev _ _ _ _ _
  refine .ret ?_
  show RetOk _ _ _ _ _ _ _
  exact ret1v rfl (.inl rfl) rfl (congrArg AV.bool (by first | exact name_nil hg6 | exact name_long hc10 | exact name_bad (by omega) hc20 | exact name_end hg6 hc10 hi hc14 ha (by rw [hg25]; rfl) | exact name_end hg6 hc10 hi hc14 ha (by have h := hg25; simp at h; simp [h]))) trivial
 ·skip
  refine .q (op_move rfl) ⟨_, rfl, rfl⟩ rfl ?_
  refine .q (op_len_str Tryd.underlying9 rfl) ⟨_, rfl, rfl⟩ rfl ?_
  refine .q (op_cmpI rfl rfl rfl) ⟨_, rfl, rfl⟩ rfl ?_
  refine .q (op_pick_false rfl rfl rfl) trivial rfl ?_
  refine .nil ?_
  show Ev _ _ _ _ _
  refine .cond rfl (fun hc10 => ?_) (fun hc10 => ?_)
  ·skip
   refine .seq ?_
   refine .region ?_
   refine .q (op_assign rfl) trivial rfl ?_
   refine .nil ?_
   show Ev _ _ _ _ _
   refine .ret ?_
   show RetOk _ _ _ _ _ _ _
   exact ret1v rfl (.inl rfl) rfl (congrArg AV.bool (by first | exact name_nil hg6 | exact name_long hc10 | exact name_bad (by omega) hc20 | exact name_end hg6 hc10 hi hc14 ha (by rw [hg25]; rfl) | exact name_end hg6 hc10 hi hc14 ha (by have h := hg25; simp at h; simp [h]))) trivial
  ·skip
   refine .skip ?_
   show Ev _ _ _ _ _
   refine .seq ?_
   refine .seq ?_
   refine .region ?_
   refine .q (op_move rfl) trivial rfl ?_
   refine .q (op_len_str Tryd.underlying9 rfl) trivial rfl ?_
   refine .q (op_move rfl) trivial rfl ?_
   refine .nil ?_
   show Ev _ _ _ _ _
   refine .block ?_
   refine Ev.loop (ι := { i : Nat // i ≤ s.length ∧ (s.take i).all nameB = true }) (fun q => ⟨[(0, .str s), (12, .i64 ((s.length : Nat) : Int)), (13, .i64 ((q.1 : Nat) : Int))], [], 1000⟩) (fun q => s.length - q.1) ⟨0, Nat.zero_le _, rfl⟩ (StLe.mk [] rfl rfl ⟨⟨_, rfl, by first | rfl | (simp only [AV.ren]; congr 1; omega), rfl⟩, ⟨_, rfl, by first | rfl | (simp only [AV.ren]; congr 1; omega), rfl⟩, ⟨_, rfl, by first | rfl | (simp only [AV.ren]; congr 1; omega), rfl⟩, trivial⟩ trivial) ?_
   rintro ⟨i, hi, ha⟩
   try dsimp only
   refine .seq ?_
   refine .region ?_
   refine .q (op_cmpI rfl rfl rfl) trivial rfl ?_
   refine .nil ?_
   show Ev _ _ _ _ _
   refine .seq ?_
   refine .cond rfl (fun hc14 => ?_) (fun hc14 => ?_)
   ·simp only [decide_eq_true_eq] at hc14
    refine .skip ?_
    show Ev _ _ _ _ _
    refine .seq ?_
    refine .block ?_
    refine .seq ?_
    refine .region ?_
    refine .q (op_move rfl) trivial rfl ?_
    refine .q (op_assign rfl) trivial rfl ?_
    refine .nil ?_
    show Ev _ _ _ _ _
    refine .seq ?_
    refine .region ?_
    refine .q (op_move rfl) trivial rfl ?_
    refine .q (op_move rfl) trivial rfl ?_
    refine .q (op_index_str Tryd.underlying9 rfl rfl (i := i) rfl (by omega)) trivial rfl ?_
    refine .q (op_call (U := []) [] [] (nameB_ev (s.getD i 0)) Tryd.func30 (by kernel_rfl) rfl rfl rfl (⟨⟨_, rfl, rfl, rfl⟩, trivial⟩) (trivial) (trivial) (trivial) rfl) trivial rfl ?_
    refine .q (op_notB rfl) trivial rfl ?_
    refine .nil ?_
    show Ev _ _ _ _ _
    refine .cond rfl (fun hc20 => ?_) (fun hc20 => ?_)
    ·skip
     refine .seq ?_
     refine .region ?_
     refine .q (op_assign rfl) trivial rfl ?_
     refine .nil ?_
     show Ev _ _ _ _ _
     refine .ret ?_
     show RetOk _ _ _ _ _ _ _
     exact ret1v rfl (.inl rfl) rfl (congrArg AV.bool (by first | exact name_nil hg6 | exact name_long hc10 | exact name_bad (by omega) hc20 | exact name_end hg6 hc10 hi hc14 ha (by rw [hg25]; rfl) | exact name_end hg6 hc10 hi hc14 ha (by have h := hg25; simp at h; simp [h]))) trivial
    ·skip
     refine .skip ?_
     show Ev _ _ _ _ _
     refine .region ?_
     refine .q (op_addI rfl rfl ⟨by omega, by omega⟩) trivial rfl ?_
     refine .q (op_move rfl) trivial rfl ?_
     refine .nil ?_
     exact ⟨⟨i + 1, by omega, by rw [all_take (show i < s.length by omega), ha]; simpa using hc20⟩, by (try dsimp only); omega, StLe.mk [] rfl rfl ⟨⟨_, rfl, by first | rfl | (simp only [AV.ren]; congr 1; omega), rfl⟩, ⟨_, rfl, by first | rfl | (simp only [AV.ren]; congr 1; omega), rfl⟩, ⟨_, rfl, by first | rfl | (simp only [AV.ren]; congr 1; omega), rfl⟩, trivial⟩ trivial⟩
   ·simp only [decide_eq_false_iff_not] at hc14
    refine .exit ?_
    show Ev _ _ _ _ _
    refine .seq ?_
    refine .region ?_
    refine .q (op_move rfl) trivial rfl ?_
    refine .q (op_index_str Tryd.underlying9 rfl rfl (i := 0) rfl (by (have h6 := hg6; simp at h6; have := List.length_pos_iff.2 h6; omega))) trivial rfl ?_
    refine .q (op_bin8 rfl rfl rfl) trivial rfl ?_
    refine .q (op_move rfl) trivial rfl ?_
    refine .split (fun hg25 => ?_) (fun hg25 => ?_)
    ·skip
     refine .q (op_move rfl) ⟨_, rfl, rfl⟩ rfl ?_
     refine .q (op_move rfl) ⟨_, rfl, rfl⟩ rfl ?_
     refine .q (op_len_str Tryd.underlying9 rfl) ⟨_, rfl, rfl⟩ rfl ?_
     refine .q (op_subI rfl rfl ⟨by omega, by omega⟩) ⟨_, rfl, rfl⟩ rfl ?_
     refine .q (op_index_str Tryd.underlying9 rfl rfl (i := s.length - 1) (by (have h6 := hg6; simp at h6; have := List.length_pos_iff.2 h6; omega)) (by (have h6 := hg6; simp at h6; have := List.length_pos_iff.2 h6; omega))) ⟨_, rfl, rfl⟩ rfl ?_
     refine .q (op_bin8 rfl rfl rfl) ⟨_, rfl, rfl⟩ rfl ?_
     refine .q (op_pick_true rfl rfl rfl) trivial rfl ?_
     refine .q (op_assign rfl) trivial rfl ?_
     refine .nil ?_
     show Ev _ _ _ _ _
     refine .ret ?_
     show RetOk _ _ _ _ _ _ _
     exact ret1v rfl (.inl rfl) rfl (congrArg AV.bool (by first | exact name_nil hg6 | exact name_long hc10 | exact name_bad (by omega) hc20 | exact name_end hg6 hc10 hi hc14 ha (by rw [hg25]; rfl) | exact name_end hg6 hc10 hi hc14 ha (by have h := hg25; simp at h; simp [h]))) trivial
    ·skip
     refine .no ⟨_, rfl, rfl⟩ rfl ?_
     refine .no ⟨_, rfl, rfl⟩ rfl ?_
     refine .no ⟨_, rfl, rfl⟩ rfl ?_
     refine .no ⟨_, rfl, rfl⟩ rfl ?_
     refine .no ⟨_, rfl, rfl⟩ rfl ?_
     refine .no ⟨_, rfl, rfl⟩ rfl ?_
     refine .q (op_pick_false rfl rfl rfl) trivial rfl ?_
     refine .q (op_assign rfl) trivial rfl ?_
     refine .nil ?_
     show Ev _ _ _ _ _
     refine .ret ?_
     show RetOk _ _ _ _ _ _ _
     exact ret1v rfl (.inl rfl) rfl (congrArg AV.bool (by first | exact name_nil hg6 | exact name_long hc10 | exact name_bad (by omega) hc20 | exact name_end hg6 hc10 hi hc14 ha (by rw [hg25]; rfl) | exact name_end hg6 hc10 hi hc14 ha (by have h := hg25; simp at h; simp [h]))) trivial
end Go.Proofs.YtpmambceojbkaaaDoor
namespace Go.Proofs.YtpmambceojbkaaaDoor
open Go.RowKit
theorem run_mapM3 {P : Program} {w : World} (f : ResultVar → Sem Value) (r1 r2 r3 : ResultVar) (y1 y2 y3 : Value) (h1 : (f r1).run P w = .ok y1 w) (h2 : (f r2).run P w = .ok y2 w) (h3 : (f r3).run P w = .ok y3 w) : ((#[r1, r2, r3] : Array ResultVar).mapM f).run P w = .ok #[y1, y2, y3] w := by
  simp [h1, h2, h3]
theorem retc3 {P : Program} {nt : Nat} {st : St} {fn : Func} {r1 r2 r3 : ResultVar} {v1 v2 v3 : AV} {H1 : List (Nat × Option ABlk)} {e : Exit} (hr : fn.results = #[r1, r2, r3]) (he : e = .ret ∨ e = .normal) (h1 : ResOk P st r1 v1) (h2 : ResOk P st r2 v2) (h3 : ResOk P st r3 v3) (hH : HSub (hget st.H) H1) : RetOk P fn nt (.tup [v1, v2, v3]) H1 e st :=
  ⟨he, hH.spec, fun E S n0 a w hR => by
    obtain ⟨y1, g1, g2⟩ := h1.run hR
    obtain ⟨y2, g3, g4⟩ := h2.run hR
    obtain ⟨y3, g5, g6⟩ := h3.run hR
    refine ⟨.tuple #[y1, y2, y3], ?_, .tup _ _ rfl fun i x y hx hy => ?_⟩
    · have h4 := run_mapM3 (P := P) (w := w) (fun r => match r with | .tmp t => pure (a.tmps.getD t undef) | .cell q t => do loadVar t (← asAddr (a.tmps.getD q undef)) : ResultVar → Sem Value) r1 r2 r3 y1 y2 y3 g1 g3 g5
      unfold results
      rw [hr, Sem.run_bind]
      refine (congrArg (fun r => Result.andThen r _) h4).trans ?_
      rfl
    · match i, hx, hy with
      | 0, hx, hy => simp at hx hy; subst hx; subst hy; exact g2
      | 1, hx, hy => simp at hx hy; subst hx; subst hy; exact g4
      | 2, hx, hy => simp at hx hy; subst hx; subst hy; exact g6
      | n + 3, hx, hy => simp at hx⟩
theorem nameN_len {s : List UInt8} (h : nameN s = true) : s.length ≤ 63 := by
  unfold nameN at h
  simp only [Bool.and_eq_true, decide_eq_true_eq] at h
  exact h.1.1.1.2
set_option maxRecDepth 100000 in
theorem takeV1_ev (t al : List UInt8) (w now : Int) (eo : Nat → Nat × Nat) (ht : t.length ≤ 9223372036854775000) (_ha : al.length ≤ 9223372036854775000) (hvt : nameN t = false)  : Meets Tryd.prog 19 [.ptr 500 0, .str t, .str al, .i64 w, .i64 now] [(0, some ⟨.agg [.err 155 (17) (offE eo (17))], errT, false⟩)] (.tup [.agg [.str [], .str [], .i64 0, .i64 0, .i64 0], .i64 (-1), .err 155 (17) (offE eo (17))]) [] := by
 refine meets_of_ev (nt := 74) Tryd.func19 rfl rfl (Nat.le_of_ble_eq_true rfl) ?_
 refine .seq ?_
 refine .region ?_
 refine .a (op_allocRow zero45 rel_zero45 rfl) trivial rfl ?_
 refine .q (op_assign rfl) trivial rfl ?_
 refine .q (op_assign rfl) trivial rfl ?_
 refine .nil ?_
 show Ev _ _ _ _ _
 refine .seq ?_
 refine .seq ?_
 refine .region ?_
 refine .q (op_move rfl) trivial rfl ?_
 refine .q (op_call (U := []) [] [] (nameN_ev (t) ht) Tryd.func9 (by kernel_rfl) rfl rfl rfl (⟨⟨_, rfl, rfl, rfl⟩, trivial⟩) (trivial) (trivial) (trivial) rfl) trivial rfl ?_
 refine .q (op_notB rfl) trivial rfl ?_
 refine .q (op_move rfl) trivial rfl ?_
 refine .know (b' := true) (by show (!nameN _) = true; rw [hvt]; rfl) ?_
 refine .no ⟨_, rfl, rfl⟩ rfl ?_
 refine .no ⟨_, rfl, rfl⟩ rfl ?_
 refine .no ⟨_, rfl, rfl⟩ rfl ?_
 refine .q (op_pick_true rfl rfl rfl) trivial rfl ?_
 refine .nil ?_
 show Ev _ _ _ _ _
 refine .cond_true rfl rfl ?_
 refine .seq ?_
 refine .drawnF [[], [], [0], [0, 2], [0, 1, 2, 3]] [1, 2] [] [(1, ([0], [])), (2, ([], [1000]))] (by kernel_rfl) (by kernel_rfl) rfl ?_
 show DK _ [0, 1, 2, 3, 4] _ _ _
 refine .q rfl (op_buildS (r := .agg _) Tryd.underlying45 rfl zero45 rel_zero45 rfl rfl rfl rfl) trivial ?_
 refine .q rfl (op_load Tryd.underlying47 rfl rfl rfl rfl (by first | omega | (simp only [AV.len]; omega) | (simp only [AV.len]; omega) | assumption | (simp [AV.len]; done))) trivial ?_
 refine .w rfl (op_storeRow (by kernel_rfl) rfl rfl rfl rfl rfl (rfl) (rfl)) trivial rfl rfl ?_
 refine .q rfl (op_assign rfl) trivial ?_
 refine .q rfl (op_assign rfl) trivial ?_
 refine .nil ?_
 show Ev _ _ _ _ _
 refine .ret ?_
 show RetOk _ _ _ _ _ _ _
 exact retc3 rfl (.inl rfl) ⟨_, _, _, _, rfl, rfl, rfl, rfl, rfl, Tryd.underlying45, rfl, sz45⟩ rfl rfl trivial
set_option maxRecDepth 100000 in
theorem takeV2_ev (t al : List UInt8) (w now : Int) (eo : Nat → Nat × Nat) (ht : t.length ≤ 9223372036854775000) (ha : al.length ≤ 9223372036854775000) (hvt : nameN t = true) (hva : nameN al = false)  : Meets Tryd.prog 19 [.ptr 500 0, .str t, .str al, .i64 w, .i64 now] [(0, some ⟨.agg [.err 155 (17) (offE eo (17))], errT, false⟩)] (.tup [.agg [.str [], .str [], .i64 0, .i64 0, .i64 0], .i64 (-1), .err 155 (17) (offE eo (17))]) [] := by
 refine meets_of_ev (nt := 74) Tryd.func19 rfl rfl (Nat.le_of_ble_eq_true rfl) ?_
 refine .seq ?_
 refine .region ?_
 refine .a (op_allocRow zero45 rel_zero45 rfl) trivial rfl ?_
 refine .q (op_assign rfl) trivial rfl ?_
 refine .q (op_assign rfl) trivial rfl ?_
 refine .nil ?_
 show Ev _ _ _ _ _
 refine .seq ?_
 refine .seq ?_
 refine .region ?_
 refine .q (op_move rfl) trivial rfl ?_
 refine .q (op_call (U := []) [] [] (nameN_ev (t) ht) Tryd.func9 (by kernel_rfl) rfl rfl rfl (⟨⟨_, rfl, rfl, rfl⟩, trivial⟩) (trivial) (trivial) (trivial) rfl) trivial rfl ?_
 refine .q (op_notB rfl) trivial rfl ?_
 refine .q (op_move rfl) trivial rfl ?_
 refine .know (b' := false) (by show (!nameN _) = false; rw [hvt]; rfl) ?_
 refine .q (op_move rfl) ⟨_, rfl, rfl⟩ rfl ?_
 refine .q (op_call (U := []) [] [] (nameN_ev (al) ha) Tryd.func9 (by kernel_rfl) rfl rfl rfl (⟨⟨_, rfl, rfl, rfl⟩, trivial⟩) (trivial) (trivial) (trivial) rfl) ⟨_, rfl, rfl⟩ rfl ?_
 refine .q (op_notB rfl) ⟨_, rfl, rfl⟩ rfl ?_
 refine .q (op_pick_false rfl rfl rfl) trivial rfl ?_
 refine .nil ?_
 show Ev _ _ _ _ _
 refine .cond_true rfl (by first | rfl | (show (!nameN _) = true; rw [hva]; rfl)) ?_
 refine .seq ?_
 refine .drawnF [[], [], [0], [0, 2], [0, 1, 2, 3]] [1, 2] [] [(1, ([0], [])), (2, ([], [1000]))] (by kernel_rfl) (by kernel_rfl) rfl ?_
 show DK _ [0, 1, 2, 3, 4] _ _ _
 refine .q rfl (op_buildS (r := .agg _) Tryd.underlying45 rfl zero45 rel_zero45 rfl rfl rfl rfl) trivial ?_
 refine .q rfl (op_load Tryd.underlying47 rfl rfl rfl rfl (by first | omega | (simp only [AV.len]; omega) | (simp only [AV.len]; omega) | assumption | (simp [AV.len]; done))) trivial ?_
 refine .w rfl (op_storeRow (by kernel_rfl) rfl rfl rfl rfl rfl (rfl) (rfl)) trivial rfl rfl ?_
 refine .q rfl (op_assign rfl) trivial ?_
 refine .q rfl (op_assign rfl) trivial ?_
 refine .nil ?_
 show Ev _ _ _ _ _
 refine .ret ?_
 show RetOk _ _ _ _ _ _ _
 exact retc3 rfl (.inl rfl) ⟨_, _, _, _, rfl, rfl, rfl, rfl, rfl, Tryd.underlying45, rfl, sz45⟩ rfl rfl trivial
set_option maxRecDepth 100000 in
theorem takeH_ev (a b c ep : Int) {M : List (Ls × Nat)} {ck : Nat} {L : List Ls} (h : MI M ck L) {x : Ls} (hx : x ∈ L) (w now : Int) (hvt : nameN x.t = true) (hva : nameN x.a = true) (hw : x.o = w) (eo : Nat → Nat × Nat)  : Meets Tryd.prog 19 [.ptr 500 0, .str x.t, .str x.a, .i64 w, .i64 now] [(500, some ⟨.agg [.i64 a, .i64 b, .i64 c, .mp 501, .i64 ep], 68, false⟩), (501, some ⟨mpV (M) (ck), 0, false⟩), (1, some ⟨.agg [.err 155 (9) (offE eo (9))], errT, false⟩)] (.tup [.agg [.str [], .str [], .i64 0, .i64 0, .i64 0], .i64 (-1), .err 155 (9) (offE eo (9))]) [] := by
 refine meets_of_ev (nt := 74) Tryd.func19 rfl rfl (Nat.le_of_ble_eq_true rfl) ?_
 refine .seq ?_
 refine .region ?_
 refine .a (op_allocRow zero45 rel_zero45 rfl) trivial rfl ?_
 refine .q (op_assign rfl) trivial rfl ?_
 refine .q (op_assign rfl) trivial rfl ?_
 refine .nil ?_
 show Ev _ _ _ _ _
 refine .seq ?_
 refine .seq ?_
 refine .region ?_
 refine .q (op_move rfl) trivial rfl ?_
 refine .q (op_call (U := []) [] [] (nameN_ev (x.t) (by have := (h.sz x hx).1; omega)) Tryd.func9 (by kernel_rfl) rfl rfl rfl (⟨⟨_, rfl, rfl, rfl⟩, trivial⟩) (trivial) (trivial) (trivial) rfl) trivial rfl ?_
 refine .q (op_notB rfl) trivial rfl ?_
 refine .q (op_move rfl) trivial rfl ?_
 refine .know (b' := false) (by show (!nameN _) = false; rw [hvt]; rfl) ?_
 refine .q (op_move rfl) ⟨_, rfl, rfl⟩ rfl ?_
 refine .q (op_call (U := []) [] [] (nameN_ev (x.a) (by have := (h.sz x hx).2; omega)) Tryd.func9 (by kernel_rfl) rfl rfl rfl (⟨⟨_, rfl, rfl, rfl⟩, trivial⟩) (trivial) (trivial) (trivial) rfl) ⟨_, rfl, rfl⟩ rfl ?_
 refine .q (op_notB rfl) ⟨_, rfl, rfl⟩ rfl ?_
 refine .q (op_pick_false rfl rfl rfl) trivial rfl ?_
 refine .nil ?_
 show Ev _ _ _ _ _
 refine .cond_false rfl (by first | rfl | (show (!nameN _) = false; rw [hva]; rfl)) ?_
 refine .skip ?_
 show Ev _ _ _ _ _
 refine .seq ?_
 refine .region ?_
 refine .q (op_assign rfl) trivial rfl ?_
 refine .nil ?_
 show Ev _ _ _ _ _
 refine .seq ?_
 refine .seq ?_
 refine .region ?_
 refine .q (op_move rfl) trivial rfl ?_
 refine .q (op_move rfl) trivial rfl ?_
 refine .q (op_move rfl) trivial rfl ?_
 refine .q (op_call (U := []) [(500, 500), (501, 501)] [] (findY_ev a b c ep h hx) Tryd.func20 (by kernel_rfl) rfl rfl rfl (⟨⟨_, rfl, rfl, rfl⟩, ⟨_, rfl, rfl, rfl⟩, ⟨_, rfl, rfl, rfl⟩, trivial⟩) (⟨⟨_, _, rfl, rfl, rfl, rfl, (fun h => by cases h), rfl⟩, ⟨_, _, rfl, rfl, rfl, rfl, (fun h => by cases h), rfl⟩, trivial⟩) (trivial) (⟨(fun h => by cases h), (fun h => by cases h), trivial⟩) rfl) trivial rfl ?_
 refine .q (op_move rfl) trivial rfl ?_
 refine .q (op_extract rfl rfl) trivial rfl ?_
 refine .q (op_extract rfl rfl) trivial rfl ?_
 refine .a (op_allocRow zero45 rel_zero45 rfl) trivial rfl ?_
 refine .w (op_storeRow (by kernel_rfl) rfl rfl rfl rfl rfl (rfl) (rfl)) trivial rfl ?_
 refine .q (op_assign rfl) trivial rfl ?_
 refine .nil ?_
 show Ev _ _ _ _ _
 refine .seq ?_
 refine .region ?_
 refine .q (op_move rfl) trivial rfl ?_
 refine .asR (.err 155 0 (0, 0)) (nil_err _ _) ?_
 refine .q (op_eqErrNil (e := 0) Tryd.underlying47 rfl rfl) trivial rfl ?_
 refine .nil ?_
 show Ev _ _ _ _ _
 refine .cond_true rfl (rfl) ?_
 refine .seq ?_
 refine .seq ?_
 refine .region ?_
 refine .q (op_fieldAddr (m := 0) Tryd.underlying45 rfl (by kernel_rfl) rfl) trivial rfl ?_
 refine .as (.ptr 1008 2) rfl ?_
 refine .q (op_load Tryd.underlying3 rfl rfl rfl rfl (by show 2 < 5; decide)) trivial rfl ?_
 refine .q (op_move rfl) trivial rfl ?_
 refine .q (op_cmpI rfl rfl rfl) trivial rfl ?_
 refine .nil ?_
 show Ev _ _ _ _ _
 refine .cond_true rfl (by show (x.o == w) = true; simpa using hw) ?_
 refine .seq ?_
 refine .drawnF [[], [], [0], [0, 2], [0, 1, 2, 3]] [1, 2] [] [(1, ([1], [])), (2, ([], [1000]))] (by kernel_rfl) (by kernel_rfl) rfl ?_
 show DK _ [0, 1, 2, 3, 4] _ _ _
 refine .q rfl (op_buildS (r := .agg _) Tryd.underlying45 rfl zero45 rel_zero45 rfl rfl rfl rfl) trivial ?_
 refine .q rfl (op_load Tryd.underlying47 rfl rfl rfl rfl (by first | omega | (simp only [AV.len]; omega) | (simp only [AV.len]; omega) | assumption | (simp [AV.len]; done))) trivial ?_
 refine .w rfl (op_storeRow (by kernel_rfl) rfl rfl rfl rfl rfl (rfl) (rfl)) trivial rfl rfl ?_
 refine .q rfl (op_assign rfl) trivial ?_
 refine .q rfl (op_assign rfl) trivial ?_
 refine .nil ?_
 show Ev _ _ _ _ _
 refine .ret ?_
 show RetOk _ _ _ _ _ _ _
 exact retc3 rfl (.inl rfl) ⟨_, _, _, _, rfl, rfl, rfl, rfl, rfl, Tryd.underlying45, rfl, sz45⟩ rfl rfl trivial
set_option maxRecDepth 100000 in
theorem takeO_ev (a b c ep : Int) {M : List (Ls × Nat)} {ck : Nat} {L : List Ls} (h : MI M ck L) {x : Ls} (hx : x ∈ L) (w now : Int) (hvt : nameN x.t = true) (hva : nameN x.a = true) (hw : x.o ≠ w) (hep : 0 ≤ ep ∧ ep ≤ 1000000000)  : Meets Tryd.prog 19 [.ptr 500 0, .str x.t, .str x.a, .i64 w, .i64 now] [(500, some ⟨.agg [.i64 a, .i64 b, .i64 c, .mp 501, .i64 ep], 68, true⟩), (501, some ⟨mpV (M) (ck), 0, true⟩)] (.tup [lsV ⟨x.t, x.a, w, ep + 1, tickV now⟩, .i64 x.o, .val .nilIface]) [(500, some ⟨.agg [.i64 a, .i64 b, .i64 c, .mp 501, .i64 (ep + 1)], 68, true⟩), (501, some ⟨mpV (putM M ck ⟨x.t, x.a, w, ep + 1, tickV now⟩).1 (putM M ck ⟨x.t, x.a, w, ep + 1, tickV now⟩).2, 0, true⟩)] := by
 refine meets_of_ev (nt := 74) Tryd.func19 rfl rfl (Nat.le_of_ble_eq_true rfl) ?_
 refine .seq ?_
 refine .region ?_
 refine .a (op_allocRow zero45 rel_zero45 rfl) trivial rfl ?_
 refine .q (op_assign rfl) trivial rfl ?_
 refine .q (op_assign rfl) trivial rfl ?_
 refine .nil ?_
 show Ev _ _ _ _ _
 refine .seq ?_
 refine .seq ?_
 refine .region ?_
 refine .q (op_move rfl) trivial rfl ?_
 refine .q (op_call (U := []) [] [] (nameN_ev (x.t) (by have := (h.sz x hx).1; omega)) Tryd.func9 (by kernel_rfl) rfl rfl rfl (⟨⟨_, rfl, rfl, rfl⟩, trivial⟩) (trivial) (trivial) (trivial) rfl) trivial rfl ?_
 refine .q (op_notB rfl) trivial rfl ?_
 refine .q (op_move rfl) trivial rfl ?_
 refine .know (b' := false) (by show (!nameN _) = false; rw [hvt]; rfl) ?_
 refine .q (op_move rfl) ⟨_, rfl, rfl⟩ rfl ?_
 refine .q (op_call (U := []) [] [] (nameN_ev (x.a) (by have := (h.sz x hx).2; omega)) Tryd.func9 (by kernel_rfl) rfl rfl rfl (⟨⟨_, rfl, rfl, rfl⟩, trivial⟩) (trivial) (trivial) (trivial) rfl) ⟨_, rfl, rfl⟩ rfl ?_
 refine .q (op_notB rfl) ⟨_, rfl, rfl⟩ rfl ?_
 refine .q (op_pick_false rfl rfl rfl) trivial rfl ?_
 refine .nil ?_
 show Ev _ _ _ _ _
 refine .cond_false rfl (by first | rfl | (show (!nameN _) = false; rw [hva]; rfl)) ?_
 refine .skip ?_
 show Ev _ _ _ _ _
 refine .seq ?_
 refine .region ?_
 refine .q (op_assign rfl) trivial rfl ?_
 refine .nil ?_
 show Ev _ _ _ _ _
 refine .seq ?_
 refine .seq ?_
 refine .region ?_
 refine .q (op_move rfl) trivial rfl ?_
 refine .q (op_move rfl) trivial rfl ?_
 refine .q (op_move rfl) trivial rfl ?_
 refine .q (op_call (U := []) [(500, 500), (501, 501)] [] (findY_ev a b c ep h hx) Tryd.func20 (by kernel_rfl) rfl rfl rfl (⟨⟨_, rfl, rfl, rfl⟩, ⟨_, rfl, rfl, rfl⟩, ⟨_, rfl, rfl, rfl⟩, trivial⟩) (⟨⟨_, _, rfl, rfl, rfl, rfl, (fun h => by cases h), rfl⟩, ⟨_, _, rfl, rfl, rfl, rfl, (fun h => by cases h), rfl⟩, trivial⟩) (trivial) (⟨(fun h => by cases h), (fun h => by cases h), trivial⟩) rfl) trivial rfl ?_
 refine .q (op_move rfl) trivial rfl ?_
 refine .q (op_extract rfl rfl) trivial rfl ?_
 refine .q (op_extract rfl rfl) trivial rfl ?_
 refine .a (op_allocRow zero45 rel_zero45 rfl) trivial rfl ?_
 refine .w (op_storeRow (by kernel_rfl) rfl rfl rfl rfl rfl (rfl) (rfl)) trivial rfl ?_
 refine .q (op_assign rfl) trivial rfl ?_
 refine .nil ?_
 show Ev _ _ _ _ _
 refine .seq ?_
 refine .region ?_
 refine .q (op_move rfl) trivial rfl ?_
 refine .asR (.err 155 0 (0, 0)) (nil_err _ _) ?_
 refine .q (op_eqErrNil (e := 0) Tryd.underlying47 rfl rfl) trivial rfl ?_
 refine .nil ?_
 show Ev _ _ _ _ _
 refine .cond_true rfl (rfl) ?_
 refine .seq ?_
 refine .seq ?_
 refine .region ?_
 refine .q (op_fieldAddr (m := 0) Tryd.underlying45 rfl (by kernel_rfl) rfl) trivial rfl ?_
 refine .as (.ptr 1008 2) rfl ?_
 refine .q (op_load Tryd.underlying3 rfl rfl rfl rfl (by show 2 < 5; decide)) trivial rfl ?_
 refine .q (op_move rfl) trivial rfl ?_
 refine .q (op_cmpI rfl rfl rfl) trivial rfl ?_
 refine .nil ?_
 show Ev _ _ _ _ _
 refine .cond_false rfl (by show (x.o == w) = false; simpa using hw) ?_
 refine .skip ?_
 show Ev _ _ _ _ _
 refine .region ?_
 refine .q (op_fieldAddr (m := 0) Tryd.underlying45 rfl (by kernel_rfl) rfl) trivial rfl ?_
 refine .as (.ptr 1008 2) rfl ?_
 refine .q (op_load Tryd.underlying3 rfl rfl rfl rfl (by show 2 < 5; decide)) trivial rfl ?_
 refine .q (op_assign rfl) trivial rfl ?_
 refine .nil ?_
 show Ev _ _ _ _ _
 refine .seq ?_
 refine .region ?_
 refine .q (op_move rfl) trivial rfl ?_
 refine .q (op_nilCheck rfl) trivial rfl ?_
 refine .q (op_fieldAddr (m := 0) Tryd.underlying68 rfl (by kernel_rfl) rfl) trivial rfl ?_
 refine .as (.ptr 500 4) rfl ?_
 refine .q (op_load Tryd.underlying3 rfl rfl rfl rfl (by first | omega | (simp only [AV.len]; omega) | (simp only [AV.len]; omega) | assumption | (simp [AV.len]; done))) trivial rfl ?_
 refine .q (op_addI rfl rfl ⟨by omega, by omega⟩) trivial rfl ?_
 refine .q (op_nilCheck rfl) trivial rfl ?_
 refine .q (op_fieldAddr (m := 0) Tryd.underlying68 rfl (by kernel_rfl) rfl) trivial rfl ?_
 refine .as (.ptr 500 4) rfl ?_
 refine .w (op_store inf3.sz rfl rfl rfl rfl rfl (by first | omega | (simp only [AV.len]; omega) | (simp only [AV.len]; omega) | assumption | (simp [AV.len]; done))) trivial rfl ?_
 refine .nil ?_
 show Ev _ _ _ _ _
 refine .seq ?_
 refine .drawn [[], [], [], [], [3], [3, 4], [3, 4, 5], [], [7], [0, 1, 2, 3, 4, 5, 6, 7, 8], [], [0, 1, 2, 3, 4, 5, 6, 7, 8, 9, 10]] [6, 8, 10, 11] [11] (by kernel_rfl) (by kernel_rfl) rfl ?_
 show DK _ [0, 1, 2, 3, 4, 5, 6, 7, 8, 9, 10, 11] _ _ _
 refine .q rfl (op_move rfl) trivial ?_
 refine .q rfl (op_move rfl) trivial ?_
 refine .q rfl (op_move rfl) trivial ?_
 refine .q rfl (op_move rfl) trivial ?_
 refine .q rfl (op_nilCheck rfl) trivial ?_
 refine .q rfl (op_fieldAddr (m := 0) Tryd.underlying68 rfl (by kernel_rfl) rfl) trivial ?_
 refine .as (.ptr 500 4) rfl ?_
 refine .q rfl (op_load Tryd.underlying3 rfl rfl rfl rfl (by first | omega | (simp only [AV.len]; omega) | (simp only [AV.len, List.length_set]; omega) | assumption | (simp [AV.len]; done))) trivial ?_
 refine .q rfl (op_move rfl) trivial ?_
 refine .q rfl (op_call (U := []) [] [] (tick_ev now) Tryd.func39 (by kernel_rfl) rfl rfl rfl (⟨⟨_, rfl, rfl, rfl⟩, trivial⟩) (trivial) (trivial) (trivial) rfl) trivial ?_
 refine .q rfl (op_buildS (r := .agg _) Tryd.underlying45 rfl zero45 rel_zero45 rfl rfl rfl rfl) trivial ?_
 refine .a rfl (op_allocRow zero45 rel_zero45 rfl) trivial rfl rfl ?_
 refine .w rfl (op_storeRow (by kernel_rfl) rfl rfl rfl rfl rfl (rfl) (rfl)) trivial rfl rfl ?_
 refine .nil ?_
 show Ev _ _ _ _ _
 refine .seq ?_
 refine .region ?_
 refine .q (op_move rfl) trivial rfl ?_
 refine .q (op_loadRow Tryd.underlying45 rfl (by kernel_rfl) rfl rfl rfl (rfl)) trivial rfl ?_
 refine .a (op_call (U := [(501, some ⟨mpV (putM M ck ⟨x.t, x.a, w, ep + 1, tickV now⟩).1 (putM M ck ⟨x.t, x.a, w, ep + 1, tickV now⟩).2, 0, true⟩)]) [(500, 500), (501, 501)] [] (put_ev a b c (ep + 1) h ⟨x.t, x.a, w, ep + 1, tickV now⟩ (h.sz x hx)) Tryd.func40 (by kernel_rfl) rfl rfl rfl (⟨⟨_, rfl, rfl, rfl⟩, ⟨_, rfl, rfl, rfl⟩, trivial⟩) (⟨⟨_, _, rfl, rfl, rfl, rfl, (fun h => by cases h), rfl⟩, ⟨_, _, rfl, rfl, rfl, rfl, id, rfl⟩, trivial⟩) (⟨⟨501, _, rfl, rfl, rfl, rfl, .inr ⟨rfl, _, rfl, rfl⟩⟩, trivial⟩) (⟨(fun h => by cases h), (fun _ => ⟨501, _, rfl, rfl⟩), trivial⟩) rfl) trivial rfl ?_
 refine .nil ?_
 show Ev _ _ _ _ _
 refine .seq ?_
 refine .region ?_
 refine .q (op_loadRow Tryd.underlying45 rfl (by kernel_rfl) rfl rfl rfl (rfl)) trivial rfl ?_
 refine .q (op_move rfl) trivial rfl ?_
 refine .w (op_storeRow (by kernel_rfl) rfl rfl rfl rfl rfl (rfl) (rfl)) trivial rfl ?_
 refine .q (op_assign rfl) trivial rfl ?_
 refine .q (op_assign rfl) trivial rfl ?_
 refine .nil ?_
 show Ev _ _ _ _ _
 refine .ret ?_
 show RetOk _ _ _ _ _ _ _
 exact retc3 rfl (.inl rfl) ⟨_, _, _, _, rfl, rfl, rfl, rfl, rfl, Tryd.underlying45, rfl, sz45⟩ rfl rfl ⟨rfl, rfl, trivial⟩
set_option maxRecDepth 100000 in
theorem takeQ_ev (a b c ep : Int) {M : List (Ls × Nat)} {ck : Nat} {L : List Ls} (h : MI M ck L) {t al : List UInt8} (hn : ∀ x ∈ L, ¬ (x.t = t ∧ x.a = al)) (w now : Int) (hvt : nameN t = true) (hva : nameN al = true) (eo : Nat → Nat × Nat) (hq : a ≤ ((L.filter (fun x => x.t == t)).length : Nat))  : Meets Tryd.prog 19 [.ptr 500 0, .str t, .str al, .i64 w, .i64 now] [(500, some ⟨.agg [.i64 a, .i64 b, .i64 c, .mp 501, .i64 ep], 68, false⟩), (501, some ⟨mpV (M) (ck), 0, false⟩), (2, some ⟨.agg [.err 155 (8) (offE eo (8))], errT, false⟩), (16, some ⟨.agg [.err 155 (16) (offE eo (16))], errT, false⟩)] (.tup [.agg [.str [], .str [], .i64 0, .i64 0, .i64 0], .i64 (-1), .err 155 (16) (offE eo (16))]) [] := by
 refine meets_of_ev (nt := 74) Tryd.func19 rfl rfl (Nat.le_of_ble_eq_true rfl) ?_
 refine .seq ?_
 refine .region ?_
 refine .a (op_allocRow zero45 rel_zero45 rfl) trivial rfl ?_
 refine .q (op_assign rfl) trivial rfl ?_
 refine .q (op_assign rfl) trivial rfl ?_
 refine .nil ?_
 show Ev _ _ _ _ _
 refine .seq ?_
 refine .seq ?_
 refine .region ?_
 refine .q (op_move rfl) trivial rfl ?_
 refine .q (op_call (U := []) [] [] (nameN_ev (t) (by have := nameN_len hvt; omega)) Tryd.func9 (by kernel_rfl) rfl rfl rfl (⟨⟨_, rfl, rfl, rfl⟩, trivial⟩) (trivial) (trivial) (trivial) rfl) trivial rfl ?_
 refine .q (op_notB rfl) trivial rfl ?_
 refine .q (op_move rfl) trivial rfl ?_
 refine .know (b' := false) (by show (!nameN _) = false; rw [hvt]; rfl) ?_
 refine .q (op_move rfl) ⟨_, rfl, rfl⟩ rfl ?_
 refine .q (op_call (U := []) [] [] (nameN_ev (al) (by have := nameN_len hva; omega)) Tryd.func9 (by kernel_rfl) rfl rfl rfl (⟨⟨_, rfl, rfl, rfl⟩, trivial⟩) (trivial) (trivial) (trivial) rfl) ⟨_, rfl, rfl⟩ rfl ?_
 refine .q (op_notB rfl) ⟨_, rfl, rfl⟩ rfl ?_
 refine .q (op_pick_false rfl rfl rfl) trivial rfl ?_
 refine .nil ?_
 show Ev _ _ _ _ _
 refine .cond_false rfl (by first | rfl | (show (!nameN _) = false; rw [hva]; rfl)) ?_
 refine .skip ?_
 show Ev _ _ _ _ _
 refine .seq ?_
 refine .region ?_
 refine .q (op_assign rfl) trivial rfl ?_
 refine .nil ?_
 show Ev _ _ _ _ _
 refine .seq ?_
 refine .seq ?_
 refine .region ?_
 refine .q (op_move rfl) trivial rfl ?_
 refine .q (op_move rfl) trivial rfl ?_
 refine .q (op_move rfl) trivial rfl ?_
 refine .q (op_call (U := []) [(500, 500), (501, 501)] [] (findN_ev a b c ep h (mkLen (nameN_len hvt)) (mkLen (nameN_len hva)) hn eo) Tryd.func20 (by kernel_rfl) rfl rfl rfl (⟨⟨_, rfl, rfl, rfl⟩, ⟨_, rfl, rfl, rfl⟩, ⟨_, rfl, rfl, rfl⟩, trivial⟩) (⟨⟨_, _, rfl, rfl, rfl, rfl, (fun h => by cases h), rfl⟩, ⟨_, _, rfl, rfl, rfl, rfl, (fun h => by cases h), rfl⟩, ⟨_, _, rfl, rfl, rfl, rfl, (fun h => by cases h), rfl⟩, trivial⟩) (trivial) (⟨(fun h => by cases h), (fun h => by cases h), (fun h => by cases h), trivial⟩) rfl) trivial rfl ?_
 refine .q (op_move rfl) trivial rfl ?_
 refine .q (op_extract rfl rfl) trivial rfl ?_
 refine .q (op_extract rfl rfl) trivial rfl ?_
 refine .a (op_allocRow zero45 rel_zero45 rfl) trivial rfl ?_
 refine .w (op_storeRow (by kernel_rfl) rfl rfl rfl rfl rfl (rfl) (rfl)) trivial rfl ?_
 refine .q (op_assign rfl) trivial rfl ?_
 refine .nil ?_
 show Ev _ _ _ _ _
 refine .seq ?_
 refine .region ?_
 refine .q (op_move rfl) trivial rfl ?_
 refine .q (op_eqErrNil (e := 8) Tryd.underlying47 rfl rfl) trivial rfl ?_
 refine .nil ?_
 show Ev _ _ _ _ _
 refine .cond_false rfl (rfl) ?_
 refine .seq ?_
 refine .region ?_
 refine .q (op_move rfl) trivial rfl ?_
 refine .q (op_move rfl) trivial rfl ?_
 refine .q (op_call (U := []) [(500, 500), (501, 501)] [] (roomQ_ev a b c ep h t eo hq) Tryd.func38 (by kernel_rfl) rfl rfl rfl (⟨⟨_, rfl, rfl, rfl⟩, ⟨_, rfl, rfl, rfl⟩, trivial⟩) (⟨⟨_, _, rfl, rfl, rfl, rfl, (fun h => by cases h), rfl⟩, ⟨_, _, rfl, rfl, rfl, rfl, (fun h => by cases h), rfl⟩, ⟨_, _, rfl, rfl, rfl, rfl, (fun h => by cases h), rfl⟩, trivial⟩) (trivial) (⟨(fun h => by cases h), (fun h => by cases h), (fun h => by cases h), trivial⟩) rfl) trivial rfl ?_
 refine .q (op_assign rfl) trivial rfl ?_
 refine .nil ?_
 show Ev _ _ _ _ _
 refine .seq ?_
 refine .region ?_
 refine .q (op_move rfl) trivial rfl ?_
 refine .q (op_eqErrNil (e := 16) Tryd.underlying47 rfl rfl) trivial rfl ?_
 refine .nil ?_
 show Ev _ _ _ _ _
 refine .cond_true rfl (rfl) ?_
 refine .seq ?_
 refine .region ?_
 refine .q (op_buildS (r := .agg _) Tryd.underlying45 rfl zero45 rel_zero45 rfl rfl rfl rfl) trivial rfl ?_
 refine .q (op_move rfl) trivial rfl ?_
 refine .w (op_storeRow (by kernel_rfl) rfl rfl rfl rfl rfl (rfl) (rfl)) trivial rfl ?_
 refine .q (op_assign rfl) trivial rfl ?_
 refine .q (op_assign rfl) trivial rfl ?_
 refine .nil ?_
 show Ev _ _ _ _ _
 refine .ret ?_
 show RetOk _ _ _ _ _ _ _
 exact retc3 rfl (.inl rfl) ⟨_, _, _, _, rfl, rfl, rfl, rfl, rfl, Tryd.underlying45, rfl, sz45⟩ rfl rfl trivial
set_option maxRecDepth 100000 in
theorem takeF_ev (a b c ep : Int) {M : List (Ls × Nat)} {ck : Nat} {L : List Ls} (h : MI M ck L) {t al : List UInt8} (hn : ∀ x ∈ L, ¬ (x.t = t ∧ x.a = al)) (w now : Int) (hvt : nameN t = true) (hva : nameN al = true) (eo : Nat → Nat × Nat) (hq : ¬ a ≤ ((L.filter (fun x => x.t == t)).length : Nat)) (hf : b ≤ (L.length : Nat))  : Meets Tryd.prog 19 [.ptr 500 0, .str t, .str al, .i64 w, .i64 now] [(500, some ⟨.agg [.i64 a, .i64 b, .i64 c, .mp 501, .i64 ep], 68, false⟩), (501, some ⟨mpV (M) (ck), 0, false⟩), (2, some ⟨.agg [.err 155 (8) (offE eo (8))], errT, false⟩), (9, some ⟨.agg [.err 155 (7) (offE eo (7))], errT, false⟩)] (.tup [.agg [.str [], .str [], .i64 0, .i64 0, .i64 0], .i64 (-1), .err 155 (7) (offE eo (7))]) [] := by
 refine meets_of_ev (nt := 74) Tryd.func19 rfl rfl (Nat.le_of_ble_eq_true rfl) ?_
 refine .seq ?_
 refine .region ?_
 refine .a (op_allocRow zero45 rel_zero45 rfl) trivial rfl ?_
 refine .q (op_assign rfl) trivial rfl ?_
 refine .q (op_assign rfl) trivial rfl ?_
 refine .nil ?_
 show Ev _ _ _ _ _
 refine .seq ?_
 refine .seq ?_
 refine .region ?_
 refine .q (op_move rfl) trivial rfl ?_
 refine .q (op_call (U := []) [] [] (nameN_ev (t) (by have := nameN_len hvt; omega)) Tryd.func9 (by kernel_rfl) rfl rfl rfl (⟨⟨_, rfl, rfl, rfl⟩, trivial⟩) (trivial) (trivial) (trivial) rfl) trivial rfl ?_
 refine .q (op_notB rfl) trivial rfl ?_
 refine .q (op_move rfl) trivial rfl ?_
 refine .know (b' := false) (by show (!nameN _) = false; rw [hvt]; rfl) ?_
 refine .q (op_move rfl) ⟨_, rfl, rfl⟩ rfl ?_
 refine .q (op_call (U := []) [] [] (nameN_ev (al) (by have := nameN_len hva; omega)) Tryd.func9 (by kernel_rfl) rfl rfl rfl (⟨⟨_, rfl, rfl, rfl⟩, trivial⟩) (trivial) (trivial) (trivial) rfl) ⟨_, rfl, rfl⟩ rfl ?_
 refine .q (op_notB rfl) ⟨_, rfl, rfl⟩ rfl ?_
 refine .q (op_pick_false rfl rfl rfl) trivial rfl ?_
 refine .nil ?_
 show Ev _ _ _ _ _
 refine .cond_false rfl (by first | rfl | (show (!nameN _) = false; rw [hva]; rfl)) ?_
 refine .skip ?_
 show Ev _ _ _ _ _
 refine .seq ?_
 refine .region ?_
 refine .q (op_assign rfl) trivial rfl ?_
 refine .nil ?_
 show Ev _ _ _ _ _
 refine .seq ?_
 refine .seq ?_
 refine .region ?_
 refine .q (op_move rfl) trivial rfl ?_
 refine .q (op_move rfl) trivial rfl ?_
 refine .q (op_move rfl) trivial rfl ?_
 refine .q (op_call (U := []) [(500, 500), (501, 501)] [] (findN_ev a b c ep h (mkLen (nameN_len hvt)) (mkLen (nameN_len hva)) hn eo) Tryd.func20 (by kernel_rfl) rfl rfl rfl (⟨⟨_, rfl, rfl, rfl⟩, ⟨_, rfl, rfl, rfl⟩, ⟨_, rfl, rfl, rfl⟩, trivial⟩) (⟨⟨_, _, rfl, rfl, rfl, rfl, (fun h => by cases h), rfl⟩, ⟨_, _, rfl, rfl, rfl, rfl, (fun h => by cases h), rfl⟩, ⟨_, _, rfl, rfl, rfl, rfl, (fun h => by cases h), rfl⟩, trivial⟩) (trivial) (⟨(fun h => by cases h), (fun h => by cases h), (fun h => by cases h), trivial⟩) rfl) trivial rfl ?_
 refine .q (op_move rfl) trivial rfl ?_
 refine .q (op_extract rfl rfl) trivial rfl ?_
 refine .q (op_extract rfl rfl) trivial rfl ?_
 refine .a (op_allocRow zero45 rel_zero45 rfl) trivial rfl ?_
 refine .w (op_storeRow (by kernel_rfl) rfl rfl rfl rfl rfl (rfl) (rfl)) trivial rfl ?_
 refine .q (op_assign rfl) trivial rfl ?_
 refine .nil ?_
 show Ev _ _ _ _ _
 refine .seq ?_
 refine .region ?_
 refine .q (op_move rfl) trivial rfl ?_
 refine .q (op_eqErrNil (e := 8) Tryd.underlying47 rfl rfl) trivial rfl ?_
 refine .nil ?_
 show Ev _ _ _ _ _
 refine .cond_false rfl (rfl) ?_
 refine .seq ?_
 refine .region ?_
 refine .q (op_move rfl) trivial rfl ?_
 refine .q (op_move rfl) trivial rfl ?_
 refine .q (op_call (U := []) [(500, 500), (501, 501)] [] (roomF_ev a b c ep h t eo hq hf) Tryd.func38 (by kernel_rfl) rfl rfl rfl (⟨⟨_, rfl, rfl, rfl⟩, ⟨_, rfl, rfl, rfl⟩, trivial⟩) (⟨⟨_, _, rfl, rfl, rfl, rfl, (fun h => by cases h), rfl⟩, ⟨_, _, rfl, rfl, rfl, rfl, (fun h => by cases h), rfl⟩, ⟨_, _, rfl, rfl, rfl, rfl, (fun h => by cases h), rfl⟩, trivial⟩) (trivial) (⟨(fun h => by cases h), (fun h => by cases h), (fun h => by cases h), trivial⟩) rfl) trivial rfl ?_
 refine .q (op_assign rfl) trivial rfl ?_
 refine .nil ?_
 show Ev _ _ _ _ _
 refine .seq ?_
 refine .region ?_
 refine .q (op_move rfl) trivial rfl ?_
 refine .q (op_eqErrNil (e := 7) Tryd.underlying47 rfl rfl) trivial rfl ?_
 refine .nil ?_
 show Ev _ _ _ _ _
 refine .cond_true rfl (rfl) ?_
 refine .seq ?_
 refine .region ?_
 refine .q (op_buildS (r := .agg _) Tryd.underlying45 rfl zero45 rel_zero45 rfl rfl rfl rfl) trivial rfl ?_
 refine .q (op_move rfl) trivial rfl ?_
 refine .w (op_storeRow (by kernel_rfl) rfl rfl rfl rfl rfl (rfl) (rfl)) trivial rfl ?_
 refine .q (op_assign rfl) trivial rfl ?_
 refine .q (op_assign rfl) trivial rfl ?_
 refine .nil ?_
 show Ev _ _ _ _ _
 refine .ret ?_
 show RetOk _ _ _ _ _ _ _
 exact retc3 rfl (.inl rfl) ⟨_, _, _, _, rfl, rfl, rfl, rfl, rfl, Tryd.underlying45, rfl, sz45⟩ rfl rfl trivial
set_option maxRecDepth 100000 in
theorem takeI_ev (a b c ep : Int) {M : List (Ls × Nat)} {ck : Nat} {L : List Ls} (h : MI M ck L) {t al : List UInt8} (hn : ∀ x ∈ L, ¬ (x.t = t ∧ x.a = al)) (w now : Int) (hvt : nameN t = true) (hva : nameN al = true) (eo : Nat → Nat × Nat) (hq : ¬ a ≤ ((L.filter (fun x => x.t == t)).length : Nat)) (hf : ¬ b ≤ (L.length : Nat)) (hep : 0 ≤ ep ∧ ep ≤ 1000000000)  : Meets Tryd.prog 19 [.ptr 500 0, .str t, .str al, .i64 w, .i64 now] [(500, some ⟨.agg [.i64 a, .i64 b, .i64 c, .mp 501, .i64 ep], 68, true⟩), (501, some ⟨mpV (M) (ck), 0, true⟩), (2, some ⟨.agg [.err 155 (8) (offE eo (8))], errT, false⟩)] (.tup [lsV ⟨t, al, w, ep + 1, tickV now⟩, .i64 (-1), .val .nilIface]) [(500, some ⟨.agg [.i64 a, .i64 b, .i64 c, .mp 501, .i64 (ep + 1)], 68, true⟩), (501, some ⟨mpV (putM M ck ⟨t, al, w, ep + 1, tickV now⟩).1 (putM M ck ⟨t, al, w, ep + 1, tickV now⟩).2, 0, true⟩)] := by
 refine meets_of_ev (nt := 74) Tryd.func19 rfl rfl (Nat.le_of_ble_eq_true rfl) ?_
 refine .seq ?_
 refine .region ?_
 refine .a (op_allocRow zero45 rel_zero45 rfl) trivial rfl ?_
 refine .q (op_assign rfl) trivial rfl ?_
 refine .q (op_assign rfl) trivial rfl ?_
 refine .nil ?_
 show Ev _ _ _ _ _
 refine .seq ?_
 refine .seq ?_
 refine .region ?_
 refine .q (op_move rfl) trivial rfl ?_
 refine .q (op_call (U := []) [] [] (nameN_ev (t) (by have := nameN_len hvt; omega)) Tryd.func9 (by kernel_rfl) rfl rfl rfl (⟨⟨_, rfl, rfl, rfl⟩, trivial⟩) (trivial) (trivial) (trivial) rfl) trivial rfl ?_
 refine .q (op_notB rfl) trivial rfl ?_
 refine .q (op_move rfl) trivial rfl ?_
 refine .know (b' := false) (by show (!nameN _) = false; rw [hvt]; rfl) ?_
 refine .q (op_move rfl) ⟨_, rfl, rfl⟩ rfl ?_
 refine .q (op_call (U := []) [] [] (nameN_ev (al) (by have := nameN_len hva; omega)) Tryd.func9 (by kernel_rfl) rfl rfl rfl (⟨⟨_, rfl, rfl, rfl⟩, trivial⟩) (trivial) (trivial) (trivial) rfl) ⟨_, rfl, rfl⟩ rfl ?_
 refine .q (op_notB rfl) ⟨_, rfl, rfl⟩ rfl ?_
 refine .q (op_pick_false rfl rfl rfl) trivial rfl ?_
 refine .nil ?_
 show Ev _ _ _ _ _
 refine .cond_false rfl (by first | rfl | (show (!nameN _) = false; rw [hva]; rfl)) ?_
 refine .skip ?_
 show Ev _ _ _ _ _
 refine .seq ?_
 refine .region ?_
 refine .q (op_assign rfl) trivial rfl ?_
 refine .nil ?_
 show Ev _ _ _ _ _
 refine .seq ?_
 refine .seq ?_
 refine .region ?_
 refine .q (op_move rfl) trivial rfl ?_
 refine .q (op_move rfl) trivial rfl ?_
 refine .q (op_move rfl) trivial rfl ?_
 refine .q (op_call (U := []) [(500, 500), (501, 501)] [] (findN_ev a b c ep h (mkLen (nameN_len hvt)) (mkLen (nameN_len hva)) hn eo) Tryd.func20 (by kernel_rfl) rfl rfl rfl (⟨⟨_, rfl, rfl, rfl⟩, ⟨_, rfl, rfl, rfl⟩, ⟨_, rfl, rfl, rfl⟩, trivial⟩) (⟨⟨_, _, rfl, rfl, rfl, rfl, (fun h => by cases h), rfl⟩, ⟨_, _, rfl, rfl, rfl, rfl, (fun h => by cases h), rfl⟩, ⟨_, _, rfl, rfl, rfl, rfl, (fun h => by cases h), rfl⟩, trivial⟩) (trivial) (⟨(fun h => by cases h), (fun h => by cases h), (fun h => by cases h), trivial⟩) rfl) trivial rfl ?_
 refine .q (op_move rfl) trivial rfl ?_
 refine .q (op_extract rfl rfl) trivial rfl ?_
 refine .q (op_extract rfl rfl) trivial rfl ?_
 refine .a (op_allocRow zero45 rel_zero45 rfl) trivial rfl ?_
 refine .w (op_storeRow (by kernel_rfl) rfl rfl rfl rfl rfl (rfl) (rfl)) trivial rfl ?_
 refine .q (op_assign rfl) trivial rfl ?_
 refine .nil ?_
 show Ev _ _ _ _ _
 refine .seq ?_
 refine .region ?_
 refine .q (op_move rfl) trivial rfl ?_
 refine .q (op_eqErrNil (e := 8) Tryd.underlying47 rfl rfl) trivial rfl ?_
 refine .nil ?_
 show Ev _ _ _ _ _
 refine .cond_false rfl (rfl) ?_
 refine .seq ?_
 refine .region ?_
 refine .q (op_move rfl) trivial rfl ?_
 refine .q (op_move rfl) trivial rfl ?_
 refine .q (op_call (U := []) [(500, 500), (501, 501)] [] (roomI_ev a b c ep h t hq hf) Tryd.func38 (by kernel_rfl) rfl rfl rfl (⟨⟨_, rfl, rfl, rfl⟩, ⟨_, rfl, rfl, rfl⟩, trivial⟩) (⟨⟨_, _, rfl, rfl, rfl, rfl, (fun h => by cases h), rfl⟩, ⟨_, _, rfl, rfl, rfl, rfl, (fun h => by cases h), rfl⟩, trivial⟩) (trivial) (⟨(fun h => by cases h), (fun h => by cases h), trivial⟩) rfl) trivial rfl ?_
 refine .q (op_assign rfl) trivial rfl ?_
 refine .nil ?_
 show Ev _ _ _ _ _
 refine .seq ?_
 refine .region ?_
 refine .q (op_move rfl) trivial rfl ?_
 refine .asR (.err 155 0 (0, 0)) (nil_err _ _) ?_
 refine .q (op_eqErrNil (e := 0) Tryd.underlying47 rfl rfl) trivial rfl ?_
 refine .nil ?_
 show Ev _ _ _ _ _
 refine .cond_false rfl (rfl) ?_
 refine .skip ?_
 show Ev _ _ _ _ _
 refine .seq ?_
 refine .region ?_
 refine .q (op_move rfl) trivial rfl ?_
 refine .q (op_nilCheck rfl) trivial rfl ?_
 refine .q (op_fieldAddr (m := 0) Tryd.underlying68 rfl (by kernel_rfl) rfl) trivial rfl ?_
 refine .as (.ptr 500 4) rfl ?_
 refine .q (op_load Tryd.underlying3 rfl rfl rfl rfl (by first | omega | (simp only [AV.len]; omega) | (simp only [AV.len]; omega) | assumption | (simp [AV.len]; done))) trivial rfl ?_
 refine .q (op_addI rfl rfl ⟨by omega, by omega⟩) trivial rfl ?_
 refine .q (op_nilCheck rfl) trivial rfl ?_
 refine .q (op_fieldAddr (m := 0) Tryd.underlying68 rfl (by kernel_rfl) rfl) trivial rfl ?_
 refine .as (.ptr 500 4) rfl ?_
 refine .w (op_store inf3.sz rfl rfl rfl rfl rfl (by first | omega | (simp only [AV.len]; omega) | (simp only [AV.len]; omega) | assumption | (simp [AV.len]; done))) trivial rfl ?_
 refine .nil ?_
 show Ev _ _ _ _ _
 refine .seq ?_
 refine .drawn [[], [], [], [], [3], [3, 4], [3, 4, 5], [], [7], [0, 1, 2, 3, 4, 5, 6, 7, 8], [], [0, 1, 2, 3, 4, 5, 6, 7, 8, 9, 10]] [6, 8, 10, 11] [11] (by kernel_rfl) (by kernel_rfl) rfl ?_
 show DK _ [0, 1, 2, 3, 4, 5, 6, 7, 8, 9, 10, 11] _ _ _
 refine .q rfl (op_move rfl) trivial ?_
 refine .q rfl (op_move rfl) trivial ?_
 refine .q rfl (op_move rfl) trivial ?_
 refine .q rfl (op_move rfl) trivial ?_
 refine .q rfl (op_nilCheck rfl) trivial ?_
 refine .q rfl (op_fieldAddr (m := 0) Tryd.underlying68 rfl (by kernel_rfl) rfl) trivial ?_
 refine .as (.ptr 500 4) rfl ?_
 refine .q rfl (op_load Tryd.underlying3 rfl rfl rfl rfl (by first | omega | (simp only [AV.len]; omega) | (simp only [AV.len, List.length_set]; omega) | assumption | (simp [AV.len]; done))) trivial ?_
 refine .q rfl (op_move rfl) trivial ?_
 refine .q rfl (op_call (U := []) [] [] (tick_ev now) Tryd.func39 (by kernel_rfl) rfl rfl rfl (⟨⟨_, rfl, rfl, rfl⟩, trivial⟩) (trivial) (trivial) (trivial) rfl) trivial ?_
 refine .q rfl (op_buildS (r := .agg _) Tryd.underlying45 rfl zero45 rel_zero45 rfl rfl rfl rfl) trivial ?_
 refine .a rfl (op_allocRow zero45 rel_zero45 rfl) trivial rfl rfl ?_
 refine .w rfl (op_storeRow (by kernel_rfl) rfl rfl rfl rfl rfl (rfl) (rfl)) trivial rfl rfl ?_
 refine .nil ?_
 show Ev _ _ _ _ _
 refine .seq ?_
 refine .region ?_
 refine .q (op_move rfl) trivial rfl ?_
 refine .q (op_loadRow Tryd.underlying45 rfl (by kernel_rfl) rfl rfl rfl (rfl)) trivial rfl ?_
 refine .a (op_call (U := [(501, some ⟨mpV (putM M ck ⟨t, al, w, ep + 1, tickV now⟩).1 (putM M ck ⟨t, al, w, ep + 1, tickV now⟩).2, 0, true⟩)]) [(500, 500), (501, 501)] [] (put_ev a b c (ep + 1) h ⟨t, al, w, ep + 1, tickV now⟩ ⟨nameN_len hvt, nameN_len hva⟩) Tryd.func40 (by kernel_rfl) rfl rfl rfl (⟨⟨_, rfl, rfl, rfl⟩, ⟨_, rfl, rfl, rfl⟩, trivial⟩) (⟨⟨_, _, rfl, rfl, rfl, rfl, (fun h => by cases h), rfl⟩, ⟨_, _, rfl, rfl, rfl, rfl, id, rfl⟩, trivial⟩) (⟨⟨501, _, rfl, rfl, rfl, rfl, .inr ⟨rfl, _, rfl, rfl⟩⟩, trivial⟩) (⟨(fun h => by cases h), (fun _ => ⟨501, _, rfl, rfl⟩), trivial⟩) rfl) trivial rfl ?_
 refine .nil ?_
 show Ev _ _ _ _ _
 refine .seq ?_
 refine .region ?_
 refine .q (op_loadRow Tryd.underlying45 rfl (by kernel_rfl) rfl rfl rfl (rfl)) trivial rfl ?_
 refine .q (op_move rfl) trivial rfl ?_
 refine .w (op_storeRow (by kernel_rfl) rfl rfl rfl rfl rfl (rfl) (rfl)) trivial rfl ?_
 refine .q (op_assign rfl) trivial rfl ?_
 refine .q (op_assign rfl) trivial rfl ?_
 refine .nil ?_
 show Ev _ _ _ _ _
 refine .ret ?_
 show RetOk _ _ _ _ _ _ _
 exact retc3 rfl (.inl rfl) ⟨_, _, _, _, rfl, rfl, rfl, rfl, rfl, Tryd.underlying45, rfl, sz45⟩ rfl rfl ⟨rfl, rfl, trivial⟩
end Go.Proofs.YtpmambceojbkaaaDoor
namespace Go.Proofs.YtpmambceojbkaaaDoor
open Go.RowKit
def smallB (c : UInt8) : Bool := decide (97 ≤ c) && decide (c ≤ 122)
def digitB (c : UInt8) : Bool := decide (48 ≤ c) && decide (c ≤ 57)
def dashB (s : List UInt8) (i : Nat) : Bool := (s.getD i 0 == 45) && (decide (0 < (i : Int)) && decide ((i : Int) + 1 < (s.length : Int)))
def goodR (s : List UInt8) (i : Nat) : Prop := ∀ j, j < i → smallB (s.getD j 0) = true ∨ digitB (s.getD j 0) = true ∨ dashB s j = true
theorem good0 (s : List UInt8) : goodR s 0 := fun _j hj => absurd hj (Nat.not_lt_zero _)
theorem good_step {s : List UInt8} {i : Nat} (h : goodR s i) (k : smallB (s.getD i 0) = true ∨ digitB (s.getD i 0) = true ∨ dashB s i = true) : goodR s (i + 1) := fun j hj => by
  rcases Nat.lt_succ_iff_lt_or_eq.1 hj with q | q
  · exact h j q
  · subst q; exact k
theorem nameB_or (c : UInt8) : nameB c = (smallB c || digitB c || c == 45) := rfl
theorem all_getD {s : List UInt8} : s.all nameB = true ↔ ∀ j, j < s.length → nameB (s.getD j 0) = true := by
  rw [List.all_eq_true]
  constructor
  · intro h j hj
    rw [List.getD_eq_getElem?_getD, List.getElem?_eq_getElem hj]
    exact h _ (List.getElem_mem hj)
  · intro h x hx
    obtain ⟨j, hj, rfl⟩ := List.getElem_of_mem hx
    have := h j hj
    rwa [List.getD_eq_getElem?_getD, List.getElem?_eq_getElem hj] at this
theorem small45 : smallB 45 = false := by decide
theorem digit45 : digitB 45 = false := by decide
theorem nameN_iff (s : List UInt8) : nameN s = true ↔ goodR s s.length ∧ 0 < s.length ∧ s.length ≤ 63 := by
  unfold nameN
  simp only [Bool.and_eq_true, decide_eq_true_eq, bne_iff_ne, ne_eq, all_getD]
  constructor
  · rintro ⟨⟨⟨⟨h1, h2⟩, h3⟩, h4⟩, h5⟩
    refine ⟨fun j hj => ?_, h1, h2⟩
    have := h3 j hj
    rw [nameB_or, Bool.or_eq_true, Bool.or_eq_true] at this
    rcases this with (q | q) | q
    · exact .inl q
    · exact .inr (.inl q)
    · refine .inr (.inr ?_)
      have q' : s.getD j 0 = 45 := by simpa using q
      have hj0 : j ≠ 0 := fun e => h4 (by rw [← e]; exact q')
      have hj1 : j ≠ s.length - 1 := fun e => h5 (by rw [← e]; exact q')
      unfold dashB
      rw [q, decide_eq_true (show (0 : Int) < (j : Int) by omega), decide_eq_true (show (j : Int) + 1 < (s.length : Int) by omega)]
      rfl
  · rintro ⟨h1, h2, h3⟩
    have dash : ∀ j, j < s.length → s.getD j 0 = 45 → 0 < j ∧ j + 1 < s.length := fun j hj e => by
      rcases h1 j hj with q | q | q
      · rw [e, small45] at q; cases q
      · rw [e, digit45] at q; cases q
      · unfold dashB at q
        simp only [Bool.and_eq_true, decide_eq_true_eq] at q
        omega
    refine ⟨⟨⟨⟨h2, h3⟩, fun j hj => ?_⟩, fun e => ?_⟩, fun e => ?_⟩
    · rw [nameB_or]
      rcases h1 j hj with q | q | q
      · rw [q]; rfl
      · rw [q, Bool.or_true]; rfl
      · unfold dashB at q
        simp only [Bool.and_eq_true] at q
        rw [q.1, Bool.or_true]
    · have := dash 0 h2 e; omega
    · have := dash (s.length - 1) (by omega) e; omega
theorem rv_bad {s : List UInt8} {i : Nat} (hi : i < s.length) (h1 : (!smallB (s.getD i 0)) = true) (h2 : (!digitB (s.getD i 0)) = true) (h3 : (!dashB s i) = true) : false = nameN s := by
  cases h : nameN s with
  | false => rfl
  | true =>
    rcases ((nameN_iff s).1 h).1 i hi with q | q | q
    · rw [q] at h1; cases h1
    · rw [q] at h2; cases h2
    · rw [q] at h3; cases h3
theorem rv_end {s : List UInt8} {i : Nat} (hi : i ≤ s.length) (hn : ¬ (i : Int) < (s.length : Int)) (h : goodR s i) : (decide (1 ≤ (s.length : Int)) && decide ((s.length : Int) ≤ 63)) = nameN s := by
  have e : i = s.length := by omega
  subst e
  rw [Bool.eq_iff_iff, nameN_iff]
  simp only [Bool.and_eq_true, decide_eq_true_eq]
  exact ⟨fun q => ⟨h, by omega, by omega⟩, fun q => by omega⟩
theorem op_fieldAddr_fptr {P : Program} {T : Nat → Option AV} {H : Hp} {nm : Nat} {wr : Bool} {d : Option Tmp} {ty : TypeId} {ps : String} {af : Array Edge} {gd : Option (Nat × Bool)} {s : TypeId} {x : Operand} {k m : Nat} {fs : Array Field} {f : Field} {cs : List AV} (hu : P.underlying s = some (.struct fs)) (hf : fs[k]? = some f) (hz : (P.info? f.type).map (·.size) = some (m + 1)) (hx : aev T x = some (.fptr cs)) (hl : f.offset < cs.length) :
    OpSem P T H ⟨d, .fieldAddr s x k, ty, ps, af, gd⟩ nm wr (.fptr (cs.drop f.offset)) [] :=
  .quiet fun E a w h => by
    obtain ⟨L, g, q, o, z, h1, h2, h3, h4, h5, h6⟩ := (h x mem1 _ hx).fptr_inv
    refine ⟨.pointer (some ⟨q, o + f.offset, none⟩), ?_, .fptr _ L (fun i => g (f.offset + i)) q (o + f.offset) z h1 (fun x hx => h2 x (List.mem_of_mem_drop hx)) (fun i hi => ?_) (fun i v hv => ?_) (by rw [List.length_drop]; omega)⟩
    · simp [execOp, h6, Instr.fieldAt, Instr.sureAddr, run_underlying hu, hf, fieldPlace, run_sizeOf_is hz, add_at]
    · rw [List.length_drop] at hi; rw [Nat.add_assoc]; exact h3 _ (by omega)
    · rw [List.getElem?_drop] at hv; exact h4 _ _ hv
theorem ls_owner {l : List Ls} {i : Nat} (h : i < l.length) : (((lsC l).drop (i * 5)).drop 2)[0]? = some (.i64 (l.getD i default).o) := by rw [lsC_drop h]; rfl
theorem ls_long {l : List Ls} {i : Nat} (h : i < l.length) : 2 < ((lsC l).drop (i * 5)).length := by rw [List.length_drop, lsC_len]; omega
theorem run_mapM4 {P : Program} {w : World} (f : ResultVar → Sem Value) (r1 r2 r3 r4 : ResultVar) (y1 y2 y3 y4 : Value) (h1 : (f r1).run P w = .ok y1 w) (h2 : (f r2).run P w = .ok y2 w) (h3 : (f r3).run P w = .ok y3 w) (h4 : (f r4).run P w = .ok y4 w) : ((#[r1, r2, r3, r4] : Array ResultVar).mapM f).run P w = .ok #[y1, y2, y3, y4] w := by
  simp [h1, h2, h3, h4]
theorem retc4 {P : Program} {nt : Nat} {st : St} {fn : Func} {r1 r2 r3 r4 : ResultVar} {v1 v2 v3 v4 : AV} {H1 : List (Nat × Option ABlk)} {e : Exit} (hr : fn.results = #[r1, r2, r3, r4]) (he : e = .ret ∨ e = .normal) (h1 : ResOk P st r1 v1) (h2 : ResOk P st r2 v2) (h3 : ResOk P st r3 v3) (h4 : ResOk P st r4 v4) (hH : HSub (hget st.H) H1) : RetOk P fn nt (.tup [v1, v2, v3, v4]) H1 e st :=
  ⟨he, hH.spec, fun E S n0 a w hR => by
    obtain ⟨y1, g1, g2⟩ := h1.run hR
    obtain ⟨y2, g3, g4⟩ := h2.run hR
    obtain ⟨y3, g5, g6⟩ := h3.run hR
    obtain ⟨y4, g7, g8⟩ := h4.run hR
    refine ⟨.tuple #[y1, y2, y3, y4], ?_, .tup _ _ rfl fun i x y hx hy => ?_⟩
    · have h9 := run_mapM4 (P := P) (w := w) (fun r => match r with | .tmp t => pure (a.tmps.getD t undef) | .cell q t => do loadVar t (← asAddr (a.tmps.getD q undef)) : ResultVar → Sem Value) r1 r2 r3 r4 y1 y2 y3 y4 g1 g3 g5 g7
      unfold results
      rw [hr, Sem.run_bind]
      refine (congrArg (fun r => Result.andThen r _) h9).trans ?_
      rfl
    · match i, hx, hy with
      | 0, hx, hy => simp at hx hy; subst hx; subst hy; exact g2
      | 1, hx, hy => simp at hx hy; subst hx; subst hy; exact g4
      | 2, hx, hy => simp at hx hy; subst hx; subst hy; exact g6
      | 3, hx, hy => simp at hx hy; subst hx; subst hy; exact g8
      | n + 4, hx, hy => simp at hx⟩
theorem ins_skip {x : Ls} {d : Bool} {L A : List Ls} {i : Nat} (hv : insL x false L = A ++ insL x d (L.drop i)) (hi : i < L.length) (h : kEq (L.getD i default) x) : insL x false L = A ++ insL x d (L.drop (i + 1)) := by
  rw [hv, drop_cons hi]
  congr 1
  conv => lhs; unfold insL
  rw [if_pos h]
theorem ins_keep {x : Ls} {d : Bool} {L A : List Ls} {i : Nat} (hv : insL x false L = A ++ insL x d (L.drop i)) (hi : i < L.length) (h : ¬ kEq (L.getD i default) x) (k : (!d && decide (kLt x (L.getD i default))) = false) : insL x false L = (A ++ [L.getD i default]) ++ insL x d (L.drop (i + 1)) := by
  rw [hv, drop_cons hi, List.append_assoc]
  congr 1
  conv => lhs; unfold insL
  rw [if_neg h, if_neg (by rw [k]; decide)]; rfl
theorem ins_put {x : Ls} {L A : List Ls} {i : Nat} (hv : insL x false L = A ++ insL x false (L.drop i)) (hi : i < L.length) (h : ¬ kEq (L.getD i default) x) (k : kLt x (L.getD i default)) : insL x false L = ((A ++ [x]) ++ [L.getD i default]) ++ insL x true (L.drop (i + 1)) := by
  rw [hv, drop_cons hi, List.append_assoc, List.append_assoc]
  congr 1
  conv => lhs; unfold insL
  rw [if_neg h, if_pos (by simpa using k)]; rfl
theorem ins_last {x : Ls} {L A : List Ls} {i : Nat} (hv : insL x false L = A ++ insL x false (L.drop i)) (hi : L.length ≤ i) : insL x false L = A ++ [x] := by
  rw [hv, List.drop_eq_nil_of_le hi]; rfl
theorem ins_done {x : Ls} {L A : List Ls} {i : Nat} (hv : insL x false L = A ++ insL x true (L.drop i)) (hi : L.length ≤ i) : insL x false L = A := by
  rw [hv, List.drop_eq_nil_of_le hi]; exact List.append_nil _
end Go.Proofs.YtpmambceojbkaaaDoor
namespace Go.Proofs.YtpmambceojbkaaaDoor
open Go.RowKit
theorem infLeaseR : Inf Tryd.prog 70 5 (.agg #[.string ⟨#[]⟩, .string ⟨#[]⟩, .int .i64 0, .int .i64 0, .int .i64 0]) := Inf.mk (b := 56) (by kernel_rfl) (by decide) rfl
theorem at0 {t a : List UInt8} {L : List Ls} : atI t a 0 L = atI t a 0 (L.drop 0) := by rw [List.drop_zero]
theorem fsl_whole (l : List Ls) {n : Nat} (h : n = l.length) : AV.fsl (((AV.agg (lsC l)).list.drop 0).take (n * 5)) n 5 = .fsl (lsC l) l.length 5 := by subst h; rw [lsC_whole]
set_option maxRecDepth 100000 in
theorem rtick_ev (n : Int) : Meets Tryd.prog 49 [.i64 n] [] (.i64 (tickV n)) [] := by
 refine meets_of_ev (nt := 6) Tryd.func49 rfl rfl (Nat.le_of_ble_eq_true rfl) ?_
 refine .seq ?_
 refine .region ?_
 refine .q (op_assign rfl) trivial rfl ?_
 refine .nil ?_
 show Ev _ _ _ _ _
 refine .seq ?_
 refine .region ?_
 refine .q (op_move rfl) trivial rfl ?_
 refine .q (op_minI rfl rfl) trivial rfl ?_
 refine .q (op_maxI rfl rfl) trivial rfl ?_
 refine .q (op_assign rfl) trivial rfl ?_
 refine .nil ?_
 show Ev _ _ _ _ _
 refine .ret ?_
 show RetOk _ _ _ _ _ _ _
 exact ret1v rfl (.inl rfl) rfl (congrArg AV.i64 (by unfold tickV; omega)) trivial
set_option maxRecDepth 100000 in
theorem rnew_ev (a b c : Int) : Meets Tryd.prog 13 [.i64 a, .i64 b, .i64 c] [] (.agg [.i64 (min (max a 0) 64), .i64 (min (max b 0) 4096), .i64 (min (max c 1) 1073741824), .i64 0, .nilsl]) [] := by
 refine meets_of_ev (nt := 17) Tryd.func13 rfl rfl (Nat.le_of_ble_eq_true rfl) ?_
 refine .seq ?_
 refine .region ?_
 refine .a (op_allocRow zero32 rel_zero32 rfl) trivial rfl ?_
 refine .nil ?_
 show Ev _ _ _ _ _
 refine .seq ?_
 refine .region ?_
 refine .q (op_move rfl) trivial rfl ?_
 refine .q (op_minI rfl rfl) trivial rfl ?_
 refine .q (op_maxI rfl rfl) trivial rfl ?_
 refine .as (.i64 (min (max a 0) 64)) (congrArg AV.i64 (by omega)) ?_
 refine .q (op_move rfl) trivial rfl ?_
 refine .q (op_minI rfl rfl) trivial rfl ?_
 refine .q (op_maxI rfl rfl) trivial rfl ?_
 refine .as (.i64 (min (max b 0) 4096)) (congrArg AV.i64 (by omega)) ?_
 refine .q (op_move rfl) trivial rfl ?_
 refine .q (op_minI rfl rfl) trivial rfl ?_
 refine .q (op_maxI rfl rfl) trivial rfl ?_
 refine .as (.i64 (min (max c 1) 1073741824)) (congrArg AV.i64 (by omega)) ?_
 refine .q (op_buildS (r := .agg _) Tryd.underlying32 rfl zero32 rel_zero32 rfl rfl rfl rfl) trivial rfl ?_
 refine .w (op_storeRow (by kernel_rfl) rfl rfl rfl rfl rfl (rfl) (rfl)) trivial rfl ?_
 refine .nil ?_
 show Ev _ _ _ _ _
 refine .ret ?_
 show RetOk _ _ _ _ _ _ _
 exact retc1 rfl (.inl rfl) ⟨_, _, _, _, rfl, rfl, rfl, rfl, rfl, Tryd.underlying32, rfl, sz32⟩ trivial
set_option maxRecDepth 100000 in
theorem rat_ev (a b c ep : Int) (L : List Ls) (hlen : L.length ≤ 4096) (t al : List UInt8)  : Meets Tryd.prog 31 [.agg [.i64 a, .i64 b, .i64 c, .i64 ep, .fsl (lsC L) L.length 5], .str t, .str al] [] (.i64 (atI t al 0 L)) [] := by
 refine meets_of_ev (nt := 29) Tryd.func31 rfl rfl (Nat.le_of_ble_eq_true rfl) ?_
 refine .seq ?_
 refine .region ?_
 refine .a (op_boxRow rfl rfl) trivial rfl ?_
 refine .q (op_assign rfl) trivial rfl ?_
 refine .nil ?_
 show Ev _ _ _ _ _
 refine .seq ?_
 refine .seq ?_
 refine .region ?_
 refine .q (op_fieldAddr (m := 0) Tryd.underlying32 rfl (by kernel_rfl) rfl) trivial rfl ?_
 refine .as (.ptr 1000 4) rfl ?_
 refine .q (op_load Tryd.underlying30 rfl rfl rfl rfl (by show 4 < 5; decide)) trivial rfl ?_
 refine .q (op_len_fsl Tryd.underlying30 rfl) trivial rfl ?_
 refine .q (op_move rfl) trivial rfl ?_
 refine .nil ?_
 show Ev _ _ _ _ _
 refine .block ?_
 refine Ev.loop (ι := { i : Nat // i ≤ L.length ∧ atI t al 0 L = atI t al i (L.drop i) }) (fun q => ⟨[(1, .str t), (2, .str al), (10, .fsl (lsC L) L.length 5), (11, .i64 ((L.length : Nat) : Int)), (12, .i64 ((q.1 : Nat) : Int))], [], 1008⟩) (fun q => L.length - q.1) ⟨0, Nat.zero_le _, at0⟩ (StLe.mk [] rfl rfl ⟨⟨_, rfl, by first | rfl | (simp only [AV.ren]; congr 1; omega), rfl⟩, ⟨_, rfl, by first | rfl | (simp only [AV.ren]; congr 1; omega), rfl⟩, ⟨_, rfl, by first | rfl | (simp only [AV.ren]; congr 1; omega), rfl⟩, ⟨_, rfl, by first | rfl | (simp only [AV.ren]; congr 1; omega), rfl⟩, ⟨_, rfl, by first | rfl | (simp only [AV.ren]; congr 1; omega), rfl⟩, trivial⟩ trivial) ?_
 rintro ⟨i, hi0, hv⟩
 dsimp only
 refine .seq ?_
 refine .region ?_
 refine .q (op_cmpI rfl rfl rfl) trivial rfl ?_
 refine .nil ?_
 show Ev _ _ _ _ _
 refine .seq ?_
 refine .cond rfl (fun hc13 => ?_) (fun hc13 => ?_)
 ·skip
  refine .skip ?_
  show Ev _ _ _ _ _
  refine .seq ?_
  refine .block ?_
  refine .seq ?_
  refine .region ?_
  have hi : i < L.length := by have := of_decide_eq_true hc13; omega
  refine .q (op_move rfl) trivial rfl ?_
  refine .q (op_indexAddr_fsl Tryd.underlying30 infLeaseR.sz (by decide) rfl rfl (i := i) rfl (hi)) trivial rfl ?_
  refine .q (op_loadRow_fptr (v := lsV ((L.getD i default))) Tryd.underlying70 rfl infLeaseR.sz rfl rfl (ls_take (hi)) rfl) trivial rfl ?_
  refine .a (op_allocRow zero70 rel_zero70 rfl) trivial rfl ?_
  refine .q (op_assign rfl) trivial rfl ?_
  refine .w (op_storeRow (by kernel_rfl) rfl rfl rfl rfl rfl (rfl) (rfl)) trivial rfl ?_
  refine .nil ?_
  show Ev _ _ _ _ _
  refine .seq ?_
  refine .region ?_
  refine .q (op_fieldAddr (m := 0) Tryd.underlying70 rfl (by kernel_rfl) rfl) trivial rfl ?_
  refine .as (.ptr 1008 0) rfl ?_
  refine .q (op_load Tryd.underlying9 rfl rfl rfl rfl (by show 0 < 5; decide)) trivial rfl ?_
  refine .q (op_move rfl) trivial rfl ?_
  refine .q (op_eqS rfl rfl rfl) trivial rfl ?_
  refine .q (op_move rfl) trivial rfl ?_
  refine .split (fun hg21 => ?_) (fun hg21 => ?_)
  ·skip
   refine .q (op_fieldAddr (m := 0) Tryd.underlying70 rfl (by kernel_rfl) rfl) ⟨_, rfl, rfl⟩ rfl ?_
   refine .as (.ptr 1008 1) rfl ?_
   refine .q (op_load Tryd.underlying9 rfl rfl rfl rfl (by show 1 < 5; decide)) ⟨_, rfl, rfl⟩ rfl ?_
   refine .q (op_move rfl) ⟨_, rfl, rfl⟩ rfl ?_
   refine .q (op_eqS rfl rfl rfl) ⟨_, rfl, rfl⟩ rfl ?_
   refine .q (op_pick_true rfl rfl rfl) trivial rfl ?_
   refine .nil ?_
   show Ev _ _ _ _ _
   refine .cond rfl (fun hc26 => ?_) (fun hc26 => ?_)
   ·skip
    refine .seq ?_
    refine .region ?_
    refine .q (op_move rfl) trivial rfl ?_
    refine .q (op_assign rfl) trivial rfl ?_
    refine .nil ?_
    show Ev _ _ _ _ _
    refine .ret ?_
    show RetOk _ _ _ _ _ _ _
    exact ret1v rfl (.inl rfl) rfl (congrArg AV.i64 (by first | exact at_hit hv hi hg21 hc26 | exact at_end hv (of_decide_eq_false hc13))) trivial
   ·skip
    refine .skip ?_
    show Ev _ _ _ _ _
    refine .region ?_
    refine .q (op_addI rfl rfl ⟨by omega, by omega⟩) trivial rfl ?_
    refine .q (op_move rfl) trivial rfl ?_
    refine .nil ?_
    exact ⟨⟨i + 1, hi, at_step hv hi (fun hc => by first | (rw [hg21] at hc; exact absurd hc.1 (by decide)) | (rw [hc26] at hc; exact absurd hc.2 (by decide)))⟩, by show _ - (i + 1) < _ - i; omega, StLe.mk [] rfl rfl ⟨⟨_, rfl, by first | rfl | (simp only [AV.ren]; congr 1; omega), rfl⟩, ⟨_, rfl, by first | rfl | (simp only [AV.ren]; congr 1; omega), rfl⟩, ⟨_, rfl, by first | rfl | (simp only [AV.ren]; congr 1; omega), rfl⟩, ⟨_, rfl, by first | rfl | (simp only [AV.ren]; congr 1; omega), rfl⟩, ⟨_, rfl, by first | rfl | (simp only [AV.ren]; congr 1; omega), rfl⟩, trivial⟩ trivial⟩
  ·skip
   refine .no ⟨_, rfl, rfl⟩ rfl ?_
   refine .no ⟨_, rfl, rfl⟩ rfl ?_
   refine .no ⟨_, rfl, rfl⟩ rfl ?_
   refine .no ⟨_, rfl, rfl⟩ rfl ?_
   refine .q (op_pick_false rfl rfl rfl) trivial rfl ?_
   refine .nil ?_
   show Ev _ _ _ _ _
   refine .cond_false rfl rfl ?_
   refine .skip ?_
   show Ev _ _ _ _ _
   refine .region ?_
   refine .q (op_addI rfl rfl ⟨by omega, by omega⟩) trivial rfl ?_
   refine .q (op_move rfl) trivial rfl ?_
   refine .nil ?_
   exact ⟨⟨i + 1, hi, at_step hv hi (fun hc => by first | (rw [hg21] at hc; exact absurd hc.1 (by decide)) | (rw [hc26] at hc; exact absurd hc.2 (by decide)))⟩, by show _ - (i + 1) < _ - i; omega, StLe.mk [] rfl rfl ⟨⟨_, rfl, by first | rfl | (simp only [AV.ren]; congr 1; omega), rfl⟩, ⟨_, rfl, by first | rfl | (simp only [AV.ren]; congr 1; omega), rfl⟩, ⟨_, rfl, by first | rfl | (simp only [AV.ren]; congr 1; omega), rfl⟩, ⟨_, rfl, by first | rfl | (simp only [AV.ren]; congr 1; omega), rfl⟩, ⟨_, rfl, by first | rfl | (simp only [AV.ren]; congr 1; omega), rfl⟩, trivial⟩ trivial⟩
 ·skip
  refine .exit ?_
  show Ev _ _ _ _ _
  refine .seq ?_
  refine .region ?_
  refine .q (op_assign rfl) trivial rfl ?_
  refine .nil ?_
  show Ev _ _ _ _ _
  refine .ret ?_
  show RetOk _ _ _ _ _ _ _
  exact ret1v rfl (.inl rfl) rfl (congrArg AV.i64 (by first | exact at_hit hv hi hg21 hc26 | exact at_end hv (of_decide_eq_false hc13))) trivial
set_option maxRecDepth 100000 in
theorem rcount_ev (a b c ep : Int) (L : List Ls) (hlen : L.length ≤ 4096) (w : List UInt8)  : Meets Tryd.prog 18 [.agg [.i64 a, .i64 b, .i64 c, .i64 ep, .fsl (lsC L) L.length 5], .str w] [] (.i64 (((L.filter (fun x => x.t == w)).length : Nat) : Int)) [] := by
 refine meets_of_ev (nt := 23) Tryd.func18 rfl rfl (Nat.le_of_ble_eq_true rfl) ?_
 refine .seq ?_
 refine .region ?_
 refine .a (op_boxRow rfl rfl) trivial rfl ?_
 refine .q (op_assign rfl) trivial rfl ?_
 refine .nil ?_
 show Ev _ _ _ _ _
 refine .seq ?_
 refine .region ?_
 refine .q (op_assign rfl) trivial rfl ?_
 refine .nil ?_
 show Ev _ _ _ _ _
 refine .seq ?_
 refine .seq ?_
 refine .region ?_
 refine .q (op_fieldAddr (m := 0) Tryd.underlying32 rfl (by kernel_rfl) rfl) trivial rfl ?_
 refine .as (.ptr 1000 4) rfl ?_
 refine .q (op_load Tryd.underlying30 rfl rfl rfl rfl (by show 4 < 5; decide)) trivial rfl ?_
 refine .q (op_len_fsl Tryd.underlying30 rfl) trivial rfl ?_
 refine .q (op_move rfl) trivial rfl ?_
 refine .nil ?_
 show Ev _ _ _ _ _
 refine .block ?_
 refine Ev.loop (ι := { i : Nat // i ≤ L.length }) (fun q => ⟨[(1, .str w), (5, .i64 ((cntN (fun x : Ls => x.t == w) L q.1 : Nat) : Int)), (9, .fsl (lsC L) L.length 5), (10, .i64 ((L.length : Nat) : Int)), (11, .i64 ((q.1 : Nat) : Int))], [], 1008⟩) (fun q => L.length - q.1) ⟨0, Nat.zero_le _⟩ (StLe.mk [] rfl rfl ⟨⟨_, rfl, by first | rfl | (simp only [AV.ren]; congr 1; omega), rfl⟩, ⟨_, rfl, by first | rfl | (simp only [AV.ren]; congr 1; omega), rfl⟩, ⟨_, rfl, by first | rfl | (simp only [AV.ren]; congr 1; omega), rfl⟩, ⟨_, rfl, by first | rfl | (simp only [AV.ren]; congr 1; omega), rfl⟩, ⟨_, rfl, by first | rfl | (simp only [AV.ren]; congr 1; omega), rfl⟩, trivial⟩ trivial) ?_
 rintro ⟨i, hi0⟩
 dsimp only
 refine .seq ?_
 refine .region ?_
 refine .q (op_cmpI rfl rfl rfl) trivial rfl ?_
 refine .nil ?_
 show Ev _ _ _ _ _
 refine .seq ?_
 refine .cond rfl (fun hc12 => ?_) (fun hc12 => ?_)
 ·simp only [decide_eq_true_eq] at hc12
  refine .skip ?_
  show Ev _ _ _ _ _
  refine .seq ?_
  refine .block ?_
  refine .seq ?_
  refine .region ?_
  have hi : i < L.length := by omega
  refine .q (op_indexAddr_fsl Tryd.underlying30 infLeaseR.sz (by decide) rfl rfl (i := i) rfl (hi)) trivial rfl ?_
  refine .q (op_loadRow_fptr (v := lsV ((L.getD i default))) Tryd.underlying70 rfl infLeaseR.sz rfl rfl (ls_take (hi)) rfl) trivial rfl ?_
  refine .a (op_allocRow zero70 rel_zero70 rfl) trivial rfl ?_
  refine .w (op_storeRow (by kernel_rfl) rfl rfl rfl rfl rfl (rfl) (rfl)) trivial rfl ?_
  refine .nil ?_
  show Ev _ _ _ _ _
  refine .seq ?_
  refine .region ?_
  refine .q (op_fieldAddr (m := 0) Tryd.underlying70 rfl (by kernel_rfl) rfl) trivial rfl ?_
  refine .as (.ptr 1008 0) rfl ?_
  refine .q (op_load Tryd.underlying9 rfl rfl rfl rfl (by show 0 < 5; decide)) trivial rfl ?_
  refine .q (op_move rfl) trivial rfl ?_
  refine .q (op_eqS rfl rfl rfl) trivial rfl ?_
  refine .nil ?_
  show Ev _ _ _ _ _
  refine .cond rfl (fun hc18 => ?_) (fun hc18 => ?_)
  ·skip
   refine .region ?_
   refine .q (op_move rfl) trivial rfl ?_
   refine .q (op_addI rfl rfl ⟨by have := cntN_le (fun x : Ls => x.t == w) L i; omega, by have := cntN_le (fun x : Ls => x.t == w) L i; omega⟩) trivial rfl ?_
   refine .q (op_assign rfl) trivial rfl ?_
   refine .nil ?_
   show Ev _ _ _ _ _
   refine .region ?_
   refine .q (op_addI rfl rfl ⟨by omega, by omega⟩) trivial rfl ?_
   refine .q (op_move rfl) trivial rfl ?_
   refine .nil ?_
   exact ⟨⟨i + 1, hi⟩, by show _ - (i + 1) < _ - i; omega, StLe.mk [] rfl rfl ⟨⟨_, rfl, by first | rfl | (simp only [AV.ren]; congr 1; omega), rfl⟩, ⟨_, rfl, by first | exact congrArg AV.i64 (cntN_yes hi hc18) | exact congrArg AV.i64 (cntN_no hi hc18), rfl⟩, ⟨_, rfl, by first | rfl | (simp only [AV.ren]; congr 1; omega), rfl⟩, ⟨_, rfl, by first | rfl | (simp only [AV.ren]; congr 1; omega), rfl⟩, ⟨_, rfl, by first | rfl | (simp only [AV.ren]; congr 1; omega), rfl⟩, trivial⟩ trivial⟩
  ·skip
   refine .skip ?_
   show Ev _ _ _ _ _
   refine .region ?_
   refine .q (op_addI rfl rfl ⟨by omega, by omega⟩) trivial rfl ?_
   refine .q (op_move rfl) trivial rfl ?_
   refine .nil ?_
   exact ⟨⟨i + 1, hi⟩, by show _ - (i + 1) < _ - i; omega, StLe.mk [] rfl rfl ⟨⟨_, rfl, by first | rfl | (simp only [AV.ren]; congr 1; omega), rfl⟩, ⟨_, rfl, by first | exact congrArg AV.i64 (cntN_yes hi hc18) | exact congrArg AV.i64 (cntN_no hi hc18), rfl⟩, ⟨_, rfl, by first | rfl | (simp only [AV.ren]; congr 1; omega), rfl⟩, ⟨_, rfl, by first | rfl | (simp only [AV.ren]; congr 1; omega), rfl⟩, ⟨_, rfl, by first | rfl | (simp only [AV.ren]; congr 1; omega), rfl⟩, trivial⟩ trivial⟩
 ·simp only [decide_eq_false_iff_not] at hc12
  refine .exit ?_
  show Ev _ _ _ _ _
  refine .seq ?_
  refine .region ?_
  refine .q (op_move rfl) trivial rfl ?_
  refine .q (op_assign rfl) trivial rfl ?_
  refine .nil ?_
  show Ev _ _ _ _ _
  refine .ret ?_
  show RetOk _ _ _ _ _ _ _
  exact ret1v rfl (.inl rfl) rfl (by rw [cntN_all (by omega)]) trivial
set_option maxRecDepth 100000 in
theorem rbeat_ev (a b c ep : Int) (L : List Ls) (hlen : L.length ≤ 4096) (w now : Int)  : Meets Tryd.prog 33 [.agg [.i64 a, .i64 b, .i64 c, .i64 ep, .fsl (lsC L) L.length 5], .i64 w, .i64 now] [] (.tup [.agg [.i64 a, .i64 b, .i64 c, .i64 ep, .fsl (lsC (L.map (fun y : Ls => if y.o == w then beatL now y else y))) (L.map (fun y : Ls => if y.o == w then beatL now y else y)).length 5], .i64 (((L.filter (fun x => x.o == w)).length : Nat) : Int)]) [] := by
 refine meets_of_ev (nt := 41) Tryd.func33 rfl rfl (Nat.le_of_ble_eq_true rfl) ?_
 refine .seq ?_
 refine .region ?_
 refine .a (op_boxRow rfl rfl) trivial rfl ?_
 refine .a (op_allocRow zero32 rel_zero32 rfl) trivial rfl ?_
 refine .q (op_assign rfl) trivial rfl ?_
 refine .nil ?_
 show Ev _ _ _ _ _
 refine .seq ?_
 refine .region ?_
 refine .a (ap_build0 (c := .agg (lsC [])) Tryd.underlying30 infLeaseR rfl) trivial rfl ?_
 refine .q (op_assign rfl) trivial rfl ?_
 refine .nil ?_
 show Ev _ _ _ _ _
 refine .seq ?_
 refine .region ?_
 refine .q (op_assign rfl) trivial rfl ?_
 refine .nil ?_
 show Ev _ _ _ _ _
 refine .seq ?_
 refine .seq ?_
 refine .region ?_
 refine .q (op_fieldAddr (m := 0) Tryd.underlying32 rfl (by kernel_rfl) rfl) trivial rfl ?_
 refine .as (.ptr 1000 4) rfl ?_
 refine .q (op_load Tryd.underlying30 rfl rfl rfl rfl (by show 4 < 5; decide)) trivial rfl ?_
 refine .q (op_len_fsl Tryd.underlying30 rfl) trivial rfl ?_
 refine .q (op_move rfl) trivial rfl ?_
 refine .nil ?_
 show Ev _ _ _ _ _
 refine .block ?_
 refine Ev.loop (ι := { i : Nat // i ≤ L.length }) (fun q => ⟨[(1, .i64 w), (2, .i64 now), (3, .ptr 1000 0), (6, .ptr 1008 0), (8, .sl 1016 0 q.1 5), (9, .i64 ((cntN (fun x : Ls => x.o == w) L q.1 : Nat) : Int)), (14, .fsl (lsC L) L.length 5), (15, .i64 ((L.length : Nat) : Int)), (16, .i64 ((q.1 : Nat) : Int))], [(1000, some ⟨.agg [.i64 a, .i64 b, .i64 c, .i64 ep, .fsl (lsC L) L.length 5], 32, true⟩), (1008, some ⟨.agg [.i64 0, .i64 0, .i64 0, .i64 0, .nilsl], 32, true⟩), (1016, some ⟨.agg (lsC (mapN (fun y : Ls => if y.o == w then beatL now y else y) L q.1)), 70, true⟩)], 1024⟩) (fun q => L.length - q.1) ⟨0, Nat.zero_le _⟩ (StLe.mk [(1000, 1000), (1008, 1008), (1016, 1016)] rfl rfl ⟨⟨_, rfl, by first | rfl | (simp only [AV.ren]; congr 1; omega), rfl⟩, ⟨_, rfl, by first | rfl | (simp only [AV.ren]; congr 1; omega), rfl⟩, ⟨_, rfl, by first | rfl | (simp only [AV.ren]; congr 1; omega), rfl⟩, ⟨_, rfl, by first | rfl | (simp only [AV.ren]; congr 1; omega), rfl⟩, ⟨_, rfl, by first | rfl | (simp only [AV.ren]; congr 1; omega), rfl⟩, ⟨_, rfl, by first | rfl | (simp only [AV.ren]; congr 1; omega), rfl⟩, ⟨_, rfl, by first | rfl | (simp only [AV.ren]; congr 1; omega), rfl⟩, ⟨_, rfl, by first | rfl | (simp only [AV.ren]; congr 1; omega), rfl⟩, ⟨_, rfl, by first | rfl | (simp only [AV.ren]; congr 1; omega), rfl⟩, trivial⟩ ⟨⟨_, _, rfl, rfl, rfl, rfl, id, rfl⟩, ⟨_, _, rfl, rfl, rfl, rfl, id, rfl⟩, ⟨_, _, rfl, rfl, lsC_ren _ _, rfl, id, lsC_nm _ _⟩, trivial⟩) ?_
 rintro ⟨i, hi0⟩
 dsimp only
 refine .seq ?_
 refine .region ?_
 refine .q (op_cmpI rfl rfl rfl) trivial rfl ?_
 refine .nil ?_
 show Ev _ _ _ _ _
 refine .seq ?_
 refine .cond rfl (fun hc17 => ?_) (fun hc17 => ?_)
 ·simp only [decide_eq_true_eq] at hc17
  refine .skip ?_
  show Ev _ _ _ _ _
  refine .seq ?_
  refine .block ?_
  refine .seq ?_
  refine .region ?_
  have hi : i < L.length := by omega
  refine .q (op_indexAddr_fsl Tryd.underlying30 infLeaseR.sz (by decide) rfl rfl (i := i) rfl (hi)) trivial rfl ?_
  refine .q (op_loadRow_fptr (v := lsV ((L.getD i default))) Tryd.underlying70 rfl infLeaseR.sz rfl rfl (ls_take (hi)) rfl) trivial rfl ?_
  refine .a (op_allocRow zero70 rel_zero70 rfl) trivial rfl ?_
  refine .w (op_storeRow (by kernel_rfl) rfl rfl rfl rfl rfl (rfl) (rfl)) trivial rfl ?_
  refine .nil ?_
  show Ev _ _ _ _ _
  refine .seq ?_
  refine .seq ?_
  refine .region ?_
  refine .q (op_fieldAddr (m := 0) Tryd.underlying70 rfl (by kernel_rfl) rfl) trivial rfl ?_
  refine .as (.ptr 1024 2) rfl ?_
  refine .q (op_load Tryd.underlying3 rfl rfl rfl rfl (by show 2 < 5; decide)) trivial rfl ?_
  refine .q (op_move rfl) trivial rfl ?_
  refine .q (op_cmpI rfl rfl rfl) trivial rfl ?_
  refine .nil ?_
  show Ev _ _ _ _ _
  refine .cond rfl (fun hc23 => ?_) (fun hc23 => ?_)
  ·skip
   refine .seq ?_
   refine .drawn [[], [0], [], [2], [0, 1, 2, 3], [0, 1, 2, 3, 4], [0, 1, 2, 3, 4, 5]] [1, 3, 6] [6] (by kernel_rfl) (by kernel_rfl) rfl ?_
   show DK _ [0, 1, 2, 3, 4, 5, 6] _ _ _
   refine .q rfl (op_fieldAddr (m := 0) Tryd.underlying70 rfl (by kernel_rfl) rfl) trivial ?_
   refine .as (.ptr 1024 4) rfl ?_
   refine .q rfl (op_load Tryd.underlying3 rfl rfl rfl rfl (by show 4 < 5; decide)) trivial ?_
   refine .q rfl (op_move rfl) trivial ?_
   refine .q rfl (op_call (U := []) [] [] (rtick_ev now) Tryd.func49 (by kernel_rfl) rfl rfl rfl (⟨⟨_, rfl, rfl, rfl⟩, trivial⟩) (trivial) (trivial) (trivial) rfl) trivial ?_
   refine .q rfl (op_maxI rfl rfl) trivial ?_
   refine .q rfl (op_fieldAddr (m := 0) Tryd.underlying70 rfl (by kernel_rfl) rfl) trivial ?_
   refine .as (.ptr 1024 4) rfl ?_
   refine .w rfl (op_store inf3.sz rfl rfl rfl rfl rfl (by show 4 < 5; decide)) trivial rfl rfl ?_
   refine .nil ?_
   show Ev _ _ _ _ _
   refine .region ?_
   refine .q (op_move rfl) trivial rfl ?_
   refine .q (op_addI rfl rfl ⟨by have := cntN_le (fun x : Ls => x.o == w) L i; omega, by have := cntN_le (fun x : Ls => x.o == w) L i; omega⟩) trivial rfl ?_
   refine .q (op_assign rfl) trivial rfl ?_
   refine .nil ?_
   show Ev _ _ _ _ _
   refine .region ?_
   refine .q (op_move rfl) trivial rfl ?_
   refine .q (op_loadRow Tryd.underlying70 rfl (by kernel_rfl) rfl rfl rfl (rfl)) trivial rfl ?_
   refine .a (op_buildRow (z := 5) (r := lsV ((beatL now (L.getD i default)))) (cs := Ls.cs ((beatL now (L.getD i default)))) Tryd.underlying30 infLeaseR (by decide) (by decide) rfl rfl rfl) trivial rfl ?_
   refine .a (ap_append (c' := .agg (lsC (mapN (fun y : Ls => if y.o == w then beatL now y else y) L i ++ [(beatL now (L.getD i default))]))) Tryd.underlying30 Tryd.underlying30 (.inr ⟨_, rfl⟩) infLeaseR rfl rfl rfl rfl (by show (lsC _).length = _; rw [lsC_len, mapN_len hi0]) (srcs_sl (m := 1) (o := 0) rfl rfl (by show 5 ≤ 5; decide)) (lsC_app (mapN (fun y : Ls => if y.o == w then beatL now y else y) L i) [(beatL now (L.getD i default))]) (by omega)) trivial rfl ?_
   refine .q (op_assign rfl) trivial rfl ?_
   refine .nil ?_
   show Ev _ _ _ _ _
   refine .region ?_
   refine .q (op_addI rfl rfl ⟨by omega, by omega⟩) trivial rfl ?_
   refine .q (op_move rfl) trivial rfl ?_
   refine .nil ?_
   have hst : mapN (fun y : Ls => if y.o == w then beatL now y else y) L (i + 1) = mapN (fun y : Ls => if y.o == w then beatL now y else y) L i ++ [beatL now (L.getD i default)] := by rw [mapN_step hi]; show _ ++ [if _ then _ else _] = _; rw [if_pos hc23]
   exact ⟨⟨i + 1, hi⟩, by show _ - (i + 1) < _ - i; omega, StLe.mk [(1000, 1000), (1008, 1008), (1016, 1096)] rfl rfl ⟨⟨_, rfl, by first | rfl | (simp only [AV.ren]; congr 1; omega), rfl⟩, ⟨_, rfl, by first | rfl | (simp only [AV.ren]; congr 1; omega), rfl⟩, ⟨_, rfl, by first | rfl | (simp only [AV.ren]; congr 1; omega), rfl⟩, ⟨_, rfl, by first | rfl | (simp only [AV.ren]; congr 1; omega), rfl⟩, ⟨_, rfl, by first | rfl | (simp only [AV.ren]; congr 1; omega), rfl⟩, ⟨_, rfl, by first | exact congrArg AV.i64 (cntN_yes hi hc23) | exact congrArg AV.i64 (cntN_no hi hc23), rfl⟩, ⟨_, rfl, by first | rfl | (simp only [AV.ren]; congr 1; omega), rfl⟩, ⟨_, rfl, by first | rfl | (simp only [AV.ren]; congr 1; omega), rfl⟩, ⟨_, rfl, by first | rfl | (simp only [AV.ren]; congr 1; omega), rfl⟩, trivial⟩ ⟨⟨_, _, rfl, rfl, rfl, rfl, id, rfl⟩, ⟨_, _, rfl, rfl, rfl, rfl, id, rfl⟩, ⟨_, _, rfl, rfl, (by rw [hst]; exact lsC_ren _ _), rfl, id, lsC_nm _ _⟩, trivial⟩⟩
  ·skip
   refine .skip ?_
   show Ev _ _ _ _ _
   refine .region ?_
   refine .q (op_move rfl) trivial rfl ?_
   refine .q (op_loadRow Tryd.underlying70 rfl (by kernel_rfl) rfl rfl rfl (rfl)) trivial rfl ?_
   refine .a (op_buildRow (z := 5) (r := lsV ((L.getD i default))) (cs := Ls.cs ((L.getD i default))) Tryd.underlying30 infLeaseR (by decide) (by decide) rfl rfl rfl) trivial rfl ?_
   refine .a (ap_append (c' := .agg (lsC (mapN (fun y : Ls => if y.o == w then beatL now y else y) L i ++ [(L.getD i default)]))) Tryd.underlying30 Tryd.underlying30 (.inr ⟨_, rfl⟩) infLeaseR rfl rfl rfl rfl (by show (lsC _).length = _; rw [lsC_len, mapN_len hi0]) (srcs_sl (m := 1) (o := 0) rfl rfl (by show 5 ≤ 5; decide)) (lsC_app (mapN (fun y : Ls => if y.o == w then beatL now y else y) L i) [(L.getD i default)]) (by omega)) trivial rfl ?_
   refine .q (op_assign rfl) trivial rfl ?_
   refine .nil ?_
   show Ev _ _ _ _ _
   refine .region ?_
   refine .q (op_addI rfl rfl ⟨by omega, by omega⟩) trivial rfl ?_
   refine .q (op_move rfl) trivial rfl ?_
   refine .nil ?_
   have hst : mapN (fun y : Ls => if y.o == w then beatL now y else y) L (i + 1) = mapN (fun y : Ls => if y.o == w then beatL now y else y) L i ++ [(L.getD i default)] := by rw [mapN_step hi]; show _ ++ [if _ then _ else _] = _; rw [if_neg (by rw [hc23]; decide)]
   exact ⟨⟨i + 1, hi⟩, by show _ - (i + 1) < _ - i; omega, StLe.mk [(1000, 1000), (1008, 1008), (1016, 1040)] rfl rfl ⟨⟨_, rfl, by first | rfl | (simp only [AV.ren]; congr 1; omega), rfl⟩, ⟨_, rfl, by first | rfl | (simp only [AV.ren]; congr 1; omega), rfl⟩, ⟨_, rfl, by first | rfl | (simp only [AV.ren]; congr 1; omega), rfl⟩, ⟨_, rfl, by first | rfl | (simp only [AV.ren]; congr 1; omega), rfl⟩, ⟨_, rfl, by first | rfl | (simp only [AV.ren]; congr 1; omega), rfl⟩, ⟨_, rfl, by first | exact congrArg AV.i64 (cntN_yes hi hc23) | exact congrArg AV.i64 (cntN_no hi hc23), rfl⟩, ⟨_, rfl, by first | rfl | (simp only [AV.ren]; congr 1; omega), rfl⟩, ⟨_, rfl, by first | rfl | (simp only [AV.ren]; congr 1; omega), rfl⟩, ⟨_, rfl, by first | rfl | (simp only [AV.ren]; congr 1; omega), rfl⟩, trivial⟩ ⟨⟨_, _, rfl, rfl, rfl, rfl, id, rfl⟩, ⟨_, _, rfl, rfl, rfl, rfl, id, rfl⟩, ⟨_, _, rfl, rfl, (by rw [hst]; exact lsC_ren _ _), rfl, id, lsC_nm _ _⟩, trivial⟩⟩
 ·simp only [decide_eq_false_iff_not] at hc17
  refine .exit ?_
  show Ev _ _ _ _ _
  refine .seq ?_
  refine .region ?_
  refine .q (op_move rfl) trivial rfl ?_
  refine EvL.freezeF (t := 37) (b := 1016) (o := 0) (n := i) (z := 5) (e := 70) (c := .agg (lsC (mapN (fun y : Ls => if y.o == w then beatL now y else y) L i))) (Nat.le_of_ble_eq_true rfl) rfl rfl (by show 0 + _ * 5 ≤ (lsC _).length; rw [lsC_len]; rw [mapN_len hi0]; omega) (lsC_still _) ?_
  refine .as (.fsl (lsC (L.map (fun y : Ls => if y.o == w then beatL now y else y))) (L.map (fun y : Ls => if y.o == w then beatL now y else y)).length 5) (by rw [fsl_whole _ (mapN_len hi0).symm, mapN_all (by omega)]) ?_
  refine .q (op_fieldAddr (m := 0) Tryd.underlying32 rfl (by kernel_rfl) rfl) trivial rfl ?_
  refine .as (.ptr 1000 4) rfl ?_
  refine .w (op_store (by kernel_rfl) rfl rfl rfl rfl rfl (by show 4 < 5; decide)) trivial rfl ?_
  refine .nil ?_
  show Ev _ _ _ _ _
  refine .seq ?_
  refine .region ?_
  refine .q (op_loadRow Tryd.underlying32 rfl (by kernel_rfl) rfl rfl rfl (rfl)) trivial rfl ?_
  refine .q (op_move rfl) trivial rfl ?_
  refine .w (op_storeRow (by kernel_rfl) rfl rfl rfl rfl rfl (rfl) (rfl)) trivial rfl ?_
  refine .q (op_assign rfl) trivial rfl ?_
  refine .nil ?_
  show Ev _ _ _ _ _
  refine .ret ?_
  show RetOk _ _ _ _ _ _ _
  exact retc2 rfl (.inl rfl) ⟨_, _, _, _, rfl, rfl, rfl, rfl, rfl, Tryd.underlying32, rfl, sz32⟩ (by rw [cntN_all (by omega)]; rfl) trivial
end Go.Proofs.YtpmambceojbkaaaDoor
namespace Go.Proofs.YtpmambceojbkaaaDoor
open Go.RowKit
theorem sl_snoc (b : Nat) (F : List Ls) (x : Ls) : AV.sl b 0 (F.length + 1) 5 = .sl b 0 (F ++ [x]).length 5 := by rw [List.length_append]; rfl
set_option maxRecDepth 100000 in
theorem sift0_ev (a b c ep : Int) (L : List Ls) (hlen : L.length ≤ 4096) (n : Int)  : Meets Tryd.prog 32 [.agg [.i64 a, .i64 b, .i64 c, .i64 ep, .fsl (lsC L) L.length 5], .i64 0, .agg [.str [], .str [], .i64 0, .i64 0, .i64 0], .i64 n] [] (.tup [.agg [.i64 a, .i64 b, .i64 c, .i64 ep, .fsl (lsC (L.filter (fun x : Ls => !( x.o == n)))) (L.filter (fun x : Ls => !( x.o == n))).length 5], .fsl (lsC (L.filter (fun x : Ls => x.o == n))) (L.filter (fun x : Ls => x.o == n)).length 5]) [] := by
 refine meets_of_ev (nt := 89) Tryd.func32 rfl rfl (Nat.le_of_ble_eq_true rfl) ?_
 refine .seq ?_
 refine .region ?_
 refine .a (op_boxRow rfl rfl) trivial rfl ?_
 refine .a (op_boxRow rfl rfl) trivial rfl ?_
 refine .a (op_allocRow zero32 rel_zero32 rfl) trivial rfl ?_
 refine .q (op_assign rfl) trivial rfl ?_
 refine .nil ?_
 show Ev _ _ _ _ _
 refine .seq ?_
 refine .region ?_
 refine .a (ap_build0 (c := .agg (lsC [])) Tryd.underlying30 infLeaseR rfl) trivial rfl ?_
 refine .q (op_assign rfl) trivial rfl ?_
 refine .nil ?_
 show Ev _ _ _ _ _
 refine .seq ?_
 refine .region ?_
 refine .a (ap_build0 (c := .agg (lsC [])) Tryd.underlying30 infLeaseR rfl) trivial rfl ?_
 refine .q (op_assign rfl) trivial rfl ?_
 refine .nil ?_
 show Ev _ _ _ _ _
 refine .seq ?_
 refine .seq ?_
 refine .region ?_
 refine .q (op_fieldAddr (m := 0) Tryd.underlying32 rfl (by kernel_rfl) rfl) trivial rfl ?_
 refine .as (.ptr 1000 4) rfl ?_
 refine .q (op_load Tryd.underlying30 rfl rfl rfl rfl (by show 4 < 5; decide)) trivial rfl ?_
 refine .q (op_len_fsl Tryd.underlying30 rfl) trivial rfl ?_
 refine .q (op_move rfl) trivial rfl ?_
 refine .nil ?_
 show Ev _ _ _ _ _
 refine .block ?_
 refine Ev.loop (ι := { i : Nat // i ≤ L.length }) (fun q => ⟨[(1, .i64 0), (3, .i64 n), (4, .ptr 1000 0), (6, .ptr 1008 0), (8, .ptr 1016 0), (10, .sl 1024 0 (fltN' (fun x : Ls => !( x.o == n)) L q.1).length 5), (11, .sl 1032 0 (fltN' (fun x : Ls => x.o == n) L q.1).length 5), (20, .fsl (lsC L) L.length 5), (21, .i64 ((L.length : Nat) : Int)), (22, .i64 ((q.1 : Nat) : Int))], [(1000, some ⟨.agg [.i64 a, .i64 b, .i64 c, .i64 ep, .fsl (lsC L) L.length 5], 32, true⟩), (1008, some ⟨.agg [.str [], .str [], .i64 0, .i64 0, .i64 0], 70, true⟩), (1016, some ⟨.agg [.i64 0, .i64 0, .i64 0, .i64 0, .nilsl], 32, true⟩), (1024, some ⟨.agg (lsC (fltN' (fun x : Ls => !( x.o == n)) L q.1)), 70, true⟩), (1032, some ⟨.agg (lsC (fltN' (fun x : Ls => x.o == n) L q.1)), 70, true⟩)], 1040⟩) (fun q => L.length - q.1) ⟨0, Nat.zero_le _⟩ (StLe.mk [(1000, 1000), (1008, 1008), (1016, 1016), (1024, 1024), (1032, 1032)] rfl rfl ⟨⟨_, rfl, by first | rfl | (simp only [AV.ren]; congr 1; omega), rfl⟩, ⟨_, rfl, by first | rfl | (simp only [AV.ren]; congr 1; omega), rfl⟩, ⟨_, rfl, by first | rfl | (simp only [AV.ren]; congr 1; omega), rfl⟩, ⟨_, rfl, by first | rfl | (simp only [AV.ren]; congr 1; omega), rfl⟩, ⟨_, rfl, by first | rfl | (simp only [AV.ren]; congr 1; omega), rfl⟩, ⟨_, rfl, by first | rfl | (simp only [AV.ren]; congr 1; omega), rfl⟩, ⟨_, rfl, by first | rfl | (simp only [AV.ren]; congr 1; omega), rfl⟩, ⟨_, rfl, by first | rfl | (simp only [AV.ren]; congr 1; omega), rfl⟩, ⟨_, rfl, by first | rfl | (simp only [AV.ren]; congr 1; omega), rfl⟩, ⟨_, rfl, by first | rfl | (simp only [AV.ren]; congr 1; omega), rfl⟩, trivial⟩ ⟨⟨_, _, rfl, rfl, rfl, rfl, id, rfl⟩, ⟨_, _, rfl, rfl, rfl, rfl, id, rfl⟩, ⟨_, _, rfl, rfl, rfl, rfl, id, rfl⟩, ⟨_, _, rfl, rfl, lsC_ren _ _, rfl, id, lsC_nm _ _⟩, ⟨_, _, rfl, rfl, lsC_ren _ _, rfl, id, lsC_nm _ _⟩, trivial⟩) ?_
 rintro ⟨i, hi0⟩
 dsimp only
 refine .seq ?_
 refine .region ?_
 refine .q (op_cmpI rfl rfl rfl) trivial rfl ?_
 refine .nil ?_
 show Ev _ _ _ _ _
 refine .seq ?_
 refine .cond rfl (fun hc23 => ?_) (fun hc23 => ?_)
 ·simp only [decide_eq_true_eq] at hc23
  refine .skip ?_
  show Ev _ _ _ _ _
  refine .seq ?_
  refine .block ?_
  refine .seq ?_
  refine .region ?_
  have hi : i < L.length := by omega
  refine .q (op_indexAddr_fsl Tryd.underlying30 infLeaseR.sz (by decide) rfl rfl (i := i) rfl (hi)) trivial rfl ?_
  refine .q (op_loadRow_fptr (v := lsV ((L.getD i default))) Tryd.underlying70 rfl infLeaseR.sz rfl rfl (ls_take (hi)) rfl) trivial rfl ?_
  refine .a (op_allocRow zero70 rel_zero70 rfl) trivial rfl ?_
  refine .w (op_storeRow (by kernel_rfl) rfl rfl rfl rfl rfl (rfl) (rfl)) trivial rfl ?_
  refine .nil ?_
  show Ev _ _ _ _ _
  refine .seq ?_
  refine .region ?_
  refine .q (op_move rfl) trivial rfl ?_
  refine .q (op_cmpI rfl rfl rfl) trivial rfl ?_
  refine .q (op_move rfl) trivial rfl ?_
  refine .know (b' := true) (rfl) ?_
  refine .q (op_fieldAddr (m := 0) Tryd.underlying70 rfl (by kernel_rfl) rfl) ⟨_, rfl, rfl⟩ rfl ?_
  refine .as (.ptr 1040 2) rfl ?_
  refine .q (op_load Tryd.underlying3 rfl rfl rfl rfl (by show 2 < 5; decide)) ⟨_, rfl, rfl⟩ rfl ?_
  refine .q (op_move rfl) ⟨_, rfl, rfl⟩ rfl ?_
  refine .q (op_cmpI rfl rfl rfl) ⟨_, rfl, rfl⟩ rfl ?_
  refine .q (op_pick_true rfl rfl rfl) trivial rfl ?_
  refine .q (op_assign rfl) trivial rfl ?_
  refine .nil ?_
  show Ev _ _ _ _ _
  refine .seq ?_
  refine .drawn [[], [0], [0, 1], [0, 1, 2], [0, 1, 2, 3], [0, 1, 2], [0, 1, 2, 5], [0, 1, 2, 3, 4, 5, 6], [0, 1, 2], [0, 1, 2, 8], [0, 1, 2, 3, 4, 5, 6, 7, 8, 9], [0, 1, 2, 3, 4, 5, 6, 7, 8, 9, 10], [0, 1, 2, 3, 4, 5, 6, 7, 8, 9, 10, 11]] [4, 6, 9] [] (by kernel_rfl) (by kernel_rfl) rfl ?_
  show DK _ [0, 1, 2, 3, 4, 5, 6, 7, 8, 9, 10, 11, 12] _ _ _
  refine .q rfl (op_move rfl) trivial ?_
  refine .q rfl (op_cmpI rfl rfl rfl) trivial ?_
  refine .q rfl (op_move rfl) trivial ?_
  refine .know (b' := false) (rfl) ?_
  refine .no rfl ⟨_, rfl, rfl⟩ ?_
  refine .no rfl ⟨_, rfl, rfl⟩ ?_
  refine .no rfl ⟨_, rfl, rfl⟩ ?_
  refine .no rfl ⟨_, rfl, rfl⟩ ?_
  refine .no rfl ⟨_, rfl, rfl⟩ ?_
  refine .no rfl ⟨_, rfl, rfl⟩ ?_
  refine .no rfl ⟨_, rfl, rfl⟩ ?_
  refine .no rfl ⟨_, rfl, rfl⟩ ?_
  refine .q rfl (op_pick_false rfl rfl rfl) trivial ?_
  refine .q rfl (op_assign rfl) trivial ?_
  refine .nil ?_
  show Ev _ _ _ _ _
  refine .seq ?_
  refine .region ?_
  refine .q (op_move rfl) trivial rfl ?_
  refine .q (op_cmpI rfl rfl rfl) trivial rfl ?_
  refine .q (op_move rfl) trivial rfl ?_
  refine .know (b' := false) (rfl) ?_
  refine .no ⟨_, rfl, rfl⟩ rfl ?_
  refine .no ⟨_, rfl, rfl⟩ rfl ?_
  refine .no ⟨_, rfl, rfl⟩ rfl ?_
  refine .no ⟨_, rfl, rfl⟩ rfl ?_
  refine .no ⟨_, rfl, rfl⟩ rfl ?_
  refine .q (op_pick_false rfl rfl rfl) trivial rfl ?_
  refine .q (op_move rfl) trivial rfl ?_
  refine .no ⟨_, rfl, rfl⟩ rfl ?_
  refine .no ⟨_, rfl, rfl⟩ rfl ?_
  refine .no ⟨_, rfl, rfl⟩ rfl ?_
  refine .no ⟨_, rfl, rfl⟩ rfl ?_
  refine .no ⟨_, rfl, rfl⟩ rfl ?_
  refine .q (op_pick_false rfl rfl rfl) trivial rfl ?_
  refine .q (op_move rfl) trivial rfl ?_
  refine .no ⟨_, rfl, rfl⟩ rfl ?_
  refine .no ⟨_, rfl, rfl⟩ rfl ?_
  refine .no ⟨_, rfl, rfl⟩ rfl ?_
  refine .no ⟨_, rfl, rfl⟩ rfl ?_
  refine .no ⟨_, rfl, rfl⟩ rfl ?_
  refine .q (op_pick_false rfl rfl rfl) trivial rfl ?_
  refine .q (op_assign rfl) trivial rfl ?_
  refine .nil ?_
  show Ev _ _ _ _ _
  refine .seq ?_
  refine .region ?_
  refine .q (op_move rfl) trivial rfl ?_
  refine .q (op_move rfl) trivial rfl ?_
  refine .split (fun hg70 => ?_) (fun hg70 => ?_)
  ·skip
   refine .no ⟨_, rfl, rfl⟩ rfl ?_
   refine .q (op_pick_true rfl rfl rfl) trivial rfl ?_
   refine .q (op_move rfl) trivial rfl ?_
   refine .no ⟨_, rfl, rfl⟩ rfl ?_
   refine .q (op_pick_true rfl rfl rfl) trivial rfl ?_
   refine .nil ?_
   show Ev _ _ _ _ _
   refine .cond_true rfl rfl ?_
   refine .region ?_
   refine .q (op_move rfl) trivial rfl ?_
   refine .q (op_loadRow Tryd.underlying70 rfl (by kernel_rfl) rfl rfl rfl (rfl)) trivial rfl ?_
   refine .a (op_buildRow (z := 5) (r := lsV ((L.getD i default))) (cs := Ls.cs ((L.getD i default))) Tryd.underlying30 infLeaseR (by decide) (by decide) rfl rfl rfl) trivial rfl ?_
   refine .a (ap_append (c' := .agg (lsC (fltN' (fun x : Ls => x.o == n) L i ++ [(L.getD i default)]))) Tryd.underlying30 Tryd.underlying30 (.inr ⟨_, rfl⟩) infLeaseR rfl rfl rfl rfl (by show (lsC _).length = _; rw [lsC_len]) (srcs_sl (m := 1) (o := 0) rfl rfl (by show 5 ≤ 5; decide)) (lsC_app (fltN' (fun x : Ls => x.o == n) L i) [(L.getD i default)]) (by have := flt_le (wd := (fun x : Ls => x.o == n)) (L := L) (i := i); have := flt_le (wd := (fun x : Ls => !( x.o == n))) (L := L) (i := i); omega)) trivial rfl ?_
   refine .q (op_assign rfl) trivial rfl ?_
   refine .nil ?_
   show Ev _ _ _ _ _
   refine .region ?_
   refine .q (op_addI rfl rfl ⟨by omega, by omega⟩) trivial rfl ?_
   refine .q (op_move rfl) trivial rfl ?_
   refine .nil ?_
   have hw : (fun x : Ls => x.o == n) (L.getD i default) = true := by show ( (L.getD i default).o == n) = _; exact hg70
   have hs1 := flt_yes (wd := (fun x : Ls => x.o == n)) hi hw
   have hs2 := flt_no (wd := (fun x : Ls => !( x.o == n))) hi (by show (!(fun x : Ls => x.o == n) (L.getD i default)) = false; rw [hw]; rfl)
   exact ⟨⟨i + 1, hi⟩, by show _ - (i + 1) < _ - i; omega, StLe.mk [(1000, 1000), (1008, 1008), (1016, 1016), (1024, 1024), (1032, 1160)] rfl rfl ⟨⟨_, rfl, by first | rfl | (simp only [AV.ren]; congr 1; omega), rfl⟩, ⟨_, rfl, by first | rfl | (simp only [AV.ren]; congr 1; omega), rfl⟩, ⟨_, rfl, by first | rfl | (simp only [AV.ren]; congr 1; omega), rfl⟩, ⟨_, rfl, by first | rfl | (simp only [AV.ren]; congr 1; omega), rfl⟩, ⟨_, rfl, by first | rfl | (simp only [AV.ren]; congr 1; omega), rfl⟩, ⟨_, rfl, by exact (congrArg (fun q : List Ls => AV.sl 1024 0 q.length 5) hs2.symm), rfl⟩, ⟨_, rfl, by exact (sl_snoc 1032 _ _).trans (congrArg (fun q : List Ls => AV.sl 1032 0 q.length 5) hs1.symm), rfl⟩, ⟨_, rfl, by first | rfl | (simp only [AV.ren]; congr 1; omega), rfl⟩, ⟨_, rfl, by first | rfl | (simp only [AV.ren]; congr 1; omega), rfl⟩, ⟨_, rfl, by first | rfl | (simp only [AV.ren]; congr 1; omega), rfl⟩, trivial⟩ ⟨⟨_, _, rfl, rfl, rfl, rfl, id, rfl⟩, ⟨_, _, rfl, rfl, rfl, rfl, id, rfl⟩, ⟨_, _, rfl, rfl, rfl, rfl, id, rfl⟩, ⟨_, _, rfl, rfl, (lsC_ren _ _).trans (congrArg (fun q => AV.agg (lsC q)) hs2.symm), rfl, id, lsC_nm _ _⟩, ⟨_, _, rfl, rfl, (lsC_ren _ _).trans (congrArg (fun q => AV.agg (lsC q)) hs1.symm), rfl, id, lsC_nm _ _⟩, trivial⟩⟩
  ·skip
   refine .q (op_move rfl) ⟨_, rfl, rfl⟩ rfl ?_
   refine .q (op_pick_false rfl rfl rfl) trivial rfl ?_
   refine .q (op_move rfl) trivial rfl ?_
   refine .q (op_move rfl) ⟨_, rfl, rfl⟩ rfl ?_
   refine .q (op_pick_false rfl rfl rfl) trivial rfl ?_
   refine .nil ?_
   show Ev _ _ _ _ _
   refine .cond_false rfl rfl ?_
   refine .region ?_
   refine .q (op_move rfl) trivial rfl ?_
   refine .q (op_loadRow Tryd.underlying70 rfl (by kernel_rfl) rfl rfl rfl (rfl)) trivial rfl ?_
   refine .a (op_buildRow (z := 5) (r := lsV ((L.getD i default))) (cs := Ls.cs ((L.getD i default))) Tryd.underlying30 infLeaseR (by decide) (by decide) rfl rfl rfl) trivial rfl ?_
   refine .a (ap_append (c' := .agg (lsC (fltN' (fun x : Ls => !( x.o == n)) L i ++ [(L.getD i default)]))) Tryd.underlying30 Tryd.underlying30 (.inr ⟨_, rfl⟩) infLeaseR rfl rfl rfl rfl (by show (lsC _).length = _; rw [lsC_len]) (srcs_sl (m := 1) (o := 0) rfl rfl (by show 5 ≤ 5; decide)) (lsC_app (fltN' (fun x : Ls => !( x.o == n)) L i) [(L.getD i default)]) (by have := flt_le (wd := (fun x : Ls => x.o == n)) (L := L) (i := i); have := flt_le (wd := (fun x : Ls => !( x.o == n))) (L := L) (i := i); omega)) trivial rfl ?_
   refine .q (op_assign rfl) trivial rfl ?_
   refine .nil ?_
   show Ev _ _ _ _ _
   refine .region ?_
   refine .q (op_addI rfl rfl ⟨by omega, by omega⟩) trivial rfl ?_
   refine .q (op_move rfl) trivial rfl ?_
   refine .nil ?_
   have hw : (fun x : Ls => x.o == n) (L.getD i default) = false := by show ( (L.getD i default).o == n) = _; exact hg70
   have hs1 := flt_no (wd := (fun x : Ls => x.o == n)) hi hw
   have hs2 := flt_yes (wd := (fun x : Ls => !( x.o == n))) hi (by show (!(fun x : Ls => x.o == n) (L.getD i default)) = true; rw [hw]; rfl)
   exact ⟨⟨i + 1, hi⟩, by show _ - (i + 1) < _ - i; omega, StLe.mk [(1000, 1000), (1008, 1008), (1016, 1016), (1024, 1160), (1032, 1032)] rfl rfl ⟨⟨_, rfl, by first | rfl | (simp only [AV.ren]; congr 1; omega), rfl⟩, ⟨_, rfl, by first | rfl | (simp only [AV.ren]; congr 1; omega), rfl⟩, ⟨_, rfl, by first | rfl | (simp only [AV.ren]; congr 1; omega), rfl⟩, ⟨_, rfl, by first | rfl | (simp only [AV.ren]; congr 1; omega), rfl⟩, ⟨_, rfl, by first | rfl | (simp only [AV.ren]; congr 1; omega), rfl⟩, ⟨_, rfl, by exact (sl_snoc 1024 _ _).trans (congrArg (fun q : List Ls => AV.sl 1024 0 q.length 5) hs2.symm), rfl⟩, ⟨_, rfl, by exact (congrArg (fun q : List Ls => AV.sl 1032 0 q.length 5) hs1.symm), rfl⟩, ⟨_, rfl, by first | rfl | (simp only [AV.ren]; congr 1; omega), rfl⟩, ⟨_, rfl, by first | rfl | (simp only [AV.ren]; congr 1; omega), rfl⟩, ⟨_, rfl, by first | rfl | (simp only [AV.ren]; congr 1; omega), rfl⟩, trivial⟩ ⟨⟨_, _, rfl, rfl, rfl, rfl, id, rfl⟩, ⟨_, _, rfl, rfl, rfl, rfl, id, rfl⟩, ⟨_, _, rfl, rfl, rfl, rfl, id, rfl⟩, ⟨_, _, rfl, rfl, (lsC_ren _ _).trans (congrArg (fun q => AV.agg (lsC q)) hs2.symm), rfl, id, lsC_nm _ _⟩, ⟨_, _, rfl, rfl, (lsC_ren _ _).trans (congrArg (fun q => AV.agg (lsC q)) hs1.symm), rfl, id, lsC_nm _ _⟩, trivial⟩⟩
 ·simp only [decide_eq_false_iff_not] at hc23
  refine .exit ?_
  show Ev _ _ _ _ _
  refine .seq ?_
  refine .region ?_
  refine .q (op_move rfl) trivial rfl ?_
  refine EvL.freezeF (t := 85) (b := 1024) (o := 0) (n := (fltN' (fun x : Ls => !( x.o == n)) L i).length) (z := 5) (e := 70) (c := .agg (lsC (fltN' (fun x : Ls => !( x.o == n)) L i))) (Nat.le_of_ble_eq_true rfl) rfl rfl (by show 0 + _ * 5 ≤ (lsC _).length; rw [lsC_len]; omega) (lsC_still _) ?_
  refine .as (.fsl (lsC (L.filter (fun x : Ls => !( x.o == n)))) (L.filter (fun x : Ls => !( x.o == n))).length 5) (by rw [fsl_whole _ rfl, flt_all (by omega)]) ?_
  refine .q (op_fieldAddr (m := 0) Tryd.underlying32 rfl (by kernel_rfl) rfl) trivial rfl ?_
  refine .as (.ptr 1000 4) rfl ?_
  refine .w (op_store (by kernel_rfl) rfl rfl rfl rfl rfl (by show 4 < 5; decide)) trivial rfl ?_
  refine .nil ?_
  show Ev _ _ _ _ _
  refine .seq ?_
  refine .region ?_
  refine .q (op_loadRow Tryd.underlying32 rfl (by kernel_rfl) rfl rfl rfl (rfl)) trivial rfl ?_
  refine .q (op_move rfl) trivial rfl ?_
  refine EvL.freezeF (t := 88) (b := 1032) (o := 0) (n := (fltN' (fun x : Ls => x.o == n) L i).length) (z := 5) (e := 70) (c := .agg (lsC (fltN' (fun x : Ls => x.o == n) L i))) (Nat.le_of_ble_eq_true rfl) rfl rfl (by show 0 + _ * 5 ≤ (lsC _).length; rw [lsC_len]; omega) (lsC_still _) ?_
  refine .as (.fsl (lsC (L.filter (fun x : Ls => x.o == n))) (L.filter (fun x : Ls => x.o == n)).length 5) (by rw [fsl_whole _ rfl, flt_all (by omega)]) ?_
  refine .w (op_storeRow (by kernel_rfl) rfl rfl rfl rfl rfl (rfl) (rfl)) trivial rfl ?_
  refine .q (op_assign rfl) trivial rfl ?_
  refine .nil ?_
  show Ev _ _ _ _ _
  refine .ret ?_
  show RetOk _ _ _ _ _ _ _
  exact retc2 rfl (.inl rfl) ⟨_, _, _, _, rfl, rfl, rfl, rfl, rfl, Tryd.underlying32, rfl, sz32⟩ rfl trivial
set_option maxRecDepth 100000 in
theorem sift1_ev (a b c ep : Int) (L : List Ls) (hlen : L.length ≤ 4096) (n : Int) (hl : ∀ x ∈ L, 0 ≤ x.l ∧ x.l ≤ 1099511627776)  : Meets Tryd.prog 32 [.agg [.i64 a, .i64 b, .i64 c, .i64 ep, .fsl (lsC L) L.length 5], .i64 1, .agg [.str [], .str [], .i64 0, .i64 0, .i64 0], .i64 n] [] (.tup [.agg [.i64 a, .i64 b, .i64 c, .i64 ep, .fsl (lsC (L.filter (fun x : Ls => !( decide (c ≤ tickV n - x.l))))) (L.filter (fun x : Ls => !( decide (c ≤ tickV n - x.l)))).length 5], .fsl (lsC (L.filter (fun x : Ls => decide (c ≤ tickV n - x.l)))) (L.filter (fun x : Ls => decide (c ≤ tickV n - x.l))).length 5]) [] := by
 refine meets_of_ev (nt := 89) Tryd.func32 rfl rfl (Nat.le_of_ble_eq_true rfl) ?_
 refine .seq ?_
 refine .region ?_
 refine .a (op_boxRow rfl rfl) trivial rfl ?_
 refine .a (op_boxRow rfl rfl) trivial rfl ?_
 refine .a (op_allocRow zero32 rel_zero32 rfl) trivial rfl ?_
 refine .q (op_assign rfl) trivial rfl ?_
 refine .nil ?_
 show Ev _ _ _ _ _
 refine .seq ?_
 refine .region ?_
 refine .a (ap_build0 (c := .agg (lsC [])) Tryd.underlying30 infLeaseR rfl) trivial rfl ?_
 refine .q (op_assign rfl) trivial rfl ?_
 refine .nil ?_
 show Ev _ _ _ _ _
 refine .seq ?_
 refine .region ?_
 refine .a (ap_build0 (c := .agg (lsC [])) Tryd.underlying30 infLeaseR rfl) trivial rfl ?_
 refine .q (op_assign rfl) trivial rfl ?_
 refine .nil ?_
 show Ev _ _ _ _ _
 refine .seq ?_
 refine .seq ?_
 refine .region ?_
 refine .q (op_fieldAddr (m := 0) Tryd.underlying32 rfl (by kernel_rfl) rfl) trivial rfl ?_
 refine .as (.ptr 1000 4) rfl ?_
 refine .q (op_load Tryd.underlying30 rfl rfl rfl rfl (by show 4 < 5; decide)) trivial rfl ?_
 refine .q (op_len_fsl Tryd.underlying30 rfl) trivial rfl ?_
 refine .q (op_move rfl) trivial rfl ?_
 refine .nil ?_
 show Ev _ _ _ _ _
 refine .block ?_
 refine Ev.loop (ι := { i : Nat // i ≤ L.length }) (fun q => ⟨[(1, .i64 1), (3, .i64 n), (4, .ptr 1000 0), (6, .ptr 1008 0), (8, .ptr 1016 0), (10, .sl 1024 0 (fltN' (fun x : Ls => !( decide (c ≤ tickV n - x.l))) L q.1).length 5), (11, .sl 1032 0 (fltN' (fun x : Ls => decide (c ≤ tickV n - x.l)) L q.1).length 5), (20, .fsl (lsC L) L.length 5), (21, .i64 ((L.length : Nat) : Int)), (22, .i64 ((q.1 : Nat) : Int))], [(1000, some ⟨.agg [.i64 a, .i64 b, .i64 c, .i64 ep, .fsl (lsC L) L.length 5], 32, true⟩), (1008, some ⟨.agg [.str [], .str [], .i64 0, .i64 0, .i64 0], 70, true⟩), (1016, some ⟨.agg [.i64 0, .i64 0, .i64 0, .i64 0, .nilsl], 32, true⟩), (1024, some ⟨.agg (lsC (fltN' (fun x : Ls => !( decide (c ≤ tickV n - x.l))) L q.1)), 70, true⟩), (1032, some ⟨.agg (lsC (fltN' (fun x : Ls => decide (c ≤ tickV n - x.l)) L q.1)), 70, true⟩)], 1040⟩) (fun q => L.length - q.1) ⟨0, Nat.zero_le _⟩ (StLe.mk [(1000, 1000), (1008, 1008), (1016, 1016), (1024, 1024), (1032, 1032)] rfl rfl ⟨⟨_, rfl, by first | rfl | (simp only [AV.ren]; congr 1; omega), rfl⟩, ⟨_, rfl, by first | rfl | (simp only [AV.ren]; congr 1; omega), rfl⟩, ⟨_, rfl, by first | rfl | (simp only [AV.ren]; congr 1; omega), rfl⟩, ⟨_, rfl, by first | rfl | (simp only [AV.ren]; congr 1; omega), rfl⟩, ⟨_, rfl, by first | rfl | (simp only [AV.ren]; congr 1; omega), rfl⟩, ⟨_, rfl, by first | rfl | (simp only [AV.ren]; congr 1; omega), rfl⟩, ⟨_, rfl, by first | rfl | (simp only [AV.ren]; congr 1; omega), rfl⟩, ⟨_, rfl, by first | rfl | (simp only [AV.ren]; congr 1; omega), rfl⟩, ⟨_, rfl, by first | rfl | (simp only [AV.ren]; congr 1; omega), rfl⟩, ⟨_, rfl, by first | rfl | (simp only [AV.ren]; congr 1; omega), rfl⟩, trivial⟩ ⟨⟨_, _, rfl, rfl, rfl, rfl, id, rfl⟩, ⟨_, _, rfl, rfl, rfl, rfl, id, rfl⟩, ⟨_, _, rfl, rfl, rfl, rfl, id, rfl⟩, ⟨_, _, rfl, rfl, lsC_ren _ _, rfl, id, lsC_nm _ _⟩, ⟨_, _, rfl, rfl, lsC_ren _ _, rfl, id, lsC_nm _ _⟩, trivial⟩) ?_
 rintro ⟨i, hi0⟩
 dsimp only
 refine .seq ?_
 refine .region ?_
 refine .q (op_cmpI rfl rfl rfl) trivial rfl ?_
 refine .nil ?_
 show Ev _ _ _ _ _
 refine .seq ?_
 refine .cond rfl (fun hc23 => ?_) (fun hc23 => ?_)
 ·simp only [decide_eq_true_eq] at hc23
  refine .skip ?_
  show Ev _ _ _ _ _
  refine .seq ?_
  refine .block ?_
  refine .seq ?_
  refine .region ?_
  have hi : i < L.length := by omega
  refine .q (op_indexAddr_fsl Tryd.underlying30 infLeaseR.sz (by decide) rfl rfl (i := i) rfl (hi)) trivial rfl ?_
  refine .q (op_loadRow_fptr (v := lsV ((L.getD i default))) Tryd.underlying70 rfl infLeaseR.sz rfl rfl (ls_take (hi)) rfl) trivial rfl ?_
  refine .a (op_allocRow zero70 rel_zero70 rfl) trivial rfl ?_
  refine .w (op_storeRow (by kernel_rfl) rfl rfl rfl rfl rfl (rfl) (rfl)) trivial rfl ?_
  refine .nil ?_
  show Ev _ _ _ _ _
  refine .seq ?_
  refine .region ?_
  refine .q (op_move rfl) trivial rfl ?_
  refine .q (op_cmpI rfl rfl rfl) trivial rfl ?_
  refine .q (op_move rfl) trivial rfl ?_
  refine .know (b' := false) (rfl) ?_
  refine .no ⟨_, rfl, rfl⟩ rfl ?_
  refine .no ⟨_, rfl, rfl⟩ rfl ?_
  refine .no ⟨_, rfl, rfl⟩ rfl ?_
  refine .no ⟨_, rfl, rfl⟩ rfl ?_
  refine .q (op_pick_false rfl rfl rfl) trivial rfl ?_
  refine .q (op_assign rfl) trivial rfl ?_
  refine .nil ?_
  show Ev _ _ _ _ _
  refine .seq ?_
  refine .drawn [[], [0], [0, 1], [0, 1, 2], [0, 1, 2, 3], [0, 1, 2], [0, 1, 2, 5], [0, 1, 2, 3, 4, 5, 6], [0, 1, 2], [0, 1, 2, 8], [0, 1, 2, 3, 4, 5, 6, 7, 8, 9], [0, 1, 2, 3, 4, 5, 6, 7, 8, 9, 10], [0, 1, 2, 3, 4, 5, 6, 7, 8, 9, 10, 11]] [4, 6, 9] [] (by kernel_rfl) (by kernel_rfl) rfl ?_
  show DK _ [0, 1, 2, 3, 4, 5, 6, 7, 8, 9, 10, 11, 12] _ _ _
  refine .q rfl (op_move rfl) trivial ?_
  refine .q rfl (op_cmpI rfl rfl rfl) trivial ?_
  refine .q rfl (op_move rfl) trivial ?_
  refine .know (b' := true) (rfl) ?_
  refine .q rfl (op_move rfl) ⟨_, rfl, rfl⟩ ?_
  refine .q rfl (op_call (U := []) [] [] (rtick_ev n) Tryd.func49 (by kernel_rfl) rfl rfl rfl (⟨⟨_, rfl, rfl, rfl⟩, trivial⟩) (trivial) (trivial) (trivial) rfl) ⟨_, rfl, rfl⟩ ?_
  refine .q rfl (op_fieldAddr (m := 0) Tryd.underlying70 rfl (by kernel_rfl) rfl) ⟨_, rfl, rfl⟩ ?_
  refine .as (.ptr 1040 4) rfl ?_
  refine .q rfl (op_load Tryd.underlying3 rfl rfl rfl rfl (by show 4 < 5; decide)) ⟨_, rfl, rfl⟩ ?_
  refine .q rfl (op_subI rfl rfl ⟨by have := tick_in n; have := hl _ (getD_mem hi); omega, by have := tick_in n; have := hl _ (getD_mem hi); omega⟩) ⟨_, rfl, rfl⟩ ?_
  refine .q rfl (op_fieldAddr (m := 0) Tryd.underlying32 rfl (by kernel_rfl) rfl) ⟨_, rfl, rfl⟩ ?_
  refine .as (.ptr 1000 2) rfl ?_
  refine .q rfl (op_load Tryd.underlying3 rfl rfl rfl rfl (by show 2 < 5; decide)) ⟨_, rfl, rfl⟩ ?_
  refine .q rfl (op_cmpI rfl rfl rfl) ⟨_, rfl, rfl⟩ ?_
  refine .q rfl (op_pick_true rfl rfl rfl) trivial ?_
  refine .q rfl (op_assign rfl) trivial ?_
  refine .nil ?_
  show Ev _ _ _ _ _
  refine .seq ?_
  refine .region ?_
  refine .q (op_move rfl) trivial rfl ?_
  refine .q (op_cmpI rfl rfl rfl) trivial rfl ?_
  refine .q (op_move rfl) trivial rfl ?_
  refine .know (b' := false) (rfl) ?_
  refine .no ⟨_, rfl, rfl⟩ rfl ?_
  refine .no ⟨_, rfl, rfl⟩ rfl ?_
  refine .no ⟨_, rfl, rfl⟩ rfl ?_
  refine .no ⟨_, rfl, rfl⟩ rfl ?_
  refine .no ⟨_, rfl, rfl⟩ rfl ?_
  refine .q (op_pick_false rfl rfl rfl) trivial rfl ?_
  refine .q (op_move rfl) trivial rfl ?_
  refine .no ⟨_, rfl, rfl⟩ rfl ?_
  refine .no ⟨_, rfl, rfl⟩ rfl ?_
  refine .no ⟨_, rfl, rfl⟩ rfl ?_
  refine .no ⟨_, rfl, rfl⟩ rfl ?_
  refine .no ⟨_, rfl, rfl⟩ rfl ?_
  refine .q (op_pick_false rfl rfl rfl) trivial rfl ?_
  refine .q (op_move rfl) trivial rfl ?_
  refine .no ⟨_, rfl, rfl⟩ rfl ?_
  refine .no ⟨_, rfl, rfl⟩ rfl ?_
  refine .no ⟨_, rfl, rfl⟩ rfl ?_
  refine .no ⟨_, rfl, rfl⟩ rfl ?_
  refine .no ⟨_, rfl, rfl⟩ rfl ?_
  refine .q (op_pick_false rfl rfl rfl) trivial rfl ?_
  refine .q (op_assign rfl) trivial rfl ?_
  refine .nil ?_
  show Ev _ _ _ _ _
  refine .seq ?_
  refine .region ?_
  refine .q (op_move rfl) trivial rfl ?_
  refine .q (op_move rfl) trivial rfl ?_
  refine .q (op_move rfl) ⟨_, rfl, rfl⟩ rfl ?_
  refine .q (op_pick_false rfl rfl rfl) trivial rfl ?_
  refine .q (op_move rfl) trivial rfl ?_
  refine .split (fun hg73 => ?_) (fun hg73 => ?_)
  ·skip
   refine .no ⟨_, rfl, rfl⟩ rfl ?_
   refine .q (op_pick_true rfl rfl rfl) trivial rfl ?_
   refine .nil ?_
   show Ev _ _ _ _ _
   refine .cond_true rfl rfl ?_
   refine .region ?_
   refine .q (op_move rfl) trivial rfl ?_
   refine .q (op_loadRow Tryd.underlying70 rfl (by kernel_rfl) rfl rfl rfl (rfl)) trivial rfl ?_
   refine .a (op_buildRow (z := 5) (r := lsV ((L.getD i default))) (cs := Ls.cs ((L.getD i default))) Tryd.underlying30 infLeaseR (by decide) (by decide) rfl rfl rfl) trivial rfl ?_
   refine .a (ap_append (c' := .agg (lsC (fltN' (fun x : Ls => decide (c ≤ tickV n - x.l)) L i ++ [(L.getD i default)]))) Tryd.underlying30 Tryd.underlying30 (.inr ⟨_, rfl⟩) infLeaseR rfl rfl rfl rfl (by show (lsC _).length = _; rw [lsC_len]) (srcs_sl (m := 1) (o := 0) rfl rfl (by show 5 ≤ 5; decide)) (lsC_app (fltN' (fun x : Ls => decide (c ≤ tickV n - x.l)) L i) [(L.getD i default)]) (by have := flt_le (wd := (fun x : Ls => decide (c ≤ tickV n - x.l))) (L := L) (i := i); have := flt_le (wd := (fun x : Ls => !( decide (c ≤ tickV n - x.l)))) (L := L) (i := i); omega)) trivial rfl ?_
   refine .q (op_assign rfl) trivial rfl ?_
   refine .nil ?_
   show Ev _ _ _ _ _
   refine .region ?_
   refine .q (op_addI rfl rfl ⟨by omega, by omega⟩) trivial rfl ?_
   refine .q (op_move rfl) trivial rfl ?_
   refine .nil ?_
   have hw : (fun x : Ls => decide (c ≤ tickV n - x.l)) (L.getD i default) = true := by show ( decide (c ≤ tickV n - (L.getD i default).l)) = _; exact hg73
   have hs1 := flt_yes (wd := (fun x : Ls => decide (c ≤ tickV n - x.l))) hi hw
   have hs2 := flt_no (wd := (fun x : Ls => !( decide (c ≤ tickV n - x.l)))) hi (by show (!(fun x : Ls => decide (c ≤ tickV n - x.l)) (L.getD i default)) = false; rw [hw]; rfl)
   exact ⟨⟨i + 1, hi⟩, by show _ - (i + 1) < _ - i; omega, StLe.mk [(1000, 1000), (1008, 1008), (1016, 1016), (1024, 1024), (1032, 1160)] rfl rfl ⟨⟨_, rfl, by first | rfl | (simp only [AV.ren]; congr 1; omega), rfl⟩, ⟨_, rfl, by first | rfl | (simp only [AV.ren]; congr 1; omega), rfl⟩, ⟨_, rfl, by first | rfl | (simp only [AV.ren]; congr 1; omega), rfl⟩, ⟨_, rfl, by first | rfl | (simp only [AV.ren]; congr 1; omega), rfl⟩, ⟨_, rfl, by first | rfl | (simp only [AV.ren]; congr 1; omega), rfl⟩, ⟨_, rfl, by exact (congrArg (fun q : List Ls => AV.sl 1024 0 q.length 5) hs2.symm), rfl⟩, ⟨_, rfl, by exact (sl_snoc 1032 _ _).trans (congrArg (fun q : List Ls => AV.sl 1032 0 q.length 5) hs1.symm), rfl⟩, ⟨_, rfl, by first | rfl | (simp only [AV.ren]; congr 1; omega), rfl⟩, ⟨_, rfl, by first | rfl | (simp only [AV.ren]; congr 1; omega), rfl⟩, ⟨_, rfl, by first | rfl | (simp only [AV.ren]; congr 1; omega), rfl⟩, trivial⟩ ⟨⟨_, _, rfl, rfl, rfl, rfl, id, rfl⟩, ⟨_, _, rfl, rfl, rfl, rfl, id, rfl⟩, ⟨_, _, rfl, rfl, rfl, rfl, id, rfl⟩, ⟨_, _, rfl, rfl, (lsC_ren _ _).trans (congrArg (fun q => AV.agg (lsC q)) hs2.symm), rfl, id, lsC_nm _ _⟩, ⟨_, _, rfl, rfl, (lsC_ren _ _).trans (congrArg (fun q => AV.agg (lsC q)) hs1.symm), rfl, id, lsC_nm _ _⟩, trivial⟩⟩
  ·skip
   refine .q (op_move rfl) ⟨_, rfl, rfl⟩ rfl ?_
   refine .q (op_pick_false rfl rfl rfl) trivial rfl ?_
   refine .nil ?_
   show Ev _ _ _ _ _
   refine .cond_false rfl rfl ?_
   refine .region ?_
   refine .q (op_move rfl) trivial rfl ?_
   refine .q (op_loadRow Tryd.underlying70 rfl (by kernel_rfl) rfl rfl rfl (rfl)) trivial rfl ?_
   refine .a (op_buildRow (z := 5) (r := lsV ((L.getD i default))) (cs := Ls.cs ((L.getD i default))) Tryd.underlying30 infLeaseR (by decide) (by decide) rfl rfl rfl) trivial rfl ?_
   refine .a (ap_append (c' := .agg (lsC (fltN' (fun x : Ls => !( decide (c ≤ tickV n - x.l))) L i ++ [(L.getD i default)]))) Tryd.underlying30 Tryd.underlying30 (.inr ⟨_, rfl⟩) infLeaseR rfl rfl rfl rfl (by show (lsC _).length = _; rw [lsC_len]) (srcs_sl (m := 1) (o := 0) rfl rfl (by show 5 ≤ 5; decide)) (lsC_app (fltN' (fun x : Ls => !( decide (c ≤ tickV n - x.l))) L i) [(L.getD i default)]) (by have := flt_le (wd := (fun x : Ls => decide (c ≤ tickV n - x.l))) (L := L) (i := i); have := flt_le (wd := (fun x : Ls => !( decide (c ≤ tickV n - x.l)))) (L := L) (i := i); omega)) trivial rfl ?_
   refine .q (op_assign rfl) trivial rfl ?_
   refine .nil ?_
   show Ev _ _ _ _ _
   refine .region ?_
   refine .q (op_addI rfl rfl ⟨by omega, by omega⟩) trivial rfl ?_
   refine .q (op_move rfl) trivial rfl ?_
   refine .nil ?_
   have hw : (fun x : Ls => decide (c ≤ tickV n - x.l)) (L.getD i default) = false := by show ( decide (c ≤ tickV n - (L.getD i default).l)) = _; exact hg73
   have hs1 := flt_no (wd := (fun x : Ls => decide (c ≤ tickV n - x.l))) hi hw
   have hs2 := flt_yes (wd := (fun x : Ls => !( decide (c ≤ tickV n - x.l)))) hi (by show (!(fun x : Ls => decide (c ≤ tickV n - x.l)) (L.getD i default)) = true; rw [hw]; rfl)
   exact ⟨⟨i + 1, hi⟩, by show _ - (i + 1) < _ - i; omega, StLe.mk [(1000, 1000), (1008, 1008), (1016, 1016), (1024, 1160), (1032, 1032)] rfl rfl ⟨⟨_, rfl, by first | rfl | (simp only [AV.ren]; congr 1; omega), rfl⟩, ⟨_, rfl, by first | rfl | (simp only [AV.ren]; congr 1; omega), rfl⟩, ⟨_, rfl, by first | rfl | (simp only [AV.ren]; congr 1; omega), rfl⟩, ⟨_, rfl, by first | rfl | (simp only [AV.ren]; congr 1; omega), rfl⟩, ⟨_, rfl, by first | rfl | (simp only [AV.ren]; congr 1; omega), rfl⟩, ⟨_, rfl, by exact (sl_snoc 1024 _ _).trans (congrArg (fun q : List Ls => AV.sl 1024 0 q.length 5) hs2.symm), rfl⟩, ⟨_, rfl, by exact (congrArg (fun q : List Ls => AV.sl 1032 0 q.length 5) hs1.symm), rfl⟩, ⟨_, rfl, by first | rfl | (simp only [AV.ren]; congr 1; omega), rfl⟩, ⟨_, rfl, by first | rfl | (simp only [AV.ren]; congr 1; omega), rfl⟩, ⟨_, rfl, by first | rfl | (simp only [AV.ren]; congr 1; omega), rfl⟩, trivial⟩ ⟨⟨_, _, rfl, rfl, rfl, rfl, id, rfl⟩, ⟨_, _, rfl, rfl, rfl, rfl, id, rfl⟩, ⟨_, _, rfl, rfl, rfl, rfl, id, rfl⟩, ⟨_, _, rfl, rfl, (lsC_ren _ _).trans (congrArg (fun q => AV.agg (lsC q)) hs2.symm), rfl, id, lsC_nm _ _⟩, ⟨_, _, rfl, rfl, (lsC_ren _ _).trans (congrArg (fun q => AV.agg (lsC q)) hs1.symm), rfl, id, lsC_nm _ _⟩, trivial⟩⟩
 ·simp only [decide_eq_false_iff_not] at hc23
  refine .exit ?_
  show Ev _ _ _ _ _
  refine .seq ?_
  refine .region ?_
  refine .q (op_move rfl) trivial rfl ?_
  refine EvL.freezeF (t := 85) (b := 1024) (o := 0) (n := (fltN' (fun x : Ls => !( decide (c ≤ tickV n - x.l))) L i).length) (z := 5) (e := 70) (c := .agg (lsC (fltN' (fun x : Ls => !( decide (c ≤ tickV n - x.l))) L i))) (Nat.le_of_ble_eq_true rfl) rfl rfl (by show 0 + _ * 5 ≤ (lsC _).length; rw [lsC_len]; omega) (lsC_still _) ?_
  refine .as (.fsl (lsC (L.filter (fun x : Ls => !( decide (c ≤ tickV n - x.l))))) (L.filter (fun x : Ls => !( decide (c ≤ tickV n - x.l)))).length 5) (by rw [fsl_whole _ rfl, flt_all (by omega)]) ?_
  refine .q (op_fieldAddr (m := 0) Tryd.underlying32 rfl (by kernel_rfl) rfl) trivial rfl ?_
  refine .as (.ptr 1000 4) rfl ?_
  refine .w (op_store (by kernel_rfl) rfl rfl rfl rfl rfl (by show 4 < 5; decide)) trivial rfl ?_
  refine .nil ?_
  show Ev _ _ _ _ _
  refine .seq ?_
  refine .region ?_
  refine .q (op_loadRow Tryd.underlying32 rfl (by kernel_rfl) rfl rfl rfl (rfl)) trivial rfl ?_
  refine .q (op_move rfl) trivial rfl ?_
  refine EvL.freezeF (t := 88) (b := 1032) (o := 0) (n := (fltN' (fun x : Ls => decide (c ≤ tickV n - x.l)) L i).length) (z := 5) (e := 70) (c := .agg (lsC (fltN' (fun x : Ls => decide (c ≤ tickV n - x.l)) L i))) (Nat.le_of_ble_eq_true rfl) rfl rfl (by show 0 + _ * 5 ≤ (lsC _).length; rw [lsC_len]; omega) (lsC_still _) ?_
  refine .as (.fsl (lsC (L.filter (fun x : Ls => decide (c ≤ tickV n - x.l)))) (L.filter (fun x : Ls => decide (c ≤ tickV n - x.l))).length 5) (by rw [fsl_whole _ rfl, flt_all (by omega)]) ?_
  refine .w (op_storeRow (by kernel_rfl) rfl rfl rfl rfl rfl (rfl) (rfl)) trivial rfl ?_
  refine .q (op_assign rfl) trivial rfl ?_
  refine .nil ?_
  show Ev _ _ _ _ _
  refine .ret ?_
  show RetOk _ _ _ _ _ _ _
  exact retc2 rfl (.inl rfl) ⟨_, _, _, _, rfl, rfl, rfl, rfl, rfl, Tryd.underlying32, rfl, sz32⟩ rfl trivial
set_option maxRecDepth 100000 in
theorem sift2_ev (a b c ep : Int) (L : List Ls) (hlen : L.length ≤ 4096) (z : Ls)  : Meets Tryd.prog 32 [.agg [.i64 a, .i64 b, .i64 c, .i64 ep, .fsl (lsC L) L.length 5], .i64 2, .agg [.str z.t, .str z.a, .i64 z.o, .i64 0, .i64 0], .i64 0] [] (.tup [.agg [.i64 a, .i64 b, .i64 c, .i64 ep, .fsl (lsC (L.filter (fun x : Ls => !( x.o == z.o && x.t == z.t && x.a == z.a)))) (L.filter (fun x : Ls => !( x.o == z.o && x.t == z.t && x.a == z.a))).length 5], .fsl (lsC (L.filter (fun x : Ls => x.o == z.o && x.t == z.t && x.a == z.a))) (L.filter (fun x : Ls => x.o == z.o && x.t == z.t && x.a == z.a)).length 5]) [] := by
 refine meets_of_ev (nt := 89) Tryd.func32 rfl rfl (Nat.le_of_ble_eq_true rfl) ?_
 refine .seq ?_
 refine .region ?_
 refine .a (op_boxRow rfl rfl) trivial rfl ?_
 refine .a (op_boxRow rfl rfl) trivial rfl ?_
 refine .a (op_allocRow zero32 rel_zero32 rfl) trivial rfl ?_
 refine .q (op_assign rfl) trivial rfl ?_
 refine .nil ?_
 show Ev _ _ _ _ _
 refine .seq ?_
 refine .region ?_
 refine .a (ap_build0 (c := .agg (lsC [])) Tryd.underlying30 infLeaseR rfl) trivial rfl ?_
 refine .q (op_assign rfl) trivial rfl ?_
 refine .nil ?_
 show Ev _ _ _ _ _
 refine .seq ?_
 refine .region ?_
 refine .a (ap_build0 (c := .agg (lsC [])) Tryd.underlying30 infLeaseR rfl) trivial rfl ?_
 refine .q (op_assign rfl) trivial rfl ?_
 refine .nil ?_
 show Ev _ _ _ _ _
 refine .seq ?_
 refine .seq ?_
 refine .region ?_
 refine .q (op_fieldAddr (m := 0) Tryd.underlying32 rfl (by kernel_rfl) rfl) trivial rfl ?_
 refine .as (.ptr 1000 4) rfl ?_
 refine .q (op_load Tryd.underlying30 rfl rfl rfl rfl (by show 4 < 5; decide)) trivial rfl ?_
 refine .q (op_len_fsl Tryd.underlying30 rfl) trivial rfl ?_
 refine .q (op_move rfl) trivial rfl ?_
 refine .nil ?_
 show Ev _ _ _ _ _
 refine .block ?_
 refine Ev.loop (ι := { i : Nat // i ≤ L.length }) (fun q => ⟨[(1, .i64 2), (3, .i64 0), (4, .ptr 1000 0), (6, .ptr 1008 0), (8, .ptr 1016 0), (10, .sl 1024 0 (fltN' (fun x : Ls => !( x.o == z.o && x.t == z.t && x.a == z.a)) L q.1).length 5), (11, .sl 1032 0 (fltN' (fun x : Ls => x.o == z.o && x.t == z.t && x.a == z.a) L q.1).length 5), (20, .fsl (lsC L) L.length 5), (21, .i64 ((L.length : Nat) : Int)), (22, .i64 ((q.1 : Nat) : Int))], [(1000, some ⟨.agg [.i64 a, .i64 b, .i64 c, .i64 ep, .fsl (lsC L) L.length 5], 32, true⟩), (1008, some ⟨.agg [.str z.t, .str z.a, .i64 z.o, .i64 0, .i64 0], 70, true⟩), (1016, some ⟨.agg [.i64 0, .i64 0, .i64 0, .i64 0, .nilsl], 32, true⟩), (1024, some ⟨.agg (lsC (fltN' (fun x : Ls => !( x.o == z.o && x.t == z.t && x.a == z.a)) L q.1)), 70, true⟩), (1032, some ⟨.agg (lsC (fltN' (fun x : Ls => x.o == z.o && x.t == z.t && x.a == z.a) L q.1)), 70, true⟩)], 1040⟩) (fun q => L.length - q.1) ⟨0, Nat.zero_le _⟩ (StLe.mk [(1000, 1000), (1008, 1008), (1016, 1016), (1024, 1024), (1032, 1032)] rfl rfl ⟨⟨_, rfl, by first | rfl | (simp only [AV.ren]; congr 1; omega), rfl⟩, ⟨_, rfl, by first | rfl | (simp only [AV.ren]; congr 1; omega), rfl⟩, ⟨_, rfl, by first | rfl | (simp only [AV.ren]; congr 1; omega), rfl⟩, ⟨_, rfl, by first | rfl | (simp only [AV.ren]; congr 1; omega), rfl⟩, ⟨_, rfl, by first | rfl | (simp only [AV.ren]; congr 1; omega), rfl⟩, ⟨_, rfl, by first | rfl | (simp only [AV.ren]; congr 1; omega), rfl⟩, ⟨_, rfl, by first | rfl | (simp only [AV.ren]; congr 1; omega), rfl⟩, ⟨_, rfl, by first | rfl | (simp only [AV.ren]; congr 1; omega), rfl⟩, ⟨_, rfl, by first | rfl | (simp only [AV.ren]; congr 1; omega), rfl⟩, ⟨_, rfl, by first | rfl | (simp only [AV.ren]; congr 1; omega), rfl⟩, trivial⟩ ⟨⟨_, _, rfl, rfl, rfl, rfl, id, rfl⟩, ⟨_, _, rfl, rfl, rfl, rfl, id, rfl⟩, ⟨_, _, rfl, rfl, rfl, rfl, id, rfl⟩, ⟨_, _, rfl, rfl, lsC_ren _ _, rfl, id, lsC_nm _ _⟩, ⟨_, _, rfl, rfl, lsC_ren _ _, rfl, id, lsC_nm _ _⟩, trivial⟩) ?_
 rintro ⟨i, hi0⟩
 dsimp only
 refine .seq ?_
 refine .region ?_
 refine .q (op_cmpI rfl rfl rfl) trivial rfl ?_
 refine .nil ?_
 show Ev _ _ _ _ _
 refine .seq ?_
 refine .cond rfl (fun hc23 => ?_) (fun hc23 => ?_)
 ·simp only [decide_eq_true_eq] at hc23
  refine .skip ?_
  show Ev _ _ _ _ _
  refine .seq ?_
  refine .block ?_
  refine .seq ?_
  refine .region ?_
  have hi : i < L.length := by omega
  refine .q (op_indexAddr_fsl Tryd.underlying30 infLeaseR.sz (by decide) rfl rfl (i := i) rfl (hi)) trivial rfl ?_
  refine .q (op_loadRow_fptr (v := lsV ((L.getD i default))) Tryd.underlying70 rfl infLeaseR.sz rfl rfl (ls_take (hi)) rfl) trivial rfl ?_
  refine .a (op_allocRow zero70 rel_zero70 rfl) trivial rfl ?_
  refine .w (op_storeRow (by kernel_rfl) rfl rfl rfl rfl rfl (rfl) (rfl)) trivial rfl ?_
  refine .nil ?_
  show Ev _ _ _ _ _
  refine .seq ?_
  refine .region ?_
  refine .q (op_move rfl) trivial rfl ?_
  refine .q (op_cmpI rfl rfl rfl) trivial rfl ?_
  refine .q (op_move rfl) trivial rfl ?_
  refine .know (b' := false) (rfl) ?_
  refine .no ⟨_, rfl, rfl⟩ rfl ?_
  refine .no ⟨_, rfl, rfl⟩ rfl ?_
  refine .no ⟨_, rfl, rfl⟩ rfl ?_
  refine .no ⟨_, rfl, rfl⟩ rfl ?_
  refine .q (op_pick_false rfl rfl rfl) trivial rfl ?_
  refine .q (op_assign rfl) trivial rfl ?_
  refine .nil ?_
  show Ev _ _ _ _ _
  refine .seq ?_
  refine .drawn [[], [0], [0, 1], [0, 1, 2], [0, 1, 2, 3], [0, 1, 2], [0, 1, 2, 5], [0, 1, 2, 3, 4, 5, 6], [0, 1, 2], [0, 1, 2, 8], [0, 1, 2, 3, 4, 5, 6, 7, 8, 9], [0, 1, 2, 3, 4, 5, 6, 7, 8, 9, 10], [0, 1, 2, 3, 4, 5, 6, 7, 8, 9, 10, 11]] [4, 6, 9] [] (by kernel_rfl) (by kernel_rfl) rfl ?_
  show DK _ [0, 1, 2, 3, 4, 5, 6, 7, 8, 9, 10, 11, 12] _ _ _
  refine .q rfl (op_move rfl) trivial ?_
  refine .q rfl (op_cmpI rfl rfl rfl) trivial ?_
  refine .q rfl (op_move rfl) trivial ?_
  refine .know (b' := false) (rfl) ?_
  refine .no rfl ⟨_, rfl, rfl⟩ ?_
  refine .no rfl ⟨_, rfl, rfl⟩ ?_
  refine .no rfl ⟨_, rfl, rfl⟩ ?_
  refine .no rfl ⟨_, rfl, rfl⟩ ?_
  refine .no rfl ⟨_, rfl, rfl⟩ ?_
  refine .no rfl ⟨_, rfl, rfl⟩ ?_
  refine .no rfl ⟨_, rfl, rfl⟩ ?_
  refine .no rfl ⟨_, rfl, rfl⟩ ?_
  refine .q rfl (op_pick_false rfl rfl rfl) trivial ?_
  refine .q rfl (op_assign rfl) trivial ?_
  refine .nil ?_
  show Ev _ _ _ _ _
  refine .seq ?_
  refine .region ?_
  refine .q (op_move rfl) trivial rfl ?_
  refine .q (op_cmpI rfl rfl rfl) trivial rfl ?_
  refine .q (op_move rfl) trivial rfl ?_
  refine .know (b' := true) (rfl) ?_
  refine .q (op_fieldAddr (m := 0) Tryd.underlying70 rfl (by kernel_rfl) rfl) ⟨_, rfl, rfl⟩ rfl ?_
  refine .as (.ptr 1040 2) rfl ?_
  refine .q (op_load Tryd.underlying3 rfl rfl rfl rfl (by show 2 < 5; decide)) ⟨_, rfl, rfl⟩ rfl ?_
  refine .q (op_fieldAddr (m := 0) Tryd.underlying70 rfl (by kernel_rfl) rfl) ⟨_, rfl, rfl⟩ rfl ?_
  refine .as (.ptr 1008 2) rfl ?_
  refine .q (op_load Tryd.underlying3 rfl rfl rfl rfl (by show 2 < 5; decide)) ⟨_, rfl, rfl⟩ rfl ?_
  refine .q (op_cmpI rfl rfl rfl) ⟨_, rfl, rfl⟩ rfl ?_
  refine .q (op_pick_true rfl rfl rfl) trivial rfl ?_
  refine .q (op_move rfl) trivial rfl ?_
  refine .split (fun hg55 => ?_) (fun hg55 => ?_)
  ·skip
   refine .q (op_fieldAddr (m := 0) Tryd.underlying70 rfl (by kernel_rfl) rfl) ⟨_, rfl, rfl⟩ rfl ?_
   refine .as (.ptr 1040 0) rfl ?_
   refine .q (op_load Tryd.underlying9 rfl rfl rfl rfl (by show 0 < 5; decide)) ⟨_, rfl, rfl⟩ rfl ?_
   refine .q (op_fieldAddr (m := 0) Tryd.underlying70 rfl (by kernel_rfl) rfl) ⟨_, rfl, rfl⟩ rfl ?_
   refine .as (.ptr 1008 0) rfl ?_
   refine .q (op_load Tryd.underlying9 rfl rfl rfl rfl (by show 0 < 5; decide)) ⟨_, rfl, rfl⟩ rfl ?_
   refine .q (op_eqS rfl rfl rfl) ⟨_, rfl, rfl⟩ rfl ?_
   refine .q (op_pick_true rfl rfl rfl) trivial rfl ?_
   refine .q (op_move rfl) trivial rfl ?_
   refine .split (fun hg62 => ?_) (fun hg62 => ?_)
   ·skip
    refine .q (op_fieldAddr (m := 0) Tryd.underlying70 rfl (by kernel_rfl) rfl) ⟨_, rfl, rfl⟩ rfl ?_
    refine .as (.ptr 1040 1) rfl ?_
    refine .q (op_load Tryd.underlying9 rfl rfl rfl rfl (by show 1 < 5; decide)) ⟨_, rfl, rfl⟩ rfl ?_
    refine .q (op_fieldAddr (m := 0) Tryd.underlying70 rfl (by kernel_rfl) rfl) ⟨_, rfl, rfl⟩ rfl ?_
    refine .as (.ptr 1008 1) rfl ?_
    refine .q (op_load Tryd.underlying9 rfl rfl rfl rfl (by show 1 < 5; decide)) ⟨_, rfl, rfl⟩ rfl ?_
    refine .q (op_eqS rfl rfl rfl) ⟨_, rfl, rfl⟩ rfl ?_
    refine .q (op_pick_true rfl rfl rfl) trivial rfl ?_
    refine .q (op_assign rfl) trivial rfl ?_
    refine .nil ?_
    show Ev _ _ _ _ _
    refine .seq ?_
    refine .region ?_
    refine .q (op_move rfl) trivial rfl ?_
    refine .q (op_move rfl) trivial rfl ?_
    refine .q (op_move rfl) ⟨_, rfl, rfl⟩ rfl ?_
    refine .q (op_pick_false rfl rfl rfl) trivial rfl ?_
    refine .q (op_move rfl) trivial rfl ?_
    refine .q (op_move rfl) ⟨_, rfl, rfl⟩ rfl ?_
    refine .q (op_pick_false rfl rfl rfl) trivial rfl ?_
    refine .nil ?_
    show Ev _ _ _ _ _
    refine .cond rfl (fun hc75 => ?_) (fun hc75 => ?_)
    ·skip
     refine .region ?_
     refine .q (op_move rfl) trivial rfl ?_
     refine .q (op_loadRow Tryd.underlying70 rfl (by kernel_rfl) rfl rfl rfl (rfl)) trivial rfl ?_
     refine .a (op_buildRow (z := 5) (r := lsV ((L.getD i default))) (cs := Ls.cs ((L.getD i default))) Tryd.underlying30 infLeaseR (by decide) (by decide) rfl rfl rfl) trivial rfl ?_
     refine .a (ap_append (c' := .agg (lsC (fltN' (fun x : Ls => x.o == z.o && x.t == z.t && x.a == z.a) L i ++ [(L.getD i default)]))) Tryd.underlying30 Tryd.underlying30 (.inr ⟨_, rfl⟩) infLeaseR rfl rfl rfl rfl (by show (lsC _).length = _; rw [lsC_len]) (srcs_sl (m := 1) (o := 0) rfl rfl (by show 5 ≤ 5; decide)) (lsC_app (fltN' (fun x : Ls => x.o == z.o && x.t == z.t && x.a == z.a) L i) [(L.getD i default)]) (by have := flt_le (wd := (fun x : Ls => x.o == z.o && x.t == z.t && x.a == z.a)) (L := L) (i := i); have := flt_le (wd := (fun x : Ls => !( x.o == z.o && x.t == z.t && x.a == z.a))) (L := L) (i := i); omega)) trivial rfl ?_
     refine .q (op_assign rfl) trivial rfl ?_
     refine .nil ?_
     show Ev _ _ _ _ _
     refine .region ?_
     refine .q (op_addI rfl rfl ⟨by omega, by omega⟩) trivial rfl ?_
     refine .q (op_move rfl) trivial rfl ?_
     refine .nil ?_
     have hw : (fun x : Ls => x.o == z.o && x.t == z.t && x.a == z.a) (L.getD i default) = true := by show ( (L.getD i default).o == z.o && (L.getD i default).t == z.t && (L.getD i default).a == z.a) = _; first | (rw [hg55, hg62, hc75]; rfl) | (rw [hg55, hg62, hc75]; rfl) | (rw [hg55, hg62]; rfl) | (rw [hg55]; rfl)
     have hs1 := flt_yes (wd := (fun x : Ls => x.o == z.o && x.t == z.t && x.a == z.a)) hi hw
     have hs2 := flt_no (wd := (fun x : Ls => !( x.o == z.o && x.t == z.t && x.a == z.a))) hi (by show (!(fun x : Ls => x.o == z.o && x.t == z.t && x.a == z.a) (L.getD i default)) = false; rw [hw]; rfl)
     exact ⟨⟨i + 1, hi⟩, by show _ - (i + 1) < _ - i; omega, StLe.mk [(1000, 1000), (1008, 1008), (1016, 1016), (1024, 1024), (1032, 1160)] rfl rfl ⟨⟨_, rfl, by first | rfl | (simp only [AV.ren]; congr 1; omega), rfl⟩, ⟨_, rfl, by first | rfl | (simp only [AV.ren]; congr 1; omega), rfl⟩, ⟨_, rfl, by first | rfl | (simp only [AV.ren]; congr 1; omega), rfl⟩, ⟨_, rfl, by first | rfl | (simp only [AV.ren]; congr 1; omega), rfl⟩, ⟨_, rfl, by first | rfl | (simp only [AV.ren]; congr 1; omega), rfl⟩, ⟨_, rfl, by exact (congrArg (fun q : List Ls => AV.sl 1024 0 q.length 5) hs2.symm), rfl⟩, ⟨_, rfl, by exact (sl_snoc 1032 _ _).trans (congrArg (fun q : List Ls => AV.sl 1032 0 q.length 5) hs1.symm), rfl⟩, ⟨_, rfl, by first | rfl | (simp only [AV.ren]; congr 1; omega), rfl⟩, ⟨_, rfl, by first | rfl | (simp only [AV.ren]; congr 1; omega), rfl⟩, ⟨_, rfl, by first | rfl | (simp only [AV.ren]; congr 1; omega), rfl⟩, trivial⟩ ⟨⟨_, _, rfl, rfl, rfl, rfl, id, rfl⟩, ⟨_, _, rfl, rfl, rfl, rfl, id, rfl⟩, ⟨_, _, rfl, rfl, rfl, rfl, id, rfl⟩, ⟨_, _, rfl, rfl, (lsC_ren _ _).trans (congrArg (fun q => AV.agg (lsC q)) hs2.symm), rfl, id, lsC_nm _ _⟩, ⟨_, _, rfl, rfl, (lsC_ren _ _).trans (congrArg (fun q => AV.agg (lsC q)) hs1.symm), rfl, id, lsC_nm _ _⟩, trivial⟩⟩
    ·skip
     refine .region ?_
     refine .q (op_move rfl) trivial rfl ?_
     refine .q (op_loadRow Tryd.underlying70 rfl (by kernel_rfl) rfl rfl rfl (rfl)) trivial rfl ?_
     refine .a (op_buildRow (z := 5) (r := lsV ((L.getD i default))) (cs := Ls.cs ((L.getD i default))) Tryd.underlying30 infLeaseR (by decide) (by decide) rfl rfl rfl) trivial rfl ?_
     refine .a (ap_append (c' := .agg (lsC (fltN' (fun x : Ls => !( x.o == z.o && x.t == z.t && x.a == z.a)) L i ++ [(L.getD i default)]))) Tryd.underlying30 Tryd.underlying30 (.inr ⟨_, rfl⟩) infLeaseR rfl rfl rfl rfl (by show (lsC _).length = _; rw [lsC_len]) (srcs_sl (m := 1) (o := 0) rfl rfl (by show 5 ≤ 5; decide)) (lsC_app (fltN' (fun x : Ls => !( x.o == z.o && x.t == z.t && x.a == z.a)) L i) [(L.getD i default)]) (by have := flt_le (wd := (fun x : Ls => x.o == z.o && x.t == z.t && x.a == z.a)) (L := L) (i := i); have := flt_le (wd := (fun x : Ls => !( x.o == z.o && x.t == z.t && x.a == z.a))) (L := L) (i := i); omega)) trivial rfl ?_
     refine .q (op_assign rfl) trivial rfl ?_
     refine .nil ?_
     show Ev _ _ _ _ _
     refine .region ?_
     refine .q (op_addI rfl rfl ⟨by omega, by omega⟩) trivial rfl ?_
     refine .q (op_move rfl) trivial rfl ?_
     refine .nil ?_
     have hw : (fun x : Ls => x.o == z.o && x.t == z.t && x.a == z.a) (L.getD i default) = false := by show ( (L.getD i default).o == z.o && (L.getD i default).t == z.t && (L.getD i default).a == z.a) = _; first | (rw [hg55, hg62, hc75]; rfl) | (rw [hg55, hg62, hc75]; rfl) | (rw [hg55, hg62]; rfl) | (rw [hg55]; rfl)
     have hs1 := flt_no (wd := (fun x : Ls => x.o == z.o && x.t == z.t && x.a == z.a)) hi hw
     have hs2 := flt_yes (wd := (fun x : Ls => !( x.o == z.o && x.t == z.t && x.a == z.a))) hi (by show (!(fun x : Ls => x.o == z.o && x.t == z.t && x.a == z.a) (L.getD i default)) = true; rw [hw]; rfl)
     exact ⟨⟨i + 1, hi⟩, by show _ - (i + 1) < _ - i; omega, StLe.mk [(1000, 1000), (1008, 1008), (1016, 1016), (1024, 1160), (1032, 1032)] rfl rfl ⟨⟨_, rfl, by first | rfl | (simp only [AV.ren]; congr 1; omega), rfl⟩, ⟨_, rfl, by first | rfl | (simp only [AV.ren]; congr 1; omega), rfl⟩, ⟨_, rfl, by first | rfl | (simp only [AV.ren]; congr 1; omega), rfl⟩, ⟨_, rfl, by first | rfl | (simp only [AV.ren]; congr 1; omega), rfl⟩, ⟨_, rfl, by first | rfl | (simp only [AV.ren]; congr 1; omega), rfl⟩, ⟨_, rfl, by exact (sl_snoc 1024 _ _).trans (congrArg (fun q : List Ls => AV.sl 1024 0 q.length 5) hs2.symm), rfl⟩, ⟨_, rfl, by exact (congrArg (fun q : List Ls => AV.sl 1032 0 q.length 5) hs1.symm), rfl⟩, ⟨_, rfl, by first | rfl | (simp only [AV.ren]; congr 1; omega), rfl⟩, ⟨_, rfl, by first | rfl | (simp only [AV.ren]; congr 1; omega), rfl⟩, ⟨_, rfl, by first | rfl | (simp only [AV.ren]; congr 1; omega), rfl⟩, trivial⟩ ⟨⟨_, _, rfl, rfl, rfl, rfl, id, rfl⟩, ⟨_, _, rfl, rfl, rfl, rfl, id, rfl⟩, ⟨_, _, rfl, rfl, rfl, rfl, id, rfl⟩, ⟨_, _, rfl, rfl, (lsC_ren _ _).trans (congrArg (fun q => AV.agg (lsC q)) hs2.symm), rfl, id, lsC_nm _ _⟩, ⟨_, _, rfl, rfl, (lsC_ren _ _).trans (congrArg (fun q => AV.agg (lsC q)) hs1.symm), rfl, id, lsC_nm _ _⟩, trivial⟩⟩
   ·skip
    refine .no ⟨_, rfl, rfl⟩ rfl ?_
    refine .no ⟨_, rfl, rfl⟩ rfl ?_
    refine .no ⟨_, rfl, rfl⟩ rfl ?_
    refine .no ⟨_, rfl, rfl⟩ rfl ?_
    refine .no ⟨_, rfl, rfl⟩ rfl ?_
    refine .q (op_pick_false rfl rfl rfl) trivial rfl ?_
    refine .q (op_assign rfl) trivial rfl ?_
    refine .nil ?_
    show Ev _ _ _ _ _
    refine .seq ?_
    refine .region ?_
    refine .q (op_move rfl) trivial rfl ?_
    refine .q (op_move rfl) trivial rfl ?_
    refine .q (op_move rfl) ⟨_, rfl, rfl⟩ rfl ?_
    refine .q (op_pick_false rfl rfl rfl) trivial rfl ?_
    refine .q (op_move rfl) trivial rfl ?_
    refine .q (op_move rfl) ⟨_, rfl, rfl⟩ rfl ?_
    refine .q (op_pick_false rfl rfl rfl) trivial rfl ?_
    refine .nil ?_
    show Ev _ _ _ _ _
    refine .cond_false rfl rfl ?_
    refine .region ?_
    refine .q (op_move rfl) trivial rfl ?_
    refine .q (op_loadRow Tryd.underlying70 rfl (by kernel_rfl) rfl rfl rfl (rfl)) trivial rfl ?_
    refine .a (op_buildRow (z := 5) (r := lsV ((L.getD i default))) (cs := Ls.cs ((L.getD i default))) Tryd.underlying30 infLeaseR (by decide) (by decide) rfl rfl rfl) trivial rfl ?_
    refine .a (ap_append (c' := .agg (lsC (fltN' (fun x : Ls => !( x.o == z.o && x.t == z.t && x.a == z.a)) L i ++ [(L.getD i default)]))) Tryd.underlying30 Tryd.underlying30 (.inr ⟨_, rfl⟩) infLeaseR rfl rfl rfl rfl (by show (lsC _).length = _; rw [lsC_len]) (srcs_sl (m := 1) (o := 0) rfl rfl (by show 5 ≤ 5; decide)) (lsC_app (fltN' (fun x : Ls => !( x.o == z.o && x.t == z.t && x.a == z.a)) L i) [(L.getD i default)]) (by have := flt_le (wd := (fun x : Ls => x.o == z.o && x.t == z.t && x.a == z.a)) (L := L) (i := i); have := flt_le (wd := (fun x : Ls => !( x.o == z.o && x.t == z.t && x.a == z.a))) (L := L) (i := i); omega)) trivial rfl ?_
    refine .q (op_assign rfl) trivial rfl ?_
    refine .nil ?_
    show Ev _ _ _ _ _
    refine .region ?_
    refine .q (op_addI rfl rfl ⟨by omega, by omega⟩) trivial rfl ?_
    refine .q (op_move rfl) trivial rfl ?_
    refine .nil ?_
    have hw : (fun x : Ls => x.o == z.o && x.t == z.t && x.a == z.a) (L.getD i default) = false := by show ( (L.getD i default).o == z.o && (L.getD i default).t == z.t && (L.getD i default).a == z.a) = _; first | (rw [hg55, hg62, hc75]; rfl) | (rw [hg55, hg62, hc75]; rfl) | (rw [hg55, hg62]; rfl) | (rw [hg55]; rfl)
    have hs1 := flt_no (wd := (fun x : Ls => x.o == z.o && x.t == z.t && x.a == z.a)) hi hw
    have hs2 := flt_yes (wd := (fun x : Ls => !( x.o == z.o && x.t == z.t && x.a == z.a))) hi (by show (!(fun x : Ls => x.o == z.o && x.t == z.t && x.a == z.a) (L.getD i default)) = true; rw [hw]; rfl)
    exact ⟨⟨i + 1, hi⟩, by show _ - (i + 1) < _ - i; omega, StLe.mk [(1000, 1000), (1008, 1008), (1016, 1016), (1024, 1160), (1032, 1032)] rfl rfl ⟨⟨_, rfl, by first | rfl | (simp only [AV.ren]; congr 1; omega), rfl⟩, ⟨_, rfl, by first | rfl | (simp only [AV.ren]; congr 1; omega), rfl⟩, ⟨_, rfl, by first | rfl | (simp only [AV.ren]; congr 1; omega), rfl⟩, ⟨_, rfl, by first | rfl | (simp only [AV.ren]; congr 1; omega), rfl⟩, ⟨_, rfl, by first | rfl | (simp only [AV.ren]; congr 1; omega), rfl⟩, ⟨_, rfl, by exact (sl_snoc 1024 _ _).trans (congrArg (fun q : List Ls => AV.sl 1024 0 q.length 5) hs2.symm), rfl⟩, ⟨_, rfl, by exact (congrArg (fun q : List Ls => AV.sl 1032 0 q.length 5) hs1.symm), rfl⟩, ⟨_, rfl, by first | rfl | (simp only [AV.ren]; congr 1; omega), rfl⟩, ⟨_, rfl, by first | rfl | (simp only [AV.ren]; congr 1; omega), rfl⟩, ⟨_, rfl, by first | rfl | (simp only [AV.ren]; congr 1; omega), rfl⟩, trivial⟩ ⟨⟨_, _, rfl, rfl, rfl, rfl, id, rfl⟩, ⟨_, _, rfl, rfl, rfl, rfl, id, rfl⟩, ⟨_, _, rfl, rfl, rfl, rfl, id, rfl⟩, ⟨_, _, rfl, rfl, (lsC_ren _ _).trans (congrArg (fun q => AV.agg (lsC q)) hs2.symm), rfl, id, lsC_nm _ _⟩, ⟨_, _, rfl, rfl, (lsC_ren _ _).trans (congrArg (fun q => AV.agg (lsC q)) hs1.symm), rfl, id, lsC_nm _ _⟩, trivial⟩⟩
  ·skip
   refine .no ⟨_, rfl, rfl⟩ rfl ?_
   refine .no ⟨_, rfl, rfl⟩ rfl ?_
   refine .no ⟨_, rfl, rfl⟩ rfl ?_
   refine .no ⟨_, rfl, rfl⟩ rfl ?_
   refine .no ⟨_, rfl, rfl⟩ rfl ?_
   refine .q (op_pick_false rfl rfl rfl) trivial rfl ?_
   refine .q (op_move rfl) trivial rfl ?_
   refine .no ⟨_, rfl, rfl⟩ rfl ?_
   refine .no ⟨_, rfl, rfl⟩ rfl ?_
   refine .no ⟨_, rfl, rfl⟩ rfl ?_
   refine .no ⟨_, rfl, rfl⟩ rfl ?_
   refine .no ⟨_, rfl, rfl⟩ rfl ?_
   refine .q (op_pick_false rfl rfl rfl) trivial rfl ?_
   refine .q (op_assign rfl) trivial rfl ?_
   refine .nil ?_
   show Ev _ _ _ _ _
   refine .seq ?_
   refine .region ?_
   refine .q (op_move rfl) trivial rfl ?_
   refine .q (op_move rfl) trivial rfl ?_
   refine .q (op_move rfl) ⟨_, rfl, rfl⟩ rfl ?_
   refine .q (op_pick_false rfl rfl rfl) trivial rfl ?_
   refine .q (op_move rfl) trivial rfl ?_
   refine .q (op_move rfl) ⟨_, rfl, rfl⟩ rfl ?_
   refine .q (op_pick_false rfl rfl rfl) trivial rfl ?_
   refine .nil ?_
   show Ev _ _ _ _ _
   refine .cond_false rfl rfl ?_
   refine .region ?_
   refine .q (op_move rfl) trivial rfl ?_
   refine .q (op_loadRow Tryd.underlying70 rfl (by kernel_rfl) rfl rfl rfl (rfl)) trivial rfl ?_
   refine .a (op_buildRow (z := 5) (r := lsV ((L.getD i default))) (cs := Ls.cs ((L.getD i default))) Tryd.underlying30 infLeaseR (by decide) (by decide) rfl rfl rfl) trivial rfl ?_
   refine .a (ap_append (c' := .agg (lsC (fltN' (fun x : Ls => !( x.o == z.o && x.t == z.t && x.a == z.a)) L i ++ [(L.getD i default)]))) Tryd.underlying30 Tryd.underlying30 (.inr ⟨_, rfl⟩) infLeaseR rfl rfl rfl rfl (by show (lsC _).length = _; rw [lsC_len]) (srcs_sl (m := 1) (o := 0) rfl rfl (by show 5 ≤ 5; decide)) (lsC_app (fltN' (fun x : Ls => !( x.o == z.o && x.t == z.t && x.a == z.a)) L i) [(L.getD i default)]) (by have := flt_le (wd := (fun x : Ls => x.o == z.o && x.t == z.t && x.a == z.a)) (L := L) (i := i); have := flt_le (wd := (fun x : Ls => !( x.o == z.o && x.t == z.t && x.a == z.a))) (L := L) (i := i); omega)) trivial rfl ?_
   refine .q (op_assign rfl) trivial rfl ?_
   refine .nil ?_
   show Ev _ _ _ _ _
   refine .region ?_
   refine .q (op_addI rfl rfl ⟨by omega, by omega⟩) trivial rfl ?_
   refine .q (op_move rfl) trivial rfl ?_
   refine .nil ?_
   have hw : (fun x : Ls => x.o == z.o && x.t == z.t && x.a == z.a) (L.getD i default) = false := by show ( (L.getD i default).o == z.o && (L.getD i default).t == z.t && (L.getD i default).a == z.a) = _; first | (rw [hg55, hg62, hc75]; rfl) | (rw [hg55, hg62, hc75]; rfl) | (rw [hg55, hg62]; rfl) | (rw [hg55]; rfl)
   have hs1 := flt_no (wd := (fun x : Ls => x.o == z.o && x.t == z.t && x.a == z.a)) hi hw
   have hs2 := flt_yes (wd := (fun x : Ls => !( x.o == z.o && x.t == z.t && x.a == z.a))) hi (by show (!(fun x : Ls => x.o == z.o && x.t == z.t && x.a == z.a) (L.getD i default)) = true; rw [hw]; rfl)
   exact ⟨⟨i + 1, hi⟩, by show _ - (i + 1) < _ - i; omega, StLe.mk [(1000, 1000), (1008, 1008), (1016, 1016), (1024, 1160), (1032, 1032)] rfl rfl ⟨⟨_, rfl, by first | rfl | (simp only [AV.ren]; congr 1; omega), rfl⟩, ⟨_, rfl, by first | rfl | (simp only [AV.ren]; congr 1; omega), rfl⟩, ⟨_, rfl, by first | rfl | (simp only [AV.ren]; congr 1; omega), rfl⟩, ⟨_, rfl, by first | rfl | (simp only [AV.ren]; congr 1; omega), rfl⟩, ⟨_, rfl, by first | rfl | (simp only [AV.ren]; congr 1; omega), rfl⟩, ⟨_, rfl, by exact (sl_snoc 1024 _ _).trans (congrArg (fun q : List Ls => AV.sl 1024 0 q.length 5) hs2.symm), rfl⟩, ⟨_, rfl, by exact (congrArg (fun q : List Ls => AV.sl 1032 0 q.length 5) hs1.symm), rfl⟩, ⟨_, rfl, by first | rfl | (simp only [AV.ren]; congr 1; omega), rfl⟩, ⟨_, rfl, by first | rfl | (simp only [AV.ren]; congr 1; omega), rfl⟩, ⟨_, rfl, by first | rfl | (simp only [AV.ren]; congr 1; omega), rfl⟩, trivial⟩ ⟨⟨_, _, rfl, rfl, rfl, rfl, id, rfl⟩, ⟨_, _, rfl, rfl, rfl, rfl, id, rfl⟩, ⟨_, _, rfl, rfl, rfl, rfl, id, rfl⟩, ⟨_, _, rfl, rfl, (lsC_ren _ _).trans (congrArg (fun q => AV.agg (lsC q)) hs2.symm), rfl, id, lsC_nm _ _⟩, ⟨_, _, rfl, rfl, (lsC_ren _ _).trans (congrArg (fun q => AV.agg (lsC q)) hs1.symm), rfl, id, lsC_nm _ _⟩, trivial⟩⟩
 ·simp only [decide_eq_false_iff_not] at hc23
  refine .exit ?_
  show Ev _ _ _ _ _
  refine .seq ?_
  refine .region ?_
  refine .q (op_move rfl) trivial rfl ?_
  refine EvL.freezeF (t := 85) (b := 1024) (o := 0) (n := (fltN' (fun x : Ls => !( x.o == z.o && x.t == z.t && x.a == z.a)) L i).length) (z := 5) (e := 70) (c := .agg (lsC (fltN' (fun x : Ls => !( x.o == z.o && x.t == z.t && x.a == z.a)) L i))) (Nat.le_of_ble_eq_true rfl) rfl rfl (by show 0 + _ * 5 ≤ (lsC _).length; rw [lsC_len]; omega) (lsC_still _) ?_
  refine .as (.fsl (lsC (L.filter (fun x : Ls => !( x.o == z.o && x.t == z.t && x.a == z.a)))) (L.filter (fun x : Ls => !( x.o == z.o && x.t == z.t && x.a == z.a))).length 5) (by rw [fsl_whole _ rfl, flt_all (by omega)]) ?_
  refine .q (op_fieldAddr (m := 0) Tryd.underlying32 rfl (by kernel_rfl) rfl) trivial rfl ?_
  refine .as (.ptr 1000 4) rfl ?_
  refine .w (op_store (by kernel_rfl) rfl rfl rfl rfl rfl (by show 4 < 5; decide)) trivial rfl ?_
  refine .nil ?_
  show Ev _ _ _ _ _
  refine .seq ?_
  refine .region ?_
  refine .q (op_loadRow Tryd.underlying32 rfl (by kernel_rfl) rfl rfl rfl (rfl)) trivial rfl ?_
  refine .q (op_move rfl) trivial rfl ?_
  refine EvL.freezeF (t := 88) (b := 1032) (o := 0) (n := (fltN' (fun x : Ls => x.o == z.o && x.t == z.t && x.a == z.a) L i).length) (z := 5) (e := 70) (c := .agg (lsC (fltN' (fun x : Ls => x.o == z.o && x.t == z.t && x.a == z.a) L i))) (Nat.le_of_ble_eq_true rfl) rfl rfl (by show 0 + _ * 5 ≤ (lsC _).length; rw [lsC_len]; omega) (lsC_still _) ?_
  refine .as (.fsl (lsC (L.filter (fun x : Ls => x.o == z.o && x.t == z.t && x.a == z.a))) (L.filter (fun x : Ls => x.o == z.o && x.t == z.t && x.a == z.a)).length 5) (by rw [fsl_whole _ rfl, flt_all (by omega)]) ?_
  refine .w (op_storeRow (by kernel_rfl) rfl rfl rfl rfl rfl (rfl) (rfl)) trivial rfl ?_
  refine .q (op_assign rfl) trivial rfl ?_
  refine .nil ?_
  show Ev _ _ _ _ _
  refine .ret ?_
  show RetOk _ _ _ _ _ _ _
  exact retc2 rfl (.inl rfl) ⟨_, _, _, _, rfl, rfl, rfl, rfl, rfl, Tryd.underlying32, rfl, sz32⟩ rfl trivial
end Go.Proofs.YtpmambceojbkaaaDoor
