/-
  Texts of this claim.
-/
import Derived.Test.YtgnicenhnchglaaDoorGR4
namespace Go.Proofs.YtgnicenhnchglaaDoor
open Go.RowKit
def pU (c : UInt8) : Bool := c == 117
def pN (c : UInt8) : Bool := c == 110
def pB (c : UInt8) : Bool := c == 98
def pS (c : UInt8) : Bool := c == 115 || c == 99 || c == 114
/-- How many of the first letters are such. -/
def cn (p : UInt8 → Bool) (fs : List UInt8) : Nat → Nat
  | 0 => 0
  | j + 1 => cn p fs j + if p (fs.getD j 0) then 1 else 0
theorem cn_le (p : UInt8 → Bool) (fs : List UInt8) : ∀ j, cn p fs j ≤ j
  | 0 => Nat.le_refl _
  | j + 1 => by
    have := cn_le p fs j
    show cn p fs j + (if p (fs.getD j 0) then 1 else 0) ≤ j + 1
    split <;> omega
theorem cn_yes {p : UInt8 → Bool} {fs : List UInt8} {j : Nat} {c : UInt8} (h : fs.getD j 0 = c) (hp : p c = true) : cn p fs (j + 1) = cn p fs j + 1 := by
  show cn p fs j + (if p (fs.getD j 0) then 1 else 0) = _; rw [h, if_pos hp]
theorem cn_no {p : UInt8 → Bool} {fs : List UInt8} {j : Nat} {c : UInt8} (h : fs.getD j 0 = c) (hp : p c = false) : cn p fs (j + 1) = cn p fs j := by
  show cn p fs j + (if p (fs.getD j 0) then 1 else 0) = _; rw [h, hp]; rfl
theorem cn_lt {p : UInt8 → Bool} {fs : List UInt8} {j n : Nat} (hj : j < n) (hp : p (fs.getD j 0) = true) : cn p fs j < cn p fs n := by
  have h1 : ∀ d, cn p fs (j + 1) ≤ cn p fs (j + 1 + d) := fun d => by
    induction d with
    | zero => exact Nat.le_refl _
    | succ d ih => exact Nat.le_trans ih (Nat.le_add_right _ _)
  have h2 := h1 (n - (j + 1))
  rw [show j + 1 + (n - (j + 1)) = n by omega, cn_yes (p := p) rfl hp] at h2
  omega
set_option maxRecDepth 100000 in
theorem rcheck_f (K : Int) (R : MSt) (hk : isKind K = true) (hnU : R.us.length = cn pU (fieldsOf K) (fieldsOf K).length) (hnS : R.ss.length = cn pS (fieldsOf K) (fieldsOf K).length) (hnN : R.ns.length = cn pN (fieldsOf K) (fieldsOf K).length) (hnB : R.bs.length = cn pB (fieldsOf K) (fieldsOf K).length) (hnl : R.ns.length ≤ 1000) (hc16 : ∀ j, j < (fieldsOf K).length → (fieldsOf K).getD j 0 = 99 → (R.ss.getD (cn pS (fieldsOf K) j) []).length = 16) (hss : ∀ i, (R.ss.getD i []).length ≤ 32768) (hna : ∀ i, (R.ns.getD i []).all nameOk = true) (hnj : ∀ i, (joinB (R.ns.getD i [])).length ≤ 4096) : Meets Tryd.prog 9 [.agg [.i64 K, .fsl (List.map AV.u32 R.us) (R.us).length 1, .dsl R.ss, .fsl (List.map AV.dsl R.ns) (R.ns).length 1, .fsl (List.map AV.bool R.bs) (R.bs).length 1]] [] (.i64 0) [] := by
 refine meets_of_ev (nt := 146) Tryd.func9 rfl rfl (Nat.le_of_ble_eq_true rfl) ?_
 refine .seq ?_
 refine .region ?_
 refine .a (op_boxRow rfl rfl) trivial rfl ?_
 refine .q (op_assign rfl) trivial rfl ?_
 refine .nil ?_
 show Ev _ _ _ _ _
 refine .seq ?_
 refine .region ?_
 refine .q (op_fieldAddr (m := 0) Tryd.underlying27 rfl (by kernel_rfl) rfl) trivial rfl ?_
 refine .as (.ptr 1000 0) rfl ?_
 refine .q (op_load Tryd.underlying3 rfl rfl rfl rfl (by show 0 < 5; decide)) trivial rfl ?_
 refine .q (op_call (U := []) [] [] (rfields_ev K) Tryd.func22 (by kernel_rfl) rfl rfl rfl (⟨⟨_, rfl, rfl, rfl⟩, trivial⟩) (trivial) (trivial) (trivial) rfl) trivial rfl ?_
 refine .q (op_move rfl) trivial rfl ?_
 refine .q (op_extract rfl rfl) trivial rfl ?_
 refine .q (op_extract rfl rfl) trivial rfl ?_
 refine .q (op_assign rfl) trivial rfl ?_
 refine .q (op_assign rfl) trivial rfl ?_
 refine .nil ?_
 show Ev _ _ _ _ _
 refine .seq ?_
 refine .seq ?_
 refine .region ?_
 refine .q (op_move rfl) trivial rfl ?_
 refine .q (op_notB rfl) trivial rfl ?_
 refine .nil ?_
 show Ev _ _ _ _ _
 refine .cond_false rfl (by rw [hk]; rfl) ?_
 refine .skip ?_
 show Ev _ _ _ _ _
 refine .seq ?_
 refine .region ?_
 refine .q (op_assign rfl) trivial rfl ?_
 refine .q (op_assign rfl) trivial rfl ?_
 refine .q (op_assign rfl) trivial rfl ?_
 refine .q (op_assign rfl) trivial rfl ?_
 refine .nil ?_
 show Ev _ _ _ _ _
 refine .seq ?_
 refine .seq ?_
 refine .region ?_
 refine .q (op_assign rfl) trivial rfl ?_
 refine .nil ?_
 show Ev _ _ _ _ _
 refine .block ?_
 refine Ev.loop (ι := { j : Nat // j ≤ (fieldsOf K).length }) (fun q => ⟨[(1, .ptr 1000 0), (3, .str (fieldsOf K)), (5, .i64 ((cn pU (fieldsOf K) q.1 : Nat) : Int)), (6, .i64 ((cn pS (fieldsOf K) q.1 : Nat) : Int)), (7, .i64 ((cn pN (fieldsOf K) q.1 : Nat) : Int)), (8, .i64 ((cn pB (fieldsOf K) q.1 : Nat) : Int)), (9, .i64 ((q.1 : Nat) : Int))], [(1000, some ⟨.agg [.i64 K, .fsl (List.map AV.u32 R.us) (R.us).length 1, .dsl R.ss, .fsl (List.map AV.dsl R.ns) (R.ns).length 1, .fsl (List.map AV.bool R.bs) (R.bs).length 1], 27, true⟩)], 1008⟩) (fun q => (fieldsOf K).length - q.1) ⟨0, Nat.zero_le _⟩ (StLe.mk [(1000, 1000)] rfl rfl ⟨⟨_, rfl, by first | rfl | (simp only [AV.ren]; congr 1; omega), rfl⟩, ⟨_, rfl, by first | rfl | (simp only [AV.ren]; congr 1; omega), rfl⟩, ⟨_, rfl, by first | rfl | (simp only [AV.ren]; congr 1; omega), rfl⟩, ⟨_, rfl, by first | rfl | (simp only [AV.ren]; congr 1; omega), rfl⟩, ⟨_, rfl, by first | rfl | (simp only [AV.ren]; congr 1; omega), rfl⟩, ⟨_, rfl, by first | rfl | (simp only [AV.ren]; congr 1; omega), rfl⟩, ⟨_, rfl, by first | rfl | (simp only [AV.ren]; congr 1; omega), rfl⟩, trivial⟩ ⟨⟨_, _, rfl, rfl, rfl, rfl, id, rfl⟩, trivial⟩) ?_
 rintro ⟨j, hj⟩
 dsimp only
 have hj12 := fields_len K
 have hcU := cn_le pU (fieldsOf K) j
 have hcS := cn_le pS (fieldsOf K) j
 have hcN := cn_le pN (fieldsOf K) j
 have hcB := cn_le pB (fieldsOf K) j
 refine .seq ?_
 refine .seq ?_
 refine .region ?_
 refine .q (op_move rfl) trivial rfl ?_
 refine .q (op_move rfl) trivial rfl ?_
 refine .q (op_len_str Tryd.underlying9 rfl) trivial rfl ?_
 refine .q (op_cmpI rfl rfl rfl) trivial rfl ?_
 refine .nil ?_
 show Ev _ _ _ _ _
 refine .cond rfl (fun hc27 => ?_) (fun hc27 => ?_)
 ·simp only [decide_eq_true_eq, decide_eq_false_iff_not, beq_iff_eq, bne_iff_ne, ne_eq, beq_eq_false_iff_ne, bne_eq_false_iff_eq] at hc27
  refine .skip ?_
  show Ev _ _ _ _ _
  refine .seq ?_
  refine .block ?_
  refine .seq ?_
  refine .region ?_
  refine .q (op_move rfl) trivial rfl ?_
  refine .q (op_move rfl) trivial rfl ?_
  refine .q (op_index_str Tryd.underlying9 rfl rfl (show _ = ((j : Nat) : Int) from rfl) (by omega)) trivial rfl ?_
  refine .nil ?_
  show Ev _ _ _ _ _
  refine .block ?_
  refine .seq ?_
  refine .region ?_
  refine six_of (fields_six K j (by omega)) (fun h6 => ?_) (fun h6 => ?_) (fun h6 => ?_) (fun h6 => ?_) (fun h6 => ?_) (fun h6 => ?_)
  ·refine .as (.u8 117) (congrArg AV.u8 h6) ?_
   refine .q (op_bin8 rfl rfl rfl) trivial rfl ?_
   refine .q (op_assign rfl) trivial rfl ?_
   refine .nil ?_
   show Ev _ _ _ _ _
   refine .cond_true rfl (rfl) ?_
   refine .region ?_
   refine .q (op_move rfl) trivial rfl ?_
   refine .q (op_addI rfl rfl ⟨by omega, by omega⟩) trivial rfl ?_
   refine .q (op_assign rfl) trivial rfl ?_
   refine .nil ?_
   show Ev _ _ _ _ _
   refine .region ?_
   refine .q (op_move rfl) trivial rfl ?_
   refine .q (op_addI rfl rfl ⟨by omega, by omega⟩) trivial rfl ?_
   refine .q (op_assign rfl) trivial rfl ?_
   refine .nil ?_
   have eU := cn_yes (p := pU) (fs := (fieldsOf K)) (j := j) h6 rfl
   have eS := cn_no (p := pS) (fs := (fieldsOf K)) (j := j) h6 rfl
   have eN := cn_no (p := pN) (fs := (fieldsOf K)) (j := j) h6 rfl
   have eB := cn_no (p := pB) (fs := (fieldsOf K)) (j := j) h6 rfl
   refine ⟨⟨j + 1, by omega⟩, by (try dsimp only); omega, ?_⟩
   dsimp only
   rw [eU, eS, eN, eB]
   exact StLe.mk [(1000, 1000)] rfl rfl ⟨⟨_, rfl, by first | rfl | (simp only [AV.ren]; congr 1; omega), rfl⟩, ⟨_, rfl, by first | rfl | (simp only [AV.ren]; congr 1; omega), rfl⟩, ⟨_, rfl, by first | rfl | (simp only [AV.ren]; congr 1; omega), rfl⟩, ⟨_, rfl, by first | rfl | (simp only [AV.ren]; congr 1; omega), rfl⟩, ⟨_, rfl, by first | rfl | (simp only [AV.ren]; congr 1; omega), rfl⟩, ⟨_, rfl, by first | rfl | (simp only [AV.ren]; congr 1; omega), rfl⟩, ⟨_, rfl, by first | rfl | (simp only [AV.ren]; congr 1; omega), rfl⟩, trivial⟩ ⟨⟨_, _, rfl, rfl, rfl, rfl, id, rfl⟩, trivial⟩
  ·refine .as (.u8 98) (congrArg AV.u8 h6) ?_
   refine .q (op_bin8 rfl rfl rfl) trivial rfl ?_
   refine .q (op_assign rfl) trivial rfl ?_
   refine .nil ?_
   show Ev _ _ _ _ _
   refine .cond_false rfl (rfl) ?_
   refine .seq ?_
   refine .region ?_
   refine .q (op_bin8 rfl rfl rfl) trivial rfl ?_
   refine .q (op_assign rfl) trivial rfl ?_
   refine .nil ?_
   show Ev _ _ _ _ _
   refine .cond_false rfl (rfl) ?_
   refine .seq ?_
   refine .region ?_
   refine .q (op_bin8 rfl rfl rfl) trivial rfl ?_
   refine .q (op_assign rfl) trivial rfl ?_
   refine .nil ?_
   show Ev _ _ _ _ _
   refine .cond_true rfl (rfl) ?_
   refine .region ?_
   refine .q (op_move rfl) trivial rfl ?_
   refine .q (op_addI rfl rfl ⟨by omega, by omega⟩) trivial rfl ?_
   refine .q (op_assign rfl) trivial rfl ?_
   refine .nil ?_
   show Ev _ _ _ _ _
   refine .region ?_
   refine .q (op_move rfl) trivial rfl ?_
   refine .q (op_addI rfl rfl ⟨by omega, by omega⟩) trivial rfl ?_
   refine .q (op_assign rfl) trivial rfl ?_
   refine .nil ?_
   have eU := cn_no (p := pU) (fs := (fieldsOf K)) (j := j) h6 rfl
   have eS := cn_no (p := pS) (fs := (fieldsOf K)) (j := j) h6 rfl
   have eN := cn_no (p := pN) (fs := (fieldsOf K)) (j := j) h6 rfl
   have eB := cn_yes (p := pB) (fs := (fieldsOf K)) (j := j) h6 rfl
   refine ⟨⟨j + 1, by omega⟩, by (try dsimp only); omega, ?_⟩
   dsimp only
   rw [eU, eS, eN, eB]
   exact StLe.mk [(1000, 1000)] rfl rfl ⟨⟨_, rfl, by first | rfl | (simp only [AV.ren]; congr 1; omega), rfl⟩, ⟨_, rfl, by first | rfl | (simp only [AV.ren]; congr 1; omega), rfl⟩, ⟨_, rfl, by first | rfl | (simp only [AV.ren]; congr 1; omega), rfl⟩, ⟨_, rfl, by first | rfl | (simp only [AV.ren]; congr 1; omega), rfl⟩, ⟨_, rfl, by first | rfl | (simp only [AV.ren]; congr 1; omega), rfl⟩, ⟨_, rfl, by first | rfl | (simp only [AV.ren]; congr 1; omega), rfl⟩, ⟨_, rfl, by first | rfl | (simp only [AV.ren]; congr 1; omega), rfl⟩, trivial⟩ ⟨⟨_, _, rfl, rfl, rfl, rfl, id, rfl⟩, trivial⟩
  ·refine .as (.u8 110) (congrArg AV.u8 h6) ?_
   refine .q (op_bin8 rfl rfl rfl) trivial rfl ?_
   refine .q (op_assign rfl) trivial rfl ?_
   refine .nil ?_
   show Ev _ _ _ _ _
   refine .cond_false rfl (rfl) ?_
   refine .seq ?_
   refine .region ?_
   refine .q (op_bin8 rfl rfl rfl) trivial rfl ?_
   refine .q (op_assign rfl) trivial rfl ?_
   refine .nil ?_
   show Ev _ _ _ _ _
   refine .cond_true rfl (rfl) ?_
   refine .region ?_
   refine .q (op_move rfl) trivial rfl ?_
   refine .q (op_addI rfl rfl ⟨by omega, by omega⟩) trivial rfl ?_
   refine .q (op_assign rfl) trivial rfl ?_
   refine .nil ?_
   show Ev _ _ _ _ _
   refine .region ?_
   refine .q (op_move rfl) trivial rfl ?_
   refine .q (op_addI rfl rfl ⟨by omega, by omega⟩) trivial rfl ?_
   refine .q (op_assign rfl) trivial rfl ?_
   refine .nil ?_
   have eU := cn_no (p := pU) (fs := (fieldsOf K)) (j := j) h6 rfl
   have eS := cn_no (p := pS) (fs := (fieldsOf K)) (j := j) h6 rfl
   have eN := cn_yes (p := pN) (fs := (fieldsOf K)) (j := j) h6 rfl
   have eB := cn_no (p := pB) (fs := (fieldsOf K)) (j := j) h6 rfl
   refine ⟨⟨j + 1, by omega⟩, by (try dsimp only); omega, ?_⟩
   dsimp only
   rw [eU, eS, eN, eB]
   exact StLe.mk [(1000, 1000)] rfl rfl ⟨⟨_, rfl, by first | rfl | (simp only [AV.ren]; congr 1; omega), rfl⟩, ⟨_, rfl, by first | rfl | (simp only [AV.ren]; congr 1; omega), rfl⟩, ⟨_, rfl, by first | rfl | (simp only [AV.ren]; congr 1; omega), rfl⟩, ⟨_, rfl, by first | rfl | (simp only [AV.ren]; congr 1; omega), rfl⟩, ⟨_, rfl, by first | rfl | (simp only [AV.ren]; congr 1; omega), rfl⟩, ⟨_, rfl, by first | rfl | (simp only [AV.ren]; congr 1; omega), rfl⟩, ⟨_, rfl, by first | rfl | (simp only [AV.ren]; congr 1; omega), rfl⟩, trivial⟩ ⟨⟨_, _, rfl, rfl, rfl, rfl, id, rfl⟩, trivial⟩
  ·refine .as (.u8 115) (congrArg AV.u8 h6) ?_
   refine .q (op_bin8 rfl rfl rfl) trivial rfl ?_
   refine .q (op_assign rfl) trivial rfl ?_
   refine .nil ?_
   show Ev _ _ _ _ _
   refine .cond_false rfl (rfl) ?_
   refine .seq ?_
   refine .region ?_
   refine .q (op_bin8 rfl rfl rfl) trivial rfl ?_
   refine .q (op_assign rfl) trivial rfl ?_
   refine .nil ?_
   show Ev _ _ _ _ _
   refine .cond_false rfl (rfl) ?_
   refine .seq ?_
   refine .region ?_
   refine .q (op_bin8 rfl rfl rfl) trivial rfl ?_
   refine .q (op_assign rfl) trivial rfl ?_
   refine .nil ?_
   show Ev _ _ _ _ _
   refine .cond_false rfl (rfl) ?_
   refine .region ?_
   refine .q (op_move rfl) trivial rfl ?_
   refine .q (op_addI rfl rfl ⟨by omega, by omega⟩) trivial rfl ?_
   refine .q (op_assign rfl) trivial rfl ?_
   refine .nil ?_
   show Ev _ _ _ _ _
   refine .region ?_
   refine .q (op_move rfl) trivial rfl ?_
   refine .q (op_addI rfl rfl ⟨by omega, by omega⟩) trivial rfl ?_
   refine .q (op_assign rfl) trivial rfl ?_
   refine .nil ?_
   have eU := cn_no (p := pU) (fs := (fieldsOf K)) (j := j) h6 rfl
   have eS := cn_yes (p := pS) (fs := (fieldsOf K)) (j := j) h6 rfl
   have eN := cn_no (p := pN) (fs := (fieldsOf K)) (j := j) h6 rfl
   have eB := cn_no (p := pB) (fs := (fieldsOf K)) (j := j) h6 rfl
   refine ⟨⟨j + 1, by omega⟩, by (try dsimp only); omega, ?_⟩
   dsimp only
   rw [eU, eS, eN, eB]
   exact StLe.mk [(1000, 1000)] rfl rfl ⟨⟨_, rfl, by first | rfl | (simp only [AV.ren]; congr 1; omega), rfl⟩, ⟨_, rfl, by first | rfl | (simp only [AV.ren]; congr 1; omega), rfl⟩, ⟨_, rfl, by first | rfl | (simp only [AV.ren]; congr 1; omega), rfl⟩, ⟨_, rfl, by first | rfl | (simp only [AV.ren]; congr 1; omega), rfl⟩, ⟨_, rfl, by first | rfl | (simp only [AV.ren]; congr 1; omega), rfl⟩, ⟨_, rfl, by first | rfl | (simp only [AV.ren]; congr 1; omega), rfl⟩, ⟨_, rfl, by first | rfl | (simp only [AV.ren]; congr 1; omega), rfl⟩, trivial⟩ ⟨⟨_, _, rfl, rfl, rfl, rfl, id, rfl⟩, trivial⟩
  ·refine .as (.u8 99) (congrArg AV.u8 h6) ?_
   refine .q (op_bin8 rfl rfl rfl) trivial rfl ?_
   refine .q (op_assign rfl) trivial rfl ?_
   refine .nil ?_
   show Ev _ _ _ _ _
   refine .cond_false rfl (rfl) ?_
   refine .seq ?_
   refine .region ?_
   refine .q (op_bin8 rfl rfl rfl) trivial rfl ?_
   refine .q (op_assign rfl) trivial rfl ?_
   refine .nil ?_
   show Ev _ _ _ _ _
   refine .cond_false rfl (rfl) ?_
   refine .seq ?_
   refine .region ?_
   refine .q (op_bin8 rfl rfl rfl) trivial rfl ?_
   refine .q (op_assign rfl) trivial rfl ?_
   refine .nil ?_
   show Ev _ _ _ _ _
   refine .cond_false rfl (rfl) ?_
   refine .region ?_
   refine .q (op_move rfl) trivial rfl ?_
   refine .q (op_addI rfl rfl ⟨by omega, by omega⟩) trivial rfl ?_
   refine .q (op_assign rfl) trivial rfl ?_
   refine .nil ?_
   show Ev _ _ _ _ _
   refine .region ?_
   refine .q (op_move rfl) trivial rfl ?_
   refine .q (op_addI rfl rfl ⟨by omega, by omega⟩) trivial rfl ?_
   refine .q (op_assign rfl) trivial rfl ?_
   refine .nil ?_
   have eU := cn_no (p := pU) (fs := (fieldsOf K)) (j := j) h6 rfl
   have eS := cn_yes (p := pS) (fs := (fieldsOf K)) (j := j) h6 rfl
   have eN := cn_no (p := pN) (fs := (fieldsOf K)) (j := j) h6 rfl
   have eB := cn_no (p := pB) (fs := (fieldsOf K)) (j := j) h6 rfl
   refine ⟨⟨j + 1, by omega⟩, by (try dsimp only); omega, ?_⟩
   dsimp only
   rw [eU, eS, eN, eB]
   exact StLe.mk [(1000, 1000)] rfl rfl ⟨⟨_, rfl, by first | rfl | (simp only [AV.ren]; congr 1; omega), rfl⟩, ⟨_, rfl, by first | rfl | (simp only [AV.ren]; congr 1; omega), rfl⟩, ⟨_, rfl, by first | rfl | (simp only [AV.ren]; congr 1; omega), rfl⟩, ⟨_, rfl, by first | rfl | (simp only [AV.ren]; congr 1; omega), rfl⟩, ⟨_, rfl, by first | rfl | (simp only [AV.ren]; congr 1; omega), rfl⟩, ⟨_, rfl, by first | rfl | (simp only [AV.ren]; congr 1; omega), rfl⟩, ⟨_, rfl, by first | rfl | (simp only [AV.ren]; congr 1; omega), rfl⟩, trivial⟩ ⟨⟨_, _, rfl, rfl, rfl, rfl, id, rfl⟩, trivial⟩
  ·refine .as (.u8 114) (congrArg AV.u8 h6) ?_
   refine .q (op_bin8 rfl rfl rfl) trivial rfl ?_
   refine .q (op_assign rfl) trivial rfl ?_
   refine .nil ?_
   show Ev _ _ _ _ _
   refine .cond_false rfl (rfl) ?_
   refine .seq ?_
   refine .region ?_
   refine .q (op_bin8 rfl rfl rfl) trivial rfl ?_
   refine .q (op_assign rfl) trivial rfl ?_
   refine .nil ?_
   show Ev _ _ _ _ _
   refine .cond_false rfl (rfl) ?_
   refine .seq ?_
   refine .region ?_
   refine .q (op_bin8 rfl rfl rfl) trivial rfl ?_
   refine .q (op_assign rfl) trivial rfl ?_
   refine .nil ?_
   show Ev _ _ _ _ _
   refine .cond_false rfl (rfl) ?_
   refine .region ?_
   refine .q (op_move rfl) trivial rfl ?_
   refine .q (op_addI rfl rfl ⟨by omega, by omega⟩) trivial rfl ?_
   refine .q (op_assign rfl) trivial rfl ?_
   refine .nil ?_
   show Ev _ _ _ _ _
   refine .region ?_
   refine .q (op_move rfl) trivial rfl ?_
   refine .q (op_addI rfl rfl ⟨by omega, by omega⟩) trivial rfl ?_
   refine .q (op_assign rfl) trivial rfl ?_
   refine .nil ?_
   have eU := cn_no (p := pU) (fs := (fieldsOf K)) (j := j) h6 rfl
   have eS := cn_yes (p := pS) (fs := (fieldsOf K)) (j := j) h6 rfl
   have eN := cn_no (p := pN) (fs := (fieldsOf K)) (j := j) h6 rfl
   have eB := cn_no (p := pB) (fs := (fieldsOf K)) (j := j) h6 rfl
   refine ⟨⟨j + 1, by omega⟩, by (try dsimp only); omega, ?_⟩
   dsimp only
   rw [eU, eS, eN, eB]
   exact StLe.mk [(1000, 1000)] rfl rfl ⟨⟨_, rfl, by first | rfl | (simp only [AV.ren]; congr 1; omega), rfl⟩, ⟨_, rfl, by first | rfl | (simp only [AV.ren]; congr 1; omega), rfl⟩, ⟨_, rfl, by first | rfl | (simp only [AV.ren]; congr 1; omega), rfl⟩, ⟨_, rfl, by first | rfl | (simp only [AV.ren]; congr 1; omega), rfl⟩, ⟨_, rfl, by first | rfl | (simp only [AV.ren]; congr 1; omega), rfl⟩, ⟨_, rfl, by first | rfl | (simp only [AV.ren]; congr 1; omega), rfl⟩, ⟨_, rfl, by first | rfl | (simp only [AV.ren]; congr 1; omega), rfl⟩, trivial⟩ ⟨⟨_, _, rfl, rfl, rfl, rfl, id, rfl⟩, trivial⟩
 ·simp only [decide_eq_true_eq, decide_eq_false_iff_not, beq_iff_eq, bne_iff_ne, ne_eq, beq_eq_false_iff_ne, bne_eq_false_iff_eq] at hc27
  refine .exit ?_
  show Ev _ _ _ _ _
  have ej : j = (fieldsOf K).length := by omega
  subst ej
  refine .seq ?_
  refine .seq ?_
  refine .region ?_
  refine .q (op_move rfl) trivial rfl ?_
  refine .q (op_fieldAddr (m := 0) Tryd.underlying27 rfl (by kernel_rfl) rfl) trivial rfl ?_
  refine .as (.ptr 1000 1) rfl ?_
  refine .q (op_load Tryd.underlying22 rfl rfl rfl rfl (by show 1 < 5; decide)) trivial rfl ?_
  refine .q (op_len_fsl Tryd.underlying22 rfl) trivial rfl ?_
  refine .q (op_cmpI rfl rfl rfl) trivial rfl ?_
  refine .q (op_move rfl) trivial rfl ?_
  refine .know (b' := false) (by first | rw [hnU]; exact bne_self_eq_false _ | (rw [hnU]; simp)) ?_
  refine .q (op_move rfl) ⟨_, rfl, rfl⟩ rfl ?_
  refine .q (op_fieldAddr (m := 0) Tryd.underlying27 rfl (by kernel_rfl) rfl) ⟨_, rfl, rfl⟩ rfl ?_
  refine .as (.ptr 1000 2) rfl ?_
  refine .q (op_load Tryd.underlying23 rfl rfl rfl rfl (by show 2 < 5; decide)) ⟨_, rfl, rfl⟩ rfl ?_
  refine .q (op_len_dsl Tryd.underlying23 rfl) ⟨_, rfl, rfl⟩ rfl ?_
  refine .q (op_cmpI rfl rfl rfl) ⟨_, rfl, rfl⟩ rfl ?_
  refine .q (op_pick_false rfl rfl rfl) trivial rfl ?_
  refine .q (op_move rfl) trivial rfl ?_
  refine .know (b' := false) (by first | rw [hnS]; exact bne_self_eq_false _ | (rw [hnS]; simp)) ?_
  refine .q (op_move rfl) ⟨_, rfl, rfl⟩ rfl ?_
  refine .q (op_fieldAddr (m := 0) Tryd.underlying27 rfl (by kernel_rfl) rfl) ⟨_, rfl, rfl⟩ rfl ?_
  refine .as (.ptr 1000 3) rfl ?_
  refine .q (op_load Tryd.underlying24 rfl rfl rfl rfl (by show 3 < 5; decide)) ⟨_, rfl, rfl⟩ rfl ?_
  refine .q (op_len_fsl Tryd.underlying24 rfl) ⟨_, rfl, rfl⟩ rfl ?_
  refine .q (op_cmpI rfl rfl rfl) ⟨_, rfl, rfl⟩ rfl ?_
  refine .q (op_pick_false rfl rfl rfl) trivial rfl ?_
  refine .q (op_move rfl) trivial rfl ?_
  refine .know (b' := false) (by first | rw [hnN]; exact bne_self_eq_false _ | (rw [hnN]; simp)) ?_
  refine .q (op_move rfl) ⟨_, rfl, rfl⟩ rfl ?_
  refine .q (op_fieldAddr (m := 0) Tryd.underlying27 rfl (by kernel_rfl) rfl) ⟨_, rfl, rfl⟩ rfl ?_
  refine .as (.ptr 1000 4) rfl ?_
  refine .q (op_load Tryd.underlying25 rfl rfl rfl rfl (by show 4 < 5; decide)) ⟨_, rfl, rfl⟩ rfl ?_
  refine .q (op_len_fsl Tryd.underlying25 rfl) ⟨_, rfl, rfl⟩ rfl ?_
  refine .q (op_cmpI rfl rfl rfl) ⟨_, rfl, rfl⟩ rfl ?_
  refine .q (op_pick_false rfl rfl rfl) trivial rfl ?_
  refine .nil ?_
  show Ev _ _ _ _ _
  refine .cond_false rfl (by first | (rw [hnB]; exact bne_self_eq_false _) | (rw [hnB]; simp)) ?_
  refine .skip ?_
  show Ev _ _ _ _ _
  refine .seq ?_
  refine .region ?_
  refine .q (op_assign rfl) trivial rfl ?_
  refine .nil ?_
  show Ev _ _ _ _ _
  refine .seq ?_
  refine .region ?_
  refine .q (op_assign rfl) trivial rfl ?_
  refine .nil ?_
  show Ev _ _ _ _ _
  refine .seq ?_
  refine .seq ?_
  refine .region ?_
  refine .q (op_assign rfl) trivial rfl ?_
  refine .nil ?_
  show Ev _ _ _ _ _
  refine .block ?_
  refine Ev.loop (ι := { j : Nat // j ≤ (fieldsOf K).length }) (fun q => ⟨[(1, .ptr 1000 0), (3, .str (fieldsOf K)), (6, .i64 ((cn pS (fieldsOf K) q.1 : Nat) : Int)), (10, .bool false), (11, .i64 ((q.1 : Nat) : Int))], [(1000, some ⟨.agg [.i64 K, .fsl (List.map AV.u32 R.us) (R.us).length 1, .dsl R.ss, .fsl (List.map AV.dsl R.ns) (R.ns).length 1, .fsl (List.map AV.bool R.bs) (R.bs).length 1], 27, true⟩)], 1008⟩) (fun q => (fieldsOf K).length - q.1) ⟨0, Nat.zero_le _⟩ (StLe.mk [(1000, 1000)] rfl rfl ⟨⟨_, rfl, by first | rfl | (simp only [AV.ren]; congr 1; omega), rfl⟩, ⟨_, rfl, by first | rfl | (simp only [AV.ren]; congr 1; omega), rfl⟩, ⟨_, rfl, by first | rfl | (simp only [AV.ren]; congr 1; omega), rfl⟩, ⟨_, rfl, by first | rfl | (simp only [AV.ren]; congr 1; omega), rfl⟩, ⟨_, rfl, by first | rfl | (simp only [AV.ren]; congr 1; omega), rfl⟩, trivial⟩ ⟨⟨_, _, rfl, rfl, rfl, rfl, id, rfl⟩, trivial⟩) ?_
  rintro ⟨j, hj⟩
  dsimp only
  have hj12 := fields_len K
  have hcS := cn_le pS (fieldsOf K) j
  refine .seq ?_
  refine .seq ?_
  refine .region ?_
  refine .q (op_move rfl) trivial rfl ?_
  refine .q (op_move rfl) trivial rfl ?_
  refine .q (op_len_str Tryd.underlying9 rfl) trivial rfl ?_
  refine .q (op_cmpI rfl rfl rfl) trivial rfl ?_
  refine .nil ?_
  show Ev _ _ _ _ _
  refine .cond rfl (fun hc76 => ?_) (fun hc76 => ?_)
  ·simp only [decide_eq_true_eq, decide_eq_false_iff_not, beq_iff_eq, bne_iff_ne, ne_eq, beq_eq_false_iff_ne, bne_eq_false_iff_eq] at hc76
   refine .skip ?_
   show Ev _ _ _ _ _
   refine .seq ?_
   refine .block ?_
   refine .seq ?_
   refine .seq ?_
   refine .region ?_
   refine six_of (fields_six K j (by omega)) (fun h6 => ?_) (fun h6 => ?_) (fun h6 => ?_) (fun h6 => ?_) (fun h6 => ?_) (fun h6 => ?_)
   ·refine .q (op_move rfl) trivial rfl ?_
    refine .q (op_move rfl) trivial rfl ?_
    refine .q (op_index_str Tryd.underlying9 rfl rfl (show _ = ((j : Nat) : Int) from rfl) (by omega)) trivial rfl ?_
    refine .as (.u8 117) (congrArg AV.u8 h6) ?_
    refine .q (op_bin8 rfl rfl rfl) trivial rfl ?_
    refine .q (op_move rfl) trivial rfl ?_
    refine .know (b' := true) (rfl) ?_
    refine .q (op_move rfl) ⟨_, rfl, rfl⟩ rfl ?_
    refine .q (op_move rfl) ⟨_, rfl, rfl⟩ rfl ?_
    refine .q (op_index_str Tryd.underlying9 rfl rfl (show _ = ((j : Nat) : Int) from rfl) (by omega)) ⟨_, rfl, rfl⟩ rfl ?_
    refine .as (.u8 117) (congrArg AV.u8 h6) ?_
    refine .q (op_bin8 rfl rfl rfl) ⟨_, rfl, rfl⟩ rfl ?_
    refine .q (op_pick_true rfl rfl rfl) trivial rfl ?_
    refine .q (op_move rfl) trivial rfl ?_
    refine .know (b' := true) (rfl) ?_
    refine .q (op_move rfl) ⟨_, rfl, rfl⟩ rfl ?_
    refine .q (op_move rfl) ⟨_, rfl, rfl⟩ rfl ?_
    refine .q (op_index_str Tryd.underlying9 rfl rfl (show _ = ((j : Nat) : Int) from rfl) (by omega)) ⟨_, rfl, rfl⟩ rfl ?_
    refine .as (.u8 117) (congrArg AV.u8 h6) ?_
    refine .q (op_bin8 rfl rfl rfl) ⟨_, rfl, rfl⟩ rfl ?_
    refine .q (op_pick_true rfl rfl rfl) trivial rfl ?_
    refine .nil ?_
    show Ev _ _ _ _ _
    refine .cond_true rfl (rfl) ?_
    refine .exit ?_
    show Ev _ _ _ _ _
    refine .region ?_
    refine .q (op_move rfl) trivial rfl ?_
    refine .q (op_addI rfl rfl ⟨by omega, by omega⟩) trivial rfl ?_
    refine .q (op_assign rfl) trivial rfl ?_
    refine .nil ?_
    have eS := cn_no (p := pS) (fs := (fieldsOf K)) (j := j) h6 rfl
    refine ⟨⟨j + 1, by omega⟩, by (try dsimp only); omega, ?_⟩
    dsimp only
    rw [eS]
    exact StLe.mk [(1000, 1000)] rfl rfl ⟨⟨_, rfl, by first | rfl | (simp only [AV.ren]; congr 1; omega), rfl⟩, ⟨_, rfl, by first | rfl | (simp only [AV.ren]; congr 1; omega), rfl⟩, ⟨_, rfl, by first | rfl | (simp only [AV.ren]; congr 1; omega), rfl⟩, ⟨_, rfl, by first | rfl | (simp only [AV.ren]; congr 1; omega), rfl⟩, ⟨_, rfl, by first | rfl | (simp only [AV.ren]; congr 1; omega), rfl⟩, trivial⟩ ⟨⟨_, _, rfl, rfl, rfl, rfl, id, rfl⟩, trivial⟩
   ·refine .q (op_move rfl) trivial rfl ?_
    refine .q (op_move rfl) trivial rfl ?_
    refine .q (op_index_str Tryd.underlying9 rfl rfl (show _ = ((j : Nat) : Int) from rfl) (by omega)) trivial rfl ?_
    refine .as (.u8 98) (congrArg AV.u8 h6) ?_
    refine .q (op_bin8 rfl rfl rfl) trivial rfl ?_
    refine .q (op_move rfl) trivial rfl ?_
    refine .know (b' := true) (rfl) ?_
    refine .q (op_move rfl) ⟨_, rfl, rfl⟩ rfl ?_
    refine .q (op_move rfl) ⟨_, rfl, rfl⟩ rfl ?_
    refine .q (op_index_str Tryd.underlying9 rfl rfl (show _ = ((j : Nat) : Int) from rfl) (by omega)) ⟨_, rfl, rfl⟩ rfl ?_
    refine .as (.u8 98) (congrArg AV.u8 h6) ?_
    refine .q (op_bin8 rfl rfl rfl) ⟨_, rfl, rfl⟩ rfl ?_
    refine .q (op_pick_true rfl rfl rfl) trivial rfl ?_
    refine .q (op_move rfl) trivial rfl ?_
    refine .know (b' := true) (rfl) ?_
    refine .q (op_move rfl) ⟨_, rfl, rfl⟩ rfl ?_
    refine .q (op_move rfl) ⟨_, rfl, rfl⟩ rfl ?_
    refine .q (op_index_str Tryd.underlying9 rfl rfl (show _ = ((j : Nat) : Int) from rfl) (by omega)) ⟨_, rfl, rfl⟩ rfl ?_
    refine .as (.u8 98) (congrArg AV.u8 h6) ?_
    refine .q (op_bin8 rfl rfl rfl) ⟨_, rfl, rfl⟩ rfl ?_
    refine .q (op_pick_true rfl rfl rfl) trivial rfl ?_
    refine .nil ?_
    show Ev _ _ _ _ _
    refine .cond_true rfl (rfl) ?_
    refine .exit ?_
    show Ev _ _ _ _ _
    refine .region ?_
    refine .q (op_move rfl) trivial rfl ?_
    refine .q (op_addI rfl rfl ⟨by omega, by omega⟩) trivial rfl ?_
    refine .q (op_assign rfl) trivial rfl ?_
    refine .nil ?_
    have eS := cn_no (p := pS) (fs := (fieldsOf K)) (j := j) h6 rfl
    refine ⟨⟨j + 1, by omega⟩, by (try dsimp only); omega, ?_⟩
    dsimp only
    rw [eS]
    exact StLe.mk [(1000, 1000)] rfl rfl ⟨⟨_, rfl, by first | rfl | (simp only [AV.ren]; congr 1; omega), rfl⟩, ⟨_, rfl, by first | rfl | (simp only [AV.ren]; congr 1; omega), rfl⟩, ⟨_, rfl, by first | rfl | (simp only [AV.ren]; congr 1; omega), rfl⟩, ⟨_, rfl, by first | rfl | (simp only [AV.ren]; congr 1; omega), rfl⟩, ⟨_, rfl, by first | rfl | (simp only [AV.ren]; congr 1; omega), rfl⟩, trivial⟩ ⟨⟨_, _, rfl, rfl, rfl, rfl, id, rfl⟩, trivial⟩
   ·refine .q (op_move rfl) trivial rfl ?_
    refine .q (op_move rfl) trivial rfl ?_
    refine .q (op_index_str Tryd.underlying9 rfl rfl (show _ = ((j : Nat) : Int) from rfl) (by omega)) trivial rfl ?_
    refine .as (.u8 110) (congrArg AV.u8 h6) ?_
    refine .q (op_bin8 rfl rfl rfl) trivial rfl ?_
    refine .q (op_move rfl) trivial rfl ?_
    refine .know (b' := true) (rfl) ?_
    refine .q (op_move rfl) ⟨_, rfl, rfl⟩ rfl ?_
    refine .q (op_move rfl) ⟨_, rfl, rfl⟩ rfl ?_
    refine .q (op_index_str Tryd.underlying9 rfl rfl (show _ = ((j : Nat) : Int) from rfl) (by omega)) ⟨_, rfl, rfl⟩ rfl ?_
    refine .as (.u8 110) (congrArg AV.u8 h6) ?_
    refine .q (op_bin8 rfl rfl rfl) ⟨_, rfl, rfl⟩ rfl ?_
    refine .q (op_pick_true rfl rfl rfl) trivial rfl ?_
    refine .q (op_move rfl) trivial rfl ?_
    refine .know (b' := true) (rfl) ?_
    refine .q (op_move rfl) ⟨_, rfl, rfl⟩ rfl ?_
    refine .q (op_move rfl) ⟨_, rfl, rfl⟩ rfl ?_
    refine .q (op_index_str Tryd.underlying9 rfl rfl (show _ = ((j : Nat) : Int) from rfl) (by omega)) ⟨_, rfl, rfl⟩ rfl ?_
    refine .as (.u8 110) (congrArg AV.u8 h6) ?_
    refine .q (op_bin8 rfl rfl rfl) ⟨_, rfl, rfl⟩ rfl ?_
    refine .q (op_pick_true rfl rfl rfl) trivial rfl ?_
    refine .nil ?_
    show Ev _ _ _ _ _
    refine .cond_true rfl (rfl) ?_
    refine .exit ?_
    show Ev _ _ _ _ _
    refine .region ?_
    refine .q (op_move rfl) trivial rfl ?_
    refine .q (op_addI rfl rfl ⟨by omega, by omega⟩) trivial rfl ?_
    refine .q (op_assign rfl) trivial rfl ?_
    refine .nil ?_
    have eS := cn_no (p := pS) (fs := (fieldsOf K)) (j := j) h6 rfl
    refine ⟨⟨j + 1, by omega⟩, by (try dsimp only); omega, ?_⟩
    dsimp only
    rw [eS]
    exact StLe.mk [(1000, 1000)] rfl rfl ⟨⟨_, rfl, by first | rfl | (simp only [AV.ren]; congr 1; omega), rfl⟩, ⟨_, rfl, by first | rfl | (simp only [AV.ren]; congr 1; omega), rfl⟩, ⟨_, rfl, by first | rfl | (simp only [AV.ren]; congr 1; omega), rfl⟩, ⟨_, rfl, by first | rfl | (simp only [AV.ren]; congr 1; omega), rfl⟩, ⟨_, rfl, by first | rfl | (simp only [AV.ren]; congr 1; omega), rfl⟩, trivial⟩ ⟨⟨_, _, rfl, rfl, rfl, rfl, id, rfl⟩, trivial⟩
   ·have hlt : cn pS (fieldsOf K) j < R.ss.length := by rw [hnS]; exact cn_lt (by omega) (by rw [h6]; rfl)
    refine .q (op_move rfl) trivial rfl ?_
    refine .q (op_move rfl) trivial rfl ?_
    refine .q (op_index_str Tryd.underlying9 rfl rfl (show _ = ((j : Nat) : Int) from rfl) (by omega)) trivial rfl ?_
    refine .as (.u8 115) (congrArg AV.u8 h6) ?_
    refine .q (op_bin8 rfl rfl rfl) trivial rfl ?_
    refine .q (op_move rfl) trivial rfl ?_
    refine .know (b' := true) (rfl) ?_
    refine .q (op_move rfl) ⟨_, rfl, rfl⟩ rfl ?_
    refine .q (op_move rfl) ⟨_, rfl, rfl⟩ rfl ?_
    refine .q (op_index_str Tryd.underlying9 rfl rfl (show _ = ((j : Nat) : Int) from rfl) (by omega)) ⟨_, rfl, rfl⟩ rfl ?_
    refine .as (.u8 115) (congrArg AV.u8 h6) ?_
    refine .q (op_bin8 rfl rfl rfl) ⟨_, rfl, rfl⟩ rfl ?_
    refine .q (op_pick_true rfl rfl rfl) trivial rfl ?_
    refine .q (op_move rfl) trivial rfl ?_
    refine .know (b' := false) (rfl) ?_
    refine .no ⟨_, rfl, rfl⟩ rfl ?_
    refine .no ⟨_, rfl, rfl⟩ rfl ?_
    refine .no ⟨_, rfl, rfl⟩ rfl ?_
    refine .no ⟨_, rfl, rfl⟩ rfl ?_
    refine .q (op_pick_false rfl rfl rfl) trivial rfl ?_
    refine .nil ?_
    show Ev _ _ _ _ _
    refine .cond_false rfl rfl ?_
    refine .skip ?_
    show Ev _ _ _ _ _
    refine .seq ?_
    refine .seq ?_
    refine .region ?_
    refine .q (op_move rfl) trivial rfl ?_
    refine .q (op_move rfl) trivial rfl ?_
    refine .q (op_index_str Tryd.underlying9 rfl rfl (show _ = ((j : Nat) : Int) from rfl) (by omega)) trivial rfl ?_
    refine .as (.u8 115) (congrArg AV.u8 h6) ?_
    refine .q (op_bin8 rfl rfl rfl) trivial rfl ?_
    refine .q (op_move rfl) trivial rfl ?_
    refine .know (b' := false) (rfl) ?_
    refine .no ⟨_, rfl, rfl⟩ rfl ?_
    refine .no ⟨_, rfl, rfl⟩ rfl ?_
    refine .no ⟨_, rfl, rfl⟩ rfl ?_
    refine .no ⟨_, rfl, rfl⟩ rfl ?_
    refine .no ⟨_, rfl, rfl⟩ rfl ?_
    refine .no ⟨_, rfl, rfl⟩ rfl ?_
    refine .no ⟨_, rfl, rfl⟩ rfl ?_
    refine .q (op_pick_false rfl rfl rfl) trivial rfl ?_
    refine .nil ?_
    show Ev _ _ _ _ _
    refine .cond_false rfl rfl ?_
    refine .skip ?_
    show Ev _ _ _ _ _
    refine .seq ?_
    refine .seq ?_
    refine .region ?_
    refine .q (op_move rfl) trivial rfl ?_
    refine .q (op_move rfl) trivial rfl ?_
    refine .q (op_index_str Tryd.underlying9 rfl rfl (show _ = ((j : Nat) : Int) from rfl) (by omega)) trivial rfl ?_
    refine .as (.u8 115) (congrArg AV.u8 h6) ?_
    refine .q (op_bin8 rfl rfl rfl) trivial rfl ?_
    refine .q (op_move rfl) trivial rfl ?_
    refine .know (b' := true) (rfl) ?_
    refine .q (op_fieldAddr (m := 0) Tryd.underlying27 rfl (by kernel_rfl) rfl) ⟨_, rfl, rfl⟩ rfl ?_
    refine .as (.ptr 1000 2) rfl ?_
    refine .q (op_load Tryd.underlying23 rfl rfl rfl rfl (by show 2 < 5; decide)) ⟨_, rfl, rfl⟩ rfl ?_
    refine .q (op_move rfl) ⟨_, rfl, rfl⟩ rfl ?_
    refine .q (op_indexAddr_dsl Tryd.underlying23 inf9.sz rfl rfl (i := cn pS (fieldsOf K) j) rfl (hlt)) ⟨_, rfl, rfl⟩ rfl ?_
    refine .q (op_load_dptr Tryd.underlying9 rfl rfl (drop_get (by omega))) ⟨_, rfl, rfl⟩ rfl ?_
    refine .q (op_len_str Tryd.underlying9 rfl) ⟨_, rfl, rfl⟩ rfl ?_
    refine .q (op_cmpI rfl rfl rfl) ⟨_, rfl, rfl⟩ rfl ?_
    refine .q (op_pick_true rfl rfl rfl) trivial rfl ?_
    refine .nil ?_
    show Ev _ _ _ _ _
    refine .cond_false rfl (decide_eq_false (by have := hss (cn pS (fieldsOf K) j); omega)) ?_
    refine .skip ?_
    show Ev _ _ _ _ _
    refine .region ?_
    refine .q (op_move rfl) trivial rfl ?_
    refine .q (op_addI rfl rfl ⟨by omega, by omega⟩) trivial rfl ?_
    refine .q (op_assign rfl) trivial rfl ?_
    refine .nil ?_
    show Ev _ _ _ _ _
    refine .region ?_
    refine .q (op_move rfl) trivial rfl ?_
    refine .q (op_addI rfl rfl ⟨by omega, by omega⟩) trivial rfl ?_
    refine .q (op_assign rfl) trivial rfl ?_
    refine .nil ?_
    have eS := cn_yes (p := pS) (fs := (fieldsOf K)) (j := j) h6 rfl
    refine ⟨⟨j + 1, by omega⟩, by (try dsimp only); omega, ?_⟩
    dsimp only
    rw [eS]
    exact StLe.mk [(1000, 1000)] rfl rfl ⟨⟨_, rfl, by first | rfl | (simp only [AV.ren]; congr 1; omega), rfl⟩, ⟨_, rfl, by first | rfl | (simp only [AV.ren]; congr 1; omega), rfl⟩, ⟨_, rfl, by first | rfl | (simp only [AV.ren]; congr 1; omega), rfl⟩, ⟨_, rfl, by first | rfl | (simp only [AV.ren]; congr 1; omega), rfl⟩, ⟨_, rfl, by first | rfl | (simp only [AV.ren]; congr 1; omega), rfl⟩, trivial⟩ ⟨⟨_, _, rfl, rfl, rfl, rfl, id, rfl⟩, trivial⟩
   ·have hlt : cn pS (fieldsOf K) j < R.ss.length := by rw [hnS]; exact cn_lt (by omega) (by rw [h6]; rfl)
    refine .q (op_move rfl) trivial rfl ?_
    refine .q (op_move rfl) trivial rfl ?_
    refine .q (op_index_str Tryd.underlying9 rfl rfl (show _ = ((j : Nat) : Int) from rfl) (by omega)) trivial rfl ?_
    refine .as (.u8 99) (congrArg AV.u8 h6) ?_
    refine .q (op_bin8 rfl rfl rfl) trivial rfl ?_
    refine .q (op_move rfl) trivial rfl ?_
    refine .know (b' := false) (rfl) ?_
    refine .no ⟨_, rfl, rfl⟩ rfl ?_
    refine .no ⟨_, rfl, rfl⟩ rfl ?_
    refine .no ⟨_, rfl, rfl⟩ rfl ?_
    refine .no ⟨_, rfl, rfl⟩ rfl ?_
    refine .q (op_pick_false rfl rfl rfl) trivial rfl ?_
    refine .q (op_move rfl) trivial rfl ?_
    refine .no ⟨_, rfl, rfl⟩ rfl ?_
    refine .no ⟨_, rfl, rfl⟩ rfl ?_
    refine .no ⟨_, rfl, rfl⟩ rfl ?_
    refine .no ⟨_, rfl, rfl⟩ rfl ?_
    refine .q (op_pick_false rfl rfl rfl) trivial rfl ?_
    refine .nil ?_
    show Ev _ _ _ _ _
    refine .cond_false rfl rfl ?_
    refine .skip ?_
    show Ev _ _ _ _ _
    refine .seq ?_
    refine .seq ?_
    refine .region ?_
    refine .q (op_move rfl) trivial rfl ?_
    refine .q (op_move rfl) trivial rfl ?_
    refine .q (op_index_str Tryd.underlying9 rfl rfl (show _ = ((j : Nat) : Int) from rfl) (by omega)) trivial rfl ?_
    refine .as (.u8 99) (congrArg AV.u8 h6) ?_
    refine .q (op_bin8 rfl rfl rfl) trivial rfl ?_
    refine .q (op_move rfl) trivial rfl ?_
    refine .know (b' := true) (rfl) ?_
    refine .q (op_fieldAddr (m := 0) Tryd.underlying27 rfl (by kernel_rfl) rfl) ⟨_, rfl, rfl⟩ rfl ?_
    refine .as (.ptr 1000 2) rfl ?_
    refine .q (op_load Tryd.underlying23 rfl rfl rfl rfl (by show 2 < 5; decide)) ⟨_, rfl, rfl⟩ rfl ?_
    refine .q (op_move rfl) ⟨_, rfl, rfl⟩ rfl ?_
    refine .q (op_indexAddr_dsl Tryd.underlying23 inf9.sz rfl rfl (i := cn pS (fieldsOf K) j) rfl (hlt)) ⟨_, rfl, rfl⟩ rfl ?_
    refine .q (op_load_dptr Tryd.underlying9 rfl rfl (drop_get (by omega))) ⟨_, rfl, rfl⟩ rfl ?_
    refine .q (op_len_str Tryd.underlying9 rfl) ⟨_, rfl, rfl⟩ rfl ?_
    refine .q (op_cmpI rfl rfl rfl) ⟨_, rfl, rfl⟩ rfl ?_
    refine .q (op_pick_true rfl rfl rfl) trivial rfl ?_
    refine .nil ?_
    show Ev _ _ _ _ _
    refine .cond_false rfl (by rw [hc16 j (by omega) h6]; rfl) ?_
    refine .skip ?_
    show Ev _ _ _ _ _
    refine .seq ?_
    refine .seq ?_
    refine .region ?_
    refine .q (op_move rfl) trivial rfl ?_
    refine .q (op_move rfl) trivial rfl ?_
    refine .q (op_index_str Tryd.underlying9 rfl rfl (show _ = ((j : Nat) : Int) from rfl) (by omega)) trivial rfl ?_
    refine .as (.u8 99) (congrArg AV.u8 h6) ?_
    refine .q (op_bin8 rfl rfl rfl) trivial rfl ?_
    refine .q (op_move rfl) trivial rfl ?_
    refine .know (b' := false) (rfl) ?_
    refine .no ⟨_, rfl, rfl⟩ rfl ?_
    refine .no ⟨_, rfl, rfl⟩ rfl ?_
    refine .no ⟨_, rfl, rfl⟩ rfl ?_
    refine .no ⟨_, rfl, rfl⟩ rfl ?_
    refine .no ⟨_, rfl, rfl⟩ rfl ?_
    refine .no ⟨_, rfl, rfl⟩ rfl ?_
    refine .no ⟨_, rfl, rfl⟩ rfl ?_
    refine .q (op_pick_false rfl rfl rfl) trivial rfl ?_
    refine .nil ?_
    show Ev _ _ _ _ _
    refine .cond_false rfl rfl ?_
    refine .skip ?_
    show Ev _ _ _ _ _
    refine .region ?_
    refine .q (op_move rfl) trivial rfl ?_
    refine .q (op_addI rfl rfl ⟨by omega, by omega⟩) trivial rfl ?_
    refine .q (op_assign rfl) trivial rfl ?_
    refine .nil ?_
    show Ev _ _ _ _ _
    refine .region ?_
    refine .q (op_move rfl) trivial rfl ?_
    refine .q (op_addI rfl rfl ⟨by omega, by omega⟩) trivial rfl ?_
    refine .q (op_assign rfl) trivial rfl ?_
    refine .nil ?_
    have eS := cn_yes (p := pS) (fs := (fieldsOf K)) (j := j) h6 rfl
    refine ⟨⟨j + 1, by omega⟩, by (try dsimp only); omega, ?_⟩
    dsimp only
    rw [eS]
    exact StLe.mk [(1000, 1000)] rfl rfl ⟨⟨_, rfl, by first | rfl | (simp only [AV.ren]; congr 1; omega), rfl⟩, ⟨_, rfl, by first | rfl | (simp only [AV.ren]; congr 1; omega), rfl⟩, ⟨_, rfl, by first | rfl | (simp only [AV.ren]; congr 1; omega), rfl⟩, ⟨_, rfl, by first | rfl | (simp only [AV.ren]; congr 1; omega), rfl⟩, ⟨_, rfl, by first | rfl | (simp only [AV.ren]; congr 1; omega), rfl⟩, trivial⟩ ⟨⟨_, _, rfl, rfl, rfl, rfl, id, rfl⟩, trivial⟩
   ·have hlt : cn pS (fieldsOf K) j < R.ss.length := by rw [hnS]; exact cn_lt (by omega) (by rw [h6]; rfl)
    refine .q (op_move rfl) trivial rfl ?_
    refine .q (op_move rfl) trivial rfl ?_
    refine .q (op_index_str Tryd.underlying9 rfl rfl (show _ = ((j : Nat) : Int) from rfl) (by omega)) trivial rfl ?_
    refine .as (.u8 114) (congrArg AV.u8 h6) ?_
    refine .q (op_bin8 rfl rfl rfl) trivial rfl ?_
    refine .q (op_move rfl) trivial rfl ?_
    refine .know (b' := true) (rfl) ?_
    refine .q (op_move rfl) ⟨_, rfl, rfl⟩ rfl ?_
    refine .q (op_move rfl) ⟨_, rfl, rfl⟩ rfl ?_
    refine .q (op_index_str Tryd.underlying9 rfl rfl (show _ = ((j : Nat) : Int) from rfl) (by omega)) ⟨_, rfl, rfl⟩ rfl ?_
    refine .as (.u8 114) (congrArg AV.u8 h6) ?_
    refine .q (op_bin8 rfl rfl rfl) ⟨_, rfl, rfl⟩ rfl ?_
    refine .q (op_pick_true rfl rfl rfl) trivial rfl ?_
    refine .q (op_move rfl) trivial rfl ?_
    refine .know (b' := true) (rfl) ?_
    refine .q (op_move rfl) ⟨_, rfl, rfl⟩ rfl ?_
    refine .q (op_move rfl) ⟨_, rfl, rfl⟩ rfl ?_
    refine .q (op_index_str Tryd.underlying9 rfl rfl (show _ = ((j : Nat) : Int) from rfl) (by omega)) ⟨_, rfl, rfl⟩ rfl ?_
    refine .as (.u8 114) (congrArg AV.u8 h6) ?_
    refine .q (op_bin8 rfl rfl rfl) ⟨_, rfl, rfl⟩ rfl ?_
    refine .q (op_pick_true rfl rfl rfl) trivial rfl ?_
    refine .nil ?_
    show Ev _ _ _ _ _
    refine .cond_false rfl (rfl) ?_
    refine .skip ?_
    show Ev _ _ _ _ _
    refine .seq ?_
    refine .seq ?_
    refine .region ?_
    refine .q (op_move rfl) trivial rfl ?_
    refine .q (op_move rfl) trivial rfl ?_
    refine .q (op_index_str Tryd.underlying9 rfl rfl (show _ = ((j : Nat) : Int) from rfl) (by omega)) trivial rfl ?_
    refine .as (.u8 114) (congrArg AV.u8 h6) ?_
    refine .q (op_bin8 rfl rfl rfl) trivial rfl ?_
    refine .q (op_move rfl) trivial rfl ?_
    refine .know (b' := false) (rfl) ?_
    refine .no ⟨_, rfl, rfl⟩ rfl ?_
    refine .no ⟨_, rfl, rfl⟩ rfl ?_
    refine .no ⟨_, rfl, rfl⟩ rfl ?_
    refine .no ⟨_, rfl, rfl⟩ rfl ?_
    refine .no ⟨_, rfl, rfl⟩ rfl ?_
    refine .no ⟨_, rfl, rfl⟩ rfl ?_
    refine .no ⟨_, rfl, rfl⟩ rfl ?_
    refine .q (op_pick_false rfl rfl rfl) trivial rfl ?_
    refine .nil ?_
    show Ev _ _ _ _ _
    refine .cond_false rfl rfl ?_
    refine .skip ?_
    show Ev _ _ _ _ _
    refine .seq ?_
    refine .seq ?_
    refine .region ?_
    refine .q (op_move rfl) trivial rfl ?_
    refine .q (op_move rfl) trivial rfl ?_
    refine .q (op_index_str Tryd.underlying9 rfl rfl (show _ = ((j : Nat) : Int) from rfl) (by omega)) trivial rfl ?_
    refine .as (.u8 114) (congrArg AV.u8 h6) ?_
    refine .q (op_bin8 rfl rfl rfl) trivial rfl ?_
    refine .q (op_move rfl) trivial rfl ?_
    refine .know (b' := true) (rfl) ?_
    refine .q (op_fieldAddr (m := 0) Tryd.underlying27 rfl (by kernel_rfl) rfl) ⟨_, rfl, rfl⟩ rfl ?_
    refine .as (.ptr 1000 2) rfl ?_
    refine .q (op_load Tryd.underlying23 rfl rfl rfl rfl (by show 2 < 5; decide)) ⟨_, rfl, rfl⟩ rfl ?_
    refine .q (op_move rfl) ⟨_, rfl, rfl⟩ rfl ?_
    refine .q (op_indexAddr_dsl Tryd.underlying23 inf9.sz rfl rfl (i := cn pS (fieldsOf K) j) rfl (hlt)) ⟨_, rfl, rfl⟩ rfl ?_
    refine .q (op_load_dptr Tryd.underlying9 rfl rfl (drop_get (by omega))) ⟨_, rfl, rfl⟩ rfl ?_
    refine .q (op_len_str Tryd.underlying9 rfl) ⟨_, rfl, rfl⟩ rfl ?_
    refine .q (op_cmpI rfl rfl rfl) ⟨_, rfl, rfl⟩ rfl ?_
    refine .q (op_pick_true rfl rfl rfl) trivial rfl ?_
    refine .nil ?_
    show Ev _ _ _ _ _
    refine .cond_false rfl (decide_eq_false (by have := hss (cn pS (fieldsOf K) j); omega)) ?_
    refine .skip ?_
    show Ev _ _ _ _ _
    refine .region ?_
    refine .q (op_move rfl) trivial rfl ?_
    refine .q (op_addI rfl rfl ⟨by omega, by omega⟩) trivial rfl ?_
    refine .q (op_assign rfl) trivial rfl ?_
    refine .nil ?_
    show Ev _ _ _ _ _
    refine .region ?_
    refine .q (op_move rfl) trivial rfl ?_
    refine .q (op_addI rfl rfl ⟨by omega, by omega⟩) trivial rfl ?_
    refine .q (op_assign rfl) trivial rfl ?_
    refine .nil ?_
    have eS := cn_yes (p := pS) (fs := (fieldsOf K)) (j := j) h6 rfl
    refine ⟨⟨j + 1, by omega⟩, by (try dsimp only); omega, ?_⟩
    dsimp only
    rw [eS]
    exact StLe.mk [(1000, 1000)] rfl rfl ⟨⟨_, rfl, by first | rfl | (simp only [AV.ren]; congr 1; omega), rfl⟩, ⟨_, rfl, by first | rfl | (simp only [AV.ren]; congr 1; omega), rfl⟩, ⟨_, rfl, by first | rfl | (simp only [AV.ren]; congr 1; omega), rfl⟩, ⟨_, rfl, by first | rfl | (simp only [AV.ren]; congr 1; omega), rfl⟩, ⟨_, rfl, by first | rfl | (simp only [AV.ren]; congr 1; omega), rfl⟩, trivial⟩ ⟨⟨_, _, rfl, rfl, rfl, rfl, id, rfl⟩, trivial⟩
  ·simp only [decide_eq_true_eq, decide_eq_false_iff_not, beq_iff_eq, bne_iff_ne, ne_eq, beq_eq_false_iff_ne, bne_eq_false_iff_eq] at hc76
   refine .exit ?_
   show Ev _ _ _ _ _
   have ej : j = (fieldsOf K).length := by omega
   subst ej
   refine .seq ?_
   refine .seq ?_
   refine .region ?_
   refine .q (op_fieldAddr (m := 0) Tryd.underlying27 rfl (by kernel_rfl) rfl) trivial rfl ?_
   refine .as (.ptr 1000 3) rfl ?_
   refine .q (op_load Tryd.underlying24 rfl rfl rfl rfl (by show 3 < 5; decide)) trivial rfl ?_
   refine .q (op_len_fsl Tryd.underlying24 rfl) trivial rfl ?_
   refine .q (op_move rfl) trivial rfl ?_
   refine .nil ?_
   show Ev _ _ _ _ _
   refine .block ?_
   refine Ev.loop (ι := { i : Nat // i ≤ R.ns.length }) (fun q => ⟨[(10, .bool false), (124, .fsl (List.map AV.dsl R.ns) R.ns.length 1), (125, .i64 ((R.ns.length : Nat) : Int)), (126, .i64 ((q.1 : Nat) : Int))], [], 1008⟩) (fun q => R.ns.length - q.1) ⟨0, Nat.zero_le _⟩ (StLe.mk [] rfl rfl ⟨⟨_, rfl, by first | rfl | (simp only [AV.ren]; congr 1; omega), rfl⟩, ⟨_, rfl, by first | rfl | (simp only [AV.ren]; congr 1; omega), rfl⟩, ⟨_, rfl, by first | rfl | (simp only [AV.ren]; congr 1; omega), rfl⟩, ⟨_, rfl, by first | rfl | (simp only [AV.ren]; congr 1; omega), rfl⟩, trivial⟩ trivial) ?_
   rintro ⟨i, hi⟩
   try dsimp only
   refine .seq ?_
   refine .region ?_
   refine .q (op_cmpI rfl rfl rfl) trivial rfl ?_
   refine .nil ?_
   show Ev _ _ _ _ _
   refine .seq ?_
   refine .cond rfl (fun hc127 => ?_) (fun hc127 => ?_)
   ·simp only [decide_eq_true_eq, decide_eq_false_iff_not, beq_iff_eq, bne_iff_ne, ne_eq, beq_eq_false_iff_ne, bne_eq_false_iff_eq] at hc127
    refine .skip ?_
    show Ev _ _ _ _ _
    refine .seq ?_
    refine .block ?_
    refine .seq ?_
    refine .region ?_
    refine .q (op_indexAddr_fsl (z := 1) Tryd.underlying24 inf23.sz (by decide) rfl rfl rfl (by first | omega | (simp only [AV.len]; omega) | (simp only [AV.len, List.length_set]; omega) | assumption | (simp [AV.len]; done))) trivial rfl ?_
    refine .q (op_load_fptr Tryd.underlying23 rfl rfl (get_names (by omega))) trivial rfl ?_
    refine .q (op_assign rfl) trivial rfl ?_
    refine .nil ?_
    show Ev _ _ _ _ _
    refine .seq ?_
    refine .seq ?_
    refine .region ?_
    refine .q (op_move rfl) trivial rfl ?_
    refine .q (op_len_dsl Tryd.underlying23 rfl) trivial rfl ?_
    refine .q (op_move rfl) trivial rfl ?_
    refine .nil ?_
    show Ev _ _ _ _ _
    refine .block ?_
    refine Ev.loop (ι := { w : Nat // w ≤ (R.ns.getD i []).length }) (fun q => ⟨[(10, .bool false), (124, .fsl (List.map AV.dsl R.ns) R.ns.length 1), (125, .i64 ((R.ns.length : Nat) : Int)), (126, .i64 ((i : Nat) : Int)), (13, .dsl (R.ns.getD i [])), (130, .dsl (R.ns.getD i [])), (131, .i64 (((R.ns.getD i []).length : Nat) : Int)), (132, .i64 ((q.1 : Nat) : Int))], [], 1008⟩) (fun q => (R.ns.getD i []).length - q.1) ⟨0, Nat.zero_le _⟩ (StLe.mk [] rfl rfl ⟨⟨_, rfl, by first | rfl | (simp only [AV.ren]; congr 1; omega), rfl⟩, ⟨_, rfl, by first | rfl | (simp only [AV.ren]; congr 1; omega), rfl⟩, ⟨_, rfl, by first | rfl | (simp only [AV.ren]; congr 1; omega), rfl⟩, ⟨_, rfl, by first | rfl | (simp only [AV.ren]; congr 1; omega), rfl⟩, ⟨_, rfl, by first | rfl | (simp only [AV.ren]; congr 1; omega), rfl⟩, ⟨_, rfl, by first | rfl | (simp only [AV.ren]; congr 1; omega), rfl⟩, ⟨_, rfl, by first | rfl | (simp only [AV.ren]; congr 1; omega), rfl⟩, ⟨_, rfl, by first | rfl | (simp only [AV.ren]; congr 1; omega), rfl⟩, trivial⟩ trivial) ?_
    rintro ⟨w, hw⟩
    try dsimp only
    refine .seq ?_
    refine .region ?_
    refine .q (op_cmpI rfl rfl rfl) trivial rfl ?_
    refine .nil ?_
    show Ev _ _ _ _ _
    refine .seq ?_
    refine .cond rfl (fun hc133 => ?_) (fun hc133 => ?_)
    ·simp only [decide_eq_true_eq, decide_eq_false_iff_not, beq_iff_eq, bne_iff_ne, ne_eq, beq_eq_false_iff_ne, bne_eq_false_iff_eq] at hc133
     refine .skip ?_
     show Ev _ _ _ _ _
     refine .seq ?_
     refine .block ?_
     refine .seq ?_
     refine .region ?_
     have hlt : w < (R.ns.getD i []).length := by omega
     refine .q (op_indexAddr_dsl Tryd.underlying23 inf9.sz rfl rfl rfl (by first | omega | (simp only [AV.len]; omega) | (simp only [AV.len, List.length_set]; omega) | assumption | (simp [AV.len]; done))) trivial rfl ?_
     refine .q (op_load_dptr Tryd.underlying9 rfl rfl (drop_get (by omega))) trivial rfl ?_
     refine .q (op_assign rfl) trivial rfl ?_
     refine .nil ?_
     show Ev _ _ _ _ _
     refine .seq ?_
     refine .region ?_
     refine .q (op_move rfl) trivial rfl ?_
     refine .q (op_call (U := []) [] [] (rname_ev ((R.ns.getD i []).getD w []) (Nat.le_trans (name_len (all_nth (hna i) hlt)) (by decide))) Tryd.func23 (by kernel_rfl) rfl rfl rfl (⟨⟨_, rfl, rfl, rfl⟩, trivial⟩) (trivial) (trivial) (trivial) rfl) trivial rfl ?_
     refine .q (op_notB rfl) trivial rfl ?_
     refine .nil ?_
     show Ev _ _ _ _ _
     refine .cond_false rfl (by rw [all_nth (hna i) hlt]; rfl) ?_
     refine .skip ?_
     show Ev _ _ _ _ _
     refine .region ?_
     refine .q (op_addI rfl rfl ⟨by have := (join_bounds (hnj i)).1; omega, by have := (join_bounds (hnj i)).1; omega⟩) trivial rfl ?_
     refine .q (op_move rfl) trivial rfl ?_
     refine .nil ?_
     exact ⟨⟨w + 1, by omega⟩, by (try dsimp only); omega, StLe.mk [] rfl rfl ⟨⟨_, rfl, by first | rfl | (simp only [AV.ren]; congr 1; omega), rfl⟩, ⟨_, rfl, by first | rfl | (simp only [AV.ren]; congr 1; omega), rfl⟩, ⟨_, rfl, by first | rfl | (simp only [AV.ren]; congr 1; omega), rfl⟩, ⟨_, rfl, by first | rfl | (simp only [AV.ren]; congr 1; omega), rfl⟩, ⟨_, rfl, by first | rfl | (simp only [AV.ren]; congr 1; omega), rfl⟩, ⟨_, rfl, by first | rfl | (simp only [AV.ren]; congr 1; omega), rfl⟩, ⟨_, rfl, by first | rfl | (simp only [AV.ren]; congr 1; omega), rfl⟩, ⟨_, rfl, by first | rfl | (simp only [AV.ren]; congr 1; omega), rfl⟩, trivial⟩ trivial⟩
    ·simp only [decide_eq_true_eq, decide_eq_false_iff_not, beq_iff_eq, bne_iff_ne, ne_eq, beq_eq_false_iff_ne, bne_eq_false_iff_eq] at hc133
     refine .exit ?_
     show Ev _ _ _ _ _
     refine .seq ?_
     refine .region ?_
     refine .q (op_move rfl) trivial rfl ?_
     refine .q (op_call (U := []) [] [] (rnamesB_ev (R.ns.getD i []) (by have := (join_bounds (hnj i)).1; omega) (by have := (join_bounds (hnj i)).2; omega)) Tryd.func24 (by kernel_rfl) rfl rfl rfl (⟨⟨_, rfl, rfl, rfl⟩, trivial⟩) (trivial) (trivial) (trivial) rfl) trivial rfl ?_
     refine .q (op_len_str Tryd.underlying9 rfl) trivial rfl ?_
     refine .q (op_cmpI rfl rfl rfl) trivial rfl ?_
     refine .nil ?_
     show Ev _ _ _ _ _
     refine .cond_false rfl (decide_eq_false (by rw [length_namesB]; have := hnj i; omega)) ?_
     refine .skip ?_
     show Ev _ _ _ _ _
     refine .region ?_
     refine .q (op_addI rfl rfl ⟨by omega, by omega⟩) trivial rfl ?_
     refine .q (op_move rfl) trivial rfl ?_
     refine .nil ?_
     exact ⟨⟨i + 1, by omega⟩, by (try dsimp only); omega, StLe.mk [] rfl rfl ⟨⟨_, rfl, by first | rfl | (simp only [AV.ren]; congr 1; omega), rfl⟩, ⟨_, rfl, by first | rfl | (simp only [AV.ren]; congr 1; omega), rfl⟩, ⟨_, rfl, by first | rfl | (simp only [AV.ren]; congr 1; omega), rfl⟩, ⟨_, rfl, by first | rfl | (simp only [AV.ren]; congr 1; omega), rfl⟩, trivial⟩ trivial⟩
   ·simp only [decide_eq_true_eq, decide_eq_false_iff_not, beq_iff_eq, bne_iff_ne, ne_eq, beq_eq_false_iff_ne, bne_eq_false_iff_eq] at hc127
    refine .exit ?_
    show Ev _ _ _ _ _
    refine .seq ?_
    refine .seq ?_
    refine .region ?_
    refine .q (op_move rfl) trivial rfl ?_
    refine .nil ?_
    show Ev _ _ _ _ _
    refine .cond_false rfl (rfl) ?_
    refine .skip ?_
    show Ev _ _ _ _ _
    refine .seq ?_
    refine .region ?_
    refine .q (op_assign rfl) trivial rfl ?_
    refine .nil ?_
    show Ev _ _ _ _ _
    refine .ret ?_
    show RetOk _ _ _ _ _ _ _
    exact ret1v rfl (.inl rfl) rfl rfl trivial
end Go.Proofs.YtgnicenhnchglaaDoor
namespace Go.Proofs.YtgnicenhnchglaaDoor
open Go.RowKit
theorem orE_zero {a b : Nat} (h : orE a b = 0) : a = 0 ∧ b = 0 := by
  cases a with
  | zero => exact ⟨rfl, h⟩
  | succ n => cases h
theorem rawD_e {i : DI} {n : Nat} (h : (rawD i n).1.e = 0) : i.e = 0 ∧ (rawD i n).2.length = n := by
  unfold rawD at h ⊢
  split
  · rename_i hl; rw [if_pos hl] at h; exact ⟨h, by simp only [List.length_take]; omega⟩
  · rename_i hl; rw [if_neg hl] at h; exact absurd (orE_zero h).2 (by decide)
theorem textD_e0 {i : DI} {m : Int} (h : (textD i m).1.e = 0) : i.e = 0 := by
  unfold textD at h
  split at h
  · exact absurd (orE_zero h).2 (by decide)
  · exact (rawD_e (rawD_e h).1).1
theorem namesD_e {i : DI} (h : (namesD i).1.e = 0) : i.e = 0 := by
  unfold namesD at h
  split at h
  · exact textD_e0 h
  · split at h
    · exact textD_e0 h
    · exact absurd (orE_zero h).2 (by decide)
theorem sum_split : ∀ t : List UInt8, sumB (splitC t) + (splitC t).length = t.length + 1
  | [] => rfl
  | c :: s => by
    have ih := sum_split s
    unfold splitC
    split
    · show sumB ([] :: splitC s) + (splitC s).length + 1 = _
      simp only [sumB, List.map_cons, List.sum_cons, List.length_nil] at ih ⊢; simp only [List.length_cons]; omega
    · cases h : splitC s with
      | nil => rw [h] at ih; simp [sumB] at ih
      | cons x l =>
        rw [h] at ih
        simp only [sumB, List.map_cons, List.sum_cons, List.length_cons] at ih ⊢; omega
theorem names_in (i : DI) : (namesD i).2.all nameOk = true ∧ (joinB (namesD i).2).length ≤ i.r.length := by
  unfold namesD
  split
  · exact ⟨rfl, Nat.zero_le _⟩
  · split
    · rename_i h
      refine ⟨h, ?_⟩
      have h1 := sum_split (textD i 4096).2
      have h2 := (textD_len_le i 4096).1
      show (joinB (splitC (textD i 4096).2)).length ≤ _
      have h3 := splitC_len (textD i 4096).2
      rw [joinB_len]; omega
    · exact ⟨rfl, Nat.zero_le _⟩
theorem get_snoc {α : Type} {l : List α} {x d : α} {p : α → Prop} (h : ∀ i, p (l.getD i d)) (hx : p x) : ∀ i, p ((l ++ [x]).getD i d) := fun i => by
  rcases Nat.lt_or_ge i l.length with h1 | h1
  · have := h i
    rwa [List.getD_eq_getElem?_getD, List.getElem?_append_left h1, ← List.getD_eq_getElem?_getD]
  · rcases Nat.lt_or_ge l.length i with h2 | h2
    · have h3 := h i
      rw [List.getD_eq_getElem?_getD, List.getElem?_eq_none h1] at h3
      rw [List.getD_eq_getElem?_getD, List.getElem?_eq_none (by simp; omega)]
      exact h3
    · have e : i = l.length := by omega
      subst e; simp [hx]
/-- What holds of a message after j letters. -/
structure MI9 (fs : List UInt8) (w j : Nat) (M : MSt) : Prop where
  u : M.us.length = cn pU fs j
  s : M.ss.length = cn pS fs j
  n : M.ns.length = cn pN fs j
  b : M.bs.length = cn pB fs j
  r : M.i.r.length ≤ w
  l : ∀ i, (M.ss.getD i []).length ≤ w
  o : ∀ i, (M.ns.getD i []).all nameOk = true
  k : ∀ i, (joinB (M.ns.getD i [])).length ≤ w
  c : M.i.e = 0 → ∀ q, q < j → fs.getD q 0 = 99 → (M.ss.getD (cn pS fs q) []).length = 16
theorem mi9 (fs : List UInt8) (m : MSt) (hm : m.us = [] ∧ m.ss = [] ∧ m.ns = [] ∧ m.bs = []) (hs : ∀ j, j < fs.length → six (fs.getD j 0) = true) : ∀ j, j ≤ fs.length → MI9 fs m.i.r.length j (parseN fs m j)
  | 0, _ => by
    obtain ⟨h1, h2, h3, h4⟩ := hm
    exact ⟨by show m.us.length = 0; rw [h1]; rfl, by show m.ss.length = 0; rw [h2]; rfl, by show m.ns.length = 0; rw [h3]; rfl, by show m.bs.length = 0; rw [h4]; rfl, Nat.le_refl _, fun i => by show (m.ss.getD i []).length ≤ _; rw [h2]; exact Nat.zero_le _, fun i => by show (m.ns.getD i []).all nameOk = true; rw [h3]; rfl, fun i => by show (joinB (m.ns.getD i [])).length ≤ _; rw [h3]; exact Nat.zero_le _, fun _ q hq => absurd hq (Nat.not_lt_zero _)⟩
  | j + 1, hj => by
    have I := mi9 fs m hm hs j (by omega)
    have hle := getP_le (fs.getD j 0) (parseN fs m j)
    have hold : ∀ (x : List UInt8), (parseN fs m j).i.e = 0 → (fs.getD j 0 = 99 → x.length = 16) → pS (fs.getD j 0) = true → ∀ q, q < j + 1 → fs.getD q 0 = 99 → (((parseN fs m j).ss ++ [x]).getD (cn pS fs q) []).length = 16 := fun x he hx hp q hq h99 => by
      rcases Nat.lt_or_ge q j with h | h
      · have h1 : cn pS fs q < (parseN fs m j).ss.length := by rw [I.s]; exact cn_lt h (by rw [h99]; rfl)
        rw [List.getD_eq_getElem?_getD, List.getElem?_append_left h1, ← List.getD_eq_getElem?_getD]
        exact I.c he q h h99
      · have e : q = j := by omega
        subst e
        rw [show cn pS fs q = (parseN fs m q).ss.length from I.s.symm]
        simp only [List.getD_eq_getElem?_getD, List.getElem?_concat_length, Option.getD_some]
        exact hx h99
    have hno : (parseN fs m j).i.e = 0 → fs.getD j 0 ≠ 99 → ∀ q, q < j + 1 → fs.getD q 0 = 99 → ((parseN fs m j).ss.getD (cn pS fs q) []).length = 16 := fun he hne q hq h99 => by
      rcases Nat.lt_or_ge q j with h | h
      · exact I.c he q h h99
      · have e : q = j := by omega
        subst e; exact absurd h99 hne
    have hI := I
    obtain ⟨iu, is, iN, ib, ir, il, io, ik, ic⟩ := hI
    refine six_of (hs j (by omega)) (fun h6 => ?_) (fun h6 => ?_) (fun h6 => ?_) (fun h6 => ?_) (fun h6 => ?_) (fun h6 => ?_)
    · have e9 : parseN fs m (j + 1) = ⟨(u32D (parseN fs m j).i).1, (parseN fs m j).us ++ [(u32D (parseN fs m j).i).2], (parseN fs m j).ss, (parseN fs m j).ns, (parseN fs m j).bs⟩ := by show getP _ _ = _; rw [h6]; rfl
      rw [e9]
      refine ⟨?_, ?_, ?_, ?_, Nat.le_trans (rawD_len_le _ 4).2 ir, il, io, ik, fun he => hno (rawD_e he).1 (by rw [h6]; decide)⟩
      · rw [cn_yes h6 rfl, ← iu]; simp
      · rw [cn_no h6 rfl]; exact is
      · rw [cn_no h6 rfl]; exact iN
      · rw [cn_no h6 rfl]; exact ib
    · have e9 : parseN fs m (j + 1) = ⟨(boolD (parseN fs m j).i).1, (parseN fs m j).us, (parseN fs m j).ss, (parseN fs m j).ns, (parseN fs m j).bs ++ [(boolD (parseN fs m j).i).2]⟩ := by show getP _ _ = _; rw [h6]; rfl
      rw [e9]
      refine ⟨?_, ?_, ?_, ?_, Nat.le_trans (rawD_len_le _ 1).2 ir, il, io, ik, fun he => hno (rawD_e he).1 (by rw [h6]; decide)⟩
      · rw [cn_no h6 rfl]; exact iu
      · rw [cn_no h6 rfl]; exact is
      · rw [cn_no h6 rfl]; exact iN
      · rw [cn_yes h6 rfl, ← ib]; simp
    · have e9 : parseN fs m (j + 1) = ⟨(namesD (parseN fs m j).i).1, (parseN fs m j).us, (parseN fs m j).ss, (parseN fs m j).ns ++ [(namesD (parseN fs m j).i).2], (parseN fs m j).bs⟩ := by show getP _ _ = _; rw [h6]; rfl
      rw [e9]
      have hn := names_in (parseN fs m j).i
      refine ⟨?_, ?_, ?_, ?_, Nat.le_trans (namesD_le _) ir, il, get_snoc (p := fun z : List (List UInt8) => z.all nameOk = true) io hn.1, get_snoc (p := fun z : List (List UInt8) => (joinB z).length ≤ m.i.r.length) ik (Nat.le_trans hn.2 ir), fun he => hno (namesD_e he) (by rw [h6]; decide)⟩
      · rw [cn_no h6 rfl]; exact iu
      · rw [cn_no h6 rfl]; exact is
      · rw [cn_yes h6 rfl, ← iN]; simp
      · rw [cn_no h6 rfl]; exact ib
    · have e9 : parseN fs m (j + 1) = ⟨(textD (parseN fs m j).i 32768).1, (parseN fs m j).us, (parseN fs m j).ss ++ [(textD (parseN fs m j).i 32768).2], (parseN fs m j).ns, (parseN fs m j).bs⟩ := by show getP _ _ = _; rw [h6]; rfl
      rw [e9]
      refine ⟨?_, ?_, ?_, ?_, Nat.le_trans (textD_len_le _ 32768).2 ir, get_snoc (p := fun z : List UInt8 => z.length ≤ m.i.r.length) il (Nat.le_trans (textD_len_le _ 32768).1 ir), io, ik, fun he => hold _ (textD_e0 he) (fun h => absurd (h6.symm.trans h) (by decide)) (by rw [h6]; rfl)⟩
      · rw [cn_no h6 rfl]; exact iu
      · rw [cn_yes h6 rfl, ← is]; simp
      · rw [cn_no h6 rfl]; exact iN
      · rw [cn_no h6 rfl]; exact ib
    · have e9 : parseN fs m (j + 1) = ⟨(rawD (parseN fs m j).i 16).1, (parseN fs m j).us, (parseN fs m j).ss ++ [(rawD (parseN fs m j).i 16).2], (parseN fs m j).ns, (parseN fs m j).bs⟩ := by show getP _ _ = _; rw [h6]; rfl
      rw [e9]
      refine ⟨?_, ?_, ?_, ?_, Nat.le_trans (rawD_len_le _ 16).2 ir, get_snoc (p := fun z : List UInt8 => z.length ≤ m.i.r.length) il (Nat.le_trans (rawD_len_le _ 16).1 ir), io, ik, fun he => hold _ (rawD_e he).1 (fun _ => (rawD_e he).2) (by rw [h6]; rfl)⟩
      · rw [cn_no h6 rfl]; exact iu
      · rw [cn_yes h6 rfl, ← is]; simp
      · rw [cn_no h6 rfl]; exact iN
      · rw [cn_no h6 rfl]; exact ib
    · have e9 : parseN fs m (j + 1) = ⟨(rawD (parseN fs m j).i (parseN fs m j).i.r.length).1, (parseN fs m j).us, (parseN fs m j).ss ++ [(rawD (parseN fs m j).i (parseN fs m j).i.r.length).2], (parseN fs m j).ns, (parseN fs m j).bs⟩ := by show getP _ _ = _; rw [h6]; rfl
      rw [e9]
      refine ⟨?_, ?_, ?_, ?_, Nat.le_trans (rawD_len_le _ _).2 ir, get_snoc (p := fun z : List UInt8 => z.length ≤ m.i.r.length) il (Nat.le_trans (rawD_len_le _ _).1 ir), io, ik, fun he => hold _ (rawD_e he).1 (fun h => absurd (h6.symm.trans h) (by decide)) (by rw [h6]; rfl)⟩
      · rw [cn_no h6 rfl]; exact iu
      · rw [cn_yes h6 rfl, ← is]; simp
      · rw [cn_no h6 rfl]; exact iN
      · rw [cn_no h6 rfl]; exact ib
end Go.Proofs.YtgnicenhnchglaaDoor
