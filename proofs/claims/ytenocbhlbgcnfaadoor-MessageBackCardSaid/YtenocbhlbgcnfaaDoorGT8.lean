/-
  Texts of this claim.
-/
import Derived.Test.YtenocbhlbgcnfaaDoorGT6
import Derived.Test.YtenocbhlbgcnfaaDoorGT7
import Derived.Test.YtenocbhlbgcnfaaDoorGTP
import Derived.Test.YtenocbhlbgcnfaaDoorGTW
import Derived.Test.YtenocbhlbgcnfaaDoorGTO
namespace Go.Proofs.YtenocbhlbgcnfaaDoor
open Go.RowKit
theorem drop_step {α : Type} (l : List α) (n : Nat) : (l.drop n).drop 1 = l.drop (n + 1) := by rw [List.drop_drop]
theorem encN_lists (k : Int) (e : EP) : ∀ j, j ≤ (fieldsOf k).length → (encN (fieldsOf k) e j).us = e.us.drop (cn pU (fieldsOf k) j) ∧ (encN (fieldsOf k) e j).ss = e.ss.drop (cn pS (fieldsOf k) j) ∧ (encN (fieldsOf k) e j).ns = e.ns.drop (cn pN (fieldsOf k) j) ∧ (encN (fieldsOf k) e j).bs = e.bs.drop (cn pB (fieldsOf k) j)
  | 0, _ => ⟨rfl, rfl, rfl, rfl⟩
  | j + 1, hj => by
    obtain ⟨h1, h2, h3, h4⟩ := encN_lists k e j (by omega)
    refine six_of (fields_six k j (by omega)) ?_ ?_ ?_ ?_ ?_ ?_ <;> intro h6 <;> show (putP _ _).us = _ ∧ (putP _ _).ss = _ ∧ (putP _ _).ns = _ ∧ (putP _ _).bs = _
    · rw [h6, cn_yes (p := pU) h6 rfl, cn_no (p := pS) h6 rfl, cn_no (p := pN) h6 rfl, cn_no (p := pB) h6 rfl]
      exact ⟨(congrArg (List.drop 1) h1).trans (drop_step _ _), h2, h3, h4⟩
    · rw [h6, cn_no (p := pU) h6 rfl, cn_no (p := pS) h6 rfl, cn_no (p := pN) h6 rfl, cn_yes (p := pB) h6 rfl]
      exact ⟨h1, h2, h3, (congrArg (List.drop 1) h4).trans (drop_step _ _)⟩
    · rw [h6, cn_no (p := pU) h6 rfl, cn_no (p := pS) h6 rfl, cn_yes (p := pN) h6 rfl, cn_no (p := pB) h6 rfl]
      exact ⟨h1, h2, (congrArg (List.drop 1) h3).trans (drop_step _ _), h4⟩
    · rw [h6, cn_no (p := pU) h6 rfl, cn_yes (p := pS) h6 rfl, cn_no (p := pN) h6 rfl, cn_no (p := pB) h6 rfl]
      exact ⟨h1, (congrArg (List.drop 1) h2).trans (drop_step _ _), h3, h4⟩
    · rw [h6, cn_no (p := pU) h6 rfl, cn_yes (p := pS) h6 rfl, cn_no (p := pN) h6 rfl, cn_no (p := pB) h6 rfl]
      exact ⟨h1, (congrArg (List.drop 1) h2).trans (drop_step _ _), h3, h4⟩
    · rw [h6, cn_no (p := pU) h6 rfl, cn_yes (p := pS) h6 rfl, cn_no (p := pN) h6 rfl, cn_no (p := pB) h6 rfl]
      exact ⟨h1, (congrArg (List.drop 1) h2).trans (drop_step _ _), h3, h4⟩
theorem getD_dropN {α : Type} (l : List α) (d : α) (n : Nat) : (l.drop n).getD 0 d = l.getD n d := by
  rw [List.getD_eq_getElem?_getD, List.getD_eq_getElem?_getD, List.getElem?_drop, Nat.add_zero]
theorem enc_u (k : Int) (us : List UInt32) (ss : List (List UInt8)) (ns : List (List (List UInt8))) (bs : List Bool) {j : Nat} (hj : j < (fieldsOf k).length) (h6 : (fieldsOf k).getD j 0 = 117) : (encN (fieldsOf k) (EP.mk us ss ns bs [(ofI8 k)]) (j + 1)).w = (encN (fieldsOf k) (EP.mk us ss ns bs [(ofI8 k)]) j).w ++ numB (us.getD (cn pU (fieldsOf k) j) 0).toUInt64 4 4 := by
  show (putP _ _).w = _
  have h := congrArg (fun l => l.getD 0 0) (encN_lists k (EP.mk us ss ns bs [(ofI8 k)]) j (by omega)).1
  have h1 : (encN (fieldsOf k) (EP.mk us ss ns bs [(ofI8 k)]) j).us.getD 0 0 = (us.getD (cn pU (fieldsOf k) j) 0) := h.trans (getD_dropN _ _ _)
  rw [h6]
  show _ ++ numB _ 4 4 = _; rw [h1]
theorem enc_b (k : Int) (us : List UInt32) (ss : List (List UInt8)) (ns : List (List (List UInt8))) (bs : List Bool) {j : Nat} (hj : j < (fieldsOf k).length) (h6 : (fieldsOf k).getD j 0 = 98) : (encN (fieldsOf k) (EP.mk us ss ns bs [(ofI8 k)]) (j + 1)).w = (encN (fieldsOf k) (EP.mk us ss ns bs [(ofI8 k)]) j).w ++ boolB (bs.getD (cn pB (fieldsOf k) j) false) := by
  show (putP _ _).w = _
  have h := congrArg (fun l => l.getD 0 false) (encN_lists k (EP.mk us ss ns bs [(ofI8 k)]) j (by omega)).2.2.2
  have h1 : (encN (fieldsOf k) (EP.mk us ss ns bs [(ofI8 k)]) j).bs.getD 0 false = (bs.getD (cn pB (fieldsOf k) j) false) := h.trans (getD_dropN _ _ _)
  rw [h6]
  show _ ++ boolB _ = _; rw [h1]
theorem enc_n (k : Int) (us : List UInt32) (ss : List (List UInt8)) (ns : List (List (List UInt8))) (bs : List Bool) {j : Nat} (hj : j < (fieldsOf k).length) (h6 : (fieldsOf k).getD j 0 = 110) : (encN (fieldsOf k) (EP.mk us ss ns bs [(ofI8 k)]) (j + 1)).w = (encN (fieldsOf k) (EP.mk us ss ns bs [(ofI8 k)]) j).w ++ namesB (ns.getD (cn pN (fieldsOf k) j) []) := by
  show (putP _ _).w = _
  have h := congrArg (fun l => l.getD 0 []) (encN_lists k (EP.mk us ss ns bs [(ofI8 k)]) j (by omega)).2.2.1
  have h1 : (encN (fieldsOf k) (EP.mk us ss ns bs [(ofI8 k)]) j).ns.getD 0 [] = (ns.getD (cn pN (fieldsOf k) j) []) := h.trans (getD_dropN _ _ _)
  rw [h6]
  show _ ++ namesB _ = _; rw [h1]
theorem enc_s (k : Int) (us : List UInt32) (ss : List (List UInt8)) (ns : List (List (List UInt8))) (bs : List Bool) {j : Nat} (hj : j < (fieldsOf k).length) (h6 : (fieldsOf k).getD j 0 = 115) : (encN (fieldsOf k) (EP.mk us ss ns bs [(ofI8 k)]) (j + 1)).w = (encN (fieldsOf k) (EP.mk us ss ns bs [(ofI8 k)]) j).w ++ textB (ss.getD (cn pS (fieldsOf k) j) []) := by
  show (putP _ _).w = _
  have h := congrArg (fun l => l.getD 0 []) (encN_lists k (EP.mk us ss ns bs [(ofI8 k)]) j (by omega)).2.1
  have h1 : (encN (fieldsOf k) (EP.mk us ss ns bs [(ofI8 k)]) j).ss.getD 0 [] = (ss.getD (cn pS (fieldsOf k) j) []) := h.trans (getD_dropN _ _ _)
  rw [h6]
  show (_ ++ lenB _) ++ _ = _; rw [h1, List.append_assoc]; rfl
theorem enc_c (k : Int) (us : List UInt32) (ss : List (List UInt8)) (ns : List (List (List UInt8))) (bs : List Bool) {j : Nat} (hj : j < (fieldsOf k).length) (h6 : (fieldsOf k).getD j 0 = 99) : (encN (fieldsOf k) (EP.mk us ss ns bs [(ofI8 k)]) (j + 1)).w = (encN (fieldsOf k) (EP.mk us ss ns bs [(ofI8 k)]) j).w ++ (ss.getD (cn pS (fieldsOf k) j) []) := by
  show (putP _ _).w = _
  have h := congrArg (fun l => l.getD 0 []) (encN_lists k (EP.mk us ss ns bs [(ofI8 k)]) j (by omega)).2.1
  have h1 : (encN (fieldsOf k) (EP.mk us ss ns bs [(ofI8 k)]) j).ss.getD 0 [] = (ss.getD (cn pS (fieldsOf k) j) []) := h.trans (getD_dropN _ _ _)
  rw [h6]
  show _ ++ _ = _; rw [h1]
theorem enc_r (k : Int) (us : List UInt32) (ss : List (List UInt8)) (ns : List (List (List UInt8))) (bs : List Bool) {j : Nat} (hj : j < (fieldsOf k).length) (h6 : (fieldsOf k).getD j 0 = 114) : (encN (fieldsOf k) (EP.mk us ss ns bs [(ofI8 k)]) (j + 1)).w = (encN (fieldsOf k) (EP.mk us ss ns bs [(ofI8 k)]) j).w ++ (ss.getD (cn pS (fieldsOf k) j) []) := by
  show (putP _ _).w = _
  have h := congrArg (fun l => l.getD 0 []) (encN_lists k (EP.mk us ss ns bs [(ofI8 k)]) j (by omega)).2.1
  have h1 : (encN (fieldsOf k) (EP.mk us ss ns bs [(ofI8 k)]) j).ss.getD 0 [] = (ss.getD (cn pS (fieldsOf k) j) []) := h.trans (getD_dropN _ _ _)
  rw [h6]
  show _ ++ _ = _; rw [h1]
set_option maxRecDepth 100000 in
theorem rbytes_no (k : Int) (us : List UInt32) (ss : List (List UInt8)) (ns : List (List (List UInt8))) (bs : List Bool) (hss : ∀ i, (ss.getD i []).length ≤ 32768) (hnj : ∀ i, (joinB (ns.getD i [])).length ≤ 4096) (hnl : ns.length ≤ 1000) (hnn : ∀ i, (ns.getD i []).length ≤ 1000) (hnl2 : ∀ i j, ((ns.getD i []).getD j []).length ≤ 1000) (hul : us.length ≤ 1000) (hsl : ss.length ≤ 1000) (hbl : bs.length ≤ 1000) (hk : chkF k us ss ns bs ≠ 0) : Meets Tryd.prog 10 [.agg [.i64 k, .fsl (List.map AV.u32 us) (us).length 1, .dsl ss, .fsl (List.map AV.dsl ns) (ns).length 1, .fsl (List.map AV.bool bs) (bs).length 1]] [] (.str []) [] := by
 refine meets_of_ev (nt := 98) Tryd.func10 rfl rfl (Nat.le_of_ble_eq_true rfl) ?_
 refine .seq ?_
 refine .region ?_
 refine .a (op_boxRow rfl rfl) trivial rfl ?_
 refine .q (op_assign rfl) trivial rfl ?_
 refine .nil ?_
 show Ev _ _ _ _ _
 refine .seq ?_
 refine .seq ?_
 refine .region ?_
 refine .q (op_loadRow Tryd.underlying27 rfl (by kernel_rfl) rfl rfl rfl (rfl)) trivial rfl ?_
 refine .q (op_call (U := []) [] [] (rcheck_any k us ss ns bs hss hnj hnl hnn hnl2 hul hsl hbl) Tryd.func8 (by kernel_rfl) rfl rfl rfl (⟨⟨_, rfl, rfl, rfl⟩, trivial⟩) (trivial) (trivial) (trivial) rfl) trivial rfl ?_
 refine .q (op_cmpI rfl rfl rfl) trivial rfl ?_
 refine .nil ?_
 show Ev _ _ _ _ _
 refine .cond_true rfl (bne_iff_ne.2 (by omega)) ?_
 refine .seq ?_
 refine .region ?_
 refine .q (op_assign rfl) trivial rfl ?_
 refine .nil ?_
 show Ev _ _ _ _ _
 refine .ret ?_
 show RetOk _ _ _ _ _ _ _
 exact ret1v rfl (.inl rfl) rfl rfl trivial
set_option maxRecDepth 100000 in
theorem rbytes_ok (k : Int) (us : List UInt32) (ss : List (List UInt8)) (ns : List (List (List UInt8))) (bs : List Bool) (hnU : us.length = cn pU (fieldsOf k) (fieldsOf k).length) (hnS : ss.length = cn pS (fieldsOf k) (fieldsOf k).length) (hnN : ns.length = cn pN (fieldsOf k) (fieldsOf k).length) (hnB : bs.length = cn pB (fieldsOf k) (fieldsOf k).length) (hss : ∀ i, (ss.getD i []).length ≤ 32768) (hnj : ∀ i, (joinB (ns.getD i [])).length ≤ 4096) (hnl : ns.length ≤ 1000) (hnn : ∀ i, (ns.getD i []).length ≤ 1000) (hnl2 : ∀ i j, ((ns.getD i []).getD j []).length ≤ 1000) (hul : us.length ≤ 1000) (hsl : ss.length ≤ 1000) (hbl : bs.length ≤ 1000) (hk : chkF k us ss ns bs = 0) : Meets Tryd.prog 10 [.agg [.i64 k, .fsl (List.map AV.u32 us) (us).length 1, .dsl ss, .fsl (List.map AV.dsl ns) (ns).length 1, .fsl (List.map AV.bool bs) (bs).length 1]] [] (.str (encN (fieldsOf k) (EP.mk us ss ns bs [(ofI8 k)]) (fieldsOf k).length).w) [] := by
 refine meets_of_ev (nt := 98) Tryd.func10 rfl rfl (Nat.le_of_ble_eq_true rfl) ?_
 refine .seq ?_
 refine .region ?_
 refine .a (op_boxRow rfl rfl) trivial rfl ?_
 refine .q (op_assign rfl) trivial rfl ?_
 refine .nil ?_
 show Ev _ _ _ _ _
 refine .seq ?_
 refine .seq ?_
 refine .region ?_
 refine .q (op_loadRow Tryd.underlying27 rfl (by kernel_rfl) rfl rfl rfl (rfl)) trivial rfl ?_
 refine .q (op_call (U := []) [] [] (rcheck_any k us ss ns bs hss hnj hnl hnn hnl2 hul hsl hbl) Tryd.func8 (by kernel_rfl) rfl rfl rfl (⟨⟨_, rfl, rfl, rfl⟩, trivial⟩) (trivial) (trivial) (trivial) rfl) trivial rfl ?_
 refine .q (op_cmpI rfl rfl rfl) trivial rfl ?_
 refine .nil ?_
 show Ev _ _ _ _ _
 refine .cond_false rfl (by rw [hk]; rfl) ?_
 refine .skip ?_
 show Ev _ _ _ _ _
 refine .seq ?_
 refine .region ?_
 refine .q (op_fieldAddr (m := 0) Tryd.underlying27 rfl (by kernel_rfl) rfl) trivial rfl ?_
 refine .as (.ptr 1000 0) rfl ?_
 refine .q (op_load Tryd.underlying3 rfl rfl rfl rfl (by show 0 < 5; decide)) trivial rfl ?_
 refine .q (op_call (U := []) [] [] (rfields_ev k) Tryd.func20 (by kernel_rfl) rfl rfl rfl (⟨⟨_, rfl, rfl, rfl⟩, trivial⟩) (trivial) (trivial) (trivial) rfl) trivial rfl ?_
 refine .q (op_move rfl) trivial rfl ?_
 refine .q (op_extract rfl rfl) trivial rfl ?_
 refine .q (op_extract rfl rfl) trivial rfl ?_
 refine .q (op_assign rfl) trivial rfl ?_
 refine .q (op_assign rfl) trivial rfl ?_
 refine .nil ?_
 show Ev _ _ _ _ _
 refine .seq ?_
 refine .region ?_
 refine .q (op_fieldAddr (m := 0) Tryd.underlying27 rfl (by kernel_rfl) rfl) trivial rfl ?_
 refine .as (.ptr 1000 0) rfl ?_
 refine .q (op_load Tryd.underlying3 rfl rfl rfl rfl (by show 0 < 5; decide)) trivial rfl ?_
 refine .q (op_conv Tryd.underlying3 Tryd.underlying5 rfl rfl) trivial rfl ?_
 refine .a (ap_build (us := [_]) (c := .aggB [_]) Tryd.underlying52 inf5 rfl (by decide) (by decide) ⟨rfl, rfl, rfl, trivial⟩ rfl) trivial rfl ?_
 refine .q (op_bytes_str Tryd.underlying52 Tryd.underlying5 Tryd.underlying9 rfl rfl rfl (by first | omega | (simp only [AV.len]; omega) | (simp only [AV.len, List.length_set]; omega) | assumption | (simp; done))) trivial rfl ?_
 refine .q (op_assign rfl) trivial rfl ?_
 refine .nil ?_
 show Ev _ _ _ _ _
 refine .seq ?_
 refine .region ?_
 refine .q (op_assign rfl) trivial rfl ?_
 refine .q (op_assign rfl) trivial rfl ?_
 refine .q (op_assign rfl) trivial rfl ?_
 refine .q (op_assign rfl) trivial rfl ?_
 refine .nil ?_
 show Ev _ _ _ _ _
 refine .seq ?_
 refine .seq ?_
 refine .region ?_
 refine .q (op_assign rfl) trivial rfl ?_
 refine .nil ?_
 show Ev _ _ _ _ _
 refine .block ?_
 refine Ev.loop (ι := { j : Nat // j ≤ (fieldsOf k).length ∧ ((encN (fieldsOf k) (EP.mk us ss ns bs [(ofI8 k)]) j).w).length ≤ 1 + j * 40000 }) (fun q => ⟨[(1, .ptr 1000 0), (3, .str (fieldsOf k)), (5, .str (encN (fieldsOf k) (EP.mk us ss ns bs [(ofI8 k)]) q.1).w), (6, .i64 ((cn pU (fieldsOf k) q.1 : Nat) : Int)), (7, .i64 ((cn pS (fieldsOf k) q.1 : Nat) : Int)), (8, .i64 ((cn pN (fieldsOf k) q.1 : Nat) : Int)), (9, .i64 ((cn pB (fieldsOf k) q.1 : Nat) : Int)), (10, .i64 ((q.1 : Nat) : Int))], [(1000, some ⟨.agg [.i64 k, .fsl (List.map AV.u32 us) (us).length 1, .dsl ss, .fsl (List.map AV.dsl ns) (ns).length 1, .fsl (List.map AV.bool bs) (bs).length 1], 27, true⟩)], 1016⟩) (fun q => (fieldsOf k).length - q.1) ⟨0, Nat.zero_le _, Nat.le_refl 1⟩ (StLe.mk [(1000, 1000)] rfl rfl ⟨⟨_, rfl, by first | rfl | (simp only [AV.ren]; congr 1; omega), rfl⟩, ⟨_, rfl, by first | rfl | (simp only [AV.ren]; congr 1; omega), rfl⟩, ⟨_, rfl, by first | rfl | (simp only [AV.ren]; congr 1; omega), rfl⟩, ⟨_, rfl, by first | rfl | (simp only [AV.ren]; congr 1; omega), rfl⟩, ⟨_, rfl, by first | rfl | (simp only [AV.ren]; congr 1; omega), rfl⟩, ⟨_, rfl, by first | rfl | (simp only [AV.ren]; congr 1; omega), rfl⟩, ⟨_, rfl, by first | rfl | (simp only [AV.ren]; congr 1; omega), rfl⟩, ⟨_, rfl, by first | rfl | (simp only [AV.ren]; congr 1; omega), rfl⟩, trivial⟩ ⟨⟨_, _, rfl, rfl, rfl, rfl, id, rfl⟩, trivial⟩) ?_
 rintro ⟨j, hj, hwl⟩
 dsimp only
 have hj12 := fields_len k
 obtain ⟨w, hw⟩ : ∃ w, w = (encN (fieldsOf k) (EP.mk us ss ns bs [(ofI8 k)]) j).w := ⟨_, rfl⟩
 rw [← hw] at hwl ⊢
 have hcU := cn_le pU (fieldsOf k) j
 have hcS := cn_le pS (fieldsOf k) j
 have hcN := cn_le pN (fieldsOf k) j
 have hcB := cn_le pB (fieldsOf k) j
 refine .seq ?_
 refine .seq ?_
 refine .region ?_
 refine .q (op_move rfl) trivial rfl ?_
 refine .q (op_move rfl) trivial rfl ?_
 refine .q (op_len_str Tryd.underlying9 rfl) trivial rfl ?_
 refine .q (op_cmpI rfl rfl rfl) trivial rfl ?_
 refine .nil ?_
 show Ev _ _ _ _ _
 refine .cond rfl (fun hc28 => ?_) (fun hc28 => ?_)
 ·simp only [decide_eq_true_eq] at hc28
  refine .skip ?_
  show Ev _ _ _ _ _
  refine .seq ?_
  refine .block ?_
  refine .seq ?_
  refine .region ?_
  refine .q (op_move rfl) trivial rfl ?_
  refine .q (op_move rfl) trivial rfl ?_
  refine .q (op_index_str Tryd.underlying9 rfl rfl (show _ = ((j : Nat) : Int) from rfl) (by omega)) trivial rfl ?_
  refine .nil ?_
  show Ev _ _ _ _ _
  refine .block ?_
  refine .seq ?_
  refine .region ?_
  refine six_of (fields_six k j (by omega)) (fun h6 => ?_) (fun h6 => ?_) (fun h6 => ?_) (fun h6 => ?_) (fun h6 => ?_) (fun h6 => ?_)
  ·refine .as (.u8 117) (congrArg AV.u8 h6) ?_
   have hlt : cn pU (fieldsOf k) j < us.length := by rw [hnU]; exact cn_lt (by omega) (by rw [h6]; rfl)
   refine .q (op_bin8 rfl rfl rfl) trivial rfl ?_
   refine .q (op_assign rfl) trivial rfl ?_
   refine .nil ?_
   show Ev _ _ _ _ _
   refine .cond_true rfl (rfl) ?_
   refine .seq ?_
   refine .region ?_
   refine .q (op_move rfl) trivial rfl ?_
   refine .q (op_fieldAddr (m := 0) Tryd.underlying27 rfl (by kernel_rfl) rfl) trivial rfl ?_
   refine .as (.ptr 1000 1) rfl ?_
   refine .q (op_load Tryd.underlying22 rfl rfl rfl rfl (by show 1 < 5; decide)) trivial rfl ?_
   refine .q (op_move rfl) trivial rfl ?_
   refine .q (op_indexAddr_fsl (z := 1) Tryd.underlying22 inf42.sz (by decide) rfl rfl (i := cn pU (fieldsOf k) j) rfl (hlt)) trivial rfl ?_
   refine .q (op_load_fptr Tryd.underlying42 rfl rfl (get_u32 hlt)) trivial rfl ?_
   refine .q (op_conv Tryd.underlying42 Tryd.underlying62 rfl rfl) trivial rfl ?_
   refine .q (op_call (U := []) [] [] (rnumB_ev ((us.getD (cn pU (fieldsOf k) j) 0).toUInt64) 4 (by decide)) Tryd.func26 (by kernel_rfl) rfl rfl rfl (⟨⟨_, rfl, rfl, rfl⟩, ⟨_, rfl, rfl, rfl⟩, trivial⟩) (trivial) (trivial) (trivial) rfl) trivial rfl ?_
   refine .q (op_addS rfl rfl (by rw [length_tlB]; omega)) trivial rfl ?_
   refine .q (op_assign rfl) trivial rfl ?_
   refine .nil ?_
   show Ev _ _ _ _ _
   refine .region ?_
   refine .q (op_move rfl) trivial rfl ?_
   refine .q (op_addI rfl rfl ⟨by omega, by omega⟩) trivial rfl ?_
   refine .q (op_assign rfl) trivial rfl ?_
   refine .nil ?_
   show Ev _ _ _ _ _
   refine .region ?_
   refine .q (op_move rfl) trivial rfl ?_
   refine .q (op_addI rfl rfl ⟨by omega, by omega⟩) trivial rfl ?_
   refine .q (op_assign rfl) trivial rfl ?_
   refine .nil ?_
   have eU := cn_yes (p := pU) (fs := (fieldsOf k)) (j := j) h6 rfl
   have eS := cn_no (p := pS) (fs := (fieldsOf k)) (j := j) h6 rfl
   have eN := cn_no (p := pN) (fs := (fieldsOf k)) (j := j) h6 rfl
   have eB := cn_no (p := pB) (fs := (fieldsOf k)) (j := j) h6 rfl
   have ew := enc_u k us ss ns bs (by omega) h6
   have el : ((encN (fieldsOf k) (EP.mk us ss ns bs [(ofI8 k)]) (j + 1)).w).length ≤ 1 + (j + 1) * 40000 := by rw [ew, ← hw, List.length_append, length_numB]; omega
   refine ⟨⟨j + 1, by omega, el⟩, by (try dsimp only); omega, ?_⟩
   dsimp only
   rw [eU, eS, eN, eB]
   exact StLe.mk [(1000, 1000)] rfl rfl ⟨⟨_, rfl, by first | rfl | (simp only [AV.ren]; congr 1; omega), rfl⟩, ⟨_, rfl, by first | rfl | (simp only [AV.ren]; congr 1; omega), rfl⟩, ⟨_, rfl, by simp only [AV.ren]; first | (rw [ew, ← hw]; done) | (rw [ew, ← hw]; exact congrArg (fun z => AV.str (w ++ z)) (tl_num4 (by rw [UInt32.toNat_toUInt64]; have := UInt32.toNat_lt (us.getD (cn pU (fieldsOf k) j) 0); omega))), rfl⟩, ⟨_, rfl, by first | rfl | (simp only [AV.ren]; congr 1; omega), rfl⟩, ⟨_, rfl, by first | rfl | (simp only [AV.ren]; congr 1; omega), rfl⟩, ⟨_, rfl, by first | rfl | (simp only [AV.ren]; congr 1; omega), rfl⟩, ⟨_, rfl, by first | rfl | (simp only [AV.ren]; congr 1; omega), rfl⟩, ⟨_, rfl, by first | rfl | (simp only [AV.ren]; congr 1; omega), rfl⟩, trivial⟩ ⟨⟨_, _, rfl, rfl, rfl, rfl, id, rfl⟩, trivial⟩
  ·refine .as (.u8 98) (congrArg AV.u8 h6) ?_
   have hlt : cn pB (fieldsOf k) j < bs.length := by rw [hnB]; exact cn_lt (by omega) (by rw [h6]; rfl)
   refine .q (op_bin8 rfl rfl rfl) trivial rfl ?_
   refine .q (op_assign rfl) trivial rfl ?_
   refine .nil ?_
   show Ev _ _ _ _ _
   refine .cond_false rfl (rfl) ?_
   refine .seq ?_
   refine .region ?_
   refine .q (op_bin8 rfl rfl rfl) trivial rfl ?_
   refine .q (op_assign rfl) trivial rfl ?_
   refine .nil ?_
   show Ev _ _ _ _ _
   refine .cond_false rfl (rfl) ?_
   refine .seq ?_
   refine .region ?_
   refine .q (op_bin8 rfl rfl rfl) trivial rfl ?_
   refine .q (op_assign rfl) trivial rfl ?_
   refine .nil ?_
   show Ev _ _ _ _ _
   refine .cond_true rfl (rfl) ?_
   refine .seq ?_
   refine .seq ?_
   refine .region ?_
   refine .q (op_fieldAddr (m := 0) Tryd.underlying27 rfl (by kernel_rfl) rfl) trivial rfl ?_
   refine .as (.ptr 1000 4) rfl ?_
   refine .q (op_load Tryd.underlying25 rfl rfl rfl rfl (by show 4 < 5; decide)) trivial rfl ?_
   refine .q (op_move rfl) trivial rfl ?_
   refine .q (op_indexAddr_fsl (z := 1) Tryd.underlying25 inf4.sz (by decide) rfl rfl (i := cn pB (fieldsOf k) j) rfl (hlt)) trivial rfl ?_
   refine .q (op_load_fptr Tryd.underlying4 rfl rfl (get_bool hlt)) trivial rfl ?_
   refine .nil ?_
   show Ev _ _ _ _ _
   refine .cond rfl (fun hc74 => ?_) (fun hc74 => ?_)
   ·skip
    refine .region ?_
    refine .q (op_move rfl) trivial rfl ?_
    refine .a (ap_build (us := [_]) (c := .aggB [_]) Tryd.underlying52 inf5 rfl (by decide) (by decide) ⟨rfl, rfl, rfl, trivial⟩ rfl) trivial rfl ?_
    refine .q (op_bytes_str Tryd.underlying52 Tryd.underlying5 Tryd.underlying9 rfl rfl rfl (by first | omega | (skip; omega) | (skip; omega) | assumption | (simp; done))) trivial rfl ?_
    refine .q (op_addS rfl rfl (by show w.length + 1 ≤ _; omega)) trivial rfl ?_
    refine .q (op_assign rfl) trivial rfl ?_
    refine .nil ?_
    show Ev _ _ _ _ _
    refine .region ?_
    refine .q (op_move rfl) trivial rfl ?_
    refine .q (op_addI rfl rfl ⟨by omega, by omega⟩) trivial rfl ?_
    refine .q (op_assign rfl) trivial rfl ?_
    refine .nil ?_
    show Ev _ _ _ _ _
    refine .region ?_
    refine .q (op_move rfl) trivial rfl ?_
    refine .q (op_addI rfl rfl ⟨by omega, by omega⟩) trivial rfl ?_
    refine .q (op_assign rfl) trivial rfl ?_
    refine .nil ?_
    have eU := cn_no (p := pU) (fs := (fieldsOf k)) (j := j) h6 rfl
    have eS := cn_no (p := pS) (fs := (fieldsOf k)) (j := j) h6 rfl
    have eN := cn_no (p := pN) (fs := (fieldsOf k)) (j := j) h6 rfl
    have eB := cn_yes (p := pB) (fs := (fieldsOf k)) (j := j) h6 rfl
    have ew := enc_b k us ss ns bs (by omega) h6
    have el : ((encN (fieldsOf k) (EP.mk us ss ns bs [(ofI8 k)]) (j + 1)).w).length ≤ 1 + (j + 1) * 40000 := by rw [ew, ← hw, List.length_append, length_boolB]; omega
    refine ⟨⟨j + 1, by omega, el⟩, by (try dsimp only); omega, ?_⟩
    dsimp only
    rw [eU, eS, eN, eB]
    exact StLe.mk [(1000, 1000)] rfl rfl ⟨⟨_, rfl, by first | rfl | (simp only [AV.ren]; congr 1; omega), rfl⟩, ⟨_, rfl, by first | rfl | (simp only [AV.ren]; congr 1; omega), rfl⟩, ⟨_, rfl, by simp only [AV.ren]; first | (rw [ew, ← hw]; done) | (rw [ew, ← hw]; exact congrArg (fun z => AV.str (w ++ z)) (by rw [hc74]; rfl)), rfl⟩, ⟨_, rfl, by first | rfl | (simp only [AV.ren]; congr 1; omega), rfl⟩, ⟨_, rfl, by first | rfl | (simp only [AV.ren]; congr 1; omega), rfl⟩, ⟨_, rfl, by first | rfl | (simp only [AV.ren]; congr 1; omega), rfl⟩, ⟨_, rfl, by first | rfl | (simp only [AV.ren]; congr 1; omega), rfl⟩, ⟨_, rfl, by first | rfl | (simp only [AV.ren]; congr 1; omega), rfl⟩, trivial⟩ ⟨⟨_, _, rfl, rfl, rfl, rfl, id, rfl⟩, trivial⟩
   ·skip
    refine .region ?_
    refine .q (op_move rfl) trivial rfl ?_
    refine .a (ap_build (us := [_]) (c := .aggB [_]) Tryd.underlying52 inf5 rfl (by decide) (by decide) ⟨rfl, rfl, rfl, trivial⟩ rfl) trivial rfl ?_
    refine .q (op_bytes_str Tryd.underlying52 Tryd.underlying5 Tryd.underlying9 rfl rfl rfl (by first | omega | (skip; omega) | (skip; omega) | assumption | (simp; done))) trivial rfl ?_
    refine .q (op_addS rfl rfl (by show w.length + 1 ≤ _; omega)) trivial rfl ?_
    refine .q (op_assign rfl) trivial rfl ?_
    refine .nil ?_
    show Ev _ _ _ _ _
    refine .region ?_
    refine .q (op_move rfl) trivial rfl ?_
    refine .q (op_addI rfl rfl ⟨by omega, by omega⟩) trivial rfl ?_
    refine .q (op_assign rfl) trivial rfl ?_
    refine .nil ?_
    show Ev _ _ _ _ _
    refine .region ?_
    refine .q (op_move rfl) trivial rfl ?_
    refine .q (op_addI rfl rfl ⟨by omega, by omega⟩) trivial rfl ?_
    refine .q (op_assign rfl) trivial rfl ?_
    refine .nil ?_
    have eU := cn_no (p := pU) (fs := (fieldsOf k)) (j := j) h6 rfl
    have eS := cn_no (p := pS) (fs := (fieldsOf k)) (j := j) h6 rfl
    have eN := cn_no (p := pN) (fs := (fieldsOf k)) (j := j) h6 rfl
    have eB := cn_yes (p := pB) (fs := (fieldsOf k)) (j := j) h6 rfl
    have ew := enc_b k us ss ns bs (by omega) h6
    have el : ((encN (fieldsOf k) (EP.mk us ss ns bs [(ofI8 k)]) (j + 1)).w).length ≤ 1 + (j + 1) * 40000 := by rw [ew, ← hw, List.length_append, length_boolB]; omega
    refine ⟨⟨j + 1, by omega, el⟩, by (try dsimp only); omega, ?_⟩
    dsimp only
    rw [eU, eS, eN, eB]
    exact StLe.mk [(1000, 1000)] rfl rfl ⟨⟨_, rfl, by first | rfl | (simp only [AV.ren]; congr 1; omega), rfl⟩, ⟨_, rfl, by first | rfl | (simp only [AV.ren]; congr 1; omega), rfl⟩, ⟨_, rfl, by simp only [AV.ren]; first | (rw [ew, ← hw]; done) | (rw [ew, ← hw]; exact congrArg (fun z => AV.str (w ++ z)) (by rw [hc74]; rfl)), rfl⟩, ⟨_, rfl, by first | rfl | (simp only [AV.ren]; congr 1; omega), rfl⟩, ⟨_, rfl, by first | rfl | (simp only [AV.ren]; congr 1; omega), rfl⟩, ⟨_, rfl, by first | rfl | (simp only [AV.ren]; congr 1; omega), rfl⟩, ⟨_, rfl, by first | rfl | (simp only [AV.ren]; congr 1; omega), rfl⟩, ⟨_, rfl, by first | rfl | (simp only [AV.ren]; congr 1; omega), rfl⟩, trivial⟩ ⟨⟨_, _, rfl, rfl, rfl, rfl, id, rfl⟩, trivial⟩
  ·refine .as (.u8 110) (congrArg AV.u8 h6) ?_
   have hlt : cn pN (fieldsOf k) j < ns.length := by rw [hnN]; exact cn_lt (by omega) (by rw [h6]; rfl)
   refine .q (op_bin8 rfl rfl rfl) trivial rfl ?_
   refine .q (op_assign rfl) trivial rfl ?_
   refine .nil ?_
   show Ev _ _ _ _ _
   refine .cond_false rfl (rfl) ?_
   refine .seq ?_
   refine .region ?_
   refine .q (op_bin8 rfl rfl rfl) trivial rfl ?_
   refine .q (op_assign rfl) trivial rfl ?_
   refine .nil ?_
   show Ev _ _ _ _ _
   refine .cond_true rfl (rfl) ?_
   refine .seq ?_
   refine .region ?_
   refine .q (op_move rfl) trivial rfl ?_
   refine .q (op_fieldAddr (m := 0) Tryd.underlying27 rfl (by kernel_rfl) rfl) trivial rfl ?_
   refine .as (.ptr 1000 3) rfl ?_
   refine .q (op_load Tryd.underlying24 rfl rfl rfl rfl (by show 3 < 5; decide)) trivial rfl ?_
   refine .q (op_move rfl) trivial rfl ?_
   refine .q (op_indexAddr_fsl (z := 1) Tryd.underlying24 inf23.sz (by decide) rfl rfl (i := cn pN (fieldsOf k) j) rfl (hlt)) trivial rfl ?_
   refine .q (op_load_fptr Tryd.underlying23 rfl rfl (get_names hlt)) trivial rfl ?_
   refine .q (op_call (U := []) [] [] (rnamesB_ev (ns.getD (cn pN (fieldsOf k) j) []) (by have := (join_bounds (hnj (cn pN (fieldsOf k) j))).1; omega) (by have := (join_bounds (hnj (cn pN (fieldsOf k) j))).2; omega)) Tryd.func22 (by kernel_rfl) rfl rfl rfl (⟨⟨_, rfl, rfl, rfl⟩, trivial⟩) (trivial) (trivial) (trivial) rfl) trivial rfl ?_
   refine .q (op_addS rfl rfl (by have := hnj (cn pN (fieldsOf k) j); rw [length_namesB]; omega)) trivial rfl ?_
   refine .q (op_assign rfl) trivial rfl ?_
   refine .nil ?_
   show Ev _ _ _ _ _
   refine .region ?_
   refine .q (op_move rfl) trivial rfl ?_
   refine .q (op_addI rfl rfl ⟨by omega, by omega⟩) trivial rfl ?_
   refine .q (op_assign rfl) trivial rfl ?_
   refine .nil ?_
   show Ev _ _ _ _ _
   refine .region ?_
   refine .q (op_move rfl) trivial rfl ?_
   refine .q (op_addI rfl rfl ⟨by omega, by omega⟩) trivial rfl ?_
   refine .q (op_assign rfl) trivial rfl ?_
   refine .nil ?_
   have eU := cn_no (p := pU) (fs := (fieldsOf k)) (j := j) h6 rfl
   have eS := cn_no (p := pS) (fs := (fieldsOf k)) (j := j) h6 rfl
   have eN := cn_yes (p := pN) (fs := (fieldsOf k)) (j := j) h6 rfl
   have eB := cn_no (p := pB) (fs := (fieldsOf k)) (j := j) h6 rfl
   have ew := enc_n k us ss ns bs (by omega) h6
   have el : ((encN (fieldsOf k) (EP.mk us ss ns bs [(ofI8 k)]) (j + 1)).w).length ≤ 1 + (j + 1) * 40000 := by rw [ew, ← hw, List.length_append, length_namesB]; have := hnj (cn pN (fieldsOf k) j); omega
   refine ⟨⟨j + 1, by omega, el⟩, by (try dsimp only); omega, ?_⟩
   dsimp only
   rw [eU, eS, eN, eB]
   exact StLe.mk [(1000, 1000)] rfl rfl ⟨⟨_, rfl, by first | rfl | (simp only [AV.ren]; congr 1; omega), rfl⟩, ⟨_, rfl, by first | rfl | (simp only [AV.ren]; congr 1; omega), rfl⟩, ⟨_, rfl, by simp only [AV.ren]; first | (rw [ew, ← hw]; done) | (rw [ew, ← hw]; exact congrArg (fun z => AV.str (w ++ z)) rfl), rfl⟩, ⟨_, rfl, by first | rfl | (simp only [AV.ren]; congr 1; omega), rfl⟩, ⟨_, rfl, by first | rfl | (simp only [AV.ren]; congr 1; omega), rfl⟩, ⟨_, rfl, by first | rfl | (simp only [AV.ren]; congr 1; omega), rfl⟩, ⟨_, rfl, by first | rfl | (simp only [AV.ren]; congr 1; omega), rfl⟩, ⟨_, rfl, by first | rfl | (simp only [AV.ren]; congr 1; omega), rfl⟩, trivial⟩ ⟨⟨_, _, rfl, rfl, rfl, rfl, id, rfl⟩, trivial⟩
  ·refine .as (.u8 115) (congrArg AV.u8 h6) ?_
   have hlt : cn pS (fieldsOf k) j < ss.length := by rw [hnS]; exact cn_lt (by omega) (by rw [h6]; rfl)
   refine .q (op_bin8 rfl rfl rfl) trivial rfl ?_
   refine .q (op_assign rfl) trivial rfl ?_
   refine .nil ?_
   show Ev _ _ _ _ _
   refine .cond_false rfl (rfl) ?_
   refine .seq ?_
   refine .region ?_
   refine .q (op_bin8 rfl rfl rfl) trivial rfl ?_
   refine .q (op_assign rfl) trivial rfl ?_
   refine .nil ?_
   show Ev _ _ _ _ _
   refine .cond_false rfl (rfl) ?_
   refine .seq ?_
   refine .region ?_
   refine .q (op_bin8 rfl rfl rfl) trivial rfl ?_
   refine .q (op_assign rfl) trivial rfl ?_
   refine .nil ?_
   show Ev _ _ _ _ _
   refine .cond_false rfl (rfl) ?_
   refine .seq ?_
   refine .region ?_
   refine .q (op_bin8 rfl rfl rfl) trivial rfl ?_
   refine .q (op_assign rfl) trivial rfl ?_
   refine .nil ?_
   show Ev _ _ _ _ _
   refine .cond_true rfl (rfl) ?_
   refine .seq ?_
   refine .region ?_
   refine .q (op_move rfl) trivial rfl ?_
   refine .q (op_fieldAddr (m := 0) Tryd.underlying27 rfl (by kernel_rfl) rfl) trivial rfl ?_
   refine .as (.ptr 1000 2) rfl ?_
   refine .q (op_load Tryd.underlying23 rfl rfl rfl rfl (by show 2 < 5; decide)) trivial rfl ?_
   refine .q (op_move rfl) trivial rfl ?_
   refine .q (op_indexAddr_dsl Tryd.underlying23 inf9.sz rfl rfl (i := cn pS (fieldsOf k) j) rfl (hlt)) trivial rfl ?_
   refine .q (op_load_dptr Tryd.underlying9 rfl rfl (drop_get (by omega))) trivial rfl ?_
   refine .q (op_call (U := []) [] [] (rtextB_ev (ss.getD (cn pS (fieldsOf k) j) []) (Nat.le_trans (hss _) (by decide))) Tryd.func27 (by kernel_rfl) rfl rfl rfl (⟨⟨_, rfl, rfl, rfl⟩, trivial⟩) (trivial) (trivial) (trivial) rfl) trivial rfl ?_
   refine .q (op_addS rfl rfl (by have := hss (cn pS (fieldsOf k) j); rw [textR_eq (Nat.le_trans (hss _) (by decide)), length_textB]; omega)) trivial rfl ?_
   refine .q (op_assign rfl) trivial rfl ?_
   refine .nil ?_
   show Ev _ _ _ _ _
   refine .region ?_
   refine .q (op_move rfl) trivial rfl ?_
   refine .q (op_addI rfl rfl ⟨by omega, by omega⟩) trivial rfl ?_
   refine .q (op_assign rfl) trivial rfl ?_
   refine .nil ?_
   show Ev _ _ _ _ _
   refine .region ?_
   refine .q (op_move rfl) trivial rfl ?_
   refine .q (op_addI rfl rfl ⟨by omega, by omega⟩) trivial rfl ?_
   refine .q (op_assign rfl) trivial rfl ?_
   refine .nil ?_
   have eU := cn_no (p := pU) (fs := (fieldsOf k)) (j := j) h6 rfl
   have eS := cn_yes (p := pS) (fs := (fieldsOf k)) (j := j) h6 rfl
   have eN := cn_no (p := pN) (fs := (fieldsOf k)) (j := j) h6 rfl
   have eB := cn_no (p := pB) (fs := (fieldsOf k)) (j := j) h6 rfl
   have ew := enc_s k us ss ns bs (by omega) h6
   have el : ((encN (fieldsOf k) (EP.mk us ss ns bs [(ofI8 k)]) (j + 1)).w).length ≤ 1 + (j + 1) * 40000 := by rw [ew, ← hw, List.length_append, length_textB]; have := hss (cn pS (fieldsOf k) j); omega
   refine ⟨⟨j + 1, by omega, el⟩, by (try dsimp only); omega, ?_⟩
   dsimp only
   rw [eU, eS, eN, eB]
   exact StLe.mk [(1000, 1000)] rfl rfl ⟨⟨_, rfl, by first | rfl | (simp only [AV.ren]; congr 1; omega), rfl⟩, ⟨_, rfl, by first | rfl | (simp only [AV.ren]; congr 1; omega), rfl⟩, ⟨_, rfl, by simp only [AV.ren]; first | (rw [ew, ← hw]; done) | (rw [ew, ← hw]; exact congrArg (fun z => AV.str (w ++ z)) (textR_eq (Nat.le_trans (hss _) (by decide)))), rfl⟩, ⟨_, rfl, by first | rfl | (simp only [AV.ren]; congr 1; omega), rfl⟩, ⟨_, rfl, by first | rfl | (simp only [AV.ren]; congr 1; omega), rfl⟩, ⟨_, rfl, by first | rfl | (simp only [AV.ren]; congr 1; omega), rfl⟩, ⟨_, rfl, by first | rfl | (simp only [AV.ren]; congr 1; omega), rfl⟩, ⟨_, rfl, by first | rfl | (simp only [AV.ren]; congr 1; omega), rfl⟩, trivial⟩ ⟨⟨_, _, rfl, rfl, rfl, rfl, id, rfl⟩, trivial⟩
  ·refine .as (.u8 99) (congrArg AV.u8 h6) ?_
   have hlt : cn pS (fieldsOf k) j < ss.length := by rw [hnS]; exact cn_lt (by omega) (by rw [h6]; rfl)
   refine .q (op_bin8 rfl rfl rfl) trivial rfl ?_
   refine .q (op_assign rfl) trivial rfl ?_
   refine .nil ?_
   show Ev _ _ _ _ _
   refine .cond_false rfl (rfl) ?_
   refine .seq ?_
   refine .region ?_
   refine .q (op_bin8 rfl rfl rfl) trivial rfl ?_
   refine .q (op_assign rfl) trivial rfl ?_
   refine .nil ?_
   show Ev _ _ _ _ _
   refine .cond_false rfl (rfl) ?_
   refine .seq ?_
   refine .region ?_
   refine .q (op_bin8 rfl rfl rfl) trivial rfl ?_
   refine .q (op_assign rfl) trivial rfl ?_
   refine .nil ?_
   show Ev _ _ _ _ _
   refine .cond_false rfl (rfl) ?_
   refine .seq ?_
   refine .region ?_
   refine .q (op_bin8 rfl rfl rfl) trivial rfl ?_
   refine .q (op_assign rfl) trivial rfl ?_
   refine .nil ?_
   show Ev _ _ _ _ _
   refine .cond_false rfl (rfl) ?_
   refine .seq ?_
   refine .region ?_
   refine .q (op_move rfl) trivial rfl ?_
   refine .q (op_fieldAddr (m := 0) Tryd.underlying27 rfl (by kernel_rfl) rfl) trivial rfl ?_
   refine .as (.ptr 1000 2) rfl ?_
   refine .q (op_load Tryd.underlying23 rfl rfl rfl rfl (by show 2 < 5; decide)) trivial rfl ?_
   refine .q (op_move rfl) trivial rfl ?_
   refine .q (op_indexAddr_dsl Tryd.underlying23 inf9.sz rfl rfl (i := cn pS (fieldsOf k) j) rfl (hlt)) trivial rfl ?_
   refine .q (op_load_dptr Tryd.underlying9 rfl rfl (drop_get (by omega))) trivial rfl ?_
   refine .q (op_addS rfl rfl (by have := hss (cn pS (fieldsOf k) j); omega)) trivial rfl ?_
   refine .q (op_assign rfl) trivial rfl ?_
   refine .nil ?_
   show Ev _ _ _ _ _
   refine .region ?_
   refine .q (op_move rfl) trivial rfl ?_
   refine .q (op_addI rfl rfl ⟨by omega, by omega⟩) trivial rfl ?_
   refine .q (op_assign rfl) trivial rfl ?_
   refine .nil ?_
   show Ev _ _ _ _ _
   refine .region ?_
   refine .q (op_move rfl) trivial rfl ?_
   refine .q (op_addI rfl rfl ⟨by omega, by omega⟩) trivial rfl ?_
   refine .q (op_assign rfl) trivial rfl ?_
   refine .nil ?_
   have eU := cn_no (p := pU) (fs := (fieldsOf k)) (j := j) h6 rfl
   have eS := cn_yes (p := pS) (fs := (fieldsOf k)) (j := j) h6 rfl
   have eN := cn_no (p := pN) (fs := (fieldsOf k)) (j := j) h6 rfl
   have eB := cn_no (p := pB) (fs := (fieldsOf k)) (j := j) h6 rfl
   have ew := enc_c k us ss ns bs (by omega) h6
   have el : ((encN (fieldsOf k) (EP.mk us ss ns bs [(ofI8 k)]) (j + 1)).w).length ≤ 1 + (j + 1) * 40000 := by rw [ew, ← hw, List.length_append]; have := hss (cn pS (fieldsOf k) j); omega
   refine ⟨⟨j + 1, by omega, el⟩, by (try dsimp only); omega, ?_⟩
   dsimp only
   rw [eU, eS, eN, eB]
   exact StLe.mk [(1000, 1000)] rfl rfl ⟨⟨_, rfl, by first | rfl | (simp only [AV.ren]; congr 1; omega), rfl⟩, ⟨_, rfl, by first | rfl | (simp only [AV.ren]; congr 1; omega), rfl⟩, ⟨_, rfl, by simp only [AV.ren]; first | (rw [ew, ← hw]; done) | (rw [ew, ← hw]; exact congrArg (fun z => AV.str (w ++ z)) rfl), rfl⟩, ⟨_, rfl, by first | rfl | (simp only [AV.ren]; congr 1; omega), rfl⟩, ⟨_, rfl, by first | rfl | (simp only [AV.ren]; congr 1; omega), rfl⟩, ⟨_, rfl, by first | rfl | (simp only [AV.ren]; congr 1; omega), rfl⟩, ⟨_, rfl, by first | rfl | (simp only [AV.ren]; congr 1; omega), rfl⟩, ⟨_, rfl, by first | rfl | (simp only [AV.ren]; congr 1; omega), rfl⟩, trivial⟩ ⟨⟨_, _, rfl, rfl, rfl, rfl, id, rfl⟩, trivial⟩
  ·refine .as (.u8 114) (congrArg AV.u8 h6) ?_
   have hlt : cn pS (fieldsOf k) j < ss.length := by rw [hnS]; exact cn_lt (by omega) (by rw [h6]; rfl)
   refine .q (op_bin8 rfl rfl rfl) trivial rfl ?_
   refine .q (op_assign rfl) trivial rfl ?_
   refine .nil ?_
   show Ev _ _ _ _ _
   refine .cond_false rfl (rfl) ?_
   refine .seq ?_
   refine .region ?_
   refine .q (op_bin8 rfl rfl rfl) trivial rfl ?_
   refine .q (op_assign rfl) trivial rfl ?_
   refine .nil ?_
   show Ev _ _ _ _ _
   refine .cond_false rfl (rfl) ?_
   refine .seq ?_
   refine .region ?_
   refine .q (op_bin8 rfl rfl rfl) trivial rfl ?_
   refine .q (op_assign rfl) trivial rfl ?_
   refine .nil ?_
   show Ev _ _ _ _ _
   refine .cond_false rfl (rfl) ?_
   refine .seq ?_
   refine .region ?_
   refine .q (op_bin8 rfl rfl rfl) trivial rfl ?_
   refine .q (op_assign rfl) trivial rfl ?_
   refine .nil ?_
   show Ev _ _ _ _ _
   refine .cond_false rfl (rfl) ?_
   refine .seq ?_
   refine .region ?_
   refine .q (op_move rfl) trivial rfl ?_
   refine .q (op_fieldAddr (m := 0) Tryd.underlying27 rfl (by kernel_rfl) rfl) trivial rfl ?_
   refine .as (.ptr 1000 2) rfl ?_
   refine .q (op_load Tryd.underlying23 rfl rfl rfl rfl (by show 2 < 5; decide)) trivial rfl ?_
   refine .q (op_move rfl) trivial rfl ?_
   refine .q (op_indexAddr_dsl Tryd.underlying23 inf9.sz rfl rfl (i := cn pS (fieldsOf k) j) rfl (hlt)) trivial rfl ?_
   refine .q (op_load_dptr Tryd.underlying9 rfl rfl (drop_get (by omega))) trivial rfl ?_
   refine .q (op_addS rfl rfl (by have := hss (cn pS (fieldsOf k) j); omega)) trivial rfl ?_
   refine .q (op_assign rfl) trivial rfl ?_
   refine .nil ?_
   show Ev _ _ _ _ _
   refine .region ?_
   refine .q (op_move rfl) trivial rfl ?_
   refine .q (op_addI rfl rfl ⟨by omega, by omega⟩) trivial rfl ?_
   refine .q (op_assign rfl) trivial rfl ?_
   refine .nil ?_
   show Ev _ _ _ _ _
   refine .region ?_
   refine .q (op_move rfl) trivial rfl ?_
   refine .q (op_addI rfl rfl ⟨by omega, by omega⟩) trivial rfl ?_
   refine .q (op_assign rfl) trivial rfl ?_
   refine .nil ?_
   have eU := cn_no (p := pU) (fs := (fieldsOf k)) (j := j) h6 rfl
   have eS := cn_yes (p := pS) (fs := (fieldsOf k)) (j := j) h6 rfl
   have eN := cn_no (p := pN) (fs := (fieldsOf k)) (j := j) h6 rfl
   have eB := cn_no (p := pB) (fs := (fieldsOf k)) (j := j) h6 rfl
   have ew := enc_r k us ss ns bs (by omega) h6
   have el : ((encN (fieldsOf k) (EP.mk us ss ns bs [(ofI8 k)]) (j + 1)).w).length ≤ 1 + (j + 1) * 40000 := by rw [ew, ← hw, List.length_append]; have := hss (cn pS (fieldsOf k) j); omega
   refine ⟨⟨j + 1, by omega, el⟩, by (try dsimp only); omega, ?_⟩
   dsimp only
   rw [eU, eS, eN, eB]
   exact StLe.mk [(1000, 1000)] rfl rfl ⟨⟨_, rfl, by first | rfl | (simp only [AV.ren]; congr 1; omega), rfl⟩, ⟨_, rfl, by first | rfl | (simp only [AV.ren]; congr 1; omega), rfl⟩, ⟨_, rfl, by simp only [AV.ren]; first | (rw [ew, ← hw]; done) | (rw [ew, ← hw]; exact congrArg (fun z => AV.str (w ++ z)) rfl), rfl⟩, ⟨_, rfl, by first | rfl | (simp only [AV.ren]; congr 1; omega), rfl⟩, ⟨_, rfl, by first | rfl | (simp only [AV.ren]; congr 1; omega), rfl⟩, ⟨_, rfl, by first | rfl | (simp only [AV.ren]; congr 1; omega), rfl⟩, ⟨_, rfl, by first | rfl | (simp only [AV.ren]; congr 1; omega), rfl⟩, ⟨_, rfl, by first | rfl | (simp only [AV.ren]; congr 1; omega), rfl⟩, trivial⟩ ⟨⟨_, _, rfl, rfl, rfl, rfl, id, rfl⟩, trivial⟩
 ·simp only [decide_eq_false_iff_not] at hc28
  refine .exit ?_
  show Ev _ _ _ _ _
  have ej : j = (fieldsOf k).length := by omega
  subst ej
  refine .seq ?_
  refine .region ?_
  refine .q (op_move rfl) trivial rfl ?_
  refine .q (op_assign rfl) trivial rfl ?_
  refine .nil ?_
  show Ev _ _ _ _ _
  refine .ret ?_
  show RetOk _ _ _ _ _ _ _
  exact ret1v rfl (.inl rfl) rfl (congrArg AV.str hw) trivial
end Go.Proofs.YtenocbhlbgcnfaaDoor
namespace Go.Proofs.YtenocbhlbgcnfaaDoor
open Go.RowKit
theorem rawD_app {a r : List UInt8} {e : Nat} {n : Nat} (h : a.length = n) : rawD ⟨a ++ r, e⟩ n = (⟨r, e⟩, a) := by
  unfold rawD
  rw [if_pos (by simp; omega)]
  simp only [← h, List.take_left, List.drop_left]
theorem shl8 (n : UInt64) (b : UInt8) (h : n.toNat < 2 ^ 56) : (n <<< UInt64.ofNat 8 ||| b.toUInt64).toNat = n.toNat * 256 + b.toNat := by
  have hb := b.toNat_lt
  rw [UInt64.toNat_or, UInt64.toNat_shiftLeft]
  have e : (UInt64.ofNat 8).toNat % 64 = 8 := rfl
  rw [e, UInt8.toNat_toUInt64, Nat.mod_eq_of_lt (by rw [Nat.shiftLeft_eq]; omega), Nat.shiftLeft_eq]
  rw [show n.toNat * 2 ^ 8 = 2 ^ 8 * n.toNat by omega]
  have hq : b.toNat < 2 ^ 8 := hb
  rw [← Nat.two_pow_add_eq_or_of_lt hq]
theorem byteAt (x : UInt64) (k : Nat) (hk : k < 64) : (x >>> UInt64.ofNat k).toUInt8.toNat = x.toNat / 2 ^ k % 256 := by
  rw [UInt64.toNat_toUInt8, UInt64.toNat_shiftRight]
  have e : (UInt64.ofNat k).toNat % 64 = k := by
    rw [UInt64.toNat_ofNat_of_lt' (by simp [UInt64.size]; omega)]; exact Nat.mod_eq_of_lt hk
  rw [e, Nat.shiftRight_eq_div_pow]
theorem num4 (x : UInt64) : numB x 4 4 = [(x >>> UInt64.ofNat 24).toUInt8, (x >>> UInt64.ofNat 16).toUInt8, (x >>> UInt64.ofNat 8).toUInt8, (x >>> UInt64.ofNat 0).toUInt8] := rfl
theorem numV4 (a b c d : UInt8) : (numV [a, b, c, d]).toNat = ((a.toNat * 256 + b.toNat) * 256 + c.toNat) * 256 + d.toNat := by
  have ha := a.toNat_lt
  have hb := b.toNat_lt
  have hc := c.toNat_lt
  show (numL [a, b, c, d] 4).toNat = _
  have h1 : (numL [a, b, c, d] 1).toNat = a.toNat := by
    show ((0 : UInt64) <<< UInt64.ofNat 8 ||| a.toUInt64).toNat = _
    rw [shl8 _ _ (show (0 : UInt64).toNat < 2 ^ 56 by decide)]
    show (0 : UInt64).toNat * 256 + _ = _
    simp
  have h2 : (numL [a, b, c, d] 2).toNat = a.toNat * 256 + b.toNat := by
    show (numL [a, b, c, d] 1 <<< UInt64.ofNat 8 ||| b.toUInt64).toNat = _
    rw [shl8 _ _ (by rw [h1]; omega), h1]
  have h3 : (numL [a, b, c, d] 3).toNat = (a.toNat * 256 + b.toNat) * 256 + c.toNat := by
    show (numL [a, b, c, d] 2 <<< UInt64.ofNat 8 ||| c.toUInt64).toNat = _
    rw [shl8 _ _ (by rw [h2]; omega), h2]
  show (numL [a, b, c, d] 3 <<< UInt64.ofNat 8 ||| d.toUInt64).toNat = _
  rw [shl8 _ _ (by rw [h3]; omega), h3]
theorem numV_num4 (x : UInt32) : (numV (numB x.toUInt64 4 4)).toUInt32 = x := by
  apply UInt32.toNat_inj.1
  rw [UInt64.toNat_toUInt32, num4, numV4, byteAt _ _ (by decide), byteAt _ _ (by decide), byteAt _ _ (by decide), byteAt _ _ (by decide), UInt32.toNat_toUInt64]
  have := x.toNat_lt
  omega
theorem u32D_app (x : UInt32) (r : List UInt8) (e : Nat) : u32D ⟨numB x.toUInt64 4 4 ++ r, e⟩ = (⟨r, e⟩, x) := by
  unfold u32D numD
  rw [rawD_app (length_numB _ _ _), numV_num4]
theorem textD_app (s r : List UInt8) (e : Nat) (m : Int) (hs : (s.length : Int) ≤ m) (hb : s.length < 4294967296) : textD ⟨textB s ++ r, e⟩ m = (⟨r, e⟩, s) := by
  unfold textD textB lenB
  rw [List.append_assoc, u32D_app]
  have hn : (ofI32 (s.length : Int)).toNat = s.length := by
    have := ofI32_toNat (s.length : Int)
    omega
  simp only [hn]
  rw [if_neg (by omega), rawD_app rfl]
theorem byteD_app (c : UInt8) (r : List UInt8) (e : Nat) : byteD ⟨c :: r, e⟩ = (⟨r, e⟩, c) := by
  unfold byteD numD
  rw [show (c :: r) = [c] ++ r from rfl, rawD_app (n := 1) rfl]
  have h : (numV [c]).toNat = c.toNat := by
    show ((0 : UInt64) <<< UInt64.ofNat 8 ||| c.toUInt64).toNat = _
    rw [shl8 _ _ (show (0 : UInt64).toNat < 2 ^ 56 by decide)]
    show (0 : UInt64).toNat * 256 + _ = _
    simp
  have : (numV [c]).toUInt8 = c := by
    apply UInt8.toNat_inj.1
    rw [UInt64.toNat_toUInt8, h]
    have := c.toNat_lt
    omega
  simp only [this]
theorem boolD_app (b : Bool) (r : List UInt8) (e : Nat) : boolD ⟨boolB b ++ r, e⟩ = (⟨r, e⟩, b) := by
  unfold boolD boolB
  rw [show ([if b then (1 : UInt8) else 0] ++ r) = (if b then 1 else 0) :: r from rfl, byteD_app]
  cases b <;> rfl
theorem rawD_all (r : List UInt8) (e : Nat) : rawD ⟨r, e⟩ r.length = (⟨[], e⟩, r) := by
  have := rawD_app (a := r) (r := []) (e := e) rfl
  rwa [List.append_nil] at this
end Go.Proofs.YtenocbhlbgcnfaaDoor
namespace Go.Proofs.YtenocbhlbgcnfaaDoor
open Go.RowKit
theorem splitC_word : ∀ (w t : List UInt8), w.count 44 = 0 → splitC (w ++ 44 :: t) = w :: splitC t
  | [], t, _ => by simp [splitC]
  | c :: w, t, h => by
    have hc : ¬ c = 44 := fun e => by subst e; simp at h
    have h2 : w.count 44 = 0 := by rw [List.count_cons] at h; omega
    obtain ⟨x, l, e1, e2⟩ := splitC_cons_ne (s := w ++ 44 :: t) hc
    rw [splitC_word w t h2] at e1
    injection e1 with e1 e3
    subst e1; subst e3
    exact e2
theorem name_count {s : List UInt8} (h : nameOk s = true) : s.count 44 = 0 ∧ s ≠ [] := by
  unfold nameOk at h
  simp only [Bool.and_eq_true, Bool.not_eq_true'] at h
  refine ⟨List.count_eq_zero.2 fun hm => ?_, fun e => ?_⟩
  · have := List.all_eq_true.1 h.2 44 hm
    simp [chOk] at this
  · subst e; simp at h
theorem split_join : ∀ (x : List UInt8) (r : List (List UInt8)), (x :: r).all nameOk = true → splitC (joinB (x :: r)) = x :: r
  | x, [], h => by
    rw [joinB_one, splitC_none]
    exact (name_count (List.all_eq_true.1 h x (by simp))).1
  | x, y :: r, h => by
    have h2 : (y :: r).all nameOk = true := by rw [List.all_cons, Bool.and_eq_true] at h; exact h.2
    have e : joinB (x :: y :: r) = x ++ 44 :: joinB (y :: r) := by simp [joinB]
    rw [e, splitC_word _ _ (name_count (List.all_eq_true.1 h x (by simp))).1, split_join y r h2]
theorem namesD_app (ls : List (List UInt8)) (r : List UInt8) (e : Nat) (ha : ls.all nameOk = true) (hl : (joinB ls).length ≤ 4096) : namesD ⟨namesB ls ++ r, e⟩ = (⟨r, e⟩, ls) := by
  have ht : textD ⟨namesB ls ++ r, e⟩ 4096 = (⟨r, e⟩, joinB ls) := textD_app _ _ _ _ (by omega) (by omega)
  unfold namesD
  rw [ht]
  simp only
  cases ls with
  | nil => rfl
  | cons x q =>
    have hx := (name_count (List.all_eq_true.1 ha x (by simp))).2
    rw [if_neg (by
      intro h
      have := congrArg List.length h
      have hp := List.length_pos_iff.2 hx
      simp only [joinB, List.length_append, List.length_nil] at this; omega), split_join x q ha, if_pos ha]
theorem put_pre (c : UInt8) (e : EP) : ∃ t, (putP c e).w = e.w ++ t := by
  unfold putP
  split
  · exact ⟨_, rfl⟩
  split
  · exact ⟨_, rfl⟩
  split
  · exact ⟨_, rfl⟩
  split
  · exact ⟨_, List.append_assoc _ _ _⟩
  · exact ⟨_, rfl⟩
theorem enc_pre (fs : List UInt8) (e : EP) (j : Nat) : ∀ d, ∃ t, (encN fs e (j + d)).w = (encN fs e j).w ++ t
  | 0 => ⟨[], (List.append_nil _).symm⟩
  | d + 1 => by
    obtain ⟨t, ht⟩ := enc_pre fs e j d
    obtain ⟨t2, h2⟩ := put_pre (fs.getD (j + d) 0) (encN fs e (j + d))
    exact ⟨t ++ t2, h2.trans (by rw [ht, List.append_assoc])⟩
/-- What is still to be read of what was written. -/
def rst (fs : List UInt8) (e : EP) (j : Nat) : List UInt8 := (encN fs e fs.length).w.drop (encN fs e j).w.length
theorem rst_step {fs : List UInt8} {e : EP} {j : Nat} {x : List UInt8} (hj : j < fs.length) (h : (encN fs e (j + 1)).w = (encN fs e j).w ++ x) : rst fs e j = x ++ rst fs e (j + 1) := by
  obtain ⟨t, ht⟩ := enc_pre fs e (j + 1) (fs.length - (j + 1))
  rw [show j + 1 + (fs.length - (j + 1)) = fs.length by omega] at ht
  unfold rst
  have h1 : (encN fs e fs.length).w.drop (encN fs e (j + 1)).w.length = t := by rw [ht, List.drop_left]
  rw [h1, ht, h, List.append_assoc, List.drop_left]
theorem rst_end (fs : List UInt8) (e : EP) : rst fs e fs.length = [] := List.drop_length
theorem take_snoc {α : Type} {l : List α} {n : Nat} (d : α) (h : n < l.length) : l.take n ++ [l.getD n d] = l.take (n + 1) := by
  rw [List.take_add_one, List.getElem?_eq_getElem h, Option.toList_some, List.getD_eq_getElem?_getD, List.getElem?_eq_getElem h]; rfl
def lastOk (fs : List UInt8) : Bool := (List.range fs.length).all (fun j => fs.getD j 0 != 114 || j + 1 == fs.length) && decide (fs.length ≤ 13)
theorem last_ok (k : Int) : lastOk (fieldsOf k) = true := by
  unfold fieldsOf
  cases h : kAt k 29 with
  | none => decide
  | some n =>
    show lastOk (kFields.getD n []) = true
    rcases Nat.lt_or_ge n 29 with hn | hn
    · exact (show ∀ n, n < 29 → lastOk (kFields.getD n []) = true by decide) n hn
    · rw [show kFields.getD n [] = [] by rw [List.getD_eq_getElem?_getD, List.getElem?_eq_none (by exact hn)]; rfl]; decide
theorem last_of {k : Int} {j : Nat} (hj : j < (fieldsOf k).length) (h : (fieldsOf k).getD j 0 = 114) : j + 1 = (fieldsOf k).length := by
  have h0 := last_ok k
  simp only [lastOk, Bool.and_eq_true] at h0
  have := List.all_eq_true.1 h0.1 j (List.mem_range.2 hj)
  rw [h] at this
  simpa using this
theorem fields_13 (k : Int) : (fieldsOf k).length ≤ 13 := by
  have h0 := last_ok k
  simp only [lastOk, Bool.and_eq_true] at h0
  exact of_decide_eq_true h0.2
theorem kAt_of (k : Int) : ∀ n i, kAt k n = some i → i < n ∧ kNums.getD i 0 = k
  | 0, _, h => by cases h
  | n + 1, i, h => by
    unfold kAt at h
    cases h1 : kAt k n with
    | some m =>
      rw [h1] at h
      injection h with h; subst h
      have := kAt_of k n m h1
      exact ⟨by omega, this.2⟩
    | none =>
      rw [h1] at h
      by_cases h2 : kNums.getD n 0 = k
      · simp only [h2, if_true] at h
        injection h with h; subst h
        exact ⟨by omega, h2⟩
      · simp only [h2, if_false] at h
        cases h
theorem kind_byte {k : Int} (h : isKind k = true) : (((ofI8 k).toNat : Nat) : Int) = k := by
  unfold isKind at h
  cases h1 : kAt k 29 with
  | none => rw [h1] at h; cases h
  | some i =>
    obtain ⟨h2, h3⟩ := kAt_of k 29 i h1
    rw [← h3]
    exact (show ∀ i, i < 29 → (((ofI8 (kNums.getD i 0)).toNat : Nat) : Int) = kNums.getD i 0 by decide) i h2
theorem enc_len (k : Int) (us : List UInt32) (ss : List (List UInt8)) (ns : List (List (List UInt8))) (bs : List Bool) (hss : ∀ i, (ss.getD i []).length ≤ 100) (hjj : ∀ i, (joinB (ns.getD i [])).length ≤ 430) : ∀ j, j ≤ (fieldsOf k).length → (encN (fieldsOf k) (EP.mk us ss ns bs [(ofI8 k)]) j).w.length ≤ 1 + j * 434
  | 0, _ => Nat.le_refl 1
  | j + 1, hj => by
    have ih := enc_len k us ss ns bs hss hjj j (by omega)
    refine six_of (fields_six k j (by omega)) ?_ ?_ ?_ ?_ ?_ ?_ <;> intro h6
    · rw [enc_u k us ss ns bs (by omega) h6, List.length_append, length_numB]; omega
    · rw [enc_b k us ss ns bs (by omega) h6, List.length_append, length_boolB]; omega
    · rw [enc_n k us ss ns bs (by omega) h6, List.length_append, length_namesB]; have := hjj (cn pN (fieldsOf k) j); omega
    · rw [enc_s k us ss ns bs (by omega) h6, List.length_append, length_textB]; have := hss (cn pS (fieldsOf k) j); omega
    · rw [enc_c k us ss ns bs (by omega) h6, List.length_append]; have := hss (cn pS (fieldsOf k) j); omega
    · rw [enc_r k us ss ns bs (by omega) h6, List.length_append]; have := hss (cn pS (fieldsOf k) j); omega
theorem parse_enc (k : Int) (us : List UInt32) (ss : List (List UInt8)) (ns : List (List (List UInt8))) (bs : List Bool) (hnU : us.length = cn pU (fieldsOf k) (fieldsOf k).length) (hnS : ss.length = cn pS (fieldsOf k) (fieldsOf k).length) (hnN : ns.length = cn pN (fieldsOf k) (fieldsOf k).length) (hnB : bs.length = cn pB (fieldsOf k) (fieldsOf k).length) (hc16 : ∀ j, j < (fieldsOf k).length → (fieldsOf k).getD j 0 = 99 → (ss.getD (cn pS (fieldsOf k) j) []).length = 16) (hss : ∀ i, (ss.getD i []).length ≤ 32768) (hna : ∀ i, i < ns.length → (ns.getD i []).all nameOk = true) (hjj : ∀ i, (joinB (ns.getD i [])).length ≤ 4096) : ∀ j, j ≤ (fieldsOf k).length → parseN (fieldsOf k) ⟨⟨rst (fieldsOf k) (EP.mk us ss ns bs [(ofI8 k)]) 0, 0⟩, [], [], [], []⟩ j = ⟨⟨rst (fieldsOf k) (EP.mk us ss ns bs [(ofI8 k)]) j, 0⟩, us.take (cn pU (fieldsOf k) j), ss.take (cn pS (fieldsOf k) j), ns.take (cn pN (fieldsOf k) j), bs.take (cn pB (fieldsOf k) j)⟩
  | 0, _ => rfl
  | j + 1, hj => by
    have ih := parse_enc k us ss ns bs hnU hnS hnN hnB hc16 hss hna hjj j (by omega)
    show getP ((fieldsOf k).getD j 0) (parseN (fieldsOf k) _ j) = _
    refine six_of (fields_six k j (by omega)) ?_ ?_ ?_ ?_ ?_ ?_ <;> intro h6
    · have hlt : cn pU (fieldsOf k) j < us.length := by rw [hnU]; exact cn_lt (by omega) (by rw [h6]; rfl)
      have hr := rst_step (show j < (fieldsOf k).length by omega) (enc_u k us ss ns bs (by omega) h6)
      rw [ih, h6, hr, cn_yes (p := pU) h6 rfl, cn_no (p := pS) h6 rfl, cn_no (p := pN) h6 rfl, cn_no (p := pB) h6 rfl, ← take_snoc 0 hlt]
      have hd : u32D (DI.mk (numB (us.getD (cn pU (fieldsOf k) j) 0).toUInt64 4 4 ++ rst (fieldsOf k) (EP.mk us ss ns bs [(ofI8 k)]) (j + 1)) 0) = (⟨rst (fieldsOf k) (EP.mk us ss ns bs [(ofI8 k)]) (j + 1), 0⟩, (us.getD (cn pU (fieldsOf k) j) 0)) := u32D_app _ _ _
      show MSt.mk (u32D (DI.mk (numB (us.getD (cn pU (fieldsOf k) j) 0).toUInt64 4 4 ++ rst (fieldsOf k) (EP.mk us ss ns bs [(ofI8 k)]) (j + 1)) 0)).1 ((us.take (cn pU (fieldsOf k) j)) ++ [(u32D (DI.mk (numB (us.getD (cn pU (fieldsOf k) j) 0).toUInt64 4 4 ++ rst (fieldsOf k) (EP.mk us ss ns bs [(ofI8 k)]) (j + 1)) 0)).2]) (ss.take (cn pS (fieldsOf k) j)) (ns.take (cn pN (fieldsOf k) j)) (bs.take (cn pB (fieldsOf k) j)) = _
      rw [hd]
    · have hlt : cn pB (fieldsOf k) j < bs.length := by rw [hnB]; exact cn_lt (by omega) (by rw [h6]; rfl)
      have hr := rst_step (show j < (fieldsOf k).length by omega) (enc_b k us ss ns bs (by omega) h6)
      rw [ih, h6, hr, cn_no (p := pU) h6 rfl, cn_no (p := pS) h6 rfl, cn_no (p := pN) h6 rfl, cn_yes (p := pB) h6 rfl, ← take_snoc false hlt]
      have hd : boolD (DI.mk (boolB (bs.getD (cn pB (fieldsOf k) j) false) ++ rst (fieldsOf k) (EP.mk us ss ns bs [(ofI8 k)]) (j + 1)) 0) = (⟨rst (fieldsOf k) (EP.mk us ss ns bs [(ofI8 k)]) (j + 1), 0⟩, (bs.getD (cn pB (fieldsOf k) j) false)) := boolD_app _ _ _
      show MSt.mk (boolD (DI.mk (boolB (bs.getD (cn pB (fieldsOf k) j) false) ++ rst (fieldsOf k) (EP.mk us ss ns bs [(ofI8 k)]) (j + 1)) 0)).1 (us.take (cn pU (fieldsOf k) j)) (ss.take (cn pS (fieldsOf k) j)) (ns.take (cn pN (fieldsOf k) j)) ((bs.take (cn pB (fieldsOf k) j)) ++ [(boolD (DI.mk (boolB (bs.getD (cn pB (fieldsOf k) j) false) ++ rst (fieldsOf k) (EP.mk us ss ns bs [(ofI8 k)]) (j + 1)) 0)).2]) = _
      rw [hd]
    · have hlt : cn pN (fieldsOf k) j < ns.length := by rw [hnN]; exact cn_lt (by omega) (by rw [h6]; rfl)
      have hr := rst_step (show j < (fieldsOf k).length by omega) (enc_n k us ss ns bs (by omega) h6)
      rw [ih, h6, hr, cn_no (p := pU) h6 rfl, cn_no (p := pS) h6 rfl, cn_yes (p := pN) h6 rfl, cn_no (p := pB) h6 rfl, ← take_snoc [] hlt]
      have hd : namesD (DI.mk (namesB (ns.getD (cn pN (fieldsOf k) j) []) ++ rst (fieldsOf k) (EP.mk us ss ns bs [(ofI8 k)]) (j + 1)) 0) = (⟨rst (fieldsOf k) (EP.mk us ss ns bs [(ofI8 k)]) (j + 1), 0⟩, (ns.getD (cn pN (fieldsOf k) j) [])) := namesD_app _ _ _ (hna _ hlt) (hjj _)
      show MSt.mk (namesD (DI.mk (namesB (ns.getD (cn pN (fieldsOf k) j) []) ++ rst (fieldsOf k) (EP.mk us ss ns bs [(ofI8 k)]) (j + 1)) 0)).1 (us.take (cn pU (fieldsOf k) j)) (ss.take (cn pS (fieldsOf k) j)) ((ns.take (cn pN (fieldsOf k) j)) ++ [(namesD (DI.mk (namesB (ns.getD (cn pN (fieldsOf k) j) []) ++ rst (fieldsOf k) (EP.mk us ss ns bs [(ofI8 k)]) (j + 1)) 0)).2]) (bs.take (cn pB (fieldsOf k) j)) = _
      rw [hd]
    · have hlt : cn pS (fieldsOf k) j < ss.length := by rw [hnS]; exact cn_lt (by omega) (by rw [h6]; rfl)
      have hr := rst_step (show j < (fieldsOf k).length by omega) (enc_s k us ss ns bs (by omega) h6)
      rw [ih, h6, hr, cn_no (p := pU) h6 rfl, cn_yes (p := pS) h6 rfl, cn_no (p := pN) h6 rfl, cn_no (p := pB) h6 rfl, ← take_snoc [] hlt]
      have hd : textD (DI.mk (textB (ss.getD (cn pS (fieldsOf k) j) []) ++ rst (fieldsOf k) (EP.mk us ss ns bs [(ofI8 k)]) (j + 1)) 0) 32768 = (⟨rst (fieldsOf k) (EP.mk us ss ns bs [(ofI8 k)]) (j + 1), 0⟩, (ss.getD (cn pS (fieldsOf k) j) [])) := textD_app _ _ _ _ (by have := hss (cn pS (fieldsOf k) j); omega) (by have := hss (cn pS (fieldsOf k) j); omega)
      show MSt.mk (textD (DI.mk (textB (ss.getD (cn pS (fieldsOf k) j) []) ++ rst (fieldsOf k) (EP.mk us ss ns bs [(ofI8 k)]) (j + 1)) 0) 32768).1 (us.take (cn pU (fieldsOf k) j)) ((ss.take (cn pS (fieldsOf k) j)) ++ [(textD (DI.mk (textB (ss.getD (cn pS (fieldsOf k) j) []) ++ rst (fieldsOf k) (EP.mk us ss ns bs [(ofI8 k)]) (j + 1)) 0) 32768).2]) (ns.take (cn pN (fieldsOf k) j)) (bs.take (cn pB (fieldsOf k) j)) = _
      rw [hd]
    · have hlt : cn pS (fieldsOf k) j < ss.length := by rw [hnS]; exact cn_lt (by omega) (by rw [h6]; rfl)
      have hr := rst_step (show j < (fieldsOf k).length by omega) (enc_c k us ss ns bs (by omega) h6)
      rw [ih, h6, hr, cn_no (p := pU) h6 rfl, cn_yes (p := pS) h6 rfl, cn_no (p := pN) h6 rfl, cn_no (p := pB) h6 rfl, ← take_snoc [] hlt]
      have hd : rawD (DI.mk ((ss.getD (cn pS (fieldsOf k) j) []) ++ rst (fieldsOf k) (EP.mk us ss ns bs [(ofI8 k)]) (j + 1)) 0) 16 = (⟨rst (fieldsOf k) (EP.mk us ss ns bs [(ofI8 k)]) (j + 1), 0⟩, (ss.getD (cn pS (fieldsOf k) j) [])) := rawD_app (hc16 j (by omega) h6)
      show MSt.mk (rawD (DI.mk ((ss.getD (cn pS (fieldsOf k) j) []) ++ rst (fieldsOf k) (EP.mk us ss ns bs [(ofI8 k)]) (j + 1)) 0) 16).1 (us.take (cn pU (fieldsOf k) j)) ((ss.take (cn pS (fieldsOf k) j)) ++ [(rawD (DI.mk ((ss.getD (cn pS (fieldsOf k) j) []) ++ rst (fieldsOf k) (EP.mk us ss ns bs [(ofI8 k)]) (j + 1)) 0) 16).2]) (ns.take (cn pN (fieldsOf k) j)) (bs.take (cn pB (fieldsOf k) j)) = _
      rw [hd]
    · have hlt : cn pS (fieldsOf k) j < ss.length := by rw [hnS]; exact cn_lt (by omega) (by rw [h6]; rfl)
      have hr := rst_step (show j < (fieldsOf k).length by omega) (enc_r k us ss ns bs (by omega) h6)
      have h1 := last_of (show j < (fieldsOf k).length by omega) h6
      have h0 : rst (fieldsOf k) (EP.mk us ss ns bs [(ofI8 k)]) (j + 1) = [] := by rw [h1]; exact rst_end _ _
      rw [h0, List.append_nil] at hr
      rw [ih, h6, hr, cn_no (p := pU) h6 rfl, cn_yes (p := pS) h6 rfl, cn_no (p := pN) h6 rfl, cn_no (p := pB) h6 rfl, ← take_snoc [] hlt]
      have hd : rawD (DI.mk ((ss.getD (cn pS (fieldsOf k) j) [])) 0) ((ss.getD (cn pS (fieldsOf k) j) [])).length = (⟨[], 0⟩, (ss.getD (cn pS (fieldsOf k) j) [])) := rawD_all _ _
      show MSt.mk (rawD (DI.mk ((ss.getD (cn pS (fieldsOf k) j) [])) 0) ((ss.getD (cn pS (fieldsOf k) j) [])).length).1 (us.take (cn pU (fieldsOf k) j)) ((ss.take (cn pS (fieldsOf k) j)) ++ [(rawD (DI.mk ((ss.getD (cn pS (fieldsOf k) j) [])) 0) ((ss.getD (cn pS (fieldsOf k) j) [])).length).2]) (ns.take (cn pN (fieldsOf k) j)) (bs.take (cn pB (fieldsOf k) j)) = _
      rw [hd, h0]
/-- What Bytes writes is read back whole. -/
theorem parse_back (k : Int) (us : List UInt32) (ss : List (List UInt8)) (ns : List (List (List UInt8))) (bs : List Bool) (hnU : us.length = cn pU (fieldsOf k) (fieldsOf k).length) (hnS : ss.length = cn pS (fieldsOf k) (fieldsOf k).length) (hnN : ns.length = cn pN (fieldsOf k) (fieldsOf k).length) (hnB : bs.length = cn pB (fieldsOf k) (fieldsOf k).length) (hc16 : ∀ j, j < (fieldsOf k).length → (fieldsOf k).getD j 0 = 99 → (ss.getD (cn pS (fieldsOf k) j) []).length = 16) (hss : ∀ i, (ss.getD i []).length ≤ 32768) (hna : ∀ i, i < ns.length → (ns.getD i []).all nameOk = true) (hjj : ∀ i, (joinB (ns.getD i [])).length ≤ 4096) (hk : isKind k = true) : ∃ s, s = (encN (fieldsOf k) (EP.mk us ss ns bs [(ofI8 k)]) (fieldsOf k).length).w ∧ s ≠ [] ∧ k = (((byteD ⟨s, 0⟩).2.toNat : Nat) : Int) ∧ parseN (fieldsOf k) ⟨(byteD ⟨s, 0⟩).1, [], [], [], []⟩ (fieldsOf k).length = ⟨⟨[], 0⟩, us, ss, ns, bs⟩ := by
  obtain ⟨t, ht⟩ := enc_pre (fieldsOf k) (EP.mk us ss ns bs [(ofI8 k)]) 0 (fieldsOf k).length
  rw [Nat.zero_add] at ht
  have ht2 : (encN (fieldsOf k) (EP.mk us ss ns bs [(ofI8 k)]) (fieldsOf k).length).w = ofI8 k :: t := ht
  have h0 : rst (fieldsOf k) (EP.mk us ss ns bs [(ofI8 k)]) 0 = t := by unfold rst; rw [ht2]; rfl
  have hp := parse_enc k us ss ns bs hnU hnS hnN hnB hc16 hss hna hjj (fieldsOf k).length (Nat.le_refl _)
  rw [h0, rst_end, ← hnU, ← hnS, ← hnN, ← hnB, List.take_length, List.take_length, List.take_length, List.take_length] at hp
  refine ⟨_, rfl, by rw [ht2]; exact List.cons_ne_nil _ _, ?_, ?_⟩
  · rw [ht2, byteD_app]; exact (kind_byte hk).symm
  · rw [ht2, byteD_app]; exact hp
end Go.Proofs.YtenocbhlbgcnfaaDoor
