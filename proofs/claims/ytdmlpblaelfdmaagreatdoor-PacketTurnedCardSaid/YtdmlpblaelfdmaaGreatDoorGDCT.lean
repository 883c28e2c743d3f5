/-
  Texts of this claim.
-/
import Derived.Test.YtdmlpblaelfdmaaGreatDoorGDBT
import Derived.Test.YtdmlpblaelfdmaaGreatDoorGK3T
import Derived.Test.YtdmlpblaelfdmaaGreatDoorGK4T
namespace Go.Proofs.YtdmlpblaelfdmaaGreatDoor
open Go.RowKit
theorem okV_y {fp : List UInt8 × Nat × Nat} (h : fp.2.2 = 0) (h0 : fp.2.1 ≠ 0) : okV fp = true := by
  unfold okV; rw [h, bne_iff_ne.2 h0]; rfl
theorem first_none {b : Bool} {key : List UInt8} {n : UInt64} {s : List UInt8} (h : (firstP b key n s).2.2 = 0) (h0 : (firstP b key n s).2.1 = 0) : s.length < 4 ∨ s.length < sizeP b s := by
  unfold firstP at h h0
  split at h
  · exact .inl (by assumption)
  · rename_i h4
    rw [if_neg h4] at h0
    split at h
    · rename_i hb; exact absurd h hb
    · rename_i hb
      rw [if_neg hb] at h0
      split at h
      · exact .inr (by assumption)
      · rename_i hs
        rw [if_neg hs] at h0
        split at h
        · rename_i ho; exact absurd h ho
        · rename_i ho
          rw [if_neg ho] at h0
          have : sizeP b s = 0 := h0
          unfold sizeP at this; omega
theorem first_nil1 {b : Bool} {key : List UInt8} {n : UInt64} {s : List UInt8} (_h : (firstP b key n s).2.2 = 0) (h0 : (firstP b key n s).2.1 = 0) : (firstP b key n s).1 = [] := by
  unfold firstP at _h h0 ⊢
  split
  · rfl
  · rename_i h4
    rw [if_neg h4] at _h h0
    split
    · rfl
    · rename_i hb
      rw [if_neg hb] at _h h0
      split
      · rfl
      · rename_i hs
        rw [if_neg hs] at _h h0
        split
        · rfl
        · rename_i ho
          rw [if_neg ho] at _h h0
          have : sizeP b s = 0 := h0
          unfold sizeP at this; omega
theorem first_bad1 {b : Bool} {key : List UInt8} {n : UInt64} {s : List UInt8} (h : (firstP b key n s).2.2 ≠ 0) : (firstP b key n s).1 = [] := by
  unfold firstP at h ⊢
  split
  · rfl
  · rename_i h4
    rw [if_neg h4] at h
    split
    · rfl
    · rename_i hb
      rw [if_neg hb] at h
      split
      · rfl
      · rename_i hs
        rw [if_neg hs] at h
        split
        · rfl
        · rename_i ho
          rw [if_neg ho] at h
          simp only at h ⊢
          unfold unpadP at h ⊢
          split
          · rfl
          · rename_i hu; rw [if_neg hu] at h; exact absurd rfl h
theorem first_code (b : Bool) (key : List UInt8) (n : UInt64) (s : List UInt8) : (firstP b key n s).2.2 = 0 ∨ (firstP b key n s).2.2 = 3 ∨ (firstP b key n s).2.2 = 4 ∨ (firstP b key n s).2.2 = 5 := by
  have hb : badP b s = 0 ∨ badP b s = 3 ∨ badP b s = 4 := by
    unfold badP; split
    · simp
    · split <;> simp
  have hu : ∀ y, (unpadP y).2 = 0 ∨ (unpadP y).2 = 3 := fun y => by unfold unpadP; split <;> simp
  have ho : ∀ box head, (openP b key n box head).2 = 0 ∨ (openP b key n box head).2 = 5 := fun box head => by
    cases b with
    | false => left; rfl
    | true => simp only [openP]; split <;> simp
  unfold firstP
  split
  · simp
  · split
    · simp only; omega
    · split
      · simp
      · split
        · rcases ho (boxP b s) (s.take 4) with h | h <;> simp [h]
        · have := hu (openP b key n (boxP b s) (s.take 4)).1
          simp only; omega
theorem set_take4 {l : List UInt8} {i : Nat} {v : UInt8} (h : 4 ≤ i) : (l.set i v).take 4 = l.take 4 := by
  refine List.ext_getElem? fun j => ?_
  rw [List.getElem?_take, List.getElem?_take]
  by_cases hj : j < 4
  · rw [if_pos hj, if_pos hj, List.getElem?_set, if_neg (by omega)]
  · rw [if_neg hj, if_neg hj]
/-- A packet that is changed behind its head is there. -/
theorem set_none {key : List UInt8} {n : UInt64} {p : List UInt8} (hp : p.length ≤ 32768) {i : Nat} {v : UInt8} (hi : 4 ≤ i)
    (h : (firstP true key n ((packP true key n p).set i v)).2.2 = 0) (h0 : (firstP true key n ((packP true key n p).set i v)).2.1 = 0) : False := by
  have hs := size_pack true key n p [] hp
  rw [List.append_nil] at hs
  have hl := length_packP true key n p
  have e : sizeP true ((packP true key n p).set i v) = sizeP true (packP true key n p) := by unfold sizeP lenP; rw [set_take4 hi]
  rcases first_none h h0 with h | h
  · rw [List.length_set] at h; omega
  · rw [e, hs, List.length_set] at h; omega
theorem codeF_ev (eo : Nat → Nat × Nat) (hd : ∀ i j, i < 20 → j < 20 → i ≠ j → eo i ≠ eo j) (ws : List UInt8) (te : Nat) (x : Nat) (hx : x = 2 ∨ x = 3 ∨ x = 4) : Meets Tryz.prog 15 [.ifc 102 (.ptr 500 0)] [(2, some ⟨.agg [.err 269 (1) (offE eo (1))], errT, false⟩), (0, some ⟨.agg [.err 269 (2) (offE eo (2))], errT, false⟩), (3, some ⟨.agg [.err 269 (3) (offE eo (3))], errT, false⟩), (1, some ⟨.agg [.err 269 (4) (offE eo (4))], errT, false⟩), (4, some ⟨.agg [.err 269 (5) (offE eo (5))], errT, false⟩), (5, some ⟨.agg [.err 269 (6) (offE eo (6))], errT, false⟩), (6, some ⟨.agg [.err 269 (7) (offE eo (7))], errT, false⟩), (7, some ⟨.agg [.err 269 (8) (offE eo (8))], errT, false⟩), (8, some ⟨.agg [.err 269 (9) (offE eo (9))], errT, false⟩), (9, some ⟨.agg [.err 269 (10) (offE eo (10))], errT, false⟩), (10, some ⟨.agg [.err 269 (11) (offE eo (11))], errT, false⟩), (11, some ⟨.agg [.err 269 (12) (offE eo (12))], errT, false⟩), (12, some ⟨.agg [.err 269 (13) (offE eo (13))], errT, false⟩), (13, some ⟨.agg [.err 269 (14) (offE eo (14))], errT, false⟩), (14, some ⟨.agg [.err 269 (15) (offE eo (15))], errT, false⟩), (15, some ⟨.agg [.err 269 (16) (offE eo (16))], errT, false⟩), (16, some ⟨.agg [.err 269 (17) (offE eo (17))], errT, false⟩), (17, some ⟨.agg [.err 269 (18) (offE eo (18))], errT, false⟩), (18, some ⟨.agg [.err 269 (19) (offE eo (19))], errT, false⟩), (19, some ⟨.agg [.err 269 (20) (offE eo (20))], errT, false⟩), (401, some ⟨.agg [], errT, false⟩), (402, some ⟨.agg [], errT, false⟩), (403, some ⟨.agg [], errT, false⟩), (404, some ⟨.agg [], errT, false⟩), (405, some ⟨.agg [], errT, false⟩), (406, some ⟨.agg [], errT, false⟩), (407, some ⟨.agg [], errT, false⟩), (408, some ⟨.agg [], errT, false⟩), (409, some ⟨.agg [], errT, false⟩), (410, some ⟨.agg [], errT, false⟩), (411, some ⟨.agg [], errT, false⟩), (412, some ⟨.agg [], errT, false⟩), (413, some ⟨.agg [], errT, false⟩), (414, some ⟨.agg [], errT, false⟩), (415, some ⟨.agg [], errT, false⟩), (416, some ⟨.agg [], errT, false⟩), (417, some ⟨.agg [], errT, false⟩), (418, some ⟨.agg [], errT, false⟩), (419, some ⟨.agg [], errT, false⟩), (420, some ⟨.agg [], errT, false⟩), (500, some ⟨.agg [.str ws, .err 269 (x + 1) (offE eo (x + 1))], te, false⟩)] (.i64 ((x + 1 : Nat) : Int)) [] := by
  rcases hx with rfl | rfl | rfl
  · exact codeF_3 eo hd ws te
  · exact codeF_4 eo hd ws te
  · exact codeF_5 eo hd ws te
set_option maxHeartbeats 1000000 in
set_option maxRecDepth 100000 in
theorem packetTurned_w (eo : Nat → Nat × Nat) (hd : ∀ i j, i < 20 → j < 20 → i ≠ j → eo i ≠ eo j) (e : Nat) (key : List UInt8) (hk : key.length = 32) (s : List UInt8) (hs : s.length ≤ maxLen) (at_ : Int) (K : Nat) (hK : at_ % ((2 ^ 16 : Nat) : Int) % (((packP true key 0 ([112] ++ s.take 40)).length * 8 : Nat) : Int) + 0 = (K : Int)) (hK2 : K < (packP true key 0 ([112] ++ s.take 40)).length * 8) : Meets Tryz.prog 5 [.aggB key, .str s, .i64 at_] [(22, some ⟨.aggI qsTab, e, false⟩), (2, some ⟨.agg [.err 269 (1) (offE eo (1))], errT, false⟩), (0, some ⟨.agg [.err 269 (2) (offE eo (2))], errT, false⟩), (3, some ⟨.agg [.err 269 (3) (offE eo (3))], errT, false⟩), (1, some ⟨.agg [.err 269 (4) (offE eo (4))], errT, false⟩), (4, some ⟨.agg [.err 269 (5) (offE eo (5))], errT, false⟩), (5, some ⟨.agg [.err 269 (6) (offE eo (6))], errT, false⟩), (6, some ⟨.agg [.err 269 (7) (offE eo (7))], errT, false⟩), (7, some ⟨.agg [.err 269 (8) (offE eo (8))], errT, false⟩), (8, some ⟨.agg [.err 269 (9) (offE eo (9))], errT, false⟩), (9, some ⟨.agg [.err 269 (10) (offE eo (10))], errT, false⟩), (10, some ⟨.agg [.err 269 (11) (offE eo (11))], errT, false⟩), (11, some ⟨.agg [.err 269 (12) (offE eo (12))], errT, false⟩), (12, some ⟨.agg [.err 269 (13) (offE eo (13))], errT, false⟩), (13, some ⟨.agg [.err 269 (14) (offE eo (14))], errT, false⟩), (14, some ⟨.agg [.err 269 (15) (offE eo (15))], errT, false⟩), (15, some ⟨.agg [.err 269 (16) (offE eo (16))], errT, false⟩), (16, some ⟨.agg [.err 269 (17) (offE eo (17))], errT, false⟩), (17, some ⟨.agg [.err 269 (18) (offE eo (18))], errT, false⟩), (18, some ⟨.agg [.err 269 (19) (offE eo (19))], errT, false⟩), (19, some ⟨.agg [.err 269 (20) (offE eo (20))], errT, false⟩), (401, some ⟨.agg [], errT, false⟩), (402, some ⟨.agg [], errT, false⟩), (403, some ⟨.agg [], errT, false⟩), (404, some ⟨.agg [], errT, false⟩), (405, some ⟨.agg [], errT, false⟩), (406, some ⟨.agg [], errT, false⟩), (407, some ⟨.agg [], errT, false⟩), (408, some ⟨.agg [], errT, false⟩), (409, some ⟨.agg [], errT, false⟩), (410, some ⟨.agg [], errT, false⟩), (411, some ⟨.agg [], errT, false⟩), (412, some ⟨.agg [], errT, false⟩), (413, some ⟨.agg [], errT, false⟩), (414, some ⟨.agg [], errT, false⟩), (415, some ⟨.agg [], errT, false⟩), (416, some ⟨.agg [], errT, false⟩), (417, some ⟨.agg [], errT, false⟩), (418, some ⟨.agg [], errT, false⟩), (419, some ⟨.agg [], errT, false⟩), (420, some ⟨.agg [], errT, false⟩)] (.bool true) [] := by
 have hPl : ([112] ++ s.take 40).length ≤ 41 := by simp; omega
 have hlp := length_packP true key 0 ([112] ++ s.take 40)
 have hpd := padP_le true ([112] ++ s.take 40).length
 have htg : tagP true = 16 := rfl
 refine meets_of_ev (nt := 96) Tryz.func5 rfl rfl (Nat.le_of_ble_eq_true rfl) ?_
 refine .seq ?_
 refine .region ?_
 refine .a (op_boxRow rfl rfl) trivial rfl ?_
 refine .q (op_assign rfl) trivial rfl ?_
 refine .nil ?_
 show Ev _ _ _ _ _
 refine .seq ?_
 refine .seq ?_
 refine .region ?_
 refine .q (op_call (U := []) [] [] (awake12_ev e eo) Tryz.func11 (by kernel_rfl) rfl rfl rfl (trivial) (⟨⟨_, _, rfl, rfl, rfl, rfl, (fun h => by cases h), rfl⟩, ⟨_, _, rfl, rfl, rfl, rfl, (fun h => by cases h), rfl⟩, ⟨_, _, rfl, rfl, rfl, rfl, (fun h => by cases h), rfl⟩, ⟨_, _, rfl, rfl, rfl, rfl, (fun h => by cases h), rfl⟩, ⟨_, _, rfl, rfl, rfl, rfl, (fun h => by cases h), rfl⟩, trivial⟩) (trivial) (⟨(fun h => by cases h), (fun h => by cases h), (fun h => by cases h), (fun h => by cases h), (fun h => by cases h), trivial⟩) rfl) trivial rfl ?_
 refine .q (op_notB rfl) trivial rfl ?_
 refine .nil ?_
 show Ev _ _ _ _ _
 refine .cond_false rfl (rfl) ?_
 refine .skip ?_
 show Ev _ _ _ _ _
 refine .seq ?_
 refine .region ?_
 refine .q (op_move rfl) trivial rfl ?_
 refine .q (op_call (U := []) [] [] (cut_ev s 40 hs (by decide)) Tryz.func13 (by kernel_rfl) rfl rfl rfl (⟨⟨_, rfl, rfl, rfl⟩, ⟨_, rfl, rfl, rfl⟩, trivial⟩) (trivial) (trivial) (trivial) rfl) trivial rfl ?_
 refine .q (op_addS rfl rfl (by simp; omega)) trivial rfl ?_
 refine .as (.str ([112] ++ s.take 40)) rfl ?_
 refine .q (op_assign rfl) trivial rfl ?_
 refine .nil ?_
 show Ev _ _ _ _ _
 refine .seq ?_
 refine .region ?_
 refine .a (op_allocRow zeroW rel_zeroW rfl) trivial rfl ?_
 refine .nil ?_
 show Ev _ _ _ _ _
 refine .seq ?_
 refine .region ?_
 refine .q (op_loadRow Tryz.underlying24 rfl sz24 rfl rfl rfl (hk)) trivial rfl ?_
 refine .a (op_call (U := [(1008, some ⟨dC true key 0 [], 29, true⟩)]) [(500, 1008)] [] (wseal_ev false (List.replicate 32 (0 : UInt8)) key hk 0) Tryz.func12 (by kernel_rfl) rfl rfl rfl (⟨⟨_, rfl, rfl, rfl⟩, ⟨_, rfl, rfl, rfl⟩, trivial⟩) (⟨⟨_, _, rfl, rfl, rfl, rfl, id, rfl⟩, trivial⟩) (⟨⟨500, _, rfl, rfl, rfl, rfl, .inr ⟨rfl, _, rfl, rfl⟩⟩, trivial⟩) (⟨(fun _ => ⟨1008, _, rfl, rfl⟩), trivial⟩) rfl) trivial rfl ?_
 refine .nil ?_
 show Ev _ _ _ _ _
 refine .seq ?_
 refine .region ?_
 refine .q (op_move rfl) trivial rfl ?_
 refine .a (op_call (U := [(1008, some ⟨dC true key 1 [], 29, true⟩)]) [(500, 1008)] [] (pack_ev true e key hk 0 ([112] ++ s.take 40) (by simp) (by simp; omega) eo) Tryz.func14 (by kernel_rfl) rfl rfl rfl (⟨⟨_, rfl, rfl, rfl⟩, ⟨_, rfl, rfl, rfl⟩, trivial⟩) (⟨⟨_, _, rfl, rfl, rfl, rfl, id, rfl⟩, ⟨_, _, rfl, rfl, rfl, rfl, (fun h => by cases h), rfl⟩, trivial⟩) (⟨⟨500, _, rfl, rfl, rfl, rfl, .inr ⟨rfl, _, rfl, rfl⟩⟩, trivial⟩) (⟨(fun _ => ⟨1008, _, rfl, rfl⟩), (fun h => by cases h), trivial⟩) rfl) trivial rfl ?_
 refine .q (op_move rfl) trivial rfl ?_
 refine .q (op_extract rfl rfl) trivial rfl ?_
 refine .q (op_extract rfl rfl) trivial rfl ?_
 refine .q (op_assign rfl) trivial rfl ?_
 refine .q (op_assign rfl) trivial rfl ?_
 refine .nil ?_
 show Ev _ _ _ _ _
 refine .seq ?_
 refine .region ?_
 refine .q (op_move rfl) trivial rfl ?_
 refine .a (op_str_bytes Tryz.underlying9 Tryz.underlying33 Tryz.underlying5 rfl (by unfold maxLen; omega)) trivial rfl ?_
 refine .q (op_assign rfl) trivial rfl ?_
 refine .nil ?_
 show Ev _ _ _ _ _
 refine .seq ?_
 refine .region ?_
 refine .q (op_move rfl) trivial rfl ?_
 refine .q (op_maskP 16 (by decide) rfl rfl) trivial rfl ?_
 refine .q (op_move rfl) trivial rfl ?_
 refine .q (op_len_sl Tryz.underlying33 rfl) trivial rfl ?_
 refine .q (op_mulI rfl rfl ⟨by omega, by omega⟩) trivial rfl ?_
 refine .as (.i64 (((packP true key 0 ([112] ++ s.take 40)).length * 8 : Nat) : Int)) (congrArg AV.i64 (by omega)) ?_
 refine .q (op_remI rfl rfl ⟨by omega, by omega⟩) trivial rfl ?_
 refine .q (op_addI rfl rfl ⟨by omega, by omega⟩) trivial rfl ?_
 refine .as (.i64 ((K : Nat) : Int)) (congrArg AV.i64 hK) ?_
 refine .q (op_assign rfl) trivial rfl ?_
 refine .nil ?_
 show Ev _ _ _ _ _
 refine .seq ?_
 refine .drawn [[], [], [1], [0, 1, 2], [0, 1, 2, 3], [], [5], [5, 6], [0, 1, 2, 3, 4, 5, 6, 7], [0, 1, 2, 3, 4, 5, 6, 7, 8], [0, 1, 2, 3, 4, 5, 6, 7, 8, 9]] [4, 10] [10] (by kernel_rfl) (by kernel_rfl) rfl ?_
 show DK _ [0, 1, 2, 3, 4, 5, 6, 7, 8, 9, 10] _ _ _
 refine .q rfl (op_move rfl) trivial ?_
 refine .q rfl (op_move rfl) trivial ?_
 refine .q rfl (op_quoI rfl rfl ⟨by omega, ⟨by omega, by omega⟩, by omega⟩) trivial ?_
 refine .as (.i64 ((K / 8 : Nat) : Int)) (congrArg AV.i64 (by omega)) ?_
 refine .q rfl (ap_idx0 Tryz.underlying33 inf5.sz rfl rfl rfl (by omega)) trivial ?_
 refine .q rfl (op_load Tryz.underlying5 rfl rfl rfl rfl (by show K / 8 < (packP true key 0 ([112] ++ s.take 40)).length; omega)) trivial ?_
 refine .q rfl (op_move rfl) trivial ?_
 refine .q rfl (op_remI rfl rfl ⟨by omega, by omega⟩) trivial ?_
 refine .as (.i64 ((K % 8 : Nat) : Int)) (congrArg AV.i64 (by omega)) ?_
 refine .q rfl (op_shl8 (n := K % 8) rfl rfl rfl (by omega)) trivial ?_
 refine .q rfl (op_bin8 rfl rfl rfl) trivial ?_
 refine .q rfl (ap_idx0 Tryz.underlying33 inf5.sz rfl rfl rfl (by omega)) trivial ?_
 refine .w rfl (op_store inf5.sz rfl rfl rfl rfl rfl (by show K / 8 < (packP true key 0 ([112] ++ s.take 40)).length; omega)) trivial rfl rfl ?_
 refine .nil ?_
 show Ev _ _ _ _ _
 refine .seq ?_
 refine .region ?_
 refine .a (op_allocRow zeroR (rel_zeroR eo) rfl) trivial rfl ?_
 refine .nil ?_
 show Ev _ _ _ _ _
 refine .seq ?_
 refine .region ?_
 refine .q (op_loadRow Tryz.underlying24 rfl sz24 rfl rfl rfl (hk)) trivial rfl ?_
 refine .a (op_call (U := [(1128, some ⟨dC true key 0 [.nilsl, .err 269 (0) (offE eo (0))], 44, true⟩)]) [(500, 1128)] [] (ropen_ev12 false (List.replicate 32 (0 : UInt8)) key hk 0 eo) Tryz.func18 (by kernel_rfl) rfl rfl rfl (⟨⟨_, rfl, rfl, rfl⟩, ⟨_, rfl, rfl, rfl⟩, trivial⟩) (⟨⟨_, _, rfl, rfl, rfl, rfl, id, rfl⟩, trivial⟩) (⟨⟨500, _, rfl, rfl, rfl, rfl, .inr ⟨rfl, _, rfl, rfl⟩⟩, trivial⟩) (⟨(fun _ => ⟨1128, _, rfl, rfl⟩), trivial⟩) rfl) trivial rfl ?_
 refine .nil ?_
 show Ev _ _ _ _ _
 refine .seq ?_
 refine .region ?_
 refine .q (op_move rfl) trivial rfl ?_
 refine .q (op_bytes_str Tryz.underlying33 Tryz.underlying5 Tryz.underlying9 rfl rfl rfl (by rw [List.length_set]; omega)) trivial rfl ?_
 refine .as (.str ((packP true key 0 ([112] ++ s.take 40)).set (K / 8) ((packP true key 0 ([112] ++ s.take 40)).getD (K / 8) 0 ^^^ (UInt8.ofNat 1 <<< UInt8.ofNat (K % 8))))) (by rw [List.drop_zero, List.take_of_length_le (by rw [List.length_set]; exact Nat.le_refl _)]) ?_
 refine .a (op_call (U := [(1128, some ⟨dC true key 0 ([.sl 1144 0 ((packP true key 0 ([112] ++ s.take 40)).set (K / 8) ((packP true key 0 ([112] ++ s.take 40)).getD (K / 8) 0 ^^^ (UInt8.ofNat 1 <<< UInt8.ofNat (K % 8)))).length 1, .err 269 (0) (offE eo (0))]), 44, true⟩), (1144, some ⟨.aggB ((packP true key 0 ([112] ++ s.take 40)).set (K / 8) ((packP true key 0 ([112] ++ s.take 40)).getD (K / 8) 0 ^^^ (UInt8.ofNat 1 <<< UInt8.ofNat (K % 8)))), 5, true⟩)]) [(500, 1128)] [(1144, 1000)] (pfeed_0 true key 0 ((packP true key 0 ([112] ++ s.take 40)).set (K / 8) ((packP true key 0 ([112] ++ s.take 40)).getD (K / 8) 0 ^^^ (UInt8.ofNat 1 <<< UInt8.ofNat (K % 8)))) (by rw [List.length_set]; omega) (by rw [List.length_set]; omega) eo) Tryz.func19 (by kernel_rfl) rfl rfl rfl (⟨⟨_, rfl, rfl, rfl⟩, ⟨_, rfl, rfl, rfl⟩, trivial⟩) (⟨⟨_, _, rfl, rfl, rfl, rfl, id, rfl⟩, trivial⟩) (⟨⟨500, _, rfl, rfl, rfl, rfl, .inr ⟨rfl, _, rfl, rfl⟩⟩, ⟨1000, _, rfl, rfl, rfl, rfl, .inl rfl⟩, trivial⟩) (⟨(fun _ => ⟨1128, _, rfl, rfl⟩), trivial⟩) rfl) trivial rfl ?_
 refine .nil ?_
 show Ev _ _ _ _ _
 refine .seq ?_
 refine .region ?_
 refine dite ((firstP true key 0 (((packP true key 0 ([112] ++ s.take 40)).set (K / 8) ((packP true key 0 ([112] ++ s.take 40)).getD (K / 8) 0 ^^^ (UInt8.ofNat 1 <<< UInt8.ofNat (K % 8)))).drop 0)).2.2 = 0) (fun hE => dite ((firstP true key 0 (((packP true key 0 ([112] ++ s.take 40)).set (K / 8) ((packP true key 0 ([112] ++ s.take 40)).getD (K / 8) 0 ^^^ (UInt8.ofNat 1 <<< UInt8.ofNat (K % 8)))).drop 0)).2.1 = 0) (fun h0 => ?_) (fun h0 => ?_)) (fun hE => ?_)
 ·refine .q (op_call (U := []) [(500, 1128), (501, 1144)] [] (next_none_t e key hk 0 0 ((packP true key 0 ([112] ++ s.take 40)).set (K / 8) ((packP true key 0 ([112] ++ s.take 40)).getD (K / 8) 0 ^^^ (UInt8.ofNat 1 <<< UInt8.ofNat (K % 8)))).length ((packP true key 0 ([112] ++ s.take 40)).set (K / 8) ((packP true key 0 ([112] ++ s.take 40)).getD (K / 8) 0 ^^^ (UInt8.ofNat 1 <<< UInt8.ofNat (K % 8)))) (Nat.zero_add _) (by rw [List.length_set]; omega) hE h0 eo) Tryz.func21 (by kernel_rfl) rfl rfl rfl (⟨⟨_, rfl, rfl, rfl⟩, trivial⟩) (⟨⟨_, _, rfl, rfl, rfl, rfl, (fun h => by cases h), rfl⟩, ⟨_, _, rfl, rfl, rfl, rfl, (fun h => by cases h), rfl⟩, ⟨_, _, rfl, rfl, rfl, rfl, (fun h => by cases h), rfl⟩, ⟨_, _, rfl, rfl, rfl, rfl, (fun h => by cases h), rfl⟩, ⟨_, _, rfl, rfl, rfl, rfl, (fun h => by cases h), rfl⟩, ⟨_, _, rfl, rfl, rfl, rfl, (fun h => by cases h), rfl⟩, ⟨_, _, rfl, rfl, rfl, rfl, (fun h => by cases h), rfl⟩, trivial⟩) (trivial) (⟨(fun h => by cases h), (fun h => by cases h), (fun h => by cases h), (fun h => by cases h), (fun h => by cases h), (fun h => by cases h), (fun h => by cases h), trivial⟩) rfl) trivial rfl ?_
  refine .q (op_move rfl) trivial rfl ?_
  refine .q (op_extract rfl rfl) trivial rfl ?_
  refine .q (op_extract rfl rfl) trivial rfl ?_
  refine .q (op_extract rfl rfl) trivial rfl ?_
  refine .q (op_assign rfl) trivial rfl ?_
  refine .q (op_assign rfl) trivial rfl ?_
  refine .q (op_assign rfl) trivial rfl ?_
  refine .nil ?_
  show Ev _ _ _ _ _
  refine .seq ?_
  refine .drawn [[], [0], [], [2], [0, 1, 2, 3], [0, 1, 2, 3, 4], [0, 1, 2, 3, 4, 5], [0, 1, 2, 3, 4, 5], [0, 1, 2, 3, 4, 5], [0, 1, 2, 3, 4, 5], [0, 1, 2, 3, 4, 5, 6], [0, 1, 2, 3, 4, 5, 6, 7, 10], [0, 1, 2, 3, 4, 5, 6, 7, 8, 10, 11], [0, 1, 2, 3, 4, 5, 6, 7, 8, 9, 10, 11, 12]] [1, 2, 3, 4] [] (by kernel_rfl) (by kernel_rfl) rfl ?_
  show DK _ [0, 1, 2, 3, 4, 5, 6, 7, 8, 9, 10, 11, 12, 13] _ _ _
  refine .q rfl (op_move rfl) trivial ?_
  refine .q rfl (op_bytes_str Tryz.underlying33 Tryz.underlying5 Tryz.underlying9 rfl rfl rfl (by rw [List.length_set]; omega)) trivial ?_
  refine .as (.str (((packP true key 0 ([112] ++ s.take 40)).set (K / 8) ((packP true key 0 ([112] ++ s.take 40)).getD (K / 8) 0 ^^^ (UInt8.ofNat 1 <<< UInt8.ofNat (K % 8)))).drop 0)) (by rw [List.drop_zero, List.take_of_length_le (by rw [List.length_set]; exact Nat.le_refl _)]) ?_
  refine .q rfl (ap_slice_arr_hi Tryz.underlying24 inf5.sz rfl rfl (by first | omega | (simp [AV.len, hk]; done)) (by decide) rfl (by first | omega | (simp [AV.len, hk]; done))) trivial ?_
  refine .q rfl (op_bytes_str Tryz.underlying33 Tryz.underlying5 Tryz.underlying9 rfl rfl rfl (by first | omega | (simp [hk]; done))) trivial ?_
  refine .as (.str key) (by rw [List.drop_zero, List.take_of_length_le (Nat.le_of_eq hk)]) ?_
  refine .q rfl (op_call (U := []) [] [] (rread_ev true key hk 0 0 rfl (((packP true key 0 ([112] ++ s.take 40)).set (K / 8) ((packP true key 0 ([112] ++ s.take 40)).getD (K / 8) 0 ^^^ (UInt8.ofNat 1 <<< UInt8.ofNat (K % 8)))).drop 0) (by rw [List.length_drop, List.length_set]; omega)) Tryz.func20 (by kernel_rfl) rfl rfl rfl (⟨⟨_, rfl, rfl, rfl⟩, ⟨_, rfl, rfl, rfl⟩, ⟨_, rfl, rfl, rfl⟩, trivial⟩) (trivial) (trivial) (trivial) rfl) trivial ?_
  refine .q rfl (op_move rfl) trivial ?_
  refine .q rfl (op_extract rfl rfl) trivial ?_
  refine .q rfl (op_extract rfl rfl) trivial ?_
  refine .q rfl (op_extract rfl rfl) trivial ?_
  refine .q rfl (op_extract rfl rfl) trivial ?_
  refine .q rfl (op_assign rfl) trivial ?_
  refine .q rfl (op_assign rfl) trivial ?_
  refine .q rfl (op_assign rfl) trivial ?_
  refine .q rfl (op_assign rfl) trivial ?_
  refine .nil ?_
  show Ev _ _ _ _ _
  refine .seq ?_
  refine .region ?_
  refine .q (op_move rfl) trivial rfl ?_
  refine .q (op_move rfl) trivial rfl ?_
  refine .q (op_eqS rfl rfl rfl) trivial rfl ?_
  refine .q (op_move rfl) trivial rfl ?_
  refine .know (b' := true) (by rw [first_nil1 hE h0]; rfl) ?_
  refine .q (op_move rfl) ⟨_, rfl, rfl⟩ rfl ?_
  refine .q (op_move rfl) ⟨_, rfl, rfl⟩ rfl ?_
  refine .q (op_eqB Tryz.underlying4 rfl rfl rfl) ⟨_, rfl, rfl⟩ rfl ?_
  refine .q (op_pick_true rfl rfl rfl) trivial rfl ?_
  refine .q (op_move rfl) trivial rfl ?_
  refine .know (b' := true) (by unfold okV; rw [hE, h0]; rfl) ?_
  refine .q (op_move rfl) ⟨_, rfl, rfl⟩ rfl ?_
  refine .q (op_call (U := []) [] [] (code_0 eo hd) Tryz.func15 (by kernel_rfl) rfl rfl rfl (⟨⟨_, rfl, rfl, rfl⟩, trivial⟩) (⟨⟨_, _, rfl, rfl, rfl, rfl, (fun h => by cases h), rfl⟩, ⟨_, _, rfl, rfl, rfl, rfl, (fun h => by cases h), rfl⟩, ⟨_, _, rfl, rfl, rfl, rfl, (fun h => by cases h), rfl⟩, ⟨_, _, rfl, rfl, rfl, rfl, (fun h => by cases h), rfl⟩, ⟨_, _, rfl, rfl, rfl, rfl, (fun h => by cases h), rfl⟩, ⟨_, _, rfl, rfl, rfl, rfl, (fun h => by cases h), rfl⟩, ⟨_, _, rfl, rfl, rfl, rfl, (fun h => by cases h), rfl⟩, ⟨_, _, rfl, rfl, rfl, rfl, (fun h => by cases h), rfl⟩, ⟨_, _, rfl, rfl, rfl, rfl, (fun h => by cases h), rfl⟩, ⟨_, _, rfl, rfl, rfl, rfl, (fun h => by cases h), rfl⟩, ⟨_, _, rfl, rfl, rfl, rfl, (fun h => by cases h), rfl⟩, ⟨_, _, rfl, rfl, rfl, rfl, (fun h => by cases h), rfl⟩, ⟨_, _, rfl, rfl, rfl, rfl, (fun h => by cases h), rfl⟩, ⟨_, _, rfl, rfl, rfl, rfl, (fun h => by cases h), rfl⟩, ⟨_, _, rfl, rfl, rfl, rfl, (fun h => by cases h), rfl⟩, ⟨_, _, rfl, rfl, rfl, rfl, (fun h => by cases h), rfl⟩, ⟨_, _, rfl, rfl, rfl, rfl, (fun h => by cases h), rfl⟩, ⟨_, _, rfl, rfl, rfl, rfl, (fun h => by cases h), rfl⟩, ⟨_, _, rfl, rfl, rfl, rfl, (fun h => by cases h), rfl⟩, ⟨_, _, rfl, rfl, rfl, rfl, (fun h => by cases h), rfl⟩, ⟨_, _, rfl, rfl, rfl, rfl, (fun h => by cases h), rfl⟩, ⟨_, _, rfl, rfl, rfl, rfl, (fun h => by cases h), rfl⟩, ⟨_, _, rfl, rfl, rfl, rfl, (fun h => by cases h), rfl⟩, ⟨_, _, rfl, rfl, rfl, rfl, (fun h => by cases h), rfl⟩, ⟨_, _, rfl, rfl, rfl, rfl, (fun h => by cases h), rfl⟩, ⟨_, _, rfl, rfl, rfl, rfl, (fun h => by cases h), rfl⟩, ⟨_, _, rfl, rfl, rfl, rfl, (fun h => by cases h), rfl⟩, ⟨_, _, rfl, rfl, rfl, rfl, (fun h => by cases h), rfl⟩, ⟨_, _, rfl, rfl, rfl, rfl, (fun h => by cases h), rfl⟩, ⟨_, _, rfl, rfl, rfl, rfl, (fun h => by cases h), rfl⟩, ⟨_, _, rfl, rfl, rfl, rfl, (fun h => by cases h), rfl⟩, ⟨_, _, rfl, rfl, rfl, rfl, (fun h => by cases h), rfl⟩, ⟨_, _, rfl, rfl, rfl, rfl, (fun h => by cases h), rfl⟩, ⟨_, _, rfl, rfl, rfl, rfl, (fun h => by cases h), rfl⟩, ⟨_, _, rfl, rfl, rfl, rfl, (fun h => by cases h), rfl⟩, ⟨_, _, rfl, rfl, rfl, rfl, (fun h => by cases h), rfl⟩, ⟨_, _, rfl, rfl, rfl, rfl, (fun h => by cases h), rfl⟩, ⟨_, _, rfl, rfl, rfl, rfl, (fun h => by cases h), rfl⟩, ⟨_, _, rfl, rfl, rfl, rfl, (fun h => by cases h), rfl⟩, ⟨_, _, rfl, rfl, rfl, rfl, (fun h => by cases h), rfl⟩, trivial⟩) (trivial) (⟨(fun h => by cases h), (fun h => by cases h), (fun h => by cases h), (fun h => by cases h), (fun h => by cases h), (fun h => by cases h), (fun h => by cases h), (fun h => by cases h), (fun h => by cases h), (fun h => by cases h), (fun h => by cases h), (fun h => by cases h), (fun h => by cases h), (fun h => by cases h), (fun h => by cases h), (fun h => by cases h), (fun h => by cases h), (fun h => by cases h), (fun h => by cases h), (fun h => by cases h), (fun h => by cases h), (fun h => by cases h), (fun h => by cases h), (fun h => by cases h), (fun h => by cases h), (fun h => by cases h), (fun h => by cases h), (fun h => by cases h), (fun h => by cases h), (fun h => by cases h), (fun h => by cases h), (fun h => by cases h), (fun h => by cases h), (fun h => by cases h), (fun h => by cases h), (fun h => by cases h), (fun h => by cases h), (fun h => by cases h), (fun h => by cases h), (fun h => by cases h), trivial⟩) rfl) ⟨_, rfl, rfl⟩ rfl ?_
  refine .q (op_move rfl) ⟨_, rfl, rfl⟩ rfl ?_
  refine .q (op_cmpI rfl rfl rfl) ⟨_, rfl, rfl⟩ rfl ?_
  refine .q (op_pick_true rfl rfl rfl) trivial rfl ?_
  refine .q (op_move rfl) trivial rfl ?_
  refine .know (b' := true) (by rw [hE]; rfl) ?_
  refine .q (op_move rfl) ⟨_, rfl, rfl⟩ rfl ?_
  refine .q (op_move rfl) ⟨_, rfl, rfl⟩ rfl ?_
  refine .know (b' := false) (rfl) ?_
  refine .q (op_move rfl) ⟨_, rfl, rfl⟩ rfl ?_
  refine .q (op_eqErrNil (e := 0) Tryz.underlying36 rfl rfl) ⟨_, rfl, rfl⟩ rfl ?_
  refine .q (op_pick_false rfl rfl rfl) ⟨_, rfl, rfl⟩ rfl ?_
  refine .q (op_move rfl) ⟨_, rfl, rfl⟩ rfl ?_
  refine .know (b' := false) (rfl) ?_
  refine .q (op_move rfl) ⟨_, rfl, rfl⟩ rfl ?_
  refine .q (op_cmpI rfl rfl rfl) ⟨_, rfl, rfl⟩ rfl ?_
  refine .q (op_pick_false rfl rfl rfl) ⟨_, rfl, rfl⟩ rfl ?_
  refine .q (op_pick_true rfl rfl rfl) trivial rfl ?_
  refine .q (op_assign rfl) trivial rfl ?_
  refine .nil ?_
  show Ev _ _ _ _ _
  refine .ret ?_
  show RetOk _ _ _ _ _ _ _
  exact ret1v rfl (.inl rfl) rfl (congrArg AV.bool (by first | rfl | exact decide_eq_true (by have h9 := (Classical.byContradiction fun hc => set_none (by simp; omega) (show 4 ≤ K / 8 by omega) hE h0 : K / 8 < 4); omega))) trivial
 ·refine .a (op_call (U := [(1128, some ⟨dC true key 1 ([.sl 1144 (0 + (firstP true key 0 (((packP true key 0 ([112] ++ s.take 40)).set (K / 8) ((packP true key 0 ([112] ++ s.take 40)).getD (K / 8) 0 ^^^ (UInt8.ofNat 1 <<< UInt8.ofNat (K % 8)))).drop 0)).2.1) (((packP true key 0 ([112] ++ s.take 40)).set (K / 8) ((packP true key 0 ([112] ++ s.take 40)).getD (K / 8) 0 ^^^ (UInt8.ofNat 1 <<< UInt8.ofNat (K % 8)))).length - (firstP true key 0 (((packP true key 0 ([112] ++ s.take 40)).set (K / 8) ((packP true key 0 ([112] ++ s.take 40)).getD (K / 8) 0 ^^^ (UInt8.ofNat 1 <<< UInt8.ofNat (K % 8)))).drop 0)).2.1) 1, .err 269 (0) (offE eo (0))]), 44, true⟩)]) [(500, 1128), (501, 1144)] [] (next_ok_t e key hk 0 0 ((packP true key 0 ([112] ++ s.take 40)).set (K / 8) ((packP true key 0 ([112] ++ s.take 40)).getD (K / 8) 0 ^^^ (UInt8.ofNat 1 <<< UInt8.ofNat (K % 8)))).length ((packP true key 0 ([112] ++ s.take 40)).set (K / 8) ((packP true key 0 ([112] ++ s.take 40)).getD (K / 8) 0 ^^^ (UInt8.ofNat 1 <<< UInt8.ofNat (K % 8)))) (Nat.zero_add _) (by rw [List.length_set]; omega) hE h0 eo) Tryz.func21 (by kernel_rfl) rfl rfl rfl (⟨⟨_, rfl, rfl, rfl⟩, trivial⟩) (⟨⟨_, _, rfl, rfl, rfl, rfl, id, rfl⟩, ⟨_, _, rfl, rfl, rfl, rfl, (fun h => by cases h), rfl⟩, ⟨_, _, rfl, rfl, rfl, rfl, (fun h => by cases h), rfl⟩, ⟨_, _, rfl, rfl, rfl, rfl, (fun h => by cases h), rfl⟩, ⟨_, _, rfl, rfl, rfl, rfl, (fun h => by cases h), rfl⟩, ⟨_, _, rfl, rfl, rfl, rfl, (fun h => by cases h), rfl⟩, ⟨_, _, rfl, rfl, rfl, rfl, (fun h => by cases h), rfl⟩, trivial⟩) (⟨⟨500, _, rfl, rfl, rfl, rfl, .inr ⟨rfl, _, rfl, rfl⟩⟩, trivial⟩) (⟨(fun _ => ⟨1128, _, rfl, rfl⟩), (fun h => by cases h), (fun h => by cases h), (fun h => by cases h), (fun h => by cases h), (fun h => by cases h), (fun h => by cases h), trivial⟩) rfl) trivial rfl ?_
  refine .q (op_move rfl) trivial rfl ?_
  refine .q (op_extract rfl rfl) trivial rfl ?_
  refine .q (op_extract rfl rfl) trivial rfl ?_
  refine .q (op_extract rfl rfl) trivial rfl ?_
  refine .q (op_assign rfl) trivial rfl ?_
  refine .q (op_assign rfl) trivial rfl ?_
  refine .q (op_assign rfl) trivial rfl ?_
  refine .nil ?_
  show Ev _ _ _ _ _
  refine .seq ?_
  refine .drawn [[], [0], [], [2], [0, 1, 2, 3], [0, 1, 2, 3, 4], [0, 1, 2, 3, 4, 5], [0, 1, 2, 3, 4, 5], [0, 1, 2, 3, 4, 5], [0, 1, 2, 3, 4, 5], [0, 1, 2, 3, 4, 5, 6], [0, 1, 2, 3, 4, 5, 6, 7, 10], [0, 1, 2, 3, 4, 5, 6, 7, 8, 10, 11], [0, 1, 2, 3, 4, 5, 6, 7, 8, 9, 10, 11, 12]] [1, 2, 3, 4] [] (by kernel_rfl) (by kernel_rfl) rfl ?_
  show DK _ [0, 1, 2, 3, 4, 5, 6, 7, 8, 9, 10, 11, 12, 13] _ _ _
  refine .q rfl (op_move rfl) trivial ?_
  refine .q rfl (op_bytes_str Tryz.underlying33 Tryz.underlying5 Tryz.underlying9 rfl rfl rfl (by rw [List.length_set]; omega)) trivial ?_
  refine .as (.str (((packP true key 0 ([112] ++ s.take 40)).set (K / 8) ((packP true key 0 ([112] ++ s.take 40)).getD (K / 8) 0 ^^^ (UInt8.ofNat 1 <<< UInt8.ofNat (K % 8)))).drop 0)) (by rw [List.drop_zero, List.take_of_length_le (by rw [List.length_set]; exact Nat.le_refl _)]) ?_
  refine .q rfl (ap_slice_arr_hi Tryz.underlying24 inf5.sz rfl rfl (by first | omega | (simp [AV.len, hk]; done)) (by decide) rfl (by first | omega | (simp [AV.len, hk]; done))) trivial ?_
  refine .q rfl (op_bytes_str Tryz.underlying33 Tryz.underlying5 Tryz.underlying9 rfl rfl rfl (by first | omega | (simp [hk]; done))) trivial ?_
  refine .as (.str key) (by rw [List.drop_zero, List.take_of_length_le (Nat.le_of_eq hk)]) ?_
  refine .q rfl (op_call (U := []) [] [] (rread_ev true key hk 0 0 rfl (((packP true key 0 ([112] ++ s.take 40)).set (K / 8) ((packP true key 0 ([112] ++ s.take 40)).getD (K / 8) 0 ^^^ (UInt8.ofNat 1 <<< UInt8.ofNat (K % 8)))).drop 0) (by rw [List.length_drop, List.length_set]; omega)) Tryz.func20 (by kernel_rfl) rfl rfl rfl (⟨⟨_, rfl, rfl, rfl⟩, ⟨_, rfl, rfl, rfl⟩, ⟨_, rfl, rfl, rfl⟩, trivial⟩) (trivial) (trivial) (trivial) rfl) trivial ?_
  refine .q rfl (op_move rfl) trivial ?_
  refine .q rfl (op_extract rfl rfl) trivial ?_
  refine .q rfl (op_extract rfl rfl) trivial ?_
  refine .q rfl (op_extract rfl rfl) trivial ?_
  refine .q rfl (op_extract rfl rfl) trivial ?_
  refine .q rfl (op_assign rfl) trivial ?_
  refine .q rfl (op_assign rfl) trivial ?_
  refine .q rfl (op_assign rfl) trivial ?_
  refine .q rfl (op_assign rfl) trivial ?_
  refine .nil ?_
  show Ev _ _ _ _ _
  refine .seq ?_
  refine .region ?_
  refine .q (op_move rfl) trivial rfl ?_
  refine .q (op_move rfl) trivial rfl ?_
  refine .q (op_eqS rfl rfl rfl) trivial rfl ?_
  refine .q (op_move rfl) trivial rfl ?_
  refine .know (b' := true) (beq_self_eq_true _) ?_
  refine .q (op_move rfl) ⟨_, rfl, rfl⟩ rfl ?_
  refine .q (op_move rfl) ⟨_, rfl, rfl⟩ rfl ?_
  refine .q (op_eqB Tryz.underlying4 rfl rfl rfl) ⟨_, rfl, rfl⟩ rfl ?_
  refine .q (op_pick_true rfl rfl rfl) trivial rfl ?_
  refine .q (op_move rfl) trivial rfl ?_
  refine .know (b' := true) (by rw [okV_y hE h0]; rfl) ?_
  refine .q (op_move rfl) ⟨_, rfl, rfl⟩ rfl ?_
  refine .q (op_call (U := []) [] [] (code_0 eo hd) Tryz.func15 (by kernel_rfl) rfl rfl rfl (⟨⟨_, rfl, rfl, rfl⟩, trivial⟩) (⟨⟨_, _, rfl, rfl, rfl, rfl, (fun h => by cases h), rfl⟩, ⟨_, _, rfl, rfl, rfl, rfl, (fun h => by cases h), rfl⟩, ⟨_, _, rfl, rfl, rfl, rfl, (fun h => by cases h), rfl⟩, ⟨_, _, rfl, rfl, rfl, rfl, (fun h => by cases h), rfl⟩, ⟨_, _, rfl, rfl, rfl, rfl, (fun h => by cases h), rfl⟩, ⟨_, _, rfl, rfl, rfl, rfl, (fun h => by cases h), rfl⟩, ⟨_, _, rfl, rfl, rfl, rfl, (fun h => by cases h), rfl⟩, ⟨_, _, rfl, rfl, rfl, rfl, (fun h => by cases h), rfl⟩, ⟨_, _, rfl, rfl, rfl, rfl, (fun h => by cases h), rfl⟩, ⟨_, _, rfl, rfl, rfl, rfl, (fun h => by cases h), rfl⟩, ⟨_, _, rfl, rfl, rfl, rfl, (fun h => by cases h), rfl⟩, ⟨_, _, rfl, rfl, rfl, rfl, (fun h => by cases h), rfl⟩, ⟨_, _, rfl, rfl, rfl, rfl, (fun h => by cases h), rfl⟩, ⟨_, _, rfl, rfl, rfl, rfl, (fun h => by cases h), rfl⟩, ⟨_, _, rfl, rfl, rfl, rfl, (fun h => by cases h), rfl⟩, ⟨_, _, rfl, rfl, rfl, rfl, (fun h => by cases h), rfl⟩, ⟨_, _, rfl, rfl, rfl, rfl, (fun h => by cases h), rfl⟩, ⟨_, _, rfl, rfl, rfl, rfl, (fun h => by cases h), rfl⟩, ⟨_, _, rfl, rfl, rfl, rfl, (fun h => by cases h), rfl⟩, ⟨_, _, rfl, rfl, rfl, rfl, (fun h => by cases h), rfl⟩, ⟨_, _, rfl, rfl, rfl, rfl, (fun h => by cases h), rfl⟩, ⟨_, _, rfl, rfl, rfl, rfl, (fun h => by cases h), rfl⟩, ⟨_, _, rfl, rfl, rfl, rfl, (fun h => by cases h), rfl⟩, ⟨_, _, rfl, rfl, rfl, rfl, (fun h => by cases h), rfl⟩, ⟨_, _, rfl, rfl, rfl, rfl, (fun h => by cases h), rfl⟩, ⟨_, _, rfl, rfl, rfl, rfl, (fun h => by cases h), rfl⟩, ⟨_, _, rfl, rfl, rfl, rfl, (fun h => by cases h), rfl⟩, ⟨_, _, rfl, rfl, rfl, rfl, (fun h => by cases h), rfl⟩, ⟨_, _, rfl, rfl, rfl, rfl, (fun h => by cases h), rfl⟩, ⟨_, _, rfl, rfl, rfl, rfl, (fun h => by cases h), rfl⟩, ⟨_, _, rfl, rfl, rfl, rfl, (fun h => by cases h), rfl⟩, ⟨_, _, rfl, rfl, rfl, rfl, (fun h => by cases h), rfl⟩, ⟨_, _, rfl, rfl, rfl, rfl, (fun h => by cases h), rfl⟩, ⟨_, _, rfl, rfl, rfl, rfl, (fun h => by cases h), rfl⟩, ⟨_, _, rfl, rfl, rfl, rfl, (fun h => by cases h), rfl⟩, ⟨_, _, rfl, rfl, rfl, rfl, (fun h => by cases h), rfl⟩, ⟨_, _, rfl, rfl, rfl, rfl, (fun h => by cases h), rfl⟩, ⟨_, _, rfl, rfl, rfl, rfl, (fun h => by cases h), rfl⟩, ⟨_, _, rfl, rfl, rfl, rfl, (fun h => by cases h), rfl⟩, ⟨_, _, rfl, rfl, rfl, rfl, (fun h => by cases h), rfl⟩, trivial⟩) (trivial) (⟨(fun h => by cases h), (fun h => by cases h), (fun h => by cases h), (fun h => by cases h), (fun h => by cases h), (fun h => by cases h), (fun h => by cases h), (fun h => by cases h), (fun h => by cases h), (fun h => by cases h), (fun h => by cases h), (fun h => by cases h), (fun h => by cases h), (fun h => by cases h), (fun h => by cases h), (fun h => by cases h), (fun h => by cases h), (fun h => by cases h), (fun h => by cases h), (fun h => by cases h), (fun h => by cases h), (fun h => by cases h), (fun h => by cases h), (fun h => by cases h), (fun h => by cases h), (fun h => by cases h), (fun h => by cases h), (fun h => by cases h), (fun h => by cases h), (fun h => by cases h), (fun h => by cases h), (fun h => by cases h), (fun h => by cases h), (fun h => by cases h), (fun h => by cases h), (fun h => by cases h), (fun h => by cases h), (fun h => by cases h), (fun h => by cases h), (fun h => by cases h), trivial⟩) rfl) ⟨_, rfl, rfl⟩ rfl ?_
  refine .q (op_move rfl) ⟨_, rfl, rfl⟩ rfl ?_
  refine .q (op_cmpI rfl rfl rfl) ⟨_, rfl, rfl⟩ rfl ?_
  refine .q (op_pick_true rfl rfl rfl) trivial rfl ?_
  refine .q (op_move rfl) trivial rfl ?_
  refine .know (b' := true) (by rw [hE]; rfl) ?_
  refine .q (op_move rfl) ⟨_, rfl, rfl⟩ rfl ?_
  refine .q (op_move rfl) ⟨_, rfl, rfl⟩ rfl ?_
  refine .know (b' := true) (rfl) ?_
  refine .no ⟨_, rfl, rfl⟩ rfl ?_
  refine .no ⟨_, rfl, rfl⟩ rfl ?_
  refine .q (op_pick_true rfl rfl rfl) ⟨_, rfl, rfl⟩ rfl ?_
  refine .q (op_move rfl) ⟨_, rfl, rfl⟩ rfl ?_
  refine .no ⟨_, rfl, rfl⟩ rfl ?_
  refine .no ⟨_, rfl, rfl⟩ rfl ?_
  refine .q (op_pick_true rfl rfl rfl) ⟨_, rfl, rfl⟩ rfl ?_
  refine .q (op_pick_true rfl rfl rfl) trivial rfl ?_
  refine .q (op_assign rfl) trivial rfl ?_
  refine .nil ?_
  show Ev _ _ _ _ _
  refine .ret ?_
  show RetOk _ _ _ _ _ _ _
  exact ret1v rfl (.inl rfl) rfl (congrArg AV.bool (by first | rfl | exact decide_eq_true (by have h9 := (Classical.byContradiction fun hc => set_none (by simp; omega) (show 4 ≤ K / 8 by omega) hE h0 : K / 8 < 4); omega))) trivial
 ·refine .a (op_call (U := [(1128, some ⟨dC true key 0 ([.nilsl, .ifc 102 (.ptr 1152 0)]), 44, true⟩), (1152, some ⟨.agg [.str [112, 97, 99, 107, 101, 116], .err 269 (((firstP true key 0 (((packP true key 0 ([112] ++ s.take 40)).set (K / 8) ((packP true key 0 ([112] ++ s.take 40)).getD (K / 8) 0 ^^^ (UInt8.ofNat 1 <<< UInt8.ofNat (K % 8)))).drop 0)).2.2 - 1) + 1) (offE eo (((firstP true key 0 (((packP true key 0 ([112] ++ s.take 40)).set (K / 8) ((packP true key 0 ([112] ++ s.take 40)).getD (K / 8) 0 ^^^ (UInt8.ofNat 1 <<< UInt8.ofNat (K % 8)))).drop 0)).2.2 - 1) + 1))], 106, true⟩)]) [(500, 1128), (501, 1144)] [(1152, 1000)] (next_bad_t e key hk 0 0 ((packP true key 0 ([112] ++ s.take 40)).set (K / 8) ((packP true key 0 ([112] ++ s.take 40)).getD (K / 8) 0 ^^^ (UInt8.ofNat 1 <<< UInt8.ofNat (K % 8)))).length ((packP true key 0 ([112] ++ s.take 40)).set (K / 8) ((packP true key 0 ([112] ++ s.take 40)).getD (K / 8) 0 ^^^ (UInt8.ofNat 1 <<< UInt8.ofNat (K % 8)))) (Nat.zero_add _) (by rw [List.length_set]; omega) ((firstP true key 0 (((packP true key 0 ([112] ++ s.take 40)).set (K / 8) ((packP true key 0 ([112] ++ s.take 40)).getD (K / 8) 0 ^^^ (UInt8.ofNat 1 <<< UInt8.ofNat (K % 8)))).drop 0)).2.2 - 1) (by omega) eo) Tryz.func21 (by kernel_rfl) rfl rfl rfl (⟨⟨_, rfl, rfl, rfl⟩, trivial⟩) (⟨⟨_, _, rfl, rfl, rfl, rfl, id, rfl⟩, ⟨_, _, rfl, rfl, rfl, rfl, (fun h => by cases h), rfl⟩, ⟨_, _, rfl, rfl, rfl, rfl, (fun h => by cases h), rfl⟩, ⟨_, _, rfl, rfl, rfl, rfl, (fun h => by cases h), rfl⟩, ⟨_, _, rfl, rfl, rfl, rfl, (fun h => by cases h), rfl⟩, ⟨_, _, rfl, rfl, rfl, rfl, (fun h => by cases h), rfl⟩, ⟨_, _, rfl, rfl, rfl, rfl, (fun h => by cases h), rfl⟩, trivial⟩) (⟨⟨500, _, rfl, rfl, rfl, rfl, .inr ⟨rfl, _, rfl, rfl⟩⟩, ⟨1000, _, rfl, rfl, rfl, rfl, .inl rfl⟩, trivial⟩) (⟨(fun _ => ⟨1128, _, rfl, rfl⟩), (fun h => by cases h), (fun h => by cases h), (fun h => by cases h), (fun h => by cases h), (fun h => by cases h), (fun h => by cases h), trivial⟩) rfl) trivial rfl ?_
  refine .q (op_move rfl) trivial rfl ?_
  refine .q (op_extract rfl rfl) trivial rfl ?_
  refine .q (op_extract rfl rfl) trivial rfl ?_
  refine .q (op_extract rfl rfl) trivial rfl ?_
  refine .q (op_assign rfl) trivial rfl ?_
  refine .q (op_assign rfl) trivial rfl ?_
  refine .q (op_assign rfl) trivial rfl ?_
  refine .nil ?_
  show Ev _ _ _ _ _
  refine .seq ?_
  refine .drawn [[], [0], [], [2], [0, 1, 2, 3], [0, 1, 2, 3, 4], [0, 1, 2, 3, 4, 5], [0, 1, 2, 3, 4, 5], [0, 1, 2, 3, 4, 5], [0, 1, 2, 3, 4, 5], [0, 1, 2, 3, 4, 5, 6], [0, 1, 2, 3, 4, 5, 6, 7, 10], [0, 1, 2, 3, 4, 5, 6, 7, 8, 10, 11], [0, 1, 2, 3, 4, 5, 6, 7, 8, 9, 10, 11, 12]] [1, 2, 3, 4] [] (by kernel_rfl) (by kernel_rfl) rfl ?_
  show DK _ [0, 1, 2, 3, 4, 5, 6, 7, 8, 9, 10, 11, 12, 13] _ _ _
  refine .q rfl (op_move rfl) trivial ?_
  refine .q rfl (op_bytes_str Tryz.underlying33 Tryz.underlying5 Tryz.underlying9 rfl rfl rfl (by rw [List.length_set]; omega)) trivial ?_
  refine .as (.str (((packP true key 0 ([112] ++ s.take 40)).set (K / 8) ((packP true key 0 ([112] ++ s.take 40)).getD (K / 8) 0 ^^^ (UInt8.ofNat 1 <<< UInt8.ofNat (K % 8)))).drop 0)) (by rw [List.drop_zero, List.take_of_length_le (by rw [List.length_set]; exact Nat.le_refl _)]) ?_
  refine .q rfl (ap_slice_arr_hi Tryz.underlying24 inf5.sz rfl rfl (by first | omega | (simp [AV.len, hk]; done)) (by decide) rfl (by first | omega | (simp [AV.len, hk]; done))) trivial ?_
  refine .q rfl (op_bytes_str Tryz.underlying33 Tryz.underlying5 Tryz.underlying9 rfl rfl rfl (by first | omega | (simp [hk]; done))) trivial ?_
  refine .as (.str key) (by rw [List.drop_zero, List.take_of_length_le (Nat.le_of_eq hk)]) ?_
  refine .q rfl (op_call (U := []) [] [] (rread_ev true key hk 0 0 rfl (((packP true key 0 ([112] ++ s.take 40)).set (K / 8) ((packP true key 0 ([112] ++ s.take 40)).getD (K / 8) 0 ^^^ (UInt8.ofNat 1 <<< UInt8.ofNat (K % 8)))).drop 0) (by rw [List.length_drop, List.length_set]; omega)) Tryz.func20 (by kernel_rfl) rfl rfl rfl (⟨⟨_, rfl, rfl, rfl⟩, ⟨_, rfl, rfl, rfl⟩, ⟨_, rfl, rfl, rfl⟩, trivial⟩) (trivial) (trivial) (trivial) rfl) trivial ?_
  refine .q rfl (op_move rfl) trivial ?_
  refine .q rfl (op_extract rfl rfl) trivial ?_
  refine .q rfl (op_extract rfl rfl) trivial ?_
  refine .q rfl (op_extract rfl rfl) trivial ?_
  refine .q rfl (op_extract rfl rfl) trivial ?_
  refine .q rfl (op_assign rfl) trivial ?_
  refine .q rfl (op_assign rfl) trivial ?_
  refine .q rfl (op_assign rfl) trivial ?_
  refine .q rfl (op_assign rfl) trivial ?_
  refine .nil ?_
  show Ev _ _ _ _ _
  refine .seq ?_
  refine .region ?_
  refine .q (op_move rfl) trivial rfl ?_
  refine .q (op_move rfl) trivial rfl ?_
  refine .q (op_eqS rfl rfl rfl) trivial rfl ?_
  refine .q (op_move rfl) trivial rfl ?_
  refine .know (b' := true) (by rw [first_bad1 hE]; rfl) ?_
  refine .q (op_move rfl) ⟨_, rfl, rfl⟩ rfl ?_
  refine .q (op_move rfl) ⟨_, rfl, rfl⟩ rfl ?_
  refine .q (op_eqB Tryz.underlying4 rfl rfl rfl) ⟨_, rfl, rfl⟩ rfl ?_
  refine .q (op_pick_true rfl rfl rfl) trivial rfl ?_
  refine .q (op_move rfl) trivial rfl ?_
  refine .know (b' := true) (by unfold okV; rw [beq_eq_false_iff_ne.2 hE]; rfl) ?_
  refine .q (op_move rfl) ⟨_, rfl, rfl⟩ rfl ?_
  refine .q (op_call (U := []) [(500, 1152)] [] (codeF_ev eo hd [112, 97, 99, 107, 101, 116] 106 ((firstP true key 0 (((packP true key 0 ([112] ++ s.take 40)).set (K / 8) ((packP true key 0 ([112] ++ s.take 40)).getD (K / 8) 0 ^^^ (UInt8.ofNat 1 <<< UInt8.ofNat (K % 8)))).drop 0)).2.2 - 1) (by have h9 := first_code true key 0 (((packP true key 0 ([112] ++ s.take 40)).set (K / 8) ((packP true key 0 ([112] ++ s.take 40)).getD (K / 8) 0 ^^^ (UInt8.ofNat 1 <<< UInt8.ofNat (K % 8)))).drop 0); omega)) Tryz.func15 (by kernel_rfl) rfl rfl rfl (⟨⟨_, rfl, rfl, rfl⟩, trivial⟩) (⟨⟨_, _, rfl, rfl, rfl, rfl, (fun h => by cases h), rfl⟩, ⟨_, _, rfl, rfl, rfl, rfl, (fun h => by cases h), rfl⟩, ⟨_, _, rfl, rfl, rfl, rfl, (fun h => by cases h), rfl⟩, ⟨_, _, rfl, rfl, rfl, rfl, (fun h => by cases h), rfl⟩, ⟨_, _, rfl, rfl, rfl, rfl, (fun h => by cases h), rfl⟩, ⟨_, _, rfl, rfl, rfl, rfl, (fun h => by cases h), rfl⟩, ⟨_, _, rfl, rfl, rfl, rfl, (fun h => by cases h), rfl⟩, ⟨_, _, rfl, rfl, rfl, rfl, (fun h => by cases h), rfl⟩, ⟨_, _, rfl, rfl, rfl, rfl, (fun h => by cases h), rfl⟩, ⟨_, _, rfl, rfl, rfl, rfl, (fun h => by cases h), rfl⟩, ⟨_, _, rfl, rfl, rfl, rfl, (fun h => by cases h), rfl⟩, ⟨_, _, rfl, rfl, rfl, rfl, (fun h => by cases h), rfl⟩, ⟨_, _, rfl, rfl, rfl, rfl, (fun h => by cases h), rfl⟩, ⟨_, _, rfl, rfl, rfl, rfl, (fun h => by cases h), rfl⟩, ⟨_, _, rfl, rfl, rfl, rfl, (fun h => by cases h), rfl⟩, ⟨_, _, rfl, rfl, rfl, rfl, (fun h => by cases h), rfl⟩, ⟨_, _, rfl, rfl, rfl, rfl, (fun h => by cases h), rfl⟩, ⟨_, _, rfl, rfl, rfl, rfl, (fun h => by cases h), rfl⟩, ⟨_, _, rfl, rfl, rfl, rfl, (fun h => by cases h), rfl⟩, ⟨_, _, rfl, rfl, rfl, rfl, (fun h => by cases h), rfl⟩, ⟨_, _, rfl, rfl, rfl, rfl, (fun h => by cases h), rfl⟩, ⟨_, _, rfl, rfl, rfl, rfl, (fun h => by cases h), rfl⟩, ⟨_, _, rfl, rfl, rfl, rfl, (fun h => by cases h), rfl⟩, ⟨_, _, rfl, rfl, rfl, rfl, (fun h => by cases h), rfl⟩, ⟨_, _, rfl, rfl, rfl, rfl, (fun h => by cases h), rfl⟩, ⟨_, _, rfl, rfl, rfl, rfl, (fun h => by cases h), rfl⟩, ⟨_, _, rfl, rfl, rfl, rfl, (fun h => by cases h), rfl⟩, ⟨_, _, rfl, rfl, rfl, rfl, (fun h => by cases h), rfl⟩, ⟨_, _, rfl, rfl, rfl, rfl, (fun h => by cases h), rfl⟩, ⟨_, _, rfl, rfl, rfl, rfl, (fun h => by cases h), rfl⟩, ⟨_, _, rfl, rfl, rfl, rfl, (fun h => by cases h), rfl⟩, ⟨_, _, rfl, rfl, rfl, rfl, (fun h => by cases h), rfl⟩, ⟨_, _, rfl, rfl, rfl, rfl, (fun h => by cases h), rfl⟩, ⟨_, _, rfl, rfl, rfl, rfl, (fun h => by cases h), rfl⟩, ⟨_, _, rfl, rfl, rfl, rfl, (fun h => by cases h), rfl⟩, ⟨_, _, rfl, rfl, rfl, rfl, (fun h => by cases h), rfl⟩, ⟨_, _, rfl, rfl, rfl, rfl, (fun h => by cases h), rfl⟩, ⟨_, _, rfl, rfl, rfl, rfl, (fun h => by cases h), rfl⟩, ⟨_, _, rfl, rfl, rfl, rfl, (fun h => by cases h), rfl⟩, ⟨_, _, rfl, rfl, rfl, rfl, (fun h => by cases h), rfl⟩, ⟨_, _, rfl, rfl, rfl, rfl, (fun h => by cases h), rfl⟩, trivial⟩) (trivial) (⟨(fun h => by cases h), (fun h => by cases h), (fun h => by cases h), (fun h => by cases h), (fun h => by cases h), (fun h => by cases h), (fun h => by cases h), (fun h => by cases h), (fun h => by cases h), (fun h => by cases h), (fun h => by cases h), (fun h => by cases h), (fun h => by cases h), (fun h => by cases h), (fun h => by cases h), (fun h => by cases h), (fun h => by cases h), (fun h => by cases h), (fun h => by cases h), (fun h => by cases h), (fun h => by cases h), (fun h => by cases h), (fun h => by cases h), (fun h => by cases h), (fun h => by cases h), (fun h => by cases h), (fun h => by cases h), (fun h => by cases h), (fun h => by cases h), (fun h => by cases h), (fun h => by cases h), (fun h => by cases h), (fun h => by cases h), (fun h => by cases h), (fun h => by cases h), (fun h => by cases h), (fun h => by cases h), (fun h => by cases h), (fun h => by cases h), (fun h => by cases h), (fun h => by cases h), trivial⟩) rfl) ⟨_, rfl, rfl⟩ rfl ?_
  refine .q (op_move rfl) ⟨_, rfl, rfl⟩ rfl ?_
  refine .q (op_cmpI rfl rfl rfl) ⟨_, rfl, rfl⟩ rfl ?_
  refine .q (op_pick_true rfl rfl rfl) trivial rfl ?_
  refine .q (op_move rfl) trivial rfl ?_
  refine .know (b' := true) (decide_eq_true (by omega)) ?_
  refine .q (op_move rfl) ⟨_, rfl, rfl⟩ rfl ?_
  refine .q (op_move rfl) ⟨_, rfl, rfl⟩ rfl ?_
  refine .know (b' := false) (rfl) ?_
  refine .q (op_move rfl) ⟨_, rfl, rfl⟩ rfl ?_
  refine .q (op_eqIfcNil Tryz.underlying36 rfl rfl) ⟨_, rfl, rfl⟩ rfl ?_
  refine .q (op_pick_false rfl rfl rfl) ⟨_, rfl, rfl⟩ rfl ?_
  refine .q (op_move rfl) ⟨_, rfl, rfl⟩ rfl ?_
  refine .know (b' := true) (rfl) ?_
  refine .no ⟨_, rfl, rfl⟩ rfl ?_
  refine .no ⟨_, rfl, rfl⟩ rfl ?_
  refine .q (op_pick_true rfl rfl rfl) ⟨_, rfl, rfl⟩ rfl ?_
  refine .q (op_pick_true rfl rfl rfl) trivial rfl ?_
  refine .q (op_assign rfl) trivial rfl ?_
  refine .nil ?_
  show Ev _ _ _ _ _
  refine .ret ?_
  show RetOk _ _ _ _ _ _ _
  exact ret1v rfl (.inl rfl) rfl (congrArg AV.bool (by first | rfl | exact decide_eq_true (by have h9 := (Classical.byContradiction fun hc => set_none (by simp; omega) (show 4 ≤ K / 8 by omega) hE h0 : K / 8 < 4); omega))) trivial
theorem packetTurned_ev (eo : Nat → Nat × Nat) (hd : ∀ i j, i < 20 → j < 20 → i ≠ j → eo i ≠ eo j) (e : Nat) (key : List UInt8) (hk : key.length = 32) (s : List UInt8) (hs : s.length ≤ maxLen) (at_ : Int) : Meets Tryz.prog 5 [.aggB key, .str s, .i64 at_] [(22, some ⟨.aggI qsTab, e, false⟩), (2, some ⟨.agg [.err 269 (1) (offE eo (1))], errT, false⟩), (0, some ⟨.agg [.err 269 (2) (offE eo (2))], errT, false⟩), (3, some ⟨.agg [.err 269 (3) (offE eo (3))], errT, false⟩), (1, some ⟨.agg [.err 269 (4) (offE eo (4))], errT, false⟩), (4, some ⟨.agg [.err 269 (5) (offE eo (5))], errT, false⟩), (5, some ⟨.agg [.err 269 (6) (offE eo (6))], errT, false⟩), (6, some ⟨.agg [.err 269 (7) (offE eo (7))], errT, false⟩), (7, some ⟨.agg [.err 269 (8) (offE eo (8))], errT, false⟩), (8, some ⟨.agg [.err 269 (9) (offE eo (9))], errT, false⟩), (9, some ⟨.agg [.err 269 (10) (offE eo (10))], errT, false⟩), (10, some ⟨.agg [.err 269 (11) (offE eo (11))], errT, false⟩), (11, some ⟨.agg [.err 269 (12) (offE eo (12))], errT, false⟩), (12, some ⟨.agg [.err 269 (13) (offE eo (13))], errT, false⟩), (13, some ⟨.agg [.err 269 (14) (offE eo (14))], errT, false⟩), (14, some ⟨.agg [.err 269 (15) (offE eo (15))], errT, false⟩), (15, some ⟨.agg [.err 269 (16) (offE eo (16))], errT, false⟩), (16, some ⟨.agg [.err 269 (17) (offE eo (17))], errT, false⟩), (17, some ⟨.agg [.err 269 (18) (offE eo (18))], errT, false⟩), (18, some ⟨.agg [.err 269 (19) (offE eo (19))], errT, false⟩), (19, some ⟨.agg [.err 269 (20) (offE eo (20))], errT, false⟩), (401, some ⟨.agg [], errT, false⟩), (402, some ⟨.agg [], errT, false⟩), (403, some ⟨.agg [], errT, false⟩), (404, some ⟨.agg [], errT, false⟩), (405, some ⟨.agg [], errT, false⟩), (406, some ⟨.agg [], errT, false⟩), (407, some ⟨.agg [], errT, false⟩), (408, some ⟨.agg [], errT, false⟩), (409, some ⟨.agg [], errT, false⟩), (410, some ⟨.agg [], errT, false⟩), (411, some ⟨.agg [], errT, false⟩), (412, some ⟨.agg [], errT, false⟩), (413, some ⟨.agg [], errT, false⟩), (414, some ⟨.agg [], errT, false⟩), (415, some ⟨.agg [], errT, false⟩), (416, some ⟨.agg [], errT, false⟩), (417, some ⟨.agg [], errT, false⟩), (418, some ⟨.agg [], errT, false⟩), (419, some ⟨.agg [], errT, false⟩), (420, some ⟨.agg [], errT, false⟩)] (.bool true) [] := by
 have hlp := length_packP true key 0 ([112] ++ s.take 40)
 have hp0 : 0 < (((packP true key 0 ([112] ++ s.take 40)).length * 8 : Nat) : Int) := by omega
 have h0 := Int.emod_nonneg (at_ % ((2 ^ 16 : Nat) : Int)) (b := (((packP true key 0 ([112] ++ s.take 40)).length * 8 : Nat) : Int)) (by omega)
 have h1 := Int.emod_lt_of_pos (at_ % ((2 ^ 16 : Nat) : Int)) hp0
 exact packetTurned_w eo hd e key hk s hs at_ (at_ % ((2 ^ 16 : Nat) : Int) % (((packP true key 0 ([112] ++ s.take 40)).length * 8 : Nat) : Int)).toNat (by omega) (by omega)
end Go.Proofs.YtdmlpblaelfdmaaGreatDoor
