/-
  Texts of this claim.
-/
import Derived.Test.YtaelhapmikijnaaGreatDoorGR
import Derived.Test.YtaelhapmikijnaaGreatDoorGN
namespace Go.Proofs.YtaelhapmikijnaaGreatDoor
open Go.RowKit
theorem four_len {a b c d : List UInt8} {m : Nat} (ha : a.length ≤ m) (hb : b.length ≤ m) (hc : c.length ≤ m) (hd : d.length ≤ m) (j : Nat) : ([a, b, c, d].getD j []).length ≤ m := by
  match j with
  | 0 => exact ha
  | 1 => exact hb
  | 2 => exact hc
  | 3 => exact hd
  | j + 4 => exact Nat.zero_le _
def sigS (key : List UInt8) (flip : Int) : List UInt8 := (key ++ List.replicate 32 0).set 63 (ofI8 flip)
theorem sigS_len {key : List UInt8} (hk : key.length = 32) (flip : Int) : (sigS key flip).length = 64 := by simp [sigS, hk]
theorem bself {α : Type} [BEq α] [LawfulBEq α] (a : α) : (a != a) = false := by simp
theorem sig_list {key : List UInt8} (hk : key.length = 32) : (AV.aggB (key ++ List.replicate 32 0)).list = (AV.aggB (List.replicate 64 0)).list.take 0 ++ ((((AV.aggB key).list.drop 0).take (32 * 1))).take 32 ++ (AV.aggB (List.replicate 64 0)).list.drop (0 + 32) := by
  show (key ++ List.replicate 32 (0 : UInt8)).map AV.u8 = ((List.replicate 64 (0 : UInt8)).map AV.u8).take 0 ++ (((key.map AV.u8).drop 0).take (32 * 1)).take 32 ++ ((List.replicate 64 (0 : UInt8)).map AV.u8).drop (0 + 32)
  rw [List.drop_zero, show (key.map AV.u8).take (32 * 1) = key.map AV.u8 from List.take_of_length_le (by simp; omega), show (key.map AV.u8).take 32 = key.map AV.u8 from List.take_of_length_le (by simp; omega)]
  simp
set_option maxHeartbeats 8000000 in
set_option maxRecDepth 100000 in
theorem messageBlobs_ev (eo : Nat → Nat × Nat) (hd : ∀ i j, i < 20 → j < 20 → i ≠ j → eo i ≠ eo j) (ty : Nat) (key : List UInt8) (hk : key.length = 32) (s : List UInt8) (hs : s.length ≤ 9223372036854775807) (flip : Int) : Meets Tryz.prog 3 [.aggB key, .str s, .i64 flip] [(2, some ⟨.agg [.err 165 (1) (offE eo (1))], errT, false⟩), (3, some ⟨.agg [.err 165 (2) (offE eo (2))], errT, false⟩), (4, some ⟨.agg [.err 165 (3) (offE eo (3))], errT, false⟩), (5, some ⟨.agg [.err 165 (4) (offE eo (4))], errT, false⟩), (6, some ⟨.agg [.err 165 (5) (offE eo (5))], errT, false⟩), (7, some ⟨.agg [.err 165 (6) (offE eo (6))], errT, false⟩), (8, some ⟨.agg [.err 165 (7) (offE eo (7))], errT, false⟩), (9, some ⟨.agg [.err 165 (8) (offE eo (8))], errT, false⟩), (10, some ⟨.agg [.err 165 (9) (offE eo (9))], errT, false⟩), (0, some ⟨.agg [.err 165 (10) (offE eo (10))], errT, false⟩), (1, some ⟨.agg [.err 165 (11) (offE eo (11))], errT, false⟩), (11, some ⟨.agg [.err 165 (12) (offE eo (12))], errT, false⟩), (12, some ⟨.agg [.err 165 (13) (offE eo (13))], errT, false⟩), (13, some ⟨.agg [.err 165 (14) (offE eo (14))], errT, false⟩), (14, some ⟨.agg [.err 165 (15) (offE eo (15))], errT, false⟩), (15, some ⟨.agg [.err 165 (16) (offE eo (16))], errT, false⟩), (16, some ⟨.agg [.err 165 (17) (offE eo (17))], errT, false⟩), (17, some ⟨.agg [.err 165 (18) (offE eo (18))], errT, false⟩), (18, some ⟨.agg [.err 165 (19) (offE eo (19))], errT, false⟩), (19, some ⟨.agg [.err 165 (20) (offE eo (20))], errT, false⟩), (401, some ⟨.agg [], errT, false⟩), (402, some ⟨.agg [], errT, false⟩), (403, some ⟨.agg [], errT, false⟩), (404, some ⟨.agg [], errT, false⟩), (405, some ⟨.agg [], errT, false⟩), (406, some ⟨.agg [], errT, false⟩), (407, some ⟨.agg [], errT, false⟩), (408, some ⟨.agg [], errT, false⟩), (409, some ⟨.agg [], errT, false⟩), (410, some ⟨.agg [], errT, false⟩), (411, some ⟨.agg [], errT, false⟩), (412, some ⟨.agg [], errT, false⟩), (413, some ⟨.agg [], errT, false⟩), (414, some ⟨.agg [], errT, false⟩), (415, some ⟨.agg [], errT, false⟩), (416, some ⟨.agg [], errT, false⟩), (417, some ⟨.agg [], errT, false⟩), (418, some ⟨.agg [], errT, false⟩), (419, some ⟨.agg [], errT, false⟩), (420, some ⟨.agg [], errT, false⟩), (20, some ⟨.agg kindCells, errT, false⟩), (21, some ⟨hndE, ty, false⟩)] (.bool true) [] := by
 have hsg := sigS_len hk flip
 refine meets_of_ev (nt := 170) Tryz.func3 rfl rfl (Nat.le_of_ble_eq_true rfl) ?_
 refine .seq ?_
 refine .region ?_
 refine .a (op_boxRow rfl rfl) trivial rfl ?_
 refine .q (op_assign rfl) trivial rfl ?_
 refine .nil ?_
 show Ev _ _ _ _ _
 refine .seq ?_
 refine .seq ?_
 refine .region ?_
 refine .q (op_call (U := []) [] [] (awake10_ev eo) Tryz.func4 (by kernel_rfl) rfl rfl rfl (trivial) (⟨⟨_, _, rfl, rfl, rfl, rfl, (fun h => by cases h), rfl⟩, ⟨_, _, rfl, rfl, rfl, rfl, (fun h => by cases h), rfl⟩, ⟨_, _, rfl, rfl, rfl, rfl, (fun h => by cases h), rfl⟩, ⟨_, _, rfl, rfl, rfl, rfl, (fun h => by cases h), rfl⟩, trivial⟩) (trivial) (⟨(fun h => by cases h), (fun h => by cases h), (fun h => by cases h), (fun h => by cases h), trivial⟩) rfl) trivial rfl ?_
 refine .q (op_notB rfl) trivial rfl ?_
 refine .nil ?_
 show Ev _ _ _ _ _
 refine .cond_false rfl (rfl) ?_
 refine .skip ?_
 show Ev _ _ _ _ _
 refine .seq ?_
 refine .region ?_
 refine .q (op_move rfl) trivial rfl ?_
 refine .q (op_call (U := []) [] [] (cut_ev s 120 hs) Tryz.func5 (by kernel_rfl) rfl rfl rfl (⟨⟨_, rfl, rfl, rfl⟩, ⟨_, rfl, rfl, rfl⟩, trivial⟩) (trivial) (trivial) (trivial) rfl) trivial rfl ?_
 refine .q (op_assign rfl) trivial rfl ?_
 refine .nil ?_
 show Ev _ _ _ _ _
 refine .seq ?_
 refine .region ?_
 refine .a (op_allocRow zero25 rel_zero25 rfl) trivial rfl ?_
 refine .nil ?_
 show Ev _ _ _ _ _
 refine .seq ?_
 refine .drawnF [[], [], [0, 1]] [0, 1, 2] [] [(0, ([1008], [])), (1, ([1000], [])), (2, ([1000, 1008], [1008]))] (by kernel_rfl) (by kernel_rfl) rfl ?_
 show DK _ [0, 1, 2] _ _ _
 refine .q rfl (ap_slice_arr_hi Tryz.underlying25 inf5.sz rfl rfl (by first | (simp only [AV.len, List.length_replicate]; done) | (simp only [AV.len]; first | omega | assumption) | (simp only [AV.len, List.length_replicate]; omega) | (simp only [AV.len, List.length_replicate]; omega) | omega | (simp only [AV.len, List.length_set, List.length_append, List.length_replicate]; omega) | (simp only [AV.len, hsg]; done) | (simp only [AV.len, hk]; done)) (by decide) rfl (by first | (simp only [AV.len, List.length_replicate]; done) | (simp only [AV.len]; first | omega | assumption) | (simp only [AV.len, List.length_append, List.length_replicate]; omega) | (simp only [AV.len, List.length_replicate]; omega) | omega | (simp only [AV.len, List.length_set, List.length_append, List.length_replicate]; omega) | (simp only [AV.len, hsg]; done) | (simp only [AV.len, hk]; done))) trivial ?_
 refine .q rfl (ap_slice_arr_hi Tryz.underlying22 inf5.sz rfl rfl (by first | (simp only [AV.len]; done) | (simp only [AV.len]; first | omega | assumption) | (simp only [AV.len, List.length_append, List.length_replicate]; omega) | (simp only [AV.len, List.length_replicate]; omega) | omega | (simp only [AV.len, List.length_set, List.length_append, List.length_replicate]; omega) | (simp only [AV.len, hsg]; done) | (simp only [AV.len, hk]; done)) (by decide) rfl (by first | (simp only [AV.len, List.length_replicate]; done) | (simp only [AV.len]; first | omega | assumption) | (simp only [AV.len, List.length_append, List.length_replicate]; omega) | (simp only [AV.len, List.length_replicate]; omega) | omega | (simp only [AV.len, List.length_set, List.length_append, List.length_replicate]; omega) | (simp only [AV.len, hsg]; done) | (simp only [AV.len, hk]; done))) trivial ?_
 refine .a rfl (op_copy (q := 32) (c' := .aggB (key ++ List.replicate 32 0)) Tryz.underlying26 inf5.sz rfl rfl rfl (srcs_sl rfl rfl (by first | (simp only [AV.len]; done) | (simp only [AV.len]; first | omega | assumption) | (simp only [AV.len, List.length_append, List.length_replicate]; omega) | (simp only [AV.len, List.length_replicate]; omega) | omega | (simp only [AV.len, List.length_set, List.length_append, List.length_replicate]; omega) | (simp only [AV.len, hsg]; done) | (simp only [AV.len, hk]; done))) (by first | (simp only [AV.len, List.length_replicate]; done) | (simp only [AV.len]; first | omega | assumption) | (simp only [AV.len, List.length_replicate]; omega) | (simp only [AV.len, List.length_replicate]; omega) | omega | (simp only [AV.len, List.length_set, List.length_append, List.length_replicate]; omega) | (simp only [AV.len, hsg]; done) | (simp only [AV.len, hk]; done)) (by rfl) (sig_list hk)) trivial rfl rfl ?_
 refine .nil ?_
 show Ev _ _ _ _ _
 refine .seq ?_
 refine .region ?_
 refine .q (op_move rfl) trivial rfl ?_
 refine .q (op_conv Tryz.underlying3 Tryz.underlying5 rfl rfl) trivial rfl ?_
 refine .q (ap_idx_arr Tryz.underlying25 inf5.sz rfl rfl rfl (by first | (simp only [AV.len, List.length_replicate]; done) | (simp only [AV.len]; first | omega | assumption) | (simp only [AV.len, List.length_append, List.length_replicate]; omega) | (simp only [AV.len, List.length_replicate]; omega) | omega | (simp only [AV.len, List.length_set, List.length_append, List.length_replicate]; omega) | (simp only [AV.len, hsg]; done) | (simp only [AV.len, hk]; done))) trivial rfl ?_
 refine .w (op_store inf5.sz rfl rfl rfl rfl rfl (by first | (simp only [AV.len]; done) | (simp only [AV.len]; first | omega | assumption) | (simp only [AV.len, List.length_append, List.length_replicate]; omega) | (simp only [AV.len, List.length_replicate]; omega) | omega | (simp only [AV.len, List.length_set, List.length_append, List.length_replicate]; omega) | (simp only [AV.len, hsg]; done) | (simp only [AV.len, hk]; done))) trivial rfl ?_
 refine .nil ?_
 show Ev _ _ _ _ _
 refine .seq ?_
 refine .drawn [[], [0], [], [0, 1, 2], [0, 1, 2, 3], [0, 1, 2, 3, 4]] [0, 1, 2, 3] [] (by kernel_rfl) (by kernel_rfl) rfl ?_
 show DK _ [0, 1, 2, 3, 4, 5] _ _ _
 refine .q rfl (op_loadRow Tryz.underlying22 rfl sz22 rfl rfl rfl (by first | (simp only [AV.len]; done) | (simp only [AV.len]; first | omega | assumption) | (simp only [AV.len, List.length_append, List.length_replicate]; omega) | (simp only [AV.len, List.length_replicate]; omega) | omega | (simp only [AV.len, List.length_set, List.length_append, List.length_replicate]; omega) | (simp only [AV.len, hsg]; done) | (simp only [AV.len, hk]; done))) trivial ?_
 refine .q rfl (op_call (U := []) [] [] (keyBlob_ev key hk) Tryz.func6 (by kernel_rfl) rfl rfl rfl (⟨⟨_, rfl, rfl, rfl⟩, trivial⟩) (trivial) (trivial) (trivial) rfl) trivial ?_
 refine .q rfl (op_loadRow Tryz.underlying25 rfl sz25 rfl rfl rfl (by first | (simp only [AV.len]; done) | (simp only [AV.len]; first | omega | assumption) | (simp only [AV.len, List.length_append, List.length_replicate]; omega) | (simp only [AV.len, List.length_replicate]; omega) | omega | (simp only [AV.len, List.length_set, List.length_append, List.length_replicate]; omega) | (simp only [AV.len, hsg]; done) | (simp only [AV.len, hk]; done))) trivial ?_
 refine .q rfl (op_call (U := []) [] [] (signBlob_ev (sigS key flip) hsg) Tryz.func7 (by kernel_rfl) rfl rfl rfl (⟨⟨_, rfl, rfl, rfl⟩, trivial⟩) (trivial) (trivial) (trivial) rfl) trivial ?_
 refine .q rfl (op_assign rfl) trivial ?_
 refine .q rfl (op_assign rfl) trivial ?_
 refine .nil ?_
 show Ev _ _ _ _ _
 refine .seq ?_
 refine .region ?_
 refine .q (op_move rfl) trivial rfl ?_
 refine .q (op_call (U := []) [] [] (bk_ok (blobB key) (by rw [blobB_len]; omega) eo (by rw [unbD_blob key 32 10 hk (by decide)]) (by rw [unbD_blob key 32 10 hk (by decide)]; exact hk)) Tryz.func8 (by kernel_rfl) rfl rfl rfl (⟨⟨_, rfl, rfl, rfl⟩, trivial⟩) (⟨⟨_, _, rfl, rfl, rfl, rfl, (fun h => by cases h), rfl⟩, ⟨_, _, rfl, rfl, rfl, rfl, (fun h => by cases h), rfl⟩, ⟨_, _, rfl, rfl, rfl, rfl, (fun h => by cases h), rfl⟩, ⟨_, _, rfl, rfl, rfl, rfl, (fun h => by cases h), rfl⟩, trivial⟩) (trivial) (⟨(fun h => by cases h), (fun h => by cases h), (fun h => by cases h), (fun h => by cases h), trivial⟩) rfl) trivial rfl ?_
 refine .q (op_move rfl) trivial rfl ?_
 refine .as (.tup [.aggB key, .val .nilIface]) (by rw [unbD_blob key 32 10 hk (by decide)]; rfl) ?_
 refine .q (op_extract rfl rfl) trivial rfl ?_
 refine .q (op_extract rfl rfl) trivial rfl ?_
 refine .a (op_allocRow zero22 rel_zero22 rfl) trivial rfl ?_
 refine .w (op_storeRow sz22 rfl rfl rfl rfl rfl (by first | (simp only [AV.len]; done) | (simp only [AV.len]; first | omega | assumption) | (simp only [AV.len, List.length_append, List.length_replicate]; omega) | (simp only [AV.len, List.length_replicate]; omega) | omega | (simp only [AV.len, List.length_set, List.length_append, List.length_replicate]; omega) | (simp only [AV.len, hsg]; done) | (simp only [AV.len, hk]; done)) (by first | (simp only [AV.len, List.length_replicate]; done) | (simp only [AV.len]; first | omega | assumption) | (simp only [AV.len, List.length_append, List.length_replicate]; omega) | (simp only [AV.len, List.length_replicate]; omega) | omega | (simp only [AV.len, List.length_set, List.length_append, List.length_replicate]; omega) | (simp only [AV.len, hsg]; done) | (simp only [AV.len, hk]; done))) trivial rfl ?_
 refine .q (op_assign rfl) trivial rfl ?_
 refine .nil ?_
 show Ev _ _ _ _ _
 refine .seq ?_
 refine .region ?_
 refine .q (op_move rfl) trivial rfl ?_
 refine .q (op_call (U := []) [] [] (bs_ok (blobB (sigS key flip)) (by rw [blobB_len]; omega) eo (by rw [unbD_blob (sigS key flip) 64 11 hsg (by decide)]) (by rw [unbD_blob (sigS key flip) 64 11 hsg (by decide)]; exact hsg)) Tryz.func9 (by kernel_rfl) rfl rfl rfl (⟨⟨_, rfl, rfl, rfl⟩, trivial⟩) (⟨⟨_, _, rfl, rfl, rfl, rfl, (fun h => by cases h), rfl⟩, ⟨_, _, rfl, rfl, rfl, rfl, (fun h => by cases h), rfl⟩, ⟨_, _, rfl, rfl, rfl, rfl, (fun h => by cases h), rfl⟩, ⟨_, _, rfl, rfl, rfl, rfl, (fun h => by cases h), rfl⟩, trivial⟩) (trivial) (⟨(fun h => by cases h), (fun h => by cases h), (fun h => by cases h), (fun h => by cases h), trivial⟩) rfl) trivial rfl ?_
 refine .q (op_move rfl) trivial rfl ?_
 refine .as (.tup [.aggB (sigS key flip), .val .nilIface]) (by rw [unbD_blob (sigS key flip) 64 11 hsg (by decide)]; rfl) ?_
 refine .q (op_extract rfl rfl) trivial rfl ?_
 refine .q (op_extract rfl rfl) trivial rfl ?_
 refine .a (op_allocRow zero25 rel_zero25 rfl) trivial rfl ?_
 refine .w (op_storeRow sz25 rfl rfl rfl rfl rfl (by first | (simp only [AV.len]; done) | (simp only [AV.len]; first | omega | assumption) | (simp only [AV.len, List.length_append, List.length_replicate]; omega) | (simp only [AV.len, List.length_replicate]; omega) | omega | (simp only [AV.len, List.length_set, List.length_append, List.length_replicate]; omega) | (simp only [AV.len, hsg]; done) | (simp only [AV.len, hk]; done)) (by first | (simp only [AV.len, List.length_replicate]; done) | (simp only [AV.len]; first | omega | assumption) | (simp only [AV.len, List.length_append, List.length_replicate]; omega) | (simp only [AV.len, List.length_replicate]; omega) | omega | (simp only [AV.len, List.length_set, List.length_append, List.length_replicate]; omega) | (simp only [AV.len, hsg]; done) | (simp only [AV.len, hk]; done))) trivial rfl ?_
 refine .q (op_assign rfl) trivial rfl ?_
 refine .nil ?_
 show Ev _ _ _ _ _
 refine .seq ?_
 refine .seq ?_
 refine .region ?_
 refine .q (op_move rfl) trivial rfl ?_
 refine .q (ap_slice_arr_hi Tryz.underlying22 inf5.sz rfl rfl (by first | (simp only [AV.len]; done) | (simp only [AV.len]; first | omega | assumption) | (simp only [AV.len, List.length_append, List.length_replicate]; omega) | (simp only [AV.len, List.length_replicate]; omega) | omega | (simp only [AV.len, List.length_set, List.length_append, List.length_replicate]; omega) | (simp only [AV.len, hsg]; done) | (simp only [AV.len, hk]; done)) (by decide) rfl (by first | (simp only [AV.len, List.length_replicate]; done) | (simp only [AV.len]; first | omega | assumption) | (simp only [AV.len, List.length_append, List.length_replicate]; omega) | (simp only [AV.len, List.length_replicate]; omega) | omega | (simp only [AV.len, List.length_set, List.length_append, List.length_replicate]; omega) | (simp only [AV.len, hsg]; done) | (simp only [AV.len, hk]; done))) trivial rfl ?_
 refine .q (op_bytes_str Tryz.underlying26 Tryz.underlying5 Tryz.underlying9 rfl rfl rfl (by first | (simp only [AV.len, List.length_replicate]; done) | (simp only [AV.len]; first | omega | assumption) | (simp only [AV.len, List.length_append, List.length_replicate]; omega) | (simp only [AV.len, List.length_replicate]; omega) | omega | (simp only [AV.len, List.length_set, List.length_append, List.length_replicate]; omega) | (simp only [AV.len, hsg]; done) | (simp only [AV.len, hk]; done))) trivial rfl ?_
 refine .as (.str key) (congrArg AV.str (by rw [List.drop_zero, List.take_of_length_le (by omega)])) ?_
 refine .q (op_call (U := []) [] [] (rblob32 key hk) Tryz.func10 (by kernel_rfl) rfl rfl rfl (⟨⟨_, rfl, rfl, rfl⟩, trivial⟩) (trivial) (trivial) (trivial) rfl) trivial rfl ?_
 refine .q (op_eqS rfl rfl rfl) trivial rfl ?_
 refine .q (op_move rfl) trivial rfl ?_
 refine .know (b' := false) (bself _) ?_
 refine .q (op_move rfl) ⟨_, rfl, rfl⟩ rfl ?_
 refine .q (ap_slice_arr_hi Tryz.underlying25 inf5.sz rfl rfl (by first | (simp only [AV.len]; done) | (simp only [AV.len]; first | omega | assumption) | (simp only [AV.len]; omega) | (simp only [AV.len]; omega) | omega | (simp only [AV.len, List.length_set, List.length_append, List.length_replicate]; omega) | (simp only [AV.len, hsg]; done) | (simp only [AV.len, hk]; done)) (by decide) rfl (by first | (simp only [AV.len, List.length_replicate]; done) | (simp only [AV.len]; first | omega | assumption) | (simp only [AV.len, List.length_append, List.length_replicate]; omega) | (simp only [AV.len, List.length_replicate]; omega) | omega | (simp only [AV.len, List.length_set, List.length_append, List.length_replicate]; omega) | (simp only [AV.len, hsg]; done) | (simp only [AV.len, hk]; done))) ⟨_, rfl, rfl⟩ rfl ?_
 refine .q (op_bytes_str Tryz.underlying26 Tryz.underlying5 Tryz.underlying9 rfl rfl rfl (by first | (skip; done) | (skip; first | omega | assumption) | (skip; omega) | (skip; omega) | omega | (simp only [List.length_set, List.length_append, List.length_replicate]; omega) | (simp only [AV.len, hsg]; done) | (simp only [AV.len, hk]; done))) ⟨_, rfl, rfl⟩ rfl ?_
 refine .as (.str (sigS key flip)) (congrArg AV.str (by show ((sigS key flip).drop 0).take 64 = _; rw [List.drop_zero, List.take_of_length_le (Nat.le_of_eq hsg)])) ?_
 refine .q (op_call (U := []) [] [] (rblob64 (sigS key flip) hsg) Tryz.func10 (by kernel_rfl) rfl rfl rfl (⟨⟨_, rfl, rfl, rfl⟩, trivial⟩) (trivial) (trivial) (trivial) rfl) ⟨_, rfl, rfl⟩ rfl ?_
 refine .q (op_eqS rfl rfl rfl) ⟨_, rfl, rfl⟩ rfl ?_
 refine .q (op_pick_false rfl rfl rfl) trivial rfl ?_
 refine .q (op_move rfl) trivial rfl ?_
 refine .know (b' := false) (bself _) ?_
 refine .q (op_loadRow Tryz.underlying22 rfl sz22 rfl rfl rfl (by first | (simp only [AV.len]; done) | (simp only [AV.len]; first | omega | assumption) | (simp only [AV.len, List.length_append, List.length_replicate]; omega) | (simp only [AV.len, List.length_replicate]; omega) | omega | (simp only [AV.len, List.length_set, List.length_append, List.length_replicate]; omega) | (simp only [AV.len, hsg]; done) | (simp only [AV.len, hk]; done))) ⟨_, rfl, rfl⟩ rfl ?_
 refine .q (op_loadRow Tryz.underlying22 rfl sz22 rfl rfl rfl (by first | (simp only [AV.len]; done) | (simp only [AV.len]; first | omega | assumption) | (simp only [AV.len, List.length_append, List.length_replicate]; omega) | (simp only [AV.len, List.length_replicate]; omega) | omega | (simp only [AV.len, List.length_set, List.length_append, List.length_replicate]; omega) | (simp only [AV.len, hsg]; done) | (simp only [AV.len, hk]; done))) ⟨_, rfl, rfl⟩ rfl ?_
 refine .q (op_neqRow8 (n := 32) (by kernel_rfl) Tryz.underlying22 Tryz.underlying5 inf5.sz rfl rfl (by first | (simp only [AV.len, List.length_replicate]; done) | (simp only [AV.len]; first | omega | assumption) | (simp only [AV.len, List.length_append, List.length_replicate]; omega) | (simp only [AV.len, List.length_replicate]; omega) | omega | (simp only [AV.len, List.length_set, List.length_append, List.length_replicate]; omega) | (simp only [AV.len, hsg]; done) | (simp only [AV.len, hk]; done)) (by first | (simp only [AV.len, List.length_replicate]; done) | (simp only [AV.len]; first | omega | assumption) | (simp only [AV.len, List.length_append, List.length_replicate]; omega) | (simp only [AV.len, List.length_replicate]; omega) | omega | (simp only [AV.len, List.length_set, List.length_append, List.length_replicate]; omega) | (simp only [AV.len, hsg]; done) | (simp only [AV.len, hk]; done))) ⟨_, rfl, rfl⟩ rfl ?_
 refine .q (op_pick_false rfl rfl rfl) trivial rfl ?_
 refine .q (op_move rfl) trivial rfl ?_
 refine .know (b' := false) (bself _) ?_
 refine .q (op_loadRow Tryz.underlying25 rfl sz25 rfl rfl rfl (by first | (simp only [AV.len]; done) | (simp only [AV.len]; first | omega | assumption) | (simp only [AV.len, List.length_append, List.length_replicate]; omega) | (simp only [AV.len, List.length_replicate]; omega) | omega | (simp only [AV.len, List.length_set, List.length_append, List.length_replicate]; omega) | (simp only [AV.len, hsg]; done) | (simp only [AV.len, hk]; done))) ⟨_, rfl, rfl⟩ rfl ?_
 refine .q (op_loadRow Tryz.underlying25 rfl sz25 rfl rfl rfl (by first | (simp only [AV.len]; done) | (simp only [AV.len]; first | omega | assumption) | (simp only [AV.len, List.length_append, List.length_replicate]; omega) | (simp only [AV.len, List.length_replicate]; omega) | omega | (simp only [AV.len, List.length_set, List.length_append, List.length_replicate]; omega) | (simp only [AV.len, hsg]; done) | (simp only [AV.len, hk]; done))) ⟨_, rfl, rfl⟩ rfl ?_
 refine .q (op_neqRow8 (n := 64) (by kernel_rfl) Tryz.underlying25 Tryz.underlying5 inf5.sz rfl rfl (by first | (simp only [AV.len, List.length_replicate]; done) | (simp only [AV.len]; first | omega | assumption) | (simp only [AV.len, List.length_append, List.length_replicate]; omega) | (simp only [AV.len, List.length_replicate]; omega) | omega | (simp only [AV.len, List.length_set, List.length_append, List.length_replicate]; omega) | (simp only [AV.len, hsg]; done) | (simp only [AV.len, hk]; done)) (by first | (skip; done) | (skip; first | omega | assumption) | (simp only [AV.len, List.length_append, List.length_replicate]; omega) | (simp only [AV.len, List.length_replicate]; omega) | omega | (simp only [AV.len, List.length_set, List.length_append, List.length_replicate]; omega) | (simp only [AV.len, hsg]; done) | (simp only [AV.len, hk]; done))) ⟨_, rfl, rfl⟩ rfl ?_
 refine .q (op_pick_false rfl rfl rfl) trivial rfl ?_
 refine .q (op_move rfl) trivial rfl ?_
 refine .know (b' := false) (bself _) ?_
 refine .q (op_move rfl) ⟨_, rfl, rfl⟩ rfl ?_
 refine .q (op_eqNilNil Tryz.underlying30 rfl rfl) ⟨_, rfl, rfl⟩ rfl ?_
 refine .q (op_pick_false rfl rfl rfl) trivial rfl ?_
 refine .q (op_move rfl) trivial rfl ?_
 refine .know (b' := false) (rfl) ?_
 refine .q (op_move rfl) ⟨_, rfl, rfl⟩ rfl ?_
 refine .q (op_eqNilNil Tryz.underlying30 rfl rfl) ⟨_, rfl, rfl⟩ rfl ?_
 refine .q (op_pick_false rfl rfl rfl) trivial rfl ?_
 refine .nil ?_
 show Ev _ _ _ _ _
 refine .cond_false rfl (rfl) ?_
 refine .skip ?_
 show Ev _ _ _ _ _
 refine .seq ?_
 refine .seq ?_
 refine .region ?_
 have hbl : (blobB (sigS key flip)).length = 83 := by rw [blobB_len, hsg]
 have hkl : (blobB key).length = 51 := by rw [blobB_len, hk]
 have hsl : (s.take 120).length ≤ 120 := by rw [List.length_take]; omega
 have hLL : ∀ j, ([(s.take 120), (blobB key) ++ (s.take 120), (blobB (sigS key flip)).take (max 0 (min flip 83)).toNat, (blobB (sigS key flip))].getD j []).length ≤ 1000000 := four_len (by omega) (by rw [List.length_append]; omega) (by rw [List.length_take]; omega) (by omega)
 refine .q (op_move rfl) trivial rfl ?_
 refine .q (op_move rfl) trivial rfl ?_
 refine .q (op_move rfl) trivial rfl ?_
 refine .q (op_addS rfl rfl (by omega)) trivial rfl ?_
 refine .q (op_move rfl) trivial rfl ?_
 refine .q (op_move rfl) trivial rfl ?_
 refine .q (op_move rfl) trivial rfl ?_
 refine .q (op_len_str Tryz.underlying9 rfl) trivial rfl ?_
 refine .q (op_minI rfl rfl) trivial rfl ?_
 refine .q (op_maxI rfl rfl) trivial rfl ?_
 refine .as (.i64 (((max 0 (min flip 83)).toNat : Nat) : Int)) (congrArg AV.i64 (by rw [hbl]; omega)) ?_
 refine .q (ap_slice_str_hi Tryz.underlying9 rfl (bnd_some rfl rfl) (by rw [hbl]; omega)) trivial rfl ?_
 refine .q (op_move rfl) trivial rfl ?_
 refine .a (ap_build (us := [_, _, _, _]) (c := .aggS [(s.take 120), (blobB key) ++ (s.take 120), (blobB (sigS key flip)).take (max 0 (min flip 83)).toNat, (blobB (sigS key flip))]) Tryz.underlying36 inf9 rfl (by decide) (by decide) ⟨rfl, rfl, rfl, rfl, rfl, rfl, rfl, rfl, rfl, rfl, rfl, rfl, trivial⟩ rfl) trivial rfl ?_
 refine .q (op_len_sl Tryz.underlying36 rfl) trivial rfl ?_
 refine .q (op_move rfl) trivial rfl ?_
 refine .nil ?_
 show Ev _ _ _ _ _
 refine .block ?_
 refine Ev.loop (ι := { j : Nat // j ≤ 4 }) (fun j => ⟨[(88, .sl 1104 0 4 1), (89, .i64 4), (90, .i64 ((j.1 : Nat) : Int))], [(1104, some ⟨.aggS [(s.take 120), (blobB key) ++ (s.take 120), (blobB (sigS key flip)).take (max 0 (min flip 83)).toNat, (blobB (sigS key flip))], 9, true⟩), (2, some ⟨.agg [.err 165 (1) (offE eo (1))], errT, false⟩), (3, some ⟨.agg [.err 165 (2) (offE eo (2))], errT, false⟩), (4, some ⟨.agg [.err 165 (3) (offE eo (3))], errT, false⟩), (5, some ⟨.agg [.err 165 (4) (offE eo (4))], errT, false⟩), (6, some ⟨.agg [.err 165 (5) (offE eo (5))], errT, false⟩), (7, some ⟨.agg [.err 165 (6) (offE eo (6))], errT, false⟩), (8, some ⟨.agg [.err 165 (7) (offE eo (7))], errT, false⟩), (9, some ⟨.agg [.err 165 (8) (offE eo (8))], errT, false⟩), (10, some ⟨.agg [.err 165 (9) (offE eo (9))], errT, false⟩), (0, some ⟨.agg [.err 165 (10) (offE eo (10))], errT, false⟩), (1, some ⟨.agg [.err 165 (11) (offE eo (11))], errT, false⟩), (11, some ⟨.agg [.err 165 (12) (offE eo (12))], errT, false⟩), (12, some ⟨.agg [.err 165 (13) (offE eo (13))], errT, false⟩), (13, some ⟨.agg [.err 165 (14) (offE eo (14))], errT, false⟩), (14, some ⟨.agg [.err 165 (15) (offE eo (15))], errT, false⟩), (15, some ⟨.agg [.err 165 (16) (offE eo (16))], errT, false⟩), (16, some ⟨.agg [.err 165 (17) (offE eo (17))], errT, false⟩), (17, some ⟨.agg [.err 165 (18) (offE eo (18))], errT, false⟩), (18, some ⟨.agg [.err 165 (19) (offE eo (19))], errT, false⟩), (19, some ⟨.agg [.err 165 (20) (offE eo (20))], errT, false⟩), (401, some ⟨.agg [], errT, false⟩), (402, some ⟨.agg [], errT, false⟩), (403, some ⟨.agg [], errT, false⟩), (404, some ⟨.agg [], errT, false⟩), (405, some ⟨.agg [], errT, false⟩), (406, some ⟨.agg [], errT, false⟩), (407, some ⟨.agg [], errT, false⟩), (408, some ⟨.agg [], errT, false⟩), (409, some ⟨.agg [], errT, false⟩), (410, some ⟨.agg [], errT, false⟩), (411, some ⟨.agg [], errT, false⟩), (412, some ⟨.agg [], errT, false⟩), (413, some ⟨.agg [], errT, false⟩), (414, some ⟨.agg [], errT, false⟩), (415, some ⟨.agg [], errT, false⟩), (416, some ⟨.agg [], errT, false⟩), (417, some ⟨.agg [], errT, false⟩), (418, some ⟨.agg [], errT, false⟩), (419, some ⟨.agg [], errT, false⟩), (420, some ⟨.agg [], errT, false⟩), (21, some ⟨hndE, ty, false⟩)], 1112⟩) (fun j => 4 - j.1) ⟨0, Nat.zero_le _⟩ (StLe.mk [(1104, 1104)] rfl rfl ⟨⟨_, rfl, by first | rfl | (simp only [AV.ren]; congr 1; omega), rfl⟩, ⟨_, rfl, by first | rfl | (simp only [AV.ren]; congr 1; omega), rfl⟩, ⟨_, rfl, by first | rfl | (simp only [AV.ren]; congr 1; omega), rfl⟩, trivial⟩ ⟨⟨_, _, rfl, rfl, by first | rfl | (simp only [AV.ren]; congr 1; omega), rfl, id, rfl⟩, ⟨_, _, rfl, rfl, by first | rfl | (simp only [AV.ren]; congr 1; omega), rfl, id, rfl⟩, ⟨_, _, rfl, rfl, by first | rfl | (simp only [AV.ren]; congr 1; omega), rfl, id, rfl⟩, ⟨_, _, rfl, rfl, by first | rfl | (simp only [AV.ren]; congr 1; omega), rfl, id, rfl⟩, ⟨_, _, rfl, rfl, by first | rfl | (simp only [AV.ren]; congr 1; omega), rfl, id, rfl⟩, ⟨_, _, rfl, rfl, by first | rfl | (simp only [AV.ren]; congr 1; omega), rfl, id, rfl⟩, ⟨_, _, rfl, rfl, by first | rfl | (simp only [AV.ren]; congr 1; omega), rfl, id, rfl⟩, ⟨_, _, rfl, rfl, by first | rfl | (simp only [AV.ren]; congr 1; omega), rfl, id, rfl⟩, ⟨_, _, rfl, rfl, by first | rfl | (simp only [AV.ren]; congr 1; omega), rfl, id, rfl⟩, ⟨_, _, rfl, rfl, by first | rfl | (simp only [AV.ren]; congr 1; omega), rfl, id, rfl⟩, ⟨_, _, rfl, rfl, by first | rfl | (simp only [AV.ren]; congr 1; omega), rfl, id, rfl⟩, ⟨_, _, rfl, rfl, by first | rfl | (simp only [AV.ren]; congr 1; omega), rfl, id, rfl⟩, ⟨_, _, rfl, rfl, by first | rfl | (simp only [AV.ren]; congr 1; omega), rfl, id, rfl⟩, ⟨_, _, rfl, rfl, by first | rfl | (simp only [AV.ren]; congr 1; omega), rfl, id, rfl⟩, ⟨_, _, rfl, rfl, by first | rfl | (simp only [AV.ren]; congr 1; omega), rfl, id, rfl⟩, ⟨_, _, rfl, rfl, by first | rfl | (simp only [AV.ren]; congr 1; omega), rfl, id, rfl⟩, ⟨_, _, rfl, rfl, by first | rfl | (simp only [AV.ren]; congr 1; omega), rfl, id, rfl⟩, ⟨_, _, rfl, rfl, by first | rfl | (simp only [AV.ren]; congr 1; omega), rfl, id, rfl⟩, ⟨_, _, rfl, rfl, by first | rfl | (simp only [AV.ren]; congr 1; omega), rfl, id, rfl⟩, ⟨_, _, rfl, rfl, by first | rfl | (simp only [AV.ren]; congr 1; omega), rfl, id, rfl⟩, ⟨_, _, rfl, rfl, by first | rfl | (simp only [AV.ren]; congr 1; omega), rfl, id, rfl⟩, ⟨_, _, rfl, rfl, by first | rfl | (simp only [AV.ren]; congr 1; omega), rfl, id, rfl⟩, ⟨_, _, rfl, rfl, by first | rfl | (simp only [AV.ren]; congr 1; omega), rfl, id, rfl⟩, ⟨_, _, rfl, rfl, by first | rfl | (simp only [AV.ren]; congr 1; omega), rfl, id, rfl⟩, ⟨_, _, rfl, rfl, by first | rfl | (simp only [AV.ren]; congr 1; omega), rfl, id, rfl⟩, ⟨_, _, rfl, rfl, by first | rfl | (simp only [AV.ren]; congr 1; omega), rfl, id, rfl⟩, ⟨_, _, rfl, rfl, by first | rfl | (simp only [AV.ren]; congr 1; omega), rfl, id, rfl⟩, ⟨_, _, rfl, rfl, by first | rfl | (simp only [AV.ren]; congr 1; omega), rfl, id, rfl⟩, ⟨_, _, rfl, rfl, by first | rfl | (simp only [AV.ren]; congr 1; omega), rfl, id, rfl⟩, ⟨_, _, rfl, rfl, by first | rfl | (simp only [AV.ren]; congr 1; omega), rfl, id, rfl⟩, ⟨_, _, rfl, rfl, by first | rfl | (simp only [AV.ren]; congr 1; omega), rfl, id, rfl⟩, ⟨_, _, rfl, rfl, by first | rfl | (simp only [AV.ren]; congr 1; omega), rfl, id, rfl⟩, ⟨_, _, rfl, rfl, by first | rfl | (simp only [AV.ren]; congr 1; omega), rfl, id, rfl⟩, ⟨_, _, rfl, rfl, by first | rfl | (simp only [AV.ren]; congr 1; omega), rfl, id, rfl⟩, ⟨_, _, rfl, rfl, by first | rfl | (simp only [AV.ren]; congr 1; omega), rfl, id, rfl⟩, ⟨_, _, rfl, rfl, by first | rfl | (simp only [AV.ren]; congr 1; omega), rfl, id, rfl⟩, ⟨_, _, rfl, rfl, by first | rfl | (simp only [AV.ren]; congr 1; omega), rfl, id, rfl⟩, ⟨_, _, rfl, rfl, by first | rfl | (simp only [AV.ren]; congr 1; omega), rfl, id, rfl⟩, ⟨_, _, rfl, rfl, by first | rfl | (simp only [AV.ren]; congr 1; omega), rfl, id, rfl⟩, ⟨_, _, rfl, rfl, by first | rfl | (simp only [AV.ren]; congr 1; omega), rfl, id, rfl⟩, ⟨_, _, rfl, rfl, by first | rfl | (simp only [AV.ren]; congr 1; omega), rfl, id, rfl⟩, ⟨_, _, rfl, rfl, by first | rfl | (simp only [AV.ren]; congr 1; omega), rfl, id, rfl⟩, trivial⟩) ?_
 rintro ⟨j, hj⟩
 dsimp only
 have ht := hLL j
 refine .seq ?_
 refine .region ?_
 refine .q (op_cmpI rfl rfl rfl) trivial rfl ?_
 refine .nil ?_
 show Ev _ _ _ _ _
 refine .seq ?_
 refine .cond rfl (fun hc91 => ?_) (fun hc91 => ?_)
 ·simp only [decide_eq_true_eq] at hc91
  refine .skip ?_
  show Ev _ _ _ _ _
  refine .seq ?_
  refine .block ?_
  refine .seq ?_
  refine .region ?_
  refine .q (ap_idx0 Tryz.underlying36 inf9.sz rfl rfl rfl (by first | omega | (simp only [AV.len]; omega) | (simp only [AV.len, List.length_set]; omega) | assumption | (simp [AV.len]; done))) trivial rfl ?_
  refine .q (op_load Tryz.underlying9 rfl rfl rfl rfl (by show j < 4; omega)) trivial rfl ?_
  refine .q (op_assign rfl) trivial rfl ?_
  refine .nil ?_
  show Ev _ _ _ _ _
  refine .seq ?_
  refine .region ?_
  refine .q (op_move rfl) trivial rfl ?_
  refine .q (op_call (U := []) [] [] (ropen_ev ([(s.take 120), (blobB key) ++ (s.take 120), (blobB (sigS key flip)).take (max 0 (min flip 83)).toNat, (blobB (sigS key flip))].getD j []) ht 32 10) Tryz.func11 (by kernel_rfl) rfl rfl rfl (⟨⟨_, rfl, rfl, rfl⟩, ⟨_, rfl, rfl, rfl⟩, ⟨_, rfl, rfl, rfl⟩, trivial⟩) (trivial) (trivial) (trivial) rfl) trivial rfl ?_
  refine .q (op_move rfl) trivial rfl ?_
  refine .q (op_extract rfl rfl) trivial rfl ?_
  refine .q (op_extract rfl rfl) trivial rfl ?_
  refine .q (op_assign rfl) trivial rfl ?_
  refine .q (op_assign rfl) trivial rfl ?_
  refine .nil ?_
  show Ev _ _ _ _ _
  refine .seq ?_
  refine .region ?_
  refine dite ((unbD ([(s.take 120), (blobB key) ++ (s.take 120), (blobB (sigS key flip)).take (max 0 (min flip 83)).toNat, (blobB (sigS key flip))].getD j []) 32 10).2 = 0) (fun h1 => ?_) (fun h1 => ?_)
  ·have hl1 := unb_len (by decide) h1
   refine .q (op_move rfl) trivial rfl ?_
   refine .q (op_call (U := []) [] [] (bk_ok ([(s.take 120), (blobB key) ++ (s.take 120), (blobB (sigS key flip)).take (max 0 (min flip 83)).toNat, (blobB (sigS key flip))].getD j []) ht eo h1 hl1) Tryz.func8 (by kernel_rfl) rfl rfl rfl (⟨⟨_, rfl, rfl, rfl⟩, trivial⟩) (⟨⟨_, _, rfl, rfl, rfl, rfl, (fun h => by cases h), rfl⟩, ⟨_, _, rfl, rfl, rfl, rfl, (fun h => by cases h), rfl⟩, ⟨_, _, rfl, rfl, rfl, rfl, (fun h => by cases h), rfl⟩, ⟨_, _, rfl, rfl, rfl, rfl, (fun h => by cases h), rfl⟩, trivial⟩) (trivial) (⟨(fun h => by cases h), (fun h => by cases h), (fun h => by cases h), (fun h => by cases h), trivial⟩) rfl) trivial rfl ?_
   refine .q (op_move rfl) trivial rfl ?_
   refine .as (.tup [.aggB (unbD ([(s.take 120), (blobB key) ++ (s.take 120), (blobB (sigS key flip)).take (max 0 (min flip 83)).toNat, (blobB (sigS key flip))].getD j []) 32 10).1, .val .nilIface]) rfl ?_
   refine .q (op_extract rfl rfl) trivial rfl ?_
   refine .q (op_extract rfl rfl) trivial rfl ?_
   refine .a (op_allocRow zero22 rel_zero22 rfl) trivial rfl ?_
   refine .w (op_storeRow sz22 rfl rfl rfl rfl rfl (by first | (simp only [AV.len]; done) | (simp only [AV.len]; exact hl1) | (simp only [AV.len]; rw [hl1]; done) | (simp only [AV.len]; omega) | omega) (by first | (simp only [AV.len, List.length_replicate]; done) | (simp only [AV.len]; exact hl1) | (simp only [AV.len]; rw [hl1]; done) | (simp only [AV.len]; omega) | omega)) trivial rfl ?_
   refine .q (op_assign rfl) trivial rfl ?_
   refine .asR (.err 165 (0) (offE eo (0))) (nil_err _ _) ?_
   refine .nil ?_
   show Ev _ _ _ _ _
   refine .seq ?_
   refine .seq ?_
   refine .region ?_
   refine .q (op_move rfl) trivial rfl ?_
   refine .q (op_call (U := []) [] [] (code_0 eo hd) Tryz.func12 (by kernel_rfl) rfl rfl rfl (⟨⟨_, rfl, rfl, rfl⟩, trivial⟩) (⟨⟨_, _, rfl, rfl, rfl, rfl, (fun h => by cases h), rfl⟩, ⟨_, _, rfl, rfl, rfl, rfl, (fun h => by cases h), rfl⟩, ⟨_, _, rfl, rfl, rfl, rfl, (fun h => by cases h), rfl⟩, ⟨_, _, rfl, rfl, rfl, rfl, (fun h => by cases h), rfl⟩, ⟨_, _, rfl, rfl, rfl, rfl, (fun h => by cases h), rfl⟩, ⟨_, _, rfl, rfl, rfl, rfl, (fun h => by cases h), rfl⟩, ⟨_, _, rfl, rfl, rfl, rfl, (fun h => by cases h), rfl⟩, ⟨_, _, rfl, rfl, rfl, rfl, (fun h => by cases h), rfl⟩, ⟨_, _, rfl, rfl, rfl, rfl, (fun h => by cases h), rfl⟩, ⟨_, _, rfl, rfl, rfl, rfl, (fun h => by cases h), rfl⟩, ⟨_, _, rfl, rfl, rfl, rfl, (fun h => by cases h), rfl⟩, ⟨_, _, rfl, rfl, rfl, rfl, (fun h => by cases h), rfl⟩, ⟨_, _, rfl, rfl, rfl, rfl, (fun h => by cases h), rfl⟩, ⟨_, _, rfl, rfl, rfl, rfl, (fun h => by cases h), rfl⟩, ⟨_, _, rfl, rfl, rfl, rfl, (fun h => by cases h), rfl⟩, ⟨_, _, rfl, rfl, rfl, rfl, (fun h => by cases h), rfl⟩, ⟨_, _, rfl, rfl, rfl, rfl, (fun h => by cases h), rfl⟩, ⟨_, _, rfl, rfl, rfl, rfl, (fun h => by cases h), rfl⟩, ⟨_, _, rfl, rfl, rfl, rfl, (fun h => by cases h), rfl⟩, ⟨_, _, rfl, rfl, rfl, rfl, (fun h => by cases h), rfl⟩, ⟨_, _, rfl, rfl, rfl, rfl, (fun h => by cases h), rfl⟩, ⟨_, _, rfl, rfl, rfl, rfl, (fun h => by cases h), rfl⟩, ⟨_, _, rfl, rfl, rfl, rfl, (fun h => by cases h), rfl⟩, ⟨_, _, rfl, rfl, rfl, rfl, (fun h => by cases h), rfl⟩, ⟨_, _, rfl, rfl, rfl, rfl, (fun h => by cases h), rfl⟩, ⟨_, _, rfl, rfl, rfl, rfl, (fun h => by cases h), rfl⟩, ⟨_, _, rfl, rfl, rfl, rfl, (fun h => by cases h), rfl⟩, ⟨_, _, rfl, rfl, rfl, rfl, (fun h => by cases h), rfl⟩, ⟨_, _, rfl, rfl, rfl, rfl, (fun h => by cases h), rfl⟩, ⟨_, _, rfl, rfl, rfl, rfl, (fun h => by cases h), rfl⟩, ⟨_, _, rfl, rfl, rfl, rfl, (fun h => by cases h), rfl⟩, ⟨_, _, rfl, rfl, rfl, rfl, (fun h => by cases h), rfl⟩, ⟨_, _, rfl, rfl, rfl, rfl, (fun h => by cases h), rfl⟩, ⟨_, _, rfl, rfl, rfl, rfl, (fun h => by cases h), rfl⟩, ⟨_, _, rfl, rfl, rfl, rfl, (fun h => by cases h), rfl⟩, ⟨_, _, rfl, rfl, rfl, rfl, (fun h => by cases h), rfl⟩, ⟨_, _, rfl, rfl, rfl, rfl, (fun h => by cases h), rfl⟩, ⟨_, _, rfl, rfl, rfl, rfl, (fun h => by cases h), rfl⟩, ⟨_, _, rfl, rfl, rfl, rfl, (fun h => by cases h), rfl⟩, ⟨_, _, rfl, rfl, rfl, rfl, (fun h => by cases h), rfl⟩, trivial⟩) (trivial) (⟨(fun h => by cases h), (fun h => by cases h), (fun h => by cases h), (fun h => by cases h), (fun h => by cases h), (fun h => by cases h), (fun h => by cases h), (fun h => by cases h), (fun h => by cases h), (fun h => by cases h), (fun h => by cases h), (fun h => by cases h), (fun h => by cases h), (fun h => by cases h), (fun h => by cases h), (fun h => by cases h), (fun h => by cases h), (fun h => by cases h), (fun h => by cases h), (fun h => by cases h), (fun h => by cases h), (fun h => by cases h), (fun h => by cases h), (fun h => by cases h), (fun h => by cases h), (fun h => by cases h), (fun h => by cases h), (fun h => by cases h), (fun h => by cases h), (fun h => by cases h), (fun h => by cases h), (fun h => by cases h), (fun h => by cases h), (fun h => by cases h), (fun h => by cases h), (fun h => by cases h), (fun h => by cases h), (fun h => by cases h), (fun h => by cases h), (fun h => by cases h), trivial⟩) rfl) trivial rfl ?_
   refine .q (op_move rfl) trivial rfl ?_
   refine .q (op_cmpI rfl rfl rfl) trivial rfl ?_
   refine .q (op_move rfl) trivial rfl ?_
   refine .know (b' := false) (bne_eq_false_iff_eq.2 (by omega)) ?_
   refine .q (op_move rfl) ⟨_, rfl, rfl⟩ rfl ?_
   refine .q (op_cmpI rfl rfl rfl) ⟨_, rfl, rfl⟩ rfl ?_
   refine .q (op_move rfl) ⟨_, rfl, rfl⟩ rfl ?_
   refine .know (b' := true) (beq_iff_eq.2 (by omega)) ?_
   refine .q (ap_slice_arr_hi Tryz.underlying22 inf5.sz rfl rfl (by first | (simp only [AV.len]; done) | (simp only [AV.len]; exact hl1) | (simp only [AV.len]; rw [hl1]; done) | (simp only [AV.len]; omega) | omega) (by decide) rfl (by first | (simp only [AV.len, List.length_replicate]; done) | (simp only [AV.len]; exact hl1) | (simp only [AV.len]; rw [hl1]; done) | (simp only [AV.len]; omega) | omega)) ⟨_, rfl, rfl⟩ rfl ?_
   refine .q (op_bytes_str Tryz.underlying26 Tryz.underlying5 Tryz.underlying9 rfl rfl rfl (by first | (simp only [AV.len, List.length_replicate]; done) | (simp only [AV.len]; exact hl1) | (simp only [AV.len]; rw [hl1]; done) | (simp only [AV.len]; omega) | omega)) ⟨_, rfl, rfl⟩ rfl ?_
   refine .as (.str (unbD ([(s.take 120), (blobB key) ++ (s.take 120), (blobB (sigS key flip)).take (max 0 (min flip 83)).toNat, (blobB (sigS key flip))].getD j []) 32 10).1) (congrArg AV.str (by rw [List.drop_zero, List.take_of_length_le (Nat.le_of_eq hl1)])) ?_
   refine .q (op_move rfl) ⟨_, rfl, rfl⟩ rfl ?_
   refine .q (op_eqS rfl rfl rfl) ⟨_, rfl, rfl⟩ rfl ?_
   refine .q (op_pick_true rfl rfl rfl) ⟨_, rfl, rfl⟩ rfl ?_
   refine .q (op_pick_false rfl rfl rfl) trivial rfl ?_
   refine .q (op_move rfl) trivial rfl ?_
   refine .know (b' := false) (bself _) ?_
   refine .q (op_move rfl) ⟨_, rfl, rfl⟩ rfl ?_
   refine .q (op_cmpI rfl rfl rfl) ⟨_, rfl, rfl⟩ rfl ?_
   refine .q (op_move rfl) ⟨_, rfl, rfl⟩ rfl ?_
   refine .know (b' := false) (bne_eq_false_iff_eq.2 (by omega)) ?_
   refine .no ⟨_, rfl, rfl⟩ rfl ?_
   refine .no ⟨_, rfl, rfl⟩ rfl ?_
   refine .no ⟨_, rfl, rfl⟩ rfl ?_
   refine .q (op_pick_false rfl rfl rfl) ⟨_, rfl, rfl⟩ rfl ?_
   refine .q (op_pick_false rfl rfl rfl) trivial rfl ?_
   refine .q (op_move rfl) trivial rfl ?_
   refine .q (op_move rfl) ⟨_, rfl, rfl⟩ rfl ?_
   refine .q (op_cmpI rfl rfl rfl) ⟨_, rfl, rfl⟩ rfl ?_
   refine .q (op_move rfl) ⟨_, rfl, rfl⟩ rfl ?_
   refine .know (b' := false) (bne_eq_false_iff_eq.2 (by omega)) ?_
   refine .no ⟨_, rfl, rfl⟩ rfl ?_
   refine .no ⟨_, rfl, rfl⟩ rfl ?_
   refine .no ⟨_, rfl, rfl⟩ rfl ?_
   refine .q (op_pick_false rfl rfl rfl) ⟨_, rfl, rfl⟩ rfl ?_
   refine .q (op_pick_false rfl rfl rfl) trivial rfl ?_
   refine .nil ?_
   show Ev _ _ _ _ _
   refine .cond_false rfl rfl ?_
   refine .skip ?_
   show Ev _ _ _ _ _
   refine .seq ?_
   refine .region ?_
   refine .q (op_move rfl) trivial rfl ?_
   refine .q (op_call (U := []) [] [] (ropen_ev ([(s.take 120), (blobB key) ++ (s.take 120), (blobB (sigS key flip)).take (max 0 (min flip 83)).toNat, (blobB (sigS key flip))].getD j []) ht 64 11) Tryz.func11 (by kernel_rfl) rfl rfl rfl (⟨⟨_, rfl, rfl, rfl⟩, ⟨_, rfl, rfl, rfl⟩, ⟨_, rfl, rfl, rfl⟩, trivial⟩) (trivial) (trivial) (trivial) rfl) trivial rfl ?_
   refine .q (op_move rfl) trivial rfl ?_
   refine .q (op_extract rfl rfl) trivial rfl ?_
   refine .q (op_extract rfl rfl) trivial rfl ?_
   refine .q (op_assign rfl) trivial rfl ?_
   refine .q (op_assign rfl) trivial rfl ?_
   refine .nil ?_
   show Ev _ _ _ _ _
   refine .seq ?_
   refine .region ?_
   refine dite ((unbD ([(s.take 120), (blobB key) ++ (s.take 120), (blobB (sigS key flip)).take (max 0 (min flip 83)).toNat, (blobB (sigS key flip))].getD j []) 64 11).2 = 0) (fun h2 => ?_) (fun h2 => ?_)
   ·have hl2 := unb_len (by decide) h2
    refine .q (op_move rfl) trivial rfl ?_
    refine .q (op_call (U := []) [] [] (bs_ok ([(s.take 120), (blobB key) ++ (s.take 120), (blobB (sigS key flip)).take (max 0 (min flip 83)).toNat, (blobB (sigS key flip))].getD j []) ht eo h2 hl2) Tryz.func9 (by kernel_rfl) rfl rfl rfl (⟨⟨_, rfl, rfl, rfl⟩, trivial⟩) (⟨⟨_, _, rfl, rfl, rfl, rfl, (fun h => by cases h), rfl⟩, ⟨_, _, rfl, rfl, rfl, rfl, (fun h => by cases h), rfl⟩, ⟨_, _, rfl, rfl, rfl, rfl, (fun h => by cases h), rfl⟩, ⟨_, _, rfl, rfl, rfl, rfl, (fun h => by cases h), rfl⟩, trivial⟩) (trivial) (⟨(fun h => by cases h), (fun h => by cases h), (fun h => by cases h), (fun h => by cases h), trivial⟩) rfl) trivial rfl ?_
    refine .q (op_move rfl) trivial rfl ?_
    refine .as (.tup [.aggB (unbD ([(s.take 120), (blobB key) ++ (s.take 120), (blobB (sigS key flip)).take (max 0 (min flip 83)).toNat, (blobB (sigS key flip))].getD j []) 64 11).1, .val .nilIface]) rfl ?_
    refine .q (op_extract rfl rfl) trivial rfl ?_
    refine .q (op_extract rfl rfl) trivial rfl ?_
    refine .a (op_allocRow zero25 rel_zero25 rfl) trivial rfl ?_
    refine .w (op_storeRow sz25 rfl rfl rfl rfl rfl (by first | (simp only [AV.len]; done) | (simp only [AV.len]; exact hl2) | (simp only [AV.len]; rw [hl2]; done) | (simp only [AV.len]; omega) | omega) (by first | (simp only [AV.len, List.length_replicate]; done) | (simp only [AV.len]; exact hl2) | (simp only [AV.len]; rw [hl2]; done) | (simp only [AV.len]; omega) | omega)) trivial rfl ?_
    refine .q (op_assign rfl) trivial rfl ?_
    refine .asR (.err 165 (0) (offE eo (0))) (nil_err _ _) ?_
    refine .nil ?_
    show Ev _ _ _ _ _
    refine .seq ?_
    refine .region ?_
    refine .q (op_move rfl) trivial rfl ?_
    refine .q (op_call (U := []) [] [] (code_0 eo hd) Tryz.func12 (by kernel_rfl) rfl rfl rfl (⟨⟨_, rfl, rfl, rfl⟩, trivial⟩) (⟨⟨_, _, rfl, rfl, rfl, rfl, (fun h => by cases h), rfl⟩, ⟨_, _, rfl, rfl, rfl, rfl, (fun h => by cases h), rfl⟩, ⟨_, _, rfl, rfl, rfl, rfl, (fun h => by cases h), rfl⟩, ⟨_, _, rfl, rfl, rfl, rfl, (fun h => by cases h), rfl⟩, ⟨_, _, rfl, rfl, rfl, rfl, (fun h => by cases h), rfl⟩, ⟨_, _, rfl, rfl, rfl, rfl, (fun h => by cases h), rfl⟩, ⟨_, _, rfl, rfl, rfl, rfl, (fun h => by cases h), rfl⟩, ⟨_, _, rfl, rfl, rfl, rfl, (fun h => by cases h), rfl⟩, ⟨_, _, rfl, rfl, rfl, rfl, (fun h => by cases h), rfl⟩, ⟨_, _, rfl, rfl, rfl, rfl, (fun h => by cases h), rfl⟩, ⟨_, _, rfl, rfl, rfl, rfl, (fun h => by cases h), rfl⟩, ⟨_, _, rfl, rfl, rfl, rfl, (fun h => by cases h), rfl⟩, ⟨_, _, rfl, rfl, rfl, rfl, (fun h => by cases h), rfl⟩, ⟨_, _, rfl, rfl, rfl, rfl, (fun h => by cases h), rfl⟩, ⟨_, _, rfl, rfl, rfl, rfl, (fun h => by cases h), rfl⟩, ⟨_, _, rfl, rfl, rfl, rfl, (fun h => by cases h), rfl⟩, ⟨_, _, rfl, rfl, rfl, rfl, (fun h => by cases h), rfl⟩, ⟨_, _, rfl, rfl, rfl, rfl, (fun h => by cases h), rfl⟩, ⟨_, _, rfl, rfl, rfl, rfl, (fun h => by cases h), rfl⟩, ⟨_, _, rfl, rfl, rfl, rfl, (fun h => by cases h), rfl⟩, ⟨_, _, rfl, rfl, rfl, rfl, (fun h => by cases h), rfl⟩, ⟨_, _, rfl, rfl, rfl, rfl, (fun h => by cases h), rfl⟩, ⟨_, _, rfl, rfl, rfl, rfl, (fun h => by cases h), rfl⟩, ⟨_, _, rfl, rfl, rfl, rfl, (fun h => by cases h), rfl⟩, ⟨_, _, rfl, rfl, rfl, rfl, (fun h => by cases h), rfl⟩, ⟨_, _, rfl, rfl, rfl, rfl, (fun h => by cases h), rfl⟩, ⟨_, _, rfl, rfl, rfl, rfl, (fun h => by cases h), rfl⟩, ⟨_, _, rfl, rfl, rfl, rfl, (fun h => by cases h), rfl⟩, ⟨_, _, rfl, rfl, rfl, rfl, (fun h => by cases h), rfl⟩, ⟨_, _, rfl, rfl, rfl, rfl, (fun h => by cases h), rfl⟩, ⟨_, _, rfl, rfl, rfl, rfl, (fun h => by cases h), rfl⟩, ⟨_, _, rfl, rfl, rfl, rfl, (fun h => by cases h), rfl⟩, ⟨_, _, rfl, rfl, rfl, rfl, (fun h => by cases h), rfl⟩, ⟨_, _, rfl, rfl, rfl, rfl, (fun h => by cases h), rfl⟩, ⟨_, _, rfl, rfl, rfl, rfl, (fun h => by cases h), rfl⟩, ⟨_, _, rfl, rfl, rfl, rfl, (fun h => by cases h), rfl⟩, ⟨_, _, rfl, rfl, rfl, rfl, (fun h => by cases h), rfl⟩, ⟨_, _, rfl, rfl, rfl, rfl, (fun h => by cases h), rfl⟩, ⟨_, _, rfl, rfl, rfl, rfl, (fun h => by cases h), rfl⟩, ⟨_, _, rfl, rfl, rfl, rfl, (fun h => by cases h), rfl⟩, trivial⟩) (trivial) (⟨(fun h => by cases h), (fun h => by cases h), (fun h => by cases h), (fun h => by cases h), (fun h => by cases h), (fun h => by cases h), (fun h => by cases h), (fun h => by cases h), (fun h => by cases h), (fun h => by cases h), (fun h => by cases h), (fun h => by cases h), (fun h => by cases h), (fun h => by cases h), (fun h => by cases h), (fun h => by cases h), (fun h => by cases h), (fun h => by cases h), (fun h => by cases h), (fun h => by cases h), (fun h => by cases h), (fun h => by cases h), (fun h => by cases h), (fun h => by cases h), (fun h => by cases h), (fun h => by cases h), (fun h => by cases h), (fun h => by cases h), (fun h => by cases h), (fun h => by cases h), (fun h => by cases h), (fun h => by cases h), (fun h => by cases h), (fun h => by cases h), (fun h => by cases h), (fun h => by cases h), (fun h => by cases h), (fun h => by cases h), (fun h => by cases h), (fun h => by cases h), trivial⟩) rfl) trivial rfl ?_
    refine .q (op_move rfl) trivial rfl ?_
    refine .q (op_cmpI rfl rfl rfl) trivial rfl ?_
    refine .q (op_move rfl) trivial rfl ?_
    refine .know (b' := false) (bne_eq_false_iff_eq.2 (by omega)) ?_
    refine .q (op_move rfl) ⟨_, rfl, rfl⟩ rfl ?_
    refine .q (op_cmpI rfl rfl rfl) ⟨_, rfl, rfl⟩ rfl ?_
    refine .q (op_move rfl) ⟨_, rfl, rfl⟩ rfl ?_
    refine .know (b' := true) (beq_iff_eq.2 (by omega)) ?_
    refine .q (ap_slice_arr_hi Tryz.underlying25 inf5.sz rfl rfl (by first | (simp only [AV.len]; done) | (simp only [AV.len]; exact hl2) | (simp only [AV.len]; rw [hl2]; done) | (simp only [AV.len]; omega) | omega) (by decide) rfl (by first | (simp only [AV.len, List.length_replicate]; done) | (simp only [AV.len]; exact hl2) | (simp only [AV.len]; rw [hl2]; done) | (simp only [AV.len]; omega) | omega)) ⟨_, rfl, rfl⟩ rfl ?_
    refine .q (op_bytes_str Tryz.underlying26 Tryz.underlying5 Tryz.underlying9 rfl rfl rfl (by first | (simp only [AV.len, List.length_replicate]; done) | (simp only [AV.len]; exact hl2) | (simp only [AV.len]; rw [hl2]; done) | (simp only [AV.len]; omega) | omega)) ⟨_, rfl, rfl⟩ rfl ?_
    refine .as (.str (unbD ([(s.take 120), (blobB key) ++ (s.take 120), (blobB (sigS key flip)).take (max 0 (min flip 83)).toNat, (blobB (sigS key flip))].getD j []) 64 11).1) (congrArg AV.str (by rw [List.drop_zero, List.take_of_length_le (Nat.le_of_eq hl2)])) ?_
    refine .q (op_move rfl) ⟨_, rfl, rfl⟩ rfl ?_
    refine .q (op_eqS rfl rfl rfl) ⟨_, rfl, rfl⟩ rfl ?_
    refine .q (op_pick_true rfl rfl rfl) ⟨_, rfl, rfl⟩ rfl ?_
    refine .q (op_pick_false rfl rfl rfl) trivial rfl ?_
    refine .q (op_move rfl) trivial rfl ?_
    refine .know (b' := false) (bself _) ?_
    refine .q (op_move rfl) ⟨_, rfl, rfl⟩ rfl ?_
    refine .q (op_cmpI rfl rfl rfl) ⟨_, rfl, rfl⟩ rfl ?_
    refine .q (op_move rfl) ⟨_, rfl, rfl⟩ rfl ?_
    refine .know (b' := false) (bne_eq_false_iff_eq.2 (by omega)) ?_
    refine .no ⟨_, rfl, rfl⟩ rfl ?_
    refine .no ⟨_, rfl, rfl⟩ rfl ?_
    refine .no ⟨_, rfl, rfl⟩ rfl ?_
    refine .q (op_pick_false rfl rfl rfl) ⟨_, rfl, rfl⟩ rfl ?_
    refine .q (op_pick_false rfl rfl rfl) trivial rfl ?_
    refine .nil ?_
    show Ev _ _ _ _ _
    refine .cond_false rfl rfl ?_
    refine .skip ?_
    show Ev _ _ _ _ _
    refine .region ?_
    refine .q (op_addI rfl rfl ⟨by omega, by omega⟩) trivial rfl ?_
    refine .q (op_move rfl) trivial rfl ?_
    refine .nil ?_
    exact ⟨⟨j + 1, by omega⟩, by show 4 - (j + 1) < 4 - j; omega, StLe.mk [(1104, 1104)] rfl rfl ⟨⟨_, rfl, by first | rfl | (simp only [AV.ren]; congr 1; omega), rfl⟩, ⟨_, rfl, by first | rfl | (simp only [AV.ren]; congr 1; omega), rfl⟩, ⟨_, rfl, by first | rfl | (simp only [AV.ren]; congr 1; omega), rfl⟩, trivial⟩ ⟨⟨_, _, rfl, rfl, by first | rfl | (simp only [AV.ren]; congr 1; omega), rfl, id, rfl⟩, ⟨_, _, rfl, rfl, by first | rfl | (simp only [AV.ren]; congr 1; omega), rfl, id, rfl⟩, ⟨_, _, rfl, rfl, by first | rfl | (simp only [AV.ren]; congr 1; omega), rfl, id, rfl⟩, ⟨_, _, rfl, rfl, by first | rfl | (simp only [AV.ren]; congr 1; omega), rfl, id, rfl⟩, ⟨_, _, rfl, rfl, by first | rfl | (simp only [AV.ren]; congr 1; omega), rfl, id, rfl⟩, ⟨_, _, rfl, rfl, by first | rfl | (simp only [AV.ren]; congr 1; omega), rfl, id, rfl⟩, ⟨_, _, rfl, rfl, by first | rfl | (simp only [AV.ren]; congr 1; omega), rfl, id, rfl⟩, ⟨_, _, rfl, rfl, by first | rfl | (simp only [AV.ren]; congr 1; omega), rfl, id, rfl⟩, ⟨_, _, rfl, rfl, by first | rfl | (simp only [AV.ren]; congr 1; omega), rfl, id, rfl⟩, ⟨_, _, rfl, rfl, by first | rfl | (simp only [AV.ren]; congr 1; omega), rfl, id, rfl⟩, ⟨_, _, rfl, rfl, by first | rfl | (simp only [AV.ren]; congr 1; omega), rfl, id, rfl⟩, ⟨_, _, rfl, rfl, by first | rfl | (simp only [AV.ren]; congr 1; omega), rfl, id, rfl⟩, ⟨_, _, rfl, rfl, by first | rfl | (simp only [AV.ren]; congr 1; omega), rfl, id, rfl⟩, ⟨_, _, rfl, rfl, by first | rfl | (simp only [AV.ren]; congr 1; omega), rfl, id, rfl⟩, ⟨_, _, rfl, rfl, by first | rfl | (simp only [AV.ren]; congr 1; omega), rfl, id, rfl⟩, ⟨_, _, rfl, rfl, by first | rfl | (simp only [AV.ren]; congr 1; omega), rfl, id, rfl⟩, ⟨_, _, rfl, rfl, by first | rfl | (simp only [AV.ren]; congr 1; omega), rfl, id, rfl⟩, ⟨_, _, rfl, rfl, by first | rfl | (simp only [AV.ren]; congr 1; omega), rfl, id, rfl⟩, ⟨_, _, rfl, rfl, by first | rfl | (simp only [AV.ren]; congr 1; omega), rfl, id, rfl⟩, ⟨_, _, rfl, rfl, by first | rfl | (simp only [AV.ren]; congr 1; omega), rfl, id, rfl⟩, ⟨_, _, rfl, rfl, by first | rfl | (simp only [AV.ren]; congr 1; omega), rfl, id, rfl⟩, ⟨_, _, rfl, rfl, by first | rfl | (simp only [AV.ren]; congr 1; omega), rfl, id, rfl⟩, ⟨_, _, rfl, rfl, by first | rfl | (simp only [AV.ren]; congr 1; omega), rfl, id, rfl⟩, ⟨_, _, rfl, rfl, by first | rfl | (simp only [AV.ren]; congr 1; omega), rfl, id, rfl⟩, ⟨_, _, rfl, rfl, by first | rfl | (simp only [AV.ren]; congr 1; omega), rfl, id, rfl⟩, ⟨_, _, rfl, rfl, by first | rfl | (simp only [AV.ren]; congr 1; omega), rfl, id, rfl⟩, ⟨_, _, rfl, rfl, by first | rfl | (simp only [AV.ren]; congr 1; omega), rfl, id, rfl⟩, ⟨_, _, rfl, rfl, by first | rfl | (simp only [AV.ren]; congr 1; omega), rfl, id, rfl⟩, ⟨_, _, rfl, rfl, by first | rfl | (simp only [AV.ren]; congr 1; omega), rfl, id, rfl⟩, ⟨_, _, rfl, rfl, by first | rfl | (simp only [AV.ren]; congr 1; omega), rfl, id, rfl⟩, ⟨_, _, rfl, rfl, by first | rfl | (simp only [AV.ren]; congr 1; omega), rfl, id, rfl⟩, ⟨_, _, rfl, rfl, by first | rfl | (simp only [AV.ren]; congr 1; omega), rfl, id, rfl⟩, ⟨_, _, rfl, rfl, by first | rfl | (simp only [AV.ren]; congr 1; omega), rfl, id, rfl⟩, ⟨_, _, rfl, rfl, by first | rfl | (simp only [AV.ren]; congr 1; omega), rfl, id, rfl⟩, ⟨_, _, rfl, rfl, by first | rfl | (simp only [AV.ren]; congr 1; omega), rfl, id, rfl⟩, ⟨_, _, rfl, rfl, by first | rfl | (simp only [AV.ren]; congr 1; omega), rfl, id, rfl⟩, ⟨_, _, rfl, rfl, by first | rfl | (simp only [AV.ren]; congr 1; omega), rfl, id, rfl⟩, ⟨_, _, rfl, rfl, by first | rfl | (simp only [AV.ren]; congr 1; omega), rfl, id, rfl⟩, ⟨_, _, rfl, rfl, by first | rfl | (simp only [AV.ren]; congr 1; omega), rfl, id, rfl⟩, ⟨_, _, rfl, rfl, by first | rfl | (simp only [AV.ren]; congr 1; omega), rfl, id, rfl⟩, ⟨_, _, rfl, rfl, by first | rfl | (simp only [AV.ren]; congr 1; omega), rfl, id, rfl⟩, ⟨_, _, rfl, rfl, by first | rfl | (simp only [AV.ren]; congr 1; omega), rfl, id, rfl⟩, trivial⟩⟩
   ·have hz2 : ((unbD ([(s.take 120), (blobB key) ++ (s.take 120), (blobB (sigS key flip)).take (max 0 (min flip 83)).toNat, (blobB (sigS key flip))].getD j []) 64 11)).2 ≠ 0 := h2
    refine .q (op_move rfl) trivial rfl ?_
    refine .a (op_call (U := [(1120, some ⟨.agg [.str [115, 105, 103, 110, 97, 116, 117, 114, 101], .err 165 ((unbD ([(s.take 120), (blobB key) ++ (s.take 120), (blobB (sigS key flip)).take (max 0 (min flip 83)).toNat, (blobB (sigS key flip))].getD j []) 64 11).2 - 1 + 1) (offE eo ((unbD ([(s.take 120), (blobB key) ++ (s.take 120), (blobB (sigS key flip)).take (max 0 (min flip 83)).toNat, (blobB (sigS key flip))].getD j []) 64 11).2 - 1 + 1))], 67, true⟩)]) [] [(1120, 1040)] (bs_bad ([(s.take 120), (blobB key) ++ (s.take 120), (blobB (sigS key flip)).take (max 0 (min flip 83)).toNat, (blobB (sigS key flip))].getD j []) ht eo ((unbD ([(s.take 120), (blobB key) ++ (s.take 120), (blobB (sigS key flip)).take (max 0 (min flip 83)).toNat, (blobB (sigS key flip))].getD j []) 64 11).2 - 1) (by omega)) Tryz.func9 (by kernel_rfl) rfl rfl rfl (⟨⟨_, rfl, rfl, rfl⟩, trivial⟩) (⟨⟨_, _, rfl, rfl, rfl, rfl, (fun h => by cases h), rfl⟩, ⟨_, _, rfl, rfl, rfl, rfl, (fun h => by cases h), rfl⟩, ⟨_, _, rfl, rfl, rfl, rfl, (fun h => by cases h), rfl⟩, ⟨_, _, rfl, rfl, rfl, rfl, (fun h => by cases h), rfl⟩, trivial⟩) (⟨⟨1040, _, rfl, rfl, rfl, rfl, .inl rfl⟩, trivial⟩) (⟨(fun h => by cases h), (fun h => by cases h), (fun h => by cases h), (fun h => by cases h), trivial⟩) rfl) trivial rfl ?_
    refine .q (op_move rfl) trivial rfl ?_
    refine .q (op_extract rfl rfl) trivial rfl ?_
    refine .q (op_extract rfl rfl) trivial rfl ?_
    refine .a (op_allocRow zero25 rel_zero25 rfl) trivial rfl ?_
    refine .w (op_storeRow sz25 rfl rfl rfl rfl rfl (by first | (show _ ≤ List.length (List.replicate 64 (0 : UInt8)); rw [List.length_replicate]; done) | (show _ ≤ List.length (List.replicate 64 (0 : UInt8)); rw [List.length_replicate]; omega) | (show List.length (List.replicate 64 (0 : UInt8)) = _; rw [List.length_replicate]; done) | (simp only [AV.len, List.length_replicate]; done) | (simp only [AV.len, List.length_replicate]; omega) | omega) (by first | (show _ ≤ List.length (List.replicate 64 (0 : UInt8)); rw [List.length_replicate]; done) | (show _ ≤ List.length (List.replicate 64 (0 : UInt8)); rw [List.length_replicate]; omega) | (show List.length (List.replicate 64 (0 : UInt8)) = _; rw [List.length_replicate]; done) | (simp only [AV.len, List.length_replicate]; done) | (simp only [AV.len, List.length_replicate]; omega) | omega)) trivial rfl ?_
    refine .q (op_assign rfl) trivial rfl ?_
    refine .nil ?_
    show Ev _ _ _ _ _
    refine .seq ?_
    refine .region ?_
    refine .q (op_move rfl) trivial rfl ?_
    refine .q (op_call (U := []) [(500, 1120)] [] (codeF_ev ((unbD ([(s.take 120), (blobB key) ++ (s.take 120), (blobB (sigS key flip)).take (max 0 (min flip 83)).toNat, (blobB (sigS key flip))].getD j []) 64 11).2 - 1) (by have := unbD_code ([(s.take 120), (blobB key) ++ (s.take 120), (blobB (sigS key flip)).take (max 0 (min flip 83)).toNat, (blobB (sigS key flip))].getD j []) 64 11; omega) eo hd [115, 105, 103, 110, 97, 116, 117, 114, 101] 67) Tryz.func12 (by kernel_rfl) rfl rfl rfl (⟨⟨_, rfl, rfl, rfl⟩, trivial⟩) (⟨⟨_, _, rfl, rfl, rfl, rfl, (fun h => by cases h), rfl⟩, ⟨_, _, rfl, rfl, rfl, rfl, (fun h => by cases h), rfl⟩, ⟨_, _, rfl, rfl, rfl, rfl, (fun h => by cases h), rfl⟩, ⟨_, _, rfl, rfl, rfl, rfl, (fun h => by cases h), rfl⟩, ⟨_, _, rfl, rfl, rfl, rfl, (fun h => by cases h), rfl⟩, ⟨_, _, rfl, rfl, rfl, rfl, (fun h => by cases h), rfl⟩, ⟨_, _, rfl, rfl, rfl, rfl, (fun h => by cases h), rfl⟩, ⟨_, _, rfl, rfl, rfl, rfl, (fun h => by cases h), rfl⟩, ⟨_, _, rfl, rfl, rfl, rfl, (fun h => by cases h), rfl⟩, ⟨_, _, rfl, rfl, rfl, rfl, (fun h => by cases h), rfl⟩, ⟨_, _, rfl, rfl, rfl, rfl, (fun h => by cases h), rfl⟩, ⟨_, _, rfl, rfl, rfl, rfl, (fun h => by cases h), rfl⟩, ⟨_, _, rfl, rfl, rfl, rfl, (fun h => by cases h), rfl⟩, ⟨_, _, rfl, rfl, rfl, rfl, (fun h => by cases h), rfl⟩, ⟨_, _, rfl, rfl, rfl, rfl, (fun h => by cases h), rfl⟩, ⟨_, _, rfl, rfl, rfl, rfl, (fun h => by cases h), rfl⟩, ⟨_, _, rfl, rfl, rfl, rfl, (fun h => by cases h), rfl⟩, ⟨_, _, rfl, rfl, rfl, rfl, (fun h => by cases h), rfl⟩, ⟨_, _, rfl, rfl, rfl, rfl, (fun h => by cases h), rfl⟩, ⟨_, _, rfl, rfl, rfl, rfl, (fun h => by cases h), rfl⟩, ⟨_, _, rfl, rfl, rfl, rfl, (fun h => by cases h), rfl⟩, ⟨_, _, rfl, rfl, rfl, rfl, (fun h => by cases h), rfl⟩, ⟨_, _, rfl, rfl, rfl, rfl, (fun h => by cases h), rfl⟩, ⟨_, _, rfl, rfl, rfl, rfl, (fun h => by cases h), rfl⟩, ⟨_, _, rfl, rfl, rfl, rfl, (fun h => by cases h), rfl⟩, ⟨_, _, rfl, rfl, rfl, rfl, (fun h => by cases h), rfl⟩, ⟨_, _, rfl, rfl, rfl, rfl, (fun h => by cases h), rfl⟩, ⟨_, _, rfl, rfl, rfl, rfl, (fun h => by cases h), rfl⟩, ⟨_, _, rfl, rfl, rfl, rfl, (fun h => by cases h), rfl⟩, ⟨_, _, rfl, rfl, rfl, rfl, (fun h => by cases h), rfl⟩, ⟨_, _, rfl, rfl, rfl, rfl, (fun h => by cases h), rfl⟩, ⟨_, _, rfl, rfl, rfl, rfl, (fun h => by cases h), rfl⟩, ⟨_, _, rfl, rfl, rfl, rfl, (fun h => by cases h), rfl⟩, ⟨_, _, rfl, rfl, rfl, rfl, (fun h => by cases h), rfl⟩, ⟨_, _, rfl, rfl, rfl, rfl, (fun h => by cases h), rfl⟩, ⟨_, _, rfl, rfl, rfl, rfl, (fun h => by cases h), rfl⟩, ⟨_, _, rfl, rfl, rfl, rfl, (fun h => by cases h), rfl⟩, ⟨_, _, rfl, rfl, rfl, rfl, (fun h => by cases h), rfl⟩, ⟨_, _, rfl, rfl, rfl, rfl, (fun h => by cases h), rfl⟩, ⟨_, _, rfl, rfl, rfl, rfl, (fun h => by cases h), rfl⟩, ⟨_, _, rfl, rfl, rfl, rfl, (fun h => by cases h), rfl⟩, trivial⟩) (trivial) (⟨(fun h => by cases h), (fun h => by cases h), (fun h => by cases h), (fun h => by cases h), (fun h => by cases h), (fun h => by cases h), (fun h => by cases h), (fun h => by cases h), (fun h => by cases h), (fun h => by cases h), (fun h => by cases h), (fun h => by cases h), (fun h => by cases h), (fun h => by cases h), (fun h => by cases h), (fun h => by cases h), (fun h => by cases h), (fun h => by cases h), (fun h => by cases h), (fun h => by cases h), (fun h => by cases h), (fun h => by cases h), (fun h => by cases h), (fun h => by cases h), (fun h => by cases h), (fun h => by cases h), (fun h => by cases h), (fun h => by cases h), (fun h => by cases h), (fun h => by cases h), (fun h => by cases h), (fun h => by cases h), (fun h => by cases h), (fun h => by cases h), (fun h => by cases h), (fun h => by cases h), (fun h => by cases h), (fun h => by cases h), (fun h => by cases h), (fun h => by cases h), (fun h => by cases h), trivial⟩) rfl) trivial rfl ?_
    refine .q (op_move rfl) trivial rfl ?_
    refine .q (op_cmpI rfl rfl rfl) trivial rfl ?_
    refine .q (op_move rfl) trivial rfl ?_
    refine .know (b' := false) (bne_eq_false_iff_eq.2 (by omega)) ?_
    refine .q (op_move rfl) ⟨_, rfl, rfl⟩ rfl ?_
    refine .q (op_cmpI rfl rfl rfl) ⟨_, rfl, rfl⟩ rfl ?_
    refine .q (op_move rfl) ⟨_, rfl, rfl⟩ rfl ?_
    refine .know (b' := false) (beq_eq_false_iff_ne.2 (by omega)) ?_
    refine .no ⟨_, rfl, rfl⟩ rfl ?_
    refine .no ⟨_, rfl, rfl⟩ rfl ?_
    refine .no ⟨_, rfl, rfl⟩ rfl ?_
    refine .no ⟨_, rfl, rfl⟩ rfl ?_
    refine .q (op_pick_false rfl rfl rfl) ⟨_, rfl, rfl⟩ rfl ?_
    refine .q (op_pick_false rfl rfl rfl) trivial rfl ?_
    refine .q (op_move rfl) trivial rfl ?_
    refine .q (op_move rfl) ⟨_, rfl, rfl⟩ rfl ?_
    refine .q (op_cmpI rfl rfl rfl) ⟨_, rfl, rfl⟩ rfl ?_
    refine .q (op_move rfl) ⟨_, rfl, rfl⟩ rfl ?_
    refine .know (b' := true) (bne_iff_ne.2 (by omega)) ?_
    refine .q (op_loadRow Tryz.underlying25 rfl sz25 rfl rfl rfl (by first | (show _ ≤ List.length (List.replicate 64 (0 : UInt8)); rw [List.length_replicate]; done) | (show _ ≤ List.length (List.replicate 64 (0 : UInt8)); rw [List.length_replicate]; omega) | (show List.length (List.replicate 64 (0 : UInt8)) = _; rw [List.length_replicate]; done) | (simp only [AV.len, List.length_replicate]; done) | (simp only [AV.len, List.length_replicate]; omega) | omega)) ⟨_, rfl, rfl⟩ rfl ?_
    refine .q (op_buildArr (us := []) Tryz.underlying25 inf5.sz zero25 rel_zero25 rfl (by decide) trivial rfl) ⟨_, rfl, rfl⟩ rfl ?_
    refine .q (op_neqRow8 (n := 64) (by kernel_rfl) Tryz.underlying25 Tryz.underlying5 inf5.sz rfl rfl (by first | (show _ ≤ List.length (List.replicate 64 (0 : UInt8)); rw [List.length_replicate]; done) | (show _ ≤ List.length (List.replicate 64 (0 : UInt8)); rw [List.length_replicate]; omega) | (show List.length (List.replicate 64 (0 : UInt8)) = _; rw [List.length_replicate]; done) | (simp only [AV.len, List.length_replicate]; done) | (simp only [AV.len, List.length_replicate]; omega) | omega) (by first | (show _ ≤ List.length (List.replicate 64 (0 : UInt8)); rw [List.length_replicate]; done) | (show _ ≤ List.length (List.replicate 64 (0 : UInt8)); rw [List.length_replicate]; omega) | (show List.length (List.replicate 64 (0 : UInt8)) = _; rw [List.length_replicate]; done) | (simp only [AV.len, List.length_replicate]; done) | (simp only [AV.len, List.length_replicate]; omega) | omega)) ⟨_, rfl, rfl⟩ rfl ?_
    refine .q (op_pick_true rfl rfl rfl) ⟨_, rfl, rfl⟩ rfl ?_
    refine .q (op_pick_false rfl rfl rfl) trivial rfl ?_
    refine .nil ?_
    show Ev _ _ _ _ _
    refine .cond_false rfl (bself _) ?_
    refine .skip ?_
    show Ev _ _ _ _ _
    refine .region ?_
    refine .q (op_addI rfl rfl ⟨by omega, by omega⟩) trivial rfl ?_
    refine .q (op_move rfl) trivial rfl ?_
    refine .nil ?_
    exact ⟨⟨j + 1, by omega⟩, by show 4 - (j + 1) < 4 - j; omega, StLe.mk [(1104, 1104)] rfl rfl ⟨⟨_, rfl, by first | rfl | (simp only [AV.ren]; congr 1; omega), rfl⟩, ⟨_, rfl, by first | rfl | (simp only [AV.ren]; congr 1; omega), rfl⟩, ⟨_, rfl, by first | rfl | (simp only [AV.ren]; congr 1; omega), rfl⟩, trivial⟩ ⟨⟨_, _, rfl, rfl, by first | rfl | (simp only [AV.ren]; congr 1; omega), rfl, id, rfl⟩, ⟨_, _, rfl, rfl, by first | rfl | (simp only [AV.ren]; congr 1; omega), rfl, id, rfl⟩, ⟨_, _, rfl, rfl, by first | rfl | (simp only [AV.ren]; congr 1; omega), rfl, id, rfl⟩, ⟨_, _, rfl, rfl, by first | rfl | (simp only [AV.ren]; congr 1; omega), rfl, id, rfl⟩, ⟨_, _, rfl, rfl, by first | rfl | (simp only [AV.ren]; congr 1; omega), rfl, id, rfl⟩, ⟨_, _, rfl, rfl, by first | rfl | (simp only [AV.ren]; congr 1; omega), rfl, id, rfl⟩, ⟨_, _, rfl, rfl, by first | rfl | (simp only [AV.ren]; congr 1; omega), rfl, id, rfl⟩, ⟨_, _, rfl, rfl, by first | rfl | (simp only [AV.ren]; congr 1; omega), rfl, id, rfl⟩, ⟨_, _, rfl, rfl, by first | rfl | (simp only [AV.ren]; congr 1; omega), rfl, id, rfl⟩, ⟨_, _, rfl, rfl, by first | rfl | (simp only [AV.ren]; congr 1; omega), rfl, id, rfl⟩, ⟨_, _, rfl, rfl, by first | rfl | (simp only [AV.ren]; congr 1; omega), rfl, id, rfl⟩, ⟨_, _, rfl, rfl, by first | rfl | (simp only [AV.ren]; congr 1; omega), rfl, id, rfl⟩, ⟨_, _, rfl, rfl, by first | rfl | (simp only [AV.ren]; congr 1; omega), rfl, id, rfl⟩, ⟨_, _, rfl, rfl, by first | rfl | (simp only [AV.ren]; congr 1; omega), rfl, id, rfl⟩, ⟨_, _, rfl, rfl, by first | rfl | (simp only [AV.ren]; congr 1; omega), rfl, id, rfl⟩, ⟨_, _, rfl, rfl, by first | rfl | (simp only [AV.ren]; congr 1; omega), rfl, id, rfl⟩, ⟨_, _, rfl, rfl, by first | rfl | (simp only [AV.ren]; congr 1; omega), rfl, id, rfl⟩, ⟨_, _, rfl, rfl, by first | rfl | (simp only [AV.ren]; congr 1; omega), rfl, id, rfl⟩, ⟨_, _, rfl, rfl, by first | rfl | (simp only [AV.ren]; congr 1; omega), rfl, id, rfl⟩, ⟨_, _, rfl, rfl, by first | rfl | (simp only [AV.ren]; congr 1; omega), rfl, id, rfl⟩, ⟨_, _, rfl, rfl, by first | rfl | (simp only [AV.ren]; congr 1; omega), rfl, id, rfl⟩, ⟨_, _, rfl, rfl, by first | rfl | (simp only [AV.ren]; congr 1; omega), rfl, id, rfl⟩, ⟨_, _, rfl, rfl, by first | rfl | (simp only [AV.ren]; congr 1; omega), rfl, id, rfl⟩, ⟨_, _, rfl, rfl, by first | rfl | (simp only [AV.ren]; congr 1; omega), rfl, id, rfl⟩, ⟨_, _, rfl, rfl, by first | rfl | (simp only [AV.ren]; congr 1; omega), rfl, id, rfl⟩, ⟨_, _, rfl, rfl, by first | rfl | (simp only [AV.ren]; congr 1; omega), rfl, id, rfl⟩, ⟨_, _, rfl, rfl, by first | rfl | (simp only [AV.ren]; congr 1; omega), rfl, id, rfl⟩, ⟨_, _, rfl, rfl, by first | rfl | (simp only [AV.ren]; congr 1; omega), rfl, id, rfl⟩, ⟨_, _, rfl, rfl, by first | rfl | (simp only [AV.ren]; congr 1; omega), rfl, id, rfl⟩, ⟨_, _, rfl, rfl, by first | rfl | (simp only [AV.ren]; congr 1; omega), rfl, id, rfl⟩, ⟨_, _, rfl, rfl, by first | rfl | (simp only [AV.ren]; congr 1; omega), rfl, id, rfl⟩, ⟨_, _, rfl, rfl, by first | rfl | (simp only [AV.ren]; congr 1; omega), rfl, id, rfl⟩, ⟨_, _, rfl, rfl, by first | rfl | (simp only [AV.ren]; congr 1; omega), rfl, id, rfl⟩, ⟨_, _, rfl, rfl, by first | rfl | (simp only [AV.ren]; congr 1; omega), rfl, id, rfl⟩, ⟨_, _, rfl, rfl, by first | rfl | (simp only [AV.ren]; congr 1; omega), rfl, id, rfl⟩, ⟨_, _, rfl, rfl, by first | rfl | (simp only [AV.ren]; congr 1; omega), rfl, id, rfl⟩, ⟨_, _, rfl, rfl, by first | rfl | (simp only [AV.ren]; congr 1; omega), rfl, id, rfl⟩, ⟨_, _, rfl, rfl, by first | rfl | (simp only [AV.ren]; congr 1; omega), rfl, id, rfl⟩, ⟨_, _, rfl, rfl, by first | rfl | (simp only [AV.ren]; congr 1; omega), rfl, id, rfl⟩, ⟨_, _, rfl, rfl, by first | rfl | (simp only [AV.ren]; congr 1; omega), rfl, id, rfl⟩, ⟨_, _, rfl, rfl, by first | rfl | (simp only [AV.ren]; congr 1; omega), rfl, id, rfl⟩, ⟨_, _, rfl, rfl, by first | rfl | (simp only [AV.ren]; congr 1; omega), rfl, id, rfl⟩, trivial⟩⟩
  ·have hz1 : ((unbD ([(s.take 120), (blobB key) ++ (s.take 120), (blobB (sigS key flip)).take (max 0 (min flip 83)).toNat, (blobB (sigS key flip))].getD j []) 32 10)).2 ≠ 0 := h1
   refine .q (op_move rfl) trivial rfl ?_
   refine .a (op_call (U := [(1112, some ⟨.agg [.str [107, 101, 121], .err 165 ((unbD ([(s.take 120), (blobB key) ++ (s.take 120), (blobB (sigS key flip)).take (max 0 (min flip 83)).toNat, (blobB (sigS key flip))].getD j []) 32 10).2 - 1 + 1) (offE eo ((unbD ([(s.take 120), (blobB key) ++ (s.take 120), (blobB (sigS key flip)).take (max 0 (min flip 83)).toNat, (blobB (sigS key flip))].getD j []) 32 10).2 - 1 + 1))], 67, true⟩)]) [] [(1112, 1040)] (bk_bad ([(s.take 120), (blobB key) ++ (s.take 120), (blobB (sigS key flip)).take (max 0 (min flip 83)).toNat, (blobB (sigS key flip))].getD j []) ht eo ((unbD ([(s.take 120), (blobB key) ++ (s.take 120), (blobB (sigS key flip)).take (max 0 (min flip 83)).toNat, (blobB (sigS key flip))].getD j []) 32 10).2 - 1) (by omega)) Tryz.func8 (by kernel_rfl) rfl rfl rfl (⟨⟨_, rfl, rfl, rfl⟩, trivial⟩) (⟨⟨_, _, rfl, rfl, rfl, rfl, (fun h => by cases h), rfl⟩, ⟨_, _, rfl, rfl, rfl, rfl, (fun h => by cases h), rfl⟩, ⟨_, _, rfl, rfl, rfl, rfl, (fun h => by cases h), rfl⟩, ⟨_, _, rfl, rfl, rfl, rfl, (fun h => by cases h), rfl⟩, trivial⟩) (⟨⟨1040, _, rfl, rfl, rfl, rfl, .inl rfl⟩, trivial⟩) (⟨(fun h => by cases h), (fun h => by cases h), (fun h => by cases h), (fun h => by cases h), trivial⟩) rfl) trivial rfl ?_
   refine .q (op_move rfl) trivial rfl ?_
   refine .q (op_extract rfl rfl) trivial rfl ?_
   refine .q (op_extract rfl rfl) trivial rfl ?_
   refine .a (op_allocRow zero22 rel_zero22 rfl) trivial rfl ?_
   refine .w (op_storeRow sz22 rfl rfl rfl rfl rfl (by first | (show _ ≤ List.length (List.replicate 32 (0 : UInt8)); rw [List.length_replicate]; done) | (show _ ≤ List.length (List.replicate 32 (0 : UInt8)); rw [List.length_replicate]; omega) | (show List.length (List.replicate 32 (0 : UInt8)) = _; rw [List.length_replicate]; done) | (simp only [AV.len, List.length_replicate]; done) | (simp only [AV.len, List.length_replicate]; omega) | omega) (by first | (show _ ≤ List.length (List.replicate 32 (0 : UInt8)); rw [List.length_replicate]; done) | (show _ ≤ List.length (List.replicate 32 (0 : UInt8)); rw [List.length_replicate]; omega) | (show List.length (List.replicate 32 (0 : UInt8)) = _; rw [List.length_replicate]; done) | (simp only [AV.len, List.length_replicate]; done) | (simp only [AV.len, List.length_replicate]; omega) | omega)) trivial rfl ?_
   refine .q (op_assign rfl) trivial rfl ?_
   refine .nil ?_
   show Ev _ _ _ _ _
   refine .seq ?_
   refine .seq ?_
   refine .region ?_
   refine .q (op_move rfl) trivial rfl ?_
   refine .q (op_call (U := []) [(500, 1112)] [] (codeF_ev ((unbD ([(s.take 120), (blobB key) ++ (s.take 120), (blobB (sigS key flip)).take (max 0 (min flip 83)).toNat, (blobB (sigS key flip))].getD j []) 32 10).2 - 1) (by have := unbD_code ([(s.take 120), (blobB key) ++ (s.take 120), (blobB (sigS key flip)).take (max 0 (min flip 83)).toNat, (blobB (sigS key flip))].getD j []) 32 10; omega) eo hd [107, 101, 121] 67) Tryz.func12 (by kernel_rfl) rfl rfl rfl (⟨⟨_, rfl, rfl, rfl⟩, trivial⟩) (⟨⟨_, _, rfl, rfl, rfl, rfl, (fun h => by cases h), rfl⟩, ⟨_, _, rfl, rfl, rfl, rfl, (fun h => by cases h), rfl⟩, ⟨_, _, rfl, rfl, rfl, rfl, (fun h => by cases h), rfl⟩, ⟨_, _, rfl, rfl, rfl, rfl, (fun h => by cases h), rfl⟩, ⟨_, _, rfl, rfl, rfl, rfl, (fun h => by cases h), rfl⟩, ⟨_, _, rfl, rfl, rfl, rfl, (fun h => by cases h), rfl⟩, ⟨_, _, rfl, rfl, rfl, rfl, (fun h => by cases h), rfl⟩, ⟨_, _, rfl, rfl, rfl, rfl, (fun h => by cases h), rfl⟩, ⟨_, _, rfl, rfl, rfl, rfl, (fun h => by cases h), rfl⟩, ⟨_, _, rfl, rfl, rfl, rfl, (fun h => by cases h), rfl⟩, ⟨_, _, rfl, rfl, rfl, rfl, (fun h => by cases h), rfl⟩, ⟨_, _, rfl, rfl, rfl, rfl, (fun h => by cases h), rfl⟩, ⟨_, _, rfl, rfl, rfl, rfl, (fun h => by cases h), rfl⟩, ⟨_, _, rfl, rfl, rfl, rfl, (fun h => by cases h), rfl⟩, ⟨_, _, rfl, rfl, rfl, rfl, (fun h => by cases h), rfl⟩, ⟨_, _, rfl, rfl, rfl, rfl, (fun h => by cases h), rfl⟩, ⟨_, _, rfl, rfl, rfl, rfl, (fun h => by cases h), rfl⟩, ⟨_, _, rfl, rfl, rfl, rfl, (fun h => by cases h), rfl⟩, ⟨_, _, rfl, rfl, rfl, rfl, (fun h => by cases h), rfl⟩, ⟨_, _, rfl, rfl, rfl, rfl, (fun h => by cases h), rfl⟩, ⟨_, _, rfl, rfl, rfl, rfl, (fun h => by cases h), rfl⟩, ⟨_, _, rfl, rfl, rfl, rfl, (fun h => by cases h), rfl⟩, ⟨_, _, rfl, rfl, rfl, rfl, (fun h => by cases h), rfl⟩, ⟨_, _, rfl, rfl, rfl, rfl, (fun h => by cases h), rfl⟩, ⟨_, _, rfl, rfl, rfl, rfl, (fun h => by cases h), rfl⟩, ⟨_, _, rfl, rfl, rfl, rfl, (fun h => by cases h), rfl⟩, ⟨_, _, rfl, rfl, rfl, rfl, (fun h => by cases h), rfl⟩, ⟨_, _, rfl, rfl, rfl, rfl, (fun h => by cases h), rfl⟩, ⟨_, _, rfl, rfl, rfl, rfl, (fun h => by cases h), rfl⟩, ⟨_, _, rfl, rfl, rfl, rfl, (fun h => by cases h), rfl⟩, ⟨_, _, rfl, rfl, rfl, rfl, (fun h => by cases h), rfl⟩, ⟨_, _, rfl, rfl, rfl, rfl, (fun h => by cases h), rfl⟩, ⟨_, _, rfl, rfl, rfl, rfl, (fun h => by cases h), rfl⟩, ⟨_, _, rfl, rfl, rfl, rfl, (fun h => by cases h), rfl⟩, ⟨_, _, rfl, rfl, rfl, rfl, (fun h => by cases h), rfl⟩, ⟨_, _, rfl, rfl, rfl, rfl, (fun h => by cases h), rfl⟩, ⟨_, _, rfl, rfl, rfl, rfl, (fun h => by cases h), rfl⟩, ⟨_, _, rfl, rfl, rfl, rfl, (fun h => by cases h), rfl⟩, ⟨_, _, rfl, rfl, rfl, rfl, (fun h => by cases h), rfl⟩, ⟨_, _, rfl, rfl, rfl, rfl, (fun h => by cases h), rfl⟩, ⟨_, _, rfl, rfl, rfl, rfl, (fun h => by cases h), rfl⟩, trivial⟩) (trivial) (⟨(fun h => by cases h), (fun h => by cases h), (fun h => by cases h), (fun h => by cases h), (fun h => by cases h), (fun h => by cases h), (fun h => by cases h), (fun h => by cases h), (fun h => by cases h), (fun h => by cases h), (fun h => by cases h), (fun h => by cases h), (fun h => by cases h), (fun h => by cases h), (fun h => by cases h), (fun h => by cases h), (fun h => by cases h), (fun h => by cases h), (fun h => by cases h), (fun h => by cases h), (fun h => by cases h), (fun h => by cases h), (fun h => by cases h), (fun h => by cases h), (fun h => by cases h), (fun h => by cases h), (fun h => by cases h), (fun h => by cases h), (fun h => by cases h), (fun h => by cases h), (fun h => by cases h), (fun h => by cases h), (fun h => by cases h), (fun h => by cases h), (fun h => by cases h), (fun h => by cases h), (fun h => by cases h), (fun h => by cases h), (fun h => by cases h), (fun h => by cases h), (fun h => by cases h), trivial⟩) rfl) trivial rfl ?_
   refine .q (op_move rfl) trivial rfl ?_
   refine .q (op_cmpI rfl rfl rfl) trivial rfl ?_
   refine .q (op_move rfl) trivial rfl ?_
   refine .know (b' := false) (bne_eq_false_iff_eq.2 (by omega)) ?_
   refine .q (op_move rfl) ⟨_, rfl, rfl⟩ rfl ?_
   refine .q (op_cmpI rfl rfl rfl) ⟨_, rfl, rfl⟩ rfl ?_
   refine .q (op_move rfl) ⟨_, rfl, rfl⟩ rfl ?_
   refine .know (b' := false) (beq_eq_false_iff_ne.2 (by omega)) ?_
   refine .no ⟨_, rfl, rfl⟩ rfl ?_
   refine .no ⟨_, rfl, rfl⟩ rfl ?_
   refine .no ⟨_, rfl, rfl⟩ rfl ?_
   refine .no ⟨_, rfl, rfl⟩ rfl ?_
   refine .q (op_pick_false rfl rfl rfl) ⟨_, rfl, rfl⟩ rfl ?_
   refine .q (op_pick_false rfl rfl rfl) trivial rfl ?_
   refine .q (op_move rfl) trivial rfl ?_
   refine .q (op_move rfl) ⟨_, rfl, rfl⟩ rfl ?_
   refine .q (op_cmpI rfl rfl rfl) ⟨_, rfl, rfl⟩ rfl ?_
   refine .q (op_move rfl) ⟨_, rfl, rfl⟩ rfl ?_
   refine .know (b' := true) (bne_iff_ne.2 (by omega)) ?_
   refine .q (op_loadRow Tryz.underlying22 rfl sz22 rfl rfl rfl (by first | (show _ ≤ List.length (List.replicate 32 (0 : UInt8)); rw [List.length_replicate]; done) | (show _ ≤ List.length (List.replicate 32 (0 : UInt8)); rw [List.length_replicate]; omega) | (show List.length (List.replicate 32 (0 : UInt8)) = _; rw [List.length_replicate]; done) | (simp only [AV.len, List.length_replicate]; done) | (simp only [AV.len, List.length_replicate]; omega) | omega)) ⟨_, rfl, rfl⟩ rfl ?_
   refine .q (op_buildArr (us := []) Tryz.underlying22 inf5.sz zero22 rel_zero22 rfl (by decide) trivial rfl) ⟨_, rfl, rfl⟩ rfl ?_
   refine .q (op_neqRow8 (n := 32) (by kernel_rfl) Tryz.underlying22 Tryz.underlying5 inf5.sz rfl rfl (by first | (show _ ≤ List.length (List.replicate 32 (0 : UInt8)); rw [List.length_replicate]; done) | (show _ ≤ List.length (List.replicate 32 (0 : UInt8)); rw [List.length_replicate]; omega) | (show List.length (List.replicate 32 (0 : UInt8)) = _; rw [List.length_replicate]; done) | (simp only [AV.len, List.length_replicate]; done) | (simp only [AV.len, List.length_replicate]; omega) | omega) (by first | (show _ ≤ List.length (List.replicate 32 (0 : UInt8)); rw [List.length_replicate]; done) | (show _ ≤ List.length (List.replicate 32 (0 : UInt8)); rw [List.length_replicate]; omega) | (show List.length (List.replicate 32 (0 : UInt8)) = _; rw [List.length_replicate]; done) | (simp only [AV.len, List.length_replicate]; done) | (simp only [AV.len, List.length_replicate]; omega) | omega)) ⟨_, rfl, rfl⟩ rfl ?_
   refine .q (op_pick_true rfl rfl rfl) ⟨_, rfl, rfl⟩ rfl ?_
   refine .q (op_pick_false rfl rfl rfl) trivial rfl ?_
   refine .q (op_move rfl) trivial rfl ?_
   refine .know (b' := false) (bself _) ?_
   refine .q (op_move rfl) ⟨_, rfl, rfl⟩ rfl ?_
   refine .q (op_cmpI rfl rfl rfl) ⟨_, rfl, rfl⟩ rfl ?_
   refine .q (op_move rfl) ⟨_, rfl, rfl⟩ rfl ?_
   refine .know (b' := true) (bne_iff_ne.2 (by omega)) ?_
   refine .q (op_move rfl) ⟨_, rfl, rfl⟩ rfl ?_
   refine .q (op_call (U := []) [(500, 1112)] [] (where_fault_ev ((unbD ([(s.take 120), (blobB key) ++ (s.take 120), (blobB (sigS key flip)).take (max 0 (min flip 83)).toNat, (blobB (sigS key flip))].getD j []) 32 10).2 - 1) (eo ((unbD ([(s.take 120), (blobB key) ++ (s.take 120), (blobB (sigS key flip)).take (max 0 (min flip 83)).toNat, (blobB (sigS key flip))].getD j []) 32 10).2 - 1)) [107, 101, 121] 67 ty) Tryz.func13 (by kernel_rfl) rfl rfl rfl (⟨⟨_, rfl, rfl, rfl⟩, trivial⟩) (⟨⟨_, _, rfl, rfl, rfl, rfl, (fun h => by cases h), rfl⟩, ⟨_, _, rfl, rfl, rfl, rfl, (fun h => by cases h), rfl⟩, trivial⟩) (trivial) (⟨(fun h => by cases h), (fun h => by cases h), trivial⟩) rfl) ⟨_, rfl, rfl⟩ rfl ?_
   refine .q (op_eqS rfl rfl rfl) ⟨_, rfl, rfl⟩ rfl ?_
   refine .q (op_pick_true rfl rfl rfl) ⟨_, rfl, rfl⟩ rfl ?_
   refine .q (op_pick_false rfl rfl rfl) trivial rfl ?_
   refine .nil ?_
   show Ev _ _ _ _ _
   refine .cond_false rfl (rfl) ?_
   refine .skip ?_
   show Ev _ _ _ _ _
   refine .seq ?_
   refine .region ?_
   refine .q (op_move rfl) trivial rfl ?_
   refine .q (op_call (U := []) [] [] (ropen_ev ([(s.take 120), (blobB key) ++ (s.take 120), (blobB (sigS key flip)).take (max 0 (min flip 83)).toNat, (blobB (sigS key flip))].getD j []) ht 64 11) Tryz.func11 (by kernel_rfl) rfl rfl rfl (⟨⟨_, rfl, rfl, rfl⟩, ⟨_, rfl, rfl, rfl⟩, ⟨_, rfl, rfl, rfl⟩, trivial⟩) (trivial) (trivial) (trivial) rfl) trivial rfl ?_
   refine .q (op_move rfl) trivial rfl ?_
   refine .q (op_extract rfl rfl) trivial rfl ?_
   refine .q (op_extract rfl rfl) trivial rfl ?_
   refine .q (op_assign rfl) trivial rfl ?_
   refine .q (op_assign rfl) trivial rfl ?_
   refine .nil ?_
   show Ev _ _ _ _ _
   refine .seq ?_
   refine .region ?_
   refine dite ((unbD ([(s.take 120), (blobB key) ++ (s.take 120), (blobB (sigS key flip)).take (max 0 (min flip 83)).toNat, (blobB (sigS key flip))].getD j []) 64 11).2 = 0) (fun h2 => ?_) (fun h2 => ?_)
   ·have hl2 := unb_len (by decide) h2
    refine .q (op_move rfl) trivial rfl ?_
    refine .q (op_call (U := []) [] [] (bs_ok ([(s.take 120), (blobB key) ++ (s.take 120), (blobB (sigS key flip)).take (max 0 (min flip 83)).toNat, (blobB (sigS key flip))].getD j []) ht eo h2 hl2) Tryz.func9 (by kernel_rfl) rfl rfl rfl (⟨⟨_, rfl, rfl, rfl⟩, trivial⟩) (⟨⟨_, _, rfl, rfl, rfl, rfl, (fun h => by cases h), rfl⟩, ⟨_, _, rfl, rfl, rfl, rfl, (fun h => by cases h), rfl⟩, ⟨_, _, rfl, rfl, rfl, rfl, (fun h => by cases h), rfl⟩, ⟨_, _, rfl, rfl, rfl, rfl, (fun h => by cases h), rfl⟩, trivial⟩) (trivial) (⟨(fun h => by cases h), (fun h => by cases h), (fun h => by cases h), (fun h => by cases h), trivial⟩) rfl) trivial rfl ?_
    refine .q (op_move rfl) trivial rfl ?_
    refine .as (.tup [.aggB (unbD ([(s.take 120), (blobB key) ++ (s.take 120), (blobB (sigS key flip)).take (max 0 (min flip 83)).toNat, (blobB (sigS key flip))].getD j []) 64 11).1, .val .nilIface]) rfl ?_
    refine .q (op_extract rfl rfl) trivial rfl ?_
    refine .q (op_extract rfl rfl) trivial rfl ?_
    refine .a (op_allocRow zero25 rel_zero25 rfl) trivial rfl ?_
    refine .w (op_storeRow sz25 rfl rfl rfl rfl rfl (by first | (simp only [AV.len]; done) | (simp only [AV.len]; exact hl2) | (simp only [AV.len]; rw [hl2]; done) | (simp only [AV.len]; omega) | omega) (by first | (simp only [AV.len, List.length_replicate]; done) | (simp only [AV.len]; exact hl2) | (simp only [AV.len]; rw [hl2]; done) | (simp only [AV.len]; omega) | omega)) trivial rfl ?_
    refine .q (op_assign rfl) trivial rfl ?_
    refine .asR (.err 165 (0) (offE eo (0))) (nil_err _ _) ?_
    refine .nil ?_
    show Ev _ _ _ _ _
    refine .seq ?_
    refine .region ?_
    refine .q (op_move rfl) trivial rfl ?_
    refine .q (op_call (U := []) [] [] (code_0 eo hd) Tryz.func12 (by kernel_rfl) rfl rfl rfl (⟨⟨_, rfl, rfl, rfl⟩, trivial⟩) (⟨⟨_, _, rfl, rfl, rfl, rfl, (fun h => by cases h), rfl⟩, ⟨_, _, rfl, rfl, rfl, rfl, (fun h => by cases h), rfl⟩, ⟨_, _, rfl, rfl, rfl, rfl, (fun h => by cases h), rfl⟩, ⟨_, _, rfl, rfl, rfl, rfl, (fun h => by cases h), rfl⟩, ⟨_, _, rfl, rfl, rfl, rfl, (fun h => by cases h), rfl⟩, ⟨_, _, rfl, rfl, rfl, rfl, (fun h => by cases h), rfl⟩, ⟨_, _, rfl, rfl, rfl, rfl, (fun h => by cases h), rfl⟩, ⟨_, _, rfl, rfl, rfl, rfl, (fun h => by cases h), rfl⟩, ⟨_, _, rfl, rfl, rfl, rfl, (fun h => by cases h), rfl⟩, ⟨_, _, rfl, rfl, rfl, rfl, (fun h => by cases h), rfl⟩, ⟨_, _, rfl, rfl, rfl, rfl, (fun h => by cases h), rfl⟩, ⟨_, _, rfl, rfl, rfl, rfl, (fun h => by cases h), rfl⟩, ⟨_, _, rfl, rfl, rfl, rfl, (fun h => by cases h), rfl⟩, ⟨_, _, rfl, rfl, rfl, rfl, (fun h => by cases h), rfl⟩, ⟨_, _, rfl, rfl, rfl, rfl, (fun h => by cases h), rfl⟩, ⟨_, _, rfl, rfl, rfl, rfl, (fun h => by cases h), rfl⟩, ⟨_, _, rfl, rfl, rfl, rfl, (fun h => by cases h), rfl⟩, ⟨_, _, rfl, rfl, rfl, rfl, (fun h => by cases h), rfl⟩, ⟨_, _, rfl, rfl, rfl, rfl, (fun h => by cases h), rfl⟩, ⟨_, _, rfl, rfl, rfl, rfl, (fun h => by cases h), rfl⟩, ⟨_, _, rfl, rfl, rfl, rfl, (fun h => by cases h), rfl⟩, ⟨_, _, rfl, rfl, rfl, rfl, (fun h => by cases h), rfl⟩, ⟨_, _, rfl, rfl, rfl, rfl, (fun h => by cases h), rfl⟩, ⟨_, _, rfl, rfl, rfl, rfl, (fun h => by cases h), rfl⟩, ⟨_, _, rfl, rfl, rfl, rfl, (fun h => by cases h), rfl⟩, ⟨_, _, rfl, rfl, rfl, rfl, (fun h => by cases h), rfl⟩, ⟨_, _, rfl, rfl, rfl, rfl, (fun h => by cases h), rfl⟩, ⟨_, _, rfl, rfl, rfl, rfl, (fun h => by cases h), rfl⟩, ⟨_, _, rfl, rfl, rfl, rfl, (fun h => by cases h), rfl⟩, ⟨_, _, rfl, rfl, rfl, rfl, (fun h => by cases h), rfl⟩, ⟨_, _, rfl, rfl, rfl, rfl, (fun h => by cases h), rfl⟩, ⟨_, _, rfl, rfl, rfl, rfl, (fun h => by cases h), rfl⟩, ⟨_, _, rfl, rfl, rfl, rfl, (fun h => by cases h), rfl⟩, ⟨_, _, rfl, rfl, rfl, rfl, (fun h => by cases h), rfl⟩, ⟨_, _, rfl, rfl, rfl, rfl, (fun h => by cases h), rfl⟩, ⟨_, _, rfl, rfl, rfl, rfl, (fun h => by cases h), rfl⟩, ⟨_, _, rfl, rfl, rfl, rfl, (fun h => by cases h), rfl⟩, ⟨_, _, rfl, rfl, rfl, rfl, (fun h => by cases h), rfl⟩, ⟨_, _, rfl, rfl, rfl, rfl, (fun h => by cases h), rfl⟩, ⟨_, _, rfl, rfl, rfl, rfl, (fun h => by cases h), rfl⟩, trivial⟩) (trivial) (⟨(fun h => by cases h), (fun h => by cases h), (fun h => by cases h), (fun h => by cases h), (fun h => by cases h), (fun h => by cases h), (fun h => by cases h), (fun h => by cases h), (fun h => by cases h), (fun h => by cases h), (fun h => by cases h), (fun h => by cases h), (fun h => by cases h), (fun h => by cases h), (fun h => by cases h), (fun h => by cases h), (fun h => by cases h), (fun h => by cases h), (fun h => by cases h), (fun h => by cases h), (fun h => by cases h), (fun h => by cases h), (fun h => by cases h), (fun h => by cases h), (fun h => by cases h), (fun h => by cases h), (fun h => by cases h), (fun h => by cases h), (fun h => by cases h), (fun h => by cases h), (fun h => by cases h), (fun h => by cases h), (fun h => by cases h), (fun h => by cases h), (fun h => by cases h), (fun h => by cases h), (fun h => by cases h), (fun h => by cases h), (fun h => by cases h), (fun h => by cases h), trivial⟩) rfl) trivial rfl ?_
    refine .q (op_move rfl) trivial rfl ?_
    refine .q (op_cmpI rfl rfl rfl) trivial rfl ?_
    refine .q (op_move rfl) trivial rfl ?_
    refine .know (b' := false) (bne_eq_false_iff_eq.2 (by omega)) ?_
    refine .q (op_move rfl) ⟨_, rfl, rfl⟩ rfl ?_
    refine .q (op_cmpI rfl rfl rfl) ⟨_, rfl, rfl⟩ rfl ?_
    refine .q (op_move rfl) ⟨_, rfl, rfl⟩ rfl ?_
    refine .know (b' := true) (beq_iff_eq.2 (by omega)) ?_
    refine .q (ap_slice_arr_hi Tryz.underlying25 inf5.sz rfl rfl (by first | (simp only [AV.len]; done) | (simp only [AV.len]; exact hl2) | (simp only [AV.len]; rw [hl2]; done) | (simp only [AV.len]; omega) | omega) (by decide) rfl (by first | (simp only [AV.len, List.length_replicate]; done) | (simp only [AV.len]; exact hl2) | (simp only [AV.len]; rw [hl2]; done) | (simp only [AV.len]; omega) | omega)) ⟨_, rfl, rfl⟩ rfl ?_
    refine .q (op_bytes_str Tryz.underlying26 Tryz.underlying5 Tryz.underlying9 rfl rfl rfl (by first | (simp only [AV.len, List.length_replicate]; done) | (simp only [AV.len]; exact hl2) | (simp only [AV.len]; rw [hl2]; done) | (simp only [AV.len]; omega) | omega)) ⟨_, rfl, rfl⟩ rfl ?_
    refine .as (.str (unbD ([(s.take 120), (blobB key) ++ (s.take 120), (blobB (sigS key flip)).take (max 0 (min flip 83)).toNat, (blobB (sigS key flip))].getD j []) 64 11).1) (congrArg AV.str (by rw [List.drop_zero, List.take_of_length_le (Nat.le_of_eq hl2)])) ?_
    refine .q (op_move rfl) ⟨_, rfl, rfl⟩ rfl ?_
    refine .q (op_eqS rfl rfl rfl) ⟨_, rfl, rfl⟩ rfl ?_
    refine .q (op_pick_true rfl rfl rfl) ⟨_, rfl, rfl⟩ rfl ?_
    refine .q (op_pick_false rfl rfl rfl) trivial rfl ?_
    refine .q (op_move rfl) trivial rfl ?_
    refine .know (b' := false) (bself _) ?_
    refine .q (op_move rfl) ⟨_, rfl, rfl⟩ rfl ?_
    refine .q (op_cmpI rfl rfl rfl) ⟨_, rfl, rfl⟩ rfl ?_
    refine .q (op_move rfl) ⟨_, rfl, rfl⟩ rfl ?_
    refine .know (b' := false) (bne_eq_false_iff_eq.2 (by omega)) ?_
    refine .no ⟨_, rfl, rfl⟩ rfl ?_
    refine .no ⟨_, rfl, rfl⟩ rfl ?_
    refine .no ⟨_, rfl, rfl⟩ rfl ?_
    refine .q (op_pick_false rfl rfl rfl) ⟨_, rfl, rfl⟩ rfl ?_
    refine .q (op_pick_false rfl rfl rfl) trivial rfl ?_
    refine .nil ?_
    show Ev _ _ _ _ _
    refine .cond_false rfl rfl ?_
    refine .skip ?_
    show Ev _ _ _ _ _
    refine .region ?_
    refine .q (op_addI rfl rfl ⟨by omega, by omega⟩) trivial rfl ?_
    refine .q (op_move rfl) trivial rfl ?_
    refine .nil ?_
    exact ⟨⟨j + 1, by omega⟩, by show 4 - (j + 1) < 4 - j; omega, StLe.mk [(1104, 1104)] rfl rfl ⟨⟨_, rfl, by first | rfl | (simp only [AV.ren]; congr 1; omega), rfl⟩, ⟨_, rfl, by first | rfl | (simp only [AV.ren]; congr 1; omega), rfl⟩, ⟨_, rfl, by first | rfl | (simp only [AV.ren]; congr 1; omega), rfl⟩, trivial⟩ ⟨⟨_, _, rfl, rfl, by first | rfl | (simp only [AV.ren]; congr 1; omega), rfl, id, rfl⟩, ⟨_, _, rfl, rfl, by first | rfl | (simp only [AV.ren]; congr 1; omega), rfl, id, rfl⟩, ⟨_, _, rfl, rfl, by first | rfl | (simp only [AV.ren]; congr 1; omega), rfl, id, rfl⟩, ⟨_, _, rfl, rfl, by first | rfl | (simp only [AV.ren]; congr 1; omega), rfl, id, rfl⟩, ⟨_, _, rfl, rfl, by first | rfl | (simp only [AV.ren]; congr 1; omega), rfl, id, rfl⟩, ⟨_, _, rfl, rfl, by first | rfl | (simp only [AV.ren]; congr 1; omega), rfl, id, rfl⟩, ⟨_, _, rfl, rfl, by first | rfl | (simp only [AV.ren]; congr 1; omega), rfl, id, rfl⟩, ⟨_, _, rfl, rfl, by first | rfl | (simp only [AV.ren]; congr 1; omega), rfl, id, rfl⟩, ⟨_, _, rfl, rfl, by first | rfl | (simp only [AV.ren]; congr 1; omega), rfl, id, rfl⟩, ⟨_, _, rfl, rfl, by first | rfl | (simp only [AV.ren]; congr 1; omega), rfl, id, rfl⟩, ⟨_, _, rfl, rfl, by first | rfl | (simp only [AV.ren]; congr 1; omega), rfl, id, rfl⟩, ⟨_, _, rfl, rfl, by first | rfl | (simp only [AV.ren]; congr 1; omega), rfl, id, rfl⟩, ⟨_, _, rfl, rfl, by first | rfl | (simp only [AV.ren]; congr 1; omega), rfl, id, rfl⟩, ⟨_, _, rfl, rfl, by first | rfl | (simp only [AV.ren]; congr 1; omega), rfl, id, rfl⟩, ⟨_, _, rfl, rfl, by first | rfl | (simp only [AV.ren]; congr 1; omega), rfl, id, rfl⟩, ⟨_, _, rfl, rfl, by first | rfl | (simp only [AV.ren]; congr 1; omega), rfl, id, rfl⟩, ⟨_, _, rfl, rfl, by first | rfl | (simp only [AV.ren]; congr 1; omega), rfl, id, rfl⟩, ⟨_, _, rfl, rfl, by first | rfl | (simp only [AV.ren]; congr 1; omega), rfl, id, rfl⟩, ⟨_, _, rfl, rfl, by first | rfl | (simp only [AV.ren]; congr 1; omega), rfl, id, rfl⟩, ⟨_, _, rfl, rfl, by first | rfl | (simp only [AV.ren]; congr 1; omega), rfl, id, rfl⟩, ⟨_, _, rfl, rfl, by first | rfl | (simp only [AV.ren]; congr 1; omega), rfl, id, rfl⟩, ⟨_, _, rfl, rfl, by first | rfl | (simp only [AV.ren]; congr 1; omega), rfl, id, rfl⟩, ⟨_, _, rfl, rfl, by first | rfl | (simp only [AV.ren]; congr 1; omega), rfl, id, rfl⟩, ⟨_, _, rfl, rfl, by first | rfl | (simp only [AV.ren]; congr 1; omega), rfl, id, rfl⟩, ⟨_, _, rfl, rfl, by first | rfl | (simp only [AV.ren]; congr 1; omega), rfl, id, rfl⟩, ⟨_, _, rfl, rfl, by first | rfl | (simp only [AV.ren]; congr 1; omega), rfl, id, rfl⟩, ⟨_, _, rfl, rfl, by first | rfl | (simp only [AV.ren]; congr 1; omega), rfl, id, rfl⟩, ⟨_, _, rfl, rfl, by first | rfl | (simp only [AV.ren]; congr 1; omega), rfl, id, rfl⟩, ⟨_, _, rfl, rfl, by first | rfl | (simp only [AV.ren]; congr 1; omega), rfl, id, rfl⟩, ⟨_, _, rfl, rfl, by first | rfl | (simp only [AV.ren]; congr 1; omega), rfl, id, rfl⟩, ⟨_, _, rfl, rfl, by first | rfl | (simp only [AV.ren]; congr 1; omega), rfl, id, rfl⟩, ⟨_, _, rfl, rfl, by first | rfl | (simp only [AV.ren]; congr 1; omega), rfl, id, rfl⟩, ⟨_, _, rfl, rfl, by first | rfl | (simp only [AV.ren]; congr 1; omega), rfl, id, rfl⟩, ⟨_, _, rfl, rfl, by first | rfl | (simp only [AV.ren]; congr 1; omega), rfl, id, rfl⟩, ⟨_, _, rfl, rfl, by first | rfl | (simp only [AV.ren]; congr 1; omega), rfl, id, rfl⟩, ⟨_, _, rfl, rfl, by first | rfl | (simp only [AV.ren]; congr 1; omega), rfl, id, rfl⟩, ⟨_, _, rfl, rfl, by first | rfl | (simp only [AV.ren]; congr 1; omega), rfl, id, rfl⟩, ⟨_, _, rfl, rfl, by first | rfl | (simp only [AV.ren]; congr 1; omega), rfl, id, rfl⟩, ⟨_, _, rfl, rfl, by first | rfl | (simp only [AV.ren]; congr 1; omega), rfl, id, rfl⟩, ⟨_, _, rfl, rfl, by first | rfl | (simp only [AV.ren]; congr 1; omega), rfl, id, rfl⟩, ⟨_, _, rfl, rfl, by first | rfl | (simp only [AV.ren]; congr 1; omega), rfl, id, rfl⟩, ⟨_, _, rfl, rfl, by first | rfl | (simp only [AV.ren]; congr 1; omega), rfl, id, rfl⟩, trivial⟩⟩
   ·have hz2 : ((unbD ([(s.take 120), (blobB key) ++ (s.take 120), (blobB (sigS key flip)).take (max 0 (min flip 83)).toNat, (blobB (sigS key flip))].getD j []) 64 11)).2 ≠ 0 := h2
    refine .q (op_move rfl) trivial rfl ?_
    refine .a (op_call (U := [(1128, some ⟨.agg [.str [115, 105, 103, 110, 97, 116, 117, 114, 101], .err 165 ((unbD ([(s.take 120), (blobB key) ++ (s.take 120), (blobB (sigS key flip)).take (max 0 (min flip 83)).toNat, (blobB (sigS key flip))].getD j []) 64 11).2 - 1 + 1) (offE eo ((unbD ([(s.take 120), (blobB key) ++ (s.take 120), (blobB (sigS key flip)).take (max 0 (min flip 83)).toNat, (blobB (sigS key flip))].getD j []) 64 11).2 - 1 + 1))], 67, true⟩)]) [] [(1128, 1040)] (bs_bad ([(s.take 120), (blobB key) ++ (s.take 120), (blobB (sigS key flip)).take (max 0 (min flip 83)).toNat, (blobB (sigS key flip))].getD j []) ht eo ((unbD ([(s.take 120), (blobB key) ++ (s.take 120), (blobB (sigS key flip)).take (max 0 (min flip 83)).toNat, (blobB (sigS key flip))].getD j []) 64 11).2 - 1) (by omega)) Tryz.func9 (by kernel_rfl) rfl rfl rfl (⟨⟨_, rfl, rfl, rfl⟩, trivial⟩) (⟨⟨_, _, rfl, rfl, rfl, rfl, (fun h => by cases h), rfl⟩, ⟨_, _, rfl, rfl, rfl, rfl, (fun h => by cases h), rfl⟩, ⟨_, _, rfl, rfl, rfl, rfl, (fun h => by cases h), rfl⟩, ⟨_, _, rfl, rfl, rfl, rfl, (fun h => by cases h), rfl⟩, trivial⟩) (⟨⟨1040, _, rfl, rfl, rfl, rfl, .inl rfl⟩, trivial⟩) (⟨(fun h => by cases h), (fun h => by cases h), (fun h => by cases h), (fun h => by cases h), trivial⟩) rfl) trivial rfl ?_
    refine .q (op_move rfl) trivial rfl ?_
    refine .q (op_extract rfl rfl) trivial rfl ?_
    refine .q (op_extract rfl rfl) trivial rfl ?_
    refine .a (op_allocRow zero25 rel_zero25 rfl) trivial rfl ?_
    refine .w (op_storeRow sz25 rfl rfl rfl rfl rfl (by first | (show _ ≤ List.length (List.replicate 64 (0 : UInt8)); rw [List.length_replicate]; done) | (show _ ≤ List.length (List.replicate 64 (0 : UInt8)); rw [List.length_replicate]; omega) | (show List.length (List.replicate 64 (0 : UInt8)) = _; rw [List.length_replicate]; done) | (simp only [AV.len, List.length_replicate]; done) | (simp only [AV.len, List.length_replicate]; omega) | omega) (by first | (show _ ≤ List.length (List.replicate 64 (0 : UInt8)); rw [List.length_replicate]; done) | (show _ ≤ List.length (List.replicate 64 (0 : UInt8)); rw [List.length_replicate]; omega) | (show List.length (List.replicate 64 (0 : UInt8)) = _; rw [List.length_replicate]; done) | (simp only [AV.len, List.length_replicate]; done) | (simp only [AV.len, List.length_replicate]; omega) | omega)) trivial rfl ?_
    refine .q (op_assign rfl) trivial rfl ?_
    refine .nil ?_
    show Ev _ _ _ _ _
    refine .seq ?_
    refine .region ?_
    refine .q (op_move rfl) trivial rfl ?_
    refine .q (op_call (U := []) [(500, 1128)] [] (codeF_ev ((unbD ([(s.take 120), (blobB key) ++ (s.take 120), (blobB (sigS key flip)).take (max 0 (min flip 83)).toNat, (blobB (sigS key flip))].getD j []) 64 11).2 - 1) (by have := unbD_code ([(s.take 120), (blobB key) ++ (s.take 120), (blobB (sigS key flip)).take (max 0 (min flip 83)).toNat, (blobB (sigS key flip))].getD j []) 64 11; omega) eo hd [115, 105, 103, 110, 97, 116, 117, 114, 101] 67) Tryz.func12 (by kernel_rfl) rfl rfl rfl (⟨⟨_, rfl, rfl, rfl⟩, trivial⟩) (⟨⟨_, _, rfl, rfl, rfl, rfl, (fun h => by cases h), rfl⟩, ⟨_, _, rfl, rfl, rfl, rfl, (fun h => by cases h), rfl⟩, ⟨_, _, rfl, rfl, rfl, rfl, (fun h => by cases h), rfl⟩, ⟨_, _, rfl, rfl, rfl, rfl, (fun h => by cases h), rfl⟩, ⟨_, _, rfl, rfl, rfl, rfl, (fun h => by cases h), rfl⟩, ⟨_, _, rfl, rfl, rfl, rfl, (fun h => by cases h), rfl⟩, ⟨_, _, rfl, rfl, rfl, rfl, (fun h => by cases h), rfl⟩, ⟨_, _, rfl, rfl, rfl, rfl, (fun h => by cases h), rfl⟩, ⟨_, _, rfl, rfl, rfl, rfl, (fun h => by cases h), rfl⟩, ⟨_, _, rfl, rfl, rfl, rfl, (fun h => by cases h), rfl⟩, ⟨_, _, rfl, rfl, rfl, rfl, (fun h => by cases h), rfl⟩, ⟨_, _, rfl, rfl, rfl, rfl, (fun h => by cases h), rfl⟩, ⟨_, _, rfl, rfl, rfl, rfl, (fun h => by cases h), rfl⟩, ⟨_, _, rfl, rfl, rfl, rfl, (fun h => by cases h), rfl⟩, ⟨_, _, rfl, rfl, rfl, rfl, (fun h => by cases h), rfl⟩, ⟨_, _, rfl, rfl, rfl, rfl, (fun h => by cases h), rfl⟩, ⟨_, _, rfl, rfl, rfl, rfl, (fun h => by cases h), rfl⟩, ⟨_, _, rfl, rfl, rfl, rfl, (fun h => by cases h), rfl⟩, ⟨_, _, rfl, rfl, rfl, rfl, (fun h => by cases h), rfl⟩, ⟨_, _, rfl, rfl, rfl, rfl, (fun h => by cases h), rfl⟩, ⟨_, _, rfl, rfl, rfl, rfl, (fun h => by cases h), rfl⟩, ⟨_, _, rfl, rfl, rfl, rfl, (fun h => by cases h), rfl⟩, ⟨_, _, rfl, rfl, rfl, rfl, (fun h => by cases h), rfl⟩, ⟨_, _, rfl, rfl, rfl, rfl, (fun h => by cases h), rfl⟩, ⟨_, _, rfl, rfl, rfl, rfl, (fun h => by cases h), rfl⟩, ⟨_, _, rfl, rfl, rfl, rfl, (fun h => by cases h), rfl⟩, ⟨_, _, rfl, rfl, rfl, rfl, (fun h => by cases h), rfl⟩, ⟨_, _, rfl, rfl, rfl, rfl, (fun h => by cases h), rfl⟩, ⟨_, _, rfl, rfl, rfl, rfl, (fun h => by cases h), rfl⟩, ⟨_, _, rfl, rfl, rfl, rfl, (fun h => by cases h), rfl⟩, ⟨_, _, rfl, rfl, rfl, rfl, (fun h => by cases h), rfl⟩, ⟨_, _, rfl, rfl, rfl, rfl, (fun h => by cases h), rfl⟩, ⟨_, _, rfl, rfl, rfl, rfl, (fun h => by cases h), rfl⟩, ⟨_, _, rfl, rfl, rfl, rfl, (fun h => by cases h), rfl⟩, ⟨_, _, rfl, rfl, rfl, rfl, (fun h => by cases h), rfl⟩, ⟨_, _, rfl, rfl, rfl, rfl, (fun h => by cases h), rfl⟩, ⟨_, _, rfl, rfl, rfl, rfl, (fun h => by cases h), rfl⟩, ⟨_, _, rfl, rfl, rfl, rfl, (fun h => by cases h), rfl⟩, ⟨_, _, rfl, rfl, rfl, rfl, (fun h => by cases h), rfl⟩, ⟨_, _, rfl, rfl, rfl, rfl, (fun h => by cases h), rfl⟩, ⟨_, _, rfl, rfl, rfl, rfl, (fun h => by cases h), rfl⟩, trivial⟩) (trivial) (⟨(fun h => by cases h), (fun h => by cases h), (fun h => by cases h), (fun h => by cases h), (fun h => by cases h), (fun h => by cases h), (fun h => by cases h), (fun h => by cases h), (fun h => by cases h), (fun h => by cases h), (fun h => by cases h), (fun h => by cases h), (fun h => by cases h), (fun h => by cases h), (fun h => by cases h), (fun h => by cases h), (fun h => by cases h), (fun h => by cases h), (fun h => by cases h), (fun h => by cases h), (fun h => by cases h), (fun h => by cases h), (fun h => by cases h), (fun h => by cases h), (fun h => by cases h), (fun h => by cases h), (fun h => by cases h), (fun h => by cases h), (fun h => by cases h), (fun h => by cases h), (fun h => by cases h), (fun h => by cases h), (fun h => by cases h), (fun h => by cases h), (fun h => by cases h), (fun h => by cases h), (fun h => by cases h), (fun h => by cases h), (fun h => by cases h), (fun h => by cases h), (fun h => by cases h), trivial⟩) rfl) trivial rfl ?_
    refine .q (op_move rfl) trivial rfl ?_
    refine .q (op_cmpI rfl rfl rfl) trivial rfl ?_
    refine .q (op_move rfl) trivial rfl ?_
    refine .know (b' := false) (bne_eq_false_iff_eq.2 (by omega)) ?_
    refine .q (op_move rfl) ⟨_, rfl, rfl⟩ rfl ?_
    refine .q (op_cmpI rfl rfl rfl) ⟨_, rfl, rfl⟩ rfl ?_
    refine .q (op_move rfl) ⟨_, rfl, rfl⟩ rfl ?_
    refine .know (b' := false) (beq_eq_false_iff_ne.2 (by omega)) ?_
    refine .no ⟨_, rfl, rfl⟩ rfl ?_
    refine .no ⟨_, rfl, rfl⟩ rfl ?_
    refine .no ⟨_, rfl, rfl⟩ rfl ?_
    refine .no ⟨_, rfl, rfl⟩ rfl ?_
    refine .q (op_pick_false rfl rfl rfl) ⟨_, rfl, rfl⟩ rfl ?_
    refine .q (op_pick_false rfl rfl rfl) trivial rfl ?_
    refine .q (op_move rfl) trivial rfl ?_
    refine .q (op_move rfl) ⟨_, rfl, rfl⟩ rfl ?_
    refine .q (op_cmpI rfl rfl rfl) ⟨_, rfl, rfl⟩ rfl ?_
    refine .q (op_move rfl) ⟨_, rfl, rfl⟩ rfl ?_
    refine .know (b' := true) (bne_iff_ne.2 (by omega)) ?_
    refine .q (op_loadRow Tryz.underlying25 rfl sz25 rfl rfl rfl (by first | (show _ ≤ List.length (List.replicate 64 (0 : UInt8)); rw [List.length_replicate]; done) | (show _ ≤ List.length (List.replicate 64 (0 : UInt8)); rw [List.length_replicate]; omega) | (show List.length (List.replicate 64 (0 : UInt8)) = _; rw [List.length_replicate]; done) | (simp only [AV.len, List.length_replicate]; done) | (simp only [AV.len, List.length_replicate]; omega) | omega)) ⟨_, rfl, rfl⟩ rfl ?_
    refine .q (op_buildArr (us := []) Tryz.underlying25 inf5.sz zero25 rel_zero25 rfl (by decide) trivial rfl) ⟨_, rfl, rfl⟩ rfl ?_
    refine .q (op_neqRow8 (n := 64) (by kernel_rfl) Tryz.underlying25 Tryz.underlying5 inf5.sz rfl rfl (by first | (show _ ≤ List.length (List.replicate 64 (0 : UInt8)); rw [List.length_replicate]; done) | (show _ ≤ List.length (List.replicate 64 (0 : UInt8)); rw [List.length_replicate]; omega) | (show List.length (List.replicate 64 (0 : UInt8)) = _; rw [List.length_replicate]; done) | (simp only [AV.len, List.length_replicate]; done) | (simp only [AV.len, List.length_replicate]; omega) | omega) (by first | (show _ ≤ List.length (List.replicate 64 (0 : UInt8)); rw [List.length_replicate]; done) | (show _ ≤ List.length (List.replicate 64 (0 : UInt8)); rw [List.length_replicate]; omega) | (show List.length (List.replicate 64 (0 : UInt8)) = _; rw [List.length_replicate]; done) | (simp only [AV.len, List.length_replicate]; done) | (simp only [AV.len, List.length_replicate]; omega) | omega)) ⟨_, rfl, rfl⟩ rfl ?_
    refine .q (op_pick_true rfl rfl rfl) ⟨_, rfl, rfl⟩ rfl ?_
    refine .q (op_pick_false rfl rfl rfl) trivial rfl ?_
    refine .nil ?_
    show Ev _ _ _ _ _
    refine .cond_false rfl (bself _) ?_
    refine .skip ?_
    show Ev _ _ _ _ _
    refine .region ?_
    refine .q (op_addI rfl rfl ⟨by omega, by omega⟩) trivial rfl ?_
    refine .q (op_move rfl) trivial rfl ?_
    refine .nil ?_
    exact ⟨⟨j + 1, by omega⟩, by show 4 - (j + 1) < 4 - j; omega, StLe.mk [(1104, 1104)] rfl rfl ⟨⟨_, rfl, by first | rfl | (simp only [AV.ren]; congr 1; omega), rfl⟩, ⟨_, rfl, by first | rfl | (simp only [AV.ren]; congr 1; omega), rfl⟩, ⟨_, rfl, by first | rfl | (simp only [AV.ren]; congr 1; omega), rfl⟩, trivial⟩ ⟨⟨_, _, rfl, rfl, by first | rfl | (simp only [AV.ren]; congr 1; omega), rfl, id, rfl⟩, ⟨_, _, rfl, rfl, by first | rfl | (simp only [AV.ren]; congr 1; omega), rfl, id, rfl⟩, ⟨_, _, rfl, rfl, by first | rfl | (simp only [AV.ren]; congr 1; omega), rfl, id, rfl⟩, ⟨_, _, rfl, rfl, by first | rfl | (simp only [AV.ren]; congr 1; omega), rfl, id, rfl⟩, ⟨_, _, rfl, rfl, by first | rfl | (simp only [AV.ren]; congr 1; omega), rfl, id, rfl⟩, ⟨_, _, rfl, rfl, by first | rfl | (simp only [AV.ren]; congr 1; omega), rfl, id, rfl⟩, ⟨_, _, rfl, rfl, by first | rfl | (simp only [AV.ren]; congr 1; omega), rfl, id, rfl⟩, ⟨_, _, rfl, rfl, by first | rfl | (simp only [AV.ren]; congr 1; omega), rfl, id, rfl⟩, ⟨_, _, rfl, rfl, by first | rfl | (simp only [AV.ren]; congr 1; omega), rfl, id, rfl⟩, ⟨_, _, rfl, rfl, by first | rfl | (simp only [AV.ren]; congr 1; omega), rfl, id, rfl⟩, ⟨_, _, rfl, rfl, by first | rfl | (simp only [AV.ren]; congr 1; omega), rfl, id, rfl⟩, ⟨_, _, rfl, rfl, by first | rfl | (simp only [AV.ren]; congr 1; omega), rfl, id, rfl⟩, ⟨_, _, rfl, rfl, by first | rfl | (simp only [AV.ren]; congr 1; omega), rfl, id, rfl⟩, ⟨_, _, rfl, rfl, by first | rfl | (simp only [AV.ren]; congr 1; omega), rfl, id, rfl⟩, ⟨_, _, rfl, rfl, by first | rfl | (simp only [AV.ren]; congr 1; omega), rfl, id, rfl⟩, ⟨_, _, rfl, rfl, by first | rfl | (simp only [AV.ren]; congr 1; omega), rfl, id, rfl⟩, ⟨_, _, rfl, rfl, by first | rfl | (simp only [AV.ren]; congr 1; omega), rfl, id, rfl⟩, ⟨_, _, rfl, rfl, by first | rfl | (simp only [AV.ren]; congr 1; omega), rfl, id, rfl⟩, ⟨_, _, rfl, rfl, by first | rfl | (simp only [AV.ren]; congr 1; omega), rfl, id, rfl⟩, ⟨_, _, rfl, rfl, by first | rfl | (simp only [AV.ren]; congr 1; omega), rfl, id, rfl⟩, ⟨_, _, rfl, rfl, by first | rfl | (simp only [AV.ren]; congr 1; omega), rfl, id, rfl⟩, ⟨_, _, rfl, rfl, by first | rfl | (simp only [AV.ren]; congr 1; omega), rfl, id, rfl⟩, ⟨_, _, rfl, rfl, by first | rfl | (simp only [AV.ren]; congr 1; omega), rfl, id, rfl⟩, ⟨_, _, rfl, rfl, by first | rfl | (simp only [AV.ren]; congr 1; omega), rfl, id, rfl⟩, ⟨_, _, rfl, rfl, by first | rfl | (simp only [AV.ren]; congr 1; omega), rfl, id, rfl⟩, ⟨_, _, rfl, rfl, by first | rfl | (simp only [AV.ren]; congr 1; omega), rfl, id, rfl⟩, ⟨_, _, rfl, rfl, by first | rfl | (simp only [AV.ren]; congr 1; omega), rfl, id, rfl⟩, ⟨_, _, rfl, rfl, by first | rfl | (simp only [AV.ren]; congr 1; omega), rfl, id, rfl⟩, ⟨_, _, rfl, rfl, by first | rfl | (simp only [AV.ren]; congr 1; omega), rfl, id, rfl⟩, ⟨_, _, rfl, rfl, by first | rfl | (simp only [AV.ren]; congr 1; omega), rfl, id, rfl⟩, ⟨_, _, rfl, rfl, by first | rfl | (simp only [AV.ren]; congr 1; omega), rfl, id, rfl⟩, ⟨_, _, rfl, rfl, by first | rfl | (simp only [AV.ren]; congr 1; omega), rfl, id, rfl⟩, ⟨_, _, rfl, rfl, by first | rfl | (simp only [AV.ren]; congr 1; omega), rfl, id, rfl⟩, ⟨_, _, rfl, rfl, by first | rfl | (simp only [AV.ren]; congr 1; omega), rfl, id, rfl⟩, ⟨_, _, rfl, rfl, by first | rfl | (simp only [AV.ren]; congr 1; omega), rfl, id, rfl⟩, ⟨_, _, rfl, rfl, by first | rfl | (simp only [AV.ren]; congr 1; omega), rfl, id, rfl⟩, ⟨_, _, rfl, rfl, by first | rfl | (simp only [AV.ren]; congr 1; omega), rfl, id, rfl⟩, ⟨_, _, rfl, rfl, by first | rfl | (simp only [AV.ren]; congr 1; omega), rfl, id, rfl⟩, ⟨_, _, rfl, rfl, by first | rfl | (simp only [AV.ren]; congr 1; omega), rfl, id, rfl⟩, ⟨_, _, rfl, rfl, by first | rfl | (simp only [AV.ren]; congr 1; omega), rfl, id, rfl⟩, ⟨_, _, rfl, rfl, by first | rfl | (simp only [AV.ren]; congr 1; omega), rfl, id, rfl⟩, ⟨_, _, rfl, rfl, by first | rfl | (simp only [AV.ren]; congr 1; omega), rfl, id, rfl⟩, trivial⟩⟩
 ·simp only [decide_eq_false_iff_not] at hc91
  refine .exit ?_
  show Ev _ _ _ _ _
  have ej : j = 4 := by omega
  refine Ev.weak (st2 := ⟨[(88, .sl 1104 0 4 1), (89, .i64 4), (90, .i64 (((4) : Nat) : Int))], [(1104, some ⟨.aggS [(s.take 120), (blobB key) ++ (s.take 120), (blobB (sigS key flip)).take (max 0 (min flip 83)).toNat, (blobB (sigS key flip))], 9, true⟩), (2, some ⟨.agg [.err 165 (1) (offE eo (1))], errT, false⟩), (3, some ⟨.agg [.err 165 (2) (offE eo (2))], errT, false⟩), (4, some ⟨.agg [.err 165 (3) (offE eo (3))], errT, false⟩), (5, some ⟨.agg [.err 165 (4) (offE eo (4))], errT, false⟩), (6, some ⟨.agg [.err 165 (5) (offE eo (5))], errT, false⟩), (7, some ⟨.agg [.err 165 (6) (offE eo (6))], errT, false⟩), (8, some ⟨.agg [.err 165 (7) (offE eo (7))], errT, false⟩), (9, some ⟨.agg [.err 165 (8) (offE eo (8))], errT, false⟩), (10, some ⟨.agg [.err 165 (9) (offE eo (9))], errT, false⟩), (0, some ⟨.agg [.err 165 (10) (offE eo (10))], errT, false⟩), (1, some ⟨.agg [.err 165 (11) (offE eo (11))], errT, false⟩), (11, some ⟨.agg [.err 165 (12) (offE eo (12))], errT, false⟩), (12, some ⟨.agg [.err 165 (13) (offE eo (13))], errT, false⟩), (13, some ⟨.agg [.err 165 (14) (offE eo (14))], errT, false⟩), (14, some ⟨.agg [.err 165 (15) (offE eo (15))], errT, false⟩), (15, some ⟨.agg [.err 165 (16) (offE eo (16))], errT, false⟩), (16, some ⟨.agg [.err 165 (17) (offE eo (17))], errT, false⟩), (17, some ⟨.agg [.err 165 (18) (offE eo (18))], errT, false⟩), (18, some ⟨.agg [.err 165 (19) (offE eo (19))], errT, false⟩), (19, some ⟨.agg [.err 165 (20) (offE eo (20))], errT, false⟩), (401, some ⟨.agg [], errT, false⟩), (402, some ⟨.agg [], errT, false⟩), (403, some ⟨.agg [], errT, false⟩), (404, some ⟨.agg [], errT, false⟩), (405, some ⟨.agg [], errT, false⟩), (406, some ⟨.agg [], errT, false⟩), (407, some ⟨.agg [], errT, false⟩), (408, some ⟨.agg [], errT, false⟩), (409, some ⟨.agg [], errT, false⟩), (410, some ⟨.agg [], errT, false⟩), (411, some ⟨.agg [], errT, false⟩), (412, some ⟨.agg [], errT, false⟩), (413, some ⟨.agg [], errT, false⟩), (414, some ⟨.agg [], errT, false⟩), (415, some ⟨.agg [], errT, false⟩), (416, some ⟨.agg [], errT, false⟩), (417, some ⟨.agg [], errT, false⟩), (418, some ⟨.agg [], errT, false⟩), (419, some ⟨.agg [], errT, false⟩), (420, some ⟨.agg [], errT, false⟩), (21, some ⟨hndE, ty, false⟩)], 1112⟩) (StLe.mk [(1104, 1104)] rfl rfl ⟨⟨_, rfl, by first | (simp only [AV.ren]; done) | (simp only [AV.ren]; rw [ej]; done) | rfl, rfl⟩, ⟨_, rfl, by first | (simp only [AV.ren]; done) | (simp only [AV.ren]; rw [ej]; done) | rfl, rfl⟩, ⟨_, rfl, by first | (simp only [AV.ren]; done) | (simp only [AV.ren]; rw [ej]; done) | rfl, rfl⟩, trivial⟩ ⟨⟨_, _, rfl, rfl, by first | (simp only [AV.ren]; done) | (simp only [AV.ren]; rw [ej]; done) | rfl, by rfl, id, rfl⟩, ⟨_, _, rfl, rfl, by first | (simp only [AV.ren]; done) | (simp only [AV.ren]; rw [ej]; done) | rfl, by rfl, id, rfl⟩, ⟨_, _, rfl, rfl, by first | (simp only [AV.ren]; done) | (simp only [AV.ren]; rw [ej]; done) | rfl, by rfl, id, rfl⟩, ⟨_, _, rfl, rfl, by first | (simp only [AV.ren]; done) | (simp only [AV.ren]; rw [ej]; done) | rfl, by rfl, id, rfl⟩, ⟨_, _, rfl, rfl, by first | (simp only [AV.ren]; done) | (simp only [AV.ren]; rw [ej]; done) | rfl, by rfl, id, rfl⟩, ⟨_, _, rfl, rfl, by first | (simp only [AV.ren]; done) | (simp only [AV.ren]; rw [ej]; done) | rfl, by rfl, id, rfl⟩, ⟨_, _, rfl, rfl, by first | (simp only [AV.ren]; done) | (simp only [AV.ren]; rw [ej]; done) | rfl, by rfl, id, rfl⟩, ⟨_, _, rfl, rfl, by first | (simp only [AV.ren]; done) | (simp only [AV.ren]; rw [ej]; done) | rfl, by rfl, id, rfl⟩, ⟨_, _, rfl, rfl, by first | (simp only [AV.ren]; done) | (simp only [AV.ren]; rw [ej]; done) | rfl, by rfl, id, rfl⟩, ⟨_, _, rfl, rfl, by first | (simp only [AV.ren]; done) | (simp only [AV.ren]; rw [ej]; done) | rfl, by rfl, id, rfl⟩, ⟨_, _, rfl, rfl, by first | (simp only [AV.ren]; done) | (simp only [AV.ren]; rw [ej]; done) | rfl, by rfl, id, rfl⟩, ⟨_, _, rfl, rfl, by first | (simp only [AV.ren]; done) | (simp only [AV.ren]; rw [ej]; done) | rfl, by rfl, id, rfl⟩, ⟨_, _, rfl, rfl, by first | (simp only [AV.ren]; done) | (simp only [AV.ren]; rw [ej]; done) | rfl, by rfl, id, rfl⟩, ⟨_, _, rfl, rfl, by first | (simp only [AV.ren]; done) | (simp only [AV.ren]; rw [ej]; done) | rfl, by rfl, id, rfl⟩, ⟨_, _, rfl, rfl, by first | (simp only [AV.ren]; done) | (simp only [AV.ren]; rw [ej]; done) | rfl, by rfl, id, rfl⟩, ⟨_, _, rfl, rfl, by first | (simp only [AV.ren]; done) | (simp only [AV.ren]; rw [ej]; done) | rfl, by rfl, id, rfl⟩, ⟨_, _, rfl, rfl, by first | (simp only [AV.ren]; done) | (simp only [AV.ren]; rw [ej]; done) | rfl, by rfl, id, rfl⟩, ⟨_, _, rfl, rfl, by first | (simp only [AV.ren]; done) | (simp only [AV.ren]; rw [ej]; done) | rfl, by rfl, id, rfl⟩, ⟨_, _, rfl, rfl, by first | (simp only [AV.ren]; done) | (simp only [AV.ren]; rw [ej]; done) | rfl, by rfl, id, rfl⟩, ⟨_, _, rfl, rfl, by first | (simp only [AV.ren]; done) | (simp only [AV.ren]; rw [ej]; done) | rfl, by rfl, id, rfl⟩, ⟨_, _, rfl, rfl, by first | (simp only [AV.ren]; done) | (simp only [AV.ren]; rw [ej]; done) | rfl, by rfl, id, rfl⟩, ⟨_, _, rfl, rfl, by first | (simp only [AV.ren]; done) | (simp only [AV.ren]; rw [ej]; done) | rfl, by rfl, id, rfl⟩, ⟨_, _, rfl, rfl, by first | (simp only [AV.ren]; done) | (simp only [AV.ren]; rw [ej]; done) | rfl, by rfl, id, rfl⟩, ⟨_, _, rfl, rfl, by first | (simp only [AV.ren]; done) | (simp only [AV.ren]; rw [ej]; done) | rfl, by rfl, id, rfl⟩, ⟨_, _, rfl, rfl, by first | (simp only [AV.ren]; done) | (simp only [AV.ren]; rw [ej]; done) | rfl, by rfl, id, rfl⟩, ⟨_, _, rfl, rfl, by first | (simp only [AV.ren]; done) | (simp only [AV.ren]; rw [ej]; done) | rfl, by rfl, id, rfl⟩, ⟨_, _, rfl, rfl, by first | (simp only [AV.ren]; done) | (simp only [AV.ren]; rw [ej]; done) | rfl, by rfl, id, rfl⟩, ⟨_, _, rfl, rfl, by first | (simp only [AV.ren]; done) | (simp only [AV.ren]; rw [ej]; done) | rfl, by rfl, id, rfl⟩, ⟨_, _, rfl, rfl, by first | (simp only [AV.ren]; done) | (simp only [AV.ren]; rw [ej]; done) | rfl, by rfl, id, rfl⟩, ⟨_, _, rfl, rfl, by first | (simp only [AV.ren]; done) | (simp only [AV.ren]; rw [ej]; done) | rfl, by rfl, id, rfl⟩, ⟨_, _, rfl, rfl, by first | (simp only [AV.ren]; done) | (simp only [AV.ren]; rw [ej]; done) | rfl, by rfl, id, rfl⟩, ⟨_, _, rfl, rfl, by first | (simp only [AV.ren]; done) | (simp only [AV.ren]; rw [ej]; done) | rfl, by rfl, id, rfl⟩, ⟨_, _, rfl, rfl, by first | (simp only [AV.ren]; done) | (simp only [AV.ren]; rw [ej]; done) | rfl, by rfl, id, rfl⟩, ⟨_, _, rfl, rfl, by first | (simp only [AV.ren]; done) | (simp only [AV.ren]; rw [ej]; done) | rfl, by rfl, id, rfl⟩, ⟨_, _, rfl, rfl, by first | (simp only [AV.ren]; done) | (simp only [AV.ren]; rw [ej]; done) | rfl, by rfl, id, rfl⟩, ⟨_, _, rfl, rfl, by first | (simp only [AV.ren]; done) | (simp only [AV.ren]; rw [ej]; done) | rfl, by rfl, id, rfl⟩, ⟨_, _, rfl, rfl, by first | (simp only [AV.ren]; done) | (simp only [AV.ren]; rw [ej]; done) | rfl, by rfl, id, rfl⟩, ⟨_, _, rfl, rfl, by first | (simp only [AV.ren]; done) | (simp only [AV.ren]; rw [ej]; done) | rfl, by rfl, id, rfl⟩, ⟨_, _, rfl, rfl, by first | (simp only [AV.ren]; done) | (simp only [AV.ren]; rw [ej]; done) | rfl, by rfl, id, rfl⟩, ⟨_, _, rfl, rfl, by first | (simp only [AV.ren]; done) | (simp only [AV.ren]; rw [ej]; done) | rfl, by rfl, id, rfl⟩, ⟨_, _, rfl, rfl, by first | (simp only [AV.ren]; done) | (simp only [AV.ren]; rw [ej]; done) | rfl, by rfl, id, rfl⟩, ⟨_, _, rfl, rfl, by first | (skip; done) | (skip; rw [ej]; done) | rfl, by rfl, id, rfl⟩, trivial⟩) ?_
  refine .seq ?_
  refine .region ?_
  refine .q (op_assign rfl) trivial rfl ?_
  refine .nil ?_
  show Ev _ _ _ _ _
  refine .ret ?_
  show RetOk _ _ _ _ _ _ _
  exact ret1v rfl (.inl rfl) rfl rfl trivial
end Go.Proofs.YtaelhapmikijnaaGreatDoor
