/-
  Texts of this claim.
-/
import Derived.Test.YtcnjekoidgefpaaDoorGS5
import Derived.Test.YtcnjekoidgefpaaDoorGS3
namespace Go.Proofs.YtcnjekoidgefpaaDoor
open Go.RowKit
/-- A key filled up. -/
def kblk0 (k : List UInt8) : List UInt8 := cpB (List.replicate 64 0) 0 k k.length
def kblk (key : List UInt8) : List UInt8 := kblk0 (if 64 < key.length then sha256 key else key)
theorem length_kblk0 (k : List UInt8) (h : k.length ≤ 64) : (kblk0 k).length = 64 := by
  unfold kblk0; rw [length_cpB _ _ _ _ (Nat.le_refl _) (by simpa using h)]; simp
theorem length_kblk (key : List UInt8) : (kblk key).length = 64 := by
  unfold kblk
  apply length_kblk0
  split
  · rw [length_sha256]; decide
  · omega
/-- A block masked. -/
def mskN (b : List UInt8) (m : UInt8) : Nat → List UInt8
  | 0 => b
  | i + 1 => (mskN b m i).set i ((mskN b m i).getD i 0 ^^^ m)
theorem length_mskN (b : List UInt8) (m : UInt8) (i : Nat) : (mskN b m i).length = b.length := by
  induction i with
  | zero => rfl
  | succ i ih => simp [mskN, ih]
def hmacN (key : List UInt8) (xs : List (List UInt8)) : List UInt8 :=
  sha256 (mskN (kblk key) (UInt8.ofNat 92) 64 ++ sha256 (mskN (kblk key) (UInt8.ofNat 54) 64 ++ xs.flatten))
theorem length_hmacN (key : List UInt8) (xs : List (List UInt8)) : (hmacN key xs).length = 32 := length_sha256 _
theorem drop_take_all2 (l : List UInt8) (n : Nat) (h : l.length = n) : (l.drop 0).take n = l := by rw [List.drop_zero, List.take_of_length_le (Nat.le_of_eq h)]
set_option maxRecDepth 100000 in
theorem kmsk_ev (b : List UInt8) (m : UInt8) (hb : b.length = 64) : Meets Tryd.prog 126 [.aggB b, .u8 m] [] (.str (mskN b m 64)) [] := by
 refine meets_of_ev (nt := 18) Tryd.func126 rfl rfl (Nat.le_of_ble_eq_true rfl) ?_
 refine .seq ?_
 refine .region ?_
 refine .a (op_boxRow rfl rfl) trivial rfl ?_
 refine .q (op_assign rfl) trivial rfl ?_
 refine .nil ?_
 show Ev _ _ _ _ _
 refine .seq ?_
 refine .seq ?_
 refine .region ?_
 refine .q (op_move rfl) trivial rfl ?_
 refine .nil ?_
 show Ev _ _ _ _ _
 refine .block ?_
 refine Ev.loop (ι := { j : Nat // j ≤ 64 }) (fun j => ⟨[(2, .ptr 1000 0), (1, .u8 m), (6, .i64 ((j.1 : Nat) : Int))], [(1000, some ⟨.aggB (mskN b m j.1), 26, true⟩)], 1008⟩) (fun j => 64 - j.1) ⟨0, Nat.zero_le _⟩ (StLe.mk [(1000, 1000)] rfl rfl ⟨⟨_, rfl, by first | rfl | (simp only [AV.ren]; congr 1; omega), rfl⟩, ⟨_, rfl, by first | rfl | (simp only [AV.ren]; congr 1; omega), rfl⟩, ⟨_, rfl, by first | rfl | (simp only [AV.ren]; congr 1; omega), rfl⟩, trivial⟩ ⟨⟨_, _, rfl, rfl, by first | rfl | (simp only [AV.ren]; congr 1; omega), rfl, id, rfl⟩, trivial⟩) ?_
 rintro ⟨j, hj⟩
 dsimp only
 have hlm := length_mskN b m j
 refine .seq ?_
 refine .region ?_
 refine .q (op_cmpI rfl rfl rfl) trivial rfl ?_
 refine .nil ?_
 show Ev _ _ _ _ _
 refine .seq ?_
 refine .cond rfl (fun hc7 => ?_) (fun hc7 => ?_)
 ·simp only [decide_eq_true_eq] at hc7
  refine .skip ?_
  show Ev _ _ _ _ _
  refine .seq ?_
  refine .block ?_
  refine .seq ?_
  refine .region ?_
  refine .q (op_move rfl) trivial rfl ?_
  refine .q (op_assign rfl) trivial rfl ?_
  refine .nil ?_
  show Ev _ _ _ _ _
  refine .region ?_
  refine .q (op_move rfl) trivial rfl ?_
  refine .q (ap_idx_arr Tryd.underlying26 inf5.sz rfl rfl rfl (by omega)) trivial rfl ?_
  refine .q (op_load Tryd.underlying5 rfl rfl rfl rfl (by show j < (mskN b m j).length; omega)) trivial rfl ?_
  refine .q (op_move rfl) trivial rfl ?_
  refine .q (op_bin8 rfl rfl rfl) trivial rfl ?_
  refine .q (ap_idx_arr Tryd.underlying26 inf5.sz rfl rfl rfl (by omega)) trivial rfl ?_
  refine .w (op_store inf5.sz rfl rfl rfl rfl rfl (by show j < (mskN b m j).length; omega)) trivial rfl ?_
  refine .nil ?_
  show Ev _ _ _ _ _
  refine .region ?_
  refine .q (op_addI rfl rfl ⟨by omega, by omega⟩) trivial rfl ?_
  refine .q (op_move rfl) trivial rfl ?_
  refine .nil ?_
  exact ⟨⟨j + 1, by omega⟩, by show 64 - (j + 1) < 64 - j; omega, StLe.mk [(1000, 1000)] rfl rfl ⟨⟨_, rfl, by first | rfl | (simp only [AV.ren]; congr 1; omega), rfl⟩, ⟨_, rfl, by first | rfl | (simp only [AV.ren]; congr 1; omega), rfl⟩, ⟨_, rfl, by first | rfl | (simp only [AV.ren]; congr 1; omega), rfl⟩, trivial⟩ ⟨⟨_, _, rfl, rfl, by first | rfl | (simp only [AV.ren]; congr 1; omega), rfl, id, rfl⟩, trivial⟩⟩
 ·simp only [decide_eq_false_iff_not] at hc7
  refine .exit ?_
  show Ev _ _ _ _ _
  have ej : j = 64 := by omega
  refine Ev.weak (st2 := ⟨[(2, .ptr 1000 0), (1, .u8 m), (6, .i64 (((64) : Nat) : Int))], [(1000, some ⟨.aggB (mskN b m (64)), 26, true⟩)], 1008⟩) (StLe.mk [(1000, 1000)] rfl rfl ⟨⟨_, rfl, by first | (simp only [AV.ren]; done) | (simp only [AV.ren]; rw [ej]; done) | rfl, rfl⟩, ⟨_, rfl, by first | (simp only [AV.ren]; done) | (simp only [AV.ren]; rw [ej]; done) | rfl, rfl⟩, ⟨_, rfl, by first | (simp only [AV.ren]; done) | (simp only [AV.ren]; rw [ej]; done) | rfl, rfl⟩, trivial⟩ ⟨⟨_, _, rfl, rfl, by first | (simp only [AV.ren]; done) | (simp only [AV.ren]; rw [ej]; done) | rfl, rfl, id, rfl⟩, trivial⟩) ?_
  refine .seq ?_
  refine .region ?_
  have hlm := length_mskN b m 64
  refine .q (ap_slice_arr_hi Tryd.underlying26 inf5.sz rfl rfl (by first | omega | (simp only [AV.len]; omega)) (by decide) rfl (by first | omega | (simp only [AV.len]; omega))) trivial rfl ?_
  refine .q (op_bytes_str Tryd.underlying28 Tryd.underlying5 Tryd.underlying9 rfl rfl rfl (by omega)) trivial rfl ?_
  refine .as (.str (mskN b m 64)) (congrArg AV.str (drop_take_all2 _ 64 (by omega))) ?_
  refine .q (op_assign rfl) trivial rfl ?_
  refine .nil ?_
  show Ev _ _ _ _ _
  refine .ret ?_
  show RetOk _ _ _ _ _ _ _
  exact ret1v rfl (.inl rfl) rfl rfl trivial
set_option maxRecDepth 100000 in
theorem kkb_L (ek : Nat) (key k : List UInt8) (hk : key.length ≤ 1000000) (h64 : 64 < key.length) (hkd : sha256 key = k) (hkl : k.length ≤ 64) : Meets Tryd.prog 124 [.str key] [(5, some ⟨.agg32 K256, ek, false⟩)] (.aggB (kblk key)) [] := by
 refine meets_of_ev (nt := 17) Tryd.func124 rfl rfl (Nat.le_of_ble_eq_true rfl) ?_
 refine .seq ?_
 refine .region ?_
 refine .a (op_allocRow zero26 rel_zero26 rfl) trivial rfl ?_
 refine .nil ?_
 show Ev _ _ _ _ _
 refine .seq ?_
 refine .region ?_
 refine .a (op_allocRow zero26 rel_zero26 rfl) trivial rfl ?_
 refine .nil ?_
 show Ev _ _ _ _ _
 refine .seq ?_
 refine .seq ?_
 refine .region ?_
 refine .q (op_move rfl) trivial rfl ?_
 refine .q (op_len_str Tryd.underlying9 rfl) trivial rfl ?_
 refine .q (op_cmpI rfl rfl rfl) trivial rfl ?_
 refine .as (.bool true) (congrArg AV.bool (decide_eq_true (by omega))) ?_
 refine .nil ?_
 show Ev _ _ _ _ _
 refine .cond_true rfl (rfl) ?_
 refine .seq ?_
 refine .region ?_
 refine .q (op_move rfl) trivial rfl ?_
 refine .a (ap_build (us := [.str key]) (c := .aggS [key]) Tryd.underlying110 inf9 rfl (by decide) (by decide) ⟨rfl, rfl, rfl, trivial⟩ rfl) trivial rfl ?_
 refine .q (op_call (U := []) [(500, 1016)] [] (sum256_ev [key] 9 ek (by simp [totN]; omega) (by simp)) Tryd.func24 (by kernel_rfl) rfl rfl rfl (⟨⟨_, rfl, rfl, rfl⟩, trivial⟩) (⟨⟨_, _, rfl, rfl, rfl, rfl, (fun h => by cases h), rfl⟩, ⟨_, _, rfl, rfl, rfl, rfl, id, rfl⟩, trivial⟩) (trivial) (⟨(fun h => by cases h), (fun h => by cases h), trivial⟩) rfl) trivial rfl ?_
 refine .as (.aggB (sha256 key)) (congrArg (fun z => AV.aggB (sha256 z)) (List.append_nil _)) ?_
 refine .a (op_allocRow zero22 rel_zero22 rfl) trivial rfl ?_
 refine .w (op_storeRow sz22 rfl rfl rfl rfl rfl (by simp only [AV.len, length_sha256]) (by simp only [AV.len, List.length_replicate])) trivial rfl ?_
 refine .nil ?_
 show Ev _ _ _ _ _
 refine .region ?_
 refine .q (ap_slice_arr_hi Tryd.underlying22 inf5.sz rfl rfl (by first | (simp only [AV.len, length_sha256]; omega) | omega) (by decide) rfl (by first | (simp only [AV.len, length_sha256]; omega) | omega)) trivial rfl ?_
 refine .q (op_bytes_str Tryd.underlying28 Tryd.underlying5 Tryd.underlying9 rfl rfl rfl (by rw [length_sha256]; decide)) trivial rfl ?_
 refine .as (.str k) (congrArg AV.str (by rw [drop_take_all2 _ 32 (length_sha256 _)]; exact hkd)) ?_
 refine .q (op_assign rfl) trivial rfl ?_
 refine .nil ?_
 show Ev _ _ _ _ _
 refine .seq ?_
 refine .region ?_
 refine .q (ap_slice_arr_hi Tryd.underlying26 inf5.sz rfl rfl (by first | (simp only [AV.len, List.length_replicate]; omega) | omega) (by decide) rfl (by first | (simp only [AV.len, List.length_replicate]; omega) | omega)) trivial rfl ?_
 refine .q (op_move rfl) trivial rfl ?_
 refine .a (op_copy (q := k.length) (c' := .aggB (kblk0 k)) Tryd.underlying28 inf5.sz rfl rfl rfl (srcs_str rfl) (by simp only [AV.len, List.length_replicate]; omega) (by omega) (by simp [AV.list, AV.parts, kblk0, cpB, List.map_append, List.map_drop, List.take_of_length_le])) trivial rfl ?_
 refine .nil ?_
 show Ev _ _ _ _ _
 refine .seq ?_
 refine .region ?_
 refine .q (op_loadRow Tryd.underlying26 rfl sz26 rfl rfl rfl (by simp only [AV.len]; exact length_kblk0 _ (by omega))) trivial rfl ?_
 refine .as (.aggB (kblk key)) (congrArg AV.aggB (by unfold kblk; rw [if_pos h64, ← hkd])) ?_
 refine .w (op_storeRow sz26 rfl rfl rfl rfl rfl (by simp only [AV.len, length_kblk]) (by simp only [AV.len, List.length_replicate])) trivial rfl ?_
 refine .nil ?_
 show Ev _ _ _ _ _
 refine .ret ?_
 show RetOk _ _ _ _ _ _ _
 exact retc1 rfl (.inl rfl) ⟨_, _, _, _, rfl, rfl, rfl, rfl, (length_kblk _), Tryd.underlying26, rfl, sz26⟩ trivial
set_option maxRecDepth 100000 in
theorem kkb_S (ek : Nat) (key k : List UInt8) (hk : key.length ≤ 1000000) (h64 : ¬ 64 < key.length) (hkd : key = k) (hkl : k.length ≤ 64) : Meets Tryd.prog 124 [.str key] [(5, some ⟨.agg32 K256, ek, false⟩)] (.aggB (kblk key)) [] := by
 refine meets_of_ev (nt := 17) Tryd.func124 rfl rfl (Nat.le_of_ble_eq_true rfl) ?_
 refine .seq ?_
 refine .region ?_
 refine .a (op_allocRow zero26 rel_zero26 rfl) trivial rfl ?_
 refine .nil ?_
 show Ev _ _ _ _ _
 refine .seq ?_
 refine .region ?_
 refine .a (op_allocRow zero26 rel_zero26 rfl) trivial rfl ?_
 refine .nil ?_
 show Ev _ _ _ _ _
 refine .seq ?_
 refine .seq ?_
 refine .region ?_
 refine .q (op_move rfl) trivial rfl ?_
 refine .q (op_len_str Tryd.underlying9 rfl) trivial rfl ?_
 refine .q (op_cmpI rfl rfl rfl) trivial rfl ?_
 refine .as (.bool false) (congrArg AV.bool (decide_eq_false (by omega))) ?_
 refine .nil ?_
 show Ev _ _ _ _ _
 refine .cond_false rfl (rfl) ?_
 refine .skip ?_
 show Ev _ _ _ _ _
 refine .seq ?_
 refine .region ?_
 subst hkd
 refine .q (ap_slice_arr_hi Tryd.underlying26 inf5.sz rfl rfl (by first | (simp only [AV.len, List.length_replicate]; omega) | omega) (by decide) rfl (by first | (simp only [AV.len, List.length_replicate]; omega) | omega)) trivial rfl ?_
 refine .q (op_move rfl) trivial rfl ?_
 refine .a (op_copy (q := key.length) (c' := .aggB (kblk0 key)) Tryd.underlying28 inf5.sz rfl rfl rfl (srcs_str rfl) (by simp only [AV.len, List.length_replicate]; omega) (by omega) (by simp [AV.list, AV.parts, kblk0, cpB, List.map_append, List.map_drop, List.take_of_length_le])) trivial rfl ?_
 refine .nil ?_
 show Ev _ _ _ _ _
 refine .seq ?_
 refine .region ?_
 refine .q (op_loadRow Tryd.underlying26 rfl sz26 rfl rfl rfl (by simp only [AV.len]; exact length_kblk0 _ (by omega))) trivial rfl ?_
 refine .as (.aggB (kblk key)) (congrArg AV.aggB (by unfold kblk; rw [if_neg h64])) ?_
 refine .w (op_storeRow sz26 rfl rfl rfl rfl rfl (by simp only [AV.len, length_kblk]) (by simp only [AV.len, List.length_replicate])) trivial rfl ?_
 refine .nil ?_
 show Ev _ _ _ _ _
 refine .ret ?_
 show RetOk _ _ _ _ _ _ _
 exact retc1 rfl (.inl rfl) ⟨_, _, _, _, rfl, rfl, rfl, rfl, (length_kblk _), Tryd.underlying26, rfl, sz26⟩ trivial
theorem kkb_ev (ek : Nat) (key : List UInt8) (hk : key.length ≤ 1000000) : Meets Tryd.prog 124 [.str key] [(5, some ⟨.agg32 K256, ek, false⟩)] (.aggB (kblk key)) [] := by
 by_cases h : 64 < key.length
 ·exact kkb_L ek key _ hk h rfl (by rw [length_sha256]; decide)
 ·exact kkb_S ek key _ hk h rfl (by omega)
set_option maxHeartbeats 1000000 in
set_option maxRecDepth 100000 in
theorem khmac_ev (key : List UInt8) (xs : List (List UInt8)) (e ek : Nat) (hk : key.length ≤ 1000000) (ht : totN xs xs.length < 2 ^ 50) (hn5 : xs.length ≤ 90000) : Meets Tryd.prog 61 [.str key, .sl 500 0 xs.length 1] [(500, some ⟨.aggS xs, e, false⟩), (5, some ⟨.agg32 K256, ek, false⟩)] (.aggB (hmacN key xs)) [] := by
 obtain ⟨A, hA⟩ : ∃ A, mskN (kblk key) (UInt8.ofNat 54) 64 = A := ⟨_, rfl⟩
 obtain ⟨B, hB⟩ : ∃ B, mskN (kblk key) (UInt8.ofNat 92) 64 = B := ⟨_, rfl⟩
 obtain ⟨I, hI⟩ : ∃ I, sha256 ([A] ++ xs).flatten = I := ⟨_, rfl⟩
 have hlA : A.length = 64 := by rw [← hA, length_mskN, length_kblk]
 have hlB : B.length = 64 := by rw [← hB, length_mskN, length_kblk]
 have hlI : I.length = 32 := by rw [← hI]; exact length_sha256 _
 have htA : totN ([A] ++ xs) ([A] ++ xs).length < 2 ^ 60 := by
  rw [totN_flat]
  have h2 := totN_flat xs
  simp only [List.flatten_append, List.flatten_cons, List.flatten_nil, List.length_append, List.append_nil]
  omega
 refine meets_of_ev (nt := 22) Tryd.func61 rfl rfl (Nat.le_of_ble_eq_true rfl) ?_
 refine .seq ?_
 refine .region ?_
 refine .a (op_allocRow zero22 rel_zero22 rfl) trivial rfl ?_
 refine .nil ?_
 show Ev _ _ _ _ _
 refine .seq ?_
 refine .region ?_
 refine .q (op_move rfl) trivial rfl ?_
 refine .q (op_call (U := []) [] [] (kkb_ev ek key hk) Tryd.func124 (by kernel_rfl) rfl rfl rfl (⟨⟨_, rfl, rfl, rfl⟩, trivial⟩) (⟨⟨_, _, rfl, rfl, rfl, rfl, id, rfl⟩, trivial⟩) (trivial) (⟨(fun h => by cases h), trivial⟩) rfl) trivial rfl ?_
 refine .as (.aggB (kblk key)) rfl ?_
 refine .a (op_allocRow zero26 rel_zero26 rfl) trivial rfl ?_
 refine .w (op_storeRow sz26 rfl rfl rfl rfl rfl (by simp only [AV.len, length_kblk]) (by simp only [AV.len, List.length_replicate])) trivial rfl ?_
 refine .nil ?_
 show Ev _ _ _ _ _
 refine .seq ?_
 refine .region ?_
 refine .q (op_loadRow Tryd.underlying26 rfl sz26 rfl rfl rfl (by simp only [AV.len, length_kblk])) trivial rfl ?_
 refine .q (op_call (U := []) [] [] (kmsk_ev (kblk key) (UInt8.ofNat 54) (length_kblk key)) Tryd.func126 (by kernel_rfl) rfl rfl rfl (⟨⟨_, rfl, rfl, rfl⟩, ⟨_, rfl, rfl, rfl⟩, trivial⟩) (trivial) (trivial) (trivial) rfl) trivial rfl ?_
 refine .as (.str A) (congrArg AV.str hA) ?_
 refine .a (ap_build (us := [.str A]) (c := .aggS [A]) Tryd.underlying110 inf9 rfl (by decide) (by decide) ⟨rfl, rfl, rfl, trivial⟩ rfl) trivial rfl ?_
 refine .q (op_move rfl) trivial rfl ?_
 refine .a (ap_build (us := [.sl 1016 0 1 1, .sl 500 0 xs.length 1]) (c := .agg [.sl 1016 0 1 1, .sl 500 0 xs.length 1]) Tryd.underlying216 inf110 rfl (by decide) (by decide) ⟨rfl, rfl, rfl, rfl, rfl, rfl, trivial⟩ rfl) trivial rfl ?_
 refine .a (op_call (U := [(1032, some ⟨.aggS ([A] ++ xs), 9, true⟩)]) [(500, 1024), (501, 1016), (502, 500)] [(1032, 1000)] (concat_ev [A] xs 110 9 e (by simp) (by simp) (by omega)) Tryd.func125 (by kernel_rfl) rfl rfl rfl (⟨⟨_, rfl, rfl, rfl⟩, trivial⟩) (⟨⟨_, _, rfl, rfl, rfl, rfl, (fun h => by cases h), rfl⟩, ⟨_, _, rfl, rfl, rfl, rfl, (fun h => by cases h), rfl⟩, ⟨_, _, rfl, rfl, rfl, rfl, (fun h => by cases h), rfl⟩, trivial⟩) (⟨⟨1000, _, rfl, rfl, rfl, rfl, .inl rfl⟩, trivial⟩) (⟨(fun h => by cases h), (fun h => by cases h), (fun h => by cases h), trivial⟩) rfl) trivial rfl ?_
 refine .as (.sl 1032 0 ([A] ++ xs).length 1) (by show AV.sl 1032 0 ([A].length + xs.length) 1 = _; rw [List.length_append]) ?_
 refine .q (op_call (U := []) [(500, 1032)] [] (sum256_ev ([A] ++ xs) 9 ek htA (by simp; omega)) Tryd.func24 (by kernel_rfl) rfl rfl rfl (⟨⟨_, rfl, rfl, rfl⟩, trivial⟩) (⟨⟨_, _, rfl, rfl, rfl, rfl, (fun h => by cases h), rfl⟩, ⟨_, _, rfl, rfl, rfl, rfl, id, rfl⟩, trivial⟩) (trivial) (⟨(fun h => by cases h), (fun h => by cases h), trivial⟩) rfl) trivial rfl ?_
 refine .as (.aggB I) (congrArg AV.aggB hI) ?_
 refine .a (op_allocRow zero22 rel_zero22 rfl) trivial rfl ?_
 refine .w (op_storeRow sz22 rfl rfl rfl rfl rfl (by simp only [AV.len, hlI]) (by simp only [AV.len, List.length_replicate])) trivial rfl ?_
 refine .nil ?_
 show Ev _ _ _ _ _
 refine .seq ?_
 refine .drawn [[], [0], [], [2], [0, 1, 2, 3], [0, 1, 2, 3, 4], [0, 1, 2, 3, 4, 5]] [0, 1, 2, 3, 4, 5, 6] [6] (by kernel_rfl) (by kernel_rfl) rfl ?_
 show DK _ [0, 1, 2, 3, 4, 5, 6] _ _ _
 refine .q rfl (op_loadRow Tryd.underlying26 rfl sz26 rfl rfl rfl (by simp only [AV.len, length_kblk])) trivial ?_
 refine .q rfl (op_call (U := []) [] [] (kmsk_ev (kblk key) (UInt8.ofNat 92) (length_kblk key)) Tryd.func126 (by kernel_rfl) rfl rfl rfl (⟨⟨_, rfl, rfl, rfl⟩, ⟨_, rfl, rfl, rfl⟩, trivial⟩) (trivial) (trivial) (trivial) rfl) trivial ?_
 refine .as (.str B) (congrArg AV.str hB) ?_
 refine .q rfl (ap_slice_arr_hi Tryd.underlying22 inf5.sz rfl rfl (by first | omega | (simp only [AV.len]; omega)) (by decide) rfl (by first | omega | (simp only [AV.len]; omega))) trivial ?_
 refine .q rfl (op_bytes_str Tryd.underlying28 Tryd.underlying5 Tryd.underlying9 rfl rfl rfl (by omega)) trivial ?_
 refine .as (.str I) (congrArg AV.str (drop_take_all2 I 32 hlI)) ?_
 refine .a rfl (ap_build (us := [.str B, .str I]) (c := .aggS [B, I]) Tryd.underlying110 inf9 rfl (by decide) (by decide) ⟨rfl, rfl, rfl, rfl, rfl, rfl, trivial⟩ rfl) trivial rfl rfl ?_
 refine .q rfl (op_call (U := []) [(500, 1080)] [] (sum256_ev [B, I] 9 ek (by simp [totN]; omega) (by simp)) Tryd.func24 (by kernel_rfl) rfl rfl rfl (⟨⟨_, rfl, rfl, rfl⟩, trivial⟩) (⟨⟨_, ⟨.aggS [B, I], 9, true⟩, rfl, by kernel_rfl, rfl, rfl, (fun h => by cases h), rfl⟩, ⟨_, _, rfl, rfl, rfl, rfl, id, rfl⟩, trivial⟩) (trivial) (⟨(fun h => by cases h), (fun h => by cases h), trivial⟩) rfl) trivial ?_
 refine .as (.aggB (hmacN key xs)) (congrArg AV.aggB (by show sha256 [B, I].flatten = _; unfold hmacN; rw [hB, hA, ← hI]; simp)) ?_
 refine .w rfl (op_storeRow sz22 rfl rfl rfl rfl rfl (by simp only [AV.len, length_hmacN]) (by simp only [AV.len, List.length_replicate])) trivial rfl rfl ?_
 refine .nil ?_
 show Ev _ _ _ _ _
 refine .ret ?_
 show RetOk _ _ _ _ _ _ _
 exact retc1 rfl (.inl rfl) ⟨_, _, _, _, rfl, rfl, rfl, rfl, (length_hmacN _ _), Tryd.underlying22, rfl, sz22⟩ trivial
end Go.Proofs.YtcnjekoidgefpaaDoor
