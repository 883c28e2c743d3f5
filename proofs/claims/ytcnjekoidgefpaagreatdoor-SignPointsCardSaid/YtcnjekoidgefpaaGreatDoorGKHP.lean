/-
  Texts of this claim.
-/
import Derived.Test.YtcnjekoidgefpaaGreatDoorGKGP
import Derived.Test.YtcnjekoidgefpaaGreatDoorGKDP
import Derived.Test.YtcnjekoidgefpaaGreatDoorGS8P
namespace Go.Proofs.YtcnjekoidgefpaaGreatDoor
open Go.RowKit
theorem length_secA (s : List UInt8) : (secA s).length = 32 := by unfold secA; rw [length_usL, List.length_take, length_sha512]; rfl
theorem length_secP (s : List UInt8) : (secP s).length = 32 := by unfold secP; rw [List.length_drop, length_sha512]
theorem length_chN (a b c : List UInt8) : (chN a b c).length = 32 := length_bsN _ _
theorem length_rndN (a b : List UInt8) : (rndN a b).length = 32 := length_bsN _ _
theorem length_sgS (a b : List UInt8) : (sgS a b).length = 32 := length_bsN _ _
theorem length_encQ (q : Q4) : (encQ q).length = 32 := length_encN _ _
theorem drop_take_all (l : List UInt8) (n : Nat) (h : l.length = n) : (l.drop 0).take n = l := by rw [List.drop_zero, List.take_of_length_le (Nat.le_of_eq h)]
set_option maxRecDepth 100000 in
theorem ksec_ev (ek : Nat) (seed : List UInt8) (hs : seed.length = 32) : Meets Tryz.prog 18 [.aggB seed] [(1, some ⟨.agg64 K512, ek, false⟩)] (.tup [.aggB (secA seed), .str (secP seed)]) [] := by
 obtain ⟨A, hA⟩ : ∃ A, (sha512 seed).take 32 = A := ⟨_, rfl⟩
 have hlA : A.length = 32 := by rw [← hA, List.length_take, length_sha512]; rfl
 refine meets_of_ev (nt := 28) Tryz.func18 rfl rfl (Nat.le_of_ble_eq_true rfl) ?_
 refine .seq ?_
 refine .region ?_
 refine .a (op_boxRow rfl rfl) trivial rfl ?_
 refine .a (op_allocRow zero22 rel_zero22 rfl) trivial rfl ?_
 refine .q (op_assign rfl) trivial rfl ?_
 refine .nil ?_
 show Ev _ _ _ _ _
 refine .seq ?_
 refine .region ?_
 refine .q (ap_slice_arr_hi Tryz.underlying22 inf5.sz rfl rfl (by first | omega | (simp only [AV.len]; omega)) (by decide) rfl (by first | omega | (simp only [AV.len]; omega))) trivial rfl ?_
 refine .q (op_bytes_str Tryz.underlying25 Tryz.underlying5 Tryz.underlying9 rfl rfl rfl (by first | omega | (simp only [AV.len]; omega) | (simp only [AV.len, List.length_set]; omega) | assumption | (simp [AV.len]; done))) trivial rfl ?_
 refine .as (.str seed) (congrArg AV.str (drop_take_all seed 32 hs)) ?_
 refine .a (ap_build (us := [.str seed]) (c := .aggS [seed]) Tryz.underlying85 inf9 rfl (by decide) (by decide) ⟨rfl, rfl, rfl, trivial⟩ rfl) trivial rfl ?_
 refine .q (op_call (U := []) [(500, 1016)] [] (sum512_ev [seed] 9 ek (by simp [totN]; omega) (by simp)) Tryz.func26 (by kernel_rfl) rfl rfl rfl (⟨⟨_, rfl, rfl, rfl⟩, trivial⟩) (⟨⟨_, _, rfl, rfl, rfl, rfl, (fun h => by cases h), rfl⟩, ⟨_, _, rfl, rfl, rfl, rfl, id, rfl⟩, trivial⟩) (trivial) (⟨(fun h => by cases h), (fun h => by cases h), trivial⟩) rfl) trivial rfl ?_
 refine .as (.aggB (sha512 seed)) (congrArg (fun z => AV.aggB (sha512 z)) (List.append_nil _)) ?_
 refine .a (op_allocRow zero29 rel_zero29 rfl) trivial rfl ?_
 refine .w (op_storeRow sz29 rfl rfl rfl rfl rfl (by simp only [AV.len, length_sha512]) (by simp only [AV.len, List.length_replicate])) trivial rfl ?_
 refine .nil ?_
 show Ev _ _ _ _ _
 refine .seq ?_
 refine .region ?_
 refine .q (ap_slice_arr_hi Tryz.underlying29 inf5.sz rfl rfl (by first | (simp only [AV.len, length_sha512]; omega) | omega) (by decide) (bnd_some rfl rfl) (by first | (simp only [AV.len, length_sha512]; omega) | omega)) trivial rfl ?_
 refine .q (op_toArrPtr Tryz.underlying22 rfl (by decide) (by decide)) trivial rfl ?_
 refine .q (op_loadB Tryz.underlying22 rfl sz22 rfl rfl (by rw [length_sha512]; decide)) trivial rfl ?_
 refine .as (.aggB A) (congrArg AV.aggB (by rw [List.drop_zero]; exact hA)) ?_
 refine .a (op_allocRow zero22 rel_zero22 rfl) trivial rfl ?_
 refine .w (op_storeRow sz22 rfl rfl rfl rfl rfl (by simp only [AV.len, hlA]) (by simp only [AV.len, List.length_replicate])) trivial rfl ?_
 refine .nil ?_
 show Ev _ _ _ _ _
 refine .seq ?_
 refine .region ?_
 refine .q (ap_idx_arr Tryz.underlying22 inf5.sz rfl rfl rfl (by first | omega | (skip; omega) | (skip; omega) | assumption | (simp; done))) trivial rfl ?_
 refine .q (op_load Tryz.underlying5 rfl rfl rfl rfl (by simp only [AV.len]; omega)) trivial rfl ?_
 refine .q (op_andNot8 rfl rfl) trivial rfl ?_
 refine .q (ap_idx_arr Tryz.underlying22 inf5.sz rfl rfl rfl (by first | omega | (skip; omega) | (skip; omega) | assumption | (simp; done))) trivial rfl ?_
 refine .w (op_store inf5.sz rfl rfl rfl rfl rfl (by simp only [AV.len]; omega)) trivial rfl ?_
 refine .nil ?_
 show Ev _ _ _ _ _
 refine .seq ?_
 refine .region ?_
 refine .q (ap_idx_arr Tryz.underlying22 inf5.sz rfl rfl rfl (by first | omega | (skip; omega) | (skip; omega) | assumption | (simp; done))) trivial rfl ?_
 refine .q (op_load Tryz.underlying5 rfl rfl rfl rfl (by simp only [AV.len, List.length_set]; omega)) trivial rfl ?_
 refine .q (op_andNot8 rfl rfl) trivial rfl ?_
 refine .q (ap_idx_arr Tryz.underlying22 inf5.sz rfl rfl rfl (by first | omega | (skip; omega) | (skip; omega) | assumption | (simp; done))) trivial rfl ?_
 refine .w (op_store inf5.sz rfl rfl rfl rfl rfl (by simp only [AV.len, List.length_set]; omega)) trivial rfl ?_
 refine .nil ?_
 show Ev _ _ _ _ _
 refine .seq ?_
 refine .region ?_
 refine .q (ap_idx_arr Tryz.underlying22 inf5.sz rfl rfl rfl (by first | omega | (skip; omega) | (skip; omega) | assumption | (simp; done))) trivial rfl ?_
 refine .q (op_load Tryz.underlying5 rfl rfl rfl rfl (by simp only [AV.len, List.length_set]; omega)) trivial rfl ?_
 refine .q (op_bin8 rfl rfl rfl) trivial rfl ?_
 refine .q (ap_idx_arr Tryz.underlying22 inf5.sz rfl rfl rfl (by first | omega | (skip; omega) | (skip; omega) | assumption | (simp; done))) trivial rfl ?_
 refine .w (op_store inf5.sz rfl rfl rfl rfl rfl (by simp only [AV.len, List.length_set]; omega)) trivial rfl ?_
 refine .nil ?_
 show Ev _ _ _ _ _
 refine .seq ?_
 refine .drawnF [[], [], [1], [0], [0, 1, 2, 3]] [0, 1, 2, 3] [] [(0, ([1032], [])), (1, ([1024], [])), (2, ([1024], [])), (3, ([], [1008]))] (by kernel_rfl) (by kernel_rfl) rfl ?_
 show DK _ [0, 1, 2, 3, 4] _ _ _
 refine .q rfl (op_loadRow Tryz.underlying22 rfl sz22 rfl rfl rfl (by simp only [AV.len, List.length_set]; omega)) trivial ?_
 refine .as (.aggB (secA seed)) (by unfold secA; rw [hA]; rfl) ?_
 refine .q rfl (op_slice_arr Tryz.underlying29 inf5.sz rfl rfl (by first | (simp only [AV.len, length_sha512]; omega) | omega) (by decide) (bnd_some rfl rfl) rfl (by first | (simp only [AV.len, length_sha512]; omega) | omega) (by first | (simp only [AV.len, length_sha512]; omega) | omega)) trivial ?_
 refine .q rfl (op_bytes_str Tryz.underlying25 Tryz.underlying5 Tryz.underlying9 rfl rfl rfl (by rw [length_sha512]; decide)) trivial ?_
 refine .as (.str (secP seed)) (congrArg AV.str (by unfold secP; rw [List.take_of_length_le (by rw [List.length_drop, length_sha512]; exact Nat.le_refl _)])) ?_
 refine .w rfl (op_storeRow sz22 rfl rfl rfl rfl rfl (by simp only [AV.len, length_secA]) (by simp only [AV.len, List.length_replicate])) trivial rfl rfl ?_
 refine .q rfl (op_assign rfl) trivial ?_
 refine .nil ?_
 show Ev _ _ _ _ _
 refine .ret ?_
 show RetOk _ _ _ _ _ _ _
 exact retc2 rfl (.inl rfl) ⟨_, _, _, _, rfl, rfl, rfl, rfl, (length_secA seed), Tryz.underlying22, rfl, sz22⟩ rfl trivial
set_option maxRecDepth 100000 in
theorem kpub_ev (e : Nat) (K : List UInt8) (hK : K.length = 32) : Meets Tryz.prog 19 [.aggB K] [(0, some ⟨.agg64 primeL, e, false⟩)] (.aggB (keyN K)) [] := by
 refine meets_of_ev (nt := 6) Tryz.func19 rfl rfl (Nat.le_of_ble_eq_true rfl) ?_
 refine .seq ?_
 refine .region ?_
 refine .a (op_boxRow rfl rfl) trivial rfl ?_
 refine .a (op_allocRow zero22 rel_zero22 rfl) trivial rfl ?_
 refine .nil ?_
 show Ev _ _ _ _ _
 refine .seq ?_
 refine .region ?_
 refine .q (op_loadRow Tryz.underlying22 rfl sz22 rfl rfl rfl (hK)) trivial rfl ?_
 refine .q (op_call (U := []) [] [] (ktb_ev e K hK) Tryz.func46 (by kernel_rfl) rfl rfl rfl (⟨⟨_, rfl, rfl, rfl⟩, trivial⟩) (⟨⟨_, _, rfl, rfl, rfl, rfl, id, rfl⟩, trivial⟩) (trivial) (⟨(fun h => by cases h), trivial⟩) rfl) trivial rfl ?_
 refine .q (op_call (U := []) [] [] (kqenc_ev (tbQ K 256) (tbQ_lt K 256)) Tryz.func36 (by kernel_rfl) rfl rfl rfl (⟨⟨_, rfl, rfl, rfl⟩, trivial⟩) (trivial) (trivial) (trivial) rfl) trivial rfl ?_
 refine .as (.aggB (keyN K)) rfl ?_
 refine .w (op_storeRow sz22 rfl rfl rfl rfl rfl (by simp only [AV.len, length_keyN]) (by simp only [AV.len, List.length_replicate])) trivial rfl ?_
 refine .nil ?_
 show Ev _ _ _ _ _
 refine .ret ?_
 show RetOk _ _ _ _ _ _ _
 exact retc1 rfl (.inl rfl) ⟨_, _, _, _, rfl, rfl, rfl, rfl, (length_keyN K), Tryz.underlying22, rfl, sz22⟩ trivial
set_option maxRecDepth 100000 in
theorem kch_ev (ek eo : Nat) (first key m : List UInt8) (h1 : first.length = 32) (h2 : key.length = 32) (hm : m.length ≤ 1000000) : Meets Tryz.prog 29 [.aggB first, .aggB key, .str m] [(1, some ⟨.agg64 K512, ek, false⟩), (2, some ⟨.agg64 orderL, eo, false⟩)] (.aggB (chN first key m)) [] := by
 refine meets_of_ev (nt := 18) Tryz.func29 rfl rfl (Nat.le_of_ble_eq_true rfl) ?_
 refine .seq ?_
 refine .region ?_
 refine .a (op_boxRow rfl rfl) trivial rfl ?_
 refine .a (op_boxRow rfl rfl) trivial rfl ?_
 refine .a (op_allocRow zero22 rel_zero22 rfl) trivial rfl ?_
 refine .nil ?_
 show Ev _ _ _ _ _
 refine .seq ?_
 refine .drawn [[], [0], [], [2], [], [0, 1, 2, 3, 4], [0, 1, 2, 3, 4, 5], [], [0, 1, 2, 3, 4, 5, 6, 7]] [0, 1, 2, 3, 5, 6, 7, 8] [8] (by kernel_rfl) (by kernel_rfl) rfl ?_
 show DK _ [0, 1, 2, 3, 4, 5, 6, 7, 8] _ _ _
 refine .q rfl (ap_slice_arr_hi Tryz.underlying22 inf5.sz rfl rfl (by first | omega | (simp only [AV.len]; omega)) (by decide) rfl (by first | omega | (simp only [AV.len]; omega))) trivial ?_
 refine .q rfl (op_bytes_str Tryz.underlying25 Tryz.underlying5 Tryz.underlying9 rfl rfl rfl (by first | omega | (simp only [AV.len]; omega) | (simp only [AV.len, List.length_set]; omega) | assumption | (simp [AV.len]; done))) trivial ?_
 refine .as (.str first) (congrArg AV.str (drop_take_all first 32 h1)) ?_
 refine .q rfl (ap_slice_arr_hi Tryz.underlying22 inf5.sz rfl rfl (by first | omega | (simp only [AV.len]; omega)) (by decide) rfl (by first | omega | (simp only [AV.len]; omega))) trivial ?_
 refine .q rfl (op_bytes_str Tryz.underlying25 Tryz.underlying5 Tryz.underlying9 rfl rfl rfl (by first | omega | (simp only [AV.len]; omega) | (simp only [AV.len, List.length_set]; omega) | assumption | (simp [AV.len]; done))) trivial ?_
 refine .as (.str key) (congrArg AV.str (drop_take_all key 32 h2)) ?_
 refine .q rfl (op_move rfl) trivial ?_
 refine .a rfl (ap_build (us := [.str first, .str key, .str m]) (c := .aggS [first, key, m]) Tryz.underlying85 inf9 rfl (by decide) (by decide) ⟨rfl, rfl, rfl, rfl, rfl, rfl, rfl, rfl, rfl, trivial⟩ rfl) trivial rfl rfl ?_
 refine .q rfl (op_call (U := []) [(500, 1064)] [] (sum512_ev [first, key, m] 9 ek (by simp [totN]; omega) (by simp)) Tryz.func26 (by kernel_rfl) rfl rfl rfl (⟨⟨_, rfl, rfl, rfl⟩, trivial⟩) (⟨⟨_, ⟨.aggS [first, key, m], 9, true⟩, rfl, by kernel_rfl, rfl, rfl, (fun h => by cases h), rfl⟩, ⟨_, _, rfl, rfl, rfl, rfl, id, rfl⟩, trivial⟩) (trivial) (⟨(fun h => by cases h), (fun h => by cases h), trivial⟩) rfl) trivial ?_
 refine .as (.aggB (sha512 (first ++ key ++ m))) (congrArg (fun z => AV.aggB (sha512 z)) (by simp)) ?_
 refine .a rfl (op_allocRow zero29 rel_zero29 rfl) trivial rfl rfl ?_
 refine .w rfl (op_storeRow sz29 rfl rfl rfl rfl rfl (by simp only [AV.len, length_sha512]) (by simp only [AV.len, List.length_replicate])) trivial rfl rfl ?_
 refine .nil ?_
 show Ev _ _ _ _ _
 refine .seq ?_
 refine .region ?_
 refine .q (ap_slice_arr_hi Tryz.underlying29 inf5.sz rfl rfl (by first | (simp only [AV.len, length_sha512]; omega) | omega) (by decide) rfl (by first | (simp only [AV.len, length_sha512]; omega) | omega)) trivial rfl ?_
 refine .q (op_bytes_str Tryz.underlying25 Tryz.underlying5 Tryz.underlying9 rfl rfl rfl (by rw [length_sha512]; decide)) trivial rfl ?_
 refine .as (.str (sha512 (first ++ key ++ m))) (congrArg AV.str (drop_take_all _ 64 (length_sha512 _))) ?_
 refine .q (op_call (U := []) [] [] (sReduce_ev eo (sha512 (first ++ key ++ m)) (by rw [length_sha512]; decide)) Tryz.func27 (by kernel_rfl) rfl rfl rfl (⟨⟨_, rfl, rfl, rfl⟩, trivial⟩) (⟨⟨_, _, rfl, rfl, rfl, rfl, id, rfl⟩, trivial⟩) (trivial) (⟨(fun h => by cases h), trivial⟩) rfl) trivial rfl ?_
 refine .as (.aggB (chN first key m)) rfl ?_
 refine .w (op_storeRow sz22 rfl rfl rfl rfl rfl (by simp only [AV.len, length_chN]) (by simp only [AV.len, List.length_replicate])) trivial rfl ?_
 refine .nil ?_
 show Ev _ _ _ _ _
 refine .ret ?_
 show RetOk _ _ _ _ _ _ _
 exact retc1 rfl (.inl rfl) ⟨_, _, _, _, rfl, rfl, rfl, rfl, (length_chN first key m), Tryz.underlying22, rfl, sz22⟩ trivial
set_option maxRecDepth 100000 in
theorem kkey_ev (e ek : Nat) (seed : List UInt8) (hs : seed.length = 32) : Meets Tryz.prog 8 [.aggB seed] [(0, some ⟨.agg64 primeL, e, false⟩), (1, some ⟨.agg64 K512, ek, false⟩)] (.aggB (keyN (secA seed))) [] := by
 refine meets_of_ev (nt := 12) Tryz.func8 rfl rfl (Nat.le_of_ble_eq_true rfl) ?_
 refine .seq ?_
 refine .region ?_
 refine .a (op_boxRow rfl rfl) trivial rfl ?_
 refine .a (op_allocRow zero22 rel_zero22 rfl) trivial rfl ?_
 refine .nil ?_
 show Ev _ _ _ _ _
 refine .seq ?_
 refine .region ?_
 refine .q (op_loadRow Tryz.underlying22 rfl sz22 rfl rfl rfl (hs)) trivial rfl ?_
 refine .q (op_call (U := []) [] [] (ksec_ev ek seed hs) Tryz.func18 (by kernel_rfl) rfl rfl rfl (⟨⟨_, rfl, rfl, rfl⟩, trivial⟩) (⟨⟨_, _, rfl, rfl, rfl, rfl, id, rfl⟩, trivial⟩) (trivial) (⟨(fun h => by cases h), trivial⟩) rfl) trivial rfl ?_
 refine .q (op_move rfl) trivial rfl ?_
 refine .q (op_extract rfl rfl) trivial rfl ?_
 refine .as (.aggB (secA seed)) rfl ?_
 refine .q (op_extract rfl rfl) trivial rfl ?_
 refine .as (.str (secP seed)) rfl ?_
 refine .a (op_allocRow zero22 rel_zero22 rfl) trivial rfl ?_
 refine .w (op_storeRow sz22 rfl rfl rfl rfl rfl (by simp only [AV.len, length_secA]) (by simp only [AV.len, List.length_replicate])) trivial rfl ?_
 refine .q (op_assign rfl) trivial rfl ?_
 refine .nil ?_
 show Ev _ _ _ _ _
 refine .seq ?_
 refine .region ?_
 refine .q (op_loadRow Tryz.underlying22 rfl sz22 rfl rfl rfl (by simp only [AV.len, length_secA])) trivial rfl ?_
 refine .q (op_call (U := []) [] [] (kpub_ev e (secA seed) (length_secA seed)) Tryz.func19 (by kernel_rfl) rfl rfl rfl (⟨⟨_, rfl, rfl, rfl⟩, trivial⟩) (⟨⟨_, _, rfl, rfl, rfl, rfl, id, rfl⟩, trivial⟩) (trivial) (⟨(fun h => by cases h), trivial⟩) rfl) trivial rfl ?_
 refine .as (.aggB (keyN (secA seed))) rfl ?_
 refine .w (op_storeRow sz22 rfl rfl rfl rfl rfl (by simp only [AV.len, length_keyN]) (by simp only [AV.len, List.length_replicate])) trivial rfl ?_
 refine .nil ?_
 show Ev _ _ _ _ _
 refine .ret ?_
 show RetOk _ _ _ _ _ _ _
 exact retc1 rfl (.inl rfl) ⟨_, _, _, _, rfl, rfl, rfl, rfl, (length_keyN _), Tryz.underlying22, rfl, sz22⟩ trivial
set_option maxRecDepth 100000 in
theorem kpoint_ev (e e2 : Nat) (b : List UInt8) (hb : b.length = 32) : Meets Tryz.prog 10 [.aggB b] [(0, some ⟨.agg64 primeL, e, false⟩), (3, some ⟨.agg64 minusL, e2, false⟩)] (.bool (decB b)) [] := by
 refine meets_of_ev (nt := 11) Tryz.func10 rfl rfl (Nat.le_of_ble_eq_true rfl) ?_
 refine .seq ?_
 refine .region ?_
 refine .a (op_boxRow rfl rfl) trivial rfl ?_
 refine .q (op_assign rfl) trivial rfl ?_
 refine .nil ?_
 show Ev _ _ _ _ _
 refine .seq ?_
 refine .region ?_
 refine .q (op_loadRow Tryz.underlying22 rfl sz22 rfl rfl rfl (hb)) trivial rfl ?_
 refine .q (op_call (U := []) [] [] (kdec_ev e e2 b hb) Tryz.func25 (by kernel_rfl) rfl rfl rfl (⟨⟨_, rfl, rfl, rfl⟩, trivial⟩) (⟨⟨_, _, rfl, rfl, rfl, rfl, id, rfl⟩, ⟨_, _, rfl, rfl, rfl, rfl, id, rfl⟩, trivial⟩) (trivial) (⟨(fun h => by cases h), (fun h => by cases h), trivial⟩) rfl) trivial rfl ?_
 refine .q (op_move rfl) trivial rfl ?_
 refine .q (op_extract rfl rfl) trivial rfl ?_
 refine .q (op_extract rfl rfl) trivial rfl ?_
 refine .a (op_allocRow zero57 rel_zero57 rfl) trivial rfl ?_
 refine .w (op_storeRow sz57 rfl rfl rfl rfl rfl (rfl) (rfl)) trivial rfl ?_
 refine .q (op_assign rfl) trivial rfl ?_
 refine .nil ?_
 show Ev _ _ _ _ _
 refine .seq ?_
 refine .region ?_
 refine .q (op_move rfl) trivial rfl ?_
 refine .q (op_assign rfl) trivial rfl ?_
 refine .nil ?_
 show Ev _ _ _ _ _
 refine .ret ?_
 show RetOk _ _ _ _ _ _ _
 exact ret1v rfl (.inl rfl) rfl rfl trivial
theorem sgn_copy (a b : List UInt8) (ha : a.length = 32) (hb : b.length = 32) : cpB (cpB (List.replicate 64 0) 0 a 32) 32 b 32 = a ++ b := by
 unfold cpB
 simp [ha, hb, List.drop_append, List.take_of_length_le]
set_option maxHeartbeats 2000000 in
set_option maxRecDepth 100000 in
theorem ksign_ev (e ek eo : Nat) (seed m : List UInt8) (hs : seed.length = 32) (hm : m.length ≤ 1000000) : Meets Tryz.prog 12 [.aggB seed, .str m] [(0, some ⟨.agg64 primeL, e, false⟩), (1, some ⟨.agg64 K512, ek, false⟩), (2, some ⟨.agg64 orderL, eo, false⟩)] (.aggB (sgnN seed m)) [] := by
 obtain ⟨R, hR⟩ : ∃ R, keyN (rndN seed m) = R := ⟨_, rfl⟩
 obtain ⟨S, hS⟩ : ∃ S, sgS seed m = S := ⟨_, rfl⟩
 have hlK : R.length = 32 := by rw [← hR]; exact length_keyN _
 have hlS : S.length = 32 := by rw [← hS]; exact length_sgS _ _
 refine meets_of_ev (nt := 41) Tryz.func12 rfl rfl (Nat.le_of_ble_eq_true rfl) ?_
 refine .seq ?_
 refine .region ?_
 refine .a (op_boxRow rfl rfl) trivial rfl ?_
 refine .a (op_allocRow zero29 rel_zero29 rfl) trivial rfl ?_
 refine .nil ?_
 show Ev _ _ _ _ _
 refine .seq ?_
 refine .region ?_
 refine .q (op_loadRow Tryz.underlying22 rfl sz22 rfl rfl rfl (hs)) trivial rfl ?_
 refine .q (op_call (U := []) [] [] (ksec_ev ek seed hs) Tryz.func18 (by kernel_rfl) rfl rfl rfl (⟨⟨_, rfl, rfl, rfl⟩, trivial⟩) (⟨⟨_, _, rfl, rfl, rfl, rfl, id, rfl⟩, trivial⟩) (trivial) (⟨(fun h => by cases h), trivial⟩) rfl) trivial rfl ?_
 refine .q (op_move rfl) trivial rfl ?_
 refine .q (op_extract rfl rfl) trivial rfl ?_
 refine .as (.aggB (secA seed)) rfl ?_
 refine .q (op_extract rfl rfl) trivial rfl ?_
 refine .as (.str (secP seed)) rfl ?_
 refine .a (op_allocRow zero22 rel_zero22 rfl) trivial rfl ?_
 refine .w (op_storeRow sz22 rfl rfl rfl rfl rfl (by simp only [AV.len, length_secA]) (by simp only [AV.len, List.length_replicate])) trivial rfl ?_
 refine .q (op_assign rfl) trivial rfl ?_
 refine .nil ?_
 show Ev _ _ _ _ _
 refine .seq ?_
 refine .region ?_
 have hlP := length_secP seed
 refine .q (op_move rfl) trivial rfl ?_
 refine .q (op_move rfl) trivial rfl ?_
 refine .a (ap_build (us := [.str (secP seed), .str m]) (c := .aggS [secP seed, m]) Tryz.underlying85 inf9 rfl (by decide) (by decide) ⟨rfl, rfl, rfl, rfl, rfl, rfl, trivial⟩ rfl) trivial rfl ?_
 refine .q (op_call (U := []) [(500, 1024)] [] (sum512_ev [secP seed, m] 9 ek (by simp [totN]; omega) (by simp)) Tryz.func26 (by kernel_rfl) rfl rfl rfl (⟨⟨_, rfl, rfl, rfl⟩, trivial⟩) (⟨⟨_, _, rfl, rfl, rfl, rfl, (fun h => by cases h), rfl⟩, ⟨_, _, rfl, rfl, rfl, rfl, id, rfl⟩, trivial⟩) (trivial) (⟨(fun h => by cases h), (fun h => by cases h), trivial⟩) rfl) trivial rfl ?_
 refine .as (.aggB (sha512 (secP seed ++ m))) (congrArg (fun z => AV.aggB (sha512 z)) (by simp)) ?_
 refine .a (op_allocRow zero29 rel_zero29 rfl) trivial rfl ?_
 refine .w (op_storeRow sz29 rfl rfl rfl rfl rfl (by simp only [AV.len, length_sha512]) (by simp only [AV.len, List.length_replicate])) trivial rfl ?_
 refine .nil ?_
 show Ev _ _ _ _ _
 refine .seq ?_
 refine .region ?_
 refine .q (ap_slice_arr_hi Tryz.underlying29 inf5.sz rfl rfl (by first | (simp only [AV.len, length_sha512]; omega) | omega) (by decide) rfl (by first | (simp only [AV.len, length_sha512]; omega) | omega)) trivial rfl ?_
 refine .q (op_bytes_str Tryz.underlying25 Tryz.underlying5 Tryz.underlying9 rfl rfl rfl (by rw [length_sha512]; decide)) trivial rfl ?_
 refine .as (.str (sha512 (secP seed ++ m))) (congrArg AV.str (drop_take_all _ 64 (length_sha512 _))) ?_
 refine .q (op_call (U := []) [] [] (sReduce_ev eo (sha512 (secP seed ++ m)) (by rw [length_sha512]; decide)) Tryz.func27 (by kernel_rfl) rfl rfl rfl (⟨⟨_, rfl, rfl, rfl⟩, trivial⟩) (⟨⟨_, _, rfl, rfl, rfl, rfl, id, rfl⟩, trivial⟩) (trivial) (⟨(fun h => by cases h), trivial⟩) rfl) trivial rfl ?_
 refine .as (.aggB (rndN seed m)) rfl ?_
 refine .a (op_allocRow zero22 rel_zero22 rfl) trivial rfl ?_
 refine .w (op_storeRow sz22 rfl rfl rfl rfl rfl (by simp only [AV.len, length_rndN]) (by simp only [AV.len, List.length_replicate])) trivial rfl ?_
 refine .nil ?_
 show Ev _ _ _ _ _
 refine .seq ?_
 refine .region ?_
 refine .q (op_loadRow Tryz.underlying22 rfl sz22 rfl rfl rfl (by simp only [AV.len, length_rndN])) trivial rfl ?_
 refine .q (op_call (U := []) [] [] (kpub_ev e (rndN seed m) (length_rndN _ _)) Tryz.func19 (by kernel_rfl) rfl rfl rfl (⟨⟨_, rfl, rfl, rfl⟩, trivial⟩) (⟨⟨_, _, rfl, rfl, rfl, rfl, id, rfl⟩, trivial⟩) (trivial) (⟨(fun h => by cases h), trivial⟩) rfl) trivial rfl ?_
 refine .as (.aggB R) (congrArg AV.aggB hR) ?_
 refine .a (op_allocRow zero22 rel_zero22 rfl) trivial rfl ?_
 refine .w (op_storeRow sz22 rfl rfl rfl rfl rfl (by simp only [AV.len, hlK]) (by simp only [AV.len, List.length_replicate])) trivial rfl ?_
 refine .nil ?_
 show Ev _ _ _ _ _
 refine .seq ?_
 refine .drawn [[], [], [1], [], [0, 1, 2, 3], [], [], [0, 1, 2, 3, 4, 5, 6], [], [0, 1, 2, 3, 4, 5, 6, 7, 8]] [0, 1, 2, 4, 5, 6, 7, 8, 9] [9] (by kernel_rfl) (by kernel_rfl) rfl ?_
 show DK _ [0, 1, 2, 3, 4, 5, 6, 7, 8, 9] _ _ _
 refine .q rfl (op_loadRow Tryz.underlying22 rfl sz22 rfl rfl rfl (hlK)) trivial ?_
 refine .q rfl (op_loadRow Tryz.underlying22 rfl sz22 rfl rfl rfl (by simp only [AV.len, length_secA])) trivial ?_
 refine .q rfl (op_call (U := []) [] [] (kpub_ev e (secA seed) (length_secA seed)) Tryz.func19 (by kernel_rfl) rfl rfl rfl (⟨⟨_, rfl, rfl, rfl⟩, trivial⟩) (⟨⟨_, _, rfl, rfl, rfl, rfl, id, rfl⟩, trivial⟩) (trivial) (⟨(fun h => by cases h), trivial⟩) rfl) trivial ?_
 refine .q rfl (op_move rfl) trivial ?_
 refine .q rfl (op_call (U := []) [] [] (kch_ev ek eo R (keyN (secA seed)) m hlK (length_keyN _) hm) Tryz.func29 (by kernel_rfl) rfl rfl rfl (⟨⟨_, rfl, rfl, rfl⟩, ⟨_, rfl, rfl, rfl⟩, ⟨_, rfl, rfl, rfl⟩, trivial⟩) (⟨⟨_, _, rfl, rfl, rfl, rfl, id, rfl⟩, ⟨_, _, rfl, rfl, rfl, rfl, id, rfl⟩, trivial⟩) (trivial) (⟨(fun h => by cases h), (fun h => by cases h), trivial⟩) rfl) trivial ?_
 refine .q rfl (op_loadRow Tryz.underlying22 rfl sz22 rfl rfl rfl (by simp only [AV.len, length_secA])) trivial ?_
 refine .q rfl (op_loadRow Tryz.underlying22 rfl sz22 rfl rfl rfl (by simp only [AV.len, length_rndN])) trivial ?_
 refine .q rfl (op_call (U := []) [] [] (sMulAdd_ev eo (chN R (keyN (secA seed)) m) (secA seed) (rndN seed m) (length_chN _ _ _) (length_secA _) (length_rndN _ _)) Tryz.func28 (by kernel_rfl) rfl rfl rfl (⟨⟨_, rfl, rfl, rfl⟩, ⟨_, rfl, rfl, rfl⟩, ⟨_, rfl, rfl, rfl⟩, trivial⟩) (⟨⟨_, _, rfl, rfl, rfl, rfl, id, rfl⟩, trivial⟩) (trivial) (⟨(fun h => by cases h), trivial⟩) rfl) trivial ?_
 refine .as (.aggB S) (congrArg AV.aggB (by rw [← hR]; exact hS)) ?_
 refine .a rfl (op_allocRow zero22 rel_zero22 rfl) trivial rfl rfl ?_
 refine .w rfl (op_storeRow sz22 rfl rfl rfl rfl rfl (by simp only [AV.len, hlS]) (by simp only [AV.len, List.length_replicate])) trivial rfl rfl ?_
 refine .nil ?_
 show Ev _ _ _ _ _
 refine .seq ?_
 refine .region ?_
 refine .a (op_allocRow zero29 rel_zero29 rfl) trivial rfl ?_
 refine .nil ?_
 show Ev _ _ _ _ _
 refine .seq ?_
 refine .drawn [[], [], [0, 1]] [0, 1, 2] [2] (by kernel_rfl) (by kernel_rfl) rfl ?_
 show DK _ [0, 1, 2] _ _ _
 refine .q rfl (ap_slice_arr_hi Tryz.underlying29 inf5.sz rfl rfl (by first | decide | (simp only [AV.len, List.length_replicate]; omega)) (by decide) (bnd_some rfl rfl) (by first | decide | (simp only [AV.len, List.length_replicate]; omega))) trivial ?_
 refine .q rfl (ap_slice_arr_hi Tryz.underlying22 inf5.sz rfl rfl (by first | omega | (simp only [AV.len]; omega)) (by decide) rfl (by first | omega | (simp only [AV.len]; omega))) trivial ?_
 refine .a rfl (op_copy (q := 32) (c' := .aggB (cpB (List.replicate 64 0) 0 R 32)) Tryz.underlying25 inf5.sz rfl rfl rfl (srcs_sl rfl rfl (by simp only [AV.len]; omega)) (by simp only [AV.len, List.length_replicate]; omega) (rfl) (by simp [AV.list, AV.parts, cpB, List.map_append, List.map_take, List.take_take])) trivial rfl rfl ?_
 refine .nil ?_
 show Ev _ _ _ _ _
 refine .seq ?_
 refine .drawn [[], [], [0, 1]] [0, 1, 2] [2] (by kernel_rfl) (by kernel_rfl) rfl ?_
 show DK _ [0, 1, 2] _ _ _
 have hlC : (cpB (List.replicate 64 0) 0 R 32).length = 64 := by rw [length_cpB _ _ _ _ (by omega) (by simp)]; simp
 refine .q rfl (op_slice_arr Tryz.underlying29 inf5.sz rfl rfl (by first | decide | (simp only [AV.len]; omega)) (by decide) (bnd_some rfl rfl) rfl (by first | decide | (simp only [AV.len]; omega)) (by first | decide | (simp only [AV.len]; omega))) trivial ?_
 refine .q rfl (ap_slice_arr_hi Tryz.underlying22 inf5.sz rfl rfl (by first | omega | (simp only [AV.len]; omega)) (by decide) rfl (by first | omega | (simp only [AV.len]; omega))) trivial ?_
 refine .a rfl (op_copy (q := 32) (c' := .aggB (cpB (cpB (List.replicate 64 0) 0 R 32) 32 S 32)) Tryz.underlying25 inf5.sz rfl rfl rfl (srcs_sl rfl rfl (by simp only [AV.len]; omega)) (by simp only [AV.len]; omega) (rfl) (by simp [AV.list, AV.parts, cpB, List.map_append, List.map_take, List.map_drop, List.take_take])) trivial rfl rfl ?_
 refine .nil ?_
 show Ev _ _ _ _ _
 refine .seq ?_
 refine .region ?_
 refine .q (op_loadRow Tryz.underlying29 rfl sz29 rfl rfl rfl (by show (cpB (cpB (List.replicate 64 0) 0 R 32) 32 S 32).length = 64; rw [length_cpB _ _ _ _ (by omega) (by omega)]; exact hlC)) trivial rfl ?_
 refine .as (.aggB (sgnN seed m)) (congrArg AV.aggB (by unfold sgnN; rw [hR, hS]; exact sgn_copy R S hlK hlS)) ?_
 refine .w (op_storeRow sz29 rfl rfl rfl rfl rfl (by simp only [AV.len, length_sgnN]) (by simp only [AV.len, List.length_replicate])) trivial rfl ?_
 refine .nil ?_
 show Ev _ _ _ _ _
 refine .ret ?_
 show RetOk _ _ _ _ _ _ _
 exact retc1 rfl (.inl rfl) ⟨_, _, _, _, rfl, rfl, rfl, rfl, (length_sgnN seed m), Tryz.underlying29, rfl, sz29⟩ trivial
set_option maxHeartbeats 2000000 in
set_option maxRecDepth 100000 in
theorem kver_N (e e2 ek eo : Nat) (key m sig : List UInt8) (hk : key.length = 32) (_hm : m.length ≤ 1000000) (hs : sig.length = 64) (hl1 : (sig.take 32).length = 32) (hl2 : (sig.drop 32).length = 32) (hB : decB key = false) : Meets Tryz.prog 14 [.aggB key, .str m, .aggB sig] [(0, some ⟨.agg64 primeL, e, false⟩), (3, some ⟨.agg64 minusL, e2, false⟩), (1, some ⟨.agg64 K512, ek, false⟩), (2, some ⟨.agg64 orderL, eo, false⟩)] (.bool false) [] := by
 refine meets_of_ev (nt := 40) Tryz.func14 rfl rfl (Nat.le_of_ble_eq_true rfl) ?_
 refine .seq ?_
 refine .region ?_
 refine .a (op_boxRow rfl rfl) trivial rfl ?_
 refine .a (op_boxRow rfl rfl) trivial rfl ?_
 refine .q (op_assign rfl) trivial rfl ?_
 refine .nil ?_
 show Ev _ _ _ _ _
 refine .seq ?_
 refine .drawnF [[], [0], [0, 1], [], [3], [3, 4], [], [], [0, 1, 2, 6, 7], [0, 1, 2, 3, 4, 5, 6, 7, 8]] [0, 2, 3, 5, 6, 7, 8, 9] [] [(0, ([1008], [])), (2, ([1008], [])), (3, ([1008], [])), (5, ([1008], [])), (8, ([], [1064])), (9, ([], [1072]))] (by kernel_rfl) (by kernel_rfl) rfl ?_
 show DK _ [0, 1, 2, 3, 4, 5, 6, 7, 8, 9] _ _ _
 refine .q rfl (ap_slice_arr_hi Tryz.underlying29 inf5.sz rfl rfl (by first | omega | (simp only [AV.len]; omega)) (by decide) (bnd_some rfl rfl) (by first | omega | (simp only [AV.len]; omega))) trivial ?_
 refine .q rfl (op_toArrPtr Tryz.underlying22 rfl (by decide) (by decide)) trivial ?_
 refine .q rfl (op_loadB Tryz.underlying22 rfl sz22 rfl rfl (by rw [hs]; decide)) trivial ?_
 refine .as (.aggB (sig.take 32)) (congrArg AV.aggB (by rw [List.drop_zero])) ?_
 refine .q rfl (op_slice_arr Tryz.underlying29 inf5.sz rfl rfl (by first | omega | (simp only [AV.len]; omega)) (by decide) (bnd_some rfl rfl) rfl (by first | omega | (simp only [AV.len]; omega)) (by first | omega | (simp only [AV.len]; omega))) trivial ?_
 refine .q rfl (op_toArrPtr Tryz.underlying22 rfl (by decide) (by decide)) trivial ?_
 refine .q rfl (op_loadB Tryz.underlying22 rfl sz22 rfl rfl (by rw [hs]; decide)) trivial ?_
 refine .as (.aggB (sig.drop 32)) (congrArg AV.aggB (List.take_of_length_le (Nat.le_of_eq hl2))) ?_
 refine .a rfl (op_allocRow zero22 rel_zero22 rfl) trivial rfl rfl ?_
 refine .a rfl (op_allocRow zero22 rel_zero22 rfl) trivial rfl rfl ?_
 refine .w rfl (op_storeRow sz22 rfl rfl rfl rfl rfl (by simp only [AV.len, hl1]) (by simp only [AV.len, List.length_replicate])) trivial rfl rfl ?_
 refine .w rfl (op_storeRow sz22 rfl rfl rfl rfl rfl (by simp only [AV.len, hl2]) (by simp only [AV.len, List.length_replicate])) trivial rfl rfl ?_
 refine .nil ?_
 show Ev _ _ _ _ _
 refine .seq ?_
 refine .region ?_
 refine .q (op_loadRow Tryz.underlying22 rfl sz22 rfl rfl rfl (hk)) trivial rfl ?_
 refine .q (op_call (U := []) [] [] (kdec_ev e e2 key hk) Tryz.func25 (by kernel_rfl) rfl rfl rfl (⟨⟨_, rfl, rfl, rfl⟩, trivial⟩) (⟨⟨_, _, rfl, rfl, rfl, rfl, id, rfl⟩, ⟨_, _, rfl, rfl, rfl, rfl, id, rfl⟩, trivial⟩) (trivial) (⟨(fun h => by cases h), (fun h => by cases h), trivial⟩) rfl) trivial rfl ?_
 refine .as (.tup [.agg64 (fl (0) ++ fl (0)), .bool false]) (by unfold decP; rw [hB]; rfl) ?_
 refine .q (op_move rfl) trivial rfl ?_
 refine .q (op_extract rfl rfl) trivial rfl ?_
 refine .q (op_extract rfl rfl) trivial rfl ?_
 refine .a (op_allocRow zero57 rel_zero57 rfl) trivial rfl ?_
 refine .w (op_storeRow sz57 rfl rfl rfl rfl rfl (rfl) (rfl)) trivial rfl ?_
 refine .q (op_assign rfl) trivial rfl ?_
 refine .nil ?_
 show Ev _ _ _ _ _
 refine .seq ?_
 refine .seq ?_
 refine .region ?_
 refine .q (op_move rfl) trivial rfl ?_
 refine .q (op_notB rfl) trivial rfl ?_
 refine .q (op_move rfl) trivial rfl ?_
 refine .know (b' := true) (rfl) ?_
 refine .no ⟨_, rfl, rfl⟩ rfl ?_
 refine .no ⟨_, rfl, rfl⟩ rfl ?_
 refine .no ⟨_, rfl, rfl⟩ rfl ?_
 refine .q (op_pick_true rfl rfl rfl) trivial rfl ?_
 refine .nil ?_
 show Ev _ _ _ _ _
 refine .cond_true rfl rfl ?_
 refine .seq ?_
 refine .region ?_
 refine .q (op_assign rfl) trivial rfl ?_
 refine .nil ?_
 show Ev _ _ _ _ _
 refine .ret ?_
 show RetOk _ _ _ _ _ _ _
 exact ret1v rfl (.inl rfl) rfl rfl trivial
set_option maxHeartbeats 2000000 in
set_option maxRecDepth 100000 in
theorem kver_L (e e2 ek eo : Nat) (key m sig : List UInt8) (hk : key.length = 32) (_hm : m.length ≤ 1000000) (hs : sig.length = 64) (hl1 : (sig.take 32).length = 32) (hl2 : (sig.drop 32).length = 32) (hB : decB key = true) (hF : decide (leN (sig.drop 32) 32 < scL) = false) : Meets Tryz.prog 14 [.aggB key, .str m, .aggB sig] [(0, some ⟨.agg64 primeL, e, false⟩), (3, some ⟨.agg64 minusL, e2, false⟩), (1, some ⟨.agg64 K512, ek, false⟩), (2, some ⟨.agg64 orderL, eo, false⟩)] (.bool false) [] := by
 refine meets_of_ev (nt := 40) Tryz.func14 rfl rfl (Nat.le_of_ble_eq_true rfl) ?_
 refine .seq ?_
 refine .region ?_
 refine .a (op_boxRow rfl rfl) trivial rfl ?_
 refine .a (op_boxRow rfl rfl) trivial rfl ?_
 refine .q (op_assign rfl) trivial rfl ?_
 refine .nil ?_
 show Ev _ _ _ _ _
 refine .seq ?_
 refine .drawnF [[], [0], [0, 1], [], [3], [3, 4], [], [], [0, 1, 2, 6, 7], [0, 1, 2, 3, 4, 5, 6, 7, 8]] [0, 2, 3, 5, 6, 7, 8, 9] [] [(0, ([1008], [])), (2, ([1008], [])), (3, ([1008], [])), (5, ([1008], [])), (8, ([], [1064])), (9, ([], [1072]))] (by kernel_rfl) (by kernel_rfl) rfl ?_
 show DK _ [0, 1, 2, 3, 4, 5, 6, 7, 8, 9] _ _ _
 refine .q rfl (ap_slice_arr_hi Tryz.underlying29 inf5.sz rfl rfl (by first | omega | (simp only [AV.len]; omega)) (by decide) (bnd_some rfl rfl) (by first | omega | (simp only [AV.len]; omega))) trivial ?_
 refine .q rfl (op_toArrPtr Tryz.underlying22 rfl (by decide) (by decide)) trivial ?_
 refine .q rfl (op_loadB Tryz.underlying22 rfl sz22 rfl rfl (by rw [hs]; decide)) trivial ?_
 refine .as (.aggB (sig.take 32)) (congrArg AV.aggB (by rw [List.drop_zero])) ?_
 refine .q rfl (op_slice_arr Tryz.underlying29 inf5.sz rfl rfl (by first | omega | (simp only [AV.len]; omega)) (by decide) (bnd_some rfl rfl) rfl (by first | omega | (simp only [AV.len]; omega)) (by first | omega | (simp only [AV.len]; omega))) trivial ?_
 refine .q rfl (op_toArrPtr Tryz.underlying22 rfl (by decide) (by decide)) trivial ?_
 refine .q rfl (op_loadB Tryz.underlying22 rfl sz22 rfl rfl (by rw [hs]; decide)) trivial ?_
 refine .as (.aggB (sig.drop 32)) (congrArg AV.aggB (List.take_of_length_le (Nat.le_of_eq hl2))) ?_
 refine .a rfl (op_allocRow zero22 rel_zero22 rfl) trivial rfl rfl ?_
 refine .a rfl (op_allocRow zero22 rel_zero22 rfl) trivial rfl rfl ?_
 refine .w rfl (op_storeRow sz22 rfl rfl rfl rfl rfl (by simp only [AV.len, hl1]) (by simp only [AV.len, List.length_replicate])) trivial rfl rfl ?_
 refine .w rfl (op_storeRow sz22 rfl rfl rfl rfl rfl (by simp only [AV.len, hl2]) (by simp only [AV.len, List.length_replicate])) trivial rfl rfl ?_
 refine .nil ?_
 show Ev _ _ _ _ _
 refine .seq ?_
 refine .region ?_
 refine .q (op_loadRow Tryz.underlying22 rfl sz22 rfl rfl rfl (hk)) trivial rfl ?_
 refine .q (op_call (U := []) [] [] (kdec_ev e e2 key hk) Tryz.func25 (by kernel_rfl) rfl rfl rfl (⟨⟨_, rfl, rfl, rfl⟩, trivial⟩) (⟨⟨_, _, rfl, rfl, rfl, rfl, id, rfl⟩, ⟨_, _, rfl, rfl, rfl, rfl, id, rfl⟩, trivial⟩) (trivial) (⟨(fun h => by cases h), (fun h => by cases h), trivial⟩) rfl) trivial rfl ?_
 refine .as (.tup [.agg64 (fl (decX key) ++ fl (ofV key)), .bool true]) (by unfold decP; rw [hB]; rfl) ?_
 refine .q (op_move rfl) trivial rfl ?_
 refine .q (op_extract rfl rfl) trivial rfl ?_
 refine .q (op_extract rfl rfl) trivial rfl ?_
 refine .a (op_allocRow zero57 rel_zero57 rfl) trivial rfl ?_
 refine .w (op_storeRow sz57 rfl rfl rfl rfl rfl (rfl) (rfl)) trivial rfl ?_
 refine .q (op_assign rfl) trivial rfl ?_
 refine .nil ?_
 show Ev _ _ _ _ _
 refine .seq ?_
 refine .seq ?_
 refine .region ?_
 refine .q (op_move rfl) trivial rfl ?_
 refine .q (op_notB rfl) trivial rfl ?_
 refine .q (op_move rfl) trivial rfl ?_
 refine .know (b' := false) (rfl) ?_
 refine .q (op_loadRow Tryz.underlying22 rfl sz22 rfl rfl rfl (hl2)) ⟨_, rfl, rfl⟩ rfl ?_
 refine .q (op_call (U := []) [] [] (sFits_ev eo (sig.drop 32) hl2) Tryz.func33 (by kernel_rfl) rfl rfl rfl (⟨⟨_, rfl, rfl, rfl⟩, trivial⟩) (⟨⟨_, _, rfl, rfl, rfl, rfl, id, rfl⟩, trivial⟩) (trivial) (⟨(fun h => by cases h), trivial⟩) rfl) ⟨_, rfl, rfl⟩ rfl ?_
 refine .as (.bool false) (congrArg AV.bool hF) ?_
 refine .q (op_notB rfl) ⟨_, rfl, rfl⟩ rfl ?_
 refine .q (op_pick_false rfl rfl rfl) trivial rfl ?_
 refine .nil ?_
 show Ev _ _ _ _ _
 refine .cond_true rfl (rfl) ?_
 refine .seq ?_
 refine .region ?_
 refine .q (op_assign rfl) trivial rfl ?_
 refine .nil ?_
 show Ev _ _ _ _ _
 refine .ret ?_
 show RetOk _ _ _ _ _ _ _
 exact ret1v rfl (.inl rfl) rfl rfl trivial
set_option maxHeartbeats 2000000 in
set_option maxRecDepth 100000 in
theorem kver_T (e e2 ek eo : Nat) (key m sig : List UInt8) (hk : key.length = 32) (hm : m.length ≤ 1000000) (hs : sig.length = 64) (hl1 : (sig.take 32).length = 32) (hl2 : (sig.drop 32).length = 32) (hB : decB key = true) (hF : decide (leN (sig.drop 32) 32 < scL) = true) : Meets Tryz.prog 14 [.aggB key, .str m, .aggB sig] [(0, some ⟨.agg64 primeL, e, false⟩), (3, some ⟨.agg64 minusL, e2, false⟩), (1, some ⟨.agg64 K512, ek, false⟩), (2, some ⟨.agg64 orderL, eo, false⟩)] (.bool (vrfN key m sig)) [] := by
 refine meets_of_ev (nt := 40) Tryz.func14 rfl rfl (Nat.le_of_ble_eq_true rfl) ?_
 refine .seq ?_
 refine .region ?_
 refine .a (op_boxRow rfl rfl) trivial rfl ?_
 refine .a (op_boxRow rfl rfl) trivial rfl ?_
 refine .q (op_assign rfl) trivial rfl ?_
 refine .nil ?_
 show Ev _ _ _ _ _
 refine .seq ?_
 refine .drawnF [[], [0], [0, 1], [], [3], [3, 4], [], [], [0, 1, 2, 6, 7], [0, 1, 2, 3, 4, 5, 6, 7, 8]] [0, 2, 3, 5, 6, 7, 8, 9] [] [(0, ([1008], [])), (2, ([1008], [])), (3, ([1008], [])), (5, ([1008], [])), (8, ([], [1064])), (9, ([], [1072]))] (by kernel_rfl) (by kernel_rfl) rfl ?_
 show DK _ [0, 1, 2, 3, 4, 5, 6, 7, 8, 9] _ _ _
 refine .q rfl (ap_slice_arr_hi Tryz.underlying29 inf5.sz rfl rfl (by first | omega | (simp only [AV.len]; omega)) (by decide) (bnd_some rfl rfl) (by first | omega | (simp only [AV.len]; omega))) trivial ?_
 refine .q rfl (op_toArrPtr Tryz.underlying22 rfl (by decide) (by decide)) trivial ?_
 refine .q rfl (op_loadB Tryz.underlying22 rfl sz22 rfl rfl (by rw [hs]; decide)) trivial ?_
 refine .as (.aggB (sig.take 32)) (congrArg AV.aggB (by rw [List.drop_zero])) ?_
 refine .q rfl (op_slice_arr Tryz.underlying29 inf5.sz rfl rfl (by first | omega | (simp only [AV.len]; omega)) (by decide) (bnd_some rfl rfl) rfl (by first | omega | (simp only [AV.len]; omega)) (by first | omega | (simp only [AV.len]; omega))) trivial ?_
 refine .q rfl (op_toArrPtr Tryz.underlying22 rfl (by decide) (by decide)) trivial ?_
 refine .q rfl (op_loadB Tryz.underlying22 rfl sz22 rfl rfl (by rw [hs]; decide)) trivial ?_
 refine .as (.aggB (sig.drop 32)) (congrArg AV.aggB (List.take_of_length_le (Nat.le_of_eq hl2))) ?_
 refine .a rfl (op_allocRow zero22 rel_zero22 rfl) trivial rfl rfl ?_
 refine .a rfl (op_allocRow zero22 rel_zero22 rfl) trivial rfl rfl ?_
 refine .w rfl (op_storeRow sz22 rfl rfl rfl rfl rfl (by simp only [AV.len, hl1]) (by simp only [AV.len, List.length_replicate])) trivial rfl rfl ?_
 refine .w rfl (op_storeRow sz22 rfl rfl rfl rfl rfl (by simp only [AV.len, hl2]) (by simp only [AV.len, List.length_replicate])) trivial rfl rfl ?_
 refine .nil ?_
 show Ev _ _ _ _ _
 refine .seq ?_
 refine .region ?_
 refine .q (op_loadRow Tryz.underlying22 rfl sz22 rfl rfl rfl (hk)) trivial rfl ?_
 refine .q (op_call (U := []) [] [] (kdec_ev e e2 key hk) Tryz.func25 (by kernel_rfl) rfl rfl rfl (⟨⟨_, rfl, rfl, rfl⟩, trivial⟩) (⟨⟨_, _, rfl, rfl, rfl, rfl, id, rfl⟩, ⟨_, _, rfl, rfl, rfl, rfl, id, rfl⟩, trivial⟩) (trivial) (⟨(fun h => by cases h), (fun h => by cases h), trivial⟩) rfl) trivial rfl ?_
 refine .as (.tup [.agg64 (fl (decX key) ++ fl (ofV key)), .bool true]) (by unfold decP; rw [hB]; rfl) ?_
 refine .q (op_move rfl) trivial rfl ?_
 refine .q (op_extract rfl rfl) trivial rfl ?_
 refine .q (op_extract rfl rfl) trivial rfl ?_
 refine .a (op_allocRow zero57 rel_zero57 rfl) trivial rfl ?_
 refine .w (op_storeRow sz57 rfl rfl rfl rfl rfl (rfl) (rfl)) trivial rfl ?_
 refine .q (op_assign rfl) trivial rfl ?_
 refine .nil ?_
 show Ev _ _ _ _ _
 refine .seq ?_
 refine .seq ?_
 refine .region ?_
 refine .q (op_move rfl) trivial rfl ?_
 refine .q (op_notB rfl) trivial rfl ?_
 refine .q (op_move rfl) trivial rfl ?_
 refine .know (b' := false) (rfl) ?_
 refine .q (op_loadRow Tryz.underlying22 rfl sz22 rfl rfl rfl (hl2)) ⟨_, rfl, rfl⟩ rfl ?_
 refine .q (op_call (U := []) [] [] (sFits_ev eo (sig.drop 32) hl2) Tryz.func33 (by kernel_rfl) rfl rfl rfl (⟨⟨_, rfl, rfl, rfl⟩, trivial⟩) (⟨⟨_, _, rfl, rfl, rfl, rfl, id, rfl⟩, trivial⟩) (trivial) (⟨(fun h => by cases h), trivial⟩) rfl) ⟨_, rfl, rfl⟩ rfl ?_
 refine .as (.bool true) (congrArg AV.bool hF) ?_
 refine .q (op_notB rfl) ⟨_, rfl, rfl⟩ rfl ?_
 refine .q (op_pick_false rfl rfl rfl) trivial rfl ?_
 refine .nil ?_
 show Ev _ _ _ _ _
 refine .cond_false rfl (rfl) ?_
 refine .skip ?_
 show Ev _ _ _ _ _
 refine .seq ?_
 refine .drawn [[], [], [], [], [1, 2, 3], [], [1, 2, 3, 4, 5], [0, 1, 2, 3, 4, 5, 6], [0, 1, 2, 3, 4, 5, 6, 7], [], [0, 1, 2, 3, 4, 5, 6, 7, 8, 9], [0, 1, 2, 3, 4, 5, 6, 7, 8, 9, 10]] [0, 1, 2, 4, 5, 6, 7, 8, 9] [] (by kernel_rfl) (by kernel_rfl) rfl ?_
 show DK _ [0, 1, 2, 3, 4, 5, 6, 7, 8, 9, 10, 11] _ _ _
 refine .q rfl (op_loadRow Tryz.underlying22 rfl sz22 rfl rfl rfl (hl2)) trivial ?_
 refine .q rfl (op_loadRow Tryz.underlying22 rfl sz22 rfl rfl rfl (hl1)) trivial ?_
 refine .q rfl (op_loadRow Tryz.underlying22 rfl sz22 rfl rfl rfl (hk)) trivial ?_
 refine .q rfl (op_move rfl) trivial ?_
 refine .q rfl (op_call (U := []) [] [] (kch_ev ek eo (sig.take 32) key m hl1 hk hm) Tryz.func29 (by kernel_rfl) rfl rfl rfl (⟨⟨_, rfl, rfl, rfl⟩, ⟨_, rfl, rfl, rfl⟩, ⟨_, rfl, rfl, rfl⟩, trivial⟩) (⟨⟨_, _, rfl, rfl, rfl, rfl, id, rfl⟩, ⟨_, _, rfl, rfl, rfl, rfl, id, rfl⟩, trivial⟩) (trivial) (⟨(fun h => by cases h), (fun h => by cases h), trivial⟩) rfl) trivial ?_
 refine .q rfl (op_loadRow Tryz.underlying57 rfl sz57 rfl rfl rfl (rfl)) trivial ?_
 refine .q rfl (op_call (U := []) [] [] (kneg2_ev e (decX key) (ofV key) (decX_lt _)) Tryz.func35 (by kernel_rfl) rfl rfl rfl (⟨⟨_, rfl, rfl, rfl⟩, trivial⟩) (⟨⟨_, _, rfl, rfl, rfl, rfl, id, rfl⟩, trivial⟩) (trivial) (⟨(fun h => by cases h), trivial⟩) rfl) trivial ?_
 refine .q rfl (op_call (U := []) [] [] (kcb_ev e (sig.drop 32) (chN (sig.take 32) key m) (nF (decX key)) (ofV key) hl2 (length_chN _ _ _) (nF_lt _) (ofV_lt _)) Tryz.func34 (by kernel_rfl) rfl rfl rfl (⟨⟨_, rfl, rfl, rfl⟩, ⟨_, rfl, rfl, rfl⟩, ⟨_, rfl, rfl, rfl⟩, trivial⟩) (⟨⟨_, _, rfl, rfl, rfl, rfl, id, rfl⟩, trivial⟩) (trivial) (⟨(fun h => by cases h), trivial⟩) rfl) trivial ?_
 refine .q rfl (op_call (U := []) [] [] (kqenc_ev (cbQ (sig.drop 32) (chN (sig.take 32) key m) (nF (decX key)) (ofV key) 256) (cbQ_lt _ _ _ _ _)) Tryz.func36 (by kernel_rfl) rfl rfl rfl (⟨⟨_, rfl, rfl, rfl⟩, trivial⟩) (trivial) (trivial) (trivial) rfl) trivial ?_
 refine .q rfl (op_loadRow Tryz.underlying22 rfl sz22 rfl rfl rfl (hl1)) trivial ?_
 refine .q rfl (op_eqRow8 (n := 32) (by kernel_rfl) Tryz.underlying22 Tryz.underlying5 inf5.sz rfl rfl (by simp only [length_encQ]) (hl1)) trivial ?_
 refine .as (.bool (vrfN key m sig)) (congrArg AV.bool (by unfold vrfN; rw [hB, hF, Bool.true_and, Bool.true_and])) ?_
 refine .q rfl (op_assign rfl) trivial ?_
 refine .nil ?_
 show Ev _ _ _ _ _
 refine .ret ?_
 show RetOk _ _ _ _ _ _ _
 exact ret1v rfl (.inl rfl) rfl rfl trivial
theorem kver_ev (e e2 ek eo : Nat) (key m sig : List UInt8) (hk : key.length = 32) (hm : m.length ≤ 1000000) (hs : sig.length = 64) : Meets Tryz.prog 14 [.aggB key, .str m, .aggB sig] [(0, some ⟨.agg64 primeL, e, false⟩), (3, some ⟨.agg64 minusL, e2, false⟩), (1, some ⟨.agg64 K512, ek, false⟩), (2, some ⟨.agg64 orderL, eo, false⟩)] (.bool (vrfN key m sig)) [] := by
 have hl1 : (sig.take 32).length = 32 := by rw [List.length_take]; omega
 have hl2 : (sig.drop 32).length = 32 := by rw [List.length_drop]; omega
 cases hB : decB key with
 | false => exact (kver_N e e2 ek eo key m sig hk hm hs hl1 hl2 hB).as (by unfold vrfN; rw [hB]; simp only [Bool.false_and])
 | true =>
  cases hF : decide (leN (sig.drop 32) 32 < scL) with
  | false => exact (kver_L e e2 ek eo key m sig hk hm hs hl1 hl2 hB hF).as (by unfold vrfN; rw [hB, hF]; simp only [Bool.true_and, Bool.false_and])
  | true => exact kver_T e e2 ek eo key m sig hk hm hs hl1 hl2 hB hF
end Go.Proofs.YtcnjekoidgefpaaGreatDoor
