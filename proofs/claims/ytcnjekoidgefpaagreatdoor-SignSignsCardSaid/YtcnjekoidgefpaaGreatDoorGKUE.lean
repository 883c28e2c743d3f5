/-
  Texts of this claim.
-/
import Derived.Test.YtcnjekoidgefpaaGreatDoorGK2E
import Derived.Test.YtcnjekoidgefpaaGreatDoorGTKE
import Derived.Test.YtcnjekoidgefpaaGreatDoorGKPE
namespace Go.Proofs.YtcnjekoidgefpaaGreatDoor
open Go.RowKit
theorem k8of4 (s : List UInt8) (h : s.length = 32) : mZ Tryz.prog 23 [.str s] [] (.sl 1000 0 (dl (leN s 32)) 1) [(1000, some ⟨.aggI (dg (leN s 32)), 3, true⟩)] := by
  have := of_ev s (by omega)
  rwa [h] at this
theorem dl_pos8 {n : Nat} (h : n ≠ 0) : 0 < dl n := by
  rcases Nat.eq_zero_or_pos (dl n) with h0 | h0
  · have := jW n; rw [h0] at this; omega
  · exact h0
theorem dl_32 (s : List UInt8) : dl (leN s 32) ≤ 1000 := Nat.le_trans (uX (Nat.lt_of_lt_of_le (gU s 32) (show (256 : Nat) ^ 32 ≤ 65536 ^ 16 by decide))) (by decide)
set_option maxRecDepth 100000 in
theorem rs512_ev (s : List UInt8) (hs : s.length ≤ 1000000) : mZ Tryz.prog 31 [.str s] [] (.str (cW s)) [] := by
 refine eZ (nt := 5) Tryz.func31 rfl rfl (Nat.le_of_ble_eq_true rfl) <| .seq <| .region <| .s rfl rfl <| .nil <| .seq <| .region <| .m rfl rfl <| .x (aZ (U := []) [] [] (rsum512_ev s hs) Tryz.func71 (by kernel_rfl) rfl rfl rfl (⟨⟨_, rfl, rfl, rfl⟩, ⟨_, rfl, rfl, rfl⟩, trivial⟩) (trivial) (trivial) (trivial) rfl) rfl <| .s rfl rfl <| .nil <| .ret ?_
 exact iY rfl (.inl rfl) rfl rfl trivial
set_option maxRecDepth 100000 in
theorem k8secret (seed A : List UInt8) (hs : seed.length ≤ 1000000) (hA : (cW seed).take 32 = A) (hlA : A.length = 32) : mZ Tryz.prog 20 [.str seed] [] (.tup [.str (secA seed), .str (secP seed)]) [] := by
 refine eZ (nt := 29) Tryz.func20 rfl rfl (Nat.le_of_ble_eq_true rfl) <| .seq <| .region <| .s rfl rfl <| .s rfl rfl <| .nil <| .seq <| .region <| .m rfl rfl <| .x (aZ (U := []) [] [] (rs512_ev seed hs) Tryz.func31 (by kernel_rfl) rfl rfl rfl (⟨⟨_, rfl, rfl, rfl⟩, trivial⟩) (trivial) (trivial) (trivial) rfl) rfl <| .s rfl rfl <| .nil <| .seq <| .region <| .m rfl rfl <| .x (aV Tryz.underlying9 rfl (oY rfl rfl) (by rw [eY]; decide)) rfl <| .as (.str A) (congrArg AV.str (by exact hA)) <| .y (op_str_bytes Tryz.underlying9 Tryz.underlying25 Tryz.underlying5 rfl (by unfold maxLen; omega)) rfl <| .s rfl rfl <| .nil <| .seq <| .region <| .m rfl rfl <| .m rfl rfl <| .x (fY Tryz.underlying25 inf5.sz rfl rfl rfl (by rw [hlA]; decide)) rfl <| .x (kZ Tryz.underlying5 rfl rfl rfl rfl (by simp only [AV.len]; omega)) rfl <| .x (op_quo8 rfl rfl (by decide)) rfl <| .x (mV rfl rfl rfl) rfl <| .x (fY Tryz.underlying25 inf5.sz rfl rfl rfl (by rw [hlA]; decide)) rfl <| .w (qY inf5.sz rfl rfl rfl rfl rfl (by simp only [AV.len]; omega)) trivial rfl <| .nil <| .seq <| .region <| .m rfl rfl <| .m rfl rfl <| .x (fY Tryz.underlying25 inf5.sz rfl rfl rfl (by rw [hlA]; decide)) rfl <| .x (kZ Tryz.underlying5 rfl rfl rfl rfl (by simp only [AV.len, List.length_set]; omega)) rfl <| .x (op_rem8 rfl rfl (by decide)) rfl <| .x (mV rfl rfl rfl) rfl <| .x (fY Tryz.underlying25 inf5.sz rfl rfl rfl (by rw [hlA]; decide)) rfl <| .w (qY inf5.sz rfl rfl rfl rfl rfl (by simp only [AV.len, List.length_set]; omega)) trivial rfl <| .nil <| .seq <| .drawn [[], [0], [], [2], [0, 1], [0, 1, 2, 3, 4]] [1] [] (by kernel_rfl) (by kernel_rfl) rfl <| .q rfl (fZ rfl) trivial <| .q rfl (gY Tryz.underlying25 Tryz.underlying5 Tryz.underlying9 rfl rfl rfl (by simp only [List.length_set]; omega)) trivial <| .as (.str (secA seed)) (congrArg AV.str (by unfold secA; rw [hA, us_eq A hlA, List.drop_zero]; exact List.take_of_length_le (by simp))) <| .q rfl (fZ rfl) trivial <| .q rfl (ap_slice_str_lo Tryz.underlying9 rfl (oY rfl rfl) (by rw [eY]; decide)) trivial <| .as (.str (secP seed)) (congrArg AV.str (by unfold secP; first | rfl | exact List.take_of_length_le (by rw [List.length_drop]; omega))) <| .q rfl (zZ rfl) trivial <| .q rfl (zZ rfl) trivial <| .nil <| .ret ?_
 exact ret2v rfl (.inl rfl) rfl rfl rfl rfl trivial
theorem k8sec (seed : List UInt8) (hs : seed.length ≤ 1000000) : mZ Tryz.prog 20 [.str seed] [] (.tup [.str (secA seed), .str (secP seed)]) [] := k8secret seed _ hs rfl (by rw [List.length_take, eY]; rfl)
end Go.Proofs.YtcnjekoidgefpaaGreatDoor
