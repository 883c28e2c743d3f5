/-
  Texts of this claim.
-/
import Derived.Test.YtcnjekoidgefpaaGreatDoorGK2V
import Derived.Test.YtcnjekoidgefpaaGreatDoorGTKV
import Derived.Test.YtcnjekoidgefpaaGreatDoorGKPV
namespace Go.Proofs.YtcnjekoidgefpaaGreatDoor
open Go.RowKit
theorem k8of4 (s : List UInt8) (h : s.length = 32) : kZ Tryz.prog 23 [.str s] [] (.sl 1000 0 (dl (leN s 32)) 1) [(1000, some ⟨.aggI (dg (leN s 32)), 3, true⟩)] := by
  have := qP s (by omega)
  rwa [h] at this
theorem tJ {n : Nat} (h : n ≠ 0) : 0 < dl n := by
  rcases Nat.eq_zero_or_pos (dl n) with h0 | h0
  · have := bW n; rw [h0] at this; omega
  · exact h0
theorem dl_32 (s : List UInt8) : dl (leN s 32) ≤ 1000 := Nat.le_trans (qX (Nat.lt_of_lt_of_le (cU s 32) (show (256 : Nat) ^ 32 ≤ 65536 ^ 16 by decide))) (by decide)
set_option maxRecDepth 100000 in
theorem vM (s : List UInt8) (hs : s.length ≤ 1000000) : kZ Tryz.prog 31 [.str s] [] (.str (cW s)) [] := by
 refine mt (nt := 5) Tryz.func31 rfl rfl rfl <| .r <| .s rfl rfl <| .nil <| .r <| .m rfl rfl <| .x (aZ (U := []) [] [] (rsum512_ev s hs) Tryz.func71 (by kernel_rfl) rfl rfl rfl (⟨⟨_, rfl, rfl, rfl⟩, ⟨_, rfl, rfl, rfl⟩, trivial⟩) (trivial) (trivial) (trivial) rfl) rfl <| .s rfl rfl <| .nil <| .ret ?_
 exact yZ rfl (.inl rfl) rfl rfl trivial
end Go.Proofs.YtcnjekoidgefpaaGreatDoor
