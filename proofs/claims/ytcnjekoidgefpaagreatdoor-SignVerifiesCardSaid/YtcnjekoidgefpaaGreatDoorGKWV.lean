/-
  Texts of this claim.
-/
import Derived.Test.YtcnjekoidgefpaaGreatDoorGKVV
import Derived.Test.YtcnjekoidgefpaaGreatDoorGN1V
namespace Go.Proofs.YtcnjekoidgefpaaGreatDoor
open Go.RowKit
theorem k8of40 (s : List UInt8) (h : s.length = 32) (h0 : leN s 32 = 0) : kZ Tryz.prog 23 [.str s] [] (.sl 1000 0 (dl 0) 1) [(1000, some ⟨.aggI (dg 0), 3, true⟩)] := by
  have := k8of4 s h
  rwa [h0] at this
theorem k8red (s : List UInt8) (hs : s.length ≤ 1000000) : kZ Tryz.prog 30 [.str s] [] (.str (bsN (leN s 64 % scL) 32)) [] := redR s hs
end Go.Proofs.YtcnjekoidgefpaaGreatDoor
