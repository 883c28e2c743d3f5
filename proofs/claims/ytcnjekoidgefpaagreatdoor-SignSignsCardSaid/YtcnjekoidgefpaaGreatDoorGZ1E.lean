/-
  Texts of this claim.
-/
import Derived.Test.YtcnjekoidgefpaaGreatDoorGEE
namespace Go.Proofs.YtcnjekoidgefpaaGreatDoor
open Go.RowKit
set_option maxRecDepth 100000 in
theorem cut_ev (s : List UInt8) (n : Nat) (_hs : s.length ≤ maxLen) (_hn : n ≤ 1000) : mZ Tryz.prog 11 [.str s, .i64 n] [] (.str (s.take n)) [] := by
 refine eZ (nt := 13) Tryz.func11 rfl rfl (Nat.le_of_ble_eq_true rfl) <| .seq <| .region <| .s rfl rfl <| .nil <| .seq <| .seq <| .region <| .m rfl rfl <| .x (dW Tryz.underlying9 rfl) rfl <| .m rfl rfl <| .x (iZ rfl rfl rfl) rfl <| .nil <| .cond rfl (fun hc8 => ?_) (fun hc8 => ?_)
 ·simp only [decide_eq_true_eq] at hc8
  refine .seq <| .region <| .m rfl rfl <| .m rfl rfl <| .x (aV Tryz.underlying9 rfl (oY rfl rfl) (by first | omega | (simp only [AV.len]; omega) | (simp only [AV.len, List.length_set]; omega) | assumption | (simp [AV.len]; done))) rfl <| .s rfl rfl <| .nil <| .ret ?_
  first
   | exact iY rfl (.inl rfl) rfl (congrArg AV.str (by first | rfl | (rw [List.take_of_length_le (by omega)]))) trivial
   | exact iY rfl (.inl rfl) rfl rfl trivial
 ·simp only [decide_eq_false_iff_not] at hc8
  refine .skip <| .seq <| .region <| .m rfl rfl <| .s rfl rfl <| .nil <| .ret ?_
  first
   | exact iY rfl (.inl rfl) rfl (congrArg AV.str (by first | rfl | (rw [List.take_of_length_le (by omega)]))) trivial
   | exact iY rfl (.inl rfl) rfl rfl trivial
end Go.Proofs.YtcnjekoidgefpaaGreatDoor
