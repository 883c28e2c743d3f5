/-
  Texts of this claim.
-/
import Derived.Test.YtcnjekoidgefpaaGreatDoorGEV
namespace Go.Proofs.YtcnjekoidgefpaaGreatDoor
open Go.RowKit
set_option maxRecDepth 100000 in
theorem cut_ev (s : List UInt8) (n : Nat) (_hs : s.length ≤ maxLen) (_hn : n ≤ 1000) : kZ Tryz.prog 11 [.str s, .i64 n] [] (.str (s.take n)) [] := by
 refine mt (nt := 13) Tryz.func11 rfl rfl rfl <| .r <| .s rfl rfl <| .nil <| .seq <| .r <| .m rfl rfl <| .x (yX Tryz.underlying9 rfl) rfl <| .m rfl rfl <| .x (gZ rfl rfl rfl) rfl <| .nil <| .cond rfl (fun hc8 => ?_) (fun hc8 => ?_)
 ·simp only [decide_eq_true_eq] at hc8
  refine .r <| .m rfl rfl <| .m rfl rfl <| .x (wY Tryz.underlying9 rfl (xZ rfl rfl) (by first | omega | (simp only [AV.len]; omega) | (simp only [AV.len, List.length_set]; omega) | assumption | (simp [AV.len]; done))) rfl <| .s rfl rfl <| .nil <| .ret ?_
  first
   | exact yZ rfl (.inl rfl) rfl (congrArg AV.str (by first | rfl | (rw [List.take_of_length_le (by omega)]))) trivial
   | exact yZ rfl (.inl rfl) rfl rfl trivial
 ·simp only [decide_eq_false_iff_not] at hc8
  refine .skip <| .r <| .m rfl rfl <| .s rfl rfl <| .nil <| .ret ?_
  first
   | exact yZ rfl (.inl rfl) rfl (congrArg AV.str (by first | rfl | (rw [List.take_of_length_le (by omega)]))) trivial
   | exact yZ rfl (.inl rfl) rfl rfl trivial
end Go.Proofs.YtcnjekoidgefpaaGreatDoor
