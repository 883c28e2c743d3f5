/-
  Texts of this claim.
-/
import Derived.Test.YtcnjekoidgefpaaGreatDoorGEV
namespace Go.Proofs.YtcnjekoidgefpaaGreatDoor
open Go.RowKit
section
variable {P : Program} {T : Nat → Option AV} {H : Hp} {nm : Nat} {wr : Bool} {d : Option Tmp} {ty : TypeId} {ps : String} {af : Array Edge} {gd : Option (Nat × Bool)}
theorem eU {t el : TypeId} {x : Operand} {b o n N : Nat} (hu : P.underlying t = some (.array N el)) (hx : aev T x = some (.sl b o n 1)) (h0 : 0 < n) (hn : N ≤ n) : zZ P T H ⟨d, .sliceToArrayPointer t x, ty, ps, af, gd⟩ nm wr (.ptr b o) [] :=
  .quiet fun E a w h => by
    rcases (h x mem1 _ hx).sl_inv with ⟨l, s, c, q1, q2, q3, q4, q5⟩ | ⟨ad, q1, q2⟩
    · exact ⟨.pointer (some ⟨l, o, none⟩), by simp [execOp, q5, Instr.arrayAt, run_underlying hu, Nat.not_lt.2 hn], .ptr _ _ _ _ q1⟩
    · omega
theorem bR {t : TypeId} {dd : TypeDesc} {x : Operand} {b o m e : Nat} {l : List UInt8} {ow : Bool} (hu : P.underlying t = some dd) (hna : (match dd with | .struct _ | .array _ _ => true | _ => false) = true) (hz : (P.info? t).map (·.size) = some m) (hx : aev T x = some (.ptr b o)) (hk : H b = some ⟨.aggB l, e, ow⟩) (hlt : o + m ≤ l.length) :
    zZ P T H ⟨d, .load t x, ty, ps, af, gd⟩ nm wr (.aggB ((l.drop o).take m)) [] :=
  tZ (cs := ((l.drop o).take m).map AV.u8) hu hna hz hx hk rfl (by simp; omega) (by simp [AV.list, AV.parts, List.map_drop, List.map_take]) hlt
end
end Go.Proofs.YtcnjekoidgefpaaGreatDoor
