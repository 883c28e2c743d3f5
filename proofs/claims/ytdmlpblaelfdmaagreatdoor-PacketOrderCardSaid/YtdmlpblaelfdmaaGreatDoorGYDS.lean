/-
  Texts of this claim.
-/
import Derived.Test.YtdmlpblaelfdmaaGreatDoorGDCS
import Derived.Test.YtdmlpblaelfdmaaGreatDoorGK7S
namespace Go.Proofs.YtdmlpblaelfdmaaGreatDoor
open Go.RowKit
theorem first_size {b : Bool} {key : List UInt8} {n : UInt64} {s : List UInt8} (h : (firstP b key n s).2.2 = 0) : (firstP b key n s).2.1 ≤ s.length := by
  have _ := h
  unfold firstP at h ⊢
  split
  · exact Nat.zero_le _
  · rename_i h4
    rw [if_neg h4] at h
    split
    · exact Nat.zero_le _
    · rename_i hb
      rw [if_neg hb] at h
      split
      · exact Nat.zero_le _
      · rename_i hs
        rw [if_neg hs] at h
        split
        · exact Nat.zero_le _
        · show sizeP b s ≤ s.length; omega
theorem rd_next (b : Bool) (key : List UInt8) (n q len f nb : Nat) (E : AV) : dC b key (ofI64 ((n : Nat) : Int) + 1) [.sl nb (q + f) (len - q - f) 1, E] = dC b key (ofI64 ((n + 1 : Nat) : Int)) [.sl nb (q + f) (len - (q + f)) 1, E] := by rw [ofI64_succ, Nat.sub_sub]
/-- Where the law's loop stands: how many packets were read, and how many bytes. -/
structure RI (l : List UInt8) where
  n : Nat
  q : Nat
  hn : n ≤ 30
  hq : q ≤ l.length
theorem drop_rest (l : List UInt8) (q f : Nat) : (l.drop q).drop f = l.drop (q + f) := by rw [List.drop_drop]
set_option maxRecDepth 100000 in
theorem pfeed_e (b : Bool) (key : List UInt8) (n : UInt64) (eo : Nat → Nat × Nat) : Meets Tryz.prog 19 [.ptr 500 0, .str []] [(500, some ⟨dC b key n [.nilsl, .err 269 (0) (offE eo (0))], 44, true⟩)] (.tup []) [(500, some ⟨dC b key n [.nilsl, .err 269 (0) (offE eo (0))], 44, true⟩)] := by
 refine meets_of_ev (nt := 18) Tryz.func19 rfl rfl (Nat.le_of_ble_eq_true rfl) ?_
 refine .seq ?_
 refine .region ?_
 refine .q (op_move rfl) trivial rfl ?_
 refine .q (op_nilCheck rfl) trivial rfl ?_
 refine .q (op_fieldAddr (m := 0) Tryz.underlying44 rfl (by kernel_rfl) rfl) trivial rfl ?_
 refine .as (.ptr 500 35) rfl ?_
 refine .q (op_load Tryz.underlying36 rfl rfl rfl rfl (dC_ltt (i := 1) (by simp))) trivial rfl ?_
 refine .q (op_eqErrNil (e := 0) Tryz.underlying36 rfl rfl) trivial rfl ?_
 refine .nil ?_
 show Ev _ _ _ _ _
 refine .cond_true rfl (rfl) ?_
 refine .region ?_
 refine .q (op_move rfl) trivial rfl ?_
 refine .q (op_move rfl) trivial rfl ?_
 refine .q (op_nilCheck rfl) trivial rfl ?_
 refine .q (op_fieldAddr (m := 0) Tryz.underlying44 rfl (by kernel_rfl) rfl) trivial rfl ?_
 refine .as (.ptr 500 34) rfl ?_
 refine .q (op_load Tryz.underlying33 rfl rfl rfl rfl (dC_ltt (i := 0) (by simp))) trivial rfl ?_
 refine .q (op_move rfl) trivial rfl ?_
 refine .q (op_catS_nil0 Tryz.underlying33 inf5 Tryz.underlying9 rfl rfl) trivial rfl ?_
 refine .q (op_nilCheck rfl) trivial rfl ?_
 refine .q (op_fieldAddr (m := 0) Tryz.underlying44 rfl (by kernel_rfl) rfl) trivial rfl ?_
 refine .as (.ptr 500 34) rfl ?_
 refine .w (op_store (c' := dC b key n [.nilsl, .err 269 (0) (offE eo (0))]) rfl rfl rfl rfl rfl rfl (dC_ltt (i := 0) (by simp))) trivial rfl ?_
 refine .nil ?_
 show RetOk _ _ _ _ _ _ _
 exact ret0 rfl (.inr rfl) ⟨rfl, trivial⟩
end Go.Proofs.YtdmlpblaelfdmaaGreatDoor
