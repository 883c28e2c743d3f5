/-
  Texts of this claim.
-/
import Derived.Test.YticickigndgpcaaDoorGX4A
import Derived.Test.YticickigndgpcaaDoorGEA
namespace Go.Proofs.YticickigndgpcaaDoor
open Go.RowKit
theorem ba_eq (a b : List UInt8) : ((⟨a.toArray⟩ : ByteArray) == ⟨b.toArray⟩) = decide (a = b) := by
  show (a.toArray == b.toArray) = decide (a = b)
  by_cases h : a = b
  · subst h; simp
  · rw [decide_eq_false h]; simp [h]
theorem run_eqStr (d : Nat) (a b : List UInt8) (w : World) : (Op.equalIn (d + 1) 9 (.string ⟨a.toArray⟩) (.string ⟨b.toArray⟩)).run Tryd.prog w = .ok (decide (a = b)) w := by
  rw [← ba_eq]
  simp [Op.equalIn, run_underlying Tryd.underlying9]
theorem run_eqInt (d : Nat) (a b : Int) (w : World) : (Op.equalIn (d + 1) 3 (.int .i64 a) (.int .i64 b)).run Tryd.prog w = .ok (decide (a = b)) w := by
  simp [Op.equalIn, run_underlying Tryd.underlying3]
  rfl
theorem run_part9 (cs : Array Value) (i : Nat) (v : Value) (hv : cs[i]? = some v) (w : World) : (part 9 cs i).run Tryd.prog w = .ok v w := by
  simp [part, Tryd.isAgg9, hv]
theorem run_part3 (cs : Array Value) (i : Nat) (v : Value) (hv : cs[i]? = some v) (w : World) : (part 3 cs i).run Tryd.prog w = .ok v w := by
  simp [part, Tryd.isAgg3, hv]
theorem ls_ext (x y : Ls) : decide (x = y) = (decide (x.t = y.t) && decide (x.a = y.a) && decide (x.o = y.o) && decide (x.e = y.e) && decide (x.l = y.l)) := by
  cases x; cases y
  simp [Ls.mk.injEq, Bool.decide_and, Bool.and_assoc]
theorem run_eqLsP (d : Nat) (x y : Ls) (w : World) : (Op.equalIn (d + 2) 45 (lsW x) (lsW y)).run Tryd.prog w = .ok (decide (x = y)) w := by
  have hst : Tryd.prog.stoodInHeld 45 = false := by kernel_rfl
  rw [Op.equalIn.eq_def]
  simp only [Sem.run_bind, run_underlying Tryd.underlying45, Result.andThen_ok, lsW]
  rw [ls_ext]
  simp only [show (Sem.run Tryd.prog program w) = .ok Tryd.prog w from rfl, Result.andThen_ok, hst, Bool.false_eq_true, if_false]
  simp [run_part9 x.vs.toArray 0 (.string ⟨x.t.toArray⟩) rfl, run_part9 y.vs.toArray 0 (.string ⟨y.t.toArray⟩) rfl, run_part9 x.vs.toArray 1 (.string ⟨x.a.toArray⟩) rfl, run_part9 y.vs.toArray 1 (.string ⟨y.a.toArray⟩) rfl,
    run_part3 x.vs.toArray 2 (.int .i64 x.o) rfl, run_part3 y.vs.toArray 2 (.int .i64 y.o) rfl, run_part3 x.vs.toArray 3 (.int .i64 x.e) rfl, run_part3 y.vs.toArray 3 (.int .i64 y.e) rfl, run_part3 x.vs.toArray 4 (.int .i64 x.l) rfl, run_part3 y.vs.toArray 4 (.int .i64 y.l) rfl, run_eqStr, run_eqInt]
  by_cases h1 : x.t = y.t <;> by_cases h2 : x.a = y.a <;> by_cases h3 : x.o = y.o <;> by_cases h4 : x.e = y.e <;> by_cases h5 : x.l = y.l <;> simp [h1, h2, h3, h4, h5]
theorem op_eqlLsP {T : Nat → Option AV} {H : Hp} {nm : Nat} {wr : Bool} {d : Option Tmp} {ty t' : TypeId} {ps : String} {af : Array Edge} {gd : Option (Nat × Bool)} {x y : Operand} {p q : Ls} (hx : aev T x = some (lsV p)) (hy : aev T y = some (lsV q)) :
    OpSem Tryd.prog T H ⟨d, .binOp .eql 45 x y t', ty, ps, af, gd⟩ nm wr (.bool (decide (p = q))) [] :=
  op_bin hx hy fun E y1 y2 w h1 h2 => by
    rw [ls_val p E _ h1, ls_val q E _ h2]
    exact ⟨.bool _, eq_of_run (by kernel_rfl) (run_eqLsP 9998 p q w), .bool _⟩
end Go.Proofs.YticickigndgpcaaDoor
namespace Go.Proofs.YticickigndgpcaaDoor
open Go.RowKit
set_option maxRecDepth 100000 in
theorem cut_ev (s : List UInt8) (n : Nat) (hs : s.length ≤ maxLen) (hn : n ≤ 1000) : Meets Tryd.prog 8 [.str s, .i64 n] [] (.str (s.take n)) [] := by
 refine meets_of_ev (nt := 13) Tryd.func8 rfl rfl (Nat.le_of_ble_eq_true rfl) ?_
 refine .seq ?_
 refine .region ?_
 refine .q (op_assign rfl) trivial rfl ?_
 refine .nil ?_
 show Ev _ _ _ _ _
 refine .seq ?_
 refine .seq ?_
 refine .region ?_
 refine .q (op_move rfl) trivial rfl ?_
 refine .q (op_len_str Tryd.underlying9 rfl) trivial rfl ?_
 refine .q (op_move rfl) trivial rfl ?_
 refine .q (op_cmpI rfl rfl rfl) trivial rfl ?_
 refine .nil ?_
 show Ev _ _ _ _ _
 refine .cond rfl (fun hc8 => ?_) (fun hc8 => ?_)
 ·simp only [decide_eq_true_eq, decide_eq_false_iff_not, beq_iff_eq, bne_iff_ne, ne_eq, beq_eq_false_iff_ne, bne_eq_false_iff_eq] at hc8
  refine .seq ?_
  refine .region ?_
  refine .q (op_move rfl) trivial rfl ?_
  refine .q (op_move rfl) trivial rfl ?_
  refine .q (ap_slice_str_hi Tryd.underlying9 rfl (bnd_some rfl rfl) (by first | omega | (simp only [AV.len]; omega) | (simp only [AV.len, List.length_set]; omega) | assumption | (simp [AV.len]; done))) trivial rfl ?_
  refine .q (op_assign rfl) trivial rfl ?_
  refine .nil ?_
  show Ev _ _ _ _ _
  refine .ret ?_
  show RetOk _ _ _ _ _ _ _
  first
   | exact ret1v rfl (.inl rfl) rfl (congrArg AV.str (by first | rfl | (rw [List.take_of_length_le (by omega)]))) trivial
   | exact ret1v rfl (.inl rfl) rfl rfl trivial
 ·simp only [decide_eq_true_eq, decide_eq_false_iff_not, beq_iff_eq, bne_iff_ne, ne_eq, beq_eq_false_iff_ne, bne_eq_false_iff_eq] at hc8
  refine .skip ?_
  show Ev _ _ _ _ _
  refine .seq ?_
  refine .region ?_
  refine .q (op_move rfl) trivial rfl ?_
  refine .q (op_assign rfl) trivial rfl ?_
  refine .nil ?_
  show Ev _ _ _ _ _
  refine .ret ?_
  show RetOk _ _ _ _ _ _ _
  first
   | exact ret1v rfl (.inl rfl) rfl (congrArg AV.str (by first | rfl | (rw [List.take_of_length_le (by omega)]))) trivial
   | exact ret1v rfl (.inl rfl) rfl rfl trivial
end Go.Proofs.YticickigndgpcaaDoor
