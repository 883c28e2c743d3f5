/-
  Texts of this claim.
-/
import Derived.Test.YtpmambceojbkaaaDoorGX4S
import Derived.Test.YtpmambceojbkaaaDoorGES
namespace Go.Proofs.YtpmambceojbkaaaDoor
open Go.RowKit
theorem ba_eq (a b : List UInt8) : ((⟨a.toArray⟩ : ByteArray) == ⟨b.toArray⟩) = decide (a = b) := by
  show (a.toArray == b.toArray) = decide (a = b)
  by_cases h : a = b
  · subst h; simp
  · rw [decide_eq_false h]; simp [h]
theorem run_eqStr (d : Nat) (a b : List UInt8) (w : World) : (Op.equalIn (d + 1) 9 (.string ⟨a.toArray⟩) (.string ⟨b.toArray⟩)).run Tryd.prog w = .ok (decide (a = b)) w := by
  rw [← ba_eq]
  simp [Op.equalIn, run_underlying Tryd.underlying9]
theorem run_eqInt (d : Nat) (a b : Int) (w : World) : (Op.equalIn (d + 1) 3 (.int .i64 a) (.int .i64 b)).run Tryd.prog w = .ok (decide (a = b)) w := by
  simp [Op.equalIn, run_underlying Tryd.underlying3]
  rfl
theorem run_part9 (cs : Array Value) (i : Nat) (v : Value) (hv : cs[i]? = some v) (w : World) : (part 9 cs i).run Tryd.prog w = .ok v w := by
  simp [part, Tryd.isAgg9, hv]
theorem run_part3 (cs : Array Value) (i : Nat) (v : Value) (hv : cs[i]? = some v) (w : World) : (part 3 cs i).run Tryd.prog w = .ok v w := by
  simp [part, Tryd.isAgg3, hv]
theorem ls_ext (x y : Ls) : decide (x = y) = (decide (x.t = y.t) && decide (x.a = y.a) && decide (x.o = y.o) && decide (x.e = y.e) && decide (x.l = y.l)) := by
  cases x; cases y
  simp [Ls.mk.injEq, Bool.decide_and, Bool.and_assoc]
theorem run_eqLsP (d : Nat) (x y : Ls) (w : World) : (Op.equalIn (d + 2) 45 (lsW x) (lsW y)).run Tryd.prog w = .ok (decide (x = y)) w := by
  have hst : Tryd.prog.stoodInHeld 45 = false := by kernel_rfl
  rw [Op.equalIn.eq_def]
  simp only [Sem.run_bind, run_underlying Tryd.underlying45, Result.andThen_ok, lsW]
  rw [ls_ext]
  simp only [show (Sem.run Tryd.prog program w) = .ok Tryd.prog w from rfl, Result.andThen_ok, hst, Bool.false_eq_true, if_false]
  simp [run_part9 x.vs.toArray 0 (.string ⟨x.t.toArray⟩) rfl, run_part9 y.vs.toArray 0 (.string ⟨y.t.toArray⟩) rfl, run_part9 x.vs.toArray 1 (.string ⟨x.a.toArray⟩) rfl, run_part9 y.vs.toArray 1 (.string ⟨y.a.toArray⟩) rfl,
    run_part3 x.vs.toArray 2 (.int .i64 x.o) rfl, run_part3 y.vs.toArray 2 (.int .i64 y.o) rfl, run_part3 x.vs.toArray 3 (.int .i64 x.e) rfl, run_part3 y.vs.toArray 3 (.int .i64 y.e) rfl, run_part3 x.vs.toArray 4 (.int .i64 x.l) rfl, run_part3 y.vs.toArray 4 (.int .i64 y.l) rfl, run_eqStr, run_eqInt]
  by_cases h1 : x.t = y.t <;> by_cases h2 : x.a = y.a <;> by_cases h3 : x.o = y.o <;> by_cases h4 : x.e = y.e <;> by_cases h5 : x.l = y.l <;> simp [h1, h2, h3, h4, h5]
theorem op_eqlLsP {T : Nat → Option AV} {H : Hp} {nm : Nat} {wr : Bool} {d : Option Tmp} {ty t' : TypeId} {ps : String} {af : Array Edge} {gd : Option (Nat × Bool)} {x y : Operand} {p q : Ls} (hx : aev T x = some (lsV p)) (hy : aev T y = some (lsV q)) :
    OpSem Tryd.prog T H ⟨d, .binOp .eql 45 x y t', ty, ps, af, gd⟩ nm wr (.bool (decide (p = q))) [] :=
  op_bin hx hy fun E y1 y2 w h1 h2 => by
    rw [ls_val p E _ h1, ls_val q E _ h2]
    exact ⟨.bool _, eq_of_run (by kernel_rfl) (run_eqLsP 9998 p q w), .bool _⟩
theorem run_eqLsR (d : Nat) (x y : Ls) (w : World) : (Op.equalIn (d + 2) 70 (lsW x) (lsW y)).run Tryd.prog w = .ok (decide (x = y)) w := by
  have hst : Tryd.prog.stoodInHeld 70 = false := by kernel_rfl
  rw [Op.equalIn.eq_def]
  simp only [Sem.run_bind, run_underlying Tryd.underlying70, Result.andThen_ok, lsW]
  rw [ls_ext]
  simp only [show (Sem.run Tryd.prog program w) = .ok Tryd.prog w from rfl, Result.andThen_ok, hst, Bool.false_eq_true, if_false]
  simp [run_part9 x.vs.toArray 0 (.string ⟨x.t.toArray⟩) rfl, run_part9 y.vs.toArray 0 (.string ⟨y.t.toArray⟩) rfl, run_part9 x.vs.toArray 1 (.string ⟨x.a.toArray⟩) rfl, run_part9 y.vs.toArray 1 (.string ⟨y.a.toArray⟩) rfl,
    run_part3 x.vs.toArray 2 (.int .i64 x.o) rfl, run_part3 y.vs.toArray 2 (.int .i64 y.o) rfl, run_part3 x.vs.toArray 3 (.int .i64 x.e) rfl, run_part3 y.vs.toArray 3 (.int .i64 y.e) rfl, run_part3 x.vs.toArray 4 (.int .i64 x.l) rfl, run_part3 y.vs.toArray 4 (.int .i64 y.l) rfl, run_eqStr, run_eqInt]
  by_cases h1 : x.t = y.t <;> by_cases h2 : x.a = y.a <;> by_cases h3 : x.o = y.o <;> by_cases h4 : x.e = y.e <;> by_cases h5 : x.l = y.l <;> simp [h1, h2, h3, h4, h5]
theorem op_eqlLsR {T : Nat → Option AV} {H : Hp} {nm : Nat} {wr : Bool} {d : Option Tmp} {ty t' : TypeId} {ps : String} {af : Array Edge} {gd : Option (Nat × Bool)} {x y : Operand} {p q : Ls} (hx : aev T x = some (lsV p)) (hy : aev T y = some (lsV q)) :
    OpSem Tryd.prog T H ⟨d, .binOp .eql 70 x y t', ty, ps, af, gd⟩ nm wr (.bool (decide (p = q))) [] :=
  op_bin hx hy fun E y1 y2 w h1 h2 => by
    rw [ls_val p E _ h1, ls_val q E _ h2]
    exact ⟨.bool _, eq_of_run (by kernel_rfl) (run_eqLsR 9998 p q w), .bool _⟩
theorem op_neqLsR {T : Nat → Option AV} {H : Hp} {nm : Nat} {wr : Bool} {d : Option Tmp} {ty t' : TypeId} {ps : String} {af : Array Edge} {gd : Option (Nat × Bool)} {x y : Operand} {p q : Ls} (hx : aev T x = some (lsV p)) (hy : aev T y = some (lsV q)) :
    OpSem Tryd.prog T H ⟨d, .binOp .neq 70 x y t', ty, ps, af, gd⟩ nm wr (.bool (!decide (p = q))) [] :=
  op_bin hx hy fun E y1 y2 w h1 h2 => by
    rw [ls_val p E _ h1, ls_val q E _ h2]
    exact ⟨.bool _, neq_of_run (by kernel_rfl) (run_eqLsR 9998 p q w), .bool _⟩
theorem take_eq {A B : List Ls} {i : Nat} (hi : i < B.length) (hl : A.length = B.length) (h : A.take i = B.take i) (e : A.getD i default = B.getD i default) : A.take (i + 1) = B.take (i + 1) := by
  rw [take_snoc (by omega), take_snoc hi, h, e]
set_option maxRecDepth 100000 in
theorem same_ev (A B : List Ls) (hA : A.length ≤ 4096) (hB : B.length ≤ 4096)  : Meets Tryd.prog 15 [.fsl (lsC A) A.length 5, .fsl (lsC B) B.length 5] [] (.bool (decide (A = B))) [] := by
 refine meets_of_ev (nt := 26) Tryd.func15 rfl rfl (Nat.le_of_ble_eq_true rfl) ?_
 refine .seq ?_
 refine .region ?_
 refine .q (op_assign rfl) trivial rfl ?_
 refine .nil ?_
 show Ev _ _ _ _ _
 refine .seq ?_
 refine .seq ?_
 refine .region ?_
 refine .q (op_move rfl) trivial rfl ?_
 refine .q (op_len_fsl Tryd.underlying39 rfl) trivial rfl ?_
 refine .q (op_move rfl) trivial rfl ?_
 refine .q (op_len_fsl Tryd.underlying30 rfl) trivial rfl ?_
 refine .q (op_cmpI rfl rfl rfl) trivial rfl ?_
 refine .nil ?_
 show Ev _ _ _ _ _
 refine .cond rfl (fun hc10 => ?_) (fun hc10 => ?_)
 ·skip
  refine .seq ?_
  refine .region ?_
  refine .q (op_assign rfl) trivial rfl ?_
  refine .nil ?_
  show Ev _ _ _ _ _
  refine .ret ?_
  show RetOk _ _ _ _ _ _ _
  exact ret1v rfl (.inl rfl) rfl (congrArg AV.bool (by first | exact (decide_eq_false fun e => absurd (show ((A.length : Int) != (B.length : Int)) = true from hc10) (by rw [e]; simp)).symm | exact (decide_eq_false fun e => absurd (show (!decide (A.getD i default = B.getD i default)) = true from hc24) (by rw [e]; simp)).symm | exact (decide_eq_true (by have h := of_decide_eq_false hc14; rwa [List.take_of_length_le (by omega), List.take_of_length_le (by omega)] at hv)).symm)) trivial
 ·skip
  refine .skip ?_
  show Ev _ _ _ _ _
  refine .seq ?_
  refine .seq ?_
  refine .region ?_
  refine .q (op_move rfl) trivial rfl ?_
  refine .q (op_len_fsl Tryd.underlying30 rfl) trivial rfl ?_
  refine .q (op_move rfl) trivial rfl ?_
  refine .nil ?_
  show Ev _ _ _ _ _
  refine .block ?_
  have hln : A.length = B.length := by have h := hc10; simp at h; omega
  refine Ev.loop (ι := { i : Nat // i ≤ B.length ∧ A.take i = B.take i }) (fun q => ⟨[(0, .fsl (lsC A) A.length 5), (1, .fsl (lsC B) B.length 5), (12, .i64 ((B.length : Nat) : Int)), (13, .i64 ((q.1 : Nat) : Int))], [], 1000⟩) (fun q => B.length - q.1) ⟨0, Nat.zero_le _, rfl⟩ (StLe.mk [] rfl rfl ⟨⟨_, rfl, by first | rfl | (simp only [AV.ren]; congr 1; omega), rfl⟩, ⟨_, rfl, by first | rfl | (simp only [AV.ren]; congr 1; omega), rfl⟩, ⟨_, rfl, by first | rfl | (simp only [AV.ren]; congr 1; omega), rfl⟩, ⟨_, rfl, by first | rfl | (simp only [AV.ren]; congr 1; omega), rfl⟩, trivial⟩ trivial) ?_
  rintro ⟨i, hi0, hv⟩
  dsimp only
  refine .seq ?_
  refine .region ?_
  refine .q (op_cmpI rfl rfl rfl) trivial rfl ?_
  refine .nil ?_
  show Ev _ _ _ _ _
  refine .seq ?_
  refine .cond rfl (fun hc14 => ?_) (fun hc14 => ?_)
  ·skip
   refine .skip ?_
   show Ev _ _ _ _ _
   refine .seq ?_
   refine .block ?_
   refine .seq ?_
   refine .region ?_
   have hi : i < B.length := by have := of_decide_eq_true hc14; omega
   have hiA : i < A.length := by omega
   refine .q (op_move rfl) trivial rfl ?_
   refine .q (op_assign rfl) trivial rfl ?_
   refine .nil ?_
   show Ev _ _ _ _ _
   refine .seq ?_
   refine .drawn [[], [], [0, 1], [0, 1, 2], [], [], [4, 5], [4, 5, 6], [0, 1, 2, 3, 4, 5, 6, 7]] [3, 7] [] (by kernel_rfl) (by kernel_rfl) rfl ?_
   show DK _ [0, 1, 2, 3, 4, 5, 6, 7, 8] _ _ _
   refine .q rfl (op_move rfl) trivial ?_
   refine .q rfl (op_move rfl) trivial ?_
   refine .q rfl (op_indexAddr_fsl Tryd.underlying39 infLease.sz (by decide) rfl rfl (i := i) rfl (hiA)) trivial ?_
   refine .q rfl (op_loadRow_fptr (v := lsV (A.getD i default)) Tryd.underlying45 rfl infLease.sz rfl rfl (ls_take (hiA)) rfl) trivial ?_
   refine .q rfl (op_move rfl) trivial ?_
   refine .q rfl (op_move rfl) trivial ?_
   refine .q rfl (op_indexAddr_fsl Tryd.underlying30 infLeaseR.sz (by decide) rfl rfl (i := i) rfl (hi)) trivial ?_
   refine .q rfl (op_loadRow_fptr (v := lsV (B.getD i default)) Tryd.underlying70 rfl infLeaseR.sz rfl rfl (ls_take (hi)) rfl) trivial ?_
   refine .q rfl (op_neqLsR rfl rfl) trivial ?_
   refine .nil ?_
   show Ev _ _ _ _ _
   refine .cond rfl (fun hc24 => ?_) (fun hc24 => ?_)
   ·skip
    refine .seq ?_
    refine .region ?_
    refine .q (op_assign rfl) trivial rfl ?_
    refine .nil ?_
    show Ev _ _ _ _ _
    refine .ret ?_
    show RetOk _ _ _ _ _ _ _
    exact ret1v rfl (.inl rfl) rfl (congrArg AV.bool (by first | exact (decide_eq_false fun e => absurd (show ((A.length : Int) != (B.length : Int)) = true from hc10) (by rw [e]; simp)).symm | exact (decide_eq_false fun e => absurd (show (!decide (A.getD i default = B.getD i default)) = true from hc24) (by rw [e]; simp)).symm | exact (decide_eq_true (by have h := of_decide_eq_false hc14; rwa [List.take_of_length_le (by omega), List.take_of_length_le (by omega)] at hv)).symm)) trivial
   ·skip
    refine .skip ?_
    show Ev _ _ _ _ _
    refine .region ?_
    refine .q (op_addI rfl rfl ⟨by omega, by omega⟩) trivial rfl ?_
    refine .q (op_move rfl) trivial rfl ?_
    refine .nil ?_
    exact ⟨⟨i + 1, hi, take_eq hi hln hv (by simpa using hc24)⟩, by show _ - (i + 1) < _ - i; omega, StLe.mk [] rfl rfl ⟨⟨_, rfl, by first | rfl | (simp only [AV.ren]; congr 1; omega), rfl⟩, ⟨_, rfl, by first | rfl | (simp only [AV.ren]; congr 1; omega), rfl⟩, ⟨_, rfl, by first | rfl | (simp only [AV.ren]; congr 1; omega), rfl⟩, ⟨_, rfl, by first | rfl | (simp only [AV.ren]; congr 1; omega), rfl⟩, trivial⟩ trivial⟩
  ·skip
   refine .exit ?_
   show Ev _ _ _ _ _
   refine .seq ?_
   refine .region ?_
   refine .q (op_assign rfl) trivial rfl ?_
   refine .nil ?_
   show Ev _ _ _ _ _
   refine .ret ?_
   show RetOk _ _ _ _ _ _ _
   exact ret1v rfl (.inl rfl) rfl (congrArg AV.bool (by first | exact (decide_eq_false fun e => absurd (show ((A.length : Int) != (B.length : Int)) = true from hc10) (by rw [e]; simp)).symm | exact (decide_eq_false fun e => absurd (show (!decide (A.getD i default = B.getD i default)) = true from hc24) (by rw [e]; simp)).symm | exact (decide_eq_true (by have h := of_decide_eq_false hc14; rwa [List.take_of_length_le (by omega), List.take_of_length_le (by omega)] at hv)).symm)) trivial
end Go.Proofs.YtpmambceojbkaaaDoor
namespace Go.Proofs.YtpmambceojbkaaaDoor
open Go.RowKit
set_option maxRecDepth 100000 in
theorem cut_ev (s : List UInt8) (n : Nat) (hs : s.length ≤ maxLen) (hn : n ≤ 1000) : Meets Tryd.prog 8 [.str s, .i64 n] [] (.str (s.take n)) [] := by
 refine meets_of_ev (nt := 13) Tryd.func8 rfl rfl (Nat.le_of_ble_eq_true rfl) ?_
 refine .seq ?_
 refine .region ?_
 refine .q (op_assign rfl) trivial rfl ?_
 refine .nil ?_
 show Ev _ _ _ _ _
 refine .seq ?_
 refine .seq ?_
 refine .region ?_
 refine .q (op_move rfl) trivial rfl ?_
 refine .q (op_len_str Tryd.underlying9 rfl) trivial rfl ?_
 refine .q (op_move rfl) trivial rfl ?_
 refine .q (op_cmpI rfl rfl rfl) trivial rfl ?_
 refine .nil ?_
 show Ev _ _ _ _ _
 refine .cond rfl (fun hc8 => ?_) (fun hc8 => ?_)
 ·simp only [decide_eq_true_eq, decide_eq_false_iff_not, beq_iff_eq, bne_iff_ne, ne_eq, beq_eq_false_iff_ne, bne_eq_false_iff_eq] at hc8
  refine .seq ?_
  refine .region ?_
  refine .q (op_move rfl) trivial rfl ?_
  refine .q (op_move rfl) trivial rfl ?_
  refine .q (ap_slice_str_hi Tryd.underlying9 rfl (bnd_some rfl rfl) (by first | omega | (simp only [AV.len]; omega) | (simp only [AV.len, List.length_set]; omega) | assumption | (simp [AV.len]; done))) trivial rfl ?_
  refine .q (op_assign rfl) trivial rfl ?_
  refine .nil ?_
  show Ev _ _ _ _ _
  refine .ret ?_
  show RetOk _ _ _ _ _ _ _
  first
   | exact ret1v rfl (.inl rfl) rfl (congrArg AV.str (by first | rfl | (rw [List.take_of_length_le (by omega)]))) trivial
   | exact ret1v rfl (.inl rfl) rfl rfl trivial
 ·simp only [decide_eq_true_eq, decide_eq_false_iff_not, beq_iff_eq, bne_iff_ne, ne_eq, beq_eq_false_iff_ne, bne_eq_false_iff_eq] at hc8
  refine .skip ?_
  show Ev _ _ _ _ _
  refine .seq ?_
  refine .region ?_
  refine .q (op_move rfl) trivial rfl ?_
  refine .q (op_assign rfl) trivial rfl ?_
  refine .nil ?_
  show Ev _ _ _ _ _
  refine .ret ?_
  show RetOk _ _ _ _ _ _ _
  first
   | exact ret1v rfl (.inl rfl) rfl (congrArg AV.str (by first | rfl | (rw [List.take_of_length_le (by omega)]))) trivial
   | exact ret1v rfl (.inl rfl) rfl rfl trivial
end Go.Proofs.YtpmambceojbkaaaDoor
