/-
  Texts of this claim.
-/
import Derived.WalkKit
import Derived.LaidEql
import Derived.Stop.Asserts
import Derived.RowKitTokens
import Derived.Test.YtpmoonglbcglaaaDoorGWE
import Derived.Test.YtpmoonglbcglaaaDoorGW6
namespace Go.Proofs.YtpmoonglbcglaaaDoor
open Go.RowKit Go.Extern.Stop Go.Stop Go.Extern
theorem isTypeOf (v : Value) (w : World) : (Extern.ReflectliteType.typeOf #[.iface 79 v]).run Tryd.prog w = .ok (.iface 69 (.agg #[.pointer (some ⟨21, 79, none⟩)])) w := by kernel_rfl
/-- Comparable of a type. -/
def isCmp : Array Value → Sem Value := Extern.ReflectliteType.method fun t => do _root_.Go.Extern.Rtype.noPackHeld "Comparable" t; pure (.bool (← typeInfo t).comparable)
theorem isComparable (w : World) : (isCmp #[.agg #[.pointer (some ⟨21, 79, none⟩)]]).run Tryd.prog w = .ok (.bool true) w := by kernel_rfl
theorem isMethodComparable (v : Value) (w : World) : (Go.method 216 69 v "Comparable").run Tryd.prog w = .ok (49, v) w := by kernel_rfl
theorem isComp : (Tryd.prog.info? 79).map (·.comparable) = some true := by kernel_rfl
theorem isSize : (Tryd.prog.info? 104).map (·.size) = some 1 := by kernel_rfl
theorem noIsE (v : Value) (xT : TypeId) (w : World) : (Instr.typeAssert (.iface 79 v) xT 71 true).run Tryd.prog w = .ok (.tuple #[.nilIface, .bool false]) w := run_typeAssert_lacksB Tryd.underlying71 (by kernel_rfl) (by kernel_rfl) v xT w
theorem noUnwrapE (v : Value) (xT : TypeId) (w : World) : (Instr.typeAssert (.iface 79 v) xT 74 true).run Tryd.prog w = .ok (.tuple #[.nilIface, .bool false]) w := run_typeAssert_lacksB Tryd.underlying74 (by kernel_rfl) (by kernel_rfl) v xT w
theorem noUnwrapsE (v : Value) (xT : TypeId) (w : World) : (Instr.typeAssert (.iface 79 v) xT 76 true).run Tryd.prog w = .ok (.tuple #[.nilIface, .bool false]) w := run_typeAssert_lacksB Tryd.underlying76 (by kernel_rfl) (by kernel_rfl) v xT w
/-- errors.Is(x, x), x a pointer to an errors.errorString. -/
theorem is_same (a : Addr) (w : World) :
    Calls Tryd.prog 20 #[.iface 79 (.pointer (some a)), .iface 79 (.pointer (some a))] w fun e w' => e = .returned (.bool true) ∧ w' = w := by
  obtain ⟨i, hi, hcmp⟩ := Option.map_eq_some_iff.1 isComp
  obtain ⟨j, hj, hjs⟩ := Option.map_eq_some_iff.1 isSize
  have h8 := @run_callFunc_extern Tryd.prog 25 _ Extern.ReflectliteType.typeOf Tryd.func25 (by kernel_rfl) (by kernel_rfl) (by kernel_rfl) (by kernel_rfl)
  have h32 := @run_callFunc_extern Tryd.prog 49 _ isCmp Tryd.func49 (by kernel_rfl) (by kernel_rfl) (by kernel_rfl) (by kernel_rfl)
  have tT := isTypeOf
  have cT := isComparable
  have mR := isMethodComparable
  have heq := run_eql_iface_ptr_same (P := Tryd.prog) w a Tryd.underlying31 Tryd.underlying79 hi hcmp hj
  go_enter Tryd.func20, Tryd.ntmps20
  go_wp2
  refine wp_loop_rounds 1 ?_
  rw [rounds_succ]
  go_wp2
  go_ret
  exact ⟨rfl, rfl⟩
/-- errors.Is(x, y), two different pointers to errors.errorString: neither has Is nor Unwrap: false. -/
theorem is_other (a b : Addr) (ca cb : Array Value) (ta tb : TypeId) (w : World) (hne : a ≠ b) (ha : w.heap[a.block]? = some (.cells ca ta (0, 0))) (hb : w.heap[b.block]? = some (.cells cb tb (0, 0))) :
    Calls Tryd.prog 20 #[.iface 79 (.pointer (some a)), .iface 79 (.pointer (some b))] w fun e w' => e = .returned (.bool false) ∧ w' = w := by
  obtain ⟨i, hi, hcmp⟩ := Option.map_eq_some_iff.1 isComp
  obtain ⟨j, hj, hjs⟩ := Option.map_eq_some_iff.1 isSize
  have h8 := @run_callFunc_extern Tryd.prog 25 _ Extern.ReflectliteType.typeOf Tryd.func25 (by kernel_rfl) (by kernel_rfl) (by kernel_rfl) (by kernel_rfl)
  have h32 := @run_callFunc_extern Tryd.prog 49 _ isCmp Tryd.func49 (by kernel_rfl) (by kernel_rfl) (by kernel_rfl) (by kernel_rfl)
  have tT := isTypeOf
  have cT := isComparable
  have mR := isMethodComparable
  have nE := noIsE
  have uE := noUnwrapE
  have vE := noUnwrapsE
  have heq := run_eql_iface_ptr_other (P := Tryd.prog) w Tryd.underlying31 Tryd.underlying79 hi hcmp hj (by rw [hjs]; decide) hne ha hb
  go_enter Tryd.func20, Tryd.ntmps20
  go_wp2
  refine wp_loop_rounds 1 ?_
  rw [rounds_succ]
  go_wp2
  go_ret
  exact ⟨rfl, rfl⟩
end Go.Proofs.YtpmoonglbcglaaaDoor
namespace Go.Proofs.YtpmoonglbcglaaaDoor
open Go.RowKit
theorem below_of {w w' : World} (h : w' = w) : BelowD w w' := .of_eq h
theorem is_same_ev (n : Nat) (o : Nat × Nat) : Meets Tryd.prog 20 [.err 79 (n + 1) o, .err 79 (n + 1) o] [] (.bool true) [] :=
  meets_of_walk fun E S vals w hg hl hr hR => by
    obtain ⟨x, y, rfl, hx, hy⟩ := args2 hl hr
    rcases hx.err_inv with ⟨h, _⟩ | ⟨k, s, _, _, _, rfl⟩
    · cases h
    rcases hy.err_inv with ⟨h, _⟩ | ⟨k2, s2, _, _, _, rfl⟩
    · cases h
    exact (is_same ⟨o.1, o.2, none⟩ w).mono fun e w' hh => ⟨_, hh.1, .bool _, below_of hh.2⟩
theorem is_other_ev (n m : Nat) (o o' : Nat × Nat) (hne : o ≠ o') : Meets Tryd.prog 20 [.err 79 (n + 1) o, .err 79 (m + 1) o'] [(401 + n, some ⟨.agg [], errT, false⟩), (401 + m, some ⟨.agg [], errT, false⟩)] (.bool false) [] :=
  meets_of_walk fun E S vals w hg hl hr hR => by
    obtain ⟨x, y, rfl, hx, hy⟩ := args2 hl hr
    have blk : ∀ b, (b = n ∨ b = m) → hget [(401 + n, some (⟨.agg [], errT, false⟩ : ABlk)), (401 + m, some ⟨.agg [], errT, false⟩)] (401 + b) = some ⟨.agg [], errT, false⟩ := fun b hb => by
      simp only [hget, upd, lk]
      by_cases h1 : b = n
      · subst h1; simp
      · have h2 : b = m := hb.resolve_left h1
        subst h2
        have : Nat.beq (401 + n) (401 + b) = false := by
          cases hq : Nat.beq (401 + n) (401 + b) with
          | false => rfl
          | true => have := Nat.eq_of_beq_eq_true hq; omega
        simp [this]
    rcases hx.err_inv with ⟨h, _⟩ | ⟨k, s, hk, _, hE, rfl⟩
    · cases h
    rcases hy.err_inv with ⟨h, _⟩ | ⟨k2, s2, hk2, _, hE2, rfl⟩
    · cases h
    obtain rfl : k = n := by omega
    obtain rfl : k2 = m := by omega
    obtain ⟨l, q, h1, arr, t, fz, h2, _, h3, _⟩ := hR.blkR (blk k (.inl rfl)) rfl
    obtain ⟨l', q', h1', arr', t', fz', h2', _, h3', _⟩ := hR.blkR (blk k2 (.inr rfl)) rfl
    rw [hE] at h1; injection h1 with h1; injection h1 with h1 _
    rw [hE2] at h1'; injection h1' with h1'; injection h1' with h1' _
    rw [h3.1.z rfl, ← h1] at h2
    rw [h3'.1.z rfl, ← h1'] at h2'
    exact (is_other ⟨o.1, o.2, none⟩ ⟨o'.1, o'.2, none⟩ arr arr' t t' w (fun e => hne (by injection e with e1 e2; exact Prod.ext e1 e2)) h2 h2').mono fun e w' hh => ⟨_, hh.1, .bool _, below_of hh.2⟩
end Go.Proofs.YtpmoonglbcglaaaDoor
namespace Go.Proofs.YtpmoonglbcglaaaDoor
open Go.RowKit
set_option maxRecDepth 100000 in
theorem code_0 (eo : Nat → Nat × Nat) (_hd : ∀ i j, i < 20 → j < 20 → i ≠ j → eo i ≠ eo j) : Meets Tryd.prog 10 [.err 79 (0) (offE eo (0))] [(0, some ⟨.agg [.err 79 (1) (offE eo (1))], errT, false⟩), (1, some ⟨.agg [.err 79 (2) (offE eo (2))], errT, false⟩), (2, some ⟨.agg [.err 79 (3) (offE eo (3))], errT, false⟩), (3, some ⟨.agg [.err 79 (4) (offE eo (4))], errT, false⟩), (4, some ⟨.agg [.err 79 (5) (offE eo (5))], errT, false⟩), (5, some ⟨.agg [.err 79 (6) (offE eo (6))], errT, false⟩), (6, some ⟨.agg [.err 79 (7) (offE eo (7))], errT, false⟩), (7, some ⟨.agg [.err 79 (8) (offE eo (8))], errT, false⟩), (8, some ⟨.agg [.err 79 (9) (offE eo (9))], errT, false⟩), (9, some ⟨.agg [.err 79 (10) (offE eo (10))], errT, false⟩), (10, some ⟨.agg [.err 79 (11) (offE eo (11))], errT, false⟩), (11, some ⟨.agg [.err 79 (12) (offE eo (12))], errT, false⟩), (12, some ⟨.agg [.err 79 (13) (offE eo (13))], errT, false⟩), (13, some ⟨.agg [.err 79 (14) (offE eo (14))], errT, false⟩), (14, some ⟨.agg [.err 79 (15) (offE eo (15))], errT, false⟩), (15, some ⟨.agg [.err 79 (16) (offE eo (16))], errT, false⟩), (16, some ⟨.agg [.err 79 (17) (offE eo (17))], errT, false⟩), (17, some ⟨.agg [.err 79 (18) (offE eo (18))], errT, false⟩), (18, some ⟨.agg [.err 79 (19) (offE eo (19))], errT, false⟩), (19, some ⟨.agg [.err 79 (20) (offE eo (20))], errT, false⟩), (401, some ⟨.agg [], errT, false⟩), (402, some ⟨.agg [], errT, false⟩), (403, some ⟨.agg [], errT, false⟩), (404, some ⟨.agg [], errT, false⟩), (405, some ⟨.agg [], errT, false⟩), (406, some ⟨.agg [], errT, false⟩), (407, some ⟨.agg [], errT, false⟩), (408, some ⟨.agg [], errT, false⟩), (409, some ⟨.agg [], errT, false⟩), (410, some ⟨.agg [], errT, false⟩), (411, some ⟨.agg [], errT, false⟩), (412, some ⟨.agg [], errT, false⟩), (413, some ⟨.agg [], errT, false⟩), (414, some ⟨.agg [], errT, false⟩), (415, some ⟨.agg [], errT, false⟩), (416, some ⟨.agg [], errT, false⟩), (417, some ⟨.agg [], errT, false⟩), (418, some ⟨.agg [], errT, false⟩), (419, some ⟨.agg [], errT, false⟩), (420, some ⟨.agg [], errT, false⟩)] (.i64 0) [] := by
 refine meets_of_ev (nt := 38) Tryd.func10 rfl rfl (Nat.le_of_ble_eq_true rfl) ?_
 refine .seq ?_
 refine .region ?_
 refine .q (op_assign rfl) trivial rfl ?_
 refine .nil ?_
 show Ev _ _ _ _ _
 refine .seq ?_
 refine .seq ?_
 refine .region ?_
 refine .q (op_move rfl) trivial rfl ?_
 refine .q (op_eqErrNil (e := 0) Tryd.underlying31 rfl rfl) trivial rfl ?_
 refine .nil ?_
 show Ev _ _ _ _ _
 refine .cond_true rfl (rfl) ?_
 refine .seq ?_
 refine .region ?_
 refine .q (op_assign rfl) trivial rfl ?_
 refine .nil ?_
 show Ev _ _ _ _ _
 refine .ret ?_
 show RetOk _ _ _ _ _ _ _
 exact ret1v rfl (.inl rfl) rfl rfl trivial
set_option maxRecDepth 100000 in
theorem code_1 (eo : Nat → Nat × Nat) (_hd : ∀ i j, i < 20 → j < 20 → i ≠ j → eo i ≠ eo j) : Meets Tryd.prog 10 [.err 79 (1) (offE eo (1))] [(0, some ⟨.agg [.err 79 (1) (offE eo (1))], errT, false⟩), (1, some ⟨.agg [.err 79 (2) (offE eo (2))], errT, false⟩), (2, some ⟨.agg [.err 79 (3) (offE eo (3))], errT, false⟩), (3, some ⟨.agg [.err 79 (4) (offE eo (4))], errT, false⟩), (4, some ⟨.agg [.err 79 (5) (offE eo (5))], errT, false⟩), (5, some ⟨.agg [.err 79 (6) (offE eo (6))], errT, false⟩), (6, some ⟨.agg [.err 79 (7) (offE eo (7))], errT, false⟩), (7, some ⟨.agg [.err 79 (8) (offE eo (8))], errT, false⟩), (8, some ⟨.agg [.err 79 (9) (offE eo (9))], errT, false⟩), (9, some ⟨.agg [.err 79 (10) (offE eo (10))], errT, false⟩), (10, some ⟨.agg [.err 79 (11) (offE eo (11))], errT, false⟩), (11, some ⟨.agg [.err 79 (12) (offE eo (12))], errT, false⟩), (12, some ⟨.agg [.err 79 (13) (offE eo (13))], errT, false⟩), (13, some ⟨.agg [.err 79 (14) (offE eo (14))], errT, false⟩), (14, some ⟨.agg [.err 79 (15) (offE eo (15))], errT, false⟩), (15, some ⟨.agg [.err 79 (16) (offE eo (16))], errT, false⟩), (16, some ⟨.agg [.err 79 (17) (offE eo (17))], errT, false⟩), (17, some ⟨.agg [.err 79 (18) (offE eo (18))], errT, false⟩), (18, some ⟨.agg [.err 79 (19) (offE eo (19))], errT, false⟩), (19, some ⟨.agg [.err 79 (20) (offE eo (20))], errT, false⟩), (401, some ⟨.agg [], errT, false⟩), (402, some ⟨.agg [], errT, false⟩), (403, some ⟨.agg [], errT, false⟩), (404, some ⟨.agg [], errT, false⟩), (405, some ⟨.agg [], errT, false⟩), (406, some ⟨.agg [], errT, false⟩), (407, some ⟨.agg [], errT, false⟩), (408, some ⟨.agg [], errT, false⟩), (409, some ⟨.agg [], errT, false⟩), (410, some ⟨.agg [], errT, false⟩), (411, some ⟨.agg [], errT, false⟩), (412, some ⟨.agg [], errT, false⟩), (413, some ⟨.agg [], errT, false⟩), (414, some ⟨.agg [], errT, false⟩), (415, some ⟨.agg [], errT, false⟩), (416, some ⟨.agg [], errT, false⟩), (417, some ⟨.agg [], errT, false⟩), (418, some ⟨.agg [], errT, false⟩), (419, some ⟨.agg [], errT, false⟩), (420, some ⟨.agg [], errT, false⟩)] (.i64 1) [] := by
 refine meets_of_ev (nt := 38) Tryd.func10 rfl rfl (Nat.le_of_ble_eq_true rfl) ?_
 refine .seq ?_
 refine .region ?_
 refine .q (op_assign rfl) trivial rfl ?_
 refine .nil ?_
 show Ev _ _ _ _ _
 refine .seq ?_
 refine .seq ?_
 refine .region ?_
 refine .q (op_move rfl) trivial rfl ?_
 refine .q (op_eqErrNil (e := 1) Tryd.underlying31 rfl rfl) trivial rfl ?_
 refine .nil ?_
 show Ev _ _ _ _ _
 refine .cond_false rfl (rfl) ?_
 refine .skip ?_
 show Ev _ _ _ _ _
 refine .seq ?_
 refine .seq ?_
 refine .region ?_
 refine .q (op_load Tryd.underlying31 rfl rfl rfl rfl (by first | omega | (simp only [AV.len]; omega) | (simp only [AV.len]; omega) | assumption | (simp [AV.len]; done))) trivial rfl ?_
 refine .q (op_load Tryd.underlying31 rfl rfl rfl rfl (by first | omega | (simp only [AV.len]; omega) | (simp only [AV.len]; omega) | assumption | (simp [AV.len]; done))) trivial rfl ?_
 refine .q (op_load Tryd.underlying31 rfl rfl rfl rfl (by first | omega | (simp only [AV.len]; omega) | (simp only [AV.len]; omega) | assumption | (simp [AV.len]; done))) trivial rfl ?_
 refine .q (op_load Tryd.underlying31 rfl rfl rfl rfl (by first | omega | (simp only [AV.len]; omega) | (simp only [AV.len]; omega) | assumption | (simp [AV.len]; done))) trivial rfl ?_
 refine .q (op_load Tryd.underlying31 rfl rfl rfl rfl (by first | omega | (simp only [AV.len]; omega) | (simp only [AV.len]; omega) | assumption | (simp [AV.len]; done))) trivial rfl ?_
 refine .q (op_load Tryd.underlying31 rfl rfl rfl rfl (by first | omega | (simp only [AV.len]; omega) | (simp only [AV.len]; omega) | assumption | (simp [AV.len]; done))) trivial rfl ?_
 refine .q (op_load Tryd.underlying31 rfl rfl rfl rfl (by first | omega | (simp only [AV.len]; omega) | (simp only [AV.len]; omega) | assumption | (simp [AV.len]; done))) trivial rfl ?_
 refine .q (op_load Tryd.underlying31 rfl rfl rfl rfl (by first | omega | (simp only [AV.len]; omega) | (simp only [AV.len]; omega) | assumption | (simp [AV.len]; done))) trivial rfl ?_
 refine .q (op_load Tryd.underlying31 rfl rfl rfl rfl (by first | omega | (simp only [AV.len]; omega) | (simp only [AV.len]; omega) | assumption | (simp [AV.len]; done))) trivial rfl ?_
 refine .q (op_load Tryd.underlying31 rfl rfl rfl rfl (by first | omega | (simp only [AV.len]; omega) | (simp only [AV.len]; omega) | assumption | (simp [AV.len]; done))) trivial rfl ?_
 refine .q (op_load Tryd.underlying31 rfl rfl rfl rfl (by first | omega | (simp only [AV.len]; omega) | (simp only [AV.len]; omega) | assumption | (simp [AV.len]; done))) trivial rfl ?_
 refine .q (op_load Tryd.underlying31 rfl rfl rfl rfl (by first | omega | (simp only [AV.len]; omega) | (simp only [AV.len]; omega) | assumption | (simp [AV.len]; done))) trivial rfl ?_
 refine .q (op_load Tryd.underlying31 rfl rfl rfl rfl (by first | omega | (simp only [AV.len]; omega) | (simp only [AV.len]; omega) | assumption | (simp [AV.len]; done))) trivial rfl ?_
 refine .q (op_load Tryd.underlying31 rfl rfl rfl rfl (by first | omega | (simp only [AV.len]; omega) | (simp only [AV.len]; omega) | assumption | (simp [AV.len]; done))) trivial rfl ?_
 refine .q (op_load Tryd.underlying31 rfl rfl rfl rfl (by first | omega | (simp only [AV.len]; omega) | (simp only [AV.len]; omega) | assumption | (simp [AV.len]; done))) trivial rfl ?_
 refine .q (op_load Tryd.underlying31 rfl rfl rfl rfl (by first | omega | (simp only [AV.len]; omega) | (simp only [AV.len]; omega) | assumption | (simp [AV.len]; done))) trivial rfl ?_
 refine .q (op_load Tryd.underlying31 rfl rfl rfl rfl (by first | omega | (simp only [AV.len]; omega) | (simp only [AV.len]; omega) | assumption | (simp [AV.len]; done))) trivial rfl ?_
 refine .q (op_load Tryd.underlying31 rfl rfl rfl rfl (by first | omega | (simp only [AV.len]; omega) | (simp only [AV.len]; omega) | assumption | (simp [AV.len]; done))) trivial rfl ?_
 refine .q (op_load Tryd.underlying31 rfl rfl rfl rfl (by first | omega | (simp only [AV.len]; omega) | (simp only [AV.len]; omega) | assumption | (simp [AV.len]; done))) trivial rfl ?_
 refine .q (op_load Tryd.underlying31 rfl rfl rfl rfl (by first | omega | (simp only [AV.len]; omega) | (simp only [AV.len]; omega) | assumption | (simp [AV.len]; done))) trivial rfl ?_
 refine .q (op_buildFull (zv := .nilIface) (u0 := .err 0 0 (0, 0)) [.err 79 (1) (offE eo (1)), .err 79 (2) (offE eo (2)), .err 79 (3) (offE eo (3)), .err 79 (4) (offE eo (4)), .err 79 (5) (offE eo (5)), .err 79 (6) (offE eo (6)), .err 79 (7) (offE eo (7)), .err 79 (8) (offE eo (8)), .err 79 (9) (offE eo (9)), .err 79 (10) (offE eo (10)), .err 79 (11) (offE eo (11)), .err 79 (12) (offE eo (12)), .err 79 (13) (offE eo (13)), .err 79 (14) (offE eo (14)), .err 79 (15) (offE eo (15)), .err 79 (16) (offE eo (16)), .err 79 (17) (offE eo (17)), .err 79 (18) (offE eo (18)), .err 79 (19) (offE eo (19)), .err 79 (20) (offE eo (20))] Tryd.underlying57 (by kernel_rfl) (by kernel_rfl) (.err0 _ _) rfl ⟨rfl, rfl, rfl, rfl, rfl, rfl, rfl, rfl, rfl, rfl, rfl, rfl, rfl, rfl, rfl, rfl, rfl, rfl, rfl, rfl, rfl, rfl, rfl, rfl, rfl, rfl, rfl, rfl, rfl, rfl, rfl, rfl, rfl, rfl, rfl, rfl, rfl, rfl, rfl, rfl, rfl, rfl, rfl, rfl, rfl, rfl, rfl, rfl, rfl, rfl, rfl, rfl, rfl, rfl, rfl, rfl, rfl, rfl, rfl, rfl, trivial⟩ rfl rfl) trivial rfl ?_
 refine .q (op_move rfl) trivial rfl ?_
 refine .nil ?_
 show Ev _ _ _ _ _
 refine .block ?_
 refine Ev.rounds 1 ?_
 show Ev _ _ _ _ _
 refine .seq ?_
 refine .region ?_
 refine .q (op_cmpI rfl rfl rfl) trivial rfl ?_
 refine .nil ?_
 show Ev _ _ _ _ _
 refine .seq ?_
 refine .cond_true rfl (rfl) ?_
 refine .skip ?_
 show Ev _ _ _ _ _
 refine .seq ?_
 refine .block ?_
 refine .seq ?_
 refine .region ?_
 refine .q (op_move rfl) trivial rfl ?_
 refine .q (op_index_row (i := 0) Tryd.underlying57 Tryd.underlying31 rfl (by kernel_rfl) rfl rfl rfl (show _ = ((0 : Nat) : Int) from rfl) rfl (by show 0 < 20; decide) (by decide)) trivial rfl ?_
 refine .q (op_assign rfl) trivial rfl ?_
 refine .q (op_assign rfl) trivial rfl ?_
 refine .nil ?_
 show Ev _ _ _ _ _
 refine .seq ?_
 refine .region ?_
 refine .q (op_move rfl) trivial rfl ?_
 refine .q (op_move rfl) trivial rfl ?_
 refine .q (op_call (U := []) [] [] (is_same_ev 0 (eo 0)) Tryd.func20 (by kernel_rfl) rfl rfl rfl (⟨⟨_, rfl, rfl, rfl⟩, ⟨_, rfl, rfl, rfl⟩, trivial⟩) (trivial) (trivial) (trivial) rfl) trivial rfl ?_
 refine .nil ?_
 show Ev _ _ _ _ _
 refine .cond_true rfl (rfl) ?_
 refine .seq ?_
 refine .region ?_
 refine .q (op_move rfl) trivial rfl ?_
 refine .q (op_addI rfl rfl ⟨by omega, by omega⟩) trivial rfl ?_
 refine .q (op_assign rfl) trivial rfl ?_
 refine .nil ?_
 show Ev _ _ _ _ _
 refine .ret ?_
 show RetOk _ _ _ _ _ _ _
 exact ret1v rfl (.inl rfl) rfl rfl trivial
set_option maxRecDepth 100000 in
theorem code_8 (eo : Nat → Nat × Nat) (hd : ∀ i j, i < 20 → j < 20 → i ≠ j → eo i ≠ eo j) : Meets Tryd.prog 10 [.err 79 (8) (offE eo (8))] [(0, some ⟨.agg [.err 79 (1) (offE eo (1))], errT, false⟩), (1, some ⟨.agg [.err 79 (2) (offE eo (2))], errT, false⟩), (2, some ⟨.agg [.err 79 (3) (offE eo (3))], errT, false⟩), (3, some ⟨.agg [.err 79 (4) (offE eo (4))], errT, false⟩), (4, some ⟨.agg [.err 79 (5) (offE eo (5))], errT, false⟩), (5, some ⟨.agg [.err 79 (6) (offE eo (6))], errT, false⟩), (6, some ⟨.agg [.err 79 (7) (offE eo (7))], errT, false⟩), (7, some ⟨.agg [.err 79 (8) (offE eo (8))], errT, false⟩), (8, some ⟨.agg [.err 79 (9) (offE eo (9))], errT, false⟩), (9, some ⟨.agg [.err 79 (10) (offE eo (10))], errT, false⟩), (10, some ⟨.agg [.err 79 (11) (offE eo (11))], errT, false⟩), (11, some ⟨.agg [.err 79 (12) (offE eo (12))], errT, false⟩), (12, some ⟨.agg [.err 79 (13) (offE eo (13))], errT, false⟩), (13, some ⟨.agg [.err 79 (14) (offE eo (14))], errT, false⟩), (14, some ⟨.agg [.err 79 (15) (offE eo (15))], errT, false⟩), (15, some ⟨.agg [.err 79 (16) (offE eo (16))], errT, false⟩), (16, some ⟨.agg [.err 79 (17) (offE eo (17))], errT, false⟩), (17, some ⟨.agg [.err 79 (18) (offE eo (18))], errT, false⟩), (18, some ⟨.agg [.err 79 (19) (offE eo (19))], errT, false⟩), (19, some ⟨.agg [.err 79 (20) (offE eo (20))], errT, false⟩), (401, some ⟨.agg [], errT, false⟩), (402, some ⟨.agg [], errT, false⟩), (403, some ⟨.agg [], errT, false⟩), (404, some ⟨.agg [], errT, false⟩), (405, some ⟨.agg [], errT, false⟩), (406, some ⟨.agg [], errT, false⟩), (407, some ⟨.agg [], errT, false⟩), (408, some ⟨.agg [], errT, false⟩), (409, some ⟨.agg [], errT, false⟩), (410, some ⟨.agg [], errT, false⟩), (411, some ⟨.agg [], errT, false⟩), (412, some ⟨.agg [], errT, false⟩), (413, some ⟨.agg [], errT, false⟩), (414, some ⟨.agg [], errT, false⟩), (415, some ⟨.agg [], errT, false⟩), (416, some ⟨.agg [], errT, false⟩), (417, some ⟨.agg [], errT, false⟩), (418, some ⟨.agg [], errT, false⟩), (419, some ⟨.agg [], errT, false⟩), (420, some ⟨.agg [], errT, false⟩)] (.i64 8) [] := by
 refine meets_of_ev (nt := 38) Tryd.func10 rfl rfl (Nat.le_of_ble_eq_true rfl) ?_
 refine .seq ?_
 refine .region ?_
 refine .q (op_assign rfl) trivial rfl ?_
 refine .nil ?_
 show Ev _ _ _ _ _
 refine .seq ?_
 refine .seq ?_
 refine .region ?_
 refine .q (op_move rfl) trivial rfl ?_
 refine .q (op_eqErrNil (e := 8) Tryd.underlying31 rfl rfl) trivial rfl ?_
 refine .nil ?_
 show Ev _ _ _ _ _
 refine .cond_false rfl (rfl) ?_
 refine .skip ?_
 show Ev _ _ _ _ _
 refine .seq ?_
 refine .seq ?_
 refine .region ?_
 refine .q (op_load Tryd.underlying31 rfl rfl rfl rfl (by first | omega | (simp only [AV.len]; omega) | (simp only [AV.len]; omega) | assumption | (simp [AV.len]; done))) trivial rfl ?_
 refine .q (op_load Tryd.underlying31 rfl rfl rfl rfl (by first | omega | (simp only [AV.len]; omega) | (simp only [AV.len]; omega) | assumption | (simp [AV.len]; done))) trivial rfl ?_
 refine .q (op_load Tryd.underlying31 rfl rfl rfl rfl (by first | omega | (simp only [AV.len]; omega) | (simp only [AV.len]; omega) | assumption | (simp [AV.len]; done))) trivial rfl ?_
 refine .q (op_load Tryd.underlying31 rfl rfl rfl rfl (by first | omega | (simp only [AV.len]; omega) | (simp only [AV.len]; omega) | assumption | (simp [AV.len]; done))) trivial rfl ?_
 refine .q (op_load Tryd.underlying31 rfl rfl rfl rfl (by first | omega | (simp only [AV.len]; omega) | (simp only [AV.len]; omega) | assumption | (simp [AV.len]; done))) trivial rfl ?_
 refine .q (op_load Tryd.underlying31 rfl rfl rfl rfl (by first | omega | (simp only [AV.len]; omega) | (simp only [AV.len]; omega) | assumption | (simp [AV.len]; done))) trivial rfl ?_
 refine .q (op_load Tryd.underlying31 rfl rfl rfl rfl (by first | omega | (simp only [AV.len]; omega) | (simp only [AV.len]; omega) | assumption | (simp [AV.len]; done))) trivial rfl ?_
 refine .q (op_load Tryd.underlying31 rfl rfl rfl rfl (by first | omega | (simp only [AV.len]; omega) | (simp only [AV.len]; omega) | assumption | (simp [AV.len]; done))) trivial rfl ?_
 refine .q (op_load Tryd.underlying31 rfl rfl rfl rfl (by first | omega | (simp only [AV.len]; omega) | (simp only [AV.len]; omega) | assumption | (simp [AV.len]; done))) trivial rfl ?_
 refine .q (op_load Tryd.underlying31 rfl rfl rfl rfl (by first | omega | (simp only [AV.len]; omega) | (simp only [AV.len]; omega) | assumption | (simp [AV.len]; done))) trivial rfl ?_
 refine .q (op_load Tryd.underlying31 rfl rfl rfl rfl (by first | omega | (simp only [AV.len]; omega) | (simp only [AV.len]; omega) | assumption | (simp [AV.len]; done))) trivial rfl ?_
 refine .q (op_load Tryd.underlying31 rfl rfl rfl rfl (by first | omega | (simp only [AV.len]; omega) | (simp only [AV.len]; omega) | assumption | (simp [AV.len]; done))) trivial rfl ?_
 refine .q (op_load Tryd.underlying31 rfl rfl rfl rfl (by first | omega | (simp only [AV.len]; omega) | (simp only [AV.len]; omega) | assumption | (simp [AV.len]; done))) trivial rfl ?_
 refine .q (op_load Tryd.underlying31 rfl rfl rfl rfl (by first | omega | (simp only [AV.len]; omega) | (simp only [AV.len]; omega) | assumption | (simp [AV.len]; done))) trivial rfl ?_
 refine .q (op_load Tryd.underlying31 rfl rfl rfl rfl (by first | omega | (simp only [AV.len]; omega) | (simp only [AV.len]; omega) | assumption | (simp [AV.len]; done))) trivial rfl ?_
 refine .q (op_load Tryd.underlying31 rfl rfl rfl rfl (by first | omega | (simp only [AV.len]; omega) | (simp only [AV.len]; omega) | assumption | (simp [AV.len]; done))) trivial rfl ?_
 refine .q (op_load Tryd.underlying31 rfl rfl rfl rfl (by first | omega | (simp only [AV.len]; omega) | (simp only [AV.len]; omega) | assumption | (simp [AV.len]; done))) trivial rfl ?_
 refine .q (op_load Tryd.underlying31 rfl rfl rfl rfl (by first | omega | (simp only [AV.len]; omega) | (simp only [AV.len]; omega) | assumption | (simp [AV.len]; done))) trivial rfl ?_
 refine .q (op_load Tryd.underlying31 rfl rfl rfl rfl (by first | omega | (simp only [AV.len]; omega) | (simp only [AV.len]; omega) | assumption | (simp [AV.len]; done))) trivial rfl ?_
 refine .q (op_load Tryd.underlying31 rfl rfl rfl rfl (by first | omega | (simp only [AV.len]; omega) | (simp only [AV.len]; omega) | assumption | (simp [AV.len]; done))) trivial rfl ?_
 refine .q (op_buildFull (zv := .nilIface) (u0 := .err 0 0 (0, 0)) [.err 79 (1) (offE eo (1)), .err 79 (2) (offE eo (2)), .err 79 (3) (offE eo (3)), .err 79 (4) (offE eo (4)), .err 79 (5) (offE eo (5)), .err 79 (6) (offE eo (6)), .err 79 (7) (offE eo (7)), .err 79 (8) (offE eo (8)), .err 79 (9) (offE eo (9)), .err 79 (10) (offE eo (10)), .err 79 (11) (offE eo (11)), .err 79 (12) (offE eo (12)), .err 79 (13) (offE eo (13)), .err 79 (14) (offE eo (14)), .err 79 (15) (offE eo (15)), .err 79 (16) (offE eo (16)), .err 79 (17) (offE eo (17)), .err 79 (18) (offE eo (18)), .err 79 (19) (offE eo (19)), .err 79 (20) (offE eo (20))] Tryd.underlying57 (by kernel_rfl) (by kernel_rfl) (.err0 _ _) rfl ⟨rfl, rfl, rfl, rfl, rfl, rfl, rfl, rfl, rfl, rfl, rfl, rfl, rfl, rfl, rfl, rfl, rfl, rfl, rfl, rfl, rfl, rfl, rfl, rfl, rfl, rfl, rfl, rfl, rfl, rfl, rfl, rfl, rfl, rfl, rfl, rfl, rfl, rfl, rfl, rfl, rfl, rfl, rfl, rfl, rfl, rfl, rfl, rfl, rfl, rfl, rfl, rfl, rfl, rfl, rfl, rfl, rfl, rfl, rfl, rfl, trivial⟩ rfl rfl) trivial rfl ?_
 refine .q (op_move rfl) trivial rfl ?_
 refine .nil ?_
 show Ev _ _ _ _ _
 refine .block ?_
 refine Ev.rounds 8 ?_
 show Ev _ _ _ _ _
 refine .seq ?_
 refine .region ?_
 refine .q (op_cmpI rfl rfl rfl) trivial rfl ?_
 refine .nil ?_
 show Ev _ _ _ _ _
 refine .seq ?_
 refine .cond_true rfl (rfl) ?_
 refine .skip ?_
 show Ev _ _ _ _ _
 refine .seq ?_
 refine .block ?_
 refine .seq ?_
 refine .region ?_
 refine .q (op_move rfl) trivial rfl ?_
 refine .q (op_index_row (i := 0) Tryd.underlying57 Tryd.underlying31 rfl (by kernel_rfl) rfl rfl rfl (show _ = ((0 : Nat) : Int) from rfl) rfl (by show 0 < 20; decide) (by decide)) trivial rfl ?_
 refine .q (op_assign rfl) trivial rfl ?_
 refine .q (op_assign rfl) trivial rfl ?_
 refine .nil ?_
 show Ev _ _ _ _ _
 refine .seq ?_
 refine .region ?_
 refine .q (op_move rfl) trivial rfl ?_
 refine .q (op_move rfl) trivial rfl ?_
 refine .q (op_call (U := []) [] [] (is_other_ev 7 0 (eo 7) (eo 0) (hd _ _ (by decide) (by decide) (by decide))) Tryd.func20 (by kernel_rfl) rfl rfl rfl (⟨⟨_, rfl, rfl, rfl⟩, ⟨_, rfl, rfl, rfl⟩, trivial⟩) (⟨⟨_, _, rfl, rfl, rfl, rfl, (fun h => by cases h), rfl⟩, ⟨_, _, rfl, rfl, rfl, rfl, (fun h => by cases h), rfl⟩, trivial⟩) (trivial) (⟨(fun h => by cases h), (fun h => by cases h), trivial⟩) rfl) trivial rfl ?_
 refine .nil ?_
 show Ev _ _ _ _ _
 refine .cond_false rfl (rfl) ?_
 refine .skip ?_
 show Ev _ _ _ _ _
 refine .region ?_
 refine .q (op_addI rfl rfl ⟨by omega, by omega⟩) trivial rfl ?_
 refine .q (op_move rfl) trivial rfl ?_
 refine .nil ?_
 show Ev _ _ _ _ _
 refine .seq ?_
 refine .region ?_
 refine .q (op_cmpI rfl rfl rfl) trivial rfl ?_
 refine .nil ?_
 show Ev _ _ _ _ _
 refine .seq ?_
 refine .cond_true rfl (rfl) ?_
 refine .skip ?_
 show Ev _ _ _ _ _
 refine .seq ?_
 refine .block ?_
 refine .seq ?_
 refine .region ?_
 refine .q (op_move rfl) trivial rfl ?_
 refine .q (op_index_row (i := 1) Tryd.underlying57 Tryd.underlying31 rfl (by kernel_rfl) rfl rfl rfl (show _ = ((1 : Nat) : Int) from rfl) rfl (by show 1 < 20; decide) (by decide)) trivial rfl ?_
 refine .q (op_assign rfl) trivial rfl ?_
 refine .q (op_assign rfl) trivial rfl ?_
 refine .nil ?_
 show Ev _ _ _ _ _
 refine .seq ?_
 refine .region ?_
 refine .q (op_move rfl) trivial rfl ?_
 refine .q (op_move rfl) trivial rfl ?_
 refine .q (op_call (U := []) [] [] (is_other_ev 7 1 (eo 7) (eo 1) (hd _ _ (by decide) (by decide) (by decide))) Tryd.func20 (by kernel_rfl) rfl rfl rfl (⟨⟨_, rfl, rfl, rfl⟩, ⟨_, rfl, rfl, rfl⟩, trivial⟩) (⟨⟨_, _, rfl, rfl, rfl, rfl, (fun h => by cases h), rfl⟩, ⟨_, _, rfl, rfl, rfl, rfl, (fun h => by cases h), rfl⟩, trivial⟩) (trivial) (⟨(fun h => by cases h), (fun h => by cases h), trivial⟩) rfl) trivial rfl ?_
 refine .nil ?_
 show Ev _ _ _ _ _
 refine .cond_false rfl (rfl) ?_
 refine .skip ?_
 show Ev _ _ _ _ _
 refine .region ?_
 refine .q (op_addI rfl rfl ⟨by omega, by omega⟩) trivial rfl ?_
 refine .q (op_move rfl) trivial rfl ?_
 refine .nil ?_
 show Ev _ _ _ _ _
 refine .seq ?_
 refine .region ?_
 refine .q (op_cmpI rfl rfl rfl) trivial rfl ?_
 refine .nil ?_
 show Ev _ _ _ _ _
 refine .seq ?_
 refine .cond_true rfl (rfl) ?_
 refine .skip ?_
 show Ev _ _ _ _ _
 refine .seq ?_
 refine .block ?_
 refine .seq ?_
 refine .region ?_
 refine .q (op_move rfl) trivial rfl ?_
 refine .q (op_index_row (i := 2) Tryd.underlying57 Tryd.underlying31 rfl (by kernel_rfl) rfl rfl rfl (show _ = ((2 : Nat) : Int) from rfl) rfl (by show 2 < 20; decide) (by decide)) trivial rfl ?_
 refine .q (op_assign rfl) trivial rfl ?_
 refine .q (op_assign rfl) trivial rfl ?_
 refine .nil ?_
 show Ev _ _ _ _ _
 refine .seq ?_
 refine .region ?_
 refine .q (op_move rfl) trivial rfl ?_
 refine .q (op_move rfl) trivial rfl ?_
 refine .q (op_call (U := []) [] [] (is_other_ev 7 2 (eo 7) (eo 2) (hd _ _ (by decide) (by decide) (by decide))) Tryd.func20 (by kernel_rfl) rfl rfl rfl (⟨⟨_, rfl, rfl, rfl⟩, ⟨_, rfl, rfl, rfl⟩, trivial⟩) (⟨⟨_, _, rfl, rfl, rfl, rfl, (fun h => by cases h), rfl⟩, ⟨_, _, rfl, rfl, rfl, rfl, (fun h => by cases h), rfl⟩, trivial⟩) (trivial) (⟨(fun h => by cases h), (fun h => by cases h), trivial⟩) rfl) trivial rfl ?_
 refine .nil ?_
 show Ev _ _ _ _ _
 refine .cond_false rfl (rfl) ?_
 refine .skip ?_
 show Ev _ _ _ _ _
 refine .region ?_
 refine .q (op_addI rfl rfl ⟨by omega, by omega⟩) trivial rfl ?_
 refine .q (op_move rfl) trivial rfl ?_
 refine .nil ?_
 show Ev _ _ _ _ _
 refine .seq ?_
 refine .region ?_
 refine .q (op_cmpI rfl rfl rfl) trivial rfl ?_
 refine .nil ?_
 show Ev _ _ _ _ _
 refine .seq ?_
 refine .cond_true rfl (rfl) ?_
 refine .skip ?_
 show Ev _ _ _ _ _
 refine .seq ?_
 refine .block ?_
 refine .seq ?_
 refine .region ?_
 refine .q (op_move rfl) trivial rfl ?_
 refine .q (op_index_row (i := 3) Tryd.underlying57 Tryd.underlying31 rfl (by kernel_rfl) rfl rfl rfl (show _ = ((3 : Nat) : Int) from rfl) rfl (by show 3 < 20; decide) (by decide)) trivial rfl ?_
 refine .q (op_assign rfl) trivial rfl ?_
 refine .q (op_assign rfl) trivial rfl ?_
 refine .nil ?_
 show Ev _ _ _ _ _
 refine .seq ?_
 refine .region ?_
 refine .q (op_move rfl) trivial rfl ?_
 refine .q (op_move rfl) trivial rfl ?_
 refine .q (op_call (U := []) [] [] (is_other_ev 7 3 (eo 7) (eo 3) (hd _ _ (by decide) (by decide) (by decide))) Tryd.func20 (by kernel_rfl) rfl rfl rfl (⟨⟨_, rfl, rfl, rfl⟩, ⟨_, rfl, rfl, rfl⟩, trivial⟩) (⟨⟨_, _, rfl, rfl, rfl, rfl, (fun h => by cases h), rfl⟩, ⟨_, _, rfl, rfl, rfl, rfl, (fun h => by cases h), rfl⟩, trivial⟩) (trivial) (⟨(fun h => by cases h), (fun h => by cases h), trivial⟩) rfl) trivial rfl ?_
 refine .nil ?_
 show Ev _ _ _ _ _
 refine .cond_false rfl (rfl) ?_
 refine .skip ?_
 show Ev _ _ _ _ _
 refine .region ?_
 refine .q (op_addI rfl rfl ⟨by omega, by omega⟩) trivial rfl ?_
 refine .q (op_move rfl) trivial rfl ?_
 refine .nil ?_
 show Ev _ _ _ _ _
 refine .seq ?_
 refine .region ?_
 refine .q (op_cmpI rfl rfl rfl) trivial rfl ?_
 refine .nil ?_
 show Ev _ _ _ _ _
 refine .seq ?_
 refine .cond_true rfl (rfl) ?_
 refine .skip ?_
 show Ev _ _ _ _ _
 refine .seq ?_
 refine .block ?_
 refine .seq ?_
 refine .region ?_
 refine .q (op_move rfl) trivial rfl ?_
 refine .q (op_index_row (i := 4) Tryd.underlying57 Tryd.underlying31 rfl (by kernel_rfl) rfl rfl rfl (show _ = ((4 : Nat) : Int) from rfl) rfl (by show 4 < 20; decide) (by decide)) trivial rfl ?_
 refine .q (op_assign rfl) trivial rfl ?_
 refine .q (op_assign rfl) trivial rfl ?_
 refine .nil ?_
 show Ev _ _ _ _ _
 refine .seq ?_
 refine .region ?_
 refine .q (op_move rfl) trivial rfl ?_
 refine .q (op_move rfl) trivial rfl ?_
 refine .q (op_call (U := []) [] [] (is_other_ev 7 4 (eo 7) (eo 4) (hd _ _ (by decide) (by decide) (by decide))) Tryd.func20 (by kernel_rfl) rfl rfl rfl (⟨⟨_, rfl, rfl, rfl⟩, ⟨_, rfl, rfl, rfl⟩, trivial⟩) (⟨⟨_, _, rfl, rfl, rfl, rfl, (fun h => by cases h), rfl⟩, ⟨_, _, rfl, rfl, rfl, rfl, (fun h => by cases h), rfl⟩, trivial⟩) (trivial) (⟨(fun h => by cases h), (fun h => by cases h), trivial⟩) rfl) trivial rfl ?_
 refine .nil ?_
 show Ev _ _ _ _ _
 refine .cond_false rfl (rfl) ?_
 refine .skip ?_
 show Ev _ _ _ _ _
 refine .region ?_
 refine .q (op_addI rfl rfl ⟨by omega, by omega⟩) trivial rfl ?_
 refine .q (op_move rfl) trivial rfl ?_
 refine .nil ?_
 show Ev _ _ _ _ _
 refine .seq ?_
 refine .region ?_
 refine .q (op_cmpI rfl rfl rfl) trivial rfl ?_
 refine .nil ?_
 show Ev _ _ _ _ _
 refine .seq ?_
 refine .cond_true rfl (rfl) ?_
 refine .skip ?_
 show Ev _ _ _ _ _
 refine .seq ?_
 refine .block ?_
 refine .seq ?_
 refine .region ?_
 refine .q (op_move rfl) trivial rfl ?_
 refine .q (op_index_row (i := 5) Tryd.underlying57 Tryd.underlying31 rfl (by kernel_rfl) rfl rfl rfl (show _ = ((5 : Nat) : Int) from rfl) rfl (by show 5 < 20; decide) (by decide)) trivial rfl ?_
 refine .q (op_assign rfl) trivial rfl ?_
 refine .q (op_assign rfl) trivial rfl ?_
 refine .nil ?_
 show Ev _ _ _ _ _
 refine .seq ?_
 refine .region ?_
 refine .q (op_move rfl) trivial rfl ?_
 refine .q (op_move rfl) trivial rfl ?_
 refine .q (op_call (U := []) [] [] (is_other_ev 7 5 (eo 7) (eo 5) (hd _ _ (by decide) (by decide) (by decide))) Tryd.func20 (by kernel_rfl) rfl rfl rfl (⟨⟨_, rfl, rfl, rfl⟩, ⟨_, rfl, rfl, rfl⟩, trivial⟩) (⟨⟨_, _, rfl, rfl, rfl, rfl, (fun h => by cases h), rfl⟩, ⟨_, _, rfl, rfl, rfl, rfl, (fun h => by cases h), rfl⟩, trivial⟩) (trivial) (⟨(fun h => by cases h), (fun h => by cases h), trivial⟩) rfl) trivial rfl ?_
 refine .nil ?_
 show Ev _ _ _ _ _
 refine .cond_false rfl (rfl) ?_
 refine .skip ?_
 show Ev _ _ _ _ _
 refine .region ?_
 refine .q (op_addI rfl rfl ⟨by omega, by omega⟩) trivial rfl ?_
 refine .q (op_move rfl) trivial rfl ?_
 refine .nil ?_
 show Ev _ _ _ _ _
 refine .seq ?_
 refine .region ?_
 refine .q (op_cmpI rfl rfl rfl) trivial rfl ?_
 refine .nil ?_
 show Ev _ _ _ _ _
 refine .seq ?_
 refine .cond_true rfl (rfl) ?_
 refine .skip ?_
 show Ev _ _ _ _ _
 refine .seq ?_
 refine .block ?_
 refine .seq ?_
 refine .region ?_
 refine .q (op_move rfl) trivial rfl ?_
 refine .q (op_index_row (i := 6) Tryd.underlying57 Tryd.underlying31 rfl (by kernel_rfl) rfl rfl rfl (show _ = ((6 : Nat) : Int) from rfl) rfl (by show 6 < 20; decide) (by decide)) trivial rfl ?_
 refine .q (op_assign rfl) trivial rfl ?_
 refine .q (op_assign rfl) trivial rfl ?_
 refine .nil ?_
 show Ev _ _ _ _ _
 refine .seq ?_
 refine .region ?_
 refine .q (op_move rfl) trivial rfl ?_
 refine .q (op_move rfl) trivial rfl ?_
 refine .q (op_call (U := []) [] [] (is_other_ev 7 6 (eo 7) (eo 6) (hd _ _ (by decide) (by decide) (by decide))) Tryd.func20 (by kernel_rfl) rfl rfl rfl (⟨⟨_, rfl, rfl, rfl⟩, ⟨_, rfl, rfl, rfl⟩, trivial⟩) (⟨⟨_, _, rfl, rfl, rfl, rfl, (fun h => by cases h), rfl⟩, ⟨_, _, rfl, rfl, rfl, rfl, (fun h => by cases h), rfl⟩, trivial⟩) (trivial) (⟨(fun h => by cases h), (fun h => by cases h), trivial⟩) rfl) trivial rfl ?_
 refine .nil ?_
 show Ev _ _ _ _ _
 refine .cond_false rfl (rfl) ?_
 refine .skip ?_
 show Ev _ _ _ _ _
 refine .region ?_
 refine .q (op_addI rfl rfl ⟨by omega, by omega⟩) trivial rfl ?_
 refine .q (op_move rfl) trivial rfl ?_
 refine .nil ?_
 show Ev _ _ _ _ _
 refine .seq ?_
 refine .region ?_
 refine .q (op_cmpI rfl rfl rfl) trivial rfl ?_
 refine .nil ?_
 show Ev _ _ _ _ _
 refine .seq ?_
 refine .cond_true rfl (rfl) ?_
 refine .skip ?_
 show Ev _ _ _ _ _
 refine .seq ?_
 refine .block ?_
 refine .seq ?_
 refine .region ?_
 refine .q (op_move rfl) trivial rfl ?_
 refine .q (op_index_row (i := 7) Tryd.underlying57 Tryd.underlying31 rfl (by kernel_rfl) rfl rfl rfl (show _ = ((7 : Nat) : Int) from rfl) rfl (by show 7 < 20; decide) (by decide)) trivial rfl ?_
 refine .q (op_assign rfl) trivial rfl ?_
 refine .q (op_assign rfl) trivial rfl ?_
 refine .nil ?_
 show Ev _ _ _ _ _
 refine .seq ?_
 refine .region ?_
 refine .q (op_move rfl) trivial rfl ?_
 refine .q (op_move rfl) trivial rfl ?_
 refine .q (op_call (U := []) [] [] (is_same_ev 7 (eo 7)) Tryd.func20 (by kernel_rfl) rfl rfl rfl (⟨⟨_, rfl, rfl, rfl⟩, ⟨_, rfl, rfl, rfl⟩, trivial⟩) (trivial) (trivial) (trivial) rfl) trivial rfl ?_
 refine .nil ?_
 show Ev _ _ _ _ _
 refine .cond_true rfl (rfl) ?_
 refine .seq ?_
 refine .region ?_
 refine .q (op_move rfl) trivial rfl ?_
 refine .q (op_addI rfl rfl ⟨by omega, by omega⟩) trivial rfl ?_
 refine .q (op_assign rfl) trivial rfl ?_
 refine .nil ?_
 show Ev _ _ _ _ _
 refine .ret ?_
 show RetOk _ _ _ _ _ _ _
 exact ret1v rfl (.inl rfl) rfl rfl trivial
set_option maxRecDepth 100000 in
theorem code_18 (eo : Nat → Nat × Nat) (hd : ∀ i j, i < 20 → j < 20 → i ≠ j → eo i ≠ eo j) : Meets Tryd.prog 10 [.err 79 (18) (offE eo (18))] [(0, some ⟨.agg [.err 79 (1) (offE eo (1))], errT, false⟩), (1, some ⟨.agg [.err 79 (2) (offE eo (2))], errT, false⟩), (2, some ⟨.agg [.err 79 (3) (offE eo (3))], errT, false⟩), (3, some ⟨.agg [.err 79 (4) (offE eo (4))], errT, false⟩), (4, some ⟨.agg [.err 79 (5) (offE eo (5))], errT, false⟩), (5, some ⟨.agg [.err 79 (6) (offE eo (6))], errT, false⟩), (6, some ⟨.agg [.err 79 (7) (offE eo (7))], errT, false⟩), (7, some ⟨.agg [.err 79 (8) (offE eo (8))], errT, false⟩), (8, some ⟨.agg [.err 79 (9) (offE eo (9))], errT, false⟩), (9, some ⟨.agg [.err 79 (10) (offE eo (10))], errT, false⟩), (10, some ⟨.agg [.err 79 (11) (offE eo (11))], errT, false⟩), (11, some ⟨.agg [.err 79 (12) (offE eo (12))], errT, false⟩), (12, some ⟨.agg [.err 79 (13) (offE eo (13))], errT, false⟩), (13, some ⟨.agg [.err 79 (14) (offE eo (14))], errT, false⟩), (14, some ⟨.agg [.err 79 (15) (offE eo (15))], errT, false⟩), (15, some ⟨.agg [.err 79 (16) (offE eo (16))], errT, false⟩), (16, some ⟨.agg [.err 79 (17) (offE eo (17))], errT, false⟩), (17, some ⟨.agg [.err 79 (18) (offE eo (18))], errT, false⟩), (18, some ⟨.agg [.err 79 (19) (offE eo (19))], errT, false⟩), (19, some ⟨.agg [.err 79 (20) (offE eo (20))], errT, false⟩), (401, some ⟨.agg [], errT, false⟩), (402, some ⟨.agg [], errT, false⟩), (403, some ⟨.agg [], errT, false⟩), (404, some ⟨.agg [], errT, false⟩), (405, some ⟨.agg [], errT, false⟩), (406, some ⟨.agg [], errT, false⟩), (407, some ⟨.agg [], errT, false⟩), (408, some ⟨.agg [], errT, false⟩), (409, some ⟨.agg [], errT, false⟩), (410, some ⟨.agg [], errT, false⟩), (411, some ⟨.agg [], errT, false⟩), (412, some ⟨.agg [], errT, false⟩), (413, some ⟨.agg [], errT, false⟩), (414, some ⟨.agg [], errT, false⟩), (415, some ⟨.agg [], errT, false⟩), (416, some ⟨.agg [], errT, false⟩), (417, some ⟨.agg [], errT, false⟩), (418, some ⟨.agg [], errT, false⟩), (419, some ⟨.agg [], errT, false⟩), (420, some ⟨.agg [], errT, false⟩)] (.i64 18) [] := by
 refine meets_of_ev (nt := 38) Tryd.func10 rfl rfl (Nat.le_of_ble_eq_true rfl) ?_
 refine .seq ?_
 refine .region ?_
 refine .q (op_assign rfl) trivial rfl ?_
 refine .nil ?_
 show Ev _ _ _ _ _
 refine .seq ?_
 refine .seq ?_
 refine .region ?_
 refine .q (op_move rfl) trivial rfl ?_
 refine .q (op_eqErrNil (e := 18) Tryd.underlying31 rfl rfl) trivial rfl ?_
 refine .nil ?_
 show Ev _ _ _ _ _
 refine .cond_false rfl (rfl) ?_
 refine .skip ?_
 show Ev _ _ _ _ _
 refine .seq ?_
 refine .seq ?_
 refine .region ?_
 refine .q (op_load Tryd.underlying31 rfl rfl rfl rfl (by first | omega | (simp only [AV.len]; omega) | (simp only [AV.len]; omega) | assumption | (simp [AV.len]; done))) trivial rfl ?_
 refine .q (op_load Tryd.underlying31 rfl rfl rfl rfl (by first | omega | (simp only [AV.len]; omega) | (simp only [AV.len]; omega) | assumption | (simp [AV.len]; done))) trivial rfl ?_
 refine .q (op_load Tryd.underlying31 rfl rfl rfl rfl (by first | omega | (simp only [AV.len]; omega) | (simp only [AV.len]; omega) | assumption | (simp [AV.len]; done))) trivial rfl ?_
 refine .q (op_load Tryd.underlying31 rfl rfl rfl rfl (by first | omega | (simp only [AV.len]; omega) | (simp only [AV.len]; omega) | assumption | (simp [AV.len]; done))) trivial rfl ?_
 refine .q (op_load Tryd.underlying31 rfl rfl rfl rfl (by first | omega | (simp only [AV.len]; omega) | (simp only [AV.len]; omega) | assumption | (simp [AV.len]; done))) trivial rfl ?_
 refine .q (op_load Tryd.underlying31 rfl rfl rfl rfl (by first | omega | (simp only [AV.len]; omega) | (simp only [AV.len]; omega) | assumption | (simp [AV.len]; done))) trivial rfl ?_
 refine .q (op_load Tryd.underlying31 rfl rfl rfl rfl (by first | omega | (simp only [AV.len]; omega) | (simp only [AV.len]; omega) | assumption | (simp [AV.len]; done))) trivial rfl ?_
 refine .q (op_load Tryd.underlying31 rfl rfl rfl rfl (by first | omega | (simp only [AV.len]; omega) | (simp only [AV.len]; omega) | assumption | (simp [AV.len]; done))) trivial rfl ?_
 refine .q (op_load Tryd.underlying31 rfl rfl rfl rfl (by first | omega | (simp only [AV.len]; omega) | (simp only [AV.len]; omega) | assumption | (simp [AV.len]; done))) trivial rfl ?_
 refine .q (op_load Tryd.underlying31 rfl rfl rfl rfl (by first | omega | (simp only [AV.len]; omega) | (simp only [AV.len]; omega) | assumption | (simp [AV.len]; done))) trivial rfl ?_
 refine .q (op_load Tryd.underlying31 rfl rfl rfl rfl (by first | omega | (simp only [AV.len]; omega) | (simp only [AV.len]; omega) | assumption | (simp [AV.len]; done))) trivial rfl ?_
 refine .q (op_load Tryd.underlying31 rfl rfl rfl rfl (by first | omega | (simp only [AV.len]; omega) | (simp only [AV.len]; omega) | assumption | (simp [AV.len]; done))) trivial rfl ?_
 refine .q (op_load Tryd.underlying31 rfl rfl rfl rfl (by first | omega | (simp only [AV.len]; omega) | (simp only [AV.len]; omega) | assumption | (simp [AV.len]; done))) trivial rfl ?_
 refine .q (op_load Tryd.underlying31 rfl rfl rfl rfl (by first | omega | (simp only [AV.len]; omega) | (simp only [AV.len]; omega) | assumption | (simp [AV.len]; done))) trivial rfl ?_
 refine .q (op_load Tryd.underlying31 rfl rfl rfl rfl (by first | omega | (simp only [AV.len]; omega) | (simp only [AV.len]; omega) | assumption | (simp [AV.len]; done))) trivial rfl ?_
 refine .q (op_load Tryd.underlying31 rfl rfl rfl rfl (by first | omega | (simp only [AV.len]; omega) | (simp only [AV.len]; omega) | assumption | (simp [AV.len]; done))) trivial rfl ?_
 refine .q (op_load Tryd.underlying31 rfl rfl rfl rfl (by first | omega | (simp only [AV.len]; omega) | (simp only [AV.len]; omega) | assumption | (simp [AV.len]; done))) trivial rfl ?_
 refine .q (op_load Tryd.underlying31 rfl rfl rfl rfl (by first | omega | (simp only [AV.len]; omega) | (simp only [AV.len]; omega) | assumption | (simp [AV.len]; done))) trivial rfl ?_
 refine .q (op_load Tryd.underlying31 rfl rfl rfl rfl (by first | omega | (simp only [AV.len]; omega) | (simp only [AV.len]; omega) | assumption | (simp [AV.len]; done))) trivial rfl ?_
 refine .q (op_load Tryd.underlying31 rfl rfl rfl rfl (by first | omega | (simp only [AV.len]; omega) | (simp only [AV.len]; omega) | assumption | (simp [AV.len]; done))) trivial rfl ?_
 refine .q (op_buildFull (zv := .nilIface) (u0 := .err 0 0 (0, 0)) [.err 79 (1) (offE eo (1)), .err 79 (2) (offE eo (2)), .err 79 (3) (offE eo (3)), .err 79 (4) (offE eo (4)), .err 79 (5) (offE eo (5)), .err 79 (6) (offE eo (6)), .err 79 (7) (offE eo (7)), .err 79 (8) (offE eo (8)), .err 79 (9) (offE eo (9)), .err 79 (10) (offE eo (10)), .err 79 (11) (offE eo (11)), .err 79 (12) (offE eo (12)), .err 79 (13) (offE eo (13)), .err 79 (14) (offE eo (14)), .err 79 (15) (offE eo (15)), .err 79 (16) (offE eo (16)), .err 79 (17) (offE eo (17)), .err 79 (18) (offE eo (18)), .err 79 (19) (offE eo (19)), .err 79 (20) (offE eo (20))] Tryd.underlying57 (by kernel_rfl) (by kernel_rfl) (.err0 _ _) rfl ⟨rfl, rfl, rfl, rfl, rfl, rfl, rfl, rfl, rfl, rfl, rfl, rfl, rfl, rfl, rfl, rfl, rfl, rfl, rfl, rfl, rfl, rfl, rfl, rfl, rfl, rfl, rfl, rfl, rfl, rfl, rfl, rfl, rfl, rfl, rfl, rfl, rfl, rfl, rfl, rfl, rfl, rfl, rfl, rfl, rfl, rfl, rfl, rfl, rfl, rfl, rfl, rfl, rfl, rfl, rfl, rfl, rfl, rfl, rfl, rfl, trivial⟩ rfl rfl) trivial rfl ?_
 refine .q (op_move rfl) trivial rfl ?_
 refine .nil ?_
 show Ev _ _ _ _ _
 refine .block ?_
 refine Ev.rounds 18 ?_
 show Ev _ _ _ _ _
 refine .seq ?_
 refine .region ?_
 refine .q (op_cmpI rfl rfl rfl) trivial rfl ?_
 refine .nil ?_
 show Ev _ _ _ _ _
 refine .seq ?_
 refine .cond_true rfl (rfl) ?_
 refine .skip ?_
 show Ev _ _ _ _ _
 refine .seq ?_
 refine .block ?_
 refine .seq ?_
 refine .region ?_
 refine .q (op_move rfl) trivial rfl ?_
 refine .q (op_index_row (i := 0) Tryd.underlying57 Tryd.underlying31 rfl (by kernel_rfl) rfl rfl rfl (show _ = ((0 : Nat) : Int) from rfl) rfl (by show 0 < 20; decide) (by decide)) trivial rfl ?_
 refine .q (op_assign rfl) trivial rfl ?_
 refine .q (op_assign rfl) trivial rfl ?_
 refine .nil ?_
 show Ev _ _ _ _ _
 refine .seq ?_
 refine .region ?_
 refine .q (op_move rfl) trivial rfl ?_
 refine .q (op_move rfl) trivial rfl ?_
 refine .q (op_call (U := []) [] [] (is_other_ev 17 0 (eo 17) (eo 0) (hd _ _ (by decide) (by decide) (by decide))) Tryd.func20 (by kernel_rfl) rfl rfl rfl (⟨⟨_, rfl, rfl, rfl⟩, ⟨_, rfl, rfl, rfl⟩, trivial⟩) (⟨⟨_, _, rfl, rfl, rfl, rfl, (fun h => by cases h), rfl⟩, ⟨_, _, rfl, rfl, rfl, rfl, (fun h => by cases h), rfl⟩, trivial⟩) (trivial) (⟨(fun h => by cases h), (fun h => by cases h), trivial⟩) rfl) trivial rfl ?_
 refine .nil ?_
 show Ev _ _ _ _ _
 refine .cond_false rfl (rfl) ?_
 refine .skip ?_
 show Ev _ _ _ _ _
 refine .region ?_
 refine .q (op_addI rfl rfl ⟨by omega, by omega⟩) trivial rfl ?_
 refine .q (op_move rfl) trivial rfl ?_
 refine .nil ?_
 show Ev _ _ _ _ _
 refine .seq ?_
 refine .region ?_
 refine .q (op_cmpI rfl rfl rfl) trivial rfl ?_
 refine .nil ?_
 show Ev _ _ _ _ _
 refine .seq ?_
 refine .cond_true rfl (rfl) ?_
 refine .skip ?_
 show Ev _ _ _ _ _
 refine .seq ?_
 refine .block ?_
 refine .seq ?_
 refine .region ?_
 refine .q (op_move rfl) trivial rfl ?_
 refine .q (op_index_row (i := 1) Tryd.underlying57 Tryd.underlying31 rfl (by kernel_rfl) rfl rfl rfl (show _ = ((1 : Nat) : Int) from rfl) rfl (by show 1 < 20; decide) (by decide)) trivial rfl ?_
 refine .q (op_assign rfl) trivial rfl ?_
 refine .q (op_assign rfl) trivial rfl ?_
 refine .nil ?_
 show Ev _ _ _ _ _
 refine .seq ?_
 refine .region ?_
 refine .q (op_move rfl) trivial rfl ?_
 refine .q (op_move rfl) trivial rfl ?_
 refine .q (op_call (U := []) [] [] (is_other_ev 17 1 (eo 17) (eo 1) (hd _ _ (by decide) (by decide) (by decide))) Tryd.func20 (by kernel_rfl) rfl rfl rfl (⟨⟨_, rfl, rfl, rfl⟩, ⟨_, rfl, rfl, rfl⟩, trivial⟩) (⟨⟨_, _, rfl, rfl, rfl, rfl, (fun h => by cases h), rfl⟩, ⟨_, _, rfl, rfl, rfl, rfl, (fun h => by cases h), rfl⟩, trivial⟩) (trivial) (⟨(fun h => by cases h), (fun h => by cases h), trivial⟩) rfl) trivial rfl ?_
 refine .nil ?_
 show Ev _ _ _ _ _
 refine .cond_false rfl (rfl) ?_
 refine .skip ?_
 show Ev _ _ _ _ _
 refine .region ?_
 refine .q (op_addI rfl rfl ⟨by omega, by omega⟩) trivial rfl ?_
 refine .q (op_move rfl) trivial rfl ?_
 refine .nil ?_
 show Ev _ _ _ _ _
 refine .seq ?_
 refine .region ?_
 refine .q (op_cmpI rfl rfl rfl) trivial rfl ?_
 refine .nil ?_
 show Ev _ _ _ _ _
 refine .seq ?_
 refine .cond_true rfl (rfl) ?_
 refine .skip ?_
 show Ev _ _ _ _ _
 refine .seq ?_
 refine .block ?_
 refine .seq ?_
 refine .region ?_
 refine .q (op_move rfl) trivial rfl ?_
 refine .q (op_index_row (i := 2) Tryd.underlying57 Tryd.underlying31 rfl (by kernel_rfl) rfl rfl rfl (show _ = ((2 : Nat) : Int) from rfl) rfl (by show 2 < 20; decide) (by decide)) trivial rfl ?_
 refine .q (op_assign rfl) trivial rfl ?_
 refine .q (op_assign rfl) trivial rfl ?_
 refine .nil ?_
 show Ev _ _ _ _ _
 refine .seq ?_
 refine .region ?_
 refine .q (op_move rfl) trivial rfl ?_
 refine .q (op_move rfl) trivial rfl ?_
 refine .q (op_call (U := []) [] [] (is_other_ev 17 2 (eo 17) (eo 2) (hd _ _ (by decide) (by decide) (by decide))) Tryd.func20 (by kernel_rfl) rfl rfl rfl (⟨⟨_, rfl, rfl, rfl⟩, ⟨_, rfl, rfl, rfl⟩, trivial⟩) (⟨⟨_, _, rfl, rfl, rfl, rfl, (fun h => by cases h), rfl⟩, ⟨_, _, rfl, rfl, rfl, rfl, (fun h => by cases h), rfl⟩, trivial⟩) (trivial) (⟨(fun h => by cases h), (fun h => by cases h), trivial⟩) rfl) trivial rfl ?_
 refine .nil ?_
 show Ev _ _ _ _ _
 refine .cond_false rfl (rfl) ?_
 refine .skip ?_
 show Ev _ _ _ _ _
 refine .region ?_
 refine .q (op_addI rfl rfl ⟨by omega, by omega⟩) trivial rfl ?_
 refine .q (op_move rfl) trivial rfl ?_
 refine .nil ?_
 show Ev _ _ _ _ _
 refine .seq ?_
 refine .region ?_
 refine .q (op_cmpI rfl rfl rfl) trivial rfl ?_
 refine .nil ?_
 show Ev _ _ _ _ _
 refine .seq ?_
 refine .cond_true rfl (rfl) ?_
 refine .skip ?_
 show Ev _ _ _ _ _
 refine .seq ?_
 refine .block ?_
 refine .seq ?_
 refine .region ?_
 refine .q (op_move rfl) trivial rfl ?_
 refine .q (op_index_row (i := 3) Tryd.underlying57 Tryd.underlying31 rfl (by kernel_rfl) rfl rfl rfl (show _ = ((3 : Nat) : Int) from rfl) rfl (by show 3 < 20; decide) (by decide)) trivial rfl ?_
 refine .q (op_assign rfl) trivial rfl ?_
 refine .q (op_assign rfl) trivial rfl ?_
 refine .nil ?_
 show Ev _ _ _ _ _
 refine .seq ?_
 refine .region ?_
 refine .q (op_move rfl) trivial rfl ?_
 refine .q (op_move rfl) trivial rfl ?_
 refine .q (op_call (U := []) [] [] (is_other_ev 17 3 (eo 17) (eo 3) (hd _ _ (by decide) (by decide) (by decide))) Tryd.func20 (by kernel_rfl) rfl rfl rfl (⟨⟨_, rfl, rfl, rfl⟩, ⟨_, rfl, rfl, rfl⟩, trivial⟩) (⟨⟨_, _, rfl, rfl, rfl, rfl, (fun h => by cases h), rfl⟩, ⟨_, _, rfl, rfl, rfl, rfl, (fun h => by cases h), rfl⟩, trivial⟩) (trivial) (⟨(fun h => by cases h), (fun h => by cases h), trivial⟩) rfl) trivial rfl ?_
 refine .nil ?_
 show Ev _ _ _ _ _
 refine .cond_false rfl (rfl) ?_
 refine .skip ?_
 show Ev _ _ _ _ _
 refine .region ?_
 refine .q (op_addI rfl rfl ⟨by omega, by omega⟩) trivial rfl ?_
 refine .q (op_move rfl) trivial rfl ?_
 refine .nil ?_
 show Ev _ _ _ _ _
 refine .seq ?_
 refine .region ?_
 refine .q (op_cmpI rfl rfl rfl) trivial rfl ?_
 refine .nil ?_
 show Ev _ _ _ _ _
 refine .seq ?_
 refine .cond_true rfl (rfl) ?_
 refine .skip ?_
 show Ev _ _ _ _ _
 refine .seq ?_
 refine .block ?_
 refine .seq ?_
 refine .region ?_
 refine .q (op_move rfl) trivial rfl ?_
 refine .q (op_index_row (i := 4) Tryd.underlying57 Tryd.underlying31 rfl (by kernel_rfl) rfl rfl rfl (show _ = ((4 : Nat) : Int) from rfl) rfl (by show 4 < 20; decide) (by decide)) trivial rfl ?_
 refine .q (op_assign rfl) trivial rfl ?_
 refine .q (op_assign rfl) trivial rfl ?_
 refine .nil ?_
 show Ev _ _ _ _ _
 refine .seq ?_
 refine .region ?_
 refine .q (op_move rfl) trivial rfl ?_
 refine .q (op_move rfl) trivial rfl ?_
 refine .q (op_call (U := []) [] [] (is_other_ev 17 4 (eo 17) (eo 4) (hd _ _ (by decide) (by decide) (by decide))) Tryd.func20 (by kernel_rfl) rfl rfl rfl (⟨⟨_, rfl, rfl, rfl⟩, ⟨_, rfl, rfl, rfl⟩, trivial⟩) (⟨⟨_, _, rfl, rfl, rfl, rfl, (fun h => by cases h), rfl⟩, ⟨_, _, rfl, rfl, rfl, rfl, (fun h => by cases h), rfl⟩, trivial⟩) (trivial) (⟨(fun h => by cases h), (fun h => by cases h), trivial⟩) rfl) trivial rfl ?_
 refine .nil ?_
 show Ev _ _ _ _ _
 refine .cond_false rfl (rfl) ?_
 refine .skip ?_
 show Ev _ _ _ _ _
 refine .region ?_
 refine .q (op_addI rfl rfl ⟨by omega, by omega⟩) trivial rfl ?_
 refine .q (op_move rfl) trivial rfl ?_
 refine .nil ?_
 show Ev _ _ _ _ _
 refine .seq ?_
 refine .region ?_
 refine .q (op_cmpI rfl rfl rfl) trivial rfl ?_
 refine .nil ?_
 show Ev _ _ _ _ _
 refine .seq ?_
 refine .cond_true rfl (rfl) ?_
 refine .skip ?_
 show Ev _ _ _ _ _
 refine .seq ?_
 refine .block ?_
 refine .seq ?_
 refine .region ?_
 refine .q (op_move rfl) trivial rfl ?_
 refine .q (op_index_row (i := 5) Tryd.underlying57 Tryd.underlying31 rfl (by kernel_rfl) rfl rfl rfl (show _ = ((5 : Nat) : Int) from rfl) rfl (by show 5 < 20; decide) (by decide)) trivial rfl ?_
 refine .q (op_assign rfl) trivial rfl ?_
 refine .q (op_assign rfl) trivial rfl ?_
 refine .nil ?_
 show Ev _ _ _ _ _
 refine .seq ?_
 refine .region ?_
 refine .q (op_move rfl) trivial rfl ?_
 refine .q (op_move rfl) trivial rfl ?_
 refine .q (op_call (U := []) [] [] (is_other_ev 17 5 (eo 17) (eo 5) (hd _ _ (by decide) (by decide) (by decide))) Tryd.func20 (by kernel_rfl) rfl rfl rfl (⟨⟨_, rfl, rfl, rfl⟩, ⟨_, rfl, rfl, rfl⟩, trivial⟩) (⟨⟨_, _, rfl, rfl, rfl, rfl, (fun h => by cases h), rfl⟩, ⟨_, _, rfl, rfl, rfl, rfl, (fun h => by cases h), rfl⟩, trivial⟩) (trivial) (⟨(fun h => by cases h), (fun h => by cases h), trivial⟩) rfl) trivial rfl ?_
 refine .nil ?_
 show Ev _ _ _ _ _
 refine .cond_false rfl (rfl) ?_
 refine .skip ?_
 show Ev _ _ _ _ _
 refine .region ?_
 refine .q (op_addI rfl rfl ⟨by omega, by omega⟩) trivial rfl ?_
 refine .q (op_move rfl) trivial rfl ?_
 refine .nil ?_
 show Ev _ _ _ _ _
 refine .seq ?_
 refine .region ?_
 refine .q (op_cmpI rfl rfl rfl) trivial rfl ?_
 refine .nil ?_
 show Ev _ _ _ _ _
 refine .seq ?_
 refine .cond_true rfl (rfl) ?_
 refine .skip ?_
 show Ev _ _ _ _ _
 refine .seq ?_
 refine .block ?_
 refine .seq ?_
 refine .region ?_
 refine .q (op_move rfl) trivial rfl ?_
 refine .q (op_index_row (i := 6) Tryd.underlying57 Tryd.underlying31 rfl (by kernel_rfl) rfl rfl rfl (show _ = ((6 : Nat) : Int) from rfl) rfl (by show 6 < 20; decide) (by decide)) trivial rfl ?_
 refine .q (op_assign rfl) trivial rfl ?_
 refine .q (op_assign rfl) trivial rfl ?_
 refine .nil ?_
 show Ev _ _ _ _ _
 refine .seq ?_
 refine .region ?_
 refine .q (op_move rfl) trivial rfl ?_
 refine .q (op_move rfl) trivial rfl ?_
 refine .q (op_call (U := []) [] [] (is_other_ev 17 6 (eo 17) (eo 6) (hd _ _ (by decide) (by decide) (by decide))) Tryd.func20 (by kernel_rfl) rfl rfl rfl (⟨⟨_, rfl, rfl, rfl⟩, ⟨_, rfl, rfl, rfl⟩, trivial⟩) (⟨⟨_, _, rfl, rfl, rfl, rfl, (fun h => by cases h), rfl⟩, ⟨_, _, rfl, rfl, rfl, rfl, (fun h => by cases h), rfl⟩, trivial⟩) (trivial) (⟨(fun h => by cases h), (fun h => by cases h), trivial⟩) rfl) trivial rfl ?_
 refine .nil ?_
 show Ev _ _ _ _ _
 refine .cond_false rfl (rfl) ?_
 refine .skip ?_
 show Ev _ _ _ _ _
 refine .region ?_
 refine .q (op_addI rfl rfl ⟨by omega, by omega⟩) trivial rfl ?_
 refine .q (op_move rfl) trivial rfl ?_
 refine .nil ?_
 show Ev _ _ _ _ _
 refine .seq ?_
 refine .region ?_
 refine .q (op_cmpI rfl rfl rfl) trivial rfl ?_
 refine .nil ?_
 show Ev _ _ _ _ _
 refine .seq ?_
 refine .cond_true rfl (rfl) ?_
 refine .skip ?_
 show Ev _ _ _ _ _
 refine .seq ?_
 refine .block ?_
 refine .seq ?_
 refine .region ?_
 refine .q (op_move rfl) trivial rfl ?_
 refine .q (op_index_row (i := 7) Tryd.underlying57 Tryd.underlying31 rfl (by kernel_rfl) rfl rfl rfl (show _ = ((7 : Nat) : Int) from rfl) rfl (by show 7 < 20; decide) (by decide)) trivial rfl ?_
 refine .q (op_assign rfl) trivial rfl ?_
 refine .q (op_assign rfl) trivial rfl ?_
 refine .nil ?_
 show Ev _ _ _ _ _
 refine .seq ?_
 refine .region ?_
 refine .q (op_move rfl) trivial rfl ?_
 refine .q (op_move rfl) trivial rfl ?_
 refine .q (op_call (U := []) [] [] (is_other_ev 17 7 (eo 17) (eo 7) (hd _ _ (by decide) (by decide) (by decide))) Tryd.func20 (by kernel_rfl) rfl rfl rfl (⟨⟨_, rfl, rfl, rfl⟩, ⟨_, rfl, rfl, rfl⟩, trivial⟩) (⟨⟨_, _, rfl, rfl, rfl, rfl, (fun h => by cases h), rfl⟩, ⟨_, _, rfl, rfl, rfl, rfl, (fun h => by cases h), rfl⟩, trivial⟩) (trivial) (⟨(fun h => by cases h), (fun h => by cases h), trivial⟩) rfl) trivial rfl ?_
 refine .nil ?_
 show Ev _ _ _ _ _
 refine .cond_false rfl (rfl) ?_
 refine .skip ?_
 show Ev _ _ _ _ _
 refine .region ?_
 refine .q (op_addI rfl rfl ⟨by omega, by omega⟩) trivial rfl ?_
 refine .q (op_move rfl) trivial rfl ?_
 refine .nil ?_
 show Ev _ _ _ _ _
 refine .seq ?_
 refine .region ?_
 refine .q (op_cmpI rfl rfl rfl) trivial rfl ?_
 refine .nil ?_
 show Ev _ _ _ _ _
 refine .seq ?_
 refine .cond_true rfl (rfl) ?_
 refine .skip ?_
 show Ev _ _ _ _ _
 refine .seq ?_
 refine .block ?_
 refine .seq ?_
 refine .region ?_
 refine .q (op_move rfl) trivial rfl ?_
 refine .q (op_index_row (i := 8) Tryd.underlying57 Tryd.underlying31 rfl (by kernel_rfl) rfl rfl rfl (show _ = ((8 : Nat) : Int) from rfl) rfl (by show 8 < 20; decide) (by decide)) trivial rfl ?_
 refine .q (op_assign rfl) trivial rfl ?_
 refine .q (op_assign rfl) trivial rfl ?_
 refine .nil ?_
 show Ev _ _ _ _ _
 refine .seq ?_
 refine .region ?_
 refine .q (op_move rfl) trivial rfl ?_
 refine .q (op_move rfl) trivial rfl ?_
 refine .q (op_call (U := []) [] [] (is_other_ev 17 8 (eo 17) (eo 8) (hd _ _ (by decide) (by decide) (by decide))) Tryd.func20 (by kernel_rfl) rfl rfl rfl (⟨⟨_, rfl, rfl, rfl⟩, ⟨_, rfl, rfl, rfl⟩, trivial⟩) (⟨⟨_, _, rfl, rfl, rfl, rfl, (fun h => by cases h), rfl⟩, ⟨_, _, rfl, rfl, rfl, rfl, (fun h => by cases h), rfl⟩, trivial⟩) (trivial) (⟨(fun h => by cases h), (fun h => by cases h), trivial⟩) rfl) trivial rfl ?_
 refine .nil ?_
 show Ev _ _ _ _ _
 refine .cond_false rfl (rfl) ?_
 refine .skip ?_
 show Ev _ _ _ _ _
 refine .region ?_
 refine .q (op_addI rfl rfl ⟨by omega, by omega⟩) trivial rfl ?_
 refine .q (op_move rfl) trivial rfl ?_
 refine .nil ?_
 show Ev _ _ _ _ _
 refine .seq ?_
 refine .region ?_
 refine .q (op_cmpI rfl rfl rfl) trivial rfl ?_
 refine .nil ?_
 show Ev _ _ _ _ _
 refine .seq ?_
 refine .cond_true rfl (rfl) ?_
 refine .skip ?_
 show Ev _ _ _ _ _
 refine .seq ?_
 refine .block ?_
 refine .seq ?_
 refine .region ?_
 refine .q (op_move rfl) trivial rfl ?_
 refine .q (op_index_row (i := 9) Tryd.underlying57 Tryd.underlying31 rfl (by kernel_rfl) rfl rfl rfl (show _ = ((9 : Nat) : Int) from rfl) rfl (by show 9 < 20; decide) (by decide)) trivial rfl ?_
 refine .q (op_assign rfl) trivial rfl ?_
 refine .q (op_assign rfl) trivial rfl ?_
 refine .nil ?_
 show Ev _ _ _ _ _
 refine .seq ?_
 refine .region ?_
 refine .q (op_move rfl) trivial rfl ?_
 refine .q (op_move rfl) trivial rfl ?_
 refine .q (op_call (U := []) [] [] (is_other_ev 17 9 (eo 17) (eo 9) (hd _ _ (by decide) (by decide) (by decide))) Tryd.func20 (by kernel_rfl) rfl rfl rfl (⟨⟨_, rfl, rfl, rfl⟩, ⟨_, rfl, rfl, rfl⟩, trivial⟩) (⟨⟨_, _, rfl, rfl, rfl, rfl, (fun h => by cases h), rfl⟩, ⟨_, _, rfl, rfl, rfl, rfl, (fun h => by cases h), rfl⟩, trivial⟩) (trivial) (⟨(fun h => by cases h), (fun h => by cases h), trivial⟩) rfl) trivial rfl ?_
 refine .nil ?_
 show Ev _ _ _ _ _
 refine .cond_false rfl (rfl) ?_
 refine .skip ?_
 show Ev _ _ _ _ _
 refine .region ?_
 refine .q (op_addI rfl rfl ⟨by omega, by omega⟩) trivial rfl ?_
 refine .q (op_move rfl) trivial rfl ?_
 refine .nil ?_
 show Ev _ _ _ _ _
 refine .seq ?_
 refine .region ?_
 refine .q (op_cmpI rfl rfl rfl) trivial rfl ?_
 refine .nil ?_
 show Ev _ _ _ _ _
 refine .seq ?_
 refine .cond_true rfl (rfl) ?_
 refine .skip ?_
 show Ev _ _ _ _ _
 refine .seq ?_
 refine .block ?_
 refine .seq ?_
 refine .region ?_
 refine .q (op_move rfl) trivial rfl ?_
 refine .q (op_index_row (i := 10) Tryd.underlying57 Tryd.underlying31 rfl (by kernel_rfl) rfl rfl rfl (show _ = ((10 : Nat) : Int) from rfl) rfl (by show 10 < 20; decide) (by decide)) trivial rfl ?_
 refine .q (op_assign rfl) trivial rfl ?_
 refine .q (op_assign rfl) trivial rfl ?_
 refine .nil ?_
 show Ev _ _ _ _ _
 refine .seq ?_
 refine .region ?_
 refine .q (op_move rfl) trivial rfl ?_
 refine .q (op_move rfl) trivial rfl ?_
 refine .q (op_call (U := []) [] [] (is_other_ev 17 10 (eo 17) (eo 10) (hd _ _ (by decide) (by decide) (by decide))) Tryd.func20 (by kernel_rfl) rfl rfl rfl (⟨⟨_, rfl, rfl, rfl⟩, ⟨_, rfl, rfl, rfl⟩, trivial⟩) (⟨⟨_, _, rfl, rfl, rfl, rfl, (fun h => by cases h), rfl⟩, ⟨_, _, rfl, rfl, rfl, rfl, (fun h => by cases h), rfl⟩, trivial⟩) (trivial) (⟨(fun h => by cases h), (fun h => by cases h), trivial⟩) rfl) trivial rfl ?_
 refine .nil ?_
 show Ev _ _ _ _ _
 refine .cond_false rfl (rfl) ?_
 refine .skip ?_
 show Ev _ _ _ _ _
 refine .region ?_
 refine .q (op_addI rfl rfl ⟨by omega, by omega⟩) trivial rfl ?_
 refine .q (op_move rfl) trivial rfl ?_
 refine .nil ?_
 show Ev _ _ _ _ _
 refine .seq ?_
 refine .region ?_
 refine .q (op_cmpI rfl rfl rfl) trivial rfl ?_
 refine .nil ?_
 show Ev _ _ _ _ _
 refine .seq ?_
 refine .cond_true rfl (rfl) ?_
 refine .skip ?_
 show Ev _ _ _ _ _
 refine .seq ?_
 refine .block ?_
 refine .seq ?_
 refine .region ?_
 refine .q (op_move rfl) trivial rfl ?_
 refine .q (op_index_row (i := 11) Tryd.underlying57 Tryd.underlying31 rfl (by kernel_rfl) rfl rfl rfl (show _ = ((11 : Nat) : Int) from rfl) rfl (by show 11 < 20; decide) (by decide)) trivial rfl ?_
 refine .q (op_assign rfl) trivial rfl ?_
 refine .q (op_assign rfl) trivial rfl ?_
 refine .nil ?_
 show Ev _ _ _ _ _
 refine .seq ?_
 refine .region ?_
 refine .q (op_move rfl) trivial rfl ?_
 refine .q (op_move rfl) trivial rfl ?_
 refine .q (op_call (U := []) [] [] (is_other_ev 17 11 (eo 17) (eo 11) (hd _ _ (by decide) (by decide) (by decide))) Tryd.func20 (by kernel_rfl) rfl rfl rfl (⟨⟨_, rfl, rfl, rfl⟩, ⟨_, rfl, rfl, rfl⟩, trivial⟩) (⟨⟨_, _, rfl, rfl, rfl, rfl, (fun h => by cases h), rfl⟩, ⟨_, _, rfl, rfl, rfl, rfl, (fun h => by cases h), rfl⟩, trivial⟩) (trivial) (⟨(fun h => by cases h), (fun h => by cases h), trivial⟩) rfl) trivial rfl ?_
 refine .nil ?_
 show Ev _ _ _ _ _
 refine .cond_false rfl (rfl) ?_
 refine .skip ?_
 show Ev _ _ _ _ _
 refine .region ?_
 refine .q (op_addI rfl rfl ⟨by omega, by omega⟩) trivial rfl ?_
 refine .q (op_move rfl) trivial rfl ?_
 refine .nil ?_
 show Ev _ _ _ _ _
 refine .seq ?_
 refine .region ?_
 refine .q (op_cmpI rfl rfl rfl) trivial rfl ?_
 refine .nil ?_
 show Ev _ _ _ _ _
 refine .seq ?_
 refine .cond_true rfl (rfl) ?_
 refine .skip ?_
 show Ev _ _ _ _ _
 refine .seq ?_
 refine .block ?_
 refine .seq ?_
 refine .region ?_
 refine .q (op_move rfl) trivial rfl ?_
 refine .q (op_index_row (i := 12) Tryd.underlying57 Tryd.underlying31 rfl (by kernel_rfl) rfl rfl rfl (show _ = ((12 : Nat) : Int) from rfl) rfl (by show 12 < 20; decide) (by decide)) trivial rfl ?_
 refine .q (op_assign rfl) trivial rfl ?_
 refine .q (op_assign rfl) trivial rfl ?_
 refine .nil ?_
 show Ev _ _ _ _ _
 refine .seq ?_
 refine .region ?_
 refine .q (op_move rfl) trivial rfl ?_
 refine .q (op_move rfl) trivial rfl ?_
 refine .q (op_call (U := []) [] [] (is_other_ev 17 12 (eo 17) (eo 12) (hd _ _ (by decide) (by decide) (by decide))) Tryd.func20 (by kernel_rfl) rfl rfl rfl (⟨⟨_, rfl, rfl, rfl⟩, ⟨_, rfl, rfl, rfl⟩, trivial⟩) (⟨⟨_, _, rfl, rfl, rfl, rfl, (fun h => by cases h), rfl⟩, ⟨_, _, rfl, rfl, rfl, rfl, (fun h => by cases h), rfl⟩, trivial⟩) (trivial) (⟨(fun h => by cases h), (fun h => by cases h), trivial⟩) rfl) trivial rfl ?_
 refine .nil ?_
 show Ev _ _ _ _ _
 refine .cond_false rfl (rfl) ?_
 refine .skip ?_
 show Ev _ _ _ _ _
 refine .region ?_
 refine .q (op_addI rfl rfl ⟨by omega, by omega⟩) trivial rfl ?_
 refine .q (op_move rfl) trivial rfl ?_
 refine .nil ?_
 show Ev _ _ _ _ _
 refine .seq ?_
 refine .region ?_
 refine .q (op_cmpI rfl rfl rfl) trivial rfl ?_
 refine .nil ?_
 show Ev _ _ _ _ _
 refine .seq ?_
 refine .cond_true rfl (rfl) ?_
 refine .skip ?_
 show Ev _ _ _ _ _
 refine .seq ?_
 refine .block ?_
 refine .seq ?_
 refine .region ?_
 refine .q (op_move rfl) trivial rfl ?_
 refine .q (op_index_row (i := 13) Tryd.underlying57 Tryd.underlying31 rfl (by kernel_rfl) rfl rfl rfl (show _ = ((13 : Nat) : Int) from rfl) rfl (by show 13 < 20; decide) (by decide)) trivial rfl ?_
 refine .q (op_assign rfl) trivial rfl ?_
 refine .q (op_assign rfl) trivial rfl ?_
 refine .nil ?_
 show Ev _ _ _ _ _
 refine .seq ?_
 refine .region ?_
 refine .q (op_move rfl) trivial rfl ?_
 refine .q (op_move rfl) trivial rfl ?_
 refine .q (op_call (U := []) [] [] (is_other_ev 17 13 (eo 17) (eo 13) (hd _ _ (by decide) (by decide) (by decide))) Tryd.func20 (by kernel_rfl) rfl rfl rfl (⟨⟨_, rfl, rfl, rfl⟩, ⟨_, rfl, rfl, rfl⟩, trivial⟩) (⟨⟨_, _, rfl, rfl, rfl, rfl, (fun h => by cases h), rfl⟩, ⟨_, _, rfl, rfl, rfl, rfl, (fun h => by cases h), rfl⟩, trivial⟩) (trivial) (⟨(fun h => by cases h), (fun h => by cases h), trivial⟩) rfl) trivial rfl ?_
 refine .nil ?_
 show Ev _ _ _ _ _
 refine .cond_false rfl (rfl) ?_
 refine .skip ?_
 show Ev _ _ _ _ _
 refine .region ?_
 refine .q (op_addI rfl rfl ⟨by omega, by omega⟩) trivial rfl ?_
 refine .q (op_move rfl) trivial rfl ?_
 refine .nil ?_
 show Ev _ _ _ _ _
 refine .seq ?_
 refine .region ?_
 refine .q (op_cmpI rfl rfl rfl) trivial rfl ?_
 refine .nil ?_
 show Ev _ _ _ _ _
 refine .seq ?_
 refine .cond_true rfl (rfl) ?_
 refine .skip ?_
 show Ev _ _ _ _ _
 refine .seq ?_
 refine .block ?_
 refine .seq ?_
 refine .region ?_
 refine .q (op_move rfl) trivial rfl ?_
 refine .q (op_index_row (i := 14) Tryd.underlying57 Tryd.underlying31 rfl (by kernel_rfl) rfl rfl rfl (show _ = ((14 : Nat) : Int) from rfl) rfl (by show 14 < 20; decide) (by decide)) trivial rfl ?_
 refine .q (op_assign rfl) trivial rfl ?_
 refine .q (op_assign rfl) trivial rfl ?_
 refine .nil ?_
 show Ev _ _ _ _ _
 refine .seq ?_
 refine .region ?_
 refine .q (op_move rfl) trivial rfl ?_
 refine .q (op_move rfl) trivial rfl ?_
 refine .q (op_call (U := []) [] [] (is_other_ev 17 14 (eo 17) (eo 14) (hd _ _ (by decide) (by decide) (by decide))) Tryd.func20 (by kernel_rfl) rfl rfl rfl (⟨⟨_, rfl, rfl, rfl⟩, ⟨_, rfl, rfl, rfl⟩, trivial⟩) (⟨⟨_, _, rfl, rfl, rfl, rfl, (fun h => by cases h), rfl⟩, ⟨_, _, rfl, rfl, rfl, rfl, (fun h => by cases h), rfl⟩, trivial⟩) (trivial) (⟨(fun h => by cases h), (fun h => by cases h), trivial⟩) rfl) trivial rfl ?_
 refine .nil ?_
 show Ev _ _ _ _ _
 refine .cond_false rfl (rfl) ?_
 refine .skip ?_
 show Ev _ _ _ _ _
 refine .region ?_
 refine .q (op_addI rfl rfl ⟨by omega, by omega⟩) trivial rfl ?_
 refine .q (op_move rfl) trivial rfl ?_
 refine .nil ?_
 show Ev _ _ _ _ _
 refine .seq ?_
 refine .region ?_
 refine .q (op_cmpI rfl rfl rfl) trivial rfl ?_
 refine .nil ?_
 show Ev _ _ _ _ _
 refine .seq ?_
 refine .cond_true rfl (rfl) ?_
 refine .skip ?_
 show Ev _ _ _ _ _
 refine .seq ?_
 refine .block ?_
 refine .seq ?_
 refine .region ?_
 refine .q (op_move rfl) trivial rfl ?_
 refine .q (op_index_row (i := 15) Tryd.underlying57 Tryd.underlying31 rfl (by kernel_rfl) rfl rfl rfl (show _ = ((15 : Nat) : Int) from rfl) rfl (by show 15 < 20; decide) (by decide)) trivial rfl ?_
 refine .q (op_assign rfl) trivial rfl ?_
 refine .q (op_assign rfl) trivial rfl ?_
 refine .nil ?_
 show Ev _ _ _ _ _
 refine .seq ?_
 refine .region ?_
 refine .q (op_move rfl) trivial rfl ?_
 refine .q (op_move rfl) trivial rfl ?_
 refine .q (op_call (U := []) [] [] (is_other_ev 17 15 (eo 17) (eo 15) (hd _ _ (by decide) (by decide) (by decide))) Tryd.func20 (by kernel_rfl) rfl rfl rfl (⟨⟨_, rfl, rfl, rfl⟩, ⟨_, rfl, rfl, rfl⟩, trivial⟩) (⟨⟨_, _, rfl, rfl, rfl, rfl, (fun h => by cases h), rfl⟩, ⟨_, _, rfl, rfl, rfl, rfl, (fun h => by cases h), rfl⟩, trivial⟩) (trivial) (⟨(fun h => by cases h), (fun h => by cases h), trivial⟩) rfl) trivial rfl ?_
 refine .nil ?_
 show Ev _ _ _ _ _
 refine .cond_false rfl (rfl) ?_
 refine .skip ?_
 show Ev _ _ _ _ _
 refine .region ?_
 refine .q (op_addI rfl rfl ⟨by omega, by omega⟩) trivial rfl ?_
 refine .q (op_move rfl) trivial rfl ?_
 refine .nil ?_
 show Ev _ _ _ _ _
 refine .seq ?_
 refine .region ?_
 refine .q (op_cmpI rfl rfl rfl) trivial rfl ?_
 refine .nil ?_
 show Ev _ _ _ _ _
 refine .seq ?_
 refine .cond_true rfl (rfl) ?_
 refine .skip ?_
 show Ev _ _ _ _ _
 refine .seq ?_
 refine .block ?_
 refine .seq ?_
 refine .region ?_
 refine .q (op_move rfl) trivial rfl ?_
 refine .q (op_index_row (i := 16) Tryd.underlying57 Tryd.underlying31 rfl (by kernel_rfl) rfl rfl rfl (show _ = ((16 : Nat) : Int) from rfl) rfl (by show 16 < 20; decide) (by decide)) trivial rfl ?_
 refine .q (op_assign rfl) trivial rfl ?_
 refine .q (op_assign rfl) trivial rfl ?_
 refine .nil ?_
 show Ev _ _ _ _ _
 refine .seq ?_
 refine .region ?_
 refine .q (op_move rfl) trivial rfl ?_
 refine .q (op_move rfl) trivial rfl ?_
 refine .q (op_call (U := []) [] [] (is_other_ev 17 16 (eo 17) (eo 16) (hd _ _ (by decide) (by decide) (by decide))) Tryd.func20 (by kernel_rfl) rfl rfl rfl (⟨⟨_, rfl, rfl, rfl⟩, ⟨_, rfl, rfl, rfl⟩, trivial⟩) (⟨⟨_, _, rfl, rfl, rfl, rfl, (fun h => by cases h), rfl⟩, ⟨_, _, rfl, rfl, rfl, rfl, (fun h => by cases h), rfl⟩, trivial⟩) (trivial) (⟨(fun h => by cases h), (fun h => by cases h), trivial⟩) rfl) trivial rfl ?_
 refine .nil ?_
 show Ev _ _ _ _ _
 refine .cond_false rfl (rfl) ?_
 refine .skip ?_
 show Ev _ _ _ _ _
 refine .region ?_
 refine .q (op_addI rfl rfl ⟨by omega, by omega⟩) trivial rfl ?_
 refine .q (op_move rfl) trivial rfl ?_
 refine .nil ?_
 show Ev _ _ _ _ _
 refine .seq ?_
 refine .region ?_
 refine .q (op_cmpI rfl rfl rfl) trivial rfl ?_
 refine .nil ?_
 show Ev _ _ _ _ _
 refine .seq ?_
 refine .cond_true rfl (rfl) ?_
 refine .skip ?_
 show Ev _ _ _ _ _
 refine .seq ?_
 refine .block ?_
 refine .seq ?_
 refine .region ?_
 refine .q (op_move rfl) trivial rfl ?_
 refine .q (op_index_row (i := 17) Tryd.underlying57 Tryd.underlying31 rfl (by kernel_rfl) rfl rfl rfl (show _ = ((17 : Nat) : Int) from rfl) rfl (by show 17 < 20; decide) (by decide)) trivial rfl ?_
 refine .q (op_assign rfl) trivial rfl ?_
 refine .q (op_assign rfl) trivial rfl ?_
 refine .nil ?_
 show Ev _ _ _ _ _
 refine .seq ?_
 refine .region ?_
 refine .q (op_move rfl) trivial rfl ?_
 refine .q (op_move rfl) trivial rfl ?_
 refine .q (op_call (U := []) [] [] (is_same_ev 17 (eo 17)) Tryd.func20 (by kernel_rfl) rfl rfl rfl (⟨⟨_, rfl, rfl, rfl⟩, ⟨_, rfl, rfl, rfl⟩, trivial⟩) (trivial) (trivial) (trivial) rfl) trivial rfl ?_
 refine .nil ?_
 show Ev _ _ _ _ _
 refine .cond_true rfl (rfl) ?_
 refine .seq ?_
 refine .region ?_
 refine .q (op_move rfl) trivial rfl ?_
 refine .q (op_addI rfl rfl ⟨by omega, by omega⟩) trivial rfl ?_
 refine .q (op_assign rfl) trivial rfl ?_
 refine .nil ?_
 show Ev _ _ _ _ _
 refine .ret ?_
 show RetOk _ _ _ _ _ _ _
 exact ret1v rfl (.inl rfl) rfl rfl trivial
end Go.Proofs.YtpmoonglbcglaaaDoor
namespace Go.Proofs.YtpmoonglbcglaaaDoor
open Go.RowKit
/-- A call of a link. -/
structure ActN where
  k : Int
  w : Int
  n : Int
  s : List UInt8
  y : UInt8
  h : s.length ≤ maxLen
instance : Inhabited ActN := ⟨⟨0, 0, 0, [], 0, Nat.zero_le _⟩⟩
def actN (a : ActN) : List AV := [.i64 a.k, .i64 a.w, .i64 a.n, .str a.s, .u8 a.y]
theorem actN_flat (a : ActN) : (actN a).all AV.flatV = true := rfl
theorem actN_len (a : ActN) : (actN a).length = 5 := rfl
/-- What a link holds, and whether it is down. -/
structure NSt (R : Int) (m : Nat) where
  d : Bool
  x : Option BX
  y : Option BX
  hd : (d = true ∧ x = none ∧ y = none) ∨ d = false
  hx : BOk x m
  hy : BOk y m
  lx : ((live x).length : Int) ≤ R
  ly : ((live y).length : Int) ≤ R
/-- Which way an item goes: what is wanted of it. -/
structure NC (R : Int) (m : Nat) (X : ActN) where
  st : NSt R m
  want : Int
  hw : (X.k = 4 ∧ want = 0) ∨ (X.k ≠ 4 ∧ ((want = 1 ∧ (X.w < 0 ∨ 2 ≤ X.w)) ∨ (want = 18 ∧ 0 ≤ X.w ∧ X.w < 2 ∧ st.d = true) ∨ (want = 0 ∧ X.w = 0 ∧ st.d = false) ∨ (want = 0 ∧ X.w = 1 ∧ st.d = false)))
structure NL (R : Int) (n : Nat) where
  i : Nat
  st : NSt R (30 * i)
  hi : i ≤ n
  h120 : i ≤ 120
theorem live_le {x : Option BX} {m : Nat} (h : BOk x m) : (live x).length ≤ m := by
  cases x with
  | none => exact Nat.zero_le _
  | some x => rw [live_len' h]; have := BXok.hLm h; omega
theorem nil_errN (t : Nat) (o : Nat × Nat) (E : Emb) (y : Value) (h : Rel E (.val .nilIface) y) : Rel E (.err t 0 o) y := by rw [h.val_inv]; exact .err0 t o
theorem bne_same {a b : Int} (h : a = b) : (a != b) = false := by rw [h]; simp
theorem bne_sameS {a b : List UInt8} (h : a = b) : (a != b) = false := by rw [h]; simp
theorem bend_str {a : List UInt8} {i : Nat} {v : UInt8} (h : i < a.length) : (a.take i ++ [v]) ++ a.drop (i + 1) = a.set i v := by
  rw [List.set_eq_take_append_cons_drop, if_pos h]; simp
theorem new_R (n R : Int) (h : min (max n 1) 16777216 = R) : Meets Tryd.prog 6 [.i64 n] [] (.ptr 1000 0) [(1000, some ⟨rowW R false 501 502 none none, 51, true⟩)] := by
  subst h
  exact new_ev n
/-- A part of a function's code. -/
def codeAt : List Bool → Code → Code
  | [], c => c
  | b :: r, .seq x y => codeAt r (match b with | false => x | true => y)
  | b :: r, .cond _ x y => codeAt r (match b with | false => x | true => y)
  | _ :: r, .block _ c => codeAt r c
  | _ :: r, .loop c => codeAt r c
  | _ :: _, c => c
set_option maxHeartbeats 4000000 in
set_option maxRecDepth 100000 in
theorem plays_rest (eo : Nat → Nat × Nat) (R : Int) (hR0 : 0 ≤ R) (hR1 : R ≤ 1000000000) (o : Nat) (l : List ActN) (i : Nat) (h120 : i < 120) (d' : Bool) (x' y' : Option BX) (hd' : (d' = true ∧ x' = none ∧ y' = none) ∨ d' = false) (hx' : BOk x' (30 * (i + 1))) (hy' : BOk y' (30 * (i + 1))) (lx' : ((live x').length : Int) ≤ R) (ly' : ((live y').length : Int) ≤ R) :
  Ev Tryd.prog 287 (codeAt [true, true, true, true, true, true, true, false, true, false, false, true, false, false, true, true, true, true, true, true, true, true] ((Tryd.f3).body.getD .skip)) ⟨[(0, .i64 R), (1, .sl 450 o l.length 5), (5, .ptr 1000 0), (6, .sl 1024 0 2 1), (7, .bool (!d')), (8, .i64 ((i : Nat) : Int))], [(1000, some ⟨rowW R d' 1008 1016 x' y', 51, true⟩), (1008, bK true x'), (1016, bK true y'), (1024, some ⟨.aggS [live x', live y'], 9, true⟩), (0, some ⟨.agg [.err 79 (1) (offE eo (1))], errT, false⟩), (1, some ⟨.agg [.err 79 (2) (offE eo (2))], errT, false⟩), (2, some ⟨.agg [.err 79 (3) (offE eo (3))], errT, false⟩), (3, some ⟨.agg [.err 79 (4) (offE eo (4))], errT, false⟩), (4, some ⟨.agg [.err 79 (5) (offE eo (5))], errT, false⟩), (5, some ⟨.agg [.err 79 (6) (offE eo (6))], errT, false⟩), (6, some ⟨.agg [.err 79 (7) (offE eo (7))], errT, false⟩), (7, some ⟨.agg [.err 79 (8) (offE eo (8))], errT, false⟩), (8, some ⟨.agg [.err 79 (9) (offE eo (9))], errT, false⟩), (9, some ⟨.agg [.err 79 (10) (offE eo (10))], errT, false⟩), (10, some ⟨.agg [.err 79 (11) (offE eo (11))], errT, false⟩), (11, some ⟨.agg [.err 79 (12) (offE eo (12))], errT, false⟩), (12, some ⟨.agg [.err 79 (13) (offE eo (13))], errT, false⟩), (13, some ⟨.agg [.err 79 (14) (offE eo (14))], errT, false⟩), (14, some ⟨.agg [.err 79 (15) (offE eo (15))], errT, false⟩), (15, some ⟨.agg [.err 79 (16) (offE eo (16))], errT, false⟩), (16, some ⟨.agg [.err 79 (17) (offE eo (17))], errT, false⟩), (17, some ⟨.agg [.err 79 (18) (offE eo (18))], errT, false⟩), (18, some ⟨.agg [.err 79 (19) (offE eo (19))], errT, false⟩), (19, some ⟨.agg [.err 79 (20) (offE eo (20))], errT, false⟩), (401, some ⟨.agg [], errT, false⟩), (402, some ⟨.agg [], errT, false⟩), (403, some ⟨.agg [], errT, false⟩), (404, some ⟨.agg [], errT, false⟩), (405, some ⟨.agg [], errT, false⟩), (406, some ⟨.agg [], errT, false⟩), (407, some ⟨.agg [], errT, false⟩), (408, some ⟨.agg [], errT, false⟩), (409, some ⟨.agg [], errT, false⟩), (410, some ⟨.agg [], errT, false⟩), (411, some ⟨.agg [], errT, false⟩), (412, some ⟨.agg [], errT, false⟩), (413, some ⟨.agg [], errT, false⟩), (414, some ⟨.agg [], errT, false⟩), (415, some ⟨.agg [], errT, false⟩), (416, some ⟨.agg [], errT, false⟩), (417, some ⟨.agg [], errT, false⟩), (418, some ⟨.agg [], errT, false⟩), (419, some ⟨.agg [], errT, false⟩), (420, some ⟨.agg [], errT, false⟩), (450, some ⟨.agg (offC o (rowsC actN l)), anyT, false⟩)], 1048⟩ (thenA (fun st2 => ∃ q : NSt R (30 * (i + 1)), StLe 287 st2 ⟨[(0, .i64 R), (1, .sl 450 o l.length 5), (5, .ptr 1000 0), (6, .sl 1024 0 2 1), (7, .bool (!q.d)), (8, .i64 ((i : Nat) : Int))], [(1000, some ⟨rowW R q.d 1008 1016 q.x q.y, 51, true⟩), (1008, bK true q.x), (1016, bK true q.y), (1024, some ⟨.aggS [live q.x, live q.y], 9, true⟩), (0, some ⟨.agg [.err 79 (1) (offE eo (1))], errT, false⟩), (1, some ⟨.agg [.err 79 (2) (offE eo (2))], errT, false⟩), (2, some ⟨.agg [.err 79 (3) (offE eo (3))], errT, false⟩), (3, some ⟨.agg [.err 79 (4) (offE eo (4))], errT, false⟩), (4, some ⟨.agg [.err 79 (5) (offE eo (5))], errT, false⟩), (5, some ⟨.agg [.err 79 (6) (offE eo (6))], errT, false⟩), (6, some ⟨.agg [.err 79 (7) (offE eo (7))], errT, false⟩), (7, some ⟨.agg [.err 79 (8) (offE eo (8))], errT, false⟩), (8, some ⟨.agg [.err 79 (9) (offE eo (9))], errT, false⟩), (9, some ⟨.agg [.err 79 (10) (offE eo (10))], errT, false⟩), (10, some ⟨.agg [.err 79 (11) (offE eo (11))], errT, false⟩), (11, some ⟨.agg [.err 79 (12) (offE eo (12))], errT, false⟩), (12, some ⟨.agg [.err 79 (13) (offE eo (13))], errT, false⟩), (13, some ⟨.agg [.err 79 (14) (offE eo (14))], errT, false⟩), (14, some ⟨.agg [.err 79 (15) (offE eo (15))], errT, false⟩), (15, some ⟨.agg [.err 79 (16) (offE eo (16))], errT, false⟩), (16, some ⟨.agg [.err 79 (17) (offE eo (17))], errT, false⟩), (17, some ⟨.agg [.err 79 (18) (offE eo (18))], errT, false⟩), (18, some ⟨.agg [.err 79 (19) (offE eo (19))], errT, false⟩), (19, some ⟨.agg [.err 79 (20) (offE eo (20))], errT, false⟩), (401, some ⟨.agg [], errT, false⟩), (402, some ⟨.agg [], errT, false⟩), (403, some ⟨.agg [], errT, false⟩), (404, some ⟨.agg [], errT, false⟩), (405, some ⟨.agg [], errT, false⟩), (406, some ⟨.agg [], errT, false⟩), (407, some ⟨.agg [], errT, false⟩), (408, some ⟨.agg [], errT, false⟩), (409, some ⟨.agg [], errT, false⟩), (410, some ⟨.agg [], errT, false⟩), (411, some ⟨.agg [], errT, false⟩), (412, some ⟨.agg [], errT, false⟩), (413, some ⟨.agg [], errT, false⟩), (414, some ⟨.agg [], errT, false⟩), (415, some ⟨.agg [], errT, false⟩), (416, some ⟨.agg [], errT, false⟩), (417, some ⟨.agg [], errT, false⟩), (418, some ⟨.agg [], errT, false⟩), (419, some ⟨.agg [], errT, false⟩), (420, some ⟨.agg [], errT, false⟩), (450, some ⟨.agg (offC o (rowsC actN l)), anyT, false⟩)], 1048⟩) (fun _ _ => False)) := by
 have lx2' := live_le hx'
 have ly2' := live_le hy'
 have hdk := hd'
 rcases hdk with ⟨rfl, rfl, rfl⟩ | rfl
 ·refine .seq ?_
  refine .region ?_
  refine .q (op_move rfl) trivial rfl ?_
  refine .nil ?_
  show Ev _ _ _ _ _
  refine .block ?_
  refine Ev.rounds 3 ?_
  show Ev _ _ _ _ _
  refine .seq ?_
  refine .region ?_
  refine .q (op_cmpI rfl rfl rfl) trivial rfl ?_
  refine .nil ?_
  show Ev _ _ _ _ _
  refine .seq ?_
  refine .cond_true rfl (rfl) ?_
  refine .skip ?_
  show Ev _ _ _ _ _
  refine .seq ?_
  refine .block ?_
  refine .seq ?_
  refine .region ?_
  refine .q (op_move rfl) trivial rfl ?_
  refine .q (op_assign rfl) trivial rfl ?_
  refine .nil ?_
  show Ev _ _ _ _ _
  refine .seq ?_
  refine .region ?_
  skip
  refine .q (op_move rfl) trivial rfl ?_
  refine .q (op_move rfl) trivial rfl ?_
  refine .q (op_move rfl) trivial rfl ?_
  refine .q (ap_idx0 Tryd.underlying26 inf9.sz rfl rfl (show _ = ((0 : Nat) : Int) from rfl) (by decide)) trivial rfl ?_
  refine .q (op_load Tryd.underlying9 rfl rfl rfl rfl (by first | omega | (simp only [AV.len]; omega) | (simp only [AV.len]; omega) | assumption | (simp [AV.len]; done))) trivial rfl ?_
  refine .q (op_len_str Tryd.underlying9 rfl) trivial rfl ?_
  refine .q (op_subI rfl rfl (show InI (R - ((live none).length : Int)) from ⟨by omega, by omega⟩)) trivial rfl ?_
  refine .q (op_assign rfl) trivial rfl ?_
  refine .nil ?_
  show Ev _ _ _ _ _
  refine .seq ?_
  refine .seq ?_
  refine .region ?_
  refine .q (op_move rfl) trivial rfl ?_
  refine .q (op_notB rfl) trivial rfl ?_
  refine .nil ?_
  show Ev _ _ _ _ _
  refine .cond_true rfl (rfl) ?_
  refine .region ?_
  refine .q (op_assign rfl) trivial rfl ?_
  refine .nil ?_
  show Ev _ _ _ _ _
  refine .seq ?_
  refine .drawn [[], [], [0, 1], [], [], [3, 4], [3, 4, 5], [3, 4, 5, 6], [0, 1, 2, 3, 4, 5, 6, 7], [0, 1, 2, 3, 4, 5, 6, 7, 8], [0, 1, 2, 3, 4, 5, 6, 7, 8, 9], [0, 1, 2, 3, 4, 5, 6, 7, 8, 9], [0, 1, 2, 3, 4, 5, 6, 7, 8, 9, 10, 11], [0, 1, 2, 3, 4, 5, 6, 7, 8, 9], [0, 1, 2, 3, 4, 5, 6, 7, 8, 9, 10, 11, 12, 13], [0, 1, 2, 3, 4, 5, 6, 7, 8, 9, 10, 11, 12, 13, 14], [0, 1, 2, 3, 4, 5, 6, 7, 8, 9, 10, 11, 12, 13, 14, 15], [0, 1, 2, 3, 4, 5, 6, 7, 8, 9, 10, 11, 12, 13, 14, 15, 16], [0, 1, 2, 3, 4, 5, 6, 7, 8, 9, 10, 11, 12, 13, 14, 15, 16, 17], [0, 1, 2, 3, 4, 5, 6, 7, 8, 9, 10, 11, 12, 13, 14, 15, 16], [0, 1, 2, 3, 4, 5, 6, 7, 8, 9, 10, 11, 12, 13, 14, 15, 16, 17, 18, 19], [0, 1, 2, 3, 4, 5, 6, 7, 8, 9, 10, 11, 12, 13, 14, 15, 16, 17, 18, 19, 20]] [2, 6, 12, 18] [] (by kernel_rfl) (by kernel_rfl) rfl ?_
  show DK _ [0, 1, 2, 3, 4, 5, 6, 7, 8, 9, 10, 11, 12, 13, 14, 15, 16, 17, 18, 19, 20, 21] _ _ _
  refine .q rfl (op_move rfl) trivial ?_
  refine .q rfl (op_move rfl) trivial ?_
  refine .q rfl (op_call (U := []) [(500, 1000)] [] (len_gone R 0 (by decide) (by decide) eo) Tryd.func14 (by kernel_rfl) rfl rfl rfl (⟨⟨_, rfl, rfl, rfl⟩, ⟨_, rfl, rfl, rfl⟩, trivial⟩) (⟨⟨_, _, rfl, rfl, rfl, rfl, (fun h => by cases h), rfl⟩, ⟨_, _, rfl, rfl, rfl, rfl, (fun h => by cases h), rfl⟩, trivial⟩) (trivial) (⟨(fun h => by cases h), (fun h => by cases h), trivial⟩) rfl) trivial ?_
  refine .q rfl (op_move rfl) trivial ?_
  refine .q rfl (op_move rfl) trivial ?_
  refine .q rfl (ap_idx0 Tryd.underlying26 inf9.sz rfl rfl (show _ = ((0 : Nat) : Int) from rfl) (by decide)) trivial ?_
  refine .q rfl (op_load Tryd.underlying9 rfl rfl rfl rfl (by first | omega | (simp only [AV.len]; omega) | (simp only [AV.len]; omega) | assumption | (simp [AV.len]; done))) trivial ?_
  refine .q rfl (op_len_str Tryd.underlying9 rfl) trivial ?_
  refine .q rfl (op_cmpI rfl rfl rfl) trivial ?_
  refine .q rfl (op_move rfl) trivial ?_
  refine .know (b' := false) (bne_same rfl) ?_
  refine .q rfl (op_move rfl) ⟨_, rfl, rfl⟩ ?_
  refine .q rfl (op_move rfl) ⟨_, rfl, rfl⟩ ?_
  refine .q rfl (op_call (U := []) [(500, 1000)] [] (room_gone R 0 (by decide) (by decide) eo) Tryd.func15 (by kernel_rfl) rfl rfl rfl (⟨⟨_, rfl, rfl, rfl⟩, ⟨_, rfl, rfl, rfl⟩, trivial⟩) (⟨⟨_, _, rfl, rfl, rfl, rfl, (fun h => by cases h), rfl⟩, ⟨_, _, rfl, rfl, rfl, rfl, (fun h => by cases h), rfl⟩, trivial⟩) (trivial) (⟨(fun h => by cases h), (fun h => by cases h), trivial⟩) rfl) ⟨_, rfl, rfl⟩ ?_
  refine .q rfl (op_move rfl) ⟨_, rfl, rfl⟩ ?_
  refine .q rfl (op_cmpI rfl rfl rfl) ⟨_, rfl, rfl⟩ ?_
  refine .q rfl (op_pick_false rfl rfl rfl) trivial ?_
  refine .q rfl (op_move rfl) trivial ?_
  refine .know (b' := false) (bne_same rfl) ?_
  refine .q rfl (op_move rfl) ⟨_, rfl, rfl⟩ ?_
  refine .q rfl (op_call (U := []) [(500, 1000), (501, 1008), (502, 1016)] [] (up_ev R true none none) Tryd.func16 (by kernel_rfl) rfl rfl rfl (⟨⟨_, rfl, rfl, rfl⟩, trivial⟩) (⟨⟨_, _, rfl, rfl, rowW_ren _ _ _ _ _ _ _, rfl, (fun h => by cases h), rowW_nmC _ _ _ _ _ _ _ rfl rfl⟩, trivial⟩) (trivial) (⟨(fun h => by cases h), trivial⟩) rfl) ⟨_, rfl, rfl⟩ ?_
  refine .q rfl (op_move rfl) ⟨_, rfl, rfl⟩ ?_
  refine .q rfl (op_eqB Tryd.underlying4 rfl rfl rfl) ⟨_, rfl, rfl⟩ ?_
  refine .q rfl (op_pick_false rfl rfl rfl) trivial ?_
  refine .nil ?_
  show Ev _ _ _ _ _
  refine .cond_false rfl (rfl) ?_
  refine .skip ?_
  show Ev _ _ _ _ _
  refine .region ?_
  refine .q (op_addI rfl rfl ⟨by omega, by omega⟩) trivial rfl ?_
  refine .q (op_move rfl) trivial rfl ?_
  refine .nil ?_
  show Ev _ _ _ _ _
  refine .seq ?_
  refine .region ?_
  refine .q (op_cmpI rfl rfl rfl) trivial rfl ?_
  refine .nil ?_
  show Ev _ _ _ _ _
  refine .seq ?_
  refine .cond_true rfl (rfl) ?_
  refine .skip ?_
  show Ev _ _ _ _ _
  refine .seq ?_
  refine .block ?_
  refine .seq ?_
  refine .region ?_
  refine .q (op_move rfl) trivial rfl ?_
  refine .q (op_assign rfl) trivial rfl ?_
  refine .nil ?_
  show Ev _ _ _ _ _
  refine .seq ?_
  refine .region ?_
  skip
  refine .q (op_move rfl) trivial rfl ?_
  refine .q (op_move rfl) trivial rfl ?_
  refine .q (op_move rfl) trivial rfl ?_
  refine .q (ap_idx0 Tryd.underlying26 inf9.sz rfl rfl (show _ = ((1 : Nat) : Int) from rfl) (by decide)) trivial rfl ?_
  refine .q (op_load Tryd.underlying9 rfl rfl rfl rfl (by first | omega | (simp only [AV.len]; omega) | (simp only [AV.len]; omega) | assumption | (simp [AV.len]; done))) trivial rfl ?_
  refine .q (op_len_str Tryd.underlying9 rfl) trivial rfl ?_
  refine .q (op_subI rfl rfl (show InI (R - ((live none).length : Int)) from ⟨by omega, by omega⟩)) trivial rfl ?_
  refine .q (op_assign rfl) trivial rfl ?_
  refine .nil ?_
  show Ev _ _ _ _ _
  refine .seq ?_
  refine .seq ?_
  refine .region ?_
  refine .q (op_move rfl) trivial rfl ?_
  refine .q (op_notB rfl) trivial rfl ?_
  refine .nil ?_
  show Ev _ _ _ _ _
  refine .cond_true rfl (rfl) ?_
  refine .region ?_
  refine .q (op_assign rfl) trivial rfl ?_
  refine .nil ?_
  show Ev _ _ _ _ _
  refine .seq ?_
  refine .drawn [[], [], [0, 1], [], [], [3, 4], [3, 4, 5], [3, 4, 5, 6], [0, 1, 2, 3, 4, 5, 6, 7], [0, 1, 2, 3, 4, 5, 6, 7, 8], [0, 1, 2, 3, 4, 5, 6, 7, 8, 9], [0, 1, 2, 3, 4, 5, 6, 7, 8, 9], [0, 1, 2, 3, 4, 5, 6, 7, 8, 9, 10, 11], [0, 1, 2, 3, 4, 5, 6, 7, 8, 9], [0, 1, 2, 3, 4, 5, 6, 7, 8, 9, 10, 11, 12, 13], [0, 1, 2, 3, 4, 5, 6, 7, 8, 9, 10, 11, 12, 13, 14], [0, 1, 2, 3, 4, 5, 6, 7, 8, 9, 10, 11, 12, 13, 14, 15], [0, 1, 2, 3, 4, 5, 6, 7, 8, 9, 10, 11, 12, 13, 14, 15, 16], [0, 1, 2, 3, 4, 5, 6, 7, 8, 9, 10, 11, 12, 13, 14, 15, 16, 17], [0, 1, 2, 3, 4, 5, 6, 7, 8, 9, 10, 11, 12, 13, 14, 15, 16], [0, 1, 2, 3, 4, 5, 6, 7, 8, 9, 10, 11, 12, 13, 14, 15, 16, 17, 18, 19], [0, 1, 2, 3, 4, 5, 6, 7, 8, 9, 10, 11, 12, 13, 14, 15, 16, 17, 18, 19, 20]] [2, 6, 12, 18] [] (by kernel_rfl) (by kernel_rfl) rfl ?_
  show DK _ [0, 1, 2, 3, 4, 5, 6, 7, 8, 9, 10, 11, 12, 13, 14, 15, 16, 17, 18, 19, 20, 21] _ _ _
  refine .q rfl (op_move rfl) trivial ?_
  refine .q rfl (op_move rfl) trivial ?_
  refine .q rfl (op_call (U := []) [(500, 1000)] [] (len_gone R 1 (by decide) (by decide) eo) Tryd.func14 (by kernel_rfl) rfl rfl rfl (⟨⟨_, rfl, rfl, rfl⟩, ⟨_, rfl, rfl, rfl⟩, trivial⟩) (⟨⟨_, _, rfl, rfl, rfl, rfl, (fun h => by cases h), rfl⟩, ⟨_, _, rfl, rfl, rfl, rfl, (fun h => by cases h), rfl⟩, trivial⟩) (trivial) (⟨(fun h => by cases h), (fun h => by cases h), trivial⟩) rfl) trivial ?_
  refine .q rfl (op_move rfl) trivial ?_
  refine .q rfl (op_move rfl) trivial ?_
  refine .q rfl (ap_idx0 Tryd.underlying26 inf9.sz rfl rfl (show _ = ((1 : Nat) : Int) from rfl) (by decide)) trivial ?_
  refine .q rfl (op_load Tryd.underlying9 rfl rfl rfl rfl (by first | omega | (simp only [AV.len]; omega) | (simp only [AV.len]; omega) | assumption | (simp [AV.len]; done))) trivial ?_
  refine .q rfl (op_len_str Tryd.underlying9 rfl) trivial ?_
  refine .q rfl (op_cmpI rfl rfl rfl) trivial ?_
  refine .q rfl (op_move rfl) trivial ?_
  refine .know (b' := false) (bne_same rfl) ?_
  refine .q rfl (op_move rfl) ⟨_, rfl, rfl⟩ ?_
  refine .q rfl (op_move rfl) ⟨_, rfl, rfl⟩ ?_
  refine .q rfl (op_call (U := []) [(500, 1000)] [] (room_gone R 1 (by decide) (by decide) eo) Tryd.func15 (by kernel_rfl) rfl rfl rfl (⟨⟨_, rfl, rfl, rfl⟩, ⟨_, rfl, rfl, rfl⟩, trivial⟩) (⟨⟨_, _, rfl, rfl, rfl, rfl, (fun h => by cases h), rfl⟩, ⟨_, _, rfl, rfl, rfl, rfl, (fun h => by cases h), rfl⟩, trivial⟩) (trivial) (⟨(fun h => by cases h), (fun h => by cases h), trivial⟩) rfl) ⟨_, rfl, rfl⟩ ?_
  refine .q rfl (op_move rfl) ⟨_, rfl, rfl⟩ ?_
  refine .q rfl (op_cmpI rfl rfl rfl) ⟨_, rfl, rfl⟩ ?_
  refine .q rfl (op_pick_false rfl rfl rfl) trivial ?_
  refine .q rfl (op_move rfl) trivial ?_
  refine .know (b' := false) (bne_same rfl) ?_
  refine .q rfl (op_move rfl) ⟨_, rfl, rfl⟩ ?_
  refine .q rfl (op_call (U := []) [(500, 1000), (501, 1008), (502, 1016)] [] (up_ev R true none none) Tryd.func16 (by kernel_rfl) rfl rfl rfl (⟨⟨_, rfl, rfl, rfl⟩, trivial⟩) (⟨⟨_, _, rfl, rfl, rowW_ren _ _ _ _ _ _ _, rfl, (fun h => by cases h), rowW_nmC _ _ _ _ _ _ _ rfl rfl⟩, trivial⟩) (trivial) (⟨(fun h => by cases h), trivial⟩) rfl) ⟨_, rfl, rfl⟩ ?_
  refine .q rfl (op_move rfl) ⟨_, rfl, rfl⟩ ?_
  refine .q rfl (op_eqB Tryd.underlying4 rfl rfl rfl) ⟨_, rfl, rfl⟩ ?_
  refine .q rfl (op_pick_false rfl rfl rfl) trivial ?_
  refine .nil ?_
  show Ev _ _ _ _ _
  refine .cond_false rfl (rfl) ?_
  refine .skip ?_
  show Ev _ _ _ _ _
  refine .region ?_
  refine .q (op_addI rfl rfl ⟨by omega, by omega⟩) trivial rfl ?_
  refine .q (op_move rfl) trivial rfl ?_
  refine .nil ?_
  show Ev _ _ _ _ _
  refine .seq ?_
  refine .region ?_
  refine .q (op_cmpI rfl rfl rfl) trivial rfl ?_
  refine .nil ?_
  show Ev _ _ _ _ _
  refine .seq ?_
  refine .cond_false rfl (rfl) ?_
  refine .exit ?_
  exact ⟨⟨true, none, none, .inl ⟨rfl, rfl, rfl⟩, trivial, trivial, lx', ly'⟩, StLe.mk [(1000, 1000), (1008, 1008), (1016, 1016), (1024, 1024)] rfl rfl ⟨⟨_, rfl, by first | rfl | (simp only [AV.ren]; congr 1; omega), rfl⟩, ⟨_, rfl, by first | rfl | (simp only [AV.ren]; congr 1; omega), rfl⟩, ⟨_, rfl, by first | rfl | (simp only [AV.ren]; congr 1; omega), rfl⟩, ⟨_, rfl, by first | rfl | (simp only [AV.ren]; congr 1; omega), rfl⟩, ⟨_, rfl, by first | rfl | (simp only [AV.ren]; congr 1; omega), rfl⟩, ⟨_, rfl, by first | rfl | (simp only [AV.ren]; congr 1; omega), rfl⟩, trivial⟩ ⟨⟨_, _, rfl, rfl, rowW_ren _ _ _ _ _ _ _, rfl, id, rowW_nm _ _ _ _ _ _ _ rfl rfl⟩, HLe.oc (bK_le rfl rfl) (HLe.oc (bK_le rfl rfl) ⟨⟨_, _, rfl, rfl, rfl, rfl, id, rfl⟩, p8, p8, p8, p8, p8, p8, p8, p8, p8, p8, p8, p8, p8, p8, p8, p8, p8, p8, p8, p8, p8, p8, p8, p8, p8, p8, p8, p8, p8, p8, p8, p8, p8, p8, p8, p8, p8, p8, p8, p8, ⟨_, _, rfl, rfl, offC_ren _ o (rowsC_flat actN_flat l), rfl, id, offC_nm _ o (rowsC_flat actN_flat l)⟩, trivial⟩)⟩⟩
 ·refine .seq ?_
  refine .region ?_
  refine .q (op_move rfl) trivial rfl ?_
  refine .nil ?_
  show Ev _ _ _ _ _
  refine .block ?_
  refine Ev.rounds 3 ?_
  show Ev _ _ _ _ _
  refine .seq ?_
  refine .region ?_
  refine .q (op_cmpI rfl rfl rfl) trivial rfl ?_
  refine .nil ?_
  show Ev _ _ _ _ _
  refine .seq ?_
  refine .cond_true rfl (rfl) ?_
  refine .skip ?_
  show Ev _ _ _ _ _
  refine .seq ?_
  refine .block ?_
  refine .seq ?_
  refine .region ?_
  refine .q (op_move rfl) trivial rfl ?_
  refine .q (op_assign rfl) trivial rfl ?_
  refine .nil ?_
  show Ev _ _ _ _ _
  refine .seq ?_
  refine .region ?_
  skip
  refine .q (op_move rfl) trivial rfl ?_
  refine .q (op_move rfl) trivial rfl ?_
  refine .q (op_move rfl) trivial rfl ?_
  refine .q (ap_idx0 Tryd.underlying26 inf9.sz rfl rfl (show _ = ((0 : Nat) : Int) from rfl) (by decide)) trivial rfl ?_
  refine .q (op_load Tryd.underlying9 rfl rfl rfl rfl (by first | omega | (simp only [AV.len]; omega) | (simp only [AV.len]; omega) | assumption | (simp [AV.len]; done))) trivial rfl ?_
  refine .q (op_len_str Tryd.underlying9 rfl) trivial rfl ?_
  refine .q (op_subI rfl rfl (show InI (R - ((live x').length : Int)) from ⟨by omega, by omega⟩)) trivial rfl ?_
  refine .q (op_assign rfl) trivial rfl ?_
  refine .nil ?_
  show Ev _ _ _ _ _
  refine .seq ?_
  refine .seq ?_
  refine .region ?_
  refine .q (op_move rfl) trivial rfl ?_
  refine .q (op_notB rfl) trivial rfl ?_
  refine .nil ?_
  show Ev _ _ _ _ _
  refine .cond_false rfl (rfl) ?_
  refine .skip ?_
  show Ev _ _ _ _ _
  refine .seq ?_
  refine .drawn [[], [], [0, 1], [], [], [3, 4], [3, 4, 5], [3, 4, 5, 6], [0, 1, 2, 3, 4, 5, 6, 7], [0, 1, 2, 3, 4, 5, 6, 7, 8], [0, 1, 2, 3, 4, 5, 6, 7, 8, 9], [0, 1, 2, 3, 4, 5, 6, 7, 8, 9], [0, 1, 2, 3, 4, 5, 6, 7, 8, 9, 10, 11], [0, 1, 2, 3, 4, 5, 6, 7, 8, 9], [0, 1, 2, 3, 4, 5, 6, 7, 8, 9, 10, 11, 12, 13], [0, 1, 2, 3, 4, 5, 6, 7, 8, 9, 10, 11, 12, 13, 14], [0, 1, 2, 3, 4, 5, 6, 7, 8, 9, 10, 11, 12, 13, 14, 15], [0, 1, 2, 3, 4, 5, 6, 7, 8, 9, 10, 11, 12, 13, 14, 15, 16], [0, 1, 2, 3, 4, 5, 6, 7, 8, 9, 10, 11, 12, 13, 14, 15, 16, 17], [0, 1, 2, 3, 4, 5, 6, 7, 8, 9, 10, 11, 12, 13, 14, 15, 16], [0, 1, 2, 3, 4, 5, 6, 7, 8, 9, 10, 11, 12, 13, 14, 15, 16, 17, 18, 19], [0, 1, 2, 3, 4, 5, 6, 7, 8, 9, 10, 11, 12, 13, 14, 15, 16, 17, 18, 19, 20]] [2, 6, 12, 18] [] (by kernel_rfl) (by kernel_rfl) rfl ?_
  show DK _ [0, 1, 2, 3, 4, 5, 6, 7, 8, 9, 10, 11, 12, 13, 14, 15, 16, 17, 18, 19, 20, 21] _ _ _
  refine .q rfl (op_move rfl) trivial ?_
  refine .q rfl (op_move rfl) trivial ?_
  refine .q rfl (op_call (U := []) [(500, 1000), (501, 1008), (502, 1016)] [] (wlen0 R x' y' (30 * (i + 1)) (by omega) hx') Tryd.func14 (by kernel_rfl) rfl rfl rfl (⟨⟨_, rfl, rfl, rfl⟩, ⟨_, rfl, rfl, rfl⟩, trivial⟩) (⟨⟨_, _, rfl, rfl, rowW_ren _ _ _ _ _ _ _, rfl, (fun h => by cases h), rowW_nmC _ _ _ _ _ _ _ rfl rfl⟩, trivial⟩) (trivial) (⟨(fun h => by cases h), trivial⟩) rfl) trivial ?_
  refine .q rfl (op_move rfl) trivial ?_
  refine .q rfl (op_move rfl) trivial ?_
  refine .q rfl (ap_idx0 Tryd.underlying26 inf9.sz rfl rfl (show _ = ((0 : Nat) : Int) from rfl) (by decide)) trivial ?_
  refine .q rfl (op_load Tryd.underlying9 rfl rfl rfl rfl (by first | omega | (simp only [AV.len]; omega) | (simp only [AV.len]; omega) | assumption | (simp [AV.len]; done))) trivial ?_
  refine .q rfl (op_len_str Tryd.underlying9 rfl) trivial ?_
  refine .q rfl (op_cmpI rfl rfl rfl) trivial ?_
  refine .q rfl (op_move rfl) trivial ?_
  refine .know (b' := false) (bne_same rfl) ?_
  refine .q rfl (op_move rfl) ⟨_, rfl, rfl⟩ ?_
  refine .q rfl (op_move rfl) ⟨_, rfl, rfl⟩ ?_
  refine .q rfl (op_call (U := []) [(500, 1000), (501, 1008), (502, 1016)] [] (wroom0 R hR0 hR1 x' y' (30 * (i + 1)) (by omega) hx') Tryd.func15 (by kernel_rfl) rfl rfl rfl (⟨⟨_, rfl, rfl, rfl⟩, ⟨_, rfl, rfl, rfl⟩, trivial⟩) (⟨⟨_, _, rfl, rfl, rowW_ren _ _ _ _ _ _ _, rfl, (fun h => by cases h), rowW_nmC _ _ _ _ _ _ _ rfl rfl⟩, trivial⟩) (trivial) (⟨(fun h => by cases h), trivial⟩) rfl) ⟨_, rfl, rfl⟩ ?_
  refine .q rfl (op_move rfl) ⟨_, rfl, rfl⟩ ?_
  refine .q rfl (op_cmpI rfl rfl rfl) ⟨_, rfl, rfl⟩ ?_
  refine .q rfl (op_pick_false rfl rfl rfl) trivial ?_
  refine .q rfl (op_move rfl) trivial ?_
  refine .know (b' := false) (bne_same rfl) ?_
  refine .q rfl (op_move rfl) ⟨_, rfl, rfl⟩ ?_
  refine .q rfl (op_call (U := []) [(500, 1000), (501, 1008), (502, 1016)] [] (up_ev R false x' y') Tryd.func16 (by kernel_rfl) rfl rfl rfl (⟨⟨_, rfl, rfl, rfl⟩, trivial⟩) (⟨⟨_, _, rfl, rfl, rowW_ren _ _ _ _ _ _ _, rfl, (fun h => by cases h), rowW_nmC _ _ _ _ _ _ _ rfl rfl⟩, trivial⟩) (trivial) (⟨(fun h => by cases h), trivial⟩) rfl) ⟨_, rfl, rfl⟩ ?_
  refine .q rfl (op_move rfl) ⟨_, rfl, rfl⟩ ?_
  refine .q rfl (op_eqB Tryd.underlying4 rfl rfl rfl) ⟨_, rfl, rfl⟩ ?_
  refine .q rfl (op_pick_false rfl rfl rfl) trivial ?_
  refine .nil ?_
  show Ev _ _ _ _ _
  refine .cond_false rfl (rfl) ?_
  refine .skip ?_
  show Ev _ _ _ _ _
  refine .region ?_
  refine .q (op_addI rfl rfl ⟨by omega, by omega⟩) trivial rfl ?_
  refine .q (op_move rfl) trivial rfl ?_
  refine .nil ?_
  show Ev _ _ _ _ _
  refine .seq ?_
  refine .region ?_
  refine .q (op_cmpI rfl rfl rfl) trivial rfl ?_
  refine .nil ?_
  show Ev _ _ _ _ _
  refine .seq ?_
  refine .cond_true rfl (rfl) ?_
  refine .skip ?_
  show Ev _ _ _ _ _
  refine .seq ?_
  refine .block ?_
  refine .seq ?_
  refine .region ?_
  refine .q (op_move rfl) trivial rfl ?_
  refine .q (op_assign rfl) trivial rfl ?_
  refine .nil ?_
  show Ev _ _ _ _ _
  refine .seq ?_
  refine .region ?_
  skip
  refine .q (op_move rfl) trivial rfl ?_
  refine .q (op_move rfl) trivial rfl ?_
  refine .q (op_move rfl) trivial rfl ?_
  refine .q (ap_idx0 Tryd.underlying26 inf9.sz rfl rfl (show _ = ((1 : Nat) : Int) from rfl) (by decide)) trivial rfl ?_
  refine .q (op_load Tryd.underlying9 rfl rfl rfl rfl (by first | omega | (simp only [AV.len]; omega) | (simp only [AV.len]; omega) | assumption | (simp [AV.len]; done))) trivial rfl ?_
  refine .q (op_len_str Tryd.underlying9 rfl) trivial rfl ?_
  refine .q (op_subI rfl rfl (show InI (R - ((live y').length : Int)) from ⟨by omega, by omega⟩)) trivial rfl ?_
  refine .q (op_assign rfl) trivial rfl ?_
  refine .nil ?_
  show Ev _ _ _ _ _
  refine .seq ?_
  refine .seq ?_
  refine .region ?_
  refine .q (op_move rfl) trivial rfl ?_
  refine .q (op_notB rfl) trivial rfl ?_
  refine .nil ?_
  show Ev _ _ _ _ _
  refine .cond_false rfl (rfl) ?_
  refine .skip ?_
  show Ev _ _ _ _ _
  refine .seq ?_
  refine .drawn [[], [], [0, 1], [], [], [3, 4], [3, 4, 5], [3, 4, 5, 6], [0, 1, 2, 3, 4, 5, 6, 7], [0, 1, 2, 3, 4, 5, 6, 7, 8], [0, 1, 2, 3, 4, 5, 6, 7, 8, 9], [0, 1, 2, 3, 4, 5, 6, 7, 8, 9], [0, 1, 2, 3, 4, 5, 6, 7, 8, 9, 10, 11], [0, 1, 2, 3, 4, 5, 6, 7, 8, 9], [0, 1, 2, 3, 4, 5, 6, 7, 8, 9, 10, 11, 12, 13], [0, 1, 2, 3, 4, 5, 6, 7, 8, 9, 10, 11, 12, 13, 14], [0, 1, 2, 3, 4, 5, 6, 7, 8, 9, 10, 11, 12, 13, 14, 15], [0, 1, 2, 3, 4, 5, 6, 7, 8, 9, 10, 11, 12, 13, 14, 15, 16], [0, 1, 2, 3, 4, 5, 6, 7, 8, 9, 10, 11, 12, 13, 14, 15, 16, 17], [0, 1, 2, 3, 4, 5, 6, 7, 8, 9, 10, 11, 12, 13, 14, 15, 16], [0, 1, 2, 3, 4, 5, 6, 7, 8, 9, 10, 11, 12, 13, 14, 15, 16, 17, 18, 19], [0, 1, 2, 3, 4, 5, 6, 7, 8, 9, 10, 11, 12, 13, 14, 15, 16, 17, 18, 19, 20]] [2, 6, 12, 18] [] (by kernel_rfl) (by kernel_rfl) rfl ?_
  show DK _ [0, 1, 2, 3, 4, 5, 6, 7, 8, 9, 10, 11, 12, 13, 14, 15, 16, 17, 18, 19, 20, 21] _ _ _
  refine .q rfl (op_move rfl) trivial ?_
  refine .q rfl (op_move rfl) trivial ?_
  refine .q rfl (op_call (U := []) [(500, 1000), (501, 1008), (502, 1016)] [] (wlen1 R x' y' (30 * (i + 1)) (by omega) hy') Tryd.func14 (by kernel_rfl) rfl rfl rfl (⟨⟨_, rfl, rfl, rfl⟩, ⟨_, rfl, rfl, rfl⟩, trivial⟩) (⟨⟨_, _, rfl, rfl, rowW_ren _ _ _ _ _ _ _, rfl, (fun h => by cases h), rowW_nmC _ _ _ _ _ _ _ rfl rfl⟩, trivial⟩) (trivial) (⟨(fun h => by cases h), trivial⟩) rfl) trivial ?_
  refine .q rfl (op_move rfl) trivial ?_
  refine .q rfl (op_move rfl) trivial ?_
  refine .q rfl (ap_idx0 Tryd.underlying26 inf9.sz rfl rfl (show _ = ((1 : Nat) : Int) from rfl) (by decide)) trivial ?_
  refine .q rfl (op_load Tryd.underlying9 rfl rfl rfl rfl (by first | omega | (simp only [AV.len]; omega) | (simp only [AV.len]; omega) | assumption | (simp [AV.len]; done))) trivial ?_
  refine .q rfl (op_len_str Tryd.underlying9 rfl) trivial ?_
  refine .q rfl (op_cmpI rfl rfl rfl) trivial ?_
  refine .q rfl (op_move rfl) trivial ?_
  refine .know (b' := false) (bne_same rfl) ?_
  refine .q rfl (op_move rfl) ⟨_, rfl, rfl⟩ ?_
  refine .q rfl (op_move rfl) ⟨_, rfl, rfl⟩ ?_
  refine .q rfl (op_call (U := []) [(500, 1000), (501, 1008), (502, 1016)] [] (wroom1 R hR0 hR1 x' y' (30 * (i + 1)) (by omega) hy') Tryd.func15 (by kernel_rfl) rfl rfl rfl (⟨⟨_, rfl, rfl, rfl⟩, ⟨_, rfl, rfl, rfl⟩, trivial⟩) (⟨⟨_, _, rfl, rfl, rowW_ren _ _ _ _ _ _ _, rfl, (fun h => by cases h), rowW_nmC _ _ _ _ _ _ _ rfl rfl⟩, trivial⟩) (trivial) (⟨(fun h => by cases h), trivial⟩) rfl) ⟨_, rfl, rfl⟩ ?_
  refine .q rfl (op_move rfl) ⟨_, rfl, rfl⟩ ?_
  refine .q rfl (op_cmpI rfl rfl rfl) ⟨_, rfl, rfl⟩ ?_
  refine .q rfl (op_pick_false rfl rfl rfl) trivial ?_
  refine .q rfl (op_move rfl) trivial ?_
  refine .know (b' := false) (bne_same rfl) ?_
  refine .q rfl (op_move rfl) ⟨_, rfl, rfl⟩ ?_
  refine .q rfl (op_call (U := []) [(500, 1000), (501, 1008), (502, 1016)] [] (up_ev R false x' y') Tryd.func16 (by kernel_rfl) rfl rfl rfl (⟨⟨_, rfl, rfl, rfl⟩, trivial⟩) (⟨⟨_, _, rfl, rfl, rowW_ren _ _ _ _ _ _ _, rfl, (fun h => by cases h), rowW_nmC _ _ _ _ _ _ _ rfl rfl⟩, trivial⟩) (trivial) (⟨(fun h => by cases h), trivial⟩) rfl) ⟨_, rfl, rfl⟩ ?_
  refine .q rfl (op_move rfl) ⟨_, rfl, rfl⟩ ?_
  refine .q rfl (op_eqB Tryd.underlying4 rfl rfl rfl) ⟨_, rfl, rfl⟩ ?_
  refine .q rfl (op_pick_false rfl rfl rfl) trivial ?_
  refine .nil ?_
  show Ev _ _ _ _ _
  refine .cond_false rfl (rfl) ?_
  refine .skip ?_
  show Ev _ _ _ _ _
  refine .region ?_
  refine .q (op_addI rfl rfl ⟨by omega, by omega⟩) trivial rfl ?_
  refine .q (op_move rfl) trivial rfl ?_
  refine .nil ?_
  show Ev _ _ _ _ _
  refine .seq ?_
  refine .region ?_
  refine .q (op_cmpI rfl rfl rfl) trivial rfl ?_
  refine .nil ?_
  show Ev _ _ _ _ _
  refine .seq ?_
  refine .cond_false rfl (rfl) ?_
  refine .exit ?_
  exact ⟨⟨false, x', y', .inr rfl, hx', hy', lx', ly'⟩, StLe.mk [(1000, 1000), (1008, 1008), (1016, 1016), (1024, 1024)] rfl rfl ⟨⟨_, rfl, by first | rfl | (simp only [AV.ren]; congr 1; omega), rfl⟩, ⟨_, rfl, by first | rfl | (simp only [AV.ren]; congr 1; omega), rfl⟩, ⟨_, rfl, by first | rfl | (simp only [AV.ren]; congr 1; omega), rfl⟩, ⟨_, rfl, by first | rfl | (simp only [AV.ren]; congr 1; omega), rfl⟩, ⟨_, rfl, by first | rfl | (simp only [AV.ren]; congr 1; omega), rfl⟩, ⟨_, rfl, by first | rfl | (simp only [AV.ren]; congr 1; omega), rfl⟩, trivial⟩ ⟨⟨_, _, rfl, rfl, rowW_ren _ _ _ _ _ _ _, rfl, id, rowW_nm _ _ _ _ _ _ _ rfl rfl⟩, HLe.oc (bK_le rfl rfl) (HLe.oc (bK_le rfl rfl) ⟨⟨_, _, rfl, rfl, rfl, rfl, id, rfl⟩, p8, p8, p8, p8, p8, p8, p8, p8, p8, p8, p8, p8, p8, p8, p8, p8, p8, p8, p8, p8, p8, p8, p8, p8, p8, p8, p8, p8, p8, p8, p8, p8, p8, p8, p8, p8, p8, p8, p8, p8, ⟨_, _, rfl, rfl, offC_ren _ o (rowsC_flat actN_flat l), rfl, id, offC_nm _ o (rowsC_flat actN_flat l)⟩, trivial⟩)⟩⟩
end Go.Proofs.YtpmoonglbcglaaaDoor
