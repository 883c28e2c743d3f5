/-
  The ladder on Curve25519 as numbers.
-/
import Derived.WalkKit
import Derived.LaidEql
import Derived.Stop.Asserts
import Derived.RowKitTokens
import Derived.Test.YtaelhapmikijnaaGreatDoorGE
namespace Go.Proofs.YtaelhapmikijnaaGreatDoor
open Go.RowKit Go.Extern.Stop Go.Stop Go.Extern
theorem isTypeOf (v : Value) (w : World) : (Extern.ReflectliteType.typeOf #[.iface 165 v]).run Tryz.prog w = .ok (.iface 127 (.agg #[.pointer (some ⟨25, 165, none⟩)])) w := by kernel_rfl
/-- Comparable of a type. -/
def isCmp : Array Value → Sem Value := Extern.ReflectliteType.method fun t => do _root_.Go.Extern.Rtype.noPackHeld "Comparable" t; pure (.bool (← typeInfo t).comparable)
theorem isComparable (w : World) : (isCmp #[.agg #[.pointer (some ⟨25, 165, none⟩)]]).run Tryz.prog w = .ok (.bool true) w := by kernel_rfl
theorem isMethodComparable (v : Value) (w : World) : (Go.method 295 127 v "Comparable").run Tryz.prog w = .ok (119, v) w := by kernel_rfl
theorem isComp : (Tryz.prog.info? 165).map (·.comparable) = some true := by kernel_rfl
theorem isSize : (Tryz.prog.info? 183).map (·.size) = some 1 := by kernel_rfl
theorem noIsE (v : Value) (xT : TypeId) (w : World) : (Instr.typeAssert (.iface 165 v) xT 129 true).run Tryz.prog w = .ok (.tuple #[.nilIface, .bool false]) w := run_typeAssert_lacksB Tryz.underlying129 (by kernel_rfl) (by kernel_rfl) v xT w
theorem noUnwrapE (v : Value) (xT : TypeId) (w : World) : (Instr.typeAssert (.iface 165 v) xT 132 true).run Tryz.prog w = .ok (.tuple #[.nilIface, .bool false]) w := run_typeAssert_lacksB Tryz.underlying132 (by kernel_rfl) (by kernel_rfl) v xT w
theorem noUnwrapsE (v : Value) (xT : TypeId) (w : World) : (Instr.typeAssert (.iface 165 v) xT 133 true).run Tryz.prog w = .ok (.tuple #[.nilIface, .bool false]) w := run_typeAssert_lacksB Tryz.underlying133 (by kernel_rfl) (by kernel_rfl) v xT w
/-- errors.Is(x, x), x a pointer to an errors.errorString. -/
theorem is_same (a : Addr) (w : World) :
    Calls Tryz.prog 23 #[.iface 165 (.pointer (some a)), .iface 165 (.pointer (some a))] w fun e w' => e = .returned (.bool true) ∧ w' = w := by
  obtain ⟨i, hi, hcmp⟩ := Option.map_eq_some_iff.1 isComp
  obtain ⟨j, hj, hjs⟩ := Option.map_eq_some_iff.1 isSize
  have h8 := @run_callFunc_extern Tryz.prog 40 _ Extern.ReflectliteType.typeOf Tryz.func40 (by kernel_rfl) (by kernel_rfl) (by kernel_rfl) (by kernel_rfl)
  have h32 := @run_callFunc_extern Tryz.prog 119 _ isCmp Tryz.func119 (by kernel_rfl) (by kernel_rfl) (by kernel_rfl) (by kernel_rfl)
  have tT := isTypeOf
  have cT := isComparable
  have mR := isMethodComparable
  have heq := run_eql_iface_ptr_same (P := Tryz.prog) w a Tryz.underlying30 Tryz.underlying165 hi hcmp hj
  go_enter Tryz.func23, Tryz.ntmps23
  go_wp2
  refine wp_loop_rounds 1 ?_
  rw [rounds_succ]
  go_wp2
  go_ret
  exact ⟨rfl, rfl⟩
/-- errors.Is(nil, x). -/
theorem is_nil (b : Addr) (w : World) :
    Calls Tryz.prog 23 #[.nilIface, .iface 165 (.pointer (some b))] w fun e w' => e = .returned (.bool false) ∧ w' = w := by
  have hn := run_eql_iface_nil_left (P := Tryz.prog) w 165 (.pointer (some b)) Tryz.underlying30
  go_enter Tryz.func23, Tryz.ntmps23
  go_wp2
  go_ret
  exact ⟨rfl, rfl⟩
/-- errors.Is(x, y), two different pointers to errors.errorString: neither has Is nor Unwrap: false. -/
theorem is_other (a b : Addr) (ca cb : Array Value) (ta tb : TypeId) (w : World) (hne : a ≠ b) (ha : w.heap[a.block]? = some (.cells ca ta (0, 0))) (hb : w.heap[b.block]? = some (.cells cb tb (0, 0))) :
    Calls Tryz.prog 23 #[.iface 165 (.pointer (some a)), .iface 165 (.pointer (some b))] w fun e w' => e = .returned (.bool false) ∧ w' = w := by
  obtain ⟨i, hi, hcmp⟩ := Option.map_eq_some_iff.1 isComp
  obtain ⟨j, hj, hjs⟩ := Option.map_eq_some_iff.1 isSize
  have h8 := @run_callFunc_extern Tryz.prog 40 _ Extern.ReflectliteType.typeOf Tryz.func40 (by kernel_rfl) (by kernel_rfl) (by kernel_rfl) (by kernel_rfl)
  have h32 := @run_callFunc_extern Tryz.prog 119 _ isCmp Tryz.func119 (by kernel_rfl) (by kernel_rfl) (by kernel_rfl) (by kernel_rfl)
  have tT := isTypeOf
  have cT := isComparable
  have mR := isMethodComparable
  have nE := noIsE
  have uE := noUnwrapE
  have vE := noUnwrapsE
  have heq := run_eql_iface_ptr_other (P := Tryz.prog) w Tryz.underlying30 Tryz.underlying165 hi hcmp hj (by rw [hjs]; decide) hne ha hb
  go_enter Tryz.func23, Tryz.ntmps23
  go_wp2
  refine wp_loop_rounds 1 ?_
  rw [rounds_succ]
  go_wp2
  go_ret
  exact ⟨rfl, rfl⟩
end Go.Proofs.YtaelhapmikijnaaGreatDoor
namespace Go.Proofs.YtaelhapmikijnaaGreatDoor
open Go.RowKit
theorem below_of {w w' : World} (h : w' = w) : Below w.heap.size w w' := by subst h; exact ⟨rfl, rfl, rfl, Nat.le_refl _, fun _ _ => rfl⟩
theorem is_same_ev (n : Nat) (o : Nat × Nat) : Meets Tryz.prog 23 [.err 165 (n + 1) o, .err 165 (n + 1) o] [] (.bool true) [] :=
  meets_of_walk fun E S vals w hg hl hr hR => by
    obtain ⟨x, y, rfl, hx, hy⟩ := args2 hl hr
    rcases hx.err_inv with ⟨h, _⟩ | ⟨k, s, _, _, _, rfl⟩
    · cases h
    rcases hy.err_inv with ⟨h, _⟩ | ⟨k2, s2, _, _, _, rfl⟩
    · cases h
    exact (is_same ⟨o.1, o.2, none⟩ w).mono fun e w' hh => ⟨_, hh.1, .bool _, below_of hh.2⟩
theorem is_nil_ev (m : Nat) (o o' : Nat × Nat) : Meets Tryz.prog 23 [.err 165 0 o, .err 165 (m + 1) o'] [] (.bool false) [] :=
  meets_of_walk fun E S vals w hg hl hr hR => by
    obtain ⟨x, y, rfl, hx, hy⟩ := args2 hl hr
    rcases hx.err_inv with ⟨_, rfl⟩ | ⟨k, s, h, _⟩
    · rcases hy.err_inv with ⟨h, _⟩ | ⟨k2, s2, _, _, _, rfl⟩
      · cases h
      exact (is_nil ⟨o'.1, o'.2, none⟩ w).mono fun e w' hh => ⟨_, hh.1, .bool _, below_of hh.2⟩
    · cases h
theorem is_other_ev (n m : Nat) (o o' : Nat × Nat) (hne : o ≠ o') : Meets Tryz.prog 23 [.err 165 (n + 1) o, .err 165 (m + 1) o'] [(401 + n, some ⟨.agg [], errT, false⟩), (401 + m, some ⟨.agg [], errT, false⟩)] (.bool false) [] :=
  meets_of_walk fun E S vals w hg hl hr hR => by
    obtain ⟨x, y, rfl, hx, hy⟩ := args2 hl hr
    have blk : ∀ b, (b = n ∨ b = m) → hget [(401 + n, some (⟨.agg [], errT, false⟩ : ABlk)), (401 + m, some ⟨.agg [], errT, false⟩)] (401 + b) = some ⟨.agg [], errT, false⟩ := fun b hb => by
      simp only [hget, upd, lk]
      by_cases h1 : b = n
      · subst h1; simp
      · have h2 : b = m := hb.resolve_left h1
        subst h2
        have : Nat.beq (401 + n) (401 + b) = false := by
          cases hq : Nat.beq (401 + n) (401 + b) with
          | false => rfl
          | true => have := Nat.eq_of_beq_eq_true hq; omega
        simp [this]
    rcases hx.err_inv with ⟨h, _⟩ | ⟨k, s, hk, _, hE, rfl⟩
    · cases h
    rcases hy.err_inv with ⟨h, _⟩ | ⟨k2, s2, hk2, _, hE2, rfl⟩
    · cases h
    obtain rfl : k = n := by omega
    obtain rfl : k2 = m := by omega
    obtain ⟨l, q, h1, arr, t, fz, h2, _, h3, _⟩ := hR.blk _ _ (blk k (.inl rfl))
    obtain ⟨l', q', h1', arr', t', fz', h2', _, h3', _⟩ := hR.blk _ _ (blk k2 (.inr rfl))
    rw [hE] at h1; injection h1 with h1; injection h1 with h1 _
    rw [hE2] at h1'; injection h1' with h1'; injection h1' with h1' _
    rw [h3.1.z rfl, ← h1] at h2
    rw [h3'.1.z rfl, ← h1'] at h2'
    exact (is_other ⟨o.1, o.2, none⟩ ⟨o'.1, o'.2, none⟩ arr arr' t t' w (fun e => hne (by injection e with e1 e2; exact Prod.ext e1 e2)) h2 h2').mono fun e w' hh => ⟨_, hh.1, .bool _, below_of hh.2⟩
end Go.Proofs.YtaelhapmikijnaaGreatDoor
