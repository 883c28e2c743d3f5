/-
  Texts of this claim.
-/
import Derived.Test.YtaelhapmikijnaaGreatDoorGK
namespace Go.Proofs.YtaelhapmikijnaaGreatDoor
open Go.RowKit Go.Extern.Stop Go.Stop Go.Extern
theorem noIsF (v : Value) (xT : TypeId) (w : World) : (Instr.typeAssert (.iface 63 v) xT 129 true).run Tryz.prog w = .ok (.tuple #[.nilIface, .bool false]) w := run_typeAssert_lacksB Tryz.underlying129 (by kernel_rfl) (by kernel_rfl) v xT w
theorem hasUnwrapF (v : Value) (xT : TypeId) (w : World) : (Instr.typeAssert (.iface 63 v) xT 132 true).run Tryz.prog w = .ok (.tuple #[.iface 63 v, .bool true]) w := run_typeAssert_hasB Tryz.underlying132 (by kernel_rfl) v xT w
theorem methodUnwrapF (v : Value) (w : World) : (Go.method 295 63 v "Unwrap").run Tryz.prog w = .ok (112, v) w := by kernel_rfl
theorem faultTypes : 63 ≠ 165 := by decide
theorem is_fault_same (pb po : Nat) (b : Addr) (w : World) (h1 : w.cell? ⟨pb, po + 1, none⟩ = some (.iface 165 (.pointer (some b)))) :
    Calls Tryz.prog 23 #[.iface 63 (.pointer (some ⟨pb, po, none⟩)), .iface 165 (.pointer (some b))] w fun e w' => e = .returned (.bool true) ∧ w' = w := by
  obtain ⟨i, hi, hcmp⟩ := Option.map_eq_some_iff.1 isComp
  obtain ⟨j, hj, hjs⟩ := Option.map_eq_some_iff.1 isSize
  have h8 := @run_callFunc_extern Tryz.prog 40 _ Extern.ReflectliteType.typeOf Tryz.func40 (by kernel_rfl) (by kernel_rfl) (by kernel_rfl) (by kernel_rfl)
  have h32 := @run_callFunc_extern Tryz.prog 119 _ isCmp Tryz.func119 (by kernel_rfl) (by kernel_rfl) (by kernel_rfl) (by kernel_rfl)
  have tT := isTypeOf
  have cT := isComparable
  have mR := isMethodComparable
  have nE := noIsE
  have uE := noUnwrapE
  have vE := noUnwrapsE
  have nW := noIsF
  have uW := hasUnwrapF
  have mU := methodUnwrapF
  have heq := run_eql_iface_ptr_same (P := Tryz.prog) w b Tryz.underlying30 Tryz.underlying165 hi hcmp hj
  have hty := run_eql_iface_types (P := Tryz.prog) 63 165 (.pointer (some ⟨pb, po, none⟩)) (.pointer (some b)) Tryz.underlying30 faultTypes w
  go_enter Tryz.func23, Tryz.ntmps23
  go_wp2
  refine wp_loop_rounds 2 ?_
  rw [rounds_succ]
  go_wp2
  rw [rounds_succ]
  go_wp2
  go_ret
  exact ⟨rfl, rfl⟩
theorem is_fault_other (pb po : Nat) (b a : Addr) (ca cb : Array Value) (ta tb : TypeId) (w : World) (h1 : w.cell? ⟨pb, po + 1, none⟩ = some (.iface 165 (.pointer (some a)))) (hne : a ≠ b) (ha : w.heap[a.block]? = some (.cells ca ta (0, 0))) (hb : w.heap[b.block]? = some (.cells cb tb (0, 0))) :
    Calls Tryz.prog 23 #[.iface 63 (.pointer (some ⟨pb, po, none⟩)), .iface 165 (.pointer (some b))] w fun e w' => e = .returned (.bool false) ∧ w' = w := by
  obtain ⟨i, hi, hcmp⟩ := Option.map_eq_some_iff.1 isComp
  obtain ⟨j, hj, hjs⟩ := Option.map_eq_some_iff.1 isSize
  have h8 := @run_callFunc_extern Tryz.prog 40 _ Extern.ReflectliteType.typeOf Tryz.func40 (by kernel_rfl) (by kernel_rfl) (by kernel_rfl) (by kernel_rfl)
  have h32 := @run_callFunc_extern Tryz.prog 119 _ isCmp Tryz.func119 (by kernel_rfl) (by kernel_rfl) (by kernel_rfl) (by kernel_rfl)
  have tT := isTypeOf
  have cT := isComparable
  have mR := isMethodComparable
  have nE := noIsE
  have uE := noUnwrapE
  have vE := noUnwrapsE
  have nW := noIsF
  have uW := hasUnwrapF
  have mU := methodUnwrapF
  have heq := run_eql_iface_ptr_other (P := Tryz.prog) w Tryz.underlying30 Tryz.underlying165 hi hcmp hj (by rw [hjs]; decide) hne ha hb
  have hty := run_eql_iface_types (P := Tryz.prog) 63 165 (.pointer (some ⟨pb, po, none⟩)) (.pointer (some b)) Tryz.underlying30 faultTypes w
  go_enter Tryz.func23, Tryz.ntmps23
  go_wp2
  refine wp_loop_rounds 2 ?_
  rw [rounds_succ]
  go_wp2
  rw [rounds_succ]
  go_wp2
  go_ret
  exact ⟨rfl, rfl⟩
theorem is_fault_same_ev (n : Nat) (o : Nat × Nat) (ws : List UInt8) (te : Nat) : Meets Tryz.prog 23 [.ifc 63 (.ptr 500 0), .err 165 (n + 1) o] [(500, some ⟨.agg [.str ws, .err 165 (n + 1) o], te, false⟩)] (.bool true) [] :=
  meets_of_walk fun E S vals w hg hl hr hR => by
    obtain ⟨x, y, rfl, hx, hy⟩ := args2 hl hr
    obtain ⟨z, rfl, hz⟩ := hx.ifc_inv
    obtain ⟨pl, ps, hE, rfl⟩ := hz.ptr_inv
    rcases hy.err_inv with ⟨h, _⟩ | ⟨k2, s2, _, _, _, rfl⟩
    · cases h
    obtain ⟨l, q, g1, arr, t, fz, g2, _, _, _, g5⟩ := hR.blk 500 _ rfl
    rw [hE] at g1; injection g1 with g1; injection g1 with g1 _; subst g1
    obtain ⟨_, v, g6, g7⟩ := g5 1 (.err 165 (n + 1) o) rfl
    rcases g7.err_inv with ⟨h, _⟩ | ⟨k3, s3, _, _, _, rfl⟩
    · cases h
    exact (is_fault_same pl 0 ⟨o.1, o.2, none⟩ w (by rw [cell_of_row w pl (0 + 1) arr t fz g2]; exact g6)).mono fun e w' hh => ⟨_, hh.1, .bool _, below_of hh.2⟩
theorem is_fault_other_ev (n m : Nat) (o o' : Nat × Nat) (hne : o ≠ o') (hnm : n < 99) (hmm : m < 99) (ws : List UInt8) (te : Nat) : Meets Tryz.prog 23 [.ifc 63 (.ptr 500 0), .err 165 (m + 1) o'] [(500, some ⟨.agg [.str ws, .err 165 (n + 1) o], te, false⟩), (401 + n, some ⟨.agg [], errT, false⟩), (401 + m, some ⟨.agg [], errT, false⟩)] (.bool false) [] :=
  meets_of_walk fun E S vals w hg hl hr hR => by
    obtain ⟨x, y, rfl, hx, hy⟩ := args2 hl hr
    obtain ⟨z, rfl, hz⟩ := hx.ifc_inv
    obtain ⟨pl, ps, hE0, rfl⟩ := hz.ptr_inv
    have nb : ∀ a b : Nat, a ≠ b → Nat.beq a b = false := fun a b h => by
      cases hq : Nat.beq a b with
      | false => rfl
      | true => exact absurd (Nat.eq_of_beq_eq_true hq) h
    have blk : ∀ b, (b = n ∨ b = m) → hget [(500, some (⟨.agg [.str ws, .err 165 (n + 1) o], te, false⟩ : ABlk)), (401 + n, some ⟨.agg [], errT, false⟩), (401 + m, some ⟨.agg [], errT, false⟩)] (401 + b) = some ⟨.agg [], errT, false⟩ := fun b hb => by
      have hb9 : b < 99 := by rcases hb with rfl | rfl <;> assumption
      simp only [hget, upd, lk]
      rw [nb 500 (401 + b) (by omega)]
      by_cases h1 : b = n
      · subst h1; simp
      · have h2 : b = m := hb.resolve_left h1
        subst h2
        simp [nb (401 + n) (401 + b) (by omega)]
    obtain ⟨l, q, g1, arr0, t0, fz0, g2, _, _, _, g5⟩ := hR.blk 500 _ rfl
    rw [hE0] at g1; injection g1 with g1; injection g1 with g1 _; subst g1
    obtain ⟨_, v, g6, g7⟩ := g5 1 (.err 165 (n + 1) o) rfl
    rcases g7.err_inv with ⟨h, _⟩ | ⟨k, s, hk, _, hE, rfl⟩
    · cases h
    rcases hy.err_inv with ⟨h, _⟩ | ⟨k2, s2, hk2, _, hE2, rfl⟩
    · cases h
    obtain rfl : k = n := by omega
    obtain rfl : k2 = m := by omega
    obtain ⟨l, q, h1, arr, t, fz, h2, _, h3, _⟩ := hR.blk _ _ (blk k (.inl rfl))
    obtain ⟨l', q', h1', arr', t', fz', h2', _, h3', _⟩ := hR.blk _ _ (blk k2 (.inr rfl))
    rw [hE] at h1; injection h1 with h1; injection h1 with h1 _
    rw [hE2] at h1'; injection h1' with h1'; injection h1' with h1' _
    rw [h3.1.z rfl, ← h1] at h2
    rw [h3'.1.z rfl, ← h1'] at h2'
    exact (is_fault_other pl 0 ⟨o'.1, o'.2, none⟩ ⟨o.1, o.2, none⟩ arr arr' t t' w (by rw [cell_of_row w pl (0 + 1) arr0 t0 fz0 g2]; exact g6) (fun e => hne (by injection e with e1 e2; exact Prod.ext e1 e2)) h2 h2').mono fun e w' hh => ⟨_, hh.1, .bool _, below_of hh.2⟩
end Go.Proofs.YtaelhapmikijnaaGreatDoor
