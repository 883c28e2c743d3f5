/-
  Texts of this claim.
-/
import Derived.Test.YtdmlpblaelfdmaaGreatDoorGKS
namespace Go.Proofs.YtdmlpblaelfdmaaGreatDoor
open Go.RowKit
set_option maxRecDepth 100000 in
theorem code_0 (eo : Nat → Nat × Nat) (_hd : ∀ i j, i < 20 → j < 20 → i ≠ j → eo i ≠ eo j) : Meets Tryz.prog 15 [.err 269 (0) (offE eo (0))] [(2, some ⟨.agg [.err 269 (1) (offE eo (1))], errT, false⟩), (0, some ⟨.agg [.err 269 (2) (offE eo (2))], errT, false⟩), (3, some ⟨.agg [.err 269 (3) (offE eo (3))], errT, false⟩), (1, some ⟨.agg [.err 269 (4) (offE eo (4))], errT, false⟩), (4, some ⟨.agg [.err 269 (5) (offE eo (5))], errT, false⟩), (5, some ⟨.agg [.err 269 (6) (offE eo (6))], errT, false⟩), (6, some ⟨.agg [.err 269 (7) (offE eo (7))], errT, false⟩), (7, some ⟨.agg [.err 269 (8) (offE eo (8))], errT, false⟩), (8, some ⟨.agg [.err 269 (9) (offE eo (9))], errT, false⟩), (9, some ⟨.agg [.err 269 (10) (offE eo (10))], errT, false⟩), (10, some ⟨.agg [.err 269 (11) (offE eo (11))], errT, false⟩), (11, some ⟨.agg [.err 269 (12) (offE eo (12))], errT, false⟩), (12, some ⟨.agg [.err 269 (13) (offE eo (13))], errT, false⟩), (13, some ⟨.agg [.err 269 (14) (offE eo (14))], errT, false⟩), (14, some ⟨.agg [.err 269 (15) (offE eo (15))], errT, false⟩), (15, some ⟨.agg [.err 269 (16) (offE eo (16))], errT, false⟩), (16, some ⟨.agg [.err 269 (17) (offE eo (17))], errT, false⟩), (17, some ⟨.agg [.err 269 (18) (offE eo (18))], errT, false⟩), (18, some ⟨.agg [.err 269 (19) (offE eo (19))], errT, false⟩), (19, some ⟨.agg [.err 269 (20) (offE eo (20))], errT, false⟩), (401, some ⟨.agg [], errT, false⟩), (402, some ⟨.agg [], errT, false⟩), (403, some ⟨.agg [], errT, false⟩), (404, some ⟨.agg [], errT, false⟩), (405, some ⟨.agg [], errT, false⟩), (406, some ⟨.agg [], errT, false⟩), (407, some ⟨.agg [], errT, false⟩), (408, some ⟨.agg [], errT, false⟩), (409, some ⟨.agg [], errT, false⟩), (410, some ⟨.agg [], errT, false⟩), (411, some ⟨.agg [], errT, false⟩), (412, some ⟨.agg [], errT, false⟩), (413, some ⟨.agg [], errT, false⟩), (414, some ⟨.agg [], errT, false⟩), (415, some ⟨.agg [], errT, false⟩), (416, some ⟨.agg [], errT, false⟩), (417, some ⟨.agg [], errT, false⟩), (418, some ⟨.agg [], errT, false⟩), (419, some ⟨.agg [], errT, false⟩), (420, some ⟨.agg [], errT, false⟩)] (.i64 0) [] := by
 refine meets_of_ev (nt := 38) Tryz.func15 rfl rfl (Nat.le_of_ble_eq_true rfl) ?_
 refine .seq ?_
 refine .region ?_
 refine .q (op_assign rfl) trivial rfl ?_
 refine .nil ?_
 show Ev _ _ _ _ _
 refine .seq ?_
 refine .seq ?_
 refine .region ?_
 refine .q (op_move rfl) trivial rfl ?_
 refine .q (op_eqErrNil (e := 0) Tryz.underlying36 rfl rfl) trivial rfl ?_
 refine .nil ?_
 show Ev _ _ _ _ _
 refine .cond_true rfl (rfl) ?_
 refine .seq ?_
 refine .region ?_
 refine .q (op_assign rfl) trivial rfl ?_
 refine .nil ?_
 show Ev _ _ _ _ _
 refine .ret ?_
 show RetOk _ _ _ _ _ _ _
 exact ret1v rfl (.inl rfl) rfl rfl trivial
end Go.Proofs.YtdmlpblaelfdmaaGreatDoor
namespace Go.Proofs.YtdmlpblaelfdmaaGreatDoor
open Go.RowKit Go.Extern.Stop Go.Stop Go.Extern
theorem noIsF (v : Value) (xT : TypeId) (w : World) : (Instr.typeAssert (.iface 102 v) xT 175 true).run Tryz.prog w = .ok (.tuple #[.nilIface, .bool false]) w := run_typeAssert_lacksB Tryz.underlying175 (by kernel_rfl) (by kernel_rfl) v xT w
theorem hasUnwrapF (v : Value) (xT : TypeId) (w : World) : (Instr.typeAssert (.iface 102 v) xT 178 true).run Tryz.prog w = .ok (.tuple #[.iface 102 v, .bool true]) w := run_typeAssert_hasB Tryz.underlying178 (by kernel_rfl) v xT w
theorem methodUnwrapF (v : Value) (w : World) : (Go.method 399 102 v "Unwrap").run Tryz.prog w = .ok (216, v) w := by kernel_rfl
theorem faultTypes : 102 ≠ 269 := by decide
theorem is_fault_same (pb po : Nat) (b : Addr) (w : World) (h1 : w.cell? ⟨pb, po + 1, none⟩ = some (.iface 269 (.pointer (some b)))) :
    Calls Tryz.prog 40 #[.iface 102 (.pointer (some ⟨pb, po, none⟩)), .iface 269 (.pointer (some b))] w fun e w' => e = .returned (.bool true) ∧ w' = w := by
  obtain ⟨i, hi, hcmp⟩ := Option.map_eq_some_iff.1 isComp
  obtain ⟨j, hj, hjs⟩ := Option.map_eq_some_iff.1 isSize
  have h8 := @run_callFunc_extern Tryz.prog 69 _ Extern.ReflectliteType.typeOf Tryz.func69 (by kernel_rfl) (by kernel_rfl) (by kernel_rfl) (by kernel_rfl)
  have h32 := @run_callFunc_extern Tryz.prog 224 _ isCmp Tryz.func224 (by kernel_rfl) (by kernel_rfl) (by kernel_rfl) (by kernel_rfl)
  have tT := isTypeOf
  have cT := isComparable
  have mR := isMethodComparable
  have nE := noIsE
  have uE := noUnwrapE
  have vE := noUnwrapsE
  have nW := noIsF
  have uW := hasUnwrapF
  have mU := methodUnwrapF
  have heq := run_eql_iface_ptr_same (P := Tryz.prog) w b Tryz.underlying36 Tryz.underlying269 hi hcmp hj
  have hty := run_eql_iface_types (P := Tryz.prog) 102 269 (.pointer (some ⟨pb, po, none⟩)) (.pointer (some b)) Tryz.underlying36 faultTypes w
  go_enter Tryz.func40, Tryz.ntmps40
  go_wp2
  refine wp_loop_rounds 2 ?_
  rw [rounds_succ]
  go_wp2
  rw [rounds_succ]
  go_wp2
  go_ret
  exact ⟨rfl, rfl⟩
theorem is_fault_other (pb po : Nat) (b a : Addr) (ca cb : Array Value) (ta tb : TypeId) (w : World) (h1 : w.cell? ⟨pb, po + 1, none⟩ = some (.iface 269 (.pointer (some a)))) (hne : a ≠ b) (ha : w.heap[a.block]? = some (.cells ca ta (0, 0))) (hb : w.heap[b.block]? = some (.cells cb tb (0, 0))) :
    Calls Tryz.prog 40 #[.iface 102 (.pointer (some ⟨pb, po, none⟩)), .iface 269 (.pointer (some b))] w fun e w' => e = .returned (.bool false) ∧ w' = w := by
  obtain ⟨i, hi, hcmp⟩ := Option.map_eq_some_iff.1 isComp
  obtain ⟨j, hj, hjs⟩ := Option.map_eq_some_iff.1 isSize
  have h8 := @run_callFunc_extern Tryz.prog 69 _ Extern.ReflectliteType.typeOf Tryz.func69 (by kernel_rfl) (by kernel_rfl) (by kernel_rfl) (by kernel_rfl)
  have h32 := @run_callFunc_extern Tryz.prog 224 _ isCmp Tryz.func224 (by kernel_rfl) (by kernel_rfl) (by kernel_rfl) (by kernel_rfl)
  have tT := isTypeOf
  have cT := isComparable
  have mR := isMethodComparable
  have nE := noIsE
  have uE := noUnwrapE
  have vE := noUnwrapsE
  have nW := noIsF
  have uW := hasUnwrapF
  have mU := methodUnwrapF
  have heq := run_eql_iface_ptr_other (P := Tryz.prog) w Tryz.underlying36 Tryz.underlying269 hi hcmp hj (by rw [hjs]; decide) hne ha hb
  have hty := run_eql_iface_types (P := Tryz.prog) 102 269 (.pointer (some ⟨pb, po, none⟩)) (.pointer (some b)) Tryz.underlying36 faultTypes w
  go_enter Tryz.func40, Tryz.ntmps40
  go_wp2
  refine wp_loop_rounds 2 ?_
  rw [rounds_succ]
  go_wp2
  rw [rounds_succ]
  go_wp2
  go_ret
  exact ⟨rfl, rfl⟩
theorem is_fault_same_ev (n : Nat) (o : Nat × Nat) (ws : List UInt8) (te : Nat) : Meets Tryz.prog 40 [.ifc 102 (.ptr 500 0), .err 269 (n + 1) o] [(500, some ⟨.agg [.str ws, .err 269 (n + 1) o], te, false⟩)] (.bool true) [] :=
  meets_of_walk fun E S vals w hg hl hr hR => by
    obtain ⟨x, y, rfl, hx, hy⟩ := args2 hl hr
    obtain ⟨z, rfl, hz⟩ := hx.ifc_inv
    obtain ⟨pl, ps, hE, rfl⟩ := hz.ptr_inv
    rcases hy.err_inv with ⟨h, _⟩ | ⟨k2, s2, _, _, _, rfl⟩
    · cases h
    obtain ⟨l, q, g1, arr, t, fz, g2, _, _, _, g5⟩ := hR.blk 500 _ rfl
    rw [hE] at g1; injection g1 with g1; injection g1 with g1 _; subst g1
    obtain ⟨_, v, g6, g7⟩ := g5 1 (.err 269 (n + 1) o) rfl
    rcases g7.err_inv with ⟨h, _⟩ | ⟨k3, s3, _, _, _, rfl⟩
    · cases h
    exact (is_fault_same pl 0 ⟨o.1, o.2, none⟩ w (by rw [cell_of_row w pl (0 + 1) arr t fz g2]; exact g6)).mono fun e w' hh => ⟨_, hh.1, .bool _, below_of hh.2⟩
theorem is_fault_other_ev (n m : Nat) (o o' : Nat × Nat) (hne : o ≠ o') (hnm : n < 99) (hmm : m < 99) (ws : List UInt8) (te : Nat) : Meets Tryz.prog 40 [.ifc 102 (.ptr 500 0), .err 269 (m + 1) o'] [(500, some ⟨.agg [.str ws, .err 269 (n + 1) o], te, false⟩), (401 + n, some ⟨.agg [], errT, false⟩), (401 + m, some ⟨.agg [], errT, false⟩)] (.bool false) [] :=
  meets_of_walk fun E S vals w hg hl hr hR => by
    obtain ⟨x, y, rfl, hx, hy⟩ := args2 hl hr
    obtain ⟨z, rfl, hz⟩ := hx.ifc_inv
    obtain ⟨pl, ps, hE0, rfl⟩ := hz.ptr_inv
    have nb : ∀ a b : Nat, a ≠ b → Nat.beq a b = false := fun a b h => by
      cases hq : Nat.beq a b with
      | false => rfl
      | true => exact absurd (Nat.eq_of_beq_eq_true hq) h
    have blk : ∀ b, (b = n ∨ b = m) → hget [(500, some (⟨.agg [.str ws, .err 269 (n + 1) o], te, false⟩ : ABlk)), (401 + n, some ⟨.agg [], errT, false⟩), (401 + m, some ⟨.agg [], errT, false⟩)] (401 + b) = some ⟨.agg [], errT, false⟩ := fun b hb => by
      have hb9 : b < 99 := by rcases hb with rfl | rfl <;> assumption
      simp only [hget, upd, lk]
      rw [nb 500 (401 + b) (by omega)]
      by_cases h1 : b = n
      · subst h1; simp
      · have h2 : b = m := hb.resolve_left h1
        subst h2
        simp [nb (401 + n) (401 + b) (by omega)]
    obtain ⟨l, q, g1, arr0, t0, fz0, g2, _, _, _, g5⟩ := hR.blk 500 _ rfl
    rw [hE0] at g1; injection g1 with g1; injection g1 with g1 _; subst g1
    obtain ⟨_, v, g6, g7⟩ := g5 1 (.err 269 (n + 1) o) rfl
    rcases g7.err_inv with ⟨h, _⟩ | ⟨k, s, hk, _, hE, rfl⟩
    · cases h
    rcases hy.err_inv with ⟨h, _⟩ | ⟨k2, s2, hk2, _, hE2, rfl⟩
    · cases h
    obtain rfl : k = n := by omega
    obtain rfl : k2 = m := by omega
    obtain ⟨l, q, h1, arr, t, fz, h2, _, h3, _⟩ := hR.blk _ _ (blk k (.inl rfl))
    obtain ⟨l', q', h1', arr', t', fz', h2', _, h3', _⟩ := hR.blk _ _ (blk k2 (.inr rfl))
    rw [hE] at h1; injection h1 with h1; injection h1 with h1 _
    rw [hE2] at h1'; injection h1' with h1'; injection h1' with h1' _
    rw [h3.1.z rfl, ← h1] at h2
    rw [h3'.1.z rfl, ← h1'] at h2'
    exact (is_fault_other pl 0 ⟨o'.1, o'.2, none⟩ ⟨o.1, o.2, none⟩ arr arr' t t' w (by rw [cell_of_row w pl (0 + 1) arr0 t0 fz0 g2]; exact g6) (fun e => hne (by injection e with e1 e2; exact Prod.ext e1 e2)) h2 h2').mono fun e w' hh => ⟨_, hh.1, .bool _, below_of hh.2⟩
end Go.Proofs.YtdmlpblaelfdmaaGreatDoor
