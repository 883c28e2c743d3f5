/-
  Texts of this claim.
-/
import Derived.Lib.BufferWrite
import Derived.Test.YtdhpfkojodgadaaDoorGP1
namespace Go.Proofs.YtdhpfkojodgadaaDoor
open Go.RowKit
section
variable {P : Program} {T T1 : Nat → Option AV} {H : Hp} {nm : Nat} {wr : Bool} {v c' : AV} {U : List (Nat × Option ABlk)} {o : Oper} {d : Option Tmp} {ty t t2 e : TypeId} {ps : String} {af : Array Edge} {gd : Option (Nat × Bool)} {x y : Operand} {b f n m cp s : Nat} {ex : Bool} {k : ABlk}
theorem OpSem.asR (h : OpSem P T1 H o nm wr v U) (hT : ∀ x ∈ o.op.operands, ∀ u, aev T1 x = some u → ∃ u2, aev T x = some u2 ∧ ∀ E y, Rel E u2 y → Rel E u y) : OpSem P T H o nm wr v U :=
  fun E S n0 H2 a w a1 a2 a3 a4 a5 a6 hop a7 a8 => h E S n0 H2 a w a1 a2 a3 a4 a5 a6 (fun x hx u hu => by
    obtain ⟨u2, h1, h2⟩ := hT x hx u hu
    exact h2 _ _ (hop x hx u2 h1)) a7 a8
/-- One slot written in a weaker way. -/
def upT (T : Nat → Option AV) (s : Nat) (u : AV) : Nat → Option AV := fun q => if q = s then some u else T q
theorem upT_same (T : Nat → Option AV) (s : Nat) (u : AV) : upT T s u s = some u := by simp [upT]
theorem upT_weak {u u2 : AV} (hs : T s = some u2) (hr : ∀ E y, Rel E u2 y → Rel E u y) (x : Operand) (w : AV) (hx : aev (upT T s u) x = some w) : ∃ u2, aev T x = some u2 ∧ ∀ E y, Rel E u2 y → Rel E w y := by
  cases x with
  | tmp q =>
    simp only [Go.Proofs.YtdhpfkojodgadaaDoor.aev, upT] at hx ⊢
    split at hx
    · rename_i e; subst e; injection hx with hx; subst hx; exact ⟨u2, hs, hr⟩
    · exact ⟨w, hx, fun _ _ h => h⟩
  | const c => exact ⟨w, hx, fun _ _ h => h⟩
  | global g => exact ⟨w, hx, fun _ _ h => h⟩
  | func f => exact ⟨w, hx, fun _ _ h => h⟩
/-- A part of a slice whose capacity is known, which may be empty at its end. -/
theorem op_slice_slkS {lo hi : Option Operand} {l h : Nat} (ht : P.underlying t = some (.slice e)) (hz : (P.info? e).map (·.size) = some 1) (hx : aev T x = some (.slk b f n cp ex)) (hl : bnd T 0 lo l) (hh : bnd T n hi h) (h1 : l ≤ h) (h2 : h ≤ cp) :
    OpSem P T H ⟨d, .slice t x lo hi none, ty, ps, af, gd⟩ nm wr (.sl b (f + l) (h - l) 1) [] :=
  .quiet fun E a w hop => by
    obtain ⟨lc, s, c, g1, g0, g2, gx, g3, g4, g5⟩ := (hop x (by simp [Op.operands]) _ hx).slk_inv
    have hb := run_sliceBounds_ok (P := P) (sl := true) (cap := c) (fun q hq u hu => hop q (mem_slice q hq) u hu) hl hh h1 (by omega) w
    by_cases hc : c = l
    · subst hc
      refine ⟨.slice (some ⟨lc, f, none⟩) (h - c) (c - c), ?_, ?_⟩
      · simp [execOp, g5, Instr.sliceAt, Instr.slice, run_underlying ht, hb, run_sizeOf_is hz]
      · rw [show h - c = 0 by omega, show c - c = 0 by omega]; exact .sl0 _ _ _ _
    · refine ⟨.slice (some ⟨lc, f + l, none⟩) (h - l) (c - l), ?_, .sl _ _ _ _ lc s _ g1 (by omega) (by omega) (by omega)⟩
      simp [execOp, g5, Instr.sliceAt, Instr.slice, run_underlying ht, hb, run_sizeOf_is hz, hc, add_at]
theorem op_slice_nil {lo hi : Option Operand} (ht : P.underlying t = some (.slice e)) (hz : (P.info? e).map (·.size) = some 1) (hx : aev T x = some .nilsl) (hl : bnd T 0 lo 0) (hh : bnd T 0 hi 0) :
    OpSem P T H ⟨d, .slice t x lo hi none, ty, ps, af, gd⟩ nm wr .nilsl [] :=
  .quiet fun E a w hop => by
    have e1 := (hop x (by simp [Op.operands]) _ hx).nilsl_inv
    have hb := run_sliceBounds_ok (P := P) (sl := true) (cap := 0) (fun q hq u hu => hop q (mem_slice q hq) u hu) hl hh (Nat.le_refl _) (Nat.le_refl _) w
    exact ⟨.slice none 0 0, by simp [execOp, e1, Instr.sliceAt, Instr.slice, run_underlying ht, hb, run_sizeOf_is hz], .nilsl⟩
/-- copy onto a slice whose capacity is known. -/
theorem op_copyK {cs : List AV} {q : Nat} (ht : P.underlying t = some (.slice e)) (hsz : (P.info? e).map (·.size) = some 1) (hx : T s = some (.slk b f n cp ex)) (hk : H b = some k) (hown : k.own = true) (hs : Srcs P (upT T s (.sl b f n 1)) H y 1 m cs) (ho : f + n ≤ k.c.len) (hq : q = min m n)
    (hc : c'.list = k.c.list.take f ++ cs.take q ++ k.c.list.drop (f + q)) : OpSem P T H ⟨d, .call { callee := .builtin .copy, args := #[.tmp s, y], argTypes := #[t, t2] }, ty, ps, af, gd⟩ nm wr (.i64 (q : Int)) [(b, some { k with c := c' })] :=
  OpSem.asR (op_copy (T := upT T s (.sl b f n 1)) ht hsz (show aev (upT T s (.sl b f n 1)) (.tmp s) = some (.sl b f n 1) from upT_same _ _ _) hk hown hs ho hq hc) (fun x _ w hw => upT_weak hx slk_sl x w hw)
/-- copy of nothing onto nothing. -/
theorem op_copy_nil (ht : P.underlying t = some (.slice e)) (hsz : (P.info? e).map (·.size) = some 1) (hx : aev T x = some .nilsl) (hy : aev T y = some (.str [])) :
    OpSem P T H ⟨d, .call { callee := .builtin .copy, args := #[x, y], argTypes := #[t, t2] }, ty, ps, af, gd⟩ nm wr (.i64 0) [] :=
  .quiet fun E a w hop => by
    have e1 := (hop x (by simp [Op.operands, Call.operands]) _ hx).nilsl_inv
    have e2 := (hop y (by simp [Op.operands, Call.operands]) _ hy).str_inv
    refine ⟨.int .i64 0, ?_, .i64 _⟩
    have h := Lib.run_copy_empty_string (P := P) w t t2 ty e none 0 0 ⟨#[]⟩ ht (by rw [hsz]; rfl) rfl
    have e3 : a.eval y = .string ⟨#[]⟩ := e2
    have h2 : (Builtin.copy_ #[t, t2] ty #[a.eval x, a.eval y]).run P w = .ok (.int .i64 0) w := by rw [e1, e3]; exact h
    simp [execOp, resolve, invoke, builtin, h2]
end
end Go.Proofs.YtdhpfkojodgadaaDoor
