/-
  Texts of this claim.
-/
import Derived.Test.YtdhpfkojodgadaaDoorGW4
import Derived.Test.YtdhpfkojodgadaaDoorGE1
import Derived.Test.YtdhpfkojodgadaaDoorGL1
namespace Go.Proofs.YtdhpfkojodgadaaDoor
open Go.ChangeShapes Go.WideShapes Go.ChangeAt Go.RowKit
theorem i64_lit {n : Int} (h : (Lit.int .i64 n).wf = true) : -9223372036854775808 ≤ n ∧ n ≤ 9223372036854775807 := by
  simp [Lit.wf] at h
  have h1 : IntKind.i64.min = -9223372036854775808 := rfl
  have h2 : IntKind.i64.max = 9223372036854775807 := rfl
  omega
/-- A slice of calls of a window or a buffer. -/
theorem actw_arg {H : Type} {enc : TypeId × Value → H} {P : Program} {W : World} {eo : Nat → Nat × Nat} {t e ti ts : TypeId} {f0 f1 f2 : Field} {v : Value} {d : DataW H} {ps : List MemPlace} (ht : P.underlying t = some (.slice e)) (he : P.underlying e = some (.struct #[f0, f1, f2])) (ce : P.cellsOf e = 3)
    (o0 : f0.offset = 0) (o1 : f1.offset = 1) (o2 : f2.offset = 2) (t0 : f0.type = ti) (t1 : f1.type = ti) (t2 : f2.type = ts) (hi : P.underlying ti = some (.int .i64)) (hs : P.underlying ts = some .string) (ci : P.cellsOf ti = 1) (cs_ : P.cellsOf ts = 1) {b0 : Nat} (hv : Value.okWide P W .any b0 t v)
    (h : DataW.Trod enc P W 0 (fun _ => true) true t v d ps) (hblk : ∃ (b : Nat) (arr : Array Value) (t : TypeId) (fz : Nat × Nat), W.heap[b]? = some (.cells arr t fz)) :
    ∃ (l : List ActW) (b o : Nat), l.length ≤ maxLen ∧ Rel (argE W eo b) (.sl 450 o l.length 3) v ∧ BAt (argE W eo b) ⟨.agg (offC o (rowsC actW l)), anyT, false⟩ W b (sizeAt W b) := by
  refine slice_arg actW (fun _ => rfl) (by decide) ht ce hv (fun n cs' y hl hy => ?_) h hblk
  match cs', hl with
  | [w0, w1, w2], _ =>
    obtain ⟨xs, m, _, _, _, hxl, hf⟩ := DataW.trod_struct he hy
    have hxl' : xs.length = 3 := hxl
    have q0 := hf 0 f0 rfl
    have q1 := hf 1 f1 rfl
    have q2 := hf 2 f2 rfl
    rw [List.getElem?_eq_getElem (by omega)] at q0 q1 q2
    simp only [t0, o0, ci, t1, o1, t2, o2, cs_, List.drop_zero, List.take_succ_cons, List.take_zero, List.drop_succ_cons, List.take_nil] at q0 q1 q2
    obtain ⟨k, k0, _, _⟩ := DataW.trod_int hi q0
    obtain ⟨m1, k1, _, z1⟩ := DataW.trod_int hi q1
    obtain ⟨s, k2, _, z2⟩ := DataW.trod_string hs q2
    simp only [List.cons.injEq, and_true] at k0 k1 k2
    refine ⟨⟨k, m1, s.data.toList, z2, (i64_lit z1).1, (i64_lit z1).2⟩, fun j x hx => ?_⟩
    match j, hx with
    | 0, hx => simp only [actW, List.getElem?_cons_zero, Option.some.injEq] at hx; subst hx; exact ⟨rfl, w0, rfl, fun E => by rw [k0]; exact .i64 _⟩
    | 1, hx => simp only [actW, List.getElem?_cons_succ, List.getElem?_cons_zero, Option.some.injEq] at hx; subst hx; exact ⟨rfl, w1, rfl, fun E => by rw [k1]; exact .i64 _⟩
    | 2, hx => simp only [actW, List.getElem?_cons_succ, List.getElem?_cons_zero, Option.some.injEq] at hx; subst hx; exact ⟨rfl, w2, rfl, fun E => by rw [k2]; exact .str _⟩
    | j + 3, hx => simp [actW] at hx
set_option maxRecDepth 100000 in
theorem flowSends_all {H : Type} {enc : TypeId × Value → H} (win most : UInt32) {v : Value} {d : DataW H} {ps : List MemPlace} (W : World) {b0 : Nat} (hv : Value.okWide Tryd.prog W .any b0 23 v)
  (ht : DataW.Trod enc Tryd.prog W 0 (fun _ => true) true 23 v d ps) (h : laidMet Tryd.prog Rows.flowSendsRow.laid W) :
  Calls Tryd.prog 3 #[U32 win, U32 most, v] W fun e W' => e = .returned (.bool true) ∧ Below W.heap.size W W' := by
 obtain ⟨eo, hd, hkn⟩ := laid_errs h
 have c3 : Tryd.prog.cellsOf 28 = 3 := by kernel_rfl
 have ci : Tryd.prog.cellsOf 3 = 1 := by kernel_rfl
 have cs_ : Tryd.prog.cellsOf 9 = 1 := by kernel_rfl
 obtain ⟨l, b, o, hl, hr, hb⟩ := actw_arg (P := Tryd.prog) (W := W) (eo := eo) Tryd.underlying23 Tryd.underlying28 c3 rfl rfl rfl rfl rfl rfl Tryd.underlying3 Tryd.underlying9 ci cs_ hv ht (blk_of hkn)
 refine walk_of_meets_at (argE W eo b) (argE_glob _ _ _) (argE_top _ _ _) (flowSends_ev eo hd win most o l hl) rfl (fun i x y hx hy => ?_) (known.spec (known_app (known.mono (argE_le W eo b) hkn) ⟨⟨rfl, b, sizeAt W b, argE_450 W eo b, hb⟩, trivial⟩))
 match i, hx, hy with
 | 0, hx, hy => injection hx with hx; injection hy with hy; subst hx; subst hy; exact .u32 _
 | 1, hx, hy => injection hx with hx; injection hy with hy; subst hx; subst hy; exact .u32 _
 | 2, hx, hy => injection hx with hx; injection hy with hy; subst hx; subst hy; exact hr
 | i + 3, hx, _ => simp at hx
set_option maxRecDepth 100000 in
theorem flowRecvs_all {H : Type} {enc : TypeId × Value → H} (win most : UInt32) {v : Value} {d : DataW H} {ps : List MemPlace} (W : World) {b0 : Nat} (hv : Value.okWide Tryd.prog W .any b0 23 v)
  (ht : DataW.Trod enc Tryd.prog W 0 (fun _ => true) true 23 v d ps) (h : laidMet Tryd.prog Rows.flowRecvsRow.laid W) :
  Calls Tryd.prog 4 #[U32 win, U32 most, v] W fun e W' => e = .returned (.bool true) ∧ Below W.heap.size W W' := by
 obtain ⟨eo, hd, hkn⟩ := laid_errs h
 have c3 : Tryd.prog.cellsOf 28 = 3 := by kernel_rfl
 have ci : Tryd.prog.cellsOf 3 = 1 := by kernel_rfl
 have cs_ : Tryd.prog.cellsOf 9 = 1 := by kernel_rfl
 obtain ⟨l, b, o, hl, hr, hb⟩ := actw_arg (P := Tryd.prog) (W := W) (eo := eo) Tryd.underlying23 Tryd.underlying28 c3 rfl rfl rfl rfl rfl rfl Tryd.underlying3 Tryd.underlying9 ci cs_ hv ht (blk_of hkn)
 refine walk_of_meets_at (argE W eo b) (argE_glob _ _ _) (argE_top _ _ _) (flowRecvs_ev eo hd win most o l hl) rfl (fun i x y hx hy => ?_) (known.spec (known_app (known.mono (argE_le W eo b) hkn) ⟨⟨rfl, b, sizeAt W b, argE_450 W eo b, hb⟩, trivial⟩))
 match i, hx, hy with
 | 0, hx, hy => injection hx with hx; injection hy with hy; subst hx; subst hy; exact .u32 _
 | 1, hx, hy => injection hx with hx; injection hy with hy; subst hx; subst hy; exact .u32 _
 | 2, hx, hy => injection hx with hx; injection hy with hy; subst hx; subst hy; exact hr
 | i + 3, hx, _ => simp at hx
set_option maxRecDepth 100000 in
theorem flowTogether_all {H : Type} {enc : TypeId × Value → H} (win most : UInt32) {v : Value} {d : DataW H} {ps : List MemPlace} (W : World) {b0 : Nat} (hv : Value.okWide Tryd.prog W .any b0 23 v)
  (ht : DataW.Trod enc Tryd.prog W 0 (fun _ => true) true 23 v d ps) (h : laidMet Tryd.prog Rows.flowTogetherRow.laid W) :
  Calls Tryd.prog 5 #[U32 win, U32 most, v] W fun e W' => e = .returned (.bool true) ∧ Below W.heap.size W W' := by
 obtain ⟨eo, hd, hkn⟩ := laid_errs h
 have c3 : Tryd.prog.cellsOf 28 = 3 := by kernel_rfl
 have ci : Tryd.prog.cellsOf 3 = 1 := by kernel_rfl
 have cs_ : Tryd.prog.cellsOf 9 = 1 := by kernel_rfl
 obtain ⟨l, b, o, hl, hr, hb⟩ := actw_arg (P := Tryd.prog) (W := W) (eo := eo) Tryd.underlying23 Tryd.underlying28 c3 rfl rfl rfl rfl rfl rfl Tryd.underlying3 Tryd.underlying9 ci cs_ hv ht (blk_of hkn)
 refine walk_of_meets_at (argE W eo b) (argE_glob _ _ _) (argE_top _ _ _) (flowTogether_ev eo hd win most o l hl) rfl (fun i x y hx hy => ?_) (known.spec (known_app (known.mono (argE_le W eo b) hkn) ⟨⟨rfl, b, sizeAt W b, argE_450 W eo b, hb⟩, trivial⟩))
 match i, hx, hy with
 | 0, hx, hy => injection hx with hx; injection hy with hy; subst hx; subst hy; exact .u32 _
 | 1, hx, hy => injection hx with hx; injection hy with hy; subst hx; subst hy; exact .u32 _
 | 2, hx, hy => injection hx with hx; injection hy with hy; subst hx; subst hy; exact hr
 | i + 3, hx, _ => simp at hx
end Go.Proofs.YtdhpfkojodgadaaDoor
