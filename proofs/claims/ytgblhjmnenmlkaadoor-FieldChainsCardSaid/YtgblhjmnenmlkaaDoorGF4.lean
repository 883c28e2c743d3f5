/-
  Texts of this claim.
-/
import Derived.Test.YtgblhjmnenmlkaaDoorGL
import Derived.Test.YtgblhjmnenmlkaaDoorGF3
import Derived.Test.YtgblhjmnenmlkaaDoorGL1
namespace Go.Proofs.YtgblhjmnenmlkaaDoor
open Go.ChangeShapes Go.WideShapes Go.ChangeAt Go.RowKit
theorem bat_u64_E {E E' : Emb} {l : List UInt64} {e : Nat} {ow : Bool} {w : World} {g s : Nat} (h : BAt E ⟨.agg64 l, e, ow⟩ w g s) : BAt E' ⟨.agg64 l, e, ow⟩ w g s := by
  obtain ⟨arr, t, fz, h1, h2, h3, h4, h5⟩ := h
  refine ⟨arr, t, fz, h1, h2, h3, h4, fun i x hx => ?_⟩
  obtain ⟨a, y, b, c⟩ := h5 i x hx
  obtain ⟨v, _, rfl⟩ := get_map_some (l := l) hx
  exact ⟨a, y, b, by rw [c.u64_inv]; exact .u64 _⟩
/-- A slice of calls. -/
theorem acts_arg {H : Type} {enc : TypeId × Value → H} {P : Program} {W : World} {eo : Nat → Nat × Nat} {t e ti ts : TypeId} {f0 f1 : Field} {v : Value} {d : DataW H} {ps : List MemPlace} (ht : P.underlying t = some (.slice e)) (he : P.underlying e = some (.struct #[f0, f1])) (ce : P.cellsOf e = 2)
    (o0 : f0.offset = 0) (o1 : f1.offset = 1) (t0 : f0.type = ti) (t1 : f1.type = ts) (hi : P.underlying ti = some (.int .i64)) (hs : P.underlying ts = some .string) (ci : P.cellsOf ti = 1) (cs_ : P.cellsOf ts = 1) {b0 : Nat} (hv : Value.okWide P W .any b0 t v)
    (h : DataW.Trod enc P W 0 (fun _ => true) true t v d ps) (hblk : ∃ (b : Nat) (arr : Array Value) (t : TypeId) (fz : Nat × Nat), W.heap[b]? = some (.cells arr t fz)) :
    ∃ (l : List ActV) (b o : Nat), l.length ≤ maxLen ∧ Rel (argE W eo b) (.sl 450 o l.length 2) v ∧ BAt (argE W eo b) ⟨.agg (offC o (rowsC actC l)), anyT, false⟩ W b (sizeAt W b) := by
  refine slice_arg actC (fun _ => rfl) (by decide) ht ce hv (fun n cs' y hl hy => ?_) h hblk
  match cs', hl with
  | [w0, w1], _ =>
    obtain ⟨xs, m, _, _, _, hxl, hf⟩ := DataW.trod_struct he hy
    have hxl' : xs.length = 2 := hxl
    have q0 := hf 0 f0 rfl
    have q1 := hf 1 f1 rfl
    rw [List.getElem?_eq_getElem (by omega)] at q0 q1
    simp only [t0, o0, ci, t1, o1, cs_, List.drop_zero, List.take_succ_cons, List.take_zero, List.drop_succ_cons, List.take_nil] at q0 q1
    obtain ⟨k, k0, _, _⟩ := DataW.trod_int hi q0
    obtain ⟨s, k1, _, z1⟩ := DataW.trod_string hs q1
    simp only [List.cons.injEq, and_true] at k0 k1
    refine ⟨⟨k, s.data.toList, z1⟩, fun j x hx => ?_⟩
    match j, hx with
    | 0, hx => simp only [actC, List.getElem?_cons_zero, Option.some.injEq] at hx; subst hx; exact ⟨rfl, w0, rfl, fun E => by rw [k0]; exact .i64 _⟩
    | 1, hx => simp only [actC, List.getElem?_cons_succ, List.getElem?_cons_zero, Option.some.injEq] at hx; subst hx; exact ⟨rfl, w1, rfl, fun E => by rw [k1]; exact .str _⟩
    | j + 2, hx => simp [actC] at hx
set_option maxRecDepth 100000 in
theorem fieldChains_all {H : Type} {enc : TypeId × Value → H} (s : ByteArray) (hs : s.size ≤ maxLen) {v : Value} {d : DataW H} {ps : List MemPlace} (W : World) {b0 : Nat} (hv : Value.okWide Tryd.prog W .any b0 43 v)
    (ht : DataW.Trod enc Tryd.prog W 0 (fun _ => true) true 43 v d ps) (hP : ∃ e, BAt (topE W) ⟨.agg64 primeL, e, false⟩ W 20 (sizeAt W 20)) :
    Calls Tryd.prog 6 #[.string s, v] W fun e W' => e = .returned (.bool true) ∧ Below W.heap.size W W' := by
  obtain ⟨e, he⟩ := hP
  have hq : ∃ (b : Nat) (arr : Array Value) (t : TypeId) (fz : Nat × Nat), W.heap[b]? = some (.cells arr t fz) := by
    obtain ⟨arr, t, fz, hb, _⟩ := he
    exact ⟨_, arr, t, fz, hb⟩
  have c2 : Tryd.prog.cellsOf 52 = 2 := by kernel_rfl
  have ci : Tryd.prog.cellsOf 3 = 1 := by kernel_rfl
  have cs_ : Tryd.prog.cellsOf 9 = 1 := by kernel_rfl
  obtain ⟨l, b, o, hl, hr, hb⟩ := acts_arg (P := Tryd.prog) (W := W) (eo := fun _ => (0, 0)) Tryd.underlying43 Tryd.underlying52 c2 rfl rfl rfl rfl Tryd.underlying3 Tryd.underlying9 ci cs_ hv ht hq
  refine walk_of_meets_at (argE W (fun _ => (0, 0)) b) (argE_glob _ _ _) (argE_top _ _ _) (fieldChains_ev e s.data.toList hs o l hl) rfl (fun i x y hx hy => ?_) (known.spec ⟨⟨rfl, 20, sizeAt W 20, argE_le W _ b _ _ (by simp [errE]), bat_u64_E he⟩, ⟨rfl, b, sizeAt W b, argE_450 W _ b, hb⟩, trivial⟩)
  match i, hx, hy with
  | 0, hx, hy => injection hx with hx; injection hy with hy; subst hx; subst hy; exact .str _
  | 1, hx, hy => injection hx with hx; injection hy with hy; subst hx; subst hy; exact hr
  | i + 2, hx, _ => simp at hx
end Go.Proofs.YtgblhjmnenmlkaaDoor
