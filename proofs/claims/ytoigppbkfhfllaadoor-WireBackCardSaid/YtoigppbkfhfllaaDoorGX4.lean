/-
  Texts of this claim.
-/
import Derived.Test.YtoigppbkfhfllaaDoorGX1
import Derived.Test.YtoigppbkfhfllaaDoorGL1
import Derived.Test.YtoigppbkfhfllaaDoorGZ
import Derived.Test.YtoigppbkfhfllaaDoorGX3
namespace Go.Proofs.YtoigppbkfhfllaaDoor
open Go.ChangeShapes Go.WideShapes Go.ChangeAt Go.RowKit
theorem u64_lit {n : Int} (h : (Lit.int .u64 n).wf = true) : ∃ x : UInt64, n = (x.toNat : Int) := by
  simp [Lit.wf] at h
  have h1 : IntKind.u64.min = 0 := rfl
  have h2 : IntKind.u64.max = 18446744073709551615 := rfl
  refine ⟨UInt64.ofNat n.toNat, ?_⟩
  have h3 : (UInt64.ofNat n.toNat).toNat = n.toNat := by rw [UInt64.toNat_ofNat']; exact Nat.mod_eq_of_lt (by omega)
  rw [h3]; omega
/-- A slice of fields. -/
theorem fields_arg {H : Type} {enc : TypeId × Value → H} {P : Program} {W : World} {eo : Nat → Nat × Nat} {t e ti tu ts tl : TypeId} {f0 f1 f2 f3 : Field} {v : Value} {d : DataW H} {ps : List MemPlace} (ht : P.underlying t = some (.slice e)) (he : P.underlying e = some (.struct #[f0, f1, f2, f3])) (ce : P.cellsOf e = 4)
    (o0 : f0.offset = 0) (o1 : f1.offset = 1) (o2 : f2.offset = 2) (o3 : f3.offset = 3) (t0 : f0.type = ti) (t1 : f1.type = tu) (t2 : f2.type = ts) (t3 : f3.type = tl) (hi : P.underlying ti = some (.int .i64)) (hu : P.underlying tu = some (.int .u64)) (hs : P.underlying ts = some .string) (hl : P.underlying tl = some (.slice ts))
    (ci : P.cellsOf ti = 1) (cu : P.cellsOf tu = 1) (cs_ : P.cellsOf ts = 1) (cl : P.cellsOf tl = 1) {b0 : Nat} (hv : Value.okWide P W .any b0 t v)
    (h : DataW.Trod enc P W 0 (fun _ => true) true t v d ps) (hblk : ∃ (b : Nat) (arr : Array Value) (t : TypeId) (fz : Nat × Nat), W.heap[b]? = some (.cells arr t fz)) :
    ∃ (l : List FV) (b o : Nat), l.length ≤ maxLen ∧ Rel (argD W eo b) (.sl 450 o l.length 4) v ∧ BAt (argD W eo b) ⟨.agg (offC o (rowsC fvR l)), anyT, false⟩ W b (sizeAt W b) := by
  refine slice_argD fvR (fun _ => rfl) (by decide) ht ce hv (fun n cs' y hl' hy => ?_) h hblk
  match cs', hl' with
  | [w0, w1, w2, w3], _ =>
    obtain ⟨xs, m, _, _, _, hxl, hf⟩ := DataW.trod_struct he hy
    have hxl' : xs.length = 4 := hxl
    have q0 := hf 0 f0 rfl
    have q1 := hf 1 f1 rfl
    have q2 := hf 2 f2 rfl
    have q3 := hf 3 f3 rfl
    rw [List.getElem?_eq_getElem (by omega)] at q0 q1 q2 q3
    simp only [t0, o0, ci, t1, o1, cu, t2, o2, cs_, t3, o3, cl, List.drop_zero, List.take_succ_cons, List.take_zero, List.drop_succ_cons, List.take_nil] at q0 q1 q2 q3
    obtain ⟨k, k0, _, _⟩ := DataW.trod_int hi q0
    obtain ⟨m1, k1, _, z1⟩ := DataW.trod_int hu q1
    obtain ⟨s, k2, _, z2⟩ := DataW.trod_string hs q2
    obtain ⟨ls, z3, z4, k3⟩ := dsl_cell hl hs cs_ q3
    obtain ⟨u, rfl⟩ := u64_lit z1
    simp only [List.cons.injEq, and_true] at k0 k1 k2
    refine ⟨⟨k, u, s.data.toList, ls, z2, z3, z4⟩, fun j x hx => ?_⟩
    match j, hx with
    | 0, hx => simp only [fvR, List.getElem?_cons_zero, Option.some.injEq] at hx; subst hx; exact ⟨rfl, w0, rfl, fun E => by rw [k0]; exact .i64 _⟩
    | 1, hx => simp only [fvR, List.getElem?_cons_succ, List.getElem?_cons_zero, Option.some.injEq] at hx; subst hx; exact ⟨rfl, w1, rfl, fun E => by rw [k1]; exact .u64 _⟩
    | 2, hx => simp only [fvR, List.getElem?_cons_succ, List.getElem?_cons_zero, Option.some.injEq] at hx; subst hx; exact ⟨rfl, w2, rfl, fun E => by rw [k2]; exact .str _⟩
    | 3, hx => simp only [fvR, List.getElem?_cons_succ, List.getElem?_cons_zero, Option.some.injEq] at hx; subst hx; exact ⟨rfl, w3, rfl, fun E => k3 _⟩
    | j + 4, hx => simp [fvR] at hx
end Go.Proofs.YtoigppbkfhfllaaDoor
namespace Go.Proofs.YtoigppbkfhfllaaDoor
open Go.ChangeShapes Go.WideShapes Go.ChangeAt Go.RowKit
set_option maxRecDepth 100000 in
theorem wireBack_all {H : Type} {enc : TypeId × Value → H} {v : Value} {d : DataW H} {ps : List MemPlace} (W : World) {b0 : Nat} (hv : Value.okWide Tryd.prog W .any b0 22 v)
  (ht : DataW.Trod enc Tryd.prog W 0 (fun _ => true) true 22 v d ps) (h : laidMet Tryd.prog Rows.wireBackRow.laid W) :
  Calls Tryd.prog 4 #[v] W fun e W' => e = .returned (.bool true) ∧ Below W.heap.size W W' := by
 have h1 := laidMet_tail h
 have h2 := laidMet_tail h1
 have h3 := laidMet_tail h2
 obtain ⟨a, ha⟩ := laid_err h1 (by kernel_rfl) (by kernel_rfl)
 obtain ⟨b, hb⟩ := laid_err h2 (by kernel_rfl) (by kernel_rfl)
 obtain ⟨c, hc⟩ := laid_err h3 (by kernel_rfl) (by kernel_rfl)
 obtain ⟨arr0, t0, hv0, _⟩ := ha.var
 have c4 : Tryd.prog.cellsOf 33 = 4 := by kernel_rfl
 have ci : Tryd.prog.cellsOf 3 = 1 := by kernel_rfl
 have cu : Tryd.prog.cellsOf 30 = 1 := by kernel_rfl
 have cs_ : Tryd.prog.cellsOf 9 = 1 := by kernel_rfl
 have cl : Tryd.prog.cellsOf 31 = 1 := by kernel_rfl
 obtain ⟨l, q, o, hl, hr, hbt⟩ := fields_arg (P := Tryd.prog) (W := W) (eo := eo3 a b c) Tryd.underlying22 Tryd.underlying33 c4 rfl rfl rfl rfl rfl rfl rfl rfl Tryd.underlying3 Tryd.underlying30 Tryd.underlying9 Tryd.underlying31 ci cu cs_ cl hv ht ⟨_, arr0, t0, _, hv0⟩
 refine walk_of_meets_at (argD W (eo3 a b c) q) (argD_glob _ _ _) (argD_top _ _ _) (wireBack_ev (eo3 a b c) o l hl) rfl (fun i x y hx hy => ?_) (known.spec (known_app4 (known.mono (argE_leD' W (eo3 a b c) q) (show known W (errE W (eo3 a b c)) [(3, some ⟨.agg [.err 161 (2) (offE (eo3 a b c) (2))], errT, false⟩), (0, some ⟨.agg [.err 161 (4) (offE (eo3 a b c) (4))], errT, false⟩), (1, some ⟨.agg [.err 161 (3) (offE (eo3 a b c) (3))], errT, false⟩)] from ⟨known_var (n := 1) ha (by decide) (by decide), known_var (n := 3) hc (by decide) (by decide), known_var (n := 2) hb (by decide) (by decide), trivial⟩)) ⟨⟨rfl, q, sizeAt W q, argD_450 W (eo3 a b c) q, hbt⟩, trivial⟩)) (argD_at W (eo3 a b c) q)
 match i, hx, hy with
 | 0, hx, hy => injection hx with hx; injection hy with hy; subst hx; subst hy; exact hr
 | i + 1, hx, _ => simp at hx
end Go.Proofs.YtoigppbkfhfllaaDoor
