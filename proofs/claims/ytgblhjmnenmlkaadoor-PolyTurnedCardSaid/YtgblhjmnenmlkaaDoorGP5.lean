/-
  Texts of this claim.
-/
import Derived.Deep.SlicePairs
import Derived.Test.YtgblhjmnenmlkaaDoorGP4
import Derived.Test.YtgblhjmnenmlkaaDoorGP3
namespace Go.Proofs.YtgblhjmnenmlkaaDoor
open Go.ChangeShapes Go.WideShapes Go.RowKit
theorem take_one_get {α : Type} {L : List α} {k : Nat} {v : α} (h : (L.drop k).take 1 = [v]) : L[k]? = some v := by
  have h1 := congrArg (fun l => l[0]?) h
  simp only [List.getElem?_take, List.getElem?_drop, List.getElem?_cons_zero] at h1
  simpa using h1
theorem u8_wf {n : Int} (h : (Lit.int .u8 n).wf = true) : ∃ x : UInt8, n = (x.toNat : Int) := by
  simp [Lit.wf] at h
  have h1 : IntKind.u8.min = 0 := rfl
  have h2 : IntKind.u8.max = 255 := rfl
  refine ⟨UInt8.ofNat n.toNat, ?_⟩
  have h3 : (UInt8.ofNat n.toNat).toNat = n.toNat := by rw [UInt8.toNat_ofNat']; exact Nat.mod_eq_of_lt (by omega)
  rw [h3]; omega
theorem turn_all (key text extra : List UInt8) (wh at_ : Int) (by_ : UInt8) : (turnC key text extra wh at_ by_).all AV.one = true := by unfold turnC; rw [List.all_append]; simp [AV.one]
theorem turned_gen {P : Program} {H : Type} {enc : TypeId × Value → H} {W : World} {b0 tT tB tb ts ti : Nat} {f0 f1 f2 f3 f4 f5 : Field} {v : Value} {d : DataW H} {ps : List MemPlace} {sp : Nat → Bool}
    (hu : P.underlying tT = some (.struct #[f0, f1, f2, f3, f4, f5])) (o0 : f0.offset = 0) (o1 : f1.offset = 32) (o2 : f2.offset = 33) (o3 : f3.offset = 34) (o4 : f4.offset = 35) (o5 : f5.offset = 36)
    (t0 : f0.type = tB) (t1 : f1.type = ts) (t2 : f2.type = ts) (t3 : f3.type = ti) (t4 : f4.type = ti) (t5 : f5.type = tb) (hB : P.underlying tB = some (.array 32 tb)) (hb : P.underlying tb = some (.int .u8)) (hs : P.underlying ts = some .string) (hi : P.underlying ti = some (.int .i64))
    (cT : P.cellsOf tT = 37) (cB : P.cellsOf tB = 32) (cb : P.cellsOf tb = 1) (cs_ : P.cellsOf ts = 1) (ci : P.cellsOf ti = 1)
    (hv : Value.okWide P W .any b0 tT v) (h : DataW.Trod enc P W 0 sp true tT v d ps) :
    ∃ (key : List UInt8) (text extra : ByteArray) (wh at_ : Int) (by_ : UInt8), key.length = 32 ∧ text.size ≤ maxLen ∧ extra.size ≤ maxLen ∧ ∀ E, Rel E (.agg (turnC key text.data.toList extra.data.toList wh at_ by_)) v := by
  simp only [Value.okWide, hu] at hv
  obtain ⟨cs, rfl, hsz, _⟩ := hv
  obtain ⟨fuel, hf⟩ := h
  simp only [Value.cells] at hf
  obtain ⟨xs, n, hn, hx, hcl, hxl, hfield⟩ := DataW.trod_struct hu hf
  have hxl' : xs.length = 6 := hxl
  have g : ∀ i, i < 6 → ∃ x, xs[i]? = some x := fun i hi => ⟨xs[i], List.getElem?_eq_getElem (by omega)⟩
  obtain ⟨x0, e0⟩ := g 0 (by decide)
  obtain ⟨x1, e1⟩ := g 1 (by decide)
  obtain ⟨x2, e2⟩ := g 2 (by decide)
  obtain ⟨x3, e3⟩ := g 3 (by decide)
  obtain ⟨x4, e4⟩ := g 4 (by decide)
  obtain ⟨x5, e5⟩ := g 5 (by decide)
  have q0 := hfield 0 f0 rfl
  have q1 := hfield 1 f1 rfl
  have q2 := hfield 2 f2 rfl
  have q3 := hfield 3 f3 rfl
  have q4 := hfield 4 f4 rfl
  have q5 := hfield 5 f5 rfl
  rw [t0, o0, cB, e0] at q0
  rw [t1, o1, cs_, e1] at q1
  rw [t2, o2, cs_, e2] at q2
  rw [t3, o3, ci, e3] at q3
  rw [t4, o4, ci, e4] at q4
  rw [t5, o5, cb, e5] at q5
  obtain ⟨s1, k1, _, z1⟩ := DataW.trod_string hs q1
  obtain ⟨s2, k2, _, z2⟩ := DataW.trod_string hs q2
  obtain ⟨n3, k3, _, _⟩ := DataW.trod_int hi q3
  obtain ⟨n4, k4, _, _⟩ := DataW.trod_int hi q4
  obtain ⟨n5, k5, _, w5⟩ := DataW.trod_int hb q5
  obtain ⟨y5, rfl⟩ := u8_wf w5
  obtain ⟨ys, m, hm, hy, hyl, hysl, hyf⟩ := DataW.trod_array hB q0
  have each : ∀ i, i < 32 → ∃ u : UInt8, cs.toList[i]? = some (.int .u8 (u.toNat : Int)) := fun i hi' => by
    have h1 := hyf i hi'
    rw [cb, Nat.mul_one, List.getElem?_eq_getElem (show i < ys.length by omega)] at h1
    obtain ⟨z, k, _, w⟩ := DataW.trod_int hb h1
    obtain ⟨u, rfl⟩ := u8_wf w
    refine ⟨u, ?_⟩
    have := take_one_get k
    rw [List.drop_zero, List.getElem?_take, if_pos hi'] at this
    exact this
  obtain ⟨kf, hkf⟩ := Go.Deep.choose_lt each
  have hlen : cs.size = 37 := by rw [hsz]; exact cT
  have hkl : ((List.range 32).map kf).length = 32 := by simp
  refine ⟨(List.range 32).map kf, s1, s2, n3, n4, y5, hkl, z1, z2, fun E => .agg _ _ _ rfl (by rw [turn_len hkl, hlen]) (List.all_eq_true.1 (turn_all _ _ _ _ _ _)) (fun i x y hx hy => ?_)⟩
  have hi37 : i < 37 := by have := (List.getElem?_eq_some_iff.1 hx).1; rwa [turn_len hkl] at this
  rw [← Array.getElem?_toList] at hy
  by_cases hlt : i < 32
  · have hx' : x = .u8 (kf i) := by
      unfold turnC at hx
      rw [List.getElem?_append_left (by simpa using hlt), List.getElem?_map, List.getElem?_map, List.getElem?_range hlt] at hx
      exact (Option.some.inj hx).symm
    rw [hkf i hlt] at hy
    injection hy with hy
    subst hx'; subst hy
    exact .u8 _
  · obtain ⟨j, rfl⟩ : ∃ j, i = 32 + j := ⟨i - 32, by omega⟩
    have hx2 : ([.str s1.data.toList, .str s2.data.toList, .i64 n3, .i64 n4, .u8 y5] : List AV)[j]? = some x := by
      unfold turnC at hx
      rw [List.getElem?_append_right (by simp), List.length_map, hkl, show 32 + j - 32 = j by omega] at hx
      exact hx
    have p1 := take_one_get k1
    have p2 := take_one_get k2
    have p3 := take_one_get k3
    have p4 := take_one_get k4
    have p5 := take_one_get k5
    match j, hi37, hx2, hy with
    | 0, _, hx, hy => rw [p1] at hy; injection hx with hx; injection hy with hy; subst hx; subst hy; exact .str _
    | 1, _, hx, hy => rw [p2] at hy; injection hx with hx; injection hy with hy; subst hx; subst hy; exact .str _
    | 2, _, hx, hy => rw [p3] at hy; injection hx with hx; injection hy with hy; subst hx; subst hy; exact .i64 _
    | 3, _, hx, hy => rw [p4] at hy; injection hx with hx; injection hy with hy; subst hx; subst hy; exact .i64 _
    | 4, _, hx, hy => rw [p5] at hy; injection hx with hx; injection hy with hy; subst hx; subst hy; exact .u8 _
    | j + 5, h, _, _ => omega
set_option maxRecDepth 100000 in
theorem polyTurned_all {H : Type} {enc : TypeId × Value → H} {v : Value} {d : DataW H} {ps : List MemPlace} (W : World) {b0 : Nat} (hv : Value.okWide Tryd.prog W .any b0 40 v)
    (ht : DataW.Trod enc Tryd.prog W 0 (fun _ => true) true 40 v d ps) (hQ : QAt W) (h : laidMet Tryd.prog Rows.polyTurnedRow.laid W) :
    Calls Tryd.prog 5 #[v] W fun e W' => e = .returned (.bool true) ∧ Below W.heap.size W W' := by
  have h1 := laidMet_tail h
  obtain ⟨eo, hd, hkn⟩ := laid_errs h1
  have cT : Tryd.prog.cellsOf 40 = 37 := by kernel_rfl
  have cB : Tryd.prog.cellsOf 22 = 32 := by kernel_rfl
  have cb : Tryd.prog.cellsOf 5 = 1 := by kernel_rfl
  have cs : Tryd.prog.cellsOf 9 = 1 := by kernel_rfl
  have ci : Tryd.prog.cellsOf 3 = 1 := by kernel_rfl
  obtain ⟨key, text, extra, wh, at_, by_, hk, hs, he, hr⟩ := turned_gen (P := Tryd.prog) (W := W) (tB := 22) (tb := 5) (ts := 9) (ti := 3) Tryd.underlying40 rfl rfl rfl rfl rfl rfl rfl rfl rfl rfl rfl rfl Tryd.underlying22 Tryd.underlying5 Tryd.underlying9 Tryd.underlying3 cT cB cb cs ci hv ht
  refine walk_of_meets_at (errE W eo) (errE_glob _ _) (errE_top _ _) (polyTurned_ev eo hd anyT key text.data.toList extra.data.toList wh at_ by_ hk hs he) rfl (fun i x y hx hy => ?_) (known.spec ⟨⟨rfl, 21, sizeAt W 21, by simp [errE], quarters_any hQ⟩, hkn⟩)
  match i, hx, hy with
  | 0, hx, hy => injection hx with hx; injection hy with hy; subst hx; subst hy; exact hr _
  | i + 1, hx, _ => simp at hx
end Go.Proofs.YtgblhjmnenmlkaaDoor
