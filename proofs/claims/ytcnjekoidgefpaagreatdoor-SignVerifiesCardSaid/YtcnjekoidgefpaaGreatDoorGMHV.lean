/-
  Texts of this claim.
-/
import Derived.Deep.SlicePairs
import Derived.Test.YtcnjekoidgefpaaGreatDoorGKMV
import Derived.Test.YtcnjekoidgefpaaGreatDoorGOV
import Derived.Test.YtcnjekoidgefpaaGreatDoorGKZV
namespace Go.Proofs.YtcnjekoidgefpaaGreatDoor
open Go.ChangeShapes Go.WideShapes Go.ChangeAt Go.RowKit
theorem mV {α : Type} {L : List α} {k : Nat} {v : α} (h : (L.drop k).take 1 = [v]) : L[k]? = some v := by
  have h1 := congrArg (fun l => l[0]?) h
  simp only [List.getElem?_take, List.getElem?_drop, List.getElem?_cons_zero] at h1
  simpa using h1
theorem u8_wf8 {n : Int} (h : (Lit.int .u8 n).wf = true) : ∃ x : UInt8, n = (x.toNat : Int) := by
  simp [Lit.wf] at h
  have h1 : IntKind.u8.min = 0 := rfl
  have h2 : IntKind.u8.max = 255 := rfl
  refine ⟨UInt8.ofNat n.toNat, ?_⟩
  have h3 : (UInt8.ofNat n.toNat).toNat = n.toNat := by rw [UInt8.toNat_ofNat']; exact Nat.mod_eq_of_lt (by omega)
  rw [h3]; omega
theorem sgc_all (key sig m : List UInt8) (wh at_ : Int) (by_ : UInt8) (any_ : Bool) : (sgC key sig m wh at_ by_ any_).all AV.one = true := by unfold sgC; rw [List.all_append]; simp [AV.one]
theorem signed_gen {P : Program} {H : Type} {enc : TypeId × Value → H} {W : World} {b0 tT tB tS tb ts ti tl : Nat} {f0 f1 f2 f3 f4 f5 f6 : Field} {v : Value} {d : DataW H} {ps : List MemPlace} {sp : Nat → Bool}
    (hu : P.underlying tT = some (.struct #[f0, f1, f2, f3, f4, f5, f6])) (o0 : f0.offset = 0) (o1 : f1.offset = 32) (o2 : f2.offset = 96) (o3 : f3.offset = 97) (o4 : f4.offset = 98) (o5 : f5.offset = 99) (o6 : f6.offset = 100)
    (t0 : f0.type = tB) (t1 : f1.type = tS) (t2 : f2.type = ts) (t3 : f3.type = ti) (t4 : f4.type = ti) (t5 : f5.type = tb) (t6 : f6.type = tl) (hB : P.underlying tB = some (.array 32 tb)) (hS : P.underlying tS = some (.array 64 tb)) (hb : P.underlying tb = some (.int .u8)) (hs : P.underlying ts = some .string) (hi : P.underlying ti = some (.int .i64)) (hl : P.underlying tl = some .bool)
    (cT : P.cellsOf tT = 101) (cB : P.cellsOf tB = 32) (cS : P.cellsOf tS = 64) (cb : P.cellsOf tb = 1) (cs_ : P.cellsOf ts = 1) (ci : P.cellsOf ti = 1) (cl : P.cellsOf tl = 1)
    (hv : Value.okWide P W .any b0 tT v) (h : DataW.Trod enc P W 0 sp true tT v d ps) :
    ∃ (key sig : List UInt8) (m : ByteArray) (wh at_ : Int) (by_ : UInt8) (any_ : Bool), key.length = 32 ∧ sig.length = 64 ∧ m.size ≤ maxLen ∧ ∀ E, Rel E (.agg (sgC key sig m.data.toList wh at_ by_ any_)) v := by
  simp only [Value.okWide, hu] at hv
  obtain ⟨cs, rfl, hsz, _⟩ := hv
  obtain ⟨fuel, hf⟩ := h
  simp only [Value.cells] at hf
  obtain ⟨xs, n, hn, hx, hcl, hxl, hfield⟩ := DataW.trod_struct hu hf
  have hxl' : xs.length = 7 := hxl
  have g : ∀ i, i < 7 → ∃ x, xs[i]? = some x := fun i hi => ⟨xs[i], List.getElem?_eq_getElem (by omega)⟩
  obtain ⟨x0, e0⟩ := g 0 (by decide)
  obtain ⟨x1, e1⟩ := g 1 (by decide)
  obtain ⟨x2, e2⟩ := g 2 (by decide)
  obtain ⟨x3, e3⟩ := g 3 (by decide)
  obtain ⟨x4, e4⟩ := g 4 (by decide)
  obtain ⟨x5, e5⟩ := g 5 (by decide)
  obtain ⟨x6, e6⟩ := g 6 (by decide)
  have q0 := hfield 0 f0 rfl
  have q1 := hfield 1 f1 rfl
  have q2 := hfield 2 f2 rfl
  have q3 := hfield 3 f3 rfl
  have q4 := hfield 4 f4 rfl
  have q5 := hfield 5 f5 rfl
  have q6 := hfield 6 f6 rfl
  rw [t0, o0, cB, e0] at q0
  rw [t1, o1, cS, e1] at q1
  rw [t2, o2, cs_, e2] at q2
  rw [t3, o3, ci, e3] at q3
  rw [t4, o4, ci, e4] at q4
  rw [t5, o5, cb, e5] at q5
  rw [t6, o6, cl, e6] at q6
  obtain ⟨s2, k2, _, z2⟩ := DataW.trod_string hs q2
  obtain ⟨n3, k3, _, _⟩ := DataW.trod_int hi q3
  obtain ⟨n4, k4, _, _⟩ := DataW.trod_int hi q4
  obtain ⟨n5, k5, _, w5⟩ := DataW.trod_int hb q5
  obtain ⟨b6, k6, _⟩ := DataW.trod_bool hl q6
  obtain ⟨y5, rfl⟩ := u8_wf8 w5
  obtain ⟨ys, m, hm, hy, hyl, hysl, hyf⟩ := DataW.trod_array hB q0
  obtain ⟨zs, m', hm', hz, hzl, hzsl, hzf⟩ := DataW.trod_array hS q1
  have each : ∀ i, i < 32 → ∃ u : UInt8, cs.toList[i]? = some (.int .u8 (u.toNat : Int)) := fun i hi' => by
    have h1 := hyf i hi'
    rw [cb, Nat.mul_one, List.getElem?_eq_getElem (show i < ys.length by omega)] at h1
    obtain ⟨z, k, _, w⟩ := DataW.trod_int hb h1
    obtain ⟨u, rfl⟩ := u8_wf8 w
    refine ⟨u, ?_⟩
    have := mV k
    rw [List.drop_zero, List.getElem?_take, if_pos hi'] at this
    exact this
  have each2 : ∀ i, i < 64 → ∃ u : UInt8, cs.toList[32 + i]? = some (.int .u8 (u.toNat : Int)) := fun i hi' => by
    have h1 := hzf i hi'
    rw [cb, Nat.mul_one, List.getElem?_eq_getElem (show i < zs.length by omega)] at h1
    obtain ⟨z, k, _, w⟩ := DataW.trod_int hb h1
    obtain ⟨u, rfl⟩ := u8_wf8 w
    refine ⟨u, ?_⟩
    have := mV k
    rw [List.getElem?_take, if_pos hi', List.getElem?_drop] at this
    exact this
  obtain ⟨kf, hkf⟩ := Go.Deep.choose_lt each
  obtain ⟨sf, hsf⟩ := Go.Deep.choose_lt each2
  have hlen : cs.size = 101 := by rw [hsz]; exact cT
  have hkl : ((List.range 32).map kf).length = 32 := by simp
  have hgl : ((List.range 64).map sf).length = 64 := by simp
  refine ⟨(List.range 32).map kf, (List.range 64).map sf, s2, n3, n4, y5, b6, hkl, hgl, z2, fun E => .agg _ _ _ rfl (by rw [sg_len hkl hgl, hlen]) (List.all_eq_true.1 (sgc_all _ _ _ _ _ _ _)) (fun i x y hx hy => ?_)⟩
  have hi101 : i < 101 := by have := (List.getElem?_eq_some_iff.1 hx).1; rwa [sg_len hkl hgl] at this
  rw [← Array.getElem?_toList] at hy
  by_cases h96 : i < 96
  · by_cases hlt : i < 32
    · have hx' : x = .u8 (kf i) := by
        unfold sgC at hx
        rw [List.getElem?_append_left (by rw [eN hkl hgl]; exact h96), List.getElem?_map, List.getElem?_append_left (by simpa using hlt), List.getElem?_map, List.getElem?_range hlt] at hx
        exact (Option.some.inj hx).symm
      rw [hkf i hlt] at hy
      injection hy with hy
      subst hx'; subst hy
      exact .u8 _
    · obtain ⟨j, rfl⟩ : ∃ j, i = 32 + j := ⟨i - 32, by omega⟩
      have hj : j < 64 := by omega
      have hx' : x = .u8 (sf j) := by
        unfold sgC at hx
        rw [List.getElem?_append_left (by rw [eN hkl hgl]; exact h96), List.getElem?_map, List.getElem?_append_right (by rw [hkl]; omega), hkl, show 32 + j - 32 = j by omega, List.getElem?_map, List.getElem?_range hj] at hx
        exact (Option.some.inj hx).symm
      rw [hsf j hj] at hy
      injection hy with hy
      subst hx'; subst hy
      exact .u8 _
  · obtain ⟨j, rfl⟩ : ∃ j, i = 96 + j := ⟨i - 96, by omega⟩
    have hx2 : ([.str s2.data.toList, .i64 n3, .i64 n4, .u8 y5, .bool b6] : List AV)[j]? = some x := by
      unfold sgC at hx
      rw [List.getElem?_append_right (by rw [eN hkl hgl]; omega), eN hkl hgl, show 96 + j - 96 = j by omega] at hx
      exact hx
    have p2 := mV k2
    have p3 := mV k3
    have p4 := mV k4
    have p5 := mV k5
    have p6 := mV k6
    match j, hi101, hx2, hy with
    | 0, _, hx, hy => rw [p2] at hy; injection hx with hx; injection hy with hy; subst hx; subst hy; exact .str _
    | 1, _, hx, hy => rw [p3] at hy; injection hx with hx; injection hy with hy; subst hx; subst hy; exact .i64 _
    | 2, _, hx, hy => rw [p4] at hy; injection hx with hx; injection hy with hy; subst hx; subst hy; exact .i64 _
    | 3, _, hx, hy => rw [p5] at hy; injection hx with hx; injection hy with hy; subst hx; subst hy; exact .u8 _
    | 4, _, hx, hy => rw [p6] at hy; injection hx with hx; injection hy with hy; subst hx; subst hy; exact .bool _
    | j + 5, h, _, _ => omega
set_option maxRecDepth 100000 in
theorem rK {H : Type} {enc : TypeId × Value → H} {v : Value} {d : DataW H} {ps : List MemPlace} (w : World) {b0 : Nat} (hv : Value.okWide Tryz.prog w .any b0 35 v)
  (ht : DataW.Trod enc Tryz.prog w 0 (fun _ => true) true 35 v d ps) (hP : ∃ e, BAt (topE w) ⟨.agg64 oX, e, false⟩ w 0 (mU w 0)) (hM : ∃ e, BAt (topE w) ⟨.agg64 bU, e, false⟩ w 3 (mU w 3)) (hK : ∃ e, BAt (topE w) ⟨.agg64 K512, e, false⟩ w 1 (mU w 1)) (hO : ∃ e, BAt (topE w) ⟨.agg64 nW, e, false⟩ w 2 (mU w 2)) :
  Calls Tryz.prog 5 #[v] w fun e w' => e = .returned (.bool true) ∧ Below w.heap.size w w' := by
 obtain ⟨e, he⟩ := hP
 obtain ⟨e2, he2⟩ := hM
 obtain ⟨ek, hek⟩ := hK
 obtain ⟨eo, heo⟩ := hO
 have cT : Tryz.prog.cellsOf 35 = 101 := by kernel_rfl
 have cB : Tryz.prog.cellsOf 22 = 32 := by kernel_rfl
 have cS : Tryz.prog.cellsOf 29 = 64 := by kernel_rfl
 have cb : Tryz.prog.cellsOf 5 = 1 := by kernel_rfl
 have cs : Tryz.prog.cellsOf 9 = 1 := by kernel_rfl
 have ci : Tryz.prog.cellsOf 3 = 1 := by kernel_rfl
 have cl : Tryz.prog.cellsOf 4 = 1 := by kernel_rfl
 obtain ⟨key, sig, m, wh, at_, by_, any_, hk, hg, hm, hr⟩ := signed_gen (P := Tryz.prog) (W := w) (tB := 22) (tS := 29) (tb := 5) (ts := 9) (ti := 3) (tl := 4) Tryz.underlying35 rfl rfl rfl rfl rfl rfl rfl rfl rfl rfl rfl rfl rfl rfl Tryz.underlying22 Tryz.underlying29 Tryz.underlying5 Tryz.underlying9 Tryz.underlying3 Tryz.underlying4 cT cB cS cb cs ci cl hv ht
 refine walk_of_meets (eJ e e2 ek eo key sig m.data.toList wh at_ by_ any_ hk hg hm) rfl (fun i x y hx hy => ?_) (fun b k hk => ?_)
 ·match i, hx, hy with
  | 0, hx, hy => injection hx with hx; injection hy with hy; subst hx; subst hy; exact hr _
  | i + 1, hx, _ => simp at hx
 ·have hm := kW hk
  simp only [List.mem_cons, List.not_mem_nil, or_false, Prod.mk.injEq, Option.some.injEq] at hm
  rcases hm with ⟨rfl, rfl⟩ | ⟨rfl, rfl⟩ | ⟨rfl, rfl⟩ | ⟨rfl, rfl⟩
  ·exact ⟨by decide, rfl, he⟩
  ·exact ⟨by decide, rfl, he2⟩
  ·exact ⟨by decide, rfl, hek⟩
  ·exact ⟨by decide, rfl, heo⟩
end Go.Proofs.YtcnjekoidgefpaaGreatDoor
