/-
  Texts of this claim.
-/
import Derived.Deep.SlicePairs
import Derived.Test.YtdmlpblaelfdmaaGreatDoorGOFP
import Derived.Test.YtdmlpblaelfdmaaGreatDoorGODP
namespace Go.Proofs.YtdmlpblaelfdmaaGreatDoor
open Go.ChangeShapes Go.WideShapes Go.ChangeAt Go.RowKit
theorem take1_of {α : Type} {L : List α} {k : Nat} {v : α} (h : (L.drop k).take 1 = [v]) : L[k]? = some v := by
  have h1 := congrArg (fun l => l[0]?) h
  simp only [List.getElem?_take, List.getElem?_drop, List.getElem?_cons_zero] at h1
  simpa using h1
theorem u8_wf14 {n : Int} (h : (Lit.int .u8 n).wf = true) : ∃ x : UInt8, n = (x.toNat : Int) := by
  simp [Lit.wf] at h
  have h1 : IntKind.u8.min = 0 := rfl
  have h2 : IntKind.u8.max = 255 := rfl
  refine ⟨UInt8.ofNat n.toNat, ?_⟩
  have h3 : (UInt8.ofNat n.toNat).toNat = n.toNat := by rw [UInt8.toNat_ofNat']; exact Nat.mod_eq_of_lt (by omega)
  rw [h3]; omega
section
variable {H : Type} {enc : TypeId × Value → H} {P : Program} {w : World} {base : Nat} {spare : Nat → Bool} {held : Bool} {fuel : Nat} {t tb tB ts : TypeId} {cs : List Value} {x : DataW H × List MemPlace}
theorem trod_get {xs : List (DataW H × List MemPlace)} {n i : Nat} (h : xs.length = n) (hi : i < n) : ∃ z, xs[i]? = some z := ⟨xs[i]'(by omega), List.getElem?_eq_getElem (by omega)⟩
theorem bytes_trod (hB : P.underlying t = some (.array 32 tb)) (hb : P.underlying tb = some (.int .u8)) (cb : P.cellsOf tb = 1) (h : DataW.trod enc P w base spare held fuel t cs = some x) :
    ∃ l : List UInt8, l.length = 32 ∧ ∀ i, i < 32 → cs[i]? = some (.int .u8 ((l.getD i 0).toNat : Int)) := by
  obtain ⟨ys, m, _, _, _, hl, hf⟩ := DataW.trod_array hB h
  have each : ∀ i, i < 32 → ∃ u : UInt8, cs[i]? = some (.int .u8 (u.toNat : Int)) := fun i hi => by
    obtain ⟨z, hz⟩ := trod_get hl hi
    have h1 := hf i hi
    rw [cb, Nat.mul_one, hz] at h1
    obtain ⟨n, k, _, wf⟩ := DataW.trod_int hb h1
    obtain ⟨u, rfl⟩ := u8_wf14 wf
    exact ⟨u, take1_of k⟩
  obtain ⟨kf, hkf⟩ := Go.Deep.choose_lt each
  refine ⟨(List.range 32).map kf, by simp, fun i hi => ?_⟩
  rw [hkf i hi]
  simp [List.getD_eq_getElem?_getD, hi]
theorem strs_trod (hB : P.underlying t = some (.array 2 ts)) (hs : P.underlying ts = some .string) (c1 : P.cellsOf ts = 1) (h : DataW.trod enc P w base spare held fuel t cs = some x) :
    ∃ s0 s1 : ByteArray, cs[0]? = some (.string s0) ∧ cs[1]? = some (.string s1) ∧ s0.size ≤ maxLen ∧ s1.size ≤ maxLen := by
  obtain ⟨ys, m, _, _, _, hl, hf⟩ := DataW.trod_array hB h
  obtain ⟨z0, e0⟩ := trod_get hl (show 0 < 2 by decide)
  obtain ⟨z1, e1⟩ := trod_get hl (show 1 < 2 by decide)
  have h0 := hf 0 (by decide)
  have h1 := hf 1 (by decide)
  rw [c1, Nat.mul_one, e0] at h0
  rw [c1, Nat.mul_one, e1] at h1
  obtain ⟨s0, k0, _, b0⟩ := DataW.trod_string hs h0
  obtain ⟨s1, k1, _, b1⟩ := DataW.trod_string hs h1
  exact ⟨s0, s1, take1_of k0, take1_of k1, b0, b1⟩
theorem rows_trod (hR : P.underlying t = some (.array 2 tB)) (cB : P.cellsOf tB = 32) (hB : P.underlying tB = some (.array 32 tb)) (hb : P.underlying tb = some (.int .u8)) (cb : P.cellsOf tb = 1) (h : DataW.trod enc P w base spare held fuel t cs = some x) :
    ∃ a b : List UInt8, a.length = 32 ∧ b.length = 32 ∧ (∀ i, i < 32 → cs[i]? = some (.int .u8 ((a.getD i 0).toNat : Int))) ∧ ∀ i, i < 32 → cs[32 + i]? = some (.int .u8 ((b.getD i 0).toNat : Int)) := by
  obtain ⟨ys, m, _, _, _, hl, hf⟩ := DataW.trod_array hR h
  obtain ⟨z0, e0⟩ := trod_get hl (show 0 < 2 by decide)
  obtain ⟨z1, e1⟩ := trod_get hl (show 1 < 2 by decide)
  have h0 := hf 0 (by decide)
  have h1 := hf 1 (by decide)
  rw [cB, e0] at h0
  rw [cB, e1] at h1
  obtain ⟨a, la, fa⟩ := bytes_trod hB hb cb h0
  obtain ⟨b, lb, fb⟩ := bytes_trod hB hb cb h1
  refine ⟨a, b, la, lb, fun i hi => ?_, fun i hi => ?_⟩
  · have := fa i hi
    rwa [List.getElem?_take, if_pos hi, List.getElem?_drop, Nat.zero_mul, Nat.zero_add] at this
  · have := fb i hi
    rwa [List.getElem?_take, if_pos hi, List.getElem?_drop, Nat.one_mul] at this
end
theorem ex_cells (l0 l1 i0 i1 h p0 p1 sec : List UInt8) (h0 : p0.length = 32) (h1 : p1.length = 32) (h2 : sec.length = 32) : (exC l0 l1 i0 i1 h p0 p1 sec).list = [.str l0, .str l1, .str i0, .str i1, .str h] ++ (p0.map AV.u8 ++ (p1.map AV.u8 ++ sec.map AV.u8)) := by
  rw [← kX_eq h0, ← kX_eq h1, ← kX_eq h2]; rfl
theorem u8_cell {E : Emb} {l : List UInt8} {i : Nat} {x : AV} {y : Value} (hx : (l.map AV.u8)[i]? = some x) (hy : some y = some (.int .u8 ((l.getD i 0).toNat : Int))) : Rel E x y := by
  obtain ⟨u, hu, rfl⟩ := get_map_some hx
  injection hy with hy
  subst hy
  rw [List.getD_eq_getElem?_getD, hu]
  exact .u8 u
theorem exch_gen {P : Program} {H : Type} {enc : TypeId × Value → H} {W : World} {b0 tT t2 tB tR tb ts : Nat} {f0 f1 f2 f3 f4 : Field} {v : Value} {d : DataW H} {ps : List MemPlace} {sp : Nat → Bool}
    (hu : P.underlying tT = some (.struct #[f0, f1, f2, f3, f4])) (o0 : f0.offset = 0) (o1 : f1.offset = 2) (o2 : f2.offset = 4) (o3 : f3.offset = 5) (o4 : f4.offset = 69)
    (t0 : f0.type = t2) (t1 : f1.type = t2) (tq : f2.type = ts) (t3 : f3.type = tR) (t4 : f4.type = tB) (h2 : P.underlying t2 = some (.array 2 ts)) (hR : P.underlying tR = some (.array 2 tB)) (hB : P.underlying tB = some (.array 32 tb)) (hb : P.underlying tb = some (.int .u8)) (hs : P.underlying ts = some .string)
    (cT : P.cellsOf tT = 101) (c2 : P.cellsOf t2 = 2) (cR : P.cellsOf tR = 64) (cB : P.cellsOf tB = 32) (cb : P.cellsOf tb = 1) (cs_ : P.cellsOf ts = 1)
    (hv : Value.okWide P W .any b0 tT v) (h : DataW.Trod enc P W 0 sp true tT v d ps) :
    ∃ (l0 l1 i0 i1 hh : ByteArray) (p0 p1 sec : List UInt8), (l0.size ≤ maxLen ∧ l1.size ≤ maxLen ∧ i0.size ≤ maxLen ∧ i1.size ≤ maxLen ∧ hh.size ≤ maxLen) ∧ (p0.length = 32 ∧ p1.length = 32 ∧ sec.length = 32) ∧
      ∀ E, Rel E (exC l0.data.toList l1.data.toList i0.data.toList i1.data.toList hh.data.toList p0 p1 sec) v := by
  simp only [Value.okWide, hu] at hv
  obtain ⟨cs, rfl, hsz, _⟩ := hv
  obtain ⟨fuel, hf⟩ := h
  simp only [Value.cells] at hf
  obtain ⟨xs, n, hn, hx, hcl, hxl, hfield⟩ := DataW.trod_struct hu hf
  have hxl' : xs.length = 5 := hxl
  obtain ⟨x0, e0⟩ := trod_get hxl' (show 0 < 5 by decide)
  obtain ⟨x1, e1⟩ := trod_get hxl' (show 1 < 5 by decide)
  obtain ⟨x2, e2⟩ := trod_get hxl' (show 2 < 5 by decide)
  obtain ⟨x3, e3⟩ := trod_get hxl' (show 3 < 5 by decide)
  obtain ⟨x4, e4⟩ := trod_get hxl' (show 4 < 5 by decide)
  have q0 := hfield 0 f0 rfl
  have q1 := hfield 1 f1 rfl
  have q2 := hfield 2 f2 rfl
  have q3 := hfield 3 f3 rfl
  have q4 := hfield 4 f4 rfl
  rw [t0, o0, c2, e0] at q0
  rw [t1, o1, c2, e1] at q1
  rw [tq, o2, cs_, e2] at q2
  rw [t3, o3, cR, e3] at q3
  rw [t4, o4, cB, e4] at q4
  obtain ⟨s0, s1, k0, k1, b0', b1'⟩ := strs_trod h2 hs cs_ q0
  obtain ⟨s2, s3, k2, k3, b2', b3'⟩ := strs_trod h2 hs cs_ q1
  obtain ⟨s4, k4, _, b4'⟩ := DataW.trod_string hs q2
  obtain ⟨p0, p1, lp0, lp1, g0, g1⟩ := rows_trod hR cB hB hb cb q3
  obtain ⟨sec, lsec, g2⟩ := bytes_trod hB hb cb q4
  have hlen : cs.size = 101 := by rw [hsz]; exact cT
  refine ⟨s0, s1, s2, s3, s4, p0, p1, sec, ⟨b0', b1', b2', b3', b4'⟩, ⟨lp0, lp1, lsec⟩, fun E => .agg _ _ _ rfl (by rw [hlen]; rfl) (List.all_eq_true.1 rfl) (fun i x y hx hy => ?_)⟩
  have hx' : (exC s0.data.toList s1.data.toList s2.data.toList s3.data.toList s4.data.toList p0 p1 sec).list[i]? = some x := hx
  rw [ex_cells _ _ _ _ _ _ _ _ lp0 lp1 lsec] at hx'
  rw [← Array.getElem?_toList] at hy
  by_cases h5 : i < 5
  · rw [List.getElem?_append_left h5] at hx'
    simp only [List.getElem?_take, List.getElem?_drop] at k0 k1 k2 k3
    have m0 : cs.toList[0]? = some (.string s0) := by simpa using k0
    have m1 : cs.toList[1]? = some (.string s1) := by simpa using k1
    have m2 : cs.toList[2]? = some (.string s2) := by simpa using k2
    have m3 : cs.toList[3]? = some (.string s3) := by simpa using k3
    have m4 := take1_of k4
    match i, h5, hx', hy with
    | 0, _, hx, hy => rw [m0] at hy; injection hx with hx; injection hy with hy; subst hx; subst hy; exact .str _
    | 1, _, hx, hy => rw [m1] at hy; injection hx with hx; injection hy with hy; subst hx; subst hy; exact .str _
    | 2, _, hx, hy => rw [m2] at hy; injection hx with hx; injection hy with hy; subst hx; subst hy; exact .str _
    | 3, _, hx, hy => rw [m3] at hy; injection hx with hx; injection hy with hy; subst hx; subst hy; exact .str _
    | 4, _, hx, hy => rw [m4] at hy; injection hx with hx; injection hy with hy; subst hx; subst hy; exact .str _
    | j + 5, h, _, _ => omega
  · obtain ⟨j, rfl⟩ : ∃ j, i = 5 + j := ⟨i - 5, by omega⟩
    rw [List.getElem?_append_right (by simp), show 5 + j - ([AV.str s0.data.toList, .str s1.data.toList, .str s2.data.toList, .str s3.data.toList, .str s4.data.toList] : List AV).length = j by simp] at hx'
    by_cases hj : j < 32
    · rw [List.getElem?_append_left (by rw [List.length_map, lp0]; exact hj)] at hx'
      have := g0 j hj
      rw [List.getElem?_take, if_pos (by omega), List.getElem?_drop] at this
      exact u8_cell hx' (hy.symm.trans this)
    · rw [List.getElem?_append_right (by rw [List.length_map, lp0]; omega), List.length_map, lp0] at hx'
      by_cases hj2 : j < 64
      · rw [List.getElem?_append_left (by rw [List.length_map, lp1]; omega)] at hx'
        have := g1 (j - 32) (by omega)
        rw [List.getElem?_take, if_pos (by omega), List.getElem?_drop, show 5 + (32 + (j - 32)) = 5 + j by omega] at this
        exact u8_cell hx' (hy.symm.trans this)
      · rw [List.getElem?_append_right (by rw [List.length_map, lp1]; omega), List.length_map, lp1] at hx'
        have hjl : j - 32 - 32 < 32 := by
          have := (List.getElem?_eq_some_iff.1 hx').1
          rw [List.length_map, lsec] at this; exact this
        have := g2 (j - 32 - 32) hjl
        rw [List.getElem?_take, if_pos (by omega), List.getElem?_drop, show 69 + (j - 32 - 32) = 5 + j by omega] at this
        exact u8_cell hx' (hy.symm.trans this)
set_option maxRecDepth 100000 in
theorem exch_arg {H : Type} {enc : TypeId × Value → H} {v : Value} {d : DataW H} {ps : List MemPlace} (W : World) {b0 : Nat} (hv : Value.okWide Tryz.prog W .any b0 60 v) (ht : DataW.Trod enc Tryz.prog W 0 (fun _ => true) true 60 v d ps) :
  ∃ (l0 l1 i0 i1 hh : ByteArray) (p0 p1 sec : List UInt8), (l0.size ≤ maxLen ∧ l1.size ≤ maxLen ∧ i0.size ≤ maxLen ∧ i1.size ≤ maxLen ∧ hh.size ≤ maxLen) ∧ (p0.length = 32 ∧ p1.length = 32 ∧ sec.length = 32) ∧
   ∀ E, Rel E (exC l0.data.toList l1.data.toList i0.data.toList i1.data.toList hh.data.toList p0 p1 sec) v :=
 exch_gen (P := Tryz.prog) (W := W) (t2 := 57) (tB := 24) (tR := 58) (tb := 5) (ts := 9) Tryz.underlying60 rfl rfl rfl rfl rfl rfl rfl rfl rfl rfl Tryz.underlying57 Tryz.underlying58 Tryz.underlying24 Tryz.underlying5 Tryz.underlying9
  (by kernel_rfl) (by kernel_rfl) (by kernel_rfl) (by kernel_rfl) (by kernel_rfl) (by kernel_rfl) hv ht
end Go.Proofs.YtdmlpblaelfdmaaGreatDoor
