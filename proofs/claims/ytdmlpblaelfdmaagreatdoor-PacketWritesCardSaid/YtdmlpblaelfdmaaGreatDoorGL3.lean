/-
  Texts of this claim.
-/
import Derived.Test.YtdmlpblaelfdmaaGreatDoorGL1
import Derived.Test.YtdmlpblaelfdmaaGreatDoorGD
namespace Go.Proofs.YtdmlpblaelfdmaaGreatDoor
open Go.ChangeShapes Go.WideShapes Go.ChangeAt Go.RowKit
theorem take1_get {α : Type} {L : List α} {k : Nat} {v : α} (h : (L.drop k).take 1 = [v]) : L[k]? = some v := by
  have h1 := congrArg (fun l => l[0]?) h
  simp only [List.getElem?_take, List.getElem?_drop, List.getElem?_cons_zero] at h1
  simpa using h1
theorem items_arg {H : Type} {enc : TypeId × Value → H} {P : Program} {W : World} {eo : Nat → Nat × Nat} {t e tl tB tb ts : TypeId} {f0 f1 f2 : Field} {v : Value} {d : DataW H} {ps : List MemPlace} (ht : P.underlying t = some (.slice e)) (he : P.underlying e = some (.struct #[f0, f1, f2])) (ce : P.cellsOf e = 34)
    (o0 : f0.offset = 0) (o1 : f1.offset = 1) (o2 : f2.offset = 33) (t0 : f0.type = tl) (t1 : f1.type = tB) (t2 : f2.type = ts) (hl_ : P.underlying tl = some .bool) (hB : P.underlying tB = some (.array 32 tb)) (hb : P.underlying tb = some (.int .u8)) (hs : P.underlying ts = some .string)
    (cl : P.cellsOf tl = 1) (cB : P.cellsOf tB = 32) (cb : P.cellsOf tb = 1) (cs_ : P.cellsOf ts = 1) {b0 : Nat} (hv : Value.okWide P W .any b0 t v)
    (h : DataW.Trod enc P W 0 (fun _ => true) true t v d ps) (hblk : ∃ (b : Nat) (arr : Array Value) (t : TypeId) (fz : Nat × Nat), W.heap[b]? = some (.cells arr t fz)) :
    ∃ (l : List ItemV) (b o : Nat), l.length ≤ maxLen ∧ Rel (argE W eo b) (.sl 450 o l.length 34) v ∧ BAt (argE W eo b) ⟨.agg (offC o (rowsC itemC l)), anyT, false⟩ W b (sizeAt W b) := by
  refine slice_arg itemC item_len (by decide) ht ce hv (fun n cs' y hl hy => ?_) h hblk
  obtain ⟨xs, m, _, _, _, hxl, hf⟩ := DataW.trod_struct he hy
  have hxl' : xs.length = 3 := hxl
  have q0 := hf 0 f0 rfl
  have q1 := hf 1 f1 rfl
  have q2 := hf 2 f2 rfl
  rw [List.getElem?_eq_getElem (by omega)] at q0 q1 q2
  rw [t0, o0, cl] at q0
  rw [t1, o1, cB] at q1
  rw [t2, o2, cs_] at q2
  obtain ⟨lk_, k0, _⟩ := DataW.trod_bool hl_ q0
  obtain ⟨s, k2, _, z2⟩ := DataW.trod_string hs q2
  obtain ⟨ys, m', hm, hy', hyl, hysl, hyf⟩ := DataW.trod_array hB q1
  have each : ∀ i, i < 32 → ∃ u : UInt8, cs'[1 + i]? = some (.int .u8 (u.toNat : Int)) := fun i hi' => by
    have h1 := hyf i hi'
    rw [cb, Nat.mul_one, List.getElem?_eq_getElem (show i < ys.length by omega)] at h1
    obtain ⟨z, k, _, w⟩ := DataW.trod_int hb h1
    obtain ⟨u, rfl⟩ := u8_lit w
    refine ⟨u, ?_⟩
    have := take1_get k
    rw [List.getElem?_take, if_pos hi', List.getElem?_drop] at this
    exact this
  obtain ⟨kf, hkf⟩ := Go.Deep.choose_lt each
  have hkl : ((List.range 32).map kf).length = 32 := by simp
  refine ⟨⟨lk_, (List.range 32).map kf, s.data.toList, hkl, z2⟩, fun j x hx => ?_⟩
  have hj : j < 34 := (List.getElem?_eq_some_iff.1 hx).1
  have p0 := take1_get k0
  have p2 := take1_get k2
  show x.cell = true ∧ _
  by_cases h0 : j = 0
  · subst h0
    have hx' : x = .bool lk_ := (Option.some.inj hx).symm
    subst hx'
    exact ⟨rfl, _, p0, fun E => .bool _⟩
  · by_cases h33 : j = 33
    · subst h33
      have hx' : x = .str s.data.toList := (Option.some.inj hx).symm
      subst hx'
      exact ⟨rfl, _, p2, fun E => .str _⟩
    · obtain ⟨i, rfl⟩ : ∃ i, j = 1 + i := ⟨j - 1, by omega⟩
      have hi : i < 32 := by omega
      have hx2 : (kC ((List.range 32).map kf))[i]? = some x := by
        have : (AV.bool lk_ :: (kC ((List.range 32).map kf) ++ [AV.str s.data.toList]))[1 + i]? = some x := hx
        rw [Nat.add_comm, List.getElem?_cons_succ, List.getElem?_append_left (by show i < 32; omega)] at this
        exact this
      rw [kC_eq hkl, List.getElem?_map, List.getElem?_map, List.getElem?_range hi] at hx2
      have hx' : x = .u8 (kf i) := (Option.some.inj hx2).symm
      subst hx'
      exact ⟨rfl, _, hkf i hi, fun E => .u8 _⟩
end Go.Proofs.YtdmlpblaelfdmaaGreatDoor
