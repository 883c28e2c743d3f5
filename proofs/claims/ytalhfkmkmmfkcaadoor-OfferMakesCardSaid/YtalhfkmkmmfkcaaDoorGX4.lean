/-
  Texts of this claim.
-/
import Derived.Test.YtalhfkmkmmfkcaaDoorGX3
import Derived.Test.YtalhfkmkmmfkcaaDoorGZ
import Derived.Test.YtalhfkmkmmfkcaaDoorGL1
namespace Go.Proofs.YtalhfkmkmmfkcaaDoor
open Go.ChangeShapes Go.WideShapes Go.ChangeAt Go.RowKit
/-- The sentinels' names, and all of the world at the start lies still. -/
def errD (W : World) (eo : Nat → Nat × Nat) : Emb := stillE W (errE W eo).f
theorem errE_leD (W : World) (eo : Nat → Nat × Nat) : (errE W eo).le (errD W eo) := ⟨fun _ _ h => h, fun _ _ h => by cases h⟩
theorem errD_glob (W : World) (eo : Nat → Nat × Nat) : ∀ g, g < 400 → ∃ s, errD W eo g = some (g, s) := errE_glob W eo
theorem errD_top (W : World) (eo : Nat → Nat × Nat) : ∀ n, 1000 ≤ n → errD W eo n = none := errE_top W eo
theorem errD_at (W : World) (eo : Nat → Nat × Nat) : ∀ a L s, (errD W eo).d a = some (L, s) → DAt W a L s := stillE_at W _
def textD_ (s : List UInt8) : DataW Unit := .lit (.string s)
theorem places_gen {P : Program} {n : String} {r : List (String × DataW Unit)} {W : World} {g k : Nat} {L : List (List UInt8)} {t e : TypeId} (h : laidMet P ((n, .agg (L.map fun s => .lit (.string s))) :: r) W) (hk : L.length = k) (h0 : 0 < k)
    (hg : P.globalNamed n = some g) (ht : (P.globals[g]?).map (·.type) = some t) (hu : P.underlying t = some (.array k e)) (he : P.underlying e = some .string) (ce : P.cellsOf e = 1) :
    ∃ arr q, W.heap[g]? = some (.cells arr q (0, 0)) ∧ ∀ i, i < k → arr[i]? = some (.string ⟨(L.getD i []).toArray⟩) := by
  obtain ⟨ps, ⟨g0, t0', cs0, fl0, p0, q0, hg0, ht0, hv0, hd0, _, e0⟩, _, hrows⟩ := h
  obtain rfl := Option.some.inj (hg.symm.trans hg0)
  obtain rfl := Option.some.inj (ht.symm.trans ht0)
  subst e0
  have hcell := World.var?_cell hg0 hv0
  obtain ⟨xs, m, hm, hx, hlen, hxl, hf⟩ := DataW.trod_array hu hd0
  have each : ∀ i, i < k → cs0.toList[i]? = some (.string ⟨(L.getD i []).toArray⟩) := fun i hi' => by
    have hfi := hf i hi'
    rw [ce, Nat.mul_one] at hfi
    have hxi : xs[i]? = some xs[i] := List.getElem?_eq_getElem (by omega)
    rw [hxi] at hfi
    have hdi : xs[i].1 = .lit (.string (L.getD i [])) := by
      have h1 := congrArg Prod.fst hx
      simp only [DataW.agg.injEq] at h1
      have h2 := congrArg (fun l => l[i]?) h1
      have hiL : i < L.length := by omega
      simp only [List.getElem?_map, List.getElem?_eq_getElem hiL, hxi, Option.map_some, Option.some.injEq] at h2
      rw [← h2, show L.getD i [] = L[i] by simp [List.getD_eq_getElem?_getD, hiL]]
    obtain ⟨s1, k2, k3, _⟩ := DataW.trod_string he hfi
    have w1 := (congrArg Prod.fst k3).symm.trans hdi
    simp only [DataW.lit.injEq, Lit.string.injEq] at w1
    have h1 := congrArg (fun l => l[0]?) k2
    simp only [List.getElem?_take, List.getElem?_drop, List.getElem?_cons_zero] at h1
    rw [if_pos (by decide), Nat.add_zero] at h1
    rw [h1, ← w1]
  obtain ⟨⟨c, q, hb⟩, _⟩ := hrows g 0 (by
    have : 0 < cs0.size := by
      have := (List.getElem?_eq_some_iff.1 (each 0 h0)).1
      simpa using this
    simp [MemPlace.row]; omega)
  refine ⟨c, q, hb, fun i hi' => ?_⟩
  have h1 := hcell i
  rw [cell_of_row W g i c q (0, 0) hb] at h1
  have := each i hi'
  rw [Array.getElem?_toList] at this
  rw [h1]; exact this
theorem placesD : (Rows.laid_speakeasy_offer_places : DataW Unit) = .agg (placesL.map fun s => .lit (.string s)) := by kernel_rfl
theorem known_places {r : List (String × DataW Unit)} {W : World} {eo : Nat → Nat × Nat} (h : laidMet Tryd.prog (("speakeasy/offer.places", Rows.laid_speakeasy_offer_places) :: r) W) :
    (⟨AV.aggS placesL, errT, false⟩ : ABlk).own = false ∧ ∃ l s, errE W eo 20 = some (l, s) ∧ BAt (errE W eo) ⟨.aggS placesL, errT, false⟩ W l s := by
  rw [placesD] at h
  obtain ⟨arr, q, h1, h2⟩ := places_gen (k := 8) h rfl (by decide) (by kernel_rfl) (by kernel_rfl) Tryd.underlying84 Tryd.underlying9 (by kernel_rfl)
  refine ⟨rfl, 20, sizeAt W 20, by simp [errE], arr, q, (0, 0), h1, (size_at h1).symm, ⟨⟨fun h => (by cases h), fun _ => rfl, fun _ h => absurd h (show ¬ (2000000 : Nat) ≤ 1000000 by decide)⟩, .inl rfl⟩, ?_, fun i x hx => ?_⟩
  · have := (Array.getElem?_eq_some_iff.1 (h2 7 (by decide))).1
    rw [size_at h1]
    show 8 ≤ arr.size
    omega
  · replace hx : (placesL.map AV.str)[i]? = some x := hx
    obtain ⟨p, hp, rfl⟩ := get_map_some hx
    have hi := (List.getElem?_eq_some_iff.1 hp).1
    refine ⟨rfl, _, h2 i hi, ?_⟩
    rw [List.getD_eq_getElem?_getD, hp]; exact .str p
theorem take_one9 {α : Type} {L : List α} {k : Nat} {v : α} (h : L[k]? = some v) : (L.drop k).take 1 = [v] := by
  have hk := (List.getElem?_eq_some_iff.1 h).1
  rw [List.drop_eq_getElem_cons hk, List.take_succ_cons, List.take_zero, ← (List.getElem?_eq_some_iff.1 h).2]
/-- A struct of five slices of strings. -/
theorem lists_arg {H : Type} {enc : TypeId × Value → H} {P : Program} {W : World} {t tl ts : TypeId} {f0 f1 f2 f3 f4 : Field} {v : Value} {d : DataW H} {ps : List MemPlace} (he : P.underlying t = some (.struct #[f0, f1, f2, f3, f4]))
    (o0 : f0.offset = 0) (o1 : f1.offset = 1) (o2 : f2.offset = 2) (o3 : f3.offset = 3) (o4 : f4.offset = 4) (t0 : f0.type = tl) (t1 : f1.type = tl) (t2 : f2.type = tl) (t3 : f3.type = tl) (t4 : f4.type = tl) (hl : P.underlying tl = some (.slice ts)) (hs : P.underlying ts = some .string) (cT : P.cellsOf t = 5) (cs_ : P.cellsOf ts = 1) (cl : P.cellsOf tl = 1)
    {b0 : Nat} (hv : Value.okWide P W .any b0 t v) (h : DataW.Trod enc P W 0 (fun _ => true) true t v d ps) :
    ∃ l0 l1 l2 l3 l4 : List (List UInt8), l0.length ≤ maxLen ∧ l1.length ≤ maxLen ∧ l2.length ≤ maxLen ∧ l3.length ≤ maxLen ∧ l4.length ≤ maxLen ∧ ∀ f, Rel (stillE W f) (.agg [.dsl l0, .dsl l1, .dsl l2, .dsl l3, .dsl l4]) v := by
  simp only [Value.okWide, he] at hv
  obtain ⟨cs, rfl, hsz, _⟩ := hv
  obtain ⟨fuel, hf⟩ := h
  simp only [Value.cells] at hf
  obtain ⟨xs, n, hn, hx, hcl, hxl, hfield⟩ := DataW.trod_struct he hf
  have hxl' : xs.length = 5 := hxl
  have q0 := hfield 0 f0 rfl
  have q1 := hfield 1 f1 rfl
  have q2 := hfield 2 f2 rfl
  have q3 := hfield 3 f3 rfl
  have q4 := hfield 4 f4 rfl
  rw [List.getElem?_eq_getElem (by omega)] at q0 q1 q2 q3 q4
  have hc5 : cs.toList.length = 5 := by rw [← cT]; exact hcl
  obtain ⟨w0, w1, w2, w3, w4, hw⟩ : ∃ w0 w1 w2 w3 w4, cs.toList = [w0, w1, w2, w3, w4] := by
    match hq : cs.toList, hc5 with
    | [a, b, c, d, e], _ => exact ⟨a, b, c, d, e, rfl⟩
  rw [hw] at q0 q1 q2 q3 q4
  simp only [t0, o0, t1, o1, t2, o2, t3, o3, t4, o4, cl, List.drop_zero, List.take_succ_cons, List.take_zero, List.drop_succ_cons, List.take_nil] at q0 q1 q2 q3 q4
  obtain ⟨l0, a0, _, r0⟩ := dsl_cell hl hs cs_ q0
  obtain ⟨l1, a1, _, r1⟩ := dsl_cell hl hs cs_ q1
  obtain ⟨l2, a2, _, r2⟩ := dsl_cell hl hs cs_ q2
  obtain ⟨l3, a3, _, r3⟩ := dsl_cell hl hs cs_ q3
  obtain ⟨l4, a4, _, r4⟩ := dsl_cell hl hs cs_ q4
  refine ⟨l0, l1, l2, l3, l4, a0, a1, a2, a3, a4, fun f => ?_⟩
  have hcs : cs = #[w0, w1, w2, w3, w4] := by
    apply Array.toList_inj.1; rw [hw]
  rw [hcs]
  exact rel_agg rfl ⟨r0 f, r1 f, r2 f, r3 f, r4 f, trivial⟩
set_option maxRecDepth 100000 in
theorem offerMakes_all {H : Type} {enc : TypeId × Value → H} (cookie : List UInt8) (hc : cookie.length = 16) (guess : Bool) {v : Value} {d : DataW H} {ps : List MemPlace} (W : World) {b0 : Nat} (hv : Value.okWide Tryd.prog W .any b0 35 v)
  (ht : DataW.Trod enc Tryd.prog W 0 (fun _ => true) true 35 v d ps) (h : laidMet Tryd.prog Rows.offerMakesRow.laid W) :
  Calls Tryd.prog 4 #[.agg (cookie.map U8).toArray, v, .bool guess] W fun e W' => e = .returned (.bool true) ∧ Below W.heap.size W W' := by
 have h1 := laidMet_tail h
 have h2 := laidMet_tail h1
 have h3 := laidMet_tail h2
 have h4 := laidMet_tail h3
 have h5 := laidMet_tail h4
 obtain ⟨l0, l1, l2, l3, l4, a0, a1, a2, a3, a4, hr⟩ := lists_arg (P := Tryd.prog) (W := W) Tryd.underlying35 rfl rfl rfl rfl rfl rfl rfl rfl rfl rfl Tryd.underlying22 Tryd.underlying9 (by kernel_rfl) (by kernel_rfl) (by kernel_rfl) hv ht
 have kn : known W (errE W fun _ => (0, 0)) [(21, some ⟨.agg kindCells, errT, false⟩), (20, some ⟨.aggS placesL, errT, false⟩)] := ⟨known_kinds h4, known_places h5, trivial⟩
 refine walk_of_meets_at (errD W fun _ => (0, 0)) (errD_glob _ _) (errD_top _ _) (offerMakes_ev cookie hc l0 l1 l2 l3 l4 a0 a1 a2 a3 a4 guess) rfl (fun i x y hx hy => ?_) (known.spec (known.mono (errE_leD W fun _ => (0, 0)) kn)) (errD_at W _)
 match i, hx, hy with
 | 0, hx, hy => injection hx with hx; injection hy with hy; subst hx; subst hy; exact rel_bytes _ _
 | 1, hx, hy => injection hx with hx; injection hy with hy; subst hx; subst hy; exact hr _
 | 2, hx, hy => injection hx with hx; injection hy with hy; subst hx; subst hy; exact .bool _
 | i + 3, hx, _ => simp at hx
end Go.Proofs.YtalhfkmkmmfkcaaDoor
