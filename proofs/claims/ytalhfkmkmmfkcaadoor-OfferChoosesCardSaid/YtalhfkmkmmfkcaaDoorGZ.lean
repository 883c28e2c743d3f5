/-
  The sentinels as a world lays them.
-/
import Derived.Stop.LaidErr
import Derived.Test.YtalhfkmkmmfkcaaDoorGC
import Derived.Test.YtalhfkmkmmfkcaaDoorGE
import Derived.Test.YtalhfkmkmmfkcaaDoorGY
namespace Go.Proofs.YtalhfkmkmmfkcaaDoor
open Go.ChangeShapes Go.WideShapes Go.ChangeAt Go.RowKit
/-- A sentinel's variable g holds a pointer to the cell at a, which holds its text. -/
structure SentAt (W : World) (g : Nat) (a : Nat × Nat) (text : List UInt8) : Prop where
  var : ∃ arr t, W.heap[g]? = some (.cells arr t (0, 0)) ∧ arr[0]? = some (.iface 111 (.pointer (some ⟨a.1, a.2, none⟩)))
  blk : ∃ arr t, W.heap[a.1]? = some (.cells arr t (0, 0))
  txt : ∃ s, W.cell? ⟨a.1, a.2, none⟩ = some (.string s) ∧ s.data.toList = text
theorem star_err : "*" ++ "errors.errorString" = "*errors.errorString" := by decide
theorem ty_err (u : TypeId) (h : Tryd.prog.typeName? 3 u = some "*errors.errorString") : u = 111 :=
  typeName_ptr_named (nm := "errors.errorString") (by rw [star_err]; kernel_rfl) (by kernel_rfl) (by decide) u (by rw [star_err]; exact h)
theorem laid_err_gen {P : Program} {n nm : String} {text : List UInt8} {r : List (String × DataW Unit)} {W : World} {g : Nat} {ti tp te ts : TypeId} {ms : Array (String × TypeId)} {f : Field} (h : laidMet P ((n, .iface nm (.ptr (.agg [.lit (.string text)]))) :: r) W)
    (hg : P.globalNamed n = some g) (ht : (P.globals[g]?).map (·.type) = some ti) (hi : P.underlying ti = some (.interface ms)) (hrow : ∀ u, P.typeName? 3 u = some nm → u = tp)
    (hp : P.underlying tp = some (.pointer te)) (he : P.underlying te = some (.struct #[f])) (hft : f.type = ts) (hfo : f.offset = 0) (hs : P.underlying ts = some .string) (hc : P.cellsOf te = 1) (hcs : P.cellsOf ts = 1) :
    ∃ a : Nat × Nat, (∃ arr t, W.heap[g]? = some (.cells arr t (0, 0)) ∧ arr[0]? = some (.iface tp (.pointer (some ⟨a.1, a.2, none⟩)))) ∧ (∃ arr t, W.heap[a.1]? = some (.cells arr t (0, 0))) ∧ ∃ s, W.cell? ⟨a.1, a.2, none⟩ = some (.string s) ∧ s.data.toList = text := by
  obtain ⟨ps, ⟨g0, t0, cs0, f0, p0, q0, hg0, ht0, hv0, hd0, _, e0⟩, _, hrows⟩ := h
  obtain rfl := Option.some.inj (hg.symm.trans hg0)
  obtain rfl := Option.some.inj (ht.symm.trans ht0)
  subst e0
  obtain ⟨l0⟩ := cs0
  have ok0 : ∀ u v, l0 = [.iface u v] → Value.okWide P W .any 0 u v := fun u v e => by
    subst e
    exact (hrows g 0 (by simp [MemPlace.row])).2 u v (by simpa using World.var?_cell hg0 hv0 0)
  obtain ⟨a0, s0, rfl, hc0, hs0, hz0, rfl⟩ := errorString_of_trod hi hrow hp he hft hfo hs hc hcs hd0 ok0
  obtain ⟨l, o, sp⟩ := a0
  have hsp : sp = none := by
    cases sp with
    | none => rfl
    | some b =>
      unfold World.cell? at hc0
      split at hc0 <;> simp at hc0
  subst hsp
  obtain ⟨⟨c, t, hb⟩, _⟩ := hrows g 0 (by simp [MemPlace.row])
  obtain ⟨⟨c1, t1, hb1⟩, _⟩ := hrows l o (by simp [MemPlace.row])
  refine ⟨(l, o), ⟨c, t, hb, ?_⟩, ⟨c1, t1, hb1⟩, ⟨s0, hc0, hs0⟩⟩
  have := World.var?_cell hg0 hv0 0
  rw [cell_of_row W g 0 c t (0, 0) hb] at this
  simpa using this
theorem laid_err {n : String} {text : List UInt8} {r : List (String × DataW Unit)} {W : World} {g : Nat} (h : laidMet Tryd.prog ((n, .iface "*errors.errorString" (.ptr (.agg [.lit (.string text)]))) :: r) W)
    (hg : Tryd.prog.globalNamed n = some g) (ht : (Tryd.prog.globals[g]?).map (·.type) = some 25) : ∃ a, SentAt W g a text :=
  (laid_err_gen h hg ht Tryd.underlying25 ty_err Tryd.underlying111 Tryd.underlying134 rfl rfl Tryd.underlying9 (by kernel_rfl) (by kernel_rfl)).imp fun _ h => ⟨h.1, h.2.1, h.2.2⟩
theorem size_at {W : World} {b : Nat} {arr : Array Value} {t : TypeId} {fz : Nat × Nat} (h : W.heap[b]? = some (.cells arr t fz)) : sizeAt W b = arr.size := by simp [sizeAt, h]
/-- The names of sentinels, and the variables by their numbers. -/
def errE (W : World) (eo : Nat → Nat × Nat) : Emb := ⟨fun b => if b < 400 then some (b, sizeAt W b) else if b < 401 then none else if b < 450 then some ((eo (b - 401)).1, sizeAt W (eo (b - 401)).1) else none, fun _ => none⟩
theorem errE_glob (W : World) (eo : Nat → Nat × Nat) : ∀ g, g < 400 → ∃ s, errE W eo g = some (g, s) := fun g hg => ⟨sizeAt W g, by simp [errE, hg]⟩
theorem errE_top (W : World) (eo : Nat → Nat × Nat) : ∀ b, 1000 ≤ b → errE W eo b = none := fun b hb => by simp only [errE]; rw [if_neg (by omega), if_neg (by omega), if_neg (by omega)]
theorem errE_err (W : World) (eo : Nat → Nat × Nat) (n : Nat) (h : n < 49) : errE W eo (401 + n) = some ((eo n).1, sizeAt W (eo n).1) := by
  simp only [errE]
  rw [if_neg (by omega), if_neg (by omega), if_pos (by omega)]
  simp
theorem bat_var {W : World} {g n : Nat} {text : List UInt8} {eo : Nat → Nat × Nat} (h : SentAt W g (eo n) text) (hn : n < 49) : BAt (errE W eo) ⟨.agg [.err 111 (n + 1) (eo n)], errT, false⟩ W g (sizeAt W g) := by
  obtain ⟨⟨arr, t, h1, h2⟩, _, _⟩ := h
  refine ⟨arr, t, (0, 0), h1, (size_at h1).symm, ⟨⟨fun h => (by cases h), fun _ => rfl, fun _ h => absurd h (show ¬ (2000000 : Nat) ≤ 1000000 by decide)⟩, .inl rfl⟩, ?_, fun i x hx => ?_⟩
  · have := (Array.getElem?_eq_some_iff.1 h2).1
    simp [AV.list, AV.parts, size_at h1]; omega
  · match i, hx with
    | 0, hx =>
      simp only [AV.list, AV.parts, Option.getD_some, List.getElem?_cons_zero, Option.some.injEq] at hx
      subst hx
      exact ⟨rfl, _, h2, .errS _ n _ _ (by omega) (errE_err W eo n hn)⟩
    | i + 1, hx => simp [AV.list, AV.parts] at hx
/-- What a variable's block is known by. -/
def known (W : World) (E : Emb) : List (Nat × Option ABlk) → Prop
  | [] => True
  | (_, none) :: r => known W E r
  | (b, some k) :: r => (k.own = false ∧ ∃ l s, E b = some (l, s) ∧ BAt E k W l s) ∧ known W E r
theorem known.spec {W : World} {E : Emb} : ∀ {l : List (Nat × Option ABlk)}, known W E l → ∀ b k, hget l b = some k → k.own = false ∧ ∃ q s, E b = some (q, s) ∧ BAt E k W q s := fun {l} h b k hk => by
  have hm := hget_mem hk
  clear hk
  induction l with
  | nil => cases hm
  | cons p l ih =>
    obtain ⟨c, q⟩ := p
    cases q with
    | none =>
      rcases List.mem_cons.1 hm with e | hm
      · injection e with _ e; cases e
      · exact ih h hm
    | some k' =>
      rcases List.mem_cons.1 hm with e | hm
      · injection e with e1 e2; injection e2 with e2; subst e1; subst e2; exact h.1
      · exact ih h.2 hm
theorem known_var {W : World} {g n : Nat} {text : List UInt8} {eo : Nat → Nat × Nat} (h : SentAt W g (eo n) text) (hn : n < 49) (hg : g < 400) : (⟨AV.agg [.err 111 (n + 1) (eo n)], errT, false⟩ : ABlk).own = false ∧ ∃ l s, errE W eo g = some (l, s) ∧ BAt (errE W eo) ⟨.agg [.err 111 (n + 1) (eo n)], errT, false⟩ W l s :=
  ⟨rfl, g, sizeAt W g, by simp [errE, hg], bat_var h hn⟩
end Go.Proofs.YtalhfkmkmmfkcaaDoor
namespace Go.Proofs.YtalhfkmkmmfkcaaDoor
open Go.ChangeShapes Go.WideShapes Go.ChangeAt Go.RowKit
def kindData (i : Nat) : DataW Unit := .agg [.lit (.int .i64 (kNums.getD i 0)), .lit (.string (kNames.getD i [])), .lit (.string (kFields.getD i []))]
theorem kinds_gen {P : Program} {n : String} {r : List (String × DataW Unit)} {W : World} {g : Nat} {t e ti ts : TypeId} {f0 f1 f2 : Field} (h : laidMet P ((n, .agg ((List.range 29).map kindData)) :: r) W)
    (hg : P.globalNamed n = some g) (ht : (P.globals[g]?).map (·.type) = some t) (hu : P.underlying t = some (.array 29 e)) (he : P.underlying e = some (.struct #[f0, f1, f2])) (ce : P.cellsOf e = 3)
    (o0 : f0.offset = 0) (o1 : f1.offset = 1) (o2 : f2.offset = 2) (t0 : f0.type = ti) (t1 : f1.type = ts) (t2 : f2.type = ts) (hi : P.underlying ti = some (.int .i64)) (hs : P.underlying ts = some .string) (c0 : P.cellsOf ti = 1) (c1 : P.cellsOf ts = 1) :
    ∃ arr q, W.heap[g]? = some (.cells arr q (0, 0)) ∧ ∀ i, i < 29 → arr[i * 3]? = some (.int .i64 (kNums.getD i 0)) ∧ arr[i * 3 + 1]? = some (.string ⟨(kNames.getD i []).toArray⟩) ∧ arr[i * 3 + 2]? = some (.string ⟨(kFields.getD i []).toArray⟩) := by
  obtain ⟨ps, ⟨g0, t0', cs0, fl0, p0, q0, hg0, ht0, hv0, hd0, _, e0⟩, _, hrows⟩ := h
  obtain rfl := Option.some.inj (hg.symm.trans hg0)
  obtain rfl := Option.some.inj (ht.symm.trans ht0)
  subst e0
  have hcell := World.var?_cell hg0 hv0
  obtain ⟨xs, m, hm, hx, hlen, hxl, hf⟩ := DataW.trod_array hu hd0
  have each : ∀ i, i < 29 → cs0.toList[i * 3]? = some (.int .i64 (kNums.getD i 0)) ∧ cs0.toList[i * 3 + 1]? = some (.string ⟨(kNames.getD i []).toArray⟩) ∧ cs0.toList[i * 3 + 2]? = some (.string ⟨(kFields.getD i []).toArray⟩) := fun i hi' => by
    have hfi := hf i hi'
    rw [ce] at hfi
    have hxi : xs[i]? = some xs[i] := List.getElem?_eq_getElem (by omega)
    rw [hxi] at hfi
    have hdi : xs[i].1 = kindData i := by
      have h1 := congrArg Prod.fst hx
      simp only [DataW.agg.injEq] at h1
      have h2 := congrArg (fun l => l[i]?) h1
      simp only [List.getElem?_map, List.getElem?_range hi', hxi, Option.map_some, Option.some.injEq] at h2
      exact h2.symm
    obtain ⟨ys, m2, hm2, hy, hcl, hyl, hfy⟩ := DataW.trod_struct he hfi
    have g0' := hfy 0 f0 rfl
    have g1' := hfy 1 f1 rfl
    have g2' := hfy 2 f2 rfl
    rw [o0, t0, c0] at g0'
    rw [o1, t1, c1] at g1'
    rw [o2, t2, c1] at g2'
    have hyl' : ys.length = 3 := hyl
    obtain ⟨y0, y1, y2, rfl⟩ : ∃ a b c, ys = [a, b, c] := by
      match ys, hyl' with
      | [a, b, c], _ => exact ⟨a, b, c, rfl⟩
    obtain ⟨z0, k0, k1, _⟩ := DataW.trod_int hi g0'
    obtain ⟨s1, k2, k3, _⟩ := DataW.trod_string hs g1'
    obtain ⟨s2, k4, k5, _⟩ := DataW.trod_string hs g2'
    rw [hy] at hdi
    simp only [kindData, List.map_cons, List.map_nil, DataW.agg.injEq, List.cons.injEq, and_true] at hdi
    obtain ⟨d0, d1, d2⟩ := hdi
    have w0 := (congrArg Prod.fst k1).symm.trans d0
    have w1 := (congrArg Prod.fst k3).symm.trans d1
    have w2 := (congrArg Prod.fst k5).symm.trans d2
    simp only [DataW.lit.injEq, Lit.int.injEq, true_and] at w0
    simp only [DataW.lit.injEq, Lit.string.injEq] at w1 w2
    have take1 : ∀ (k : Nat) (v : Value), (((cs0.toList.drop (i * 3)).take 3).drop k).take 1 = [v] → cs0.toList[i * 3 + k]? = some v := fun k v hh => by
      have h1 := congrArg (fun l => l[0]?) hh
      simp only [List.getElem?_take, List.getElem?_drop, List.getElem?_cons_zero] at h1
      split at h1
      · split at h1
        · simpa using h1
        · cases h1
      · cases h1
    refine ⟨by have := take1 0 _ k0; rw [w0] at this; simpa using this, ?_, ?_⟩
    · have := take1 1 _ k2
      rw [this, ← w1]
    · have := take1 2 _ k4
      rw [this, ← w2]
  obtain ⟨⟨c, q, hb⟩, _⟩ := hrows g 0 (by
    have : 0 < cs0.size := by
      have := (List.getElem?_eq_some_iff.1 (each 0 (by decide)).1).1
      simpa using this
    simp [MemPlace.row]; omega)
  refine ⟨c, q, hb, fun i hi' => ?_⟩
  have tr : ∀ j v, cs0.toList[j]? = some v → c[j]? = some v := fun j v hv => by
    have h1 := hcell j
    rw [cell_of_row W g j c q (0, 0) hb] at h1
    rw [h1]; rw [Array.getElem?_toList] at hv; exact hv
  exact ⟨tr _ _ (each i hi').1, tr _ _ (each i hi').2.1, tr _ _ (each i hi').2.2⟩
theorem kindsD : (Rows.laid_speakeasy_message_kinds : DataW Unit) = .agg ((List.range 29).map kindData) := by kernel_rfl
theorem known_kinds {r : List (String × DataW Unit)} {W : World} {eo : Nat → Nat × Nat} (h : laidMet Tryd.prog (("speakeasy/message.kinds", Rows.laid_speakeasy_message_kinds) :: r) W) :
    (⟨AV.agg kindCells, errT, false⟩ : ABlk).own = false ∧ ∃ l s, errE W eo 21 = some (l, s) ∧ BAt (errE W eo) ⟨.agg kindCells, errT, false⟩ W l s := by
  rw [kindsD] at h
  obtain ⟨arr, q, h1, h2⟩ := kinds_gen h (by kernel_rfl) (by kernel_rfl) Tryd.underlying87 Tryd.underlying86 (by kernel_rfl) rfl rfl rfl rfl rfl rfl Tryd.underlying3 Tryd.underlying9 (by kernel_rfl) (by kernel_rfl)
  refine ⟨rfl, 21, sizeAt W 21, by simp [errE], arr, q, (0, 0), h1, (size_at h1).symm, ⟨⟨fun h => (by cases h), fun _ => rfl, fun _ h => absurd h (show ¬ (2000000 : Nat) ≤ 1000000 by decide)⟩, .inl rfl⟩, ?_, fun i x hx => ?_⟩
  · have := (Array.getElem?_eq_some_iff.1 (h2 28 (by decide)).2.2).1
    rw [size_at h1]
    show 87 ≤ arr.size
    omega
  · have hi : i < 87 := (List.getElem?_eq_some_iff.1 hx).1
    have hr := kind_row (i / 3) (by omega)
    injection hr with hr
    have hx' : ((kindCells.drop (i / 3 * 3)).take 3)[i % 3]? = some x := by
      rw [List.getElem?_take, if_pos (by omega), List.getElem?_drop, show i / 3 * 3 + i % 3 = i by omega]; exact hx
    rw [hr] at hx'
    obtain ⟨k0, k1, k2⟩ := h2 (i / 3) (by omega)
    have hm : i % 3 = 0 ∨ i % 3 = 1 ∨ i % 3 = 2 := by omega
    rcases hm with e | e | e
    · rw [e] at hx'; injection hx' with hx'; subst hx'
      exact ⟨rfl, _, (congrArg (fun z => arr[z]?) (show i = i / 3 * 3 by omega)).trans k0, .i64 _⟩
    · rw [e] at hx'; injection hx' with hx'; subst hx'
      exact ⟨rfl, _, (congrArg (fun z => arr[z]?) (show i = i / 3 * 3 + 1 by omega)).trans k1, .str _⟩
    · rw [e] at hx'; injection hx' with hx'; subst hx'
      exact ⟨rfl, _, (congrArg (fun z => arr[z]?) (show i = i / 3 * 3 + 2 by omega)).trans k2, .str _⟩
end Go.Proofs.YtalhfkmkmmfkcaaDoor
