/-
  Texts of this claim.
-/
import Derived.Stop.LaidErr
import Derived.Deep.SlicePairs
import Derived.ChangeSlices
import Derived.Test.YtdpdmgbdipokdaaDoorGTC
import Derived.Test.YtdpdmgbdipokdaaDoorGTE
import Derived.Test.YtdpdmgbdipokdaaDoorGXI
namespace Go.Proofs.YtdpdmgbdipokdaaDoor
open Go.ChangeShapes Go.WideShapes Go.ChangeAt Go.RowKit
/-- A sentinel's variable g holds a pointer to the cell at a, which holds its text. -/
structure SentAt (W : World) (g : Nat) (a : Nat × Nat) (text : List UInt8) : Prop where
  var : ∃ arr t, W.heap[g]? = some (.cells arr t (0, 0)) ∧ arr[0]? = some (.iface 80 (.pointer (some ⟨a.1, a.2, none⟩)))
  blk : ∃ arr t, W.heap[a.1]? = some (.cells arr t (0, 0))
  txt : ∃ s, W.cell? ⟨a.1, a.2, none⟩ = some (.string s) ∧ s.data.toList = text
theorem star_err : "*" ++ "errors.errorString" = "*errors.errorString" := by decide
theorem ty_err (u : TypeId) (h : Tryd.prog.typeName? 3 u = some "*errors.errorString") : u = 80 :=
  typeName_ptr_named (nm := "errors.errorString") (by rw [star_err]; kernel_rfl) (by kernel_rfl) (by decide) u (by rw [star_err]; exact h)
theorem laid_err_gen {P : Program} {n nm : String} {text : List UInt8} {r : List (String × DataW Unit)} {W : World} {g : Nat} {ti tp te ts : TypeId} {ms : Array (String × TypeId)} {f : Field} (h : laidMet P ((n, .iface nm (.ptr (.agg [.lit (.string text)]))) :: r) W)
    (hg : P.globalNamed n = some g) (ht : (P.globals[g]?).map (·.type) = some ti) (hi : P.underlying ti = some (.interface ms)) (hrow : ∀ u, P.typeName? 3 u = some nm → u = tp)
    (hp : P.underlying tp = some (.pointer te)) (he : P.underlying te = some (.struct #[f])) (hft : f.type = ts) (hfo : f.offset = 0) (hs : P.underlying ts = some .string) (hc : P.cellsOf te = 1) (hcs : P.cellsOf ts = 1) :
    ∃ a : Nat × Nat, (∃ arr t, W.heap[g]? = some (.cells arr t (0, 0)) ∧ arr[0]? = some (.iface tp (.pointer (some ⟨a.1, a.2, none⟩)))) ∧ (∃ arr t, W.heap[a.1]? = some (.cells arr t (0, 0))) ∧ ∃ s, W.cell? ⟨a.1, a.2, none⟩ = some (.string s) ∧ s.data.toList = text := by
  obtain ⟨ps, ⟨g0, t0, cs0, f0, p0, q0, hg0, ht0, hv0, hd0, _, e0⟩, _, hrows⟩ := h
  obtain rfl := Option.some.inj (hg.symm.trans hg0)
  obtain rfl := Option.some.inj (ht.symm.trans ht0)
  subst e0
  obtain ⟨l0⟩ := cs0
  have ok0 : ∀ u v, l0 = [.iface u v] → Value.okWide P W .any 0 u v := fun u v e => by
    subst e
    exact (hrows g 0 (by simp [MemPlace.row])).2 u v (by simpa using World.var?_cell hg0 hv0 0)
  obtain ⟨a0, s0, rfl, hc0, hs0, hz0, rfl⟩ := errorString_of_trod hi hrow hp he hft hfo hs hc hcs hd0 ok0
  obtain ⟨l, o, sp⟩ := a0
  have hsp : sp = none := by
    cases sp with
    | none => rfl
    | some b =>
      unfold World.cell? at hc0
      split at hc0 <;> simp at hc0
  subst hsp
  obtain ⟨⟨c, t, hb⟩, _⟩ := hrows g 0 (by simp [MemPlace.row])
  obtain ⟨⟨c1, t1, hb1⟩, _⟩ := hrows l o (by simp [MemPlace.row])
  refine ⟨(l, o), ⟨c, t, hb, ?_⟩, ⟨c1, t1, hb1⟩, ⟨s0, hc0, hs0⟩⟩
  have := World.var?_cell hg0 hv0 0
  rw [cell_of_row W g 0 c t (0, 0) hb] at this
  simpa using this
theorem laid_err {n : String} {text : List UInt8} {r : List (String × DataW Unit)} {W : World} {g : Nat} (h : laidMet Tryd.prog ((n, .iface "*errors.errorString" (.ptr (.agg [.lit (.string text)]))) :: r) W)
    (hg : Tryd.prog.globalNamed n = some g) (ht : (Tryd.prog.globals[g]?).map (·.type) = some 29) : ∃ a, SentAt W g a text :=
  (laid_err_gen h hg ht Tryd.underlying29 ty_err Tryd.underlying80 Tryd.underlying105 rfl rfl Tryd.underlying9 (by kernel_rfl) (by kernel_rfl)).imp fun _ h => ⟨h.1, h.2.1, h.2.2⟩
theorem size_at {W : World} {b : Nat} {arr : Array Value} {t : TypeId} {fz : Nat × Nat} (h : W.heap[b]? = some (.cells arr t fz)) : sizeAt W b = arr.size := by simp [sizeAt, h]
/-- The names of sentinels, and the variables by their numbers. -/
def errE (W : World) (eo : Nat → Nat × Nat) : Emb := ⟨fun b => if b < 400 then some (b, sizeAt W b) else if b < 401 then none else if b < 450 then some ((eo (b - 401)).1, sizeAt W (eo (b - 401)).1) else none, fun _ => none⟩
theorem errE_glob (W : World) (eo : Nat → Nat × Nat) : ∀ g, g < 400 → ∃ s, errE W eo g = some (g, s) := fun g hg => ⟨sizeAt W g, by simp [errE, hg]⟩
theorem errE_top (W : World) (eo : Nat → Nat × Nat) : ∀ b, 1000 ≤ b → errE W eo b = none := fun b hb => by simp only [errE]; rw [if_neg (by omega), if_neg (by omega), if_neg (by omega)]
theorem errE_err (W : World) (eo : Nat → Nat × Nat) (n : Nat) (h : n < 49) : errE W eo (401 + n) = some ((eo n).1, sizeAt W (eo n).1) := by
  simp only [errE]
  rw [if_neg (by omega), if_neg (by omega), if_pos (by omega)]
  simp
theorem bat_var {W : World} {g n : Nat} {text : List UInt8} {eo : Nat → Nat × Nat} (h : SentAt W g (eo n) text) (hn : n < 49) : BAt (errE W eo) ⟨.agg [.err 80 (n + 1) (eo n)], errT, false⟩ W g (sizeAt W g) := by
  obtain ⟨⟨arr, t, h1, h2⟩, _, _⟩ := h
  refine ⟨arr, t, (0, 0), h1, (size_at h1).symm, ⟨⟨fun h => (by cases h), fun _ => rfl, fun _ h => absurd h (show ¬ (2000000 : Nat) ≤ 1000000 by decide)⟩, .inl rfl⟩, ?_, fun i x hx => ?_⟩
  · have := (Array.getElem?_eq_some_iff.1 h2).1
    simp [AV.list, AV.parts, size_at h1]; omega
  · match i, hx with
    | 0, hx =>
      simp only [AV.list, AV.parts, Option.getD_some, List.getElem?_cons_zero, Option.some.injEq] at hx
      subst hx
      exact ⟨rfl, _, h2, .errS _ n _ _ (by omega) (errE_err W eo n hn)⟩
    | i + 1, hx => simp [AV.list, AV.parts] at hx
/-- What a variable's block is known by. -/
def known (W : World) (E : Emb) : List (Nat × Option ABlk) → Prop
  | [] => True
  | (_, none) :: r => known W E r
  | (b, some k) :: r => (k.own = false ∧ ∃ l s, E b = some (l, s) ∧ BAt E k W l s) ∧ known W E r
theorem known.spec {W : World} {E : Emb} : ∀ {l : List (Nat × Option ABlk)}, known W E l → ∀ b k, hget l b = some k → k.own = false ∧ ∃ q s, E b = some (q, s) ∧ BAt E k W q s := fun {l} h b k hk => by
  have hm := hget_mem hk
  clear hk
  induction l with
  | nil => cases hm
  | cons p l ih =>
    obtain ⟨c, q⟩ := p
    cases q with
    | none =>
      rcases List.mem_cons.1 hm with e | hm
      · injection e with _ e; cases e
      · exact ih h hm
    | some k' =>
      rcases List.mem_cons.1 hm with e | hm
      · injection e with e1 e2; injection e2 with e2; subst e1; subst e2; exact h.1
      · exact ih h.2 hm
theorem known_var {W : World} {g n : Nat} {text : List UInt8} {eo : Nat → Nat × Nat} (h : SentAt W g (eo n) text) (hn : n < 49) (hg : g < 400) : (⟨AV.agg [.err 80 (n + 1) (eo n)], errT, false⟩ : ABlk).own = false ∧ ∃ l s, errE W eo g = some (l, s) ∧ BAt (errE W eo) ⟨.agg [.err 80 (n + 1) (eo n)], errT, false⟩ W l s :=
  ⟨rfl, g, sizeAt W g, by simp [errE, hg], bat_var h hn⟩
end Go.Proofs.YtdpdmgbdipokdaaDoor
namespace Go.Proofs.YtdpdmgbdipokdaaDoor
open Go.ChangeShapes Go.WideShapes Go.ChangeAt Go.RowKit
/-- The names of sentinels, the variables by their numbers, and an argument's block. -/
def argE (W : World) (eo : Nat → Nat × Nat) (b : Nat) : Emb := (errE W eo).put 450 (b, sizeAt W b)
theorem errE_450 (W : World) (eo : Nat → Nat × Nat) : errE W eo 450 = none := by simp [errE]
theorem argE_le (W : World) (eo : Nat → Nat × Nat) (b : Nat) : (errE W eo).le (argE W eo b) := Emb.put_le (errE_450 W eo)
theorem argE_glob (W : World) (eo : Nat → Nat × Nat) (b : Nat) : ∀ g, g < 400 → ∃ s, argE W eo b g = some (g, s) := fun g hg => (errE_glob W eo g hg).imp fun _ h => (argE_le W eo b).1 _ _ h
theorem argE_top (W : World) (eo : Nat → Nat × Nat) (b : Nat) : ∀ n, 1000 ≤ n → argE W eo b n = none := fun n hn => by
  unfold argE
  rw [Emb.put_other _ _ (by omega)]
  exact errE_top W eo n hn
theorem argE_450 (W : World) (eo : Nat → Nat × Nat) (b : Nat) : argE W eo b 450 = some (b, sizeAt W b) := Emb.put_same _ _ _
theorem known.mono {W : World} {E E' : Emb} (hE : E.le E') : ∀ {l : List (Nat × Option ABlk)}, known W E l → known W E' l
  | [], _ => trivial
  | (_, none) :: r, h => known.mono (l := r) hE h
  | (_, some _) :: r, h => by
    obtain ⟨⟨h1, q, s, h2, h3⟩, h4⟩ := h
    exact ⟨⟨h1, q, s, hE.1 _ _ h2, h3.mono hE rfl⟩, known.mono (l := r) hE h4⟩
theorem any_ne : anyT ≠ errT := by decide
theorem bat_any {W : World} {E : Emb} {b : Nat} {arr : Array Value} {t : TypeId} {fz : Nat × Nat} (c : AV) (hb : W.heap[b]? = some (.cells arr t fz)) (hl : c.list.length ≤ arr.size)
    (hc : ∀ (i : Nat) x, c.list[i]? = some x → x.cell = true ∧ ∃ y, arr[i]? = some y ∧ Rel E x y) : BAt E ⟨c, anyT, false⟩ W b arr.size :=
  ⟨arr, t, fz, hb, rfl, ⟨⟨fun h => (by cases h), fun h => absurd h any_ne, fun _ _ h => absurd h (Nat.lt_irrefl _)⟩, .inr (.inr (.inr rfl))⟩, hl, hc⟩
/-- A slice's cells, from its address on; where it has room for none, any block serves. -/
theorem arg_slice {W : World} {eo : Nat → Nat × Nat} {a : Addr} {len cap z : Nat} {cs : List AV} (hlen : cs.length = len * z) (hl : len ≤ cap) (hm : cap ≤ maxLen) (hz : 0 < z)
    (hc : ∀ (j : Nat) x, cs[j]? = some x → x.cell = true ∧ ∃ y, W.cell? (a.add j) = some y ∧ ∀ E, Rel E x y) (hfirst : 0 < cap → ∃ y, W.cell? (a.add 0) = some y) (hlast : 0 < cap → ∃ y, W.cell? (a.add (cap * z - 1)) = some y)
    (hblk : ∃ (b : Nat) (arr : Array Value) (t : TypeId) (fz : Nat × Nat), W.heap[b]? = some (.cells arr t fz)) :
    ∃ b o, Rel (argE W eo b) (.sl 450 o len z) (.slice (some a) len cap) ∧ BAt (argE W eo b) ⟨.agg (List.replicate o .hole ++ cs), anyT, false⟩ W b (sizeAt W b) := by
  rcases Nat.eq_zero_or_pos cap with h0 | h0
  · subst h0
    obtain rfl : len = 0 := by omega
    have hcs : cs = [] := List.eq_nil_of_length_eq_zero (by omega)
    subst hcs
    obtain ⟨b, arr, t, fz, hb⟩ := hblk
    refine ⟨b, 0, .sl0 _ _ _ _, ?_⟩
    rw [size_at hb]
    exact bat_any (.agg []) hb (Nat.zero_le _) (fun i x hx => by simp [AV.list, AV.parts] at hx)
  · obtain ⟨y, hy⟩ := hlast h0
    have h00 := hfirst h0
    obtain ⟨b, o, sp⟩ := a
    have hcz : 0 < cap * z := Nat.mul_pos h0 hz
    have hsp : sp = none := by
      cases sp with
      | none => rfl
      | some q =>
        obtain ⟨y0, hy0⟩ := h00
        rw [show (⟨b, o, some q⟩ : Addr).add 0 = ⟨b, o, some q⟩ from rfl] at hy0
        unfold World.cell? at hy0
        split at hy0 <;> simp at hy0
    subst hsp
    have hadd : ∀ j, (⟨b, o, none⟩ : Addr).add j = ⟨b, o + j, none⟩ := fun j => by
      unfold Addr.add
      split
      · rename_i e; subst e; rfl
      · rfl
    rw [hadd] at hy
    have hcell := hy
    unfold World.cell? at hy
    split at hy
    · rename_i arr t fz hb
      rw [cell_of_row W b _ arr t fz hb] at hcell
      have hsz := (Array.getElem?_eq_some_iff.1 hcell).1
      have hb' : W.heap[b]? = some (.cells arr t fz) := hb
      have hlz : len * z ≤ cap * z := Nat.mul_le_mul_right z hl
      refine ⟨b, o, .sl _ _ _ _ _ _ _ (argE_450 W eo b) hl hm (by rw [size_at hb']; omega), ?_⟩
      rw [size_at hb']
      refine bat_any _ hb' (by show (List.replicate o AV.hole ++ cs).length ≤ _; rw [List.length_append, List.length_replicate, hlen]; omega) fun i x hx => ?_
      replace hx : (List.replicate o AV.hole ++ cs)[i]? = some x := hx
      by_cases hi : i < o
      · rw [List.getElem?_append_left (by rw [List.length_replicate]; exact hi), List.getElem?_replicate, if_pos hi] at hx
        injection hx with hx; subst hx
        exact ⟨rfl, arr[i]'(by omega), by rw [Array.getElem?_eq_getElem], .hole _⟩
      · rw [List.getElem?_append_right (by rw [List.length_replicate]; omega), List.length_replicate] at hx
        obtain ⟨h1, q, h2, h3⟩ := hc _ x hx
        rw [hadd, cell_of_row W b _ arr t fz hb', show o + (i - o) = i by omega] at h2
        exact ⟨h1, q, h2, h3 _⟩
    · cases hy
theorem arg_nil {W : World} {eo : Nat → Nat × Nat} (z : Nat) (hblk : ∃ (b : Nat) (arr : Array Value) (t : TypeId) (fz : Nat × Nat), W.heap[b]? = some (.cells arr t fz)) :
    ∃ b o, Rel (argE W eo b) (.sl 450 o 0 z) (.slice none 0 0) ∧ BAt (argE W eo b) ⟨.agg (List.replicate o .hole ++ []), anyT, false⟩ W b (sizeAt W b) := by
  obtain ⟨b, arr, t, fz, hb⟩ := hblk
  refine ⟨b, 0, .sl0 _ _ _ _, ?_⟩
  rw [size_at hb]
  exact bat_any (.agg []) hb (Nat.zero_le _) (fun i x hx => by simp [AV.list, AV.parts] at hx)
section
variable {H : Type} {enc : TypeId × Value → H} {P : Program} {W : World} {eo : Nat → Nat × Nat}
/-- A slice of integers. -/
theorem ints_arg {t e : TypeId} {v : Value} {d : DataW H} {ps : List MemPlace} (ht : P.underlying t = some (.slice e)) (he : P.underlying e = some (.int .i64)) (hc : P.cellsOf e = 1) {b0 : Nat} (hv : Value.okWide P W .any b0 t v)
    (h : DataW.Trod enc P W 0 (fun _ => true) true t v d ps) (hblk : ∃ (b : Nat) (arr : Array Value) (t : TypeId) (fz : Nat × Nat), W.heap[b]? = some (.cells arr t fz)) :
    ∃ (l : List Int) (b o : Nat), l.length ≤ maxLen ∧ Rel (argE W eo b) (.sl 450 o l.length 1) v ∧ BAt (argE W eo b) ⟨.agg (List.replicate o .hole ++ l.map .i64), anyT, false⟩ W b (sizeAt W b) := by
  obtain ⟨sa, sl, sc, rfl⟩ := okWide_slice ht hv
  obtain ⟨fuel, hf⟩ := h
  rcases open_ints ht he hc hf with ⟨h1, _⟩ | ⟨a, len, cap, zs, h1, _, hl, hm, hz, _, hcell, _⟩
  · simp only [Value.cells, List.cons.injEq, Value.slice.injEq, and_true] at h1
    obtain ⟨rfl, rfl, rfl⟩ := h1
    obtain ⟨b, o, h2, h3⟩ := arg_nil (W := W) (eo := eo) 1 hblk
    exact ⟨[], b, o, Nat.zero_le _, h2, h3⟩
  · simp only [Value.cells, List.cons.injEq, Value.slice.injEq, and_true] at h1
    obtain ⟨rfl, rfl, rfl⟩ := h1
    simp only [if_true] at hz
    have hlen : (zs.take sl).length = sl := by rw [List.length_take]; omega
    obtain ⟨b, o, h2, h3⟩ := arg_slice (W := W) (eo := eo) (a := a) (len := sl) (cap := sc) (z := 1) (cs := (zs.take sl).map .i64) (by rw [List.length_map, hlen, Nat.mul_one]) hl hm (by decide) (fun j x hx => by
      obtain ⟨y, hy, rfl⟩ := get_map_some hx
      have hj := (List.getElem?_eq_some_iff.1 hy).1
      rw [hlen] at hj
      have := hcell j (by omega)
      rw [List.getElem?_take, if_pos hj] at hy
      rw [List.getD_eq_getElem?_getD, hy] at this
      exact ⟨rfl, _, this, fun E => .i64 _⟩) (fun h0 => ⟨_, hcell 0 (by omega)⟩) (fun h0 => ⟨_, by have := hcell (sc - 1) (by omega); rwa [Nat.mul_one]⟩) hblk
    exact ⟨zs.take sl, b, o, by omega, by rw [hlen]; exact h2, h3⟩
theorem pair_at : ∀ (l : List (Int × Int)) (i : Nat) (x : AV), (l.flatMap fun p => [AV.i64 p.1, AV.i64 p.2])[i]? = some x →
    ∃ j, j < l.length ∧ ((i = j * 2 ∧ x = .i64 (l.getD j (0, 0)).1) ∨ (i = j * 2 + 1 ∧ x = .i64 (l.getD j (0, 0)).2))
  | [], i, x, h => by simp at h
  | p :: l, 0, x, h => ⟨0, by simp, .inl ⟨rfl, by
      have : AV.i64 p.1 = x := Option.some.inj h
      exact this.symm⟩⟩
  | p :: l, 1, x, h => ⟨0, by simp, .inr ⟨rfl, by
      have : AV.i64 p.2 = x := Option.some.inj h
      exact this.symm⟩⟩
  | p :: l, i + 2, x, h => by
    obtain ⟨j, h1, h2⟩ := pair_at l i x h
    refine ⟨j + 1, by simpa using h1, ?_⟩
    rcases h2 with ⟨e, e2⟩ | ⟨e, e2⟩
    · exact .inl ⟨by omega, e2⟩
    · exact .inr ⟨by omega, e2⟩
theorem pair_len (l : List (Int × Int)) : (l.flatMap fun p => [AV.i64 p.1, AV.i64 p.2]).length = l.length * 2 := by
  induction l with
  | nil => rfl
  | cons p l ih => simp only [List.flatMap_cons, List.length_append, List.length_cons, List.length_nil, ih]; omega
/-- A slice of structs of two integers. -/
theorem pairs_arg {t e q : TypeId} {f0 f1 : Field} {v : Value} {d : DataW H} {ps : List MemPlace} (ht : P.underlying t = some (.slice e)) (he : P.underlying e = some (.struct #[f0, f1])) (ce : P.cellsOf e = 2)
    (o0 : f0.offset = 0) (o1 : f1.offset = 1) (t0 : f0.type = q) (t1 : f1.type = q) (hq : P.underlying q = some (.int .i64)) (cq : P.cellsOf q = 1) {b0 : Nat} (hv : Value.okWide P W .any b0 t v)
    (h : DataW.Trod enc P W 0 (fun _ => true) true t v d ps) (hblk : ∃ (b : Nat) (arr : Array Value) (t : TypeId) (fz : Nat × Nat), W.heap[b]? = some (.cells arr t fz)) :
    ∃ (l : List (Int × Int)) (b o : Nat), l.length ≤ maxLen ∧ Rel (argE W eo b) (.sl 450 o l.length 2) v ∧ BAt (argE W eo b) ⟨.agg (List.replicate o .hole ++ l.flatMap fun p => [.i64 p.1, .i64 p.2]), anyT, false⟩ W b (sizeAt W b) := by
  obtain ⟨sa, sl, sc, rfl⟩ := okWide_slice ht hv
  obtain ⟨fuel, hf⟩ := h
  subst t0
  rcases Go.Deep.open_slice_pairs ht he ce o0 o1 cq (by rw [t1]; exact cq) hf with ⟨h1, _⟩ | ⟨a, len, cap, m, n, V0, V1, D0, D1, P0, P1, h1, _, hl, hm, hmm, _, hcell⟩
  · simp only [Value.cells, List.cons.injEq, Value.slice.injEq, and_true] at h1
    obtain ⟨rfl, rfl, rfl⟩ := h1
    obtain ⟨b, o, h2, h3⟩ := arg_nil (W := W) (eo := eo) 2 hblk
    exact ⟨[], b, o, Nat.zero_le _, h2, h3⟩
  · simp only [Value.cells, List.cons.injEq, Value.slice.injEq, and_true] at h1
    obtain ⟨rfl, rfl, rfl⟩ := h1
    simp only [if_true] at hmm
    subst hmm
    rw [t1] at hcell
    obtain ⟨z, hz⟩ := Go.Deep.choose_lt (α := Int × Int) (n := m) (p := fun i p => W.cell? (a.add (i * 2)) = some (.int .i64 p.1) ∧ W.cell? (a.add (i * 2 + 1)) = some (.int .i64 p.2)) (fun i hi => by
      obtain ⟨c0, c1, r0, r1⟩ := hcell i hi
      obtain ⟨x, k0, _⟩ := DataW.trod_int hq r0
      obtain ⟨y, k1, _⟩ := DataW.trod_int hq r1
      simp only [List.cons.injEq, and_true] at k0 k1
      exact ⟨(x, y), by rw [c0, k0], by rw [c1, k1]⟩)
    have hlen : ((List.range sl).map z).length = sl := by simp
    obtain ⟨b, o, h2, h3⟩ := arg_slice (W := W) (eo := eo) (a := a) (len := sl) (cap := m) (z := 2) (cs := ((List.range sl).map z).flatMap fun p => [.i64 p.1, .i64 p.2]) (by rw [pair_len, hlen]) hl hm (by decide) (fun j x hx => by
      obtain ⟨k, hk, hh⟩ := pair_at _ j x hx
      rw [hlen] at hk
      have hg : ((List.range sl).map z).getD k (0, 0) = z k := by simp [List.getD_eq_getElem?_getD, hk]
      rw [hg] at hh
      rcases hh with ⟨rfl, rfl⟩ | ⟨rfl, rfl⟩
      · exact ⟨rfl, _, (hz k (by omega)).1, fun E => .i64 _⟩
      · exact ⟨rfl, _, (hz k (by omega)).2, fun E => .i64 _⟩) (fun h0 => ⟨_, (hz 0 (by omega)).1⟩) (fun h0 => ⟨_, by have := (hz (m - 1) (by omega)).2; rwa [show (m - 1) * 2 + 1 = m * 2 - 1 by omega] at this⟩) hblk
    exact ⟨(List.range sl).map z, b, o, by omega, by rw [hlen]; exact h2, h3⟩
theorem blk_of {E : Emb} {b : Nat} {k : ABlk} {r : List (Nat × Option ABlk)} (h : known W E ((b, some k) :: r)) : ∃ (b : Nat) (arr : Array Value) (t : TypeId) (fz : Nat × Nat), W.heap[b]? = some (.cells arr t fz) := by
  obtain ⟨⟨_, q, s, _, arr, t, fz, hb, _⟩, _⟩ := h
  exact ⟨q, arr, t, fz, hb⟩
end
end Go.Proofs.YtdpdmgbdipokdaaDoor
namespace Go.Proofs.YtdpdmgbdipokdaaDoor
open Go.ChangeShapes Go.WideShapes Go.ChangeAt Go.RowKit
def errTexts : List (List UInt8) := [[97, 110, 32, 97, 114, 103, 117, 109, 101, 110, 116, 32, 116, 104, 97, 116, 32, 109, 97, 121, 32, 110, 111, 116, 32, 98, 101], [98, 121, 116, 101, 115, 32, 97, 114, 101, 32, 119, 97, 110, 116, 105, 110, 103], [98, 121, 116, 101, 115, 32, 116, 104, 97, 116, 32, 115, 97, 121, 32, 110, 111, 116, 104, 105, 110, 103], [109, 111, 114, 101, 32, 116, 104, 97, 110, 32, 116, 104, 101, 114, 101, 32, 109, 97, 121, 32, 98, 101], [97, 32, 115, 117, 109, 32, 116, 104, 97, 116, 32, 100, 111, 101, 115, 110, 39, 116, 32, 102, 105, 116], [110, 111, 116, 32, 110, 111, 119], [116, 104, 101, 114, 101, 32, 105, 115, 32, 110, 111, 32, 114, 111, 111, 109], [116, 104, 101, 114, 101, 32, 105, 115, 32, 110, 111, 110, 101], [105, 116, 32, 105, 115, 32, 116, 104, 101, 114, 101, 32, 97, 108, 114, 101, 97, 100, 121], [97, 32, 107, 101, 121, 32, 116, 104, 97, 116, 32, 109, 97, 121, 32, 110, 111, 116, 32, 98, 101], [97, 32, 115, 105, 103, 110, 97, 116, 117, 114, 101, 32, 116, 104, 97, 116, 32, 100, 111, 101, 115, 110, 39, 116, 32, 102, 105, 116], [97, 110, 111, 116, 104, 101, 114, 32, 118, 101, 114, 115, 105, 111, 110], [110, 111, 116, 104, 105, 110, 103, 32, 105, 110, 32, 99, 111, 109, 109, 111, 110], [97, 110, 111, 116, 104, 101, 114, 32, 104, 111, 115, 116, 39, 115, 32, 107, 101, 121], [105, 116, 32, 109, 97, 121, 32, 110, 111, 116, 32, 99, 111, 109, 101, 32, 105, 110], [109, 111, 114, 101, 32, 116, 104, 97, 110, 32, 105, 116, 115, 32, 115, 104, 97, 114, 101], [97, 32, 110, 97, 109, 101, 32, 116, 104, 97, 116, 32, 109, 97, 121, 32, 110, 111, 116, 32, 98, 101], [105, 116, 32, 105, 115, 32, 103, 111, 110, 101], [98, 101, 121, 111, 110, 100, 32, 116, 104, 101, 32, 119, 105, 110, 100, 111, 119], [116, 104, 101, 114, 101, 32, 105, 115, 32, 110, 111, 32, 115, 117, 99, 104, 32, 107, 105, 110, 100]]
theorem texts_ne : ∀ i, i < 20 → ∀ j, j < 20 → errTexts.getD i [] = errTexts.getD j [] → i = j := by decide +kernel
theorem known_blk {W : World} {g n : Nat} {text : List UInt8} {eo : Nat → Nat × Nat} (h : SentAt W g (eo n) text) (hn : n < 49) : (⟨AV.agg [], errT, false⟩ : ABlk).own = false ∧ ∃ l s, errE W eo (401 + n) = some (l, s) ∧ BAt (errE W eo) ⟨.agg [], errT, false⟩ W l s := by
  obtain ⟨_, ⟨arr, t, h1⟩, _⟩ := h
  refine ⟨rfl, _, _, errE_err W eo n hn, arr, t, (0, 0), h1, (size_at h1).symm, ⟨⟨fun h => (by cases h), fun _ => rfl, fun _ h => absurd h (show ¬ (2000000 : Nat) ≤ 1000000 by decide)⟩, .inl rfl⟩, ?_, fun i x hx => ?_⟩
  · simp [AV.list, AV.parts]
  · simp [AV.list, AV.parts] at hx
theorem known_app {W : World} {E : Emb} : ∀ {a b : List (Nat × Option ABlk)}, known W E a → known W E b → known W E (a ++ b)
  | [], _, _, h => h
  | (_, none) :: r, _, h, k => known_app (a := r) h k
  | (_, some _) :: r, _, h, k => ⟨h.1, known_app (a := r) h.2 k⟩
theorem laid_errs {r : List (String × DataW Unit)} {W : World} (h : laidMet Tryd.prog (("speakeasy/api.ErrArg", Rows.laid_speakeasy_api_ErrArg) :: ("speakeasy/api.ErrEnd", Rows.laid_speakeasy_api_ErrEnd) :: ("speakeasy/api.ErrForm", Rows.laid_speakeasy_api_ErrForm) :: ("speakeasy/api.ErrBig", Rows.laid_speakeasy_api_ErrBig) :: ("speakeasy/api.ErrMac", Rows.laid_speakeasy_api_ErrMac) :: ("speakeasy/api.ErrState", Rows.laid_speakeasy_api_ErrState) :: ("speakeasy/api.ErrFull", Rows.laid_speakeasy_api_ErrFull) :: ("speakeasy/api.ErrNone", Rows.laid_speakeasy_api_ErrNone) :: ("speakeasy/api.ErrHave", Rows.laid_speakeasy_api_ErrHave) :: ("speakeasy/api.ErrKey", Rows.laid_speakeasy_api_ErrKey) :: ("speakeasy/api.ErrSign", Rows.laid_speakeasy_api_ErrSign) :: ("speakeasy/api.ErrVersion", Rows.laid_speakeasy_api_ErrVersion) :: ("speakeasy/api.ErrAlgo", Rows.laid_speakeasy_api_ErrAlgo) :: ("speakeasy/api.ErrHost", Rows.laid_speakeasy_api_ErrHost) :: ("speakeasy/api.ErrAuth", Rows.laid_speakeasy_api_ErrAuth) :: ("speakeasy/api.ErrQuota", Rows.laid_speakeasy_api_ErrQuota) :: ("speakeasy/api.ErrName", Rows.laid_speakeasy_api_ErrName) :: ("speakeasy/api.ErrGone", Rows.laid_speakeasy_api_ErrGone) :: ("speakeasy/api.ErrWindow", Rows.laid_speakeasy_api_ErrWindow) :: ("speakeasy/api.ErrKind", Rows.laid_speakeasy_api_ErrKind) :: r) W) : ∃ eo : Nat → Nat × Nat, (∀ i j, i < 20 → j < 20 → i ≠ j → eo i ≠ eo j) ∧ known W (errE W eo) [(1, some ⟨.agg [.err 80 (1) (offE eo (1))], errT, false⟩), (2, some ⟨.agg [.err 80 (2) (offE eo (2))], errT, false⟩), (3, some ⟨.agg [.err 80 (3) (offE eo (3))], errT, false⟩), (4, some ⟨.agg [.err 80 (4) (offE eo (4))], errT, false⟩), (5, some ⟨.agg [.err 80 (5) (offE eo (5))], errT, false⟩), (6, some ⟨.agg [.err 80 (6) (offE eo (6))], errT, false⟩), (7, some ⟨.agg [.err 80 (7) (offE eo (7))], errT, false⟩), (8, some ⟨.agg [.err 80 (8) (offE eo (8))], errT, false⟩), (9, some ⟨.agg [.err 80 (9) (offE eo (9))], errT, false⟩), (0, some ⟨.agg [.err 80 (10) (offE eo (10))], errT, false⟩), (10, some ⟨.agg [.err 80 (11) (offE eo (11))], errT, false⟩), (11, some ⟨.agg [.err 80 (12) (offE eo (12))], errT, false⟩), (12, some ⟨.agg [.err 80 (13) (offE eo (13))], errT, false⟩), (13, some ⟨.agg [.err 80 (14) (offE eo (14))], errT, false⟩), (14, some ⟨.agg [.err 80 (15) (offE eo (15))], errT, false⟩), (15, some ⟨.agg [.err 80 (16) (offE eo (16))], errT, false⟩), (16, some ⟨.agg [.err 80 (17) (offE eo (17))], errT, false⟩), (17, some ⟨.agg [.err 80 (18) (offE eo (18))], errT, false⟩), (18, some ⟨.agg [.err 80 (19) (offE eo (19))], errT, false⟩), (19, some ⟨.agg [.err 80 (20) (offE eo (20))], errT, false⟩), (401, some ⟨.agg [], errT, false⟩), (402, some ⟨.agg [], errT, false⟩), (403, some ⟨.agg [], errT, false⟩), (404, some ⟨.agg [], errT, false⟩), (405, some ⟨.agg [], errT, false⟩), (406, some ⟨.agg [], errT, false⟩), (407, some ⟨.agg [], errT, false⟩), (408, some ⟨.agg [], errT, false⟩), (409, some ⟨.agg [], errT, false⟩), (410, some ⟨.agg [], errT, false⟩), (411, some ⟨.agg [], errT, false⟩), (412, some ⟨.agg [], errT, false⟩), (413, some ⟨.agg [], errT, false⟩), (414, some ⟨.agg [], errT, false⟩), (415, some ⟨.agg [], errT, false⟩), (416, some ⟨.agg [], errT, false⟩), (417, some ⟨.agg [], errT, false⟩), (418, some ⟨.agg [], errT, false⟩), (419, some ⟨.agg [], errT, false⟩), (420, some ⟨.agg [], errT, false⟩)] := by
  have h0 := h
  have h1 := laidMet_tail h0
  have h2 := laidMet_tail h1
  have h3 := laidMet_tail h2
  have h4 := laidMet_tail h3
  have h5 := laidMet_tail h4
  have h6 := laidMet_tail h5
  have h7 := laidMet_tail h6
  have h8 := laidMet_tail h7
  have h9 := laidMet_tail h8
  have h10 := laidMet_tail h9
  have h11 := laidMet_tail h10
  have h12 := laidMet_tail h11
  have h13 := laidMet_tail h12
  have h14 := laidMet_tail h13
  have h15 := laidMet_tail h14
  have h16 := laidMet_tail h15
  have h17 := laidMet_tail h16
  have h18 := laidMet_tail h17
  have h19 := laidMet_tail h18
  obtain ⟨a0, s0⟩ := laid_err (g := 1) (text := [97, 110, 32, 97, 114, 103, 117, 109, 101, 110, 116, 32, 116, 104, 97, 116, 32, 109, 97, 121, 32, 110, 111, 116, 32, 98, 101]) h0 (by kernel_rfl) (by kernel_rfl)
  obtain ⟨a1, s1⟩ := laid_err (g := 2) (text := [98, 121, 116, 101, 115, 32, 97, 114, 101, 32, 119, 97, 110, 116, 105, 110, 103]) h1 (by kernel_rfl) (by kernel_rfl)
  obtain ⟨a2, s2⟩ := laid_err (g := 3) (text := [98, 121, 116, 101, 115, 32, 116, 104, 97, 116, 32, 115, 97, 121, 32, 110, 111, 116, 104, 105, 110, 103]) h2 (by kernel_rfl) (by kernel_rfl)
  obtain ⟨a3, s3⟩ := laid_err (g := 4) (text := [109, 111, 114, 101, 32, 116, 104, 97, 110, 32, 116, 104, 101, 114, 101, 32, 109, 97, 121, 32, 98, 101]) h3 (by kernel_rfl) (by kernel_rfl)
  obtain ⟨a4, s4⟩ := laid_err (g := 5) (text := [97, 32, 115, 117, 109, 32, 116, 104, 97, 116, 32, 100, 111, 101, 115, 110, 39, 116, 32, 102, 105, 116]) h4 (by kernel_rfl) (by kernel_rfl)
  obtain ⟨a5, s5⟩ := laid_err (g := 6) (text := [110, 111, 116, 32, 110, 111, 119]) h5 (by kernel_rfl) (by kernel_rfl)
  obtain ⟨a6, s6⟩ := laid_err (g := 7) (text := [116, 104, 101, 114, 101, 32, 105, 115, 32, 110, 111, 32, 114, 111, 111, 109]) h6 (by kernel_rfl) (by kernel_rfl)
  obtain ⟨a7, s7⟩ := laid_err (g := 8) (text := [116, 104, 101, 114, 101, 32, 105, 115, 32, 110, 111, 110, 101]) h7 (by kernel_rfl) (by kernel_rfl)
  obtain ⟨a8, s8⟩ := laid_err (g := 9) (text := [105, 116, 32, 105, 115, 32, 116, 104, 101, 114, 101, 32, 97, 108, 114, 101, 97, 100, 121]) h8 (by kernel_rfl) (by kernel_rfl)
  obtain ⟨a9, s9⟩ := laid_err (g := 0) (text := [97, 32, 107, 101, 121, 32, 116, 104, 97, 116, 32, 109, 97, 121, 32, 110, 111, 116, 32, 98, 101]) h9 (by kernel_rfl) (by kernel_rfl)
  obtain ⟨a10, s10⟩ := laid_err (g := 10) (text := [97, 32, 115, 105, 103, 110, 97, 116, 117, 114, 101, 32, 116, 104, 97, 116, 32, 100, 111, 101, 115, 110, 39, 116, 32, 102, 105, 116]) h10 (by kernel_rfl) (by kernel_rfl)
  obtain ⟨a11, s11⟩ := laid_err (g := 11) (text := [97, 110, 111, 116, 104, 101, 114, 32, 118, 101, 114, 115, 105, 111, 110]) h11 (by kernel_rfl) (by kernel_rfl)
  obtain ⟨a12, s12⟩ := laid_err (g := 12) (text := [110, 111, 116, 104, 105, 110, 103, 32, 105, 110, 32, 99, 111, 109, 109, 111, 110]) h12 (by kernel_rfl) (by kernel_rfl)
  obtain ⟨a13, s13⟩ := laid_err (g := 13) (text := [97, 110, 111, 116, 104, 101, 114, 32, 104, 111, 115, 116, 39, 115, 32, 107, 101, 121]) h13 (by kernel_rfl) (by kernel_rfl)
  obtain ⟨a14, s14⟩ := laid_err (g := 14) (text := [105, 116, 32, 109, 97, 121, 32, 110, 111, 116, 32, 99, 111, 109, 101, 32, 105, 110]) h14 (by kernel_rfl) (by kernel_rfl)
  obtain ⟨a15, s15⟩ := laid_err (g := 15) (text := [109, 111, 114, 101, 32, 116, 104, 97, 110, 32, 105, 116, 115, 32, 115, 104, 97, 114, 101]) h15 (by kernel_rfl) (by kernel_rfl)
  obtain ⟨a16, s16⟩ := laid_err (g := 16) (text := [97, 32, 110, 97, 109, 101, 32, 116, 104, 97, 116, 32, 109, 97, 121, 32, 110, 111, 116, 32, 98, 101]) h16 (by kernel_rfl) (by kernel_rfl)
  obtain ⟨a17, s17⟩ := laid_err (g := 17) (text := [105, 116, 32, 105, 115, 32, 103, 111, 110, 101]) h17 (by kernel_rfl) (by kernel_rfl)
  obtain ⟨a18, s18⟩ := laid_err (g := 18) (text := [98, 101, 121, 111, 110, 100, 32, 116, 104, 101, 32, 119, 105, 110, 100, 111, 119]) h18 (by kernel_rfl) (by kernel_rfl)
  obtain ⟨a19, s19⟩ := laid_err (g := 19) (text := [116, 104, 101, 114, 101, 32, 105, 115, 32, 110, 111, 32, 115, 117, 99, 104, 32, 107, 105, 110, 100]) h19 (by kernel_rfl) (by kernel_rfl)
  refine ⟨fun n => [a0, a1, a2, a3, a4, a5, a6, a7, a8, a9, a10, a11, a12, a13, a14, a15, a16, a17, a18, a19].getD n (0, 0), fun i j hi hj hne he => ?_, ?_⟩
  · have key : ∀ k, k < 20 → ∃ s, W.cell? ⟨([a0, a1, a2, a3, a4, a5, a6, a7, a8, a9, a10, a11, a12, a13, a14, a15, a16, a17, a18, a19].getD k (0, 0)).1, ([a0, a1, a2, a3, a4, a5, a6, a7, a8, a9, a10, a11, a12, a13, a14, a15, a16, a17, a18, a19].getD k (0, 0)).2, none⟩ = some (.string s) ∧ s.data.toList = errTexts.getD k [] := fun k hk => by
      match k, hk with
      | 0, _ => exact s0.txt
      | 1, _ => exact s1.txt
      | 2, _ => exact s2.txt
      | 3, _ => exact s3.txt
      | 4, _ => exact s4.txt
      | 5, _ => exact s5.txt
      | 6, _ => exact s6.txt
      | 7, _ => exact s7.txt
      | 8, _ => exact s8.txt
      | 9, _ => exact s9.txt
      | 10, _ => exact s10.txt
      | 11, _ => exact s11.txt
      | 12, _ => exact s12.txt
      | 13, _ => exact s13.txt
      | 14, _ => exact s14.txt
      | 15, _ => exact s15.txt
      | 16, _ => exact s16.txt
      | 17, _ => exact s17.txt
      | 18, _ => exact s18.txt
      | 19, _ => exact s19.txt
      | k + 20, hk => exact absurd hk (by omega)
    obtain ⟨s, c1, c2⟩ := key i hi
    obtain ⟨s', c3, c4⟩ := key j hj
    simp only at he
    rw [he] at c1
    rw [c1] at c3
    injection c3 with c3
    injection c3 with c3
    subst c3
    exact hne (texts_ne i hi j hj (c2.symm.trans c4))
  · exact ⟨known_var (n := 0) s0 (by decide) (by decide), known_var (n := 1) s1 (by decide) (by decide), known_var (n := 2) s2 (by decide) (by decide), known_var (n := 3) s3 (by decide) (by decide), known_var (n := 4) s4 (by decide) (by decide), known_var (n := 5) s5 (by decide) (by decide), known_var (n := 6) s6 (by decide) (by decide), known_var (n := 7) s7 (by decide) (by decide), known_var (n := 8) s8 (by decide) (by decide), known_var (n := 9) s9 (by decide) (by decide), known_var (n := 10) s10 (by decide) (by decide), known_var (n := 11) s11 (by decide) (by decide), known_var (n := 12) s12 (by decide) (by decide), known_var (n := 13) s13 (by decide) (by decide), known_var (n := 14) s14 (by decide) (by decide), known_var (n := 15) s15 (by decide) (by decide), known_var (n := 16) s16 (by decide) (by decide), known_var (n := 17) s17 (by decide) (by decide), known_var (n := 18) s18 (by decide) (by decide), known_var (n := 19) s19 (by decide) (by decide), known_blk (n := 0) s0 (by decide), known_blk (n := 1) s1 (by decide), known_blk (n := 2) s2 (by decide), known_blk (n := 3) s3 (by decide), known_blk (n := 4) s4 (by decide), known_blk (n := 5) s5 (by decide), known_blk (n := 6) s6 (by decide), known_blk (n := 7) s7 (by decide), known_blk (n := 8) s8 (by decide), known_blk (n := 9) s9 (by decide), known_blk (n := 10) s10 (by decide), known_blk (n := 11) s11 (by decide), known_blk (n := 12) s12 (by decide), known_blk (n := 13) s13 (by decide), known_blk (n := 14) s14 (by decide), known_blk (n := 15) s15 (by decide), known_blk (n := 16) s16 (by decide), known_blk (n := 17) s17 (by decide), known_blk (n := 18) s18 (by decide), known_blk (n := 19) s19 (by decide), trivial⟩
end Go.Proofs.YtdpdmgbdipokdaaDoor
