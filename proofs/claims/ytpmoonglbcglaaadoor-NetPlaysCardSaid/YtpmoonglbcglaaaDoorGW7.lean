/-
  Texts of this claim.
-/
import Derived.Stop.LaidErr
import Derived.Deep.SlicePairs
import Derived.ChangeSlices
import Derived.Test.YtpmoonglbcglaaaDoorGWC
import Derived.Test.YtpmoonglbcglaaaDoorGWE
import Derived.Test.YtpmoonglbcglaaaDoorGW6
namespace Go.Proofs.YtpmoonglbcglaaaDoor
open Go.ChangeShapes Go.WideShapes Go.ChangeAt Go.RowKit
/-- A sentinel's variable g holds a pointer to the cell at a, which holds its text. -/
structure SentAt (W : World) (g : Nat) (a : Nat × Nat) (text : List UInt8) : Prop where
  var : ∃ arr t, W.heap[g]? = some (.cells arr t (0, 0)) ∧ arr[0]? = some (.iface 79 (.pointer (some ⟨a.1, a.2, none⟩)))
  blk : ∃ arr t, W.heap[a.1]? = some (.cells arr t (0, 0))
  txt : ∃ s, W.cell? ⟨a.1, a.2, none⟩ = some (.string s) ∧ s.data.toList = text
theorem star_err : "*" ++ "errors.errorString" = "*errors.errorString" := by decide
theorem ty_err (u : TypeId) (h : Tryd.prog.typeName? 3 u = some "*errors.errorString") : u = 79 :=
  typeName_ptr_named (nm := "errors.errorString") (by rw [star_err]; kernel_rfl) (by kernel_rfl) (by decide) u (by rw [star_err]; exact h)
theorem laid_err_gen {P : Program} {n nm : String} {text : List UInt8} {r : List (String × DataW Unit)} {W : World} {g : Nat} {ti tp te ts : TypeId} {ms : Array (String × TypeId)} {f : Field} (h : laidMet P ((n, .iface nm (.ptr (.agg [.lit (.string text)]))) :: r) W)
    (hg : P.globalNamed n = some g) (ht : (P.globals[g]?).map (·.type) = some ti) (hi : P.underlying ti = some (.interface ms)) (hrow : ∀ u, P.typeName? 3 u = some nm → u = tp)
    (hp : P.underlying tp = some (.pointer te)) (he : P.underlying te = some (.struct #[f])) (hft : f.type = ts) (hfo : f.offset = 0) (hs : P.underlying ts = some .string) (hc : P.cellsOf te = 1) (hcs : P.cellsOf ts = 1) :
    ∃ a : Nat × Nat, (∃ arr t, W.heap[g]? = some (.cells arr t (0, 0)) ∧ arr[0]? = some (.iface tp (.pointer (some ⟨a.1, a.2, none⟩)))) ∧ (∃ arr t, W.heap[a.1]? = some (.cells arr t (0, 0))) ∧ ∃ s, W.cell? ⟨a.1, a.2, none⟩ = some (.string s) ∧ s.data.toList = text := by
  obtain ⟨ps, ⟨g0, t0, cs0, f0, p0, q0, hg0, ht0, hv0, hd0, _, e0⟩, _, hrows⟩ := h
  obtain rfl := Option.some.inj (hg.symm.trans hg0)
  obtain rfl := Option.some.inj (ht.symm.trans ht0)
  subst e0
  obtain ⟨l0⟩ := cs0
  have ok0 : ∀ u v, l0 = [.iface u v] → Value.okWide P W .any 0 u v := fun u v e => by
    subst e
    exact (hrows g 0 (by simp [MemPlace.row])).2 u v (by simpa using World.var?_cell hg0 hv0 0)
  obtain ⟨a0, s0, rfl, hc0, hs0, hz0, rfl⟩ := errorString_of_trod hi hrow hp he hft hfo hs hc hcs hd0 ok0
  obtain ⟨l, o, sp⟩ := a0
  have hsp : sp = none := by
    cases sp with
    | none => rfl
    | some b =>
      unfold World.cell? at hc0
      split at hc0 <;> simp at hc0
  subst hsp
  obtain ⟨⟨c, t, hb⟩, _⟩ := hrows g 0 (by simp [MemPlace.row])
  obtain ⟨⟨c1, t1, hb1⟩, _⟩ := hrows l o (by simp [MemPlace.row])
  refine ⟨(l, o), ⟨c, t, hb, ?_⟩, ⟨c1, t1, hb1⟩, ⟨s0, hc0, hs0⟩⟩
  have := World.var?_cell hg0 hv0 0
  rw [cell_of_row W g 0 c t (0, 0) hb] at this
  simpa using this
theorem laid_err {n : String} {text : List UInt8} {r : List (String × DataW Unit)} {W : World} {g : Nat} (h : laidMet Tryd.prog ((n, .iface "*errors.errorString" (.ptr (.agg [.lit (.string text)]))) :: r) W)
    (hg : Tryd.prog.globalNamed n = some g) (ht : (Tryd.prog.globals[g]?).map (·.type) = some 31) : ∃ a, SentAt W g a text :=
  (laid_err_gen h hg ht Tryd.underlying31 ty_err Tryd.underlying79 Tryd.underlying104 rfl rfl Tryd.underlying9 (by kernel_rfl) (by kernel_rfl)).imp fun _ h => ⟨h.1, h.2.1, h.2.2⟩
theorem size_at {W : World} {b : Nat} {arr : Array Value} {t : TypeId} {fz : Nat × Nat} (h : W.heap[b]? = some (.cells arr t fz)) : sizeAt W b = arr.size := by simp [sizeAt, h]
/-- The names of sentinels, and the variables by their numbers. -/
def errE (W : World) (eo : Nat → Nat × Nat) : Emb := ⟨fun b => if b < 400 then some (b, sizeAt W b) else if b < 401 then none else if b < 450 then some ((eo (b - 401)).1, sizeAt W (eo (b - 401)).1) else none, fun _ => none⟩
theorem errE_glob (W : World) (eo : Nat → Nat × Nat) : ∀ g, g < 400 → ∃ s, errE W eo g = some (g, s) := fun g hg => ⟨sizeAt W g, by simp [errE, hg]⟩
theorem errE_top (W : World) (eo : Nat → Nat × Nat) : ∀ b, 1000 ≤ b → errE W eo b = none := fun b hb => by simp only [errE]; rw [if_neg (by omega), if_neg (by omega), if_neg (by omega)]
theorem errE_err (W : World) (eo : Nat → Nat × Nat) (n : Nat) (h : n < 49) : errE W eo (401 + n) = some ((eo n).1, sizeAt W (eo n).1) := by
  simp only [errE]
  rw [if_neg (by omega), if_neg (by omega), if_pos (by omega)]
  simp
theorem bat_var {W : World} {g n : Nat} {text : List UInt8} {eo : Nat → Nat × Nat} (h : SentAt W g (eo n) text) (hn : n < 49) : BAt (errE W eo) ⟨.agg [.err 79 (n + 1) (eo n)], errT, false⟩ W g (sizeAt W g) := by
  obtain ⟨⟨arr, t, h1, h2⟩, _, _⟩ := h
  refine ⟨arr, t, (0, 0), h1, (size_at h1).symm, ⟨⟨fun h => (by cases h), fun _ => rfl, fun _ h => absurd h (show ¬ (2000000 : Nat) ≤ 1000000 by decide)⟩, .inl rfl⟩, ?_, fun i x hx => ?_⟩
  · have := (Array.getElem?_eq_some_iff.1 h2).1
    simp [AV.list, AV.parts, size_at h1]; omega
  · match i, hx with
    | 0, hx =>
      simp only [AV.list, AV.parts, Option.getD_some, List.getElem?_cons_zero, Option.some.injEq] at hx
      subst hx
      exact ⟨rfl, _, h2, .errS _ n _ _ (by omega) (errE_err W eo n hn)⟩
    | i + 1, hx => simp [AV.list, AV.parts] at hx
/-- What a variable's block is known by. -/
def known (W : World) (E : Emb) : List (Nat × Option ABlk) → Prop
  | [] => True
  | (_, none) :: r => known W E r
  | (b, some k) :: r => (k.own = false ∧ ∃ l s, E b = some (l, s) ∧ BAt E k W l s) ∧ known W E r
theorem known.spec {W : World} {E : Emb} : ∀ {l : List (Nat × Option ABlk)}, known W E l → ∀ b k, hget l b = some k → k.own = false ∧ ∃ q s, E b = some (q, s) ∧ BAt E k W q s := fun {l} h b k hk => by
  have hm := hget_mem hk
  clear hk
  induction l with
  | nil => cases hm
  | cons p l ih =>
    obtain ⟨c, q⟩ := p
    cases q with
    | none =>
      rcases List.mem_cons.1 hm with e | hm
      · injection e with _ e; cases e
      · exact ih h hm
    | some k' =>
      rcases List.mem_cons.1 hm with e | hm
      · injection e with e1 e2; injection e2 with e2; subst e1; subst e2; exact h.1
      · exact ih h.2 hm
theorem known_var {W : World} {g n : Nat} {text : List UInt8} {eo : Nat → Nat × Nat} (h : SentAt W g (eo n) text) (hn : n < 49) (hg : g < 400) : (⟨AV.agg [.err 79 (n + 1) (eo n)], errT, false⟩ : ABlk).own = false ∧ ∃ l s, errE W eo g = some (l, s) ∧ BAt (errE W eo) ⟨.agg [.err 79 (n + 1) (eo n)], errT, false⟩ W l s :=
  ⟨rfl, g, sizeAt W g, by simp [errE, hg], bat_var h hn⟩
end Go.Proofs.YtpmoonglbcglaaaDoor
namespace Go.Proofs.YtpmoonglbcglaaaDoor
open Go.ChangeShapes Go.WideShapes Go.ChangeAt Go.RowKit
/-- The names of sentinels, the variables by their numbers, and an argument's block. -/
def argE (W : World) (eo : Nat → Nat × Nat) (b : Nat) : Emb := (errE W eo).put 450 (b, sizeAt W b)
theorem errE_450 (W : World) (eo : Nat → Nat × Nat) : errE W eo 450 = none := by simp [errE]
theorem argE_le (W : World) (eo : Nat → Nat × Nat) (b : Nat) : (errE W eo).le (argE W eo b) := Emb.put_le (errE_450 W eo)
theorem argE_glob (W : World) (eo : Nat → Nat × Nat) (b : Nat) : ∀ g, g < 400 → ∃ s, argE W eo b g = some (g, s) := fun g hg => (errE_glob W eo g hg).imp fun _ h => (argE_le W eo b).1 _ _ h
theorem argE_top (W : World) (eo : Nat → Nat × Nat) (b : Nat) : ∀ n, 1000 ≤ n → argE W eo b n = none := fun n hn => by
  unfold argE
  rw [Emb.put_other _ _ (by omega)]
  exact errE_top W eo n hn
theorem argE_450 (W : World) (eo : Nat → Nat × Nat) (b : Nat) : argE W eo b 450 = some (b, sizeAt W b) := Emb.put_same _ _ _
theorem known.mono {W : World} {E E' : Emb} (hE : E.le E') : ∀ {l : List (Nat × Option ABlk)}, known W E l → known W E' l
  | [], _ => trivial
  | (_, none) :: r, h => known.mono (l := r) hE h
  | (_, some _) :: r, h => by
    obtain ⟨⟨h1, q, s, h2, h3⟩, h4⟩ := h
    exact ⟨⟨h1, q, s, hE.1 _ _ h2, h3.mono hE rfl⟩, known.mono (l := r) hE h4⟩
theorem any_ne : anyT ≠ errT := by decide
theorem bat_any {W : World} {E : Emb} {b : Nat} {arr : Array Value} {t : TypeId} {fz : Nat × Nat} (c : AV) (hb : W.heap[b]? = some (.cells arr t fz)) (hl : c.list.length ≤ arr.size)
    (hc : ∀ (i : Nat) x, c.list[i]? = some x → x.cell = true ∧ ∃ y, arr[i]? = some y ∧ Rel E x y) : BAt E ⟨c, anyT, false⟩ W b arr.size :=
  ⟨arr, t, fz, hb, rfl, ⟨⟨fun h => (by cases h), fun h => absurd h any_ne, fun _ _ h => absurd h (Nat.lt_irrefl _)⟩, .inr (.inr (.inr rfl))⟩, hl, hc⟩
/-- A slice's cells, from its address on; where it has room for none, any block serves. -/
theorem arg_slice {W : World} {eo : Nat → Nat × Nat} {a : Addr} {len cap z : Nat} {cs : List AV} (hlen : cs.length = len * z) (hl : len ≤ cap) (hm : cap ≤ maxLen) (hz : 0 < z)
    (hc : ∀ (j : Nat) x, cs[j]? = some x → x.cell = true ∧ ∃ y, W.cell? (a.add j) = some y ∧ ∀ E, Rel E x y) (hfirst : 0 < cap → ∃ y, W.cell? (a.add 0) = some y) (hlast : 0 < cap → ∃ y, W.cell? (a.add (cap * z - 1)) = some y)
    (hblk : ∃ (b : Nat) (arr : Array Value) (t : TypeId) (fz : Nat × Nat), W.heap[b]? = some (.cells arr t fz)) :
    ∃ b o, Rel (argE W eo b) (.sl 450 o len z) (.slice (some a) len cap) ∧ BAt (argE W eo b) ⟨.agg (List.replicate o .hole ++ cs), anyT, false⟩ W b (sizeAt W b) := by
  rcases Nat.eq_zero_or_pos cap with h0 | h0
  · subst h0
    obtain rfl : len = 0 := by omega
    have hcs : cs = [] := List.eq_nil_of_length_eq_zero (by omega)
    subst hcs
    obtain ⟨b, arr, t, fz, hb⟩ := hblk
    refine ⟨b, 0, .sl0 _ _ _ _, ?_⟩
    rw [size_at hb]
    exact bat_any (.agg []) hb (Nat.zero_le _) (fun i x hx => by simp [AV.list, AV.parts] at hx)
  · obtain ⟨y, hy⟩ := hlast h0
    have h00 := hfirst h0
    obtain ⟨b, o, sp⟩ := a
    have hcz : 0 < cap * z := Nat.mul_pos h0 hz
    have hsp : sp = none := by
      cases sp with
      | none => rfl
      | some q =>
        obtain ⟨y0, hy0⟩ := h00
        rw [show (⟨b, o, some q⟩ : Addr).add 0 = ⟨b, o, some q⟩ from rfl] at hy0
        unfold World.cell? at hy0
        split at hy0 <;> simp at hy0
    subst hsp
    have hadd : ∀ j, (⟨b, o, none⟩ : Addr).add j = ⟨b, o + j, none⟩ := fun j => by
      unfold Addr.add
      split
      · rename_i e; subst e; rfl
      · rfl
    rw [hadd] at hy
    have hcell := hy
    unfold World.cell? at hy
    split at hy
    · rename_i arr t fz hb
      rw [cell_of_row W b _ arr t fz hb] at hcell
      have hsz := (Array.getElem?_eq_some_iff.1 hcell).1
      have hb' : W.heap[b]? = some (.cells arr t fz) := hb
      have hlz : len * z ≤ cap * z := Nat.mul_le_mul_right z hl
      refine ⟨b, o, .sl _ _ _ _ _ _ _ (argE_450 W eo b) hl hm (by rw [size_at hb']; omega), ?_⟩
      rw [size_at hb']
      refine bat_any _ hb' (by show (List.replicate o AV.hole ++ cs).length ≤ _; rw [List.length_append, List.length_replicate, hlen]; omega) fun i x hx => ?_
      replace hx : (List.replicate o AV.hole ++ cs)[i]? = some x := hx
      by_cases hi : i < o
      · rw [List.getElem?_append_left (by rw [List.length_replicate]; exact hi), List.getElem?_replicate, if_pos hi] at hx
        injection hx with hx; subst hx
        exact ⟨rfl, arr[i]'(by omega), by rw [Array.getElem?_eq_getElem], .hole _⟩
      · rw [List.getElem?_append_right (by rw [List.length_replicate]; omega), List.length_replicate] at hx
        obtain ⟨h1, q, h2, h3⟩ := hc _ x hx
        rw [hadd, cell_of_row W b _ arr t fz hb', show o + (i - o) = i by omega] at h2
        exact ⟨h1, q, h2, h3 _⟩
    · cases hy
theorem arg_nil {W : World} {eo : Nat → Nat × Nat} (z : Nat) (hblk : ∃ (b : Nat) (arr : Array Value) (t : TypeId) (fz : Nat × Nat), W.heap[b]? = some (.cells arr t fz)) :
    ∃ b o, Rel (argE W eo b) (.sl 450 o 0 z) (.slice none 0 0) ∧ BAt (argE W eo b) ⟨.agg (List.replicate o .hole ++ []), anyT, false⟩ W b (sizeAt W b) := by
  obtain ⟨b, arr, t, fz, hb⟩ := hblk
  refine ⟨b, 0, .sl0 _ _ _ _, ?_⟩
  rw [size_at hb]
  exact bat_any (.agg []) hb (Nat.zero_le _) (fun i x hx => by simp [AV.list, AV.parts] at hx)
section
variable {H : Type} {enc : TypeId × Value → H} {P : Program} {W : World} {eo : Nat → Nat × Nat}
theorem blk_of {E : Emb} {b : Nat} {k : ABlk} {r : List (Nat × Option ABlk)} (h : known W E ((b, some k) :: r)) : ∃ (b : Nat) (arr : Array Value) (t : TypeId) (fz : Nat × Nat), W.heap[b]? = some (.cells arr t fz) := by
  obtain ⟨⟨_, q, s, _, arr, t, fz, hb, _⟩, _⟩ := h
  exact ⟨q, arr, t, fz, hb⟩
end
end Go.Proofs.YtpmoonglbcglaaaDoor
namespace Go.Proofs.YtpmoonglbcglaaaDoor
open Go.ChangeShapes Go.WideShapes Go.ChangeAt Go.RowKit
end Go.Proofs.YtpmoonglbcglaaaDoor
