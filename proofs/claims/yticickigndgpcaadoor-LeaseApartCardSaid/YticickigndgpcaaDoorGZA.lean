/-
  The sentinels as a world lays them.
-/
import Derived.Stop.LaidErr
import Derived.Test.YticickigndgpcaaDoorGCA
import Derived.Test.YticickigndgpcaaDoorGEA
namespace Go.Proofs.YticickigndgpcaaDoor
open Go.ChangeShapes Go.WideShapes Go.ChangeAt Go.RowKit
structure SentAt (W : World) (g : Nat) (a : Nat × Nat) (text : List UInt8) : Prop where
  var : ∃ arr t, W.heap[g]? = some (.cells arr t (0, 0)) ∧ arr[0]? = some (.iface 155 (.pointer (some ⟨a.1, a.2, none⟩)))
  blk : ∃ arr t, W.heap[a.1]? = some (.cells arr t (0, 0))
  txt : ∃ s, W.cell? ⟨a.1, a.2, none⟩ = some (.string s) ∧ s.data.toList = text
theorem star_err : "*" ++ "errors.errorString" = "*errors.errorString" := by decide
theorem ty_err (u : TypeId) (h : Tryd.prog.typeName? 3 u = some "*errors.errorString") : u = 155 :=
  typeName_ptr_named (nm := "errors.errorString") (by rw [star_err]; kernel_rfl) (by kernel_rfl) (by decide) u (by rw [star_err]; exact h)
theorem laid_err_gen {P : Program} {n nm : String} {text : List UInt8} {r : List (String × DataW Unit)} {W : World} {g : Nat} {ti tp te ts : TypeId} {ms : Array (String × TypeId)} {f : Field} (h : laidMet P ((n, .iface nm (.ptr (.agg [.lit (.string text)]))) :: r) W)
    (hg : P.globalNamed n = some g) (ht : (P.globals[g]?).map (·.type) = some ti) (hi : P.underlying ti = some (.interface ms)) (hrow : ∀ u, P.typeName? 3 u = some nm → u = tp)
    (hp : P.underlying tp = some (.pointer te)) (he : P.underlying te = some (.struct #[f])) (hft : f.type = ts) (hfo : f.offset = 0) (hs : P.underlying ts = some .string) (hc : P.cellsOf te = 1) (hcs : P.cellsOf ts = 1) :
    ∃ a : Nat × Nat, (∃ arr t, W.heap[g]? = some (.cells arr t (0, 0)) ∧ arr[0]? = some (.iface tp (.pointer (some ⟨a.1, a.2, none⟩)))) ∧ (∃ arr t, W.heap[a.1]? = some (.cells arr t (0, 0))) ∧ ∃ s, W.cell? ⟨a.1, a.2, none⟩ = some (.string s) ∧ s.data.toList = text := by
  obtain ⟨ps, ⟨g0, t0, cs0, f0, p0, q0, hg0, ht0, hv0, hd0, _, e0⟩, _, hrows⟩ := h
  obtain rfl := Option.some.inj (hg.symm.trans hg0)
  obtain rfl := Option.some.inj (ht.symm.trans ht0)
  subst e0
  obtain ⟨l0⟩ := cs0
  have ok0 : ∀ u v, l0 = [.iface u v] → Value.okWide P W .any 0 u v := fun u v e => by
    subst e
    exact (hrows g 0 (by simp [MemPlace.row])).2 u v (by simpa using World.var?_cell hg0 hv0 0)
  obtain ⟨a0, s0, rfl, hc0, hs0, hz0, rfl⟩ := errorString_of_trod hi hrow hp he hft hfo hs hc hcs hd0 ok0
  obtain ⟨l, o, sp⟩ := a0
  have hsp : sp = none := by
    cases sp with
    | none => rfl
    | some b =>
      unfold World.cell? at hc0
      split at hc0 <;> simp at hc0
  subst hsp
  obtain ⟨⟨c, t, hb⟩, _⟩ := hrows g 0 (by simp [MemPlace.row])
  obtain ⟨⟨c1, t1, hb1⟩, _⟩ := hrows l o (by simp [MemPlace.row])
  refine ⟨(l, o), ⟨c, t, hb, ?_⟩, ⟨c1, t1, hb1⟩, ⟨s0, hc0, hs0⟩⟩
  have := World.var?_cell hg0 hv0 0
  rw [cell_of_row W g 0 c t (0, 0) hb] at this
  simpa using this
theorem laid_err {n : String} {text : List UInt8} {r : List (String × DataW Unit)} {W : World} {g : Nat} (h : laidMet Tryd.prog ((n, .iface "*errors.errorString" (.ptr (.agg [.lit (.string text)]))) :: r) W)
    (hg : Tryd.prog.globalNamed n = some g) (ht : (Tryd.prog.globals[g]?).map (·.type) = some 47) : ∃ a, SentAt W g a text :=
  (laid_err_gen h hg ht Tryd.underlying47 ty_err Tryd.underlying155 Tryd.underlying180 rfl rfl Tryd.underlying9 (by kernel_rfl) (by kernel_rfl)).imp fun _ h => ⟨h.1, h.2.1, h.2.2⟩
theorem size_at {W : World} {b : Nat} {arr : Array Value} {t : TypeId} {fz : Nat × Nat} (h : W.heap[b]? = some (.cells arr t fz)) : sizeAt W b = arr.size := by simp [sizeAt, h]
def errE (W : World) (eo : Nat → Nat × Nat) : Emb := ⟨fun b => if b < 400 then some (b, sizeAt W b) else if b < 401 then none else if b < 450 then some ((eo (b - 401)).1, sizeAt W (eo (b - 401)).1) else none, fun _ => none⟩
theorem errE_glob (W : World) (eo : Nat → Nat × Nat) : ∀ g, g < 400 → ∃ s, errE W eo g = some (g, s) := fun g hg => ⟨sizeAt W g, by simp [errE, hg]⟩
theorem errE_top (W : World) (eo : Nat → Nat × Nat) : ∀ b, 1000 ≤ b → errE W eo b = none := fun b hb => by simp only [errE]; rw [if_neg (by omega), if_neg (by omega), if_neg (by omega)]
theorem errE_err (W : World) (eo : Nat → Nat × Nat) (n : Nat) (h : n < 49) : errE W eo (401 + n) = some ((eo n).1, sizeAt W (eo n).1) := by
  simp only [errE]
  rw [if_neg (by omega), if_neg (by omega), if_pos (by omega)]
  simp
theorem bat_var {W : World} {g n : Nat} {text : List UInt8} {eo : Nat → Nat × Nat} (h : SentAt W g (eo n) text) (hn : n < 49) : BAt (errE W eo) ⟨.agg [.err 155 (n + 1) (eo n)], errT, false⟩ W g (sizeAt W g) := by
  obtain ⟨⟨arr, t, h1, h2⟩, _, _⟩ := h
  refine ⟨arr, t, (0, 0), h1, (size_at h1).symm, ⟨⟨fun h => (by cases h), fun _ => rfl, fun _ h => absurd h (show ¬ (2000000 : Nat) ≤ 1000000 by decide)⟩, .inl rfl⟩, ?_, fun i x hx => ?_⟩
  · have := (Array.getElem?_eq_some_iff.1 h2).1
    simp [AV.list, AV.parts, size_at h1]; omega
  · match i, hx with
    | 0, hx =>
      simp only [AV.list, AV.parts, Option.getD_some, List.getElem?_cons_zero, Option.some.injEq] at hx
      subst hx
      exact ⟨rfl, _, h2, .errS _ n _ _ (by omega) (errE_err W eo n hn)⟩
    | i + 1, hx => simp [AV.list, AV.parts] at hx
def known (W : World) (E : Emb) : List (Nat × Option ABlk) → Prop
  | [] => True
  | (_, none) :: r => known W E r
  | (b, some k) :: r => (k.own = false ∧ ∃ l s, E b = some (l, s) ∧ BAt E k W l s) ∧ known W E r
theorem known.spec {W : World} {E : Emb} : ∀ {l : List (Nat × Option ABlk)}, known W E l → ∀ b k, hget l b = some k → k.own = false ∧ ∃ q s, E b = some (q, s) ∧ BAt E k W q s := fun {l} h b k hk => by
  have hm := hget_mem hk
  clear hk
  induction l with
  | nil => cases hm
  | cons p l ih =>
    obtain ⟨c, q⟩ := p
    cases q with
    | none =>
      rcases List.mem_cons.1 hm with e | hm
      · injection e with _ e; cases e
      · exact ih h hm
    | some k' =>
      rcases List.mem_cons.1 hm with e | hm
      · injection e with e1 e2; injection e2 with e2; subst e1; subst e2; exact h.1
      · exact ih h.2 hm
theorem known_var {W : World} {g n : Nat} {text : List UInt8} {eo : Nat → Nat × Nat} (h : SentAt W g (eo n) text) (hn : n < 49) (hg : g < 400) : (⟨AV.agg [.err 155 (n + 1) (eo n)], errT, false⟩ : ABlk).own = false ∧ ∃ l s, errE W eo g = some (l, s) ∧ BAt (errE W eo) ⟨.agg [.err 155 (n + 1) (eo n)], errT, false⟩ W l s :=
  ⟨rfl, g, sizeAt W g, by simp [errE, hg], bat_var h hn⟩
end Go.Proofs.YticickigndgpcaaDoor
