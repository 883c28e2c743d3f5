/-
  Texts of this claim.
-/
import Derived.Stop.LaidErr
import Derived.Deep.SlicePairs
import Derived.ChangeSlices
import Derived.Test.YtidjfinookikcaaDoorGQC
import Derived.Test.YtidjfinookikcaaDoorGQE
import Derived.Test.YtidjfinookikcaaDoorGQI
import Derived.Test.YtidjfinookikcaaDoorGQY
import Derived.Test.YtidjfinookikcaaDoorGQ2
namespace Go.Proofs.YtidjfinookikcaaDoor
open Go.ChangeShapes Go.WideShapes Go.ChangeAt Go.RowKit
/-- A sentinel's variable g holds a pointer to the cell at a, which holds its text. -/
structure SentAt (W : World) (g : Nat) (a : Nat × Nat) (text : List UInt8) : Prop where
  var : ∃ arr t, W.heap[g]? = some (.cells arr t (0, 0)) ∧ arr[0]? = some (.iface 131 (.pointer (some ⟨a.1, a.2, none⟩)))
  blk : ∃ arr t, W.heap[a.1]? = some (.cells arr t (0, 0))
  txt : ∃ s, W.cell? ⟨a.1, a.2, none⟩ = some (.string s) ∧ s.data.toList = text
theorem star_err : "*" ++ "errors.errorString" = "*errors.errorString" := by decide
theorem ty_err (u : TypeId) (h : Tryd.prog.typeName? 3 u = some "*errors.errorString") : u = 131 :=
  typeName_ptr_named (nm := "errors.errorString") (by rw [star_err]; kernel_rfl) (by kernel_rfl) (by decide) u (by rw [star_err]; exact h)
theorem laid_err_gen {P : Program} {n nm : String} {text : List UInt8} {r : List (String × DataW Unit)} {W : World} {g : Nat} {ti tp te ts : TypeId} {ms : Array (String × TypeId)} {f : Field} (h : laidMet P ((n, .iface nm (.ptr (.agg [.lit (.string text)]))) :: r) W)
    (hg : P.globalNamed n = some g) (ht : (P.globals[g]?).map (·.type) = some ti) (hi : P.underlying ti = some (.interface ms)) (hrow : ∀ u, P.typeName? 3 u = some nm → u = tp)
    (hp : P.underlying tp = some (.pointer te)) (he : P.underlying te = some (.struct #[f])) (hft : f.type = ts) (hfo : f.offset = 0) (hs : P.underlying ts = some .string) (hc : P.cellsOf te = 1) (hcs : P.cellsOf ts = 1) :
    ∃ a : Nat × Nat, (∃ arr t, W.heap[g]? = some (.cells arr t (0, 0)) ∧ arr[0]? = some (.iface tp (.pointer (some ⟨a.1, a.2, none⟩)))) ∧ (∃ arr t, W.heap[a.1]? = some (.cells arr t (0, 0))) ∧ ∃ s, W.cell? ⟨a.1, a.2, none⟩ = some (.string s) ∧ s.data.toList = text := by
  obtain ⟨ps, ⟨g0, t0, cs0, f0, p0, q0, hg0, ht0, hv0, hd0, _, e0⟩, _, hrows⟩ := h
  obtain rfl := Option.some.inj (hg.symm.trans hg0)
  obtain rfl := Option.some.inj (ht.symm.trans ht0)
  subst e0
  obtain ⟨l0⟩ := cs0
  have ok0 : ∀ u v, l0 = [.iface u v] → Value.okWide P W .any 0 u v := fun u v e => by
    subst e
    exact (hrows g 0 (by simp [MemPlace.row])).2 u v (by simpa using World.var?_cell hg0 hv0 0)
  obtain ⟨a0, s0, rfl, hc0, hs0, hz0, rfl⟩ := errorString_of_trod hi hrow hp he hft hfo hs hc hcs hd0 ok0
  obtain ⟨l, o, sp⟩ := a0
  have hsp : sp = none := by
    cases sp with
    | none => rfl
    | some b =>
      unfold World.cell? at hc0
      split at hc0 <;> simp at hc0
  subst hsp
  obtain ⟨⟨c, t, hb⟩, _⟩ := hrows g 0 (by simp [MemPlace.row])
  obtain ⟨⟨c1, t1, hb1⟩, _⟩ := hrows l o (by simp [MemPlace.row])
  refine ⟨(l, o), ⟨c, t, hb, ?_⟩, ⟨c1, t1, hb1⟩, ⟨s0, hc0, hs0⟩⟩
  have := World.var?_cell hg0 hv0 0
  rw [cell_of_row W g 0 c t (0, 0) hb] at this
  simpa using this
theorem laid_err {n : String} {text : List UInt8} {r : List (String × DataW Unit)} {W : World} {g : Nat} (h : laidMet Tryd.prog ((n, .iface "*errors.errorString" (.ptr (.agg [.lit (.string text)]))) :: r) W)
    (hg : Tryd.prog.globalNamed n = some g) (ht : (Tryd.prog.globals[g]?).map (·.type) = some 33) : ∃ a, SentAt W g a text :=
  (laid_err_gen h hg ht Tryd.underlying33 ty_err Tryd.underlying131 Tryd.underlying145 rfl rfl Tryd.underlying9 (by kernel_rfl) (by kernel_rfl)).imp fun _ h => ⟨h.1, h.2.1, h.2.2⟩
theorem size_at {W : World} {b : Nat} {arr : Array Value} {t : TypeId} {fz : Nat × Nat} (h : W.heap[b]? = some (.cells arr t fz)) : sizeAt W b = arr.size := by simp [sizeAt, h]
/-- The names of sentinels, and the variables by their numbers. -/
def errE (W : World) (eo : Nat → Nat × Nat) : Emb := ⟨fun b => if b < 400 then some (b, sizeAt W b) else if b < 401 then none else if b < 450 then some ((eo (b - 401)).1, sizeAt W (eo (b - 401)).1) else none, fun _ => none⟩
theorem errE_glob (W : World) (eo : Nat → Nat × Nat) : ∀ g, g < 400 → ∃ s, errE W eo g = some (g, s) := fun g hg => ⟨sizeAt W g, by simp [errE, hg]⟩
theorem errE_top (W : World) (eo : Nat → Nat × Nat) : ∀ b, 1000 ≤ b → errE W eo b = none := fun b hb => by simp only [errE]; rw [if_neg (by omega), if_neg (by omega), if_neg (by omega)]
theorem errE_err (W : World) (eo : Nat → Nat × Nat) (n : Nat) (h : n < 49) : errE W eo (401 + n) = some ((eo n).1, sizeAt W (eo n).1) := by
  simp only [errE]
  rw [if_neg (by omega), if_neg (by omega), if_pos (by omega)]
  simp
theorem bat_var {W : World} {g n : Nat} {text : List UInt8} {eo : Nat → Nat × Nat} (h : SentAt W g (eo n) text) (hn : n < 49) : BAt (errE W eo) ⟨.agg [.err 131 (n + 1) (eo n)], errT, false⟩ W g (sizeAt W g) := by
  obtain ⟨⟨arr, t, h1, h2⟩, _, _⟩ := h
  refine ⟨arr, t, (0, 0), h1, (size_at h1).symm, ⟨⟨fun h => (by cases h), fun _ => rfl, fun _ h => absurd h (show ¬ (2000000 : Nat) ≤ 1000000 by decide)⟩, .inl rfl⟩, ?_, fun i x hx => ?_⟩
  · have := (Array.getElem?_eq_some_iff.1 h2).1
    simp [AV.list, AV.parts, size_at h1]; omega
  · match i, hx with
    | 0, hx =>
      simp only [AV.list, AV.parts, Option.getD_some, List.getElem?_cons_zero, Option.some.injEq] at hx
      subst hx
      exact ⟨rfl, _, h2, .errS _ n _ _ (by omega) (errE_err W eo n hn)⟩
    | i + 1, hx => simp [AV.list, AV.parts] at hx
/-- What a variable's block is known by. -/
def known (W : World) (E : Emb) : List (Nat × Option ABlk) → Prop
  | [] => True
  | (_, none) :: r => known W E r
  | (b, some k) :: r => (k.own = false ∧ ∃ l s, E b = some (l, s) ∧ BAt E k W l s) ∧ known W E r
theorem known.spec {W : World} {E : Emb} : ∀ {l : List (Nat × Option ABlk)}, known W E l → ∀ b k, hget l b = some k → k.own = false ∧ ∃ q s, E b = some (q, s) ∧ BAt E k W q s := fun {l} h b k hk => by
  have hm := hget_mem hk
  clear hk
  induction l with
  | nil => cases hm
  | cons p l ih =>
    obtain ⟨c, q⟩ := p
    cases q with
    | none =>
      rcases List.mem_cons.1 hm with e | hm
      · injection e with _ e; cases e
      · exact ih h hm
    | some k' =>
      rcases List.mem_cons.1 hm with e | hm
      · injection e with e1 e2; injection e2 with e2; subst e1; subst e2; exact h.1
      · exact ih h.2 hm
theorem known_var {W : World} {g n : Nat} {text : List UInt8} {eo : Nat → Nat × Nat} (h : SentAt W g (eo n) text) (hn : n < 49) (hg : g < 400) : (⟨AV.agg [.err 131 (n + 1) (eo n)], errT, false⟩ : ABlk).own = false ∧ ∃ l s, errE W eo g = some (l, s) ∧ BAt (errE W eo) ⟨.agg [.err 131 (n + 1) (eo n)], errT, false⟩ W l s :=
  ⟨rfl, g, sizeAt W g, by simp [errE, hg], bat_var h hn⟩
end Go.Proofs.YtidjfinookikcaaDoor
namespace Go.Proofs.YtidjfinookikcaaDoor
open Go.ChangeShapes Go.WideShapes Go.ChangeAt Go.RowKit
def errTexts : List (List UInt8) := [[97, 110, 32, 97, 114, 103, 117, 109, 101, 110, 116, 32, 116, 104, 97, 116, 32, 109, 97, 121, 32, 110, 111, 116, 32, 98, 101], [98, 121, 116, 101, 115, 32, 97, 114, 101, 32, 119, 97, 110, 116, 105, 110, 103], [98, 121, 116, 101, 115, 32, 116, 104, 97, 116, 32, 115, 97, 121, 32, 110, 111, 116, 104, 105, 110, 103], [109, 111, 114, 101, 32, 116, 104, 97, 110, 32, 116, 104, 101, 114, 101, 32, 109, 97, 121, 32, 98, 101], [97, 32, 115, 117, 109, 32, 116, 104, 97, 116, 32, 100, 111, 101, 115, 110, 39, 116, 32, 102, 105, 116], [110, 111, 116, 32, 110, 111, 119], [116, 104, 101, 114, 101, 32, 105, 115, 32, 110, 111, 32, 114, 111, 111, 109], [116, 104, 101, 114, 101, 32, 105, 115, 32, 110, 111, 110, 101], [105, 116, 32, 105, 115, 32, 116, 104, 101, 114, 101, 32, 97, 108, 114, 101, 97, 100, 121], [97, 32, 107, 101, 121, 32, 116, 104, 97, 116, 32, 109, 97, 121, 32, 110, 111, 116, 32, 98, 101], [97, 32, 115, 105, 103, 110, 97, 116, 117, 114, 101, 32, 116, 104, 97, 116, 32, 100, 111, 101, 115, 110, 39, 116, 32, 102, 105, 116], [97, 110, 111, 116, 104, 101, 114, 32, 118, 101, 114, 115, 105, 111, 110], [110, 111, 116, 104, 105, 110, 103, 32, 105, 110, 32, 99, 111, 109, 109, 111, 110], [97, 110, 111, 116, 104, 101, 114, 32, 104, 111, 115, 116, 39, 115, 32, 107, 101, 121], [105, 116, 32, 109, 97, 121, 32, 110, 111, 116, 32, 99, 111, 109, 101, 32, 105, 110], [109, 111, 114, 101, 32, 116, 104, 97, 110, 32, 105, 116, 115, 32, 115, 104, 97, 114, 101], [97, 32, 110, 97, 109, 101, 32, 116, 104, 97, 116, 32, 109, 97, 121, 32, 110, 111, 116, 32, 98, 101], [105, 116, 32, 105, 115, 32, 103, 111, 110, 101], [98, 101, 121, 111, 110, 100, 32, 116, 104, 101, 32, 119, 105, 110, 100, 111, 119], [116, 104, 101, 114, 101, 32, 105, 115, 32, 110, 111, 32, 115, 117, 99, 104, 32, 107, 105, 110, 100]]
theorem texts_ne : ∀ i, i < 20 → ∀ j, j < 20 → errTexts.getD i [] = errTexts.getD j [] → i = j := by decide +kernel
theorem known_blk {W : World} {g n : Nat} {text : List UInt8} {eo : Nat → Nat × Nat} (h : SentAt W g (eo n) text) (hn : n < 49) : (⟨AV.agg [], errT, false⟩ : ABlk).own = false ∧ ∃ l s, errE W eo (401 + n) = some (l, s) ∧ BAt (errE W eo) ⟨.agg [], errT, false⟩ W l s := by
  obtain ⟨_, ⟨arr, t, h1⟩, _⟩ := h
  refine ⟨rfl, _, _, errE_err W eo n hn, arr, t, (0, 0), h1, (size_at h1).symm, ⟨⟨fun h => (by cases h), fun _ => rfl, fun _ h => absurd h (show ¬ (2000000 : Nat) ≤ 1000000 by decide)⟩, .inl rfl⟩, ?_, fun i x hx => ?_⟩
  · simp [AV.list, AV.parts]
  · simp [AV.list, AV.parts] at hx
theorem known_app {W : World} {E : Emb} : ∀ {a b : List (Nat × Option ABlk)}, known W E a → known W E b → known W E (a ++ b)
  | [], _, _, h => h
  | (_, none) :: r, _, h, k => known_app (a := r) h k
  | (_, some _) :: r, _, h, k => ⟨h.1, known_app (a := r) h.2 k⟩
end Go.Proofs.YtidjfinookikcaaDoor
namespace Go.Proofs.YtidjfinookikcaaDoor
open Go.ChangeShapes Go.WideShapes Go.RowKit
theorem bat_ints_any {E : Emb} {w : World} {g : Nat} {l : List Int} (h0 : 0 < l.length) (h : ∀ i, i < l.length → w.cell? ⟨g, i, none⟩ = some (.int .i64 (l.getD i 0))) : BAt E ⟨.aggI l, anyT, false⟩ w g (sizeAt w g) := by
  have hc := h 0 h0
  unfold World.cell? at hc
  split at hc
  · rename_i arr e fz hb
    refine ⟨arr, e, fz, hb, by simp [sizeAt, hb], ⟨⟨fun h => (by cases h), fun h => absurd h (show anyT ≠ errT by decide), fun _ _ h => absurd h (Nat.lt_irrefl _)⟩, .inr (.inr (.inr rfl))⟩, ?_, fun i x hx => ?_⟩
    · have := h (l.length - 1) (by omega)
      rw [cell_of_row w g _ arr e fz hb] at this
      have := (Array.getElem?_eq_some_iff.1 this).1
      simp [AV.list, AV.parts, sizeAt, hb]; omega
    · obtain ⟨y, hy, rfl⟩ := get_map_some (l := l) hx
      have hi := (List.getElem?_eq_some_iff.1 hy).1
      have := h i hi
      rw [cell_of_row w g _ arr e fz hb] at this
      refine ⟨rfl, .int .i64 y, ?_, .i64 y⟩
      rw [this]
      simp [List.getD_eq_getElem?_getD, hy]
  · cases hc
theorem quarters_any {E : Emb} {w : World} (hQ : QAt w) : BAt E ⟨.aggI qsTab, anyT, false⟩ w 3 (sizeAt w 3) := by
  refine bat_ints_any (l := qsTab) (by decide) fun i hi => ?_
  have hi' : i < 32 := by simpa [qsTab] using hi
  have h1 := hQ (i / 4) (i % 4) (by omega) (by omega)
  rw [show 4 * (i / 4) + i % 4 = i by omega] at h1
  rw [h1]
  have h2 : qsTab[i]? = some (qAt (i / 4) (i % 4) : Int) := by simp [qsTab, hi']
  rw [List.getD_eq_getElem?_getD, h2]; rfl
end Go.Proofs.YtidjfinookikcaaDoor
namespace Go.Proofs.YtidjfinookikcaaDoor
open Go.ChangeShapes Go.WideShapes Go.ChangeAt Go.RowKit
/-- The names of sentinels, the variables by their numbers, and an argument's block. -/
def argE (W : World) (eo : Nat → Nat × Nat) (b : Nat) : Emb := (errE W eo).put 450 (b, sizeAt W b)
theorem errE_450 (W : World) (eo : Nat → Nat × Nat) : errE W eo 450 = none := by simp [errE]
theorem argE_le (W : World) (eo : Nat → Nat × Nat) (b : Nat) : (errE W eo).le (argE W eo b) := Emb.put_le (errE_450 W eo)
theorem argE_glob (W : World) (eo : Nat → Nat × Nat) (b : Nat) : ∀ g, g < 400 → ∃ s, argE W eo b g = some (g, s) := fun g hg => (errE_glob W eo g hg).imp fun _ h => (argE_le W eo b).1 _ _ h
theorem argE_top (W : World) (eo : Nat → Nat × Nat) (b : Nat) : ∀ n, 1000 ≤ n → argE W eo b n = none := fun n hn => by
  unfold argE
  rw [Emb.put_other _ _ (by omega)]
  exact errE_top W eo n hn
theorem argE_450 (W : World) (eo : Nat → Nat × Nat) (b : Nat) : argE W eo b 450 = some (b, sizeAt W b) := Emb.put_same _ _ _
theorem known.mono {W : World} {E E' : Emb} (hE : E.le E') : ∀ {l : List (Nat × Option ABlk)}, known W E l → known W E' l
  | [], _ => trivial
  | (_, none) :: r, h => known.mono (l := r) hE h
  | (_, some _) :: r, h => by
    obtain ⟨⟨h1, q, s, h2, h3⟩, h4⟩ := h
    exact ⟨⟨h1, q, s, hE.1 _ _ h2, h3.mono hE rfl⟩, known.mono (l := r) hE h4⟩
theorem any_ne : anyT ≠ errT := by decide
theorem bat_any {W : World} {E : Emb} {b : Nat} {arr : Array Value} {t : TypeId} {fz : Nat × Nat} (c : AV) (hb : W.heap[b]? = some (.cells arr t fz)) (hl : c.list.length ≤ arr.size)
    (hc : ∀ (i : Nat) x, c.list[i]? = some x → x.cell = true ∧ ∃ y, arr[i]? = some y ∧ Rel E x y) : BAt E ⟨c, anyT, false⟩ W b arr.size :=
  ⟨arr, t, fz, hb, rfl, ⟨⟨fun h => (by cases h), fun h => absurd h any_ne, fun _ _ h => absurd h (Nat.lt_irrefl _)⟩, .inr (.inr (.inr rfl))⟩, hl, hc⟩
/-- A slice's cells, from its address on; where it has room for none, any block serves. -/
theorem arg_slice {W : World} {eo : Nat → Nat × Nat} {a : Addr} {len cap z : Nat} {cs : List AV} (hlen : cs.length = len * z) (hl : len ≤ cap) (hm : cap ≤ maxLen) (hz : 0 < z)
    (hc : ∀ (j : Nat) x, cs[j]? = some x → x.cell = true ∧ ∃ y, W.cell? (a.add j) = some y ∧ ∀ E, Rel E x y) (hfirst : 0 < cap → ∃ y, W.cell? (a.add 0) = some y) (hlast : 0 < cap → ∃ y, W.cell? (a.add (cap * z - 1)) = some y)
    (hblk : ∃ (b : Nat) (arr : Array Value) (t : TypeId) (fz : Nat × Nat), W.heap[b]? = some (.cells arr t fz)) :
    ∃ b o, Rel (argE W eo b) (.sl 450 o len z) (.slice (some a) len cap) ∧ BAt (argE W eo b) ⟨.agg (List.replicate o .hole ++ cs), anyT, false⟩ W b (sizeAt W b) := by
  rcases Nat.eq_zero_or_pos cap with h0 | h0
  · subst h0
    obtain rfl : len = 0 := by omega
    have hcs : cs = [] := List.eq_nil_of_length_eq_zero (by omega)
    subst hcs
    obtain ⟨b, arr, t, fz, hb⟩ := hblk
    refine ⟨b, 0, .sl0 _ _ _ _, ?_⟩
    rw [size_at hb]
    exact bat_any (.agg []) hb (Nat.zero_le _) (fun i x hx => by simp [AV.list, AV.parts] at hx)
  · obtain ⟨y, hy⟩ := hlast h0
    have h00 := hfirst h0
    obtain ⟨b, o, sp⟩ := a
    have hcz : 0 < cap * z := Nat.mul_pos h0 hz
    have hsp : sp = none := by
      cases sp with
      | none => rfl
      | some q =>
        obtain ⟨y0, hy0⟩ := h00
        rw [show (⟨b, o, some q⟩ : Addr).add 0 = ⟨b, o, some q⟩ from rfl] at hy0
        unfold World.cell? at hy0
        split at hy0 <;> simp at hy0
    subst hsp
    have hadd : ∀ j, (⟨b, o, none⟩ : Addr).add j = ⟨b, o + j, none⟩ := fun j => by
      unfold Addr.add
      split
      · rename_i e; subst e; rfl
      · rfl
    rw [hadd] at hy
    have hcell := hy
    unfold World.cell? at hy
    split at hy
    · rename_i arr t fz hb
      rw [cell_of_row W b _ arr t fz hb] at hcell
      have hsz := (Array.getElem?_eq_some_iff.1 hcell).1
      have hb' : W.heap[b]? = some (.cells arr t fz) := hb
      have hlz : len * z ≤ cap * z := Nat.mul_le_mul_right z hl
      refine ⟨b, o, .sl _ _ _ _ _ _ _ (argE_450 W eo b) hl hm (by rw [size_at hb']; omega), ?_⟩
      rw [size_at hb']
      refine bat_any _ hb' (by show (List.replicate o AV.hole ++ cs).length ≤ _; rw [List.length_append, List.length_replicate, hlen]; omega) fun i x hx => ?_
      replace hx : (List.replicate o AV.hole ++ cs)[i]? = some x := hx
      by_cases hi : i < o
      · rw [List.getElem?_append_left (by rw [List.length_replicate]; exact hi), List.getElem?_replicate, if_pos hi] at hx
        injection hx with hx; subst hx
        exact ⟨rfl, arr[i]'(by omega), by rw [Array.getElem?_eq_getElem], .hole _⟩
      · rw [List.getElem?_append_right (by rw [List.length_replicate]; omega), List.length_replicate] at hx
        obtain ⟨h1, q, h2, h3⟩ := hc _ x hx
        rw [hadd, cell_of_row W b _ arr t fz hb', show o + (i - o) = i by omega] at h2
        exact ⟨h1, q, h2, h3 _⟩
    · cases hy
theorem arg_nil {W : World} {eo : Nat → Nat × Nat} (z : Nat) (hblk : ∃ (b : Nat) (arr : Array Value) (t : TypeId) (fz : Nat × Nat), W.heap[b]? = some (.cells arr t fz)) :
    ∃ b o, Rel (argE W eo b) (.sl 450 o 0 z) (.slice none 0 0) ∧ BAt (argE W eo b) ⟨.agg (List.replicate o .hole ++ []), anyT, false⟩ W b (sizeAt W b) := by
  obtain ⟨b, arr, t, fz, hb⟩ := hblk
  refine ⟨b, 0, .sl0 _ _ _ _, ?_⟩
  rw [size_at hb]
  exact bat_any (.agg []) hb (Nat.zero_le _) (fun i x hx => by simp [AV.list, AV.parts] at hx)
section
variable {H : Type} {enc : TypeId × Value → H} {P : Program} {W : World} {eo : Nat → Nat × Nat}
/-- A slice of integers. -/
theorem ints_arg {t e : TypeId} {v : Value} {d : DataW H} {ps : List MemPlace} (ht : P.underlying t = some (.slice e)) (he : P.underlying e = some (.int .i64)) (hc : P.cellsOf e = 1) {b0 : Nat} (hv : Value.okWide P W .any b0 t v)
    (h : DataW.Trod enc P W 0 (fun _ => true) true t v d ps) (hblk : ∃ (b : Nat) (arr : Array Value) (t : TypeId) (fz : Nat × Nat), W.heap[b]? = some (.cells arr t fz)) :
    ∃ (l : List Int) (b o : Nat), l.length ≤ maxLen ∧ Rel (argE W eo b) (.sl 450 o l.length 1) v ∧ BAt (argE W eo b) ⟨.agg (List.replicate o .hole ++ l.map .i64), anyT, false⟩ W b (sizeAt W b) := by
  obtain ⟨sa, sl, sc, rfl⟩ := okWide_slice ht hv
  obtain ⟨fuel, hf⟩ := h
  rcases open_ints ht he hc hf with ⟨h1, _⟩ | ⟨a, len, cap, zs, h1, _, hl, hm, hz, _, hcell, _⟩
  · simp only [Value.cells, List.cons.injEq, Value.slice.injEq, and_true] at h1
    obtain ⟨rfl, rfl, rfl⟩ := h1
    obtain ⟨b, o, h2, h3⟩ := arg_nil (W := W) (eo := eo) 1 hblk
    exact ⟨[], b, o, Nat.zero_le _, h2, h3⟩
  · simp only [Value.cells, List.cons.injEq, Value.slice.injEq, and_true] at h1
    obtain ⟨rfl, rfl, rfl⟩ := h1
    simp only [if_true] at hz
    have hlen : (zs.take sl).length = sl := by rw [List.length_take]; omega
    obtain ⟨b, o, h2, h3⟩ := arg_slice (W := W) (eo := eo) (a := a) (len := sl) (cap := sc) (z := 1) (cs := (zs.take sl).map .i64) (by rw [List.length_map, hlen, Nat.mul_one]) hl hm (by decide) (fun j x hx => by
      obtain ⟨y, hy, rfl⟩ := get_map_some hx
      have hj := (List.getElem?_eq_some_iff.1 hy).1
      rw [hlen] at hj
      have := hcell j (by omega)
      rw [List.getElem?_take, if_pos hj] at hy
      rw [List.getD_eq_getElem?_getD, hy] at this
      exact ⟨rfl, _, this, fun E => .i64 _⟩) (fun h0 => ⟨_, hcell 0 (by omega)⟩) (fun h0 => ⟨_, by have := hcell (sc - 1) (by omega); rwa [Nat.mul_one]⟩) hblk
    exact ⟨zs.take sl, b, o, by omega, by rw [hlen]; exact h2, h3⟩
theorem pair_at : ∀ (l : List (Int × Int)) (i : Nat) (x : AV), (l.flatMap fun p => [AV.i64 p.1, AV.i64 p.2])[i]? = some x →
    ∃ j, j < l.length ∧ ((i = j * 2 ∧ x = .i64 (l.getD j (0, 0)).1) ∨ (i = j * 2 + 1 ∧ x = .i64 (l.getD j (0, 0)).2))
  | [], i, x, h => by simp at h
  | p :: l, 0, x, h => ⟨0, by simp, .inl ⟨rfl, by
      have : AV.i64 p.1 = x := Option.some.inj h
      exact this.symm⟩⟩
  | p :: l, 1, x, h => ⟨0, by simp, .inr ⟨rfl, by
      have : AV.i64 p.2 = x := Option.some.inj h
      exact this.symm⟩⟩
  | p :: l, i + 2, x, h => by
    obtain ⟨j, h1, h2⟩ := pair_at l i x h
    refine ⟨j + 1, by simpa using h1, ?_⟩
    rcases h2 with ⟨e, e2⟩ | ⟨e, e2⟩
    · exact .inl ⟨by omega, e2⟩
    · exact .inr ⟨by omega, e2⟩
theorem pair_len (l : List (Int × Int)) : (l.flatMap fun p => [AV.i64 p.1, AV.i64 p.2]).length = l.length * 2 := by
  induction l with
  | nil => rfl
  | cons p l ih => simp only [List.flatMap_cons, List.length_append, List.length_cons, List.length_nil, ih]; omega
/-- A slice of structs of two integers. -/
theorem pairs_arg {t e q : TypeId} {f0 f1 : Field} {v : Value} {d : DataW H} {ps : List MemPlace} (ht : P.underlying t = some (.slice e)) (he : P.underlying e = some (.struct #[f0, f1])) (ce : P.cellsOf e = 2)
    (o0 : f0.offset = 0) (o1 : f1.offset = 1) (t0 : f0.type = q) (t1 : f1.type = q) (hq : P.underlying q = some (.int .i64)) (cq : P.cellsOf q = 1) {b0 : Nat} (hv : Value.okWide P W .any b0 t v)
    (h : DataW.Trod enc P W 0 (fun _ => true) true t v d ps) (hblk : ∃ (b : Nat) (arr : Array Value) (t : TypeId) (fz : Nat × Nat), W.heap[b]? = some (.cells arr t fz)) :
    ∃ (l : List (Int × Int)) (b o : Nat), l.length ≤ maxLen ∧ Rel (argE W eo b) (.sl 450 o l.length 2) v ∧ BAt (argE W eo b) ⟨.agg (List.replicate o .hole ++ l.flatMap fun p => [.i64 p.1, .i64 p.2]), anyT, false⟩ W b (sizeAt W b) := by
  obtain ⟨sa, sl, sc, rfl⟩ := okWide_slice ht hv
  obtain ⟨fuel, hf⟩ := h
  subst t0
  rcases Go.Deep.open_slice_pairs ht he ce o0 o1 cq (by rw [t1]; exact cq) hf with ⟨h1, _⟩ | ⟨a, len, cap, m, n, V0, V1, D0, D1, P0, P1, h1, _, hl, hm, hmm, _, hcell⟩
  · simp only [Value.cells, List.cons.injEq, Value.slice.injEq, and_true] at h1
    obtain ⟨rfl, rfl, rfl⟩ := h1
    obtain ⟨b, o, h2, h3⟩ := arg_nil (W := W) (eo := eo) 2 hblk
    exact ⟨[], b, o, Nat.zero_le _, h2, h3⟩
  · simp only [Value.cells, List.cons.injEq, Value.slice.injEq, and_true] at h1
    obtain ⟨rfl, rfl, rfl⟩ := h1
    simp only [if_true] at hmm
    subst hmm
    rw [t1] at hcell
    obtain ⟨z, hz⟩ := Go.Deep.choose_lt (α := Int × Int) (n := m) (p := fun i p => W.cell? (a.add (i * 2)) = some (.int .i64 p.1) ∧ W.cell? (a.add (i * 2 + 1)) = some (.int .i64 p.2)) (fun i hi => by
      obtain ⟨c0, c1, r0, r1⟩ := hcell i hi
      obtain ⟨x, k0, _⟩ := DataW.trod_int hq r0
      obtain ⟨y, k1, _⟩ := DataW.trod_int hq r1
      simp only [List.cons.injEq, and_true] at k0 k1
      exact ⟨(x, y), by rw [c0, k0], by rw [c1, k1]⟩)
    have hlen : ((List.range sl).map z).length = sl := by simp
    obtain ⟨b, o, h2, h3⟩ := arg_slice (W := W) (eo := eo) (a := a) (len := sl) (cap := m) (z := 2) (cs := ((List.range sl).map z).flatMap fun p => [.i64 p.1, .i64 p.2]) (by rw [pair_len, hlen]) hl hm (by decide) (fun j x hx => by
      obtain ⟨k, hk, hh⟩ := pair_at _ j x hx
      rw [hlen] at hk
      have hg : ((List.range sl).map z).getD k (0, 0) = z k := by simp [List.getD_eq_getElem?_getD, hk]
      rw [hg] at hh
      rcases hh with ⟨rfl, rfl⟩ | ⟨rfl, rfl⟩
      · exact ⟨rfl, _, (hz k (by omega)).1, fun E => .i64 _⟩
      · exact ⟨rfl, _, (hz k (by omega)).2, fun E => .i64 _⟩) (fun h0 => ⟨_, (hz 0 (by omega)).1⟩) (fun h0 => ⟨_, by have := (hz (m - 1) (by omega)).2; rwa [show (m - 1) * 2 + 1 = m * 2 - 1 by omega] at this⟩) hblk
    exact ⟨(List.range sl).map z, b, o, by omega, by rw [hlen]; exact h2, h3⟩
theorem blk_of {E : Emb} {b : Nat} {k : ABlk} {r : List (Nat × Option ABlk)} (h : known W E ((b, some k) :: r)) : ∃ (b : Nat) (arr : Array Value) (t : TypeId) (fz : Nat × Nat), W.heap[b]? = some (.cells arr t fz) := by
  obtain ⟨⟨_, q, s, _, arr, t, fz, hb, _⟩, _⟩ := h
  exact ⟨q, arr, t, fz, hb⟩
end
end Go.Proofs.YtidjfinookikcaaDoor
namespace Go.Proofs.YtidjfinookikcaaDoor
open Go.ChangeShapes Go.WideShapes Go.ChangeAt Go.RowKit
section
variable {H : Type} {enc : TypeId × Value → H} {P : Program} {W : World} {eo : Nat → Nat × Nat}
theorem slice_arg {α : Type} [Inhabited α] (f : α → List AV) {z : Nat} (hf : ∀ a, (f a).length = z) (hz0 : 0 < z) {t e : TypeId} {v : Value} {d : DataW H} {ps : List MemPlace} (ht : P.underlying t = some (.slice e)) (ce : P.cellsOf e = z) {b0 : Nat} (hv : Value.okWide P W .any b0 t v)
    (dec : ∀ n cs' y, cs'.length = z → DataW.trod enc P W 0 (fun _ => true) true n e cs' = some y → ∃ a : α, ∀ (k : Nat) x, (f a)[k]? = some x → x.cell = true ∧ ∃ u, cs'[k]? = some u ∧ ∀ E, Rel E x u)
    (h : DataW.Trod enc P W 0 (fun _ => true) true t v d ps) (hblk : ∃ (b : Nat) (arr : Array Value) (t : TypeId) (fz : Nat × Nat), W.heap[b]? = some (.cells arr t fz)) :
    ∃ (l : List α) (b o : Nat), l.length ≤ maxLen ∧ Rel (argE W eo b) (.sl 450 o l.length z) v ∧ BAt (argE W eo b) ⟨.agg (offC o (rowsC f l)), anyT, false⟩ W b (sizeAt W b) := by
  obtain ⟨sa, sl, sc, rfl⟩ := okWide_slice ht hv
  obtain ⟨fuel, hfu⟩ := h
  rcases Go.Deep.open_slice ht hfu with ⟨h1, _⟩ | ⟨a, len, cap, m, n, D, Pl, h1, _, hl, hm, hmm, _, hcell⟩
  · simp only [Value.cells, List.cons.injEq, Value.slice.injEq, and_true] at h1
    obtain ⟨rfl, rfl, rfl⟩ := h1
    obtain ⟨b, o, h2, h3⟩ := arg_nil (W := W) (eo := eo) z hblk
    exact ⟨[], b, o, Nat.zero_le _, h2, h3⟩
  · simp only [Value.cells, List.cons.injEq, Value.slice.injEq, and_true] at h1
    obtain ⟨rfl, rfl, rfl⟩ := h1
    simp only [if_true] at hmm
    subst hmm
    rw [ce] at hcell
    have each : ∀ i, i < m → ∃ q : α, ∀ (k : Nat) x, (f q)[k]? = some x → x.cell = true ∧ ∃ u, W.cell? (a.add (i * z + k)) = some u ∧ ∀ E, Rel E x u := fun i hi => by
      obtain ⟨cs', c1, c2⟩ := hcell i hi
      obtain ⟨_, c3, c4⟩ := World.cells?_some c1
      obtain ⟨q, hq⟩ := dec n cs' _ c3 c2
      refine ⟨q, fun k x hx => ?_⟩
      obtain ⟨g1, u, g2, g3⟩ := hq k x hx
      have hk : k < z := by rw [← hf q]; exact (List.getElem?_eq_some_iff.1 hx).1
      have := c4 k hk
      rw [Go.Deep.add_add] at this
      exact ⟨g1, u, this.trans g2, g3⟩
    obtain ⟨q, hq⟩ := Go.Deep.choose_lt each
    have hlen : ((List.range sl).map q).length = sl := by simp
    have first : ∀ i, i < m → ∀ k, k < z → ∃ y, W.cell? (a.add (i * z + k)) = some y := fun i hi k hk => by
      have hk2 : k < (f (q i)).length := by rw [hf]; exact hk
      obtain ⟨_, u, hu, _⟩ := hq i hi k _ (List.getElem?_eq_getElem hk2)
      exact ⟨u, hu⟩
    obtain ⟨b, o, h2, h3⟩ := arg_slice (W := W) (eo := eo) (a := a) (len := sl) (cap := m) (z := z) (cs := rowsC f ((List.range sl).map q)) (by rw [rowsC_len hf, hlen]) hl hm hz0 (fun j x hx => by
      have hj : j < sl * z := by have := (List.getElem?_eq_some_iff.1 hx).1; rwa [rowsC_len hf, hlen] at this
      have hi : j / z < sl := Nat.div_lt_of_lt_mul (by rwa [Nat.mul_comm] at hj)
      have hk : j % z < z := Nat.mod_lt _ hz0
      have hjz : j / z * z + j % z = j := by rw [Nat.mul_comm]; exact Nat.div_add_mod j z
      have hi2 : ((List.range sl).map q)[j / z]? = some (q (j / z)) := by simp [hi]
      have := rowsC_nth hf hi2 hk
      rw [hjz, hx] at this
      obtain ⟨g1, u, g2, g3⟩ := hq (j / z) (by omega) (j % z) x this.symm
      rw [hjz] at g2
      exact ⟨g1, u, g2, g3⟩) (fun h0 => by have := first 0 h0 0 hz0; rwa [Nat.zero_mul] at this) (fun h0 => by
        have := first (m - 1) (by omega) (z - 1) (by omega)
        have e : (m - 1) * z + (z - 1) = m * z - 1 := by
          have : m * z = (m - 1) * z + z := by rw [← Nat.succ_mul]; congr 1; omega
          omega
        rwa [e] at this) hblk
    exact ⟨(List.range sl).map q, b, o, by omega, by rw [hlen]; exact h2, h3⟩
theorem u8_lit {n : Int} (h : (Lit.int .u8 n).wf = true) : ∃ x : UInt8, n = (x.toNat : Int) := by
  simp [Lit.wf] at h
  have h1 : IntKind.u8.min = 0 := rfl
  have h2 : IntKind.u8.max = 255 := rfl
  refine ⟨UInt8.ofNat n.toNat, ?_⟩
  have h3 : (UInt8.ofNat n.toNat).toNat = n.toNat := by rw [UInt8.toNat_ofNat']; exact Nat.mod_eq_of_lt (by omega)
  rw [h3]; omega
/-- A slice of bytes. -/
theorem bytes_arg {t e : TypeId} {v : Value} {d : DataW H} {ps : List MemPlace} (ht : P.underlying t = some (.slice e)) (he : P.underlying e = some (.int .u8)) (ce : P.cellsOf e = 1) {b0 : Nat} (hv : Value.okWide P W .any b0 t v)
    (h : DataW.Trod enc P W 0 (fun _ => true) true t v d ps) (hblk : ∃ (b : Nat) (arr : Array Value) (t : TypeId) (fz : Nat × Nat), W.heap[b]? = some (.cells arr t fz)) :
    ∃ (l : List UInt8) (b o : Nat), l.length ≤ maxLen ∧ Rel (argE W eo b) (.sl 450 o l.length 1) v ∧ BAt (argE W eo b) ⟨.agg (offC o (rowsC (fun b => [AV.u8 b]) l)), anyT, false⟩ W b (sizeAt W b) := by
  refine slice_arg (fun b : UInt8 => [AV.u8 b]) (fun _ => rfl) (by decide) ht ce hv (fun n cs' y hl hy => ?_) h hblk
  match cs', hl with
  | [w0], _ =>
    obtain ⟨n0, k0, _, z0⟩ := DataW.trod_int he hy
    simp only [List.cons.injEq, and_true] at k0
    obtain ⟨u, rfl⟩ := u8_lit z0
    refine ⟨u, fun k x hx => ?_⟩
    match k, hx with
    | 0, hx => simp only [List.getElem?_cons_zero, Option.some.injEq] at hx; subst hx; exact ⟨rfl, w0, rfl, fun E => by rw [k0]; exact .u8 _⟩
    | k + 1, hx => simp at hx
end
end Go.Proofs.YtidjfinookikcaaDoor
namespace Go.Proofs.YtidjfinookikcaaDoor
open Go.ChangeShapes Go.WideShapes Go.ChangeAt Go.RowKit
theorem take1_get {α : Type} {L : List α} {k : Nat} {v : α} (h : (L.drop k).take 1 = [v]) : L[k]? = some v := by
  have h1 := congrArg (fun l => l[0]?) h
  simp only [List.getElem?_take, List.getElem?_drop, List.getElem?_cons_zero] at h1
  simpa using h1
theorem items_arg {H : Type} {enc : TypeId × Value → H} {P : Program} {W : World} {eo : Nat → Nat × Nat} {t e tl tB tb ts : TypeId} {f0 f1 f2 : Field} {v : Value} {d : DataW H} {ps : List MemPlace} (ht : P.underlying t = some (.slice e)) (he : P.underlying e = some (.struct #[f0, f1, f2])) (ce : P.cellsOf e = 34)
    (o0 : f0.offset = 0) (o1 : f1.offset = 1) (o2 : f2.offset = 33) (t0 : f0.type = tl) (t1 : f1.type = tB) (t2 : f2.type = ts) (hl_ : P.underlying tl = some .bool) (hB : P.underlying tB = some (.array 32 tb)) (hb : P.underlying tb = some (.int .u8)) (hs : P.underlying ts = some .string)
    (cl : P.cellsOf tl = 1) (cB : P.cellsOf tB = 32) (cb : P.cellsOf tb = 1) (cs_ : P.cellsOf ts = 1) {b0 : Nat} (hv : Value.okWide P W .any b0 t v)
    (h : DataW.Trod enc P W 0 (fun _ => true) true t v d ps) (hblk : ∃ (b : Nat) (arr : Array Value) (t : TypeId) (fz : Nat × Nat), W.heap[b]? = some (.cells arr t fz)) :
    ∃ (l : List ItemV) (b o : Nat), l.length ≤ maxLen ∧ Rel (argE W eo b) (.sl 450 o l.length 34) v ∧ BAt (argE W eo b) ⟨.agg (offC o (rowsC itemC l)), anyT, false⟩ W b (sizeAt W b) := by
  refine slice_arg itemC item_len (by decide) ht ce hv (fun n cs' y hl hy => ?_) h hblk
  obtain ⟨xs, m, _, _, _, hxl, hf⟩ := DataW.trod_struct he hy
  have hxl' : xs.length = 3 := hxl
  have q0 := hf 0 f0 rfl
  have q1 := hf 1 f1 rfl
  have q2 := hf 2 f2 rfl
  rw [List.getElem?_eq_getElem (by omega)] at q0 q1 q2
  rw [t0, o0, cl] at q0
  rw [t1, o1, cB] at q1
  rw [t2, o2, cs_] at q2
  obtain ⟨lk_, k0, _⟩ := DataW.trod_bool hl_ q0
  obtain ⟨s, k2, _, z2⟩ := DataW.trod_string hs q2
  obtain ⟨ys, m', hm, hy', hyl, hysl, hyf⟩ := DataW.trod_array hB q1
  have each : ∀ i, i < 32 → ∃ u : UInt8, cs'[1 + i]? = some (.int .u8 (u.toNat : Int)) := fun i hi' => by
    have h1 := hyf i hi'
    rw [cb, Nat.mul_one, List.getElem?_eq_getElem (show i < ys.length by omega)] at h1
    obtain ⟨z, k, _, w⟩ := DataW.trod_int hb h1
    obtain ⟨u, rfl⟩ := u8_lit w
    refine ⟨u, ?_⟩
    have := take1_get k
    rw [List.getElem?_take, if_pos hi', List.getElem?_drop] at this
    exact this
  obtain ⟨kf, hkf⟩ := Go.Deep.choose_lt each
  have hkl : ((List.range 32).map kf).length = 32 := by simp
  refine ⟨⟨lk_, (List.range 32).map kf, s.data.toList, hkl, z2⟩, fun j x hx => ?_⟩
  have hj : j < 34 := (List.getElem?_eq_some_iff.1 hx).1
  have p0 := take1_get k0
  have p2 := take1_get k2
  show x.cell = true ∧ _
  by_cases h0 : j = 0
  · subst h0
    have hx' : x = .bool lk_ := (Option.some.inj hx).symm
    subst hx'
    exact ⟨rfl, _, p0, fun E => .bool _⟩
  · by_cases h33 : j = 33
    · subst h33
      have hx' : x = .str s.data.toList := (Option.some.inj hx).symm
      subst hx'
      exact ⟨rfl, _, p2, fun E => .str _⟩
    · obtain ⟨i, rfl⟩ : ∃ i, j = 1 + i := ⟨j - 1, by omega⟩
      have hi : i < 32 := by omega
      have hx2 : (kC ((List.range 32).map kf))[i]? = some x := by
        have : (AV.bool lk_ :: (kC ((List.range 32).map kf) ++ [AV.str s.data.toList]))[1 + i]? = some x := hx
        rw [Nat.add_comm, List.getElem?_cons_succ, List.getElem?_append_left (by show i < 32; omega)] at this
        exact this
      rw [kC_eq hkl, List.getElem?_map, List.getElem?_map, List.getElem?_range hi] at hx2
      have hx' : x = .u8 (kf i) := (Option.some.inj hx2).symm
      subst hx'
      exact ⟨rfl, _, hkf i hi, fun E => .u8 _⟩
end Go.Proofs.YtidjfinookikcaaDoor
namespace Go.Proofs.YtidjfinookikcaaDoor
open Go.ChangeShapes Go.WideShapes Go.RowKit
theorem bat_i64 {E E' : Emb} {od : List Int} {p e g s : Nat} {ow : Bool} {w : World} (h : BAt E ⟨.agg (offC p (od.map AV.i64)), e, ow⟩ w g s) : BAt E' ⟨.agg (offC p (od.map AV.i64)), e, ow⟩ w g s := by
  obtain ⟨arr, t, fz, h1, h2, h3, h4, h5⟩ := h
  refine ⟨arr, t, fz, h1, h2, h3, h4, fun i x hx => ?_⟩
  obtain ⟨a, y, b, c⟩ := h5 i x hx
  refine ⟨a, y, b, ?_⟩
  have hm : x ∈ List.replicate p AV.hole ++ od.map AV.i64 := List.mem_of_getElem? hx
  rcases List.mem_append.1 hm with hm | hm
  · obtain rfl := List.eq_of_mem_replicate hm; exact .hole _
  · obtain ⟨z, _, rfl⟩ := List.mem_map.1 hm; rw [c.i64_inv]; exact .i64 _
def argE2 (W : World) (eo : Nat → Nat × Nat) (b b2 : Nat) : Emb := (argE W eo b).put 451 (b2, sizeAt W b2)
theorem argE_451 (W : World) (eo : Nat → Nat × Nat) (b : Nat) : argE W eo b 451 = none := by
  unfold argE
  rw [Emb.put_other _ _ (by decide)]
  simp [errE]
theorem argE2_le (W : World) (eo : Nat → Nat × Nat) (b b2 : Nat) : (argE W eo b).le (argE2 W eo b b2) := Emb.put_le (argE_451 W eo b)
theorem argE2_glob (W : World) (eo : Nat → Nat × Nat) (b b2 : Nat) : ∀ g, g < 400 → ∃ s, argE2 W eo b b2 g = some (g, s) := fun g hg => (argE_glob W eo b g hg).imp fun _ h => (argE2_le W eo b b2).1 _ _ h
theorem argE2_top (W : World) (eo : Nat → Nat × Nat) (b b2 : Nat) : ∀ n, 1000 ≤ n → argE2 W eo b b2 n = none := fun n hn => by
  unfold argE2
  rw [Emb.put_other _ _ (by omega)]
  exact argE_top W eo b n hn
theorem argE2_451 (W : World) (eo : Nat → Nat × Nat) (b b2 : Nat) : argE2 W eo b b2 451 = some (b2, sizeAt W b2) := Emb.put_same _ _ _
theorem sl_as {E E' : Emb} {b b' o n z : Nat} {v : Value} (h : Rel E (.sl b o n z) v) (hb : E b = E' b') : Rel E' (.sl b' o n z) v := by
  rcases h.sl_inv with ⟨l, s, c, h1, h2, h3, h4, h5⟩ | ⟨ad, h0, h5⟩
  · subst h5; exact .sl b' o n z l s c (hb.symm.trans h1) h2 h3 h4
  · subst h0; subst h5; exact .sl0 _ _ _ _
theorem laid_errs4 {r : List (String × DataW Unit)} {W : World} (h0 : laidMet Tryd.prog (("speakeasy/api.ErrEnd", Rows.laid_speakeasy_api_ErrEnd) :: ("speakeasy/api.ErrForm", Rows.laid_speakeasy_api_ErrForm) :: ("speakeasy/api.ErrBig", Rows.laid_speakeasy_api_ErrBig) :: ("speakeasy/api.ErrMac", Rows.laid_speakeasy_api_ErrMac) :: r) W) : ∃ eo : Nat → Nat × Nat, known W (errE W eo) [(0, some ⟨.agg [.err 131 (2) (offE eo (2))], errT, false⟩), (2, some ⟨.agg [.err 131 (3) (offE eo (3))], errT, false⟩), (1, some ⟨.agg [.err 131 (4) (offE eo (4))], errT, false⟩), (4, some ⟨.agg [.err 131 (5) (offE eo (5))], errT, false⟩)] := by
  have h1 := laidMet_tail h0
  have h2 := laidMet_tail h1
  have h3 := laidMet_tail h2
  obtain ⟨a1, s1⟩ := laid_err (g := 0) (text := [98, 121, 116, 101, 115, 32, 97, 114, 101, 32, 119, 97, 110, 116, 105, 110, 103]) h0 (by kernel_rfl) (by kernel_rfl)
  obtain ⟨a2, s2⟩ := laid_err (g := 2) (text := [98, 121, 116, 101, 115, 32, 116, 104, 97, 116, 32, 115, 97, 121, 32, 110, 111, 116, 104, 105, 110, 103]) h1 (by kernel_rfl) (by kernel_rfl)
  obtain ⟨a3, s3⟩ := laid_err (g := 1) (text := [109, 111, 114, 101, 32, 116, 104, 97, 110, 32, 116, 104, 101, 114, 101, 32, 109, 97, 121, 32, 98, 101]) h2 (by kernel_rfl) (by kernel_rfl)
  obtain ⟨a4, s4⟩ := laid_err (g := 4) (text := [97, 32, 115, 117, 109, 32, 116, 104, 97, 116, 32, 100, 111, 101, 115, 110, 39, 116, 32, 102, 105, 116]) h3 (by kernel_rfl) (by kernel_rfl)
  obtain ⟨eo, heo⟩ : ∃ eo : Nat → Nat × Nat, eo = fun n => if n = 1 then a1 else if n = 2 then a2 else if n = 3 then a3 else a4 := ⟨_, rfl⟩
  have e1 : eo 1 = a1 := by rw [heo]; rfl
  have e2 : eo 2 = a2 := by rw [heo]; rfl
  have e3 : eo 3 = a3 := by rw [heo]; rfl
  have e4 : eo 4 = a4 := by rw [heo]; rfl
  rw [← e1] at s1
  rw [← e2] at s2
  rw [← e3] at s3
  rw [← e4] at s4
  exact ⟨eo, known_var s1 (by decide) (by decide), known_var s2 (by decide) (by decide), known_var s3 (by decide) (by decide), known_var s4 (by decide) (by decide), trivial⟩
set_option maxRecDepth 100000 in
theorem packetParts_all {H : Type} {enc : TypeId × Value → H} {v1 v2 : Value} {d1 d2 : DataW H} {ps1 ps2 : List MemPlace} (W : World) {b1 b2 : Nat} (hv1 : Value.okWide Tryd.prog W .any b1 22 v1)
  (ht1 : DataW.Trod enc Tryd.prog W 0 (fun _ => true) true 22 v1 d1 ps1) (hv2 : Value.okWide Tryd.prog W .any b2 23 v2) (ht2 : DataW.Trod enc Tryd.prog W 0 (fun _ => true) true 23 v2 d2 ps2) (hQ : QAt W) (h : laidMet Tryd.prog Rows.packetPartsRow.laid W) :
  Calls Tryd.prog 3 #[v1, v2] W fun e W' => e = .returned (.bool true) ∧ Below W.heap.size W W' := by
 have h1 := laidMet_tail h
 obtain ⟨eo, hkn⟩ := laid_errs4 h1
 have hkE : ∃ (b : Nat) (arr : Array Value) (t : TypeId) (fz : Nat × Nat), W.heap[b]? = some (.cells arr t fz) := by
  obtain ⟨⟨_, q, s, _, arr, t, fz, h9, _⟩, _⟩ := hkn
  exact ⟨q, arr, t, fz, h9⟩
 have c34 : Tryd.prog.cellsOf 37 = 34 := by kernel_rfl
 have cl : Tryd.prog.cellsOf 4 = 1 := by kernel_rfl
 have cB : Tryd.prog.cellsOf 25 = 32 := by kernel_rfl
 have cb : Tryd.prog.cellsOf 5 = 1 := by kernel_rfl
 have cs_ : Tryd.prog.cellsOf 9 = 1 := by kernel_rfl
 have ci : Tryd.prog.cellsOf 3 = 1 := by kernel_rfl
 obtain ⟨l, b, o, hl, hr, hb⟩ := items_arg (P := Tryd.prog) (W := W) (eo := eo) Tryd.underlying22 Tryd.underlying37 c34 rfl rfl rfl rfl rfl rfl Tryd.underlying4 Tryd.underlying25 Tryd.underlying5 Tryd.underlying9 cl cB cb cs_ hv1 ht1 hkE
 obtain ⟨od, c, p, hod, hr', hb'⟩ := ints_arg (P := Tryd.prog) (W := W) (eo := eo) Tryd.underlying23 Tryd.underlying3 ci hv2 ht2 hkE
 have hE := argE2_le W eo b c
 have hr1 : Rel (argE2 W eo b c) (.sl 450 o l.length 34) v1 := hr.mono hE
 have hr2 : Rel (argE2 W eo b c) (.sl 451 p od.length 1) v2 := sl_as hr' ((argE_450 W eo c).trans (argE2_451 W eo b c).symm)
 have hb1 : BAt (argE2 W eo b c) ⟨.agg (offC o (rowsC itemC l)), anyT, false⟩ W b (sizeAt W b) := hb.mono hE rfl
 have hb2 : BAt (argE2 W eo b c) ⟨.agg (offC p (od.map AV.i64)), anyT, false⟩ W c (sizeAt W c) := bat_i64 hb'
 have hg : argE2 W eo b c 3 = some (3, sizeAt W 3) := hE.1 _ _ ((argE_le W eo b).1 _ _ (by simp [errE]))
 refine walk_of_meets_at (argE2 W eo b c) (argE2_glob _ _ _ _) (argE2_top _ _ _ _) (packetParts_ev eo anyT o p l hl od hod) rfl (fun i x y hx hy => ?_) (known.spec ⟨⟨rfl, 3, sizeAt W 3, hg, quarters_any hQ⟩, known_app (known.mono hE (known.mono (argE_le W eo b) hkn)) ⟨⟨rfl, b, sizeAt W b, hE.1 _ _ (argE_450 W eo b), hb1⟩, ⟨rfl, c, sizeAt W c, argE2_451 W eo b c, hb2⟩, trivial⟩⟩)
 match i, hx, hy with
 | 0, hx, hy => injection hx with hx; injection hy with hy; subst hx; subst hy; exact hr1
 | 1, hx, hy => injection hx with hx; injection hy with hy; subst hx; subst hy; exact hr2
 | i + 2, hx, _ => simp at hx
end Go.Proofs.YtidjfinookikcaaDoor
