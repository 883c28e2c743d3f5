/-
  Texts of this claim.
-/
import Derived.Deep.SlicePairs
import Derived.ChangeSlices
import Derived.Test.YticickigndgpcaaDoorGZA
import Derived.Test.YticickigndgpcaaDoorGE2A
namespace Go.Proofs.YticickigndgpcaaDoor
open Go.ChangeShapes Go.WideShapes Go.ChangeAt Go.RowKit
def argE (W : World) (eo : Nat → Nat × Nat) (b : Nat) : Emb := (errE W eo).put 450 (b, sizeAt W b)
theorem errE_450 (W : World) (eo : Nat → Nat × Nat) : errE W eo 450 = none := by simp [errE]
theorem argE_le (W : World) (eo : Nat → Nat × Nat) (b : Nat) : (errE W eo).le (argE W eo b) := Emb.put_le (errE_450 W eo)
theorem argE_glob (W : World) (eo : Nat → Nat × Nat) (b : Nat) : ∀ g, g < 400 → ∃ s, argE W eo b g = some (g, s) := fun g hg => (errE_glob W eo g hg).imp fun _ h => (argE_le W eo b).1 _ _ h
theorem argE_top (W : World) (eo : Nat → Nat × Nat) (b : Nat) : ∀ n, 1000 ≤ n → argE W eo b n = none := fun n hn => by
  unfold argE
  rw [Emb.put_other _ _ (by omega)]
  exact errE_top W eo n hn
theorem argE_450 (W : World) (eo : Nat → Nat × Nat) (b : Nat) : argE W eo b 450 = some (b, sizeAt W b) := Emb.put_same _ _ _
theorem known.mono {W : World} {E E' : Emb} (hE : E.le E') : ∀ {l : List (Nat × Option ABlk)}, known W E l → known W E' l
  | [], _ => trivial
  | (_, none) :: r, h => known.mono (l := r) hE h
  | (_, some _) :: r, h => by
    obtain ⟨⟨h1, q, s, h2, h3⟩, h4⟩ := h
    exact ⟨⟨h1, q, s, hE.1 _ _ h2, h3.mono hE rfl⟩, known.mono (l := r) hE h4⟩
theorem any_ne : anyT ≠ errT := by decide
theorem bat_any {W : World} {E : Emb} {b : Nat} {arr : Array Value} {t : TypeId} {fz : Nat × Nat} (c : AV) (hb : W.heap[b]? = some (.cells arr t fz)) (hl : c.list.length ≤ arr.size)
    (hc : ∀ (i : Nat) x, c.list[i]? = some x → x.cell = true ∧ ∃ y, arr[i]? = some y ∧ Rel E x y) : BAt E ⟨c, anyT, false⟩ W b arr.size :=
  ⟨arr, t, fz, hb, rfl, ⟨⟨fun h => (by cases h), fun h => absurd h any_ne, fun _ _ h => absurd h (Nat.lt_irrefl _)⟩, .inr (.inr (.inr rfl))⟩, hl, hc⟩
theorem arg_slice {W : World} {eo : Nat → Nat × Nat} {a : Addr} {len cap z : Nat} {cs : List AV} (hlen : cs.length = len * z) (hl : len ≤ cap) (hm : cap ≤ maxLen) (hz : 0 < z)
    (hc : ∀ (j : Nat) x, cs[j]? = some x → x.cell = true ∧ ∃ y, W.cell? (a.add j) = some y ∧ ∀ E, Rel E x y) (hfirst : 0 < cap → ∃ y, W.cell? (a.add 0) = some y) (hlast : 0 < cap → ∃ y, W.cell? (a.add (cap * z - 1)) = some y)
    (hblk : ∃ (b : Nat) (arr : Array Value) (t : TypeId) (fz : Nat × Nat), W.heap[b]? = some (.cells arr t fz)) :
    ∃ b o, Rel (argE W eo b) (.sl 450 o len z) (.slice (some a) len cap) ∧ BAt (argE W eo b) ⟨.agg (List.replicate o .hole ++ cs), anyT, false⟩ W b (sizeAt W b) := by
  rcases Nat.eq_zero_or_pos cap with h0 | h0
  · subst h0
    obtain rfl : len = 0 := by omega
    have hcs : cs = [] := List.eq_nil_of_length_eq_zero (by omega)
    subst hcs
    obtain ⟨b, arr, t, fz, hb⟩ := hblk
    refine ⟨b, 0, .sl0 _ _ _ _, ?_⟩
    rw [size_at hb]
    exact bat_any (.agg []) hb (Nat.zero_le _) (fun i x hx => by simp [AV.list, AV.parts] at hx)
  · obtain ⟨y, hy⟩ := hlast h0
    have h00 := hfirst h0
    obtain ⟨b, o, sp⟩ := a
    have hcz : 0 < cap * z := Nat.mul_pos h0 hz
    have hsp : sp = none := by
      cases sp with
      | none => rfl
      | some q =>
        obtain ⟨y0, hy0⟩ := h00
        rw [show (⟨b, o, some q⟩ : Addr).add 0 = ⟨b, o, some q⟩ from rfl] at hy0
        unfold World.cell? at hy0
        split at hy0 <;> simp at hy0
    subst hsp
    have hadd : ∀ j, (⟨b, o, none⟩ : Addr).add j = ⟨b, o + j, none⟩ := fun j => by
      unfold Addr.add
      split
      · rename_i e; subst e; rfl
      · rfl
    rw [hadd] at hy
    have hcell := hy
    unfold World.cell? at hy
    split at hy
    · rename_i arr t fz hb
      rw [cell_of_row W b _ arr t fz hb] at hcell
      have hsz := (Array.getElem?_eq_some_iff.1 hcell).1
      have hb' : W.heap[b]? = some (.cells arr t fz) := hb
      have hlz : len * z ≤ cap * z := Nat.mul_le_mul_right z hl
      refine ⟨b, o, .sl _ _ _ _ _ _ _ (argE_450 W eo b) hl hm (by rw [size_at hb']; omega), ?_⟩
      rw [size_at hb']
      refine bat_any _ hb' (by show (List.replicate o AV.hole ++ cs).length ≤ _; rw [List.length_append, List.length_replicate, hlen]; omega) fun i x hx => ?_
      replace hx : (List.replicate o AV.hole ++ cs)[i]? = some x := hx
      by_cases hi : i < o
      · rw [List.getElem?_append_left (by rw [List.length_replicate]; exact hi), List.getElem?_replicate, if_pos hi] at hx
        injection hx with hx; subst hx
        exact ⟨rfl, arr[i]'(by omega), by rw [Array.getElem?_eq_getElem], .hole _⟩
      · rw [List.getElem?_append_right (by rw [List.length_replicate]; omega), List.length_replicate] at hx
        obtain ⟨h1, q, h2, h3⟩ := hc _ x hx
        rw [hadd, cell_of_row W b _ arr t fz hb', show o + (i - o) = i by omega] at h2
        exact ⟨h1, q, h2, h3 _⟩
    · cases hy
theorem arg_nil {W : World} {eo : Nat → Nat × Nat} (z : Nat) (hblk : ∃ (b : Nat) (arr : Array Value) (t : TypeId) (fz : Nat × Nat), W.heap[b]? = some (.cells arr t fz)) :
    ∃ b o, Rel (argE W eo b) (.sl 450 o 0 z) (.slice none 0 0) ∧ BAt (argE W eo b) ⟨.agg (List.replicate o .hole ++ []), anyT, false⟩ W b (sizeAt W b) := by
  obtain ⟨b, arr, t, fz, hb⟩ := hblk
  refine ⟨b, 0, .sl0 _ _ _ _, ?_⟩
  rw [size_at hb]
  exact bat_any (.agg []) hb (Nat.zero_le _) (fun i x hx => by simp [AV.list, AV.parts] at hx)
section
variable {H : Type} {enc : TypeId × Value → H} {P : Program} {W : World} {eo : Nat → Nat × Nat}
theorem blk_of {E : Emb} {b : Nat} {k : ABlk} {r : List (Nat × Option ABlk)} (h : known W E ((b, some k) :: r)) : ∃ (b : Nat) (arr : Array Value) (t : TypeId) (fz : Nat × Nat), W.heap[b]? = some (.cells arr t fz) := by
  obtain ⟨⟨_, q, s, _, arr, t, fz, hb, _⟩, _⟩ := h
  exact ⟨q, arr, t, fz, hb⟩
end
end Go.Proofs.YticickigndgpcaaDoor
namespace Go.Proofs.YticickigndgpcaaDoor
open Go.ChangeShapes Go.WideShapes Go.ChangeAt Go.RowKit
section
variable {H : Type} {enc : TypeId × Value → H} {P : Program} {W : World} {eo : Nat → Nat × Nat}
theorem slice_arg {α : Type} [Inhabited α] (f : α → List AV) {z : Nat} (hf : ∀ a, (f a).length = z) (hz0 : 0 < z) {t e : TypeId} {v : Value} {d : DataW H} {ps : List MemPlace} (ht : P.underlying t = some (.slice e)) (ce : P.cellsOf e = z) {b0 : Nat} (hv : Value.okWide P W .any b0 t v)
    (dec : ∀ n cs' y, cs'.length = z → DataW.trod enc P W 0 (fun _ => true) true n e cs' = some y → ∃ a : α, ∀ (k : Nat) x, (f a)[k]? = some x → x.cell = true ∧ ∃ u, cs'[k]? = some u ∧ ∀ E, Rel E x u)
    (h : DataW.Trod enc P W 0 (fun _ => true) true t v d ps) (hblk : ∃ (b : Nat) (arr : Array Value) (t : TypeId) (fz : Nat × Nat), W.heap[b]? = some (.cells arr t fz)) :
    ∃ (l : List α) (b o : Nat), l.length ≤ maxLen ∧ Rel (argE W eo b) (.sl 450 o l.length z) v ∧ BAt (argE W eo b) ⟨.agg (offC o (rowsC f l)), anyT, false⟩ W b (sizeAt W b) := by
  obtain ⟨sa, sl, sc, rfl⟩ := okWide_slice ht hv
  obtain ⟨fuel, hfu⟩ := h
  rcases Go.Deep.open_slice ht hfu with ⟨h1, _⟩ | ⟨a, len, cap, m, n, D, Pl, h1, _, hl, hm, hmm, _, hcell⟩
  · simp only [Value.cells, List.cons.injEq, Value.slice.injEq, and_true] at h1
    obtain ⟨rfl, rfl, rfl⟩ := h1
    obtain ⟨b, o, h2, h3⟩ := arg_nil (W := W) (eo := eo) z hblk
    exact ⟨[], b, o, Nat.zero_le _, h2, h3⟩
  · simp only [Value.cells, List.cons.injEq, Value.slice.injEq, and_true] at h1
    obtain ⟨rfl, rfl, rfl⟩ := h1
    simp only [if_true] at hmm
    subst hmm
    rw [ce] at hcell
    have each : ∀ i, i < m → ∃ q : α, ∀ (k : Nat) x, (f q)[k]? = some x → x.cell = true ∧ ∃ u, W.cell? (a.add (i * z + k)) = some u ∧ ∀ E, Rel E x u := fun i hi => by
      obtain ⟨cs', c1, c2⟩ := hcell i hi
      obtain ⟨_, c3, c4⟩ := World.cells?_some c1
      obtain ⟨q, hq⟩ := dec n cs' _ c3 c2
      refine ⟨q, fun k x hx => ?_⟩
      obtain ⟨g1, u, g2, g3⟩ := hq k x hx
      have hk : k < z := by rw [← hf q]; exact (List.getElem?_eq_some_iff.1 hx).1
      have := c4 k hk
      rw [Go.Deep.add_add] at this
      exact ⟨g1, u, this.trans g2, g3⟩
    obtain ⟨q, hq⟩ := Go.Deep.choose_lt each
    have hlen : ((List.range sl).map q).length = sl := by simp
    have first : ∀ i, i < m → ∀ k, k < z → ∃ y, W.cell? (a.add (i * z + k)) = some y := fun i hi k hk => by
      have hk2 : k < (f (q i)).length := by rw [hf]; exact hk
      obtain ⟨_, u, hu, _⟩ := hq i hi k _ (List.getElem?_eq_getElem hk2)
      exact ⟨u, hu⟩
    obtain ⟨b, o, h2, h3⟩ := arg_slice (W := W) (eo := eo) (a := a) (len := sl) (cap := m) (z := z) (cs := rowsC f ((List.range sl).map q)) (by rw [rowsC_len hf, hlen]) hl hm hz0 (fun j x hx => by
      have hj : j < sl * z := by have := (List.getElem?_eq_some_iff.1 hx).1; rwa [rowsC_len hf, hlen] at this
      have hi : j / z < sl := Nat.div_lt_of_lt_mul (by rwa [Nat.mul_comm] at hj)
      have hk : j % z < z := Nat.mod_lt _ hz0
      have hjz : j / z * z + j % z = j := by rw [Nat.mul_comm]; exact Nat.div_add_mod j z
      have hi2 : ((List.range sl).map q)[j / z]? = some (q (j / z)) := by simp [hi]
      have := rowsC_nth hf hi2 hk
      rw [hjz, hx] at this
      obtain ⟨g1, u, g2, g3⟩ := hq (j / z) (by omega) (j % z) x this.symm
      rw [hjz] at g2
      exact ⟨g1, u, g2, g3⟩) (fun h0 => by have := first 0 h0 0 hz0; rwa [Nat.zero_mul] at this) (fun h0 => by
        have := first (m - 1) (by omega) (z - 1) (by omega)
        have e : (m - 1) * z + (z - 1) = m * z - 1 := by
          have : m * z = (m - 1) * z + z := by rw [← Nat.succ_mul]; congr 1; omega
          omega
        rwa [e] at this) hblk
    exact ⟨(List.range sl).map q, b, o, by omega, by rw [hlen]; exact h2, h3⟩
end
end Go.Proofs.YticickigndgpcaaDoor
