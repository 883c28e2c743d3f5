/-
  Texts of this claim.
-/
import Derived.Test.YtdmlpblaelfdmaaGreatDoorGYOS
import Derived.Test.YtdmlpblaelfdmaaGreatDoorGP3S
import Derived.Test.YtdmlpblaelfdmaaGreatDoorGL1S
namespace Go.Proofs.YtdmlpblaelfdmaaGreatDoor
open Go.ChangeShapes Go.WideShapes Go.RowKit
theorem rel_sl_as {E E' : Emb} {b b' o n z : Nat} {v : Value} (h : Rel E (.sl b o n z) v) (hb : E b = E' b') : Rel E' (.sl b' o n z) v := by
  cases h <;> first
    | exact .sl0 _ _ _ _
    | exact .sl b' o n z _ _ _ (hb.symm.trans (by assumption)) (by assumption) (by assumption) (by assumption)
    | (exfalso; simp_all [AV.parts]; done)
theorem rel_flat {E E' : Emb} {x : AV} {v : Value} (hx : x.flatV = true) (h : Rel E x v) : Rel E' x v := by
  cases h <;> first
    | (cases hx; done)
    | (constructor; done)
    | (exfalso; cases x <;> simp_all [AV.flatV, AV.parts]; done)
theorem bat_flat {E E' : Emb} {cs : List AV} {o e g s : Nat} {ow : Bool} {w : World} (hc : cs.all AV.flatV = true) (h : BAt E ⟨.agg (offC o cs), e, ow⟩ w g s) : BAt E' ⟨.agg (offC o cs), e, ow⟩ w g s := by
  obtain ⟨arr, t, fz, h1, h2, h3, h4, h5⟩ := h
  refine ⟨arr, t, fz, h1, h2, h3, h4, fun i x hx => ?_⟩
  obtain ⟨a, y, b, c⟩ := h5 i x hx
  exact ⟨a, y, b, rel_flat (List.all_eq_true.1 (offC_flat hc) x (show x ∈ offC o cs by have := List.mem_of_getElem? hx; simpa [AV.list, AV.parts] using this)) c⟩
def argE2 (W : World) (eo : Nat → Nat × Nat) (b b2 : Nat) : Emb := (argE W eo b).put 451 (b2, sizeAt W b2)
theorem argE_451 (W : World) (eo : Nat → Nat × Nat) (b : Nat) : argE W eo b 451 = none := by
  unfold argE
  rw [Emb.put_other _ _ (by decide)]
  simp [errE]
theorem argE2_le (W : World) (eo : Nat → Nat × Nat) (b b2 : Nat) : ∀ n q, argE W eo b n = some q → argE2 W eo b b2 n = some q := Emb.put_le (argE_451 W eo b)
theorem argE2_glob (W : World) (eo : Nat → Nat × Nat) (b b2 : Nat) : ∀ g, g < 400 → ∃ s, argE2 W eo b b2 g = some (g, s) := fun g hg => (argE_glob W eo b g hg).imp fun _ h => argE2_le W eo b b2 _ _ h
theorem argE2_top (W : World) (eo : Nat → Nat × Nat) (b b2 : Nat) : ∀ n, 1000 ≤ n → argE2 W eo b b2 n = none := fun n hn => by
  unfold argE2
  rw [Emb.put_other _ _ (by omega)]
  exact argE_top W eo b n hn
theorem argE2_451 (W : World) (eo : Nat → Nat × Nat) (b b2 : Nat) : argE2 W eo b b2 451 = some (b2, sizeAt W b2) := Emb.put_same _ _ _
abbrev ShortL := { s : List UInt8 // s.length ≤ maxLen }
instance : Inhabited ShortL := ⟨⟨[], Nat.zero_le _⟩⟩
def shortC (a : ShortL) : List AV := [AV.str a.1]
theorem short_rows (l : List ShortL) : rowsC shortC l = (l.map (·.1)).map AV.str := by
  induction l with
  | nil => rfl
  | cons a l ih => show shortC a ++ rowsC shortC l = _; rw [ih]; rfl
/-- A slice of strings. -/
theorem strs_arg {H : Type} {enc : TypeId × Value → H} {P : Program} {W : World} {eo : Nat → Nat × Nat} {t e : TypeId} {v : Value} {d : DataW H} {ps : List MemPlace} (ht : P.underlying t = some (.slice e)) (he : P.underlying e = some .string) (ce : P.cellsOf e = 1) {b0 : Nat} (hv : Value.okWide P W .any b0 t v)
    (h : DataW.Trod enc P W 0 (fun _ => true) true t v d ps) (hblk : ∃ (b : Nat) (arr : Array Value) (t : TypeId) (fz : Nat × Nat), W.heap[b]? = some (.cells arr t fz)) :
    ∃ (l : List (List UInt8)) (b o : Nat), l.length ≤ maxLen ∧ (∀ i, (l.getD i []).length ≤ maxLen) ∧ Rel (argE W eo b) (.sl 450 o l.length 1) v ∧ BAt (argE W eo b) ⟨.agg (offC o (l.map AV.str)), anyT, false⟩ W b (sizeAt W b) := by
  obtain ⟨l, b, o, hl, hr, hb⟩ := slice_arg (eo := eo) shortC (fun _ => rfl) (by decide) ht ce hv (fun n cs' y hl hy => by
    obtain ⟨s, k1, _, z1⟩ := DataW.trod_string he hy
    refine ⟨⟨s.data.toList, z1⟩, fun j x hx => ?_⟩
    match j, hx with
    | 0, hx => simp only [shortC, List.getElem?_cons_zero, Option.some.injEq] at hx; subst hx; exact ⟨rfl, .string s, by rw [k1]; rfl, fun E => .str _⟩
    | j + 1, hx => simp [shortC] at hx) h hblk
  refine ⟨l.map (·.1), b, o, by rw [List.length_map]; exact hl, fun i => ?_, by rw [List.length_map]; exact hr, ?_⟩
  · rw [List.getD_eq_getElem?_getD, List.getElem?_map]
    cases l[i]? with
    | none => exact Nat.zero_le _
    | some a => exact a.2
  · rw [← short_rows]; exact hb
set_option maxRecDepth 100000 in
theorem packetOrder_all {H : Type} {enc : TypeId × Value → H} (key : List UInt8) (hk : key.length = 32) {v1 v2 : Value} {d1 d2 : DataW H} {ps1 ps2 : List MemPlace} (W : World) {b1 b2 : Nat} (hv1 : Value.okWide Tryz.prog W .any b1 54 v1)
  (ht1 : DataW.Trod enc Tryz.prog W 0 (fun _ => true) true 54 v1 d1 ps1) (hv2 : Value.okWide Tryz.prog W .any b2 55 v2) (ht2 : DataW.Trod enc Tryz.prog W 0 (fun _ => true) true 55 v2 d2 ps2) (hQ : QAt W) (h : laidMet Tryz.prog Rows.packetOrderRow.laid W) :
  Calls Tryz.prog 6 #[.agg (key.map U8).toArray, v1, v2] W fun e W' => e = .returned (.bool true) ∧ Below W.heap.size W W' := by
 have h1 := laidMet_tail h
 obtain ⟨eo, hd, hkn⟩ := laid_errs h1
 have cs_ : Tryz.prog.cellsOf 9 = 1 := by kernel_rfl
 have ci : Tryz.prog.cellsOf 3 = 1 := by kernel_rfl
 obtain ⟨l, b, o, hl, hls, hr, hb⟩ := strs_arg (P := Tryz.prog) (W := W) (eo := eo) Tryz.underlying54 Tryz.underlying9 cs_ hv1 ht1 (blk_of hkn)
 obtain ⟨od, c, p, hod, hr', hb'⟩ := ints_arg (P := Tryz.prog) (W := W) (eo := eo) Tryz.underlying55 Tryz.underlying3 ci hv2 ht2 (blk_of hkn)
 have hE := argE2_le W eo b c
 have hE0 : ∀ n q, errE W eo n = some q → argE2 W eo b c n = some q := fun n q hq => hE n q (argE_le W eo b n q hq)
 have hr1 : Rel (argE2 W eo b c) (.sl 450 o l.length 1) v1 := rel_sl_as hr ((argE_450 W eo b).trans (hE _ _ (argE_450 W eo b)).symm)
 have hr2 : Rel (argE2 W eo b c) (.sl 451 p od.length 1) v2 := rel_sl_as hr' ((argE_450 W eo c).trans (argE2_451 W eo b c).symm)
 have hb2 : BAt (argE2 W eo b c) ⟨.agg (offC p (od.map AV.i64)), anyT, false⟩ W c (sizeAt W c) := bat_flat (by rw [List.all_map]; exact List.all_eq_true.2 fun _ _ => rfl) hb'
 rcases Nat.eq_zero_or_pos l.length with h0 | h0
 ·rw [h0] at hr1
  refine walk_of_meets_at (argE2 W eo b c) (argE2_glob _ _ _ _) (argE2_top _ _ _ _) (packetOrder_nil eo hd anyT key hk o p od hod) rfl (fun i x y hx hy => ?_) (known.spec ⟨⟨rfl, 22, sizeAt W 22, hE0 _ _ (by simp [errE]), quarters_any hQ⟩, known.mono hE0 hkn⟩)
  match i, hx, hy with
  | 0, hx, hy => injection hx with hx; injection hy with hy; subst hx; subst hy; exact rel_bytes _ _
  | 1, hx, hy => injection hx with hx; injection hy with hy; subst hx; subst hy; exact hr1
  | 2, hx, hy => injection hx with hx; injection hy with hy; subst hx; subst hy; exact hr2
  | i + 3, hx, _ => simp at hx
 ·refine walk_of_meets_at (argE2 W eo b c) (argE2_glob _ _ _ _) (argE2_top _ _ _ _) (packetOrder_l eo hd anyT key hk o p l hl hls h0 od hod) rfl (fun i x y hx hy => ?_) (known.spec ⟨⟨rfl, 22, sizeAt W 22, hE0 _ _ (by simp [errE]), quarters_any hQ⟩, known_app (known.mono hE0 hkn) ⟨⟨rfl, b, sizeAt W b, hE _ _ (argE_450 W eo b), hb.mono hE rfl⟩, ⟨rfl, c, sizeAt W c, argE2_451 W eo b c, hb2⟩, trivial⟩⟩)
  match i, hx, hy with
  | 0, hx, hy => injection hx with hx; injection hy with hy; subst hx; subst hy; exact rel_bytes _ _
  | 1, hx, hy => injection hx with hx; injection hy with hy; subst hx; subst hy; exact hr1
  | 2, hx, hy => injection hx with hx; injection hy with hy; subst hx; subst hy; exact hr2
  | i + 3, hx, _ => simp at hx
end Go.Proofs.YtdmlpblaelfdmaaGreatDoor
