/-
  Texts of this claim.
-/
import Derived.Test.YtcnjekoidgefpaaDoorGKW
import Derived.Test.YtcnjekoidgefpaaDoorGX1
import Derived.Test.YtcnjekoidgefpaaDoorGKN
namespace Go.Proofs.YtcnjekoidgefpaaDoor
open Go.ChangeShapes Go.WideShapes Go.ChangeAt Go.RowKit
theorem bat_ints_any {E : Emb} {w : World} {g : Nat} {l : List Int} (h0 : 0 < l.length) (h : ∀ i, i < l.length → w.cell? ⟨g, i, none⟩ = some (.int .i64 (l.getD i 0))) : BAt E ⟨.aggI l, anyT, false⟩ w g (sizeAt w g) := by
  have hc := h 0 h0
  unfold World.cell? at hc
  split at hc
  · rename_i arr e fz hb
    refine ⟨arr, e, fz, hb, by simp [sizeAt, hb], ⟨⟨fun h => (by cases h), fun h => absurd h (show anyT ≠ errT by decide), fun _ _ h => absurd h (Nat.lt_irrefl _)⟩, .inr (.inr (.inr rfl))⟩, ?_, fun i x hx => ?_⟩
    · have := h (l.length - 1) (by omega)
      rw [cell_of_row w g _ arr e fz hb] at this
      have := (Array.getElem?_eq_some_iff.1 this).1
      simp [AV.list, AV.parts, sizeAt, hb]; omega
    · obtain ⟨y, hy, rfl⟩ := get_map_some (l := l) hx
      have hi := (List.getElem?_eq_some_iff.1 hy).1
      have := h i hi
      rw [cell_of_row w g _ arr e fz hb] at this
      refine ⟨rfl, .int .i64 y, ?_, .i64 y⟩
      rw [this]
      simp [List.getD_eq_getElem?_getD, hy]
  · cases hc
theorem quarters_any {E : Emb} {w : World} (hQ : QAt w) : BAt E ⟨.aggI qsTab, anyT, false⟩ w 2 (sizeAt w 2) := by
  refine bat_ints_any (l := qsTab) (by decide) fun i hi => ?_
  have hi' : i < 32 := by simpa [qsTab] using hi
  have h1 := hQ (i / 4) (i % 4) (by omega) (by omega)
  rw [show 4 * (i / 4) + i % 4 = i by omega] at h1
  rw [h1]
  have h2 : qsTab[i]? = some (qAt (i / 4) (i % 4) : Int) := by simp [qsTab, hi']
  rw [List.getD_eq_getElem?_getD, h2]; rfl
theorem bat_words32 {w : World} {g : Nat} {l : List UInt32} {E : Emb} (h0 : 0 < l.length) (h : ∀ i, i < l.length → w.cell? ⟨g, i, none⟩ = some (.int .u32 ((l.getD i 0).toNat : Int))) : BAt E ⟨.agg32 l, anyT, false⟩ w g (sizeAt w g) := by
  have hc := h 0 h0
  unfold World.cell? at hc
  split at hc
  · rename_i arr e fz hb
    refine ⟨arr, e, fz, hb, by simp [sizeAt, hb], ⟨⟨fun h => (by cases h), fun h => absurd h (show anyT ≠ errT by decide), fun _ _ h => absurd h (Nat.lt_irrefl _)⟩, .inr (.inr (.inr rfl))⟩, ?_, fun i x hx => ?_⟩
    · have := h (l.length - 1) (by omega)
      rw [cell_of_row w g _ arr e fz hb] at this
      have := (Array.getElem?_eq_some_iff.1 this).1
      simp [AV.list, AV.parts, sizeAt, hb]; omega
    · obtain ⟨y, hy, rfl⟩ := get_map_some (l := l) hx
      have hi := (List.getElem?_eq_some_iff.1 hy).1
      have := h i hi
      rw [cell_of_row w g _ arr e fz hb] at this
      refine ⟨rfl, .int .u32 (y.toNat : Int), ?_, .u32 y⟩
      rw [this]
      simp [List.getD_eq_getElem?_getD, hy]
  · cases hc
theorem cellsU4w : Tryd.prog.cellsOf 61 = 1 := by kernel_rfl
theorem cellsK4w : Tryd.prog.cellsOf 178 = 64 := by kernel_rfl
theorem laidK_eq : (Rows.laid_speakeasy_sha2_k256 : DataW Unit) = Lib.tabData .u32 (K256.map fun x => (x.toNat : Int)) := by kernel_rfl
theorem bat_k256 {W : World} {E : Emb} {rest : List (String × DataW Unit)} (h : laidMet Tryd.prog (("speakeasy/sha2.k256", Rows.laid_speakeasy_sha2_k256) :: rest) W) : BAt E ⟨.agg32 K256, anyT, false⟩ W 5 (sizeAt W 5) := by
  rw [laidK_eq] at h
  obtain ⟨ps, ⟨g', t', cs, fuel, p, q, hg', ht', hvar, hd, _, _⟩, _⟩ := h
  have hg : Tryd.prog.globalNamed "speakeasy/sha2.k256" = some 5 := by kernel_rfl
  have ht : (Tryd.prog.globals[5]?).map (·.type) = some 178 := by kernel_rfl
  obtain rfl := Option.some.inj (hg.symm.trans hg')
  obtain rfl := Option.some.inj (ht.symm.trans ht')
  have hc := Lib.cells_of_tab Tryd.underlying178 Tryd.underlying61 cellsU4w cellsK4w hd
  refine bat_words32 (by decide) fun i hi => ?_
  rw [World.var?_cell (P := Tryd.prog) hg hvar i]
  have e2 : cs[i]? = cs.toList[i]? := by simp
  rw [e2, hc]
  simp [List.getD_eq_getElem?_getD, hi]
theorem speakSealed_any (a b c : ByteArray) (w : World) (ha : a.size ≤ maxLen) (hb : b.size ≤ maxLen) (hc : c.size ≤ maxLen) (hQ : QAt w) (hK : BAt (topE w) ⟨.agg32 K256, anyT, false⟩ w 5 (sizeAt w 5)) :
    Calls Tryd.prog 5 #[.string a, .string b, .string c] w fun e w' => e = .returned (.bool true) ∧ Below w.heap.size w w' := by
  have he := quarters_any (E := topE w) hQ
  refine walk_of_meets (speakSealed_ev anyT anyT a.data.toList b.data.toList c.data.toList ha hb hc) rfl (fun i x y hx hy => ?_) (fun q k hk => ?_)
  · match i, hx, hy with
    | 0, hx, hy => injection hx with hx; injection hy with hy; subst hx; subst hy; exact .str _
    | 1, hx, hy => injection hx with hx; injection hy with hy; subst hx; subst hy; exact .str _
    | 2, hx, hy => injection hx with hx; injection hy with hy; subst hx; subst hy; exact .str _
    | i + 3, hx, _ => simp at hx
  · have hm := hget_mem hk
    simp only [List.mem_cons, List.not_mem_nil, or_false, Prod.mk.injEq, Option.some.injEq] at hm
    rcases hm with ⟨rfl, rfl⟩ | ⟨rfl, rfl⟩
    · exact ⟨by decide, rfl, hK⟩
    · exact ⟨by decide, rfl, he⟩
end Go.Proofs.YtcnjekoidgefpaaDoor
