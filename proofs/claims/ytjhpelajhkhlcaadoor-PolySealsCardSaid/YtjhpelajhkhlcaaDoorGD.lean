/-
  The listed table of the quarter rounds; laws of layer 4 over worlds.
-/
import Derived.Test.YtjhpelajhkhlcaaDoorGC
import Derived.Test.YtjhpelajhkhlcaaDoorGX
import Derived.Test.YtjhpelajhkhlcaaDoorGP
namespace Go.Proofs.YtjhpelajhkhlcaaDoor
open Go.ChangeShapes Go.WideShapes Go.ChangeAt Go.RowKit

theorem gQ : Tryd.prog.globalNamed "speakeasy/chacha.quarters" = some 22 := by kernel_rfl
theorem tQ : (Tryd.prog.globals[22]?).map (·.type) = some 127 := by kernel_rfl
theorem cellsI : Tryd.prog.cellsOf 3 = 1 := by kernel_rfl
theorem cellsQ1 : Tryd.prog.cellsOf 126 = 4 := by kernel_rfl
theorem cellsQ : Tryd.prog.cellsOf 127 = 32 := by kernel_rfl
def rowQ {H : Type} (i : Nat) : DataW H := Lib.tabData .i64 [(qAt i 0 : Int), qAt i 1, qAt i 2, qAt i 3]
theorem laidQ_eq : (Rows.laid_speakeasy_chacha_quarters : DataW Unit) = .agg ((List.range 8).map rowQ) := by kernel_rfl
theorem tabQ {W : World} {rest : List (String × DataW Unit)} (h : laidMet Tryd.prog (("speakeasy/chacha.quarters", Rows.laid_speakeasy_chacha_quarters) :: rest) W) : QAt W := by
  rw [laidQ_eq] at h
  obtain ⟨ps, ⟨g', t', cs, fuel, p, q, hg', ht', hvar, hd, _, _⟩, _⟩ := h
  obtain rfl := Option.some.inj (gQ.symm.trans hg')
  obtain rfl := Option.some.inj (tQ.symm.trans ht')
  cases fuel with
  | zero => simp [DataW.trod] at hd
  | succ m =>
    rw [DataW.trod_step] at hd
    unfold DataW.trodStep at hd
    simp only [Tryd.underlying127] at hd
    split at hd
    · rename_i hs
      simp only [Option.map_eq_some_iff] at hd
      obtain ⟨ys, hy, e1⟩ := hd
      simp only [Prod.mk.injEq, DataW.agg.injEq] at e1
      intro i j hi hj
      obtain ⟨y, hyi, hyt⟩ := Lib.mapM_at hy i i (by simp [hi])
      have hy1 : y.1 = rowQ i := by
        have := congrArg (fun l => l[i]?) e1.1
        simp only [List.getElem?_map, hyi, Option.map_some, List.getElem?_range hi, Option.some.injEq] at this
        exact this
      obtain ⟨y1, y2⟩ := y
      subst hy1
      rw [cellsQ1] at hyt
      have hc := Lib.cells_of_tab Tryd.underlying126 Tryd.underlying3 cellsI cellsQ1 hyt
      have hv := World.var?_cell (P := Tryd.prog) gQ hvar (4 * i + j)
      rw [hv]
      have hcj := congrArg (fun l => l[j]?) hc
      simp only [List.getElem?_take, if_pos hj, List.getElem?_drop] at hcj
      rw [Nat.mul_comm 4 i]
      have e2 : cs[i * 4 + j]? = cs.toList[i * 4 + j]? := by simp
      rw [e2, hcj]
      match j, hj with
      | 0, _ => rfl
      | 1, _ => rfl
      | 2, _ => rfl
      | 3, _ => rfl
    · cases hd
end Go.Proofs.YtjhpelajhkhlcaaDoor
namespace Go.Proofs.YtjhpelajhkhlcaaDoor
open Go.RowKit
theorem bat_quarters {w : World} (hQ : QAt w) : ∃ e, BAt (topE w) ⟨.aggI qsTab, e, false⟩ w 22 (sizeAt w 22) := by
  refine bat_ints (l := qsTab) (by decide) fun i hi => ?_
  have hi' : i < 32 := by simpa [qsTab] using hi
  have h1 := hQ (i / 4) (i % 4) (by omega) (by omega)
  rw [show 4 * (i / 4) + i % 4 = i by omega] at h1
  rw [h1]
  have h2 : qsTab[i]? = some (qAt (i / 4) (i % 4) : Int) := by simp [qsTab, hi']
  rw [List.getD_eq_getElem?_getD, h2]; rfl
theorem hq_laid {w : World} {e : Nat} (h : BAt (topE w) ⟨.aggI qsTab, e, false⟩ w 22 (sizeAt w 22)) : ∀ b k, hget (HQ e) b = some k → b < 500 ∧ k.own = false ∧ BAt (topE w) k w b (sizeAt w b) := by
  intro b k hk
  have hm := hget_mem hk
  simp only [HQ, List.mem_singleton, Prod.mk.injEq, Option.some.injEq] at hm
  obtain ⟨rfl, rfl⟩ := hm
  exact ⟨by decide, rfl, h⟩
end Go.Proofs.YtjhpelajhkhlcaaDoor
namespace Go.Proofs.YtjhpelajhkhlcaaDoor
open Go.RowKit
theorem polySums_any (key : List UInt8) (s : ByteArray) (w : World) (hk : key.length = 32) (hs : s.size ≤ maxLen) (hQ : QAt w) :
    Calls Tryd.prog 3 #[.agg (key.map U8).toArray, .string s] w fun e w' => e = .returned (.bool true) ∧ Below w.heap.size w w' := by
  obtain ⟨e, he⟩ := bat_quarters hQ
  refine walk_of_meets (polySums_ev e key s.data.toList hk hs) rfl (fun i x y hx hy => ?_) (hq_laid he)
  match i, hx, hy with
  | 0, hx, hy => injection hx with hx; injection hy with hy; subst hx; subst hy; exact rel_bytes _ _
  | 1, hx, hy => injection hx with hx; injection hy with hy; subst hx; subst hy; exact .str _
  | i + 2, hx, _ => simp at hx
theorem polySeals_any (key : List UInt8) (text : ByteArray) (extra : ByteArray) (w : World) (hk : key.length = 32) (ht : text.size ≤ maxLen) (he : extra.size ≤ maxLen) (hQ : QAt w) :
    Calls Tryd.prog 5 #[.agg (key.map U8).toArray, .string text, .string extra] w fun e w' => e = .returned (.bool true) ∧ Below w.heap.size w w' := by
  obtain ⟨e, heq⟩ := bat_quarters hQ
  refine walk_of_meets (polySeals_ev e key text.data.toList extra.data.toList hk ht he) rfl (fun i x y hx hy => ?_) (hq_laid heq)
  match i, hx, hy with
  | 0, hx, hy => injection hx with hx; injection hy with hy; subst hx; subst hy; exact rel_bytes _ _
  | 1, hx, hy => injection hx with hx; injection hy with hy; subst hx; subst hy; exact .str _
  | 2, hx, hy => injection hx with hx; injection hy with hy; subst hx; subst hy; exact .str _
  | i + 3, hx, _ => simp at hx
end Go.Proofs.YtjhpelajhkhlcaaDoor
