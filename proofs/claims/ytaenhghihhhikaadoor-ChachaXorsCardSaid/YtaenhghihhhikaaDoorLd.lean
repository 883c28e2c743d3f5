/-
  The laws ChachaXors and ChachaParts over worlds.
-/
import Derived.Test.YtaenhghihhhikaaDoorZc
namespace Go.Proofs.YtaenhghihhhikaaDoor
open Go.RowKit
theorem bat_quarters {w : World} (hQ : QAt w) : ∃ e, BAt (topE w) ⟨.aggI qsTab, e, false⟩ w 0 (sizeAt w 0) := by
  refine bat_ints (l := qsTab) (by decide) fun i hi => ?_
  have hi' : i < 32 := by simpa [qsTab] using hi
  have h1 := hQ (i / 4) (i % 4) (by omega) (by omega)
  rw [show 4 * (i / 4) + i % 4 = i by omega] at h1
  rw [h1]
  have h2 : qsTab[i]? = some (qAt (i / 4) (i % 4) : Int) := by simp [qsTab, hi']
  rw [List.getD_eq_getElem?_getD, h2]; rfl
theorem hq_laid {w : World} {e : Nat} (h : BAt (topE w) ⟨.aggI qsTab, e, false⟩ w 0 (sizeAt w 0)) : ∀ b k, hget (HQ e) b = some k → b < 500 ∧ k.own = false ∧ BAt (topE w) k w b (sizeAt w b) := by
  intro b k hk
  have hm := hget_mem hk
  simp only [HQ, List.mem_singleton, Prod.mk.injEq, Option.some.injEq] at hm
  obtain ⟨rfl, rfl⟩ := hm
  exact ⟨by decide, rfl, h⟩
theorem chachaXors_any (key : List UInt8) (ctr : UInt32) (s : ByteArray) (w : World) (hk : key.length = 32) (hs : s.size ≤ maxLen) (hQ : QAt w) :
    Calls Tryd.prog 4 #[.agg (key.map U8).toArray, U32 ctr, .string s] w fun e w' => e = .returned (.bool true) ∧ Below w.heap.size w w' := by
  obtain ⟨e, he⟩ := bat_quarters hQ
  refine walk_of_meets (chachaXors_ev e key ctr s.data.toList hk hs) rfl (fun i x y hx hy => ?_) (hq_laid he)
  match i, hx, hy with
  | 0, hx, hy => injection hx with hx; injection hy with hy; subst hx; subst hy; exact rel_bytes _ _
  | 1, hx, hy => injection hx with hx; injection hy with hy; subst hx; subst hy; exact .u32 _
  | 2, hx, hy => injection hx with hx; injection hy with hy; subst hx; subst hy; exact .str _
  | i + 3, hx, _ => simp at hx
theorem chachaParts_any (key : List UInt8) (s : ByteArray) (cut : Int) (w : World) (hk : key.length = 32) (hs : s.size ≤ maxLen) (hQ : QAt w) :
    Calls Tryd.prog 5 #[.agg (key.map U8).toArray, .string s, .int .i64 cut] w fun e w' => e = .returned (.bool true) ∧ Below w.heap.size w w' := by
  obtain ⟨e, he⟩ := bat_quarters hQ
  refine walk_of_meets (chachaParts_ev e key s.data.toList cut hk hs) rfl (fun i x y hx hy => ?_) (hq_laid he)
  match i, hx, hy with
  | 0, hx, hy => injection hx with hx; injection hy with hy; subst hx; subst hy; exact rel_bytes _ _
  | 1, hx, hy => injection hx with hx; injection hy with hy; subst hx; subst hy; exact .str _
  | 2, hx, hy => injection hx with hx; injection hy with hy; subst hx; subst hy; exact .i64 _
  | i + 3, hx, _ => simp at hx
end Go.Proofs.YtaenhghihhhikaaDoor
