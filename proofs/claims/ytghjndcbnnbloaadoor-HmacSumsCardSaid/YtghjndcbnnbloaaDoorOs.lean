/-
  A []string argument, opened: its cells are strings.
-/
import Derived.Test.YtghjndcbnnbloaaDoorCc
import Derived.Deep.Strs
namespace Go.Proofs.YtghjndcbnnbloaaDoor
open Go.ChangeShapes Go.WideShapes
theorem cells9 : Tryd.prog.cellsOf 9 = 1 := by kernel_rfl
theorem open_strs {H : Type} {enc : TypeId × Value → H} {w : World} {r : Reach} {b0 base : Nat} {spare : Nat → Bool} {held : Bool} {v : Value} {d : DataW H} {ps : List MemPlace}
    (hval : Value.okWide Tryd.prog w r b0 31 v) (hd : DataW.Trod enc Tryd.prog w base spare held 31 v d ps) :
    ∃ A n c ss, v = .slice A n c ∧ Strs w A n c ss ∧ ∀ s ∈ ss, s.size ≤ maxLen := by
  obtain ⟨A, n, c, rfl⟩ := okWide_slice Tryd.underlying31 hval
  obtain ⟨fuel, hf⟩ := hd
  rcases Deep.open_strs Tryd.underlying31 Tryd.underlying9 cells9 hf with ⟨h, _⟩ | ⟨a, len, cap, m, Sx, h, _, hl, _, hm, _, hx⟩
  · simp [Value.cells] at h
    obtain ⟨rfl, rfl, rfl⟩ := h
    exact ⟨none, 0, 0, [], rfl, ⟨rfl, (fun _ => ⟨rfl, rfl⟩), (fun ad e => by cases e)⟩, (fun s hs => by cases hs)⟩
  · simp [Value.cells] at h
    obtain ⟨rfl, rfl, rfl⟩ := h
    have hlm : n ≤ m := by rw [hm]; split <;> omega
    refine ⟨some a, n, c, (List.range n).map Sx, rfl, ⟨by simp, (fun e => by cases e), fun ad e j u hu => ?_⟩, fun s hs => ?_⟩
    · injection e with e
      subst e
      simp only [List.map_map, List.getElem?_map, Option.map_eq_some_iff, Function.comp] at hu
      obtain ⟨i, hi, rfl⟩ := hu
      have hjn : j < n := by have := (List.getElem?_eq_some_iff.1 hi).1; simpa using this
      obtain rfl : j = i := by rw [List.getElem?_range hjn] at hi; exact Option.some.inj hi
      exact (hx j (by omega)).1
    · simp only [List.mem_map, List.mem_range] at hs
      obtain ⟨i, hi, rfl⟩ := hs
      exact (hx i (by omega)).2
end Go.Proofs.YtghjndcbnnbloaaDoor
