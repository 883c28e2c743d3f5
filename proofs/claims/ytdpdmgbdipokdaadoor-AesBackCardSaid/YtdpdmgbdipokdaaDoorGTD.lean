/-
  Texts of this claim.
-/
import Derived.JoinedOf
namespace Go.Proofs.YtdpdmgbdipokdaaDoor
open Go
theorem closureVia_in {P : Program} (Q : FuncId → Prop) (hq : ∀ g, Q g → ∀ h ∈ (P.funcs[g]?).elim [] P.leadsTo, Q h) : ∀ (n : Nat) (todo seen : List FuncId), (∀ x ∈ todo, Q x) → (∀ x ∈ seen, Q x) → ∀ x ∈ P.closureVia n todo seen, Q x
  | 0, todo, seen, _, hs, x, hx => by
    unfold Program.closureVia at hx
    exact hs x (by simpa using hx)
  | n + 1, [], seen, _, hs, x, hx => by
    unfold Program.closureVia at hx
    exact hs x (by simpa using hx)
  | n + 1, f :: todo, seen, ht, hs, x, hx => by
    unfold Program.closureVia at hx
    split at hx
    · exact closureVia_in Q hq n todo seen (fun y hy => ht y (List.mem_cons_of_mem _ hy)) hs x hx
    · refine closureVia_in Q hq n _ _ (fun y hy => ?_) (fun y hy => ?_) x hx
      · rcases List.mem_append.1 hy with h | h
        · exact hq f (ht f (List.mem_cons_self ..)) y h
        · exact ht y (List.mem_cons_of_mem _ h)
      · rcases List.mem_cons.1 hy with h | h
        · subst h; exact ht _ (List.mem_cons_self ..)
        · exact hs y h
theorem recurses_no {P : Program} {f : FuncId} (S : List FuncId) (hf : S.contains f = true) (hS : (S.all fun g => ((P.funcs[g]?).elim [] P.leadsTo).all fun h => S.contains h && Nat.blt (S.idxOf g) (S.idxOf h)) = true) (hu : P.unfollowed f = false) : P.recurses f = false := by
  have edge : ∀ g ∈ S, ∀ h ∈ (P.funcs[g]?).elim [] P.leadsTo, h ∈ S ∧ S.idxOf g < S.idxOf h := fun g hg h hh => by
    have h1 := List.all_eq_true.1 (List.all_eq_true.1 hS g hg) h hh
    simp only [Bool.and_eq_true] at h1
    exact ⟨by simpa using h1.1, Nat.le_of_ble_eq_true h1.2⟩
  unfold Program.recurses
  rw [hu, Bool.false_or]
  cases hq : (P.closure f).any fun g => ((P.funcs[g]?).elim [] P.leadsTo).any fun h => (P.closure h).contains g with
  | false => rfl
  | true =>
    obtain ⟨g, hg, h2⟩ := List.any_eq_true.1 hq
    obtain ⟨h, hh, h3⟩ := List.any_eq_true.1 h2
    have hgS : g ∈ S := closureVia_in (fun x => x ∈ S) (fun x hx y hy => (edge x hx y hy).1) _ [f] [] (fun x hx => by simp at hx; subst hx; simpa using hf) (fun x hx => by cases hx) g hg
    obtain ⟨hhS, hlt⟩ := edge g hgS h hh
    have := closureVia_in (P := P) (fun x => x ∈ S ∧ S.idxOf h ≤ S.idxOf x) (fun x hx y hy => by
      obtain ⟨e1, e2⟩ := edge x hx.1 y hy
      exact ⟨e1, Nat.le_of_lt (Nat.lt_of_le_of_lt hx.2 e2)⟩) _ [h] [] (fun x hx => by simp at hx; subst hx; exact ⟨hhS, Nat.le_refl _⟩) (fun x hx => by cases hx) g (by simpa [Program.closure] using h3)
    omega
theorem recurses_yes {P : Program} {f : FuncId} (g h : FuncId) (hg : (P.closure f).contains g = true) (hh : ((P.funcs[g]?).elim [] P.leadsTo).contains h = true) (hc : (P.closure h).contains g = true) : P.recurses f = true := by
  unfold Program.recurses
  have : ((P.closure f).any fun g => ((P.funcs[g]?).elim [] P.leadsTo).any fun h => (P.closure h).contains g) = true :=
    List.any_eq_true.2 ⟨g, by simpa using hg, List.any_eq_true.2 ⟨h, by simpa using hh, hc⟩⟩
  rw [this, Bool.or_true]
end Go.Proofs.YtdpdmgbdipokdaaDoor
