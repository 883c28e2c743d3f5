/-
  Texts of this claim.
-/
import Derived.Test.YticickigndgpcaaDoorGEA
namespace Go.Proofs.YticickigndgpcaaDoor
open Go.RowKit
def offC (o : Nat) (cs : List AV) : List AV := List.replicate o .hole ++ cs
def AV.flatV : AV → Bool
  | .u8 _ | .u32 _ | .u64 _ | .i64 _ | .bool _ | .str _ | .hole | .dsl _ => true
  | _ => false
theorem flat_ren {x : AV} (h : x.flatV = true) (f : Nat → Nat) : x.ren f = x := by cases x <;> first | rfl | cases h
theorem flat_names {x : AV} (h : x.flatV = true) : x.names = [] := by cases x <;> first | rfl | cases h
theorem offC_len (o : Nat) (cs : List AV) : (AV.agg (offC o cs)).len = o + cs.length := by
  show (offC o cs).length = _
  unfold offC
  rw [List.length_append, List.length_replicate]
theorem offC_nth {o i : Nat} {cs : List AV} {v : AV} (h : cs[i]? = some v) : (AV.agg (offC o cs)).nth (o + i) = some v := by
  show (offC o cs)[o + i]? = _
  unfold offC
  rw [List.getElem?_append_right (by rw [List.length_replicate]; omega), List.length_replicate, show o + i - o = i by omega, h]
theorem offC_flat {o : Nat} {cs : List AV} (h : cs.all AV.flatV = true) : (offC o cs).all AV.flatV = true := by
  unfold offC
  rw [List.all_append, h, Bool.and_true]
  exact List.all_eq_true.2 fun x hx => by rw [List.eq_of_mem_replicate hx]; rfl
theorem flat_list {l : List AV} (h : l.all AV.flatV = true) : (∀ f, AV.renL f l = l) ∧ AV.namesL l = [] := by
  induction l with
  | nil => exact ⟨fun _ => rfl, rfl⟩
  | cons x l ih =>
    rw [List.all_cons, Bool.and_eq_true] at h
    obtain ⟨h1, h2⟩ := ih h.2
    exact ⟨fun f => by show x.ren f :: AV.renL f l = _; rw [h1 f, flat_ren h.1], by show x.names ++ AV.namesL l = _; rw [h2, flat_names h.1]; rfl⟩
theorem offC_ren (f : Nat → Nat) (o : Nat) {cs : List AV} (h : cs.all AV.flatV = true) : (AV.agg (offC o cs)).ren f = AV.agg (offC o cs) := by
  show AV.agg (AV.renL f (offC o cs)) = _
  rw [(flat_list (offC_flat h)).1 f]
theorem offC_nm (L : List (Nat × Nat)) (o : Nat) {cs : List AV} (h : cs.all AV.flatV = true) : nmOk L (AV.agg (offC o cs)).names = true := by
  show nmOk L (AV.namesL (offC o cs)) = true
  rw [(flat_list (offC_flat h)).2]; rfl
def rowsC {α : Type} (f : α → List AV) (l : List α) : List AV := l.flatMap f
section
variable {α : Type} {f : α → List AV} {z : Nat}
theorem rowsC_len (hz : ∀ a, (f a).length = z) (l : List α) : (rowsC f l).length = l.length * z := by
  induction l with
  | nil => simp [rowsC]
  | cons a l ih =>
    show (f a ++ rowsC f l).length = _
    rw [List.length_append, hz, ih, List.length_cons, Nat.add_mul]; omega
theorem rowsC_nth (hz : ∀ a, (f a).length = z) {l : List α} {i : Nat} {a : α} (hi : l[i]? = some a) {k : Nat} (hk : k < z) : (rowsC f l)[i * z + k]? = (f a)[k]? := by
  induction l generalizing i with
  | nil => simp at hi
  | cons b l ih =>
    show (f b ++ rowsC f l)[i * z + k]? = _
    cases i with
    | zero =>
      simp only [List.getElem?_cons_zero, Option.some.injEq] at hi
      subst hi
      rw [List.getElem?_append_left (by rw [hz]; omega), Nat.zero_mul, Nat.zero_add]
    | succ i =>
      rw [List.getElem?_cons_succ] at hi
      rw [List.getElem?_append_right (by rw [hz, Nat.add_mul]; omega), hz, show (i + 1) * z + k - z = i * z + k by rw [Nat.add_mul]; omega]
      exact ih hi
theorem rowsC_flat (h : ∀ a, (f a).all AV.flatV = true) (l : List α) : (rowsC f l).all AV.flatV = true := by
  induction l with
  | nil => rfl
  | cons a l ih =>
    show (f a ++ rowsC f l).all AV.flatV = true
    rw [List.all_append, h, ih]; rfl
end
end Go.Proofs.YticickigndgpcaaDoor
