/-
  Texts of this claim.
-/
import Derived.Test.YticickigndgpcaaDoorGX6A
import Derived.Test.YticickigndgpcaaDoorGX7A
namespace Go.Proofs.YticickigndgpcaaDoor
open Go.RowKit
end Go.Proofs.YticickigndgpcaaDoor
namespace Go.Proofs.YticickigndgpcaaDoor
open Go.RowKit
theorem Ev.monoQ {P : Program} {nt : Nat} {c : Code} {st : St} {post post' : Exit → St → Prop} (h : Ev P nt c st post) (hp : ∀ e st', post e st' → post' e st') : Ev P nt c st post' :=
  fun E S n0 a w hn hR => wp_mono (h E S n0 a w hn hR) fun _ _ _ ⟨st', E', h1, h2⟩ => ⟨st', E', ⟨h1.1, hp _ _ h1.2⟩, h2⟩
theorem op_neqLsQ {T : Nat → Option AV} {H : Hp} {nm : Nat} {wr : Bool} {d : Option Tmp} {ty t' : TypeId} {ps : String} {af : Array Edge} {gd : Option (Nat × Bool)} {x y : Operand} {p q : Ls} (hx : aev T x = some (lsV p)) (hy : aev T y = some (lsV q)) :
    OpSem Tryd.prog T H ⟨d, .binOp .neq 45 x y t', ty, ps, af, gd⟩ nm wr (.bool (!decide (p = q))) [] :=
  op_bin hx hy fun E y1 y2 w h1 h2 => by
    rw [ls_val p E _ h1, ls_val q E _ h2]
    exact ⟨.bool _, neq_of_run (by kernel_rfl) (run_eqLsP 9998 p q w), .bool _⟩
theorem Ev.cutp {P : Program} {nt : Nat} {c y : Code} {st : St} {post : Exit → St → Prop} {ι : Type} (S : ι → St) (h1 : Ev P nt c st (thenA (fun st' => ∃ i, StLe nt st' (S i)) post)) (h2 : ∀ i, Ev P nt y (S i) post) : Ev P nt c st (thenA (fun st' => Ev P nt y st' post) post) :=
  h1.monoQ fun e st' h => by
    cases e with
    | normal => obtain ⟨i, hi⟩ := h; exact Ev.weak hi (h2 i)
    | _ => exact h
section
variable {a b ep : Int} {L : List Ls}
end
theorem take_cases (a b : Int) (L : List Ls) (T A : List UInt8) (o : Int) :
    nameN T = false ∨ (nameN T = true ∧ nameN A = false) ∨ (nameN T = true ∧ nameN A = true ∧ ∃ x, x ∈ L ∧ x.t = T ∧ x.a = A ∧ x.o = o) ∨ (nameN T = true ∧ nameN A = true ∧ ∃ x, x ∈ L ∧ x.t = T ∧ x.a = A ∧ x.o ≠ o) ∨
      (nameN T = true ∧ nameN A = true ∧ (∀ x ∈ L, ¬ (x.t = T ∧ x.a = A)) ∧ a ≤ ((L.filter (fun x => x.t == T)).length : Nat)) ∨
      (nameN T = true ∧ nameN A = true ∧ (∀ x ∈ L, ¬ (x.t = T ∧ x.a = A)) ∧ ¬ a ≤ ((L.filter (fun x => x.t == T)).length : Nat) ∧ b ≤ (L.length : Nat)) ∨
      (nameN T = true ∧ nameN A = true ∧ (∀ x ∈ L, ¬ (x.t = T ∧ x.a = A)) ∧ ¬ a ≤ ((L.filter (fun x => x.t == T)).length : Nat) ∧ ¬ b ≤ (L.length : Nat)) := by
  cases hT : nameN T with
  | false => exact .inl rfl
  | true =>
  cases hA : nameN A with
  | false => exact .inr (.inl ⟨rfl, rfl⟩)
  | true =>
  by_cases hx : ∃ x ∈ L, x.t = T ∧ x.a = A
  · obtain ⟨x, hx, h1, h2⟩ := hx
    by_cases hw : x.o = o
    · exact .inr (.inr (.inl ⟨rfl, rfl, x, hx, h1, h2, hw⟩))
    · exact .inr (.inr (.inr (.inl ⟨rfl, rfl, x, hx, h1, h2, hw⟩)))
  · have hn : ∀ x ∈ L, ¬ (x.t = T ∧ x.a = A) := fun x hx' e => hx ⟨x, hx', e⟩
    by_cases hq : a ≤ ((L.filter (fun x => x.t == T)).length : Nat)
    · exact .inr (.inr (.inr (.inr (.inl ⟨rfl, rfl, hn, hq⟩))))
    · by_cases hf : b ≤ (L.length : Nat)
      · exact .inr (.inr (.inr (.inr (.inr (.inl ⟨rfl, rfl, hn, hq, hf⟩)))))
      · exact .inr (.inr (.inr (.inr (.inr (.inr ⟨rfl, rfl, hn, hq, hf⟩)))))
end Go.Proofs.YticickigndgpcaaDoor
