/-
  Hexadecimal digits: the plain side. Nothing of the program is named here.
-/
import Derived.Test.YtaenhghihhhikaaDoorM
namespace Go.Proofs.YtaenhghihhhikaaDoor
/-- The hexadecimal digit of a number below 16. -/
def hexDigit (d : UInt8) : UInt8 := if d < 10 then 48 + d else 87 + d
def hexL (l : List UInt8) : List UInt8 := l.flatMap fun b => [hexDigit (b / 16), hexDigit (b % 16)]
def hexAt (l : List UInt8) (j : Nat) : UInt8 := if j % 2 = 0 then hexDigit (l.getD (j / 2) 0 / 16) else hexDigit (l.getD (j / 2) 0 % 16)
theorem length_hexL (l : List UInt8) : (hexL l).length = 2 * l.length := by
  induction l with
  | nil => rfl
  | cons a l ih => simp only [hexL, List.flatMap_cons, List.length_append, List.length_cons, List.length_nil] at ih ⊢; omega
theorem hexL_get (l : List UInt8) : ∀ j, j < 2 * l.length → (hexL l)[j]? = some (hexAt l j) := by
  induction l with
  | nil => intro j h; simp at h
  | cons a l ih =>
    intro j h
    match j, h with
    | 0, _ => rfl
    | 1, _ => rfl
    | j + 2, h =>
      have := ih j (by simp at h; omega)
      show (hexL l)[j]? = _
      rw [this]
      unfold hexAt
      rw [show (j + 2) % 2 = j % 2 by omega, show (j + 2) / 2 = j / 2 + 1 by omega]
      rfl
theorem hexL_succ (l : List UInt8) (k : Nat) (h : k < l.length) : hexL (l.take (k + 1)) = hexL (l.take k) ++ [hexDigit (l[k] / 16), hexDigit (l[k] % 16)] := by
  unfold hexL; rw [List.take_succ_eq_append_getElem h, List.flatMap_append]; rfl
theorem hexL_cells (l : List UInt8) (n : Nat) (h : n = 2 * l.length) : mixF (fun _ => U8 0) (fun j => U8 (hexAt l j)) n n = ((hexL l).map U8).toArray := by
  subst h
  apply Array.ext_getElem?
  intro j
  by_cases hj : j < 2 * l.length
  · rw [get_mixF _ _ _ _ _ hj, if_pos hj]; simp [hexL_get l j hj]
  · rw [Array.getElem?_eq_none (by rw [size_mixF]; omega), Array.getElem?_eq_none (by simp [length_hexL]; omega)]
theorem hex_idx (d : Nat) (h : d < (ByteArray.mk #[48, 49, 50, 51, 52, 53, 54, 55, 56, 57, 97, 98, 99, 100, 101, 102]).size) : (ByteArray.mk #[48, 49, 50, 51, 52, 53, 54, 55, 56, 57, 97, 98, 99, 100, 101, 102])[d] = hexDigit (UInt8.ofNat d) := by
  have e : ∀ d : Fin 16, (ByteArray.mk #[48, 49, 50, 51, 52, 53, 54, 55, 56, 57, 97, 98, 99, 100, 101, 102])[d.val]'d.isLt = hexDigit (UInt8.ofNat d.val) := by decide
  exact e ⟨d, h⟩
theorem ofNat_div16 (b : UInt8) : UInt8.ofNat (b.toNat / 16) = b / 16 := by
  apply UInt8.toNat_inj.1; rw [UInt8.toNat_div]; simp [UInt8.toNat_ofNat']; have := b.toNat_lt; omega
theorem ofNat_mod16 (b : UInt8) : UInt8.ofNat (b.toNat % 16) = b % 16 := by
  apply UInt8.toNat_inj.1; rw [UInt8.toNat_mod]; simp [UInt8.toNat_ofNat']; have := b.toNat_lt; omega
def abc256 : List UInt8 := [98, 97, 55, 56, 49, 54, 98, 102, 56, 102, 48, 49, 99, 102, 101, 97, 52, 49, 52, 49, 52, 48, 100, 101, 53, 100, 97, 101, 50, 50, 50, 51, 98, 48, 48, 51, 54, 49, 97, 51, 57, 54, 49, 55, 55, 97, 57, 99, 98, 52, 49, 48, 102, 102, 54, 49, 102, 50, 48, 48, 49, 53, 97, 100]
def abc512 : List UInt8 := [100, 100, 97, 102, 51, 53, 97, 49, 57, 51, 54, 49, 55, 97, 98, 97, 99, 99, 52, 49, 55, 51, 52, 57, 97, 101, 50, 48, 52, 49, 51, 49, 49, 50, 101, 54, 102, 97, 52, 101, 56, 57, 97, 57, 55, 101, 97, 50, 48, 97, 57, 101, 101, 101, 101, 54, 52, 98, 53, 53, 100, 51, 57, 97, 50, 49, 57, 50, 57, 57, 50, 97, 50, 55, 52, 102, 99, 49, 97, 56, 51, 54, 98, 97, 51, 99, 50, 51, 97, 51, 102, 101, 101, 98, 98, 100, 52, 53, 52, 100, 52, 52, 50, 51, 54, 52, 51, 99, 101, 56, 48, 101, 50, 97, 57, 97, 99, 57, 52, 102, 97, 53, 52, 99, 97, 52, 57, 102]
end Go.Proofs.YtaenhghihhhikaaDoor
