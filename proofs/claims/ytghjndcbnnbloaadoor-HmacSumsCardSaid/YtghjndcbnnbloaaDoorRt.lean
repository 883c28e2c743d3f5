/-
  The plain side of the reference's sum: what is laid behind the text, byte by byte. Nothing of the program is named here.
-/
import Derived.Test.YtghjndcbnnbloaaDoorPd
import Derived.Test.YtghjndcbnnbloaaDoorEm
import Derived.Test.YtghjndcbnnbloaaDoorAp
namespace Go.Proofs.YtghjndcbnnbloaaDoor
open Go.RowKit
/-- The low k bytes of a number, the highest first. -/
def lowBytes (B : Nat) : Nat → List UInt8
  | 0 => []
  | k + 1 => byte64 (UInt64.ofNat B) k :: lowBytes B k
theorem length_lowBytes (B k : Nat) : (lowBytes B k).length = k := by
  induction k with
  | zero => rfl
  | succ k ih => simp [lowBytes, ih]
theorem lowBytes_get (B : Nat) : ∀ k j, j < k → (lowBytes B k)[j]? = some (byte64 (UInt64.ofNat B) (k - 1 - j)) := by
  intro k
  induction k with
  | zero => intro j h; omega
  | succ k ih =>
    intro j h
    match j with
    | 0 => simp [lowBytes]
    | j + 1 => rw [lowBytes, List.getElem?_cons_succ, ih j (by omega), show k + 1 - 1 - (j + 1) = k - 1 - j by omega]
theorem byte_low (B k : Nat) (hB : B < 18446744073709551616) (hk : k < 8) : IntKind.u8.wrap (((B / 256 ^ k : Nat) : Int) % 256) = n8 (byte64 (UInt64.ofNat B) k) := by
  rw [← byte64_eq _ _ hk, ← lit_n64 B hB, (show ∀ k : Fin 8, (2 : Int) ^ (8 * k.val) = ((256 ^ k.val : Nat) : Int) by decide) ⟨k, hk⟩]
  rw [wrap_u8, wrap_u8, ← Int.natCast_ediv]
  generalize B / 256 ^ k = q
  omega
theorem pad_split (S n z : Nat) (hn : n = 1 + z + 8) : padBytes n S = 128 :: (List.replicate z 0 ++ lowBytes (S * 8) 8) := by
  apply List.ext_getElem?
  intro j
  by_cases hj : j < n
  · have e : (padBytes n S)[j]? = some (if n - 8 ≤ j then byte64 (UInt64.ofNat (S * 8)) (n - 1 - j) else if j = 0 then 128 else 0) := by simp [padBytes, hj]
    rw [e]
    match j with
    | 0 => rw [if_neg (by omega), if_pos rfl]; rfl
    | j + 1 =>
      rw [List.getElem?_cons_succ]
      by_cases h2 : j < z
      · rw [if_neg (by omega), if_neg (by omega), List.getElem?_append_left (by simp; exact h2), List.getElem?_replicate, if_pos h2]
      · rw [if_pos (by omega), List.getElem?_append_right (by simp; omega), List.length_replicate, lowBytes_get _ _ _ (by omega), show 8 - 1 - (j - z) = n - 1 - (j + 1) by omega]
  · rw [List.getElem?_eq_none (by simp [padBytes]; omega), List.getElem?_eq_none (by simp [length_lowBytes]; omega)]
end Go.Proofs.YtghjndcbnnbloaaDoor
