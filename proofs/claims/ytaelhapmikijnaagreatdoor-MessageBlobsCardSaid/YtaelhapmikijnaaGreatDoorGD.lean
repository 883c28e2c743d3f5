/-
  Texts of this claim.
-/
import Derived.Test.YtaelhapmikijnaaGreatDoorGY
namespace Go.Proofs.YtaelhapmikijnaaGreatDoor
open Go.RowKit
theorem rawD_app {a r : List UInt8} {e : Nat} {n : Nat} (h : a.length = n) : rawD ⟨a ++ r, e⟩ n = (⟨r, e⟩, a) := by
  unfold rawD
  rw [if_pos (by simp; omega)]
  simp only [← h, List.take_left, List.drop_left]
theorem shl8 (n : UInt64) (b : UInt8) (h : n.toNat < 2 ^ 56) : (n <<< UInt64.ofNat 8 ||| b.toUInt64).toNat = n.toNat * 256 + b.toNat := by
  have hb := b.toNat_lt
  rw [UInt64.toNat_or, UInt64.toNat_shiftLeft]
  have e : (UInt64.ofNat 8).toNat % 64 = 8 := rfl
  rw [e, UInt8.toNat_toUInt64, Nat.mod_eq_of_lt (by rw [Nat.shiftLeft_eq]; omega), Nat.shiftLeft_eq]
  rw [show n.toNat * 2 ^ 8 = 2 ^ 8 * n.toNat by omega]
  have hq : b.toNat < 2 ^ 8 := hb
  rw [← Nat.two_pow_add_eq_or_of_lt hq]
theorem byteAt (x : UInt64) (k : Nat) (hk : k < 64) : (x >>> UInt64.ofNat k).toUInt8.toNat = x.toNat / 2 ^ k % 256 := by
  rw [UInt64.toNat_toUInt8, UInt64.toNat_shiftRight]
  have e : (UInt64.ofNat k).toNat % 64 = k := by
    rw [UInt64.toNat_ofNat_of_lt' (by simp [UInt64.size]; omega)]; exact Nat.mod_eq_of_lt hk
  rw [e, Nat.shiftRight_eq_div_pow]
theorem num4 (x : UInt64) : numB x 4 4 = [(x >>> UInt64.ofNat 24).toUInt8, (x >>> UInt64.ofNat 16).toUInt8, (x >>> UInt64.ofNat 8).toUInt8, (x >>> UInt64.ofNat 0).toUInt8] := rfl
theorem numV4 (a b c d : UInt8) : (numV [a, b, c, d]).toNat = ((a.toNat * 256 + b.toNat) * 256 + c.toNat) * 256 + d.toNat := by
  have ha := a.toNat_lt
  have hb := b.toNat_lt
  have hc := c.toNat_lt
  show (numL [a, b, c, d] 4).toNat = _
  have h1 : (numL [a, b, c, d] 1).toNat = a.toNat := by
    show ((0 : UInt64) <<< UInt64.ofNat 8 ||| a.toUInt64).toNat = _
    rw [shl8 _ _ (show (0 : UInt64).toNat < 2 ^ 56 by decide)]
    show (0 : UInt64).toNat * 256 + _ = _
    simp
  have h2 : (numL [a, b, c, d] 2).toNat = a.toNat * 256 + b.toNat := by
    show (numL [a, b, c, d] 1 <<< UInt64.ofNat 8 ||| b.toUInt64).toNat = _
    rw [shl8 _ _ (by rw [h1]; omega), h1]
  have h3 : (numL [a, b, c, d] 3).toNat = (a.toNat * 256 + b.toNat) * 256 + c.toNat := by
    show (numL [a, b, c, d] 2 <<< UInt64.ofNat 8 ||| c.toUInt64).toNat = _
    rw [shl8 _ _ (by rw [h2]; omega), h2]
  show (numL [a, b, c, d] 3 <<< UInt64.ofNat 8 ||| d.toUInt64).toNat = _
  rw [shl8 _ _ (by rw [h3]; omega), h3]
theorem numV_num4 (x : UInt32) : (numV (numB x.toUInt64 4 4)).toUInt32 = x := by
  apply UInt32.toNat_inj.1
  rw [UInt64.toNat_toUInt32, num4, numV4, byteAt _ _ (by decide), byteAt _ _ (by decide), byteAt _ _ (by decide), byteAt _ _ (by decide), UInt32.toNat_toUInt64]
  have := x.toNat_lt
  omega
theorem u32D_app (x : UInt32) (r : List UInt8) (e : Nat) : u32D ⟨numB x.toUInt64 4 4 ++ r, e⟩ = (⟨r, e⟩, x) := by
  unfold u32D numD
  rw [rawD_app (length_numB _ _ _), numV_num4]
theorem textD_app (s r : List UInt8) (e : Nat) (m : Int) (hs : (s.length : Int) ≤ m) (hb : s.length < 4294967296) : textD ⟨textB s ++ r, e⟩ m = (⟨r, e⟩, s) := by
  unfold textD textB lenB
  rw [List.append_assoc, u32D_app]
  have hn : (ofI32 (s.length : Int)).toNat = s.length := by
    have := ofI32_toNat (s.length : Int)
    omega
  simp only [hn]
  rw [if_neg (by omega), rawD_app rfl]
theorem byteD_app (c : UInt8) (r : List UInt8) (e : Nat) : byteD ⟨c :: r, e⟩ = (⟨r, e⟩, c) := by
  unfold byteD numD
  rw [show (c :: r) = [c] ++ r from rfl, rawD_app (n := 1) rfl]
  have h : (numV [c]).toNat = c.toNat := by
    show ((0 : UInt64) <<< UInt64.ofNat 8 ||| c.toUInt64).toNat = _
    rw [shl8 _ _ (show (0 : UInt64).toNat < 2 ^ 56 by decide)]
    show (0 : UInt64).toNat * 256 + _ = _
    simp
  have : (numV [c]).toUInt8 = c := by
    apply UInt8.toNat_inj.1
    rw [UInt64.toNat_toUInt8, h]
    have := c.toNat_lt
    omega
  simp only [this]
theorem boolD_app (b : Bool) (r : List UInt8) (e : Nat) : boolD ⟨boolB b ++ r, e⟩ = (⟨r, e⟩, b) := by
  unfold boolD boolB
  rw [show ([if b then (1 : UInt8) else 0] ++ r) = (if b then 1 else 0) :: r from rfl, byteD_app]
  cases b <;> rfl
theorem rawD_all (r : List UInt8) (e : Nat) : rawD ⟨r, e⟩ r.length = (⟨[], e⟩, r) := by
  have := rawD_app (a := r) (r := []) (e := e) rfl
  rwa [List.append_nil] at this
end Go.Proofs.YtaelhapmikijnaaGreatDoor
