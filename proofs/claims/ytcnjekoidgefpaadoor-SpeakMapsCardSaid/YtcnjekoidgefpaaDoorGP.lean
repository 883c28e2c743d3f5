/-
  Poly1305 of the program and of the reference, walked, and their sums are one.
-/
import Derived.Test.YtcnjekoidgefpaaDoorGA
namespace Go.Proofs.YtcnjekoidgefpaaDoor
def mask26 : UInt64 := UInt64.ofNat 67108863
/-- The little-endian number in the first n bytes. -/
def rwN (b : List UInt8) : Nat → UInt64
  | 0 => UInt64.ofNat 0
  | n + 1 => rwN b n ||| ((b.getD n 0).toUInt64 <<< UInt64.ofNat (8 * n))
/-- The bytes with n of them, from o on, those of x. -/
def pwN (l : List UInt8) (o : Nat) (x : UInt64) : Nat → List UInt8
  | 0 => l
  | n + 1 => (pwN l o x n).set (o + n) (x >>> UInt64.ofNat (8 * n)).toUInt8
/-- readNumber's limbs. -/
def rnN (b : List UInt8) : Nat → List UInt64
  | 0 => List.replicate 5 0
  | n + 1 => (rnN b n).set n ((rwN (b.drop (n * 26 / 8)) 4 >>> UInt64.ofNat (n * 26 % 8)) &&& mask26)
def plN (x y : List UInt64) : Nat → List UInt64
  | 0 => x
  | n + 1 => (plN x y n).set n ((plN x y n).getD n 0 + y.getD n 0)
def tmI (x y : List UInt64) (i : Nat) (p : List UInt64) : Nat → List UInt64
  | 0 => p
  | j + 1 => if i + j < 5 then (tmI x y i p j).set (i + j) ((tmI x y i p j).getD (i + j) 0 + x.getD i 0 * y.getD j 0)
    else (tmI x y i p j).set (i + j - 5) ((tmI x y i p j).getD (i + j - 5) 0 + UInt64.ofNat 5 * x.getD i 0 * y.getD j 0)
def tmO (x y : List UInt64) : Nat → List UInt64
  | 0 => List.replicate 5 0
  | i + 1 => tmI x y i (tmO x y i) 5
def crN (x : List UInt64) : Nat → List UInt64 × UInt64
  | 0 => (x, 0)
  | n + 1 => ((crN x n).1.set n (((crN x n).1.getD n 0 + (crN x n).2) &&& mask26), ((crN x n).1.getD n 0 + (crN x n).2) >>> UInt64.ofNat 26)
def fold26 (x : List UInt64) : List UInt64 := (crN x 5).1.set 0 ((crN x 5).1.getD 0 0 + UInt64.ofNat 5 * (crN x 5).2)
def times26 (x y : List UInt64) : List UInt64 := fold26 (fold26 (tmO x y 5))
def less26 (x : List UInt64) : List UInt64 × UInt64 := crN (plN (fold26 x) ((List.replicate 5 0).set 0 (UInt64.ofNat 5)) 5) 5
def red26 (x : List UInt64) : List UInt64 := if (less26 x).2 == UInt64.ofNat 0 then fold26 x else (less26 x).1
def lowW (x : List UInt64) : UInt64 := x.getD 0 0 ||| (x.getD 1 0 <<< UInt64.ofNat 26) ||| (x.getD 2 0 <<< UInt64.ofNat 52)
def highW (x : List UInt64) : UInt64 := (x.getD 2 0 >>> UInt64.ofNat 12) ||| (x.getD 3 0 <<< UInt64.ofNat 14) ||| (x.getD 4 0 <<< UInt64.ofNat 40)
theorem length_rnN (b : List UInt8) (n : Nat) : (rnN b n).length = 5 := by induction n with | zero => rfl | succ n ih => simp [rnN, ih]
theorem length_plN (x y : List UInt64) (n : Nat) : (plN x y n).length = x.length := by induction n with | zero => rfl | succ n ih => simp [plN, ih]
theorem length_tmI (x y : List UInt64) (i : Nat) (p : List UInt64) (n : Nat) : (tmI x y i p n).length = p.length := by
  induction n with
  | zero => rfl
  | succ n ih => simp only [tmI]; split <;> simp [ih]
theorem length_tmO (x y : List UInt64) (n : Nat) : (tmO x y n).length = 5 := by induction n with | zero => rfl | succ n ih => simp [tmO, length_tmI, ih]
theorem length_crN (x : List UInt64) (n : Nat) : (crN x n).1.length = x.length := by induction n with | zero => rfl | succ n ih => simp [crN, ih]
theorem length_fold26 (x : List UInt64) : (fold26 x).length = x.length := by simp [fold26, length_crN]
theorem length_pwN (l : List UInt8) (o : Nat) (x : UInt64) (n : Nat) : (pwN l o x n).length = l.length := by induction n with | zero => rfl | succ n ih => simp [pwN, ih]
theorem length_times26 (x y : List UInt64) : (times26 x y).length = 5 := by simp [times26, length_fold26, length_tmO]
theorem length_red26 (x : List UInt64) : (red26 x).length = x.length := by
  unfold red26 less26; split <;> simp [length_crN, length_plN, length_fold26]
/-! The key's first half, chunks, the sum. -/
def mA (l : List UInt8) : Nat → List UInt8
  | 0 => l
  | j + 1 => (mA l j).set (4 * j + 3) ((mA l j).getD (4 * j + 3) 0 &&& UInt8.ofNat 15)
def mB (l : List UInt8) : Nat → List UInt8
  | 0 => l
  | j + 1 => (mB l j).set (4 * j + 4) ((mB l j).getD (4 * j + 4) 0 &&& UInt8.ofNat 252)
def multL (key : List UInt8) : List UInt8 := mB (mA (key.take 16 ++ [0]) 4) 3
def chunkL (s : List UInt8) : List UInt8 := (s ++ List.replicate (17 - s.length) 0).set s.length (UInt8.ofNat 1)
def padL (s : List UInt8) : List UInt8 := List.replicate ((16 - s.length % 16) % 16) 0
def accN (r : List UInt64) (s : List UInt8) : Nat → List UInt64
  | 0 => List.replicate 5 0
  | j + 1 => times26 (plN (accN r s j) (rnN (chunkL ((s.drop (16 * j)).take 16)) 5) 5) r
def accL (key s : List UInt8) : List UInt64 := red26 (accN (rnN (multL key) 5) s ((s.length + 15) / 16))
def carW (a b c : UInt64) : UInt64 := UInt64.ofNat ((a.toNat + b.toNat + c.toNat) / 18446744073709551616)
def sumLo (key s : List UInt8) : UInt64 := lowW (accL key s) + rwN (key.drop 16) 8 + UInt64.ofNat 0
def sumHi (key s : List UInt8) : UInt64 := highW (accL key s) + rwN (key.drop 24) 8 + carW (lowW (accL key s)) (rwN (key.drop 16) 8) (UInt64.ofNat 0)
def sumL (key s : List UInt8) : List UInt8 := pwN (pwN (List.replicate 16 0) 0 (sumLo key s) 8) 8 (sumHi key s) 8
theorem length_mA (l : List UInt8) (n : Nat) : (mA l n).length = l.length := by induction n with | zero => rfl | succ n ih => simp [mA, ih]
theorem length_mB (l : List UInt8) (n : Nat) : (mB l n).length = l.length := by induction n with | zero => rfl | succ n ih => simp [mB, ih]
theorem length_multL (key : List UInt8) (h : key.length = 32) : (multL key).length = 17 := by simp [multL, length_mA, length_mB, h]
theorem length_chunkL (s : List UInt8) (h : s.length ≤ 16) : (chunkL s).length = 17 := by simp [chunkL]; omega
theorem length_accN (r : List UInt64) (s : List UInt8) (n : Nat) : (accN r s n).length = 5 := by cases n with | zero => rfl | succ n => simp [accN, length_times26]
theorem length_sumL (key s : List UInt8) : (sumL key s).length = 16 := by simp [sumL, length_pwN]
theorem carW_le (a b : UInt64) : (carW a b (UInt64.ofNat 0)).toNat ≤ 1 := by
  have h1 := a.toNat_lt
  have h2 := b.toNat_lt
  have h3 : (UInt64.ofNat 0).toNat = 0 := rfl
  unfold carW
  rw [h3, UInt64.toNat_ofNat_of_lt' (by show _ < 18446744073709551616; omega)]
  omega
end Go.Proofs.YtcnjekoidgefpaaDoor
