/-
  ChaCha20 as plain functions of words and bytes. Nothing of the program is named here.
-/
import Derived.Test.YtaenhghihhhikaaDoorM
namespace Go.Proofs.YtaenhghihhhikaaDoor

def rotl32 (x : UInt32) (n : Nat) : UInt32 := (x <<< UInt32.ofNat n) ||| (x >>> UInt32.ofNat (32 - n))
structure Q4 where
  (a b c d : UInt32)
def qmix (q : Q4) : Q4 :=
  let a1 := q.a + q.b
  let d1 := rotl32 (q.d ^^^ a1) 16
  let c1 := q.c + d1
  let b1 := rotl32 (q.b ^^^ c1) 12
  let a2 := a1 + b1
  let d2 := rotl32 (d1 ^^^ a2) 8
  let c2 := c1 + d2
  let b2 := rotl32 (b1 ^^^ c2) 7
  ⟨a2, b2, c2, d2⟩
def quarter (l : List UInt32) (a b c d : Nat) : List UInt32 :=
  let q := qmix ⟨l.getD a 0, l.getD b 0, l.getD c 0, l.getD d 0⟩
  (((l.set a q.a).set b q.b).set c q.c).set d q.d
theorem length_quarter (l : List UInt32) (a b c d : Nat) : (quarter l a b c d).length = l.length := by simp [quarter]
def quartersL : List (List Nat) := [[0, 4, 8, 12], [1, 5, 9, 13], [2, 6, 10, 14], [3, 7, 11, 15], [0, 5, 10, 15], [1, 6, 11, 12], [2, 7, 8, 13], [3, 4, 9, 14]]
def qAt (i j : Nat) : Nat := (quartersL.getD i []).getD j 0
def qrow (l : List UInt32) (i : Nat) : List UInt32 := quarter l (qAt i 0) (qAt i 1) (qAt i 2) (qAt i 3)
def dbl (l : List UInt32) : Nat → List UInt32
  | 0 => l
  | i + 1 => qrow (dbl l i) i
def rnds (l : List UInt32) : Nat → List UInt32
  | 0 => l
  | n + 1 => dbl (rnds l n) 8
theorem length_dbl (l : List UInt32) (i : Nat) : (dbl l i).length = l.length := by
  induction i with
  | zero => rfl
  | succ i ih => rw [dbl, qrow, length_quarter, ih]
theorem length_rnds (l : List UInt32) (i : Nat) : (rnds l i).length = l.length := by
  induction i with
  | zero => rfl
  | succ i ih => rw [rnds, length_dbl, ih]
/-- The little-endian number of the first k bytes. -/
def le32 (bs : List UInt8) : Nat → UInt32
  | 0 => 0
  | k + 1 => le32 bs k ||| ((bs.getD k 0).toUInt32 <<< UInt32.ofNat (8 * k))
def leWords (bs : List UInt8) (n : Nat) : List UInt32 := (List.range n).map fun t => le32 ((bs.drop (4 * t)).take 4) 4
theorem leWords_succ (bs : List UInt8) (n : Nat) : leWords bs (n + 1) = leWords bs n ++ [le32 ((bs.drop (4 * n)).take 4) 4] := by simp [leWords, List.range_succ]
theorem length_leWords (bs : List UInt8) (n : Nat) : (leWords bs n).length = n := by simp [leWords]
def sigma : List UInt32 := [1634760805, 857760878, 2036477234, 1797285236]
def cInit (key : List UInt8) (ctr : UInt32) (nonce : List UInt8) : List UInt32 := sigma ++ leWords key 8 ++ [ctr] ++ leWords nonce 3
theorem length_cInit (key : List UInt8) (ctr : UInt32) (nonce : List UInt8) : (cInit key ctr nonce).length = 16 := by
  simp [cInit, sigma, length_leWords]
/-- Byte k of a word, counted from the low end. -/
def byteL (x : UInt32) (k : Nat) : UInt8 := (x >>> UInt32.ofNat (8 * k)).toUInt8
def wordBytes (x : UInt32) : List UInt8 := [byteL x 0, byteL x 1, byteL x 2, byteL x 3]
def cSums (l : List UInt32) : List UInt32 := List.zipWith (· + ·) (rnds l 10) l
def outBytes (l : List UInt32) : List UInt8 := l.flatMap wordBytes
/-- The block of the key stream. -/
def cBlock (key : List UInt8) (ctr : UInt32) (nonce : List UInt8) : List UInt8 := outBytes (cSums (cInit key ctr nonce))
theorem length_outBytes (l : List UInt32) : (outBytes l).length = 4 * l.length := by
  induction l with
  | nil => rfl
  | cons a l ih => simp only [outBytes, List.flatMap_cons, List.length_append, List.length_cons] at ih ⊢; rw [ih]; simp [wordBytes]; omega
theorem length_cSums (l : List UInt32) : (cSums l).length = l.length := by simp [cSums, length_rnds]
theorem length_cBlock (key : List UInt8) (ctr : UInt32) (nonce : List UInt8) : (cBlock key ctr nonce).length = 64 := by
  rw [cBlock, length_outBytes, length_cSums, length_cInit]
theorem outBytes_succ (l : List UInt32) (k : Nat) (h : k < l.length) : outBytes (l.take (k + 1)) = outBytes (l.take k) ++ wordBytes l[k] := by
  unfold outBytes; rw [List.take_succ_eq_append_getElem h, List.flatMap_append]; simp
/-- The bytes with the key stream. -/
def cXor (key : List UInt8) (ctr : UInt32) (nonce s : List UInt8) : List UInt8 := s.mapIdx fun i b => b ^^^ (cBlock key (ctr + UInt32.ofNat (i / 64)) nonce).getD (i % 64) 0
theorem length_cXor (key : List UInt8) (ctr : UInt32) (nonce s : List UInt8) : (cXor key ctr nonce s).length = s.length := by simp [cXor]
theorem get_cXor (key : List UInt8) (ctr : UInt32) (nonce s : List UInt8) (i : Nat) (h : i < s.length) : (cXor key ctr nonce s)[i]? = some (s[i] ^^^ (cBlock key (ctr + UInt32.ofNat (i / 64)) nonce).getD (i % 64) 0) := by
  simp [cXor, h]
theorem cXor_twice (key : List UInt8) (ctr : UInt32) (nonce s : List UInt8) : cXor key ctr nonce (cXor key ctr nonce s) = s := by
  apply List.ext_getElem?
  intro i
  by_cases h : i < s.length
  · have h2 : i < (cXor key ctr nonce s).length := by rw [length_cXor]; exact h
    rw [get_cXor _ _ _ _ i h2]
    have e := get_cXor key ctr nonce s i h
    rw [List.getElem?_eq_getElem h2] at e
    rw [Option.some.inj e, UInt8.xor_assoc, UInt8.xor_self, UInt8.xor_zero, List.getElem?_eq_getElem h]
  · rw [List.getElem?_eq_none (by rw [length_cXor, length_cXor]; omega), List.getElem?_eq_none (by omega)]
theorem cXor_parts (key nonce s : List UInt8) (k : Nat) (h : 64 * k ≤ s.length) : cXor key 0 nonce (s.take (64 * k)) ++ cXor key (UInt32.ofNat k) nonce (s.drop (64 * k)) = cXor key 0 nonce s := by
  apply List.ext_getElem?
  intro i
  by_cases hi : i < s.length
  · rw [get_cXor _ _ _ _ i hi]
    by_cases h2 : i < 64 * k
    · rw [List.getElem?_append_left (by rw [length_cXor]; simp; omega), get_cXor _ _ _ _ i (by simp; omega)]
      simp
    · rw [List.getElem?_append_right (by rw [length_cXor]; simp; omega), length_cXor, List.length_take, show i - min (64 * k) s.length = i - 64 * k by omega,
        get_cXor _ _ _ _ (i - 64 * k) (by simp; omega)]
      have e1 : (s.drop (64 * k))[i - 64 * k]'(by simp; omega) = s[i] := by
        rw [List.getElem_drop]; congr 1; omega
      rw [e1, show (i - 64 * k) % 64 = i % 64 by omega]
      have e2 : UInt32.ofNat k + UInt32.ofNat ((i - 64 * k) / 64) = 0 + UInt32.ofNat (i / 64) := by
        rw [← UInt32.ofNat_add, UInt32.zero_add]; congr 1; omega
      rw [e2]
  · rw [List.getElem?_eq_none (by simp [length_cXor]; omega), List.getElem?_eq_none (by rw [length_cXor]; omega)]
end Go.Proofs.YtaenhghihhhikaaDoor
