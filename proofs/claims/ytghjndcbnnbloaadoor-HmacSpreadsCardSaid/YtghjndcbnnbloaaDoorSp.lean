/-
  The hash functions' words as plain functions. Nothing of the program is named here.
-/
import Derived.Test.YtghjndcbnnbloaaDoorM
namespace Go.Proofs.YtghjndcbnnbloaaDoor

def rotr32 (x : UInt32) (n : Nat) : UInt32 := (x <<< UInt32.ofNat (32 - n)) ||| (x >>> UInt32.ofNat n)
def ch32 (e f g : UInt32) : UInt32 := (e &&& f) ^^^ (~~~e &&& g)
def maj32 (a b c : UInt32) : UInt32 := (a &&& b) ^^^ (a &&& c) ^^^ (b &&& c)
structure St32 where
  (v0 v1 v2 v3 v4 v5 v6 v7 : UInt32)
def St32.cells (s : St32) : Array Value := #[U32 s.v0, U32 s.v1, U32 s.v2, U32 s.v3, U32 s.v4, U32 s.v5, U32 s.v6, U32 s.v7]
def stepSt32 (s : St32) (e0 e1 kw : UInt32) : St32 :=
  { v0 := s.v7 + e1 + ch32 s.v4 s.v5 s.v6 + kw + (e0 + maj32 s.v0 s.v1 s.v2), v1 := s.v0, v2 := s.v1, v3 := s.v2, v4 := s.v3 + (s.v7 + e1 + ch32 s.v4 s.v5 s.v6 + kw), v5 := s.v4, v6 := s.v5, v7 := s.v6 }

def sig0_32 (x : UInt32) : UInt32 := rotr32 x 7 ^^^ rotr32 x 18 ^^^ (x >>> 3)
def sig1_32 (y : UInt32) : UInt32 := rotr32 y 17 ^^^ rotr32 y 19 ^^^ (y >>> 10)
def schedStep32 (l : List UInt32) (i : Nat) : List UInt32 := l ++ [sig1_32 (l.getD (i + 14) 0) + l.getD (i + 9) 0 + sig0_32 (l.getD (i + 1) 0) + l.getD i 0]
def sched32 (l : List UInt32) : Nat → List UInt32
  | 0 => l
  | n + 1 => schedStep32 (sched32 l n) n
theorem length_sched32 (l : List UInt32) (n : Nat) : (sched32 l n).length = l.length + n := by
  induction n with
  | zero => rfl
  | succ n ih => simp [sched32, schedStep32, ih]; omega

def bigE0_32 (x : UInt32) : UInt32 := rotr32 x 2 ^^^ rotr32 x 13 ^^^ rotr32 x 22
def bigE1_32 (x : UInt32) : UInt32 := rotr32 x 6 ^^^ rotr32 x 11 ^^^ rotr32 x 25
def K256 : List UInt32 := [0x428a2f98, 0x71374491, 0xb5c0fbcf, 0xe9b5dba5, 0x3956c25b, 0x59f111f1, 0x923f82a4, 0xab1c5ed5, 0xd807aa98, 0x12835b01, 0x243185be, 0x550c7dc3, 0x72be5d74, 0x80deb1fe, 0x9bdc06a7, 0xc19bf174, 0xe49b69c1, 0xefbe4786, 0x0fc19dc6, 0x240ca1cc, 0x2de92c6f, 0x4a7484aa, 0x5cb0a9dc, 0x76f988da, 0x983e5152, 0xa831c66d, 0xb00327c8, 0xbf597fc7, 0xc6e00bf3, 0xd5a79147, 0x06ca6351, 0x14292967, 0x27b70a85, 0x2e1b2138, 0x4d2c6dfc, 0x53380d13, 0x650a7354, 0x766a0abb, 0x81c2c92e, 0x92722c85, 0xa2bfe8a1, 0xa81a664b, 0xc24b8b70, 0xc76c51a3, 0xd192e819, 0xd6990624, 0xf40e3585, 0x106aa070, 0x19a4c116, 0x1e376c08, 0x2748774c, 0x34b0bcb5, 0x391c0cb3, 0x4ed8aa4a, 0x5b9cca4f, 0x682e6ff3, 0x748f82ee, 0x78a5636f, 0x84c87814, 0x8cc70208, 0x90befffa, 0xa4506ceb, 0xbef9a3f7, 0xc67178f2]
def rounds32 (ws : List UInt32) (s : St32) : Nat → St32
  | 0 => s
  | t + 1 => stepSt32 (rounds32 ws s t) (bigE0_32 (rounds32 ws s t).v0) (bigE1_32 (rounds32 ws s t).v4) (K256.getD t 0 + ws.getD t 0)
def addSt32 (s r : St32) : St32 := { v0 := s.v0 + r.v0, v1 := s.v1 + r.v1, v2 := s.v2 + r.v2, v3 := s.v3 + r.v3, v4 := s.v4 + r.v4, v5 := s.v5 + r.v5, v6 := s.v6 + r.v6, v7 := s.v7 + r.v7 }
def comp32 (s : St32) (bs : List UInt8) : St32 := addSt32 s (rounds32 (sched32 (words32 bs 16) 48) s 64)

def rotr64 (x : UInt64) (n : Nat) : UInt64 := (x <<< UInt64.ofNat (64 - n)) ||| (x >>> UInt64.ofNat n)
def ch64 (e f g : UInt64) : UInt64 := (e &&& f) ^^^ (~~~e &&& g)
def maj64 (a b c : UInt64) : UInt64 := (a &&& b) ^^^ (a &&& c) ^^^ (b &&& c)
structure St64 where
  (v0 v1 v2 v3 v4 v5 v6 v7 : UInt64)
def St64.cells (s : St64) : Array Value := #[U64 s.v0, U64 s.v1, U64 s.v2, U64 s.v3, U64 s.v4, U64 s.v5, U64 s.v6, U64 s.v7]
def stepSt64 (s : St64) (e0 e1 kw : UInt64) : St64 :=
  { v0 := s.v7 + e1 + ch64 s.v4 s.v5 s.v6 + kw + (e0 + maj64 s.v0 s.v1 s.v2), v1 := s.v0, v2 := s.v1, v3 := s.v2, v4 := s.v3 + (s.v7 + e1 + ch64 s.v4 s.v5 s.v6 + kw), v5 := s.v4, v6 := s.v5, v7 := s.v6 }

def sig0_64 (x : UInt64) : UInt64 := rotr64 x 1 ^^^ rotr64 x 8 ^^^ (x >>> 7)
def sig1_64 (y : UInt64) : UInt64 := rotr64 y 19 ^^^ rotr64 y 61 ^^^ (y >>> 6)
def schedStep64 (l : List UInt64) (i : Nat) : List UInt64 := l ++ [sig1_64 (l.getD (i + 14) 0) + l.getD (i + 9) 0 + sig0_64 (l.getD (i + 1) 0) + l.getD i 0]
def sched64 (l : List UInt64) : Nat → List UInt64
  | 0 => l
  | n + 1 => schedStep64 (sched64 l n) n
theorem length_sched64 (l : List UInt64) (n : Nat) : (sched64 l n).length = l.length + n := by
  induction n with
  | zero => rfl
  | succ n ih => simp [sched64, schedStep64, ih]; omega

def bigE0_64 (x : UInt64) : UInt64 := rotr64 x 28 ^^^ rotr64 x 34 ^^^ rotr64 x 39
def bigE1_64 (x : UInt64) : UInt64 := rotr64 x 14 ^^^ rotr64 x 18 ^^^ rotr64 x 41
def K512 : List UInt64 := [0x428a2f98d728ae22, 0x7137449123ef65cd, 0xb5c0fbcfec4d3b2f, 0xe9b5dba58189dbbc, 0x3956c25bf348b538, 0x59f111f1b605d019, 0x923f82a4af194f9b, 0xab1c5ed5da6d8118, 0xd807aa98a3030242, 0x12835b0145706fbe, 0x243185be4ee4b28c, 0x550c7dc3d5ffb4e2, 0x72be5d74f27b896f, 0x80deb1fe3b1696b1, 0x9bdc06a725c71235, 0xc19bf174cf692694, 0xe49b69c19ef14ad2, 0xefbe4786384f25e3, 0x0fc19dc68b8cd5b5, 0x240ca1cc77ac9c65, 0x2de92c6f592b0275, 0x4a7484aa6ea6e483, 0x5cb0a9dcbd41fbd4, 0x76f988da831153b5, 0x983e5152ee66dfab, 0xa831c66d2db43210, 0xb00327c898fb213f, 0xbf597fc7beef0ee4, 0xc6e00bf33da88fc2, 0xd5a79147930aa725, 0x06ca6351e003826f, 0x142929670a0e6e70, 0x27b70a8546d22ffc, 0x2e1b21385c26c926, 0x4d2c6dfc5ac42aed, 0x53380d139d95b3df, 0x650a73548baf63de, 0x766a0abb3c77b2a8, 0x81c2c92e47edaee6, 0x92722c851482353b, 0xa2bfe8a14cf10364, 0xa81a664bbc423001, 0xc24b8b70d0f89791, 0xc76c51a30654be30, 0xd192e819d6ef5218, 0xd69906245565a910, 0xf40e35855771202a, 0x106aa07032bbd1b8, 0x19a4c116b8d2d0c8, 0x1e376c085141ab53, 0x2748774cdf8eeb99, 0x34b0bcb5e19b48a8, 0x391c0cb3c5c95a63, 0x4ed8aa4ae3418acb, 0x5b9cca4f7763e373, 0x682e6ff3d6b2b8a3, 0x748f82ee5defb2fc, 0x78a5636f43172f60, 0x84c87814a1f0ab72, 0x8cc702081a6439ec, 0x90befffa23631e28, 0xa4506cebde82bde9, 0xbef9a3f7b2c67915, 0xc67178f2e372532b, 0xca273eceea26619c, 0xd186b8c721c0c207, 0xeada7dd6cde0eb1e, 0xf57d4f7fee6ed178, 0x06f067aa72176fba, 0x0a637dc5a2c898a6, 0x113f9804bef90dae, 0x1b710b35131c471b, 0x28db77f523047d84, 0x32caab7b40c72493, 0x3c9ebe0a15c9bebc, 0x431d67c49c100d4c, 0x4cc5d4becb3e42b6, 0x597f299cfc657e2a, 0x5fcb6fab3ad6faec, 0x6c44198c4a475817]
def rounds64 (ws : List UInt64) (s : St64) : Nat → St64
  | 0 => s
  | t + 1 => stepSt64 (rounds64 ws s t) (bigE0_64 (rounds64 ws s t).v0) (bigE1_64 (rounds64 ws s t).v4) (K512.getD t 0 + ws.getD t 0)
def addSt64 (s r : St64) : St64 := { v0 := s.v0 + r.v0, v1 := s.v1 + r.v1, v2 := s.v2 + r.v2, v3 := s.v3 + r.v3, v4 := s.v4 + r.v4, v5 := s.v5 + r.v5, v6 := s.v6 + r.v6, v7 := s.v7 + r.v7 }
def comp64 (s : St64) (bs : List UInt8) : St64 := addSt64 s (rounds64 (sched64 (words64 bs 16) 64) s 80)

end Go.Proofs.YtghjndcbnnbloaaDoor
