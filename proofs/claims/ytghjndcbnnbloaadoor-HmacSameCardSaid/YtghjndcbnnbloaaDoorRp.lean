/-
  The reference's block as plain functions. Nothing of the program is named here.
-/
import Derived.Test.YtghjndcbnnbloaaDoorSp
namespace Go.Proofs.YtghjndcbnnbloaaDoor
def rcut (W : Nat) (x : UInt64) : UInt64 := if W = 32 then x % 4294967296 else x
def rright (W : Nat) (x : UInt64) (n : Nat) : UInt64 := rcut W ((x >>> UInt64.ofNat n) ||| (x <<< UInt64.ofNat (W - n)))
def rthree (W : Nat) (x : UInt64) (a b c : Nat) (shift : Bool) : UInt64 := rright W x a ^^^ rright W x b ^^^ (if shift then x >>> UInt64.ofNat c else rright W x c)
def rbe (l : List UInt8) : UInt64 := l.foldl (fun x b => x * 256 + b.toUInt64) 0
theorem rbe_succ (l : List UInt8) (k : Nat) (h : k < l.length) : rbe (l.take (k + 1)) = rbe (l.take k) * 256 + l[k].toUInt64 := by
  rw [rbe, foldl_take_succ _ _ _ _ h]; rfl
def rnext32 (l : List UInt64) (t : Nat) : UInt64 := rthree 32 (l.getD (t - 2) 0) 17 19 10 true + l.getD (t - 7) 0 + rthree 32 (l.getD (t - 15) 0) 7 18 3 true + l.getD (t - 16) 0
def rnext64 (l : List UInt64) (t : Nat) : UInt64 := rthree 64 (l.getD (t - 2) 0) 19 61 6 true + l.getD (t - 7) 0 + rthree 64 (l.getD (t - 15) 0) 1 8 7 true + l.getD (t - 16) 0
def rsch32 (bs : List UInt8) : Nat → List UInt64
  | 0 => []
  | t + 1 => rsch32 bs t ++ [rcut 32 (if t < 16 then rbe ((bs.drop (t * 4)).take 4) else rnext32 (rsch32 bs t) t)]
theorem length_rsch32 (bs : List UInt8) (t : Nat) : (rsch32 bs t).length = t := by
  induction t with
  | zero => rfl
  | succ t ih => simp [rsch32, ih]
def rround32 (ws : List UInt64) (s : St64) (t : Nat) : St64 :=
  let t1 := rcut 32 (s.v7 + rthree 32 s.v4 6 11 25 false + (s.v4 &&& s.v5 ^^^ ~~~s.v4 &&& s.v6) + K512.getD t 0 / 4294967296 + ws.getD t 0)
  let t2 := rcut 32 (rthree 32 s.v0 2 13 22 false + (s.v0 &&& s.v1 ^^^ s.v0 &&& s.v2 ^^^ s.v1 &&& s.v2))
  { v0 := rcut 32 (t1 + t2), v1 := s.v0, v2 := s.v1, v3 := s.v2, v4 := rcut 32 (s.v3 + t1), v5 := s.v4, v6 := s.v5, v7 := s.v6 }
def rrounds32 (ws : List UInt64) (s : St64) : Nat → St64
  | 0 => s
  | t + 1 => rround32 ws (rrounds32 ws s t) t
def rlist (s : St64) : List UInt64 := [s.v0, s.v1, s.v2, s.v3, s.v4, s.v5, s.v6, s.v7]
def radd32 (s r : St64) : St64 := { v0 := rcut 32 (s.v0 + r.v0), v1 := rcut 32 (s.v1 + r.v1), v2 := rcut 32 (s.v2 + r.v2), v3 := rcut 32 (s.v3 + r.v3), v4 := rcut 32 (s.v4 + r.v4), v5 := rcut 32 (s.v5 + r.v5), v6 := rcut 32 (s.v6 + r.v6), v7 := rcut 32 (s.v7 + r.v7) }
def rblock32 (s : St64) (bs : List UInt8) : St64 := radd32 s (rrounds32 (rsch32 bs 64) s 64)
def rsch64 (bs : List UInt8) : Nat → List UInt64
  | 0 => []
  | t + 1 => rsch64 bs t ++ [rcut 64 (if t < 16 then rbe ((bs.drop (t * 8)).take 8) else rnext64 (rsch64 bs t) t)]
theorem length_rsch64 (bs : List UInt8) (t : Nat) : (rsch64 bs t).length = t := by
  induction t with
  | zero => rfl
  | succ t ih => simp [rsch64, ih]
def rround64 (ws : List UInt64) (s : St64) (t : Nat) : St64 :=
  let t1 := rcut 64 (s.v7 + rthree 64 s.v4 14 18 41 false + (s.v4 &&& s.v5 ^^^ ~~~s.v4 &&& s.v6) + K512.getD t 0 + ws.getD t 0)
  let t2 := rcut 64 (rthree 64 s.v0 28 34 39 false + (s.v0 &&& s.v1 ^^^ s.v0 &&& s.v2 ^^^ s.v1 &&& s.v2))
  { v0 := rcut 64 (t1 + t2), v1 := s.v0, v2 := s.v1, v3 := s.v2, v4 := rcut 64 (s.v3 + t1), v5 := s.v4, v6 := s.v5, v7 := s.v6 }
def rrounds64 (ws : List UInt64) (s : St64) : Nat → St64
  | 0 => s
  | t + 1 => rround64 ws (rrounds64 ws s t) t
def rlist' (s : St64) : List UInt64 := [s.v0, s.v1, s.v2, s.v3, s.v4, s.v5, s.v6, s.v7]
def radd64 (s r : St64) : St64 := { v0 := rcut 64 (s.v0 + r.v0), v1 := rcut 64 (s.v1 + r.v1), v2 := rcut 64 (s.v2 + r.v2), v3 := rcut 64 (s.v3 + r.v3), v4 := rcut 64 (s.v4 + r.v4), v5 := rcut 64 (s.v5 + r.v5), v6 := rcut 64 (s.v6 + r.v6), v7 := rcut 64 (s.v7 + r.v7) }
def rblock64 (s : St64) (bs : List UInt8) : St64 := radd64 s (rrounds64 (rsch64 bs 80) s 80)
end Go.Proofs.YtghjndcbnnbloaaDoor
