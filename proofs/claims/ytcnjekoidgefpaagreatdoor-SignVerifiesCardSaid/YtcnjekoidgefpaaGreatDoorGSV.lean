/-
  Texts of this claim.
-/
import Derived.Test.YtcnjekoidgefpaaGreatDoorGAV
import Derived.Test.YtcnjekoidgefpaaGreatDoorGEV
namespace Go.Proofs.YtcnjekoidgefpaaGreatDoor
open Go.RowKit
def yN (bs : List UInt8) : UInt64 := bs.foldl (fun x b => (x <<< UInt64.ofNat 8) ||| b.toUInt64) 0
def iW (bs : List UInt8) (n : Nat) : List UInt64 := (List.range n).map fun t => yN ((bs.drop (8 * t)).take 8)
theorem aN (bs : List UInt8) (n : Nat) : iW bs (n + 1) = iW bs n ++ [yN ((bs.drop (8 * n)).take 8)] := by simp [iW, List.range_succ]
def rotr32 (x : UInt32) (n : Nat) : UInt32 := (x <<< UInt32.ofNat (32 - n)) ||| (x >>> UInt32.ofNat n)
def sig0_32 (x : UInt32) : UInt32 := rotr32 x 7 ^^^ rotr32 x 18 ^^^ (x >>> 3)
def sig1_32 (y : UInt32) : UInt32 := rotr32 y 17 ^^^ rotr32 y 19 ^^^ (y >>> 10)
def schedStep32 (l : List UInt32) (i : Nat) : List UInt32 := l ++ [sig1_32 (l.getD (i + 14) 0) + l.getD (i + 9) 0 + sig0_32 (l.getD (i + 1) 0) + l.getD i 0]
def yV (x : UInt64) (n : Nat) : UInt64 := (x <<< UInt64.ofNat (64 - n)) ||| (x >>> UInt64.ofNat n)
def ch64 (e f g : UInt64) : UInt64 := (e &&& f) ^^^ (~~~e &&& g)
def maj64 (a b c : UInt64) : UInt64 := (a &&& b) ^^^ (a &&& c) ^^^ (b &&& c)
structure St64 where
  (v0 v1 v2 v3 v4 v5 v6 v7 : UInt64)
def rM (s : St64) (e0 e1 kw : UInt64) : St64 :=
  { v0 := s.v7 + e1 + ch64 s.v4 s.v5 s.v6 + kw + (e0 + maj64 s.v0 s.v1 s.v2), v1 := s.v0, v2 := s.v1, v3 := s.v2, v4 := s.v3 + (s.v7 + e1 + ch64 s.v4 s.v5 s.v6 + kw), v5 := s.v4, v6 := s.v5, v7 := s.v6 }
def sig0_64 (x : UInt64) : UInt64 := yV x 1 ^^^ yV x 8 ^^^ (x >>> 7)
def sig1_64 (y : UInt64) : UInt64 := yV y 19 ^^^ yV y 61 ^^^ (y >>> 6)
def xR (l : List UInt64) (i : Nat) : List UInt64 := l ++ [sig1_64 (l.getD (i + 14) 0) + l.getD (i + 9) 0 + sig0_64 (l.getD (i + 1) 0) + l.getD i 0]
def uW (l : List UInt64) : Nat → List UInt64
  | 0 => l
  | n + 1 => xR (uW l n) n
def gL (x : UInt64) : UInt64 := yV x 28 ^^^ yV x 34 ^^^ yV x 39
def fL (x : UInt64) : UInt64 := yV x 14 ^^^ yV x 18 ^^^ yV x 41
def K512 : List UInt64 := [0x428a2f98d728ae22, 0x7137449123ef65cd, 0xb5c0fbcfec4d3b2f, 0xe9b5dba58189dbbc, 0x3956c25bf348b538, 0x59f111f1b605d019, 0x923f82a4af194f9b, 0xab1c5ed5da6d8118, 0xd807aa98a3030242, 0x12835b0145706fbe, 0x243185be4ee4b28c, 0x550c7dc3d5ffb4e2, 0x72be5d74f27b896f, 0x80deb1fe3b1696b1, 0x9bdc06a725c71235, 0xc19bf174cf692694, 0xe49b69c19ef14ad2, 0xefbe4786384f25e3, 0x0fc19dc68b8cd5b5, 0x240ca1cc77ac9c65, 0x2de92c6f592b0275, 0x4a7484aa6ea6e483, 0x5cb0a9dcbd41fbd4, 0x76f988da831153b5, 0x983e5152ee66dfab, 0xa831c66d2db43210, 0xb00327c898fb213f, 0xbf597fc7beef0ee4, 0xc6e00bf33da88fc2, 0xd5a79147930aa725, 0x06ca6351e003826f, 0x142929670a0e6e70, 0x27b70a8546d22ffc, 0x2e1b21385c26c926, 0x4d2c6dfc5ac42aed, 0x53380d139d95b3df, 0x650a73548baf63de, 0x766a0abb3c77b2a8, 0x81c2c92e47edaee6, 0x92722c851482353b, 0xa2bfe8a14cf10364, 0xa81a664bbc423001, 0xc24b8b70d0f89791, 0xc76c51a30654be30, 0xd192e819d6ef5218, 0xd69906245565a910, 0xf40e35855771202a, 0x106aa07032bbd1b8, 0x19a4c116b8d2d0c8, 0x1e376c085141ab53, 0x2748774cdf8eeb99, 0x34b0bcb5e19b48a8, 0x391c0cb3c5c95a63, 0x4ed8aa4ae3418acb, 0x5b9cca4f7763e373, 0x682e6ff3d6b2b8a3, 0x748f82ee5defb2fc, 0x78a5636f43172f60, 0x84c87814a1f0ab72, 0x8cc702081a6439ec, 0x90befffa23631e28, 0xa4506cebde82bde9, 0xbef9a3f7b2c67915, 0xc67178f2e372532b, 0xca273eceea26619c, 0xd186b8c721c0c207, 0xeada7dd6cde0eb1e, 0xf57d4f7fee6ed178, 0x06f067aa72176fba, 0x0a637dc5a2c898a6, 0x113f9804bef90dae, 0x1b710b35131c471b, 0x28db77f523047d84, 0x32caab7b40c72493, 0x3c9ebe0a15c9bebc, 0x431d67c49c100d4c, 0x4cc5d4becb3e42b6, 0x597f299cfc657e2a, 0x5fcb6fab3ad6faec, 0x6c44198c4a475817]
def zX (ws : List UInt64) (s : St64) : Nat → St64
  | 0 => s
  | t + 1 => rM (zX ws s t) (gL (zX ws s t).v0) (fL (zX ws s t).v4) (K512.getD t 0 + ws.getD t 0)
def addSt64 (s r : St64) : St64 := { v0 := s.v0 + r.v0, v1 := s.v1 + r.v1, v2 := s.v2 + r.v2, v3 := s.v3 + r.v3, v4 := s.v4 + r.v4, v5 := s.v5 + r.v5, v6 := s.v6 + r.v6, v7 := s.v7 + r.v7 }
def zP (s : St64) (bs : List UInt8) : St64 := addSt64 s (zX (uW (iW bs 16) 64) s 80)
def rW (s : St64) : Nat → UInt64
  | 0 => s.v0 | 1 => s.v1 | 2 => s.v2 | 3 => s.v3 | 4 => s.v4 | 5 => s.v5 | 6 => s.v6 | _ => s.v7
def gX (x : UInt64) (k : Nat) : UInt8 := (x >>> UInt64.ofNat (8 * k)).toUInt8
def nU (size total : Nat) : Nat := 1 + size / 8 + (size - (total + (1 + size / 8)) % size) % size
def jW (n total : Nat) : List UInt8 := (List.range n).map fun j => if n - 8 ≤ j then gX (UInt64.ofNat (total * 8)) (n - 1 - j) else if j = 0 then 128 else 0
def lW (s : St64) (T : List UInt8) : Nat → St64
  | 0 => s
  | k + 1 => zP (lW s T k) ((T.drop (k * 128)).take 128)
def init64 : St64 := { v0 := 0x6a09e667f3bcc908, v1 := 0xbb67ae8584caa73b, v2 := 0x3c6ef372fe94f82b, v3 := 0xa54ff53a5f1d36f1, v4 := 0x510e527fade682d1, v5 := 0x9b05688c2b3e6c1f, v6 := 0x1f83d9abfb41bd6b, v7 := 0x5be0cd19137e2179 }
def dig64 (s : St64) (j : Nat) : UInt8 := gX (rW s (j / 8)) (7 - j % 8)
def fO (s : St64) : List UInt8 := (List.range 64).map (dig64 s)
def cW (T : List UInt8) : List UInt8 :=
  fO (lW init64 (T ++ jW (nU 128 T.length) T.length) ((T ++ jW (nU 128 T.length) T.length).length / 128))
theorem eY (T : List UInt8) : (cW T).length = 64 := by simp [cW, fO]
def rcut (W : Nat) (x : UInt64) : UInt64 := if W = 32 then x % 4294967296 else x
def oI (W : Nat) (x : UInt64) (n : Nat) : UInt64 := rcut W ((x >>> UInt64.ofNat n) ||| (x <<< UInt64.ofNat (W - n)))
def xV (W : Nat) (x : UInt64) (a b c : Nat) (shift : Bool) : UInt64 := oI W x a ^^^ oI W x b ^^^ (if shift then x >>> UInt64.ofNat c else oI W x c)
def rbe (l : List UInt8) : UInt64 := l.foldl (fun x b => x * 256 + b.toUInt64) 0
def jJ (l : List UInt64) (t : Nat) : UInt64 := xV 64 (l.getD (t - 2) 0) 19 61 6 true + l.getD (t - 7) 0 + xV 64 (l.getD (t - 15) 0) 1 8 7 true + l.getD (t - 16) 0
def mW (bs : List UInt8) : Nat → List UInt64
  | 0 => []
  | t + 1 => mW bs t ++ [rcut 64 (if t < 16 then rbe ((bs.drop (t * 8)).take 8) else jJ (mW bs t) t)]
def rround64 (ws : List UInt64) (s : St64) (t : Nat) : St64 :=
  let t1 := rcut 64 (s.v7 + xV 64 s.v4 14 18 41 false + (s.v4 &&& s.v5 ^^^ ~~~s.v4 &&& s.v6) + K512.getD t 0 + ws.getD t 0)
  let t2 := rcut 64 (xV 64 s.v0 28 34 39 false + (s.v0 &&& s.v1 ^^^ s.v0 &&& s.v2 ^^^ s.v1 &&& s.v2))
  { v0 := rcut 64 (t1 + t2), v1 := s.v0, v2 := s.v1, v3 := s.v2, v4 := rcut 64 (s.v3 + t1), v5 := s.v4, v6 := s.v5, v7 := s.v6 }
def oZ (ws : List UInt64) (s : St64) : Nat → St64
  | 0 => s
  | t + 1 => rround64 ws (oZ ws s t) t
def radd64 (s r : St64) : St64 := { v0 := rcut 64 (s.v0 + r.v0), v1 := rcut 64 (s.v1 + r.v1), v2 := rcut 64 (s.v2 + r.v2), v3 := rcut 64 (s.v3 + r.v3), v4 := rcut 64 (s.v4 + r.v4), v5 := rcut 64 (s.v5 + r.v5), v6 := rcut 64 (s.v6 + r.v6), v7 := rcut 64 (s.v7 + r.v7) }
def pQ (s : St64) (bs : List UInt8) : St64 := radd64 s (oZ (mW bs 80) s 80)
def xU (s : St64) (T : List UInt8) : Nat → St64
  | 0 => s
  | k + 1 => pQ (xU s T k) ((T.drop (k * 128)).take 128)
def zS : St64 := { v0 := 0x6a09e667f3bcc908, v1 := 0xbb67ae8584caa73b, v2 := 0x3c6ef372fe94f82b, v3 := 0xa54ff53a5f1d36f1, v4 := 0x510e527fade682d1, v5 := 0x9b05688c2b3e6c1f, v6 := 0x1f83d9abfb41bd6b, v7 := 0x5be0cd19137e2179 }
def rpart64 (x : UInt64) (n : Nat) : List UInt8 := (List.range n).map fun j => gX x (7 - j)
def yS (st : St64) : Nat → List UInt8
  | 0 => []
  | k + 1 => yS st k ++ rpart64 (rW st k) 8
def nI (T : List UInt8) : List UInt8 := yS (xU zS (T ++ jW (nU 128 T.length) T.length) ((T ++ jW (nU 128 T.length) T.length).length / 128)) 8
theorem or64_step (x : UInt64) (b : UInt8) : x * 256 + b.toUInt64 = (x <<< UInt64.ofNat 8) ||| b.toUInt64 := by
  apply UInt64.toNat_inj.1
  have hb := b.toNat_lt
  have hx := x.toNat_lt
  rw [UInt64.toNat_or, UInt64.toNat_shiftLeft, UInt64.toNat_add, UInt64.toNat_mul]
  show (x.toNat * 256 % 2 ^ 64 + b.toNat) % 2 ^ 64 = (x.toNat <<< 8 % 2 ^ 64) ||| b.toNat
  have e : x.toNat <<< 8 % 2 ^ 64 = (x.toNat % 2 ^ 56) <<< 8 := by
    rw [Nat.shiftLeft_eq, Nat.shiftLeft_eq]; omega
  rw [e, ← Nat.shiftLeft_add_eq_or_of_lt (show b.toNat < 2 ^ 8 by omega), Nat.shiftLeft_eq]
  omega
theorem rbe_be64 (l : List UInt8) : rbe l = yN l := by
  unfold rbe yN
  congr 1
  funext x b
  exact or64_step x b
theorem rcut64 (x : UInt64) : rcut 64 x = x := rfl
theorem rright64 (x : UInt64) (n : Nat) : oI 64 x n = yV x n := UInt64.or_comm _ _
theorem rthree64_f (x : UInt64) (a b c : Nat) : xV 64 x a b c false = yV x a ^^^ yV x b ^^^ yV x c := by
  simp [xV, rright64]
theorem rthree64_t (x : UInt64) (a b c : Nat) : xV 64 x a b c true = yV x a ^^^ yV x b ^^^ (x >>> UInt64.ofNat c) := by
  simp [xV, rright64]
theorem rsch64_words (bs : List UInt8) : ∀ t, t ≤ 16 → mW bs t = iW bs t := by
  intro t
  induction t with
  | zero => intro _; rfl
  | succ t ih =>
    intro h
    rw [mW, ih (by omega), aN, if_pos (by omega), rcut64, rbe_be64, Nat.mul_comm]
theorem rsch64_sched (bs : List UInt8) (n : Nat) : mW bs (16 + n) = uW (iW bs 16) n := by
  induction n with
  | zero => exact rsch64_words bs 16 (Nat.le_refl _)
  | succ n ih =>
    show mW bs (16 + n + 1) = _
    rw [mW, ih, if_neg (by omega), rcut64]
    rw [uW, xR, jJ]
    generalize uW (iW bs 16) n = L
    rw [rthree64_t, rthree64_t, show 16 + n - 2 = n + 14 by omega, show 16 + n - 7 = n + 9 by omega, show 16 + n - 15 = n + 1 by omega, show 16 + n - 16 = n by omega]
    rfl
theorem rround64_step (ws : List UInt64) (s : St64) (t : Nat) : rround64 ws s t = rM s (gL s.v0) (fL s.v4) (K512.getD t 0 + ws.getD t 0) := by
  unfold rround64 rM
  rw [rthree64_f, rthree64_f]
  simp only [rcut64, UInt64.add_assoc]
  rfl
theorem rrounds64_eq (ws : List UInt64) (s : St64) (t : Nat) : oZ ws s t = zX ws s t := by
  induction t with
  | zero => rfl
  | succ t ih => rw [oZ, ih, rround64_step]; rfl
theorem rblock64_eq (s : St64) (bs : List UInt8) : pQ s bs = zP s bs := by
  unfold pQ zP
  rw [rrounds64_eq, show (80 : Nat) = 16 + 64 from rfl, rsch64_sched]
  rfl
theorem rblocks64_eq (s : St64) (T : List UInt8) (k : Nat) : xU s T k = lW s T k := by
  induction k with
  | zero => rfl
  | succ k ih => rw [xU, ih, rblock64_eq]; rfl
theorem rdig64_eq (s : St64) : yS s 8 = fO s := rfl
theorem rsum64_eq (T : List UInt8) : nI T = cW T := by
  unfold nI cW
  rw [rblocks64_eq, rdig64_eq]
  rfl
end Go.Proofs.YtcnjekoidgefpaaGreatDoor
namespace Go.Proofs.YtcnjekoidgefpaaGreatDoor
open Go.RowKit
def pbN (l : List UInt8) (o m : Nat) (x : UInt64) : Nat → List UInt8
  | 0 => l
  | n + 1 => (pbN l o m x n).set (o + (m - 1 - n)) (x >>> UInt64.ofNat (8 * n)).toUInt8
theorem kT (l : List UInt8) (o m : Nat) (x : UInt64) (n : Nat) : (pbN l o m x n).length = l.length := by induction n with | zero => rfl | succ n ih => simp [pbN, ih]
theorem set_at {α : Type} (a b : List α) (z v : α) : (a ++ z :: b).set a.length v = a ++ v :: b := by
  rw [List.set_append_right _ _ (Nat.le_refl _), Nat.sub_self]; rfl
theorem slice_as2 {b o n o' n' : Nat} (h1 : o = o') (h2 : n = n') : AV.sl b o n 1 = .sl b o' n' 1 := by rw [h1, h2]
theorem ofI64_nat (n : Nat) : ofI64 (n : Int) = UInt64.ofNat n := by
  apply UInt64.toNat_inj.1
  have h := aJ (n : Int)
  rw [UInt64.toNat_ofNat']
  omega
theorem pbN_get (l : List UInt8) (o m : Nat) (x : UInt64) (i : Nat) (hi : i < l.length) : ∀ n, n ≤ m → (pbN l o m x n)[i]? = if o + (m - n) ≤ i ∧ i < o + m then some (gX x (o + m - 1 - i)) else l[i]?
  | 0, _ => by rw [if_neg (by omega)]; rfl
  | n + 1, h => by
    have ih := pbN_get l o m x i hi n (by omega)
    simp only [pbN]
    by_cases hq : o + (m - 1 - n) = i
    · subst hq
      rw [List.getElem?_set_self (by rw [kT]; exact hi), if_pos (by omega), show o + m - 1 - (o + (m - 1 - n)) = n by omega]
      rfl
    · rw [List.getElem?_set_ne hq, ih]
      by_cases hc : o + (m - n) ≤ i ∧ i < o + m
      · rw [if_pos hc, if_pos (by omega)]
      · rw [if_neg hc, if_neg (by omega)]
theorem pad_eq (m t : Nat) (hm : 9 ≤ m) : ((pbN ((List.replicate m 0).set 0 128) (m - 8) 8 (UInt64.ofNat (t * 8)) 8).drop 0).take m = jW m t := by
  simp only [List.drop_zero]
  rw [List.take_of_length_le (by rw [kT]; simp)]
  refine List.ext_getElem? fun i => ?_
  by_cases h : i < m
  · rw [pbN_get _ _ _ _ i (by simpa using h) 8 (Nat.le_refl _)]
    simp only [jW, List.getElem?_map]
    rw [List.getElem?_range h]
    simp only [Option.map_some]
    by_cases h8 : m - 8 ≤ i
    · rw [if_pos (by omega), if_pos h8, show m - 8 + 8 - 1 - i = m - 1 - i by omega]
    · rw [if_neg (by omega), if_neg h8]
      by_cases h0 : i = 0
      · subst h0; rw [List.getElem?_set_self (by simpa using h), if_pos rfl]
      · rw [List.getElem?_set_ne (by omega), if_neg h0, List.getElem?_replicate, if_pos h]
  · rw [List.getElem?_eq_none (by rw [kT]; simp; omega), List.getElem?_eq_none (by simp [jW]; omega)]
def totN (xs : List (List UInt8)) : Nat → Nat
  | 0 => 0
  | n + 1 => totN xs n + (xs.getD n []).length
theorem totN_le (xs : List (List UInt8)) (m : Nat) : ∀ n, n ≤ m → totN xs n ≤ totN xs m := by
  induction m with
  | zero => intro n h; simp_all
  | succ m ih => intro n h; by_cases hq : n = m + 1; · simp [hq]
                 · exact Nat.le_trans (ih n (by omega)) (Nat.le_add_right _ _)
set_option maxRecDepth 100000 in
theorem hput_ev (l : List UInt8) (o n e : Nat) (x : UInt64) (h : o + n ≤ l.length) (hn : n ≤ 8) : kZ Tryz.prog 62 [.sl 500 o n 1, .u64 x] [(500, some ⟨.aggB l, e, true⟩)] (.tup []) [(500, some ⟨.aggB (pbN l o n x n), e, true⟩)] := by
 refine mt (nt := 23) Tryz.func62 rfl rfl rfl <| .r <| .m rfl rfl <| .x (rZ Tryz.underlying25 rfl) rfl <| .m rfl rfl <| .nil <| .block <| Ev.loop (ι := { j : Nat // j ≤ n }) (fun j => ⟨[(0, .sl 500 o n 1), (1, .u64 x), (6, .i64 (n : Int)), (7, .i64 ((j.1 : Nat) : Int))], [(500, some ⟨.aggB (pbN l o n x j.1), e, true⟩)], 1000⟩) (fun j => n - j.1) ⟨0, Nat.zero_le _⟩ (StLe.mk [] rfl rfl ⟨⟨_, rfl, by first | rfl | (simp only [AV.ren]; congr 1; omega), rfl⟩, ⟨_, rfl, by first | rfl | (simp only [AV.ren]; congr 1; omega), rfl⟩, ⟨_, rfl, by first | rfl | (simp only [AV.ren]; congr 1; omega), rfl⟩, ⟨_, rfl, by first | rfl | (simp only [AV.ren]; congr 1; omega), rfl⟩, trivial⟩ ⟨⟨_, _, rfl, rfl, by first | rfl | (simp only [AV.ren]; congr 1; omega), rfl, id, rfl⟩, trivial⟩) ?_
 rintro ⟨j, hj⟩
 dsimp only
 have hl : (pbN l o n x j).length = l.length := kT l o n x j
 refine .r <| .x (gZ rfl rfl rfl) rfl <| .nil <| .seq <| .cond rfl (fun hc8 => ?_) (fun hc8 => ?_)
 ·simp only [decide_eq_true_eq] at hc8
  refine .skip <| .seq <| .block <| .r <| .m rfl rfl <| .s rfl rfl <| .nil <| .region <| .m rfl rfl <| .m rfl rfl <| .x (rZ Tryz.underlying25 rfl) rfl <| .x (tY rfl rfl ⟨by omega, by omega⟩) rfl <| .m rfl rfl <| .x (tY rfl rfl ⟨by omega, by omega⟩) rfl <| .m rfl rfl <| .m rfl rfl <| .x (uY rfl rfl ⟨by omega, by omega⟩) rfl <| .x (lX (n := 8 * j) rfl rfl (by simp only [tW]; rw [show (8 : Int) * (j : Int) = ((8 * j : Nat) : Int) by omega]) (by omega)) rfl <| .x (vX Tryz.underlying52 Tryz.underlying5 rfl rfl) rfl <| .x (jQ Tryz.underlying25 inf5.sz rfl rfl (i := n - 1 - j) (by omega) (by omega)) rfl <| .w (iY inf5.sz rfl rfl rfl rfl rfl (by simp only [AV.len]; omega)) trivial rfl <| .nil <| .region <| .x (jZ rfl rfl ⟨by omega, by omega⟩) rfl <| .m rfl rfl <| .nil ?_
  exact ⟨⟨j + 1, by omega⟩, by show n - (j + 1) < n - j; omega, StLe.mk [] rfl rfl ⟨⟨_, rfl, by first | rfl | (simp only [AV.ren]; congr 1; omega), rfl⟩, ⟨_, rfl, by first | rfl | (simp only [AV.ren]; congr 1; omega), rfl⟩, ⟨_, rfl, by first | rfl | (simp only [AV.ren]; congr 1; omega), rfl⟩, ⟨_, rfl, by first | rfl | (simp only [AV.ren]; congr 1; omega), rfl⟩, trivial⟩ ⟨⟨_, _, rfl, rfl, by first | rfl | (simp only [AV.ren]; congr 1; omega), rfl, id, rfl⟩, trivial⟩⟩
 ·simp only [decide_eq_false_iff_not] at hc8
  refine .exit ?_
  have ej : j = n := by omega
  exact ret0 rfl (.inr rfl) ⟨by rw [ej]; rfl, trivial⟩
end Go.Proofs.YtcnjekoidgefpaaGreatDoor
namespace Go.Proofs.YtcnjekoidgefpaaGreatDoor
open Go.RowKit
def cpB (bl : List UInt8) (u : Nat) (r : List UInt8) (n : Nat) : List UInt8 := bl.take u ++ r.take n ++ bl.drop (u + n)
theorem jR (bl : List UInt8) (u : Nat) (r : List UInt8) (n : Nat) (h1 : n ≤ r.length) (h2 : u + n ≤ bl.length) : (cpB bl u r n).length = bl.length := by
  simp [cpB]; omega
theorem take_cpB (bl : List UInt8) (u : Nat) (r : List UInt8) (n : Nat) (h1 : n ≤ r.length) (h2 : u + n ≤ bl.length) : (cpB bl u r n).take (u + n) = bl.take u ++ r.take n := by
  unfold cpB
  rw [List.take_append_of_le_length (by simp; omega), List.take_of_length_le (by simp; omega)]
structure EB (S : Nat) (T bl : List UInt8) (t : Nat) : Prop where
  len : bl.length = S
  le : t ≤ T.length
  got : bl.take (t % S) = (T.drop (t - t % S)).take (t % S)
theorem EB.fill {S : Nat} {T bl : List UInt8} {t : Nat} (h : EB S T bl t) (_hS : 0 < S) {r q : List UInt8} (hr : T.drop t = r ++ q) {n : Nat} (hn : n ≤ r.length) (hu : t % S + n ≤ S) :
    (cpB bl (t % S) r n).take (t % S + n) = (T.drop (t - t % S)).take (t % S + n) := by
  have hm : t % S ≤ t := Nat.mod_le _ _
  rw [take_cpB _ _ _ _ hn (by rw [h.len]; exact hu), h.got, List.take_add, List.drop_drop, show t - t % S + t % S = t by omega, hr, List.take_append_of_le_length hn]
theorem EB.part {S : Nat} {T bl : List UInt8} {t : Nat} (h : EB S T bl t) (hS : 0 < S) {r q : List UInt8} (hr : T.drop t = r ++ q) {n : Nat} (hn : n ≤ r.length) (hu : t % S + n < S) : EB S T (cpB bl (t % S) r n) (t + n) := by
  have hl : (T.drop t).length = r.length + q.length := by rw [hr, List.length_append]
  have hm : t % S ≤ t := Nat.mod_le _ _
  have he : (t + n) % S = t % S + n := by rw [← Nat.mod_add_mod, Nat.mod_eq_of_lt hu]
  refine ⟨by rw [jR _ _ _ _ hn (by rw [h.len]; omega)]; exact h.len, by rw [List.length_drop] at hl; have := h.le; omega, ?_⟩
  rw [he, h.fill hS hr hn (by omega), show t + n - (t % S + n) = t - t % S by omega]
theorem EB.full {S : Nat} {T bl : List UInt8} {t : Nat} (h : EB S T bl t) (hS : 0 < S) {r q : List UInt8} (hr : T.drop t = r ++ q) {n : Nat} (hn : n ≤ r.length) (hu : t % S + n = S) :
    EB S T (cpB bl (t % S) r n) (t + n) ∧ cpB bl (t % S) r n = (T.drop (t / S * S)).take S ∧ (t + n) / S = t / S + 1 ∧ (t + n) % S = 0 := by
  have hl : (T.drop t).length = r.length + q.length := by rw [hr, List.length_append]
  have hm : t % S ≤ t := Nat.mod_le _ _
  have hd : t - t % S = t / S * S := by have := Nat.div_add_mod t S; rw [Nat.mul_comm] at this; omega
  have ht : t + n = (t / S + 1) * S := by rw [Nat.add_mul, Nat.one_mul, ← hd]; omega
  have h0 : (t + n) % S = 0 := by rw [ht]; exact Nat.mul_mod_left _ _
  have hc : (cpB bl (t % S) r n).length = S := by rw [jR _ _ _ _ hn (by rw [h.len]; omega)]; exact h.len
  have hf := h.fill hS hr hn (by omega)
  rw [hu, List.take_of_length_le (by omega), hd] at hf
  refine ⟨⟨hc, by rw [List.length_drop] at hl; have := h.le; omega, by rw [h0]; simp⟩, hf, ?_, h0⟩
  rw [ht, Nat.mul_div_cancel _ hS]
theorem drop_next {T r q : List UInt8} {t n : Nat} (hr : T.drop t = r ++ q) (hn : n ≤ r.length) : T.drop (t + n) = r.drop n ++ q := by
  rw [← List.drop_drop, hr, List.drop_append_of_le_length hn]
def nV (xs : List (List UInt8)) (n : Nat) : List UInt8 := (xs.take n).flatten
theorem mP (xs : List (List UInt8)) (n : Nat) (h : n < xs.length) : nV xs (n + 1) = nV xs n ++ xs.getD n [] := by
  unfold nV
  rw [List.take_succ_eq_append_getElem h, List.flatten_append]
  simp [List.getD_eq_getElem?_getD, h]
theorem drop_join (xs : List (List UInt8)) (n : Nat) (h : n < xs.length) : xs.flatten.drop (nV xs n).length = xs.getD n [] ++ (xs.drop (n + 1)).flatten := by
  have e : xs.flatten = nV xs n ++ (xs.getD n [] ++ (xs.drop (n + 1)).flatten) := by
    rw [← List.append_assoc, ← mP xs n h]
    unfold nV
    rw [← List.flatten_append, List.take_append_drop]
  rw [e, List.drop_left]
theorem joinN_all (xs : List (List UInt8)) : nV xs xs.length = xs.flatten := by unfold nV; rw [List.take_length]
end Go.Proofs.YtcnjekoidgefpaaGreatDoor
namespace Go.Proofs.YtcnjekoidgefpaaGreatDoor
open Go.RowKit
theorem totN_join (xs : List (List UInt8)) : ∀ n, n ≤ xs.length → totN xs n = (nV xs n).length
  | 0, _ => by simp [totN, nV]
  | n + 1, h => by rw [totN, totN_join xs n (by omega), mP xs n (by omega), List.length_append]
theorem totN_flat (xs : List (List UInt8)) : totN xs xs.length = xs.flatten.length := by rw [totN_join xs _ (Nat.le_refl _), joinN_all]
theorem ej_end {T q : List UInt8} {t : Nat} {ys : List (List UInt8)} {j : Nat} (hT : T = ys.flatten) (hj : j < ys.length) (hq : q = (ys.drop (j + 1)).flatten) (hd : T.drop t = q) (ht : t ≤ T.length) : t = (nV ys (j + 1)).length := by
  subst hT; subst hq
  have h1 := congrArg List.length hd
  have h2 := congrArg List.length (drop_join ys j hj)
  have h3 : (nV ys (j + 1)).length = (nV ys j).length + (ys.getD j []).length := by rw [mP ys j hj, List.length_append]
  have h4 : ys.flatten.length = (nV ys j).length + ((ys.getD j []).length + (ys.drop (j + 1)).flatten.length) := by
    have e : ys.flatten = nV ys j ++ (ys.getD j [] ++ (ys.drop (j + 1)).flatten) := by
      rw [← List.append_assoc, ← mP ys j hj]; unfold nV; rw [← List.flatten_append, List.take_append_drop]
    have := congrArg List.length e
    simpa [List.length_append] using this
  simp only [List.length_drop] at h1
  omega
theorem copy_list (bl r : List UInt8) (u n : Nat) (_h1 : n ≤ r.length) (_h2 : u + n ≤ bl.length) : (AV.aggB (cpB bl u r n)).list = (AV.aggB bl).list.take u ++ (r.map AV.u8).take n ++ (AV.aggB bl).list.drop (u + n) := by
  simp [AV.list, AV.parts, cpB, List.map_append, List.map_take, List.map_drop]
end Go.Proofs.YtcnjekoidgefpaaGreatDoor
