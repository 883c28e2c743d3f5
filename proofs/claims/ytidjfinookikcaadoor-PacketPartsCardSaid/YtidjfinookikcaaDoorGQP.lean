/-
  Texts of this claim.
-/
import Derived.Test.YtidjfinookikcaaDoorGQA
import Derived.Test.YtidjfinookikcaaDoorGQE
import Derived.Test.YtidjfinookikcaaDoorGQB
namespace Go.Proofs.YtidjfinookikcaaDoor
def mask26 : UInt64 := UInt64.ofNat 67108863
/-- The little-endian number in the first n bytes. -/
def rwN (b : List UInt8) : Nat → UInt64
  | 0 => UInt64.ofNat 0
  | n + 1 => rwN b n ||| ((b.getD n 0).toUInt64 <<< UInt64.ofNat (8 * n))
/-- The bytes with n of them, from o on, those of x. -/
def pwN (l : List UInt8) (o : Nat) (x : UInt64) : Nat → List UInt8
  | 0 => l
  | n + 1 => (pwN l o x n).set (o + n) (x >>> UInt64.ofNat (8 * n)).toUInt8
/-- readNumber's limbs. -/
def rnN (b : List UInt8) : Nat → List UInt64
  | 0 => List.replicate 5 0
  | n + 1 => (rnN b n).set n ((rwN (b.drop (n * 26 / 8)) 4 >>> UInt64.ofNat (n * 26 % 8)) &&& mask26)
def plN (x y : List UInt64) : Nat → List UInt64
  | 0 => x
  | n + 1 => (plN x y n).set n ((plN x y n).getD n 0 + y.getD n 0)
def tmI (x y : List UInt64) (i : Nat) (p : List UInt64) : Nat → List UInt64
  | 0 => p
  | j + 1 => if i + j < 5 then (tmI x y i p j).set (i + j) ((tmI x y i p j).getD (i + j) 0 + x.getD i 0 * y.getD j 0)
    else (tmI x y i p j).set (i + j - 5) ((tmI x y i p j).getD (i + j - 5) 0 + UInt64.ofNat 5 * x.getD i 0 * y.getD j 0)
def tmO (x y : List UInt64) : Nat → List UInt64
  | 0 => List.replicate 5 0
  | i + 1 => tmI x y i (tmO x y i) 5
def crN (x : List UInt64) : Nat → List UInt64 × UInt64
  | 0 => (x, 0)
  | n + 1 => ((crN x n).1.set n (((crN x n).1.getD n 0 + (crN x n).2) &&& mask26), ((crN x n).1.getD n 0 + (crN x n).2) >>> UInt64.ofNat 26)
def fold26 (x : List UInt64) : List UInt64 := (crN x 5).1.set 0 ((crN x 5).1.getD 0 0 + UInt64.ofNat 5 * (crN x 5).2)
def times26 (x y : List UInt64) : List UInt64 := fold26 (fold26 (tmO x y 5))
def less26 (x : List UInt64) : List UInt64 × UInt64 := crN (plN (fold26 x) ((List.replicate 5 0).set 0 (UInt64.ofNat 5)) 5) 5
def red26 (x : List UInt64) : List UInt64 := if (less26 x).2 == UInt64.ofNat 0 then fold26 x else (less26 x).1
def lowW (x : List UInt64) : UInt64 := x.getD 0 0 ||| (x.getD 1 0 <<< UInt64.ofNat 26) ||| (x.getD 2 0 <<< UInt64.ofNat 52)
def highW (x : List UInt64) : UInt64 := (x.getD 2 0 >>> UInt64.ofNat 12) ||| (x.getD 3 0 <<< UInt64.ofNat 14) ||| (x.getD 4 0 <<< UInt64.ofNat 40)
theorem length_rnN (b : List UInt8) (n : Nat) : (rnN b n).length = 5 := by induction n with | zero => rfl | succ n ih => simp [rnN, ih]
theorem length_plN (x y : List UInt64) (n : Nat) : (plN x y n).length = x.length := by induction n with | zero => rfl | succ n ih => simp [plN, ih]
theorem length_tmI (x y : List UInt64) (i : Nat) (p : List UInt64) (n : Nat) : (tmI x y i p n).length = p.length := by
  induction n with
  | zero => rfl
  | succ n ih => simp only [tmI]; split <;> simp [ih]
theorem length_tmO (x y : List UInt64) (n : Nat) : (tmO x y n).length = 5 := by induction n with | zero => rfl | succ n ih => simp [tmO, length_tmI, ih]
theorem length_crN (x : List UInt64) (n : Nat) : (crN x n).1.length = x.length := by induction n with | zero => rfl | succ n ih => simp [crN, ih]
theorem length_fold26 (x : List UInt64) : (fold26 x).length = x.length := by simp [fold26, length_crN]
theorem length_pwN (l : List UInt8) (o : Nat) (x : UInt64) (n : Nat) : (pwN l o x n).length = l.length := by induction n with | zero => rfl | succ n ih => simp [pwN, ih]
theorem length_times26 (x y : List UInt64) : (times26 x y).length = 5 := by simp [times26, length_fold26, length_tmO]
theorem length_red26 (x : List UInt64) : (red26 x).length = x.length := by
  unfold red26 less26; split <;> simp [length_crN, length_plN, length_fold26]
/-! The key's first half, chunks, the sum. -/
def mA (l : List UInt8) : Nat → List UInt8
  | 0 => l
  | j + 1 => (mA l j).set (4 * j + 3) ((mA l j).getD (4 * j + 3) 0 &&& UInt8.ofNat 15)
def mB (l : List UInt8) : Nat → List UInt8
  | 0 => l
  | j + 1 => (mB l j).set (4 * j + 4) ((mB l j).getD (4 * j + 4) 0 &&& UInt8.ofNat 252)
def multL (key : List UInt8) : List UInt8 := mB (mA (key.take 16 ++ [0]) 4) 3
def chunkL (s : List UInt8) : List UInt8 := (s ++ List.replicate (17 - s.length) 0).set s.length (UInt8.ofNat 1)
def padL (s : List UInt8) : List UInt8 := List.replicate ((16 - s.length % 16) % 16) 0
def accN (r : List UInt64) (s : List UInt8) : Nat → List UInt64
  | 0 => List.replicate 5 0
  | j + 1 => times26 (plN (accN r s j) (rnN (chunkL ((s.drop (16 * j)).take 16)) 5) 5) r
def accL (key s : List UInt8) : List UInt64 := red26 (accN (rnN (multL key) 5) s ((s.length + 15) / 16))
def carW (a b c : UInt64) : UInt64 := UInt64.ofNat ((a.toNat + b.toNat + c.toNat) / 18446744073709551616)
def sumLo (key s : List UInt8) : UInt64 := lowW (accL key s) + rwN (key.drop 16) 8 + UInt64.ofNat 0
def sumHi (key s : List UInt8) : UInt64 := highW (accL key s) + rwN (key.drop 24) 8 + carW (lowW (accL key s)) (rwN (key.drop 16) 8) (UInt64.ofNat 0)
def sumL (key s : List UInt8) : List UInt8 := pwN (pwN (List.replicate 16 0) 0 (sumLo key s) 8) 8 (sumHi key s) 8
theorem length_mA (l : List UInt8) (n : Nat) : (mA l n).length = l.length := by induction n with | zero => rfl | succ n ih => simp [mA, ih]
theorem length_mB (l : List UInt8) (n : Nat) : (mB l n).length = l.length := by induction n with | zero => rfl | succ n ih => simp [mB, ih]
theorem length_multL (key : List UInt8) (h : key.length = 32) : (multL key).length = 17 := by simp [multL, length_mA, length_mB, h]
theorem length_chunkL (s : List UInt8) (h : s.length ≤ 16) : (chunkL s).length = 17 := by simp [chunkL]; omega
theorem length_accN (r : List UInt64) (s : List UInt8) (n : Nat) : (accN r s n).length = 5 := by cases n with | zero => rfl | succ n => simp [accN, length_times26]
theorem length_sumL (key s : List UInt8) : (sumL key s).length = 16 := by simp [sumL, length_pwN]
theorem carW_le (a b : UInt64) : (carW a b (UInt64.ofNat 0)).toNat ≤ 1 := by
  have h1 := a.toNat_lt
  have h2 := b.toNat_lt
  have h3 : (UInt64.ofNat 0).toNat = 0 := rfl
  unfold carW
  rw [h3, UInt64.toNat_ofNat_of_lt' (by show _ < 18446744073709551616; omega)]
  omega
end Go.Proofs.YtidjfinookikcaaDoor
namespace Go.Proofs.YtidjfinookikcaaDoor
open Go.RowKit
theorem getD_set_same {α : Type} (l : List α) (i : Nat) (v z : α) (h : i < l.length) : (l.set i v).getD i z = v := by
  simp [List.getD_eq_getElem?_getD, h]
theorem set_twice {α : Type} (l : List α) (i : Nat) (u v : α) : (l.set i u).set i v = l.set i v := by simp
theorem ofNat_mul8 (n : Nat) : (8 * (n : Int)).toNat = 8 * n := by omega
set_option maxRecDepth 100000 in
theorem readWord_ev (l : List UInt8) (o n e : Nat) (h : o + n ≤ l.length) (hn : n ≤ 8) : Meets Tryd.prog 63 [.sl 500 o n 1] [(500, some ⟨.aggB l, e, false⟩)] (.u64 (rwN (l.drop o) n)) [(500, some ⟨.aggB l, e, false⟩)] := by
 refine meets_of_ev (nt := 22) Tryd.func63 rfl rfl (Nat.le_of_ble_eq_true rfl) ?_
 refine .seq ?_
 refine .region ?_
 refine .q (op_assign rfl) trivial rfl ?_
 refine .nil ?_
 show Ev _ _ _ _ _
 refine .seq ?_
 refine .region ?_
 refine .q (op_assign rfl) trivial rfl ?_
 refine .nil ?_
 show Ev _ _ _ _ _
 refine .seq ?_
 refine .seq ?_
 refine .region ?_
 refine .q (op_move rfl) trivial rfl ?_
 refine .q (op_len_sl Tryd.underlying31 rfl) trivial rfl ?_
 refine .q (op_move rfl) trivial rfl ?_
 refine .nil ?_
 show Ev _ _ _ _ _
 refine .block ?_
 refine Ev.loop (ι := { j : Nat // j ≤ n }) (fun j => ⟨[(0, .sl 500 o n 1), (3, .u64 (rwN (l.drop o) j.1)), (6, .i64 (n : Int)), (7, .i64 ((j.1 : Nat) : Int))], [(500, some ⟨.aggB l, e, false⟩)], 1000⟩) (fun j => n - j.1) ⟨0, Nat.zero_le _⟩ (StLe.mk [] rfl rfl ⟨⟨_, rfl, by first | rfl | (simp only [AV.ren]; congr 1; omega), rfl⟩, ⟨_, rfl, by first | rfl | (simp only [AV.ren]; congr 1; omega), rfl⟩, ⟨_, rfl, by first | rfl | (simp only [AV.ren]; congr 1; omega), rfl⟩, ⟨_, rfl, by first | rfl | (simp only [AV.ren]; congr 1; omega), rfl⟩, trivial⟩ ⟨⟨_, _, rfl, rfl, by first | rfl | (simp only [AV.ren]; congr 1; omega), rfl, id, rfl⟩, trivial⟩) ?_
 rintro ⟨j, hj⟩
 dsimp only
 refine .seq ?_
 refine .region ?_
 refine .q (op_cmpI rfl rfl rfl) trivial rfl ?_
 refine .nil ?_
 show Ev _ _ _ _ _
 refine .seq ?_
 refine .cond rfl (fun hc8 => ?_) (fun hc8 => ?_)
 ·simp only [decide_eq_true_eq] at hc8
  refine .skip ?_
  show Ev _ _ _ _ _
  refine .seq ?_
  refine .block ?_
  refine .seq ?_
  refine .region ?_
  refine .q (op_move rfl) trivial rfl ?_
  refine .q (op_assign rfl) trivial rfl ?_
  refine .nil ?_
  show Ev _ _ _ _ _
  refine .region ?_
  refine .q (op_move rfl) trivial rfl ?_
  refine .q (op_move rfl) trivial rfl ?_
  refine .q (op_move rfl) trivial rfl ?_
  refine .q (ap_idx Tryd.underlying31 inf5.sz rfl rfl rfl (by first | omega | (simp only [AV.len]; omega) | (simp only [AV.len, List.length_set]; omega) | assumption | (simp [AV.len]; done))) trivial rfl ?_
  refine .q (op_load Tryd.underlying5 rfl rfl rfl rfl (by first | omega | (simp only [AV.len]; omega) | (simp only [AV.len, List.length_set]; omega) | assumption | (simp [AV.len]; done))) trivial rfl ?_
  refine .q (op_conv Tryd.underlying5 Tryd.underlying26 rfl rfl) trivial rfl ?_
  refine .q (op_move rfl) trivial rfl ?_
  refine .q (op_mulI rfl rfl ⟨by omega, by omega⟩) trivial rfl ?_
  refine .q (op_shl64 (n := 8 * j) rfl rfl (by simp only [shiftBy]; rw [show (8 : Int) * (j : Int) = ((8 * j : Nat) : Int) by omega]) (by omega)) trivial rfl ?_
  refine .q (op_bin64 rfl rfl rfl) trivial rfl ?_
  refine .q (op_assign rfl) trivial rfl ?_
  refine .nil ?_
  show Ev _ _ _ _ _
  refine .region ?_
  refine .q (op_addI rfl rfl ⟨by omega, by omega⟩) trivial rfl ?_
  refine .q (op_move rfl) trivial rfl ?_
  refine .nil ?_
  exact ⟨⟨j + 1, by omega⟩, by show n - (j + 1) < n - j; omega, StLe.mk [] rfl rfl ⟨⟨_, rfl, by first | rfl | (simp only [AV.ren]; congr 1; omega), rfl⟩, ⟨_, rfl, by (simp only [AV.ren, rwN, List.getD_eq_getElem?_getD, List.getElem?_drop]), rfl⟩, ⟨_, rfl, by first | rfl | (simp only [AV.ren]; congr 1; omega), rfl⟩, ⟨_, rfl, by first | rfl | (simp only [AV.ren]; congr 1; omega), rfl⟩, trivial⟩ ⟨⟨_, _, rfl, rfl, by first | rfl | (simp only [AV.ren]; congr 1; omega), rfl, id, rfl⟩, trivial⟩⟩
 ·simp only [decide_eq_false_iff_not] at hc8
  refine .exit ?_
  show Ev _ _ _ _ _
  have ej : j = n := by omega
  refine Ev.weak (st2 := ⟨[(0, .sl 500 o n 1), (3, .u64 (rwN (l.drop o) (n))), (6, .i64 (n : Int)), (7, .i64 (((n) : Nat) : Int))], [(500, some ⟨.aggB l, e, false⟩)], 1000⟩) (StLe.mk [] rfl rfl ⟨⟨_, rfl, by first | (simp only [AV.ren]; done) | (simp only [AV.ren]; rw [ej]; done) | rfl, rfl⟩, ⟨_, rfl, by first | (simp only [AV.ren]; done) | (simp only [AV.ren]; rw [ej]; done) | rfl, rfl⟩, ⟨_, rfl, by first | (simp only [AV.ren]; done) | (simp only [AV.ren]; rw [ej]; done) | rfl, rfl⟩, ⟨_, rfl, by first | (simp only [AV.ren]; done) | (simp only [AV.ren]; rw [ej]; done) | rfl, rfl⟩, trivial⟩ ⟨⟨_, _, rfl, rfl, by first | (simp only [AV.ren]; done) | (simp only [AV.ren]; rw [ej]; done) | rfl, rfl, id, rfl⟩, trivial⟩) ?_
  refine .seq ?_
  refine .region ?_
  refine .q (op_move rfl) trivial rfl ?_
  refine .q (op_assign rfl) trivial rfl ?_
  refine .nil ?_
  show Ev _ _ _ _ _
  refine .ret ?_
  show RetOk _ _ _ _ _ _ _
  exact ret1v rfl (.inl rfl) rfl rfl ⟨rfl, trivial⟩
set_option maxRecDepth 100000 in
theorem carried_ev (x : List UInt64) (hx : x.length = 5) : Meets Tryd.prog 71 [.agg64 x] [] (.tup [.agg64 (crN x 5).1, .u64 (crN x 5).2]) [] := by
 refine meets_of_ev (nt := 27) Tryd.func71 rfl rfl (Nat.le_of_ble_eq_true rfl) ?_
 refine .seq ?_
 refine .region ?_
 refine .a (op_boxRow rfl rfl) trivial rfl ?_
 refine .a (op_allocRow zero111 rel_zero111 rfl) trivial rfl ?_
 refine .q (op_assign rfl) trivial rfl ?_
 refine .nil ?_
 show Ev _ _ _ _ _
 refine .seq ?_
 refine .region ?_
 refine .q (op_assign rfl) trivial rfl ?_
 refine .nil ?_
 show Ev _ _ _ _ _
 refine .seq ?_
 refine .seq ?_
 refine .region ?_
 refine .q (op_move rfl) trivial rfl ?_
 refine .nil ?_
 show Ev _ _ _ _ _
 refine .block ?_
 refine Ev.loop (ι := { j : Nat // j ≤ 5 }) (fun j => ⟨[(1, .ptr 1000 0), (2, .ptr 1008 0), (4, .u64 (crN x j.1).2), (6, .i64 ((j.1 : Nat) : Int))], [(1000, some ⟨.agg64 (crN x j.1).1, 111, true⟩), (1008, some ⟨.agg64 (List.replicate 5 0), 111, true⟩)], 1016⟩) (fun j => 5 - j.1) ⟨0, Nat.zero_le _⟩ (StLe.mk [(1000, 1000), (1008, 1008)] rfl rfl ⟨⟨_, rfl, by first | rfl | (simp only [AV.ren]; congr 1; omega), rfl⟩, ⟨_, rfl, by first | rfl | (simp only [AV.ren]; congr 1; omega), rfl⟩, ⟨_, rfl, by first | rfl | (simp only [AV.ren]; congr 1; omega), rfl⟩, ⟨_, rfl, by first | rfl | (simp only [AV.ren]; congr 1; omega), rfl⟩, trivial⟩ ⟨⟨_, _, rfl, rfl, by first | rfl | (simp only [AV.ren]; congr 1; omega), rfl, id, rfl⟩, ⟨_, _, rfl, rfl, by first | rfl | (simp only [AV.ren]; congr 1; omega), rfl, id, rfl⟩, trivial⟩) ?_
 rintro ⟨j, hj⟩
 dsimp only
 have hl : (crN x j).1.length = 5 := by rw [length_crN]; exact hx
 refine .seq ?_
 refine .region ?_
 refine .q (op_cmpI rfl rfl rfl) trivial rfl ?_
 refine .nil ?_
 show Ev _ _ _ _ _
 refine .seq ?_
 refine .cond rfl (fun hc7 => ?_) (fun hc7 => ?_)
 ·simp only [decide_eq_true_eq] at hc7
  refine .skip ?_
  show Ev _ _ _ _ _
  refine .seq ?_
  refine .block ?_
  refine .seq ?_
  refine .region ?_
  refine .q (op_move rfl) trivial rfl ?_
  refine .q (op_assign rfl) trivial rfl ?_
  refine .nil ?_
  show Ev _ _ _ _ _
  refine .seq ?_
  refine .region ?_
  refine .q (op_move rfl) trivial rfl ?_
  refine .q (ap_idx_arr Tryd.underlying111 inf26.sz rfl rfl rfl (by first | omega | (simp only [AV.len]; omega) | (simp only [AV.len, List.length_set]; omega) | assumption | (simp [AV.len]; done))) trivial rfl ?_
  refine .q (op_load Tryd.underlying26 rfl rfl rfl rfl (by simp [AV.len, hl]; omega)) trivial rfl ?_
  refine .q (op_move rfl) trivial rfl ?_
  refine .q (op_bin64 rfl rfl rfl) trivial rfl ?_
  refine .q (ap_idx_arr Tryd.underlying111 inf26.sz rfl rfl rfl (by first | omega | (simp only [AV.len]; omega) | (simp only [AV.len, List.length_set]; omega) | assumption | (simp [AV.len]; done))) trivial rfl ?_
  refine .w (op_store inf26.sz rfl rfl rfl rfl rfl (by simp [AV.len, hl]; omega)) trivial rfl ?_
  refine .nil ?_
  show Ev _ _ _ _ _
  refine .seq ?_
  refine .region ?_
  refine .q (op_move rfl) trivial rfl ?_
  refine .q (ap_idx_arr Tryd.underlying111 inf26.sz rfl rfl rfl (by first | omega | (simp only [AV.len]; omega) | (simp only [AV.len, List.length_set]; omega) | assumption | (simp [AV.len]; done))) trivial rfl ?_
  refine .q (op_load Tryd.underlying26 rfl rfl rfl rfl (by simp [AV.len, hl]; omega)) trivial rfl ?_
  refine .q (op_shr64 (n := 26) rfl rfl rfl (by first | omega | (simp only [AV.len]; omega) | (simp only [AV.len, List.length_set]; omega) | assumption | (simp [AV.len]; done))) trivial rfl ?_
  refine .q (op_assign rfl) trivial rfl ?_
  refine .nil ?_
  show Ev _ _ _ _ _
  refine .region ?_
  refine .q (op_move rfl) trivial rfl ?_
  refine .q (ap_idx_arr Tryd.underlying111 inf26.sz rfl rfl rfl (by first | omega | (simp only [AV.len]; omega) | (simp only [AV.len, List.length_set]; omega) | assumption | (simp [AV.len]; done))) trivial rfl ?_
  refine .q (op_load Tryd.underlying26 rfl rfl rfl rfl (by simp [AV.len, hl]; omega)) trivial rfl ?_
  refine .q (op_bin64 rfl rfl rfl) trivial rfl ?_
  refine .q (ap_idx_arr Tryd.underlying111 inf26.sz rfl rfl rfl (by first | omega | (simp only [AV.len]; omega) | (simp only [AV.len, List.length_set]; omega) | assumption | (simp [AV.len]; done))) trivial rfl ?_
  refine .w (op_store inf26.sz rfl rfl rfl rfl rfl (by simp [AV.len, hl]; omega)) trivial rfl ?_
  refine .nil ?_
  show Ev _ _ _ _ _
  refine .region ?_
  refine .q (op_addI rfl rfl ⟨by omega, by omega⟩) trivial rfl ?_
  refine .q (op_move rfl) trivial rfl ?_
  refine .nil ?_
  exact ⟨⟨j + 1, by omega⟩, by show 5 - (j + 1) < 5 - j; omega, StLe.mk [(1000, 1000), (1008, 1008)] rfl rfl ⟨⟨_, rfl, by first | rfl | (simp only [AV.ren]; congr 1; omega), rfl⟩, ⟨_, rfl, by first | rfl | (simp only [AV.ren]; congr 1; omega), rfl⟩, ⟨_, rfl, by (simp only [AV.ren, crN]; rw [getD_set_same _ _ _ _ (by omega)]), rfl⟩, ⟨_, rfl, by first | rfl | (simp only [AV.ren]; congr 1; omega), rfl⟩, trivial⟩ ⟨⟨_, _, rfl, rfl, by (simp only [AV.ren, crN]; rw [getD_set_same _ _ _ _ (by omega), set_twice]; rfl), rfl, id, rfl⟩, ⟨_, _, rfl, rfl, by first | rfl | (simp only [AV.ren]; congr 1; omega), rfl, id, rfl⟩, trivial⟩⟩
 ·simp only [decide_eq_false_iff_not] at hc7
  refine .exit ?_
  show Ev _ _ _ _ _
  have ej : j = 5 := by omega
  refine Ev.weak (st2 := ⟨[(1, .ptr 1000 0), (2, .ptr 1008 0), (4, .u64 (crN x (5)).2), (6, .i64 (((5) : Nat) : Int))], [(1000, some ⟨.agg64 (crN x (5)).1, 111, true⟩), (1008, some ⟨.agg64 (List.replicate 5 0), 111, true⟩)], 1016⟩) (StLe.mk [(1000, 1000), (1008, 1008)] rfl rfl ⟨⟨_, rfl, by first | (simp only [AV.ren]; done) | (simp only [AV.ren]; rw [ej]; done) | rfl, rfl⟩, ⟨_, rfl, by first | (simp only [AV.ren]; done) | (simp only [AV.ren]; rw [ej]; done) | rfl, rfl⟩, ⟨_, rfl, by first | (simp only [AV.ren]; done) | (simp only [AV.ren]; rw [ej]; done) | rfl, rfl⟩, ⟨_, rfl, by first | (simp only [AV.ren]; done) | (simp only [AV.ren]; rw [ej]; done) | rfl, rfl⟩, trivial⟩ ⟨⟨_, _, rfl, rfl, by first | (simp only [AV.ren]; done) | (simp only [AV.ren]; rw [ej]; done) | rfl, rfl, id, rfl⟩, ⟨_, _, rfl, rfl, by first | (simp only [AV.ren]; done) | (simp only [AV.ren]; rw [ej]; done) | rfl, rfl, id, rfl⟩, trivial⟩) ?_
  refine .seq ?_
  refine .region ?_
  refine .q (op_loadRow Tryd.underlying111 rfl sz111 rfl rfl rfl (by simp [AV.len, length_crN, hx])) trivial rfl ?_
  refine .q (op_move rfl) trivial rfl ?_
  refine .w (op_storeRow sz111 rfl rfl rfl rfl rfl (by simp [AV.len, length_crN, hx]) (by simp [AV.len])) trivial rfl ?_
  refine .q (op_assign rfl) trivial rfl ?_
  refine .nil ?_
  show Ev _ _ _ _ _
  refine .ret ?_
  show RetOk _ _ _ _ _ _ _
  exact retc2 rfl (.inl rfl) ⟨_, _, _, _, rfl, rfl, rfl, rfl, (by simp [AV.len, length_crN, hx]), Tryd.underlying111, rfl, sz111⟩ rfl trivial
set_option maxRecDepth 100000 in
theorem plus_ev (x y : List UInt64) (hx : x.length = 5) (hy : y.length = 5) : Meets Tryd.prog 58 [.agg64 x, .agg64 y] [] (.agg64 (plN x y 5)) [] := by
 refine meets_of_ev (nt := 19) Tryd.func58 rfl rfl (Nat.le_of_ble_eq_true rfl) ?_
 refine .seq ?_
 refine .region ?_
 refine .a (op_boxRow rfl rfl) trivial rfl ?_
 refine .a (op_boxRow rfl rfl) trivial rfl ?_
 refine .a (op_allocRow zero111 rel_zero111 rfl) trivial rfl ?_
 refine .nil ?_
 show Ev _ _ _ _ _
 refine .seq ?_
 refine .seq ?_
 refine .region ?_
 refine .q (op_move rfl) trivial rfl ?_
 refine .nil ?_
 show Ev _ _ _ _ _
 refine .block ?_
 refine Ev.loop (ι := { j : Nat // j ≤ 5 }) (fun j => ⟨[(2, .ptr 1000 0), (3, .ptr 1008 0), (4, .ptr 1016 0), (6, .i64 ((j.1 : Nat) : Int))], [(1000, some ⟨.agg64 (plN x y j.1), 111, true⟩), (1008, some ⟨.agg64 y, 111, true⟩), (1016, some ⟨(.agg64 (List.replicate 5 0)), 111, true⟩)], 1024⟩) (fun j => 5 - j.1) ⟨0, Nat.zero_le _⟩ (StLe.mk [(1000, 1000), (1008, 1008), (1016, 1016)] rfl rfl ⟨⟨_, rfl, by first | rfl | (simp only [AV.ren]; congr 1; omega), rfl⟩, ⟨_, rfl, by first | rfl | (simp only [AV.ren]; congr 1; omega), rfl⟩, ⟨_, rfl, by first | rfl | (simp only [AV.ren]; congr 1; omega), rfl⟩, ⟨_, rfl, by first | rfl | (simp only [AV.ren]; congr 1; omega), rfl⟩, trivial⟩ ⟨⟨_, _, rfl, rfl, by first | rfl | (simp only [AV.ren]; congr 1; omega), rfl, id, rfl⟩, ⟨_, _, rfl, rfl, by first | rfl | (simp only [AV.ren]; congr 1; omega), rfl, id, rfl⟩, ⟨_, _, rfl, rfl, by first | rfl | (simp only [AV.ren]; congr 1; omega), rfl, id, rfl⟩, trivial⟩) ?_
 rintro ⟨j, hj⟩
 dsimp only
 have hl : (plN x y j).length = 5 := by rw [length_plN]; exact hx
 refine .seq ?_
 refine .region ?_
 refine .q (op_cmpI rfl rfl rfl) trivial rfl ?_
 refine .nil ?_
 show Ev _ _ _ _ _
 refine .seq ?_
 refine .cond rfl (fun hc7 => ?_) (fun hc7 => ?_)
 ·simp only [decide_eq_true_eq] at hc7
  refine .skip ?_
  show Ev _ _ _ _ _
  refine .seq ?_
  refine .block ?_
  refine .seq ?_
  refine .region ?_
  refine .q (op_move rfl) trivial rfl ?_
  refine .q (op_assign rfl) trivial rfl ?_
  refine .nil ?_
  show Ev _ _ _ _ _
  refine .drawn [[], [0], [0, 1], [], [3], [3, 4], [0, 1, 2, 3, 4, 5], [0, 1, 2, 3, 4, 5, 6], [0, 1, 2, 3, 4, 5, 6, 7]] [2, 5, 8] [8] (by kernel_rfl) (by kernel_rfl) rfl ?_
  show DK _ [0, 1, 2, 3, 4, 5, 6, 7, 8] _ _ _
  refine .q rfl (op_move rfl) trivial ?_
  refine .q rfl (ap_idx_arr Tryd.underlying111 inf26.sz rfl rfl rfl (by first | omega | (simp only [AV.len]; omega) | (simp only [AV.len, List.length_set]; omega) | assumption | (simp [AV.len]; done))) trivial ?_
  refine .q rfl (op_load Tryd.underlying26 rfl rfl rfl rfl (by simp [AV.len, hl]; omega)) trivial ?_
  refine .q rfl (op_move rfl) trivial ?_
  refine .q rfl (ap_idx_arr Tryd.underlying111 inf26.sz rfl rfl rfl (by first | omega | (simp only [AV.len]; omega) | (simp only [AV.len, List.length_set]; omega) | assumption | (simp [AV.len]; done))) trivial ?_
  refine .q rfl (op_load Tryd.underlying26 rfl rfl rfl rfl (by simp [AV.len, hy]; omega)) trivial ?_
  refine .q rfl (op_bin64 rfl rfl rfl) trivial ?_
  refine .q rfl (ap_idx_arr Tryd.underlying111 inf26.sz rfl rfl rfl (by first | omega | (simp only [AV.len]; omega) | (simp only [AV.len, List.length_set]; omega) | assumption | (simp [AV.len]; done))) trivial ?_
  refine .w rfl (op_store inf26.sz rfl rfl rfl rfl rfl (by simp [AV.len, hl]; omega)) trivial rfl rfl ?_
  refine .nil ?_
  show Ev _ _ _ _ _
  refine .region ?_
  refine .q (op_addI rfl rfl ⟨by omega, by omega⟩) trivial rfl ?_
  refine .q (op_move rfl) trivial rfl ?_
  refine .nil ?_
  exact ⟨⟨j + 1, by omega⟩, by show 5 - (j + 1) < 5 - j; omega, StLe.mk [(1000, 1000), (1008, 1008), (1016, 1016)] rfl rfl ⟨⟨_, rfl, by first | rfl | (simp only [AV.ren]; congr 1; omega), rfl⟩, ⟨_, rfl, by first | rfl | (simp only [AV.ren]; congr 1; omega), rfl⟩, ⟨_, rfl, by first | rfl | (simp only [AV.ren]; congr 1; omega), rfl⟩, ⟨_, rfl, by first | rfl | (simp only [AV.ren]; congr 1; omega), rfl⟩, trivial⟩ ⟨⟨_, _, rfl, rfl, by first | rfl | (simp only [AV.ren]; congr 1; omega), rfl, id, rfl⟩, ⟨_, _, rfl, rfl, by first | rfl | (simp only [AV.ren]; congr 1; omega), rfl, id, rfl⟩, ⟨_, _, rfl, rfl, by first | rfl | (simp only [AV.ren]; congr 1; omega), rfl, id, rfl⟩, trivial⟩⟩
 ·simp only [decide_eq_false_iff_not] at hc7
  refine .exit ?_
  show Ev _ _ _ _ _
  have ej : j = 5 := by omega
  refine Ev.weak (st2 := ⟨[(2, .ptr 1000 0), (3, .ptr 1008 0), (4, .ptr 1016 0), (6, .i64 (((5) : Nat) : Int))], [(1000, some ⟨.agg64 (plN x y (5)), 111, true⟩), (1008, some ⟨.agg64 y, 111, true⟩), (1016, some ⟨(.agg64 (List.replicate 5 0)), 111, true⟩)], 1024⟩) (StLe.mk [(1000, 1000), (1008, 1008), (1016, 1016)] rfl rfl ⟨⟨_, rfl, by first | (simp only [AV.ren]; done) | (simp only [AV.ren]; rw [ej]; done) | rfl, rfl⟩, ⟨_, rfl, by first | (simp only [AV.ren]; done) | (simp only [AV.ren]; rw [ej]; done) | rfl, rfl⟩, ⟨_, rfl, by first | (simp only [AV.ren]; done) | (simp only [AV.ren]; rw [ej]; done) | rfl, rfl⟩, ⟨_, rfl, by first | (simp only [AV.ren]; done) | (simp only [AV.ren]; rw [ej]; done) | rfl, rfl⟩, trivial⟩ ⟨⟨_, _, rfl, rfl, by first | (simp only [AV.ren]; done) | (simp only [AV.ren]; rw [ej]; done) | rfl, rfl, id, rfl⟩, ⟨_, _, rfl, rfl, by first | (simp only [AV.ren]; done) | (simp only [AV.ren]; rw [ej]; done) | rfl, rfl, id, rfl⟩, ⟨_, _, rfl, rfl, by first | (simp only [AV.ren]; done) | (simp only [AV.ren]; rw [ej]; done) | rfl, rfl, id, rfl⟩, trivial⟩) ?_
  refine .seq ?_
  refine .region ?_
  refine .q (op_loadRow Tryd.underlying111 rfl sz111 rfl rfl rfl (by simp [AV.len, length_plN, hx])) trivial rfl ?_
  refine .w (op_storeRow sz111 rfl rfl rfl rfl rfl (by simp [AV.len, length_plN, hx]) (by simp [AV.len])) trivial rfl ?_
  refine .nil ?_
  show Ev _ _ _ _ _
  refine .ret ?_
  show RetOk _ _ _ _ _ _ _
  exact retc1 rfl (.inl rfl) ⟨_, _, _, _, rfl, rfl, rfl, rfl, (by simp [AV.len, length_plN, hx]), Tryd.underlying111, rfl, sz111⟩ trivial
set_option maxRecDepth 100000 in
theorem folded_ev (x : List UInt64) (hx : x.length = 5) : Meets Tryd.prog 70 [.agg64 x] [] (.agg64 (fold26 x)) [] := by
 refine meets_of_ev (nt := 16) Tryd.func70 rfl rfl (Nat.le_of_ble_eq_true rfl) ?_
 refine .seq ?_
 refine .region ?_
 refine .a (op_boxRow rfl rfl) trivial rfl ?_
 refine .a (op_allocRow zero111 rel_zero111 rfl) trivial rfl ?_
 refine .nil ?_
 show Ev _ _ _ _ _
 refine .seq ?_
 refine .region ?_
 refine .q (op_loadRow Tryd.underlying111 rfl sz111 rfl rfl rfl (hx)) trivial rfl ?_
 refine .q (op_call (U := []) [] [] (carried_ev _ (by first | assumption | simp [length_plN, length_fold26, hx])) Tryd.func71 (by kernel_rfl) rfl rfl rfl (⟨⟨_, rfl, rfl, rfl⟩, trivial⟩) (trivial) (trivial) (trivial) rfl) trivial rfl ?_
 refine .q (op_move rfl) trivial rfl ?_
 refine .q (op_extract rfl rfl) trivial rfl ?_
 refine .as (.agg64 (crN x 5).1) rfl ?_
 refine .q (op_extract rfl rfl) trivial rfl ?_
 refine .as (.u64 (crN x 5).2) rfl ?_
 refine .w (op_storeRow sz111 rfl rfl rfl rfl rfl (by simp [AV.len, length_crN, hx]) (by simp [AV.len, hx])) trivial rfl ?_
 refine .q (op_assign rfl) trivial rfl ?_
 refine .nil ?_
 show Ev _ _ _ _ _
 refine .seq ?_
 refine .region ?_
 refine .q (ap_idx_arr Tryd.underlying111 inf26.sz rfl rfl rfl (by first | omega | (skip; omega) | (simp only [AV.len, List.length_set]; omega) | assumption | (simp [AV.len]; done))) trivial rfl ?_
 refine .q (op_load Tryd.underlying26 rfl rfl rfl rfl (by simp [AV.len, length_crN, hx])) trivial rfl ?_
 refine .q (op_move rfl) trivial rfl ?_
 refine .q (op_bin64 rfl rfl rfl) trivial rfl ?_
 refine .q (op_bin64 rfl rfl rfl) trivial rfl ?_
 refine .q (ap_idx_arr Tryd.underlying111 inf26.sz rfl rfl rfl (by first | omega | (skip; omega) | (simp only [AV.len, List.length_set]; omega) | assumption | (simp [AV.len]; done))) trivial rfl ?_
 refine .w (op_store inf26.sz rfl rfl rfl rfl rfl (by simp [AV.len, length_crN, hx])) trivial rfl ?_
 refine .nil ?_
 show Ev _ _ _ _ _
 refine .seq ?_
 refine .region ?_
 refine .q (op_loadRow Tryd.underlying111 rfl sz111 rfl rfl rfl (by simp [AV.len, length_crN, hx])) trivial rfl ?_
 refine .w (op_storeRow sz111 rfl rfl rfl rfl rfl (by simp [AV.len, length_crN, hx]) (by simp [AV.len])) trivial rfl ?_
 refine .nil ?_
 show Ev _ _ _ _ _
 refine .ret ?_
 show RetOk _ _ _ _ _ _ _
 exact retc1 rfl (.inl rfl) ⟨_, _, _, _, rfl, rfl, rfl, rfl, (by simp [AV.len, length_fold26, hx]), Tryd.underlying111, rfl, sz111⟩ trivial
set_option maxRecDepth 100000 in
theorem reduced_ev (x : List UInt64) (hx : x.length = 5) : Meets Tryd.prog 61 [.agg64 x] [] (.agg64 (red26 x)) [] := by
 refine meets_of_ev (nt := 18) Tryd.func61 rfl rfl (Nat.le_of_ble_eq_true rfl) ?_
 refine .seq ?_
 refine .region ?_
 refine .a (op_boxRow rfl rfl) trivial rfl ?_
 refine .a (op_allocRow zero111 rel_zero111 rfl) trivial rfl ?_
 refine .nil ?_
 show Ev _ _ _ _ _
 refine .seq ?_
 refine .region ?_
 refine .q (op_loadRow Tryd.underlying111 rfl sz111 rfl rfl rfl (by simp [AV.len, hx])) trivial rfl ?_
 refine .q (op_call (U := []) [] [] (folded_ev _ hx) Tryd.func70 (by kernel_rfl) rfl rfl rfl (⟨⟨_, rfl, rfl, rfl⟩, trivial⟩) (trivial) (trivial) (trivial) rfl) trivial rfl ?_
 refine .as (.agg64 (fold26 x)) rfl ?_
 refine .w (op_storeRow sz111 rfl rfl rfl rfl rfl (by simp [AV.len, length_fold26, hx]) (by simp [AV.len, hx])) trivial rfl ?_
 refine .nil ?_
 show Ev _ _ _ _ _
 refine .seq ?_
 refine .region ?_
 refine .q (op_loadRow Tryd.underlying111 rfl sz111 rfl rfl rfl (by simp [AV.len, length_fold26, hx])) trivial rfl ?_
 refine .q (op_buildArr (us := [(0, _)]) Tryd.underlying111 inf26.sz zero111 rel_zero111 rfl (by decide) ⟨rfl, rfl, rfl, trivial⟩ rfl) trivial rfl ?_
 refine .q (op_call (U := []) [] [] (plus_ev _ _ (by simp [length_fold26, hx]) (by simp)) Tryd.func58 (by kernel_rfl) rfl rfl rfl (⟨⟨_, rfl, rfl, rfl⟩, ⟨_, rfl, rfl, rfl⟩, trivial⟩) (trivial) (trivial) (trivial) rfl) trivial rfl ?_
 refine .as (.agg64 (plN (fold26 x) ((List.replicate 5 0).set 0 (UInt64.ofNat 5)) 5)) rfl ?_
 refine .q (op_call (U := []) [] [] (carried_ev _ (by first | assumption | simp [length_plN, length_fold26, hx])) Tryd.func71 (by kernel_rfl) rfl rfl rfl (⟨⟨_, rfl, rfl, rfl⟩, trivial⟩) (trivial) (trivial) (trivial) rfl) trivial rfl ?_
 refine .q (op_move rfl) trivial rfl ?_
 refine .q (op_extract rfl rfl) trivial rfl ?_
 refine .as (.agg64 (less26 x).1) rfl ?_
 refine .q (op_extract rfl rfl) trivial rfl ?_
 refine .as (.u64 (less26 x).2) rfl ?_
 refine .a (op_allocRow zero111 rel_zero111 rfl) trivial rfl ?_
 refine .w (op_storeRow sz111 rfl rfl rfl rfl rfl (by simp [AV.len, less26, length_crN, length_plN, length_fold26, hx]) (by simp [AV.len])) trivial rfl ?_
 refine .q (op_assign rfl) trivial rfl ?_
 refine .nil ?_
 show Ev _ _ _ _ _
 refine .seq ?_
 refine .seq ?_
 refine .region ?_
 refine .q (op_move rfl) trivial rfl ?_
 refine .q (op_bin64 rfl rfl rfl) trivial rfl ?_
 refine .nil ?_
 show Ev _ _ _ _ _
 refine .cond rfl (fun hc15 => ?_) (fun hc15 => ?_)
 ·simp only [beq_iff_eq] at hc15
  refine .seq ?_
  refine .region ?_
  refine .q (op_loadRow Tryd.underlying111 rfl sz111 rfl rfl rfl (by simp [AV.len, length_fold26, hx])) trivial rfl ?_
  refine .w (op_storeRow sz111 rfl rfl rfl rfl rfl (by simp [AV.len, length_fold26, hx]) (by simp [AV.len])) trivial rfl ?_
  refine .nil ?_
  show Ev _ _ _ _ _
  refine .ret ?_
  show RetOk _ _ _ _ _ _ _
  first
   | exact retc1 rfl (.inl rfl) ⟨_, _, _, _, rfl, rfl, (by unfold red26; rw [if_pos (by simpa using hc15)]), rfl, (by simp [AV.len, length_red26, hx]), Tryd.underlying111, rfl, sz111⟩ trivial
   | exact retc1 rfl (.inl rfl) ⟨_, _, _, _, rfl, rfl, (by unfold red26; rw [if_neg (by simpa using hc15)]), rfl, (by simp [AV.len, length_red26, hx]), Tryd.underlying111, rfl, sz111⟩ trivial
 ·simp only [ne_eq, beq_eq_false_iff_ne] at hc15
  refine .skip ?_
  show Ev _ _ _ _ _
  refine .seq ?_
  refine .region ?_
  refine .q (op_loadRow Tryd.underlying111 rfl sz111 rfl rfl rfl (by simp [AV.len, less26, length_crN, length_plN, length_fold26, hx])) trivial rfl ?_
  refine .w (op_storeRow sz111 rfl rfl rfl rfl rfl (by simp [AV.len, less26, length_crN, length_plN, length_fold26, hx]) (by simp [AV.len])) trivial rfl ?_
  refine .nil ?_
  show Ev _ _ _ _ _
  refine .ret ?_
  show RetOk _ _ _ _ _ _ _
  first
   | exact retc1 rfl (.inl rfl) ⟨_, _, _, _, rfl, rfl, (by unfold red26; rw [if_pos (by simpa using hc15)]), rfl, (by simp [AV.len, length_red26, hx]), Tryd.underlying111, rfl, sz111⟩ trivial
   | exact retc1 rfl (.inl rfl) ⟨_, _, _, _, rfl, rfl, (by unfold red26; rw [if_neg (by simpa using hc15)]), rfl, (by simp [AV.len, length_red26, hx]), Tryd.underlying111, rfl, sz111⟩ trivial
set_option maxRecDepth 100000 in
theorem lowWords_ev (x : List UInt64) (hx : x.length = 5) : Meets Tryd.prog 60 [.agg64 x] [] (.tup [.u64 (lowW x), .u64 (highW x)]) [] := by
 refine meets_of_ev (nt := 27) Tryd.func60 rfl rfl (Nat.le_of_ble_eq_true rfl) ?_
 refine .seq ?_
 refine .region ?_
 refine .a (op_boxRow rfl rfl) trivial rfl ?_
 refine .q (op_assign rfl) trivial rfl ?_
 refine .q (op_assign rfl) trivial rfl ?_
 refine .nil ?_
 show Ev _ _ _ _ _
 refine .seq ?_
 refine .region ?_
 refine .q (ap_idx_arr Tryd.underlying111 inf26.sz rfl rfl rfl (by first | omega | (skip; omega) | (simp only [AV.len, List.length_set]; omega) | assumption | (simp [AV.len]; done))) trivial rfl ?_
 refine .q (op_load Tryd.underlying26 rfl rfl rfl rfl (by simp [AV.len, hx])) trivial rfl ?_
 refine .q (ap_idx_arr Tryd.underlying111 inf26.sz rfl rfl rfl (by first | omega | (skip; omega) | (simp only [AV.len, List.length_set]; omega) | assumption | (simp [AV.len]; done))) trivial rfl ?_
 refine .q (op_load Tryd.underlying26 rfl rfl rfl rfl (by simp [AV.len, hx])) trivial rfl ?_
 refine .q (op_shl64 (n := 26) rfl rfl rfl (by first | omega | (simp only [AV.len]; omega) | (simp only [AV.len, List.length_set]; omega) | assumption | (simp [AV.len]; done))) trivial rfl ?_
 refine .q (op_bin64 rfl rfl rfl) trivial rfl ?_
 refine .q (ap_idx_arr Tryd.underlying111 inf26.sz rfl rfl rfl (by first | omega | (skip; omega) | (simp only [AV.len, List.length_set]; omega) | assumption | (simp [AV.len]; done))) trivial rfl ?_
 refine .q (op_load Tryd.underlying26 rfl rfl rfl rfl (by simp [AV.len, hx])) trivial rfl ?_
 refine .q (op_shl64 (n := 52) rfl rfl rfl (by first | omega | (simp only [AV.len]; omega) | (simp only [AV.len, List.length_set]; omega) | assumption | (simp [AV.len]; done))) trivial rfl ?_
 refine .q (op_bin64 rfl rfl rfl) trivial rfl ?_
 refine .q (op_assign rfl) trivial rfl ?_
 refine .nil ?_
 show Ev _ _ _ _ _
 refine .seq ?_
 refine .region ?_
 refine .q (ap_idx_arr Tryd.underlying111 inf26.sz rfl rfl rfl (by first | omega | (skip; omega) | (simp only [AV.len, List.length_set]; omega) | assumption | (simp [AV.len]; done))) trivial rfl ?_
 refine .q (op_load Tryd.underlying26 rfl rfl rfl rfl (by simp [AV.len, hx])) trivial rfl ?_
 refine .q (op_shr64 (n := 12) rfl rfl rfl (by first | omega | (simp only [AV.len]; omega) | (simp only [AV.len, List.length_set]; omega) | assumption | (simp [AV.len]; done))) trivial rfl ?_
 refine .q (ap_idx_arr Tryd.underlying111 inf26.sz rfl rfl rfl (by first | omega | (skip; omega) | (simp only [AV.len, List.length_set]; omega) | assumption | (simp [AV.len]; done))) trivial rfl ?_
 refine .q (op_load Tryd.underlying26 rfl rfl rfl rfl (by simp [AV.len, hx])) trivial rfl ?_
 refine .q (op_shl64 (n := 14) rfl rfl rfl (by first | omega | (simp only [AV.len]; omega) | (simp only [AV.len, List.length_set]; omega) | assumption | (simp [AV.len]; done))) trivial rfl ?_
 refine .q (op_bin64 rfl rfl rfl) trivial rfl ?_
 refine .q (ap_idx_arr Tryd.underlying111 inf26.sz rfl rfl rfl (by first | omega | (skip; omega) | (simp only [AV.len, List.length_set]; omega) | assumption | (simp [AV.len]; done))) trivial rfl ?_
 refine .q (op_load Tryd.underlying26 rfl rfl rfl rfl (by simp [AV.len, hx])) trivial rfl ?_
 refine .q (op_shl64 (n := 40) rfl rfl rfl (by first | omega | (simp only [AV.len]; omega) | (simp only [AV.len, List.length_set]; omega) | assumption | (simp [AV.len]; done))) trivial rfl ?_
 refine .q (op_bin64 rfl rfl rfl) trivial rfl ?_
 refine .q (op_assign rfl) trivial rfl ?_
 refine .nil ?_
 show Ev _ _ _ _ _
 refine .seq ?_
 refine .region ?_
 refine .q (op_move rfl) trivial rfl ?_
 refine .q (op_move rfl) trivial rfl ?_
 refine .q (op_assign rfl) trivial rfl ?_
 refine .q (op_assign rfl) trivial rfl ?_
 refine .nil ?_
 show Ev _ _ _ _ _
 refine .ret ?_
 show RetOk _ _ _ _ _ _ _
 exact ret2v rfl (.inl rfl) rfl rfl rfl rfl trivial
set_option maxRecDepth 100000 in
theorem times_ev (x y : List UInt64) (hx : x.length = 5) (hy : y.length = 5) : Meets Tryd.prog 57 [.agg64 x, .agg64 y] [] (.agg64 (times26 x y)) [] := by
 refine meets_of_ev (nt := 53) Tryd.func57 rfl rfl (Nat.le_of_ble_eq_true rfl) ?_
 refine .seq ?_
 refine .region ?_
 refine .a (op_boxRow rfl rfl) trivial rfl ?_
 refine .a (op_boxRow rfl rfl) trivial rfl ?_
 refine .a (op_allocRow zero111 rel_zero111 rfl) trivial rfl ?_
 refine .nil ?_
 show Ev _ _ _ _ _
 refine .seq ?_
 refine .region ?_
 refine .a (op_allocRow zero111 rel_zero111 rfl) trivial rfl ?_
 refine .nil ?_
 show Ev _ _ _ _ _
 refine .seq ?_
 refine .seq ?_
 refine .region ?_
 refine .q (op_move rfl) trivial rfl ?_
 refine .nil ?_
 show Ev _ _ _ _ _
 refine .block ?_
 refine Ev.loop (ι := { j : Nat // j ≤ 5 }) (fun j => ⟨[(2, .ptr 1000 0), (3, .ptr 1008 0), (4, .ptr 1016 0), (5, .ptr 1024 0), (8, .i64 ((j.1 : Nat) : Int))], [(1000, some ⟨.agg64 x, 111, true⟩), (1008, some ⟨.agg64 y, 111, true⟩), (1016, some ⟨(.agg64 (List.replicate 5 0)), 111, true⟩), (1024, some ⟨.agg64 (tmO x y j.1), 111, true⟩)], 1032⟩) (fun j => 5 - j.1) ⟨0, Nat.zero_le _⟩ (StLe.mk [(1000, 1000), (1008, 1008), (1016, 1016), (1024, 1024)] rfl rfl ⟨⟨_, rfl, by first | rfl | (simp only [AV.ren]; congr 1; omega), rfl⟩, ⟨_, rfl, by first | rfl | (simp only [AV.ren]; congr 1; omega), rfl⟩, ⟨_, rfl, by first | rfl | (simp only [AV.ren]; congr 1; omega), rfl⟩, ⟨_, rfl, by first | rfl | (simp only [AV.ren]; congr 1; omega), rfl⟩, ⟨_, rfl, by first | rfl | (simp only [AV.ren]; congr 1; omega), rfl⟩, trivial⟩ ⟨⟨_, _, rfl, rfl, by first | rfl | (simp only [AV.ren]; congr 1; omega), rfl, id, rfl⟩, ⟨_, _, rfl, rfl, by first | rfl | (simp only [AV.ren]; congr 1; omega), rfl, id, rfl⟩, ⟨_, _, rfl, rfl, by first | rfl | (simp only [AV.ren]; congr 1; omega), rfl, id, rfl⟩, ⟨_, _, rfl, rfl, by first | rfl | (simp only [AV.ren]; congr 1; omega), rfl, id, rfl⟩, trivial⟩) ?_
 rintro ⟨i, hi⟩
 dsimp only
 refine .seq ?_
 refine .region ?_
 refine .q (op_cmpI rfl rfl rfl) trivial rfl ?_
 refine .nil ?_
 show Ev _ _ _ _ _
 refine .seq ?_
 refine .cond rfl (fun hc9 => ?_) (fun hc9 => ?_)
 ·simp only [decide_eq_true_eq] at hc9
  refine .skip ?_
  show Ev _ _ _ _ _
  refine .seq ?_
  refine .block ?_
  refine .seq ?_
  refine .region ?_
  refine .q (op_move rfl) trivial rfl ?_
  refine .q (op_assign rfl) trivial rfl ?_
  refine .nil ?_
  show Ev _ _ _ _ _
  refine .seq ?_
  refine .region ?_
  refine .q (op_move rfl) trivial rfl ?_
  refine .nil ?_
  show Ev _ _ _ _ _
  refine .block ?_
  refine Ev.loop (ι := { j : Nat // j ≤ 5 }) (fun j => ⟨[(2, .ptr 1000 0), (3, .ptr 1008 0), (4, .ptr 1016 0), (5, .ptr 1024 0), (6, .i64 (i : Int)), (8, .i64 (i : Int)), (11, .i64 ((j.1 : Nat) : Int))], [(1000, some ⟨.agg64 x, 111, true⟩), (1008, some ⟨.agg64 y, 111, true⟩), (1016, some ⟨(.agg64 (List.replicate 5 0)), 111, true⟩), (1024, some ⟨.agg64 (tmI x y i (tmO x y i) j.1), 111, true⟩)], 1032⟩) (fun j => 5 - j.1) ⟨0, Nat.zero_le _⟩ (StLe.mk [(1000, 1000), (1008, 1008), (1016, 1016), (1024, 1024)] rfl rfl ⟨⟨_, rfl, by first | rfl | (simp only [AV.ren]; congr 1; omega), rfl⟩, ⟨_, rfl, by first | rfl | (simp only [AV.ren]; congr 1; omega), rfl⟩, ⟨_, rfl, by first | rfl | (simp only [AV.ren]; congr 1; omega), rfl⟩, ⟨_, rfl, by first | rfl | (simp only [AV.ren]; congr 1; omega), rfl⟩, ⟨_, rfl, by first | rfl | (simp only [AV.ren]; congr 1; omega), rfl⟩, ⟨_, rfl, by first | rfl | (simp only [AV.ren]; congr 1; omega), rfl⟩, ⟨_, rfl, by first | rfl | (simp only [AV.ren]; congr 1; omega), rfl⟩, trivial⟩ ⟨⟨_, _, rfl, rfl, by first | rfl | (simp only [AV.ren]; congr 1; omega), rfl, id, rfl⟩, ⟨_, _, rfl, rfl, by first | rfl | (simp only [AV.ren]; congr 1; omega), rfl, id, rfl⟩, ⟨_, _, rfl, rfl, by first | rfl | (simp only [AV.ren]; congr 1; omega), rfl, id, rfl⟩, ⟨_, _, rfl, rfl, by first | rfl | (simp only [AV.ren]; congr 1; omega), rfl, id, rfl⟩, trivial⟩) ?_
  rintro ⟨j, hj⟩
  dsimp only
  have hl : (tmI x y i (tmO x y i) j).length = 5 := by rw [length_tmI, length_tmO]
  refine .seq ?_
  refine .region ?_
  refine .q (op_cmpI rfl rfl rfl) trivial rfl ?_
  refine .nil ?_
  show Ev _ _ _ _ _
  refine .seq ?_
  refine .cond rfl (fun hc12 => ?_) (fun hc12 => ?_)
  ·simp only [decide_eq_true_eq] at hc12
   refine .skip ?_
   show Ev _ _ _ _ _
   refine .seq ?_
   refine .block ?_
   refine .seq ?_
   refine .region ?_
   refine .q (op_move rfl) trivial rfl ?_
   refine .q (op_assign rfl) trivial rfl ?_
   refine .nil ?_
   show Ev _ _ _ _ _
   refine .seq ?_
   refine .region ?_
   refine .q (op_move rfl) trivial rfl ?_
   refine .q (op_move rfl) trivial rfl ?_
   refine .q (op_addI rfl rfl ⟨by omega, by omega⟩) trivial rfl ?_
   refine .q (op_cmpI rfl rfl rfl) trivial rfl ?_
   refine .nil ?_
   show Ev _ _ _ _ _
   refine .cond rfl (fun hc17 => ?_) (fun hc17 => ?_)
   ·simp only [decide_eq_true_eq] at hc17
    refine .drawn [[], [], [0, 1], [0, 1, 2], [0, 1, 2, 3], [], [5], [5, 6], [], [8], [8, 9], [5, 6, 7, 8, 9, 10], [0, 1, 2, 3, 4, 5, 6, 7, 8, 9, 10, 11], [0, 1, 2, 3, 4, 5, 6, 7, 8, 9, 10, 11, 12], [0, 1, 2, 3, 4, 5, 6, 7, 8, 9, 10, 11, 12, 13]] [4, 7, 10, 14] [14] (by kernel_rfl) (by kernel_rfl) rfl ?_
    show DK _ [0, 1, 2, 3, 4, 5, 6, 7, 8, 9, 10, 11, 12, 13, 14] _ _ _
    refine .q rfl (op_move rfl) trivial ?_
    refine .q rfl (op_move rfl) trivial ?_
    refine .q rfl (op_addI rfl rfl ⟨by omega, by omega⟩) trivial ?_
    refine .q rfl (ap_idx_arr Tryd.underlying111 inf26.sz rfl rfl (i := i + j) (by omega) (by first | omega | (simp only [AV.len]; omega) | (simp only [AV.len, List.length_set]; omega) | assumption | (simp [AV.len]; done))) trivial ?_
    refine .q rfl (op_load Tryd.underlying26 rfl rfl rfl rfl (by first | omega | (simp [AV.len, hl]; omega) | simp [AV.len, hl, hx, hy])) trivial ?_
    refine .q rfl (op_move rfl) trivial ?_
    refine .q rfl (ap_idx_arr Tryd.underlying111 inf26.sz rfl rfl rfl (by first | omega | (simp only [AV.len]; omega) | (simp only [AV.len, List.length_set]; omega) | assumption | (simp [AV.len]; done))) trivial ?_
    refine .q rfl (op_load Tryd.underlying26 rfl rfl rfl rfl (by first | omega | (simp [AV.len, hx]; omega) | simp [AV.len, hl, hx, hy])) trivial ?_
    refine .q rfl (op_move rfl) trivial ?_
    refine .q rfl (ap_idx_arr Tryd.underlying111 inf26.sz rfl rfl rfl (by first | omega | (simp only [AV.len]; omega) | (simp only [AV.len, List.length_set]; omega) | assumption | (simp [AV.len]; done))) trivial ?_
    refine .q rfl (op_load Tryd.underlying26 rfl rfl rfl rfl (by first | omega | (simp [AV.len, hy]; omega) | simp [AV.len, hl, hx, hy])) trivial ?_
    refine .q rfl (op_bin64 rfl rfl rfl) trivial ?_
    refine .q rfl (op_bin64 rfl rfl rfl) trivial ?_
    refine .q rfl (ap_idx_arr Tryd.underlying111 inf26.sz rfl rfl (i := i + j) (by omega) (by first | omega | (simp only [AV.len]; omega) | (simp only [AV.len, List.length_set]; omega) | assumption | (simp [AV.len]; done))) trivial ?_
    refine .w rfl (op_store inf26.sz rfl rfl rfl rfl rfl (by first | omega | (simp [AV.len, hl]; omega) | simp [AV.len, hl, hx, hy])) trivial rfl rfl ?_
    refine .nil ?_
    show Ev _ _ _ _ _
    refine .region ?_
    refine .q (op_addI rfl rfl ⟨by omega, by omega⟩) trivial rfl ?_
    refine .q (op_move rfl) trivial rfl ?_
    refine .nil ?_
    exact ⟨⟨j + 1, by omega⟩, by show 5 - (j + 1) < 5 - j; omega, StLe.mk [(1000, 1000), (1008, 1008), (1016, 1016), (1024, 1024)] rfl rfl ⟨⟨_, rfl, by first | rfl | (simp only [AV.ren]; congr 1; omega), rfl⟩, ⟨_, rfl, by first | rfl | (simp only [AV.ren]; congr 1; omega), rfl⟩, ⟨_, rfl, by first | rfl | (simp only [AV.ren]; congr 1; omega), rfl⟩, ⟨_, rfl, by first | rfl | (simp only [AV.ren]; congr 1; omega), rfl⟩, ⟨_, rfl, by first | rfl | (simp only [AV.ren]; congr 1; omega), rfl⟩, ⟨_, rfl, by first | rfl | (simp only [AV.ren]; congr 1; omega), rfl⟩, ⟨_, rfl, by first | rfl | (simp only [AV.ren]; congr 1; omega), rfl⟩, trivial⟩ ⟨⟨_, _, rfl, rfl, by first | rfl | (simp only [AV.ren]; congr 1; omega), rfl, id, rfl⟩, ⟨_, _, rfl, rfl, by first | rfl | (simp only [AV.ren]; congr 1; omega), rfl, id, rfl⟩, ⟨_, _, rfl, rfl, by first | rfl | (simp only [AV.ren]; congr 1; omega), rfl, id, rfl⟩, ⟨_, _, rfl, rfl, by (simp only [AV.ren, tmI]; first | rw [if_pos (by omega)] | rw [if_neg (by omega)]), rfl, id, rfl⟩, trivial⟩⟩
   ·simp only [decide_eq_false_iff_not] at hc17
    refine .drawn [[], [], [0, 1], [0, 1, 2], [0, 1, 2, 3], [0, 1, 2, 3, 4], [], [6], [6, 7], [6, 7, 8], [], [10], [10, 11], [6, 7, 8, 9, 10, 11, 12], [0, 1, 2, 3, 4, 5, 6, 7, 8, 9, 10, 11, 12, 13], [0, 1, 2, 3, 4, 5, 6, 7, 8, 9, 10, 11, 12, 13, 14], [0, 1, 2, 3, 4, 5, 6, 7, 8, 9, 10, 11, 12, 13, 14, 15]] [5, 8, 12, 16] [16] (by kernel_rfl) (by kernel_rfl) rfl ?_
    show DK _ [0, 1, 2, 3, 4, 5, 6, 7, 8, 9, 10, 11, 12, 13, 14, 15, 16] _ _ _
    refine .q rfl (op_move rfl) trivial ?_
    refine .q rfl (op_move rfl) trivial ?_
    refine .q rfl (op_addI rfl rfl ⟨by omega, by omega⟩) trivial ?_
    refine .q rfl (op_subI rfl rfl ⟨by omega, by omega⟩) trivial ?_
    refine .q rfl (ap_idx_arr Tryd.underlying111 inf26.sz rfl rfl (i := i + j - 5) (by omega) (by first | omega | (simp only [AV.len]; omega) | (simp only [AV.len, List.length_set]; omega) | assumption | (simp [AV.len]; done))) trivial ?_
    refine .q rfl (op_load Tryd.underlying26 rfl rfl rfl rfl (by first | omega | (simp [AV.len, hl]; omega) | simp [AV.len, hl, hx, hy])) trivial ?_
    refine .q rfl (op_move rfl) trivial ?_
    refine .q rfl (ap_idx_arr Tryd.underlying111 inf26.sz rfl rfl rfl (by first | omega | (simp only [AV.len]; omega) | (simp only [AV.len, List.length_set]; omega) | assumption | (simp [AV.len]; done))) trivial ?_
    refine .q rfl (op_load Tryd.underlying26 rfl rfl rfl rfl (by first | omega | (simp [AV.len, hx]; omega) | simp [AV.len, hl, hx, hy])) trivial ?_
    refine .q rfl (op_bin64 rfl rfl rfl) trivial ?_
    refine .q rfl (op_move rfl) trivial ?_
    refine .q rfl (ap_idx_arr Tryd.underlying111 inf26.sz rfl rfl rfl (by first | omega | (simp [AV.len, hl, hx, hy]; omega) | simp [AV.len, hl, hx, hy])) trivial ?_
    refine .q rfl (op_load Tryd.underlying26 rfl rfl rfl rfl (by first | omega | (simp only [AV.len]; omega) | (simp only [AV.len, List.length_set]; omega) | assumption | (simp [AV.len]; done))) trivial ?_
    refine .q rfl (op_bin64 rfl rfl rfl) trivial ?_
    refine .q rfl (op_bin64 rfl rfl rfl) trivial ?_
    refine .q rfl (ap_idx_arr Tryd.underlying111 inf26.sz rfl rfl (i := i + j - 5) (by omega) (by first | omega | (simp only [AV.len]; omega) | (simp only [AV.len, List.length_set]; omega) | assumption | (simp [AV.len]; done))) trivial ?_
    refine .w rfl (op_store inf26.sz rfl rfl rfl rfl rfl (by first | omega | (simp [AV.len, hl]; omega) | simp [AV.len, hl, hx, hy])) trivial rfl rfl ?_
    refine .nil ?_
    show Ev _ _ _ _ _
    refine .region ?_
    refine .q (op_addI rfl rfl ⟨by omega, by omega⟩) trivial rfl ?_
    refine .q (op_move rfl) trivial rfl ?_
    refine .nil ?_
    exact ⟨⟨j + 1, by omega⟩, by show 5 - (j + 1) < 5 - j; omega, StLe.mk [(1000, 1000), (1008, 1008), (1016, 1016), (1024, 1024)] rfl rfl ⟨⟨_, rfl, by first | rfl | (simp only [AV.ren]; congr 1; omega), rfl⟩, ⟨_, rfl, by first | rfl | (simp only [AV.ren]; congr 1; omega), rfl⟩, ⟨_, rfl, by first | rfl | (simp only [AV.ren]; congr 1; omega), rfl⟩, ⟨_, rfl, by first | rfl | (simp only [AV.ren]; congr 1; omega), rfl⟩, ⟨_, rfl, by first | rfl | (simp only [AV.ren]; congr 1; omega), rfl⟩, ⟨_, rfl, by first | rfl | (simp only [AV.ren]; congr 1; omega), rfl⟩, ⟨_, rfl, by first | rfl | (simp only [AV.ren]; congr 1; omega), rfl⟩, trivial⟩ ⟨⟨_, _, rfl, rfl, by first | rfl | (simp only [AV.ren]; congr 1; omega), rfl, id, rfl⟩, ⟨_, _, rfl, rfl, by first | rfl | (simp only [AV.ren]; congr 1; omega), rfl, id, rfl⟩, ⟨_, _, rfl, rfl, by first | rfl | (simp only [AV.ren]; congr 1; omega), rfl, id, rfl⟩, ⟨_, _, rfl, rfl, by (simp only [AV.ren, tmI]; first | rw [if_pos (by omega)] | rw [if_neg (by omega)]), rfl, id, rfl⟩, trivial⟩⟩
  ·simp only [decide_eq_false_iff_not] at hc12
   refine .exit ?_
   show Ev _ _ _ _ _
   have ej : j = 5 := by omega
   refine Ev.weak (st2 := ⟨[(2, .ptr 1000 0), (3, .ptr 1008 0), (4, .ptr 1016 0), (5, .ptr 1024 0), (6, .i64 (i : Int)), (8, .i64 (i : Int)), (11, .i64 (((5) : Nat) : Int))], [(1000, some ⟨.agg64 x, 111, true⟩), (1008, some ⟨.agg64 y, 111, true⟩), (1016, some ⟨(.agg64 (List.replicate 5 0)), 111, true⟩), (1024, some ⟨.agg64 (tmI x y i (tmO x y i) (5)), 111, true⟩)], 1032⟩) (StLe.mk [(1000, 1000), (1008, 1008), (1016, 1016), (1024, 1024)] rfl rfl ⟨⟨_, rfl, by first | (simp only [AV.ren]; done) | (simp only [AV.ren]; rw [ej]; done) | rfl, rfl⟩, ⟨_, rfl, by first | (simp only [AV.ren]; done) | (simp only [AV.ren]; rw [ej]; done) | rfl, rfl⟩, ⟨_, rfl, by first | (simp only [AV.ren]; done) | (simp only [AV.ren]; rw [ej]; done) | rfl, rfl⟩, ⟨_, rfl, by first | (simp only [AV.ren]; done) | (simp only [AV.ren]; rw [ej]; done) | rfl, rfl⟩, ⟨_, rfl, by first | (simp only [AV.ren]; done) | (simp only [AV.ren]; rw [ej]; done) | rfl, rfl⟩, ⟨_, rfl, by first | (simp only [AV.ren]; done) | (simp only [AV.ren]; rw [ej]; done) | rfl, rfl⟩, ⟨_, rfl, by first | (simp only [AV.ren]; done) | (simp only [AV.ren]; rw [ej]; done) | rfl, rfl⟩, trivial⟩ ⟨⟨_, _, rfl, rfl, by first | (simp only [AV.ren]; done) | (simp only [AV.ren]; rw [ej]; done) | rfl, rfl, id, rfl⟩, ⟨_, _, rfl, rfl, by first | (simp only [AV.ren]; done) | (simp only [AV.ren]; rw [ej]; done) | rfl, rfl, id, rfl⟩, ⟨_, _, rfl, rfl, by first | (simp only [AV.ren]; done) | (simp only [AV.ren]; rw [ej]; done) | rfl, rfl, id, rfl⟩, ⟨_, _, rfl, rfl, by first | (simp only [AV.ren]; done) | (simp only [AV.ren]; rw [ej]; done) | rfl, rfl, id, rfl⟩, trivial⟩) ?_
   refine .region ?_
   refine .q (op_addI rfl rfl ⟨by omega, by omega⟩) trivial rfl ?_
   refine .q (op_move rfl) trivial rfl ?_
   refine .nil ?_
   exact ⟨⟨i + 1, by omega⟩, by show 5 - (i + 1) < 5 - i; omega, StLe.mk [(1000, 1000), (1008, 1008), (1016, 1016), (1024, 1024)] rfl rfl ⟨⟨_, rfl, by first | rfl | (simp only [AV.ren]; congr 1; omega), rfl⟩, ⟨_, rfl, by first | rfl | (simp only [AV.ren]; congr 1; omega), rfl⟩, ⟨_, rfl, by first | rfl | (simp only [AV.ren]; congr 1; omega), rfl⟩, ⟨_, rfl, by first | rfl | (simp only [AV.ren]; congr 1; omega), rfl⟩, ⟨_, rfl, by first | rfl | (simp only [AV.ren]; congr 1; omega), rfl⟩, trivial⟩ ⟨⟨_, _, rfl, rfl, by first | rfl | (simp only [AV.ren]; congr 1; omega), rfl, id, rfl⟩, ⟨_, _, rfl, rfl, by first | rfl | (simp only [AV.ren]; congr 1; omega), rfl, id, rfl⟩, ⟨_, _, rfl, rfl, by first | rfl | (simp only [AV.ren]; congr 1; omega), rfl, id, rfl⟩, ⟨_, _, rfl, rfl, by first | rfl | (simp only [AV.ren]; congr 1; omega), rfl, id, rfl⟩, trivial⟩⟩
 ·simp only [decide_eq_false_iff_not] at hc9
  refine .exit ?_
  show Ev _ _ _ _ _
  have ei : i = 5 := by omega
  refine Ev.weak (st2 := ⟨[(2, .ptr 1000 0), (3, .ptr 1008 0), (4, .ptr 1016 0), (5, .ptr 1024 0), (8, .i64 (((5) : Nat) : Int))], [(1000, some ⟨.agg64 x, 111, true⟩), (1008, some ⟨.agg64 y, 111, true⟩), (1016, some ⟨(.agg64 (List.replicate 5 0)), 111, true⟩), (1024, some ⟨.agg64 (tmO x y (5)), 111, true⟩)], 1032⟩) (StLe.mk [(1000, 1000), (1008, 1008), (1016, 1016), (1024, 1024)] rfl rfl ⟨⟨_, rfl, by first | (simp only [AV.ren]; done) | (simp only [AV.ren]; rw [ei]; done) | rfl, rfl⟩, ⟨_, rfl, by first | (simp only [AV.ren]; done) | (simp only [AV.ren]; rw [ei]; done) | rfl, rfl⟩, ⟨_, rfl, by first | (simp only [AV.ren]; done) | (simp only [AV.ren]; rw [ei]; done) | rfl, rfl⟩, ⟨_, rfl, by first | (simp only [AV.ren]; done) | (simp only [AV.ren]; rw [ei]; done) | rfl, rfl⟩, ⟨_, rfl, by first | (simp only [AV.ren]; done) | (simp only [AV.ren]; rw [ei]; done) | rfl, rfl⟩, trivial⟩ ⟨⟨_, _, rfl, rfl, by first | (simp only [AV.ren]; done) | (simp only [AV.ren]; rw [ei]; done) | rfl, rfl, id, rfl⟩, ⟨_, _, rfl, rfl, by first | (simp only [AV.ren]; done) | (simp only [AV.ren]; rw [ei]; done) | rfl, rfl, id, rfl⟩, ⟨_, _, rfl, rfl, by first | (simp only [AV.ren]; done) | (simp only [AV.ren]; rw [ei]; done) | rfl, rfl, id, rfl⟩, ⟨_, _, rfl, rfl, by first | (simp only [AV.ren]; done) | (simp only [AV.ren]; rw [ei]; done) | rfl, rfl, id, rfl⟩, trivial⟩) ?_
  refine .seq ?_
  refine .region ?_
  refine .q (op_loadRow Tryd.underlying111 rfl sz111 rfl rfl rfl (by simp [AV.len, length_tmO])) trivial rfl ?_
  refine .q (op_call (U := []) [] [] (folded_ev _ (by simp [length_tmO])) Tryd.func70 (by kernel_rfl) rfl rfl rfl (⟨⟨_, rfl, rfl, rfl⟩, trivial⟩) (trivial) (trivial) (trivial) rfl) trivial rfl ?_
  refine .as (.agg64 (fold26 (tmO x y 5))) rfl ?_
  refine .q (op_call (U := []) [] [] (folded_ev _ (by simp [length_fold26, length_tmO])) Tryd.func70 (by kernel_rfl) rfl rfl rfl (⟨⟨_, rfl, rfl, rfl⟩, trivial⟩) (trivial) (trivial) (trivial) rfl) trivial rfl ?_
  refine .as (.agg64 (times26 x y)) rfl ?_
  refine .w (op_storeRow sz111 rfl rfl rfl rfl rfl (by simp [AV.len, length_times26]) (by simp [AV.len])) trivial rfl ?_
  refine .nil ?_
  show Ev _ _ _ _ _
  refine .ret ?_
  show RetOk _ _ _ _ _ _ _
  exact retc1 rfl (.inl rfl) ⟨_, _, _, _, rfl, rfl, rfl, rfl, (by simp [AV.len, length_times26]), Tryd.underlying111, rfl, sz111⟩ trivial
end Go.Proofs.YtidjfinookikcaaDoor
namespace Go.Proofs.YtidjfinookikcaaDoor
open Go.RowKit
set_option maxRecDepth 100000 in
theorem readNumber_ev (b : List UInt8) (hb : b.length = 17) : Meets Tryd.prog 55 [.aggB b] [] (.agg64 (rnN b 5)) [] := by
 refine meets_of_ev (nt := 26) Tryd.func55 rfl rfl (Nat.le_of_ble_eq_true rfl) ?_
 refine .seq ?_
 refine .region ?_
 refine .a (op_boxRow rfl rfl) trivial rfl ?_
 refine .a (op_allocRow zero111 rel_zero111 rfl) trivial rfl ?_
 refine .nil ?_
 show Ev _ _ _ _ _
 refine .seq ?_
 refine .region ?_
 refine .a (op_allocRow zero111 rel_zero111 rfl) trivial rfl ?_
 refine .nil ?_
 show Ev _ _ _ _ _
 refine .seq ?_
 refine .seq ?_
 refine .region ?_
 refine .q (op_move rfl) trivial rfl ?_
 refine .nil ?_
 show Ev _ _ _ _ _
 refine .block ?_
 refine Ev.loop (ι := { j : Nat // j ≤ 5 }) (fun j => ⟨[(1, .ptr 1000 0), (2, .ptr 1008 0), (3, .ptr 1016 0), (6, .i64 ((j.1 : Nat) : Int))], [(1000, some ⟨.aggB b, 113, true⟩), (1008, some ⟨.agg64 (List.replicate 5 0), 111, true⟩), (1016, some ⟨.agg64 (rnN b j.1), 111, true⟩)], 1024⟩) (fun j => 5 - j.1) ⟨0, Nat.zero_le _⟩ (StLe.mk [(1000, 1000), (1008, 1008), (1016, 1016)] rfl rfl ⟨⟨_, rfl, by first | rfl | (simp only [AV.ren]; congr 1; omega), rfl⟩, ⟨_, rfl, by first | rfl | (simp only [AV.ren]; congr 1; omega), rfl⟩, ⟨_, rfl, by first | rfl | (simp only [AV.ren]; congr 1; omega), rfl⟩, ⟨_, rfl, by first | rfl | (simp only [AV.ren]; congr 1; omega), rfl⟩, trivial⟩ ⟨⟨_, _, rfl, rfl, by first | rfl | (simp only [AV.ren]; congr 1; omega), rfl, id, rfl⟩, ⟨_, _, rfl, rfl, by first | rfl | (simp only [AV.ren]; congr 1; omega), rfl, id, rfl⟩, ⟨_, _, rfl, rfl, by first | rfl | (simp only [AV.ren]; congr 1; omega), rfl, id, rfl⟩, trivial⟩) ?_
 rintro ⟨j, hj⟩
 dsimp only
 have hl : (rnN b j).length = 5 := length_rnN b j
 have hj8 : j * 26 / 8 + 4 ≤ 17 ∨ 5 ≤ j := by omega
 refine .seq ?_
 refine .region ?_
 refine .q (op_cmpI rfl rfl rfl) trivial rfl ?_
 refine .nil ?_
 show Ev _ _ _ _ _
 refine .seq ?_
 refine .cond rfl (fun hc7 => ?_) (fun hc7 => ?_)
 ·simp only [decide_eq_true_eq] at hc7
  refine .skip ?_
  show Ev _ _ _ _ _
  refine .seq ?_
  refine .block ?_
  refine .seq ?_
  refine .region ?_
  refine .q (op_move rfl) trivial rfl ?_
  refine .q (op_assign rfl) trivial rfl ?_
  refine .nil ?_
  show Ev _ _ _ _ _
  refine .seq ?_
  refine .region ?_
  refine .q (op_move rfl) trivial rfl ?_
  refine .q (op_mulI rfl rfl ⟨by omega, by omega⟩) trivial rfl ?_
  refine .q (op_quoI rfl rfl ⟨by omega, ⟨by omega, by omega⟩, by omega⟩) trivial rfl ?_
  refine .as (.i64 ((j * 26 / 8 : Nat) : Int)) (by congr 1) ?_
  refine .q (op_assign rfl) trivial rfl ?_
  refine .nil ?_
  show Ev _ _ _ _ _
  refine .region ?_
  refine .q (op_move rfl) trivial rfl ?_
  refine .q (op_move rfl) trivial rfl ?_
  refine .q (op_move rfl) trivial rfl ?_
  refine .q (op_addI rfl rfl ⟨by omega, by omega⟩) trivial rfl ?_
  refine .q (op_slice_arr Tryd.underlying113 inf5.sz rfl rfl (by first | omega | (simp only [AV.len]; omega)) (by decide) (bnd_some rfl rfl) (bnd_some rfl (l := j * 26 / 8 + 4) (by omega)) (by first | omega | (simp only [AV.len]; omega)) (by first | omega | (simp only [AV.len]; omega))) trivial rfl ?_
  refine .as (.sl 1000 (j * 26 / 8) 4 1) (by congr 1 <;> omega) ?_
  refine .q (op_call (U := []) [(500, 1000)] [] (readWord_ev b (j * 26 / 8) 4 113 (by omega) (by omega)) Tryd.func63 (by kernel_rfl) rfl rfl rfl (⟨⟨_, rfl, rfl, rfl⟩, trivial⟩) (⟨⟨_, _, rfl, rfl, rfl, rfl, (fun h => by cases h), rfl⟩, trivial⟩) (trivial) (⟨(fun h => by cases h), trivial⟩) rfl) trivial rfl ?_
  refine .as (.u64 (rwN (b.drop (j * 26 / 8)) 4)) rfl ?_
  refine .q (op_move rfl) trivial rfl ?_
  refine .q (op_mulI rfl rfl ⟨by omega, by omega⟩) trivial rfl ?_
  refine .q (op_remI rfl rfl ⟨by omega, by omega⟩) trivial rfl ?_
  refine .q (op_shr64 (n := j * 26 % 8) rfl rfl (by simp only [shiftBy]; rw [show (j : Int) * 26 % 8 = ((j * 26 % 8 : Nat) : Int) by omega]) (by omega)) trivial rfl ?_
  refine .q (op_bin64 rfl rfl rfl) trivial rfl ?_
  refine .q (ap_idx_arr Tryd.underlying111 inf26.sz rfl rfl rfl (by first | omega | (simp only [AV.len]; omega) | (simp only [AV.len, List.length_set]; omega) | assumption | (simp [AV.len]; done))) trivial rfl ?_
  refine .w (op_store inf26.sz rfl rfl rfl rfl rfl (by simp [AV.len, hl]; omega)) trivial rfl ?_
  refine .nil ?_
  show Ev _ _ _ _ _
  refine .region ?_
  refine .q (op_addI rfl rfl ⟨by omega, by omega⟩) trivial rfl ?_
  refine .q (op_move rfl) trivial rfl ?_
  refine .nil ?_
  exact ⟨⟨j + 1, by omega⟩, by show 5 - (j + 1) < 5 - j; omega, StLe.mk [(1000, 1000), (1008, 1008), (1016, 1016)] rfl rfl ⟨⟨_, rfl, by first | rfl | (simp only [AV.ren]; congr 1; omega), rfl⟩, ⟨_, rfl, by first | rfl | (simp only [AV.ren]; congr 1; omega), rfl⟩, ⟨_, rfl, by first | rfl | (simp only [AV.ren]; congr 1; omega), rfl⟩, ⟨_, rfl, by first | rfl | (simp only [AV.ren]; congr 1; omega), rfl⟩, trivial⟩ ⟨⟨_, _, rfl, rfl, by first | rfl | (simp only [AV.ren]; congr 1; omega), rfl, id, rfl⟩, ⟨_, _, rfl, rfl, by first | rfl | (simp only [AV.ren]; congr 1; omega), rfl, id, rfl⟩, ⟨_, _, rfl, rfl, by first | rfl | (simp only [AV.ren]; congr 1; omega), rfl, id, rfl⟩, trivial⟩⟩
 ·simp only [decide_eq_false_iff_not] at hc7
  refine .exit ?_
  show Ev _ _ _ _ _
  have ej : j = 5 := by omega
  refine Ev.weak (st2 := ⟨[(1, .ptr 1000 0), (2, .ptr 1008 0), (3, .ptr 1016 0), (6, .i64 (((5) : Nat) : Int))], [(1000, some ⟨.aggB b, 113, true⟩), (1008, some ⟨.agg64 (List.replicate 5 0), 111, true⟩), (1016, some ⟨.agg64 (rnN b (5)), 111, true⟩)], 1024⟩) (StLe.mk [(1000, 1000), (1008, 1008), (1016, 1016)] rfl rfl ⟨⟨_, rfl, by first | (simp only [AV.ren]; done) | (simp only [AV.ren]; rw [ej]; done) | rfl, rfl⟩, ⟨_, rfl, by first | (simp only [AV.ren]; done) | (simp only [AV.ren]; rw [ej]; done) | rfl, rfl⟩, ⟨_, rfl, by first | (simp only [AV.ren]; done) | (simp only [AV.ren]; rw [ej]; done) | rfl, rfl⟩, ⟨_, rfl, by first | (simp only [AV.ren]; done) | (simp only [AV.ren]; rw [ej]; done) | rfl, rfl⟩, trivial⟩ ⟨⟨_, _, rfl, rfl, by first | (simp only [AV.ren]; done) | (simp only [AV.ren]; rw [ej]; done) | rfl, rfl, id, rfl⟩, ⟨_, _, rfl, rfl, by first | (simp only [AV.ren]; done) | (simp only [AV.ren]; rw [ej]; done) | rfl, rfl, id, rfl⟩, ⟨_, _, rfl, rfl, by first | (simp only [AV.ren]; done) | (simp only [AV.ren]; rw [ej]; done) | rfl, rfl, id, rfl⟩, trivial⟩) ?_
  refine .seq ?_
  refine .region ?_
  refine .q (op_loadRow Tryd.underlying111 rfl sz111 rfl rfl rfl (by simp [AV.len, length_rnN])) trivial rfl ?_
  refine .w (op_storeRow sz111 rfl rfl rfl rfl rfl (by simp [AV.len, length_rnN]) (by simp [AV.len])) trivial rfl ?_
  refine .nil ?_
  show Ev _ _ _ _ _
  refine .ret ?_
  show RetOk _ _ _ _ _ _ _
  exact retc1 rfl (.inl rfl) ⟨_, _, _, _, rfl, rfl, rfl, rfl, (by simp [AV.len, length_rnN]), Tryd.underlying111, rfl, sz111⟩ trivial
set_option maxRecDepth 100000 in
theorem putWord_ev (l : List UInt8) (o n e : Nat) (x : UInt64) (h : o + n ≤ l.length) (hn : n ≤ 8) : Meets Tryd.prog 42 [.sl 500 o n 1, .u64 x] [(500, some ⟨.aggB l, e, true⟩)] (.tup []) [(500, some ⟨.aggB (pwN l o x n), e, true⟩)] := by
 refine meets_of_ev (nt := 19) Tryd.func42 rfl rfl (Nat.le_of_ble_eq_true rfl) ?_
 refine .seq ?_
 refine .region ?_
 refine .q (op_move rfl) trivial rfl ?_
 refine .q (op_len_sl Tryd.underlying31 rfl) trivial rfl ?_
 refine .q (op_move rfl) trivial rfl ?_
 refine .nil ?_
 show Ev _ _ _ _ _
 refine .block ?_
 refine Ev.loop (ι := { j : Nat // j ≤ n }) (fun j => ⟨[(0, .sl 500 o n 1), (1, .u64 x), (6, .i64 (n : Int)), (7, .i64 ((j.1 : Nat) : Int))], [(500, some ⟨.aggB (pwN l o x j.1), e, true⟩)], 1000⟩) (fun j => n - j.1) ⟨0, Nat.zero_le _⟩ (StLe.mk [] rfl rfl ⟨⟨_, rfl, by first | rfl | (simp only [AV.ren]; congr 1; omega), rfl⟩, ⟨_, rfl, by first | rfl | (simp only [AV.ren]; congr 1; omega), rfl⟩, ⟨_, rfl, by first | rfl | (simp only [AV.ren]; congr 1; omega), rfl⟩, ⟨_, rfl, by first | rfl | (simp only [AV.ren]; congr 1; omega), rfl⟩, trivial⟩ ⟨⟨_, _, rfl, rfl, by first | rfl | (simp only [AV.ren]; congr 1; omega), rfl, id, rfl⟩, trivial⟩) ?_
 rintro ⟨j, hj⟩
 dsimp only
 have hl : (pwN l o x j).length = l.length := length_pwN l o x j
 refine .seq ?_
 refine .region ?_
 refine .q (op_cmpI rfl rfl rfl) trivial rfl ?_
 refine .nil ?_
 show Ev _ _ _ _ _
 refine .seq ?_
 refine .cond rfl (fun hc8 => ?_) (fun hc8 => ?_)
 ·simp only [decide_eq_true_eq] at hc8
  refine .skip ?_
  show Ev _ _ _ _ _
  refine .seq ?_
  refine .block ?_
  refine .seq ?_
  refine .region ?_
  refine .q (op_move rfl) trivial rfl ?_
  refine .q (op_assign rfl) trivial rfl ?_
  refine .nil ?_
  show Ev _ _ _ _ _
  refine .region ?_
  refine .q (op_move rfl) trivial rfl ?_
  refine .q (op_move rfl) trivial rfl ?_
  refine .q (op_move rfl) trivial rfl ?_
  refine .q (op_move rfl) trivial rfl ?_
  refine .q (op_mulI rfl rfl ⟨by omega, by omega⟩) trivial rfl ?_
  refine .q (op_shr64 (n := 8 * j) rfl rfl (by simp only [shiftBy]; rw [show (8 : Int) * (j : Int) = ((8 * j : Nat) : Int) by omega]) (by omega)) trivial rfl ?_
  refine .q (op_conv Tryd.underlying26 Tryd.underlying5 rfl rfl) trivial rfl ?_
  refine .q (ap_idx Tryd.underlying31 inf5.sz rfl rfl rfl (by first | omega | (simp only [AV.len]; omega) | (simp only [AV.len, List.length_set]; omega) | assumption | (simp [AV.len]; done))) trivial rfl ?_
  refine .w (op_store inf5.sz rfl rfl rfl rfl rfl (by simp only [AV.len]; omega)) trivial rfl ?_
  refine .nil ?_
  show Ev _ _ _ _ _
  refine .region ?_
  refine .q (op_addI rfl rfl ⟨by omega, by omega⟩) trivial rfl ?_
  refine .q (op_move rfl) trivial rfl ?_
  refine .nil ?_
  exact ⟨⟨j + 1, by omega⟩, by show n - (j + 1) < n - j; omega, StLe.mk [] rfl rfl ⟨⟨_, rfl, by first | rfl | (simp only [AV.ren]; congr 1; omega), rfl⟩, ⟨_, rfl, by first | rfl | (simp only [AV.ren]; congr 1; omega), rfl⟩, ⟨_, rfl, by first | rfl | (simp only [AV.ren]; congr 1; omega), rfl⟩, ⟨_, rfl, by first | rfl | (simp only [AV.ren]; congr 1; omega), rfl⟩, trivial⟩ ⟨⟨_, _, rfl, rfl, by first | rfl | (simp only [AV.ren]; congr 1; omega), rfl, id, rfl⟩, trivial⟩⟩
 ·simp only [decide_eq_false_iff_not] at hc8
  refine .exit ?_
  show RetOk _ _ _ _ _ _ _
  have ej : j = n := by omega
  exact ret0 rfl (.inr rfl) ⟨by rw [ej]; rfl, trivial⟩
end Go.Proofs.YtidjfinookikcaaDoor
namespace Go.Proofs.YtidjfinookikcaaDoor
open Go.RowKit
theorem take_min (s : List UInt8) (j : Nat) : AV.str ((s.drop (16 * j)).take (min (16 * j + 16) s.length - 16 * j)) = .str ((s.drop (16 * j)).take 16) := by
  congr 1
  rcases Nat.lt_or_ge s.length (16 * j + 16) with h | h
  · rw [Nat.min_eq_right (by omega), List.take_of_length_le (by simp), List.take_of_length_le (by simp; omega)]
  · rw [Nat.min_eq_left h]; congr 1; omega
set_option maxRecDepth 100000 in
theorem multiplier_ev (key : List UInt8) (hk : key.length = 32) : Meets Tryd.prog 56 [.aggB key] [] (.aggB (multL key)) [] := by
 refine meets_of_ev (nt := 32) Tryd.func56 rfl rfl (Nat.le_of_ble_eq_true rfl) ?_
 refine .seq ?_
 refine .region ?_
 refine .a (op_boxRow rfl rfl) trivial rfl ?_
 refine .a (op_allocRow zero113 rel_zero113 rfl) trivial rfl ?_
 refine .nil ?_
 show Ev _ _ _ _ _
 refine .seq ?_
 refine .region ?_
 refine .a (op_allocRow zero113 rel_zero113 rfl) trivial rfl ?_
 refine .nil ?_
 show Ev _ _ _ _ _
 refine .seq ?_
 refine .drawn [[], [], [0, 1]] [0, 1, 2] [2] (by kernel_rfl) (by kernel_rfl) rfl ?_
 show DK _ [0, 1, 2] _ _ _
 refine .q rfl (ap_slice_arr_hi Tryd.underlying113 inf5.sz rfl rfl (by first | omega | (simp [AV.len]; done)) (by decide) (bnd_some rfl rfl) (by first | omega | (simp; done))) trivial ?_
 refine .q rfl (ap_slice_arr_hi Tryd.underlying25 inf5.sz rfl rfl (by first | omega | (simp only [AV.len]; omega)) (by decide) (bnd_some rfl rfl) (by first | omega | (simp only [AV.len]; omega))) trivial ?_
 refine .a rfl (op_copy (q := 16) (c' := .aggB (key.take 16 ++ [0])) Tryd.underlying31 inf5.sz rfl rfl rfl (srcs_sl rfl rfl (by first | omega | (simp only [AV.len]; omega) | (simp [AV.len]; done))) (by first | omega | (simp only [AV.len]; omega) | (simp [AV.len]; done)) (by first | rfl | omega) (by simp [AV.list, AV.parts, List.map_take, List.take_take])) trivial rfl rfl ?_
 refine .nil ?_
 show Ev _ _ _ _ _
 refine .seq ?_
 refine .seq ?_
 refine .region ?_
 refine .q (op_move rfl) trivial rfl ?_
 refine .nil ?_
 show Ev _ _ _ _ _
 refine .block ?_
 refine Ev.loop (ι := { j : Nat // j ≤ 4 }) (fun j => ⟨[(1, .ptr 1000 0), (2, .ptr 1008 0), (3, .ptr 1016 0), (9, .i64 ((j.1 : Nat) : Int))], [(1000, some ⟨.aggB key, 25, true⟩), (1008, some ⟨.aggB (List.replicate 17 0), 113, true⟩), (1016, some ⟨.aggB (mA (key.take 16 ++ [0]) j.1), 113, true⟩)], 1040⟩) (fun j => 4 - j.1) ⟨0, Nat.zero_le _⟩ (StLe.mk [(1000, 1000), (1008, 1008), (1016, 1016)] rfl rfl ⟨⟨_, rfl, by first | rfl | (simp only [AV.ren]; congr 1; omega), rfl⟩, ⟨_, rfl, by first | rfl | (simp only [AV.ren]; congr 1; omega), rfl⟩, ⟨_, rfl, by first | rfl | (simp only [AV.ren]; congr 1; omega), rfl⟩, ⟨_, rfl, by first | rfl | (simp only [AV.ren]; congr 1; omega), rfl⟩, trivial⟩ ⟨⟨_, _, rfl, rfl, by first | rfl | (simp only [AV.ren]; congr 1; omega), rfl, id, rfl⟩, ⟨_, _, rfl, rfl, by first | rfl | (simp only [AV.ren]; congr 1; omega), rfl, id, rfl⟩, ⟨_, _, rfl, rfl, by first | rfl | (simp only [AV.ren]; congr 1; omega), rfl, id, rfl⟩, trivial⟩) ?_
 rintro ⟨j, hj⟩
 dsimp only
 have hl : (mA (key.take 16 ++ [0]) j).length = 17 := by rw [length_mA]; simp [hk]
 refine .seq ?_
 refine .region ?_
 refine .q (op_cmpI rfl rfl rfl) trivial rfl ?_
 refine .nil ?_
 show Ev _ _ _ _ _
 refine .seq ?_
 refine .cond rfl (fun hc10 => ?_) (fun hc10 => ?_)
 ·simp only [decide_eq_true_eq] at hc10
  refine .skip ?_
  show Ev _ _ _ _ _
  refine .seq ?_
  refine .block ?_
  refine .seq ?_
  refine .region ?_
  refine .q (op_move rfl) trivial rfl ?_
  refine .q (op_assign rfl) trivial rfl ?_
  refine .nil ?_
  show Ev _ _ _ _ _
  refine .region ?_
  refine .q (op_move rfl) trivial rfl ?_
  refine .q (op_mulI rfl rfl ⟨by omega, by omega⟩) trivial rfl ?_
  refine .q (op_addI rfl rfl ⟨by omega, by omega⟩) trivial rfl ?_
  refine .q (ap_idx_arr Tryd.underlying113 inf5.sz rfl rfl (i := 4 * j + 3) (by omega) (by first | omega | (simp only [AV.len]; omega) | (simp only [AV.len, List.length_set]; omega) | assumption | (simp [AV.len]; done))) trivial rfl ?_
  refine .q (op_load Tryd.underlying5 rfl rfl rfl rfl (by simp only [AV.len]; omega)) trivial rfl ?_
  refine .q (op_bin8 rfl rfl rfl) trivial rfl ?_
  refine .q (ap_idx_arr Tryd.underlying113 inf5.sz rfl rfl (i := 4 * j + 3) (by omega) (by first | omega | (simp only [AV.len]; omega) | (simp only [AV.len, List.length_set]; omega) | assumption | (simp [AV.len]; done))) trivial rfl ?_
  refine .w (op_store inf5.sz rfl rfl rfl rfl rfl (by simp only [AV.len]; omega)) trivial rfl ?_
  refine .nil ?_
  show Ev _ _ _ _ _
  refine .region ?_
  refine .q (op_addI rfl rfl ⟨by omega, by omega⟩) trivial rfl ?_
  refine .q (op_move rfl) trivial rfl ?_
  refine .nil ?_
  exact ⟨⟨j + 1, by omega⟩, by show 4 - (j + 1) < 4 - j; omega, StLe.mk [(1000, 1000), (1008, 1008), (1016, 1016)] rfl rfl ⟨⟨_, rfl, by first | rfl | (simp only [AV.ren]; congr 1; omega), rfl⟩, ⟨_, rfl, by first | rfl | (simp only [AV.ren]; congr 1; omega), rfl⟩, ⟨_, rfl, by first | rfl | (simp only [AV.ren]; congr 1; omega), rfl⟩, ⟨_, rfl, by first | rfl | (simp only [AV.ren]; congr 1; omega), rfl⟩, trivial⟩ ⟨⟨_, _, rfl, rfl, by first | rfl | (simp only [AV.ren]; congr 1; omega), rfl, id, rfl⟩, ⟨_, _, rfl, rfl, by first | rfl | (simp only [AV.ren]; congr 1; omega), rfl, id, rfl⟩, ⟨_, _, rfl, rfl, by first | rfl | (simp only [AV.ren]; congr 1; omega), rfl, id, rfl⟩, trivial⟩⟩
 ·simp only [decide_eq_false_iff_not] at hc10
  refine .exit ?_
  show Ev _ _ _ _ _
  have ej : j = 4 := by omega
  refine Ev.weak (st2 := ⟨[(1, .ptr 1000 0), (2, .ptr 1008 0), (3, .ptr 1016 0), (9, .i64 (((4) : Nat) : Int))], [(1000, some ⟨.aggB key, 25, true⟩), (1008, some ⟨.aggB (List.replicate 17 0), 113, true⟩), (1016, some ⟨.aggB (mA (key.take 16 ++ [0]) (4)), 113, true⟩)], 1040⟩) (StLe.mk [(1000, 1000), (1008, 1008), (1016, 1016)] rfl rfl ⟨⟨_, rfl, by first | (simp only [AV.ren]; done) | (simp only [AV.ren]; rw [ej]; done) | rfl, rfl⟩, ⟨_, rfl, by first | (simp only [AV.ren]; done) | (simp only [AV.ren]; rw [ej]; done) | rfl, rfl⟩, ⟨_, rfl, by first | (simp only [AV.ren]; done) | (simp only [AV.ren]; rw [ej]; done) | rfl, rfl⟩, ⟨_, rfl, by first | (simp only [AV.ren]; done) | (simp only [AV.ren]; rw [ej]; done) | rfl, rfl⟩, trivial⟩ ⟨⟨_, _, rfl, rfl, by first | (simp only [AV.ren]; done) | (simp only [AV.ren]; rw [ej]; done) | rfl, rfl, id, rfl⟩, ⟨_, _, rfl, rfl, by first | (simp only [AV.ren]; done) | (simp only [AV.ren]; rw [ej]; done) | rfl, rfl, id, rfl⟩, ⟨_, _, rfl, rfl, by first | (simp only [AV.ren]; done) | (simp only [AV.ren]; rw [ej]; done) | rfl, rfl, id, rfl⟩, trivial⟩) ?_
  refine .seq ?_
  refine .seq ?_
  refine .region ?_
  refine .q (op_move rfl) trivial rfl ?_
  refine .nil ?_
  show Ev _ _ _ _ _
  refine .block ?_
  refine Ev.loop (ι := { j : Nat // j ≤ 3 }) (fun j => ⟨[(1, .ptr 1000 0), (2, .ptr 1008 0), (3, .ptr 1016 0), (20, .i64 ((j.1 : Nat) : Int))], [(1000, some ⟨.aggB key, 25, true⟩), (1008, some ⟨.aggB (List.replicate 17 0), 113, true⟩), (1016, some ⟨.aggB (mB (mA (key.take 16 ++ [0]) 4) j.1), 113, true⟩)], 1040⟩) (fun j => 3 - j.1) ⟨0, Nat.zero_le _⟩ (StLe.mk [(1000, 1000), (1008, 1008), (1016, 1016)] rfl rfl ⟨⟨_, rfl, by first | rfl | (simp only [AV.ren]; congr 1; omega), rfl⟩, ⟨_, rfl, by first | rfl | (simp only [AV.ren]; congr 1; omega), rfl⟩, ⟨_, rfl, by first | rfl | (simp only [AV.ren]; congr 1; omega), rfl⟩, ⟨_, rfl, by first | rfl | (simp only [AV.ren]; congr 1; omega), rfl⟩, trivial⟩ ⟨⟨_, _, rfl, rfl, by first | rfl | (simp only [AV.ren]; congr 1; omega), rfl, id, rfl⟩, ⟨_, _, rfl, rfl, by first | rfl | (simp only [AV.ren]; congr 1; omega), rfl, id, rfl⟩, ⟨_, _, rfl, rfl, by first | rfl | (simp only [AV.ren]; congr 1; omega), rfl, id, rfl⟩, trivial⟩) ?_
  rintro ⟨j, hj⟩
  dsimp only
  have hl : (mB (mA (key.take 16 ++ [0]) 4) j).length = 17 := by rw [length_mB, length_mA]; simp [hk]
  refine .seq ?_
  refine .region ?_
  refine .q (op_cmpI rfl rfl rfl) trivial rfl ?_
  refine .nil ?_
  show Ev _ _ _ _ _
  refine .seq ?_
  refine .cond rfl (fun hc21 => ?_) (fun hc21 => ?_)
  ·simp only [decide_eq_true_eq] at hc21
   refine .skip ?_
   show Ev _ _ _ _ _
   refine .seq ?_
   refine .block ?_
   refine .seq ?_
   refine .region ?_
   refine .q (op_move rfl) trivial rfl ?_
   refine .q (op_assign rfl) trivial rfl ?_
   refine .nil ?_
   show Ev _ _ _ _ _
   refine .region ?_
   refine .q (op_move rfl) trivial rfl ?_
   refine .q (op_mulI rfl rfl ⟨by omega, by omega⟩) trivial rfl ?_
   refine .q (op_addI rfl rfl ⟨by omega, by omega⟩) trivial rfl ?_
   refine .q (ap_idx_arr Tryd.underlying113 inf5.sz rfl rfl (i := 4 * j + 4) (by omega) (by first | omega | (simp only [AV.len]; omega) | (simp only [AV.len, List.length_set]; omega) | assumption | (simp [AV.len]; done))) trivial rfl ?_
   refine .q (op_load Tryd.underlying5 rfl rfl rfl rfl (by simp only [AV.len]; omega)) trivial rfl ?_
   refine .q (op_bin8 rfl rfl rfl) trivial rfl ?_
   refine .q (ap_idx_arr Tryd.underlying113 inf5.sz rfl rfl (i := 4 * j + 4) (by omega) (by first | omega | (simp only [AV.len]; omega) | (simp only [AV.len, List.length_set]; omega) | assumption | (simp [AV.len]; done))) trivial rfl ?_
   refine .w (op_store inf5.sz rfl rfl rfl rfl rfl (by simp only [AV.len]; omega)) trivial rfl ?_
   refine .nil ?_
   show Ev _ _ _ _ _
   refine .region ?_
   refine .q (op_addI rfl rfl ⟨by omega, by omega⟩) trivial rfl ?_
   refine .q (op_move rfl) trivial rfl ?_
   refine .nil ?_
   exact ⟨⟨j + 1, by omega⟩, by show 3 - (j + 1) < 3 - j; omega, StLe.mk [(1000, 1000), (1008, 1008), (1016, 1016)] rfl rfl ⟨⟨_, rfl, by first | rfl | (simp only [AV.ren]; congr 1; omega), rfl⟩, ⟨_, rfl, by first | rfl | (simp only [AV.ren]; congr 1; omega), rfl⟩, ⟨_, rfl, by first | rfl | (simp only [AV.ren]; congr 1; omega), rfl⟩, ⟨_, rfl, by first | rfl | (simp only [AV.ren]; congr 1; omega), rfl⟩, trivial⟩ ⟨⟨_, _, rfl, rfl, by first | rfl | (simp only [AV.ren]; congr 1; omega), rfl, id, rfl⟩, ⟨_, _, rfl, rfl, by first | rfl | (simp only [AV.ren]; congr 1; omega), rfl, id, rfl⟩, ⟨_, _, rfl, rfl, by first | rfl | (simp only [AV.ren]; congr 1; omega), rfl, id, rfl⟩, trivial⟩⟩
  ·simp only [decide_eq_false_iff_not] at hc21
   refine .exit ?_
   show Ev _ _ _ _ _
   have ej : j = 3 := by omega
   refine Ev.weak (st2 := ⟨[(1, .ptr 1000 0), (2, .ptr 1008 0), (3, .ptr 1016 0), (20, .i64 (((3) : Nat) : Int))], [(1000, some ⟨.aggB key, 25, true⟩), (1008, some ⟨.aggB (List.replicate 17 0), 113, true⟩), (1016, some ⟨.aggB (mB (mA (key.take 16 ++ [0]) 4) (3)), 113, true⟩)], 1040⟩) (StLe.mk [(1000, 1000), (1008, 1008), (1016, 1016)] rfl rfl ⟨⟨_, rfl, by first | (simp only [AV.ren]; done) | (simp only [AV.ren]; rw [ej]; done) | rfl, rfl⟩, ⟨_, rfl, by first | (simp only [AV.ren]; done) | (simp only [AV.ren]; rw [ej]; done) | rfl, rfl⟩, ⟨_, rfl, by first | (simp only [AV.ren]; done) | (simp only [AV.ren]; rw [ej]; done) | rfl, rfl⟩, ⟨_, rfl, by first | (simp only [AV.ren]; done) | (simp only [AV.ren]; rw [ej]; done) | rfl, rfl⟩, trivial⟩ ⟨⟨_, _, rfl, rfl, by first | (simp only [AV.ren]; done) | (simp only [AV.ren]; rw [ej]; done) | rfl, rfl, id, rfl⟩, ⟨_, _, rfl, rfl, by first | (simp only [AV.ren]; done) | (simp only [AV.ren]; rw [ej]; done) | rfl, rfl, id, rfl⟩, ⟨_, _, rfl, rfl, by first | (simp only [AV.ren]; done) | (simp only [AV.ren]; rw [ej]; done) | rfl, rfl, id, rfl⟩, trivial⟩) ?_
   refine .seq ?_
   refine .region ?_
   refine .q (op_loadRow Tryd.underlying113 rfl sz113 rfl rfl rfl (by simp [AV.len, length_mA, length_mB, hk])) trivial rfl ?_
   refine .w (op_storeRow sz113 rfl rfl rfl rfl rfl (by simp [AV.len, length_mA, length_mB, hk]) (by simp [AV.len])) trivial rfl ?_
   refine .nil ?_
   show Ev _ _ _ _ _
   refine .ret ?_
   show RetOk _ _ _ _ _ _ _
   exact retc1 rfl (.inl rfl) ⟨_, _, _, _, rfl, rfl, rfl, rfl, (length_multL key hk), Tryd.underlying113, rfl, sz113⟩ trivial
set_option maxRecDepth 100000 in
theorem chunk_ev (s : List UInt8) (hs : s.length ≤ 16) : Meets Tryd.prog 59 [.str s] [] (.aggB (chunkL s)) [] := by
 refine meets_of_ev (nt := 9) Tryd.func59 rfl rfl (Nat.le_of_ble_eq_true rfl) ?_
 refine .seq ?_
 refine .region ?_
 refine .a (op_allocRow zero113 rel_zero113 rfl) trivial rfl ?_
 refine .nil ?_
 show Ev _ _ _ _ _
 refine .seq ?_
 refine .region ?_
 refine .a (op_allocRow zero113 rel_zero113 rfl) trivial rfl ?_
 refine .nil ?_
 show Ev _ _ _ _ _
 refine .seq ?_
 refine .region ?_
 refine .q (ap_slice_arr_hi Tryd.underlying113 inf5.sz rfl rfl (by first | omega | (simp [AV.len]; done)) (by decide) rfl (by first | omega | (simp [AV.len]; done))) trivial rfl ?_
 refine .q (op_move rfl) trivial rfl ?_
 refine .a (op_copy (q := s.length) (c' := .aggB (s ++ List.replicate (17 - s.length) 0)) Tryd.underlying31 inf5.sz rfl rfl rfl (srcs_str rfl) (by first | omega | (simp [AV.len]; done)) (by omega) (by simp only [AV.list, AV.parts, Option.getD_some, List.map_append, List.map_replicate, List.take_zero, List.nil_append, List.drop_replicate, Nat.zero_add]; rw [List.take_of_length_le (by simp)])) trivial rfl ?_
 refine .q (ap_idx_arr Tryd.underlying113 inf5.sz rfl rfl rfl (by first | omega | (simp only [AV.len]; omega) | (simp only [AV.len, List.length_set]; omega) | assumption | (simp [AV.len]; done))) trivial rfl ?_
 refine .w (op_store inf5.sz rfl rfl rfl rfl rfl (by first | omega | (simp only [AV.len, List.length_append, List.length_replicate]; omega) | rfl | (simp; done))) trivial rfl ?_
 refine .nil ?_
 show Ev _ _ _ _ _
 refine .seq ?_
 refine .region ?_
 refine .q (op_loadRow Tryd.underlying113 rfl sz113 rfl rfl rfl (by first | omega | (simp only [AV.len, List.length_set, List.length_append, List.length_replicate]; omega) | rfl | (simp; done))) trivial rfl ?_
 refine .w (op_storeRow sz113 rfl rfl rfl rfl rfl (by first | omega | (simp only [AV.len, List.length_set, List.length_append, List.length_replicate]; omega) | rfl | (simp; done)) (by first | omega | (simp only [AV.len, List.length_replicate]; omega) | rfl | (simp; done))) trivial rfl ?_
 refine .nil ?_
 show Ev _ _ _ _ _
 refine .ret ?_
 show RetOk _ _ _ _ _ _ _
 exact retc1 rfl (.inl rfl) ⟨_, _, _, _, rfl, rfl, rfl, rfl, (length_chunkL s hs), Tryd.underlying113, rfl, sz113⟩ trivial
set_option maxRecDepth 100000 in
theorem padding_ev (s : List UInt8) (hs : s.length ≤ 1000000000) : Meets Tryd.prog 44 [.str s] [] (.str (padL s)) [] := by
 refine meets_of_ev (nt := 11) Tryd.func44 rfl rfl (Nat.le_of_ble_eq_true rfl) ?_
 refine .seq ?_
 refine .region ?_
 refine .q (op_assign rfl) trivial rfl ?_
 refine .nil ?_
 show Ev _ _ _ _ _
 refine .seq ?_
 refine .region ?_
 refine .a (op_allocRow zero71 rel_zero71 rfl) trivial rfl ?_
 refine .nil ?_
 show Ev _ _ _ _ _
 refine .seq ?_
 refine .region ?_
 refine .q (op_move rfl) trivial rfl ?_
 refine .q (op_len_str Tryd.underlying9 rfl) trivial rfl ?_
 refine .q (op_remI rfl rfl ⟨by omega, by omega⟩) trivial rfl ?_
 refine .q (op_subI rfl rfl ⟨by omega, by omega⟩) trivial rfl ?_
 refine .q (op_remI rfl rfl ⟨by omega, by omega⟩) trivial rfl ?_
 refine .q (ap_slice_arr_hi Tryd.underlying71 inf5.sz rfl rfl (by first | omega | (simp [AV.len]; done)) (by decide) (bnd_some rfl (l := (16 - s.length % 16) % 16) (by omega)) (by first | omega | (simp [AV.len]; done))) trivial rfl ?_
 refine .q (op_bytes_str Tryd.underlying31 Tryd.underlying5 Tryd.underlying9 rfl rfl rfl (by simp; omega)) trivial rfl ?_
 refine .q (op_assign rfl) trivial rfl ?_
 refine .nil ?_
 show Ev _ _ _ _ _
 refine .ret ?_
 show RetOk _ _ _ _ _ _ _
 exact ret1v rfl (.inl rfl) rfl (by unfold padL; congr 1; rw [List.drop_zero, List.take_replicate]; congr 1; omega) trivial
set_option maxRecDepth 100000 in
theorem sum_ev (key s : List UInt8) (hk : key.length = 32) (hs : s.length ≤ 1000000000) : Meets Tryd.prog 43 [.aggB key, .str s] [] (.aggB (sumL key s)) [] := by
 refine meets_of_ev (nt := 63) Tryd.func43 rfl rfl (Nat.le_of_ble_eq_true rfl) ?_
 refine .seq ?_
 refine .region ?_
 refine .a (op_boxRow rfl rfl) trivial rfl ?_
 refine .a (op_allocRow zero71 rel_zero71 rfl) trivial rfl ?_
 refine .nil ?_
 show Ev _ _ _ _ _
 refine .seq ?_
 refine .region ?_
 refine .q (op_loadRow Tryd.underlying25 rfl sz25 rfl rfl rfl (hk)) trivial rfl ?_
 refine .q (op_call (U := []) [] [] (multiplier_ev key hk) Tryd.func56 (by kernel_rfl) rfl rfl rfl (⟨⟨_, rfl, rfl, rfl⟩, trivial⟩) (trivial) (trivial) (trivial) rfl) trivial rfl ?_
 refine .as (.aggB (multL key)) rfl ?_
 refine .q (op_call (U := []) [] [] (readNumber_ev _ (by first | exact length_multL key hk | exact length_chunkL _ (by simp; omega))) Tryd.func55 (by kernel_rfl) rfl rfl rfl (⟨⟨_, rfl, rfl, rfl⟩, trivial⟩) (trivial) (trivial) (trivial) rfl) trivial rfl ?_
 refine .as (.agg64 (rnN (multL key) 5)) rfl ?_
 refine .a (op_allocRow zero111 rel_zero111 rfl) trivial rfl ?_
 refine .w (op_storeRow sz111 rfl rfl rfl rfl rfl (by simp [AV.len, length_rnN]) (by simp [AV.len])) trivial rfl ?_
 refine .nil ?_
 show Ev _ _ _ _ _
 refine .seq ?_
 refine .region ?_
 refine .a (op_allocRow zero111 rel_zero111 rfl) trivial rfl ?_
 refine .nil ?_
 show Ev _ _ _ _ _
 refine .seq ?_
 refine .seq ?_
 refine .region ?_
 refine .q (op_assign rfl) trivial rfl ?_
 refine .nil ?_
 show Ev _ _ _ _ _
 refine .block ?_
 refine Ev.loop (ι := { j : Nat // 16 * j < s.length + 16 }) (fun j => ⟨[(1, .str s), (2, .ptr 1000 0), (4, .ptr 1008 0), (5, .ptr 1016 0), (6, .ptr 1024 0), (7, .i64 (16 * ((j.1 : Nat) : Int)))], [(1000, some ⟨.aggB key, 25, true⟩), (1008, some ⟨.aggB (List.replicate 16 0), 71, true⟩), (1016, some ⟨.agg64 (rnN (multL key) 5), 111, true⟩), (1024, some ⟨.agg64 (accN (rnN (multL key) 5) s j.1), 111, true⟩)], 1032⟩) (fun j => s.length + 16 - 16 * j.1) ⟨0, by omega⟩ (StLe.mk [(1000, 1000), (1008, 1008), (1016, 1016), (1024, 1024)] rfl rfl ⟨⟨_, rfl, by first | rfl | (simp only [AV.ren]; congr 1; omega), rfl⟩, ⟨_, rfl, by first | rfl | (simp only [AV.ren]; congr 1; omega), rfl⟩, ⟨_, rfl, by first | rfl | (simp only [AV.ren]; congr 1; omega), rfl⟩, ⟨_, rfl, by first | rfl | (simp only [AV.ren]; congr 1; omega), rfl⟩, ⟨_, rfl, by first | rfl | (simp only [AV.ren]; congr 1; omega), rfl⟩, ⟨_, rfl, by first | rfl | (simp only [AV.ren]; congr 1; omega), rfl⟩, trivial⟩ ⟨⟨_, _, rfl, rfl, rfl, rfl, id, rfl⟩, ⟨_, _, rfl, rfl, rfl, rfl, id, rfl⟩, ⟨_, _, rfl, rfl, rfl, rfl, id, rfl⟩, ⟨_, _, rfl, rfl, rfl, rfl, id, rfl⟩, trivial⟩) ?_
 rintro ⟨j, hj⟩
 dsimp only
 refine .seq ?_
 refine .seq ?_
 refine .region ?_
 refine .q (op_move rfl) trivial rfl ?_
 refine .q (op_move rfl) trivial rfl ?_
 refine .q (op_len_str Tryd.underlying9 rfl) trivial rfl ?_
 refine .q (op_cmpI rfl rfl rfl) trivial rfl ?_
 refine .nil ?_
 show Ev _ _ _ _ _
 refine .cond rfl (fun hc18 => ?_) (fun hc18 => ?_)
 ·simp only [decide_eq_true_eq] at hc18
  refine .skip ?_
  show Ev _ _ _ _ _
  refine .seq ?_
  refine .block ?_
  refine .drawn [[], [], [], [], [3], [], [5], [3, 4, 5, 6], [1, 2, 3, 4, 5, 6, 7], [1, 2, 3, 4, 5, 6, 7, 8], [1, 2, 3, 4, 5, 6, 7, 8, 9], [0, 1, 2, 3, 4, 5, 6, 7, 8, 9, 10], [], [0, 1, 2, 3, 4, 5, 6, 7, 8, 9, 10, 11, 12], [0, 1, 2, 3, 4, 5, 6, 7, 8, 9, 10, 11, 12, 13]] [0, 9, 10, 11, 12, 13, 14] [14] (by kernel_rfl) (by kernel_rfl) rfl ?_
  show DK _ [0, 1, 2, 3, 4, 5, 6, 7, 8, 9, 10, 11, 12, 13, 14] _ _ _
  refine .q rfl (op_loadRow Tryd.underlying111 rfl sz111 rfl rfl rfl (by simp [AV.len, length_accN])) trivial ?_
  refine .q rfl (op_move rfl) trivial ?_
  refine .q rfl (op_move rfl) trivial ?_
  refine .q rfl (op_move rfl) trivial ?_
  refine .q rfl (op_addI rfl rfl ⟨by omega, by omega⟩) trivial ?_
  refine .q rfl (op_move rfl) trivial ?_
  refine .q rfl (op_len_str Tryd.underlying9 rfl) trivial ?_
  refine .q rfl (op_minI rfl rfl) trivial ?_
  refine .q rfl (op_slice_str Tryd.underlying9 rfl (bnd_some rfl (l := 16 * j) (by omega)) (bnd_some rfl (l := min (16 * j + 16) s.length) (by omega)) (by omega) (by omega)) trivial ?_
  refine .as (.str ((s.drop (16 * j)).take 16)) (take_min s j) ?_
  refine .q rfl (op_call (U := []) [] [] (chunk_ev _ (by simp; omega)) Tryd.func59 (by kernel_rfl) rfl rfl rfl (⟨⟨_, rfl, rfl, rfl⟩, trivial⟩) (trivial) (trivial) (trivial) rfl) trivial ?_
  refine .as (.aggB (chunkL ((s.drop (16 * j)).take 16))) rfl ?_
  refine .q rfl (op_call (U := []) [] [] (readNumber_ev _ (by first | exact length_multL key hk | exact length_chunkL _ (by simp; omega))) Tryd.func55 (by kernel_rfl) rfl rfl rfl (⟨⟨_, rfl, rfl, rfl⟩, trivial⟩) (trivial) (trivial) (trivial) rfl) trivial ?_
  refine .as (.agg64 (rnN (chunkL ((s.drop (16 * j)).take 16)) 5)) rfl ?_
  refine .q rfl (op_call (U := []) [] [] (plus_ev _ _ (length_accN _ _ _) (length_rnN _ _)) Tryd.func58 (by kernel_rfl) rfl rfl rfl (⟨⟨_, rfl, rfl, rfl⟩, ⟨_, rfl, rfl, rfl⟩, trivial⟩) (trivial) (trivial) (trivial) rfl) trivial ?_
  refine .as (.agg64 (plN (accN (rnN (multL key) 5) s j) (rnN (chunkL ((s.drop (16 * j)).take 16)) 5) 5)) rfl ?_
  refine .q rfl (op_loadRow Tryd.underlying111 rfl sz111 rfl rfl rfl (by simp [AV.len, length_rnN])) trivial ?_
  refine .q rfl (op_call (U := []) [] [] (times_ev _ _ (by rw [length_plN, length_accN]) (length_rnN _ _)) Tryd.func57 (by kernel_rfl) rfl rfl rfl (⟨⟨_, rfl, rfl, rfl⟩, ⟨_, rfl, rfl, rfl⟩, trivial⟩) (trivial) (trivial) (trivial) rfl) trivial ?_
  refine .as (.agg64 (accN (rnN (multL key) 5) s (j + 1))) rfl ?_
  refine .w rfl (op_storeRow sz111 rfl rfl rfl rfl rfl (by simp [AV.len, length_accN]) (by simp [AV.len, length_accN])) trivial rfl rfl ?_
  refine .nil ?_
  show Ev _ _ _ _ _
  refine .region ?_
  refine .q (op_move rfl) trivial rfl ?_
  refine .q (op_addI rfl rfl ⟨by omega, by omega⟩) trivial rfl ?_
  refine .q (op_assign rfl) trivial rfl ?_
  refine .nil ?_
  exact ⟨⟨j + 1, by omega⟩, by show s.length + 16 - 16 * (j + 1) < s.length + 16 - 16 * j; omega, StLe.mk [(1000, 1000), (1008, 1008), (1016, 1016), (1024, 1024)] rfl rfl ⟨⟨_, rfl, by first | rfl | (simp only [AV.ren]; congr 1; omega), rfl⟩, ⟨_, rfl, by first | rfl | (simp only [AV.ren]; congr 1; omega), rfl⟩, ⟨_, rfl, by first | rfl | (simp only [AV.ren]; congr 1; omega), rfl⟩, ⟨_, rfl, by first | rfl | (simp only [AV.ren]; congr 1; omega), rfl⟩, ⟨_, rfl, by first | rfl | (simp only [AV.ren]; congr 1; omega), rfl⟩, ⟨_, rfl, by first | rfl | (simp only [AV.ren]; congr 1; omega), rfl⟩, trivial⟩ ⟨⟨_, _, rfl, rfl, rfl, rfl, id, rfl⟩, ⟨_, _, rfl, rfl, rfl, rfl, id, rfl⟩, ⟨_, _, rfl, rfl, rfl, rfl, id, rfl⟩, ⟨_, _, rfl, rfl, rfl, rfl, id, rfl⟩, trivial⟩⟩
 ·simp only [decide_eq_false_iff_not] at hc18
  refine .exit ?_
  show Ev _ _ _ _ _
  have ej : j = ((s.length + 15) / 16) := by omega
  refine Ev.weak (st2 := ⟨[(1, .str s), (2, .ptr 1000 0), (4, .ptr 1008 0), (5, .ptr 1016 0), (6, .ptr 1024 0), (7, .i64 (16 * ((((s.length + 15) / 16) : Nat) : Int)))], [(1000, some ⟨.aggB key, 25, true⟩), (1008, some ⟨.aggB (List.replicate 16 0), 71, true⟩), (1016, some ⟨.agg64 (rnN (multL key) 5), 111, true⟩), (1024, some ⟨.agg64 (accN (rnN (multL key) 5) s ((s.length + 15) / 16)), 111, true⟩)], 1032⟩) (StLe.mk [(1000, 1000), (1008, 1008), (1016, 1016), (1024, 1024)] rfl rfl ⟨⟨_, rfl, by first | (simp only [AV.ren]; done) | (simp only [AV.ren]; rw [← ej]; done) | rfl, rfl⟩, ⟨_, rfl, by first | (simp only [AV.ren]; done) | (simp only [AV.ren]; rw [← ej]; done) | rfl, rfl⟩, ⟨_, rfl, by first | (simp only [AV.ren]; done) | (simp only [AV.ren]; rw [← ej]; done) | rfl, rfl⟩, ⟨_, rfl, by first | (simp only [AV.ren]; done) | (simp only [AV.ren]; rw [← ej]; done) | rfl, rfl⟩, ⟨_, rfl, by first | (simp only [AV.ren]; done) | (simp only [AV.ren]; rw [← ej]; done) | rfl, rfl⟩, ⟨_, rfl, by first | (simp only [AV.ren]; done) | (simp only [AV.ren]; rw [← ej]; done) | rfl, rfl⟩, trivial⟩ ⟨⟨_, _, rfl, rfl, by first | (simp only [AV.ren]; done) | (simp only [AV.ren]; rw [← ej]; done) | rfl, rfl, id, rfl⟩, ⟨_, _, rfl, rfl, by first | (simp only [AV.ren]; done) | (simp only [AV.ren]; rw [← ej]; done) | rfl, rfl, id, rfl⟩, ⟨_, _, rfl, rfl, by first | (simp only [AV.ren]; done) | (simp only [AV.ren]; rw [← ej]; done) | rfl, rfl, id, rfl⟩, ⟨_, _, rfl, rfl, by first | (simp only [AV.ren]; done) | (simp only [AV.ren]; rw [← ej]; done) | rfl, rfl, id, rfl⟩, trivial⟩) ?_
  refine .seq ?_
  refine .region ?_
  refine .q (op_loadRow Tryd.underlying111 rfl sz111 rfl rfl rfl (by simp [AV.len, length_accN])) trivial rfl ?_
  refine .q (op_call (U := []) [] [] (reduced_ev _ (length_accN _ _ _)) Tryd.func61 (by kernel_rfl) rfl rfl rfl (⟨⟨_, rfl, rfl, rfl⟩, trivial⟩) (trivial) (trivial) (trivial) rfl) trivial rfl ?_
  refine .as (.agg64 (accL key s)) rfl ?_
  refine .q (op_call (U := []) [] [] (lowWords_ev _ (by simp [accL, length_red26, length_accN])) Tryd.func60 (by kernel_rfl) rfl rfl rfl (⟨⟨_, rfl, rfl, rfl⟩, trivial⟩) (trivial) (trivial) (trivial) rfl) trivial rfl ?_
  refine .q (op_move rfl) trivial rfl ?_
  refine .q (op_extract rfl rfl) trivial rfl ?_
  refine .as (.u64 (lowW (accL key s))) rfl ?_
  refine .q (op_extract rfl rfl) trivial rfl ?_
  refine .as (.u64 (highW (accL key s))) rfl ?_
  refine .q (op_assign rfl) trivial rfl ?_
  refine .q (op_assign rfl) trivial rfl ?_
  refine .nil ?_
  show Ev _ _ _ _ _
  refine .seq ?_
  refine .region ?_
  refine .q (op_move rfl) trivial rfl ?_
  refine .q (op_slice_arr Tryd.underlying25 inf5.sz rfl rfl (by first | omega | (simp only [AV.len]; omega)) (by decide) (bnd_some rfl rfl) (bnd_some rfl rfl) (by first | omega | (simp only [AV.len]; omega)) (by first | omega | (simp only [AV.len]; omega))) trivial rfl ?_
  refine .as (.sl 1000 16 8 1) rfl ?_
  refine .q (op_call (U := []) [(500, 1000)] [] (readWord_ev key 16 8 25 (by omega) (by omega)) Tryd.func63 (by kernel_rfl) rfl rfl rfl (⟨⟨_, rfl, rfl, rfl⟩, trivial⟩) (⟨⟨_, _, rfl, rfl, rfl, rfl, (fun h => by cases h), rfl⟩, trivial⟩) (trivial) (⟨(fun h => by cases h), trivial⟩) rfl) trivial rfl ?_
  refine .as (.u64 (rwN (key.drop 16) 8)) rfl ?_
  refine .q (op_add64 Tryd.func62 (by kernel_rfl) (by kernel_rfl) (by kernel_rfl) (by kernel_rfl) rfl rfl rfl (by decide)) trivial rfl ?_
  refine .q (op_move rfl) trivial rfl ?_
  refine .q (op_extract rfl rfl) trivial rfl ?_
  refine .as (.u64 (sumLo key s)) rfl ?_
  refine .q (op_extract rfl rfl) trivial rfl ?_
  refine .as (.u64 (carW (lowW (accL key s)) (rwN (key.drop 16) 8) (UInt64.ofNat 0))) rfl ?_
  refine .q (op_assign rfl) trivial rfl ?_
  refine .q (op_assign rfl) trivial rfl ?_
  refine .nil ?_
  show Ev _ _ _ _ _
  refine .seq ?_
  refine .region ?_
  refine .q (op_move rfl) trivial rfl ?_
  refine .q (op_slice_arr Tryd.underlying25 inf5.sz rfl rfl (by first | omega | (simp only [AV.len]; omega)) (by decide) (bnd_some rfl rfl) (bnd_some rfl rfl) (by first | omega | (simp only [AV.len]; omega)) (by first | omega | (simp only [AV.len]; omega))) trivial rfl ?_
  refine .as (.sl 1000 24 8 1) rfl ?_
  refine .q (op_call (U := []) [(500, 1000)] [] (readWord_ev key 24 8 25 (by omega) (by omega)) Tryd.func63 (by kernel_rfl) rfl rfl rfl (⟨⟨_, rfl, rfl, rfl⟩, trivial⟩) (⟨⟨_, _, rfl, rfl, rfl, rfl, (fun h => by cases h), rfl⟩, trivial⟩) (trivial) (⟨(fun h => by cases h), trivial⟩) rfl) trivial rfl ?_
  refine .as (.u64 (rwN (key.drop 24) 8)) rfl ?_
  refine .q (op_move rfl) trivial rfl ?_
  refine .q (op_add64 Tryd.func62 (by kernel_rfl) (by kernel_rfl) (by kernel_rfl) (by kernel_rfl) rfl rfl rfl (carW_le _ _)) trivial rfl ?_
  refine .q (op_move rfl) trivial rfl ?_
  refine .q (op_extract rfl rfl) trivial rfl ?_
  refine .as (.u64 (sumHi key s)) rfl ?_
  refine .q (op_extract rfl rfl) trivial rfl ?_
  refine .q (op_assign rfl) trivial rfl ?_
  refine .nil ?_
  show Ev _ _ _ _ _
  refine .seq ?_
  refine .region ?_
  refine .a (op_allocRow zero71 rel_zero71 rfl) trivial rfl ?_
  refine .nil ?_
  show Ev _ _ _ _ _
  refine .seq ?_
  refine .region ?_
  refine .q (ap_slice_arr_hi Tryd.underlying71 inf5.sz rfl rfl (by first | omega | (simp [AV.len]; done)) (by decide) (bnd_some rfl rfl) (by first | omega | (simp; done))) trivial rfl ?_
  refine .q (op_move rfl) trivial rfl ?_
  refine .a (op_call (U := [(1032, some ⟨.aggB (pwN (List.replicate 16 0) 0 (sumLo key s) 8), 71, true⟩)]) [(500, 1032)] [] (putWord_ev (List.replicate 16 0) 0 8 71 (sumLo key s) (by simp) (by omega)) Tryd.func42 (by kernel_rfl) rfl rfl rfl (⟨⟨_, rfl, rfl, rfl⟩, ⟨_, rfl, rfl, rfl⟩, trivial⟩) (⟨⟨_, _, rfl, rfl, rfl, rfl, id, rfl⟩, trivial⟩) (⟨⟨500, _, rfl, rfl, rfl, rfl, .inr ⟨rfl, _, rfl, rfl⟩⟩, trivial⟩) (⟨(fun _ => ⟨1032, _, rfl, rfl⟩), trivial⟩) rfl) trivial rfl ?_
  refine .nil ?_
  show Ev _ _ _ _ _
  refine .seq ?_
  refine .region ?_
  refine .q (op_slice_arr Tryd.underlying71 inf5.sz rfl rfl (by first | omega | (simp [AV.len, length_pwN]; done)) (by decide) (bnd_some rfl rfl) rfl (by first | omega | (simp; done)) (by first | omega | (simp [AV.len, length_pwN]; done))) trivial rfl ?_
  refine .as (.sl 1032 8 8 1) rfl ?_
  refine .q (op_move rfl) trivial rfl ?_
  refine .a (op_call (U := [(1032, some ⟨.aggB (sumL key s), 71, true⟩)]) [(500, 1032)] [] (putWord_ev (pwN (List.replicate 16 0) 0 (sumLo key s) 8) 8 8 71 (sumHi key s) (by simp [length_pwN]) (by omega)) Tryd.func42 (by kernel_rfl) rfl rfl rfl (⟨⟨_, rfl, rfl, rfl⟩, ⟨_, rfl, rfl, rfl⟩, trivial⟩) (⟨⟨_, _, rfl, rfl, rfl, rfl, id, rfl⟩, trivial⟩) (⟨⟨500, _, rfl, rfl, rfl, rfl, .inr ⟨rfl, _, rfl, rfl⟩⟩, trivial⟩) (⟨(fun _ => ⟨1032, _, rfl, rfl⟩), trivial⟩) rfl) trivial rfl ?_
  refine .nil ?_
  show Ev _ _ _ _ _
  refine .seq ?_
  refine .region ?_
  refine .q (op_loadRow Tryd.underlying71 rfl sz71 rfl rfl rfl (by simp [AV.len, length_sumL])) trivial rfl ?_
  refine .w (op_storeRow sz71 rfl rfl rfl rfl rfl (by simp [AV.len, length_sumL]) (by simp [AV.len])) trivial rfl ?_
  refine .nil ?_
  show Ev _ _ _ _ _
  refine .ret ?_
  show RetOk _ _ _ _ _ _ _
  exact retc1 rfl (.inl rfl) ⟨_, _, _, _, rfl, rfl, rfl, rfl, (length_sumL key s), Tryd.underlying71, rfl, sz71⟩ trivial
end Go.Proofs.YtidjfinookikcaaDoor
