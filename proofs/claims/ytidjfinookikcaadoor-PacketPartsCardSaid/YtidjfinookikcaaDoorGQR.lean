/-
  Texts of this claim.
-/
import Derived.Shelf.Strings.Repeat
import Derived.Test.YtidjfinookikcaaDoorGQW
import Derived.Test.YtidjfinookikcaaDoorGQS
import Derived.Test.YtidjfinookikcaaDoorGQE
namespace Go.Proofs.YtidjfinookikcaaDoor
open Go.RowKit
theorem shl8B (n : UInt64) (b : UInt8) (h : n.toNat < 2 ^ 56) : (n <<< UInt64.ofNat 8 ||| b.toUInt64).toNat = n.toNat * 256 + b.toNat := by
  have hb := b.toNat_lt
  rw [UInt64.toNat_or, UInt64.toNat_shiftLeft]
  have e : (UInt64.ofNat 8).toNat % 64 = 8 := rfl
  rw [e, UInt8.toNat_toUInt64, Nat.mod_eq_of_lt (by rw [Nat.shiftLeft_eq]; omega), Nat.shiftLeft_eq]
  rw [show n.toNat * 2 ^ 8 = 2 ^ 8 * n.toNat by omega]
  have hq : b.toNat < 2 ^ 8 := hb
  rw [← Nat.two_pow_add_eq_or_of_lt hq]
theorem byteAtB (x : UInt64) (k : Nat) (hk : k < 64) : (x >>> UInt64.ofNat k).toUInt8.toNat = x.toNat / 2 ^ k % 256 := by
  rw [UInt64.toNat_toUInt8, UInt64.toNat_shiftRight]
  have e : (UInt64.ofNat k).toNat % 64 = k := by
    rw [UInt64.toNat_ofNat_of_lt' (by simp [UInt64.size]; omega)]; exact Nat.mod_eq_of_lt hk
  rw [e, Nat.shiftRight_eq_div_pow]
theorem num4B (x : UInt64) : numB x 4 4 = [(x >>> UInt64.ofNat 24).toUInt8, (x >>> UInt64.ofNat 16).toUInt8, (x >>> UInt64.ofNat 8).toUInt8, (x >>> UInt64.ofNat 0).toUInt8] := rfl
theorem num8B (x : UInt64) : numB x 8 8 = [(x >>> UInt64.ofNat 56).toUInt8, (x >>> UInt64.ofNat 48).toUInt8, (x >>> UInt64.ofNat 40).toUInt8, (x >>> UInt64.ofNat 32).toUInt8, (x >>> UInt64.ofNat 24).toUInt8, (x >>> UInt64.ofNat 16).toUInt8, (x >>> UInt64.ofNat 8).toUInt8, (x >>> UInt64.ofNat 0).toUInt8] := rfl
theorem numV4B (a b c d : UInt8) : (numV [a, b, c, d]).toNat = ((a.toNat * 256 + b.toNat) * 256 + c.toNat) * 256 + d.toNat := by
  have ha := a.toNat_lt
  have hb := b.toNat_lt
  have hc := c.toNat_lt
  show (numL [a, b, c, d] 4).toNat = _
  have h1 : (numL [a, b, c, d] 1).toNat = a.toNat := by
    show ((0 : UInt64) <<< UInt64.ofNat 8 ||| a.toUInt64).toNat = _
    rw [shl8B _ _ (show (0 : UInt64).toNat < 2 ^ 56 by decide)]
    show (0 : UInt64).toNat * 256 + _ = _
    simp
  have h2 : (numL [a, b, c, d] 2).toNat = a.toNat * 256 + b.toNat := by
    show (numL [a, b, c, d] 1 <<< UInt64.ofNat 8 ||| b.toUInt64).toNat = _
    rw [shl8B _ _ (by rw [h1]; omega), h1]
  have h3 : (numL [a, b, c, d] 3).toNat = (a.toNat * 256 + b.toNat) * 256 + c.toNat := by
    show (numL [a, b, c, d] 2 <<< UInt64.ofNat 8 ||| c.toUInt64).toNat = _
    rw [shl8B _ _ (by rw [h2]; omega), h2]
  show (numL [a, b, c, d] 3 <<< UInt64.ofNat 8 ||| d.toUInt64).toNat = _
  rw [shl8B _ _ (by rw [h3]; omega), h3]
theorem numV_num4B (x : UInt32) : (numV (numB x.toUInt64 4 4)).toUInt32 = x := by
  apply UInt32.toNat_inj.1
  rw [UInt64.toNat_toUInt32, num4B, numV4B, byteAtB _ _ (by decide), byteAtB _ _ (by decide), byteAtB _ _ (by decide), byteAtB _ _ (by decide), UInt32.toNat_toUInt64]
  have := x.toNat_lt
  omega
/-- The reference's bytes of a number. -/
def dvB (x : UInt64) : Nat → UInt64
  | 0 => x
  | k + 1 => dvB x k / 256
def tlB (x : UInt64) : Nat → List UInt8
  | 0 => []
  | k + 1 => (dvB x k % 256).toUInt8 :: tlB x k
theorem length_tlB (x : UInt64) (k : Nat) : (tlB x k).length = k := by induction k with | zero => rfl | succ k ih => simp [tlB, ih]
theorem dvB_nat (x : UInt64) (k : Nat) : (dvB x k).toNat = x.toNat / 256 ^ k := by
  induction k with
  | zero => simp [dvB]
  | succ k ih =>
    show (dvB x k / 256).toNat = _
    rw [UInt64.toNat_div, ih, Nat.pow_succ, Nat.div_div_eq_div_mul]; rfl
theorem dvB_byte (x : UInt64) (k : Nat) (hk : 8 * k < 64) : (dvB x k % 256).toUInt8 = (x >>> UInt64.ofNat (8 * k)).toUInt8 := by
  apply UInt8.toNat_inj.1
  rw [byteAtB _ _ hk, UInt64.toNat_toUInt8, UInt64.toNat_mod, dvB_nat, Nat.pow_mul]
  show _ / 256 ^ k % 256 % 256 = _ / 256 ^ k % 256
  omega
theorem tl4B (x : UInt64) : tlB x 4 = numB x 4 4 := by
  rw [num4B]
  show [(dvB x 3 % 256).toUInt8, (dvB x 2 % 256).toUInt8, (dvB x 1 % 256).toUInt8, (dvB x 0 % 256).toUInt8] = _
  rw [dvB_byte x 3 (by decide), dvB_byte x 2 (by decide), dvB_byte x 1 (by decide), dvB_byte x 0 (by decide)]
theorem tl8B (x : UInt64) : tlB x 8 = numB x 8 8 := by
  rw [num8B]
  show [(dvB x 7 % 256).toUInt8, (dvB x 6 % 256).toUInt8, (dvB x 5 % 256).toUInt8, (dvB x 4 % 256).toUInt8, (dvB x 3 % 256).toUInt8, (dvB x 2 % 256).toUInt8, (dvB x 1 % 256).toUInt8, (dvB x 0 % 256).toUInt8] = _
  rw [dvB_byte x 7 (by decide), dvB_byte x 6 (by decide), dvB_byte x 5 (by decide), dvB_byte x 4 (by decide), dvB_byte x 3 (by decide), dvB_byte x 2 (by decide), dvB_byte x 1 (by decide), dvB_byte x 0 (by decide)]

/-- How many bytes ahead of a body are padded with it. -/
def aheadP : Bool → Nat
  | true => 0
  | false => 4
def padP (b : Bool) (n : Nat) : Nat := 4 + (8 - (aheadP b + 1 + n + 4) % 8) % 8
theorem padP_le (b : Bool) (n : Nat) : 4 ≤ padP b n ∧ padP b n ≤ 11 := by unfold padP; omega
theorem padP_mul (b : Bool) (n : Nat) : (aheadP b + 1 + n + padP b n) % 8 = 0 := by unfold padP; omega
theorem padP_more (b : Bool) (n k : Nat) (h : k < padP b n) : k < 4 ∨ (aheadP b + 1 + n + k) % 8 ≠ 0 := by unfold padP at h; omega
theorem ahead_le (b : Bool) : aheadP b ≤ 4 := by cases b <;> decide
def zP (k : Nat) : List UInt8 := List.replicate k 0
theorem length_zP (k : Nat) : (zP k).length = k := List.length_replicate ..
def bodyP (b : Bool) (p : List UInt8) : List UInt8 := [ofI8 ((padP b p.length : Nat) : Int)] ++ p ++ zP (padP b p.length)
theorem length_bodyP (b : Bool) (p : List UInt8) : (bodyP b p).length = 1 + p.length + padP b p.length := by simp [bodyP, length_zP]; omega
def headP (n : Nat) : List UInt8 := numB (ofI32 ((n : Nat) : Int)).toUInt64 4 4
theorem length_headP (n : Nat) : (headP n).length = 4 := length_numB _ _ _
def nonceP (n : UInt64) : List UInt8 := numB (UInt32.toUInt64 0) 4 4 ++ numB n 8 8
theorem length_nonceP (n : UInt64) : (nonceP n).length = 12 := by simp [nonceP, length_numB]
/-- What follows the head of a packet. -/
def restP (b : Bool) (key : List UInt8) (n : UInt64) (p : List UInt8) : List UInt8 :=
  match b with
  | true => sealL key (nonceP n) (bodyP true p) (headP (bodyP true p).length)
  | false => bodyP false p
def packP (b : Bool) (key : List UInt8) (n : UInt64) (p : List UInt8) : List UInt8 := headP (bodyP b p).length ++ restP b key n p
def tagP : Bool → Nat
  | true => 16
  | false => 0
theorem length_sealP (key nonce text extra : List UInt8) : (sealL key nonce text extra).length = text.length + 16 := by unfold sealL; rw [List.length_append, length_cXor, length_tagL]
theorem length_restP (b : Bool) (key : List UInt8) (n : UInt64) (p : List UInt8) : (restP b key n p).length = (bodyP b p).length + tagP b := by cases b <;> simp [restP, tagP, length_sealP]
theorem length_packP (b : Bool) (key : List UInt8) (n : UInt64) (p : List UInt8) : (packP b key n p).length = 5 + p.length + padP b p.length + tagP b := by
  unfold packP
  rw [List.length_append, length_headP, length_restP, length_bodyP]; omega

/-- What the first four bytes say. -/
def lenP (s : List UInt8) : Nat := (numV (s.take 4)).toUInt32.toNat
def leastP : Bool → Nat
  | true => 8
  | false => 12
def sizeP (b : Bool) (s : List UInt8) : Nat := 4 + lenP s + tagP b
def boxP (b : Bool) (s : List UInt8) : List UInt8 := (s.drop 4).take (sizeP b s - 4)
/-- A body that is opened, and the error's number. -/
def openP (b : Bool) (key : List UInt8) (n : UInt64) (box head : List UInt8) : List UInt8 × Nat :=
  match b with
  | true => if box.drop (box.length - 16) = tagL key (nonceP n) (box.take (box.length - 16)) head then (cXor key (UInt32.ofNat 1) (nonceP n) (box.take (box.length - 16)), 0) else ([], 5)
  | false => (box, 0)
def unpadP (y : List UInt8) : List UInt8 × Nat := if (y.getD 0 0).toNat < 4 ∨ y.length ≤ 1 + (y.getD 0 0).toNat then ([], 3) else ((y.take (y.length - (y.getD 0 0).toNat)).drop 1, 0)
def badP (b : Bool) (s : List UInt8) : Nat := if 33024 < lenP s then 4 else if lenP s < leastP b ∨ (aheadP b + lenP s) % 8 ≠ 0 then 3 else 0
/-- The first payload, its packet's size (0: it isn't there), the error's number. -/
def firstP (b : Bool) (key : List UInt8) (n : UInt64) (s : List UInt8) : List UInt8 × Nat × Nat :=
  if s.length < 4 then ([], 0, 0)
  else if badP b s ≠ 0 then ([], 0, badP b s)
  else if s.length < sizeP b s then ([], 0, 0)
  else if (openP b key n (boxP b s) (s.take 4)).2 ≠ 0 then ([], 0, (openP b key n (boxP b s) (s.take 4)).2)
  else ((unpadP (openP b key n (boxP b s) (s.take 4)).1).1, sizeP b s, (unpadP (openP b key n (boxP b s) (s.take 4)).1).2)
theorem lenP_head (n : Nat) (hn : n < 4294967296) (r : List UInt8) : lenP (headP n ++ r) = n := by
  unfold lenP
  rw [List.take_append_of_le_length (by rw [length_headP]; omega), List.take_of_length_le (by rw [length_headP]; omega)]
  show (numV (numB (ofI32 _).toUInt64 4 4)).toUInt32.toNat = n
  rw [numV_num4B]
  have := ofI32_toNat (n : Int)
  omega
theorem bad_head (b : Bool) (p r : List UInt8) (h1 : 1 ≤ p.length) (h2 : p.length ≤ 32768) : badP b (headP (bodyP b p).length ++ r) = 0 := by
  have hl := length_bodyP b p
  have h3 := padP_le b p.length
  have h4 := padP_mul b p.length
  unfold badP
  rw [lenP_head _ (by omega), if_neg (by omega), if_neg]
  cases b <;> simp only [aheadP, leastP] at * <;> omega
theorem unpad_body (b : Bool) (p : List UInt8) (h1 : 1 ≤ p.length) : unpadP (bodyP b p) = (p, 0) := by
  have h3 := padP_le b p.length
  have h0 : ((bodyP b p).getD 0 0).toNat = padP b p.length := by
    show (ofI8 _).toNat = _
    have := ofI8_toNat ((padP b p.length : Nat) : Int)
    omega
  have hl := length_bodyP b p
  unfold unpadP
  rw [h0, if_neg (by omega)]
  congr 1
  rw [hl, show 1 + p.length + padP b p.length - padP b p.length = 1 + p.length by omega]
  unfold bodyP
  rw [List.take_append_of_le_length (by simp; omega), List.take_of_length_le (by simp; omega)]
  rfl
theorem open_seal (key nonce text extra : List UInt8) : (sealL key nonce text extra).drop ((sealL key nonce text extra).length - 16) = tagL key nonce ((sealL key nonce text extra).take ((sealL key nonce text extra).length - 16)) extra ∧
    cXor key (UInt32.ofNat 1) nonce ((sealL key nonce text extra).take ((sealL key nonce text extra).length - 16)) = text := by
  have h := length_cXor key (UInt32.ofNat 1) nonce text
  have e1 : (sealL key nonce text extra).take ((sealL key nonce text extra).length - 16) = cXor key (UInt32.ofNat 1) nonce text := by
    rw [length_sealP]; unfold sealL
    rw [List.take_append_of_le_length (by omega), List.take_of_length_le (by omega)]
  have e2 : (sealL key nonce text extra).drop ((sealL key nonce text extra).length - 16) = tagL key nonce (cXor key (UInt32.ofNat 1) nonce text) extra := by
    rw [length_sealP]; unfold sealL
    rw [List.drop_append_of_le_length (by omega), List.drop_of_length_le (by omega), List.nil_append]
  rw [e1, e2]
  exact ⟨rfl, cXor_twice _ _ _ _⟩
theorem open_rest (b : Bool) (key : List UInt8) (n : UInt64) (p : List UInt8) : openP b key n (restP b key n p) (headP (bodyP b p).length) = (bodyP b p, 0) := by
  cases b with
  | false => rfl
  | true =>
    obtain ⟨e1, e2⟩ := open_seal key (nonceP n) (bodyP true p) (headP (bodyP true p).length)
    refine (if_pos e1).trans ?_
    exact congrArg (fun z => (z, 0)) e2
theorem size_pack (b : Bool) (key : List UInt8) (n : UInt64) (p r : List UInt8) (h2 : p.length ≤ 32768) : sizeP b (packP b key n p ++ r) = (packP b key n p).length := by
  have hl := length_bodyP b p
  have h3 := padP_le b p.length
  unfold sizeP
  rw [length_packP, packP, List.append_assoc, lenP_head _ (by omega), hl]; omega
/-- A packet that was written is read. -/
theorem first_pack (b : Bool) (key : List UInt8) (n : UInt64) (p r : List UInt8) (h1 : 1 ≤ p.length) (h2 : p.length ≤ 32768) : firstP b key n (packP b key n p ++ r) = (p, (packP b key n p).length, 0) := by
  have hs := size_pack b key n p r h2
  have hl := length_packP b key n p
  have hb : badP b (packP b key n p ++ r) = 0 := by rw [packP, List.append_assoc]; exact bad_head b p _ h1 h2
  have ht : (packP b key n p ++ r).take 4 = headP (bodyP b p).length := by
    rw [packP, List.append_assoc, List.take_append_of_le_length (by rw [length_headP]; omega), List.take_of_length_le (by rw [length_headP]; omega)]
  have hx : boxP b (packP b key n p ++ r) = restP b key n p := by
    unfold boxP
    rw [hs, length_packP, packP, List.append_assoc, List.drop_append_of_le_length (by rw [length_headP]; omega), List.drop_of_length_le (by rw [length_headP]; omega), List.nil_append,
      List.take_append_of_le_length (by rw [length_restP, length_bodyP]; omega), List.take_of_length_le (by rw [length_restP, length_bodyP]; omega)]
  unfold firstP
  rw [if_neg (by rw [List.length_append]; omega), if_neg (by rw [hb]; decide), if_neg (by rw [hs, List.length_append]; omega), hx, ht, open_rest]
  simp only [ne_eq, not_true_eq_false, if_false, unpad_body b p h1, hs]
/-- The beginning of a packet that was written is none yet. -/
theorem first_part (b : Bool) (key : List UInt8) (n : UInt64) (p : List UInt8) (h1 : 1 ≤ p.length) (h2 : p.length ≤ 32768) (k : Nat) (hk : k < (packP b key n p).length) : firstP b key n ((packP b key n p).take k) = ([], 0, 0) := by
  have hs := size_pack b key n p [] h2
  rw [List.append_nil] at hs
  unfold firstP
  by_cases h4 : ((packP b key n p).take k).length < 4
  · rw [if_pos h4]
  · rw [List.length_take] at h4
    have et : ((packP b key n p).take k).take 4 = (packP b key n p).take 4 := by rw [List.take_take]; congr 1; omega
    have el : lenP ((packP b key n p).take k) = lenP (packP b key n p) := by unfold lenP; rw [et]
    have hb : badP b ((packP b key n p).take k) = 0 := by
      have := bad_head b p (restP b key n p) h1 h2
      unfold badP at this ⊢
      rw [el]; exact this
    have e2 : sizeP b ((packP b key n p).take k) = sizeP b (packP b key n p) := by unfold sizeP; rw [el]
    rw [if_neg (by rw [List.length_take]; omega), if_neg (by rw [hb]; decide), if_pos (by rw [e2, hs, List.length_take]; omega)]
end Go.Proofs.YtidjfinookikcaaDoor
namespace Go.Proofs.YtidjfinookikcaaDoor
open Go.RowKit
/-- A key's cells, one by one. -/
def kC (key : List UInt8) : List AV := [.u8 (key.getD 0 0), .u8 (key.getD 1 0), .u8 (key.getD 2 0), .u8 (key.getD 3 0), .u8 (key.getD 4 0), .u8 (key.getD 5 0), .u8 (key.getD 6 0), .u8 (key.getD 7 0), .u8 (key.getD 8 0), .u8 (key.getD 9 0), .u8 (key.getD 10 0), .u8 (key.getD 11 0), .u8 (key.getD 12 0), .u8 (key.getD 13 0), .u8 (key.getD 14 0), .u8 (key.getD 15 0), .u8 (key.getD 16 0), .u8 (key.getD 17 0), .u8 (key.getD 18 0), .u8 (key.getD 19 0), .u8 (key.getD 20 0), .u8 (key.getD 21 0), .u8 (key.getD 22 0), .u8 (key.getD 23 0), .u8 (key.getD 24 0), .u8 (key.getD 25 0), .u8 (key.getD 26 0), .u8 (key.getD 27 0), .u8 (key.getD 28 0), .u8 (key.getD 29 0), .u8 (key.getD 30 0), .u8 (key.getD 31 0)]
theorem kC_eq {key : List UInt8} (h : key.length = 32) : kC key = key.map .u8 := by
  refine List.ext_getElem? fun i => ?_
  rw [List.getElem?_map]
  by_cases hi : i < 32
  · have hi2 : i < key.length := by omega
    rw [List.getElem?_eq_getElem hi2]
    have e : ∀ j, j < 32 → (kC key)[j]? = some (.u8 (key.getD j 0)) := by
      intro j hj
      have : ∀ q : Fin 32, (kC key)[q.1]? = some (AV.u8 (key.getD q.1 0)) := by
        intro q
        match q with
        | ⟨0, _⟩ => rfl
        | ⟨1, _⟩ => rfl
        | ⟨2, _⟩ => rfl
        | ⟨3, _⟩ => rfl
        | ⟨4, _⟩ => rfl
        | ⟨5, _⟩ => rfl
        | ⟨6, _⟩ => rfl
        | ⟨7, _⟩ => rfl
        | ⟨8, _⟩ => rfl
        | ⟨9, _⟩ => rfl
        | ⟨10, _⟩ => rfl
        | ⟨11, _⟩ => rfl
        | ⟨12, _⟩ => rfl
        | ⟨13, _⟩ => rfl
        | ⟨14, _⟩ => rfl
        | ⟨15, _⟩ => rfl
        | ⟨16, _⟩ => rfl
        | ⟨17, _⟩ => rfl
        | ⟨18, _⟩ => rfl
        | ⟨19, _⟩ => rfl
        | ⟨20, _⟩ => rfl
        | ⟨21, _⟩ => rfl
        | ⟨22, _⟩ => rfl
        | ⟨23, _⟩ => rfl
        | ⟨24, _⟩ => rfl
        | ⟨25, _⟩ => rfl
        | ⟨26, _⟩ => rfl
        | ⟨27, _⟩ => rfl
        | ⟨28, _⟩ => rfl
        | ⟨29, _⟩ => rfl
        | ⟨30, _⟩ => rfl
        | ⟨31, _⟩ => rfl
        | ⟨m + 32, hm⟩ => exact absurd hm (by omega)
      exact this ⟨j, hj⟩
    rw [e i hi, List.getD_eq_getElem?_getD, List.getElem?_eq_getElem hi2]; rfl
  · rw [List.getElem?_eq_none (show (kC key).length ≤ i from Nat.le_of_not_lt hi), List.getElem?_eq_none (by omega)]; rfl
/-- A direction's cells, and what stands behind them. -/
def dC (b : Bool) (key : List UInt8) (n : UInt64) (tl : List AV) : AV := .agg (.bool b :: (kC key ++ (.u64 n :: tl)))
section
variable {b : Bool} {key : List UInt8} {n : UInt64} {tl : List AV}
theorem dC_len : (dC b key n tl).len = 34 + tl.length := by
  show (AV.bool b :: (kC key ++ (.u64 n :: tl))).length = _
  simp [kC]; omega
theorem dC_lt {i : Nat} (h : i < 34) : i < (dC b key n tl).len := by rw [dC_len]; omega
theorem dC_ltt {i : Nat} (h : i < tl.length) : 34 + i < (dC b key n tl).len := by rw [dC_len]; omega
theorem dC_key (h : key.length = 32) : key.map AV.u8 = ((dC b key n tl).list.drop 1).take 32 := by rw [← kC_eq h]; rfl
theorem dC_part {key' : List UInt8} (h : key'.length = 32) : (dC b key' n tl).list = (dC b key n tl).list.take 1 ++ (key'.map AV.u8 ++ (dC b key n tl).list.drop 33) := by rw [← kC_eq h]; rfl
theorem dC_keyL (h : key.length = 32) : (key.map AV.u8).length = 32 := by rw [List.length_map, h]
end
end Go.Proofs.YtidjfinookikcaaDoor
namespace Go.Proofs.YtidjfinookikcaaDoor
open Go.RowKit
theorem zeroW : (Tryd.prog.info? 30).map (·.zero) = some (some (.agg #[.bool false, .int .u8 0, .int .u8 0, .int .u8 0, .int .u8 0, .int .u8 0, .int .u8 0, .int .u8 0, .int .u8 0, .int .u8 0, .int .u8 0, .int .u8 0, .int .u8 0, .int .u8 0, .int .u8 0, .int .u8 0, .int .u8 0, .int .u8 0, .int .u8 0, .int .u8 0, .int .u8 0, .int .u8 0, .int .u8 0, .int .u8 0, .int .u8 0, .int .u8 0, .int .u8 0, .int .u8 0, .int .u8 0, .int .u8 0, .int .u8 0, .int .u8 0, .int .u8 0, .int .u64 0])) := by kernel_rfl
theorem rel_zeroW : Rel Emb.nil (dC false (List.replicate 32 (0 : UInt8)) 0 []) (.agg #[.bool false, .int .u8 0, .int .u8 0, .int .u8 0, .int .u8 0, .int .u8 0, .int .u8 0, .int .u8 0, .int .u8 0, .int .u8 0, .int .u8 0, .int .u8 0, .int .u8 0, .int .u8 0, .int .u8 0, .int .u8 0, .int .u8 0, .int .u8 0, .int .u8 0, .int .u8 0, .int .u8 0, .int .u8 0, .int .u8 0, .int .u8 0, .int .u8 0, .int .u8 0, .int .u8 0, .int .u8 0, .int .u8 0, .int .u8 0, .int .u8 0, .int .u8 0, .int .u8 0, .int .u64 0]) := rel_agg rfl ⟨.bool _, .u8 _, .u8 _, .u8 _, .u8 _, .u8 _, .u8 _, .u8 _, .u8 _, .u8 _, .u8 _, .u8 _, .u8 _, .u8 _, .u8 _, .u8 _, .u8 _, .u8 _, .u8 _, .u8 _, .u8 _, .u8 _, .u8 _, .u8 _, .u8 _, .u8 _, .u8 _, .u8 _, .u8 _, .u8 _, .u8 _, .u8 _, .u8 _, .u64 _, trivial⟩
theorem zeroR : (Tryd.prog.info? 35).map (·.zero) = some (some (.agg #[.bool false, .int .u8 0, .int .u8 0, .int .u8 0, .int .u8 0, .int .u8 0, .int .u8 0, .int .u8 0, .int .u8 0, .int .u8 0, .int .u8 0, .int .u8 0, .int .u8 0, .int .u8 0, .int .u8 0, .int .u8 0, .int .u8 0, .int .u8 0, .int .u8 0, .int .u8 0, .int .u8 0, .int .u8 0, .int .u8 0, .int .u8 0, .int .u8 0, .int .u8 0, .int .u8 0, .int .u8 0, .int .u8 0, .int .u8 0, .int .u8 0, .int .u8 0, .int .u8 0, .int .u64 0, .slice none 0 0, .nilIface])) := by kernel_rfl
theorem rel_zeroR (eo : Nat → Nat × Nat) : Rel Emb.nil (dC false (List.replicate 32 (0 : UInt8)) 0 [.nilsl, .err 131 (0) (offE eo (0))]) (.agg #[.bool false, .int .u8 0, .int .u8 0, .int .u8 0, .int .u8 0, .int .u8 0, .int .u8 0, .int .u8 0, .int .u8 0, .int .u8 0, .int .u8 0, .int .u8 0, .int .u8 0, .int .u8 0, .int .u8 0, .int .u8 0, .int .u8 0, .int .u8 0, .int .u8 0, .int .u8 0, .int .u8 0, .int .u8 0, .int .u8 0, .int .u8 0, .int .u8 0, .int .u8 0, .int .u8 0, .int .u8 0, .int .u8 0, .int .u8 0, .int .u8 0, .int .u8 0, .int .u8 0, .int .u64 0, .slice none 0 0, .nilIface]) := rel_agg rfl ⟨.bool _, .u8 _, .u8 _, .u8 _, .u8 _, .u8 _, .u8 _, .u8 _, .u8 _, .u8 _, .u8 _, .u8 _, .u8 _, .u8 _, .u8 _, .u8 _, .u8 _, .u8 _, .u8 _, .u8 _, .u8 _, .u8 _, .u8 _, .u8 _, .u8 _, .u8 _, .u8 _, .u8 _, .u8 _, .u8 _, .u8 _, .u8 _, .u8 _, .u64 _, .nilsl, .err0 _ _, trivial⟩
set_option maxRecDepth 100000 in
theorem padded_ev (b : Bool) (key : List UInt8) (n : UInt64) (tl : List AV) (te : Nat) : Meets Tryd.prog 21 [.ptr 500 0] [(500, some ⟨dC b key n (tl), te, false⟩)] (.i64 ((aheadP b : Nat) : Int)) [] := by
 refine meets_of_ev (nt := 7) Tryd.func21 rfl rfl (Nat.le_of_ble_eq_true rfl) ?_
 refine .seq ?_
 refine .region ?_
 refine .q (op_assign rfl) trivial rfl ?_
 refine .nil ?_
 show Ev _ _ _ _ _
 refine .seq ?_
 refine .seq ?_
 refine .region ?_
 refine .q (op_move rfl) trivial rfl ?_
 refine .q (op_nilCheck rfl) trivial rfl ?_
 refine .q (op_fieldAddr (m := 0) Tryd.underlying28 rfl (by kernel_rfl) rfl) trivial rfl ?_
 refine .as (.ptr 500 0) rfl ?_
 refine .q (op_load Tryd.underlying4 rfl rfl rfl rfl (dC_lt (by decide))) trivial rfl ?_
 refine .nil ?_
 show Ev _ _ _ _ _
 refine .cond rfl (fun hc6 => ?_) (fun hc6 => ?_)
 ·skip
  refine .seq ?_
  refine .region ?_
  refine .q (op_assign rfl) trivial rfl ?_
  refine .nil ?_
  show Ev _ _ _ _ _
  refine .ret ?_
  show RetOk _ _ _ _ _ _ _
  exact ret1v rfl (.inl rfl) rfl (by first | rw [hc6]; rfl) trivial
 ·skip
  refine .skip ?_
  show Ev _ _ _ _ _
  refine .seq ?_
  refine .region ?_
  refine .q (op_assign rfl) trivial rfl ?_
  refine .nil ?_
  show Ev _ _ _ _ _
  refine .ret ?_
  show RetOk _ _ _ _ _ _ _
  exact ret1v rfl (.inl rfl) rfl (by first | rw [hc6]; rfl) trivial
set_option maxRecDepth 100000 in
theorem count_ev (b : Bool) (key : List UInt8) (n : UInt64) (tl : List AV) (te : Nat) : Meets Tryd.prog 12 [.ptr 500 0] [(500, some ⟨dC b key n (tl), te, false⟩)] (.u64 n) [] := by
 refine meets_of_ev (nt := 7) Tryd.func12 rfl rfl (Nat.le_of_ble_eq_true rfl) ?_
 refine .seq ?_
 refine .region ?_
 refine .q (op_assign rfl) trivial rfl ?_
 refine .nil ?_
 show Ev _ _ _ _ _
 refine .seq ?_
 refine .region ?_
 refine .q (op_move rfl) trivial rfl ?_
 refine .q (op_nilCheck rfl) trivial rfl ?_
 refine .q (op_fieldAddr (m := 0) Tryd.underlying28 rfl (by kernel_rfl) rfl) trivial rfl ?_
 refine .as (.ptr 500 33) rfl ?_
 refine .q (op_load Tryd.underlying26 rfl rfl rfl rfl (dC_lt (by decide))) trivial rfl ?_
 refine .q (op_assign rfl) trivial rfl ?_
 refine .nil ?_
 show Ev _ _ _ _ _
 refine .ret ?_
 show RetOk _ _ _ _ _ _ _
 exact ret1v rfl (.inl rfl) rfl (rfl) trivial
set_option maxRecDepth 100000 in
theorem nonce_ev (b : Bool) (key : List UInt8) (n : UInt64) (tl : List AV) (te : Nat) : Meets Tryd.prog 18 [.ptr 500 0] [(500, some ⟨dC b key n (tl), te, false⟩)] (.aggB (nonceP n)) [] := by
 refine meets_of_ev (nt := 15) Tryd.func18 rfl rfl (Nat.le_of_ble_eq_true rfl) ?_
 refine .seq ?_
 refine .region ?_
 refine .a (op_allocRow zero61 rel_zero61 rfl) trivial rfl ?_
 refine .nil ?_
 show Ev _ _ _ _ _
 refine .seq ?_
 refine .region ?_
 refine .a (op_allocRow zero55 rel_zero55 rfl) trivial rfl ?_
 refine .nil ?_
 show Ev _ _ _ _ _
 refine .seq ?_
 refine .region ?_
 refine .a (op_allocRow zero61 rel_zero61 rfl) trivial rfl ?_
 refine .nil ?_
 show Ev _ _ _ _ _
 refine .seq ?_
 refine .drawnF [[], [], [], [2], [2, 3], [2, 3, 4], [1, 2, 3, 4, 5], [1, 2, 3, 4, 5, 6], [0, 1, 2, 3, 4, 5, 6, 7]] [0, 1, 5, 6, 7, 8] [] [(0, ([1016], [])), (1, ([], [1008])), (5, ([500], [])), (6, ([], [1008, 1032])), (7, ([], [1008, 1072])), (8, ([], [1016]))] (by kernel_rfl) (by kernel_rfl) rfl ?_
 show DK _ [0, 1, 2, 3, 4, 5, 6, 7, 8] _ _ _
 refine .q rfl (ap_slice_arr_hi Tryd.underlying61 inf5.sz rfl rfl (by first | omega | (simp only [AV.len]; omega) | (simp only [AV.len, List.length_set]; omega) | assumption | (simp [AV.len]; done)) (by decide) rfl (by first | omega | (simp only [AV.len]; omega) | (simp only [AV.len, List.length_set]; omega) | assumption | (simp [AV.len]; done))) trivial ?_
 refine .a rfl (op_call (U := [(1008, some ⟨.agg [.ptr 1008 0, .sl 1032 0 (4) 1], 55, true⟩), (1032, some ⟨.aggB (numB (UInt32.toUInt64 0) 4 4), 5, true⟩)]) [(500, 1008)] [(1032, 1000)] (u320_ev 0) Tryd.func15 (by kernel_rfl) rfl rfl rfl (⟨⟨_, rfl, rfl, rfl⟩, ⟨_, rfl, rfl, rfl⟩, trivial⟩) (⟨⟨_, _, rfl, rfl, rfl, rfl, id, rfl⟩, trivial⟩) (⟨⟨500, _, rfl, rfl, rfl, rfl, .inr ⟨rfl, _, rfl, rfl⟩⟩, ⟨1000, _, rfl, rfl, rfl, rfl, .inl rfl⟩, trivial⟩) (⟨(fun _ => ⟨1008, _, rfl, rfl⟩), trivial⟩) rfl) trivial rfl rfl ?_
 refine .q rfl (op_move rfl) trivial ?_
 refine .q rfl (op_nilCheck rfl) trivial ?_
 refine .q rfl (op_fieldAddr (m := 0) Tryd.underlying28 rfl (by kernel_rfl) rfl) trivial ?_
 refine .as (.ptr 500 33) rfl ?_
 refine .q rfl (op_load Tryd.underlying26 rfl rfl rfl rfl (dC_lt (by decide))) trivial ?_
 refine .a rfl (op_call (U := [(1008, some ⟨.agg [.ptr 1008 0, .sl 1072 0 (4 + 8) 1], 55, true⟩), (1072, some ⟨.aggB (numB (UInt32.toUInt64 0) 4 4 ++ numB n 8 8), 5, true⟩), (1032, none)]) [(500, 1008), (501, 1032)] [(1072, 1000)] (u642_ev n (numB (UInt32.toUInt64 0) 4 4) 4 (by first | (simp [length_numB, length_zP, length_headP]; done) | (simp [length_numB, length_zP, length_headP]; omega) | omega) (by omega)) Tryd.func29 (by kernel_rfl) rfl rfl rfl (⟨⟨_, rfl, rfl, rfl⟩, ⟨_, rfl, rfl, rfl⟩, trivial⟩) (⟨⟨_, _, rfl, rfl, rfl, rfl, id, rfl⟩, ⟨_, _, rfl, rfl, rfl, rfl, id, rfl⟩, trivial⟩) (⟨⟨500, _, rfl, rfl, rfl, rfl, .inr ⟨rfl, _, rfl, rfl⟩⟩, ⟨1000, _, rfl, rfl, rfl, rfl, .inl rfl⟩, trivial⟩) (⟨(fun _ => ⟨1008, _, rfl, rfl⟩), (fun _ => ⟨1032, _, rfl, rfl⟩), trivial⟩) rfl) trivial rfl rfl ?_
 refine .a rfl (op_call (U := [(1072, some ⟨.aggB (numB (UInt32.toUInt64 0) 4 4 ++ numB n 8 8), (frz + 5), false⟩)]) [(500, 1008), (501, 1072)] [] (bytes2_ev (numB (UInt32.toUInt64 0) 4 4 ++ numB n 8 8) (4 + 8) (by first | (simp [length_numB, length_zP, length_headP]; done) | (simp [length_numB, length_zP, length_headP]; omega) | omega) (by omega) (by omega)) Tryd.func16 (by kernel_rfl) rfl rfl rfl (⟨⟨_, rfl, rfl, rfl⟩, trivial⟩) (⟨⟨_, _, rfl, rfl, rfl, rfl, (fun h => by cases h), rfl⟩, ⟨_, _, rfl, rfl, rfl, rfl, id, rfl⟩, trivial⟩) (⟨⟨501, _, rfl, rfl, rfl, rfl, .inr ⟨rfl, _, rfl, rfl⟩⟩, trivial⟩) (⟨(fun h => by cases h), (fun _ => ⟨1072, _, rfl, rfl⟩), trivial⟩) rfl) trivial rfl rfl ?_
 refine .a rfl (op_copy (q := 12) (c' := .aggB (nonceP n)) Tryd.underlying31 inf5.sz rfl rfl rfl (srcs_str rfl) (by show 0 + 12 ≤ 12; decide) (by simp [length_numB]) (by simp [AV.list, AV.parts, nonceP, length_numB]; exact (List.take_of_length_le (by simp [length_numB])).symm)) trivial rfl rfl ?_
 refine .nil ?_
 show Ev _ _ _ _ _
 refine .seq ?_
 refine .region ?_
 refine .q (op_loadRow Tryd.underlying61 rfl sz61 rfl rfl rfl (by exact length_nonceP n)) trivial rfl ?_
 refine .w (op_storeRow sz61 rfl rfl rfl rfl rfl (by exact length_nonceP n) (by exact length_nonceP n)) trivial rfl ?_
 refine .nil ?_
 show Ev _ _ _ _ _
 refine .ret ?_
 show RetOk _ _ _ _ _ _ _
 exact retc1 rfl (.inl rfl) ⟨_, _, _, _, rfl, rfl, rfl, rfl, (length_nonceP n), Tryd.underlying61, rfl, sz61⟩ trivial
set_option maxRecDepth 100000 in
theorem dseal_ev (b : Bool) (key key2 : List UInt8) (hk2 : key2.length = 32) (n : UInt64) (tl : List AV) (te : Nat) : Meets Tryd.prog 13 [.ptr 500 0, .aggB key2] [(500, some ⟨dC b key n (tl), te, true⟩)] (.tup []) [(500, some ⟨dC true key2 n (tl), te, true⟩)] := by
 refine meets_of_ev (nt := 11) Tryd.func13 rfl rfl (Nat.le_of_ble_eq_true rfl) ?_
 refine .seq ?_
 refine .region ?_
 refine .a (op_boxRow rfl rfl) trivial rfl ?_
 refine .nil ?_
 show Ev _ _ _ _ _
 refine .seq ?_
 refine .region ?_
 refine .q (op_move rfl) trivial rfl ?_
 refine .q (op_nilCheck rfl) trivial rfl ?_
 refine .q (op_fieldAddr (m := 0) Tryd.underlying28 rfl (by kernel_rfl) rfl) trivial rfl ?_
 refine .as (.ptr 500 0) rfl ?_
 refine .w (op_store (c' := dC true key n tl) rfl rfl rfl rfl rfl rfl (dC_lt (by decide))) trivial rfl ?_
 refine .nil ?_
 show Ev _ _ _ _ _
 refine .region ?_
 refine .q (op_move rfl) trivial rfl ?_
 refine .q (op_loadRow Tryd.underlying25 rfl sz25 rfl rfl rfl (hk2)) trivial rfl ?_
 refine .q (op_nilCheck rfl) trivial rfl ?_
 refine .q (op_fieldAddr (m := 31) Tryd.underlying28 rfl (by kernel_rfl) rfl) trivial rfl ?_
 refine .as (.ptr 500 1) rfl ?_
 refine .w (op_storePart (m := 32) (cs := key2.map .u8) (c' := dC true key2 n tl) (by kernel_rfl) rfl rfl rfl rfl rfl (dC_keyL hk2) (by rw [dC_len]; omega) (dC_part hk2)) trivial rfl ?_
 refine .nil ?_
 show RetOk _ _ _ _ _ _ _
 exact ret0 rfl (.inr rfl) ⟨rfl, trivial⟩
set_option maxRecDepth 100000 in
theorem wseal_ev (b : Bool) (key key2 : List UInt8) (hk2 : key2.length = 32) (n : UInt64) : Meets Tryd.prog 5 [.ptr 500 0, .aggB key2] [(500, some ⟨dC b key n ([]), 30, true⟩)] (.tup []) [(500, some ⟨dC true key2 n ([]), 30, true⟩)] := by
 refine meets_of_ev (nt := 9) Tryd.func5 rfl rfl (Nat.le_of_ble_eq_true rfl) ?_
 refine .seq ?_
 refine .region ?_
 refine .a (op_boxRow rfl rfl) trivial rfl ?_
 refine .nil ?_
 show Ev _ _ _ _ _
 refine .drawnF [[], [0], [0, 1], [], [0, 1, 2, 3]] [3, 4] [] [(3, ([1000], [])), (4, ([], [500]))] (by kernel_rfl) (by kernel_rfl) rfl ?_
 show DK _ [0, 1, 2, 3, 4] _ _ _
 refine .q rfl (op_move rfl) trivial ?_
 refine .q rfl (op_nilCheck rfl) trivial ?_
 refine .q rfl (op_fieldAddr (m := 33) Tryd.underlying30 rfl (by kernel_rfl) rfl) trivial ?_
 refine .as (.ptr 500 0) rfl ?_
 refine .q rfl (op_loadRow Tryd.underlying25 rfl sz25 rfl rfl rfl (hk2)) trivial ?_
 refine .a rfl (op_call (U := [(500, some ⟨dC true key2 n [], 30, true⟩)]) [(500, 500)] [] (dseal_ev b key key2 hk2 n [] 30) Tryd.func13 (by kernel_rfl) rfl rfl rfl (⟨⟨_, rfl, rfl, rfl⟩, ⟨_, rfl, rfl, rfl⟩, trivial⟩) (⟨⟨_, _, rfl, rfl, rfl, rfl, id, rfl⟩, trivial⟩) (⟨⟨500, _, rfl, rfl, rfl, rfl, .inr ⟨rfl, _, rfl, rfl⟩⟩, trivial⟩) (⟨(fun _ => ⟨500, _, rfl, rfl⟩), trivial⟩) rfl) trivial rfl rfl ?_
 refine .nil ?_
 show RetOk _ _ _ _ _ _ _
 exact ret0 rfl (.inr rfl) ⟨rfl, trivial⟩
set_option maxRecDepth 100000 in
theorem ropen_ev12 (b : Bool) (key key2 : List UInt8) (hk2 : key2.length = 32) (n : UInt64) (eo : Nat → Nat × Nat) : Meets Tryd.prog 6 [.ptr 500 0, .aggB key2] [(500, some ⟨dC b key n ([.nilsl, .err 131 (0) (offE eo (0))]), 35, true⟩)] (.tup []) [(500, some ⟨dC true key2 n ([.nilsl, .err 131 (0) (offE eo (0))]), 35, true⟩)] := by
 refine meets_of_ev (nt := 9) Tryd.func6 rfl rfl (Nat.le_of_ble_eq_true rfl) ?_
 refine .seq ?_
 refine .region ?_
 refine .a (op_boxRow rfl rfl) trivial rfl ?_
 refine .nil ?_
 show Ev _ _ _ _ _
 refine .drawnF [[], [0], [0, 1], [], [0, 1, 2, 3]] [3, 4] [] [(3, ([1000], [])), (4, ([], [500]))] (by kernel_rfl) (by kernel_rfl) rfl ?_
 show DK _ [0, 1, 2, 3, 4] _ _ _
 refine .q rfl (op_move rfl) trivial ?_
 refine .q rfl (op_nilCheck rfl) trivial ?_
 refine .q rfl (op_fieldAddr (m := 33) Tryd.underlying35 rfl (by kernel_rfl) rfl) trivial ?_
 refine .as (.ptr 500 0) rfl ?_
 refine .q rfl (op_loadRow Tryd.underlying25 rfl sz25 rfl rfl rfl (hk2)) trivial ?_
 refine .a rfl (op_call (U := [(500, some ⟨dC true key2 n [.nilsl, .err 131 (0) (offE eo (0))], 35, true⟩)]) [(500, 500)] [] (dseal_ev b key key2 hk2 n [.nilsl, .err 131 (0) (offE eo (0))] 35) Tryd.func13 (by kernel_rfl) rfl rfl rfl (⟨⟨_, rfl, rfl, rfl⟩, ⟨_, rfl, rfl, rfl⟩, trivial⟩) (⟨⟨_, _, rfl, rfl, rfl, rfl, id, rfl⟩, trivial⟩) (⟨⟨500, _, rfl, rfl, rfl, rfl, .inr ⟨rfl, _, rfl, rfl⟩⟩, trivial⟩) (⟨(fun _ => ⟨500, _, rfl, rfl⟩), trivial⟩) rfl) trivial rfl rfl ?_
 refine .nil ?_
 show RetOk _ _ _ _ _ _ _
 exact ret0 rfl (.inr rfl) ⟨rfl, trivial⟩
end Go.Proofs.YtidjfinookikcaaDoor
namespace Go.Proofs.YtidjfinookikcaaDoor
open Go.Shelf Go.RowKit Go.Lib
def lays105_ren : Go.Shelf.Ren := ⟨fun | 105 => 24 | 212 => 37 | 99 => 38 | 165 => 39 | 166 => 36 | 170 => 40 | 169 => 26 | 263 => 48 | 264 => 49 | 206 => 50 | 240 => 47 | 241 => 51 | 276 => 66 | 277 => 67 | n => n, fun | 9 => 9 | 3 => 3 | 4 => 4 | 20 => 20 | 0 => 0 | 46 => 85 | 109 => 86 | 5 => 5 | 72 => 53 | 76 => 83 | 51 => 58 | 146 => 99 | 53 => 26 | 148 => 101 | 70 => 51 | 37 => 31 | 75 => 33 | 127 => 90 | 164 => 122 | 80 => 59 | n => n, fun | n => n⟩
theorem lays105 : Go.Proofs.Lays.n105 Tryd.prog lays105_ren := {
  mixed := by kernel_rfl
  f99 := Tryd.func38.trans (congrArg some (by kernel_rfl))
  f105 := Tryd.func24.trans (congrArg some (by kernel_rfl))
  f165 := Tryd.func39.trans (congrArg some (by kernel_rfl))
  f166 := Tryd.func36.trans (congrArg some (by kernel_rfl))
  f169 := Tryd.func26.trans (congrArg some (by kernel_rfl))
  f170 := Tryd.func40.trans (congrArg some (by kernel_rfl))
  f206 := Tryd.func50.trans (congrArg some (by kernel_rfl))
  f212 := Tryd.func37.trans (congrArg some (by kernel_rfl))
  f240 := Tryd.func47.trans (congrArg some (by kernel_rfl))
  f241 := Tryd.func51.trans (congrArg some (by kernel_rfl))
  f263 := Tryd.func48.trans (congrArg some (by kernel_rfl))
  f264 := Tryd.func49.trans (congrArg some (by kernel_rfl))
  f276 := Tryd.func66.trans (congrArg some (by kernel_rfl))
  f277 := Tryd.func67.trans (congrArg some (by kernel_rfl))
  t0 := Tryd.underlying0
  a0 := Tryd.isAgg0
  z0 := Tryd.sizeOf0
  v0 := Tryd.zeroValue0
  t3 := Tryd.underlying3
  a3 := Tryd.isAgg3
  z3 := Tryd.sizeOf3
  v3 := Tryd.zeroValue3
  t4 := Tryd.underlying4
  a4 := Tryd.isAgg4
  z4 := Tryd.sizeOf4
  v4 := Tryd.zeroValue4
  t5 := Tryd.underlying5
  a5 := Tryd.isAgg5
  z5 := Tryd.sizeOf5
  v5 := Tryd.zeroValue5
  t9 := Tryd.underlying9
  a9 := Tryd.isAgg9
  z9 := Tryd.sizeOf9
  v9 := Tryd.zeroValue9
  t20 := Tryd.underlying20
  a20 := Tryd.isAgg20
  z20 := Tryd.sizeOf20
  v20 := Tryd.zeroValue20
  t37 := Tryd.underlying31
  a37 := Tryd.isAgg31
  z37 := Tryd.sizeOf31
  v37 := Tryd.zeroValue31
  t46 := Tryd.underlying85
  a46 := Tryd.isAgg85
  z46 := Tryd.sizeOf85
  v46 := Tryd.zeroValue85
  t51 := Tryd.underlying58
  a51 := Tryd.isAgg58
  z51 := Tryd.sizeOf58
  v51 := Tryd.zeroValue58
  t53 := Tryd.underlying26
  a53 := Tryd.isAgg26
  z53 := Tryd.sizeOf26
  v53 := Tryd.zeroValue26
  t70 := Tryd.underlying51
  a70 := Tryd.isAgg51
  z70 := Tryd.sizeOf51
  v70 := Tryd.zeroValue51
  t72 := Tryd.underlying53
  a72 := Tryd.isAgg53
  z72 := Tryd.sizeOf53
  v72 := Tryd.zeroValue53
  t75 := Tryd.underlying33
  a75 := Tryd.isAgg33
  z75 := Tryd.sizeOf33
  v75 := Tryd.zeroValue33
  t76 := Tryd.underlying83
  a76 := Tryd.isAgg83
  z76 := Tryd.sizeOf83
  v76 := Tryd.zeroValue83
  t109 := Tryd.underlying86
  a109 := Tryd.isAgg86
  z109 := Tryd.sizeOf86
  v109 := Tryd.zeroValue86
  t127 := Tryd.underlying90
  a127 := Tryd.isAgg90
  z127 := Tryd.sizeOf90
  v127 := Tryd.zeroValue90
  t146 := Tryd.underlying99
  a146 := Tryd.isAgg99
  z146 := Tryd.sizeOf99
  v146 := Tryd.zeroValue99
  t148 := Tryd.underlying101
  a148 := Tryd.isAgg101
  z148 := Tryd.sizeOf101
  v148 := Tryd.zeroValue101
  t164 := Tryd.underlying122
  a164 := Tryd.isAgg122
  z164 := Tryd.sizeOf122
  v164 := Tryd.zeroValue122 }
theorem builder_Extra_105 : Builder.Extra Tryd.prog lays105_ren := {
  sizeBuilder := by kernel_rfl
  liesBuilder := by kernel_rfl
  t5 := Tryd.underlying5
  a5 := Tryd.isAgg5
  z5 := Tryd.sizeOf5
  v5 := Tryd.zeroValue5
  infoByte := by kernel_rfl
  cellsByte := by kernel_rfl
  sizeByte := by kernel_rfl
  neB5 := by decide }
theorem strings_Repeat (s : ByteArray) (c : Nat) (w : World) (hc : c ≤ 9223372036854775807) (hlen : s.size * c ≤ 140737488355328) :
    Calls Tryd.prog 24 #[.string s, .int .i64 c] w fun e w' => e = .returned (.string ⟨(Lib.repeatL s.data.toList c).toArray⟩) ∧ Below w.heap.size w w' := Any.strings_Repeat lays105 builder_Extra_105 s c w hc hlen
theorem repeat_z (n : Nat) : Lib.repeatL [0] n = zP n := by
  have := Lib.repeatL_replicate (0 : UInt8) 1 n
  rw [Nat.mul_one] at this; exact this
theorem repeat_ev (n : Nat) (hn : n ≤ 1000000) : Meets Tryd.prog 24 [.str [0], .i64 ((n : Nat) : Int)] [] (.str (zP n)) [] :=
  meets_of_walk fun E S vals w hg hl hr hR => by
    obtain ⟨x, y, rfl, hx, hy⟩ := args2 hl hr
    rw [hx.str_inv, hy.i64_inv]
    refine (strings_Repeat ⟨#[0]⟩ n w (by omega) (by show 1 * n ≤ _; omega)).mono fun e w' hh => ⟨_, hh.1, ?_, hh.2⟩
    rw [show (⟨#[0]⟩ : ByteArray).data.toList = [0] from rfl, repeat_z]
    exact .str _
end Go.Proofs.YtidjfinookikcaaDoor
namespace Go.Proofs.YtidjfinookikcaaDoor
open Go.RowKit
set_option maxRecDepth 100000 in
theorem body_ev (b : Bool) (key : List UInt8) (n : UInt64) (p : List UInt8) (hp : p.length ≤ 100000) : Meets Tryd.prog 14 [.ptr 500 0, .str p] [(500, some ⟨dC b key n ([]), 30, false⟩)] (.str (bodyP b p)) [] := by
 have hpad := padP_le b p.length
 have hah := ahead_le b
 have hz := length_zP (padP b p.length)
 refine meets_of_ev (nt := 31) Tryd.func14 rfl rfl (Nat.le_of_ble_eq_true rfl) ?_
 refine .seq ?_
 refine .region ?_
 refine .q (op_assign rfl) trivial rfl ?_
 refine .nil ?_
 show Ev _ _ _ _ _
 refine .seq ?_
 refine .region ?_
 refine .q (op_move rfl) trivial rfl ?_
 refine .q (op_nilCheck rfl) trivial rfl ?_
 refine .q (op_fieldAddr (m := 33) Tryd.underlying30 rfl (by kernel_rfl) rfl) trivial rfl ?_
 refine .as (.ptr 500 0) rfl ?_
 refine .q (op_call (U := []) [(500, 500)] [] (padded_ev b key n [] 30) Tryd.func21 (by kernel_rfl) rfl rfl rfl (⟨⟨_, rfl, rfl, rfl⟩, trivial⟩) (⟨⟨_, _, rfl, rfl, rfl, rfl, (fun h => by cases h), rfl⟩, trivial⟩) (trivial) (⟨(fun h => by cases h), trivial⟩) rfl) trivial rfl ?_
 refine .q (op_addI rfl rfl ⟨by omega, by omega⟩) trivial rfl ?_
 refine .q (op_move rfl) trivial rfl ?_
 refine .q (op_len_str Tryd.underlying9 rfl) trivial rfl ?_
 refine .q (op_addI rfl rfl ⟨by omega, by omega⟩) trivial rfl ?_
 refine .q (op_addI rfl rfl ⟨by omega, by omega⟩) trivial rfl ?_
 refine .as (.i64 ((aheadP b + 1 + p.length + 4 : Nat) : Int)) (congrArg AV.i64 (by omega)) ?_
 refine .q (op_assign rfl) trivial rfl ?_
 refine .nil ?_
 show Ev _ _ _ _ _
 refine .seq ?_
 refine .region ?_
 refine .q (op_move rfl) trivial rfl ?_
 refine .q (op_remI rfl rfl ⟨by omega, by omega⟩) trivial rfl ?_
 refine .q (op_subI rfl rfl ⟨by omega, by omega⟩) trivial rfl ?_
 refine .q (op_remI rfl rfl ⟨by omega, by omega⟩) trivial rfl ?_
 refine .q (op_addI rfl rfl ⟨by omega, by omega⟩) trivial rfl ?_
 refine .as (.i64 (((padP b p.length) : Nat) : Int)) (congrArg AV.i64 (by unfold padP; omega)) ?_
 refine .q (op_assign rfl) trivial rfl ?_
 refine .nil ?_
 show Ev _ _ _ _ _
 refine .seq ?_
 refine .region ?_
 refine .a (op_allocRow zero55 rel_zero55 rfl) trivial rfl ?_
 refine .nil ?_
 show Ev _ _ _ _ _
 refine .seq ?_
 refine .region ?_
 refine .q (op_move rfl) trivial rfl ?_
 refine .q (op_conv Tryd.underlying3 Tryd.underlying5 rfl rfl) trivial rfl ?_
 refine .a (op_call (U := [(1000, some ⟨.agg [.ptr 1000 0, .sl 1008 0 (1) 1], 55, true⟩), (1008, some ⟨.aggB ([(ofI8 (((padP b p.length) : Nat) : Int))]), 5, true⟩)]) [(500, 1000)] [(1008, 1000)] (byte0_ev (ofI8 (((padP b p.length) : Nat) : Int))) Tryd.func22 (by kernel_rfl) rfl rfl rfl (⟨⟨_, rfl, rfl, rfl⟩, ⟨_, rfl, rfl, rfl⟩, trivial⟩) (⟨⟨_, _, rfl, rfl, rfl, rfl, id, rfl⟩, trivial⟩) (⟨⟨500, _, rfl, rfl, rfl, rfl, .inr ⟨rfl, _, rfl, rfl⟩⟩, ⟨1000, _, rfl, rfl, rfl, rfl, .inl rfl⟩, trivial⟩) (⟨(fun _ => ⟨1000, _, rfl, rfl⟩), trivial⟩) rfl) trivial rfl ?_
 refine .q (op_move rfl) trivial rfl ?_
 refine .a (op_call (U := [(1000, some ⟨.agg [.ptr 1000 0, .sl 1016 0 (1 + p.length) 1], 55, true⟩), (1016, some ⟨.aggB (([(ofI8 (((padP b p.length) : Nat) : Int))]) ++ p), 5, true⟩), (1008, none)]) [(500, 1000), (501, 1008)] [(1016, 1000)] (raw2_ev p (by omega) (([(ofI8 (((padP b p.length) : Nat) : Int))])) (1) (by first | (simp [length_numB, length_zP, length_headP]; done) | (simp [length_numB, length_zP, length_headP]; omega) | omega) (by omega)) Tryd.func23 (by kernel_rfl) rfl rfl rfl (⟨⟨_, rfl, rfl, rfl⟩, ⟨_, rfl, rfl, rfl⟩, trivial⟩) (⟨⟨_, _, rfl, rfl, rfl, rfl, id, rfl⟩, ⟨_, _, rfl, rfl, rfl, rfl, id, rfl⟩, trivial⟩) (⟨⟨500, _, rfl, rfl, rfl, rfl, .inr ⟨rfl, _, rfl, rfl⟩⟩, ⟨1000, _, rfl, rfl, rfl, rfl, .inl rfl⟩, trivial⟩) (⟨(fun _ => ⟨1000, _, rfl, rfl⟩), (fun _ => ⟨1008, _, rfl, rfl⟩), trivial⟩) rfl) trivial rfl ?_
 refine .q (op_move rfl) trivial rfl ?_
 refine .q (op_call (U := []) [] [] (repeat_ev (padP b p.length) (by omega)) Tryd.func24 (by kernel_rfl) rfl rfl rfl (⟨⟨_, rfl, rfl, rfl⟩, ⟨_, rfl, rfl, rfl⟩, trivial⟩) (trivial) (trivial) (trivial) rfl) trivial rfl ?_
 refine .a (op_call (U := [(1000, some ⟨.agg [.ptr 1000 0, .sl 1024 0 (1 + p.length + (zP (padP b p.length)).length) 1], 55, true⟩), (1024, some ⟨.aggB ((([(ofI8 (((padP b p.length) : Nat) : Int))]) ++ p) ++ (zP (padP b p.length))), 5, true⟩), (1016, none)]) [(500, 1000), (501, 1016)] [(1024, 1000)] (raw2_ev (zP (padP b p.length)) (by rw [length_zP]; omega) ((([(ofI8 (((padP b p.length) : Nat) : Int))]) ++ p)) (1 + p.length) (by first | (simp [length_numB, length_zP, length_headP]; done) | (simp [length_numB, length_zP, length_headP]; omega) | omega) (by omega)) Tryd.func23 (by kernel_rfl) rfl rfl rfl (⟨⟨_, rfl, rfl, rfl⟩, ⟨_, rfl, rfl, rfl⟩, trivial⟩) (⟨⟨_, _, rfl, rfl, rfl, rfl, id, rfl⟩, ⟨_, _, rfl, rfl, rfl, rfl, id, rfl⟩, trivial⟩) (⟨⟨500, _, rfl, rfl, rfl, rfl, .inr ⟨rfl, _, rfl, rfl⟩⟩, ⟨1000, _, rfl, rfl, rfl, rfl, .inl rfl⟩, trivial⟩) (⟨(fun _ => ⟨1000, _, rfl, rfl⟩), (fun _ => ⟨1016, _, rfl, rfl⟩), trivial⟩) rfl) trivial rfl ?_
 refine .a (op_call (U := [(1024, some ⟨.aggB (((([(ofI8 (((padP b p.length) : Nat) : Int))]) ++ p) ++ (zP (padP b p.length)))), (frz + 5), false⟩)]) [(500, 1000), (501, 1024)] [] (bytes2_ev (((([(ofI8 (((padP b p.length) : Nat) : Int))]) ++ p) ++ (zP (padP b p.length)))) (1 + p.length + (zP (padP b p.length)).length) (by first | (simp [length_numB, length_zP, length_headP]; done) | (simp [length_numB, length_zP, length_headP]; omega) | omega) (by omega) (by omega)) Tryd.func16 (by kernel_rfl) rfl rfl rfl (⟨⟨_, rfl, rfl, rfl⟩, trivial⟩) (⟨⟨_, _, rfl, rfl, rfl, rfl, (fun h => by cases h), rfl⟩, ⟨_, _, rfl, rfl, rfl, rfl, id, rfl⟩, trivial⟩) (⟨⟨501, _, rfl, rfl, rfl, rfl, .inr ⟨rfl, _, rfl, rfl⟩⟩, trivial⟩) (⟨(fun h => by cases h), (fun _ => ⟨1024, _, rfl, rfl⟩), trivial⟩) rfl) trivial rfl ?_
 refine .q (op_assign rfl) trivial rfl ?_
 refine .nil ?_
 show Ev _ _ _ _ _
 refine .ret ?_
 show RetOk _ _ _ _ _ _ _
 exact ret1v rfl (.inl rfl) rfl rfl trivial
set_option maxRecDepth 100000 in
theorem pack_end (b : Bool) (key : List UInt8) (n : UInt64) (eo : Nat → Nat × Nat) : Meets Tryd.prog 8 [.ptr 500 0, .str []] [(500, some ⟨dC b key n ([]), 30, false⟩), (0, some ⟨.agg [.err 131 (2) (offE eo (2))], errT, false⟩)] (.tup [.str [], .err 131 (2) (offE eo (2))]) [] := by
 refine meets_of_ev (nt := 53) Tryd.func8 rfl rfl (Nat.le_of_ble_eq_true rfl) ?_
 refine .seq ?_
 refine .region ?_
 refine .q (op_assign rfl) trivial rfl ?_
 refine .q (op_assign rfl) trivial rfl ?_
 refine .nil ?_
 show Ev _ _ _ _ _
 refine .seq ?_
 refine .seq ?_
 refine .region ?_
 refine .q (op_move rfl) trivial rfl ?_
 refine .q (op_eqS rfl rfl rfl) trivial rfl ?_
 refine .nil ?_
 show Ev _ _ _ _ _
 refine .cond_true rfl (rfl) ?_
 refine .seq ?_
 refine .drawn [[], [], [0, 1]] [0] [] (by kernel_rfl) (by kernel_rfl) rfl ?_
 show DK _ [0, 1, 2] _ _ _
 refine .q rfl (op_load Tryd.underlying33 rfl rfl rfl rfl (by first | omega | (simp only [AV.len]; omega) | (simp only [AV.len, List.length_set]; omega) | assumption | (simp [AV.len]; done))) trivial ?_
 refine .q rfl (op_assign rfl) trivial ?_
 refine .q rfl (op_assign rfl) trivial ?_
 refine .nil ?_
 show Ev _ _ _ _ _
 refine .ret ?_
 show RetOk _ _ _ _ _ _ _
 exact ret2v rfl (.inl rfl) rfl rfl rfl rfl trivial
set_option maxRecDepth 100000 in
theorem pack_big (b : Bool) (key : List UInt8) (n : UInt64) (p : List UInt8) (h1 : 32768 < p.length) (h2 : p.length ≤ 100000) (eo : Nat → Nat × Nat) : Meets Tryd.prog 8 [.ptr 500 0, .str p] [(500, some ⟨dC b key n ([]), 30, false⟩), (1, some ⟨.agg [.err 131 (4) (offE eo (4))], errT, false⟩)] (.tup [.str [], .err 131 (4) (offE eo (4))]) [] := by
 refine meets_of_ev (nt := 53) Tryd.func8 rfl rfl (Nat.le_of_ble_eq_true rfl) ?_
 refine .seq ?_
 refine .region ?_
 refine .q (op_assign rfl) trivial rfl ?_
 refine .q (op_assign rfl) trivial rfl ?_
 refine .nil ?_
 show Ev _ _ _ _ _
 refine .seq ?_
 refine .seq ?_
 refine .region ?_
 refine .q (op_move rfl) trivial rfl ?_
 refine .q (op_eqS rfl rfl rfl) trivial rfl ?_
 refine .nil ?_
 show Ev _ _ _ _ _
 refine .cond_false rfl (beq_eq_false_iff_ne.2 (fun h => by rw [h] at h1; simp at h1)) ?_
 refine .skip ?_
 show Ev _ _ _ _ _
 refine .seq ?_
 refine .seq ?_
 refine .region ?_
 refine .q (op_move rfl) trivial rfl ?_
 refine .q (op_len_str Tryd.underlying9 rfl) trivial rfl ?_
 refine .q (op_cmpI rfl rfl rfl) trivial rfl ?_
 refine .nil ?_
 show Ev _ _ _ _ _
 refine .cond_true rfl (decide_eq_true (by omega)) ?_
 refine .seq ?_
 refine .drawn [[], [], [0, 1]] [0] [] (by kernel_rfl) (by kernel_rfl) rfl ?_
 show DK _ [0, 1, 2] _ _ _
 refine .q rfl (op_load Tryd.underlying33 rfl rfl rfl rfl (by first | omega | (simp only [AV.len]; omega) | (simp only [AV.len, List.length_set]; omega) | assumption | (simp [AV.len]; done))) trivial ?_
 refine .q rfl (op_assign rfl) trivial ?_
 refine .q rfl (op_assign rfl) trivial ?_
 refine .nil ?_
 show Ev _ _ _ _ _
 refine .ret ?_
 show RetOk _ _ _ _ _ _ _
 exact ret2v rfl (.inl rfl) rfl rfl rfl rfl trivial
set_option maxRecDepth 100000 in
theorem pack_t (e : Nat) (key : List UInt8) (hk : key.length = 32) (n : UInt64) (p : List UInt8) (h1 : 1 ≤ p.length) (h2 : p.length ≤ 32768) (eo : Nat → Nat × Nat) : Meets Tryd.prog 8 [.ptr 500 0, .str p] [(500, some ⟨dC true key n ([]), 30, true⟩), (3, some ⟨.aggI qsTab, e, false⟩)] (.tup [.str (packP true key n p), .err 131 (0) (offE eo (0))]) [(500, some ⟨dC true key (n + 1) ([]), 30, true⟩)] := by
 have hl := length_bodyP true p
 have hpad := padP_le true p.length
 refine meets_of_ev (nt := 53) Tryd.func8 rfl rfl (Nat.le_of_ble_eq_true rfl) ?_
 refine .seq ?_
 refine .region ?_
 refine .q (op_assign rfl) trivial rfl ?_
 refine .q (op_assign rfl) trivial rfl ?_
 refine .nil ?_
 show Ev _ _ _ _ _
 refine .seq ?_
 refine .seq ?_
 refine .region ?_
 refine .q (op_move rfl) trivial rfl ?_
 refine .q (op_eqS rfl rfl rfl) trivial rfl ?_
 refine .nil ?_
 show Ev _ _ _ _ _
 refine .cond_false rfl (beq_eq_false_iff_ne.2 (fun h => by rw [h] at h1; simp at h1)) ?_
 refine .skip ?_
 show Ev _ _ _ _ _
 refine .seq ?_
 refine .seq ?_
 refine .region ?_
 refine .q (op_move rfl) trivial rfl ?_
 refine .q (op_len_str Tryd.underlying9 rfl) trivial rfl ?_
 refine .q (op_cmpI rfl rfl rfl) trivial rfl ?_
 refine .nil ?_
 show Ev _ _ _ _ _
 refine .cond_false rfl (decide_eq_false (by omega)) ?_
 refine .skip ?_
 show Ev _ _ _ _ _
 refine .seq ?_
 refine .region ?_
 refine .q (op_move rfl) trivial rfl ?_
 refine .q (op_move rfl) trivial rfl ?_
 refine .q (op_call (U := []) [(500, 500)] [] (body_ev true key n p (by omega)) Tryd.func14 (by kernel_rfl) rfl rfl rfl (⟨⟨_, rfl, rfl, rfl⟩, ⟨_, rfl, rfl, rfl⟩, trivial⟩) (⟨⟨_, _, rfl, rfl, rfl, rfl, (fun h => by cases h), rfl⟩, trivial⟩) (trivial) (⟨(fun h => by cases h), trivial⟩) rfl) trivial rfl ?_
 refine .q (op_assign rfl) trivial rfl ?_
 refine .nil ?_
 show Ev _ _ _ _ _
 refine .seq ?_
 refine .region ?_
 refine .a (op_allocRow zero55 rel_zero55 rfl) trivial rfl ?_
 refine .nil ?_
 show Ev _ _ _ _ _
 refine .seq ?_
 refine .region ?_
 refine .q (op_move rfl) trivial rfl ?_
 refine .q (op_len_str Tryd.underlying9 rfl) trivial rfl ?_
 refine .q (op_conv Tryd.underlying3 Tryd.underlying58 rfl rfl) trivial rfl ?_
 refine .a (op_call (U := [(1000, some ⟨.agg [.ptr 1000 0, .sl 1008 0 (4) 1], 55, true⟩), (1008, some ⟨.aggB ((headP (bodyP true p).length)), 5, true⟩)]) [(500, 1000)] [(1008, 1000)] (u320_ev (ofI32 (((bodyP true p).length : Nat) : Int))) Tryd.func15 (by kernel_rfl) rfl rfl rfl (⟨⟨_, rfl, rfl, rfl⟩, ⟨_, rfl, rfl, rfl⟩, trivial⟩) (⟨⟨_, _, rfl, rfl, rfl, rfl, id, rfl⟩, trivial⟩) (⟨⟨500, _, rfl, rfl, rfl, rfl, .inr ⟨rfl, _, rfl, rfl⟩⟩, ⟨1000, _, rfl, rfl, rfl, rfl, .inl rfl⟩, trivial⟩) (⟨(fun _ => ⟨1000, _, rfl, rfl⟩), trivial⟩) rfl) trivial rfl ?_
 refine .a (op_call (U := [(1008, some ⟨.aggB (((headP (bodyP true p).length))), (frz + 5), false⟩)]) [(500, 1000), (501, 1008)] [] (bytes2_ev (((headP (bodyP true p).length))) (4) (by first | (simp [length_numB, length_zP, length_headP]; done) | (simp [length_numB, length_zP, length_headP]; omega) | omega) (by omega) (by omega)) Tryd.func16 (by kernel_rfl) rfl rfl rfl (⟨⟨_, rfl, rfl, rfl⟩, trivial⟩) (⟨⟨_, _, rfl, rfl, rfl, rfl, (fun h => by cases h), rfl⟩, ⟨_, _, rfl, rfl, rfl, rfl, id, rfl⟩, trivial⟩) (⟨⟨501, _, rfl, rfl, rfl, rfl, .inr ⟨rfl, _, rfl, rfl⟩⟩, trivial⟩) (⟨(fun h => by cases h), (fun _ => ⟨1008, _, rfl, rfl⟩), trivial⟩) rfl) trivial rfl ?_
 refine .q (op_assign rfl) trivial rfl ?_
 refine .nil ?_
 show Ev _ _ _ _ _
 refine .seq ?_
 refine .seq ?_
 refine .region ?_
 refine .q (op_move rfl) trivial rfl ?_
 refine .q (op_nilCheck rfl) trivial rfl ?_
 refine .q (op_fieldAddr (m := 33) Tryd.underlying30 rfl (by kernel_rfl) rfl) trivial rfl ?_
 refine .as (.ptr 500 0) rfl ?_
 refine .q (op_fieldAddr (m := 0) Tryd.underlying28 rfl (by kernel_rfl) rfl) trivial rfl ?_
 refine .as (.ptr 500 0) rfl ?_
 refine .q (op_load Tryd.underlying4 rfl rfl rfl rfl (dC_lt (by decide))) trivial rfl ?_
 refine .nil ?_
 show Ev _ _ _ _ _
 refine .cond_true rfl (rfl) ?_
 refine .drawn [[], [0], [0, 1], [0, 1, 2], [0, 1, 2, 3], [], [5], [5, 6], [5, 6, 7], [], [], [0, 1, 2, 3, 4, 5, 6, 7, 8, 9, 10], [0, 1, 2, 3, 4, 5, 6, 7, 8, 9, 10, 11]] [4, 8, 11] [] (by kernel_rfl) (by kernel_rfl) rfl ?_
 show DK _ [0, 1, 2, 3, 4, 5, 6, 7, 8, 9, 10, 11, 12] _ _ _
 refine .q rfl (op_move rfl) trivial ?_
 refine .q rfl (op_nilCheck rfl) trivial ?_
 refine .q rfl (op_fieldAddr (m := 33) Tryd.underlying30 rfl (by kernel_rfl) rfl) trivial ?_
 refine .as (.ptr 500 0) rfl ?_
 refine .q rfl (op_fieldAddr (m := 31) Tryd.underlying28 rfl (by kernel_rfl) rfl) trivial ?_
 refine .as (.ptr 500 1) rfl ?_
 refine .q rfl (op_loadPart (m := 32) (r := .aggB key) (cs := key.map .u8) Tryd.underlying25 rfl (by kernel_rfl) rfl rfl rfl (dC_keyL hk) (dC_key hk) (by rw [dC_len]; omega)) trivial ?_
 refine .q rfl (op_move rfl) trivial ?_
 refine .q rfl (op_nilCheck rfl) trivial ?_
 refine .q rfl (op_fieldAddr (m := 33) Tryd.underlying30 rfl (by kernel_rfl) rfl) trivial ?_
 refine .as (.ptr 500 0) rfl ?_
 refine .q rfl (op_call (U := []) [(500, 500)] [] (nonce_ev true key n [] 30) Tryd.func18 (by kernel_rfl) rfl rfl rfl (⟨⟨_, rfl, rfl, rfl⟩, trivial⟩) (⟨⟨_, _, rfl, rfl, rfl, rfl, (fun h => by cases h), rfl⟩, trivial⟩) (trivial) (⟨(fun h => by cases h), trivial⟩) rfl) trivial ?_
 refine .q rfl (op_move rfl) trivial ?_
 refine .q rfl (op_move rfl) trivial ?_
 refine .q rfl (op_call (U := []) [] [] (seal_ev e key (nonceP n) (bodyP true p) (headP (bodyP true p).length) hk (length_nonceP n) (by omega) (by rw [length_headP]; omega)) Tryd.func17 (by kernel_rfl) rfl rfl rfl (⟨⟨_, rfl, rfl, rfl⟩, ⟨_, rfl, rfl, rfl⟩, ⟨_, rfl, rfl, rfl⟩, ⟨_, rfl, rfl, rfl⟩, trivial⟩) (⟨⟨_, _, rfl, rfl, rfl, rfl, (fun h => by cases h), rfl⟩, trivial⟩) (trivial) (⟨(fun h => by cases h), trivial⟩) rfl) trivial ?_
 refine .as (.str (restP true key n p)) rfl ?_
 refine .q rfl (op_assign rfl) trivial ?_
 refine .nil ?_
 show Ev _ _ _ _ _
 refine .seq ?_
 refine .region ?_
 refine .q (op_move rfl) trivial rfl ?_
 refine .q (op_nilCheck rfl) trivial rfl ?_
 refine .q (op_fieldAddr (m := 33) Tryd.underlying30 rfl (by kernel_rfl) rfl) trivial rfl ?_
 refine .as (.ptr 500 0) rfl ?_
 refine .q (op_fieldAddr (m := 0) Tryd.underlying28 rfl (by kernel_rfl) rfl) trivial rfl ?_
 refine .as (.ptr 500 33) rfl ?_
 refine .q (op_load Tryd.underlying26 rfl rfl rfl rfl (dC_lt (by decide))) trivial rfl ?_
 refine .q (op_bin64 rfl rfl rfl) trivial rfl ?_
 refine .q (op_nilCheck rfl) trivial rfl ?_
 refine .q (op_fieldAddr (m := 33) Tryd.underlying30 rfl (by kernel_rfl) rfl) trivial rfl ?_
 refine .as (.ptr 500 0) rfl ?_
 refine .q (op_fieldAddr (m := 0) Tryd.underlying28 rfl (by kernel_rfl) rfl) trivial rfl ?_
 refine .as (.ptr 500 33) rfl ?_
 refine .w (op_store (c' := dC true key (n + 1) []) rfl rfl rfl rfl rfl rfl (dC_lt (by decide))) trivial rfl ?_
 refine .nil ?_
 show Ev _ _ _ _ _
 refine .seq ?_
 refine .region ?_
 refine .q (op_move rfl) trivial rfl ?_
 refine .q (op_move rfl) trivial rfl ?_
 refine .q (op_addS rfl rfl (by rw [length_headP]; rw [length_restP]; simp only [tagP]; omega)) trivial rfl ?_
 refine .as (.str (packP true key n p)) rfl ?_
 refine .q (op_assign rfl) trivial rfl ?_
 refine .q (op_assign rfl) trivial rfl ?_
 refine .asR (.err 131 (0) (offE eo (0))) (nil_err _ _) ?_
 refine .nil ?_
 show Ev _ _ _ _ _
 refine .ret ?_
 show RetOk _ _ _ _ _ _ _
 exact ret2v rfl (.inl rfl) rfl rfl rfl rfl ⟨rfl, trivial⟩
set_option maxRecDepth 100000 in
theorem pack_f (e : Nat) (key : List UInt8) (hk : key.length = 32) (n : UInt64) (p : List UInt8) (h1 : 1 ≤ p.length) (h2 : p.length ≤ 32768) (eo : Nat → Nat × Nat) : Meets Tryd.prog 8 [.ptr 500 0, .str p] [(500, some ⟨dC false key n ([]), 30, true⟩), (3, some ⟨.aggI qsTab, e, false⟩)] (.tup [.str (packP false key n p), .err 131 (0) (offE eo (0))]) [(500, some ⟨dC false key (n + 1) ([]), 30, true⟩)] := by
 have hl := length_bodyP false p
 have hpad := padP_le false p.length
 refine meets_of_ev (nt := 53) Tryd.func8 rfl rfl (Nat.le_of_ble_eq_true rfl) ?_
 refine .seq ?_
 refine .region ?_
 refine .q (op_assign rfl) trivial rfl ?_
 refine .q (op_assign rfl) trivial rfl ?_
 refine .nil ?_
 show Ev _ _ _ _ _
 refine .seq ?_
 refine .seq ?_
 refine .region ?_
 refine .q (op_move rfl) trivial rfl ?_
 refine .q (op_eqS rfl rfl rfl) trivial rfl ?_
 refine .nil ?_
 show Ev _ _ _ _ _
 refine .cond_false rfl (beq_eq_false_iff_ne.2 (fun h => by rw [h] at h1; simp at h1)) ?_
 refine .skip ?_
 show Ev _ _ _ _ _
 refine .seq ?_
 refine .seq ?_
 refine .region ?_
 refine .q (op_move rfl) trivial rfl ?_
 refine .q (op_len_str Tryd.underlying9 rfl) trivial rfl ?_
 refine .q (op_cmpI rfl rfl rfl) trivial rfl ?_
 refine .nil ?_
 show Ev _ _ _ _ _
 refine .cond_false rfl (decide_eq_false (by omega)) ?_
 refine .skip ?_
 show Ev _ _ _ _ _
 refine .seq ?_
 refine .region ?_
 refine .q (op_move rfl) trivial rfl ?_
 refine .q (op_move rfl) trivial rfl ?_
 refine .q (op_call (U := []) [(500, 500)] [] (body_ev false key n p (by omega)) Tryd.func14 (by kernel_rfl) rfl rfl rfl (⟨⟨_, rfl, rfl, rfl⟩, ⟨_, rfl, rfl, rfl⟩, trivial⟩) (⟨⟨_, _, rfl, rfl, rfl, rfl, (fun h => by cases h), rfl⟩, trivial⟩) (trivial) (⟨(fun h => by cases h), trivial⟩) rfl) trivial rfl ?_
 refine .q (op_assign rfl) trivial rfl ?_
 refine .nil ?_
 show Ev _ _ _ _ _
 refine .seq ?_
 refine .region ?_
 refine .a (op_allocRow zero55 rel_zero55 rfl) trivial rfl ?_
 refine .nil ?_
 show Ev _ _ _ _ _
 refine .seq ?_
 refine .region ?_
 refine .q (op_move rfl) trivial rfl ?_
 refine .q (op_len_str Tryd.underlying9 rfl) trivial rfl ?_
 refine .q (op_conv Tryd.underlying3 Tryd.underlying58 rfl rfl) trivial rfl ?_
 refine .a (op_call (U := [(1000, some ⟨.agg [.ptr 1000 0, .sl 1008 0 (4) 1], 55, true⟩), (1008, some ⟨.aggB ((headP (bodyP false p).length)), 5, true⟩)]) [(500, 1000)] [(1008, 1000)] (u320_ev (ofI32 (((bodyP false p).length : Nat) : Int))) Tryd.func15 (by kernel_rfl) rfl rfl rfl (⟨⟨_, rfl, rfl, rfl⟩, ⟨_, rfl, rfl, rfl⟩, trivial⟩) (⟨⟨_, _, rfl, rfl, rfl, rfl, id, rfl⟩, trivial⟩) (⟨⟨500, _, rfl, rfl, rfl, rfl, .inr ⟨rfl, _, rfl, rfl⟩⟩, ⟨1000, _, rfl, rfl, rfl, rfl, .inl rfl⟩, trivial⟩) (⟨(fun _ => ⟨1000, _, rfl, rfl⟩), trivial⟩) rfl) trivial rfl ?_
 refine .a (op_call (U := [(1008, some ⟨.aggB (((headP (bodyP false p).length))), (frz + 5), false⟩)]) [(500, 1000), (501, 1008)] [] (bytes2_ev (((headP (bodyP false p).length))) (4) (by first | (simp [length_numB, length_zP, length_headP]; done) | (simp [length_numB, length_zP, length_headP]; omega) | omega) (by omega) (by omega)) Tryd.func16 (by kernel_rfl) rfl rfl rfl (⟨⟨_, rfl, rfl, rfl⟩, trivial⟩) (⟨⟨_, _, rfl, rfl, rfl, rfl, (fun h => by cases h), rfl⟩, ⟨_, _, rfl, rfl, rfl, rfl, id, rfl⟩, trivial⟩) (⟨⟨501, _, rfl, rfl, rfl, rfl, .inr ⟨rfl, _, rfl, rfl⟩⟩, trivial⟩) (⟨(fun h => by cases h), (fun _ => ⟨1008, _, rfl, rfl⟩), trivial⟩) rfl) trivial rfl ?_
 refine .q (op_assign rfl) trivial rfl ?_
 refine .nil ?_
 show Ev _ _ _ _ _
 refine .seq ?_
 refine .seq ?_
 refine .region ?_
 refine .q (op_move rfl) trivial rfl ?_
 refine .q (op_nilCheck rfl) trivial rfl ?_
 refine .q (op_fieldAddr (m := 33) Tryd.underlying30 rfl (by kernel_rfl) rfl) trivial rfl ?_
 refine .as (.ptr 500 0) rfl ?_
 refine .q (op_fieldAddr (m := 0) Tryd.underlying28 rfl (by kernel_rfl) rfl) trivial rfl ?_
 refine .as (.ptr 500 0) rfl ?_
 refine .q (op_load Tryd.underlying4 rfl rfl rfl rfl (dC_lt (by decide))) trivial rfl ?_
 refine .nil ?_
 show Ev _ _ _ _ _
 refine .cond_false rfl (rfl) ?_
 refine .skip ?_
 show Ev _ _ _ _ _
 refine .seq ?_
 refine .region ?_
 refine .q (op_move rfl) trivial rfl ?_
 refine .q (op_nilCheck rfl) trivial rfl ?_
 refine .q (op_fieldAddr (m := 33) Tryd.underlying30 rfl (by kernel_rfl) rfl) trivial rfl ?_
 refine .as (.ptr 500 0) rfl ?_
 refine .q (op_fieldAddr (m := 0) Tryd.underlying28 rfl (by kernel_rfl) rfl) trivial rfl ?_
 refine .as (.ptr 500 33) rfl ?_
 refine .q (op_load Tryd.underlying26 rfl rfl rfl rfl (dC_lt (by decide))) trivial rfl ?_
 refine .q (op_bin64 rfl rfl rfl) trivial rfl ?_
 refine .q (op_nilCheck rfl) trivial rfl ?_
 refine .q (op_fieldAddr (m := 33) Tryd.underlying30 rfl (by kernel_rfl) rfl) trivial rfl ?_
 refine .as (.ptr 500 0) rfl ?_
 refine .q (op_fieldAddr (m := 0) Tryd.underlying28 rfl (by kernel_rfl) rfl) trivial rfl ?_
 refine .as (.ptr 500 33) rfl ?_
 refine .w (op_store (c' := dC false key (n + 1) []) rfl rfl rfl rfl rfl rfl (dC_lt (by decide))) trivial rfl ?_
 refine .nil ?_
 show Ev _ _ _ _ _
 refine .seq ?_
 refine .region ?_
 refine .q (op_move rfl) trivial rfl ?_
 refine .q (op_move rfl) trivial rfl ?_
 refine .q (op_addS rfl rfl (by rw [length_headP]; skip; omega)) trivial rfl ?_
 refine .as (.str (packP false key n p)) rfl ?_
 refine .q (op_assign rfl) trivial rfl ?_
 refine .q (op_assign rfl) trivial rfl ?_
 refine .asR (.err 131 (0) (offE eo (0))) (nil_err _ _) ?_
 refine .nil ?_
 show Ev _ _ _ _ _
 refine .ret ?_
 show RetOk _ _ _ _ _ _ _
 exact ret2v rfl (.inl rfl) rfl rfl rfl rfl ⟨rfl, trivial⟩
end Go.Proofs.YtidjfinookikcaaDoor
