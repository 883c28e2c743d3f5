/-
  Texts of this claim.
-/
import Derived.Test.YtdmlpblaelfdmaaGreatDoorGYS
import Derived.Test.YtdmlpblaelfdmaaGreatDoorGPCS
import Derived.Test.YtdmlpblaelfdmaaGreatDoorGES
import Derived.Test.YtdmlpblaelfdmaaGreatDoorGE2S
namespace Go.Proofs.YtdmlpblaelfdmaaGreatDoor
open Go.RowKit
theorem shl8B (n : UInt64) (b : UInt8) (h : n.toNat < 2 ^ 56) : (n <<< UInt64.ofNat 8 ||| b.toUInt64).toNat = n.toNat * 256 + b.toNat := by
  have hb := b.toNat_lt
  rw [UInt64.toNat_or, UInt64.toNat_shiftLeft]
  have e : (UInt64.ofNat 8).toNat % 64 = 8 := rfl
  rw [e, UInt8.toNat_toUInt64, Nat.mod_eq_of_lt (by rw [Nat.shiftLeft_eq]; omega), Nat.shiftLeft_eq]
  rw [show n.toNat * 2 ^ 8 = 2 ^ 8 * n.toNat by omega]
  have hq : b.toNat < 2 ^ 8 := hb
  rw [← Nat.two_pow_add_eq_or_of_lt hq]
theorem byteAtB (x : UInt64) (k : Nat) (hk : k < 64) : (x >>> UInt64.ofNat k).toUInt8.toNat = x.toNat / 2 ^ k % 256 := by
  rw [UInt64.toNat_toUInt8, UInt64.toNat_shiftRight]
  have e : (UInt64.ofNat k).toNat % 64 = k := by
    rw [UInt64.toNat_ofNat_of_lt' (by simp [UInt64.size]; omega)]; exact Nat.mod_eq_of_lt hk
  rw [e, Nat.shiftRight_eq_div_pow]
theorem num4B (x : UInt64) : numB x 4 4 = [(x >>> UInt64.ofNat 24).toUInt8, (x >>> UInt64.ofNat 16).toUInt8, (x >>> UInt64.ofNat 8).toUInt8, (x >>> UInt64.ofNat 0).toUInt8] := rfl
theorem num8B (x : UInt64) : numB x 8 8 = [(x >>> UInt64.ofNat 56).toUInt8, (x >>> UInt64.ofNat 48).toUInt8, (x >>> UInt64.ofNat 40).toUInt8, (x >>> UInt64.ofNat 32).toUInt8, (x >>> UInt64.ofNat 24).toUInt8, (x >>> UInt64.ofNat 16).toUInt8, (x >>> UInt64.ofNat 8).toUInt8, (x >>> UInt64.ofNat 0).toUInt8] := rfl
theorem numV4B (a b c d : UInt8) : (numV [a, b, c, d]).toNat = ((a.toNat * 256 + b.toNat) * 256 + c.toNat) * 256 + d.toNat := by
  have ha := a.toNat_lt
  have hb := b.toNat_lt
  have hc := c.toNat_lt
  show (numL [a, b, c, d] 4).toNat = _
  have h1 : (numL [a, b, c, d] 1).toNat = a.toNat := by
    show ((0 : UInt64) <<< UInt64.ofNat 8 ||| a.toUInt64).toNat = _
    rw [shl8B _ _ (show (0 : UInt64).toNat < 2 ^ 56 by decide)]
    show (0 : UInt64).toNat * 256 + _ = _
    simp
  have h2 : (numL [a, b, c, d] 2).toNat = a.toNat * 256 + b.toNat := by
    show (numL [a, b, c, d] 1 <<< UInt64.ofNat 8 ||| b.toUInt64).toNat = _
    rw [shl8B _ _ (by rw [h1]; omega), h1]
  have h3 : (numL [a, b, c, d] 3).toNat = (a.toNat * 256 + b.toNat) * 256 + c.toNat := by
    show (numL [a, b, c, d] 2 <<< UInt64.ofNat 8 ||| c.toUInt64).toNat = _
    rw [shl8B _ _ (by rw [h2]; omega), h2]
  show (numL [a, b, c, d] 3 <<< UInt64.ofNat 8 ||| d.toUInt64).toNat = _
  rw [shl8B _ _ (by rw [h3]; omega), h3]
theorem numV_num4B (x : UInt32) : (numV (numB x.toUInt64 4 4)).toUInt32 = x := by
  apply UInt32.toNat_inj.1
  rw [UInt64.toNat_toUInt32, num4B, numV4B, byteAtB _ _ (by decide), byteAtB _ _ (by decide), byteAtB _ _ (by decide), byteAtB _ _ (by decide), UInt32.toNat_toUInt64]
  have := x.toNat_lt
  omega
/-- The reference's bytes of a number. -/
def dvB (x : UInt64) : Nat → UInt64
  | 0 => x
  | k + 1 => dvB x k / 256
def tlB (x : UInt64) : Nat → List UInt8
  | 0 => []
  | k + 1 => (dvB x k % 256).toUInt8 :: tlB x k
theorem length_tlB (x : UInt64) (k : Nat) : (tlB x k).length = k := by induction k with | zero => rfl | succ k ih => simp [tlB, ih]
theorem dvB_nat (x : UInt64) (k : Nat) : (dvB x k).toNat = x.toNat / 256 ^ k := by
  induction k with
  | zero => simp [dvB]
  | succ k ih =>
    show (dvB x k / 256).toNat = _
    rw [UInt64.toNat_div, ih, Nat.pow_succ, Nat.div_div_eq_div_mul]; rfl
theorem dvB_byte (x : UInt64) (k : Nat) (hk : 8 * k < 64) : (dvB x k % 256).toUInt8 = (x >>> UInt64.ofNat (8 * k)).toUInt8 := by
  apply UInt8.toNat_inj.1
  rw [byteAtB _ _ hk, UInt64.toNat_toUInt8, UInt64.toNat_mod, dvB_nat, Nat.pow_mul]
  show _ / 256 ^ k % 256 % 256 = _ / 256 ^ k % 256
  omega
theorem tl4B (x : UInt64) : tlB x 4 = numB x 4 4 := by
  rw [num4B]
  show [(dvB x 3 % 256).toUInt8, (dvB x 2 % 256).toUInt8, (dvB x 1 % 256).toUInt8, (dvB x 0 % 256).toUInt8] = _
  rw [dvB_byte x 3 (by decide), dvB_byte x 2 (by decide), dvB_byte x 1 (by decide), dvB_byte x 0 (by decide)]
theorem tl8B (x : UInt64) : tlB x 8 = numB x 8 8 := by
  rw [num8B]
  show [(dvB x 7 % 256).toUInt8, (dvB x 6 % 256).toUInt8, (dvB x 5 % 256).toUInt8, (dvB x 4 % 256).toUInt8, (dvB x 3 % 256).toUInt8, (dvB x 2 % 256).toUInt8, (dvB x 1 % 256).toUInt8, (dvB x 0 % 256).toUInt8] = _
  rw [dvB_byte x 7 (by decide), dvB_byte x 6 (by decide), dvB_byte x 5 (by decide), dvB_byte x 4 (by decide), dvB_byte x 3 (by decide), dvB_byte x 2 (by decide), dvB_byte x 1 (by decide), dvB_byte x 0 (by decide)]

/-- How many bytes ahead of a body are padded with it. -/
def aheadP : Bool → Nat
  | true => 0
  | false => 4
def padP (b : Bool) (n : Nat) : Nat := 4 + (8 - (aheadP b + 1 + n + 4) % 8) % 8
theorem padP_le (b : Bool) (n : Nat) : 4 ≤ padP b n ∧ padP b n ≤ 11 := by unfold padP; omega
theorem padP_mul (b : Bool) (n : Nat) : (aheadP b + 1 + n + padP b n) % 8 = 0 := by unfold padP; omega
theorem ahead_le (b : Bool) : aheadP b ≤ 4 := by cases b <;> decide
def zP (k : Nat) : List UInt8 := List.replicate k 0
theorem length_zP (k : Nat) : (zP k).length = k := List.length_replicate ..
def bodyP (b : Bool) (p : List UInt8) : List UInt8 := [ofI8 ((padP b p.length : Nat) : Int)] ++ p ++ zP (padP b p.length)
theorem length_bodyP (b : Bool) (p : List UInt8) : (bodyP b p).length = 1 + p.length + padP b p.length := by simp [bodyP, length_zP]; omega
def headP (n : Nat) : List UInt8 := numB (ofI32 ((n : Nat) : Int)).toUInt64 4 4
theorem length_headP (n : Nat) : (headP n).length = 4 := length_numB _ _ _
def nonceP (n : UInt64) : List UInt8 := numB (UInt32.toUInt64 0) 4 4 ++ numB n 8 8
theorem length_nonceP (n : UInt64) : (nonceP n).length = 12 := by simp [nonceP, length_numB]
/-- What follows the head of a packet. -/
def restP (b : Bool) (key : List UInt8) (n : UInt64) (p : List UInt8) : List UInt8 :=
  match b with
  | true => sealL key (nonceP n) (bodyP true p) (headP (bodyP true p).length)
  | false => bodyP false p
def packP (b : Bool) (key : List UInt8) (n : UInt64) (p : List UInt8) : List UInt8 := headP (bodyP b p).length ++ restP b key n p
def tagP : Bool → Nat
  | true => 16
  | false => 0
theorem length_sealP (key nonce text extra : List UInt8) : (sealL key nonce text extra).length = text.length + 16 := by unfold sealL; rw [List.length_append, length_cXor, length_tagL]
theorem length_restP (b : Bool) (key : List UInt8) (n : UInt64) (p : List UInt8) : (restP b key n p).length = (bodyP b p).length + tagP b := by cases b <;> simp [restP, tagP, length_sealP]
theorem length_packP (b : Bool) (key : List UInt8) (n : UInt64) (p : List UInt8) : (packP b key n p).length = 5 + p.length + padP b p.length + tagP b := by
  unfold packP
  rw [List.length_append, length_headP, length_restP, length_bodyP]; omega

/-- What the first four bytes say. -/
def lenP (s : List UInt8) : Nat := (numV (s.take 4)).toUInt32.toNat
def leastP : Bool → Nat
  | true => 8
  | false => 12
def sizeP (b : Bool) (s : List UInt8) : Nat := 4 + lenP s + tagP b
def boxP (b : Bool) (s : List UInt8) : List UInt8 := (s.drop 4).take (sizeP b s - 4)
/-- A body that is opened, and the error's number. -/
def openP (b : Bool) (key : List UInt8) (n : UInt64) (box head : List UInt8) : List UInt8 × Nat :=
  match b with
  | true => if box.drop (box.length - 16) = tagL key (nonceP n) (box.take (box.length - 16)) head then (cXor key (UInt32.ofNat 1) (nonceP n) (box.take (box.length - 16)), 0) else ([], 5)
  | false => (box, 0)
def unpadP (y : List UInt8) : List UInt8 × Nat := if (y.getD 0 0).toNat < 4 ∨ y.length ≤ 1 + (y.getD 0 0).toNat then ([], 3) else ((y.take (y.length - (y.getD 0 0).toNat)).drop 1, 0)
def badP (b : Bool) (s : List UInt8) : Nat := if 33024 < lenP s then 4 else if lenP s < leastP b ∨ (aheadP b + lenP s) % 8 ≠ 0 then 3 else 0
/-- The first payload, its packet's size (0: it isn't there), the error's number. -/
def firstP (b : Bool) (key : List UInt8) (n : UInt64) (s : List UInt8) : List UInt8 × Nat × Nat :=
  if s.length < 4 then ([], 0, 0)
  else if badP b s ≠ 0 then ([], 0, badP b s)
  else if s.length < sizeP b s then ([], 0, 0)
  else if (openP b key n (boxP b s) (s.take 4)).2 ≠ 0 then ([], 0, (openP b key n (boxP b s) (s.take 4)).2)
  else ((unpadP (openP b key n (boxP b s) (s.take 4)).1).1, sizeP b s, (unpadP (openP b key n (boxP b s) (s.take 4)).1).2)
theorem lenP_head (n : Nat) (hn : n < 4294967296) (r : List UInt8) : lenP (headP n ++ r) = n := by
  unfold lenP
  rw [List.take_append_of_le_length (by rw [length_headP]; omega), List.take_of_length_le (by rw [length_headP]; omega)]
  show (numV (numB (ofI32 _).toUInt64 4 4)).toUInt32.toNat = n
  rw [numV_num4B]
  have := ofI32_toNat (n : Int)
  omega
theorem bad_head (b : Bool) (p r : List UInt8) (h1 : 1 ≤ p.length) (h2 : p.length ≤ 32768) : badP b (headP (bodyP b p).length ++ r) = 0 := by
  have hl := length_bodyP b p
  have h3 := padP_le b p.length
  have h4 := padP_mul b p.length
  unfold badP
  rw [lenP_head _ (by omega), if_neg (by omega), if_neg]
  cases b <;> simp only [aheadP, leastP] at * <;> omega
theorem unpad_body (b : Bool) (p : List UInt8) (h1 : 1 ≤ p.length) : unpadP (bodyP b p) = (p, 0) := by
  have h3 := padP_le b p.length
  have h0 : ((bodyP b p).getD 0 0).toNat = padP b p.length := by
    show (ofI8 _).toNat = _
    have := ofI8_toNat ((padP b p.length : Nat) : Int)
    omega
  have hl := length_bodyP b p
  unfold unpadP
  rw [h0, if_neg (by omega)]
  congr 1
  rw [hl, show 1 + p.length + padP b p.length - padP b p.length = 1 + p.length by omega]
  unfold bodyP
  rw [List.take_append_of_le_length (by simp; omega), List.take_of_length_le (by simp; omega)]
  rfl
theorem open_seal (key nonce text extra : List UInt8) : (sealL key nonce text extra).drop ((sealL key nonce text extra).length - 16) = tagL key nonce ((sealL key nonce text extra).take ((sealL key nonce text extra).length - 16)) extra ∧
    cXor key (UInt32.ofNat 1) nonce ((sealL key nonce text extra).take ((sealL key nonce text extra).length - 16)) = text := by
  have h := length_cXor key (UInt32.ofNat 1) nonce text
  have e1 : (sealL key nonce text extra).take ((sealL key nonce text extra).length - 16) = cXor key (UInt32.ofNat 1) nonce text := by
    rw [length_sealP]; unfold sealL
    rw [List.take_append_of_le_length (by omega), List.take_of_length_le (by omega)]
  have e2 : (sealL key nonce text extra).drop ((sealL key nonce text extra).length - 16) = tagL key nonce (cXor key (UInt32.ofNat 1) nonce text) extra := by
    rw [length_sealP]; unfold sealL
    rw [List.drop_append_of_le_length (by omega), List.drop_of_length_le (by omega), List.nil_append]
  rw [e1, e2]
  exact ⟨rfl, cXor_twice _ _ _ _⟩
theorem open_rest (b : Bool) (key : List UInt8) (n : UInt64) (p : List UInt8) : openP b key n (restP b key n p) (headP (bodyP b p).length) = (bodyP b p, 0) := by
  cases b with
  | false => rfl
  | true =>
    obtain ⟨e1, e2⟩ := open_seal key (nonceP n) (bodyP true p) (headP (bodyP true p).length)
    refine (if_pos e1).trans ?_
    exact congrArg (fun z => (z, 0)) e2
theorem size_pack (b : Bool) (key : List UInt8) (n : UInt64) (p r : List UInt8) (h2 : p.length ≤ 32768) : sizeP b (packP b key n p ++ r) = (packP b key n p).length := by
  have hl := length_bodyP b p
  have h3 := padP_le b p.length
  unfold sizeP
  rw [length_packP, packP, List.append_assoc, lenP_head _ (by omega), hl]; omega
/-- A packet that was written is read. -/
theorem first_pack (b : Bool) (key : List UInt8) (n : UInt64) (p r : List UInt8) (h1 : 1 ≤ p.length) (h2 : p.length ≤ 32768) : firstP b key n (packP b key n p ++ r) = (p, (packP b key n p).length, 0) := by
  have hs := size_pack b key n p r h2
  have hl := length_packP b key n p
  have hb : badP b (packP b key n p ++ r) = 0 := by rw [packP, List.append_assoc]; exact bad_head b p _ h1 h2
  have ht : (packP b key n p ++ r).take 4 = headP (bodyP b p).length := by
    rw [packP, List.append_assoc, List.take_append_of_le_length (by rw [length_headP]; omega), List.take_of_length_le (by rw [length_headP]; omega)]
  have hx : boxP b (packP b key n p ++ r) = restP b key n p := by
    unfold boxP
    rw [hs, length_packP, packP, List.append_assoc, List.drop_append_of_le_length (by rw [length_headP]; omega), List.drop_of_length_le (by rw [length_headP]; omega), List.nil_append,
      List.take_append_of_le_length (by rw [length_restP, length_bodyP]; omega), List.take_of_length_le (by rw [length_restP, length_bodyP]; omega)]
  unfold firstP
  rw [if_neg (by rw [List.length_append]; omega), if_neg (by rw [hb]; decide), if_neg (by rw [hs, List.length_append]; omega), hx, ht, open_rest]
  simp only [ne_eq, not_true_eq_false, if_false, unpad_body b p h1, hs]
end Go.Proofs.YtdmlpblaelfdmaaGreatDoor
namespace Go.Proofs.YtdmlpblaelfdmaaGreatDoor
open Go.RowKit
/-- A key's cells, one by one. -/
def kC (key : List UInt8) : List AV := [.u8 (key.getD 0 0), .u8 (key.getD 1 0), .u8 (key.getD 2 0), .u8 (key.getD 3 0), .u8 (key.getD 4 0), .u8 (key.getD 5 0), .u8 (key.getD 6 0), .u8 (key.getD 7 0), .u8 (key.getD 8 0), .u8 (key.getD 9 0), .u8 (key.getD 10 0), .u8 (key.getD 11 0), .u8 (key.getD 12 0), .u8 (key.getD 13 0), .u8 (key.getD 14 0), .u8 (key.getD 15 0), .u8 (key.getD 16 0), .u8 (key.getD 17 0), .u8 (key.getD 18 0), .u8 (key.getD 19 0), .u8 (key.getD 20 0), .u8 (key.getD 21 0), .u8 (key.getD 22 0), .u8 (key.getD 23 0), .u8 (key.getD 24 0), .u8 (key.getD 25 0), .u8 (key.getD 26 0), .u8 (key.getD 27 0), .u8 (key.getD 28 0), .u8 (key.getD 29 0), .u8 (key.getD 30 0), .u8 (key.getD 31 0)]
theorem kC_eq {key : List UInt8} (h : key.length = 32) : kC key = key.map .u8 := by
  refine List.ext_getElem? fun i => ?_
  rw [List.getElem?_map]
  by_cases hi : i < 32
  · have hi2 : i < key.length := by omega
    rw [List.getElem?_eq_getElem hi2]
    have e : ∀ j, j < 32 → (kC key)[j]? = some (.u8 (key.getD j 0)) := by
      intro j hj
      have : ∀ q : Fin 32, (kC key)[q.1]? = some (AV.u8 (key.getD q.1 0)) := by
        intro q
        match q with
        | ⟨0, _⟩ => rfl
        | ⟨1, _⟩ => rfl
        | ⟨2, _⟩ => rfl
        | ⟨3, _⟩ => rfl
        | ⟨4, _⟩ => rfl
        | ⟨5, _⟩ => rfl
        | ⟨6, _⟩ => rfl
        | ⟨7, _⟩ => rfl
        | ⟨8, _⟩ => rfl
        | ⟨9, _⟩ => rfl
        | ⟨10, _⟩ => rfl
        | ⟨11, _⟩ => rfl
        | ⟨12, _⟩ => rfl
        | ⟨13, _⟩ => rfl
        | ⟨14, _⟩ => rfl
        | ⟨15, _⟩ => rfl
        | ⟨16, _⟩ => rfl
        | ⟨17, _⟩ => rfl
        | ⟨18, _⟩ => rfl
        | ⟨19, _⟩ => rfl
        | ⟨20, _⟩ => rfl
        | ⟨21, _⟩ => rfl
        | ⟨22, _⟩ => rfl
        | ⟨23, _⟩ => rfl
        | ⟨24, _⟩ => rfl
        | ⟨25, _⟩ => rfl
        | ⟨26, _⟩ => rfl
        | ⟨27, _⟩ => rfl
        | ⟨28, _⟩ => rfl
        | ⟨29, _⟩ => rfl
        | ⟨30, _⟩ => rfl
        | ⟨31, _⟩ => rfl
        | ⟨m + 32, hm⟩ => exact absurd hm (by omega)
      exact this ⟨j, hj⟩
    rw [e i hi, List.getD_eq_getElem?_getD, List.getElem?_eq_getElem hi2]; rfl
  · rw [List.getElem?_eq_none (show (kC key).length ≤ i from Nat.le_of_not_lt hi), List.getElem?_eq_none (by omega)]; rfl
/-- A direction's cells, and what stands behind them. -/
def dC (b : Bool) (key : List UInt8) (n : UInt64) (tl : List AV) : AV := .agg (.bool b :: (kC key ++ (.u64 n :: tl)))
section
variable {b : Bool} {key : List UInt8} {n : UInt64} {tl : List AV}
theorem dC_len : (dC b key n tl).len = 34 + tl.length := by
  show (AV.bool b :: (kC key ++ (.u64 n :: tl))).length = _
  simp [kC]; omega
theorem dC_lt {i : Nat} (h : i < 34) : i < (dC b key n tl).len := by rw [dC_len]; omega
theorem dC_ltt {i : Nat} (h : i < tl.length) : 34 + i < (dC b key n tl).len := by rw [dC_len]; omega
theorem dC_key (h : key.length = 32) : key.map AV.u8 = ((dC b key n tl).list.drop 1).take 32 := by rw [← kC_eq h]; rfl
theorem dC_part {key' : List UInt8} (h : key'.length = 32) : (dC b key' n tl).list = (dC b key n tl).list.take 1 ++ (key'.map AV.u8 ++ (dC b key n tl).list.drop 33) := by rw [← kC_eq h]; rfl
theorem dC_keyL (h : key.length = 32) : (key.map AV.u8).length = 32 := by rw [List.length_map, h]
end
end Go.Proofs.YtdmlpblaelfdmaaGreatDoor
namespace Go.Proofs.YtdmlpblaelfdmaaGreatDoor
open Go.RowKit
section
variable {P : Program} {T : Nat → Option AV} {H : Hp} {nm : Nat} {wr : Bool} {d : Option Tmp} {ty t t2 e : TypeId} {ps : String} {af : Array Edge} {gd : Option (Nat × Bool)} {x : Operand} {b o : Nat} {k : ABlk}
end
/-- A payload, or a key from which on it is sealed. -/
structure ItemV where
  lock : Bool
  key : List UInt8
  s : List UInt8
  hk : key.length = 32
  hs : s.length ≤ maxLen
instance : Inhabited ItemV := ⟨⟨false, List.replicate 32 0, [], rfl, Nat.zero_le _⟩⟩
def ksP (b : Bool) (key : List UInt8) : List UInt8 := match b with
  | true => key
  | false => []
theorem ofI64_succ (n : Nat) : ofI64 (n : Int) + 1 = ofI64 ((n + 1 : Nat) : Int) := by
  apply UInt64.toNat_inj.1
  have h1 := ofI64_toNat (n : Int)
  have h2 := ofI64_toNat ((n + 1 : Nat) : Int)
  rw [UInt64.toNat_add, show (1 : UInt64).toNat = 1 from rfl]
  omega
end Go.Proofs.YtdmlpblaelfdmaaGreatDoor
