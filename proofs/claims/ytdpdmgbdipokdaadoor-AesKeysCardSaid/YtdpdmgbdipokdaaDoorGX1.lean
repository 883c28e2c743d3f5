/-
  Texts of this claim.
-/
import Derived.Test.YtdpdmgbdipokdaaDoorGTH
namespace Go.Proofs.YtdpdmgbdipokdaaDoor
open Go.RowKit
/-- A list of n bytes by a function. -/
def rgL (n : Nat) (f : Nat → UInt8) : List UInt8 := (List.range n).map f
theorem length_rgL (n : Nat) (f : Nat → UInt8) : (rgL n f).length = n := by simp [rgL]
theorem rgL_get (n : Nat) (f : Nat → UInt8) (i : Nat) (h : i < n) : (rgL n f).getD i 0 = f i := by
  simp [rgL, List.getD_eq_getElem?_getD, h]
theorem rgL_eq (l : List UInt8) (n : Nat) (h : l.length = n) : rgL n (fun i => l.getD i 0) = l := by
  subst h
  refine List.ext_getElem? fun i => ?_
  unfold rgL
  by_cases hi : i < l.length
  · simp [hi]
  · rw [List.getElem?_eq_none (by simp; omega), List.getElem?_eq_none (by omega)]
theorem rgL_congr {n : Nat} {f g : Nat → UInt8} (h : ∀ i, i < n → f i = g i) : rgL n f = rgL n g := by
  unfold rgL
  exact List.map_congr_left fun i hi => h i (List.mem_range.1 hi)
theorem rgL_succ (n : Nat) (f : Nat → UInt8) : rgL (n + 1) f = rgL n f ++ [f n] := by simp [rgL, List.range_succ]
/-- The first k bytes of a list turned to what a function says. -/
def mpU (f : Nat → UInt8) (l : List UInt8) (k : Nat) : List UInt8 := rgL k f ++ l.drop k
theorem length_mpU (f : Nat → UInt8) (l : List UInt8) (k : Nat) (h : k ≤ l.length) : (mpU f l k).length = l.length := by simp [mpU, length_rgL]; omega
theorem mpU_zero (f : Nat → UInt8) (l : List UInt8) : mpU f l 0 = l := by simp [mpU, rgL]
theorem mpU_all (f : Nat → UInt8) (l : List UInt8) (n : Nat) (h : l.length = n) : mpU f l n = rgL n f := by
  subst h; simp [mpU]
theorem mpU_get (f : Nat → UInt8) (l : List UInt8) (k i : Nat) (hi : k ≤ i) : (mpU f l k).getD i 0 = l.getD i 0 := by
  simp only [mpU, List.getD_eq_getElem?_getD]
  rw [List.getElem?_append_right (by rw [length_rgL]; omega), length_rgL, List.getElem?_drop]
  congr 2; omega
theorem mpU_set (f : Nat → UInt8) (l : List UInt8) (k : Nat) (v : UInt8) (hk : k < l.length) (hv : v = f k) : (mpU f l k).set k v = mpU f l (k + 1) := by
  subst hv
  simp only [mpU]
  rw [List.set_append_right _ _ (by rw [length_rgL]; omega), length_rgL, rgL_succ, List.append_assoc]
  congr 1
  rw [Nat.sub_self]
  have e : l.drop k = l[k] :: l.drop (k + 1) := by rw [List.drop_eq_getElem_cons hk]
  rw [e]; rfl

/-- The product of a byte and the polynomial x. -/
def dbl (b : UInt8) : UInt8 := (b <<< UInt8.ofNat 1) ^^^ ((b >>> UInt8.ofNat 7) * UInt8.ofNat 27)
def rot8 (b : UInt8) (n : Nat) : UInt8 := (b <<< UInt8.ofNat n) ||| (b >>> UInt8.ofNat (8 - n))
def sprN (b : UInt8) : Nat → UInt8
  | 0 => b ^^^ UInt8.ofNat 99
  | k + 1 => sprN b k ^^^ rot8 b (k + 1)
def spr (b : UInt8) : UInt8 := sprN b 4
/-- The powers of 3. -/
def pwr : Nat → UInt8
  | 0 => 1
  | k + 1 => pwr k ^^^ dbl (pwr k)
def pwL : List UInt8 := rgL 256 pwr
def bxA : Nat → List UInt8
  | 0 => (List.replicate 512 0).set 0 (spr 0)
  | i + 1 => (bxA i).set (pwL.getD i 0).toNat (spr (pwL.getD (255 - i) 0))
def bxB : Nat → List UInt8
  | 0 => bxA 255
  | i + 1 => (bxB i).set (256 + ((bxB i).getD i 0).toNat) (UInt8.ofNat i)
def bxT : List UInt8 := bxB 256
theorem length_bxA : ∀ i : Nat, (bxA i).length = 512
  | 0 => by unfold bxA; rw [List.length_set, List.length_replicate]
  | i + 1 => by unfold bxA; rw [List.length_set, length_bxA i]
theorem length_bxB : ∀ i : Nat, (bxB i).length = 512
  | 0 => length_bxA 255
  | i + 1 => by unfold bxB; rw [List.length_set, length_bxB i]
theorem length_bxT : bxT.length = 512 := length_bxB 256
end Go.Proofs.YtdpdmgbdipokdaaDoor
namespace Go.Proofs.YtdpdmgbdipokdaaDoor
open Go.RowKit
def pwT : List UInt8 := [1, 3, 5, 15, 17, 51, 85, 255, 26, 46, 114, 150, 161, 248, 19, 53, 95, 225, 56, 72, 216, 115, 149, 164, 247, 2, 6, 10, 30, 34, 102, 170, 229, 52, 92, 228, 55, 89, 235, 38, 106, 190, 217, 112, 144, 171, 230, 49, 83, 245, 4, 12, 20, 60, 68, 204, 79, 209, 104, 184, 211, 110, 178, 205, 76, 212, 103, 169, 224, 59, 77, 215, 98, 166, 241, 8, 24, 40, 120, 136, 131, 158, 185, 208, 107, 189, 220, 127, 129, 152, 179, 206, 73, 219, 118, 154, 181, 196, 87, 249, 16, 48, 80, 240, 11, 29, 39, 105, 187, 214, 97, 163, 254, 25, 43, 125, 135, 146, 173, 236, 47, 113, 147, 174, 233, 32, 96, 160, 251, 22, 58, 78, 210, 109, 183, 194, 93, 231, 50, 86, 250, 21, 63, 65, 195, 94, 226, 61, 71, 201, 64, 192, 91, 237, 44, 116, 156, 191, 218, 117, 159, 186, 213, 100, 172, 239, 42, 126, 130, 157, 188, 223, 122, 142, 137, 128, 155, 182, 193, 88, 232, 35, 101, 175, 234, 37, 111, 177, 200, 67, 197, 84, 252, 31, 33, 99, 165, 244, 7, 9, 27, 45, 119, 153, 176, 203, 70, 202, 69, 207, 74, 222, 121, 139, 134, 145, 168, 227, 62, 66, 198, 81, 243, 14, 18, 54, 90, 238, 41, 123, 141, 140, 143, 138, 133, 148, 167, 242, 13, 23, 57, 75, 221, 124, 132, 151, 162, 253, 28, 36, 108, 180, 199, 82, 246, 1]
def sbT : List UInt8 := [99, 124, 119, 123, 242, 107, 111, 197, 48, 1, 103, 43, 254, 215, 171, 118, 202, 130, 201, 125, 250, 89, 71, 240, 173, 212, 162, 175, 156, 164, 114, 192, 183, 253, 147, 38, 54, 63, 247, 204, 52, 165, 229, 241, 113, 216, 49, 21, 4, 199, 35, 195, 24, 150, 5, 154, 7, 18, 128, 226, 235, 39, 178, 117, 9, 131, 44, 26, 27, 110, 90, 160, 82, 59, 214, 179, 41, 227, 47, 132, 83, 209, 0, 237, 32, 252, 177, 91, 106, 203, 190, 57, 74, 76, 88, 207, 208, 239, 170, 251, 67, 77, 51, 133, 69, 249, 2, 127, 80, 60, 159, 168, 81, 163, 64, 143, 146, 157, 56, 245, 188, 182, 218, 33, 16, 255, 243, 210, 205, 12, 19, 236, 95, 151, 68, 23, 196, 167, 126, 61, 100, 93, 25, 115, 96, 129, 79, 220, 34, 42, 144, 136, 70, 238, 184, 20, 222, 94, 11, 219, 224, 50, 58, 10, 73, 6, 36, 92, 194, 211, 172, 98, 145, 149, 228, 121, 231, 200, 55, 109, 141, 213, 78, 169, 108, 86, 244, 234, 101, 122, 174, 8, 186, 120, 37, 46, 28, 166, 180, 198, 232, 221, 116, 31, 75, 189, 139, 138, 112, 62, 181, 102, 72, 3, 246, 14, 97, 53, 87, 185, 134, 193, 29, 158, 225, 248, 152, 17, 105, 217, 142, 148, 155, 30, 135, 233, 206, 85, 40, 223, 140, 161, 137, 13, 191, 230, 66, 104, 65, 153, 45, 15, 176, 84, 187, 22]
def ivT : List UInt8 := [82, 9, 106, 213, 48, 54, 165, 56, 191, 64, 163, 158, 129, 243, 215, 251, 124, 227, 57, 130, 155, 47, 255, 135, 52, 142, 67, 68, 196, 222, 233, 203, 84, 123, 148, 50, 166, 194, 35, 61, 238, 76, 149, 11, 66, 250, 195, 78, 8, 46, 161, 102, 40, 217, 36, 178, 118, 91, 162, 73, 109, 139, 209, 37, 114, 248, 246, 100, 134, 104, 152, 22, 212, 164, 92, 204, 93, 101, 182, 146, 108, 112, 72, 80, 253, 237, 185, 218, 94, 21, 70, 87, 167, 141, 157, 132, 144, 216, 171, 0, 140, 188, 211, 10, 247, 228, 88, 5, 184, 179, 69, 6, 208, 44, 30, 143, 202, 63, 15, 2, 193, 175, 189, 3, 1, 19, 138, 107, 58, 145, 17, 65, 79, 103, 220, 234, 151, 242, 207, 206, 240, 180, 230, 115, 150, 172, 116, 34, 231, 173, 53, 133, 226, 249, 55, 232, 28, 117, 223, 110, 71, 241, 26, 113, 29, 41, 197, 137, 111, 183, 98, 14, 170, 24, 190, 27, 252, 86, 62, 75, 198, 210, 121, 32, 154, 219, 192, 254, 120, 205, 90, 244, 31, 221, 168, 51, 136, 7, 199, 49, 177, 18, 16, 89, 39, 128, 236, 95, 96, 81, 127, 169, 25, 181, 74, 13, 45, 229, 122, 159, 147, 201, 156, 239, 160, 224, 59, 77, 174, 42, 245, 176, 200, 235, 187, 60, 131, 83, 153, 97, 23, 43, 4, 126, 186, 119, 214, 38, 225, 105, 20, 99, 85, 33, 12, 125]
set_option maxRecDepth 100000
theorem pwT_ok : pwL = pwT := by kernel_rfl
theorem bxA_eq : bxA 255 = sbT ++ List.replicate 256 0 := by kernel_rfl
theorem bxT_eq : bxT = sbT ++ ivT := by kernel_rfl
end Go.Proofs.YtdpdmgbdipokdaaDoor
namespace Go.Proofs.YtdpdmgbdipokdaaDoor
open Go.RowKit
theorem ux_comm (a b : UInt8) : a ^^^ b = b ^^^ a := UInt8.xor_comm a b
theorem ux_assoc (a b c : UInt8) : (a ^^^ b) ^^^ c = a ^^^ (b ^^^ c) := UInt8.xor_assoc a b c
theorem ux_self (a : UInt8) : a ^^^ a = 0 := UInt8.xor_self
theorem ux_zero (a : UInt8) : a ^^^ 0 = a := UInt8.xor_zero
theorem ux_cancel (a b : UInt8) : (a ^^^ b) ^^^ b = a := by rw [ux_assoc, ux_self, ux_zero]
theorem hi_cases (a : UInt8) : a >>> UInt8.ofNat 7 = 0 ∨ a >>> UInt8.ofNat 7 = 1 := by
  have h := a.toNat_lt
  have e : (a >>> UInt8.ofNat 7).toNat = a.toNat / 128 := by
    rw [UInt8.toNat_shiftRight]
    show a.toNat >>> 7 = _
    rw [Nat.shiftRight_eq_div_pow]
  by_cases c : a.toNat < 128
  · exact .inl (UInt8.toNat_inj.1 (by rw [e]; show a.toNat / 128 = 0; omega))
  · exact .inr (UInt8.toNat_inj.1 (by rw [e]; show a.toNat / 128 = 1; omega))
theorem hi_xor (a b : UInt8) : ((a ^^^ b) >>> UInt8.ofNat 7) * UInt8.ofNat 27 = (a >>> UInt8.ofNat 7) * UInt8.ofNat 27 ^^^ (b >>> UInt8.ofNat 7) * UInt8.ofNat 27 := by
  rw [UInt8.shiftRight_xor]
  rcases hi_cases a with ha | ha <;> rcases hi_cases b with hb | hb <;> rw [ha, hb] <;> decide
theorem dbl_xor (a b : UInt8) : dbl (a ^^^ b) = dbl a ^^^ dbl b := by
  unfold dbl
  rw [hi_xor, UInt8.shiftLeft_xor]
  rw [ux_assoc, ux_assoc]
  congr 1
  rw [← ux_assoc, ← ux_assoc, ux_comm (b <<< UInt8.ofNat 1)]
/-- Exclusive or, block by block. -/
def adL (a b : List UInt8) : List UInt8 := rgL 16 fun i => a.getD i 0 ^^^ b.getD i 0
def sbL (bx a : List UInt8) : List UInt8 := rgL 16 fun i => bx.getD (a.getD i 0).toNat 0
def rsL (bx a : List UInt8) : List UInt8 := rgL 16 fun i => bx.getD (256 + (a.getD i 0).toNat) 0
def shL (a : List UInt8) : List UInt8 := rgL 16 fun i => a.getD ((i + 4 * (i % 4)) % 16) 0
def colA (a : List UInt8) (c : Nat) : UInt8 := ((a.getD (4 * c) 0 ^^^ a.getD (4 * c + 1) 0) ^^^ a.getD (4 * c + 2) 0) ^^^ a.getD (4 * c + 3) 0
def mxF (a : List UInt8) (i : Nat) : UInt8 := a.getD i 0 ^^^ (colA a (i / 4) ^^^ dbl (a.getD i 0 ^^^ a.getD (4 * (i / 4) + (i % 4 + 1) % 4) 0))
def mxL (a : List UInt8) : List UInt8 := rgL 16 (mxF a)
def umL (a : List UInt8) : List UInt8 := mxL (mxL (mxL a))
def usL (a : List UInt8) : List UInt8 := shL (shL (shL a))
theorem length_adL (a b : List UInt8) : (adL a b).length = 16 := length_rgL _ _
theorem length_sbL (a b : List UInt8) : (sbL a b).length = 16 := length_rgL _ _
theorem length_rsL (a b : List UInt8) : (rsL a b).length = 16 := length_rgL _ _
theorem length_shL (a : List UInt8) : (shL a).length = 16 := length_rgL _ _
theorem length_mxL (a : List UInt8) : (mxL a).length = 16 := length_rgL _ _
theorem length_umL (a : List UInt8) : (umL a).length = 16 := length_rgL _ _
theorem length_usL (a : List UInt8) : (usL a).length = 16 := length_rgL _ _
theorem ad_ad (a k : List UInt8) (h : a.length = 16) : adL (adL a k) k = a := by
  refine Eq.trans (rgL_congr fun i hi => ?_) (rgL_eq a 16 h)
  unfold adL
  rw [rgL_get _ _ _ hi, ux_cancel]
theorem sh4 (a : List UInt8) (h : a.length = 16) : shL (shL (shL (shL a))) = a := by
  refine Eq.trans (rgL_congr fun i hi => ?_) (rgL_eq a 16 h)
  unfold shL
  rw [rgL_get _ _ _ (Nat.mod_lt _ (by decide)), rgL_get _ _ _ (Nat.mod_lt _ (by decide)), rgL_get _ _ _ (Nat.mod_lt _ (by decide))]
  congr 1; omega
/-- One column, mixed. -/
def c4 (a b c d : UInt8) : UInt8 := a ^^^ ((((a ^^^ b) ^^^ c) ^^^ d) ^^^ dbl (a ^^^ b))
instance : Std.Commutative (α := UInt8) (· ^^^ ·) := ⟨ux_comm⟩
instance : Std.Associative (α := UInt8) (· ^^^ ·) := ⟨ux_assoc⟩
theorem ux_left (a b c : UInt8) : a ^^^ (b ^^^ c) = b ^^^ (a ^^^ c) := by rw [← ux_assoc, ux_comm a b, ux_assoc]
theorem ux_selfl (a b : UInt8) : a ^^^ (a ^^^ b) = b := by rw [← ux_assoc, ux_self, ux_comm, ux_zero]
theorem zero_ux (a : UInt8) : 0 ^^^ a = a := by rw [ux_comm, ux_zero]
theorem c4_two (a b c d : UInt8) : c4 (c4 a b c d) (c4 b c d a) (c4 c d a b) (c4 d a b c) = a ^^^ (dbl (dbl a) ^^^ dbl (dbl c)) := by
  unfold c4
  simp only [dbl_xor, ux_assoc]
  simp only [ux_left, ux_selfl]
theorem c4_four (a c : UInt8) : (a ^^^ (dbl (dbl a) ^^^ dbl (dbl c))) ^^^ (dbl (dbl (a ^^^ (dbl (dbl a) ^^^ dbl (dbl c)))) ^^^ dbl (dbl (c ^^^ (dbl (dbl c) ^^^ dbl (dbl a))))) = a := by
  simp only [dbl_xor, ux_assoc]
  simp only [ux_comm, ux_left, ux_self, ux_zero, zero_ux]
theorem mx_get (a : List UInt8) (c r : Nat) (hc : c < 4) (hr : r < 4) : (mxL a).getD (4 * c + r) 0 = c4 (a.getD (4 * c + r) 0) (a.getD (4 * c + (r + 1) % 4) 0) (a.getD (4 * c + (r + 2) % 4) 0) (a.getD (4 * c + (r + 3) % 4) 0) := by
  unfold mxL
  rw [rgL_get _ _ _ (by omega)]
  unfold mxF colA c4
  rw [show (4 * c + r) / 4 = c by omega, show (4 * c + r) % 4 = r by omega]
  rcases (by omega : r = 0 ∨ r = 1 ∨ r = 2 ∨ r = 3) with h | h | h | h <;> subst h <;> simp only [Nat.add_zero, Nat.zero_add, Nat.reduceAdd, Nat.reduceMod] <;> congr 2 <;> ac_rfl
theorem mx_two (a : List UInt8) (c r : Nat) (hc : c < 4) (hr : r < 4) : (mxL (mxL a)).getD (4 * c + r) 0 = a.getD (4 * c + r) 0 ^^^ (dbl (dbl (a.getD (4 * c + r) 0)) ^^^ dbl (dbl (a.getD (4 * c + (r + 2) % 4) 0))) := by
  rw [mx_get _ _ _ hc hr, mx_get _ _ _ hc hr, mx_get _ _ _ hc (Nat.mod_lt _ (by decide)), mx_get _ _ _ hc (Nat.mod_lt _ (by decide)), mx_get _ _ _ hc (Nat.mod_lt _ (by decide))]
  rw [← c4_two _ (a.getD (4 * c + (r + 1) % 4) 0) _ (a.getD (4 * c + (r + 3) % 4) 0)]
  rcases (by omega : r = 0 ∨ r = 1 ∨ r = 2 ∨ r = 3) with h | h | h | h <;> subst h <;> rfl
theorem mx4 (a : List UInt8) (h : a.length = 16) : mxL (mxL (mxL (mxL a))) = a := by
  refine Eq.trans (rgL_congr (g := fun i => a.getD i 0) fun i hi => ?_) (rgL_eq a 16 h)
  have e := mx_two (mxL (mxL a)) (i / 4) (i % 4) (by omega) (by omega)
  rw [mx_two a _ _ (by omega) (by omega), mx_two a _ _ (by omega) (Nat.mod_lt _ (by decide))] at e
  rw [show ((i % 4 + 2) % 4 + 2) % 4 = i % 4 by omega, c4_four, show 4 * (i / 4) + i % 4 = i by omega] at e
  rw [← e]
  conv => rhs; unfold mxL
  rw [rgL_get _ _ _ hi]; rfl
theorem um_mx (a : List UInt8) (h : a.length = 16) : umL (mxL a) = a := mx4 a h
theorem mx_um (a : List UInt8) (h : a.length = 16) : mxL (umL a) = a := mx4 a h
theorem us_sh (a : List UInt8) (h : a.length = 16) : usL (shL a) = a := sh4 a h
theorem sh_us (a : List UInt8) (h : a.length = 16) : shL (usL a) = a := sh4 a h
/-- A table and its inverse. -/
structure BoxOk (bx : List UInt8) : Prop where
  len : bx.length = 512
  back : ∀ b : UInt8, bx.getD (256 + (bx.getD b.toNat 0).toNat) 0 = b
  forth : ∀ b : UInt8, bx.getD (bx.getD (256 + b.toNat) 0).toNat 0 = b
theorem rs_sb {bx : List UInt8} (hb : BoxOk bx) (a : List UInt8) (h : a.length = 16) : rsL bx (sbL bx a) = a := by
  refine Eq.trans (rgL_congr fun i hi => ?_) (rgL_eq a 16 h)
  unfold sbL
  rw [rgL_get _ _ _ hi, hb.back]
theorem sb_rs {bx : List UInt8} (hb : BoxOk bx) (a : List UInt8) (h : a.length = 16) : sbL bx (rsL bx a) = a := by
  refine Eq.trans (rgL_congr fun i hi => ?_) (rgL_eq a 16 h)
  unfold rsL
  rw [rgL_get _ _ _ hi, hb.forth]
/-- The key of a round. -/
def kqL (ks : List UInt8) (i : Nat) : List UInt8 := (ks.drop (16 * i)).take 16
def mxQ (p : Bool) (a : List UInt8) : List UInt8 := if p then mxL a else a
def umQ (p : Bool) (a : List UInt8) : List UInt8 := if p then umL a else a
def blkN (bx ks : List UInt8) (r : Nat) (b : List UInt8) : Nat → List UInt8
  | 0 => adL b (kqL ks 0)
  | k + 1 => adL (mxQ (decide (k + 1 < r)) (shL (sbL bx (blkN bx ks r b k)))) (kqL ks (k + 1))
def bakN (bx ks : List UInt8) (r : Nat) (b : List UInt8) : Nat → List UInt8
  | 0 => b
  | k + 1 => rsL bx (usL (umQ (decide (0 < k)) (adL (bakN bx ks r b k) (kqL ks (r - k)))))
def blkL (bx ks : List UInt8) (r : Nat) (b : List UInt8) : List UInt8 := blkN bx ks r b r
def bakL (bx ks : List UInt8) (r : Nat) (b : List UInt8) : List UInt8 := adL (bakN bx ks r b r) (kqL ks 0)
theorem length_blkN (bx ks : List UInt8) (r : Nat) (b : List UInt8) (k : Nat) : (blkN bx ks r b k).length = 16 := by cases k <;> exact length_rgL _ _
theorem length_bakN (bx ks : List UInt8) (r : Nat) (b : List UInt8) (hb : b.length = 16) (k : Nat) : (bakN bx ks r b k).length = 16 := by
  cases k
  · exact hb
  · exact length_rgL _ _
theorem um_mxQ (p : Bool) (a : List UInt8) (h : a.length = 16) : umQ p (mxQ p a) = a := by
  cases p
  · rfl
  · exact um_mx a h
theorem mx_umQ (p : Bool) (a : List UInt8) (h : a.length = 16) : mxQ p (umQ p a) = a := by
  cases p
  · rfl
  · exact mx_um a h
theorem length_umQ (p : Bool) (a : List UInt8) (h : a.length = 16) : (umQ p a).length = 16 := by
  cases p
  · exact h
  · exact length_umL a
theorem bak_blkN {bx : List UInt8} (hbx : BoxOk bx) (ks : List UInt8) (r : Nat) (b : List UInt8) : ∀ j, j ≤ r → bakN bx ks r (blkL bx ks r b) j = blkN bx ks r b (r - j)
  | 0, _ => rfl
  | j + 1, h => by
    have ih := bak_blkN hbx ks r b j (by omega)
    unfold bakN
    rw [ih]
    have e : r - j = (r - (j + 1)) + 1 := by omega
    conv => lhs; rw [e]
    rw [blkN]
    have hp : decide (r - (j + 1) + 1 < r) = decide (0 < j) := by congr 1; simp only [eq_iff_iff]; omega
    rw [hp, ← e, ad_ad _ _ (by cases decide (0 < j) <;> exact length_rgL _ _), um_mxQ _ _ (length_shL _), us_sh _ (length_sbL _ _), rs_sb hbx _ (length_blkN ..)]
theorem bak_blk {bx : List UInt8} (hbx : BoxOk bx) (ks : List UInt8) (r : Nat) (b : List UInt8) (h : b.length = 16) : bakL bx ks r (blkL bx ks r b) = b := by
  unfold bakL
  rw [bak_blkN hbx ks r b r (Nat.le_refl r), Nat.sub_self]
  exact ad_ad b _ h
theorem blk_bakN {bx : List UInt8} (hbx : BoxOk bx) (ks : List UInt8) (r : Nat) (b : List UInt8) (hb : b.length = 16) : ∀ j, j ≤ r → blkN bx ks r (bakL bx ks r b) j = bakN bx ks r b (r - j)
  | 0, _ => by
    unfold blkN bakL
    rw [ad_ad _ _ (length_bakN _ _ _ _ hb _)]; rfl
  | j + 1, h => by
    have ih := blk_bakN hbx ks r b hb j (by omega)
    unfold blkN
    rw [ih]
    have e : r - j = (r - (j + 1)) + 1 := by omega
    rw [e, bakN]
    have hp : decide (j + 1 < r) = decide (0 < r - (j + 1)) := by congr 1; simp only [eq_iff_iff]; omega
    have hl : (adL (bakN bx ks r b (r - (j + 1))) (kqL ks (r - (r - (j + 1))))).length = 16 := length_adL _ _
    rw [sb_rs hbx _ (length_usL _), sh_us _ (length_umQ _ _ hl), hp, mx_umQ _ _ hl, show r - (r - (j + 1)) = j + 1 by omega, ad_ad _ _ (length_bakN _ _ _ _ hb _)]
theorem blk_bak {bx : List UInt8} (hbx : BoxOk bx) (ks : List UInt8) (r : Nat) (b : List UInt8) (h : b.length = 16) : blkL bx ks r (bakL bx ks r b) = b := by
  unfold blkL
  rw [blk_bakN hbx ks r b h r (Nat.le_refl r), Nat.sub_self]; rfl
end Go.Proofs.YtdpdmgbdipokdaaDoor
