/-
  Texts of this claim.
-/
import Derived.Test.YtidjfinookikcaaDoorProg
import Derived.WalkSpells
import Derived.WalkLawsBesides
import Derived.Deep.QuietTactic
import Derived.BigQuiet
import Derived.Lib.Hide
import Derived.BigRegion
import Derived.Deep.MidRow
import Derived.StillTailTactics
import Derived.Deep.Cut
import Derived.Test.YtidjfinookikcaaDoorGQM
namespace Go.Proofs.YtidjfinookikcaaDoor

def rotl32 (x : UInt32) (n : Nat) : UInt32 := (x <<< UInt32.ofNat n) ||| (x >>> UInt32.ofNat (32 - n))
structure Q4 where
  (a b c d : UInt32)
def qmix (q : Q4) : Q4 :=
  let a1 := q.a + q.b
  let d1 := rotl32 (q.d ^^^ a1) 16
  let c1 := q.c + d1
  let b1 := rotl32 (q.b ^^^ c1) 12
  let a2 := a1 + b1
  let d2 := rotl32 (d1 ^^^ a2) 8
  let c2 := c1 + d2
  let b2 := rotl32 (b1 ^^^ c2) 7
  ⟨a2, b2, c2, d2⟩
def quarter (l : List UInt32) (a b c d : Nat) : List UInt32 :=
  let q := qmix ⟨l.getD a 0, l.getD b 0, l.getD c 0, l.getD d 0⟩
  (((l.set a q.a).set b q.b).set c q.c).set d q.d
theorem length_quarter (l : List UInt32) (a b c d : Nat) : (quarter l a b c d).length = l.length := by simp [quarter]
def quartersL : List (List Nat) := [[0, 4, 8, 12], [1, 5, 9, 13], [2, 6, 10, 14], [3, 7, 11, 15], [0, 5, 10, 15], [1, 6, 11, 12], [2, 7, 8, 13], [3, 4, 9, 14]]
def qAt (i j : Nat) : Nat := (quartersL.getD i []).getD j 0
def qrow (l : List UInt32) (i : Nat) : List UInt32 := quarter l (qAt i 0) (qAt i 1) (qAt i 2) (qAt i 3)
def dbl (l : List UInt32) : Nat → List UInt32
  | 0 => l
  | i + 1 => qrow (dbl l i) i
def rnds (l : List UInt32) : Nat → List UInt32
  | 0 => l
  | n + 1 => dbl (rnds l n) 8
theorem length_dbl (l : List UInt32) (i : Nat) : (dbl l i).length = l.length := by
  induction i with
  | zero => rfl
  | succ i ih => rw [dbl, qrow, length_quarter, ih]
theorem length_rnds (l : List UInt32) (i : Nat) : (rnds l i).length = l.length := by
  induction i with
  | zero => rfl
  | succ i ih => rw [rnds, length_dbl, ih]
/-- The little-endian number of the first k bytes. -/
def le32 (bs : List UInt8) : Nat → UInt32
  | 0 => 0
  | k + 1 => le32 bs k ||| ((bs.getD k 0).toUInt32 <<< UInt32.ofNat (8 * k))
def leWords (bs : List UInt8) (n : Nat) : List UInt32 := (List.range n).map fun t => le32 ((bs.drop (4 * t)).take 4) 4
theorem leWords_succ (bs : List UInt8) (n : Nat) : leWords bs (n + 1) = leWords bs n ++ [le32 ((bs.drop (4 * n)).take 4) 4] := by simp [leWords, List.range_succ]
theorem length_leWords (bs : List UInt8) (n : Nat) : (leWords bs n).length = n := by simp [leWords]
def sigma : List UInt32 := [1634760805, 857760878, 2036477234, 1797285236]
def cInit (key : List UInt8) (ctr : UInt32) (nonce : List UInt8) : List UInt32 := sigma ++ leWords key 8 ++ [ctr] ++ leWords nonce 3
theorem length_cInit (key : List UInt8) (ctr : UInt32) (nonce : List UInt8) : (cInit key ctr nonce).length = 16 := by
  simp [cInit, sigma, length_leWords]
/-- Byte k of a word, counted from the low end. -/
def byteL (x : UInt32) (k : Nat) : UInt8 := (x >>> UInt32.ofNat (8 * k)).toUInt8
def wordBytes (x : UInt32) : List UInt8 := [byteL x 0, byteL x 1, byteL x 2, byteL x 3]
def cSums (l : List UInt32) : List UInt32 := List.zipWith (· + ·) (rnds l 10) l
def outBytes (l : List UInt32) : List UInt8 := l.flatMap wordBytes
/-- The block of the key stream. -/
def cBlock (key : List UInt8) (ctr : UInt32) (nonce : List UInt8) : List UInt8 := outBytes (cSums (cInit key ctr nonce))
theorem length_outBytes (l : List UInt32) : (outBytes l).length = 4 * l.length := by
  induction l with
  | nil => rfl
  | cons a l ih => simp only [outBytes, List.flatMap_cons, List.length_append, List.length_cons] at ih ⊢; rw [ih]; simp [wordBytes]; omega
theorem length_cSums (l : List UInt32) : (cSums l).length = l.length := by simp [cSums, length_rnds]
theorem length_cBlock (key : List UInt8) (ctr : UInt32) (nonce : List UInt8) : (cBlock key ctr nonce).length = 64 := by
  rw [cBlock, length_outBytes, length_cSums, length_cInit]
theorem outBytes_succ (l : List UInt32) (k : Nat) (h : k < l.length) : outBytes (l.take (k + 1)) = outBytes (l.take k) ++ wordBytes l[k] := by
  unfold outBytes; rw [List.take_succ_eq_append_getElem h, List.flatMap_append]; simp
/-- The bytes with the key stream. -/
def cXor (key : List UInt8) (ctr : UInt32) (nonce s : List UInt8) : List UInt8 := s.mapIdx fun i b => b ^^^ (cBlock key (ctr + UInt32.ofNat (i / 64)) nonce).getD (i % 64) 0
theorem length_cXor (key : List UInt8) (ctr : UInt32) (nonce s : List UInt8) : (cXor key ctr nonce s).length = s.length := by simp [cXor]
theorem get_cXor (key : List UInt8) (ctr : UInt32) (nonce s : List UInt8) (i : Nat) (h : i < s.length) : (cXor key ctr nonce s)[i]? = some (s[i] ^^^ (cBlock key (ctr + UInt32.ofNat (i / 64)) nonce).getD (i % 64) 0) := by
  simp [cXor, h]
theorem cXor_twice (key : List UInt8) (ctr : UInt32) (nonce s : List UInt8) : cXor key ctr nonce (cXor key ctr nonce s) = s := by
  apply List.ext_getElem?
  intro i
  by_cases h : i < s.length
  · have h2 : i < (cXor key ctr nonce s).length := by rw [length_cXor]; exact h
    rw [get_cXor _ _ _ _ i h2]
    have e := get_cXor key ctr nonce s i h
    rw [List.getElem?_eq_getElem h2] at e
    rw [Option.some.inj e, UInt8.xor_assoc, UInt8.xor_self, UInt8.xor_zero, List.getElem?_eq_getElem h]
  · rw [List.getElem?_eq_none (by rw [length_cXor, length_cXor]; omega), List.getElem?_eq_none (by omega)]
theorem cXor_parts (key nonce s : List UInt8) (k : Nat) (h : 64 * k ≤ s.length) : cXor key 0 nonce (s.take (64 * k)) ++ cXor key (UInt32.ofNat k) nonce (s.drop (64 * k)) = cXor key 0 nonce s := by
  apply List.ext_getElem?
  intro i
  by_cases hi : i < s.length
  · rw [get_cXor _ _ _ _ i hi]
    by_cases h2 : i < 64 * k
    · rw [List.getElem?_append_left (by rw [length_cXor]; simp; omega), get_cXor _ _ _ _ i (by simp; omega)]
      simp
    · rw [List.getElem?_append_right (by rw [length_cXor]; simp; omega), length_cXor, List.length_take, show i - min (64 * k) s.length = i - 64 * k by omega,
        get_cXor _ _ _ _ (i - 64 * k) (by simp; omega)]
      have e1 : (s.drop (64 * k))[i - 64 * k]'(by simp; omega) = s[i] := by
        rw [List.getElem_drop]; congr 1; omega
      rw [e1, show (i - 64 * k) % 64 = i % 64 by omega]
      have e2 : UInt32.ofNat k + UInt32.ofNat ((i - 64 * k) / 64) = 0 + UInt32.ofNat (i / 64) := by
        rw [← UInt32.ofNat_add, UInt32.zero_add]; congr 1; omega
      rw [e2]
  · rw [List.getElem?_eq_none (by simp [length_cXor]; omega), List.getElem?_eq_none (by rw [length_cXor]; omega)]
end Go.Proofs.YtidjfinookikcaaDoor
namespace Go.Proofs.YtidjfinookikcaaDoor
open Go.RowKit

attribute [local go_sem] and_n32 or_n32 xor_n32 add_n32 add_n32' wrap_n32

theorem and_31 (n : Nat) (h1 : 1 ≤ n) (h2 : n < 32) : bits BinOp.and IntKind.u64 (n : Int) 31 = (n : Int) := by
  have e : ∀ m : Fin 32, m.val ≠ 0 → bits BinOp.and IntKind.u64 (m.val : Int) 31 = (m.val : Int) := by decide +kernel
  exact e ⟨n, h2⟩ (by simpa using Nat.one_le_iff_ne_zero.1 h1)
set_option maxHeartbeats 400000 in
theorem rotl32_any (u : UInt32) (n : Nat) (w : World) (h1 : 1 ≤ n) (h2 : n < 32) :
    Calls Tryd.prog 73 #[U32 u, .int .i64 (n : Int)] w fun e w' => e = .returned (U32 (rotl32 u n)) ∧ w = w' := by
  have hA := and_31 n h1 h2
  have hW : IntKind.u64.wrap (n : Int) = (n : Int) := by rw [wrap_u64]; omega
  have hB : min n 32 = n := by omega
  have hD : IntKind.u64.wrap (32 - (n : Int)) = ((32 - n : Nat) : Int) := by rw [wrap_u64]; omega
  have hE : min (32 - n) 32 = 32 - n := by omega
  have hF := shl_n32 u n h2
  have hG := shr_n32 u (32 - n) (by omega)
  go_enter Tryd.func73, Tryd.ntmps73
  go_wp2
  go_ret
  exact ⟨rfl, rfl⟩
theorem rotl32_int (u : UInt32) (n : Int) (w : World) (h1 : 1 ≤ n) (h2 : n < 32) :
    Calls Tryd.prog 73 #[U32 u, .int .i64 n] w fun e w' => e = .returned (U32 (rotl32 u n.toNat)) ∧ w = w' := by
  obtain ⟨m, rfl⟩ := Int.eq_ofNat_of_zero_le (show 0 ≤ n by omega)
  exact rotl32_any u m w (by omega) (by omega)
set_option maxHeartbeats 400000 in
theorem mix_any (x y z : UInt32) (n : Int) (w : World) (h1 : 1 ≤ n) (h2 : n < 32) :
    Calls Tryd.prog 69 #[U32 x, U32 y, U32 z, .int .i64 n] w fun e w' => e = .returned (.tuple #[U32 (x + y), U32 (rotl32 (z ^^^ (x + y)) n.toNat)]) ∧ w = w' := by
  go_enter Tryd.func69, Tryd.ntmps69
  go_wp2_with (go_at_call 73; refine (rotl32_int _ _ _ h1 h2).mono ?_; rintro e w' ⟨rfl, rfl⟩)
  go_ret2
  exact ⟨rfl, rfl⟩

theorem byteL_eq (x : UInt32) (k : Nat) (h : k < 4) : IntKind.u8.wrap (n32 x / 2 ^ (8 * k)) = n8 (byteL x k) := by
  rw [shr_n32 x (8 * k) (by omega), n8_of_n32]; rfl
def putL (cs : Array Value) (o : Nat) (x : UInt32) : Nat → Array Value
  | 0 => cs
  | k + 1 => (putL cs o x k).setIfInBounds (o + k) (U8 (byteL x k))
theorem size_putL (cs : Array Value) (o : Nat) (x : UInt32) (k : Nat) : (putL cs o x k).size = cs.size := by
  induction k with
  | zero => rfl
  | succ k ih => simp [putL, ih]
set_option maxHeartbeats 400000 in
theorem putWordC_any (b o n c : Nat) (t : TypeId) (cs : Array Value) (x : UInt32) (w : World) (hb : Blk w b t cs) (hn : n ≤ 4) (hs : o + n ≤ cs.size) :
    Calls Tryd.prog 54 #[.slice (some ⟨b, o, none⟩) n c, U32 x] w fun e w' => e = .returned (.tuple #[]) ∧ w.grownBy w' (some b) ∧ Blk w' b t (putL cs o x n) := by
  go_enter Tryd.func54, Tryd.ntmps54
  go_wp2
  go_loopw [7] (fun i wr => ∃ k : Nat, k ≤ n ∧ i = .int .i64 k ∧ w.grownBy wr (some b) ∧ Blk wr b t (putL cs o x k)) (fun i _ => n - (intOf i).toNat)
  case atStart => exact ⟨0, Nat.zero_le _, rfl, grown_refl _ _, hb⟩
  case round =>
    obtain ⟨k, hk, rfl, hg, hbk⟩ := hrel
    by_cases hlt : k < n
    · obtain ⟨u, hc⟩ : ∃ u, wr.cell? ⟨b, o + k, none⟩ = some u := by
        rw [hbk.cell, Array.getElem?_eq_getElem (by rw [size_putL]; omega)]; exact ⟨_, rfl⟩
      have hf := hbk.frozen (o + k)
      have hr := byteL_eq x k (by omega)
      have hm : min (8 * k) 32 = 8 * k := by omega
      go_wp2
      go_roundw
      case rel => exact ⟨k + 1, by omega, by go_num, grown_setCell hg _ _, hbk.set_ _ _⟩
      case measure => simp [intOf]; omega
    · go_wp2
      obtain rfl : k = n := by omega
      go_end0
      exact ⟨rfl, hg, hbk⟩
theorem le32_shl (b : UInt8) (k : Nat) (h : k < 4) : n8 b * 2 ^ (8 * k) % 4294967296 = n32 (b.toUInt32 <<< UInt32.ofNat (8 * k)) := by
  rw [n32_of_n8, shl_n32 _ _ (by omega)]
set_option maxHeartbeats 400000 in
theorem readWordC_any (b o c : Nat) (bs : List UInt8) (w : World) (hb : Bytes w b o bs) (hl : bs.length = 4) :
    Calls Tryd.prog 68 #[.slice (some ⟨b, o, none⟩) 4 c] w fun e w' => e = .returned (U32 (le32 bs 4)) ∧ w = w' := by
  go_enter Tryd.func68, Tryd.ntmps68
  go_wp2
  go_loop [3, 7] (fun x i => ∃ k : Nat, k ≤ 4 ∧ i = .int .i64 k ∧ x = U32 (le32 bs k)) (fun _ i => 4 - (intOf i).toNat)
  case atStart => exact ⟨0, Nat.zero_le _, rfl, rfl⟩
  case round =>
    obtain ⟨k, hk, rfl, rfl⟩ := hrel
    by_cases hlt : k < 4
    · have hc := hb k (by omega)
      have hg : bs[k] = bs.getD k 0 := by simp [List.getD_eq_getElem?_getD, List.getElem?_eq_getElem (show k < bs.length by omega)]
      rw [hg] at hc
      obtain ⟨x, hx⟩ : ∃ x, x = bs.getD k 0 := ⟨_, rfl⟩
      rw [← hx] at hc
      have HX := hid hx
      clear hx hg
      have hs := le32_shl x k hlt
      have hz := n32_of_n8 x
      have hm : min (8 * k) 32 = 8 * k := by omega
      rw [hz] at hs
      go_wp2
      go_round
      case rel => exact ⟨k + 1, by omega, by go_num, by rw [le32, ← HX.out, show UInt32.ofNat (8 * k) = 8 * UInt32.ofNat k by simp]⟩
      case measure => simp [intOf]; omega
    · go_wp2
      obtain rfl : k = 4 := by omega
      go_ret
      exact ⟨rfl, rfl⟩
end Go.Proofs.YtidjfinookikcaaDoor
namespace Go.Proofs.YtidjfinookikcaaDoor
open Go.RowKit
attribute [local go_sem] and_n32 or_n32 xor_n32 add_n32 add_n32' wrap_n32

theorem new4 (w : World) (t1 t2 t3 t4 : TypeId) (A B C D : Array Value) : ∃ w0 : World, w0 = (((w.alloc (.cells A t1)).alloc (.cells B t2)).alloc (.cells C t3)).alloc (.cells D t4) ∧ Below w.heap.size w w0 ∧
    Blk w0 w.heap.size t1 A ∧ Blk w0 (w.heap.size + 1) t2 B ∧ Blk w0 (w.heap.size + 2) t3 C ∧ Blk w0 (w.heap.size + 3) t4 D ∧ w0.heap.size = w.heap.size + 4 :=
  ⟨_, rfl, ((((Below.refl _ _).alloc (Nat.le_refl _) _).alloc (by simp) _).alloc (by simp <;> omega) _).alloc (by simp <;> omega) _, (((Blk.new w t1 A).alloc _).alloc _).alloc _,
    ((show Blk ((w.alloc (.cells A t1)).alloc (.cells B t2)) (w.heap.size + 1) t2 B by simpa using Blk.new (w.alloc (.cells A t1)) t2 B).alloc _).alloc _,
    (show Blk (((w.alloc (.cells A t1)).alloc (.cells B t2)).alloc (.cells C t3)) (w.heap.size + 2) t3 C by simpa using Blk.new ((w.alloc (.cells A t1)).alloc (.cells B t2)) t3 C).alloc _,
    (show Blk ((((w.alloc (.cells A t1)).alloc (.cells B t2)).alloc (.cells C t3)).alloc (.cells D t4)) (w.heap.size + 3) t4 D by simpa using Blk.new (((w.alloc (.cells A t1)).alloc (.cells B t2)).alloc (.cells C t3)) t4 D), by simp⟩
theorem oneCell_map {α : Type} (f : α → Value) (hf : ∀ x, (f x).oneCell' = true) (l : List α) : ((l.map f).toArray).all (·.oneCell') = true := by
  rw [Array.all_eq_true]
  intro i hi
  simp only [List.getElem_toArray, List.getElem_map]
  exact hf _
theorem oneCell_rowOf {α : Type} (f : α → Value) (hf : ∀ x, (f x).oneCell' = true) (z : α) (n : Nat) (l : List α) : (rowOf f z n l).all (·.oneCell') = true := by
  rw [Array.all_eq_true]
  intro i hi
  have h := get_rowOf f z n l i (by simpa [size_rowOf] using hi)
  rw [Array.getElem?_eq_getElem hi] at h
  rw [Option.some.inj h]; exact hf _
theorem rowOf_full {α : Type} (f : α → Value) (z : α) (n : Nat) (l : List α) (h : l.length = n) : rowOf f z n l = (l.map f).toArray := by
  apply Array.ext_getElem?
  intro j
  by_cases hj : j < n
  · rw [get_rowOf _ _ _ _ _ hj]; simp [List.getD_eq_getElem?_getD, List.getElem?_eq_getElem (show j < l.length by omega)]
  · rw [Array.getElem?_eq_none (by rw [size_rowOf]; omega), Array.getElem?_eq_none (by simp <;> omega)]
theorem bytes_map {w : World} {g t : Nat} {L : List UInt8} (h : Blk w g t (L.map U8).toArray) : Bytes w g 0 L := fun j hj => by
  rw [h.cell, Nat.zero_add]; simp [hj]
theorem size_map {α : Type} (f : α → Value) (l : List α) (n : Nat) (h : l.length = n) : (l.map f).toArray.size = n := by simp [h]
theorem infoState : (Tryd.prog.info? 103).map (·.size) = some 16 := by kernel_rfl
theorem sizeState (l : List UInt32) (h : l.length = 16) : (Tryd.prog.info? 103).map (·.size) = some ((l.map U32).toArray).size := by rw [size_map _ _ _ h]; exact infoState
theorem sizeStateRow (l : List UInt32) : (Tryd.prog.info? 103).map (·.size) = some (rowOf U32 0 16 l).size := by rw [size_rowOf]; exact infoState

/-- a[l:h] of an array behind a pointer, its elements of one cell each. -/
theorem slice_arr {P : Program} (t e n : Nat) (hu : P.underlying t = some (.array n e)) (hs : (P.info? e).map (·.size) = some 1) (b : Nat) (kl kh : IntKind) (L H : Int) (l h : Nat) (hL : L = l) (hH : H = h) (h1 : l ≤ h) (h2 : h ≤ n) (h3 : l < n) (w : World) :
    (Instr.sliceAt t (.pointer (some ⟨b, 0, none⟩)) (some (.int kl L)) (some (.int kh H)) none).run P w = .ok (.slice (some ⟨b, l, none⟩) (h - l) (n - l)) w := by
  subst hL hH
  have ha : P.arrayLen t = n := by simp [Program.arrayLen, hu]
  have he : P.elem t = e := by simp [Program.elem, hu]
  have hs' : (sizeOf e).run P w = .ok 1 w := by
    cases hq : P.info? e with
    | none => simp [hq] at hs
    | some i => simp [hq] at hs; simp [sizeOf, typeInfo, hq, hs]
  rw [run_sliceAt_array_lh w t ⟨b, 0, none⟩ (by rw [ha, he]; exact hu) kl kh l h (by omega) (by omega) (by rw [ha]; omega), he, hs']
  simp only [Result.andThen_ok, slicedAt, ha, Int.toNat_natCast, Nat.mul_one]
  rw [if_neg (by omega), addr_add]
theorem four_bel (w : World) (t1 t2 t3 t4 : TypeId) (A B C D : Array Value) : Below w.heap.size w ((((w.alloc (.cells A t1)).alloc (.cells B t2)).alloc (.cells C t3)).alloc (.cells D t4)) :=
  ((((Below.refl _ _).alloc (Nat.le_refl _) _).alloc (by simp) _).alloc (by simp <;> omega) _).alloc (by simp <;> omega) _
theorem size8 : (Tryd.prog.info? 5).map (·.size) = some 1 := by kernel_rfl
def IRel (w : World) (key nonce : List UInt8) (l : List UInt32) (wr : World) : Prop :=
  Below w.heap.size w wr ∧ Blk wr w.heap.size 25 (key.map U8).toArray ∧ Blk wr (w.heap.size + 1) 61 (nonce.map U8).toArray ∧
    Blk wr (w.heap.size + 1 + 1) 103 (rowOf U32 0 16 []) ∧ Blk wr (w.heap.size + 1 + 1 + 1) 103 (rowOf U32 0 16 l)
theorem IRel.put {w wr : World} {key nonce : List UInt8} {l : List UInt32} (h : IRel w key nonce l wr) (v : UInt32) (i : Nat) (hi : i = l.length) : IRel w key nonce (l ++ [v]) (wr.setCell ⟨w.heap.size + 1 + 1 + 1, i, none⟩ (U32 v)) := by
  obtain ⟨h0, h1, h2, h3, h4⟩ := h
  refine ⟨h0.setCell (by simp <;> omega) _, h1.far (by simp <;> omega) _, h2.far (by simp <;> omega) _, h3.far (by simp) _, ?_⟩
  rw [← push_rowOf _ _ _ _ i _ hi]; exact h4.set_ _ _
theorem IRel.cell {w wr : World} {key nonce : List UInt8} {l : List UInt32} (h : IRel w key nonce l wr) (i : Nat) (hi : i < 16) : ∃ u, wr.cell? ⟨w.heap.size + 1 + 1 + 1, i, none⟩ = some u :=
  ⟨_, (h.2.2.2.2.cell i).trans (get_rowOf _ _ _ _ _ hi)⟩
set_option maxHeartbeats 2000000 in
set_option maxRecDepth 100000 in
theorem initial_any (key nonce : List UInt8) (ctr : UInt32) (w : World) (hk : key.length = 32) (hn : nonce.length = 12) :
    Calls Tryd.prog 52 #[.agg (key.map U8).toArray, U32 ctr, .agg (nonce.map U8).toArray] w fun e w' => e = .returned (.agg ((cInit key ctr nonce).map U32).toArray) ∧ Below w.heap.size w w' := by
  have hkl := hid hk
  have hnl := hid hn
  clear hk hn
  go_enter Tryd.func52, Tryd.ntmps52
  go_wp2
  go_loopw [11] (fun i wr => ∃ k : Nat, k ≤ 8 ∧ i = .int .i64 k ∧ IRel w key nonce (sigma ++ leWords key k) wr) (fun i _ => 8 - (intOf i).toNat)
  case atStart =>
    refine ⟨0, Nat.zero_le _, rfl, four_bel _ _ _ _ _ _ _ _ _, (((Blk.new w _ _).alloc _).alloc _).alloc _, ?_, ?_, ?_⟩
    · exact ((show Blk ((w.alloc _).alloc _) (w.heap.size + 1) _ _ by simpa using Blk.new (w.alloc (.cells (key.map U8).toArray 25)) 61 (nonce.map U8).toArray).alloc _).alloc _
    · refine blk_cast ((show Blk (((w.alloc _).alloc _).alloc _) (w.heap.size + 1 + 1) _ _ by simpa using Blk.new ((w.alloc (.cells (key.map U8).toArray 25)).alloc (.cells (nonce.map U8).toArray 61)) 103 _).alloc _) (by kernel_rfl)
    · refine blk_cast (show Blk ((((w.alloc _).alloc _).alloc _).alloc _) (w.heap.size + 1 + 1 + 1) _ _ by simpa using Blk.new (((w.alloc (.cells (key.map U8).toArray 25)).alloc (.cells (nonce.map U8).toArray 61)).alloc _) 103 _) (by kernel_rfl)
  case round =>
    obtain ⟨k, hk, rfl, hR⟩ := hrel
    by_cases hlt : k < 8
    · obtain ⟨u, hc⟩ := hR.cell (4 + k) (by omega)
      have hf := hR.2.2.2.2.frozen (4 + k)
      have hby : Bytes wr w.heap.size (4 * k) ((key.drop (4 * k)).take 4) := by simpa using (bytes_map hR.2.1).sub (4 * k) 4
      have hle : ((key.drop (4 * k)).take 4).length = 4 := by have := hkl.out; simp; omega
      have hnew : IRel w key nonce (sigma ++ leWords key (k + 1)) (wr.setCell ⟨w.heap.size + 1 + 1 + 1, 4 + k, none⟩ (U32 (le32 ((key.drop (4 * k)).take 4) 4))) := by
        rw [leWords_succ, ← List.append_assoc]
        exact hR.put _ _ (by simp [sigma, length_leWords]; omega)
      have hsl := slice_arr (P := Tryd.prog) 25 5 32 Tryd.underlying25 size8 w.heap.size .i64 .i64 (4 * (k : Int)) (4 * (k : Int) + 4) (4 * k) (4 * k + 4) (by omega) (by omega) (by omega) (by omega) (by omega)
      rw [show 4 * k + 4 - 4 * k = 4 by omega] at hsl
      go_wp2_with fail
      refine (readWordC_any _ _ _ _ _ hby hle).mono ?_
      rintro e w' ⟨rfl, rfl⟩
      go_wp2
      go_roundw
      case rel => exact ⟨k + 1, by omega, by go_num, hnew⟩
      case measure => simp [intOf]; omega
    · have hd : decide ((k : Int) < 8) = false := by simp; omega
      rw [show k = 8 by omega] at hR
      obtain ⟨u, hc⟩ := hR.cell 12 (by omega)
      have hf := hR.2.2.2.2.frozen 12
      have hput := hR.put ctr 12 (by simp [sigma, length_leWords])
      clear hR
      go_wp2
      clear hc hf hd hlt
      go_loopw [27] (fun i wr => ∃ k : Nat, k ≤ 3 ∧ i = .int .i64 k ∧ IRel w key nonce (sigma ++ leWords key 8 ++ [ctr] ++ leWords nonce k) wr) (fun i _ => 3 - (intOf i).toNat)
      case atStart => exact ⟨0, Nat.zero_le _, rfl, by simpa [leWords] using hput⟩
      case round =>
        clear hput
        obtain ⟨k, hk, rfl, hR⟩ := hrel
        by_cases hlt : k < 3
        · obtain ⟨u, hc⟩ := hR.cell (13 + k) (by omega)
          have hf := hR.2.2.2.2.frozen (13 + k)
          have hby : Bytes wr (w.heap.size + 1) (4 * k) ((nonce.drop (4 * k)).take 4) := by simpa using (bytes_map hR.2.2.1).sub (4 * k) 4
          have hle : ((nonce.drop (4 * k)).take 4).length = 4 := by have := hnl.out; simp; omega
          have hnew : IRel w key nonce (sigma ++ leWords key 8 ++ [ctr] ++ leWords nonce (k + 1)) (wr.setCell ⟨w.heap.size + 1 + 1 + 1, 13 + k, none⟩ (U32 (le32 ((nonce.drop (4 * k)).take 4) 4))) := by
            rw [leWords_succ nonce k, ← List.append_assoc]
            exact hR.put _ _ (by simp [sigma, length_leWords]; omega)
          have hsl := slice_arr (P := Tryd.prog) 61 5 12 Tryd.underlying61 size8 (w.heap.size + 1) .i64 .i64 (4 * (k : Int)) (4 * (k : Int) + 4) (4 * k) (4 * k + 4) (by omega) (by omega) (by omega) (by omega) (by omega)
          rw [show 4 * k + 4 - 4 * k = 4 by omega] at hsl
          go_wp2_with fail
          refine (readWordC_any _ _ _ _ _ hby hle).mono ?_
          rintro e w' ⟨rfl, rfl⟩
          go_wp2
          go_roundw
          case rel => exact ⟨k + 1, by omega, by go_num, hnew⟩
          case measure => simp [intOf]; omega
        · have hd : decide ((k : Int) < 3) = false := by simp; omega
          rw [show k = 3 by omega] at hR
          obtain ⟨hbel, h1, h2, h3, h4⟩ := hR
          have e : rowOf U32 0 16 (sigma ++ leWords key 8 ++ [ctr] ++ leWords nonce 3) = ((cInit key ctr nonce).map U32).toArray := rowOf_full _ _ _ _ (length_cInit _ _ _)
          rw [e] at h4
          clear e
          go_wp2_with (first
            | (refine wpList_load_blk rfl 103 (.tmp 7) rfl (w.heap.size + 1 + 1 + 1) rfl 103 _ _ h4 Tryd.underlying103 rfl (sizeState _ (length_cInit _ _ _)) ?_)
            | (refine wpList_store_blk rfl 103 (.tmp 6) (.tmp 41) rfl (w.heap.size + 1 + 1) _ rfl rfl 103 _ h3 (sizeState _ (length_cInit _ _ _)) (by rw [size_rowOf, size_map _ _ _ (length_cInit _ _ _)]) (oneCell_map _ (fun _ => rfl) _) ?_
               intro wz hbz hgz
               have hbelz := below_grown hbel hgz hbel.size (by omega)))
          exact bodyPost_ret (results_cell_row rfl _ _ (w.heap.size + 1 + 1) 103 _ (0, 0) _ rfl hbz Tryd.underlying103 rfl (sizeState _ (length_cInit _ _ _))) rfl ⟨rfl, hbelz⟩
end Go.Proofs.YtidjfinookikcaaDoor
namespace Go.Proofs.YtidjfinookikcaaDoor
open Go.RowKit
attribute [local go_sem] and_n32 or_n32 xor_n32 add_n32 add_n32' wrap_n32

theorem map_get {α : Type} (f : α → Value) (z : α) (l : List α) (i : Nat) (h : i < l.length) : (l.map f).toArray[i]? = some (f (l.getD i z)) := by
  simp [List.getD_eq_getElem?_getD, List.getElem?_eq_getElem h]
theorem map_set {α : Type} (f : α → Value) (l : List α) (i : Nat) (v : α) : (l.map f).toArray.setIfInBounds i (f v) = ((l.set i v).map f).toArray := by
  simp [List.map_set]
set_option maxHeartbeats 2000000 in
set_option maxRecDepth 100000 in
theorem quarter_any (g a b c d : Nat) (l : List UInt32) (w : World) (hg : Blk w g 103 (l.map U32).toArray) (hl : l.length = 16) (ha : a < 16) (hb : b < 16) (hc : c < 16) (hd : d < 16) (hab : a ≠ b) (hac : a ≠ c) (had : a ≠ d) (hbc : b ≠ c) (hbd : b ≠ d) (hcd : c ≠ d) :
  Calls Tryd.prog 53 #[.pointer (some ⟨g, 0, none⟩), .agg #[.int .i64 (a : Int), .int .i64 (b : Int), .int .i64 (c : Int), .int .i64 (d : Int)]] w
   fun e w' => e = .returned (.tuple #[]) ∧ w.grownBy w' (some g) ∧ Blk w' g 103 ((quarter l a b c d).map U32).toArray := by
 obtain ⟨w1, hw1, hbel1, hb1, hsz1⟩ : ∃ w1 : World, w1 = w.alloc (.cells #[.int .i64 (a : Int), .int .i64 (b : Int), .int .i64 (c : Int), .int .i64 (d : Int)] 107) ∧ Below w.heap.size w w1 ∧ Blk w1 w.heap.size 107 #[.int .i64 (a : Int), .int .i64 (b : Int), .int .i64 (c : Int), .int .i64 (d : Int)] ∧ w1.heap.size = w.heap.size + 1 :=
  ⟨_, rfl, (Below.refl _ _).alloc (Nat.le_refl _) _, Blk.new w _ _, by simp⟩
 have hg1 := hg.below hbel1 hg.lt
 have hne : g ≠ w.heap.size := Nat.ne_of_lt hg.lt
 have HW := hid hw1
 clear hw1 hsz1 hg
 have ca := (hg1.cell a).trans (map_get U32 0 l a (by omega))
 have cb := (hg1.cell b).trans (map_get U32 0 l b (by omega))
 have cc := (hg1.cell c).trans (map_get U32 0 l c (by omega))
 have cd := (hg1.cell d).trans (map_get U32 0 l d (by omega))
 obtain ⟨A, hA⟩ : ∃ A, A = l.getD a 0 := ⟨_, rfl⟩
 obtain ⟨B, hB⟩ : ∃ A, A = l.getD b 0 := ⟨_, rfl⟩
 obtain ⟨C, hC⟩ : ∃ A, A = l.getD c 0 := ⟨_, rfl⟩
 obtain ⟨D, hD⟩ : ∃ A, A = l.getD d 0 := ⟨_, rfl⟩
 rw [← hA] at ca
 rw [← hB] at cb
 rw [← hC] at cc
 rw [← hD] at cd
 have i0 : w1.cell? ⟨w.heap.size, 0, none⟩ = some (.int .i64 (a : Int)) := hb1.cell 0
 have i1 : w1.cell? ⟨w.heap.size, 1, none⟩ = some (.int .i64 (b : Int)) := hb1.cell 1
 have i2 : w1.cell? ⟨w.heap.size, 2, none⟩ = some (.int .i64 (c : Int)) := hb1.cell 2
 have i3 : w1.cell? ⟨w.heap.size, 3, none⟩ = some (.int .i64 (d : Int)) := hb1.cell 3
 have HA := hid hA
 have HB := hid hB
 have HC := hid hC
 have HD := hid hD
 have HL := hid hl
 clear hA hB hC hD hl
 go_enter Tryd.func53, Tryd.ntmps53
 go_wp2
 rw [← HW.out]
 go_quiet (fail)
 go_wp2_with (go_at_call 69; refine (mix_any _ _ _ _ _ (by omega) (by omega)).mono ?_; rintro e w' ⟨rfl, rfl⟩)
 obtain ⟨A2, hA2⟩ : ∃ x, x = A + B + rotl32 (B ^^^ (C + rotl32 (D ^^^ (A + B)) 16)) 12 := ⟨_, rfl⟩
 obtain ⟨D2, hD2⟩ : ∃ x, x = rotl32 (rotl32 (D ^^^ (A + B)) 16 ^^^ A2) 8 := ⟨_, rfl⟩
 obtain ⟨C2, hC2⟩ : ∃ x, x = C + rotl32 (D ^^^ (A + B)) 16 + D2 := ⟨_, rfl⟩
 obtain ⟨B2, hB2⟩ : ∃ x, x = rotl32 (rotl32 (B ^^^ (C + rotl32 (D ^^^ (A + B)) 16)) 12 ^^^ C2) 7 := ⟨_, rfl⟩
 simp only [← hA2, ← hD2, ← hC2, ← hB2]
 have hq : quarter l a b c d = (((l.set a A2).set b B2).set c C2).set d D2 := by
  rw [quarter, ← HA.out, ← HB.out, ← HC.out, ← HD.out, hB2, hC2, hD2, hA2]; rfl
 have HQ := hid hq
 clear hq hA2 hB2 hC2 hD2
 obtain ⟨w2, hw2, hg2, hbel2, hb2⟩ : ∃ w2, w2 = w1.drewN _ ∧ Blk w2 g 103 (l.map U32).toArray ∧ Below w.heap.size w w2 ∧ Blk w2 w.heap.size 107 #[.int .i64 (a : Int), .int .i64 (b : Int), .int .i64 (c : Int), .int .i64 (d : Int)] :=
  ⟨_, rfl, hg1.drewN _, below_drewN hbel1 _, hb1.drewN _⟩
 rw [← hw2]
 clear hw2 ca cb cc cd i0 i1 i2 i3 hg1 hbel1 hb1
 have i0 : w2.cell? ⟨w.heap.size, 0, none⟩ = some (.int .i64 (a : Int)) := hb2.cell 0
 have i1 : w2.cell? ⟨w.heap.size, 1, none⟩ = some (.int .i64 (b : Int)) := hb2.cell 1
 have i2 : w2.cell? ⟨w.heap.size, 2, none⟩ = some (.int .i64 (c : Int)) := hb2.cell 2
 have i3 : w2.cell? ⟨w.heap.size, 3, none⟩ = some (.int .i64 (d : Int)) := hb2.cell 3
 have hl := HL.out
 have ca := (hg2.cell a).trans (map_get U32 0 l a (by omega))
 have cb := (hg2.cell b).trans (map_get U32 0 l b (by omega))
 have cc := (hg2.cell c).trans (map_get U32 0 l c (by omega))
 have cd := (hg2.cell d).trans (map_get U32 0 l d (by omega))
 have fa := hg2.frozen a
 have fb := hg2.frozen b
 have fc := hg2.frozen c
 have fd := hg2.frozen d
 clear hl
 go_region
 go_end0
 refine ⟨rfl, ?_, ?_⟩
 ·have h0 : w.grownBy w2 (some g) := ⟨hbel2.os, hbel2.tape, hbel2.output, hbel2.size, fun k hk _ => hbel2.block k hk⟩
  exact grown_drew (grown_setCell (grown_setCell (grown_setCell (grown_setCell h0 _ _) _ _) _ _) _ _)
 ·rw [HQ.out, ← map_set, ← map_set, ← map_set, ← map_set]
  exact ((((hg2.set_ a _).set_ b _).set_ c _).set_ d _).drew
theorem qAt_bd (i : Nat) (h : i < 8) : qAt i 0 < 16 ∧ qAt i 1 < 16 ∧ qAt i 2 < 16 ∧ qAt i 3 < 16 ∧ qAt i 0 ≠ qAt i 1 ∧ qAt i 0 ≠ qAt i 2 ∧ qAt i 0 ≠ qAt i 3 ∧ qAt i 1 ≠ qAt i 2 ∧ qAt i 1 ≠ qAt i 3 ∧ qAt i 2 ≠ qAt i 3 := by
 revert i; decide
theorem qrow_any (g i : Nat) (l : List UInt32) (w : World) (hg : Blk w g 103 (l.map U32).toArray) (hl : l.length = 16) (hi : i < 8) :
  Calls Tryd.prog 53 #[.pointer (some ⟨g, 0, none⟩), .agg #[.int .i64 (qAt i 0 : Int), .int .i64 (qAt i 1 : Int), .int .i64 (qAt i 2 : Int), .int .i64 (qAt i 3 : Int)]] w
   fun e w' => e = .returned (.tuple #[]) ∧ w.grownBy w' (some g) ∧ Blk w' g 103 ((qrow l i).map U32).toArray := by
 obtain ⟨h1, h2, h3, h4, h5, h6, h7, h8, h9, h10⟩ := qAt_bd i hi
 exact quarter_any g _ _ _ _ l w hg hl h1 h2 h3 h4 h5 h6 h7 h8 h9 h10
end Go.Proofs.YtidjfinookikcaaDoor
namespace Go.Proofs.YtidjfinookikcaaDoor
open Go.RowKit
attribute [local go_sem] and_n32 or_n32 xor_n32 add_n32 add_n32' wrap_n32

/-- The table of the quarter rounds' indices stands as the program lays it. -/
def QAt (w : World) : Prop := ∀ i j, i < 8 → j < 4 → w.cell? ⟨3, 4 * i + j, none⟩ = some (.int .i64 (qAt i j : Int))
theorem QAt.lt {w : World} (h : QAt w) : 3 < w.heap.size := block_lt_of_cell (h 0 0 (by omega) (by omega))
theorem QAt.below {w w' : World} (h : QAt w) {B : Nat} (hb : Below B w w') (hB : 3 < B) : QAt w' := fun i j hi hj => (hb.cell (p := ⟨3, 4 * i + j, none⟩) hB).trans (h i j hi hj)
theorem QAt.cells {w : World} (h : QAt w) (i : Nat) (hi : i < 8) : w.cell? ⟨3, i * 4, none⟩ = some (.int .i64 (qAt i 0 : Int)) ∧ w.cell? ⟨3, i * 4 + 1, none⟩ = some (.int .i64 (qAt i 1 : Int)) ∧
    w.cell? ⟨3, i * 4 + 2, none⟩ = some (.int .i64 (qAt i 2 : Int)) ∧ w.cell? ⟨3, i * 4 + 3, none⟩ = some (.int .i64 (qAt i 3 : Int)) := by
  rw [Nat.mul_comm i 4]
  exact ⟨h i 0 hi (by omega), h i 1 hi (by omega), h i 2 hi (by omega), h i 3 hi (by omega)⟩
theorem new3 (w : World) (t1 t2 t3 : TypeId) (A B C : Array Value) : ∃ w0 : World, w0 = ((w.alloc (.cells A t1)).alloc (.cells B t2)).alloc (.cells C t3) ∧ Below w.heap.size w w0 ∧
    Blk w0 w.heap.size t1 A ∧ Blk w0 (w.heap.size + 1) t2 B ∧ Blk w0 (w.heap.size + 1 + 1) t3 C ∧ w0.heap.size = w.heap.size + 3 :=
  ⟨_, rfl, (((Below.refl _ _).alloc (Nat.le_refl _) _).alloc (by simp) _).alloc (by simp <;> omega) _, ((Blk.new w t1 A).alloc _).alloc _,
    ((show Blk ((w.alloc (.cells A t1)).alloc (.cells B t2)) (w.heap.size + 1) t2 B by simpa using Blk.new (w.alloc (.cells A t1)) t2 B).alloc _),
    (show Blk (((w.alloc (.cells A t1)).alloc (.cells B t2)).alloc (.cells C t3)) (w.heap.size + 1 + 1) t3 C by simpa using Blk.new ((w.alloc (.cells A t1)).alloc (.cells B t2)) t3 C), by simp⟩
theorem size22 (l : List UInt8) (h : l.length = 32) : (Tryd.prog.info? 25).map (·.size) = some ((l.map U8).toArray).size := by rw [size_map _ _ _ h]; kernel_rfl
theorem size24 (l : List UInt8) (h : l.length = 12) : (Tryd.prog.info? 61).map (·.size) = some ((l.map U8).toArray).size := by rw [size_map _ _ _ h]; kernel_rfl
theorem size26 (l : List UInt8) (h : l.length = 64) : (Tryd.prog.info? 91).map (·.size) = some ((l.map U8).toArray).size := by rw [size_map _ _ _ h]; kernel_rfl

def BRel (w : World) (gI gS : Nat) (l st : List UInt32) (wr : World) : Prop :=
  Below w.heap.size w wr ∧ QAt wr ∧ Blk wr (w.heap.size + 1 + 1) 91 #[Value.int IntKind.u8 0, Value.int IntKind.u8 0, Value.int IntKind.u8 0, Value.int IntKind.u8 0, Value.int IntKind.u8 0, Value.int IntKind.u8 0, Value.int IntKind.u8 0, Value.int IntKind.u8 0, Value.int IntKind.u8 0, Value.int IntKind.u8 0, Value.int IntKind.u8 0, Value.int IntKind.u8 0, Value.int IntKind.u8 0, Value.int IntKind.u8 0, Value.int IntKind.u8 0, Value.int IntKind.u8 0, Value.int IntKind.u8 0, Value.int IntKind.u8 0, Value.int IntKind.u8 0, Value.int IntKind.u8 0, Value.int IntKind.u8 0, Value.int IntKind.u8 0, Value.int IntKind.u8 0, Value.int IntKind.u8 0, Value.int IntKind.u8 0, Value.int IntKind.u8 0, Value.int IntKind.u8 0, Value.int IntKind.u8 0, Value.int IntKind.u8 0, Value.int IntKind.u8 0, Value.int IntKind.u8 0, Value.int IntKind.u8 0, Value.int IntKind.u8 0, Value.int IntKind.u8 0, Value.int IntKind.u8 0, Value.int IntKind.u8 0, Value.int IntKind.u8 0, Value.int IntKind.u8 0, Value.int IntKind.u8 0, Value.int IntKind.u8 0, Value.int IntKind.u8 0, Value.int IntKind.u8 0, Value.int IntKind.u8 0, Value.int IntKind.u8 0, Value.int IntKind.u8 0, Value.int IntKind.u8 0, Value.int IntKind.u8 0, Value.int IntKind.u8 0, Value.int IntKind.u8 0, Value.int IntKind.u8 0, Value.int IntKind.u8 0, Value.int IntKind.u8 0, Value.int IntKind.u8 0, Value.int IntKind.u8 0, Value.int IntKind.u8 0, Value.int IntKind.u8 0, Value.int IntKind.u8 0, Value.int IntKind.u8 0, Value.int IntKind.u8 0, Value.int IntKind.u8 0, Value.int IntKind.u8 0, Value.int IntKind.u8 0, Value.int IntKind.u8 0, Value.int IntKind.u8 0] ∧ Blk wr gI 103 (l.map U32).toArray ∧ Blk wr gS 103 (st.map U32).toArray
theorem BRel.next {w wr w' : World} {gI gS : Nat} {l st st' : List UInt32} (h : BRel w gI gS l st wr) (hg : wr.grownBy w' (some gS)) (h1 : w.heap.size + 2 < gI) (h2 : gI < gS) (hq : 3 < w.heap.size) (hs : Blk w' gS 103 (st'.map U32).toArray) : BRel w gI gS l st' w' := by
  obtain ⟨hb, hQ, hR, hI, _⟩ := h
  have hb' := below_grown hb hg hb.size (by omega)
  refine ⟨hb', fun i j hi hj => ?_, hR.gro hg (by omega), hI.gro hg (by omega), hs⟩
  exact (World.cell?_of_block (w := wr) (a := ⟨3, 4 * i + j, none⟩) (hg.block _ hQ.lt (fun e => by injection e with e; have e' : 3 = gS := e; omega))).trans (hQ i j hi hj)
theorem region_tail {P : Program} {id : Nat} {Q : Exit → Act → World → Prop} {a : Act} {w : World} {l : List Oper} (n : Nat) (hm : P.follows .mixedOrders = true) (hB : Region.lexTailB .any l.toArray n = true)
    (h : wpStill P l.toArray w.drew (fun a' => wpList P l.toArray Q (l.drop n) a' w.drew) (l.take n) a) : (Code.region id l.toArray true).wp P Q a w :=
  wp_region_still_tail n hm hB h
theorem cSums_get (l : List UInt32) (j : Nat) (h : j < l.length) : (cSums l).getD j 0 = (rnds l 10).getD j 0 + l.getD j 0 := by
  have h2 : j < (rnds l 10).length := by rw [length_rnds]; exact h
  simp only [cSums, List.getD_eq_getElem?_getD, List.getElem?_zipWith, List.getElem?_eq_getElem h, List.getElem?_eq_getElem h2, Option.getD_some]
theorem putL_row (L : List UInt8) (n : Nat) (x : UInt32) : putL (rowOf U8 0 n L) L.length x 4 = rowOf U8 0 n (L ++ wordBytes x) := by
  simp only [putL, Nat.add_zero]
  rw [push_rowOf _ _ _ _ _ _ rfl, push_rowOf _ _ _ _ _ _ (by simp), push_rowOf _ _ _ _ _ _ (by simp), push_rowOf _ _ _ _ _ _ (by simp)]
  simp [wordBytes]
def ORel (w : World) (gI gS gO : Nat) (l : List UInt32) (j : Nat) (wr : World) : Prop :=
  Below w.heap.size w wr ∧ Blk wr (w.heap.size + 1 + 1) 91 #[Value.int IntKind.u8 0, Value.int IntKind.u8 0, Value.int IntKind.u8 0, Value.int IntKind.u8 0, Value.int IntKind.u8 0, Value.int IntKind.u8 0, Value.int IntKind.u8 0, Value.int IntKind.u8 0, Value.int IntKind.u8 0, Value.int IntKind.u8 0, Value.int IntKind.u8 0, Value.int IntKind.u8 0, Value.int IntKind.u8 0, Value.int IntKind.u8 0, Value.int IntKind.u8 0, Value.int IntKind.u8 0, Value.int IntKind.u8 0, Value.int IntKind.u8 0, Value.int IntKind.u8 0, Value.int IntKind.u8 0, Value.int IntKind.u8 0, Value.int IntKind.u8 0, Value.int IntKind.u8 0, Value.int IntKind.u8 0, Value.int IntKind.u8 0, Value.int IntKind.u8 0, Value.int IntKind.u8 0, Value.int IntKind.u8 0, Value.int IntKind.u8 0, Value.int IntKind.u8 0, Value.int IntKind.u8 0, Value.int IntKind.u8 0, Value.int IntKind.u8 0, Value.int IntKind.u8 0, Value.int IntKind.u8 0, Value.int IntKind.u8 0, Value.int IntKind.u8 0, Value.int IntKind.u8 0, Value.int IntKind.u8 0, Value.int IntKind.u8 0, Value.int IntKind.u8 0, Value.int IntKind.u8 0, Value.int IntKind.u8 0, Value.int IntKind.u8 0, Value.int IntKind.u8 0, Value.int IntKind.u8 0, Value.int IntKind.u8 0, Value.int IntKind.u8 0, Value.int IntKind.u8 0, Value.int IntKind.u8 0, Value.int IntKind.u8 0, Value.int IntKind.u8 0, Value.int IntKind.u8 0, Value.int IntKind.u8 0, Value.int IntKind.u8 0, Value.int IntKind.u8 0, Value.int IntKind.u8 0, Value.int IntKind.u8 0, Value.int IntKind.u8 0, Value.int IntKind.u8 0, Value.int IntKind.u8 0, Value.int IntKind.u8 0, Value.int IntKind.u8 0, Value.int IntKind.u8 0] ∧ Blk wr gI 103 (l.map U32).toArray ∧ Blk wr gS 103 ((rnds l 10).map U32).toArray ∧ Blk wr gO 91 (rowOf U8 0 64 (outBytes ((cSums l).take j)))
theorem ORel.next {w wr w' : World} {gI gS gO : Nat} {l : List UInt32} {j : Nat} {x y : UInt32} (h : ORel w gI gS gO l j wr) (hl : l.length = 16) (hj : j < 16) (h1 : w.heap.size + 2 < gI ∧ gI < gO) (h2 : w.heap.size + 2 < gS ∧ gS < gO)
    (hs : (cSums l).getD j 0 = y + x) (hg : wr.drew.grownBy w' (some gO)) (hn : Blk w' gO 91 (putL (rowOf U8 0 64 (outBytes ((cSums l).take j))) (4 * j) (y + x) 4)) : ORel w gI gS gO l (j + 1) w' := by
  obtain ⟨hb, hR, hI, hS, _⟩ := h
  have hjl : j < (cSums l).length := by rw [length_cSums, hl]; exact hj
  refine ⟨below_grown hb.drew hg hb.size (by omega), hR.drew.gro hg (by omega), hI.drew.gro hg (by omega), hS.drew.gro hg (by omega), ?_⟩
  have e : 4 * j = (outBytes ((cSums l).take j)).length := by rw [length_outBytes, List.length_take]; omega
  rw [e, putL_row, ← hs] at hn
  rw [outBytes_succ _ _ hjl]
  rwa [List.getD_eq_getElem?_getD, List.getElem?_eq_getElem hjl] at hn
theorem blk3a (w : World) (t : TypeId) (A : Array Value) (o2 o3 : Obj) : Blk (((w.alloc (.cells A t)).alloc o2).alloc o3) w.heap.size t A := ((Blk.new w t A).alloc _).alloc _
theorem blk3b (w : World) (t : TypeId) (A : Array Value) (o1 o3 : Obj) : Blk (((w.alloc o1).alloc (.cells A t)).alloc o3) (w.heap.size + 1) t A :=
  (show Blk ((w.alloc o1).alloc (.cells A t)) (w.heap.size + 1) t A by simpa using Blk.new (w.alloc o1) t A).alloc _

set_option maxHeartbeats 500000 in
set_option maxRecDepth 100000 in
theorem cblock_any (key nonce : List UInt8) (ctr : UInt32) (w : World) (hk : key.length = 32) (hn : nonce.length = 12) (hQ : QAt w) :
    Calls Tryd.prog 41 #[.agg (key.map U8).toArray, U32 ctr, .agg (nonce.map U8).toArray] w fun e w' => e = .returned (.agg ((cBlock key ctr nonce).map U8).toArray) ∧ Below w.heap.size w w' := by
  obtain ⟨w0, hw0, hbel0, hbK, hbN, hbR, hsz⟩ := new3 w 25 61 91 (key.map U8).toArray (nonce.map U8).toArray #[Value.int IntKind.u8 0, Value.int IntKind.u8 0, Value.int IntKind.u8 0, Value.int IntKind.u8 0, Value.int IntKind.u8 0, Value.int IntKind.u8 0, Value.int IntKind.u8 0, Value.int IntKind.u8 0, Value.int IntKind.u8 0, Value.int IntKind.u8 0, Value.int IntKind.u8 0, Value.int IntKind.u8 0, Value.int IntKind.u8 0, Value.int IntKind.u8 0, Value.int IntKind.u8 0, Value.int IntKind.u8 0, Value.int IntKind.u8 0, Value.int IntKind.u8 0, Value.int IntKind.u8 0, Value.int IntKind.u8 0, Value.int IntKind.u8 0, Value.int IntKind.u8 0, Value.int IntKind.u8 0, Value.int IntKind.u8 0, Value.int IntKind.u8 0, Value.int IntKind.u8 0, Value.int IntKind.u8 0, Value.int IntKind.u8 0, Value.int IntKind.u8 0, Value.int IntKind.u8 0, Value.int IntKind.u8 0, Value.int IntKind.u8 0, Value.int IntKind.u8 0, Value.int IntKind.u8 0, Value.int IntKind.u8 0, Value.int IntKind.u8 0, Value.int IntKind.u8 0, Value.int IntKind.u8 0, Value.int IntKind.u8 0, Value.int IntKind.u8 0, Value.int IntKind.u8 0, Value.int IntKind.u8 0, Value.int IntKind.u8 0, Value.int IntKind.u8 0, Value.int IntKind.u8 0, Value.int IntKind.u8 0, Value.int IntKind.u8 0, Value.int IntKind.u8 0, Value.int IntKind.u8 0, Value.int IntKind.u8 0, Value.int IntKind.u8 0, Value.int IntKind.u8 0, Value.int IntKind.u8 0, Value.int IntKind.u8 0, Value.int IntKind.u8 0, Value.int IntKind.u8 0, Value.int IntKind.u8 0, Value.int IntKind.u8 0, Value.int IntKind.u8 0, Value.int IntKind.u8 0, Value.int IntKind.u8 0, Value.int IntKind.u8 0, Value.int IntKind.u8 0, Value.int IntKind.u8 0]
  have HW := hid hw0
  have hsz1 : w.heap.size + 3 ≤ w0.heap.size := by omega
  clear hw0 hsz hbK hbN
  have hkl := hid hk
  have hnl := hid hn
  clear hk hn
  go_enter Tryd.func41, Tryd.ntmps41
  go_wp2_with (first
    | (refine wpList_load_blk rfl 25 (.tmp 3) rfl w.heap.size rfl 25 _ _ (blk3a w _ _ _ _) Tryd.underlying25 rfl (size22 _ hkl.out) ?_)
    | (refine wpList_load_blk rfl 61 (.tmp 5) rfl (w.heap.size + 1) rfl 61 _ _ (blk3b w _ _ _ _) Tryd.underlying61 rfl (size24 _ hnl.out) ?_))
  rw [← HW.out]
  clear HW
  refine (initial_any key nonce ctr w0 hkl.out hnl.out).mono ?_
  rintro e w1 ⟨rfl, hb1⟩
  have hbel1 : Below w.heap.size w w1 := hbel0.trans (hb1.mono (by omega))
  have hbR1 := hbR.below hb1 (by omega)
  have hs1 := hb1.size
  clear hb1 hbR hbel0
  obtain ⟨l, hl0⟩ : ∃ l, l = cInit key ctr nonce := ⟨_, rfl⟩
  have hl : l.length = 16 := by rw [hl0, length_cInit]
  have hout : cBlock key ctr nonce = outBytes (cSums l) := by rw [cBlock, hl0]
  rw [← hl0]
  have HL := hid hl
  have HOUT := hid hout
  have HQ0 := hid hQ
  clear hl hl0 hout hQ
  go_wp2_with (first
    | (refine wpList_store_blk rfl 103 (.tmp 7) (.tmp 15) rfl w1.heap.size _ rfl rfl 103 _ (Blk.new w1 103 _) (sizeState _ HL.out) (by rw [size_map _ _ _ HL.out]; rfl) (oneCell_map _ (fun _ => rfl) _) ?_
       intro w2 hI hg2
       have hs2 := hg2.size
       simp only [World.size_alloc] at hs2
       have hbel2 := below_grown (hbel1.alloc (by omega) _) hg2 (by simp; omega) (by omega)
       have hR2 := (hbR1.alloc _).gro hg2 (by omega)
       clear hg2)
    | (refine wpList_load_blk rfl 103 (.tmp 7) rfl w1.heap.size rfl 103 _ _ hI Tryd.underlying103 rfl (sizeState _ HL.out) ?_)
    | (refine wpList_store_blk rfl 103 (.tmp 8) (.tmp 16) rfl w2.heap.size _ rfl rfl 103 _ (Blk.new w2 103 _) (sizeState _ HL.out) (by rw [size_map _ _ _ HL.out]; rfl) (oneCell_map _ (fun _ => rfl) _) ?_
       intro w3 hS hg3
       have hs3 := hg3.size
       simp only [World.size_alloc] at hs3
       have hbel3 := below_grown (hbel2.alloc (by omega) _) hg3 (by simp; omega) (by omega)
       have hR3 := (hR2.alloc _).gro hg3 (by omega)
       have hI3 := (hI.alloc _).gro hg3 (by omega)
       clear hg3 hR2 hI hbel2 hbR1 hbel1))
  have hQ3 : QAt w3 := HQ0.out.below hbel3 HQ0.out.lt
  have HQL := hid HQ0.out.lt
  clear HQ0
  go_loopw [17] (fun i wr => ∃ k : Nat, k ≤ 10 ∧ i = .int .i64 k ∧ BRel w w1.heap.size w2.heap.size l (rnds l k) wr) (fun i _ => 10 - (intOf i).toNat)
  case atStart => exact ⟨0, Nat.zero_le _, rfl, hbel3, hQ3, hR3, hI3, hS⟩
  case round =>
    clear hbel3 hQ3 hR3 hI3 hS
    obtain ⟨k, hk, rfl, hR⟩ := hrel
    by_cases hlt : k < 10
    · have hd : decide ((k : Int) < 10) = true := by simp; omega
      obtain ⟨wo, rfl⟩ : ∃ wo : World, wo = wr := ⟨_, rfl⟩
      go_wp2
      go_loopw [9, 19] (fun _ i wr => ∃ j : Nat, j ≤ 8 ∧ i = .int .i64 j ∧ BRel w w1.heap.size w2.heap.size l (dbl (rnds l k) j) wr) (fun _ i _ => 8 - (intOf i).toNat)
      case atStart => exact ⟨0, Nat.zero_le _, rfl, hR⟩
      case round =>
        clear hR
        obtain ⟨j, hj, rfl, hR⟩ := hrel
        by_cases hlt2 : j < 8
        · obtain ⟨q0, q1, q2, q3⟩ := hR.2.1.cells j hlt2
          have hjz : (0 : Int) ≤ j := by omega
          have hj8 : (j : Int) < 8 := by omega
          have hR' := hid hR
          clear hR
          go_wp2_with fail
          refine (qrow_any _ j _ _ hR'.out.2.2.2.2 (by rw [length_dbl, length_rnds]; exact HL.out) hlt2).mono ?_
          rintro e w' ⟨rfl, hgr, hnew⟩
          have hR2 := hR'.out.next hgr (by omega) (by omega) HQL.out hnew
          clear hR' hgr hnew q0 q1 q2 q3
          go_wp2
          go_roundw
          case rel => exact ⟨j + 1, by omega, by go_num, hR2⟩
          case measure => simp [intOf]; omega
        · rw [show j = 8 by omega] at hR
          have hd2 : decide ((j : Int) < 8) = false := by simp; omega
          go_wp2
          go_roundw
          case rel => exact ⟨k + 1, by omega, by go_num, hR⟩
          case measure => simp [intOf]; omega
    · rw [show k = 10 by omega] at hR
      have hd : decide ((k : Int) < 10) = false := by simp; omega
      obtain ⟨hbel, _, hR, hI, hS⟩ := hR
      have hlo := hS.lt
      have hz : rowOf U8 0 64 (outBytes ((cSums l).take 0)) = #[Value.int IntKind.u8 0, Value.int IntKind.u8 0, Value.int IntKind.u8 0, Value.int IntKind.u8 0, Value.int IntKind.u8 0, Value.int IntKind.u8 0, Value.int IntKind.u8 0, Value.int IntKind.u8 0, Value.int IntKind.u8 0, Value.int IntKind.u8 0, Value.int IntKind.u8 0, Value.int IntKind.u8 0, Value.int IntKind.u8 0, Value.int IntKind.u8 0, Value.int IntKind.u8 0, Value.int IntKind.u8 0, Value.int IntKind.u8 0, Value.int IntKind.u8 0, Value.int IntKind.u8 0, Value.int IntKind.u8 0, Value.int IntKind.u8 0, Value.int IntKind.u8 0, Value.int IntKind.u8 0, Value.int IntKind.u8 0, Value.int IntKind.u8 0, Value.int IntKind.u8 0, Value.int IntKind.u8 0, Value.int IntKind.u8 0, Value.int IntKind.u8 0, Value.int IntKind.u8 0, Value.int IntKind.u8 0, Value.int IntKind.u8 0, Value.int IntKind.u8 0, Value.int IntKind.u8 0, Value.int IntKind.u8 0, Value.int IntKind.u8 0, Value.int IntKind.u8 0, Value.int IntKind.u8 0, Value.int IntKind.u8 0, Value.int IntKind.u8 0, Value.int IntKind.u8 0, Value.int IntKind.u8 0, Value.int IntKind.u8 0, Value.int IntKind.u8 0, Value.int IntKind.u8 0, Value.int IntKind.u8 0, Value.int IntKind.u8 0, Value.int IntKind.u8 0, Value.int IntKind.u8 0, Value.int IntKind.u8 0, Value.int IntKind.u8 0, Value.int IntKind.u8 0, Value.int IntKind.u8 0, Value.int IntKind.u8 0, Value.int IntKind.u8 0, Value.int IntKind.u8 0, Value.int IntKind.u8 0, Value.int IntKind.u8 0, Value.int IntKind.u8 0, Value.int IntKind.u8 0, Value.int IntKind.u8 0, Value.int IntKind.u8 0, Value.int IntKind.u8 0, Value.int IntKind.u8 0] := by kernel_rfl
      have HZ := hid hz
      clear hz
      obtain ⟨wo, rfl⟩ : ∃ wo : World, wo = wr := ⟨_, rfl⟩
      go_wp2
      go_loopw [11, 28] (fun _ i wr => ∃ j : Nat, j ≤ 16 ∧ i = .int .i64 j ∧ ORel w w1.heap.size w2.heap.size wo.heap.size l j wr) (fun _ i _ => 16 - (intOf i).toNat)
      case atStart => exact ⟨0, Nat.zero_le _, rfl, hbel.alloc hbel.size _, hR.alloc _, hI.alloc _, hS.alloc _, blk_cast (Blk.new wo _ _) HZ.out.symm⟩
      case round =>
        clear hbel hR hI hS HZ
        obtain ⟨j, hj, rfl, hR⟩ := hrel
        by_cases hlt2 : j < 16
        · have ha := (hR.2.2.1.cell j).trans (map_get U32 0 l j (by rw [HL.out]; omega))
          have hb := (hR.2.2.2.1.cell j).trans (map_get U32 0 (rnds l 10) j (by rw [length_rnds, HL.out]; omega))
          have hw1 : IntKind.i64.wrap (4 * (j : Int)) = 4 * (j : Int) := IntWalk.i64_in _ (by omega)
          have hw2 : IntKind.i64.wrap (4 * (j : Int) + 4) = 4 * (j : Int) + 4 := IntWalk.i64_in _ (by omega)
          have hsl := slice_arr (P := Tryd.prog) 91 5 64 Tryd.underlying91 size8 wo.heap.size .i64 .i64 (4 * (j : Int)) (4 * (j : Int) + 4) (4 * j) (4 * j + 4) (by omega) (by omega) (by omega) (by omega) (by omega)
          rw [show 4 * j + 4 - 4 * j = 4 by omega] at hsl
          have hjz : (0 : Int) ≤ j := by omega
          have hj8 : (j : Int) < 16 := by omega
          have hsum : (cSums l).getD j 0 = (rnds l 10).getD j 0 + l.getD j 0 := cSums_get l j (by rw [HL.out]; omega)
          obtain ⟨x, hx⟩ : ∃ x, x = l.getD j 0 := ⟨_, rfl⟩
          obtain ⟨y, hy⟩ : ∃ y, y = (rnds l 10).getD j 0 := ⟨_, rfl⟩
          rw [← hx] at ha hsum
          rw [← hy] at hb hsum
          have HSUM := hid hsum
          have hR' := hid hR
          clear hR hx hy hsum
          go_wp2
          refine region_tail 13 (by kernel_rfl) (by kernel_rfl) ?_
          simp only [List.take_succ_cons, List.take_zero, List.drop_succ_cons, List.drop_zero]
          repeat still_step
          refine wpStill_nil ?_
          go_wp2_with fail
          refine (putWordC_any wo.heap.size (4 * j) 4 (64 - 4 * j) _ _ _ _ hR'.out.2.2.2.2.drew (by omega) (by rw [size_rowOf]; omega)).mono ?_
          rintro e w' ⟨rfl, hgr, hnew⟩
          have hR2 := hR'.out.next HL.out hlt2 (by omega) (by omega) HSUM.out hgr hnew
          clear hR' hgr hnew ha hb hsl hw1 hw2
          go_wp2
          go_roundw
          case rel => exact ⟨j + 1, by omega, by go_num, hR2⟩
          case measure => simp [intOf]; omega
        · rw [show j = 16 by omega] at hR
          have hd2 : decide ((j : Int) < 16) = false := by simp; omega
          obtain ⟨hbel, hR, hI, hS, hO⟩ := hR
          have ho : rowOf U8 0 64 (outBytes ((cSums l).take 16)) = ((outBytes (cSums l)).map U8).toArray := by
            rw [List.take_of_length_le (by rw [length_cSums, HL.out]; omega)]
            exact rowOf_full _ _ _ _ (by rw [length_outBytes, length_cSums, HL.out])
          rw [ho] at hO
          have hol : (outBytes (cSums l)).length = 64 := by rw [length_outBytes, length_cSums, HL.out]
          have HOL := hid hol
          clear ho hol
          go_wp2_with (first
            | (refine wpList_load_blk rfl 91 (.tmp 10) rfl wo.heap.size rfl 91 _ _ hO Tryd.underlying91 rfl (size26 _ HOL.out) ?_)
            | (refine wpList_store_blk rfl 91 (.tmp 6) (.tmp 46) rfl (w.heap.size + 1 + 1) _ rfl rfl 91 _ hR (size26 _ HOL.out) (by rw [size_map _ _ _ HOL.out]; rfl) (oneCell_map _ (fun _ => rfl) _) ?_
               intro wz hbz hgz
               have hbelz := below_grown hbel hgz hbel.size (by omega)))
          exact bodyPost_ret (results_cell_row rfl _ _ (w.heap.size + 1 + 1) 91 _ (0, 0) _ rfl hbz Tryd.underlying91 rfl (size26 _ HOL.out)) rfl ⟨by rw [HOUT.out], hbelz⟩
end Go.Proofs.YtidjfinookikcaaDoor
