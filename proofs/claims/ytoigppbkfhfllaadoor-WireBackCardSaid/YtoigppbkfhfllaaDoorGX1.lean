/-
  Texts of this claim.
-/
import Derived.Test.YtoigppbkfhfllaaDoorGY3
import Derived.Test.YtoigppbkfhfllaaDoorGY
import Derived.Test.YtoigppbkfhfllaaDoorGY2
import Derived.Test.YtoigppbkfhfllaaDoorGP1
import Derived.Test.YtoigppbkfhfllaaDoorGE
namespace Go.Proofs.YtoigppbkfhfllaaDoor
open Go.RowKit
/-- A field: its kind, and what it has. -/
structure FV where
  k : Int
  n : UInt64
  s : List UInt8
  l : List (List UInt8)
  hs : s.length ≤ maxLen
  hl : l.length ≤ maxLen
  hb : ∀ j, (l.getD j []).length ≤ maxLen
instance : Inhabited FV := ⟨⟨0, 0, [], [], Nat.zero_le _, Nat.zero_le _, fun _ => Nat.zero_le _⟩⟩
def fvR (a : FV) : List AV := [.i64 a.k, .u64 a.n, .str a.s, .dsl a.l]
/-- The bytes of a field. -/
def wrF (f : FV) : List UInt8 :=
  if f.k = 0 then [f.n.toUInt8] else if f.k = 1 then boolB (f.n % 2 == 1) else if f.k = 2 then numB f.n.toUInt32.toUInt64 4 4 else if f.k = 3 then numB f.n 8 8
  else if f.k = 4 then f.s.take 40 else if f.k = 6 then namesB (fewL f.l) else if f.k = 7 then bigB (f.s.take 40) else textB (f.s.take 40)
def wrN (l : List FV) : Nat → List UInt8
  | 0 => []
  | k + 1 => wrN l k ++ wrF (l.getD k default)
theorem few_join (l : List (List UInt8)) : (joinB (fewL l)).length ≤ 430 := by
  rw [joinB_len]
  have := fewL_sum l
  have := fewL_len l
  omega
theorem big_len (s : List UInt8) : (bigB s).length = 4 + (unsB (shortB s)).length := length_textB _
theorem uns40 (s : List UInt8) : (unsB (shortB (s.take 40))).length ≤ 41 := by
  have h1 := length_unsB (shortB (s.take 40))
  have h2 := length_shortB (s.take 40)
  have h3 : (s.take 40).length ≤ 40 := List.length_take_le 40 s
  omega
theorem wrF_len (f : FV) : (wrF f).length ≤ 440 := by
  have h1 := few_join f.l
  have h2 : (f.s.take 40).length ≤ 40 := List.length_take_le 40 f.s
  have h3 := uns40 f.s
  unfold wrF
  split
  · simp
  split
  · rw [length_boolB]; omega
  split
  · rw [length_numB]; omega
  split
  · rw [length_numB]; omega
  split
  · omega
  split
  · rw [length_namesB]; omega
  split
  · rw [big_len]; omega
  · rw [length_textB]; omega
theorem wrF_ne {f : FV} (h : f.k ≠ 4 ∨ f.s.take 40 ≠ []) : wrF f ≠ [] := by
  intro h2
  have h3 := congrArg List.length h2
  revert h3
  unfold wrF
  split
  · simp
  split
  · rw [length_boolB]; simp
  split
  · rw [length_numB]; simp
  split
  · rw [length_numB]; simp
  split
  · rename_i h4
    intro h5
    rcases h with h | h
    · exact h h4
    · exact h (List.eq_nil_of_length_eq_zero h5)
  split
  · rw [length_namesB]; simp
  split
  · rw [big_len]; simp
  · rw [length_textB]; simp
theorem wrN_len (l : List FV) (k : Nat) : (wrN l k).length ≤ 440 * k := by
  induction k with
  | zero => exact Nat.le_refl _
  | succ k ih =>
    have := wrF_len (l.getD k default)
    simp only [wrN, List.length_append]; omega
theorem wrN_ne {l : List FV} {k : Nat} (h : wrN l k ≠ [] ∨ wrF (l.getD k default) ≠ []) : wrN l (k + 1) ≠ [] := fun h2 => by
  obtain ⟨h3, h4⟩ := List.append_eq_nil_iff.1 h2
  rcases h with h | h
  · exact h h3
  · exact h h4
theorem wrF_4 {f : FV} (h : f.k = 4) : wrF f = f.s.take 40 := by
  unfold wrF
  rw [if_neg (by omega), if_neg (by omega), if_neg (by omega), if_neg (by omega), if_pos h]
theorem wrF_4n {f : FV} (h : f.k = 4) (h2 : f.s.take 40 = []) : wrF f = [] := (wrF_4 h).trans h2
theorem fvR_row (o k : Nat) (l : List FV) (h : k < l.length) : fvR (l.getD k default) = ((AV.agg (offC o (rowsC fvR l))).list.drop (o + k * 4)).take 4 := by
  show _ = ((offC o (rowsC fvR l)).drop (o + k * 4)).take 4
  unfold offC
  rw [List.drop_append, List.length_replicate, List.drop_of_length_le (l := List.replicate o AV.hole) (by rw [List.length_replicate]; omega), List.nil_append, show o + k * 4 - o = k * 4 by omega]
  induction l generalizing k with
  | nil => simp at h
  | cons a l ih =>
    cases k with
    | zero => rfl
    | succ k =>
      have := ih k (by simpa using h)
      rw [show (k + 1) * 4 = k * 4 + 4 by omega]
      exact this
end Go.Proofs.YtoigppbkfhfllaaDoor
namespace Go.Proofs.YtoigppbkfhfllaaDoor
open Go.RowKit
theorem rawD_app {a r : List UInt8} {e : Nat} {n : Nat} (h : a.length = n) : rawD ⟨a ++ r, e⟩ n = (⟨r, e⟩, a) := by
  unfold rawD
  rw [if_pos (by simp; omega)]
  simp only [← h, List.take_left, List.drop_left]
theorem shl8 (n : UInt64) (b : UInt8) (h : n.toNat < 2 ^ 56) : (n <<< UInt64.ofNat 8 ||| b.toUInt64).toNat = n.toNat * 256 + b.toNat := by
  have hb := b.toNat_lt
  rw [UInt64.toNat_or, UInt64.toNat_shiftLeft]
  have e : (UInt64.ofNat 8).toNat % 64 = 8 := rfl
  rw [e, UInt8.toNat_toUInt64, Nat.mod_eq_of_lt (by rw [Nat.shiftLeft_eq]; omega), Nat.shiftLeft_eq]
  rw [show n.toNat * 2 ^ 8 = 2 ^ 8 * n.toNat by omega]
  have hq : b.toNat < 2 ^ 8 := hb
  rw [← Nat.two_pow_add_eq_or_of_lt hq]
theorem byteAt (x : UInt64) (k : Nat) (hk : k < 64) : (x >>> UInt64.ofNat k).toUInt8.toNat = x.toNat / 2 ^ k % 256 := by
  rw [UInt64.toNat_toUInt8, UInt64.toNat_shiftRight]
  have e : (UInt64.ofNat k).toNat % 64 = k := by
    rw [UInt64.toNat_ofNat_of_lt' (by simp [UInt64.size]; omega)]; exact Nat.mod_eq_of_lt hk
  rw [e, Nat.shiftRight_eq_div_pow]
theorem num4 (x : UInt64) : numB x 4 4 = [(x >>> UInt64.ofNat 24).toUInt8, (x >>> UInt64.ofNat 16).toUInt8, (x >>> UInt64.ofNat 8).toUInt8, (x >>> UInt64.ofNat 0).toUInt8] := rfl
theorem numV4 (a b c d : UInt8) : (numV [a, b, c, d]).toNat = ((a.toNat * 256 + b.toNat) * 256 + c.toNat) * 256 + d.toNat := by
  have ha := a.toNat_lt
  have hb := b.toNat_lt
  have hc := c.toNat_lt
  show (numL [a, b, c, d] 4).toNat = _
  have h1 : (numL [a, b, c, d] 1).toNat = a.toNat := by
    show ((0 : UInt64) <<< UInt64.ofNat 8 ||| a.toUInt64).toNat = _
    rw [shl8 _ _ (show (0 : UInt64).toNat < 2 ^ 56 by decide)]
    show (0 : UInt64).toNat * 256 + _ = _
    simp
  have h2 : (numL [a, b, c, d] 2).toNat = a.toNat * 256 + b.toNat := by
    show (numL [a, b, c, d] 1 <<< UInt64.ofNat 8 ||| b.toUInt64).toNat = _
    rw [shl8 _ _ (by rw [h1]; omega), h1]
  have h3 : (numL [a, b, c, d] 3).toNat = (a.toNat * 256 + b.toNat) * 256 + c.toNat := by
    show (numL [a, b, c, d] 2 <<< UInt64.ofNat 8 ||| c.toUInt64).toNat = _
    rw [shl8 _ _ (by rw [h2]; omega), h2]
  show (numL [a, b, c, d] 3 <<< UInt64.ofNat 8 ||| d.toUInt64).toNat = _
  rw [shl8 _ _ (by rw [h3]; omega), h3]
theorem numV_num4 (x : UInt32) : (numV (numB x.toUInt64 4 4)).toUInt32 = x := by
  apply UInt32.toNat_inj.1
  rw [UInt64.toNat_toUInt32, num4, numV4, byteAt _ _ (by decide), byteAt _ _ (by decide), byteAt _ _ (by decide), byteAt _ _ (by decide), UInt32.toNat_toUInt64]
  have := x.toNat_lt
  omega
theorem u32D_app (x : UInt32) (r : List UInt8) (e : Nat) : u32D ⟨numB x.toUInt64 4 4 ++ r, e⟩ = (⟨r, e⟩, x) := by
  unfold u32D numD
  rw [rawD_app (length_numB _ _ _), numV_num4]
theorem textD_app (s r : List UInt8) (e : Nat) (m : Int) (hs : (s.length : Int) ≤ m) (hb : s.length < 4294967296) : textD ⟨textB s ++ r, e⟩ m = (⟨r, e⟩, s) := by
  unfold textD textB lenB
  rw [List.append_assoc, u32D_app]
  have hn : (ofI32 (s.length : Int)).toNat = s.length := by
    have := ofI32_toNat (s.length : Int)
    omega
  simp only [hn]
  rw [if_neg (by omega), rawD_app rfl]
theorem byteD_app (c : UInt8) (r : List UInt8) (e : Nat) : byteD ⟨c :: r, e⟩ = (⟨r, e⟩, c) := by
  unfold byteD numD
  rw [show (c :: r) = [c] ++ r from rfl, rawD_app (n := 1) rfl]
  have h : (numV [c]).toNat = c.toNat := by
    show ((0 : UInt64) <<< UInt64.ofNat 8 ||| c.toUInt64).toNat = _
    rw [shl8 _ _ (show (0 : UInt64).toNat < 2 ^ 56 by decide)]
    show (0 : UInt64).toNat * 256 + _ = _
    simp
  have : (numV [c]).toUInt8 = c := by
    apply UInt8.toNat_inj.1
    rw [UInt64.toNat_toUInt8, h]
    have := c.toNat_lt
    omega
  simp only [this]
theorem boolD_app (b : Bool) (r : List UInt8) (e : Nat) : boolD ⟨boolB b ++ r, e⟩ = (⟨r, e⟩, b) := by
  unfold boolD boolB
  rw [show ([if b then (1 : UInt8) else 0] ++ r) = (if b then 1 else 0) :: r from rfl, byteD_app]
  cases b <;> rfl
theorem rawD_all (r : List UInt8) (e : Nat) : rawD ⟨r, e⟩ r.length = (⟨[], e⟩, r) := by
  have := rawD_app (a := r) (r := []) (e := e) rfl
  rwa [List.append_nil] at this
end Go.Proofs.YtoigppbkfhfllaaDoor
namespace Go.Proofs.YtoigppbkfhfllaaDoor
open Go.RowKit
theorem splitC_ne (s : List UInt8) : splitC s ≠ [] := by
  cases s with
  | nil => simp [splitC]
  | cons c s =>
    simp only [splitC]
    split
    · simp
    · split <;> simp
theorem splitC_cons_ne {c : UInt8} {s : List UInt8} (h : ¬ c = 44) : ∃ x l, splitC s = x :: l ∧ splitC (c :: s) = (c :: x) :: l := by
  cases hs : splitC s with
  | nil => exact absurd hs (splitC_ne s)
  | cons x l => exact ⟨x, l, rfl, by simp only [splitC, if_neg h, hs]⟩
theorem splitC_none : ∀ (s : List UInt8), s.count 44 = 0 → splitC s = [s]
  | [], _ => rfl
  | c :: s, h => by
    rw [List.count_cons] at h
    have hc : ¬ c = 44 := fun e => by subst e; simp at h
    have hs : s.count 44 = 0 := by omega
    obtain ⟨x, l, h1, h2⟩ := splitC_cons_ne (s := s) hc
    rw [splitC_none s hs] at h1
    injection h1 with h1 h3
    rw [h2, ← h1, ← h3]
theorem splitC_len : ∀ (s : List UInt8), (splitC s).length = s.count 44 + 1
  | [] => rfl
  | c :: s => by
    have ih := splitC_len s
    rw [List.count_cons]
    by_cases hc : c = 44
    · subst hc; simp [splitC, ih]
    · obtain ⟨x, l, h1, h2⟩ := splitC_cons_ne (s := s) hc
      rw [h1] at ih
      rw [h2]
      have : (c == 44) = false := by simpa using hc
      simp only [List.length_cons, this] at ih ⊢
      simpa using ih
theorem splitC_idx : ∀ (s : List UInt8), 0 < s.count 44 → ∃ m : Nat, Lib.indexByte s 44 = (m : Int) ∧ m < s.length ∧ splitC s = s.take m :: splitC (s.drop (m + 1)) ∧ (s.drop (m + 1)).count 44 + 1 = s.count 44
  | [], h => by simp at h
  | c :: s, h => by
    by_cases hc : c = 44
    · subst hc
      exact ⟨0, by simp [Lib.indexByte], by simp, by simp [splitC], by simp⟩
    · have hb : (c == 44) = false := by simpa using hc
      have hcount : (c :: s).count 44 = s.count 44 := by rw [List.count_cons, hb]; simp
      rw [hcount] at h
      obtain ⟨m, h1, h2, h3, h4⟩ := splitC_idx s h
      refine ⟨m + 1, ?_, by simp; omega, ?_, by rw [hcount]; simpa using h4⟩
      · simp only [Lib.indexByte, hb, h1]
        have : ((m : Int) == -1) = false := by
          rw [beq_eq_false_iff_ne]; omega
        simp [this]
      · obtain ⟨x, l, g1, g2⟩ := splitC_cons_ne (s := s) hc
        rw [h3] at g1
        injection g1 with g1 g3
        rw [g2, ← g1, ← g3]
        simp
/-- The parts, where w stands before the first one. -/
def joinW (w : List UInt8) : List (List UInt8) → List (List UInt8)
  | x :: l => (w ++ x) :: l
  | [] => [w]
theorem joinW_step {w : List UInt8} {c : UInt8} {s : List UInt8} (h : ¬ c = 44) : joinW w (splitC (c :: s)) = joinW (w ++ [c]) (splitC s) := by
  obtain ⟨x, l, h1, h2⟩ := splitC_cons_ne (s := s) h
  rw [h1, h2]; simp [joinW]
theorem joinW_comma {w s : List UInt8} : joinW w (splitC (44 :: s)) = w :: splitC s := by simp [splitC, joinW]
theorem joinW_nil (s : List UInt8) : joinW [] (splitC s) = splitC s := by
  cases h : splitC s with
  | nil => exact absurd h (splitC_ne s)
  | cons x l => simp [joinW]
theorem drop_cons {s : List UInt8} {k : Nat} (h : k < s.length) : s.drop k = s.getD k 0 :: s.drop (k + 1) := by
  rw [List.drop_eq_getElem_cons h]
  simp [List.getD_eq_getElem?_getD, h]
end Go.Proofs.YtoigppbkfhfllaaDoor
namespace Go.Proofs.YtoigppbkfhfllaaDoor
open Go.RowKit
theorem numB_get (x : UInt64) (sz : Nat) : ∀ (n j : Nat), j < n → (numB x sz n).getD j 0 = (x >>> UInt64.ofNat (8 * (sz - 1 - j))).toUInt8
  | 0, _, h => absurd h (Nat.not_lt_zero _)
  | n + 1, j, h => by
    have hl := length_numB x sz n
    show (numB x sz n ++ _).getD j 0 = _
    rw [List.getD_eq_getElem?_getD]
    rcases Nat.lt_or_ge j n with h1 | h1
    · rw [List.getElem?_append_left (by omega), ← List.getD_eq_getElem?_getD]
      exact numB_get x sz n j h1
    · obtain rfl : j = n := by omega
      rw [List.getElem?_append_right (by omega), hl, Nat.sub_self]; rfl
theorem numL8 (x : UInt64) : ∀ j, j ≤ 8 → (numL (numB x 8 8) j).toNat = x.toNat / 2 ^ (8 * (8 - j))
  | 0, _ => by
    have := x.toNat_lt
    show (0 : UInt64).toNat = _
    rw [Nat.div_eq_of_lt (by simpa using this)]; rfl
  | j + 1, h => by
    have ih := numL8 x j (by omega)
    have hx := x.toNat_lt
    have e : 8 * (8 - j) = 8 * (8 - 1 - j) + 8 := by omega
    have e2 : 8 * (8 - (j + 1)) = 8 * (8 - 1 - j) := by omega
    rw [e, Nat.pow_add, ← Nat.div_div_eq_div_mul] at ih
    have hb : (numL (numB x 8 8) j).toNat < 2 ^ 56 := by
      rw [ih]
      have := Nat.div_le_self x.toNat (2 ^ (8 * (8 - 1 - j)))
      omega
    show (numL (numB x 8 8) j <<< UInt64.ofNat 8 ||| ((numB x 8 8).getD j 0).toUInt64).toNat = _
    rw [shl8 _ _ hb, numB_get x 8 8 j (by omega), byteAt _ _ (by omega), ih, e2]
    omega
theorem u64D_app (x : UInt64) (r : List UInt8) (e : Nat) : u64D ⟨numB x 8 8 ++ r, e⟩ = (⟨r, e⟩, x) := by
  unfold u64D numD
  rw [rawD_app (length_numB _ _ _)]
  have : numV (numB x 8 8) = x := UInt64.toNat_inj.1 (by
    show (numL (numB x 8 8) 8).toNat = _
    rw [numL8 x 8 (by decide)]; simp)
  rw [this]
theorem short_head (s : List UInt8) : ∀ {q : List UInt8}, shortB s = q → shortB q = q := by
  intro q h
  subst h
  unfold shortB
  induction s with
  | nil => rfl
  | cons a s ih =>
    by_cases ha : (a == 0) = true
    · rw [List.dropWhile_cons_of_pos (by simpa using ha)]; exact ih
    · rw [List.dropWhile_cons_of_neg (by simpa using ha), List.dropWhile_cons_of_neg (by simpa using ha)]
theorem short_uns (s : List UInt8) : shortB (unsB (shortB s)) = shortB s := by
  have h := short_head s rfl
  unfold unsB
  split
  · rename_i h0; rw [h0]; rfl
  · split
    · exact h
    · show ((0 : UInt8) :: shortB s).dropWhile (fun x => x == 0) = _
      rw [List.dropWhile_cons_of_pos (by rfl)]; exact h
theorem bigD_app (s r : List UInt8) (e : Nat) (hs : s.length ≤ 40) : bigD ⟨bigB s ++ r, e⟩ 40 = (⟨r, e⟩, shortB s) := by
  have h1 := length_shortB s
  have h2 := length_unsB (shortB s)
  have ht : bigT ⟨bigB s ++ r, e⟩ 40 = (⟨r, e⟩, unsB (shortB s)) := textD_app _ _ _ _ (by show _ ≤ ((40 : Int) + 1); omega) (by omega)
  unfold bigD
  rw [ht]
  simp only [short_uns]
  rw [if_pos trivial, if_neg (by show ¬ (40 : Int) < _; omega)]
theorem splitC_word : ∀ (w t : List UInt8), w.count 44 = 0 → splitC (w ++ 44 :: t) = w :: splitC t
  | [], t, _ => by simp [splitC]
  | c :: w, t, h => by
    have hc : ¬ c = 44 := fun e => by subst e; simp at h
    have h2 : w.count 44 = 0 := by rw [List.count_cons] at h; omega
    obtain ⟨x, l, e1, e2⟩ := splitC_cons_ne (s := w ++ 44 :: t) hc
    rw [splitC_word w t h2] at e1
    injection e1 with e1 e3
    subst e1; subst e3
    exact e2
theorem name_count {s : List UInt8} (h : nameOk s = true) : s.count 44 = 0 ∧ s ≠ [] := by
  unfold nameOk at h
  simp only [Bool.and_eq_true, Bool.not_eq_true'] at h
  refine ⟨List.count_eq_zero.2 fun hm => ?_, fun e => ?_⟩
  · have := List.all_eq_true.1 h.2 44 hm
    simp [chOk] at this
  · subst e; simp at h
theorem split_join : ∀ (x : List UInt8) (r : List (List UInt8)), (x :: r).all nameOk = true → splitC (joinB (x :: r)) = x :: r
  | x, [], h => by
    rw [joinB_one, splitC_none]
    exact (name_count (List.all_eq_true.1 h x (by simp))).1
  | x, y :: r, h => by
    have h2 : (y :: r).all nameOk = true := by rw [List.all_cons, Bool.and_eq_true] at h; exact h.2
    have e : joinB (x :: y :: r) = x ++ 44 :: joinB (y :: r) := by simp [joinB]
    rw [e, splitC_word _ _ (name_count (List.all_eq_true.1 h x (by simp))).1, split_join y r h2]
theorem namesD_app (ls : List (List UInt8)) (r : List UInt8) (e : Nat) (ha : ls.all nameOk = true) (hl : (joinB ls).length ≤ 4096) : namesD ⟨namesB ls ++ r, e⟩ = (⟨r, e⟩, ls) := by
  have ht : textD ⟨namesB ls ++ r, e⟩ 4096 = (⟨r, e⟩, joinB ls) := textD_app _ _ _ _ (by omega) (by omega)
  unfold namesD
  rw [ht]
  simp only
  cases ls with
  | nil => rfl
  | cons x q =>
    have hx := (name_count (List.all_eq_true.1 ha x (by simp))).2
    rw [if_neg (by
      intro h
      have := congrArg List.length h
      have hp := List.length_pos_iff.2 hx
      simp only [joinB, List.length_append, List.length_nil] at this; omega), split_join x q ha, if_pos ha]
/-- The names that may be, of a field's short ones. -/
def fltN (l : List (List UInt8)) (k : Nat) : List (List UInt8) := (l.take k).filter nameOk
theorem fltN_yes {l : List (List UInt8)} {k : Nat} (h : k < l.length) (hn : nameOk (l.getD k []) = true) : fltN l (k + 1) = fltN l k ++ [l.getD k []] := by
  unfold fltN
  rw [take_getD [] h, List.filter_append, List.filter_cons_of_pos hn]; rfl
theorem fltN_no {l : List (List UInt8)} {k : Nat} (h : k < l.length) (hn : nameOk (l.getD k []) = false) : fltN l (k + 1) = fltN l k := by
  unfold fltN
  rw [take_getD [] h, List.filter_append, List.filter_cons_of_neg (by rw [hn]; simp)]; simp
theorem fltN_len (l : List (List UInt8)) (k : Nat) : (fltN l k).length ≤ k := Nat.le_trans (List.length_filter_le _ _) (by rw [List.length_take]; omega)
def ownL (f : FV) : List (List UInt8) := (fewL f.l).filter nameOk
theorem fltN_all (f : FV) : fltN (fewL f.l) (fewL f.l).length = ownL f := by unfold fltN ownL; rw [List.take_length]
theorem ownL_ok (f : FV) : (ownL f).all nameOk = true := List.all_eq_true.2 fun _x hx => (List.mem_filter.1 hx).2
theorem ownL_len (f : FV) : (ownL f).length ≤ 6 := Nat.le_trans (List.length_filter_le _ _) (fewL_len f.l)
theorem sum_filter (p : List UInt8 → Bool) (l : List (List UInt8)) : sumB (l.filter p) ≤ sumB l := by
  induction l with
  | nil => exact Nat.le_refl _
  | cons x l ih =>
    unfold sumB at ih ⊢
    rw [List.filter_cons]
    split
    · simp only [List.map_cons, List.sum_cons]; omega
    · simp only [List.map_cons, List.sum_cons]; omega
theorem ownL_sum (f : FV) : sumB (ownL f) ≤ 420 := Nat.le_trans (sum_filter _ _) (fewL_sum f.l)
theorem ownL_join (f : FV) : (joinB (ownL f)).length ≤ 430 := by
  rw [joinB_len]
  have := ownL_sum f
  have := ownL_len f
  omega
def ownR (f : FV) : List AV := [.i64 f.k, .u64 f.n, .str (f.s.take 40), .dsl (ownL f)]
/-- The bytes of a field's five readings. -/
def encF (f : FV) : List UInt8 := (((numB f.n 8 8 ++ textB (f.s.take 40)) ++ namesB (ownL f)) ++ bigB (f.s.take 40)) ++ boolB (decide (9 < f.n))
def encR : List FV → List UInt8
  | [] => []
  | f :: r => encF f ++ encR r
theorem encR_take {l : List FV} {k : Nat} (h : k < l.length) : encR (l.take (k + 1)) = encR (l.take k) ++ encF (l.getD k default) := by
  induction l generalizing k with
  | nil => simp at h
  | cons a l ih =>
    cases k with
    | zero => show encF a ++ encR (l.take 0) = [] ++ encF a; simp [encR]
    | succ k =>
      have := ih (by simpa using h)
      show encF a ++ encR (l.take (k + 1)) = (encF a ++ encR (l.take k)) ++ encF (l.getD k default)
      rw [this, List.append_assoc]
theorem encR_drop {l : List FV} {k : Nat} (h : k < l.length) : encR (l.drop k) = encF (l.getD k default) ++ encR (l.drop (k + 1)) := by
  induction l generalizing k with
  | nil => simp at h
  | cons a l ih =>
    cases k with
    | zero => rfl
    | succ k => exact ih (by simpa using h)
theorem encF_len (f : FV) : (encF f).length ≤ 600 := by
  have h1 := ownL_join f
  have h2 : (f.s.take 40).length ≤ 40 := List.length_take_le 40 f.s
  have h3 := uns40 f.s
  unfold encF
  simp only [List.length_append, length_numB, length_textB, length_namesB, big_len, length_boolB]
  omega
theorem encR_len (l : List FV) : (encR l).length ≤ 600 * l.length := by
  induction l with
  | nil => exact Nat.le_refl _
  | cons a l ih =>
    have := encF_len a
    simp only [encR, List.length_append, List.length_cons]; omega
theorem encF_pos (f : FV) : 0 < (encF f).length := by
  unfold encF
  simp only [List.length_append, length_numB]; omega
theorem ownR_row {l : List FV} {k : Nat} (h : k < l.length) : ownR (l.getD k default) = ((AV.agg (rowsC ownR l)).list.drop (0 + k * 4)).take 4 := by
  show _ = ((rowsC ownR l).drop (0 + k * 4)).take 4
  rw [Nat.zero_add]
  induction l generalizing k with
  | nil => simp at h
  | cons a l ih =>
    cases k with
    | zero => rfl
    | succ k =>
      have := ih (by simpa using h)
      rw [show (k + 1) * 4 = k * 4 + 4 by omega]
      exact this
theorem rows_take {l : List FV} {k : Nat} (h : k < l.length) : rowsC ownR (l.take (k + 1)) = rowsC ownR (l.take k) ++ ownR (l.getD k default) := by
  unfold rowsC
  rw [take_getD default h, List.flatMap_append]; simp
end Go.Proofs.YtoigppbkfhfllaaDoor
namespace Go.Proofs.YtoigppbkfhfllaaDoor
open Go.RowKit
theorem op_buildRow {P : Program} {T : Nat → Option AV} {H : Hp} {nm : Nat} {wr : Bool} {d : Option Tmp} {ty : TypeId} {ps : String} {af : Array Edge} {gd : Option (Nat × Bool)} {t e : TypeId} {x : Operand} {zv : Value} {z : Nat} {r : AV} {cs : List AV}
    (hu : P.underlying t = some (.slice e)) (hi : Inf P e z zv) (hz0 : 0 < z) (hzm : z ≤ 1000) (hx : aev T x = some r) (hr : r.parts = some cs) (hl : cs.length = z) :
    OpSem P T H ⟨d, .buildSlice t 1 #[(0, x)], ty, ps, af, gd⟩ nm wr (.sl nm 0 1 z) [(nm, some ⟨r, e, true⟩)] := by
  obtain ⟨ie, hie, hz, hsz, _, _⟩ := hi
  exact .allocs fun E S a w h hR => by
    obtain ⟨ds, hd, hdl, hone, hcs⟩ := (h x (by simp [Op.operands]) _ hx).agg_inv hr
    have hds : ds.size = z := by omega
    have hf : Instr.fill (fun i => some (i * ie.size, ie.size)) ((Array.range (1 * ie.size)).map (zv.cells[· % zv.cells.size]!)) ((#[(0, x)] : Array (Nat × Operand)).map fun (i, x) => (i, a.eval x)).toList = some ds := by
      have e2 : ((#[((0 : Nat), x)] : Array (Nat × Operand)).map fun (i, x) => (i, a.eval x)).toList = [(0, .agg ds)] := by simp [hd]
      rw [e2]
      have hzs : ((Array.range (1 * ie.size)).map (zv.cells[· % zv.cells.size]!)).size = ds.size := by simp; omega
      generalize (Array.range (1 * ie.size)).map (zv.cells[· % zv.cells.size]!) = zc at hzs
      have h1 := foldset_all ds zc hzs
      have hc0 : (Value.agg ds).cells = ds := rfl
      simp only [Instr.fill, hc0, Nat.zero_mul, Nat.zero_add]
      rw [if_neg (by simp only [Bool.or_eq_true, decide_eq_true_eq, ne_eq]; omega)]
      exact congrArg some h1
    have hrun := run_buildSlice (P := P) w t e 1 _ ds ie zv hu hie hz (by omega) (by omega) hf
    have hll : r.list.length = z := by simp [AV.list, hr, hl]
    refine ⟨_, ds, (0, 0), w, by simp only [execOp, Sem.run_bind, hrun]; rfl, rfl, rfl, rfl, rfl, .sl _ _ _ _ _ _ _ (Emb.put_same _ _ _) (Nat.le_refl _) (by unfold maxLen; omega) (by omega), FzOk.zero _ _, by rw [hll]; omega, fun i q hq => ?_⟩
    replace hq : cs[i]? = some q := by simpa [AV.list, hr] using hq
    have hlt := (List.getElem?_eq_some_iff.1 hq).1
    refine ⟨hone q (List.mem_of_getElem? hq), ds[i]'(by omega), by rw [Array.getElem?_eq_getElem], hcs i q _ hq (by rw [Array.getElem?_eq_getElem])⟩
end Go.Proofs.YtoigppbkfhfllaaDoor
