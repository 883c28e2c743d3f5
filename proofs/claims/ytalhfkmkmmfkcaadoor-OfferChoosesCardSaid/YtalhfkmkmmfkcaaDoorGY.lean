/-
  The encoder and the decoder, walked.
-/
import Derived.Test.YtalhfkmkmmfkcaaDoorGE
import Derived.Test.YtalhfkmkmmfkcaaDoorGP1
namespace Go.Proofs.YtalhfkmkmmfkcaaDoor
open Go.RowKit

/-- What is left to read, and the number of the first error (0: none). -/
structure DI where
  r : List UInt8
  e : Nat
def orE : Nat → Nat → Nat
  | 0, x => x
  | n + 1, _ => n + 1
def failD (i : DI) (x : Nat) : DI := ⟨[], orE i.e x⟩
def rawD (i : DI) (n : Nat) : DI × List UInt8 := if n ≤ i.r.length then (⟨i.r.drop n, i.e⟩, i.r.take n) else (failD i 2, [])
/-- The number of the first j bytes. -/
def numL (s : List UInt8) : Nat → UInt64
  | 0 => 0
  | j + 1 => numL s j <<< UInt64.ofNat 8 ||| (s.getD j 0).toUInt64
def numV (s : List UInt8) : UInt64 := numL s s.length
def numD (i : DI) (k : Nat) : DI × UInt64 := ((rawD i k).1, numV (rawD i k).2)
def byteD (i : DI) : DI × UInt8 := ((numD i 1).1, (numD i 1).2.toUInt8)
def boolD (i : DI) : DI × Bool := ((byteD i).1, (byteD i).2 != 0)
def u32D (i : DI) : DI × UInt32 := ((numD i 4).1, (numD i 4).2.toUInt32)
def u64D (i : DI) : DI × UInt64 := numD i 8
def textD (i : DI) (most : Int) : DI × List UInt8 := if most < ((u32D i).2.toNat : Int) then (failD (u32D i).1 4, []) else rawD (u32D i).1 (u32D i).2.toNat
def chOk (c : UInt8) : Bool := !(decide (c ≤ 32)) && !(decide (126 < c)) && !(c == 44)
def nameOk (s : List UInt8) : Bool := !(s == []) && !(decide (64 < s.length)) && s.all chOk
def splitC : List UInt8 → List (List UInt8)
  | [] => [[]]
  | c :: s => if c = 44 then [] :: splitC s else match splitC s with
    | x :: l => (c :: x) :: l
    | [] => [[c]]
def namesD (i : DI) : DI × List (List UInt8) :=
  if (textD i 4096).2 = [] then ((textD i 4096).1, []) else
  if (splitC (textD i 4096).2).all nameOk then ((textD i 4096).1, splitC (textD i 4096).2) else (failD (textD i 4096).1 3, [])
def endD (i : DI) : DI := if i.r = [] then i else failD i 3

def bigM (most : Int) : Int := min (max most 0) 4096
def bigT (i : DI) (most : Int) : DI × List UInt8 := textD i (bigM most + 1)
def shortB (s : List UInt8) : List UInt8 := s.dropWhile (fun x => x == 0)
def unsB (s : List UInt8) : List UInt8 := if s = [] then [] else if s.getD 0 0 < 128 then s else 0 :: s
def bigD (i : DI) (most : Int) : DI × List UInt8 :=
  if unsB (shortB (bigT i most).2) = (bigT i most).2 then
    if bigM most < ((shortB (bigT i most).2).length : Int) then (failD (bigT i most).1 4, []) else ((bigT i most).1, shortB (bigT i most).2)
  else (failD (bigT i most).1 3, [])
theorem length_shortB (s : List UInt8) : (shortB s).length ≤ s.length := by unfold shortB; exact (List.dropWhile_sublist _).length_le
theorem length_unsB (s : List UInt8) : (unsB s).length ≤ s.length + 1 := by unfold unsB; split <;> (try split) <;> simp_all

/-- Where an error is, nothing is left. -/
def DI.ok (i : DI) : Prop := i.e ≠ 0 → i.r = []
theorem failD_ok (i : DI) (x : Nat) : (failD i x).ok := fun _ => rfl
theorem rawD_ok {i : DI} (h : i.ok) (n : Nat) : (rawD i n).1.ok := by
  unfold rawD
  split
  · intro he; simp only at he ⊢; rw [h he]; simp
  · exact failD_ok _ _
theorem rawD_length (i : DI) (n : Nat) : (rawD i n).2.length = n ∨ (rawD i n).2 = [] := by
  unfold rawD
  split
  · left; simp only [List.length_take]; omega
  · right; rfl
theorem rawD_len_le (i : DI) (n : Nat) : (rawD i n).2.length ≤ i.r.length ∧ (rawD i n).1.r.length ≤ i.r.length := by
  unfold rawD
  split
  · simp only [List.length_take, List.length_drop]; omega
  · simp [failD]
theorem textD_ok {i : DI} (h : i.ok) (m : Int) : (textD i m).1.ok := by
  unfold textD
  split
  · exact failD_ok _ _
  · exact rawD_ok (rawD_ok h 4) _
theorem textD_len_le (i : DI) (m : Int) : (textD i m).2.length ≤ i.r.length ∧ (textD i m).1.r.length ≤ i.r.length := by
  have h0 := rawD_len_le i 4
  unfold textD
  split
  · simp [failD]
  · have h := rawD_len_le (u32D i).1 (u32D i).2.toNat
    have h2 : (u32D i).1.r.length ≤ i.r.length := h0.2
    omega
end Go.Proofs.YtalhfkmkmmfkcaaDoor
namespace Go.Proofs.YtalhfkmkmmfkcaaDoor
theorem take_getD {α : Type} {l : List α} {k : Nat} (d : α) (h : k < l.length) : l.take (k + 1) = l.take k ++ [l.getD k d] := by
  rw [List.take_add_one, List.getElem?_eq_getElem h]; simp [List.getD, List.getElem?_eq_getElem h]
/-- With commas between. -/
def joinB : List (List UInt8) → List UInt8
  | [] => []
  | x :: r => x ++ (r.map ([44] ++ ·)).flatten
def sumB (l : List (List UInt8)) : Nat := (l.map List.length).sum
theorem joinB_one (x : List UInt8) : joinB [x] = x := by simp [joinB]
theorem joinB_take {l : List (List UInt8)} {k : Nat} (h : k < l.length) : joinB (l.take (k + 1)) = (joinB (l.take k) ++ (if k = 0 then [] else [44])) ++ l.getD k [] := by
  cases l with
  | nil => simp at h
  | cons x r =>
    cases k with
    | zero => simp [joinB]
    | succ k =>
      have hk : k < r.length := by simpa using h
      simp only [List.take_succ_cons, joinB, List.getD_cons_succ, if_neg (Nat.succ_ne_zero k)]
      rw [take_getD [] hk, List.map_append, List.flatten_append]
      simp
theorem joinB_take_s {l : List (List UInt8)} {k : Nat} (h : k + 1 < l.length) : joinB (l.take (k + 2)) = (joinB (l.take (k + 1)) ++ [44]) ++ l.getD (k + 1) [] := by
  rw [joinB_take h, if_neg (Nat.succ_ne_zero k)]
theorem joinB_take1 {l : List (List UInt8)} (h : 0 < l.length) : joinB (l.take 1) = l.getD 0 [] := by
  rw [joinB_take h]; simp [joinB]
theorem joinB_take0 (l : List (List UInt8)) : joinB (l.take 0) = [] := rfl
theorem sumB_take {l : List (List UInt8)} {k : Nat} (h : k < l.length) : sumB (l.take (k + 1)) = sumB (l.take k) + (l.getD k []).length := by
  unfold sumB
  rw [take_getD [] h, List.map_append, List.sum_append]
  rfl
theorem sumB_take_le (l : List (List UInt8)) (k : Nat) : sumB (l.take k) ≤ sumB l := by
  unfold sumB
  induction l generalizing k with
  | nil => simp
  | cons x r ih =>
    cases k with
    | zero => simp
    | succ k => simp only [List.take_succ_cons, List.map_cons, List.sum_cons]; exact Nat.add_le_add_left (ih k) _
theorem getD_le_sumB (l : List (List UInt8)) (k : Nat) : (l.getD k []).length ≤ sumB l := by
  rcases Nat.lt_or_ge k l.length with h | h
  · have := sumB_take h; have := sumB_take_le l (k + 1); omega
  · simp [List.getD, List.getElem?_eq_none h]
theorem joinB_len : ∀ (l : List (List UInt8)), (joinB l).length = sumB l + (l.length - 1)
  | [] => rfl
  | x :: r => by
    have : ∀ (r : List (List UInt8)), ((r.map ([44] ++ ·)).flatten).length = sumB r + r.length := by
      intro r
      induction r with
      | nil => rfl
      | cons y r ih => simp only [List.map_cons, List.flatten_cons, List.length_append, ih, sumB, List.sum_cons, List.length_cons, List.length_nil]; omega
    simp only [joinB, List.length_append, this, sumB, List.map_cons, List.sum_cons, List.length_cons]; omega
theorem joinB_take_le (l : List (List UInt8)) (k : Nat) : (joinB (l.take k)).length ≤ sumB l + l.length := by
  rw [joinB_len]
  have := sumB_take_le l k
  have : (l.take k).length ≤ l.length := by rw [List.length_take]; omega
  omega
theorem quo_ok {m : Nat} (h1 : 1 ≤ m) (h2 : m ≤ 1000000000) : ¬ (1 : Int) ≥ Int.tdiv 9223372036854775807 (m : Int) := by
  have h3 : Int.tdiv 9223372036854775807 (m : Int) = ((9223372036854775807 / m : Nat) : Int) := rfl
  rw [h3]
  have h4 : 2 ≤ 9223372036854775807 / m := by
    rw [Nat.le_div_iff_mul_le (by omega)]; omega
  omega
/-- Short ones: the first k of a list. -/
def fewN (l : List (List UInt8)) (k : Nat) : List (List UInt8) := (l.take k).map (List.take 70)
theorem fewN_zero (l : List (List UInt8)) : fewN l 0 = [] := rfl
theorem fewN_succ {l : List (List UInt8)} {k : Nat} (h : k < l.length) : fewN l (k + 1) = fewN l k ++ [(l.getD k []).take 70] := by
  unfold fewN
  rw [take_getD [] h, List.map_append]
  rfl
theorem fewN_len {l : List (List UInt8)} {k : Nat} (h : k ≤ l.length) : (fewN l k).length = k := by simp [fewN, Nat.min_eq_left h]
def fewL (l : List (List UInt8)) : List (List UInt8) := fewN l 6
theorem fewL_of {l : List (List UInt8)} {k : Nat} (h : k ≤ l.length) (h2 : ¬ k < l.length ∨ ¬ k < 6) (h3 : k ≤ 6) : fewN l k = fewL l := by
  unfold fewL fewN
  rcases Nat.lt_or_ge k 6 with h4 | h4
  · rw [List.take_of_length_le (by omega : l.length ≤ k), List.take_of_length_le (by omega)]
  · rw [show k = 6 by omega]
theorem fewL_len (l : List (List UInt8)) : (fewL l).length ≤ 6 := by simp [fewL, fewN]; omega
theorem fewL_sum (l : List (List UInt8)) : sumB (fewL l) ≤ 420 := by
  unfold sumB fewL fewN
  have h : ∀ (m : List (List UInt8)), (((m.map (List.take 70)).map List.length).sum) ≤ 70 * m.length := by
    intro m
    induction m with
    | nil => simp
    | cons x r ih => simp only [List.map_cons, List.sum_cons, List.length_cons, List.length_take]; omega
  have := h (l.take 6)
  have : (l.take 6).length ≤ 6 := by rw [List.length_take]; omega
  omega
theorem drop_get {l : List (List UInt8)} {k : Nat} (h : k < l.length) : (l.drop k)[0]? = some (l.getD k []) := by
  rw [List.getElem?_drop, Nat.add_zero, List.getElem?_eq_getElem h]; simp [List.getD, List.getElem?_eq_getElem h]
theorem drop_get1 {l : List (List UInt8)} {k : Nat} (h : k + 1 < l.length) : (((l.drop 1).take (l.length - 1)).drop k)[0]? = some (l.getD (k + 1) []) := by
  rw [List.getElem?_drop, Nat.add_zero, List.getElem?_take, if_pos (by omega), List.getElem?_drop, Nat.add_comm 1 k, List.getElem?_eq_getElem h]; simp [List.getD, List.getElem?_eq_getElem h]
end Go.Proofs.YtalhfkmkmmfkcaaDoor
namespace Go.Proofs.YtalhfkmkmmfkcaaDoor
open Go.RowKit
set_option maxRecDepth 100000 in
theorem jcc0_ev  : Meets Tryd.prog 43 [.ptr 500 0] [(500, some ⟨.agg [.val (.pointer none), .nilsl], 98, true⟩)] (.tup []) [(500, some ⟨.agg [.ptr 500 0, .nilsl], 98, true⟩)] := by
 refine meets_of_ev (nt := 20) Tryd.func43 rfl rfl (Nat.le_of_ble_eq_true rfl) ?_
 refine .seq ?_
 refine .region ?_
 refine .q (op_move rfl) trivial rfl ?_
 refine .q (op_nilCheck rfl) trivial rfl ?_
 refine .q (op_fieldAddr (m := 0) Tryd.underlying98 rfl (by kernel_rfl) rfl) trivial rfl ?_
 refine .as (.ptr 500 0) rfl ?_
 refine .q (op_load Tryd.underlying96 rfl rfl rfl rfl (by first | omega | (simp only [AV.len]; omega) | (simp only [AV.len]; omega) | assumption | (simp [AV.len]; done))) trivial rfl ?_
 refine .q (op_eqNilPtr Tryd.underlying96 rfl rfl rfl) trivial rfl ?_
 refine .nil ?_
 show Ev _ _ _ _ _
 refine .cond_true rfl (rfl) ?_
 refine .region ?_
 refine .q (op_move rfl) trivial rfl ?_
 refine .q (op_move rfl) trivial rfl ?_
 refine .q (op_toUnsafe Tryd.underlying96 Tryd.underlying106 (by kernel_rfl) rfl rfl rfl) trivial rfl ?_
 refine .q (op_noEscape Tryd.func49 (by kernel_rfl) (by kernel_rfl) (by kernel_rfl) rfl rfl) trivial rfl ?_
 refine .q (op_fromUnsafe Tryd.underlying106 Tryd.underlying96 (by kernel_rfl) rfl rfl (by decide) rfl (by kernel_rfl) (by kernel_rfl) (by kernel_rfl)) trivial rfl ?_
 refine .q (op_nilCheck rfl) trivial rfl ?_
 refine .q (op_fieldAddr (m := 0) Tryd.underlying98 rfl (by kernel_rfl) rfl) trivial rfl ?_
 refine .as (.ptr 500 0) rfl ?_
 refine .w (op_store (by kernel_rfl) rfl rfl rfl rfl rfl (by first | omega | (simp only [AV.len]; omega) | (simp only [AV.len]; omega) | assumption | (simp [AV.len]; done))) trivial rfl ?_
 refine .nil ?_
 show RetOk _ _ _ _ _ _ _
 exact ret0 rfl (.inr rfl) ⟨rfl, trivial⟩
set_option maxRecDepth 100000 in
theorem jcc2_ev (n : Nat) : Meets Tryd.prog 43 [.ptr 500 0] [(500, some ⟨.agg [.ptr 500 0, .sl 501 0 (n) 1], 98, false⟩)] (.tup []) [(500, some ⟨.agg [.ptr 500 0, .sl 501 0 (n) 1], 98, false⟩)] := by
 refine meets_of_ev (nt := 20) Tryd.func43 rfl rfl (Nat.le_of_ble_eq_true rfl) ?_
 refine .seq ?_
 refine .region ?_
 refine .q (op_move rfl) trivial rfl ?_
 refine .q (op_nilCheck rfl) trivial rfl ?_
 refine .q (op_fieldAddr (m := 0) Tryd.underlying98 rfl (by kernel_rfl) rfl) trivial rfl ?_
 refine .as (.ptr 500 0) rfl ?_
 refine .q (op_load Tryd.underlying96 rfl rfl rfl rfl (by first | omega | (simp only [AV.len]; omega) | (simp only [AV.len]; omega) | assumption | (simp [AV.len]; done))) trivial rfl ?_
 refine .q (op_eqPtrNil Tryd.underlying96 rfl rfl rfl) trivial rfl ?_
 refine .nil ?_
 show Ev _ _ _ _ _
 refine .cond_false rfl (rfl) ?_
 refine .seq ?_
 refine .region ?_
 refine .q (op_move rfl) trivial rfl ?_
 refine .q (op_nilCheck rfl) trivial rfl ?_
 refine .q (op_fieldAddr (m := 0) Tryd.underlying98 rfl (by kernel_rfl) rfl) trivial rfl ?_
 refine .as (.ptr 500 0) rfl ?_
 refine .q (op_load Tryd.underlying96 rfl rfl rfl rfl (by first | omega | (simp only [AV.len]; omega) | (simp only [AV.len]; omega) | assumption | (simp [AV.len]; done))) trivial rfl ?_
 refine .q (op_move rfl) trivial rfl ?_
 refine .q (op_eqPtrSame Tryd.underlying96 (by kernel_rfl) rfl rfl rfl) trivial rfl ?_
 refine .nil ?_
 show Ev _ _ _ _ _
 refine .cond_false rfl (rfl) ?_
 refine .skip ?_
 show RetOk _ _ _ _ _ _ _
 exact ret0 rfl (.inr rfl) ⟨rfl, trivial⟩
set_option maxRecDepth 100000 in
theorem jws2_ev (l : List UInt8) (n : Nat) (hn : n = l.length) (h : n ≤ 1000000000) (s : List UInt8) (hs : s.length ≤ 1000000000) : Meets Tryd.prog 40 [.ptr 500 0, .str s] [(500, some ⟨.agg [.ptr 500 0, .sl 501 0 (n) 1], 98, true⟩), (501, some ⟨.aggB l, 5, true⟩)] (.tup [.i64 (s.length : Int), .val .nilIface]) [(500, some ⟨.agg [.ptr 500 0, .sl 1000 0 (n + s.length) 1], 98, true⟩), (1000, some ⟨.aggB (l ++ s), 5, true⟩)] := by
 refine meets_of_ev (nt := 19) Tryd.func40 rfl rfl (Nat.le_of_ble_eq_true rfl) ?_
 refine .seq ?_
 refine .region ?_
 refine .q (op_assign rfl) trivial rfl ?_
 refine .q (op_assign rfl) trivial rfl ?_
 refine .nil ?_
 show Ev _ _ _ _ _
 refine .seq ?_
 refine .region ?_
 refine .q (op_move rfl) trivial rfl ?_
 refine .q (op_call (U := []) [(500, 500), (501, 501)] [] (jcc2_ev n) Tryd.func43 (by kernel_rfl) rfl rfl rfl (⟨⟨_, rfl, rfl, rfl⟩, trivial⟩) (⟨⟨_, _, rfl, rfl, rfl, rfl, (fun h => by cases h), rfl⟩, trivial⟩) (trivial) (⟨(fun h => by cases h), trivial⟩) rfl) trivial rfl ?_
 refine .nil ?_
 show Ev _ _ _ _ _
 refine .seq ?_
 refine .region ?_
 refine .q (op_move rfl) trivial rfl ?_
 refine .q (op_move rfl) trivial rfl ?_
 refine .q (op_nilCheck rfl) trivial rfl ?_
 refine .q (op_fieldAddr (m := 0) Tryd.underlying98 rfl (by kernel_rfl) rfl) trivial rfl ?_
 refine .as (.ptr 500 1) rfl ?_
 refine .q (op_load Tryd.underlying44 rfl rfl rfl rfl (by first | omega | (simp only [AV.len]; omega) | (simp only [AV.len]; omega) | assumption | (simp [AV.len]; done))) trivial rfl ?_
 refine .q (op_move rfl) trivial rfl ?_
 refine .a (ap_catS Tryd.underlying44 inf5 Tryd.underlying9 rfl rfl rfl (hn) (by omega)) trivial rfl ?_
 refine .q (op_nilCheck rfl) trivial rfl ?_
 refine .q (op_fieldAddr (m := 0) Tryd.underlying98 rfl (by kernel_rfl) rfl) trivial rfl ?_
 refine .as (.ptr 500 1) rfl ?_
 refine .w (op_store (by kernel_rfl) rfl rfl rfl rfl rfl (by first | omega | (simp only [AV.len]; omega) | (simp only [AV.len]; omega) | assumption | (simp [AV.len]; done))) trivial rfl ?_
 refine .nil ?_
 show Ev _ _ _ _ _
 refine .seq ?_
 refine .region ?_
 refine .q (op_move rfl) trivial rfl ?_
 refine .q (op_len_str Tryd.underlying9 rfl) trivial rfl ?_
 refine .q (op_assign rfl) trivial rfl ?_
 refine .q (op_assign rfl) trivial rfl ?_
 refine .nil ?_
 show Ev _ _ _ _ _
 refine .ret ?_
 show RetOk _ _ _ _ _ _ _
 exact ret2v rfl (.inl rfl) rfl rfl rfl rfl ⟨rfl, rfl, trivial⟩
set_option maxRecDepth 100000 in
theorem jst2_ev (l : List UInt8) (n : Nat) (hn : n = l.length) (h0 : 0 < n) (h : n ≤ 1000000000) : Meets Tryd.prog 41 [.ptr 500 0] [(500, some ⟨.agg [.ptr 500 0, .sl 501 0 (n) 1], 98, false⟩), (501, some ⟨.aggB l, 5, true⟩)] (.str l) [(500, some ⟨.agg [.ptr 500 0, .sl 501 0 (n) 1], 98, false⟩), (501, some ⟨.aggB l, (frz + 5), false⟩)] := by
 refine meets_of_ev (nt := 14) Tryd.func41 rfl rfl (Nat.le_of_ble_eq_true rfl) ?_
 refine .seq ?_
 refine .region ?_
 refine .q (op_assign rfl) trivial rfl ?_
 refine .nil ?_
 show Ev _ _ _ _ _
 refine .seq ?_
 refine .drawn [[], [0], [0, 1], [0, 1, 2], [0, 1, 2, 3], [], [5], [5, 6], [5, 6, 7], [5, 6, 7, 8], [0, 1, 2, 3, 4, 5, 6, 7, 8, 9], [0, 1, 2, 3, 4, 5, 6, 7, 8, 9, 10]] [3, 8, 10] [10] (by kernel_rfl) (by kernel_rfl) rfl ?_
 show DK _ [0, 1, 2, 3, 4, 5, 6, 7, 8, 9, 10, 11] _ _ _
 refine .q rfl (op_move rfl) trivial ?_
 refine .q rfl (op_nilCheck rfl) trivial ?_
 refine .q rfl (op_fieldAddr (m := 0) Tryd.underlying98 rfl (by kernel_rfl) rfl) trivial ?_
 refine .as (.ptr 500 1) rfl ?_
 refine .q rfl (op_load Tryd.underlying44 rfl rfl rfl rfl (by first | omega | (simp only [AV.len]; omega) | (simp only [AV.len]; omega) | assumption | (simp [AV.len]; done))) trivial ?_
 refine .q rfl (op_sliceData rfl (h0)) trivial ?_
 refine .q rfl (op_move rfl) trivial ?_
 refine .q rfl (op_nilCheck rfl) trivial ?_
 refine .q rfl (op_fieldAddr (m := 0) Tryd.underlying98 rfl (by kernel_rfl) rfl) trivial ?_
 refine .as (.ptr 500 1) rfl ?_
 refine .q rfl (op_load Tryd.underlying44 rfl rfl rfl rfl (by first | omega | (simp only [AV.len]; omega) | (simp only [AV.len]; omega) | assumption | (simp [AV.len]; done))) trivial ?_
 refine .q rfl (op_len_sl Tryd.underlying44 rfl) trivial ?_
 refine .a rfl (op_unsafeString (e := 5) Tryd.underlying103 (by kernel_rfl) rfl rfl (congrArg Int.ofNat hn) rfl rfl rfl (by decide) (by decide) rfl (by omega) (by omega)) trivial rfl rfl ?_
 refine .q rfl (op_assign rfl) trivial ?_
 refine .nil ?_
 show Ev _ _ _ _ _
 refine .ret ?_
 show RetOk _ _ _ _ _ _ _
 exact ret1v rfl (.inl rfl) rfl rfl ⟨rfl, rfl, trivial⟩
set_option maxRecDepth 100000 in
theorem jgrow_ev (n : Nat) (h : n ≤ 1000000000) : Meets Tryd.prog 44 [.ptr 500 0, .i64 (n : Int)] [(500, some ⟨.agg [.ptr 500 0, .nilsl], 98, true⟩)] (.tup []) [(500, some ⟨.agg [.ptr 500 0, .sl 1064 0 (0) 1], 98, true⟩), (1064, some ⟨.aggB [], 5, true⟩)] := by
 refine meets_of_ev (nt := 30) Tryd.func44 rfl rfl (Nat.le_of_ble_eq_true rfl) ?_
 refine .seq ?_
 refine .drawn [[], [0], [0, 1], [0, 1, 2], [0, 1, 2, 3], [0, 1, 2, 3, 4], [], [0, 1, 2, 3, 4, 5, 6], [0, 1, 2, 3, 4, 5, 6, 7], [], [9], [9, 10], [9, 10, 11], [9, 10, 11, 12], [0, 1, 2, 3, 4, 5, 6, 7, 8, 9, 10, 11, 12, 13], [0, 1, 2, 3, 4, 5, 6, 7, 8, 9, 10, 11, 12, 13, 14]] [3, 8, 12] [] (by kernel_rfl) (by kernel_rfl) rfl ?_
 show DK _ [0, 1, 2, 3, 4, 5, 6, 7, 8, 9, 10, 11, 12, 13, 14, 15] _ _ _
 refine .q rfl (op_move rfl) trivial ?_
 refine .q rfl (op_nilCheck rfl) trivial ?_
 refine .q rfl (op_fieldAddr (m := 0) Tryd.underlying98 rfl (by kernel_rfl) rfl) trivial ?_
 refine .as (.ptr 500 1) rfl ?_
 refine .q rfl (op_load Tryd.underlying44 rfl rfl rfl rfl (by first | omega | (simp only [AV.len]; omega) | (simp only [AV.len]; omega) | assumption | (simp [AV.len]; done))) trivial ?_
 refine .q rfl (op_cap_nil Tryd.underlying44 rfl) trivial ?_
 refine .q rfl (op_mulI rfl rfl ⟨by omega, by omega⟩) trivial ?_
 refine .q rfl (op_move rfl) trivial ?_
 refine .q rfl (op_addI rfl rfl ⟨by omega, by omega⟩) trivial ?_
 refine .a rfl (op_makeNoZero (p1 := #[3]) (n := n) (c := .aggB []) Tryd.func50 (by kernel_rfl) (by kernel_rfl) (by kernel_rfl) (by kernel_rfl) Tryd.underlying44 rfl (by omega) (by omega) rfl) trivial rfl rfl ?_
 refine .q rfl (op_move rfl) trivial ?_
 refine .q rfl (op_nilCheck rfl) trivial ?_
 refine .q rfl (op_fieldAddr (m := 0) Tryd.underlying98 rfl (by kernel_rfl) rfl) trivial ?_
 refine .as (.ptr 500 1) rfl ?_
 refine .q rfl (op_load Tryd.underlying44 rfl rfl rfl rfl (by first | omega | (simp only [AV.len]; omega) | (simp only [AV.len]; omega) | assumption | (simp [AV.len]; done))) trivial ?_
 refine .q rfl (op_len_nil Tryd.underlying44 rfl) trivial ?_
 refine .q rfl (ap_slice_sl_hi Tryd.underlying44 inf5.sz rfl (bnd_some rfl (l := 0) rfl) (by omega)) trivial ?_
 refine .q rfl (op_assign rfl) trivial ?_
 refine .nil ?_
 show Ev _ _ _ _ _
 refine .seq ?_
 refine .region ?_
 refine .q (op_move rfl) trivial rfl ?_
 refine .q (op_move rfl) trivial rfl ?_
 refine .q (op_nilCheck rfl) trivial rfl ?_
 refine .q (op_fieldAddr (m := 0) Tryd.underlying98 rfl (by kernel_rfl) rfl) trivial rfl ?_
 refine .as (.ptr 500 1) rfl ?_
 refine .q (op_load Tryd.underlying44 rfl rfl rfl rfl (by first | omega | (simp only [AV.len]; omega) | (simp only [AV.len]; omega) | assumption | (simp [AV.len]; done))) trivial rfl ?_
 refine .a (op_copy (q := 0) (c' := .aggB []) Tryd.underlying44 inf5.sz rfl rfl rfl (srcs_nil rfl) (by decide) rfl rfl) trivial rfl ?_
 refine .nil ?_
 show Ev _ _ _ _ _
 refine .region ?_
 refine .q (op_move rfl) trivial rfl ?_
 refine .q (op_move rfl) trivial rfl ?_
 refine .q (op_nilCheck rfl) trivial rfl ?_
 refine .q (op_fieldAddr (m := 0) Tryd.underlying98 rfl (by kernel_rfl) rfl) trivial rfl ?_
 refine .as (.ptr 500 1) rfl ?_
 refine .w (op_store (by kernel_rfl) rfl rfl rfl rfl rfl (by first | omega | (simp only [AV.len]; omega) | (simp only [AV.len]; omega) | assumption | (simp [AV.len]; done))) trivial rfl ?_
 refine .nil ?_
 show RetOk _ _ _ _ _ _ _
 exact ret0 rfl (.inr rfl) ⟨rfl, rfl, trivial⟩
set_option maxRecDepth 100000 in
theorem jGrow_ev (n : Nat) (h : n ≤ 1000000000) (h0 : 0 < n) : Meets Tryd.prog 39 [.ptr 500 0, .i64 (n : Int)] [(500, some ⟨.agg [.val (.pointer none), .nilsl], 98, true⟩)] (.tup []) [(500, some ⟨.agg [.ptr 500 0, .sl 1112 0 (0) 1], 98, true⟩), (1112, some ⟨.aggB [], 5, true⟩)] := by
 refine meets_of_ev (nt := 25) Tryd.func39 rfl rfl (Nat.le_of_ble_eq_true rfl) ?_
 refine .seq ?_
 refine .region ?_
 refine .q (op_move rfl) trivial rfl ?_
 refine .a (op_call (U := [(500, some ⟨.agg [.ptr 500 0, .nilsl], 98, true⟩)]) [(500, 500)] [] (jcc0_ev) Tryd.func43 (by kernel_rfl) rfl rfl rfl (⟨⟨_, rfl, rfl, rfl⟩, trivial⟩) (⟨⟨_, _, rfl, rfl, rfl, rfl, id, rfl⟩, trivial⟩) (⟨⟨500, _, rfl, rfl, rfl, rfl, .inr ⟨rfl, _, rfl, rfl⟩⟩, trivial⟩) (⟨(fun _ => ⟨500, _, rfl, rfl⟩), trivial⟩) rfl) trivial rfl ?_
 refine .nil ?_
 show Ev _ _ _ _ _
 refine .seq ?_
 refine .seq ?_
 refine .region ?_
 refine .q (op_move rfl) trivial rfl ?_
 refine .q (op_cmpI rfl rfl rfl) trivial rfl ?_
 refine .nil ?_
 show Ev _ _ _ _ _
 refine .cond_false rfl (decide_eq_false (by omega)) ?_
 refine .skip ?_
 show Ev _ _ _ _ _
 refine .seq ?_
 refine .drawn [[], [0], [0, 1], [0, 1, 2], [0, 1, 2, 3], [], [5], [5, 6], [5, 6, 7], [5, 6, 7, 8], [0, 1, 2, 3, 4, 5, 6, 7, 8, 9], [], [0, 1, 2, 3, 4, 5, 6, 7, 8, 9, 10, 11]] [3, 8] [] (by kernel_rfl) (by kernel_rfl) rfl ?_
 show DK _ [0, 1, 2, 3, 4, 5, 6, 7, 8, 9, 10, 11, 12] _ _ _
 refine .q rfl (op_move rfl) trivial ?_
 refine .q rfl (op_nilCheck rfl) trivial ?_
 refine .q rfl (op_fieldAddr (m := 0) Tryd.underlying98 rfl (by kernel_rfl) rfl) trivial ?_
 refine .as (.ptr 500 1) rfl ?_
 refine .q rfl (op_load Tryd.underlying44 rfl rfl rfl rfl (by first | omega | (simp only [AV.len]; omega) | (simp only [AV.len]; omega) | assumption | (simp [AV.len]; done))) trivial ?_
 refine .q rfl (op_cap_nil Tryd.underlying44 rfl) trivial ?_
 refine .q rfl (op_move rfl) trivial ?_
 refine .q rfl (op_nilCheck rfl) trivial ?_
 refine .q rfl (op_fieldAddr (m := 0) Tryd.underlying98 rfl (by kernel_rfl) rfl) trivial ?_
 refine .as (.ptr 500 1) rfl ?_
 refine .q rfl (op_load Tryd.underlying44 rfl rfl rfl rfl (by first | omega | (simp only [AV.len]; omega) | (simp only [AV.len]; omega) | assumption | (simp [AV.len]; done))) trivial ?_
 refine .q rfl (op_len_nil Tryd.underlying44 rfl) trivial ?_
 refine .q rfl (op_subI rfl rfl ⟨by omega, by omega⟩) trivial ?_
 refine .q rfl (op_move rfl) trivial ?_
 refine .q rfl (op_cmpI rfl rfl rfl) trivial ?_
 refine .nil ?_
 show Ev _ _ _ _ _
 refine .cond_true rfl (decide_eq_true (by omega)) ?_
 refine .region ?_
 refine .q (op_move rfl) trivial rfl ?_
 refine .q (op_move rfl) trivial rfl ?_
 refine .a (op_call (U := [(500, some ⟨.agg [.ptr 500 0, .sl 1112 0 (0) 1], 98, true⟩), (1112, some ⟨.aggB [], 5, true⟩)]) [(500, 500)] [(1112, 1064)] (jgrow_ev n h) Tryd.func44 (by kernel_rfl) rfl rfl rfl (⟨⟨_, rfl, rfl, rfl⟩, ⟨_, rfl, rfl, rfl⟩, trivial⟩) (⟨⟨_, _, rfl, rfl, rfl, rfl, id, rfl⟩, trivial⟩) (⟨⟨500, _, rfl, rfl, rfl, rfl, .inr ⟨rfl, _, rfl, rfl⟩⟩, ⟨1064, _, rfl, rfl, rfl, rfl, .inl rfl⟩, trivial⟩) (⟨(fun _ => ⟨500, _, rfl, rfl⟩), trivial⟩) rfl) trivial rfl ?_
 refine .nil ?_
 show RetOk _ _ _ _ _ _ _
 exact ret0 rfl (.inr rfl) ⟨rfl, rfl, trivial⟩
set_option maxRecDepth 100000 in
theorem join_0 (ls : List (List UInt8)) (h0 : ls.length = 0) : Meets Tryd.prog 35 [.dsl ls, .str [44]] [] (.str []) [] := by
 refine meets_of_ev (nt := 75) Tryd.func35 rfl rfl (Nat.le_of_ble_eq_true rfl) ?_
 refine .seq ?_
 refine .region ?_
 refine .q (op_assign rfl) trivial rfl ?_
 refine .nil ?_
 show Ev _ _ _ _ _
 refine .seq ?_
 refine .seq ?_
 refine .region ?_
 refine .q (op_move rfl) trivial rfl ?_
 refine .q (op_len_dsl Tryd.underlying22 rfl) trivial rfl ?_
 refine .nil ?_
 show Ev _ _ _ _ _
 refine .block ?_
 refine .seq ?_
 refine .region ?_
 refine .q (op_cmpI rfl rfl rfl) trivial rfl ?_
 refine .q (op_assign rfl) trivial rfl ?_
 refine .nil ?_
 show Ev _ _ _ _ _
 refine .cond_true rfl (decide_eq_true (by omega)) ?_
 refine .seq ?_
 refine .region ?_
 refine .q (op_assign rfl) trivial rfl ?_
 refine .nil ?_
 show Ev _ _ _ _ _
 refine .ret ?_
 show RetOk _ _ _ _ _ _ _
 exact ret1v rfl (.inl rfl) rfl rfl trivial
set_option maxRecDepth 100000 in
theorem join_1 (ls : List (List UInt8)) (h0 : ls.length = 1) : Meets Tryd.prog 35 [.dsl ls, .str [44]] [] (.str (ls.getD 0 [])) [] := by
 refine meets_of_ev (nt := 75) Tryd.func35 rfl rfl (Nat.le_of_ble_eq_true rfl) ?_
 refine .seq ?_
 refine .region ?_
 refine .q (op_assign rfl) trivial rfl ?_
 refine .nil ?_
 show Ev _ _ _ _ _
 refine .seq ?_
 refine .seq ?_
 refine .region ?_
 refine .q (op_move rfl) trivial rfl ?_
 refine .q (op_len_dsl Tryd.underlying22 rfl) trivial rfl ?_
 refine .nil ?_
 show Ev _ _ _ _ _
 refine .block ?_
 refine .seq ?_
 refine .region ?_
 refine .q (op_cmpI rfl rfl rfl) trivial rfl ?_
 refine .q (op_assign rfl) trivial rfl ?_
 refine .nil ?_
 show Ev _ _ _ _ _
 refine .cond_false rfl (decide_eq_false (by omega)) ?_
 refine .seq ?_
 refine .region ?_
 refine .q (op_cmpI rfl rfl rfl) trivial rfl ?_
 refine .q (op_assign rfl) trivial rfl ?_
 refine .nil ?_
 show Ev _ _ _ _ _
 refine .cond_true rfl (decide_eq_true (by omega)) ?_
 refine .seq ?_
 refine .region ?_
 refine .q (op_move rfl) trivial rfl ?_
 refine .q (op_indexAddr_dsl Tryd.underlying22 inf9.sz rfl rfl (i := 0) rfl (by first | omega | (simp only [AV.len]; omega) | (simp only [AV.len, List.length_set]; omega) | assumption | (simp [AV.len]; done))) trivial rfl ?_
 refine .q (op_load_dptr Tryd.underlying9 rfl rfl (drop_get (by omega))) trivial rfl ?_
 refine .q (op_assign rfl) trivial rfl ?_
 refine .nil ?_
 show Ev _ _ _ _ _
 refine .ret ?_
 show RetOk _ _ _ _ _ _ _
 exact ret1v rfl (.inl rfl) rfl rfl trivial
set_option maxRecDepth 100000 in
theorem join_2 (ls : List (List UInt8)) (h1 : ls.length ≤ 1000000) (h2 : sumB ls ≤ 1000000) (h0 : 2 ≤ ls.length) : Meets Tryd.prog 35 [.dsl ls, .str [44]] [] (.str (joinB ls)) [] := by
 have hst : sumB (ls.take ls.length) = sumB ls := by rw [List.take_length]
 have hjn2 := joinB_len ls
 have hg0 := getD_le_sumB ls 0
 refine meets_of_ev (nt := 75) Tryd.func35 rfl rfl (Nat.le_of_ble_eq_true rfl) ?_
 refine .seq ?_
 refine .region ?_
 refine .q (op_assign rfl) trivial rfl ?_
 refine .nil ?_
 show Ev _ _ _ _ _
 refine .seq ?_
 refine .seq ?_
 refine .region ?_
 refine .q (op_move rfl) trivial rfl ?_
 refine .q (op_len_dsl Tryd.underlying22 rfl) trivial rfl ?_
 refine .nil ?_
 show Ev _ _ _ _ _
 refine .block ?_
 refine .seq ?_
 refine .region ?_
 refine .q (op_cmpI rfl rfl rfl) trivial rfl ?_
 refine .q (op_assign rfl) trivial rfl ?_
 refine .nil ?_
 show Ev _ _ _ _ _
 refine .cond_false rfl (decide_eq_false (by omega)) ?_
 refine .seq ?_
 refine .region ?_
 refine .q (op_cmpI rfl rfl rfl) trivial rfl ?_
 refine .q (op_assign rfl) trivial rfl ?_
 refine .nil ?_
 show Ev _ _ _ _ _
 refine .cond_false rfl (decide_eq_false (by omega)) ?_
 refine .skip ?_
 show Ev _ _ _ _ _
 refine .seq ?_
 refine .region ?_
 refine .q (op_assign rfl) trivial rfl ?_
 refine .nil ?_
 show Ev _ _ _ _ _
 refine .seq ?_
 refine .seq ?_
 refine .region ?_
 refine .q (op_move rfl) trivial rfl ?_
 refine .q (op_len_str Tryd.underlying9 rfl) trivial rfl ?_
 refine .q (op_cmpI rfl rfl rfl) trivial rfl ?_
 refine .nil ?_
 show Ev _ _ _ _ _
 refine .cond_true rfl (rfl) ?_
 refine .seq ?_
 refine .seq ?_
 refine .region ?_
 refine .q (op_move rfl) trivial rfl ?_
 refine .q (op_len_str Tryd.underlying9 rfl) trivial rfl ?_
 refine .q (op_move rfl) trivial rfl ?_
 refine .q (op_len_dsl Tryd.underlying22 rfl) trivial rfl ?_
 refine .q (op_subI rfl rfl ⟨by omega, by omega⟩) trivial rfl ?_
 refine .as (.i64 ((ls.length - 1 : Nat) : Int)) (congrArg AV.i64 (by omega)) ?_
 refine .q (op_quoI rfl rfl ⟨by have hq := quo_ok (m := ls.length - 1) (by omega) (by omega); omega, ⟨by have hq := quo_ok (m := ls.length - 1) (by omega) (by omega); omega, by have hq := quo_ok (m := ls.length - 1) (by omega) (by omega); omega⟩, by have hq := quo_ok (m := ls.length - 1) (by omega) (by omega); omega⟩) trivial rfl ?_
 refine .q (op_cmpI rfl rfl rfl) trivial rfl ?_
 refine .nil ?_
 show Ev _ _ _ _ _
 refine .cond_false rfl (decide_eq_false (quo_ok (by omega) (by omega))) ?_
 refine .skip ?_
 show Ev _ _ _ _ _
 refine .region ?_
 refine .q (op_move rfl) trivial rfl ?_
 refine .q (op_move rfl) trivial rfl ?_
 refine .q (op_len_str Tryd.underlying9 rfl) trivial rfl ?_
 refine .q (op_move rfl) trivial rfl ?_
 refine .q (op_len_dsl Tryd.underlying22 rfl) trivial rfl ?_
 refine .q (op_subI rfl rfl ⟨by omega, by omega⟩) trivial rfl ?_
 refine .as (.i64 ((ls.length - 1 : Nat) : Int)) (congrArg AV.i64 (by omega)) ?_
 refine .q (op_mulI rfl rfl ⟨by simp only [List.length_cons, List.length_nil]; omega, by simp only [List.length_cons, List.length_nil]; omega⟩) trivial rfl ?_
 refine .q (op_addI rfl rfl ⟨by simp only [List.length_cons, List.length_nil]; omega, by simp only [List.length_cons, List.length_nil]; omega⟩) trivial rfl ?_
 refine .q (op_assign rfl) trivial rfl ?_
 refine .as (.i64 ((sumB (ls.take 0) + (ls.length - 1) : Nat) : Int)) (congrArg AV.i64 (by simp [sumB])) ?_
 refine .nil ?_
 show Ev _ _ _ _ _
 refine .seq ?_
 refine .seq ?_
 refine .region ?_
 refine .q (op_move rfl) trivial rfl ?_
 refine .q (op_len_dsl Tryd.underlying22 rfl) trivial rfl ?_
 refine .q (op_move rfl) trivial rfl ?_
 refine .nil ?_
 show Ev _ _ _ _ _
 refine .block ?_
 refine Ev.loop (ι := { k : Nat // k ≤ ls.length }) (fun q => ⟨[(0, .dsl ls), (1, .str [44]), (5, .i64 ((sumB (ls.take q.1) + (ls.length - 1) : Nat) : Int)), (39, .dsl ls), (40, .i64 ((ls.length : Nat) : Int)), (41, .i64 ((q.1 : Nat) : Int))], [], 1000⟩) (fun q => ls.length - q.1) ⟨0, Nat.zero_le _⟩ (StLe.mk [] rfl rfl ⟨⟨_, rfl, by first | rfl | (simp only [AV.ren]; congr 1; omega), rfl⟩, ⟨_, rfl, by first | rfl | (simp only [AV.ren]; congr 1; omega), rfl⟩, ⟨_, rfl, by first | rfl | (simp only [AV.ren]; congr 1; omega), rfl⟩, ⟨_, rfl, by first | rfl | (simp only [AV.ren]; congr 1; omega), rfl⟩, ⟨_, rfl, by first | rfl | (simp only [AV.ren]; congr 1; omega), rfl⟩, ⟨_, rfl, by first | rfl | (simp only [AV.ren]; congr 1; omega), rfl⟩, trivial⟩ trivial) ?_
 rintro ⟨k, hk⟩
 try dsimp only
 have hsk := sumB_take_le ls k
 have hgk := getD_le_sumB ls k
 refine .seq ?_
 refine .region ?_
 refine .q (op_cmpI rfl rfl rfl) trivial rfl ?_
 refine .nil ?_
 show Ev _ _ _ _ _
 refine .seq ?_
 refine .cond rfl (fun hc42 => ?_) (fun hc42 => ?_)
 ·simp only [decide_eq_true_eq] at hc42
  refine .skip ?_
  show Ev _ _ _ _ _
  refine .seq ?_
  refine .block ?_
  refine .seq ?_
  refine .region ?_
  have hlt : k < ls.length := by omega
  refine .q (op_indexAddr_dsl Tryd.underlying22 inf9.sz rfl rfl rfl (by first | omega | (simp only [AV.len]; omega) | (simp only [AV.len, List.length_set]; omega) | assumption | (simp [AV.len]; done))) trivial rfl ?_
  refine .q (op_load_dptr Tryd.underlying9 rfl rfl (drop_get (by omega))) trivial rfl ?_
  refine .q (op_assign rfl) trivial rfl ?_
  refine .nil ?_
  show Ev _ _ _ _ _
  refine .seq ?_
  refine .seq ?_
  refine .region ?_
  refine .q (op_move rfl) trivial rfl ?_
  refine .q (op_len_str Tryd.underlying9 rfl) trivial rfl ?_
  refine .q (op_move rfl) trivial rfl ?_
  refine .q (op_subI rfl rfl ⟨by omega, by omega⟩) trivial rfl ?_
  refine .q (op_cmpI rfl rfl rfl) trivial rfl ?_
  refine .nil ?_
  show Ev _ _ _ _ _
  refine .cond_false rfl (decide_eq_false (by omega)) ?_
  refine .skip ?_
  show Ev _ _ _ _ _
  refine .region ?_
  refine .q (op_move rfl) trivial rfl ?_
  refine .q (op_move rfl) trivial rfl ?_
  refine .q (op_len_str Tryd.underlying9 rfl) trivial rfl ?_
  refine .q (op_addI rfl rfl ⟨by omega, by omega⟩) trivial rfl ?_
  refine .q (op_assign rfl) trivial rfl ?_
  refine .nil ?_
  show Ev _ _ _ _ _
  refine .region ?_
  refine .q (op_addI rfl rfl ⟨by omega, by omega⟩) trivial rfl ?_
  refine .q (op_move rfl) trivial rfl ?_
  refine .nil ?_
  exact ⟨⟨k + 1, by omega⟩, by (try dsimp only); omega, StLe.mk [] rfl rfl ⟨⟨_, rfl, by rfl, rfl⟩, ⟨_, rfl, by rfl, rfl⟩, ⟨_, rfl, by (simp only [AV.ren]; rw [sumB_take hlt]; exact congrArg AV.i64 (by omega)), rfl⟩, ⟨_, rfl, by rfl, rfl⟩, ⟨_, rfl, by rfl, rfl⟩, ⟨_, rfl, by rfl, rfl⟩, trivial⟩ trivial⟩
 ·simp only [decide_eq_false_iff_not] at hc42
  refine .exit ?_
  show Ev _ _ _ _ _
  have ek : k = ls.length := by omega
  subst ek
  refine .seq ?_
  refine .region ?_
  refine .a (op_allocRow zero98 rel_zero98 rfl) trivial rfl ?_
  refine .nil ?_
  show Ev _ _ _ _ _
  refine .seq ?_
  refine .region ?_
  refine .q (op_move rfl) trivial rfl ?_
  refine .a (op_call (U := [(1000, some ⟨.agg [.ptr 1000 0, .sl 1008 0 (0) 1], 98, true⟩), (1008, some ⟨.aggB [], 5, true⟩)]) [(500, 1000)] [(1008, 1112)] (jGrow_ev (sumB (ls.take ls.length) + (ls.length - 1)) (by omega) (by omega)) Tryd.func39 (by kernel_rfl) rfl rfl rfl (⟨⟨_, rfl, rfl, rfl⟩, ⟨_, rfl, rfl, rfl⟩, trivial⟩) (⟨⟨_, _, rfl, rfl, rfl, rfl, id, rfl⟩, trivial⟩) (⟨⟨500, _, rfl, rfl, rfl, rfl, .inr ⟨rfl, _, rfl, rfl⟩⟩, ⟨1112, _, rfl, rfl, rfl, rfl, .inl rfl⟩, trivial⟩) (⟨(fun _ => ⟨1000, _, rfl, rfl⟩), trivial⟩) rfl) trivial rfl ?_
  refine .nil ?_
  show Ev _ _ _ _ _
  refine .seq ?_
  refine .region ?_
  refine .q (op_move rfl) trivial rfl ?_
  refine .q (op_indexAddr_dsl Tryd.underlying22 inf9.sz rfl rfl (i := 0) rfl (by first | omega | (simp only [AV.len]; omega) | (simp only [AV.len, List.length_set]; omega) | assumption | (simp [AV.len]; done))) trivial rfl ?_
  refine .q (op_load_dptr Tryd.underlying9 rfl rfl (drop_get (by omega))) trivial rfl ?_
  refine .a (op_call (U := [(1000, some ⟨.agg [.ptr 1000 0, .sl 1016 0 (0 + (ls.getD 0 []).length) 1], 98, true⟩), (1016, some ⟨.aggB ([] ++ (ls.getD 0 [])), 5, true⟩), (1008, none)]) [(500, 1000), (501, 1008)] [(1016, 1000)] (jws2_ev [] (0) (by first | rfl | exact hjn | (simp only [List.length_append, List.length_cons, List.length_nil]; done) | (simp only [List.length_append, List.length_cons, List.length_nil]; omega)) (by omega) (ls.getD 0 []) (by first | omega | decide)) Tryd.func40 (by kernel_rfl) rfl rfl rfl (⟨⟨_, rfl, rfl, rfl⟩, ⟨_, rfl, rfl, rfl⟩, trivial⟩) (⟨⟨_, _, rfl, rfl, rfl, rfl, id, rfl⟩, ⟨_, _, rfl, rfl, rfl, rfl, id, rfl⟩, trivial⟩) (⟨⟨500, _, rfl, rfl, rfl, rfl, .inr ⟨rfl, _, rfl, rfl⟩⟩, ⟨1000, _, rfl, rfl, rfl, rfl, .inl rfl⟩, trivial⟩) (⟨(fun _ => ⟨1000, _, rfl, rfl⟩), (fun _ => ⟨1008, _, rfl, rfl⟩), trivial⟩) rfl) trivial rfl ?_
  refine .nil ?_
  show Ev _ _ _ _ _
  refine .seq ?_
  refine .seq ?_
  refine .region ?_
  refine .q (op_move rfl) trivial rfl ?_
  refine .q (op_slice_dsl Tryd.underlying22 inf9.sz rfl (bnd_some rfl (l := 1) rfl) rfl (by first | omega | (simp only [AV.len]; omega) | (simp only [AV.len, List.length_set]; omega) | assumption | (simp [AV.len]; done)) (by first | omega | (simp only [AV.len]; omega) | (simp only [AV.len, List.length_set]; omega) | assumption | (simp [AV.len]; done)) (by first | omega | (simp only [AV.len]; omega) | (simp only [AV.len, List.length_set]; omega) | assumption | (simp [AV.len]; done))) trivial rfl ?_
  refine .as (.dsl ((ls.drop 1).take (ls.length - 1))) rfl ?_
  refine .q (op_len_dsl Tryd.underlying22 rfl) trivial rfl ?_
  refine .as (.i64 ((ls.length - 1 : Nat) : Int)) (congrArg AV.i64 (by rw [List.length_take, List.length_drop]; omega)) ?_
  refine .q (op_move rfl) trivial rfl ?_
  refine .nil ?_
  show Ev _ _ _ _ _
  refine .block ?_
  refine Ev.loop (ι := { k : Nat // k < ls.length }) (fun k => ⟨[(1, .str [44]), (8, .ptr 1000 0), (63, .dsl ((ls.drop 1).take (ls.length - 1))), (64, .i64 ((ls.length - 1 : Nat) : Int)), (65, .i64 ((k.1 : Nat) : Int))], [(1000, some ⟨.agg [.ptr 1000 0, .sl 1024 0 ((joinB (ls.take (k.1 + 1))).length) 1], 98, true⟩), (1024, some ⟨.aggB (joinB (ls.take (k.1 + 1))), 5, true⟩)], 1032⟩) (fun k => ls.length - k.1) ⟨0, by omega⟩ (StLe.mk [(1000, 1000), (1024, 1016)] rfl rfl ⟨⟨_, rfl, by first | rfl | (simp only [AV.ren]; congr 1; omega), rfl⟩, ⟨_, rfl, by first | rfl | (simp only [AV.ren]; congr 1; omega), rfl⟩, ⟨_, rfl, by first | rfl | (simp only [AV.ren]; congr 1; omega), rfl⟩, ⟨_, rfl, by first | rfl | (simp only [AV.ren]; congr 1; omega), rfl⟩, ⟨_, rfl, by first | rfl | (simp only [AV.ren]; congr 1; omega), rfl⟩, trivial⟩ ⟨⟨_, _, rfl, rfl, by (simp only [AV.ren, AV.renL]; rw [joinB_take1 (by omega), Nat.zero_add]; rfl), rfl, id, rfl⟩, ⟨_, _, rfl, rfl, by (rw [joinB_take1 (by omega)]; rfl), rfl, id, rfl⟩, trivial⟩) ?_
  rintro ⟨k, hk⟩
  try dsimp only
  have hjn : (joinB (ls.take (k + 1))).length = (joinB (ls.take (k + 1))).length := rfl
  have hjl := joinB_take_le ls (k + 1)
  have hgk := getD_le_sumB ls (k + 1)
  refine .seq ?_
  refine .region ?_
  refine .q (op_cmpI rfl rfl rfl) trivial rfl ?_
  refine .nil ?_
  show Ev _ _ _ _ _
  refine .seq ?_
  refine .cond rfl (fun hc66 => ?_) (fun hc66 => ?_)
  ·simp only [decide_eq_true_eq] at hc66
   refine .skip ?_
   show Ev _ _ _ _ _
   refine .seq ?_
   refine .block ?_
   refine .seq ?_
   refine .region ?_
   have hlt : k + 1 < ls.length := by omega
   refine .q (op_indexAddr_dsl Tryd.underlying22 inf9.sz rfl rfl rfl (by rw [List.length_take, List.length_drop]; omega)) trivial rfl ?_
   refine .q (op_load_dptr Tryd.underlying9 rfl rfl (drop_get1 hlt)) trivial rfl ?_
   refine .q (op_assign rfl) trivial rfl ?_
   refine .nil ?_
   show Ev _ _ _ _ _
   refine .seq ?_
   refine .region ?_
   refine .q (op_move rfl) trivial rfl ?_
   refine .a (op_call (U := [(1000, some ⟨.agg [.ptr 1000 0, .sl 1032 0 ((joinB (ls.take (k + 1))).length + 1) 1], 98, true⟩), (1032, some ⟨.aggB ((joinB (ls.take (k + 1))) ++ [44]), 5, true⟩), (1024, none)]) [(500, 1000), (501, 1024)] [(1032, 1000)] (jws2_ev (joinB (ls.take (k + 1))) ((joinB (ls.take (k + 1))).length) (by first | rfl | exact hjn | (simp only [List.length_append, List.length_cons, List.length_nil]; done) | (simp only [List.length_append, List.length_cons, List.length_nil]; omega)) (by omega) [44] (by first | omega | decide)) Tryd.func40 (by kernel_rfl) rfl rfl rfl (⟨⟨_, rfl, rfl, rfl⟩, ⟨_, rfl, rfl, rfl⟩, trivial⟩) (⟨⟨_, _, rfl, rfl, rfl, rfl, id, rfl⟩, ⟨_, _, rfl, rfl, rfl, rfl, id, rfl⟩, trivial⟩) (⟨⟨500, _, rfl, rfl, rfl, rfl, .inr ⟨rfl, _, rfl, rfl⟩⟩, ⟨1000, _, rfl, rfl, rfl, rfl, .inl rfl⟩, trivial⟩) (⟨(fun _ => ⟨1000, _, rfl, rfl⟩), (fun _ => ⟨1024, _, rfl, rfl⟩), trivial⟩) rfl) trivial rfl ?_
   refine .nil ?_
   show Ev _ _ _ _ _
   refine .region ?_
   refine .q (op_move rfl) trivial rfl ?_
   refine .a (op_call (U := [(1000, some ⟨.agg [.ptr 1000 0, .sl 1040 0 ((joinB (ls.take (k + 1))).length + 1 + (ls.getD (k + 1) []).length) 1], 98, true⟩), (1040, some ⟨.aggB (((joinB (ls.take (k + 1))) ++ [44]) ++ (ls.getD (k + 1) [])), 5, true⟩), (1032, none)]) [(500, 1000), (501, 1032)] [(1040, 1000)] (jws2_ev ((joinB (ls.take (k + 1))) ++ [44]) ((joinB (ls.take (k + 1))).length + 1) (by first | rfl | exact hjn | (simp only [List.length_append, List.length_cons, List.length_nil]; done) | (simp only [List.length_append, List.length_cons, List.length_nil]; omega)) (by omega) (ls.getD (k + 1) []) (by first | omega | decide)) Tryd.func40 (by kernel_rfl) rfl rfl rfl (⟨⟨_, rfl, rfl, rfl⟩, ⟨_, rfl, rfl, rfl⟩, trivial⟩) (⟨⟨_, _, rfl, rfl, rfl, rfl, id, rfl⟩, ⟨_, _, rfl, rfl, rfl, rfl, id, rfl⟩, trivial⟩) (⟨⟨500, _, rfl, rfl, rfl, rfl, .inr ⟨rfl, _, rfl, rfl⟩⟩, ⟨1000, _, rfl, rfl, rfl, rfl, .inl rfl⟩, trivial⟩) (⟨(fun _ => ⟨1000, _, rfl, rfl⟩), (fun _ => ⟨1032, _, rfl, rfl⟩), trivial⟩) rfl) trivial rfl ?_
   refine .nil ?_
   show Ev _ _ _ _ _
   refine .region ?_
   refine .q (op_addI rfl rfl ⟨by omega, by omega⟩) trivial rfl ?_
   refine .q (op_move rfl) trivial rfl ?_
   refine .nil ?_
   exact ⟨⟨k + 1, by omega⟩, by show ls.length - (k + 1) < ls.length - k; omega, StLe.mk [(1000, 1000), (1024, 1040)] rfl rfl ⟨⟨_, rfl, by first | rfl | (simp only [AV.ren]; congr 1; omega), rfl⟩, ⟨_, rfl, by first | rfl | (simp only [AV.ren]; congr 1; omega), rfl⟩, ⟨_, rfl, by first | rfl | (simp only [AV.ren]; congr 1; omega), rfl⟩, ⟨_, rfl, by first | rfl | (simp only [AV.ren]; congr 1; omega), rfl⟩, ⟨_, rfl, by first | rfl | (simp only [AV.ren]; congr 1; omega), rfl⟩, trivial⟩ ⟨⟨_, _, rfl, rfl, by (simp only [AV.ren, AV.renL]; rw [joinB_take_s hlt]; simp only [List.length_append, List.length_cons, List.length_nil]; rfl), rfl, id, rfl⟩, ⟨_, _, rfl, rfl, by (rw [joinB_take_s hlt]; rfl), rfl, id, rfl⟩, trivial⟩⟩
  ·simp only [decide_eq_false_iff_not] at hc66
   refine .exit ?_
   show Ev _ _ _ _ _
   have ek : k + 1 = ls.length := by omega
   refine Ev.weak (st2 := ⟨[(8, .ptr 1000 0)], [(1000, some ⟨.agg [.ptr 1000 0, .sl 1024 0 ((joinB ls).length) 1], 98, true⟩), (1024, some ⟨.aggB (joinB ls), 5, true⟩)], 1032⟩) (StLe.mk [(1000, 1000), (1024, 1024)] rfl rfl ⟨⟨_, rfl, by first | rfl | (simp only [AV.ren]; congr 1; omega), rfl⟩, trivial⟩ ⟨⟨_, _, rfl, rfl, by (simp only [AV.ren, AV.renL]; rw [ek, List.take_length]; rfl), rfl, id, rfl⟩, ⟨_, _, rfl, rfl, by (rw [ek, List.take_length]; rfl), rfl, id, rfl⟩, trivial⟩) ?_
   show Ev _ _ _ _ _
   refine .seq ?_
   refine .region ?_
   refine .a (op_call (U := [(1024, some ⟨.aggB (joinB ls), (frz + 5), false⟩)]) [(500, 1000), (501, 1024)] [] (jst2_ev (joinB ls) (joinB ls).length rfl (by omega) (by omega)) Tryd.func41 (by kernel_rfl) rfl rfl rfl (⟨⟨_, rfl, rfl, rfl⟩, trivial⟩) (⟨⟨_, _, rfl, rfl, rfl, rfl, (fun h => by cases h), rfl⟩, ⟨_, _, rfl, rfl, rfl, rfl, id, rfl⟩, trivial⟩) (⟨⟨501, _, rfl, rfl, rfl, rfl, .inr ⟨rfl, _, rfl, rfl⟩⟩, trivial⟩) (⟨(fun h => by cases h), (fun _ => ⟨1024, _, rfl, rfl⟩), trivial⟩) rfl) trivial rfl ?_
   refine .q (op_assign rfl) trivial rfl ?_
   refine .nil ?_
   show Ev _ _ _ _ _
   refine .ret ?_
   show RetOk _ _ _ _ _ _ _
   exact ret1v rfl (.inl rfl) rfl rfl trivial
theorem join_ev (ls : List (List UInt8)) (h1 : ls.length ≤ 1000000) (h2 : sumB ls ≤ 1000000) : Meets Tryd.prog 35 [.dsl ls, .str [44]] [] (.str (joinB ls)) [] := by
 rcases Nat.lt_or_ge ls.length 2 with h | h
 ·rcases Nat.lt_or_ge ls.length 1 with h3 | h3
  ·have e : ls = [] := List.eq_nil_of_length_eq_zero (by omega)
   have := join_0 ls (by omega)
   rw [e] at this ⊢; exact this
  ·have := join_1 ls (by omega)
   rwa [show ls.getD 0 [] = joinB ls by
    match ls, h, h3 with
    | [x], _, _ => exact (joinB_one x).symm] at this
 ·exact join_2 ls h1 h2 h
end Go.Proofs.YtalhfkmkmmfkcaaDoor
namespace Go.Proofs.YtalhfkmkmmfkcaaDoor
open Go.RowKit
theorem ch_a {c : UInt8} (h : c ≤ 32) : chOk c = false := by simp [chOk, h]
theorem ch_b {c : UInt8} (h : 126 < c) : chOk c = false := by simp [chOk, h]
theorem ch_c {c : UInt8} (h : c = 44) : chOk c = false := by simp [chOk, h]
theorem ch_ok {c : UInt8} (h1 : ¬ c ≤ 32) (h2 : ¬ 126 < c) (h3 : ¬ c = 44) : chOk c = true := by simp [chOk, h1, h2, h3]
theorem lt33 {c : UInt8} : c < 33 ↔ c ≤ 32 := by simp only [UInt8.lt_iff_toNat_lt, UInt8.le_iff_toNat_le, UInt8.reduceToNat]; omega
theorem name_bad {s : List UInt8} {j : Nat} (hj : j < s.length) (h : chOk (s.getD j 0) = false) : nameOk s = false := by
  have : s.all chOk = false := by
    rw [List.all_eq_false]
    refine ⟨s[j], List.getElem_mem hj, ?_⟩
    rw [show s[j] = s.getD j 0 by simp [List.getD_eq_getElem?_getD, hj], h]; decide
  simp [nameOk, this]
theorem name_step {s : List UInt8} {j : Nat} (hj : j < s.length) (hq : (s.take j).all chOk = true) (h : chOk (s.getD j 0) = true) : (s.take (j + 1)).all chOk = true := by
  rw [List.take_add_one, List.getElem?_eq_getElem hj]
  simp only [Option.toList_some, List.all_append, hq, Bool.true_and, List.all_cons, List.all_nil, Bool.and_true]
  rw [show s[j] = s.getD j 0 by simp [List.getD_eq_getElem?_getD, hj], h]
theorem name_all {s : List UInt8} {j : Nat} (hj : s.length ≤ j) (hq : (s.take j).all chOk = true) : s.all chOk = true := by rwa [List.take_of_length_le hj] at hq
theorem name_ref1 {s : List UInt8} (h0 : 0 < s.length) (h : s.all chOk = true) : decide ((s.length : Int) < 65) = nameOk s := by
  have h1 : (s == []) = false := by cases s with | nil => cases h0 | cons x l => rfl
  simp only [nameOk, h, h1, Bool.and_true, Bool.not_false, Bool.true_and]
  by_cases h2 : 64 < s.length
  · rw [decide_eq_true h2, decide_eq_false (by omega)]; rfl
  · rw [decide_eq_false h2, decide_eq_true (by omega)]; rfl
theorem name_ref0 {s : List UInt8} (h0 : ¬ 0 < s.length) : false = nameOk s := by
  cases s with
  | nil => rfl
  | cons x l => exact absurd (Nat.succ_pos _) h0
set_option maxRecDepth 100000 in
theorem wname_ev (s : List UInt8) (hs : s.length ≤ 9223372036854775000) : Meets Tryd.prog 34 [.str s] [] (.bool (nameOk s)) [] := by
 refine meets_of_ev (nt := 33) Tryd.func34 rfl rfl (Nat.le_of_ble_eq_true rfl) ?_
 refine .seq ?_
 refine .region ?_
 refine .q (op_assign rfl) trivial rfl ?_
 refine .nil ?_
 show Ev _ _ _ _ _
 refine .seq ?_
 refine .seq ?_
 refine .region ?_
 refine .q (op_move rfl) trivial rfl ?_
 refine .q (op_eqS rfl rfl rfl) trivial rfl ?_
 refine .q (op_move rfl) trivial rfl ?_
 refine .split (fun hg6 => ?_) (fun hg6 => ?_)
 ·simp only [beq_iff_eq] at hg6
  refine .no ⟨_, rfl, rfl⟩ rfl ?_
  refine .no ⟨_, rfl, rfl⟩ rfl ?_
  refine .no ⟨_, rfl, rfl⟩ rfl ?_
  refine .q (op_pick_true rfl rfl rfl) trivial rfl ?_
  refine .nil ?_
  show Ev _ _ _ _ _
  refine .cond_true rfl rfl ?_
  refine .seq ?_
  refine .region ?_
  refine .q (op_assign rfl) trivial rfl ?_
  refine .nil ?_
  show Ev _ _ _ _ _
  refine .ret ?_
  show RetOk _ _ _ _ _ _ _
  exact ret1v rfl (.inl rfl) rfl (congrArg AV.bool (by first | exact (name_bad (j := j) (by omega) (by first | exact ch_a hg20 | exact ch_b hg26 | exact ch_c hc31)).symm | exact (by have := name_all (j := j) (by omega) hq; simp only [nameOk, this]; simp; first | done | omega | exact ⟨hg6, by omega⟩) | exact (by first | (subst hg6; rfl) | (simp [nameOk]; omega)))) trivial
 ·simp only [ne_eq, beq_eq_false_iff_ne] at hg6
  refine .q (op_move rfl) ⟨_, rfl, rfl⟩ rfl ?_
  refine .q (op_len_str Tryd.underlying9 rfl) ⟨_, rfl, rfl⟩ rfl ?_
  refine .q (op_cmpI rfl rfl rfl) ⟨_, rfl, rfl⟩ rfl ?_
  refine .q (op_pick_false rfl rfl rfl) trivial rfl ?_
  refine .nil ?_
  show Ev _ _ _ _ _
  refine .cond rfl (fun hc10 => ?_) (fun hc10 => ?_)
  ·simp only [decide_eq_true_eq] at hc10
   refine .seq ?_
   refine .region ?_
   refine .q (op_assign rfl) trivial rfl ?_
   refine .nil ?_
   show Ev _ _ _ _ _
   refine .ret ?_
   show RetOk _ _ _ _ _ _ _
   exact ret1v rfl (.inl rfl) rfl (congrArg AV.bool (by first | exact (name_bad (j := j) (by omega) (by first | exact ch_a hg20 | exact ch_b hg26 | exact ch_c hc31)).symm | exact (by have := name_all (j := j) (by omega) hq; simp only [nameOk, this]; simp; first | done | omega | exact ⟨hg6, by omega⟩) | exact (by first | (subst hg6; rfl) | (simp [nameOk]; omega)))) trivial
  ·simp only [decide_eq_false_iff_not] at hc10
   refine .skip ?_
   show Ev _ _ _ _ _
   refine .seq ?_
   refine .seq ?_
   refine .region ?_
   refine .q (op_move rfl) trivial rfl ?_
   refine .q (op_len_str Tryd.underlying9 rfl) trivial rfl ?_
   refine .q (op_move rfl) trivial rfl ?_
   refine .nil ?_
   show Ev _ _ _ _ _
   refine .block ?_
   refine Ev.loop (ι := { j : Nat // j ≤ s.length ∧ (s.take j).all chOk = true }) (fun q => ⟨[(0, .str s), (12, .i64 (s.length : Int)), (13, .i64 (q.1 : Int))], [], 1000⟩) (fun q => s.length - q.1) ⟨0, by omega, rfl⟩ (StLe.mk [] rfl rfl ⟨⟨_, rfl, by first | rfl | (simp only [AV.ren]; congr 1; omega), rfl⟩, ⟨_, rfl, by first | rfl | (simp only [AV.ren]; congr 1; omega), rfl⟩, ⟨_, rfl, by first | rfl | (simp only [AV.ren]; congr 1; omega), rfl⟩, trivial⟩ trivial) ?_
   rintro ⟨j, hj, hq⟩
   try dsimp only
   refine .seq ?_
   refine .region ?_
   refine .q (op_cmpI rfl rfl rfl) trivial rfl ?_
   refine .nil ?_
   show Ev _ _ _ _ _
   refine .seq ?_
   refine .cond rfl (fun hc14 => ?_) (fun hc14 => ?_)
   ·simp only [decide_eq_true_eq] at hc14
    refine .skip ?_
    show Ev _ _ _ _ _
    refine .seq ?_
    refine .block ?_
    refine .seq ?_
    refine .region ?_
    refine .q (op_move rfl) trivial rfl ?_
    refine .q (op_assign rfl) trivial rfl ?_
    refine .nil ?_
    show Ev _ _ _ _ _
    refine .seq ?_
    refine .region ?_
    refine .q (op_move rfl) trivial rfl ?_
    refine .q (op_move rfl) trivial rfl ?_
    refine .q (op_index_str Tryd.underlying9 rfl rfl rfl (by omega)) trivial rfl ?_
    refine .q (op_bin8 rfl rfl rfl) trivial rfl ?_
    refine .q (op_move rfl) trivial rfl ?_
    refine .split (fun hg20 => ?_) (fun hg20 => ?_)
    ·simp only [decide_eq_true_eq] at hg20
     refine .no ⟨_, rfl, rfl⟩ rfl ?_
     refine .no ⟨_, rfl, rfl⟩ rfl ?_
     refine .no ⟨_, rfl, rfl⟩ rfl ?_
     refine .no ⟨_, rfl, rfl⟩ rfl ?_
     refine .q (op_pick_true rfl rfl rfl) trivial rfl ?_
     refine .q (op_move rfl) trivial rfl ?_
     refine .no ⟨_, rfl, rfl⟩ rfl ?_
     refine .no ⟨_, rfl, rfl⟩ rfl ?_
     refine .no ⟨_, rfl, rfl⟩ rfl ?_
     refine .no ⟨_, rfl, rfl⟩ rfl ?_
     refine .q (op_pick_true rfl rfl rfl) trivial rfl ?_
     refine .nil ?_
     show Ev _ _ _ _ _
     refine .cond_true rfl rfl ?_
     refine .seq ?_
     refine .region ?_
     refine .q (op_assign rfl) trivial rfl ?_
     refine .nil ?_
     show Ev _ _ _ _ _
     refine .ret ?_
     show RetOk _ _ _ _ _ _ _
     exact ret1v rfl (.inl rfl) rfl (congrArg AV.bool (by first | exact (name_bad (j := j) (by omega) (by first | exact ch_a hg20 | exact ch_b hg26 | exact ch_c hc31)).symm | exact (by have := name_all (j := j) (by omega) hq; simp only [nameOk, this]; simp; first | done | omega | exact ⟨hg6, by omega⟩) | exact (by first | (subst hg6; rfl) | (simp [nameOk]; omega)))) trivial
    ·simp only [decide_eq_false_iff_not] at hg20
     refine .q (op_move rfl) ⟨_, rfl, rfl⟩ rfl ?_
     refine .q (op_move rfl) ⟨_, rfl, rfl⟩ rfl ?_
     refine .q (op_index_str Tryd.underlying9 rfl rfl rfl (by omega)) ⟨_, rfl, rfl⟩ rfl ?_
     refine .q (op_bin8 rfl rfl rfl) ⟨_, rfl, rfl⟩ rfl ?_
     refine .q (op_pick_false rfl rfl rfl) trivial rfl ?_
     refine .q (op_move rfl) trivial rfl ?_
     refine .split (fun hg26 => ?_) (fun hg26 => ?_)
     ·simp only [decide_eq_true_eq] at hg26
      refine .no ⟨_, rfl, rfl⟩ rfl ?_
      refine .no ⟨_, rfl, rfl⟩ rfl ?_
      refine .no ⟨_, rfl, rfl⟩ rfl ?_
      refine .no ⟨_, rfl, rfl⟩ rfl ?_
      refine .q (op_pick_true rfl rfl rfl) trivial rfl ?_
      refine .nil ?_
      show Ev _ _ _ _ _
      refine .cond_true rfl rfl ?_
      refine .seq ?_
      refine .region ?_
      refine .q (op_assign rfl) trivial rfl ?_
      refine .nil ?_
      show Ev _ _ _ _ _
      refine .ret ?_
      show RetOk _ _ _ _ _ _ _
      exact ret1v rfl (.inl rfl) rfl (congrArg AV.bool (by first | exact (name_bad (j := j) (by omega) (by first | exact ch_a hg20 | exact ch_b hg26 | exact ch_c hc31)).symm | exact (by have := name_all (j := j) (by omega) hq; simp only [nameOk, this]; simp; first | done | omega | exact ⟨hg6, by omega⟩) | exact (by first | (subst hg6; rfl) | (simp [nameOk]; omega)))) trivial
     ·simp only [decide_eq_false_iff_not] at hg26
      refine .q (op_move rfl) ⟨_, rfl, rfl⟩ rfl ?_
      refine .q (op_move rfl) ⟨_, rfl, rfl⟩ rfl ?_
      refine .q (op_index_str Tryd.underlying9 rfl rfl rfl (by omega)) ⟨_, rfl, rfl⟩ rfl ?_
      refine .q (op_bin8 rfl rfl rfl) ⟨_, rfl, rfl⟩ rfl ?_
      refine .q (op_pick_false rfl rfl rfl) trivial rfl ?_
      refine .nil ?_
      show Ev _ _ _ _ _
      refine .cond rfl (fun hc31 => ?_) (fun hc31 => ?_)
      ·simp only [beq_iff_eq] at hc31
       refine .seq ?_
       refine .region ?_
       refine .q (op_assign rfl) trivial rfl ?_
       refine .nil ?_
       show Ev _ _ _ _ _
       refine .ret ?_
       show RetOk _ _ _ _ _ _ _
       exact ret1v rfl (.inl rfl) rfl (congrArg AV.bool (by first | exact (name_bad (j := j) (by omega) (by first | exact ch_a hg20 | exact ch_b hg26 | exact ch_c hc31)).symm | exact (by have := name_all (j := j) (by omega) hq; simp only [nameOk, this]; simp; first | done | omega | exact ⟨hg6, by omega⟩) | exact (by first | (subst hg6; rfl) | (simp [nameOk]; omega)))) trivial
      ·simp only [ne_eq, beq_eq_false_iff_ne] at hc31
       refine .skip ?_
       show Ev _ _ _ _ _
       refine .region ?_
       refine .q (op_addI rfl rfl ⟨by omega, by omega⟩) trivial rfl ?_
       refine .q (op_move rfl) trivial rfl ?_
       refine .nil ?_
       exact ⟨⟨j + 1, by omega, name_step (by omega) hq (ch_ok hg20 hg26 hc31)⟩, by (try dsimp only); omega, StLe.mk [] rfl rfl ⟨⟨_, rfl, by first | rfl | (simp only [AV.ren]; congr 1; omega), rfl⟩, ⟨_, rfl, by first | rfl | (simp only [AV.ren]; congr 1; omega), rfl⟩, ⟨_, rfl, by first | rfl | (simp only [AV.ren]; congr 1; omega), rfl⟩, trivial⟩ trivial⟩
   ·simp only [decide_eq_false_iff_not] at hc14
    refine .exit ?_
    show Ev _ _ _ _ _
    refine .seq ?_
    refine .region ?_
    refine .q (op_assign rfl) trivial rfl ?_
    refine .nil ?_
    show Ev _ _ _ _ _
    refine .ret ?_
    show RetOk _ _ _ _ _ _ _
    exact ret1v rfl (.inl rfl) rfl (congrArg AV.bool (by first | exact (name_bad (j := j) (by omega) (by first | exact ch_a hg20 | exact ch_b hg26 | exact ch_c hc31)).symm | exact (by have := name_all (j := j) (by omega) hq; simp only [nameOk, this]; simp; first | done | omega | exact ⟨hg6, by omega⟩) | exact (by first | (subst hg6; rfl) | (simp [nameOk]; omega)))) trivial
end Go.Proofs.YtalhfkmkmmfkcaaDoor
namespace Go.Proofs.YtalhfkmkmmfkcaaDoor
open Go.RowKit
def kNums : List Int := [1, 2, 3, 4, 5, 6, 20, 21, 30, 31, 50, 51, 52, 53, 60, 80, 81, 82, 90, 91, 92, 93, 94, 95, 96, 97, 98, 99, 100]
def kNames : List (List UInt8) := [[100, 105, 115, 99, 111, 110, 110, 101, 99, 116], [105, 103, 110, 111, 114, 101], [117, 110, 105, 109, 112, 108, 101, 109, 101, 110, 116, 101, 100], [100, 101, 98, 117, 103], [115, 101, 114, 118, 105, 99, 101, 45, 114, 101, 113, 117, 101, 115, 116], [115, 101, 114, 118, 105, 99, 101, 45, 97, 99, 99, 101, 112, 116], [107, 101, 120, 105, 110, 105, 116], [110, 101, 119, 107, 101, 121, 115], [101, 99, 100, 104, 45, 105, 110, 105, 116], [101, 99, 100, 104, 45, 114, 101, 112, 108, 121], [97, 117, 116, 104, 45, 114, 101, 113, 117, 101, 115, 116], [97, 117, 116, 104, 45, 102, 97, 105, 108, 117, 114, 101], [97, 117, 116, 104, 45, 115, 117, 99, 99, 101, 115, 115], [98, 97, 110, 110, 101, 114], [112, 107, 45, 111, 107], [103, 108, 111, 98, 97, 108, 45, 114, 101, 113, 117, 101, 115, 116], [114, 101, 113, 117, 101, 115, 116, 45, 115, 117, 99, 99, 101, 115, 115], [114, 101, 113, 117, 101, 115, 116, 45, 102, 97, 105, 108, 117, 114, 101], [111, 112, 101, 110], [99, 111, 110, 102, 105, 114, 109], [111, 112, 101, 110, 45, 102, 97, 105, 108, 117, 114, 101], [97, 100, 106, 117, 115, 116], [100, 97, 116, 97], [101, 120, 116, 101, 110, 100, 101, 100], [101, 111, 102], [99, 108, 111, 115, 101], [99, 104, 97, 110, 110, 101, 108, 45, 114, 101, 113, 117, 101, 115, 116], [99, 104, 97, 110, 110, 101, 108, 45, 115, 117, 99, 99, 101, 115, 115], [99, 104, 97, 110, 110, 101, 108, 45, 102, 97, 105, 108, 117, 114, 101]]
def kFields : List (List UInt8) := [[117, 115, 115], [115], [117], [98, 115, 115], [115], [115], [99, 110, 110, 110, 110, 110, 110, 110, 110, 110, 110, 98, 117], [], [115], [115, 115, 115], [115, 115, 115, 114], [110, 98], [], [115, 115], [115, 115], [115, 98, 114], [114], [], [115, 117, 117, 117, 114], [117, 117, 117, 117, 114], [117, 117, 115, 115], [117, 117], [117, 115], [117, 117, 115], [117], [117], [117, 115, 98, 114], [117], [117]]
def kindCells : List AV := [.i64 1, .str [100, 105, 115, 99, 111, 110, 110, 101, 99, 116], .str [117, 115, 115], .i64 2, .str [105, 103, 110, 111, 114, 101], .str [115], .i64 3, .str [117, 110, 105, 109, 112, 108, 101, 109, 101, 110, 116, 101, 100], .str [117], .i64 4, .str [100, 101, 98, 117, 103], .str [98, 115, 115], .i64 5, .str [115, 101, 114, 118, 105, 99, 101, 45, 114, 101, 113, 117, 101, 115, 116], .str [115], .i64 6, .str [115, 101, 114, 118, 105, 99, 101, 45, 97, 99, 99, 101, 112, 116], .str [115], .i64 20, .str [107, 101, 120, 105, 110, 105, 116], .str [99, 110, 110, 110, 110, 110, 110, 110, 110, 110, 110, 98, 117], .i64 21, .str [110, 101, 119, 107, 101, 121, 115], .str [], .i64 30, .str [101, 99, 100, 104, 45, 105, 110, 105, 116], .str [115], .i64 31, .str [101, 99, 100, 104, 45, 114, 101, 112, 108, 121], .str [115, 115, 115], .i64 50, .str [97, 117, 116, 104, 45, 114, 101, 113, 117, 101, 115, 116], .str [115, 115, 115, 114], .i64 51, .str [97, 117, 116, 104, 45, 102, 97, 105, 108, 117, 114, 101], .str [110, 98], .i64 52, .str [97, 117, 116, 104, 45, 115, 117, 99, 99, 101, 115, 115], .str [], .i64 53, .str [98, 97, 110, 110, 101, 114], .str [115, 115], .i64 60, .str [112, 107, 45, 111, 107], .str [115, 115], .i64 80, .str [103, 108, 111, 98, 97, 108, 45, 114, 101, 113, 117, 101, 115, 116], .str [115, 98, 114], .i64 81, .str [114, 101, 113, 117, 101, 115, 116, 45, 115, 117, 99, 99, 101, 115, 115], .str [114], .i64 82, .str [114, 101, 113, 117, 101, 115, 116, 45, 102, 97, 105, 108, 117, 114, 101], .str [], .i64 90, .str [111, 112, 101, 110], .str [115, 117, 117, 117, 114], .i64 91, .str [99, 111, 110, 102, 105, 114, 109], .str [117, 117, 117, 117, 114], .i64 92, .str [111, 112, 101, 110, 45, 102, 97, 105, 108, 117, 114, 101], .str [117, 117, 115, 115], .i64 93, .str [97, 100, 106, 117, 115, 116], .str [117, 117], .i64 94, .str [100, 97, 116, 97], .str [117, 115], .i64 95, .str [101, 120, 116, 101, 110, 100, 101, 100], .str [117, 117, 115], .i64 96, .str [101, 111, 102], .str [117], .i64 97, .str [99, 108, 111, 115, 101], .str [117], .i64 98, .str [99, 104, 97, 110, 110, 101, 108, 45, 114, 101, 113, 117, 101, 115, 116], .str [117, 115, 98, 114], .i64 99, .str [99, 104, 97, 110, 110, 101, 108, 45, 115, 117, 99, 99, 101, 115, 115], .str [117], .i64 100, .str [99, 104, 97, 110, 110, 101, 108, 45, 102, 97, 105, 108, 117, 114, 101], .str [117]]
/-- The row of a kind, out of the rows before n. -/
def kAt (k : Int) : Nat → Option Nat
  | 0 => none
  | n + 1 => match kAt k n with
    | some i => some i
    | none => if kNums.getD n 0 = k then some n else none
def fieldsOf (k : Int) : List UInt8 := match kAt k 29 with
  | some i => kFields.getD i []
  | none => []
def isKind (k : Int) : Bool := (kAt k 29).isSome
def nameOf (k : Int) : List UInt8 := match kAt k 29 with
  | some i => kNames.getD i []
  | none => []
theorem kAt_more {k : Int} {i n : Nat} (h : kAt k n = some i) : ∀ m, kAt k (n + m) = some i
  | 0 => h
  | m + 1 => by
    show (match kAt k (n + m) with | some i => some i | none => if kNums.getD (n + m) 0 = k then some (n + m) else none) = some i
    rw [kAt_more h m]
theorem kAt_hit {k : Int} {n : Nat} (h : kAt k n = none) (hk : kNums.getD n 0 = k) (hn : n < 29) : kAt k 29 = some n := by
  have h1 : kAt k (n + 1) = some n := by
    show (match kAt k n with | some i => some i | none => if kNums.getD n 0 = k then some n else none) = some n
    rw [h]; simp only; rw [if_pos hk]
  have := kAt_more h1 (29 - (n + 1))
  rwa [show n + 1 + (29 - (n + 1)) = 29 by omega] at this
theorem kAt_miss {k : Int} {n : Nat} (h : kAt k n = none) (hk : ¬ kNums.getD n 0 = k) : kAt k (n + 1) = none := by
  show (match kAt k n with | some i => some i | none => if kNums.getD n 0 = k then some n else none) = none
  rw [h]; simp only; rw [if_neg hk]
theorem fields_hit {k : Int} {n : Nat} (h : kAt k n = none) (hk : kNums.getD n 0 = k) (hn : n < 29) : kFields.getD n [] = fieldsOf k ∧ true = isKind k ∧ kNames.getD n [] = nameOf k := by
  have e := kAt_hit h hk hn
  refine ⟨?_, ?_, ?_⟩
  · unfold fieldsOf; rw [e]
  · unfold isKind; rw [e]; rfl
  · unfold nameOf; rw [e]
theorem fields_none {k : Int} (h : kAt k 29 = none) : ([] : List UInt8) = fieldsOf k ∧ false = isKind k ∧ ([] : List UInt8) = nameOf k := by
  refine ⟨?_, ?_, ?_⟩
  · unfold fieldsOf; rw [h]
  · unfold isKind; rw [h]; rfl
  · unfold nameOf; rw [h]
theorem kind_row : ∀ j, j < 29 → AV.agg ((kindCells.drop (j * 3)).take 3) = .agg [.i64 (kNums.getD j 0), .str (kNames.getD j []), .str (kFields.getD j [])]
  | 0, _ => rfl
  | 1, _ => rfl
  | 2, _ => rfl
  | 3, _ => rfl
  | 4, _ => rfl
  | 5, _ => rfl
  | 6, _ => rfl
  | 7, _ => rfl
  | 8, _ => rfl
  | 9, _ => rfl
  | 10, _ => rfl
  | 11, _ => rfl
  | 12, _ => rfl
  | 13, _ => rfl
  | 14, _ => rfl
  | 15, _ => rfl
  | 16, _ => rfl
  | 17, _ => rfl
  | 18, _ => rfl
  | 19, _ => rfl
  | 20, _ => rfl
  | 21, _ => rfl
  | 22, _ => rfl
  | 23, _ => rfl
  | 24, _ => rfl
  | 25, _ => rfl
  | 26, _ => rfl
  | 27, _ => rfl
  | 28, _ => rfl
  | n + 29, h => absurd h (by omega)
theorem name_full : ∀ j, j < 29 → (kNames.getD j [] != []) = true := by decide
theorem nameOf_kind (k : Int) : (nameOf k != []) = isKind k := by
  unfold nameOf isKind
  have hlt : ∀ n i, kAt k n = some i → i < n := fun n => by
    induction n with
    | zero => intro i h; cases h
    | succ n ih =>
      intro i h
      simp only [kAt] at h
      cases hn : kAt k n with
      | some q => rw [hn] at h; injection h with h; subst h; have := ih q hn; omega
      | none =>
        rw [hn] at h
        simp only at h
        split at h
        · injection h with h; omega
        · cases h
  cases h : kAt k 29 with
  | none => rfl
  | some i => exact name_full i (hlt 29 i h)
set_option maxRecDepth 100000 in
theorem fields_ev (k : Int) : Meets Tryd.prog 26 [.i64 k] [(21, some ⟨.agg kindCells, errT, false⟩)] (.tup [.str (fieldsOf k), .bool (isKind k)]) [] := by
 refine meets_of_ev (nt := 17) Tryd.func26 rfl rfl (Nat.le_of_ble_eq_true rfl) ?_
 refine .seq ?_
 refine .region ?_
 refine .q (op_assign rfl) trivial rfl ?_
 refine .q (op_assign rfl) trivial rfl ?_
 refine .nil ?_
 show Ev _ _ _ _ _
 refine .seq ?_
 refine .seq ?_
 refine .region ?_
 refine .q (op_loadRow Tryd.underlying87 rfl (by kernel_rfl) rfl rfl rfl (rfl)) trivial rfl ?_
 refine .q (op_move rfl) trivial rfl ?_
 refine .nil ?_
 show Ev _ _ _ _ _
 refine .block ?_
 refine Ev.loop (ι := { j : Nat // j ≤ 29 ∧ kAt k j = none }) (fun q => ⟨[(6, .agg kindCells), (7, .i64 (q.1 : Int)), (0, .i64 k)], [], 1000⟩) (fun q => 29 - q.1) ⟨0, by omega, rfl⟩ (StLe.mk [] rfl rfl ⟨⟨_, rfl, by first | rfl | (simp only [AV.ren]; congr 1; omega), rfl⟩, ⟨_, rfl, by first | rfl | (simp only [AV.ren]; congr 1; omega), rfl⟩, ⟨_, rfl, by first | rfl | (simp only [AV.ren]; congr 1; omega), rfl⟩, trivial⟩ trivial) ?_
 rintro ⟨j, hj, hq⟩
 try dsimp only
 refine .seq ?_
 refine .region ?_
 refine .q (op_cmpI rfl rfl rfl) trivial rfl ?_
 refine .nil ?_
 show Ev _ _ _ _ _
 refine .seq ?_
 refine .cond rfl (fun hc8 => ?_) (fun hc8 => ?_)
 ·simp only [decide_eq_true_eq] at hc8
  refine .skip ?_
  show Ev _ _ _ _ _
  refine .seq ?_
  refine .block ?_
  refine .seq ?_
  refine .region ?_
  refine .q (op_index_rowS (z := 3) Tryd.underlying87 Tryd.underlying86 rfl (by kernel_rfl) rfl rfl rfl rfl (by show j * 3 + 3 ≤ 87; omega) (by omega)) trivial rfl ?_
  refine .as (.agg [.i64 (kNums.getD j 0), .str (kNames.getD j []), .str (kFields.getD j [])]) (kind_row j (by omega)) ?_
  refine .a (op_allocRow zero86 rel_zero86 rfl) trivial rfl ?_
  refine .w (op_storeRow (by kernel_rfl) rfl rfl rfl rfl rfl (rfl) (rfl)) trivial rfl ?_
  refine .nil ?_
  show Ev _ _ _ _ _
  refine .seq ?_
  refine .region ?_
  refine .q (op_fieldAddr (m := 0) Tryd.underlying86 rfl (by kernel_rfl) rfl) trivial rfl ?_
  refine .as (.ptr 1000 0) rfl ?_
  refine .q (op_load Tryd.underlying3 rfl rfl rfl rfl (by first | omega | (simp only [AV.len]; omega) | (simp only [AV.len]; omega) | assumption | (simp [AV.len]; done))) trivial rfl ?_
  refine .q (op_move rfl) trivial rfl ?_
  refine .q (op_cmpI rfl rfl rfl) trivial rfl ?_
  refine .nil ?_
  show Ev _ _ _ _ _
  refine .cond rfl (fun hc13 => ?_) (fun hc13 => ?_)
  ·simp only [beq_iff_eq] at hc13
   refine .seq ?_
   refine .region ?_
   refine .q (op_fieldAddr (m := 0) Tryd.underlying86 rfl (by kernel_rfl) rfl) trivial rfl ?_
   refine .as (.ptr 1000 2) rfl ?_
   refine .q (op_load Tryd.underlying9 rfl rfl rfl rfl (by first | omega | (simp only [AV.len]; omega) | (simp only [AV.len]; omega) | assumption | (simp [AV.len]; done))) trivial rfl ?_
   refine .q (op_assign rfl) trivial rfl ?_
   refine .q (op_assign rfl) trivial rfl ?_
   refine .nil ?_
   show Ev _ _ _ _ _
   refine .ret ?_
   show RetOk _ _ _ _ _ _ _
   exact ret2v rfl (.inl rfl) rfl rfl (congrArg AV.str (by first | exact (fields_hit hq hc13 (by omega)).1 | exact (fields_none (by rwa [show j = 29 by omega] at hq)).1)) (congrArg AV.bool (by first | exact (fields_hit hq hc13 (by omega)).2.1 | exact (fields_none (by rwa [show j = 29 by omega] at hq)).2.1)) trivial
  ·simp only [ne_eq, beq_eq_false_iff_ne] at hc13
   refine .skip ?_
   show Ev _ _ _ _ _
   refine .region ?_
   refine .q (op_addI rfl rfl ⟨by omega, by omega⟩) trivial rfl ?_
   refine .q (op_move rfl) trivial rfl ?_
   refine .nil ?_
   exact ⟨⟨j + 1, by omega, kAt_miss hq hc13⟩, by (try dsimp only); omega, StLe.mk [] rfl rfl ⟨⟨_, rfl, by first | rfl | (simp only [AV.ren]; congr 1; omega), rfl⟩, ⟨_, rfl, by first | rfl | (simp only [AV.ren]; congr 1; omega), rfl⟩, ⟨_, rfl, by first | rfl | (simp only [AV.ren]; congr 1; omega), rfl⟩, trivial⟩ trivial⟩
 ·simp only [decide_eq_false_iff_not] at hc8
  refine .exit ?_
  show Ev _ _ _ _ _
  refine .seq ?_
  refine .region ?_
  refine .q (op_assign rfl) trivial rfl ?_
  refine .q (op_assign rfl) trivial rfl ?_
  refine .nil ?_
  show Ev _ _ _ _ _
  refine .ret ?_
  show RetOk _ _ _ _ _ _ _
  exact ret2v rfl (.inl rfl) rfl rfl (congrArg AV.str (by first | exact (fields_hit hq hc13 (by omega)).1 | exact (fields_none (by rwa [show j = 29 by omega] at hq)).1)) (congrArg AV.bool (by first | exact (fields_hit hq hc13 (by omega)).2.1 | exact (fields_none (by rwa [show j = 29 by omega] at hq)).2.1)) trivial
theorem kAt_all {k : Int} (h0 : ¬ k = 1) (h1 : ¬ k = 2) (h2 : ¬ k = 3) (h3 : ¬ k = 4) (h4 : ¬ k = 5) (h5 : ¬ k = 6) (h6 : ¬ k = 20) (h7 : ¬ k = 21) (h8 : ¬ k = 30) (h9 : ¬ k = 31) (h10 : ¬ k = 50) (h11 : ¬ k = 51) (h12 : ¬ k = 52) (h13 : ¬ k = 53) (h14 : ¬ k = 60) (h15 : ¬ k = 80) (h16 : ¬ k = 81) (h17 : ¬ k = 82) (h18 : ¬ k = 90) (h19 : ¬ k = 91) (h20 : ¬ k = 92) (h21 : ¬ k = 93) (h22 : ¬ k = 94) (h23 : ¬ k = 95) (h24 : ¬ k = 96) (h25 : ¬ k = 97) (h26 : ¬ k = 98) (h27 : ¬ k = 99) (h28 : ¬ k = 100) : kAt k 29 = none := (kAt_miss (kAt_miss (kAt_miss (kAt_miss (kAt_miss (kAt_miss (kAt_miss (kAt_miss (kAt_miss (kAt_miss (kAt_miss (kAt_miss (kAt_miss (kAt_miss (kAt_miss (kAt_miss (kAt_miss (kAt_miss (kAt_miss (kAt_miss (kAt_miss (kAt_miss (kAt_miss (kAt_miss (kAt_miss (kAt_miss (kAt_miss (kAt_miss (kAt_miss (rfl : kAt k 0 = none) (fun e => h0 e.symm)) (fun e => h1 e.symm)) (fun e => h2 e.symm)) (fun e => h3 e.symm)) (fun e => h4 e.symm)) (fun e => h5 e.symm)) (fun e => h6 e.symm)) (fun e => h7 e.symm)) (fun e => h8 e.symm)) (fun e => h9 e.symm)) (fun e => h10 e.symm)) (fun e => h11 e.symm)) (fun e => h12 e.symm)) (fun e => h13 e.symm)) (fun e => h14 e.symm)) (fun e => h15 e.symm)) (fun e => h16 e.symm)) (fun e => h17 e.symm)) (fun e => h18 e.symm)) (fun e => h19 e.symm)) (fun e => h20 e.symm)) (fun e => h21 e.symm)) (fun e => h22 e.symm)) (fun e => h23 e.symm)) (fun e => h24 e.symm)) (fun e => h25 e.symm)) (fun e => h26 e.symm)) (fun e => h27 e.symm)) (fun e => h28 e.symm))
end Go.Proofs.YtalhfkmkmmfkcaaDoor
namespace Go.Proofs.YtalhfkmkmmfkcaaDoor
open Go.RowKit
set_option maxRecDepth 100000 in
theorem count_ev (s : List UInt8) (c : UInt8) : Meets Tryd.prog 32 [.str s, .str [c]] [] (.i64 ((s.count c : Nat) : Int)) [] := by
 refine meets_of_ev (nt := 34) Tryd.func32 rfl rfl (Nat.le_of_ble_eq_true rfl) ?_
 refine .seq ?_
 refine .region ?_
 refine .q (op_assign rfl) trivial rfl ?_
 refine .nil ?_
 show Ev _ _ _ _ _
 refine .seq ?_
 refine .seq ?_
 refine .region ?_
 refine .q (op_move rfl) trivial rfl ?_
 refine .q (op_len_str Tryd.underlying9 rfl) trivial rfl ?_
 refine .q (op_cmpI rfl rfl rfl) trivial rfl ?_
 refine .nil ?_
 show Ev _ _ _ _ _
 refine .cond_false rfl (rfl) ?_
 refine .skip ?_
 show Ev _ _ _ _ _
 refine .seq ?_
 refine .seq ?_
 refine .region ?_
 refine .q (op_move rfl) trivial rfl ?_
 refine .q (op_len_str Tryd.underlying9 rfl) trivial rfl ?_
 refine .q (op_cmpI rfl rfl rfl) trivial rfl ?_
 refine .nil ?_
 show Ev _ _ _ _ _
 refine .cond_true rfl (rfl) ?_
 refine .seq ?_
 refine .region ?_
 refine .q (op_move rfl) trivial rfl ?_
 refine .q (op_move rfl) trivial rfl ?_
 refine .q (op_index_str Tryd.underlying9 rfl rfl rfl (by first | omega | (skip; omega) | (skip; omega) | assumption | (simp; done))) trivial rfl ?_
 refine .q (op_countStr Tryd.func37 (by kernel_rfl) (by kernel_rfl) (by kernel_rfl) (by kernel_rfl) rfl rfl) trivial rfl ?_
 refine .q (op_assign rfl) trivial rfl ?_
 refine .nil ?_
 show Ev _ _ _ _ _
 refine .ret ?_
 show RetOk _ _ _ _ _ _ _
 exact ret1v rfl (.inl rfl) rfl (rfl) trivial
set_option maxRecDepth 100000 in
theorem idxb_ev (s : List UInt8) (c : UInt8) : Meets Tryd.prog 45 [.str s, .u8 c] [] (.i64 (Lib.indexByte s c)) [] := by
 refine meets_of_ev (nt := 8) Tryd.func45 rfl rfl (Nat.le_of_ble_eq_true rfl) ?_
 refine .seq ?_
 refine .region ?_
 refine .q (op_assign rfl) trivial rfl ?_
 refine .nil ?_
 show Ev _ _ _ _ _
 refine .seq ?_
 refine .region ?_
 refine .q (op_move rfl) trivial rfl ?_
 refine .q (op_move rfl) trivial rfl ?_
 refine .q (op_indexByteStr Tryd.func51 (by kernel_rfl) (by kernel_rfl) (by kernel_rfl) (by kernel_rfl) rfl rfl) trivial rfl ?_
 refine .q (op_assign rfl) trivial rfl ?_
 refine .nil ?_
 show Ev _ _ _ _ _
 refine .ret ?_
 show RetOk _ _ _ _ _ _ _
 exact ret1v rfl (.inl rfl) rfl (rfl) trivial
set_option maxRecDepth 100000 in
theorem sidx_ev (s : List UInt8) (c : UInt8) : Meets Tryd.prog 42 [.str s, .str [c]] [] (.i64 (Lib.indexByte s c)) [] := by
 refine meets_of_ev (nt := 143) Tryd.func42 rfl rfl (Nat.le_of_ble_eq_true rfl) ?_
 refine .seq ?_
 refine .region ?_
 refine .q (op_assign rfl) trivial rfl ?_
 refine .nil ?_
 show Ev _ _ _ _ _
 refine .seq ?_
 refine .region ?_
 refine .q (op_move rfl) trivial rfl ?_
 refine .q (op_len_str Tryd.underlying9 rfl) trivial rfl ?_
 refine .q (op_assign rfl) trivial rfl ?_
 refine .nil ?_
 show Ev _ _ _ _ _
 refine .seq ?_
 refine .block ?_
 refine .seq ?_
 refine .region ?_
 refine .q (op_move rfl) trivial rfl ?_
 refine .q (op_cmpI rfl rfl rfl) trivial rfl ?_
 refine .q (op_move rfl) trivial rfl ?_
 refine .know (b' := false) (rfl) ?_
 refine .q (op_move rfl) ⟨_, rfl, rfl⟩ rfl ?_
 refine .q (op_move rfl) ⟨_, rfl, rfl⟩ rfl ?_
 refine .q (op_eqS rfl rfl rfl) ⟨_, rfl, rfl⟩ rfl ?_
 refine .q (op_pick_false rfl rfl rfl) trivial rfl ?_
 refine .q (op_assign rfl) trivial rfl ?_
 refine .nil ?_
 show Ev _ _ _ _ _
 refine .cond rfl (fun hc16 => ?_) (fun hc16 => ?_)
 ·simp only [beq_iff_eq] at hc16
  refine .seq ?_
  refine .region ?_
  refine .q (op_assign rfl) trivial rfl ?_
  refine .nil ?_
  show Ev _ _ _ _ _
  refine .ret ?_
  show RetOk _ _ _ _ _ _ _
  exact ret1v rfl (.inl rfl) rfl (by first | rfl | (subst hc16; simp [Lib.indexByte]; done)) trivial
 ·simp only [ne_eq, beq_eq_false_iff_ne] at hc16
  refine .seq ?_
  refine .region ?_
  refine .q (op_move rfl) trivial rfl ?_
  refine .q (op_cmpI rfl rfl rfl) trivial rfl ?_
  refine .q (op_assign rfl) trivial rfl ?_
  refine .nil ?_
  show Ev _ _ _ _ _
  refine .cond_true rfl (rfl) ?_
  refine .seq ?_
  refine .region ?_
  refine .q (op_move rfl) trivial rfl ?_
  refine .q (op_move rfl) trivial rfl ?_
  refine .q (op_index_str Tryd.underlying9 rfl rfl rfl (by first | omega | (skip; omega) | (skip; omega) | assumption | (simp; done))) trivial rfl ?_
  refine .q (op_call (U := []) [] [] (idxb_ev s c) Tryd.func45 (by kernel_rfl) rfl rfl rfl (⟨⟨_, rfl, rfl, rfl⟩, ⟨_, rfl, rfl, rfl⟩, trivial⟩) (trivial) (trivial) (trivial) rfl) trivial rfl ?_
  refine .q (op_assign rfl) trivial rfl ?_
  refine .nil ?_
  show Ev _ _ _ _ _
  refine .ret ?_
  show RetOk _ _ _ _ _ _ _
  exact ret1v rfl (.inl rfl) rfl (by first | rfl | (subst hc16; simp [Lib.indexByte]; done)) trivial
set_option maxRecDepth 100000 in
theorem index_ev (s : List UInt8) (c : UInt8) : Meets Tryd.prog 38 [.str s, .str [c]] [] (.i64 (Lib.indexByte s c)) [] := by
 refine meets_of_ev (nt := 8) Tryd.func38 rfl rfl (Nat.le_of_ble_eq_true rfl) ?_
 refine .seq ?_
 refine .region ?_
 refine .q (op_assign rfl) trivial rfl ?_
 refine .nil ?_
 show Ev _ _ _ _ _
 refine .seq ?_
 refine .region ?_
 refine .q (op_move rfl) trivial rfl ?_
 refine .q (op_move rfl) trivial rfl ?_
 refine .q (op_call (U := []) [] [] (sidx_ev s c) Tryd.func42 (by kernel_rfl) rfl rfl rfl (⟨⟨_, rfl, rfl, rfl⟩, ⟨_, rfl, rfl, rfl⟩, trivial⟩) (trivial) (trivial) (trivial) rfl) trivial rfl ?_
 refine .q (op_assign rfl) trivial rfl ?_
 refine .nil ?_
 show Ev _ _ _ _ _
 refine .ret ?_
 show RetOk _ _ _ _ _ _ _
 exact ret1v rfl (.inl rfl) rfl (rfl) trivial
end Go.Proofs.YtalhfkmkmmfkcaaDoor
