/-
  The encoder and the decoder, walked.
-/
import Derived.Test.YtoigppbkfhfllaaDoorGE
namespace Go.Proofs.YtoigppbkfhfllaaDoor
open Go.RowKit

/-- What is left to read, and the number of the first error (0: none). -/
structure DI where
  r : List UInt8
  e : Nat
def orE : Nat → Nat → Nat
  | 0, x => x
  | n + 1, _ => n + 1
def failD (i : DI) (x : Nat) : DI := ⟨[], orE i.e x⟩
def rawD (i : DI) (n : Nat) : DI × List UInt8 := if n ≤ i.r.length then (⟨i.r.drop n, i.e⟩, i.r.take n) else (failD i 2, [])
/-- The number of the first j bytes. -/
def numL (s : List UInt8) : Nat → UInt64
  | 0 => 0
  | j + 1 => numL s j <<< UInt64.ofNat 8 ||| (s.getD j 0).toUInt64
def numV (s : List UInt8) : UInt64 := numL s s.length
def numD (i : DI) (k : Nat) : DI × UInt64 := ((rawD i k).1, numV (rawD i k).2)
def byteD (i : DI) : DI × UInt8 := ((numD i 1).1, (numD i 1).2.toUInt8)
def boolD (i : DI) : DI × Bool := ((byteD i).1, (byteD i).2 != 0)
def u32D (i : DI) : DI × UInt32 := ((numD i 4).1, (numD i 4).2.toUInt32)
def u64D (i : DI) : DI × UInt64 := numD i 8
def textD (i : DI) (most : Int) : DI × List UInt8 := if most < ((u32D i).2.toNat : Int) then (failD (u32D i).1 4, []) else rawD (u32D i).1 (u32D i).2.toNat
def chOk (c : UInt8) : Bool := !(decide (c ≤ 32)) && !(decide (126 < c)) && !(c == 44)
def nameOk (s : List UInt8) : Bool := !(s == []) && !(decide (64 < s.length)) && s.all chOk
def splitC : List UInt8 → List (List UInt8)
  | [] => [[]]
  | c :: s => if c = 44 then [] :: splitC s else match splitC s with
    | x :: l => (c :: x) :: l
    | [] => [[c]]
def namesD (i : DI) : DI × List (List UInt8) :=
  if (textD i 4096).2 = [] then ((textD i 4096).1, []) else
  if (splitC (textD i 4096).2).all nameOk then ((textD i 4096).1, splitC (textD i 4096).2) else (failD (textD i 4096).1 3, [])
def endD (i : DI) : DI := if i.r = [] then i else failD i 3

def bigM (most : Int) : Int := min (max most 0) 4096
def bigT (i : DI) (most : Int) : DI × List UInt8 := textD i (bigM most + 1)
def shortB (s : List UInt8) : List UInt8 := s.dropWhile (fun x => x == 0)
def unsB (s : List UInt8) : List UInt8 := if s = [] then [] else if s.getD 0 0 < 128 then s else 0 :: s
def bigD (i : DI) (most : Int) : DI × List UInt8 :=
  if unsB (shortB (bigT i most).2) = (bigT i most).2 then
    if bigM most < ((shortB (bigT i most).2).length : Int) then (failD (bigT i most).1 4, []) else ((bigT i most).1, shortB (bigT i most).2)
  else (failD (bigT i most).1 3, [])
theorem length_shortB (s : List UInt8) : (shortB s).length ≤ s.length := by unfold shortB; exact (List.dropWhile_sublist _).length_le
theorem length_unsB (s : List UInt8) : (unsB s).length ≤ s.length + 1 := by unfold unsB; split <;> (try split) <;> simp_all

/-- Where an error is, nothing is left. -/
def DI.ok (i : DI) : Prop := i.e ≠ 0 → i.r = []
theorem failD_ok (i : DI) (x : Nat) : (failD i x).ok := fun _ => rfl
theorem rawD_ok {i : DI} (h : i.ok) (n : Nat) : (rawD i n).1.ok := by
  unfold rawD
  split
  · intro he; simp only at he ⊢; rw [h he]; simp
  · exact failD_ok _ _
theorem rawD_length (i : DI) (n : Nat) : (rawD i n).2.length = n ∨ (rawD i n).2 = [] := by
  unfold rawD
  split
  · left; simp only [List.length_take]; omega
  · right; rfl
theorem rawD_len_le (i : DI) (n : Nat) : (rawD i n).2.length ≤ i.r.length ∧ (rawD i n).1.r.length ≤ i.r.length := by
  unfold rawD
  split
  · simp only [List.length_take, List.length_drop]; omega
  · simp [failD]
theorem textD_ok {i : DI} (h : i.ok) (m : Int) : (textD i m).1.ok := by
  unfold textD
  split
  · exact failD_ok _ _
  · exact rawD_ok (rawD_ok h 4) _
theorem textD_len_le (i : DI) (m : Int) : (textD i m).2.length ≤ i.r.length ∧ (textD i m).1.r.length ≤ i.r.length := by
  have h0 := rawD_len_le i 4
  unfold textD
  split
  · simp [failD]
  · have h := rawD_len_le (u32D i).1 (u32D i).2.toNat
    have h2 : (u32D i).1.r.length ≤ i.r.length := h0.2
    omega
end Go.Proofs.YtoigppbkfhfllaaDoor
namespace Go.Proofs.YtoigppbkfhfllaaDoor
open Go.RowKit
set_option maxRecDepth 100000 in
theorem cc0_ev  : Meets Tryd.prog 70 [.ptr 500 0] [(500, some ⟨.agg [.val (.pointer none), .nilsl], 29, true⟩)] (.tup []) [(500, some ⟨.agg [.ptr 500 0, .nilsl], 29, true⟩)] := by
 refine meets_of_ev (nt := 20) Tryd.func70 rfl rfl (Nat.le_of_ble_eq_true rfl) ?_
 refine .seq ?_
 refine .region ?_
 refine .q (op_move rfl) trivial rfl ?_
 refine .q (op_nilCheck rfl) trivial rfl ?_
 refine .q (op_fieldAddr (m := 0) Tryd.underlying27 rfl (by kernel_rfl) rfl) trivial rfl ?_
 refine .as (.ptr 500 0) rfl ?_
 refine .q (op_load Tryd.underlying24 rfl rfl rfl rfl (by first | omega | (simp only [AV.len]; omega) | (simp only [AV.len]; omega) | assumption | (simp [AV.len]; done))) trivial rfl ?_
 refine .q (op_eqNilPtr Tryd.underlying24 rfl rfl rfl) trivial rfl ?_
 refine .nil ?_
 show Ev _ _ _ _ _
 refine .cond_true rfl (rfl) ?_
 refine .region ?_
 refine .q (op_move rfl) trivial rfl ?_
 refine .q (op_move rfl) trivial rfl ?_
 refine .q (op_toUnsafe Tryd.underlying24 Tryd.underlying126 (by kernel_rfl) rfl rfl rfl) trivial rfl ?_
 refine .q (op_noEscape Tryd.func83 (by kernel_rfl) (by kernel_rfl) (by kernel_rfl) rfl rfl) trivial rfl ?_
 refine .q (op_fromUnsafe Tryd.underlying126 Tryd.underlying24 (by kernel_rfl) rfl rfl (by decide) rfl (by kernel_rfl) (by kernel_rfl) (by kernel_rfl)) trivial rfl ?_
 refine .q (op_nilCheck rfl) trivial rfl ?_
 refine .q (op_fieldAddr (m := 0) Tryd.underlying27 rfl (by kernel_rfl) rfl) trivial rfl ?_
 refine .as (.ptr 500 0) rfl ?_
 refine .w (op_store (by kernel_rfl) rfl rfl rfl rfl rfl (by first | omega | (simp only [AV.len]; omega) | (simp only [AV.len]; omega) | assumption | (simp [AV.len]; done))) trivial rfl ?_
 refine .nil ?_
 show RetOk _ _ _ _ _ _ _
 exact ret0 rfl (.inr rfl) ⟨rfl, trivial⟩
set_option maxRecDepth 100000 in
theorem cc1_ev  : Meets Tryd.prog 70 [.ptr 500 0] [(500, some ⟨.agg [.ptr 500 0, .nilsl], 29, false⟩)] (.tup []) [(500, some ⟨.agg [.ptr 500 0, .nilsl], 29, false⟩)] := by
 refine meets_of_ev (nt := 20) Tryd.func70 rfl rfl (Nat.le_of_ble_eq_true rfl) ?_
 refine .seq ?_
 refine .region ?_
 refine .q (op_move rfl) trivial rfl ?_
 refine .q (op_nilCheck rfl) trivial rfl ?_
 refine .q (op_fieldAddr (m := 0) Tryd.underlying27 rfl (by kernel_rfl) rfl) trivial rfl ?_
 refine .as (.ptr 500 0) rfl ?_
 refine .q (op_load Tryd.underlying24 rfl rfl rfl rfl (by first | omega | (simp only [AV.len]; omega) | (simp only [AV.len]; omega) | assumption | (simp [AV.len]; done))) trivial rfl ?_
 refine .q (op_eqPtrNil Tryd.underlying24 rfl rfl rfl) trivial rfl ?_
 refine .nil ?_
 show Ev _ _ _ _ _
 refine .cond_false rfl (rfl) ?_
 refine .seq ?_
 refine .region ?_
 refine .q (op_move rfl) trivial rfl ?_
 refine .q (op_nilCheck rfl) trivial rfl ?_
 refine .q (op_fieldAddr (m := 0) Tryd.underlying27 rfl (by kernel_rfl) rfl) trivial rfl ?_
 refine .as (.ptr 500 0) rfl ?_
 refine .q (op_load Tryd.underlying24 rfl rfl rfl rfl (by first | omega | (simp only [AV.len]; omega) | (simp only [AV.len]; omega) | assumption | (simp [AV.len]; done))) trivial rfl ?_
 refine .q (op_move rfl) trivial rfl ?_
 refine .q (op_eqPtrSame Tryd.underlying24 (by kernel_rfl) rfl rfl rfl) trivial rfl ?_
 refine .nil ?_
 show Ev _ _ _ _ _
 refine .cond_false rfl (rfl) ?_
 refine .skip ?_
 show RetOk _ _ _ _ _ _ _
 exact ret0 rfl (.inr rfl) ⟨rfl, trivial⟩
set_option maxRecDepth 100000 in
theorem cc2_ev (n : Nat) : Meets Tryd.prog 70 [.ptr 500 0] [(500, some ⟨.agg [.ptr 500 0, .sl 501 0 (n) 1], 29, false⟩)] (.tup []) [(500, some ⟨.agg [.ptr 500 0, .sl 501 0 (n) 1], 29, false⟩)] := by
 refine meets_of_ev (nt := 20) Tryd.func70 rfl rfl (Nat.le_of_ble_eq_true rfl) ?_
 refine .seq ?_
 refine .region ?_
 refine .q (op_move rfl) trivial rfl ?_
 refine .q (op_nilCheck rfl) trivial rfl ?_
 refine .q (op_fieldAddr (m := 0) Tryd.underlying27 rfl (by kernel_rfl) rfl) trivial rfl ?_
 refine .as (.ptr 500 0) rfl ?_
 refine .q (op_load Tryd.underlying24 rfl rfl rfl rfl (by first | omega | (simp only [AV.len]; omega) | (simp only [AV.len]; omega) | assumption | (simp [AV.len]; done))) trivial rfl ?_
 refine .q (op_eqPtrNil Tryd.underlying24 rfl rfl rfl) trivial rfl ?_
 refine .nil ?_
 show Ev _ _ _ _ _
 refine .cond_false rfl (rfl) ?_
 refine .seq ?_
 refine .region ?_
 refine .q (op_move rfl) trivial rfl ?_
 refine .q (op_nilCheck rfl) trivial rfl ?_
 refine .q (op_fieldAddr (m := 0) Tryd.underlying27 rfl (by kernel_rfl) rfl) trivial rfl ?_
 refine .as (.ptr 500 0) rfl ?_
 refine .q (op_load Tryd.underlying24 rfl rfl rfl rfl (by first | omega | (simp only [AV.len]; omega) | (simp only [AV.len]; omega) | assumption | (simp [AV.len]; done))) trivial rfl ?_
 refine .q (op_move rfl) trivial rfl ?_
 refine .q (op_eqPtrSame Tryd.underlying24 (by kernel_rfl) rfl rfl rfl) trivial rfl ?_
 refine .nil ?_
 show Ev _ _ _ _ _
 refine .cond_false rfl (rfl) ?_
 refine .skip ?_
 show RetOk _ _ _ _ _ _ _
 exact ret0 rfl (.inr rfl) ⟨rfl, trivial⟩
set_option maxRecDepth 100000 in
theorem wb0_ev (c : UInt8) : Meets Tryd.prog 43 [.ptr 500 0, .u8 c] [(500, some ⟨.agg [.val (.pointer none), .nilsl], 29, true⟩)] (.val .nilIface) [(500, some ⟨.agg [.ptr 500 0, .sl 1016 0 (1) 1], 29, true⟩), (1016, some ⟨.aggB [c], 5, true⟩)] := by
 refine meets_of_ev (nt := 17) Tryd.func43 rfl rfl (Nat.le_of_ble_eq_true rfl) ?_
 refine .seq ?_
 refine .region ?_
 refine .q (op_assign rfl) trivial rfl ?_
 refine .nil ?_
 show Ev _ _ _ _ _
 refine .seq ?_
 refine .region ?_
 refine .q (op_move rfl) trivial rfl ?_
 refine .a (op_call (U := [(500, some ⟨.agg [.ptr 500 0, .nilsl], 29, true⟩)]) [(500, 500)] [] (cc0_ev) Tryd.func70 (by kernel_rfl) rfl rfl rfl (⟨⟨_, rfl, rfl, rfl⟩, trivial⟩) (⟨⟨_, _, rfl, rfl, rfl, rfl, id, rfl⟩, trivial⟩) (⟨⟨500, _, rfl, rfl, rfl, rfl, .inr ⟨rfl, _, rfl, rfl⟩⟩, trivial⟩) (⟨(fun _ => ⟨500, _, rfl, rfl⟩), trivial⟩) rfl) trivial rfl ?_
 refine .nil ?_
 show Ev _ _ _ _ _
 refine .seq ?_
 refine .region ?_
 refine .q (op_move rfl) trivial rfl ?_
 refine .q (op_move rfl) trivial rfl ?_
 refine .q (op_nilCheck rfl) trivial rfl ?_
 refine .q (op_fieldAddr (m := 0) Tryd.underlying27 rfl (by kernel_rfl) rfl) trivial rfl ?_
 refine .as (.ptr 500 1) rfl ?_
 refine .q (op_load Tryd.underlying25 rfl rfl rfl rfl (by first | omega | (simp only [AV.len]; omega) | (simp only [AV.len]; omega) | assumption | (simp [AV.len]; done))) trivial rfl ?_
 refine .q (op_move rfl) trivial rfl ?_
 refine .a (ap_build (us := [_]) (c := .aggB [_]) Tryd.underlying25 inf5 rfl (by decide) (by decide) ⟨rfl, rfl, rfl, trivial⟩ rfl) trivial rfl ?_
 refine .a (ap_cat_nil Tryd.underlying25 inf5 rfl rfl rfl rfl (by first | omega | (simp only [AV.len]; omega) | (simp only [AV.len, List.length_set]; omega) | assumption | (simp [AV.len]; done)) (by first | omega | (simp only [AV.len]; omega) | (simp only [AV.len, List.length_set]; omega) | assumption | (simp [AV.len]; done))) trivial rfl ?_
 refine .q (op_nilCheck rfl) trivial rfl ?_
 refine .q (op_fieldAddr (m := 0) Tryd.underlying27 rfl (by kernel_rfl) rfl) trivial rfl ?_
 refine .as (.ptr 500 1) rfl ?_
 refine .w (op_store (by kernel_rfl) rfl rfl rfl rfl rfl (by first | omega | (simp only [AV.len]; omega) | (simp only [AV.len]; omega) | assumption | (simp [AV.len]; done))) trivial rfl ?_
 refine .nil ?_
 show Ev _ _ _ _ _
 refine .seq ?_
 refine .region ?_
 refine .q (op_assign rfl) trivial rfl ?_
 refine .nil ?_
 show Ev _ _ _ _ _
 refine .ret ?_
 show RetOk _ _ _ _ _ _ _
 exact ret1v rfl (.inl rfl) rfl rfl ⟨rfl, rfl, trivial⟩
set_option maxRecDepth 100000 in
theorem wb1_ev (c : UInt8) : Meets Tryd.prog 43 [.ptr 500 0, .u8 c] [(500, some ⟨.agg [.ptr 500 0, .nilsl], 29, true⟩)] (.val .nilIface) [(500, some ⟨.agg [.ptr 500 0, .sl 1008 0 (1) 1], 29, true⟩), (1008, some ⟨.aggB [c], 5, true⟩)] := by
 refine meets_of_ev (nt := 17) Tryd.func43 rfl rfl (Nat.le_of_ble_eq_true rfl) ?_
 refine .seq ?_
 refine .region ?_
 refine .q (op_assign rfl) trivial rfl ?_
 refine .nil ?_
 show Ev _ _ _ _ _
 refine .seq ?_
 refine .region ?_
 refine .q (op_move rfl) trivial rfl ?_
 refine .q (op_call (U := []) [(500, 500)] [] (cc1_ev) Tryd.func70 (by kernel_rfl) rfl rfl rfl (⟨⟨_, rfl, rfl, rfl⟩, trivial⟩) (⟨⟨_, _, rfl, rfl, rfl, rfl, (fun h => by cases h), rfl⟩, trivial⟩) (trivial) (⟨(fun h => by cases h), trivial⟩) rfl) trivial rfl ?_
 refine .nil ?_
 show Ev _ _ _ _ _
 refine .seq ?_
 refine .region ?_
 refine .q (op_move rfl) trivial rfl ?_
 refine .q (op_move rfl) trivial rfl ?_
 refine .q (op_nilCheck rfl) trivial rfl ?_
 refine .q (op_fieldAddr (m := 0) Tryd.underlying27 rfl (by kernel_rfl) rfl) trivial rfl ?_
 refine .as (.ptr 500 1) rfl ?_
 refine .q (op_load Tryd.underlying25 rfl rfl rfl rfl (by first | omega | (simp only [AV.len]; omega) | (simp only [AV.len]; omega) | assumption | (simp [AV.len]; done))) trivial rfl ?_
 refine .q (op_move rfl) trivial rfl ?_
 refine .a (ap_build (us := [_]) (c := .aggB [_]) Tryd.underlying25 inf5 rfl (by decide) (by decide) ⟨rfl, rfl, rfl, trivial⟩ rfl) trivial rfl ?_
 refine .a (ap_cat_nil Tryd.underlying25 inf5 rfl rfl rfl rfl (by first | omega | (simp only [AV.len]; omega) | (simp only [AV.len, List.length_set]; omega) | assumption | (simp [AV.len]; done)) (by first | omega | (simp only [AV.len]; omega) | (simp only [AV.len, List.length_set]; omega) | assumption | (simp [AV.len]; done))) trivial rfl ?_
 refine .q (op_nilCheck rfl) trivial rfl ?_
 refine .q (op_fieldAddr (m := 0) Tryd.underlying27 rfl (by kernel_rfl) rfl) trivial rfl ?_
 refine .as (.ptr 500 1) rfl ?_
 refine .w (op_store (by kernel_rfl) rfl rfl rfl rfl rfl (by first | omega | (simp only [AV.len]; omega) | (simp only [AV.len]; omega) | assumption | (simp [AV.len]; done))) trivial rfl ?_
 refine .nil ?_
 show Ev _ _ _ _ _
 refine .seq ?_
 refine .region ?_
 refine .q (op_assign rfl) trivial rfl ?_
 refine .nil ?_
 show Ev _ _ _ _ _
 refine .ret ?_
 show RetOk _ _ _ _ _ _ _
 exact ret1v rfl (.inl rfl) rfl rfl ⟨rfl, rfl, trivial⟩
set_option maxRecDepth 100000 in
theorem wb2_ev (l : List UInt8) (n : Nat) (hn : n = l.length) (h : n ≤ 1000000000) (c : UInt8) : Meets Tryd.prog 43 [.ptr 500 0, .u8 c] [(500, some ⟨.agg [.ptr 500 0, .sl 501 0 (n) 1], 29, true⟩), (501, some ⟨.aggB l, 5, true⟩)] (.val .nilIface) [(500, some ⟨.agg [.ptr 500 0, .sl 1008 0 (n + 1) 1], 29, true⟩), (1008, some ⟨.aggB (l ++ [c]), 5, true⟩)] := by
 refine meets_of_ev (nt := 17) Tryd.func43 rfl rfl (Nat.le_of_ble_eq_true rfl) ?_
 refine .seq ?_
 refine .region ?_
 refine .q (op_assign rfl) trivial rfl ?_
 refine .nil ?_
 show Ev _ _ _ _ _
 refine .seq ?_
 refine .region ?_
 refine .q (op_move rfl) trivial rfl ?_
 refine .q (op_call (U := []) [(500, 500), (501, 501)] [] (cc2_ev n) Tryd.func70 (by kernel_rfl) rfl rfl rfl (⟨⟨_, rfl, rfl, rfl⟩, trivial⟩) (⟨⟨_, _, rfl, rfl, rfl, rfl, (fun h => by cases h), rfl⟩, trivial⟩) (trivial) (⟨(fun h => by cases h), trivial⟩) rfl) trivial rfl ?_
 refine .nil ?_
 show Ev _ _ _ _ _
 refine .seq ?_
 refine .region ?_
 refine .q (op_move rfl) trivial rfl ?_
 refine .q (op_move rfl) trivial rfl ?_
 refine .q (op_nilCheck rfl) trivial rfl ?_
 refine .q (op_fieldAddr (m := 0) Tryd.underlying27 rfl (by kernel_rfl) rfl) trivial rfl ?_
 refine .as (.ptr 500 1) rfl ?_
 refine .q (op_load Tryd.underlying25 rfl rfl rfl rfl (by first | omega | (simp only [AV.len]; omega) | (simp only [AV.len]; omega) | assumption | (simp [AV.len]; done))) trivial rfl ?_
 refine .q (op_move rfl) trivial rfl ?_
 refine .a (ap_build (us := [_]) (c := .aggB [_]) Tryd.underlying25 inf5 rfl (by decide) (by decide) ⟨rfl, rfl, rfl, trivial⟩ rfl) trivial rfl ?_
 refine .a (ap_cat Tryd.underlying25 inf5 rfl rfl rfl rfl (by first | rfl | omega | (simp only [AV.len]; omega)) rfl rfl (by first | rfl | omega | (simp only [AV.len]; omega)) rfl (by first | rfl | omega | (simp only [AV.len]; omega))) trivial rfl ?_
 refine .q (op_nilCheck rfl) trivial rfl ?_
 refine .q (op_fieldAddr (m := 0) Tryd.underlying27 rfl (by kernel_rfl) rfl) trivial rfl ?_
 refine .as (.ptr 500 1) rfl ?_
 refine .w (op_store (by kernel_rfl) rfl rfl rfl rfl rfl (by first | omega | (simp only [AV.len]; omega) | (simp only [AV.len]; omega) | assumption | (simp [AV.len]; done))) trivial rfl ?_
 refine .nil ?_
 show Ev _ _ _ _ _
 refine .seq ?_
 refine .region ?_
 refine .q (op_assign rfl) trivial rfl ?_
 refine .nil ?_
 show Ev _ _ _ _ _
 refine .ret ?_
 show RetOk _ _ _ _ _ _ _
 exact ret1v rfl (.inl rfl) rfl rfl ⟨rfl, rfl, trivial⟩
set_option maxRecDepth 100000 in
theorem ws0_ev (s : List UInt8) (h0 : 0 < s.length) (hs : s.length ≤ 1000000000) : Meets Tryd.prog 45 [.ptr 500 0, .str s] [(500, some ⟨.agg [.val (.pointer none), .nilsl], 29, true⟩)] (.tup [.i64 (s.length : Int), .val .nilIface]) [(500, some ⟨.agg [.ptr 500 0, .sl 1008 0 (s.length) 1], 29, true⟩), (1008, some ⟨.aggB s, 5, true⟩)] := by
 refine meets_of_ev (nt := 19) Tryd.func45 rfl rfl (Nat.le_of_ble_eq_true rfl) ?_
 refine .seq ?_
 refine .region ?_
 refine .q (op_assign rfl) trivial rfl ?_
 refine .q (op_assign rfl) trivial rfl ?_
 refine .nil ?_
 show Ev _ _ _ _ _
 refine .seq ?_
 refine .region ?_
 refine .q (op_move rfl) trivial rfl ?_
 refine .a (op_call (U := [(500, some ⟨.agg [.ptr 500 0, .nilsl], 29, true⟩)]) [(500, 500)] [] (cc0_ev) Tryd.func70 (by kernel_rfl) rfl rfl rfl (⟨⟨_, rfl, rfl, rfl⟩, trivial⟩) (⟨⟨_, _, rfl, rfl, rfl, rfl, id, rfl⟩, trivial⟩) (⟨⟨500, _, rfl, rfl, rfl, rfl, .inr ⟨rfl, _, rfl, rfl⟩⟩, trivial⟩) (⟨(fun _ => ⟨500, _, rfl, rfl⟩), trivial⟩) rfl) trivial rfl ?_
 refine .nil ?_
 show Ev _ _ _ _ _
 refine .seq ?_
 refine .region ?_
 refine .q (op_move rfl) trivial rfl ?_
 refine .q (op_move rfl) trivial rfl ?_
 refine .q (op_nilCheck rfl) trivial rfl ?_
 refine .q (op_fieldAddr (m := 0) Tryd.underlying27 rfl (by kernel_rfl) rfl) trivial rfl ?_
 refine .as (.ptr 500 1) rfl ?_
 refine .q (op_load Tryd.underlying25 rfl rfl rfl rfl (by first | omega | (simp only [AV.len]; omega) | (simp only [AV.len]; omega) | assumption | (simp [AV.len]; done))) trivial rfl ?_
 refine .q (op_move rfl) trivial rfl ?_
 refine .a (ap_catS_nil Tryd.underlying25 inf5 Tryd.underlying9 rfl rfl (by omega) (by omega)) trivial rfl ?_
 refine .q (op_nilCheck rfl) trivial rfl ?_
 refine .q (op_fieldAddr (m := 0) Tryd.underlying27 rfl (by kernel_rfl) rfl) trivial rfl ?_
 refine .as (.ptr 500 1) rfl ?_
 refine .w (op_store (by kernel_rfl) rfl rfl rfl rfl rfl (by first | omega | (simp only [AV.len]; omega) | (simp only [AV.len]; omega) | assumption | (simp [AV.len]; done))) trivial rfl ?_
 refine .nil ?_
 show Ev _ _ _ _ _
 refine .seq ?_
 refine .region ?_
 refine .q (op_move rfl) trivial rfl ?_
 refine .q (op_len_str Tryd.underlying9 rfl) trivial rfl ?_
 refine .q (op_assign rfl) trivial rfl ?_
 refine .q (op_assign rfl) trivial rfl ?_
 refine .nil ?_
 show Ev _ _ _ _ _
 refine .ret ?_
 show RetOk _ _ _ _ _ _ _
 exact ret2v rfl (.inl rfl) rfl rfl rfl rfl ⟨rfl, rfl, trivial⟩
set_option maxRecDepth 100000 in
theorem ws1_ev (s : List UInt8) (h0 : 0 < s.length) (hs : s.length ≤ 1000000000) : Meets Tryd.prog 45 [.ptr 500 0, .str s] [(500, some ⟨.agg [.ptr 500 0, .nilsl], 29, true⟩)] (.tup [.i64 (s.length : Int), .val .nilIface]) [(500, some ⟨.agg [.ptr 500 0, .sl 1000 0 (s.length) 1], 29, true⟩), (1000, some ⟨.aggB s, 5, true⟩)] := by
 refine meets_of_ev (nt := 19) Tryd.func45 rfl rfl (Nat.le_of_ble_eq_true rfl) ?_
 refine .seq ?_
 refine .region ?_
 refine .q (op_assign rfl) trivial rfl ?_
 refine .q (op_assign rfl) trivial rfl ?_
 refine .nil ?_
 show Ev _ _ _ _ _
 refine .seq ?_
 refine .region ?_
 refine .q (op_move rfl) trivial rfl ?_
 refine .q (op_call (U := []) [(500, 500)] [] (cc1_ev) Tryd.func70 (by kernel_rfl) rfl rfl rfl (⟨⟨_, rfl, rfl, rfl⟩, trivial⟩) (⟨⟨_, _, rfl, rfl, rfl, rfl, (fun h => by cases h), rfl⟩, trivial⟩) (trivial) (⟨(fun h => by cases h), trivial⟩) rfl) trivial rfl ?_
 refine .nil ?_
 show Ev _ _ _ _ _
 refine .seq ?_
 refine .region ?_
 refine .q (op_move rfl) trivial rfl ?_
 refine .q (op_move rfl) trivial rfl ?_
 refine .q (op_nilCheck rfl) trivial rfl ?_
 refine .q (op_fieldAddr (m := 0) Tryd.underlying27 rfl (by kernel_rfl) rfl) trivial rfl ?_
 refine .as (.ptr 500 1) rfl ?_
 refine .q (op_load Tryd.underlying25 rfl rfl rfl rfl (by first | omega | (simp only [AV.len]; omega) | (simp only [AV.len]; omega) | assumption | (simp [AV.len]; done))) trivial rfl ?_
 refine .q (op_move rfl) trivial rfl ?_
 refine .a (ap_catS_nil Tryd.underlying25 inf5 Tryd.underlying9 rfl rfl (by omega) (by omega)) trivial rfl ?_
 refine .q (op_nilCheck rfl) trivial rfl ?_
 refine .q (op_fieldAddr (m := 0) Tryd.underlying27 rfl (by kernel_rfl) rfl) trivial rfl ?_
 refine .as (.ptr 500 1) rfl ?_
 refine .w (op_store (by kernel_rfl) rfl rfl rfl rfl rfl (by first | omega | (simp only [AV.len]; omega) | (simp only [AV.len]; omega) | assumption | (simp [AV.len]; done))) trivial rfl ?_
 refine .nil ?_
 show Ev _ _ _ _ _
 refine .seq ?_
 refine .region ?_
 refine .q (op_move rfl) trivial rfl ?_
 refine .q (op_len_str Tryd.underlying9 rfl) trivial rfl ?_
 refine .q (op_assign rfl) trivial rfl ?_
 refine .q (op_assign rfl) trivial rfl ?_
 refine .nil ?_
 show Ev _ _ _ _ _
 refine .ret ?_
 show RetOk _ _ _ _ _ _ _
 exact ret2v rfl (.inl rfl) rfl rfl rfl rfl ⟨rfl, rfl, trivial⟩
set_option maxRecDepth 100000 in
theorem ws2_ev (l : List UInt8) (n : Nat) (hn : n = l.length) (h : n ≤ 1000000000) (s : List UInt8) (hs : s.length ≤ 1000000000) : Meets Tryd.prog 45 [.ptr 500 0, .str s] [(500, some ⟨.agg [.ptr 500 0, .sl 501 0 (n) 1], 29, true⟩), (501, some ⟨.aggB l, 5, true⟩)] (.tup [.i64 (s.length : Int), .val .nilIface]) [(500, some ⟨.agg [.ptr 500 0, .sl 1000 0 (n + s.length) 1], 29, true⟩), (1000, some ⟨.aggB (l ++ s), 5, true⟩)] := by
 refine meets_of_ev (nt := 19) Tryd.func45 rfl rfl (Nat.le_of_ble_eq_true rfl) ?_
 refine .seq ?_
 refine .region ?_
 refine .q (op_assign rfl) trivial rfl ?_
 refine .q (op_assign rfl) trivial rfl ?_
 refine .nil ?_
 show Ev _ _ _ _ _
 refine .seq ?_
 refine .region ?_
 refine .q (op_move rfl) trivial rfl ?_
 refine .q (op_call (U := []) [(500, 500), (501, 501)] [] (cc2_ev n) Tryd.func70 (by kernel_rfl) rfl rfl rfl (⟨⟨_, rfl, rfl, rfl⟩, trivial⟩) (⟨⟨_, _, rfl, rfl, rfl, rfl, (fun h => by cases h), rfl⟩, trivial⟩) (trivial) (⟨(fun h => by cases h), trivial⟩) rfl) trivial rfl ?_
 refine .nil ?_
 show Ev _ _ _ _ _
 refine .seq ?_
 refine .region ?_
 refine .q (op_move rfl) trivial rfl ?_
 refine .q (op_move rfl) trivial rfl ?_
 refine .q (op_nilCheck rfl) trivial rfl ?_
 refine .q (op_fieldAddr (m := 0) Tryd.underlying27 rfl (by kernel_rfl) rfl) trivial rfl ?_
 refine .as (.ptr 500 1) rfl ?_
 refine .q (op_load Tryd.underlying25 rfl rfl rfl rfl (by first | omega | (simp only [AV.len]; omega) | (simp only [AV.len]; omega) | assumption | (simp [AV.len]; done))) trivial rfl ?_
 refine .q (op_move rfl) trivial rfl ?_
 refine .a (ap_catS Tryd.underlying25 inf5 Tryd.underlying9 rfl rfl rfl (hn) (by omega)) trivial rfl ?_
 refine .q (op_nilCheck rfl) trivial rfl ?_
 refine .q (op_fieldAddr (m := 0) Tryd.underlying27 rfl (by kernel_rfl) rfl) trivial rfl ?_
 refine .as (.ptr 500 1) rfl ?_
 refine .w (op_store (by kernel_rfl) rfl rfl rfl rfl rfl (by first | omega | (simp only [AV.len]; omega) | (simp only [AV.len]; omega) | assumption | (simp [AV.len]; done))) trivial rfl ?_
 refine .nil ?_
 show Ev _ _ _ _ _
 refine .seq ?_
 refine .region ?_
 refine .q (op_move rfl) trivial rfl ?_
 refine .q (op_len_str Tryd.underlying9 rfl) trivial rfl ?_
 refine .q (op_assign rfl) trivial rfl ?_
 refine .q (op_assign rfl) trivial rfl ?_
 refine .nil ?_
 show Ev _ _ _ _ _
 refine .ret ?_
 show RetOk _ _ _ _ _ _ _
 exact ret2v rfl (.inl rfl) rfl rfl rfl rfl ⟨rfl, rfl, trivial⟩
set_option maxRecDepth 100000 in
theorem ws0e_ev  : Meets Tryd.prog 45 [.ptr 500 0, .str []] [(500, some ⟨.agg [.val (.pointer none), .nilsl], 29, true⟩)] (.tup [.i64 0, .val .nilIface]) [(500, some ⟨.agg [.ptr 500 0, .nilsl], 29, true⟩)] := by
 refine meets_of_ev (nt := 19) Tryd.func45 rfl rfl (Nat.le_of_ble_eq_true rfl) ?_
 refine .seq ?_
 refine .region ?_
 refine .q (op_assign rfl) trivial rfl ?_
 refine .q (op_assign rfl) trivial rfl ?_
 refine .nil ?_
 show Ev _ _ _ _ _
 refine .seq ?_
 refine .region ?_
 refine .q (op_move rfl) trivial rfl ?_
 refine .a (op_call (U := [(500, some ⟨.agg [.ptr 500 0, .nilsl], 29, true⟩)]) [(500, 500)] [] (cc0_ev) Tryd.func70 (by kernel_rfl) rfl rfl rfl (⟨⟨_, rfl, rfl, rfl⟩, trivial⟩) (⟨⟨_, _, rfl, rfl, rfl, rfl, id, rfl⟩, trivial⟩) (⟨⟨500, _, rfl, rfl, rfl, rfl, .inr ⟨rfl, _, rfl, rfl⟩⟩, trivial⟩) (⟨(fun _ => ⟨500, _, rfl, rfl⟩), trivial⟩) rfl) trivial rfl ?_
 refine .nil ?_
 show Ev _ _ _ _ _
 refine .seq ?_
 refine .region ?_
 refine .q (op_move rfl) trivial rfl ?_
 refine .q (op_move rfl) trivial rfl ?_
 refine .q (op_nilCheck rfl) trivial rfl ?_
 refine .q (op_fieldAddr (m := 0) Tryd.underlying27 rfl (by kernel_rfl) rfl) trivial rfl ?_
 refine .as (.ptr 500 1) rfl ?_
 refine .q (op_load Tryd.underlying25 rfl rfl rfl rfl (by first | omega | (simp only [AV.len]; omega) | (simp only [AV.len]; omega) | assumption | (simp [AV.len]; done))) trivial rfl ?_
 refine .q (op_move rfl) trivial rfl ?_
 refine .q (op_catS_nil0 Tryd.underlying25 inf5 Tryd.underlying9 rfl rfl) trivial rfl ?_
 refine .q (op_nilCheck rfl) trivial rfl ?_
 refine .q (op_fieldAddr (m := 0) Tryd.underlying27 rfl (by kernel_rfl) rfl) trivial rfl ?_
 refine .as (.ptr 500 1) rfl ?_
 refine .w (op_store (by kernel_rfl) rfl rfl rfl rfl rfl (by first | omega | (simp only [AV.len]; omega) | (simp only [AV.len]; omega) | assumption | (simp [AV.len]; done))) trivial rfl ?_
 refine .nil ?_
 show Ev _ _ _ _ _
 refine .seq ?_
 refine .region ?_
 refine .q (op_move rfl) trivial rfl ?_
 refine .q (op_len_str Tryd.underlying9 rfl) trivial rfl ?_
 refine .q (op_assign rfl) trivial rfl ?_
 refine .q (op_assign rfl) trivial rfl ?_
 refine .nil ?_
 show Ev _ _ _ _ _
 refine .ret ?_
 show RetOk _ _ _ _ _ _ _
 exact ret2v rfl (.inl rfl) rfl rfl rfl rfl ⟨rfl, trivial⟩
set_option maxRecDepth 100000 in
theorem ws1e_ev  : Meets Tryd.prog 45 [.ptr 500 0, .str []] [(500, some ⟨.agg [.ptr 500 0, .nilsl], 29, true⟩)] (.tup [.i64 0, .val .nilIface]) [(500, some ⟨.agg [.ptr 500 0, .nilsl], 29, true⟩)] := by
 refine meets_of_ev (nt := 19) Tryd.func45 rfl rfl (Nat.le_of_ble_eq_true rfl) ?_
 refine .seq ?_
 refine .region ?_
 refine .q (op_assign rfl) trivial rfl ?_
 refine .q (op_assign rfl) trivial rfl ?_
 refine .nil ?_
 show Ev _ _ _ _ _
 refine .seq ?_
 refine .region ?_
 refine .q (op_move rfl) trivial rfl ?_
 refine .q (op_call (U := []) [(500, 500)] [] (cc1_ev) Tryd.func70 (by kernel_rfl) rfl rfl rfl (⟨⟨_, rfl, rfl, rfl⟩, trivial⟩) (⟨⟨_, _, rfl, rfl, rfl, rfl, (fun h => by cases h), rfl⟩, trivial⟩) (trivial) (⟨(fun h => by cases h), trivial⟩) rfl) trivial rfl ?_
 refine .nil ?_
 show Ev _ _ _ _ _
 refine .seq ?_
 refine .region ?_
 refine .q (op_move rfl) trivial rfl ?_
 refine .q (op_move rfl) trivial rfl ?_
 refine .q (op_nilCheck rfl) trivial rfl ?_
 refine .q (op_fieldAddr (m := 0) Tryd.underlying27 rfl (by kernel_rfl) rfl) trivial rfl ?_
 refine .as (.ptr 500 1) rfl ?_
 refine .q (op_load Tryd.underlying25 rfl rfl rfl rfl (by first | omega | (simp only [AV.len]; omega) | (simp only [AV.len]; omega) | assumption | (simp [AV.len]; done))) trivial rfl ?_
 refine .q (op_move rfl) trivial rfl ?_
 refine .q (op_catS_nil0 Tryd.underlying25 inf5 Tryd.underlying9 rfl rfl) trivial rfl ?_
 refine .q (op_nilCheck rfl) trivial rfl ?_
 refine .q (op_fieldAddr (m := 0) Tryd.underlying27 rfl (by kernel_rfl) rfl) trivial rfl ?_
 refine .as (.ptr 500 1) rfl ?_
 refine .w (op_store (by kernel_rfl) rfl rfl rfl rfl rfl (by first | omega | (simp only [AV.len]; omega) | (simp only [AV.len]; omega) | assumption | (simp [AV.len]; done))) trivial rfl ?_
 refine .nil ?_
 show Ev _ _ _ _ _
 refine .seq ?_
 refine .region ?_
 refine .q (op_move rfl) trivial rfl ?_
 refine .q (op_len_str Tryd.underlying9 rfl) trivial rfl ?_
 refine .q (op_assign rfl) trivial rfl ?_
 refine .q (op_assign rfl) trivial rfl ?_
 refine .nil ?_
 show Ev _ _ _ _ _
 refine .ret ?_
 show RetOk _ _ _ _ _ _ _
 exact ret2v rfl (.inl rfl) rfl rfl rfl rfl ⟨rfl, trivial⟩
set_option maxRecDepth 100000 in
theorem st0_ev  : Meets Tryd.prog 49 [.ptr 500 0] [(500, some ⟨.agg [.val (.pointer none), .nilsl], 29, false⟩)] (.str []) [(500, some ⟨.agg [.val (.pointer none), .nilsl], 29, false⟩)] := by
 refine meets_of_ev (nt := 14) Tryd.func49 rfl rfl (Nat.le_of_ble_eq_true rfl) ?_
 refine .seq ?_
 refine .region ?_
 refine .q (op_assign rfl) trivial rfl ?_
 refine .nil ?_
 show Ev _ _ _ _ _
 refine .seq ?_
 refine .drawn [[], [0], [0, 1], [0, 1, 2], [0, 1, 2, 3], [], [5], [5, 6], [5, 6, 7], [5, 6, 7, 8], [0, 1, 2, 3, 4, 5, 6, 7, 8, 9], [0, 1, 2, 3, 4, 5, 6, 7, 8, 9, 10]] [3, 8, 10] [10] (by kernel_rfl) (by kernel_rfl) rfl ?_
 show DK _ [0, 1, 2, 3, 4, 5, 6, 7, 8, 9, 10, 11] _ _ _
 refine .q rfl (op_move rfl) trivial ?_
 refine .q rfl (op_nilCheck rfl) trivial ?_
 refine .q rfl (op_fieldAddr (m := 0) Tryd.underlying27 rfl (by kernel_rfl) rfl) trivial ?_
 refine .as (.ptr 500 1) rfl ?_
 refine .q rfl (op_load Tryd.underlying25 rfl rfl rfl rfl (by first | omega | (simp only [AV.len]; omega) | (simp only [AV.len]; omega) | assumption | (simp [AV.len]; done))) trivial ?_
 refine .q rfl (op_sliceDataNil rfl) trivial ?_
 refine .q rfl (op_move rfl) trivial ?_
 refine .q rfl (op_nilCheck rfl) trivial ?_
 refine .q rfl (op_fieldAddr (m := 0) Tryd.underlying27 rfl (by kernel_rfl) rfl) trivial ?_
 refine .as (.ptr 500 1) rfl ?_
 refine .q rfl (op_load Tryd.underlying25 rfl rfl rfl rfl (by first | omega | (simp only [AV.len]; omega) | (simp only [AV.len]; omega) | assumption | (simp [AV.len]; done))) trivial ?_
 refine .q rfl (op_len_nil Tryd.underlying25 rfl) trivial ?_
 refine .q rfl (op_stringNil rfl rfl) trivial ?_
 refine .q rfl (op_assign rfl) trivial ?_
 refine .nil ?_
 show Ev _ _ _ _ _
 refine .ret ?_
 show RetOk _ _ _ _ _ _ _
 exact ret1v rfl (.inl rfl) rfl rfl ⟨rfl, trivial⟩
set_option maxRecDepth 100000 in
theorem st1_ev  : Meets Tryd.prog 49 [.ptr 500 0] [(500, some ⟨.agg [.ptr 500 0, .nilsl], 29, false⟩)] (.str []) [(500, some ⟨.agg [.ptr 500 0, .nilsl], 29, false⟩)] := by
 refine meets_of_ev (nt := 14) Tryd.func49 rfl rfl (Nat.le_of_ble_eq_true rfl) ?_
 refine .seq ?_
 refine .region ?_
 refine .q (op_assign rfl) trivial rfl ?_
 refine .nil ?_
 show Ev _ _ _ _ _
 refine .seq ?_
 refine .drawn [[], [0], [0, 1], [0, 1, 2], [0, 1, 2, 3], [], [5], [5, 6], [5, 6, 7], [5, 6, 7, 8], [0, 1, 2, 3, 4, 5, 6, 7, 8, 9], [0, 1, 2, 3, 4, 5, 6, 7, 8, 9, 10]] [3, 8, 10] [10] (by kernel_rfl) (by kernel_rfl) rfl ?_
 show DK _ [0, 1, 2, 3, 4, 5, 6, 7, 8, 9, 10, 11] _ _ _
 refine .q rfl (op_move rfl) trivial ?_
 refine .q rfl (op_nilCheck rfl) trivial ?_
 refine .q rfl (op_fieldAddr (m := 0) Tryd.underlying27 rfl (by kernel_rfl) rfl) trivial ?_
 refine .as (.ptr 500 1) rfl ?_
 refine .q rfl (op_load Tryd.underlying25 rfl rfl rfl rfl (by first | omega | (simp only [AV.len]; omega) | (simp only [AV.len]; omega) | assumption | (simp [AV.len]; done))) trivial ?_
 refine .q rfl (op_sliceDataNil rfl) trivial ?_
 refine .q rfl (op_move rfl) trivial ?_
 refine .q rfl (op_nilCheck rfl) trivial ?_
 refine .q rfl (op_fieldAddr (m := 0) Tryd.underlying27 rfl (by kernel_rfl) rfl) trivial ?_
 refine .as (.ptr 500 1) rfl ?_
 refine .q rfl (op_load Tryd.underlying25 rfl rfl rfl rfl (by first | omega | (simp only [AV.len]; omega) | (simp only [AV.len]; omega) | assumption | (simp [AV.len]; done))) trivial ?_
 refine .q rfl (op_len_nil Tryd.underlying25 rfl) trivial ?_
 refine .q rfl (op_stringNil rfl rfl) trivial ?_
 refine .q rfl (op_assign rfl) trivial ?_
 refine .nil ?_
 show Ev _ _ _ _ _
 refine .ret ?_
 show RetOk _ _ _ _ _ _ _
 exact ret1v rfl (.inl rfl) rfl rfl ⟨rfl, trivial⟩
set_option maxRecDepth 100000 in
theorem st2_ev (l : List UInt8) (n : Nat) (hn : n = l.length) (h0 : 0 < n) (h : n ≤ 1000000000) : Meets Tryd.prog 49 [.ptr 500 0] [(500, some ⟨.agg [.ptr 500 0, .sl 501 0 (n) 1], 29, false⟩), (501, some ⟨.aggB l, 5, true⟩)] (.str l) [(500, some ⟨.agg [.ptr 500 0, .sl 501 0 (n) 1], 29, false⟩), (501, some ⟨.aggB l, (frz + 5), false⟩)] := by
 refine meets_of_ev (nt := 14) Tryd.func49 rfl rfl (Nat.le_of_ble_eq_true rfl) ?_
 refine .seq ?_
 refine .region ?_
 refine .q (op_assign rfl) trivial rfl ?_
 refine .nil ?_
 show Ev _ _ _ _ _
 refine .seq ?_
 refine .drawn [[], [0], [0, 1], [0, 1, 2], [0, 1, 2, 3], [], [5], [5, 6], [5, 6, 7], [5, 6, 7, 8], [0, 1, 2, 3, 4, 5, 6, 7, 8, 9], [0, 1, 2, 3, 4, 5, 6, 7, 8, 9, 10]] [3, 8, 10] [10] (by kernel_rfl) (by kernel_rfl) rfl ?_
 show DK _ [0, 1, 2, 3, 4, 5, 6, 7, 8, 9, 10, 11] _ _ _
 refine .q rfl (op_move rfl) trivial ?_
 refine .q rfl (op_nilCheck rfl) trivial ?_
 refine .q rfl (op_fieldAddr (m := 0) Tryd.underlying27 rfl (by kernel_rfl) rfl) trivial ?_
 refine .as (.ptr 500 1) rfl ?_
 refine .q rfl (op_load Tryd.underlying25 rfl rfl rfl rfl (by first | omega | (simp only [AV.len]; omega) | (simp only [AV.len]; omega) | assumption | (simp [AV.len]; done))) trivial ?_
 refine .q rfl (op_sliceData rfl (h0)) trivial ?_
 refine .q rfl (op_move rfl) trivial ?_
 refine .q rfl (op_nilCheck rfl) trivial ?_
 refine .q rfl (op_fieldAddr (m := 0) Tryd.underlying27 rfl (by kernel_rfl) rfl) trivial ?_
 refine .as (.ptr 500 1) rfl ?_
 refine .q rfl (op_load Tryd.underlying25 rfl rfl rfl rfl (by first | omega | (simp only [AV.len]; omega) | (simp only [AV.len]; omega) | assumption | (simp [AV.len]; done))) trivial ?_
 refine .q rfl (op_len_sl Tryd.underlying25 rfl) trivial ?_
 refine .a rfl (op_unsafeString (e := 5) Tryd.underlying105 (by kernel_rfl) rfl rfl (congrArg Int.ofNat hn) rfl rfl rfl (by decide) (by decide) rfl (by omega) (by omega)) trivial rfl rfl ?_
 refine .q rfl (op_assign rfl) trivial ?_
 refine .nil ?_
 show Ev _ _ _ _ _
 refine .ret ?_
 show RetOk _ _ _ _ _ _ _
 exact ret1v rfl (.inl rfl) rfl rfl ⟨rfl, rfl, trivial⟩
set_option maxRecDepth 100000 in
theorem st3_ev (l : List UInt8) (n : Nat) (hn : n = l.length) (h0 : 0 < n) (h : n ≤ 1000000000) : Meets Tryd.prog 49 [.ptr 500 0] [(500, some ⟨.agg [.ptr 500 0, .sl 501 0 (n) 1], 29, false⟩), (501, some ⟨.aggB l, (frz + 5), false⟩)] (.str l) [(500, some ⟨.agg [.ptr 500 0, .sl 501 0 (n) 1], 29, false⟩), (501, some ⟨.aggB l, (frz + 5), false⟩)] := by
 refine meets_of_ev (nt := 14) Tryd.func49 rfl rfl (Nat.le_of_ble_eq_true rfl) ?_
 refine .seq ?_
 refine .region ?_
 refine .q (op_assign rfl) trivial rfl ?_
 refine .nil ?_
 show Ev _ _ _ _ _
 refine .seq ?_
 refine .drawn [[], [0], [0, 1], [0, 1, 2], [0, 1, 2, 3], [], [5], [5, 6], [5, 6, 7], [5, 6, 7, 8], [0, 1, 2, 3, 4, 5, 6, 7, 8, 9], [0, 1, 2, 3, 4, 5, 6, 7, 8, 9, 10]] [3, 8, 10] [10] (by kernel_rfl) (by kernel_rfl) rfl ?_
 show DK _ [0, 1, 2, 3, 4, 5, 6, 7, 8, 9, 10, 11] _ _ _
 refine .q rfl (op_move rfl) trivial ?_
 refine .q rfl (op_nilCheck rfl) trivial ?_
 refine .q rfl (op_fieldAddr (m := 0) Tryd.underlying27 rfl (by kernel_rfl) rfl) trivial ?_
 refine .as (.ptr 500 1) rfl ?_
 refine .q rfl (op_load Tryd.underlying25 rfl rfl rfl rfl (by first | omega | (simp only [AV.len]; omega) | (simp only [AV.len]; omega) | assumption | (simp [AV.len]; done))) trivial ?_
 refine .q rfl (op_sliceData rfl (h0)) trivial ?_
 refine .q rfl (op_move rfl) trivial ?_
 refine .q rfl (op_nilCheck rfl) trivial ?_
 refine .q rfl (op_fieldAddr (m := 0) Tryd.underlying27 rfl (by kernel_rfl) rfl) trivial ?_
 refine .as (.ptr 500 1) rfl ?_
 refine .q rfl (op_load Tryd.underlying25 rfl rfl rfl rfl (by first | omega | (simp only [AV.len]; omega) | (simp only [AV.len]; omega) | assumption | (simp [AV.len]; done))) trivial ?_
 refine .q rfl (op_len_sl Tryd.underlying25 rfl) trivial ?_
 refine .q rfl (op_unsafeString2 (e := 5) Tryd.underlying105 (by kernel_rfl) rfl rfl (congrArg Int.ofNat hn) rfl (by decide) (by omega) (by omega)) trivial ?_
 refine .q rfl (op_assign rfl) trivial ?_
 refine .nil ?_
 show Ev _ _ _ _ _
 refine .ret ?_
 show RetOk _ _ _ _ _ _ _
 exact ret1v rfl (.inl rfl) rfl rfl ⟨rfl, rfl, trivial⟩
end Go.Proofs.YtoigppbkfhfllaaDoor
namespace Go.Proofs.YtoigppbkfhfllaaDoor
open Go.RowKit
/-- The last sz bytes of a number, of which j are written. -/
def numB (x : UInt64) (sz : Nat) : Nat → List UInt8
  | 0 => []
  | j + 1 => numB x sz j ++ [(x >>> UInt64.ofNat (8 * (sz - 1 - j))).toUInt8]
theorem length_numB (x : UInt64) (sz j : Nat) : (numB x sz j).length = j := by induction j with | zero => rfl | succ j ih => simp [numB, ih]
def lenB (s : List UInt8) : List UInt8 := numB (ofI32 (s.length : Int)).toUInt64 4 4
def textB (s : List UInt8) : List UInt8 := lenB s ++ s
theorem length_lenB (s : List UInt8) : (lenB s).length = 4 := length_numB _ _ _
theorem length_textB (s : List UInt8) : (textB s).length = 4 + s.length := by simp [textB, length_lenB]
def bigB (s : List UInt8) : List UInt8 := textB (unsB (shortB s))
set_option maxRecDepth 100000 in
theorem byte0_ev (c : UInt8) : Meets Tryd.prog 9 [.ptr 500 0, .u8 c] [(500, some ⟨.agg [.val (.pointer none), .nilsl], 29, true⟩)] (.ptr 500 0) [(500, some ⟨.agg [.ptr 500 0, .sl 1000 0 (1) 1], 29, true⟩), (1000, some ⟨.aggB ([c]), 5, true⟩)] := by
 refine meets_of_ev (nt := 11) Tryd.func9 rfl rfl (Nat.le_of_ble_eq_true rfl) ?_
 refine .seq ?_
 refine .region ?_
 refine .q (op_assign rfl) trivial rfl ?_
 refine .nil ?_
 show Ev _ _ _ _ _
 refine .seq ?_
 refine .region ?_
 refine .q (op_move rfl) trivial rfl ?_
 refine .q (op_nilCheck rfl) trivial rfl ?_
 refine .q (op_fieldAddr (m := 1) Tryd.underlying29 rfl (by kernel_rfl) rfl) trivial rfl ?_
 refine .as (.ptr 500 0) rfl ?_
 refine .q (op_move rfl) trivial rfl ?_
 refine .a (op_call (U := [(500, some ⟨.agg [.ptr 500 0, .sl 1000 0 (1) 1], 29, true⟩), (1000, some ⟨.aggB [c], 5, true⟩)]) [(500, 500)] [(1000, 1016)] (wb0_ev c) Tryd.func43 (by kernel_rfl) rfl rfl rfl (⟨⟨_, rfl, rfl, rfl⟩, ⟨_, rfl, rfl, rfl⟩, trivial⟩) (⟨⟨_, _, rfl, rfl, rfl, rfl, id, rfl⟩, trivial⟩) (⟨⟨500, _, rfl, rfl, rfl, rfl, .inr ⟨rfl, _, rfl, rfl⟩⟩, ⟨1016, _, rfl, rfl, rfl, rfl, .inl rfl⟩, trivial⟩) (⟨(fun _ => ⟨500, _, rfl, rfl⟩), trivial⟩) rfl) trivial rfl ?_
 refine .nil ?_
 show Ev _ _ _ _ _
 refine .seq ?_
 refine .region ?_
 refine .q (op_move rfl) trivial rfl ?_
 refine .q (op_assign rfl) trivial rfl ?_
 refine .nil ?_
 show Ev _ _ _ _ _
 refine .ret ?_
 show RetOk _ _ _ _ _ _ _
 exact ret1v rfl (.inl rfl) rfl rfl ⟨(by first | rfl | (simp only [List.append_assoc, Nat.add_assoc, textB, bigB]; rfl)), (by first | rfl | (simp only [List.append_assoc, Nat.add_assoc, textB, bigB]; rfl)), trivial⟩
set_option maxRecDepth 100000 in
theorem byte1_ev (c : UInt8) : Meets Tryd.prog 9 [.ptr 500 0, .u8 c] [(500, some ⟨.agg [.ptr 500 0, .nilsl], 29, true⟩)] (.ptr 500 0) [(500, some ⟨.agg [.ptr 500 0, .sl 1000 0 (1) 1], 29, true⟩), (1000, some ⟨.aggB ([c]), 5, true⟩)] := by
 refine meets_of_ev (nt := 11) Tryd.func9 rfl rfl (Nat.le_of_ble_eq_true rfl) ?_
 refine .seq ?_
 refine .region ?_
 refine .q (op_assign rfl) trivial rfl ?_
 refine .nil ?_
 show Ev _ _ _ _ _
 refine .seq ?_
 refine .region ?_
 refine .q (op_move rfl) trivial rfl ?_
 refine .q (op_nilCheck rfl) trivial rfl ?_
 refine .q (op_fieldAddr (m := 1) Tryd.underlying29 rfl (by kernel_rfl) rfl) trivial rfl ?_
 refine .as (.ptr 500 0) rfl ?_
 refine .q (op_move rfl) trivial rfl ?_
 refine .a (op_call (U := [(500, some ⟨.agg [.ptr 500 0, .sl 1000 0 (1) 1], 29, true⟩), (1000, some ⟨.aggB [c], 5, true⟩)]) [(500, 500)] [(1000, 1008)] (wb1_ev c) Tryd.func43 (by kernel_rfl) rfl rfl rfl (⟨⟨_, rfl, rfl, rfl⟩, ⟨_, rfl, rfl, rfl⟩, trivial⟩) (⟨⟨_, _, rfl, rfl, rfl, rfl, id, rfl⟩, trivial⟩) (⟨⟨500, _, rfl, rfl, rfl, rfl, .inr ⟨rfl, _, rfl, rfl⟩⟩, ⟨1008, _, rfl, rfl, rfl, rfl, .inl rfl⟩, trivial⟩) (⟨(fun _ => ⟨500, _, rfl, rfl⟩), trivial⟩) rfl) trivial rfl ?_
 refine .nil ?_
 show Ev _ _ _ _ _
 refine .seq ?_
 refine .region ?_
 refine .q (op_move rfl) trivial rfl ?_
 refine .q (op_assign rfl) trivial rfl ?_
 refine .nil ?_
 show Ev _ _ _ _ _
 refine .ret ?_
 show RetOk _ _ _ _ _ _ _
 exact ret1v rfl (.inl rfl) rfl rfl ⟨(by first | rfl | (simp only [List.append_assoc, Nat.add_assoc, textB, bigB]; rfl)), (by first | rfl | (simp only [List.append_assoc, Nat.add_assoc, textB, bigB]; rfl)), trivial⟩
set_option maxRecDepth 100000 in
theorem byte2_ev (c : UInt8) (l : List UInt8) (n : Nat) (hn : n = l.length) (h : n ≤ 900000000) : Meets Tryd.prog 9 [.ptr 500 0, .u8 c] [(500, some ⟨.agg [.ptr 500 0, .sl 501 0 (n) 1], 29, true⟩), (501, some ⟨.aggB l, 5, true⟩)] (.ptr 500 0) [(500, some ⟨.agg [.ptr 500 0, .sl 1000 0 (n + 1) 1], 29, true⟩), (1000, some ⟨.aggB (l ++ [c]), 5, true⟩)] := by
 refine meets_of_ev (nt := 11) Tryd.func9 rfl rfl (Nat.le_of_ble_eq_true rfl) ?_
 refine .seq ?_
 refine .region ?_
 refine .q (op_assign rfl) trivial rfl ?_
 refine .nil ?_
 show Ev _ _ _ _ _
 refine .seq ?_
 refine .region ?_
 refine .q (op_move rfl) trivial rfl ?_
 refine .q (op_nilCheck rfl) trivial rfl ?_
 refine .q (op_fieldAddr (m := 1) Tryd.underlying29 rfl (by kernel_rfl) rfl) trivial rfl ?_
 refine .as (.ptr 500 0) rfl ?_
 refine .q (op_move rfl) trivial rfl ?_
 refine .a (op_call (U := [(500, some ⟨.agg [.ptr 500 0, .sl 1000 0 (n + 1) 1], 29, true⟩), (1000, some ⟨.aggB (l ++ [c]), 5, true⟩), (501, none)]) [(500, 500), (501, 501)] [(1000, 1008)] (wb2_ev l n hn (by omega) c) Tryd.func43 (by kernel_rfl) rfl rfl rfl (⟨⟨_, rfl, rfl, rfl⟩, ⟨_, rfl, rfl, rfl⟩, trivial⟩) (⟨⟨_, _, rfl, rfl, rfl, rfl, id, rfl⟩, ⟨_, _, rfl, rfl, rfl, rfl, id, rfl⟩, trivial⟩) (⟨⟨500, _, rfl, rfl, rfl, rfl, .inr ⟨rfl, _, rfl, rfl⟩⟩, ⟨1008, _, rfl, rfl, rfl, rfl, .inl rfl⟩, trivial⟩) (⟨(fun _ => ⟨500, _, rfl, rfl⟩), (fun _ => ⟨501, _, rfl, rfl⟩), trivial⟩) rfl) trivial rfl ?_
 refine .nil ?_
 show Ev _ _ _ _ _
 refine .seq ?_
 refine .region ?_
 refine .q (op_move rfl) trivial rfl ?_
 refine .q (op_assign rfl) trivial rfl ?_
 refine .nil ?_
 show Ev _ _ _ _ _
 refine .ret ?_
 show RetOk _ _ _ _ _ _ _
 exact ret1v rfl (.inl rfl) rfl rfl ⟨(by first | rfl | (simp only [List.append_assoc, Nat.add_assoc, textB, bigB]; rfl)), (by first | rfl | (simp only [List.append_assoc, Nat.add_assoc, textB, bigB]; rfl)), trivial⟩
set_option maxRecDepth 100000 in
theorem raw0_ev (s : List UInt8) (h0 : 0 < s.length) (hs : s.length ≤ 900000000) : Meets Tryd.prog 14 [.ptr 500 0, .str s] [(500, some ⟨.agg [.val (.pointer none), .nilsl], 29, true⟩)] (.ptr 500 0) [(500, some ⟨.agg [.ptr 500 0, .sl 1000 0 (s.length) 1], 29, true⟩), (1000, some ⟨.aggB (s), 5, true⟩)] := by
 refine meets_of_ev (nt := 11) Tryd.func14 rfl rfl (Nat.le_of_ble_eq_true rfl) ?_
 refine .seq ?_
 refine .region ?_
 refine .q (op_assign rfl) trivial rfl ?_
 refine .nil ?_
 show Ev _ _ _ _ _
 refine .seq ?_
 refine .region ?_
 refine .q (op_move rfl) trivial rfl ?_
 refine .q (op_nilCheck rfl) trivial rfl ?_
 refine .q (op_fieldAddr (m := 1) Tryd.underlying29 rfl (by kernel_rfl) rfl) trivial rfl ?_
 refine .as (.ptr 500 0) rfl ?_
 refine .q (op_move rfl) trivial rfl ?_
 refine .a (op_call (U := [(500, some ⟨.agg [.ptr 500 0, .sl 1000 0 (s.length) 1], 29, true⟩), (1000, some ⟨.aggB s, 5, true⟩)]) [(500, 500)] [(1000, 1008)] (ws0_ev s h0 (by omega)) Tryd.func45 (by kernel_rfl) rfl rfl rfl (⟨⟨_, rfl, rfl, rfl⟩, ⟨_, rfl, rfl, rfl⟩, trivial⟩) (⟨⟨_, _, rfl, rfl, rfl, rfl, id, rfl⟩, trivial⟩) (⟨⟨500, _, rfl, rfl, rfl, rfl, .inr ⟨rfl, _, rfl, rfl⟩⟩, ⟨1008, _, rfl, rfl, rfl, rfl, .inl rfl⟩, trivial⟩) (⟨(fun _ => ⟨500, _, rfl, rfl⟩), trivial⟩) rfl) trivial rfl ?_
 refine .nil ?_
 show Ev _ _ _ _ _
 refine .seq ?_
 refine .region ?_
 refine .q (op_move rfl) trivial rfl ?_
 refine .q (op_assign rfl) trivial rfl ?_
 refine .nil ?_
 show Ev _ _ _ _ _
 refine .ret ?_
 show RetOk _ _ _ _ _ _ _
 exact ret1v rfl (.inl rfl) rfl rfl ⟨(by first | rfl | (simp only [List.append_assoc, Nat.add_assoc, textB, bigB]; rfl)), (by first | rfl | (simp only [List.append_assoc, Nat.add_assoc, textB, bigB]; rfl)), trivial⟩
set_option maxRecDepth 100000 in
theorem raw1_ev (s : List UInt8) (h0 : 0 < s.length) (hs : s.length ≤ 900000000) : Meets Tryd.prog 14 [.ptr 500 0, .str s] [(500, some ⟨.agg [.ptr 500 0, .nilsl], 29, true⟩)] (.ptr 500 0) [(500, some ⟨.agg [.ptr 500 0, .sl 1000 0 (s.length) 1], 29, true⟩), (1000, some ⟨.aggB (s), 5, true⟩)] := by
 refine meets_of_ev (nt := 11) Tryd.func14 rfl rfl (Nat.le_of_ble_eq_true rfl) ?_
 refine .seq ?_
 refine .region ?_
 refine .q (op_assign rfl) trivial rfl ?_
 refine .nil ?_
 show Ev _ _ _ _ _
 refine .seq ?_
 refine .region ?_
 refine .q (op_move rfl) trivial rfl ?_
 refine .q (op_nilCheck rfl) trivial rfl ?_
 refine .q (op_fieldAddr (m := 1) Tryd.underlying29 rfl (by kernel_rfl) rfl) trivial rfl ?_
 refine .as (.ptr 500 0) rfl ?_
 refine .q (op_move rfl) trivial rfl ?_
 refine .a (op_call (U := [(500, some ⟨.agg [.ptr 500 0, .sl 1000 0 (s.length) 1], 29, true⟩), (1000, some ⟨.aggB s, 5, true⟩)]) [(500, 500)] [(1000, 1000)] (ws1_ev s h0 (by omega)) Tryd.func45 (by kernel_rfl) rfl rfl rfl (⟨⟨_, rfl, rfl, rfl⟩, ⟨_, rfl, rfl, rfl⟩, trivial⟩) (⟨⟨_, _, rfl, rfl, rfl, rfl, id, rfl⟩, trivial⟩) (⟨⟨500, _, rfl, rfl, rfl, rfl, .inr ⟨rfl, _, rfl, rfl⟩⟩, ⟨1000, _, rfl, rfl, rfl, rfl, .inl rfl⟩, trivial⟩) (⟨(fun _ => ⟨500, _, rfl, rfl⟩), trivial⟩) rfl) trivial rfl ?_
 refine .nil ?_
 show Ev _ _ _ _ _
 refine .seq ?_
 refine .region ?_
 refine .q (op_move rfl) trivial rfl ?_
 refine .q (op_assign rfl) trivial rfl ?_
 refine .nil ?_
 show Ev _ _ _ _ _
 refine .ret ?_
 show RetOk _ _ _ _ _ _ _
 exact ret1v rfl (.inl rfl) rfl rfl ⟨(by first | rfl | (simp only [List.append_assoc, Nat.add_assoc, textB, bigB]; rfl)), (by first | rfl | (simp only [List.append_assoc, Nat.add_assoc, textB, bigB]; rfl)), trivial⟩
set_option maxRecDepth 100000 in
theorem raw2_ev (s : List UInt8) (hs : s.length ≤ 900000000) (l : List UInt8) (n : Nat) (hn : n = l.length) (h : n ≤ 900000000) : Meets Tryd.prog 14 [.ptr 500 0, .str s] [(500, some ⟨.agg [.ptr 500 0, .sl 501 0 (n) 1], 29, true⟩), (501, some ⟨.aggB l, 5, true⟩)] (.ptr 500 0) [(500, some ⟨.agg [.ptr 500 0, .sl 1000 0 (n + s.length) 1], 29, true⟩), (1000, some ⟨.aggB (l ++ s), 5, true⟩)] := by
 refine meets_of_ev (nt := 11) Tryd.func14 rfl rfl (Nat.le_of_ble_eq_true rfl) ?_
 refine .seq ?_
 refine .region ?_
 refine .q (op_assign rfl) trivial rfl ?_
 refine .nil ?_
 show Ev _ _ _ _ _
 refine .seq ?_
 refine .region ?_
 refine .q (op_move rfl) trivial rfl ?_
 refine .q (op_nilCheck rfl) trivial rfl ?_
 refine .q (op_fieldAddr (m := 1) Tryd.underlying29 rfl (by kernel_rfl) rfl) trivial rfl ?_
 refine .as (.ptr 500 0) rfl ?_
 refine .q (op_move rfl) trivial rfl ?_
 refine .a (op_call (U := [(500, some ⟨.agg [.ptr 500 0, .sl 1000 0 (n + s.length) 1], 29, true⟩), (1000, some ⟨.aggB (l ++ s), 5, true⟩), (501, none)]) [(500, 500), (501, 501)] [(1000, 1000)] (ws2_ev l n hn (by omega) s (by omega)) Tryd.func45 (by kernel_rfl) rfl rfl rfl (⟨⟨_, rfl, rfl, rfl⟩, ⟨_, rfl, rfl, rfl⟩, trivial⟩) (⟨⟨_, _, rfl, rfl, rfl, rfl, id, rfl⟩, ⟨_, _, rfl, rfl, rfl, rfl, id, rfl⟩, trivial⟩) (⟨⟨500, _, rfl, rfl, rfl, rfl, .inr ⟨rfl, _, rfl, rfl⟩⟩, ⟨1000, _, rfl, rfl, rfl, rfl, .inl rfl⟩, trivial⟩) (⟨(fun _ => ⟨500, _, rfl, rfl⟩), (fun _ => ⟨501, _, rfl, rfl⟩), trivial⟩) rfl) trivial rfl ?_
 refine .nil ?_
 show Ev _ _ _ _ _
 refine .seq ?_
 refine .region ?_
 refine .q (op_move rfl) trivial rfl ?_
 refine .q (op_assign rfl) trivial rfl ?_
 refine .nil ?_
 show Ev _ _ _ _ _
 refine .ret ?_
 show RetOk _ _ _ _ _ _ _
 exact ret1v rfl (.inl rfl) rfl rfl ⟨(by first | rfl | (simp only [List.append_assoc, Nat.add_assoc, textB, bigB]; rfl)), (by first | rfl | (simp only [List.append_assoc, Nat.add_assoc, textB, bigB]; rfl)), trivial⟩
set_option maxRecDepth 100000 in
theorem raw0e_ev (s : List UInt8) (h : s = []) : Meets Tryd.prog 14 [.ptr 500 0, .str s] [(500, some ⟨.agg [.val (.pointer none), .nilsl], 29, true⟩)] (.ptr 500 0) [(500, some ⟨.agg [.ptr 500 0, .nilsl], 29, true⟩)] := by
 subst h
 refine meets_of_ev (nt := 11) Tryd.func14 rfl rfl (Nat.le_of_ble_eq_true rfl) ?_
 refine .seq ?_
 refine .region ?_
 refine .q (op_assign rfl) trivial rfl ?_
 refine .nil ?_
 show Ev _ _ _ _ _
 refine .seq ?_
 refine .region ?_
 refine .q (op_move rfl) trivial rfl ?_
 refine .q (op_nilCheck rfl) trivial rfl ?_
 refine .q (op_fieldAddr (m := 1) Tryd.underlying29 rfl (by kernel_rfl) rfl) trivial rfl ?_
 refine .as (.ptr 500 0) rfl ?_
 refine .q (op_move rfl) trivial rfl ?_
 refine .a (op_call (U := [(500, some ⟨.agg [.ptr 500 0, .nilsl], 29, true⟩)]) [(500, 500)] [] (ws0e_ev) Tryd.func45 (by kernel_rfl) rfl rfl rfl (⟨⟨_, rfl, rfl, rfl⟩, ⟨_, rfl, rfl, rfl⟩, trivial⟩) (⟨⟨_, _, rfl, rfl, rfl, rfl, id, rfl⟩, trivial⟩) (⟨⟨500, _, rfl, rfl, rfl, rfl, .inr ⟨rfl, _, rfl, rfl⟩⟩, trivial⟩) (⟨(fun _ => ⟨500, _, rfl, rfl⟩), trivial⟩) rfl) trivial rfl ?_
 refine .nil ?_
 show Ev _ _ _ _ _
 refine .seq ?_
 refine .region ?_
 refine .q (op_move rfl) trivial rfl ?_
 refine .q (op_assign rfl) trivial rfl ?_
 refine .nil ?_
 show Ev _ _ _ _ _
 refine .ret ?_
 show RetOk _ _ _ _ _ _ _
 exact ret1v rfl (.inl rfl) rfl rfl ⟨rfl, trivial⟩
set_option maxRecDepth 100000 in
theorem raw1e_ev (s : List UInt8) (h : s = []) : Meets Tryd.prog 14 [.ptr 500 0, .str s] [(500, some ⟨.agg [.ptr 500 0, .nilsl], 29, true⟩)] (.ptr 500 0) [(500, some ⟨.agg [.ptr 500 0, .nilsl], 29, true⟩)] := by
 subst h
 refine meets_of_ev (nt := 11) Tryd.func14 rfl rfl (Nat.le_of_ble_eq_true rfl) ?_
 refine .seq ?_
 refine .region ?_
 refine .q (op_assign rfl) trivial rfl ?_
 refine .nil ?_
 show Ev _ _ _ _ _
 refine .seq ?_
 refine .region ?_
 refine .q (op_move rfl) trivial rfl ?_
 refine .q (op_nilCheck rfl) trivial rfl ?_
 refine .q (op_fieldAddr (m := 1) Tryd.underlying29 rfl (by kernel_rfl) rfl) trivial rfl ?_
 refine .as (.ptr 500 0) rfl ?_
 refine .q (op_move rfl) trivial rfl ?_
 refine .a (op_call (U := [(500, some ⟨.agg [.ptr 500 0, .nilsl], 29, true⟩)]) [(500, 500)] [] (ws1e_ev) Tryd.func45 (by kernel_rfl) rfl rfl rfl (⟨⟨_, rfl, rfl, rfl⟩, ⟨_, rfl, rfl, rfl⟩, trivial⟩) (⟨⟨_, _, rfl, rfl, rfl, rfl, id, rfl⟩, trivial⟩) (⟨⟨500, _, rfl, rfl, rfl, rfl, .inr ⟨rfl, _, rfl, rfl⟩⟩, trivial⟩) (⟨(fun _ => ⟨500, _, rfl, rfl⟩), trivial⟩) rfl) trivial rfl ?_
 refine .nil ?_
 show Ev _ _ _ _ _
 refine .seq ?_
 refine .region ?_
 refine .q (op_move rfl) trivial rfl ?_
 refine .q (op_assign rfl) trivial rfl ?_
 refine .nil ?_
 show Ev _ _ _ _ _
 refine .ret ?_
 show RetOk _ _ _ _ _ _ _
 exact ret1v rfl (.inl rfl) rfl rfl ⟨rfl, trivial⟩
set_option maxRecDepth 100000 in
theorem num0_ev (x : UInt64) (sz : Nat) (h0 : 1 ≤ sz) (h8 : sz ≤ 8) : Meets Tryd.prog 44 [.ptr 500 0, .u64 x, .i64 (sz : Int)] [(500, some ⟨.agg [.val (.pointer none), .nilsl], 29, true⟩)] (.ptr 500 0) [(500, some ⟨.agg [.ptr 500 0, .sl 1000 0 (sz) 1], 29, true⟩), (1000, some ⟨.aggB (numB x sz sz), 5, true⟩)] := by
 refine meets_of_ev (nt := 24) Tryd.func44 rfl rfl (Nat.le_of_ble_eq_true rfl) ?_
 refine .seq ?_
 refine .region ?_
 refine .q (op_assign rfl) trivial rfl ?_
 refine .nil ?_
 show Ev _ _ _ _ _
 refine .seq ?_
 refine .seq ?_
 refine .region ?_
 refine .q (op_move rfl) trivial rfl ?_
 refine .q (op_move rfl) trivial rfl ?_
 refine .nil ?_
 show Ev _ _ _ _ _
 refine .block ?_
 refine Ev.loop (ι := Option { j : Nat // 1 ≤ j ∧ j ≤ sz }) (fun q => match q with | none => ⟨[(0, .ptr 500 0), (1, .u64 x), (2, .i64 (sz : Int)), (8, .i64 (sz : Int)), (9, .i64 0)], [(500, some ⟨.agg [.val (.pointer none), .nilsl], 29, true⟩)], 1000⟩ | some q => ⟨[(0, .ptr 500 0), (1, .u64 x), (2, .i64 (sz : Int)), (8, .i64 (sz : Int)), (9, .i64 ((q.1 : Nat) : Int))], [(500, some ⟨.agg [.ptr 500 0, .sl 1000 0 (q.1) 1], 29, true⟩), (1000, some ⟨.aggB (numB x sz (q.1)), 5, true⟩)], 1008⟩) (fun q => match q with | none => sz | some q => sz - q.1) none (StLe.mk [] rfl rfl ⟨⟨_, rfl, by first | rfl | (simp only [AV.ren]; congr 1; omega), rfl⟩, ⟨_, rfl, by first | rfl | (simp only [AV.ren]; congr 1; omega), rfl⟩, ⟨_, rfl, by first | rfl | (simp only [AV.ren]; congr 1; omega), rfl⟩, ⟨_, rfl, by first | rfl | (simp only [AV.ren]; congr 1; omega), rfl⟩, ⟨_, rfl, by first | rfl | (simp only [AV.ren]; congr 1; omega), rfl⟩, trivial⟩ ⟨⟨_, _, rfl, rfl, rfl, rfl, id, rfl⟩, trivial⟩) ?_
 rintro (_ | ⟨j, hj⟩)
 ·try dsimp only
  refine .seq ?_
  refine .region ?_
  refine .q (op_cmpI rfl rfl rfl) trivial rfl ?_
  refine .nil ?_
  show Ev _ _ _ _ _
  refine .seq ?_
  refine .cond_true rfl (decide_eq_true (by omega)) ?_
  refine .skip ?_
  show Ev _ _ _ _ _
  refine .seq ?_
  refine .block ?_
  refine .seq ?_
  refine .region ?_
  refine .q (op_move rfl) trivial rfl ?_
  refine .q (op_assign rfl) trivial rfl ?_
  refine .nil ?_
  show Ev _ _ _ _ _
  refine .region ?_
  refine .q (op_move rfl) trivial rfl ?_
  refine .q (op_move rfl) trivial rfl ?_
  refine .q (op_move rfl) trivial rfl ?_
  refine .q (op_subI rfl rfl ⟨by omega, by omega⟩) trivial rfl ?_
  refine .q (op_move rfl) trivial rfl ?_
  refine .q (op_subI rfl rfl ⟨by omega, by omega⟩) trivial rfl ?_
  refine .q (op_mulI rfl rfl ⟨by omega, by omega⟩) trivial rfl ?_
  refine .q (op_shr64 (n := 8 * (sz - 1 - 0)) rfl rfl (by simp only [shiftBy]; rw [show (8 : Int) * ((sz : Int) - 1 - 0) = ((8 * (sz - 1 - 0) : Nat) : Int) by omega]) (by omega)) trivial rfl ?_
  refine .q (op_conv Tryd.underlying30 Tryd.underlying5 rfl rfl) trivial rfl ?_
  refine .a (op_call (U := [(500, some ⟨.agg [.ptr 500 0, .sl 1000 0 (1) 1], 29, true⟩), (1000, some ⟨.aggB ([(x >>> UInt64.ofNat (8 * (sz - 1 - 0))).toUInt8]), 5, true⟩)]) [(500, 500)] [(1000, 1000)] (byte0_ev ((x >>> UInt64.ofNat (8 * (sz - 1 - 0))).toUInt8)) Tryd.func9 (by kernel_rfl) rfl rfl rfl (⟨⟨_, rfl, rfl, rfl⟩, ⟨_, rfl, rfl, rfl⟩, trivial⟩) (⟨⟨_, _, rfl, rfl, rfl, rfl, id, rfl⟩, trivial⟩) (⟨⟨500, _, rfl, rfl, rfl, rfl, .inr ⟨rfl, _, rfl, rfl⟩⟩, ⟨1000, _, rfl, rfl, rfl, rfl, .inl rfl⟩, trivial⟩) (⟨(fun _ => ⟨500, _, rfl, rfl⟩), trivial⟩) rfl) trivial rfl ?_
  refine .nil ?_
  show Ev _ _ _ _ _
  refine .region ?_
  refine .q (op_addI rfl rfl ⟨by omega, by omega⟩) trivial rfl ?_
  refine .q (op_move rfl) trivial rfl ?_
  refine .nil ?_
  exact ⟨some ⟨1, by omega⟩, by show sz - 1 < sz; omega, StLe.mk [(1000, 1000)] rfl rfl ⟨⟨_, rfl, by first | rfl | (simp only [AV.ren]; congr 1; omega), rfl⟩, ⟨_, rfl, by first | rfl | (simp only [AV.ren]; congr 1; omega), rfl⟩, ⟨_, rfl, by first | rfl | (simp only [AV.ren]; congr 1; omega), rfl⟩, ⟨_, rfl, by first | rfl | (simp only [AV.ren]; congr 1; omega), rfl⟩, ⟨_, rfl, by first | rfl | (simp only [AV.ren]; congr 1; omega), rfl⟩, trivial⟩ ⟨⟨_, _, rfl, rfl, rfl, rfl, id, rfl⟩, ⟨_, _, rfl, rfl, rfl, rfl, id, rfl⟩, trivial⟩⟩
 ·try dsimp only
  refine .seq ?_
  refine .region ?_
  refine .q (op_cmpI rfl rfl rfl) trivial rfl ?_
  refine .nil ?_
  show Ev _ _ _ _ _
  refine .seq ?_
  refine .cond rfl (fun hc10 => ?_) (fun hc10 => ?_)
  ·simp only [decide_eq_true_eq] at hc10
   refine .skip ?_
   show Ev _ _ _ _ _
   refine .seq ?_
   refine .block ?_
   refine .seq ?_
   refine .region ?_
   refine .q (op_move rfl) trivial rfl ?_
   refine .q (op_assign rfl) trivial rfl ?_
   refine .nil ?_
   show Ev _ _ _ _ _
   refine .region ?_
   refine .q (op_move rfl) trivial rfl ?_
   refine .q (op_move rfl) trivial rfl ?_
   refine .q (op_move rfl) trivial rfl ?_
   refine .q (op_subI rfl rfl ⟨by omega, by omega⟩) trivial rfl ?_
   refine .q (op_move rfl) trivial rfl ?_
   refine .q (op_subI rfl rfl ⟨by omega, by omega⟩) trivial rfl ?_
   refine .q (op_mulI rfl rfl ⟨by omega, by omega⟩) trivial rfl ?_
   refine .q (op_shr64 (n := 8 * (sz - 1 - j)) rfl rfl (by simp only [shiftBy]; rw [show (8 : Int) * ((sz : Int) - 1 - (j : Int)) = ((8 * (sz - 1 - j) : Nat) : Int) by omega]) (by omega)) trivial rfl ?_
   refine .q (op_conv Tryd.underlying30 Tryd.underlying5 rfl rfl) trivial rfl ?_
   refine .a (op_call (U := [(500, some ⟨.agg [.ptr 500 0, .sl 1008 0 (j + 1) 1], 29, true⟩), (1008, some ⟨.aggB ((numB x sz j) ++ [(x >>> UInt64.ofNat (8 * (sz - 1 - j))).toUInt8]), 5, true⟩), (1000, none)]) [(500, 500), (501, 1000)] [(1008, 1000)] (byte2_ev ((x >>> UInt64.ofNat (8 * (sz - 1 - j))).toUInt8) ((numB x sz j)) (j) (by first | exact hn | (simp [length_numB]; done) | (simp [length_numB, length_lenB, length_textB]; omega) | omega | decide +kernel) (by omega)) Tryd.func9 (by kernel_rfl) rfl rfl rfl (⟨⟨_, rfl, rfl, rfl⟩, ⟨_, rfl, rfl, rfl⟩, trivial⟩) (⟨⟨_, _, rfl, rfl, rfl, rfl, id, rfl⟩, ⟨_, _, rfl, rfl, rfl, rfl, id, rfl⟩, trivial⟩) (⟨⟨500, _, rfl, rfl, rfl, rfl, .inr ⟨rfl, _, rfl, rfl⟩⟩, ⟨1000, _, rfl, rfl, rfl, rfl, .inl rfl⟩, trivial⟩) (⟨(fun _ => ⟨500, _, rfl, rfl⟩), (fun _ => ⟨1000, _, rfl, rfl⟩), trivial⟩) rfl) trivial rfl ?_
   refine .nil ?_
   show Ev _ _ _ _ _
   refine .region ?_
   refine .q (op_addI rfl rfl ⟨by omega, by omega⟩) trivial rfl ?_
   refine .q (op_move rfl) trivial rfl ?_
   refine .nil ?_
   exact ⟨some ⟨j + 1, by omega⟩, by show sz - (j + 1) < sz - j; omega, StLe.mk [(1000, 1008)] rfl rfl ⟨⟨_, rfl, by first | rfl | (simp only [AV.ren]; congr 1; omega), rfl⟩, ⟨_, rfl, by first | rfl | (simp only [AV.ren]; congr 1; omega), rfl⟩, ⟨_, rfl, by first | rfl | (simp only [AV.ren]; congr 1; omega), rfl⟩, ⟨_, rfl, by first | rfl | (simp only [AV.ren]; congr 1; omega), rfl⟩, ⟨_, rfl, by first | rfl | (simp only [AV.ren]; congr 1; omega), rfl⟩, trivial⟩ ⟨⟨_, _, rfl, rfl, rfl, rfl, id, rfl⟩, ⟨_, _, rfl, rfl, by (simp only [AV.ren, numB]; done), rfl, id, rfl⟩, trivial⟩⟩
  ·simp only [decide_eq_false_iff_not] at hc10
   refine .exit ?_
   show Ev _ _ _ _ _
   refine .seq ?_
   refine .region ?_
   refine .q (op_move rfl) trivial rfl ?_
   refine .q (op_assign rfl) trivial rfl ?_
   refine .nil ?_
   show Ev _ _ _ _ _
   refine .ret ?_
   show RetOk _ _ _ _ _ _ _
   have ej : j = sz := by omega
   subst ej
   exact ret1v rfl (.inl rfl) rfl rfl ⟨rfl, rfl, trivial⟩
set_option maxRecDepth 100000 in
theorem num1_ev (x : UInt64) (sz : Nat) (h0 : 1 ≤ sz) (h8 : sz ≤ 8) : Meets Tryd.prog 44 [.ptr 500 0, .u64 x, .i64 (sz : Int)] [(500, some ⟨.agg [.ptr 500 0, .nilsl], 29, true⟩)] (.ptr 500 0) [(500, some ⟨.agg [.ptr 500 0, .sl 1000 0 (sz) 1], 29, true⟩), (1000, some ⟨.aggB (numB x sz sz), 5, true⟩)] := by
 refine meets_of_ev (nt := 24) Tryd.func44 rfl rfl (Nat.le_of_ble_eq_true rfl) ?_
 refine .seq ?_
 refine .region ?_
 refine .q (op_assign rfl) trivial rfl ?_
 refine .nil ?_
 show Ev _ _ _ _ _
 refine .seq ?_
 refine .seq ?_
 refine .region ?_
 refine .q (op_move rfl) trivial rfl ?_
 refine .q (op_move rfl) trivial rfl ?_
 refine .nil ?_
 show Ev _ _ _ _ _
 refine .block ?_
 refine Ev.loop (ι := Option { j : Nat // 1 ≤ j ∧ j ≤ sz }) (fun q => match q with | none => ⟨[(0, .ptr 500 0), (1, .u64 x), (2, .i64 (sz : Int)), (8, .i64 (sz : Int)), (9, .i64 0)], [(500, some ⟨.agg [.ptr 500 0, .nilsl], 29, true⟩)], 1000⟩ | some q => ⟨[(0, .ptr 500 0), (1, .u64 x), (2, .i64 (sz : Int)), (8, .i64 (sz : Int)), (9, .i64 ((q.1 : Nat) : Int))], [(500, some ⟨.agg [.ptr 500 0, .sl 1000 0 (q.1) 1], 29, true⟩), (1000, some ⟨.aggB (numB x sz (q.1)), 5, true⟩)], 1008⟩) (fun q => match q with | none => sz | some q => sz - q.1) none (StLe.mk [] rfl rfl ⟨⟨_, rfl, by first | rfl | (simp only [AV.ren]; congr 1; omega), rfl⟩, ⟨_, rfl, by first | rfl | (simp only [AV.ren]; congr 1; omega), rfl⟩, ⟨_, rfl, by first | rfl | (simp only [AV.ren]; congr 1; omega), rfl⟩, ⟨_, rfl, by first | rfl | (simp only [AV.ren]; congr 1; omega), rfl⟩, ⟨_, rfl, by first | rfl | (simp only [AV.ren]; congr 1; omega), rfl⟩, trivial⟩ ⟨⟨_, _, rfl, rfl, rfl, rfl, id, rfl⟩, trivial⟩) ?_
 rintro (_ | ⟨j, hj⟩)
 ·try dsimp only
  refine .seq ?_
  refine .region ?_
  refine .q (op_cmpI rfl rfl rfl) trivial rfl ?_
  refine .nil ?_
  show Ev _ _ _ _ _
  refine .seq ?_
  refine .cond_true rfl (decide_eq_true (by omega)) ?_
  refine .skip ?_
  show Ev _ _ _ _ _
  refine .seq ?_
  refine .block ?_
  refine .seq ?_
  refine .region ?_
  refine .q (op_move rfl) trivial rfl ?_
  refine .q (op_assign rfl) trivial rfl ?_
  refine .nil ?_
  show Ev _ _ _ _ _
  refine .region ?_
  refine .q (op_move rfl) trivial rfl ?_
  refine .q (op_move rfl) trivial rfl ?_
  refine .q (op_move rfl) trivial rfl ?_
  refine .q (op_subI rfl rfl ⟨by omega, by omega⟩) trivial rfl ?_
  refine .q (op_move rfl) trivial rfl ?_
  refine .q (op_subI rfl rfl ⟨by omega, by omega⟩) trivial rfl ?_
  refine .q (op_mulI rfl rfl ⟨by omega, by omega⟩) trivial rfl ?_
  refine .q (op_shr64 (n := 8 * (sz - 1 - 0)) rfl rfl (by simp only [shiftBy]; rw [show (8 : Int) * ((sz : Int) - 1 - 0) = ((8 * (sz - 1 - 0) : Nat) : Int) by omega]) (by omega)) trivial rfl ?_
  refine .q (op_conv Tryd.underlying30 Tryd.underlying5 rfl rfl) trivial rfl ?_
  refine .a (op_call (U := [(500, some ⟨.agg [.ptr 500 0, .sl 1000 0 (1) 1], 29, true⟩), (1000, some ⟨.aggB ([(x >>> UInt64.ofNat (8 * (sz - 1 - 0))).toUInt8]), 5, true⟩)]) [(500, 500)] [(1000, 1000)] (byte1_ev ((x >>> UInt64.ofNat (8 * (sz - 1 - 0))).toUInt8)) Tryd.func9 (by kernel_rfl) rfl rfl rfl (⟨⟨_, rfl, rfl, rfl⟩, ⟨_, rfl, rfl, rfl⟩, trivial⟩) (⟨⟨_, _, rfl, rfl, rfl, rfl, id, rfl⟩, trivial⟩) (⟨⟨500, _, rfl, rfl, rfl, rfl, .inr ⟨rfl, _, rfl, rfl⟩⟩, ⟨1000, _, rfl, rfl, rfl, rfl, .inl rfl⟩, trivial⟩) (⟨(fun _ => ⟨500, _, rfl, rfl⟩), trivial⟩) rfl) trivial rfl ?_
  refine .nil ?_
  show Ev _ _ _ _ _
  refine .region ?_
  refine .q (op_addI rfl rfl ⟨by omega, by omega⟩) trivial rfl ?_
  refine .q (op_move rfl) trivial rfl ?_
  refine .nil ?_
  exact ⟨some ⟨1, by omega⟩, by show sz - 1 < sz; omega, StLe.mk [(1000, 1000)] rfl rfl ⟨⟨_, rfl, by first | rfl | (simp only [AV.ren]; congr 1; omega), rfl⟩, ⟨_, rfl, by first | rfl | (simp only [AV.ren]; congr 1; omega), rfl⟩, ⟨_, rfl, by first | rfl | (simp only [AV.ren]; congr 1; omega), rfl⟩, ⟨_, rfl, by first | rfl | (simp only [AV.ren]; congr 1; omega), rfl⟩, ⟨_, rfl, by first | rfl | (simp only [AV.ren]; congr 1; omega), rfl⟩, trivial⟩ ⟨⟨_, _, rfl, rfl, rfl, rfl, id, rfl⟩, ⟨_, _, rfl, rfl, rfl, rfl, id, rfl⟩, trivial⟩⟩
 ·try dsimp only
  refine .seq ?_
  refine .region ?_
  refine .q (op_cmpI rfl rfl rfl) trivial rfl ?_
  refine .nil ?_
  show Ev _ _ _ _ _
  refine .seq ?_
  refine .cond rfl (fun hc10 => ?_) (fun hc10 => ?_)
  ·simp only [decide_eq_true_eq] at hc10
   refine .skip ?_
   show Ev _ _ _ _ _
   refine .seq ?_
   refine .block ?_
   refine .seq ?_
   refine .region ?_
   refine .q (op_move rfl) trivial rfl ?_
   refine .q (op_assign rfl) trivial rfl ?_
   refine .nil ?_
   show Ev _ _ _ _ _
   refine .region ?_
   refine .q (op_move rfl) trivial rfl ?_
   refine .q (op_move rfl) trivial rfl ?_
   refine .q (op_move rfl) trivial rfl ?_
   refine .q (op_subI rfl rfl ⟨by omega, by omega⟩) trivial rfl ?_
   refine .q (op_move rfl) trivial rfl ?_
   refine .q (op_subI rfl rfl ⟨by omega, by omega⟩) trivial rfl ?_
   refine .q (op_mulI rfl rfl ⟨by omega, by omega⟩) trivial rfl ?_
   refine .q (op_shr64 (n := 8 * (sz - 1 - j)) rfl rfl (by simp only [shiftBy]; rw [show (8 : Int) * ((sz : Int) - 1 - (j : Int)) = ((8 * (sz - 1 - j) : Nat) : Int) by omega]) (by omega)) trivial rfl ?_
   refine .q (op_conv Tryd.underlying30 Tryd.underlying5 rfl rfl) trivial rfl ?_
   refine .a (op_call (U := [(500, some ⟨.agg [.ptr 500 0, .sl 1008 0 (j + 1) 1], 29, true⟩), (1008, some ⟨.aggB ((numB x sz j) ++ [(x >>> UInt64.ofNat (8 * (sz - 1 - j))).toUInt8]), 5, true⟩), (1000, none)]) [(500, 500), (501, 1000)] [(1008, 1000)] (byte2_ev ((x >>> UInt64.ofNat (8 * (sz - 1 - j))).toUInt8) ((numB x sz j)) (j) (by first | exact hn | (simp [length_numB]; done) | (simp [length_numB, length_lenB, length_textB]; omega) | omega | decide +kernel) (by omega)) Tryd.func9 (by kernel_rfl) rfl rfl rfl (⟨⟨_, rfl, rfl, rfl⟩, ⟨_, rfl, rfl, rfl⟩, trivial⟩) (⟨⟨_, _, rfl, rfl, rfl, rfl, id, rfl⟩, ⟨_, _, rfl, rfl, rfl, rfl, id, rfl⟩, trivial⟩) (⟨⟨500, _, rfl, rfl, rfl, rfl, .inr ⟨rfl, _, rfl, rfl⟩⟩, ⟨1000, _, rfl, rfl, rfl, rfl, .inl rfl⟩, trivial⟩) (⟨(fun _ => ⟨500, _, rfl, rfl⟩), (fun _ => ⟨1000, _, rfl, rfl⟩), trivial⟩) rfl) trivial rfl ?_
   refine .nil ?_
   show Ev _ _ _ _ _
   refine .region ?_
   refine .q (op_addI rfl rfl ⟨by omega, by omega⟩) trivial rfl ?_
   refine .q (op_move rfl) trivial rfl ?_
   refine .nil ?_
   exact ⟨some ⟨j + 1, by omega⟩, by show sz - (j + 1) < sz - j; omega, StLe.mk [(1000, 1008)] rfl rfl ⟨⟨_, rfl, by first | rfl | (simp only [AV.ren]; congr 1; omega), rfl⟩, ⟨_, rfl, by first | rfl | (simp only [AV.ren]; congr 1; omega), rfl⟩, ⟨_, rfl, by first | rfl | (simp only [AV.ren]; congr 1; omega), rfl⟩, ⟨_, rfl, by first | rfl | (simp only [AV.ren]; congr 1; omega), rfl⟩, ⟨_, rfl, by first | rfl | (simp only [AV.ren]; congr 1; omega), rfl⟩, trivial⟩ ⟨⟨_, _, rfl, rfl, rfl, rfl, id, rfl⟩, ⟨_, _, rfl, rfl, by (simp only [AV.ren, numB]; done), rfl, id, rfl⟩, trivial⟩⟩
  ·simp only [decide_eq_false_iff_not] at hc10
   refine .exit ?_
   show Ev _ _ _ _ _
   refine .seq ?_
   refine .region ?_
   refine .q (op_move rfl) trivial rfl ?_
   refine .q (op_assign rfl) trivial rfl ?_
   refine .nil ?_
   show Ev _ _ _ _ _
   refine .ret ?_
   show RetOk _ _ _ _ _ _ _
   have ej : j = sz := by omega
   subst ej
   exact ret1v rfl (.inl rfl) rfl rfl ⟨rfl, rfl, trivial⟩
set_option maxRecDepth 100000 in
theorem num2_ev (x : UInt64) (sz : Nat) (h0 : 1 ≤ sz) (h8 : sz ≤ 8) (l : List UInt8) (n : Nat) (hn : n = l.length) (h : n ≤ 800000000) : Meets Tryd.prog 44 [.ptr 500 0, .u64 x, .i64 (sz : Int)] [(500, some ⟨.agg [.ptr 500 0, .sl 501 0 (n) 1], 29, true⟩), (501, some ⟨.aggB l, 5, true⟩)] (.ptr 500 0) [(500, some ⟨.agg [.ptr 500 0, .sl 1000 0 (n + sz) 1], 29, true⟩), (1000, some ⟨.aggB (l ++ numB x sz sz), 5, true⟩)] := by
 refine meets_of_ev (nt := 24) Tryd.func44 rfl rfl (Nat.le_of_ble_eq_true rfl) ?_
 refine .seq ?_
 refine .region ?_
 refine .q (op_assign rfl) trivial rfl ?_
 refine .nil ?_
 show Ev _ _ _ _ _
 refine .seq ?_
 refine .seq ?_
 refine .region ?_
 refine .q (op_move rfl) trivial rfl ?_
 refine .q (op_move rfl) trivial rfl ?_
 refine .nil ?_
 show Ev _ _ _ _ _
 refine .block ?_
 refine Ev.loop (ι := Option { j : Nat // 1 ≤ j ∧ j ≤ sz }) (fun q => match q with | none => ⟨[(0, .ptr 500 0), (1, .u64 x), (2, .i64 (sz : Int)), (8, .i64 (sz : Int)), (9, .i64 0)], [(500, some ⟨.agg [.ptr 500 0, .sl 501 0 (n) 1], 29, true⟩), (501, some ⟨.aggB l, 5, true⟩)], 1000⟩ | some q => ⟨[(0, .ptr 500 0), (1, .u64 x), (2, .i64 (sz : Int)), (8, .i64 (sz : Int)), (9, .i64 ((q.1 : Nat) : Int))], [(500, some ⟨.agg [.ptr 500 0, .sl 1000 0 (n + q.1) 1], 29, true⟩), (1000, some ⟨.aggB (l ++ numB x sz (q.1)), 5, true⟩)], 1008⟩) (fun q => match q with | none => sz | some q => sz - q.1) none (StLe.mk [] rfl rfl ⟨⟨_, rfl, by first | rfl | (simp only [AV.ren]; congr 1; omega), rfl⟩, ⟨_, rfl, by first | rfl | (simp only [AV.ren]; congr 1; omega), rfl⟩, ⟨_, rfl, by first | rfl | (simp only [AV.ren]; congr 1; omega), rfl⟩, ⟨_, rfl, by first | rfl | (simp only [AV.ren]; congr 1; omega), rfl⟩, ⟨_, rfl, by first | rfl | (simp only [AV.ren]; congr 1; omega), rfl⟩, trivial⟩ ⟨⟨_, _, rfl, rfl, rfl, rfl, id, rfl⟩, ⟨_, _, rfl, rfl, rfl, rfl, id, rfl⟩, trivial⟩) ?_
 rintro (_ | ⟨j, hj⟩)
 ·try dsimp only
  refine .seq ?_
  refine .region ?_
  refine .q (op_cmpI rfl rfl rfl) trivial rfl ?_
  refine .nil ?_
  show Ev _ _ _ _ _
  refine .seq ?_
  refine .cond_true rfl (decide_eq_true (by omega)) ?_
  refine .skip ?_
  show Ev _ _ _ _ _
  refine .seq ?_
  refine .block ?_
  refine .seq ?_
  refine .region ?_
  refine .q (op_move rfl) trivial rfl ?_
  refine .q (op_assign rfl) trivial rfl ?_
  refine .nil ?_
  show Ev _ _ _ _ _
  refine .region ?_
  refine .q (op_move rfl) trivial rfl ?_
  refine .q (op_move rfl) trivial rfl ?_
  refine .q (op_move rfl) trivial rfl ?_
  refine .q (op_subI rfl rfl ⟨by omega, by omega⟩) trivial rfl ?_
  refine .q (op_move rfl) trivial rfl ?_
  refine .q (op_subI rfl rfl ⟨by omega, by omega⟩) trivial rfl ?_
  refine .q (op_mulI rfl rfl ⟨by omega, by omega⟩) trivial rfl ?_
  refine .q (op_shr64 (n := 8 * (sz - 1 - 0)) rfl rfl (by simp only [shiftBy]; rw [show (8 : Int) * ((sz : Int) - 1 - 0) = ((8 * (sz - 1 - 0) : Nat) : Int) by omega]) (by omega)) trivial rfl ?_
  refine .q (op_conv Tryd.underlying30 Tryd.underlying5 rfl rfl) trivial rfl ?_
  refine .a (op_call (U := [(500, some ⟨.agg [.ptr 500 0, .sl 1000 0 (n + 1) 1], 29, true⟩), (1000, some ⟨.aggB (l ++ [(x >>> UInt64.ofNat (8 * (sz - 1 - 0))).toUInt8]), 5, true⟩), (501, none)]) [(500, 500), (501, 501)] [(1000, 1000)] (byte2_ev ((x >>> UInt64.ofNat (8 * (sz - 1 - 0))).toUInt8) (l) (n) (by first | exact hn | (simp [length_numB, length_lenB, length_textB]; done) | (simp [length_numB, length_lenB, length_textB]; omega) | omega | decide +kernel) (by omega)) Tryd.func9 (by kernel_rfl) rfl rfl rfl (⟨⟨_, rfl, rfl, rfl⟩, ⟨_, rfl, rfl, rfl⟩, trivial⟩) (⟨⟨_, _, rfl, rfl, rfl, rfl, id, rfl⟩, ⟨_, _, rfl, rfl, rfl, rfl, id, rfl⟩, trivial⟩) (⟨⟨500, _, rfl, rfl, rfl, rfl, .inr ⟨rfl, _, rfl, rfl⟩⟩, ⟨1000, _, rfl, rfl, rfl, rfl, .inl rfl⟩, trivial⟩) (⟨(fun _ => ⟨500, _, rfl, rfl⟩), (fun _ => ⟨501, _, rfl, rfl⟩), trivial⟩) rfl) trivial rfl ?_
  refine .nil ?_
  show Ev _ _ _ _ _
  refine .region ?_
  refine .q (op_addI rfl rfl ⟨by omega, by omega⟩) trivial rfl ?_
  refine .q (op_move rfl) trivial rfl ?_
  refine .nil ?_
  exact ⟨some ⟨1, by omega⟩, by show sz - 1 < sz; omega, StLe.mk [(1000, 1000)] rfl rfl ⟨⟨_, rfl, by first | rfl | (simp only [AV.ren]; congr 1; omega), rfl⟩, ⟨_, rfl, by first | rfl | (simp only [AV.ren]; congr 1; omega), rfl⟩, ⟨_, rfl, by first | rfl | (simp only [AV.ren]; congr 1; omega), rfl⟩, ⟨_, rfl, by first | rfl | (simp only [AV.ren]; congr 1; omega), rfl⟩, ⟨_, rfl, by first | rfl | (simp only [AV.ren]; congr 1; omega), rfl⟩, trivial⟩ ⟨⟨_, _, rfl, rfl, rfl, rfl, id, rfl⟩, ⟨_, _, rfl, rfl, rfl, rfl, id, rfl⟩, trivial⟩⟩
 ·try dsimp only
  refine .seq ?_
  refine .region ?_
  refine .q (op_cmpI rfl rfl rfl) trivial rfl ?_
  refine .nil ?_
  show Ev _ _ _ _ _
  refine .seq ?_
  refine .cond rfl (fun hc10 => ?_) (fun hc10 => ?_)
  ·simp only [decide_eq_true_eq] at hc10
   refine .skip ?_
   show Ev _ _ _ _ _
   refine .seq ?_
   refine .block ?_
   refine .seq ?_
   refine .region ?_
   refine .q (op_move rfl) trivial rfl ?_
   refine .q (op_assign rfl) trivial rfl ?_
   refine .nil ?_
   show Ev _ _ _ _ _
   refine .region ?_
   refine .q (op_move rfl) trivial rfl ?_
   refine .q (op_move rfl) trivial rfl ?_
   refine .q (op_move rfl) trivial rfl ?_
   refine .q (op_subI rfl rfl ⟨by omega, by omega⟩) trivial rfl ?_
   refine .q (op_move rfl) trivial rfl ?_
   refine .q (op_subI rfl rfl ⟨by omega, by omega⟩) trivial rfl ?_
   refine .q (op_mulI rfl rfl ⟨by omega, by omega⟩) trivial rfl ?_
   refine .q (op_shr64 (n := 8 * (sz - 1 - j)) rfl rfl (by simp only [shiftBy]; rw [show (8 : Int) * ((sz : Int) - 1 - (j : Int)) = ((8 * (sz - 1 - j) : Nat) : Int) by omega]) (by omega)) trivial rfl ?_
   refine .q (op_conv Tryd.underlying30 Tryd.underlying5 rfl rfl) trivial rfl ?_
   refine .a (op_call (U := [(500, some ⟨.agg [.ptr 500 0, .sl 1008 0 (n + j + 1) 1], 29, true⟩), (1008, some ⟨.aggB ((l ++ numB x sz j) ++ [(x >>> UInt64.ofNat (8 * (sz - 1 - j))).toUInt8]), 5, true⟩), (1000, none)]) [(500, 500), (501, 1000)] [(1008, 1000)] (byte2_ev ((x >>> UInt64.ofNat (8 * (sz - 1 - j))).toUInt8) ((l ++ numB x sz j)) (n + j) (by first | exact hn | (simp [length_numB]; done) | (simp [length_numB]; omega) | omega | decide +kernel) (by omega)) Tryd.func9 (by kernel_rfl) rfl rfl rfl (⟨⟨_, rfl, rfl, rfl⟩, ⟨_, rfl, rfl, rfl⟩, trivial⟩) (⟨⟨_, _, rfl, rfl, rfl, rfl, id, rfl⟩, ⟨_, _, rfl, rfl, rfl, rfl, id, rfl⟩, trivial⟩) (⟨⟨500, _, rfl, rfl, rfl, rfl, .inr ⟨rfl, _, rfl, rfl⟩⟩, ⟨1000, _, rfl, rfl, rfl, rfl, .inl rfl⟩, trivial⟩) (⟨(fun _ => ⟨500, _, rfl, rfl⟩), (fun _ => ⟨1000, _, rfl, rfl⟩), trivial⟩) rfl) trivial rfl ?_
   refine .nil ?_
   show Ev _ _ _ _ _
   refine .region ?_
   refine .q (op_addI rfl rfl ⟨by omega, by omega⟩) trivial rfl ?_
   refine .q (op_move rfl) trivial rfl ?_
   refine .nil ?_
   exact ⟨some ⟨j + 1, by omega⟩, by show sz - (j + 1) < sz - j; omega, StLe.mk [(1000, 1008)] rfl rfl ⟨⟨_, rfl, by first | rfl | (simp only [AV.ren]; congr 1; omega), rfl⟩, ⟨_, rfl, by first | rfl | (simp only [AV.ren]; congr 1; omega), rfl⟩, ⟨_, rfl, by first | rfl | (simp only [AV.ren]; congr 1; omega), rfl⟩, ⟨_, rfl, by first | rfl | (simp only [AV.ren]; congr 1; omega), rfl⟩, ⟨_, rfl, by first | rfl | (simp only [AV.ren]; congr 1; omega), rfl⟩, trivial⟩ ⟨⟨_, _, rfl, rfl, rfl, rfl, id, rfl⟩, ⟨_, _, rfl, rfl, by (simp only [AV.ren, numB, List.append_assoc]; done), rfl, id, rfl⟩, trivial⟩⟩
  ·simp only [decide_eq_false_iff_not] at hc10
   refine .exit ?_
   show Ev _ _ _ _ _
   refine .seq ?_
   refine .region ?_
   refine .q (op_move rfl) trivial rfl ?_
   refine .q (op_assign rfl) trivial rfl ?_
   refine .nil ?_
   show Ev _ _ _ _ _
   refine .ret ?_
   show RetOk _ _ _ _ _ _ _
   have ej : j = sz := by omega
   subst ej
   exact ret1v rfl (.inl rfl) rfl rfl ⟨rfl, rfl, trivial⟩
set_option maxRecDepth 100000 in
theorem u320_ev (x : UInt32) : Meets Tryd.prog 11 [.ptr 500 0, .u32 x] [(500, some ⟨.agg [.val (.pointer none), .nilsl], 29, true⟩)] (.ptr 500 0) [(500, some ⟨.agg [.ptr 500 0, .sl 1000 0 (4) 1], 29, true⟩), (1000, some ⟨.aggB (numB x.toUInt64 4 4), 5, true⟩)] := by
 refine meets_of_ev (nt := 9) Tryd.func11 rfl rfl (Nat.le_of_ble_eq_true rfl) ?_
 refine .seq ?_
 refine .region ?_
 refine .q (op_assign rfl) trivial rfl ?_
 refine .nil ?_
 show Ev _ _ _ _ _
 refine .seq ?_
 refine .region ?_
 refine .q (op_move rfl) trivial rfl ?_
 refine .q (op_move rfl) trivial rfl ?_
 refine .q (op_conv Tryd.underlying39 Tryd.underlying30 rfl rfl) trivial rfl ?_
 refine .a (op_call (U := [(500, some ⟨.agg [.ptr 500 0, .sl 1000 0 (4) 1], 29, true⟩), (1000, some ⟨.aggB (numB x.toUInt64 4 4), 5, true⟩)]) [(500, 500)] [(1000, 1000)] (num0_ev x.toUInt64 4 (by decide) (by decide)) Tryd.func44 (by kernel_rfl) rfl rfl rfl (⟨⟨_, rfl, rfl, rfl⟩, ⟨_, rfl, rfl, rfl⟩, ⟨_, rfl, rfl, rfl⟩, trivial⟩) (⟨⟨_, _, rfl, rfl, rfl, rfl, id, rfl⟩, trivial⟩) (⟨⟨500, _, rfl, rfl, rfl, rfl, .inr ⟨rfl, _, rfl, rfl⟩⟩, ⟨1000, _, rfl, rfl, rfl, rfl, .inl rfl⟩, trivial⟩) (⟨(fun _ => ⟨500, _, rfl, rfl⟩), trivial⟩) rfl) trivial rfl ?_
 refine .q (op_assign rfl) trivial rfl ?_
 refine .nil ?_
 show Ev _ _ _ _ _
 refine .ret ?_
 show RetOk _ _ _ _ _ _ _
 exact ret1v rfl (.inl rfl) rfl rfl ⟨(by first | rfl | (simp only [List.append_assoc, Nat.add_assoc, textB, bigB]; rfl)), (by first | rfl | (simp only [List.append_assoc, Nat.add_assoc, textB, bigB]; rfl)), trivial⟩
set_option maxRecDepth 100000 in
theorem u321_ev (x : UInt32) : Meets Tryd.prog 11 [.ptr 500 0, .u32 x] [(500, some ⟨.agg [.ptr 500 0, .nilsl], 29, true⟩)] (.ptr 500 0) [(500, some ⟨.agg [.ptr 500 0, .sl 1000 0 (4) 1], 29, true⟩), (1000, some ⟨.aggB (numB x.toUInt64 4 4), 5, true⟩)] := by
 refine meets_of_ev (nt := 9) Tryd.func11 rfl rfl (Nat.le_of_ble_eq_true rfl) ?_
 refine .seq ?_
 refine .region ?_
 refine .q (op_assign rfl) trivial rfl ?_
 refine .nil ?_
 show Ev _ _ _ _ _
 refine .seq ?_
 refine .region ?_
 refine .q (op_move rfl) trivial rfl ?_
 refine .q (op_move rfl) trivial rfl ?_
 refine .q (op_conv Tryd.underlying39 Tryd.underlying30 rfl rfl) trivial rfl ?_
 refine .a (op_call (U := [(500, some ⟨.agg [.ptr 500 0, .sl 1000 0 (4) 1], 29, true⟩), (1000, some ⟨.aggB (numB x.toUInt64 4 4), 5, true⟩)]) [(500, 500)] [(1000, 1000)] (num1_ev x.toUInt64 4 (by decide) (by decide)) Tryd.func44 (by kernel_rfl) rfl rfl rfl (⟨⟨_, rfl, rfl, rfl⟩, ⟨_, rfl, rfl, rfl⟩, ⟨_, rfl, rfl, rfl⟩, trivial⟩) (⟨⟨_, _, rfl, rfl, rfl, rfl, id, rfl⟩, trivial⟩) (⟨⟨500, _, rfl, rfl, rfl, rfl, .inr ⟨rfl, _, rfl, rfl⟩⟩, ⟨1000, _, rfl, rfl, rfl, rfl, .inl rfl⟩, trivial⟩) (⟨(fun _ => ⟨500, _, rfl, rfl⟩), trivial⟩) rfl) trivial rfl ?_
 refine .q (op_assign rfl) trivial rfl ?_
 refine .nil ?_
 show Ev _ _ _ _ _
 refine .ret ?_
 show RetOk _ _ _ _ _ _ _
 exact ret1v rfl (.inl rfl) rfl rfl ⟨(by first | rfl | (simp only [List.append_assoc, Nat.add_assoc, textB, bigB]; rfl)), (by first | rfl | (simp only [List.append_assoc, Nat.add_assoc, textB, bigB]; rfl)), trivial⟩
set_option maxRecDepth 100000 in
theorem u322_ev (x : UInt32) (l : List UInt8) (n : Nat) (hn : n = l.length) (h : n ≤ 700000000) : Meets Tryd.prog 11 [.ptr 500 0, .u32 x] [(500, some ⟨.agg [.ptr 500 0, .sl 501 0 (n) 1], 29, true⟩), (501, some ⟨.aggB l, 5, true⟩)] (.ptr 500 0) [(500, some ⟨.agg [.ptr 500 0, .sl 1000 0 (n + 4) 1], 29, true⟩), (1000, some ⟨.aggB (l ++ numB x.toUInt64 4 4), 5, true⟩)] := by
 refine meets_of_ev (nt := 9) Tryd.func11 rfl rfl (Nat.le_of_ble_eq_true rfl) ?_
 refine .seq ?_
 refine .region ?_
 refine .q (op_assign rfl) trivial rfl ?_
 refine .nil ?_
 show Ev _ _ _ _ _
 refine .seq ?_
 refine .region ?_
 refine .q (op_move rfl) trivial rfl ?_
 refine .q (op_move rfl) trivial rfl ?_
 refine .q (op_conv Tryd.underlying39 Tryd.underlying30 rfl rfl) trivial rfl ?_
 refine .a (op_call (U := [(500, some ⟨.agg [.ptr 500 0, .sl 1000 0 (n + 4) 1], 29, true⟩), (1000, some ⟨.aggB (l ++ numB x.toUInt64 4 4), 5, true⟩), (501, none)]) [(500, 500), (501, 501)] [(1000, 1000)] (num2_ev x.toUInt64 4 (by decide) (by decide) (l) (n) (by first | exact hn | (simp [length_numB, length_lenB, length_textB]; done) | (simp [length_numB, length_lenB, length_textB]; omega) | omega | decide +kernel) (by omega)) Tryd.func44 (by kernel_rfl) rfl rfl rfl (⟨⟨_, rfl, rfl, rfl⟩, ⟨_, rfl, rfl, rfl⟩, ⟨_, rfl, rfl, rfl⟩, trivial⟩) (⟨⟨_, _, rfl, rfl, rfl, rfl, id, rfl⟩, ⟨_, _, rfl, rfl, rfl, rfl, id, rfl⟩, trivial⟩) (⟨⟨500, _, rfl, rfl, rfl, rfl, .inr ⟨rfl, _, rfl, rfl⟩⟩, ⟨1000, _, rfl, rfl, rfl, rfl, .inl rfl⟩, trivial⟩) (⟨(fun _ => ⟨500, _, rfl, rfl⟩), (fun _ => ⟨501, _, rfl, rfl⟩), trivial⟩) rfl) trivial rfl ?_
 refine .q (op_assign rfl) trivial rfl ?_
 refine .nil ?_
 show Ev _ _ _ _ _
 refine .ret ?_
 show RetOk _ _ _ _ _ _ _
 exact ret1v rfl (.inl rfl) rfl rfl ⟨(by first | rfl | (simp only [List.append_assoc, Nat.add_assoc, textB, bigB]; rfl)), (by first | rfl | (simp only [List.append_assoc, Nat.add_assoc, textB, bigB]; rfl)), trivial⟩
set_option maxRecDepth 100000 in
theorem u640_ev (x : UInt64) : Meets Tryd.prog 13 [.ptr 500 0, .u64 x] [(500, some ⟨.agg [.val (.pointer none), .nilsl], 29, true⟩)] (.ptr 500 0) [(500, some ⟨.agg [.ptr 500 0, .sl 1000 0 (8) 1], 29, true⟩), (1000, some ⟨.aggB (numB x 8 8), 5, true⟩)] := by
 refine meets_of_ev (nt := 8) Tryd.func13 rfl rfl (Nat.le_of_ble_eq_true rfl) ?_
 refine .seq ?_
 refine .region ?_
 refine .q (op_assign rfl) trivial rfl ?_
 refine .nil ?_
 show Ev _ _ _ _ _
 refine .seq ?_
 refine .region ?_
 refine .q (op_move rfl) trivial rfl ?_
 refine .q (op_move rfl) trivial rfl ?_
 refine .a (op_call (U := [(500, some ⟨.agg [.ptr 500 0, .sl 1000 0 (8) 1], 29, true⟩), (1000, some ⟨.aggB (numB x 8 8), 5, true⟩)]) [(500, 500)] [(1000, 1000)] (num0_ev x 8 (by decide) (by decide)) Tryd.func44 (by kernel_rfl) rfl rfl rfl (⟨⟨_, rfl, rfl, rfl⟩, ⟨_, rfl, rfl, rfl⟩, ⟨_, rfl, rfl, rfl⟩, trivial⟩) (⟨⟨_, _, rfl, rfl, rfl, rfl, id, rfl⟩, trivial⟩) (⟨⟨500, _, rfl, rfl, rfl, rfl, .inr ⟨rfl, _, rfl, rfl⟩⟩, ⟨1000, _, rfl, rfl, rfl, rfl, .inl rfl⟩, trivial⟩) (⟨(fun _ => ⟨500, _, rfl, rfl⟩), trivial⟩) rfl) trivial rfl ?_
 refine .q (op_assign rfl) trivial rfl ?_
 refine .nil ?_
 show Ev _ _ _ _ _
 refine .ret ?_
 show RetOk _ _ _ _ _ _ _
 exact ret1v rfl (.inl rfl) rfl rfl ⟨(by first | rfl | (simp only [List.append_assoc, Nat.add_assoc, textB, bigB]; rfl)), (by first | rfl | (simp only [List.append_assoc, Nat.add_assoc, textB, bigB]; rfl)), trivial⟩
set_option maxRecDepth 100000 in
theorem u641_ev (x : UInt64) : Meets Tryd.prog 13 [.ptr 500 0, .u64 x] [(500, some ⟨.agg [.ptr 500 0, .nilsl], 29, true⟩)] (.ptr 500 0) [(500, some ⟨.agg [.ptr 500 0, .sl 1000 0 (8) 1], 29, true⟩), (1000, some ⟨.aggB (numB x 8 8), 5, true⟩)] := by
 refine meets_of_ev (nt := 8) Tryd.func13 rfl rfl (Nat.le_of_ble_eq_true rfl) ?_
 refine .seq ?_
 refine .region ?_
 refine .q (op_assign rfl) trivial rfl ?_
 refine .nil ?_
 show Ev _ _ _ _ _
 refine .seq ?_
 refine .region ?_
 refine .q (op_move rfl) trivial rfl ?_
 refine .q (op_move rfl) trivial rfl ?_
 refine .a (op_call (U := [(500, some ⟨.agg [.ptr 500 0, .sl 1000 0 (8) 1], 29, true⟩), (1000, some ⟨.aggB (numB x 8 8), 5, true⟩)]) [(500, 500)] [(1000, 1000)] (num1_ev x 8 (by decide) (by decide)) Tryd.func44 (by kernel_rfl) rfl rfl rfl (⟨⟨_, rfl, rfl, rfl⟩, ⟨_, rfl, rfl, rfl⟩, ⟨_, rfl, rfl, rfl⟩, trivial⟩) (⟨⟨_, _, rfl, rfl, rfl, rfl, id, rfl⟩, trivial⟩) (⟨⟨500, _, rfl, rfl, rfl, rfl, .inr ⟨rfl, _, rfl, rfl⟩⟩, ⟨1000, _, rfl, rfl, rfl, rfl, .inl rfl⟩, trivial⟩) (⟨(fun _ => ⟨500, _, rfl, rfl⟩), trivial⟩) rfl) trivial rfl ?_
 refine .q (op_assign rfl) trivial rfl ?_
 refine .nil ?_
 show Ev _ _ _ _ _
 refine .ret ?_
 show RetOk _ _ _ _ _ _ _
 exact ret1v rfl (.inl rfl) rfl rfl ⟨(by first | rfl | (simp only [List.append_assoc, Nat.add_assoc, textB, bigB]; rfl)), (by first | rfl | (simp only [List.append_assoc, Nat.add_assoc, textB, bigB]; rfl)), trivial⟩
set_option maxRecDepth 100000 in
theorem u642_ev (x : UInt64) (l : List UInt8) (n : Nat) (hn : n = l.length) (h : n ≤ 700000000) : Meets Tryd.prog 13 [.ptr 500 0, .u64 x] [(500, some ⟨.agg [.ptr 500 0, .sl 501 0 (n) 1], 29, true⟩), (501, some ⟨.aggB l, 5, true⟩)] (.ptr 500 0) [(500, some ⟨.agg [.ptr 500 0, .sl 1000 0 (n + 8) 1], 29, true⟩), (1000, some ⟨.aggB (l ++ numB x 8 8), 5, true⟩)] := by
 refine meets_of_ev (nt := 8) Tryd.func13 rfl rfl (Nat.le_of_ble_eq_true rfl) ?_
 refine .seq ?_
 refine .region ?_
 refine .q (op_assign rfl) trivial rfl ?_
 refine .nil ?_
 show Ev _ _ _ _ _
 refine .seq ?_
 refine .region ?_
 refine .q (op_move rfl) trivial rfl ?_
 refine .q (op_move rfl) trivial rfl ?_
 refine .a (op_call (U := [(500, some ⟨.agg [.ptr 500 0, .sl 1000 0 (n + 8) 1], 29, true⟩), (1000, some ⟨.aggB (l ++ numB x 8 8), 5, true⟩), (501, none)]) [(500, 500), (501, 501)] [(1000, 1000)] (num2_ev x 8 (by decide) (by decide) (l) (n) (by first | exact hn | (simp [length_numB, length_lenB, length_textB]; done) | (simp [length_numB, length_lenB, length_textB]; omega) | omega | decide +kernel) (by omega)) Tryd.func44 (by kernel_rfl) rfl rfl rfl (⟨⟨_, rfl, rfl, rfl⟩, ⟨_, rfl, rfl, rfl⟩, ⟨_, rfl, rfl, rfl⟩, trivial⟩) (⟨⟨_, _, rfl, rfl, rfl, rfl, id, rfl⟩, ⟨_, _, rfl, rfl, rfl, rfl, id, rfl⟩, trivial⟩) (⟨⟨500, _, rfl, rfl, rfl, rfl, .inr ⟨rfl, _, rfl, rfl⟩⟩, ⟨1000, _, rfl, rfl, rfl, rfl, .inl rfl⟩, trivial⟩) (⟨(fun _ => ⟨500, _, rfl, rfl⟩), (fun _ => ⟨501, _, rfl, rfl⟩), trivial⟩) rfl) trivial rfl ?_
 refine .q (op_assign rfl) trivial rfl ?_
 refine .nil ?_
 show Ev _ _ _ _ _
 refine .ret ?_
 show RetOk _ _ _ _ _ _ _
 exact ret1v rfl (.inl rfl) rfl rfl ⟨(by first | rfl | (simp only [List.append_assoc, Nat.add_assoc, textB, bigB]; rfl)), (by first | rfl | (simp only [List.append_assoc, Nat.add_assoc, textB, bigB]; rfl)), trivial⟩
set_option maxRecDepth 100000 in
theorem text0_ev (s : List UInt8) (hs : s.length ≤ 100000000) : Meets Tryd.prog 19 [.ptr 500 0, .str s] [(500, some ⟨.agg [.val (.pointer none), .nilsl], 29, true⟩)] (.ptr 500 0) [(500, some ⟨.agg [.ptr 500 0, .sl 1008 0 ((4 + s.length)) 1], 29, true⟩), (1008, some ⟨.aggB (textB s), 5, true⟩)] := by
 refine meets_of_ev (nt := 12) Tryd.func19 rfl rfl (Nat.le_of_ble_eq_true rfl) ?_
 refine .seq ?_
 refine .region ?_
 refine .q (op_assign rfl) trivial rfl ?_
 refine .nil ?_
 show Ev _ _ _ _ _
 refine .seq ?_
 refine .region ?_
 refine .q (op_move rfl) trivial rfl ?_
 refine .q (op_move rfl) trivial rfl ?_
 refine .q (op_len_str Tryd.underlying9 rfl) trivial rfl ?_
 refine .q (op_conv Tryd.underlying3 Tryd.underlying39 rfl rfl) trivial rfl ?_
 refine .a (op_call (U := [(500, some ⟨.agg [.ptr 500 0, .sl 1000 0 (4) 1], 29, true⟩), (1000, some ⟨.aggB (lenB s), 5, true⟩)]) [(500, 500)] [(1000, 1000)] (u320_ev (ofI32 (s.length : Int))) Tryd.func11 (by kernel_rfl) rfl rfl rfl (⟨⟨_, rfl, rfl, rfl⟩, ⟨_, rfl, rfl, rfl⟩, trivial⟩) (⟨⟨_, _, rfl, rfl, rfl, rfl, id, rfl⟩, trivial⟩) (⟨⟨500, _, rfl, rfl, rfl, rfl, .inr ⟨rfl, _, rfl, rfl⟩⟩, ⟨1000, _, rfl, rfl, rfl, rfl, .inl rfl⟩, trivial⟩) (⟨(fun _ => ⟨500, _, rfl, rfl⟩), trivial⟩) rfl) trivial rfl ?_
 refine .q (op_move rfl) trivial rfl ?_
 refine .a (op_call (U := [(500, some ⟨.agg [.ptr 500 0, .sl 1008 0 (4 + s.length) 1], 29, true⟩), (1008, some ⟨.aggB ((lenB s) ++ s), 5, true⟩), (1000, none)]) [(500, 500), (501, 1000)] [(1008, 1000)] (raw2_ev s (by omega) ((lenB s)) (4) (by first | exact hn | (simp [length_lenB]; done) | (simp [length_numB, length_lenB, length_textB]; omega) | omega | decide +kernel) (by omega)) Tryd.func14 (by kernel_rfl) rfl rfl rfl (⟨⟨_, rfl, rfl, rfl⟩, ⟨_, rfl, rfl, rfl⟩, trivial⟩) (⟨⟨_, _, rfl, rfl, rfl, rfl, id, rfl⟩, ⟨_, _, rfl, rfl, rfl, rfl, id, rfl⟩, trivial⟩) (⟨⟨500, _, rfl, rfl, rfl, rfl, .inr ⟨rfl, _, rfl, rfl⟩⟩, ⟨1000, _, rfl, rfl, rfl, rfl, .inl rfl⟩, trivial⟩) (⟨(fun _ => ⟨500, _, rfl, rfl⟩), (fun _ => ⟨1000, _, rfl, rfl⟩), trivial⟩) rfl) trivial rfl ?_
 refine .q (op_assign rfl) trivial rfl ?_
 refine .nil ?_
 show Ev _ _ _ _ _
 refine .ret ?_
 show RetOk _ _ _ _ _ _ _
 exact ret1v rfl (.inl rfl) rfl rfl ⟨(by first | rfl | (simp only [List.append_assoc, Nat.add_assoc, textB, bigB]; rfl)), (by first | rfl | (simp only [List.append_assoc, Nat.add_assoc, textB, bigB]; rfl)), trivial⟩
set_option maxRecDepth 100000 in
theorem text1_ev (s : List UInt8) (hs : s.length ≤ 100000000) : Meets Tryd.prog 19 [.ptr 500 0, .str s] [(500, some ⟨.agg [.ptr 500 0, .nilsl], 29, true⟩)] (.ptr 500 0) [(500, some ⟨.agg [.ptr 500 0, .sl 1008 0 ((4 + s.length)) 1], 29, true⟩), (1008, some ⟨.aggB (textB s), 5, true⟩)] := by
 refine meets_of_ev (nt := 12) Tryd.func19 rfl rfl (Nat.le_of_ble_eq_true rfl) ?_
 refine .seq ?_
 refine .region ?_
 refine .q (op_assign rfl) trivial rfl ?_
 refine .nil ?_
 show Ev _ _ _ _ _
 refine .seq ?_
 refine .region ?_
 refine .q (op_move rfl) trivial rfl ?_
 refine .q (op_move rfl) trivial rfl ?_
 refine .q (op_len_str Tryd.underlying9 rfl) trivial rfl ?_
 refine .q (op_conv Tryd.underlying3 Tryd.underlying39 rfl rfl) trivial rfl ?_
 refine .a (op_call (U := [(500, some ⟨.agg [.ptr 500 0, .sl 1000 0 (4) 1], 29, true⟩), (1000, some ⟨.aggB (lenB s), 5, true⟩)]) [(500, 500)] [(1000, 1000)] (u321_ev (ofI32 (s.length : Int))) Tryd.func11 (by kernel_rfl) rfl rfl rfl (⟨⟨_, rfl, rfl, rfl⟩, ⟨_, rfl, rfl, rfl⟩, trivial⟩) (⟨⟨_, _, rfl, rfl, rfl, rfl, id, rfl⟩, trivial⟩) (⟨⟨500, _, rfl, rfl, rfl, rfl, .inr ⟨rfl, _, rfl, rfl⟩⟩, ⟨1000, _, rfl, rfl, rfl, rfl, .inl rfl⟩, trivial⟩) (⟨(fun _ => ⟨500, _, rfl, rfl⟩), trivial⟩) rfl) trivial rfl ?_
 refine .q (op_move rfl) trivial rfl ?_
 refine .a (op_call (U := [(500, some ⟨.agg [.ptr 500 0, .sl 1008 0 (4 + s.length) 1], 29, true⟩), (1008, some ⟨.aggB ((lenB s) ++ s), 5, true⟩), (1000, none)]) [(500, 500), (501, 1000)] [(1008, 1000)] (raw2_ev s (by omega) ((lenB s)) (4) (by first | exact hn | (simp [length_lenB]; done) | (simp [length_numB, length_lenB, length_textB]; omega) | omega | decide +kernel) (by omega)) Tryd.func14 (by kernel_rfl) rfl rfl rfl (⟨⟨_, rfl, rfl, rfl⟩, ⟨_, rfl, rfl, rfl⟩, trivial⟩) (⟨⟨_, _, rfl, rfl, rfl, rfl, id, rfl⟩, ⟨_, _, rfl, rfl, rfl, rfl, id, rfl⟩, trivial⟩) (⟨⟨500, _, rfl, rfl, rfl, rfl, .inr ⟨rfl, _, rfl, rfl⟩⟩, ⟨1000, _, rfl, rfl, rfl, rfl, .inl rfl⟩, trivial⟩) (⟨(fun _ => ⟨500, _, rfl, rfl⟩), (fun _ => ⟨1000, _, rfl, rfl⟩), trivial⟩) rfl) trivial rfl ?_
 refine .q (op_assign rfl) trivial rfl ?_
 refine .nil ?_
 show Ev _ _ _ _ _
 refine .ret ?_
 show RetOk _ _ _ _ _ _ _
 exact ret1v rfl (.inl rfl) rfl rfl ⟨(by first | rfl | (simp only [List.append_assoc, Nat.add_assoc, textB, bigB]; rfl)), (by first | rfl | (simp only [List.append_assoc, Nat.add_assoc, textB, bigB]; rfl)), trivial⟩
set_option maxRecDepth 100000 in
theorem text2_ev (s : List UInt8) (hs : s.length ≤ 100000000) (l : List UInt8) (n : Nat) (hn : n = l.length) (h : n ≤ 600000000) : Meets Tryd.prog 19 [.ptr 500 0, .str s] [(500, some ⟨.agg [.ptr 500 0, .sl 501 0 (n) 1], 29, true⟩), (501, some ⟨.aggB l, 5, true⟩)] (.ptr 500 0) [(500, some ⟨.agg [.ptr 500 0, .sl 1008 0 (n + (4 + s.length)) 1], 29, true⟩), (1008, some ⟨.aggB (l ++ textB s), 5, true⟩)] := by
 refine meets_of_ev (nt := 12) Tryd.func19 rfl rfl (Nat.le_of_ble_eq_true rfl) ?_
 refine .seq ?_
 refine .region ?_
 refine .q (op_assign rfl) trivial rfl ?_
 refine .nil ?_
 show Ev _ _ _ _ _
 refine .seq ?_
 refine .region ?_
 refine .q (op_move rfl) trivial rfl ?_
 refine .q (op_move rfl) trivial rfl ?_
 refine .q (op_len_str Tryd.underlying9 rfl) trivial rfl ?_
 refine .q (op_conv Tryd.underlying3 Tryd.underlying39 rfl rfl) trivial rfl ?_
 refine .a (op_call (U := [(500, some ⟨.agg [.ptr 500 0, .sl 1000 0 (n + 4) 1], 29, true⟩), (1000, some ⟨.aggB (l ++ lenB s), 5, true⟩), (501, none)]) [(500, 500), (501, 501)] [(1000, 1000)] (u322_ev (ofI32 (s.length : Int)) (l) (n) (by first | exact hn | (simp [length_numB, length_lenB, length_textB]; done) | (simp [length_numB, length_lenB, length_textB]; omega) | omega | decide +kernel) (by omega)) Tryd.func11 (by kernel_rfl) rfl rfl rfl (⟨⟨_, rfl, rfl, rfl⟩, ⟨_, rfl, rfl, rfl⟩, trivial⟩) (⟨⟨_, _, rfl, rfl, rfl, rfl, id, rfl⟩, ⟨_, _, rfl, rfl, rfl, rfl, id, rfl⟩, trivial⟩) (⟨⟨500, _, rfl, rfl, rfl, rfl, .inr ⟨rfl, _, rfl, rfl⟩⟩, ⟨1000, _, rfl, rfl, rfl, rfl, .inl rfl⟩, trivial⟩) (⟨(fun _ => ⟨500, _, rfl, rfl⟩), (fun _ => ⟨501, _, rfl, rfl⟩), trivial⟩) rfl) trivial rfl ?_
 refine .q (op_move rfl) trivial rfl ?_
 refine .a (op_call (U := [(500, some ⟨.agg [.ptr 500 0, .sl 1008 0 (n + 4 + s.length) 1], 29, true⟩), (1008, some ⟨.aggB ((l ++ lenB s) ++ s), 5, true⟩), (1000, none)]) [(500, 500), (501, 1000)] [(1008, 1000)] (raw2_ev s (by omega) ((l ++ lenB s)) (n + 4) (by first | exact hn | (simp [length_lenB]; done) | (simp [length_lenB]; omega) | omega | decide +kernel) (by omega)) Tryd.func14 (by kernel_rfl) rfl rfl rfl (⟨⟨_, rfl, rfl, rfl⟩, ⟨_, rfl, rfl, rfl⟩, trivial⟩) (⟨⟨_, _, rfl, rfl, rfl, rfl, id, rfl⟩, ⟨_, _, rfl, rfl, rfl, rfl, id, rfl⟩, trivial⟩) (⟨⟨500, _, rfl, rfl, rfl, rfl, .inr ⟨rfl, _, rfl, rfl⟩⟩, ⟨1000, _, rfl, rfl, rfl, rfl, .inl rfl⟩, trivial⟩) (⟨(fun _ => ⟨500, _, rfl, rfl⟩), (fun _ => ⟨1000, _, rfl, rfl⟩), trivial⟩) rfl) trivial rfl ?_
 refine .q (op_assign rfl) trivial rfl ?_
 refine .nil ?_
 show Ev _ _ _ _ _
 refine .ret ?_
 show RetOk _ _ _ _ _ _ _
 exact ret1v rfl (.inl rfl) rfl rfl ⟨(by first | rfl | (simp only [List.append_assoc, Nat.add_assoc]; rfl)), (by first | rfl | (simp only [List.append_assoc, Nat.add_assoc, textB]; rfl)), trivial⟩
end Go.Proofs.YtoigppbkfhfllaaDoor
namespace Go.Proofs.YtoigppbkfhfllaaDoor
open Go.RowKit
set_option maxRecDepth 100000 in
theorem fail0_ev (r : List UInt8) (_k x : Nat) (eo : Nat → Nat × Nat) : Meets Tryd.prog 52 [.ptr 500 0, .err 161 (x) (offE eo (x))] [(500, some ⟨.agg [.str (DI.mk r (0)).r, .err 161 ((DI.mk r (0)).e) (offE eo ((DI.mk r (0)).e))], 82, true⟩)] (.str []) [(500, some ⟨.agg [.str (DI.mk [] (orE (0) x)).r, .err 161 ((DI.mk [] (orE (0) x)).e) (offE eo ((DI.mk [] (orE (0) x)).e))], 82, true⟩)] := by
 refine meets_of_ev (nt := 17) Tryd.func52 rfl rfl (Nat.le_of_ble_eq_true rfl) ?_
 refine .seq ?_
 refine .region ?_
 refine .q (op_assign rfl) trivial rfl ?_
 refine .nil ?_
 show Ev _ _ _ _ _
 refine .seq ?_
 refine .seq ?_
 refine .region ?_
 refine .q (op_move rfl) trivial rfl ?_
 refine .q (op_nilCheck rfl) trivial rfl ?_
 refine .q (op_fieldAddr (m := 0) Tryd.underlying82 rfl (by kernel_rfl) rfl) trivial rfl ?_
 refine .as (.ptr 500 1) rfl ?_
 refine .q (op_load Tryd.underlying56 rfl rfl rfl rfl (by first | omega | (simp only [AV.len]; omega) | (simp only [AV.len]; omega) | assumption | (simp [AV.len]; done))) trivial rfl ?_
 refine .q (op_eqErrNil (e := 0) Tryd.underlying56 rfl rfl) trivial rfl ?_
 refine .nil ?_
 show Ev _ _ _ _ _
 refine .cond_true rfl (rfl) ?_
 refine .region ?_
 refine .q (op_move rfl) trivial rfl ?_
 refine .q (op_move rfl) trivial rfl ?_
 refine .q (op_nilCheck rfl) trivial rfl ?_
 refine .q (op_fieldAddr (m := 0) Tryd.underlying82 rfl (by kernel_rfl) rfl) trivial rfl ?_
 refine .as (.ptr 500 1) rfl ?_
 refine .w (op_store (by kernel_rfl) rfl rfl rfl rfl rfl (by first | omega | (simp only [AV.len]; omega) | (simp only [AV.len]; omega) | assumption | (simp [AV.len]; done))) trivial rfl ?_
 refine .nil ?_
 show Ev _ _ _ _ _
 refine .seq ?_
 refine .region ?_
 refine .q (op_move rfl) trivial rfl ?_
 refine .q (op_nilCheck rfl) trivial rfl ?_
 refine .q (op_fieldAddr (m := 0) Tryd.underlying82 rfl (by kernel_rfl) rfl) trivial rfl ?_
 refine .as (.ptr 500 0) rfl ?_
 refine .w (op_store inf9.sz rfl rfl rfl rfl rfl (by first | omega | (simp only [AV.len]; omega) | (simp only [AV.len, List.length_set]; omega) | assumption | (simp [AV.len]; done))) trivial rfl ?_
 refine .nil ?_
 show Ev _ _ _ _ _
 refine .seq ?_
 refine .region ?_
 refine .q (op_assign rfl) trivial rfl ?_
 refine .nil ?_
 show Ev _ _ _ _ _
 refine .ret ?_
 show RetOk _ _ _ _ _ _ _
 exact ret1v rfl (.inl rfl) rfl rfl ⟨rfl, trivial⟩
set_option maxRecDepth 100000 in
theorem fail1_ev (r : List UInt8) (k x : Nat) (eo : Nat → Nat × Nat) : Meets Tryd.prog 52 [.ptr 500 0, .err 161 (x) (offE eo (x))] [(500, some ⟨.agg [.str (DI.mk r (k + 1)).r, .err 161 ((DI.mk r (k + 1)).e) (offE eo ((DI.mk r (k + 1)).e))], 82, true⟩)] (.str []) [(500, some ⟨.agg [.str (DI.mk [] (orE (k + 1) x)).r, .err 161 ((DI.mk [] (orE (k + 1) x)).e) (offE eo ((DI.mk [] (orE (k + 1) x)).e))], 82, true⟩)] := by
 refine meets_of_ev (nt := 17) Tryd.func52 rfl rfl (Nat.le_of_ble_eq_true rfl) ?_
 refine .seq ?_
 refine .region ?_
 refine .q (op_assign rfl) trivial rfl ?_
 refine .nil ?_
 show Ev _ _ _ _ _
 refine .seq ?_
 refine .seq ?_
 refine .region ?_
 refine .q (op_move rfl) trivial rfl ?_
 refine .q (op_nilCheck rfl) trivial rfl ?_
 refine .q (op_fieldAddr (m := 0) Tryd.underlying82 rfl (by kernel_rfl) rfl) trivial rfl ?_
 refine .as (.ptr 500 1) rfl ?_
 refine .q (op_load Tryd.underlying56 rfl rfl rfl rfl (by first | omega | (simp only [AV.len]; omega) | (simp only [AV.len]; omega) | assumption | (simp [AV.len]; done))) trivial rfl ?_
 refine .q (op_eqErrNil (e := k + 1) Tryd.underlying56 rfl rfl) trivial rfl ?_
 refine .nil ?_
 show Ev _ _ _ _ _
 refine .cond_false rfl (rfl) ?_
 refine .skip ?_
 show Ev _ _ _ _ _
 refine .seq ?_
 refine .region ?_
 refine .q (op_move rfl) trivial rfl ?_
 refine .q (op_nilCheck rfl) trivial rfl ?_
 refine .q (op_fieldAddr (m := 0) Tryd.underlying82 rfl (by kernel_rfl) rfl) trivial rfl ?_
 refine .as (.ptr 500 0) rfl ?_
 refine .w (op_store inf9.sz rfl rfl rfl rfl rfl (by first | omega | (simp only [AV.len]; omega) | (simp only [AV.len]; omega) | assumption | (simp [AV.len]; done))) trivial rfl ?_
 refine .nil ?_
 show Ev _ _ _ _ _
 refine .seq ?_
 refine .region ?_
 refine .q (op_assign rfl) trivial rfl ?_
 refine .nil ?_
 show Ev _ _ _ _ _
 refine .ret ?_
 show RetOk _ _ _ _ _ _ _
 exact ret1v rfl (.inl rfl) rfl rfl ⟨rfl, trivial⟩
theorem fail_ev (i : DI) (x : Nat) (eo : Nat → Nat × Nat) : Meets Tryd.prog 52 [.ptr 500 0, .err 161 (x) (offE eo (x))] [(500, some ⟨.agg [.str (i).r, .err 161 ((i).e) (offE eo ((i).e))], 82, true⟩)] (.str []) [(500, some ⟨.agg [.str (failD i x).r, .err 161 ((failD i x).e) (offE eo ((failD i x).e))], 82, true⟩)] := by
 obtain ⟨r, e⟩ := i
 cases e with
 | zero => exact fail0_ev r 0 x eo
 | succ k => exact fail1_ev r k x eo
set_option maxRecDepth 100000 in
theorem raw_ok (i : DI) (j : Int) (h : j.toNat ≤ i.r.length) (eo : Nat → Nat × Nat) : Meets Tryd.prog 53 [.ptr 500 0, .i64 j] [(500, some ⟨.agg [.str (i).r, .err 161 ((i).e) (offE eo ((i).e))], 82, true⟩), (3, some ⟨.agg [.err 161 (2) (offE eo (2))], errT, false⟩)] (.str (i.r.take j.toNat)) [(500, some ⟨.agg [.str (DI.mk (i.r.drop j.toNat) i.e).r, .err 161 ((DI.mk (i.r.drop j.toNat) i.e).e) (offE eo ((DI.mk (i.r.drop j.toNat) i.e).e))], 82, true⟩)] := by
 refine meets_of_ev (nt := 34) Tryd.func53 rfl rfl (Nat.le_of_ble_eq_true rfl) ?_
 refine .seq ?_
 refine .region ?_
 refine .q (op_assign rfl) trivial rfl ?_
 refine .nil ?_
 show Ev _ _ _ _ _
 refine .seq ?_
 refine .region ?_
 refine .q (op_move rfl) trivial rfl ?_
 refine .q (op_maxI rfl rfl) trivial rfl ?_
 refine .as (.i64 ((j.toNat : Nat) : Int)) (congrArg AV.i64 (by omega)) ?_
 refine .q (op_assign rfl) trivial rfl ?_
 refine .nil ?_
 show Ev _ _ _ _ _
 refine .seq ?_
 refine .seq ?_
 refine .region ?_
 refine .q (op_move rfl) trivial rfl ?_
 refine .q (op_move rfl) trivial rfl ?_
 refine .q (op_nilCheck rfl) trivial rfl ?_
 refine .q (op_fieldAddr (m := 0) Tryd.underlying82 rfl (by kernel_rfl) rfl) trivial rfl ?_
 refine .as (.ptr 500 0) rfl ?_
 refine .q (op_load Tryd.underlying9 rfl rfl rfl rfl (by first | omega | (simp only [AV.len]; omega) | (simp only [AV.len]; omega) | assumption | (simp [AV.len]; done))) trivial rfl ?_
 refine .q (op_len_str Tryd.underlying9 rfl) trivial rfl ?_
 refine .q (op_cmpI rfl rfl rfl) trivial rfl ?_
 refine .nil ?_
 show Ev _ _ _ _ _
 refine .cond_false rfl (decide_eq_false (by omega)) ?_
 refine .skip ?_
 show Ev _ _ _ _ _
 refine .seq ?_
 refine .region ?_
 refine .q (op_move rfl) trivial rfl ?_
 refine .q (op_nilCheck rfl) trivial rfl ?_
 refine .q (op_fieldAddr (m := 0) Tryd.underlying82 rfl (by kernel_rfl) rfl) trivial rfl ?_
 refine .as (.ptr 500 0) rfl ?_
 refine .q (op_load Tryd.underlying9 rfl rfl rfl rfl (by first | omega | (simp only [AV.len]; omega) | (simp only [AV.len]; omega) | assumption | (simp [AV.len]; done))) trivial rfl ?_
 refine .q (op_move rfl) trivial rfl ?_
 refine .q (ap_slice_str_hi Tryd.underlying9 rfl (bnd_some rfl rfl) (h)) trivial rfl ?_
 refine .q (op_assign rfl) trivial rfl ?_
 refine .nil ?_
 show Ev _ _ _ _ _
 refine .seq ?_
 refine .region ?_
 refine .q (op_move rfl) trivial rfl ?_
 refine .q (op_move rfl) trivial rfl ?_
 refine .q (op_nilCheck rfl) trivial rfl ?_
 refine .q (op_fieldAddr (m := 0) Tryd.underlying82 rfl (by kernel_rfl) rfl) trivial rfl ?_
 refine .as (.ptr 500 0) rfl ?_
 refine .q (op_load Tryd.underlying9 rfl rfl rfl rfl (by first | omega | (simp only [AV.len]; omega) | (simp only [AV.len]; omega) | assumption | (simp [AV.len]; done))) trivial rfl ?_
 refine .q (op_move rfl) trivial rfl ?_
 refine .q (ap_slice_str_lo Tryd.underlying9 rfl (bnd_some rfl rfl) (h)) trivial rfl ?_
 refine .q (op_nilCheck rfl) trivial rfl ?_
 refine .q (op_fieldAddr (m := 0) Tryd.underlying82 rfl (by kernel_rfl) rfl) trivial rfl ?_
 refine .as (.ptr 500 0) rfl ?_
 refine .w (op_store inf9.sz rfl rfl rfl rfl rfl (by first | omega | (simp only [AV.len]; omega) | (simp only [AV.len]; omega) | assumption | (simp [AV.len]; done))) trivial rfl ?_
 refine .nil ?_
 show Ev _ _ _ _ _
 refine .seq ?_
 refine .region ?_
 refine .q (op_move rfl) trivial rfl ?_
 refine .q (op_assign rfl) trivial rfl ?_
 refine .nil ?_
 show Ev _ _ _ _ _
 refine .ret ?_
 show RetOk _ _ _ _ _ _ _
 exact ret1v rfl (.inl rfl) rfl rfl ⟨rfl, trivial⟩
set_option maxRecDepth 100000 in
theorem raw_bad (i : DI) (j : Int) (h : ¬ j.toNat ≤ i.r.length) (eo : Nat → Nat × Nat) : Meets Tryd.prog 53 [.ptr 500 0, .i64 j] [(500, some ⟨.agg [.str (i).r, .err 161 ((i).e) (offE eo ((i).e))], 82, true⟩), (3, some ⟨.agg [.err 161 (2) (offE eo (2))], errT, false⟩)] (.str []) [(500, some ⟨.agg [.str (failD i 2).r, .err 161 ((failD i 2).e) (offE eo ((failD i 2).e))], 82, true⟩)] := by
 refine meets_of_ev (nt := 34) Tryd.func53 rfl rfl (Nat.le_of_ble_eq_true rfl) ?_
 refine .seq ?_
 refine .region ?_
 refine .q (op_assign rfl) trivial rfl ?_
 refine .nil ?_
 show Ev _ _ _ _ _
 refine .seq ?_
 refine .region ?_
 refine .q (op_move rfl) trivial rfl ?_
 refine .q (op_maxI rfl rfl) trivial rfl ?_
 refine .as (.i64 ((j.toNat : Nat) : Int)) (congrArg AV.i64 (by omega)) ?_
 refine .q (op_assign rfl) trivial rfl ?_
 refine .nil ?_
 show Ev _ _ _ _ _
 refine .seq ?_
 refine .seq ?_
 refine .region ?_
 refine .q (op_move rfl) trivial rfl ?_
 refine .q (op_move rfl) trivial rfl ?_
 refine .q (op_nilCheck rfl) trivial rfl ?_
 refine .q (op_fieldAddr (m := 0) Tryd.underlying82 rfl (by kernel_rfl) rfl) trivial rfl ?_
 refine .as (.ptr 500 0) rfl ?_
 refine .q (op_load Tryd.underlying9 rfl rfl rfl rfl (by first | omega | (simp only [AV.len]; omega) | (simp only [AV.len]; omega) | assumption | (simp [AV.len]; done))) trivial rfl ?_
 refine .q (op_len_str Tryd.underlying9 rfl) trivial rfl ?_
 refine .q (op_cmpI rfl rfl rfl) trivial rfl ?_
 refine .nil ?_
 show Ev _ _ _ _ _
 refine .cond_true rfl (decide_eq_true (by omega)) ?_
 refine .seq ?_
 refine .region ?_
 refine .q (op_move rfl) trivial rfl ?_
 refine .q (op_load Tryd.underlying56 rfl rfl rfl rfl (by first | omega | (simp only [AV.len]; omega) | (simp only [AV.len]; omega) | assumption | (simp [AV.len]; done))) trivial rfl ?_
 refine .a (op_call (U := [(500, some ⟨.agg [.str (failD i 2).r, .err 161 ((failD i 2).e) (offE eo ((failD i 2).e))], 82, true⟩)]) [(500, 500)] [] (fail_ev i 2 eo) Tryd.func52 (by kernel_rfl) rfl rfl rfl (⟨⟨_, rfl, rfl, rfl⟩, ⟨_, rfl, rfl, rfl⟩, trivial⟩) (⟨⟨_, _, rfl, rfl, rfl, rfl, id, rfl⟩, trivial⟩) (⟨⟨500, _, rfl, rfl, rfl, rfl, .inr ⟨rfl, _, rfl, rfl⟩⟩, trivial⟩) (⟨(fun _ => ⟨500, _, rfl, rfl⟩), trivial⟩) rfl) trivial rfl ?_
 refine .q (op_assign rfl) trivial rfl ?_
 refine .nil ?_
 show Ev _ _ _ _ _
 refine .ret ?_
 show RetOk _ _ _ _ _ _ _
 exact ret1v rfl (.inl rfl) rfl rfl ⟨rfl, trivial⟩
theorem raw_ev (i : DI) (j : Int) (eo : Nat → Nat × Nat) : Meets Tryd.prog 53 [.ptr 500 0, .i64 j] [(500, some ⟨.agg [.str (i).r, .err 161 ((i).e) (offE eo ((i).e))], 82, true⟩), (3, some ⟨.agg [.err 161 (2) (offE eo (2))], errT, false⟩)] (.str (rawD i j.toNat).2) [(500, some ⟨.agg [.str ((rawD i j.toNat).1).r, .err 161 (((rawD i j.toNat).1).e) (offE eo (((rawD i j.toNat).1).e))], 82, true⟩)] := by
 by_cases h : j.toNat ≤ i.r.length
 ·rw [show rawD i j.toNat = (⟨i.r.drop j.toNat, i.e⟩, i.r.take j.toNat) from if_pos h]; exact raw_ok i j h eo
 ·rw [show rawD i j.toNat = (failD i 2, []) from if_neg h]; exact raw_bad i j h eo
set_option maxRecDepth 100000 in
theorem num_ev (i : DI) (k : Nat) (hk : k ≤ 8) (eo : Nat → Nat × Nat) : Meets Tryd.prog 50 [.ptr 500 0, .i64 (k : Int)] [(500, some ⟨.agg [.str (i).r, .err 161 ((i).e) (offE eo ((i).e))], 82, true⟩), (3, some ⟨.agg [.err 161 (2) (offE eo (2))], errT, false⟩)] (.u64 (numD i k).2) [(500, some ⟨.agg [.str ((numD i k).1).r, .err 161 (((numD i k).1).e) (offE eo (((numD i k).1).e))], 82, true⟩)] := by
 have hS : (rawD i k).2.length ≤ 8 := by rcases rawD_length i k with h | h <;> simp [h] <;> omega
 refine meets_of_ev (nt := 25) Tryd.func50 rfl rfl (Nat.le_of_ble_eq_true rfl) ?_
 refine .seq ?_
 refine .region ?_
 refine .q (op_assign rfl) trivial rfl ?_
 refine .nil ?_
 show Ev _ _ _ _ _
 refine .seq ?_
 refine .region ?_
 refine .q (op_move rfl) trivial rfl ?_
 refine .q (op_move rfl) trivial rfl ?_
 refine .a (op_call (U := [(500, some ⟨.agg [.str ((rawD i k).1).r, .err 161 (((rawD i k).1).e) (offE eo (((rawD i k).1).e))], 82, true⟩)]) [(500, 500)] [] (raw_ev i (k : Int) eo) Tryd.func53 (by kernel_rfl) rfl rfl rfl (⟨⟨_, rfl, rfl, rfl⟩, ⟨_, rfl, rfl, rfl⟩, trivial⟩) (⟨⟨_, _, rfl, rfl, rfl, rfl, id, rfl⟩, ⟨_, _, rfl, rfl, rfl, rfl, (fun h => by cases h), rfl⟩, trivial⟩) (⟨⟨500, _, rfl, rfl, rfl, rfl, .inr ⟨rfl, _, rfl, rfl⟩⟩, trivial⟩) (⟨(fun _ => ⟨500, _, rfl, rfl⟩), (fun h => by cases h), trivial⟩) rfl) trivial rfl ?_
 refine .q (op_assign rfl) trivial rfl ?_
 refine .q (op_assign rfl) trivial rfl ?_
 refine .nil ?_
 show Ev _ _ _ _ _
 refine .seq ?_
 refine .seq ?_
 refine .region ?_
 refine .q (op_move rfl) trivial rfl ?_
 refine .q (op_len_str Tryd.underlying9 rfl) trivial rfl ?_
 refine .q (op_move rfl) trivial rfl ?_
 refine .nil ?_
 show Ev _ _ _ _ _
 refine .block ?_
 refine Ev.loop (ι := { j : Nat // j ≤ (rawD i k).2.length }) (fun j => ⟨[(5, .str (rawD i k).2), (6, .u64 (numL (rawD i k).2 j.1)), (12, .i64 ((rawD i k).2.length : Int)), (13, .i64 ((j.1 : Nat) : Int))], [(500, some ⟨.agg [.str ((rawD i k).1).r, .err 161 (((rawD i k).1).e) (offE eo (((rawD i k).1).e))], 82, true⟩)], 1000⟩) (fun j => (rawD i k).2.length - j.1) ⟨0, Nat.zero_le _⟩ (StLe.mk [] rfl rfl ⟨⟨_, rfl, by first | rfl | (simp only [AV.ren]; congr 1; omega), rfl⟩, ⟨_, rfl, by first | rfl | (simp only [AV.ren]; congr 1; omega), rfl⟩, ⟨_, rfl, by first | rfl | (simp only [AV.ren]; congr 1; omega), rfl⟩, ⟨_, rfl, by first | rfl | (simp only [AV.ren]; congr 1; omega), rfl⟩, trivial⟩ ⟨⟨_, _, rfl, rfl, by first | rfl | (simp only [AV.ren]; congr 1; omega), rfl, id, rfl⟩, trivial⟩) ?_
 rintro ⟨j, hj⟩
 dsimp only
 refine .seq ?_
 refine .region ?_
 refine .q (op_cmpI rfl rfl rfl) trivial rfl ?_
 refine .nil ?_
 show Ev _ _ _ _ _
 refine .seq ?_
 refine .cond rfl (fun hc14 => ?_) (fun hc14 => ?_)
 ·simp only [decide_eq_true_eq] at hc14
  refine .skip ?_
  show Ev _ _ _ _ _
  refine .seq ?_
  refine .block ?_
  refine .seq ?_
  refine .region ?_
  refine .q (op_move rfl) trivial rfl ?_
  refine .q (op_assign rfl) trivial rfl ?_
  refine .nil ?_
  show Ev _ _ _ _ _
  refine .region ?_
  refine .q (op_move rfl) trivial rfl ?_
  refine .q (op_shl64 (n := 8) rfl rfl rfl (by first | omega | (simp only [AV.len]; omega) | (simp only [AV.len, List.length_set]; omega) | assumption | (simp [AV.len]; done))) trivial rfl ?_
  refine .q (op_move rfl) trivial rfl ?_
  refine .q (op_move rfl) trivial rfl ?_
  refine .q (op_index_str Tryd.underlying9 rfl rfl rfl (by first | omega | (simp only [AV.len]; omega) | (simp only [AV.len, List.length_set]; omega) | assumption | (simp [AV.len]; done))) trivial rfl ?_
  refine .q (op_conv Tryd.underlying5 Tryd.underlying30 rfl rfl) trivial rfl ?_
  refine .q (op_bin64 rfl rfl rfl) trivial rfl ?_
  refine .q (op_assign rfl) trivial rfl ?_
  refine .nil ?_
  show Ev _ _ _ _ _
  refine .region ?_
  refine .q (op_addI rfl rfl ⟨by omega, by omega⟩) trivial rfl ?_
  refine .q (op_move rfl) trivial rfl ?_
  refine .nil ?_
  exact ⟨⟨j + 1, by omega⟩, by show (rawD i k).2.length - (j + 1) < (rawD i k).2.length - j; omega, StLe.mk [] rfl rfl ⟨⟨_, rfl, by first | rfl | (simp only [AV.ren]; congr 1; omega), rfl⟩, ⟨_, rfl, by first | rfl | (simp only [AV.ren]; congr 1; omega), rfl⟩, ⟨_, rfl, by first | rfl | (simp only [AV.ren]; congr 1; omega), rfl⟩, ⟨_, rfl, by first | rfl | (simp only [AV.ren]; congr 1; omega), rfl⟩, trivial⟩ ⟨⟨_, _, rfl, rfl, by first | rfl | (simp only [AV.ren]; congr 1; omega), rfl, id, rfl⟩, trivial⟩⟩
 ·simp only [decide_eq_false_iff_not] at hc14
  refine .exit ?_
  show Ev _ _ _ _ _
  have ej : j = (rawD i k).2.length := by omega
  refine Ev.weak (st2 := ⟨[(5, .str (rawD i k).2), (6, .u64 (numL (rawD i k).2 ((rawD i k).2.length))), (12, .i64 ((rawD i k).2.length : Int)), (13, .i64 ((((rawD i k).2.length) : Nat) : Int))], [(500, some ⟨.agg [.str ((rawD i k).1).r, .err 161 (((rawD i k).1).e) (offE eo (((rawD i k).1).e))], 82, true⟩)], 1000⟩) (StLe.mk [] rfl rfl ⟨⟨_, rfl, by first | (simp only [AV.ren]; done) | (simp only [AV.ren]; rw [ej]; done) | rfl, rfl⟩, ⟨_, rfl, by first | (simp only [AV.ren]; done) | (simp only [AV.ren]; rw [ej]; done) | rfl, rfl⟩, ⟨_, rfl, by first | (simp only [AV.ren]; done) | (simp only [AV.ren]; rw [ej]; done) | rfl, rfl⟩, ⟨_, rfl, by first | (simp only [AV.ren]; done) | (simp only [AV.ren]; rw [ej]; done) | rfl, rfl⟩, trivial⟩ ⟨⟨_, _, rfl, rfl, by first | (simp only [AV.ren]; done) | (simp only [AV.ren]; rw [ej]; done) | rfl, rfl, id, rfl⟩, trivial⟩) ?_
  refine .seq ?_
  refine .region ?_
  refine .q (op_move rfl) trivial rfl ?_
  refine .q (op_assign rfl) trivial rfl ?_
  refine .nil ?_
  show Ev _ _ _ _ _
  refine .ret ?_
  show RetOk _ _ _ _ _ _ _
  exact ret1v rfl (.inl rfl) rfl rfl ⟨rfl, trivial⟩
set_option maxRecDepth 100000 in
theorem ibyte_ev (i : DI) (eo : Nat → Nat × Nat) : Meets Tryd.prog 56 [.ptr 500 0] [(500, some ⟨.agg [.str (i).r, .err 161 ((i).e) (offE eo ((i).e))], 82, true⟩), (3, some ⟨.agg [.err 161 (2) (offE eo (2))], errT, false⟩)] (.u8 (byteD i).2) [(500, some ⟨.agg [.str ((byteD i).1).r, .err 161 (((byteD i).1).e) (offE eo (((byteD i).1).e))], 82, true⟩)] := by
 refine meets_of_ev (nt := 6) Tryd.func56 rfl rfl (Nat.le_of_ble_eq_true rfl) ?_
 refine .seq ?_
 refine .region ?_
 refine .q (op_assign rfl) trivial rfl ?_
 refine .nil ?_
 show Ev _ _ _ _ _
 refine .seq ?_
 refine .region ?_
 refine .q (op_move rfl) trivial rfl ?_
 refine .a (op_call (U := [(500, some ⟨.agg [.str ((numD i 1).1).r, .err 161 (((numD i 1).1).e) (offE eo (((numD i 1).1).e))], 82, true⟩)]) [(500, 500)] [] (num_ev i 1 (by decide) eo) Tryd.func50 (by kernel_rfl) rfl rfl rfl (⟨⟨_, rfl, rfl, rfl⟩, ⟨_, rfl, rfl, rfl⟩, trivial⟩) (⟨⟨_, _, rfl, rfl, rfl, rfl, id, rfl⟩, ⟨_, _, rfl, rfl, rfl, rfl, (fun h => by cases h), rfl⟩, trivial⟩) (⟨⟨500, _, rfl, rfl, rfl, rfl, .inr ⟨rfl, _, rfl, rfl⟩⟩, trivial⟩) (⟨(fun _ => ⟨500, _, rfl, rfl⟩), (fun h => by cases h), trivial⟩) rfl) trivial rfl ?_
 refine .q (op_conv Tryd.underlying30 Tryd.underlying5 rfl rfl) trivial rfl ?_
 refine .q (op_assign rfl) trivial rfl ?_
 refine .nil ?_
 show Ev _ _ _ _ _
 refine .ret ?_
 show RetOk _ _ _ _ _ _ _
 exact ret1v rfl (.inl rfl) rfl rfl ⟨rfl, trivial⟩
set_option maxRecDepth 100000 in
theorem iu32_ev (i : DI) (eo : Nat → Nat × Nat) : Meets Tryd.prog 51 [.ptr 500 0] [(500, some ⟨.agg [.str (i).r, .err 161 ((i).e) (offE eo ((i).e))], 82, true⟩), (3, some ⟨.agg [.err 161 (2) (offE eo (2))], errT, false⟩)] (.u32 (u32D i).2) [(500, some ⟨.agg [.str ((u32D i).1).r, .err 161 (((u32D i).1).e) (offE eo (((u32D i).1).e))], 82, true⟩)] := by
 refine meets_of_ev (nt := 6) Tryd.func51 rfl rfl (Nat.le_of_ble_eq_true rfl) ?_
 refine .seq ?_
 refine .region ?_
 refine .q (op_assign rfl) trivial rfl ?_
 refine .nil ?_
 show Ev _ _ _ _ _
 refine .seq ?_
 refine .region ?_
 refine .q (op_move rfl) trivial rfl ?_
 refine .a (op_call (U := [(500, some ⟨.agg [.str ((numD i 4).1).r, .err 161 (((numD i 4).1).e) (offE eo (((numD i 4).1).e))], 82, true⟩)]) [(500, 500)] [] (num_ev i 4 (by decide) eo) Tryd.func50 (by kernel_rfl) rfl rfl rfl (⟨⟨_, rfl, rfl, rfl⟩, ⟨_, rfl, rfl, rfl⟩, trivial⟩) (⟨⟨_, _, rfl, rfl, rfl, rfl, id, rfl⟩, ⟨_, _, rfl, rfl, rfl, rfl, (fun h => by cases h), rfl⟩, trivial⟩) (⟨⟨500, _, rfl, rfl, rfl, rfl, .inr ⟨rfl, _, rfl, rfl⟩⟩, trivial⟩) (⟨(fun _ => ⟨500, _, rfl, rfl⟩), (fun h => by cases h), trivial⟩) rfl) trivial rfl ?_
 refine .q (op_conv Tryd.underlying30 Tryd.underlying39 rfl rfl) trivial rfl ?_
 refine .q (op_assign rfl) trivial rfl ?_
 refine .nil ?_
 show Ev _ _ _ _ _
 refine .ret ?_
 show RetOk _ _ _ _ _ _ _
 exact ret1v rfl (.inl rfl) rfl rfl ⟨rfl, trivial⟩
set_option maxRecDepth 100000 in
theorem iu64_ev (i : DI) (eo : Nat → Nat × Nat) : Meets Tryd.prog 24 [.ptr 500 0] [(500, some ⟨.agg [.str (i).r, .err 161 ((i).e) (offE eo ((i).e))], 82, true⟩), (3, some ⟨.agg [.err 161 (2) (offE eo (2))], errT, false⟩)] (.u64 (u64D i).2) [(500, some ⟨.agg [.str ((u64D i).1).r, .err 161 (((u64D i).1).e) (offE eo (((u64D i).1).e))], 82, true⟩)] := by
 refine meets_of_ev (nt := 5) Tryd.func24 rfl rfl (Nat.le_of_ble_eq_true rfl) ?_
 refine .seq ?_
 refine .region ?_
 refine .q (op_assign rfl) trivial rfl ?_
 refine .nil ?_
 show Ev _ _ _ _ _
 refine .seq ?_
 refine .region ?_
 refine .q (op_move rfl) trivial rfl ?_
 refine .a (op_call (U := [(500, some ⟨.agg [.str ((numD i 8).1).r, .err 161 (((numD i 8).1).e) (offE eo (((numD i 8).1).e))], 82, true⟩)]) [(500, 500)] [] (num_ev i 8 (by decide) eo) Tryd.func50 (by kernel_rfl) rfl rfl rfl (⟨⟨_, rfl, rfl, rfl⟩, ⟨_, rfl, rfl, rfl⟩, trivial⟩) (⟨⟨_, _, rfl, rfl, rfl, rfl, id, rfl⟩, ⟨_, _, rfl, rfl, rfl, rfl, (fun h => by cases h), rfl⟩, trivial⟩) (⟨⟨500, _, rfl, rfl, rfl, rfl, .inr ⟨rfl, _, rfl, rfl⟩⟩, trivial⟩) (⟨(fun _ => ⟨500, _, rfl, rfl⟩), (fun h => by cases h), trivial⟩) rfl) trivial rfl ?_
 refine .q (op_assign rfl) trivial rfl ?_
 refine .nil ?_
 show Ev _ _ _ _ _
 refine .ret ?_
 show RetOk _ _ _ _ _ _ _
 exact ret1v rfl (.inl rfl) rfl rfl ⟨rfl, trivial⟩
set_option maxRecDepth 100000 in
theorem ibool_ev (i : DI) (eo : Nat → Nat × Nat) : Meets Tryd.prog 29 [.ptr 500 0] [(500, some ⟨.agg [.str (i).r, .err 161 ((i).e) (offE eo ((i).e))], 82, true⟩), (3, some ⟨.agg [.err 161 (2) (offE eo (2))], errT, false⟩)] (.bool (boolD i).2) [(500, some ⟨.agg [.str ((boolD i).1).r, .err 161 (((boolD i).1).e) (offE eo (((boolD i).1).e))], 82, true⟩)] := by
 refine meets_of_ev (nt := 6) Tryd.func29 rfl rfl (Nat.le_of_ble_eq_true rfl) ?_
 refine .seq ?_
 refine .region ?_
 refine .q (op_assign rfl) trivial rfl ?_
 refine .nil ?_
 show Ev _ _ _ _ _
 refine .seq ?_
 refine .region ?_
 refine .q (op_move rfl) trivial rfl ?_
 refine .a (op_call (U := [(500, some ⟨.agg [.str ((byteD i).1).r, .err 161 (((byteD i).1).e) (offE eo (((byteD i).1).e))], 82, true⟩)]) [(500, 500)] [] (ibyte_ev i eo) Tryd.func56 (by kernel_rfl) rfl rfl rfl (⟨⟨_, rfl, rfl, rfl⟩, trivial⟩) (⟨⟨_, _, rfl, rfl, rfl, rfl, id, rfl⟩, ⟨_, _, rfl, rfl, rfl, rfl, (fun h => by cases h), rfl⟩, trivial⟩) (⟨⟨500, _, rfl, rfl, rfl, rfl, .inr ⟨rfl, _, rfl, rfl⟩⟩, trivial⟩) (⟨(fun _ => ⟨500, _, rfl, rfl⟩), (fun h => by cases h), trivial⟩) rfl) trivial rfl ?_
 refine .q (op_bin8 rfl rfl rfl) trivial rfl ?_
 refine .q (op_assign rfl) trivial rfl ?_
 refine .nil ?_
 show Ev _ _ _ _ _
 refine .ret ?_
 show RetOk _ _ _ _ _ _ _
 exact ret1v rfl (.inl rfl) rfl rfl ⟨rfl, trivial⟩
set_option maxRecDepth 100000 in
theorem text_bad (i : DI) (most : Int) (h : most < ((u32D i).2.toNat : Int)) (eo : Nat → Nat × Nat) : Meets Tryd.prog 25 [.ptr 500 0, .i64 most] [(500, some ⟨.agg [.str (i).r, .err 161 ((i).e) (offE eo ((i).e))], 82, true⟩), (3, some ⟨.agg [.err 161 (2) (offE eo (2))], errT, false⟩), (0, some ⟨.agg [.err 161 (4) (offE eo (4))], errT, false⟩)] (.str []) [(500, some ⟨.agg [.str (failD (u32D i).1 4).r, .err 161 ((failD (u32D i).1 4).e) (offE eo ((failD (u32D i).1 4).e))], 82, true⟩)] := by
 refine meets_of_ev (nt := 18) Tryd.func25 rfl rfl (Nat.le_of_ble_eq_true rfl) ?_
 refine .seq ?_
 refine .region ?_
 refine .q (op_assign rfl) trivial rfl ?_
 refine .nil ?_
 show Ev _ _ _ _ _
 refine .seq ?_
 refine .region ?_
 refine .q (op_move rfl) trivial rfl ?_
 refine .a (op_call (U := [(500, some ⟨.agg [.str ((u32D i).1).r, .err 161 (((u32D i).1).e) (offE eo (((u32D i).1).e))], 82, true⟩)]) [(500, 500)] [] (iu32_ev i eo) Tryd.func51 (by kernel_rfl) rfl rfl rfl (⟨⟨_, rfl, rfl, rfl⟩, trivial⟩) (⟨⟨_, _, rfl, rfl, rfl, rfl, id, rfl⟩, ⟨_, _, rfl, rfl, rfl, rfl, (fun h => by cases h), rfl⟩, trivial⟩) (⟨⟨500, _, rfl, rfl, rfl, rfl, .inr ⟨rfl, _, rfl, rfl⟩⟩, trivial⟩) (⟨(fun _ => ⟨500, _, rfl, rfl⟩), (fun h => by cases h), trivial⟩) rfl) trivial rfl ?_
 refine .q (op_conv Tryd.underlying39 Tryd.underlying2 rfl rfl) trivial rfl ?_
 refine .q (op_assign rfl) trivial rfl ?_
 refine .nil ?_
 show Ev _ _ _ _ _
 refine .seq ?_
 refine .seq ?_
 refine .region ?_
 refine .q (op_move rfl) trivial rfl ?_
 refine .q (op_move rfl) trivial rfl ?_
 refine .q (op_cmpI rfl rfl rfl) trivial rfl ?_
 refine .nil ?_
 show Ev _ _ _ _ _
 refine .cond_true rfl (decide_eq_true h) ?_
 refine .seq ?_
 refine .region ?_
 refine .q (op_move rfl) trivial rfl ?_
 refine .q (op_load Tryd.underlying56 rfl rfl rfl rfl (by first | omega | (simp only [AV.len]; omega) | (simp only [AV.len]; omega) | assumption | (simp [AV.len]; done))) trivial rfl ?_
 refine .a (op_call (U := [(500, some ⟨.agg [.str (failD (u32D i).1 4).r, .err 161 ((failD (u32D i).1 4).e) (offE eo ((failD (u32D i).1 4).e))], 82, true⟩)]) [(500, 500)] [] (fail_ev (u32D i).1 4 eo) Tryd.func52 (by kernel_rfl) rfl rfl rfl (⟨⟨_, rfl, rfl, rfl⟩, ⟨_, rfl, rfl, rfl⟩, trivial⟩) (⟨⟨_, _, rfl, rfl, rfl, rfl, id, rfl⟩, trivial⟩) (⟨⟨500, _, rfl, rfl, rfl, rfl, .inr ⟨rfl, _, rfl, rfl⟩⟩, trivial⟩) (⟨(fun _ => ⟨500, _, rfl, rfl⟩), trivial⟩) rfl) trivial rfl ?_
 refine .q (op_assign rfl) trivial rfl ?_
 refine .nil ?_
 show Ev _ _ _ _ _
 refine .ret ?_
 show RetOk _ _ _ _ _ _ _
 exact ret1v rfl (.inl rfl) rfl rfl ⟨rfl, trivial⟩
set_option maxRecDepth 100000 in
theorem text_ok (i : DI) (most : Int) (h : ¬ most < ((u32D i).2.toNat : Int)) (eo : Nat → Nat × Nat) : Meets Tryd.prog 25 [.ptr 500 0, .i64 most] [(500, some ⟨.agg [.str (i).r, .err 161 ((i).e) (offE eo ((i).e))], 82, true⟩), (3, some ⟨.agg [.err 161 (2) (offE eo (2))], errT, false⟩), (0, some ⟨.agg [.err 161 (4) (offE eo (4))], errT, false⟩)] (.str (rawD (u32D i).1 (u32D i).2.toNat).2) [(500, some ⟨.agg [.str ((rawD (u32D i).1 (u32D i).2.toNat).1).r, .err 161 (((rawD (u32D i).1 (u32D i).2.toNat).1).e) (offE eo (((rawD (u32D i).1 (u32D i).2.toNat).1).e))], 82, true⟩)] := by
 refine meets_of_ev (nt := 18) Tryd.func25 rfl rfl (Nat.le_of_ble_eq_true rfl) ?_
 refine .seq ?_
 refine .region ?_
 refine .q (op_assign rfl) trivial rfl ?_
 refine .nil ?_
 show Ev _ _ _ _ _
 refine .seq ?_
 refine .region ?_
 refine .q (op_move rfl) trivial rfl ?_
 refine .a (op_call (U := [(500, some ⟨.agg [.str ((u32D i).1).r, .err 161 (((u32D i).1).e) (offE eo (((u32D i).1).e))], 82, true⟩)]) [(500, 500)] [] (iu32_ev i eo) Tryd.func51 (by kernel_rfl) rfl rfl rfl (⟨⟨_, rfl, rfl, rfl⟩, trivial⟩) (⟨⟨_, _, rfl, rfl, rfl, rfl, id, rfl⟩, ⟨_, _, rfl, rfl, rfl, rfl, (fun h => by cases h), rfl⟩, trivial⟩) (⟨⟨500, _, rfl, rfl, rfl, rfl, .inr ⟨rfl, _, rfl, rfl⟩⟩, trivial⟩) (⟨(fun _ => ⟨500, _, rfl, rfl⟩), (fun h => by cases h), trivial⟩) rfl) trivial rfl ?_
 refine .q (op_conv Tryd.underlying39 Tryd.underlying2 rfl rfl) trivial rfl ?_
 refine .q (op_assign rfl) trivial rfl ?_
 refine .nil ?_
 show Ev _ _ _ _ _
 refine .seq ?_
 refine .seq ?_
 refine .region ?_
 refine .q (op_move rfl) trivial rfl ?_
 refine .q (op_move rfl) trivial rfl ?_
 refine .q (op_cmpI rfl rfl rfl) trivial rfl ?_
 refine .nil ?_
 show Ev _ _ _ _ _
 refine .cond_false rfl (decide_eq_false h) ?_
 refine .skip ?_
 show Ev _ _ _ _ _
 refine .seq ?_
 refine .region ?_
 refine .q (op_move rfl) trivial rfl ?_
 refine .q (op_move rfl) trivial rfl ?_
 refine .a (op_call (U := [(500, some ⟨.agg [.str ((rawD (u32D i).1 (u32D i).2.toNat).1).r, .err 161 (((rawD (u32D i).1 (u32D i).2.toNat).1).e) (offE eo (((rawD (u32D i).1 (u32D i).2.toNat).1).e))], 82, true⟩)]) [(500, 500)] [] (raw_ev (u32D i).1 ((u32D i).2.toNat : Int) eo) Tryd.func53 (by kernel_rfl) rfl rfl rfl (⟨⟨_, rfl, rfl, rfl⟩, ⟨_, rfl, rfl, rfl⟩, trivial⟩) (⟨⟨_, _, rfl, rfl, rfl, rfl, id, rfl⟩, ⟨_, _, rfl, rfl, rfl, rfl, (fun h => by cases h), rfl⟩, trivial⟩) (⟨⟨500, _, rfl, rfl, rfl, rfl, .inr ⟨rfl, _, rfl, rfl⟩⟩, trivial⟩) (⟨(fun _ => ⟨500, _, rfl, rfl⟩), (fun h => by cases h), trivial⟩) rfl) trivial rfl ?_
 refine .q (op_assign rfl) trivial rfl ?_
 refine .nil ?_
 show Ev _ _ _ _ _
 refine .ret ?_
 show RetOk _ _ _ _ _ _ _
 exact ret1v rfl (.inl rfl) rfl rfl ⟨rfl, trivial⟩
theorem itext_ev (i : DI) (most : Int) (eo : Nat → Nat × Nat) : Meets Tryd.prog 25 [.ptr 500 0, .i64 most] [(500, some ⟨.agg [.str (i).r, .err 161 ((i).e) (offE eo ((i).e))], 82, true⟩), (3, some ⟨.agg [.err 161 (2) (offE eo (2))], errT, false⟩), (0, some ⟨.agg [.err 161 (4) (offE eo (4))], errT, false⟩)] (.str (textD i most).2) [(500, some ⟨.agg [.str ((textD i most).1).r, .err 161 (((textD i most).1).e) (offE eo (((textD i most).1).e))], 82, true⟩)] := by
 by_cases h : most < ((u32D i).2.toNat : Int)
 ·rw [show textD i most = (failD (u32D i).1 4, []) from if_pos h]; exact text_bad i most h eo
 ·rw [show textD i most = rawD (u32D i).1 (u32D i).2.toNat from if_neg h]; exact text_ok i most h eo
theorem shortB_nil : shortB [] = [] := rfl
theorem shortB_zero {q : List UInt8} (h0 : 0 < q.length) (h : q.getD 0 0 = 0) : shortB (q.drop 1) = shortB q := by
 cases q with
 | nil => cases h0
 | cons x q => simp only [List.getD_cons_zero] at h; subst h; simp [shortB]
theorem shortB_stop {q : List UInt8} (h : ¬ q.getD 0 0 = 0) : shortB q = q := by
 cases q with
 | nil => rfl
 | cons x q =>
  simp only [List.getD_cons_zero] at h
  simp [shortB, h]
set_option maxRecDepth 100000 in
theorem trimByte_ev (s : List UInt8) (_hs : s.length ≤ 9223372036854775807) : Meets Tryd.prog 85 [.str s, .u8 0] [] (.str (shortB s)) [] := by
 refine meets_of_ev (nt := 17) Tryd.func85 rfl rfl (Nat.le_of_ble_eq_true rfl) ?_
 refine .seq ?_
 refine .region ?_
 refine .q (op_assign rfl) trivial rfl ?_
 refine .nil ?_
 show Ev _ _ _ _ _
 refine .seq ?_
 refine .block ?_
 refine Ev.loop (ι := { q : List UInt8 // shortB q = shortB s ∧ q.length ≤ s.length }) (fun q => ⟨[(0, .str q.1), (1, .u8 0)], [], 1000⟩) (fun q => q.1.length) ⟨s, rfl, Nat.le_refl _⟩ (StLe.mk [] rfl rfl ⟨⟨_, rfl, by first | rfl | (simp only [AV.ren]; congr 1; omega), rfl⟩, ⟨_, rfl, by first | rfl | (simp only [AV.ren]; congr 1; omega), rfl⟩, trivial⟩ trivial) ?_
 rintro ⟨q, hq, hql⟩
 try dsimp only
 refine .seq ?_
 refine .seq ?_
 refine .region ?_
 refine .q (op_move rfl) trivial rfl ?_
 refine .q (op_len_str Tryd.underlying9 rfl) trivial rfl ?_
 refine .q (op_cmpI rfl rfl rfl) trivial rfl ?_
 refine .q (op_move rfl) trivial rfl ?_
 refine .split (fun hg8 => ?_) (fun hg8 => ?_)
 ·simp only [decide_eq_true_eq] at hg8
  refine .q (op_move rfl) ⟨_, rfl, rfl⟩ rfl ?_
  refine .q (op_index_str Tryd.underlying9 rfl rfl rfl (by first | omega | (simp only [AV.len]; omega) | (simp only [AV.len, List.length_set]; omega) | assumption | (simp [AV.len]; done))) ⟨_, rfl, rfl⟩ rfl ?_
  refine .q (op_move rfl) ⟨_, rfl, rfl⟩ rfl ?_
  refine .q (op_bin8 rfl rfl rfl) ⟨_, rfl, rfl⟩ rfl ?_
  refine .q (op_pick_true rfl rfl rfl) trivial rfl ?_
  refine .nil ?_
  show Ev _ _ _ _ _
  refine .cond rfl (fun hc13 => ?_) (fun hc13 => ?_)
  ·simp only [beq_iff_eq] at hc13
   refine .skip ?_
   show Ev _ _ _ _ _
   refine .block ?_
   refine .region ?_
   refine .q (op_move rfl) trivial rfl ?_
   refine .q (ap_slice_str_lo Tryd.underlying9 rfl (bnd_some rfl rfl) (by show 1 ≤ q.length; omega)) trivial rfl ?_
   refine .q (op_assign rfl) trivial rfl ?_
   refine .nil ?_
   exact ⟨⟨q.drop 1, (shortB_zero (by omega) hc13).trans hq, by simp only [List.length_drop]; omega⟩, by (try dsimp only); simp only [List.length_drop]; omega, StLe.mk [] rfl rfl ⟨⟨_, rfl, by first | rfl | (simp only [AV.ren]; congr 1; omega), rfl⟩, ⟨_, rfl, by first | rfl | (simp only [AV.ren]; congr 1; omega), rfl⟩, trivial⟩ trivial⟩
  ·simp only [ne_eq, beq_eq_false_iff_ne] at hc13
   refine .exit ?_
   show Ev _ _ _ _ _
   refine .seq ?_
   refine .region ?_
   refine .q (op_move rfl) trivial rfl ?_
   refine .q (op_assign rfl) trivial rfl ?_
   refine .nil ?_
   show Ev _ _ _ _ _
   refine .ret ?_
   show RetOk _ _ _ _ _ _ _
   exact ret1v rfl (.inl rfl) rfl (congrArg AV.str (Eq.trans (Eq.symm (show shortB q = q by first | exact shortB_stop hc13 | (rw [List.eq_nil_of_length_eq_zero (show q.length = 0 by omega)]; rfl))) hq)) trivial
 ·simp only [decide_eq_false_iff_not] at hg8
  refine .no ⟨_, rfl, rfl⟩ rfl ?_
  refine .no ⟨_, rfl, rfl⟩ rfl ?_
  refine .no ⟨_, rfl, rfl⟩ rfl ?_
  refine .no ⟨_, rfl, rfl⟩ rfl ?_
  refine .q (op_pick_false rfl rfl rfl) trivial rfl ?_
  refine .nil ?_
  show Ev _ _ _ _ _
  refine .cond_false rfl rfl ?_
  refine .exit ?_
  show Ev _ _ _ _ _
  refine .seq ?_
  refine .region ?_
  refine .q (op_move rfl) trivial rfl ?_
  refine .q (op_assign rfl) trivial rfl ?_
  refine .nil ?_
  show Ev _ _ _ _ _
  refine .ret ?_
  show RetOk _ _ _ _ _ _ _
  exact ret1v rfl (.inl rfl) rfl (congrArg AV.str (Eq.trans (Eq.symm (show shortB q = q by first | exact shortB_stop hc13 | (rw [List.eq_nil_of_length_eq_zero (show q.length = 0 by omega)]; rfl))) hq)) trivial
set_option maxRecDepth 100000 in
theorem trimLeft_ev (s : List UInt8) (hs : s.length ≤ 9223372036854775807) : Meets Tryd.prog 72 [.str s, .str [0]] [] (.str (shortB s)) [] := by
 refine meets_of_ev (nt := 37) Tryd.func72 rfl rfl (Nat.le_of_ble_eq_true rfl) ?_
 refine .seq ?_
 refine .region ?_
 refine .q (op_assign rfl) trivial rfl ?_
 refine .nil ?_
 show Ev _ _ _ _ _
 refine .seq ?_
 refine .seq ?_
 refine .region ?_
 refine .q (op_move rfl) trivial rfl ?_
 refine .q (op_eqS rfl rfl rfl) trivial rfl ?_
 refine .q (op_move rfl) trivial rfl ?_
 refine .split (fun hg9 => ?_) (fun hg9 => ?_)
 ·simp only [beq_iff_eq] at hg9
  refine .no ⟨_, rfl, rfl⟩ rfl ?_
  refine .no ⟨_, rfl, rfl⟩ rfl ?_
  refine .q (op_pick_true rfl rfl rfl) trivial rfl ?_
  refine .nil ?_
  show Ev _ _ _ _ _
  refine .cond_true rfl rfl ?_
  refine .seq ?_
  refine .region ?_
  refine .q (op_move rfl) trivial rfl ?_
  refine .q (op_assign rfl) trivial rfl ?_
  refine .nil ?_
  show Ev _ _ _ _ _
  refine .ret ?_
  show RetOk _ _ _ _ _ _ _
  exact ret1v rfl (.inl rfl) rfl (by first | rfl | exact congrArg AV.str (by subst hg9; rfl)) trivial
 ·simp only [ne_eq, beq_eq_false_iff_ne] at hg9
  refine .q (op_move rfl) ⟨_, rfl, rfl⟩ rfl ?_
  refine .q (op_eqS rfl rfl rfl) ⟨_, rfl, rfl⟩ rfl ?_
  refine .q (op_pick_false rfl rfl rfl) trivial rfl ?_
  refine .nil ?_
  show Ev _ _ _ _ _
  refine .cond_false rfl (rfl) ?_
  refine .skip ?_
  show Ev _ _ _ _ _
  refine .seq ?_
  refine .seq ?_
  refine .region ?_
  refine .q (op_move rfl) trivial rfl ?_
  refine .q (op_len_str Tryd.underlying9 rfl) trivial rfl ?_
  refine .q (op_cmpI rfl rfl rfl) trivial rfl ?_
  refine .q (op_move rfl) trivial rfl ?_
  refine .know (b' := true) (rfl) ?_
  refine .q (op_move rfl) ⟨_, rfl, rfl⟩ rfl ?_
  refine .q (op_index_str Tryd.underlying9 rfl rfl rfl (by first | omega | (skip; omega) | (skip; omega) | assumption | (simp; done))) ⟨_, rfl, rfl⟩ rfl ?_
  refine .q (op_bin8 rfl rfl rfl) ⟨_, rfl, rfl⟩ rfl ?_
  refine .q (op_pick_true rfl rfl rfl) trivial rfl ?_
  refine .nil ?_
  show Ev _ _ _ _ _
  refine .cond_true rfl (rfl) ?_
  refine .seq ?_
  refine .region ?_
  refine .q (op_move rfl) trivial rfl ?_
  refine .q (op_move rfl) trivial rfl ?_
  refine .q (op_index_str Tryd.underlying9 rfl rfl rfl (by first | omega | (skip; omega) | (skip; omega) | assumption | (simp; done))) trivial rfl ?_
  refine .q (op_call (U := []) [] [] (trimByte_ev s (by omega)) Tryd.func85 (by kernel_rfl) rfl rfl rfl (⟨⟨_, rfl, rfl, rfl⟩, ⟨_, rfl, rfl, rfl⟩, trivial⟩) (trivial) (trivial) (trivial) rfl) trivial rfl ?_
  refine .q (op_assign rfl) trivial rfl ?_
  refine .nil ?_
  show Ev _ _ _ _ _
  refine .ret ?_
  show RetOk _ _ _ _ _ _ _
  exact ret1v rfl (.inl rfl) rfl (by first | rfl | exact congrArg AV.str (by subst hg9; rfl)) trivial
set_option maxRecDepth 100000 in
theorem short_ev (s : List UInt8) (hs : s.length ≤ 9223372036854775807) : Meets Tryd.prog 48 [.str s] [] (.str (shortB s)) [] := by
 refine meets_of_ev (nt := 5) Tryd.func48 rfl rfl (Nat.le_of_ble_eq_true rfl) ?_
 refine .seq ?_
 refine .region ?_
 refine .q (op_assign rfl) trivial rfl ?_
 refine .nil ?_
 show Ev _ _ _ _ _
 refine .seq ?_
 refine .region ?_
 refine .q (op_move rfl) trivial rfl ?_
 refine .q (op_call (U := []) [] [] (trimLeft_ev s (by omega)) Tryd.func72 (by kernel_rfl) rfl rfl rfl (⟨⟨_, rfl, rfl, rfl⟩, ⟨_, rfl, rfl, rfl⟩, trivial⟩) (trivial) (trivial) (trivial) rfl) trivial rfl ?_
 refine .q (op_assign rfl) trivial rfl ?_
 refine .nil ?_
 show Ev _ _ _ _ _
 refine .ret ?_
 show RetOk _ _ _ _ _ _ _
 exact ret1v rfl (.inl rfl) rfl rfl trivial
set_option maxRecDepth 100000 in
theorem uns_ev (s : List UInt8) (hs : s.length ≤ 9223372036854775000) : Meets Tryd.prog 47 [.str s] [] (.str (unsB s)) [] := by
 refine meets_of_ev (nt := 13) Tryd.func47 rfl rfl (Nat.le_of_ble_eq_true rfl) ?_
 refine .seq ?_
 refine .region ?_
 refine .q (op_assign rfl) trivial rfl ?_
 refine .nil ?_
 show Ev _ _ _ _ _
 refine .seq ?_
 refine .seq ?_
 refine .region ?_
 refine .q (op_move rfl) trivial rfl ?_
 refine .q (op_eqS rfl rfl rfl) trivial rfl ?_
 refine .q (op_move rfl) trivial rfl ?_
 refine .split (fun hg5 => ?_) (fun hg5 => ?_)
 ·simp only [bne_iff_ne, ne_eq] at hg5
  refine .q (op_move rfl) ⟨_, rfl, rfl⟩ rfl ?_
  refine .q (op_index_str Tryd.underlying9 rfl rfl rfl (by have := List.length_pos_iff.2 hg5; omega)) ⟨_, rfl, rfl⟩ rfl ?_
  refine .q (op_bin8 rfl rfl rfl) ⟨_, rfl, rfl⟩ rfl ?_
  refine .q (op_pick_true rfl rfl rfl) trivial rfl ?_
  refine .nil ?_
  show Ev _ _ _ _ _
  refine .cond rfl (fun hc9 => ?_) (fun hc9 => ?_)
  ·simp only [decide_eq_true_eq] at hc9
   refine .seq ?_
   refine .region ?_
   refine .q (op_move rfl) trivial rfl ?_
   refine .q (op_addS rfl rfl (by simp only [List.length_cons, List.length_nil]; omega)) trivial rfl ?_
   refine .q (op_assign rfl) trivial rfl ?_
   refine .nil ?_
   show Ev _ _ _ _ _
   refine .ret ?_
   show RetOk _ _ _ _ _ _ _
   exact ret1v rfl (.inl rfl) rfl (congrArg AV.str (by first | (simp [unsB, hg5]; done) | (simp [unsB, hg5]; omega) | (simp_all [unsB]; done))) trivial
  ·simp only [decide_eq_false_iff_not] at hc9
   refine .skip ?_
   show Ev _ _ _ _ _
   refine .seq ?_
   refine .region ?_
   refine .q (op_move rfl) trivial rfl ?_
   refine .q (op_assign rfl) trivial rfl ?_
   refine .nil ?_
   show Ev _ _ _ _ _
   refine .ret ?_
   show RetOk _ _ _ _ _ _ _
   exact ret1v rfl (.inl rfl) rfl (congrArg AV.str (by first | (simp [unsB, hg5]; done) | (simp [unsB, hg5]; omega) | (simp_all [unsB]; done))) trivial
 ·simp only [bne_eq_false_iff_eq] at hg5
  refine .no ⟨_, rfl, rfl⟩ rfl ?_
  refine .no ⟨_, rfl, rfl⟩ rfl ?_
  refine .no ⟨_, rfl, rfl⟩ rfl ?_
  refine .q (op_pick_false rfl rfl rfl) trivial rfl ?_
  refine .nil ?_
  show Ev _ _ _ _ _
  refine .cond_false rfl rfl ?_
  refine .skip ?_
  show Ev _ _ _ _ _
  refine .seq ?_
  refine .region ?_
  refine .q (op_move rfl) trivial rfl ?_
  refine .q (op_assign rfl) trivial rfl ?_
  refine .nil ?_
  show Ev _ _ _ _ _
  refine .ret ?_
  show RetOk _ _ _ _ _ _ _
  exact ret1v rfl (.inl rfl) rfl (congrArg AV.str (by first | (simp [unsB, hg5, hc9]; done) | (simp [unsB, hg5]; omega) | (simp_all [unsB]; done))) trivial
end Go.Proofs.YtoigppbkfhfllaaDoor
namespace Go.Proofs.YtoigppbkfhfllaaDoor
open Go.RowKit
def boolB (b : Bool) : List UInt8 := [if b then 1 else 0]
theorem length_boolB (b : Bool) : (boolB b).length = 1 := rfl
set_option maxRecDepth 100000 in
theorem boolT0_ev  : Meets Tryd.prog 10 [.ptr 500 0, .bool true] [(500, some ⟨.agg [.val (.pointer none), .nilsl], 29, true⟩)] (.ptr 500 0) [(500, some ⟨.agg [.ptr 500 0, .sl 1000 0 (1) 1], 29, true⟩), (1000, some ⟨.aggB (boolB true), 5, true⟩)] := by
 refine meets_of_ev (nt := 10) Tryd.func10 rfl rfl (Nat.le_of_ble_eq_true rfl) ?_
 refine .seq ?_
 refine .region ?_
 refine .q (op_assign rfl) trivial rfl ?_
 refine .nil ?_
 show Ev _ _ _ _ _
 refine .seq ?_
 refine .seq ?_
 refine .region ?_
 refine .q (op_move rfl) trivial rfl ?_
 refine .nil ?_
 show Ev _ _ _ _ _
 refine .cond_true rfl (rfl) ?_
 refine .seq ?_
 refine .region ?_
 refine .q (op_move rfl) trivial rfl ?_
 refine .a (op_call (U := [(500, some ⟨.agg [.ptr 500 0, .sl 1000 0 (1) 1], 29, true⟩), (1000, some ⟨.aggB (boolB true), 5, true⟩)]) [(500, 500)] [(1000, 1000)] (byte0_ev 1) Tryd.func9 (by kernel_rfl) rfl rfl rfl (⟨⟨_, rfl, rfl, rfl⟩, ⟨_, rfl, rfl, rfl⟩, trivial⟩) (⟨⟨_, _, rfl, rfl, rfl, rfl, id, rfl⟩, trivial⟩) (⟨⟨500, _, rfl, rfl, rfl, rfl, .inr ⟨rfl, _, rfl, rfl⟩⟩, ⟨1000, _, rfl, rfl, rfl, rfl, .inl rfl⟩, trivial⟩) (⟨(fun _ => ⟨500, _, rfl, rfl⟩), trivial⟩) rfl) trivial rfl ?_
 refine .q (op_assign rfl) trivial rfl ?_
 refine .nil ?_
 show Ev _ _ _ _ _
 refine .ret ?_
 show RetOk _ _ _ _ _ _ _
 exact ret1v rfl (.inl rfl) rfl rfl ⟨(by first | rfl | (simp only [List.append_assoc, Nat.add_assoc, textB, bigB]; rfl)), (by first | rfl | (simp only [List.append_assoc, Nat.add_assoc, textB, bigB]; rfl)), trivial⟩
set_option maxRecDepth 100000 in
theorem boolT1_ev  : Meets Tryd.prog 10 [.ptr 500 0, .bool true] [(500, some ⟨.agg [.ptr 500 0, .nilsl], 29, true⟩)] (.ptr 500 0) [(500, some ⟨.agg [.ptr 500 0, .sl 1000 0 (1) 1], 29, true⟩), (1000, some ⟨.aggB (boolB true), 5, true⟩)] := by
 refine meets_of_ev (nt := 10) Tryd.func10 rfl rfl (Nat.le_of_ble_eq_true rfl) ?_
 refine .seq ?_
 refine .region ?_
 refine .q (op_assign rfl) trivial rfl ?_
 refine .nil ?_
 show Ev _ _ _ _ _
 refine .seq ?_
 refine .seq ?_
 refine .region ?_
 refine .q (op_move rfl) trivial rfl ?_
 refine .nil ?_
 show Ev _ _ _ _ _
 refine .cond_true rfl (rfl) ?_
 refine .seq ?_
 refine .region ?_
 refine .q (op_move rfl) trivial rfl ?_
 refine .a (op_call (U := [(500, some ⟨.agg [.ptr 500 0, .sl 1000 0 (1) 1], 29, true⟩), (1000, some ⟨.aggB (boolB true), 5, true⟩)]) [(500, 500)] [(1000, 1000)] (byte1_ev 1) Tryd.func9 (by kernel_rfl) rfl rfl rfl (⟨⟨_, rfl, rfl, rfl⟩, ⟨_, rfl, rfl, rfl⟩, trivial⟩) (⟨⟨_, _, rfl, rfl, rfl, rfl, id, rfl⟩, trivial⟩) (⟨⟨500, _, rfl, rfl, rfl, rfl, .inr ⟨rfl, _, rfl, rfl⟩⟩, ⟨1000, _, rfl, rfl, rfl, rfl, .inl rfl⟩, trivial⟩) (⟨(fun _ => ⟨500, _, rfl, rfl⟩), trivial⟩) rfl) trivial rfl ?_
 refine .q (op_assign rfl) trivial rfl ?_
 refine .nil ?_
 show Ev _ _ _ _ _
 refine .ret ?_
 show RetOk _ _ _ _ _ _ _
 exact ret1v rfl (.inl rfl) rfl rfl ⟨(by first | rfl | (simp only [List.append_assoc, Nat.add_assoc, textB, bigB]; rfl)), (by first | rfl | (simp only [List.append_assoc, Nat.add_assoc, textB, bigB]; rfl)), trivial⟩
set_option maxRecDepth 100000 in
theorem boolT2_ev  (l : List UInt8) (n : Nat) (hn : n = l.length) (h : n ≤ 800000000) : Meets Tryd.prog 10 [.ptr 500 0, .bool true] [(500, some ⟨.agg [.ptr 500 0, .sl 501 0 (n) 1], 29, true⟩), (501, some ⟨.aggB l, 5, true⟩)] (.ptr 500 0) [(500, some ⟨.agg [.ptr 500 0, .sl 1000 0 (n + 1) 1], 29, true⟩), (1000, some ⟨.aggB (l ++ boolB true), 5, true⟩)] := by
 refine meets_of_ev (nt := 10) Tryd.func10 rfl rfl (Nat.le_of_ble_eq_true rfl) ?_
 refine .seq ?_
 refine .region ?_
 refine .q (op_assign rfl) trivial rfl ?_
 refine .nil ?_
 show Ev _ _ _ _ _
 refine .seq ?_
 refine .seq ?_
 refine .region ?_
 refine .q (op_move rfl) trivial rfl ?_
 refine .nil ?_
 show Ev _ _ _ _ _
 refine .cond_true rfl (rfl) ?_
 refine .seq ?_
 refine .region ?_
 refine .q (op_move rfl) trivial rfl ?_
 refine .a (op_call (U := [(500, some ⟨.agg [.ptr 500 0, .sl 1000 0 (n + 1) 1], 29, true⟩), (1000, some ⟨.aggB (l ++ boolB true), 5, true⟩), (501, none)]) [(500, 500), (501, 501)] [(1000, 1000)] (byte2_ev 1 (l) (n) (by first | exact hn | (simp [length_numB, length_lenB, length_textB]; done) | (simp [length_numB, length_lenB, length_textB]; omega) | omega | decide +kernel) (by omega)) Tryd.func9 (by kernel_rfl) rfl rfl rfl (⟨⟨_, rfl, rfl, rfl⟩, ⟨_, rfl, rfl, rfl⟩, trivial⟩) (⟨⟨_, _, rfl, rfl, rfl, rfl, id, rfl⟩, ⟨_, _, rfl, rfl, rfl, rfl, id, rfl⟩, trivial⟩) (⟨⟨500, _, rfl, rfl, rfl, rfl, .inr ⟨rfl, _, rfl, rfl⟩⟩, ⟨1000, _, rfl, rfl, rfl, rfl, .inl rfl⟩, trivial⟩) (⟨(fun _ => ⟨500, _, rfl, rfl⟩), (fun _ => ⟨501, _, rfl, rfl⟩), trivial⟩) rfl) trivial rfl ?_
 refine .q (op_assign rfl) trivial rfl ?_
 refine .nil ?_
 show Ev _ _ _ _ _
 refine .ret ?_
 show RetOk _ _ _ _ _ _ _
 exact ret1v rfl (.inl rfl) rfl rfl ⟨(by first | rfl | (simp only [List.append_assoc, Nat.add_assoc, textB, bigB]; rfl)), (by first | rfl | (simp only [List.append_assoc, Nat.add_assoc, textB, bigB]; rfl)), trivial⟩
set_option maxRecDepth 100000 in
theorem boolF0_ev  : Meets Tryd.prog 10 [.ptr 500 0, .bool false] [(500, some ⟨.agg [.val (.pointer none), .nilsl], 29, true⟩)] (.ptr 500 0) [(500, some ⟨.agg [.ptr 500 0, .sl 1000 0 (1) 1], 29, true⟩), (1000, some ⟨.aggB (boolB false), 5, true⟩)] := by
 refine meets_of_ev (nt := 10) Tryd.func10 rfl rfl (Nat.le_of_ble_eq_true rfl) ?_
 refine .seq ?_
 refine .region ?_
 refine .q (op_assign rfl) trivial rfl ?_
 refine .nil ?_
 show Ev _ _ _ _ _
 refine .seq ?_
 refine .seq ?_
 refine .region ?_
 refine .q (op_move rfl) trivial rfl ?_
 refine .nil ?_
 show Ev _ _ _ _ _
 refine .cond_false rfl (rfl) ?_
 refine .skip ?_
 show Ev _ _ _ _ _
 refine .seq ?_
 refine .region ?_
 refine .q (op_move rfl) trivial rfl ?_
 refine .a (op_call (U := [(500, some ⟨.agg [.ptr 500 0, .sl 1000 0 (1) 1], 29, true⟩), (1000, some ⟨.aggB (boolB false), 5, true⟩)]) [(500, 500)] [(1000, 1000)] (byte0_ev 0) Tryd.func9 (by kernel_rfl) rfl rfl rfl (⟨⟨_, rfl, rfl, rfl⟩, ⟨_, rfl, rfl, rfl⟩, trivial⟩) (⟨⟨_, _, rfl, rfl, rfl, rfl, id, rfl⟩, trivial⟩) (⟨⟨500, _, rfl, rfl, rfl, rfl, .inr ⟨rfl, _, rfl, rfl⟩⟩, ⟨1000, _, rfl, rfl, rfl, rfl, .inl rfl⟩, trivial⟩) (⟨(fun _ => ⟨500, _, rfl, rfl⟩), trivial⟩) rfl) trivial rfl ?_
 refine .q (op_assign rfl) trivial rfl ?_
 refine .nil ?_
 show Ev _ _ _ _ _
 refine .ret ?_
 show RetOk _ _ _ _ _ _ _
 exact ret1v rfl (.inl rfl) rfl rfl ⟨(by first | rfl | (simp only [List.append_assoc, Nat.add_assoc, textB, bigB]; rfl)), (by first | rfl | (simp only [List.append_assoc, Nat.add_assoc, textB, bigB]; rfl)), trivial⟩
set_option maxRecDepth 100000 in
theorem boolF1_ev  : Meets Tryd.prog 10 [.ptr 500 0, .bool false] [(500, some ⟨.agg [.ptr 500 0, .nilsl], 29, true⟩)] (.ptr 500 0) [(500, some ⟨.agg [.ptr 500 0, .sl 1000 0 (1) 1], 29, true⟩), (1000, some ⟨.aggB (boolB false), 5, true⟩)] := by
 refine meets_of_ev (nt := 10) Tryd.func10 rfl rfl (Nat.le_of_ble_eq_true rfl) ?_
 refine .seq ?_
 refine .region ?_
 refine .q (op_assign rfl) trivial rfl ?_
 refine .nil ?_
 show Ev _ _ _ _ _
 refine .seq ?_
 refine .seq ?_
 refine .region ?_
 refine .q (op_move rfl) trivial rfl ?_
 refine .nil ?_
 show Ev _ _ _ _ _
 refine .cond_false rfl (rfl) ?_
 refine .skip ?_
 show Ev _ _ _ _ _
 refine .seq ?_
 refine .region ?_
 refine .q (op_move rfl) trivial rfl ?_
 refine .a (op_call (U := [(500, some ⟨.agg [.ptr 500 0, .sl 1000 0 (1) 1], 29, true⟩), (1000, some ⟨.aggB (boolB false), 5, true⟩)]) [(500, 500)] [(1000, 1000)] (byte1_ev 0) Tryd.func9 (by kernel_rfl) rfl rfl rfl (⟨⟨_, rfl, rfl, rfl⟩, ⟨_, rfl, rfl, rfl⟩, trivial⟩) (⟨⟨_, _, rfl, rfl, rfl, rfl, id, rfl⟩, trivial⟩) (⟨⟨500, _, rfl, rfl, rfl, rfl, .inr ⟨rfl, _, rfl, rfl⟩⟩, ⟨1000, _, rfl, rfl, rfl, rfl, .inl rfl⟩, trivial⟩) (⟨(fun _ => ⟨500, _, rfl, rfl⟩), trivial⟩) rfl) trivial rfl ?_
 refine .q (op_assign rfl) trivial rfl ?_
 refine .nil ?_
 show Ev _ _ _ _ _
 refine .ret ?_
 show RetOk _ _ _ _ _ _ _
 exact ret1v rfl (.inl rfl) rfl rfl ⟨(by first | rfl | (simp only [List.append_assoc, Nat.add_assoc, textB, bigB]; rfl)), (by first | rfl | (simp only [List.append_assoc, Nat.add_assoc, textB, bigB]; rfl)), trivial⟩
set_option maxRecDepth 100000 in
theorem boolF2_ev  (l : List UInt8) (n : Nat) (hn : n = l.length) (h : n ≤ 800000000) : Meets Tryd.prog 10 [.ptr 500 0, .bool false] [(500, some ⟨.agg [.ptr 500 0, .sl 501 0 (n) 1], 29, true⟩), (501, some ⟨.aggB l, 5, true⟩)] (.ptr 500 0) [(500, some ⟨.agg [.ptr 500 0, .sl 1000 0 (n + 1) 1], 29, true⟩), (1000, some ⟨.aggB (l ++ boolB false), 5, true⟩)] := by
 refine meets_of_ev (nt := 10) Tryd.func10 rfl rfl (Nat.le_of_ble_eq_true rfl) ?_
 refine .seq ?_
 refine .region ?_
 refine .q (op_assign rfl) trivial rfl ?_
 refine .nil ?_
 show Ev _ _ _ _ _
 refine .seq ?_
 refine .seq ?_
 refine .region ?_
 refine .q (op_move rfl) trivial rfl ?_
 refine .nil ?_
 show Ev _ _ _ _ _
 refine .cond_false rfl (rfl) ?_
 refine .skip ?_
 show Ev _ _ _ _ _
 refine .seq ?_
 refine .region ?_
 refine .q (op_move rfl) trivial rfl ?_
 refine .a (op_call (U := [(500, some ⟨.agg [.ptr 500 0, .sl 1000 0 (n + 1) 1], 29, true⟩), (1000, some ⟨.aggB (l ++ boolB false), 5, true⟩), (501, none)]) [(500, 500), (501, 501)] [(1000, 1000)] (byte2_ev 0 (l) (n) (by first | exact hn | (simp [length_numB, length_lenB, length_textB]; done) | (simp [length_numB, length_lenB, length_textB]; omega) | omega | decide +kernel) (by omega)) Tryd.func9 (by kernel_rfl) rfl rfl rfl (⟨⟨_, rfl, rfl, rfl⟩, ⟨_, rfl, rfl, rfl⟩, trivial⟩) (⟨⟨_, _, rfl, rfl, rfl, rfl, id, rfl⟩, ⟨_, _, rfl, rfl, rfl, rfl, id, rfl⟩, trivial⟩) (⟨⟨500, _, rfl, rfl, rfl, rfl, .inr ⟨rfl, _, rfl, rfl⟩⟩, ⟨1000, _, rfl, rfl, rfl, rfl, .inl rfl⟩, trivial⟩) (⟨(fun _ => ⟨500, _, rfl, rfl⟩), (fun _ => ⟨501, _, rfl, rfl⟩), trivial⟩) rfl) trivial rfl ?_
 refine .q (op_assign rfl) trivial rfl ?_
 refine .nil ?_
 show Ev _ _ _ _ _
 refine .ret ?_
 show RetOk _ _ _ _ _ _ _
 exact ret1v rfl (.inl rfl) rfl rfl ⟨(by first | rfl | (simp only [List.append_assoc, Nat.add_assoc, textB, bigB]; rfl)), (by first | rfl | (simp only [List.append_assoc, Nat.add_assoc, textB, bigB]; rfl)), trivial⟩
theorem bool0_ev (b : Bool) : Meets Tryd.prog 10 [.ptr 500 0, .bool b] [(500, some ⟨.agg [.val (.pointer none), .nilsl], 29, true⟩)] (.ptr 500 0) [(500, some ⟨.agg [.ptr 500 0, .sl 1000 0 (1) 1], 29, true⟩), (1000, some ⟨.aggB (boolB b), 5, true⟩)] := by
 cases b
 ·exact boolF0_ev
 ·exact boolT0_ev
theorem bool1_ev (b : Bool) : Meets Tryd.prog 10 [.ptr 500 0, .bool b] [(500, some ⟨.agg [.ptr 500 0, .nilsl], 29, true⟩)] (.ptr 500 0) [(500, some ⟨.agg [.ptr 500 0, .sl 1000 0 (1) 1], 29, true⟩), (1000, some ⟨.aggB (boolB b), 5, true⟩)] := by
 cases b
 ·exact boolF1_ev
 ·exact boolT1_ev
theorem bool2_ev (b : Bool) (l : List UInt8) (n : Nat) (hn : n = l.length) (h : n ≤ 800000000) : Meets Tryd.prog 10 [.ptr 500 0, .bool b] [(500, some ⟨.agg [.ptr 500 0, .sl 501 0 (n) 1], 29, true⟩), (501, some ⟨.aggB l, 5, true⟩)] (.ptr 500 0) [(500, some ⟨.agg [.ptr 500 0, .sl 1000 0 (n + 1) 1], 29, true⟩), (1000, some ⟨.aggB (l ++ boolB b), 5, true⟩)] := by
 cases b
 ·exact boolF2_ev l n hn h
 ·exact boolT2_ev l n hn h
set_option maxRecDepth 100000 in
theorem big0_ev (s : List UInt8) (hs : s.length ≤ 90000000) : Meets Tryd.prog 17 [.ptr 500 0, .str s] [(500, some ⟨.agg [.val (.pointer none), .nilsl], 29, true⟩)] (.ptr 500 0) [(500, some ⟨.agg [.ptr 500 0, .sl 1000 0 ((4 + (unsB (shortB s)).length)) 1], 29, true⟩), (1000, some ⟨.aggB (bigB s), 5, true⟩)] := by
 have q1 := length_shortB s
 have q2 := length_unsB (shortB s)
 refine meets_of_ev (nt := 10) Tryd.func17 rfl rfl (Nat.le_of_ble_eq_true rfl) ?_
 refine .seq ?_
 refine .region ?_
 refine .q (op_assign rfl) trivial rfl ?_
 refine .nil ?_
 show Ev _ _ _ _ _
 refine .seq ?_
 refine .region ?_
 refine .q (op_move rfl) trivial rfl ?_
 refine .q (op_move rfl) trivial rfl ?_
 refine .q (op_call (U := []) [] [] (short_ev s (by omega)) Tryd.func48 (by kernel_rfl) rfl rfl rfl (⟨⟨_, rfl, rfl, rfl⟩, trivial⟩) (trivial) (trivial) (trivial) rfl) trivial rfl ?_
 refine .q (op_call (U := []) [] [] (uns_ev (shortB s) (by omega)) Tryd.func47 (by kernel_rfl) rfl rfl rfl (⟨⟨_, rfl, rfl, rfl⟩, trivial⟩) (trivial) (trivial) (trivial) rfl) trivial rfl ?_
 refine .a (op_call (U := [(500, some ⟨.agg [.ptr 500 0, .sl 1000 0 ((4 + (unsB (shortB s)).length)) 1], 29, true⟩), (1000, some ⟨.aggB (bigB s), 5, true⟩)]) [(500, 500)] [(1000, 1008)] (text0_ev (unsB (shortB s)) (by omega)) Tryd.func19 (by kernel_rfl) rfl rfl rfl (⟨⟨_, rfl, rfl, rfl⟩, ⟨_, rfl, rfl, rfl⟩, trivial⟩) (⟨⟨_, _, rfl, rfl, rfl, rfl, id, rfl⟩, trivial⟩) (⟨⟨500, _, rfl, rfl, rfl, rfl, .inr ⟨rfl, _, rfl, rfl⟩⟩, ⟨1008, _, rfl, rfl, rfl, rfl, .inl rfl⟩, trivial⟩) (⟨(fun _ => ⟨500, _, rfl, rfl⟩), trivial⟩) rfl) trivial rfl ?_
 refine .q (op_assign rfl) trivial rfl ?_
 refine .nil ?_
 show Ev _ _ _ _ _
 refine .ret ?_
 show RetOk _ _ _ _ _ _ _
 exact ret1v rfl (.inl rfl) rfl rfl ⟨(by first | rfl | (simp only [List.append_assoc, Nat.add_assoc, textB, bigB]; rfl)), (by first | rfl | (simp only [List.append_assoc, Nat.add_assoc, textB, bigB]; rfl)), trivial⟩
set_option maxRecDepth 100000 in
theorem big1_ev (s : List UInt8) (hs : s.length ≤ 90000000) : Meets Tryd.prog 17 [.ptr 500 0, .str s] [(500, some ⟨.agg [.ptr 500 0, .nilsl], 29, true⟩)] (.ptr 500 0) [(500, some ⟨.agg [.ptr 500 0, .sl 1000 0 ((4 + (unsB (shortB s)).length)) 1], 29, true⟩), (1000, some ⟨.aggB (bigB s), 5, true⟩)] := by
 have q1 := length_shortB s
 have q2 := length_unsB (shortB s)
 refine meets_of_ev (nt := 10) Tryd.func17 rfl rfl (Nat.le_of_ble_eq_true rfl) ?_
 refine .seq ?_
 refine .region ?_
 refine .q (op_assign rfl) trivial rfl ?_
 refine .nil ?_
 show Ev _ _ _ _ _
 refine .seq ?_
 refine .region ?_
 refine .q (op_move rfl) trivial rfl ?_
 refine .q (op_move rfl) trivial rfl ?_
 refine .q (op_call (U := []) [] [] (short_ev s (by omega)) Tryd.func48 (by kernel_rfl) rfl rfl rfl (⟨⟨_, rfl, rfl, rfl⟩, trivial⟩) (trivial) (trivial) (trivial) rfl) trivial rfl ?_
 refine .q (op_call (U := []) [] [] (uns_ev (shortB s) (by omega)) Tryd.func47 (by kernel_rfl) rfl rfl rfl (⟨⟨_, rfl, rfl, rfl⟩, trivial⟩) (trivial) (trivial) (trivial) rfl) trivial rfl ?_
 refine .a (op_call (U := [(500, some ⟨.agg [.ptr 500 0, .sl 1000 0 ((4 + (unsB (shortB s)).length)) 1], 29, true⟩), (1000, some ⟨.aggB (bigB s), 5, true⟩)]) [(500, 500)] [(1000, 1008)] (text1_ev (unsB (shortB s)) (by omega)) Tryd.func19 (by kernel_rfl) rfl rfl rfl (⟨⟨_, rfl, rfl, rfl⟩, ⟨_, rfl, rfl, rfl⟩, trivial⟩) (⟨⟨_, _, rfl, rfl, rfl, rfl, id, rfl⟩, trivial⟩) (⟨⟨500, _, rfl, rfl, rfl, rfl, .inr ⟨rfl, _, rfl, rfl⟩⟩, ⟨1008, _, rfl, rfl, rfl, rfl, .inl rfl⟩, trivial⟩) (⟨(fun _ => ⟨500, _, rfl, rfl⟩), trivial⟩) rfl) trivial rfl ?_
 refine .q (op_assign rfl) trivial rfl ?_
 refine .nil ?_
 show Ev _ _ _ _ _
 refine .ret ?_
 show RetOk _ _ _ _ _ _ _
 exact ret1v rfl (.inl rfl) rfl rfl ⟨(by first | rfl | (simp only [List.append_assoc, Nat.add_assoc, textB, bigB]; rfl)), (by first | rfl | (simp only [List.append_assoc, Nat.add_assoc, textB, bigB]; rfl)), trivial⟩
set_option maxRecDepth 100000 in
theorem big2_ev (s : List UInt8) (hs : s.length ≤ 90000000) (l : List UInt8) (n : Nat) (hn : n = l.length) (h : n ≤ 500000000) : Meets Tryd.prog 17 [.ptr 500 0, .str s] [(500, some ⟨.agg [.ptr 500 0, .sl 501 0 (n) 1], 29, true⟩), (501, some ⟨.aggB l, 5, true⟩)] (.ptr 500 0) [(500, some ⟨.agg [.ptr 500 0, .sl 1000 0 (n + (4 + (unsB (shortB s)).length)) 1], 29, true⟩), (1000, some ⟨.aggB (l ++ bigB s), 5, true⟩)] := by
 have q1 := length_shortB s
 have q2 := length_unsB (shortB s)
 refine meets_of_ev (nt := 10) Tryd.func17 rfl rfl (Nat.le_of_ble_eq_true rfl) ?_
 refine .seq ?_
 refine .region ?_
 refine .q (op_assign rfl) trivial rfl ?_
 refine .nil ?_
 show Ev _ _ _ _ _
 refine .seq ?_
 refine .region ?_
 refine .q (op_move rfl) trivial rfl ?_
 refine .q (op_move rfl) trivial rfl ?_
 refine .q (op_call (U := []) [] [] (short_ev s (by omega)) Tryd.func48 (by kernel_rfl) rfl rfl rfl (⟨⟨_, rfl, rfl, rfl⟩, trivial⟩) (trivial) (trivial) (trivial) rfl) trivial rfl ?_
 refine .q (op_call (U := []) [] [] (uns_ev (shortB s) (by omega)) Tryd.func47 (by kernel_rfl) rfl rfl rfl (⟨⟨_, rfl, rfl, rfl⟩, trivial⟩) (trivial) (trivial) (trivial) rfl) trivial rfl ?_
 refine .a (op_call (U := [(500, some ⟨.agg [.ptr 500 0, .sl 1000 0 (n + (4 + (unsB (shortB s)).length)) 1], 29, true⟩), (1000, some ⟨.aggB (l ++ bigB s), 5, true⟩), (501, none)]) [(500, 500), (501, 501)] [(1000, 1008)] (text2_ev (unsB (shortB s)) (by omega) (l) (n) (by first | exact hn | (simp [length_numB, length_lenB, length_textB]; done) | (simp [length_numB, length_lenB, length_textB]; omega) | omega | decide +kernel) (by omega)) Tryd.func19 (by kernel_rfl) rfl rfl rfl (⟨⟨_, rfl, rfl, rfl⟩, ⟨_, rfl, rfl, rfl⟩, trivial⟩) (⟨⟨_, _, rfl, rfl, rfl, rfl, id, rfl⟩, ⟨_, _, rfl, rfl, rfl, rfl, id, rfl⟩, trivial⟩) (⟨⟨500, _, rfl, rfl, rfl, rfl, .inr ⟨rfl, _, rfl, rfl⟩⟩, ⟨1008, _, rfl, rfl, rfl, rfl, .inl rfl⟩, trivial⟩) (⟨(fun _ => ⟨500, _, rfl, rfl⟩), (fun _ => ⟨501, _, rfl, rfl⟩), trivial⟩) rfl) trivial rfl ?_
 refine .q (op_assign rfl) trivial rfl ?_
 refine .nil ?_
 show Ev _ _ _ _ _
 refine .ret ?_
 show RetOk _ _ _ _ _ _ _
 exact ret1v rfl (.inl rfl) rfl rfl ⟨(by first | rfl | (simp only [List.append_assoc, Nat.add_assoc, textB, bigB]; rfl)), (by first | rfl | (simp only [List.append_assoc, Nat.add_assoc, textB, bigB]; rfl)), trivial⟩
set_option maxRecDepth 100000 in
theorem bytes2_ev (l : List UInt8) (n : Nat) (hn : n = l.length) (h0 : 0 < n) (h : n ≤ 1000000000) : Meets Tryd.prog 21 [.ptr 500 0] [(500, some ⟨.agg [.ptr 500 0, .sl 501 0 (n) 1], 29, false⟩), (501, some ⟨.aggB l, 5, true⟩)] (.str l) [(500, some ⟨.agg [.ptr 500 0, .sl 501 0 (n) 1], 29, false⟩), (501, some ⟨.aggB l, (frz + 5), false⟩)] := by
 refine meets_of_ev (nt := 7) Tryd.func21 rfl rfl (Nat.le_of_ble_eq_true rfl) ?_
 refine .seq ?_
 refine .region ?_
 refine .q (op_assign rfl) trivial rfl ?_
 refine .nil ?_
 show Ev _ _ _ _ _
 refine .seq ?_
 refine .region ?_
 refine .q (op_move rfl) trivial rfl ?_
 refine .q (op_nilCheck rfl) trivial rfl ?_
 refine .q (op_fieldAddr (m := 1) Tryd.underlying29 rfl (by kernel_rfl) rfl) trivial rfl ?_
 refine .as (.ptr 500 0) rfl ?_
 refine .a (op_call (U := [(501, some ⟨.aggB l, (frz + 5), false⟩)]) [(500, 500), (501, 501)] [] (st2_ev l n hn h0 h) Tryd.func49 (by kernel_rfl) rfl rfl rfl (⟨⟨_, rfl, rfl, rfl⟩, trivial⟩) (⟨⟨_, _, rfl, rfl, rfl, rfl, (fun h => by cases h), rfl⟩, ⟨_, _, rfl, rfl, rfl, rfl, id, rfl⟩, trivial⟩) (⟨⟨501, _, rfl, rfl, rfl, rfl, .inr ⟨rfl, _, rfl, rfl⟩⟩, trivial⟩) (⟨(fun h => by cases h), (fun _ => ⟨501, _, rfl, rfl⟩), trivial⟩) rfl) trivial rfl ?_
 refine .q (op_assign rfl) trivial rfl ?_
 refine .nil ?_
 show Ev _ _ _ _ _
 refine .ret ?_
 show RetOk _ _ _ _ _ _ _
 exact ret1v rfl (.inl rfl) rfl rfl ⟨rfl, rfl, trivial⟩
set_option maxRecDepth 100000 in
theorem bytes3_ev (l : List UInt8) (n : Nat) (hn : n = l.length) (h0 : 0 < n) (h : n ≤ 1000000000) : Meets Tryd.prog 21 [.ptr 500 0] [(500, some ⟨.agg [.ptr 500 0, .sl 501 0 (n) 1], 29, false⟩), (501, some ⟨.aggB l, (frz + 5), false⟩)] (.str l) [(500, some ⟨.agg [.ptr 500 0, .sl 501 0 (n) 1], 29, false⟩), (501, some ⟨.aggB l, (frz + 5), false⟩)] := by
 refine meets_of_ev (nt := 7) Tryd.func21 rfl rfl (Nat.le_of_ble_eq_true rfl) ?_
 refine .seq ?_
 refine .region ?_
 refine .q (op_assign rfl) trivial rfl ?_
 refine .nil ?_
 show Ev _ _ _ _ _
 refine .seq ?_
 refine .region ?_
 refine .q (op_move rfl) trivial rfl ?_
 refine .q (op_nilCheck rfl) trivial rfl ?_
 refine .q (op_fieldAddr (m := 1) Tryd.underlying29 rfl (by kernel_rfl) rfl) trivial rfl ?_
 refine .as (.ptr 500 0) rfl ?_
 refine .q (op_call (U := []) [(500, 500), (501, 501)] [] (st3_ev l n hn h0 h) Tryd.func49 (by kernel_rfl) rfl rfl rfl (⟨⟨_, rfl, rfl, rfl⟩, trivial⟩) (⟨⟨_, _, rfl, rfl, rfl, rfl, (fun h => by cases h), rfl⟩, ⟨_, _, rfl, rfl, rfl, rfl, (fun h => by cases h), rfl⟩, trivial⟩) (trivial) (⟨(fun h => by cases h), (fun h => by cases h), trivial⟩) rfl) trivial rfl ?_
 refine .q (op_assign rfl) trivial rfl ?_
 refine .nil ?_
 show Ev _ _ _ _ _
 refine .ret ?_
 show RetOk _ _ _ _ _ _ _
 exact ret1v rfl (.inl rfl) rfl rfl ⟨rfl, rfl, trivial⟩
end Go.Proofs.YtoigppbkfhfllaaDoor
namespace Go.Proofs.YtoigppbkfhfllaaDoor
theorem take_getD {α : Type} {l : List α} {k : Nat} (d : α) (h : k < l.length) : l.take (k + 1) = l.take k ++ [l.getD k d] := by
  rw [List.take_add_one, List.getElem?_eq_getElem h]; simp [List.getD, List.getElem?_eq_getElem h]
/-- With commas between. -/
def joinB : List (List UInt8) → List UInt8
  | [] => []
  | x :: r => x ++ (r.map ([44] ++ ·)).flatten
def sumB (l : List (List UInt8)) : Nat := (l.map List.length).sum
theorem joinB_one (x : List UInt8) : joinB [x] = x := by simp [joinB]
theorem joinB_take {l : List (List UInt8)} {k : Nat} (h : k < l.length) : joinB (l.take (k + 1)) = (joinB (l.take k) ++ (if k = 0 then [] else [44])) ++ l.getD k [] := by
  cases l with
  | nil => simp at h
  | cons x r =>
    cases k with
    | zero => simp [joinB]
    | succ k =>
      have hk : k < r.length := by simpa using h
      simp only [List.take_succ_cons, joinB, List.getD_cons_succ, if_neg (Nat.succ_ne_zero k)]
      rw [take_getD [] hk, List.map_append, List.flatten_append]
      simp
theorem joinB_take_s {l : List (List UInt8)} {k : Nat} (h : k + 1 < l.length) : joinB (l.take (k + 2)) = (joinB (l.take (k + 1)) ++ [44]) ++ l.getD (k + 1) [] := by
  rw [joinB_take h, if_neg (Nat.succ_ne_zero k)]
theorem joinB_take1 {l : List (List UInt8)} (h : 0 < l.length) : joinB (l.take 1) = l.getD 0 [] := by
  rw [joinB_take h]; simp [joinB]
theorem joinB_take0 (l : List (List UInt8)) : joinB (l.take 0) = [] := rfl
theorem sumB_take {l : List (List UInt8)} {k : Nat} (h : k < l.length) : sumB (l.take (k + 1)) = sumB (l.take k) + (l.getD k []).length := by
  unfold sumB
  rw [take_getD [] h, List.map_append, List.sum_append]
  rfl
theorem sumB_take_le (l : List (List UInt8)) (k : Nat) : sumB (l.take k) ≤ sumB l := by
  unfold sumB
  induction l generalizing k with
  | nil => simp
  | cons x r ih =>
    cases k with
    | zero => simp
    | succ k => simp only [List.take_succ_cons, List.map_cons, List.sum_cons]; exact Nat.add_le_add_left (ih k) _
theorem getD_le_sumB (l : List (List UInt8)) (k : Nat) : (l.getD k []).length ≤ sumB l := by
  rcases Nat.lt_or_ge k l.length with h | h
  · have := sumB_take h; have := sumB_take_le l (k + 1); omega
  · simp [List.getD, List.getElem?_eq_none h]
theorem joinB_len : ∀ (l : List (List UInt8)), (joinB l).length = sumB l + (l.length - 1)
  | [] => rfl
  | x :: r => by
    have : ∀ (r : List (List UInt8)), ((r.map ([44] ++ ·)).flatten).length = sumB r + r.length := by
      intro r
      induction r with
      | nil => rfl
      | cons y r ih => simp only [List.map_cons, List.flatten_cons, List.length_append, ih, sumB, List.sum_cons, List.length_cons, List.length_nil]; omega
    simp only [joinB, List.length_append, this, sumB, List.map_cons, List.sum_cons, List.length_cons]; omega
theorem joinB_take_le (l : List (List UInt8)) (k : Nat) : (joinB (l.take k)).length ≤ sumB l + l.length := by
  rw [joinB_len]
  have := sumB_take_le l k
  have : (l.take k).length ≤ l.length := by rw [List.length_take]; omega
  omega
theorem quo_ok {m : Nat} (h1 : 1 ≤ m) (h2 : m ≤ 1000000000) : ¬ (1 : Int) ≥ Int.tdiv 9223372036854775807 (m : Int) := by
  have h3 : Int.tdiv 9223372036854775807 (m : Int) = ((9223372036854775807 / m : Nat) : Int) := rfl
  rw [h3]
  have h4 : 2 ≤ 9223372036854775807 / m := by
    rw [Nat.le_div_iff_mul_le (by omega)]; omega
  omega
/-- Short ones: the first k of a list. -/
def fewN (l : List (List UInt8)) (k : Nat) : List (List UInt8) := (l.take k).map (List.take 70)
theorem fewN_zero (l : List (List UInt8)) : fewN l 0 = [] := rfl
theorem fewN_succ {l : List (List UInt8)} {k : Nat} (h : k < l.length) : fewN l (k + 1) = fewN l k ++ [(l.getD k []).take 70] := by
  unfold fewN
  rw [take_getD [] h, List.map_append]
  rfl
theorem fewN_len {l : List (List UInt8)} {k : Nat} (h : k ≤ l.length) : (fewN l k).length = k := by simp [fewN, Nat.min_eq_left h]
def fewL (l : List (List UInt8)) : List (List UInt8) := fewN l 6
theorem fewL_of {l : List (List UInt8)} {k : Nat} (h : k ≤ l.length) (h2 : ¬ k < l.length ∨ ¬ k < 6) (h3 : k ≤ 6) : fewN l k = fewL l := by
  unfold fewL fewN
  rcases Nat.lt_or_ge k 6 with h4 | h4
  · rw [List.take_of_length_le (by omega : l.length ≤ k), List.take_of_length_le (by omega)]
  · rw [show k = 6 by omega]
theorem fewL_len (l : List (List UInt8)) : (fewL l).length ≤ 6 := by simp [fewL, fewN]; omega
theorem fewL_sum (l : List (List UInt8)) : sumB (fewL l) ≤ 420 := by
  unfold sumB fewL fewN
  have h : ∀ (m : List (List UInt8)), (((m.map (List.take 70)).map List.length).sum) ≤ 70 * m.length := by
    intro m
    induction m with
    | nil => simp
    | cons x r ih => simp only [List.map_cons, List.sum_cons, List.length_cons, List.length_take]; omega
  have := h (l.take 6)
  have : (l.take 6).length ≤ 6 := by rw [List.length_take]; omega
  omega
theorem drop_get {l : List (List UInt8)} {k : Nat} (h : k < l.length) : (l.drop k)[0]? = some (l.getD k []) := by
  rw [List.getElem?_drop, Nat.add_zero, List.getElem?_eq_getElem h]; simp [List.getD, List.getElem?_eq_getElem h]
theorem drop_get1 {l : List (List UInt8)} {k : Nat} (h : k + 1 < l.length) : (((l.drop 1).take (l.length - 1)).drop k)[0]? = some (l.getD (k + 1) []) := by
  rw [List.getElem?_drop, Nat.add_zero, List.getElem?_take, if_pos (by omega), List.getElem?_drop, Nat.add_comm 1 k, List.getElem?_eq_getElem h]; simp [List.getD, List.getElem?_eq_getElem h]
end Go.Proofs.YtoigppbkfhfllaaDoor
