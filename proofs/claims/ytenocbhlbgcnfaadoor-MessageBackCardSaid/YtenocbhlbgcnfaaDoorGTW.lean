/-
  Texts of this claim.
-/
import Derived.Test.YtenocbhlbgcnfaaDoorGTE
namespace Go.Proofs.YtenocbhlbgcnfaaDoor
open Go.RowKit

/-- What is left to read, and the number of the first error (0: none). -/
structure DI where
  r : List UInt8
  e : Nat
def orE : Nat → Nat → Nat
  | 0, x => x
  | n + 1, _ => n + 1
def failD (i : DI) (x : Nat) : DI := ⟨[], orE i.e x⟩
def rawD (i : DI) (n : Nat) : DI × List UInt8 := if n ≤ i.r.length then (⟨i.r.drop n, i.e⟩, i.r.take n) else (failD i 2, [])
/-- The number of the first j bytes. -/
def numL (s : List UInt8) : Nat → UInt64
  | 0 => 0
  | j + 1 => numL s j <<< UInt64.ofNat 8 ||| (s.getD j 0).toUInt64
def numV (s : List UInt8) : UInt64 := numL s s.length
def numD (i : DI) (k : Nat) : DI × UInt64 := ((rawD i k).1, numV (rawD i k).2)
def byteD (i : DI) : DI × UInt8 := ((numD i 1).1, (numD i 1).2.toUInt8)
def boolD (i : DI) : DI × Bool := ((byteD i).1, (byteD i).2 != 0)
def u32D (i : DI) : DI × UInt32 := ((numD i 4).1, (numD i 4).2.toUInt32)
def u64D (i : DI) : DI × UInt64 := numD i 8
def textD (i : DI) (most : Int) : DI × List UInt8 := if most < ((u32D i).2.toNat : Int) then (failD (u32D i).1 4, []) else rawD (u32D i).1 (u32D i).2.toNat
def chOk (c : UInt8) : Bool := !(decide (c ≤ 32)) && !(decide (126 < c)) && !(c == 44)
def nameOk (s : List UInt8) : Bool := !(s == []) && !(decide (64 < s.length)) && s.all chOk
def splitC : List UInt8 → List (List UInt8)
  | [] => [[]]
  | c :: s => if c = 44 then [] :: splitC s else match splitC s with
    | x :: l => (c :: x) :: l
    | [] => [[c]]
def namesD (i : DI) : DI × List (List UInt8) :=
  if (textD i 4096).2 = [] then ((textD i 4096).1, []) else
  if (splitC (textD i 4096).2).all nameOk then ((textD i 4096).1, splitC (textD i 4096).2) else (failD (textD i 4096).1 3, [])
def endD (i : DI) : DI := if i.r = [] then i else failD i 3

def bigM (most : Int) : Int := min (max most 0) 4096
def bigT (i : DI) (most : Int) : DI × List UInt8 := textD i (bigM most + 1)
def shortB (s : List UInt8) : List UInt8 := s.dropWhile (fun x => x == 0)
def unsB (s : List UInt8) : List UInt8 := if s = [] then [] else if s.getD 0 0 < 128 then s else 0 :: s
def bigD (i : DI) (most : Int) : DI × List UInt8 :=
  if unsB (shortB (bigT i most).2) = (bigT i most).2 then
    if bigM most < ((shortB (bigT i most).2).length : Int) then (failD (bigT i most).1 4, []) else ((bigT i most).1, shortB (bigT i most).2)
  else (failD (bigT i most).1 3, [])
/-- Where an error is, nothing is left. -/
def DI.ok (i : DI) : Prop := i.e ≠ 0 → i.r = []
theorem rawD_length (i : DI) (n : Nat) : (rawD i n).2.length = n ∨ (rawD i n).2 = [] := by
  unfold rawD
  split
  · left; simp only [List.length_take]; omega
  · right; rfl
theorem rawD_len_le (i : DI) (n : Nat) : (rawD i n).2.length ≤ i.r.length ∧ (rawD i n).1.r.length ≤ i.r.length := by
  unfold rawD
  split
  · simp only [List.length_take, List.length_drop]; omega
  · simp [failD]
theorem textD_len_le (i : DI) (m : Int) : (textD i m).2.length ≤ i.r.length ∧ (textD i m).1.r.length ≤ i.r.length := by
  have h0 := rawD_len_le i 4
  unfold textD
  split
  · simp [failD]
  · have h := rawD_len_le (u32D i).1 (u32D i).2.toNat
    have h2 : (u32D i).1.r.length ≤ i.r.length := h0.2
    omega
end Go.Proofs.YtenocbhlbgcnfaaDoor
namespace Go.Proofs.YtenocbhlbgcnfaaDoor
open Go.RowKit
set_option maxRecDepth 100000 in
theorem cc0_ev  : Meets Tryd.prog 62 [.ptr 500 0] [(500, some ⟨.agg [.val (.pointer none), .nilsl], 56, true⟩)] (.tup []) [(500, some ⟨.agg [.ptr 500 0, .nilsl], 56, true⟩)] := by
 refine meets_of_ev (nt := 20) Tryd.func62 rfl rfl (Nat.le_of_ble_eq_true rfl) ?_
 refine .seq ?_
 refine .region ?_
 refine .q (op_move rfl) trivial rfl ?_
 refine .q (op_nilCheck rfl) trivial rfl ?_
 refine .q (op_fieldAddr (m := 0) Tryd.underlying54 rfl (by kernel_rfl) rfl) trivial rfl ?_
 refine .as (.ptr 500 0) rfl ?_
 refine .q (op_load Tryd.underlying51 rfl rfl rfl rfl (by first | omega | (simp only [AV.len]; omega) | (simp only [AV.len]; omega) | assumption | (simp [AV.len]; done))) trivial rfl ?_
 refine .q (op_eqNilPtr Tryd.underlying51 rfl rfl rfl) trivial rfl ?_
 refine .nil ?_
 show Ev _ _ _ _ _
 refine .cond_true rfl (rfl) ?_
 refine .region ?_
 refine .q (op_move rfl) trivial rfl ?_
 refine .q (op_move rfl) trivial rfl ?_
 refine .q (op_toUnsafe Tryd.underlying51 Tryd.underlying117 (by kernel_rfl) rfl rfl rfl) trivial rfl ?_
 refine .q (op_noEscape Tryd.func68 (by kernel_rfl) (by kernel_rfl) (by kernel_rfl) rfl rfl) trivial rfl ?_
 refine .q (op_fromUnsafe Tryd.underlying117 Tryd.underlying51 (by kernel_rfl) rfl rfl (by decide) rfl (by kernel_rfl) (by kernel_rfl) (by kernel_rfl)) trivial rfl ?_
 refine .q (op_nilCheck rfl) trivial rfl ?_
 refine .q (op_fieldAddr (m := 0) Tryd.underlying54 rfl (by kernel_rfl) rfl) trivial rfl ?_
 refine .as (.ptr 500 0) rfl ?_
 refine .w (op_store (by kernel_rfl) rfl rfl rfl rfl rfl (by first | omega | (simp only [AV.len]; omega) | (simp only [AV.len]; omega) | assumption | (simp [AV.len]; done))) trivial rfl ?_
 refine .nil ?_
 show RetOk _ _ _ _ _ _ _
 exact ret0 rfl (.inr rfl) ⟨rfl, trivial⟩
set_option maxRecDepth 100000 in
theorem cc2_ev (n : Nat) : Meets Tryd.prog 62 [.ptr 500 0] [(500, some ⟨.agg [.ptr 500 0, .sl 501 0 (n) 1], 56, false⟩)] (.tup []) [(500, some ⟨.agg [.ptr 500 0, .sl 501 0 (n) 1], 56, false⟩)] := by
 refine meets_of_ev (nt := 20) Tryd.func62 rfl rfl (Nat.le_of_ble_eq_true rfl) ?_
 refine .seq ?_
 refine .region ?_
 refine .q (op_move rfl) trivial rfl ?_
 refine .q (op_nilCheck rfl) trivial rfl ?_
 refine .q (op_fieldAddr (m := 0) Tryd.underlying54 rfl (by kernel_rfl) rfl) trivial rfl ?_
 refine .as (.ptr 500 0) rfl ?_
 refine .q (op_load Tryd.underlying51 rfl rfl rfl rfl (by first | omega | (simp only [AV.len]; omega) | (simp only [AV.len]; omega) | assumption | (simp [AV.len]; done))) trivial rfl ?_
 refine .q (op_eqPtrNil Tryd.underlying51 rfl rfl rfl) trivial rfl ?_
 refine .nil ?_
 show Ev _ _ _ _ _
 refine .cond_false rfl (rfl) ?_
 refine .seq ?_
 refine .region ?_
 refine .q (op_move rfl) trivial rfl ?_
 refine .q (op_nilCheck rfl) trivial rfl ?_
 refine .q (op_fieldAddr (m := 0) Tryd.underlying54 rfl (by kernel_rfl) rfl) trivial rfl ?_
 refine .as (.ptr 500 0) rfl ?_
 refine .q (op_load Tryd.underlying51 rfl rfl rfl rfl (by first | omega | (simp only [AV.len]; omega) | (simp only [AV.len]; omega) | assumption | (simp [AV.len]; done))) trivial rfl ?_
 refine .q (op_move rfl) trivial rfl ?_
 refine .q (op_eqPtrSame Tryd.underlying51 (by kernel_rfl) rfl rfl rfl) trivial rfl ?_
 refine .nil ?_
 show Ev _ _ _ _ _
 refine .cond_false rfl (rfl) ?_
 refine .skip ?_
 show RetOk _ _ _ _ _ _ _
 exact ret0 rfl (.inr rfl) ⟨rfl, trivial⟩
set_option maxRecDepth 100000 in
theorem wb0_ev (c : UInt8) : Meets Tryd.prog 39 [.ptr 500 0, .u8 c] [(500, some ⟨.agg [.val (.pointer none), .nilsl], 56, true⟩)] (.val .nilIface) [(500, some ⟨.agg [.ptr 500 0, .sl 1016 0 (1) 1], 56, true⟩), (1016, some ⟨.aggB [c], 5, true⟩)] := by
 refine meets_of_ev (nt := 17) Tryd.func39 rfl rfl (Nat.le_of_ble_eq_true rfl) ?_
 refine .seq ?_
 refine .region ?_
 refine .q (op_assign rfl) trivial rfl ?_
 refine .nil ?_
 show Ev _ _ _ _ _
 refine .seq ?_
 refine .region ?_
 refine .q (op_move rfl) trivial rfl ?_
 refine .a (op_call (U := [(500, some ⟨.agg [.ptr 500 0, .nilsl], 56, true⟩)]) [(500, 500)] [] (cc0_ev) Tryd.func62 (by kernel_rfl) rfl rfl rfl (⟨⟨_, rfl, rfl, rfl⟩, trivial⟩) (⟨⟨_, _, rfl, rfl, rfl, rfl, id, rfl⟩, trivial⟩) (⟨⟨500, _, rfl, rfl, rfl, rfl, .inr ⟨rfl, _, rfl, rfl⟩⟩, trivial⟩) (⟨(fun _ => ⟨500, _, rfl, rfl⟩), trivial⟩) rfl) trivial rfl ?_
 refine .nil ?_
 show Ev _ _ _ _ _
 refine .seq ?_
 refine .region ?_
 refine .q (op_move rfl) trivial rfl ?_
 refine .q (op_move rfl) trivial rfl ?_
 refine .q (op_nilCheck rfl) trivial rfl ?_
 refine .q (op_fieldAddr (m := 0) Tryd.underlying54 rfl (by kernel_rfl) rfl) trivial rfl ?_
 refine .as (.ptr 500 1) rfl ?_
 refine .q (op_load Tryd.underlying52 rfl rfl rfl rfl (by first | omega | (simp only [AV.len]; omega) | (simp only [AV.len]; omega) | assumption | (simp [AV.len]; done))) trivial rfl ?_
 refine .q (op_move rfl) trivial rfl ?_
 refine .a (ap_build (us := [_]) (c := .aggB [_]) Tryd.underlying52 inf5 rfl (by decide) (by decide) ⟨rfl, rfl, rfl, trivial⟩ rfl) trivial rfl ?_
 refine .a (ap_cat_nil Tryd.underlying52 inf5 rfl rfl rfl rfl (by first | omega | (simp only [AV.len]; omega) | (simp only [AV.len, List.length_set]; omega) | assumption | (simp [AV.len]; done)) (by first | omega | (simp only [AV.len]; omega) | (simp only [AV.len, List.length_set]; omega) | assumption | (simp [AV.len]; done))) trivial rfl ?_
 refine .q (op_nilCheck rfl) trivial rfl ?_
 refine .q (op_fieldAddr (m := 0) Tryd.underlying54 rfl (by kernel_rfl) rfl) trivial rfl ?_
 refine .as (.ptr 500 1) rfl ?_
 refine .w (op_store (by kernel_rfl) rfl rfl rfl rfl rfl (by first | omega | (simp only [AV.len]; omega) | (simp only [AV.len]; omega) | assumption | (simp [AV.len]; done))) trivial rfl ?_
 refine .nil ?_
 show Ev _ _ _ _ _
 refine .seq ?_
 refine .region ?_
 refine .q (op_assign rfl) trivial rfl ?_
 refine .nil ?_
 show Ev _ _ _ _ _
 refine .ret ?_
 show RetOk _ _ _ _ _ _ _
 exact ret1v rfl (.inl rfl) rfl rfl ⟨rfl, rfl, trivial⟩
set_option maxRecDepth 100000 in
theorem wb2_ev (l : List UInt8) (n : Nat) (hn : n = l.length) (h : n ≤ 1000000000) (c : UInt8) : Meets Tryd.prog 39 [.ptr 500 0, .u8 c] [(500, some ⟨.agg [.ptr 500 0, .sl 501 0 (n) 1], 56, true⟩), (501, some ⟨.aggB l, 5, true⟩)] (.val .nilIface) [(500, some ⟨.agg [.ptr 500 0, .sl 1008 0 (n + 1) 1], 56, true⟩), (1008, some ⟨.aggB (l ++ [c]), 5, true⟩)] := by
 refine meets_of_ev (nt := 17) Tryd.func39 rfl rfl (Nat.le_of_ble_eq_true rfl) ?_
 refine .seq ?_
 refine .region ?_
 refine .q (op_assign rfl) trivial rfl ?_
 refine .nil ?_
 show Ev _ _ _ _ _
 refine .seq ?_
 refine .region ?_
 refine .q (op_move rfl) trivial rfl ?_
 refine .q (op_call (U := []) [(500, 500), (501, 501)] [] (cc2_ev n) Tryd.func62 (by kernel_rfl) rfl rfl rfl (⟨⟨_, rfl, rfl, rfl⟩, trivial⟩) (⟨⟨_, _, rfl, rfl, rfl, rfl, (fun h => by cases h), rfl⟩, trivial⟩) (trivial) (⟨(fun h => by cases h), trivial⟩) rfl) trivial rfl ?_
 refine .nil ?_
 show Ev _ _ _ _ _
 refine .seq ?_
 refine .region ?_
 refine .q (op_move rfl) trivial rfl ?_
 refine .q (op_move rfl) trivial rfl ?_
 refine .q (op_nilCheck rfl) trivial rfl ?_
 refine .q (op_fieldAddr (m := 0) Tryd.underlying54 rfl (by kernel_rfl) rfl) trivial rfl ?_
 refine .as (.ptr 500 1) rfl ?_
 refine .q (op_load Tryd.underlying52 rfl rfl rfl rfl (by first | omega | (simp only [AV.len]; omega) | (simp only [AV.len]; omega) | assumption | (simp [AV.len]; done))) trivial rfl ?_
 refine .q (op_move rfl) trivial rfl ?_
 refine .a (ap_build (us := [_]) (c := .aggB [_]) Tryd.underlying52 inf5 rfl (by decide) (by decide) ⟨rfl, rfl, rfl, trivial⟩ rfl) trivial rfl ?_
 refine .a (ap_cat Tryd.underlying52 inf5 rfl rfl rfl rfl (by first | rfl | omega | (simp only [AV.len]; omega)) rfl rfl (by first | rfl | omega | (simp only [AV.len]; omega)) rfl (by first | rfl | omega | (simp only [AV.len]; omega))) trivial rfl ?_
 refine .q (op_nilCheck rfl) trivial rfl ?_
 refine .q (op_fieldAddr (m := 0) Tryd.underlying54 rfl (by kernel_rfl) rfl) trivial rfl ?_
 refine .as (.ptr 500 1) rfl ?_
 refine .w (op_store (by kernel_rfl) rfl rfl rfl rfl rfl (by first | omega | (simp only [AV.len]; omega) | (simp only [AV.len]; omega) | assumption | (simp [AV.len]; done))) trivial rfl ?_
 refine .nil ?_
 show Ev _ _ _ _ _
 refine .seq ?_
 refine .region ?_
 refine .q (op_assign rfl) trivial rfl ?_
 refine .nil ?_
 show Ev _ _ _ _ _
 refine .ret ?_
 show RetOk _ _ _ _ _ _ _
 exact ret1v rfl (.inl rfl) rfl rfl ⟨rfl, rfl, trivial⟩
set_option maxRecDepth 100000 in
theorem ws2_ev (l : List UInt8) (n : Nat) (hn : n = l.length) (h : n ≤ 1000000000) (s : List UInt8) (hs : s.length ≤ 1000000000) : Meets Tryd.prog 61 [.ptr 500 0, .str s] [(500, some ⟨.agg [.ptr 500 0, .sl 501 0 (n) 1], 56, true⟩), (501, some ⟨.aggB l, 5, true⟩)] (.tup [.i64 (s.length : Int), .val .nilIface]) [(500, some ⟨.agg [.ptr 500 0, .sl 1000 0 (n + s.length) 1], 56, true⟩), (1000, some ⟨.aggB (l ++ s), 5, true⟩)] := by
 refine meets_of_ev (nt := 19) Tryd.func61 rfl rfl (Nat.le_of_ble_eq_true rfl) ?_
 refine .seq ?_
 refine .region ?_
 refine .q (op_assign rfl) trivial rfl ?_
 refine .q (op_assign rfl) trivial rfl ?_
 refine .nil ?_
 show Ev _ _ _ _ _
 refine .seq ?_
 refine .region ?_
 refine .q (op_move rfl) trivial rfl ?_
 refine .q (op_call (U := []) [(500, 500), (501, 501)] [] (cc2_ev n) Tryd.func62 (by kernel_rfl) rfl rfl rfl (⟨⟨_, rfl, rfl, rfl⟩, trivial⟩) (⟨⟨_, _, rfl, rfl, rfl, rfl, (fun h => by cases h), rfl⟩, trivial⟩) (trivial) (⟨(fun h => by cases h), trivial⟩) rfl) trivial rfl ?_
 refine .nil ?_
 show Ev _ _ _ _ _
 refine .seq ?_
 refine .region ?_
 refine .q (op_move rfl) trivial rfl ?_
 refine .q (op_move rfl) trivial rfl ?_
 refine .q (op_nilCheck rfl) trivial rfl ?_
 refine .q (op_fieldAddr (m := 0) Tryd.underlying54 rfl (by kernel_rfl) rfl) trivial rfl ?_
 refine .as (.ptr 500 1) rfl ?_
 refine .q (op_load Tryd.underlying52 rfl rfl rfl rfl (by first | omega | (simp only [AV.len]; omega) | (simp only [AV.len]; omega) | assumption | (simp [AV.len]; done))) trivial rfl ?_
 refine .q (op_move rfl) trivial rfl ?_
 refine .a (ap_catS Tryd.underlying52 inf5 Tryd.underlying9 rfl rfl rfl (hn) (by omega)) trivial rfl ?_
 refine .q (op_nilCheck rfl) trivial rfl ?_
 refine .q (op_fieldAddr (m := 0) Tryd.underlying54 rfl (by kernel_rfl) rfl) trivial rfl ?_
 refine .as (.ptr 500 1) rfl ?_
 refine .w (op_store (by kernel_rfl) rfl rfl rfl rfl rfl (by first | omega | (simp only [AV.len]; omega) | (simp only [AV.len]; omega) | assumption | (simp [AV.len]; done))) trivial rfl ?_
 refine .nil ?_
 show Ev _ _ _ _ _
 refine .seq ?_
 refine .region ?_
 refine .q (op_move rfl) trivial rfl ?_
 refine .q (op_len_str Tryd.underlying9 rfl) trivial rfl ?_
 refine .q (op_assign rfl) trivial rfl ?_
 refine .q (op_assign rfl) trivial rfl ?_
 refine .nil ?_
 show Ev _ _ _ _ _
 refine .ret ?_
 show RetOk _ _ _ _ _ _ _
 exact ret2v rfl (.inl rfl) rfl rfl rfl rfl ⟨rfl, rfl, trivial⟩
set_option maxRecDepth 100000 in
theorem st2_ev (l : List UInt8) (n : Nat) (hn : n = l.length) (h0 : 0 < n) (h : n ≤ 1000000000) : Meets Tryd.prog 48 [.ptr 500 0] [(500, some ⟨.agg [.ptr 500 0, .sl 501 0 (n) 1], 56, false⟩), (501, some ⟨.aggB l, 5, true⟩)] (.str l) [(500, some ⟨.agg [.ptr 500 0, .sl 501 0 (n) 1], 56, false⟩), (501, some ⟨.aggB l, (frz + 5), false⟩)] := by
 refine meets_of_ev (nt := 14) Tryd.func48 rfl rfl (Nat.le_of_ble_eq_true rfl) ?_
 refine .seq ?_
 refine .region ?_
 refine .q (op_assign rfl) trivial rfl ?_
 refine .nil ?_
 show Ev _ _ _ _ _
 refine .seq ?_
 refine .drawn [[], [0], [0, 1], [0, 1, 2], [0, 1, 2, 3], [], [5], [5, 6], [5, 6, 7], [5, 6, 7, 8], [0, 1, 2, 3, 4, 5, 6, 7, 8, 9], [0, 1, 2, 3, 4, 5, 6, 7, 8, 9, 10]] [3, 8, 10] [10] (by kernel_rfl) (by kernel_rfl) rfl ?_
 show DK _ [0, 1, 2, 3, 4, 5, 6, 7, 8, 9, 10, 11] _ _ _
 refine .q rfl (op_move rfl) trivial ?_
 refine .q rfl (op_nilCheck rfl) trivial ?_
 refine .q rfl (op_fieldAddr (m := 0) Tryd.underlying54 rfl (by kernel_rfl) rfl) trivial ?_
 refine .as (.ptr 500 1) rfl ?_
 refine .q rfl (op_load Tryd.underlying52 rfl rfl rfl rfl (by first | omega | (simp only [AV.len]; omega) | (simp only [AV.len]; omega) | assumption | (simp [AV.len]; done))) trivial ?_
 refine .q rfl (op_sliceData rfl (h0)) trivial ?_
 refine .q rfl (op_move rfl) trivial ?_
 refine .q rfl (op_nilCheck rfl) trivial ?_
 refine .q rfl (op_fieldAddr (m := 0) Tryd.underlying54 rfl (by kernel_rfl) rfl) trivial ?_
 refine .as (.ptr 500 1) rfl ?_
 refine .q rfl (op_load Tryd.underlying52 rfl rfl rfl rfl (by first | omega | (simp only [AV.len]; omega) | (simp only [AV.len]; omega) | assumption | (simp [AV.len]; done))) trivial ?_
 refine .q rfl (op_len_sl Tryd.underlying52 rfl) trivial ?_
 refine .a rfl (op_unsafeString (e := 5) Tryd.underlying114 (by kernel_rfl) rfl rfl (congrArg Int.ofNat hn) rfl rfl rfl (by decide) (by decide) rfl (by omega) (by omega)) trivial rfl rfl ?_
 refine .q rfl (op_assign rfl) trivial ?_
 refine .nil ?_
 show Ev _ _ _ _ _
 refine .ret ?_
 show RetOk _ _ _ _ _ _ _
 exact ret1v rfl (.inl rfl) rfl rfl ⟨rfl, rfl, trivial⟩
end Go.Proofs.YtenocbhlbgcnfaaDoor
namespace Go.Proofs.YtenocbhlbgcnfaaDoor
open Go.RowKit
/-- The last sz bytes of a number, of which j are written. -/
def numB (x : UInt64) (sz : Nat) : Nat → List UInt8
  | 0 => []
  | j + 1 => numB x sz j ++ [(x >>> UInt64.ofNat (8 * (sz - 1 - j))).toUInt8]
theorem length_numB (x : UInt64) (sz j : Nat) : (numB x sz j).length = j := by induction j with | zero => rfl | succ j ih => simp [numB, ih]
def lenB (s : List UInt8) : List UInt8 := numB (ofI32 (s.length : Int)).toUInt64 4 4
def textB (s : List UInt8) : List UInt8 := lenB s ++ s
theorem length_lenB (s : List UInt8) : (lenB s).length = 4 := length_numB _ _ _
theorem length_textB (s : List UInt8) : (textB s).length = 4 + s.length := by simp [textB, length_lenB]
def bigB (s : List UInt8) : List UInt8 := textB (unsB (shortB s))
set_option maxRecDepth 100000 in
theorem byte0_ev (c : UInt8) : Meets Tryd.prog 23 [.ptr 500 0, .u8 c] [(500, some ⟨.agg [.val (.pointer none), .nilsl], 56, true⟩)] (.ptr 500 0) [(500, some ⟨.agg [.ptr 500 0, .sl 1000 0 (1) 1], 56, true⟩), (1000, some ⟨.aggB ([c]), 5, true⟩)] := by
 refine meets_of_ev (nt := 11) Tryd.func23 rfl rfl (Nat.le_of_ble_eq_true rfl) ?_
 refine .seq ?_
 refine .region ?_
 refine .q (op_assign rfl) trivial rfl ?_
 refine .nil ?_
 show Ev _ _ _ _ _
 refine .seq ?_
 refine .region ?_
 refine .q (op_move rfl) trivial rfl ?_
 refine .q (op_nilCheck rfl) trivial rfl ?_
 refine .q (op_fieldAddr (m := 1) Tryd.underlying56 rfl (by kernel_rfl) rfl) trivial rfl ?_
 refine .as (.ptr 500 0) rfl ?_
 refine .q (op_move rfl) trivial rfl ?_
 refine .a (op_call (U := [(500, some ⟨.agg [.ptr 500 0, .sl 1000 0 (1) 1], 56, true⟩), (1000, some ⟨.aggB [c], 5, true⟩)]) [(500, 500)] [(1000, 1016)] (wb0_ev c) Tryd.func39 (by kernel_rfl) rfl rfl rfl (⟨⟨_, rfl, rfl, rfl⟩, ⟨_, rfl, rfl, rfl⟩, trivial⟩) (⟨⟨_, _, rfl, rfl, rfl, rfl, id, rfl⟩, trivial⟩) (⟨⟨500, _, rfl, rfl, rfl, rfl, .inr ⟨rfl, _, rfl, rfl⟩⟩, ⟨1016, _, rfl, rfl, rfl, rfl, .inl rfl⟩, trivial⟩) (⟨(fun _ => ⟨500, _, rfl, rfl⟩), trivial⟩) rfl) trivial rfl ?_
 refine .nil ?_
 show Ev _ _ _ _ _
 refine .seq ?_
 refine .region ?_
 refine .q (op_move rfl) trivial rfl ?_
 refine .q (op_assign rfl) trivial rfl ?_
 refine .nil ?_
 show Ev _ _ _ _ _
 refine .ret ?_
 show RetOk _ _ _ _ _ _ _
 exact ret1v rfl (.inl rfl) rfl rfl ⟨(by first | rfl | (simp only [List.append_assoc, Nat.add_assoc, textB, bigB]; rfl)), (by first | rfl | (simp only [List.append_assoc, Nat.add_assoc, textB, bigB]; rfl)), trivial⟩
set_option maxRecDepth 100000 in
theorem byte2_ev (c : UInt8) (l : List UInt8) (n : Nat) (hn : n = l.length) (h : n ≤ 900000000) : Meets Tryd.prog 23 [.ptr 500 0, .u8 c] [(500, some ⟨.agg [.ptr 500 0, .sl 501 0 (n) 1], 56, true⟩), (501, some ⟨.aggB l, 5, true⟩)] (.ptr 500 0) [(500, some ⟨.agg [.ptr 500 0, .sl 1000 0 (n + 1) 1], 56, true⟩), (1000, some ⟨.aggB (l ++ [c]), 5, true⟩)] := by
 refine meets_of_ev (nt := 11) Tryd.func23 rfl rfl (Nat.le_of_ble_eq_true rfl) ?_
 refine .seq ?_
 refine .region ?_
 refine .q (op_assign rfl) trivial rfl ?_
 refine .nil ?_
 show Ev _ _ _ _ _
 refine .seq ?_
 refine .region ?_
 refine .q (op_move rfl) trivial rfl ?_
 refine .q (op_nilCheck rfl) trivial rfl ?_
 refine .q (op_fieldAddr (m := 1) Tryd.underlying56 rfl (by kernel_rfl) rfl) trivial rfl ?_
 refine .as (.ptr 500 0) rfl ?_
 refine .q (op_move rfl) trivial rfl ?_
 refine .a (op_call (U := [(500, some ⟨.agg [.ptr 500 0, .sl 1000 0 (n + 1) 1], 56, true⟩), (1000, some ⟨.aggB (l ++ [c]), 5, true⟩), (501, none)]) [(500, 500), (501, 501)] [(1000, 1008)] (wb2_ev l n hn (by omega) c) Tryd.func39 (by kernel_rfl) rfl rfl rfl (⟨⟨_, rfl, rfl, rfl⟩, ⟨_, rfl, rfl, rfl⟩, trivial⟩) (⟨⟨_, _, rfl, rfl, rfl, rfl, id, rfl⟩, ⟨_, _, rfl, rfl, rfl, rfl, id, rfl⟩, trivial⟩) (⟨⟨500, _, rfl, rfl, rfl, rfl, .inr ⟨rfl, _, rfl, rfl⟩⟩, ⟨1008, _, rfl, rfl, rfl, rfl, .inl rfl⟩, trivial⟩) (⟨(fun _ => ⟨500, _, rfl, rfl⟩), (fun _ => ⟨501, _, rfl, rfl⟩), trivial⟩) rfl) trivial rfl ?_
 refine .nil ?_
 show Ev _ _ _ _ _
 refine .seq ?_
 refine .region ?_
 refine .q (op_move rfl) trivial rfl ?_
 refine .q (op_assign rfl) trivial rfl ?_
 refine .nil ?_
 show Ev _ _ _ _ _
 refine .ret ?_
 show RetOk _ _ _ _ _ _ _
 exact ret1v rfl (.inl rfl) rfl rfl ⟨(by first | rfl | (simp only [List.append_assoc, Nat.add_assoc, textB, bigB]; rfl)), (by first | rfl | (simp only [List.append_assoc, Nat.add_assoc, textB, bigB]; rfl)), trivial⟩
set_option maxRecDepth 100000 in
theorem raw2_ev (s : List UInt8) (hs : s.length ≤ 900000000) (l : List UInt8) (n : Nat) (hn : n = l.length) (h : n ≤ 900000000) : Meets Tryd.prog 46 [.ptr 500 0, .str s] [(500, some ⟨.agg [.ptr 500 0, .sl 501 0 (n) 1], 56, true⟩), (501, some ⟨.aggB l, 5, true⟩)] (.ptr 500 0) [(500, some ⟨.agg [.ptr 500 0, .sl 1000 0 (n + s.length) 1], 56, true⟩), (1000, some ⟨.aggB (l ++ s), 5, true⟩)] := by
 refine meets_of_ev (nt := 11) Tryd.func46 rfl rfl (Nat.le_of_ble_eq_true rfl) ?_
 refine .seq ?_
 refine .region ?_
 refine .q (op_assign rfl) trivial rfl ?_
 refine .nil ?_
 show Ev _ _ _ _ _
 refine .seq ?_
 refine .region ?_
 refine .q (op_move rfl) trivial rfl ?_
 refine .q (op_nilCheck rfl) trivial rfl ?_
 refine .q (op_fieldAddr (m := 1) Tryd.underlying56 rfl (by kernel_rfl) rfl) trivial rfl ?_
 refine .as (.ptr 500 0) rfl ?_
 refine .q (op_move rfl) trivial rfl ?_
 refine .a (op_call (U := [(500, some ⟨.agg [.ptr 500 0, .sl 1000 0 (n + s.length) 1], 56, true⟩), (1000, some ⟨.aggB (l ++ s), 5, true⟩), (501, none)]) [(500, 500), (501, 501)] [(1000, 1000)] (ws2_ev l n hn (by omega) s (by omega)) Tryd.func61 (by kernel_rfl) rfl rfl rfl (⟨⟨_, rfl, rfl, rfl⟩, ⟨_, rfl, rfl, rfl⟩, trivial⟩) (⟨⟨_, _, rfl, rfl, rfl, rfl, id, rfl⟩, ⟨_, _, rfl, rfl, rfl, rfl, id, rfl⟩, trivial⟩) (⟨⟨500, _, rfl, rfl, rfl, rfl, .inr ⟨rfl, _, rfl, rfl⟩⟩, ⟨1000, _, rfl, rfl, rfl, rfl, .inl rfl⟩, trivial⟩) (⟨(fun _ => ⟨500, _, rfl, rfl⟩), (fun _ => ⟨501, _, rfl, rfl⟩), trivial⟩) rfl) trivial rfl ?_
 refine .nil ?_
 show Ev _ _ _ _ _
 refine .seq ?_
 refine .region ?_
 refine .q (op_move rfl) trivial rfl ?_
 refine .q (op_assign rfl) trivial rfl ?_
 refine .nil ?_
 show Ev _ _ _ _ _
 refine .ret ?_
 show RetOk _ _ _ _ _ _ _
 exact ret1v rfl (.inl rfl) rfl rfl ⟨(by first | rfl | (simp only [List.append_assoc, Nat.add_assoc, textB, bigB]; rfl)), (by first | rfl | (simp only [List.append_assoc, Nat.add_assoc, textB, bigB]; rfl)), trivial⟩
set_option maxRecDepth 100000 in
theorem num2_ev (x : UInt64) (sz : Nat) (h0 : 1 ≤ sz) (h8 : sz ≤ 8) (l : List UInt8) (n : Nat) (hn : n = l.length) (h : n ≤ 800000000) : Meets Tryd.prog 63 [.ptr 500 0, .u64 x, .i64 (sz : Int)] [(500, some ⟨.agg [.ptr 500 0, .sl 501 0 (n) 1], 56, true⟩), (501, some ⟨.aggB l, 5, true⟩)] (.ptr 500 0) [(500, some ⟨.agg [.ptr 500 0, .sl 1000 0 (n + sz) 1], 56, true⟩), (1000, some ⟨.aggB (l ++ numB x sz sz), 5, true⟩)] := by
 refine meets_of_ev (nt := 24) Tryd.func63 rfl rfl (Nat.le_of_ble_eq_true rfl) ?_
 refine .seq ?_
 refine .region ?_
 refine .q (op_assign rfl) trivial rfl ?_
 refine .nil ?_
 show Ev _ _ _ _ _
 refine .seq ?_
 refine .seq ?_
 refine .region ?_
 refine .q (op_move rfl) trivial rfl ?_
 refine .q (op_move rfl) trivial rfl ?_
 refine .nil ?_
 show Ev _ _ _ _ _
 refine .block ?_
 refine Ev.loop (ι := Option { j : Nat // 1 ≤ j ∧ j ≤ sz }) (fun q => match q with | none => ⟨[(0, .ptr 500 0), (1, .u64 x), (2, .i64 (sz : Int)), (8, .i64 (sz : Int)), (9, .i64 0)], [(500, some ⟨.agg [.ptr 500 0, .sl 501 0 (n) 1], 56, true⟩), (501, some ⟨.aggB l, 5, true⟩)], 1000⟩ | some q => ⟨[(0, .ptr 500 0), (1, .u64 x), (2, .i64 (sz : Int)), (8, .i64 (sz : Int)), (9, .i64 ((q.1 : Nat) : Int))], [(500, some ⟨.agg [.ptr 500 0, .sl 1000 0 (n + q.1) 1], 56, true⟩), (1000, some ⟨.aggB (l ++ numB x sz (q.1)), 5, true⟩)], 1008⟩) (fun q => match q with | none => sz | some q => sz - q.1) none (StLe.mk [] rfl rfl ⟨⟨_, rfl, by first | rfl | (simp only [AV.ren]; congr 1; omega), rfl⟩, ⟨_, rfl, by first | rfl | (simp only [AV.ren]; congr 1; omega), rfl⟩, ⟨_, rfl, by first | rfl | (simp only [AV.ren]; congr 1; omega), rfl⟩, ⟨_, rfl, by first | rfl | (simp only [AV.ren]; congr 1; omega), rfl⟩, ⟨_, rfl, by first | rfl | (simp only [AV.ren]; congr 1; omega), rfl⟩, trivial⟩ ⟨⟨_, _, rfl, rfl, rfl, rfl, id, rfl⟩, ⟨_, _, rfl, rfl, rfl, rfl, id, rfl⟩, trivial⟩) ?_
 rintro (_ | ⟨j, hj⟩)
 ·try dsimp only
  refine .seq ?_
  refine .region ?_
  refine .q (op_cmpI rfl rfl rfl) trivial rfl ?_
  refine .nil ?_
  show Ev _ _ _ _ _
  refine .seq ?_
  refine .cond_true rfl (decide_eq_true (by omega)) ?_
  refine .skip ?_
  show Ev _ _ _ _ _
  refine .seq ?_
  refine .block ?_
  refine .seq ?_
  refine .region ?_
  refine .q (op_move rfl) trivial rfl ?_
  refine .q (op_assign rfl) trivial rfl ?_
  refine .nil ?_
  show Ev _ _ _ _ _
  refine .region ?_
  refine .q (op_move rfl) trivial rfl ?_
  refine .q (op_move rfl) trivial rfl ?_
  refine .q (op_move rfl) trivial rfl ?_
  refine .q (op_subI rfl rfl ⟨by omega, by omega⟩) trivial rfl ?_
  refine .q (op_move rfl) trivial rfl ?_
  refine .q (op_subI rfl rfl ⟨by omega, by omega⟩) trivial rfl ?_
  refine .q (op_mulI rfl rfl ⟨by omega, by omega⟩) trivial rfl ?_
  refine .q (op_shr64 (n := 8 * (sz - 1 - 0)) rfl rfl (by simp only [shiftBy]; rw [show (8 : Int) * ((sz : Int) - 1 - 0) = ((8 * (sz - 1 - 0) : Nat) : Int) by omega]) (by omega)) trivial rfl ?_
  refine .q (op_conv Tryd.underlying62 Tryd.underlying5 rfl rfl) trivial rfl ?_
  refine .a (op_call (U := [(500, some ⟨.agg [.ptr 500 0, .sl 1000 0 (n + 1) 1], 56, true⟩), (1000, some ⟨.aggB (l ++ [(x >>> UInt64.ofNat (8 * (sz - 1 - 0))).toUInt8]), 5, true⟩), (501, none)]) [(500, 500), (501, 501)] [(1000, 1000)] (byte2_ev ((x >>> UInt64.ofNat (8 * (sz - 1 - 0))).toUInt8) (l) (n) (by first | exact hn | (simp [length_numB, length_lenB, length_textB]; done) | (simp [length_numB, length_lenB, length_textB]; omega) | omega | decide +kernel) (by omega)) Tryd.func23 (by kernel_rfl) rfl rfl rfl (⟨⟨_, rfl, rfl, rfl⟩, ⟨_, rfl, rfl, rfl⟩, trivial⟩) (⟨⟨_, _, rfl, rfl, rfl, rfl, id, rfl⟩, ⟨_, _, rfl, rfl, rfl, rfl, id, rfl⟩, trivial⟩) (⟨⟨500, _, rfl, rfl, rfl, rfl, .inr ⟨rfl, _, rfl, rfl⟩⟩, ⟨1000, _, rfl, rfl, rfl, rfl, .inl rfl⟩, trivial⟩) (⟨(fun _ => ⟨500, _, rfl, rfl⟩), (fun _ => ⟨501, _, rfl, rfl⟩), trivial⟩) rfl) trivial rfl ?_
  refine .nil ?_
  show Ev _ _ _ _ _
  refine .region ?_
  refine .q (op_addI rfl rfl ⟨by omega, by omega⟩) trivial rfl ?_
  refine .q (op_move rfl) trivial rfl ?_
  refine .nil ?_
  exact ⟨some ⟨1, by omega⟩, by show sz - 1 < sz; omega, StLe.mk [(1000, 1000)] rfl rfl ⟨⟨_, rfl, by first | rfl | (simp only [AV.ren]; congr 1; omega), rfl⟩, ⟨_, rfl, by first | rfl | (simp only [AV.ren]; congr 1; omega), rfl⟩, ⟨_, rfl, by first | rfl | (simp only [AV.ren]; congr 1; omega), rfl⟩, ⟨_, rfl, by first | rfl | (simp only [AV.ren]; congr 1; omega), rfl⟩, ⟨_, rfl, by first | rfl | (simp only [AV.ren]; congr 1; omega), rfl⟩, trivial⟩ ⟨⟨_, _, rfl, rfl, rfl, rfl, id, rfl⟩, ⟨_, _, rfl, rfl, rfl, rfl, id, rfl⟩, trivial⟩⟩
 ·try dsimp only
  refine .seq ?_
  refine .region ?_
  refine .q (op_cmpI rfl rfl rfl) trivial rfl ?_
  refine .nil ?_
  show Ev _ _ _ _ _
  refine .seq ?_
  refine .cond rfl (fun hc10 => ?_) (fun hc10 => ?_)
  ·simp only [decide_eq_true_eq] at hc10
   refine .skip ?_
   show Ev _ _ _ _ _
   refine .seq ?_
   refine .block ?_
   refine .seq ?_
   refine .region ?_
   refine .q (op_move rfl) trivial rfl ?_
   refine .q (op_assign rfl) trivial rfl ?_
   refine .nil ?_
   show Ev _ _ _ _ _
   refine .region ?_
   refine .q (op_move rfl) trivial rfl ?_
   refine .q (op_move rfl) trivial rfl ?_
   refine .q (op_move rfl) trivial rfl ?_
   refine .q (op_subI rfl rfl ⟨by omega, by omega⟩) trivial rfl ?_
   refine .q (op_move rfl) trivial rfl ?_
   refine .q (op_subI rfl rfl ⟨by omega, by omega⟩) trivial rfl ?_
   refine .q (op_mulI rfl rfl ⟨by omega, by omega⟩) trivial rfl ?_
   refine .q (op_shr64 (n := 8 * (sz - 1 - j)) rfl rfl (by simp only [shiftBy]; rw [show (8 : Int) * ((sz : Int) - 1 - (j : Int)) = ((8 * (sz - 1 - j) : Nat) : Int) by omega]) (by omega)) trivial rfl ?_
   refine .q (op_conv Tryd.underlying62 Tryd.underlying5 rfl rfl) trivial rfl ?_
   refine .a (op_call (U := [(500, some ⟨.agg [.ptr 500 0, .sl 1008 0 (n + j + 1) 1], 56, true⟩), (1008, some ⟨.aggB ((l ++ numB x sz j) ++ [(x >>> UInt64.ofNat (8 * (sz - 1 - j))).toUInt8]), 5, true⟩), (1000, none)]) [(500, 500), (501, 1000)] [(1008, 1000)] (byte2_ev ((x >>> UInt64.ofNat (8 * (sz - 1 - j))).toUInt8) ((l ++ numB x sz j)) (n + j) (by first | exact hn | (simp [length_numB]; done) | (simp [length_numB]; omega) | omega | decide +kernel) (by omega)) Tryd.func23 (by kernel_rfl) rfl rfl rfl (⟨⟨_, rfl, rfl, rfl⟩, ⟨_, rfl, rfl, rfl⟩, trivial⟩) (⟨⟨_, _, rfl, rfl, rfl, rfl, id, rfl⟩, ⟨_, _, rfl, rfl, rfl, rfl, id, rfl⟩, trivial⟩) (⟨⟨500, _, rfl, rfl, rfl, rfl, .inr ⟨rfl, _, rfl, rfl⟩⟩, ⟨1000, _, rfl, rfl, rfl, rfl, .inl rfl⟩, trivial⟩) (⟨(fun _ => ⟨500, _, rfl, rfl⟩), (fun _ => ⟨1000, _, rfl, rfl⟩), trivial⟩) rfl) trivial rfl ?_
   refine .nil ?_
   show Ev _ _ _ _ _
   refine .region ?_
   refine .q (op_addI rfl rfl ⟨by omega, by omega⟩) trivial rfl ?_
   refine .q (op_move rfl) trivial rfl ?_
   refine .nil ?_
   exact ⟨some ⟨j + 1, by omega⟩, by show sz - (j + 1) < sz - j; omega, StLe.mk [(1000, 1008)] rfl rfl ⟨⟨_, rfl, by first | rfl | (simp only [AV.ren]; congr 1; omega), rfl⟩, ⟨_, rfl, by first | rfl | (simp only [AV.ren]; congr 1; omega), rfl⟩, ⟨_, rfl, by first | rfl | (simp only [AV.ren]; congr 1; omega), rfl⟩, ⟨_, rfl, by first | rfl | (simp only [AV.ren]; congr 1; omega), rfl⟩, ⟨_, rfl, by first | rfl | (simp only [AV.ren]; congr 1; omega), rfl⟩, trivial⟩ ⟨⟨_, _, rfl, rfl, rfl, rfl, id, rfl⟩, ⟨_, _, rfl, rfl, by (simp only [AV.ren, numB, List.append_assoc]; done), rfl, id, rfl⟩, trivial⟩⟩
  ·simp only [decide_eq_false_iff_not] at hc10
   refine .exit ?_
   show Ev _ _ _ _ _
   refine .seq ?_
   refine .region ?_
   refine .q (op_move rfl) trivial rfl ?_
   refine .q (op_assign rfl) trivial rfl ?_
   refine .nil ?_
   show Ev _ _ _ _ _
   refine .ret ?_
   show RetOk _ _ _ _ _ _ _
   have ej : j = sz := by omega
   subst ej
   exact ret1v rfl (.inl rfl) rfl rfl ⟨rfl, rfl, trivial⟩
set_option maxRecDepth 100000 in
theorem u322_ev (x : UInt32) (l : List UInt8) (n : Nat) (hn : n = l.length) (h : n ≤ 700000000) : Meets Tryd.prog 40 [.ptr 500 0, .u32 x] [(500, some ⟨.agg [.ptr 500 0, .sl 501 0 (n) 1], 56, true⟩), (501, some ⟨.aggB l, 5, true⟩)] (.ptr 500 0) [(500, some ⟨.agg [.ptr 500 0, .sl 1000 0 (n + 4) 1], 56, true⟩), (1000, some ⟨.aggB (l ++ numB x.toUInt64 4 4), 5, true⟩)] := by
 refine meets_of_ev (nt := 9) Tryd.func40 rfl rfl (Nat.le_of_ble_eq_true rfl) ?_
 refine .seq ?_
 refine .region ?_
 refine .q (op_assign rfl) trivial rfl ?_
 refine .nil ?_
 show Ev _ _ _ _ _
 refine .seq ?_
 refine .region ?_
 refine .q (op_move rfl) trivial rfl ?_
 refine .q (op_move rfl) trivial rfl ?_
 refine .q (op_conv Tryd.underlying42 Tryd.underlying62 rfl rfl) trivial rfl ?_
 refine .a (op_call (U := [(500, some ⟨.agg [.ptr 500 0, .sl 1000 0 (n + 4) 1], 56, true⟩), (1000, some ⟨.aggB (l ++ numB x.toUInt64 4 4), 5, true⟩), (501, none)]) [(500, 500), (501, 501)] [(1000, 1000)] (num2_ev x.toUInt64 4 (by decide) (by decide) (l) (n) (by first | exact hn | (simp [length_numB, length_lenB, length_textB]; done) | (simp [length_numB, length_lenB, length_textB]; omega) | omega | decide +kernel) (by omega)) Tryd.func63 (by kernel_rfl) rfl rfl rfl (⟨⟨_, rfl, rfl, rfl⟩, ⟨_, rfl, rfl, rfl⟩, ⟨_, rfl, rfl, rfl⟩, trivial⟩) (⟨⟨_, _, rfl, rfl, rfl, rfl, id, rfl⟩, ⟨_, _, rfl, rfl, rfl, rfl, id, rfl⟩, trivial⟩) (⟨⟨500, _, rfl, rfl, rfl, rfl, .inr ⟨rfl, _, rfl, rfl⟩⟩, ⟨1000, _, rfl, rfl, rfl, rfl, .inl rfl⟩, trivial⟩) (⟨(fun _ => ⟨500, _, rfl, rfl⟩), (fun _ => ⟨501, _, rfl, rfl⟩), trivial⟩) rfl) trivial rfl ?_
 refine .q (op_assign rfl) trivial rfl ?_
 refine .nil ?_
 show Ev _ _ _ _ _
 refine .ret ?_
 show RetOk _ _ _ _ _ _ _
 exact ret1v rfl (.inl rfl) rfl rfl ⟨(by first | rfl | (simp only [List.append_assoc, Nat.add_assoc, textB, bigB]; rfl)), (by first | rfl | (simp only [List.append_assoc, Nat.add_assoc, textB, bigB]; rfl)), trivial⟩
set_option maxRecDepth 100000 in
theorem text2_ev (s : List UInt8) (hs : s.length ≤ 100000000) (l : List UInt8) (n : Nat) (hn : n = l.length) (h : n ≤ 600000000) : Meets Tryd.prog 64 [.ptr 500 0, .str s] [(500, some ⟨.agg [.ptr 500 0, .sl 501 0 (n) 1], 56, true⟩), (501, some ⟨.aggB l, 5, true⟩)] (.ptr 500 0) [(500, some ⟨.agg [.ptr 500 0, .sl 1008 0 (n + (4 + s.length)) 1], 56, true⟩), (1008, some ⟨.aggB (l ++ textB s), 5, true⟩)] := by
 refine meets_of_ev (nt := 12) Tryd.func64 rfl rfl (Nat.le_of_ble_eq_true rfl) ?_
 refine .seq ?_
 refine .region ?_
 refine .q (op_assign rfl) trivial rfl ?_
 refine .nil ?_
 show Ev _ _ _ _ _
 refine .seq ?_
 refine .region ?_
 refine .q (op_move rfl) trivial rfl ?_
 refine .q (op_move rfl) trivial rfl ?_
 refine .q (op_len_str Tryd.underlying9 rfl) trivial rfl ?_
 refine .q (op_conv Tryd.underlying3 Tryd.underlying42 rfl rfl) trivial rfl ?_
 refine .a (op_call (U := [(500, some ⟨.agg [.ptr 500 0, .sl 1000 0 (n + 4) 1], 56, true⟩), (1000, some ⟨.aggB (l ++ lenB s), 5, true⟩), (501, none)]) [(500, 500), (501, 501)] [(1000, 1000)] (u322_ev (ofI32 (s.length : Int)) (l) (n) (by first | exact hn | (simp [length_numB, length_lenB, length_textB]; done) | (simp [length_numB, length_lenB, length_textB]; omega) | omega | decide +kernel) (by omega)) Tryd.func40 (by kernel_rfl) rfl rfl rfl (⟨⟨_, rfl, rfl, rfl⟩, ⟨_, rfl, rfl, rfl⟩, trivial⟩) (⟨⟨_, _, rfl, rfl, rfl, rfl, id, rfl⟩, ⟨_, _, rfl, rfl, rfl, rfl, id, rfl⟩, trivial⟩) (⟨⟨500, _, rfl, rfl, rfl, rfl, .inr ⟨rfl, _, rfl, rfl⟩⟩, ⟨1000, _, rfl, rfl, rfl, rfl, .inl rfl⟩, trivial⟩) (⟨(fun _ => ⟨500, _, rfl, rfl⟩), (fun _ => ⟨501, _, rfl, rfl⟩), trivial⟩) rfl) trivial rfl ?_
 refine .q (op_move rfl) trivial rfl ?_
 refine .a (op_call (U := [(500, some ⟨.agg [.ptr 500 0, .sl 1008 0 (n + 4 + s.length) 1], 56, true⟩), (1008, some ⟨.aggB ((l ++ lenB s) ++ s), 5, true⟩), (1000, none)]) [(500, 500), (501, 1000)] [(1008, 1000)] (raw2_ev s (by omega) ((l ++ lenB s)) (n + 4) (by first | exact hn | (simp [length_lenB]; done) | (simp [length_lenB]; omega) | omega | decide +kernel) (by omega)) Tryd.func46 (by kernel_rfl) rfl rfl rfl (⟨⟨_, rfl, rfl, rfl⟩, ⟨_, rfl, rfl, rfl⟩, trivial⟩) (⟨⟨_, _, rfl, rfl, rfl, rfl, id, rfl⟩, ⟨_, _, rfl, rfl, rfl, rfl, id, rfl⟩, trivial⟩) (⟨⟨500, _, rfl, rfl, rfl, rfl, .inr ⟨rfl, _, rfl, rfl⟩⟩, ⟨1000, _, rfl, rfl, rfl, rfl, .inl rfl⟩, trivial⟩) (⟨(fun _ => ⟨500, _, rfl, rfl⟩), (fun _ => ⟨1000, _, rfl, rfl⟩), trivial⟩) rfl) trivial rfl ?_
 refine .q (op_assign rfl) trivial rfl ?_
 refine .nil ?_
 show Ev _ _ _ _ _
 refine .ret ?_
 show RetOk _ _ _ _ _ _ _
 exact ret1v rfl (.inl rfl) rfl rfl ⟨(by first | rfl | (simp only [List.append_assoc, Nat.add_assoc]; rfl)), (by first | rfl | (simp only [List.append_assoc, Nat.add_assoc, textB]; rfl)), trivial⟩
end Go.Proofs.YtenocbhlbgcnfaaDoor
namespace Go.Proofs.YtenocbhlbgcnfaaDoor
open Go.RowKit
set_option maxRecDepth 100000 in
theorem fail0_ev (r : List UInt8) (_k x : Nat) (eo : Nat → Nat × Nat) : Meets Tryd.prog 56 [.ptr 500 0, .err 131 (x) (offE eo (x))] [(500, some ⟨.agg [.str (DI.mk r (0)).r, .err 131 ((DI.mk r (0)).e) (offE eo ((DI.mk r (0)).e))], 93, true⟩)] (.str []) [(500, some ⟨.agg [.str (DI.mk [] (orE (0) x)).r, .err 131 ((DI.mk [] (orE (0) x)).e) (offE eo ((DI.mk [] (orE (0) x)).e))], 93, true⟩)] := by
 refine meets_of_ev (nt := 17) Tryd.func56 rfl rfl (Nat.le_of_ble_eq_true rfl) ?_
 refine .seq ?_
 refine .region ?_
 refine .q (op_assign rfl) trivial rfl ?_
 refine .nil ?_
 show Ev _ _ _ _ _
 refine .seq ?_
 refine .seq ?_
 refine .region ?_
 refine .q (op_move rfl) trivial rfl ?_
 refine .q (op_nilCheck rfl) trivial rfl ?_
 refine .q (op_fieldAddr (m := 0) Tryd.underlying93 rfl (by kernel_rfl) rfl) trivial rfl ?_
 refine .as (.ptr 500 1) rfl ?_
 refine .q (op_load Tryd.underlying33 rfl rfl rfl rfl (by first | omega | (simp only [AV.len]; omega) | (simp only [AV.len]; omega) | assumption | (simp [AV.len]; done))) trivial rfl ?_
 refine .q (op_eqErrNil (e := 0) Tryd.underlying33 rfl rfl) trivial rfl ?_
 refine .nil ?_
 show Ev _ _ _ _ _
 refine .cond_true rfl (rfl) ?_
 refine .region ?_
 refine .q (op_move rfl) trivial rfl ?_
 refine .q (op_move rfl) trivial rfl ?_
 refine .q (op_nilCheck rfl) trivial rfl ?_
 refine .q (op_fieldAddr (m := 0) Tryd.underlying93 rfl (by kernel_rfl) rfl) trivial rfl ?_
 refine .as (.ptr 500 1) rfl ?_
 refine .w (op_store (by kernel_rfl) rfl rfl rfl rfl rfl (by first | omega | (simp only [AV.len]; omega) | (simp only [AV.len]; omega) | assumption | (simp [AV.len]; done))) trivial rfl ?_
 refine .nil ?_
 show Ev _ _ _ _ _
 refine .seq ?_
 refine .region ?_
 refine .q (op_move rfl) trivial rfl ?_
 refine .q (op_nilCheck rfl) trivial rfl ?_
 refine .q (op_fieldAddr (m := 0) Tryd.underlying93 rfl (by kernel_rfl) rfl) trivial rfl ?_
 refine .as (.ptr 500 0) rfl ?_
 refine .w (op_store inf9.sz rfl rfl rfl rfl rfl (by first | omega | (simp only [AV.len]; omega) | (simp only [AV.len, List.length_set]; omega) | assumption | (simp [AV.len]; done))) trivial rfl ?_
 refine .nil ?_
 show Ev _ _ _ _ _
 refine .seq ?_
 refine .region ?_
 refine .q (op_assign rfl) trivial rfl ?_
 refine .nil ?_
 show Ev _ _ _ _ _
 refine .ret ?_
 show RetOk _ _ _ _ _ _ _
 exact ret1v rfl (.inl rfl) rfl rfl ⟨rfl, trivial⟩
set_option maxRecDepth 100000 in
theorem fail1_ev (r : List UInt8) (k x : Nat) (eo : Nat → Nat × Nat) : Meets Tryd.prog 56 [.ptr 500 0, .err 131 (x) (offE eo (x))] [(500, some ⟨.agg [.str (DI.mk r (k + 1)).r, .err 131 ((DI.mk r (k + 1)).e) (offE eo ((DI.mk r (k + 1)).e))], 93, true⟩)] (.str []) [(500, some ⟨.agg [.str (DI.mk [] (orE (k + 1) x)).r, .err 131 ((DI.mk [] (orE (k + 1) x)).e) (offE eo ((DI.mk [] (orE (k + 1) x)).e))], 93, true⟩)] := by
 refine meets_of_ev (nt := 17) Tryd.func56 rfl rfl (Nat.le_of_ble_eq_true rfl) ?_
 refine .seq ?_
 refine .region ?_
 refine .q (op_assign rfl) trivial rfl ?_
 refine .nil ?_
 show Ev _ _ _ _ _
 refine .seq ?_
 refine .seq ?_
 refine .region ?_
 refine .q (op_move rfl) trivial rfl ?_
 refine .q (op_nilCheck rfl) trivial rfl ?_
 refine .q (op_fieldAddr (m := 0) Tryd.underlying93 rfl (by kernel_rfl) rfl) trivial rfl ?_
 refine .as (.ptr 500 1) rfl ?_
 refine .q (op_load Tryd.underlying33 rfl rfl rfl rfl (by first | omega | (simp only [AV.len]; omega) | (simp only [AV.len]; omega) | assumption | (simp [AV.len]; done))) trivial rfl ?_
 refine .q (op_eqErrNil (e := k + 1) Tryd.underlying33 rfl rfl) trivial rfl ?_
 refine .nil ?_
 show Ev _ _ _ _ _
 refine .cond_false rfl (rfl) ?_
 refine .skip ?_
 show Ev _ _ _ _ _
 refine .seq ?_
 refine .region ?_
 refine .q (op_move rfl) trivial rfl ?_
 refine .q (op_nilCheck rfl) trivial rfl ?_
 refine .q (op_fieldAddr (m := 0) Tryd.underlying93 rfl (by kernel_rfl) rfl) trivial rfl ?_
 refine .as (.ptr 500 0) rfl ?_
 refine .w (op_store inf9.sz rfl rfl rfl rfl rfl (by first | omega | (simp only [AV.len]; omega) | (simp only [AV.len]; omega) | assumption | (simp [AV.len]; done))) trivial rfl ?_
 refine .nil ?_
 show Ev _ _ _ _ _
 refine .seq ?_
 refine .region ?_
 refine .q (op_assign rfl) trivial rfl ?_
 refine .nil ?_
 show Ev _ _ _ _ _
 refine .ret ?_
 show RetOk _ _ _ _ _ _ _
 exact ret1v rfl (.inl rfl) rfl rfl ⟨rfl, trivial⟩
theorem fail_ev (i : DI) (x : Nat) (eo : Nat → Nat × Nat) : Meets Tryd.prog 56 [.ptr 500 0, .err 131 (x) (offE eo (x))] [(500, some ⟨.agg [.str (i).r, .err 131 ((i).e) (offE eo ((i).e))], 93, true⟩)] (.str []) [(500, some ⟨.agg [.str (failD i x).r, .err 131 ((failD i x).e) (offE eo ((failD i x).e))], 93, true⟩)] := by
 obtain ⟨r, e⟩ := i
 cases e with
 | zero => exact fail0_ev r 0 x eo
 | succ k => exact fail1_ev r k x eo
set_option maxRecDepth 100000 in
theorem raw_ok (i : DI) (j : Int) (h : j.toNat ≤ i.r.length) (eo : Nat → Nat × Nat) : Meets Tryd.prog 54 [.ptr 500 0, .i64 j] [(500, some ⟨.agg [.str (i).r, .err 131 ((i).e) (offE eo ((i).e))], 93, true⟩), (1, some ⟨.agg [.err 131 (2) (offE eo (2))], errT, false⟩)] (.str (i.r.take j.toNat)) [(500, some ⟨.agg [.str (DI.mk (i.r.drop j.toNat) i.e).r, .err 131 ((DI.mk (i.r.drop j.toNat) i.e).e) (offE eo ((DI.mk (i.r.drop j.toNat) i.e).e))], 93, true⟩)] := by
 refine meets_of_ev (nt := 34) Tryd.func54 rfl rfl (Nat.le_of_ble_eq_true rfl) ?_
 refine .seq ?_
 refine .region ?_
 refine .q (op_assign rfl) trivial rfl ?_
 refine .nil ?_
 show Ev _ _ _ _ _
 refine .seq ?_
 refine .region ?_
 refine .q (op_move rfl) trivial rfl ?_
 refine .q (op_maxI rfl rfl) trivial rfl ?_
 refine .as (.i64 ((j.toNat : Nat) : Int)) (congrArg AV.i64 (by omega)) ?_
 refine .q (op_assign rfl) trivial rfl ?_
 refine .nil ?_
 show Ev _ _ _ _ _
 refine .seq ?_
 refine .seq ?_
 refine .region ?_
 refine .q (op_move rfl) trivial rfl ?_
 refine .q (op_move rfl) trivial rfl ?_
 refine .q (op_nilCheck rfl) trivial rfl ?_
 refine .q (op_fieldAddr (m := 0) Tryd.underlying93 rfl (by kernel_rfl) rfl) trivial rfl ?_
 refine .as (.ptr 500 0) rfl ?_
 refine .q (op_load Tryd.underlying9 rfl rfl rfl rfl (by first | omega | (simp only [AV.len]; omega) | (simp only [AV.len]; omega) | assumption | (simp [AV.len]; done))) trivial rfl ?_
 refine .q (op_len_str Tryd.underlying9 rfl) trivial rfl ?_
 refine .q (op_cmpI rfl rfl rfl) trivial rfl ?_
 refine .nil ?_
 show Ev _ _ _ _ _
 refine .cond_false rfl (decide_eq_false (by omega)) ?_
 refine .skip ?_
 show Ev _ _ _ _ _
 refine .seq ?_
 refine .region ?_
 refine .q (op_move rfl) trivial rfl ?_
 refine .q (op_nilCheck rfl) trivial rfl ?_
 refine .q (op_fieldAddr (m := 0) Tryd.underlying93 rfl (by kernel_rfl) rfl) trivial rfl ?_
 refine .as (.ptr 500 0) rfl ?_
 refine .q (op_load Tryd.underlying9 rfl rfl rfl rfl (by first | omega | (simp only [AV.len]; omega) | (simp only [AV.len]; omega) | assumption | (simp [AV.len]; done))) trivial rfl ?_
 refine .q (op_move rfl) trivial rfl ?_
 refine .q (ap_slice_str_hi Tryd.underlying9 rfl (bnd_some rfl rfl) (h)) trivial rfl ?_
 refine .q (op_assign rfl) trivial rfl ?_
 refine .nil ?_
 show Ev _ _ _ _ _
 refine .seq ?_
 refine .region ?_
 refine .q (op_move rfl) trivial rfl ?_
 refine .q (op_move rfl) trivial rfl ?_
 refine .q (op_nilCheck rfl) trivial rfl ?_
 refine .q (op_fieldAddr (m := 0) Tryd.underlying93 rfl (by kernel_rfl) rfl) trivial rfl ?_
 refine .as (.ptr 500 0) rfl ?_
 refine .q (op_load Tryd.underlying9 rfl rfl rfl rfl (by first | omega | (simp only [AV.len]; omega) | (simp only [AV.len]; omega) | assumption | (simp [AV.len]; done))) trivial rfl ?_
 refine .q (op_move rfl) trivial rfl ?_
 refine .q (ap_slice_str_lo Tryd.underlying9 rfl (bnd_some rfl rfl) (h)) trivial rfl ?_
 refine .q (op_nilCheck rfl) trivial rfl ?_
 refine .q (op_fieldAddr (m := 0) Tryd.underlying93 rfl (by kernel_rfl) rfl) trivial rfl ?_
 refine .as (.ptr 500 0) rfl ?_
 refine .w (op_store inf9.sz rfl rfl rfl rfl rfl (by first | omega | (simp only [AV.len]; omega) | (simp only [AV.len]; omega) | assumption | (simp [AV.len]; done))) trivial rfl ?_
 refine .nil ?_
 show Ev _ _ _ _ _
 refine .seq ?_
 refine .region ?_
 refine .q (op_move rfl) trivial rfl ?_
 refine .q (op_assign rfl) trivial rfl ?_
 refine .nil ?_
 show Ev _ _ _ _ _
 refine .ret ?_
 show RetOk _ _ _ _ _ _ _
 exact ret1v rfl (.inl rfl) rfl rfl ⟨rfl, trivial⟩
set_option maxRecDepth 100000 in
theorem raw_bad (i : DI) (j : Int) (h : ¬ j.toNat ≤ i.r.length) (eo : Nat → Nat × Nat) : Meets Tryd.prog 54 [.ptr 500 0, .i64 j] [(500, some ⟨.agg [.str (i).r, .err 131 ((i).e) (offE eo ((i).e))], 93, true⟩), (1, some ⟨.agg [.err 131 (2) (offE eo (2))], errT, false⟩)] (.str []) [(500, some ⟨.agg [.str (failD i 2).r, .err 131 ((failD i 2).e) (offE eo ((failD i 2).e))], 93, true⟩)] := by
 refine meets_of_ev (nt := 34) Tryd.func54 rfl rfl (Nat.le_of_ble_eq_true rfl) ?_
 refine .seq ?_
 refine .region ?_
 refine .q (op_assign rfl) trivial rfl ?_
 refine .nil ?_
 show Ev _ _ _ _ _
 refine .seq ?_
 refine .region ?_
 refine .q (op_move rfl) trivial rfl ?_
 refine .q (op_maxI rfl rfl) trivial rfl ?_
 refine .as (.i64 ((j.toNat : Nat) : Int)) (congrArg AV.i64 (by omega)) ?_
 refine .q (op_assign rfl) trivial rfl ?_
 refine .nil ?_
 show Ev _ _ _ _ _
 refine .seq ?_
 refine .seq ?_
 refine .region ?_
 refine .q (op_move rfl) trivial rfl ?_
 refine .q (op_move rfl) trivial rfl ?_
 refine .q (op_nilCheck rfl) trivial rfl ?_
 refine .q (op_fieldAddr (m := 0) Tryd.underlying93 rfl (by kernel_rfl) rfl) trivial rfl ?_
 refine .as (.ptr 500 0) rfl ?_
 refine .q (op_load Tryd.underlying9 rfl rfl rfl rfl (by first | omega | (simp only [AV.len]; omega) | (simp only [AV.len]; omega) | assumption | (simp [AV.len]; done))) trivial rfl ?_
 refine .q (op_len_str Tryd.underlying9 rfl) trivial rfl ?_
 refine .q (op_cmpI rfl rfl rfl) trivial rfl ?_
 refine .nil ?_
 show Ev _ _ _ _ _
 refine .cond_true rfl (decide_eq_true (by omega)) ?_
 refine .seq ?_
 refine .region ?_
 refine .q (op_move rfl) trivial rfl ?_
 refine .q (op_load Tryd.underlying33 rfl rfl rfl rfl (by first | omega | (simp only [AV.len]; omega) | (simp only [AV.len]; omega) | assumption | (simp [AV.len]; done))) trivial rfl ?_
 refine .a (op_call (U := [(500, some ⟨.agg [.str (failD i 2).r, .err 131 ((failD i 2).e) (offE eo ((failD i 2).e))], 93, true⟩)]) [(500, 500)] [] (fail_ev i 2 eo) Tryd.func56 (by kernel_rfl) rfl rfl rfl (⟨⟨_, rfl, rfl, rfl⟩, ⟨_, rfl, rfl, rfl⟩, trivial⟩) (⟨⟨_, _, rfl, rfl, rfl, rfl, id, rfl⟩, trivial⟩) (⟨⟨500, _, rfl, rfl, rfl, rfl, .inr ⟨rfl, _, rfl, rfl⟩⟩, trivial⟩) (⟨(fun _ => ⟨500, _, rfl, rfl⟩), trivial⟩) rfl) trivial rfl ?_
 refine .q (op_assign rfl) trivial rfl ?_
 refine .nil ?_
 show Ev _ _ _ _ _
 refine .ret ?_
 show RetOk _ _ _ _ _ _ _
 exact ret1v rfl (.inl rfl) rfl rfl ⟨rfl, trivial⟩
theorem raw_ev (i : DI) (j : Int) (eo : Nat → Nat × Nat) : Meets Tryd.prog 54 [.ptr 500 0, .i64 j] [(500, some ⟨.agg [.str (i).r, .err 131 ((i).e) (offE eo ((i).e))], 93, true⟩), (1, some ⟨.agg [.err 131 (2) (offE eo (2))], errT, false⟩)] (.str (rawD i j.toNat).2) [(500, some ⟨.agg [.str ((rawD i j.toNat).1).r, .err 131 (((rawD i j.toNat).1).e) (offE eo (((rawD i j.toNat).1).e))], 93, true⟩)] := by
 by_cases h : j.toNat ≤ i.r.length
 ·rw [show rawD i j.toNat = (⟨i.r.drop j.toNat, i.e⟩, i.r.take j.toNat) from if_pos h]; exact raw_ok i j h eo
 ·rw [show rawD i j.toNat = (failD i 2, []) from if_neg h]; exact raw_bad i j h eo
set_option maxRecDepth 100000 in
theorem num_ev (i : DI) (k : Nat) (hk : k ≤ 8) (eo : Nat → Nat × Nat) : Meets Tryd.prog 49 [.ptr 500 0, .i64 (k : Int)] [(500, some ⟨.agg [.str (i).r, .err 131 ((i).e) (offE eo ((i).e))], 93, true⟩), (1, some ⟨.agg [.err 131 (2) (offE eo (2))], errT, false⟩)] (.u64 (numD i k).2) [(500, some ⟨.agg [.str ((numD i k).1).r, .err 131 (((numD i k).1).e) (offE eo (((numD i k).1).e))], 93, true⟩)] := by
 have hS : (rawD i k).2.length ≤ 8 := by rcases rawD_length i k with h | h <;> simp [h] <;> omega
 refine meets_of_ev (nt := 25) Tryd.func49 rfl rfl (Nat.le_of_ble_eq_true rfl) ?_
 refine .seq ?_
 refine .region ?_
 refine .q (op_assign rfl) trivial rfl ?_
 refine .nil ?_
 show Ev _ _ _ _ _
 refine .seq ?_
 refine .region ?_
 refine .q (op_move rfl) trivial rfl ?_
 refine .q (op_move rfl) trivial rfl ?_
 refine .a (op_call (U := [(500, some ⟨.agg [.str ((rawD i k).1).r, .err 131 (((rawD i k).1).e) (offE eo (((rawD i k).1).e))], 93, true⟩)]) [(500, 500)] [] (raw_ev i (k : Int) eo) Tryd.func54 (by kernel_rfl) rfl rfl rfl (⟨⟨_, rfl, rfl, rfl⟩, ⟨_, rfl, rfl, rfl⟩, trivial⟩) (⟨⟨_, _, rfl, rfl, rfl, rfl, id, rfl⟩, ⟨_, _, rfl, rfl, rfl, rfl, (fun h => by cases h), rfl⟩, trivial⟩) (⟨⟨500, _, rfl, rfl, rfl, rfl, .inr ⟨rfl, _, rfl, rfl⟩⟩, trivial⟩) (⟨(fun _ => ⟨500, _, rfl, rfl⟩), (fun h => by cases h), trivial⟩) rfl) trivial rfl ?_
 refine .q (op_assign rfl) trivial rfl ?_
 refine .q (op_assign rfl) trivial rfl ?_
 refine .nil ?_
 show Ev _ _ _ _ _
 refine .seq ?_
 refine .seq ?_
 refine .region ?_
 refine .q (op_move rfl) trivial rfl ?_
 refine .q (op_len_str Tryd.underlying9 rfl) trivial rfl ?_
 refine .q (op_move rfl) trivial rfl ?_
 refine .nil ?_
 show Ev _ _ _ _ _
 refine .block ?_
 refine Ev.loop (ι := { j : Nat // j ≤ (rawD i k).2.length }) (fun j => ⟨[(5, .str (rawD i k).2), (6, .u64 (numL (rawD i k).2 j.1)), (12, .i64 ((rawD i k).2.length : Int)), (13, .i64 ((j.1 : Nat) : Int))], [(500, some ⟨.agg [.str ((rawD i k).1).r, .err 131 (((rawD i k).1).e) (offE eo (((rawD i k).1).e))], 93, true⟩)], 1000⟩) (fun j => (rawD i k).2.length - j.1) ⟨0, Nat.zero_le _⟩ (StLe.mk [] rfl rfl ⟨⟨_, rfl, by first | rfl | (simp only [AV.ren]; congr 1; omega), rfl⟩, ⟨_, rfl, by first | rfl | (simp only [AV.ren]; congr 1; omega), rfl⟩, ⟨_, rfl, by first | rfl | (simp only [AV.ren]; congr 1; omega), rfl⟩, ⟨_, rfl, by first | rfl | (simp only [AV.ren]; congr 1; omega), rfl⟩, trivial⟩ ⟨⟨_, _, rfl, rfl, by first | rfl | (simp only [AV.ren]; congr 1; omega), rfl, id, rfl⟩, trivial⟩) ?_
 rintro ⟨j, hj⟩
 dsimp only
 refine .seq ?_
 refine .region ?_
 refine .q (op_cmpI rfl rfl rfl) trivial rfl ?_
 refine .nil ?_
 show Ev _ _ _ _ _
 refine .seq ?_
 refine .cond rfl (fun hc14 => ?_) (fun hc14 => ?_)
 ·simp only [decide_eq_true_eq] at hc14
  refine .skip ?_
  show Ev _ _ _ _ _
  refine .seq ?_
  refine .block ?_
  refine .seq ?_
  refine .region ?_
  refine .q (op_move rfl) trivial rfl ?_
  refine .q (op_assign rfl) trivial rfl ?_
  refine .nil ?_
  show Ev _ _ _ _ _
  refine .region ?_
  refine .q (op_move rfl) trivial rfl ?_
  refine .q (op_shl64 (n := 8) rfl rfl rfl (by first | omega | (simp only [AV.len]; omega) | (simp only [AV.len, List.length_set]; omega) | assumption | (simp [AV.len]; done))) trivial rfl ?_
  refine .q (op_move rfl) trivial rfl ?_
  refine .q (op_move rfl) trivial rfl ?_
  refine .q (op_index_str Tryd.underlying9 rfl rfl rfl (by first | omega | (simp only [AV.len]; omega) | (simp only [AV.len, List.length_set]; omega) | assumption | (simp [AV.len]; done))) trivial rfl ?_
  refine .q (op_conv Tryd.underlying5 Tryd.underlying62 rfl rfl) trivial rfl ?_
  refine .q (op_bin64 rfl rfl rfl) trivial rfl ?_
  refine .q (op_assign rfl) trivial rfl ?_
  refine .nil ?_
  show Ev _ _ _ _ _
  refine .region ?_
  refine .q (op_addI rfl rfl ⟨by omega, by omega⟩) trivial rfl ?_
  refine .q (op_move rfl) trivial rfl ?_
  refine .nil ?_
  exact ⟨⟨j + 1, by omega⟩, by show (rawD i k).2.length - (j + 1) < (rawD i k).2.length - j; omega, StLe.mk [] rfl rfl ⟨⟨_, rfl, by first | rfl | (simp only [AV.ren]; congr 1; omega), rfl⟩, ⟨_, rfl, by first | rfl | (simp only [AV.ren]; congr 1; omega), rfl⟩, ⟨_, rfl, by first | rfl | (simp only [AV.ren]; congr 1; omega), rfl⟩, ⟨_, rfl, by first | rfl | (simp only [AV.ren]; congr 1; omega), rfl⟩, trivial⟩ ⟨⟨_, _, rfl, rfl, by first | rfl | (simp only [AV.ren]; congr 1; omega), rfl, id, rfl⟩, trivial⟩⟩
 ·simp only [decide_eq_false_iff_not] at hc14
  refine .exit ?_
  show Ev _ _ _ _ _
  have ej : j = (rawD i k).2.length := by omega
  refine Ev.weak (st2 := ⟨[(5, .str (rawD i k).2), (6, .u64 (numL (rawD i k).2 ((rawD i k).2.length))), (12, .i64 ((rawD i k).2.length : Int)), (13, .i64 ((((rawD i k).2.length) : Nat) : Int))], [(500, some ⟨.agg [.str ((rawD i k).1).r, .err 131 (((rawD i k).1).e) (offE eo (((rawD i k).1).e))], 93, true⟩)], 1000⟩) (StLe.mk [] rfl rfl ⟨⟨_, rfl, by first | (simp only [AV.ren]; done) | (simp only [AV.ren]; rw [ej]; done) | rfl, rfl⟩, ⟨_, rfl, by first | (simp only [AV.ren]; done) | (simp only [AV.ren]; rw [ej]; done) | rfl, rfl⟩, ⟨_, rfl, by first | (simp only [AV.ren]; done) | (simp only [AV.ren]; rw [ej]; done) | rfl, rfl⟩, ⟨_, rfl, by first | (simp only [AV.ren]; done) | (simp only [AV.ren]; rw [ej]; done) | rfl, rfl⟩, trivial⟩ ⟨⟨_, _, rfl, rfl, by first | (simp only [AV.ren]; done) | (simp only [AV.ren]; rw [ej]; done) | rfl, rfl, id, rfl⟩, trivial⟩) ?_
  refine .seq ?_
  refine .region ?_
  refine .q (op_move rfl) trivial rfl ?_
  refine .q (op_assign rfl) trivial rfl ?_
  refine .nil ?_
  show Ev _ _ _ _ _
  refine .ret ?_
  show RetOk _ _ _ _ _ _ _
  exact ret1v rfl (.inl rfl) rfl rfl ⟨rfl, trivial⟩
set_option maxRecDepth 100000 in
theorem ibyte_ev (i : DI) (eo : Nat → Nat × Nat) : Meets Tryd.prog 29 [.ptr 500 0] [(500, some ⟨.agg [.str (i).r, .err 131 ((i).e) (offE eo ((i).e))], 93, true⟩), (1, some ⟨.agg [.err 131 (2) (offE eo (2))], errT, false⟩)] (.u8 (byteD i).2) [(500, some ⟨.agg [.str ((byteD i).1).r, .err 131 (((byteD i).1).e) (offE eo (((byteD i).1).e))], 93, true⟩)] := by
 refine meets_of_ev (nt := 6) Tryd.func29 rfl rfl (Nat.le_of_ble_eq_true rfl) ?_
 refine .seq ?_
 refine .region ?_
 refine .q (op_assign rfl) trivial rfl ?_
 refine .nil ?_
 show Ev _ _ _ _ _
 refine .seq ?_
 refine .region ?_
 refine .q (op_move rfl) trivial rfl ?_
 refine .a (op_call (U := [(500, some ⟨.agg [.str ((numD i 1).1).r, .err 131 (((numD i 1).1).e) (offE eo (((numD i 1).1).e))], 93, true⟩)]) [(500, 500)] [] (num_ev i 1 (by decide) eo) Tryd.func49 (by kernel_rfl) rfl rfl rfl (⟨⟨_, rfl, rfl, rfl⟩, ⟨_, rfl, rfl, rfl⟩, trivial⟩) (⟨⟨_, _, rfl, rfl, rfl, rfl, id, rfl⟩, ⟨_, _, rfl, rfl, rfl, rfl, (fun h => by cases h), rfl⟩, trivial⟩) (⟨⟨500, _, rfl, rfl, rfl, rfl, .inr ⟨rfl, _, rfl, rfl⟩⟩, trivial⟩) (⟨(fun _ => ⟨500, _, rfl, rfl⟩), (fun h => by cases h), trivial⟩) rfl) trivial rfl ?_
 refine .q (op_conv Tryd.underlying62 Tryd.underlying5 rfl rfl) trivial rfl ?_
 refine .q (op_assign rfl) trivial rfl ?_
 refine .nil ?_
 show Ev _ _ _ _ _
 refine .ret ?_
 show RetOk _ _ _ _ _ _ _
 exact ret1v rfl (.inl rfl) rfl rfl ⟨rfl, trivial⟩
set_option maxRecDepth 100000 in
theorem iu32_ev (i : DI) (eo : Nat → Nat × Nat) : Meets Tryd.prog 50 [.ptr 500 0] [(500, some ⟨.agg [.str (i).r, .err 131 ((i).e) (offE eo ((i).e))], 93, true⟩), (1, some ⟨.agg [.err 131 (2) (offE eo (2))], errT, false⟩)] (.u32 (u32D i).2) [(500, some ⟨.agg [.str ((u32D i).1).r, .err 131 (((u32D i).1).e) (offE eo (((u32D i).1).e))], 93, true⟩)] := by
 refine meets_of_ev (nt := 6) Tryd.func50 rfl rfl (Nat.le_of_ble_eq_true rfl) ?_
 refine .seq ?_
 refine .region ?_
 refine .q (op_assign rfl) trivial rfl ?_
 refine .nil ?_
 show Ev _ _ _ _ _
 refine .seq ?_
 refine .region ?_
 refine .q (op_move rfl) trivial rfl ?_
 refine .a (op_call (U := [(500, some ⟨.agg [.str ((numD i 4).1).r, .err 131 (((numD i 4).1).e) (offE eo (((numD i 4).1).e))], 93, true⟩)]) [(500, 500)] [] (num_ev i 4 (by decide) eo) Tryd.func49 (by kernel_rfl) rfl rfl rfl (⟨⟨_, rfl, rfl, rfl⟩, ⟨_, rfl, rfl, rfl⟩, trivial⟩) (⟨⟨_, _, rfl, rfl, rfl, rfl, id, rfl⟩, ⟨_, _, rfl, rfl, rfl, rfl, (fun h => by cases h), rfl⟩, trivial⟩) (⟨⟨500, _, rfl, rfl, rfl, rfl, .inr ⟨rfl, _, rfl, rfl⟩⟩, trivial⟩) (⟨(fun _ => ⟨500, _, rfl, rfl⟩), (fun h => by cases h), trivial⟩) rfl) trivial rfl ?_
 refine .q (op_conv Tryd.underlying62 Tryd.underlying42 rfl rfl) trivial rfl ?_
 refine .q (op_assign rfl) trivial rfl ?_
 refine .nil ?_
 show Ev _ _ _ _ _
 refine .ret ?_
 show RetOk _ _ _ _ _ _ _
 exact ret1v rfl (.inl rfl) rfl rfl ⟨rfl, trivial⟩
set_option maxRecDepth 100000 in
theorem ibool_ev (i : DI) (eo : Nat → Nat × Nat) : Meets Tryd.prog 51 [.ptr 500 0] [(500, some ⟨.agg [.str (i).r, .err 131 ((i).e) (offE eo ((i).e))], 93, true⟩), (1, some ⟨.agg [.err 131 (2) (offE eo (2))], errT, false⟩)] (.bool (boolD i).2) [(500, some ⟨.agg [.str ((boolD i).1).r, .err 131 (((boolD i).1).e) (offE eo (((boolD i).1).e))], 93, true⟩)] := by
 refine meets_of_ev (nt := 6) Tryd.func51 rfl rfl (Nat.le_of_ble_eq_true rfl) ?_
 refine .seq ?_
 refine .region ?_
 refine .q (op_assign rfl) trivial rfl ?_
 refine .nil ?_
 show Ev _ _ _ _ _
 refine .seq ?_
 refine .region ?_
 refine .q (op_move rfl) trivial rfl ?_
 refine .a (op_call (U := [(500, some ⟨.agg [.str ((byteD i).1).r, .err 131 (((byteD i).1).e) (offE eo (((byteD i).1).e))], 93, true⟩)]) [(500, 500)] [] (ibyte_ev i eo) Tryd.func29 (by kernel_rfl) rfl rfl rfl (⟨⟨_, rfl, rfl, rfl⟩, trivial⟩) (⟨⟨_, _, rfl, rfl, rfl, rfl, id, rfl⟩, ⟨_, _, rfl, rfl, rfl, rfl, (fun h => by cases h), rfl⟩, trivial⟩) (⟨⟨500, _, rfl, rfl, rfl, rfl, .inr ⟨rfl, _, rfl, rfl⟩⟩, trivial⟩) (⟨(fun _ => ⟨500, _, rfl, rfl⟩), (fun h => by cases h), trivial⟩) rfl) trivial rfl ?_
 refine .q (op_bin8 rfl rfl rfl) trivial rfl ?_
 refine .q (op_assign rfl) trivial rfl ?_
 refine .nil ?_
 show Ev _ _ _ _ _
 refine .ret ?_
 show RetOk _ _ _ _ _ _ _
 exact ret1v rfl (.inl rfl) rfl rfl ⟨rfl, trivial⟩
set_option maxRecDepth 100000 in
theorem text_bad (i : DI) (most : Int) (h : most < ((u32D i).2.toNat : Int)) (eo : Nat → Nat × Nat) : Meets Tryd.prog 53 [.ptr 500 0, .i64 most] [(500, some ⟨.agg [.str (i).r, .err 131 ((i).e) (offE eo ((i).e))], 93, true⟩), (1, some ⟨.agg [.err 131 (2) (offE eo (2))], errT, false⟩), (3, some ⟨.agg [.err 131 (4) (offE eo (4))], errT, false⟩)] (.str []) [(500, some ⟨.agg [.str (failD (u32D i).1 4).r, .err 131 ((failD (u32D i).1 4).e) (offE eo ((failD (u32D i).1 4).e))], 93, true⟩)] := by
 refine meets_of_ev (nt := 18) Tryd.func53 rfl rfl (Nat.le_of_ble_eq_true rfl) ?_
 refine .seq ?_
 refine .region ?_
 refine .q (op_assign rfl) trivial rfl ?_
 refine .nil ?_
 show Ev _ _ _ _ _
 refine .seq ?_
 refine .region ?_
 refine .q (op_move rfl) trivial rfl ?_
 refine .a (op_call (U := [(500, some ⟨.agg [.str ((u32D i).1).r, .err 131 (((u32D i).1).e) (offE eo (((u32D i).1).e))], 93, true⟩)]) [(500, 500)] [] (iu32_ev i eo) Tryd.func50 (by kernel_rfl) rfl rfl rfl (⟨⟨_, rfl, rfl, rfl⟩, trivial⟩) (⟨⟨_, _, rfl, rfl, rfl, rfl, id, rfl⟩, ⟨_, _, rfl, rfl, rfl, rfl, (fun h => by cases h), rfl⟩, trivial⟩) (⟨⟨500, _, rfl, rfl, rfl, rfl, .inr ⟨rfl, _, rfl, rfl⟩⟩, trivial⟩) (⟨(fun _ => ⟨500, _, rfl, rfl⟩), (fun h => by cases h), trivial⟩) rfl) trivial rfl ?_
 refine .q (op_conv Tryd.underlying42 Tryd.underlying2 rfl rfl) trivial rfl ?_
 refine .q (op_assign rfl) trivial rfl ?_
 refine .nil ?_
 show Ev _ _ _ _ _
 refine .seq ?_
 refine .seq ?_
 refine .region ?_
 refine .q (op_move rfl) trivial rfl ?_
 refine .q (op_move rfl) trivial rfl ?_
 refine .q (op_cmpI rfl rfl rfl) trivial rfl ?_
 refine .nil ?_
 show Ev _ _ _ _ _
 refine .cond_true rfl (decide_eq_true h) ?_
 refine .seq ?_
 refine .region ?_
 refine .q (op_move rfl) trivial rfl ?_
 refine .q (op_load Tryd.underlying33 rfl rfl rfl rfl (by first | omega | (simp only [AV.len]; omega) | (simp only [AV.len]; omega) | assumption | (simp [AV.len]; done))) trivial rfl ?_
 refine .a (op_call (U := [(500, some ⟨.agg [.str (failD (u32D i).1 4).r, .err 131 ((failD (u32D i).1 4).e) (offE eo ((failD (u32D i).1 4).e))], 93, true⟩)]) [(500, 500)] [] (fail_ev (u32D i).1 4 eo) Tryd.func56 (by kernel_rfl) rfl rfl rfl (⟨⟨_, rfl, rfl, rfl⟩, ⟨_, rfl, rfl, rfl⟩, trivial⟩) (⟨⟨_, _, rfl, rfl, rfl, rfl, id, rfl⟩, trivial⟩) (⟨⟨500, _, rfl, rfl, rfl, rfl, .inr ⟨rfl, _, rfl, rfl⟩⟩, trivial⟩) (⟨(fun _ => ⟨500, _, rfl, rfl⟩), trivial⟩) rfl) trivial rfl ?_
 refine .q (op_assign rfl) trivial rfl ?_
 refine .nil ?_
 show Ev _ _ _ _ _
 refine .ret ?_
 show RetOk _ _ _ _ _ _ _
 exact ret1v rfl (.inl rfl) rfl rfl ⟨rfl, trivial⟩
set_option maxRecDepth 100000 in
theorem text_ok (i : DI) (most : Int) (h : ¬ most < ((u32D i).2.toNat : Int)) (eo : Nat → Nat × Nat) : Meets Tryd.prog 53 [.ptr 500 0, .i64 most] [(500, some ⟨.agg [.str (i).r, .err 131 ((i).e) (offE eo ((i).e))], 93, true⟩), (1, some ⟨.agg [.err 131 (2) (offE eo (2))], errT, false⟩), (3, some ⟨.agg [.err 131 (4) (offE eo (4))], errT, false⟩)] (.str (rawD (u32D i).1 (u32D i).2.toNat).2) [(500, some ⟨.agg [.str ((rawD (u32D i).1 (u32D i).2.toNat).1).r, .err 131 (((rawD (u32D i).1 (u32D i).2.toNat).1).e) (offE eo (((rawD (u32D i).1 (u32D i).2.toNat).1).e))], 93, true⟩)] := by
 refine meets_of_ev (nt := 18) Tryd.func53 rfl rfl (Nat.le_of_ble_eq_true rfl) ?_
 refine .seq ?_
 refine .region ?_
 refine .q (op_assign rfl) trivial rfl ?_
 refine .nil ?_
 show Ev _ _ _ _ _
 refine .seq ?_
 refine .region ?_
 refine .q (op_move rfl) trivial rfl ?_
 refine .a (op_call (U := [(500, some ⟨.agg [.str ((u32D i).1).r, .err 131 (((u32D i).1).e) (offE eo (((u32D i).1).e))], 93, true⟩)]) [(500, 500)] [] (iu32_ev i eo) Tryd.func50 (by kernel_rfl) rfl rfl rfl (⟨⟨_, rfl, rfl, rfl⟩, trivial⟩) (⟨⟨_, _, rfl, rfl, rfl, rfl, id, rfl⟩, ⟨_, _, rfl, rfl, rfl, rfl, (fun h => by cases h), rfl⟩, trivial⟩) (⟨⟨500, _, rfl, rfl, rfl, rfl, .inr ⟨rfl, _, rfl, rfl⟩⟩, trivial⟩) (⟨(fun _ => ⟨500, _, rfl, rfl⟩), (fun h => by cases h), trivial⟩) rfl) trivial rfl ?_
 refine .q (op_conv Tryd.underlying42 Tryd.underlying2 rfl rfl) trivial rfl ?_
 refine .q (op_assign rfl) trivial rfl ?_
 refine .nil ?_
 show Ev _ _ _ _ _
 refine .seq ?_
 refine .seq ?_
 refine .region ?_
 refine .q (op_move rfl) trivial rfl ?_
 refine .q (op_move rfl) trivial rfl ?_
 refine .q (op_cmpI rfl rfl rfl) trivial rfl ?_
 refine .nil ?_
 show Ev _ _ _ _ _
 refine .cond_false rfl (decide_eq_false h) ?_
 refine .skip ?_
 show Ev _ _ _ _ _
 refine .seq ?_
 refine .region ?_
 refine .q (op_move rfl) trivial rfl ?_
 refine .q (op_move rfl) trivial rfl ?_
 refine .a (op_call (U := [(500, some ⟨.agg [.str ((rawD (u32D i).1 (u32D i).2.toNat).1).r, .err 131 (((rawD (u32D i).1 (u32D i).2.toNat).1).e) (offE eo (((rawD (u32D i).1 (u32D i).2.toNat).1).e))], 93, true⟩)]) [(500, 500)] [] (raw_ev (u32D i).1 ((u32D i).2.toNat : Int) eo) Tryd.func54 (by kernel_rfl) rfl rfl rfl (⟨⟨_, rfl, rfl, rfl⟩, ⟨_, rfl, rfl, rfl⟩, trivial⟩) (⟨⟨_, _, rfl, rfl, rfl, rfl, id, rfl⟩, ⟨_, _, rfl, rfl, rfl, rfl, (fun h => by cases h), rfl⟩, trivial⟩) (⟨⟨500, _, rfl, rfl, rfl, rfl, .inr ⟨rfl, _, rfl, rfl⟩⟩, trivial⟩) (⟨(fun _ => ⟨500, _, rfl, rfl⟩), (fun h => by cases h), trivial⟩) rfl) trivial rfl ?_
 refine .q (op_assign rfl) trivial rfl ?_
 refine .nil ?_
 show Ev _ _ _ _ _
 refine .ret ?_
 show RetOk _ _ _ _ _ _ _
 exact ret1v rfl (.inl rfl) rfl rfl ⟨rfl, trivial⟩
theorem itext_ev (i : DI) (most : Int) (eo : Nat → Nat × Nat) : Meets Tryd.prog 53 [.ptr 500 0, .i64 most] [(500, some ⟨.agg [.str (i).r, .err 131 ((i).e) (offE eo ((i).e))], 93, true⟩), (1, some ⟨.agg [.err 131 (2) (offE eo (2))], errT, false⟩), (3, some ⟨.agg [.err 131 (4) (offE eo (4))], errT, false⟩)] (.str (textD i most).2) [(500, some ⟨.agg [.str ((textD i most).1).r, .err 131 (((textD i most).1).e) (offE eo (((textD i most).1).e))], 93, true⟩)] := by
 by_cases h : most < ((u32D i).2.toNat : Int)
 ·rw [show textD i most = (failD (u32D i).1 4, []) from if_pos h]; exact text_bad i most h eo
 ·rw [show textD i most = rawD (u32D i).1 (u32D i).2.toNat from if_neg h]; exact text_ok i most h eo
end Go.Proofs.YtenocbhlbgcnfaaDoor
namespace Go.Proofs.YtenocbhlbgcnfaaDoor
open Go.RowKit
def boolB (b : Bool) : List UInt8 := [if b then 1 else 0]
theorem length_boolB (b : Bool) : (boolB b).length = 1 := rfl
set_option maxRecDepth 100000 in
theorem boolT2_ev  (l : List UInt8) (n : Nat) (hn : n = l.length) (h : n ≤ 800000000) : Meets Tryd.prog 42 [.ptr 500 0, .bool true] [(500, some ⟨.agg [.ptr 500 0, .sl 501 0 (n) 1], 56, true⟩), (501, some ⟨.aggB l, 5, true⟩)] (.ptr 500 0) [(500, some ⟨.agg [.ptr 500 0, .sl 1000 0 (n + 1) 1], 56, true⟩), (1000, some ⟨.aggB (l ++ boolB true), 5, true⟩)] := by
 refine meets_of_ev (nt := 10) Tryd.func42 rfl rfl (Nat.le_of_ble_eq_true rfl) ?_
 refine .seq ?_
 refine .region ?_
 refine .q (op_assign rfl) trivial rfl ?_
 refine .nil ?_
 show Ev _ _ _ _ _
 refine .seq ?_
 refine .seq ?_
 refine .region ?_
 refine .q (op_move rfl) trivial rfl ?_
 refine .nil ?_
 show Ev _ _ _ _ _
 refine .cond_true rfl (rfl) ?_
 refine .seq ?_
 refine .region ?_
 refine .q (op_move rfl) trivial rfl ?_
 refine .a (op_call (U := [(500, some ⟨.agg [.ptr 500 0, .sl 1000 0 (n + 1) 1], 56, true⟩), (1000, some ⟨.aggB (l ++ boolB true), 5, true⟩), (501, none)]) [(500, 500), (501, 501)] [(1000, 1000)] (byte2_ev 1 (l) (n) (by first | exact hn | (simp [length_numB, length_lenB, length_textB]; done) | (simp [length_numB, length_lenB, length_textB]; omega) | omega | decide +kernel) (by omega)) Tryd.func23 (by kernel_rfl) rfl rfl rfl (⟨⟨_, rfl, rfl, rfl⟩, ⟨_, rfl, rfl, rfl⟩, trivial⟩) (⟨⟨_, _, rfl, rfl, rfl, rfl, id, rfl⟩, ⟨_, _, rfl, rfl, rfl, rfl, id, rfl⟩, trivial⟩) (⟨⟨500, _, rfl, rfl, rfl, rfl, .inr ⟨rfl, _, rfl, rfl⟩⟩, ⟨1000, _, rfl, rfl, rfl, rfl, .inl rfl⟩, trivial⟩) (⟨(fun _ => ⟨500, _, rfl, rfl⟩), (fun _ => ⟨501, _, rfl, rfl⟩), trivial⟩) rfl) trivial rfl ?_
 refine .q (op_assign rfl) trivial rfl ?_
 refine .nil ?_
 show Ev _ _ _ _ _
 refine .ret ?_
 show RetOk _ _ _ _ _ _ _
 exact ret1v rfl (.inl rfl) rfl rfl ⟨(by first | rfl | (simp only [List.append_assoc, Nat.add_assoc, textB, bigB]; rfl)), (by first | rfl | (simp only [List.append_assoc, Nat.add_assoc, textB, bigB]; rfl)), trivial⟩
set_option maxRecDepth 100000 in
theorem boolF2_ev  (l : List UInt8) (n : Nat) (hn : n = l.length) (h : n ≤ 800000000) : Meets Tryd.prog 42 [.ptr 500 0, .bool false] [(500, some ⟨.agg [.ptr 500 0, .sl 501 0 (n) 1], 56, true⟩), (501, some ⟨.aggB l, 5, true⟩)] (.ptr 500 0) [(500, some ⟨.agg [.ptr 500 0, .sl 1000 0 (n + 1) 1], 56, true⟩), (1000, some ⟨.aggB (l ++ boolB false), 5, true⟩)] := by
 refine meets_of_ev (nt := 10) Tryd.func42 rfl rfl (Nat.le_of_ble_eq_true rfl) ?_
 refine .seq ?_
 refine .region ?_
 refine .q (op_assign rfl) trivial rfl ?_
 refine .nil ?_
 show Ev _ _ _ _ _
 refine .seq ?_
 refine .seq ?_
 refine .region ?_
 refine .q (op_move rfl) trivial rfl ?_
 refine .nil ?_
 show Ev _ _ _ _ _
 refine .cond_false rfl (rfl) ?_
 refine .skip ?_
 show Ev _ _ _ _ _
 refine .seq ?_
 refine .region ?_
 refine .q (op_move rfl) trivial rfl ?_
 refine .a (op_call (U := [(500, some ⟨.agg [.ptr 500 0, .sl 1000 0 (n + 1) 1], 56, true⟩), (1000, some ⟨.aggB (l ++ boolB false), 5, true⟩), (501, none)]) [(500, 500), (501, 501)] [(1000, 1000)] (byte2_ev 0 (l) (n) (by first | exact hn | (simp [length_numB, length_lenB, length_textB]; done) | (simp [length_numB, length_lenB, length_textB]; omega) | omega | decide +kernel) (by omega)) Tryd.func23 (by kernel_rfl) rfl rfl rfl (⟨⟨_, rfl, rfl, rfl⟩, ⟨_, rfl, rfl, rfl⟩, trivial⟩) (⟨⟨_, _, rfl, rfl, rfl, rfl, id, rfl⟩, ⟨_, _, rfl, rfl, rfl, rfl, id, rfl⟩, trivial⟩) (⟨⟨500, _, rfl, rfl, rfl, rfl, .inr ⟨rfl, _, rfl, rfl⟩⟩, ⟨1000, _, rfl, rfl, rfl, rfl, .inl rfl⟩, trivial⟩) (⟨(fun _ => ⟨500, _, rfl, rfl⟩), (fun _ => ⟨501, _, rfl, rfl⟩), trivial⟩) rfl) trivial rfl ?_
 refine .q (op_assign rfl) trivial rfl ?_
 refine .nil ?_
 show Ev _ _ _ _ _
 refine .ret ?_
 show RetOk _ _ _ _ _ _ _
 exact ret1v rfl (.inl rfl) rfl rfl ⟨(by first | rfl | (simp only [List.append_assoc, Nat.add_assoc, textB, bigB]; rfl)), (by first | rfl | (simp only [List.append_assoc, Nat.add_assoc, textB, bigB]; rfl)), trivial⟩
theorem bool2_ev (b : Bool) (l : List UInt8) (n : Nat) (hn : n = l.length) (h : n ≤ 800000000) : Meets Tryd.prog 42 [.ptr 500 0, .bool b] [(500, some ⟨.agg [.ptr 500 0, .sl 501 0 (n) 1], 56, true⟩), (501, some ⟨.aggB l, 5, true⟩)] (.ptr 500 0) [(500, some ⟨.agg [.ptr 500 0, .sl 1000 0 (n + 1) 1], 56, true⟩), (1000, some ⟨.aggB (l ++ boolB b), 5, true⟩)] := by
 cases b
 ·exact boolF2_ev l n hn h
 ·exact boolT2_ev l n hn h
set_option maxRecDepth 100000 in
theorem bytes2_ev (l : List UInt8) (n : Nat) (hn : n = l.length) (h0 : 0 < n) (h : n ≤ 1000000000) : Meets Tryd.prog 25 [.ptr 500 0] [(500, some ⟨.agg [.ptr 500 0, .sl 501 0 (n) 1], 56, false⟩), (501, some ⟨.aggB l, 5, true⟩)] (.str l) [(500, some ⟨.agg [.ptr 500 0, .sl 501 0 (n) 1], 56, false⟩), (501, some ⟨.aggB l, (frz + 5), false⟩)] := by
 refine meets_of_ev (nt := 7) Tryd.func25 rfl rfl (Nat.le_of_ble_eq_true rfl) ?_
 refine .seq ?_
 refine .region ?_
 refine .q (op_assign rfl) trivial rfl ?_
 refine .nil ?_
 show Ev _ _ _ _ _
 refine .seq ?_
 refine .region ?_
 refine .q (op_move rfl) trivial rfl ?_
 refine .q (op_nilCheck rfl) trivial rfl ?_
 refine .q (op_fieldAddr (m := 1) Tryd.underlying56 rfl (by kernel_rfl) rfl) trivial rfl ?_
 refine .as (.ptr 500 0) rfl ?_
 refine .a (op_call (U := [(501, some ⟨.aggB l, (frz + 5), false⟩)]) [(500, 500), (501, 501)] [] (st2_ev l n hn h0 h) Tryd.func48 (by kernel_rfl) rfl rfl rfl (⟨⟨_, rfl, rfl, rfl⟩, trivial⟩) (⟨⟨_, _, rfl, rfl, rfl, rfl, (fun h => by cases h), rfl⟩, ⟨_, _, rfl, rfl, rfl, rfl, id, rfl⟩, trivial⟩) (⟨⟨501, _, rfl, rfl, rfl, rfl, .inr ⟨rfl, _, rfl, rfl⟩⟩, trivial⟩) (⟨(fun h => by cases h), (fun _ => ⟨501, _, rfl, rfl⟩), trivial⟩) rfl) trivial rfl ?_
 refine .q (op_assign rfl) trivial rfl ?_
 refine .nil ?_
 show Ev _ _ _ _ _
 refine .ret ?_
 show RetOk _ _ _ _ _ _ _
 exact ret1v rfl (.inl rfl) rfl rfl ⟨rfl, rfl, trivial⟩
end Go.Proofs.YtenocbhlbgcnfaaDoor
namespace Go.Proofs.YtenocbhlbgcnfaaDoor
open Go.RowKit
set_option maxRecDepth 100000 in
theorem end_ok (i : DI) (h : i.r = []) (eo : Nat → Nat × Nat) : Meets Tryd.prog 31 [.ptr 500 0] [(500, some ⟨.agg [.str (i).r, .err 131 ((i).e) (offE eo ((i).e))], 93, true⟩), (2, some ⟨.agg [.err 131 (3) (offE eo (3))], errT, false⟩)] (.err 131 ((i).e) (offE eo ((i).e))) [(500, some ⟨.agg [.str (i).r, .err 131 ((i).e) (offE eo ((i).e))], 93, true⟩)] := by
 refine meets_of_ev (nt := 15) Tryd.func31 rfl rfl (Nat.le_of_ble_eq_true rfl) ?_
 refine .seq ?_
 refine .region ?_
 refine .q (op_assign rfl) trivial rfl ?_
 refine .nil ?_
 show Ev _ _ _ _ _
 refine .seq ?_
 refine .seq ?_
 refine .region ?_
 refine .q (op_move rfl) trivial rfl ?_
 refine .q (op_nilCheck rfl) trivial rfl ?_
 refine .q (op_fieldAddr (m := 0) Tryd.underlying93 rfl (by kernel_rfl) rfl) trivial rfl ?_
 refine .as (.ptr 500 0) rfl ?_
 refine .q (op_load Tryd.underlying9 rfl rfl rfl rfl (by first | omega | (simp only [AV.len]; omega) | (simp only [AV.len]; omega) | assumption | (simp [AV.len]; done))) trivial rfl ?_
 refine .q (op_eqS rfl rfl rfl) trivial rfl ?_
 refine .nil ?_
 show Ev _ _ _ _ _
 refine .cond_false rfl (by simpa using h) ?_
 refine .skip ?_
 show Ev _ _ _ _ _
 refine .seq ?_
 refine .region ?_
 refine .q (op_move rfl) trivial rfl ?_
 refine .q (op_nilCheck rfl) trivial rfl ?_
 refine .q (op_fieldAddr (m := 0) Tryd.underlying93 rfl (by kernel_rfl) rfl) trivial rfl ?_
 refine .as (.ptr 500 1) rfl ?_
 refine .q (op_load Tryd.underlying33 rfl rfl rfl rfl (by first | omega | (simp only [AV.len]; omega) | (simp only [AV.len]; omega) | assumption | (simp [AV.len]; done))) trivial rfl ?_
 refine .q (op_assign rfl) trivial rfl ?_
 refine .nil ?_
 show Ev _ _ _ _ _
 refine .ret ?_
 show RetOk _ _ _ _ _ _ _
 exact ret1v rfl (.inl rfl) rfl rfl ⟨rfl, trivial⟩
set_option maxRecDepth 100000 in
theorem end_bad (i : DI) (h : ¬ i.r = []) (eo : Nat → Nat × Nat) : Meets Tryd.prog 31 [.ptr 500 0] [(500, some ⟨.agg [.str (i).r, .err 131 ((i).e) (offE eo ((i).e))], 93, true⟩), (2, some ⟨.agg [.err 131 (3) (offE eo (3))], errT, false⟩)] (.err 131 ((failD i 3).e) (offE eo ((failD i 3).e))) [(500, some ⟨.agg [.str (failD i 3).r, .err 131 ((failD i 3).e) (offE eo ((failD i 3).e))], 93, true⟩)] := by
 refine meets_of_ev (nt := 15) Tryd.func31 rfl rfl (Nat.le_of_ble_eq_true rfl) ?_
 refine .seq ?_
 refine .region ?_
 refine .q (op_assign rfl) trivial rfl ?_
 refine .nil ?_
 show Ev _ _ _ _ _
 refine .seq ?_
 refine .seq ?_
 refine .region ?_
 refine .q (op_move rfl) trivial rfl ?_
 refine .q (op_nilCheck rfl) trivial rfl ?_
 refine .q (op_fieldAddr (m := 0) Tryd.underlying93 rfl (by kernel_rfl) rfl) trivial rfl ?_
 refine .as (.ptr 500 0) rfl ?_
 refine .q (op_load Tryd.underlying9 rfl rfl rfl rfl (by first | omega | (simp only [AV.len]; omega) | (simp only [AV.len]; omega) | assumption | (simp [AV.len]; done))) trivial rfl ?_
 refine .q (op_eqS rfl rfl rfl) trivial rfl ?_
 refine .nil ?_
 show Ev _ _ _ _ _
 refine .cond_true rfl (bne_iff_ne.2 h) ?_
 refine .region ?_
 refine .q (op_move rfl) trivial rfl ?_
 refine .q (op_load Tryd.underlying33 rfl rfl rfl rfl (by first | omega | (simp only [AV.len]; omega) | (simp only [AV.len]; omega) | assumption | (simp [AV.len]; done))) trivial rfl ?_
 refine .a (op_call (U := [(500, some ⟨.agg [.str (failD i 3).r, .err 131 ((failD i 3).e) (offE eo ((failD i 3).e))], 93, true⟩)]) [(500, 500)] [] (fail_ev i 3 eo) Tryd.func56 (by kernel_rfl) rfl rfl rfl (⟨⟨_, rfl, rfl, rfl⟩, ⟨_, rfl, rfl, rfl⟩, trivial⟩) (⟨⟨_, _, rfl, rfl, rfl, rfl, id, rfl⟩, trivial⟩) (⟨⟨500, _, rfl, rfl, rfl, rfl, .inr ⟨rfl, _, rfl, rfl⟩⟩, trivial⟩) (⟨(fun _ => ⟨500, _, rfl, rfl⟩), trivial⟩) rfl) trivial rfl ?_
 refine .nil ?_
 show Ev _ _ _ _ _
 refine .seq ?_
 refine .region ?_
 refine .q (op_move rfl) trivial rfl ?_
 refine .q (op_nilCheck rfl) trivial rfl ?_
 refine .q (op_fieldAddr (m := 0) Tryd.underlying93 rfl (by kernel_rfl) rfl) trivial rfl ?_
 refine .as (.ptr 500 1) rfl ?_
 refine .q (op_load Tryd.underlying33 rfl rfl rfl rfl (by first | omega | (simp only [AV.len]; omega) | (simp only [AV.len]; omega) | assumption | (simp [AV.len]; done))) trivial rfl ?_
 refine .q (op_assign rfl) trivial rfl ?_
 refine .nil ?_
 show Ev _ _ _ _ _
 refine .ret ?_
 show RetOk _ _ _ _ _ _ _
 exact ret1v rfl (.inl rfl) rfl rfl ⟨rfl, trivial⟩
theorem end_ev (i : DI) (eo : Nat → Nat × Nat) : Meets Tryd.prog 31 [.ptr 500 0] [(500, some ⟨.agg [.str (i).r, .err 131 ((i).e) (offE eo ((i).e))], 93, true⟩), (2, some ⟨.agg [.err 131 (3) (offE eo (3))], errT, false⟩)] (.err 131 ((endD i).e) (offE eo ((endD i).e))) [(500, some ⟨.agg [.str (endD i).r, .err 131 ((endD i).e) (offE eo ((endD i).e))], 93, true⟩)] := by
 by_cases h : i.r = []
 ·rw [show endD i = i from if_pos h]; exact end_ok i h eo
 ·rw [show endD i = failD i 3 from if_neg h]; exact end_bad i h eo
set_option maxRecDepth 100000 in
theorem left_ev (i : DI) (eo : Nat → Nat × Nat) : Meets Tryd.prog 55 [.ptr 500 0] [(500, some ⟨.agg [.str (i).r, .err 131 ((i).e) (offE eo ((i).e))], 93, false⟩)] (.i64 (i.r.length : Int)) [(500, some ⟨.agg [.str (i).r, .err 131 ((i).e) (offE eo ((i).e))], 93, false⟩)] := by
 refine meets_of_ev (nt := 8) Tryd.func55 rfl rfl (Nat.le_of_ble_eq_true rfl) ?_
 refine .seq ?_
 refine .region ?_
 refine .q (op_assign rfl) trivial rfl ?_
 refine .nil ?_
 show Ev _ _ _ _ _
 refine .seq ?_
 refine .region ?_
 refine .q (op_move rfl) trivial rfl ?_
 refine .q (op_nilCheck rfl) trivial rfl ?_
 refine .q (op_fieldAddr (m := 0) Tryd.underlying93 rfl (by kernel_rfl) rfl) trivial rfl ?_
 refine .as (.ptr 500 0) rfl ?_
 refine .q (op_load Tryd.underlying9 rfl rfl rfl rfl (by first | omega | (simp only [AV.len]; omega) | (simp only [AV.len]; omega) | assumption | (simp [AV.len]; done))) trivial rfl ?_
 refine .q (op_len_str Tryd.underlying9 rfl) trivial rfl ?_
 refine .q (op_assign rfl) trivial rfl ?_
 refine .nil ?_
 show Ev _ _ _ _ _
 refine .ret ?_
 show RetOk _ _ _ _ _ _ _
 exact ret1v rfl (.inl rfl) rfl rfl ⟨rfl, trivial⟩
set_option maxRecDepth 100000 in
theorem wof_ev (s : List UInt8) (eo : Nat → Nat × Nat) : Meets Tryd.prog 28 [.str s] [] (.ptr 1000 0) [(1000, some ⟨.agg [.str (DI.mk s 0).r, .err 131 ((DI.mk s 0).e) (offE eo ((DI.mk s 0).e))], 93, true⟩)] := by
 refine meets_of_ev (nt := 6) Tryd.func28 rfl rfl (Nat.le_of_ble_eq_true rfl) ?_
 refine .seq ?_
 refine .region ?_
 refine .q (op_assign rfl) trivial rfl ?_
 refine .nil ?_
 show Ev _ _ _ _ _
 refine .seq ?_
 refine .region ?_
 refine .q (op_move rfl) trivial rfl ?_
 refine .q (op_buildS (r := .agg [.str s, .err 131 0 (0, 0)]) Tryd.underlying93 rfl zero93 rel_zero93 rfl rfl rfl rfl) trivial rfl ?_
 refine .a (op_boxRow rfl rfl) trivial rfl ?_
 refine .q (op_assign rfl) trivial rfl ?_
 refine .nil ?_
 show Ev _ _ _ _ _
 refine .ret ?_
 show RetOk _ _ _ _ _ _ _
 exact ret1v rfl (.inl rfl) rfl rfl ⟨rfl, trivial⟩
end Go.Proofs.YtenocbhlbgcnfaaDoor
namespace Go.Proofs.YtenocbhlbgcnfaaDoor
open Go.RowKit
theorem ch_a {c : UInt8} (h : c ≤ 32) : chOk c = false := by simp [chOk, h]
theorem ch_b {c : UInt8} (h : 126 < c) : chOk c = false := by simp [chOk, h]
theorem ch_c {c : UInt8} (h : c = 44) : chOk c = false := by simp [chOk, h]
theorem ch_ok {c : UInt8} (h1 : ¬ c ≤ 32) (h2 : ¬ 126 < c) (h3 : ¬ c = 44) : chOk c = true := by simp [chOk, h1, h2, h3]
theorem lt33 {c : UInt8} : c < 33 ↔ c ≤ 32 := by simp only [UInt8.lt_iff_toNat_lt, UInt8.le_iff_toNat_le, UInt8.reduceToNat]; omega
theorem name_bad {s : List UInt8} {j : Nat} (hj : j < s.length) (h : chOk (s.getD j 0) = false) : nameOk s = false := by
  have : s.all chOk = false := by
    rw [List.all_eq_false]
    refine ⟨s[j], List.getElem_mem hj, ?_⟩
    rw [show s[j] = s.getD j 0 by simp [List.getD_eq_getElem?_getD, hj], h]; decide
  simp [nameOk, this]
theorem name_step {s : List UInt8} {j : Nat} (hj : j < s.length) (hq : (s.take j).all chOk = true) (h : chOk (s.getD j 0) = true) : (s.take (j + 1)).all chOk = true := by
  rw [List.take_add_one, List.getElem?_eq_getElem hj]
  simp only [Option.toList_some, List.all_append, hq, Bool.true_and, List.all_cons, List.all_nil, Bool.and_true]
  rw [show s[j] = s.getD j 0 by simp [List.getD_eq_getElem?_getD, hj], h]
theorem name_all {s : List UInt8} {j : Nat} (hj : s.length ≤ j) (hq : (s.take j).all chOk = true) : s.all chOk = true := by rwa [List.take_of_length_le hj] at hq
theorem name_ref1 {s : List UInt8} (h0 : 0 < s.length) (h : s.all chOk = true) : decide ((s.length : Int) < 65) = nameOk s := by
  have h1 : (s == []) = false := by cases s with | nil => cases h0 | cons x l => rfl
  simp only [nameOk, h, h1, Bool.and_true, Bool.not_false, Bool.true_and]
  by_cases h2 : 64 < s.length
  · rw [decide_eq_true h2, decide_eq_false (by omega)]; rfl
  · rw [decide_eq_false h2, decide_eq_true (by omega)]; rfl
theorem name_ref0 {s : List UInt8} (h0 : ¬ 0 < s.length) : false = nameOk s := by
  cases s with
  | nil => rfl
  | cons x l => exact absurd (Nat.succ_pos _) h0
set_option maxRecDepth 100000 in
theorem wname_ev (s : List UInt8) (hs : s.length ≤ 9223372036854775000) : Meets Tryd.prog 37 [.str s] [] (.bool (nameOk s)) [] := by
 refine meets_of_ev (nt := 33) Tryd.func37 rfl rfl (Nat.le_of_ble_eq_true rfl) ?_
 refine .seq ?_
 refine .region ?_
 refine .q (op_assign rfl) trivial rfl ?_
 refine .nil ?_
 show Ev _ _ _ _ _
 refine .seq ?_
 refine .seq ?_
 refine .region ?_
 refine .q (op_move rfl) trivial rfl ?_
 refine .q (op_eqS rfl rfl rfl) trivial rfl ?_
 refine .q (op_move rfl) trivial rfl ?_
 refine .split (fun hg6 => ?_) (fun hg6 => ?_)
 ·simp only [beq_iff_eq] at hg6
  refine .no ⟨_, rfl, rfl⟩ rfl ?_
  refine .no ⟨_, rfl, rfl⟩ rfl ?_
  refine .no ⟨_, rfl, rfl⟩ rfl ?_
  refine .q (op_pick_true rfl rfl rfl) trivial rfl ?_
  refine .nil ?_
  show Ev _ _ _ _ _
  refine .cond_true rfl rfl ?_
  refine .seq ?_
  refine .region ?_
  refine .q (op_assign rfl) trivial rfl ?_
  refine .nil ?_
  show Ev _ _ _ _ _
  refine .ret ?_
  show RetOk _ _ _ _ _ _ _
  exact ret1v rfl (.inl rfl) rfl (congrArg AV.bool (by first | exact (name_bad (j := j) (by omega) (by first | exact ch_a hg20 | exact ch_b hg26 | exact ch_c hc31)).symm | exact (by have := name_all (j := j) (by omega) hq; simp only [nameOk, this]; simp; first | done | omega | exact ⟨hg6, by omega⟩) | exact (by first | (subst hg6; rfl) | (simp [nameOk]; omega)))) trivial
 ·simp only [ne_eq, beq_eq_false_iff_ne] at hg6
  refine .q (op_move rfl) ⟨_, rfl, rfl⟩ rfl ?_
  refine .q (op_len_str Tryd.underlying9 rfl) ⟨_, rfl, rfl⟩ rfl ?_
  refine .q (op_cmpI rfl rfl rfl) ⟨_, rfl, rfl⟩ rfl ?_
  refine .q (op_pick_false rfl rfl rfl) trivial rfl ?_
  refine .nil ?_
  show Ev _ _ _ _ _
  refine .cond rfl (fun hc10 => ?_) (fun hc10 => ?_)
  ·simp only [decide_eq_true_eq] at hc10
   refine .seq ?_
   refine .region ?_
   refine .q (op_assign rfl) trivial rfl ?_
   refine .nil ?_
   show Ev _ _ _ _ _
   refine .ret ?_
   show RetOk _ _ _ _ _ _ _
   exact ret1v rfl (.inl rfl) rfl (congrArg AV.bool (by first | exact (name_bad (j := j) (by omega) (by first | exact ch_a hg20 | exact ch_b hg26 | exact ch_c hc31)).symm | exact (by have := name_all (j := j) (by omega) hq; simp only [nameOk, this]; simp; first | done | omega | exact ⟨hg6, by omega⟩) | exact (by first | (subst hg6; rfl) | (simp [nameOk]; omega)))) trivial
  ·simp only [decide_eq_false_iff_not] at hc10
   refine .skip ?_
   show Ev _ _ _ _ _
   refine .seq ?_
   refine .seq ?_
   refine .region ?_
   refine .q (op_move rfl) trivial rfl ?_
   refine .q (op_len_str Tryd.underlying9 rfl) trivial rfl ?_
   refine .q (op_move rfl) trivial rfl ?_
   refine .nil ?_
   show Ev _ _ _ _ _
   refine .block ?_
   refine Ev.loop (ι := { j : Nat // j ≤ s.length ∧ (s.take j).all chOk = true }) (fun q => ⟨[(0, .str s), (12, .i64 (s.length : Int)), (13, .i64 (q.1 : Int))], [], 1000⟩) (fun q => s.length - q.1) ⟨0, by omega, rfl⟩ (StLe.mk [] rfl rfl ⟨⟨_, rfl, by first | rfl | (simp only [AV.ren]; congr 1; omega), rfl⟩, ⟨_, rfl, by first | rfl | (simp only [AV.ren]; congr 1; omega), rfl⟩, ⟨_, rfl, by first | rfl | (simp only [AV.ren]; congr 1; omega), rfl⟩, trivial⟩ trivial) ?_
   rintro ⟨j, hj, hq⟩
   try dsimp only
   refine .seq ?_
   refine .region ?_
   refine .q (op_cmpI rfl rfl rfl) trivial rfl ?_
   refine .nil ?_
   show Ev _ _ _ _ _
   refine .seq ?_
   refine .cond rfl (fun hc14 => ?_) (fun hc14 => ?_)
   ·simp only [decide_eq_true_eq] at hc14
    refine .skip ?_
    show Ev _ _ _ _ _
    refine .seq ?_
    refine .block ?_
    refine .seq ?_
    refine .region ?_
    refine .q (op_move rfl) trivial rfl ?_
    refine .q (op_assign rfl) trivial rfl ?_
    refine .nil ?_
    show Ev _ _ _ _ _
    refine .seq ?_
    refine .region ?_
    refine .q (op_move rfl) trivial rfl ?_
    refine .q (op_move rfl) trivial rfl ?_
    refine .q (op_index_str Tryd.underlying9 rfl rfl rfl (by omega)) trivial rfl ?_
    refine .q (op_bin8 rfl rfl rfl) trivial rfl ?_
    refine .q (op_move rfl) trivial rfl ?_
    refine .split (fun hg20 => ?_) (fun hg20 => ?_)
    ·simp only [decide_eq_true_eq] at hg20
     refine .no ⟨_, rfl, rfl⟩ rfl ?_
     refine .no ⟨_, rfl, rfl⟩ rfl ?_
     refine .no ⟨_, rfl, rfl⟩ rfl ?_
     refine .no ⟨_, rfl, rfl⟩ rfl ?_
     refine .q (op_pick_true rfl rfl rfl) trivial rfl ?_
     refine .q (op_move rfl) trivial rfl ?_
     refine .no ⟨_, rfl, rfl⟩ rfl ?_
     refine .no ⟨_, rfl, rfl⟩ rfl ?_
     refine .no ⟨_, rfl, rfl⟩ rfl ?_
     refine .no ⟨_, rfl, rfl⟩ rfl ?_
     refine .q (op_pick_true rfl rfl rfl) trivial rfl ?_
     refine .nil ?_
     show Ev _ _ _ _ _
     refine .cond_true rfl rfl ?_
     refine .seq ?_
     refine .region ?_
     refine .q (op_assign rfl) trivial rfl ?_
     refine .nil ?_
     show Ev _ _ _ _ _
     refine .ret ?_
     show RetOk _ _ _ _ _ _ _
     exact ret1v rfl (.inl rfl) rfl (congrArg AV.bool (by first | exact (name_bad (j := j) (by omega) (by first | exact ch_a hg20 | exact ch_b hg26 | exact ch_c hc31)).symm | exact (by have := name_all (j := j) (by omega) hq; simp only [nameOk, this]; simp; first | done | omega | exact ⟨hg6, by omega⟩) | exact (by first | (subst hg6; rfl) | (simp [nameOk]; omega)))) trivial
    ·simp only [decide_eq_false_iff_not] at hg20
     refine .q (op_move rfl) ⟨_, rfl, rfl⟩ rfl ?_
     refine .q (op_move rfl) ⟨_, rfl, rfl⟩ rfl ?_
     refine .q (op_index_str Tryd.underlying9 rfl rfl rfl (by omega)) ⟨_, rfl, rfl⟩ rfl ?_
     refine .q (op_bin8 rfl rfl rfl) ⟨_, rfl, rfl⟩ rfl ?_
     refine .q (op_pick_false rfl rfl rfl) trivial rfl ?_
     refine .q (op_move rfl) trivial rfl ?_
     refine .split (fun hg26 => ?_) (fun hg26 => ?_)
     ·simp only [decide_eq_true_eq] at hg26
      refine .no ⟨_, rfl, rfl⟩ rfl ?_
      refine .no ⟨_, rfl, rfl⟩ rfl ?_
      refine .no ⟨_, rfl, rfl⟩ rfl ?_
      refine .no ⟨_, rfl, rfl⟩ rfl ?_
      refine .q (op_pick_true rfl rfl rfl) trivial rfl ?_
      refine .nil ?_
      show Ev _ _ _ _ _
      refine .cond_true rfl rfl ?_
      refine .seq ?_
      refine .region ?_
      refine .q (op_assign rfl) trivial rfl ?_
      refine .nil ?_
      show Ev _ _ _ _ _
      refine .ret ?_
      show RetOk _ _ _ _ _ _ _
      exact ret1v rfl (.inl rfl) rfl (congrArg AV.bool (by first | exact (name_bad (j := j) (by omega) (by first | exact ch_a hg20 | exact ch_b hg26 | exact ch_c hc31)).symm | exact (by have := name_all (j := j) (by omega) hq; simp only [nameOk, this]; simp; first | done | omega | exact ⟨hg6, by omega⟩) | exact (by first | (subst hg6; rfl) | (simp [nameOk]; omega)))) trivial
     ·simp only [decide_eq_false_iff_not] at hg26
      refine .q (op_move rfl) ⟨_, rfl, rfl⟩ rfl ?_
      refine .q (op_move rfl) ⟨_, rfl, rfl⟩ rfl ?_
      refine .q (op_index_str Tryd.underlying9 rfl rfl rfl (by omega)) ⟨_, rfl, rfl⟩ rfl ?_
      refine .q (op_bin8 rfl rfl rfl) ⟨_, rfl, rfl⟩ rfl ?_
      refine .q (op_pick_false rfl rfl rfl) trivial rfl ?_
      refine .nil ?_
      show Ev _ _ _ _ _
      refine .cond rfl (fun hc31 => ?_) (fun hc31 => ?_)
      ·simp only [beq_iff_eq] at hc31
       refine .seq ?_
       refine .region ?_
       refine .q (op_assign rfl) trivial rfl ?_
       refine .nil ?_
       show Ev _ _ _ _ _
       refine .ret ?_
       show RetOk _ _ _ _ _ _ _
       exact ret1v rfl (.inl rfl) rfl (congrArg AV.bool (by first | exact (name_bad (j := j) (by omega) (by first | exact ch_a hg20 | exact ch_b hg26 | exact ch_c hc31)).symm | exact (by have := name_all (j := j) (by omega) hq; simp only [nameOk, this]; simp; first | done | omega | exact ⟨hg6, by omega⟩) | exact (by first | (subst hg6; rfl) | (simp [nameOk]; omega)))) trivial
      ·simp only [ne_eq, beq_eq_false_iff_ne] at hc31
       refine .skip ?_
       show Ev _ _ _ _ _
       refine .region ?_
       refine .q (op_addI rfl rfl ⟨by omega, by omega⟩) trivial rfl ?_
       refine .q (op_move rfl) trivial rfl ?_
       refine .nil ?_
       exact ⟨⟨j + 1, by omega, name_step (by omega) hq (ch_ok hg20 hg26 hc31)⟩, by (try dsimp only); omega, StLe.mk [] rfl rfl ⟨⟨_, rfl, by first | rfl | (simp only [AV.ren]; congr 1; omega), rfl⟩, ⟨_, rfl, by first | rfl | (simp only [AV.ren]; congr 1; omega), rfl⟩, ⟨_, rfl, by first | rfl | (simp only [AV.ren]; congr 1; omega), rfl⟩, trivial⟩ trivial⟩
   ·simp only [decide_eq_false_iff_not] at hc14
    refine .exit ?_
    show Ev _ _ _ _ _
    refine .seq ?_
    refine .region ?_
    refine .q (op_assign rfl) trivial rfl ?_
    refine .nil ?_
    show Ev _ _ _ _ _
    refine .ret ?_
    show RetOk _ _ _ _ _ _ _
    exact ret1v rfl (.inl rfl) rfl (congrArg AV.bool (by first | exact (name_bad (j := j) (by omega) (by first | exact ch_a hg20 | exact ch_b hg26 | exact ch_c hc31)).symm | exact (by have := name_all (j := j) (by omega) hq; simp only [nameOk, this]; simp; first | done | omega | exact ⟨hg6, by omega⟩) | exact (by first | (subst hg6; rfl) | (simp [nameOk]; omega)))) trivial
set_option maxRecDepth 100000 in
theorem rname_ev (s : List UInt8) (hs : s.length ≤ 9223372036854775000) : Meets Tryd.prog 21 [.str s] [] (.bool (nameOk s)) [] := by
 refine meets_of_ev (nt := 34) Tryd.func21 rfl rfl (Nat.le_of_ble_eq_true rfl) ?_
 refine .seq ?_
 refine .region ?_
 refine .q (op_assign rfl) trivial rfl ?_
 refine .nil ?_
 show Ev _ _ _ _ _
 refine .seq ?_
 refine .seq ?_
 refine .region ?_
 refine .q (op_assign rfl) trivial rfl ?_
 refine .nil ?_
 show Ev _ _ _ _ _
 refine .block ?_
 refine Ev.loop (ι := { j : Nat // j ≤ s.length ∧ (s.take j).all chOk = true }) (fun q => ⟨[(0, .str s), (3, .i64 (q.1 : Int))], [], 1000⟩) (fun q => s.length - q.1) ⟨0, by omega, rfl⟩ (StLe.mk [] rfl rfl ⟨⟨_, rfl, by first | rfl | (simp only [AV.ren]; congr 1; omega), rfl⟩, ⟨_, rfl, by first | rfl | (simp only [AV.ren]; congr 1; omega), rfl⟩, trivial⟩ trivial) ?_
 rintro ⟨j, hj, hq⟩
 try dsimp only
 refine .seq ?_
 refine .seq ?_
 refine .region ?_
 refine .q (op_move rfl) trivial rfl ?_
 refine .q (op_move rfl) trivial rfl ?_
 refine .q (op_len_str Tryd.underlying9 rfl) trivial rfl ?_
 refine .q (op_cmpI rfl rfl rfl) trivial rfl ?_
 refine .nil ?_
 show Ev _ _ _ _ _
 refine .cond rfl (fun hc7 => ?_) (fun hc7 => ?_)
 ·simp only [decide_eq_true_eq] at hc7
  refine .skip ?_
  show Ev _ _ _ _ _
  refine .seq ?_
  refine .block ?_
  refine .seq ?_
  refine .region ?_
  refine .q (op_move rfl) trivial rfl ?_
  refine .q (op_move rfl) trivial rfl ?_
  refine .q (op_index_str Tryd.underlying9 rfl rfl rfl (by omega)) trivial rfl ?_
  refine .q (op_bin8 rfl rfl rfl) trivial rfl ?_
  refine .q (op_move rfl) trivial rfl ?_
  refine .split (fun hg14 => ?_) (fun hg14 => ?_)
  ·simp only [decide_eq_true_eq] at hg14
   refine .no ⟨_, rfl, rfl⟩ rfl ?_
   refine .no ⟨_, rfl, rfl⟩ rfl ?_
   refine .no ⟨_, rfl, rfl⟩ rfl ?_
   refine .no ⟨_, rfl, rfl⟩ rfl ?_
   refine .q (op_pick_true rfl rfl rfl) trivial rfl ?_
   refine .q (op_move rfl) trivial rfl ?_
   refine .no ⟨_, rfl, rfl⟩ rfl ?_
   refine .no ⟨_, rfl, rfl⟩ rfl ?_
   refine .no ⟨_, rfl, rfl⟩ rfl ?_
   refine .no ⟨_, rfl, rfl⟩ rfl ?_
   refine .q (op_pick_true rfl rfl rfl) trivial rfl ?_
   refine .nil ?_
   show Ev _ _ _ _ _
   refine .cond_true rfl rfl ?_
   refine .seq ?_
   refine .region ?_
   refine .q (op_assign rfl) trivial rfl ?_
   refine .nil ?_
   show Ev _ _ _ _ _
   refine .ret ?_
   show RetOk _ _ _ _ _ _ _
   exact ret1v rfl (.inl rfl) rfl (congrArg AV.bool (by first | exact (name_bad (j := j) (by omega) (by first | exact ch_a (lt33.1 hg14) | exact ch_b hg20 | exact ch_c hc25)).symm | exact (by first | exact name_ref1 (by omega) (name_all (j := j) (by omega) hq) | exact name_ref0 (by omega)) | exact rfl)) trivial
  ·simp only [decide_eq_false_iff_not] at hg14
   refine .q (op_move rfl) ⟨_, rfl, rfl⟩ rfl ?_
   refine .q (op_move rfl) ⟨_, rfl, rfl⟩ rfl ?_
   refine .q (op_index_str Tryd.underlying9 rfl rfl rfl (by omega)) ⟨_, rfl, rfl⟩ rfl ?_
   refine .q (op_bin8 rfl rfl rfl) ⟨_, rfl, rfl⟩ rfl ?_
   refine .q (op_pick_false rfl rfl rfl) trivial rfl ?_
   refine .q (op_move rfl) trivial rfl ?_
   refine .split (fun hg20 => ?_) (fun hg20 => ?_)
   ·simp only [decide_eq_true_eq] at hg20
    refine .no ⟨_, rfl, rfl⟩ rfl ?_
    refine .no ⟨_, rfl, rfl⟩ rfl ?_
    refine .no ⟨_, rfl, rfl⟩ rfl ?_
    refine .no ⟨_, rfl, rfl⟩ rfl ?_
    refine .q (op_pick_true rfl rfl rfl) trivial rfl ?_
    refine .nil ?_
    show Ev _ _ _ _ _
    refine .cond_true rfl rfl ?_
    refine .seq ?_
    refine .region ?_
    refine .q (op_assign rfl) trivial rfl ?_
    refine .nil ?_
    show Ev _ _ _ _ _
    refine .ret ?_
    show RetOk _ _ _ _ _ _ _
    exact ret1v rfl (.inl rfl) rfl (congrArg AV.bool (by first | exact (name_bad (j := j) (by omega) (by first | exact ch_a (lt33.1 hg14) | exact ch_b hg20 | exact ch_c hc25)).symm | exact (by first | exact name_ref1 (by omega) (name_all (j := j) (by omega) hq) | exact name_ref0 (by omega)) | exact rfl)) trivial
   ·simp only [decide_eq_false_iff_not] at hg20
    refine .q (op_move rfl) ⟨_, rfl, rfl⟩ rfl ?_
    refine .q (op_move rfl) ⟨_, rfl, rfl⟩ rfl ?_
    refine .q (op_index_str Tryd.underlying9 rfl rfl rfl (by omega)) ⟨_, rfl, rfl⟩ rfl ?_
    refine .q (op_bin8 rfl rfl rfl) ⟨_, rfl, rfl⟩ rfl ?_
    refine .q (op_pick_false rfl rfl rfl) trivial rfl ?_
    refine .nil ?_
    show Ev _ _ _ _ _
    refine .cond rfl (fun hc25 => ?_) (fun hc25 => ?_)
    ·simp only [beq_iff_eq] at hc25
     refine .seq ?_
     refine .region ?_
     refine .q (op_assign rfl) trivial rfl ?_
     refine .nil ?_
     show Ev _ _ _ _ _
     refine .ret ?_
     show RetOk _ _ _ _ _ _ _
     exact ret1v rfl (.inl rfl) rfl (congrArg AV.bool (by first | exact (name_bad (j := j) (by omega) (by first | exact ch_a (lt33.1 hg14) | exact ch_b hg20 | exact ch_c hc25)).symm | exact (by first | exact name_ref1 (by omega) (name_all (j := j) (by omega) hq) | exact name_ref0 (by omega)) | exact rfl)) trivial
    ·simp only [ne_eq, beq_eq_false_iff_ne] at hc25
     refine .skip ?_
     show Ev _ _ _ _ _
     refine .region ?_
     refine .q (op_move rfl) trivial rfl ?_
     refine .q (op_addI rfl rfl ⟨by omega, by omega⟩) trivial rfl ?_
     refine .q (op_assign rfl) trivial rfl ?_
     refine .nil ?_
     exact ⟨⟨j + 1, by omega, name_step (by omega) hq (ch_ok (fun h => hg14 (lt33.2 h)) hg20 hc25)⟩, by (try dsimp only); omega, StLe.mk [] rfl rfl ⟨⟨_, rfl, by first | rfl | (simp only [AV.ren]; congr 1; omega), rfl⟩, ⟨_, rfl, by first | rfl | (simp only [AV.ren]; congr 1; omega), rfl⟩, trivial⟩ trivial⟩
 ·simp only [decide_eq_false_iff_not] at hc7
  refine .exit ?_
  show Ev _ _ _ _ _
  refine .seq ?_
  refine .region ?_
  refine .q (op_move rfl) trivial rfl ?_
  refine .q (op_len_str Tryd.underlying9 rfl) trivial rfl ?_
  refine .q (op_cmpI rfl rfl rfl) trivial rfl ?_
  refine .q (op_move rfl) trivial rfl ?_
  refine .split (fun hg29 => ?_) (fun hg29 => ?_)
  ·simp only [decide_eq_true_eq] at hg29
   refine .q (op_move rfl) ⟨_, rfl, rfl⟩ rfl ?_
   refine .q (op_len_str Tryd.underlying9 rfl) ⟨_, rfl, rfl⟩ rfl ?_
   refine .q (op_cmpI rfl rfl rfl) ⟨_, rfl, rfl⟩ rfl ?_
   refine .q (op_pick_true rfl rfl rfl) trivial rfl ?_
   refine .q (op_assign rfl) trivial rfl ?_
   refine .nil ?_
   show Ev _ _ _ _ _
   refine .ret ?_
   show RetOk _ _ _ _ _ _ _
   exact ret1v rfl (.inl rfl) rfl (congrArg AV.bool (by first | exact (name_bad (j := j) (by omega) (by first | exact ch_a (lt33.1 hg14) | exact ch_b hg20 | exact ch_c hc25)).symm | exact (by first | exact name_ref1 (by omega) (name_all (j := j) (by omega) hq) | exact name_ref0 (by omega)) | exact rfl)) trivial
  ·simp only [decide_eq_false_iff_not] at hg29
   refine .no ⟨_, rfl, rfl⟩ rfl ?_
   refine .no ⟨_, rfl, rfl⟩ rfl ?_
   refine .no ⟨_, rfl, rfl⟩ rfl ?_
   refine .q (op_pick_false rfl rfl rfl) trivial rfl ?_
   refine .q (op_assign rfl) trivial rfl ?_
   refine .nil ?_
   show Ev _ _ _ _ _
   refine .ret ?_
   show RetOk _ _ _ _ _ _ _
   exact ret1v rfl (.inl rfl) rfl (congrArg AV.bool (by first | exact (name_bad (j := j) (by omega) (by first | exact ch_a (lt33.1 hg14) | exact ch_b hg20 | exact ch_c hc25)).symm | exact (by first | exact name_ref1 (by omega) (name_all (j := j) (by omega) hq) | exact name_ref0 (by omega)) | exact rfl)) trivial
set_option maxRecDepth 100000 in
theorem cut_ev (s : List UInt8) (n : Nat) (_hs : s.length ≤ 9223372036854775807) : Meets Tryd.prog 14 [.str s, .i64 (n : Int)] [] (.str (s.take n)) [] := by
 refine meets_of_ev (nt := 13) Tryd.func14 rfl rfl (Nat.le_of_ble_eq_true rfl) ?_
 refine .seq ?_
 refine .region ?_
 refine .q (op_assign rfl) trivial rfl ?_
 refine .nil ?_
 show Ev _ _ _ _ _
 refine .seq ?_
 refine .seq ?_
 refine .region ?_
 refine .q (op_move rfl) trivial rfl ?_
 refine .q (op_len_str Tryd.underlying9 rfl) trivial rfl ?_
 refine .q (op_move rfl) trivial rfl ?_
 refine .q (op_cmpI rfl rfl rfl) trivial rfl ?_
 refine .nil ?_
 show Ev _ _ _ _ _
 refine .cond rfl (fun hc8 => ?_) (fun hc8 => ?_)
 ·simp only [decide_eq_true_eq] at hc8
  refine .seq ?_
  refine .region ?_
  refine .q (op_move rfl) trivial rfl ?_
  refine .q (op_move rfl) trivial rfl ?_
  refine .q (ap_slice_str_hi Tryd.underlying9 rfl (bnd_some rfl rfl) (by omega)) trivial rfl ?_
  refine .q (op_assign rfl) trivial rfl ?_
  refine .nil ?_
  show Ev _ _ _ _ _
  refine .ret ?_
  show RetOk _ _ _ _ _ _ _
  exact ret1v rfl (.inl rfl) rfl (congrArg AV.str (by first | rfl | exact (List.take_of_length_le (by omega)).symm)) trivial
 ·simp only [decide_eq_false_iff_not] at hc8
  refine .skip ?_
  show Ev _ _ _ _ _
  refine .seq ?_
  refine .region ?_
  refine .q (op_move rfl) trivial rfl ?_
  refine .q (op_assign rfl) trivial rfl ?_
  refine .nil ?_
  show Ev _ _ _ _ _
  refine .ret ?_
  show RetOk _ _ _ _ _ _ _
  exact ret1v rfl (.inl rfl) rfl (congrArg AV.str (by first | rfl | exact (List.take_of_length_le (by omega)).symm)) trivial
end Go.Proofs.YtenocbhlbgcnfaaDoor
