/-
  Texts of this claim.
-/
import Derived.Test.YteefpaiefphdpaaDoorGY
import Derived.Test.YteefpaiefphdpaaDoorGJ
namespace Go.Proofs.YteefpaiefphdpaaDoor
open Go.RowKit
def a9a : List UInt8 := [97, 98]
def a9b : List UInt8 := [0, 128]
def a9l : List UInt8 := (textB a9a ++ bigB a9b) ++ boolB true
def a9i0 : DI := ⟨a9l, 0⟩
def a9i1 : DI := (textD a9i0 9).1
def a9i2 : DI := (bigD a9i1 9).1
def a9i3 : DI := (boolD a9i2).1
def a9i4 : DI := endD a9i3
set_option maxRecDepth 100000 in
theorem awake9_ev (eo : Nat → Nat × Nat) : Meets Tryd.prog 19 [] [(1, some ⟨.agg [.err 225 (2) (offE eo (2))], errT, false⟩), (4, some ⟨.agg [.err 225 (4) (offE eo (4))], errT, false⟩), (0, some ⟨.agg [.err 225 (3) (offE eo (3))], errT, false⟩)] (.bool true) [] := by
  have e1 : a9a.length = 2 := rfl
  have e2 : (unsB (shortB a9b)).length = 2 := by decide +kernel
  refine meets_of_ev (nt := 33) Tryd.func19 rfl rfl (Nat.le_of_ble_eq_true rfl) ?_
  refine .seq ?_
  refine .region ?_
  refine .q (op_assign rfl) trivial rfl ?_
  refine .nil ?_
  show Ev _ _ _ _ _
  refine .seq ?_
  refine .region ?_
  refine .a (op_allocRow zero90 rel_zero90 rfl) trivial rfl ?_
  refine .nil ?_
  show Ev _ _ _ _ _
  refine .seq ?_
  refine .region ?_
  refine .a (op_call (U := [(1000, some ⟨.agg [.ptr 1000 0, .sl 1008 0 ((4 + a9a.length)) 1], 90, true⟩), (1008, some ⟨.aggB (textB a9a), 5, true⟩)]) [(500, 1000)] [(1008, 1008)] (text0_ev a9a (by decide)) Tryd.func48 (by kernel_rfl) rfl rfl rfl (⟨⟨_, rfl, rfl, rfl⟩, ⟨_, rfl, rfl, rfl⟩, trivial⟩) (⟨⟨_, _, rfl, rfl, rfl, rfl, id, rfl⟩, trivial⟩) (⟨⟨500, _, rfl, rfl, rfl, rfl, .inr ⟨rfl, _, rfl, rfl⟩⟩, ⟨1008, _, rfl, rfl, rfl, rfl, .inl rfl⟩, trivial⟩) (⟨(fun _ => ⟨1000, _, rfl, rfl⟩), trivial⟩) rfl) trivial rfl ?_
  refine .a (op_call (U := [(1000, some ⟨.agg [.ptr 1000 0, .sl 1016 0 ((4 + a9a.length) + (4 + (unsB (shortB a9b)).length)) 1], 90, true⟩), (1016, some ⟨.aggB ((textB a9a) ++ bigB a9b), 5, true⟩), (1008, none)]) [(500, 1000), (501, 1008)] [(1016, 1000)] (big2_ev a9b (by decide) ((textB a9a)) ((4 + a9a.length)) (by first | exact hn | (simp [length_textB]; done) | (simp [length_numB, length_lenB, length_textB]; omega) | omega | decide +kernel) (by omega)) Tryd.func49 (by kernel_rfl) rfl rfl rfl (⟨⟨_, rfl, rfl, rfl⟩, ⟨_, rfl, rfl, rfl⟩, trivial⟩) (⟨⟨_, _, rfl, rfl, rfl, rfl, id, rfl⟩, ⟨_, _, rfl, rfl, rfl, rfl, id, rfl⟩, trivial⟩) (⟨⟨500, _, rfl, rfl, rfl, rfl, .inr ⟨rfl, _, rfl, rfl⟩⟩, ⟨1000, _, rfl, rfl, rfl, rfl, .inl rfl⟩, trivial⟩) (⟨(fun _ => ⟨1000, _, rfl, rfl⟩), (fun _ => ⟨1008, _, rfl, rfl⟩), trivial⟩) rfl) trivial rfl ?_
  refine .a (op_call (U := [(1000, some ⟨.agg [.ptr 1000 0, .sl 1024 0 ((4 + a9a.length) + (4 + (unsB (shortB a9b)).length) + 1) 1], 90, true⟩), (1024, some ⟨.aggB (((textB a9a) ++ bigB a9b) ++ boolB true), 5, true⟩), (1016, none)]) [(500, 1000), (501, 1016)] [(1024, 1000)] (bool2_ev true (((textB a9a) ++ bigB a9b)) ((4 + a9a.length) + (4 + (unsB (shortB a9b)).length)) (by first | exact hn | (simp [length_textB]; done) | (simp [length_textB]; omega) | omega | decide +kernel) (by omega)) Tryd.func50 (by kernel_rfl) rfl rfl rfl (⟨⟨_, rfl, rfl, rfl⟩, ⟨_, rfl, rfl, rfl⟩, trivial⟩) (⟨⟨_, _, rfl, rfl, rfl, rfl, id, rfl⟩, ⟨_, _, rfl, rfl, rfl, rfl, id, rfl⟩, trivial⟩) (⟨⟨500, _, rfl, rfl, rfl, rfl, .inr ⟨rfl, _, rfl, rfl⟩⟩, ⟨1000, _, rfl, rfl, rfl, rfl, .inl rfl⟩, trivial⟩) (⟨(fun _ => ⟨1000, _, rfl, rfl⟩), (fun _ => ⟨1016, _, rfl, rfl⟩), trivial⟩) rfl) trivial rfl ?_
  refine .nil ?_
  show Ev _ _ _ _ _
  refine .seq ?_
  refine .region ?_
  refine .a (op_call (U := [(1024, some ⟨.aggB ((((textB a9a) ++ bigB a9b) ++ boolB true)), (frz + 5), false⟩)]) [(500, 1000), (501, 1024)] [] (bytes2_ev ((((textB a9a) ++ bigB a9b) ++ boolB true)) ((4 + a9a.length) + (4 + (unsB (shortB a9b)).length) + 1) (by first | rfl | decide +kernel) (by first | decide +kernel | omega) (by first | decide +kernel | omega)) Tryd.func51 (by kernel_rfl) rfl rfl rfl (⟨⟨_, rfl, rfl, rfl⟩, trivial⟩) (⟨⟨_, _, rfl, rfl, rfl, rfl, (fun h => by cases h), rfl⟩, ⟨_, _, rfl, rfl, rfl, rfl, id, rfl⟩, trivial⟩) (⟨⟨501, _, rfl, rfl, rfl, rfl, .inr ⟨rfl, _, rfl, rfl⟩⟩, trivial⟩) (⟨(fun h => by cases h), (fun _ => ⟨1024, _, rfl, rfl⟩), trivial⟩) rfl) trivial rfl ?_
  refine .a (op_call (U := [(1040, some ⟨.agg [.str (DI.mk (a9l) 0).r, .err 225 ((DI.mk (a9l) 0).e) (offE eo ((DI.mk (a9l) 0).e))], 96, true⟩)]) [] [(1040, 1000)] (of_ev (a9l) eo) Tryd.func20 (by kernel_rfl) rfl rfl rfl (⟨⟨_, rfl, rfl, rfl⟩, trivial⟩) (trivial) (⟨⟨1000, _, rfl, rfl, rfl, rfl, .inl rfl⟩, trivial⟩) (trivial) rfl) trivial rfl ?_
  refine .q (op_assign rfl) trivial rfl ?_
  refine .nil ?_
  show Ev _ _ _ _ _
  refine .seq ?_
  refine .region ?_
  refine .q (op_call (U := []) [(500, 1000), (501, 1024)] [] (bytes3_ev ((((textB a9a) ++ bigB a9b) ++ boolB true)) ((4 + a9a.length) + (4 + (unsB (shortB a9b)).length) + 1) (by first | rfl | decide +kernel) (by first | decide +kernel | omega) (by first | decide +kernel | omega)) Tryd.func51 (by kernel_rfl) rfl rfl rfl (⟨⟨_, rfl, rfl, rfl⟩, trivial⟩) (⟨⟨_, _, rfl, rfl, rfl, rfl, (fun h => by cases h), rfl⟩, ⟨_, _, rfl, rfl, rfl, rfl, (fun h => by cases h), rfl⟩, trivial⟩) (trivial) (⟨(fun h => by cases h), (fun h => by cases h), trivial⟩) rfl) trivial rfl ?_
  refine .q (op_eqS rfl rfl rfl) trivial rfl ?_
  refine .q (op_move rfl) trivial rfl ?_
  refine .know (b' := true) (by decide +kernel) ?_
  refine .q (op_move rfl) ⟨_, rfl, rfl⟩ rfl ?_
  refine .q (op_eqPtrNil Tryd.underlying44 rfl rfl rfl) ⟨_, rfl, rfl⟩ rfl ?_
  refine .q (op_pick_true rfl rfl rfl) trivial rfl ?_
  refine .q (op_move rfl) trivial rfl ?_
  refine .know (b' := true) (rfl) ?_
  refine .q (op_move rfl) ⟨_, rfl, rfl⟩ rfl ?_
  refine .a (op_call (U := [(1040, some ⟨.agg [.str (a9i1).r, .err 225 ((a9i1).e) (offE eo ((a9i1).e))], 96, true⟩)]) [(500, 1040)] [] (itext_ev a9i0 9 eo) Tryd.func52 (by kernel_rfl) rfl rfl rfl (⟨⟨_, rfl, rfl, rfl⟩, ⟨_, rfl, rfl, rfl⟩, trivial⟩) (⟨⟨_, _, rfl, rfl, rfl, rfl, id, rfl⟩, ⟨_, _, rfl, rfl, rfl, rfl, (fun h => by cases h), rfl⟩, ⟨_, _, rfl, rfl, rfl, rfl, (fun h => by cases h), rfl⟩, trivial⟩) (⟨⟨500, _, rfl, rfl, rfl, rfl, .inr ⟨rfl, _, rfl, rfl⟩⟩, trivial⟩) (⟨(fun _ => ⟨1040, _, rfl, rfl⟩), (fun h => by cases h), (fun h => by cases h), trivial⟩) rfl) ⟨_, rfl, rfl⟩ rfl ?_
  refine .q (op_eqS rfl rfl rfl) ⟨_, rfl, rfl⟩ rfl ?_
  refine .q (op_pick_true rfl rfl rfl) trivial rfl ?_
  refine .q (op_move rfl) trivial rfl ?_
  refine .know (b' := true) (by decide +kernel) ?_
  refine .q (op_move rfl) ⟨_, rfl, rfl⟩ rfl ?_
  refine .a (op_call (U := [(1040, some ⟨.agg [.str (a9i2).r, .err 225 ((a9i2).e) (offE eo ((a9i2).e))], 96, true⟩)]) [(500, 1040)] [] (ibig_ev a9i1 9 (by decide +kernel) eo) Tryd.func53 (by kernel_rfl) rfl rfl rfl (⟨⟨_, rfl, rfl, rfl⟩, ⟨_, rfl, rfl, rfl⟩, trivial⟩) (⟨⟨_, _, rfl, rfl, rfl, rfl, id, rfl⟩, ⟨_, _, rfl, rfl, rfl, rfl, (fun h => by cases h), rfl⟩, ⟨_, _, rfl, rfl, rfl, rfl, (fun h => by cases h), rfl⟩, ⟨_, _, rfl, rfl, rfl, rfl, (fun h => by cases h), rfl⟩, trivial⟩) (⟨⟨500, _, rfl, rfl, rfl, rfl, .inr ⟨rfl, _, rfl, rfl⟩⟩, trivial⟩) (⟨(fun _ => ⟨1040, _, rfl, rfl⟩), (fun h => by cases h), (fun h => by cases h), (fun h => by cases h), trivial⟩) rfl) ⟨_, rfl, rfl⟩ rfl ?_
  refine .q (op_eqS rfl rfl rfl) ⟨_, rfl, rfl⟩ rfl ?_
  refine .q (op_pick_true rfl rfl rfl) trivial rfl ?_
  refine .q (op_move rfl) trivial rfl ?_
  refine .know (b' := true) (by decide +kernel) ?_
  refine .q (op_move rfl) ⟨_, rfl, rfl⟩ rfl ?_
  refine .a (op_call (U := [(1040, some ⟨.agg [.str (a9i3).r, .err 225 ((a9i3).e) (offE eo ((a9i3).e))], 96, true⟩)]) [(500, 1040)] [] (ibool_ev a9i2 eo) Tryd.func54 (by kernel_rfl) rfl rfl rfl (⟨⟨_, rfl, rfl, rfl⟩, trivial⟩) (⟨⟨_, _, rfl, rfl, rfl, rfl, id, rfl⟩, ⟨_, _, rfl, rfl, rfl, rfl, (fun h => by cases h), rfl⟩, trivial⟩) (⟨⟨500, _, rfl, rfl, rfl, rfl, .inr ⟨rfl, _, rfl, rfl⟩⟩, trivial⟩) (⟨(fun _ => ⟨1040, _, rfl, rfl⟩), (fun h => by cases h), trivial⟩) rfl) ⟨_, rfl, rfl⟩ rfl ?_
  refine .q (op_pick_true rfl rfl rfl) trivial rfl ?_
  refine .q (op_move rfl) trivial rfl ?_
  refine .know (b' := true) (by decide +kernel) ?_
  refine .q (op_move rfl) ⟨_, rfl, rfl⟩ rfl ?_
  refine .a (op_call (U := [(1040, some ⟨.agg [.str (a9i4).r, .err 225 ((a9i4).e) (offE eo ((a9i4).e))], 96, true⟩)]) [(500, 1040)] [] (end_ev a9i3 eo) Tryd.func24 (by kernel_rfl) rfl rfl rfl (⟨⟨_, rfl, rfl, rfl⟩, trivial⟩) (⟨⟨_, _, rfl, rfl, rfl, rfl, id, rfl⟩, ⟨_, _, rfl, rfl, rfl, rfl, (fun h => by cases h), rfl⟩, trivial⟩) (⟨⟨500, _, rfl, rfl, rfl, rfl, .inr ⟨rfl, _, rfl, rfl⟩⟩, trivial⟩) (⟨(fun _ => ⟨1040, _, rfl, rfl⟩), (fun h => by cases h), trivial⟩) rfl) ⟨_, rfl, rfl⟩ rfl ?_
  refine .q (op_eqErrNil (e := (endD a9i3).e) Tryd.underlying26 rfl rfl) ⟨_, rfl, rfl⟩ rfl ?_
  refine .q (op_pick_true rfl rfl rfl) trivial rfl ?_
  refine .q (op_assign rfl) trivial rfl ?_
  refine .nil ?_
  show Ev _ _ _ _ _
  refine .ret ?_
  show RetOk _ _ _ _ _ _ _
  exact ret1v rfl (.inl rfl) rfl (congrArg AV.bool (by decide +kernel)) trivial
end Go.Proofs.YteefpaiefphdpaaDoor
namespace Go.Proofs.YteefpaiefphdpaaDoor
open Go.RowKit
theorem rawD_err {i : DI} (h : i.ok) (he : i.e ≠ 0) (n : Nat) : rawD i n = (i, []) := by
  obtain ⟨r, e⟩ := i
  have hr : r = [] := h he
  subst hr
  unfold rawD
  cases e with
  | zero => exact absurd rfl he
  | succ e => split <;> simp [failD, orE]
theorem rawD_end {i : DI} (he : i.e = 0) {n : Nat} (h : ¬ n ≤ i.r.length) : rawD i n = (⟨[], 2⟩, []) := by
  obtain ⟨r, e⟩ := i
  simp only at he; subst he
  exact if_neg h
theorem rawD_yes {i : DI} (he : i.e = 0) {n : Nat} (h : n ≤ i.r.length) : rawD i n = (⟨i.r.drop n, 0⟩, i.r.take n) := by
  obtain ⟨r, e⟩ := i
  simp only at he; subst he
  exact if_pos h
theorem shl_add (n : UInt64) (b : UInt8) : n * 256 + b.toUInt64 = n <<< UInt64.ofNat 8 ||| b.toUInt64 := by
  apply UInt64.toNat_inj.1
  have hb : b.toNat < 2 ^ 8 := b.toNat_lt
  have hn := n.toNat_lt
  rw [UInt64.toNat_add, UInt64.toNat_mul, UInt64.toNat_or, UInt64.toNat_shiftLeft, UInt8.toNat_toUInt64]
  have e : (UInt64.ofNat 8).toNat % 64 = 8 := rfl
  have e2 : (256 : UInt64).toNat = 256 := rfl
  rw [e, e2, Nat.shiftLeft_eq]
  have hq : n.toNat * 2 ^ 8 % 2 ^ 64 = 2 ^ 8 * (n.toNat % 2 ^ 56) := by omega
  rw [hq, ← Nat.two_pow_add_eq_or_of_lt hb]
  omega
set_option maxRecDepth 100000 in
theorem rraw_err (i : DI) (j : Int) (he : i.e ≠ 0) : Meets Tryd.prog 59 [.agg [.str (i).r, .i64 (((i).e : Nat) : Int)], .i64 j] [] (.tup [.agg [.str (i).r, .i64 (((i).e : Nat) : Int)], .str []]) [] := by
  refine meets_of_ev (nt := 27) Tryd.func59 rfl rfl (Nat.le_of_ble_eq_true rfl) ?_
  refine .seq ?_
  refine .region ?_
  refine .a (op_boxRow rfl rfl) trivial rfl ?_
  refine .a (op_allocRow zero47 rel_zero47 rfl) trivial rfl ?_
  refine .q (op_assign rfl) trivial rfl ?_
  refine .nil ?_
  show Ev _ _ _ _ _
  refine .seq ?_
  refine .seq ?_
  refine .region ?_
  refine .q (op_fieldAddr (m := 0) Tryd.underlying47 rfl (by kernel_rfl) rfl) trivial rfl ?_
  refine .as (.ptr 1000 1) rfl ?_
  refine .q (op_load Tryd.underlying3 rfl rfl rfl rfl (by first | omega | (simp only [AV.len]; omega) | (simp only [AV.len]; omega) | assumption | (simp [AV.len]; done))) trivial rfl ?_
  refine .q (op_cmpI rfl rfl rfl) trivial rfl ?_
  refine .nil ?_
  show Ev _ _ _ _ _
  refine .cond_true rfl (bne_iff_ne.2 (by omega)) ?_
  refine .seq ?_
  refine .region ?_
  refine .q (op_loadRow Tryd.underlying47 rfl (by kernel_rfl) rfl rfl rfl (rfl)) trivial rfl ?_
  refine .w (op_storeRow (by kernel_rfl) rfl rfl rfl rfl rfl (rfl) (rfl)) trivial rfl ?_
  refine .q (op_assign rfl) trivial rfl ?_
  refine .nil ?_
  show Ev _ _ _ _ _
  refine .ret ?_
  show RetOk _ _ _ _ _ _ _
  exact retc2 rfl (.inl rfl) ⟨_, _, _, _, rfl, rfl, rfl, rfl, rfl, Tryd.underlying47, rfl, (by kernel_rfl)⟩ rfl trivial
set_option maxRecDepth 100000 in
theorem rraw_end (i : DI) (j : Int) (he : i.e = 0) (h : ¬ j.toNat ≤ i.r.length) : Meets Tryd.prog 59 [.agg [.str (i).r, .i64 (((i).e : Nat) : Int)], .i64 j] [] (.tup [.agg [.str [], .i64 2], .str []]) [] := by
  refine meets_of_ev (nt := 27) Tryd.func59 rfl rfl (Nat.le_of_ble_eq_true rfl) ?_
  refine .seq ?_
  refine .region ?_
  refine .a (op_boxRow rfl rfl) trivial rfl ?_
  refine .a (op_allocRow zero47 rel_zero47 rfl) trivial rfl ?_
  refine .q (op_assign rfl) trivial rfl ?_
  refine .nil ?_
  show Ev _ _ _ _ _
  refine .seq ?_
  refine .seq ?_
  refine .region ?_
  refine .q (op_fieldAddr (m := 0) Tryd.underlying47 rfl (by kernel_rfl) rfl) trivial rfl ?_
  refine .as (.ptr 1000 1) rfl ?_
  refine .q (op_load Tryd.underlying3 rfl rfl rfl rfl (by first | omega | (simp only [AV.len]; omega) | (simp only [AV.len]; omega) | assumption | (simp [AV.len]; done))) trivial rfl ?_
  refine .q (op_cmpI rfl rfl rfl) trivial rfl ?_
  refine .nil ?_
  show Ev _ _ _ _ _
  refine .cond_false rfl (bne_eq_false_iff_eq.2 (by omega)) ?_
  refine .skip ?_
  show Ev _ _ _ _ _
  refine .seq ?_
  refine .seq ?_
  refine .region ?_
  refine .q (op_move rfl) trivial rfl ?_
  refine .q (op_cmpI rfl rfl rfl) trivial rfl ?_
  refine .nil ?_
  show Ev _ _ _ _ _
  refine .cond rfl (fun hc11 => ?_) (fun hc11 => ?_)
  · first | replace hc11 := of_decide_eq_true hc11 | replace hc11 := of_decide_eq_false hc11 | replace hc11 := eq_of_beq hc11 | replace hc11 := ne_of_beq_false hc11 | simp only [bne_iff_ne, ne_eq] at hc11 | simp only [bne_eq_false_iff_eq] at hc11
    refine .region ?_
    refine .q (op_assign rfl) trivial rfl ?_
    refine .nil ?_
    show Ev _ _ _ _ _
    refine .seq ?_
    refine .seq ?_
    refine .region ?_
    refine .q (op_move rfl) trivial rfl ?_
    refine .as (.i64 ((j.toNat : Nat) : Int)) (congrArg AV.i64 (by omega)) ?_
    refine .q (op_fieldAddr (m := 0) Tryd.underlying47 rfl (by kernel_rfl) rfl) trivial rfl ?_
    refine .as (.ptr 1000 0) rfl ?_
    refine .q (op_load Tryd.underlying9 rfl rfl rfl rfl (by first | omega | (simp only [AV.len]; omega) | (simp only [AV.len, List.length_set]; omega) | assumption | (simp [AV.len]; done))) trivial rfl ?_
    refine .q (op_len_str Tryd.underlying9 rfl) trivial rfl ?_
    refine .q (op_cmpI rfl rfl rfl) trivial rfl ?_
    refine .nil ?_
    show Ev _ _ _ _ _
    refine .cond_true rfl (decide_eq_true (by omega)) ?_
    refine .seq ?_
    refine .region ?_
    refine .q (op_buildS (r := .agg [.str [], .i64 2]) Tryd.underlying47 rfl zero47 rel_zero47 rfl rfl rfl rfl) trivial rfl ?_
    refine .w (op_storeRow (by kernel_rfl) rfl rfl rfl rfl rfl (rfl) (rfl)) trivial rfl ?_
    refine .q (op_assign rfl) trivial rfl ?_
    refine .nil ?_
    show Ev _ _ _ _ _
    refine .ret ?_
    show RetOk _ _ _ _ _ _ _
    exact retc2 rfl (.inl rfl) ⟨_, _, _, _, rfl, rfl, rfl, rfl, rfl, Tryd.underlying47, rfl, (by kernel_rfl)⟩ rfl trivial
  · first | replace hc11 := of_decide_eq_true hc11 | replace hc11 := of_decide_eq_false hc11 | replace hc11 := eq_of_beq hc11 | replace hc11 := ne_of_beq_false hc11 | simp only [bne_iff_ne, ne_eq] at hc11 | simp only [bne_eq_false_iff_eq] at hc11
    refine .skip ?_
    show Ev _ _ _ _ _
    refine .seq ?_
    refine .seq ?_
    refine .region ?_
    refine .q (op_move rfl) trivial rfl ?_
    refine .as (.i64 ((j.toNat : Nat) : Int)) (congrArg AV.i64 (by omega)) ?_
    refine .q (op_fieldAddr (m := 0) Tryd.underlying47 rfl (by kernel_rfl) rfl) trivial rfl ?_
    refine .as (.ptr 1000 0) rfl ?_
    refine .q (op_load Tryd.underlying9 rfl rfl rfl rfl (by first | omega | (simp only [AV.len]; omega) | (simp only [AV.len]; omega) | assumption | (simp [AV.len]; done))) trivial rfl ?_
    refine .q (op_len_str Tryd.underlying9 rfl) trivial rfl ?_
    refine .q (op_cmpI rfl rfl rfl) trivial rfl ?_
    refine .nil ?_
    show Ev _ _ _ _ _
    refine .cond_true rfl (decide_eq_true (by omega)) ?_
    refine .seq ?_
    refine .region ?_
    refine .q (op_buildS (r := .agg [.str [], .i64 2]) Tryd.underlying47 rfl zero47 rel_zero47 rfl rfl rfl rfl) trivial rfl ?_
    refine .w (op_storeRow (by kernel_rfl) rfl rfl rfl rfl rfl (rfl) (rfl)) trivial rfl ?_
    refine .q (op_assign rfl) trivial rfl ?_
    refine .nil ?_
    show Ev _ _ _ _ _
    refine .ret ?_
    show RetOk _ _ _ _ _ _ _
    exact retc2 rfl (.inl rfl) ⟨_, _, _, _, rfl, rfl, rfl, rfl, rfl, Tryd.underlying47, rfl, (by kernel_rfl)⟩ rfl trivial
set_option maxRecDepth 100000 in
theorem rraw_yes (i : DI) (j : Int) (he : i.e = 0) (h : j.toNat ≤ i.r.length) : Meets Tryd.prog 59 [.agg [.str (i).r, .i64 (((i).e : Nat) : Int)], .i64 j] [] (.tup [.agg [.str (i.r.drop j.toNat), .i64 0], .str (i.r.take j.toNat)]) [] := by
  refine meets_of_ev (nt := 27) Tryd.func59 rfl rfl (Nat.le_of_ble_eq_true rfl) ?_
  refine .seq ?_
  refine .region ?_
  refine .a (op_boxRow rfl rfl) trivial rfl ?_
  refine .a (op_allocRow zero47 rel_zero47 rfl) trivial rfl ?_
  refine .q (op_assign rfl) trivial rfl ?_
  refine .nil ?_
  show Ev _ _ _ _ _
  refine .seq ?_
  refine .seq ?_
  refine .region ?_
  refine .q (op_fieldAddr (m := 0) Tryd.underlying47 rfl (by kernel_rfl) rfl) trivial rfl ?_
  refine .as (.ptr 1000 1) rfl ?_
  refine .q (op_load Tryd.underlying3 rfl rfl rfl rfl (by first | omega | (simp only [AV.len]; omega) | (simp only [AV.len]; omega) | assumption | (simp [AV.len]; done))) trivial rfl ?_
  refine .q (op_cmpI rfl rfl rfl) trivial rfl ?_
  refine .nil ?_
  show Ev _ _ _ _ _
  refine .cond_false rfl (bne_eq_false_iff_eq.2 (by omega)) ?_
  refine .skip ?_
  show Ev _ _ _ _ _
  refine .seq ?_
  refine .seq ?_
  refine .region ?_
  refine .q (op_move rfl) trivial rfl ?_
  refine .q (op_cmpI rfl rfl rfl) trivial rfl ?_
  refine .nil ?_
  show Ev _ _ _ _ _
  refine .cond rfl (fun hc11 => ?_) (fun hc11 => ?_)
  · first | replace hc11 := of_decide_eq_true hc11 | replace hc11 := of_decide_eq_false hc11 | replace hc11 := eq_of_beq hc11 | replace hc11 := ne_of_beq_false hc11 | simp only [bne_iff_ne, ne_eq] at hc11 | simp only [bne_eq_false_iff_eq] at hc11
    refine .region ?_
    refine .q (op_assign rfl) trivial rfl ?_
    refine .nil ?_
    show Ev _ _ _ _ _
    refine .seq ?_
    refine .seq ?_
    refine .region ?_
    refine .q (op_move rfl) trivial rfl ?_
    refine .as (.i64 ((j.toNat : Nat) : Int)) (congrArg AV.i64 (by omega)) ?_
    refine .q (op_fieldAddr (m := 0) Tryd.underlying47 rfl (by kernel_rfl) rfl) trivial rfl ?_
    refine .as (.ptr 1000 0) rfl ?_
    refine .q (op_load Tryd.underlying9 rfl rfl rfl rfl (by first | omega | (simp only [AV.len]; omega) | (simp only [AV.len]; omega) | assumption | (simp [AV.len]; done))) trivial rfl ?_
    refine .q (op_len_str Tryd.underlying9 rfl) trivial rfl ?_
    refine .q (op_cmpI rfl rfl rfl) trivial rfl ?_
    refine .nil ?_
    show Ev _ _ _ _ _
    refine .cond_false rfl (decide_eq_false (by omega)) ?_
    refine .skip ?_
    show Ev _ _ _ _ _
    refine .seq ?_
    refine .drawnF [[], [0], [], [0, 1, 2], [0, 1, 2, 3], [], [5], [], [5, 6, 7], [0, 1, 2, 3, 4], [0, 1, 2, 3, 4, 5, 6, 7, 8, 9]] [1, 6, 9] [] [(1, ([1000], [])), (6, ([1000], [])), (9, ([], [1008]))] (by kernel_rfl) (by kernel_rfl) rfl ?_
    show DK _ [0, 1, 2, 3, 4, 5, 6, 7, 8, 9, 10] _ _ _
    refine .q rfl (op_fieldAddr (m := 0) Tryd.underlying47 rfl (by kernel_rfl) rfl) trivial ?_
    refine .as (.ptr 1000 0) rfl ?_
    refine .q rfl (op_load Tryd.underlying9 rfl rfl rfl rfl (by first | omega | (simp only [AV.len]; omega) | (simp only [AV.len]; omega) | assumption | (simp [AV.len]; done))) trivial ?_
    refine .q rfl (op_move rfl) trivial ?_
    refine .as (.i64 ((j.toNat : Nat) : Int)) (congrArg AV.i64 (by omega)) ?_
    refine .q rfl (ap_slice_str_lo Tryd.underlying9 rfl (bnd_some rfl rfl) (h)) trivial ?_
    refine .q rfl (op_buildS (r := .agg [.str (i.r.drop j.toNat), .i64 0]) Tryd.underlying47 rfl zero47 rel_zero47 rfl rfl rfl rfl) trivial ?_
    refine .q rfl (op_fieldAddr (m := 0) Tryd.underlying47 rfl (by kernel_rfl) rfl) trivial ?_
    refine .as (.ptr 1000 0) rfl ?_
    refine .q rfl (op_load Tryd.underlying9 rfl rfl rfl rfl (by first | omega | (simp only [AV.len]; omega) | (simp only [AV.len]; omega) | assumption | (simp [AV.len]; done))) trivial ?_
    refine .q rfl (op_move rfl) trivial ?_
    refine .as (.i64 ((j.toNat : Nat) : Int)) (congrArg AV.i64 (by omega)) ?_
    refine .q rfl (ap_slice_str_hi Tryd.underlying9 rfl (bnd_some rfl rfl) (h)) trivial ?_
    refine .w rfl (op_storeRow (by kernel_rfl) rfl rfl rfl rfl rfl (rfl) (rfl)) trivial rfl rfl ?_
    refine .q rfl (op_assign rfl) trivial ?_
    refine .nil ?_
    show Ev _ _ _ _ _
    refine .ret ?_
    show RetOk _ _ _ _ _ _ _
    exact retc2 rfl (.inl rfl) ⟨_, _, _, _, rfl, rfl, rfl, rfl, rfl, Tryd.underlying47, rfl, (by kernel_rfl)⟩ rfl trivial
  · first | replace hc11 := of_decide_eq_true hc11 | replace hc11 := of_decide_eq_false hc11 | replace hc11 := eq_of_beq hc11 | replace hc11 := ne_of_beq_false hc11 | simp only [bne_iff_ne, ne_eq] at hc11 | simp only [bne_eq_false_iff_eq] at hc11
    refine .skip ?_
    show Ev _ _ _ _ _
    refine .seq ?_
    refine .seq ?_
    refine .region ?_
    refine .q (op_move rfl) trivial rfl ?_
    refine .as (.i64 ((j.toNat : Nat) : Int)) (congrArg AV.i64 (by omega)) ?_
    refine .q (op_fieldAddr (m := 0) Tryd.underlying47 rfl (by kernel_rfl) rfl) trivial rfl ?_
    refine .as (.ptr 1000 0) rfl ?_
    refine .q (op_load Tryd.underlying9 rfl rfl rfl rfl (by first | omega | (simp only [AV.len]; omega) | (simp only [AV.len]; omega) | assumption | (simp [AV.len]; done))) trivial rfl ?_
    refine .q (op_len_str Tryd.underlying9 rfl) trivial rfl ?_
    refine .q (op_cmpI rfl rfl rfl) trivial rfl ?_
    refine .nil ?_
    show Ev _ _ _ _ _
    refine .cond_false rfl (decide_eq_false (by omega)) ?_
    refine .skip ?_
    show Ev _ _ _ _ _
    refine .seq ?_
    refine .drawnF [[], [0], [], [0, 1, 2], [0, 1, 2, 3], [], [5], [], [5, 6, 7], [0, 1, 2, 3, 4], [0, 1, 2, 3, 4, 5, 6, 7, 8, 9]] [1, 6, 9] [] [(1, ([1000], [])), (6, ([1000], [])), (9, ([], [1008]))] (by kernel_rfl) (by kernel_rfl) rfl ?_
    show DK _ [0, 1, 2, 3, 4, 5, 6, 7, 8, 9, 10] _ _ _
    refine .q rfl (op_fieldAddr (m := 0) Tryd.underlying47 rfl (by kernel_rfl) rfl) trivial ?_
    refine .as (.ptr 1000 0) rfl ?_
    refine .q rfl (op_load Tryd.underlying9 rfl rfl rfl rfl (by first | omega | (simp only [AV.len]; omega) | (simp only [AV.len]; omega) | assumption | (simp [AV.len]; done))) trivial ?_
    refine .q rfl (op_move rfl) trivial ?_
    refine .as (.i64 ((j.toNat : Nat) : Int)) (congrArg AV.i64 (by omega)) ?_
    refine .q rfl (ap_slice_str_lo Tryd.underlying9 rfl (bnd_some rfl rfl) (h)) trivial ?_
    refine .q rfl (op_buildS (r := .agg [.str (i.r.drop j.toNat), .i64 0]) Tryd.underlying47 rfl zero47 rel_zero47 rfl rfl rfl rfl) trivial ?_
    refine .q rfl (op_fieldAddr (m := 0) Tryd.underlying47 rfl (by kernel_rfl) rfl) trivial ?_
    refine .as (.ptr 1000 0) rfl ?_
    refine .q rfl (op_load Tryd.underlying9 rfl rfl rfl rfl (by first | omega | (simp only [AV.len]; omega) | (simp only [AV.len]; omega) | assumption | (simp [AV.len]; done))) trivial ?_
    refine .q rfl (op_move rfl) trivial ?_
    refine .as (.i64 ((j.toNat : Nat) : Int)) (congrArg AV.i64 (by omega)) ?_
    refine .q rfl (ap_slice_str_hi Tryd.underlying9 rfl (bnd_some rfl rfl) (h)) trivial ?_
    refine .w rfl (op_storeRow (by kernel_rfl) rfl rfl rfl rfl rfl (rfl) (rfl)) trivial rfl rfl ?_
    refine .q rfl (op_assign rfl) trivial ?_
    refine .nil ?_
    show Ev _ _ _ _ _
    refine .ret ?_
    show RetOk _ _ _ _ _ _ _
    exact retc2 rfl (.inl rfl) ⟨_, _, _, _, rfl, rfl, rfl, rfl, rfl, Tryd.underlying47, rfl, (by kernel_rfl)⟩ rfl trivial
theorem rraw_ev (i : DI) (hi : i.ok) (j : Int) : Meets Tryd.prog 59 [.agg [.str (i).r, .i64 (((i).e : Nat) : Int)], .i64 j] [] (.tup [.agg [.str ((rawD i j.toNat).1).r, .i64 ((((rawD i j.toNat).1).e : Nat) : Int)], .str (rawD i j.toNat).2]) [] := by
  by_cases he : i.e = 0
  · by_cases h : j.toNat ≤ i.r.length
    · rw [rawD_yes he h]; exact rraw_yes i j he h
    · rw [rawD_end he h]; exact rraw_end i j he h
  · rw [rawD_err hi he]; exact rraw_err i j he
set_option maxRecDepth 100000 in
theorem rnum_ev (i : DI) (hi : i.ok) (k : Nat) (hk : k ≤ 8) : Meets Tryd.prog 55 [.agg [.str (i).r, .i64 (((i).e : Nat) : Int)], .i64 (k : Int)] [] (.tup [.agg [.str ((numD i k).1).r, .i64 ((((numD i k).1).e : Nat) : Int)], .u64 (numD i k).2]) [] := by
  have hS : (rawD i k).2.length ≤ 8 := by rcases rawD_length i k with h | h <;> simp [h] <;> omega
  refine meets_of_ev (nt := 31) Tryd.func55 rfl rfl (Nat.le_of_ble_eq_true rfl) ?_
  refine .seq ?_
  refine .region ?_
  refine .a (op_boxRow rfl rfl) trivial rfl ?_
  refine .a (op_allocRow zero47 rel_zero47 rfl) trivial rfl ?_
  refine .q (op_assign rfl) trivial rfl ?_
  refine .nil ?_
  show Ev _ _ _ _ _
  refine .seq ?_
  refine .region ?_
  refine .q (op_loadRow Tryd.underlying47 rfl (by kernel_rfl) rfl rfl rfl (rfl)) trivial rfl ?_
  refine .q (op_move rfl) trivial rfl ?_
  refine .q (op_call (U := []) [] [] (rraw_ev i hi (k : Int)) Tryd.func59 (by kernel_rfl) rfl rfl rfl (⟨⟨_, rfl, rfl, rfl⟩, ⟨_, rfl, rfl, rfl⟩, trivial⟩) (trivial) (trivial) (trivial) rfl) trivial rfl ?_
  refine .q (op_move rfl) trivial rfl ?_
  refine .q (op_extract rfl rfl) trivial rfl ?_
  refine .q (op_extract rfl rfl) trivial rfl ?_
  refine .a (op_allocRow zero47 rel_zero47 rfl) trivial rfl ?_
  refine .w (op_storeRow (by kernel_rfl) rfl rfl rfl rfl rfl (rfl) (rfl)) trivial rfl ?_
  refine .q (op_assign rfl) trivial rfl ?_
  refine .nil ?_
  show Ev _ _ _ _ _
  refine .seq ?_
  refine .region ?_
  refine .q (op_assign rfl) trivial rfl ?_
  refine .nil ?_
  show Ev _ _ _ _ _
  refine .seq ?_
  refine .seq ?_
  refine .region ?_
  refine .q (op_assign rfl) trivial rfl ?_
  refine .nil ?_
  show Ev _ _ _ _ _
  refine .block ?_
  refine Ev.loop (ι := { j : Nat // j ≤ (rawD i k).2.length }) (fun j => ⟨[(4, .ptr 1008 0), (6, .ptr 1016 0), (7, .str (rawD i k).2), (8, .u64 (numL (rawD i k).2 j.1)), (9, .i64 ((j.1 : Nat) : Int))], [(1008, some ⟨.agg [.str [], .i64 0], 47, true⟩), (1016, some ⟨.agg [.str ((rawD i k).1).r, .i64 ((((rawD i k).1).e : Nat) : Int)], 47, true⟩)], 1024⟩) (fun j => (rawD i k).2.length - j.1) ⟨0, Nat.zero_le _⟩ (StLe.mk [(1008, 1008), (1016, 1016)] rfl rfl ⟨⟨_, rfl, by first | rfl | (simp only [AV.ren]; congr 1; omega), rfl⟩, ⟨_, rfl, by first | rfl | (simp only [AV.ren]; congr 1; omega), rfl⟩, ⟨_, rfl, by first | rfl | (simp only [AV.ren]; congr 1; omega), rfl⟩, ⟨_, rfl, by first | rfl | (simp only [AV.ren]; congr 1; omega), rfl⟩, ⟨_, rfl, by first | rfl | (simp only [AV.ren]; congr 1; omega), rfl⟩, trivial⟩ ⟨⟨_, _, rfl, rfl, by first | rfl | (simp only [AV.ren]; congr 1; omega), rfl, id, rfl⟩, ⟨_, _, rfl, rfl, by first | rfl | (simp only [AV.ren]; congr 1; omega), rfl, id, rfl⟩, trivial⟩) ?_
  rintro ⟨j, hj⟩
  dsimp only
  refine .seq ?_
  refine .seq ?_
  refine .region ?_
  refine .q (op_move rfl) trivial rfl ?_
  refine .q (op_move rfl) trivial rfl ?_
  refine .q (op_len_str Tryd.underlying9 rfl) trivial rfl ?_
  refine .q (op_cmpI rfl rfl rfl) trivial rfl ?_
  refine .nil ?_
  show Ev _ _ _ _ _
  refine .cond rfl (fun hc19 => ?_) (fun hc19 => ?_)
  · first | replace hc19 := of_decide_eq_true hc19 | replace hc19 := of_decide_eq_false hc19 | replace hc19 := eq_of_beq hc19 | replace hc19 := ne_of_beq_false hc19 | simp only [bne_iff_ne, ne_eq] at hc19 | simp only [bne_eq_false_iff_eq] at hc19
    refine .skip ?_
    show Ev _ _ _ _ _
    refine .seq ?_
    refine .block ?_
    refine .region ?_
    refine .q (op_move rfl) trivial rfl ?_
    refine .q (op_bin64 rfl rfl rfl) trivial rfl ?_
    refine .q (op_move rfl) trivial rfl ?_
    refine .q (op_move rfl) trivial rfl ?_
    refine .q (op_index_str Tryd.underlying9 rfl rfl rfl (by omega)) trivial rfl ?_
    refine .q (op_conv Tryd.underlying5 Tryd.underlying77 rfl rfl) trivial rfl ?_
    refine .q (op_bin64 rfl rfl rfl) trivial rfl ?_
    refine .q (op_assign rfl) trivial rfl ?_
    refine .nil ?_
    show Ev _ _ _ _ _
    refine .region ?_
    refine .q (op_move rfl) trivial rfl ?_
    refine .q (op_addI rfl rfl ⟨by first | omega | (simp only [AV.len]; omega) | (simp only [AV.len, List.length_set]; omega) | assumption | (simp [AV.len]; done), by first | omega | (simp only [AV.len]; omega) | (simp only [AV.len, List.length_set]; omega) | assumption | (simp [AV.len]; done)⟩) trivial rfl ?_
    refine .q (op_assign rfl) trivial rfl ?_
    refine .nil ?_
    exact ⟨⟨j + 1, by omega⟩, by show (rawD i k).2.length - (j + 1) < (rawD i k).2.length - j; omega, StLe.mk [(1008, 1008), (1016, 1016)] rfl rfl ⟨⟨_, rfl, by first | rfl | (simp only [AV.ren]; congr 1; omega), rfl⟩, ⟨_, rfl, by first | rfl | (simp only [AV.ren]; congr 1; omega), rfl⟩, ⟨_, rfl, by first | rfl | (simp only [AV.ren]; congr 1; omega), rfl⟩, ⟨_, rfl, by exact congrArg AV.u64 (shl_add _ _), rfl⟩, ⟨_, rfl, by first | rfl | (simp only [AV.ren]; congr 1; omega), rfl⟩, trivial⟩ ⟨⟨_, _, rfl, rfl, by first | rfl | (simp only [AV.ren]; congr 1; omega), rfl, id, rfl⟩, ⟨_, _, rfl, rfl, by first | rfl | (simp only [AV.ren]; congr 1; omega), rfl, id, rfl⟩, trivial⟩⟩
  · first | replace hc19 := of_decide_eq_true hc19 | replace hc19 := of_decide_eq_false hc19 | replace hc19 := eq_of_beq hc19 | replace hc19 := ne_of_beq_false hc19 | simp only [bne_iff_ne, ne_eq] at hc19 | simp only [bne_eq_false_iff_eq] at hc19
    refine .exit ?_
    show Ev _ _ _ _ _
    have ej : j = (rawD i k).2.length := by omega
    refine Ev.weak (st2 := ⟨[(4, .ptr 1008 0), (6, .ptr 1016 0), (7, .str (rawD i k).2), (8, .u64 (numL (rawD i k).2 ((rawD i k).2.length))), (9, .i64 ((((rawD i k).2.length) : Nat) : Int))], [(1008, some ⟨.agg [.str [], .i64 0], 47, true⟩), (1016, some ⟨.agg [.str ((rawD i k).1).r, .i64 ((((rawD i k).1).e : Nat) : Int)], 47, true⟩)], 1024⟩) (StLe.mk [(1008, 1008), (1016, 1016)] rfl rfl ⟨⟨_, rfl, by first | (simp only [AV.ren]; done) | (simp only [AV.ren]; rw [ej]; done) | rfl, rfl⟩, ⟨_, rfl, by first | (simp only [AV.ren]; done) | (simp only [AV.ren]; rw [ej]; done) | rfl, rfl⟩, ⟨_, rfl, by first | (simp only [AV.ren]; done) | (simp only [AV.ren]; rw [ej]; done) | rfl, rfl⟩, ⟨_, rfl, by first | (simp only [AV.ren]; done) | (simp only [AV.ren]; rw [ej]; done) | rfl, rfl⟩, ⟨_, rfl, by first | (simp only [AV.ren]; done) | (simp only [AV.ren]; rw [ej]; done) | rfl, rfl⟩, trivial⟩ ⟨⟨_, _, rfl, rfl, by first | (simp only [AV.ren]; done) | (simp only [AV.ren]; rw [ej]; done) | rfl, rfl, id, rfl⟩, ⟨_, _, rfl, rfl, by first | (simp only [AV.ren]; done) | (simp only [AV.ren]; rw [ej]; done) | rfl, rfl, id, rfl⟩, trivial⟩) ?_
    refine .seq ?_
    refine .region ?_
    refine .q (op_loadRow Tryd.underlying47 rfl (by kernel_rfl) rfl rfl rfl (rfl)) trivial rfl ?_
    refine .q (op_move rfl) trivial rfl ?_
    refine .w (op_storeRow (by kernel_rfl) rfl rfl rfl rfl rfl (rfl) (rfl)) trivial rfl ?_
    refine .q (op_assign rfl) trivial rfl ?_
    refine .nil ?_
    show Ev _ _ _ _ _
    refine .ret ?_
    show RetOk _ _ _ _ _ _ _
    exact retc2 rfl (.inl rfl) ⟨_, _, _, _, rfl, rfl, rfl, rfl, rfl, Tryd.underlying47, rfl, (by kernel_rfl)⟩ rfl trivial
theorem num4_lt (i : DI) : (numD i 4).2.toNat < 4294967296 := by
  have key : ∀ (s : List UInt8) (j : Nat), j ≤ 4 → (numL s j).toNat < 256 ^ j := fun s j => by
    induction j with
    | zero => intro _; show (0 : UInt64).toNat < 1; decide
    | succ j ih =>
      intro hj
      have h1 := ih (by omega)
      have hb := (s.getD j 0).toNat_lt
      have hp : 256 ^ j ≤ 256 ^ 3 := Nat.pow_le_pow_right (by decide) (by omega)
      show (numL s j <<< UInt64.ofNat 8 ||| (s.getD j 0).toUInt64).toNat < 256 ^ (j + 1)
      rw [← shl_add, UInt64.toNat_add, UInt64.toNat_mul, UInt8.toNat_toUInt64]
      have e2 : (256 : UInt64).toNat = 256 := rfl
      rw [e2, Nat.pow_succ]
      have hp3 : (256 : Nat) ^ 3 = 16777216 := by decide
      omega
  unfold numD numV
  have hl : (rawD i 4).2.length ≤ 4 := by rcases rawD_length i 4 with h | h <;> simp [h]
  have h1 := key (rawD i 4).2 (rawD i 4).2.length hl
  have hp : 256 ^ (rawD i 4).2.length ≤ 256 ^ 4 := Nat.pow_le_pow_right (by decide) hl
  have hp4 : (256 : Nat) ^ 4 = 4294967296 := by decide
  show (numL (rawD i 4).2 (rawD i 4).2.length).toNat < 4294967296
  omega
theorem u32D_num (i : DI) : (u32D i).2.toNat = (numD i 4).2.toNat := by
  have := num4_lt i
  show (numD i 4).2.toUInt32.toNat = _
  rw [UInt64.toNat_toUInt32]; omega
theorem textD_err {i : DI} (h : i.ok) (he : (u32D i).1.e ≠ 0) (m : Int) : textD i m = ((u32D i).1, []) := by
  have hok : (u32D i).1.ok := rawD_ok h 4
  unfold textD
  split
  · have hr := hok he
    generalize (u32D i).1 = q at hr he
    obtain ⟨r, e⟩ := q
    simp only at hr he
    subst hr
    cases e with
    | zero => exact absurd rfl he
    | succ e => rfl
  · exact rawD_err hok he _
set_option maxRecDepth 100000 in
theorem rtext_err (i : DI) (hi : i.ok) (most : Int) (he : (u32D i).1.e ≠ 0) : Meets Tryd.prog 65 [.agg [.str (i).r, .i64 (((i).e : Nat) : Int)], .i64 most] [] (.tup [.agg [.str ((rawD (u32D i).1 (numD i 4).2.toNat).1).r, .i64 ((((rawD (u32D i).1 (numD i 4).2.toNat).1).e : Nat) : Int)], .str (rawD (u32D i).1 (numD i 4).2.toNat).2]) [] := by
  refine meets_of_ev (nt := 29) Tryd.func65 rfl rfl (Nat.le_of_ble_eq_true rfl) ?_
  refine .seq ?_
  refine .region ?_
  refine .a (op_boxRow rfl rfl) trivial rfl ?_
  refine .a (op_allocRow zero47 rel_zero47 rfl) trivial rfl ?_
  refine .q (op_assign rfl) trivial rfl ?_
  refine .nil ?_
  show Ev _ _ _ _ _
  refine .seq ?_
  refine .region ?_
  refine .q (op_loadRow Tryd.underlying47 rfl (by kernel_rfl) rfl rfl rfl (rfl)) trivial rfl ?_
  refine .q (op_call (U := []) [] [] (rnum_ev i hi 4 (by decide)) Tryd.func55 (by kernel_rfl) rfl rfl rfl (⟨⟨_, rfl, rfl, rfl⟩, ⟨_, rfl, rfl, rfl⟩, trivial⟩) (trivial) (trivial) (trivial) rfl) trivial rfl ?_
  refine .q (op_move rfl) trivial rfl ?_
  refine .q (op_extract rfl rfl) trivial rfl ?_
  refine .q (op_extract rfl rfl) trivial rfl ?_
  refine .a (op_allocRow zero47 rel_zero47 rfl) trivial rfl ?_
  refine .w (op_storeRow (by kernel_rfl) rfl rfl rfl rfl rfl (rfl) (rfl)) trivial rfl ?_
  refine .q (op_assign rfl) trivial rfl ?_
  refine .nil ?_
  show Ev _ _ _ _ _
  refine .seq ?_
  refine .seq ?_
  refine .region ?_
  refine .q (op_fieldAddr (m := 0) Tryd.underlying47 rfl (by kernel_rfl) rfl) trivial rfl ?_
  refine .as (.ptr 1016 1) rfl ?_
  refine .q (op_load Tryd.underlying3 rfl rfl rfl rfl (show 1 < 2 by decide)) trivial rfl ?_
  refine .q (op_cmpI rfl rfl rfl) trivial rfl ?_
  refine .q (op_move rfl) trivial rfl ?_
  refine .know (b' := false) (beq_eq_false_iff_ne.2 (fun h => he (Int.ofNat.inj h))) ?_
  refine .no ⟨_, rfl, rfl⟩ rfl ?_
  refine .no ⟨_, rfl, rfl⟩ rfl ?_
  refine .no ⟨_, rfl, rfl⟩ rfl ?_
  refine .no ⟨_, rfl, rfl⟩ rfl ?_
  refine .q (op_pick_false rfl rfl rfl) trivial rfl ?_
  refine .nil ?_
  show Ev _ _ _ _ _
  refine .cond_false rfl rfl ?_
  refine .skip ?_
  show Ev _ _ _ _ _
  refine .seq ?_
  refine .region ?_
  refine .q (op_loadRow Tryd.underlying47 rfl (by kernel_rfl) rfl rfl rfl (rfl)) trivial rfl ?_
  refine .q (op_move rfl) trivial rfl ?_
  refine .q (op_conv64I Tryd.underlying77 Tryd.underlying3 rfl (by have := num4_lt i; omega)) trivial rfl ?_
  refine .q (op_call (U := []) [] [] (rraw_ev (u32D i).1 (rawD_ok hi 4) (((numD i 4).2.toNat : Nat) : Int)) Tryd.func59 (by kernel_rfl) rfl rfl rfl (⟨⟨_, rfl, rfl, rfl⟩, ⟨_, rfl, rfl, rfl⟩, trivial⟩) (trivial) (trivial) (trivial) rfl) trivial rfl ?_
  refine .q (op_extract rfl rfl) trivial rfl ?_
  refine .q (op_extract rfl rfl) trivial rfl ?_
  refine .w (op_storeRow (by kernel_rfl) rfl rfl rfl rfl rfl (rfl) (rfl)) trivial rfl ?_
  refine .q (op_assign rfl) trivial rfl ?_
  refine .nil ?_
  show Ev _ _ _ _ _
  refine .ret ?_
  show RetOk _ _ _ _ _ _ _
  exact retc2 rfl (.inl rfl) ⟨_, _, _, _, rfl, rfl, rfl, rfl, rfl, Tryd.underlying47, rfl, (by kernel_rfl)⟩ rfl trivial
set_option maxRecDepth 100000 in
theorem rtext_big (i : DI) (hi : i.ok) (most : Int) (he : (u32D i).1.e = 0) (h : most < (((numD i 4).2.toNat : Nat) : Int)) : Meets Tryd.prog 65 [.agg [.str (i).r, .i64 (((i).e : Nat) : Int)], .i64 most] [] (.tup [.agg [.str [], .i64 4], .str []]) [] := by
  refine meets_of_ev (nt := 29) Tryd.func65 rfl rfl (Nat.le_of_ble_eq_true rfl) ?_
  refine .seq ?_
  refine .region ?_
  refine .a (op_boxRow rfl rfl) trivial rfl ?_
  refine .a (op_allocRow zero47 rel_zero47 rfl) trivial rfl ?_
  refine .q (op_assign rfl) trivial rfl ?_
  refine .nil ?_
  show Ev _ _ _ _ _
  refine .seq ?_
  refine .region ?_
  refine .q (op_loadRow Tryd.underlying47 rfl (by kernel_rfl) rfl rfl rfl (rfl)) trivial rfl ?_
  refine .q (op_call (U := []) [] [] (rnum_ev i hi 4 (by decide)) Tryd.func55 (by kernel_rfl) rfl rfl rfl (⟨⟨_, rfl, rfl, rfl⟩, ⟨_, rfl, rfl, rfl⟩, trivial⟩) (trivial) (trivial) (trivial) rfl) trivial rfl ?_
  refine .q (op_move rfl) trivial rfl ?_
  refine .q (op_extract rfl rfl) trivial rfl ?_
  refine .q (op_extract rfl rfl) trivial rfl ?_
  refine .a (op_allocRow zero47 rel_zero47 rfl) trivial rfl ?_
  refine .w (op_storeRow (by kernel_rfl) rfl rfl rfl rfl rfl (rfl) (rfl)) trivial rfl ?_
  refine .q (op_assign rfl) trivial rfl ?_
  refine .nil ?_
  show Ev _ _ _ _ _
  refine .seq ?_
  refine .seq ?_
  refine .region ?_
  refine .q (op_fieldAddr (m := 0) Tryd.underlying47 rfl (by kernel_rfl) rfl) trivial rfl ?_
  refine .as (.ptr 1016 1) rfl ?_
  refine .q (op_load Tryd.underlying3 rfl rfl rfl rfl (show 1 < 2 by decide)) trivial rfl ?_
  refine .q (op_cmpI rfl rfl rfl) trivial rfl ?_
  refine .q (op_move rfl) trivial rfl ?_
  refine .know (b' := true) ((show (((u32D i).1.e : Int) == 0) = true by rw [he]; rfl)) ?_
  refine .q (op_move rfl) ⟨_, rfl, rfl⟩ rfl ?_
  refine .q (op_conv64I Tryd.underlying77 Tryd.underlying3 rfl (by have := num4_lt i; omega)) ⟨_, rfl, rfl⟩ rfl ?_
  refine .q (op_move rfl) ⟨_, rfl, rfl⟩ rfl ?_
  refine .q (op_cmpI rfl rfl rfl) ⟨_, rfl, rfl⟩ rfl ?_
  refine .q (op_pick_true rfl rfl rfl) trivial rfl ?_
  refine .nil ?_
  show Ev _ _ _ _ _
  refine .cond_true rfl (decide_eq_true h) ?_
  refine .seq ?_
  refine .region ?_
  refine .q (op_buildS (r := .agg [.str [], .i64 4]) Tryd.underlying47 rfl zero47 rel_zero47 rfl rfl rfl rfl) trivial rfl ?_
  refine .w (op_storeRow (by kernel_rfl) rfl rfl rfl rfl rfl (rfl) (rfl)) trivial rfl ?_
  refine .q (op_assign rfl) trivial rfl ?_
  refine .nil ?_
  show Ev _ _ _ _ _
  refine .ret ?_
  show RetOk _ _ _ _ _ _ _
  exact retc2 rfl (.inl rfl) ⟨_, _, _, _, rfl, rfl, rfl, rfl, rfl, Tryd.underlying47, rfl, (by kernel_rfl)⟩ rfl trivial
set_option maxRecDepth 100000 in
theorem rtext_yes (i : DI) (hi : i.ok) (most : Int) (he : (u32D i).1.e = 0) (h : ¬ most < (((numD i 4).2.toNat : Nat) : Int)) : Meets Tryd.prog 65 [.agg [.str (i).r, .i64 (((i).e : Nat) : Int)], .i64 most] [] (.tup [.agg [.str ((rawD (u32D i).1 (numD i 4).2.toNat).1).r, .i64 ((((rawD (u32D i).1 (numD i 4).2.toNat).1).e : Nat) : Int)], .str (rawD (u32D i).1 (numD i 4).2.toNat).2]) [] := by
  refine meets_of_ev (nt := 29) Tryd.func65 rfl rfl (Nat.le_of_ble_eq_true rfl) ?_
  refine .seq ?_
  refine .region ?_
  refine .a (op_boxRow rfl rfl) trivial rfl ?_
  refine .a (op_allocRow zero47 rel_zero47 rfl) trivial rfl ?_
  refine .q (op_assign rfl) trivial rfl ?_
  refine .nil ?_
  show Ev _ _ _ _ _
  refine .seq ?_
  refine .region ?_
  refine .q (op_loadRow Tryd.underlying47 rfl (by kernel_rfl) rfl rfl rfl (rfl)) trivial rfl ?_
  refine .q (op_call (U := []) [] [] (rnum_ev i hi 4 (by decide)) Tryd.func55 (by kernel_rfl) rfl rfl rfl (⟨⟨_, rfl, rfl, rfl⟩, ⟨_, rfl, rfl, rfl⟩, trivial⟩) (trivial) (trivial) (trivial) rfl) trivial rfl ?_
  refine .q (op_move rfl) trivial rfl ?_
  refine .q (op_extract rfl rfl) trivial rfl ?_
  refine .q (op_extract rfl rfl) trivial rfl ?_
  refine .a (op_allocRow zero47 rel_zero47 rfl) trivial rfl ?_
  refine .w (op_storeRow (by kernel_rfl) rfl rfl rfl rfl rfl (rfl) (rfl)) trivial rfl ?_
  refine .q (op_assign rfl) trivial rfl ?_
  refine .nil ?_
  show Ev _ _ _ _ _
  refine .seq ?_
  refine .seq ?_
  refine .region ?_
  refine .q (op_fieldAddr (m := 0) Tryd.underlying47 rfl (by kernel_rfl) rfl) trivial rfl ?_
  refine .as (.ptr 1016 1) rfl ?_
  refine .q (op_load Tryd.underlying3 rfl rfl rfl rfl (show 1 < 2 by decide)) trivial rfl ?_
  refine .q (op_cmpI rfl rfl rfl) trivial rfl ?_
  refine .q (op_move rfl) trivial rfl ?_
  refine .know (b' := true) ((show (((u32D i).1.e : Int) == 0) = true by rw [he]; rfl)) ?_
  refine .q (op_move rfl) ⟨_, rfl, rfl⟩ rfl ?_
  refine .q (op_conv64I Tryd.underlying77 Tryd.underlying3 rfl (by have := num4_lt i; omega)) ⟨_, rfl, rfl⟩ rfl ?_
  refine .q (op_move rfl) ⟨_, rfl, rfl⟩ rfl ?_
  refine .q (op_cmpI rfl rfl rfl) ⟨_, rfl, rfl⟩ rfl ?_
  refine .q (op_pick_true rfl rfl rfl) trivial rfl ?_
  refine .nil ?_
  show Ev _ _ _ _ _
  refine .cond_false rfl (decide_eq_false h) ?_
  refine .skip ?_
  show Ev _ _ _ _ _
  refine .seq ?_
  refine .region ?_
  refine .q (op_loadRow Tryd.underlying47 rfl (by kernel_rfl) rfl rfl rfl (rfl)) trivial rfl ?_
  refine .q (op_move rfl) trivial rfl ?_
  refine .q (op_conv64I Tryd.underlying77 Tryd.underlying3 rfl (by have := num4_lt i; omega)) trivial rfl ?_
  refine .q (op_call (U := []) [] [] (rraw_ev (u32D i).1 (rawD_ok hi 4) (((numD i 4).2.toNat : Nat) : Int)) Tryd.func59 (by kernel_rfl) rfl rfl rfl (⟨⟨_, rfl, rfl, rfl⟩, ⟨_, rfl, rfl, rfl⟩, trivial⟩) (trivial) (trivial) (trivial) rfl) trivial rfl ?_
  refine .q (op_extract rfl rfl) trivial rfl ?_
  refine .q (op_extract rfl rfl) trivial rfl ?_
  refine .w (op_storeRow (by kernel_rfl) rfl rfl rfl rfl rfl (rfl) (rfl)) trivial rfl ?_
  refine .q (op_assign rfl) trivial rfl ?_
  refine .nil ?_
  show Ev _ _ _ _ _
  refine .ret ?_
  show RetOk _ _ _ _ _ _ _
  exact retc2 rfl (.inl rfl) ⟨_, _, _, _, rfl, rfl, rfl, rfl, rfl, Tryd.underlying47, rfl, (by kernel_rfl)⟩ rfl trivial
theorem rtext_ev (i : DI) (hi : i.ok) (most : Int) : Meets Tryd.prog 65 [.agg [.str (i).r, .i64 (((i).e : Nat) : Int)], .i64 most] [] (.tup [.agg [.str ((textD i most).1).r, .i64 ((((textD i most).1).e : Nat) : Int)], .str (textD i most).2]) [] := by
  by_cases he : (u32D i).1.e = 0
  · by_cases h : most < (((numD i 4).2.toNat : Nat) : Int)
    · have e : textD i most = (⟨[], 4⟩, []) := by
        unfold textD
        rw [u32D_num, if_pos h]
        simp [failD, he, orE]
      rw [e]; exact rtext_big i hi most he h
    · have e : textD i most = rawD (u32D i).1 (numD i 4).2.toNat := by
        unfold textD
        rw [u32D_num, if_neg h]
      rw [e]; exact rtext_yes i hi most he h
  · rw [textD_err hi he most]
    have := rtext_err i hi most he
    rwa [rawD_err (i := (u32D i).1) (rawD_ok hi 4) he] at this
end Go.Proofs.YteefpaiefphdpaaDoor
namespace Go.Proofs.YteefpaiefphdpaaDoor
open Go.RowKit
theorem splitC_ne (s : List UInt8) : splitC s ≠ [] := by
  cases s with
  | nil => simp [splitC]
  | cons c s =>
    simp only [splitC]
    split
    · simp
    · split <;> simp
theorem splitC_cons_ne {c : UInt8} {s : List UInt8} (h : ¬ c = 44) : ∃ x l, splitC s = x :: l ∧ splitC (c :: s) = (c :: x) :: l := by
  cases hs : splitC s with
  | nil => exact absurd hs (splitC_ne s)
  | cons x l => exact ⟨x, l, rfl, by simp only [splitC, if_neg h, hs]⟩
theorem splitC_none : ∀ (s : List UInt8), s.count 44 = 0 → splitC s = [s]
  | [], _ => rfl
  | c :: s, h => by
    rw [List.count_cons] at h
    have hc : ¬ c = 44 := fun e => by subst e; simp at h
    have hs : s.count 44 = 0 := by omega
    obtain ⟨x, l, h1, h2⟩ := splitC_cons_ne (s := s) hc
    rw [splitC_none s hs] at h1
    injection h1 with h1 h3
    rw [h2, ← h1, ← h3]
theorem splitC_len : ∀ (s : List UInt8), (splitC s).length = s.count 44 + 1
  | [] => rfl
  | c :: s => by
    have ih := splitC_len s
    rw [List.count_cons]
    by_cases hc : c = 44
    · subst hc; simp [splitC, ih]
    · obtain ⟨x, l, h1, h2⟩ := splitC_cons_ne (s := s) hc
      rw [h1] at ih
      rw [h2]
      have : (c == 44) = false := by simpa using hc
      simp only [List.length_cons, this] at ih ⊢
      simpa using ih
theorem splitC_idx : ∀ (s : List UInt8), 0 < s.count 44 → ∃ m : Nat, Lib.indexByte s 44 = (m : Int) ∧ m < s.length ∧ splitC s = s.take m :: splitC (s.drop (m + 1)) ∧ (s.drop (m + 1)).count 44 + 1 = s.count 44
  | [], h => by simp at h
  | c :: s, h => by
    by_cases hc : c = 44
    · subst hc
      exact ⟨0, by simp [Lib.indexByte], by simp, by simp [splitC], by simp⟩
    · have hb : (c == 44) = false := by simpa using hc
      have hcount : (c :: s).count 44 = s.count 44 := by rw [List.count_cons, hb]; simp
      rw [hcount] at h
      obtain ⟨m, h1, h2, h3, h4⟩ := splitC_idx s h
      refine ⟨m + 1, ?_, by simp; omega, ?_, by rw [hcount]; simpa using h4⟩
      · simp only [Lib.indexByte, hb, h1]
        have : ((m : Int) == -1) = false := by
          rw [beq_eq_false_iff_ne]; omega
        simp [this]
      · obtain ⟨x, l, g1, g2⟩ := splitC_cons_ne (s := s) hc
        rw [h3] at g1
        injection g1 with g1 g3
        rw [g2, ← g1, ← g3]
        simp
/-- The parts, where w stands before the first one. -/
def joinW (w : List UInt8) : List (List UInt8) → List (List UInt8)
  | x :: l => (w ++ x) :: l
  | [] => [w]
theorem joinW_step {w : List UInt8} {c : UInt8} {s : List UInt8} (h : ¬ c = 44) : joinW w (splitC (c :: s)) = joinW (w ++ [c]) (splitC s) := by
  obtain ⟨x, l, h1, h2⟩ := splitC_cons_ne (s := s) h
  rw [h1, h2]; simp [joinW]
theorem joinW_comma {w s : List UInt8} : joinW w (splitC (44 :: s)) = w :: splitC s := by simp [splitC, joinW]
theorem joinW_nil (s : List UInt8) : joinW [] (splitC s) = splitC s := by
  cases h : splitC s with
  | nil => exact absurd h (splitC_ne s)
  | cons x l => simp [joinW]
theorem drop_cons {s : List UInt8} {k : Nat} (h : k < s.length) : s.drop k = s.getD k 0 :: s.drop (k + 1) := by
  rw [List.drop_eq_getElem_cons h]
  simp [List.getD_eq_getElem?_getD, h]
end Go.Proofs.YteefpaiefphdpaaDoor
namespace Go.Proofs.YteefpaiefphdpaaDoor
open Go.RowKit
/-- Some parts are done, q is what is left of the text. -/
structure SpI (s : List UInt8) where
  d : List (List UInt8)
  q : List UInt8
  h : splitC s = d ++ splitC q
  c : d.length + q.count 44 = s.count 44
  l : q.length ≤ s.length
def SpI.next {s : List UInt8} (i : SpI s) (m : Nat) (h3 : splitC i.q = i.q.take m :: splitC (i.q.drop (m + 1))) (h4 : (i.q.drop (m + 1)).count 44 + 1 = i.q.count 44) : SpI s :=
  ⟨i.d ++ [i.q.take m], i.q.drop (m + 1), by rw [i.h, h3]; simp, by have := i.c; simp only [List.length_append, List.length_cons, List.length_nil]; omega, by have := i.l; simp only [List.length_drop]; omega⟩
def SpI.cells {s : List UInt8} (i : SpI s) : List (List UInt8) := i.d ++ List.replicate (s.count 44 + 1 - i.d.length) []
theorem SpI.set {s : List UInt8} (i : SpI s) (x : List UInt8) (h : i.d.length < s.count 44 + 1) : i.cells.set i.d.length x = i.d ++ [x] ++ List.replicate (s.count 44 + 1 - (i.d.length + 1)) [] := by
  unfold SpI.cells
  rw [List.set_append_right _ _ (Nat.le_refl _), Nat.sub_self, show s.count 44 + 1 - i.d.length = (s.count 44 + 1 - (i.d.length + 1)) + 1 by omega, List.replicate_succ]
  simp
theorem SpI.fin {s : List UInt8} (i : SpI s) (hz : i.q.count 44 = 0) : i.cells.set i.d.length i.q = splitC s := by
  have hc := i.c
  rw [SpI.set _ _ (by omega), show s.count 44 + 1 - (i.d.length + 1) = 0 by omega, i.h, splitC_none _ hz]
  simp
set_option maxRecDepth 100000 in
theorem gensplit_ev (s : List UInt8) (hs : s.length ≤ 100000000) : Meets Tryd.prog 142 [.str s, .str [44], .i64 0, .i64 (-1)] [] (.sl 1000 0 (splitC s).length 1) [(1000, some ⟨.aggS (splitC s), 9, true⟩)] := by
  have hcl := List.count_le_length (a := (44 : UInt8)) (l := s)
  refine meets_of_ev (nt := 66) Tryd.func142 rfl rfl (Nat.le_of_ble_eq_true rfl) ?_
  refine .seq ?_
  refine .region ?_
  refine .q (op_assign rfl) trivial rfl ?_
  refine .nil ?_
  show Ev _ _ _ _ _
  refine .seq ?_
  refine .seq ?_
  refine .region ?_
  refine .q (op_move rfl) trivial rfl ?_
  refine .q (op_cmpI rfl rfl rfl) trivial rfl ?_
  refine .nil ?_
  show Ev _ _ _ _ _
  refine .cond_false rfl (rfl) ?_
  refine .skip ?_
  show Ev _ _ _ _ _
  refine .seq ?_
  refine .seq ?_
  refine .region ?_
  refine .q (op_move rfl) trivial rfl ?_
  refine .q (op_eqS rfl rfl rfl) trivial rfl ?_
  refine .nil ?_
  show Ev _ _ _ _ _
  refine .cond_false rfl (rfl) ?_
  refine .skip ?_
  show Ev _ _ _ _ _
  refine .seq ?_
  refine .seq ?_
  refine .region ?_
  refine .q (op_move rfl) trivial rfl ?_
  refine .q (op_cmpI rfl rfl rfl) trivial rfl ?_
  refine .nil ?_
  show Ev _ _ _ _ _
  refine .cond_true rfl (rfl) ?_
  refine .region ?_
  refine .q (op_move rfl) trivial rfl ?_
  refine .q (op_move rfl) trivial rfl ?_
  refine .q (op_call (U := []) [] [] (count_ev s 44) Tryd.func161 (by kernel_rfl) rfl rfl rfl (⟨⟨_, rfl, rfl, rfl⟩, ⟨_, rfl, rfl, rfl⟩, trivial⟩) (trivial) (trivial) (trivial) rfl) trivial rfl ?_
  refine .q (op_addI rfl rfl ⟨by have := List.count_le_length (a := (44 : UInt8)) (l := s); omega, by have := List.count_le_length (a := (44 : UInt8)) (l := s); omega⟩) trivial rfl ?_
  refine .q (op_assign rfl) trivial rfl ?_
  refine .nil ?_
  show Ev _ _ _ _ _
  refine .seq ?_
  refine .region ?_
  refine .q (op_move rfl) trivial rfl ?_
  refine .q (op_move rfl) trivial rfl ?_
  refine .q (op_len_str Tryd.underlying9 rfl) trivial rfl ?_
  refine .q (op_addI rfl rfl ⟨by omega, by omega⟩) trivial rfl ?_
  refine .q (op_minI rfl rfl) trivial rfl ?_
  refine .as (.i64 ((s.count 44 + 1 : Nat) : Int)) (congrArg AV.i64 (by have := List.count_le_length (a := (44 : UInt8)) (l := s); omega)) ?_
  refine .q (op_assign rfl) trivial rfl ?_
  refine .nil ?_
  show Ev _ _ _ _ _
  refine .seq ?_
  refine .region ?_
  refine .q (op_move rfl) trivial rfl ?_
  refine .a (ap_make (n := s.count 44 + 1) (c := .aggS (List.replicate (s.count 44 + 1) [])) Tryd.underlying104 inf9 rfl rfl rfl rfl (by have := List.count_le_length (a := (44 : UInt8)) (l := s); omega) rel_zero9 rfl (by simp [AV.list, AV.parts])) trivial rfl ?_
  refine .q (op_assign rfl) trivial rfl ?_
  refine .nil ?_
  show Ev _ _ _ _ _
  refine .seq ?_
  refine .region ?_
  refine .q (op_move rfl) trivial rfl ?_
  refine .q (op_subI rfl rfl ⟨by have := List.count_le_length (a := (44 : UInt8)) (l := s); omega, by have := List.count_le_length (a := (44 : UInt8)) (l := s); omega⟩) trivial rfl ?_
  refine .as (.i64 ((s.count 44 : Nat) : Int)) (congrArg AV.i64 (by omega)) ?_
  refine .q (op_assign rfl) trivial rfl ?_
  refine .nil ?_
  show Ev _ _ _ _ _
  refine .seq ?_
  refine .region ?_
  refine .q (op_assign rfl) trivial rfl ?_
  refine .nil ?_
  show Ev _ _ _ _ _
  refine .seq ?_
  refine .block ?_
  refine Ev.loop (ι := SpI s) (fun q => ⟨[(0, .str q.q), (1, .str [44]), (2, .i64 0), (3, .i64 ((s.count 44 : Nat) : Int)), (9, .sl 1000 0 (s.count 44 + 1) 1), (10, .i64 ((q.d.length : Nat) : Int))], [(1000, some ⟨.aggS q.cells, 9, true⟩)], 1008⟩) (fun q => q.q.count 44) ⟨[], s, rfl, by simp, Nat.le_refl _⟩ (StLe.mk [(1000, 1000)] rfl rfl ⟨⟨_, rfl, by rfl, rfl⟩, ⟨_, rfl, by rfl, rfl⟩, ⟨_, rfl, by rfl, rfl⟩, ⟨_, rfl, by rfl, rfl⟩, ⟨_, rfl, by rfl, rfl⟩, ⟨_, rfl, by rfl, rfl⟩, trivial⟩ ⟨⟨_, _, rfl, rfl, rfl, rfl, id, rfl⟩, trivial⟩) ?_
  rintro q
  try dsimp only
  refine .seq ?_
  refine .seq ?_
  refine .region ?_
  refine .q (op_move rfl) trivial rfl ?_
  refine .q (op_move rfl) trivial rfl ?_
  refine .q (op_cmpI rfl rfl rfl) trivial rfl ?_
  refine .nil ?_
  show Ev _ _ _ _ _
  refine .cond rfl (fun hc36 => ?_) (fun hc36 => ?_)
  · first | replace hc36 := of_decide_eq_true hc36 | replace hc36 := of_decide_eq_false hc36 | replace hc36 := eq_of_beq hc36 | replace hc36 := ne_of_beq_false hc36 | simp only [bne_iff_ne, ne_eq] at hc36 | simp only [bne_eq_false_iff_eq] at hc36
    refine .skip ?_
    show Ev _ _ _ _ _
    refine .block ?_
    refine .seq ?_
    refine .region ?_
    have hpos : 0 < q.q.count 44 := by have := q.c; omega
    obtain ⟨m, h1, h2, h3, h4⟩ := splitC_idx q.q hpos
    have hql := q.l
    have hqc := q.c
    refine .q (op_move rfl) trivial rfl ?_
    refine .q (op_move rfl) trivial rfl ?_
    refine .q (op_call (U := []) [] [] (index_ev q.q 44) Tryd.func162 (by kernel_rfl) rfl rfl rfl (⟨⟨_, rfl, rfl, rfl⟩, ⟨_, rfl, rfl, rfl⟩, trivial⟩) (trivial) (trivial) (trivial) rfl) trivial rfl ?_
    refine .as (.i64 ((m : Nat) : Int)) (congrArg AV.i64 h1) ?_
    refine .q (op_assign rfl) trivial rfl ?_
    refine .nil ?_
    show Ev _ _ _ _ _
    refine .seq ?_
    refine .seq ?_
    refine .region ?_
    refine .q (op_move rfl) trivial rfl ?_
    refine .q (op_cmpI rfl rfl rfl) trivial rfl ?_
    refine .nil ?_
    show Ev _ _ _ _ _
    refine .cond_false rfl (decide_eq_false (by omega)) ?_
    refine .skip ?_
    show Ev _ _ _ _ _
    refine .seq ?_
    refine .region ?_
    refine .q (op_move rfl) trivial rfl ?_
    refine .q (op_move rfl) trivial rfl ?_
    refine .q (op_move rfl) trivial rfl ?_
    refine .q (op_move rfl) trivial rfl ?_
    refine .q (op_move rfl) trivial rfl ?_
    refine .q (op_addI rfl rfl ⟨by omega, by omega⟩) trivial rfl ?_
    refine .as (.i64 ((m : Nat) : Int)) (congrArg AV.i64 (by omega)) ?_
    refine .q (ap_slice_str_hi Tryd.underlying9 rfl (bnd_some rfl rfl) (by omega)) trivial rfl ?_
    refine .q (ap_idx0 Tryd.underlying104 inf9.sz rfl rfl rfl (by omega)) trivial rfl ?_
    refine .w (op_store inf9.sz rfl rfl rfl rfl rfl (by show _ < q.cells.length; unfold SpI.cells; simp; omega)) trivial rfl ?_
    refine .nil ?_
    show Ev _ _ _ _ _
    refine .seq ?_
    refine .region ?_
    refine .q (op_move rfl) trivial rfl ?_
    refine .q (op_move rfl) trivial rfl ?_
    refine .q (op_move rfl) trivial rfl ?_
    refine .q (op_len_str Tryd.underlying9 rfl) trivial rfl ?_
    refine .as (.i64 1) rfl ?_
    refine .q (op_addI rfl rfl ⟨by omega, by omega⟩) trivial rfl ?_
    refine .as (.i64 ((m + 1 : Nat) : Int)) rfl ?_
    refine .q (ap_slice_str_lo Tryd.underlying9 rfl (bnd_some rfl rfl) (by omega)) trivial rfl ?_
    refine .q (op_assign rfl) trivial rfl ?_
    refine .nil ?_
    show Ev _ _ _ _ _
    refine .region ?_
    refine .q (op_move rfl) trivial rfl ?_
    refine .q (op_addI rfl rfl ⟨by omega, by omega⟩) trivial rfl ?_
    refine .q (op_assign rfl) trivial rfl ?_
    refine .nil ?_
    exact ⟨q.next m h3 h4, by (try dsimp only); show (q.q.drop (m + 1)).count 44 < q.q.count 44; omega, StLe.mk [(1000, 1000)] rfl rfl ⟨⟨_, rfl, by rfl, rfl⟩, ⟨_, rfl, by rfl, rfl⟩, ⟨_, rfl, by rfl, rfl⟩, ⟨_, rfl, by rfl, rfl⟩, ⟨_, rfl, by rfl, rfl⟩, ⟨_, rfl, by (show AV.i64 _ = AV.i64 _; simp [SpI.next]), rfl⟩, trivial⟩ ⟨⟨_, _, rfl, rfl, by (show AV.aggS _ = AV.aggS _; rw [SpI.set _ _ (by omega)]; simp [SpI.next, SpI.cells]), rfl, id, rfl⟩, trivial⟩⟩
  · first | replace hc36 := of_decide_eq_true hc36 | replace hc36 := of_decide_eq_false hc36 | replace hc36 := eq_of_beq hc36 | replace hc36 := ne_of_beq_false hc36 | simp only [bne_iff_ne, ne_eq] at hc36 | simp only [bne_eq_false_iff_eq] at hc36
    refine .exit ?_
    show Ev _ _ _ _ _
    refine .seq ?_
    refine .region ?_
    have hqc := q.c
    have hz : q.q.count 44 = 0 := by omega
    refine .q (op_move rfl) trivial rfl ?_
    refine .q (op_move rfl) trivial rfl ?_
    refine .q (op_move rfl) trivial rfl ?_
    refine .q (ap_idx0 Tryd.underlying104 inf9.sz rfl rfl rfl (by omega)) trivial rfl ?_
    refine .w (op_store inf9.sz rfl rfl rfl rfl rfl (by show _ < q.cells.length; unfold SpI.cells; simp; omega)) trivial rfl ?_
    refine .nil ?_
    show Ev _ _ _ _ _
    refine .seq ?_
    refine .region ?_
    refine .q (op_move rfl) trivial rfl ?_
    refine .q (op_move rfl) trivial rfl ?_
    refine .q (op_addI rfl rfl ⟨by omega, by omega⟩) trivial rfl ?_
    refine .as (.i64 ((s.count 44 + 1 : Nat) : Int)) (congrArg AV.i64 (by omega)) ?_
    refine .q (ap_slice_sl_hi Tryd.underlying104 inf9.sz rfl (bnd_some rfl rfl) (by omega)) trivial rfl ?_
    refine .q (op_assign rfl) trivial rfl ?_
    refine .nil ?_
    show Ev _ _ _ _ _
    refine .ret ?_
    show RetOk _ _ _ _ _ _ _
    exact ret1v rfl (.inl rfl) rfl (congrArg (fun n => AV.sl 1000 0 n 1) (splitC_len s).symm) ⟨congrArg (fun l => some (ABlk.mk (AV.aggS l) 9 true)) (SpI.fin q hz), trivial⟩
end Go.Proofs.YteefpaiefphdpaaDoor
namespace Go.Proofs.YteefpaiefphdpaaDoor
open Go.RowKit
theorem splitC_mem : ∀ (s x : List UInt8), x ∈ splitC s → x.length ≤ s.length
  | [], x, h => by simp [splitC] at h; subst h; simp
  | c :: s, x, h => by
    by_cases hc : c = 44
    · subst hc
      simp only [splitC, if_true, List.mem_cons] at h
      rcases h with rfl | h
      · simp
      · have := splitC_mem s x h; simp only [List.length_cons]; omega
    · obtain ⟨y, l, h1, h2⟩ := splitC_cons_ne (s := s) hc
      rw [h2] at h
      rcases List.mem_cons.1 h with rfl | h
      · have := splitC_mem s y (by rw [h1]; simp); simp only [List.length_cons]; omega
      · have := splitC_mem s x (by rw [h1]; simp [h]); simp only [List.length_cons]; omega
theorem splitC_get (s : List UInt8) (j : Nat) : ((splitC s).getD j []).length ≤ s.length := by
  rcases Nat.lt_or_ge j (splitC s).length with h | h
  · rw [show (splitC s).getD j [] = (splitC s)[j] by simp [List.getD_eq_getElem?_getD, h]]
    exact splitC_mem _ _ (List.getElem_mem h)
  · rw [List.getD_eq_getElem?_getD, List.getElem?_eq_none h]; simp
theorem all_get {l : List (List UInt8)} (h : l.all nameOk = true) {j : Nat} (hj : j < l.length) : nameOk (l.getD j []) = true := by
  rw [show l.getD j [] = l[j] by simp [List.getD_eq_getElem?_getD, hj]]
  exact List.all_eq_true.1 h _ (List.getElem_mem hj)
theorem not_all {l : List (List UInt8)} (h : ¬ l.all nameOk = true) : ∃ b, b < l.length ∧ nameOk (l.getD b []) = false := by
  have h1 : l.all nameOk = false := by simpa using h
  rw [List.all_eq_false] at h1
  obtain ⟨x, hx, hn⟩ := h1
  obtain ⟨b, hb, rfl⟩ := List.mem_iff_getElem.1 hx
  exact ⟨b, hb, by rw [show l.getD b [] = l[b] by simp [List.getD_eq_getElem?_getD, hb]]; simpa using hn⟩
set_option maxRecDepth 100000 in
theorem split_ev (s : List UInt8) (hs : s.length ≤ 100000000) : Meets Tryd.prog 107 [.str s, .str [44]] [] (.sl 1000 0 (splitC s).length 1) [(1000, some ⟨.aggS (splitC s), 9, true⟩)] := by
  refine meets_of_ev (nt := 8) Tryd.func107 rfl rfl (Nat.le_of_ble_eq_true rfl) ?_
  refine .seq ?_
  refine .region ?_
  refine .q (op_assign rfl) trivial rfl ?_
  refine .nil ?_
  show Ev _ _ _ _ _
  refine .seq ?_
  refine .region ?_
  refine .q (op_move rfl) trivial rfl ?_
  refine .q (op_move rfl) trivial rfl ?_
  refine .a (op_call (U := [(1000, some ⟨.aggS (splitC s), 9, true⟩)]) [] [(1000, 1000)] (gensplit_ev s hs) Tryd.func142 (by kernel_rfl) rfl rfl rfl (⟨⟨_, rfl, rfl, rfl⟩, ⟨_, rfl, rfl, rfl⟩, ⟨_, rfl, rfl, rfl⟩, ⟨_, rfl, rfl, rfl⟩, trivial⟩) (trivial) (⟨⟨1000, _, rfl, rfl, rfl, rfl, .inl rfl⟩, trivial⟩) (trivial) rfl) trivial rfl ?_
  refine .q (op_assign rfl) trivial rfl ?_
  refine .nil ?_
  show Ev _ _ _ _ _
  refine .ret ?_
  show RetOk _ _ _ _ _ _ _
  exact ret1v rfl (.inl rfl) rfl rfl ⟨rfl, trivial⟩
set_option maxRecDepth 100000 in
theorem names_nil (i : DI) (hr : i.r.length ≤ 90000000) (h0 : (textD i 4096).2 = []) (eo : Nat → Nat × Nat) : Meets Tryd.prog 63 [.ptr 500 0] [(500, some ⟨.agg [.str (i).r, .err 225 ((i).e) (offE eo ((i).e))], 96, true⟩), (1, some ⟨.agg [.err 225 (2) (offE eo (2))], errT, false⟩), (4, some ⟨.agg [.err 225 (4) (offE eo (4))], errT, false⟩), (0, some ⟨.agg [.err 225 (3) (offE eo (3))], errT, false⟩)] .nilsl [(500, some ⟨.agg [.str ((textD i 4096).1).r, .err 225 (((textD i 4096).1).e) (offE eo (((textD i 4096).1).e))], 96, true⟩)] := by
  have hl := (textD_len_le i 4096).1
  have hn : (splitC (textD i 4096).2).length ≤ 90000001 := by
    rw [splitC_len]; have := List.count_le_length (a := (44 : UInt8)) (l := (textD i 4096).2); omega
  refine meets_of_ev (nt := 27) Tryd.func63 rfl rfl (Nat.le_of_ble_eq_true rfl) ?_
  refine .seq ?_
  refine .region ?_
  refine .q (op_assign rfl) trivial rfl ?_
  refine .nil ?_
  show Ev _ _ _ _ _
  refine .seq ?_
  refine .region ?_
  refine .q (op_move rfl) trivial rfl ?_
  refine .a (op_call (U := [(500, some ⟨.agg [.str ((textD i 4096).1).r, .err 225 (((textD i 4096).1).e) (offE eo (((textD i 4096).1).e))], 96, true⟩)]) [(500, 500)] [] (itext_ev i 4096 eo) Tryd.func52 (by kernel_rfl) rfl rfl rfl (⟨⟨_, rfl, rfl, rfl⟩, ⟨_, rfl, rfl, rfl⟩, trivial⟩) (⟨⟨_, _, rfl, rfl, rfl, rfl, id, rfl⟩, ⟨_, _, rfl, rfl, rfl, rfl, (fun h => by cases h), rfl⟩, ⟨_, _, rfl, rfl, rfl, rfl, (fun h => by cases h), rfl⟩, trivial⟩) (⟨⟨500, _, rfl, rfl, rfl, rfl, .inr ⟨rfl, _, rfl, rfl⟩⟩, trivial⟩) (⟨(fun _ => ⟨500, _, rfl, rfl⟩), (fun h => by cases h), (fun h => by cases h), trivial⟩) rfl) trivial rfl ?_
  refine .q (op_assign rfl) trivial rfl ?_
  refine .nil ?_
  show Ev _ _ _ _ _
  refine .seq ?_
  refine .seq ?_
  refine .region ?_
  refine .q (op_move rfl) trivial rfl ?_
  refine .q (op_eqS rfl rfl rfl) trivial rfl ?_
  refine .nil ?_
  show Ev _ _ _ _ _
  refine .cond_true rfl (by rw [h0]; rfl) ?_
  refine .seq ?_
  refine .region ?_
  refine .q (op_assign rfl) trivial rfl ?_
  refine .nil ?_
  show Ev _ _ _ _ _
  refine .ret ?_
  show RetOk _ _ _ _ _ _ _
  exact ret1v rfl (.inl rfl) rfl rfl ⟨rfl, trivial⟩
set_option maxRecDepth 100000 in
theorem names_ok (i : DI) (hr : i.r.length ≤ 90000000) (h0 : ¬ (textD i 4096).2 = []) (h : (splitC (textD i 4096).2).all nameOk = true) (eo : Nat → Nat × Nat) : Meets Tryd.prog 63 [.ptr 500 0] [(500, some ⟨.agg [.str (i).r, .err 225 ((i).e) (offE eo ((i).e))], 96, true⟩), (1, some ⟨.agg [.err 225 (2) (offE eo (2))], errT, false⟩), (4, some ⟨.agg [.err 225 (4) (offE eo (4))], errT, false⟩), (0, some ⟨.agg [.err 225 (3) (offE eo (3))], errT, false⟩)] (.sl 1008 0 (splitC (textD i 4096).2).length 1) [(500, some ⟨.agg [.str ((textD i 4096).1).r, .err 225 (((textD i 4096).1).e) (offE eo (((textD i 4096).1).e))], 96, true⟩), (1008, some ⟨.aggS (splitC (textD i 4096).2), 9, true⟩)] := by
  have hl := (textD_len_le i 4096).1
  have hn : (splitC (textD i 4096).2).length ≤ 90000001 := by
    rw [splitC_len]; have := List.count_le_length (a := (44 : UInt8)) (l := (textD i 4096).2); omega
  refine meets_of_ev (nt := 27) Tryd.func63 rfl rfl (Nat.le_of_ble_eq_true rfl) ?_
  refine .seq ?_
  refine .region ?_
  refine .q (op_assign rfl) trivial rfl ?_
  refine .nil ?_
  show Ev _ _ _ _ _
  refine .seq ?_
  refine .region ?_
  refine .q (op_move rfl) trivial rfl ?_
  refine .a (op_call (U := [(500, some ⟨.agg [.str ((textD i 4096).1).r, .err 225 (((textD i 4096).1).e) (offE eo (((textD i 4096).1).e))], 96, true⟩)]) [(500, 500)] [] (itext_ev i 4096 eo) Tryd.func52 (by kernel_rfl) rfl rfl rfl (⟨⟨_, rfl, rfl, rfl⟩, ⟨_, rfl, rfl, rfl⟩, trivial⟩) (⟨⟨_, _, rfl, rfl, rfl, rfl, id, rfl⟩, ⟨_, _, rfl, rfl, rfl, rfl, (fun h => by cases h), rfl⟩, ⟨_, _, rfl, rfl, rfl, rfl, (fun h => by cases h), rfl⟩, trivial⟩) (⟨⟨500, _, rfl, rfl, rfl, rfl, .inr ⟨rfl, _, rfl, rfl⟩⟩, trivial⟩) (⟨(fun _ => ⟨500, _, rfl, rfl⟩), (fun h => by cases h), (fun h => by cases h), trivial⟩) rfl) trivial rfl ?_
  refine .q (op_assign rfl) trivial rfl ?_
  refine .nil ?_
  show Ev _ _ _ _ _
  refine .seq ?_
  refine .seq ?_
  refine .region ?_
  refine .q (op_move rfl) trivial rfl ?_
  refine .q (op_eqS rfl rfl rfl) trivial rfl ?_
  refine .nil ?_
  show Ev _ _ _ _ _
  refine .cond_false rfl (beq_eq_false_iff_ne.2 h0) ?_
  refine .skip ?_
  show Ev _ _ _ _ _
  refine .seq ?_
  refine .region ?_
  refine .q (op_move rfl) trivial rfl ?_
  refine .a (op_call (U := [(1008, some ⟨.aggS (splitC (textD i 4096).2), 9, true⟩)]) [] [(1008, 1000)] (split_ev (textD i 4096).2 (by omega)) Tryd.func107 (by kernel_rfl) rfl rfl rfl (⟨⟨_, rfl, rfl, rfl⟩, ⟨_, rfl, rfl, rfl⟩, trivial⟩) (trivial) (⟨⟨1000, _, rfl, rfl, rfl, rfl, .inl rfl⟩, trivial⟩) (trivial) rfl) trivial rfl ?_
  refine .q (op_assign rfl) trivial rfl ?_
  refine .nil ?_
  show Ev _ _ _ _ _
  refine .seq ?_
  refine .seq ?_
  refine .region ?_
  refine .q (op_move rfl) trivial rfl ?_
  refine .q (op_len_sl Tryd.underlying104 rfl) trivial rfl ?_
  refine .q (op_move rfl) trivial rfl ?_
  refine .nil ?_
  show Ev _ _ _ _ _
  refine .block ?_
  refine Ev.loop (ι := { j : Nat // j ≤ (splitC (textD i 4096).2).length }) (fun q => ⟨[(0, .ptr 500 0), (4, .sl 1008 0 (splitC (textD i 4096).2).length 1), (13, .sl 1008 0 (splitC (textD i 4096).2).length 1), (14, .i64 ((splitC (textD i 4096).2).length : Int)), (15, .i64 (q.1 : Int))], [(500, some ⟨.agg [.str ((textD i 4096).1).r, .err 225 (((textD i 4096).1).e) (offE eo (((textD i 4096).1).e))], 96, true⟩), (1008, some ⟨.aggS (splitC (textD i 4096).2), 9, true⟩), (0, some ⟨.agg [.err 225 (3) (offE eo (3))], errT, false⟩)], 1016⟩) (fun q => (splitC (textD i 4096).2).length - q.1) ⟨0, Nat.zero_le _⟩ (StLe.mk [(1008, 1008)] rfl rfl ⟨⟨_, rfl, by first | rfl | (simp only [AV.ren]; congr 1; omega), rfl⟩, ⟨_, rfl, by first | rfl | (simp only [AV.ren]; congr 1; omega), rfl⟩, ⟨_, rfl, by first | rfl | (simp only [AV.ren]; congr 1; omega), rfl⟩, ⟨_, rfl, by first | rfl | (simp only [AV.ren]; congr 1; omega), rfl⟩, ⟨_, rfl, by first | rfl | (simp only [AV.ren]; congr 1; omega), rfl⟩, trivial⟩ ⟨⟨_, _, rfl, rfl, rfl, rfl, id, rfl⟩, ⟨_, _, rfl, rfl, rfl, rfl, id, rfl⟩, ⟨_, _, rfl, rfl, rfl, rfl, id, rfl⟩, trivial⟩) ?_
  rintro ⟨j, hj⟩
  try dsimp only
  refine .seq ?_
  refine .region ?_
  refine .q (op_cmpI rfl rfl rfl) trivial rfl ?_
  refine .nil ?_
  show Ev _ _ _ _ _
  refine .seq ?_
  refine .cond rfl (fun hc16 => ?_) (fun hc16 => ?_)
  · first | replace hc16 := of_decide_eq_true hc16 | replace hc16 := of_decide_eq_false hc16 | replace hc16 := eq_of_beq hc16 | replace hc16 := ne_of_beq_false hc16 | simp only [bne_iff_ne, ne_eq] at hc16 | simp only [bne_eq_false_iff_eq] at hc16
    refine .skip ?_
    show Ev _ _ _ _ _
    refine .seq ?_
    refine .block ?_
    refine .seq ?_
    refine .region ?_
    refine .q (ap_idx0 Tryd.underlying104 inf9.sz rfl rfl rfl (by omega)) trivial rfl ?_
    refine .q (op_load Tryd.underlying9 rfl rfl rfl rfl (by show j < (splitC (textD i 4096).2).length; omega)) trivial rfl ?_
    refine .q (op_assign rfl) trivial rfl ?_
    refine .nil ?_
    show Ev _ _ _ _ _
    refine .seq ?_
    refine .region ?_
    refine .q (op_move rfl) trivial rfl ?_
    refine .q (op_call (U := []) [] [] (wname_ev ((splitC (textD i 4096).2).getD j []) (by have := splitC_get (textD i 4096).2 j; omega)) Tryd.func108 (by kernel_rfl) rfl rfl rfl (⟨⟨_, rfl, rfl, rfl⟩, trivial⟩) (trivial) (trivial) (trivial) rfl) trivial rfl ?_
    refine .q (op_notB rfl) trivial rfl ?_
    refine .nil ?_
    show Ev _ _ _ _ _
    refine .cond_false rfl (by rw [all_get h (show j < _ by omega)]; rfl) ?_
    refine .skip ?_
    show Ev _ _ _ _ _
    refine .region ?_
    refine .q (op_addI rfl rfl ⟨by first | omega | (simp only [AV.len]; omega) | (simp only [AV.len, List.length_set]; omega) | assumption | (simp [AV.len]; done), by first | omega | (simp only [AV.len]; omega) | (simp only [AV.len, List.length_set]; omega) | assumption | (simp [AV.len]; done)⟩) trivial rfl ?_
    refine .q (op_move rfl) trivial rfl ?_
    refine .nil ?_
    exact ⟨⟨j + 1, by omega⟩, by (try dsimp only); omega, StLe.mk [(1008, 1008)] rfl rfl ⟨⟨_, rfl, by first | rfl | (simp only [AV.ren]; congr 1; omega), rfl⟩, ⟨_, rfl, by first | rfl | (simp only [AV.ren]; congr 1; omega), rfl⟩, ⟨_, rfl, by first | rfl | (simp only [AV.ren]; congr 1; omega), rfl⟩, ⟨_, rfl, by first | rfl | (simp only [AV.ren]; congr 1; omega), rfl⟩, ⟨_, rfl, by first | rfl | (simp only [AV.ren]; congr 1; omega), rfl⟩, trivial⟩ ⟨⟨_, _, rfl, rfl, rfl, rfl, id, rfl⟩, ⟨_, _, rfl, rfl, rfl, rfl, id, rfl⟩, ⟨_, _, rfl, rfl, rfl, rfl, id, rfl⟩, trivial⟩⟩
  · first | replace hc16 := of_decide_eq_true hc16 | replace hc16 := of_decide_eq_false hc16 | replace hc16 := eq_of_beq hc16 | replace hc16 := ne_of_beq_false hc16 | simp only [bne_iff_ne, ne_eq] at hc16 | simp only [bne_eq_false_iff_eq] at hc16
    refine .exit ?_
    show Ev _ _ _ _ _
    refine .seq ?_
    refine .region ?_
    refine .q (op_move rfl) trivial rfl ?_
    refine .q (op_assign rfl) trivial rfl ?_
    refine .nil ?_
    show Ev _ _ _ _ _
    refine .ret ?_
    show RetOk _ _ _ _ _ _ _
    exact ret1v rfl (.inl rfl) rfl rfl ⟨rfl, rfl, trivial⟩
set_option maxRecDepth 100000 in
theorem names_bad (i : DI) (hr : i.r.length ≤ 90000000) (h0 : ¬ (textD i 4096).2 = []) (b : Nat) (hb : b < (splitC (textD i 4096).2).length) (hbad : nameOk ((splitC (textD i 4096).2).getD b []) = false) (eo : Nat → Nat × Nat) : Meets Tryd.prog 63 [.ptr 500 0] [(500, some ⟨.agg [.str (i).r, .err 225 ((i).e) (offE eo ((i).e))], 96, true⟩), (1, some ⟨.agg [.err 225 (2) (offE eo (2))], errT, false⟩), (4, some ⟨.agg [.err 225 (4) (offE eo (4))], errT, false⟩), (0, some ⟨.agg [.err 225 (3) (offE eo (3))], errT, false⟩)] .nilsl [(500, some ⟨.agg [.str (failD (textD i 4096).1 3).r, .err 225 ((failD (textD i 4096).1 3).e) (offE eo ((failD (textD i 4096).1 3).e))], 96, true⟩)] := by
  have hl := (textD_len_le i 4096).1
  have hn : (splitC (textD i 4096).2).length ≤ 90000001 := by
    rw [splitC_len]; have := List.count_le_length (a := (44 : UInt8)) (l := (textD i 4096).2); omega
  refine meets_of_ev (nt := 27) Tryd.func63 rfl rfl (Nat.le_of_ble_eq_true rfl) ?_
  refine .seq ?_
  refine .region ?_
  refine .q (op_assign rfl) trivial rfl ?_
  refine .nil ?_
  show Ev _ _ _ _ _
  refine .seq ?_
  refine .region ?_
  refine .q (op_move rfl) trivial rfl ?_
  refine .a (op_call (U := [(500, some ⟨.agg [.str ((textD i 4096).1).r, .err 225 (((textD i 4096).1).e) (offE eo (((textD i 4096).1).e))], 96, true⟩)]) [(500, 500)] [] (itext_ev i 4096 eo) Tryd.func52 (by kernel_rfl) rfl rfl rfl (⟨⟨_, rfl, rfl, rfl⟩, ⟨_, rfl, rfl, rfl⟩, trivial⟩) (⟨⟨_, _, rfl, rfl, rfl, rfl, id, rfl⟩, ⟨_, _, rfl, rfl, rfl, rfl, (fun h => by cases h), rfl⟩, ⟨_, _, rfl, rfl, rfl, rfl, (fun h => by cases h), rfl⟩, trivial⟩) (⟨⟨500, _, rfl, rfl, rfl, rfl, .inr ⟨rfl, _, rfl, rfl⟩⟩, trivial⟩) (⟨(fun _ => ⟨500, _, rfl, rfl⟩), (fun h => by cases h), (fun h => by cases h), trivial⟩) rfl) trivial rfl ?_
  refine .q (op_assign rfl) trivial rfl ?_
  refine .nil ?_
  show Ev _ _ _ _ _
  refine .seq ?_
  refine .seq ?_
  refine .region ?_
  refine .q (op_move rfl) trivial rfl ?_
  refine .q (op_eqS rfl rfl rfl) trivial rfl ?_
  refine .nil ?_
  show Ev _ _ _ _ _
  refine .cond_false rfl (beq_eq_false_iff_ne.2 h0) ?_
  refine .skip ?_
  show Ev _ _ _ _ _
  refine .seq ?_
  refine .region ?_
  refine .q (op_move rfl) trivial rfl ?_
  refine .a (op_call (U := [(1008, some ⟨.aggS (splitC (textD i 4096).2), 9, true⟩)]) [] [(1008, 1000)] (split_ev (textD i 4096).2 (by omega)) Tryd.func107 (by kernel_rfl) rfl rfl rfl (⟨⟨_, rfl, rfl, rfl⟩, ⟨_, rfl, rfl, rfl⟩, trivial⟩) (trivial) (⟨⟨1000, _, rfl, rfl, rfl, rfl, .inl rfl⟩, trivial⟩) (trivial) rfl) trivial rfl ?_
  refine .q (op_assign rfl) trivial rfl ?_
  refine .nil ?_
  show Ev _ _ _ _ _
  refine .seq ?_
  refine .seq ?_
  refine .region ?_
  refine .q (op_move rfl) trivial rfl ?_
  refine .q (op_len_sl Tryd.underlying104 rfl) trivial rfl ?_
  refine .q (op_move rfl) trivial rfl ?_
  refine .nil ?_
  show Ev _ _ _ _ _
  refine .block ?_
  refine Ev.loop (ι := { j : Nat // j ≤ b }) (fun q => ⟨[(0, .ptr 500 0), (4, .sl 1008 0 (splitC (textD i 4096).2).length 1), (13, .sl 1008 0 (splitC (textD i 4096).2).length 1), (14, .i64 ((splitC (textD i 4096).2).length : Int)), (15, .i64 (q.1 : Int))], [(500, some ⟨.agg [.str ((textD i 4096).1).r, .err 225 (((textD i 4096).1).e) (offE eo (((textD i 4096).1).e))], 96, true⟩), (1008, some ⟨.aggS (splitC (textD i 4096).2), 9, true⟩), (0, some ⟨.agg [.err 225 (3) (offE eo (3))], errT, false⟩)], 1016⟩) (fun q => b - q.1) ⟨0, Nat.zero_le _⟩ (StLe.mk [(1008, 1008)] rfl rfl ⟨⟨_, rfl, by first | rfl | (simp only [AV.ren]; congr 1; omega), rfl⟩, ⟨_, rfl, by first | rfl | (simp only [AV.ren]; congr 1; omega), rfl⟩, ⟨_, rfl, by first | rfl | (simp only [AV.ren]; congr 1; omega), rfl⟩, ⟨_, rfl, by first | rfl | (simp only [AV.ren]; congr 1; omega), rfl⟩, ⟨_, rfl, by first | rfl | (simp only [AV.ren]; congr 1; omega), rfl⟩, trivial⟩ ⟨⟨_, _, rfl, rfl, rfl, rfl, id, rfl⟩, ⟨_, _, rfl, rfl, rfl, rfl, id, rfl⟩, ⟨_, _, rfl, rfl, rfl, rfl, id, rfl⟩, trivial⟩) ?_
  rintro ⟨j, hj⟩
  try dsimp only
  refine .seq ?_
  refine .region ?_
  refine .q (op_cmpI rfl rfl rfl) trivial rfl ?_
  refine .nil ?_
  show Ev _ _ _ _ _
  refine .seq ?_
  refine .cond_true rfl (decide_eq_true (by omega)) ?_
  refine .skip ?_
  show Ev _ _ _ _ _
  refine .seq ?_
  refine .block ?_
  refine .seq ?_
  refine .region ?_
  refine .q (ap_idx0 Tryd.underlying104 inf9.sz rfl rfl rfl (by omega)) trivial rfl ?_
  refine .q (op_load Tryd.underlying9 rfl rfl rfl rfl (by show j < (splitC (textD i 4096).2).length; omega)) trivial rfl ?_
  refine .q (op_assign rfl) trivial rfl ?_
  refine .nil ?_
  show Ev _ _ _ _ _
  refine .seq ?_
  refine .region ?_
  refine .q (op_move rfl) trivial rfl ?_
  refine .q (op_call (U := []) [] [] (wname_ev ((splitC (textD i 4096).2).getD j []) (by have := splitC_get (textD i 4096).2 j; omega)) Tryd.func108 (by kernel_rfl) rfl rfl rfl (⟨⟨_, rfl, rfl, rfl⟩, trivial⟩) (trivial) (trivial) (trivial) rfl) trivial rfl ?_
  refine .q (op_notB rfl) trivial rfl ?_
  refine .nil ?_
  show Ev _ _ _ _ _
  refine .cond rfl (fun hc21 => ?_) (fun hc21 => ?_)
  · skip
    refine .seq ?_
    refine .region ?_
    refine .q (op_move rfl) trivial rfl ?_
    refine .q (op_load Tryd.underlying26 rfl rfl rfl rfl (by first | omega | (simp only [AV.len]; omega) | (simp only [AV.len]; omega) | assumption | (simp [AV.len]; done))) trivial rfl ?_
    refine .a (op_call (U := [(500, some ⟨.agg [.str (failD (textD i 4096).1 3).r, .err 225 ((failD (textD i 4096).1 3).e) (offE eo ((failD (textD i 4096).1 3).e))], 96, true⟩)]) [(500, 500)] [] (fail_ev (textD i 4096).1 3 eo) Tryd.func66 (by kernel_rfl) rfl rfl rfl (⟨⟨_, rfl, rfl, rfl⟩, ⟨_, rfl, rfl, rfl⟩, trivial⟩) (⟨⟨_, _, rfl, rfl, rfl, rfl, id, rfl⟩, trivial⟩) (⟨⟨500, _, rfl, rfl, rfl, rfl, .inr ⟨rfl, _, rfl, rfl⟩⟩, trivial⟩) (⟨(fun _ => ⟨500, _, rfl, rfl⟩), trivial⟩) rfl) trivial rfl ?_
    refine .nil ?_
    show Ev _ _ _ _ _
    refine .seq ?_
    refine .region ?_
    refine .q (op_assign rfl) trivial rfl ?_
    refine .nil ?_
    show Ev _ _ _ _ _
    refine .ret ?_
    show RetOk _ _ _ _ _ _ _
    exact ret1v rfl (.inl rfl) rfl rfl ⟨rfl, trivial⟩
  · skip
    refine .skip ?_
    show Ev _ _ _ _ _
    refine .region ?_
    refine .q (op_addI rfl rfl ⟨by first | omega | (simp only [AV.len]; omega) | (simp only [AV.len, List.length_set]; omega) | assumption | (simp [AV.len]; done), by first | omega | (simp only [AV.len]; omega) | (simp only [AV.len, List.length_set]; omega) | assumption | (simp [AV.len]; done)⟩) trivial rfl ?_
    refine .q (op_move rfl) trivial rfl ?_
    refine .nil ?_
    exact ⟨⟨j + 1, (by have : j ≠ b := fun e => (by subst e; rw [hbad] at hc21; cases hc21); omega)⟩, by (try dsimp only); first | omega | (have : j ≠ b := fun e => (by subst e; rw [hbad] at hc21; cases hc21); omega), StLe.mk [(1008, 1008)] rfl rfl ⟨⟨_, rfl, by first | rfl | (simp only [AV.ren]; congr 1; omega), rfl⟩, ⟨_, rfl, by first | rfl | (simp only [AV.ren]; congr 1; omega), rfl⟩, ⟨_, rfl, by first | rfl | (simp only [AV.ren]; congr 1; omega), rfl⟩, ⟨_, rfl, by first | rfl | (simp only [AV.ren]; congr 1; omega), rfl⟩, ⟨_, rfl, by first | rfl | (simp only [AV.ren]; congr 1; omega), rfl⟩, trivial⟩ ⟨⟨_, _, rfl, rfl, rfl, rfl, id, rfl⟩, ⟨_, _, rfl, rfl, rfl, rfl, id, rfl⟩, ⟨_, _, rfl, rfl, rfl, rfl, id, rfl⟩, trivial⟩⟩
end Go.Proofs.YteefpaiefphdpaaDoor
namespace Go.Proofs.YteefpaiefphdpaaDoor
open Go.RowKit
/-- So many bytes are read: the names that are whole, and the beginning of the next one. -/
structure RnI (s : List UInt8) where
  k : Nat
  d : List (List UInt8)
  w : List UInt8
  hk : k ≤ s.length + 1
  h1 : k ≤ s.length → splitC s = d ++ joinW w (splitC (s.drop k))
  h2 : k = s.length + 1 → d = splitC s
  hw : w.length ≤ k
theorem RnI.len {s : List UInt8} (q : RnI s) (h : q.k ≤ s.length) : q.d.length < (splitC s).length := by
  rw [q.h1 h, List.length_append]
  cases splitC (s.drop q.k) with
  | nil => simp [joinW]
  | cons x l => simp [joinW]
theorem RnI.at {s : List UInt8} (q : RnI s) (h : q.k ≤ s.length) (he : q.k = s.length ∨ s.getD q.k 0 = 44) : (splitC s).getD q.d.length [] = q.w ∧ ∃ l, splitC s = q.d ++ q.w :: l ∧ (q.k < s.length → l = splitC (s.drop (q.k + 1))) ∧ (q.k = s.length → l = []) := by
  have hj : ∃ l, joinW q.w (splitC (s.drop q.k)) = q.w :: l ∧ (q.k < s.length → l = splitC (s.drop (q.k + 1))) ∧ (q.k = s.length → l = []) := by
    rcases Nat.lt_or_ge q.k s.length with hl | hl
    · have h44 : s.getD q.k 0 = 44 := he.resolve_left (by omega)
      rw [drop_cons hl, h44, joinW_comma]
      exact ⟨_, rfl, fun _ => rfl, fun e => absurd e (by omega)⟩
    · rw [List.drop_of_length_le hl]
      exact ⟨[], by simp [splitC, joinW], fun e => absurd e (by omega), fun _ => rfl⟩
  obtain ⟨l, hj, hl1, hl2⟩ := hj
  have h0 := q.h1 h
  rw [hj] at h0
  exact ⟨by rw [h0]; simp [List.getD_eq_getElem?_getD], l, h0, hl1, hl2⟩
def RnI.more {s : List UInt8} (q : RnI s) (h : q.k < s.length) (hc : ¬ s.getD q.k 0 = 44) : RnI s :=
  ⟨q.k + 1, q.d, q.w ++ [s.getD q.k 0], by omega, fun _ => by rw [q.h1 (by omega), drop_cons h, joinW_step hc], fun e => absurd e (by omega), by have := q.hw; simp; omega⟩
def RnI.name {s : List UInt8} (q : RnI s) (h : q.k ≤ s.length) (he : q.k = s.length ∨ s.getD q.k 0 = 44) : RnI s :=
  ⟨q.k + 1, q.d ++ [q.w], [], by omega, fun hk => by
    obtain ⟨_, l, h1, h2, _⟩ := q.at h he
    rw [h1, h2 (by omega), joinW_nil]; simp, fun hk => by
    obtain ⟨_, l, h1, _, h3⟩ := q.at h he
    rw [h1, h3 (by omega)], by simp⟩
set_option maxRecDepth 100000 in
theorem rnames_nil (i : DI) (hi : i.ok) (hr : i.r.length ≤ 90000000) (h0 : (textD i 4096).2 = []) : Meets Tryd.prog 61 [.agg [.str (i).r, .i64 (((i).e : Nat) : Int)]] [] (.tup [.agg [.str ((textD i 4096).1).r, .i64 ((((textD i 4096).1).e : Nat) : Int)], .nilsl]) [] := by
  have hl := (textD_len_le i 4096).1
  have hn : (splitC (textD i 4096).2).length ≤ 90000001 := by
    rw [splitC_len]; have := List.count_le_length (a := (44 : UInt8)) (l := (textD i 4096).2); omega
  refine meets_of_ev (nt := 51) Tryd.func61 rfl rfl (Nat.le_of_ble_eq_true rfl) ?_
  refine .seq ?_
  refine .region ?_
  refine .a (op_boxRow rfl rfl) trivial rfl ?_
  refine .a (op_allocRow zero47 rel_zero47 rfl) trivial rfl ?_
  refine .q (op_assign rfl) trivial rfl ?_
  refine .nil ?_
  show Ev _ _ _ _ _
  refine .seq ?_
  refine .region ?_
  refine .q (op_loadRow Tryd.underlying47 rfl (by kernel_rfl) rfl rfl rfl (rfl)) trivial rfl ?_
  refine .q (op_call (U := []) [] [] (rtext_ev i hi 4096) Tryd.func65 (by kernel_rfl) rfl rfl rfl (⟨⟨_, rfl, rfl, rfl⟩, ⟨_, rfl, rfl, rfl⟩, trivial⟩) (trivial) (trivial) (trivial) rfl) trivial rfl ?_
  refine .q (op_move rfl) trivial rfl ?_
  refine .q (op_extract rfl rfl) trivial rfl ?_
  refine .q (op_extract rfl rfl) trivial rfl ?_
  refine .a (op_allocRow zero47 rel_zero47 rfl) trivial rfl ?_
  refine .w (op_storeRow (by kernel_rfl) rfl rfl rfl rfl rfl (rfl) (rfl)) trivial rfl ?_
  refine .q (op_assign rfl) trivial rfl ?_
  refine .nil ?_
  show Ev _ _ _ _ _
  refine .seq ?_
  refine .seq ?_
  refine .region ?_
  refine .q (op_move rfl) trivial rfl ?_
  refine .q (op_eqS rfl rfl rfl) trivial rfl ?_
  refine .nil ?_
  show Ev _ _ _ _ _
  refine .cond_true rfl (by rw [h0]; rfl) ?_
  refine .seq ?_
  refine .region ?_
  refine .q (op_loadRow Tryd.underlying47 rfl (by kernel_rfl) rfl rfl rfl (rfl)) trivial rfl ?_
  refine .w (op_storeRow (by kernel_rfl) rfl rfl rfl rfl rfl (rfl) (rfl)) trivial rfl ?_
  refine .q (op_assign rfl) trivial rfl ?_
  refine .nil ?_
  show Ev _ _ _ _ _
  refine .ret ?_
  show RetOk _ _ _ _ _ _ _
  exact retc2 rfl (.inl rfl) ⟨_, _, _, _, rfl, rfl, rfl, rfl, rfl, Tryd.underlying47, rfl, (by kernel_rfl)⟩ rfl trivial
set_option maxRecDepth 100000 in
theorem rnames_ok (i : DI) (hi : i.ok) (hr : i.r.length ≤ 90000000) (h0 : ¬ (textD i 4096).2 = []) (h : (splitC (textD i 4096).2).all nameOk = true) : Meets Tryd.prog 61 [.agg [.str (i).r, .i64 (((i).e : Nat) : Int)]] [] (.tup [.agg [.str ((textD i 4096).1).r, .i64 ((((textD i 4096).1).e : Nat) : Int)], .sl 1024 0 (splitC (textD i 4096).2).length 1]) [(1024, some ⟨.aggS (splitC (textD i 4096).2), 9, true⟩)] := by
  have hl := (textD_len_le i 4096).1
  have hn : (splitC (textD i 4096).2).length ≤ 90000001 := by
    rw [splitC_len]; have := List.count_le_length (a := (44 : UInt8)) (l := (textD i 4096).2); omega
  refine meets_of_ev (nt := 51) Tryd.func61 rfl rfl (Nat.le_of_ble_eq_true rfl) ?_
  refine .seq ?_
  refine .region ?_
  refine .a (op_boxRow rfl rfl) trivial rfl ?_
  refine .a (op_allocRow zero47 rel_zero47 rfl) trivial rfl ?_
  refine .q (op_assign rfl) trivial rfl ?_
  refine .nil ?_
  show Ev _ _ _ _ _
  refine .seq ?_
  refine .region ?_
  refine .q (op_loadRow Tryd.underlying47 rfl (by kernel_rfl) rfl rfl rfl (rfl)) trivial rfl ?_
  refine .q (op_call (U := []) [] [] (rtext_ev i hi 4096) Tryd.func65 (by kernel_rfl) rfl rfl rfl (⟨⟨_, rfl, rfl, rfl⟩, ⟨_, rfl, rfl, rfl⟩, trivial⟩) (trivial) (trivial) (trivial) rfl) trivial rfl ?_
  refine .q (op_move rfl) trivial rfl ?_
  refine .q (op_extract rfl rfl) trivial rfl ?_
  refine .q (op_extract rfl rfl) trivial rfl ?_
  refine .a (op_allocRow zero47 rel_zero47 rfl) trivial rfl ?_
  refine .w (op_storeRow (by kernel_rfl) rfl rfl rfl rfl rfl (rfl) (rfl)) trivial rfl ?_
  refine .q (op_assign rfl) trivial rfl ?_
  refine .nil ?_
  show Ev _ _ _ _ _
  refine .seq ?_
  refine .seq ?_
  refine .region ?_
  refine .q (op_move rfl) trivial rfl ?_
  refine .q (op_eqS rfl rfl rfl) trivial rfl ?_
  refine .nil ?_
  show Ev _ _ _ _ _
  refine .cond_false rfl (beq_eq_false_iff_ne.2 h0) ?_
  refine .skip ?_
  show Ev _ _ _ _ _
  refine .seq ?_
  refine .region ?_
  refine .a (ap_build0 (z := 1) (c := .aggS []) Tryd.underlying104 inf9 rfl) trivial rfl ?_
  refine .q (op_assign rfl) trivial rfl ?_
  refine .nil ?_
  show Ev _ _ _ _ _
  refine .seq ?_
  refine .region ?_
  refine .q (op_assign rfl) trivial rfl ?_
  refine .nil ?_
  show Ev _ _ _ _ _
  refine .seq ?_
  refine .seq ?_
  refine .region ?_
  refine .q (op_assign rfl) trivial rfl ?_
  refine .nil ?_
  show Ev _ _ _ _ _
  refine .block ?_
  refine Ev.loop (ι := RnI (textD i 4096).2) (fun q => ⟨[(2, .ptr 1008 0), (4, .ptr 1016 0), (5, .str (textD i 4096).2), (6, .sl 1024 0 q.d.length 1), (7, .str q.w), (8, .i64 ((q.k : Nat) : Int))], [(1008, some ⟨.agg [.str [], .i64 0], 47, true⟩), (1016, some ⟨.agg [.str ((textD i 4096).1).r, .i64 ((((textD i 4096).1).e : Nat) : Int)], 47, true⟩), (1024, some ⟨.aggS q.d, 9, true⟩)], 1032⟩) (fun q => (textD i 4096).2.length + 1 - q.k) ⟨0, [], [], by omega, fun _ => by rw [List.drop_zero, joinW_nil]; rfl, fun e => absurd e (by omega), by simp⟩ (StLe.mk [(1008, 1008), (1016, 1016), (1024, 1024)] rfl rfl ⟨⟨_, rfl, by rfl, rfl⟩, ⟨_, rfl, by rfl, rfl⟩, ⟨_, rfl, by rfl, rfl⟩, ⟨_, rfl, by rfl, rfl⟩, ⟨_, rfl, by rfl, rfl⟩, ⟨_, rfl, by rfl, rfl⟩, trivial⟩ ⟨⟨_, _, rfl, rfl, rfl, rfl, id, rfl⟩, ⟨_, _, rfl, rfl, rfl, rfl, id, rfl⟩, ⟨_, _, rfl, rfl, rfl, rfl, id, rfl⟩, trivial⟩) ?_
  rintro q
  try dsimp only
  refine .seq ?_
  refine .seq ?_
  refine .region ?_
  refine .q (op_move rfl) trivial rfl ?_
  refine .q (op_move rfl) trivial rfl ?_
  refine .q (op_len_str Tryd.underlying9 rfl) trivial rfl ?_
  refine .q (op_cmpI rfl rfl rfl) trivial rfl ?_
  refine .nil ?_
  show Ev _ _ _ _ _
  refine .cond rfl (fun hc21 => ?_) (fun hc21 => ?_)
  · first | replace hc21 := of_decide_eq_true hc21 | replace hc21 := of_decide_eq_false hc21 | replace hc21 := eq_of_beq hc21 | replace hc21 := ne_of_beq_false hc21 | simp only [bne_iff_ne, ne_eq] at hc21 | simp only [bne_eq_false_iff_eq] at hc21
    refine .skip ?_
    show Ev _ _ _ _ _
    refine .seq ?_
    refine .block ?_
    refine .seq ?_
    refine .seq ?_
    refine .region ?_
    have hk := q.hk
    have hqw := q.hw
    have hdn : q.k ≤ (textD i 4096).2.length → q.d.length < (splitC (textD i 4096).2).length := q.len
    refine .q (op_move rfl) trivial rfl ?_
    refine .q (op_move rfl) trivial rfl ?_
    refine .q (op_len_str Tryd.underlying9 rfl) trivial rfl ?_
    refine .q (op_cmpI rfl rfl rfl) trivial rfl ?_
    refine .q (op_move rfl) trivial rfl ?_
    refine .split (fun hg28 => ?_) (fun hg28 => ?_)
    · first | replace hg28 := of_decide_eq_true hg28 | replace hg28 := of_decide_eq_false hg28 | replace hg28 := eq_of_beq hg28 | replace hg28 := ne_of_beq_false hg28 | simp only [bne_iff_ne, ne_eq] at hg28 | simp only [bne_eq_false_iff_eq] at hg28
      refine .q (op_move rfl) ⟨_, rfl, rfl⟩ rfl ?_
      refine .q (op_move rfl) ⟨_, rfl, rfl⟩ rfl ?_
      refine .q (op_index_str Tryd.underlying9 rfl rfl rfl (by omega)) ⟨_, rfl, rfl⟩ rfl ?_
      refine .q (op_bin8 rfl rfl rfl) ⟨_, rfl, rfl⟩ rfl ?_
      refine .q (op_pick_true rfl rfl rfl) trivial rfl ?_
      refine .nil ?_
      show Ev _ _ _ _ _
      refine .cond rfl (fun hc33 => ?_) (fun hc33 => ?_)
      · first | replace hc33 := of_decide_eq_true hc33 | replace hc33 := of_decide_eq_false hc33 | replace hc33 := eq_of_beq hc33 | replace hc33 := ne_of_beq_false hc33 | simp only [bne_iff_ne, ne_eq] at hc33 | simp only [bne_eq_false_iff_eq] at hc33
        refine .seq ?_
        refine .region ?_
        refine .q (op_move rfl) trivial rfl ?_
        refine .q (op_move rfl) trivial rfl ?_
        refine .q (op_move rfl) trivial rfl ?_
        refine .q (op_move rfl) trivial rfl ?_
        refine .q (op_addI rfl rfl ⟨by omega, by omega⟩) trivial rfl ?_
        refine .q (op_slice_str Tryd.underlying9 rfl (bnd_some rfl rfl) (bnd_some rfl (show ((q.k : Nat) : Int) + 1 = ((q.k + 1 : Nat) : Int) from rfl)) (by omega) (by omega)) trivial rfl ?_
        refine .as (.str [(textD i 4096).2.getD q.k 0]) (congrArg AV.str (slice_one (by omega))) ?_
        refine .q (op_addS rfl rfl (by simp only [List.length_cons, List.length_nil]; omega)) trivial rfl ?_
        refine .q (op_assign rfl) trivial rfl ?_
        refine .nil ?_
        show Ev _ _ _ _ _
        refine .exit ?_
        show Ev _ _ _ _ _
        refine .region ?_
        refine .q (op_move rfl) trivial rfl ?_
        refine .q (op_addI rfl rfl ⟨by omega, by omega⟩) trivial rfl ?_
        refine .q (op_assign rfl) trivial rfl ?_
        refine .nil ?_
        exact ⟨q.more (by omega) hc33, by (try dsimp only); (show (textD i 4096).2.length + 1 - (q.k + 1) < (textD i 4096).2.length + 1 - q.k; omega), StLe.mk [(1008, 1008), (1016, 1016), (1024, 1024)] rfl rfl ⟨⟨_, rfl, by rfl, rfl⟩, ⟨_, rfl, by rfl, rfl⟩, ⟨_, rfl, by rfl, rfl⟩, ⟨_, rfl, by rfl, rfl⟩, ⟨_, rfl, by rfl, rfl⟩, ⟨_, rfl, by rfl, rfl⟩, trivial⟩ ⟨⟨_, _, rfl, rfl, rfl, rfl, id, rfl⟩, ⟨_, _, rfl, rfl, rfl, rfl, id, rfl⟩, ⟨_, _, rfl, rfl, rfl, rfl, id, rfl⟩, trivial⟩⟩
      · first | replace hc33 := of_decide_eq_true hc33 | replace hc33 := of_decide_eq_false hc33 | replace hc33 := eq_of_beq hc33 | replace hc33 := ne_of_beq_false hc33 | simp only [bne_iff_ne, ne_eq] at hc33 | simp only [bne_eq_false_iff_eq] at hc33
        refine .skip ?_
        show Ev _ _ _ _ _
        refine .seq ?_
        refine .seq ?_
        refine .region ?_
        refine .q (op_move rfl) trivial rfl ?_
        refine .q (op_call (U := []) [] [] (rname_ev q.w (by have := q.hw; have := q.hk; omega)) Tryd.func106 (by kernel_rfl) rfl rfl rfl (⟨⟨_, rfl, rfl, rfl⟩, trivial⟩) (trivial) (trivial) (trivial) rfl) trivial rfl ?_
        refine .q (op_notB rfl) trivial rfl ?_
        refine .nil ?_
        show Ev _ _ _ _ _
        refine .cond_false rfl (by rw [← (q.at (by omega) (by first | exact .inr (bne_eq_false_iff_eq.1 hc33) | exact .inl (by omega))).1, all_get h (hdn (by omega))]; rfl) ?_
        refine .skip ?_
        show Ev _ _ _ _ _
        refine .seq ?_
        refine .region ?_
        refine .q (op_move rfl) trivial rfl ?_
        refine .q (op_move rfl) trivial rfl ?_
        refine .a (ap_build (us := [_]) (c := .aggS [_]) Tryd.underlying104 inf9 rfl (by decide) (by decide) ⟨rfl, rfl, rfl, trivial⟩ rfl) trivial rfl ?_
        refine .a (ap_cat Tryd.underlying104 inf9 rfl rfl rfl rfl (by first | rfl | omega | (simp [AV.len]; done) | (have := hdn (by omega); omega)) rfl rfl (by first | rfl | omega | (simp [AV.len]; done) | (have := hdn (by omega); omega)) rfl (by first | rfl | omega | (simp [AV.len]; done) | (have := hdn (by omega); omega))) trivial rfl ?_
        refine .q (op_assign rfl) trivial rfl ?_
        refine .nil ?_
        show Ev _ _ _ _ _
        refine .region ?_
        refine .q (op_assign rfl) trivial rfl ?_
        refine .nil ?_
        show Ev _ _ _ _ _
        refine .region ?_
        refine .q (op_move rfl) trivial rfl ?_
        refine .q (op_addI rfl rfl ⟨by omega, by omega⟩) trivial rfl ?_
        refine .q (op_assign rfl) trivial rfl ?_
        refine .nil ?_
        exact ⟨q.name (by omega) (by first | exact .inr (bne_eq_false_iff_eq.1 hc33) | exact .inl (by omega)), by (try dsimp only); (show (textD i 4096).2.length + 1 - (q.k + 1) < (textD i 4096).2.length + 1 - q.k; omega), StLe.mk [(1008, 1008), (1016, 1016), (1024, 1040)] rfl rfl ⟨⟨_, rfl, by rfl, rfl⟩, ⟨_, rfl, by rfl, rfl⟩, ⟨_, rfl, by rfl, rfl⟩, ⟨_, rfl, by (show AV.sl _ _ _ _ = AV.sl _ _ _ _; simp [RnI.name]; rfl), rfl⟩, ⟨_, rfl, by rfl, rfl⟩, ⟨_, rfl, by rfl, rfl⟩, trivial⟩ ⟨⟨_, _, rfl, rfl, rfl, rfl, id, rfl⟩, ⟨_, _, rfl, rfl, rfl, rfl, id, rfl⟩, ⟨_, _, rfl, rfl, rfl, rfl, id, rfl⟩, trivial⟩⟩
    · first | replace hg28 := of_decide_eq_true hg28 | replace hg28 := of_decide_eq_false hg28 | replace hg28 := eq_of_beq hg28 | replace hg28 := ne_of_beq_false hg28 | simp only [bne_iff_ne, ne_eq] at hg28 | simp only [bne_eq_false_iff_eq] at hg28
      refine .no ⟨_, rfl, rfl⟩ rfl ?_
      refine .no ⟨_, rfl, rfl⟩ rfl ?_
      refine .no ⟨_, rfl, rfl⟩ rfl ?_
      refine .no ⟨_, rfl, rfl⟩ rfl ?_
      refine .q (op_pick_false rfl rfl rfl) trivial rfl ?_
      refine .nil ?_
      show Ev _ _ _ _ _
      refine .cond_false rfl rfl ?_
      refine .skip ?_
      show Ev _ _ _ _ _
      refine .seq ?_
      refine .seq ?_
      refine .region ?_
      refine .q (op_move rfl) trivial rfl ?_
      refine .q (op_call (U := []) [] [] (rname_ev q.w (by have := q.hw; have := q.hk; omega)) Tryd.func106 (by kernel_rfl) rfl rfl rfl (⟨⟨_, rfl, rfl, rfl⟩, trivial⟩) (trivial) (trivial) (trivial) rfl) trivial rfl ?_
      refine .q (op_notB rfl) trivial rfl ?_
      refine .nil ?_
      show Ev _ _ _ _ _
      refine .cond_false rfl (by rw [← (q.at (by omega) (by first | exact .inr (bne_eq_false_iff_eq.1 hc33) | exact .inl (by omega))).1, all_get h (hdn (by omega))]; rfl) ?_
      refine .skip ?_
      show Ev _ _ _ _ _
      refine .seq ?_
      refine .region ?_
      refine .q (op_move rfl) trivial rfl ?_
      refine .q (op_move rfl) trivial rfl ?_
      refine .a (ap_build (us := [_]) (c := .aggS [_]) Tryd.underlying104 inf9 rfl (by decide) (by decide) ⟨rfl, rfl, rfl, trivial⟩ rfl) trivial rfl ?_
      refine .a (ap_cat Tryd.underlying104 inf9 rfl rfl rfl rfl (by first | rfl | omega | (simp [AV.len]; done) | (have := hdn (by omega); omega)) rfl rfl (by first | rfl | omega | (simp [AV.len]; done) | (have := hdn (by omega); omega)) rfl (by first | rfl | omega | (simp [AV.len]; done) | (have := hdn (by omega); omega))) trivial rfl ?_
      refine .q (op_assign rfl) trivial rfl ?_
      refine .nil ?_
      show Ev _ _ _ _ _
      refine .region ?_
      refine .q (op_assign rfl) trivial rfl ?_
      refine .nil ?_
      show Ev _ _ _ _ _
      refine .region ?_
      refine .q (op_move rfl) trivial rfl ?_
      refine .q (op_addI rfl rfl ⟨by omega, by omega⟩) trivial rfl ?_
      refine .q (op_assign rfl) trivial rfl ?_
      refine .nil ?_
      exact ⟨q.name (by omega) (by first | exact .inr (bne_eq_false_iff_eq.1 hc33) | exact .inl (by omega)), by (try dsimp only); (show (textD i 4096).2.length + 1 - (q.k + 1) < (textD i 4096).2.length + 1 - q.k; omega), StLe.mk [(1008, 1008), (1016, 1016), (1024, 1040)] rfl rfl ⟨⟨_, rfl, by rfl, rfl⟩, ⟨_, rfl, by rfl, rfl⟩, ⟨_, rfl, by rfl, rfl⟩, ⟨_, rfl, by (show AV.sl _ _ _ _ = AV.sl _ _ _ _; simp [RnI.name]; rfl), rfl⟩, ⟨_, rfl, by rfl, rfl⟩, ⟨_, rfl, by rfl, rfl⟩, trivial⟩ ⟨⟨_, _, rfl, rfl, rfl, rfl, id, rfl⟩, ⟨_, _, rfl, rfl, rfl, rfl, id, rfl⟩, ⟨_, _, rfl, rfl, rfl, rfl, id, rfl⟩, trivial⟩⟩
  · first | replace hc21 := of_decide_eq_true hc21 | replace hc21 := of_decide_eq_false hc21 | replace hc21 := eq_of_beq hc21 | replace hc21 := ne_of_beq_false hc21 | simp only [bne_iff_ne, ne_eq] at hc21 | simp only [bne_eq_false_iff_eq] at hc21
    refine .exit ?_
    show Ev _ _ _ _ _
    refine .seq ?_
    refine .region ?_
    refine .q (op_loadRow Tryd.underlying47 rfl (by kernel_rfl) rfl rfl rfl (rfl)) trivial rfl ?_
    refine .q (op_move rfl) trivial rfl ?_
    refine .w (op_storeRow (by kernel_rfl) rfl rfl rfl rfl rfl (rfl) (rfl)) trivial rfl ?_
    refine .q (op_assign rfl) trivial rfl ?_
    refine .nil ?_
    show Ev _ _ _ _ _
    refine .ret ?_
    show RetOk _ _ _ _ _ _ _
    exact retc2 rfl (.inl rfl) ⟨_, _, _, _, rfl, rfl, rfl, rfl, rfl, Tryd.underlying47, rfl, (by kernel_rfl)⟩ (by have e := q.h2 (by have := q.hk; omega); rw [← e]; rfl) ⟨(by have e := q.h2 (by have := q.hk; omega); rw [← e]; rfl), trivial⟩
set_option maxRecDepth 100000 in
theorem rnames_bad (i : DI) (hi : i.ok) (hr : i.r.length ≤ 90000000) (h0 : ¬ (textD i 4096).2 = []) (b : Nat) (hb : b < (splitC (textD i 4096).2).length) (hbad : nameOk ((splitC (textD i 4096).2).getD b []) = false) : Meets Tryd.prog 61 [.agg [.str (i).r, .i64 (((i).e : Nat) : Int)]] [] (.tup [.agg [.str [], .i64 3], .nilsl]) [] := by
  have hl := (textD_len_le i 4096).1
  have hn : (splitC (textD i 4096).2).length ≤ 90000001 := by
    rw [splitC_len]; have := List.count_le_length (a := (44 : UInt8)) (l := (textD i 4096).2); omega
  refine meets_of_ev (nt := 51) Tryd.func61 rfl rfl (Nat.le_of_ble_eq_true rfl) ?_
  refine .seq ?_
  refine .region ?_
  refine .a (op_boxRow rfl rfl) trivial rfl ?_
  refine .a (op_allocRow zero47 rel_zero47 rfl) trivial rfl ?_
  refine .q (op_assign rfl) trivial rfl ?_
  refine .nil ?_
  show Ev _ _ _ _ _
  refine .seq ?_
  refine .region ?_
  refine .q (op_loadRow Tryd.underlying47 rfl (by kernel_rfl) rfl rfl rfl (rfl)) trivial rfl ?_
  refine .q (op_call (U := []) [] [] (rtext_ev i hi 4096) Tryd.func65 (by kernel_rfl) rfl rfl rfl (⟨⟨_, rfl, rfl, rfl⟩, ⟨_, rfl, rfl, rfl⟩, trivial⟩) (trivial) (trivial) (trivial) rfl) trivial rfl ?_
  refine .q (op_move rfl) trivial rfl ?_
  refine .q (op_extract rfl rfl) trivial rfl ?_
  refine .q (op_extract rfl rfl) trivial rfl ?_
  refine .a (op_allocRow zero47 rel_zero47 rfl) trivial rfl ?_
  refine .w (op_storeRow (by kernel_rfl) rfl rfl rfl rfl rfl (rfl) (rfl)) trivial rfl ?_
  refine .q (op_assign rfl) trivial rfl ?_
  refine .nil ?_
  show Ev _ _ _ _ _
  refine .seq ?_
  refine .seq ?_
  refine .region ?_
  refine .q (op_move rfl) trivial rfl ?_
  refine .q (op_eqS rfl rfl rfl) trivial rfl ?_
  refine .nil ?_
  show Ev _ _ _ _ _
  refine .cond_false rfl (beq_eq_false_iff_ne.2 h0) ?_
  refine .skip ?_
  show Ev _ _ _ _ _
  refine .seq ?_
  refine .region ?_
  refine .a (ap_build0 (z := 1) (c := .aggS []) Tryd.underlying104 inf9 rfl) trivial rfl ?_
  refine .q (op_assign rfl) trivial rfl ?_
  refine .nil ?_
  show Ev _ _ _ _ _
  refine .seq ?_
  refine .region ?_
  refine .q (op_assign rfl) trivial rfl ?_
  refine .nil ?_
  show Ev _ _ _ _ _
  refine .seq ?_
  refine .seq ?_
  refine .region ?_
  refine .q (op_assign rfl) trivial rfl ?_
  refine .nil ?_
  show Ev _ _ _ _ _
  refine .block ?_
  refine Ev.loop (ι := { q : RnI (textD i 4096).2 // q.d.length ≤ b }) (fun q => ⟨[(2, .ptr 1008 0), (4, .ptr 1016 0), (5, .str (textD i 4096).2), (6, .sl 1024 0 q.1.d.length 1), (7, .str q.1.w), (8, .i64 ((q.1.k : Nat) : Int))], [(1008, some ⟨.agg [.str [], .i64 0], 47, true⟩), (1016, some ⟨.agg [.str ((textD i 4096).1).r, .i64 ((((textD i 4096).1).e : Nat) : Int)], 47, true⟩), (1024, some ⟨.aggS q.1.d, 9, true⟩)], 1032⟩) (fun q => (textD i 4096).2.length + 1 - q.1.k) ⟨⟨0, [], [], by omega, fun _ => by rw [List.drop_zero, joinW_nil]; rfl, fun e => absurd e (by omega), by simp⟩, Nat.zero_le _⟩ (StLe.mk [(1008, 1008), (1016, 1016), (1024, 1024)] rfl rfl ⟨⟨_, rfl, by rfl, rfl⟩, ⟨_, rfl, by rfl, rfl⟩, ⟨_, rfl, by rfl, rfl⟩, ⟨_, rfl, by rfl, rfl⟩, ⟨_, rfl, by rfl, rfl⟩, ⟨_, rfl, by rfl, rfl⟩, trivial⟩ ⟨⟨_, _, rfl, rfl, rfl, rfl, id, rfl⟩, ⟨_, _, rfl, rfl, rfl, rfl, id, rfl⟩, ⟨_, _, rfl, rfl, rfl, rfl, id, rfl⟩, trivial⟩) ?_
  rintro ⟨q, hqb⟩
  try dsimp only
  refine .seq ?_
  refine .seq ?_
  refine .region ?_
  refine .q (op_move rfl) trivial rfl ?_
  refine .q (op_move rfl) trivial rfl ?_
  refine .q (op_len_str Tryd.underlying9 rfl) trivial rfl ?_
  refine .q (op_cmpI rfl rfl rfl) trivial rfl ?_
  refine .nil ?_
  show Ev _ _ _ _ _
  refine .cond_true rfl (decide_eq_true (by have hk := q.hk; by_cases e : q.k = (textD i 4096).2.length + 1; (have := congrArg List.length (q.h2 e); omega); omega)) ?_
  refine .skip ?_
  show Ev _ _ _ _ _
  refine .seq ?_
  refine .block ?_
  refine .seq ?_
  refine .seq ?_
  refine .region ?_
  have hk := q.hk
  have hqw := q.hw
  have hdn : q.k ≤ (textD i 4096).2.length → q.d.length < (splitC (textD i 4096).2).length := q.len
  have hkl : q.k ≤ (textD i 4096).2.length := by
    by_cases e : q.k = (textD i 4096).2.length + 1
    · have := congrArg List.length (q.h2 e); omega
    · omega
  refine .q (op_move rfl) trivial rfl ?_
  refine .q (op_move rfl) trivial rfl ?_
  refine .q (op_len_str Tryd.underlying9 rfl) trivial rfl ?_
  refine .q (op_cmpI rfl rfl rfl) trivial rfl ?_
  refine .q (op_move rfl) trivial rfl ?_
  refine .split (fun hg28 => ?_) (fun hg28 => ?_)
  · first | replace hg28 := of_decide_eq_true hg28 | replace hg28 := of_decide_eq_false hg28 | replace hg28 := eq_of_beq hg28 | replace hg28 := ne_of_beq_false hg28 | simp only [bne_iff_ne, ne_eq] at hg28 | simp only [bne_eq_false_iff_eq] at hg28
    refine .q (op_move rfl) ⟨_, rfl, rfl⟩ rfl ?_
    refine .q (op_move rfl) ⟨_, rfl, rfl⟩ rfl ?_
    refine .q (op_index_str Tryd.underlying9 rfl rfl rfl (by omega)) ⟨_, rfl, rfl⟩ rfl ?_
    refine .q (op_bin8 rfl rfl rfl) ⟨_, rfl, rfl⟩ rfl ?_
    refine .q (op_pick_true rfl rfl rfl) trivial rfl ?_
    refine .nil ?_
    show Ev _ _ _ _ _
    refine .cond rfl (fun hc33 => ?_) (fun hc33 => ?_)
    · first | replace hc33 := of_decide_eq_true hc33 | replace hc33 := of_decide_eq_false hc33 | replace hc33 := eq_of_beq hc33 | replace hc33 := ne_of_beq_false hc33 | simp only [bne_iff_ne, ne_eq] at hc33 | simp only [bne_eq_false_iff_eq] at hc33
      refine .seq ?_
      refine .region ?_
      refine .q (op_move rfl) trivial rfl ?_
      refine .q (op_move rfl) trivial rfl ?_
      refine .q (op_move rfl) trivial rfl ?_
      refine .q (op_move rfl) trivial rfl ?_
      refine .q (op_addI rfl rfl ⟨by omega, by omega⟩) trivial rfl ?_
      refine .q (op_slice_str Tryd.underlying9 rfl (bnd_some rfl rfl) (bnd_some rfl (show ((q.k : Nat) : Int) + 1 = ((q.k + 1 : Nat) : Int) from rfl)) (by omega) (by omega)) trivial rfl ?_
      refine .as (.str [(textD i 4096).2.getD q.k 0]) (congrArg AV.str (slice_one (by omega))) ?_
      refine .q (op_addS rfl rfl (by simp only [List.length_cons, List.length_nil]; omega)) trivial rfl ?_
      refine .q (op_assign rfl) trivial rfl ?_
      refine .nil ?_
      show Ev _ _ _ _ _
      refine .exit ?_
      show Ev _ _ _ _ _
      refine .region ?_
      refine .q (op_move rfl) trivial rfl ?_
      refine .q (op_addI rfl rfl ⟨by omega, by omega⟩) trivial rfl ?_
      refine .q (op_assign rfl) trivial rfl ?_
      refine .nil ?_
      exact ⟨⟨q.more (by omega) hc33, hqb⟩, by (try dsimp only); (show (textD i 4096).2.length + 1 - (q.k + 1) < (textD i 4096).2.length + 1 - q.k; omega), StLe.mk [(1008, 1008), (1016, 1016), (1024, 1024)] rfl rfl ⟨⟨_, rfl, by rfl, rfl⟩, ⟨_, rfl, by rfl, rfl⟩, ⟨_, rfl, by rfl, rfl⟩, ⟨_, rfl, by rfl, rfl⟩, ⟨_, rfl, by rfl, rfl⟩, ⟨_, rfl, by rfl, rfl⟩, trivial⟩ ⟨⟨_, _, rfl, rfl, rfl, rfl, id, rfl⟩, ⟨_, _, rfl, rfl, rfl, rfl, id, rfl⟩, ⟨_, _, rfl, rfl, rfl, rfl, id, rfl⟩, trivial⟩⟩
    · first | replace hc33 := of_decide_eq_true hc33 | replace hc33 := of_decide_eq_false hc33 | replace hc33 := eq_of_beq hc33 | replace hc33 := ne_of_beq_false hc33 | simp only [bne_iff_ne, ne_eq] at hc33 | simp only [bne_eq_false_iff_eq] at hc33
      refine .skip ?_
      show Ev _ _ _ _ _
      refine .seq ?_
      refine .seq ?_
      refine .region ?_
      refine .q (op_move rfl) trivial rfl ?_
      refine .q (op_call (U := []) [] [] (rname_ev q.w (by have := q.hw; have := q.hk; omega)) Tryd.func106 (by kernel_rfl) rfl rfl rfl (⟨⟨_, rfl, rfl, rfl⟩, trivial⟩) (trivial) (trivial) (trivial) rfl) trivial rfl ?_
      refine .q (op_notB rfl) trivial rfl ?_
      refine .nil ?_
      show Ev _ _ _ _ _
      refine .cond rfl (fun hc43 => ?_) (fun hc43 => ?_)
      · skip
        refine .seq ?_
        refine .region ?_
        refine .q (op_buildS (r := .agg [.str [], .i64 3]) Tryd.underlying47 rfl zero47 rel_zero47 rfl rfl rfl rfl) trivial rfl ?_
        refine .w (op_storeRow (by kernel_rfl) rfl rfl rfl rfl rfl (rfl) (rfl)) trivial rfl ?_
        refine .q (op_assign rfl) trivial rfl ?_
        refine .nil ?_
        show Ev _ _ _ _ _
        refine .ret ?_
        show RetOk _ _ _ _ _ _ _
        exact retc2 rfl (.inl rfl) ⟨_, _, _, _, rfl, rfl, rfl, rfl, rfl, Tryd.underlying47, rfl, (by kernel_rfl)⟩ rfl trivial
      · skip
        refine .skip ?_
        show Ev _ _ _ _ _
        refine .seq ?_
        refine .region ?_
        refine .q (op_move rfl) trivial rfl ?_
        refine .q (op_move rfl) trivial rfl ?_
        refine .a (ap_build (us := [_]) (c := .aggS [_]) Tryd.underlying104 inf9 rfl (by decide) (by decide) ⟨rfl, rfl, rfl, trivial⟩ rfl) trivial rfl ?_
        refine .a (ap_cat Tryd.underlying104 inf9 rfl rfl rfl rfl (by first | rfl | omega | (simp [AV.len]; done) | (have := hdn (by omega); omega)) rfl rfl (by first | rfl | omega | (simp [AV.len]; done) | (have := hdn (by omega); omega)) rfl (by first | rfl | omega | (simp [AV.len]; done) | (have := hdn (by omega); omega))) trivial rfl ?_
        refine .q (op_assign rfl) trivial rfl ?_
        refine .nil ?_
        show Ev _ _ _ _ _
        refine .region ?_
        refine .q (op_assign rfl) trivial rfl ?_
        refine .nil ?_
        show Ev _ _ _ _ _
        refine .region ?_
        refine .q (op_move rfl) trivial rfl ?_
        refine .q (op_addI rfl rfl ⟨by omega, by omega⟩) trivial rfl ?_
        refine .q (op_assign rfl) trivial rfl ?_
        refine .nil ?_
        exact ⟨⟨q.name (by omega) (by first | exact .inr (bne_eq_false_iff_eq.1 hc33) | exact .inl (by omega)), (by show (q.d ++ [q.w]).length ≤ b; have hne : q.d.length ≠ b := fun e => (by have h9 := (q.at (by omega) (by first | exact .inr (bne_eq_false_iff_eq.1 hc33) | exact .inl (by omega))).1; rw [e, ] at h9; rw [← h9, hbad] at hc43; cases hc43); simp only [List.length_append, List.length_cons, List.length_nil]; omega)⟩, by (try dsimp only); (show (textD i 4096).2.length + 1 - (q.k + 1) < (textD i 4096).2.length + 1 - q.k; omega), StLe.mk [(1008, 1008), (1016, 1016), (1024, 1040)] rfl rfl ⟨⟨_, rfl, by rfl, rfl⟩, ⟨_, rfl, by rfl, rfl⟩, ⟨_, rfl, by rfl, rfl⟩, ⟨_, rfl, by (show AV.sl _ _ _ _ = AV.sl _ _ _ _; simp [RnI.name]; rfl), rfl⟩, ⟨_, rfl, by rfl, rfl⟩, ⟨_, rfl, by rfl, rfl⟩, trivial⟩ ⟨⟨_, _, rfl, rfl, rfl, rfl, id, rfl⟩, ⟨_, _, rfl, rfl, rfl, rfl, id, rfl⟩, ⟨_, _, rfl, rfl, rfl, rfl, id, rfl⟩, trivial⟩⟩
  · first | replace hg28 := of_decide_eq_true hg28 | replace hg28 := of_decide_eq_false hg28 | replace hg28 := eq_of_beq hg28 | replace hg28 := ne_of_beq_false hg28 | simp only [bne_iff_ne, ne_eq] at hg28 | simp only [bne_eq_false_iff_eq] at hg28
    refine .no ⟨_, rfl, rfl⟩ rfl ?_
    refine .no ⟨_, rfl, rfl⟩ rfl ?_
    refine .no ⟨_, rfl, rfl⟩ rfl ?_
    refine .no ⟨_, rfl, rfl⟩ rfl ?_
    refine .q (op_pick_false rfl rfl rfl) trivial rfl ?_
    refine .nil ?_
    show Ev _ _ _ _ _
    refine .cond_false rfl rfl ?_
    refine .skip ?_
    show Ev _ _ _ _ _
    refine .seq ?_
    refine .seq ?_
    refine .region ?_
    refine .q (op_move rfl) trivial rfl ?_
    refine .q (op_call (U := []) [] [] (rname_ev q.w (by have := q.hw; have := q.hk; omega)) Tryd.func106 (by kernel_rfl) rfl rfl rfl (⟨⟨_, rfl, rfl, rfl⟩, trivial⟩) (trivial) (trivial) (trivial) rfl) trivial rfl ?_
    refine .q (op_notB rfl) trivial rfl ?_
    refine .nil ?_
    show Ev _ _ _ _ _
    refine .cond rfl (fun hc43 => ?_) (fun hc43 => ?_)
    · skip
      refine .seq ?_
      refine .region ?_
      refine .q (op_buildS (r := .agg [.str [], .i64 3]) Tryd.underlying47 rfl zero47 rel_zero47 rfl rfl rfl rfl) trivial rfl ?_
      refine .w (op_storeRow (by kernel_rfl) rfl rfl rfl rfl rfl (rfl) (rfl)) trivial rfl ?_
      refine .q (op_assign rfl) trivial rfl ?_
      refine .nil ?_
      show Ev _ _ _ _ _
      refine .ret ?_
      show RetOk _ _ _ _ _ _ _
      exact retc2 rfl (.inl rfl) ⟨_, _, _, _, rfl, rfl, rfl, rfl, rfl, Tryd.underlying47, rfl, (by kernel_rfl)⟩ rfl trivial
    · skip
      refine .skip ?_
      show Ev _ _ _ _ _
      refine .seq ?_
      refine .region ?_
      refine .q (op_move rfl) trivial rfl ?_
      refine .q (op_move rfl) trivial rfl ?_
      refine .a (ap_build (us := [_]) (c := .aggS [_]) Tryd.underlying104 inf9 rfl (by decide) (by decide) ⟨rfl, rfl, rfl, trivial⟩ rfl) trivial rfl ?_
      refine .a (ap_cat Tryd.underlying104 inf9 rfl rfl rfl rfl (by first | rfl | omega | (simp [AV.len]; done) | (have := hdn (by omega); omega)) rfl rfl (by first | rfl | omega | (simp [AV.len]; done) | (have := hdn (by omega); omega)) rfl (by first | rfl | omega | (simp [AV.len]; done) | (have := hdn (by omega); omega))) trivial rfl ?_
      refine .q (op_assign rfl) trivial rfl ?_
      refine .nil ?_
      show Ev _ _ _ _ _
      refine .region ?_
      refine .q (op_assign rfl) trivial rfl ?_
      refine .nil ?_
      show Ev _ _ _ _ _
      refine .region ?_
      refine .q (op_move rfl) trivial rfl ?_
      refine .q (op_addI rfl rfl ⟨by omega, by omega⟩) trivial rfl ?_
      refine .q (op_assign rfl) trivial rfl ?_
      refine .nil ?_
      exact ⟨⟨q.name (by omega) (by first | exact .inr (bne_eq_false_iff_eq.1 hc33) | exact .inl (by omega)), (by show (q.d ++ [q.w]).length ≤ b; have hne : q.d.length ≠ b := fun e => (by have h9 := (q.at (by omega) (by first | exact .inr (bne_eq_false_iff_eq.1 hc33) | exact .inl (by omega))).1; rw [e, ] at h9; rw [← h9, hbad] at hc43; cases hc43); simp only [List.length_append, List.length_cons, List.length_nil]; omega)⟩, by (try dsimp only); (show (textD i 4096).2.length + 1 - (q.k + 1) < (textD i 4096).2.length + 1 - q.k; omega), StLe.mk [(1008, 1008), (1016, 1016), (1024, 1040)] rfl rfl ⟨⟨_, rfl, by rfl, rfl⟩, ⟨_, rfl, by rfl, rfl⟩, ⟨_, rfl, by rfl, rfl⟩, ⟨_, rfl, by (show AV.sl _ _ _ _ = AV.sl _ _ _ _; simp [RnI.name]; rfl), rfl⟩, ⟨_, rfl, by rfl, rfl⟩, ⟨_, rfl, by rfl, rfl⟩, trivial⟩ ⟨⟨_, _, rfl, rfl, rfl, rfl, id, rfl⟩, ⟨_, _, rfl, rfl, rfl, rfl, id, rfl⟩, ⟨_, _, rfl, rfl, rfl, rfl, id, rfl⟩, trivial⟩⟩
end Go.Proofs.YteefpaiefphdpaaDoor
namespace Go.Proofs.YteefpaiefphdpaaDoor
open Go.RowKit
def dvB (x : UInt64) : Nat → UInt64
  | 0 => x
  | k + 1 => dvB x k / 256
/-- The last k bytes of a number. -/
def tlB (x : UInt64) : Nat → List UInt8
  | 0 => []
  | k + 1 => (dvB x k % 256).toUInt8 :: tlB x k
theorem length_tlB (x : UInt64) (k : Nat) : (tlB x k).length = k := by induction k with | zero => rfl | succ k ih => simp [tlB, ih]
set_option maxRecDepth 100000 in
theorem rnumB_ev (x : UInt64) (n : Nat) (hn : n ≤ 1000000) : Meets Tryd.prog 143 [.u64 x, .i64 (n : Int)] [] (.str (tlB x n)) [] := by
  refine meets_of_ev (nt := 23) Tryd.func143 rfl rfl (Nat.le_of_ble_eq_true rfl) ?_
  refine .seq ?_
  refine .region ?_
  refine .q (op_assign rfl) trivial rfl ?_
  refine .nil ?_
  show Ev _ _ _ _ _
  refine .seq ?_
  refine .region ?_
  refine .a (ap_build0 (z := 1) (c := .aggB []) Tryd.underlying32 inf5 rfl) trivial rfl ?_
  refine .q (op_assign rfl) trivial rfl ?_
  refine .nil ?_
  show Ev _ _ _ _ _
  refine .seq ?_
  refine .seq ?_
  refine .region ?_
  refine .q (op_assign rfl) trivial rfl ?_
  refine .nil ?_
  show Ev _ _ _ _ _
  refine .block ?_
  refine Ev.loop (ι := { k : Nat // k ≤ n }) (fun q => ⟨[(0, .u64 (dvB x q.1)), (1, .i64 (n : Int)), (5, .sl 1000 0 q.1 1), (6, .i64 ((q.1 : Nat) : Int))], [(1000, some ⟨.aggB (tlB x q.1), 5, true⟩)], 1008⟩) (fun q => n - q.1) ⟨0, Nat.zero_le _⟩ (StLe.mk [(1000, 1000)] rfl rfl ⟨⟨_, rfl, by first | rfl | (simp only [AV.ren]; congr 1; omega), rfl⟩, ⟨_, rfl, by first | rfl | (simp only [AV.ren]; congr 1; omega), rfl⟩, ⟨_, rfl, by first | rfl | (simp only [AV.ren]; congr 1; omega), rfl⟩, ⟨_, rfl, by first | rfl | (simp only [AV.ren]; congr 1; omega), rfl⟩, trivial⟩ ⟨⟨_, _, rfl, rfl, rfl, rfl, id, rfl⟩, trivial⟩) ?_
  rintro ⟨k, hk⟩
  try dsimp only
  have hl := length_tlB x k
  refine .seq ?_
  refine .seq ?_
  refine .region ?_
  refine .q (op_move rfl) trivial rfl ?_
  refine .q (op_move rfl) trivial rfl ?_
  refine .q (op_cmpI rfl rfl rfl) trivial rfl ?_
  refine .nil ?_
  show Ev _ _ _ _ _
  refine .cond rfl (fun hc10 => ?_) (fun hc10 => ?_)
  · first | replace hc10 := of_decide_eq_true hc10 | replace hc10 := of_decide_eq_false hc10 | replace hc10 := eq_of_beq hc10 | replace hc10 := ne_of_beq_false hc10 | simp only [bne_iff_ne, ne_eq] at hc10 | simp only [bne_eq_false_iff_eq] at hc10
    refine .skip ?_
    show Ev _ _ _ _ _
    refine .seq ?_
    refine .block ?_
    refine .seq ?_
    refine .region ?_
    refine .q (op_move rfl) trivial rfl ?_
    refine .q (op_rem64 rfl rfl (by decide)) trivial rfl ?_
    refine .q (op_conv Tryd.underlying77 Tryd.underlying5 rfl rfl) trivial rfl ?_
    refine .a (ap_build (us := [_]) (c := .aggB [_]) Tryd.underlying32 inf5 rfl (by decide) (by decide) ⟨rfl, rfl, rfl, trivial⟩ rfl) trivial rfl ?_
    refine .q (op_move rfl) trivial rfl ?_
    refine .a (ap_cat Tryd.underlying32 inf5 rfl rfl rfl rfl (by first | rfl | omega | (simp only [AV.len, List.length_cons, List.length_nil, length_tlB]; done) | (simp only [AV.len, List.length_cons, List.length_nil, length_tlB]; omega)) rfl rfl (by first | rfl | omega | (simp only [AV.len, length_tlB]; done) | (simp only [AV.len, List.length_cons, List.length_nil, length_tlB]; omega)) rfl (by first | rfl | omega | (simp only [AV.len, List.length_cons, List.length_nil, length_tlB]; done) | (simp only [AV.len, List.length_cons, List.length_nil, length_tlB]; omega))) trivial rfl ?_
    refine .q (op_assign rfl) trivial rfl ?_
    refine .nil ?_
    show Ev _ _ _ _ _
    refine .region ?_
    refine .q (op_move rfl) trivial rfl ?_
    refine .q (op_quo64 rfl rfl (by decide)) trivial rfl ?_
    refine .q (op_assign rfl) trivial rfl ?_
    refine .nil ?_
    show Ev _ _ _ _ _
    refine .region ?_
    refine .q (op_move rfl) trivial rfl ?_
    refine .q (op_addI rfl rfl ⟨by first | omega | (simp only [AV.len]; omega) | (simp only [AV.len, List.length_set]; omega) | assumption | (simp [AV.len]; done), by first | omega | (simp only [AV.len]; omega) | (simp only [AV.len, List.length_set]; omega) | assumption | (simp [AV.len]; done)⟩) trivial rfl ?_
    refine .q (op_assign rfl) trivial rfl ?_
    refine .nil ?_
    exact ⟨⟨k + 1, by omega⟩, by (try dsimp only); omega, StLe.mk [(1000, 1016)] rfl rfl ⟨⟨_, rfl, by rfl, rfl⟩, ⟨_, rfl, by rfl, rfl⟩, ⟨_, rfl, by (exact congrArg (fun z => AV.sl 1000 0 z 1) (by simp only [List.length_cons, List.length_nil, length_tlB]; omega)), rfl⟩, ⟨_, rfl, by rfl, rfl⟩, trivial⟩ ⟨⟨_, _, rfl, rfl, rfl, rfl, id, rfl⟩, trivial⟩⟩
  · first | replace hc10 := of_decide_eq_true hc10 | replace hc10 := of_decide_eq_false hc10 | replace hc10 := eq_of_beq hc10 | replace hc10 := ne_of_beq_false hc10 | simp only [bne_iff_ne, ne_eq] at hc10 | simp only [bne_eq_false_iff_eq] at hc10
    refine .exit ?_
    show Ev _ _ _ _ _
    refine .seq ?_
    refine .region ?_
    refine .q (op_move rfl) trivial rfl ?_
    refine .q (op_bytes_str Tryd.underlying32 Tryd.underlying5 Tryd.underlying9 rfl rfl rfl (by rw [length_tlB]; omega)) trivial rfl ?_
    refine .q (op_assign rfl) trivial rfl ?_
    refine .nil ?_
    show Ev _ _ _ _ _
    refine .ret ?_
    show RetOk _ _ _ _ _ _ _
    have e : k = n := by omega
    subst e
    exact ret1v rfl (.inl rfl) rfl (by rw [List.drop_zero, List.take_of_length_le (by rw [length_tlB]; omega)]) trivial
def lenR (s : List UInt8) : List UInt8 := tlB (UInt64.ofInt (s.length : Int)) 4
def textR (s : List UInt8) : List UInt8 := lenR s ++ s
set_option maxRecDepth 100000 in
theorem rtextB_ev (s : List UInt8) (hs : s.length ≤ 1000000) : Meets Tryd.prog 110 [.str s] [] (.str (textR s)) [] := by
  refine meets_of_ev (nt := 9) Tryd.func110 rfl rfl (Nat.le_of_ble_eq_true rfl) ?_
  refine .seq ?_
  refine .region ?_
  refine .q (op_assign rfl) trivial rfl ?_
  refine .nil ?_
  show Ev _ _ _ _ _
  refine .seq ?_
  refine .region ?_
  refine .q (op_move rfl) trivial rfl ?_
  refine .q (op_len_str Tryd.underlying9 rfl) trivial rfl ?_
  refine .q (op_conv Tryd.underlying3 Tryd.underlying77 rfl rfl) trivial rfl ?_
  refine .q (op_call (U := []) [] [] (rnumB_ev _ 4 (by decide)) Tryd.func143 (by kernel_rfl) rfl rfl rfl (⟨⟨_, rfl, rfl, rfl⟩, ⟨_, rfl, rfl, rfl⟩, trivial⟩) (trivial) (trivial) (trivial) rfl) trivial rfl ?_
  refine .q (op_move rfl) trivial rfl ?_
  refine .q (op_addS rfl rfl (by simp only [length_tlB]; omega)) trivial rfl ?_
  refine .q (op_assign rfl) trivial rfl ?_
  refine .nil ?_
  show Ev _ _ _ _ _
  refine .ret ?_
  show RetOk _ _ _ _ _ _ _
  exact ret1v rfl (.inl rfl) rfl rfl trivial
end Go.Proofs.YteefpaiefphdpaaDoor
