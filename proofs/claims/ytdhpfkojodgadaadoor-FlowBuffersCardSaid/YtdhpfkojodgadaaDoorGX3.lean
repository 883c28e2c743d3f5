/-
  Texts of this claim.
-/
import Derived.Test.YtdhpfkojodgadaaDoorGX2
import Derived.Test.YtdhpfkojodgadaaDoorGX0
namespace Go.Proofs.YtdhpfkojodgadaaDoor
open Go.RowKit
set_option maxRecDepth 100000 in
theorem tg_yes (C L : Nat) (most r : Int) (o : Int) (n : Nat) (hLC : L ≤ C) (hC : C ≤ 9223372036854775807) (hC0 : 0 < C) (hn : n ≤ 1000000000) (h : L + n ≤ C) : Meets Tryd.prog 31 [.ptr 500 1, .i64 (n : Int)] [(500, some ⟨.agg [.i64 (most), .slk 501 0 (L) (C) true, .i64 (o), .val (.int .i8 (r))], 62, true⟩)] (.tup [.i64 (L : Int), .bool true]) [(500, some ⟨.agg [.i64 (most), .slk 501 0 (L + n) (C) true, .i64 (o), .val (.int .i8 (r))], 62, true⟩)] := by
 refine meets_of_ev (nt := 33) Tryd.func31 rfl rfl (Nat.le_of_ble_eq_true rfl) ?_
 refine .seq ?_
 refine .region ?_
 refine .q (op_assign rfl) trivial rfl ?_
 refine .q (op_assign rfl) trivial rfl ?_
 refine .nil ?_
 show Ev _ _ _ _ _
 refine .seq ?_
 refine .seq ?_
 refine .region ?_
 refine .q (op_move rfl) trivial rfl ?_
 refine .q (op_nilCheck rfl) trivial rfl ?_
 refine .q (op_fieldAddr (m := 0) Tryd.underlying60 rfl (by kernel_rfl) rfl) trivial rfl ?_
 refine .as (.ptr 500 1) rfl ?_
 refine .q (op_load Tryd.underlying56 rfl rfl rfl rfl (by show 1 < 4; decide)) trivial rfl ?_
 refine .q (op_len_slk Tryd.underlying56 rfl) trivial rfl ?_
 refine .q (op_assign rfl) trivial rfl ?_
 refine .nil ?_
 show Ev _ _ _ _ _
 refine .seq ?_
 refine .region ?_
 refine .q (op_move rfl) trivial rfl ?_
 refine .q (op_move rfl) trivial rfl ?_
 refine .q (op_nilCheck rfl) trivial rfl ?_
 refine .q (op_fieldAddr (m := 0) Tryd.underlying60 rfl (by kernel_rfl) rfl) trivial rfl ?_
 refine .as (.ptr 500 1) rfl ?_
 refine .q (op_load Tryd.underlying56 rfl rfl rfl rfl (by show 1 < 4; decide)) trivial rfl ?_
 refine .q (op_cap_slk Tryd.underlying56 rfl) trivial rfl ?_
 refine .q (op_move rfl) trivial rfl ?_
 refine .q (op_subI rfl rfl ⟨by omega, by omega⟩) trivial rfl ?_
 refine .q (op_cmpI rfl rfl rfl) trivial rfl ?_
 refine .nil ?_
 show Ev _ _ _ _ _
 refine .cond_true rfl (decide_eq_true (by omega)) ?_
 refine .seq ?_
 refine .region ?_
 refine .q (op_move rfl) trivial rfl ?_
 refine .q (op_move rfl) trivial rfl ?_
 refine .q (op_nilCheck rfl) trivial rfl ?_
 refine .q (op_fieldAddr (m := 0) Tryd.underlying60 rfl (by kernel_rfl) rfl) trivial rfl ?_
 refine .as (.ptr 500 1) rfl ?_
 refine .q (op_load Tryd.underlying56 rfl rfl rfl rfl (by show 1 < 4; decide)) trivial rfl ?_
 refine .q (op_move rfl) trivial rfl ?_
 refine .q (op_move rfl) trivial rfl ?_
 refine .q (op_addI rfl rfl ⟨by omega, by omega⟩) trivial rfl ?_
 refine .q (op_slice_slk (l := 0) (h := L + n) Tryd.underlying56 inf5.sz rfl rfl (bnd_some rfl (by omega)) (by omega) (by omega) (by omega)) trivial rfl ?_
 refine .as (.slk 501 0 (L + n) C true) rfl ?_
 refine .q (op_nilCheck rfl) trivial rfl ?_
 refine .q (op_fieldAddr (m := 0) Tryd.underlying60 rfl (by kernel_rfl) rfl) trivial rfl ?_
 refine .as (.ptr 500 1) rfl ?_
 refine .w (op_store (by kernel_rfl) rfl rfl rfl rfl rfl (by show 1 < 4; decide)) trivial rfl ?_
 refine .nil ?_
 show Ev _ _ _ _ _
 refine .seq ?_
 refine .region ?_
 refine .q (op_move rfl) trivial rfl ?_
 refine .q (op_assign rfl) trivial rfl ?_
 refine .q (op_assign rfl) trivial rfl ?_
 refine .nil ?_
 show Ev _ _ _ _ _
 refine .ret ?_
 show RetOk _ _ _ _ _ _ _
 exact ret2v rfl (.inl rfl) rfl rfl rfl rfl ⟨rfl, trivial⟩
set_option maxRecDepth 100000 in
theorem tg_no (C L : Nat) (most r : Int) (o : Int) (n : Nat) (hLC : L ≤ C) (_hC : C ≤ 9223372036854775807) (_hC0 : 0 < C) (hn : n ≤ 1000000000) (h : ¬ L + n ≤ C) : Meets Tryd.prog 31 [.ptr 500 1, .i64 (n : Int)] [(500, some ⟨.agg [.i64 (most), .slk 501 0 (L) (C) true, .i64 (o), .val (.int .i8 (r))], 62, false⟩)] (.tup [.i64 0, .bool false]) [(500, some ⟨.agg [.i64 (most), .slk 501 0 (L) (C) true, .i64 (o), .val (.int .i8 (r))], 62, false⟩)] := by
 refine meets_of_ev (nt := 33) Tryd.func31 rfl rfl (Nat.le_of_ble_eq_true rfl) ?_
 refine .seq ?_
 refine .region ?_
 refine .q (op_assign rfl) trivial rfl ?_
 refine .q (op_assign rfl) trivial rfl ?_
 refine .nil ?_
 show Ev _ _ _ _ _
 refine .seq ?_
 refine .seq ?_
 refine .region ?_
 refine .q (op_move rfl) trivial rfl ?_
 refine .q (op_nilCheck rfl) trivial rfl ?_
 refine .q (op_fieldAddr (m := 0) Tryd.underlying60 rfl (by kernel_rfl) rfl) trivial rfl ?_
 refine .as (.ptr 500 1) rfl ?_
 refine .q (op_load Tryd.underlying56 rfl rfl rfl rfl (by show 1 < 4; decide)) trivial rfl ?_
 refine .q (op_len_slk Tryd.underlying56 rfl) trivial rfl ?_
 refine .q (op_assign rfl) trivial rfl ?_
 refine .nil ?_
 show Ev _ _ _ _ _
 refine .seq ?_
 refine .region ?_
 refine .q (op_move rfl) trivial rfl ?_
 refine .q (op_move rfl) trivial rfl ?_
 refine .q (op_nilCheck rfl) trivial rfl ?_
 refine .q (op_fieldAddr (m := 0) Tryd.underlying60 rfl (by kernel_rfl) rfl) trivial rfl ?_
 refine .as (.ptr 500 1) rfl ?_
 refine .q (op_load Tryd.underlying56 rfl rfl rfl rfl (by show 1 < 4; decide)) trivial rfl ?_
 refine .q (op_cap_slk Tryd.underlying56 rfl) trivial rfl ?_
 refine .q (op_move rfl) trivial rfl ?_
 refine .q (op_subI rfl rfl ⟨by omega, by omega⟩) trivial rfl ?_
 refine .q (op_cmpI rfl rfl rfl) trivial rfl ?_
 refine .nil ?_
 show Ev _ _ _ _ _
 refine .cond_false rfl (decide_eq_false (by omega)) ?_
 refine .skip ?_
 show Ev _ _ _ _ _
 refine .seq ?_
 refine .region ?_
 refine .q (op_assign rfl) trivial rfl ?_
 refine .q (op_assign rfl) trivial rfl ?_
 refine .nil ?_
 show Ev _ _ _ _ _
 refine .ret ?_
 show RetOk _ _ _ _ _ _ _
 exact ret2v rfl (.inl rfl) rfl rfl rfl rfl ⟨rfl, trivial⟩
set_option maxRecDepth 100000 in
theorem reset_ev (C L : Nat) (most r o : Int) (_hLC : L ≤ C) (hC0 : 0 < C) : Meets Tryd.prog 33 [.ptr 500 1] [(500, some ⟨.agg [.i64 (most), .slk 501 0 (L) (C) true, .i64 (o), .val (.int .i8 (r))], 62, true⟩)] (.tup []) [(500, some ⟨.agg [.i64 (most), .slk 501 0 (0) (C) true, .i64 (0), .val (.int .i8 (0))], 62, true⟩)] := by
 refine meets_of_ev (nt := 16) Tryd.func33 rfl rfl (Nat.le_of_ble_eq_true rfl) ?_
 refine .seq ?_
 refine .region ?_
 refine .q (op_move rfl) trivial rfl ?_
 refine .q (op_move rfl) trivial rfl ?_
 refine .q (op_nilCheck rfl) trivial rfl ?_
 refine .q (op_fieldAddr (m := 0) Tryd.underlying60 rfl (by kernel_rfl) rfl) trivial rfl ?_
 refine .as (.ptr 500 1) rfl ?_
 refine .q (op_load Tryd.underlying56 rfl rfl rfl rfl (by show 1 < 4; decide)) trivial rfl ?_
 refine .q (op_slice_slk (l := 0) (h := 0) Tryd.underlying56 inf5.sz rfl rfl (bnd_some rfl (show (0 : Int) = ((0 : Nat) : Int) from rfl)) (by omega) (by omega) (by omega)) trivial rfl ?_
 refine .as (.slk 501 0 0 C true) rfl ?_
 refine .q (op_nilCheck rfl) trivial rfl ?_
 refine .q (op_fieldAddr (m := 0) Tryd.underlying60 rfl (by kernel_rfl) rfl) trivial rfl ?_
 refine .as (.ptr 500 1) rfl ?_
 refine .w (op_store (by kernel_rfl) rfl rfl rfl rfl rfl (by show 1 < 4; decide)) trivial rfl ?_
 refine .nil ?_
 show Ev _ _ _ _ _
 refine .seq ?_
 refine .region ?_
 refine .q (op_move rfl) trivial rfl ?_
 refine .q (op_nilCheck rfl) trivial rfl ?_
 refine .q (op_fieldAddr (m := 0) Tryd.underlying60 rfl (by kernel_rfl) rfl) trivial rfl ?_
 refine .as (.ptr 500 2) rfl ?_
 refine .w (op_store inf3.sz rfl rfl rfl rfl rfl (by show 2 < 4; decide)) trivial rfl ?_
 refine .nil ?_
 show Ev _ _ _ _ _
 refine .region ?_
 refine .q (op_move rfl) trivial rfl ?_
 refine .q (op_nilCheck rfl) trivial rfl ?_
 refine .q (op_fieldAddr (m := 0) Tryd.underlying60 rfl (by kernel_rfl) rfl) trivial rfl ?_
 refine .as (.ptr 500 3) rfl ?_
 refine .w (op_store (by kernel_rfl) rfl rfl rfl rfl rfl (by show 3 < 4; decide)) trivial rfl ?_
 refine .nil ?_
 show RetOk _ _ _ _ _ _ _
 exact ret0 rfl (.inr rfl) ⟨rfl, trivial⟩
theorem beq_of' {a b : Int} (h : a = b) : (a == b) = true := by rw [h]; simp
theorem bne_of {a b : Int} (h : a ≠ b) : (a != b) = true := by simpa using h
theorem beq_no {a b : Int} (h : a ≠ b) : (a == b) = false := by simpa using h
set_option maxRecDepth 100000 in
theorem grow_reset (C L : Nat) (most r : Int) (hLC : L ≤ C) (hC : C ≤ 9223372036854775807) (hC0 : 0 < C) (hLb : L ≤ 1000000) (hL0 : 0 < L) (n : Nat) (hn : n ≤ C) (hn2 : n ≤ 1000000) : Meets Tryd.prog 32 [.ptr 500 1, .i64 (n : Int)] [(500, some ⟨.agg [.i64 (most), .slk 501 0 (L) (C) true, .i64 ((L : Int)), .val (.int .i8 (r))], 62, true⟩)] (.i64 ((0 : Nat) : Int)) [(500, some ⟨.agg [.i64 (most), .slk 501 0 (0 + n) (C) true, .i64 (0), .val (.int .i8 (0))], 62, true⟩)] := by
 refine meets_of_ev (nt := 110) Tryd.func32 rfl rfl (Nat.le_of_ble_eq_true rfl) ?_
 refine .seq ?_
 refine .region ?_
 refine .q (op_assign rfl) trivial rfl ?_
 refine .nil ?_
 show Ev _ _ _ _ _
 refine .seq ?_
 refine .region ?_
 refine .q (op_move rfl) trivial rfl ?_
 refine .q (op_call (U := []) [(500, 500), (501, 501)] [] (blen_ev most r L L C (by omega) (Nat.le_refl _)) Tryd.func28 (by kernel_rfl) rfl rfl rfl (⟨⟨_, rfl, rfl, rfl⟩, trivial⟩) (⟨⟨_, _, rfl, rfl, rfl, rfl, (fun h => by cases h), rfl⟩, trivial⟩) (trivial) (⟨(fun h => by cases h), trivial⟩) rfl) trivial rfl ?_
 refine .q (op_assign rfl) trivial rfl ?_
 refine .nil ?_
 show Ev _ _ _ _ _
 refine .seq ?_
 refine .seq ?_
 refine .region ?_
 refine .q (op_move rfl) trivial rfl ?_
 refine .q (op_cmpI rfl rfl rfl) trivial rfl ?_
 refine .q (op_move rfl) trivial rfl ?_
 refine .know (b' := true) (beq_of' (by omega)) ?_
 refine .q (op_move rfl) ⟨_, rfl, rfl⟩ rfl ?_
 refine .q (op_nilCheck rfl) ⟨_, rfl, rfl⟩ rfl ?_
 refine .q (op_fieldAddr (m := 0) Tryd.underlying60 rfl (by kernel_rfl) rfl) ⟨_, rfl, rfl⟩ rfl ?_
 refine .as (.ptr 500 2) rfl ?_
 refine .q (op_load Tryd.underlying3 rfl rfl rfl rfl (by show 2 < 4; decide)) ⟨_, rfl, rfl⟩ rfl ?_
 refine .q (op_cmpI rfl rfl rfl) ⟨_, rfl, rfl⟩ rfl ?_
 refine .q (op_pick_true rfl rfl rfl) trivial rfl ?_
 refine .nil ?_
 show Ev _ _ _ _ _
 refine .cond_true rfl (bne_of (by omega)) ?_
 refine .region ?_
 refine .q (op_move rfl) trivial rfl ?_
 refine .a (op_call (U := [(500, some ⟨.agg [.i64 (most), .slk 501 0 (0) (C) true, .i64 (0), .val (.int .i8 (0))], 62, true⟩)]) [(500, 500), (501, 501)] [] (reset_ev C L most r (L : Int) (by omega) hC0) Tryd.func33 (by kernel_rfl) rfl rfl rfl (⟨⟨_, rfl, rfl, rfl⟩, trivial⟩) (⟨⟨_, _, rfl, rfl, rfl, rfl, id, rfl⟩, trivial⟩) (⟨⟨500, _, rfl, rfl, rfl, rfl, .inr ⟨rfl, _, rfl, rfl⟩⟩, trivial⟩) (⟨(fun _ => ⟨500, _, rfl, rfl⟩), trivial⟩) rfl) trivial rfl ?_
 refine .nil ?_
 show Ev _ _ _ _ _
 refine .seq ?_
 refine .seq ?_
 refine .region ?_
 refine .q (op_move rfl) trivial rfl ?_
 refine .q (op_move rfl) trivial rfl ?_
 refine .a (op_call (U := [(500, some ⟨.agg [.i64 (most), .slk 501 0 ((0) + (n)) (C) true, .i64 (0), .val (.int .i8 (0))], 62, true⟩)]) [(500, 500), (501, 501)] [] (tg_yes C (0) most (0) (0) (n) (by omega) (by omega) hC0 (by omega) (by omega)) Tryd.func31 (by kernel_rfl) rfl rfl rfl (⟨⟨_, rfl, rfl, rfl⟩, ⟨_, rfl, rfl, rfl⟩, trivial⟩) (⟨⟨_, _, rfl, rfl, rfl, rfl, id, rfl⟩, trivial⟩) (⟨⟨500, _, rfl, rfl, rfl, rfl, .inr ⟨rfl, _, rfl, rfl⟩⟩, trivial⟩) (⟨(fun _ => ⟨500, _, rfl, rfl⟩), trivial⟩) rfl) trivial rfl ?_
 refine .q (op_move rfl) trivial rfl ?_
 refine .q (op_extract rfl rfl) trivial rfl ?_
 refine .q (op_extract rfl rfl) trivial rfl ?_
 refine .q (op_assign rfl) trivial rfl ?_
 refine .q (op_assign rfl) trivial rfl ?_
 refine .nil ?_
 show Ev _ _ _ _ _
 refine .seq ?_
 refine .region ?_
 refine .q (op_move rfl) trivial rfl ?_
 refine .nil ?_
 show Ev _ _ _ _ _
 refine .cond_true rfl (rfl) ?_
 refine .seq ?_
 refine .region ?_
 refine .q (op_move rfl) trivial rfl ?_
 refine .q (op_assign rfl) trivial rfl ?_
 refine .nil ?_
 show Ev _ _ _ _ _
 refine .ret ?_
 show RetOk _ _ _ _ _ _ _
 exact ret1v rfl (.inl rfl) rfl (rfl) ⟨rfl, trivial⟩
set_option maxRecDepth 100000 in
theorem grow_slide (l : List UInt8) (C L o : Nat) (most r : Int) (ho : o ≤ L) (hL : L ≤ l.length) (hlC : l.length ≤ C) (hC : C ≤ 9223372036854775807) (hC0 : 0 < C) (hLb : L ≤ 1000000) (n : Nat) (hn : n ≤ 1000000) (hn0 : 0 < n) (hm : o < L) (h : ¬ L + n ≤ C) (h2 : n + (L - o) ≤ C / 2) : Meets Tryd.prog 32 [.ptr 500 1, .i64 (n : Int)] [(500, some ⟨.agg [.i64 (most), .slk 501 0 (L) (C) true, .i64 ((o : Int)), .val (.int .i8 (r))], 62, true⟩), (501, some ⟨bufC l C, 5, true⟩)] (.i64 ((L - o : Nat) : Int)) [(500, some ⟨.agg [.i64 (most), .slk 501 0 (L - o + n) (C) true, .i64 (0), .val (.int .i8 (r))], 62, true⟩), (501, some ⟨bufC (mvB l o L) C, 5, true⟩)] := by
 refine meets_of_ev (nt := 110) Tryd.func32 rfl rfl (Nat.le_of_ble_eq_true rfl) ?_
 refine .seq ?_
 refine .region ?_
 refine .q (op_assign rfl) trivial rfl ?_
 refine .nil ?_
 show Ev _ _ _ _ _
 refine .seq ?_
 refine .region ?_
 refine .q (op_move rfl) trivial rfl ?_
 refine .q (op_call (U := []) [(500, 500), (501, 501)] [] (blen_ev most r L o C (by omega) ho) Tryd.func28 (by kernel_rfl) rfl rfl rfl (⟨⟨_, rfl, rfl, rfl⟩, trivial⟩) (⟨⟨_, _, rfl, rfl, rfl, rfl, (fun h => by cases h), rfl⟩, trivial⟩) (trivial) (⟨(fun h => by cases h), trivial⟩) rfl) trivial rfl ?_
 refine .q (op_assign rfl) trivial rfl ?_
 refine .nil ?_
 show Ev _ _ _ _ _
 refine .seq ?_
 refine .seq ?_
 refine .region ?_
 refine .q (op_move rfl) trivial rfl ?_
 refine .q (op_cmpI rfl rfl rfl) trivial rfl ?_
 refine .q (op_move rfl) trivial rfl ?_
 refine .know (b' := false) (beq_no (by omega)) ?_
 refine .no ⟨_, rfl, rfl⟩ rfl ?_
 refine .no ⟨_, rfl, rfl⟩ rfl ?_
 refine .no ⟨_, rfl, rfl⟩ rfl ?_
 refine .no ⟨_, rfl, rfl⟩ rfl ?_
 refine .no ⟨_, rfl, rfl⟩ rfl ?_
 refine .q (op_pick_false rfl rfl rfl) trivial rfl ?_
 refine .nil ?_
 show Ev _ _ _ _ _
 refine .cond_false rfl rfl ?_
 refine .skip ?_
 show Ev _ _ _ _ _
 refine .seq ?_
 refine .seq ?_
 refine .region ?_
 refine .q (op_move rfl) trivial rfl ?_
 refine .q (op_move rfl) trivial rfl ?_
 refine .q (op_call (U := []) [(500, 500), (501, 501)] [] (tg_no C L most (r) (o : Int) n (by omega) (by omega) hC0 (by omega) (h)) Tryd.func31 (by kernel_rfl) rfl rfl rfl (⟨⟨_, rfl, rfl, rfl⟩, ⟨_, rfl, rfl, rfl⟩, trivial⟩) (⟨⟨_, _, rfl, rfl, rfl, rfl, (fun h => by cases h), rfl⟩, trivial⟩) (trivial) (⟨(fun h => by cases h), trivial⟩) rfl) trivial rfl ?_
 refine .q (op_move rfl) trivial rfl ?_
 refine .q (op_extract rfl rfl) trivial rfl ?_
 refine .q (op_extract rfl rfl) trivial rfl ?_
 refine .q (op_assign rfl) trivial rfl ?_
 refine .q (op_assign rfl) trivial rfl ?_
 refine .nil ?_
 show Ev _ _ _ _ _
 refine .seq ?_
 refine .region ?_
 refine .q (op_move rfl) trivial rfl ?_
 refine .nil ?_
 show Ev _ _ _ _ _
 refine .cond_false rfl (rfl) ?_
 refine .skip ?_
 show Ev _ _ _ _ _
 refine .seq ?_
 refine .seq ?_
 refine .region ?_
 refine .q (op_move rfl) trivial rfl ?_
 refine .q (op_nilCheck rfl) trivial rfl ?_
 refine .q (op_fieldAddr (m := 0) Tryd.underlying60 rfl (by kernel_rfl) rfl) trivial rfl ?_
 refine .as (.ptr 500 1) rfl ?_
 refine .q (op_load Tryd.underlying56 rfl rfl rfl rfl (by show 1 < 4; decide)) trivial rfl ?_
 refine .q (op_eqSomeSl Tryd.underlying56 rfl) trivial rfl ?_
 refine .q (op_move rfl) trivial rfl ?_
 refine .know (b' := false) (rfl) ?_
 refine .no ⟨_, rfl, rfl⟩ rfl ?_
 refine .no ⟨_, rfl, rfl⟩ rfl ?_
 refine .q (op_pick_false rfl rfl rfl) trivial rfl ?_
 refine .nil ?_
 show Ev _ _ _ _ _
 refine .cond_false rfl rfl ?_
 refine .skip ?_
 show Ev _ _ _ _ _
 refine .seq ?_
 refine .region ?_
 refine .q (op_move rfl) trivial rfl ?_
 refine .q (op_nilCheck rfl) trivial rfl ?_
 refine .q (op_fieldAddr (m := 0) Tryd.underlying60 rfl (by kernel_rfl) rfl) trivial rfl ?_
 refine .as (.ptr 500 1) rfl ?_
 refine .q (op_load Tryd.underlying56 rfl rfl rfl rfl (by show 1 < 4; decide)) trivial rfl ?_
 refine .q (op_cap_slk Tryd.underlying56 rfl) trivial rfl ?_
 refine .q (op_assign rfl) trivial rfl ?_
 refine .nil ?_
 show Ev _ _ _ _ _
 refine .seq ?_
 refine .seq ?_
 refine .region ?_
 refine .q (op_move rfl) trivial rfl ?_
 refine .q (op_move rfl) trivial rfl ?_
 refine .q (op_quoI rfl rfl ⟨by omega, ⟨by omega, by omega⟩, by omega⟩) trivial rfl ?_
 refine .q (op_move rfl) trivial rfl ?_
 refine .q (op_subI rfl rfl ⟨by omega, by omega⟩) trivial rfl ?_
 refine .q (op_cmpI rfl rfl rfl) trivial rfl ?_
 refine .nil ?_
 show Ev _ _ _ _ _
 refine .cond_true rfl (decide_eq_true (by omega)) ?_
 refine .drawn [[], [0], [0, 1], [0, 1, 2], [], [4], [4, 5], [4, 5, 6], [], [8], [8, 9], [8, 9, 10], [4, 5, 6, 7, 8, 9, 10, 11], [0, 1, 2, 3, 4, 5, 6, 7, 8, 9, 10, 11, 12]] [3, 7, 11, 13] [13] (by kernel_rfl) (by kernel_rfl) rfl ?_
 show DK _ [0, 1, 2, 3, 4, 5, 6, 7, 8, 9, 10, 11, 12, 13] _ _ _
 refine .q rfl (op_move rfl) trivial ?_
 refine .q rfl (op_nilCheck rfl) trivial ?_
 refine .q rfl (op_fieldAddr (m := 0) Tryd.underlying60 rfl (by kernel_rfl) rfl) trivial ?_
 refine .as (.ptr 500 1) rfl ?_
 refine .q rfl (op_load Tryd.underlying56 rfl rfl rfl rfl (by show 1 < 4; decide)) trivial ?_
 refine .q rfl (op_move rfl) trivial ?_
 refine .q rfl (op_nilCheck rfl) trivial ?_
 refine .q rfl (op_fieldAddr (m := 0) Tryd.underlying60 rfl (by kernel_rfl) rfl) trivial ?_
 refine .as (.ptr 500 1) rfl ?_
 refine .q rfl (op_load Tryd.underlying56 rfl rfl rfl rfl (by show 1 < 4; decide)) trivial ?_
 refine .q rfl (op_move rfl) trivial ?_
 refine .q rfl (op_nilCheck rfl) trivial ?_
 refine .q rfl (op_fieldAddr (m := 0) Tryd.underlying60 rfl (by kernel_rfl) rfl) trivial ?_
 refine .as (.ptr 500 2) rfl ?_
 refine .q rfl (op_load Tryd.underlying3 rfl rfl rfl rfl (by show 2 < 4; decide)) trivial ?_
 refine .q rfl (op_slice_slkS (l := o) (h := L) Tryd.underlying56 inf5.sz rfl (bnd_some rfl rfl) rfl ho (by omega)) trivial ?_
 refine .a rfl (op_copyK (q := L - o) (c' := bufC (mvB l o L) C) (cs := ((l.drop o).take (L - o)).map .u8) Tryd.underlying56 inf5.sz rfl rfl rfl (srcs_rng (o := 0 + o) (m := L - o) rfl rfl (by simp; omega) (by rw [Nat.zero_add]; exact bufC_part (by omega))) (by rw [bufC_len hlC]; omega) (by omega) (bufC_move ho hL hlC)) trivial rfl rfl ?_
 refine .nil ?_
 show Ev _ _ _ _ _
 refine .seq ?_
 refine .region ?_
 refine .q (op_move rfl) trivial rfl ?_
 refine .q (op_nilCheck rfl) trivial rfl ?_
 refine .q (op_fieldAddr (m := 0) Tryd.underlying60 rfl (by kernel_rfl) rfl) trivial rfl ?_
 refine .as (.ptr 500 2) rfl ?_
 refine .w (op_store inf3.sz rfl rfl rfl rfl rfl (by show 2 < 4; decide)) trivial rfl ?_
 refine .nil ?_
 show Ev _ _ _ _ _
 refine .seq ?_
 refine .region ?_
 refine .q (op_move rfl) trivial rfl ?_
 refine .q (op_move rfl) trivial rfl ?_
 refine .q (op_nilCheck rfl) trivial rfl ?_
 refine .q (op_fieldAddr (m := 0) Tryd.underlying60 rfl (by kernel_rfl) rfl) trivial rfl ?_
 refine .as (.ptr 500 1) rfl ?_
 refine .q (op_load Tryd.underlying56 rfl rfl rfl rfl (by show 1 < 4; decide)) trivial rfl ?_
 refine .q (op_move rfl) trivial rfl ?_
 refine .q (op_move rfl) trivial rfl ?_
 refine .q (op_addI rfl rfl ⟨by omega, by omega⟩) trivial rfl ?_
 refine .q (op_slice_slk (l := 0) (h := L - o + n) Tryd.underlying56 inf5.sz rfl rfl (bnd_some rfl (by omega)) (by omega) (by omega) (by omega)) trivial rfl ?_
 refine .as (.slk 501 0 (L - o + n) C true) rfl ?_
 refine .q (op_nilCheck rfl) trivial rfl ?_
 refine .q (op_fieldAddr (m := 0) Tryd.underlying60 rfl (by kernel_rfl) rfl) trivial rfl ?_
 refine .as (.ptr 500 1) rfl ?_
 refine .w (op_store (by kernel_rfl) rfl rfl rfl rfl rfl (by show 1 < 4; decide)) trivial rfl ?_
 refine .nil ?_
 show Ev _ _ _ _ _
 refine .seq ?_
 refine .region ?_
 refine .q (op_move rfl) trivial rfl ?_
 refine .q (op_assign rfl) trivial rfl ?_
 refine .nil ?_
 show Ev _ _ _ _ _
 refine .ret ?_
 show RetOk _ _ _ _ _ _ _
 exact ret1v rfl (.inl rfl) rfl (congrArg AV.i64 (by omega)) ⟨rfl, rfl, trivial⟩
set_option maxRecDepth 100000 in
theorem grow_new (l : List UInt8) (C L o : Nat) (most r : Int) (ho : o ≤ L) (hL : L ≤ l.length) (hlC : l.length ≤ C) (hC : C ≤ 9223372036854775807) (hC0 : 0 < C) (hLb : L ≤ 1000000) (n : Nat) (hn : n ≤ 1000000) (hn0 : 0 < n) (hm : o < L) (h : ¬ L + n ≤ C) (h2 : ¬ n + (L - o) ≤ C / 2) : Meets Tryd.prog 32 [.ptr 500 1, .i64 (n : Int)] [(500, some ⟨.agg [.i64 (most), .slk 501 0 (L) (C) true, .i64 ((o : Int)), .val (.int .i8 (r))], 62, true⟩), (501, some ⟨bufC l C, 5, true⟩)] (.i64 ((L - o : Nat) : Int)) [(500, some ⟨.agg [.i64 (most), .slk 1128 0 (L - o + n) (max (L - o + (o + n)) (2 * (C - o))) false, .i64 (0), .val (.int .i8 (r))], 62, true⟩), (1128, some ⟨.aggB ((l.take L).drop o ++ List.replicate ((max (L - o + (o + n)) (2 * (C - o))) - (L - o)) 0), 5, true⟩)] := by
 refine meets_of_ev (nt := 110) Tryd.func32 rfl rfl (Nat.le_of_ble_eq_true rfl) ?_
 refine .seq ?_
 refine .region ?_
 refine .q (op_assign rfl) trivial rfl ?_
 refine .nil ?_
 show Ev _ _ _ _ _
 refine .seq ?_
 refine .region ?_
 refine .q (op_move rfl) trivial rfl ?_
 refine .q (op_call (U := []) [(500, 500), (501, 501)] [] (blen_ev most r L o C (by omega) ho) Tryd.func28 (by kernel_rfl) rfl rfl rfl (⟨⟨_, rfl, rfl, rfl⟩, trivial⟩) (⟨⟨_, _, rfl, rfl, rfl, rfl, (fun h => by cases h), rfl⟩, trivial⟩) (trivial) (⟨(fun h => by cases h), trivial⟩) rfl) trivial rfl ?_
 refine .q (op_assign rfl) trivial rfl ?_
 refine .nil ?_
 show Ev _ _ _ _ _
 refine .seq ?_
 refine .seq ?_
 refine .region ?_
 refine .q (op_move rfl) trivial rfl ?_
 refine .q (op_cmpI rfl rfl rfl) trivial rfl ?_
 refine .q (op_move rfl) trivial rfl ?_
 refine .know (b' := false) (beq_no (by omega)) ?_
 refine .no ⟨_, rfl, rfl⟩ rfl ?_
 refine .no ⟨_, rfl, rfl⟩ rfl ?_
 refine .no ⟨_, rfl, rfl⟩ rfl ?_
 refine .no ⟨_, rfl, rfl⟩ rfl ?_
 refine .no ⟨_, rfl, rfl⟩ rfl ?_
 refine .q (op_pick_false rfl rfl rfl) trivial rfl ?_
 refine .nil ?_
 show Ev _ _ _ _ _
 refine .cond_false rfl rfl ?_
 refine .skip ?_
 show Ev _ _ _ _ _
 refine .seq ?_
 refine .seq ?_
 refine .region ?_
 refine .q (op_move rfl) trivial rfl ?_
 refine .q (op_move rfl) trivial rfl ?_
 refine .q (op_call (U := []) [(500, 500), (501, 501)] [] (tg_no C L most (r) (o : Int) n (by omega) (by omega) hC0 (by omega) (h)) Tryd.func31 (by kernel_rfl) rfl rfl rfl (⟨⟨_, rfl, rfl, rfl⟩, ⟨_, rfl, rfl, rfl⟩, trivial⟩) (⟨⟨_, _, rfl, rfl, rfl, rfl, (fun h => by cases h), rfl⟩, trivial⟩) (trivial) (⟨(fun h => by cases h), trivial⟩) rfl) trivial rfl ?_
 refine .q (op_move rfl) trivial rfl ?_
 refine .q (op_extract rfl rfl) trivial rfl ?_
 refine .q (op_extract rfl rfl) trivial rfl ?_
 refine .q (op_assign rfl) trivial rfl ?_
 refine .q (op_assign rfl) trivial rfl ?_
 refine .nil ?_
 show Ev _ _ _ _ _
 refine .seq ?_
 refine .region ?_
 refine .q (op_move rfl) trivial rfl ?_
 refine .nil ?_
 show Ev _ _ _ _ _
 refine .cond_false rfl (rfl) ?_
 refine .skip ?_
 show Ev _ _ _ _ _
 refine .seq ?_
 refine .seq ?_
 refine .region ?_
 refine .q (op_move rfl) trivial rfl ?_
 refine .q (op_nilCheck rfl) trivial rfl ?_
 refine .q (op_fieldAddr (m := 0) Tryd.underlying60 rfl (by kernel_rfl) rfl) trivial rfl ?_
 refine .as (.ptr 500 1) rfl ?_
 refine .q (op_load Tryd.underlying56 rfl rfl rfl rfl (by show 1 < 4; decide)) trivial rfl ?_
 refine .q (op_eqSomeSl Tryd.underlying56 rfl) trivial rfl ?_
 refine .q (op_move rfl) trivial rfl ?_
 refine .know (b' := false) (rfl) ?_
 refine .no ⟨_, rfl, rfl⟩ rfl ?_
 refine .no ⟨_, rfl, rfl⟩ rfl ?_
 refine .q (op_pick_false rfl rfl rfl) trivial rfl ?_
 refine .nil ?_
 show Ev _ _ _ _ _
 refine .cond_false rfl rfl ?_
 refine .skip ?_
 show Ev _ _ _ _ _
 refine .seq ?_
 refine .region ?_
 refine .q (op_move rfl) trivial rfl ?_
 refine .q (op_nilCheck rfl) trivial rfl ?_
 refine .q (op_fieldAddr (m := 0) Tryd.underlying60 rfl (by kernel_rfl) rfl) trivial rfl ?_
 refine .as (.ptr 500 1) rfl ?_
 refine .q (op_load Tryd.underlying56 rfl rfl rfl rfl (by show 1 < 4; decide)) trivial rfl ?_
 refine .q (op_cap_slk Tryd.underlying56 rfl) trivial rfl ?_
 refine .q (op_assign rfl) trivial rfl ?_
 refine .nil ?_
 show Ev _ _ _ _ _
 refine .seq ?_
 refine .seq ?_
 refine .region ?_
 refine .q (op_move rfl) trivial rfl ?_
 refine .q (op_move rfl) trivial rfl ?_
 refine .q (op_quoI rfl rfl ⟨by omega, ⟨by omega, by omega⟩, by omega⟩) trivial rfl ?_
 refine .q (op_move rfl) trivial rfl ?_
 refine .q (op_subI rfl rfl ⟨by omega, by omega⟩) trivial rfl ?_
 refine .q (op_cmpI rfl rfl rfl) trivial rfl ?_
 refine .nil ?_
 show Ev _ _ _ _ _
 refine .cond_false rfl (decide_eq_false (by omega)) ?_
 refine .seq ?_
 refine .region ?_
 refine .q (op_move rfl) trivial rfl ?_
 refine .q (op_move rfl) trivial rfl ?_
 refine .q (op_subI rfl rfl ⟨by omega, by omega⟩) trivial rfl ?_
 refine .q (op_move rfl) trivial rfl ?_
 refine .q (op_subI rfl rfl ⟨by omega, by omega⟩) trivial rfl ?_
 refine .q (op_cmpI rfl rfl rfl) trivial rfl ?_
 refine .nil ?_
 show Ev _ _ _ _ _
 refine .cond_false rfl (decide_eq_false (by omega)) ?_
 refine .drawn [[], [], [1], [1, 2], [1, 2, 3], [], [5], [5, 6], [5, 6, 7], [1, 2, 3, 4, 5, 6, 7, 8], [], [10], [10, 11], [10, 11, 12], [], [10, 11, 12, 13, 14], [1, 2, 3, 4, 5, 6, 7, 8, 9, 10, 11, 12, 13, 14, 15], [0, 1, 2, 3, 4, 5, 6, 7, 8, 9, 10, 11, 12, 13, 14, 15, 16], [0, 1, 2, 3, 4, 5, 6, 7, 8, 9, 10, 11, 12, 13, 14, 15, 16, 17], [0, 1, 2, 3, 4, 5, 6, 7, 8, 9, 10, 11, 12, 13, 14, 15, 16, 17, 18]] [4, 8, 13, 16, 19] [19] (by kernel_rfl) (by kernel_rfl) rfl ?_
 show DK _ [0, 1, 2, 3, 4, 5, 6, 7, 8, 9, 10, 11, 12, 13, 14, 15, 16, 17, 18, 19] _ _ _
 refine .q rfl (op_move rfl) trivial ?_
 refine .q rfl (op_move rfl) trivial ?_
 refine .q rfl (op_nilCheck rfl) trivial ?_
 refine .q rfl (op_fieldAddr (m := 0) Tryd.underlying60 rfl (by kernel_rfl) rfl) trivial ?_
 refine .as (.ptr 500 1) rfl ?_
 refine .q rfl (op_load Tryd.underlying56 rfl rfl rfl rfl (by show 1 < 4; decide)) trivial ?_
 refine .q rfl (op_move rfl) trivial ?_
 refine .q rfl (op_nilCheck rfl) trivial ?_
 refine .q rfl (op_fieldAddr (m := 0) Tryd.underlying60 rfl (by kernel_rfl) rfl) trivial ?_
 refine .as (.ptr 500 2) rfl ?_
 refine .q rfl (op_load Tryd.underlying3 rfl rfl rfl rfl (by show 2 < 4; decide)) trivial ?_
 refine .q rfl (op_slice_slk (l := o) (h := L) Tryd.underlying56 inf5.sz rfl (bnd_some rfl rfl) rfl ho (by omega) (by omega)) trivial ?_
 refine .as (.slk 501 o (L - o) (C - o) true) (by rw [Nat.zero_add]) ?_
 refine .q rfl (op_move rfl) trivial ?_
 refine .q rfl (op_nilCheck rfl) trivial ?_
 refine .q rfl (op_fieldAddr (m := 0) Tryd.underlying60 rfl (by kernel_rfl) rfl) trivial ?_
 refine .as (.ptr 500 2) rfl ?_
 refine .q rfl (op_load Tryd.underlying3 rfl rfl rfl rfl (by show 2 < 4; decide)) trivial ?_
 refine .q rfl (op_move rfl) trivial ?_
 refine .q rfl (op_addI rfl rfl ⟨by omega, by omega⟩) trivial ?_
 refine .as (.i64 ((o + n : Nat) : Int)) (congrArg AV.i64 (by omega)) ?_
 refine .a rfl (op_call (U := [(1128, some ⟨.aggB ((l.take L).drop o ++ List.replicate ((max (L - o + (o + n)) (2 * (C - o))) - (L - o)) 0), 5, true⟩)]) [(501, 501)] [(1128, 1000)] (growSlice_ev l C L o (o + n) ho hL hlC (by omega) (by omega) (by omega)) Tryd.func34 (by kernel_rfl) rfl rfl rfl (⟨⟨_, rfl, rfl, rfl⟩, ⟨_, rfl, rfl, rfl⟩, trivial⟩) (⟨⟨_, _, rfl, rfl, bufC_ren _ _ _, rfl, (fun h => by cases h), bufC_nmC _ _ _⟩, trivial⟩) (⟨⟨1000, _, rfl, rfl, rfl, rfl, .inl rfl⟩, trivial⟩) (⟨(fun h => by cases h), trivial⟩) rfl) trivial rfl rfl ?_
 refine .q rfl (op_nilCheck rfl) trivial ?_
 refine .q rfl (op_fieldAddr (m := 0) Tryd.underlying60 rfl (by kernel_rfl) rfl) trivial ?_
 refine .as (.ptr 500 1) rfl ?_
 refine .w rfl (op_store (by kernel_rfl) rfl rfl rfl rfl rfl (by show 1 < 4; decide)) trivial rfl rfl ?_
 refine .nil ?_
 show Ev _ _ _ _ _
 refine .seq ?_
 refine .region ?_
 refine .q (op_move rfl) trivial rfl ?_
 refine .q (op_nilCheck rfl) trivial rfl ?_
 refine .q (op_fieldAddr (m := 0) Tryd.underlying60 rfl (by kernel_rfl) rfl) trivial rfl ?_
 refine .as (.ptr 500 2) rfl ?_
 refine .w (op_store inf3.sz rfl rfl rfl rfl rfl (by show 2 < 4; decide)) trivial rfl ?_
 refine .nil ?_
 show Ev _ _ _ _ _
 refine .seq ?_
 refine .region ?_
 refine .q (op_move rfl) trivial rfl ?_
 refine .q (op_move rfl) trivial rfl ?_
 refine .q (op_nilCheck rfl) trivial rfl ?_
 refine .q (op_fieldAddr (m := 0) Tryd.underlying60 rfl (by kernel_rfl) rfl) trivial rfl ?_
 refine .as (.ptr 500 1) rfl ?_
 refine .q (op_load Tryd.underlying56 rfl rfl rfl rfl (by show 1 < 4; decide)) trivial rfl ?_
 refine .q (op_move rfl) trivial rfl ?_
 refine .q (op_move rfl) trivial rfl ?_
 refine .q (op_addI rfl rfl ⟨by omega, by omega⟩) trivial rfl ?_
 refine .q (op_slice_slk (l := 0) (h := L - o + n) Tryd.underlying56 inf5.sz rfl rfl (bnd_some rfl (by omega)) (by omega) (by omega) (by omega)) trivial rfl ?_
 refine .as (.slk 1128 0 (L - o + n) (max (L - o + (o + n)) (2 * (C - o))) false) rfl ?_
 refine .q (op_nilCheck rfl) trivial rfl ?_
 refine .q (op_fieldAddr (m := 0) Tryd.underlying60 rfl (by kernel_rfl) rfl) trivial rfl ?_
 refine .as (.ptr 500 1) rfl ?_
 refine .w (op_store (by kernel_rfl) rfl rfl rfl rfl rfl (by show 1 < 4; decide)) trivial rfl ?_
 refine .nil ?_
 show Ev _ _ _ _ _
 refine .seq ?_
 refine .region ?_
 refine .q (op_move rfl) trivial rfl ?_
 refine .q (op_assign rfl) trivial rfl ?_
 refine .nil ?_
 show Ev _ _ _ _ _
 refine .ret ?_
 show RetOk _ _ _ _ _ _ _
 exact ret1v rfl (.inl rfl) rfl (congrArg AV.i64 (by omega)) ⟨rfl, rfl, trivial⟩
end Go.Proofs.YtdhpfkojodgadaaDoor
