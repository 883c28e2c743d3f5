/-
  The reference numbers in digits of 16 bits, walked over abstract values.
-/
import Derived.Test.YtaelhapmikijnaaGreatDoorGS
import Derived.Test.YtaelhapmikijnaaGreatDoorGQ
namespace Go.Proofs.YtaelhapmikijnaaGreatDoor
open Go.RowKit
theorem tr_of {x : List UInt8} {n : Nat} (hx : x.length = n) (h : tlB (UInt64.ofInt (n : Int)) 4 = numB (ofI32 (n : Int)).toUInt64 4 4) : textR x = textB x := by
  unfold textR textB lenR lenB
  rw [hx]; exact congrArg (· ++ x) h
theorem tr_alg : textR algB = textB algB := tr_of (n := 11) rfl (by decide)
theorem tr_32 {x : List UInt8} (hx : x.length = 32) : textR x = textB x := tr_of hx (by decide)
theorem tr_64 {x : List UInt8} (hx : x.length = 64) : textR x = textB x := tr_of hx (by decide)
theorem unE_e {s : List UInt8} (h : (unB s).1.e ≠ 0) : unE s = (unB s).1.e := by
  unfold unE endD failD
  split
  · rfl
  · show orE (unB s).1.e 3 = _
    cases he : (unB s).1.e with
    | zero => exact absurd he h
    | succ n => rfl
theorem unE_r {s : List UInt8} (h : (unB s).1.e = 0) (hr : (unB s).1.r ≠ []) : unE s = 3 := by
  unfold unE endD failD
  rw [if_neg hr]; show orE (unB s).1.e 3 = 3; rw [h]; rfl
theorem unE_0 {s : List UInt8} (h : (unB s).1.e = 0) (hr : (unB s).1.r = []) : unE s = 0 := by
  unfold unE endD
  rw [if_pos hr]; exact h
set_option maxRecDepth 100000 in
theorem rblob32 (x : List UInt8) (hx : x.length = 32) : Meets Tryz.prog 10 [.str x] [] (.str (blobB x)) [] := by
 refine meets_of_ev (nt := 7) Tryz.func10 rfl rfl (Nat.le_of_ble_eq_true rfl) ?_
 refine .seq ?_
 refine .region ?_
 refine .q (op_assign rfl) trivial rfl ?_
 refine .nil ?_
 show Ev _ _ _ _ _
 refine .seq ?_
 refine .region ?_
 refine .q (op_call (U := []) [] [] (rtextB_ev algB (by decide)) Tryz.func21 (by kernel_rfl) rfl rfl rfl (⟨⟨_, rfl, rfl, rfl⟩, trivial⟩) (trivial) (trivial) (trivial) rfl) trivial rfl ?_
 refine .as (.str (textB algB)) (congrArg AV.str tr_alg) ?_
 refine .q (op_move rfl) trivial rfl ?_
 refine .q (op_call (U := []) [] [] (rtextB_ev x (by omega)) Tryz.func21 (by kernel_rfl) rfl rfl rfl (⟨⟨_, rfl, rfl, rfl⟩, trivial⟩) (trivial) (trivial) (trivial) rfl) trivial rfl ?_
 refine .as (.str (textB x)) (congrArg AV.str (tr_32 hx)) ?_
 refine .q (op_addS rfl rfl (by simp [length_textB, algB]; omega)) trivial rfl ?_
 refine .q (op_assign rfl) trivial rfl ?_
 refine .nil ?_
 show Ev _ _ _ _ _
 refine .ret ?_
 show RetOk _ _ _ _ _ _ _
 exact ret1v rfl (.inl rfl) rfl rfl trivial
set_option maxRecDepth 100000 in
theorem rblob64 (x : List UInt8) (hx : x.length = 64) : Meets Tryz.prog 10 [.str x] [] (.str (blobB x)) [] := by
 refine meets_of_ev (nt := 7) Tryz.func10 rfl rfl (Nat.le_of_ble_eq_true rfl) ?_
 refine .seq ?_
 refine .region ?_
 refine .q (op_assign rfl) trivial rfl ?_
 refine .nil ?_
 show Ev _ _ _ _ _
 refine .seq ?_
 refine .region ?_
 refine .q (op_call (U := []) [] [] (rtextB_ev algB (by decide)) Tryz.func21 (by kernel_rfl) rfl rfl rfl (⟨⟨_, rfl, rfl, rfl⟩, trivial⟩) (trivial) (trivial) (trivial) rfl) trivial rfl ?_
 refine .as (.str (textB algB)) (congrArg AV.str tr_alg) ?_
 refine .q (op_move rfl) trivial rfl ?_
 refine .q (op_call (U := []) [] [] (rtextB_ev x (by omega)) Tryz.func21 (by kernel_rfl) rfl rfl rfl (⟨⟨_, rfl, rfl, rfl⟩, trivial⟩) (trivial) (trivial) (trivial) rfl) trivial rfl ?_
 refine .as (.str (textB x)) (congrArg AV.str (tr_64 hx)) ?_
 refine .q (op_addS rfl rfl (by simp [length_textB, algB]; omega)) trivial rfl ?_
 refine .q (op_assign rfl) trivial rfl ?_
 refine .nil ?_
 show Ev _ _ _ _ _
 refine .ret ?_
 show RetOk _ _ _ _ _ _ _
 exact ret1v rfl (.inl rfl) rfl rfl trivial
set_option maxRecDepth 100000 in
theorem ro_e (s : List UInt8) (_hs : s.length ≤ 1000000) (size wrong : Nat) (h0 : (DI.mk s 0).ok) (h1 : (unA s).1.ok) (h : (unB s).1.e ≠ 0) : Meets Tryz.prog 11 [.str s, .i64 (size : Int), .i64 (wrong : Int)] [] (.tup [.str [], .i64 (((unB s).1.e : Nat) : Int)]) [] := by
 refine meets_of_ev (nt := 45) Tryz.func11 rfl rfl (Nat.le_of_ble_eq_true rfl) ?_
 refine .seq ?_
 refine .region ?_
 refine .q (op_assign rfl) trivial rfl ?_
 refine .q (op_assign rfl) trivial rfl ?_
 refine .nil ?_
 show Ev _ _ _ _ _
 refine .seq ?_
 refine .region ?_
 refine .q (op_move rfl) trivial rfl ?_
 refine .q (op_buildS (r := .agg [.str (DI.mk s 0).r, .i64 (((DI.mk s 0).e : Nat) : Int)]) Tryz.underlying58 rfl zero58 rel_zero58 rfl rfl rfl rfl) trivial rfl ?_
 refine .q (op_move rfl) trivial rfl ?_
 refine .q (op_len_str Tryz.underlying9 rfl) trivial rfl ?_
 refine .q (op_call (U := []) [] [] (rtext_ev (DI.mk s 0) h0 (s.length : Int)) Tryz.func22 (by kernel_rfl) rfl rfl rfl (⟨⟨_, rfl, rfl, rfl⟩, ⟨_, rfl, rfl, rfl⟩, trivial⟩) (trivial) (trivial) (trivial) rfl) trivial rfl ?_
 refine .as (.tup [.agg [.str ((unA s).1).r, .i64 ((((unA s).1).e : Nat) : Int)], .str (unA s).2]) rfl ?_
 refine .q (op_move rfl) trivial rfl ?_
 refine .q (op_extract rfl rfl) trivial rfl ?_
 refine .q (op_extract rfl rfl) trivial rfl ?_
 refine .a (op_allocRow zero58 rel_zero58 rfl) trivial rfl ?_
 refine .w (op_storeRow (by kernel_rfl) rfl rfl rfl rfl rfl (rfl) (rfl)) trivial rfl ?_
 refine .q (op_assign rfl) trivial rfl ?_
 refine .nil ?_
 show Ev _ _ _ _ _
 refine .seq ?_
 refine .region ?_
 refine .q (op_loadRow Tryz.underlying58 rfl (by kernel_rfl) rfl rfl rfl (rfl)) trivial rfl ?_
 refine .q (op_move rfl) trivial rfl ?_
 refine .q (op_len_str Tryz.underlying9 rfl) trivial rfl ?_
 refine .q (op_call (U := []) [] [] (rtext_ev (unA s).1 h1 (s.length : Int)) Tryz.func22 (by kernel_rfl) rfl rfl rfl (⟨⟨_, rfl, rfl, rfl⟩, ⟨_, rfl, rfl, rfl⟩, trivial⟩) (trivial) (trivial) (trivial) rfl) trivial rfl ?_
 refine .as (.tup [.agg [.str ((unB s).1).r, .i64 ((((unB s).1).e : Nat) : Int)], .str (unB s).2]) rfl ?_
 refine .q (op_move rfl) trivial rfl ?_
 refine .q (op_extract rfl rfl) trivial rfl ?_
 refine .q (op_extract rfl rfl) trivial rfl ?_
 refine .a (op_allocRow zero58 rel_zero58 rfl) trivial rfl ?_
 refine .w (op_storeRow (by kernel_rfl) rfl rfl rfl rfl rfl (rfl) (rfl)) trivial rfl ?_
 refine .q (op_assign rfl) trivial rfl ?_
 refine .nil ?_
 show Ev _ _ _ _ _
 refine .seq ?_
 refine .seq ?_
 refine .region ?_
 refine .q (op_fieldAddr (m := 0) Tryz.underlying58 rfl (by kernel_rfl) rfl) trivial rfl ?_
 refine .as (.ptr 1008 1) rfl ?_
 refine .q (op_load Tryz.underlying3 rfl rfl rfl rfl (by show 1 < 2; decide)) trivial rfl ?_
 refine .q (op_cmpI rfl rfl rfl) trivial rfl ?_
 refine .nil ?_
 show Ev _ _ _ _ _
 refine .cond_true rfl (bne_iff_ne.2 (fun e => h (Int.ofNat.inj e))) ?_
 refine .seq ?_
 refine .drawn [[], [0], [], [0, 1, 2]] [1] [] (by kernel_rfl) (by kernel_rfl) rfl ?_
 show DK _ [0, 1, 2, 3] _ _ _
 refine .q rfl (op_fieldAddr (m := 0) Tryz.underlying58 rfl (by kernel_rfl) rfl) trivial ?_
 refine .as (.ptr 1008 1) rfl ?_
 refine .q rfl (op_load Tryz.underlying3 rfl rfl rfl rfl (by show 1 < 2; decide)) trivial ?_
 refine .q rfl (op_assign rfl) trivial ?_
 refine .q rfl (op_assign rfl) trivial ?_
 refine .nil ?_
 show Ev _ _ _ _ _
 refine .ret ?_
 show RetOk _ _ _ _ _ _ _
 exact ret2v rfl (.inl rfl) rfl rfl rfl rfl trivial
set_option maxRecDepth 100000 in
theorem ro_r (s : List UInt8) (_hs : s.length ≤ 1000000) (size wrong : Nat) (h0 : (DI.mk s 0).ok) (h1 : (unA s).1.ok) (h : (unB s).1.e = 0) (hr : (unB s).1.r ≠ []) : Meets Tryz.prog 11 [.str s, .i64 (size : Int), .i64 (wrong : Int)] [] (.tup [.str [], .i64 ((3 : Nat) : Int)]) [] := by
 refine meets_of_ev (nt := 45) Tryz.func11 rfl rfl (Nat.le_of_ble_eq_true rfl) ?_
 refine .seq ?_
 refine .region ?_
 refine .q (op_assign rfl) trivial rfl ?_
 refine .q (op_assign rfl) trivial rfl ?_
 refine .nil ?_
 show Ev _ _ _ _ _
 refine .seq ?_
 refine .region ?_
 refine .q (op_move rfl) trivial rfl ?_
 refine .q (op_buildS (r := .agg [.str (DI.mk s 0).r, .i64 (((DI.mk s 0).e : Nat) : Int)]) Tryz.underlying58 rfl zero58 rel_zero58 rfl rfl rfl rfl) trivial rfl ?_
 refine .q (op_move rfl) trivial rfl ?_
 refine .q (op_len_str Tryz.underlying9 rfl) trivial rfl ?_
 refine .q (op_call (U := []) [] [] (rtext_ev (DI.mk s 0) h0 (s.length : Int)) Tryz.func22 (by kernel_rfl) rfl rfl rfl (⟨⟨_, rfl, rfl, rfl⟩, ⟨_, rfl, rfl, rfl⟩, trivial⟩) (trivial) (trivial) (trivial) rfl) trivial rfl ?_
 refine .as (.tup [.agg [.str ((unA s).1).r, .i64 ((((unA s).1).e : Nat) : Int)], .str (unA s).2]) rfl ?_
 refine .q (op_move rfl) trivial rfl ?_
 refine .q (op_extract rfl rfl) trivial rfl ?_
 refine .q (op_extract rfl rfl) trivial rfl ?_
 refine .a (op_allocRow zero58 rel_zero58 rfl) trivial rfl ?_
 refine .w (op_storeRow (by kernel_rfl) rfl rfl rfl rfl rfl (rfl) (rfl)) trivial rfl ?_
 refine .q (op_assign rfl) trivial rfl ?_
 refine .nil ?_
 show Ev _ _ _ _ _
 refine .seq ?_
 refine .region ?_
 refine .q (op_loadRow Tryz.underlying58 rfl (by kernel_rfl) rfl rfl rfl (rfl)) trivial rfl ?_
 refine .q (op_move rfl) trivial rfl ?_
 refine .q (op_len_str Tryz.underlying9 rfl) trivial rfl ?_
 refine .q (op_call (U := []) [] [] (rtext_ev (unA s).1 h1 (s.length : Int)) Tryz.func22 (by kernel_rfl) rfl rfl rfl (⟨⟨_, rfl, rfl, rfl⟩, ⟨_, rfl, rfl, rfl⟩, trivial⟩) (trivial) (trivial) (trivial) rfl) trivial rfl ?_
 refine .as (.tup [.agg [.str ((unB s).1).r, .i64 ((((unB s).1).e : Nat) : Int)], .str (unB s).2]) rfl ?_
 refine .q (op_move rfl) trivial rfl ?_
 refine .q (op_extract rfl rfl) trivial rfl ?_
 refine .q (op_extract rfl rfl) trivial rfl ?_
 refine .a (op_allocRow zero58 rel_zero58 rfl) trivial rfl ?_
 refine .w (op_storeRow (by kernel_rfl) rfl rfl rfl rfl rfl (rfl) (rfl)) trivial rfl ?_
 refine .q (op_assign rfl) trivial rfl ?_
 refine .nil ?_
 show Ev _ _ _ _ _
 refine .seq ?_
 refine .seq ?_
 refine .region ?_
 refine .q (op_fieldAddr (m := 0) Tryz.underlying58 rfl (by kernel_rfl) rfl) trivial rfl ?_
 refine .as (.ptr 1008 1) rfl ?_
 refine .q (op_load Tryz.underlying3 rfl rfl rfl rfl (by show 1 < 2; decide)) trivial rfl ?_
 refine .q (op_cmpI rfl rfl rfl) trivial rfl ?_
 refine .nil ?_
 show Ev _ _ _ _ _
 refine .cond_false rfl (bne_eq_false_iff_eq.2 (congrArg (fun n : Nat => (n : Int)) h)) ?_
 refine .skip ?_
 show Ev _ _ _ _ _
 refine .seq ?_
 refine .seq ?_
 refine .region ?_
 refine .q (op_fieldAddr (m := 0) Tryz.underlying58 rfl (by kernel_rfl) rfl) trivial rfl ?_
 refine .as (.ptr 1008 0) rfl ?_
 refine .q (op_load Tryz.underlying9 rfl rfl rfl rfl (by show 0 < 2; decide)) trivial rfl ?_
 refine .q (op_eqS rfl rfl rfl) trivial rfl ?_
 refine .nil ?_
 show Ev _ _ _ _ _
 refine .cond_true rfl (bne_iff_ne.2 hr) ?_
 refine .seq ?_
 refine .region ?_
 refine .q (op_assign rfl) trivial rfl ?_
 refine .q (op_assign rfl) trivial rfl ?_
 refine .nil ?_
 show Ev _ _ _ _ _
 refine .ret ?_
 show RetOk _ _ _ _ _ _ _
 exact ret2v rfl (.inl rfl) rfl rfl rfl rfl trivial
set_option maxRecDepth 100000 in
theorem ro_1 (s : List UInt8) (_hs : s.length ≤ 1000000) (size wrong : Nat) (h0 : (DI.mk s 0).ok) (h1 : (unA s).1.ok) (h : (unB s).1.e = 0) (hr : (unB s).1.r = []) (h2 : ¬ (unA s).2 = algB) : Meets Tryz.prog 11 [.str s, .i64 (size : Int), .i64 (wrong : Int)] [] (.tup [.str [], .i64 (wrong : Int)]) [] := by
 refine meets_of_ev (nt := 45) Tryz.func11 rfl rfl (Nat.le_of_ble_eq_true rfl) ?_
 refine .seq ?_
 refine .region ?_
 refine .q (op_assign rfl) trivial rfl ?_
 refine .q (op_assign rfl) trivial rfl ?_
 refine .nil ?_
 show Ev _ _ _ _ _
 refine .seq ?_
 refine .region ?_
 refine .q (op_move rfl) trivial rfl ?_
 refine .q (op_buildS (r := .agg [.str (DI.mk s 0).r, .i64 (((DI.mk s 0).e : Nat) : Int)]) Tryz.underlying58 rfl zero58 rel_zero58 rfl rfl rfl rfl) trivial rfl ?_
 refine .q (op_move rfl) trivial rfl ?_
 refine .q (op_len_str Tryz.underlying9 rfl) trivial rfl ?_
 refine .q (op_call (U := []) [] [] (rtext_ev (DI.mk s 0) h0 (s.length : Int)) Tryz.func22 (by kernel_rfl) rfl rfl rfl (⟨⟨_, rfl, rfl, rfl⟩, ⟨_, rfl, rfl, rfl⟩, trivial⟩) (trivial) (trivial) (trivial) rfl) trivial rfl ?_
 refine .as (.tup [.agg [.str ((unA s).1).r, .i64 ((((unA s).1).e : Nat) : Int)], .str (unA s).2]) rfl ?_
 refine .q (op_move rfl) trivial rfl ?_
 refine .q (op_extract rfl rfl) trivial rfl ?_
 refine .q (op_extract rfl rfl) trivial rfl ?_
 refine .a (op_allocRow zero58 rel_zero58 rfl) trivial rfl ?_
 refine .w (op_storeRow (by kernel_rfl) rfl rfl rfl rfl rfl (rfl) (rfl)) trivial rfl ?_
 refine .q (op_assign rfl) trivial rfl ?_
 refine .nil ?_
 show Ev _ _ _ _ _
 refine .seq ?_
 refine .region ?_
 refine .q (op_loadRow Tryz.underlying58 rfl (by kernel_rfl) rfl rfl rfl (rfl)) trivial rfl ?_
 refine .q (op_move rfl) trivial rfl ?_
 refine .q (op_len_str Tryz.underlying9 rfl) trivial rfl ?_
 refine .q (op_call (U := []) [] [] (rtext_ev (unA s).1 h1 (s.length : Int)) Tryz.func22 (by kernel_rfl) rfl rfl rfl (⟨⟨_, rfl, rfl, rfl⟩, ⟨_, rfl, rfl, rfl⟩, trivial⟩) (trivial) (trivial) (trivial) rfl) trivial rfl ?_
 refine .as (.tup [.agg [.str ((unB s).1).r, .i64 ((((unB s).1).e : Nat) : Int)], .str (unB s).2]) rfl ?_
 refine .q (op_move rfl) trivial rfl ?_
 refine .q (op_extract rfl rfl) trivial rfl ?_
 refine .q (op_extract rfl rfl) trivial rfl ?_
 refine .a (op_allocRow zero58 rel_zero58 rfl) trivial rfl ?_
 refine .w (op_storeRow (by kernel_rfl) rfl rfl rfl rfl rfl (rfl) (rfl)) trivial rfl ?_
 refine .q (op_assign rfl) trivial rfl ?_
 refine .nil ?_
 show Ev _ _ _ _ _
 refine .seq ?_
 refine .seq ?_
 refine .region ?_
 refine .q (op_fieldAddr (m := 0) Tryz.underlying58 rfl (by kernel_rfl) rfl) trivial rfl ?_
 refine .as (.ptr 1008 1) rfl ?_
 refine .q (op_load Tryz.underlying3 rfl rfl rfl rfl (by show 1 < 2; decide)) trivial rfl ?_
 refine .q (op_cmpI rfl rfl rfl) trivial rfl ?_
 refine .nil ?_
 show Ev _ _ _ _ _
 refine .cond_false rfl (bne_eq_false_iff_eq.2 (congrArg (fun n : Nat => (n : Int)) h)) ?_
 refine .skip ?_
 show Ev _ _ _ _ _
 refine .seq ?_
 refine .seq ?_
 refine .region ?_
 refine .q (op_fieldAddr (m := 0) Tryz.underlying58 rfl (by kernel_rfl) rfl) trivial rfl ?_
 refine .as (.ptr 1008 0) rfl ?_
 refine .q (op_load Tryz.underlying9 rfl rfl rfl rfl (by show 0 < 2; decide)) trivial rfl ?_
 refine .q (op_eqS rfl rfl rfl) trivial rfl ?_
 refine .nil ?_
 show Ev _ _ _ _ _
 refine .cond_false rfl (bne_eq_false_iff_eq.2 hr) ?_
 refine .skip ?_
 show Ev _ _ _ _ _
 refine .seq ?_
 refine .seq ?_
 refine .region ?_
 refine .q (op_move rfl) trivial rfl ?_
 refine .q (op_eqS rfl rfl rfl) trivial rfl ?_
 refine .q (op_move rfl) trivial rfl ?_
 refine .know (b' := true) (bne_iff_ne.2 h2) ?_
 refine .no ⟨_, rfl, rfl⟩ rfl ?_
 refine .no ⟨_, rfl, rfl⟩ rfl ?_
 refine .no ⟨_, rfl, rfl⟩ rfl ?_
 refine .no ⟨_, rfl, rfl⟩ rfl ?_
 refine .q (op_pick_true rfl rfl rfl) trivial rfl ?_
 refine .nil ?_
 show Ev _ _ _ _ _
 refine .cond_true rfl rfl ?_
 refine .seq ?_
 refine .region ?_
 refine .q (op_move rfl) trivial rfl ?_
 refine .q (op_assign rfl) trivial rfl ?_
 refine .q (op_assign rfl) trivial rfl ?_
 refine .nil ?_
 show Ev _ _ _ _ _
 refine .ret ?_
 show RetOk _ _ _ _ _ _ _
 exact ret2v rfl (.inl rfl) rfl rfl rfl rfl trivial
set_option maxRecDepth 100000 in
theorem ro_2 (s : List UInt8) (_hs : s.length ≤ 1000000) (size wrong : Nat) (h0 : (DI.mk s 0).ok) (h1 : (unA s).1.ok) (h : (unB s).1.e = 0) (hr : (unB s).1.r = []) (h2 : (unA s).2 = algB) (h3 : ¬ (unB s).2.length = size) : Meets Tryz.prog 11 [.str s, .i64 (size : Int), .i64 (wrong : Int)] [] (.tup [.str [], .i64 (wrong : Int)]) [] := by
 refine meets_of_ev (nt := 45) Tryz.func11 rfl rfl (Nat.le_of_ble_eq_true rfl) ?_
 refine .seq ?_
 refine .region ?_
 refine .q (op_assign rfl) trivial rfl ?_
 refine .q (op_assign rfl) trivial rfl ?_
 refine .nil ?_
 show Ev _ _ _ _ _
 refine .seq ?_
 refine .region ?_
 refine .q (op_move rfl) trivial rfl ?_
 refine .q (op_buildS (r := .agg [.str (DI.mk s 0).r, .i64 (((DI.mk s 0).e : Nat) : Int)]) Tryz.underlying58 rfl zero58 rel_zero58 rfl rfl rfl rfl) trivial rfl ?_
 refine .q (op_move rfl) trivial rfl ?_
 refine .q (op_len_str Tryz.underlying9 rfl) trivial rfl ?_
 refine .q (op_call (U := []) [] [] (rtext_ev (DI.mk s 0) h0 (s.length : Int)) Tryz.func22 (by kernel_rfl) rfl rfl rfl (⟨⟨_, rfl, rfl, rfl⟩, ⟨_, rfl, rfl, rfl⟩, trivial⟩) (trivial) (trivial) (trivial) rfl) trivial rfl ?_
 refine .as (.tup [.agg [.str ((unA s).1).r, .i64 ((((unA s).1).e : Nat) : Int)], .str (unA s).2]) rfl ?_
 refine .q (op_move rfl) trivial rfl ?_
 refine .q (op_extract rfl rfl) trivial rfl ?_
 refine .q (op_extract rfl rfl) trivial rfl ?_
 refine .a (op_allocRow zero58 rel_zero58 rfl) trivial rfl ?_
 refine .w (op_storeRow (by kernel_rfl) rfl rfl rfl rfl rfl (rfl) (rfl)) trivial rfl ?_
 refine .q (op_assign rfl) trivial rfl ?_
 refine .nil ?_
 show Ev _ _ _ _ _
 refine .seq ?_
 refine .region ?_
 refine .q (op_loadRow Tryz.underlying58 rfl (by kernel_rfl) rfl rfl rfl (rfl)) trivial rfl ?_
 refine .q (op_move rfl) trivial rfl ?_
 refine .q (op_len_str Tryz.underlying9 rfl) trivial rfl ?_
 refine .q (op_call (U := []) [] [] (rtext_ev (unA s).1 h1 (s.length : Int)) Tryz.func22 (by kernel_rfl) rfl rfl rfl (⟨⟨_, rfl, rfl, rfl⟩, ⟨_, rfl, rfl, rfl⟩, trivial⟩) (trivial) (trivial) (trivial) rfl) trivial rfl ?_
 refine .as (.tup [.agg [.str ((unB s).1).r, .i64 ((((unB s).1).e : Nat) : Int)], .str (unB s).2]) rfl ?_
 refine .q (op_move rfl) trivial rfl ?_
 refine .q (op_extract rfl rfl) trivial rfl ?_
 refine .q (op_extract rfl rfl) trivial rfl ?_
 refine .a (op_allocRow zero58 rel_zero58 rfl) trivial rfl ?_
 refine .w (op_storeRow (by kernel_rfl) rfl rfl rfl rfl rfl (rfl) (rfl)) trivial rfl ?_
 refine .q (op_assign rfl) trivial rfl ?_
 refine .nil ?_
 show Ev _ _ _ _ _
 refine .seq ?_
 refine .seq ?_
 refine .region ?_
 refine .q (op_fieldAddr (m := 0) Tryz.underlying58 rfl (by kernel_rfl) rfl) trivial rfl ?_
 refine .as (.ptr 1008 1) rfl ?_
 refine .q (op_load Tryz.underlying3 rfl rfl rfl rfl (by show 1 < 2; decide)) trivial rfl ?_
 refine .q (op_cmpI rfl rfl rfl) trivial rfl ?_
 refine .nil ?_
 show Ev _ _ _ _ _
 refine .cond_false rfl (bne_eq_false_iff_eq.2 (congrArg (fun n : Nat => (n : Int)) h)) ?_
 refine .skip ?_
 show Ev _ _ _ _ _
 refine .seq ?_
 refine .seq ?_
 refine .region ?_
 refine .q (op_fieldAddr (m := 0) Tryz.underlying58 rfl (by kernel_rfl) rfl) trivial rfl ?_
 refine .as (.ptr 1008 0) rfl ?_
 refine .q (op_load Tryz.underlying9 rfl rfl rfl rfl (by show 0 < 2; decide)) trivial rfl ?_
 refine .q (op_eqS rfl rfl rfl) trivial rfl ?_
 refine .nil ?_
 show Ev _ _ _ _ _
 refine .cond_false rfl (bne_eq_false_iff_eq.2 hr) ?_
 refine .skip ?_
 show Ev _ _ _ _ _
 refine .seq ?_
 refine .seq ?_
 refine .region ?_
 refine .q (op_move rfl) trivial rfl ?_
 refine .q (op_eqS rfl rfl rfl) trivial rfl ?_
 refine .q (op_move rfl) trivial rfl ?_
 refine .know (b' := false) (bne_eq_false_iff_eq.2 h2) ?_
 refine .q (op_move rfl) ⟨_, rfl, rfl⟩ rfl ?_
 refine .q (op_len_str Tryz.underlying9 rfl) ⟨_, rfl, rfl⟩ rfl ?_
 refine .q (op_move rfl) ⟨_, rfl, rfl⟩ rfl ?_
 refine .q (op_cmpI rfl rfl rfl) ⟨_, rfl, rfl⟩ rfl ?_
 refine .q (op_pick_false rfl rfl rfl) trivial rfl ?_
 refine .nil ?_
 show Ev _ _ _ _ _
 refine .cond_true rfl (bne_iff_ne.2 (fun e => h3 (Int.ofNat.inj e))) ?_
 refine .seq ?_
 refine .region ?_
 refine .q (op_move rfl) trivial rfl ?_
 refine .q (op_assign rfl) trivial rfl ?_
 refine .q (op_assign rfl) trivial rfl ?_
 refine .nil ?_
 show Ev _ _ _ _ _
 refine .ret ?_
 show RetOk _ _ _ _ _ _ _
 exact ret2v rfl (.inl rfl) rfl rfl rfl rfl trivial
set_option maxRecDepth 100000 in
theorem ro_ok (s : List UInt8) (_hs : s.length ≤ 1000000) (size wrong : Nat) (h0 : (DI.mk s 0).ok) (h1 : (unA s).1.ok) (h : (unB s).1.e = 0) (hr : (unB s).1.r = []) (h2 : (unA s).2 = algB) (h3 : (unB s).2.length = size) : Meets Tryz.prog 11 [.str s, .i64 (size : Int), .i64 (wrong : Int)] [] (.tup [.str (unB s).2, .i64 ((0 : Nat) : Int)]) [] := by
 refine meets_of_ev (nt := 45) Tryz.func11 rfl rfl (Nat.le_of_ble_eq_true rfl) ?_
 refine .seq ?_
 refine .region ?_
 refine .q (op_assign rfl) trivial rfl ?_
 refine .q (op_assign rfl) trivial rfl ?_
 refine .nil ?_
 show Ev _ _ _ _ _
 refine .seq ?_
 refine .region ?_
 refine .q (op_move rfl) trivial rfl ?_
 refine .q (op_buildS (r := .agg [.str (DI.mk s 0).r, .i64 (((DI.mk s 0).e : Nat) : Int)]) Tryz.underlying58 rfl zero58 rel_zero58 rfl rfl rfl rfl) trivial rfl ?_
 refine .q (op_move rfl) trivial rfl ?_
 refine .q (op_len_str Tryz.underlying9 rfl) trivial rfl ?_
 refine .q (op_call (U := []) [] [] (rtext_ev (DI.mk s 0) h0 (s.length : Int)) Tryz.func22 (by kernel_rfl) rfl rfl rfl (⟨⟨_, rfl, rfl, rfl⟩, ⟨_, rfl, rfl, rfl⟩, trivial⟩) (trivial) (trivial) (trivial) rfl) trivial rfl ?_
 refine .as (.tup [.agg [.str ((unA s).1).r, .i64 ((((unA s).1).e : Nat) : Int)], .str (unA s).2]) rfl ?_
 refine .q (op_move rfl) trivial rfl ?_
 refine .q (op_extract rfl rfl) trivial rfl ?_
 refine .q (op_extract rfl rfl) trivial rfl ?_
 refine .a (op_allocRow zero58 rel_zero58 rfl) trivial rfl ?_
 refine .w (op_storeRow (by kernel_rfl) rfl rfl rfl rfl rfl (rfl) (rfl)) trivial rfl ?_
 refine .q (op_assign rfl) trivial rfl ?_
 refine .nil ?_
 show Ev _ _ _ _ _
 refine .seq ?_
 refine .region ?_
 refine .q (op_loadRow Tryz.underlying58 rfl (by kernel_rfl) rfl rfl rfl (rfl)) trivial rfl ?_
 refine .q (op_move rfl) trivial rfl ?_
 refine .q (op_len_str Tryz.underlying9 rfl) trivial rfl ?_
 refine .q (op_call (U := []) [] [] (rtext_ev (unA s).1 h1 (s.length : Int)) Tryz.func22 (by kernel_rfl) rfl rfl rfl (⟨⟨_, rfl, rfl, rfl⟩, ⟨_, rfl, rfl, rfl⟩, trivial⟩) (trivial) (trivial) (trivial) rfl) trivial rfl ?_
 refine .as (.tup [.agg [.str ((unB s).1).r, .i64 ((((unB s).1).e : Nat) : Int)], .str (unB s).2]) rfl ?_
 refine .q (op_move rfl) trivial rfl ?_
 refine .q (op_extract rfl rfl) trivial rfl ?_
 refine .q (op_extract rfl rfl) trivial rfl ?_
 refine .a (op_allocRow zero58 rel_zero58 rfl) trivial rfl ?_
 refine .w (op_storeRow (by kernel_rfl) rfl rfl rfl rfl rfl (rfl) (rfl)) trivial rfl ?_
 refine .q (op_assign rfl) trivial rfl ?_
 refine .nil ?_
 show Ev _ _ _ _ _
 refine .seq ?_
 refine .seq ?_
 refine .region ?_
 refine .q (op_fieldAddr (m := 0) Tryz.underlying58 rfl (by kernel_rfl) rfl) trivial rfl ?_
 refine .as (.ptr 1008 1) rfl ?_
 refine .q (op_load Tryz.underlying3 rfl rfl rfl rfl (by show 1 < 2; decide)) trivial rfl ?_
 refine .q (op_cmpI rfl rfl rfl) trivial rfl ?_
 refine .nil ?_
 show Ev _ _ _ _ _
 refine .cond_false rfl (bne_eq_false_iff_eq.2 (congrArg (fun n : Nat => (n : Int)) h)) ?_
 refine .skip ?_
 show Ev _ _ _ _ _
 refine .seq ?_
 refine .seq ?_
 refine .region ?_
 refine .q (op_fieldAddr (m := 0) Tryz.underlying58 rfl (by kernel_rfl) rfl) trivial rfl ?_
 refine .as (.ptr 1008 0) rfl ?_
 refine .q (op_load Tryz.underlying9 rfl rfl rfl rfl (by show 0 < 2; decide)) trivial rfl ?_
 refine .q (op_eqS rfl rfl rfl) trivial rfl ?_
 refine .nil ?_
 show Ev _ _ _ _ _
 refine .cond_false rfl (bne_eq_false_iff_eq.2 hr) ?_
 refine .skip ?_
 show Ev _ _ _ _ _
 refine .seq ?_
 refine .seq ?_
 refine .region ?_
 refine .q (op_move rfl) trivial rfl ?_
 refine .q (op_eqS rfl rfl rfl) trivial rfl ?_
 refine .q (op_move rfl) trivial rfl ?_
 refine .know (b' := false) (bne_eq_false_iff_eq.2 h2) ?_
 refine .q (op_move rfl) ⟨_, rfl, rfl⟩ rfl ?_
 refine .q (op_len_str Tryz.underlying9 rfl) ⟨_, rfl, rfl⟩ rfl ?_
 refine .q (op_move rfl) ⟨_, rfl, rfl⟩ rfl ?_
 refine .q (op_cmpI rfl rfl rfl) ⟨_, rfl, rfl⟩ rfl ?_
 refine .q (op_pick_false rfl rfl rfl) trivial rfl ?_
 refine .nil ?_
 show Ev _ _ _ _ _
 refine .cond_false rfl (bne_eq_false_iff_eq.2 (congrArg (fun n : Nat => (n : Int)) h3)) ?_
 refine .skip ?_
 show Ev _ _ _ _ _
 refine .seq ?_
 refine .region ?_
 refine .q (op_move rfl) trivial rfl ?_
 refine .q (op_assign rfl) trivial rfl ?_
 refine .q (op_assign rfl) trivial rfl ?_
 refine .nil ?_
 show Ev _ _ _ _ _
 refine .ret ?_
 show RetOk _ _ _ _ _ _ _
 exact ret2v rfl (.inl rfl) rfl rfl rfl rfl trivial
theorem ropen_ev (s : List UInt8) (hs : s.length ≤ 1000000) (size wrong : Nat) : Meets Tryz.prog 11 [.str s, .i64 (size : Int), .i64 (wrong : Int)] [] (.tup [.str (unbD s size wrong).1, .i64 (((unbD s size wrong).2 : Nat) : Int)]) [] := by
 have h0 : (DI.mk s 0).ok := fun h => absurd rfl h
 have h1 : (unA s).1.ok := textD_ok h0 _
 by_cases h : (unB s).1.e = 0
 ·by_cases hr : (unB s).1.r = []
  ·have hE := unE_0 h hr
   by_cases h2 : (unA s).2 = algB
   ·by_cases h3 : (unB s).2.length = size
    ·rw [unbD_ok hE ⟨h2, h3⟩]; exact ro_ok s hs size wrong h0 h1 h hr h2 h3
    ·rw [unbD_no hE (fun x => h3 x.2)]; exact ro_2 s hs size wrong h0 h1 h hr h2 h3
   ·rw [unbD_no hE (fun x => h2 x.1)]; exact ro_1 s hs size wrong h0 h1 h hr h2
  ·have hE := unE_r h hr
   rw [unbD_err (by rw [hE]; decide), hE]; exact ro_r s hs size wrong h0 h1 h hr
 ·have hE := unE_e h
  rw [unbD_err (by rw [hE]; exact h), hE]; exact ro_e s hs size wrong h0 h1 h
end Go.Proofs.YtaelhapmikijnaaGreatDoor
