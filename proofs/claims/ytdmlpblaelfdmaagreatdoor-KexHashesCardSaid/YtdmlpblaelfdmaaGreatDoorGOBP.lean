/-
  Texts of this claim.
-/
import Derived.Test.YtdmlpblaelfdmaaGreatDoorGOAP
import Derived.Test.YtdmlpblaelfdmaaGreatDoorGF3P
import Derived.Test.YtdmlpblaelfdmaaGreatDoorGK7P
import Derived.Test.YtdmlpblaelfdmaaGreatDoorGK5P
import Derived.Test.YtdmlpblaelfdmaaGreatDoorGE2P
namespace Go.Proofs.YtdmlpblaelfdmaaGreatDoor
open Go.RowKit
theorem bsz14 : List.replicate 32 (0 : UInt8) = bsN 0 32 := by decide
theorem bs_ne14 (v : Nat) (h : v < fp) (h0 : v ≠ 0) : (bsN v 32 != List.replicate 32 0) = true := by
  rw [bsz14]
  have : bsN v 32 ≠ bsN 0 32 := fun e => h0 (bsN_inj h fpos e)
  simpa using this
def ka14 : List UInt8 := [1, 0, 0, 0, 0, 0, 0, 0, 0, 0, 0, 0, 0, 0, 0, 0, 0, 0, 0, 0, 0, 0, 0, 0, 0, 0, 0, 0, 0, 0, 0, 0]
def kb14 : List UInt8 := [9, 0, 0, 0, 0, 0, 0, 0, 0, 0, 0, 0, 0, 0, 0, 0, 0, 0, 0, 0, 0, 0, 0, 0, 0, 0, 0, 0, 0, 0, 0, 0]
def w14 : Nat := tmV (usL ka14) (ofV (bsN (tmV (usL kb14) 9) 32))
theorem w14_ne : w14 ≠ 0 := by
  unfold w14
  rw [of_bytes _ (tmV_lt _ _), tmC_eq _ _ (tmV_lt _ _), tmC_eq _ _ (by decide)]
  decide +kernel
theorem w14_lt : w14 < fp := tmV_lt _ _
theorem ofz14 : ofV (List.replicate 32 0) = 0 := by rw [bsz14]; exact of_bytes 0 fpos
theorem z14 : tmV (usL ka14) (ofV (List.replicate 32 0)) = 0 := by
  rw [ofz14, tmC_eq _ _ fpos]
  decide +kernel
set_option maxRecDepth 100000 in
theorem wrapK_ev (ws : List UInt8) (x : Nat) (eo : Nat → Nat × Nat) : Meets Tryz.prog 46 [.str ws, .err 269 (x + 1) (offE eo (x + 1))] [] (.ifc 102 (.ptr 1000 0)) [(1000, some ⟨.agg [.str ws, .err 269 (x + 1) (offE eo (x + 1))], 106, true⟩)] := by
 refine meets_of_ev (nt := 12) Tryz.func46 rfl rfl (Nat.le_of_ble_eq_true rfl) ?_
 refine .seq ?_
 refine .region ?_
 refine .q (op_assign rfl) trivial rfl ?_
 refine .nil ?_
 show Ev _ _ _ _ _
 refine .seq ?_
 refine .seq ?_
 refine .region ?_
 refine .q (op_move rfl) trivial rfl ?_
 refine .q (op_eqErrNil (e := x + 1) Tryz.underlying36 rfl rfl) trivial rfl ?_
 refine .nil ?_
 show Ev _ _ _ _ _
 refine .cond_false rfl (rfl) ?_
 refine .skip ?_
 show Ev _ _ _ _ _
 refine .seq ?_
 refine .region ?_
 refine .q (op_move rfl) trivial rfl ?_
 refine .q (op_move rfl) trivial rfl ?_
 refine .q (op_buildS (r := .agg _) Tryz.underlying106 rfl zero106 rel_zero106 rfl rfl rfl rfl) trivial rfl ?_
 refine .a (op_boxRow rfl rfl) trivial rfl ?_
 refine .q (op_makeIface (by kernel_rfl) rfl) trivial rfl ?_
 refine .q (op_assign rfl) trivial rfl ?_
 refine .nil ?_
 show Ev _ _ _ _ _
 refine .ret ?_
 show RetOk _ _ _ _ _ _ _
 exact ret1v rfl (.inl rfl) rfl rfl ⟨rfl, trivial⟩
set_option maxRecDepth 100000 in
theorem share_ok (e v : Nat) (K Q : List UInt8) (hK : K.length = 32) (hQ : Q.length = 32) (hv : v = tmV (usL K) (ofV Q)) (h : v ≠ 0) (_eo : Nat → Nat × Nat) : Meets Tryz.prog 32 [.aggB K, .aggB Q] [(23, some ⟨.agg64 primeL, e, false⟩)] (.tup [.aggB (bsN v 32), .val .nilIface]) [] := by
 refine meets_of_ev (nt := 20) Tryz.func32 rfl rfl (Nat.le_of_ble_eq_true rfl) ?_
 refine .seq ?_
 refine .region ?_
 refine .a (op_boxRow rfl rfl) trivial rfl ?_
 refine .a (op_boxRow rfl rfl) trivial rfl ?_
 refine .a (op_allocRow zero24 rel_zero24 rfl) trivial rfl ?_
 refine .q (op_assign rfl) trivial rfl ?_
 refine .nil ?_
 show Ev _ _ _ _ _
 refine .seq ?_
 refine .region ?_
 refine .q (op_loadRow Tryz.underlying24 rfl sz24 rfl rfl rfl (by first | (simp only [AV.len]; done) | assumption | (simp only [AV.ren, AV.len, length_bsN, List.length_replicate]; first | assumption | omega) | omega)) trivial rfl ?_
 refine .q (op_loadRow Tryz.underlying24 rfl sz24 rfl rfl rfl (by first | (simp only [AV.len]; done) | assumption | (simp only [AV.ren, AV.len, length_bsN, List.length_replicate]; first | assumption | omega) | omega)) trivial rfl ?_
 refine .q (op_call (U := []) [] [] (cmult_ev e K Q hK hQ) Tryz.func33 (by kernel_rfl) rfl rfl rfl (⟨⟨_, rfl, rfl, rfl⟩, ⟨_, rfl, rfl, rfl⟩, trivial⟩) (⟨⟨_, _, rfl, rfl, rfl, rfl, (fun h => by cases h), rfl⟩, trivial⟩) (trivial) (⟨(fun h => by cases h), trivial⟩) rfl) trivial rfl ?_
 refine .as (.tup [.aggB (bsN v 32), .bool true]) (by rw [← hv, decide_eq_false h]; rfl) ?_
 refine .q (op_move rfl) trivial rfl ?_
 refine .q (op_extract rfl rfl) trivial rfl ?_
 refine .q (op_extract rfl rfl) trivial rfl ?_
 refine .a (op_allocRow zero24 rel_zero24 rfl) trivial rfl ?_
 refine .w (op_storeRow sz24 rfl rfl rfl rfl rfl (by first | (simp only [AV.len, length_bsN]; done) | assumption | (simp only [AV.ren, AV.len, length_bsN, List.length_replicate]; first | assumption | omega) | omega) (by first | (simp only [AV.len, List.length_replicate]; done) | assumption | (simp only [AV.ren, AV.len, length_bsN, List.length_replicate]; first | assumption | omega) | omega)) trivial rfl ?_
 refine .q (op_assign rfl) trivial rfl ?_
 refine .nil ?_
 show Ev _ _ _ _ _
 refine .seq ?_
 refine .seq ?_
 refine .region ?_
 refine .q (op_move rfl) trivial rfl ?_
 refine .q (op_notB rfl) trivial rfl ?_
 refine .nil ?_
 show Ev _ _ _ _ _
 refine .cond_false rfl (rfl) ?_
 refine .skip ?_
 show Ev _ _ _ _ _
 refine .seq ?_
 refine .region ?_
 refine .q (op_loadRow Tryz.underlying24 rfl sz24 rfl rfl rfl (by first | (simp only [AV.len, length_bsN]; done) | assumption | (simp only [AV.ren, AV.len, length_bsN, List.length_replicate]; first | assumption | omega) | omega)) trivial rfl ?_
 refine .w (op_storeRow sz24 rfl rfl rfl rfl rfl (by first | (simp only [AV.len, length_bsN]; done) | assumption | (simp only [AV.ren, AV.len, length_bsN, List.length_replicate]; first | assumption | omega) | omega) (by first | (simp only [AV.len, List.length_replicate]; done) | assumption | (simp only [AV.ren, AV.len, length_bsN, List.length_replicate]; first | assumption | omega) | omega)) trivial rfl ?_
 refine .q (op_assign rfl) trivial rfl ?_
 refine .nil ?_
 show Ev _ _ _ _ _
 refine .ret ?_
 show RetOk _ _ _ _ _ _ _
 exact retc2 rfl (.inl rfl) ⟨_, _, _, _, rfl, rfl, rfl, rfl, (length_bsN v 32), Tryz.underlying24, rfl, sz24⟩ rfl trivial
set_option maxRecDepth 100000 in
theorem share_bad (e v : Nat) (K Q : List UInt8) (hK : K.length = 32) (hQ : Q.length = 32) (hv : v = tmV (usL K) (ofV Q)) (h : v = 0) (eo : Nat → Nat × Nat) : Meets Tryz.prog 32 [.aggB K, .aggB Q] [(23, some ⟨.agg64 primeL, e, false⟩), (9, some ⟨.agg [.err 269 (10) (offE eo (10))], errT, false⟩)] (.tup [.aggB (List.replicate 32 0), .ifc 102 (.ptr 1032 0)]) [(1032, some ⟨.agg [.str [107, 101, 120], .err 269 (9 + 1) (offE eo (9 + 1))], 106, true⟩)] := by
 refine meets_of_ev (nt := 20) Tryz.func32 rfl rfl (Nat.le_of_ble_eq_true rfl) ?_
 refine .seq ?_
 refine .region ?_
 refine .a (op_boxRow rfl rfl) trivial rfl ?_
 refine .a (op_boxRow rfl rfl) trivial rfl ?_
 refine .a (op_allocRow zero24 rel_zero24 rfl) trivial rfl ?_
 refine .q (op_assign rfl) trivial rfl ?_
 refine .nil ?_
 show Ev _ _ _ _ _
 refine .seq ?_
 refine .region ?_
 refine .q (op_loadRow Tryz.underlying24 rfl sz24 rfl rfl rfl (by first | (simp only [AV.len]; done) | assumption | (simp only [AV.ren, AV.len, length_bsN, List.length_replicate]; first | assumption | omega) | omega)) trivial rfl ?_
 refine .q (op_loadRow Tryz.underlying24 rfl sz24 rfl rfl rfl (by first | (simp only [AV.len]; done) | assumption | (simp only [AV.ren, AV.len, length_bsN, List.length_replicate]; first | assumption | omega) | omega)) trivial rfl ?_
 refine .q (op_call (U := []) [] [] (cmult_ev e K Q hK hQ) Tryz.func33 (by kernel_rfl) rfl rfl rfl (⟨⟨_, rfl, rfl, rfl⟩, ⟨_, rfl, rfl, rfl⟩, trivial⟩) (⟨⟨_, _, rfl, rfl, rfl, rfl, (fun h => by cases h), rfl⟩, trivial⟩) (trivial) (⟨(fun h => by cases h), trivial⟩) rfl) trivial rfl ?_
 refine .as (.tup [.aggB (bsN v 32), .bool false]) (by rw [← hv, decide_eq_true h]; rfl) ?_
 refine .q (op_move rfl) trivial rfl ?_
 refine .q (op_extract rfl rfl) trivial rfl ?_
 refine .q (op_extract rfl rfl) trivial rfl ?_
 refine .a (op_allocRow zero24 rel_zero24 rfl) trivial rfl ?_
 refine .w (op_storeRow sz24 rfl rfl rfl rfl rfl (by first | (simp only [AV.len, length_bsN]; done) | assumption | (simp only [AV.ren, AV.len, length_bsN, List.length_replicate]; first | assumption | omega) | omega) (by first | (simp only [AV.len, List.length_replicate]; done) | assumption | (simp only [AV.ren, AV.len, length_bsN, List.length_replicate]; first | assumption | omega) | omega)) trivial rfl ?_
 refine .q (op_assign rfl) trivial rfl ?_
 refine .nil ?_
 show Ev _ _ _ _ _
 refine .seq ?_
 refine .seq ?_
 refine .region ?_
 refine .q (op_move rfl) trivial rfl ?_
 refine .q (op_notB rfl) trivial rfl ?_
 refine .nil ?_
 show Ev _ _ _ _ _
 refine .cond_true rfl (rfl) ?_
 refine .seq ?_
 refine .region ?_
 refine .q (op_buildArr (us := []) Tryz.underlying24 inf5.sz zero24 rel_zero24 rfl (by decide) trivial rfl) trivial rfl ?_
 refine .q (op_load Tryz.underlying36 rfl rfl rfl rfl (by first | omega | (simp only [AV.len]; omega) | (simp only [AV.len]; omega) | assumption | (simp [AV.len]; done))) trivial rfl ?_
 refine .a (op_call (U := [(1032, some ⟨.agg [.str [107, 101, 120], .err 269 (9 + 1) (offE eo (9 + 1))], 106, true⟩)]) [] [(1032, 1000)] (wrapK_ev [107, 101, 120] 9 eo) Tryz.func46 (by kernel_rfl) rfl rfl rfl (⟨⟨_, rfl, rfl, rfl⟩, ⟨_, rfl, rfl, rfl⟩, trivial⟩) (trivial) (⟨⟨1000, _, rfl, rfl, rfl, rfl, .inl rfl⟩, trivial⟩) (trivial) rfl) trivial rfl ?_
 refine .w (op_storeRow sz24 rfl rfl rfl rfl rfl (by first | (simp only [AV.len, List.length_replicate]; done) | assumption | (simp only [AV.ren, AV.len, length_bsN, List.length_replicate]; first | assumption | omega) | omega) (by first | (simp only [AV.len, List.length_replicate]; done) | assumption | (simp only [AV.ren, AV.len, length_bsN, List.length_replicate]; first | assumption | omega) | omega)) trivial rfl ?_
 refine .q (op_assign rfl) trivial rfl ?_
 refine .nil ?_
 show Ev _ _ _ _ _
 refine .ret ?_
 show RetOk _ _ _ _ _ _ _
 exact retc2 rfl (.inl rfl) ⟨_, _, _, _, rfl, rfl, rfl, rfl, (List.length_replicate), Tryz.underlying24, rfl, sz24⟩ rfl ⟨rfl, trivial⟩
set_option maxHeartbeats 1000000 in
set_option maxRecDepth 100000 in
theorem awake14_ev (e ek ty : Nat) (eo : Nat → Nat × Nat) (hd : ∀ i j, i < 20 → j < 20 → i ≠ j → eo i ≠ eo j) : Meets Tryz.prog 24 [] [(23, some ⟨.agg64 primeL, e, false⟩), (21, some ⟨.agg32 K256, ek, false⟩), (20, some ⟨hndE, ty, false⟩), (2, some ⟨.agg [.err 269 (1) (offE eo (1))], errT, false⟩), (0, some ⟨.agg [.err 269 (2) (offE eo (2))], errT, false⟩), (3, some ⟨.agg [.err 269 (3) (offE eo (3))], errT, false⟩), (1, some ⟨.agg [.err 269 (4) (offE eo (4))], errT, false⟩), (4, some ⟨.agg [.err 269 (5) (offE eo (5))], errT, false⟩), (5, some ⟨.agg [.err 269 (6) (offE eo (6))], errT, false⟩), (6, some ⟨.agg [.err 269 (7) (offE eo (7))], errT, false⟩), (7, some ⟨.agg [.err 269 (8) (offE eo (8))], errT, false⟩), (8, some ⟨.agg [.err 269 (9) (offE eo (9))], errT, false⟩), (9, some ⟨.agg [.err 269 (10) (offE eo (10))], errT, false⟩), (10, some ⟨.agg [.err 269 (11) (offE eo (11))], errT, false⟩), (11, some ⟨.agg [.err 269 (12) (offE eo (12))], errT, false⟩), (12, some ⟨.agg [.err 269 (13) (offE eo (13))], errT, false⟩), (13, some ⟨.agg [.err 269 (14) (offE eo (14))], errT, false⟩), (14, some ⟨.agg [.err 269 (15) (offE eo (15))], errT, false⟩), (15, some ⟨.agg [.err 269 (16) (offE eo (16))], errT, false⟩), (16, some ⟨.agg [.err 269 (17) (offE eo (17))], errT, false⟩), (17, some ⟨.agg [.err 269 (18) (offE eo (18))], errT, false⟩), (18, some ⟨.agg [.err 269 (19) (offE eo (19))], errT, false⟩), (19, some ⟨.agg [.err 269 (20) (offE eo (20))], errT, false⟩), (401, some ⟨.agg [], errT, false⟩), (402, some ⟨.agg [], errT, false⟩), (403, some ⟨.agg [], errT, false⟩), (404, some ⟨.agg [], errT, false⟩), (405, some ⟨.agg [], errT, false⟩), (406, some ⟨.agg [], errT, false⟩), (407, some ⟨.agg [], errT, false⟩), (408, some ⟨.agg [], errT, false⟩), (409, some ⟨.agg [], errT, false⟩), (410, some ⟨.agg [], errT, false⟩), (411, some ⟨.agg [], errT, false⟩), (412, some ⟨.agg [], errT, false⟩), (413, some ⟨.agg [], errT, false⟩), (414, some ⟨.agg [], errT, false⟩), (415, some ⟨.agg [], errT, false⟩), (416, some ⟨.agg [], errT, false⟩), (417, some ⟨.agg [], errT, false⟩), (418, some ⟨.agg [], errT, false⟩), (419, some ⟨.agg [], errT, false⟩), (420, some ⟨.agg [], errT, false⟩)] (.bool true) [] := by
 refine meets_of_ev (nt := 43) Tryz.func24 rfl rfl (Nat.le_of_ble_eq_true rfl) ?_
 refine .seq ?_
 refine .region ?_
 refine .q (op_assign rfl) trivial rfl ?_
 refine .nil ?_
 show Ev _ _ _ _ _
 refine .seq ?_
 refine .region ?_
 refine .q (op_buildArr (us := [(0, _)]) Tryz.underlying24 inf5.sz zero24 rel_zero24 rfl (by decide) ⟨rfl, rfl, rfl, trivial⟩ rfl) trivial rfl ?_
 refine .as (.aggB ka14) rfl ?_
 refine .q (op_buildArr (us := []) Tryz.underlying24 inf5.sz zero24 rel_zero24 rfl (by decide) trivial rfl) trivial rfl ?_
 refine .a (op_call (U := [(1000, some ⟨.agg [.str [107, 101, 120], .err 269 (9 + 1) (offE eo (9 + 1))], 106, true⟩)]) [] [(1000, 1032)] (share_bad e 0 ka14 (List.replicate 32 0) rfl rfl z14.symm rfl eo) Tryz.func32 (by kernel_rfl) rfl rfl rfl (⟨⟨_, rfl, rfl, rfl⟩, ⟨_, rfl, rfl, rfl⟩, trivial⟩) (⟨⟨_, _, rfl, rfl, rfl, rfl, (fun h => by cases h), rfl⟩, ⟨_, _, rfl, rfl, rfl, rfl, (fun h => by cases h), rfl⟩, trivial⟩) (⟨⟨1032, _, rfl, rfl, rfl, rfl, .inl rfl⟩, trivial⟩) (⟨(fun h => by cases h), (fun h => by cases h), trivial⟩) rfl) trivial rfl ?_
 refine .q (op_move rfl) trivial rfl ?_
 refine .q (op_extract rfl rfl) trivial rfl ?_
 refine .q (op_extract rfl rfl) trivial rfl ?_
 refine .a (op_allocRow zero24 rel_zero24 rfl) trivial rfl ?_
 refine .w (op_storeRow sz24 rfl rfl rfl rfl rfl (by first | (simp only [AV.ren, AV.len, List.length_replicate]; done) | assumption | (simp only [AV.ren, AV.len, length_bsN, List.length_replicate]; first | assumption | omega) | omega) (by first | (simp only [AV.len, List.length_replicate]; done) | assumption | (simp only [AV.ren, AV.len, length_bsN, List.length_replicate]; first | assumption | omega) | omega)) trivial rfl ?_
 refine .q (op_assign rfl) trivial rfl ?_
 refine .nil ?_
 show Ev _ _ _ _ _
 refine .seq ?_
 refine .region ?_
 refine .q (op_buildArr (us := [(0, _)]) Tryz.underlying24 inf5.sz zero24 rel_zero24 rfl (by decide) ⟨rfl, rfl, rfl, trivial⟩ rfl) trivial rfl ?_
 refine .as (.aggB ka14) rfl ?_
 refine .q (op_buildArr (us := [(0, _)]) Tryz.underlying24 inf5.sz zero24 rel_zero24 rfl (by decide) ⟨rfl, rfl, rfl, trivial⟩ rfl) trivial rfl ?_
 refine .as (.aggB kb14) rfl ?_
 refine .q (op_call (U := []) [] [] (cbase_ev e kb14 rfl) Tryz.func31 (by kernel_rfl) rfl rfl rfl (⟨⟨_, rfl, rfl, rfl⟩, trivial⟩) (⟨⟨_, _, rfl, rfl, rfl, rfl, (fun h => by cases h), rfl⟩, trivial⟩) (trivial) (⟨(fun h => by cases h), trivial⟩) rfl) trivial rfl ?_
 refine .as (.aggB (bsN (tmV (usL kb14) 9) 32)) rfl ?_
 refine .q (op_call (U := []) [] [] (share_ok e w14 ka14 (bsN (tmV (usL kb14) 9) 32) rfl (length_bsN _ _) rfl w14_ne eo) Tryz.func32 (by kernel_rfl) rfl rfl rfl (⟨⟨_, rfl, rfl, rfl⟩, ⟨_, rfl, rfl, rfl⟩, trivial⟩) (⟨⟨_, _, rfl, rfl, rfl, rfl, (fun h => by cases h), rfl⟩, trivial⟩) (trivial) (⟨(fun h => by cases h), trivial⟩) rfl) trivial rfl ?_
 refine .q (op_move rfl) trivial rfl ?_
 refine .q (op_extract rfl rfl) trivial rfl ?_
 refine .q (op_extract rfl rfl) trivial rfl ?_
 refine .a (op_allocRow zero24 rel_zero24 rfl) trivial rfl ?_
 refine .w (op_storeRow sz24 rfl rfl rfl rfl rfl (by first | (simp only [AV.ren, AV.len, length_bsN]; done) | assumption | (simp only [AV.ren, AV.len, length_bsN, List.length_replicate]; first | assumption | omega) | omega) (by first | (simp only [AV.len, List.length_replicate]; done) | assumption | (simp only [AV.ren, AV.len, length_bsN, List.length_replicate]; first | assumption | omega) | omega)) trivial rfl ?_
 refine .q (op_assign rfl) trivial rfl ?_
 refine .nil ?_
 show Ev _ _ _ _ _
 refine .seq ?_
 refine .region ?_
 refine .q (op_move rfl) trivial rfl ?_
 refine .q (op_call (U := []) [(500, 1000)] [] (codeF_10 eo hd [107, 101, 120] 106) Tryz.func15 (by kernel_rfl) rfl rfl rfl (⟨⟨_, rfl, rfl, rfl⟩, trivial⟩) (⟨⟨_, _, rfl, rfl, rfl, rfl, (fun h => by cases h), rfl⟩, ⟨_, _, rfl, rfl, rfl, rfl, (fun h => by cases h), rfl⟩, ⟨_, _, rfl, rfl, rfl, rfl, (fun h => by cases h), rfl⟩, ⟨_, _, rfl, rfl, rfl, rfl, (fun h => by cases h), rfl⟩, ⟨_, _, rfl, rfl, rfl, rfl, (fun h => by cases h), rfl⟩, ⟨_, _, rfl, rfl, rfl, rfl, (fun h => by cases h), rfl⟩, ⟨_, _, rfl, rfl, rfl, rfl, (fun h => by cases h), rfl⟩, ⟨_, _, rfl, rfl, rfl, rfl, (fun h => by cases h), rfl⟩, ⟨_, _, rfl, rfl, rfl, rfl, (fun h => by cases h), rfl⟩, ⟨_, _, rfl, rfl, rfl, rfl, (fun h => by cases h), rfl⟩, ⟨_, _, rfl, rfl, rfl, rfl, (fun h => by cases h), rfl⟩, ⟨_, _, rfl, rfl, rfl, rfl, (fun h => by cases h), rfl⟩, ⟨_, _, rfl, rfl, rfl, rfl, (fun h => by cases h), rfl⟩, ⟨_, _, rfl, rfl, rfl, rfl, (fun h => by cases h), rfl⟩, ⟨_, _, rfl, rfl, rfl, rfl, (fun h => by cases h), rfl⟩, ⟨_, _, rfl, rfl, rfl, rfl, (fun h => by cases h), rfl⟩, ⟨_, _, rfl, rfl, rfl, rfl, (fun h => by cases h), rfl⟩, ⟨_, _, rfl, rfl, rfl, rfl, (fun h => by cases h), rfl⟩, ⟨_, _, rfl, rfl, rfl, rfl, (fun h => by cases h), rfl⟩, ⟨_, _, rfl, rfl, rfl, rfl, (fun h => by cases h), rfl⟩, ⟨_, _, rfl, rfl, rfl, rfl, (fun h => by cases h), rfl⟩, ⟨_, _, rfl, rfl, rfl, rfl, (fun h => by cases h), rfl⟩, ⟨_, _, rfl, rfl, rfl, rfl, (fun h => by cases h), rfl⟩, ⟨_, _, rfl, rfl, rfl, rfl, (fun h => by cases h), rfl⟩, ⟨_, _, rfl, rfl, rfl, rfl, (fun h => by cases h), rfl⟩, ⟨_, _, rfl, rfl, rfl, rfl, (fun h => by cases h), rfl⟩, ⟨_, _, rfl, rfl, rfl, rfl, (fun h => by cases h), rfl⟩, ⟨_, _, rfl, rfl, rfl, rfl, (fun h => by cases h), rfl⟩, ⟨_, _, rfl, rfl, rfl, rfl, (fun h => by cases h), rfl⟩, ⟨_, _, rfl, rfl, rfl, rfl, (fun h => by cases h), rfl⟩, ⟨_, _, rfl, rfl, rfl, rfl, (fun h => by cases h), rfl⟩, ⟨_, _, rfl, rfl, rfl, rfl, (fun h => by cases h), rfl⟩, ⟨_, _, rfl, rfl, rfl, rfl, (fun h => by cases h), rfl⟩, ⟨_, _, rfl, rfl, rfl, rfl, (fun h => by cases h), rfl⟩, ⟨_, _, rfl, rfl, rfl, rfl, (fun h => by cases h), rfl⟩, ⟨_, _, rfl, rfl, rfl, rfl, (fun h => by cases h), rfl⟩, ⟨_, _, rfl, rfl, rfl, rfl, (fun h => by cases h), rfl⟩, ⟨_, _, rfl, rfl, rfl, rfl, (fun h => by cases h), rfl⟩, ⟨_, _, rfl, rfl, rfl, rfl, (fun h => by cases h), rfl⟩, ⟨_, _, rfl, rfl, rfl, rfl, (fun h => by cases h), rfl⟩, ⟨_, _, rfl, rfl, rfl, rfl, (fun h => by cases h), rfl⟩, trivial⟩) (trivial) (⟨(fun h => by cases h), (fun h => by cases h), (fun h => by cases h), (fun h => by cases h), (fun h => by cases h), (fun h => by cases h), (fun h => by cases h), (fun h => by cases h), (fun h => by cases h), (fun h => by cases h), (fun h => by cases h), (fun h => by cases h), (fun h => by cases h), (fun h => by cases h), (fun h => by cases h), (fun h => by cases h), (fun h => by cases h), (fun h => by cases h), (fun h => by cases h), (fun h => by cases h), (fun h => by cases h), (fun h => by cases h), (fun h => by cases h), (fun h => by cases h), (fun h => by cases h), (fun h => by cases h), (fun h => by cases h), (fun h => by cases h), (fun h => by cases h), (fun h => by cases h), (fun h => by cases h), (fun h => by cases h), (fun h => by cases h), (fun h => by cases h), (fun h => by cases h), (fun h => by cases h), (fun h => by cases h), (fun h => by cases h), (fun h => by cases h), (fun h => by cases h), (fun h => by cases h), trivial⟩) rfl) trivial rfl ?_
 refine .q (op_cmpI rfl rfl rfl) trivial rfl ?_
 refine .q (op_move rfl) trivial rfl ?_
 refine .know (b' := true) (rfl) ?_
 refine .q (op_move rfl) ⟨_, rfl, rfl⟩ rfl ?_
 refine .q (op_call (U := []) [(500, 1000)] [] (where_fault_ev 9 (eo 9) [107, 101, 120] 106 ty) Tryz.func23 (by kernel_rfl) rfl rfl rfl (⟨⟨_, rfl, rfl, rfl⟩, trivial⟩) (⟨⟨_, _, rfl, rfl, rfl, rfl, (fun h => by cases h), rfl⟩, ⟨_, _, rfl, rfl, rfl, rfl, (fun h => by cases h), rfl⟩, trivial⟩) (trivial) (⟨(fun h => by cases h), (fun h => by cases h), trivial⟩) rfl) ⟨_, rfl, rfl⟩ rfl ?_
 refine .q (op_eqS rfl rfl rfl) ⟨_, rfl, rfl⟩ rfl ?_
 refine .q (op_pick_true rfl rfl rfl) trivial rfl ?_
 refine .q (op_move rfl) trivial rfl ?_
 refine .know (b' := true) (rfl) ?_
 refine .q (op_move rfl) ⟨_, rfl, rfl⟩ rfl ?_
 refine .q (op_eqNilNil Tryz.underlying36 rfl rfl) ⟨_, rfl, rfl⟩ rfl ?_
 refine .q (op_pick_true rfl rfl rfl) trivial rfl ?_
 refine .q (op_move rfl) trivial rfl ?_
 refine .know (b' := true) (rfl) ?_
 refine .q (op_loadRow Tryz.underlying24 rfl sz24 rfl rfl rfl (by first | (simp only [AV.ren, AV.len, length_bsN]; done) | assumption | (simp only [AV.ren, AV.len, length_bsN, List.length_replicate]; first | assumption | omega) | omega)) ⟨_, rfl, rfl⟩ rfl ?_
 refine .q (op_buildArr (us := []) Tryz.underlying24 inf5.sz zero24 rel_zero24 rfl (by decide) trivial rfl) ⟨_, rfl, rfl⟩ rfl ?_
 refine .q (op_neqRow8 (n := 32) (by kernel_rfl) Tryz.underlying24 Tryz.underlying5 inf5.sz rfl rfl (by first | (simp only [length_bsN]; done) | assumption | (simp only [AV.ren, AV.len, length_bsN, List.length_replicate]; first | assumption | omega) | omega) (by first | (simp only [List.length_replicate]; done) | assumption | (simp only [AV.ren, AV.len, length_bsN, List.length_replicate]; first | assumption | omega) | omega)) ⟨_, rfl, rfl⟩ rfl ?_
 refine .as (.bool true) (congrArg AV.bool (bs_ne14 w14 w14_lt w14_ne)) ?_
 refine .q (op_pick_true rfl rfl rfl) trivial rfl ?_
 refine .q (op_move rfl) trivial rfl ?_
 refine .know (b' := true) (rfl) ?_
 refine .q (op_loadRow Tryz.underlying24 rfl sz24 rfl rfl rfl (by first | (simp only [AV.ren, AV.len, length_bsN]; done) | assumption | (simp only [AV.ren, AV.len, length_bsN, List.length_replicate]; first | assumption | omega) | omega)) ⟨_, rfl, rfl⟩ rfl ?_
 refine .q (op_loadRow Tryz.underlying24 rfl sz24 rfl rfl rfl (by first | (simp only [AV.ren, AV.len, length_bsN]; done) | assumption | (simp only [AV.ren, AV.len, length_bsN, List.length_replicate]; first | assumption | omega) | omega)) ⟨_, rfl, rfl⟩ rfl ?_
 refine .q (op_loadRow Tryz.underlying24 rfl sz24 rfl rfl rfl (by first | (simp only [AV.ren, AV.len, length_bsN]; done) | assumption | (simp only [AV.ren, AV.len, length_bsN, List.length_replicate]; first | assumption | omega) | omega)) ⟨_, rfl, rfl⟩ rfl ?_
 refine .q (op_call (U := []) [] [] (derive_ev (bsN w14 32) (bsN w14 32) (bsN w14 32) 65 40 40 ek (length_bsN _ _) (length_bsN _ _) (length_bsN _ _) (by decide)) Tryz.func28 (by kernel_rfl) rfl rfl rfl (⟨⟨_, rfl, rfl, rfl⟩, ⟨_, rfl, rfl, rfl⟩, ⟨_, rfl, rfl, rfl⟩, ⟨_, rfl, rfl, rfl⟩, ⟨_, rfl, rfl, rfl⟩, trivial⟩) (⟨⟨_, _, rfl, rfl, rfl, rfl, (fun h => by cases h), rfl⟩, trivial⟩) (trivial) (⟨(fun h => by cases h), trivial⟩) rfl) ⟨_, rfl, rfl⟩ rfl ?_
 refine .q (op_len_str Tryz.underlying9 rfl) ⟨_, rfl, rfl⟩ rfl ?_
 refine .as (.i64 40) (congrArg AV.i64 (by rw [length_derP _ _ _ _ _ (by decide)]; rfl)) ?_
 refine .q (op_cmpI rfl rfl rfl) ⟨_, rfl, rfl⟩ rfl ?_
 refine .q (op_pick_true rfl rfl rfl) trivial rfl ?_
 refine .q (op_assign rfl) trivial rfl ?_
 refine .nil ?_
 show Ev _ _ _ _ _
 refine .ret ?_
 show RetOk _ _ _ _ _ _ _
 exact ret1v rfl (.inl rfl) rfl rfl trivial
end Go.Proofs.YtdmlpblaelfdmaaGreatDoor
