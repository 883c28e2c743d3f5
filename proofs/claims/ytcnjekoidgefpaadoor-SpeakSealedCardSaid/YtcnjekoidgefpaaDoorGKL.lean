/-
  Texts of this claim.
-/
import Derived.Test.YtcnjekoidgefpaaDoorGKJ
namespace Go.Proofs.YtcnjekoidgefpaaDoor
open Go.RowKit
def spr1 (key label : List UInt8) : List UInt8 := hmacN key [[], label, [1]]
def spr2 (key label : List UInt8) : List UInt8 := hmacN key [spr1 key label, label, [2]]
set_option maxHeartbeats 1000000 in
set_option maxRecDepth 100000 in
theorem kspr32_gen (ek : Nat) (key label P1 P2 : List UInt8) (hk : key.length ≤ 1000000) (hl : label.length ≤ 1000000) (hP1 : hmacN key [[], label, [1]] = P1) (_hP2 : hmacN key [P1, label, [2]] = P2) (hlP1 : P1.length = 32) (_hlP2 : P2.length = 32) : Meets Tryd.prog 23 [.str key, .str label, .i64 32] [(5, some ⟨.agg32 K256, ek, false⟩)] (.str (P1.take 32)) [] := by
 refine meets_of_ev (nt := 41) Tryd.func23 rfl rfl (Nat.le_of_ble_eq_true rfl) ?_
 refine .seq ?_
 refine .region ?_
 refine .q (op_assign rfl) trivial rfl ?_
 refine .nil ?_
 show Ev _ _ _ _ _
 refine .seq ?_
 refine .region ?_
 refine .q (op_move rfl) trivial rfl ?_
 refine .q (op_maxI rfl rfl) trivial rfl ?_
 refine .as (.i64 32) rfl ?_
 refine .q (op_minI rfl rfl) trivial rfl ?_
 refine .as (.i64 32) rfl ?_
 refine .q (op_assign rfl) trivial rfl ?_
 refine .nil ?_
 show Ev _ _ _ _ _
 refine .seq ?_
 refine .region ?_
 refine .q (op_assign rfl) trivial rfl ?_
 refine .nil ?_
 show Ev _ _ _ _ _
 refine .seq ?_
 refine .region ?_
 refine .q (op_assign rfl) trivial rfl ?_
 refine .nil ?_
 show Ev _ _ _ _ _
 refine .seq ?_
 refine .seq ?_
 refine .region ?_
 refine .q (op_move rfl) trivial rfl ?_
 refine .q (op_addI rfl rfl ⟨by decide, by decide⟩) trivial rfl ?_
 refine .q (op_subI rfl rfl ⟨by decide, by decide⟩) trivial rfl ?_
 refine .q (op_quoI rfl rfl ⟨by decide, ⟨by decide, by decide⟩, by decide⟩) trivial rfl ?_
 refine .as (.i64 1) rfl ?_
 refine .q (op_move rfl) trivial rfl ?_
 refine .nil ?_
 show Ev _ _ _ _ _
 refine .block ?_
 refine Ev.rounds 2 ?_
 show Ev _ _ _ _ _
 refine .seq ?_
 refine .region ?_
 refine .q (op_cmpI rfl rfl rfl) trivial rfl ?_
 refine .nil ?_
 show Ev _ _ _ _ _
 refine .seq ?_
 refine .cond_true rfl (rfl) ?_
 refine .skip ?_
 show Ev _ _ _ _ _
 refine .seq ?_
 refine .block ?_
 refine .seq ?_
 refine .region ?_
 refine .q (op_move rfl) trivial rfl ?_
 refine .q (op_assign rfl) trivial rfl ?_
 refine .nil ?_
 show Ev _ _ _ _ _
 refine .seq ?_
 refine .region ?_
 refine .q (op_move rfl) trivial rfl ?_
 refine .q (op_move rfl) trivial rfl ?_
 refine .q (op_move rfl) trivial rfl ?_
 refine .q (op_move rfl) trivial rfl ?_
 refine .q (op_addI rfl rfl ⟨by decide, by decide⟩) trivial rfl ?_
 refine .as (.i64 1) rfl ?_
 refine .q (op_conv Tryd.underlying3 Tryd.underlying5 rfl rfl) trivial rfl ?_
 refine .as (.u8 1) rfl ?_
 refine .a (ap_build (us := [.u8 1]) (c := .aggB [1]) Tryd.underlying28 inf5 rfl (by decide) (by decide) ⟨rfl, rfl, rfl, trivial⟩ rfl) trivial rfl ?_
 refine .q (op_bytes_str Tryd.underlying28 Tryd.underlying5 Tryd.underlying9 rfl rfl rfl (by decide)) trivial rfl ?_
 refine .as (.str [1]) rfl ?_
 refine .a (ap_build (us := [.str [], .str label, .str [1]]) (c := .aggS [[], label, [1]]) Tryd.underlying110 inf9 rfl (by decide) (by decide) ⟨rfl, rfl, rfl, rfl, rfl, rfl, rfl, rfl, rfl, trivial⟩ rfl) trivial rfl ?_
 refine .q (op_call (U := []) [(500, 1008)] [] (khmac_ev key [[], label, [1]] 9 ek hk (by simp [totN]; omega) (by simp)) Tryd.func61 (by kernel_rfl) rfl rfl rfl (⟨⟨_, rfl, rfl, rfl⟩, ⟨_, rfl, rfl, rfl⟩, trivial⟩) (⟨⟨_, _, rfl, rfl, rfl, rfl, (fun h => by cases h), rfl⟩, ⟨_, _, rfl, rfl, rfl, rfl, id, rfl⟩, trivial⟩) (trivial) (⟨(fun h => by cases h), (fun h => by cases h), trivial⟩) rfl) trivial rfl ?_
 refine .as (.aggB P1) (congrArg AV.aggB hP1) ?_
 refine .a (op_allocRow zero22 rel_zero22 rfl) trivial rfl ?_
 refine .w (op_storeRow sz22 rfl rfl rfl rfl rfl (by simp only [AV.len, hlP1]) (by simp only [AV.len, List.length_replicate])) trivial rfl ?_
 refine .nil ?_
 show Ev _ _ _ _ _
 refine .seq ?_
 refine .region ?_
 refine .q (ap_slice_arr_hi Tryd.underlying22 inf5.sz rfl rfl (by first | omega | (simp only [AV.len]; omega)) (by decide) rfl (by first | omega | (simp only [AV.len]; omega))) trivial rfl ?_
 refine .q (op_bytes_str Tryd.underlying28 Tryd.underlying5 Tryd.underlying9 rfl rfl rfl (by omega)) trivial rfl ?_
 refine .as (.str P1) (congrArg AV.str (drop_take_all2 P1 32 hlP1)) ?_
 refine .q (op_assign rfl) trivial rfl ?_
 refine .nil ?_
 show Ev _ _ _ _ _
 refine .region ?_
 refine .q (op_move rfl) trivial rfl ?_
 refine .q (op_move rfl) trivial rfl ?_
 refine .a (ap_catS_nil Tryd.underlying28 inf5 Tryd.underlying9 rfl rfl (by omega) (by omega)) trivial rfl ?_
 refine .as (.sl 1024 0 32 1) (congrArg (fun z => AV.sl 1024 0 z 1) hlP1) ?_
 refine .q (op_assign rfl) trivial rfl ?_
 refine .nil ?_
 show Ev _ _ _ _ _
 refine .region ?_
 refine .q (op_addI rfl rfl ⟨by omega, by omega⟩) trivial rfl ?_
 refine .as (.i64 1) rfl ?_
 refine .q (op_move rfl) trivial rfl ?_
 refine .nil ?_
 show Ev _ _ _ _ _
 refine .seq ?_
 refine .region ?_
 refine .q (op_cmpI rfl rfl rfl) trivial rfl ?_
 refine .nil ?_
 show Ev _ _ _ _ _
 refine .seq ?_
 refine .cond_false rfl (rfl) ?_
 refine .exit ?_
 show Ev _ _ _ _ _
 refine .seq ?_
 refine .region ?_
 refine .q (op_move rfl) trivial rfl ?_
 refine .q (op_move rfl) trivial rfl ?_
 refine .q (ap_slice_sl_hi Tryd.underlying28 inf5.sz rfl (bnd_some rfl rfl) (by decide)) trivial rfl ?_
 refine .q (op_bytes_str Tryd.underlying28 Tryd.underlying5 Tryd.underlying9 rfl rfl rfl (by first | omega | (simp only [AV.len, List.length_append]; omega))) trivial rfl ?_
 refine .as (.str (P1.take 32)) (congrArg AV.str (by rw [List.drop_zero])) ?_
 refine .q (op_assign rfl) trivial rfl ?_
 refine .nil ?_
 show Ev _ _ _ _ _
 refine .ret ?_
 show RetOk _ _ _ _ _ _ _
 exact ret1v rfl (.inl rfl) rfl rfl trivial
set_option maxHeartbeats 1000000 in
set_option maxRecDepth 100000 in
theorem kspr40_gen (ek : Nat) (key label P1 P2 : List UInt8) (hk : key.length ≤ 1000000) (hl : label.length ≤ 1000000) (hP1 : hmacN key [[], label, [1]] = P1) (hP2 : hmacN key [P1, label, [2]] = P2) (hlP1 : P1.length = 32) (hlP2 : P2.length = 32) : Meets Tryd.prog 23 [.str key, .str label, .i64 40] [(5, some ⟨.agg32 K256, ek, false⟩)] (.str ((P1 ++ P2).take 40)) [] := by
 refine meets_of_ev (nt := 41) Tryd.func23 rfl rfl (Nat.le_of_ble_eq_true rfl) ?_
 refine .seq ?_
 refine .region ?_
 refine .q (op_assign rfl) trivial rfl ?_
 refine .nil ?_
 show Ev _ _ _ _ _
 refine .seq ?_
 refine .region ?_
 refine .q (op_move rfl) trivial rfl ?_
 refine .q (op_maxI rfl rfl) trivial rfl ?_
 refine .as (.i64 40) rfl ?_
 refine .q (op_minI rfl rfl) trivial rfl ?_
 refine .as (.i64 40) rfl ?_
 refine .q (op_assign rfl) trivial rfl ?_
 refine .nil ?_
 show Ev _ _ _ _ _
 refine .seq ?_
 refine .region ?_
 refine .q (op_assign rfl) trivial rfl ?_
 refine .nil ?_
 show Ev _ _ _ _ _
 refine .seq ?_
 refine .region ?_
 refine .q (op_assign rfl) trivial rfl ?_
 refine .nil ?_
 show Ev _ _ _ _ _
 refine .seq ?_
 refine .seq ?_
 refine .region ?_
 refine .q (op_move rfl) trivial rfl ?_
 refine .q (op_addI rfl rfl ⟨by decide, by decide⟩) trivial rfl ?_
 refine .q (op_subI rfl rfl ⟨by decide, by decide⟩) trivial rfl ?_
 refine .q (op_quoI rfl rfl ⟨by decide, ⟨by decide, by decide⟩, by decide⟩) trivial rfl ?_
 refine .as (.i64 2) rfl ?_
 refine .q (op_move rfl) trivial rfl ?_
 refine .nil ?_
 show Ev _ _ _ _ _
 refine .block ?_
 refine Ev.rounds 3 ?_
 show Ev _ _ _ _ _
 refine .seq ?_
 refine .region ?_
 refine .q (op_cmpI rfl rfl rfl) trivial rfl ?_
 refine .nil ?_
 show Ev _ _ _ _ _
 refine .seq ?_
 refine .cond_true rfl (rfl) ?_
 refine .skip ?_
 show Ev _ _ _ _ _
 refine .seq ?_
 refine .block ?_
 refine .seq ?_
 refine .region ?_
 refine .q (op_move rfl) trivial rfl ?_
 refine .q (op_assign rfl) trivial rfl ?_
 refine .nil ?_
 show Ev _ _ _ _ _
 refine .seq ?_
 refine .region ?_
 refine .q (op_move rfl) trivial rfl ?_
 refine .q (op_move rfl) trivial rfl ?_
 refine .q (op_move rfl) trivial rfl ?_
 refine .q (op_move rfl) trivial rfl ?_
 refine .q (op_addI rfl rfl ⟨by decide, by decide⟩) trivial rfl ?_
 refine .as (.i64 1) rfl ?_
 refine .q (op_conv Tryd.underlying3 Tryd.underlying5 rfl rfl) trivial rfl ?_
 refine .as (.u8 1) rfl ?_
 refine .a (ap_build (us := [.u8 1]) (c := .aggB [1]) Tryd.underlying28 inf5 rfl (by decide) (by decide) ⟨rfl, rfl, rfl, trivial⟩ rfl) trivial rfl ?_
 refine .q (op_bytes_str Tryd.underlying28 Tryd.underlying5 Tryd.underlying9 rfl rfl rfl (by decide)) trivial rfl ?_
 refine .as (.str [1]) rfl ?_
 refine .a (ap_build (us := [.str [], .str label, .str [1]]) (c := .aggS [[], label, [1]]) Tryd.underlying110 inf9 rfl (by decide) (by decide) ⟨rfl, rfl, rfl, rfl, rfl, rfl, rfl, rfl, rfl, trivial⟩ rfl) trivial rfl ?_
 refine .q (op_call (U := []) [(500, 1008)] [] (khmac_ev key [[], label, [1]] 9 ek hk (by simp [totN]; omega) (by simp)) Tryd.func61 (by kernel_rfl) rfl rfl rfl (⟨⟨_, rfl, rfl, rfl⟩, ⟨_, rfl, rfl, rfl⟩, trivial⟩) (⟨⟨_, _, rfl, rfl, rfl, rfl, (fun h => by cases h), rfl⟩, ⟨_, _, rfl, rfl, rfl, rfl, id, rfl⟩, trivial⟩) (trivial) (⟨(fun h => by cases h), (fun h => by cases h), trivial⟩) rfl) trivial rfl ?_
 refine .as (.aggB P1) (congrArg AV.aggB hP1) ?_
 refine .a (op_allocRow zero22 rel_zero22 rfl) trivial rfl ?_
 refine .w (op_storeRow sz22 rfl rfl rfl rfl rfl (by simp only [AV.len, hlP1]) (by simp only [AV.len, List.length_replicate])) trivial rfl ?_
 refine .nil ?_
 show Ev _ _ _ _ _
 refine .seq ?_
 refine .region ?_
 refine .q (ap_slice_arr_hi Tryd.underlying22 inf5.sz rfl rfl (by first | omega | (simp only [AV.len]; omega)) (by decide) rfl (by first | omega | (simp only [AV.len]; omega))) trivial rfl ?_
 refine .q (op_bytes_str Tryd.underlying28 Tryd.underlying5 Tryd.underlying9 rfl rfl rfl (by omega)) trivial rfl ?_
 refine .as (.str P1) (congrArg AV.str (drop_take_all2 P1 32 hlP1)) ?_
 refine .q (op_assign rfl) trivial rfl ?_
 refine .nil ?_
 show Ev _ _ _ _ _
 refine .region ?_
 refine .q (op_move rfl) trivial rfl ?_
 refine .q (op_move rfl) trivial rfl ?_
 refine .a (ap_catS_nil Tryd.underlying28 inf5 Tryd.underlying9 rfl rfl (by omega) (by omega)) trivial rfl ?_
 refine .as (.sl 1024 0 32 1) (congrArg (fun z => AV.sl 1024 0 z 1) hlP1) ?_
 refine .q (op_assign rfl) trivial rfl ?_
 refine .nil ?_
 show Ev _ _ _ _ _
 refine .region ?_
 refine .q (op_addI rfl rfl ⟨by omega, by omega⟩) trivial rfl ?_
 refine .as (.i64 1) rfl ?_
 refine .q (op_move rfl) trivial rfl ?_
 refine .nil ?_
 show Ev _ _ _ _ _
 refine .seq ?_
 refine .region ?_
 refine .q (op_cmpI rfl rfl rfl) trivial rfl ?_
 refine .nil ?_
 show Ev _ _ _ _ _
 refine .seq ?_
 refine .cond_true rfl (rfl) ?_
 refine .skip ?_
 show Ev _ _ _ _ _
 refine .seq ?_
 refine .block ?_
 refine .seq ?_
 refine .region ?_
 refine .q (op_move rfl) trivial rfl ?_
 refine .q (op_assign rfl) trivial rfl ?_
 refine .nil ?_
 show Ev _ _ _ _ _
 refine .seq ?_
 refine .region ?_
 refine .q (op_move rfl) trivial rfl ?_
 refine .q (op_move rfl) trivial rfl ?_
 refine .q (op_move rfl) trivial rfl ?_
 refine .q (op_move rfl) trivial rfl ?_
 refine .q (op_addI rfl rfl ⟨by decide, by decide⟩) trivial rfl ?_
 refine .as (.i64 2) rfl ?_
 refine .q (op_conv Tryd.underlying3 Tryd.underlying5 rfl rfl) trivial rfl ?_
 refine .as (.u8 2) rfl ?_
 refine .a (ap_build (us := [.u8 2]) (c := .aggB [2]) Tryd.underlying28 inf5 rfl (by decide) (by decide) ⟨rfl, rfl, rfl, trivial⟩ rfl) trivial rfl ?_
 refine .q (op_bytes_str Tryd.underlying28 Tryd.underlying5 Tryd.underlying9 rfl rfl rfl (by decide)) trivial rfl ?_
 refine .as (.str [2]) rfl ?_
 refine .a (ap_build (us := [.str P1, .str label, .str [2]]) (c := .aggS [P1, label, [2]]) Tryd.underlying110 inf9 rfl (by decide) (by decide) ⟨rfl, rfl, rfl, rfl, rfl, rfl, rfl, rfl, rfl, trivial⟩ rfl) trivial rfl ?_
 refine .q (op_call (U := []) [(500, 1040)] [] (khmac_ev key [P1, label, [2]] 9 ek hk (by simp [totN]; omega) (by simp)) Tryd.func61 (by kernel_rfl) rfl rfl rfl (⟨⟨_, rfl, rfl, rfl⟩, ⟨_, rfl, rfl, rfl⟩, trivial⟩) (⟨⟨_, _, rfl, rfl, rfl, rfl, (fun h => by cases h), rfl⟩, ⟨_, _, rfl, rfl, rfl, rfl, id, rfl⟩, trivial⟩) (trivial) (⟨(fun h => by cases h), (fun h => by cases h), trivial⟩) rfl) trivial rfl ?_
 refine .as (.aggB P2) (congrArg AV.aggB hP2) ?_
 refine .a (op_allocRow zero22 rel_zero22 rfl) trivial rfl ?_
 refine .w (op_storeRow sz22 rfl rfl rfl rfl rfl (by simp only [AV.len, hlP2]) (by simp only [AV.len, List.length_replicate])) trivial rfl ?_
 refine .nil ?_
 show Ev _ _ _ _ _
 refine .seq ?_
 refine .region ?_
 refine .q (ap_slice_arr_hi Tryd.underlying22 inf5.sz rfl rfl (by first | omega | (simp only [AV.len]; omega)) (by decide) rfl (by first | omega | (simp only [AV.len]; omega))) trivial rfl ?_
 refine .q (op_bytes_str Tryd.underlying28 Tryd.underlying5 Tryd.underlying9 rfl rfl rfl (by omega)) trivial rfl ?_
 refine .as (.str P2) (congrArg AV.str (drop_take_all2 P2 32 hlP2)) ?_
 refine .q (op_assign rfl) trivial rfl ?_
 refine .nil ?_
 show Ev _ _ _ _ _
 refine .region ?_
 refine .q (op_move rfl) trivial rfl ?_
 refine .q (op_move rfl) trivial rfl ?_
 refine .a (ap_catS Tryd.underlying28 inf5 Tryd.underlying9 rfl rfl rfl (hlP1.symm) (by first | omega | (simp only [AV.len]; omega))) trivial rfl ?_
 refine .as (.sl 1056 0 64 1) (congrArg (fun z => AV.sl 1056 0 (32 + z) 1) hlP2) ?_
 refine .q (op_assign rfl) trivial rfl ?_
 refine .nil ?_
 show Ev _ _ _ _ _
 refine .region ?_
 refine .q (op_addI rfl rfl ⟨by omega, by omega⟩) trivial rfl ?_
 refine .as (.i64 2) rfl ?_
 refine .q (op_move rfl) trivial rfl ?_
 refine .nil ?_
 show Ev _ _ _ _ _
 refine .seq ?_
 refine .region ?_
 refine .q (op_cmpI rfl rfl rfl) trivial rfl ?_
 refine .nil ?_
 show Ev _ _ _ _ _
 refine .seq ?_
 refine .cond_false rfl (rfl) ?_
 refine .exit ?_
 show Ev _ _ _ _ _
 refine .seq ?_
 refine .region ?_
 refine .q (op_move rfl) trivial rfl ?_
 refine .q (op_move rfl) trivial rfl ?_
 refine .q (ap_slice_sl_hi Tryd.underlying28 inf5.sz rfl (bnd_some rfl rfl) (by decide)) trivial rfl ?_
 refine .q (op_bytes_str Tryd.underlying28 Tryd.underlying5 Tryd.underlying9 rfl rfl rfl (by first | omega | (simp only [List.length_append]; omega))) trivial rfl ?_
 refine .as (.str ((P1 ++ P2).take 40)) (congrArg AV.str (by rw [List.drop_zero])) ?_
 refine .q (op_assign rfl) trivial rfl ?_
 refine .nil ?_
 show Ev _ _ _ _ _
 refine .ret ?_
 show RetOk _ _ _ _ _ _ _
 exact ret1v rfl (.inl rfl) rfl rfl trivial
theorem kspr32_ev (ek : Nat) (key label : List UInt8) (hk : key.length ≤ 1000000) (hl : label.length ≤ 1000000) : Meets Tryd.prog 23 [.str key, .str label, .i64 32] [(5, some ⟨.agg32 K256, ek, false⟩)] (.str (spr1 key label)) [] :=
 (kspr32_gen ek key label _ _ hk hl rfl rfl (length_hmacN _ _) (length_hmacN _ _)).as (congrArg AV.str (List.take_of_length_le (Nat.le_of_eq (length_hmacN _ _))))
theorem kspr40_ev (ek : Nat) (key label : List UInt8) (hk : key.length ≤ 1000000) (hl : label.length ≤ 1000000) : Meets Tryd.prog 23 [.str key, .str label, .i64 40] [(5, some ⟨.agg32 K256, ek, false⟩)] (.str ((spr1 key label ++ spr2 key label).take 40)) [] :=
 kspr40_gen ek key label _ _ hk hl rfl rfl (length_hmacN _ _) (length_hmacN _ _)
end Go.Proofs.YtcnjekoidgefpaaDoor
