/-
  Texts of this claim.
-/
import Derived.Test.YtenocbhlbgcnfaaDoorGT3
namespace Go.Proofs.YtenocbhlbgcnfaaDoor
open Go.RowKit
set_option maxRecDepth 100000 in
theorem parseL_good (s : List UInt8) (h0 : s ≠ []) (hs : s.length ≤ 10000) (K : Int) (hK : K = (((byteD ⟨s, 0⟩).2.toNat : Nat) : Int)) (hk : isKind K = true) (R : MSt) (hR : (parseN (fieldsOf K) ⟨(byteD ⟨s, 0⟩).1, [], [], [], []⟩ ((fieldsOf K).length)) = R) (he : (endD R.i).e = 0) (hnl : R.ns.length ≤ 1000) (hsl : R.ss.length ≤ 1000) (hss : ∀ i, (R.ss.getD i []).length ≤ 32768) (hnj : ∀ i, (joinB (R.ns.getD i [])).length ≤ 4096) (eo : Nat → Nat × Nat) : Meets Tryd.prog 11 [.str s] [(1, some ⟨.agg [.err 131 (2) (offE eo (2))], errT, false⟩), (3, some ⟨.agg [.err 131 (4) (offE eo (4))], errT, false⟩), (2, some ⟨.agg [.err 131 (3) (offE eo (3))], errT, false⟩), (20, some ⟨.agg kindCells, errT, false⟩), (19, some ⟨.agg [.err 131 (20) (offE eo (20))], errT, false⟩)] (.tup [.agg [.i64 K, .fsl (List.map AV.u32 R.us) (R.us).length 1, .dsl R.ss, .fsl (List.map AV.dsl R.ns) (R.ns).length 1, .fsl (List.map AV.bool R.bs) (R.bs).length 1], .val .nilIface]) [] := by
 refine meets_of_ev (nt := 52) Tryd.func11 rfl rfl (Nat.le_of_ble_eq_true rfl) ?_
 refine .seq ?_
 refine .region ?_
 refine .a (op_allocRow zero30 rel_zero30 rfl) trivial rfl ?_
 refine .q (op_assign rfl) trivial rfl ?_
 refine .nil ?_
 show Ev _ _ _ _ _
 refine .seq ?_
 refine .seq ?_
 refine .region ?_
 refine .q (op_move rfl) trivial rfl ?_
 refine .q (op_eqS rfl rfl rfl) trivial rfl ?_
 refine .nil ?_
 show Ev _ _ _ _ _
 refine .cond_false rfl (by simpa using h0) ?_
 refine .skip ?_
 show Ev _ _ _ _ _
 refine .seq ?_
 refine .region ?_
 refine .q (op_move rfl) trivial rfl ?_
 refine .a (op_call (U := [(1008, some ⟨.agg [.str (DI.mk s 0).r, .err 131 ((DI.mk s 0).e) (offE eo ((DI.mk s 0).e))], 93, true⟩)]) [] [(1008, 1000)] (wof_ev s eo) Tryd.func28 (by kernel_rfl) rfl rfl rfl (⟨⟨_, rfl, rfl, rfl⟩, trivial⟩) (trivial) (⟨⟨1000, _, rfl, rfl, rfl, rfl, .inl rfl⟩, trivial⟩) (trivial) rfl) trivial rfl ?_
 refine .q (op_assign rfl) trivial rfl ?_
 refine .nil ?_
 show Ev _ _ _ _ _
 refine .seq ?_
 refine .region ?_
 refine .q (op_move rfl) trivial rfl ?_
 refine .a (op_call (U := [(1008, some ⟨.agg [.str ((byteD ⟨s, 0⟩).1).r, .err 131 (((byteD ⟨s, 0⟩).1).e) (offE eo (((byteD ⟨s, 0⟩).1).e))], 93, true⟩)]) [(500, 1008)] [] (ibyte_ev (DI.mk s 0) eo) Tryd.func29 (by kernel_rfl) rfl rfl rfl (⟨⟨_, rfl, rfl, rfl⟩, trivial⟩) (⟨⟨_, _, rfl, rfl, rfl, rfl, id, rfl⟩, ⟨_, _, rfl, rfl, rfl, rfl, (fun h => by cases h), rfl⟩, trivial⟩) (⟨⟨500, _, rfl, rfl, rfl, rfl, .inr ⟨rfl, _, rfl, rfl⟩⟩, trivial⟩) (⟨(fun _ => ⟨1008, _, rfl, rfl⟩), (fun h => by cases h), trivial⟩) rfl) trivial rfl ?_
 refine .q (op_conv Tryd.underlying5 Tryd.underlying3 rfl rfl) trivial rfl ?_
 refine .as (.i64 K) (by rw [hK]) ?_
 refine .q (op_buildS (r := .agg [.i64 (K), .nilsl, .nilsl, .nilsl, .nilsl]) Tryd.underlying30 rfl zero30 rel_zero30 rfl rfl rfl rfl) trivial rfl ?_
 refine .a (op_allocRow zero30 rel_zero30 rfl) trivial rfl ?_
 refine .w (op_storeRow (by kernel_rfl) rfl rfl rfl rfl rfl (rfl) (rfl)) trivial rfl ?_
 refine .nil ?_
 show Ev _ _ _ _ _
 refine .seq ?_
 refine .region ?_
 refine .q (op_fieldAddr (m := 0) Tryd.underlying30 rfl (by kernel_rfl) rfl) trivial rfl ?_
 refine .as (.ptr 1024 0) rfl ?_
 refine .q (op_load Tryd.underlying3 rfl rfl rfl rfl (by show 0 < 5; decide)) trivial rfl ?_
 refine .q (op_call (U := []) [] [] (fields_ev K) Tryd.func16 (by kernel_rfl) rfl rfl rfl (⟨⟨_, rfl, rfl, rfl⟩, trivial⟩) (⟨⟨_, _, rfl, rfl, rfl, rfl, (fun h => by cases h), rfl⟩, trivial⟩) (trivial) (⟨(fun h => by cases h), trivial⟩) rfl) trivial rfl ?_
 refine .q (op_move rfl) trivial rfl ?_
 refine .q (op_extract rfl rfl) trivial rfl ?_
 refine .q (op_extract rfl rfl) trivial rfl ?_
 refine .q (op_assign rfl) trivial rfl ?_
 refine .q (op_assign rfl) trivial rfl ?_
 refine .nil ?_
 show Ev _ _ _ _ _
 refine .seq ?_
 refine .seq ?_
 refine .region ?_
 refine .q (op_move rfl) trivial rfl ?_
 refine .q (op_notB rfl) trivial rfl ?_
 refine .nil ?_
 show Ev _ _ _ _ _
 refine .cond_false rfl (by rw [hk]; rfl) ?_
 refine .skip ?_
 show Ev _ _ _ _ _
 refine .seq ?_
 refine .seq ?_
 refine .region ?_
 refine .q (op_move rfl) trivial rfl ?_
 refine .q (op_len_str Tryd.underlying9 rfl) trivial rfl ?_
 refine .q (op_move rfl) trivial rfl ?_
 refine .nil ?_
 show Ev _ _ _ _ _
 refine .block ?_
 refine Ev.loop (ι := { j : Nat // j ≤ (fieldsOf K).length }) (fun q => ⟨[(2, .ptr 1000 0), (3, .val .nilIface), (4, .ptr 1008 0), (5, .ptr 1016 0), (6, .str (fieldsOf K)), (31, .i64 ((fieldsOf K).length : Int)), (32, .i64 ((q.1 : Nat) : Int))], [(1000, some ⟨.agg [.i64 0, .nilsl, .nilsl, .nilsl, .nilsl], 30, true⟩), (1008, some ⟨.agg [.str ((parseN (fieldsOf K) ⟨(byteD ⟨s, 0⟩).1, [], [], [], []⟩ q.1).i).r, .err 131 (((parseN (fieldsOf K) ⟨(byteD ⟨s, 0⟩).1, [], [], [], []⟩ q.1).i).e) (offE eo (((parseN (fieldsOf K) ⟨(byteD ⟨s, 0⟩).1, [], [], [], []⟩ q.1).i).e))], 93, true⟩), (1016, some ⟨msgO K 1024 (parseN (fieldsOf K) ⟨(byteD ⟨s, 0⟩).1, [], [], [], []⟩ q.1).us.length 1032 (parseN (fieldsOf K) ⟨(byteD ⟨s, 0⟩).1, [], [], [], []⟩ q.1).ss.length 1040 (parseN (fieldsOf K) ⟨(byteD ⟨s, 0⟩).1, [], [], [], []⟩ q.1).ns.length 1048 (parseN (fieldsOf K) ⟨(byteD ⟨s, 0⟩).1, [], [], [], []⟩ q.1).bs.length, 30, true⟩), (1024, opt (.agg32 (parseN (fieldsOf K) ⟨(byteD ⟨s, 0⟩).1, [], [], [], []⟩ q.1).us) (parseN (fieldsOf K) ⟨(byteD ⟨s, 0⟩).1, [], [], [], []⟩ q.1).us.length 42), (1032, opt (.aggS (parseN (fieldsOf K) ⟨(byteD ⟨s, 0⟩).1, [], [], [], []⟩ q.1).ss) (parseN (fieldsOf K) ⟨(byteD ⟨s, 0⟩).1, [], [], [], []⟩ q.1).ss.length 9), (1040, opt (.aggD (parseN (fieldsOf K) ⟨(byteD ⟨s, 0⟩).1, [], [], [], []⟩ q.1).ns) (parseN (fieldsOf K) ⟨(byteD ⟨s, 0⟩).1, [], [], [], []⟩ q.1).ns.length 23), (1048, opt (.aggT (parseN (fieldsOf K) ⟨(byteD ⟨s, 0⟩).1, [], [], [], []⟩ q.1).bs) (parseN (fieldsOf K) ⟨(byteD ⟨s, 0⟩).1, [], [], [], []⟩ q.1).bs.length 4), (1, some ⟨.agg [.err 131 (2) (offE eo (2))], errT, false⟩), (3, some ⟨.agg [.err 131 (4) (offE eo (4))], errT, false⟩), (2, some ⟨.agg [.err 131 (3) (offE eo (3))], errT, false⟩)], 1056⟩) (fun q => (fieldsOf K).length - q.1) ⟨0, Nat.zero_le _⟩ (StLe.mk [(1000, 1000), (1008, 1008), (1016, 1024)] rfl rfl ⟨⟨_, rfl, rfl, rfl⟩, ⟨_, rfl, rfl, rfl⟩, ⟨_, rfl, rfl, rfl⟩, ⟨_, rfl, rfl, rfl⟩, ⟨_, rfl, rfl, rfl⟩, ⟨_, rfl, rfl, rfl⟩, ⟨_, rfl, rfl, rfl⟩, trivial⟩ ⟨⟨_, _, rfl, rfl, rfl, rfl, id, rfl⟩, ⟨_, _, rfl, rfl, rfl, rfl, id, rfl⟩, ⟨_, _, rfl, rfl, rfl, rfl, id, rfl⟩, HLe.oc (fun _ h => nomatch h) (HLe.oc (fun _ h => nomatch h) (HLe.oc (fun _ h => nomatch h) (HLe.oc (fun _ h => nomatch h) (⟨⟨_, _, rfl, rfl, rfl, rfl, id, rfl⟩, ⟨_, _, rfl, rfl, rfl, rfl, id, rfl⟩, ⟨_, _, rfl, rfl, rfl, rfl, id, rfl⟩, trivial⟩))))⟩) ?_
 rintro ⟨j, hj⟩
 dsimp only
 have hm0 := parseN_le (fieldsOf K) ⟨(byteD ⟨s, 0⟩).1, [], [], [], []⟩ j
 have hb0 : (byteD ⟨s, 0⟩).1.r.length ≤ s.length := (rawD_len_le ⟨s, 0⟩ 1).2
 dsimp only at hm0
 simp only [List.length_nil, Nat.zero_add] at hm0
 generalize hM : (parseN (fieldsOf K) ⟨(byteD ⟨s, 0⟩).1, [], [], [], []⟩ j) = M at hm0 ⊢
 obtain ⟨hmr, hmu, hms, hmn, hmb⟩ := hm0
 have hj12 := fields_len K
 refine .seq ?_
 refine .region ?_
 refine .q (op_cmpI rfl rfl rfl) trivial rfl ?_
 refine .nil ?_
 show Ev _ _ _ _ _
 refine .seq ?_
 refine .cond rfl (fun hc33 => ?_) (fun hc33 => ?_)
 ·simp only [decide_eq_true_eq] at hc33
  refine .skip ?_
  show Ev _ _ _ _ _
  refine .seq ?_
  refine .block ?_
  refine .seq ?_
  refine .region ?_
  refine .q (op_move rfl) trivial rfl ?_
  refine .q (op_assign rfl) trivial rfl ?_
  refine .nil ?_
  show Ev _ _ _ _ _
  refine .region ?_
  refine .q (op_move rfl) trivial rfl ?_
  refine .q (op_move rfl) trivial rfl ?_
  refine .q (op_move rfl) trivial rfl ?_
  refine .q (op_index_str Tryd.underlying9 rfl rfl (show _ = ((j : Nat) : Int) from rfl) (by omega)) trivial rfl ?_
  refine six_of (fields_six K j (by omega)) (fun h6 => ?_) (fun h6 => ?_) (fun h6 => ?_) (fun h6 => ?_) (fun h6 => ?_) (fun h6 => ?_)
  ·refine .as (.u8 117) (congrArg AV.u8 h6) ?_
   refine .a (op_call (U := [(1008, some ⟨.agg [.str ((u32D M.i).1).r, .err 131 (((u32D M.i).1).e) (offE eo (((u32D M.i).1).e))], 93, true⟩), (1016, some ⟨msgO K 1056 (M.us.length + 1) 1032 M.ss.length 1040 M.ns.length 1048 M.bs.length, 30, true⟩), (1056, some ⟨.agg32 (M.us ++ [(u32D M.i).2]), 42, true⟩), (1024, none)]) [(500, 1008), (510, 1016), (511, 1024), (512, 1032), (513, 1040), (514, 1048)] [(1056, 1064)] (geto_u M.i K M.us (by omega) M.ss.length M.ns.length M.bs.length eo) Tryd.func30 (by kernel_rfl) rfl rfl rfl (⟨⟨_, rfl, rfl, rfl⟩, ⟨_, rfl, rfl, rfl⟩, ⟨_, rfl, rfl, rfl⟩, trivial⟩) (⟨⟨_, _, rfl, rfl, rfl, rfl, id, rfl⟩, ⟨_, _, rfl, rfl, msgO_ren _ _ _ _ _ _ _ _ _ _, rfl, id, msgO_nmC _ _ _ _ _ rfl⟩, HLeC.oc (opt_leC rfl (fun _ h => h) rfl rfl) (⟨⟨_, _, rfl, rfl, rfl, rfl, (fun h => by cases h), rfl⟩, trivial⟩)⟩) (⟨⟨500, _, rfl, rfl, rfl, rfl, .inr ⟨rfl, _, rfl, rfl⟩⟩, ⟨510, _, rfl, congrArg (fun z => (⟨z, _, _⟩ : ABlk)) (msgO_ren (fwd [(500, 1008), (510, 1016), (511, 1024), (512, 1032), (513, 1040), (514, 1048)] [(1056, 1064)]) K 1064 (M.us.length + 1) 512 M.ss.length 513 M.ns.length 514 M.bs.length).symm, rfl, msgO_nmF _ _ _ _ _ rfl, .inr ⟨rfl, _, rfl, rfl⟩⟩, ⟨1064, _, rfl, rfl, rfl, rfl, .inl rfl⟩, trivial⟩) (⟨(fun _ => ⟨1008, _, rfl, rfl⟩), (fun _ => ⟨1016, _, rfl, rfl⟩), Cov.oc ⟨1024, _, rfl, rfl⟩ (⟨(fun h => by cases h), trivial⟩)⟩) rfl) trivial rfl ?_
   refine .nil ?_
   show Ev _ _ _ _ _
   refine .region ?_
   refine .q (op_addI rfl rfl ⟨by omega, by omega⟩) trivial rfl ?_
   refine .q (op_move rfl) trivial rfl ?_
   refine .nil ?_
   have e9 : (parseN (fieldsOf K) ⟨(byteD ⟨s, 0⟩).1, [], [], [], []⟩ (j + 1)) = ⟨(u32D M.i).1, M.us ++ [(u32D M.i).2], M.ss, M.ns, M.bs⟩ := by
    show getP _ _ = _; rw [hM, h6]; rfl
   refine ⟨⟨j + 1, by omega⟩, by (try dsimp only); omega, ?_⟩
   dsimp only
   rw [e9]
   exact StLe.mk [(1000, 1000), (1008, 1008), (1016, 1016), (1024, 1056), (1032, 1032), (1040, 1040), (1048, 1048)] rfl rfl ⟨⟨_, rfl, by first | rfl | (simp only [AV.ren]; congr 1), rfl⟩, ⟨_, rfl, by first | rfl | (simp only [AV.ren]; congr 1), rfl⟩, ⟨_, rfl, by first | rfl | (simp only [AV.ren]; congr 1), rfl⟩, ⟨_, rfl, by first | rfl | (simp only [AV.ren]; congr 1), rfl⟩, ⟨_, rfl, by first | rfl | (simp only [AV.ren]; congr 1), rfl⟩, ⟨_, rfl, by first | rfl | (simp only [AV.ren]; congr 1), rfl⟩, ⟨_, rfl, by first | rfl | (simp only [AV.ren]; congr 1), rfl⟩, trivial⟩ ⟨⟨_, _, rfl, rfl, rfl, rfl, id, rfl⟩, ⟨_, _, rfl, rfl, rfl, rfl, id, rfl⟩, ⟨_, _, rfl, rfl, (msgO_ren _ _ _ _ _ _ _ _ _ _).trans (by rw [List.length_append]; rfl), rfl, id, msgO_nm _ _ _ _ _ rfl⟩, HLe.oc (opt_le rfl (fun _ h => by rw [(opt_some h).1]; rfl) rfl rfl) (HLe.oc (opt_le rfl (fun _ h => h) rfl rfl) (HLe.oc (opt_le rfl (fun _ h => h) rfl rfl) (HLe.oc (opt_le rfl (fun _ h => h) rfl rfl) (⟨⟨_, _, rfl, rfl, rfl, rfl, id, rfl⟩, ⟨_, _, rfl, rfl, rfl, rfl, id, rfl⟩, ⟨_, _, rfl, rfl, rfl, rfl, id, rfl⟩, trivial⟩))))⟩
  ·refine .as (.u8 98) (congrArg AV.u8 h6) ?_
   refine .a (op_call (U := [(1008, some ⟨.agg [.str ((boolD M.i).1).r, .err 131 (((boolD M.i).1).e) (offE eo (((boolD M.i).1).e))], 93, true⟩), (1016, some ⟨msgO K 1024 M.us.length 1032 M.ss.length 1040 M.ns.length 1056 (M.bs.length + 1), 30, true⟩), (1056, some ⟨.aggT (M.bs ++ [(boolD M.i).2]), 4, true⟩), (1048, none)]) [(500, 1008), (510, 1016), (511, 1024), (512, 1032), (513, 1040), (514, 1048)] [(1056, 1064)] (geto_b M.i K M.bs (by omega) M.us.length M.ss.length M.ns.length eo) Tryd.func30 (by kernel_rfl) rfl rfl rfl (⟨⟨_, rfl, rfl, rfl⟩, ⟨_, rfl, rfl, rfl⟩, ⟨_, rfl, rfl, rfl⟩, trivial⟩) (⟨⟨_, _, rfl, rfl, rfl, rfl, id, rfl⟩, ⟨_, _, rfl, rfl, msgO_ren _ _ _ _ _ _ _ _ _ _, rfl, id, msgO_nmC _ _ _ _ _ rfl⟩, HLeC.oc (opt_leC rfl (fun _ h => h) rfl rfl) (⟨⟨_, _, rfl, rfl, rfl, rfl, (fun h => by cases h), rfl⟩, trivial⟩)⟩) (⟨⟨500, _, rfl, rfl, rfl, rfl, .inr ⟨rfl, _, rfl, rfl⟩⟩, ⟨510, _, rfl, congrArg (fun z => (⟨z, _, _⟩ : ABlk)) (msgO_ren (fwd [(500, 1008), (510, 1016), (511, 1024), (512, 1032), (513, 1040), (514, 1048)] [(1056, 1064)]) K 511 M.us.length 512 M.ss.length 513 M.ns.length 1064 (M.bs.length + 1)).symm, rfl, msgO_nmF _ _ _ _ _ rfl, .inr ⟨rfl, _, rfl, rfl⟩⟩, ⟨1064, _, rfl, rfl, rfl, rfl, .inl rfl⟩, trivial⟩) (⟨(fun _ => ⟨1008, _, rfl, rfl⟩), (fun _ => ⟨1016, _, rfl, rfl⟩), Cov.oc ⟨1048, _, rfl, rfl⟩ (⟨(fun h => by cases h), trivial⟩)⟩) rfl) trivial rfl ?_
   refine .nil ?_
   show Ev _ _ _ _ _
   refine .region ?_
   refine .q (op_addI rfl rfl ⟨by omega, by omega⟩) trivial rfl ?_
   refine .q (op_move rfl) trivial rfl ?_
   refine .nil ?_
   have e9 : (parseN (fieldsOf K) ⟨(byteD ⟨s, 0⟩).1, [], [], [], []⟩ (j + 1)) = ⟨(boolD M.i).1, M.us, M.ss, M.ns, M.bs ++ [(boolD M.i).2]⟩ := by
    show getP _ _ = _; rw [hM, h6]; rfl
   refine ⟨⟨j + 1, by omega⟩, by (try dsimp only); omega, ?_⟩
   dsimp only
   rw [e9]
   exact StLe.mk [(1000, 1000), (1008, 1008), (1016, 1016), (1024, 1024), (1032, 1032), (1040, 1040), (1048, 1056)] rfl rfl ⟨⟨_, rfl, by first | rfl | (simp only [AV.ren]; congr 1), rfl⟩, ⟨_, rfl, by first | rfl | (simp only [AV.ren]; congr 1), rfl⟩, ⟨_, rfl, by first | rfl | (simp only [AV.ren]; congr 1), rfl⟩, ⟨_, rfl, by first | rfl | (simp only [AV.ren]; congr 1), rfl⟩, ⟨_, rfl, by first | rfl | (simp only [AV.ren]; congr 1), rfl⟩, ⟨_, rfl, by first | rfl | (simp only [AV.ren]; congr 1), rfl⟩, ⟨_, rfl, by first | rfl | (simp only [AV.ren]; congr 1), rfl⟩, trivial⟩ ⟨⟨_, _, rfl, rfl, rfl, rfl, id, rfl⟩, ⟨_, _, rfl, rfl, rfl, rfl, id, rfl⟩, ⟨_, _, rfl, rfl, (msgO_ren _ _ _ _ _ _ _ _ _ _).trans (by rw [List.length_append]; rfl), rfl, id, msgO_nm _ _ _ _ _ rfl⟩, HLe.oc (opt_le rfl (fun _ h => h) rfl rfl) (HLe.oc (opt_le rfl (fun _ h => h) rfl rfl) (HLe.oc (opt_le rfl (fun _ h => h) rfl rfl) (HLe.oc (opt_le rfl (fun _ h => by rw [(opt_some h).1]; rfl) rfl rfl) (⟨⟨_, _, rfl, rfl, rfl, rfl, id, rfl⟩, ⟨_, _, rfl, rfl, rfl, rfl, id, rfl⟩, ⟨_, _, rfl, rfl, rfl, rfl, id, rfl⟩, trivial⟩))))⟩
  ·refine .as (.u8 110) (congrArg AV.u8 h6) ?_
   refine .a (op_call (U := [(1008, some ⟨.agg [.str ((namesD M.i).1).r, .err 131 (((namesD M.i).1).e) (offE eo (((namesD M.i).1).e))], 93, true⟩), (1016, some ⟨msgO K 1024 M.us.length 1032 M.ss.length 1056 (M.ns.length + 1) 1048 M.bs.length, 30, true⟩), (1056, some ⟨.aggD (M.ns ++ [(namesD M.i).2]), 23, true⟩), (1040, none)]) [(500, 1008), (510, 1016), (511, 1024), (512, 1032), (513, 1040), (514, 1048)] [(1056, 1064)] (geto_n M.i K M.ns (by omega) M.us.length M.ss.length M.bs.length (by omega) eo) Tryd.func30 (by kernel_rfl) rfl rfl rfl (⟨⟨_, rfl, rfl, rfl⟩, ⟨_, rfl, rfl, rfl⟩, ⟨_, rfl, rfl, rfl⟩, trivial⟩) (⟨⟨_, _, rfl, rfl, rfl, rfl, id, rfl⟩, ⟨_, _, rfl, rfl, msgO_ren _ _ _ _ _ _ _ _ _ _, rfl, id, msgO_nmC _ _ _ _ _ rfl⟩, HLeC.oc (opt_leC rfl (fun _ h => h) rfl rfl) (⟨⟨_, _, rfl, rfl, rfl, rfl, (fun h => by cases h), rfl⟩, ⟨_, _, rfl, rfl, rfl, rfl, (fun h => by cases h), rfl⟩, ⟨_, _, rfl, rfl, rfl, rfl, (fun h => by cases h), rfl⟩, trivial⟩)⟩) (⟨⟨500, _, rfl, rfl, rfl, rfl, .inr ⟨rfl, _, rfl, rfl⟩⟩, ⟨510, _, rfl, congrArg (fun z => (⟨z, _, _⟩ : ABlk)) (msgO_ren (fwd [(500, 1008), (510, 1016), (511, 1024), (512, 1032), (513, 1040), (514, 1048)] [(1056, 1064)]) K 511 M.us.length 512 M.ss.length 1064 (M.ns.length + 1) 514 M.bs.length).symm, rfl, msgO_nmF _ _ _ _ _ rfl, .inr ⟨rfl, _, rfl, rfl⟩⟩, ⟨1064, _, rfl, rfl, rfl, rfl, .inl rfl⟩, trivial⟩) (⟨(fun _ => ⟨1008, _, rfl, rfl⟩), (fun _ => ⟨1016, _, rfl, rfl⟩), Cov.oc ⟨1040, _, rfl, rfl⟩ (⟨(fun h => by cases h), (fun h => by cases h), (fun h => by cases h), trivial⟩)⟩) rfl) trivial rfl ?_
   refine .nil ?_
   show Ev _ _ _ _ _
   refine .region ?_
   refine .q (op_addI rfl rfl ⟨by omega, by omega⟩) trivial rfl ?_
   refine .q (op_move rfl) trivial rfl ?_
   refine .nil ?_
   have e9 : (parseN (fieldsOf K) ⟨(byteD ⟨s, 0⟩).1, [], [], [], []⟩ (j + 1)) = ⟨(namesD M.i).1, M.us, M.ss, M.ns ++ [(namesD M.i).2], M.bs⟩ := by
    show getP _ _ = _; rw [hM, h6]; rfl
   refine ⟨⟨j + 1, by omega⟩, by (try dsimp only); omega, ?_⟩
   dsimp only
   rw [e9]
   exact StLe.mk [(1000, 1000), (1008, 1008), (1016, 1016), (1024, 1024), (1032, 1032), (1040, 1056), (1048, 1048)] rfl rfl ⟨⟨_, rfl, by first | rfl | (simp only [AV.ren]; congr 1), rfl⟩, ⟨_, rfl, by first | rfl | (simp only [AV.ren]; congr 1), rfl⟩, ⟨_, rfl, by first | rfl | (simp only [AV.ren]; congr 1), rfl⟩, ⟨_, rfl, by first | rfl | (simp only [AV.ren]; congr 1), rfl⟩, ⟨_, rfl, by first | rfl | (simp only [AV.ren]; congr 1), rfl⟩, ⟨_, rfl, by first | rfl | (simp only [AV.ren]; congr 1), rfl⟩, ⟨_, rfl, by first | rfl | (simp only [AV.ren]; congr 1), rfl⟩, trivial⟩ ⟨⟨_, _, rfl, rfl, rfl, rfl, id, rfl⟩, ⟨_, _, rfl, rfl, rfl, rfl, id, rfl⟩, ⟨_, _, rfl, rfl, (msgO_ren _ _ _ _ _ _ _ _ _ _).trans (by rw [List.length_append]; rfl), rfl, id, msgO_nm _ _ _ _ _ rfl⟩, HLe.oc (opt_le rfl (fun _ h => h) rfl rfl) (HLe.oc (opt_le rfl (fun _ h => h) rfl rfl) (HLe.oc (opt_le rfl (fun _ h => by rw [(opt_some h).1]; rfl) rfl rfl) (HLe.oc (opt_le rfl (fun _ h => h) rfl rfl) (⟨⟨_, _, rfl, rfl, rfl, rfl, id, rfl⟩, ⟨_, _, rfl, rfl, rfl, rfl, id, rfl⟩, ⟨_, _, rfl, rfl, rfl, rfl, id, rfl⟩, trivial⟩))))⟩
  ·refine .as (.u8 115) (congrArg AV.u8 h6) ?_
   refine .a (op_call (U := [(1008, some ⟨.agg [.str ((textD M.i 32768).1).r, .err 131 (((textD M.i 32768).1).e) (offE eo (((textD M.i 32768).1).e))], 93, true⟩), (1016, some ⟨msgO K 1024 M.us.length 1056 (M.ss.length + 1) 1040 M.ns.length 1048 M.bs.length, 30, true⟩), (1056, some ⟨.aggS (M.ss ++ [(textD M.i 32768).2]), 9, true⟩), (1032, none)]) [(500, 1008), (510, 1016), (511, 1024), (512, 1032), (513, 1040), (514, 1048)] [(1056, 1064)] (geto_s M.i K M.ss (by omega) M.us.length M.ns.length M.bs.length eo) Tryd.func30 (by kernel_rfl) rfl rfl rfl (⟨⟨_, rfl, rfl, rfl⟩, ⟨_, rfl, rfl, rfl⟩, ⟨_, rfl, rfl, rfl⟩, trivial⟩) (⟨⟨_, _, rfl, rfl, rfl, rfl, id, rfl⟩, ⟨_, _, rfl, rfl, msgO_ren _ _ _ _ _ _ _ _ _ _, rfl, id, msgO_nmC _ _ _ _ _ rfl⟩, HLeC.oc (opt_leC rfl (fun _ h => h) rfl rfl) (⟨⟨_, _, rfl, rfl, rfl, rfl, (fun h => by cases h), rfl⟩, ⟨_, _, rfl, rfl, rfl, rfl, (fun h => by cases h), rfl⟩, trivial⟩)⟩) (⟨⟨500, _, rfl, rfl, rfl, rfl, .inr ⟨rfl, _, rfl, rfl⟩⟩, ⟨510, _, rfl, congrArg (fun z => (⟨z, _, _⟩ : ABlk)) (msgO_ren (fwd [(500, 1008), (510, 1016), (511, 1024), (512, 1032), (513, 1040), (514, 1048)] [(1056, 1064)]) K 511 M.us.length 1064 (M.ss.length + 1) 513 M.ns.length 514 M.bs.length).symm, rfl, msgO_nmF _ _ _ _ _ rfl, .inr ⟨rfl, _, rfl, rfl⟩⟩, ⟨1064, _, rfl, rfl, rfl, rfl, .inl rfl⟩, trivial⟩) (⟨(fun _ => ⟨1008, _, rfl, rfl⟩), (fun _ => ⟨1016, _, rfl, rfl⟩), Cov.oc ⟨1032, _, rfl, rfl⟩ (⟨(fun h => by cases h), (fun h => by cases h), trivial⟩)⟩) rfl) trivial rfl ?_
   refine .nil ?_
   show Ev _ _ _ _ _
   refine .region ?_
   refine .q (op_addI rfl rfl ⟨by omega, by omega⟩) trivial rfl ?_
   refine .q (op_move rfl) trivial rfl ?_
   refine .nil ?_
   have e9 : (parseN (fieldsOf K) ⟨(byteD ⟨s, 0⟩).1, [], [], [], []⟩ (j + 1)) = ⟨(textD M.i 32768).1, M.us, M.ss ++ [(textD M.i 32768).2], M.ns, M.bs⟩ := by
    show getP _ _ = _; rw [hM, h6]; rfl
   refine ⟨⟨j + 1, by omega⟩, by (try dsimp only); omega, ?_⟩
   dsimp only
   rw [e9]
   exact StLe.mk [(1000, 1000), (1008, 1008), (1016, 1016), (1024, 1024), (1032, 1056), (1040, 1040), (1048, 1048)] rfl rfl ⟨⟨_, rfl, by first | rfl | (simp only [AV.ren]; congr 1), rfl⟩, ⟨_, rfl, by first | rfl | (simp only [AV.ren]; congr 1), rfl⟩, ⟨_, rfl, by first | rfl | (simp only [AV.ren]; congr 1), rfl⟩, ⟨_, rfl, by first | rfl | (simp only [AV.ren]; congr 1), rfl⟩, ⟨_, rfl, by first | rfl | (simp only [AV.ren]; congr 1), rfl⟩, ⟨_, rfl, by first | rfl | (simp only [AV.ren]; congr 1), rfl⟩, ⟨_, rfl, by first | rfl | (simp only [AV.ren]; congr 1), rfl⟩, trivial⟩ ⟨⟨_, _, rfl, rfl, rfl, rfl, id, rfl⟩, ⟨_, _, rfl, rfl, rfl, rfl, id, rfl⟩, ⟨_, _, rfl, rfl, (msgO_ren _ _ _ _ _ _ _ _ _ _).trans (by rw [List.length_append]; rfl), rfl, id, msgO_nm _ _ _ _ _ rfl⟩, HLe.oc (opt_le rfl (fun _ h => h) rfl rfl) (HLe.oc (opt_le rfl (fun _ h => by rw [(opt_some h).1]; rfl) rfl rfl) (HLe.oc (opt_le rfl (fun _ h => h) rfl rfl) (HLe.oc (opt_le rfl (fun _ h => h) rfl rfl) (⟨⟨_, _, rfl, rfl, rfl, rfl, id, rfl⟩, ⟨_, _, rfl, rfl, rfl, rfl, id, rfl⟩, ⟨_, _, rfl, rfl, rfl, rfl, id, rfl⟩, trivial⟩))))⟩
  ·refine .as (.u8 99) (congrArg AV.u8 h6) ?_
   refine .a (op_call (U := [(1008, some ⟨.agg [.str ((rawD M.i 16).1).r, .err 131 (((rawD M.i 16).1).e) (offE eo (((rawD M.i 16).1).e))], 93, true⟩), (1016, some ⟨msgO K 1024 M.us.length 1056 (M.ss.length + 1) 1040 M.ns.length 1048 M.bs.length, 30, true⟩), (1056, some ⟨.aggS (M.ss ++ [(rawD M.i 16).2]), 9, true⟩), (1032, none)]) [(500, 1008), (510, 1016), (511, 1024), (512, 1032), (513, 1040), (514, 1048)] [(1056, 1064)] (geto_c M.i K M.ss (by omega) M.us.length M.ns.length M.bs.length eo) Tryd.func30 (by kernel_rfl) rfl rfl rfl (⟨⟨_, rfl, rfl, rfl⟩, ⟨_, rfl, rfl, rfl⟩, ⟨_, rfl, rfl, rfl⟩, trivial⟩) (⟨⟨_, _, rfl, rfl, rfl, rfl, id, rfl⟩, ⟨_, _, rfl, rfl, msgO_ren _ _ _ _ _ _ _ _ _ _, rfl, id, msgO_nmC _ _ _ _ _ rfl⟩, HLeC.oc (opt_leC rfl (fun _ h => h) rfl rfl) (⟨⟨_, _, rfl, rfl, rfl, rfl, (fun h => by cases h), rfl⟩, trivial⟩)⟩) (⟨⟨500, _, rfl, rfl, rfl, rfl, .inr ⟨rfl, _, rfl, rfl⟩⟩, ⟨510, _, rfl, congrArg (fun z => (⟨z, _, _⟩ : ABlk)) (msgO_ren (fwd [(500, 1008), (510, 1016), (511, 1024), (512, 1032), (513, 1040), (514, 1048)] [(1056, 1064)]) K 511 M.us.length 1064 (M.ss.length + 1) 513 M.ns.length 514 M.bs.length).symm, rfl, msgO_nmF _ _ _ _ _ rfl, .inr ⟨rfl, _, rfl, rfl⟩⟩, ⟨1064, _, rfl, rfl, rfl, rfl, .inl rfl⟩, trivial⟩) (⟨(fun _ => ⟨1008, _, rfl, rfl⟩), (fun _ => ⟨1016, _, rfl, rfl⟩), Cov.oc ⟨1032, _, rfl, rfl⟩ (⟨(fun h => by cases h), trivial⟩)⟩) rfl) trivial rfl ?_
   refine .nil ?_
   show Ev _ _ _ _ _
   refine .region ?_
   refine .q (op_addI rfl rfl ⟨by omega, by omega⟩) trivial rfl ?_
   refine .q (op_move rfl) trivial rfl ?_
   refine .nil ?_
   have e9 : (parseN (fieldsOf K) ⟨(byteD ⟨s, 0⟩).1, [], [], [], []⟩ (j + 1)) = ⟨(rawD M.i 16).1, M.us, M.ss ++ [(rawD M.i 16).2], M.ns, M.bs⟩ := by
    show getP _ _ = _; rw [hM, h6]; rfl
   refine ⟨⟨j + 1, by omega⟩, by (try dsimp only); omega, ?_⟩
   dsimp only
   rw [e9]
   exact StLe.mk [(1000, 1000), (1008, 1008), (1016, 1016), (1024, 1024), (1032, 1056), (1040, 1040), (1048, 1048)] rfl rfl ⟨⟨_, rfl, by first | rfl | (simp only [AV.ren]; congr 1), rfl⟩, ⟨_, rfl, by first | rfl | (simp only [AV.ren]; congr 1), rfl⟩, ⟨_, rfl, by first | rfl | (simp only [AV.ren]; congr 1), rfl⟩, ⟨_, rfl, by first | rfl | (simp only [AV.ren]; congr 1), rfl⟩, ⟨_, rfl, by first | rfl | (simp only [AV.ren]; congr 1), rfl⟩, ⟨_, rfl, by first | rfl | (simp only [AV.ren]; congr 1), rfl⟩, ⟨_, rfl, by first | rfl | (simp only [AV.ren]; congr 1), rfl⟩, trivial⟩ ⟨⟨_, _, rfl, rfl, rfl, rfl, id, rfl⟩, ⟨_, _, rfl, rfl, rfl, rfl, id, rfl⟩, ⟨_, _, rfl, rfl, (msgO_ren _ _ _ _ _ _ _ _ _ _).trans (by rw [List.length_append]; rfl), rfl, id, msgO_nm _ _ _ _ _ rfl⟩, HLe.oc (opt_le rfl (fun _ h => h) rfl rfl) (HLe.oc (opt_le rfl (fun _ h => by rw [(opt_some h).1]; rfl) rfl rfl) (HLe.oc (opt_le rfl (fun _ h => h) rfl rfl) (HLe.oc (opt_le rfl (fun _ h => h) rfl rfl) (⟨⟨_, _, rfl, rfl, rfl, rfl, id, rfl⟩, ⟨_, _, rfl, rfl, rfl, rfl, id, rfl⟩, ⟨_, _, rfl, rfl, rfl, rfl, id, rfl⟩, trivial⟩))))⟩
  ·refine .as (.u8 114) (congrArg AV.u8 h6) ?_
   refine .a (op_call (U := [(1008, some ⟨.agg [.str ((rawD M.i M.i.r.length).1).r, .err 131 (((rawD M.i M.i.r.length).1).e) (offE eo (((rawD M.i M.i.r.length).1).e))], 93, true⟩), (1016, some ⟨msgO K 1024 M.us.length 1056 (M.ss.length + 1) 1040 M.ns.length 1048 M.bs.length, 30, true⟩), (1056, some ⟨.aggS (M.ss ++ [(rawD M.i M.i.r.length).2]), 9, true⟩), (1032, none)]) [(500, 1008), (510, 1016), (511, 1024), (512, 1032), (513, 1040), (514, 1048)] [(1056, 1080)] (geto_r M.i K M.ss (by omega) M.us.length M.ns.length M.bs.length eo) Tryd.func30 (by kernel_rfl) rfl rfl rfl (⟨⟨_, rfl, rfl, rfl⟩, ⟨_, rfl, rfl, rfl⟩, ⟨_, rfl, rfl, rfl⟩, trivial⟩) (⟨⟨_, _, rfl, rfl, rfl, rfl, id, rfl⟩, ⟨_, _, rfl, rfl, msgO_ren _ _ _ _ _ _ _ _ _ _, rfl, id, msgO_nmC _ _ _ _ _ rfl⟩, HLeC.oc (opt_leC rfl (fun _ h => h) rfl rfl) (⟨⟨_, _, rfl, rfl, rfl, rfl, (fun h => by cases h), rfl⟩, trivial⟩)⟩) (⟨⟨500, _, rfl, rfl, rfl, rfl, .inr ⟨rfl, _, rfl, rfl⟩⟩, ⟨510, _, rfl, congrArg (fun z => (⟨z, _, _⟩ : ABlk)) (msgO_ren (fwd [(500, 1008), (510, 1016), (511, 1024), (512, 1032), (513, 1040), (514, 1048)] [(1056, 1080)]) K 511 M.us.length 1080 (M.ss.length + 1) 513 M.ns.length 514 M.bs.length).symm, rfl, msgO_nmF _ _ _ _ _ rfl, .inr ⟨rfl, _, rfl, rfl⟩⟩, ⟨1080, _, rfl, rfl, rfl, rfl, .inl rfl⟩, trivial⟩) (⟨(fun _ => ⟨1008, _, rfl, rfl⟩), (fun _ => ⟨1016, _, rfl, rfl⟩), Cov.oc ⟨1032, _, rfl, rfl⟩ (⟨(fun h => by cases h), trivial⟩)⟩) rfl) trivial rfl ?_
   refine .nil ?_
   show Ev _ _ _ _ _
   refine .region ?_
   refine .q (op_addI rfl rfl ⟨by omega, by omega⟩) trivial rfl ?_
   refine .q (op_move rfl) trivial rfl ?_
   refine .nil ?_
   have e9 : (parseN (fieldsOf K) ⟨(byteD ⟨s, 0⟩).1, [], [], [], []⟩ (j + 1)) = ⟨(rawD M.i M.i.r.length).1, M.us, M.ss ++ [(rawD M.i M.i.r.length).2], M.ns, M.bs⟩ := by
    show getP _ _ = _; rw [hM, h6]; rfl
   refine ⟨⟨j + 1, by omega⟩, by (try dsimp only); omega, ?_⟩
   dsimp only
   rw [e9]
   exact StLe.mk [(1000, 1000), (1008, 1008), (1016, 1016), (1024, 1024), (1032, 1056), (1040, 1040), (1048, 1048)] rfl rfl ⟨⟨_, rfl, by first | rfl | (simp only [AV.ren]; congr 1), rfl⟩, ⟨_, rfl, by first | rfl | (simp only [AV.ren]; congr 1), rfl⟩, ⟨_, rfl, by first | rfl | (simp only [AV.ren]; congr 1), rfl⟩, ⟨_, rfl, by first | rfl | (simp only [AV.ren]; congr 1), rfl⟩, ⟨_, rfl, by first | rfl | (simp only [AV.ren]; congr 1), rfl⟩, ⟨_, rfl, by first | rfl | (simp only [AV.ren]; congr 1), rfl⟩, ⟨_, rfl, by first | rfl | (simp only [AV.ren]; congr 1), rfl⟩, trivial⟩ ⟨⟨_, _, rfl, rfl, rfl, rfl, id, rfl⟩, ⟨_, _, rfl, rfl, rfl, rfl, id, rfl⟩, ⟨_, _, rfl, rfl, (msgO_ren _ _ _ _ _ _ _ _ _ _).trans (by rw [List.length_append]; rfl), rfl, id, msgO_nm _ _ _ _ _ rfl⟩, HLe.oc (opt_le rfl (fun _ h => h) rfl rfl) (HLe.oc (opt_le rfl (fun _ h => by rw [(opt_some h).1]; rfl) rfl rfl) (HLe.oc (opt_le rfl (fun _ h => h) rfl rfl) (HLe.oc (opt_le rfl (fun _ h => h) rfl rfl) (⟨⟨_, _, rfl, rfl, rfl, rfl, id, rfl⟩, ⟨_, _, rfl, rfl, rfl, rfl, id, rfl⟩, ⟨_, _, rfl, rfl, rfl, rfl, id, rfl⟩, trivial⟩))))⟩
 ·simp only [decide_eq_false_iff_not] at hc33
  refine .exit ?_
  show Ev _ _ _ _ _
  have ej : j = (fieldsOf K).length := by omega
  subst ej
  have eM : R = M := hR.symm.trans hM
  subst eM
  refine .seq ?_
  refine .seq ?_
  refine .region ?_
  refine .q (op_move rfl) trivial rfl ?_
  refine .a (op_call (U := [(1008, some ⟨.agg [.str (endD R.i).r, .err 131 ((endD R.i).e) (offE eo ((endD R.i).e))], 93, true⟩)]) [(500, 1008)] [] (end_ev R.i eo) Tryd.func31 (by kernel_rfl) rfl rfl rfl (⟨⟨_, rfl, rfl, rfl⟩, trivial⟩) (⟨⟨_, _, rfl, rfl, rfl, rfl, id, rfl⟩, ⟨_, _, rfl, rfl, rfl, rfl, (fun h => by cases h), rfl⟩, trivial⟩) (⟨⟨500, _, rfl, rfl, rfl, rfl, .inr ⟨rfl, _, rfl, rfl⟩⟩, trivial⟩) (⟨(fun _ => ⟨1008, _, rfl, rfl⟩), (fun h => by cases h), trivial⟩) rfl) trivial rfl ?_
  refine .q (op_assign rfl) trivial rfl ?_
  refine .nil ?_
  show Ev _ _ _ _ _
  refine .seq ?_
  refine .region ?_
  refine .q (op_move rfl) trivial rfl ?_
  refine .q (op_eqErrNil (e := (endD R.i).e) Tryd.underlying33 rfl rfl) trivial rfl ?_
  refine .nil ?_
  show Ev _ _ _ _ _
  refine .cond_false rfl (by rw [he]; rfl) ?_
  refine .skip ?_
  show Ev _ _ _ _ _
  refine .seq ?_
  refine .seq ?_
  refine Ev.weak (StLe.freezeO (cb := 1016) (i := 1) (b := 1024) (n := R.us.length) (c := .agg32 R.us) (e := 42) (Nat.le_of_ble_eq_true rfl) rfl rfl rfl (by decide) (List.length_map _) (fun x hx => by obtain ⟨_, _, rfl⟩ := List.mem_map.1 (show x ∈ R.us.map AV.u32 from hx); rfl) (cells5 (by first | rfl | exact slO_cell _ _ _) (by first | rfl | exact slO_cell _ _ _) (by first | rfl | exact slO_cell _ _ _) (by first | rfl | exact slO_cell _ _ _) (by first | rfl | exact slO_cell _ _ _))) ?_
  refine Ev.weak (StLe.freezeO (cb := 1016) (i := 2) (b := 1032) (n := R.ss.length) (c := .aggS R.ss) (e := 9) (Nat.le_of_ble_eq_true rfl) rfl rfl rfl (by decide) (List.length_map _) (fun x hx => by obtain ⟨_, _, rfl⟩ := List.mem_map.1 (show x ∈ R.ss.map AV.str from hx); rfl) (cells5 (by first | rfl | exact slO_cell _ _ _) (by first | rfl | exact slO_cell _ _ _) (by first | rfl | exact slO_cell _ _ _) (by first | rfl | exact slO_cell _ _ _) (by first | rfl | exact slO_cell _ _ _))) ?_
  refine Ev.weak (StLe.freezeO (cb := 1016) (i := 3) (b := 1040) (n := R.ns.length) (c := .aggD R.ns) (e := 23) (Nat.le_of_ble_eq_true rfl) rfl rfl rfl (by decide) (List.length_map _) (fun x hx => by obtain ⟨_, _, rfl⟩ := List.mem_map.1 (show x ∈ R.ns.map AV.dsl from hx); rfl) (cells5 (by first | rfl | exact slO_cell _ _ _) (by first | rfl | exact slO_cell _ _ _) (by first | rfl | exact slO_cell _ _ _) (by first | rfl | exact slO_cell _ _ _) (by first | rfl | exact slO_cell _ _ _))) ?_
  refine Ev.weak (StLe.freezeO (cb := 1016) (i := 4) (b := 1048) (n := R.bs.length) (c := .aggT R.bs) (e := 4) (Nat.le_of_ble_eq_true rfl) rfl rfl rfl (by decide) (List.length_map _) (fun x hx => by obtain ⟨_, _, rfl⟩ := List.mem_map.1 (show x ∈ R.bs.map AV.bool from hx); rfl) (cells5 (by first | rfl | exact slO_cell _ _ _) (by first | rfl | exact slO_cell _ _ _) (by first | rfl | exact slO_cell _ _ _) (by first | rfl | exact slO_cell _ _ _) (by first | rfl | exact slO_cell _ _ _))) ?_
  refine Ev.weak (StLe.weakB (cb := 1016) (ec := 30) (oc := true) (cs := [.i64 K, .fsl (R.us.map AV.u32) R.us.length 1, .fsl (R.ss.map AV.str) R.ss.length 1, .fsl (R.ns.map AV.dsl) R.ns.length 1, .fsl (R.bs.map AV.bool) R.bs.length 1]) (cs' := [.i64 K, .fsl (R.us.map AV.u32) R.us.length 1, .dsl R.ss, .fsl (R.ns.map AV.dsl) R.ns.length 1, .fsl (R.bs.map AV.bool) R.bs.length 1]) (Nat.le_of_ble_eq_true rfl) rfl rfl (weak5 rfl rfl rfl rfl rfl (fun _ _ h => h) (fsl_dsl rfl) (fun _ _ h => h) (fun _ _ h => h))) ?_
  show Ev _ _ _ _ _
  refine .region ?_
  refine .q (op_loadRow Tryd.underlying30 rfl (by kernel_rfl) rfl rfl rfl (rfl)) trivial rfl ?_
  refine .q (op_call (U := []) [] [] (toolong_f K R.us R.ss R.ns R.bs hnl hsl hss hnj) Tryd.func19 (by kernel_rfl) rfl rfl rfl (⟨⟨_, rfl, rfl, rfl⟩, trivial⟩) (trivial) (trivial) (trivial) rfl) trivial rfl ?_
  refine .nil ?_
  show Ev _ _ _ _ _
  refine .cond_false rfl (rfl) ?_
  refine .skip ?_
  show Ev _ _ _ _ _
  refine .seq ?_
  refine .region ?_
  refine .q (op_loadRow Tryd.underlying30 rfl (by kernel_rfl) rfl rfl rfl (rfl)) trivial rfl ?_
  refine .w (op_storeRow (by kernel_rfl) rfl rfl rfl rfl rfl (rfl) (rfl)) trivial rfl ?_
  refine .q (op_assign rfl) trivial rfl ?_
  refine .nil ?_
  show Ev _ _ _ _ _
  refine .ret ?_
  show RetOk _ _ _ _ _ _ _
  exact retc2 rfl (.inl rfl) ⟨_, _, _, _, rfl, rfl, rfl, rfl, rfl, Tryd.underlying30, rfl, (by kernel_rfl)⟩ rfl trivial
end Go.Proofs.YtenocbhlbgcnfaaDoor
