/-
  Texts of this claim.
-/
import Derived.Test.YtgnicenhnchglaaDoorGR3
import Derived.Test.YtgnicenhnchglaaDoorGRP
namespace Go.Proofs.YtgnicenhnchglaaDoor
open Go.RowKit
theorem byteD_ok (s : List UInt8) : (byteD ⟨s, 0⟩).1.ok := rawD_ok (fun h => absurd rfl h) 1
theorem namesD_ok {i : DI} (h : i.ok) : (namesD i).1.ok := by
  unfold namesD
  split
  · exact textD_ok h _
  · split
    · exact textD_ok h _
    · exact failD_ok _ _
theorem getP_ok (l : UInt8) {m : MSt} (h : m.i.ok) : (getP l m).i.ok := by
  unfold getP
  repeat' split
  · exact rawD_ok h 4
  · exact rawD_ok h 1
  · exact namesD_ok h
  · exact textD_ok h _
  · exact rawD_ok h 16
  · exact rawD_ok h _
theorem parseN_ok (fs : List UInt8) (m : MSt) (h : m.i.ok) : ∀ j, (parseN fs m j).i.ok
  | 0 => h
  | j + 1 => getP_ok _ (parseN_ok fs m h j)
theorem num1 (i : DI) : ∃ c : UInt8, (numD i 1).2 = c.toUInt64 := by
  show ∃ c : UInt8, numV (rawD i 1).2 = c.toUInt64
  rcases rawD_length i 1 with h | h
  · match (rawD i 1).2, h with
    | [c], _ => exact ⟨c, by show (0 : UInt64) <<< UInt64.ofNat 8 ||| c.toUInt64 = _; rw [show (0 : UInt64) <<< UInt64.ofNat 8 = 0 from rfl, UInt64.zero_or]⟩
  · rw [h]; exact ⟨0, rfl⟩
theorem bool_num (i : DI) : ((numD i 1).2 != 0) = (boolD i).2 := by
  obtain ⟨c, h⟩ := num1 i
  show _ = ((numD i 1).2.toUInt8 != 0)
  rw [h]
  have h8 : c.toUInt64.toUInt8 = c := by simp
  rw [h8]
  by_cases hc : c = 0
  · subst hc; rfl
  · have h1 : (c != 0) = true := by simpa using hc
    rw [h1, bne_iff_ne]
    intro h2
    exact hc (by rw [← h8, h2]; rfl)
theorem kind_num (i : DI) : (numD i 1).2.toNat = (byteD i).2.toNat := by
  obtain ⟨c, h⟩ := num1 i
  show _ = (numD i 1).2.toUInt8.toNat
  rw [h]; simp
set_option maxRecDepth 100000 in
theorem rparse_bad (s : List UInt8) (he0 : (byteD ⟨s, 0⟩).1.e = 0) (hs : s.length ≤ 1000) (K : Int) (hK : K = (((byteD ⟨s, 0⟩).2.toNat : Nat) : Int)) (hk : isKind K = true) (R : MSt) (hR : (parseN (fieldsOf K) ⟨(byteD ⟨s, 0⟩).1, [], [], [], []⟩ ((fieldsOf K).length)) = R) (he : R.i.e ≠ 0)  : Meets Tryd.prog 15 [.str s] [] (.tup [.agg [.i64 0, .nilsl, .nilsl, .nilsl, .nilsl], .i64 ((R.i.e : Nat) : Int)]) [] := by
 refine meets_of_ev (nt := 146) Tryd.func15 rfl rfl (Nat.le_of_ble_eq_true rfl) ?_
 refine .seq ?_
 refine .region ?_
 refine .a (op_allocRow zero27 rel_zero27 rfl) trivial rfl ?_
 refine .q (op_assign rfl) trivial rfl ?_
 refine .nil ?_
 show Ev _ _ _ _ _
 refine .seq ?_
 refine .region ?_
 refine .q (op_move rfl) trivial rfl ?_
 refine .q (op_buildS (r := .agg [.str s, .i64 0]) Tryd.underlying71 rfl zero71 rel_zero71 rfl rfl rfl rfl) trivial rfl ?_
 refine .q (op_call (U := []) [] [] (rnum_ev (DI.mk s 0) (fun h => absurd rfl h) 1 (by decide)) Tryd.func34 (by kernel_rfl) rfl rfl rfl (⟨⟨_, rfl, rfl, rfl⟩, ⟨_, rfl, rfl, rfl⟩, trivial⟩) (trivial) (trivial) (trivial) rfl) trivial rfl ?_
 refine .q (op_move rfl) trivial rfl ?_
 refine .q (op_extract rfl rfl) trivial rfl ?_
 refine .q (op_extract rfl rfl) trivial rfl ?_
 refine .a (op_allocRow zero71 rel_zero71 rfl) trivial rfl ?_
 refine .w (op_storeRow (by kernel_rfl) rfl rfl rfl rfl rfl (rfl) (rfl)) trivial rfl ?_
 refine .q (op_assign rfl) trivial rfl ?_
 refine .nil ?_
 show Ev _ _ _ _ _
 refine .seq ?_
 refine .seq ?_
 refine .region ?_
 refine .q (op_fieldAddr (m := 0) Tryd.underlying71 rfl (by kernel_rfl) rfl) trivial rfl ?_
 refine .as (.ptr 1008 1) rfl ?_
 refine .q (op_load Tryd.underlying3 rfl rfl rfl rfl (by show _ < 2; decide)) trivial rfl ?_
 refine .q (op_cmpI rfl rfl rfl) trivial rfl ?_
 refine .nil ?_
 show Ev _ _ _ _ _
 refine .cond_false rfl (by rw [show (numD (DI.mk s 0) 1).1.e = 0 from he0]; rfl) ?_
 refine .skip ?_
 show Ev _ _ _ _ _
 refine .seq ?_
 refine .region ?_
 refine .q (op_move rfl) trivial rfl ?_
 refine .q (op_conv64I Tryd.underlying64 Tryd.underlying3 rfl (by rw [kind_num]; have := (byteD (DI.mk s 0)).2.toNat_lt; omega)) trivial rfl ?_
 refine .as (.i64 K) (by rw [hK]; exact congrArg (fun z : Nat => AV.i64 z) (kind_num _)) ?_
 refine .q (op_buildS (r := .agg [.i64 (K), .nilsl, .nilsl, .nilsl, .nilsl]) Tryd.underlying27 rfl zero27 rel_zero27 rfl rfl rfl rfl) trivial rfl ?_
 refine .a (op_allocRow zero27 rel_zero27 rfl) trivial rfl ?_
 refine .w (op_storeRow (by kernel_rfl) rfl rfl rfl rfl rfl (rfl) (rfl)) trivial rfl ?_
 refine .nil ?_
 show Ev _ _ _ _ _
 refine .seq ?_
 refine .region ?_
 refine .q (op_fieldAddr (m := 0) Tryd.underlying27 rfl (by kernel_rfl) rfl) trivial rfl ?_
 refine .as (.ptr 1016 0) rfl ?_
 refine .q (op_load Tryd.underlying3 rfl rfl rfl rfl (by show 0 < 5; decide)) trivial rfl ?_
 refine .q (op_call (U := []) [] [] (rfields_ev K) Tryd.func22 (by kernel_rfl) rfl rfl rfl (⟨⟨_, rfl, rfl, rfl⟩, trivial⟩) (trivial) (trivial) (trivial) rfl) trivial rfl ?_
 refine .q (op_move rfl) trivial rfl ?_
 refine .q (op_extract rfl rfl) trivial rfl ?_
 refine .q (op_extract rfl rfl) trivial rfl ?_
 refine .q (op_assign rfl) trivial rfl ?_
 refine .q (op_assign rfl) trivial rfl ?_
 refine .nil ?_
 show Ev _ _ _ _ _
 refine .seq ?_
 refine .seq ?_
 refine .region ?_
 refine .q (op_move rfl) trivial rfl ?_
 refine .q (op_notB rfl) trivial rfl ?_
 refine .nil ?_
 show Ev _ _ _ _ _
 refine .cond_false rfl (by rw [hk]; rfl) ?_
 refine .skip ?_
 show Ev _ _ _ _ _
 refine .seq ?_
 refine .seq ?_
 refine .region ?_
 refine .q (op_assign rfl) trivial rfl ?_
 refine .nil ?_
 show Ev _ _ _ _ _
 refine .block ?_
 refine Ev.loop (ι := { j : Nat // j ≤ (fieldsOf K).length }) (fun q => ⟨[(2, .ptr 1000 0), (3, .i64 0), (4, .ptr 1008 0), (6, .ptr 1016 0), (7, .str (fieldsOf K)), (9, .i64 ((q.1 : Nat) : Int))], [(1000, some ⟨.agg [.i64 0, .nilsl, .nilsl, .nilsl, .nilsl], 27, true⟩), (1008, some ⟨.agg [.str ((parseN (fieldsOf K) ⟨(byteD ⟨s, 0⟩).1, [], [], [], []⟩ q.1).i).r, .i64 ((((parseN (fieldsOf K) ⟨(byteD ⟨s, 0⟩).1, [], [], [], []⟩ q.1).i).e : Nat) : Int)], 71, true⟩), (1016, some ⟨msgO K 1024 (parseN (fieldsOf K) ⟨(byteD ⟨s, 0⟩).1, [], [], [], []⟩ q.1).us.length 1032 (parseN (fieldsOf K) ⟨(byteD ⟨s, 0⟩).1, [], [], [], []⟩ q.1).ss.length 1040 (parseN (fieldsOf K) ⟨(byteD ⟨s, 0⟩).1, [], [], [], []⟩ q.1).ns.length 1048 (parseN (fieldsOf K) ⟨(byteD ⟨s, 0⟩).1, [], [], [], []⟩ q.1).bs.length, 27, true⟩), (1024, opt (.agg32 (parseN (fieldsOf K) ⟨(byteD ⟨s, 0⟩).1, [], [], [], []⟩ q.1).us) (parseN (fieldsOf K) ⟨(byteD ⟨s, 0⟩).1, [], [], [], []⟩ q.1).us.length 46), (1032, opt (.aggS (parseN (fieldsOf K) ⟨(byteD ⟨s, 0⟩).1, [], [], [], []⟩ q.1).ss) (parseN (fieldsOf K) ⟨(byteD ⟨s, 0⟩).1, [], [], [], []⟩ q.1).ss.length 9), (1040, opt (.aggD (parseN (fieldsOf K) ⟨(byteD ⟨s, 0⟩).1, [], [], [], []⟩ q.1).ns) (parseN (fieldsOf K) ⟨(byteD ⟨s, 0⟩).1, [], [], [], []⟩ q.1).ns.length 23), (1048, opt (.aggT (parseN (fieldsOf K) ⟨(byteD ⟨s, 0⟩).1, [], [], [], []⟩ q.1).bs) (parseN (fieldsOf K) ⟨(byteD ⟨s, 0⟩).1, [], [], [], []⟩ q.1).bs.length 4)], 1056⟩) (fun q => (fieldsOf K).length - q.1) ⟨0, Nat.zero_le _⟩ (StLe.mk [(1000, 1000), (1008, 1008), (1016, 1016)] rfl rfl ⟨⟨_, rfl, rfl, rfl⟩, ⟨_, rfl, rfl, rfl⟩, ⟨_, rfl, rfl, rfl⟩, ⟨_, rfl, rfl, rfl⟩, ⟨_, rfl, rfl, rfl⟩, ⟨_, rfl, rfl, rfl⟩, trivial⟩ ⟨⟨_, _, rfl, rfl, rfl, rfl, id, rfl⟩, ⟨_, _, rfl, rfl, rfl, rfl, id, rfl⟩, ⟨_, _, rfl, rfl, rfl, rfl, id, rfl⟩, HLe.oc (fun _ h => nomatch h) (HLe.oc (fun _ h => nomatch h) (HLe.oc (fun _ h => nomatch h) (HLe.oc (fun _ h => nomatch h) (trivial))))⟩) ?_
 rintro ⟨j, hj⟩
 dsimp only
 have hm0 := parseN_le (fieldsOf K) ⟨(byteD ⟨s, 0⟩).1, [], [], [], []⟩ j
 have hok : (parseN (fieldsOf K) ⟨(byteD ⟨s, 0⟩).1, [], [], [], []⟩ j).i.ok := parseN_ok (fieldsOf K) _ (byteD_ok s) j
 have hb0 : (byteD ⟨s, 0⟩).1.r.length ≤ s.length := (rawD_len_le ⟨s, 0⟩ 1).2
 dsimp only at hm0
 simp only [List.length_nil, Nat.zero_add] at hm0
 generalize hM : (parseN (fieldsOf K) ⟨(byteD ⟨s, 0⟩).1, [], [], [], []⟩ j) = M at hm0 hok ⊢
 obtain ⟨hmr, hmu, hms, hmn, hmb⟩ := hm0
 have hj12 := fields_len K
 refine .seq ?_
 refine .seq ?_
 refine .region ?_
 refine .q (op_move rfl) trivial rfl ?_
 refine .q (op_move rfl) trivial rfl ?_
 refine .q (op_len_str Tryd.underlying9 rfl) trivial rfl ?_
 refine .q (op_cmpI rfl rfl rfl) trivial rfl ?_
 refine .nil ?_
 show Ev _ _ _ _ _
 refine .cond rfl (fun hc41 => ?_) (fun hc41 => ?_)
 ·first | replace hc41 := of_decide_eq_true hc41 | replace hc41 := of_decide_eq_false hc41 | replace hc41 := eq_of_beq hc41 | replace hc41 := ne_of_beq_false hc41 | simp only [bne_iff_ne, ne_eq] at hc41 | simp only [bne_eq_false_iff_eq] at hc41
  refine .skip ?_
  show Ev _ _ _ _ _
  refine .seq ?_
  refine .block ?_
  refine .seq ?_
  refine .region ?_
  refine .q (op_assign rfl) trivial rfl ?_
  refine .nil ?_
  show Ev _ _ _ _ _
  refine .seq ?_
  refine .region ?_
  refine .q (op_assign rfl) trivial rfl ?_
  refine .nil ?_
  show Ev _ _ _ _ _
  refine .seq ?_
  refine .region ?_
  refine .q (op_move rfl) trivial rfl ?_
  refine .q (op_move rfl) trivial rfl ?_
  refine .q (op_index_str Tryd.underlying9 rfl rfl (show _ = ((j : Nat) : Int) from rfl) (by omega)) trivial rfl ?_
  refine .nil ?_
  show Ev _ _ _ _ _
  refine .block ?_
  refine .seq ?_
  refine .region ?_
  refine six_of (fields_six K j (by omega)) (fun h6 => ?_) (fun h6 => ?_) (fun h6 => ?_) (fun h6 => ?_) (fun h6 => ?_) (fun h6 => ?_)
  ·refine .as (.u8 117) (congrArg AV.u8 h6) ?_
   refine .q (op_bin8 rfl rfl rfl) trivial rfl ?_
   refine .q (op_assign rfl) trivial rfl ?_
   refine .nil ?_
   show Ev _ _ _ _ _
   refine .cond_true rfl (rfl) ?_
   refine .seq ?_
   refine .region ?_
   refine .q (op_loadRow Tryd.underlying71 rfl (by kernel_rfl) rfl rfl rfl (rfl)) trivial rfl ?_
   refine .q (op_call (U := []) [] [] (rnum_ev M.i hok 4 (by decide)) Tryd.func34 (by kernel_rfl) rfl rfl rfl (⟨⟨_, rfl, rfl, rfl⟩, ⟨_, rfl, rfl, rfl⟩, trivial⟩) (trivial) (trivial) (trivial) rfl) trivial rfl ?_
   refine .q (op_move rfl) trivial rfl ?_
   refine .q (op_extract rfl rfl) trivial rfl ?_
   refine .q (op_extract rfl rfl) trivial rfl ?_
   refine .w (op_storeRow (by kernel_rfl) rfl rfl rfl rfl rfl (rfl) (rfl)) trivial rfl ?_
   refine .q (op_assign rfl) trivial rfl ?_
   refine .nil ?_
   show Ev _ _ _ _ _
   refine .region ?_
   refine .q (op_fieldAddr (m := 0) Tryd.underlying27 rfl (by kernel_rfl) rfl) trivial rfl ?_
   refine .as (.ptr 1016 1) rfl ?_
   refine .q (op_load Tryd.underlying22 rfl rfl rfl rfl (by show _ < 5; decide)) trivial rfl ?_
   refine .q (op_move rfl) trivial rfl ?_
   refine .q (op_conv Tryd.underlying64 Tryd.underlying46 rfl rfl) trivial rfl ?_
   refine .a (ap_build (us := [.u32 (u32D M.i).2]) (c := .agg32 [(u32D M.i).2]) Tryd.underlying22 inf46 rfl (by decide) (by decide) ⟨rfl, rfl, rfl, trivial⟩ rfl) trivial rfl ?_
   refine .a (ap_append_slO (c := .agg32 M.us) (c' := .agg32 (M.us ++ [(u32D M.i).2])) Tryd.underlying22 Tryd.underlying22 (.inr ⟨_, rfl⟩) inf46 rfl (fun _ h => h) (by show M.us.length = M.us.length * 1; omega) (srcs_sl (b := 1056) (o := 0) (m := 1) (z := 1) (k := ⟨.agg32 [(u32D M.i).2], 46, true⟩) rfl rfl (Nat.le_refl 1) rfl) (by show (M.us ++ [(u32D M.i).2]).map _ = _; rw [List.map_append]; rfl) (by decide) (Nat.le_of_ble_eq_true rfl) (by omega)) trivial rfl ?_
   refine .q (op_fieldAddr (m := 0) Tryd.underlying27 rfl (by kernel_rfl) rfl) trivial rfl ?_
   refine .as (.ptr 1016 1) rfl ?_
   refine .w (op_store (by kernel_rfl) rfl rfl rfl rfl rfl (by show _ < 5; decide)) trivial rfl ?_
   refine .nil ?_
   show Ev _ _ _ _ _
   refine .region ?_
   refine .q (op_move rfl) trivial rfl ?_
   refine .q (op_addI rfl rfl ⟨by first | omega | (simp only [AV.len]; omega) | (simp only [AV.len, List.length_set]; omega) | assumption | (simp [AV.len]; done), by first | omega | (simp only [AV.len]; omega) | (simp only [AV.len, List.length_set]; omega) | assumption | (simp [AV.len]; done)⟩) trivial rfl ?_
   refine .q (op_assign rfl) trivial rfl ?_
   refine .nil ?_
   have e9 : (parseN (fieldsOf K) ⟨(byteD ⟨s, 0⟩).1, [], [], [], []⟩ (j + 1)) = ⟨(u32D M.i).1, M.us ++ [(u32D M.i).2], M.ss, M.ns, M.bs⟩ := by
    show getP _ _ = _; rw [hM, h6]; rfl
   refine ⟨⟨j + 1, by omega⟩, by (try dsimp only); omega, ?_⟩
   dsimp only
   rw [e9]
   exact StLe.mk [(1000, 1000), (1008, 1008), (1016, 1016), (1024, 1064), (1032, 1032), (1040, 1040), (1048, 1048)] rfl rfl ⟨⟨_, rfl, by first | rfl | (simp only [AV.ren]; congr 1), rfl⟩, ⟨_, rfl, by first | rfl | (simp only [AV.ren]; congr 1), rfl⟩, ⟨_, rfl, by first | rfl | (simp only [AV.ren]; congr 1), rfl⟩, ⟨_, rfl, by first | rfl | (simp only [AV.ren]; congr 1), rfl⟩, ⟨_, rfl, by first | rfl | (simp only [AV.ren]; congr 1), rfl⟩, ⟨_, rfl, by first | rfl | (simp only [AV.ren]; congr 1), rfl⟩, trivial⟩ ⟨⟨_, _, rfl, rfl, rfl, rfl, id, rfl⟩, ⟨_, _, rfl, rfl, rfl, rfl, id, rfl⟩, ⟨_, _, rfl, rfl, (msgO_ren (back [(1000, 1000), (1008, 1008), (1016, 1016), (1024, 1064), (1032, 1032), (1040, 1040), (1048, 1048)]) K 1064 (M.us.length + 1) 1032 M.ss.length 1040 M.ns.length 1048 M.bs.length).trans (by rw [List.length_append]; rfl), rfl, id, msgO_nm (L := [(1000, 1000), (1008, 1008), (1016, 1016), (1024, 1064), (1032, 1032), (1040, 1040), (1048, 1048)]) (a := 1064) (b := 1032) (c := 1040) (d := 1048) K (M.us.length + 1) M.ss.length M.ns.length M.bs.length rfl⟩, HLe.oc (opt_le rfl (fun _ h => by rw [(opt_some h).1]; rfl) rfl rfl) (HLe.oc (opt_le rfl (fun _ h => h) rfl rfl) (HLe.oc (opt_le rfl (fun _ h => h) rfl rfl) (HLe.oc (opt_le rfl (fun _ h => h) rfl rfl) (trivial))))⟩
  ·refine .as (.u8 98) (congrArg AV.u8 h6) ?_
   refine .q (op_bin8 rfl rfl rfl) trivial rfl ?_
   refine .q (op_assign rfl) trivial rfl ?_
   refine .nil ?_
   show Ev _ _ _ _ _
   refine .cond_false rfl (rfl) ?_
   refine .seq ?_
   refine .region ?_
   refine .q (op_bin8 rfl rfl rfl) trivial rfl ?_
   refine .q (op_assign rfl) trivial rfl ?_
   refine .nil ?_
   show Ev _ _ _ _ _
   refine .cond_false rfl (rfl) ?_
   refine .seq ?_
   refine .region ?_
   refine .q (op_bin8 rfl rfl rfl) trivial rfl ?_
   refine .q (op_assign rfl) trivial rfl ?_
   refine .nil ?_
   show Ev _ _ _ _ _
   refine .cond_true rfl (rfl) ?_
   refine .seq ?_
   refine .region ?_
   refine .q (op_loadRow Tryd.underlying71 rfl (by kernel_rfl) rfl rfl rfl (rfl)) trivial rfl ?_
   refine .q (op_call (U := []) [] [] (rnum_ev M.i hok 1 (by decide)) Tryd.func34 (by kernel_rfl) rfl rfl rfl (⟨⟨_, rfl, rfl, rfl⟩, ⟨_, rfl, rfl, rfl⟩, trivial⟩) (trivial) (trivial) (trivial) rfl) trivial rfl ?_
   refine .q (op_move rfl) trivial rfl ?_
   refine .q (op_extract rfl rfl) trivial rfl ?_
   refine .q (op_extract rfl rfl) trivial rfl ?_
   refine .w (op_storeRow (by kernel_rfl) rfl rfl rfl rfl rfl (rfl) (rfl)) trivial rfl ?_
   refine .q (op_assign rfl) trivial rfl ?_
   refine .nil ?_
   show Ev _ _ _ _ _
   refine .region ?_
   refine .q (op_fieldAddr (m := 0) Tryd.underlying27 rfl (by kernel_rfl) rfl) trivial rfl ?_
   refine .as (.ptr 1016 4) rfl ?_
   refine .q (op_load Tryd.underlying25 rfl rfl rfl rfl (by show _ < 5; decide)) trivial rfl ?_
   refine .q (op_move rfl) trivial rfl ?_
   refine .q (op_bin64 rfl rfl rfl) trivial rfl ?_
   refine .as (.bool (boolD M.i).2) (congrArg AV.bool (bool_num M.i)) ?_
   refine .a (ap_build (us := [.bool (boolD M.i).2]) (c := .aggT [(boolD M.i).2]) Tryd.underlying25 inf4 rfl (by decide) (by decide) ⟨rfl, rfl, rfl, trivial⟩ rfl) trivial rfl ?_
   refine .a (ap_append_slO (c := .aggT M.bs) (c' := .aggT (M.bs ++ [(boolD M.i).2])) Tryd.underlying25 Tryd.underlying25 (.inr ⟨_, rfl⟩) inf4 rfl (fun _ h => h) (by show M.bs.length = M.bs.length * 1; omega) (srcs_sl (b := 1056) (o := 0) (m := 1) (z := 1) (k := ⟨.aggT [(boolD M.i).2], 4, true⟩) rfl rfl (Nat.le_refl 1) rfl) (by show (M.bs ++ [(boolD M.i).2]).map _ = _; rw [List.map_append]; rfl) (by decide) (Nat.le_of_ble_eq_true rfl) (by omega)) trivial rfl ?_
   refine .q (op_fieldAddr (m := 0) Tryd.underlying27 rfl (by kernel_rfl) rfl) trivial rfl ?_
   refine .as (.ptr 1016 4) rfl ?_
   refine .w (op_store (by kernel_rfl) rfl rfl rfl rfl rfl (by show _ < 5; decide)) trivial rfl ?_
   refine .nil ?_
   show Ev _ _ _ _ _
   refine .region ?_
   refine .q (op_move rfl) trivial rfl ?_
   refine .q (op_addI rfl rfl ⟨by first | omega | (simp only [AV.len]; omega) | (simp only [AV.len, List.length_set]; omega) | assumption | (simp [AV.len]; done), by first | omega | (simp only [AV.len]; omega) | (simp only [AV.len, List.length_set]; omega) | assumption | (simp [AV.len]; done)⟩) trivial rfl ?_
   refine .q (op_assign rfl) trivial rfl ?_
   refine .nil ?_
   have e9 : (parseN (fieldsOf K) ⟨(byteD ⟨s, 0⟩).1, [], [], [], []⟩ (j + 1)) = ⟨(boolD M.i).1, M.us, M.ss, M.ns, M.bs ++ [(boolD M.i).2]⟩ := by
    show getP _ _ = _; rw [hM, h6]; rfl
   refine ⟨⟨j + 1, by omega⟩, by (try dsimp only); omega, ?_⟩
   dsimp only
   rw [e9]
   exact StLe.mk [(1000, 1000), (1008, 1008), (1016, 1016), (1024, 1024), (1032, 1032), (1040, 1040), (1048, 1064)] rfl rfl ⟨⟨_, rfl, by first | rfl | (simp only [AV.ren]; congr 1), rfl⟩, ⟨_, rfl, by first | rfl | (simp only [AV.ren]; congr 1), rfl⟩, ⟨_, rfl, by first | rfl | (simp only [AV.ren]; congr 1), rfl⟩, ⟨_, rfl, by first | rfl | (simp only [AV.ren]; congr 1), rfl⟩, ⟨_, rfl, by first | rfl | (simp only [AV.ren]; congr 1), rfl⟩, ⟨_, rfl, by first | rfl | (simp only [AV.ren]; congr 1), rfl⟩, trivial⟩ ⟨⟨_, _, rfl, rfl, rfl, rfl, id, rfl⟩, ⟨_, _, rfl, rfl, rfl, rfl, id, rfl⟩, ⟨_, _, rfl, rfl, (msgO_ren (back [(1000, 1000), (1008, 1008), (1016, 1016), (1024, 1024), (1032, 1032), (1040, 1040), (1048, 1064)]) K 1024 M.us.length 1032 M.ss.length 1040 M.ns.length 1064 (M.bs.length + 1)).trans (by rw [List.length_append]; rfl), rfl, id, msgO_nm (L := [(1000, 1000), (1008, 1008), (1016, 1016), (1024, 1024), (1032, 1032), (1040, 1040), (1048, 1064)]) (a := 1024) (b := 1032) (c := 1040) (d := 1064) K M.us.length M.ss.length M.ns.length (M.bs.length + 1) rfl⟩, HLe.oc (opt_le rfl (fun _ h => h) rfl rfl) (HLe.oc (opt_le rfl (fun _ h => h) rfl rfl) (HLe.oc (opt_le rfl (fun _ h => h) rfl rfl) (HLe.oc (opt_le rfl (fun _ h => by rw [(opt_some h).1]; rfl) rfl rfl) (trivial))))⟩
  ·refine .as (.u8 110) (congrArg AV.u8 h6) ?_
   refine .q (op_bin8 rfl rfl rfl) trivial rfl ?_
   refine .q (op_assign rfl) trivial rfl ?_
   refine .nil ?_
   show Ev _ _ _ _ _
   refine .cond_false rfl (rfl) ?_
   refine .seq ?_
   refine .region ?_
   refine .q (op_bin8 rfl rfl rfl) trivial rfl ?_
   refine .q (op_assign rfl) trivial rfl ?_
   refine .nil ?_
   show Ev _ _ _ _ _
   refine .cond_true rfl (rfl) ?_
   refine .seq ?_
   refine .region ?_
   refine .a (ap_build0 (z := 1) (c := .aggS []) Tryd.underlying23 inf9 rfl) trivial rfl ?_
   refine .q (op_assign rfl) trivial rfl ?_
   refine .nil ?_
   show Ev _ _ _ _ _
   refine .seq ?_
   refine .region ?_
   refine .q (op_loadRow Tryd.underlying71 rfl (by kernel_rfl) rfl rfl rfl (rfl)) trivial rfl ?_
   refine .q (op_call (U := []) [] [] (rnamesd_ev M.i hok (by omega)) Tryd.func35 (by kernel_rfl) rfl rfl rfl (⟨⟨_, rfl, rfl, rfl⟩, trivial⟩) (trivial) (trivial) (trivial) rfl) trivial rfl ?_
   refine .q (op_move rfl) trivial rfl ?_
   refine .q (op_extract rfl rfl) trivial rfl ?_
   refine .q (op_extract rfl rfl) trivial rfl ?_
   refine .w (op_storeRow (by kernel_rfl) rfl rfl rfl rfl rfl (rfl) (rfl)) trivial rfl ?_
   refine .q (op_assign rfl) trivial rfl ?_
   refine .nil ?_
   show Ev _ _ _ _ _
   refine .region ?_
   refine .q (op_fieldAddr (m := 0) Tryd.underlying27 rfl (by kernel_rfl) rfl) trivial rfl ?_
   refine .as (.ptr 1016 3) rfl ?_
   refine .q (op_load Tryd.underlying24 rfl rfl rfl rfl (by show _ < 5; decide)) trivial rfl ?_
   refine .q (op_move rfl) trivial rfl ?_
   refine .a (ap_build (us := [.dsl (namesD M.i).2]) (c := .aggD [(namesD M.i).2]) Tryd.underlying24 inf23 rfl (by decide) (by decide) ⟨rfl, rfl, rfl, trivial⟩ rfl) trivial rfl ?_
   refine .a (ap_append_slO (c := .aggD M.ns) (c' := .aggD (M.ns ++ [(namesD M.i).2])) Tryd.underlying24 Tryd.underlying24 (.inr ⟨_, rfl⟩) inf23 rfl (fun _ h => h) (by show M.ns.length = M.ns.length * 1; omega) (srcs_sl (b := 1064) (o := 0) (m := 1) (z := 1) (k := ⟨.aggD [(namesD M.i).2], 23, true⟩) rfl rfl (Nat.le_refl 1) rfl) (by show (M.ns ++ [(namesD M.i).2]).map _ = _; rw [List.map_append]; rfl) (by decide) (Nat.le_of_ble_eq_true rfl) (by omega)) trivial rfl ?_
   refine .q (op_fieldAddr (m := 0) Tryd.underlying27 rfl (by kernel_rfl) rfl) trivial rfl ?_
   refine .as (.ptr 1016 3) rfl ?_
   refine .w (op_store (by kernel_rfl) rfl rfl rfl rfl rfl (by show _ < 5; decide)) trivial rfl ?_
   refine .nil ?_
   show Ev _ _ _ _ _
   refine .region ?_
   refine .q (op_move rfl) trivial rfl ?_
   refine .q (op_addI rfl rfl ⟨by first | omega | (simp only [AV.len]; omega) | (simp only [AV.len, List.length_set]; omega) | assumption | (simp [AV.len]; done), by first | omega | (simp only [AV.len]; omega) | (simp only [AV.len, List.length_set]; omega) | assumption | (simp [AV.len]; done)⟩) trivial rfl ?_
   refine .q (op_assign rfl) trivial rfl ?_
   refine .nil ?_
   have e9 : (parseN (fieldsOf K) ⟨(byteD ⟨s, 0⟩).1, [], [], [], []⟩ (j + 1)) = ⟨(namesD M.i).1, M.us, M.ss, M.ns ++ [(namesD M.i).2], M.bs⟩ := by
    show getP _ _ = _; rw [hM, h6]; rfl
   refine ⟨⟨j + 1, by omega⟩, by (try dsimp only); omega, ?_⟩
   dsimp only
   rw [e9]
   exact StLe.mk [(1000, 1000), (1008, 1008), (1016, 1016), (1024, 1024), (1032, 1032), (1040, 1072), (1048, 1048)] rfl rfl ⟨⟨_, rfl, by first | rfl | (simp only [AV.ren]; congr 1), rfl⟩, ⟨_, rfl, by first | rfl | (simp only [AV.ren]; congr 1), rfl⟩, ⟨_, rfl, by first | rfl | (simp only [AV.ren]; congr 1), rfl⟩, ⟨_, rfl, by first | rfl | (simp only [AV.ren]; congr 1), rfl⟩, ⟨_, rfl, by first | rfl | (simp only [AV.ren]; congr 1), rfl⟩, ⟨_, rfl, by first | rfl | (simp only [AV.ren]; congr 1), rfl⟩, trivial⟩ ⟨⟨_, _, rfl, rfl, rfl, rfl, id, rfl⟩, ⟨_, _, rfl, rfl, rfl, rfl, id, rfl⟩, ⟨_, _, rfl, rfl, (msgO_ren (back [(1000, 1000), (1008, 1008), (1016, 1016), (1024, 1024), (1032, 1032), (1040, 1072), (1048, 1048)]) K 1024 M.us.length 1032 M.ss.length 1072 (M.ns.length + 1) 1048 M.bs.length).trans (by rw [List.length_append]; rfl), rfl, id, msgO_nm (L := [(1000, 1000), (1008, 1008), (1016, 1016), (1024, 1024), (1032, 1032), (1040, 1072), (1048, 1048)]) (a := 1024) (b := 1032) (c := 1072) (d := 1048) K M.us.length M.ss.length (M.ns.length + 1) M.bs.length rfl⟩, HLe.oc (opt_le rfl (fun _ h => h) rfl rfl) (HLe.oc (opt_le rfl (fun _ h => h) rfl rfl) (HLe.oc (opt_le rfl (fun _ h => by rw [(opt_some h).1]; rfl) rfl rfl) (HLe.oc (opt_le rfl (fun _ h => h) rfl rfl) (trivial))))⟩
  ·refine .as (.u8 115) (congrArg AV.u8 h6) ?_
   refine .q (op_bin8 rfl rfl rfl) trivial rfl ?_
   refine .q (op_assign rfl) trivial rfl ?_
   refine .nil ?_
   show Ev _ _ _ _ _
   refine .cond_false rfl (rfl) ?_
   refine .seq ?_
   refine .region ?_
   refine .q (op_bin8 rfl rfl rfl) trivial rfl ?_
   refine .q (op_assign rfl) trivial rfl ?_
   refine .nil ?_
   show Ev _ _ _ _ _
   refine .cond_false rfl (rfl) ?_
   refine .seq ?_
   refine .region ?_
   refine .q (op_bin8 rfl rfl rfl) trivial rfl ?_
   refine .q (op_assign rfl) trivial rfl ?_
   refine .nil ?_
   show Ev _ _ _ _ _
   refine .cond_false rfl (rfl) ?_
   refine .seq ?_
   refine .region ?_
   refine .q (op_bin8 rfl rfl rfl) trivial rfl ?_
   refine .q (op_assign rfl) trivial rfl ?_
   refine .nil ?_
   show Ev _ _ _ _ _
   refine .cond_true rfl (rfl) ?_
   refine .seq ?_
   refine .region ?_
   refine .q (op_loadRow Tryd.underlying71 rfl (by kernel_rfl) rfl rfl rfl (rfl)) trivial rfl ?_
   refine .q (op_call (U := []) [] [] (rtext_ev M.i hok 32768) Tryd.func36 (by kernel_rfl) rfl rfl rfl (⟨⟨_, rfl, rfl, rfl⟩, ⟨_, rfl, rfl, rfl⟩, trivial⟩) (trivial) (trivial) (trivial) rfl) trivial rfl ?_
   refine .q (op_move rfl) trivial rfl ?_
   refine .q (op_extract rfl rfl) trivial rfl ?_
   refine .q (op_extract rfl rfl) trivial rfl ?_
   refine .w (op_storeRow (by kernel_rfl) rfl rfl rfl rfl rfl (rfl) (rfl)) trivial rfl ?_
   refine .q (op_assign rfl) trivial rfl ?_
   refine .nil ?_
   show Ev _ _ _ _ _
   refine .region ?_
   refine .q (op_fieldAddr (m := 0) Tryd.underlying27 rfl (by kernel_rfl) rfl) trivial rfl ?_
   refine .as (.ptr 1016 2) rfl ?_
   refine .q (op_load Tryd.underlying23 rfl rfl rfl rfl (by show _ < 5; decide)) trivial rfl ?_
   refine .q (op_move rfl) trivial rfl ?_
   refine .a (ap_build (us := [.str (textD M.i 32768).2]) (c := .aggS [(textD M.i 32768).2]) Tryd.underlying23 inf9 rfl (by decide) (by decide) ⟨rfl, rfl, rfl, trivial⟩ rfl) trivial rfl ?_
   refine .a (ap_append_slO (c := .aggS M.ss) (c' := .aggS (M.ss ++ [(textD M.i 32768).2])) Tryd.underlying23 Tryd.underlying23 (.inr ⟨_, rfl⟩) inf9 rfl (fun _ h => h) (by show M.ss.length = M.ss.length * 1; omega) (srcs_sl (b := 1056) (o := 0) (m := 1) (z := 1) (k := ⟨.aggS [(textD M.i 32768).2], 9, true⟩) rfl rfl (Nat.le_refl 1) rfl) (by show (M.ss ++ [(textD M.i 32768).2]).map _ = _; rw [List.map_append]; rfl) (by decide) (Nat.le_of_ble_eq_true rfl) (by omega)) trivial rfl ?_
   refine .q (op_fieldAddr (m := 0) Tryd.underlying27 rfl (by kernel_rfl) rfl) trivial rfl ?_
   refine .as (.ptr 1016 2) rfl ?_
   refine .w (op_store (by kernel_rfl) rfl rfl rfl rfl rfl (by show _ < 5; decide)) trivial rfl ?_
   refine .nil ?_
   show Ev _ _ _ _ _
   refine .region ?_
   refine .q (op_move rfl) trivial rfl ?_
   refine .q (op_addI rfl rfl ⟨by first | omega | (simp only [AV.len]; omega) | (simp only [AV.len, List.length_set]; omega) | assumption | (simp [AV.len]; done), by first | omega | (simp only [AV.len]; omega) | (simp only [AV.len, List.length_set]; omega) | assumption | (simp [AV.len]; done)⟩) trivial rfl ?_
   refine .q (op_assign rfl) trivial rfl ?_
   refine .nil ?_
   have e9 : (parseN (fieldsOf K) ⟨(byteD ⟨s, 0⟩).1, [], [], [], []⟩ (j + 1)) = ⟨(textD M.i 32768).1, M.us, M.ss ++ [(textD M.i 32768).2], M.ns, M.bs⟩ := by
    show getP _ _ = _; rw [hM, h6]; rfl
   refine ⟨⟨j + 1, by omega⟩, by (try dsimp only); omega, ?_⟩
   dsimp only
   rw [e9]
   exact StLe.mk [(1000, 1000), (1008, 1008), (1016, 1016), (1024, 1024), (1032, 1064), (1040, 1040), (1048, 1048)] rfl rfl ⟨⟨_, rfl, by first | rfl | (simp only [AV.ren]; congr 1), rfl⟩, ⟨_, rfl, by first | rfl | (simp only [AV.ren]; congr 1), rfl⟩, ⟨_, rfl, by first | rfl | (simp only [AV.ren]; congr 1), rfl⟩, ⟨_, rfl, by first | rfl | (simp only [AV.ren]; congr 1), rfl⟩, ⟨_, rfl, by first | rfl | (simp only [AV.ren]; congr 1), rfl⟩, ⟨_, rfl, by first | rfl | (simp only [AV.ren]; congr 1), rfl⟩, trivial⟩ ⟨⟨_, _, rfl, rfl, rfl, rfl, id, rfl⟩, ⟨_, _, rfl, rfl, rfl, rfl, id, rfl⟩, ⟨_, _, rfl, rfl, (msgO_ren (back [(1000, 1000), (1008, 1008), (1016, 1016), (1024, 1024), (1032, 1064), (1040, 1040), (1048, 1048)]) K 1024 M.us.length 1064 (M.ss.length + 1) 1040 M.ns.length 1048 M.bs.length).trans (by rw [List.length_append]; rfl), rfl, id, msgO_nm (L := [(1000, 1000), (1008, 1008), (1016, 1016), (1024, 1024), (1032, 1064), (1040, 1040), (1048, 1048)]) (a := 1024) (b := 1064) (c := 1040) (d := 1048) K M.us.length (M.ss.length + 1) M.ns.length M.bs.length rfl⟩, HLe.oc (opt_le rfl (fun _ h => h) rfl rfl) (HLe.oc (opt_le rfl (fun _ h => by rw [(opt_some h).1]; rfl) rfl rfl) (HLe.oc (opt_le rfl (fun _ h => h) rfl rfl) (HLe.oc (opt_le rfl (fun _ h => h) rfl rfl) (trivial))))⟩
  ·refine .as (.u8 99) (congrArg AV.u8 h6) ?_
   refine .q (op_bin8 rfl rfl rfl) trivial rfl ?_
   refine .q (op_assign rfl) trivial rfl ?_
   refine .nil ?_
   show Ev _ _ _ _ _
   refine .cond_false rfl (rfl) ?_
   refine .seq ?_
   refine .region ?_
   refine .q (op_bin8 rfl rfl rfl) trivial rfl ?_
   refine .q (op_assign rfl) trivial rfl ?_
   refine .nil ?_
   show Ev _ _ _ _ _
   refine .cond_false rfl (rfl) ?_
   refine .seq ?_
   refine .region ?_
   refine .q (op_bin8 rfl rfl rfl) trivial rfl ?_
   refine .q (op_assign rfl) trivial rfl ?_
   refine .nil ?_
   show Ev _ _ _ _ _
   refine .cond_false rfl (rfl) ?_
   refine .seq ?_
   refine .region ?_
   refine .q (op_bin8 rfl rfl rfl) trivial rfl ?_
   refine .q (op_assign rfl) trivial rfl ?_
   refine .nil ?_
   show Ev _ _ _ _ _
   refine .cond_false rfl (rfl) ?_
   refine .seq ?_
   refine .region ?_
   refine .q (op_bin8 rfl rfl rfl) trivial rfl ?_
   refine .q (op_assign rfl) trivial rfl ?_
   refine .nil ?_
   show Ev _ _ _ _ _
   refine .cond_true rfl (rfl) ?_
   refine .seq ?_
   refine .region ?_
   refine .q (op_loadRow Tryd.underlying71 rfl (by kernel_rfl) rfl rfl rfl (rfl)) trivial rfl ?_
   refine .q (op_call (U := []) [] [] (rraw_ev M.i hok 16) Tryd.func37 (by kernel_rfl) rfl rfl rfl (⟨⟨_, rfl, rfl, rfl⟩, ⟨_, rfl, rfl, rfl⟩, trivial⟩) (trivial) (trivial) (trivial) rfl) trivial rfl ?_
   refine .q (op_move rfl) trivial rfl ?_
   refine .q (op_extract rfl rfl) trivial rfl ?_
   refine .q (op_extract rfl rfl) trivial rfl ?_
   refine .w (op_storeRow (by kernel_rfl) rfl rfl rfl rfl rfl (rfl) (rfl)) trivial rfl ?_
   refine .q (op_assign rfl) trivial rfl ?_
   refine .nil ?_
   show Ev _ _ _ _ _
   refine .region ?_
   refine .q (op_fieldAddr (m := 0) Tryd.underlying27 rfl (by kernel_rfl) rfl) trivial rfl ?_
   refine .as (.ptr 1016 2) rfl ?_
   refine .q (op_load Tryd.underlying23 rfl rfl rfl rfl (by show _ < 5; decide)) trivial rfl ?_
   refine .q (op_move rfl) trivial rfl ?_
   refine .a (ap_build (us := [.str (rawD M.i 16).2]) (c := .aggS [(rawD M.i 16).2]) Tryd.underlying23 inf9 rfl (by decide) (by decide) ⟨rfl, rfl, rfl, trivial⟩ rfl) trivial rfl ?_
   refine .a (ap_append_slO (c := .aggS M.ss) (c' := .aggS (M.ss ++ [(rawD M.i 16).2])) Tryd.underlying23 Tryd.underlying23 (.inr ⟨_, rfl⟩) inf9 rfl (fun _ h => h) (by show M.ss.length = M.ss.length * 1; omega) (srcs_sl (b := 1056) (o := 0) (m := 1) (z := 1) (k := ⟨.aggS [(rawD M.i 16).2], 9, true⟩) rfl rfl (Nat.le_refl 1) rfl) (by show (M.ss ++ [(rawD M.i 16).2]).map _ = _; rw [List.map_append]; rfl) (by decide) (Nat.le_of_ble_eq_true rfl) (by omega)) trivial rfl ?_
   refine .q (op_fieldAddr (m := 0) Tryd.underlying27 rfl (by kernel_rfl) rfl) trivial rfl ?_
   refine .as (.ptr 1016 2) rfl ?_
   refine .w (op_store (by kernel_rfl) rfl rfl rfl rfl rfl (by show _ < 5; decide)) trivial rfl ?_
   refine .nil ?_
   show Ev _ _ _ _ _
   refine .region ?_
   refine .q (op_move rfl) trivial rfl ?_
   refine .q (op_addI rfl rfl ⟨by first | omega | (simp only [AV.len]; omega) | (simp only [AV.len, List.length_set]; omega) | assumption | (simp [AV.len]; done), by first | omega | (simp only [AV.len]; omega) | (simp only [AV.len, List.length_set]; omega) | assumption | (simp [AV.len]; done)⟩) trivial rfl ?_
   refine .q (op_assign rfl) trivial rfl ?_
   refine .nil ?_
   have e9 : (parseN (fieldsOf K) ⟨(byteD ⟨s, 0⟩).1, [], [], [], []⟩ (j + 1)) = ⟨(rawD M.i 16).1, M.us, M.ss ++ [(rawD M.i 16).2], M.ns, M.bs⟩ := by
    show getP _ _ = _; rw [hM, h6]; rfl
   refine ⟨⟨j + 1, by omega⟩, by (try dsimp only); omega, ?_⟩
   dsimp only
   rw [e9]
   exact StLe.mk [(1000, 1000), (1008, 1008), (1016, 1016), (1024, 1024), (1032, 1064), (1040, 1040), (1048, 1048)] rfl rfl ⟨⟨_, rfl, by first | rfl | (simp only [AV.ren]; congr 1), rfl⟩, ⟨_, rfl, by first | rfl | (simp only [AV.ren]; congr 1), rfl⟩, ⟨_, rfl, by first | rfl | (simp only [AV.ren]; congr 1), rfl⟩, ⟨_, rfl, by first | rfl | (simp only [AV.ren]; congr 1), rfl⟩, ⟨_, rfl, by first | rfl | (simp only [AV.ren]; congr 1), rfl⟩, ⟨_, rfl, by first | rfl | (simp only [AV.ren]; congr 1), rfl⟩, trivial⟩ ⟨⟨_, _, rfl, rfl, rfl, rfl, id, rfl⟩, ⟨_, _, rfl, rfl, rfl, rfl, id, rfl⟩, ⟨_, _, rfl, rfl, (msgO_ren (back [(1000, 1000), (1008, 1008), (1016, 1016), (1024, 1024), (1032, 1064), (1040, 1040), (1048, 1048)]) K 1024 M.us.length 1064 (M.ss.length + 1) 1040 M.ns.length 1048 M.bs.length).trans (by rw [List.length_append]; rfl), rfl, id, msgO_nm (L := [(1000, 1000), (1008, 1008), (1016, 1016), (1024, 1024), (1032, 1064), (1040, 1040), (1048, 1048)]) (a := 1024) (b := 1064) (c := 1040) (d := 1048) K M.us.length (M.ss.length + 1) M.ns.length M.bs.length rfl⟩, HLe.oc (opt_le rfl (fun _ h => h) rfl rfl) (HLe.oc (opt_le rfl (fun _ h => by rw [(opt_some h).1]; rfl) rfl rfl) (HLe.oc (opt_le rfl (fun _ h => h) rfl rfl) (HLe.oc (opt_le rfl (fun _ h => h) rfl rfl) (trivial))))⟩
  ·refine .as (.u8 114) (congrArg AV.u8 h6) ?_
   refine .q (op_bin8 rfl rfl rfl) trivial rfl ?_
   refine .q (op_assign rfl) trivial rfl ?_
   refine .nil ?_
   show Ev _ _ _ _ _
   refine .cond_false rfl (rfl) ?_
   refine .seq ?_
   refine .region ?_
   refine .q (op_bin8 rfl rfl rfl) trivial rfl ?_
   refine .q (op_assign rfl) trivial rfl ?_
   refine .nil ?_
   show Ev _ _ _ _ _
   refine .cond_false rfl (rfl) ?_
   refine .seq ?_
   refine .region ?_
   refine .q (op_bin8 rfl rfl rfl) trivial rfl ?_
   refine .q (op_assign rfl) trivial rfl ?_
   refine .nil ?_
   show Ev _ _ _ _ _
   refine .cond_false rfl (rfl) ?_
   refine .seq ?_
   refine .region ?_
   refine .q (op_bin8 rfl rfl rfl) trivial rfl ?_
   refine .q (op_assign rfl) trivial rfl ?_
   refine .nil ?_
   show Ev _ _ _ _ _
   refine .cond_false rfl (rfl) ?_
   refine .seq ?_
   refine .region ?_
   refine .q (op_bin8 rfl rfl rfl) trivial rfl ?_
   refine .q (op_assign rfl) trivial rfl ?_
   refine .nil ?_
   show Ev _ _ _ _ _
   refine .cond_false rfl (rfl) ?_
   refine .seq ?_
   refine .region ?_
   refine .q (op_loadRow Tryd.underlying71 rfl (by kernel_rfl) rfl rfl rfl (rfl)) trivial rfl ?_
   refine .q (op_fieldAddr (m := 0) Tryd.underlying71 rfl (by kernel_rfl) rfl) trivial rfl ?_
   refine .as (.ptr 1008 0) rfl ?_
   refine .q (op_load Tryd.underlying9 rfl rfl rfl rfl (by show _ < 2; decide)) trivial rfl ?_
   refine .q (op_len_str Tryd.underlying9 rfl) trivial rfl ?_
   refine .q (op_call (U := []) [] [] (rraw_ev M.i hok (M.i.r.length : Int)) Tryd.func37 (by kernel_rfl) rfl rfl rfl (⟨⟨_, rfl, rfl, rfl⟩, ⟨_, rfl, rfl, rfl⟩, trivial⟩) (trivial) (trivial) (trivial) rfl) trivial rfl ?_
   refine .q (op_move rfl) trivial rfl ?_
   refine .q (op_extract rfl rfl) trivial rfl ?_
   refine .q (op_extract rfl rfl) trivial rfl ?_
   refine .w (op_storeRow (by kernel_rfl) rfl rfl rfl rfl rfl (rfl) (rfl)) trivial rfl ?_
   refine .q (op_assign rfl) trivial rfl ?_
   refine .nil ?_
   show Ev _ _ _ _ _
   refine .region ?_
   refine .q (op_fieldAddr (m := 0) Tryd.underlying27 rfl (by kernel_rfl) rfl) trivial rfl ?_
   refine .as (.ptr 1016 2) rfl ?_
   refine .q (op_load Tryd.underlying23 rfl rfl rfl rfl (by show _ < 5; decide)) trivial rfl ?_
   refine .q (op_move rfl) trivial rfl ?_
   refine .a (ap_build (us := [.str (rawD M.i M.i.r.length).2]) (c := .aggS [(rawD M.i M.i.r.length).2]) Tryd.underlying23 inf9 rfl (by decide) (by decide) ⟨rfl, rfl, rfl, trivial⟩ rfl) trivial rfl ?_
   refine .a (ap_append_slO (c := .aggS M.ss) (c' := .aggS (M.ss ++ [(rawD M.i M.i.r.length).2])) Tryd.underlying23 Tryd.underlying23 (.inr ⟨_, rfl⟩) inf9 rfl (fun _ h => h) (by show M.ss.length = M.ss.length * 1; omega) (srcs_sl (b := 1056) (o := 0) (m := 1) (z := 1) (k := ⟨.aggS [(rawD M.i M.i.r.length).2], 9, true⟩) rfl rfl (Nat.le_refl 1) rfl) (by show (M.ss ++ [(rawD M.i M.i.r.length).2]).map _ = _; rw [List.map_append]; rfl) (by decide) (Nat.le_of_ble_eq_true rfl) (by omega)) trivial rfl ?_
   refine .q (op_fieldAddr (m := 0) Tryd.underlying27 rfl (by kernel_rfl) rfl) trivial rfl ?_
   refine .as (.ptr 1016 2) rfl ?_
   refine .w (op_store (by kernel_rfl) rfl rfl rfl rfl rfl (by show _ < 5; decide)) trivial rfl ?_
   refine .nil ?_
   show Ev _ _ _ _ _
   refine .region ?_
   refine .q (op_move rfl) trivial rfl ?_
   refine .q (op_addI rfl rfl ⟨by first | omega | (simp only [AV.len]; omega) | (simp only [AV.len, List.length_set]; omega) | assumption | (simp [AV.len]; done), by first | omega | (simp only [AV.len]; omega) | (simp only [AV.len, List.length_set]; omega) | assumption | (simp [AV.len]; done)⟩) trivial rfl ?_
   refine .q (op_assign rfl) trivial rfl ?_
   refine .nil ?_
   have e9 : (parseN (fieldsOf K) ⟨(byteD ⟨s, 0⟩).1, [], [], [], []⟩ (j + 1)) = ⟨(rawD M.i M.i.r.length).1, M.us, M.ss ++ [(rawD M.i M.i.r.length).2], M.ns, M.bs⟩ := by
    show getP _ _ = _; rw [hM, h6]; rfl
   refine ⟨⟨j + 1, by omega⟩, by (try dsimp only); omega, ?_⟩
   dsimp only
   rw [e9]
   exact StLe.mk [(1000, 1000), (1008, 1008), (1016, 1016), (1024, 1024), (1032, 1064), (1040, 1040), (1048, 1048)] rfl rfl ⟨⟨_, rfl, by first | rfl | (simp only [AV.ren]; congr 1), rfl⟩, ⟨_, rfl, by first | rfl | (simp only [AV.ren]; congr 1), rfl⟩, ⟨_, rfl, by first | rfl | (simp only [AV.ren]; congr 1), rfl⟩, ⟨_, rfl, by first | rfl | (simp only [AV.ren]; congr 1), rfl⟩, ⟨_, rfl, by first | rfl | (simp only [AV.ren]; congr 1), rfl⟩, ⟨_, rfl, by first | rfl | (simp only [AV.ren]; congr 1), rfl⟩, trivial⟩ ⟨⟨_, _, rfl, rfl, rfl, rfl, id, rfl⟩, ⟨_, _, rfl, rfl, rfl, rfl, id, rfl⟩, ⟨_, _, rfl, rfl, (msgO_ren (back [(1000, 1000), (1008, 1008), (1016, 1016), (1024, 1024), (1032, 1064), (1040, 1040), (1048, 1048)]) K 1024 M.us.length 1064 (M.ss.length + 1) 1040 M.ns.length 1048 M.bs.length).trans (by rw [List.length_append]; rfl), rfl, id, msgO_nm (L := [(1000, 1000), (1008, 1008), (1016, 1016), (1024, 1024), (1032, 1064), (1040, 1040), (1048, 1048)]) (a := 1024) (b := 1064) (c := 1040) (d := 1048) K M.us.length (M.ss.length + 1) M.ns.length M.bs.length rfl⟩, HLe.oc (opt_le rfl (fun _ h => h) rfl rfl) (HLe.oc (opt_le rfl (fun _ h => by rw [(opt_some h).1]; rfl) rfl rfl) (HLe.oc (opt_le rfl (fun _ h => h) rfl rfl) (HLe.oc (opt_le rfl (fun _ h => h) rfl rfl) (trivial))))⟩
 ·first | replace hc41 := of_decide_eq_true hc41 | replace hc41 := of_decide_eq_false hc41 | replace hc41 := eq_of_beq hc41 | replace hc41 := ne_of_beq_false hc41 | simp only [bne_iff_ne, ne_eq] at hc41 | simp only [bne_eq_false_iff_eq] at hc41
  refine .exit ?_
  show Ev _ _ _ _ _
  have ej : j = (fieldsOf K).length := by omega
  subst ej
  have eM : R = M := hR.symm.trans hM
  subst eM
  refine .seq ?_
  refine .seq ?_
  refine .region ?_
  refine .q (op_fieldAddr (m := 0) Tryd.underlying71 rfl (by kernel_rfl) rfl) trivial rfl ?_
  refine .as (.ptr 1008 1) rfl ?_
  refine .q (op_load Tryd.underlying3 rfl rfl rfl rfl (by show _ < 2; decide)) trivial rfl ?_
  refine .q (op_cmpI rfl rfl rfl) trivial rfl ?_
  refine .nil ?_
  show Ev _ _ _ _ _
  refine .cond_true rfl (by first | simpa using he | (simp; omega)) ?_
  refine .seq ?_
  refine .drawnF [[], [], [1], [0], [0, 1, 2, 3]] [2, 3] [] [(2, ([1008], [])), (3, ([], [1000]))] (by kernel_rfl) (by kernel_rfl) rfl ?_
  show DK _ [0, 1, 2, 3, 4] _ _ _
  refine .q rfl (op_buildS (r := .agg [.i64 0, .nilsl, .nilsl, .nilsl, .nilsl]) Tryd.underlying27 rfl zero27 rel_zero27 rfl rfl rfl rfl) trivial ?_
  refine .q rfl (op_fieldAddr (m := 0) Tryd.underlying71 rfl (by kernel_rfl) rfl) trivial ?_
  refine .as (.ptr 1008 1) rfl ?_
  refine .q rfl (op_load Tryd.underlying3 rfl rfl rfl rfl (by show _ < 2; decide)) trivial ?_
  refine .w rfl (op_storeRow (by kernel_rfl) rfl rfl rfl rfl rfl (rfl) (rfl)) trivial rfl rfl ?_
  refine .q rfl (op_assign rfl) trivial ?_
  refine .nil ?_
  show Ev _ _ _ _ _
  refine .ret ?_
  show RetOk _ _ _ _ _ _ _
  exact retc2 rfl (.inl rfl) ⟨_, _, _, _, rfl, rfl, rfl, rfl, rfl, Tryd.underlying27, rfl, (by kernel_rfl)⟩ rfl trivial
set_option maxRecDepth 100000 in
theorem rparse_left (s : List UInt8) (he0 : (byteD ⟨s, 0⟩).1.e = 0) (hs : s.length ≤ 1000) (K : Int) (hK : K = (((byteD ⟨s, 0⟩).2.toNat : Nat) : Int)) (hk : isKind K = true) (R : MSt) (hR : (parseN (fieldsOf K) ⟨(byteD ⟨s, 0⟩).1, [], [], [], []⟩ ((fieldsOf K).length)) = R) (he : R.i.e = 0) (hl : R.i.r ≠ [])  : Meets Tryd.prog 15 [.str s] [] (.tup [.agg [.i64 0, .nilsl, .nilsl, .nilsl, .nilsl], .i64 3]) [] := by
 refine meets_of_ev (nt := 146) Tryd.func15 rfl rfl (Nat.le_of_ble_eq_true rfl) ?_
 refine .seq ?_
 refine .region ?_
 refine .a (op_allocRow zero27 rel_zero27 rfl) trivial rfl ?_
 refine .q (op_assign rfl) trivial rfl ?_
 refine .nil ?_
 show Ev _ _ _ _ _
 refine .seq ?_
 refine .region ?_
 refine .q (op_move rfl) trivial rfl ?_
 refine .q (op_buildS (r := .agg [.str s, .i64 0]) Tryd.underlying71 rfl zero71 rel_zero71 rfl rfl rfl rfl) trivial rfl ?_
 refine .q (op_call (U := []) [] [] (rnum_ev (DI.mk s 0) (fun h => absurd rfl h) 1 (by decide)) Tryd.func34 (by kernel_rfl) rfl rfl rfl (⟨⟨_, rfl, rfl, rfl⟩, ⟨_, rfl, rfl, rfl⟩, trivial⟩) (trivial) (trivial) (trivial) rfl) trivial rfl ?_
 refine .q (op_move rfl) trivial rfl ?_
 refine .q (op_extract rfl rfl) trivial rfl ?_
 refine .q (op_extract rfl rfl) trivial rfl ?_
 refine .a (op_allocRow zero71 rel_zero71 rfl) trivial rfl ?_
 refine .w (op_storeRow (by kernel_rfl) rfl rfl rfl rfl rfl (rfl) (rfl)) trivial rfl ?_
 refine .q (op_assign rfl) trivial rfl ?_
 refine .nil ?_
 show Ev _ _ _ _ _
 refine .seq ?_
 refine .seq ?_
 refine .region ?_
 refine .q (op_fieldAddr (m := 0) Tryd.underlying71 rfl (by kernel_rfl) rfl) trivial rfl ?_
 refine .as (.ptr 1008 1) rfl ?_
 refine .q (op_load Tryd.underlying3 rfl rfl rfl rfl (by show _ < 2; decide)) trivial rfl ?_
 refine .q (op_cmpI rfl rfl rfl) trivial rfl ?_
 refine .nil ?_
 show Ev _ _ _ _ _
 refine .cond_false rfl (by rw [show (numD (DI.mk s 0) 1).1.e = 0 from he0]; rfl) ?_
 refine .skip ?_
 show Ev _ _ _ _ _
 refine .seq ?_
 refine .region ?_
 refine .q (op_move rfl) trivial rfl ?_
 refine .q (op_conv64I Tryd.underlying64 Tryd.underlying3 rfl (by rw [kind_num]; have := (byteD (DI.mk s 0)).2.toNat_lt; omega)) trivial rfl ?_
 refine .as (.i64 K) (by rw [hK]; exact congrArg (fun z : Nat => AV.i64 z) (kind_num _)) ?_
 refine .q (op_buildS (r := .agg [.i64 (K), .nilsl, .nilsl, .nilsl, .nilsl]) Tryd.underlying27 rfl zero27 rel_zero27 rfl rfl rfl rfl) trivial rfl ?_
 refine .a (op_allocRow zero27 rel_zero27 rfl) trivial rfl ?_
 refine .w (op_storeRow (by kernel_rfl) rfl rfl rfl rfl rfl (rfl) (rfl)) trivial rfl ?_
 refine .nil ?_
 show Ev _ _ _ _ _
 refine .seq ?_
 refine .region ?_
 refine .q (op_fieldAddr (m := 0) Tryd.underlying27 rfl (by kernel_rfl) rfl) trivial rfl ?_
 refine .as (.ptr 1016 0) rfl ?_
 refine .q (op_load Tryd.underlying3 rfl rfl rfl rfl (by show 0 < 5; decide)) trivial rfl ?_
 refine .q (op_call (U := []) [] [] (rfields_ev K) Tryd.func22 (by kernel_rfl) rfl rfl rfl (⟨⟨_, rfl, rfl, rfl⟩, trivial⟩) (trivial) (trivial) (trivial) rfl) trivial rfl ?_
 refine .q (op_move rfl) trivial rfl ?_
 refine .q (op_extract rfl rfl) trivial rfl ?_
 refine .q (op_extract rfl rfl) trivial rfl ?_
 refine .q (op_assign rfl) trivial rfl ?_
 refine .q (op_assign rfl) trivial rfl ?_
 refine .nil ?_
 show Ev _ _ _ _ _
 refine .seq ?_
 refine .seq ?_
 refine .region ?_
 refine .q (op_move rfl) trivial rfl ?_
 refine .q (op_notB rfl) trivial rfl ?_
 refine .nil ?_
 show Ev _ _ _ _ _
 refine .cond_false rfl (by rw [hk]; rfl) ?_
 refine .skip ?_
 show Ev _ _ _ _ _
 refine .seq ?_
 refine .seq ?_
 refine .region ?_
 refine .q (op_assign rfl) trivial rfl ?_
 refine .nil ?_
 show Ev _ _ _ _ _
 refine .block ?_
 refine Ev.loop (ι := { j : Nat // j ≤ (fieldsOf K).length }) (fun q => ⟨[(2, .ptr 1000 0), (3, .i64 0), (4, .ptr 1008 0), (6, .ptr 1016 0), (7, .str (fieldsOf K)), (9, .i64 ((q.1 : Nat) : Int))], [(1000, some ⟨.agg [.i64 0, .nilsl, .nilsl, .nilsl, .nilsl], 27, true⟩), (1008, some ⟨.agg [.str ((parseN (fieldsOf K) ⟨(byteD ⟨s, 0⟩).1, [], [], [], []⟩ q.1).i).r, .i64 ((((parseN (fieldsOf K) ⟨(byteD ⟨s, 0⟩).1, [], [], [], []⟩ q.1).i).e : Nat) : Int)], 71, true⟩), (1016, some ⟨msgO K 1024 (parseN (fieldsOf K) ⟨(byteD ⟨s, 0⟩).1, [], [], [], []⟩ q.1).us.length 1032 (parseN (fieldsOf K) ⟨(byteD ⟨s, 0⟩).1, [], [], [], []⟩ q.1).ss.length 1040 (parseN (fieldsOf K) ⟨(byteD ⟨s, 0⟩).1, [], [], [], []⟩ q.1).ns.length 1048 (parseN (fieldsOf K) ⟨(byteD ⟨s, 0⟩).1, [], [], [], []⟩ q.1).bs.length, 27, true⟩), (1024, opt (.agg32 (parseN (fieldsOf K) ⟨(byteD ⟨s, 0⟩).1, [], [], [], []⟩ q.1).us) (parseN (fieldsOf K) ⟨(byteD ⟨s, 0⟩).1, [], [], [], []⟩ q.1).us.length 46), (1032, opt (.aggS (parseN (fieldsOf K) ⟨(byteD ⟨s, 0⟩).1, [], [], [], []⟩ q.1).ss) (parseN (fieldsOf K) ⟨(byteD ⟨s, 0⟩).1, [], [], [], []⟩ q.1).ss.length 9), (1040, opt (.aggD (parseN (fieldsOf K) ⟨(byteD ⟨s, 0⟩).1, [], [], [], []⟩ q.1).ns) (parseN (fieldsOf K) ⟨(byteD ⟨s, 0⟩).1, [], [], [], []⟩ q.1).ns.length 23), (1048, opt (.aggT (parseN (fieldsOf K) ⟨(byteD ⟨s, 0⟩).1, [], [], [], []⟩ q.1).bs) (parseN (fieldsOf K) ⟨(byteD ⟨s, 0⟩).1, [], [], [], []⟩ q.1).bs.length 4)], 1056⟩) (fun q => (fieldsOf K).length - q.1) ⟨0, Nat.zero_le _⟩ (StLe.mk [(1000, 1000), (1008, 1008), (1016, 1016)] rfl rfl ⟨⟨_, rfl, rfl, rfl⟩, ⟨_, rfl, rfl, rfl⟩, ⟨_, rfl, rfl, rfl⟩, ⟨_, rfl, rfl, rfl⟩, ⟨_, rfl, rfl, rfl⟩, ⟨_, rfl, rfl, rfl⟩, trivial⟩ ⟨⟨_, _, rfl, rfl, rfl, rfl, id, rfl⟩, ⟨_, _, rfl, rfl, rfl, rfl, id, rfl⟩, ⟨_, _, rfl, rfl, rfl, rfl, id, rfl⟩, HLe.oc (fun _ h => nomatch h) (HLe.oc (fun _ h => nomatch h) (HLe.oc (fun _ h => nomatch h) (HLe.oc (fun _ h => nomatch h) (trivial))))⟩) ?_
 rintro ⟨j, hj⟩
 dsimp only
 have hm0 := parseN_le (fieldsOf K) ⟨(byteD ⟨s, 0⟩).1, [], [], [], []⟩ j
 have hok : (parseN (fieldsOf K) ⟨(byteD ⟨s, 0⟩).1, [], [], [], []⟩ j).i.ok := parseN_ok (fieldsOf K) _ (byteD_ok s) j
 have hb0 : (byteD ⟨s, 0⟩).1.r.length ≤ s.length := (rawD_len_le ⟨s, 0⟩ 1).2
 dsimp only at hm0
 simp only [List.length_nil, Nat.zero_add] at hm0
 generalize hM : (parseN (fieldsOf K) ⟨(byteD ⟨s, 0⟩).1, [], [], [], []⟩ j) = M at hm0 hok ⊢
 obtain ⟨hmr, hmu, hms, hmn, hmb⟩ := hm0
 have hj12 := fields_len K
 refine .seq ?_
 refine .seq ?_
 refine .region ?_
 refine .q (op_move rfl) trivial rfl ?_
 refine .q (op_move rfl) trivial rfl ?_
 refine .q (op_len_str Tryd.underlying9 rfl) trivial rfl ?_
 refine .q (op_cmpI rfl rfl rfl) trivial rfl ?_
 refine .nil ?_
 show Ev _ _ _ _ _
 refine .cond rfl (fun hc41 => ?_) (fun hc41 => ?_)
 ·first | replace hc41 := of_decide_eq_true hc41 | replace hc41 := of_decide_eq_false hc41 | replace hc41 := eq_of_beq hc41 | replace hc41 := ne_of_beq_false hc41 | simp only [bne_iff_ne, ne_eq] at hc41 | simp only [bne_eq_false_iff_eq] at hc41
  refine .skip ?_
  show Ev _ _ _ _ _
  refine .seq ?_
  refine .block ?_
  refine .seq ?_
  refine .region ?_
  refine .q (op_assign rfl) trivial rfl ?_
  refine .nil ?_
  show Ev _ _ _ _ _
  refine .seq ?_
  refine .region ?_
  refine .q (op_assign rfl) trivial rfl ?_
  refine .nil ?_
  show Ev _ _ _ _ _
  refine .seq ?_
  refine .region ?_
  refine .q (op_move rfl) trivial rfl ?_
  refine .q (op_move rfl) trivial rfl ?_
  refine .q (op_index_str Tryd.underlying9 rfl rfl (show _ = ((j : Nat) : Int) from rfl) (by omega)) trivial rfl ?_
  refine .nil ?_
  show Ev _ _ _ _ _
  refine .block ?_
  refine .seq ?_
  refine .region ?_
  refine six_of (fields_six K j (by omega)) (fun h6 => ?_) (fun h6 => ?_) (fun h6 => ?_) (fun h6 => ?_) (fun h6 => ?_) (fun h6 => ?_)
  ·refine .as (.u8 117) (congrArg AV.u8 h6) ?_
   refine .q (op_bin8 rfl rfl rfl) trivial rfl ?_
   refine .q (op_assign rfl) trivial rfl ?_
   refine .nil ?_
   show Ev _ _ _ _ _
   refine .cond_true rfl (rfl) ?_
   refine .seq ?_
   refine .region ?_
   refine .q (op_loadRow Tryd.underlying71 rfl (by kernel_rfl) rfl rfl rfl (rfl)) trivial rfl ?_
   refine .q (op_call (U := []) [] [] (rnum_ev M.i hok 4 (by decide)) Tryd.func34 (by kernel_rfl) rfl rfl rfl (⟨⟨_, rfl, rfl, rfl⟩, ⟨_, rfl, rfl, rfl⟩, trivial⟩) (trivial) (trivial) (trivial) rfl) trivial rfl ?_
   refine .q (op_move rfl) trivial rfl ?_
   refine .q (op_extract rfl rfl) trivial rfl ?_
   refine .q (op_extract rfl rfl) trivial rfl ?_
   refine .w (op_storeRow (by kernel_rfl) rfl rfl rfl rfl rfl (rfl) (rfl)) trivial rfl ?_
   refine .q (op_assign rfl) trivial rfl ?_
   refine .nil ?_
   show Ev _ _ _ _ _
   refine .region ?_
   refine .q (op_fieldAddr (m := 0) Tryd.underlying27 rfl (by kernel_rfl) rfl) trivial rfl ?_
   refine .as (.ptr 1016 1) rfl ?_
   refine .q (op_load Tryd.underlying22 rfl rfl rfl rfl (by show _ < 5; decide)) trivial rfl ?_
   refine .q (op_move rfl) trivial rfl ?_
   refine .q (op_conv Tryd.underlying64 Tryd.underlying46 rfl rfl) trivial rfl ?_
   refine .a (ap_build (us := [.u32 (u32D M.i).2]) (c := .agg32 [(u32D M.i).2]) Tryd.underlying22 inf46 rfl (by decide) (by decide) ⟨rfl, rfl, rfl, trivial⟩ rfl) trivial rfl ?_
   refine .a (ap_append_slO (c := .agg32 M.us) (c' := .agg32 (M.us ++ [(u32D M.i).2])) Tryd.underlying22 Tryd.underlying22 (.inr ⟨_, rfl⟩) inf46 rfl (fun _ h => h) (by show M.us.length = M.us.length * 1; omega) (srcs_sl (b := 1056) (o := 0) (m := 1) (z := 1) (k := ⟨.agg32 [(u32D M.i).2], 46, true⟩) rfl rfl (Nat.le_refl 1) rfl) (by show (M.us ++ [(u32D M.i).2]).map _ = _; rw [List.map_append]; rfl) (by decide) (Nat.le_of_ble_eq_true rfl) (by omega)) trivial rfl ?_
   refine .q (op_fieldAddr (m := 0) Tryd.underlying27 rfl (by kernel_rfl) rfl) trivial rfl ?_
   refine .as (.ptr 1016 1) rfl ?_
   refine .w (op_store (by kernel_rfl) rfl rfl rfl rfl rfl (by show _ < 5; decide)) trivial rfl ?_
   refine .nil ?_
   show Ev _ _ _ _ _
   refine .region ?_
   refine .q (op_move rfl) trivial rfl ?_
   refine .q (op_addI rfl rfl ⟨by first | omega | (simp only [AV.len]; omega) | (simp only [AV.len, List.length_set]; omega) | assumption | (simp [AV.len]; done), by first | omega | (simp only [AV.len]; omega) | (simp only [AV.len, List.length_set]; omega) | assumption | (simp [AV.len]; done)⟩) trivial rfl ?_
   refine .q (op_assign rfl) trivial rfl ?_
   refine .nil ?_
   have e9 : (parseN (fieldsOf K) ⟨(byteD ⟨s, 0⟩).1, [], [], [], []⟩ (j + 1)) = ⟨(u32D M.i).1, M.us ++ [(u32D M.i).2], M.ss, M.ns, M.bs⟩ := by
    show getP _ _ = _; rw [hM, h6]; rfl
   refine ⟨⟨j + 1, by omega⟩, by (try dsimp only); omega, ?_⟩
   dsimp only
   rw [e9]
   exact StLe.mk [(1000, 1000), (1008, 1008), (1016, 1016), (1024, 1064), (1032, 1032), (1040, 1040), (1048, 1048)] rfl rfl ⟨⟨_, rfl, by first | rfl | (simp only [AV.ren]; congr 1), rfl⟩, ⟨_, rfl, by first | rfl | (simp only [AV.ren]; congr 1), rfl⟩, ⟨_, rfl, by first | rfl | (simp only [AV.ren]; congr 1), rfl⟩, ⟨_, rfl, by first | rfl | (simp only [AV.ren]; congr 1), rfl⟩, ⟨_, rfl, by first | rfl | (simp only [AV.ren]; congr 1), rfl⟩, ⟨_, rfl, by first | rfl | (simp only [AV.ren]; congr 1), rfl⟩, trivial⟩ ⟨⟨_, _, rfl, rfl, rfl, rfl, id, rfl⟩, ⟨_, _, rfl, rfl, rfl, rfl, id, rfl⟩, ⟨_, _, rfl, rfl, (msgO_ren (back [(1000, 1000), (1008, 1008), (1016, 1016), (1024, 1064), (1032, 1032), (1040, 1040), (1048, 1048)]) K 1064 (M.us.length + 1) 1032 M.ss.length 1040 M.ns.length 1048 M.bs.length).trans (by rw [List.length_append]; rfl), rfl, id, msgO_nm (L := [(1000, 1000), (1008, 1008), (1016, 1016), (1024, 1064), (1032, 1032), (1040, 1040), (1048, 1048)]) (a := 1064) (b := 1032) (c := 1040) (d := 1048) K (M.us.length + 1) M.ss.length M.ns.length M.bs.length rfl⟩, HLe.oc (opt_le rfl (fun _ h => by rw [(opt_some h).1]; rfl) rfl rfl) (HLe.oc (opt_le rfl (fun _ h => h) rfl rfl) (HLe.oc (opt_le rfl (fun _ h => h) rfl rfl) (HLe.oc (opt_le rfl (fun _ h => h) rfl rfl) (trivial))))⟩
  ·refine .as (.u8 98) (congrArg AV.u8 h6) ?_
   refine .q (op_bin8 rfl rfl rfl) trivial rfl ?_
   refine .q (op_assign rfl) trivial rfl ?_
   refine .nil ?_
   show Ev _ _ _ _ _
   refine .cond_false rfl (rfl) ?_
   refine .seq ?_
   refine .region ?_
   refine .q (op_bin8 rfl rfl rfl) trivial rfl ?_
   refine .q (op_assign rfl) trivial rfl ?_
   refine .nil ?_
   show Ev _ _ _ _ _
   refine .cond_false rfl (rfl) ?_
   refine .seq ?_
   refine .region ?_
   refine .q (op_bin8 rfl rfl rfl) trivial rfl ?_
   refine .q (op_assign rfl) trivial rfl ?_
   refine .nil ?_
   show Ev _ _ _ _ _
   refine .cond_true rfl (rfl) ?_
   refine .seq ?_
   refine .region ?_
   refine .q (op_loadRow Tryd.underlying71 rfl (by kernel_rfl) rfl rfl rfl (rfl)) trivial rfl ?_
   refine .q (op_call (U := []) [] [] (rnum_ev M.i hok 1 (by decide)) Tryd.func34 (by kernel_rfl) rfl rfl rfl (⟨⟨_, rfl, rfl, rfl⟩, ⟨_, rfl, rfl, rfl⟩, trivial⟩) (trivial) (trivial) (trivial) rfl) trivial rfl ?_
   refine .q (op_move rfl) trivial rfl ?_
   refine .q (op_extract rfl rfl) trivial rfl ?_
   refine .q (op_extract rfl rfl) trivial rfl ?_
   refine .w (op_storeRow (by kernel_rfl) rfl rfl rfl rfl rfl (rfl) (rfl)) trivial rfl ?_
   refine .q (op_assign rfl) trivial rfl ?_
   refine .nil ?_
   show Ev _ _ _ _ _
   refine .region ?_
   refine .q (op_fieldAddr (m := 0) Tryd.underlying27 rfl (by kernel_rfl) rfl) trivial rfl ?_
   refine .as (.ptr 1016 4) rfl ?_
   refine .q (op_load Tryd.underlying25 rfl rfl rfl rfl (by show _ < 5; decide)) trivial rfl ?_
   refine .q (op_move rfl) trivial rfl ?_
   refine .q (op_bin64 rfl rfl rfl) trivial rfl ?_
   refine .as (.bool (boolD M.i).2) (congrArg AV.bool (bool_num M.i)) ?_
   refine .a (ap_build (us := [.bool (boolD M.i).2]) (c := .aggT [(boolD M.i).2]) Tryd.underlying25 inf4 rfl (by decide) (by decide) ⟨rfl, rfl, rfl, trivial⟩ rfl) trivial rfl ?_
   refine .a (ap_append_slO (c := .aggT M.bs) (c' := .aggT (M.bs ++ [(boolD M.i).2])) Tryd.underlying25 Tryd.underlying25 (.inr ⟨_, rfl⟩) inf4 rfl (fun _ h => h) (by show M.bs.length = M.bs.length * 1; omega) (srcs_sl (b := 1056) (o := 0) (m := 1) (z := 1) (k := ⟨.aggT [(boolD M.i).2], 4, true⟩) rfl rfl (Nat.le_refl 1) rfl) (by show (M.bs ++ [(boolD M.i).2]).map _ = _; rw [List.map_append]; rfl) (by decide) (Nat.le_of_ble_eq_true rfl) (by omega)) trivial rfl ?_
   refine .q (op_fieldAddr (m := 0) Tryd.underlying27 rfl (by kernel_rfl) rfl) trivial rfl ?_
   refine .as (.ptr 1016 4) rfl ?_
   refine .w (op_store (by kernel_rfl) rfl rfl rfl rfl rfl (by show _ < 5; decide)) trivial rfl ?_
   refine .nil ?_
   show Ev _ _ _ _ _
   refine .region ?_
   refine .q (op_move rfl) trivial rfl ?_
   refine .q (op_addI rfl rfl ⟨by first | omega | (simp only [AV.len]; omega) | (simp only [AV.len, List.length_set]; omega) | assumption | (simp [AV.len]; done), by first | omega | (simp only [AV.len]; omega) | (simp only [AV.len, List.length_set]; omega) | assumption | (simp [AV.len]; done)⟩) trivial rfl ?_
   refine .q (op_assign rfl) trivial rfl ?_
   refine .nil ?_
   have e9 : (parseN (fieldsOf K) ⟨(byteD ⟨s, 0⟩).1, [], [], [], []⟩ (j + 1)) = ⟨(boolD M.i).1, M.us, M.ss, M.ns, M.bs ++ [(boolD M.i).2]⟩ := by
    show getP _ _ = _; rw [hM, h6]; rfl
   refine ⟨⟨j + 1, by omega⟩, by (try dsimp only); omega, ?_⟩
   dsimp only
   rw [e9]
   exact StLe.mk [(1000, 1000), (1008, 1008), (1016, 1016), (1024, 1024), (1032, 1032), (1040, 1040), (1048, 1064)] rfl rfl ⟨⟨_, rfl, by first | rfl | (simp only [AV.ren]; congr 1), rfl⟩, ⟨_, rfl, by first | rfl | (simp only [AV.ren]; congr 1), rfl⟩, ⟨_, rfl, by first | rfl | (simp only [AV.ren]; congr 1), rfl⟩, ⟨_, rfl, by first | rfl | (simp only [AV.ren]; congr 1), rfl⟩, ⟨_, rfl, by first | rfl | (simp only [AV.ren]; congr 1), rfl⟩, ⟨_, rfl, by first | rfl | (simp only [AV.ren]; congr 1), rfl⟩, trivial⟩ ⟨⟨_, _, rfl, rfl, rfl, rfl, id, rfl⟩, ⟨_, _, rfl, rfl, rfl, rfl, id, rfl⟩, ⟨_, _, rfl, rfl, (msgO_ren (back [(1000, 1000), (1008, 1008), (1016, 1016), (1024, 1024), (1032, 1032), (1040, 1040), (1048, 1064)]) K 1024 M.us.length 1032 M.ss.length 1040 M.ns.length 1064 (M.bs.length + 1)).trans (by rw [List.length_append]; rfl), rfl, id, msgO_nm (L := [(1000, 1000), (1008, 1008), (1016, 1016), (1024, 1024), (1032, 1032), (1040, 1040), (1048, 1064)]) (a := 1024) (b := 1032) (c := 1040) (d := 1064) K M.us.length M.ss.length M.ns.length (M.bs.length + 1) rfl⟩, HLe.oc (opt_le rfl (fun _ h => h) rfl rfl) (HLe.oc (opt_le rfl (fun _ h => h) rfl rfl) (HLe.oc (opt_le rfl (fun _ h => h) rfl rfl) (HLe.oc (opt_le rfl (fun _ h => by rw [(opt_some h).1]; rfl) rfl rfl) (trivial))))⟩
  ·refine .as (.u8 110) (congrArg AV.u8 h6) ?_
   refine .q (op_bin8 rfl rfl rfl) trivial rfl ?_
   refine .q (op_assign rfl) trivial rfl ?_
   refine .nil ?_
   show Ev _ _ _ _ _
   refine .cond_false rfl (rfl) ?_
   refine .seq ?_
   refine .region ?_
   refine .q (op_bin8 rfl rfl rfl) trivial rfl ?_
   refine .q (op_assign rfl) trivial rfl ?_
   refine .nil ?_
   show Ev _ _ _ _ _
   refine .cond_true rfl (rfl) ?_
   refine .seq ?_
   refine .region ?_
   refine .a (ap_build0 (z := 1) (c := .aggS []) Tryd.underlying23 inf9 rfl) trivial rfl ?_
   refine .q (op_assign rfl) trivial rfl ?_
   refine .nil ?_
   show Ev _ _ _ _ _
   refine .seq ?_
   refine .region ?_
   refine .q (op_loadRow Tryd.underlying71 rfl (by kernel_rfl) rfl rfl rfl (rfl)) trivial rfl ?_
   refine .q (op_call (U := []) [] [] (rnamesd_ev M.i hok (by omega)) Tryd.func35 (by kernel_rfl) rfl rfl rfl (⟨⟨_, rfl, rfl, rfl⟩, trivial⟩) (trivial) (trivial) (trivial) rfl) trivial rfl ?_
   refine .q (op_move rfl) trivial rfl ?_
   refine .q (op_extract rfl rfl) trivial rfl ?_
   refine .q (op_extract rfl rfl) trivial rfl ?_
   refine .w (op_storeRow (by kernel_rfl) rfl rfl rfl rfl rfl (rfl) (rfl)) trivial rfl ?_
   refine .q (op_assign rfl) trivial rfl ?_
   refine .nil ?_
   show Ev _ _ _ _ _
   refine .region ?_
   refine .q (op_fieldAddr (m := 0) Tryd.underlying27 rfl (by kernel_rfl) rfl) trivial rfl ?_
   refine .as (.ptr 1016 3) rfl ?_
   refine .q (op_load Tryd.underlying24 rfl rfl rfl rfl (by show _ < 5; decide)) trivial rfl ?_
   refine .q (op_move rfl) trivial rfl ?_
   refine .a (ap_build (us := [.dsl (namesD M.i).2]) (c := .aggD [(namesD M.i).2]) Tryd.underlying24 inf23 rfl (by decide) (by decide) ⟨rfl, rfl, rfl, trivial⟩ rfl) trivial rfl ?_
   refine .a (ap_append_slO (c := .aggD M.ns) (c' := .aggD (M.ns ++ [(namesD M.i).2])) Tryd.underlying24 Tryd.underlying24 (.inr ⟨_, rfl⟩) inf23 rfl (fun _ h => h) (by show M.ns.length = M.ns.length * 1; omega) (srcs_sl (b := 1064) (o := 0) (m := 1) (z := 1) (k := ⟨.aggD [(namesD M.i).2], 23, true⟩) rfl rfl (Nat.le_refl 1) rfl) (by show (M.ns ++ [(namesD M.i).2]).map _ = _; rw [List.map_append]; rfl) (by decide) (Nat.le_of_ble_eq_true rfl) (by omega)) trivial rfl ?_
   refine .q (op_fieldAddr (m := 0) Tryd.underlying27 rfl (by kernel_rfl) rfl) trivial rfl ?_
   refine .as (.ptr 1016 3) rfl ?_
   refine .w (op_store (by kernel_rfl) rfl rfl rfl rfl rfl (by show _ < 5; decide)) trivial rfl ?_
   refine .nil ?_
   show Ev _ _ _ _ _
   refine .region ?_
   refine .q (op_move rfl) trivial rfl ?_
   refine .q (op_addI rfl rfl ⟨by first | omega | (simp only [AV.len]; omega) | (simp only [AV.len, List.length_set]; omega) | assumption | (simp [AV.len]; done), by first | omega | (simp only [AV.len]; omega) | (simp only [AV.len, List.length_set]; omega) | assumption | (simp [AV.len]; done)⟩) trivial rfl ?_
   refine .q (op_assign rfl) trivial rfl ?_
   refine .nil ?_
   have e9 : (parseN (fieldsOf K) ⟨(byteD ⟨s, 0⟩).1, [], [], [], []⟩ (j + 1)) = ⟨(namesD M.i).1, M.us, M.ss, M.ns ++ [(namesD M.i).2], M.bs⟩ := by
    show getP _ _ = _; rw [hM, h6]; rfl
   refine ⟨⟨j + 1, by omega⟩, by (try dsimp only); omega, ?_⟩
   dsimp only
   rw [e9]
   exact StLe.mk [(1000, 1000), (1008, 1008), (1016, 1016), (1024, 1024), (1032, 1032), (1040, 1072), (1048, 1048)] rfl rfl ⟨⟨_, rfl, by first | rfl | (simp only [AV.ren]; congr 1), rfl⟩, ⟨_, rfl, by first | rfl | (simp only [AV.ren]; congr 1), rfl⟩, ⟨_, rfl, by first | rfl | (simp only [AV.ren]; congr 1), rfl⟩, ⟨_, rfl, by first | rfl | (simp only [AV.ren]; congr 1), rfl⟩, ⟨_, rfl, by first | rfl | (simp only [AV.ren]; congr 1), rfl⟩, ⟨_, rfl, by first | rfl | (simp only [AV.ren]; congr 1), rfl⟩, trivial⟩ ⟨⟨_, _, rfl, rfl, rfl, rfl, id, rfl⟩, ⟨_, _, rfl, rfl, rfl, rfl, id, rfl⟩, ⟨_, _, rfl, rfl, (msgO_ren (back [(1000, 1000), (1008, 1008), (1016, 1016), (1024, 1024), (1032, 1032), (1040, 1072), (1048, 1048)]) K 1024 M.us.length 1032 M.ss.length 1072 (M.ns.length + 1) 1048 M.bs.length).trans (by rw [List.length_append]; rfl), rfl, id, msgO_nm (L := [(1000, 1000), (1008, 1008), (1016, 1016), (1024, 1024), (1032, 1032), (1040, 1072), (1048, 1048)]) (a := 1024) (b := 1032) (c := 1072) (d := 1048) K M.us.length M.ss.length (M.ns.length + 1) M.bs.length rfl⟩, HLe.oc (opt_le rfl (fun _ h => h) rfl rfl) (HLe.oc (opt_le rfl (fun _ h => h) rfl rfl) (HLe.oc (opt_le rfl (fun _ h => by rw [(opt_some h).1]; rfl) rfl rfl) (HLe.oc (opt_le rfl (fun _ h => h) rfl rfl) (trivial))))⟩
  ·refine .as (.u8 115) (congrArg AV.u8 h6) ?_
   refine .q (op_bin8 rfl rfl rfl) trivial rfl ?_
   refine .q (op_assign rfl) trivial rfl ?_
   refine .nil ?_
   show Ev _ _ _ _ _
   refine .cond_false rfl (rfl) ?_
   refine .seq ?_
   refine .region ?_
   refine .q (op_bin8 rfl rfl rfl) trivial rfl ?_
   refine .q (op_assign rfl) trivial rfl ?_
   refine .nil ?_
   show Ev _ _ _ _ _
   refine .cond_false rfl (rfl) ?_
   refine .seq ?_
   refine .region ?_
   refine .q (op_bin8 rfl rfl rfl) trivial rfl ?_
   refine .q (op_assign rfl) trivial rfl ?_
   refine .nil ?_
   show Ev _ _ _ _ _
   refine .cond_false rfl (rfl) ?_
   refine .seq ?_
   refine .region ?_
   refine .q (op_bin8 rfl rfl rfl) trivial rfl ?_
   refine .q (op_assign rfl) trivial rfl ?_
   refine .nil ?_
   show Ev _ _ _ _ _
   refine .cond_true rfl (rfl) ?_
   refine .seq ?_
   refine .region ?_
   refine .q (op_loadRow Tryd.underlying71 rfl (by kernel_rfl) rfl rfl rfl (rfl)) trivial rfl ?_
   refine .q (op_call (U := []) [] [] (rtext_ev M.i hok 32768) Tryd.func36 (by kernel_rfl) rfl rfl rfl (⟨⟨_, rfl, rfl, rfl⟩, ⟨_, rfl, rfl, rfl⟩, trivial⟩) (trivial) (trivial) (trivial) rfl) trivial rfl ?_
   refine .q (op_move rfl) trivial rfl ?_
   refine .q (op_extract rfl rfl) trivial rfl ?_
   refine .q (op_extract rfl rfl) trivial rfl ?_
   refine .w (op_storeRow (by kernel_rfl) rfl rfl rfl rfl rfl (rfl) (rfl)) trivial rfl ?_
   refine .q (op_assign rfl) trivial rfl ?_
   refine .nil ?_
   show Ev _ _ _ _ _
   refine .region ?_
   refine .q (op_fieldAddr (m := 0) Tryd.underlying27 rfl (by kernel_rfl) rfl) trivial rfl ?_
   refine .as (.ptr 1016 2) rfl ?_
   refine .q (op_load Tryd.underlying23 rfl rfl rfl rfl (by show _ < 5; decide)) trivial rfl ?_
   refine .q (op_move rfl) trivial rfl ?_
   refine .a (ap_build (us := [.str (textD M.i 32768).2]) (c := .aggS [(textD M.i 32768).2]) Tryd.underlying23 inf9 rfl (by decide) (by decide) ⟨rfl, rfl, rfl, trivial⟩ rfl) trivial rfl ?_
   refine .a (ap_append_slO (c := .aggS M.ss) (c' := .aggS (M.ss ++ [(textD M.i 32768).2])) Tryd.underlying23 Tryd.underlying23 (.inr ⟨_, rfl⟩) inf9 rfl (fun _ h => h) (by show M.ss.length = M.ss.length * 1; omega) (srcs_sl (b := 1056) (o := 0) (m := 1) (z := 1) (k := ⟨.aggS [(textD M.i 32768).2], 9, true⟩) rfl rfl (Nat.le_refl 1) rfl) (by show (M.ss ++ [(textD M.i 32768).2]).map _ = _; rw [List.map_append]; rfl) (by decide) (Nat.le_of_ble_eq_true rfl) (by omega)) trivial rfl ?_
   refine .q (op_fieldAddr (m := 0) Tryd.underlying27 rfl (by kernel_rfl) rfl) trivial rfl ?_
   refine .as (.ptr 1016 2) rfl ?_
   refine .w (op_store (by kernel_rfl) rfl rfl rfl rfl rfl (by show _ < 5; decide)) trivial rfl ?_
   refine .nil ?_
   show Ev _ _ _ _ _
   refine .region ?_
   refine .q (op_move rfl) trivial rfl ?_
   refine .q (op_addI rfl rfl ⟨by first | omega | (simp only [AV.len]; omega) | (simp only [AV.len, List.length_set]; omega) | assumption | (simp [AV.len]; done), by first | omega | (simp only [AV.len]; omega) | (simp only [AV.len, List.length_set]; omega) | assumption | (simp [AV.len]; done)⟩) trivial rfl ?_
   refine .q (op_assign rfl) trivial rfl ?_
   refine .nil ?_
   have e9 : (parseN (fieldsOf K) ⟨(byteD ⟨s, 0⟩).1, [], [], [], []⟩ (j + 1)) = ⟨(textD M.i 32768).1, M.us, M.ss ++ [(textD M.i 32768).2], M.ns, M.bs⟩ := by
    show getP _ _ = _; rw [hM, h6]; rfl
   refine ⟨⟨j + 1, by omega⟩, by (try dsimp only); omega, ?_⟩
   dsimp only
   rw [e9]
   exact StLe.mk [(1000, 1000), (1008, 1008), (1016, 1016), (1024, 1024), (1032, 1064), (1040, 1040), (1048, 1048)] rfl rfl ⟨⟨_, rfl, by first | rfl | (simp only [AV.ren]; congr 1), rfl⟩, ⟨_, rfl, by first | rfl | (simp only [AV.ren]; congr 1), rfl⟩, ⟨_, rfl, by first | rfl | (simp only [AV.ren]; congr 1), rfl⟩, ⟨_, rfl, by first | rfl | (simp only [AV.ren]; congr 1), rfl⟩, ⟨_, rfl, by first | rfl | (simp only [AV.ren]; congr 1), rfl⟩, ⟨_, rfl, by first | rfl | (simp only [AV.ren]; congr 1), rfl⟩, trivial⟩ ⟨⟨_, _, rfl, rfl, rfl, rfl, id, rfl⟩, ⟨_, _, rfl, rfl, rfl, rfl, id, rfl⟩, ⟨_, _, rfl, rfl, (msgO_ren (back [(1000, 1000), (1008, 1008), (1016, 1016), (1024, 1024), (1032, 1064), (1040, 1040), (1048, 1048)]) K 1024 M.us.length 1064 (M.ss.length + 1) 1040 M.ns.length 1048 M.bs.length).trans (by rw [List.length_append]; rfl), rfl, id, msgO_nm (L := [(1000, 1000), (1008, 1008), (1016, 1016), (1024, 1024), (1032, 1064), (1040, 1040), (1048, 1048)]) (a := 1024) (b := 1064) (c := 1040) (d := 1048) K M.us.length (M.ss.length + 1) M.ns.length M.bs.length rfl⟩, HLe.oc (opt_le rfl (fun _ h => h) rfl rfl) (HLe.oc (opt_le rfl (fun _ h => by rw [(opt_some h).1]; rfl) rfl rfl) (HLe.oc (opt_le rfl (fun _ h => h) rfl rfl) (HLe.oc (opt_le rfl (fun _ h => h) rfl rfl) (trivial))))⟩
  ·refine .as (.u8 99) (congrArg AV.u8 h6) ?_
   refine .q (op_bin8 rfl rfl rfl) trivial rfl ?_
   refine .q (op_assign rfl) trivial rfl ?_
   refine .nil ?_
   show Ev _ _ _ _ _
   refine .cond_false rfl (rfl) ?_
   refine .seq ?_
   refine .region ?_
   refine .q (op_bin8 rfl rfl rfl) trivial rfl ?_
   refine .q (op_assign rfl) trivial rfl ?_
   refine .nil ?_
   show Ev _ _ _ _ _
   refine .cond_false rfl (rfl) ?_
   refine .seq ?_
   refine .region ?_
   refine .q (op_bin8 rfl rfl rfl) trivial rfl ?_
   refine .q (op_assign rfl) trivial rfl ?_
   refine .nil ?_
   show Ev _ _ _ _ _
   refine .cond_false rfl (rfl) ?_
   refine .seq ?_
   refine .region ?_
   refine .q (op_bin8 rfl rfl rfl) trivial rfl ?_
   refine .q (op_assign rfl) trivial rfl ?_
   refine .nil ?_
   show Ev _ _ _ _ _
   refine .cond_false rfl (rfl) ?_
   refine .seq ?_
   refine .region ?_
   refine .q (op_bin8 rfl rfl rfl) trivial rfl ?_
   refine .q (op_assign rfl) trivial rfl ?_
   refine .nil ?_
   show Ev _ _ _ _ _
   refine .cond_true rfl (rfl) ?_
   refine .seq ?_
   refine .region ?_
   refine .q (op_loadRow Tryd.underlying71 rfl (by kernel_rfl) rfl rfl rfl (rfl)) trivial rfl ?_
   refine .q (op_call (U := []) [] [] (rraw_ev M.i hok 16) Tryd.func37 (by kernel_rfl) rfl rfl rfl (⟨⟨_, rfl, rfl, rfl⟩, ⟨_, rfl, rfl, rfl⟩, trivial⟩) (trivial) (trivial) (trivial) rfl) trivial rfl ?_
   refine .q (op_move rfl) trivial rfl ?_
   refine .q (op_extract rfl rfl) trivial rfl ?_
   refine .q (op_extract rfl rfl) trivial rfl ?_
   refine .w (op_storeRow (by kernel_rfl) rfl rfl rfl rfl rfl (rfl) (rfl)) trivial rfl ?_
   refine .q (op_assign rfl) trivial rfl ?_
   refine .nil ?_
   show Ev _ _ _ _ _
   refine .region ?_
   refine .q (op_fieldAddr (m := 0) Tryd.underlying27 rfl (by kernel_rfl) rfl) trivial rfl ?_
   refine .as (.ptr 1016 2) rfl ?_
   refine .q (op_load Tryd.underlying23 rfl rfl rfl rfl (by show _ < 5; decide)) trivial rfl ?_
   refine .q (op_move rfl) trivial rfl ?_
   refine .a (ap_build (us := [.str (rawD M.i 16).2]) (c := .aggS [(rawD M.i 16).2]) Tryd.underlying23 inf9 rfl (by decide) (by decide) ⟨rfl, rfl, rfl, trivial⟩ rfl) trivial rfl ?_
   refine .a (ap_append_slO (c := .aggS M.ss) (c' := .aggS (M.ss ++ [(rawD M.i 16).2])) Tryd.underlying23 Tryd.underlying23 (.inr ⟨_, rfl⟩) inf9 rfl (fun _ h => h) (by show M.ss.length = M.ss.length * 1; omega) (srcs_sl (b := 1056) (o := 0) (m := 1) (z := 1) (k := ⟨.aggS [(rawD M.i 16).2], 9, true⟩) rfl rfl (Nat.le_refl 1) rfl) (by show (M.ss ++ [(rawD M.i 16).2]).map _ = _; rw [List.map_append]; rfl) (by decide) (Nat.le_of_ble_eq_true rfl) (by omega)) trivial rfl ?_
   refine .q (op_fieldAddr (m := 0) Tryd.underlying27 rfl (by kernel_rfl) rfl) trivial rfl ?_
   refine .as (.ptr 1016 2) rfl ?_
   refine .w (op_store (by kernel_rfl) rfl rfl rfl rfl rfl (by show _ < 5; decide)) trivial rfl ?_
   refine .nil ?_
   show Ev _ _ _ _ _
   refine .region ?_
   refine .q (op_move rfl) trivial rfl ?_
   refine .q (op_addI rfl rfl ⟨by first | omega | (simp only [AV.len]; omega) | (simp only [AV.len, List.length_set]; omega) | assumption | (simp [AV.len]; done), by first | omega | (simp only [AV.len]; omega) | (simp only [AV.len, List.length_set]; omega) | assumption | (simp [AV.len]; done)⟩) trivial rfl ?_
   refine .q (op_assign rfl) trivial rfl ?_
   refine .nil ?_
   have e9 : (parseN (fieldsOf K) ⟨(byteD ⟨s, 0⟩).1, [], [], [], []⟩ (j + 1)) = ⟨(rawD M.i 16).1, M.us, M.ss ++ [(rawD M.i 16).2], M.ns, M.bs⟩ := by
    show getP _ _ = _; rw [hM, h6]; rfl
   refine ⟨⟨j + 1, by omega⟩, by (try dsimp only); omega, ?_⟩
   dsimp only
   rw [e9]
   exact StLe.mk [(1000, 1000), (1008, 1008), (1016, 1016), (1024, 1024), (1032, 1064), (1040, 1040), (1048, 1048)] rfl rfl ⟨⟨_, rfl, by first | rfl | (simp only [AV.ren]; congr 1), rfl⟩, ⟨_, rfl, by first | rfl | (simp only [AV.ren]; congr 1), rfl⟩, ⟨_, rfl, by first | rfl | (simp only [AV.ren]; congr 1), rfl⟩, ⟨_, rfl, by first | rfl | (simp only [AV.ren]; congr 1), rfl⟩, ⟨_, rfl, by first | rfl | (simp only [AV.ren]; congr 1), rfl⟩, ⟨_, rfl, by first | rfl | (simp only [AV.ren]; congr 1), rfl⟩, trivial⟩ ⟨⟨_, _, rfl, rfl, rfl, rfl, id, rfl⟩, ⟨_, _, rfl, rfl, rfl, rfl, id, rfl⟩, ⟨_, _, rfl, rfl, (msgO_ren (back [(1000, 1000), (1008, 1008), (1016, 1016), (1024, 1024), (1032, 1064), (1040, 1040), (1048, 1048)]) K 1024 M.us.length 1064 (M.ss.length + 1) 1040 M.ns.length 1048 M.bs.length).trans (by rw [List.length_append]; rfl), rfl, id, msgO_nm (L := [(1000, 1000), (1008, 1008), (1016, 1016), (1024, 1024), (1032, 1064), (1040, 1040), (1048, 1048)]) (a := 1024) (b := 1064) (c := 1040) (d := 1048) K M.us.length (M.ss.length + 1) M.ns.length M.bs.length rfl⟩, HLe.oc (opt_le rfl (fun _ h => h) rfl rfl) (HLe.oc (opt_le rfl (fun _ h => by rw [(opt_some h).1]; rfl) rfl rfl) (HLe.oc (opt_le rfl (fun _ h => h) rfl rfl) (HLe.oc (opt_le rfl (fun _ h => h) rfl rfl) (trivial))))⟩
  ·refine .as (.u8 114) (congrArg AV.u8 h6) ?_
   refine .q (op_bin8 rfl rfl rfl) trivial rfl ?_
   refine .q (op_assign rfl) trivial rfl ?_
   refine .nil ?_
   show Ev _ _ _ _ _
   refine .cond_false rfl (rfl) ?_
   refine .seq ?_
   refine .region ?_
   refine .q (op_bin8 rfl rfl rfl) trivial rfl ?_
   refine .q (op_assign rfl) trivial rfl ?_
   refine .nil ?_
   show Ev _ _ _ _ _
   refine .cond_false rfl (rfl) ?_
   refine .seq ?_
   refine .region ?_
   refine .q (op_bin8 rfl rfl rfl) trivial rfl ?_
   refine .q (op_assign rfl) trivial rfl ?_
   refine .nil ?_
   show Ev _ _ _ _ _
   refine .cond_false rfl (rfl) ?_
   refine .seq ?_
   refine .region ?_
   refine .q (op_bin8 rfl rfl rfl) trivial rfl ?_
   refine .q (op_assign rfl) trivial rfl ?_
   refine .nil ?_
   show Ev _ _ _ _ _
   refine .cond_false rfl (rfl) ?_
   refine .seq ?_
   refine .region ?_
   refine .q (op_bin8 rfl rfl rfl) trivial rfl ?_
   refine .q (op_assign rfl) trivial rfl ?_
   refine .nil ?_
   show Ev _ _ _ _ _
   refine .cond_false rfl (rfl) ?_
   refine .seq ?_
   refine .region ?_
   refine .q (op_loadRow Tryd.underlying71 rfl (by kernel_rfl) rfl rfl rfl (rfl)) trivial rfl ?_
   refine .q (op_fieldAddr (m := 0) Tryd.underlying71 rfl (by kernel_rfl) rfl) trivial rfl ?_
   refine .as (.ptr 1008 0) rfl ?_
   refine .q (op_load Tryd.underlying9 rfl rfl rfl rfl (by show _ < 2; decide)) trivial rfl ?_
   refine .q (op_len_str Tryd.underlying9 rfl) trivial rfl ?_
   refine .q (op_call (U := []) [] [] (rraw_ev M.i hok (M.i.r.length : Int)) Tryd.func37 (by kernel_rfl) rfl rfl rfl (⟨⟨_, rfl, rfl, rfl⟩, ⟨_, rfl, rfl, rfl⟩, trivial⟩) (trivial) (trivial) (trivial) rfl) trivial rfl ?_
   refine .q (op_move rfl) trivial rfl ?_
   refine .q (op_extract rfl rfl) trivial rfl ?_
   refine .q (op_extract rfl rfl) trivial rfl ?_
   refine .w (op_storeRow (by kernel_rfl) rfl rfl rfl rfl rfl (rfl) (rfl)) trivial rfl ?_
   refine .q (op_assign rfl) trivial rfl ?_
   refine .nil ?_
   show Ev _ _ _ _ _
   refine .region ?_
   refine .q (op_fieldAddr (m := 0) Tryd.underlying27 rfl (by kernel_rfl) rfl) trivial rfl ?_
   refine .as (.ptr 1016 2) rfl ?_
   refine .q (op_load Tryd.underlying23 rfl rfl rfl rfl (by show _ < 5; decide)) trivial rfl ?_
   refine .q (op_move rfl) trivial rfl ?_
   refine .a (ap_build (us := [.str (rawD M.i M.i.r.length).2]) (c := .aggS [(rawD M.i M.i.r.length).2]) Tryd.underlying23 inf9 rfl (by decide) (by decide) ⟨rfl, rfl, rfl, trivial⟩ rfl) trivial rfl ?_
   refine .a (ap_append_slO (c := .aggS M.ss) (c' := .aggS (M.ss ++ [(rawD M.i M.i.r.length).2])) Tryd.underlying23 Tryd.underlying23 (.inr ⟨_, rfl⟩) inf9 rfl (fun _ h => h) (by show M.ss.length = M.ss.length * 1; omega) (srcs_sl (b := 1056) (o := 0) (m := 1) (z := 1) (k := ⟨.aggS [(rawD M.i M.i.r.length).2], 9, true⟩) rfl rfl (Nat.le_refl 1) rfl) (by show (M.ss ++ [(rawD M.i M.i.r.length).2]).map _ = _; rw [List.map_append]; rfl) (by decide) (Nat.le_of_ble_eq_true rfl) (by omega)) trivial rfl ?_
   refine .q (op_fieldAddr (m := 0) Tryd.underlying27 rfl (by kernel_rfl) rfl) trivial rfl ?_
   refine .as (.ptr 1016 2) rfl ?_
   refine .w (op_store (by kernel_rfl) rfl rfl rfl rfl rfl (by show _ < 5; decide)) trivial rfl ?_
   refine .nil ?_
   show Ev _ _ _ _ _
   refine .region ?_
   refine .q (op_move rfl) trivial rfl ?_
   refine .q (op_addI rfl rfl ⟨by first | omega | (simp only [AV.len]; omega) | (simp only [AV.len, List.length_set]; omega) | assumption | (simp [AV.len]; done), by first | omega | (simp only [AV.len]; omega) | (simp only [AV.len, List.length_set]; omega) | assumption | (simp [AV.len]; done)⟩) trivial rfl ?_
   refine .q (op_assign rfl) trivial rfl ?_
   refine .nil ?_
   have e9 : (parseN (fieldsOf K) ⟨(byteD ⟨s, 0⟩).1, [], [], [], []⟩ (j + 1)) = ⟨(rawD M.i M.i.r.length).1, M.us, M.ss ++ [(rawD M.i M.i.r.length).2], M.ns, M.bs⟩ := by
    show getP _ _ = _; rw [hM, h6]; rfl
   refine ⟨⟨j + 1, by omega⟩, by (try dsimp only); omega, ?_⟩
   dsimp only
   rw [e9]
   exact StLe.mk [(1000, 1000), (1008, 1008), (1016, 1016), (1024, 1024), (1032, 1064), (1040, 1040), (1048, 1048)] rfl rfl ⟨⟨_, rfl, by first | rfl | (simp only [AV.ren]; congr 1), rfl⟩, ⟨_, rfl, by first | rfl | (simp only [AV.ren]; congr 1), rfl⟩, ⟨_, rfl, by first | rfl | (simp only [AV.ren]; congr 1), rfl⟩, ⟨_, rfl, by first | rfl | (simp only [AV.ren]; congr 1), rfl⟩, ⟨_, rfl, by first | rfl | (simp only [AV.ren]; congr 1), rfl⟩, ⟨_, rfl, by first | rfl | (simp only [AV.ren]; congr 1), rfl⟩, trivial⟩ ⟨⟨_, _, rfl, rfl, rfl, rfl, id, rfl⟩, ⟨_, _, rfl, rfl, rfl, rfl, id, rfl⟩, ⟨_, _, rfl, rfl, (msgO_ren (back [(1000, 1000), (1008, 1008), (1016, 1016), (1024, 1024), (1032, 1064), (1040, 1040), (1048, 1048)]) K 1024 M.us.length 1064 (M.ss.length + 1) 1040 M.ns.length 1048 M.bs.length).trans (by rw [List.length_append]; rfl), rfl, id, msgO_nm (L := [(1000, 1000), (1008, 1008), (1016, 1016), (1024, 1024), (1032, 1064), (1040, 1040), (1048, 1048)]) (a := 1024) (b := 1064) (c := 1040) (d := 1048) K M.us.length (M.ss.length + 1) M.ns.length M.bs.length rfl⟩, HLe.oc (opt_le rfl (fun _ h => h) rfl rfl) (HLe.oc (opt_le rfl (fun _ h => by rw [(opt_some h).1]; rfl) rfl rfl) (HLe.oc (opt_le rfl (fun _ h => h) rfl rfl) (HLe.oc (opt_le rfl (fun _ h => h) rfl rfl) (trivial))))⟩
 ·first | replace hc41 := of_decide_eq_true hc41 | replace hc41 := of_decide_eq_false hc41 | replace hc41 := eq_of_beq hc41 | replace hc41 := ne_of_beq_false hc41 | simp only [bne_iff_ne, ne_eq] at hc41 | simp only [bne_eq_false_iff_eq] at hc41
  refine .exit ?_
  show Ev _ _ _ _ _
  have ej : j = (fieldsOf K).length := by omega
  subst ej
  have eM : R = M := hR.symm.trans hM
  subst eM
  refine .seq ?_
  refine .seq ?_
  refine .region ?_
  refine .q (op_fieldAddr (m := 0) Tryd.underlying71 rfl (by kernel_rfl) rfl) trivial rfl ?_
  refine .as (.ptr 1008 1) rfl ?_
  refine .q (op_load Tryd.underlying3 rfl rfl rfl rfl (by show _ < 2; decide)) trivial rfl ?_
  refine .q (op_cmpI rfl rfl rfl) trivial rfl ?_
  refine .nil ?_
  show Ev _ _ _ _ _
  refine .cond_false rfl (by rw [he]; rfl) ?_
  refine .skip ?_
  show Ev _ _ _ _ _
  refine .seq ?_
  refine .seq ?_
  refine .region ?_
  refine .q (op_fieldAddr (m := 0) Tryd.underlying71 rfl (by kernel_rfl) rfl) trivial rfl ?_
  refine .as (.ptr 1008 0) rfl ?_
  refine .q (op_load Tryd.underlying9 rfl rfl rfl rfl (by show _ < 2; decide)) trivial rfl ?_
  refine .q (op_eqS rfl rfl rfl) trivial rfl ?_
  refine .nil ?_
  show Ev _ _ _ _ _
  refine .cond_true rfl (by simpa using hl) ?_
  refine .seq ?_
  refine .region ?_
  refine .q (op_buildS (r := .agg [.i64 0, .nilsl, .nilsl, .nilsl, .nilsl]) Tryd.underlying27 rfl zero27 rel_zero27 rfl rfl rfl rfl) trivial rfl ?_
  refine .w (op_storeRow (by kernel_rfl) rfl rfl rfl rfl rfl (rfl) (rfl)) trivial rfl ?_
  refine .q (op_assign rfl) trivial rfl ?_
  refine .nil ?_
  show Ev _ _ _ _ _
  refine .ret ?_
  show RetOk _ _ _ _ _ _ _
  exact retc2 rfl (.inl rfl) ⟨_, _, _, _, rfl, rfl, rfl, rfl, rfl, Tryd.underlying27, rfl, (by kernel_rfl)⟩ rfl trivial
end Go.Proofs.YtgnicenhnchglaaDoor
