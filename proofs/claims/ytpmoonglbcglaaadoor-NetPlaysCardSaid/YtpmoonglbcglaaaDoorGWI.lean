/-
  Texts of this claim.
-/
import Derived.Test.YtpmoonglbcglaaaDoorGW8
namespace Go.Proofs.YtpmoonglbcglaaaDoor
open Go.RowKit
set_option maxHeartbeats 8000000 in
set_option maxRecDepth 100000 in
theorem plays_D (eo : Nat → Nat × Nat) (hd : ∀ i j, i < 20 → j < 20 → i ≠ j → eo i ≠ eo j) (R : Int) (hR0 : 0 ≤ R) (hR1 : R ≤ 1000000000) (o : Nat) (l : List ActN) (hl2 : l.length ≤ 9223372036854775807) (i : Nat) (hil : i < l.length) (h120 : i < 120) (x y : Option BX) (hx : BOk x (30 * i)) (hy : BOk y (30 * i)) (lx : ((live x).length : Int) ≤ R) (ly : ((live y).length : Int) ≤ R) (hk : (l.getD i default).k ≠ 4) (hw : (l.getD i default).w = 0) :
  Ev Tryd.prog 287 (codeAt [true, true, true, true, true, true, true, false, true, false, false, true, false, false, true, true, true] ((Tryd.f3).body.getD .skip)) ⟨[(0, .i64 R), (1, .sl 450 o l.length 5), (5, .ptr 1000 0), (6, .sl 1024 0 2 1), (7, .bool (!false)), (8, .i64 ((i : Nat) : Int)), (9, .ptr 1032 0), (10, .i64 0)], [(1000, some ⟨rowW R false 1008 1016 x y, 51, true⟩), (1008, bK true x), (1016, bK true y), (1024, some ⟨.aggS [live x, live y], 9, true⟩), (1032, some ⟨.agg (actN (l.getD i default)), 28, true⟩), (0, some ⟨.agg [.err 79 (1) (offE eo (1))], errT, false⟩), (1, some ⟨.agg [.err 79 (2) (offE eo (2))], errT, false⟩), (2, some ⟨.agg [.err 79 (3) (offE eo (3))], errT, false⟩), (3, some ⟨.agg [.err 79 (4) (offE eo (4))], errT, false⟩), (4, some ⟨.agg [.err 79 (5) (offE eo (5))], errT, false⟩), (5, some ⟨.agg [.err 79 (6) (offE eo (6))], errT, false⟩), (6, some ⟨.agg [.err 79 (7) (offE eo (7))], errT, false⟩), (7, some ⟨.agg [.err 79 (8) (offE eo (8))], errT, false⟩), (8, some ⟨.agg [.err 79 (9) (offE eo (9))], errT, false⟩), (9, some ⟨.agg [.err 79 (10) (offE eo (10))], errT, false⟩), (10, some ⟨.agg [.err 79 (11) (offE eo (11))], errT, false⟩), (11, some ⟨.agg [.err 79 (12) (offE eo (12))], errT, false⟩), (12, some ⟨.agg [.err 79 (13) (offE eo (13))], errT, false⟩), (13, some ⟨.agg [.err 79 (14) (offE eo (14))], errT, false⟩), (14, some ⟨.agg [.err 79 (15) (offE eo (15))], errT, false⟩), (15, some ⟨.agg [.err 79 (16) (offE eo (16))], errT, false⟩), (16, some ⟨.agg [.err 79 (17) (offE eo (17))], errT, false⟩), (17, some ⟨.agg [.err 79 (18) (offE eo (18))], errT, false⟩), (18, some ⟨.agg [.err 79 (19) (offE eo (19))], errT, false⟩), (19, some ⟨.agg [.err 79 (20) (offE eo (20))], errT, false⟩), (401, some ⟨.agg [], errT, false⟩), (402, some ⟨.agg [], errT, false⟩), (403, some ⟨.agg [], errT, false⟩), (404, some ⟨.agg [], errT, false⟩), (405, some ⟨.agg [], errT, false⟩), (406, some ⟨.agg [], errT, false⟩), (407, some ⟨.agg [], errT, false⟩), (408, some ⟨.agg [], errT, false⟩), (409, some ⟨.agg [], errT, false⟩), (410, some ⟨.agg [], errT, false⟩), (411, some ⟨.agg [], errT, false⟩), (412, some ⟨.agg [], errT, false⟩), (413, some ⟨.agg [], errT, false⟩), (414, some ⟨.agg [], errT, false⟩), (415, some ⟨.agg [], errT, false⟩), (416, some ⟨.agg [], errT, false⟩), (417, some ⟨.agg [], errT, false⟩), (418, some ⟨.agg [], errT, false⟩), (419, some ⟨.agg [], errT, false⟩), (420, some ⟨.agg [], errT, false⟩), (450, some ⟨.agg (offC o (rowsC actN l)), anyT, false⟩)], 1048⟩ (thenA (fun st2 => ∃ q : NSt R (30 * (i + 1)), StLe 287 st2 ⟨[(0, .i64 R), (1, .sl 450 o l.length 5), (5, .ptr 1000 0), (6, .sl 1024 0 2 1), (7, .bool (!q.d)), (8, .i64 ((i : Nat) : Int))], [(1000, some ⟨rowW R q.d 1008 1016 q.x q.y, 51, true⟩), (1008, bK true q.x), (1016, bK true q.y), (1024, some ⟨.aggS [live q.x, live q.y], 9, true⟩), (0, some ⟨.agg [.err 79 (1) (offE eo (1))], errT, false⟩), (1, some ⟨.agg [.err 79 (2) (offE eo (2))], errT, false⟩), (2, some ⟨.agg [.err 79 (3) (offE eo (3))], errT, false⟩), (3, some ⟨.agg [.err 79 (4) (offE eo (4))], errT, false⟩), (4, some ⟨.agg [.err 79 (5) (offE eo (5))], errT, false⟩), (5, some ⟨.agg [.err 79 (6) (offE eo (6))], errT, false⟩), (6, some ⟨.agg [.err 79 (7) (offE eo (7))], errT, false⟩), (7, some ⟨.agg [.err 79 (8) (offE eo (8))], errT, false⟩), (8, some ⟨.agg [.err 79 (9) (offE eo (9))], errT, false⟩), (9, some ⟨.agg [.err 79 (10) (offE eo (10))], errT, false⟩), (10, some ⟨.agg [.err 79 (11) (offE eo (11))], errT, false⟩), (11, some ⟨.agg [.err 79 (12) (offE eo (12))], errT, false⟩), (12, some ⟨.agg [.err 79 (13) (offE eo (13))], errT, false⟩), (13, some ⟨.agg [.err 79 (14) (offE eo (14))], errT, false⟩), (14, some ⟨.agg [.err 79 (15) (offE eo (15))], errT, false⟩), (15, some ⟨.agg [.err 79 (16) (offE eo (16))], errT, false⟩), (16, some ⟨.agg [.err 79 (17) (offE eo (17))], errT, false⟩), (17, some ⟨.agg [.err 79 (18) (offE eo (18))], errT, false⟩), (18, some ⟨.agg [.err 79 (19) (offE eo (19))], errT, false⟩), (19, some ⟨.agg [.err 79 (20) (offE eo (20))], errT, false⟩), (401, some ⟨.agg [], errT, false⟩), (402, some ⟨.agg [], errT, false⟩), (403, some ⟨.agg [], errT, false⟩), (404, some ⟨.agg [], errT, false⟩), (405, some ⟨.agg [], errT, false⟩), (406, some ⟨.agg [], errT, false⟩), (407, some ⟨.agg [], errT, false⟩), (408, some ⟨.agg [], errT, false⟩), (409, some ⟨.agg [], errT, false⟩), (410, some ⟨.agg [], errT, false⟩), (411, some ⟨.agg [], errT, false⟩), (412, some ⟨.agg [], errT, false⟩), (413, some ⟨.agg [], errT, false⟩), (414, some ⟨.agg [], errT, false⟩), (415, some ⟨.agg [], errT, false⟩), (416, some ⟨.agg [], errT, false⟩), (417, some ⟨.agg [], errT, false⟩), (418, some ⟨.agg [], errT, false⟩), (419, some ⟨.agg [], errT, false⟩), (420, some ⟨.agg [], errT, false⟩), (450, some ⟨.agg (offC o (rowsC actN l)), anyT, false⟩)], 1048⟩) (fun _ _ => False)) := by
 have lx2 := live_le hx
 have ly2 := live_le hy
 have hdd : (false = true ∧ x = none ∧ y = none) ∨ false = false := .inr rfl
 refine .seq ?_
 have hKe : ∃ K : Nat, max 0 (min (l.getD i default).n ((live x).length : Int)) = (K : Int) := ⟨(max 0 (min (l.getD i default).n ((live x).length : Int))).toNat, (Int.toNat_of_nonneg (by omega)).symm⟩
 obtain ⟨K, hK⟩ := hKe
 refine .region ?_
 refine .q (op_fieldAddr (m := 0) Tryd.underlying28 rfl (by kernel_rfl) rfl) trivial rfl ?_
 refine .as (.ptr 1032 3) rfl ?_
 refine .q (op_load Tryd.underlying9 rfl rfl rfl rfl (by show 3 < 5; decide)) trivial rfl ?_
 refine .q (op_call (U := []) [] [] (cut_ev (l.getD i default).s 30 (l.getD i default).h (by decide)) Tryd.func8 (by kernel_rfl) rfl rfl rfl (⟨⟨_, rfl, rfl, rfl⟩, ⟨_, rfl, rfl, rfl⟩, trivial⟩) (trivial) (trivial) (trivial) rfl) trivial rfl ?_
 skip
 refine .q (op_assign rfl) trivial rfl ?_
 refine .nil ?_
 show Ev _ _ _ _ _
 refine .seq ?_
 refine .region ?_
 refine .q (op_assign rfl) trivial rfl ?_
 refine .nil ?_
 show Ev _ _ _ _ _
 refine .seq ?_
 refine .seq ?_
 refine .region ?_
 refine .q (op_move rfl) trivial rfl ?_
 refine .q (op_cmpI rfl rfl rfl) trivial rfl ?_
 refine .q (op_move rfl) trivial rfl ?_
 refine .know (b' := true) (rfl) ?_
 refine .q (op_fieldAddr (m := 0) Tryd.underlying28 rfl (by kernel_rfl) rfl) ⟨_, rfl, rfl⟩ rfl ?_
 refine .as (.ptr 1032 0) rfl ?_
 refine .q (op_load Tryd.underlying3 rfl rfl rfl rfl (by show 0 < 5; decide)) ⟨_, rfl, rfl⟩ rfl ?_
 refine .q (op_cmpI rfl rfl rfl) ⟨_, rfl, rfl⟩ rfl ?_
 refine .q (op_pick_true rfl rfl rfl) trivial rfl ?_
 refine .nil ?_
 show Ev _ _ _ _ _
 refine .cond_true rfl (bne_of hk) ?_
 refine .region ?_
 refine .q (op_move rfl) trivial rfl ?_
 refine .q (op_fieldAddr (m := 0) Tryd.underlying28 rfl (by kernel_rfl) rfl) trivial rfl ?_
 refine .as (.ptr 1032 1) rfl ?_
 refine .q (op_load Tryd.underlying3 rfl rfl rfl rfl (by show 1 < 5; decide)) trivial rfl ?_
 refine .as (.i64 0) (congrArg AV.i64 hw) ?_
 refine .q (ap_idx0 Tryd.underlying26 inf9.sz rfl rfl (show (0 : Int) = ((0 : Nat) : Int) from rfl) (by decide)) trivial rfl ?_
 refine .q (op_load Tryd.underlying9 rfl rfl rfl rfl (by first | omega | (simp only [AV.len]; omega) | (simp only [AV.len, List.length_set]; omega) | assumption | (simp [AV.len]; done))) trivial rfl ?_
 refine .as (.str (live x)) rfl ?_
 refine .q (op_assign rfl) trivial rfl ?_
 refine .nil ?_
 show Ev _ _ _ _ _
 refine .seq ?_
 refine .region ?_
 refine .q (op_fieldAddr (m := 0) Tryd.underlying28 rfl (by kernel_rfl) rfl) trivial rfl ?_
 refine .as (.ptr 1032 2) rfl ?_
 refine .q (op_load Tryd.underlying3 rfl rfl rfl rfl (by show 2 < 5; decide)) trivial rfl ?_
 refine .q (op_move rfl) trivial rfl ?_
 refine .q (op_len_str Tryd.underlying9 rfl) trivial rfl ?_
 refine .q (op_minI rfl rfl) trivial rfl ?_
 refine .q (op_maxI rfl rfl) trivial rfl ?_
 refine .as (.i64 (K : Int)) (congrArg AV.i64 hK) ?_
 refine .q (op_assign rfl) trivial rfl ?_
 refine .nil ?_
 show Ev _ _ _ _ _
 refine .seq ?_
 refine Ev.cutp (ι := NSt R (30 * (i + 1))) (fun q => ⟨[(0, .i64 R), (1, .sl 450 o l.length 5), (5, .ptr 1000 0), (6, .sl 1024 0 2 1), (7, .bool (!q.d)), (8, .i64 ((i : Nat) : Int))], [(1000, some ⟨rowW R q.d 1008 1016 q.x q.y, 51, true⟩), (1008, bK true q.x), (1016, bK true q.y), (1024, some ⟨.aggS [live q.x, live q.y], 9, true⟩), (0, some ⟨.agg [.err 79 (1) (offE eo (1))], errT, false⟩), (1, some ⟨.agg [.err 79 (2) (offE eo (2))], errT, false⟩), (2, some ⟨.agg [.err 79 (3) (offE eo (3))], errT, false⟩), (3, some ⟨.agg [.err 79 (4) (offE eo (4))], errT, false⟩), (4, some ⟨.agg [.err 79 (5) (offE eo (5))], errT, false⟩), (5, some ⟨.agg [.err 79 (6) (offE eo (6))], errT, false⟩), (6, some ⟨.agg [.err 79 (7) (offE eo (7))], errT, false⟩), (7, some ⟨.agg [.err 79 (8) (offE eo (8))], errT, false⟩), (8, some ⟨.agg [.err 79 (9) (offE eo (9))], errT, false⟩), (9, some ⟨.agg [.err 79 (10) (offE eo (10))], errT, false⟩), (10, some ⟨.agg [.err 79 (11) (offE eo (11))], errT, false⟩), (11, some ⟨.agg [.err 79 (12) (offE eo (12))], errT, false⟩), (12, some ⟨.agg [.err 79 (13) (offE eo (13))], errT, false⟩), (13, some ⟨.agg [.err 79 (14) (offE eo (14))], errT, false⟩), (14, some ⟨.agg [.err 79 (15) (offE eo (15))], errT, false⟩), (15, some ⟨.agg [.err 79 (16) (offE eo (16))], errT, false⟩), (16, some ⟨.agg [.err 79 (17) (offE eo (17))], errT, false⟩), (17, some ⟨.agg [.err 79 (18) (offE eo (18))], errT, false⟩), (18, some ⟨.agg [.err 79 (19) (offE eo (19))], errT, false⟩), (19, some ⟨.agg [.err 79 (20) (offE eo (20))], errT, false⟩), (401, some ⟨.agg [], errT, false⟩), (402, some ⟨.agg [], errT, false⟩), (403, some ⟨.agg [], errT, false⟩), (404, some ⟨.agg [], errT, false⟩), (405, some ⟨.agg [], errT, false⟩), (406, some ⟨.agg [], errT, false⟩), (407, some ⟨.agg [], errT, false⟩), (408, some ⟨.agg [], errT, false⟩), (409, some ⟨.agg [], errT, false⟩), (410, some ⟨.agg [], errT, false⟩), (411, some ⟨.agg [], errT, false⟩), (412, some ⟨.agg [], errT, false⟩), (413, some ⟨.agg [], errT, false⟩), (414, some ⟨.agg [], errT, false⟩), (415, some ⟨.agg [], errT, false⟩), (416, some ⟨.agg [], errT, false⟩), (417, some ⟨.agg [], errT, false⟩), (418, some ⟨.agg [], errT, false⟩), (419, some ⟨.agg [], errT, false⟩), (420, some ⟨.agg [], errT, false⟩), (450, some ⟨.agg (offC o (rowsC actN l)), anyT, false⟩)], 1048⟩) ?_ ?_
 ·refine .seq ?_
  refine .region ?_
  refine .q (op_fieldAddr (m := 0) Tryd.underlying28 rfl (by kernel_rfl) rfl) trivial rfl ?_
  refine .as (.ptr 1032 0) rfl ?_
  refine .q (op_load Tryd.underlying3 rfl rfl rfl rfl (by show 0 < 5; decide)) trivial rfl ?_
  refine .nil ?_
  show Ev _ _ _ _ _
  refine .block ?_
  refine .seq ?_
  refine .region ?_
  refine dite ((l.getD i default).k = 0) (fun k0 => ?_) (fun k0 => dite ((l.getD i default).k = 1) (fun k1 => ?_) (fun k1 => dite ((l.getD i default).k = 2) (fun k2 => dite ((l.getD i default).n < 0) (fun hn => ?_) (fun hn => dite (((live x).length : Int) ≤ (l.getD i default).n) (fun hn2 => ?_) (fun hn2 => ?_))) (fun k2 => dite ((l.getD i default).k = 3) (fun k3 => ?_) (fun k3 => ?_))))
  ·refine .q (op_cmpI rfl rfl rfl) trivial rfl ?_
   refine .q (op_assign rfl) trivial rfl ?_
   refine .nil ?_
   show Ev _ _ _ _ _
   refine .cond_true rfl (beq_of' k0) ?_
   refine .seq ?_
   refine .region ?_
   have hJe : ∃ J : Nat, min (((l.getD i default).s.take 30).length : Int) (R - ((live x).length : Int)) = (J : Int) := ⟨(min (((l.getD i default).s.take 30).length : Int) (R - ((live x).length : Int))).toNat, (Int.toNat_of_nonneg (by omega)).symm⟩
   obtain ⟨J, hJ⟩ := hJe
   have hJ2 : J ≤ ((l.getD i default).s.take 30).length := by omega
   have hJ3 : ((l.getD i default).s.take 30).length ≤ 30 := by rw [List.length_take]; omega
   have hJ4 : (((l.getD i default).s.take 30).take J).length = J := by rw [List.length_take]; omega
   refine .q (op_move rfl) trivial rfl ?_
   refine .q (op_fieldAddr (m := 0) Tryd.underlying28 rfl (by kernel_rfl) rfl) trivial rfl ?_
   refine .as (.ptr 1032 1) rfl ?_
   refine .q (op_load Tryd.underlying3 rfl rfl rfl rfl (by show 1 < 5; decide)) trivial rfl ?_
   refine .as (.i64 0) (congrArg AV.i64 hw) ?_
   refine .q (op_move rfl) trivial rfl ?_
   refine .ax (op_callX (US := fun (u : PutI x (((l.getD i default).s.take 30).take J) (30 * i + ((l.getD i default).s.take 30).length)) => match u with  | .inl q => [(1000, some ⟨rowW R false 1008 1016 q.1 y, 51, true⟩), (1008, bK true q.1), (1048, none)] | .inr q => [(1000, some ⟨rowW R false 1048 1016 q.1 y, 51, true⟩), (1048, bK true q.1), (1008, none)]) [(500, 1000), (501, 1008), (502, 1016)] [(1048, 1104)] (put0X R hR0 hR1 x y (30 * i) hx ((l.getD i default).s.take 30) (by omega) J hJ (((l.getD i default).s.take 30).take J) rfl) Tryd.func9 (by kernel_rfl) rfl rfl (fun u => by cases u <;> rfl) ⟨⟨_, rfl, rfl, rfl⟩, ⟨_, rfl, rfl, rfl⟩, ⟨_, rfl, rfl, rfl⟩, trivial⟩ (⟨⟨_, _, rfl, rfl, rowW_ren _ _ _ _ _ _ _, rfl, id, rowW_nmC _ _ _ _ _ _ _ rfl rfl⟩, HLeC.oc (bK_leC rfl rfl id) trivial⟩) (fun u => match u with | .inl q => ⟨⟨500, _, rfl, rowW_uo rfl rfl, rfl, rowW_nmF _ _ _ _ _ _ _ _ rfl rfl, .inr ⟨rfl, _, rfl, rfl⟩⟩, UOk.oc (bK_uo (c := 501) (x := x) rfl rfl q.2.2.2 rfl) trivial⟩ | .inr q => ⟨⟨500, _, rfl, rowW_uo rfl rfl, rfl, rowW_nmF _ _ _ _ _ _ _ _ rfl rfl, .inr ⟨rfl, _, rfl, rfl⟩⟩, UOk.oc (bK_un (c := 1104) rfl rfl) trivial⟩) (fun u => by cases u <;> exact ⟨(fun _ => ⟨1000, _, rfl, rfl⟩), Cov.oc ⟨1008, _, rfl, rfl⟩ trivial⟩) (fun _ => rfl)) trivial rfl (fun u => ?_)
   rcases u with u | u
   ·show EvL _ _ _ _ _ _
    refine .q (op_move rfl) trivial rfl ?_
    refine .q (op_extract rfl rfl) trivial rfl ?_
    refine .q (op_extract rfl rfl) trivial rfl ?_
    refine .q (op_assign rfl) trivial rfl ?_
    refine .q (op_assign rfl) trivial rfl ?_
    refine .asR (.err 79 (0) (offE eo (0))) (nil_errN _ _) ?_
    refine .nil ?_
    show Ev _ _ _ _ _
    refine .seq ?_
    refine .region ?_
    refine .q (op_assign rfl) trivial rfl ?_
    refine .nil ?_
    show Ev _ _ _ _ _
    refine .seq ?_
    refine .seq ?_
    refine .region ?_
    refine .q (op_move rfl) trivial rfl ?_
    refine .q (op_cmpI rfl rfl rfl) trivial rfl ?_
    refine .nil ?_
    show Ev _ _ _ _ _
    refine .cond_true rfl (rfl) ?_
    refine .seq ?_
    refine .region ?_
    refine .q (op_move rfl) trivial rfl ?_
    refine .q (op_len_str Tryd.underlying9 rfl) trivial rfl ?_
    refine .q (op_move rfl) trivial rfl ?_
    refine .q (op_move rfl) trivial rfl ?_
    refine .q (op_len_str Tryd.underlying9 rfl) trivial rfl ?_
    refine .q (op_subI rfl rfl (show InI (R - ((live x).length : Int)) from ⟨by omega, by omega⟩)) trivial rfl ?_
    refine .q (op_minI rfl rfl) trivial rfl ?_
    refine .as (.i64 (J : Int)) (congrArg AV.i64 hJ) ?_
    refine .q (op_assign rfl) trivial rfl ?_
    refine .nil ?_
    show Ev _ _ _ _ _
    refine .drawn [[], [], [1], [0, 1, 2], [0, 1, 2, 3], [], [], [5, 6], [0, 1, 2, 3, 4, 5, 6, 7], [0, 1, 2, 3, 4, 5, 6, 7, 8], [0, 1, 2, 3, 4, 5, 6, 7, 8, 9]] [2, 4, 10] [10] (by kernel_rfl) (by kernel_rfl) rfl ?_
    show DK _ [0, 1, 2, 3, 4, 5, 6, 7, 8, 9, 10] _ _ _
    refine .q rfl (op_move rfl) trivial ?_
    refine .q rfl (op_fieldAddr (m := 0) Tryd.underlying28 rfl (by kernel_rfl) rfl) trivial ?_
    refine .as (.ptr 1032 1) rfl ?_
    refine .q rfl (op_load Tryd.underlying3 rfl rfl rfl rfl (by show 1 < 5; decide)) trivial ?_
    refine .as (.i64 0) (congrArg AV.i64 hw) ?_
    refine .q rfl (ap_idx0 Tryd.underlying26 inf9.sz rfl rfl (show (0 : Int) = ((0 : Nat) : Int) from rfl) (by decide)) trivial ?_
    refine .q rfl (op_load Tryd.underlying9 rfl rfl rfl rfl (by first | omega | (simp only [AV.len]; omega) | (simp only [AV.len, List.length_set]; omega) | assumption | (simp [AV.len]; done))) trivial ?_
    refine .as (.str (live x)) rfl ?_
    refine .q rfl (op_move rfl) trivial ?_
    refine .q rfl (op_move rfl) trivial ?_
    refine .q rfl (ap_slice_str_hi Tryd.underlying9 rfl (bnd_some rfl rfl) (by omega)) trivial ?_
    refine .q rfl (op_addS rfl rfl (by omega)) trivial ?_
    refine .q rfl (ap_idx0 Tryd.underlying26 inf9.sz rfl rfl (show (0 : Int) = ((0 : Nat) : Int) from rfl) (by decide)) trivial ?_
    refine .w rfl (op_store inf9.sz rfl rfl rfl rfl rfl (by first | omega | (simp only [AV.len]; omega) | (simp only [AV.len, List.length_set]; omega) | assumption | (simp [AV.len]; done))) trivial rfl rfl ?_
    refine .nil ?_
    show Ev _ _ _ _ _
    refine .seq ?_
    refine .region ?_
    refine .q (op_move rfl) trivial rfl ?_
    refine .q (op_move rfl) trivial rfl ?_
    refine .q (op_cmpI rfl rfl rfl) trivial rfl ?_
    refine .q (op_move rfl) trivial rfl ?_
    refine .know (b' := false) (bne_same rfl) ?_
    refine .q (op_move rfl) ⟨_, rfl, rfl⟩ rfl ?_
    refine .q (op_call (U := []) [] [] (code_0 eo hd) Tryd.func10 (by kernel_rfl) rfl rfl rfl (⟨⟨_, rfl, rfl, rfl⟩, trivial⟩) (⟨q8, q8, q8, q8, q8, q8, q8, q8, q8, q8, q8, q8, q8, q8, q8, q8, q8, q8, q8, q8, q8, q8, q8, q8, q8, q8, q8, q8, q8, q8, q8, q8, q8, q8, q8, q8, q8, q8, q8, q8, trivial⟩) (trivial) (⟨c8, c8, c8, c8, c8, c8, c8, c8, c8, c8, c8, c8, c8, c8, c8, c8, c8, c8, c8, c8, c8, c8, c8, c8, c8, c8, c8, c8, c8, c8, c8, c8, c8, c8, c8, c8, c8, c8, c8, c8, trivial⟩) rfl) ⟨_, rfl, rfl⟩ rfl ?_
    refine .q (op_move rfl) ⟨_, rfl, rfl⟩ rfl ?_
    refine .q (op_cmpI rfl rfl rfl) ⟨_, rfl, rfl⟩ rfl ?_
    refine .q (op_pick_false rfl rfl rfl) trivial rfl ?_
    refine .nil ?_
    show Ev _ _ _ _ _
    refine .cond_false rfl (rfl) ?_
    refine .skip ?_
    exact ⟨⟨false, u.1, y, .inr rfl, (u.2.2.1.mono (by omega)), (hy.mono (by omega)), by rw [u.2.1, List.length_append]; omega, ly⟩, StLe.mk [(1000, 1000), (1008, 1008), (1016, 1016), (1024, 1024)] rfl rfl ⟨⟨_, rfl, by first | rfl | (simp only [AV.ren]; congr 1; omega), rfl⟩, ⟨_, rfl, by first | rfl | (simp only [AV.ren]; congr 1; omega), rfl⟩, ⟨_, rfl, by first | rfl | (simp only [AV.ren]; congr 1; omega), rfl⟩, ⟨_, rfl, by first | rfl | (simp only [AV.ren]; congr 1; omega), rfl⟩, ⟨_, rfl, by first | rfl | (simp only [AV.ren]; congr 1; omega), rfl⟩, ⟨_, rfl, by first | rfl | (simp only [AV.ren]; congr 1; omega), rfl⟩, trivial⟩ ⟨⟨_, _, rfl, rfl, rowW_ren _ _ _ _ _ _ _, rfl, id, rowW_nm _ _ _ _ _ _ _ rfl rfl⟩, HLe.oc (bK_le rfl rfl) (HLe.oc (bK_le rfl rfl) ⟨⟨_, _, rfl, rfl, congrArg (fun z => AV.aggS [z, live y]) (u.2.1.symm), rfl, id, rfl⟩, p8, p8, p8, p8, p8, p8, p8, p8, p8, p8, p8, p8, p8, p8, p8, p8, p8, p8, p8, p8, p8, p8, p8, p8, p8, p8, p8, p8, p8, p8, p8, p8, p8, p8, p8, p8, p8, p8, p8, p8, ⟨_, _, rfl, rfl, offC_ren _ o (rowsC_flat actN_flat l), rfl, id, offC_nm _ o (rowsC_flat actN_flat l)⟩, trivial⟩)⟩⟩
   ·show EvL _ _ _ _ _ _
    refine .q (op_move rfl) trivial rfl ?_
    refine .q (op_extract rfl rfl) trivial rfl ?_
    refine .q (op_extract rfl rfl) trivial rfl ?_
    refine .q (op_assign rfl) trivial rfl ?_
    refine .q (op_assign rfl) trivial rfl ?_
    refine .asR (.err 79 (0) (offE eo (0))) (nil_errN _ _) ?_
    refine .nil ?_
    show Ev _ _ _ _ _
    refine .seq ?_
    refine .region ?_
    refine .q (op_assign rfl) trivial rfl ?_
    refine .nil ?_
    show Ev _ _ _ _ _
    refine .seq ?_
    refine .seq ?_
    refine .region ?_
    refine .q (op_move rfl) trivial rfl ?_
    refine .q (op_cmpI rfl rfl rfl) trivial rfl ?_
    refine .nil ?_
    show Ev _ _ _ _ _
    refine .cond_true rfl (rfl) ?_
    refine .seq ?_
    refine .region ?_
    refine .q (op_move rfl) trivial rfl ?_
    refine .q (op_len_str Tryd.underlying9 rfl) trivial rfl ?_
    refine .q (op_move rfl) trivial rfl ?_
    refine .q (op_move rfl) trivial rfl ?_
    refine .q (op_len_str Tryd.underlying9 rfl) trivial rfl ?_
    refine .q (op_subI rfl rfl (show InI (R - ((live x).length : Int)) from ⟨by omega, by omega⟩)) trivial rfl ?_
    refine .q (op_minI rfl rfl) trivial rfl ?_
    refine .as (.i64 (J : Int)) (congrArg AV.i64 hJ) ?_
    refine .q (op_assign rfl) trivial rfl ?_
    refine .nil ?_
    show Ev _ _ _ _ _
    refine .drawn [[], [], [1], [0, 1, 2], [0, 1, 2, 3], [], [], [5, 6], [0, 1, 2, 3, 4, 5, 6, 7], [0, 1, 2, 3, 4, 5, 6, 7, 8], [0, 1, 2, 3, 4, 5, 6, 7, 8, 9]] [2, 4, 10] [10] (by kernel_rfl) (by kernel_rfl) rfl ?_
    show DK _ [0, 1, 2, 3, 4, 5, 6, 7, 8, 9, 10] _ _ _
    refine .q rfl (op_move rfl) trivial ?_
    refine .q rfl (op_fieldAddr (m := 0) Tryd.underlying28 rfl (by kernel_rfl) rfl) trivial ?_
    refine .as (.ptr 1032 1) rfl ?_
    refine .q rfl (op_load Tryd.underlying3 rfl rfl rfl rfl (by show 1 < 5; decide)) trivial ?_
    refine .as (.i64 0) (congrArg AV.i64 hw) ?_
    refine .q rfl (ap_idx0 Tryd.underlying26 inf9.sz rfl rfl (show (0 : Int) = ((0 : Nat) : Int) from rfl) (by decide)) trivial ?_
    refine .q rfl (op_load Tryd.underlying9 rfl rfl rfl rfl (by first | omega | (simp only [AV.len]; omega) | (simp only [AV.len, List.length_set]; omega) | assumption | (simp [AV.len]; done))) trivial ?_
    refine .as (.str (live x)) rfl ?_
    refine .q rfl (op_move rfl) trivial ?_
    refine .q rfl (op_move rfl) trivial ?_
    refine .q rfl (ap_slice_str_hi Tryd.underlying9 rfl (bnd_some rfl rfl) (by omega)) trivial ?_
    refine .q rfl (op_addS rfl rfl (by omega)) trivial ?_
    refine .q rfl (ap_idx0 Tryd.underlying26 inf9.sz rfl rfl (show (0 : Int) = ((0 : Nat) : Int) from rfl) (by decide)) trivial ?_
    refine .w rfl (op_store inf9.sz rfl rfl rfl rfl rfl (by first | omega | (simp only [AV.len]; omega) | (simp only [AV.len, List.length_set]; omega) | assumption | (simp [AV.len]; done))) trivial rfl rfl ?_
    refine .nil ?_
    show Ev _ _ _ _ _
    refine .seq ?_
    refine .region ?_
    refine .q (op_move rfl) trivial rfl ?_
    refine .q (op_move rfl) trivial rfl ?_
    refine .q (op_cmpI rfl rfl rfl) trivial rfl ?_
    refine .q (op_move rfl) trivial rfl ?_
    refine .know (b' := false) (bne_same rfl) ?_
    refine .q (op_move rfl) ⟨_, rfl, rfl⟩ rfl ?_
    refine .q (op_call (U := []) [] [] (code_0 eo hd) Tryd.func10 (by kernel_rfl) rfl rfl rfl (⟨⟨_, rfl, rfl, rfl⟩, trivial⟩) (⟨q8, q8, q8, q8, q8, q8, q8, q8, q8, q8, q8, q8, q8, q8, q8, q8, q8, q8, q8, q8, q8, q8, q8, q8, q8, q8, q8, q8, q8, q8, q8, q8, q8, q8, q8, q8, q8, q8, q8, q8, trivial⟩) (trivial) (⟨c8, c8, c8, c8, c8, c8, c8, c8, c8, c8, c8, c8, c8, c8, c8, c8, c8, c8, c8, c8, c8, c8, c8, c8, c8, c8, c8, c8, c8, c8, c8, c8, c8, c8, c8, c8, c8, c8, c8, c8, trivial⟩) rfl) ⟨_, rfl, rfl⟩ rfl ?_
    refine .q (op_move rfl) ⟨_, rfl, rfl⟩ rfl ?_
    refine .q (op_cmpI rfl rfl rfl) ⟨_, rfl, rfl⟩ rfl ?_
    refine .q (op_pick_false rfl rfl rfl) trivial rfl ?_
    refine .nil ?_
    show Ev _ _ _ _ _
    refine .cond_false rfl (rfl) ?_
    refine .skip ?_
    exact ⟨⟨false, u.1, y, .inr rfl, (u.2.2.mono (by omega)), (hy.mono (by omega)), by rw [u.2.1, List.length_append]; omega, ly⟩, StLe.mk [(1000, 1000), (1008, 1048), (1016, 1016), (1024, 1024)] rfl rfl ⟨⟨_, rfl, by first | rfl | (simp only [AV.ren]; congr 1; omega), rfl⟩, ⟨_, rfl, by first | rfl | (simp only [AV.ren]; congr 1; omega), rfl⟩, ⟨_, rfl, by first | rfl | (simp only [AV.ren]; congr 1; omega), rfl⟩, ⟨_, rfl, by first | rfl | (simp only [AV.ren]; congr 1; omega), rfl⟩, ⟨_, rfl, by first | rfl | (simp only [AV.ren]; congr 1; omega), rfl⟩, ⟨_, rfl, by first | rfl | (simp only [AV.ren]; congr 1; omega), rfl⟩, trivial⟩ ⟨⟨_, _, rfl, rfl, rowW_ren _ _ _ _ _ _ _, rfl, id, rowW_nm _ _ _ _ _ _ _ rfl rfl⟩, HLe.oc (bK_le rfl rfl) (HLe.oc (bK_le rfl rfl) ⟨⟨_, _, rfl, rfl, congrArg (fun z => AV.aggS [z, live y]) (u.2.1.symm), rfl, id, rfl⟩, p8, p8, p8, p8, p8, p8, p8, p8, p8, p8, p8, p8, p8, p8, p8, p8, p8, p8, p8, p8, p8, p8, p8, p8, p8, p8, p8, p8, p8, p8, p8, p8, p8, p8, p8, p8, p8, p8, p8, p8, ⟨_, _, rfl, rfl, offC_ren _ o (rowsC_flat actN_flat l), rfl, id, offC_nm _ o (rowsC_flat actN_flat l)⟩, trivial⟩)⟩⟩
  ·refine .q (op_cmpI rfl rfl rfl) trivial rfl ?_
   refine .q (op_assign rfl) trivial rfl ?_
   refine .nil ?_
   show Ev _ _ _ _ _
   refine .cond_false rfl (beq_no k0) ?_
   refine .seq ?_
   refine .region ?_
   refine .q (op_cmpI rfl rfl rfl) trivial rfl ?_
   refine .q (op_assign rfl) trivial rfl ?_
   refine .nil ?_
   show Ev _ _ _ _ _
   refine .cond_true rfl (beq_of' k1) ?_
   refine .seq ?_
   refine .region ?_
   refine .q (op_move rfl) trivial rfl ?_
   refine .q (op_fieldAddr (m := 0) Tryd.underlying28 rfl (by kernel_rfl) rfl) trivial rfl ?_
   refine .as (.ptr 1032 1) rfl ?_
   refine .q (op_load Tryd.underlying3 rfl rfl rfl rfl (by show 1 < 5; decide)) trivial rfl ?_
   refine .as (.i64 0) (congrArg AV.i64 hw) ?_
   refine .q (op_fieldAddr (m := 0) Tryd.underlying28 rfl (by kernel_rfl) rfl) trivial rfl ?_
   refine .as (.ptr 1032 2) rfl ?_
   refine .q (op_load Tryd.underlying3 rfl rfl rfl rfl (by show 2 < 5; decide)) trivial rfl ?_
   refine .a (op_call (U := [(1000, some ⟨rowW R false 1008 1016 (takeB K x) y, 51, true⟩)]) [(500, 1000), (501, 1008), (502, 1016)] [] (take0O R x y (30 * i) (by omega) hx (l.getD i default).n K (by omega)) Tryd.func11 (by kernel_rfl) rfl rfl rfl (⟨⟨_, rfl, rfl, rfl⟩, ⟨_, rfl, rfl, rfl⟩, ⟨_, rfl, rfl, rfl⟩, trivial⟩) (⟨⟨_, _, rfl, rfl, rowW_ren _ _ _ _ _ _ _, rfl, id, rowW_nmC _ _ _ _ _ _ _ rfl rfl⟩, HLeC.oc (bK_leC rfl rfl (fun _ => rfl)) trivial⟩) (⟨⟨500, _, rfl, rowW_uo rfl rfl, rfl, rowW_nmF _ _ _ _ _ _ _ _ rfl rfl, .inr ⟨rfl, _, rfl, rfl⟩⟩, trivial⟩) (⟨(fun _ => ⟨1000, _, rfl, rfl⟩), Cov.ob trivial⟩) rfl) trivial rfl ?_
   refine .q (op_move rfl) trivial rfl ?_
   refine .q (op_extract rfl rfl) trivial rfl ?_
   refine .q (op_extract rfl rfl) trivial rfl ?_
   refine .q (op_assign rfl) trivial rfl ?_
   refine .q (op_assign rfl) trivial rfl ?_
   refine .asR (.err 79 (0) (offE eo (0))) (nil_errN _ _) ?_
   refine .nil ?_
   show Ev _ _ _ _ _
   refine .seq ?_
   refine .seq ?_
   refine .region ?_
   refine .q (op_move rfl) trivial rfl ?_
   refine .q (op_cmpI rfl rfl rfl) trivial rfl ?_
   refine .nil ?_
   show Ev _ _ _ _ _
   refine .cond_true rfl (rfl) ?_
   refine .drawn [[], [], [1], [], [], [3, 4], [0, 1, 2, 3, 4, 5], [0, 1, 2, 3, 4, 5, 6]] [2, 7] [7] (by kernel_rfl) (by kernel_rfl) rfl ?_
   show DK _ [0, 1, 2, 3, 4, 5, 6, 7] _ _ _
   refine .q rfl (op_move rfl) trivial ?_
   refine .q rfl (op_fieldAddr (m := 0) Tryd.underlying28 rfl (by kernel_rfl) rfl) trivial ?_
   refine .as (.ptr 1032 1) rfl ?_
   refine .q rfl (op_load Tryd.underlying3 rfl rfl rfl rfl (by show 1 < 5; decide)) trivial ?_
   refine .as (.i64 0) (congrArg AV.i64 hw) ?_
   refine .q rfl (op_move rfl) trivial ?_
   refine .q rfl (op_move rfl) trivial ?_
   refine .q rfl (ap_slice_str_lo Tryd.underlying9 rfl (bnd_some rfl rfl) (by omega)) trivial ?_
   refine .q rfl (ap_idx0 Tryd.underlying26 inf9.sz rfl rfl (show (0 : Int) = ((0 : Nat) : Int) from rfl) (by decide)) trivial ?_
   refine .w rfl (op_store inf9.sz rfl rfl rfl rfl rfl (by first | omega | (simp only [AV.len]; omega) | (simp only [AV.len, List.length_set]; omega) | assumption | (simp [AV.len]; done))) trivial rfl rfl ?_
   refine .nil ?_
   show Ev _ _ _ _ _
   refine .seq ?_
   refine .region ?_
   refine .q (op_move rfl) trivial rfl ?_
   refine .q (op_move rfl) trivial rfl ?_
   refine .q (op_move rfl) trivial rfl ?_
   refine .q (ap_slice_str_hi Tryd.underlying9 rfl (bnd_some rfl rfl) (by omega)) trivial rfl ?_
   refine .q (op_eqS rfl rfl rfl) trivial rfl ?_
   refine .q (op_move rfl) trivial rfl ?_
   refine .know (b' := false) (bne_sameS rfl) ?_
   refine .q (op_move rfl) ⟨_, rfl, rfl⟩ rfl ?_
   refine .q (op_call (U := []) [] [] (code_0 eo hd) Tryd.func10 (by kernel_rfl) rfl rfl rfl (⟨⟨_, rfl, rfl, rfl⟩, trivial⟩) (⟨q8, q8, q8, q8, q8, q8, q8, q8, q8, q8, q8, q8, q8, q8, q8, q8, q8, q8, q8, q8, q8, q8, q8, q8, q8, q8, q8, q8, q8, q8, q8, q8, q8, q8, q8, q8, q8, q8, q8, q8, trivial⟩) (trivial) (⟨c8, c8, c8, c8, c8, c8, c8, c8, c8, c8, c8, c8, c8, c8, c8, c8, c8, c8, c8, c8, c8, c8, c8, c8, c8, c8, c8, c8, c8, c8, c8, c8, c8, c8, c8, c8, c8, c8, c8, c8, trivial⟩) rfl) ⟨_, rfl, rfl⟩ rfl ?_
   refine .q (op_move rfl) ⟨_, rfl, rfl⟩ rfl ?_
   refine .q (op_cmpI rfl rfl rfl) ⟨_, rfl, rfl⟩ rfl ?_
   refine .q (op_pick_false rfl rfl rfl) trivial rfl ?_
   refine .nil ?_
   show Ev _ _ _ _ _
   refine .cond_false rfl (rfl) ?_
   refine .skip ?_
   exact ⟨⟨false, takeB K x, y, .inr rfl, (takeB_ok (hx.mono (by omega)) (by omega)), (hy.mono (by omega)), by rw [live_takeB, List.length_drop]; omega, ly⟩, StLe.mk [(1000, 1000), (1008, 1008), (1016, 1016), (1024, 1024)] rfl rfl ⟨⟨_, rfl, by first | rfl | (simp only [AV.ren]; congr 1; omega), rfl⟩, ⟨_, rfl, by first | rfl | (simp only [AV.ren]; congr 1; omega), rfl⟩, ⟨_, rfl, by first | rfl | (simp only [AV.ren]; congr 1; omega), rfl⟩, ⟨_, rfl, by first | rfl | (simp only [AV.ren]; congr 1; omega), rfl⟩, ⟨_, rfl, by first | rfl | (simp only [AV.ren]; congr 1; omega), rfl⟩, ⟨_, rfl, by first | rfl | (simp only [AV.ren]; congr 1; omega), rfl⟩, trivial⟩ ⟨⟨_, _, rfl, rfl, rowW_ren _ _ _ _ _ _ _, rfl, id, rowW_nm _ _ _ _ _ _ _ rfl rfl⟩, HLe.oc (bK_le rfl (bK_takeB _ _ _).symm) (HLe.oc (bK_le rfl rfl) ⟨⟨_, _, rfl, rfl, congrArg (fun z => AV.aggS [z, live y]) ((live_takeB K x).symm), rfl, id, rfl⟩, p8, p8, p8, p8, p8, p8, p8, p8, p8, p8, p8, p8, p8, p8, p8, p8, p8, p8, p8, p8, p8, p8, p8, p8, p8, p8, p8, p8, p8, p8, p8, p8, p8, p8, p8, p8, p8, p8, p8, p8, ⟨_, _, rfl, rfl, offC_ren _ o (rowsC_flat actN_flat l), rfl, id, offC_nm _ o (rowsC_flat actN_flat l)⟩, trivial⟩)⟩⟩
  ·refine .q (op_cmpI rfl rfl rfl) trivial rfl ?_
   refine .q (op_assign rfl) trivial rfl ?_
   refine .nil ?_
   show Ev _ _ _ _ _
   refine .cond_false rfl (beq_no k0) ?_
   refine .seq ?_
   refine .region ?_
   refine .q (op_cmpI rfl rfl rfl) trivial rfl ?_
   refine .q (op_assign rfl) trivial rfl ?_
   refine .nil ?_
   show Ev _ _ _ _ _
   refine .cond_false rfl (beq_no k1) ?_
   refine .seq ?_
   refine .region ?_
   refine .q (op_cmpI rfl rfl rfl) trivial rfl ?_
   refine .q (op_assign rfl) trivial rfl ?_
   refine .nil ?_
   show Ev _ _ _ _ _
   refine .cond_true rfl (beq_of' k2) ?_
   refine .seq ?_
   refine .region ?_
   refine .q (op_move rfl) trivial rfl ?_
   refine .q (op_fieldAddr (m := 0) Tryd.underlying28 rfl (by kernel_rfl) rfl) trivial rfl ?_
   refine .as (.ptr 1032 1) rfl ?_
   refine .q (op_load Tryd.underlying3 rfl rfl rfl rfl (by show 1 < 5; decide)) trivial rfl ?_
   refine .as (.i64 0) (congrArg AV.i64 hw) ?_
   refine .q (op_fieldAddr (m := 0) Tryd.underlying28 rfl (by kernel_rfl) rfl) trivial rfl ?_
   refine .as (.ptr 1032 2) rfl ?_
   refine .q (op_load Tryd.underlying3 rfl rfl rfl rfl (by show 2 < 5; decide)) trivial rfl ?_
   refine .q (op_fieldAddr (m := 0) Tryd.underlying28 rfl (by kernel_rfl) rfl) trivial rfl ?_
   refine .as (.ptr 1032 4) rfl ?_
   refine .q (op_load Tryd.underlying5 rfl rfl rfl rfl (by show 4 < 5; decide)) trivial rfl ?_
   refine .q (op_call (U := []) [(500, 1000), (501, 1008), (502, 1016)] [] (bendn0O R x y (30 * i) (by omega) hx (l.getD i default).n (by omega) (l.getD i default).y eo) Tryd.func12 (by kernel_rfl) rfl rfl rfl (⟨⟨_, rfl, rfl, rfl⟩, ⟨_, rfl, rfl, rfl⟩, ⟨_, rfl, rfl, rfl⟩, ⟨_, rfl, rfl, rfl⟩, trivial⟩) (⟨⟨_, _, rfl, rfl, rowW_ren _ _ _ _ _ _ _, rfl, (fun h => by cases h), rowW_nmC _ _ _ _ _ _ _ rfl rfl⟩, ⟨_, _, rfl, rfl, rfl, rfl, (fun h => by cases h), rfl⟩, trivial⟩) (trivial) (⟨(fun h => by cases h), (fun h => by cases h), trivial⟩) rfl) trivial rfl ?_
   refine .q (op_assign rfl) trivial rfl ?_
   refine .nil ?_
   show Ev _ _ _ _ _
   refine .seq ?_
   refine .seq ?_
   refine .region ?_
   refine .q (op_move rfl) trivial rfl ?_
   refine .q (op_cmpI rfl rfl rfl) trivial rfl ?_
   refine .q (op_move rfl) trivial rfl ?_
   refine .know (b' := true) (rfl) ?_
   refine .q (op_fieldAddr (m := 0) Tryd.underlying28 rfl (by kernel_rfl) rfl) ⟨_, rfl, rfl⟩ rfl ?_
   refine .as (.ptr 1032 2) rfl ?_
   refine .q (op_load Tryd.underlying3 rfl rfl rfl rfl (by show 2 < 5; decide)) ⟨_, rfl, rfl⟩ rfl ?_
   refine .q (op_cmpI rfl rfl rfl) ⟨_, rfl, rfl⟩ rfl ?_
   refine .q (op_move rfl) ⟨_, rfl, rfl⟩ rfl ?_
   refine .know (b' := true) (decide_eq_true hn) ?_
   refine .no ⟨_, rfl, rfl⟩ rfl ?_
   refine .no ⟨_, rfl, rfl⟩ rfl ?_
   refine .no ⟨_, rfl, rfl⟩ rfl ?_
   refine .no ⟨_, rfl, rfl⟩ rfl ?_
   refine .no ⟨_, rfl, rfl⟩ rfl ?_
   refine .q (op_pick_true rfl rfl rfl) ⟨_, rfl, rfl⟩ rfl ?_
   refine .q (op_pick_true rfl rfl rfl) trivial rfl ?_
   refine .nil ?_
   show Ev _ _ _ _ _
   refine .cond_true rfl rfl ?_
   refine .region ?_
   refine .q (op_assign rfl) trivial rfl ?_
   refine .nil ?_
   show Ev _ _ _ _ _
   refine .seq ?_
   refine .seq ?_
   refine .region ?_
   refine .q (op_move rfl) trivial rfl ?_
   refine .q (op_cmpI rfl rfl rfl) trivial rfl ?_
   refine .nil ?_
   show Ev _ _ _ _ _
   refine .cond_false rfl (rfl) ?_
   refine .skip ?_
   show Ev _ _ _ _ _
   refine .seq ?_
   refine .region ?_
   refine .q (op_move rfl) trivial rfl ?_
   refine .q (op_call (U := []) [] [] (code_8 eo hd) Tryd.func10 (by kernel_rfl) rfl rfl rfl (⟨⟨_, rfl, rfl, rfl⟩, trivial⟩) (⟨q8, q8, q8, q8, q8, q8, q8, q8, q8, q8, q8, q8, q8, q8, q8, q8, q8, q8, q8, q8, q8, q8, q8, q8, q8, q8, q8, q8, q8, q8, q8, q8, q8, q8, q8, q8, q8, q8, q8, q8, trivial⟩) (trivial) (⟨c8, c8, c8, c8, c8, c8, c8, c8, c8, c8, c8, c8, c8, c8, c8, c8, c8, c8, c8, c8, c8, c8, c8, c8, c8, c8, c8, c8, c8, c8, c8, c8, c8, c8, c8, c8, c8, c8, c8, c8, trivial⟩) rfl) trivial rfl ?_
   refine .q (op_move rfl) trivial rfl ?_
   refine .q (op_cmpI rfl rfl rfl) trivial rfl ?_
   refine .nil ?_
   show Ev _ _ _ _ _
   refine .cond_false rfl (rfl) ?_
   refine .skip ?_
   exact ⟨⟨false, x, y, hdd, (hx.mono (by omega)), (hy.mono (by omega)), lx, ly⟩, StLe.mk [(1000, 1000), (1008, 1008), (1016, 1016), (1024, 1024)] rfl rfl ⟨⟨_, rfl, by first | rfl | (simp only [AV.ren]; congr 1; omega), rfl⟩, ⟨_, rfl, by first | rfl | (simp only [AV.ren]; congr 1; omega), rfl⟩, ⟨_, rfl, by first | rfl | (simp only [AV.ren]; congr 1; omega), rfl⟩, ⟨_, rfl, by first | rfl | (simp only [AV.ren]; congr 1; omega), rfl⟩, ⟨_, rfl, by first | rfl | (simp only [AV.ren]; congr 1; omega), rfl⟩, ⟨_, rfl, by first | rfl | (simp only [AV.ren]; congr 1; omega), rfl⟩, trivial⟩ ⟨⟨_, _, rfl, rfl, rowW_ren _ _ _ _ _ _ _, rfl, id, rowW_nm _ _ _ _ _ _ _ rfl rfl⟩, HLe.oc (bK_le rfl rfl) (HLe.oc (bK_le rfl rfl) ⟨⟨_, _, rfl, rfl, rfl, rfl, id, rfl⟩, p8, p8, p8, p8, p8, p8, p8, p8, p8, p8, p8, p8, p8, p8, p8, p8, p8, p8, p8, p8, p8, p8, p8, p8, p8, p8, p8, p8, p8, p8, p8, p8, p8, p8, p8, p8, p8, p8, p8, p8, ⟨_, _, rfl, rfl, offC_ren _ o (rowsC_flat actN_flat l), rfl, id, offC_nm _ o (rowsC_flat actN_flat l)⟩, trivial⟩)⟩⟩
  ·refine .q (op_cmpI rfl rfl rfl) trivial rfl ?_
   refine .q (op_assign rfl) trivial rfl ?_
   refine .nil ?_
   show Ev _ _ _ _ _
   refine .cond_false rfl (beq_no k0) ?_
   refine .seq ?_
   refine .region ?_
   refine .q (op_cmpI rfl rfl rfl) trivial rfl ?_
   refine .q (op_assign rfl) trivial rfl ?_
   refine .nil ?_
   show Ev _ _ _ _ _
   refine .cond_false rfl (beq_no k1) ?_
   refine .seq ?_
   refine .region ?_
   refine .q (op_cmpI rfl rfl rfl) trivial rfl ?_
   refine .q (op_assign rfl) trivial rfl ?_
   refine .nil ?_
   show Ev _ _ _ _ _
   refine .cond_true rfl (beq_of' k2) ?_
   refine .seq ?_
   refine .region ?_
   refine .q (op_move rfl) trivial rfl ?_
   refine .q (op_fieldAddr (m := 0) Tryd.underlying28 rfl (by kernel_rfl) rfl) trivial rfl ?_
   refine .as (.ptr 1032 1) rfl ?_
   refine .q (op_load Tryd.underlying3 rfl rfl rfl rfl (by show 1 < 5; decide)) trivial rfl ?_
   refine .as (.i64 0) (congrArg AV.i64 hw) ?_
   refine .q (op_fieldAddr (m := 0) Tryd.underlying28 rfl (by kernel_rfl) rfl) trivial rfl ?_
   refine .as (.ptr 1032 2) rfl ?_
   refine .q (op_load Tryd.underlying3 rfl rfl rfl rfl (by show 2 < 5; decide)) trivial rfl ?_
   refine .q (op_fieldAddr (m := 0) Tryd.underlying28 rfl (by kernel_rfl) rfl) trivial rfl ?_
   refine .as (.ptr 1032 4) rfl ?_
   refine .q (op_load Tryd.underlying5 rfl rfl rfl rfl (by show 4 < 5; decide)) trivial rfl ?_
   refine .q (op_call (U := []) [(500, 1000), (501, 1008), (502, 1016)] [] (bendn0O R x y (30 * i) (by omega) hx (l.getD i default).n (by omega) (l.getD i default).y eo) Tryd.func12 (by kernel_rfl) rfl rfl rfl (⟨⟨_, rfl, rfl, rfl⟩, ⟨_, rfl, rfl, rfl⟩, ⟨_, rfl, rfl, rfl⟩, ⟨_, rfl, rfl, rfl⟩, trivial⟩) (⟨⟨_, _, rfl, rfl, rowW_ren _ _ _ _ _ _ _, rfl, (fun h => by cases h), rowW_nmC _ _ _ _ _ _ _ rfl rfl⟩, ⟨_, _, rfl, rfl, rfl, rfl, (fun h => by cases h), rfl⟩, trivial⟩) (trivial) (⟨(fun h => by cases h), (fun h => by cases h), trivial⟩) rfl) trivial rfl ?_
   refine .q (op_assign rfl) trivial rfl ?_
   refine .nil ?_
   show Ev _ _ _ _ _
   refine .seq ?_
   refine .seq ?_
   refine .region ?_
   refine .q (op_move rfl) trivial rfl ?_
   refine .q (op_cmpI rfl rfl rfl) trivial rfl ?_
   refine .q (op_move rfl) trivial rfl ?_
   refine .know (b' := true) (rfl) ?_
   refine .q (op_fieldAddr (m := 0) Tryd.underlying28 rfl (by kernel_rfl) rfl) ⟨_, rfl, rfl⟩ rfl ?_
   refine .as (.ptr 1032 2) rfl ?_
   refine .q (op_load Tryd.underlying3 rfl rfl rfl rfl (by show 2 < 5; decide)) ⟨_, rfl, rfl⟩ rfl ?_
   refine .q (op_cmpI rfl rfl rfl) ⟨_, rfl, rfl⟩ rfl ?_
   refine .q (op_move rfl) ⟨_, rfl, rfl⟩ rfl ?_
   refine .know (b' := false) (decide_eq_false hn) ?_
   refine .q (op_fieldAddr (m := 0) Tryd.underlying28 rfl (by kernel_rfl) rfl) ⟨_, rfl, rfl⟩ rfl ?_
   refine .as (.ptr 1032 2) rfl ?_
   refine .q (op_load Tryd.underlying3 rfl rfl rfl rfl (by show 2 < 5; decide)) ⟨_, rfl, rfl⟩ rfl ?_
   refine .q (op_move rfl) ⟨_, rfl, rfl⟩ rfl ?_
   refine .q (op_len_str Tryd.underlying9 rfl) ⟨_, rfl, rfl⟩ rfl ?_
   refine .q (op_cmpI rfl rfl rfl) ⟨_, rfl, rfl⟩ rfl ?_
   refine .q (op_pick_false rfl rfl rfl) ⟨_, rfl, rfl⟩ rfl ?_
   refine .q (op_pick_true rfl rfl rfl) trivial rfl ?_
   refine .nil ?_
   show Ev _ _ _ _ _
   refine .cond_true rfl (decide_eq_true hn2) ?_
   refine .region ?_
   refine .q (op_assign rfl) trivial rfl ?_
   refine .nil ?_
   show Ev _ _ _ _ _
   refine .seq ?_
   refine .seq ?_
   refine .region ?_
   refine .q (op_move rfl) trivial rfl ?_
   refine .q (op_cmpI rfl rfl rfl) trivial rfl ?_
   refine .nil ?_
   show Ev _ _ _ _ _
   refine .cond_false rfl (rfl) ?_
   refine .skip ?_
   show Ev _ _ _ _ _
   refine .seq ?_
   refine .region ?_
   refine .q (op_move rfl) trivial rfl ?_
   refine .q (op_call (U := []) [] [] (code_8 eo hd) Tryd.func10 (by kernel_rfl) rfl rfl rfl (⟨⟨_, rfl, rfl, rfl⟩, trivial⟩) (⟨q8, q8, q8, q8, q8, q8, q8, q8, q8, q8, q8, q8, q8, q8, q8, q8, q8, q8, q8, q8, q8, q8, q8, q8, q8, q8, q8, q8, q8, q8, q8, q8, q8, q8, q8, q8, q8, q8, q8, q8, trivial⟩) (trivial) (⟨c8, c8, c8, c8, c8, c8, c8, c8, c8, c8, c8, c8, c8, c8, c8, c8, c8, c8, c8, c8, c8, c8, c8, c8, c8, c8, c8, c8, c8, c8, c8, c8, c8, c8, c8, c8, c8, c8, c8, c8, trivial⟩) rfl) trivial rfl ?_
   refine .q (op_move rfl) trivial rfl ?_
   refine .q (op_cmpI rfl rfl rfl) trivial rfl ?_
   refine .nil ?_
   show Ev _ _ _ _ _
   refine .cond_false rfl (rfl) ?_
   refine .skip ?_
   exact ⟨⟨false, x, y, hdd, (hx.mono (by omega)), (hy.mono (by omega)), lx, ly⟩, StLe.mk [(1000, 1000), (1008, 1008), (1016, 1016), (1024, 1024)] rfl rfl ⟨⟨_, rfl, by first | rfl | (simp only [AV.ren]; congr 1; omega), rfl⟩, ⟨_, rfl, by first | rfl | (simp only [AV.ren]; congr 1; omega), rfl⟩, ⟨_, rfl, by first | rfl | (simp only [AV.ren]; congr 1; omega), rfl⟩, ⟨_, rfl, by first | rfl | (simp only [AV.ren]; congr 1; omega), rfl⟩, ⟨_, rfl, by first | rfl | (simp only [AV.ren]; congr 1; omega), rfl⟩, ⟨_, rfl, by first | rfl | (simp only [AV.ren]; congr 1; omega), rfl⟩, trivial⟩ ⟨⟨_, _, rfl, rfl, rowW_ren _ _ _ _ _ _ _, rfl, id, rowW_nm _ _ _ _ _ _ _ rfl rfl⟩, HLe.oc (bK_le rfl rfl) (HLe.oc (bK_le rfl rfl) ⟨⟨_, _, rfl, rfl, rfl, rfl, id, rfl⟩, p8, p8, p8, p8, p8, p8, p8, p8, p8, p8, p8, p8, p8, p8, p8, p8, p8, p8, p8, p8, p8, p8, p8, p8, p8, p8, p8, p8, p8, p8, p8, p8, p8, p8, p8, p8, p8, p8, p8, p8, ⟨_, _, rfl, rfl, offC_ren _ o (rowsC_flat actN_flat l), rfl, id, offC_nm _ o (rowsC_flat actN_flat l)⟩, trivial⟩)⟩⟩
  ·refine .q (op_cmpI rfl rfl rfl) trivial rfl ?_
   refine .q (op_assign rfl) trivial rfl ?_
   refine .nil ?_
   show Ev _ _ _ _ _
   refine .cond_false rfl (beq_no k0) ?_
   refine .seq ?_
   refine .region ?_
   refine .q (op_cmpI rfl rfl rfl) trivial rfl ?_
   refine .q (op_assign rfl) trivial rfl ?_
   refine .nil ?_
   show Ev _ _ _ _ _
   refine .cond_false rfl (beq_no k1) ?_
   refine .seq ?_
   refine .region ?_
   refine .q (op_cmpI rfl rfl rfl) trivial rfl ?_
   refine .q (op_assign rfl) trivial rfl ?_
   refine .nil ?_
   show Ev _ _ _ _ _
   refine .cond_true rfl (beq_of' k2) ?_
   refine .seq ?_
   refine .region ?_
   have hAe : ∃ A : Nat, (l.getD i default).n = (A : Int) := ⟨(l.getD i default).n.toNat, (Int.toNat_of_nonneg (by omega)).symm⟩
   obtain ⟨A, hA⟩ := hAe
   have hA2 : A < (live x).length := by omega
   refine .q (op_move rfl) trivial rfl ?_
   refine .q (op_fieldAddr (m := 0) Tryd.underlying28 rfl (by kernel_rfl) rfl) trivial rfl ?_
   refine .as (.ptr 1032 1) rfl ?_
   refine .q (op_load Tryd.underlying3 rfl rfl rfl rfl (by show 1 < 5; decide)) trivial rfl ?_
   refine .as (.i64 0) (congrArg AV.i64 hw) ?_
   refine .q (op_fieldAddr (m := 0) Tryd.underlying28 rfl (by kernel_rfl) rfl) trivial rfl ?_
   refine .as (.ptr 1032 2) rfl ?_
   refine .q (op_load Tryd.underlying3 rfl rfl rfl rfl (by show 2 < 5; decide)) trivial rfl ?_
   refine .as (.i64 (A : Int)) (congrArg AV.i64 hA) ?_
   refine .q (op_fieldAddr (m := 0) Tryd.underlying28 rfl (by kernel_rfl) rfl) trivial rfl ?_
   refine .as (.ptr 1032 4) rfl ?_
   refine .q (op_load Tryd.underlying5 rfl rfl rfl rfl (by show 4 < 5; decide)) trivial rfl ?_
   refine .a (op_call (U := [(1008, bK true (bendB A (l.getD i default).y x))]) [(500, 1000), (501, 1008), (502, 1016)] [] (bend0O R x y (30 * i) (by omega) hx A hA2 (l.getD i default).y) Tryd.func12 (by kernel_rfl) rfl rfl rfl (⟨⟨_, rfl, rfl, rfl⟩, ⟨_, rfl, rfl, rfl⟩, ⟨_, rfl, rfl, rfl⟩, ⟨_, rfl, rfl, rfl⟩, trivial⟩) (⟨⟨_, _, rfl, rfl, rowW_ren _ _ _ _ _ _ _, rfl, (fun h => by cases h), rowW_nmC _ _ _ _ _ _ _ rfl rfl⟩, HLeC.oc (bK_leC rfl rfl id) trivial⟩) (UOk.oc (bK_uo (c := 501) (x := x) rfl rfl (fun h => by rw [bendB_some] at h; exact h) rfl) trivial) (⟨(fun h => by cases h), Cov.oc ⟨1008, _, rfl, rfl⟩ trivial⟩) rfl) trivial rfl ?_
   refine .q (op_assign rfl) trivial rfl ?_
   refine .asR (.err 79 (0) (offE eo (0))) (nil_errN _ _) ?_
   refine .nil ?_
   show Ev _ _ _ _ _
   refine .seq ?_
   refine .seq ?_
   refine .region ?_
   refine .q (op_move rfl) trivial rfl ?_
   refine .q (op_cmpI rfl rfl rfl) trivial rfl ?_
   refine .q (op_move rfl) trivial rfl ?_
   refine .know (b' := true) (rfl) ?_
   refine .q (op_fieldAddr (m := 0) Tryd.underlying28 rfl (by kernel_rfl) rfl) ⟨_, rfl, rfl⟩ rfl ?_
   refine .as (.ptr 1032 2) rfl ?_
   refine .q (op_load Tryd.underlying3 rfl rfl rfl rfl (by show 2 < 5; decide)) ⟨_, rfl, rfl⟩ rfl ?_
   refine .as (.i64 (A : Int)) (congrArg AV.i64 hA) ?_
   refine .q (op_cmpI rfl rfl rfl) ⟨_, rfl, rfl⟩ rfl ?_
   refine .q (op_move rfl) ⟨_, rfl, rfl⟩ rfl ?_
   refine .know (b' := false) (decide_eq_false (by omega)) ?_
   refine .q (op_fieldAddr (m := 0) Tryd.underlying28 rfl (by kernel_rfl) rfl) ⟨_, rfl, rfl⟩ rfl ?_
   refine .as (.ptr 1032 2) rfl ?_
   refine .q (op_load Tryd.underlying3 rfl rfl rfl rfl (by show 2 < 5; decide)) ⟨_, rfl, rfl⟩ rfl ?_
   refine .as (.i64 (A : Int)) (congrArg AV.i64 hA) ?_
   refine .q (op_move rfl) ⟨_, rfl, rfl⟩ rfl ?_
   refine .q (op_len_str Tryd.underlying9 rfl) ⟨_, rfl, rfl⟩ rfl ?_
   refine .q (op_cmpI rfl rfl rfl) ⟨_, rfl, rfl⟩ rfl ?_
   refine .q (op_pick_false rfl rfl rfl) ⟨_, rfl, rfl⟩ rfl ?_
   refine .q (op_pick_true rfl rfl rfl) trivial rfl ?_
   refine .nil ?_
   show Ev _ _ _ _ _
   refine .cond_false rfl (decide_eq_false (by omega)) ?_
   refine .skip ?_
   show Ev _ _ _ _ _
   refine .seq ?_
   refine .seq ?_
   refine .region ?_
   refine .q (op_move rfl) trivial rfl ?_
   refine .q (op_cmpI rfl rfl rfl) trivial rfl ?_
   refine .nil ?_
   show Ev _ _ _ _ _
   refine .cond_true rfl (rfl) ?_
   refine .drawn [[], [], [1], [], [], [4], [3, 4, 5], [], [], [8], [7, 8, 9], [], [11], [7, 8, 9, 10, 11, 12], [7, 8, 9, 10, 11, 12, 13], [7, 8, 9, 10, 11, 12, 13, 14], [3, 4, 5, 6, 7, 8, 9, 10, 11, 12, 13, 14, 15], [], [], [18], [18, 19], [17, 18, 19, 20], [3, 4, 5, 6, 7, 8, 9, 10, 11, 12, 13, 14, 15, 16, 17, 18, 19, 20, 21], [0, 1, 2, 3, 4, 5, 6, 7, 8, 9, 10, 11, 12, 13, 14, 15, 16, 17, 18, 19, 20, 21, 22], [0, 1, 2, 3, 4, 5, 6, 7, 8, 9, 10, 11, 12, 13, 14, 15, 16, 17, 18, 19, 20, 21, 22, 23]] [2, 5, 9, 12, 14, 15, 19, 24] [24] (by kernel_rfl) (by kernel_rfl) rfl ?_
   show DK _ [0, 1, 2, 3, 4, 5, 6, 7, 8, 9, 10, 11, 12, 13, 14, 15, 16, 17, 18, 19, 20, 21, 22, 23, 24] _ _ _
   refine .q rfl (op_move rfl) trivial ?_
   refine .q rfl (op_fieldAddr (m := 0) Tryd.underlying28 rfl (by kernel_rfl) rfl) trivial ?_
   refine .as (.ptr 1032 1) rfl ?_
   refine .q rfl (op_load Tryd.underlying3 rfl rfl rfl rfl (by show 1 < 5; decide)) trivial ?_
   refine .as (.i64 0) (congrArg AV.i64 hw) ?_
   refine .q rfl (op_move rfl) trivial ?_
   refine .q rfl (op_fieldAddr (m := 0) Tryd.underlying28 rfl (by kernel_rfl) rfl) trivial ?_
   refine .as (.ptr 1032 2) rfl ?_
   refine .q rfl (op_load Tryd.underlying3 rfl rfl rfl rfl (by show 2 < 5; decide)) trivial ?_
   refine .as (.i64 (A : Int)) (congrArg AV.i64 hA) ?_
   refine .q rfl (ap_slice_str_hi Tryd.underlying9 rfl (bnd_some rfl rfl) (by omega)) trivial ?_
   refine .q rfl (op_move rfl) trivial ?_
   refine .q rfl (op_fieldAddr (m := 0) Tryd.underlying28 rfl (by kernel_rfl) rfl) trivial ?_
   refine .as (.ptr 1032 2) rfl ?_
   refine .q rfl (op_load Tryd.underlying3 rfl rfl rfl rfl (by show 2 < 5; decide)) trivial ?_
   refine .as (.i64 (A : Int)) (congrArg AV.i64 hA) ?_
   refine .q rfl (op_index_str Tryd.underlying9 rfl rfl rfl (by omega)) trivial ?_
   refine .q rfl (op_fieldAddr (m := 0) Tryd.underlying28 rfl (by kernel_rfl) rfl) trivial ?_
   refine .as (.ptr 1032 4) rfl ?_
   refine .q rfl (op_load Tryd.underlying5 rfl rfl rfl rfl (by show 4 < 5; decide)) trivial ?_
   refine .q rfl (op_bin8 rfl rfl rfl) trivial ?_
   refine .a rfl (ap_build (us := [.u8 ((live x).getD A 0 ^^^ (l.getD i default).y)]) (c := .aggB [((live x).getD A 0 ^^^ (l.getD i default).y)]) Tryd.underlying38 inf5 rfl (by decide) (by decide) ⟨rfl, rfl, rfl, trivial⟩ rfl) trivial rfl rfl ?_
   refine .q rfl (op_bytes_str (l := [((live x).getD A 0 ^^^ (l.getD i default).y)]) (k := ⟨.aggB [((live x).getD A 0 ^^^ (l.getD i default).y)], 5, true⟩) Tryd.underlying38 Tryd.underlying5 Tryd.underlying9 rfl (by kernel_rfl) rfl (by show 0 + 1 ≤ 1; omega)) trivial ?_
   refine .as (.str [((live x).getD A 0 ^^^ (l.getD i default).y)]) rfl ?_
   refine .q rfl (op_addS rfl rfl (by rw [List.length_take, List.length_singleton]; omega)) trivial ?_
   refine .q rfl (op_move rfl) trivial ?_
   refine .q rfl (op_fieldAddr (m := 0) Tryd.underlying28 rfl (by kernel_rfl) rfl) trivial ?_
   refine .as (.ptr 1032 2) rfl ?_
   refine .q rfl (op_load Tryd.underlying3 rfl rfl rfl rfl (by show 2 < 5; decide)) trivial ?_
   refine .as (.i64 (A : Int)) (congrArg AV.i64 hA) ?_
   refine .q rfl (op_addI rfl rfl ⟨by omega, by omega⟩) trivial ?_
   refine .as (.i64 ((A + 1 : Nat) : Int)) (congrArg AV.i64 (by omega)) ?_
   refine .q rfl (ap_slice_str_lo Tryd.underlying9 rfl (bnd_some rfl rfl) (by omega)) trivial ?_
   refine .q rfl (op_addS rfl rfl (by rw [List.length_append, List.length_take, List.length_singleton, List.length_drop]; omega)) trivial ?_
   refine .q rfl (ap_idx0 Tryd.underlying26 inf9.sz rfl rfl (show (0 : Int) = ((0 : Nat) : Int) from rfl) (by decide)) trivial ?_
   refine .w rfl (op_store inf9.sz rfl rfl rfl rfl rfl (by first | omega | (simp only [AV.len]; omega) | (simp only [AV.len, List.length_set]; omega) | assumption | (simp [AV.len]; done))) trivial rfl rfl ?_
   refine .nil ?_
   show Ev _ _ _ _ _
   refine .seq ?_
   refine .region ?_
   refine .q (op_move rfl) trivial rfl ?_
   refine .q (op_call (U := []) [] [] (code_0 eo hd) Tryd.func10 (by kernel_rfl) rfl rfl rfl (⟨⟨_, rfl, rfl, rfl⟩, trivial⟩) (⟨q8, q8, q8, q8, q8, q8, q8, q8, q8, q8, q8, q8, q8, q8, q8, q8, q8, q8, q8, q8, q8, q8, q8, q8, q8, q8, q8, q8, q8, q8, q8, q8, q8, q8, q8, q8, q8, q8, q8, q8, trivial⟩) (trivial) (⟨c8, c8, c8, c8, c8, c8, c8, c8, c8, c8, c8, c8, c8, c8, c8, c8, c8, c8, c8, c8, c8, c8, c8, c8, c8, c8, c8, c8, c8, c8, c8, c8, c8, c8, c8, c8, c8, c8, c8, c8, trivial⟩) rfl) trivial rfl ?_
   refine .q (op_move rfl) trivial rfl ?_
   refine .q (op_cmpI rfl rfl rfl) trivial rfl ?_
   refine .nil ?_
   show Ev _ _ _ _ _
   refine .cond_false rfl (rfl) ?_
   refine .skip ?_
   exact ⟨⟨false, bendB A (l.getD i default).y x, y, .inr rfl, (bendB_ok (hx.mono (by omega))), (hy.mono (by omega)), by rw [live_bendB hx hA2, List.length_set]; omega, ly⟩, StLe.mk [(1000, 1000), (1008, 1008), (1016, 1016), (1024, 1024)] rfl rfl ⟨⟨_, rfl, by first | rfl | (simp only [AV.ren]; congr 1; omega), rfl⟩, ⟨_, rfl, by first | rfl | (simp only [AV.ren]; congr 1; omega), rfl⟩, ⟨_, rfl, by first | rfl | (simp only [AV.ren]; congr 1; omega), rfl⟩, ⟨_, rfl, by first | rfl | (simp only [AV.ren]; congr 1; omega), rfl⟩, ⟨_, rfl, by first | rfl | (simp only [AV.ren]; congr 1; omega), rfl⟩, ⟨_, rfl, by first | rfl | (simp only [AV.ren]; congr 1; omega), rfl⟩, trivial⟩ ⟨⟨_, _, rfl, rfl, (rowW_ren _ _ _ _ _ _ _).trans (bendB_row0 _ _ _ _ _ _ _ _).symm, rfl, id, rowW_nm _ _ _ _ _ _ _ rfl rfl⟩, HLe.oc (bK_le rfl rfl) (HLe.oc (bK_le rfl rfl) ⟨⟨_, _, rfl, rfl, congrArg (fun z => AV.aggS [z, live y]) ((bend_str hA2).trans (live_bendB hx hA2).symm), rfl, id, rfl⟩, p8, p8, p8, p8, p8, p8, p8, p8, p8, p8, p8, p8, p8, p8, p8, p8, p8, p8, p8, p8, p8, p8, p8, p8, p8, p8, p8, p8, p8, p8, p8, p8, p8, p8, p8, p8, p8, p8, p8, p8, ⟨_, _, rfl, rfl, offC_ren _ o (rowsC_flat actN_flat l), rfl, id, offC_nm _ o (rowsC_flat actN_flat l)⟩, trivial⟩)⟩⟩
  ·refine .q (op_cmpI rfl rfl rfl) trivial rfl ?_
   refine .q (op_assign rfl) trivial rfl ?_
   refine .nil ?_
   show Ev _ _ _ _ _
   refine .cond_false rfl (beq_no k0) ?_
   refine .seq ?_
   refine .region ?_
   refine .q (op_cmpI rfl rfl rfl) trivial rfl ?_
   refine .q (op_assign rfl) trivial rfl ?_
   refine .nil ?_
   show Ev _ _ _ _ _
   refine .cond_false rfl (beq_no k1) ?_
   refine .seq ?_
   refine .region ?_
   refine .q (op_cmpI rfl rfl rfl) trivial rfl ?_
   refine .q (op_assign rfl) trivial rfl ?_
   refine .nil ?_
   show Ev _ _ _ _ _
   refine .cond_false rfl (beq_no k2) ?_
   refine .seq ?_
   refine .region ?_
   refine .q (op_cmpI rfl rfl rfl) trivial rfl ?_
   refine .q (op_assign rfl) trivial rfl ?_
   refine .nil ?_
   show Ev _ _ _ _ _
   refine .cond_true rfl (beq_of' k3) ?_
   refine .seq ?_
   refine .region ?_
   refine .q (op_move rfl) trivial rfl ?_
   refine .q (op_fieldAddr (m := 0) Tryd.underlying28 rfl (by kernel_rfl) rfl) trivial rfl ?_
   refine .as (.ptr 1032 1) rfl ?_
   refine .q (op_load Tryd.underlying3 rfl rfl rfl rfl (by show 1 < 5; decide)) trivial rfl ?_
   refine .as (.i64 0) (congrArg AV.i64 hw) ?_
   refine .q (op_fieldAddr (m := 0) Tryd.underlying28 rfl (by kernel_rfl) rfl) trivial rfl ?_
   refine .as (.ptr 1032 2) rfl ?_
   refine .q (op_load Tryd.underlying3 rfl rfl rfl rfl (by show 2 < 5; decide)) trivial rfl ?_
   refine .a (op_call (U := [(1000, some ⟨rowW R false 1008 1016 (takeB K x) y, 51, true⟩)]) [(500, 1000), (501, 1008), (502, 1016)] [] (lose0O R x y (30 * i) (by omega) hx (l.getD i default).n K (by omega)) Tryd.func13 (by kernel_rfl) rfl rfl rfl (⟨⟨_, rfl, rfl, rfl⟩, ⟨_, rfl, rfl, rfl⟩, ⟨_, rfl, rfl, rfl⟩, trivial⟩) (⟨⟨_, _, rfl, rfl, rowW_ren _ _ _ _ _ _ _, rfl, id, rowW_nmC _ _ _ _ _ _ _ rfl rfl⟩, HLeC.oc (bK_leC rfl rfl (fun _ => rfl)) trivial⟩) (⟨⟨500, _, rfl, rowW_uo rfl rfl, rfl, rowW_nmF _ _ _ _ _ _ _ _ rfl rfl, .inr ⟨rfl, _, rfl, rfl⟩⟩, trivial⟩) (⟨(fun _ => ⟨1000, _, rfl, rfl⟩), Cov.ob trivial⟩) rfl) trivial rfl ?_
   refine .q (op_move rfl) trivial rfl ?_
   refine .q (op_extract rfl rfl) trivial rfl ?_
   refine .q (op_extract rfl rfl) trivial rfl ?_
   refine .q (op_assign rfl) trivial rfl ?_
   refine .q (op_assign rfl) trivial rfl ?_
   refine .asR (.err 79 (0) (offE eo (0))) (nil_errN _ _) ?_
   refine .nil ?_
   show Ev _ _ _ _ _
   refine .seq ?_
   refine .seq ?_
   refine .region ?_
   refine .q (op_move rfl) trivial rfl ?_
   refine .q (op_cmpI rfl rfl rfl) trivial rfl ?_
   refine .nil ?_
   show Ev _ _ _ _ _
   refine .cond_true rfl (rfl) ?_
   refine .drawn [[], [], [1], [], [], [3, 4], [0, 1, 2, 3, 4, 5], [0, 1, 2, 3, 4, 5, 6]] [2, 7] [7] (by kernel_rfl) (by kernel_rfl) rfl ?_
   show DK _ [0, 1, 2, 3, 4, 5, 6, 7] _ _ _
   refine .q rfl (op_move rfl) trivial ?_
   refine .q rfl (op_fieldAddr (m := 0) Tryd.underlying28 rfl (by kernel_rfl) rfl) trivial ?_
   refine .as (.ptr 1032 1) rfl ?_
   refine .q rfl (op_load Tryd.underlying3 rfl rfl rfl rfl (by show 1 < 5; decide)) trivial ?_
   refine .as (.i64 0) (congrArg AV.i64 hw) ?_
   refine .q rfl (op_move rfl) trivial ?_
   refine .q rfl (op_move rfl) trivial ?_
   refine .q rfl (ap_slice_str_lo Tryd.underlying9 rfl (bnd_some rfl rfl) (by omega)) trivial ?_
   refine .q rfl (ap_idx0 Tryd.underlying26 inf9.sz rfl rfl (show (0 : Int) = ((0 : Nat) : Int) from rfl) (by decide)) trivial ?_
   refine .w rfl (op_store inf9.sz rfl rfl rfl rfl rfl (by first | omega | (simp only [AV.len]; omega) | (simp only [AV.len, List.length_set]; omega) | assumption | (simp [AV.len]; done))) trivial rfl rfl ?_
   refine .nil ?_
   show Ev _ _ _ _ _
   refine .seq ?_
   refine .region ?_
   refine .q (op_move rfl) trivial rfl ?_
   refine .q (op_move rfl) trivial rfl ?_
   refine .q (op_cmpI rfl rfl rfl) trivial rfl ?_
   refine .q (op_move rfl) trivial rfl ?_
   refine .know (b' := false) (bne_same rfl) ?_
   refine .q (op_move rfl) ⟨_, rfl, rfl⟩ rfl ?_
   refine .q (op_call (U := []) [] [] (code_0 eo hd) Tryd.func10 (by kernel_rfl) rfl rfl rfl (⟨⟨_, rfl, rfl, rfl⟩, trivial⟩) (⟨q8, q8, q8, q8, q8, q8, q8, q8, q8, q8, q8, q8, q8, q8, q8, q8, q8, q8, q8, q8, q8, q8, q8, q8, q8, q8, q8, q8, q8, q8, q8, q8, q8, q8, q8, q8, q8, q8, q8, q8, trivial⟩) (trivial) (⟨c8, c8, c8, c8, c8, c8, c8, c8, c8, c8, c8, c8, c8, c8, c8, c8, c8, c8, c8, c8, c8, c8, c8, c8, c8, c8, c8, c8, c8, c8, c8, c8, c8, c8, c8, c8, c8, c8, c8, c8, trivial⟩) rfl) ⟨_, rfl, rfl⟩ rfl ?_
   refine .q (op_move rfl) ⟨_, rfl, rfl⟩ rfl ?_
   refine .q (op_cmpI rfl rfl rfl) ⟨_, rfl, rfl⟩ rfl ?_
   refine .q (op_pick_false rfl rfl rfl) trivial rfl ?_
   refine .nil ?_
   show Ev _ _ _ _ _
   refine .cond_false rfl (rfl) ?_
   refine .skip ?_
   exact ⟨⟨false, takeB K x, y, .inr rfl, (takeB_ok (hx.mono (by omega)) (by omega)), (hy.mono (by omega)), by rw [live_takeB, List.length_drop]; omega, ly⟩, StLe.mk [(1000, 1000), (1008, 1008), (1016, 1016), (1024, 1024)] rfl rfl ⟨⟨_, rfl, by first | rfl | (simp only [AV.ren]; congr 1; omega), rfl⟩, ⟨_, rfl, by first | rfl | (simp only [AV.ren]; congr 1; omega), rfl⟩, ⟨_, rfl, by first | rfl | (simp only [AV.ren]; congr 1; omega), rfl⟩, ⟨_, rfl, by first | rfl | (simp only [AV.ren]; congr 1; omega), rfl⟩, ⟨_, rfl, by first | rfl | (simp only [AV.ren]; congr 1; omega), rfl⟩, ⟨_, rfl, by first | rfl | (simp only [AV.ren]; congr 1; omega), rfl⟩, trivial⟩ ⟨⟨_, _, rfl, rfl, rowW_ren _ _ _ _ _ _ _, rfl, id, rowW_nm _ _ _ _ _ _ _ rfl rfl⟩, HLe.oc (bK_le rfl (bK_takeB _ _ _).symm) (HLe.oc (bK_le rfl rfl) ⟨⟨_, _, rfl, rfl, congrArg (fun z => AV.aggS [z, live y]) ((live_takeB K x).symm), rfl, id, rfl⟩, p8, p8, p8, p8, p8, p8, p8, p8, p8, p8, p8, p8, p8, p8, p8, p8, p8, p8, p8, p8, p8, p8, p8, p8, p8, p8, p8, p8, p8, p8, p8, p8, p8, p8, p8, p8, p8, p8, p8, p8, ⟨_, _, rfl, rfl, offC_ren _ o (rowsC_flat actN_flat l), rfl, id, offC_nm _ o (rowsC_flat actN_flat l)⟩, trivial⟩)⟩⟩
  ·refine .q (op_cmpI rfl rfl rfl) trivial rfl ?_
   refine .q (op_assign rfl) trivial rfl ?_
   refine .nil ?_
   show Ev _ _ _ _ _
   refine .cond_false rfl (beq_no k0) ?_
   refine .seq ?_
   refine .region ?_
   refine .q (op_cmpI rfl rfl rfl) trivial rfl ?_
   refine .q (op_assign rfl) trivial rfl ?_
   refine .nil ?_
   show Ev _ _ _ _ _
   refine .cond_false rfl (beq_no k1) ?_
   refine .seq ?_
   refine .region ?_
   refine .q (op_cmpI rfl rfl rfl) trivial rfl ?_
   refine .q (op_assign rfl) trivial rfl ?_
   refine .nil ?_
   show Ev _ _ _ _ _
   refine .cond_false rfl (beq_no k2) ?_
   refine .seq ?_
   refine .region ?_
   refine .q (op_cmpI rfl rfl rfl) trivial rfl ?_
   refine .q (op_assign rfl) trivial rfl ?_
   refine .nil ?_
   show Ev _ _ _ _ _
   refine .cond_false rfl (beq_no k3) ?_
   refine .skip ?_
   exact ⟨⟨false, x, y, hdd, (hx.mono (by omega)), (hy.mono (by omega)), lx, ly⟩, StLe.mk [(1000, 1000), (1008, 1008), (1016, 1016), (1024, 1024)] rfl rfl ⟨⟨_, rfl, by first | rfl | (simp only [AV.ren]; congr 1; omega), rfl⟩, ⟨_, rfl, by first | rfl | (simp only [AV.ren]; congr 1; omega), rfl⟩, ⟨_, rfl, by first | rfl | (simp only [AV.ren]; congr 1; omega), rfl⟩, ⟨_, rfl, by first | rfl | (simp only [AV.ren]; congr 1; omega), rfl⟩, ⟨_, rfl, by first | rfl | (simp only [AV.ren]; congr 1; omega), rfl⟩, ⟨_, rfl, by first | rfl | (simp only [AV.ren]; congr 1; omega), rfl⟩, trivial⟩ ⟨⟨_, _, rfl, rfl, rowW_ren _ _ _ _ _ _ _, rfl, id, rowW_nm _ _ _ _ _ _ _ rfl rfl⟩, HLe.oc (bK_le rfl rfl) (HLe.oc (bK_le rfl rfl) ⟨⟨_, _, rfl, rfl, rfl, rfl, id, rfl⟩, p8, p8, p8, p8, p8, p8, p8, p8, p8, p8, p8, p8, p8, p8, p8, p8, p8, p8, p8, p8, p8, p8, p8, p8, p8, p8, p8, p8, p8, p8, p8, p8, p8, p8, p8, p8, p8, p8, p8, p8, ⟨_, _, rfl, rfl, offC_ren _ o (rowsC_flat actN_flat l), rfl, id, offC_nm _ o (rowsC_flat actN_flat l)⟩, trivial⟩)⟩⟩
 ·rintro ⟨d', x', y', hd', hx', hy', lx', ly'⟩
  exact plays_rest eo R hR0 hR1 o l i h120 d' x' y' hd' hx' hy' lx' ly'
end Go.Proofs.YtpmoonglbcglaaaDoor
namespace Go.Proofs.YtpmoonglbcglaaaDoor
open Go.RowKit
set_option maxHeartbeats 8000000 in
set_option maxRecDepth 100000 in
theorem plays_E (eo : Nat → Nat × Nat) (hd : ∀ i j, i < 20 → j < 20 → i ≠ j → eo i ≠ eo j) (R : Int) (hR0 : 0 ≤ R) (hR1 : R ≤ 1000000000) (o : Nat) (l : List ActN) (hl2 : l.length ≤ 9223372036854775807) (i : Nat) (hil : i < l.length) (h120 : i < 120) (x y : Option BX) (hx : BOk x (30 * i)) (hy : BOk y (30 * i)) (lx : ((live x).length : Int) ≤ R) (ly : ((live y).length : Int) ≤ R) (hk : (l.getD i default).k ≠ 4) (hw : (l.getD i default).w = 1) :
  Ev Tryd.prog 287 (codeAt [true, true, true, true, true, true, true, false, true, false, false, true, false, false, true, true, true] ((Tryd.f3).body.getD .skip)) ⟨[(0, .i64 R), (1, .sl 450 o l.length 5), (5, .ptr 1000 0), (6, .sl 1024 0 2 1), (7, .bool (!false)), (8, .i64 ((i : Nat) : Int)), (9, .ptr 1032 0), (10, .i64 0)], [(1000, some ⟨rowW R false 1008 1016 x y, 51, true⟩), (1008, bK true x), (1016, bK true y), (1024, some ⟨.aggS [live x, live y], 9, true⟩), (1032, some ⟨.agg (actN (l.getD i default)), 28, true⟩), (0, some ⟨.agg [.err 79 (1) (offE eo (1))], errT, false⟩), (1, some ⟨.agg [.err 79 (2) (offE eo (2))], errT, false⟩), (2, some ⟨.agg [.err 79 (3) (offE eo (3))], errT, false⟩), (3, some ⟨.agg [.err 79 (4) (offE eo (4))], errT, false⟩), (4, some ⟨.agg [.err 79 (5) (offE eo (5))], errT, false⟩), (5, some ⟨.agg [.err 79 (6) (offE eo (6))], errT, false⟩), (6, some ⟨.agg [.err 79 (7) (offE eo (7))], errT, false⟩), (7, some ⟨.agg [.err 79 (8) (offE eo (8))], errT, false⟩), (8, some ⟨.agg [.err 79 (9) (offE eo (9))], errT, false⟩), (9, some ⟨.agg [.err 79 (10) (offE eo (10))], errT, false⟩), (10, some ⟨.agg [.err 79 (11) (offE eo (11))], errT, false⟩), (11, some ⟨.agg [.err 79 (12) (offE eo (12))], errT, false⟩), (12, some ⟨.agg [.err 79 (13) (offE eo (13))], errT, false⟩), (13, some ⟨.agg [.err 79 (14) (offE eo (14))], errT, false⟩), (14, some ⟨.agg [.err 79 (15) (offE eo (15))], errT, false⟩), (15, some ⟨.agg [.err 79 (16) (offE eo (16))], errT, false⟩), (16, some ⟨.agg [.err 79 (17) (offE eo (17))], errT, false⟩), (17, some ⟨.agg [.err 79 (18) (offE eo (18))], errT, false⟩), (18, some ⟨.agg [.err 79 (19) (offE eo (19))], errT, false⟩), (19, some ⟨.agg [.err 79 (20) (offE eo (20))], errT, false⟩), (401, some ⟨.agg [], errT, false⟩), (402, some ⟨.agg [], errT, false⟩), (403, some ⟨.agg [], errT, false⟩), (404, some ⟨.agg [], errT, false⟩), (405, some ⟨.agg [], errT, false⟩), (406, some ⟨.agg [], errT, false⟩), (407, some ⟨.agg [], errT, false⟩), (408, some ⟨.agg [], errT, false⟩), (409, some ⟨.agg [], errT, false⟩), (410, some ⟨.agg [], errT, false⟩), (411, some ⟨.agg [], errT, false⟩), (412, some ⟨.agg [], errT, false⟩), (413, some ⟨.agg [], errT, false⟩), (414, some ⟨.agg [], errT, false⟩), (415, some ⟨.agg [], errT, false⟩), (416, some ⟨.agg [], errT, false⟩), (417, some ⟨.agg [], errT, false⟩), (418, some ⟨.agg [], errT, false⟩), (419, some ⟨.agg [], errT, false⟩), (420, some ⟨.agg [], errT, false⟩), (450, some ⟨.agg (offC o (rowsC actN l)), anyT, false⟩)], 1048⟩ (thenA (fun st2 => ∃ q : NSt R (30 * (i + 1)), StLe 287 st2 ⟨[(0, .i64 R), (1, .sl 450 o l.length 5), (5, .ptr 1000 0), (6, .sl 1024 0 2 1), (7, .bool (!q.d)), (8, .i64 ((i : Nat) : Int))], [(1000, some ⟨rowW R q.d 1008 1016 q.x q.y, 51, true⟩), (1008, bK true q.x), (1016, bK true q.y), (1024, some ⟨.aggS [live q.x, live q.y], 9, true⟩), (0, some ⟨.agg [.err 79 (1) (offE eo (1))], errT, false⟩), (1, some ⟨.agg [.err 79 (2) (offE eo (2))], errT, false⟩), (2, some ⟨.agg [.err 79 (3) (offE eo (3))], errT, false⟩), (3, some ⟨.agg [.err 79 (4) (offE eo (4))], errT, false⟩), (4, some ⟨.agg [.err 79 (5) (offE eo (5))], errT, false⟩), (5, some ⟨.agg [.err 79 (6) (offE eo (6))], errT, false⟩), (6, some ⟨.agg [.err 79 (7) (offE eo (7))], errT, false⟩), (7, some ⟨.agg [.err 79 (8) (offE eo (8))], errT, false⟩), (8, some ⟨.agg [.err 79 (9) (offE eo (9))], errT, false⟩), (9, some ⟨.agg [.err 79 (10) (offE eo (10))], errT, false⟩), (10, some ⟨.agg [.err 79 (11) (offE eo (11))], errT, false⟩), (11, some ⟨.agg [.err 79 (12) (offE eo (12))], errT, false⟩), (12, some ⟨.agg [.err 79 (13) (offE eo (13))], errT, false⟩), (13, some ⟨.agg [.err 79 (14) (offE eo (14))], errT, false⟩), (14, some ⟨.agg [.err 79 (15) (offE eo (15))], errT, false⟩), (15, some ⟨.agg [.err 79 (16) (offE eo (16))], errT, false⟩), (16, some ⟨.agg [.err 79 (17) (offE eo (17))], errT, false⟩), (17, some ⟨.agg [.err 79 (18) (offE eo (18))], errT, false⟩), (18, some ⟨.agg [.err 79 (19) (offE eo (19))], errT, false⟩), (19, some ⟨.agg [.err 79 (20) (offE eo (20))], errT, false⟩), (401, some ⟨.agg [], errT, false⟩), (402, some ⟨.agg [], errT, false⟩), (403, some ⟨.agg [], errT, false⟩), (404, some ⟨.agg [], errT, false⟩), (405, some ⟨.agg [], errT, false⟩), (406, some ⟨.agg [], errT, false⟩), (407, some ⟨.agg [], errT, false⟩), (408, some ⟨.agg [], errT, false⟩), (409, some ⟨.agg [], errT, false⟩), (410, some ⟨.agg [], errT, false⟩), (411, some ⟨.agg [], errT, false⟩), (412, some ⟨.agg [], errT, false⟩), (413, some ⟨.agg [], errT, false⟩), (414, some ⟨.agg [], errT, false⟩), (415, some ⟨.agg [], errT, false⟩), (416, some ⟨.agg [], errT, false⟩), (417, some ⟨.agg [], errT, false⟩), (418, some ⟨.agg [], errT, false⟩), (419, some ⟨.agg [], errT, false⟩), (420, some ⟨.agg [], errT, false⟩), (450, some ⟨.agg (offC o (rowsC actN l)), anyT, false⟩)], 1048⟩) (fun _ _ => False)) := by
 have lx2 := live_le hx
 have ly2 := live_le hy
 have hdd : (false = true ∧ x = none ∧ y = none) ∨ false = false := .inr rfl
 refine .seq ?_
 have hKe : ∃ K : Nat, max 0 (min (l.getD i default).n ((live y).length : Int)) = (K : Int) := ⟨(max 0 (min (l.getD i default).n ((live y).length : Int))).toNat, (Int.toNat_of_nonneg (by omega)).symm⟩
 obtain ⟨K, hK⟩ := hKe
 refine .region ?_
 refine .q (op_fieldAddr (m := 0) Tryd.underlying28 rfl (by kernel_rfl) rfl) trivial rfl ?_
 refine .as (.ptr 1032 3) rfl ?_
 refine .q (op_load Tryd.underlying9 rfl rfl rfl rfl (by show 3 < 5; decide)) trivial rfl ?_
 refine .q (op_call (U := []) [] [] (cut_ev (l.getD i default).s 30 (l.getD i default).h (by decide)) Tryd.func8 (by kernel_rfl) rfl rfl rfl (⟨⟨_, rfl, rfl, rfl⟩, ⟨_, rfl, rfl, rfl⟩, trivial⟩) (trivial) (trivial) (trivial) rfl) trivial rfl ?_
 skip
 refine .q (op_assign rfl) trivial rfl ?_
 refine .nil ?_
 show Ev _ _ _ _ _
 refine .seq ?_
 refine .region ?_
 refine .q (op_assign rfl) trivial rfl ?_
 refine .nil ?_
 show Ev _ _ _ _ _
 refine .seq ?_
 refine .seq ?_
 refine .region ?_
 refine .q (op_move rfl) trivial rfl ?_
 refine .q (op_cmpI rfl rfl rfl) trivial rfl ?_
 refine .q (op_move rfl) trivial rfl ?_
 refine .know (b' := true) (rfl) ?_
 refine .q (op_fieldAddr (m := 0) Tryd.underlying28 rfl (by kernel_rfl) rfl) ⟨_, rfl, rfl⟩ rfl ?_
 refine .as (.ptr 1032 0) rfl ?_
 refine .q (op_load Tryd.underlying3 rfl rfl rfl rfl (by show 0 < 5; decide)) ⟨_, rfl, rfl⟩ rfl ?_
 refine .q (op_cmpI rfl rfl rfl) ⟨_, rfl, rfl⟩ rfl ?_
 refine .q (op_pick_true rfl rfl rfl) trivial rfl ?_
 refine .nil ?_
 show Ev _ _ _ _ _
 refine .cond_true rfl (bne_of hk) ?_
 refine .region ?_
 refine .q (op_move rfl) trivial rfl ?_
 refine .q (op_fieldAddr (m := 0) Tryd.underlying28 rfl (by kernel_rfl) rfl) trivial rfl ?_
 refine .as (.ptr 1032 1) rfl ?_
 refine .q (op_load Tryd.underlying3 rfl rfl rfl rfl (by show 1 < 5; decide)) trivial rfl ?_
 refine .as (.i64 1) (congrArg AV.i64 hw) ?_
 refine .q (ap_idx0 Tryd.underlying26 inf9.sz rfl rfl (show (1 : Int) = ((1 : Nat) : Int) from rfl) (by decide)) trivial rfl ?_
 refine .q (op_load Tryd.underlying9 rfl rfl rfl rfl (by first | omega | (simp only [AV.len]; omega) | (simp only [AV.len, List.length_set]; omega) | assumption | (simp [AV.len]; done))) trivial rfl ?_
 refine .as (.str (live y)) rfl ?_
 refine .q (op_assign rfl) trivial rfl ?_
 refine .nil ?_
 show Ev _ _ _ _ _
 refine .seq ?_
 refine .region ?_
 refine .q (op_fieldAddr (m := 0) Tryd.underlying28 rfl (by kernel_rfl) rfl) trivial rfl ?_
 refine .as (.ptr 1032 2) rfl ?_
 refine .q (op_load Tryd.underlying3 rfl rfl rfl rfl (by show 2 < 5; decide)) trivial rfl ?_
 refine .q (op_move rfl) trivial rfl ?_
 refine .q (op_len_str Tryd.underlying9 rfl) trivial rfl ?_
 refine .q (op_minI rfl rfl) trivial rfl ?_
 refine .q (op_maxI rfl rfl) trivial rfl ?_
 refine .as (.i64 (K : Int)) (congrArg AV.i64 hK) ?_
 refine .q (op_assign rfl) trivial rfl ?_
 refine .nil ?_
 show Ev _ _ _ _ _
 refine .seq ?_
 refine Ev.cutp (ι := NSt R (30 * (i + 1))) (fun q => ⟨[(0, .i64 R), (1, .sl 450 o l.length 5), (5, .ptr 1000 0), (6, .sl 1024 0 2 1), (7, .bool (!q.d)), (8, .i64 ((i : Nat) : Int))], [(1000, some ⟨rowW R q.d 1008 1016 q.x q.y, 51, true⟩), (1008, bK true q.x), (1016, bK true q.y), (1024, some ⟨.aggS [live q.x, live q.y], 9, true⟩), (0, some ⟨.agg [.err 79 (1) (offE eo (1))], errT, false⟩), (1, some ⟨.agg [.err 79 (2) (offE eo (2))], errT, false⟩), (2, some ⟨.agg [.err 79 (3) (offE eo (3))], errT, false⟩), (3, some ⟨.agg [.err 79 (4) (offE eo (4))], errT, false⟩), (4, some ⟨.agg [.err 79 (5) (offE eo (5))], errT, false⟩), (5, some ⟨.agg [.err 79 (6) (offE eo (6))], errT, false⟩), (6, some ⟨.agg [.err 79 (7) (offE eo (7))], errT, false⟩), (7, some ⟨.agg [.err 79 (8) (offE eo (8))], errT, false⟩), (8, some ⟨.agg [.err 79 (9) (offE eo (9))], errT, false⟩), (9, some ⟨.agg [.err 79 (10) (offE eo (10))], errT, false⟩), (10, some ⟨.agg [.err 79 (11) (offE eo (11))], errT, false⟩), (11, some ⟨.agg [.err 79 (12) (offE eo (12))], errT, false⟩), (12, some ⟨.agg [.err 79 (13) (offE eo (13))], errT, false⟩), (13, some ⟨.agg [.err 79 (14) (offE eo (14))], errT, false⟩), (14, some ⟨.agg [.err 79 (15) (offE eo (15))], errT, false⟩), (15, some ⟨.agg [.err 79 (16) (offE eo (16))], errT, false⟩), (16, some ⟨.agg [.err 79 (17) (offE eo (17))], errT, false⟩), (17, some ⟨.agg [.err 79 (18) (offE eo (18))], errT, false⟩), (18, some ⟨.agg [.err 79 (19) (offE eo (19))], errT, false⟩), (19, some ⟨.agg [.err 79 (20) (offE eo (20))], errT, false⟩), (401, some ⟨.agg [], errT, false⟩), (402, some ⟨.agg [], errT, false⟩), (403, some ⟨.agg [], errT, false⟩), (404, some ⟨.agg [], errT, false⟩), (405, some ⟨.agg [], errT, false⟩), (406, some ⟨.agg [], errT, false⟩), (407, some ⟨.agg [], errT, false⟩), (408, some ⟨.agg [], errT, false⟩), (409, some ⟨.agg [], errT, false⟩), (410, some ⟨.agg [], errT, false⟩), (411, some ⟨.agg [], errT, false⟩), (412, some ⟨.agg [], errT, false⟩), (413, some ⟨.agg [], errT, false⟩), (414, some ⟨.agg [], errT, false⟩), (415, some ⟨.agg [], errT, false⟩), (416, some ⟨.agg [], errT, false⟩), (417, some ⟨.agg [], errT, false⟩), (418, some ⟨.agg [], errT, false⟩), (419, some ⟨.agg [], errT, false⟩), (420, some ⟨.agg [], errT, false⟩), (450, some ⟨.agg (offC o (rowsC actN l)), anyT, false⟩)], 1048⟩) ?_ ?_
 ·refine .seq ?_
  refine .region ?_
  refine .q (op_fieldAddr (m := 0) Tryd.underlying28 rfl (by kernel_rfl) rfl) trivial rfl ?_
  refine .as (.ptr 1032 0) rfl ?_
  refine .q (op_load Tryd.underlying3 rfl rfl rfl rfl (by show 0 < 5; decide)) trivial rfl ?_
  refine .nil ?_
  show Ev _ _ _ _ _
  refine .block ?_
  refine .seq ?_
  refine .region ?_
  refine dite ((l.getD i default).k = 0) (fun k0 => ?_) (fun k0 => dite ((l.getD i default).k = 1) (fun k1 => ?_) (fun k1 => dite ((l.getD i default).k = 2) (fun k2 => dite ((l.getD i default).n < 0) (fun hn => ?_) (fun hn => dite (((live y).length : Int) ≤ (l.getD i default).n) (fun hn2 => ?_) (fun hn2 => ?_))) (fun k2 => dite ((l.getD i default).k = 3) (fun k3 => ?_) (fun k3 => ?_))))
  ·refine .q (op_cmpI rfl rfl rfl) trivial rfl ?_
   refine .q (op_assign rfl) trivial rfl ?_
   refine .nil ?_
   show Ev _ _ _ _ _
   refine .cond_true rfl (beq_of' k0) ?_
   refine .seq ?_
   refine .region ?_
   have hJe : ∃ J : Nat, min (((l.getD i default).s.take 30).length : Int) (R - ((live y).length : Int)) = (J : Int) := ⟨(min (((l.getD i default).s.take 30).length : Int) (R - ((live y).length : Int))).toNat, (Int.toNat_of_nonneg (by omega)).symm⟩
   obtain ⟨J, hJ⟩ := hJe
   have hJ2 : J ≤ ((l.getD i default).s.take 30).length := by omega
   have hJ3 : ((l.getD i default).s.take 30).length ≤ 30 := by rw [List.length_take]; omega
   have hJ4 : (((l.getD i default).s.take 30).take J).length = J := by rw [List.length_take]; omega
   refine .q (op_move rfl) trivial rfl ?_
   refine .q (op_fieldAddr (m := 0) Tryd.underlying28 rfl (by kernel_rfl) rfl) trivial rfl ?_
   refine .as (.ptr 1032 1) rfl ?_
   refine .q (op_load Tryd.underlying3 rfl rfl rfl rfl (by show 1 < 5; decide)) trivial rfl ?_
   refine .as (.i64 1) (congrArg AV.i64 hw) ?_
   refine .q (op_move rfl) trivial rfl ?_
   refine .ax (op_callX (US := fun (u : PutI y (((l.getD i default).s.take 30).take J) (30 * i + ((l.getD i default).s.take 30).length)) => match u with  | .inl q => [(1000, some ⟨rowW R false 1008 1016 x q.1, 51, true⟩), (1016, bK true q.1), (1048, none)] | .inr q => [(1000, some ⟨rowW R false 1008 1048 x q.1, 51, true⟩), (1048, bK true q.1), (1016, none)]) [(500, 1000), (501, 1008), (502, 1016)] [(1048, 1104)] (put1X R hR0 hR1 x y (30 * i) hy ((l.getD i default).s.take 30) (by omega) J hJ (((l.getD i default).s.take 30).take J) rfl) Tryd.func9 (by kernel_rfl) rfl rfl (fun u => by cases u <;> rfl) ⟨⟨_, rfl, rfl, rfl⟩, ⟨_, rfl, rfl, rfl⟩, ⟨_, rfl, rfl, rfl⟩, trivial⟩ (⟨⟨_, _, rfl, rfl, rowW_ren _ _ _ _ _ _ _, rfl, id, rowW_nmC _ _ _ _ _ _ _ rfl rfl⟩, HLeC.oc (bK_leC rfl rfl id) trivial⟩) (fun u => match u with | .inl q => ⟨⟨500, _, rfl, rowW_uo rfl rfl, rfl, rowW_nmF _ _ _ _ _ _ _ _ rfl rfl, .inr ⟨rfl, _, rfl, rfl⟩⟩, UOk.oc (bK_uo (c := 502) (x := y) rfl rfl q.2.2.2 rfl) trivial⟩ | .inr q => ⟨⟨500, _, rfl, rowW_uo rfl rfl, rfl, rowW_nmF _ _ _ _ _ _ _ _ rfl rfl, .inr ⟨rfl, _, rfl, rfl⟩⟩, UOk.oc (bK_un (c := 1104) rfl rfl) trivial⟩) (fun u => by cases u <;> exact ⟨(fun _ => ⟨1000, _, rfl, rfl⟩), Cov.oc ⟨1016, _, rfl, rfl⟩ trivial⟩) (fun _ => rfl)) trivial rfl (fun u => ?_)
   rcases u with u | u
   ·show EvL _ _ _ _ _ _
    refine .q (op_move rfl) trivial rfl ?_
    refine .q (op_extract rfl rfl) trivial rfl ?_
    refine .q (op_extract rfl rfl) trivial rfl ?_
    refine .q (op_assign rfl) trivial rfl ?_
    refine .q (op_assign rfl) trivial rfl ?_
    refine .asR (.err 79 (0) (offE eo (0))) (nil_errN _ _) ?_
    refine .nil ?_
    show Ev _ _ _ _ _
    refine .seq ?_
    refine .region ?_
    refine .q (op_assign rfl) trivial rfl ?_
    refine .nil ?_
    show Ev _ _ _ _ _
    refine .seq ?_
    refine .seq ?_
    refine .region ?_
    refine .q (op_move rfl) trivial rfl ?_
    refine .q (op_cmpI rfl rfl rfl) trivial rfl ?_
    refine .nil ?_
    show Ev _ _ _ _ _
    refine .cond_true rfl (rfl) ?_
    refine .seq ?_
    refine .region ?_
    refine .q (op_move rfl) trivial rfl ?_
    refine .q (op_len_str Tryd.underlying9 rfl) trivial rfl ?_
    refine .q (op_move rfl) trivial rfl ?_
    refine .q (op_move rfl) trivial rfl ?_
    refine .q (op_len_str Tryd.underlying9 rfl) trivial rfl ?_
    refine .q (op_subI rfl rfl (show InI (R - ((live y).length : Int)) from ⟨by omega, by omega⟩)) trivial rfl ?_
    refine .q (op_minI rfl rfl) trivial rfl ?_
    refine .as (.i64 (J : Int)) (congrArg AV.i64 hJ) ?_
    refine .q (op_assign rfl) trivial rfl ?_
    refine .nil ?_
    show Ev _ _ _ _ _
    refine .drawn [[], [], [1], [0, 1, 2], [0, 1, 2, 3], [], [], [5, 6], [0, 1, 2, 3, 4, 5, 6, 7], [0, 1, 2, 3, 4, 5, 6, 7, 8], [0, 1, 2, 3, 4, 5, 6, 7, 8, 9]] [2, 4, 10] [10] (by kernel_rfl) (by kernel_rfl) rfl ?_
    show DK _ [0, 1, 2, 3, 4, 5, 6, 7, 8, 9, 10] _ _ _
    refine .q rfl (op_move rfl) trivial ?_
    refine .q rfl (op_fieldAddr (m := 0) Tryd.underlying28 rfl (by kernel_rfl) rfl) trivial ?_
    refine .as (.ptr 1032 1) rfl ?_
    refine .q rfl (op_load Tryd.underlying3 rfl rfl rfl rfl (by show 1 < 5; decide)) trivial ?_
    refine .as (.i64 1) (congrArg AV.i64 hw) ?_
    refine .q rfl (ap_idx0 Tryd.underlying26 inf9.sz rfl rfl (show (1 : Int) = ((1 : Nat) : Int) from rfl) (by decide)) trivial ?_
    refine .q rfl (op_load Tryd.underlying9 rfl rfl rfl rfl (by first | omega | (simp only [AV.len]; omega) | (simp only [AV.len, List.length_set]; omega) | assumption | (simp [AV.len]; done))) trivial ?_
    refine .as (.str (live y)) rfl ?_
    refine .q rfl (op_move rfl) trivial ?_
    refine .q rfl (op_move rfl) trivial ?_
    refine .q rfl (ap_slice_str_hi Tryd.underlying9 rfl (bnd_some rfl rfl) (by omega)) trivial ?_
    refine .q rfl (op_addS rfl rfl (by omega)) trivial ?_
    refine .q rfl (ap_idx0 Tryd.underlying26 inf9.sz rfl rfl (show (1 : Int) = ((1 : Nat) : Int) from rfl) (by decide)) trivial ?_
    refine .w rfl (op_store inf9.sz rfl rfl rfl rfl rfl (by first | omega | (simp only [AV.len]; omega) | (simp only [AV.len, List.length_set]; omega) | assumption | (simp [AV.len]; done))) trivial rfl rfl ?_
    refine .nil ?_
    show Ev _ _ _ _ _
    refine .seq ?_
    refine .region ?_
    refine .q (op_move rfl) trivial rfl ?_
    refine .q (op_move rfl) trivial rfl ?_
    refine .q (op_cmpI rfl rfl rfl) trivial rfl ?_
    refine .q (op_move rfl) trivial rfl ?_
    refine .know (b' := false) (bne_same rfl) ?_
    refine .q (op_move rfl) ⟨_, rfl, rfl⟩ rfl ?_
    refine .q (op_call (U := []) [] [] (code_0 eo hd) Tryd.func10 (by kernel_rfl) rfl rfl rfl (⟨⟨_, rfl, rfl, rfl⟩, trivial⟩) (⟨q8, q8, q8, q8, q8, q8, q8, q8, q8, q8, q8, q8, q8, q8, q8, q8, q8, q8, q8, q8, q8, q8, q8, q8, q8, q8, q8, q8, q8, q8, q8, q8, q8, q8, q8, q8, q8, q8, q8, q8, trivial⟩) (trivial) (⟨c8, c8, c8, c8, c8, c8, c8, c8, c8, c8, c8, c8, c8, c8, c8, c8, c8, c8, c8, c8, c8, c8, c8, c8, c8, c8, c8, c8, c8, c8, c8, c8, c8, c8, c8, c8, c8, c8, c8, c8, trivial⟩) rfl) ⟨_, rfl, rfl⟩ rfl ?_
    refine .q (op_move rfl) ⟨_, rfl, rfl⟩ rfl ?_
    refine .q (op_cmpI rfl rfl rfl) ⟨_, rfl, rfl⟩ rfl ?_
    refine .q (op_pick_false rfl rfl rfl) trivial rfl ?_
    refine .nil ?_
    show Ev _ _ _ _ _
    refine .cond_false rfl (rfl) ?_
    refine .skip ?_
    exact ⟨⟨false, x, u.1, .inr rfl, (hx.mono (by omega)), (u.2.2.1.mono (by omega)), lx, by rw [u.2.1, List.length_append]; omega⟩, StLe.mk [(1000, 1000), (1008, 1008), (1016, 1016), (1024, 1024)] rfl rfl ⟨⟨_, rfl, by first | rfl | (simp only [AV.ren]; congr 1; omega), rfl⟩, ⟨_, rfl, by first | rfl | (simp only [AV.ren]; congr 1; omega), rfl⟩, ⟨_, rfl, by first | rfl | (simp only [AV.ren]; congr 1; omega), rfl⟩, ⟨_, rfl, by first | rfl | (simp only [AV.ren]; congr 1; omega), rfl⟩, ⟨_, rfl, by first | rfl | (simp only [AV.ren]; congr 1; omega), rfl⟩, ⟨_, rfl, by first | rfl | (simp only [AV.ren]; congr 1; omega), rfl⟩, trivial⟩ ⟨⟨_, _, rfl, rfl, rowW_ren _ _ _ _ _ _ _, rfl, id, rowW_nm _ _ _ _ _ _ _ rfl rfl⟩, HLe.oc (bK_le rfl rfl) (HLe.oc (bK_le rfl rfl) ⟨⟨_, _, rfl, rfl, congrArg (fun z => AV.aggS [live x, z]) (u.2.1.symm), rfl, id, rfl⟩, p8, p8, p8, p8, p8, p8, p8, p8, p8, p8, p8, p8, p8, p8, p8, p8, p8, p8, p8, p8, p8, p8, p8, p8, p8, p8, p8, p8, p8, p8, p8, p8, p8, p8, p8, p8, p8, p8, p8, p8, ⟨_, _, rfl, rfl, offC_ren _ o (rowsC_flat actN_flat l), rfl, id, offC_nm _ o (rowsC_flat actN_flat l)⟩, trivial⟩)⟩⟩
   ·show EvL _ _ _ _ _ _
    refine .q (op_move rfl) trivial rfl ?_
    refine .q (op_extract rfl rfl) trivial rfl ?_
    refine .q (op_extract rfl rfl) trivial rfl ?_
    refine .q (op_assign rfl) trivial rfl ?_
    refine .q (op_assign rfl) trivial rfl ?_
    refine .asR (.err 79 (0) (offE eo (0))) (nil_errN _ _) ?_
    refine .nil ?_
    show Ev _ _ _ _ _
    refine .seq ?_
    refine .region ?_
    refine .q (op_assign rfl) trivial rfl ?_
    refine .nil ?_
    show Ev _ _ _ _ _
    refine .seq ?_
    refine .seq ?_
    refine .region ?_
    refine .q (op_move rfl) trivial rfl ?_
    refine .q (op_cmpI rfl rfl rfl) trivial rfl ?_
    refine .nil ?_
    show Ev _ _ _ _ _
    refine .cond_true rfl (rfl) ?_
    refine .seq ?_
    refine .region ?_
    refine .q (op_move rfl) trivial rfl ?_
    refine .q (op_len_str Tryd.underlying9 rfl) trivial rfl ?_
    refine .q (op_move rfl) trivial rfl ?_
    refine .q (op_move rfl) trivial rfl ?_
    refine .q (op_len_str Tryd.underlying9 rfl) trivial rfl ?_
    refine .q (op_subI rfl rfl (show InI (R - ((live y).length : Int)) from ⟨by omega, by omega⟩)) trivial rfl ?_
    refine .q (op_minI rfl rfl) trivial rfl ?_
    refine .as (.i64 (J : Int)) (congrArg AV.i64 hJ) ?_
    refine .q (op_assign rfl) trivial rfl ?_
    refine .nil ?_
    show Ev _ _ _ _ _
    refine .drawn [[], [], [1], [0, 1, 2], [0, 1, 2, 3], [], [], [5, 6], [0, 1, 2, 3, 4, 5, 6, 7], [0, 1, 2, 3, 4, 5, 6, 7, 8], [0, 1, 2, 3, 4, 5, 6, 7, 8, 9]] [2, 4, 10] [10] (by kernel_rfl) (by kernel_rfl) rfl ?_
    show DK _ [0, 1, 2, 3, 4, 5, 6, 7, 8, 9, 10] _ _ _
    refine .q rfl (op_move rfl) trivial ?_
    refine .q rfl (op_fieldAddr (m := 0) Tryd.underlying28 rfl (by kernel_rfl) rfl) trivial ?_
    refine .as (.ptr 1032 1) rfl ?_
    refine .q rfl (op_load Tryd.underlying3 rfl rfl rfl rfl (by show 1 < 5; decide)) trivial ?_
    refine .as (.i64 1) (congrArg AV.i64 hw) ?_
    refine .q rfl (ap_idx0 Tryd.underlying26 inf9.sz rfl rfl (show (1 : Int) = ((1 : Nat) : Int) from rfl) (by decide)) trivial ?_
    refine .q rfl (op_load Tryd.underlying9 rfl rfl rfl rfl (by first | omega | (simp only [AV.len]; omega) | (simp only [AV.len, List.length_set]; omega) | assumption | (simp [AV.len]; done))) trivial ?_
    refine .as (.str (live y)) rfl ?_
    refine .q rfl (op_move rfl) trivial ?_
    refine .q rfl (op_move rfl) trivial ?_
    refine .q rfl (ap_slice_str_hi Tryd.underlying9 rfl (bnd_some rfl rfl) (by omega)) trivial ?_
    refine .q rfl (op_addS rfl rfl (by omega)) trivial ?_
    refine .q rfl (ap_idx0 Tryd.underlying26 inf9.sz rfl rfl (show (1 : Int) = ((1 : Nat) : Int) from rfl) (by decide)) trivial ?_
    refine .w rfl (op_store inf9.sz rfl rfl rfl rfl rfl (by first | omega | (simp only [AV.len]; omega) | (simp only [AV.len, List.length_set]; omega) | assumption | (simp [AV.len]; done))) trivial rfl rfl ?_
    refine .nil ?_
    show Ev _ _ _ _ _
    refine .seq ?_
    refine .region ?_
    refine .q (op_move rfl) trivial rfl ?_
    refine .q (op_move rfl) trivial rfl ?_
    refine .q (op_cmpI rfl rfl rfl) trivial rfl ?_
    refine .q (op_move rfl) trivial rfl ?_
    refine .know (b' := false) (bne_same rfl) ?_
    refine .q (op_move rfl) ⟨_, rfl, rfl⟩ rfl ?_
    refine .q (op_call (U := []) [] [] (code_0 eo hd) Tryd.func10 (by kernel_rfl) rfl rfl rfl (⟨⟨_, rfl, rfl, rfl⟩, trivial⟩) (⟨q8, q8, q8, q8, q8, q8, q8, q8, q8, q8, q8, q8, q8, q8, q8, q8, q8, q8, q8, q8, q8, q8, q8, q8, q8, q8, q8, q8, q8, q8, q8, q8, q8, q8, q8, q8, q8, q8, q8, q8, trivial⟩) (trivial) (⟨c8, c8, c8, c8, c8, c8, c8, c8, c8, c8, c8, c8, c8, c8, c8, c8, c8, c8, c8, c8, c8, c8, c8, c8, c8, c8, c8, c8, c8, c8, c8, c8, c8, c8, c8, c8, c8, c8, c8, c8, trivial⟩) rfl) ⟨_, rfl, rfl⟩ rfl ?_
    refine .q (op_move rfl) ⟨_, rfl, rfl⟩ rfl ?_
    refine .q (op_cmpI rfl rfl rfl) ⟨_, rfl, rfl⟩ rfl ?_
    refine .q (op_pick_false rfl rfl rfl) trivial rfl ?_
    refine .nil ?_
    show Ev _ _ _ _ _
    refine .cond_false rfl (rfl) ?_
    refine .skip ?_
    exact ⟨⟨false, x, u.1, .inr rfl, (hx.mono (by omega)), (u.2.2.mono (by omega)), lx, by rw [u.2.1, List.length_append]; omega⟩, StLe.mk [(1000, 1000), (1008, 1008), (1016, 1048), (1024, 1024)] rfl rfl ⟨⟨_, rfl, by first | rfl | (simp only [AV.ren]; congr 1; omega), rfl⟩, ⟨_, rfl, by first | rfl | (simp only [AV.ren]; congr 1; omega), rfl⟩, ⟨_, rfl, by first | rfl | (simp only [AV.ren]; congr 1; omega), rfl⟩, ⟨_, rfl, by first | rfl | (simp only [AV.ren]; congr 1; omega), rfl⟩, ⟨_, rfl, by first | rfl | (simp only [AV.ren]; congr 1; omega), rfl⟩, ⟨_, rfl, by first | rfl | (simp only [AV.ren]; congr 1; omega), rfl⟩, trivial⟩ ⟨⟨_, _, rfl, rfl, rowW_ren _ _ _ _ _ _ _, rfl, id, rowW_nm _ _ _ _ _ _ _ rfl rfl⟩, HLe.oc (bK_le rfl rfl) (HLe.oc (bK_le rfl rfl) ⟨⟨_, _, rfl, rfl, congrArg (fun z => AV.aggS [live x, z]) (u.2.1.symm), rfl, id, rfl⟩, p8, p8, p8, p8, p8, p8, p8, p8, p8, p8, p8, p8, p8, p8, p8, p8, p8, p8, p8, p8, p8, p8, p8, p8, p8, p8, p8, p8, p8, p8, p8, p8, p8, p8, p8, p8, p8, p8, p8, p8, ⟨_, _, rfl, rfl, offC_ren _ o (rowsC_flat actN_flat l), rfl, id, offC_nm _ o (rowsC_flat actN_flat l)⟩, trivial⟩)⟩⟩
  ·refine .q (op_cmpI rfl rfl rfl) trivial rfl ?_
   refine .q (op_assign rfl) trivial rfl ?_
   refine .nil ?_
   show Ev _ _ _ _ _
   refine .cond_false rfl (beq_no k0) ?_
   refine .seq ?_
   refine .region ?_
   refine .q (op_cmpI rfl rfl rfl) trivial rfl ?_
   refine .q (op_assign rfl) trivial rfl ?_
   refine .nil ?_
   show Ev _ _ _ _ _
   refine .cond_true rfl (beq_of' k1) ?_
   refine .seq ?_
   refine .region ?_
   refine .q (op_move rfl) trivial rfl ?_
   refine .q (op_fieldAddr (m := 0) Tryd.underlying28 rfl (by kernel_rfl) rfl) trivial rfl ?_
   refine .as (.ptr 1032 1) rfl ?_
   refine .q (op_load Tryd.underlying3 rfl rfl rfl rfl (by show 1 < 5; decide)) trivial rfl ?_
   refine .as (.i64 1) (congrArg AV.i64 hw) ?_
   refine .q (op_fieldAddr (m := 0) Tryd.underlying28 rfl (by kernel_rfl) rfl) trivial rfl ?_
   refine .as (.ptr 1032 2) rfl ?_
   refine .q (op_load Tryd.underlying3 rfl rfl rfl rfl (by show 2 < 5; decide)) trivial rfl ?_
   refine .a (op_call (U := [(1000, some ⟨rowW R false 1008 1016 x (takeB K y), 51, true⟩)]) [(500, 1000), (501, 1008), (502, 1016)] [] (take1O R x y (30 * i) (by omega) hy (l.getD i default).n K (by omega)) Tryd.func11 (by kernel_rfl) rfl rfl rfl (⟨⟨_, rfl, rfl, rfl⟩, ⟨_, rfl, rfl, rfl⟩, ⟨_, rfl, rfl, rfl⟩, trivial⟩) (⟨⟨_, _, rfl, rfl, rowW_ren _ _ _ _ _ _ _, rfl, id, rowW_nmC _ _ _ _ _ _ _ rfl rfl⟩, HLeC.oc (bK_leC rfl rfl (fun _ => rfl)) trivial⟩) (⟨⟨500, _, rfl, rowW_uo rfl rfl, rfl, rowW_nmF _ _ _ _ _ _ _ _ rfl rfl, .inr ⟨rfl, _, rfl, rfl⟩⟩, trivial⟩) (⟨(fun _ => ⟨1000, _, rfl, rfl⟩), Cov.ob trivial⟩) rfl) trivial rfl ?_
   refine .q (op_move rfl) trivial rfl ?_
   refine .q (op_extract rfl rfl) trivial rfl ?_
   refine .q (op_extract rfl rfl) trivial rfl ?_
   refine .q (op_assign rfl) trivial rfl ?_
   refine .q (op_assign rfl) trivial rfl ?_
   refine .asR (.err 79 (0) (offE eo (0))) (nil_errN _ _) ?_
   refine .nil ?_
   show Ev _ _ _ _ _
   refine .seq ?_
   refine .seq ?_
   refine .region ?_
   refine .q (op_move rfl) trivial rfl ?_
   refine .q (op_cmpI rfl rfl rfl) trivial rfl ?_
   refine .nil ?_
   show Ev _ _ _ _ _
   refine .cond_true rfl (rfl) ?_
   refine .drawn [[], [], [1], [], [], [3, 4], [0, 1, 2, 3, 4, 5], [0, 1, 2, 3, 4, 5, 6]] [2, 7] [7] (by kernel_rfl) (by kernel_rfl) rfl ?_
   show DK _ [0, 1, 2, 3, 4, 5, 6, 7] _ _ _
   refine .q rfl (op_move rfl) trivial ?_
   refine .q rfl (op_fieldAddr (m := 0) Tryd.underlying28 rfl (by kernel_rfl) rfl) trivial ?_
   refine .as (.ptr 1032 1) rfl ?_
   refine .q rfl (op_load Tryd.underlying3 rfl rfl rfl rfl (by show 1 < 5; decide)) trivial ?_
   refine .as (.i64 1) (congrArg AV.i64 hw) ?_
   refine .q rfl (op_move rfl) trivial ?_
   refine .q rfl (op_move rfl) trivial ?_
   refine .q rfl (ap_slice_str_lo Tryd.underlying9 rfl (bnd_some rfl rfl) (by omega)) trivial ?_
   refine .q rfl (ap_idx0 Tryd.underlying26 inf9.sz rfl rfl (show (1 : Int) = ((1 : Nat) : Int) from rfl) (by decide)) trivial ?_
   refine .w rfl (op_store inf9.sz rfl rfl rfl rfl rfl (by first | omega | (simp only [AV.len]; omega) | (simp only [AV.len, List.length_set]; omega) | assumption | (simp [AV.len]; done))) trivial rfl rfl ?_
   refine .nil ?_
   show Ev _ _ _ _ _
   refine .seq ?_
   refine .region ?_
   refine .q (op_move rfl) trivial rfl ?_
   refine .q (op_move rfl) trivial rfl ?_
   refine .q (op_move rfl) trivial rfl ?_
   refine .q (ap_slice_str_hi Tryd.underlying9 rfl (bnd_some rfl rfl) (by omega)) trivial rfl ?_
   refine .q (op_eqS rfl rfl rfl) trivial rfl ?_
   refine .q (op_move rfl) trivial rfl ?_
   refine .know (b' := false) (bne_sameS rfl) ?_
   refine .q (op_move rfl) ⟨_, rfl, rfl⟩ rfl ?_
   refine .q (op_call (U := []) [] [] (code_0 eo hd) Tryd.func10 (by kernel_rfl) rfl rfl rfl (⟨⟨_, rfl, rfl, rfl⟩, trivial⟩) (⟨q8, q8, q8, q8, q8, q8, q8, q8, q8, q8, q8, q8, q8, q8, q8, q8, q8, q8, q8, q8, q8, q8, q8, q8, q8, q8, q8, q8, q8, q8, q8, q8, q8, q8, q8, q8, q8, q8, q8, q8, trivial⟩) (trivial) (⟨c8, c8, c8, c8, c8, c8, c8, c8, c8, c8, c8, c8, c8, c8, c8, c8, c8, c8, c8, c8, c8, c8, c8, c8, c8, c8, c8, c8, c8, c8, c8, c8, c8, c8, c8, c8, c8, c8, c8, c8, trivial⟩) rfl) ⟨_, rfl, rfl⟩ rfl ?_
   refine .q (op_move rfl) ⟨_, rfl, rfl⟩ rfl ?_
   refine .q (op_cmpI rfl rfl rfl) ⟨_, rfl, rfl⟩ rfl ?_
   refine .q (op_pick_false rfl rfl rfl) trivial rfl ?_
   refine .nil ?_
   show Ev _ _ _ _ _
   refine .cond_false rfl (rfl) ?_
   refine .skip ?_
   exact ⟨⟨false, x, takeB K y, .inr rfl, (hx.mono (by omega)), (takeB_ok (hy.mono (by omega)) (by omega)), lx, by rw [live_takeB, List.length_drop]; omega⟩, StLe.mk [(1000, 1000), (1008, 1008), (1016, 1016), (1024, 1024)] rfl rfl ⟨⟨_, rfl, by first | rfl | (simp only [AV.ren]; congr 1; omega), rfl⟩, ⟨_, rfl, by first | rfl | (simp only [AV.ren]; congr 1; omega), rfl⟩, ⟨_, rfl, by first | rfl | (simp only [AV.ren]; congr 1; omega), rfl⟩, ⟨_, rfl, by first | rfl | (simp only [AV.ren]; congr 1; omega), rfl⟩, ⟨_, rfl, by first | rfl | (simp only [AV.ren]; congr 1; omega), rfl⟩, ⟨_, rfl, by first | rfl | (simp only [AV.ren]; congr 1; omega), rfl⟩, trivial⟩ ⟨⟨_, _, rfl, rfl, rowW_ren _ _ _ _ _ _ _, rfl, id, rowW_nm _ _ _ _ _ _ _ rfl rfl⟩, HLe.oc (bK_le rfl rfl) (HLe.oc (bK_le rfl (bK_takeB _ _ _).symm) ⟨⟨_, _, rfl, rfl, congrArg (fun z => AV.aggS [live x, z]) ((live_takeB K y).symm), rfl, id, rfl⟩, p8, p8, p8, p8, p8, p8, p8, p8, p8, p8, p8, p8, p8, p8, p8, p8, p8, p8, p8, p8, p8, p8, p8, p8, p8, p8, p8, p8, p8, p8, p8, p8, p8, p8, p8, p8, p8, p8, p8, p8, ⟨_, _, rfl, rfl, offC_ren _ o (rowsC_flat actN_flat l), rfl, id, offC_nm _ o (rowsC_flat actN_flat l)⟩, trivial⟩)⟩⟩
  ·refine .q (op_cmpI rfl rfl rfl) trivial rfl ?_
   refine .q (op_assign rfl) trivial rfl ?_
   refine .nil ?_
   show Ev _ _ _ _ _
   refine .cond_false rfl (beq_no k0) ?_
   refine .seq ?_
   refine .region ?_
   refine .q (op_cmpI rfl rfl rfl) trivial rfl ?_
   refine .q (op_assign rfl) trivial rfl ?_
   refine .nil ?_
   show Ev _ _ _ _ _
   refine .cond_false rfl (beq_no k1) ?_
   refine .seq ?_
   refine .region ?_
   refine .q (op_cmpI rfl rfl rfl) trivial rfl ?_
   refine .q (op_assign rfl) trivial rfl ?_
   refine .nil ?_
   show Ev _ _ _ _ _
   refine .cond_true rfl (beq_of' k2) ?_
   refine .seq ?_
   refine .region ?_
   refine .q (op_move rfl) trivial rfl ?_
   refine .q (op_fieldAddr (m := 0) Tryd.underlying28 rfl (by kernel_rfl) rfl) trivial rfl ?_
   refine .as (.ptr 1032 1) rfl ?_
   refine .q (op_load Tryd.underlying3 rfl rfl rfl rfl (by show 1 < 5; decide)) trivial rfl ?_
   refine .as (.i64 1) (congrArg AV.i64 hw) ?_
   refine .q (op_fieldAddr (m := 0) Tryd.underlying28 rfl (by kernel_rfl) rfl) trivial rfl ?_
   refine .as (.ptr 1032 2) rfl ?_
   refine .q (op_load Tryd.underlying3 rfl rfl rfl rfl (by show 2 < 5; decide)) trivial rfl ?_
   refine .q (op_fieldAddr (m := 0) Tryd.underlying28 rfl (by kernel_rfl) rfl) trivial rfl ?_
   refine .as (.ptr 1032 4) rfl ?_
   refine .q (op_load Tryd.underlying5 rfl rfl rfl rfl (by show 4 < 5; decide)) trivial rfl ?_
   refine .q (op_call (U := []) [(500, 1000), (501, 1008), (502, 1016)] [] (bendn1O R x y (30 * i) (by omega) hy (l.getD i default).n (by omega) (l.getD i default).y eo) Tryd.func12 (by kernel_rfl) rfl rfl rfl (⟨⟨_, rfl, rfl, rfl⟩, ⟨_, rfl, rfl, rfl⟩, ⟨_, rfl, rfl, rfl⟩, ⟨_, rfl, rfl, rfl⟩, trivial⟩) (⟨⟨_, _, rfl, rfl, rowW_ren _ _ _ _ _ _ _, rfl, (fun h => by cases h), rowW_nmC _ _ _ _ _ _ _ rfl rfl⟩, ⟨_, _, rfl, rfl, rfl, rfl, (fun h => by cases h), rfl⟩, trivial⟩) (trivial) (⟨(fun h => by cases h), (fun h => by cases h), trivial⟩) rfl) trivial rfl ?_
   refine .q (op_assign rfl) trivial rfl ?_
   refine .nil ?_
   show Ev _ _ _ _ _
   refine .seq ?_
   refine .seq ?_
   refine .region ?_
   refine .q (op_move rfl) trivial rfl ?_
   refine .q (op_cmpI rfl rfl rfl) trivial rfl ?_
   refine .q (op_move rfl) trivial rfl ?_
   refine .know (b' := true) (rfl) ?_
   refine .q (op_fieldAddr (m := 0) Tryd.underlying28 rfl (by kernel_rfl) rfl) ⟨_, rfl, rfl⟩ rfl ?_
   refine .as (.ptr 1032 2) rfl ?_
   refine .q (op_load Tryd.underlying3 rfl rfl rfl rfl (by show 2 < 5; decide)) ⟨_, rfl, rfl⟩ rfl ?_
   refine .q (op_cmpI rfl rfl rfl) ⟨_, rfl, rfl⟩ rfl ?_
   refine .q (op_move rfl) ⟨_, rfl, rfl⟩ rfl ?_
   refine .know (b' := true) (decide_eq_true hn) ?_
   refine .no ⟨_, rfl, rfl⟩ rfl ?_
   refine .no ⟨_, rfl, rfl⟩ rfl ?_
   refine .no ⟨_, rfl, rfl⟩ rfl ?_
   refine .no ⟨_, rfl, rfl⟩ rfl ?_
   refine .no ⟨_, rfl, rfl⟩ rfl ?_
   refine .q (op_pick_true rfl rfl rfl) ⟨_, rfl, rfl⟩ rfl ?_
   refine .q (op_pick_true rfl rfl rfl) trivial rfl ?_
   refine .nil ?_
   show Ev _ _ _ _ _
   refine .cond_true rfl rfl ?_
   refine .region ?_
   refine .q (op_assign rfl) trivial rfl ?_
   refine .nil ?_
   show Ev _ _ _ _ _
   refine .seq ?_
   refine .seq ?_
   refine .region ?_
   refine .q (op_move rfl) trivial rfl ?_
   refine .q (op_cmpI rfl rfl rfl) trivial rfl ?_
   refine .nil ?_
   show Ev _ _ _ _ _
   refine .cond_false rfl (rfl) ?_
   refine .skip ?_
   show Ev _ _ _ _ _
   refine .seq ?_
   refine .region ?_
   refine .q (op_move rfl) trivial rfl ?_
   refine .q (op_call (U := []) [] [] (code_8 eo hd) Tryd.func10 (by kernel_rfl) rfl rfl rfl (⟨⟨_, rfl, rfl, rfl⟩, trivial⟩) (⟨q8, q8, q8, q8, q8, q8, q8, q8, q8, q8, q8, q8, q8, q8, q8, q8, q8, q8, q8, q8, q8, q8, q8, q8, q8, q8, q8, q8, q8, q8, q8, q8, q8, q8, q8, q8, q8, q8, q8, q8, trivial⟩) (trivial) (⟨c8, c8, c8, c8, c8, c8, c8, c8, c8, c8, c8, c8, c8, c8, c8, c8, c8, c8, c8, c8, c8, c8, c8, c8, c8, c8, c8, c8, c8, c8, c8, c8, c8, c8, c8, c8, c8, c8, c8, c8, trivial⟩) rfl) trivial rfl ?_
   refine .q (op_move rfl) trivial rfl ?_
   refine .q (op_cmpI rfl rfl rfl) trivial rfl ?_
   refine .nil ?_
   show Ev _ _ _ _ _
   refine .cond_false rfl (rfl) ?_
   refine .skip ?_
   exact ⟨⟨false, x, y, hdd, (hx.mono (by omega)), (hy.mono (by omega)), lx, ly⟩, StLe.mk [(1000, 1000), (1008, 1008), (1016, 1016), (1024, 1024)] rfl rfl ⟨⟨_, rfl, by first | rfl | (simp only [AV.ren]; congr 1; omega), rfl⟩, ⟨_, rfl, by first | rfl | (simp only [AV.ren]; congr 1; omega), rfl⟩, ⟨_, rfl, by first | rfl | (simp only [AV.ren]; congr 1; omega), rfl⟩, ⟨_, rfl, by first | rfl | (simp only [AV.ren]; congr 1; omega), rfl⟩, ⟨_, rfl, by first | rfl | (simp only [AV.ren]; congr 1; omega), rfl⟩, ⟨_, rfl, by first | rfl | (simp only [AV.ren]; congr 1; omega), rfl⟩, trivial⟩ ⟨⟨_, _, rfl, rfl, rowW_ren _ _ _ _ _ _ _, rfl, id, rowW_nm _ _ _ _ _ _ _ rfl rfl⟩, HLe.oc (bK_le rfl rfl) (HLe.oc (bK_le rfl rfl) ⟨⟨_, _, rfl, rfl, rfl, rfl, id, rfl⟩, p8, p8, p8, p8, p8, p8, p8, p8, p8, p8, p8, p8, p8, p8, p8, p8, p8, p8, p8, p8, p8, p8, p8, p8, p8, p8, p8, p8, p8, p8, p8, p8, p8, p8, p8, p8, p8, p8, p8, p8, ⟨_, _, rfl, rfl, offC_ren _ o (rowsC_flat actN_flat l), rfl, id, offC_nm _ o (rowsC_flat actN_flat l)⟩, trivial⟩)⟩⟩
  ·refine .q (op_cmpI rfl rfl rfl) trivial rfl ?_
   refine .q (op_assign rfl) trivial rfl ?_
   refine .nil ?_
   show Ev _ _ _ _ _
   refine .cond_false rfl (beq_no k0) ?_
   refine .seq ?_
   refine .region ?_
   refine .q (op_cmpI rfl rfl rfl) trivial rfl ?_
   refine .q (op_assign rfl) trivial rfl ?_
   refine .nil ?_
   show Ev _ _ _ _ _
   refine .cond_false rfl (beq_no k1) ?_
   refine .seq ?_
   refine .region ?_
   refine .q (op_cmpI rfl rfl rfl) trivial rfl ?_
   refine .q (op_assign rfl) trivial rfl ?_
   refine .nil ?_
   show Ev _ _ _ _ _
   refine .cond_true rfl (beq_of' k2) ?_
   refine .seq ?_
   refine .region ?_
   refine .q (op_move rfl) trivial rfl ?_
   refine .q (op_fieldAddr (m := 0) Tryd.underlying28 rfl (by kernel_rfl) rfl) trivial rfl ?_
   refine .as (.ptr 1032 1) rfl ?_
   refine .q (op_load Tryd.underlying3 rfl rfl rfl rfl (by show 1 < 5; decide)) trivial rfl ?_
   refine .as (.i64 1) (congrArg AV.i64 hw) ?_
   refine .q (op_fieldAddr (m := 0) Tryd.underlying28 rfl (by kernel_rfl) rfl) trivial rfl ?_
   refine .as (.ptr 1032 2) rfl ?_
   refine .q (op_load Tryd.underlying3 rfl rfl rfl rfl (by show 2 < 5; decide)) trivial rfl ?_
   refine .q (op_fieldAddr (m := 0) Tryd.underlying28 rfl (by kernel_rfl) rfl) trivial rfl ?_
   refine .as (.ptr 1032 4) rfl ?_
   refine .q (op_load Tryd.underlying5 rfl rfl rfl rfl (by show 4 < 5; decide)) trivial rfl ?_
   refine .q (op_call (U := []) [(500, 1000), (501, 1008), (502, 1016)] [] (bendn1O R x y (30 * i) (by omega) hy (l.getD i default).n (by omega) (l.getD i default).y eo) Tryd.func12 (by kernel_rfl) rfl rfl rfl (⟨⟨_, rfl, rfl, rfl⟩, ⟨_, rfl, rfl, rfl⟩, ⟨_, rfl, rfl, rfl⟩, ⟨_, rfl, rfl, rfl⟩, trivial⟩) (⟨⟨_, _, rfl, rfl, rowW_ren _ _ _ _ _ _ _, rfl, (fun h => by cases h), rowW_nmC _ _ _ _ _ _ _ rfl rfl⟩, ⟨_, _, rfl, rfl, rfl, rfl, (fun h => by cases h), rfl⟩, trivial⟩) (trivial) (⟨(fun h => by cases h), (fun h => by cases h), trivial⟩) rfl) trivial rfl ?_
   refine .q (op_assign rfl) trivial rfl ?_
   refine .nil ?_
   show Ev _ _ _ _ _
   refine .seq ?_
   refine .seq ?_
   refine .region ?_
   refine .q (op_move rfl) trivial rfl ?_
   refine .q (op_cmpI rfl rfl rfl) trivial rfl ?_
   refine .q (op_move rfl) trivial rfl ?_
   refine .know (b' := true) (rfl) ?_
   refine .q (op_fieldAddr (m := 0) Tryd.underlying28 rfl (by kernel_rfl) rfl) ⟨_, rfl, rfl⟩ rfl ?_
   refine .as (.ptr 1032 2) rfl ?_
   refine .q (op_load Tryd.underlying3 rfl rfl rfl rfl (by show 2 < 5; decide)) ⟨_, rfl, rfl⟩ rfl ?_
   refine .q (op_cmpI rfl rfl rfl) ⟨_, rfl, rfl⟩ rfl ?_
   refine .q (op_move rfl) ⟨_, rfl, rfl⟩ rfl ?_
   refine .know (b' := false) (decide_eq_false hn) ?_
   refine .q (op_fieldAddr (m := 0) Tryd.underlying28 rfl (by kernel_rfl) rfl) ⟨_, rfl, rfl⟩ rfl ?_
   refine .as (.ptr 1032 2) rfl ?_
   refine .q (op_load Tryd.underlying3 rfl rfl rfl rfl (by show 2 < 5; decide)) ⟨_, rfl, rfl⟩ rfl ?_
   refine .q (op_move rfl) ⟨_, rfl, rfl⟩ rfl ?_
   refine .q (op_len_str Tryd.underlying9 rfl) ⟨_, rfl, rfl⟩ rfl ?_
   refine .q (op_cmpI rfl rfl rfl) ⟨_, rfl, rfl⟩ rfl ?_
   refine .q (op_pick_false rfl rfl rfl) ⟨_, rfl, rfl⟩ rfl ?_
   refine .q (op_pick_true rfl rfl rfl) trivial rfl ?_
   refine .nil ?_
   show Ev _ _ _ _ _
   refine .cond_true rfl (decide_eq_true hn2) ?_
   refine .region ?_
   refine .q (op_assign rfl) trivial rfl ?_
   refine .nil ?_
   show Ev _ _ _ _ _
   refine .seq ?_
   refine .seq ?_
   refine .region ?_
   refine .q (op_move rfl) trivial rfl ?_
   refine .q (op_cmpI rfl rfl rfl) trivial rfl ?_
   refine .nil ?_
   show Ev _ _ _ _ _
   refine .cond_false rfl (rfl) ?_
   refine .skip ?_
   show Ev _ _ _ _ _
   refine .seq ?_
   refine .region ?_
   refine .q (op_move rfl) trivial rfl ?_
   refine .q (op_call (U := []) [] [] (code_8 eo hd) Tryd.func10 (by kernel_rfl) rfl rfl rfl (⟨⟨_, rfl, rfl, rfl⟩, trivial⟩) (⟨q8, q8, q8, q8, q8, q8, q8, q8, q8, q8, q8, q8, q8, q8, q8, q8, q8, q8, q8, q8, q8, q8, q8, q8, q8, q8, q8, q8, q8, q8, q8, q8, q8, q8, q8, q8, q8, q8, q8, q8, trivial⟩) (trivial) (⟨c8, c8, c8, c8, c8, c8, c8, c8, c8, c8, c8, c8, c8, c8, c8, c8, c8, c8, c8, c8, c8, c8, c8, c8, c8, c8, c8, c8, c8, c8, c8, c8, c8, c8, c8, c8, c8, c8, c8, c8, trivial⟩) rfl) trivial rfl ?_
   refine .q (op_move rfl) trivial rfl ?_
   refine .q (op_cmpI rfl rfl rfl) trivial rfl ?_
   refine .nil ?_
   show Ev _ _ _ _ _
   refine .cond_false rfl (rfl) ?_
   refine .skip ?_
   exact ⟨⟨false, x, y, hdd, (hx.mono (by omega)), (hy.mono (by omega)), lx, ly⟩, StLe.mk [(1000, 1000), (1008, 1008), (1016, 1016), (1024, 1024)] rfl rfl ⟨⟨_, rfl, by first | rfl | (simp only [AV.ren]; congr 1; omega), rfl⟩, ⟨_, rfl, by first | rfl | (simp only [AV.ren]; congr 1; omega), rfl⟩, ⟨_, rfl, by first | rfl | (simp only [AV.ren]; congr 1; omega), rfl⟩, ⟨_, rfl, by first | rfl | (simp only [AV.ren]; congr 1; omega), rfl⟩, ⟨_, rfl, by first | rfl | (simp only [AV.ren]; congr 1; omega), rfl⟩, ⟨_, rfl, by first | rfl | (simp only [AV.ren]; congr 1; omega), rfl⟩, trivial⟩ ⟨⟨_, _, rfl, rfl, rowW_ren _ _ _ _ _ _ _, rfl, id, rowW_nm _ _ _ _ _ _ _ rfl rfl⟩, HLe.oc (bK_le rfl rfl) (HLe.oc (bK_le rfl rfl) ⟨⟨_, _, rfl, rfl, rfl, rfl, id, rfl⟩, p8, p8, p8, p8, p8, p8, p8, p8, p8, p8, p8, p8, p8, p8, p8, p8, p8, p8, p8, p8, p8, p8, p8, p8, p8, p8, p8, p8, p8, p8, p8, p8, p8, p8, p8, p8, p8, p8, p8, p8, ⟨_, _, rfl, rfl, offC_ren _ o (rowsC_flat actN_flat l), rfl, id, offC_nm _ o (rowsC_flat actN_flat l)⟩, trivial⟩)⟩⟩
  ·refine .q (op_cmpI rfl rfl rfl) trivial rfl ?_
   refine .q (op_assign rfl) trivial rfl ?_
   refine .nil ?_
   show Ev _ _ _ _ _
   refine .cond_false rfl (beq_no k0) ?_
   refine .seq ?_
   refine .region ?_
   refine .q (op_cmpI rfl rfl rfl) trivial rfl ?_
   refine .q (op_assign rfl) trivial rfl ?_
   refine .nil ?_
   show Ev _ _ _ _ _
   refine .cond_false rfl (beq_no k1) ?_
   refine .seq ?_
   refine .region ?_
   refine .q (op_cmpI rfl rfl rfl) trivial rfl ?_
   refine .q (op_assign rfl) trivial rfl ?_
   refine .nil ?_
   show Ev _ _ _ _ _
   refine .cond_true rfl (beq_of' k2) ?_
   refine .seq ?_
   refine .region ?_
   have hAe : ∃ A : Nat, (l.getD i default).n = (A : Int) := ⟨(l.getD i default).n.toNat, (Int.toNat_of_nonneg (by omega)).symm⟩
   obtain ⟨A, hA⟩ := hAe
   have hA2 : A < (live y).length := by omega
   refine .q (op_move rfl) trivial rfl ?_
   refine .q (op_fieldAddr (m := 0) Tryd.underlying28 rfl (by kernel_rfl) rfl) trivial rfl ?_
   refine .as (.ptr 1032 1) rfl ?_
   refine .q (op_load Tryd.underlying3 rfl rfl rfl rfl (by show 1 < 5; decide)) trivial rfl ?_
   refine .as (.i64 1) (congrArg AV.i64 hw) ?_
   refine .q (op_fieldAddr (m := 0) Tryd.underlying28 rfl (by kernel_rfl) rfl) trivial rfl ?_
   refine .as (.ptr 1032 2) rfl ?_
   refine .q (op_load Tryd.underlying3 rfl rfl rfl rfl (by show 2 < 5; decide)) trivial rfl ?_
   refine .as (.i64 (A : Int)) (congrArg AV.i64 hA) ?_
   refine .q (op_fieldAddr (m := 0) Tryd.underlying28 rfl (by kernel_rfl) rfl) trivial rfl ?_
   refine .as (.ptr 1032 4) rfl ?_
   refine .q (op_load Tryd.underlying5 rfl rfl rfl rfl (by show 4 < 5; decide)) trivial rfl ?_
   refine .a (op_call (U := [(1016, bK true (bendB A (l.getD i default).y y))]) [(500, 1000), (501, 1008), (502, 1016)] [] (bend1O R x y (30 * i) (by omega) hy A hA2 (l.getD i default).y) Tryd.func12 (by kernel_rfl) rfl rfl rfl (⟨⟨_, rfl, rfl, rfl⟩, ⟨_, rfl, rfl, rfl⟩, ⟨_, rfl, rfl, rfl⟩, ⟨_, rfl, rfl, rfl⟩, trivial⟩) (⟨⟨_, _, rfl, rfl, rowW_ren _ _ _ _ _ _ _, rfl, (fun h => by cases h), rowW_nmC _ _ _ _ _ _ _ rfl rfl⟩, HLeC.oc (bK_leC rfl rfl id) trivial⟩) (UOk.oc (bK_uo (c := 502) (x := y) rfl rfl (fun h => by rw [bendB_some] at h; exact h) rfl) trivial) (⟨(fun h => by cases h), Cov.oc ⟨1016, _, rfl, rfl⟩ trivial⟩) rfl) trivial rfl ?_
   refine .q (op_assign rfl) trivial rfl ?_
   refine .asR (.err 79 (0) (offE eo (0))) (nil_errN _ _) ?_
   refine .nil ?_
   show Ev _ _ _ _ _
   refine .seq ?_
   refine .seq ?_
   refine .region ?_
   refine .q (op_move rfl) trivial rfl ?_
   refine .q (op_cmpI rfl rfl rfl) trivial rfl ?_
   refine .q (op_move rfl) trivial rfl ?_
   refine .know (b' := true) (rfl) ?_
   refine .q (op_fieldAddr (m := 0) Tryd.underlying28 rfl (by kernel_rfl) rfl) ⟨_, rfl, rfl⟩ rfl ?_
   refine .as (.ptr 1032 2) rfl ?_
   refine .q (op_load Tryd.underlying3 rfl rfl rfl rfl (by show 2 < 5; decide)) ⟨_, rfl, rfl⟩ rfl ?_
   refine .as (.i64 (A : Int)) (congrArg AV.i64 hA) ?_
   refine .q (op_cmpI rfl rfl rfl) ⟨_, rfl, rfl⟩ rfl ?_
   refine .q (op_move rfl) ⟨_, rfl, rfl⟩ rfl ?_
   refine .know (b' := false) (decide_eq_false (by omega)) ?_
   refine .q (op_fieldAddr (m := 0) Tryd.underlying28 rfl (by kernel_rfl) rfl) ⟨_, rfl, rfl⟩ rfl ?_
   refine .as (.ptr 1032 2) rfl ?_
   refine .q (op_load Tryd.underlying3 rfl rfl rfl rfl (by show 2 < 5; decide)) ⟨_, rfl, rfl⟩ rfl ?_
   refine .as (.i64 (A : Int)) (congrArg AV.i64 hA) ?_
   refine .q (op_move rfl) ⟨_, rfl, rfl⟩ rfl ?_
   refine .q (op_len_str Tryd.underlying9 rfl) ⟨_, rfl, rfl⟩ rfl ?_
   refine .q (op_cmpI rfl rfl rfl) ⟨_, rfl, rfl⟩ rfl ?_
   refine .q (op_pick_false rfl rfl rfl) ⟨_, rfl, rfl⟩ rfl ?_
   refine .q (op_pick_true rfl rfl rfl) trivial rfl ?_
   refine .nil ?_
   show Ev _ _ _ _ _
   refine .cond_false rfl (decide_eq_false (by omega)) ?_
   refine .skip ?_
   show Ev _ _ _ _ _
   refine .seq ?_
   refine .seq ?_
   refine .region ?_
   refine .q (op_move rfl) trivial rfl ?_
   refine .q (op_cmpI rfl rfl rfl) trivial rfl ?_
   refine .nil ?_
   show Ev _ _ _ _ _
   refine .cond_true rfl (rfl) ?_
   refine .drawn [[], [], [1], [], [], [4], [3, 4, 5], [], [], [8], [7, 8, 9], [], [11], [7, 8, 9, 10, 11, 12], [7, 8, 9, 10, 11, 12, 13], [7, 8, 9, 10, 11, 12, 13, 14], [3, 4, 5, 6, 7, 8, 9, 10, 11, 12, 13, 14, 15], [], [], [18], [18, 19], [17, 18, 19, 20], [3, 4, 5, 6, 7, 8, 9, 10, 11, 12, 13, 14, 15, 16, 17, 18, 19, 20, 21], [0, 1, 2, 3, 4, 5, 6, 7, 8, 9, 10, 11, 12, 13, 14, 15, 16, 17, 18, 19, 20, 21, 22], [0, 1, 2, 3, 4, 5, 6, 7, 8, 9, 10, 11, 12, 13, 14, 15, 16, 17, 18, 19, 20, 21, 22, 23]] [2, 5, 9, 12, 14, 15, 19, 24] [24] (by kernel_rfl) (by kernel_rfl) rfl ?_
   show DK _ [0, 1, 2, 3, 4, 5, 6, 7, 8, 9, 10, 11, 12, 13, 14, 15, 16, 17, 18, 19, 20, 21, 22, 23, 24] _ _ _
   refine .q rfl (op_move rfl) trivial ?_
   refine .q rfl (op_fieldAddr (m := 0) Tryd.underlying28 rfl (by kernel_rfl) rfl) trivial ?_
   refine .as (.ptr 1032 1) rfl ?_
   refine .q rfl (op_load Tryd.underlying3 rfl rfl rfl rfl (by show 1 < 5; decide)) trivial ?_
   refine .as (.i64 1) (congrArg AV.i64 hw) ?_
   refine .q rfl (op_move rfl) trivial ?_
   refine .q rfl (op_fieldAddr (m := 0) Tryd.underlying28 rfl (by kernel_rfl) rfl) trivial ?_
   refine .as (.ptr 1032 2) rfl ?_
   refine .q rfl (op_load Tryd.underlying3 rfl rfl rfl rfl (by show 2 < 5; decide)) trivial ?_
   refine .as (.i64 (A : Int)) (congrArg AV.i64 hA) ?_
   refine .q rfl (ap_slice_str_hi Tryd.underlying9 rfl (bnd_some rfl rfl) (by omega)) trivial ?_
   refine .q rfl (op_move rfl) trivial ?_
   refine .q rfl (op_fieldAddr (m := 0) Tryd.underlying28 rfl (by kernel_rfl) rfl) trivial ?_
   refine .as (.ptr 1032 2) rfl ?_
   refine .q rfl (op_load Tryd.underlying3 rfl rfl rfl rfl (by show 2 < 5; decide)) trivial ?_
   refine .as (.i64 (A : Int)) (congrArg AV.i64 hA) ?_
   refine .q rfl (op_index_str Tryd.underlying9 rfl rfl rfl (by omega)) trivial ?_
   refine .q rfl (op_fieldAddr (m := 0) Tryd.underlying28 rfl (by kernel_rfl) rfl) trivial ?_
   refine .as (.ptr 1032 4) rfl ?_
   refine .q rfl (op_load Tryd.underlying5 rfl rfl rfl rfl (by show 4 < 5; decide)) trivial ?_
   refine .q rfl (op_bin8 rfl rfl rfl) trivial ?_
   refine .a rfl (ap_build (us := [.u8 ((live y).getD A 0 ^^^ (l.getD i default).y)]) (c := .aggB [((live y).getD A 0 ^^^ (l.getD i default).y)]) Tryd.underlying38 inf5 rfl (by decide) (by decide) ⟨rfl, rfl, rfl, trivial⟩ rfl) trivial rfl rfl ?_
   refine .q rfl (op_bytes_str (l := [((live y).getD A 0 ^^^ (l.getD i default).y)]) (k := ⟨.aggB [((live y).getD A 0 ^^^ (l.getD i default).y)], 5, true⟩) Tryd.underlying38 Tryd.underlying5 Tryd.underlying9 rfl (by kernel_rfl) rfl (by show 0 + 1 ≤ 1; omega)) trivial ?_
   refine .as (.str [((live y).getD A 0 ^^^ (l.getD i default).y)]) rfl ?_
   refine .q rfl (op_addS rfl rfl (by rw [List.length_take, List.length_singleton]; omega)) trivial ?_
   refine .q rfl (op_move rfl) trivial ?_
   refine .q rfl (op_fieldAddr (m := 0) Tryd.underlying28 rfl (by kernel_rfl) rfl) trivial ?_
   refine .as (.ptr 1032 2) rfl ?_
   refine .q rfl (op_load Tryd.underlying3 rfl rfl rfl rfl (by show 2 < 5; decide)) trivial ?_
   refine .as (.i64 (A : Int)) (congrArg AV.i64 hA) ?_
   refine .q rfl (op_addI rfl rfl ⟨by omega, by omega⟩) trivial ?_
   refine .as (.i64 ((A + 1 : Nat) : Int)) (congrArg AV.i64 (by omega)) ?_
   refine .q rfl (ap_slice_str_lo Tryd.underlying9 rfl (bnd_some rfl rfl) (by omega)) trivial ?_
   refine .q rfl (op_addS rfl rfl (by rw [List.length_append, List.length_take, List.length_singleton, List.length_drop]; omega)) trivial ?_
   refine .q rfl (ap_idx0 Tryd.underlying26 inf9.sz rfl rfl (show (1 : Int) = ((1 : Nat) : Int) from rfl) (by decide)) trivial ?_
   refine .w rfl (op_store inf9.sz rfl rfl rfl rfl rfl (by first | omega | (simp only [AV.len]; omega) | (simp only [AV.len, List.length_set]; omega) | assumption | (simp [AV.len]; done))) trivial rfl rfl ?_
   refine .nil ?_
   show Ev _ _ _ _ _
   refine .seq ?_
   refine .region ?_
   refine .q (op_move rfl) trivial rfl ?_
   refine .q (op_call (U := []) [] [] (code_0 eo hd) Tryd.func10 (by kernel_rfl) rfl rfl rfl (⟨⟨_, rfl, rfl, rfl⟩, trivial⟩) (⟨q8, q8, q8, q8, q8, q8, q8, q8, q8, q8, q8, q8, q8, q8, q8, q8, q8, q8, q8, q8, q8, q8, q8, q8, q8, q8, q8, q8, q8, q8, q8, q8, q8, q8, q8, q8, q8, q8, q8, q8, trivial⟩) (trivial) (⟨c8, c8, c8, c8, c8, c8, c8, c8, c8, c8, c8, c8, c8, c8, c8, c8, c8, c8, c8, c8, c8, c8, c8, c8, c8, c8, c8, c8, c8, c8, c8, c8, c8, c8, c8, c8, c8, c8, c8, c8, trivial⟩) rfl) trivial rfl ?_
   refine .q (op_move rfl) trivial rfl ?_
   refine .q (op_cmpI rfl rfl rfl) trivial rfl ?_
   refine .nil ?_
   show Ev _ _ _ _ _
   refine .cond_false rfl (rfl) ?_
   refine .skip ?_
   exact ⟨⟨false, x, bendB A (l.getD i default).y y, .inr rfl, (hx.mono (by omega)), (bendB_ok (hy.mono (by omega))), lx, by rw [live_bendB hy hA2, List.length_set]; omega⟩, StLe.mk [(1000, 1000), (1008, 1008), (1016, 1016), (1024, 1024)] rfl rfl ⟨⟨_, rfl, by first | rfl | (simp only [AV.ren]; congr 1; omega), rfl⟩, ⟨_, rfl, by first | rfl | (simp only [AV.ren]; congr 1; omega), rfl⟩, ⟨_, rfl, by first | rfl | (simp only [AV.ren]; congr 1; omega), rfl⟩, ⟨_, rfl, by first | rfl | (simp only [AV.ren]; congr 1; omega), rfl⟩, ⟨_, rfl, by first | rfl | (simp only [AV.ren]; congr 1; omega), rfl⟩, ⟨_, rfl, by first | rfl | (simp only [AV.ren]; congr 1; omega), rfl⟩, trivial⟩ ⟨⟨_, _, rfl, rfl, (rowW_ren _ _ _ _ _ _ _).trans (bendB_row1 _ _ _ _ _ _ _ _).symm, rfl, id, rowW_nm _ _ _ _ _ _ _ rfl rfl⟩, HLe.oc (bK_le rfl rfl) (HLe.oc (bK_le rfl rfl) ⟨⟨_, _, rfl, rfl, congrArg (fun z => AV.aggS [live x, z]) ((bend_str hA2).trans (live_bendB hy hA2).symm), rfl, id, rfl⟩, p8, p8, p8, p8, p8, p8, p8, p8, p8, p8, p8, p8, p8, p8, p8, p8, p8, p8, p8, p8, p8, p8, p8, p8, p8, p8, p8, p8, p8, p8, p8, p8, p8, p8, p8, p8, p8, p8, p8, p8, ⟨_, _, rfl, rfl, offC_ren _ o (rowsC_flat actN_flat l), rfl, id, offC_nm _ o (rowsC_flat actN_flat l)⟩, trivial⟩)⟩⟩
  ·refine .q (op_cmpI rfl rfl rfl) trivial rfl ?_
   refine .q (op_assign rfl) trivial rfl ?_
   refine .nil ?_
   show Ev _ _ _ _ _
   refine .cond_false rfl (beq_no k0) ?_
   refine .seq ?_
   refine .region ?_
   refine .q (op_cmpI rfl rfl rfl) trivial rfl ?_
   refine .q (op_assign rfl) trivial rfl ?_
   refine .nil ?_
   show Ev _ _ _ _ _
   refine .cond_false rfl (beq_no k1) ?_
   refine .seq ?_
   refine .region ?_
   refine .q (op_cmpI rfl rfl rfl) trivial rfl ?_
   refine .q (op_assign rfl) trivial rfl ?_
   refine .nil ?_
   show Ev _ _ _ _ _
   refine .cond_false rfl (beq_no k2) ?_
   refine .seq ?_
   refine .region ?_
   refine .q (op_cmpI rfl rfl rfl) trivial rfl ?_
   refine .q (op_assign rfl) trivial rfl ?_
   refine .nil ?_
   show Ev _ _ _ _ _
   refine .cond_true rfl (beq_of' k3) ?_
   refine .seq ?_
   refine .region ?_
   refine .q (op_move rfl) trivial rfl ?_
   refine .q (op_fieldAddr (m := 0) Tryd.underlying28 rfl (by kernel_rfl) rfl) trivial rfl ?_
   refine .as (.ptr 1032 1) rfl ?_
   refine .q (op_load Tryd.underlying3 rfl rfl rfl rfl (by show 1 < 5; decide)) trivial rfl ?_
   refine .as (.i64 1) (congrArg AV.i64 hw) ?_
   refine .q (op_fieldAddr (m := 0) Tryd.underlying28 rfl (by kernel_rfl) rfl) trivial rfl ?_
   refine .as (.ptr 1032 2) rfl ?_
   refine .q (op_load Tryd.underlying3 rfl rfl rfl rfl (by show 2 < 5; decide)) trivial rfl ?_
   refine .a (op_call (U := [(1000, some ⟨rowW R false 1008 1016 x (takeB K y), 51, true⟩)]) [(500, 1000), (501, 1008), (502, 1016)] [] (lose1O R x y (30 * i) (by omega) hy (l.getD i default).n K (by omega)) Tryd.func13 (by kernel_rfl) rfl rfl rfl (⟨⟨_, rfl, rfl, rfl⟩, ⟨_, rfl, rfl, rfl⟩, ⟨_, rfl, rfl, rfl⟩, trivial⟩) (⟨⟨_, _, rfl, rfl, rowW_ren _ _ _ _ _ _ _, rfl, id, rowW_nmC _ _ _ _ _ _ _ rfl rfl⟩, HLeC.oc (bK_leC rfl rfl (fun _ => rfl)) trivial⟩) (⟨⟨500, _, rfl, rowW_uo rfl rfl, rfl, rowW_nmF _ _ _ _ _ _ _ _ rfl rfl, .inr ⟨rfl, _, rfl, rfl⟩⟩, trivial⟩) (⟨(fun _ => ⟨1000, _, rfl, rfl⟩), Cov.ob trivial⟩) rfl) trivial rfl ?_
   refine .q (op_move rfl) trivial rfl ?_
   refine .q (op_extract rfl rfl) trivial rfl ?_
   refine .q (op_extract rfl rfl) trivial rfl ?_
   refine .q (op_assign rfl) trivial rfl ?_
   refine .q (op_assign rfl) trivial rfl ?_
   refine .asR (.err 79 (0) (offE eo (0))) (nil_errN _ _) ?_
   refine .nil ?_
   show Ev _ _ _ _ _
   refine .seq ?_
   refine .seq ?_
   refine .region ?_
   refine .q (op_move rfl) trivial rfl ?_
   refine .q (op_cmpI rfl rfl rfl) trivial rfl ?_
   refine .nil ?_
   show Ev _ _ _ _ _
   refine .cond_true rfl (rfl) ?_
   refine .drawn [[], [], [1], [], [], [3, 4], [0, 1, 2, 3, 4, 5], [0, 1, 2, 3, 4, 5, 6]] [2, 7] [7] (by kernel_rfl) (by kernel_rfl) rfl ?_
   show DK _ [0, 1, 2, 3, 4, 5, 6, 7] _ _ _
   refine .q rfl (op_move rfl) trivial ?_
   refine .q rfl (op_fieldAddr (m := 0) Tryd.underlying28 rfl (by kernel_rfl) rfl) trivial ?_
   refine .as (.ptr 1032 1) rfl ?_
   refine .q rfl (op_load Tryd.underlying3 rfl rfl rfl rfl (by show 1 < 5; decide)) trivial ?_
   refine .as (.i64 1) (congrArg AV.i64 hw) ?_
   refine .q rfl (op_move rfl) trivial ?_
   refine .q rfl (op_move rfl) trivial ?_
   refine .q rfl (ap_slice_str_lo Tryd.underlying9 rfl (bnd_some rfl rfl) (by omega)) trivial ?_
   refine .q rfl (ap_idx0 Tryd.underlying26 inf9.sz rfl rfl (show (1 : Int) = ((1 : Nat) : Int) from rfl) (by decide)) trivial ?_
   refine .w rfl (op_store inf9.sz rfl rfl rfl rfl rfl (by first | omega | (simp only [AV.len]; omega) | (simp only [AV.len, List.length_set]; omega) | assumption | (simp [AV.len]; done))) trivial rfl rfl ?_
   refine .nil ?_
   show Ev _ _ _ _ _
   refine .seq ?_
   refine .region ?_
   refine .q (op_move rfl) trivial rfl ?_
   refine .q (op_move rfl) trivial rfl ?_
   refine .q (op_cmpI rfl rfl rfl) trivial rfl ?_
   refine .q (op_move rfl) trivial rfl ?_
   refine .know (b' := false) (bne_same rfl) ?_
   refine .q (op_move rfl) ⟨_, rfl, rfl⟩ rfl ?_
   refine .q (op_call (U := []) [] [] (code_0 eo hd) Tryd.func10 (by kernel_rfl) rfl rfl rfl (⟨⟨_, rfl, rfl, rfl⟩, trivial⟩) (⟨q8, q8, q8, q8, q8, q8, q8, q8, q8, q8, q8, q8, q8, q8, q8, q8, q8, q8, q8, q8, q8, q8, q8, q8, q8, q8, q8, q8, q8, q8, q8, q8, q8, q8, q8, q8, q8, q8, q8, q8, trivial⟩) (trivial) (⟨c8, c8, c8, c8, c8, c8, c8, c8, c8, c8, c8, c8, c8, c8, c8, c8, c8, c8, c8, c8, c8, c8, c8, c8, c8, c8, c8, c8, c8, c8, c8, c8, c8, c8, c8, c8, c8, c8, c8, c8, trivial⟩) rfl) ⟨_, rfl, rfl⟩ rfl ?_
   refine .q (op_move rfl) ⟨_, rfl, rfl⟩ rfl ?_
   refine .q (op_cmpI rfl rfl rfl) ⟨_, rfl, rfl⟩ rfl ?_
   refine .q (op_pick_false rfl rfl rfl) trivial rfl ?_
   refine .nil ?_
   show Ev _ _ _ _ _
   refine .cond_false rfl (rfl) ?_
   refine .skip ?_
   exact ⟨⟨false, x, takeB K y, .inr rfl, (hx.mono (by omega)), (takeB_ok (hy.mono (by omega)) (by omega)), lx, by rw [live_takeB, List.length_drop]; omega⟩, StLe.mk [(1000, 1000), (1008, 1008), (1016, 1016), (1024, 1024)] rfl rfl ⟨⟨_, rfl, by first | rfl | (simp only [AV.ren]; congr 1; omega), rfl⟩, ⟨_, rfl, by first | rfl | (simp only [AV.ren]; congr 1; omega), rfl⟩, ⟨_, rfl, by first | rfl | (simp only [AV.ren]; congr 1; omega), rfl⟩, ⟨_, rfl, by first | rfl | (simp only [AV.ren]; congr 1; omega), rfl⟩, ⟨_, rfl, by first | rfl | (simp only [AV.ren]; congr 1; omega), rfl⟩, ⟨_, rfl, by first | rfl | (simp only [AV.ren]; congr 1; omega), rfl⟩, trivial⟩ ⟨⟨_, _, rfl, rfl, rowW_ren _ _ _ _ _ _ _, rfl, id, rowW_nm _ _ _ _ _ _ _ rfl rfl⟩, HLe.oc (bK_le rfl rfl) (HLe.oc (bK_le rfl (bK_takeB _ _ _).symm) ⟨⟨_, _, rfl, rfl, congrArg (fun z => AV.aggS [live x, z]) ((live_takeB K y).symm), rfl, id, rfl⟩, p8, p8, p8, p8, p8, p8, p8, p8, p8, p8, p8, p8, p8, p8, p8, p8, p8, p8, p8, p8, p8, p8, p8, p8, p8, p8, p8, p8, p8, p8, p8, p8, p8, p8, p8, p8, p8, p8, p8, p8, ⟨_, _, rfl, rfl, offC_ren _ o (rowsC_flat actN_flat l), rfl, id, offC_nm _ o (rowsC_flat actN_flat l)⟩, trivial⟩)⟩⟩
  ·refine .q (op_cmpI rfl rfl rfl) trivial rfl ?_
   refine .q (op_assign rfl) trivial rfl ?_
   refine .nil ?_
   show Ev _ _ _ _ _
   refine .cond_false rfl (beq_no k0) ?_
   refine .seq ?_
   refine .region ?_
   refine .q (op_cmpI rfl rfl rfl) trivial rfl ?_
   refine .q (op_assign rfl) trivial rfl ?_
   refine .nil ?_
   show Ev _ _ _ _ _
   refine .cond_false rfl (beq_no k1) ?_
   refine .seq ?_
   refine .region ?_
   refine .q (op_cmpI rfl rfl rfl) trivial rfl ?_
   refine .q (op_assign rfl) trivial rfl ?_
   refine .nil ?_
   show Ev _ _ _ _ _
   refine .cond_false rfl (beq_no k2) ?_
   refine .seq ?_
   refine .region ?_
   refine .q (op_cmpI rfl rfl rfl) trivial rfl ?_
   refine .q (op_assign rfl) trivial rfl ?_
   refine .nil ?_
   show Ev _ _ _ _ _
   refine .cond_false rfl (beq_no k3) ?_
   refine .skip ?_
   exact ⟨⟨false, x, y, hdd, (hx.mono (by omega)), (hy.mono (by omega)), lx, ly⟩, StLe.mk [(1000, 1000), (1008, 1008), (1016, 1016), (1024, 1024)] rfl rfl ⟨⟨_, rfl, by first | rfl | (simp only [AV.ren]; congr 1; omega), rfl⟩, ⟨_, rfl, by first | rfl | (simp only [AV.ren]; congr 1; omega), rfl⟩, ⟨_, rfl, by first | rfl | (simp only [AV.ren]; congr 1; omega), rfl⟩, ⟨_, rfl, by first | rfl | (simp only [AV.ren]; congr 1; omega), rfl⟩, ⟨_, rfl, by first | rfl | (simp only [AV.ren]; congr 1; omega), rfl⟩, ⟨_, rfl, by first | rfl | (simp only [AV.ren]; congr 1; omega), rfl⟩, trivial⟩ ⟨⟨_, _, rfl, rfl, rowW_ren _ _ _ _ _ _ _, rfl, id, rowW_nm _ _ _ _ _ _ _ rfl rfl⟩, HLe.oc (bK_le rfl rfl) (HLe.oc (bK_le rfl rfl) ⟨⟨_, _, rfl, rfl, rfl, rfl, id, rfl⟩, p8, p8, p8, p8, p8, p8, p8, p8, p8, p8, p8, p8, p8, p8, p8, p8, p8, p8, p8, p8, p8, p8, p8, p8, p8, p8, p8, p8, p8, p8, p8, p8, p8, p8, p8, p8, p8, p8, p8, p8, ⟨_, _, rfl, rfl, offC_ren _ o (rowsC_flat actN_flat l), rfl, id, offC_nm _ o (rowsC_flat actN_flat l)⟩, trivial⟩)⟩⟩
 ·rintro ⟨d', x', y', hd', hx', hy', lx', ly'⟩
  exact plays_rest eo R hR0 hR1 o l i h120 d' x' y' hd' hx' hy' lx' ly'
end Go.Proofs.YtpmoonglbcglaaaDoor
