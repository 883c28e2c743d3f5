/-
  Texts of this claim.
-/
import Derived.Test.YtoigppbkfhfllaaDoorGX1
import Derived.Test.YtoigppbkfhfllaaDoorGX2
import Derived.Test.YtoigppbkfhfllaaDoorGY3
namespace Go.Proofs.YtoigppbkfhfllaaDoor
open Go.RowKit
theorem infField : Inf Tryd.prog 33 4 (.agg #[.int .i64 0, .int .u64 0, .string ⟨#[]⟩, .slice none 0 0]) := Inf.mk (b := 56) (by kernel_rfl) (by decide) rfl
theorem u64_app (x : UInt64) (r : List UInt8) (eo : Nat → Nat × Nat) : Meets Tryd.prog 24 [.ptr 500 0] [(500, some ⟨.agg [.str (DI.mk (numB x 8 8 ++ r) 0).r, .err 161 ((DI.mk (numB x 8 8 ++ r) 0).e) (offE eo ((DI.mk (numB x 8 8 ++ r) 0).e))], 82, true⟩), (3, some ⟨.agg [.err 161 (2) (offE eo (2))], errT, false⟩)] (.u64 x) [(500, some ⟨.agg [.str (DI.mk r 0).r, .err 161 ((DI.mk r 0).e) (offE eo ((DI.mk r 0).e))], 82, true⟩)] := by
  have := iu64_ev ⟨numB x 8 8 ++ r, 0⟩ eo
  rw [u64D_app] at this; exact this
theorem text_app (s : List UInt8) (hs : s.length ≤ 40) (r : List UInt8) (eo : Nat → Nat × Nat) : Meets Tryd.prog 25 [.ptr 500 0, .i64 40] [(500, some ⟨.agg [.str (DI.mk (textB s ++ r) 0).r, .err 161 ((DI.mk (textB s ++ r) 0).e) (offE eo ((DI.mk (textB s ++ r) 0).e))], 82, true⟩), (3, some ⟨.agg [.err 161 (2) (offE eo (2))], errT, false⟩), (0, some ⟨.agg [.err 161 (4) (offE eo (4))], errT, false⟩)] (.str s) [(500, some ⟨.agg [.str (DI.mk r 0).r, .err 161 ((DI.mk r 0).e) (offE eo ((DI.mk r 0).e))], 82, true⟩)] := by
  have := itext_ev ⟨textB s ++ r, 0⟩ 40 eo
  rw [textD_app s r 0 40 (by omega) (by omega)] at this; exact this
theorem names_app (ls : List (List UInt8)) (ha : ls.all nameOk = true) (hl : (joinB ls).length ≤ 4096) (r : List UInt8) (hr : r.length ≤ 80000000) (eo : Nat → Nat × Nat) : Meets Tryd.prog 27 [.ptr 500 0] [(500, some ⟨.agg [.str (DI.mk (namesB ls ++ r) 0).r, .err 161 ((DI.mk (namesB ls ++ r) 0).e) (offE eo ((DI.mk (namesB ls ++ r) 0).e))], 82, true⟩), (3, some ⟨.agg [.err 161 (2) (offE eo (2))], errT, false⟩), (0, some ⟨.agg [.err 161 (4) (offE eo (4))], errT, false⟩), (1, some ⟨.agg [.err 161 (3) (offE eo (3))], errT, false⟩)] (.dsl ls) [(500, some ⟨.agg [.str (DI.mk r 0).r, .err 161 ((DI.mk r 0).e) (offE eo ((DI.mk r 0).e))], 82, true⟩)] := by
  have := namesd_ev ⟨namesB ls ++ r, 0⟩ (by simp only [List.length_append, length_namesB]; omega) eo
  rw [namesD_app ls r 0 ha hl] at this; exact this
theorem big_app (s : List UInt8) (hs : s.length ≤ 40) (r : List UInt8) (hr : r.length ≤ 80000000) (eo : Nat → Nat × Nat) : Meets Tryd.prog 28 [.ptr 500 0, .i64 40] [(500, some ⟨.agg [.str (DI.mk (bigB s ++ r) 0).r, .err 161 ((DI.mk (bigB s ++ r) 0).e) (offE eo ((DI.mk (bigB s ++ r) 0).e))], 82, true⟩), (3, some ⟨.agg [.err 161 (2) (offE eo (2))], errT, false⟩), (0, some ⟨.agg [.err 161 (4) (offE eo (4))], errT, false⟩), (1, some ⟨.agg [.err 161 (3) (offE eo (3))], errT, false⟩)] (.str (shortB s)) [(500, some ⟨.agg [.str (DI.mk r 0).r, .err 161 ((DI.mk r 0).e) (offE eo ((DI.mk r 0).e))], 82, true⟩)] := by
  have := ibig_ev ⟨bigB s ++ r, 0⟩ 40 (by have := length_unsB (shortB s); have := length_shortB s; simp only [List.length_append, big_len]; omega) eo
  rw [bigD_app s r 0 hs] at this; exact this
theorem bool_app (b : Bool) (r : List UInt8) (eo : Nat → Nat × Nat) : Meets Tryd.prog 29 [.ptr 500 0] [(500, some ⟨.agg [.str (DI.mk (boolB b ++ r) 0).r, .err 161 ((DI.mk (boolB b ++ r) 0).e) (offE eo ((DI.mk (boolB b ++ r) 0).e))], 82, true⟩), (3, some ⟨.agg [.err 161 (2) (offE eo (2))], errT, false⟩)] (.bool b) [(500, some ⟨.agg [.str (DI.mk r 0).r, .err 161 ((DI.mk r 0).e) (offE eo ((DI.mk r 0).e))], 82, true⟩)] := by
  have := ibool_ev ⟨boolB b ++ r, 0⟩ eo
  rw [boolD_app] at this; exact this
/-- Where the inner loop stands: no name yet, or some. -/
inductive NI (ls : List (List UInt8))
  | nil (j : Nat) (h : j ≤ ls.length ∧ fltN ls j = [])
  | some (j : Nat) (h : j ≤ ls.length ∧ fltN ls j ≠ [])
theorem short0 {q : List UInt8} (h : q ≠ []) (h0 : q.getD 0 0 = 0) : shortB (q.drop 1) = shortB q := shortB_zero (List.length_pos_iff.2 h) h0
set_option maxHeartbeats 4000000 in
set_option maxRecDepth 100000 in
theorem wireBack_ev (eo : Nat → Nat × Nat) (o : Nat) (l : List FV) (hl : l.length ≤ maxLen) : Meets Tryd.prog 4 [.sl 450 o l.length 4] [(3, some ⟨.agg [.err 161 (2) (offE eo (2))], errT, false⟩), (0, some ⟨.agg [.err 161 (4) (offE eo (4))], errT, false⟩), (1, some ⟨.agg [.err 161 (3) (offE eo (3))], errT, false⟩), (450, some ⟨.agg (offC o (rowsC fvR l)), anyT, false⟩)] (.bool true) [] := by
 have hl2 : l.length ≤ 9223372036854775807 := by unfold maxLen at hl; omega
 refine meets_of_ev (nt := 129) Tryd.func4 rfl rfl (Nat.le_of_ble_eq_true rfl) ?_
 refine .seq ?_
 refine .region ?_
 refine .q (op_assign rfl) trivial rfl ?_
 refine .nil ?_
 show Ev _ _ _ _ _
 refine .seq ?_
 refine .seq ?_
 refine .region ?_
 refine .q (op_call (U := []) [] [] (awake9_ev eo) Tryd.func7 (by kernel_rfl) rfl rfl rfl (trivial) (⟨⟨_, _, rfl, rfl, rfl, rfl, (fun h => by cases h), rfl⟩, ⟨_, _, rfl, rfl, rfl, rfl, (fun h => by cases h), rfl⟩, ⟨_, _, rfl, rfl, rfl, rfl, (fun h => by cases h), rfl⟩, trivial⟩) (trivial) (⟨(fun h => by cases h), (fun h => by cases h), (fun h => by cases h), trivial⟩) rfl) trivial rfl ?_
 refine .q (op_notB rfl) trivial rfl ?_
 refine .nil ?_
 show Ev _ _ _ _ _
 refine .cond_false rfl (rfl) ?_
 refine .skip ?_
 show Ev _ _ _ _ _
 refine .seq ?_
 refine .region ?_
 refine .a (op_allocRow zero29 rel_zero29 rfl) trivial rfl ?_
 refine .nil ?_
 show Ev _ _ _ _ _
 refine .seq ?_
 refine .region ?_
 refine .q (op_assign rfl) trivial rfl ?_
 refine .nil ?_
 show Ev _ _ _ _ _
 refine .seq ?_
 refine .seq ?_
 refine .region ?_
 refine .q (op_assign rfl) trivial rfl ?_
 refine .nil ?_
 show Ev _ _ _ _ _
 refine .block ?_
 refine Ev.loop (ι := Option { k : Nat // 1 ≤ k ∧ k ≤ l.length ∧ k ≤ 12 }) (fun q => match q with | none => ⟨[(0, .sl 450 o l.length 4), (2, .bool false), (3, .ptr 1000 0), (4, .nilsl), (5, .i64 ((0 : Nat) : Int))], [(1000, some ⟨.agg [.val (.pointer none), .nilsl], 29, true⟩), (3, some ⟨.agg [.err 161 (2) (offE eo (2))], errT, false⟩), (0, some ⟨.agg [.err 161 (4) (offE eo (4))], errT, false⟩), (1, some ⟨.agg [.err 161 (3) (offE eo (3))], errT, false⟩), (450, some ⟨.agg (offC o (rowsC fvR l)), anyT, false⟩)], 1008⟩ | some q => ⟨[(0, .sl 450 o l.length 4), (2, .bool false), (3, .ptr 1000 0), (4, .sl 1016 0 q.1 4), (5, .i64 ((q.1 : Nat) : Int))], [(1000, some ⟨.agg [.ptr 1000 0, .sl 1008 0 ((encR (l.take q.1)).length) 1], 29, true⟩), (1008, some ⟨.aggB (encR (l.take q.1)), 5, true⟩), (1016, some ⟨.agg (rowsC ownR (l.take q.1)), 33, true⟩), (3, some ⟨.agg [.err 161 (2) (offE eo (2))], errT, false⟩), (0, some ⟨.agg [.err 161 (4) (offE eo (4))], errT, false⟩), (1, some ⟨.agg [.err 161 (3) (offE eo (3))], errT, false⟩), (450, some ⟨.agg (offC o (rowsC fvR l)), anyT, false⟩)], 1024⟩) (fun q => match q with | none => 13 | some q => 12 - q.1) none (StLe.mk [(1000, 1000)] rfl rfl ⟨⟨_, rfl, by rfl, rfl⟩, ⟨_, rfl, by rfl, rfl⟩, ⟨_, rfl, by rfl, rfl⟩, ⟨_, rfl, by rfl, rfl⟩, ⟨_, rfl, by rfl, rfl⟩, trivial⟩ ⟨⟨_, _, rfl, rfl, rfl, rfl, id, rfl⟩, ⟨_, _, rfl, rfl, rfl, rfl, (fun h => by cases h), rfl⟩, ⟨_, _, rfl, rfl, rfl, rfl, (fun h => by cases h), rfl⟩, ⟨_, _, rfl, rfl, rfl, rfl, (fun h => by cases h), rfl⟩, ⟨_, _, rfl, rfl, offC_ren _ o (rowsC_flat (fun _ => rfl) l), rfl, (fun h => by cases h), offC_nm _ o (rowsC_flat (fun _ => rfl) l)⟩, trivial⟩) ?_
 rintro (_ | ⟨k, hk1, hk2, hk3⟩)
 ·try dsimp only
  have h4l : (((l.getD 0 default).s.take 40)).length ≤ 40 := List.length_take_le 40 _
  have hu := uns40 (l.getD 0 default).s
  have hoj := ownL_join (l.getD 0 default)
  have hos := ownL_sum (l.getD 0 default)
  have hol := ownL_len (l.getD 0 default)
  have hfs := fewL_sum (l.getD 0 default).l
  have hfl := fewL_len (l.getD 0 default).l
  refine .seq ?_
  refine .seq ?_
  refine .region ?_
  refine .q (op_move rfl) trivial rfl ?_
  refine .q (op_move rfl) trivial rfl ?_
  refine .q (op_len_sl Tryd.underlying22 rfl) trivial rfl ?_
  refine .q (op_cmpI rfl rfl rfl) trivial rfl ?_
  refine .q (op_move rfl) trivial rfl ?_
  refine .split (fun hg20 => ?_) (fun hg20 => ?_)
  ·simp only [decide_eq_true_eq] at hg20
   refine .q (op_move rfl) ⟨_, rfl, rfl⟩ rfl ?_
   refine .q (op_cmpI rfl rfl rfl) ⟨_, rfl, rfl⟩ rfl ?_
   refine .q (op_pick_true rfl rfl rfl) trivial rfl ?_
   refine .nil ?_
   show Ev _ _ _ _ _
   refine .cond rfl (fun hc23 => ?_) (fun hc23 => ?_)
   ·simp only [decide_eq_true_eq] at hc23
    refine .skip ?_
    show Ev _ _ _ _ _
    refine .seq ?_
    refine .block ?_
    refine .seq ?_
    refine .region ?_
    refine .q (op_move rfl) trivial rfl ?_
    refine .q (op_move rfl) trivial rfl ?_
    refine .q (op_indexAddr (z := 4) Tryd.underlying22 (by kernel_rfl) rfl rfl rfl (show 0 < l.length by omega)) trivial rfl ?_
    refine .q (op_loadPart (m := 4) (r := .agg [.i64 (l.getD 0 default).k, .u64 (l.getD 0 default).n, .str (l.getD 0 default).s, .dsl (l.getD 0 default).l]) (cs := fvR (l.getD 0 default)) Tryd.underlying33 rfl (by kernel_rfl) rfl rfl rfl rfl (fvR_row o 0 l (show 0 < l.length by omega)) (by rw [offC_len, rowsC_len (f := fvR) (z := 4) (fun _ => rfl)]; omega)) trivial rfl ?_
    refine .q (op_call (U := []) [] [] (few_ev (l.getD 0 default).k (l.getD 0 default).n (l.getD 0 default).s (l.getD 0 default).l (Nat.le_trans (l.getD 0 default).hs (by decide)) (Nat.le_trans (l.getD 0 default).hl (by decide)) (fun j => Nat.le_trans ((l.getD 0 default).hb j) (by decide))) Tryd.func8 (by kernel_rfl) rfl rfl rfl (⟨⟨_, rfl, rfl, rfl⟩, trivial⟩) (trivial) (trivial) (trivial) rfl) trivial rfl ?_
    refine .as (.agg [.i64 (l.getD 0 default).k, .u64 (l.getD 0 default).n, .str ((l.getD 0 default).s.take 40), .dsl (fewL (l.getD 0 default).l)]) rfl ?_
    refine .a (op_allocRow zero33 rel_zero33 rfl) trivial rfl ?_
    refine .w (op_storeRow (by kernel_rfl) rfl rfl rfl rfl rfl (rfl) (rfl)) trivial rfl ?_
    refine .nil ?_
    show Ev _ _ _ _ _
    refine .seq ?_
    refine .region ?_
    refine .q (op_assign rfl) trivial rfl ?_
    refine .nil ?_
    show Ev _ _ _ _ _
    refine .seq ?_
    refine .seq ?_
    refine .region ?_
    refine .q (op_fieldAddr (m := 0) Tryd.underlying33 rfl (by kernel_rfl) rfl) trivial rfl ?_
    refine .as (.ptr 1008 3) rfl ?_
    refine .q (op_load Tryd.underlying31 rfl rfl rfl rfl (by show 3 < 4; decide)) trivial rfl ?_
    refine .q (op_len_dsl Tryd.underlying31 rfl) trivial rfl ?_
    refine .q (op_move rfl) trivial rfl ?_
    refine .nil ?_
    show Ev _ _ _ _ _
    refine .block ?_
    refine Ev.loop (ι := NI (fewL (l.getD 0 default).l)) (fun q => match q with | .nil j _ => ⟨[(0, .sl 450 o l.length 4), (2, .bool false), (3, .ptr 1000 0), (4, .nilsl), (5, .i64 ((0 : Nat) : Int)), (6, .ptr 1008 0), (7, .nilsl), (32, .dsl (fewL (l.getD 0 default).l)), (33, .i64 (((fewL (l.getD 0 default).l).length : Nat) : Int)), (34, .i64 ((j : Nat) : Int))], [(1000, some ⟨.agg [.val (.pointer none), .nilsl], 29, true⟩), (1008, some ⟨.agg [.i64 (l.getD 0 default).k, .u64 (l.getD 0 default).n, .str ((l.getD 0 default).s.take 40), .dsl (fewL (l.getD 0 default).l)], 33, true⟩), (3, some ⟨.agg [.err 161 (2) (offE eo (2))], errT, false⟩), (0, some ⟨.agg [.err 161 (4) (offE eo (4))], errT, false⟩), (1, some ⟨.agg [.err 161 (3) (offE eo (3))], errT, false⟩), (450, some ⟨.agg (offC o (rowsC fvR l)), anyT, false⟩)], 1016⟩ | .some j _ => ⟨[(0, .sl 450 o l.length 4), (2, .bool false), (3, .ptr 1000 0), (4, .nilsl), (5, .i64 ((0 : Nat) : Int)), (6, .ptr 1008 0), (7, .sl 1016 0 (fltN (fewL (l.getD 0 default).l) j).length 1), (32, .dsl (fewL (l.getD 0 default).l)), (33, .i64 (((fewL (l.getD 0 default).l).length : Nat) : Int)), (34, .i64 ((j : Nat) : Int))], [(1000, some ⟨.agg [.val (.pointer none), .nilsl], 29, true⟩), (1008, some ⟨.agg [.i64 (l.getD 0 default).k, .u64 (l.getD 0 default).n, .str ((l.getD 0 default).s.take 40), .dsl (fewL (l.getD 0 default).l)], 33, true⟩), (1016, some ⟨.aggS (fltN (fewL (l.getD 0 default).l) j), 9, true⟩), (3, some ⟨.agg [.err 161 (2) (offE eo (2))], errT, false⟩), (0, some ⟨.agg [.err 161 (4) (offE eo (4))], errT, false⟩), (1, some ⟨.agg [.err 161 (3) (offE eo (3))], errT, false⟩), (450, some ⟨.agg (offC o (rowsC fvR l)), anyT, false⟩)], 1024⟩) (fun q => match q with | .nil j _ => (fewL (l.getD 0 default).l).length - j | .some j _ => (fewL (l.getD 0 default).l).length - j) (.nil 0 ⟨Nat.zero_le _, rfl⟩) (StLe.mk [(1000, 1000), (1008, 1008)] rfl rfl ⟨⟨_, rfl, by rfl, rfl⟩, ⟨_, rfl, by rfl, rfl⟩, ⟨_, rfl, by rfl, rfl⟩, ⟨_, rfl, by rfl, rfl⟩, ⟨_, rfl, by rfl, rfl⟩, ⟨_, rfl, by rfl, rfl⟩, ⟨_, rfl, by rfl, rfl⟩, ⟨_, rfl, by rfl, rfl⟩, ⟨_, rfl, by rfl, rfl⟩, ⟨_, rfl, by rfl, rfl⟩, trivial⟩ ⟨⟨_, _, rfl, rfl, rfl, rfl, id, rfl⟩, ⟨_, _, rfl, rfl, rfl, rfl, id, rfl⟩, ⟨_, _, rfl, rfl, rfl, rfl, (fun h => by cases h), rfl⟩, ⟨_, _, rfl, rfl, rfl, rfl, (fun h => by cases h), rfl⟩, ⟨_, _, rfl, rfl, rfl, rfl, (fun h => by cases h), rfl⟩, ⟨_, _, rfl, rfl, offC_ren _ o (rowsC_flat (fun _ => rfl) l), rfl, (fun h => by cases h), offC_nm _ o (rowsC_flat (fun _ => rfl) l)⟩, trivial⟩) ?_
    rintro (⟨j, hj⟩ | ⟨j, hj⟩)
    ·try dsimp only
     refine .seq ?_
     refine .region ?_
     refine .q (op_cmpI rfl rfl rfl) trivial rfl ?_
     refine .nil ?_
     show Ev _ _ _ _ _
     refine .seq ?_
     refine .cond rfl (fun hc35 => ?_) (fun hc35 => ?_)
     ·simp only [decide_eq_true_eq] at hc35
      refine .skip ?_
      show Ev _ _ _ _ _
      refine .seq ?_
      refine .block ?_
      refine .seq ?_
      refine .region ?_
      have hlt : j < (fewL (l.getD 0 default).l).length := by omega
      have hjl := fltN_len (fewL (l.getD 0 default).l) j
      refine .q (op_indexAddr_dsl Tryd.underlying31 inf9.sz rfl rfl rfl (by first | omega | (simp only [AV.len]; omega) | (simp only [AV.len, List.length_set]; omega) | assumption | (simp [AV.len]; done))) trivial rfl ?_
      refine .q (op_load_dptr Tryd.underlying9 rfl rfl (drop_get (by omega))) trivial rfl ?_
      refine .q (op_assign rfl) trivial rfl ?_
      refine .nil ?_
      show Ev _ _ _ _ _
      refine .seq ?_
      refine .region ?_
      refine .q (op_move rfl) trivial rfl ?_
      refine .q (op_call (U := []) [] [] (rname_ev ((fewL (l.getD 0 default).l).getD j []) (by have := getD_le_sumB (fewL (l.getD 0 default).l) j; omega)) Tryd.func22 (by kernel_rfl) rfl rfl rfl (⟨⟨_, rfl, rfl, rfl⟩, trivial⟩) (trivial) (trivial) (trivial) rfl) trivial rfl ?_
      refine .nil ?_
      show Ev _ _ _ _ _
      refine .cond rfl (fun hc39 => ?_) (fun hc39 => ?_)
      ·skip
       have hyes : nameOk ((fewL (l.getD 0 default).l).getD j []) = true := hc39
       refine .region ?_
       refine .q (op_move rfl) trivial rfl ?_
       refine .q (op_move rfl) trivial rfl ?_
       refine .a (ap_build (us := [_]) (c := .aggS [_]) Tryd.underlying31 inf9 rfl (by decide) (by decide) ⟨rfl, rfl, rfl, trivial⟩ rfl) trivial rfl ?_
       refine .a (ap_cat_nil Tryd.underlying31 inf9 rfl rfl rfl rfl (by first | rfl | omega | (simp only [AV.len]; done) | decide) (by first | rfl | omega | (simp only [AV.len]; done) | decide)) trivial rfl ?_
       refine .q (op_assign rfl) trivial rfl ?_
       refine .nil ?_
       show Ev _ _ _ _ _
       refine .region ?_
       refine .q (op_addI rfl rfl ⟨by omega, by omega⟩) trivial rfl ?_
       refine .q (op_move rfl) trivial rfl ?_
       refine .nil ?_
       exact ⟨.some (j + 1) ⟨by omega, by rw [fltN_yes hlt hyes]; simp⟩, by show (fewL (l.getD 0 default).l).length - (j + 1) < (fewL (l.getD 0 default).l).length - j; omega, StLe.mk [(1000, 1000), (1008, 1008), (1016, 1024)] rfl rfl ⟨⟨_, rfl, by rfl, rfl⟩, ⟨_, rfl, by rfl, rfl⟩, ⟨_, rfl, by rfl, rfl⟩, ⟨_, rfl, by rfl, rfl⟩, ⟨_, rfl, by rfl, rfl⟩, ⟨_, rfl, by rfl, rfl⟩, ⟨_, rfl, by (simp only [AV.ren]; rw [fltN_yes hlt hyes, hj.2]; rfl), rfl⟩, ⟨_, rfl, by rfl, rfl⟩, ⟨_, rfl, by rfl, rfl⟩, ⟨_, rfl, by rfl, rfl⟩, trivial⟩ ⟨⟨_, _, rfl, rfl, rfl, rfl, id, rfl⟩, ⟨_, _, rfl, rfl, rfl, rfl, id, rfl⟩, ⟨_, _, rfl, rfl, by (rw [fltN_yes hlt hyes, hj.2]; rfl), rfl, id, rfl⟩, ⟨_, _, rfl, rfl, rfl, rfl, (fun h => by cases h), rfl⟩, ⟨_, _, rfl, rfl, rfl, rfl, (fun h => by cases h), rfl⟩, ⟨_, _, rfl, rfl, rfl, rfl, (fun h => by cases h), rfl⟩, ⟨_, _, rfl, rfl, offC_ren _ o (rowsC_flat (fun _ => rfl) l), rfl, (fun h => by cases h), offC_nm _ o (rowsC_flat (fun _ => rfl) l)⟩, trivial⟩⟩
      ·skip
       have hno : nameOk ((fewL (l.getD 0 default).l).getD j []) = false := hc39
       refine .skip ?_
       show Ev _ _ _ _ _
       refine .region ?_
       refine .q (op_addI rfl rfl ⟨by omega, by omega⟩) trivial rfl ?_
       refine .q (op_move rfl) trivial rfl ?_
       refine .nil ?_
       exact ⟨.nil (j + 1) ⟨by omega, (fltN_no hlt hno).trans hj.2⟩, by show (fewL (l.getD 0 default).l).length - (j + 1) < (fewL (l.getD 0 default).l).length - j; omega, StLe.mk [(1000, 1000), (1008, 1008)] rfl rfl ⟨⟨_, rfl, by rfl, rfl⟩, ⟨_, rfl, by rfl, rfl⟩, ⟨_, rfl, by rfl, rfl⟩, ⟨_, rfl, by rfl, rfl⟩, ⟨_, rfl, by rfl, rfl⟩, ⟨_, rfl, by rfl, rfl⟩, ⟨_, rfl, by rfl, rfl⟩, ⟨_, rfl, by rfl, rfl⟩, ⟨_, rfl, by rfl, rfl⟩, ⟨_, rfl, by rfl, rfl⟩, trivial⟩ ⟨⟨_, _, rfl, rfl, rfl, rfl, id, rfl⟩, ⟨_, _, rfl, rfl, rfl, rfl, id, rfl⟩, ⟨_, _, rfl, rfl, rfl, rfl, (fun h => by cases h), rfl⟩, ⟨_, _, rfl, rfl, rfl, rfl, (fun h => by cases h), rfl⟩, ⟨_, _, rfl, rfl, rfl, rfl, (fun h => by cases h), rfl⟩, ⟨_, _, rfl, rfl, offC_ren _ o (rowsC_flat (fun _ => rfl) l), rfl, (fun h => by cases h), offC_nm _ o (rowsC_flat (fun _ => rfl) l)⟩, trivial⟩⟩
     ·simp only [decide_eq_false_iff_not] at hc35
      refine .exit ?_
      show Ev _ _ _ _ _
      have hF : fltN (fewL (l.getD 0 default).l) j = (ownL (l.getD 0 default)) := by rw [← fltN_all]; rw [show j = (fewL (l.getD 0 default).l).length by omega]
      refine Ev.weak (st2 := ⟨[(7, .nilsl), (0, .sl 450 o l.length 4), (2, .bool false), (3, .ptr 1000 0), (4, .nilsl), (5, .i64 ((0 : Nat) : Int)), (6, .ptr 1008 0)], [(1000, some ⟨.agg [.val (.pointer none), .nilsl], 29, true⟩), (1008, some ⟨.agg [.i64 (l.getD 0 default).k, .u64 (l.getD 0 default).n, .str ((l.getD 0 default).s.take 40), .dsl (fewL (l.getD 0 default).l)], 33, true⟩), (3, some ⟨.agg [.err 161 (2) (offE eo (2))], errT, false⟩), (0, some ⟨.agg [.err 161 (4) (offE eo (4))], errT, false⟩), (1, some ⟨.agg [.err 161 (3) (offE eo (3))], errT, false⟩), (450, some ⟨.agg (offC o (rowsC fvR l)), anyT, false⟩)], 1016⟩) (StLe.mk [(1000, 1000), (1008, 1008)] rfl rfl ⟨⟨_, rfl, by rfl, rfl⟩, ⟨_, rfl, by rfl, rfl⟩, ⟨_, rfl, by rfl, rfl⟩, ⟨_, rfl, by rfl, rfl⟩, ⟨_, rfl, by rfl, rfl⟩, ⟨_, rfl, by rfl, rfl⟩, ⟨_, rfl, by rfl, rfl⟩, trivial⟩ ⟨⟨_, _, rfl, rfl, rfl, rfl, id, rfl⟩, ⟨_, _, rfl, rfl, rfl, rfl, id, rfl⟩, ⟨_, _, rfl, rfl, rfl, rfl, (fun h => by cases h), rfl⟩, ⟨_, _, rfl, rfl, rfl, rfl, (fun h => by cases h), rfl⟩, ⟨_, _, rfl, rfl, rfl, rfl, (fun h => by cases h), rfl⟩, ⟨_, _, rfl, rfl, offC_ren _ o (rowsC_flat (fun _ => rfl) l), rfl, (fun h => by cases h), offC_nm _ o (rowsC_flat (fun _ => rfl) l)⟩, trivial⟩) ?_
      refine Ev.asR (T1 := []) (.dsl (ownL (l.getD 0 default))) (fun E y h => by rw [← hF, hj.2]; exact nil_dsl E y h) ?_
      show Ev _ _ _ _ _
      refine .seq ?_
      refine .region ?_
      refine .q (op_move rfl) trivial rfl ?_
      refine .q (op_fieldAddr (m := 0) Tryd.underlying33 rfl (by kernel_rfl) rfl) trivial rfl ?_
      refine .as (.ptr 1008 3) rfl ?_
      refine .w (op_store (by kernel_rfl) rfl rfl rfl rfl rfl (by show 3 < 4; decide)) trivial rfl ?_
      refine .nil ?_
      show Ev _ _ _ _ _
      refine .seq ?_
      refine .region ?_
      refine .q (op_move rfl) trivial rfl ?_
      refine .q (op_loadRow Tryd.underlying33 rfl (by kernel_rfl) rfl rfl rfl (rfl)) trivial rfl ?_
      refine .a (op_buildRow (z := 4) (r := .agg (ownR (l.getD 0 default))) (cs := ownR (l.getD 0 default)) Tryd.underlying22 infField (by decide) (by decide) rfl rfl rfl) trivial rfl ?_
      refine .a (ap_append_nil (c' := .agg (ownR (l.getD 0 default))) Tryd.underlying22 Tryd.underlying22 (.inr ⟨_, rfl⟩) infField rfl (srcs_sl (m := 1) (o := 0) rfl rfl (by show 4 ≤ 4; decide)) rfl (by decide) (by decide)) trivial rfl ?_
      refine .q (op_assign rfl) trivial rfl ?_
      refine .nil ?_
      show Ev _ _ _ _ _
      refine .drawnF [[], [0], [0, 1], [], [3], [0, 1, 2, 3, 4], [], [6], [0, 1, 2, 3, 4, 5, 6, 7], [], [9], [0, 1, 2, 3, 4, 5, 6, 7, 8, 9, 10], [], [12], [12, 13], [0, 1, 2, 3, 4, 5, 6, 7, 8, 9, 10, 11, 12, 13, 14]] [1, 2, 4, 5, 7, 8, 10, 11, 13, 15] [] [(1, ([1008], [])), (2, ([], [1000])), (4, ([1008], [])), (5, ([], [1000, 1048])), (7, ([1008], [])), (8, ([], [1000, 1072])), (10, ([1008], [])), (11, ([], [1000, 1096])), (13, ([1008], [])), (15, ([], [1000, 1120]))] (by kernel_rfl) (by kernel_rfl) rfl ?_
      show DK _ [0, 1, 2, 3, 4, 5, 6, 7, 8, 9, 10, 11, 12, 13, 14, 15] _ _ _
      refine .q rfl (op_fieldAddr (m := 0) Tryd.underlying33 rfl (by kernel_rfl) rfl) trivial ?_
      refine .as (.ptr 1008 1) rfl ?_
      refine .q rfl (op_load Tryd.underlying30 rfl rfl rfl rfl (by show 1 < 4; decide)) trivial ?_
      refine .a rfl (op_call (U := [(1000, some ⟨.agg [.ptr 1000 0, .sl 1048 0 (8) 1], 29, true⟩), (1048, some ⟨.aggB (numB (l.getD 0 default).n 8 8), 5, true⟩)]) [(500, 1000)] [(1048, 1000)] (u640_ev (l.getD 0 default).n) Tryd.func13 (by kernel_rfl) rfl rfl rfl (⟨⟨_, rfl, rfl, rfl⟩, ⟨_, rfl, rfl, rfl⟩, trivial⟩) (⟨⟨_, _, rfl, rfl, rfl, rfl, id, rfl⟩, trivial⟩) (⟨⟨500, _, rfl, rfl, rfl, rfl, .inr ⟨rfl, _, rfl, rfl⟩⟩, ⟨1000, _, rfl, rfl, rfl, rfl, .inl rfl⟩, trivial⟩) (⟨(fun _ => ⟨1000, _, rfl, rfl⟩), trivial⟩) rfl) trivial rfl rfl ?_
      refine .q rfl (op_fieldAddr (m := 0) Tryd.underlying33 rfl (by kernel_rfl) rfl) trivial ?_
      refine .as (.ptr 1008 2) rfl ?_
      refine .q rfl (op_load Tryd.underlying9 rfl rfl rfl rfl (by show 2 < 4; decide)) trivial ?_
      refine .a rfl (op_call (U := [(1000, some ⟨.agg [.ptr 1000 0, .sl 1072 0 (8 + (4 + ((l.getD 0 default).s.take 40).length)) 1], 29, true⟩), (1072, some ⟨.aggB ((numB (l.getD 0 default).n 8 8) ++ textB ((l.getD 0 default).s.take 40)), 5, true⟩), (1048, none)]) [(500, 1000), (501, 1048)] [(1072, 1008)] (text2_ev ((l.getD 0 default).s.take 40) (by omega) ((numB (l.getD 0 default).n 8 8)) (8) (by first | exact hn | rfl | (simp only [List.length_append, length_numB, length_textB, length_namesB, big_len, length_boolB]; done) | (simp only [List.length_append, length_numB, length_textB, length_namesB, big_len, length_boolB]; omega)) (by omega)) Tryd.func19 (by kernel_rfl) rfl rfl rfl (⟨⟨_, rfl, rfl, rfl⟩, ⟨_, rfl, rfl, rfl⟩, trivial⟩) (⟨⟨_, _, rfl, rfl, rfl, rfl, id, rfl⟩, ⟨_, _, rfl, rfl, rfl, rfl, id, rfl⟩, trivial⟩) (⟨⟨500, _, rfl, rfl, rfl, rfl, .inr ⟨rfl, _, rfl, rfl⟩⟩, ⟨1008, _, rfl, rfl, rfl, rfl, .inl rfl⟩, trivial⟩) (⟨(fun _ => ⟨1000, _, rfl, rfl⟩), (fun _ => ⟨1048, _, rfl, rfl⟩), trivial⟩) rfl) trivial rfl rfl ?_
      refine .q rfl (op_fieldAddr (m := 0) Tryd.underlying33 rfl (by kernel_rfl) rfl) trivial ?_
      refine .as (.ptr 1008 3) rfl ?_
      refine .q rfl (op_load Tryd.underlying31 rfl rfl rfl rfl (by show 3 < 4; decide)) trivial ?_
      refine .a rfl (op_call (U := [(1000, some ⟨.agg [.ptr 1000 0, .sl 1096 0 (8 + (4 + ((l.getD 0 default).s.take 40).length) + (4 + (joinB (ownL (l.getD 0 default))).length)) 1], 29, true⟩), (1096, some ⟨.aggB (((numB (l.getD 0 default).n 8 8) ++ textB ((l.getD 0 default).s.take 40)) ++ namesB (ownL (l.getD 0 default))), 5, true⟩), (1072, none)]) [(500, 1000), (501, 1072)] [(1096, 1000)] (names2_ev (ownL (l.getD 0 default)) (by omega) (by omega) (((numB (l.getD 0 default).n 8 8) ++ textB ((l.getD 0 default).s.take 40))) (8 + (4 + ((l.getD 0 default).s.take 40).length)) (by first | exact hn | rfl | (simp only [List.length_append, length_numB, length_textB]; done) | (simp only [List.length_append, length_numB, length_textB, length_namesB, big_len, length_boolB]; omega)) (by omega)) Tryd.func15 (by kernel_rfl) rfl rfl rfl (⟨⟨_, rfl, rfl, rfl⟩, ⟨_, rfl, rfl, rfl⟩, trivial⟩) (⟨⟨_, _, rfl, rfl, rfl, rfl, id, rfl⟩, ⟨_, _, rfl, rfl, rfl, rfl, id, rfl⟩, trivial⟩) (⟨⟨500, _, rfl, rfl, rfl, rfl, .inr ⟨rfl, _, rfl, rfl⟩⟩, ⟨1000, _, rfl, rfl, rfl, rfl, .inl rfl⟩, trivial⟩) (⟨(fun _ => ⟨1000, _, rfl, rfl⟩), (fun _ => ⟨1072, _, rfl, rfl⟩), trivial⟩) rfl) trivial rfl rfl ?_
      refine .q rfl (op_fieldAddr (m := 0) Tryd.underlying33 rfl (by kernel_rfl) rfl) trivial ?_
      refine .as (.ptr 1008 2) rfl ?_
      refine .q rfl (op_load Tryd.underlying9 rfl rfl rfl rfl (by show 2 < 4; decide)) trivial ?_
      refine .a rfl (op_call (U := [(1000, some ⟨.agg [.ptr 1000 0, .sl 1120 0 (8 + (4 + ((l.getD 0 default).s.take 40).length) + (4 + (joinB (ownL (l.getD 0 default))).length) + (4 + (unsB (shortB ((l.getD 0 default).s.take 40))).length)) 1], 29, true⟩), (1120, some ⟨.aggB ((((numB (l.getD 0 default).n 8 8) ++ textB ((l.getD 0 default).s.take 40)) ++ namesB (ownL (l.getD 0 default))) ++ bigB ((l.getD 0 default).s.take 40)), 5, true⟩), (1096, none)]) [(500, 1000), (501, 1096)] [(1120, 1000)] (big2_ev ((l.getD 0 default).s.take 40) (by omega) ((((numB (l.getD 0 default).n 8 8) ++ textB ((l.getD 0 default).s.take 40)) ++ namesB (ownL (l.getD 0 default)))) (8 + (4 + ((l.getD 0 default).s.take 40).length) + (4 + (joinB (ownL (l.getD 0 default))).length)) (by first | exact hn | rfl | (simp only [List.length_append, length_numB, length_textB, length_namesB]; done) | (simp only [List.length_append, length_numB, length_textB, length_namesB, big_len, length_boolB]; omega)) (by omega)) Tryd.func17 (by kernel_rfl) rfl rfl rfl (⟨⟨_, rfl, rfl, rfl⟩, ⟨_, rfl, rfl, rfl⟩, trivial⟩) (⟨⟨_, _, rfl, rfl, rfl, rfl, id, rfl⟩, ⟨_, _, rfl, rfl, rfl, rfl, id, rfl⟩, trivial⟩) (⟨⟨500, _, rfl, rfl, rfl, rfl, .inr ⟨rfl, _, rfl, rfl⟩⟩, ⟨1000, _, rfl, rfl, rfl, rfl, .inl rfl⟩, trivial⟩) (⟨(fun _ => ⟨1000, _, rfl, rfl⟩), (fun _ => ⟨1096, _, rfl, rfl⟩), trivial⟩) rfl) trivial rfl rfl ?_
      refine .q rfl (op_fieldAddr (m := 0) Tryd.underlying33 rfl (by kernel_rfl) rfl) trivial ?_
      refine .as (.ptr 1008 1) rfl ?_
      refine .q rfl (op_load Tryd.underlying30 rfl rfl rfl rfl (by show 1 < 4; decide)) trivial ?_
      refine .q rfl (op_bin64 rfl rfl rfl) trivial ?_
      refine .as (.bool (decide (9 < (l.getD 0 default).n))) rfl ?_
      refine .a rfl (op_call (U := [(1000, some ⟨.agg [.ptr 1000 0, .sl 1152 0 (8 + (4 + ((l.getD 0 default).s.take 40).length) + (4 + (joinB (ownL (l.getD 0 default))).length) + (4 + (unsB (shortB ((l.getD 0 default).s.take 40))).length) + 1) 1], 29, true⟩), (1152, some ⟨.aggB (((((numB (l.getD 0 default).n 8 8) ++ textB ((l.getD 0 default).s.take 40)) ++ namesB (ownL (l.getD 0 default))) ++ bigB ((l.getD 0 default).s.take 40)) ++ boolB (decide (9 < (l.getD 0 default).n))), 5, true⟩), (1120, none)]) [(500, 1000), (501, 1120)] [(1152, 1000)] (bool2_ev (decide (9 < (l.getD 0 default).n)) (((((numB (l.getD 0 default).n 8 8) ++ textB ((l.getD 0 default).s.take 40)) ++ namesB (ownL (l.getD 0 default))) ++ bigB ((l.getD 0 default).s.take 40))) (8 + (4 + ((l.getD 0 default).s.take 40).length) + (4 + (joinB (ownL (l.getD 0 default))).length) + (4 + (unsB (shortB ((l.getD 0 default).s.take 40))).length)) (by first | exact hn | rfl | (simp only [List.length_append, length_numB, length_textB, length_namesB, big_len]; done) | (simp only [List.length_append, length_numB, length_textB, length_namesB, big_len, length_boolB]; omega)) (by omega)) Tryd.func10 (by kernel_rfl) rfl rfl rfl (⟨⟨_, rfl, rfl, rfl⟩, ⟨_, rfl, rfl, rfl⟩, trivial⟩) (⟨⟨_, _, rfl, rfl, rfl, rfl, id, rfl⟩, ⟨_, _, rfl, rfl, rfl, rfl, id, rfl⟩, trivial⟩) (⟨⟨500, _, rfl, rfl, rfl, rfl, .inr ⟨rfl, _, rfl, rfl⟩⟩, ⟨1000, _, rfl, rfl, rfl, rfl, .inl rfl⟩, trivial⟩) (⟨(fun _ => ⟨1000, _, rfl, rfl⟩), (fun _ => ⟨1120, _, rfl, rfl⟩), trivial⟩) rfl) trivial rfl rfl ?_
      refine .nil ?_
      show Ev _ _ _ _ _
      refine .region ?_
      refine .q (op_move rfl) trivial rfl ?_
      refine .q (op_addI rfl rfl ⟨by omega, by omega⟩) trivial rfl ?_
      refine .q (op_assign rfl) trivial rfl ?_
      refine .nil ?_
      have hN : encR (l.take (1)) = encR (l.take 0) ++ encF (l.getD 0 default) := encR_take (by omega)
      have hR : rowsC ownR (l.take (1)) = rowsC ownR (l.take 0) ++ ownR (l.getD 0 default) := rows_take (by omega)
      exact ⟨some ⟨1, by omega, by omega, by omega⟩, by show 12 - 1 < 13; omega, StLe.mk [(1000, 1000), (1008, 1152), (1016, 1024)] rfl rfl ⟨⟨_, rfl, by rfl, rfl⟩, ⟨_, rfl, by rfl, rfl⟩, ⟨_, rfl, by rfl, rfl⟩, ⟨_, rfl, by rfl, rfl⟩, ⟨_, rfl, by rfl, rfl⟩, trivial⟩ ⟨⟨_, _, rfl, rfl, by (simp only [AV.ren, AV.renL]; exact congrArg (fun z => AV.agg [.ptr 1000 0, .sl 1008 0 z 1]) (by rw [hN]; simp only [encF, List.take_zero, encR, List.nil_append, List.length_append, length_numB, length_textB, length_namesB, big_len, length_boolB] <;> omega)), rfl, id, rfl⟩, ⟨_, _, rfl, rfl, by (exact congrArg AV.aggB (by rw [hN]; simp only [encF, List.take_zero, encR, List.nil_append, List.append_assoc])), rfl, id, rfl⟩, ⟨_, _, rfl, rfl, (by rw [hR]; exact offC_ren _ 0 (cs := rowsC ownR (l.take 0) ++ ownR (l.getD 0 default)) (by rw [← hR]; exact (rowsC_flat (f := ownR) (fun _ => rfl) (l.take (1))))), rfl, id, (by exact offC_nm _ 0 (cs := rowsC ownR (l.take 0) ++ ownR (l.getD 0 default)) (by rw [← hR]; exact (rowsC_flat (f := ownR) (fun _ => rfl) (l.take (1)))))⟩, ⟨_, _, rfl, rfl, rfl, rfl, (fun h => by cases h), rfl⟩, ⟨_, _, rfl, rfl, rfl, rfl, (fun h => by cases h), rfl⟩, ⟨_, _, rfl, rfl, rfl, rfl, (fun h => by cases h), rfl⟩, ⟨_, _, rfl, rfl, offC_ren _ o (rowsC_flat (fun _ => rfl) l), rfl, (fun h => by cases h), offC_nm _ o (rowsC_flat (fun _ => rfl) l)⟩, trivial⟩⟩
    ·try dsimp only
     refine .seq ?_
     refine .region ?_
     refine .q (op_cmpI rfl rfl rfl) trivial rfl ?_
     refine .nil ?_
     show Ev _ _ _ _ _
     refine .seq ?_
     refine .cond rfl (fun hc35 => ?_) (fun hc35 => ?_)
     ·simp only [decide_eq_true_eq] at hc35
      refine .skip ?_
      show Ev _ _ _ _ _
      refine .seq ?_
      refine .block ?_
      refine .seq ?_
      refine .region ?_
      have hlt : j < (fewL (l.getD 0 default).l).length := by omega
      have hjl := fltN_len (fewL (l.getD 0 default).l) j
      refine .q (op_indexAddr_dsl Tryd.underlying31 inf9.sz rfl rfl rfl (by first | omega | (simp only [AV.len]; omega) | (simp only [AV.len, List.length_set]; omega) | assumption | (simp [AV.len]; done))) trivial rfl ?_
      refine .q (op_load_dptr Tryd.underlying9 rfl rfl (drop_get (by omega))) trivial rfl ?_
      refine .q (op_assign rfl) trivial rfl ?_
      refine .nil ?_
      show Ev _ _ _ _ _
      refine .seq ?_
      refine .region ?_
      refine .q (op_move rfl) trivial rfl ?_
      refine .q (op_call (U := []) [] [] (rname_ev ((fewL (l.getD 0 default).l).getD j []) (by have := getD_le_sumB (fewL (l.getD 0 default).l) j; omega)) Tryd.func22 (by kernel_rfl) rfl rfl rfl (⟨⟨_, rfl, rfl, rfl⟩, trivial⟩) (trivial) (trivial) (trivial) rfl) trivial rfl ?_
      refine .nil ?_
      show Ev _ _ _ _ _
      refine .cond rfl (fun hc39 => ?_) (fun hc39 => ?_)
      ·skip
       have hyes : nameOk ((fewL (l.getD 0 default).l).getD j []) = true := hc39
       refine .region ?_
       refine .q (op_move rfl) trivial rfl ?_
       refine .q (op_move rfl) trivial rfl ?_
       refine .a (ap_build (us := [_]) (c := .aggS [_]) Tryd.underlying31 inf9 rfl (by decide) (by decide) ⟨rfl, rfl, rfl, trivial⟩ rfl) trivial rfl ?_
       refine .a (ap_cat Tryd.underlying31 inf9 rfl rfl rfl rfl (by first | rfl | omega | (simp only [AV.len, List.length_cons, List.length_nil]; done) | (simp only [AV.len, List.length_cons, List.length_nil]; omega)) rfl rfl (by first | rfl | omega | (simp only [AV.len, List.length_cons, List.length_nil]; done) | (simp only [AV.len, List.length_cons, List.length_nil]; omega)) rfl (by first | rfl | omega | (simp only [AV.len, List.length_cons, List.length_nil]; done) | (simp only [AV.len, List.length_cons, List.length_nil]; omega))) trivial rfl ?_
       refine .q (op_assign rfl) trivial rfl ?_
       refine .nil ?_
       show Ev _ _ _ _ _
       refine .region ?_
       refine .q (op_addI rfl rfl ⟨by omega, by omega⟩) trivial rfl ?_
       refine .q (op_move rfl) trivial rfl ?_
       refine .nil ?_
       exact ⟨.some (j + 1) ⟨by omega, by rw [fltN_yes hlt hyes]; simp⟩, by show (fewL (l.getD 0 default).l).length - (j + 1) < (fewL (l.getD 0 default).l).length - j; omega, StLe.mk [(1000, 1000), (1008, 1008), (1016, 1032)] rfl rfl ⟨⟨_, rfl, by rfl, rfl⟩, ⟨_, rfl, by rfl, rfl⟩, ⟨_, rfl, by rfl, rfl⟩, ⟨_, rfl, by rfl, rfl⟩, ⟨_, rfl, by rfl, rfl⟩, ⟨_, rfl, by rfl, rfl⟩, ⟨_, rfl, by (simp only [AV.ren]; rw [fltN_yes hlt hyes]; simp only [List.length_append, List.length_cons, List.length_nil]; rfl), rfl⟩, ⟨_, rfl, by rfl, rfl⟩, ⟨_, rfl, by rfl, rfl⟩, ⟨_, rfl, by rfl, rfl⟩, trivial⟩ ⟨⟨_, _, rfl, rfl, rfl, rfl, id, rfl⟩, ⟨_, _, rfl, rfl, rfl, rfl, id, rfl⟩, ⟨_, _, rfl, rfl, by (rw [fltN_yes hlt hyes]; rfl), rfl, id, rfl⟩, ⟨_, _, rfl, rfl, rfl, rfl, (fun h => by cases h), rfl⟩, ⟨_, _, rfl, rfl, rfl, rfl, (fun h => by cases h), rfl⟩, ⟨_, _, rfl, rfl, rfl, rfl, (fun h => by cases h), rfl⟩, ⟨_, _, rfl, rfl, offC_ren _ o (rowsC_flat (fun _ => rfl) l), rfl, (fun h => by cases h), offC_nm _ o (rowsC_flat (fun _ => rfl) l)⟩, trivial⟩⟩
      ·skip
       have hno : nameOk ((fewL (l.getD 0 default).l).getD j []) = false := hc39
       refine .skip ?_
       show Ev _ _ _ _ _
       refine .region ?_
       refine .q (op_addI rfl rfl ⟨by omega, by omega⟩) trivial rfl ?_
       refine .q (op_move rfl) trivial rfl ?_
       refine .nil ?_
       exact ⟨.some (j + 1) ⟨by omega, by rw [fltN_no hlt hno]; exact hj.2⟩, by show (fewL (l.getD 0 default).l).length - (j + 1) < (fewL (l.getD 0 default).l).length - j; omega, StLe.mk [(1000, 1000), (1008, 1008), (1016, 1016)] rfl rfl ⟨⟨_, rfl, by rfl, rfl⟩, ⟨_, rfl, by rfl, rfl⟩, ⟨_, rfl, by rfl, rfl⟩, ⟨_, rfl, by rfl, rfl⟩, ⟨_, rfl, by rfl, rfl⟩, ⟨_, rfl, by rfl, rfl⟩, ⟨_, rfl, by (simp only [AV.ren]; rw [fltN_no hlt hno]; rfl), rfl⟩, ⟨_, rfl, by rfl, rfl⟩, ⟨_, rfl, by rfl, rfl⟩, ⟨_, rfl, by rfl, rfl⟩, trivial⟩ ⟨⟨_, _, rfl, rfl, rfl, rfl, id, rfl⟩, ⟨_, _, rfl, rfl, rfl, rfl, id, rfl⟩, ⟨_, _, rfl, rfl, by (rw [fltN_no hlt hno]; rfl), rfl, id, rfl⟩, ⟨_, _, rfl, rfl, rfl, rfl, (fun h => by cases h), rfl⟩, ⟨_, _, rfl, rfl, rfl, rfl, (fun h => by cases h), rfl⟩, ⟨_, _, rfl, rfl, rfl, rfl, (fun h => by cases h), rfl⟩, ⟨_, _, rfl, rfl, offC_ren _ o (rowsC_flat (fun _ => rfl) l), rfl, (fun h => by cases h), offC_nm _ o (rowsC_flat (fun _ => rfl) l)⟩, trivial⟩⟩
     ·simp only [decide_eq_false_iff_not] at hc35
      refine .exit ?_
      show Ev _ _ _ _ _
      have hF : fltN (fewL (l.getD 0 default).l) j = (ownL (l.getD 0 default)) := by rw [← fltN_all]; rw [show j = (fewL (l.getD 0 default).l).length by omega]
      refine Ev.weak (st2 := ⟨[(7, .sl 1016 0 (fltN (fewL (l.getD 0 default).l) j).length 1), (0, .sl 450 o l.length 4), (2, .bool false), (3, .ptr 1000 0), (4, .nilsl), (5, .i64 ((0 : Nat) : Int)), (6, .ptr 1008 0)], [(1000, some ⟨.agg [.val (.pointer none), .nilsl], 29, true⟩), (1008, some ⟨.agg [.i64 (l.getD 0 default).k, .u64 (l.getD 0 default).n, .str ((l.getD 0 default).s.take 40), .dsl (fewL (l.getD 0 default).l)], 33, true⟩), (1016, some ⟨.aggS (fltN (fewL (l.getD 0 default).l) j), 9, true⟩), (3, some ⟨.agg [.err 161 (2) (offE eo (2))], errT, false⟩), (0, some ⟨.agg [.err 161 (4) (offE eo (4))], errT, false⟩), (1, some ⟨.agg [.err 161 (3) (offE eo (3))], errT, false⟩), (450, some ⟨.agg (offC o (rowsC fvR l)), anyT, false⟩)], 1024⟩) (StLe.mk [(1000, 1000), (1008, 1008), (1016, 1016)] rfl rfl ⟨⟨_, rfl, by rfl, rfl⟩, ⟨_, rfl, by rfl, rfl⟩, ⟨_, rfl, by rfl, rfl⟩, ⟨_, rfl, by rfl, rfl⟩, ⟨_, rfl, by rfl, rfl⟩, ⟨_, rfl, by rfl, rfl⟩, ⟨_, rfl, by rfl, rfl⟩, trivial⟩ ⟨⟨_, _, rfl, rfl, rfl, rfl, id, rfl⟩, ⟨_, _, rfl, rfl, rfl, rfl, id, rfl⟩, ⟨_, _, rfl, rfl, rfl, rfl, id, rfl⟩, ⟨_, _, rfl, rfl, rfl, rfl, (fun h => by cases h), rfl⟩, ⟨_, _, rfl, rfl, rfl, rfl, (fun h => by cases h), rfl⟩, ⟨_, _, rfl, rfl, rfl, rfl, (fun h => by cases h), rfl⟩, ⟨_, _, rfl, rfl, offC_ren _ o (rowsC_flat (fun _ => rfl) l), rfl, (fun h => by cases h), offC_nm _ o (rowsC_flat (fun _ => rfl) l)⟩, trivial⟩) ?_
      refine Ev.weak (StLe.freeze (t := 7) (b := 1016) (o := 0) (n := (fltN (fewL (l.getD 0 default).l) j).length) (e := 9) (L := fltN (fewL (l.getD 0 default).l) j) (Nat.le_of_ble_eq_true rfl) rfl rfl (by omega)) ?_
      refine Ev.asR (T1 := []) (.dsl (ownL (l.getD 0 default))) (fun E y h => by rw [List.drop_zero, List.take_length, hF] at h; exact h) ?_
      show Ev _ _ _ _ _
      refine .seq ?_
      refine .region ?_
      refine .q (op_move rfl) trivial rfl ?_
      refine .q (op_fieldAddr (m := 0) Tryd.underlying33 rfl (by kernel_rfl) rfl) trivial rfl ?_
      refine .as (.ptr 1008 3) rfl ?_
      refine .w (op_store (by kernel_rfl) rfl rfl rfl rfl rfl (by show 3 < 4; decide)) trivial rfl ?_
      refine .nil ?_
      show Ev _ _ _ _ _
      refine .seq ?_
      refine .region ?_
      refine .q (op_move rfl) trivial rfl ?_
      refine .q (op_loadRow Tryd.underlying33 rfl (by kernel_rfl) rfl rfl rfl (rfl)) trivial rfl ?_
      refine .a (op_buildRow (z := 4) (r := .agg (ownR (l.getD 0 default))) (cs := ownR (l.getD 0 default)) Tryd.underlying22 infField (by decide) (by decide) rfl rfl rfl) trivial rfl ?_
      refine .a (ap_append_nil (c' := .agg (ownR (l.getD 0 default))) Tryd.underlying22 Tryd.underlying22 (.inr ⟨_, rfl⟩) infField rfl (srcs_sl (m := 1) (o := 0) rfl rfl (by show 4 ≤ 4; decide)) rfl (by decide) (by decide)) trivial rfl ?_
      refine .q (op_assign rfl) trivial rfl ?_
      refine .nil ?_
      show Ev _ _ _ _ _
      refine .drawnF [[], [0], [0, 1], [], [3], [0, 1, 2, 3, 4], [], [6], [0, 1, 2, 3, 4, 5, 6, 7], [], [9], [0, 1, 2, 3, 4, 5, 6, 7, 8, 9, 10], [], [12], [12, 13], [0, 1, 2, 3, 4, 5, 6, 7, 8, 9, 10, 11, 12, 13, 14]] [1, 2, 4, 5, 7, 8, 10, 11, 13, 15] [] [(1, ([1008], [])), (2, ([], [1000])), (4, ([1008], [])), (5, ([], [1000, 1056])), (7, ([1008], [])), (8, ([], [1000, 1080])), (10, ([1008], [])), (11, ([], [1000, 1104])), (13, ([1008], [])), (15, ([], [1000, 1128]))] (by kernel_rfl) (by kernel_rfl) rfl ?_
      show DK _ [0, 1, 2, 3, 4, 5, 6, 7, 8, 9, 10, 11, 12, 13, 14, 15] _ _ _
      refine .q rfl (op_fieldAddr (m := 0) Tryd.underlying33 rfl (by kernel_rfl) rfl) trivial ?_
      refine .as (.ptr 1008 1) rfl ?_
      refine .q rfl (op_load Tryd.underlying30 rfl rfl rfl rfl (by show 1 < 4; decide)) trivial ?_
      refine .a rfl (op_call (U := [(1000, some ⟨.agg [.ptr 1000 0, .sl 1056 0 (8) 1], 29, true⟩), (1056, some ⟨.aggB (numB (l.getD 0 default).n 8 8), 5, true⟩)]) [(500, 1000)] [(1056, 1000)] (u640_ev (l.getD 0 default).n) Tryd.func13 (by kernel_rfl) rfl rfl rfl (⟨⟨_, rfl, rfl, rfl⟩, ⟨_, rfl, rfl, rfl⟩, trivial⟩) (⟨⟨_, _, rfl, rfl, rfl, rfl, id, rfl⟩, trivial⟩) (⟨⟨500, _, rfl, rfl, rfl, rfl, .inr ⟨rfl, _, rfl, rfl⟩⟩, ⟨1000, _, rfl, rfl, rfl, rfl, .inl rfl⟩, trivial⟩) (⟨(fun _ => ⟨1000, _, rfl, rfl⟩), trivial⟩) rfl) trivial rfl rfl ?_
      refine .q rfl (op_fieldAddr (m := 0) Tryd.underlying33 rfl (by kernel_rfl) rfl) trivial ?_
      refine .as (.ptr 1008 2) rfl ?_
      refine .q rfl (op_load Tryd.underlying9 rfl rfl rfl rfl (by show 2 < 4; decide)) trivial ?_
      refine .a rfl (op_call (U := [(1000, some ⟨.agg [.ptr 1000 0, .sl 1080 0 (8 + (4 + ((l.getD 0 default).s.take 40).length)) 1], 29, true⟩), (1080, some ⟨.aggB ((numB (l.getD 0 default).n 8 8) ++ textB ((l.getD 0 default).s.take 40)), 5, true⟩), (1056, none)]) [(500, 1000), (501, 1056)] [(1080, 1008)] (text2_ev ((l.getD 0 default).s.take 40) (by omega) ((numB (l.getD 0 default).n 8 8)) (8) (by first | exact hn | rfl | (simp only [List.length_append, length_numB, length_textB, length_namesB, big_len, length_boolB]; done) | (simp only [List.length_append, length_numB, length_textB, length_namesB, big_len, length_boolB]; omega)) (by omega)) Tryd.func19 (by kernel_rfl) rfl rfl rfl (⟨⟨_, rfl, rfl, rfl⟩, ⟨_, rfl, rfl, rfl⟩, trivial⟩) (⟨⟨_, _, rfl, rfl, rfl, rfl, id, rfl⟩, ⟨_, _, rfl, rfl, rfl, rfl, id, rfl⟩, trivial⟩) (⟨⟨500, _, rfl, rfl, rfl, rfl, .inr ⟨rfl, _, rfl, rfl⟩⟩, ⟨1008, _, rfl, rfl, rfl, rfl, .inl rfl⟩, trivial⟩) (⟨(fun _ => ⟨1000, _, rfl, rfl⟩), (fun _ => ⟨1056, _, rfl, rfl⟩), trivial⟩) rfl) trivial rfl rfl ?_
      refine .q rfl (op_fieldAddr (m := 0) Tryd.underlying33 rfl (by kernel_rfl) rfl) trivial ?_
      refine .as (.ptr 1008 3) rfl ?_
      refine .q rfl (op_load Tryd.underlying31 rfl rfl rfl rfl (by show 3 < 4; decide)) trivial ?_
      refine .a rfl (op_call (U := [(1000, some ⟨.agg [.ptr 1000 0, .sl 1104 0 (8 + (4 + ((l.getD 0 default).s.take 40).length) + (4 + (joinB (ownL (l.getD 0 default))).length)) 1], 29, true⟩), (1104, some ⟨.aggB (((numB (l.getD 0 default).n 8 8) ++ textB ((l.getD 0 default).s.take 40)) ++ namesB (ownL (l.getD 0 default))), 5, true⟩), (1080, none)]) [(500, 1000), (501, 1080)] [(1104, 1000)] (names2_ev (ownL (l.getD 0 default)) (by omega) (by omega) (((numB (l.getD 0 default).n 8 8) ++ textB ((l.getD 0 default).s.take 40))) (8 + (4 + ((l.getD 0 default).s.take 40).length)) (by first | exact hn | rfl | (simp only [List.length_append, length_numB, length_textB]; done) | (simp only [List.length_append, length_numB, length_textB, length_namesB, big_len, length_boolB]; omega)) (by omega)) Tryd.func15 (by kernel_rfl) rfl rfl rfl (⟨⟨_, rfl, rfl, rfl⟩, ⟨_, rfl, rfl, rfl⟩, trivial⟩) (⟨⟨_, _, rfl, rfl, rfl, rfl, id, rfl⟩, ⟨_, _, rfl, rfl, rfl, rfl, id, rfl⟩, trivial⟩) (⟨⟨500, _, rfl, rfl, rfl, rfl, .inr ⟨rfl, _, rfl, rfl⟩⟩, ⟨1000, _, rfl, rfl, rfl, rfl, .inl rfl⟩, trivial⟩) (⟨(fun _ => ⟨1000, _, rfl, rfl⟩), (fun _ => ⟨1080, _, rfl, rfl⟩), trivial⟩) rfl) trivial rfl rfl ?_
      refine .q rfl (op_fieldAddr (m := 0) Tryd.underlying33 rfl (by kernel_rfl) rfl) trivial ?_
      refine .as (.ptr 1008 2) rfl ?_
      refine .q rfl (op_load Tryd.underlying9 rfl rfl rfl rfl (by show 2 < 4; decide)) trivial ?_
      refine .a rfl (op_call (U := [(1000, some ⟨.agg [.ptr 1000 0, .sl 1128 0 (8 + (4 + ((l.getD 0 default).s.take 40).length) + (4 + (joinB (ownL (l.getD 0 default))).length) + (4 + (unsB (shortB ((l.getD 0 default).s.take 40))).length)) 1], 29, true⟩), (1128, some ⟨.aggB ((((numB (l.getD 0 default).n 8 8) ++ textB ((l.getD 0 default).s.take 40)) ++ namesB (ownL (l.getD 0 default))) ++ bigB ((l.getD 0 default).s.take 40)), 5, true⟩), (1104, none)]) [(500, 1000), (501, 1104)] [(1128, 1000)] (big2_ev ((l.getD 0 default).s.take 40) (by omega) ((((numB (l.getD 0 default).n 8 8) ++ textB ((l.getD 0 default).s.take 40)) ++ namesB (ownL (l.getD 0 default)))) (8 + (4 + ((l.getD 0 default).s.take 40).length) + (4 + (joinB (ownL (l.getD 0 default))).length)) (by first | exact hn | rfl | (simp only [List.length_append, length_numB, length_textB, length_namesB]; done) | (simp only [List.length_append, length_numB, length_textB, length_namesB, big_len, length_boolB]; omega)) (by omega)) Tryd.func17 (by kernel_rfl) rfl rfl rfl (⟨⟨_, rfl, rfl, rfl⟩, ⟨_, rfl, rfl, rfl⟩, trivial⟩) (⟨⟨_, _, rfl, rfl, rfl, rfl, id, rfl⟩, ⟨_, _, rfl, rfl, rfl, rfl, id, rfl⟩, trivial⟩) (⟨⟨500, _, rfl, rfl, rfl, rfl, .inr ⟨rfl, _, rfl, rfl⟩⟩, ⟨1000, _, rfl, rfl, rfl, rfl, .inl rfl⟩, trivial⟩) (⟨(fun _ => ⟨1000, _, rfl, rfl⟩), (fun _ => ⟨1104, _, rfl, rfl⟩), trivial⟩) rfl) trivial rfl rfl ?_
      refine .q rfl (op_fieldAddr (m := 0) Tryd.underlying33 rfl (by kernel_rfl) rfl) trivial ?_
      refine .as (.ptr 1008 1) rfl ?_
      refine .q rfl (op_load Tryd.underlying30 rfl rfl rfl rfl (by show 1 < 4; decide)) trivial ?_
      refine .q rfl (op_bin64 rfl rfl rfl) trivial ?_
      refine .as (.bool (decide (9 < (l.getD 0 default).n))) rfl ?_
      refine .a rfl (op_call (U := [(1000, some ⟨.agg [.ptr 1000 0, .sl 1160 0 (8 + (4 + ((l.getD 0 default).s.take 40).length) + (4 + (joinB (ownL (l.getD 0 default))).length) + (4 + (unsB (shortB ((l.getD 0 default).s.take 40))).length) + 1) 1], 29, true⟩), (1160, some ⟨.aggB (((((numB (l.getD 0 default).n 8 8) ++ textB ((l.getD 0 default).s.take 40)) ++ namesB (ownL (l.getD 0 default))) ++ bigB ((l.getD 0 default).s.take 40)) ++ boolB (decide (9 < (l.getD 0 default).n))), 5, true⟩), (1128, none)]) [(500, 1000), (501, 1128)] [(1160, 1000)] (bool2_ev (decide (9 < (l.getD 0 default).n)) (((((numB (l.getD 0 default).n 8 8) ++ textB ((l.getD 0 default).s.take 40)) ++ namesB (ownL (l.getD 0 default))) ++ bigB ((l.getD 0 default).s.take 40))) (8 + (4 + ((l.getD 0 default).s.take 40).length) + (4 + (joinB (ownL (l.getD 0 default))).length) + (4 + (unsB (shortB ((l.getD 0 default).s.take 40))).length)) (by first | exact hn | rfl | (simp only [List.length_append, length_numB, length_textB, length_namesB, big_len]; done) | (simp only [List.length_append, length_numB, length_textB, length_namesB, big_len, length_boolB]; omega)) (by omega)) Tryd.func10 (by kernel_rfl) rfl rfl rfl (⟨⟨_, rfl, rfl, rfl⟩, ⟨_, rfl, rfl, rfl⟩, trivial⟩) (⟨⟨_, _, rfl, rfl, rfl, rfl, id, rfl⟩, ⟨_, _, rfl, rfl, rfl, rfl, id, rfl⟩, trivial⟩) (⟨⟨500, _, rfl, rfl, rfl, rfl, .inr ⟨rfl, _, rfl, rfl⟩⟩, ⟨1000, _, rfl, rfl, rfl, rfl, .inl rfl⟩, trivial⟩) (⟨(fun _ => ⟨1000, _, rfl, rfl⟩), (fun _ => ⟨1128, _, rfl, rfl⟩), trivial⟩) rfl) trivial rfl rfl ?_
      refine .nil ?_
      show Ev _ _ _ _ _
      refine .region ?_
      refine .q (op_move rfl) trivial rfl ?_
      refine .q (op_addI rfl rfl ⟨by omega, by omega⟩) trivial rfl ?_
      refine .q (op_assign rfl) trivial rfl ?_
      refine .nil ?_
      have hN : encR (l.take (1)) = encR (l.take 0) ++ encF (l.getD 0 default) := encR_take (by omega)
      have hR : rowsC ownR (l.take (1)) = rowsC ownR (l.take 0) ++ ownR (l.getD 0 default) := rows_take (by omega)
      exact ⟨some ⟨1, by omega, by omega, by omega⟩, by show 12 - 1 < 13; omega, StLe.mk [(1000, 1000), (1008, 1160), (1016, 1032)] rfl rfl ⟨⟨_, rfl, by rfl, rfl⟩, ⟨_, rfl, by rfl, rfl⟩, ⟨_, rfl, by rfl, rfl⟩, ⟨_, rfl, by rfl, rfl⟩, ⟨_, rfl, by rfl, rfl⟩, trivial⟩ ⟨⟨_, _, rfl, rfl, by (simp only [AV.ren, AV.renL]; exact congrArg (fun z => AV.agg [.ptr 1000 0, .sl 1008 0 z 1]) (by rw [hN]; simp only [encF, List.take_zero, encR, List.nil_append, List.length_append, length_numB, length_textB, length_namesB, big_len, length_boolB] <;> omega)), rfl, id, rfl⟩, ⟨_, _, rfl, rfl, by (exact congrArg AV.aggB (by rw [hN]; simp only [encF, List.take_zero, encR, List.nil_append, List.append_assoc])), rfl, id, rfl⟩, ⟨_, _, rfl, rfl, (by rw [hR]; exact offC_ren _ 0 (cs := rowsC ownR (l.take 0) ++ ownR (l.getD 0 default)) (by rw [← hR]; exact (rowsC_flat (f := ownR) (fun _ => rfl) (l.take (1))))), rfl, id, (by exact offC_nm _ 0 (cs := rowsC ownR (l.take 0) ++ ownR (l.getD 0 default)) (by rw [← hR]; exact (rowsC_flat (f := ownR) (fun _ => rfl) (l.take (1)))))⟩, ⟨_, _, rfl, rfl, rfl, rfl, (fun h => by cases h), rfl⟩, ⟨_, _, rfl, rfl, rfl, rfl, (fun h => by cases h), rfl⟩, ⟨_, _, rfl, rfl, rfl, rfl, (fun h => by cases h), rfl⟩, ⟨_, _, rfl, rfl, offC_ren _ o (rowsC_flat (fun _ => rfl) l), rfl, (fun h => by cases h), offC_nm _ o (rowsC_flat (fun _ => rfl) l)⟩, trivial⟩⟩
   ·simp only [decide_eq_false_iff_not] at hc23
    refine .exit ?_
    show Ev _ _ _ _ _
    refine .seq ?_
    refine .region ?_
    refine .q (op_call (U := []) [(500, 1000)] [] (bytes0_ev) Tryd.func21 (by kernel_rfl) rfl rfl rfl (⟨⟨_, rfl, rfl, rfl⟩, trivial⟩) (⟨⟨_, _, rfl, rfl, rfl, rfl, (fun h => by cases h), rfl⟩, trivial⟩) (trivial) (⟨(fun h => by cases h), trivial⟩) rfl) trivial rfl ?_
    refine .a (op_call (U := [(1008, some ⟨.agg [.str (DI.mk ([] : List UInt8) 0).r, .err 161 ((DI.mk ([] : List UInt8) 0).e) (offE eo ((DI.mk ([] : List UInt8) 0).e))], 82, true⟩)]) [] [(1008, 1000)] (wof_ev ([] : List UInt8) eo) Tryd.func23 (by kernel_rfl) rfl rfl rfl (⟨⟨_, rfl, rfl, rfl⟩, trivial⟩) (trivial) (⟨⟨1000, _, rfl, rfl, rfl, rfl, .inl rfl⟩, trivial⟩) (trivial) rfl) trivial rfl ?_
    refine .q (op_assign rfl) trivial rfl ?_
    refine .nil ?_
    show Ev _ _ _ _ _
    refine .seq ?_
    refine .seq ?_
    refine .region ?_
    refine .q (op_move rfl) trivial rfl ?_
    refine .q (op_len_nil Tryd.underlying22 rfl) trivial rfl ?_
    refine .q (op_move rfl) trivial rfl ?_
    refine .nil ?_
    show Ev _ _ _ _ _
    refine .block ?_
    refine Ev.loop (ι := Unit) (fun _ => ⟨[(2, .bool false), (10, .ptr 1008 0), (70, .i64 0), (71, .i64 0)], [(1008, some ⟨.agg [.str (DI.mk [] 0).r, .err 161 ((DI.mk [] 0).e) (offE eo ((DI.mk [] 0).e))], 82, true⟩), (3, some ⟨.agg [.err 161 (2) (offE eo (2))], errT, false⟩), (0, some ⟨.agg [.err 161 (4) (offE eo (4))], errT, false⟩), (1, some ⟨.agg [.err 161 (3) (offE eo (3))], errT, false⟩)], 1016⟩) (fun _ => 0) () (StLe.mk [(1008, 1008)] rfl rfl ⟨⟨_, rfl, by rfl, rfl⟩, ⟨_, rfl, by rfl, rfl⟩, ⟨_, rfl, by rfl, rfl⟩, ⟨_, rfl, by rfl, rfl⟩, trivial⟩ ⟨⟨_, _, rfl, rfl, rfl, rfl, id, rfl⟩, ⟨_, _, rfl, rfl, rfl, rfl, (fun h => by cases h), rfl⟩, ⟨_, _, rfl, rfl, rfl, rfl, (fun h => by cases h), rfl⟩, ⟨_, _, rfl, rfl, rfl, rfl, (fun h => by cases h), rfl⟩, trivial⟩) ?_
    rintro ⟨⟩
    refine .seq ?_
    refine .region ?_
    refine .q (op_cmpI rfl rfl rfl) trivial rfl ?_
    refine .nil ?_
    show Ev _ _ _ _ _
    refine .seq ?_
    refine .cond_false rfl (rfl) ?_
    refine .exit ?_
    show Ev _ _ _ _ _
    refine .seq ?_
    refine .region ?_
    refine .q (op_move rfl) trivial rfl ?_
    refine .a (op_call (U := [(1008, some ⟨.agg [.str (endD ⟨[], 0⟩).r, .err 161 ((endD ⟨[], 0⟩).e) (offE eo ((endD ⟨[], 0⟩).e))], 82, true⟩)]) [(500, 1008)] [] (end_ev ⟨[], 0⟩ eo) Tryd.func30 (by kernel_rfl) rfl rfl rfl (⟨⟨_, rfl, rfl, rfl⟩, trivial⟩) (⟨⟨_, _, rfl, rfl, rfl, rfl, id, rfl⟩, ⟨_, _, rfl, rfl, rfl, rfl, (fun h => by cases h), rfl⟩, trivial⟩) (⟨⟨500, _, rfl, rfl, rfl, rfl, .inr ⟨rfl, _, rfl, rfl⟩⟩, trivial⟩) (⟨(fun _ => ⟨1008, _, rfl, rfl⟩), (fun h => by cases h), trivial⟩) rfl) trivial rfl ?_
    refine .q (op_eqErrNil (e := (endD ⟨[], 0⟩).e) Tryd.underlying56 rfl rfl) trivial rfl ?_
    refine .q (op_move rfl) trivial rfl ?_
    refine .know (b' := true) (rfl) ?_
    refine .q (op_move rfl) ⟨_, rfl, rfl⟩ rfl ?_
    refine .q (op_call (U := []) [(500, 1008)] [] (left_ev (endD ⟨[], 0⟩) eo) Tryd.func31 (by kernel_rfl) rfl rfl rfl (⟨⟨_, rfl, rfl, rfl⟩, trivial⟩) (⟨⟨_, _, rfl, rfl, rfl, rfl, (fun h => by cases h), rfl⟩, trivial⟩) (trivial) (⟨(fun h => by cases h), trivial⟩) rfl) ⟨_, rfl, rfl⟩ rfl ?_
    refine .q (op_cmpI rfl rfl rfl) ⟨_, rfl, rfl⟩ rfl ?_
    refine .q (op_pick_true rfl rfl rfl) trivial rfl ?_
    refine .q (op_assign rfl) trivial rfl ?_
    refine .nil ?_
    show Ev _ _ _ _ _
    refine .ret ?_
    show RetOk _ _ _ _ _ _ _
    exact ret1v rfl (.inl rfl) rfl rfl trivial
  ·simp only [decide_eq_false_iff_not] at hg20
   refine .no ⟨_, rfl, rfl⟩ rfl ?_
   refine .no ⟨_, rfl, rfl⟩ rfl ?_
   refine .q (op_pick_false rfl rfl rfl) trivial rfl ?_
   refine .nil ?_
   show Ev _ _ _ _ _
   refine .cond_false rfl rfl ?_
   refine .exit ?_
   show Ev _ _ _ _ _
   refine .seq ?_
   refine .region ?_
   refine .q (op_call (U := []) [(500, 1000)] [] (bytes0_ev) Tryd.func21 (by kernel_rfl) rfl rfl rfl (⟨⟨_, rfl, rfl, rfl⟩, trivial⟩) (⟨⟨_, _, rfl, rfl, rfl, rfl, (fun h => by cases h), rfl⟩, trivial⟩) (trivial) (⟨(fun h => by cases h), trivial⟩) rfl) trivial rfl ?_
   refine .a (op_call (U := [(1008, some ⟨.agg [.str (DI.mk ([] : List UInt8) 0).r, .err 161 ((DI.mk ([] : List UInt8) 0).e) (offE eo ((DI.mk ([] : List UInt8) 0).e))], 82, true⟩)]) [] [(1008, 1000)] (wof_ev ([] : List UInt8) eo) Tryd.func23 (by kernel_rfl) rfl rfl rfl (⟨⟨_, rfl, rfl, rfl⟩, trivial⟩) (trivial) (⟨⟨1000, _, rfl, rfl, rfl, rfl, .inl rfl⟩, trivial⟩) (trivial) rfl) trivial rfl ?_
   refine .q (op_assign rfl) trivial rfl ?_
   refine .nil ?_
   show Ev _ _ _ _ _
   refine .seq ?_
   refine .seq ?_
   refine .region ?_
   refine .q (op_move rfl) trivial rfl ?_
   refine .q (op_len_nil Tryd.underlying22 rfl) trivial rfl ?_
   refine .q (op_move rfl) trivial rfl ?_
   refine .nil ?_
   show Ev _ _ _ _ _
   refine .block ?_
   refine Ev.loop (ι := Unit) (fun _ => ⟨[(2, .bool false), (10, .ptr 1008 0), (70, .i64 0), (71, .i64 0)], [(1008, some ⟨.agg [.str (DI.mk [] 0).r, .err 161 ((DI.mk [] 0).e) (offE eo ((DI.mk [] 0).e))], 82, true⟩), (3, some ⟨.agg [.err 161 (2) (offE eo (2))], errT, false⟩), (0, some ⟨.agg [.err 161 (4) (offE eo (4))], errT, false⟩), (1, some ⟨.agg [.err 161 (3) (offE eo (3))], errT, false⟩)], 1016⟩) (fun _ => 0) () (StLe.mk [(1008, 1008)] rfl rfl ⟨⟨_, rfl, by rfl, rfl⟩, ⟨_, rfl, by rfl, rfl⟩, ⟨_, rfl, by rfl, rfl⟩, ⟨_, rfl, by rfl, rfl⟩, trivial⟩ ⟨⟨_, _, rfl, rfl, rfl, rfl, id, rfl⟩, ⟨_, _, rfl, rfl, rfl, rfl, (fun h => by cases h), rfl⟩, ⟨_, _, rfl, rfl, rfl, rfl, (fun h => by cases h), rfl⟩, ⟨_, _, rfl, rfl, rfl, rfl, (fun h => by cases h), rfl⟩, trivial⟩) ?_
   rintro ⟨⟩
   refine .seq ?_
   refine .region ?_
   refine .q (op_cmpI rfl rfl rfl) trivial rfl ?_
   refine .nil ?_
   show Ev _ _ _ _ _
   refine .seq ?_
   refine .cond_false rfl (rfl) ?_
   refine .exit ?_
   show Ev _ _ _ _ _
   refine .seq ?_
   refine .region ?_
   refine .q (op_move rfl) trivial rfl ?_
   refine .a (op_call (U := [(1008, some ⟨.agg [.str (endD ⟨[], 0⟩).r, .err 161 ((endD ⟨[], 0⟩).e) (offE eo ((endD ⟨[], 0⟩).e))], 82, true⟩)]) [(500, 1008)] [] (end_ev ⟨[], 0⟩ eo) Tryd.func30 (by kernel_rfl) rfl rfl rfl (⟨⟨_, rfl, rfl, rfl⟩, trivial⟩) (⟨⟨_, _, rfl, rfl, rfl, rfl, id, rfl⟩, ⟨_, _, rfl, rfl, rfl, rfl, (fun h => by cases h), rfl⟩, trivial⟩) (⟨⟨500, _, rfl, rfl, rfl, rfl, .inr ⟨rfl, _, rfl, rfl⟩⟩, trivial⟩) (⟨(fun _ => ⟨1008, _, rfl, rfl⟩), (fun h => by cases h), trivial⟩) rfl) trivial rfl ?_
   refine .q (op_eqErrNil (e := (endD ⟨[], 0⟩).e) Tryd.underlying56 rfl rfl) trivial rfl ?_
   refine .q (op_move rfl) trivial rfl ?_
   refine .know (b' := true) (rfl) ?_
   refine .q (op_move rfl) ⟨_, rfl, rfl⟩ rfl ?_
   refine .q (op_call (U := []) [(500, 1008)] [] (left_ev (endD ⟨[], 0⟩) eo) Tryd.func31 (by kernel_rfl) rfl rfl rfl (⟨⟨_, rfl, rfl, rfl⟩, trivial⟩) (⟨⟨_, _, rfl, rfl, rfl, rfl, (fun h => by cases h), rfl⟩, trivial⟩) (trivial) (⟨(fun h => by cases h), trivial⟩) rfl) ⟨_, rfl, rfl⟩ rfl ?_
   refine .q (op_cmpI rfl rfl rfl) ⟨_, rfl, rfl⟩ rfl ?_
   refine .q (op_pick_true rfl rfl rfl) trivial rfl ?_
   refine .q (op_assign rfl) trivial rfl ?_
   refine .nil ?_
   show Ev _ _ _ _ _
   refine .ret ?_
   show RetOk _ _ _ _ _ _ _
   exact ret1v rfl (.inl rfl) rfl rfl trivial
 ·try dsimp only
  have h4l : (((l.getD k default).s.take 40)).length ≤ 40 := List.length_take_le 40 _
  have hu := uns40 (l.getD k default).s
  have hoj := ownL_join (l.getD k default)
  have hos := ownL_sum (l.getD k default)
  have hol := ownL_len (l.getD k default)
  have hfs := fewL_sum (l.getD k default).l
  have hfl := fewL_len (l.getD k default).l
  have hel := encR_len (l.take k)
  have htl : (l.take k).length = k := by rw [List.length_take, Nat.min_eq_left hk2]
  have hne : encR (l.take k) ≠ [] := by
   have hp := encF_pos (l.getD (k - 1) default)
   intro h
   have h9 := encR_take (l := l) (k := k - 1) (by omega)
   rw [show k - 1 + 1 = k by omega, h] at h9
   have := congrArg List.length h9
   simp only [List.length_append, List.length_nil] at this; omega
  refine .seq ?_
  refine .seq ?_
  refine .region ?_
  refine .q (op_move rfl) trivial rfl ?_
  refine .q (op_move rfl) trivial rfl ?_
  refine .q (op_len_sl Tryd.underlying22 rfl) trivial rfl ?_
  refine .q (op_cmpI rfl rfl rfl) trivial rfl ?_
  refine .q (op_move rfl) trivial rfl ?_
  refine .split (fun hg20 => ?_) (fun hg20 => ?_)
  ·simp only [decide_eq_true_eq] at hg20
   refine .q (op_move rfl) ⟨_, rfl, rfl⟩ rfl ?_
   refine .q (op_cmpI rfl rfl rfl) ⟨_, rfl, rfl⟩ rfl ?_
   refine .q (op_pick_true rfl rfl rfl) trivial rfl ?_
   refine .nil ?_
   show Ev _ _ _ _ _
   refine .cond rfl (fun hc23 => ?_) (fun hc23 => ?_)
   ·simp only [decide_eq_true_eq] at hc23
    refine .skip ?_
    show Ev _ _ _ _ _
    refine .seq ?_
    refine .block ?_
    refine .seq ?_
    refine .region ?_
    refine .q (op_move rfl) trivial rfl ?_
    refine .q (op_move rfl) trivial rfl ?_
    refine .q (op_indexAddr (z := 4) Tryd.underlying22 (by kernel_rfl) rfl rfl rfl (show k < l.length by omega)) trivial rfl ?_
    refine .q (op_loadPart (m := 4) (r := .agg [.i64 (l.getD k default).k, .u64 (l.getD k default).n, .str (l.getD k default).s, .dsl (l.getD k default).l]) (cs := fvR (l.getD k default)) Tryd.underlying33 rfl (by kernel_rfl) rfl rfl rfl rfl (fvR_row o k l (show k < l.length by omega)) (by rw [offC_len, rowsC_len (f := fvR) (z := 4) (fun _ => rfl)]; omega)) trivial rfl ?_
    refine .q (op_call (U := []) [] [] (few_ev (l.getD k default).k (l.getD k default).n (l.getD k default).s (l.getD k default).l (Nat.le_trans (l.getD k default).hs (by decide)) (Nat.le_trans (l.getD k default).hl (by decide)) (fun j => Nat.le_trans ((l.getD k default).hb j) (by decide))) Tryd.func8 (by kernel_rfl) rfl rfl rfl (⟨⟨_, rfl, rfl, rfl⟩, trivial⟩) (trivial) (trivial) (trivial) rfl) trivial rfl ?_
    refine .as (.agg [.i64 (l.getD k default).k, .u64 (l.getD k default).n, .str ((l.getD k default).s.take 40), .dsl (fewL (l.getD k default).l)]) rfl ?_
    refine .a (op_allocRow zero33 rel_zero33 rfl) trivial rfl ?_
    refine .w (op_storeRow (by kernel_rfl) rfl rfl rfl rfl rfl (rfl) (rfl)) trivial rfl ?_
    refine .nil ?_
    show Ev _ _ _ _ _
    refine .seq ?_
    refine .region ?_
    refine .q (op_assign rfl) trivial rfl ?_
    refine .nil ?_
    show Ev _ _ _ _ _
    refine .seq ?_
    refine .seq ?_
    refine .region ?_
    refine .q (op_fieldAddr (m := 0) Tryd.underlying33 rfl (by kernel_rfl) rfl) trivial rfl ?_
    refine .as (.ptr 1024 3) rfl ?_
    refine .q (op_load Tryd.underlying31 rfl rfl rfl rfl (by show 3 < 4; decide)) trivial rfl ?_
    refine .q (op_len_dsl Tryd.underlying31 rfl) trivial rfl ?_
    refine .q (op_move rfl) trivial rfl ?_
    refine .nil ?_
    show Ev _ _ _ _ _
    refine .block ?_
    refine Ev.loop (ι := NI (fewL (l.getD k default).l)) (fun q => match q with | .nil j _ => ⟨[(0, .sl 450 o l.length 4), (2, .bool false), (3, .ptr 1000 0), (4, .sl 1016 0 k 4), (5, .i64 ((k : Nat) : Int)), (6, .ptr 1024 0), (7, .nilsl), (32, .dsl (fewL (l.getD k default).l)), (33, .i64 (((fewL (l.getD k default).l).length : Nat) : Int)), (34, .i64 ((j : Nat) : Int))], [(1000, some ⟨.agg [.ptr 1000 0, .sl 1008 0 ((encR (l.take k)).length) 1], 29, true⟩), (1008, some ⟨.aggB (encR (l.take k)), 5, true⟩), (1016, some ⟨.agg (rowsC ownR (l.take k)), 33, true⟩), (1024, some ⟨.agg [.i64 (l.getD k default).k, .u64 (l.getD k default).n, .str ((l.getD k default).s.take 40), .dsl (fewL (l.getD k default).l)], 33, true⟩), (3, some ⟨.agg [.err 161 (2) (offE eo (2))], errT, false⟩), (0, some ⟨.agg [.err 161 (4) (offE eo (4))], errT, false⟩), (1, some ⟨.agg [.err 161 (3) (offE eo (3))], errT, false⟩), (450, some ⟨.agg (offC o (rowsC fvR l)), anyT, false⟩)], 1032⟩ | .some j _ => ⟨[(0, .sl 450 o l.length 4), (2, .bool false), (3, .ptr 1000 0), (4, .sl 1016 0 k 4), (5, .i64 ((k : Nat) : Int)), (6, .ptr 1024 0), (7, .sl 1032 0 (fltN (fewL (l.getD k default).l) j).length 1), (32, .dsl (fewL (l.getD k default).l)), (33, .i64 (((fewL (l.getD k default).l).length : Nat) : Int)), (34, .i64 ((j : Nat) : Int))], [(1000, some ⟨.agg [.ptr 1000 0, .sl 1008 0 ((encR (l.take k)).length) 1], 29, true⟩), (1008, some ⟨.aggB (encR (l.take k)), 5, true⟩), (1016, some ⟨.agg (rowsC ownR (l.take k)), 33, true⟩), (1024, some ⟨.agg [.i64 (l.getD k default).k, .u64 (l.getD k default).n, .str ((l.getD k default).s.take 40), .dsl (fewL (l.getD k default).l)], 33, true⟩), (1032, some ⟨.aggS (fltN (fewL (l.getD k default).l) j), 9, true⟩), (3, some ⟨.agg [.err 161 (2) (offE eo (2))], errT, false⟩), (0, some ⟨.agg [.err 161 (4) (offE eo (4))], errT, false⟩), (1, some ⟨.agg [.err 161 (3) (offE eo (3))], errT, false⟩), (450, some ⟨.agg (offC o (rowsC fvR l)), anyT, false⟩)], 1040⟩) (fun q => match q with | .nil j _ => (fewL (l.getD k default).l).length - j | .some j _ => (fewL (l.getD k default).l).length - j) (.nil 0 ⟨Nat.zero_le _, rfl⟩) (StLe.mk [(1000, 1000), (1008, 1008), (1016, 1016), (1024, 1024)] rfl rfl ⟨⟨_, rfl, by rfl, rfl⟩, ⟨_, rfl, by rfl, rfl⟩, ⟨_, rfl, by rfl, rfl⟩, ⟨_, rfl, by rfl, rfl⟩, ⟨_, rfl, by rfl, rfl⟩, ⟨_, rfl, by rfl, rfl⟩, ⟨_, rfl, by rfl, rfl⟩, ⟨_, rfl, by rfl, rfl⟩, ⟨_, rfl, by rfl, rfl⟩, ⟨_, rfl, by rfl, rfl⟩, trivial⟩ ⟨⟨_, _, rfl, rfl, rfl, rfl, id, rfl⟩, ⟨_, _, rfl, rfl, rfl, rfl, id, rfl⟩, ⟨_, _, rfl, rfl, offC_ren _ 0 (rowsC_flat (f := ownR) (fun _ => rfl) (l.take k)), rfl, id, offC_nm _ 0 (rowsC_flat (f := ownR) (fun _ => rfl) (l.take k))⟩, ⟨_, _, rfl, rfl, rfl, rfl, id, rfl⟩, ⟨_, _, rfl, rfl, rfl, rfl, (fun h => by cases h), rfl⟩, ⟨_, _, rfl, rfl, rfl, rfl, (fun h => by cases h), rfl⟩, ⟨_, _, rfl, rfl, rfl, rfl, (fun h => by cases h), rfl⟩, ⟨_, _, rfl, rfl, offC_ren _ o (rowsC_flat (fun _ => rfl) l), rfl, (fun h => by cases h), offC_nm _ o (rowsC_flat (fun _ => rfl) l)⟩, trivial⟩) ?_
    rintro (⟨j, hj⟩ | ⟨j, hj⟩)
    ·try dsimp only
     refine .seq ?_
     refine .region ?_
     refine .q (op_cmpI rfl rfl rfl) trivial rfl ?_
     refine .nil ?_
     show Ev _ _ _ _ _
     refine .seq ?_
     refine .cond rfl (fun hc35 => ?_) (fun hc35 => ?_)
     ·simp only [decide_eq_true_eq] at hc35
      refine .skip ?_
      show Ev _ _ _ _ _
      refine .seq ?_
      refine .block ?_
      refine .seq ?_
      refine .region ?_
      have hlt : j < (fewL (l.getD k default).l).length := by omega
      have hjl := fltN_len (fewL (l.getD k default).l) j
      refine .q (op_indexAddr_dsl Tryd.underlying31 inf9.sz rfl rfl rfl (by first | omega | (simp only [AV.len]; omega) | (simp only [AV.len, List.length_set]; omega) | assumption | (simp [AV.len]; done))) trivial rfl ?_
      refine .q (op_load_dptr Tryd.underlying9 rfl rfl (drop_get (by omega))) trivial rfl ?_
      refine .q (op_assign rfl) trivial rfl ?_
      refine .nil ?_
      show Ev _ _ _ _ _
      refine .seq ?_
      refine .region ?_
      refine .q (op_move rfl) trivial rfl ?_
      refine .q (op_call (U := []) [] [] (rname_ev ((fewL (l.getD k default).l).getD j []) (by have := getD_le_sumB (fewL (l.getD k default).l) j; omega)) Tryd.func22 (by kernel_rfl) rfl rfl rfl (⟨⟨_, rfl, rfl, rfl⟩, trivial⟩) (trivial) (trivial) (trivial) rfl) trivial rfl ?_
      refine .nil ?_
      show Ev _ _ _ _ _
      refine .cond rfl (fun hc39 => ?_) (fun hc39 => ?_)
      ·skip
       have hyes : nameOk ((fewL (l.getD k default).l).getD j []) = true := hc39
       refine .region ?_
       refine .q (op_move rfl) trivial rfl ?_
       refine .q (op_move rfl) trivial rfl ?_
       refine .a (ap_build (us := [_]) (c := .aggS [_]) Tryd.underlying31 inf9 rfl (by decide) (by decide) ⟨rfl, rfl, rfl, trivial⟩ rfl) trivial rfl ?_
       refine .a (ap_cat_nil Tryd.underlying31 inf9 rfl rfl rfl rfl (by first | rfl | omega | (simp only [AV.len]; done) | decide) (by first | rfl | omega | (simp only [AV.len]; done) | decide)) trivial rfl ?_
       refine .q (op_assign rfl) trivial rfl ?_
       refine .nil ?_
       show Ev _ _ _ _ _
       refine .region ?_
       refine .q (op_addI rfl rfl ⟨by omega, by omega⟩) trivial rfl ?_
       refine .q (op_move rfl) trivial rfl ?_
       refine .nil ?_
       exact ⟨.some (j + 1) ⟨by omega, by rw [fltN_yes hlt hyes]; simp⟩, by show (fewL (l.getD k default).l).length - (j + 1) < (fewL (l.getD k default).l).length - j; omega, StLe.mk [(1000, 1000), (1008, 1008), (1016, 1016), (1024, 1024), (1032, 1040)] rfl rfl ⟨⟨_, rfl, by rfl, rfl⟩, ⟨_, rfl, by rfl, rfl⟩, ⟨_, rfl, by rfl, rfl⟩, ⟨_, rfl, by rfl, rfl⟩, ⟨_, rfl, by rfl, rfl⟩, ⟨_, rfl, by rfl, rfl⟩, ⟨_, rfl, by (simp only [AV.ren]; rw [fltN_yes hlt hyes, hj.2]; rfl), rfl⟩, ⟨_, rfl, by rfl, rfl⟩, ⟨_, rfl, by rfl, rfl⟩, ⟨_, rfl, by rfl, rfl⟩, trivial⟩ ⟨⟨_, _, rfl, rfl, rfl, rfl, id, rfl⟩, ⟨_, _, rfl, rfl, rfl, rfl, id, rfl⟩, ⟨_, _, rfl, rfl, offC_ren _ 0 (rowsC_flat (f := ownR) (fun _ => rfl) (l.take k)), rfl, id, offC_nm _ 0 (rowsC_flat (f := ownR) (fun _ => rfl) (l.take k))⟩, ⟨_, _, rfl, rfl, rfl, rfl, id, rfl⟩, ⟨_, _, rfl, rfl, by (rw [fltN_yes hlt hyes, hj.2]; rfl), rfl, id, rfl⟩, ⟨_, _, rfl, rfl, rfl, rfl, (fun h => by cases h), rfl⟩, ⟨_, _, rfl, rfl, rfl, rfl, (fun h => by cases h), rfl⟩, ⟨_, _, rfl, rfl, rfl, rfl, (fun h => by cases h), rfl⟩, ⟨_, _, rfl, rfl, offC_ren _ o (rowsC_flat (fun _ => rfl) l), rfl, (fun h => by cases h), offC_nm _ o (rowsC_flat (fun _ => rfl) l)⟩, trivial⟩⟩
      ·skip
       have hno : nameOk ((fewL (l.getD k default).l).getD j []) = false := hc39
       refine .skip ?_
       show Ev _ _ _ _ _
       refine .region ?_
       refine .q (op_addI rfl rfl ⟨by omega, by omega⟩) trivial rfl ?_
       refine .q (op_move rfl) trivial rfl ?_
       refine .nil ?_
       exact ⟨.nil (j + 1) ⟨by omega, (fltN_no hlt hno).trans hj.2⟩, by show (fewL (l.getD k default).l).length - (j + 1) < (fewL (l.getD k default).l).length - j; omega, StLe.mk [(1000, 1000), (1008, 1008), (1016, 1016), (1024, 1024)] rfl rfl ⟨⟨_, rfl, by rfl, rfl⟩, ⟨_, rfl, by rfl, rfl⟩, ⟨_, rfl, by rfl, rfl⟩, ⟨_, rfl, by rfl, rfl⟩, ⟨_, rfl, by rfl, rfl⟩, ⟨_, rfl, by rfl, rfl⟩, ⟨_, rfl, by rfl, rfl⟩, ⟨_, rfl, by rfl, rfl⟩, ⟨_, rfl, by rfl, rfl⟩, ⟨_, rfl, by rfl, rfl⟩, trivial⟩ ⟨⟨_, _, rfl, rfl, rfl, rfl, id, rfl⟩, ⟨_, _, rfl, rfl, rfl, rfl, id, rfl⟩, ⟨_, _, rfl, rfl, offC_ren _ 0 (rowsC_flat (f := ownR) (fun _ => rfl) (l.take k)), rfl, id, offC_nm _ 0 (rowsC_flat (f := ownR) (fun _ => rfl) (l.take k))⟩, ⟨_, _, rfl, rfl, rfl, rfl, id, rfl⟩, ⟨_, _, rfl, rfl, rfl, rfl, (fun h => by cases h), rfl⟩, ⟨_, _, rfl, rfl, rfl, rfl, (fun h => by cases h), rfl⟩, ⟨_, _, rfl, rfl, rfl, rfl, (fun h => by cases h), rfl⟩, ⟨_, _, rfl, rfl, offC_ren _ o (rowsC_flat (fun _ => rfl) l), rfl, (fun h => by cases h), offC_nm _ o (rowsC_flat (fun _ => rfl) l)⟩, trivial⟩⟩
     ·simp only [decide_eq_false_iff_not] at hc35
      refine .exit ?_
      show Ev _ _ _ _ _
      have hF : fltN (fewL (l.getD k default).l) j = (ownL (l.getD k default)) := by rw [← fltN_all]; rw [show j = (fewL (l.getD k default).l).length by omega]
      refine Ev.weak (st2 := ⟨[(7, .nilsl), (0, .sl 450 o l.length 4), (2, .bool false), (3, .ptr 1000 0), (4, .sl 1016 0 k 4), (5, .i64 ((k : Nat) : Int)), (6, .ptr 1024 0)], [(1000, some ⟨.agg [.ptr 1000 0, .sl 1008 0 ((encR (l.take k)).length) 1], 29, true⟩), (1008, some ⟨.aggB (encR (l.take k)), 5, true⟩), (1016, some ⟨.agg (rowsC ownR (l.take k)), 33, true⟩), (1024, some ⟨.agg [.i64 (l.getD k default).k, .u64 (l.getD k default).n, .str ((l.getD k default).s.take 40), .dsl (fewL (l.getD k default).l)], 33, true⟩), (3, some ⟨.agg [.err 161 (2) (offE eo (2))], errT, false⟩), (0, some ⟨.agg [.err 161 (4) (offE eo (4))], errT, false⟩), (1, some ⟨.agg [.err 161 (3) (offE eo (3))], errT, false⟩), (450, some ⟨.agg (offC o (rowsC fvR l)), anyT, false⟩)], 1032⟩) (StLe.mk [(1000, 1000), (1008, 1008), (1016, 1016), (1024, 1024)] rfl rfl ⟨⟨_, rfl, by rfl, rfl⟩, ⟨_, rfl, by rfl, rfl⟩, ⟨_, rfl, by rfl, rfl⟩, ⟨_, rfl, by rfl, rfl⟩, ⟨_, rfl, by rfl, rfl⟩, ⟨_, rfl, by rfl, rfl⟩, ⟨_, rfl, by rfl, rfl⟩, trivial⟩ ⟨⟨_, _, rfl, rfl, rfl, rfl, id, rfl⟩, ⟨_, _, rfl, rfl, rfl, rfl, id, rfl⟩, ⟨_, _, rfl, rfl, offC_ren _ 0 (rowsC_flat (f := ownR) (fun _ => rfl) (l.take k)), rfl, id, offC_nm _ 0 (rowsC_flat (f := ownR) (fun _ => rfl) (l.take k))⟩, ⟨_, _, rfl, rfl, rfl, rfl, id, rfl⟩, ⟨_, _, rfl, rfl, rfl, rfl, (fun h => by cases h), rfl⟩, ⟨_, _, rfl, rfl, rfl, rfl, (fun h => by cases h), rfl⟩, ⟨_, _, rfl, rfl, rfl, rfl, (fun h => by cases h), rfl⟩, ⟨_, _, rfl, rfl, offC_ren _ o (rowsC_flat (fun _ => rfl) l), rfl, (fun h => by cases h), offC_nm _ o (rowsC_flat (fun _ => rfl) l)⟩, trivial⟩) ?_
      refine Ev.asR (T1 := []) (.dsl (ownL (l.getD k default))) (fun E y h => by rw [← hF, hj.2]; exact nil_dsl E y h) ?_
      show Ev _ _ _ _ _
      refine .seq ?_
      refine .region ?_
      refine .q (op_move rfl) trivial rfl ?_
      refine .q (op_fieldAddr (m := 0) Tryd.underlying33 rfl (by kernel_rfl) rfl) trivial rfl ?_
      refine .as (.ptr 1024 3) rfl ?_
      refine .w (op_store (by kernel_rfl) rfl rfl rfl rfl rfl (by show 3 < 4; decide)) trivial rfl ?_
      refine .nil ?_
      show Ev _ _ _ _ _
      refine .seq ?_
      refine .region ?_
      refine .q (op_move rfl) trivial rfl ?_
      refine .q (op_loadRow Tryd.underlying33 rfl (by kernel_rfl) rfl rfl rfl (rfl)) trivial rfl ?_
      refine .a (op_buildRow (z := 4) (r := .agg (ownR (l.getD k default))) (cs := ownR (l.getD k default)) Tryd.underlying22 infField (by decide) (by decide) rfl rfl rfl) trivial rfl ?_
      refine .a (ap_append (c' := .agg (rowsC ownR (l.take k) ++ ownR (l.getD k default))) Tryd.underlying22 Tryd.underlying22 (.inr ⟨_, rfl⟩) infField rfl rfl rfl rfl (by show (rowsC ownR (l.take k)).length = k * 4; rw [rowsC_len (f := ownR) (z := 4) (fun _ => rfl), List.length_take, Nat.min_eq_left hk2]) (srcs_sl (m := 1) (o := 0) rfl rfl (by show 4 ≤ 4; decide)) rfl (by omega)) trivial rfl ?_
      refine .q (op_assign rfl) trivial rfl ?_
      refine .nil ?_
      show Ev _ _ _ _ _
      refine .drawnF [[], [0], [0, 1], [], [3], [0, 1, 2, 3, 4], [], [6], [0, 1, 2, 3, 4, 5, 6, 7], [], [9], [0, 1, 2, 3, 4, 5, 6, 7, 8, 9, 10], [], [12], [12, 13], [0, 1, 2, 3, 4, 5, 6, 7, 8, 9, 10, 11, 12, 13, 14]] [1, 2, 4, 5, 7, 8, 10, 11, 13, 15] [] [(1, ([1024], [])), (2, ([], [1000, 1008])), (4, ([1024], [])), (5, ([], [1000, 1064])), (7, ([1024], [])), (8, ([], [1000, 1088])), (10, ([1024], [])), (11, ([], [1000, 1112])), (13, ([1024], [])), (15, ([], [1000, 1136]))] (by kernel_rfl) (by kernel_rfl) rfl ?_
      show DK _ [0, 1, 2, 3, 4, 5, 6, 7, 8, 9, 10, 11, 12, 13, 14, 15] _ _ _
      refine .q rfl (op_fieldAddr (m := 0) Tryd.underlying33 rfl (by kernel_rfl) rfl) trivial ?_
      refine .as (.ptr 1024 1) rfl ?_
      refine .q rfl (op_load Tryd.underlying30 rfl rfl rfl rfl (by show 1 < 4; decide)) trivial ?_
      refine .a rfl (op_call (U := [(1000, some ⟨.agg [.ptr 1000 0, .sl 1064 0 ((encR (l.take k)).length + 8) 1], 29, true⟩), (1064, some ⟨.aggB ((encR (l.take k)) ++ numB (l.getD k default).n 8 8), 5, true⟩), (1008, none)]) [(500, 1000), (501, 1008)] [(1064, 1000)] (u642_ev (l.getD k default).n ((encR (l.take k))) ((encR (l.take k)).length) (by first | exact hn | rfl | (simp only [List.length_append, length_numB, length_textB, length_namesB, big_len, length_boolB]; done) | (simp only [List.length_append, length_numB, length_textB, length_namesB, big_len, length_boolB]; omega)) (by omega)) Tryd.func13 (by kernel_rfl) rfl rfl rfl (⟨⟨_, rfl, rfl, rfl⟩, ⟨_, rfl, rfl, rfl⟩, trivial⟩) (⟨⟨_, _, rfl, rfl, rfl, rfl, id, rfl⟩, ⟨_, _, rfl, rfl, rfl, rfl, id, rfl⟩, trivial⟩) (⟨⟨500, _, rfl, rfl, rfl, rfl, .inr ⟨rfl, _, rfl, rfl⟩⟩, ⟨1000, _, rfl, rfl, rfl, rfl, .inl rfl⟩, trivial⟩) (⟨(fun _ => ⟨1000, _, rfl, rfl⟩), (fun _ => ⟨1008, _, rfl, rfl⟩), trivial⟩) rfl) trivial rfl rfl ?_
      refine .q rfl (op_fieldAddr (m := 0) Tryd.underlying33 rfl (by kernel_rfl) rfl) trivial ?_
      refine .as (.ptr 1024 2) rfl ?_
      refine .q rfl (op_load Tryd.underlying9 rfl rfl rfl rfl (by show 2 < 4; decide)) trivial ?_
      refine .a rfl (op_call (U := [(1000, some ⟨.agg [.ptr 1000 0, .sl 1088 0 ((encR (l.take k)).length + 8 + (4 + ((l.getD k default).s.take 40).length)) 1], 29, true⟩), (1088, some ⟨.aggB (((encR (l.take k)) ++ numB (l.getD k default).n 8 8) ++ textB ((l.getD k default).s.take 40)), 5, true⟩), (1064, none)]) [(500, 1000), (501, 1064)] [(1088, 1008)] (text2_ev ((l.getD k default).s.take 40) (by omega) (((encR (l.take k)) ++ numB (l.getD k default).n 8 8)) ((encR (l.take k)).length + 8) (by first | exact hn | rfl | (simp only [List.length_append, length_numB]; done) | (simp only [List.length_append, length_numB, length_textB, length_namesB, big_len, length_boolB]; omega)) (by omega)) Tryd.func19 (by kernel_rfl) rfl rfl rfl (⟨⟨_, rfl, rfl, rfl⟩, ⟨_, rfl, rfl, rfl⟩, trivial⟩) (⟨⟨_, _, rfl, rfl, rfl, rfl, id, rfl⟩, ⟨_, _, rfl, rfl, rfl, rfl, id, rfl⟩, trivial⟩) (⟨⟨500, _, rfl, rfl, rfl, rfl, .inr ⟨rfl, _, rfl, rfl⟩⟩, ⟨1008, _, rfl, rfl, rfl, rfl, .inl rfl⟩, trivial⟩) (⟨(fun _ => ⟨1000, _, rfl, rfl⟩), (fun _ => ⟨1064, _, rfl, rfl⟩), trivial⟩) rfl) trivial rfl rfl ?_
      refine .q rfl (op_fieldAddr (m := 0) Tryd.underlying33 rfl (by kernel_rfl) rfl) trivial ?_
      refine .as (.ptr 1024 3) rfl ?_
      refine .q rfl (op_load Tryd.underlying31 rfl rfl rfl rfl (by show 3 < 4; decide)) trivial ?_
      refine .a rfl (op_call (U := [(1000, some ⟨.agg [.ptr 1000 0, .sl 1112 0 ((encR (l.take k)).length + 8 + (4 + ((l.getD k default).s.take 40).length) + (4 + (joinB (ownL (l.getD k default))).length)) 1], 29, true⟩), (1112, some ⟨.aggB ((((encR (l.take k)) ++ numB (l.getD k default).n 8 8) ++ textB ((l.getD k default).s.take 40)) ++ namesB (ownL (l.getD k default))), 5, true⟩), (1088, none)]) [(500, 1000), (501, 1088)] [(1112, 1000)] (names2_ev (ownL (l.getD k default)) (by omega) (by omega) ((((encR (l.take k)) ++ numB (l.getD k default).n 8 8) ++ textB ((l.getD k default).s.take 40))) ((encR (l.take k)).length + 8 + (4 + ((l.getD k default).s.take 40).length)) (by first | exact hn | rfl | (simp only [List.length_append, length_numB, length_textB]; done) | (simp only [List.length_append, length_numB, length_textB, length_namesB, big_len, length_boolB]; omega)) (by omega)) Tryd.func15 (by kernel_rfl) rfl rfl rfl (⟨⟨_, rfl, rfl, rfl⟩, ⟨_, rfl, rfl, rfl⟩, trivial⟩) (⟨⟨_, _, rfl, rfl, rfl, rfl, id, rfl⟩, ⟨_, _, rfl, rfl, rfl, rfl, id, rfl⟩, trivial⟩) (⟨⟨500, _, rfl, rfl, rfl, rfl, .inr ⟨rfl, _, rfl, rfl⟩⟩, ⟨1000, _, rfl, rfl, rfl, rfl, .inl rfl⟩, trivial⟩) (⟨(fun _ => ⟨1000, _, rfl, rfl⟩), (fun _ => ⟨1088, _, rfl, rfl⟩), trivial⟩) rfl) trivial rfl rfl ?_
      refine .q rfl (op_fieldAddr (m := 0) Tryd.underlying33 rfl (by kernel_rfl) rfl) trivial ?_
      refine .as (.ptr 1024 2) rfl ?_
      refine .q rfl (op_load Tryd.underlying9 rfl rfl rfl rfl (by show 2 < 4; decide)) trivial ?_
      refine .a rfl (op_call (U := [(1000, some ⟨.agg [.ptr 1000 0, .sl 1136 0 ((encR (l.take k)).length + 8 + (4 + ((l.getD k default).s.take 40).length) + (4 + (joinB (ownL (l.getD k default))).length) + (4 + (unsB (shortB ((l.getD k default).s.take 40))).length)) 1], 29, true⟩), (1136, some ⟨.aggB (((((encR (l.take k)) ++ numB (l.getD k default).n 8 8) ++ textB ((l.getD k default).s.take 40)) ++ namesB (ownL (l.getD k default))) ++ bigB ((l.getD k default).s.take 40)), 5, true⟩), (1112, none)]) [(500, 1000), (501, 1112)] [(1136, 1000)] (big2_ev ((l.getD k default).s.take 40) (by omega) (((((encR (l.take k)) ++ numB (l.getD k default).n 8 8) ++ textB ((l.getD k default).s.take 40)) ++ namesB (ownL (l.getD k default)))) ((encR (l.take k)).length + 8 + (4 + ((l.getD k default).s.take 40).length) + (4 + (joinB (ownL (l.getD k default))).length)) (by first | exact hn | rfl | (simp only [List.length_append, length_numB, length_textB, length_namesB]; done) | (simp only [List.length_append, length_numB, length_textB, length_namesB, big_len, length_boolB]; omega)) (by omega)) Tryd.func17 (by kernel_rfl) rfl rfl rfl (⟨⟨_, rfl, rfl, rfl⟩, ⟨_, rfl, rfl, rfl⟩, trivial⟩) (⟨⟨_, _, rfl, rfl, rfl, rfl, id, rfl⟩, ⟨_, _, rfl, rfl, rfl, rfl, id, rfl⟩, trivial⟩) (⟨⟨500, _, rfl, rfl, rfl, rfl, .inr ⟨rfl, _, rfl, rfl⟩⟩, ⟨1000, _, rfl, rfl, rfl, rfl, .inl rfl⟩, trivial⟩) (⟨(fun _ => ⟨1000, _, rfl, rfl⟩), (fun _ => ⟨1112, _, rfl, rfl⟩), trivial⟩) rfl) trivial rfl rfl ?_
      refine .q rfl (op_fieldAddr (m := 0) Tryd.underlying33 rfl (by kernel_rfl) rfl) trivial ?_
      refine .as (.ptr 1024 1) rfl ?_
      refine .q rfl (op_load Tryd.underlying30 rfl rfl rfl rfl (by show 1 < 4; decide)) trivial ?_
      refine .q rfl (op_bin64 rfl rfl rfl) trivial ?_
      refine .as (.bool (decide (9 < (l.getD k default).n))) rfl ?_
      refine .a rfl (op_call (U := [(1000, some ⟨.agg [.ptr 1000 0, .sl 1168 0 ((encR (l.take k)).length + 8 + (4 + ((l.getD k default).s.take 40).length) + (4 + (joinB (ownL (l.getD k default))).length) + (4 + (unsB (shortB ((l.getD k default).s.take 40))).length) + 1) 1], 29, true⟩), (1168, some ⟨.aggB ((((((encR (l.take k)) ++ numB (l.getD k default).n 8 8) ++ textB ((l.getD k default).s.take 40)) ++ namesB (ownL (l.getD k default))) ++ bigB ((l.getD k default).s.take 40)) ++ boolB (decide (9 < (l.getD k default).n))), 5, true⟩), (1136, none)]) [(500, 1000), (501, 1136)] [(1168, 1000)] (bool2_ev (decide (9 < (l.getD k default).n)) ((((((encR (l.take k)) ++ numB (l.getD k default).n 8 8) ++ textB ((l.getD k default).s.take 40)) ++ namesB (ownL (l.getD k default))) ++ bigB ((l.getD k default).s.take 40))) ((encR (l.take k)).length + 8 + (4 + ((l.getD k default).s.take 40).length) + (4 + (joinB (ownL (l.getD k default))).length) + (4 + (unsB (shortB ((l.getD k default).s.take 40))).length)) (by first | exact hn | rfl | (simp only [List.length_append, length_numB, length_textB, length_namesB, big_len]; done) | (simp only [List.length_append, length_numB, length_textB, length_namesB, big_len, length_boolB]; omega)) (by omega)) Tryd.func10 (by kernel_rfl) rfl rfl rfl (⟨⟨_, rfl, rfl, rfl⟩, ⟨_, rfl, rfl, rfl⟩, trivial⟩) (⟨⟨_, _, rfl, rfl, rfl, rfl, id, rfl⟩, ⟨_, _, rfl, rfl, rfl, rfl, id, rfl⟩, trivial⟩) (⟨⟨500, _, rfl, rfl, rfl, rfl, .inr ⟨rfl, _, rfl, rfl⟩⟩, ⟨1000, _, rfl, rfl, rfl, rfl, .inl rfl⟩, trivial⟩) (⟨(fun _ => ⟨1000, _, rfl, rfl⟩), (fun _ => ⟨1136, _, rfl, rfl⟩), trivial⟩) rfl) trivial rfl rfl ?_
      refine .nil ?_
      show Ev _ _ _ _ _
      refine .region ?_
      refine .q (op_move rfl) trivial rfl ?_
      refine .q (op_addI rfl rfl ⟨by omega, by omega⟩) trivial rfl ?_
      refine .q (op_assign rfl) trivial rfl ?_
      refine .nil ?_
      have hN : encR (l.take (k + 1)) = encR (l.take k) ++ encF (l.getD k default) := encR_take (by omega)
      have hR : rowsC ownR (l.take (k + 1)) = rowsC ownR (l.take k) ++ ownR (l.getD k default) := rows_take (by omega)
      exact ⟨some ⟨k + 1, by omega, by omega, by omega⟩, by show 12 - (k + 1) < 12 - k; omega, StLe.mk [(1000, 1000), (1008, 1168), (1016, 1040)] rfl rfl ⟨⟨_, rfl, by rfl, rfl⟩, ⟨_, rfl, by rfl, rfl⟩, ⟨_, rfl, by rfl, rfl⟩, ⟨_, rfl, by rfl, rfl⟩, ⟨_, rfl, by rfl, rfl⟩, trivial⟩ ⟨⟨_, _, rfl, rfl, by (simp only [AV.ren, AV.renL]; exact congrArg (fun z => AV.agg [.ptr 1000 0, .sl 1008 0 z 1]) (by rw [hN]; simp only [encF, List.length_append, length_numB, length_textB, length_namesB, big_len, length_boolB] <;> omega)), rfl, id, rfl⟩, ⟨_, _, rfl, rfl, by (exact congrArg AV.aggB (by rw [hN]; simp only [encF, List.append_assoc])), rfl, id, rfl⟩, ⟨_, _, rfl, rfl, (by rw [hR]; exact offC_ren _ 0 (cs := rowsC ownR (l.take k) ++ ownR (l.getD k default)) (by rw [← hR]; exact (rowsC_flat (f := ownR) (fun _ => rfl) (l.take (k + 1))))), rfl, id, (by exact offC_nm _ 0 (cs := rowsC ownR (l.take k) ++ ownR (l.getD k default)) (by rw [← hR]; exact (rowsC_flat (f := ownR) (fun _ => rfl) (l.take (k + 1)))))⟩, ⟨_, _, rfl, rfl, rfl, rfl, (fun h => by cases h), rfl⟩, ⟨_, _, rfl, rfl, rfl, rfl, (fun h => by cases h), rfl⟩, ⟨_, _, rfl, rfl, rfl, rfl, (fun h => by cases h), rfl⟩, ⟨_, _, rfl, rfl, offC_ren _ o (rowsC_flat (fun _ => rfl) l), rfl, (fun h => by cases h), offC_nm _ o (rowsC_flat (fun _ => rfl) l)⟩, trivial⟩⟩
    ·try dsimp only
     refine .seq ?_
     refine .region ?_
     refine .q (op_cmpI rfl rfl rfl) trivial rfl ?_
     refine .nil ?_
     show Ev _ _ _ _ _
     refine .seq ?_
     refine .cond rfl (fun hc35 => ?_) (fun hc35 => ?_)
     ·simp only [decide_eq_true_eq] at hc35
      refine .skip ?_
      show Ev _ _ _ _ _
      refine .seq ?_
      refine .block ?_
      refine .seq ?_
      refine .region ?_
      have hlt : j < (fewL (l.getD k default).l).length := by omega
      have hjl := fltN_len (fewL (l.getD k default).l) j
      refine .q (op_indexAddr_dsl Tryd.underlying31 inf9.sz rfl rfl rfl (by first | omega | (simp only [AV.len]; omega) | (simp only [AV.len, List.length_set]; omega) | assumption | (simp [AV.len]; done))) trivial rfl ?_
      refine .q (op_load_dptr Tryd.underlying9 rfl rfl (drop_get (by omega))) trivial rfl ?_
      refine .q (op_assign rfl) trivial rfl ?_
      refine .nil ?_
      show Ev _ _ _ _ _
      refine .seq ?_
      refine .region ?_
      refine .q (op_move rfl) trivial rfl ?_
      refine .q (op_call (U := []) [] [] (rname_ev ((fewL (l.getD k default).l).getD j []) (by have := getD_le_sumB (fewL (l.getD k default).l) j; omega)) Tryd.func22 (by kernel_rfl) rfl rfl rfl (⟨⟨_, rfl, rfl, rfl⟩, trivial⟩) (trivial) (trivial) (trivial) rfl) trivial rfl ?_
      refine .nil ?_
      show Ev _ _ _ _ _
      refine .cond rfl (fun hc39 => ?_) (fun hc39 => ?_)
      ·skip
       have hyes : nameOk ((fewL (l.getD k default).l).getD j []) = true := hc39
       refine .region ?_
       refine .q (op_move rfl) trivial rfl ?_
       refine .q (op_move rfl) trivial rfl ?_
       refine .a (ap_build (us := [_]) (c := .aggS [_]) Tryd.underlying31 inf9 rfl (by decide) (by decide) ⟨rfl, rfl, rfl, trivial⟩ rfl) trivial rfl ?_
       refine .a (ap_cat Tryd.underlying31 inf9 rfl rfl rfl rfl (by first | rfl | omega | (simp only [AV.len, List.length_cons, List.length_nil]; done) | (simp only [AV.len, List.length_cons, List.length_nil]; omega)) rfl rfl (by first | rfl | omega | (simp only [AV.len, List.length_cons, List.length_nil]; done) | (simp only [AV.len, List.length_cons, List.length_nil]; omega)) rfl (by first | rfl | omega | (simp only [AV.len, List.length_cons, List.length_nil]; done) | (simp only [AV.len, List.length_cons, List.length_nil]; omega))) trivial rfl ?_
       refine .q (op_assign rfl) trivial rfl ?_
       refine .nil ?_
       show Ev _ _ _ _ _
       refine .region ?_
       refine .q (op_addI rfl rfl ⟨by omega, by omega⟩) trivial rfl ?_
       refine .q (op_move rfl) trivial rfl ?_
       refine .nil ?_
       exact ⟨.some (j + 1) ⟨by omega, by rw [fltN_yes hlt hyes]; simp⟩, by show (fewL (l.getD k default).l).length - (j + 1) < (fewL (l.getD k default).l).length - j; omega, StLe.mk [(1000, 1000), (1008, 1008), (1016, 1016), (1024, 1024), (1032, 1048)] rfl rfl ⟨⟨_, rfl, by rfl, rfl⟩, ⟨_, rfl, by rfl, rfl⟩, ⟨_, rfl, by rfl, rfl⟩, ⟨_, rfl, by rfl, rfl⟩, ⟨_, rfl, by rfl, rfl⟩, ⟨_, rfl, by rfl, rfl⟩, ⟨_, rfl, by (simp only [AV.ren]; rw [fltN_yes hlt hyes]; simp only [List.length_append, List.length_cons, List.length_nil]; rfl), rfl⟩, ⟨_, rfl, by rfl, rfl⟩, ⟨_, rfl, by rfl, rfl⟩, ⟨_, rfl, by rfl, rfl⟩, trivial⟩ ⟨⟨_, _, rfl, rfl, rfl, rfl, id, rfl⟩, ⟨_, _, rfl, rfl, rfl, rfl, id, rfl⟩, ⟨_, _, rfl, rfl, offC_ren _ 0 (rowsC_flat (f := ownR) (fun _ => rfl) (l.take k)), rfl, id, offC_nm _ 0 (rowsC_flat (f := ownR) (fun _ => rfl) (l.take k))⟩, ⟨_, _, rfl, rfl, rfl, rfl, id, rfl⟩, ⟨_, _, rfl, rfl, by (rw [fltN_yes hlt hyes]; rfl), rfl, id, rfl⟩, ⟨_, _, rfl, rfl, rfl, rfl, (fun h => by cases h), rfl⟩, ⟨_, _, rfl, rfl, rfl, rfl, (fun h => by cases h), rfl⟩, ⟨_, _, rfl, rfl, rfl, rfl, (fun h => by cases h), rfl⟩, ⟨_, _, rfl, rfl, offC_ren _ o (rowsC_flat (fun _ => rfl) l), rfl, (fun h => by cases h), offC_nm _ o (rowsC_flat (fun _ => rfl) l)⟩, trivial⟩⟩
      ·skip
       have hno : nameOk ((fewL (l.getD k default).l).getD j []) = false := hc39
       refine .skip ?_
       show Ev _ _ _ _ _
       refine .region ?_
       refine .q (op_addI rfl rfl ⟨by omega, by omega⟩) trivial rfl ?_
       refine .q (op_move rfl) trivial rfl ?_
       refine .nil ?_
       exact ⟨.some (j + 1) ⟨by omega, by rw [fltN_no hlt hno]; exact hj.2⟩, by show (fewL (l.getD k default).l).length - (j + 1) < (fewL (l.getD k default).l).length - j; omega, StLe.mk [(1000, 1000), (1008, 1008), (1016, 1016), (1024, 1024), (1032, 1032)] rfl rfl ⟨⟨_, rfl, by rfl, rfl⟩, ⟨_, rfl, by rfl, rfl⟩, ⟨_, rfl, by rfl, rfl⟩, ⟨_, rfl, by rfl, rfl⟩, ⟨_, rfl, by rfl, rfl⟩, ⟨_, rfl, by rfl, rfl⟩, ⟨_, rfl, by (simp only [AV.ren]; rw [fltN_no hlt hno]; rfl), rfl⟩, ⟨_, rfl, by rfl, rfl⟩, ⟨_, rfl, by rfl, rfl⟩, ⟨_, rfl, by rfl, rfl⟩, trivial⟩ ⟨⟨_, _, rfl, rfl, rfl, rfl, id, rfl⟩, ⟨_, _, rfl, rfl, rfl, rfl, id, rfl⟩, ⟨_, _, rfl, rfl, offC_ren _ 0 (rowsC_flat (f := ownR) (fun _ => rfl) (l.take k)), rfl, id, offC_nm _ 0 (rowsC_flat (f := ownR) (fun _ => rfl) (l.take k))⟩, ⟨_, _, rfl, rfl, rfl, rfl, id, rfl⟩, ⟨_, _, rfl, rfl, by (rw [fltN_no hlt hno]; rfl), rfl, id, rfl⟩, ⟨_, _, rfl, rfl, rfl, rfl, (fun h => by cases h), rfl⟩, ⟨_, _, rfl, rfl, rfl, rfl, (fun h => by cases h), rfl⟩, ⟨_, _, rfl, rfl, rfl, rfl, (fun h => by cases h), rfl⟩, ⟨_, _, rfl, rfl, offC_ren _ o (rowsC_flat (fun _ => rfl) l), rfl, (fun h => by cases h), offC_nm _ o (rowsC_flat (fun _ => rfl) l)⟩, trivial⟩⟩
     ·simp only [decide_eq_false_iff_not] at hc35
      refine .exit ?_
      show Ev _ _ _ _ _
      have hF : fltN (fewL (l.getD k default).l) j = (ownL (l.getD k default)) := by rw [← fltN_all]; rw [show j = (fewL (l.getD k default).l).length by omega]
      refine Ev.weak (st2 := ⟨[(7, .sl 1032 0 (fltN (fewL (l.getD k default).l) j).length 1), (0, .sl 450 o l.length 4), (2, .bool false), (3, .ptr 1000 0), (4, .sl 1016 0 k 4), (5, .i64 ((k : Nat) : Int)), (6, .ptr 1024 0)], [(1000, some ⟨.agg [.ptr 1000 0, .sl 1008 0 ((encR (l.take k)).length) 1], 29, true⟩), (1008, some ⟨.aggB (encR (l.take k)), 5, true⟩), (1016, some ⟨.agg (rowsC ownR (l.take k)), 33, true⟩), (1024, some ⟨.agg [.i64 (l.getD k default).k, .u64 (l.getD k default).n, .str ((l.getD k default).s.take 40), .dsl (fewL (l.getD k default).l)], 33, true⟩), (1032, some ⟨.aggS (fltN (fewL (l.getD k default).l) j), 9, true⟩), (3, some ⟨.agg [.err 161 (2) (offE eo (2))], errT, false⟩), (0, some ⟨.agg [.err 161 (4) (offE eo (4))], errT, false⟩), (1, some ⟨.agg [.err 161 (3) (offE eo (3))], errT, false⟩), (450, some ⟨.agg (offC o (rowsC fvR l)), anyT, false⟩)], 1040⟩) (StLe.mk [(1000, 1000), (1008, 1008), (1016, 1016), (1024, 1024), (1032, 1032)] rfl rfl ⟨⟨_, rfl, by rfl, rfl⟩, ⟨_, rfl, by rfl, rfl⟩, ⟨_, rfl, by rfl, rfl⟩, ⟨_, rfl, by rfl, rfl⟩, ⟨_, rfl, by rfl, rfl⟩, ⟨_, rfl, by rfl, rfl⟩, ⟨_, rfl, by rfl, rfl⟩, trivial⟩ ⟨⟨_, _, rfl, rfl, rfl, rfl, id, rfl⟩, ⟨_, _, rfl, rfl, rfl, rfl, id, rfl⟩, ⟨_, _, rfl, rfl, offC_ren _ 0 (rowsC_flat (f := ownR) (fun _ => rfl) (l.take k)), rfl, id, offC_nm _ 0 (rowsC_flat (f := ownR) (fun _ => rfl) (l.take k))⟩, ⟨_, _, rfl, rfl, rfl, rfl, id, rfl⟩, ⟨_, _, rfl, rfl, rfl, rfl, id, rfl⟩, ⟨_, _, rfl, rfl, rfl, rfl, (fun h => by cases h), rfl⟩, ⟨_, _, rfl, rfl, rfl, rfl, (fun h => by cases h), rfl⟩, ⟨_, _, rfl, rfl, rfl, rfl, (fun h => by cases h), rfl⟩, ⟨_, _, rfl, rfl, offC_ren _ o (rowsC_flat (fun _ => rfl) l), rfl, (fun h => by cases h), offC_nm _ o (rowsC_flat (fun _ => rfl) l)⟩, trivial⟩) ?_
      refine Ev.weak (StLe.freeze (t := 7) (b := 1032) (o := 0) (n := (fltN (fewL (l.getD k default).l) j).length) (e := 9) (L := fltN (fewL (l.getD k default).l) j) (Nat.le_of_ble_eq_true rfl) rfl rfl (by omega)) ?_
      refine Ev.asR (T1 := []) (.dsl (ownL (l.getD k default))) (fun E y h => by rw [List.drop_zero, List.take_length, hF] at h; exact h) ?_
      show Ev _ _ _ _ _
      refine .seq ?_
      refine .region ?_
      refine .q (op_move rfl) trivial rfl ?_
      refine .q (op_fieldAddr (m := 0) Tryd.underlying33 rfl (by kernel_rfl) rfl) trivial rfl ?_
      refine .as (.ptr 1024 3) rfl ?_
      refine .w (op_store (by kernel_rfl) rfl rfl rfl rfl rfl (by show 3 < 4; decide)) trivial rfl ?_
      refine .nil ?_
      show Ev _ _ _ _ _
      refine .seq ?_
      refine .region ?_
      refine .q (op_move rfl) trivial rfl ?_
      refine .q (op_loadRow Tryd.underlying33 rfl (by kernel_rfl) rfl rfl rfl (rfl)) trivial rfl ?_
      refine .a (op_buildRow (z := 4) (r := .agg (ownR (l.getD k default))) (cs := ownR (l.getD k default)) Tryd.underlying22 infField (by decide) (by decide) rfl rfl rfl) trivial rfl ?_
      refine .a (ap_append (c' := .agg (rowsC ownR (l.take k) ++ ownR (l.getD k default))) Tryd.underlying22 Tryd.underlying22 (.inr ⟨_, rfl⟩) infField rfl rfl rfl rfl (by show (rowsC ownR (l.take k)).length = k * 4; rw [rowsC_len (f := ownR) (z := 4) (fun _ => rfl), List.length_take, Nat.min_eq_left hk2]) (srcs_sl (m := 1) (o := 0) rfl rfl (by show 4 ≤ 4; decide)) rfl (by omega)) trivial rfl ?_
      refine .q (op_assign rfl) trivial rfl ?_
      refine .nil ?_
      show Ev _ _ _ _ _
      refine .drawnF [[], [0], [0, 1], [], [3], [0, 1, 2, 3, 4], [], [6], [0, 1, 2, 3, 4, 5, 6, 7], [], [9], [0, 1, 2, 3, 4, 5, 6, 7, 8, 9, 10], [], [12], [12, 13], [0, 1, 2, 3, 4, 5, 6, 7, 8, 9, 10, 11, 12, 13, 14]] [1, 2, 4, 5, 7, 8, 10, 11, 13, 15] [] [(1, ([1024], [])), (2, ([], [1000, 1008])), (4, ([1024], [])), (5, ([], [1000, 1072])), (7, ([1024], [])), (8, ([], [1000, 1096])), (10, ([1024], [])), (11, ([], [1000, 1120])), (13, ([1024], [])), (15, ([], [1000, 1144]))] (by kernel_rfl) (by kernel_rfl) rfl ?_
      show DK _ [0, 1, 2, 3, 4, 5, 6, 7, 8, 9, 10, 11, 12, 13, 14, 15] _ _ _
      refine .q rfl (op_fieldAddr (m := 0) Tryd.underlying33 rfl (by kernel_rfl) rfl) trivial ?_
      refine .as (.ptr 1024 1) rfl ?_
      refine .q rfl (op_load Tryd.underlying30 rfl rfl rfl rfl (by show 1 < 4; decide)) trivial ?_
      refine .a rfl (op_call (U := [(1000, some ⟨.agg [.ptr 1000 0, .sl 1072 0 ((encR (l.take k)).length + 8) 1], 29, true⟩), (1072, some ⟨.aggB ((encR (l.take k)) ++ numB (l.getD k default).n 8 8), 5, true⟩), (1008, none)]) [(500, 1000), (501, 1008)] [(1072, 1000)] (u642_ev (l.getD k default).n ((encR (l.take k))) ((encR (l.take k)).length) (by first | exact hn | rfl | (simp only [List.length_append, length_numB, length_textB, length_namesB, big_len, length_boolB]; done) | (simp only [List.length_append, length_numB, length_textB, length_namesB, big_len, length_boolB]; omega)) (by omega)) Tryd.func13 (by kernel_rfl) rfl rfl rfl (⟨⟨_, rfl, rfl, rfl⟩, ⟨_, rfl, rfl, rfl⟩, trivial⟩) (⟨⟨_, _, rfl, rfl, rfl, rfl, id, rfl⟩, ⟨_, _, rfl, rfl, rfl, rfl, id, rfl⟩, trivial⟩) (⟨⟨500, _, rfl, rfl, rfl, rfl, .inr ⟨rfl, _, rfl, rfl⟩⟩, ⟨1000, _, rfl, rfl, rfl, rfl, .inl rfl⟩, trivial⟩) (⟨(fun _ => ⟨1000, _, rfl, rfl⟩), (fun _ => ⟨1008, _, rfl, rfl⟩), trivial⟩) rfl) trivial rfl rfl ?_
      refine .q rfl (op_fieldAddr (m := 0) Tryd.underlying33 rfl (by kernel_rfl) rfl) trivial ?_
      refine .as (.ptr 1024 2) rfl ?_
      refine .q rfl (op_load Tryd.underlying9 rfl rfl rfl rfl (by show 2 < 4; decide)) trivial ?_
      refine .a rfl (op_call (U := [(1000, some ⟨.agg [.ptr 1000 0, .sl 1096 0 ((encR (l.take k)).length + 8 + (4 + ((l.getD k default).s.take 40).length)) 1], 29, true⟩), (1096, some ⟨.aggB (((encR (l.take k)) ++ numB (l.getD k default).n 8 8) ++ textB ((l.getD k default).s.take 40)), 5, true⟩), (1072, none)]) [(500, 1000), (501, 1072)] [(1096, 1008)] (text2_ev ((l.getD k default).s.take 40) (by omega) (((encR (l.take k)) ++ numB (l.getD k default).n 8 8)) ((encR (l.take k)).length + 8) (by first | exact hn | rfl | (simp only [List.length_append, length_numB]; done) | (simp only [List.length_append, length_numB, length_textB, length_namesB, big_len, length_boolB]; omega)) (by omega)) Tryd.func19 (by kernel_rfl) rfl rfl rfl (⟨⟨_, rfl, rfl, rfl⟩, ⟨_, rfl, rfl, rfl⟩, trivial⟩) (⟨⟨_, _, rfl, rfl, rfl, rfl, id, rfl⟩, ⟨_, _, rfl, rfl, rfl, rfl, id, rfl⟩, trivial⟩) (⟨⟨500, _, rfl, rfl, rfl, rfl, .inr ⟨rfl, _, rfl, rfl⟩⟩, ⟨1008, _, rfl, rfl, rfl, rfl, .inl rfl⟩, trivial⟩) (⟨(fun _ => ⟨1000, _, rfl, rfl⟩), (fun _ => ⟨1072, _, rfl, rfl⟩), trivial⟩) rfl) trivial rfl rfl ?_
      refine .q rfl (op_fieldAddr (m := 0) Tryd.underlying33 rfl (by kernel_rfl) rfl) trivial ?_
      refine .as (.ptr 1024 3) rfl ?_
      refine .q rfl (op_load Tryd.underlying31 rfl rfl rfl rfl (by show 3 < 4; decide)) trivial ?_
      refine .a rfl (op_call (U := [(1000, some ⟨.agg [.ptr 1000 0, .sl 1120 0 ((encR (l.take k)).length + 8 + (4 + ((l.getD k default).s.take 40).length) + (4 + (joinB (ownL (l.getD k default))).length)) 1], 29, true⟩), (1120, some ⟨.aggB ((((encR (l.take k)) ++ numB (l.getD k default).n 8 8) ++ textB ((l.getD k default).s.take 40)) ++ namesB (ownL (l.getD k default))), 5, true⟩), (1096, none)]) [(500, 1000), (501, 1096)] [(1120, 1000)] (names2_ev (ownL (l.getD k default)) (by omega) (by omega) ((((encR (l.take k)) ++ numB (l.getD k default).n 8 8) ++ textB ((l.getD k default).s.take 40))) ((encR (l.take k)).length + 8 + (4 + ((l.getD k default).s.take 40).length)) (by first | exact hn | rfl | (simp only [List.length_append, length_numB, length_textB]; done) | (simp only [List.length_append, length_numB, length_textB, length_namesB, big_len, length_boolB]; omega)) (by omega)) Tryd.func15 (by kernel_rfl) rfl rfl rfl (⟨⟨_, rfl, rfl, rfl⟩, ⟨_, rfl, rfl, rfl⟩, trivial⟩) (⟨⟨_, _, rfl, rfl, rfl, rfl, id, rfl⟩, ⟨_, _, rfl, rfl, rfl, rfl, id, rfl⟩, trivial⟩) (⟨⟨500, _, rfl, rfl, rfl, rfl, .inr ⟨rfl, _, rfl, rfl⟩⟩, ⟨1000, _, rfl, rfl, rfl, rfl, .inl rfl⟩, trivial⟩) (⟨(fun _ => ⟨1000, _, rfl, rfl⟩), (fun _ => ⟨1096, _, rfl, rfl⟩), trivial⟩) rfl) trivial rfl rfl ?_
      refine .q rfl (op_fieldAddr (m := 0) Tryd.underlying33 rfl (by kernel_rfl) rfl) trivial ?_
      refine .as (.ptr 1024 2) rfl ?_
      refine .q rfl (op_load Tryd.underlying9 rfl rfl rfl rfl (by show 2 < 4; decide)) trivial ?_
      refine .a rfl (op_call (U := [(1000, some ⟨.agg [.ptr 1000 0, .sl 1144 0 ((encR (l.take k)).length + 8 + (4 + ((l.getD k default).s.take 40).length) + (4 + (joinB (ownL (l.getD k default))).length) + (4 + (unsB (shortB ((l.getD k default).s.take 40))).length)) 1], 29, true⟩), (1144, some ⟨.aggB (((((encR (l.take k)) ++ numB (l.getD k default).n 8 8) ++ textB ((l.getD k default).s.take 40)) ++ namesB (ownL (l.getD k default))) ++ bigB ((l.getD k default).s.take 40)), 5, true⟩), (1120, none)]) [(500, 1000), (501, 1120)] [(1144, 1000)] (big2_ev ((l.getD k default).s.take 40) (by omega) (((((encR (l.take k)) ++ numB (l.getD k default).n 8 8) ++ textB ((l.getD k default).s.take 40)) ++ namesB (ownL (l.getD k default)))) ((encR (l.take k)).length + 8 + (4 + ((l.getD k default).s.take 40).length) + (4 + (joinB (ownL (l.getD k default))).length)) (by first | exact hn | rfl | (simp only [List.length_append, length_numB, length_textB, length_namesB]; done) | (simp only [List.length_append, length_numB, length_textB, length_namesB, big_len, length_boolB]; omega)) (by omega)) Tryd.func17 (by kernel_rfl) rfl rfl rfl (⟨⟨_, rfl, rfl, rfl⟩, ⟨_, rfl, rfl, rfl⟩, trivial⟩) (⟨⟨_, _, rfl, rfl, rfl, rfl, id, rfl⟩, ⟨_, _, rfl, rfl, rfl, rfl, id, rfl⟩, trivial⟩) (⟨⟨500, _, rfl, rfl, rfl, rfl, .inr ⟨rfl, _, rfl, rfl⟩⟩, ⟨1000, _, rfl, rfl, rfl, rfl, .inl rfl⟩, trivial⟩) (⟨(fun _ => ⟨1000, _, rfl, rfl⟩), (fun _ => ⟨1120, _, rfl, rfl⟩), trivial⟩) rfl) trivial rfl rfl ?_
      refine .q rfl (op_fieldAddr (m := 0) Tryd.underlying33 rfl (by kernel_rfl) rfl) trivial ?_
      refine .as (.ptr 1024 1) rfl ?_
      refine .q rfl (op_load Tryd.underlying30 rfl rfl rfl rfl (by show 1 < 4; decide)) trivial ?_
      refine .q rfl (op_bin64 rfl rfl rfl) trivial ?_
      refine .as (.bool (decide (9 < (l.getD k default).n))) rfl ?_
      refine .a rfl (op_call (U := [(1000, some ⟨.agg [.ptr 1000 0, .sl 1176 0 ((encR (l.take k)).length + 8 + (4 + ((l.getD k default).s.take 40).length) + (4 + (joinB (ownL (l.getD k default))).length) + (4 + (unsB (shortB ((l.getD k default).s.take 40))).length) + 1) 1], 29, true⟩), (1176, some ⟨.aggB ((((((encR (l.take k)) ++ numB (l.getD k default).n 8 8) ++ textB ((l.getD k default).s.take 40)) ++ namesB (ownL (l.getD k default))) ++ bigB ((l.getD k default).s.take 40)) ++ boolB (decide (9 < (l.getD k default).n))), 5, true⟩), (1144, none)]) [(500, 1000), (501, 1144)] [(1176, 1000)] (bool2_ev (decide (9 < (l.getD k default).n)) ((((((encR (l.take k)) ++ numB (l.getD k default).n 8 8) ++ textB ((l.getD k default).s.take 40)) ++ namesB (ownL (l.getD k default))) ++ bigB ((l.getD k default).s.take 40))) ((encR (l.take k)).length + 8 + (4 + ((l.getD k default).s.take 40).length) + (4 + (joinB (ownL (l.getD k default))).length) + (4 + (unsB (shortB ((l.getD k default).s.take 40))).length)) (by first | exact hn | rfl | (simp only [List.length_append, length_numB, length_textB, length_namesB, big_len]; done) | (simp only [List.length_append, length_numB, length_textB, length_namesB, big_len, length_boolB]; omega)) (by omega)) Tryd.func10 (by kernel_rfl) rfl rfl rfl (⟨⟨_, rfl, rfl, rfl⟩, ⟨_, rfl, rfl, rfl⟩, trivial⟩) (⟨⟨_, _, rfl, rfl, rfl, rfl, id, rfl⟩, ⟨_, _, rfl, rfl, rfl, rfl, id, rfl⟩, trivial⟩) (⟨⟨500, _, rfl, rfl, rfl, rfl, .inr ⟨rfl, _, rfl, rfl⟩⟩, ⟨1000, _, rfl, rfl, rfl, rfl, .inl rfl⟩, trivial⟩) (⟨(fun _ => ⟨1000, _, rfl, rfl⟩), (fun _ => ⟨1144, _, rfl, rfl⟩), trivial⟩) rfl) trivial rfl rfl ?_
      refine .nil ?_
      show Ev _ _ _ _ _
      refine .region ?_
      refine .q (op_move rfl) trivial rfl ?_
      refine .q (op_addI rfl rfl ⟨by omega, by omega⟩) trivial rfl ?_
      refine .q (op_assign rfl) trivial rfl ?_
      refine .nil ?_
      have hN : encR (l.take (k + 1)) = encR (l.take k) ++ encF (l.getD k default) := encR_take (by omega)
      have hR : rowsC ownR (l.take (k + 1)) = rowsC ownR (l.take k) ++ ownR (l.getD k default) := rows_take (by omega)
      exact ⟨some ⟨k + 1, by omega, by omega, by omega⟩, by show 12 - (k + 1) < 12 - k; omega, StLe.mk [(1000, 1000), (1008, 1176), (1016, 1048)] rfl rfl ⟨⟨_, rfl, by rfl, rfl⟩, ⟨_, rfl, by rfl, rfl⟩, ⟨_, rfl, by rfl, rfl⟩, ⟨_, rfl, by rfl, rfl⟩, ⟨_, rfl, by rfl, rfl⟩, trivial⟩ ⟨⟨_, _, rfl, rfl, by (simp only [AV.ren, AV.renL]; exact congrArg (fun z => AV.agg [.ptr 1000 0, .sl 1008 0 z 1]) (by rw [hN]; simp only [encF, List.length_append, length_numB, length_textB, length_namesB, big_len, length_boolB] <;> omega)), rfl, id, rfl⟩, ⟨_, _, rfl, rfl, by (exact congrArg AV.aggB (by rw [hN]; simp only [encF, List.append_assoc])), rfl, id, rfl⟩, ⟨_, _, rfl, rfl, (by rw [hR]; exact offC_ren _ 0 (cs := rowsC ownR (l.take k) ++ ownR (l.getD k default)) (by rw [← hR]; exact (rowsC_flat (f := ownR) (fun _ => rfl) (l.take (k + 1))))), rfl, id, (by exact offC_nm _ 0 (cs := rowsC ownR (l.take k) ++ ownR (l.getD k default)) (by rw [← hR]; exact (rowsC_flat (f := ownR) (fun _ => rfl) (l.take (k + 1)))))⟩, ⟨_, _, rfl, rfl, rfl, rfl, (fun h => by cases h), rfl⟩, ⟨_, _, rfl, rfl, rfl, rfl, (fun h => by cases h), rfl⟩, ⟨_, _, rfl, rfl, rfl, rfl, (fun h => by cases h), rfl⟩, ⟨_, _, rfl, rfl, offC_ren _ o (rowsC_flat (fun _ => rfl) l), rfl, (fun h => by cases h), offC_nm _ o (rowsC_flat (fun _ => rfl) l)⟩, trivial⟩⟩
   ·simp only [decide_eq_false_iff_not] at hc23
    refine .exit ?_
    show Ev _ _ _ _ _
    refine .seq ?_
    refine .region ?_
    refine .a (op_call (U := [(1008, some ⟨.aggB (encR (l.take k)), (frz + 5), false⟩)]) [(500, 1000), (501, 1008)] [] (bytes2_ev (encR (l.take k)) (encR (l.take k)).length rfl (List.length_pos_iff.2 hne) (by omega)) Tryd.func21 (by kernel_rfl) rfl rfl rfl (⟨⟨_, rfl, rfl, rfl⟩, trivial⟩) (⟨⟨_, _, rfl, rfl, rfl, rfl, (fun h => by cases h), rfl⟩, ⟨_, _, rfl, rfl, rfl, rfl, id, rfl⟩, trivial⟩) (⟨⟨501, _, rfl, rfl, rfl, rfl, .inr ⟨rfl, _, rfl, rfl⟩⟩, trivial⟩) (⟨(fun h => by cases h), (fun _ => ⟨1008, _, rfl, rfl⟩), trivial⟩) rfl) trivial rfl ?_
    refine .a (op_call (U := [(1032, some ⟨.agg [.str (DI.mk (encR (l.take k)) 0).r, .err 161 ((DI.mk (encR (l.take k)) 0).e) (offE eo ((DI.mk (encR (l.take k)) 0).e))], 82, true⟩)]) [] [(1032, 1000)] (wof_ev (encR (l.take k)) eo) Tryd.func23 (by kernel_rfl) rfl rfl rfl (⟨⟨_, rfl, rfl, rfl⟩, trivial⟩) (trivial) (⟨⟨1000, _, rfl, rfl, rfl, rfl, .inl rfl⟩, trivial⟩) (trivial) rfl) trivial rfl ?_
    refine .q (op_assign rfl) trivial rfl ?_
    refine .nil ?_
    show Ev _ _ _ _ _
    refine .seq ?_
    refine .seq ?_
    refine .region ?_
    refine .q (op_move rfl) trivial rfl ?_
    refine .q (op_len_sl Tryd.underlying22 rfl) trivial rfl ?_
    refine .q (op_move rfl) trivial rfl ?_
    refine .nil ?_
    show Ev _ _ _ _ _
    refine .block ?_
    refine Ev.loop (ι := { j : Nat // j ≤ k }) (fun j => ⟨[(2, .bool false), (10, .ptr 1032 0), (69, .sl 1016 0 k 4), (70, .i64 ((k : Nat) : Int)), (71, .i64 ((j.1 : Nat) : Int))], [(1016, some ⟨.agg (rowsC ownR (l.take k)), 33, true⟩), (1032, some ⟨.agg [.str (DI.mk (encR ((l.take k).drop j.1)) 0).r, .err 161 ((DI.mk (encR ((l.take k).drop j.1)) 0).e) (offE eo ((DI.mk (encR ((l.take k).drop j.1)) 0).e))], 82, true⟩), (3, some ⟨.agg [.err 161 (2) (offE eo (2))], errT, false⟩), (0, some ⟨.agg [.err 161 (4) (offE eo (4))], errT, false⟩), (1, some ⟨.agg [.err 161 (3) (offE eo (3))], errT, false⟩)], 1040⟩) (fun j => k - j.1) ⟨0, Nat.zero_le _⟩ (StLe.mk [(1016, 1016), (1032, 1032)] rfl rfl ⟨⟨_, rfl, by rfl, rfl⟩, ⟨_, rfl, by rfl, rfl⟩, ⟨_, rfl, by rfl, rfl⟩, ⟨_, rfl, by rfl, rfl⟩, ⟨_, rfl, by rfl, rfl⟩, trivial⟩ ⟨⟨_, _, rfl, rfl, offC_ren _ 0 (rowsC_flat (f := ownR) (fun _ => rfl) (l.take k)), rfl, id, offC_nm _ 0 (rowsC_flat (f := ownR) (fun _ => rfl) (l.take k))⟩, ⟨_, _, rfl, rfl, rfl, rfl, id, rfl⟩, ⟨_, _, rfl, rfl, rfl, rfl, (fun h => by cases h), rfl⟩, ⟨_, _, rfl, rfl, rfl, rfl, (fun h => by cases h), rfl⟩, ⟨_, _, rfl, rfl, rfl, rfl, (fun h => by cases h), rfl⟩, trivial⟩) ?_
    rintro ⟨j, hj⟩
    try dsimp only
    have h4l : ((((l.take k).getD j default).s.take 40)).length ≤ 40 := List.length_take_le 40 _
    have hu := uns40 ((l.take k).getD j default).s
    have hoj := ownL_join ((l.take k).getD j default)
    have hos := ownL_sum ((l.take k).getD j default)
    have hol := ownL_len ((l.take k).getD j default)
    have hrl := encR_len ((l.take k).drop (j + 1))
    have hdl : ((l.take k).drop (j + 1)).length = k - (j + 1) := by rw [List.length_drop, htl]
    refine .seq ?_
    refine .region ?_
    refine .q (op_cmpI rfl rfl rfl) trivial rfl ?_
    refine .nil ?_
    show Ev _ _ _ _ _
    refine .seq ?_
    refine .cond rfl (fun hc72 => ?_) (fun hc72 => ?_)
    ·simp only [decide_eq_true_eq] at hc72
     refine .skip ?_
     show Ev _ _ _ _ _
     refine .seq ?_
     refine .block ?_
     refine .seq ?_
     refine .region ?_
     refine .q (op_indexAddr (z := 4) Tryd.underlying22 (by kernel_rfl) rfl rfl rfl (show j < k by omega)) trivial rfl ?_
     refine .q (op_loadPart (m := 4) (r := .agg (ownR ((l.take k).getD j default))) (cs := ownR ((l.take k).getD j default)) Tryd.underlying33 rfl (by kernel_rfl) rfl rfl rfl rfl (ownR_row (show j < (l.take k).length by omega)) (by show 0 + j * 4 + 4 ≤ (rowsC ownR (l.take k)).length; rw [rowsC_len (f := ownR) (z := 4) (fun _ => rfl)]; omega)) trivial rfl ?_
     refine .a (op_allocRow zero33 rel_zero33 rfl) trivial rfl ?_
     refine .w (op_storeRow (by kernel_rfl) rfl rfl rfl rfl rfl (rfl) (rfl)) trivial rfl ?_
     refine .nil ?_
     show Ev _ _ _ _ _
     refine .seq ?_
     refine .region ?_
     refine .q (op_fieldAddr (m := 0) Tryd.underlying33 rfl (by kernel_rfl) rfl) trivial rfl ?_
     refine .as (.ptr 1040 2) rfl ?_
     refine .q (op_load Tryd.underlying9 rfl rfl rfl rfl (by show 2 < 4; decide)) trivial rfl ?_
     refine .q (op_assign rfl) trivial rfl ?_
     refine .nil ?_
     show Ev _ _ _ _ _
     refine .seq ?_
     refine .block ?_
     refine Ev.loop (ι := { q : List UInt8 // shortB q = shortB (((l.take k).getD j default).s.take 40) ∧ q.length ≤ (((l.take k).getD j default).s.take 40).length }) (fun q => ⟨[(13, .str q.1), (12, .ptr 1040 0), (2, .bool false), (10, .ptr 1032 0), (69, .sl 1016 0 k 4), (70, .i64 ((k : Nat) : Int)), (71, .i64 ((j : Nat) : Int))], [(1040, some ⟨.agg (ownR ((l.take k).getD j default)), 33, true⟩), (1016, some ⟨.agg (rowsC ownR (l.take k)), 33, true⟩), (1032, some ⟨.agg [.str (DI.mk (encR ((l.take k).drop j)) 0).r, .err 161 ((DI.mk (encR ((l.take k).drop j)) 0).e) (offE eo ((DI.mk (encR ((l.take k).drop j)) 0).e))], 82, true⟩), (3, some ⟨.agg [.err 161 (2) (offE eo (2))], errT, false⟩), (0, some ⟨.agg [.err 161 (4) (offE eo (4))], errT, false⟩), (1, some ⟨.agg [.err 161 (3) (offE eo (3))], errT, false⟩)], 1048⟩) (fun q => q.1.length) ⟨(((l.take k).getD j default).s.take 40), rfl, Nat.le_refl _⟩ (StLe.mk [(1040, 1040), (1016, 1016), (1032, 1032)] rfl rfl ⟨⟨_, rfl, by rfl, rfl⟩, ⟨_, rfl, by rfl, rfl⟩, ⟨_, rfl, by rfl, rfl⟩, ⟨_, rfl, by rfl, rfl⟩, ⟨_, rfl, by rfl, rfl⟩, ⟨_, rfl, by rfl, rfl⟩, ⟨_, rfl, by rfl, rfl⟩, trivial⟩ ⟨⟨_, _, rfl, rfl, rfl, rfl, id, rfl⟩, ⟨_, _, rfl, rfl, offC_ren _ 0 (rowsC_flat (f := ownR) (fun _ => rfl) (l.take k)), rfl, id, offC_nm _ 0 (rowsC_flat (f := ownR) (fun _ => rfl) (l.take k))⟩, ⟨_, _, rfl, rfl, rfl, rfl, id, rfl⟩, ⟨_, _, rfl, rfl, rfl, rfl, (fun h => by cases h), rfl⟩, ⟨_, _, rfl, rfl, rfl, rfl, (fun h => by cases h), rfl⟩, ⟨_, _, rfl, rfl, rfl, rfl, (fun h => by cases h), rfl⟩, trivial⟩) ?_
     rintro ⟨q, hq, hql⟩
     try dsimp only
     refine .seq ?_
     refine .seq ?_
     refine .region ?_
     refine .q (op_move rfl) trivial rfl ?_
     refine .q (op_eqS rfl rfl rfl) trivial rfl ?_
     refine .q (op_move rfl) trivial rfl ?_
     refine .split (fun hg79 => ?_) (fun hg79 => ?_)
     ·simp only [bne_iff_ne, ne_eq] at hg79
      refine .q (op_move rfl) ⟨_, rfl, rfl⟩ rfl ?_
      refine .q (op_index_str Tryd.underlying9 rfl rfl (i := 0) rfl (by have := List.length_pos_iff.2 hg79; omega)) ⟨_, rfl, rfl⟩ rfl ?_
      refine .q (op_bin8 rfl rfl rfl) ⟨_, rfl, rfl⟩ rfl ?_
      refine .q (op_pick_true rfl rfl rfl) trivial rfl ?_
      refine .nil ?_
      show Ev _ _ _ _ _
      refine .cond rfl (fun hc83 => ?_) (fun hc83 => ?_)
      ·simp only [beq_iff_eq] at hc83
       refine .skip ?_
       show Ev _ _ _ _ _
       refine .block ?_
       refine .region ?_
       refine .q (op_move rfl) trivial rfl ?_
       refine .q (ap_slice_str_lo Tryd.underlying9 rfl (bnd_some rfl (l := 1) rfl) (by have := List.length_pos_iff.2 hg79; omega)) trivial rfl ?_
       refine .q (op_assign rfl) trivial rfl ?_
       refine .nil ?_
       exact ⟨⟨q.drop 1, (short0 hg79 hc83).trans hq, by simp only [List.length_drop]; omega⟩, by show (q.drop 1).length < q.length; have := List.length_pos_iff.2 hg79; simp only [List.length_drop]; omega, StLe.mk [(1040, 1040), (1016, 1016), (1032, 1032)] rfl rfl ⟨⟨_, rfl, by rfl, rfl⟩, ⟨_, rfl, by rfl, rfl⟩, ⟨_, rfl, by rfl, rfl⟩, ⟨_, rfl, by rfl, rfl⟩, ⟨_, rfl, by rfl, rfl⟩, ⟨_, rfl, by rfl, rfl⟩, ⟨_, rfl, by rfl, rfl⟩, trivial⟩ ⟨⟨_, _, rfl, rfl, rfl, rfl, id, rfl⟩, ⟨_, _, rfl, rfl, offC_ren _ 0 (rowsC_flat (f := ownR) (fun _ => rfl) (l.take k)), rfl, id, offC_nm _ 0 (rowsC_flat (f := ownR) (fun _ => rfl) (l.take k))⟩, ⟨_, _, rfl, rfl, rfl, rfl, id, rfl⟩, ⟨_, _, rfl, rfl, rfl, rfl, (fun h => by cases h), rfl⟩, ⟨_, _, rfl, rfl, rfl, rfl, (fun h => by cases h), rfl⟩, ⟨_, _, rfl, rfl, rfl, rfl, (fun h => by cases h), rfl⟩, trivial⟩⟩
      ·simp only [ne_eq, beq_eq_false_iff_ne] at hc83
       refine .exit ?_
       show Ev _ _ _ _ _
       have hsq : q = shortB (((l.take k).getD j default).s.take 40) := by first | exact (shortB_stop hc83).symm.trans hq | (rw [← hq, show q = [] by first | exact bne_eq_false_iff_eq.1 hg79 | exact hg79]; rfl)
       have hED : encR ((l.take k).drop j) = (numB ((l.take k).getD j default).n 8 8 ++ (textB (((l.take k).getD j default).s.take 40) ++ (namesB (ownL ((l.take k).getD j default)) ++ (bigB (((l.take k).getD j default).s.take 40) ++ (boolB (decide (9 < ((l.take k).getD j default).n)) ++ (encR ((l.take k).drop (j + 1)))))))) := by rw [encR_drop (show j < (l.take k).length by omega)]; simp only [encF, List.append_assoc]
       refine Ev.weak (st2 := ⟨[(13, .str (shortB (((l.take k).getD j default).s.take 40))), (12, .ptr 1040 0), (2, .bool false), (10, .ptr 1032 0), (69, .sl 1016 0 k 4), (70, .i64 ((k : Nat) : Int)), (71, .i64 ((j : Nat) : Int))], [(1040, some ⟨.agg (ownR ((l.take k).getD j default)), 33, true⟩), (1016, some ⟨.agg (rowsC ownR (l.take k)), 33, true⟩), (1032, some ⟨.agg [.str (DI.mk (numB ((l.take k).getD j default).n 8 8 ++ (textB (((l.take k).getD j default).s.take 40) ++ (namesB (ownL ((l.take k).getD j default)) ++ (bigB (((l.take k).getD j default).s.take 40) ++ (boolB (decide (9 < ((l.take k).getD j default).n)) ++ (encR ((l.take k).drop (j + 1)))))))) 0).r, .err 161 ((DI.mk (numB ((l.take k).getD j default).n 8 8 ++ (textB (((l.take k).getD j default).s.take 40) ++ (namesB (ownL ((l.take k).getD j default)) ++ (bigB (((l.take k).getD j default).s.take 40) ++ (boolB (decide (9 < ((l.take k).getD j default).n)) ++ (encR ((l.take k).drop (j + 1)))))))) 0).e) (offE eo ((DI.mk (numB ((l.take k).getD j default).n 8 8 ++ (textB (((l.take k).getD j default).s.take 40) ++ (namesB (ownL ((l.take k).getD j default)) ++ (bigB (((l.take k).getD j default).s.take 40) ++ (boolB (decide (9 < ((l.take k).getD j default).n)) ++ (encR ((l.take k).drop (j + 1)))))))) 0).e))], 82, true⟩), (3, some ⟨.agg [.err 161 (2) (offE eo (2))], errT, false⟩), (0, some ⟨.agg [.err 161 (4) (offE eo (4))], errT, false⟩), (1, some ⟨.agg [.err 161 (3) (offE eo (3))], errT, false⟩)], 1048⟩) (StLe.mk [(1040, 1040), (1016, 1016), (1032, 1032)] rfl rfl ⟨⟨_, rfl, by (simp only [AV.ren]; rw [← hsq]), rfl⟩, ⟨_, rfl, by rfl, rfl⟩, ⟨_, rfl, by rfl, rfl⟩, ⟨_, rfl, by rfl, rfl⟩, ⟨_, rfl, by rfl, rfl⟩, ⟨_, rfl, by rfl, rfl⟩, ⟨_, rfl, by rfl, rfl⟩, trivial⟩ ⟨⟨_, _, rfl, rfl, rfl, rfl, id, rfl⟩, ⟨_, _, rfl, rfl, offC_ren _ 0 (rowsC_flat (f := ownR) (fun _ => rfl) (l.take k)), rfl, id, offC_nm _ 0 (rowsC_flat (f := ownR) (fun _ => rfl) (l.take k))⟩, ⟨_, _, rfl, rfl, by (simp only [AV.ren, AV.renL]; rw [hED]; first | done | rfl), rfl, id, rfl⟩, ⟨_, _, rfl, rfl, rfl, rfl, (fun h => by cases h), rfl⟩, ⟨_, _, rfl, rfl, rfl, rfl, (fun h => by cases h), rfl⟩, ⟨_, _, rfl, rfl, rfl, rfl, (fun h => by cases h), rfl⟩, trivial⟩) ?_
       show Ev _ _ _ _ _
       refine .seq ?_
       refine .drawnF [[], [0], [], [2], [0, 1, 2, 3], [0, 1, 2, 3, 4], [0, 1, 2, 3, 4, 5], [0, 1, 2, 3, 4, 5, 6], [0, 1, 2, 3, 4, 5], [0, 1, 2, 3, 4, 5, 8], [0, 1, 2, 3, 4, 5, 6, 7, 8, 9], [0, 1, 2, 3, 4, 5, 6, 7, 8, 9, 10], [0, 1, 2, 3, 4, 5, 6, 7, 8, 9, 10, 11], [0, 1, 2, 3, 4, 5, 6, 7, 8, 9, 10, 11, 12], [0, 1, 2, 3, 4, 5, 6, 7, 8, 9, 10, 11, 12, 13], [0, 1, 2, 3, 4, 5, 6, 7, 8, 9, 10, 11, 12], [0, 1, 2, 3, 4, 5, 6, 7, 8, 9, 10, 11, 12, 15], [0, 1, 2, 3, 4, 5, 6, 7, 8, 9, 10, 11, 12, 13, 14, 15, 16], [0, 1, 2, 3, 4, 5, 6, 7, 8, 9, 10, 11, 12, 13, 14, 15, 16, 17], [0, 1, 2, 3, 4, 5, 6, 7, 8, 9, 10, 11, 12, 13, 14, 15, 16, 17, 18], [0, 1, 2, 3, 4, 5, 6, 7, 8, 9, 10, 11, 12, 13, 14, 15, 16, 17, 18, 19], [0, 1, 2, 3, 4, 5, 6, 7, 8, 9, 10, 11, 12, 13, 14, 15, 16, 17, 18, 19, 20], [0, 1, 2, 3, 4, 5, 6, 7, 8, 9, 10, 11, 12, 13, 14, 15, 16, 17, 18, 19, 20, 21], [0, 1, 2, 3, 4, 5, 6, 7, 8, 9, 10, 11, 12, 13, 14, 15, 16, 17, 18, 19, 20], [0, 1, 2, 3, 4, 5, 6, 7, 8, 9, 10, 11, 12, 13, 14, 15, 16, 17, 18, 19, 20, 21, 22, 23], [0, 1, 2, 3, 4, 5, 6, 7, 8, 9, 10, 11, 12, 13, 14, 15, 16, 17, 18, 19, 20, 21, 22, 23, 24], [0, 1, 2, 3, 4, 5, 6, 7, 8, 9, 10, 11, 12, 13, 14, 15, 16, 17, 18, 19, 20, 21, 22, 23, 24, 25], [0, 1, 2, 3, 4, 5, 6, 7, 8, 9, 10, 11, 12, 13, 14, 15, 16, 17, 18, 19, 20, 21, 22, 23, 24, 25, 26], [0, 1, 2, 3, 4, 5, 6, 7, 8, 9, 10, 11, 12, 13, 14, 15, 16, 17, 18, 19, 20, 21, 22, 23, 24, 25, 26, 27], [0, 1, 2, 3, 4, 5, 6, 7, 8, 9, 10, 11, 12, 13, 14, 15, 16, 17, 18, 19, 20, 21, 22, 23, 24, 25, 26], [0, 1, 2, 3, 4, 5, 6, 7, 8, 9, 10, 11, 12, 13, 14, 15, 16, 17, 18, 19, 20, 21, 22, 23, 24, 25, 26, 29], [0, 1, 2, 3, 4, 5, 6, 7, 8, 9, 10, 11, 12, 13, 14, 15, 16, 17, 18, 19, 20, 21, 22, 23, 24, 25, 26, 29, 30], [0, 1, 2, 3, 4, 5, 6, 7, 8, 9, 10, 11, 12, 13, 14, 15, 16, 17, 18, 19, 20, 21, 22, 23, 24, 25, 26, 27, 28, 29, 30, 31], [0, 1, 2, 3, 4, 5, 6, 7, 8, 9, 10, 11, 12, 13, 14, 15, 16, 17, 18, 19, 20, 21, 22, 23, 24, 25, 26, 27, 28, 29, 30, 31, 32]] [1, 3, 7, 9, 14, 16, 17, 22, 28, 30] [] [(1, ([3, 0, 1], [1032])), (3, ([1040], [])), (7, ([3, 0, 1], [1032])), (9, ([1040], [])), (14, ([3, 0, 1], [1032])), (16, ([1040], [])), (17, ([], [])), (22, ([3, 0, 1], [1032])), (28, ([3, 0, 1], [1032])), (30, ([1040], []))] (by kernel_rfl) (by kernel_rfl) rfl ?_
       show DK _ [0, 1, 2, 3, 4, 5, 6, 7, 8, 9, 10, 11, 12, 13, 14, 15, 16, 17, 18, 19, 20, 21, 22, 23, 24, 25, 26, 27, 28, 29, 30, 31, 32, 33] _ _ _
       refine .q rfl (op_move rfl) trivial ?_
       refine .a rfl (op_call (U := [(1032, some ⟨.agg [.str (DI.mk (textB (((l.take k).getD j default).s.take 40) ++ (namesB (ownL ((l.take k).getD j default)) ++ (bigB (((l.take k).getD j default).s.take 40) ++ (boolB (decide (9 < ((l.take k).getD j default).n)) ++ (encR ((l.take k).drop (j + 1))))))) 0).r, .err 161 ((DI.mk (textB (((l.take k).getD j default).s.take 40) ++ (namesB (ownL ((l.take k).getD j default)) ++ (bigB (((l.take k).getD j default).s.take 40) ++ (boolB (decide (9 < ((l.take k).getD j default).n)) ++ (encR ((l.take k).drop (j + 1))))))) 0).e) (offE eo ((DI.mk (textB (((l.take k).getD j default).s.take 40) ++ (namesB (ownL ((l.take k).getD j default)) ++ (bigB (((l.take k).getD j default).s.take 40) ++ (boolB (decide (9 < ((l.take k).getD j default).n)) ++ (encR ((l.take k).drop (j + 1))))))) 0).e))], 82, true⟩)]) [(500, 1032)] [] (u64_app ((l.take k).getD j default).n (textB (((l.take k).getD j default).s.take 40) ++ (namesB (ownL ((l.take k).getD j default)) ++ (bigB (((l.take k).getD j default).s.take 40) ++ (boolB (decide (9 < ((l.take k).getD j default).n)) ++ (encR ((l.take k).drop (j + 1))))))) eo) Tryd.func24 (by kernel_rfl) rfl rfl rfl (⟨⟨_, rfl, rfl, rfl⟩, trivial⟩) (⟨⟨_, _, rfl, rfl, rfl, rfl, id, rfl⟩, ⟨_, _, rfl, rfl, rfl, rfl, (fun h => by cases h), rfl⟩, trivial⟩) (⟨⟨500, _, rfl, rfl, rfl, rfl, .inr ⟨rfl, _, rfl, rfl⟩⟩, trivial⟩) (⟨(fun _ => ⟨1032, _, rfl, rfl⟩), (fun h => by cases h), trivial⟩) rfl) trivial rfl rfl ?_
       refine .q rfl (op_fieldAddr (m := 0) Tryd.underlying33 rfl (by kernel_rfl) rfl) trivial ?_
       refine .as (.ptr 1040 1) rfl ?_
       refine .q rfl (op_load Tryd.underlying30 rfl rfl rfl rfl (by show 1 < 4; decide)) trivial ?_
       refine .q rfl (op_bin64 rfl rfl rfl) trivial ?_
       refine .q rfl (op_move rfl) trivial ?_
       refine .know (b' := false) (bne_self_eq_false _) ?_
       refine .q rfl (op_move rfl) ⟨_, rfl, rfl⟩ ?_
       refine .a rfl (op_call (U := [(1032, some ⟨.agg [.str (DI.mk (namesB (ownL ((l.take k).getD j default)) ++ (bigB (((l.take k).getD j default).s.take 40) ++ (boolB (decide (9 < ((l.take k).getD j default).n)) ++ (encR ((l.take k).drop (j + 1)))))) 0).r, .err 161 ((DI.mk (namesB (ownL ((l.take k).getD j default)) ++ (bigB (((l.take k).getD j default).s.take 40) ++ (boolB (decide (9 < ((l.take k).getD j default).n)) ++ (encR ((l.take k).drop (j + 1)))))) 0).e) (offE eo ((DI.mk (namesB (ownL ((l.take k).getD j default)) ++ (bigB (((l.take k).getD j default).s.take 40) ++ (boolB (decide (9 < ((l.take k).getD j default).n)) ++ (encR ((l.take k).drop (j + 1)))))) 0).e))], 82, true⟩)]) [(500, 1032)] [] (text_app (((l.take k).getD j default).s.take 40) (by omega) (namesB (ownL ((l.take k).getD j default)) ++ (bigB (((l.take k).getD j default).s.take 40) ++ (boolB (decide (9 < ((l.take k).getD j default).n)) ++ (encR ((l.take k).drop (j + 1)))))) eo) Tryd.func25 (by kernel_rfl) rfl rfl rfl (⟨⟨_, rfl, rfl, rfl⟩, ⟨_, rfl, rfl, rfl⟩, trivial⟩) (⟨⟨_, _, rfl, rfl, rfl, rfl, id, rfl⟩, ⟨_, _, rfl, rfl, rfl, rfl, (fun h => by cases h), rfl⟩, ⟨_, _, rfl, rfl, rfl, rfl, (fun h => by cases h), rfl⟩, trivial⟩) (⟨⟨500, _, rfl, rfl, rfl, rfl, .inr ⟨rfl, _, rfl, rfl⟩⟩, trivial⟩) (⟨(fun _ => ⟨1032, _, rfl, rfl⟩), (fun h => by cases h), (fun h => by cases h), trivial⟩) rfl) ⟨_, rfl, rfl⟩ rfl rfl ?_
       refine .q rfl (op_fieldAddr (m := 0) Tryd.underlying33 rfl (by kernel_rfl) rfl) ⟨_, rfl, rfl⟩ ?_
       refine .as (.ptr 1040 2) rfl ?_
       refine .q rfl (op_load Tryd.underlying9 rfl rfl rfl rfl (by show 2 < 4; decide)) ⟨_, rfl, rfl⟩ ?_
       refine .q rfl (op_eqS rfl rfl rfl) ⟨_, rfl, rfl⟩ ?_
       refine .q rfl (op_pick_false rfl rfl rfl) trivial ?_
       refine .q rfl (op_move rfl) trivial ?_
       refine .know (b' := false) (bne_self_eq_false _) ?_
       refine .q rfl (op_move rfl) ⟨_, rfl, rfl⟩ ?_
       refine .a rfl (op_call (U := [(1032, some ⟨.agg [.str (DI.mk (bigB (((l.take k).getD j default).s.take 40) ++ (boolB (decide (9 < ((l.take k).getD j default).n)) ++ (encR ((l.take k).drop (j + 1))))) 0).r, .err 161 ((DI.mk (bigB (((l.take k).getD j default).s.take 40) ++ (boolB (decide (9 < ((l.take k).getD j default).n)) ++ (encR ((l.take k).drop (j + 1))))) 0).e) (offE eo ((DI.mk (bigB (((l.take k).getD j default).s.take 40) ++ (boolB (decide (9 < ((l.take k).getD j default).n)) ++ (encR ((l.take k).drop (j + 1))))) 0).e))], 82, true⟩)]) [(500, 1032)] [] (names_app (ownL ((l.take k).getD j default)) (ownL_ok _) (by omega) (bigB (((l.take k).getD j default).s.take 40) ++ (boolB (decide (9 < ((l.take k).getD j default).n)) ++ (encR ((l.take k).drop (j + 1))))) (by simp only [List.length_append, big_len, length_boolB]; omega) eo) Tryd.func27 (by kernel_rfl) rfl rfl rfl (⟨⟨_, rfl, rfl, rfl⟩, trivial⟩) (⟨⟨_, _, rfl, rfl, rfl, rfl, id, rfl⟩, ⟨_, _, rfl, rfl, rfl, rfl, (fun h => by cases h), rfl⟩, ⟨_, _, rfl, rfl, rfl, rfl, (fun h => by cases h), rfl⟩, ⟨_, _, rfl, rfl, rfl, rfl, (fun h => by cases h), rfl⟩, trivial⟩) (⟨⟨500, _, rfl, rfl, rfl, rfl, .inr ⟨rfl, _, rfl, rfl⟩⟩, trivial⟩) (⟨(fun _ => ⟨1032, _, rfl, rfl⟩), (fun h => by cases h), (fun h => by cases h), (fun h => by cases h), trivial⟩) rfl) ⟨_, rfl, rfl⟩ rfl rfl ?_
       refine .q rfl (op_fieldAddr (m := 0) Tryd.underlying33 rfl (by kernel_rfl) rfl) ⟨_, rfl, rfl⟩ ?_
       refine .as (.ptr 1040 3) rfl ?_
       refine .q rfl (op_load Tryd.underlying31 rfl rfl rfl rfl (by show 3 < 4; decide)) ⟨_, rfl, rfl⟩ ?_
       refine .q rfl (op_call (U := []) [] [] (same_true (ownL ((l.take k).getD j default)) (by omega)) Tryd.func26 (by kernel_rfl) rfl rfl rfl (⟨⟨_, rfl, rfl, rfl⟩, ⟨_, rfl, rfl, rfl⟩, trivial⟩) (trivial) (trivial) (trivial) rfl) ⟨_, rfl, rfl⟩ ?_
       refine .q rfl (op_notB rfl) ⟨_, rfl, rfl⟩ ?_
       refine .q rfl (op_pick_false rfl rfl rfl) trivial ?_
       refine .q rfl (op_move rfl) trivial ?_
       refine .know (b' := false) (rfl) ?_
       refine .q rfl (op_move rfl) ⟨_, rfl, rfl⟩ ?_
       refine .a rfl (op_call (U := [(1032, some ⟨.agg [.str (DI.mk (boolB (decide (9 < ((l.take k).getD j default).n)) ++ (encR ((l.take k).drop (j + 1)))) 0).r, .err 161 ((DI.mk (boolB (decide (9 < ((l.take k).getD j default).n)) ++ (encR ((l.take k).drop (j + 1)))) 0).e) (offE eo ((DI.mk (boolB (decide (9 < ((l.take k).getD j default).n)) ++ (encR ((l.take k).drop (j + 1)))) 0).e))], 82, true⟩)]) [(500, 1032)] [] (big_app (((l.take k).getD j default).s.take 40) (by omega) (boolB (decide (9 < ((l.take k).getD j default).n)) ++ (encR ((l.take k).drop (j + 1)))) (by simp only [List.length_append, length_boolB]; omega) eo) Tryd.func28 (by kernel_rfl) rfl rfl rfl (⟨⟨_, rfl, rfl, rfl⟩, ⟨_, rfl, rfl, rfl⟩, trivial⟩) (⟨⟨_, _, rfl, rfl, rfl, rfl, id, rfl⟩, ⟨_, _, rfl, rfl, rfl, rfl, (fun h => by cases h), rfl⟩, ⟨_, _, rfl, rfl, rfl, rfl, (fun h => by cases h), rfl⟩, ⟨_, _, rfl, rfl, rfl, rfl, (fun h => by cases h), rfl⟩, trivial⟩) (⟨⟨500, _, rfl, rfl, rfl, rfl, .inr ⟨rfl, _, rfl, rfl⟩⟩, trivial⟩) (⟨(fun _ => ⟨1032, _, rfl, rfl⟩), (fun h => by cases h), (fun h => by cases h), (fun h => by cases h), trivial⟩) rfl) ⟨_, rfl, rfl⟩ rfl rfl ?_
       refine .q rfl (op_move rfl) ⟨_, rfl, rfl⟩ ?_
       refine .q rfl (op_eqS rfl rfl rfl) ⟨_, rfl, rfl⟩ ?_
       refine .q rfl (op_pick_false rfl rfl rfl) trivial ?_
       refine .q rfl (op_move rfl) trivial ?_
       refine .know (b' := false) (bne_self_eq_false _) ?_
       refine .q rfl (op_move rfl) ⟨_, rfl, rfl⟩ ?_
       refine .a rfl (op_call (U := [(1032, some ⟨.agg [.str (DI.mk (encR ((l.take k).drop (j + 1))) 0).r, .err 161 ((DI.mk (encR ((l.take k).drop (j + 1))) 0).e) (offE eo ((DI.mk (encR ((l.take k).drop (j + 1))) 0).e))], 82, true⟩)]) [(500, 1032)] [] (bool_app (decide (9 < ((l.take k).getD j default).n)) (encR ((l.take k).drop (j + 1))) eo) Tryd.func29 (by kernel_rfl) rfl rfl rfl (⟨⟨_, rfl, rfl, rfl⟩, trivial⟩) (⟨⟨_, _, rfl, rfl, rfl, rfl, id, rfl⟩, ⟨_, _, rfl, rfl, rfl, rfl, (fun h => by cases h), rfl⟩, trivial⟩) (⟨⟨500, _, rfl, rfl, rfl, rfl, .inr ⟨rfl, _, rfl, rfl⟩⟩, trivial⟩) (⟨(fun _ => ⟨1032, _, rfl, rfl⟩), (fun h => by cases h), trivial⟩) rfl) ⟨_, rfl, rfl⟩ rfl rfl ?_
       refine .q rfl (op_fieldAddr (m := 0) Tryd.underlying33 rfl (by kernel_rfl) rfl) ⟨_, rfl, rfl⟩ ?_
       refine .as (.ptr 1040 1) rfl ?_
       refine .q rfl (op_load Tryd.underlying30 rfl rfl rfl rfl (by show 1 < 4; decide)) ⟨_, rfl, rfl⟩ ?_
       refine .q rfl (op_bin64 rfl rfl rfl) ⟨_, rfl, rfl⟩ ?_
       refine .as (.bool (decide (9 < ((l.take k).getD j default).n))) rfl ?_
       refine .q rfl (op_eqB Tryd.underlying4 rfl rfl rfl) ⟨_, rfl, rfl⟩ ?_
       refine .q rfl (op_pick_false rfl rfl rfl) trivial ?_
       refine .nil ?_
       show Ev _ _ _ _ _
       refine .cond_false rfl (bne_self_eq_false _) ?_
       refine .skip ?_
       show Ev _ _ _ _ _
       refine .region ?_
       refine .q (op_addI rfl rfl ⟨by omega, by omega⟩) trivial rfl ?_
       refine .q (op_move rfl) trivial rfl ?_
       refine .nil ?_
       exact ⟨⟨j + 1, by omega⟩, by show k - (j + 1) < k - j; omega, StLe.mk [(1016, 1016), (1032, 1032)] rfl rfl ⟨⟨_, rfl, by rfl, rfl⟩, ⟨_, rfl, by rfl, rfl⟩, ⟨_, rfl, by rfl, rfl⟩, ⟨_, rfl, by rfl, rfl⟩, ⟨_, rfl, by rfl, rfl⟩, trivial⟩ ⟨⟨_, _, rfl, rfl, offC_ren _ 0 (rowsC_flat (f := ownR) (fun _ => rfl) (l.take k)), rfl, id, offC_nm _ 0 (rowsC_flat (f := ownR) (fun _ => rfl) (l.take k))⟩, ⟨_, _, rfl, rfl, rfl, rfl, id, rfl⟩, ⟨_, _, rfl, rfl, rfl, rfl, (fun h => by cases h), rfl⟩, ⟨_, _, rfl, rfl, rfl, rfl, (fun h => by cases h), rfl⟩, ⟨_, _, rfl, rfl, rfl, rfl, (fun h => by cases h), rfl⟩, trivial⟩⟩
     ·simp only [bne_eq_false_iff_eq] at hg79
      refine .no ⟨_, rfl, rfl⟩ rfl ?_
      refine .no ⟨_, rfl, rfl⟩ rfl ?_
      refine .no ⟨_, rfl, rfl⟩ rfl ?_
      refine .q (op_pick_false rfl rfl rfl) trivial rfl ?_
      refine .nil ?_
      show Ev _ _ _ _ _
      refine .cond_false rfl rfl ?_
      refine .exit ?_
      show Ev _ _ _ _ _
      have hsq : q = shortB (((l.take k).getD j default).s.take 40) := by first | exact (shortB_stop hc83).symm.trans hq | (rw [← hq, show q = [] by first | exact bne_eq_false_iff_eq.1 hg79 | exact hg79]; rfl)
      have hED : encR ((l.take k).drop j) = (numB ((l.take k).getD j default).n 8 8 ++ (textB (((l.take k).getD j default).s.take 40) ++ (namesB (ownL ((l.take k).getD j default)) ++ (bigB (((l.take k).getD j default).s.take 40) ++ (boolB (decide (9 < ((l.take k).getD j default).n)) ++ (encR ((l.take k).drop (j + 1)))))))) := by rw [encR_drop (show j < (l.take k).length by omega)]; simp only [encF, List.append_assoc]
      refine Ev.weak (st2 := ⟨[(13, .str (shortB (((l.take k).getD j default).s.take 40))), (12, .ptr 1040 0), (2, .bool false), (10, .ptr 1032 0), (69, .sl 1016 0 k 4), (70, .i64 ((k : Nat) : Int)), (71, .i64 ((j : Nat) : Int))], [(1040, some ⟨.agg (ownR ((l.take k).getD j default)), 33, true⟩), (1016, some ⟨.agg (rowsC ownR (l.take k)), 33, true⟩), (1032, some ⟨.agg [.str (DI.mk (numB ((l.take k).getD j default).n 8 8 ++ (textB (((l.take k).getD j default).s.take 40) ++ (namesB (ownL ((l.take k).getD j default)) ++ (bigB (((l.take k).getD j default).s.take 40) ++ (boolB (decide (9 < ((l.take k).getD j default).n)) ++ (encR ((l.take k).drop (j + 1)))))))) 0).r, .err 161 ((DI.mk (numB ((l.take k).getD j default).n 8 8 ++ (textB (((l.take k).getD j default).s.take 40) ++ (namesB (ownL ((l.take k).getD j default)) ++ (bigB (((l.take k).getD j default).s.take 40) ++ (boolB (decide (9 < ((l.take k).getD j default).n)) ++ (encR ((l.take k).drop (j + 1)))))))) 0).e) (offE eo ((DI.mk (numB ((l.take k).getD j default).n 8 8 ++ (textB (((l.take k).getD j default).s.take 40) ++ (namesB (ownL ((l.take k).getD j default)) ++ (bigB (((l.take k).getD j default).s.take 40) ++ (boolB (decide (9 < ((l.take k).getD j default).n)) ++ (encR ((l.take k).drop (j + 1)))))))) 0).e))], 82, true⟩), (3, some ⟨.agg [.err 161 (2) (offE eo (2))], errT, false⟩), (0, some ⟨.agg [.err 161 (4) (offE eo (4))], errT, false⟩), (1, some ⟨.agg [.err 161 (3) (offE eo (3))], errT, false⟩)], 1048⟩) (StLe.mk [(1040, 1040), (1016, 1016), (1032, 1032)] rfl rfl ⟨⟨_, rfl, by (simp only [AV.ren]; rw [← hsq]), rfl⟩, ⟨_, rfl, by rfl, rfl⟩, ⟨_, rfl, by rfl, rfl⟩, ⟨_, rfl, by rfl, rfl⟩, ⟨_, rfl, by rfl, rfl⟩, ⟨_, rfl, by rfl, rfl⟩, ⟨_, rfl, by rfl, rfl⟩, trivial⟩ ⟨⟨_, _, rfl, rfl, rfl, rfl, id, rfl⟩, ⟨_, _, rfl, rfl, offC_ren _ 0 (rowsC_flat (f := ownR) (fun _ => rfl) (l.take k)), rfl, id, offC_nm _ 0 (rowsC_flat (f := ownR) (fun _ => rfl) (l.take k))⟩, ⟨_, _, rfl, rfl, by (simp only [AV.ren, AV.renL]; rw [hED]; first | done | rfl), rfl, id, rfl⟩, ⟨_, _, rfl, rfl, rfl, rfl, (fun h => by cases h), rfl⟩, ⟨_, _, rfl, rfl, rfl, rfl, (fun h => by cases h), rfl⟩, ⟨_, _, rfl, rfl, rfl, rfl, (fun h => by cases h), rfl⟩, trivial⟩) ?_
      show Ev _ _ _ _ _
      refine .seq ?_
      refine .drawnF [[], [0], [], [2], [0, 1, 2, 3], [0, 1, 2, 3, 4], [0, 1, 2, 3, 4, 5], [0, 1, 2, 3, 4, 5, 6], [0, 1, 2, 3, 4, 5], [0, 1, 2, 3, 4, 5, 8], [0, 1, 2, 3, 4, 5, 6, 7, 8, 9], [0, 1, 2, 3, 4, 5, 6, 7, 8, 9, 10], [0, 1, 2, 3, 4, 5, 6, 7, 8, 9, 10, 11], [0, 1, 2, 3, 4, 5, 6, 7, 8, 9, 10, 11, 12], [0, 1, 2, 3, 4, 5, 6, 7, 8, 9, 10, 11, 12, 13], [0, 1, 2, 3, 4, 5, 6, 7, 8, 9, 10, 11, 12], [0, 1, 2, 3, 4, 5, 6, 7, 8, 9, 10, 11, 12, 15], [0, 1, 2, 3, 4, 5, 6, 7, 8, 9, 10, 11, 12, 13, 14, 15, 16], [0, 1, 2, 3, 4, 5, 6, 7, 8, 9, 10, 11, 12, 13, 14, 15, 16, 17], [0, 1, 2, 3, 4, 5, 6, 7, 8, 9, 10, 11, 12, 13, 14, 15, 16, 17, 18], [0, 1, 2, 3, 4, 5, 6, 7, 8, 9, 10, 11, 12, 13, 14, 15, 16, 17, 18, 19], [0, 1, 2, 3, 4, 5, 6, 7, 8, 9, 10, 11, 12, 13, 14, 15, 16, 17, 18, 19, 20], [0, 1, 2, 3, 4, 5, 6, 7, 8, 9, 10, 11, 12, 13, 14, 15, 16, 17, 18, 19, 20, 21], [0, 1, 2, 3, 4, 5, 6, 7, 8, 9, 10, 11, 12, 13, 14, 15, 16, 17, 18, 19, 20], [0, 1, 2, 3, 4, 5, 6, 7, 8, 9, 10, 11, 12, 13, 14, 15, 16, 17, 18, 19, 20, 21, 22, 23], [0, 1, 2, 3, 4, 5, 6, 7, 8, 9, 10, 11, 12, 13, 14, 15, 16, 17, 18, 19, 20, 21, 22, 23, 24], [0, 1, 2, 3, 4, 5, 6, 7, 8, 9, 10, 11, 12, 13, 14, 15, 16, 17, 18, 19, 20, 21, 22, 23, 24, 25], [0, 1, 2, 3, 4, 5, 6, 7, 8, 9, 10, 11, 12, 13, 14, 15, 16, 17, 18, 19, 20, 21, 22, 23, 24, 25, 26], [0, 1, 2, 3, 4, 5, 6, 7, 8, 9, 10, 11, 12, 13, 14, 15, 16, 17, 18, 19, 20, 21, 22, 23, 24, 25, 26, 27], [0, 1, 2, 3, 4, 5, 6, 7, 8, 9, 10, 11, 12, 13, 14, 15, 16, 17, 18, 19, 20, 21, 22, 23, 24, 25, 26], [0, 1, 2, 3, 4, 5, 6, 7, 8, 9, 10, 11, 12, 13, 14, 15, 16, 17, 18, 19, 20, 21, 22, 23, 24, 25, 26, 29], [0, 1, 2, 3, 4, 5, 6, 7, 8, 9, 10, 11, 12, 13, 14, 15, 16, 17, 18, 19, 20, 21, 22, 23, 24, 25, 26, 29, 30], [0, 1, 2, 3, 4, 5, 6, 7, 8, 9, 10, 11, 12, 13, 14, 15, 16, 17, 18, 19, 20, 21, 22, 23, 24, 25, 26, 27, 28, 29, 30, 31], [0, 1, 2, 3, 4, 5, 6, 7, 8, 9, 10, 11, 12, 13, 14, 15, 16, 17, 18, 19, 20, 21, 22, 23, 24, 25, 26, 27, 28, 29, 30, 31, 32]] [1, 3, 7, 9, 14, 16, 17, 22, 28, 30] [] [(1, ([3, 0, 1], [1032])), (3, ([1040], [])), (7, ([3, 0, 1], [1032])), (9, ([1040], [])), (14, ([3, 0, 1], [1032])), (16, ([1040], [])), (17, ([], [])), (22, ([3, 0, 1], [1032])), (28, ([3, 0, 1], [1032])), (30, ([1040], []))] (by kernel_rfl) (by kernel_rfl) rfl ?_
      show DK _ [0, 1, 2, 3, 4, 5, 6, 7, 8, 9, 10, 11, 12, 13, 14, 15, 16, 17, 18, 19, 20, 21, 22, 23, 24, 25, 26, 27, 28, 29, 30, 31, 32, 33] _ _ _
      refine .q rfl (op_move rfl) trivial ?_
      refine .a rfl (op_call (U := [(1032, some ⟨.agg [.str (DI.mk (textB (((l.take k).getD j default).s.take 40) ++ (namesB (ownL ((l.take k).getD j default)) ++ (bigB (((l.take k).getD j default).s.take 40) ++ (boolB (decide (9 < ((l.take k).getD j default).n)) ++ (encR ((l.take k).drop (j + 1))))))) 0).r, .err 161 ((DI.mk (textB (((l.take k).getD j default).s.take 40) ++ (namesB (ownL ((l.take k).getD j default)) ++ (bigB (((l.take k).getD j default).s.take 40) ++ (boolB (decide (9 < ((l.take k).getD j default).n)) ++ (encR ((l.take k).drop (j + 1))))))) 0).e) (offE eo ((DI.mk (textB (((l.take k).getD j default).s.take 40) ++ (namesB (ownL ((l.take k).getD j default)) ++ (bigB (((l.take k).getD j default).s.take 40) ++ (boolB (decide (9 < ((l.take k).getD j default).n)) ++ (encR ((l.take k).drop (j + 1))))))) 0).e))], 82, true⟩)]) [(500, 1032)] [] (u64_app ((l.take k).getD j default).n (textB (((l.take k).getD j default).s.take 40) ++ (namesB (ownL ((l.take k).getD j default)) ++ (bigB (((l.take k).getD j default).s.take 40) ++ (boolB (decide (9 < ((l.take k).getD j default).n)) ++ (encR ((l.take k).drop (j + 1))))))) eo) Tryd.func24 (by kernel_rfl) rfl rfl rfl (⟨⟨_, rfl, rfl, rfl⟩, trivial⟩) (⟨⟨_, _, rfl, rfl, rfl, rfl, id, rfl⟩, ⟨_, _, rfl, rfl, rfl, rfl, (fun h => by cases h), rfl⟩, trivial⟩) (⟨⟨500, _, rfl, rfl, rfl, rfl, .inr ⟨rfl, _, rfl, rfl⟩⟩, trivial⟩) (⟨(fun _ => ⟨1032, _, rfl, rfl⟩), (fun h => by cases h), trivial⟩) rfl) trivial rfl rfl ?_
      refine .q rfl (op_fieldAddr (m := 0) Tryd.underlying33 rfl (by kernel_rfl) rfl) trivial ?_
      refine .as (.ptr 1040 1) rfl ?_
      refine .q rfl (op_load Tryd.underlying30 rfl rfl rfl rfl (by show 1 < 4; decide)) trivial ?_
      refine .q rfl (op_bin64 rfl rfl rfl) trivial ?_
      refine .q rfl (op_move rfl) trivial ?_
      refine .know (b' := false) (bne_self_eq_false _) ?_
      refine .q rfl (op_move rfl) ⟨_, rfl, rfl⟩ ?_
      refine .a rfl (op_call (U := [(1032, some ⟨.agg [.str (DI.mk (namesB (ownL ((l.take k).getD j default)) ++ (bigB (((l.take k).getD j default).s.take 40) ++ (boolB (decide (9 < ((l.take k).getD j default).n)) ++ (encR ((l.take k).drop (j + 1)))))) 0).r, .err 161 ((DI.mk (namesB (ownL ((l.take k).getD j default)) ++ (bigB (((l.take k).getD j default).s.take 40) ++ (boolB (decide (9 < ((l.take k).getD j default).n)) ++ (encR ((l.take k).drop (j + 1)))))) 0).e) (offE eo ((DI.mk (namesB (ownL ((l.take k).getD j default)) ++ (bigB (((l.take k).getD j default).s.take 40) ++ (boolB (decide (9 < ((l.take k).getD j default).n)) ++ (encR ((l.take k).drop (j + 1)))))) 0).e))], 82, true⟩)]) [(500, 1032)] [] (text_app (((l.take k).getD j default).s.take 40) (by omega) (namesB (ownL ((l.take k).getD j default)) ++ (bigB (((l.take k).getD j default).s.take 40) ++ (boolB (decide (9 < ((l.take k).getD j default).n)) ++ (encR ((l.take k).drop (j + 1)))))) eo) Tryd.func25 (by kernel_rfl) rfl rfl rfl (⟨⟨_, rfl, rfl, rfl⟩, ⟨_, rfl, rfl, rfl⟩, trivial⟩) (⟨⟨_, _, rfl, rfl, rfl, rfl, id, rfl⟩, ⟨_, _, rfl, rfl, rfl, rfl, (fun h => by cases h), rfl⟩, ⟨_, _, rfl, rfl, rfl, rfl, (fun h => by cases h), rfl⟩, trivial⟩) (⟨⟨500, _, rfl, rfl, rfl, rfl, .inr ⟨rfl, _, rfl, rfl⟩⟩, trivial⟩) (⟨(fun _ => ⟨1032, _, rfl, rfl⟩), (fun h => by cases h), (fun h => by cases h), trivial⟩) rfl) ⟨_, rfl, rfl⟩ rfl rfl ?_
      refine .q rfl (op_fieldAddr (m := 0) Tryd.underlying33 rfl (by kernel_rfl) rfl) ⟨_, rfl, rfl⟩ ?_
      refine .as (.ptr 1040 2) rfl ?_
      refine .q rfl (op_load Tryd.underlying9 rfl rfl rfl rfl (by show 2 < 4; decide)) ⟨_, rfl, rfl⟩ ?_
      refine .q rfl (op_eqS rfl rfl rfl) ⟨_, rfl, rfl⟩ ?_
      refine .q rfl (op_pick_false rfl rfl rfl) trivial ?_
      refine .q rfl (op_move rfl) trivial ?_
      refine .know (b' := false) (bne_self_eq_false _) ?_
      refine .q rfl (op_move rfl) ⟨_, rfl, rfl⟩ ?_
      refine .a rfl (op_call (U := [(1032, some ⟨.agg [.str (DI.mk (bigB (((l.take k).getD j default).s.take 40) ++ (boolB (decide (9 < ((l.take k).getD j default).n)) ++ (encR ((l.take k).drop (j + 1))))) 0).r, .err 161 ((DI.mk (bigB (((l.take k).getD j default).s.take 40) ++ (boolB (decide (9 < ((l.take k).getD j default).n)) ++ (encR ((l.take k).drop (j + 1))))) 0).e) (offE eo ((DI.mk (bigB (((l.take k).getD j default).s.take 40) ++ (boolB (decide (9 < ((l.take k).getD j default).n)) ++ (encR ((l.take k).drop (j + 1))))) 0).e))], 82, true⟩)]) [(500, 1032)] [] (names_app (ownL ((l.take k).getD j default)) (ownL_ok _) (by omega) (bigB (((l.take k).getD j default).s.take 40) ++ (boolB (decide (9 < ((l.take k).getD j default).n)) ++ (encR ((l.take k).drop (j + 1))))) (by simp only [List.length_append, big_len, length_boolB]; omega) eo) Tryd.func27 (by kernel_rfl) rfl rfl rfl (⟨⟨_, rfl, rfl, rfl⟩, trivial⟩) (⟨⟨_, _, rfl, rfl, rfl, rfl, id, rfl⟩, ⟨_, _, rfl, rfl, rfl, rfl, (fun h => by cases h), rfl⟩, ⟨_, _, rfl, rfl, rfl, rfl, (fun h => by cases h), rfl⟩, ⟨_, _, rfl, rfl, rfl, rfl, (fun h => by cases h), rfl⟩, trivial⟩) (⟨⟨500, _, rfl, rfl, rfl, rfl, .inr ⟨rfl, _, rfl, rfl⟩⟩, trivial⟩) (⟨(fun _ => ⟨1032, _, rfl, rfl⟩), (fun h => by cases h), (fun h => by cases h), (fun h => by cases h), trivial⟩) rfl) ⟨_, rfl, rfl⟩ rfl rfl ?_
      refine .q rfl (op_fieldAddr (m := 0) Tryd.underlying33 rfl (by kernel_rfl) rfl) ⟨_, rfl, rfl⟩ ?_
      refine .as (.ptr 1040 3) rfl ?_
      refine .q rfl (op_load Tryd.underlying31 rfl rfl rfl rfl (by show 3 < 4; decide)) ⟨_, rfl, rfl⟩ ?_
      refine .q rfl (op_call (U := []) [] [] (same_true (ownL ((l.take k).getD j default)) (by omega)) Tryd.func26 (by kernel_rfl) rfl rfl rfl (⟨⟨_, rfl, rfl, rfl⟩, ⟨_, rfl, rfl, rfl⟩, trivial⟩) (trivial) (trivial) (trivial) rfl) ⟨_, rfl, rfl⟩ ?_
      refine .q rfl (op_notB rfl) ⟨_, rfl, rfl⟩ ?_
      refine .q rfl (op_pick_false rfl rfl rfl) trivial ?_
      refine .q rfl (op_move rfl) trivial ?_
      refine .know (b' := false) (rfl) ?_
      refine .q rfl (op_move rfl) ⟨_, rfl, rfl⟩ ?_
      refine .a rfl (op_call (U := [(1032, some ⟨.agg [.str (DI.mk (boolB (decide (9 < ((l.take k).getD j default).n)) ++ (encR ((l.take k).drop (j + 1)))) 0).r, .err 161 ((DI.mk (boolB (decide (9 < ((l.take k).getD j default).n)) ++ (encR ((l.take k).drop (j + 1)))) 0).e) (offE eo ((DI.mk (boolB (decide (9 < ((l.take k).getD j default).n)) ++ (encR ((l.take k).drop (j + 1)))) 0).e))], 82, true⟩)]) [(500, 1032)] [] (big_app (((l.take k).getD j default).s.take 40) (by omega) (boolB (decide (9 < ((l.take k).getD j default).n)) ++ (encR ((l.take k).drop (j + 1)))) (by simp only [List.length_append, length_boolB]; omega) eo) Tryd.func28 (by kernel_rfl) rfl rfl rfl (⟨⟨_, rfl, rfl, rfl⟩, ⟨_, rfl, rfl, rfl⟩, trivial⟩) (⟨⟨_, _, rfl, rfl, rfl, rfl, id, rfl⟩, ⟨_, _, rfl, rfl, rfl, rfl, (fun h => by cases h), rfl⟩, ⟨_, _, rfl, rfl, rfl, rfl, (fun h => by cases h), rfl⟩, ⟨_, _, rfl, rfl, rfl, rfl, (fun h => by cases h), rfl⟩, trivial⟩) (⟨⟨500, _, rfl, rfl, rfl, rfl, .inr ⟨rfl, _, rfl, rfl⟩⟩, trivial⟩) (⟨(fun _ => ⟨1032, _, rfl, rfl⟩), (fun h => by cases h), (fun h => by cases h), (fun h => by cases h), trivial⟩) rfl) ⟨_, rfl, rfl⟩ rfl rfl ?_
      refine .q rfl (op_move rfl) ⟨_, rfl, rfl⟩ ?_
      refine .q rfl (op_eqS rfl rfl rfl) ⟨_, rfl, rfl⟩ ?_
      refine .q rfl (op_pick_false rfl rfl rfl) trivial ?_
      refine .q rfl (op_move rfl) trivial ?_
      refine .know (b' := false) (bne_self_eq_false _) ?_
      refine .q rfl (op_move rfl) ⟨_, rfl, rfl⟩ ?_
      refine .a rfl (op_call (U := [(1032, some ⟨.agg [.str (DI.mk (encR ((l.take k).drop (j + 1))) 0).r, .err 161 ((DI.mk (encR ((l.take k).drop (j + 1))) 0).e) (offE eo ((DI.mk (encR ((l.take k).drop (j + 1))) 0).e))], 82, true⟩)]) [(500, 1032)] [] (bool_app (decide (9 < ((l.take k).getD j default).n)) (encR ((l.take k).drop (j + 1))) eo) Tryd.func29 (by kernel_rfl) rfl rfl rfl (⟨⟨_, rfl, rfl, rfl⟩, trivial⟩) (⟨⟨_, _, rfl, rfl, rfl, rfl, id, rfl⟩, ⟨_, _, rfl, rfl, rfl, rfl, (fun h => by cases h), rfl⟩, trivial⟩) (⟨⟨500, _, rfl, rfl, rfl, rfl, .inr ⟨rfl, _, rfl, rfl⟩⟩, trivial⟩) (⟨(fun _ => ⟨1032, _, rfl, rfl⟩), (fun h => by cases h), trivial⟩) rfl) ⟨_, rfl, rfl⟩ rfl rfl ?_
      refine .q rfl (op_fieldAddr (m := 0) Tryd.underlying33 rfl (by kernel_rfl) rfl) ⟨_, rfl, rfl⟩ ?_
      refine .as (.ptr 1040 1) rfl ?_
      refine .q rfl (op_load Tryd.underlying30 rfl rfl rfl rfl (by show 1 < 4; decide)) ⟨_, rfl, rfl⟩ ?_
      refine .q rfl (op_bin64 rfl rfl rfl) ⟨_, rfl, rfl⟩ ?_
      refine .as (.bool (decide (9 < ((l.take k).getD j default).n))) rfl ?_
      refine .q rfl (op_eqB Tryd.underlying4 rfl rfl rfl) ⟨_, rfl, rfl⟩ ?_
      refine .q rfl (op_pick_false rfl rfl rfl) trivial ?_
      refine .nil ?_
      show Ev _ _ _ _ _
      refine .cond_false rfl (bne_self_eq_false _) ?_
      refine .skip ?_
      show Ev _ _ _ _ _
      refine .region ?_
      refine .q (op_addI rfl rfl ⟨by omega, by omega⟩) trivial rfl ?_
      refine .q (op_move rfl) trivial rfl ?_
      refine .nil ?_
      exact ⟨⟨j + 1, by omega⟩, by show k - (j + 1) < k - j; omega, StLe.mk [(1016, 1016), (1032, 1032)] rfl rfl ⟨⟨_, rfl, by rfl, rfl⟩, ⟨_, rfl, by rfl, rfl⟩, ⟨_, rfl, by rfl, rfl⟩, ⟨_, rfl, by rfl, rfl⟩, ⟨_, rfl, by rfl, rfl⟩, trivial⟩ ⟨⟨_, _, rfl, rfl, offC_ren _ 0 (rowsC_flat (f := ownR) (fun _ => rfl) (l.take k)), rfl, id, offC_nm _ 0 (rowsC_flat (f := ownR) (fun _ => rfl) (l.take k))⟩, ⟨_, _, rfl, rfl, rfl, rfl, id, rfl⟩, ⟨_, _, rfl, rfl, rfl, rfl, (fun h => by cases h), rfl⟩, ⟨_, _, rfl, rfl, rfl, rfl, (fun h => by cases h), rfl⟩, ⟨_, _, rfl, rfl, rfl, rfl, (fun h => by cases h), rfl⟩, trivial⟩⟩
    ·simp only [decide_eq_false_iff_not] at hc72
     refine .exit ?_
     show Ev _ _ _ _ _
     have hjk : j = k := by omega
     have hnil : encR ((l.take k).drop j) = [] := by rw [hjk, List.drop_of_length_le (Nat.le_of_eq htl)]; rfl
     refine Ev.weak (st2 := ⟨[(10, .ptr 1032 0)], [(1032, some ⟨.agg [.str (DI.mk [] 0).r, .err 161 ((DI.mk [] 0).e) (offE eo ((DI.mk [] 0).e))], 82, true⟩), (3, some ⟨.agg [.err 161 (2) (offE eo (2))], errT, false⟩), (0, some ⟨.agg [.err 161 (4) (offE eo (4))], errT, false⟩), (1, some ⟨.agg [.err 161 (3) (offE eo (3))], errT, false⟩)], 1040⟩) (StLe.mk [(1032, 1032)] rfl rfl ⟨⟨_, rfl, by rfl, rfl⟩, trivial⟩ ⟨⟨_, _, rfl, rfl, by (simp only [AV.ren, AV.renL]; rw [hnil]; first | done | rfl), rfl, id, rfl⟩, ⟨_, _, rfl, rfl, rfl, rfl, (fun h => by cases h), rfl⟩, ⟨_, _, rfl, rfl, rfl, rfl, (fun h => by cases h), rfl⟩, ⟨_, _, rfl, rfl, rfl, rfl, (fun h => by cases h), rfl⟩, trivial⟩) ?_
     show Ev _ _ _ _ _
     refine .seq ?_
     refine .region ?_
     refine .q (op_move rfl) trivial rfl ?_
     refine .a (op_call (U := [(1032, some ⟨.agg [.str (endD ⟨[], 0⟩).r, .err 161 ((endD ⟨[], 0⟩).e) (offE eo ((endD ⟨[], 0⟩).e))], 82, true⟩)]) [(500, 1032)] [] (end_ev ⟨[], 0⟩ eo) Tryd.func30 (by kernel_rfl) rfl rfl rfl (⟨⟨_, rfl, rfl, rfl⟩, trivial⟩) (⟨⟨_, _, rfl, rfl, rfl, rfl, id, rfl⟩, ⟨_, _, rfl, rfl, rfl, rfl, (fun h => by cases h), rfl⟩, trivial⟩) (⟨⟨500, _, rfl, rfl, rfl, rfl, .inr ⟨rfl, _, rfl, rfl⟩⟩, trivial⟩) (⟨(fun _ => ⟨1032, _, rfl, rfl⟩), (fun h => by cases h), trivial⟩) rfl) trivial rfl ?_
     refine .q (op_eqErrNil (e := (endD ⟨[], 0⟩).e) Tryd.underlying56 rfl rfl) trivial rfl ?_
     refine .q (op_move rfl) trivial rfl ?_
     refine .know (b' := true) (rfl) ?_
     refine .q (op_move rfl) ⟨_, rfl, rfl⟩ rfl ?_
     refine .q (op_call (U := []) [(500, 1032)] [] (left_ev (endD ⟨[], 0⟩) eo) Tryd.func31 (by kernel_rfl) rfl rfl rfl (⟨⟨_, rfl, rfl, rfl⟩, trivial⟩) (⟨⟨_, _, rfl, rfl, rfl, rfl, (fun h => by cases h), rfl⟩, trivial⟩) (trivial) (⟨(fun h => by cases h), trivial⟩) rfl) ⟨_, rfl, rfl⟩ rfl ?_
     refine .q (op_cmpI rfl rfl rfl) ⟨_, rfl, rfl⟩ rfl ?_
     refine .q (op_pick_true rfl rfl rfl) trivial rfl ?_
     refine .q (op_assign rfl) trivial rfl ?_
     refine .nil ?_
     show Ev _ _ _ _ _
     refine .ret ?_
     show RetOk _ _ _ _ _ _ _
     exact ret1v rfl (.inl rfl) rfl rfl trivial
  ·simp only [decide_eq_false_iff_not] at hg20
   refine .no ⟨_, rfl, rfl⟩ rfl ?_
   refine .no ⟨_, rfl, rfl⟩ rfl ?_
   refine .q (op_pick_false rfl rfl rfl) trivial rfl ?_
   refine .nil ?_
   show Ev _ _ _ _ _
   refine .cond_false rfl rfl ?_
   refine .exit ?_
   show Ev _ _ _ _ _
   refine .seq ?_
   refine .region ?_
   refine .a (op_call (U := [(1008, some ⟨.aggB (encR (l.take k)), (frz + 5), false⟩)]) [(500, 1000), (501, 1008)] [] (bytes2_ev (encR (l.take k)) (encR (l.take k)).length rfl (List.length_pos_iff.2 hne) (by omega)) Tryd.func21 (by kernel_rfl) rfl rfl rfl (⟨⟨_, rfl, rfl, rfl⟩, trivial⟩) (⟨⟨_, _, rfl, rfl, rfl, rfl, (fun h => by cases h), rfl⟩, ⟨_, _, rfl, rfl, rfl, rfl, id, rfl⟩, trivial⟩) (⟨⟨501, _, rfl, rfl, rfl, rfl, .inr ⟨rfl, _, rfl, rfl⟩⟩, trivial⟩) (⟨(fun h => by cases h), (fun _ => ⟨1008, _, rfl, rfl⟩), trivial⟩) rfl) trivial rfl ?_
   refine .a (op_call (U := [(1032, some ⟨.agg [.str (DI.mk (encR (l.take k)) 0).r, .err 161 ((DI.mk (encR (l.take k)) 0).e) (offE eo ((DI.mk (encR (l.take k)) 0).e))], 82, true⟩)]) [] [(1032, 1000)] (wof_ev (encR (l.take k)) eo) Tryd.func23 (by kernel_rfl) rfl rfl rfl (⟨⟨_, rfl, rfl, rfl⟩, trivial⟩) (trivial) (⟨⟨1000, _, rfl, rfl, rfl, rfl, .inl rfl⟩, trivial⟩) (trivial) rfl) trivial rfl ?_
   refine .q (op_assign rfl) trivial rfl ?_
   refine .nil ?_
   show Ev _ _ _ _ _
   refine .seq ?_
   refine .seq ?_
   refine .region ?_
   refine .q (op_move rfl) trivial rfl ?_
   refine .q (op_len_sl Tryd.underlying22 rfl) trivial rfl ?_
   refine .q (op_move rfl) trivial rfl ?_
   refine .nil ?_
   show Ev _ _ _ _ _
   refine .block ?_
   refine Ev.loop (ι := { j : Nat // j ≤ k }) (fun j => ⟨[(2, .bool false), (10, .ptr 1032 0), (69, .sl 1016 0 k 4), (70, .i64 ((k : Nat) : Int)), (71, .i64 ((j.1 : Nat) : Int))], [(1016, some ⟨.agg (rowsC ownR (l.take k)), 33, true⟩), (1032, some ⟨.agg [.str (DI.mk (encR ((l.take k).drop j.1)) 0).r, .err 161 ((DI.mk (encR ((l.take k).drop j.1)) 0).e) (offE eo ((DI.mk (encR ((l.take k).drop j.1)) 0).e))], 82, true⟩), (3, some ⟨.agg [.err 161 (2) (offE eo (2))], errT, false⟩), (0, some ⟨.agg [.err 161 (4) (offE eo (4))], errT, false⟩), (1, some ⟨.agg [.err 161 (3) (offE eo (3))], errT, false⟩)], 1040⟩) (fun j => k - j.1) ⟨0, Nat.zero_le _⟩ (StLe.mk [(1016, 1016), (1032, 1032)] rfl rfl ⟨⟨_, rfl, by rfl, rfl⟩, ⟨_, rfl, by rfl, rfl⟩, ⟨_, rfl, by rfl, rfl⟩, ⟨_, rfl, by rfl, rfl⟩, ⟨_, rfl, by rfl, rfl⟩, trivial⟩ ⟨⟨_, _, rfl, rfl, offC_ren _ 0 (rowsC_flat (f := ownR) (fun _ => rfl) (l.take k)), rfl, id, offC_nm _ 0 (rowsC_flat (f := ownR) (fun _ => rfl) (l.take k))⟩, ⟨_, _, rfl, rfl, rfl, rfl, id, rfl⟩, ⟨_, _, rfl, rfl, rfl, rfl, (fun h => by cases h), rfl⟩, ⟨_, _, rfl, rfl, rfl, rfl, (fun h => by cases h), rfl⟩, ⟨_, _, rfl, rfl, rfl, rfl, (fun h => by cases h), rfl⟩, trivial⟩) ?_
   rintro ⟨j, hj⟩
   try dsimp only
   have h4l : ((((l.take k).getD j default).s.take 40)).length ≤ 40 := List.length_take_le 40 _
   have hu := uns40 ((l.take k).getD j default).s
   have hoj := ownL_join ((l.take k).getD j default)
   have hos := ownL_sum ((l.take k).getD j default)
   have hol := ownL_len ((l.take k).getD j default)
   have hrl := encR_len ((l.take k).drop (j + 1))
   have hdl : ((l.take k).drop (j + 1)).length = k - (j + 1) := by rw [List.length_drop, htl]
   refine .seq ?_
   refine .region ?_
   refine .q (op_cmpI rfl rfl rfl) trivial rfl ?_
   refine .nil ?_
   show Ev _ _ _ _ _
   refine .seq ?_
   refine .cond rfl (fun hc72 => ?_) (fun hc72 => ?_)
   ·simp only [decide_eq_true_eq] at hc72
    refine .skip ?_
    show Ev _ _ _ _ _
    refine .seq ?_
    refine .block ?_
    refine .seq ?_
    refine .region ?_
    refine .q (op_indexAddr (z := 4) Tryd.underlying22 (by kernel_rfl) rfl rfl rfl (show j < k by omega)) trivial rfl ?_
    refine .q (op_loadPart (m := 4) (r := .agg (ownR ((l.take k).getD j default))) (cs := ownR ((l.take k).getD j default)) Tryd.underlying33 rfl (by kernel_rfl) rfl rfl rfl rfl (ownR_row (show j < (l.take k).length by omega)) (by show 0 + j * 4 + 4 ≤ (rowsC ownR (l.take k)).length; rw [rowsC_len (f := ownR) (z := 4) (fun _ => rfl)]; omega)) trivial rfl ?_
    refine .a (op_allocRow zero33 rel_zero33 rfl) trivial rfl ?_
    refine .w (op_storeRow (by kernel_rfl) rfl rfl rfl rfl rfl (rfl) (rfl)) trivial rfl ?_
    refine .nil ?_
    show Ev _ _ _ _ _
    refine .seq ?_
    refine .region ?_
    refine .q (op_fieldAddr (m := 0) Tryd.underlying33 rfl (by kernel_rfl) rfl) trivial rfl ?_
    refine .as (.ptr 1040 2) rfl ?_
    refine .q (op_load Tryd.underlying9 rfl rfl rfl rfl (by show 2 < 4; decide)) trivial rfl ?_
    refine .q (op_assign rfl) trivial rfl ?_
    refine .nil ?_
    show Ev _ _ _ _ _
    refine .seq ?_
    refine .block ?_
    refine Ev.loop (ι := { q : List UInt8 // shortB q = shortB (((l.take k).getD j default).s.take 40) ∧ q.length ≤ (((l.take k).getD j default).s.take 40).length }) (fun q => ⟨[(13, .str q.1), (12, .ptr 1040 0), (2, .bool false), (10, .ptr 1032 0), (69, .sl 1016 0 k 4), (70, .i64 ((k : Nat) : Int)), (71, .i64 ((j : Nat) : Int))], [(1040, some ⟨.agg (ownR ((l.take k).getD j default)), 33, true⟩), (1016, some ⟨.agg (rowsC ownR (l.take k)), 33, true⟩), (1032, some ⟨.agg [.str (DI.mk (encR ((l.take k).drop j)) 0).r, .err 161 ((DI.mk (encR ((l.take k).drop j)) 0).e) (offE eo ((DI.mk (encR ((l.take k).drop j)) 0).e))], 82, true⟩), (3, some ⟨.agg [.err 161 (2) (offE eo (2))], errT, false⟩), (0, some ⟨.agg [.err 161 (4) (offE eo (4))], errT, false⟩), (1, some ⟨.agg [.err 161 (3) (offE eo (3))], errT, false⟩)], 1048⟩) (fun q => q.1.length) ⟨(((l.take k).getD j default).s.take 40), rfl, Nat.le_refl _⟩ (StLe.mk [(1040, 1040), (1016, 1016), (1032, 1032)] rfl rfl ⟨⟨_, rfl, by rfl, rfl⟩, ⟨_, rfl, by rfl, rfl⟩, ⟨_, rfl, by rfl, rfl⟩, ⟨_, rfl, by rfl, rfl⟩, ⟨_, rfl, by rfl, rfl⟩, ⟨_, rfl, by rfl, rfl⟩, ⟨_, rfl, by rfl, rfl⟩, trivial⟩ ⟨⟨_, _, rfl, rfl, rfl, rfl, id, rfl⟩, ⟨_, _, rfl, rfl, offC_ren _ 0 (rowsC_flat (f := ownR) (fun _ => rfl) (l.take k)), rfl, id, offC_nm _ 0 (rowsC_flat (f := ownR) (fun _ => rfl) (l.take k))⟩, ⟨_, _, rfl, rfl, rfl, rfl, id, rfl⟩, ⟨_, _, rfl, rfl, rfl, rfl, (fun h => by cases h), rfl⟩, ⟨_, _, rfl, rfl, rfl, rfl, (fun h => by cases h), rfl⟩, ⟨_, _, rfl, rfl, rfl, rfl, (fun h => by cases h), rfl⟩, trivial⟩) ?_
    rintro ⟨q, hq, hql⟩
    try dsimp only
    refine .seq ?_
    refine .seq ?_
    refine .region ?_
    refine .q (op_move rfl) trivial rfl ?_
    refine .q (op_eqS rfl rfl rfl) trivial rfl ?_
    refine .q (op_move rfl) trivial rfl ?_
    refine .split (fun hg79 => ?_) (fun hg79 => ?_)
    ·simp only [bne_iff_ne, ne_eq] at hg79
     refine .q (op_move rfl) ⟨_, rfl, rfl⟩ rfl ?_
     refine .q (op_index_str Tryd.underlying9 rfl rfl (i := 0) rfl (by have := List.length_pos_iff.2 hg79; omega)) ⟨_, rfl, rfl⟩ rfl ?_
     refine .q (op_bin8 rfl rfl rfl) ⟨_, rfl, rfl⟩ rfl ?_
     refine .q (op_pick_true rfl rfl rfl) trivial rfl ?_
     refine .nil ?_
     show Ev _ _ _ _ _
     refine .cond rfl (fun hc83 => ?_) (fun hc83 => ?_)
     ·simp only [beq_iff_eq] at hc83
      refine .skip ?_
      show Ev _ _ _ _ _
      refine .block ?_
      refine .region ?_
      refine .q (op_move rfl) trivial rfl ?_
      refine .q (ap_slice_str_lo Tryd.underlying9 rfl (bnd_some rfl (l := 1) rfl) (by have := List.length_pos_iff.2 hg79; omega)) trivial rfl ?_
      refine .q (op_assign rfl) trivial rfl ?_
      refine .nil ?_
      exact ⟨⟨q.drop 1, (short0 hg79 hc83).trans hq, by simp only [List.length_drop]; omega⟩, by show (q.drop 1).length < q.length; have := List.length_pos_iff.2 hg79; simp only [List.length_drop]; omega, StLe.mk [(1040, 1040), (1016, 1016), (1032, 1032)] rfl rfl ⟨⟨_, rfl, by rfl, rfl⟩, ⟨_, rfl, by rfl, rfl⟩, ⟨_, rfl, by rfl, rfl⟩, ⟨_, rfl, by rfl, rfl⟩, ⟨_, rfl, by rfl, rfl⟩, ⟨_, rfl, by rfl, rfl⟩, ⟨_, rfl, by rfl, rfl⟩, trivial⟩ ⟨⟨_, _, rfl, rfl, rfl, rfl, id, rfl⟩, ⟨_, _, rfl, rfl, offC_ren _ 0 (rowsC_flat (f := ownR) (fun _ => rfl) (l.take k)), rfl, id, offC_nm _ 0 (rowsC_flat (f := ownR) (fun _ => rfl) (l.take k))⟩, ⟨_, _, rfl, rfl, rfl, rfl, id, rfl⟩, ⟨_, _, rfl, rfl, rfl, rfl, (fun h => by cases h), rfl⟩, ⟨_, _, rfl, rfl, rfl, rfl, (fun h => by cases h), rfl⟩, ⟨_, _, rfl, rfl, rfl, rfl, (fun h => by cases h), rfl⟩, trivial⟩⟩
     ·simp only [ne_eq, beq_eq_false_iff_ne] at hc83
      refine .exit ?_
      show Ev _ _ _ _ _
      have hsq : q = shortB (((l.take k).getD j default).s.take 40) := by first | exact (shortB_stop hc83).symm.trans hq | (rw [← hq, show q = [] by first | exact bne_eq_false_iff_eq.1 hg79 | exact hg79]; rfl)
      have hED : encR ((l.take k).drop j) = (numB ((l.take k).getD j default).n 8 8 ++ (textB (((l.take k).getD j default).s.take 40) ++ (namesB (ownL ((l.take k).getD j default)) ++ (bigB (((l.take k).getD j default).s.take 40) ++ (boolB (decide (9 < ((l.take k).getD j default).n)) ++ (encR ((l.take k).drop (j + 1)))))))) := by rw [encR_drop (show j < (l.take k).length by omega)]; simp only [encF, List.append_assoc]
      refine Ev.weak (st2 := ⟨[(13, .str (shortB (((l.take k).getD j default).s.take 40))), (12, .ptr 1040 0), (2, .bool false), (10, .ptr 1032 0), (69, .sl 1016 0 k 4), (70, .i64 ((k : Nat) : Int)), (71, .i64 ((j : Nat) : Int))], [(1040, some ⟨.agg (ownR ((l.take k).getD j default)), 33, true⟩), (1016, some ⟨.agg (rowsC ownR (l.take k)), 33, true⟩), (1032, some ⟨.agg [.str (DI.mk (numB ((l.take k).getD j default).n 8 8 ++ (textB (((l.take k).getD j default).s.take 40) ++ (namesB (ownL ((l.take k).getD j default)) ++ (bigB (((l.take k).getD j default).s.take 40) ++ (boolB (decide (9 < ((l.take k).getD j default).n)) ++ (encR ((l.take k).drop (j + 1)))))))) 0).r, .err 161 ((DI.mk (numB ((l.take k).getD j default).n 8 8 ++ (textB (((l.take k).getD j default).s.take 40) ++ (namesB (ownL ((l.take k).getD j default)) ++ (bigB (((l.take k).getD j default).s.take 40) ++ (boolB (decide (9 < ((l.take k).getD j default).n)) ++ (encR ((l.take k).drop (j + 1)))))))) 0).e) (offE eo ((DI.mk (numB ((l.take k).getD j default).n 8 8 ++ (textB (((l.take k).getD j default).s.take 40) ++ (namesB (ownL ((l.take k).getD j default)) ++ (bigB (((l.take k).getD j default).s.take 40) ++ (boolB (decide (9 < ((l.take k).getD j default).n)) ++ (encR ((l.take k).drop (j + 1)))))))) 0).e))], 82, true⟩), (3, some ⟨.agg [.err 161 (2) (offE eo (2))], errT, false⟩), (0, some ⟨.agg [.err 161 (4) (offE eo (4))], errT, false⟩), (1, some ⟨.agg [.err 161 (3) (offE eo (3))], errT, false⟩)], 1048⟩) (StLe.mk [(1040, 1040), (1016, 1016), (1032, 1032)] rfl rfl ⟨⟨_, rfl, by (simp only [AV.ren]; rw [← hsq]), rfl⟩, ⟨_, rfl, by rfl, rfl⟩, ⟨_, rfl, by rfl, rfl⟩, ⟨_, rfl, by rfl, rfl⟩, ⟨_, rfl, by rfl, rfl⟩, ⟨_, rfl, by rfl, rfl⟩, ⟨_, rfl, by rfl, rfl⟩, trivial⟩ ⟨⟨_, _, rfl, rfl, rfl, rfl, id, rfl⟩, ⟨_, _, rfl, rfl, offC_ren _ 0 (rowsC_flat (f := ownR) (fun _ => rfl) (l.take k)), rfl, id, offC_nm _ 0 (rowsC_flat (f := ownR) (fun _ => rfl) (l.take k))⟩, ⟨_, _, rfl, rfl, by (simp only [AV.ren, AV.renL]; rw [hED]; first | done | rfl), rfl, id, rfl⟩, ⟨_, _, rfl, rfl, rfl, rfl, (fun h => by cases h), rfl⟩, ⟨_, _, rfl, rfl, rfl, rfl, (fun h => by cases h), rfl⟩, ⟨_, _, rfl, rfl, rfl, rfl, (fun h => by cases h), rfl⟩, trivial⟩) ?_
      show Ev _ _ _ _ _
      refine .seq ?_
      refine .drawnF [[], [0], [], [2], [0, 1, 2, 3], [0, 1, 2, 3, 4], [0, 1, 2, 3, 4, 5], [0, 1, 2, 3, 4, 5, 6], [0, 1, 2, 3, 4, 5], [0, 1, 2, 3, 4, 5, 8], [0, 1, 2, 3, 4, 5, 6, 7, 8, 9], [0, 1, 2, 3, 4, 5, 6, 7, 8, 9, 10], [0, 1, 2, 3, 4, 5, 6, 7, 8, 9, 10, 11], [0, 1, 2, 3, 4, 5, 6, 7, 8, 9, 10, 11, 12], [0, 1, 2, 3, 4, 5, 6, 7, 8, 9, 10, 11, 12, 13], [0, 1, 2, 3, 4, 5, 6, 7, 8, 9, 10, 11, 12], [0, 1, 2, 3, 4, 5, 6, 7, 8, 9, 10, 11, 12, 15], [0, 1, 2, 3, 4, 5, 6, 7, 8, 9, 10, 11, 12, 13, 14, 15, 16], [0, 1, 2, 3, 4, 5, 6, 7, 8, 9, 10, 11, 12, 13, 14, 15, 16, 17], [0, 1, 2, 3, 4, 5, 6, 7, 8, 9, 10, 11, 12, 13, 14, 15, 16, 17, 18], [0, 1, 2, 3, 4, 5, 6, 7, 8, 9, 10, 11, 12, 13, 14, 15, 16, 17, 18, 19], [0, 1, 2, 3, 4, 5, 6, 7, 8, 9, 10, 11, 12, 13, 14, 15, 16, 17, 18, 19, 20], [0, 1, 2, 3, 4, 5, 6, 7, 8, 9, 10, 11, 12, 13, 14, 15, 16, 17, 18, 19, 20, 21], [0, 1, 2, 3, 4, 5, 6, 7, 8, 9, 10, 11, 12, 13, 14, 15, 16, 17, 18, 19, 20], [0, 1, 2, 3, 4, 5, 6, 7, 8, 9, 10, 11, 12, 13, 14, 15, 16, 17, 18, 19, 20, 21, 22, 23], [0, 1, 2, 3, 4, 5, 6, 7, 8, 9, 10, 11, 12, 13, 14, 15, 16, 17, 18, 19, 20, 21, 22, 23, 24], [0, 1, 2, 3, 4, 5, 6, 7, 8, 9, 10, 11, 12, 13, 14, 15, 16, 17, 18, 19, 20, 21, 22, 23, 24, 25], [0, 1, 2, 3, 4, 5, 6, 7, 8, 9, 10, 11, 12, 13, 14, 15, 16, 17, 18, 19, 20, 21, 22, 23, 24, 25, 26], [0, 1, 2, 3, 4, 5, 6, 7, 8, 9, 10, 11, 12, 13, 14, 15, 16, 17, 18, 19, 20, 21, 22, 23, 24, 25, 26, 27], [0, 1, 2, 3, 4, 5, 6, 7, 8, 9, 10, 11, 12, 13, 14, 15, 16, 17, 18, 19, 20, 21, 22, 23, 24, 25, 26], [0, 1, 2, 3, 4, 5, 6, 7, 8, 9, 10, 11, 12, 13, 14, 15, 16, 17, 18, 19, 20, 21, 22, 23, 24, 25, 26, 29], [0, 1, 2, 3, 4, 5, 6, 7, 8, 9, 10, 11, 12, 13, 14, 15, 16, 17, 18, 19, 20, 21, 22, 23, 24, 25, 26, 29, 30], [0, 1, 2, 3, 4, 5, 6, 7, 8, 9, 10, 11, 12, 13, 14, 15, 16, 17, 18, 19, 20, 21, 22, 23, 24, 25, 26, 27, 28, 29, 30, 31], [0, 1, 2, 3, 4, 5, 6, 7, 8, 9, 10, 11, 12, 13, 14, 15, 16, 17, 18, 19, 20, 21, 22, 23, 24, 25, 26, 27, 28, 29, 30, 31, 32]] [1, 3, 7, 9, 14, 16, 17, 22, 28, 30] [] [(1, ([3, 0, 1], [1032])), (3, ([1040], [])), (7, ([3, 0, 1], [1032])), (9, ([1040], [])), (14, ([3, 0, 1], [1032])), (16, ([1040], [])), (17, ([], [])), (22, ([3, 0, 1], [1032])), (28, ([3, 0, 1], [1032])), (30, ([1040], []))] (by kernel_rfl) (by kernel_rfl) rfl ?_
      show DK _ [0, 1, 2, 3, 4, 5, 6, 7, 8, 9, 10, 11, 12, 13, 14, 15, 16, 17, 18, 19, 20, 21, 22, 23, 24, 25, 26, 27, 28, 29, 30, 31, 32, 33] _ _ _
      refine .q rfl (op_move rfl) trivial ?_
      refine .a rfl (op_call (U := [(1032, some ⟨.agg [.str (DI.mk (textB (((l.take k).getD j default).s.take 40) ++ (namesB (ownL ((l.take k).getD j default)) ++ (bigB (((l.take k).getD j default).s.take 40) ++ (boolB (decide (9 < ((l.take k).getD j default).n)) ++ (encR ((l.take k).drop (j + 1))))))) 0).r, .err 161 ((DI.mk (textB (((l.take k).getD j default).s.take 40) ++ (namesB (ownL ((l.take k).getD j default)) ++ (bigB (((l.take k).getD j default).s.take 40) ++ (boolB (decide (9 < ((l.take k).getD j default).n)) ++ (encR ((l.take k).drop (j + 1))))))) 0).e) (offE eo ((DI.mk (textB (((l.take k).getD j default).s.take 40) ++ (namesB (ownL ((l.take k).getD j default)) ++ (bigB (((l.take k).getD j default).s.take 40) ++ (boolB (decide (9 < ((l.take k).getD j default).n)) ++ (encR ((l.take k).drop (j + 1))))))) 0).e))], 82, true⟩)]) [(500, 1032)] [] (u64_app ((l.take k).getD j default).n (textB (((l.take k).getD j default).s.take 40) ++ (namesB (ownL ((l.take k).getD j default)) ++ (bigB (((l.take k).getD j default).s.take 40) ++ (boolB (decide (9 < ((l.take k).getD j default).n)) ++ (encR ((l.take k).drop (j + 1))))))) eo) Tryd.func24 (by kernel_rfl) rfl rfl rfl (⟨⟨_, rfl, rfl, rfl⟩, trivial⟩) (⟨⟨_, _, rfl, rfl, rfl, rfl, id, rfl⟩, ⟨_, _, rfl, rfl, rfl, rfl, (fun h => by cases h), rfl⟩, trivial⟩) (⟨⟨500, _, rfl, rfl, rfl, rfl, .inr ⟨rfl, _, rfl, rfl⟩⟩, trivial⟩) (⟨(fun _ => ⟨1032, _, rfl, rfl⟩), (fun h => by cases h), trivial⟩) rfl) trivial rfl rfl ?_
      refine .q rfl (op_fieldAddr (m := 0) Tryd.underlying33 rfl (by kernel_rfl) rfl) trivial ?_
      refine .as (.ptr 1040 1) rfl ?_
      refine .q rfl (op_load Tryd.underlying30 rfl rfl rfl rfl (by show 1 < 4; decide)) trivial ?_
      refine .q rfl (op_bin64 rfl rfl rfl) trivial ?_
      refine .q rfl (op_move rfl) trivial ?_
      refine .know (b' := false) (bne_self_eq_false _) ?_
      refine .q rfl (op_move rfl) ⟨_, rfl, rfl⟩ ?_
      refine .a rfl (op_call (U := [(1032, some ⟨.agg [.str (DI.mk (namesB (ownL ((l.take k).getD j default)) ++ (bigB (((l.take k).getD j default).s.take 40) ++ (boolB (decide (9 < ((l.take k).getD j default).n)) ++ (encR ((l.take k).drop (j + 1)))))) 0).r, .err 161 ((DI.mk (namesB (ownL ((l.take k).getD j default)) ++ (bigB (((l.take k).getD j default).s.take 40) ++ (boolB (decide (9 < ((l.take k).getD j default).n)) ++ (encR ((l.take k).drop (j + 1)))))) 0).e) (offE eo ((DI.mk (namesB (ownL ((l.take k).getD j default)) ++ (bigB (((l.take k).getD j default).s.take 40) ++ (boolB (decide (9 < ((l.take k).getD j default).n)) ++ (encR ((l.take k).drop (j + 1)))))) 0).e))], 82, true⟩)]) [(500, 1032)] [] (text_app (((l.take k).getD j default).s.take 40) (by omega) (namesB (ownL ((l.take k).getD j default)) ++ (bigB (((l.take k).getD j default).s.take 40) ++ (boolB (decide (9 < ((l.take k).getD j default).n)) ++ (encR ((l.take k).drop (j + 1)))))) eo) Tryd.func25 (by kernel_rfl) rfl rfl rfl (⟨⟨_, rfl, rfl, rfl⟩, ⟨_, rfl, rfl, rfl⟩, trivial⟩) (⟨⟨_, _, rfl, rfl, rfl, rfl, id, rfl⟩, ⟨_, _, rfl, rfl, rfl, rfl, (fun h => by cases h), rfl⟩, ⟨_, _, rfl, rfl, rfl, rfl, (fun h => by cases h), rfl⟩, trivial⟩) (⟨⟨500, _, rfl, rfl, rfl, rfl, .inr ⟨rfl, _, rfl, rfl⟩⟩, trivial⟩) (⟨(fun _ => ⟨1032, _, rfl, rfl⟩), (fun h => by cases h), (fun h => by cases h), trivial⟩) rfl) ⟨_, rfl, rfl⟩ rfl rfl ?_
      refine .q rfl (op_fieldAddr (m := 0) Tryd.underlying33 rfl (by kernel_rfl) rfl) ⟨_, rfl, rfl⟩ ?_
      refine .as (.ptr 1040 2) rfl ?_
      refine .q rfl (op_load Tryd.underlying9 rfl rfl rfl rfl (by show 2 < 4; decide)) ⟨_, rfl, rfl⟩ ?_
      refine .q rfl (op_eqS rfl rfl rfl) ⟨_, rfl, rfl⟩ ?_
      refine .q rfl (op_pick_false rfl rfl rfl) trivial ?_
      refine .q rfl (op_move rfl) trivial ?_
      refine .know (b' := false) (bne_self_eq_false _) ?_
      refine .q rfl (op_move rfl) ⟨_, rfl, rfl⟩ ?_
      refine .a rfl (op_call (U := [(1032, some ⟨.agg [.str (DI.mk (bigB (((l.take k).getD j default).s.take 40) ++ (boolB (decide (9 < ((l.take k).getD j default).n)) ++ (encR ((l.take k).drop (j + 1))))) 0).r, .err 161 ((DI.mk (bigB (((l.take k).getD j default).s.take 40) ++ (boolB (decide (9 < ((l.take k).getD j default).n)) ++ (encR ((l.take k).drop (j + 1))))) 0).e) (offE eo ((DI.mk (bigB (((l.take k).getD j default).s.take 40) ++ (boolB (decide (9 < ((l.take k).getD j default).n)) ++ (encR ((l.take k).drop (j + 1))))) 0).e))], 82, true⟩)]) [(500, 1032)] [] (names_app (ownL ((l.take k).getD j default)) (ownL_ok _) (by omega) (bigB (((l.take k).getD j default).s.take 40) ++ (boolB (decide (9 < ((l.take k).getD j default).n)) ++ (encR ((l.take k).drop (j + 1))))) (by simp only [List.length_append, big_len, length_boolB]; omega) eo) Tryd.func27 (by kernel_rfl) rfl rfl rfl (⟨⟨_, rfl, rfl, rfl⟩, trivial⟩) (⟨⟨_, _, rfl, rfl, rfl, rfl, id, rfl⟩, ⟨_, _, rfl, rfl, rfl, rfl, (fun h => by cases h), rfl⟩, ⟨_, _, rfl, rfl, rfl, rfl, (fun h => by cases h), rfl⟩, ⟨_, _, rfl, rfl, rfl, rfl, (fun h => by cases h), rfl⟩, trivial⟩) (⟨⟨500, _, rfl, rfl, rfl, rfl, .inr ⟨rfl, _, rfl, rfl⟩⟩, trivial⟩) (⟨(fun _ => ⟨1032, _, rfl, rfl⟩), (fun h => by cases h), (fun h => by cases h), (fun h => by cases h), trivial⟩) rfl) ⟨_, rfl, rfl⟩ rfl rfl ?_
      refine .q rfl (op_fieldAddr (m := 0) Tryd.underlying33 rfl (by kernel_rfl) rfl) ⟨_, rfl, rfl⟩ ?_
      refine .as (.ptr 1040 3) rfl ?_
      refine .q rfl (op_load Tryd.underlying31 rfl rfl rfl rfl (by show 3 < 4; decide)) ⟨_, rfl, rfl⟩ ?_
      refine .q rfl (op_call (U := []) [] [] (same_true (ownL ((l.take k).getD j default)) (by omega)) Tryd.func26 (by kernel_rfl) rfl rfl rfl (⟨⟨_, rfl, rfl, rfl⟩, ⟨_, rfl, rfl, rfl⟩, trivial⟩) (trivial) (trivial) (trivial) rfl) ⟨_, rfl, rfl⟩ ?_
      refine .q rfl (op_notB rfl) ⟨_, rfl, rfl⟩ ?_
      refine .q rfl (op_pick_false rfl rfl rfl) trivial ?_
      refine .q rfl (op_move rfl) trivial ?_
      refine .know (b' := false) (rfl) ?_
      refine .q rfl (op_move rfl) ⟨_, rfl, rfl⟩ ?_
      refine .a rfl (op_call (U := [(1032, some ⟨.agg [.str (DI.mk (boolB (decide (9 < ((l.take k).getD j default).n)) ++ (encR ((l.take k).drop (j + 1)))) 0).r, .err 161 ((DI.mk (boolB (decide (9 < ((l.take k).getD j default).n)) ++ (encR ((l.take k).drop (j + 1)))) 0).e) (offE eo ((DI.mk (boolB (decide (9 < ((l.take k).getD j default).n)) ++ (encR ((l.take k).drop (j + 1)))) 0).e))], 82, true⟩)]) [(500, 1032)] [] (big_app (((l.take k).getD j default).s.take 40) (by omega) (boolB (decide (9 < ((l.take k).getD j default).n)) ++ (encR ((l.take k).drop (j + 1)))) (by simp only [List.length_append, length_boolB]; omega) eo) Tryd.func28 (by kernel_rfl) rfl rfl rfl (⟨⟨_, rfl, rfl, rfl⟩, ⟨_, rfl, rfl, rfl⟩, trivial⟩) (⟨⟨_, _, rfl, rfl, rfl, rfl, id, rfl⟩, ⟨_, _, rfl, rfl, rfl, rfl, (fun h => by cases h), rfl⟩, ⟨_, _, rfl, rfl, rfl, rfl, (fun h => by cases h), rfl⟩, ⟨_, _, rfl, rfl, rfl, rfl, (fun h => by cases h), rfl⟩, trivial⟩) (⟨⟨500, _, rfl, rfl, rfl, rfl, .inr ⟨rfl, _, rfl, rfl⟩⟩, trivial⟩) (⟨(fun _ => ⟨1032, _, rfl, rfl⟩), (fun h => by cases h), (fun h => by cases h), (fun h => by cases h), trivial⟩) rfl) ⟨_, rfl, rfl⟩ rfl rfl ?_
      refine .q rfl (op_move rfl) ⟨_, rfl, rfl⟩ ?_
      refine .q rfl (op_eqS rfl rfl rfl) ⟨_, rfl, rfl⟩ ?_
      refine .q rfl (op_pick_false rfl rfl rfl) trivial ?_
      refine .q rfl (op_move rfl) trivial ?_
      refine .know (b' := false) (bne_self_eq_false _) ?_
      refine .q rfl (op_move rfl) ⟨_, rfl, rfl⟩ ?_
      refine .a rfl (op_call (U := [(1032, some ⟨.agg [.str (DI.mk (encR ((l.take k).drop (j + 1))) 0).r, .err 161 ((DI.mk (encR ((l.take k).drop (j + 1))) 0).e) (offE eo ((DI.mk (encR ((l.take k).drop (j + 1))) 0).e))], 82, true⟩)]) [(500, 1032)] [] (bool_app (decide (9 < ((l.take k).getD j default).n)) (encR ((l.take k).drop (j + 1))) eo) Tryd.func29 (by kernel_rfl) rfl rfl rfl (⟨⟨_, rfl, rfl, rfl⟩, trivial⟩) (⟨⟨_, _, rfl, rfl, rfl, rfl, id, rfl⟩, ⟨_, _, rfl, rfl, rfl, rfl, (fun h => by cases h), rfl⟩, trivial⟩) (⟨⟨500, _, rfl, rfl, rfl, rfl, .inr ⟨rfl, _, rfl, rfl⟩⟩, trivial⟩) (⟨(fun _ => ⟨1032, _, rfl, rfl⟩), (fun h => by cases h), trivial⟩) rfl) ⟨_, rfl, rfl⟩ rfl rfl ?_
      refine .q rfl (op_fieldAddr (m := 0) Tryd.underlying33 rfl (by kernel_rfl) rfl) ⟨_, rfl, rfl⟩ ?_
      refine .as (.ptr 1040 1) rfl ?_
      refine .q rfl (op_load Tryd.underlying30 rfl rfl rfl rfl (by show 1 < 4; decide)) ⟨_, rfl, rfl⟩ ?_
      refine .q rfl (op_bin64 rfl rfl rfl) ⟨_, rfl, rfl⟩ ?_
      refine .as (.bool (decide (9 < ((l.take k).getD j default).n))) rfl ?_
      refine .q rfl (op_eqB Tryd.underlying4 rfl rfl rfl) ⟨_, rfl, rfl⟩ ?_
      refine .q rfl (op_pick_false rfl rfl rfl) trivial ?_
      refine .nil ?_
      show Ev _ _ _ _ _
      refine .cond_false rfl (bne_self_eq_false _) ?_
      refine .skip ?_
      show Ev _ _ _ _ _
      refine .region ?_
      refine .q (op_addI rfl rfl ⟨by omega, by omega⟩) trivial rfl ?_
      refine .q (op_move rfl) trivial rfl ?_
      refine .nil ?_
      exact ⟨⟨j + 1, by omega⟩, by show k - (j + 1) < k - j; omega, StLe.mk [(1016, 1016), (1032, 1032)] rfl rfl ⟨⟨_, rfl, by rfl, rfl⟩, ⟨_, rfl, by rfl, rfl⟩, ⟨_, rfl, by rfl, rfl⟩, ⟨_, rfl, by rfl, rfl⟩, ⟨_, rfl, by rfl, rfl⟩, trivial⟩ ⟨⟨_, _, rfl, rfl, offC_ren _ 0 (rowsC_flat (f := ownR) (fun _ => rfl) (l.take k)), rfl, id, offC_nm _ 0 (rowsC_flat (f := ownR) (fun _ => rfl) (l.take k))⟩, ⟨_, _, rfl, rfl, rfl, rfl, id, rfl⟩, ⟨_, _, rfl, rfl, rfl, rfl, (fun h => by cases h), rfl⟩, ⟨_, _, rfl, rfl, rfl, rfl, (fun h => by cases h), rfl⟩, ⟨_, _, rfl, rfl, rfl, rfl, (fun h => by cases h), rfl⟩, trivial⟩⟩
    ·simp only [bne_eq_false_iff_eq] at hg79
     refine .no ⟨_, rfl, rfl⟩ rfl ?_
     refine .no ⟨_, rfl, rfl⟩ rfl ?_
     refine .no ⟨_, rfl, rfl⟩ rfl ?_
     refine .q (op_pick_false rfl rfl rfl) trivial rfl ?_
     refine .nil ?_
     show Ev _ _ _ _ _
     refine .cond_false rfl rfl ?_
     refine .exit ?_
     show Ev _ _ _ _ _
     have hsq : q = shortB (((l.take k).getD j default).s.take 40) := by first | exact (shortB_stop hc83).symm.trans hq | (rw [← hq, show q = [] by first | exact bne_eq_false_iff_eq.1 hg79 | exact hg79]; rfl)
     have hED : encR ((l.take k).drop j) = (numB ((l.take k).getD j default).n 8 8 ++ (textB (((l.take k).getD j default).s.take 40) ++ (namesB (ownL ((l.take k).getD j default)) ++ (bigB (((l.take k).getD j default).s.take 40) ++ (boolB (decide (9 < ((l.take k).getD j default).n)) ++ (encR ((l.take k).drop (j + 1)))))))) := by rw [encR_drop (show j < (l.take k).length by omega)]; simp only [encF, List.append_assoc]
     refine Ev.weak (st2 := ⟨[(13, .str (shortB (((l.take k).getD j default).s.take 40))), (12, .ptr 1040 0), (2, .bool false), (10, .ptr 1032 0), (69, .sl 1016 0 k 4), (70, .i64 ((k : Nat) : Int)), (71, .i64 ((j : Nat) : Int))], [(1040, some ⟨.agg (ownR ((l.take k).getD j default)), 33, true⟩), (1016, some ⟨.agg (rowsC ownR (l.take k)), 33, true⟩), (1032, some ⟨.agg [.str (DI.mk (numB ((l.take k).getD j default).n 8 8 ++ (textB (((l.take k).getD j default).s.take 40) ++ (namesB (ownL ((l.take k).getD j default)) ++ (bigB (((l.take k).getD j default).s.take 40) ++ (boolB (decide (9 < ((l.take k).getD j default).n)) ++ (encR ((l.take k).drop (j + 1)))))))) 0).r, .err 161 ((DI.mk (numB ((l.take k).getD j default).n 8 8 ++ (textB (((l.take k).getD j default).s.take 40) ++ (namesB (ownL ((l.take k).getD j default)) ++ (bigB (((l.take k).getD j default).s.take 40) ++ (boolB (decide (9 < ((l.take k).getD j default).n)) ++ (encR ((l.take k).drop (j + 1)))))))) 0).e) (offE eo ((DI.mk (numB ((l.take k).getD j default).n 8 8 ++ (textB (((l.take k).getD j default).s.take 40) ++ (namesB (ownL ((l.take k).getD j default)) ++ (bigB (((l.take k).getD j default).s.take 40) ++ (boolB (decide (9 < ((l.take k).getD j default).n)) ++ (encR ((l.take k).drop (j + 1)))))))) 0).e))], 82, true⟩), (3, some ⟨.agg [.err 161 (2) (offE eo (2))], errT, false⟩), (0, some ⟨.agg [.err 161 (4) (offE eo (4))], errT, false⟩), (1, some ⟨.agg [.err 161 (3) (offE eo (3))], errT, false⟩)], 1048⟩) (StLe.mk [(1040, 1040), (1016, 1016), (1032, 1032)] rfl rfl ⟨⟨_, rfl, by (simp only [AV.ren]; rw [← hsq]), rfl⟩, ⟨_, rfl, by rfl, rfl⟩, ⟨_, rfl, by rfl, rfl⟩, ⟨_, rfl, by rfl, rfl⟩, ⟨_, rfl, by rfl, rfl⟩, ⟨_, rfl, by rfl, rfl⟩, ⟨_, rfl, by rfl, rfl⟩, trivial⟩ ⟨⟨_, _, rfl, rfl, rfl, rfl, id, rfl⟩, ⟨_, _, rfl, rfl, offC_ren _ 0 (rowsC_flat (f := ownR) (fun _ => rfl) (l.take k)), rfl, id, offC_nm _ 0 (rowsC_flat (f := ownR) (fun _ => rfl) (l.take k))⟩, ⟨_, _, rfl, rfl, by (simp only [AV.ren, AV.renL]; rw [hED]; first | done | rfl), rfl, id, rfl⟩, ⟨_, _, rfl, rfl, rfl, rfl, (fun h => by cases h), rfl⟩, ⟨_, _, rfl, rfl, rfl, rfl, (fun h => by cases h), rfl⟩, ⟨_, _, rfl, rfl, rfl, rfl, (fun h => by cases h), rfl⟩, trivial⟩) ?_
     show Ev _ _ _ _ _
     refine .seq ?_
     refine .drawnF [[], [0], [], [2], [0, 1, 2, 3], [0, 1, 2, 3, 4], [0, 1, 2, 3, 4, 5], [0, 1, 2, 3, 4, 5, 6], [0, 1, 2, 3, 4, 5], [0, 1, 2, 3, 4, 5, 8], [0, 1, 2, 3, 4, 5, 6, 7, 8, 9], [0, 1, 2, 3, 4, 5, 6, 7, 8, 9, 10], [0, 1, 2, 3, 4, 5, 6, 7, 8, 9, 10, 11], [0, 1, 2, 3, 4, 5, 6, 7, 8, 9, 10, 11, 12], [0, 1, 2, 3, 4, 5, 6, 7, 8, 9, 10, 11, 12, 13], [0, 1, 2, 3, 4, 5, 6, 7, 8, 9, 10, 11, 12], [0, 1, 2, 3, 4, 5, 6, 7, 8, 9, 10, 11, 12, 15], [0, 1, 2, 3, 4, 5, 6, 7, 8, 9, 10, 11, 12, 13, 14, 15, 16], [0, 1, 2, 3, 4, 5, 6, 7, 8, 9, 10, 11, 12, 13, 14, 15, 16, 17], [0, 1, 2, 3, 4, 5, 6, 7, 8, 9, 10, 11, 12, 13, 14, 15, 16, 17, 18], [0, 1, 2, 3, 4, 5, 6, 7, 8, 9, 10, 11, 12, 13, 14, 15, 16, 17, 18, 19], [0, 1, 2, 3, 4, 5, 6, 7, 8, 9, 10, 11, 12, 13, 14, 15, 16, 17, 18, 19, 20], [0, 1, 2, 3, 4, 5, 6, 7, 8, 9, 10, 11, 12, 13, 14, 15, 16, 17, 18, 19, 20, 21], [0, 1, 2, 3, 4, 5, 6, 7, 8, 9, 10, 11, 12, 13, 14, 15, 16, 17, 18, 19, 20], [0, 1, 2, 3, 4, 5, 6, 7, 8, 9, 10, 11, 12, 13, 14, 15, 16, 17, 18, 19, 20, 21, 22, 23], [0, 1, 2, 3, 4, 5, 6, 7, 8, 9, 10, 11, 12, 13, 14, 15, 16, 17, 18, 19, 20, 21, 22, 23, 24], [0, 1, 2, 3, 4, 5, 6, 7, 8, 9, 10, 11, 12, 13, 14, 15, 16, 17, 18, 19, 20, 21, 22, 23, 24, 25], [0, 1, 2, 3, 4, 5, 6, 7, 8, 9, 10, 11, 12, 13, 14, 15, 16, 17, 18, 19, 20, 21, 22, 23, 24, 25, 26], [0, 1, 2, 3, 4, 5, 6, 7, 8, 9, 10, 11, 12, 13, 14, 15, 16, 17, 18, 19, 20, 21, 22, 23, 24, 25, 26, 27], [0, 1, 2, 3, 4, 5, 6, 7, 8, 9, 10, 11, 12, 13, 14, 15, 16, 17, 18, 19, 20, 21, 22, 23, 24, 25, 26], [0, 1, 2, 3, 4, 5, 6, 7, 8, 9, 10, 11, 12, 13, 14, 15, 16, 17, 18, 19, 20, 21, 22, 23, 24, 25, 26, 29], [0, 1, 2, 3, 4, 5, 6, 7, 8, 9, 10, 11, 12, 13, 14, 15, 16, 17, 18, 19, 20, 21, 22, 23, 24, 25, 26, 29, 30], [0, 1, 2, 3, 4, 5, 6, 7, 8, 9, 10, 11, 12, 13, 14, 15, 16, 17, 18, 19, 20, 21, 22, 23, 24, 25, 26, 27, 28, 29, 30, 31], [0, 1, 2, 3, 4, 5, 6, 7, 8, 9, 10, 11, 12, 13, 14, 15, 16, 17, 18, 19, 20, 21, 22, 23, 24, 25, 26, 27, 28, 29, 30, 31, 32]] [1, 3, 7, 9, 14, 16, 17, 22, 28, 30] [] [(1, ([3, 0, 1], [1032])), (3, ([1040], [])), (7, ([3, 0, 1], [1032])), (9, ([1040], [])), (14, ([3, 0, 1], [1032])), (16, ([1040], [])), (17, ([], [])), (22, ([3, 0, 1], [1032])), (28, ([3, 0, 1], [1032])), (30, ([1040], []))] (by kernel_rfl) (by kernel_rfl) rfl ?_
     show DK _ [0, 1, 2, 3, 4, 5, 6, 7, 8, 9, 10, 11, 12, 13, 14, 15, 16, 17, 18, 19, 20, 21, 22, 23, 24, 25, 26, 27, 28, 29, 30, 31, 32, 33] _ _ _
     refine .q rfl (op_move rfl) trivial ?_
     refine .a rfl (op_call (U := [(1032, some ⟨.agg [.str (DI.mk (textB (((l.take k).getD j default).s.take 40) ++ (namesB (ownL ((l.take k).getD j default)) ++ (bigB (((l.take k).getD j default).s.take 40) ++ (boolB (decide (9 < ((l.take k).getD j default).n)) ++ (encR ((l.take k).drop (j + 1))))))) 0).r, .err 161 ((DI.mk (textB (((l.take k).getD j default).s.take 40) ++ (namesB (ownL ((l.take k).getD j default)) ++ (bigB (((l.take k).getD j default).s.take 40) ++ (boolB (decide (9 < ((l.take k).getD j default).n)) ++ (encR ((l.take k).drop (j + 1))))))) 0).e) (offE eo ((DI.mk (textB (((l.take k).getD j default).s.take 40) ++ (namesB (ownL ((l.take k).getD j default)) ++ (bigB (((l.take k).getD j default).s.take 40) ++ (boolB (decide (9 < ((l.take k).getD j default).n)) ++ (encR ((l.take k).drop (j + 1))))))) 0).e))], 82, true⟩)]) [(500, 1032)] [] (u64_app ((l.take k).getD j default).n (textB (((l.take k).getD j default).s.take 40) ++ (namesB (ownL ((l.take k).getD j default)) ++ (bigB (((l.take k).getD j default).s.take 40) ++ (boolB (decide (9 < ((l.take k).getD j default).n)) ++ (encR ((l.take k).drop (j + 1))))))) eo) Tryd.func24 (by kernel_rfl) rfl rfl rfl (⟨⟨_, rfl, rfl, rfl⟩, trivial⟩) (⟨⟨_, _, rfl, rfl, rfl, rfl, id, rfl⟩, ⟨_, _, rfl, rfl, rfl, rfl, (fun h => by cases h), rfl⟩, trivial⟩) (⟨⟨500, _, rfl, rfl, rfl, rfl, .inr ⟨rfl, _, rfl, rfl⟩⟩, trivial⟩) (⟨(fun _ => ⟨1032, _, rfl, rfl⟩), (fun h => by cases h), trivial⟩) rfl) trivial rfl rfl ?_
     refine .q rfl (op_fieldAddr (m := 0) Tryd.underlying33 rfl (by kernel_rfl) rfl) trivial ?_
     refine .as (.ptr 1040 1) rfl ?_
     refine .q rfl (op_load Tryd.underlying30 rfl rfl rfl rfl (by show 1 < 4; decide)) trivial ?_
     refine .q rfl (op_bin64 rfl rfl rfl) trivial ?_
     refine .q rfl (op_move rfl) trivial ?_
     refine .know (b' := false) (bne_self_eq_false _) ?_
     refine .q rfl (op_move rfl) ⟨_, rfl, rfl⟩ ?_
     refine .a rfl (op_call (U := [(1032, some ⟨.agg [.str (DI.mk (namesB (ownL ((l.take k).getD j default)) ++ (bigB (((l.take k).getD j default).s.take 40) ++ (boolB (decide (9 < ((l.take k).getD j default).n)) ++ (encR ((l.take k).drop (j + 1)))))) 0).r, .err 161 ((DI.mk (namesB (ownL ((l.take k).getD j default)) ++ (bigB (((l.take k).getD j default).s.take 40) ++ (boolB (decide (9 < ((l.take k).getD j default).n)) ++ (encR ((l.take k).drop (j + 1)))))) 0).e) (offE eo ((DI.mk (namesB (ownL ((l.take k).getD j default)) ++ (bigB (((l.take k).getD j default).s.take 40) ++ (boolB (decide (9 < ((l.take k).getD j default).n)) ++ (encR ((l.take k).drop (j + 1)))))) 0).e))], 82, true⟩)]) [(500, 1032)] [] (text_app (((l.take k).getD j default).s.take 40) (by omega) (namesB (ownL ((l.take k).getD j default)) ++ (bigB (((l.take k).getD j default).s.take 40) ++ (boolB (decide (9 < ((l.take k).getD j default).n)) ++ (encR ((l.take k).drop (j + 1)))))) eo) Tryd.func25 (by kernel_rfl) rfl rfl rfl (⟨⟨_, rfl, rfl, rfl⟩, ⟨_, rfl, rfl, rfl⟩, trivial⟩) (⟨⟨_, _, rfl, rfl, rfl, rfl, id, rfl⟩, ⟨_, _, rfl, rfl, rfl, rfl, (fun h => by cases h), rfl⟩, ⟨_, _, rfl, rfl, rfl, rfl, (fun h => by cases h), rfl⟩, trivial⟩) (⟨⟨500, _, rfl, rfl, rfl, rfl, .inr ⟨rfl, _, rfl, rfl⟩⟩, trivial⟩) (⟨(fun _ => ⟨1032, _, rfl, rfl⟩), (fun h => by cases h), (fun h => by cases h), trivial⟩) rfl) ⟨_, rfl, rfl⟩ rfl rfl ?_
     refine .q rfl (op_fieldAddr (m := 0) Tryd.underlying33 rfl (by kernel_rfl) rfl) ⟨_, rfl, rfl⟩ ?_
     refine .as (.ptr 1040 2) rfl ?_
     refine .q rfl (op_load Tryd.underlying9 rfl rfl rfl rfl (by show 2 < 4; decide)) ⟨_, rfl, rfl⟩ ?_
     refine .q rfl (op_eqS rfl rfl rfl) ⟨_, rfl, rfl⟩ ?_
     refine .q rfl (op_pick_false rfl rfl rfl) trivial ?_
     refine .q rfl (op_move rfl) trivial ?_
     refine .know (b' := false) (bne_self_eq_false _) ?_
     refine .q rfl (op_move rfl) ⟨_, rfl, rfl⟩ ?_
     refine .a rfl (op_call (U := [(1032, some ⟨.agg [.str (DI.mk (bigB (((l.take k).getD j default).s.take 40) ++ (boolB (decide (9 < ((l.take k).getD j default).n)) ++ (encR ((l.take k).drop (j + 1))))) 0).r, .err 161 ((DI.mk (bigB (((l.take k).getD j default).s.take 40) ++ (boolB (decide (9 < ((l.take k).getD j default).n)) ++ (encR ((l.take k).drop (j + 1))))) 0).e) (offE eo ((DI.mk (bigB (((l.take k).getD j default).s.take 40) ++ (boolB (decide (9 < ((l.take k).getD j default).n)) ++ (encR ((l.take k).drop (j + 1))))) 0).e))], 82, true⟩)]) [(500, 1032)] [] (names_app (ownL ((l.take k).getD j default)) (ownL_ok _) (by omega) (bigB (((l.take k).getD j default).s.take 40) ++ (boolB (decide (9 < ((l.take k).getD j default).n)) ++ (encR ((l.take k).drop (j + 1))))) (by simp only [List.length_append, big_len, length_boolB]; omega) eo) Tryd.func27 (by kernel_rfl) rfl rfl rfl (⟨⟨_, rfl, rfl, rfl⟩, trivial⟩) (⟨⟨_, _, rfl, rfl, rfl, rfl, id, rfl⟩, ⟨_, _, rfl, rfl, rfl, rfl, (fun h => by cases h), rfl⟩, ⟨_, _, rfl, rfl, rfl, rfl, (fun h => by cases h), rfl⟩, ⟨_, _, rfl, rfl, rfl, rfl, (fun h => by cases h), rfl⟩, trivial⟩) (⟨⟨500, _, rfl, rfl, rfl, rfl, .inr ⟨rfl, _, rfl, rfl⟩⟩, trivial⟩) (⟨(fun _ => ⟨1032, _, rfl, rfl⟩), (fun h => by cases h), (fun h => by cases h), (fun h => by cases h), trivial⟩) rfl) ⟨_, rfl, rfl⟩ rfl rfl ?_
     refine .q rfl (op_fieldAddr (m := 0) Tryd.underlying33 rfl (by kernel_rfl) rfl) ⟨_, rfl, rfl⟩ ?_
     refine .as (.ptr 1040 3) rfl ?_
     refine .q rfl (op_load Tryd.underlying31 rfl rfl rfl rfl (by show 3 < 4; decide)) ⟨_, rfl, rfl⟩ ?_
     refine .q rfl (op_call (U := []) [] [] (same_true (ownL ((l.take k).getD j default)) (by omega)) Tryd.func26 (by kernel_rfl) rfl rfl rfl (⟨⟨_, rfl, rfl, rfl⟩, ⟨_, rfl, rfl, rfl⟩, trivial⟩) (trivial) (trivial) (trivial) rfl) ⟨_, rfl, rfl⟩ ?_
     refine .q rfl (op_notB rfl) ⟨_, rfl, rfl⟩ ?_
     refine .q rfl (op_pick_false rfl rfl rfl) trivial ?_
     refine .q rfl (op_move rfl) trivial ?_
     refine .know (b' := false) (rfl) ?_
     refine .q rfl (op_move rfl) ⟨_, rfl, rfl⟩ ?_
     refine .a rfl (op_call (U := [(1032, some ⟨.agg [.str (DI.mk (boolB (decide (9 < ((l.take k).getD j default).n)) ++ (encR ((l.take k).drop (j + 1)))) 0).r, .err 161 ((DI.mk (boolB (decide (9 < ((l.take k).getD j default).n)) ++ (encR ((l.take k).drop (j + 1)))) 0).e) (offE eo ((DI.mk (boolB (decide (9 < ((l.take k).getD j default).n)) ++ (encR ((l.take k).drop (j + 1)))) 0).e))], 82, true⟩)]) [(500, 1032)] [] (big_app (((l.take k).getD j default).s.take 40) (by omega) (boolB (decide (9 < ((l.take k).getD j default).n)) ++ (encR ((l.take k).drop (j + 1)))) (by simp only [List.length_append, length_boolB]; omega) eo) Tryd.func28 (by kernel_rfl) rfl rfl rfl (⟨⟨_, rfl, rfl, rfl⟩, ⟨_, rfl, rfl, rfl⟩, trivial⟩) (⟨⟨_, _, rfl, rfl, rfl, rfl, id, rfl⟩, ⟨_, _, rfl, rfl, rfl, rfl, (fun h => by cases h), rfl⟩, ⟨_, _, rfl, rfl, rfl, rfl, (fun h => by cases h), rfl⟩, ⟨_, _, rfl, rfl, rfl, rfl, (fun h => by cases h), rfl⟩, trivial⟩) (⟨⟨500, _, rfl, rfl, rfl, rfl, .inr ⟨rfl, _, rfl, rfl⟩⟩, trivial⟩) (⟨(fun _ => ⟨1032, _, rfl, rfl⟩), (fun h => by cases h), (fun h => by cases h), (fun h => by cases h), trivial⟩) rfl) ⟨_, rfl, rfl⟩ rfl rfl ?_
     refine .q rfl (op_move rfl) ⟨_, rfl, rfl⟩ ?_
     refine .q rfl (op_eqS rfl rfl rfl) ⟨_, rfl, rfl⟩ ?_
     refine .q rfl (op_pick_false rfl rfl rfl) trivial ?_
     refine .q rfl (op_move rfl) trivial ?_
     refine .know (b' := false) (bne_self_eq_false _) ?_
     refine .q rfl (op_move rfl) ⟨_, rfl, rfl⟩ ?_
     refine .a rfl (op_call (U := [(1032, some ⟨.agg [.str (DI.mk (encR ((l.take k).drop (j + 1))) 0).r, .err 161 ((DI.mk (encR ((l.take k).drop (j + 1))) 0).e) (offE eo ((DI.mk (encR ((l.take k).drop (j + 1))) 0).e))], 82, true⟩)]) [(500, 1032)] [] (bool_app (decide (9 < ((l.take k).getD j default).n)) (encR ((l.take k).drop (j + 1))) eo) Tryd.func29 (by kernel_rfl) rfl rfl rfl (⟨⟨_, rfl, rfl, rfl⟩, trivial⟩) (⟨⟨_, _, rfl, rfl, rfl, rfl, id, rfl⟩, ⟨_, _, rfl, rfl, rfl, rfl, (fun h => by cases h), rfl⟩, trivial⟩) (⟨⟨500, _, rfl, rfl, rfl, rfl, .inr ⟨rfl, _, rfl, rfl⟩⟩, trivial⟩) (⟨(fun _ => ⟨1032, _, rfl, rfl⟩), (fun h => by cases h), trivial⟩) rfl) ⟨_, rfl, rfl⟩ rfl rfl ?_
     refine .q rfl (op_fieldAddr (m := 0) Tryd.underlying33 rfl (by kernel_rfl) rfl) ⟨_, rfl, rfl⟩ ?_
     refine .as (.ptr 1040 1) rfl ?_
     refine .q rfl (op_load Tryd.underlying30 rfl rfl rfl rfl (by show 1 < 4; decide)) ⟨_, rfl, rfl⟩ ?_
     refine .q rfl (op_bin64 rfl rfl rfl) ⟨_, rfl, rfl⟩ ?_
     refine .as (.bool (decide (9 < ((l.take k).getD j default).n))) rfl ?_
     refine .q rfl (op_eqB Tryd.underlying4 rfl rfl rfl) ⟨_, rfl, rfl⟩ ?_
     refine .q rfl (op_pick_false rfl rfl rfl) trivial ?_
     refine .nil ?_
     show Ev _ _ _ _ _
     refine .cond_false rfl (bne_self_eq_false _) ?_
     refine .skip ?_
     show Ev _ _ _ _ _
     refine .region ?_
     refine .q (op_addI rfl rfl ⟨by omega, by omega⟩) trivial rfl ?_
     refine .q (op_move rfl) trivial rfl ?_
     refine .nil ?_
     exact ⟨⟨j + 1, by omega⟩, by show k - (j + 1) < k - j; omega, StLe.mk [(1016, 1016), (1032, 1032)] rfl rfl ⟨⟨_, rfl, by rfl, rfl⟩, ⟨_, rfl, by rfl, rfl⟩, ⟨_, rfl, by rfl, rfl⟩, ⟨_, rfl, by rfl, rfl⟩, ⟨_, rfl, by rfl, rfl⟩, trivial⟩ ⟨⟨_, _, rfl, rfl, offC_ren _ 0 (rowsC_flat (f := ownR) (fun _ => rfl) (l.take k)), rfl, id, offC_nm _ 0 (rowsC_flat (f := ownR) (fun _ => rfl) (l.take k))⟩, ⟨_, _, rfl, rfl, rfl, rfl, id, rfl⟩, ⟨_, _, rfl, rfl, rfl, rfl, (fun h => by cases h), rfl⟩, ⟨_, _, rfl, rfl, rfl, rfl, (fun h => by cases h), rfl⟩, ⟨_, _, rfl, rfl, rfl, rfl, (fun h => by cases h), rfl⟩, trivial⟩⟩
   ·simp only [decide_eq_false_iff_not] at hc72
    refine .exit ?_
    show Ev _ _ _ _ _
    have hjk : j = k := by omega
    have hnil : encR ((l.take k).drop j) = [] := by rw [hjk, List.drop_of_length_le (Nat.le_of_eq htl)]; rfl
    refine Ev.weak (st2 := ⟨[(10, .ptr 1032 0)], [(1032, some ⟨.agg [.str (DI.mk [] 0).r, .err 161 ((DI.mk [] 0).e) (offE eo ((DI.mk [] 0).e))], 82, true⟩), (3, some ⟨.agg [.err 161 (2) (offE eo (2))], errT, false⟩), (0, some ⟨.agg [.err 161 (4) (offE eo (4))], errT, false⟩), (1, some ⟨.agg [.err 161 (3) (offE eo (3))], errT, false⟩)], 1040⟩) (StLe.mk [(1032, 1032)] rfl rfl ⟨⟨_, rfl, by rfl, rfl⟩, trivial⟩ ⟨⟨_, _, rfl, rfl, by (simp only [AV.ren, AV.renL]; rw [hnil]; first | done | rfl), rfl, id, rfl⟩, ⟨_, _, rfl, rfl, rfl, rfl, (fun h => by cases h), rfl⟩, ⟨_, _, rfl, rfl, rfl, rfl, (fun h => by cases h), rfl⟩, ⟨_, _, rfl, rfl, rfl, rfl, (fun h => by cases h), rfl⟩, trivial⟩) ?_
    show Ev _ _ _ _ _
    refine .seq ?_
    refine .region ?_
    refine .q (op_move rfl) trivial rfl ?_
    refine .a (op_call (U := [(1032, some ⟨.agg [.str (endD ⟨[], 0⟩).r, .err 161 ((endD ⟨[], 0⟩).e) (offE eo ((endD ⟨[], 0⟩).e))], 82, true⟩)]) [(500, 1032)] [] (end_ev ⟨[], 0⟩ eo) Tryd.func30 (by kernel_rfl) rfl rfl rfl (⟨⟨_, rfl, rfl, rfl⟩, trivial⟩) (⟨⟨_, _, rfl, rfl, rfl, rfl, id, rfl⟩, ⟨_, _, rfl, rfl, rfl, rfl, (fun h => by cases h), rfl⟩, trivial⟩) (⟨⟨500, _, rfl, rfl, rfl, rfl, .inr ⟨rfl, _, rfl, rfl⟩⟩, trivial⟩) (⟨(fun _ => ⟨1032, _, rfl, rfl⟩), (fun h => by cases h), trivial⟩) rfl) trivial rfl ?_
    refine .q (op_eqErrNil (e := (endD ⟨[], 0⟩).e) Tryd.underlying56 rfl rfl) trivial rfl ?_
    refine .q (op_move rfl) trivial rfl ?_
    refine .know (b' := true) (rfl) ?_
    refine .q (op_move rfl) ⟨_, rfl, rfl⟩ rfl ?_
    refine .q (op_call (U := []) [(500, 1032)] [] (left_ev (endD ⟨[], 0⟩) eo) Tryd.func31 (by kernel_rfl) rfl rfl rfl (⟨⟨_, rfl, rfl, rfl⟩, trivial⟩) (⟨⟨_, _, rfl, rfl, rfl, rfl, (fun h => by cases h), rfl⟩, trivial⟩) (trivial) (⟨(fun h => by cases h), trivial⟩) rfl) ⟨_, rfl, rfl⟩ rfl ?_
    refine .q (op_cmpI rfl rfl rfl) ⟨_, rfl, rfl⟩ rfl ?_
    refine .q (op_pick_true rfl rfl rfl) trivial rfl ?_
    refine .q (op_assign rfl) trivial rfl ?_
    refine .nil ?_
    show Ev _ _ _ _ _
    refine .ret ?_
    show RetOk _ _ _ _ _ _ _
    exact ret1v rfl (.inl rfl) rfl rfl trivial
end Go.Proofs.YtoigppbkfhfllaaDoor
