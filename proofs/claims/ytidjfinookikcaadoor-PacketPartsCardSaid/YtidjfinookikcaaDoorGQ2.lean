/-
  Texts of this claim.
-/
import Derived.Test.YtidjfinookikcaaDoorGQ1
import Derived.Test.YtidjfinookikcaaDoorGQI
namespace Go.Proofs.YtidjfinookikcaaDoor
open Go.RowKit
theorem Ev.monoQ {P : Program} {nt : Nat} {c : Code} {st : St} {post post' : Exit → St → Prop} (h : Ev P nt c st post) (hp : ∀ e st', post e st' → post' e st') : Ev P nt c st post' :=
  fun E S n0 a w hn hR => wp_mono (h E S n0 a w hn hR) fun _ _ _ ⟨st', E', h1, h2⟩ => ⟨st', E', ⟨h1.1, hp _ _ h1.2⟩, h2⟩
theorem Ev.cutp {P : Program} {nt : Nat} {c y : Code} {st : St} {post : Exit → St → Prop} {ι : Type} (S : ι → St) (h1 : Ev P nt c st (thenA (fun st' => ∃ i, StLe nt st' (S i)) post)) (h2 : ∀ i, Ev P nt y (S i) post) : Ev P nt c st (thenA (fun st' => Ev P nt y st' post) post) :=
  h1.monoQ fun e st' h => by
    cases e with
    | normal => obtain ⟨i, hi⟩ := h; exact Ev.weak hi (h2 i)
    | _ => exact h
/-- Where the law stands between two items. -/
structure PP (cnt : Nat) where
  i : Nat
  n : Nat
  ct : Nat
  b : Bool
  key : List UInt8
  lb : List UInt8
  hk : key.length = 32
  hi : i ≤ cnt
  h12 : i ≤ 12
  hn : n ≤ i
  hat : ct ≤ 300 * i
  hlb : lb.length ≤ 300 * i
/-- A packet, of which nothing else is known. -/
structure PK (b : Bool) (key : List UInt8) (n : UInt64) (s : List UInt8) where
  P : List UInt8
  h0 : 0 < P.length
  h2 : P.length ≤ 300
  hn : ∀ m, m < P.length → firstP b key n (P.take m) = ([], 0, 0)
  ho : firstP b key n P = (s, P.length, 0)
def PK.mk' (b : Bool) (key : List UInt8) (n : UInt64) (s : List UInt8) (h1 : 1 ≤ s.length) (h2 : s.length ≤ 100) : PK b key n s where
  P := packP b key n s
  h0 := by rw [length_packP]; omega
  h2 := by
    rw [length_packP]
    have h3 := (padP_le b s.length).2
    have h4 : tagP b ≤ 16 := by cases b <;> decide
    omega
  hn := fun m hm => first_part b key n s h1 (by omega) m hm
  ho := by
    have h9 := first_pack b key n s [] h1 (by omega)
    rw [List.append_nil] at h9
    exact h9
/-- Where the law stands in a packet. -/
structure PQ (P : List UInt8) (a0 L0 : Nat) where
  m : Nat
  ct : Nat
  q : Nat
  lb : List UInt8
  hm : m ≤ P.length
  hq : q + m = lb.length
  hd : lb.drop q = P.take m
  hat : ct ≤ a0 + m
  hl : lb.length ≤ L0 + m
set_option maxHeartbeats 2000000 in
set_option maxRecDepth 100000 in
theorem packetParts_ev (eo : Nat → Nat × Nat) (e : Nat) (o p : Nat) (l : List ItemV) (hl : l.length ≤ maxLen) (od : List Int) (hod : od.length ≤ maxLen) : Meets Tryd.prog 3 [.sl 450 o l.length 34, .sl 451 p od.length 1] [(3, some ⟨.aggI qsTab, e, false⟩), (0, some ⟨.agg [.err 131 (2) (offE eo (2))], errT, false⟩), (2, some ⟨.agg [.err 131 (3) (offE eo (3))], errT, false⟩), (1, some ⟨.agg [.err 131 (4) (offE eo (4))], errT, false⟩), (4, some ⟨.agg [.err 131 (5) (offE eo (5))], errT, false⟩), (450, some ⟨.agg (offC o (rowsC itemC l)), anyT, false⟩), (451, some ⟨.agg (offC p (od.map AV.i64)), anyT, false⟩)] (.bool true) [] := by
 have hl2 : l.length ≤ 9223372036854775807 := by unfold maxLen at hl; omega
 have hod2 : od.length ≤ 9223372036854775807 := by unfold maxLen at hod; omega
 refine meets_of_ev (nt := 125) Tryd.func3 rfl rfl (Nat.le_of_ble_eq_true rfl) ?_
 refine .seq ?_
 refine .region ?_
 refine .q (op_assign rfl) trivial rfl ?_
 refine .nil ?_
 show Ev _ _ _ _ _
 refine .seq ?_
 refine .seq ?_
 refine .region ?_
 refine .q (op_call (U := []) [] [] (awake12_ev e eo) Tryd.func4 (by kernel_rfl) rfl rfl rfl (trivial) (⟨⟨_, _, rfl, rfl, rfl, rfl, (fun h => by cases h), rfl⟩, ⟨_, _, rfl, rfl, rfl, rfl, (fun h => by cases h), rfl⟩, ⟨_, _, rfl, rfl, rfl, rfl, (fun h => by cases h), rfl⟩, ⟨_, _, rfl, rfl, rfl, rfl, (fun h => by cases h), rfl⟩, ⟨_, _, rfl, rfl, rfl, rfl, (fun h => by cases h), rfl⟩, trivial⟩) (trivial) (⟨(fun h => by cases h), (fun h => by cases h), (fun h => by cases h), (fun h => by cases h), (fun h => by cases h), trivial⟩) rfl) trivial rfl ?_
 refine .q (op_notB rfl) trivial rfl ?_
 refine .nil ?_
 show Ev _ _ _ _ _
 refine .cond_false rfl (rfl) ?_
 refine .skip ?_
 show Ev _ _ _ _ _
 refine .seq ?_
 refine .region ?_
 refine .a (op_allocRow zeroW rel_zeroW rfl) trivial rfl ?_
 refine .nil ?_
 show Ev _ _ _ _ _
 refine .seq ?_
 refine .region ?_
 refine .a (op_allocRow zeroR (rel_zeroR eo) rfl) trivial rfl ?_
 refine .nil ?_
 show Ev _ _ _ _ _
 refine .seq ?_
 refine .region ?_
 refine .q (op_assign rfl) trivial rfl ?_
 refine .nil ?_
 show Ev _ _ _ _ _
 refine .seq ?_
 refine .region ?_
 refine .q (op_assign rfl) trivial rfl ?_
 refine .nil ?_
 show Ev _ _ _ _ _
 refine .seq ?_
 refine .seq ?_
 refine .region ?_
 refine .q (op_assign rfl) trivial rfl ?_
 refine .nil ?_
 show Ev _ _ _ _ _
 refine .block ?_
 refine Ev.loop (ι := PP l.length ⊕ PP l.length) (fun q => match q with | .inl q => ⟨[(0, .sl 450 o l.length 34), (1, .sl 451 p od.length 1), (5, .ptr 1000 0), (6, .ptr 1008 0), (7, .i64 ((q.ct : Nat) : Int)), (8, .i64 ((q.n : Nat) : Int)), (9, .i64 ((q.i : Nat) : Int))], [(1000, some ⟨dC q.b q.key (ofI64 ((q.n : Nat) : Int)) [], 30, true⟩), (1008, some ⟨dC q.b q.key (ofI64 ((q.n : Nat) : Int)) [.nilsl, .err 131 (0) (offE eo (0))], 35, true⟩), (3, some ⟨.aggI qsTab, e, false⟩), (0, some ⟨.agg [.err 131 (2) (offE eo (2))], errT, false⟩), (2, some ⟨.agg [.err 131 (3) (offE eo (3))], errT, false⟩), (1, some ⟨.agg [.err 131 (4) (offE eo (4))], errT, false⟩), (4, some ⟨.agg [.err 131 (5) (offE eo (5))], errT, false⟩), (450, some ⟨.agg (offC o (rowsC itemC l)), anyT, false⟩), (451, some ⟨.agg (offC p (od.map AV.i64)), anyT, false⟩)], 1016⟩ | .inr q => ⟨[(0, .sl 450 o l.length 34), (1, .sl 451 p od.length 1), (5, .ptr 1000 0), (6, .ptr 1008 0), (7, .i64 ((q.ct : Nat) : Int)), (8, .i64 ((q.n : Nat) : Int)), (9, .i64 ((q.i : Nat) : Int))], [(1000, some ⟨dC q.b q.key (ofI64 ((q.n : Nat) : Int)) [], 30, true⟩), (1008, some ⟨dC q.b q.key (ofI64 ((q.n : Nat) : Int)) [.sl 1016 (q.lb.length) (0) 1, .err 131 (0) (offE eo (0))], 35, true⟩), (1016, some ⟨.aggB q.lb, 5, true⟩), (3, some ⟨.aggI qsTab, e, false⟩), (0, some ⟨.agg [.err 131 (2) (offE eo (2))], errT, false⟩), (2, some ⟨.agg [.err 131 (3) (offE eo (3))], errT, false⟩), (1, some ⟨.agg [.err 131 (4) (offE eo (4))], errT, false⟩), (4, some ⟨.agg [.err 131 (5) (offE eo (5))], errT, false⟩), (450, some ⟨.agg (offC o (rowsC itemC l)), anyT, false⟩), (451, some ⟨.agg (offC p (od.map AV.i64)), anyT, false⟩)], 1024⟩) (fun q => match q with | .inl q => 12 - q.i | .inr q => 12 - q.i) (.inl ⟨0, 0, 0, false, (List.replicate 32 (0 : UInt8)), [], rfl, Nat.zero_le _, Nat.zero_le _, Nat.le_refl _, Nat.zero_le _, Nat.zero_le _⟩) (StLe.mk [(1000, 1000), (1008, 1008)] rfl rfl ⟨⟨_, rfl, by first | rfl | (simp only [AV.ren]; congr 1; omega), rfl⟩, ⟨_, rfl, by first | rfl | (simp only [AV.ren]; congr 1; omega), rfl⟩, ⟨_, rfl, by first | rfl | (simp only [AV.ren]; congr 1; omega), rfl⟩, ⟨_, rfl, by first | rfl | (simp only [AV.ren]; congr 1; omega), rfl⟩, ⟨_, rfl, by first | rfl | (simp only [AV.ren]; congr 1; omega), rfl⟩, ⟨_, rfl, by first | rfl | (simp only [AV.ren]; congr 1; omega), rfl⟩, ⟨_, rfl, by first | rfl | (simp only [AV.ren]; congr 1; omega), rfl⟩, trivial⟩ ⟨⟨_, _, rfl, rfl, by first | rfl | exact congrArg (fun z => dC _ _ z _) (ofI64_succ _), rfl, id, rfl⟩, ⟨_, _, rfl, rfl, by first | rfl | exact congrArg (fun z => dC _ _ z _) (ofI64_succ _), rfl, id, rfl⟩, ⟨_, _, rfl, rfl, rfl, rfl, id, rfl⟩, ⟨_, _, rfl, rfl, rfl, rfl, id, rfl⟩, ⟨_, _, rfl, rfl, rfl, rfl, id, rfl⟩, ⟨_, _, rfl, rfl, rfl, rfl, id, rfl⟩, ⟨_, _, rfl, rfl, rfl, rfl, id, rfl⟩, ⟨_, _, rfl, rfl, offC_ren _ o (rowsC_flat item_flat l), rfl, id, offC_nm _ o (rowsC_flat item_flat l)⟩, ⟨_, _, rfl, rfl, offC_ren _ p (show (od.map AV.i64).all AV.flatV = true by rw [List.all_map]; exact List.all_eq_true.2 fun _ _ => rfl), rfl, id, offC_nm _ p (show (od.map AV.i64).all AV.flatV = true by rw [List.all_map]; exact List.all_eq_true.2 fun _ _ => rfl)⟩, trivial⟩) ?_
 rintro (⟨i, n, cu_, b, key, lb, hk, hi, h12, hn, hat, hlb⟩ | ⟨i, n, cu_, b, key, lb, hk, hi, h12, hn, hat, hlb⟩)
 ·show Ev _ _ _ ⟨[(0, .sl 450 o l.length 34), (1, .sl 451 p od.length 1), (5, .ptr 1000 0), (6, .ptr 1008 0), (7, .i64 ((cu_ : Nat) : Int)), (8, .i64 ((n : Nat) : Int)), (9, .i64 ((i : Nat) : Int))], [(1000, some ⟨dC b key (ofI64 ((n : Nat) : Int)) [], 30, true⟩), (1008, some ⟨dC b key (ofI64 ((n : Nat) : Int)) [.nilsl, .err 131 (0) (offE eo (0))], 35, true⟩), (3, some ⟨.aggI qsTab, e, false⟩), (0, some ⟨.agg [.err 131 (2) (offE eo (2))], errT, false⟩), (2, some ⟨.agg [.err 131 (3) (offE eo (3))], errT, false⟩), (1, some ⟨.agg [.err 131 (4) (offE eo (4))], errT, false⟩), (4, some ⟨.agg [.err 131 (5) (offE eo (5))], errT, false⟩), (450, some ⟨.agg (offC o (rowsC itemC l)), anyT, false⟩), (451, some ⟨.agg (offC p (od.map AV.i64)), anyT, false⟩)], 1016⟩ _
  refine .seq ?_
  refine .seq ?_
  refine .region ?_
  refine .q (op_move rfl) trivial rfl ?_
  refine .q (op_move rfl) trivial rfl ?_
  refine .q (op_len_sl Tryd.underlying22 rfl) trivial rfl ?_
  refine .q (op_cmpI rfl rfl rfl) trivial rfl ?_
  refine .q (op_move rfl) trivial rfl ?_
  refine .split (fun hg26 => ?_) (fun hg26 => ?_)
  ·simp only [decide_eq_true_eq] at hg26
   refine .q (op_move rfl) ⟨_, rfl, rfl⟩ rfl ?_
   refine .q (op_cmpI rfl rfl rfl) ⟨_, rfl, rfl⟩ rfl ?_
   refine .q (op_pick_true rfl rfl rfl) trivial rfl ?_
   refine .nil ?_
   show Ev _ _ _ _ _
   refine .cond rfl (fun hc29 => ?_) (fun hc29 => ?_)
   ·simp only [decide_eq_true_eq] at hc29
    refine .skip ?_
    show Ev _ _ _ _ _
    refine .seq ?_
    refine .block ?_
    refine .seq ?_
    refine .seq ?_
    refine .region ?_
    refine .q (op_move rfl) trivial rfl ?_
    refine .q (op_move rfl) trivial rfl ?_
    refine .q (op_indexAddr (z := 34) Tryd.underlying22 (by kernel_rfl) rfl rfl rfl (show i < l.length by omega)) trivial rfl ?_
    refine .q (op_fieldAddr (m := 0) Tryd.underlying37 rfl (by kernel_rfl) rfl) trivial rfl ?_
    refine .as (.ptr 450 (o + i * 34 + 0)) rfl ?_
    refine .q (op_load Tryd.underlying4 rfl rfl rfl (rows_at item_len (get_i default (show i < l.length by omega)) (k := 0) rfl) (item_lt (show i < l.length by omega) (by decide))) trivial rfl ?_
    refine .nil ?_
    show Ev _ _ _ _ _
    refine .cond rfl (fun hc36 => ?_) (fun hc36 => ?_)
    ·skip
     refine .seq ?_
     refine .region ?_
     refine .q (op_move rfl) trivial rfl ?_
     refine .q (op_move rfl) trivial rfl ?_
     refine .q (op_indexAddr (z := 34) Tryd.underlying22 (by kernel_rfl) rfl rfl rfl (show i < l.length by omega)) trivial rfl ?_
     refine .q (op_fieldAddr (m := 31) Tryd.underlying37 rfl (by kernel_rfl) rfl) trivial rfl ?_
     refine .as (.ptr 450 (o + i * 34 + 1)) rfl ?_
     refine .q (op_loadPart (m := 32) (r := .aggB (l.getD i default).key) (cs := (l.getD i default).key.map .u8) Tryd.underlying25 rfl (by kernel_rfl) rfl rfl rfl (by rw [List.length_map, (l.getD i default).hk]) (item_key (get_i default (show i < l.length by omega))).symm (by rw [offC_len, rowsC_len item_len]; omega)) trivial rfl ?_
     refine .a (op_call (U := [(1000, some ⟨dC true (l.getD i default).key (ofI64 ((n : Nat) : Int)) [], 30, true⟩)]) [(500, 1000)] [] (wseal_ev b key (l.getD i default).key (l.getD i default).hk (ofI64 ((n : Nat) : Int))) Tryd.func5 (by kernel_rfl) rfl rfl rfl (⟨⟨_, rfl, rfl, rfl⟩, ⟨_, rfl, rfl, rfl⟩, trivial⟩) (⟨⟨_, _, rfl, rfl, rfl, rfl, id, rfl⟩, trivial⟩) (⟨⟨500, _, rfl, rfl, rfl, rfl, .inr ⟨rfl, _, rfl, rfl⟩⟩, trivial⟩) (⟨(fun _ => ⟨1000, _, rfl, rfl⟩), trivial⟩) rfl) trivial rfl ?_
     refine .nil ?_
     show Ev _ _ _ _ _
     refine .seq ?_
     refine .region ?_
     refine .q (op_move rfl) trivial rfl ?_
     refine .q (op_move rfl) trivial rfl ?_
     refine .q (op_indexAddr (z := 34) Tryd.underlying22 (by kernel_rfl) rfl rfl rfl (show i < l.length by omega)) trivial rfl ?_
     refine .q (op_fieldAddr (m := 31) Tryd.underlying37 rfl (by kernel_rfl) rfl) trivial rfl ?_
     refine .as (.ptr 450 (o + i * 34 + 1)) rfl ?_
     refine .q (op_loadPart (m := 32) (r := .aggB (l.getD i default).key) (cs := (l.getD i default).key.map .u8) Tryd.underlying25 rfl (by kernel_rfl) rfl rfl rfl (by rw [List.length_map, (l.getD i default).hk]) (item_key (get_i default (show i < l.length by omega))).symm (by rw [offC_len, rowsC_len item_len]; omega)) trivial rfl ?_
     refine .a (op_call (U := [(1008, some ⟨dC true (l.getD i default).key (ofI64 ((n : Nat) : Int)) [.nilsl, .err 131 (0) (offE eo (0))], 35, true⟩)]) [(500, 1008)] [] (ropen_ev12 b key (l.getD i default).key (l.getD i default).hk (ofI64 ((n : Nat) : Int)) eo) Tryd.func6 (by kernel_rfl) rfl rfl rfl (⟨⟨_, rfl, rfl, rfl⟩, ⟨_, rfl, rfl, rfl⟩, trivial⟩) (⟨⟨_, _, rfl, rfl, rfl, rfl, id, rfl⟩, trivial⟩) (⟨⟨500, _, rfl, rfl, rfl, rfl, .inr ⟨rfl, _, rfl, rfl⟩⟩, trivial⟩) (⟨(fun _ => ⟨1008, _, rfl, rfl⟩), trivial⟩) rfl) trivial rfl ?_
     refine .nil ?_
     show Ev _ _ _ _ _
     refine .exit ?_
     show Ev _ _ _ _ _
     refine .region ?_
     refine .q (op_move rfl) trivial rfl ?_
     refine .q (op_addI rfl rfl ⟨by omega, by omega⟩) trivial rfl ?_
     refine .q (op_assign rfl) trivial rfl ?_
     refine .nil ?_
     exact ⟨.inl ⟨i + 1, n, cu_, true, (l.getD i default).key, lb, (l.getD i default).hk, by omega, by omega, by omega, by omega, by omega⟩, by show 12 - (i + 1) < 12 - i; omega, StLe.mk [(1000, 1000), (1008, 1008)] rfl rfl ⟨⟨_, rfl, by first | rfl | (simp only [AV.ren]; congr 1; omega), rfl⟩, ⟨_, rfl, by first | rfl | (simp only [AV.ren]; congr 1; omega), rfl⟩, ⟨_, rfl, by first | rfl | (simp only [AV.ren]; congr 1; omega), rfl⟩, ⟨_, rfl, by first | rfl | (simp only [AV.ren]; congr 1; omega), rfl⟩, ⟨_, rfl, by first | rfl | (simp only [AV.ren]; congr 1; omega), rfl⟩, ⟨_, rfl, by first | rfl | (simp only [AV.ren]; congr 1; omega), rfl⟩, ⟨_, rfl, by first | rfl | (simp only [AV.ren]; congr 1; omega), rfl⟩, trivial⟩ ⟨⟨_, _, rfl, rfl, by first | rfl | exact congrArg (fun z => dC _ _ z _) (ofI64_succ _), rfl, id, rfl⟩, ⟨_, _, rfl, rfl, by first | rfl | exact congrArg (fun z => dC _ _ z _) (ofI64_succ _), rfl, id, rfl⟩, ⟨_, _, rfl, rfl, rfl, rfl, id, rfl⟩, ⟨_, _, rfl, rfl, rfl, rfl, id, rfl⟩, ⟨_, _, rfl, rfl, rfl, rfl, id, rfl⟩, ⟨_, _, rfl, rfl, rfl, rfl, id, rfl⟩, ⟨_, _, rfl, rfl, rfl, rfl, id, rfl⟩, ⟨_, _, rfl, rfl, offC_ren _ o (rowsC_flat item_flat l), rfl, id, offC_nm _ o (rowsC_flat item_flat l)⟩, ⟨_, _, rfl, rfl, offC_ren _ p (show (od.map AV.i64).all AV.flatV = true by rw [List.all_map]; exact List.all_eq_true.2 fun _ _ => rfl), rfl, id, offC_nm _ p (show (od.map AV.i64).all AV.flatV = true by rw [List.all_map]; exact List.all_eq_true.2 fun _ _ => rfl)⟩, trivial⟩⟩
    ·skip
     refine .skip ?_
     show Ev _ _ _ _ _
     refine .seq ?_
     refine .region ?_
     refine .q (op_move rfl) trivial rfl ?_
     refine .q (op_move rfl) trivial rfl ?_
     refine .q (op_indexAddr (z := 34) Tryd.underlying22 (by kernel_rfl) rfl rfl rfl (show i < l.length by omega)) trivial rfl ?_
     refine .q (op_fieldAddr (m := 0) Tryd.underlying37 rfl (by kernel_rfl) rfl) trivial rfl ?_
     refine .as (.ptr 450 (o + i * 34 + 33)) rfl ?_
     refine .q (op_load Tryd.underlying9 rfl rfl rfl (rows_at item_len (get_i default (show i < l.length by omega)) (k := 33) rfl) (item_lt (show i < l.length by omega) (by decide))) trivial rfl ?_
     refine .q (op_call (U := []) [] [] (cut_ev (l.getD i default).s 100 (l.getD i default).hs (by decide)) Tryd.func7 (by kernel_rfl) rfl rfl rfl (⟨⟨_, rfl, rfl, rfl⟩, ⟨_, rfl, rfl, rfl⟩, trivial⟩) (trivial) (trivial) (trivial) rfl) trivial rfl ?_
     refine .q (op_assign rfl) trivial rfl ?_
     refine .nil ?_
     show Ev _ _ _ _ _
     refine .seq ?_
     refine Ev.cutp (ι := { s : List UInt8 // 1 ≤ s.length ∧ s.length ≤ 100 }) (fun q => ⟨[(0, .sl 450 o l.length 34), (1, .sl 451 p od.length 1), (5, .ptr 1000 0), (6, .ptr 1008 0), (7, .i64 ((cu_ : Nat) : Int)), (8, .i64 ((n : Nat) : Int)), (9, .i64 ((i : Nat) : Int)), (10, .str q.1)], [(1000, some ⟨dC b key (ofI64 ((n : Nat) : Int)) [], 30, true⟩), (1008, some ⟨dC b key (ofI64 ((n : Nat) : Int)) [.nilsl, .err 131 (0) (offE eo (0))], 35, true⟩), (3, some ⟨.aggI qsTab, e, false⟩), (0, some ⟨.agg [.err 131 (2) (offE eo (2))], errT, false⟩), (2, some ⟨.agg [.err 131 (3) (offE eo (3))], errT, false⟩), (1, some ⟨.agg [.err 131 (4) (offE eo (4))], errT, false⟩), (4, some ⟨.agg [.err 131 (5) (offE eo (5))], errT, false⟩), (450, some ⟨.agg (offC o (rowsC itemC l)), anyT, false⟩), (451, some ⟨.agg (offC p (od.map AV.i64)), anyT, false⟩)], 1016⟩) ?_ ?_
     ·refine .seq ?_
      refine .region ?_
      refine .q (op_move rfl) trivial rfl ?_
      refine .q (op_eqS rfl rfl rfl) trivial rfl ?_
      refine .nil ?_
      show Ev _ _ _ _ _
      refine .cond rfl (fun hc56 => ?_) (fun hc56 => ?_)
      ·skip
       refine .region ?_
       refine .q (op_assign rfl) trivial rfl ?_
       refine .nil ?_
       exact ⟨⟨[120], by decide, by decide⟩, StLe.mk [(1000, 1000), (1008, 1008)] rfl rfl ⟨⟨_, rfl, by first | rfl | (simp only [AV.ren]; congr 1; omega), rfl⟩, ⟨_, rfl, by first | rfl | (simp only [AV.ren]; congr 1; omega), rfl⟩, ⟨_, rfl, by first | rfl | (simp only [AV.ren]; congr 1; omega), rfl⟩, ⟨_, rfl, by first | rfl | (simp only [AV.ren]; congr 1; omega), rfl⟩, ⟨_, rfl, by first | rfl | (simp only [AV.ren]; congr 1; omega), rfl⟩, ⟨_, rfl, by first | rfl | (simp only [AV.ren]; congr 1; omega), rfl⟩, ⟨_, rfl, by first | rfl | (simp only [AV.ren]; congr 1; omega), rfl⟩, ⟨_, rfl, by first | rfl | (simp only [AV.ren]; congr 1; omega), rfl⟩, trivial⟩ ⟨⟨_, _, rfl, rfl, rfl, rfl, id, rfl⟩, ⟨_, _, rfl, rfl, rfl, rfl, id, rfl⟩, ⟨_, _, rfl, rfl, rfl, rfl, id, rfl⟩, ⟨_, _, rfl, rfl, rfl, rfl, id, rfl⟩, ⟨_, _, rfl, rfl, rfl, rfl, id, rfl⟩, ⟨_, _, rfl, rfl, rfl, rfl, id, rfl⟩, ⟨_, _, rfl, rfl, rfl, rfl, id, rfl⟩, ⟨_, _, rfl, rfl, offC_ren _ o (rowsC_flat item_flat l), rfl, id, offC_nm _ o (rowsC_flat item_flat l)⟩, ⟨_, _, rfl, rfl, offC_ren _ p (show (od.map AV.i64).all AV.flatV = true by rw [List.all_map]; exact List.all_eq_true.2 fun _ _ => rfl), rfl, id, offC_nm _ p (show (od.map AV.i64).all AV.flatV = true by rw [List.all_map]; exact List.all_eq_true.2 fun _ _ => rfl)⟩, trivial⟩⟩
      ·skip
       refine .skip ?_
       exact ⟨⟨(l.getD i default).s.take 100, by have h9 : (l.getD i default).s.take 100 ≠ [] := (fun h9 => by rw [h9] at hc56; cases hc56); exact List.length_pos_iff.2 h9, by rw [List.length_take]; omega⟩, StLe.mk [(1000, 1000), (1008, 1008)] rfl rfl ⟨⟨_, rfl, by first | rfl | (simp only [AV.ren]; congr 1; omega), rfl⟩, ⟨_, rfl, by first | rfl | (simp only [AV.ren]; congr 1; omega), rfl⟩, ⟨_, rfl, by first | rfl | (simp only [AV.ren]; congr 1; omega), rfl⟩, ⟨_, rfl, by first | rfl | (simp only [AV.ren]; congr 1; omega), rfl⟩, ⟨_, rfl, by first | rfl | (simp only [AV.ren]; congr 1; omega), rfl⟩, ⟨_, rfl, by first | rfl | (simp only [AV.ren]; congr 1; omega), rfl⟩, ⟨_, rfl, by first | rfl | (simp only [AV.ren]; congr 1; omega), rfl⟩, ⟨_, rfl, by first | rfl | (simp only [AV.ren]; congr 1; omega), rfl⟩, trivial⟩ ⟨⟨_, _, rfl, rfl, rfl, rfl, id, rfl⟩, ⟨_, _, rfl, rfl, rfl, rfl, id, rfl⟩, ⟨_, _, rfl, rfl, rfl, rfl, id, rfl⟩, ⟨_, _, rfl, rfl, rfl, rfl, id, rfl⟩, ⟨_, _, rfl, rfl, rfl, rfl, id, rfl⟩, ⟨_, _, rfl, rfl, rfl, rfl, id, rfl⟩, ⟨_, _, rfl, rfl, rfl, rfl, id, rfl⟩, ⟨_, _, rfl, rfl, offC_ren _ o (rowsC_flat item_flat l), rfl, id, offC_nm _ o (rowsC_flat item_flat l)⟩, ⟨_, _, rfl, rfl, offC_ren _ p (show (od.map AV.i64).all AV.flatV = true by rw [List.all_map]; exact List.all_eq_true.2 fun _ _ => rfl), rfl, id, offC_nm _ p (show (od.map AV.i64).all AV.flatV = true by rw [List.all_map]; exact List.all_eq_true.2 fun _ _ => rfl)⟩, trivial⟩⟩
     ·rintro ⟨s, hs1, hs2⟩
      dsimp only
      refine .seq ?_
      refine Ev.cutp (ι := PK b key (ofI64 ((n : Nat) : Int)) s) (fun q => ⟨[(0, .sl 450 o l.length 34), (1, .sl 451 p od.length 1), (5, .ptr 1000 0), (6, .ptr 1008 0), (7, .i64 ((cu_ : Nat) : Int)), (8, .i64 ((n : Nat) : Int)), (9, .i64 ((i : Nat) : Int)), (10, .str s), (11, .str q.P), (12, .err 131 (0) (offE eo (0)))], [(1000, some ⟨dC b key ((ofI64 ((n : Nat) : Int)) + 1) [], 30, true⟩), (1008, some ⟨dC b key (ofI64 ((n : Nat) : Int)) [.nilsl, .err 131 (0) (offE eo (0))], 35, true⟩), (3, some ⟨.aggI qsTab, e, false⟩), (0, some ⟨.agg [.err 131 (2) (offE eo (2))], errT, false⟩), (2, some ⟨.agg [.err 131 (3) (offE eo (3))], errT, false⟩), (1, some ⟨.agg [.err 131 (4) (offE eo (4))], errT, false⟩), (4, some ⟨.agg [.err 131 (5) (offE eo (5))], errT, false⟩), (450, some ⟨.agg (offC o (rowsC itemC l)), anyT, false⟩), (451, some ⟨.agg (offC p (od.map AV.i64)), anyT, false⟩)], 1016⟩) ?_ ?_
      ·refine .region ?_
       refine .q (op_move rfl) trivial rfl ?_
       refine .a (op_call (U := [(1000, some ⟨dC b key ((ofI64 ((n : Nat) : Int)) + 1) [], 30, true⟩)]) [(500, 1000)] [] (wpack_ev b e key hk (ofI64 ((n : Nat) : Int)) s hs1 (by omega) eo) Tryd.func8 (by kernel_rfl) rfl rfl rfl (⟨⟨_, rfl, rfl, rfl⟩, ⟨_, rfl, rfl, rfl⟩, trivial⟩) (⟨⟨_, _, rfl, rfl, rfl, rfl, id, rfl⟩, ⟨_, _, rfl, rfl, rfl, rfl, (fun h => by cases h), rfl⟩, trivial⟩) (⟨⟨500, _, rfl, rfl, rfl, rfl, .inr ⟨rfl, _, rfl, rfl⟩⟩, trivial⟩) (⟨(fun _ => ⟨1000, _, rfl, rfl⟩), (fun h => by cases h), trivial⟩) rfl) trivial rfl ?_
       refine .q (op_move rfl) trivial rfl ?_
       refine .q (op_extract rfl rfl) trivial rfl ?_
       refine .q (op_extract rfl rfl) trivial rfl ?_
       refine .q (op_assign rfl) trivial rfl ?_
       refine .q (op_assign rfl) trivial rfl ?_
       refine .nil ?_
       exact ⟨PK.mk' b key (ofI64 ((n : Nat) : Int)) s hs1 hs2, StLe.mk [(1000, 1000), (1008, 1008)] rfl rfl ⟨⟨_, rfl, by first | rfl | (simp only [AV.ren]; congr 1; omega), rfl⟩, ⟨_, rfl, by first | rfl | (simp only [AV.ren]; congr 1; omega), rfl⟩, ⟨_, rfl, by first | rfl | (simp only [AV.ren]; congr 1; omega), rfl⟩, ⟨_, rfl, by first | rfl | (simp only [AV.ren]; congr 1; omega), rfl⟩, ⟨_, rfl, by first | rfl | (simp only [AV.ren]; congr 1; omega), rfl⟩, ⟨_, rfl, by first | rfl | (simp only [AV.ren]; congr 1; omega), rfl⟩, ⟨_, rfl, by first | rfl | (simp only [AV.ren]; congr 1; omega), rfl⟩, ⟨_, rfl, by first | rfl | (simp only [AV.ren]; congr 1; omega), rfl⟩, ⟨_, rfl, by first | rfl | (simp only [AV.ren]; congr 1; omega), rfl⟩, ⟨_, rfl, by first | rfl | (simp only [AV.ren]; congr 1; omega), rfl⟩, trivial⟩ ⟨⟨_, _, rfl, rfl, rfl, rfl, id, rfl⟩, ⟨_, _, rfl, rfl, rfl, rfl, id, rfl⟩, ⟨_, _, rfl, rfl, rfl, rfl, id, rfl⟩, ⟨_, _, rfl, rfl, rfl, rfl, id, rfl⟩, ⟨_, _, rfl, rfl, rfl, rfl, id, rfl⟩, ⟨_, _, rfl, rfl, rfl, rfl, id, rfl⟩, ⟨_, _, rfl, rfl, rfl, rfl, id, rfl⟩, ⟨_, _, rfl, rfl, offC_ren _ o (rowsC_flat item_flat l), rfl, id, offC_nm _ o (rowsC_flat item_flat l)⟩, ⟨_, _, rfl, rfl, offC_ren _ p (show (od.map AV.i64).all AV.flatV = true by rw [List.all_map]; exact List.all_eq_true.2 fun _ _ => rfl), rfl, id, offC_nm _ p (show (od.map AV.i64).all AV.flatV = true by rw [List.all_map]; exact List.all_eq_true.2 fun _ _ => rfl)⟩, trivial⟩⟩
      ·rintro ⟨P, hP0, hP2, hPn, hPo⟩
       dsimp only
       refine .seq ?_
       refine .seq ?_
       refine .region ?_
       refine .q (op_move rfl) trivial rfl ?_
       refine .q (op_eqErrNil (e := 0) Tryd.underlying33 rfl rfl) trivial rfl ?_
       refine .nil ?_
       show Ev _ _ _ _ _
       refine .cond_false rfl (rfl) ?_
       refine .skip ?_
       show Ev _ _ _ _ _
       refine .seq ?_
       refine .block ?_
       refine Ev.loop (ι := Unit ⊕ PQ P cu_ lb.length) (fun q => match q with | .inl _ => ⟨[(0, .sl 450 o l.length 34), (1, .sl 451 p od.length 1), (5, .ptr 1000 0), (6, .ptr 1008 0), (7, .i64 ((cu_ : Nat) : Int)), (8, .i64 ((n : Nat) : Int)), (9, .i64 ((i : Nat) : Int)), (10, .str s), (11, .str P), (12, .err 131 (0) (offE eo (0)))], [(1000, some ⟨dC b key ((ofI64 ((n : Nat) : Int)) + 1) [], 30, true⟩), (1008, some ⟨dC b key (ofI64 ((n : Nat) : Int)) [.nilsl, .err 131 (0) (offE eo (0))], 35, true⟩), (3, some ⟨.aggI qsTab, e, false⟩), (0, some ⟨.agg [.err 131 (2) (offE eo (2))], errT, false⟩), (2, some ⟨.agg [.err 131 (3) (offE eo (3))], errT, false⟩), (1, some ⟨.agg [.err 131 (4) (offE eo (4))], errT, false⟩), (4, some ⟨.agg [.err 131 (5) (offE eo (5))], errT, false⟩), (450, some ⟨.agg (offC o (rowsC itemC l)), anyT, false⟩), (451, some ⟨.agg (offC p (od.map AV.i64)), anyT, false⟩)], 1016⟩ | .inr q => ⟨[(0, .sl 450 o l.length 34), (1, .sl 451 p od.length 1), (5, .ptr 1000 0), (6, .ptr 1008 0), (7, .i64 ((q.ct : Nat) : Int)), (8, .i64 ((n : Nat) : Int)), (9, .i64 ((i : Nat) : Int)), (10, .str s), (11, .str (P.drop q.m)), (12, .err 131 (0) (offE eo (0)))], [(1000, some ⟨dC b key ((ofI64 ((n : Nat) : Int)) + 1) [], 30, true⟩), (1008, some ⟨dC b key (ofI64 ((n : Nat) : Int)) [.sl 1016 (q.q) (q.m) 1, .err 131 (0) (offE eo (0))], 35, true⟩), (1016, some ⟨.aggB q.lb, 5, true⟩), (3, some ⟨.aggI qsTab, e, false⟩), (0, some ⟨.agg [.err 131 (2) (offE eo (2))], errT, false⟩), (2, some ⟨.agg [.err 131 (3) (offE eo (3))], errT, false⟩), (1, some ⟨.agg [.err 131 (4) (offE eo (4))], errT, false⟩), (4, some ⟨.agg [.err 131 (5) (offE eo (5))], errT, false⟩), (450, some ⟨.agg (offC o (rowsC itemC l)), anyT, false⟩), (451, some ⟨.agg (offC p (od.map AV.i64)), anyT, false⟩)], 1024⟩) (fun q => match q with | .inl _ => P.length + 1 | .inr q => P.length - q.m) (.inl ()) (StLe.mk [(1000, 1000), (1008, 1008)] rfl rfl ⟨⟨_, rfl, by first | rfl | (simp only [AV.ren]; congr 1; omega), rfl⟩, ⟨_, rfl, by first | rfl | (simp only [AV.ren]; congr 1; omega), rfl⟩, ⟨_, rfl, by first | rfl | (simp only [AV.ren]; congr 1; omega), rfl⟩, ⟨_, rfl, by first | rfl | (simp only [AV.ren]; congr 1; omega), rfl⟩, ⟨_, rfl, by first | rfl | (simp only [AV.ren]; congr 1; omega), rfl⟩, ⟨_, rfl, by first | rfl | (simp only [AV.ren]; congr 1; omega), rfl⟩, ⟨_, rfl, by first | rfl | (simp only [AV.ren]; congr 1; omega), rfl⟩, ⟨_, rfl, by first | rfl | (simp only [AV.ren]; congr 1; omega), rfl⟩, ⟨_, rfl, by first | rfl | (simp only [AV.ren]; congr 1; omega), rfl⟩, ⟨_, rfl, by first | rfl | (simp only [AV.ren]; congr 1; omega), rfl⟩, trivial⟩ ⟨⟨_, _, rfl, rfl, rfl, rfl, id, rfl⟩, ⟨_, _, rfl, rfl, rfl, rfl, id, rfl⟩, ⟨_, _, rfl, rfl, rfl, rfl, id, rfl⟩, ⟨_, _, rfl, rfl, rfl, rfl, id, rfl⟩, ⟨_, _, rfl, rfl, rfl, rfl, id, rfl⟩, ⟨_, _, rfl, rfl, rfl, rfl, id, rfl⟩, ⟨_, _, rfl, rfl, rfl, rfl, id, rfl⟩, ⟨_, _, rfl, rfl, offC_ren _ o (rowsC_flat item_flat l), rfl, id, offC_nm _ o (rowsC_flat item_flat l)⟩, ⟨_, _, rfl, rfl, offC_ren _ p (show (od.map AV.i64).all AV.flatV = true by rw [List.all_map]; exact List.all_eq_true.2 fun _ _ => rfl), rfl, id, offC_nm _ p (show (od.map AV.i64).all AV.flatV = true by rw [List.all_map]; exact List.all_eq_true.2 fun _ _ => rfl)⟩, trivial⟩) ?_
       rintro (_ | ⟨m, ct2, q, lb2, hm, hq, hd, hat2, hlb2⟩)
       ·show Ev _ _ _ ⟨[(0, .sl 450 o l.length 34), (1, .sl 451 p od.length 1), (5, .ptr 1000 0), (6, .ptr 1008 0), (7, .i64 ((cu_ : Nat) : Int)), (8, .i64 ((n : Nat) : Int)), (9, .i64 ((i : Nat) : Int)), (10, .str s), (11, .str P), (12, .err 131 (0) (offE eo (0)))], [(1000, some ⟨dC b key ((ofI64 ((n : Nat) : Int)) + 1) [], 30, true⟩), (1008, some ⟨dC b key (ofI64 ((n : Nat) : Int)) [.nilsl, .err 131 (0) (offE eo (0))], 35, true⟩), (3, some ⟨.aggI qsTab, e, false⟩), (0, some ⟨.agg [.err 131 (2) (offE eo (2))], errT, false⟩), (2, some ⟨.agg [.err 131 (3) (offE eo (3))], errT, false⟩), (1, some ⟨.agg [.err 131 (4) (offE eo (4))], errT, false⟩), (4, some ⟨.agg [.err 131 (5) (offE eo (5))], errT, false⟩), (450, some ⟨.agg (offC o (rowsC itemC l)), anyT, false⟩), (451, some ⟨.agg (offC p (od.map AV.i64)), anyT, false⟩)], 1016⟩ _
        refine .seq ?_
        refine .seq ?_
        refine .region ?_
        refine .q (op_move rfl) trivial rfl ?_
        refine .q (op_eqS rfl rfl rfl) trivial rfl ?_
        refine .nil ?_
        show Ev _ _ _ _ _
        refine .cond_true rfl (bne_iff_ne.2 (fun h9 => by rw [h9] at hP0; exact absurd hP0 (by decide))) ?_
        refine .skip ?_
        show Ev _ _ _ _ _
        refine .block ?_
        refine .seq ?_
        refine .seq ?_
        refine .region ?_
        refine .q (op_call (U := []) [(500, 1008)] [] (next_nil b key (ofI64 ((n : Nat) : Int)) eo) Tryd.func9 (by kernel_rfl) rfl rfl rfl (⟨⟨_, rfl, rfl, rfl⟩, trivial⟩) (⟨⟨_, _, rfl, rfl, rfl, rfl, (fun h => by cases h), rfl⟩, trivial⟩) (trivial) (⟨(fun h => by cases h), trivial⟩) rfl) trivial rfl ?_
        refine .q (op_move rfl) trivial rfl ?_
        refine .q (op_extract rfl rfl) trivial rfl ?_
        refine .q (op_extract rfl rfl) trivial rfl ?_
        refine .q (op_extract rfl rfl) trivial rfl ?_
        refine .q (op_assign rfl) trivial rfl ?_
        refine .q (op_assign rfl) trivial rfl ?_
        refine .q (op_assign rfl) trivial rfl ?_
        refine .nil ?_
        show Ev _ _ _ _ _
        refine .seq ?_
        refine .region ?_
        refine .q (op_move rfl) trivial rfl ?_
        refine .nil ?_
        show Ev _ _ _ _ _
        refine .cond_false rfl (rfl) ?_
        refine .skip ?_
        show Ev _ _ _ _ _
        refine .seq ?_
        refine .region ?_
        refine .q (op_move rfl) trivial rfl ?_
        refine .q (op_len_str Tryd.underlying9 rfl) trivial rfl ?_
        refine .q (op_assign rfl) trivial rfl ?_
        refine .nil ?_
        show Ev _ _ _ _ _
        refine .seq ?_
        refine Ev.cutp (ι := { K : Nat // 1 ≤ K ∧ K ≤ P.length }) (fun z => ⟨[(0, .sl 450 o l.length 34), (1, .sl 451 p od.length 1), (5, .ptr 1000 0), (6, .ptr 1008 0), (7, .i64 ((cu_ : Nat) : Int)), (8, .i64 ((n : Nat) : Int)), (9, .i64 ((i : Nat) : Int)), (10, .str s), (11, .str P), (12, .err 131 (0) (offE eo (0))), (16, .i64 ((z.1 : Nat) : Int))], [(1000, some ⟨dC b key ((ofI64 ((n : Nat) : Int)) + 1) [], 30, true⟩), (1008, some ⟨dC b key (ofI64 ((n : Nat) : Int)) [.nilsl, .err 131 (0) (offE eo (0))], 35, true⟩), (3, some ⟨.aggI qsTab, e, false⟩), (0, some ⟨.agg [.err 131 (2) (offE eo (2))], errT, false⟩), (2, some ⟨.agg [.err 131 (3) (offE eo (3))], errT, false⟩), (1, some ⟨.agg [.err 131 (4) (offE eo (4))], errT, false⟩), (4, some ⟨.agg [.err 131 (5) (offE eo (5))], errT, false⟩), (450, some ⟨.agg (offC o (rowsC itemC l)), anyT, false⟩), (451, some ⟨.agg (offC p (od.map AV.i64)), anyT, false⟩)], 1016⟩) ?_ ?_
        ·refine .seq ?_
         refine .region ?_
         refine .q (op_move rfl) trivial rfl ?_
         refine .q (op_move rfl) trivial rfl ?_
         refine .q (op_len_sl Tryd.underlying23 rfl) trivial rfl ?_
         refine .q (op_cmpI rfl rfl rfl) trivial rfl ?_
         refine .nil ?_
         show Ev _ _ _ _ _
         refine .cond rfl (fun hc77 => ?_) (fun hc77 => ?_)
         ·simp only [decide_eq_true_eq] at hc77
          refine .region ?_
          refine .q (op_move rfl) trivial rfl ?_
          refine .q (op_move rfl) trivial rfl ?_
          refine .q (ap_idx Tryd.underlying23 inf3.sz rfl rfl rfl (show cu_ < od.length by omega)) trivial rfl ?_
          refine .q (op_load Tryd.underlying3 rfl rfl rfl (offC_nth (by rw [List.getElem?_map, get_i 0 (show cu_ < od.length by omega)]; rfl)) (by rw [offC_len, List.length_map]; omega)) trivial rfl ?_
          refine .q (op_mask31 rfl rfl) trivial rfl ?_
          refine .q (op_addI rfl rfl ⟨by omega, by omega⟩) trivial rfl ?_
          refine .q (op_move rfl) trivial rfl ?_
          refine .q (op_len_str Tryd.underlying9 rfl) trivial rfl ?_
          refine .q (op_minI rfl rfl) trivial rfl ?_
          refine .q (op_assign rfl) trivial rfl ?_
          refine .nil ?_
          exact ⟨⟨(min (1 + od.getD cu_ 0 % 32) ((P.length : Nat) : Int)).toNat, by omega, by omega⟩, StLe.mk [(1000, 1000), (1008, 1008)] rfl rfl ⟨⟨_, rfl, by first | rfl | (simp only [AV.ren]; congr 1; omega), rfl⟩, ⟨_, rfl, by first | rfl | (simp only [AV.ren]; congr 1; omega), rfl⟩, ⟨_, rfl, by first | rfl | (simp only [AV.ren]; congr 1; omega), rfl⟩, ⟨_, rfl, by first | rfl | (simp only [AV.ren]; congr 1; omega), rfl⟩, ⟨_, rfl, by first | rfl | (simp only [AV.ren]; congr 1; omega), rfl⟩, ⟨_, rfl, by first | rfl | (simp only [AV.ren]; congr 1; omega), rfl⟩, ⟨_, rfl, by first | rfl | (simp only [AV.ren]; congr 1; omega), rfl⟩, ⟨_, rfl, by first | rfl | (simp only [AV.ren]; congr 1; omega), rfl⟩, ⟨_, rfl, by first | rfl | (simp only [AV.ren]; congr 1; omega), rfl⟩, ⟨_, rfl, by first | rfl | (simp only [AV.ren]; congr 1; omega), rfl⟩, ⟨_, rfl, by first | rfl | exact congrArg AV.i64 (Int.toNat_of_nonneg (by omega)).symm, rfl⟩, trivial⟩ ⟨⟨_, _, rfl, rfl, rfl, rfl, id, rfl⟩, ⟨_, _, rfl, rfl, rfl, rfl, id, rfl⟩, ⟨_, _, rfl, rfl, rfl, rfl, id, rfl⟩, ⟨_, _, rfl, rfl, rfl, rfl, id, rfl⟩, ⟨_, _, rfl, rfl, rfl, rfl, id, rfl⟩, ⟨_, _, rfl, rfl, rfl, rfl, id, rfl⟩, ⟨_, _, rfl, rfl, rfl, rfl, id, rfl⟩, ⟨_, _, rfl, rfl, offC_ren _ o (rowsC_flat item_flat l), rfl, id, offC_nm _ o (rowsC_flat item_flat l)⟩, ⟨_, _, rfl, rfl, offC_ren _ p (show (od.map AV.i64).all AV.flatV = true by rw [List.all_map]; exact List.all_eq_true.2 fun _ _ => rfl), rfl, id, offC_nm _ p (show (od.map AV.i64).all AV.flatV = true by rw [List.all_map]; exact List.all_eq_true.2 fun _ _ => rfl)⟩, trivial⟩⟩
         ·simp only [decide_eq_false_iff_not] at hc77
          refine .skip ?_
          exact ⟨⟨P.length, by omega, Nat.le_refl _⟩, StLe.mk [(1000, 1000), (1008, 1008)] rfl rfl ⟨⟨_, rfl, by first | rfl | (simp only [AV.ren]; congr 1; omega), rfl⟩, ⟨_, rfl, by first | rfl | (simp only [AV.ren]; congr 1; omega), rfl⟩, ⟨_, rfl, by first | rfl | (simp only [AV.ren]; congr 1; omega), rfl⟩, ⟨_, rfl, by first | rfl | (simp only [AV.ren]; congr 1; omega), rfl⟩, ⟨_, rfl, by first | rfl | (simp only [AV.ren]; congr 1; omega), rfl⟩, ⟨_, rfl, by first | rfl | (simp only [AV.ren]; congr 1; omega), rfl⟩, ⟨_, rfl, by first | rfl | (simp only [AV.ren]; congr 1; omega), rfl⟩, ⟨_, rfl, by first | rfl | (simp only [AV.ren]; congr 1; omega), rfl⟩, ⟨_, rfl, by first | rfl | (simp only [AV.ren]; congr 1; omega), rfl⟩, ⟨_, rfl, by first | rfl | (simp only [AV.ren]; congr 1; omega), rfl⟩, ⟨_, rfl, by first | rfl | (simp only [AV.ren]; congr 1; omega), rfl⟩, trivial⟩ ⟨⟨_, _, rfl, rfl, rfl, rfl, id, rfl⟩, ⟨_, _, rfl, rfl, rfl, rfl, id, rfl⟩, ⟨_, _, rfl, rfl, rfl, rfl, id, rfl⟩, ⟨_, _, rfl, rfl, rfl, rfl, id, rfl⟩, ⟨_, _, rfl, rfl, rfl, rfl, id, rfl⟩, ⟨_, _, rfl, rfl, rfl, rfl, id, rfl⟩, ⟨_, _, rfl, rfl, rfl, rfl, id, rfl⟩, ⟨_, _, rfl, rfl, offC_ren _ o (rowsC_flat item_flat l), rfl, id, offC_nm _ o (rowsC_flat item_flat l)⟩, ⟨_, _, rfl, rfl, offC_ren _ p (show (od.map AV.i64).all AV.flatV = true by rw [List.all_map]; exact List.all_eq_true.2 fun _ _ => rfl), rfl, id, offC_nm _ p (show (od.map AV.i64).all AV.flatV = true by rw [List.all_map]; exact List.all_eq_true.2 fun _ _ => rfl)⟩, trivial⟩⟩
        ·rintro ⟨K, hK1, hK2⟩
         dsimp only
         refine .seq ?_
         refine .region ?_
         refine .q (op_move rfl) trivial rfl ?_
         refine .q (op_addI rfl rfl ⟨by omega, by omega⟩) trivial rfl ?_
         refine .q (op_assign rfl) trivial rfl ?_
         refine .nil ?_
         show Ev _ _ _ _ _
         refine .seq ?_
         refine .region ?_
         refine .q (op_move rfl) trivial rfl ?_
         refine .q (op_move rfl) trivial rfl ?_
         refine .q (ap_slice_str_hi Tryd.underlying9 rfl (bnd_some rfl rfl) (by first | omega | (simp only [AV.len]; omega) | (simp only [AV.len, List.length_set]; omega) | assumption | (simp [AV.len]; done))) trivial rfl ?_
         refine .a (op_call (U := [(1008, some ⟨dC b key (ofI64 ((n : Nat) : Int)) ([.sl 1016 (0) ((P.take K).length) 1, .err 131 (0) (offE eo (0))]), 35, true⟩), (1016, some ⟨.aggB (P.take K), 5, true⟩)]) [(500, 1008)] [(1016, 1000)] (pfeed_0 b key (ofI64 ((n : Nat) : Int)) (P.take K) (by rw [List.length_take]; omega) (by rw [List.length_take]; omega) eo) Tryd.func10 (by kernel_rfl) rfl rfl rfl (⟨⟨_, rfl, rfl, rfl⟩, ⟨_, rfl, rfl, rfl⟩, trivial⟩) (⟨⟨_, _, rfl, rfl, rfl, rfl, id, rfl⟩, trivial⟩) (⟨⟨500, _, rfl, rfl, rfl, rfl, .inr ⟨rfl, _, rfl, rfl⟩⟩, ⟨1000, _, rfl, rfl, rfl, rfl, .inl rfl⟩, trivial⟩) (⟨(fun _ => ⟨1008, _, rfl, rfl⟩), trivial⟩) rfl) trivial rfl ?_
         refine .nil ?_
         show Ev _ _ _ _ _
         refine .region ?_
         refine .q (op_move rfl) trivial rfl ?_
         refine .q (op_move rfl) trivial rfl ?_
         refine .q (ap_slice_str_lo Tryd.underlying9 rfl (bnd_some rfl rfl) (by first | omega | (simp only [AV.len]; omega) | (simp only [AV.len, List.length_set]; omega) | assumption | (simp [AV.len]; done))) trivial rfl ?_
         refine .q (op_assign rfl) trivial rfl ?_
         refine .nil ?_
         exact ⟨.inr ⟨K, cu_ + 1, 0, P.take K, hK2, by rw [List.length_take]; omega, rfl, by omega, by rw [List.length_take]; omega⟩, by show P.length - K < P.length + 1; omega, StLe.mk [(1000, 1000), (1008, 1008), (1016, 1016)] rfl rfl ⟨⟨_, rfl, by first | rfl | (simp only [AV.ren]; congr 1; omega), rfl⟩, ⟨_, rfl, by first | rfl | (simp only [AV.ren]; congr 1; omega), rfl⟩, ⟨_, rfl, by first | rfl | (simp only [AV.ren]; congr 1; omega), rfl⟩, ⟨_, rfl, by first | rfl | (simp only [AV.ren]; congr 1; omega), rfl⟩, ⟨_, rfl, by first | rfl | (simp only [AV.ren]; congr 1; omega), rfl⟩, ⟨_, rfl, by first | rfl | (simp only [AV.ren]; congr 1; omega), rfl⟩, ⟨_, rfl, by first | rfl | (simp only [AV.ren]; congr 1; omega), rfl⟩, ⟨_, rfl, by first | rfl | (simp only [AV.ren]; congr 1; omega), rfl⟩, ⟨_, rfl, by first | rfl | (simp only [AV.ren]; congr 1; omega), rfl⟩, ⟨_, rfl, by first | rfl | (simp only [AV.ren]; congr 1; omega), rfl⟩, trivial⟩ ⟨⟨_, _, rfl, rfl, rfl, rfl, id, rfl⟩, ⟨_, _, rfl, rfl, by first | rfl | exact congrArg (fun z => dC b key (ofI64 ((n : Nat) : Int)) [.sl 1016 0 z 1, .err 131 (0) (offE eo (0))]) (by show (List.take K P).length = K; rw [List.length_take]; omega), rfl, id, rfl⟩, ⟨_, _, rfl, rfl, rfl, rfl, id, rfl⟩, ⟨_, _, rfl, rfl, rfl, rfl, id, rfl⟩, ⟨_, _, rfl, rfl, rfl, rfl, id, rfl⟩, ⟨_, _, rfl, rfl, rfl, rfl, id, rfl⟩, ⟨_, _, rfl, rfl, rfl, rfl, id, rfl⟩, ⟨_, _, rfl, rfl, rfl, rfl, id, rfl⟩, ⟨_, _, rfl, rfl, offC_ren _ o (rowsC_flat item_flat l), rfl, id, offC_nm _ o (rowsC_flat item_flat l)⟩, ⟨_, _, rfl, rfl, offC_ren _ p (show (od.map AV.i64).all AV.flatV = true by rw [List.all_map]; exact List.all_eq_true.2 fun _ _ => rfl), rfl, id, offC_nm _ p (show (od.map AV.i64).all AV.flatV = true by rw [List.all_map]; exact List.all_eq_true.2 fun _ _ => rfl)⟩, trivial⟩⟩
       ·show Ev _ _ _ ⟨[(0, .sl 450 o l.length 34), (1, .sl 451 p od.length 1), (5, .ptr 1000 0), (6, .ptr 1008 0), (7, .i64 ((ct2 : Nat) : Int)), (8, .i64 ((n : Nat) : Int)), (9, .i64 ((i : Nat) : Int)), (10, .str s), (11, .str (P.drop m)), (12, .err 131 (0) (offE eo (0)))], [(1000, some ⟨dC b key ((ofI64 ((n : Nat) : Int)) + 1) [], 30, true⟩), (1008, some ⟨dC b key (ofI64 ((n : Nat) : Int)) [.sl 1016 (q) (m) 1, .err 131 (0) (offE eo (0))], 35, true⟩), (1016, some ⟨.aggB lb2, 5, true⟩), (3, some ⟨.aggI qsTab, e, false⟩), (0, some ⟨.agg [.err 131 (2) (offE eo (2))], errT, false⟩), (2, some ⟨.agg [.err 131 (3) (offE eo (3))], errT, false⟩), (1, some ⟨.agg [.err 131 (4) (offE eo (4))], errT, false⟩), (4, some ⟨.agg [.err 131 (5) (offE eo (5))], errT, false⟩), (450, some ⟨.agg (offC o (rowsC itemC l)), anyT, false⟩), (451, some ⟨.agg (offC p (od.map AV.i64)), anyT, false⟩)], 1024⟩ _
        refine .seq ?_
        refine .seq ?_
        refine .region ?_
        refine .q (op_move rfl) trivial rfl ?_
        refine .q (op_eqS rfl rfl rfl) trivial rfl ?_
        refine .nil ?_
        show Ev _ _ _ _ _
        refine .cond rfl (fun hc65 => ?_) (fun hc65 => ?_)
        ·skip
         refine .skip ?_
         show Ev _ _ _ _ _
         refine .block ?_
         refine .seq ?_
         refine .seq ?_
         refine .region ?_
         have hmP : m < P.length := by
          rcases Nat.lt_or_ge m P.length with h9 | h9
          ·exact h9
          ·rw [List.drop_eq_nil_of_le h9] at hc65; cases hc65
         have hdl : (P.drop m).length = P.length - m := List.length_drop
         refine .q (op_call (U := []) [(500, 1008), (501, 1016)] [] (nexta_none b e key hk (ofI64 ((n : Nat) : Int)) q m lb2 hq (by omega) (by rw [hd]; exact hPn m hmP) eo) Tryd.func9 (by kernel_rfl) rfl rfl rfl (⟨⟨_, rfl, rfl, rfl⟩, trivial⟩) (⟨⟨_, _, rfl, rfl, rfl, rfl, (fun h => by cases h), rfl⟩, ⟨_, _, rfl, rfl, rfl, rfl, (fun h => by cases h), rfl⟩, ⟨_, _, rfl, rfl, rfl, rfl, (fun h => by cases h), rfl⟩, ⟨_, _, rfl, rfl, rfl, rfl, (fun h => by cases h), rfl⟩, ⟨_, _, rfl, rfl, rfl, rfl, (fun h => by cases h), rfl⟩, ⟨_, _, rfl, rfl, rfl, rfl, (fun h => by cases h), rfl⟩, ⟨_, _, rfl, rfl, rfl, rfl, (fun h => by cases h), rfl⟩, trivial⟩) (trivial) (⟨(fun h => by cases h), (fun h => by cases h), (fun h => by cases h), (fun h => by cases h), (fun h => by cases h), (fun h => by cases h), (fun h => by cases h), trivial⟩) rfl) trivial rfl ?_
         refine .q (op_move rfl) trivial rfl ?_
         refine .q (op_extract rfl rfl) trivial rfl ?_
         refine .q (op_extract rfl rfl) trivial rfl ?_
         refine .q (op_extract rfl rfl) trivial rfl ?_
         refine .q (op_assign rfl) trivial rfl ?_
         refine .q (op_assign rfl) trivial rfl ?_
         refine .q (op_assign rfl) trivial rfl ?_
         refine .nil ?_
         show Ev _ _ _ _ _
         refine .seq ?_
         refine .region ?_
         refine .q (op_move rfl) trivial rfl ?_
         refine .nil ?_
         show Ev _ _ _ _ _
         refine .cond_false rfl (rfl) ?_
         refine .skip ?_
         show Ev _ _ _ _ _
         refine .seq ?_
         refine .region ?_
         refine .q (op_move rfl) trivial rfl ?_
         refine .q (op_len_str Tryd.underlying9 rfl) trivial rfl ?_
         refine .q (op_assign rfl) trivial rfl ?_
         refine .nil ?_
         show Ev _ _ _ _ _
         refine .seq ?_
         refine Ev.cutp (ι := { K : Nat // 1 ≤ K ∧ K ≤ (P.drop m).length }) (fun z => ⟨[(0, .sl 450 o l.length 34), (1, .sl 451 p od.length 1), (5, .ptr 1000 0), (6, .ptr 1008 0), (7, .i64 ((ct2 : Nat) : Int)), (8, .i64 ((n : Nat) : Int)), (9, .i64 ((i : Nat) : Int)), (10, .str s), (11, .str (P.drop m)), (12, .err 131 (0) (offE eo (0))), (16, .i64 ((z.1 : Nat) : Int))], [(1000, some ⟨dC b key ((ofI64 ((n : Nat) : Int)) + 1) [], 30, true⟩), (1008, some ⟨dC b key (ofI64 ((n : Nat) : Int)) [.sl 1016 (q) (m) 1, .err 131 (0) (offE eo (0))], 35, true⟩), (1016, some ⟨.aggB lb2, 5, true⟩), (3, some ⟨.aggI qsTab, e, false⟩), (0, some ⟨.agg [.err 131 (2) (offE eo (2))], errT, false⟩), (2, some ⟨.agg [.err 131 (3) (offE eo (3))], errT, false⟩), (1, some ⟨.agg [.err 131 (4) (offE eo (4))], errT, false⟩), (4, some ⟨.agg [.err 131 (5) (offE eo (5))], errT, false⟩), (450, some ⟨.agg (offC o (rowsC itemC l)), anyT, false⟩), (451, some ⟨.agg (offC p (od.map AV.i64)), anyT, false⟩)], 1024⟩) ?_ ?_
         ·refine .seq ?_
          refine .region ?_
          refine .q (op_move rfl) trivial rfl ?_
          refine .q (op_move rfl) trivial rfl ?_
          refine .q (op_len_sl Tryd.underlying23 rfl) trivial rfl ?_
          refine .q (op_cmpI rfl rfl rfl) trivial rfl ?_
          refine .nil ?_
          show Ev _ _ _ _ _
          refine .cond rfl (fun hc77 => ?_) (fun hc77 => ?_)
          ·simp only [decide_eq_true_eq] at hc77
           refine .region ?_
           refine .q (op_move rfl) trivial rfl ?_
           refine .q (op_move rfl) trivial rfl ?_
           refine .q (ap_idx Tryd.underlying23 inf3.sz rfl rfl rfl (show ct2 < od.length by omega)) trivial rfl ?_
           refine .q (op_load Tryd.underlying3 rfl rfl rfl (offC_nth (by rw [List.getElem?_map, get_i 0 (show ct2 < od.length by omega)]; rfl)) (by rw [offC_len, List.length_map]; omega)) trivial rfl ?_
           refine .q (op_mask31 rfl rfl) trivial rfl ?_
           refine .q (op_addI rfl rfl ⟨by omega, by omega⟩) trivial rfl ?_
           refine .q (op_move rfl) trivial rfl ?_
           refine .q (op_len_str Tryd.underlying9 rfl) trivial rfl ?_
           refine .q (op_minI rfl rfl) trivial rfl ?_
           refine .q (op_assign rfl) trivial rfl ?_
           refine .nil ?_
           exact ⟨⟨(min (1 + od.getD ct2 0 % 32) (((P.drop m).length : Nat) : Int)).toNat, by omega, by omega⟩, StLe.mk [(1000, 1000), (1008, 1008), (1016, 1016)] rfl rfl ⟨⟨_, rfl, by first | rfl | (simp only [AV.ren]; congr 1; omega), rfl⟩, ⟨_, rfl, by first | rfl | (simp only [AV.ren]; congr 1; omega), rfl⟩, ⟨_, rfl, by first | rfl | (simp only [AV.ren]; congr 1; omega), rfl⟩, ⟨_, rfl, by first | rfl | (simp only [AV.ren]; congr 1; omega), rfl⟩, ⟨_, rfl, by first | rfl | (simp only [AV.ren]; congr 1; omega), rfl⟩, ⟨_, rfl, by first | rfl | (simp only [AV.ren]; congr 1; omega), rfl⟩, ⟨_, rfl, by first | rfl | (simp only [AV.ren]; congr 1; omega), rfl⟩, ⟨_, rfl, by first | rfl | (simp only [AV.ren]; congr 1; omega), rfl⟩, ⟨_, rfl, by first | rfl | (simp only [AV.ren]; congr 1; omega), rfl⟩, ⟨_, rfl, by first | rfl | (simp only [AV.ren]; congr 1; omega), rfl⟩, ⟨_, rfl, by first | rfl | exact congrArg AV.i64 (Int.toNat_of_nonneg (by omega)).symm, rfl⟩, trivial⟩ ⟨⟨_, _, rfl, rfl, rfl, rfl, id, rfl⟩, ⟨_, _, rfl, rfl, rfl, rfl, id, rfl⟩, ⟨_, _, rfl, rfl, rfl, rfl, id, rfl⟩, ⟨_, _, rfl, rfl, rfl, rfl, id, rfl⟩, ⟨_, _, rfl, rfl, rfl, rfl, id, rfl⟩, ⟨_, _, rfl, rfl, rfl, rfl, id, rfl⟩, ⟨_, _, rfl, rfl, rfl, rfl, id, rfl⟩, ⟨_, _, rfl, rfl, rfl, rfl, id, rfl⟩, ⟨_, _, rfl, rfl, offC_ren _ o (rowsC_flat item_flat l), rfl, id, offC_nm _ o (rowsC_flat item_flat l)⟩, ⟨_, _, rfl, rfl, offC_ren _ p (show (od.map AV.i64).all AV.flatV = true by rw [List.all_map]; exact List.all_eq_true.2 fun _ _ => rfl), rfl, id, offC_nm _ p (show (od.map AV.i64).all AV.flatV = true by rw [List.all_map]; exact List.all_eq_true.2 fun _ _ => rfl)⟩, trivial⟩⟩
          ·simp only [decide_eq_false_iff_not] at hc77
           refine .skip ?_
           exact ⟨⟨(P.drop m).length, by omega, Nat.le_refl _⟩, StLe.mk [(1000, 1000), (1008, 1008), (1016, 1016)] rfl rfl ⟨⟨_, rfl, by first | rfl | (simp only [AV.ren]; congr 1; omega), rfl⟩, ⟨_, rfl, by first | rfl | (simp only [AV.ren]; congr 1; omega), rfl⟩, ⟨_, rfl, by first | rfl | (simp only [AV.ren]; congr 1; omega), rfl⟩, ⟨_, rfl, by first | rfl | (simp only [AV.ren]; congr 1; omega), rfl⟩, ⟨_, rfl, by first | rfl | (simp only [AV.ren]; congr 1; omega), rfl⟩, ⟨_, rfl, by first | rfl | (simp only [AV.ren]; congr 1; omega), rfl⟩, ⟨_, rfl, by first | rfl | (simp only [AV.ren]; congr 1; omega), rfl⟩, ⟨_, rfl, by first | rfl | (simp only [AV.ren]; congr 1; omega), rfl⟩, ⟨_, rfl, by first | rfl | (simp only [AV.ren]; congr 1; omega), rfl⟩, ⟨_, rfl, by first | rfl | (simp only [AV.ren]; congr 1; omega), rfl⟩, ⟨_, rfl, by first | rfl | (simp only [AV.ren]; congr 1; omega), rfl⟩, trivial⟩ ⟨⟨_, _, rfl, rfl, rfl, rfl, id, rfl⟩, ⟨_, _, rfl, rfl, rfl, rfl, id, rfl⟩, ⟨_, _, rfl, rfl, rfl, rfl, id, rfl⟩, ⟨_, _, rfl, rfl, rfl, rfl, id, rfl⟩, ⟨_, _, rfl, rfl, rfl, rfl, id, rfl⟩, ⟨_, _, rfl, rfl, rfl, rfl, id, rfl⟩, ⟨_, _, rfl, rfl, rfl, rfl, id, rfl⟩, ⟨_, _, rfl, rfl, rfl, rfl, id, rfl⟩, ⟨_, _, rfl, rfl, offC_ren _ o (rowsC_flat item_flat l), rfl, id, offC_nm _ o (rowsC_flat item_flat l)⟩, ⟨_, _, rfl, rfl, offC_ren _ p (show (od.map AV.i64).all AV.flatV = true by rw [List.all_map]; exact List.all_eq_true.2 fun _ _ => rfl), rfl, id, offC_nm _ p (show (od.map AV.i64).all AV.flatV = true by rw [List.all_map]; exact List.all_eq_true.2 fun _ _ => rfl)⟩, trivial⟩⟩
         ·rintro ⟨K, hK1, hK2⟩
          dsimp only
          refine .seq ?_
          refine .region ?_
          refine .q (op_move rfl) trivial rfl ?_
          refine .q (op_addI rfl rfl ⟨by omega, by omega⟩) trivial rfl ?_
          refine .q (op_assign rfl) trivial rfl ?_
          refine .nil ?_
          show Ev _ _ _ _ _
          refine .seq ?_
          refine .region ?_
          refine .q (op_move rfl) trivial rfl ?_
          refine .q (op_move rfl) trivial rfl ?_
          refine .q (ap_slice_str_hi Tryd.underlying9 rfl (bnd_some rfl rfl) (by first | omega | (simp only [AV.len]; omega) | (simp only [AV.len, List.length_set]; omega) | assumption | (simp [AV.len]; done))) trivial rfl ?_
          refine .ax (op_callX (US := fun u => [(1008, some ⟨dC b key (ofI64 ((n : Nat) : Int)) ([.sl 1024 (u.1.1) ((m + ((P.drop m).take K).length)) 1, .err 131 (0) (offE eo (0))]), 35, true⟩), (1024, some ⟨.aggB u.1.2, 5, true⟩), (1016, none)]) [(500, 1008), (501, 1016)] [(1024, 1000)] (feedX_ev b key (ofI64 ((n : Nat) : Int)) q m lb2 hq (by omega) ((P.drop m).take K) (by rw [List.length_take]; omega) (by rw [List.length_take]; omega) eo) Tryd.func10 (by kernel_rfl) rfl rfl (fun _ => rfl) ⟨⟨_, rfl, rfl, rfl⟩, ⟨_, rfl, rfl, rfl⟩, trivial⟩ ⟨⟨_, _, rfl, rfl, rfl, rfl, id, rfl⟩, ⟨_, _, rfl, rfl, rfl, rfl, id, rfl⟩, trivial⟩ (fun _ => ⟨⟨500, _, rfl, rfl, rfl, rfl, .inr ⟨rfl, _, rfl, rfl⟩⟩, ⟨1000, _, rfl, rfl, rfl, rfl, .inl rfl⟩, trivial⟩) (fun _ => ⟨(fun _ => ⟨1008, _, rfl, rfl⟩), (fun _ => ⟨1016, _, rfl, rfl⟩), trivial⟩) (fun _ => rfl)) trivial rfl (fun u => ?_)
          show EvL _ _ _ _ _ _
          refine .nil ?_
          show Ev _ _ _ _ _
          refine .region ?_
          refine .q (op_move rfl) trivial rfl ?_
          refine .q (op_move rfl) trivial rfl ?_
          refine .q (ap_slice_str_lo Tryd.underlying9 rfl (bnd_some rfl rfl) (by first | omega | (simp only [AV.len]; omega) | (simp only [AV.len, List.length_set]; omega) | assumption | (simp [AV.len]; done))) trivial rfl ?_
          refine .q (op_assign rfl) trivial rfl ?_
          refine .nil ?_
          exact ⟨.inr ⟨m + K, ct2 + 1, u.1.1, u.1.2, by omega, by have h9 := u.2.1; have h7 : ((P.drop m).take K).length = K := (by rw [List.length_take]; omega); omega, by rw [u.2.2.1, hd, List.take_add], by omega, by have h9 := u.2.1; have h8 := u.2.2.2; have h7 : ((P.drop m).take K).length = K := (by rw [List.length_take]; omega); omega⟩, by show P.length - (m + K) < P.length - m; omega, StLe.mk [(1000, 1000), (1008, 1008), (1016, 1024)] rfl rfl ⟨⟨_, rfl, by first | rfl | (simp only [AV.ren]; congr 1; omega), rfl⟩, ⟨_, rfl, by first | rfl | (simp only [AV.ren]; congr 1; omega), rfl⟩, ⟨_, rfl, by first | rfl | (simp only [AV.ren]; congr 1; omega), rfl⟩, ⟨_, rfl, by first | rfl | (simp only [AV.ren]; congr 1; omega), rfl⟩, ⟨_, rfl, by first | rfl | (simp only [AV.ren]; congr 1; omega), rfl⟩, ⟨_, rfl, by first | rfl | (simp only [AV.ren]; congr 1; omega), rfl⟩, ⟨_, rfl, by first | rfl | (simp only [AV.ren]; congr 1; omega), rfl⟩, ⟨_, rfl, by first | rfl | (simp only [AV.ren]; congr 1; omega), rfl⟩, ⟨_, rfl, by first | rfl | exact congrArg AV.str (List.drop_drop ..), rfl⟩, ⟨_, rfl, by first | rfl | (simp only [AV.ren]; congr 1; omega), rfl⟩, trivial⟩ ⟨⟨_, _, rfl, rfl, rfl, rfl, id, rfl⟩, ⟨_, _, rfl, rfl, by first | rfl | exact congrArg (fun z => dC b key (ofI64 ((n : Nat) : Int)) [.sl 1016 u.1.1 z 1, .err 131 (0) (offE eo (0))]) (by show m + ((P.drop m).take K).length = m + K; rw [List.length_take]; omega), rfl, id, rfl⟩, ⟨_, _, rfl, rfl, rfl, rfl, id, rfl⟩, ⟨_, _, rfl, rfl, rfl, rfl, id, rfl⟩, ⟨_, _, rfl, rfl, rfl, rfl, id, rfl⟩, ⟨_, _, rfl, rfl, rfl, rfl, id, rfl⟩, ⟨_, _, rfl, rfl, rfl, rfl, id, rfl⟩, ⟨_, _, rfl, rfl, rfl, rfl, id, rfl⟩, ⟨_, _, rfl, rfl, offC_ren _ o (rowsC_flat item_flat l), rfl, id, offC_nm _ o (rowsC_flat item_flat l)⟩, ⟨_, _, rfl, rfl, offC_ren _ p (show (od.map AV.i64).all AV.flatV = true by rw [List.all_map]; exact List.all_eq_true.2 fun _ _ => rfl), rfl, id, offC_nm _ p (show (od.map AV.i64).all AV.flatV = true by rw [List.all_map]; exact List.all_eq_true.2 fun _ _ => rfl)⟩, trivial⟩⟩
        ·skip
         refine .exit ?_
         show Ev _ _ _ _ _
         refine .seq ?_
         refine .region ?_
         have hme : m = P.length := by
          rcases Nat.lt_or_ge m P.length with h9 | h9
          ·exact absurd hc65 (by rw [bne_eq_false_iff_eq]; intro h8; have h7 := congrArg List.length h8; rw [List.length_drop, List.length_nil] at h7; omega)
          ·omega
         refine .a (op_call (U := [(1008, some ⟨dC b key ((ofI64 ((n : Nat) : Int)) + 1) ([.sl 1016 (lb2.length) (0) 1, .err 131 (0) (offE eo (0))]), 35, true⟩)]) [(500, 1008), (501, 1016)] [] (nexta_ok b e key hk (ofI64 ((n : Nat) : Int)) q m lb2 hq (by omega) s (by omega) (by rw [hd, hme, List.take_length]; exact hPo) eo) Tryd.func9 (by kernel_rfl) rfl rfl rfl (⟨⟨_, rfl, rfl, rfl⟩, trivial⟩) (⟨⟨_, _, rfl, rfl, rfl, rfl, id, rfl⟩, ⟨_, _, rfl, rfl, rfl, rfl, (fun h => by cases h), rfl⟩, ⟨_, _, rfl, rfl, rfl, rfl, (fun h => by cases h), rfl⟩, ⟨_, _, rfl, rfl, rfl, rfl, (fun h => by cases h), rfl⟩, ⟨_, _, rfl, rfl, rfl, rfl, (fun h => by cases h), rfl⟩, ⟨_, _, rfl, rfl, rfl, rfl, (fun h => by cases h), rfl⟩, ⟨_, _, rfl, rfl, rfl, rfl, (fun h => by cases h), rfl⟩, trivial⟩) (⟨⟨500, _, rfl, rfl, rfl, rfl, .inr ⟨rfl, _, rfl, rfl⟩⟩, trivial⟩) (⟨(fun _ => ⟨1008, _, rfl, rfl⟩), (fun h => by cases h), (fun h => by cases h), (fun h => by cases h), (fun h => by cases h), (fun h => by cases h), (fun h => by cases h), trivial⟩) rfl) trivial rfl ?_
         refine .q (op_move rfl) trivial rfl ?_
         refine .q (op_extract rfl rfl) trivial rfl ?_
         refine .q (op_extract rfl rfl) trivial rfl ?_
         refine .q (op_extract rfl rfl) trivial rfl ?_
         refine .q (op_assign rfl) trivial rfl ?_
         refine .q (op_assign rfl) trivial rfl ?_
         refine .q (op_assign rfl) trivial rfl ?_
         refine .nil ?_
         show Ev _ _ _ _ _
         refine .seq ?_
         refine .region ?_
         refine .q (op_move rfl) trivial rfl ?_
         refine .q (op_addI rfl rfl ⟨by omega, by omega⟩) trivial rfl ?_
         refine .q (op_assign rfl) trivial rfl ?_
         refine .nil ?_
         show Ev _ _ _ _ _
         refine .seq ?_
         refine .region ?_
         refine .q (op_move rfl) trivial rfl ?_
         refine .q (op_move rfl) trivial rfl ?_
         refine .q (op_eqS rfl rfl rfl) trivial rfl ?_
         refine .q (op_move rfl) trivial rfl ?_
         refine .know (b' := false) (bne_self_eq_false _) ?_
         refine .q (op_move rfl) ⟨_, rfl, rfl⟩ rfl ?_
         refine .q (op_notB rfl) ⟨_, rfl, rfl⟩ rfl ?_
         refine .q (op_pick_false rfl rfl rfl) trivial rfl ?_
         refine .q (op_move rfl) trivial rfl ?_
         refine .know (b' := false) (rfl) ?_
         refine .q (op_move rfl) ⟨_, rfl, rfl⟩ rfl ?_
         refine .q (op_eqErrNil (e := 0) Tryd.underlying33 rfl rfl) ⟨_, rfl, rfl⟩ rfl ?_
         refine .q (op_pick_false rfl rfl rfl) trivial rfl ?_
         refine .q (op_move rfl) trivial rfl ?_
         refine .know (b' := false) (rfl) ?_
         refine .q (op_call (U := []) [(500, 1008), (501, 1016)] [] (waits_ev b key ((ofI64 ((n : Nat) : Int)) + 1) lb2.length 0 eo) Tryd.func11 (by kernel_rfl) rfl rfl rfl (⟨⟨_, rfl, rfl, rfl⟩, trivial⟩) (⟨⟨_, _, rfl, rfl, rfl, rfl, (fun h => by cases h), rfl⟩, trivial⟩) (trivial) (⟨(fun h => by cases h), trivial⟩) rfl) ⟨_, rfl, rfl⟩ rfl ?_
         refine .q (op_cmpI rfl rfl rfl) ⟨_, rfl, rfl⟩ rfl ?_
         refine .q (op_pick_false rfl rfl rfl) trivial rfl ?_
         refine .q (op_move rfl) trivial rfl ?_
         refine .know (b' := false) (rfl) ?_
         refine .q (op_fieldAddr (m := 33) Tryd.underlying35 rfl (by kernel_rfl) rfl) ⟨_, rfl, rfl⟩ rfl ?_
         refine .as (.ptr 1008 0) rfl ?_
         refine .q (op_call (U := []) [(500, 1008), (501, 1016)] [] (count_ev b key ((ofI64 ((n : Nat) : Int)) + 1) ([.sl 501 (lb2.length) (0) 1, .err 131 (0) (offE eo (0))]) 35) Tryd.func12 (by kernel_rfl) rfl rfl rfl (⟨⟨_, rfl, rfl, rfl⟩, trivial⟩) (⟨⟨_, _, rfl, rfl, rfl, rfl, (fun h => by cases h), rfl⟩, trivial⟩) (trivial) (⟨(fun h => by cases h), trivial⟩) rfl) ⟨_, rfl, rfl⟩ rfl ?_
         refine .q (op_move rfl) ⟨_, rfl, rfl⟩ rfl ?_
         refine .q (op_conv Tryd.underlying3 Tryd.underlying26 rfl rfl) ⟨_, rfl, rfl⟩ rfl ?_
         refine .as (.u64 ((ofI64 ((n : Nat) : Int)) + 1)) (congrArg AV.u64 (ofI64_succ n).symm) ?_
         refine .q (op_bin64 rfl rfl rfl) ⟨_, rfl, rfl⟩ rfl ?_
         refine .as (.bool false) (congrArg AV.bool (bne_self_eq_false _)) ?_
         refine .q (op_pick_false rfl rfl rfl) trivial rfl ?_
         refine .nil ?_
         show Ev _ _ _ _ _
         refine .cond_false rfl (rfl) ?_
         refine .skip ?_
         show Ev _ _ _ _ _
         refine .region ?_
         refine .q (op_move rfl) trivial rfl ?_
         refine .q (op_addI rfl rfl ⟨by omega, by omega⟩) trivial rfl ?_
         refine .q (op_assign rfl) trivial rfl ?_
         refine .nil ?_
         exact ⟨.inr ⟨i + 1, n + 1, ct2, b, key, lb2, hk, by omega, by omega, by omega, by omega, by omega⟩, by show 12 - (i + 1) < 12 - i; omega, StLe.mk [(1000, 1000), (1008, 1008), (1016, 1016)] rfl rfl ⟨⟨_, rfl, by first | rfl | (simp only [AV.ren]; congr 1; omega), rfl⟩, ⟨_, rfl, by first | rfl | (simp only [AV.ren]; congr 1; omega), rfl⟩, ⟨_, rfl, by first | rfl | (simp only [AV.ren]; congr 1; omega), rfl⟩, ⟨_, rfl, by first | rfl | (simp only [AV.ren]; congr 1; omega), rfl⟩, ⟨_, rfl, by first | rfl | (simp only [AV.ren]; congr 1; omega), rfl⟩, ⟨_, rfl, by first | rfl | (simp only [AV.ren]; congr 1; omega), rfl⟩, ⟨_, rfl, by first | rfl | (simp only [AV.ren]; congr 1; omega), rfl⟩, trivial⟩ ⟨⟨_, _, rfl, rfl, by first | rfl | exact congrArg (fun z => dC _ _ z _) (ofI64_succ _), rfl, id, rfl⟩, ⟨_, _, rfl, rfl, by first | rfl | exact congrArg (fun z => dC _ _ z _) (ofI64_succ _), rfl, id, rfl⟩, ⟨_, _, rfl, rfl, rfl, rfl, id, rfl⟩, ⟨_, _, rfl, rfl, rfl, rfl, id, rfl⟩, ⟨_, _, rfl, rfl, rfl, rfl, id, rfl⟩, ⟨_, _, rfl, rfl, rfl, rfl, id, rfl⟩, ⟨_, _, rfl, rfl, rfl, rfl, id, rfl⟩, ⟨_, _, rfl, rfl, rfl, rfl, id, rfl⟩, ⟨_, _, rfl, rfl, offC_ren _ o (rowsC_flat item_flat l), rfl, id, offC_nm _ o (rowsC_flat item_flat l)⟩, ⟨_, _, rfl, rfl, offC_ren _ p (show (od.map AV.i64).all AV.flatV = true by rw [List.all_map]; exact List.all_eq_true.2 fun _ _ => rfl), rfl, id, offC_nm _ p (show (od.map AV.i64).all AV.flatV = true by rw [List.all_map]; exact List.all_eq_true.2 fun _ _ => rfl)⟩, trivial⟩⟩
   ·simp only [decide_eq_false_iff_not] at hc29
    refine .exit ?_
    show Ev _ _ _ _ _
    refine .seq ?_
    refine .region ?_
    refine .q (op_assign rfl) trivial rfl ?_
    refine .nil ?_
    show Ev _ _ _ _ _
    refine .ret ?_
    show RetOk _ _ _ _ _ _ _
    exact ret1v rfl (.inl rfl) rfl rfl trivial
  ·simp only [decide_eq_false_iff_not] at hg26
   refine .no ⟨_, rfl, rfl⟩ rfl ?_
   refine .no ⟨_, rfl, rfl⟩ rfl ?_
   refine .q (op_pick_false rfl rfl rfl) trivial rfl ?_
   refine .nil ?_
   show Ev _ _ _ _ _
   refine .cond_false rfl rfl ?_
   refine .exit ?_
   show Ev _ _ _ _ _
   refine .seq ?_
   refine .region ?_
   refine .q (op_assign rfl) trivial rfl ?_
   refine .nil ?_
   show Ev _ _ _ _ _
   refine .ret ?_
   show RetOk _ _ _ _ _ _ _
   exact ret1v rfl (.inl rfl) rfl rfl trivial
 ·show Ev _ _ _ ⟨[(0, .sl 450 o l.length 34), (1, .sl 451 p od.length 1), (5, .ptr 1000 0), (6, .ptr 1008 0), (7, .i64 ((cu_ : Nat) : Int)), (8, .i64 ((n : Nat) : Int)), (9, .i64 ((i : Nat) : Int))], [(1000, some ⟨dC b key (ofI64 ((n : Nat) : Int)) [], 30, true⟩), (1008, some ⟨dC b key (ofI64 ((n : Nat) : Int)) [.sl 1016 (lb.length) (0) 1, .err 131 (0) (offE eo (0))], 35, true⟩), (1016, some ⟨.aggB lb, 5, true⟩), (3, some ⟨.aggI qsTab, e, false⟩), (0, some ⟨.agg [.err 131 (2) (offE eo (2))], errT, false⟩), (2, some ⟨.agg [.err 131 (3) (offE eo (3))], errT, false⟩), (1, some ⟨.agg [.err 131 (4) (offE eo (4))], errT, false⟩), (4, some ⟨.agg [.err 131 (5) (offE eo (5))], errT, false⟩), (450, some ⟨.agg (offC o (rowsC itemC l)), anyT, false⟩), (451, some ⟨.agg (offC p (od.map AV.i64)), anyT, false⟩)], 1024⟩ _
  refine .seq ?_
  refine .seq ?_
  refine .region ?_
  refine .q (op_move rfl) trivial rfl ?_
  refine .q (op_move rfl) trivial rfl ?_
  refine .q (op_len_sl Tryd.underlying22 rfl) trivial rfl ?_
  refine .q (op_cmpI rfl rfl rfl) trivial rfl ?_
  refine .q (op_move rfl) trivial rfl ?_
  refine .split (fun hg26 => ?_) (fun hg26 => ?_)
  ·simp only [decide_eq_true_eq] at hg26
   refine .q (op_move rfl) ⟨_, rfl, rfl⟩ rfl ?_
   refine .q (op_cmpI rfl rfl rfl) ⟨_, rfl, rfl⟩ rfl ?_
   refine .q (op_pick_true rfl rfl rfl) trivial rfl ?_
   refine .nil ?_
   show Ev _ _ _ _ _
   refine .cond rfl (fun hc29 => ?_) (fun hc29 => ?_)
   ·simp only [decide_eq_true_eq] at hc29
    refine .skip ?_
    show Ev _ _ _ _ _
    refine .seq ?_
    refine .block ?_
    refine .seq ?_
    refine .seq ?_
    refine .region ?_
    refine .q (op_move rfl) trivial rfl ?_
    refine .q (op_move rfl) trivial rfl ?_
    refine .q (op_indexAddr (z := 34) Tryd.underlying22 (by kernel_rfl) rfl rfl rfl (show i < l.length by omega)) trivial rfl ?_
    refine .q (op_fieldAddr (m := 0) Tryd.underlying37 rfl (by kernel_rfl) rfl) trivial rfl ?_
    refine .as (.ptr 450 (o + i * 34 + 0)) rfl ?_
    refine .q (op_load Tryd.underlying4 rfl rfl rfl (rows_at item_len (get_i default (show i < l.length by omega)) (k := 0) rfl) (item_lt (show i < l.length by omega) (by decide))) trivial rfl ?_
    refine .nil ?_
    show Ev _ _ _ _ _
    refine .cond rfl (fun hc36 => ?_) (fun hc36 => ?_)
    ·skip
     refine .seq ?_
     refine .region ?_
     refine .q (op_move rfl) trivial rfl ?_
     refine .q (op_move rfl) trivial rfl ?_
     refine .q (op_indexAddr (z := 34) Tryd.underlying22 (by kernel_rfl) rfl rfl rfl (show i < l.length by omega)) trivial rfl ?_
     refine .q (op_fieldAddr (m := 31) Tryd.underlying37 rfl (by kernel_rfl) rfl) trivial rfl ?_
     refine .as (.ptr 450 (o + i * 34 + 1)) rfl ?_
     refine .q (op_loadPart (m := 32) (r := .aggB (l.getD i default).key) (cs := (l.getD i default).key.map .u8) Tryd.underlying25 rfl (by kernel_rfl) rfl rfl rfl (by rw [List.length_map, (l.getD i default).hk]) (item_key (get_i default (show i < l.length by omega))).symm (by rw [offC_len, rowsC_len item_len]; omega)) trivial rfl ?_
     refine .a (op_call (U := [(1000, some ⟨dC true (l.getD i default).key (ofI64 ((n : Nat) : Int)) [], 30, true⟩)]) [(500, 1000)] [] (wseal_ev b key (l.getD i default).key (l.getD i default).hk (ofI64 ((n : Nat) : Int))) Tryd.func5 (by kernel_rfl) rfl rfl rfl (⟨⟨_, rfl, rfl, rfl⟩, ⟨_, rfl, rfl, rfl⟩, trivial⟩) (⟨⟨_, _, rfl, rfl, rfl, rfl, id, rfl⟩, trivial⟩) (⟨⟨500, _, rfl, rfl, rfl, rfl, .inr ⟨rfl, _, rfl, rfl⟩⟩, trivial⟩) (⟨(fun _ => ⟨1000, _, rfl, rfl⟩), trivial⟩) rfl) trivial rfl ?_
     refine .nil ?_
     show Ev _ _ _ _ _
     refine .seq ?_
     refine .region ?_
     refine .q (op_move rfl) trivial rfl ?_
     refine .q (op_move rfl) trivial rfl ?_
     refine .q (op_indexAddr (z := 34) Tryd.underlying22 (by kernel_rfl) rfl rfl rfl (show i < l.length by omega)) trivial rfl ?_
     refine .q (op_fieldAddr (m := 31) Tryd.underlying37 rfl (by kernel_rfl) rfl) trivial rfl ?_
     refine .as (.ptr 450 (o + i * 34 + 1)) rfl ?_
     refine .q (op_loadPart (m := 32) (r := .aggB (l.getD i default).key) (cs := (l.getD i default).key.map .u8) Tryd.underlying25 rfl (by kernel_rfl) rfl rfl rfl (by rw [List.length_map, (l.getD i default).hk]) (item_key (get_i default (show i < l.length by omega))).symm (by rw [offC_len, rowsC_len item_len]; omega)) trivial rfl ?_
     refine .a (op_call (U := [(1008, some ⟨dC true (l.getD i default).key (ofI64 ((n : Nat) : Int)) ([.sl 1016 (lb.length) (0) 1, .err 131 (0) (offE eo (0))]), 35, true⟩)]) [(500, 1008), (501, 1016)] [] (ropen_sl b key (l.getD i default).key (l.getD i default).hk (ofI64 ((n : Nat) : Int)) lb.length 0 eo) Tryd.func6 (by kernel_rfl) rfl rfl rfl (⟨⟨_, rfl, rfl, rfl⟩, ⟨_, rfl, rfl, rfl⟩, trivial⟩) (⟨⟨_, _, rfl, rfl, rfl, rfl, id, rfl⟩, trivial⟩) (⟨⟨500, _, rfl, rfl, rfl, rfl, .inr ⟨rfl, _, rfl, rfl⟩⟩, trivial⟩) (⟨(fun _ => ⟨1008, _, rfl, rfl⟩), trivial⟩) rfl) trivial rfl ?_
     refine .nil ?_
     show Ev _ _ _ _ _
     refine .exit ?_
     show Ev _ _ _ _ _
     refine .region ?_
     refine .q (op_move rfl) trivial rfl ?_
     refine .q (op_addI rfl rfl ⟨by omega, by omega⟩) trivial rfl ?_
     refine .q (op_assign rfl) trivial rfl ?_
     refine .nil ?_
     exact ⟨.inr ⟨i + 1, n, cu_, true, (l.getD i default).key, lb, (l.getD i default).hk, by omega, by omega, by omega, by omega, by omega⟩, by show 12 - (i + 1) < 12 - i; omega, StLe.mk [(1000, 1000), (1008, 1008), (1016, 1016)] rfl rfl ⟨⟨_, rfl, by first | rfl | (simp only [AV.ren]; congr 1; omega), rfl⟩, ⟨_, rfl, by first | rfl | (simp only [AV.ren]; congr 1; omega), rfl⟩, ⟨_, rfl, by first | rfl | (simp only [AV.ren]; congr 1; omega), rfl⟩, ⟨_, rfl, by first | rfl | (simp only [AV.ren]; congr 1; omega), rfl⟩, ⟨_, rfl, by first | rfl | (simp only [AV.ren]; congr 1; omega), rfl⟩, ⟨_, rfl, by first | rfl | (simp only [AV.ren]; congr 1; omega), rfl⟩, ⟨_, rfl, by first | rfl | (simp only [AV.ren]; congr 1; omega), rfl⟩, trivial⟩ ⟨⟨_, _, rfl, rfl, by first | rfl | exact congrArg (fun z => dC _ _ z _) (ofI64_succ _), rfl, id, rfl⟩, ⟨_, _, rfl, rfl, by first | rfl | exact congrArg (fun z => dC _ _ z _) (ofI64_succ _), rfl, id, rfl⟩, ⟨_, _, rfl, rfl, rfl, rfl, id, rfl⟩, ⟨_, _, rfl, rfl, rfl, rfl, id, rfl⟩, ⟨_, _, rfl, rfl, rfl, rfl, id, rfl⟩, ⟨_, _, rfl, rfl, rfl, rfl, id, rfl⟩, ⟨_, _, rfl, rfl, rfl, rfl, id, rfl⟩, ⟨_, _, rfl, rfl, rfl, rfl, id, rfl⟩, ⟨_, _, rfl, rfl, offC_ren _ o (rowsC_flat item_flat l), rfl, id, offC_nm _ o (rowsC_flat item_flat l)⟩, ⟨_, _, rfl, rfl, offC_ren _ p (show (od.map AV.i64).all AV.flatV = true by rw [List.all_map]; exact List.all_eq_true.2 fun _ _ => rfl), rfl, id, offC_nm _ p (show (od.map AV.i64).all AV.flatV = true by rw [List.all_map]; exact List.all_eq_true.2 fun _ _ => rfl)⟩, trivial⟩⟩
    ·skip
     refine .skip ?_
     show Ev _ _ _ _ _
     refine .seq ?_
     refine .region ?_
     refine .q (op_move rfl) trivial rfl ?_
     refine .q (op_move rfl) trivial rfl ?_
     refine .q (op_indexAddr (z := 34) Tryd.underlying22 (by kernel_rfl) rfl rfl rfl (show i < l.length by omega)) trivial rfl ?_
     refine .q (op_fieldAddr (m := 0) Tryd.underlying37 rfl (by kernel_rfl) rfl) trivial rfl ?_
     refine .as (.ptr 450 (o + i * 34 + 33)) rfl ?_
     refine .q (op_load Tryd.underlying9 rfl rfl rfl (rows_at item_len (get_i default (show i < l.length by omega)) (k := 33) rfl) (item_lt (show i < l.length by omega) (by decide))) trivial rfl ?_
     refine .q (op_call (U := []) [] [] (cut_ev (l.getD i default).s 100 (l.getD i default).hs (by decide)) Tryd.func7 (by kernel_rfl) rfl rfl rfl (⟨⟨_, rfl, rfl, rfl⟩, ⟨_, rfl, rfl, rfl⟩, trivial⟩) (trivial) (trivial) (trivial) rfl) trivial rfl ?_
     refine .q (op_assign rfl) trivial rfl ?_
     refine .nil ?_
     show Ev _ _ _ _ _
     refine .seq ?_
     refine Ev.cutp (ι := { s : List UInt8 // 1 ≤ s.length ∧ s.length ≤ 100 }) (fun q => ⟨[(0, .sl 450 o l.length 34), (1, .sl 451 p od.length 1), (5, .ptr 1000 0), (6, .ptr 1008 0), (7, .i64 ((cu_ : Nat) : Int)), (8, .i64 ((n : Nat) : Int)), (9, .i64 ((i : Nat) : Int)), (10, .str q.1)], [(1000, some ⟨dC b key (ofI64 ((n : Nat) : Int)) [], 30, true⟩), (1008, some ⟨dC b key (ofI64 ((n : Nat) : Int)) [.sl 1016 (lb.length) (0) 1, .err 131 (0) (offE eo (0))], 35, true⟩), (1016, some ⟨.aggB lb, 5, true⟩), (3, some ⟨.aggI qsTab, e, false⟩), (0, some ⟨.agg [.err 131 (2) (offE eo (2))], errT, false⟩), (2, some ⟨.agg [.err 131 (3) (offE eo (3))], errT, false⟩), (1, some ⟨.agg [.err 131 (4) (offE eo (4))], errT, false⟩), (4, some ⟨.agg [.err 131 (5) (offE eo (5))], errT, false⟩), (450, some ⟨.agg (offC o (rowsC itemC l)), anyT, false⟩), (451, some ⟨.agg (offC p (od.map AV.i64)), anyT, false⟩)], 1024⟩) ?_ ?_
     ·refine .seq ?_
      refine .region ?_
      refine .q (op_move rfl) trivial rfl ?_
      refine .q (op_eqS rfl rfl rfl) trivial rfl ?_
      refine .nil ?_
      show Ev _ _ _ _ _
      refine .cond rfl (fun hc56 => ?_) (fun hc56 => ?_)
      ·skip
       refine .region ?_
       refine .q (op_assign rfl) trivial rfl ?_
       refine .nil ?_
       exact ⟨⟨[120], by decide, by decide⟩, StLe.mk [(1000, 1000), (1008, 1008), (1016, 1016)] rfl rfl ⟨⟨_, rfl, by first | rfl | (simp only [AV.ren]; congr 1; omega), rfl⟩, ⟨_, rfl, by first | rfl | (simp only [AV.ren]; congr 1; omega), rfl⟩, ⟨_, rfl, by first | rfl | (simp only [AV.ren]; congr 1; omega), rfl⟩, ⟨_, rfl, by first | rfl | (simp only [AV.ren]; congr 1; omega), rfl⟩, ⟨_, rfl, by first | rfl | (simp only [AV.ren]; congr 1; omega), rfl⟩, ⟨_, rfl, by first | rfl | (simp only [AV.ren]; congr 1; omega), rfl⟩, ⟨_, rfl, by first | rfl | (simp only [AV.ren]; congr 1; omega), rfl⟩, ⟨_, rfl, by first | rfl | (simp only [AV.ren]; congr 1; omega), rfl⟩, trivial⟩ ⟨⟨_, _, rfl, rfl, rfl, rfl, id, rfl⟩, ⟨_, _, rfl, rfl, rfl, rfl, id, rfl⟩, ⟨_, _, rfl, rfl, rfl, rfl, id, rfl⟩, ⟨_, _, rfl, rfl, rfl, rfl, id, rfl⟩, ⟨_, _, rfl, rfl, rfl, rfl, id, rfl⟩, ⟨_, _, rfl, rfl, rfl, rfl, id, rfl⟩, ⟨_, _, rfl, rfl, rfl, rfl, id, rfl⟩, ⟨_, _, rfl, rfl, rfl, rfl, id, rfl⟩, ⟨_, _, rfl, rfl, offC_ren _ o (rowsC_flat item_flat l), rfl, id, offC_nm _ o (rowsC_flat item_flat l)⟩, ⟨_, _, rfl, rfl, offC_ren _ p (show (od.map AV.i64).all AV.flatV = true by rw [List.all_map]; exact List.all_eq_true.2 fun _ _ => rfl), rfl, id, offC_nm _ p (show (od.map AV.i64).all AV.flatV = true by rw [List.all_map]; exact List.all_eq_true.2 fun _ _ => rfl)⟩, trivial⟩⟩
      ·skip
       refine .skip ?_
       exact ⟨⟨(l.getD i default).s.take 100, by have h9 : (l.getD i default).s.take 100 ≠ [] := (fun h9 => by rw [h9] at hc56; cases hc56); exact List.length_pos_iff.2 h9, by rw [List.length_take]; omega⟩, StLe.mk [(1000, 1000), (1008, 1008), (1016, 1016)] rfl rfl ⟨⟨_, rfl, by first | rfl | (simp only [AV.ren]; congr 1; omega), rfl⟩, ⟨_, rfl, by first | rfl | (simp only [AV.ren]; congr 1; omega), rfl⟩, ⟨_, rfl, by first | rfl | (simp only [AV.ren]; congr 1; omega), rfl⟩, ⟨_, rfl, by first | rfl | (simp only [AV.ren]; congr 1; omega), rfl⟩, ⟨_, rfl, by first | rfl | (simp only [AV.ren]; congr 1; omega), rfl⟩, ⟨_, rfl, by first | rfl | (simp only [AV.ren]; congr 1; omega), rfl⟩, ⟨_, rfl, by first | rfl | (simp only [AV.ren]; congr 1; omega), rfl⟩, ⟨_, rfl, by first | rfl | (simp only [AV.ren]; congr 1; omega), rfl⟩, trivial⟩ ⟨⟨_, _, rfl, rfl, rfl, rfl, id, rfl⟩, ⟨_, _, rfl, rfl, rfl, rfl, id, rfl⟩, ⟨_, _, rfl, rfl, rfl, rfl, id, rfl⟩, ⟨_, _, rfl, rfl, rfl, rfl, id, rfl⟩, ⟨_, _, rfl, rfl, rfl, rfl, id, rfl⟩, ⟨_, _, rfl, rfl, rfl, rfl, id, rfl⟩, ⟨_, _, rfl, rfl, rfl, rfl, id, rfl⟩, ⟨_, _, rfl, rfl, rfl, rfl, id, rfl⟩, ⟨_, _, rfl, rfl, offC_ren _ o (rowsC_flat item_flat l), rfl, id, offC_nm _ o (rowsC_flat item_flat l)⟩, ⟨_, _, rfl, rfl, offC_ren _ p (show (od.map AV.i64).all AV.flatV = true by rw [List.all_map]; exact List.all_eq_true.2 fun _ _ => rfl), rfl, id, offC_nm _ p (show (od.map AV.i64).all AV.flatV = true by rw [List.all_map]; exact List.all_eq_true.2 fun _ _ => rfl)⟩, trivial⟩⟩
     ·rintro ⟨s, hs1, hs2⟩
      dsimp only
      refine .seq ?_
      refine Ev.cutp (ι := PK b key (ofI64 ((n : Nat) : Int)) s) (fun q => ⟨[(0, .sl 450 o l.length 34), (1, .sl 451 p od.length 1), (5, .ptr 1000 0), (6, .ptr 1008 0), (7, .i64 ((cu_ : Nat) : Int)), (8, .i64 ((n : Nat) : Int)), (9, .i64 ((i : Nat) : Int)), (10, .str s), (11, .str q.P), (12, .err 131 (0) (offE eo (0)))], [(1000, some ⟨dC b key ((ofI64 ((n : Nat) : Int)) + 1) [], 30, true⟩), (1008, some ⟨dC b key (ofI64 ((n : Nat) : Int)) [.sl 1016 (lb.length) (0) 1, .err 131 (0) (offE eo (0))], 35, true⟩), (1016, some ⟨.aggB lb, 5, true⟩), (3, some ⟨.aggI qsTab, e, false⟩), (0, some ⟨.agg [.err 131 (2) (offE eo (2))], errT, false⟩), (2, some ⟨.agg [.err 131 (3) (offE eo (3))], errT, false⟩), (1, some ⟨.agg [.err 131 (4) (offE eo (4))], errT, false⟩), (4, some ⟨.agg [.err 131 (5) (offE eo (5))], errT, false⟩), (450, some ⟨.agg (offC o (rowsC itemC l)), anyT, false⟩), (451, some ⟨.agg (offC p (od.map AV.i64)), anyT, false⟩)], 1024⟩) ?_ ?_
      ·refine .region ?_
       refine .q (op_move rfl) trivial rfl ?_
       refine .a (op_call (U := [(1000, some ⟨dC b key ((ofI64 ((n : Nat) : Int)) + 1) [], 30, true⟩)]) [(500, 1000)] [] (wpack_ev b e key hk (ofI64 ((n : Nat) : Int)) s hs1 (by omega) eo) Tryd.func8 (by kernel_rfl) rfl rfl rfl (⟨⟨_, rfl, rfl, rfl⟩, ⟨_, rfl, rfl, rfl⟩, trivial⟩) (⟨⟨_, _, rfl, rfl, rfl, rfl, id, rfl⟩, ⟨_, _, rfl, rfl, rfl, rfl, (fun h => by cases h), rfl⟩, trivial⟩) (⟨⟨500, _, rfl, rfl, rfl, rfl, .inr ⟨rfl, _, rfl, rfl⟩⟩, trivial⟩) (⟨(fun _ => ⟨1000, _, rfl, rfl⟩), (fun h => by cases h), trivial⟩) rfl) trivial rfl ?_
       refine .q (op_move rfl) trivial rfl ?_
       refine .q (op_extract rfl rfl) trivial rfl ?_
       refine .q (op_extract rfl rfl) trivial rfl ?_
       refine .q (op_assign rfl) trivial rfl ?_
       refine .q (op_assign rfl) trivial rfl ?_
       refine .nil ?_
       exact ⟨PK.mk' b key (ofI64 ((n : Nat) : Int)) s hs1 hs2, StLe.mk [(1000, 1000), (1008, 1008), (1016, 1016)] rfl rfl ⟨⟨_, rfl, by first | rfl | (simp only [AV.ren]; congr 1; omega), rfl⟩, ⟨_, rfl, by first | rfl | (simp only [AV.ren]; congr 1; omega), rfl⟩, ⟨_, rfl, by first | rfl | (simp only [AV.ren]; congr 1; omega), rfl⟩, ⟨_, rfl, by first | rfl | (simp only [AV.ren]; congr 1; omega), rfl⟩, ⟨_, rfl, by first | rfl | (simp only [AV.ren]; congr 1; omega), rfl⟩, ⟨_, rfl, by first | rfl | (simp only [AV.ren]; congr 1; omega), rfl⟩, ⟨_, rfl, by first | rfl | (simp only [AV.ren]; congr 1; omega), rfl⟩, ⟨_, rfl, by first | rfl | (simp only [AV.ren]; congr 1; omega), rfl⟩, ⟨_, rfl, by first | rfl | (simp only [AV.ren]; congr 1; omega), rfl⟩, ⟨_, rfl, by first | rfl | (simp only [AV.ren]; congr 1; omega), rfl⟩, trivial⟩ ⟨⟨_, _, rfl, rfl, rfl, rfl, id, rfl⟩, ⟨_, _, rfl, rfl, rfl, rfl, id, rfl⟩, ⟨_, _, rfl, rfl, rfl, rfl, id, rfl⟩, ⟨_, _, rfl, rfl, rfl, rfl, id, rfl⟩, ⟨_, _, rfl, rfl, rfl, rfl, id, rfl⟩, ⟨_, _, rfl, rfl, rfl, rfl, id, rfl⟩, ⟨_, _, rfl, rfl, rfl, rfl, id, rfl⟩, ⟨_, _, rfl, rfl, rfl, rfl, id, rfl⟩, ⟨_, _, rfl, rfl, offC_ren _ o (rowsC_flat item_flat l), rfl, id, offC_nm _ o (rowsC_flat item_flat l)⟩, ⟨_, _, rfl, rfl, offC_ren _ p (show (od.map AV.i64).all AV.flatV = true by rw [List.all_map]; exact List.all_eq_true.2 fun _ _ => rfl), rfl, id, offC_nm _ p (show (od.map AV.i64).all AV.flatV = true by rw [List.all_map]; exact List.all_eq_true.2 fun _ _ => rfl)⟩, trivial⟩⟩
      ·rintro ⟨P, hP0, hP2, hPn, hPo⟩
       dsimp only
       refine .seq ?_
       refine .seq ?_
       refine .region ?_
       refine .q (op_move rfl) trivial rfl ?_
       refine .q (op_eqErrNil (e := 0) Tryd.underlying33 rfl rfl) trivial rfl ?_
       refine .nil ?_
       show Ev _ _ _ _ _
       refine .cond_false rfl (rfl) ?_
       refine .skip ?_
       show Ev _ _ _ _ _
       refine .seq ?_
       refine .block ?_
       refine Ev.loop (ι := PQ P cu_ lb.length) (fun q => ⟨[(0, .sl 450 o l.length 34), (1, .sl 451 p od.length 1), (5, .ptr 1000 0), (6, .ptr 1008 0), (7, .i64 ((q.ct : Nat) : Int)), (8, .i64 ((n : Nat) : Int)), (9, .i64 ((i : Nat) : Int)), (10, .str s), (11, .str (P.drop q.m)), (12, .err 131 (0) (offE eo (0)))], [(1000, some ⟨dC b key ((ofI64 ((n : Nat) : Int)) + 1) [], 30, true⟩), (1008, some ⟨dC b key (ofI64 ((n : Nat) : Int)) [.sl 1016 (q.q) (q.m) 1, .err 131 (0) (offE eo (0))], 35, true⟩), (1016, some ⟨.aggB q.lb, 5, true⟩), (3, some ⟨.aggI qsTab, e, false⟩), (0, some ⟨.agg [.err 131 (2) (offE eo (2))], errT, false⟩), (2, some ⟨.agg [.err 131 (3) (offE eo (3))], errT, false⟩), (1, some ⟨.agg [.err 131 (4) (offE eo (4))], errT, false⟩), (4, some ⟨.agg [.err 131 (5) (offE eo (5))], errT, false⟩), (450, some ⟨.agg (offC o (rowsC itemC l)), anyT, false⟩), (451, some ⟨.agg (offC p (od.map AV.i64)), anyT, false⟩)], 1024⟩) (fun q => P.length - q.m) ⟨0, cu_, lb.length, lb, Nat.zero_le _, rfl, by rw [List.drop_length]; rfl, Nat.le_refl _, Nat.le_refl _⟩ (StLe.mk [(1000, 1000), (1008, 1008), (1016, 1016)] rfl rfl ⟨⟨_, rfl, by first | rfl | (simp only [AV.ren]; congr 1; omega), rfl⟩, ⟨_, rfl, by first | rfl | (simp only [AV.ren]; congr 1; omega), rfl⟩, ⟨_, rfl, by first | rfl | (simp only [AV.ren]; congr 1; omega), rfl⟩, ⟨_, rfl, by first | rfl | (simp only [AV.ren]; congr 1; omega), rfl⟩, ⟨_, rfl, by first | rfl | (simp only [AV.ren]; congr 1; omega), rfl⟩, ⟨_, rfl, by first | rfl | (simp only [AV.ren]; congr 1; omega), rfl⟩, ⟨_, rfl, by first | rfl | (simp only [AV.ren]; congr 1; omega), rfl⟩, ⟨_, rfl, by first | rfl | (simp only [AV.ren]; congr 1; omega), rfl⟩, ⟨_, rfl, by first | rfl | (simp only [AV.ren]; congr 1; omega), rfl⟩, ⟨_, rfl, by first | rfl | (simp only [AV.ren]; congr 1; omega), rfl⟩, trivial⟩ ⟨⟨_, _, rfl, rfl, rfl, rfl, id, rfl⟩, ⟨_, _, rfl, rfl, rfl, rfl, id, rfl⟩, ⟨_, _, rfl, rfl, rfl, rfl, id, rfl⟩, ⟨_, _, rfl, rfl, rfl, rfl, id, rfl⟩, ⟨_, _, rfl, rfl, rfl, rfl, id, rfl⟩, ⟨_, _, rfl, rfl, rfl, rfl, id, rfl⟩, ⟨_, _, rfl, rfl, rfl, rfl, id, rfl⟩, ⟨_, _, rfl, rfl, rfl, rfl, id, rfl⟩, ⟨_, _, rfl, rfl, offC_ren _ o (rowsC_flat item_flat l), rfl, id, offC_nm _ o (rowsC_flat item_flat l)⟩, ⟨_, _, rfl, rfl, offC_ren _ p (show (od.map AV.i64).all AV.flatV = true by rw [List.all_map]; exact List.all_eq_true.2 fun _ _ => rfl), rfl, id, offC_nm _ p (show (od.map AV.i64).all AV.flatV = true by rw [List.all_map]; exact List.all_eq_true.2 fun _ _ => rfl)⟩, trivial⟩) ?_
       rintro ⟨m, ct2, q, lb2, hm, hq, hd, hat2, hlb2⟩
       dsimp only
       refine .seq ?_
       refine .seq ?_
       refine .region ?_
       refine .q (op_move rfl) trivial rfl ?_
       refine .q (op_eqS rfl rfl rfl) trivial rfl ?_
       refine .nil ?_
       show Ev _ _ _ _ _
       refine .cond rfl (fun hc65 => ?_) (fun hc65 => ?_)
       ·skip
        refine .skip ?_
        show Ev _ _ _ _ _
        refine .block ?_
        refine .seq ?_
        refine .seq ?_
        refine .region ?_
        have hmP : m < P.length := by
         rcases Nat.lt_or_ge m P.length with h9 | h9
         ·exact h9
         ·rw [List.drop_eq_nil_of_le h9] at hc65; cases hc65
        have hdl : (P.drop m).length = P.length - m := List.length_drop
        refine .q (op_call (U := []) [(500, 1008), (501, 1016)] [] (nexta_none b e key hk (ofI64 ((n : Nat) : Int)) q m lb2 hq (by omega) (by rw [hd]; exact hPn m hmP) eo) Tryd.func9 (by kernel_rfl) rfl rfl rfl (⟨⟨_, rfl, rfl, rfl⟩, trivial⟩) (⟨⟨_, _, rfl, rfl, rfl, rfl, (fun h => by cases h), rfl⟩, ⟨_, _, rfl, rfl, rfl, rfl, (fun h => by cases h), rfl⟩, ⟨_, _, rfl, rfl, rfl, rfl, (fun h => by cases h), rfl⟩, ⟨_, _, rfl, rfl, rfl, rfl, (fun h => by cases h), rfl⟩, ⟨_, _, rfl, rfl, rfl, rfl, (fun h => by cases h), rfl⟩, ⟨_, _, rfl, rfl, rfl, rfl, (fun h => by cases h), rfl⟩, ⟨_, _, rfl, rfl, rfl, rfl, (fun h => by cases h), rfl⟩, trivial⟩) (trivial) (⟨(fun h => by cases h), (fun h => by cases h), (fun h => by cases h), (fun h => by cases h), (fun h => by cases h), (fun h => by cases h), (fun h => by cases h), trivial⟩) rfl) trivial rfl ?_
        refine .q (op_move rfl) trivial rfl ?_
        refine .q (op_extract rfl rfl) trivial rfl ?_
        refine .q (op_extract rfl rfl) trivial rfl ?_
        refine .q (op_extract rfl rfl) trivial rfl ?_
        refine .q (op_assign rfl) trivial rfl ?_
        refine .q (op_assign rfl) trivial rfl ?_
        refine .q (op_assign rfl) trivial rfl ?_
        refine .nil ?_
        show Ev _ _ _ _ _
        refine .seq ?_
        refine .region ?_
        refine .q (op_move rfl) trivial rfl ?_
        refine .nil ?_
        show Ev _ _ _ _ _
        refine .cond_false rfl (rfl) ?_
        refine .skip ?_
        show Ev _ _ _ _ _
        refine .seq ?_
        refine .region ?_
        refine .q (op_move rfl) trivial rfl ?_
        refine .q (op_len_str Tryd.underlying9 rfl) trivial rfl ?_
        refine .q (op_assign rfl) trivial rfl ?_
        refine .nil ?_
        show Ev _ _ _ _ _
        refine .seq ?_
        refine Ev.cutp (ι := { K : Nat // 1 ≤ K ∧ K ≤ (P.drop m).length }) (fun z => ⟨[(0, .sl 450 o l.length 34), (1, .sl 451 p od.length 1), (5, .ptr 1000 0), (6, .ptr 1008 0), (7, .i64 ((ct2 : Nat) : Int)), (8, .i64 ((n : Nat) : Int)), (9, .i64 ((i : Nat) : Int)), (10, .str s), (11, .str (P.drop m)), (12, .err 131 (0) (offE eo (0))), (16, .i64 ((z.1 : Nat) : Int))], [(1000, some ⟨dC b key ((ofI64 ((n : Nat) : Int)) + 1) [], 30, true⟩), (1008, some ⟨dC b key (ofI64 ((n : Nat) : Int)) [.sl 1016 (q) (m) 1, .err 131 (0) (offE eo (0))], 35, true⟩), (1016, some ⟨.aggB lb2, 5, true⟩), (3, some ⟨.aggI qsTab, e, false⟩), (0, some ⟨.agg [.err 131 (2) (offE eo (2))], errT, false⟩), (2, some ⟨.agg [.err 131 (3) (offE eo (3))], errT, false⟩), (1, some ⟨.agg [.err 131 (4) (offE eo (4))], errT, false⟩), (4, some ⟨.agg [.err 131 (5) (offE eo (5))], errT, false⟩), (450, some ⟨.agg (offC o (rowsC itemC l)), anyT, false⟩), (451, some ⟨.agg (offC p (od.map AV.i64)), anyT, false⟩)], 1024⟩) ?_ ?_
        ·refine .seq ?_
         refine .region ?_
         refine .q (op_move rfl) trivial rfl ?_
         refine .q (op_move rfl) trivial rfl ?_
         refine .q (op_len_sl Tryd.underlying23 rfl) trivial rfl ?_
         refine .q (op_cmpI rfl rfl rfl) trivial rfl ?_
         refine .nil ?_
         show Ev _ _ _ _ _
         refine .cond rfl (fun hc77 => ?_) (fun hc77 => ?_)
         ·simp only [decide_eq_true_eq] at hc77
          refine .region ?_
          refine .q (op_move rfl) trivial rfl ?_
          refine .q (op_move rfl) trivial rfl ?_
          refine .q (ap_idx Tryd.underlying23 inf3.sz rfl rfl rfl (show ct2 < od.length by omega)) trivial rfl ?_
          refine .q (op_load Tryd.underlying3 rfl rfl rfl (offC_nth (by rw [List.getElem?_map, get_i 0 (show ct2 < od.length by omega)]; rfl)) (by rw [offC_len, List.length_map]; omega)) trivial rfl ?_
          refine .q (op_mask31 rfl rfl) trivial rfl ?_
          refine .q (op_addI rfl rfl ⟨by omega, by omega⟩) trivial rfl ?_
          refine .q (op_move rfl) trivial rfl ?_
          refine .q (op_len_str Tryd.underlying9 rfl) trivial rfl ?_
          refine .q (op_minI rfl rfl) trivial rfl ?_
          refine .q (op_assign rfl) trivial rfl ?_
          refine .nil ?_
          exact ⟨⟨(min (1 + od.getD ct2 0 % 32) (((P.drop m).length : Nat) : Int)).toNat, by omega, by omega⟩, StLe.mk [(1000, 1000), (1008, 1008), (1016, 1016)] rfl rfl ⟨⟨_, rfl, by first | rfl | (simp only [AV.ren]; congr 1; omega), rfl⟩, ⟨_, rfl, by first | rfl | (simp only [AV.ren]; congr 1; omega), rfl⟩, ⟨_, rfl, by first | rfl | (simp only [AV.ren]; congr 1; omega), rfl⟩, ⟨_, rfl, by first | rfl | (simp only [AV.ren]; congr 1; omega), rfl⟩, ⟨_, rfl, by first | rfl | (simp only [AV.ren]; congr 1; omega), rfl⟩, ⟨_, rfl, by first | rfl | (simp only [AV.ren]; congr 1; omega), rfl⟩, ⟨_, rfl, by first | rfl | (simp only [AV.ren]; congr 1; omega), rfl⟩, ⟨_, rfl, by first | rfl | (simp only [AV.ren]; congr 1; omega), rfl⟩, ⟨_, rfl, by first | rfl | (simp only [AV.ren]; congr 1; omega), rfl⟩, ⟨_, rfl, by first | rfl | (simp only [AV.ren]; congr 1; omega), rfl⟩, ⟨_, rfl, by first | rfl | exact congrArg AV.i64 (Int.toNat_of_nonneg (by omega)).symm, rfl⟩, trivial⟩ ⟨⟨_, _, rfl, rfl, rfl, rfl, id, rfl⟩, ⟨_, _, rfl, rfl, rfl, rfl, id, rfl⟩, ⟨_, _, rfl, rfl, rfl, rfl, id, rfl⟩, ⟨_, _, rfl, rfl, rfl, rfl, id, rfl⟩, ⟨_, _, rfl, rfl, rfl, rfl, id, rfl⟩, ⟨_, _, rfl, rfl, rfl, rfl, id, rfl⟩, ⟨_, _, rfl, rfl, rfl, rfl, id, rfl⟩, ⟨_, _, rfl, rfl, rfl, rfl, id, rfl⟩, ⟨_, _, rfl, rfl, offC_ren _ o (rowsC_flat item_flat l), rfl, id, offC_nm _ o (rowsC_flat item_flat l)⟩, ⟨_, _, rfl, rfl, offC_ren _ p (show (od.map AV.i64).all AV.flatV = true by rw [List.all_map]; exact List.all_eq_true.2 fun _ _ => rfl), rfl, id, offC_nm _ p (show (od.map AV.i64).all AV.flatV = true by rw [List.all_map]; exact List.all_eq_true.2 fun _ _ => rfl)⟩, trivial⟩⟩
         ·simp only [decide_eq_false_iff_not] at hc77
          refine .skip ?_
          exact ⟨⟨(P.drop m).length, by omega, Nat.le_refl _⟩, StLe.mk [(1000, 1000), (1008, 1008), (1016, 1016)] rfl rfl ⟨⟨_, rfl, by first | rfl | (simp only [AV.ren]; congr 1; omega), rfl⟩, ⟨_, rfl, by first | rfl | (simp only [AV.ren]; congr 1; omega), rfl⟩, ⟨_, rfl, by first | rfl | (simp only [AV.ren]; congr 1; omega), rfl⟩, ⟨_, rfl, by first | rfl | (simp only [AV.ren]; congr 1; omega), rfl⟩, ⟨_, rfl, by first | rfl | (simp only [AV.ren]; congr 1; omega), rfl⟩, ⟨_, rfl, by first | rfl | (simp only [AV.ren]; congr 1; omega), rfl⟩, ⟨_, rfl, by first | rfl | (simp only [AV.ren]; congr 1; omega), rfl⟩, ⟨_, rfl, by first | rfl | (simp only [AV.ren]; congr 1; omega), rfl⟩, ⟨_, rfl, by first | rfl | (simp only [AV.ren]; congr 1; omega), rfl⟩, ⟨_, rfl, by first | rfl | (simp only [AV.ren]; congr 1; omega), rfl⟩, ⟨_, rfl, by first | rfl | (simp only [AV.ren]; congr 1; omega), rfl⟩, trivial⟩ ⟨⟨_, _, rfl, rfl, rfl, rfl, id, rfl⟩, ⟨_, _, rfl, rfl, rfl, rfl, id, rfl⟩, ⟨_, _, rfl, rfl, rfl, rfl, id, rfl⟩, ⟨_, _, rfl, rfl, rfl, rfl, id, rfl⟩, ⟨_, _, rfl, rfl, rfl, rfl, id, rfl⟩, ⟨_, _, rfl, rfl, rfl, rfl, id, rfl⟩, ⟨_, _, rfl, rfl, rfl, rfl, id, rfl⟩, ⟨_, _, rfl, rfl, rfl, rfl, id, rfl⟩, ⟨_, _, rfl, rfl, offC_ren _ o (rowsC_flat item_flat l), rfl, id, offC_nm _ o (rowsC_flat item_flat l)⟩, ⟨_, _, rfl, rfl, offC_ren _ p (show (od.map AV.i64).all AV.flatV = true by rw [List.all_map]; exact List.all_eq_true.2 fun _ _ => rfl), rfl, id, offC_nm _ p (show (od.map AV.i64).all AV.flatV = true by rw [List.all_map]; exact List.all_eq_true.2 fun _ _ => rfl)⟩, trivial⟩⟩
        ·rintro ⟨K, hK1, hK2⟩
         dsimp only
         refine .seq ?_
         refine .region ?_
         refine .q (op_move rfl) trivial rfl ?_
         refine .q (op_addI rfl rfl ⟨by omega, by omega⟩) trivial rfl ?_
         refine .q (op_assign rfl) trivial rfl ?_
         refine .nil ?_
         show Ev _ _ _ _ _
         refine .seq ?_
         refine .region ?_
         refine .q (op_move rfl) trivial rfl ?_
         refine .q (op_move rfl) trivial rfl ?_
         refine .q (ap_slice_str_hi Tryd.underlying9 rfl (bnd_some rfl rfl) (by first | omega | (simp only [AV.len]; omega) | (simp only [AV.len, List.length_set]; omega) | assumption | (simp [AV.len]; done))) trivial rfl ?_
         refine .ax (op_callX (US := fun u => [(1008, some ⟨dC b key (ofI64 ((n : Nat) : Int)) ([.sl 1024 (u.1.1) ((m + ((P.drop m).take K).length)) 1, .err 131 (0) (offE eo (0))]), 35, true⟩), (1024, some ⟨.aggB u.1.2, 5, true⟩), (1016, none)]) [(500, 1008), (501, 1016)] [(1024, 1000)] (feedX_ev b key (ofI64 ((n : Nat) : Int)) q m lb2 hq (by omega) ((P.drop m).take K) (by rw [List.length_take]; omega) (by rw [List.length_take]; omega) eo) Tryd.func10 (by kernel_rfl) rfl rfl (fun _ => rfl) ⟨⟨_, rfl, rfl, rfl⟩, ⟨_, rfl, rfl, rfl⟩, trivial⟩ ⟨⟨_, _, rfl, rfl, rfl, rfl, id, rfl⟩, ⟨_, _, rfl, rfl, rfl, rfl, id, rfl⟩, trivial⟩ (fun _ => ⟨⟨500, _, rfl, rfl, rfl, rfl, .inr ⟨rfl, _, rfl, rfl⟩⟩, ⟨1000, _, rfl, rfl, rfl, rfl, .inl rfl⟩, trivial⟩) (fun _ => ⟨(fun _ => ⟨1008, _, rfl, rfl⟩), (fun _ => ⟨1016, _, rfl, rfl⟩), trivial⟩) (fun _ => rfl)) trivial rfl (fun u => ?_)
         show EvL _ _ _ _ _ _
         refine .nil ?_
         show Ev _ _ _ _ _
         refine .region ?_
         refine .q (op_move rfl) trivial rfl ?_
         refine .q (op_move rfl) trivial rfl ?_
         refine .q (ap_slice_str_lo Tryd.underlying9 rfl (bnd_some rfl rfl) (by first | omega | (simp only [AV.len]; omega) | (simp only [AV.len, List.length_set]; omega) | assumption | (simp [AV.len]; done))) trivial rfl ?_
         refine .q (op_assign rfl) trivial rfl ?_
         refine .nil ?_
         exact ⟨⟨m + K, ct2 + 1, u.1.1, u.1.2, by omega, by have h9 := u.2.1; have h7 : ((P.drop m).take K).length = K := (by rw [List.length_take]; omega); omega, by rw [u.2.2.1, hd, List.take_add], by omega, by have h9 := u.2.1; have h8 := u.2.2.2; have h7 : ((P.drop m).take K).length = K := (by rw [List.length_take]; omega); omega⟩, by show P.length - (m + K) < P.length - m; omega, StLe.mk [(1000, 1000), (1008, 1008), (1016, 1024)] rfl rfl ⟨⟨_, rfl, by first | rfl | (simp only [AV.ren]; congr 1; omega), rfl⟩, ⟨_, rfl, by first | rfl | (simp only [AV.ren]; congr 1; omega), rfl⟩, ⟨_, rfl, by first | rfl | (simp only [AV.ren]; congr 1; omega), rfl⟩, ⟨_, rfl, by first | rfl | (simp only [AV.ren]; congr 1; omega), rfl⟩, ⟨_, rfl, by first | rfl | (simp only [AV.ren]; congr 1; omega), rfl⟩, ⟨_, rfl, by first | rfl | (simp only [AV.ren]; congr 1; omega), rfl⟩, ⟨_, rfl, by first | rfl | (simp only [AV.ren]; congr 1; omega), rfl⟩, ⟨_, rfl, by first | rfl | (simp only [AV.ren]; congr 1; omega), rfl⟩, ⟨_, rfl, by first | rfl | exact congrArg AV.str (List.drop_drop ..), rfl⟩, ⟨_, rfl, by first | rfl | (simp only [AV.ren]; congr 1; omega), rfl⟩, trivial⟩ ⟨⟨_, _, rfl, rfl, rfl, rfl, id, rfl⟩, ⟨_, _, rfl, rfl, by first | rfl | exact congrArg (fun z => dC b key (ofI64 ((n : Nat) : Int)) [.sl 1016 u.1.1 z 1, .err 131 (0) (offE eo (0))]) (by show m + ((P.drop m).take K).length = m + K; rw [List.length_take]; omega), rfl, id, rfl⟩, ⟨_, _, rfl, rfl, rfl, rfl, id, rfl⟩, ⟨_, _, rfl, rfl, rfl, rfl, id, rfl⟩, ⟨_, _, rfl, rfl, rfl, rfl, id, rfl⟩, ⟨_, _, rfl, rfl, rfl, rfl, id, rfl⟩, ⟨_, _, rfl, rfl, rfl, rfl, id, rfl⟩, ⟨_, _, rfl, rfl, rfl, rfl, id, rfl⟩, ⟨_, _, rfl, rfl, offC_ren _ o (rowsC_flat item_flat l), rfl, id, offC_nm _ o (rowsC_flat item_flat l)⟩, ⟨_, _, rfl, rfl, offC_ren _ p (show (od.map AV.i64).all AV.flatV = true by rw [List.all_map]; exact List.all_eq_true.2 fun _ _ => rfl), rfl, id, offC_nm _ p (show (od.map AV.i64).all AV.flatV = true by rw [List.all_map]; exact List.all_eq_true.2 fun _ _ => rfl)⟩, trivial⟩⟩
       ·skip
        refine .exit ?_
        show Ev _ _ _ _ _
        refine .seq ?_
        refine .region ?_
        have hme : m = P.length := by
         rcases Nat.lt_or_ge m P.length with h9 | h9
         ·exact absurd hc65 (by rw [bne_eq_false_iff_eq]; intro h8; have h7 := congrArg List.length h8; rw [List.length_drop, List.length_nil] at h7; omega)
         ·omega
        refine .a (op_call (U := [(1008, some ⟨dC b key ((ofI64 ((n : Nat) : Int)) + 1) ([.sl 1016 (lb2.length) (0) 1, .err 131 (0) (offE eo (0))]), 35, true⟩)]) [(500, 1008), (501, 1016)] [] (nexta_ok b e key hk (ofI64 ((n : Nat) : Int)) q m lb2 hq (by omega) s (by omega) (by rw [hd, hme, List.take_length]; exact hPo) eo) Tryd.func9 (by kernel_rfl) rfl rfl rfl (⟨⟨_, rfl, rfl, rfl⟩, trivial⟩) (⟨⟨_, _, rfl, rfl, rfl, rfl, id, rfl⟩, ⟨_, _, rfl, rfl, rfl, rfl, (fun h => by cases h), rfl⟩, ⟨_, _, rfl, rfl, rfl, rfl, (fun h => by cases h), rfl⟩, ⟨_, _, rfl, rfl, rfl, rfl, (fun h => by cases h), rfl⟩, ⟨_, _, rfl, rfl, rfl, rfl, (fun h => by cases h), rfl⟩, ⟨_, _, rfl, rfl, rfl, rfl, (fun h => by cases h), rfl⟩, ⟨_, _, rfl, rfl, rfl, rfl, (fun h => by cases h), rfl⟩, trivial⟩) (⟨⟨500, _, rfl, rfl, rfl, rfl, .inr ⟨rfl, _, rfl, rfl⟩⟩, trivial⟩) (⟨(fun _ => ⟨1008, _, rfl, rfl⟩), (fun h => by cases h), (fun h => by cases h), (fun h => by cases h), (fun h => by cases h), (fun h => by cases h), (fun h => by cases h), trivial⟩) rfl) trivial rfl ?_
        refine .q (op_move rfl) trivial rfl ?_
        refine .q (op_extract rfl rfl) trivial rfl ?_
        refine .q (op_extract rfl rfl) trivial rfl ?_
        refine .q (op_extract rfl rfl) trivial rfl ?_
        refine .q (op_assign rfl) trivial rfl ?_
        refine .q (op_assign rfl) trivial rfl ?_
        refine .q (op_assign rfl) trivial rfl ?_
        refine .nil ?_
        show Ev _ _ _ _ _
        refine .seq ?_
        refine .region ?_
        refine .q (op_move rfl) trivial rfl ?_
        refine .q (op_addI rfl rfl ⟨by omega, by omega⟩) trivial rfl ?_
        refine .q (op_assign rfl) trivial rfl ?_
        refine .nil ?_
        show Ev _ _ _ _ _
        refine .seq ?_
        refine .region ?_
        refine .q (op_move rfl) trivial rfl ?_
        refine .q (op_move rfl) trivial rfl ?_
        refine .q (op_eqS rfl rfl rfl) trivial rfl ?_
        refine .q (op_move rfl) trivial rfl ?_
        refine .know (b' := false) (bne_self_eq_false _) ?_
        refine .q (op_move rfl) ⟨_, rfl, rfl⟩ rfl ?_
        refine .q (op_notB rfl) ⟨_, rfl, rfl⟩ rfl ?_
        refine .q (op_pick_false rfl rfl rfl) trivial rfl ?_
        refine .q (op_move rfl) trivial rfl ?_
        refine .know (b' := false) (rfl) ?_
        refine .q (op_move rfl) ⟨_, rfl, rfl⟩ rfl ?_
        refine .q (op_eqErrNil (e := 0) Tryd.underlying33 rfl rfl) ⟨_, rfl, rfl⟩ rfl ?_
        refine .q (op_pick_false rfl rfl rfl) trivial rfl ?_
        refine .q (op_move rfl) trivial rfl ?_
        refine .know (b' := false) (rfl) ?_
        refine .q (op_call (U := []) [(500, 1008), (501, 1016)] [] (waits_ev b key ((ofI64 ((n : Nat) : Int)) + 1) lb2.length 0 eo) Tryd.func11 (by kernel_rfl) rfl rfl rfl (⟨⟨_, rfl, rfl, rfl⟩, trivial⟩) (⟨⟨_, _, rfl, rfl, rfl, rfl, (fun h => by cases h), rfl⟩, trivial⟩) (trivial) (⟨(fun h => by cases h), trivial⟩) rfl) ⟨_, rfl, rfl⟩ rfl ?_
        refine .q (op_cmpI rfl rfl rfl) ⟨_, rfl, rfl⟩ rfl ?_
        refine .q (op_pick_false rfl rfl rfl) trivial rfl ?_
        refine .q (op_move rfl) trivial rfl ?_
        refine .know (b' := false) (rfl) ?_
        refine .q (op_fieldAddr (m := 33) Tryd.underlying35 rfl (by kernel_rfl) rfl) ⟨_, rfl, rfl⟩ rfl ?_
        refine .as (.ptr 1008 0) rfl ?_
        refine .q (op_call (U := []) [(500, 1008), (501, 1016)] [] (count_ev b key ((ofI64 ((n : Nat) : Int)) + 1) ([.sl 501 (lb2.length) (0) 1, .err 131 (0) (offE eo (0))]) 35) Tryd.func12 (by kernel_rfl) rfl rfl rfl (⟨⟨_, rfl, rfl, rfl⟩, trivial⟩) (⟨⟨_, _, rfl, rfl, rfl, rfl, (fun h => by cases h), rfl⟩, trivial⟩) (trivial) (⟨(fun h => by cases h), trivial⟩) rfl) ⟨_, rfl, rfl⟩ rfl ?_
        refine .q (op_move rfl) ⟨_, rfl, rfl⟩ rfl ?_
        refine .q (op_conv Tryd.underlying3 Tryd.underlying26 rfl rfl) ⟨_, rfl, rfl⟩ rfl ?_
        refine .as (.u64 ((ofI64 ((n : Nat) : Int)) + 1)) (congrArg AV.u64 (ofI64_succ n).symm) ?_
        refine .q (op_bin64 rfl rfl rfl) ⟨_, rfl, rfl⟩ rfl ?_
        refine .as (.bool false) (congrArg AV.bool (bne_self_eq_false _)) ?_
        refine .q (op_pick_false rfl rfl rfl) trivial rfl ?_
        refine .nil ?_
        show Ev _ _ _ _ _
        refine .cond_false rfl (rfl) ?_
        refine .skip ?_
        show Ev _ _ _ _ _
        refine .region ?_
        refine .q (op_move rfl) trivial rfl ?_
        refine .q (op_addI rfl rfl ⟨by omega, by omega⟩) trivial rfl ?_
        refine .q (op_assign rfl) trivial rfl ?_
        refine .nil ?_
        exact ⟨.inr ⟨i + 1, n + 1, ct2, b, key, lb2, hk, by omega, by omega, by omega, by omega, by omega⟩, by show 12 - (i + 1) < 12 - i; omega, StLe.mk [(1000, 1000), (1008, 1008), (1016, 1016)] rfl rfl ⟨⟨_, rfl, by first | rfl | (simp only [AV.ren]; congr 1; omega), rfl⟩, ⟨_, rfl, by first | rfl | (simp only [AV.ren]; congr 1; omega), rfl⟩, ⟨_, rfl, by first | rfl | (simp only [AV.ren]; congr 1; omega), rfl⟩, ⟨_, rfl, by first | rfl | (simp only [AV.ren]; congr 1; omega), rfl⟩, ⟨_, rfl, by first | rfl | (simp only [AV.ren]; congr 1; omega), rfl⟩, ⟨_, rfl, by first | rfl | (simp only [AV.ren]; congr 1; omega), rfl⟩, ⟨_, rfl, by first | rfl | (simp only [AV.ren]; congr 1; omega), rfl⟩, trivial⟩ ⟨⟨_, _, rfl, rfl, by first | rfl | exact congrArg (fun z => dC _ _ z _) (ofI64_succ _), rfl, id, rfl⟩, ⟨_, _, rfl, rfl, by first | rfl | exact congrArg (fun z => dC _ _ z _) (ofI64_succ _), rfl, id, rfl⟩, ⟨_, _, rfl, rfl, rfl, rfl, id, rfl⟩, ⟨_, _, rfl, rfl, rfl, rfl, id, rfl⟩, ⟨_, _, rfl, rfl, rfl, rfl, id, rfl⟩, ⟨_, _, rfl, rfl, rfl, rfl, id, rfl⟩, ⟨_, _, rfl, rfl, rfl, rfl, id, rfl⟩, ⟨_, _, rfl, rfl, rfl, rfl, id, rfl⟩, ⟨_, _, rfl, rfl, offC_ren _ o (rowsC_flat item_flat l), rfl, id, offC_nm _ o (rowsC_flat item_flat l)⟩, ⟨_, _, rfl, rfl, offC_ren _ p (show (od.map AV.i64).all AV.flatV = true by rw [List.all_map]; exact List.all_eq_true.2 fun _ _ => rfl), rfl, id, offC_nm _ p (show (od.map AV.i64).all AV.flatV = true by rw [List.all_map]; exact List.all_eq_true.2 fun _ _ => rfl)⟩, trivial⟩⟩
   ·simp only [decide_eq_false_iff_not] at hc29
    refine .exit ?_
    show Ev _ _ _ _ _
    refine .seq ?_
    refine .region ?_
    refine .q (op_assign rfl) trivial rfl ?_
    refine .nil ?_
    show Ev _ _ _ _ _
    refine .ret ?_
    show RetOk _ _ _ _ _ _ _
    exact ret1v rfl (.inl rfl) rfl rfl trivial
  ·simp only [decide_eq_false_iff_not] at hg26
   refine .no ⟨_, rfl, rfl⟩ rfl ?_
   refine .no ⟨_, rfl, rfl⟩ rfl ?_
   refine .q (op_pick_false rfl rfl rfl) trivial rfl ?_
   refine .nil ?_
   show Ev _ _ _ _ _
   refine .cond_false rfl rfl ?_
   refine .exit ?_
   show Ev _ _ _ _ _
   refine .seq ?_
   refine .region ?_
   refine .q (op_assign rfl) trivial rfl ?_
   refine .nil ?_
   show Ev _ _ _ _ _
   refine .ret ?_
   show RetOk _ _ _ _ _ _ _
   exact ret1v rfl (.inl rfl) rfl rfl trivial
end Go.Proofs.YtidjfinookikcaaDoor
