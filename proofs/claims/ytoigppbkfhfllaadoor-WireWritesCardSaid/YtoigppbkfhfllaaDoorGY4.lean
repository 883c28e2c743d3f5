/-
  Texts of this claim.
-/
import Derived.Test.YtoigppbkfhfllaaDoorGY3
namespace Go.Proofs.YtoigppbkfhfllaaDoor
open Go.RowKit
/-- A field: its kind, and what it has. -/
structure FV where
  k : Int
  n : UInt64
  s : List UInt8
  l : List (List UInt8)
  hs : s.length ≤ maxLen
  hl : l.length ≤ maxLen
  hb : ∀ j, (l.getD j []).length ≤ maxLen
instance : Inhabited FV := ⟨⟨0, 0, [], [], Nat.zero_le _, Nat.zero_le _, fun _ => Nat.zero_le _⟩⟩
def fvR (a : FV) : List AV := [.i64 a.k, .u64 a.n, .str a.s, .dsl a.l]
/-- The bytes of a field. -/
def wrF (f : FV) : List UInt8 :=
  if f.k = 0 then [f.n.toUInt8] else if f.k = 1 then boolB (f.n % 2 == 1) else if f.k = 2 then numB f.n.toUInt32.toUInt64 4 4 else if f.k = 3 then numB f.n 8 8
  else if f.k = 4 then f.s.take 40 else if f.k = 6 then namesB (fewL f.l) else if f.k = 7 then bigB (f.s.take 40) else textB (f.s.take 40)
def wrN (l : List FV) : Nat → List UInt8
  | 0 => []
  | k + 1 => wrN l k ++ wrF (l.getD k default)
theorem few_join (l : List (List UInt8)) : (joinB (fewL l)).length ≤ 430 := by
  rw [joinB_len]
  have := fewL_sum l
  have := fewL_len l
  omega
theorem big_len (s : List UInt8) : (bigB s).length = 4 + (unsB (shortB s)).length := length_textB _
theorem uns40 (s : List UInt8) : (unsB (shortB (s.take 40))).length ≤ 41 := by
  have h1 := length_unsB (shortB (s.take 40))
  have h2 := length_shortB (s.take 40)
  have h3 : (s.take 40).length ≤ 40 := List.length_take_le 40 s
  omega
theorem wrF_len (f : FV) : (wrF f).length ≤ 440 := by
  have h1 := few_join f.l
  have h2 : (f.s.take 40).length ≤ 40 := List.length_take_le 40 f.s
  have h3 := uns40 f.s
  unfold wrF
  split
  · simp
  split
  · rw [length_boolB]; omega
  split
  · rw [length_numB]; omega
  split
  · rw [length_numB]; omega
  split
  · omega
  split
  · rw [length_namesB]; omega
  split
  · rw [big_len]; omega
  · rw [length_textB]; omega
theorem wrF_ne {f : FV} (h : f.k ≠ 4 ∨ f.s.take 40 ≠ []) : wrF f ≠ [] := by
  intro h2
  have h3 := congrArg List.length h2
  revert h3
  unfold wrF
  split
  · simp
  split
  · rw [length_boolB]; simp
  split
  · rw [length_numB]; simp
  split
  · rw [length_numB]; simp
  split
  · rename_i h4
    intro h5
    rcases h with h | h
    · exact h h4
    · exact h (List.eq_nil_of_length_eq_zero h5)
  split
  · rw [length_namesB]; simp
  split
  · rw [big_len]; simp
  · rw [length_textB]; simp
theorem wrN_len (l : List FV) (k : Nat) : (wrN l k).length ≤ 440 * k := by
  induction k with
  | zero => exact Nat.le_refl _
  | succ k ih =>
    have := wrF_len (l.getD k default)
    simp only [wrN, List.length_append]; omega
theorem wrN_ne {l : List FV} {k : Nat} (h : wrN l k ≠ [] ∨ wrF (l.getD k default) ≠ []) : wrN l (k + 1) ≠ [] := fun h2 => by
  obtain ⟨h3, h4⟩ := List.append_eq_nil_iff.1 h2
  rcases h with h | h
  · exact h h3
  · exact h h4
theorem wrF_4 {f : FV} (h : f.k = 4) : wrF f = f.s.take 40 := by
  unfold wrF
  rw [if_neg (by omega), if_neg (by omega), if_neg (by omega), if_neg (by omega), if_pos h]
theorem wrF_4n {f : FV} (h : f.k = 4) (h2 : f.s.take 40 = []) : wrF f = [] := (wrF_4 h).trans h2
theorem fvR_row (o k : Nat) (l : List FV) (h : k < l.length) : fvR (l.getD k default) = ((AV.agg (offC o (rowsC fvR l))).list.drop (o + k * 4)).take 4 := by
  show _ = ((offC o (rowsC fvR l)).drop (o + k * 4)).take 4
  unfold offC
  rw [List.drop_append, List.length_replicate, List.drop_of_length_le (l := List.replicate o AV.hole) (by rw [List.length_replicate]; omega), List.nil_append, show o + k * 4 - o = k * 4 by omega]
  induction l generalizing k with
  | nil => simp at h
  | cons a l ih =>
    cases k with
    | zero => rfl
    | succ k =>
      have := ih k (by simpa using h)
      rw [show (k + 1) * 4 = k * 4 + 4 by omega]
      exact this
/-- Where the law stands: nothing written, nothing but empty texts, or bytes. -/
inductive WI (l : List FV)
  | fresh
  | touched (k : Nat) (h : k ≤ l.length ∧ k ≤ 20 ∧ 0 < k ∧ wrN l k = [])
  | used (k : Nat) (h : k ≤ l.length ∧ k ≤ 20 ∧ wrN l k ≠ [])
set_option maxHeartbeats 2000000 in
set_option maxRecDepth 100000 in
theorem wireWrites_ev (eo : Nat → Nat × Nat) (o : Nat) (l : List FV) (hl : l.length ≤ maxLen) : Meets Tryd.prog 3 [.sl 450 o l.length 4] [(3, some ⟨.agg [.err 161 (2) (offE eo (2))], errT, false⟩), (0, some ⟨.agg [.err 161 (4) (offE eo (4))], errT, false⟩), (1, some ⟨.agg [.err 161 (3) (offE eo (3))], errT, false⟩), (450, some ⟨.agg (offC o (rowsC fvR l)), anyT, false⟩)] (.bool true) [] := by
 have hl2 : l.length ≤ 9223372036854775807 := by unfold maxLen at hl; omega
 refine meets_of_ev (nt := 115) Tryd.func3 rfl rfl (Nat.le_of_ble_eq_true rfl) ?_
 refine .seq ?_
 refine .region ?_
 refine .q (op_assign rfl) trivial rfl ?_
 refine .nil ?_
 show Ev _ _ _ _ _
 refine .seq ?_
 refine .seq ?_
 refine .region ?_
 refine .q (op_call (U := []) [] [] (awake9_ev eo) Tryd.func7 (by kernel_rfl) rfl rfl rfl (trivial) (⟨⟨_, _, rfl, rfl, rfl, rfl, (fun h => by cases h), rfl⟩, ⟨_, _, rfl, rfl, rfl, rfl, (fun h => by cases h), rfl⟩, ⟨_, _, rfl, rfl, rfl, rfl, (fun h => by cases h), rfl⟩, trivial⟩) (trivial) (⟨(fun h => by cases h), (fun h => by cases h), (fun h => by cases h), trivial⟩) rfl) trivial rfl ?_
 refine .q (op_notB rfl) trivial rfl ?_
 refine .nil ?_
 show Ev _ _ _ _ _
 refine .cond_false rfl (rfl) ?_
 refine .skip ?_
 show Ev _ _ _ _ _
 refine .seq ?_
 refine .region ?_
 refine .a (op_allocRow zero29 rel_zero29 rfl) trivial rfl ?_
 refine .nil ?_
 show Ev _ _ _ _ _
 refine .seq ?_
 refine .region ?_
 refine .q (op_assign rfl) trivial rfl ?_
 refine .nil ?_
 show Ev _ _ _ _ _
 refine .seq ?_
 refine .seq ?_
 refine .region ?_
 refine .q (op_assign rfl) trivial rfl ?_
 refine .nil ?_
 show Ev _ _ _ _ _
 refine .block ?_
 refine Ev.loop (ι := WI l) (fun q => match q with | .fresh => ⟨[(0, .sl 450 o l.length 4), (2, .bool false), (3, .ptr 1000 0), (4, .str ([])), (5, .i64 ((0 : Nat) : Int))], [(1000, some ⟨.agg [.val (.pointer none), .nilsl], 29, true⟩), (3, some ⟨.agg [.err 161 (2) (offE eo (2))], errT, false⟩), (0, some ⟨.agg [.err 161 (4) (offE eo (4))], errT, false⟩), (1, some ⟨.agg [.err 161 (3) (offE eo (3))], errT, false⟩), (450, some ⟨.agg (offC o (rowsC fvR l)), anyT, false⟩)], 1008⟩ | .touched k _ => ⟨[(0, .sl 450 o l.length 4), (2, .bool false), (3, .ptr 1000 0), (4, .str (wrN l k)), (5, .i64 ((k : Nat) : Int))], [(1000, some ⟨.agg [.ptr 1000 0, .nilsl], 29, true⟩), (3, some ⟨.agg [.err 161 (2) (offE eo (2))], errT, false⟩), (0, some ⟨.agg [.err 161 (4) (offE eo (4))], errT, false⟩), (1, some ⟨.agg [.err 161 (3) (offE eo (3))], errT, false⟩), (450, some ⟨.agg (offC o (rowsC fvR l)), anyT, false⟩)], 1008⟩ | .used k _ => ⟨[(0, .sl 450 o l.length 4), (2, .bool false), (3, .ptr 1000 0), (4, .str (wrN l k)), (5, .i64 ((k : Nat) : Int))], [(1000, some ⟨.agg [.ptr 1000 0, .sl 1008 0 ((wrN l k).length) 1], 29, true⟩), (1008, some ⟨.aggB (wrN l k), 5, true⟩), (3, some ⟨.agg [.err 161 (2) (offE eo (2))], errT, false⟩), (0, some ⟨.agg [.err 161 (4) (offE eo (4))], errT, false⟩), (1, some ⟨.agg [.err 161 (3) (offE eo (3))], errT, false⟩), (450, some ⟨.agg (offC o (rowsC fvR l)), anyT, false⟩)], 1016⟩) (fun q => match q with | .fresh => l.length | .touched k _ => l.length - k | .used k _ => l.length - k) .fresh (StLe.mk [(1000, 1000)] rfl rfl ⟨⟨_, rfl, by rfl, rfl⟩, ⟨_, rfl, by rfl, rfl⟩, ⟨_, rfl, by rfl, rfl⟩, ⟨_, rfl, by rfl, rfl⟩, ⟨_, rfl, by rfl, rfl⟩, trivial⟩ ⟨⟨_, _, rfl, rfl, rfl, rfl, id, rfl⟩, ⟨_, _, rfl, rfl, rfl, rfl, (fun h => by cases h), rfl⟩, ⟨_, _, rfl, rfl, rfl, rfl, (fun h => by cases h), rfl⟩, ⟨_, _, rfl, rfl, rfl, rfl, (fun h => by cases h), rfl⟩, ⟨_, _, rfl, rfl, offC_ren _ o (rowsC_flat (fun _ => rfl) l), rfl, (fun h => by cases h), offC_nm _ o (rowsC_flat (fun _ => rfl) l)⟩, trivial⟩) ?_
 rintro (_ | ⟨k, hk⟩ | ⟨k, hk⟩)
 ·try dsimp only
  have hwl := wrN_len l 0
  have hfj := few_join (l.getD 0 default).l
  have hfs := fewL_sum (l.getD 0 default).l
  have hfl := fewL_len (l.getD 0 default).l
  have hu := uns40 (l.getD 0 default).s
  have h4l : ((l.getD 0 default).s.take 40).length ≤ 40 := List.length_take_le 40 _
  refine .seq ?_
  refine .seq ?_
  refine .region ?_
  refine .q (op_move rfl) trivial rfl ?_
  refine .q (op_move rfl) trivial rfl ?_
  refine .q (op_len_sl Tryd.underlying22 rfl) trivial rfl ?_
  refine .q (op_cmpI rfl rfl rfl) trivial rfl ?_
  refine .q (op_move rfl) trivial rfl ?_
  refine .split (fun hg13 => ?_) (fun hg13 => ?_)
  ·simp only [decide_eq_true_eq] at hg13
   refine .q (op_move rfl) ⟨_, rfl, rfl⟩ rfl ?_
   refine .q (op_cmpI rfl rfl rfl) ⟨_, rfl, rfl⟩ rfl ?_
   refine .q (op_pick_true rfl rfl rfl) trivial rfl ?_
   refine .nil ?_
   show Ev _ _ _ _ _
   refine .cond rfl (fun hc16 => ?_) (fun hc16 => ?_)
   ·simp only [decide_eq_true_eq] at hc16
    refine .skip ?_
    show Ev _ _ _ _ _
    refine .seq ?_
    refine .block ?_
    refine .seq ?_
    refine .region ?_
    refine .q (op_move rfl) trivial rfl ?_
    refine .q (op_move rfl) trivial rfl ?_
    refine .q (op_indexAddr (z := 4) Tryd.underlying22 (by kernel_rfl) rfl rfl rfl (show 0 < l.length by omega)) trivial rfl ?_
    refine .q (op_loadPart (m := 4) (r := .agg [.i64 (l.getD 0 default).k, .u64 (l.getD 0 default).n, .str (l.getD 0 default).s, .dsl (l.getD 0 default).l]) (cs := fvR (l.getD 0 default)) Tryd.underlying33 rfl (by kernel_rfl) rfl rfl rfl rfl (fvR_row o 0 l (show 0 < l.length by omega)) (by rw [offC_len, rowsC_len (f := fvR) (z := 4) (fun _ => rfl)]; omega)) trivial rfl ?_
    refine .q (op_call (U := []) [] [] (few_ev (l.getD 0 default).k (l.getD 0 default).n (l.getD 0 default).s (l.getD 0 default).l (Nat.le_trans (l.getD 0 default).hs (by decide)) (Nat.le_trans (l.getD 0 default).hl (by decide)) (fun j => Nat.le_trans ((l.getD 0 default).hb j) (by decide))) Tryd.func8 (by kernel_rfl) rfl rfl rfl (⟨⟨_, rfl, rfl, rfl⟩, trivial⟩) (trivial) (trivial) (trivial) rfl) trivial rfl ?_
    refine .as (.agg [.i64 (l.getD 0 default).k, .u64 (l.getD 0 default).n, .str ((l.getD 0 default).s.take 40), .dsl (fewL (l.getD 0 default).l)]) rfl ?_
    refine .a (op_allocRow zero33 rel_zero33 rfl) trivial rfl ?_
    refine .w (op_storeRow (by kernel_rfl) rfl rfl rfl rfl rfl (rfl) (rfl)) trivial rfl ?_
    refine .nil ?_
    show Ev _ _ _ _ _
    refine .seq ?_
    refine .region ?_
    refine .q (op_fieldAddr (m := 0) Tryd.underlying33 rfl (by kernel_rfl) rfl) trivial rfl ?_
    refine .as (.ptr 1008 0) rfl ?_
    refine .q (op_load Tryd.underlying3 rfl rfl rfl rfl (by show 0 < 4; decide)) trivial rfl ?_
    refine .nil ?_
    show Ev _ _ _ _ _
    refine .block ?_
    refine .seq ?_
    refine .region ?_
    refine .q (op_cmpI rfl rfl rfl) trivial rfl ?_
    refine .q (op_assign rfl) trivial rfl ?_
    refine .nil ?_
    show Ev _ _ _ _ _
    refine .cond rfl (fun hc34 => ?_) (fun hc34 => ?_)
    ·simp only [beq_iff_eq] at hc34
     refine .seq ?_
     refine .region ?_
     refine .q (op_fieldAddr (m := 0) Tryd.underlying33 rfl (by kernel_rfl) rfl) trivial rfl ?_
     refine .as (.ptr 1008 1) rfl ?_
     refine .q (op_load Tryd.underlying30 rfl rfl rfl rfl (by show 1 < 4; decide)) trivial rfl ?_
     refine .q (op_conv Tryd.underlying30 Tryd.underlying5 rfl rfl) trivial rfl ?_
     refine .a (op_call (U := [(1000, some ⟨.agg [.ptr 1000 0, .sl 1016 0 (1) 1], 29, true⟩), (1016, some ⟨.aggB ([(l.getD 0 default).n.toUInt8]), 5, true⟩)]) [(500, 1000)] [(1016, 1000)] (byte0_ev (l.getD 0 default).n.toUInt8) Tryd.func9 (by kernel_rfl) rfl rfl rfl (⟨⟨_, rfl, rfl, rfl⟩, ⟨_, rfl, rfl, rfl⟩, trivial⟩) (⟨⟨_, _, rfl, rfl, rfl, rfl, id, rfl⟩, trivial⟩) (⟨⟨500, _, rfl, rfl, rfl, rfl, .inr ⟨rfl, _, rfl, rfl⟩⟩, ⟨1000, _, rfl, rfl, rfl, rfl, .inl rfl⟩, trivial⟩) (⟨(fun _ => ⟨1000, _, rfl, rfl⟩), trivial⟩) rfl) trivial rfl ?_
     refine .nil ?_
     show Ev _ _ _ _ _
     refine .region ?_
     refine .q (op_move rfl) trivial rfl ?_
     refine .q (op_fieldAddr (m := 0) Tryd.underlying33 rfl (by kernel_rfl) rfl) trivial rfl ?_
     refine .as (.ptr 1008 1) rfl ?_
     refine .q (op_load Tryd.underlying30 rfl rfl rfl rfl (by show 1 < 4; decide)) trivial rfl ?_
     refine .q (op_conv Tryd.underlying30 Tryd.underlying5 rfl rfl) trivial rfl ?_
     refine .a (ap_build (us := [.u8 (l.getD 0 default).n.toUInt8]) (c := .aggB [(l.getD 0 default).n.toUInt8]) Tryd.underlying25 inf5 rfl (by decide) (by decide) ⟨rfl, rfl, rfl, trivial⟩ rfl) trivial rfl ?_
     refine .q (op_bytes_str Tryd.underlying25 Tryd.underlying5 Tryd.underlying9 rfl rfl rfl (by show 0 + 1 ≤ 1; decide)) trivial rfl ?_
     refine .as (.str ([(l.getD 0 default).n.toUInt8])) (congrArg AV.str (by rfl)) ?_
     refine .q (op_addS rfl rfl (by first | omega | (simp only [List.length_cons, List.length_nil]; omega))) trivial rfl ?_
     refine .q (op_assign rfl) trivial rfl ?_
     refine .nil ?_
     show Ev _ _ _ _ _
     refine .region ?_
     refine .q (op_move rfl) trivial rfl ?_
     refine .q (op_addI rfl rfl ⟨by omega, by omega⟩) trivial rfl ?_
     refine .q (op_assign rfl) trivial rfl ?_
     refine .nil ?_
     have hw : wrF (l.getD 0 default) = [(l.getD 0 default).n.toUInt8] := by unfold wrF; first | (rw [if_pos hc34]) | (rw [if_neg hc34, if_pos hc47]) | (rw [if_neg hc34, if_neg hc47, if_pos hc62]) | (rw [if_neg hc34, if_neg hc47, if_neg hc62, if_pos hc73]) | (rw [if_neg hc34, if_neg hc47, if_neg hc62, if_neg hc73, if_pos hc83]) | (rw [if_neg hc34, if_neg hc47, if_neg hc62, if_neg hc73, if_neg hc83, if_pos hc92]) | (rw [if_neg hc34, if_neg hc47, if_neg hc62, if_neg hc73, if_neg hc83, if_neg hc92, if_pos hc102]) | (rw [if_neg hc34, if_neg hc47, if_neg hc62, if_neg hc73, if_neg hc83, if_neg hc92, if_neg hc102])
     have hN : wrN l (1) = wrN l 0 ++ [(l.getD 0 default).n.toUInt8] := by rw [← hw]; rfl
     have hNL : (wrN l (1)).length = (wrN l 0).length + ([(l.getD 0 default).n.toUInt8]).length := by rw [hN, List.length_append]
     exact ⟨.used (1) ⟨by omega, by omega, wrN_ne (.inr (wrF_ne (by first | exact .inl (by omega) | exact .inr h40)))⟩, by show l.length - 1 < l.length; omega, StLe.mk [(1000, 1000), (1008, 1016)] rfl rfl ⟨⟨_, rfl, by rfl, rfl⟩, ⟨_, rfl, by rfl, rfl⟩, ⟨_, rfl, by rfl, rfl⟩, ⟨_, rfl, by (exact congrArg AV.str (by rw [hN]; first | done | rfl)), rfl⟩, ⟨_, rfl, by rfl, rfl⟩, trivial⟩ ⟨⟨_, _, rfl, rfl, by (simp only [AV.ren, AV.renL]; exact congrArg (fun z => AV.agg [.ptr 1000 0, .sl 1008 0 z 1]) (by rw [hNL]; first | done | (simp only [wrN, List.length_nil, List.length_cons]; done) | (simp only [wrN, List.length_nil, length_boolB, length_numB, length_namesB, big_len, length_textB, List.length_cons]; omega))), rfl, id, rfl⟩, ⟨_, _, rfl, rfl, by (exact congrArg AV.aggB (by rw [hN]; first | done | rfl)), rfl, id, rfl⟩, ⟨_, _, rfl, rfl, rfl, rfl, (fun h => by cases h), rfl⟩, ⟨_, _, rfl, rfl, rfl, rfl, (fun h => by cases h), rfl⟩, ⟨_, _, rfl, rfl, rfl, rfl, (fun h => by cases h), rfl⟩, ⟨_, _, rfl, rfl, offC_ren _ o (rowsC_flat (fun _ => rfl) l), rfl, (fun h => by cases h), offC_nm _ o (rowsC_flat (fun _ => rfl) l)⟩, trivial⟩⟩
    ·simp only [ne_eq, beq_eq_false_iff_ne] at hc34
     refine .seq ?_
     refine .region ?_
     refine .q (op_cmpI rfl rfl rfl) trivial rfl ?_
     refine .q (op_assign rfl) trivial rfl ?_
     refine .nil ?_
     show Ev _ _ _ _ _
     refine .cond rfl (fun hc47 => ?_) (fun hc47 => ?_)
     ·simp only [beq_iff_eq] at hc47
      refine .seq ?_
      refine .region ?_
      refine .q (op_fieldAddr (m := 0) Tryd.underlying33 rfl (by kernel_rfl) rfl) trivial rfl ?_
      refine .as (.ptr 1008 1) rfl ?_
      refine .q (op_load Tryd.underlying30 rfl rfl rfl rfl (by show 1 < 4; decide)) trivial rfl ?_
      refine .q (op_rem64 rfl rfl (by decide)) trivial rfl ?_
      refine .q (op_bin64 rfl rfl rfl) trivial rfl ?_
      refine .as (.bool ((l.getD 0 default).n % 2 == 1)) rfl ?_
      refine .a (op_call (U := [(1000, some ⟨.agg [.ptr 1000 0, .sl 1016 0 (1) 1], 29, true⟩), (1016, some ⟨.aggB (boolB ((l.getD 0 default).n % 2 == 1)), 5, true⟩)]) [(500, 1000)] [(1016, 1000)] (bool0_ev ((l.getD 0 default).n % 2 == 1)) Tryd.func10 (by kernel_rfl) rfl rfl rfl (⟨⟨_, rfl, rfl, rfl⟩, ⟨_, rfl, rfl, rfl⟩, trivial⟩) (⟨⟨_, _, rfl, rfl, rfl, rfl, id, rfl⟩, trivial⟩) (⟨⟨500, _, rfl, rfl, rfl, rfl, .inr ⟨rfl, _, rfl, rfl⟩⟩, ⟨1000, _, rfl, rfl, rfl, rfl, .inl rfl⟩, trivial⟩) (⟨(fun _ => ⟨1000, _, rfl, rfl⟩), trivial⟩) rfl) trivial rfl ?_
      refine .nil ?_
      show Ev _ _ _ _ _
      refine .region ?_
      refine .q (op_move rfl) trivial rfl ?_
      refine .q (op_fieldAddr (m := 0) Tryd.underlying33 rfl (by kernel_rfl) rfl) trivial rfl ?_
      refine .as (.ptr 1008 1) rfl ?_
      refine .q (op_load Tryd.underlying30 rfl rfl rfl rfl (by show 1 < 4; decide)) trivial rfl ?_
      refine .q (op_rem64 rfl rfl (by decide)) trivial rfl ?_
      refine .q (op_conv Tryd.underlying30 Tryd.underlying5 rfl rfl) trivial rfl ?_
      refine .a (ap_build (us := [.u8 ((l.getD 0 default).n % 2).toUInt8]) (c := .aggB [((l.getD 0 default).n % 2).toUInt8]) Tryd.underlying25 inf5 rfl (by decide) (by decide) ⟨rfl, rfl, rfl, trivial⟩ rfl) trivial rfl ?_
      refine .q (op_bytes_str Tryd.underlying25 Tryd.underlying5 Tryd.underlying9 rfl rfl rfl (by show 0 + 1 ≤ 1; decide)) trivial rfl ?_
      refine .as (.str (boolB ((l.getD 0 default).n % 2 == 1))) (congrArg AV.str (by exact bool_byte (l.getD 0 default).n)) ?_
      refine .q (op_addS rfl rfl (by first | omega | (simp only [List.length_nil, length_boolB]; omega))) trivial rfl ?_
      refine .q (op_assign rfl) trivial rfl ?_
      refine .nil ?_
      show Ev _ _ _ _ _
      refine .region ?_
      refine .q (op_move rfl) trivial rfl ?_
      refine .q (op_addI rfl rfl ⟨by omega, by omega⟩) trivial rfl ?_
      refine .q (op_assign rfl) trivial rfl ?_
      refine .nil ?_
      have hw : wrF (l.getD 0 default) = boolB ((l.getD 0 default).n % 2 == 1) := by unfold wrF; first | (rw [if_pos hc34]) | (rw [if_neg hc34, if_pos hc47]) | (rw [if_neg hc34, if_neg hc47, if_pos hc62]) | (rw [if_neg hc34, if_neg hc47, if_neg hc62, if_pos hc73]) | (rw [if_neg hc34, if_neg hc47, if_neg hc62, if_neg hc73, if_pos hc83]) | (rw [if_neg hc34, if_neg hc47, if_neg hc62, if_neg hc73, if_neg hc83, if_pos hc92]) | (rw [if_neg hc34, if_neg hc47, if_neg hc62, if_neg hc73, if_neg hc83, if_neg hc92, if_pos hc102]) | (rw [if_neg hc34, if_neg hc47, if_neg hc62, if_neg hc73, if_neg hc83, if_neg hc92, if_neg hc102])
      have hN : wrN l (1) = wrN l 0 ++ boolB ((l.getD 0 default).n % 2 == 1) := by rw [← hw]; rfl
      have hNL : (wrN l (1)).length = (wrN l 0).length + (boolB ((l.getD 0 default).n % 2 == 1)).length := by rw [hN, List.length_append]
      exact ⟨.used (1) ⟨by omega, by omega, wrN_ne (.inr (wrF_ne (by first | exact .inl (by omega) | exact .inr h40)))⟩, by show l.length - 1 < l.length; omega, StLe.mk [(1000, 1000), (1008, 1016)] rfl rfl ⟨⟨_, rfl, by rfl, rfl⟩, ⟨_, rfl, by rfl, rfl⟩, ⟨_, rfl, by rfl, rfl⟩, ⟨_, rfl, by (exact congrArg AV.str (by rw [hN]; first | done | rfl)), rfl⟩, ⟨_, rfl, by rfl, rfl⟩, trivial⟩ ⟨⟨_, _, rfl, rfl, by (simp only [AV.ren, AV.renL]; exact congrArg (fun z => AV.agg [.ptr 1000 0, .sl 1008 0 z 1]) (by rw [hNL]; first | done | (simp only [wrN, List.length_nil, length_boolB]; done) | (simp only [wrN, List.length_nil, length_boolB, length_numB, length_namesB, big_len, length_textB, List.length_cons]; omega))), rfl, id, rfl⟩, ⟨_, _, rfl, rfl, by (exact congrArg AV.aggB (by rw [hN]; first | done | rfl)), rfl, id, rfl⟩, ⟨_, _, rfl, rfl, rfl, rfl, (fun h => by cases h), rfl⟩, ⟨_, _, rfl, rfl, rfl, rfl, (fun h => by cases h), rfl⟩, ⟨_, _, rfl, rfl, rfl, rfl, (fun h => by cases h), rfl⟩, ⟨_, _, rfl, rfl, offC_ren _ o (rowsC_flat (fun _ => rfl) l), rfl, (fun h => by cases h), offC_nm _ o (rowsC_flat (fun _ => rfl) l)⟩, trivial⟩⟩
     ·simp only [ne_eq, beq_eq_false_iff_ne] at hc47
      refine .seq ?_
      refine .region ?_
      refine .q (op_cmpI rfl rfl rfl) trivial rfl ?_
      refine .q (op_assign rfl) trivial rfl ?_
      refine .nil ?_
      show Ev _ _ _ _ _
      refine .cond rfl (fun hc62 => ?_) (fun hc62 => ?_)
      ·simp only [beq_iff_eq] at hc62
       refine .seq ?_
       refine .region ?_
       refine .q (op_fieldAddr (m := 0) Tryd.underlying33 rfl (by kernel_rfl) rfl) trivial rfl ?_
       refine .as (.ptr 1008 1) rfl ?_
       refine .q (op_load Tryd.underlying30 rfl rfl rfl rfl (by show 1 < 4; decide)) trivial rfl ?_
       refine .q (op_conv Tryd.underlying30 Tryd.underlying39 rfl rfl) trivial rfl ?_
       refine .a (op_call (U := [(1000, some ⟨.agg [.ptr 1000 0, .sl 1016 0 (4) 1], 29, true⟩), (1016, some ⟨.aggB (numB (l.getD 0 default).n.toUInt32.toUInt64 4 4), 5, true⟩)]) [(500, 1000)] [(1016, 1000)] (u320_ev (l.getD 0 default).n.toUInt32) Tryd.func11 (by kernel_rfl) rfl rfl rfl (⟨⟨_, rfl, rfl, rfl⟩, ⟨_, rfl, rfl, rfl⟩, trivial⟩) (⟨⟨_, _, rfl, rfl, rfl, rfl, id, rfl⟩, trivial⟩) (⟨⟨500, _, rfl, rfl, rfl, rfl, .inr ⟨rfl, _, rfl, rfl⟩⟩, ⟨1000, _, rfl, rfl, rfl, rfl, .inl rfl⟩, trivial⟩) (⟨(fun _ => ⟨1000, _, rfl, rfl⟩), trivial⟩) rfl) trivial rfl ?_
       refine .nil ?_
       show Ev _ _ _ _ _
       refine .region ?_
       refine .q (op_move rfl) trivial rfl ?_
       refine .q (op_fieldAddr (m := 0) Tryd.underlying33 rfl (by kernel_rfl) rfl) trivial rfl ?_
       refine .as (.ptr 1008 1) rfl ?_
       refine .q (op_load Tryd.underlying30 rfl rfl rfl rfl (by show 1 < 4; decide)) trivial rfl ?_
       refine .q (op_call (U := []) [] [] (rnumB_ev (l.getD 0 default).n 4 (by decide)) Tryd.func12 (by kernel_rfl) rfl rfl rfl (⟨⟨_, rfl, rfl, rfl⟩, ⟨_, rfl, rfl, rfl⟩, trivial⟩) (trivial) (trivial) (trivial) rfl) trivial rfl ?_
       refine .as (.str (numB (l.getD 0 default).n.toUInt32.toUInt64 4 4)) (congrArg AV.str (by exact tl_u32 (l.getD 0 default).n)) ?_
       refine .q (op_addS rfl rfl (by first | omega | (simp only [List.length_nil, length_numB]; omega))) trivial rfl ?_
       refine .q (op_assign rfl) trivial rfl ?_
       refine .nil ?_
       show Ev _ _ _ _ _
       refine .region ?_
       refine .q (op_move rfl) trivial rfl ?_
       refine .q (op_addI rfl rfl ⟨by omega, by omega⟩) trivial rfl ?_
       refine .q (op_assign rfl) trivial rfl ?_
       refine .nil ?_
       have hw : wrF (l.getD 0 default) = numB (l.getD 0 default).n.toUInt32.toUInt64 4 4 := by unfold wrF; first | (rw [if_pos hc34]) | (rw [if_neg hc34, if_pos hc47]) | (rw [if_neg hc34, if_neg hc47, if_pos hc62]) | (rw [if_neg hc34, if_neg hc47, if_neg hc62, if_pos hc73]) | (rw [if_neg hc34, if_neg hc47, if_neg hc62, if_neg hc73, if_pos hc83]) | (rw [if_neg hc34, if_neg hc47, if_neg hc62, if_neg hc73, if_neg hc83, if_pos hc92]) | (rw [if_neg hc34, if_neg hc47, if_neg hc62, if_neg hc73, if_neg hc83, if_neg hc92, if_pos hc102]) | (rw [if_neg hc34, if_neg hc47, if_neg hc62, if_neg hc73, if_neg hc83, if_neg hc92, if_neg hc102])
       have hN : wrN l (1) = wrN l 0 ++ numB (l.getD 0 default).n.toUInt32.toUInt64 4 4 := by rw [← hw]; rfl
       have hNL : (wrN l (1)).length = (wrN l 0).length + (numB (l.getD 0 default).n.toUInt32.toUInt64 4 4).length := by rw [hN, List.length_append]
       exact ⟨.used (1) ⟨by omega, by omega, wrN_ne (.inr (wrF_ne (by first | exact .inl (by omega) | exact .inr h40)))⟩, by show l.length - 1 < l.length; omega, StLe.mk [(1000, 1000), (1008, 1016)] rfl rfl ⟨⟨_, rfl, by rfl, rfl⟩, ⟨_, rfl, by rfl, rfl⟩, ⟨_, rfl, by rfl, rfl⟩, ⟨_, rfl, by (exact congrArg AV.str (by rw [hN]; first | done | rfl)), rfl⟩, ⟨_, rfl, by rfl, rfl⟩, trivial⟩ ⟨⟨_, _, rfl, rfl, by (simp only [AV.ren, AV.renL]; exact congrArg (fun z => AV.agg [.ptr 1000 0, .sl 1008 0 z 1]) (by rw [hNL]; first | done | (simp only [wrN, List.length_nil, length_numB]; done) | (simp only [wrN, List.length_nil, length_boolB, length_numB, length_namesB, big_len, length_textB, List.length_cons]; omega))), rfl, id, rfl⟩, ⟨_, _, rfl, rfl, by (exact congrArg AV.aggB (by rw [hN]; first | done | rfl)), rfl, id, rfl⟩, ⟨_, _, rfl, rfl, rfl, rfl, (fun h => by cases h), rfl⟩, ⟨_, _, rfl, rfl, rfl, rfl, (fun h => by cases h), rfl⟩, ⟨_, _, rfl, rfl, rfl, rfl, (fun h => by cases h), rfl⟩, ⟨_, _, rfl, rfl, offC_ren _ o (rowsC_flat (fun _ => rfl) l), rfl, (fun h => by cases h), offC_nm _ o (rowsC_flat (fun _ => rfl) l)⟩, trivial⟩⟩
      ·simp only [ne_eq, beq_eq_false_iff_ne] at hc62
       refine .seq ?_
       refine .region ?_
       refine .q (op_cmpI rfl rfl rfl) trivial rfl ?_
       refine .q (op_assign rfl) trivial rfl ?_
       refine .nil ?_
       show Ev _ _ _ _ _
       refine .cond rfl (fun hc73 => ?_) (fun hc73 => ?_)
       ·simp only [beq_iff_eq] at hc73
        refine .seq ?_
        refine .region ?_
        refine .q (op_fieldAddr (m := 0) Tryd.underlying33 rfl (by kernel_rfl) rfl) trivial rfl ?_
        refine .as (.ptr 1008 1) rfl ?_
        refine .q (op_load Tryd.underlying30 rfl rfl rfl rfl (by show 1 < 4; decide)) trivial rfl ?_
        refine .a (op_call (U := [(1000, some ⟨.agg [.ptr 1000 0, .sl 1016 0 (8) 1], 29, true⟩), (1016, some ⟨.aggB (numB (l.getD 0 default).n 8 8), 5, true⟩)]) [(500, 1000)] [(1016, 1000)] (u640_ev (l.getD 0 default).n) Tryd.func13 (by kernel_rfl) rfl rfl rfl (⟨⟨_, rfl, rfl, rfl⟩, ⟨_, rfl, rfl, rfl⟩, trivial⟩) (⟨⟨_, _, rfl, rfl, rfl, rfl, id, rfl⟩, trivial⟩) (⟨⟨500, _, rfl, rfl, rfl, rfl, .inr ⟨rfl, _, rfl, rfl⟩⟩, ⟨1000, _, rfl, rfl, rfl, rfl, .inl rfl⟩, trivial⟩) (⟨(fun _ => ⟨1000, _, rfl, rfl⟩), trivial⟩) rfl) trivial rfl ?_
        refine .nil ?_
        show Ev _ _ _ _ _
        refine .region ?_
        refine .q (op_move rfl) trivial rfl ?_
        refine .q (op_fieldAddr (m := 0) Tryd.underlying33 rfl (by kernel_rfl) rfl) trivial rfl ?_
        refine .as (.ptr 1008 1) rfl ?_
        refine .q (op_load Tryd.underlying30 rfl rfl rfl rfl (by show 1 < 4; decide)) trivial rfl ?_
        refine .q (op_call (U := []) [] [] (rnumB_ev (l.getD 0 default).n 8 (by decide)) Tryd.func12 (by kernel_rfl) rfl rfl rfl (⟨⟨_, rfl, rfl, rfl⟩, ⟨_, rfl, rfl, rfl⟩, trivial⟩) (trivial) (trivial) (trivial) rfl) trivial rfl ?_
        refine .as (.str (numB (l.getD 0 default).n 8 8)) (congrArg AV.str (by exact tl_num8 (l.getD 0 default).n)) ?_
        refine .q (op_addS rfl rfl (by first | omega | (simp only [List.length_nil, length_numB]; omega))) trivial rfl ?_
        refine .q (op_assign rfl) trivial rfl ?_
        refine .nil ?_
        show Ev _ _ _ _ _
        refine .region ?_
        refine .q (op_move rfl) trivial rfl ?_
        refine .q (op_addI rfl rfl ⟨by omega, by omega⟩) trivial rfl ?_
        refine .q (op_assign rfl) trivial rfl ?_
        refine .nil ?_
        have hw : wrF (l.getD 0 default) = numB (l.getD 0 default).n 8 8 := by unfold wrF; first | (rw [if_pos hc34]) | (rw [if_neg hc34, if_pos hc47]) | (rw [if_neg hc34, if_neg hc47, if_pos hc62]) | (rw [if_neg hc34, if_neg hc47, if_neg hc62, if_pos hc73]) | (rw [if_neg hc34, if_neg hc47, if_neg hc62, if_neg hc73, if_pos hc83]) | (rw [if_neg hc34, if_neg hc47, if_neg hc62, if_neg hc73, if_neg hc83, if_pos hc92]) | (rw [if_neg hc34, if_neg hc47, if_neg hc62, if_neg hc73, if_neg hc83, if_neg hc92, if_pos hc102]) | (rw [if_neg hc34, if_neg hc47, if_neg hc62, if_neg hc73, if_neg hc83, if_neg hc92, if_neg hc102])
        have hN : wrN l (1) = wrN l 0 ++ numB (l.getD 0 default).n 8 8 := by rw [← hw]; rfl
        have hNL : (wrN l (1)).length = (wrN l 0).length + (numB (l.getD 0 default).n 8 8).length := by rw [hN, List.length_append]
        exact ⟨.used (1) ⟨by omega, by omega, wrN_ne (.inr (wrF_ne (by first | exact .inl (by omega) | exact .inr h40)))⟩, by show l.length - 1 < l.length; omega, StLe.mk [(1000, 1000), (1008, 1016)] rfl rfl ⟨⟨_, rfl, by rfl, rfl⟩, ⟨_, rfl, by rfl, rfl⟩, ⟨_, rfl, by rfl, rfl⟩, ⟨_, rfl, by (exact congrArg AV.str (by rw [hN]; first | done | rfl)), rfl⟩, ⟨_, rfl, by rfl, rfl⟩, trivial⟩ ⟨⟨_, _, rfl, rfl, by (simp only [AV.ren, AV.renL]; exact congrArg (fun z => AV.agg [.ptr 1000 0, .sl 1008 0 z 1]) (by rw [hNL]; first | done | (simp only [wrN, List.length_nil, length_numB]; done) | (simp only [wrN, List.length_nil, length_boolB, length_numB, length_namesB, big_len, length_textB, List.length_cons]; omega))), rfl, id, rfl⟩, ⟨_, _, rfl, rfl, by (exact congrArg AV.aggB (by rw [hN]; first | done | rfl)), rfl, id, rfl⟩, ⟨_, _, rfl, rfl, rfl, rfl, (fun h => by cases h), rfl⟩, ⟨_, _, rfl, rfl, rfl, rfl, (fun h => by cases h), rfl⟩, ⟨_, _, rfl, rfl, rfl, rfl, (fun h => by cases h), rfl⟩, ⟨_, _, rfl, rfl, offC_ren _ o (rowsC_flat (fun _ => rfl) l), rfl, (fun h => by cases h), offC_nm _ o (rowsC_flat (fun _ => rfl) l)⟩, trivial⟩⟩
       ·simp only [ne_eq, beq_eq_false_iff_ne] at hc73
        refine .seq ?_
        refine .region ?_
        refine .q (op_cmpI rfl rfl rfl) trivial rfl ?_
        refine .q (op_assign rfl) trivial rfl ?_
        refine .nil ?_
        show Ev _ _ _ _ _
        refine .cond rfl (fun hc83 => ?_) (fun hc83 => ?_)
        ·simp only [beq_iff_eq] at hc83
         refine .seq ?_
         refine .region ?_
         refine .q (op_fieldAddr (m := 0) Tryd.underlying33 rfl (by kernel_rfl) rfl) trivial rfl ?_
         refine .as (.ptr 1008 2) rfl ?_
         refine .q (op_load Tryd.underlying9 rfl rfl rfl rfl (by show 2 < 4; decide)) trivial rfl ?_
         refine dite (((l.getD 0 default).s.take 40) = []) (fun h40 => ?_) (fun h40 => ?_)
         ·refine .a (op_call (U := [(1000, some ⟨.agg [.ptr 1000 0, .nilsl], 29, true⟩)]) [(500, 1000)] [] (raw0e_ev ((l.getD 0 default).s.take 40) h40) Tryd.func14 (by kernel_rfl) rfl rfl rfl (⟨⟨_, rfl, rfl, rfl⟩, ⟨_, rfl, rfl, rfl⟩, trivial⟩) (⟨⟨_, _, rfl, rfl, rfl, rfl, id, rfl⟩, trivial⟩) (⟨⟨500, _, rfl, rfl, rfl, rfl, .inr ⟨rfl, _, rfl, rfl⟩⟩, trivial⟩) (⟨(fun _ => ⟨1000, _, rfl, rfl⟩), trivial⟩) rfl) trivial rfl ?_
          refine .nil ?_
          show Ev _ _ _ _ _
          refine .region ?_
          refine .q (op_move rfl) trivial rfl ?_
          refine .q (op_fieldAddr (m := 0) Tryd.underlying33 rfl (by kernel_rfl) rfl) trivial rfl ?_
          refine .as (.ptr 1008 2) rfl ?_
          refine .q (op_load Tryd.underlying9 rfl rfl rfl rfl (by show 2 < 4; decide)) trivial rfl ?_
          refine .q (op_addS rfl rfl (by first | omega | (simp only [List.length_nil]; omega))) trivial rfl ?_
          refine .q (op_assign rfl) trivial rfl ?_
          refine .nil ?_
          show Ev _ _ _ _ _
          refine .region ?_
          refine .q (op_move rfl) trivial rfl ?_
          refine .q (op_addI rfl rfl ⟨by omega, by omega⟩) trivial rfl ?_
          refine .q (op_assign rfl) trivial rfl ?_
          refine .nil ?_
          have hN := (show wrN l 1 = [] by rw [show wrN l 1 = [] ++ wrF (l.getD 0 default) from rfl, wrF_4n hc83 h40]; rfl)
          exact ⟨.touched (1) ⟨by omega, by omega, by omega, hN⟩, by show l.length - 1 < l.length; omega, StLe.mk [(1000, 1000)] rfl rfl ⟨⟨_, rfl, by rfl, rfl⟩, ⟨_, rfl, by rfl, rfl⟩, ⟨_, rfl, by rfl, rfl⟩, ⟨_, rfl, by (show AV.str _ = AV.str (wrN l (1)); exact congrArg AV.str (by rw [hN]; first | (rw [h40]; rfl) | (rw [h40, hk.2.2.2]; rfl))), rfl⟩, ⟨_, rfl, by rfl, rfl⟩, trivial⟩ ⟨⟨_, _, rfl, rfl, rfl, rfl, id, rfl⟩, ⟨_, _, rfl, rfl, rfl, rfl, (fun h => by cases h), rfl⟩, ⟨_, _, rfl, rfl, rfl, rfl, (fun h => by cases h), rfl⟩, ⟨_, _, rfl, rfl, rfl, rfl, (fun h => by cases h), rfl⟩, ⟨_, _, rfl, rfl, offC_ren _ o (rowsC_flat (fun _ => rfl) l), rfl, (fun h => by cases h), offC_nm _ o (rowsC_flat (fun _ => rfl) l)⟩, trivial⟩⟩
         ·refine .a (op_call (U := [(1000, some ⟨.agg [.ptr 1000 0, .sl 1016 0 (((l.getD 0 default).s.take 40).length) 1], 29, true⟩), (1016, some ⟨.aggB (((l.getD 0 default).s.take 40)), 5, true⟩)]) [(500, 1000)] [(1016, 1000)] (raw0_ev ((l.getD 0 default).s.take 40) (List.length_pos_iff.2 h40) (by omega)) Tryd.func14 (by kernel_rfl) rfl rfl rfl (⟨⟨_, rfl, rfl, rfl⟩, ⟨_, rfl, rfl, rfl⟩, trivial⟩) (⟨⟨_, _, rfl, rfl, rfl, rfl, id, rfl⟩, trivial⟩) (⟨⟨500, _, rfl, rfl, rfl, rfl, .inr ⟨rfl, _, rfl, rfl⟩⟩, ⟨1000, _, rfl, rfl, rfl, rfl, .inl rfl⟩, trivial⟩) (⟨(fun _ => ⟨1000, _, rfl, rfl⟩), trivial⟩) rfl) trivial rfl ?_
          refine .nil ?_
          show Ev _ _ _ _ _
          refine .region ?_
          refine .q (op_move rfl) trivial rfl ?_
          refine .q (op_fieldAddr (m := 0) Tryd.underlying33 rfl (by kernel_rfl) rfl) trivial rfl ?_
          refine .as (.ptr 1008 2) rfl ?_
          refine .q (op_load Tryd.underlying9 rfl rfl rfl rfl (by show 2 < 4; decide)) trivial rfl ?_
          refine .q (op_addS rfl rfl (by first | omega | (simp only [List.length_nil]; omega))) trivial rfl ?_
          refine .q (op_assign rfl) trivial rfl ?_
          refine .nil ?_
          show Ev _ _ _ _ _
          refine .region ?_
          refine .q (op_move rfl) trivial rfl ?_
          refine .q (op_addI rfl rfl ⟨by omega, by omega⟩) trivial rfl ?_
          refine .q (op_assign rfl) trivial rfl ?_
          refine .nil ?_
          have hw : wrF (l.getD 0 default) = ((l.getD 0 default).s.take 40) := by unfold wrF; first | (rw [if_pos hc34]) | (rw [if_neg hc34, if_pos hc47]) | (rw [if_neg hc34, if_neg hc47, if_pos hc62]) | (rw [if_neg hc34, if_neg hc47, if_neg hc62, if_pos hc73]) | (rw [if_neg hc34, if_neg hc47, if_neg hc62, if_neg hc73, if_pos hc83]) | (rw [if_neg hc34, if_neg hc47, if_neg hc62, if_neg hc73, if_neg hc83, if_pos hc92]) | (rw [if_neg hc34, if_neg hc47, if_neg hc62, if_neg hc73, if_neg hc83, if_neg hc92, if_pos hc102]) | (rw [if_neg hc34, if_neg hc47, if_neg hc62, if_neg hc73, if_neg hc83, if_neg hc92, if_neg hc102])
          have hN : wrN l (1) = wrN l 0 ++ ((l.getD 0 default).s.take 40) := by rw [← hw]; rfl
          have hNL : (wrN l (1)).length = (wrN l 0).length + (((l.getD 0 default).s.take 40)).length := by rw [hN, List.length_append]
          exact ⟨.used (1) ⟨by omega, by omega, wrN_ne (.inr (wrF_ne (by first | exact .inl (by omega) | exact .inr h40)))⟩, by show l.length - 1 < l.length; omega, StLe.mk [(1000, 1000), (1008, 1016)] rfl rfl ⟨⟨_, rfl, by rfl, rfl⟩, ⟨_, rfl, by rfl, rfl⟩, ⟨_, rfl, by rfl, rfl⟩, ⟨_, rfl, by (exact congrArg AV.str (by rw [hN]; first | done | rfl)), rfl⟩, ⟨_, rfl, by rfl, rfl⟩, trivial⟩ ⟨⟨_, _, rfl, rfl, by (simp only [AV.ren, AV.renL]; exact congrArg (fun z => AV.agg [.ptr 1000 0, .sl 1008 0 z 1]) (by rw [hNL]; first | done | (simp only [wrN, List.length_nil]; done) | (simp only [wrN, List.length_nil]; omega))), rfl, id, rfl⟩, ⟨_, _, rfl, rfl, by (exact congrArg AV.aggB (by rw [hN]; first | done | rfl)), rfl, id, rfl⟩, ⟨_, _, rfl, rfl, rfl, rfl, (fun h => by cases h), rfl⟩, ⟨_, _, rfl, rfl, rfl, rfl, (fun h => by cases h), rfl⟩, ⟨_, _, rfl, rfl, rfl, rfl, (fun h => by cases h), rfl⟩, ⟨_, _, rfl, rfl, offC_ren _ o (rowsC_flat (fun _ => rfl) l), rfl, (fun h => by cases h), offC_nm _ o (rowsC_flat (fun _ => rfl) l)⟩, trivial⟩⟩
        ·simp only [ne_eq, beq_eq_false_iff_ne] at hc83
         refine .seq ?_
         refine .region ?_
         refine .q (op_cmpI rfl rfl rfl) trivial rfl ?_
         refine .q (op_assign rfl) trivial rfl ?_
         refine .nil ?_
         show Ev _ _ _ _ _
         refine .cond rfl (fun hc92 => ?_) (fun hc92 => ?_)
         ·simp only [beq_iff_eq] at hc92
          refine .seq ?_
          refine .region ?_
          refine .q (op_fieldAddr (m := 0) Tryd.underlying33 rfl (by kernel_rfl) rfl) trivial rfl ?_
          refine .as (.ptr 1008 3) rfl ?_
          refine .q (op_load Tryd.underlying31 rfl rfl rfl rfl (by show 3 < 4; decide)) trivial rfl ?_
          refine .a (op_call (U := [(1000, some ⟨.agg [.ptr 1000 0, .sl 1016 0 ((4 + (joinB (fewL (l.getD 0 default).l)).length)) 1], 29, true⟩), (1016, some ⟨.aggB (namesB (fewL (l.getD 0 default).l)), 5, true⟩)]) [(500, 1000)] [(1016, 1000)] (names0_ev (fewL (l.getD 0 default).l) (by omega) (by omega)) Tryd.func15 (by kernel_rfl) rfl rfl rfl (⟨⟨_, rfl, rfl, rfl⟩, ⟨_, rfl, rfl, rfl⟩, trivial⟩) (⟨⟨_, _, rfl, rfl, rfl, rfl, id, rfl⟩, trivial⟩) (⟨⟨500, _, rfl, rfl, rfl, rfl, .inr ⟨rfl, _, rfl, rfl⟩⟩, ⟨1000, _, rfl, rfl, rfl, rfl, .inl rfl⟩, trivial⟩) (⟨(fun _ => ⟨1000, _, rfl, rfl⟩), trivial⟩) rfl) trivial rfl ?_
          refine .nil ?_
          show Ev _ _ _ _ _
          refine .region ?_
          refine .q (op_move rfl) trivial rfl ?_
          refine .q (op_fieldAddr (m := 0) Tryd.underlying33 rfl (by kernel_rfl) rfl) trivial rfl ?_
          refine .as (.ptr 1008 3) rfl ?_
          refine .q (op_load Tryd.underlying31 rfl rfl rfl rfl (by show 3 < 4; decide)) trivial rfl ?_
          refine .q (op_call (U := []) [] [] (rnamesB_ev (fewL (l.getD 0 default).l) (by omega) (by omega)) Tryd.func16 (by kernel_rfl) rfl rfl rfl (⟨⟨_, rfl, rfl, rfl⟩, trivial⟩) (trivial) (trivial) (trivial) rfl) trivial rfl ?_
          refine .q (op_addS rfl rfl (by first | omega | (simp only [List.length_nil, length_namesB]; omega))) trivial rfl ?_
          refine .q (op_assign rfl) trivial rfl ?_
          refine .nil ?_
          show Ev _ _ _ _ _
          refine .region ?_
          refine .q (op_move rfl) trivial rfl ?_
          refine .q (op_addI rfl rfl ⟨by omega, by omega⟩) trivial rfl ?_
          refine .q (op_assign rfl) trivial rfl ?_
          refine .nil ?_
          have hw : wrF (l.getD 0 default) = namesB (fewL (l.getD 0 default).l) := by unfold wrF; first | (rw [if_pos hc34]) | (rw [if_neg hc34, if_pos hc47]) | (rw [if_neg hc34, if_neg hc47, if_pos hc62]) | (rw [if_neg hc34, if_neg hc47, if_neg hc62, if_pos hc73]) | (rw [if_neg hc34, if_neg hc47, if_neg hc62, if_neg hc73, if_pos hc83]) | (rw [if_neg hc34, if_neg hc47, if_neg hc62, if_neg hc73, if_neg hc83, if_pos hc92]) | (rw [if_neg hc34, if_neg hc47, if_neg hc62, if_neg hc73, if_neg hc83, if_neg hc92, if_pos hc102]) | (rw [if_neg hc34, if_neg hc47, if_neg hc62, if_neg hc73, if_neg hc83, if_neg hc92, if_neg hc102])
          have hN : wrN l (1) = wrN l 0 ++ namesB (fewL (l.getD 0 default).l) := by rw [← hw]; rfl
          have hNL : (wrN l (1)).length = (wrN l 0).length + (namesB (fewL (l.getD 0 default).l)).length := by rw [hN, List.length_append]
          exact ⟨.used (1) ⟨by omega, by omega, wrN_ne (.inr (wrF_ne (by first | exact .inl (by omega) | exact .inr h40)))⟩, by show l.length - 1 < l.length; omega, StLe.mk [(1000, 1000), (1008, 1016)] rfl rfl ⟨⟨_, rfl, by rfl, rfl⟩, ⟨_, rfl, by rfl, rfl⟩, ⟨_, rfl, by rfl, rfl⟩, ⟨_, rfl, by (exact congrArg AV.str (by rw [hN]; first | done | rfl)), rfl⟩, ⟨_, rfl, by rfl, rfl⟩, trivial⟩ ⟨⟨_, _, rfl, rfl, by (simp only [AV.ren, AV.renL]; exact congrArg (fun z => AV.agg [.ptr 1000 0, .sl 1008 0 z 1]) (by rw [hNL]; first | done | (simp only [wrN, List.length_nil, length_namesB]; done) | (simp only [wrN, List.length_nil, length_namesB]; omega))), rfl, id, rfl⟩, ⟨_, _, rfl, rfl, by (exact congrArg AV.aggB (by rw [hN]; first | done | rfl)), rfl, id, rfl⟩, ⟨_, _, rfl, rfl, rfl, rfl, (fun h => by cases h), rfl⟩, ⟨_, _, rfl, rfl, rfl, rfl, (fun h => by cases h), rfl⟩, ⟨_, _, rfl, rfl, rfl, rfl, (fun h => by cases h), rfl⟩, ⟨_, _, rfl, rfl, offC_ren _ o (rowsC_flat (fun _ => rfl) l), rfl, (fun h => by cases h), offC_nm _ o (rowsC_flat (fun _ => rfl) l)⟩, trivial⟩⟩
         ·simp only [ne_eq, beq_eq_false_iff_ne] at hc92
          refine .seq ?_
          refine .region ?_
          refine .q (op_cmpI rfl rfl rfl) trivial rfl ?_
          refine .q (op_assign rfl) trivial rfl ?_
          refine .nil ?_
          show Ev _ _ _ _ _
          refine .cond rfl (fun hc102 => ?_) (fun hc102 => ?_)
          ·simp only [beq_iff_eq] at hc102
           refine .seq ?_
           refine .region ?_
           refine .q (op_fieldAddr (m := 0) Tryd.underlying33 rfl (by kernel_rfl) rfl) trivial rfl ?_
           refine .as (.ptr 1008 2) rfl ?_
           refine .q (op_load Tryd.underlying9 rfl rfl rfl rfl (by show 2 < 4; decide)) trivial rfl ?_
           refine .a (op_call (U := [(1000, some ⟨.agg [.ptr 1000 0, .sl 1016 0 ((4 + (unsB (shortB ((l.getD 0 default).s.take 40))).length)) 1], 29, true⟩), (1016, some ⟨.aggB (bigB ((l.getD 0 default).s.take 40)), 5, true⟩)]) [(500, 1000)] [(1016, 1000)] (big0_ev ((l.getD 0 default).s.take 40) (by omega)) Tryd.func17 (by kernel_rfl) rfl rfl rfl (⟨⟨_, rfl, rfl, rfl⟩, ⟨_, rfl, rfl, rfl⟩, trivial⟩) (⟨⟨_, _, rfl, rfl, rfl, rfl, id, rfl⟩, trivial⟩) (⟨⟨500, _, rfl, rfl, rfl, rfl, .inr ⟨rfl, _, rfl, rfl⟩⟩, ⟨1000, _, rfl, rfl, rfl, rfl, .inl rfl⟩, trivial⟩) (⟨(fun _ => ⟨1000, _, rfl, rfl⟩), trivial⟩) rfl) trivial rfl ?_
           refine .nil ?_
           show Ev _ _ _ _ _
           refine .region ?_
           refine .q (op_move rfl) trivial rfl ?_
           refine .q (op_fieldAddr (m := 0) Tryd.underlying33 rfl (by kernel_rfl) rfl) trivial rfl ?_
           refine .as (.ptr 1008 2) rfl ?_
           refine .q (op_load Tryd.underlying9 rfl rfl rfl rfl (by show 2 < 4; decide)) trivial rfl ?_
           refine .q (op_call (U := []) [] [] (rbigB_ev ((l.getD 0 default).s.take 40) (by omega)) Tryd.func18 (by kernel_rfl) rfl rfl rfl (⟨⟨_, rfl, rfl, rfl⟩, trivial⟩) (trivial) (trivial) (trivial) rfl) trivial rfl ?_
           refine .as (.str (bigB ((l.getD 0 default).s.take 40))) (congrArg AV.str (by exact textR_eq (by omega))) ?_
           refine .q (op_addS rfl rfl (by first | omega | (simp only [List.length_nil, big_len]; omega))) trivial rfl ?_
           refine .q (op_assign rfl) trivial rfl ?_
           refine .nil ?_
           show Ev _ _ _ _ _
           refine .region ?_
           refine .q (op_move rfl) trivial rfl ?_
           refine .q (op_addI rfl rfl ⟨by omega, by omega⟩) trivial rfl ?_
           refine .q (op_assign rfl) trivial rfl ?_
           refine .nil ?_
           have hw : wrF (l.getD 0 default) = bigB ((l.getD 0 default).s.take 40) := by unfold wrF; first | (rw [if_pos hc34]) | (rw [if_neg hc34, if_pos hc47]) | (rw [if_neg hc34, if_neg hc47, if_pos hc62]) | (rw [if_neg hc34, if_neg hc47, if_neg hc62, if_pos hc73]) | (rw [if_neg hc34, if_neg hc47, if_neg hc62, if_neg hc73, if_pos hc83]) | (rw [if_neg hc34, if_neg hc47, if_neg hc62, if_neg hc73, if_neg hc83, if_pos hc92]) | (rw [if_neg hc34, if_neg hc47, if_neg hc62, if_neg hc73, if_neg hc83, if_neg hc92, if_pos hc102]) | (rw [if_neg hc34, if_neg hc47, if_neg hc62, if_neg hc73, if_neg hc83, if_neg hc92, if_neg hc102])
           have hN : wrN l (1) = wrN l 0 ++ bigB ((l.getD 0 default).s.take 40) := by rw [← hw]; rfl
           have hNL : (wrN l (1)).length = (wrN l 0).length + (bigB ((l.getD 0 default).s.take 40)).length := by rw [hN, List.length_append]
           exact ⟨.used (1) ⟨by omega, by omega, wrN_ne (.inr (wrF_ne (by first | exact .inl (by omega) | exact .inr h40)))⟩, by show l.length - 1 < l.length; omega, StLe.mk [(1000, 1000), (1008, 1016)] rfl rfl ⟨⟨_, rfl, by rfl, rfl⟩, ⟨_, rfl, by rfl, rfl⟩, ⟨_, rfl, by rfl, rfl⟩, ⟨_, rfl, by (exact congrArg AV.str (by rw [hN]; first | done | rfl)), rfl⟩, ⟨_, rfl, by rfl, rfl⟩, trivial⟩ ⟨⟨_, _, rfl, rfl, by (simp only [AV.ren, AV.renL]; exact congrArg (fun z => AV.agg [.ptr 1000 0, .sl 1008 0 z 1]) (by rw [hNL]; first | done | (simp only [wrN, List.length_nil, big_len]; done) | (simp only [wrN, List.length_nil, big_len]; omega))), rfl, id, rfl⟩, ⟨_, _, rfl, rfl, by (exact congrArg AV.aggB (by rw [hN]; first | done | rfl)), rfl, id, rfl⟩, ⟨_, _, rfl, rfl, rfl, rfl, (fun h => by cases h), rfl⟩, ⟨_, _, rfl, rfl, rfl, rfl, (fun h => by cases h), rfl⟩, ⟨_, _, rfl, rfl, rfl, rfl, (fun h => by cases h), rfl⟩, ⟨_, _, rfl, rfl, offC_ren _ o (rowsC_flat (fun _ => rfl) l), rfl, (fun h => by cases h), offC_nm _ o (rowsC_flat (fun _ => rfl) l)⟩, trivial⟩⟩
          ·simp only [ne_eq, beq_eq_false_iff_ne] at hc102
           refine .seq ?_
           refine .region ?_
           refine .q (op_fieldAddr (m := 0) Tryd.underlying33 rfl (by kernel_rfl) rfl) trivial rfl ?_
           refine .as (.ptr 1008 2) rfl ?_
           refine .q (op_load Tryd.underlying9 rfl rfl rfl rfl (by show 2 < 4; decide)) trivial rfl ?_
           refine .a (op_call (U := [(1000, some ⟨.agg [.ptr 1000 0, .sl 1016 0 ((4 + ((l.getD 0 default).s.take 40).length)) 1], 29, true⟩), (1016, some ⟨.aggB (textB ((l.getD 0 default).s.take 40)), 5, true⟩)]) [(500, 1000)] [(1016, 1008)] (text0_ev ((l.getD 0 default).s.take 40) (by omega)) Tryd.func19 (by kernel_rfl) rfl rfl rfl (⟨⟨_, rfl, rfl, rfl⟩, ⟨_, rfl, rfl, rfl⟩, trivial⟩) (⟨⟨_, _, rfl, rfl, rfl, rfl, id, rfl⟩, trivial⟩) (⟨⟨500, _, rfl, rfl, rfl, rfl, .inr ⟨rfl, _, rfl, rfl⟩⟩, ⟨1008, _, rfl, rfl, rfl, rfl, .inl rfl⟩, trivial⟩) (⟨(fun _ => ⟨1000, _, rfl, rfl⟩), trivial⟩) rfl) trivial rfl ?_
           refine .nil ?_
           show Ev _ _ _ _ _
           refine .region ?_
           refine .q (op_move rfl) trivial rfl ?_
           refine .q (op_fieldAddr (m := 0) Tryd.underlying33 rfl (by kernel_rfl) rfl) trivial rfl ?_
           refine .as (.ptr 1008 2) rfl ?_
           refine .q (op_load Tryd.underlying9 rfl rfl rfl rfl (by show 2 < 4; decide)) trivial rfl ?_
           refine .q (op_call (U := []) [] [] (rtextB_ev ((l.getD 0 default).s.take 40) (by omega)) Tryd.func20 (by kernel_rfl) rfl rfl rfl (⟨⟨_, rfl, rfl, rfl⟩, trivial⟩) (trivial) (trivial) (trivial) rfl) trivial rfl ?_
           refine .as (.str (textB ((l.getD 0 default).s.take 40))) (congrArg AV.str (by exact textR_eq (by omega))) ?_
           refine .q (op_addS rfl rfl (by first | omega | (simp only [List.length_nil, length_textB]; omega))) trivial rfl ?_
           refine .q (op_assign rfl) trivial rfl ?_
           refine .nil ?_
           show Ev _ _ _ _ _
           refine .region ?_
           refine .q (op_move rfl) trivial rfl ?_
           refine .q (op_addI rfl rfl ⟨by omega, by omega⟩) trivial rfl ?_
           refine .q (op_assign rfl) trivial rfl ?_
           refine .nil ?_
           have hw : wrF (l.getD 0 default) = textB ((l.getD 0 default).s.take 40) := by unfold wrF; first | (rw [if_pos hc34]) | (rw [if_neg hc34, if_pos hc47]) | (rw [if_neg hc34, if_neg hc47, if_pos hc62]) | (rw [if_neg hc34, if_neg hc47, if_neg hc62, if_pos hc73]) | (rw [if_neg hc34, if_neg hc47, if_neg hc62, if_neg hc73, if_pos hc83]) | (rw [if_neg hc34, if_neg hc47, if_neg hc62, if_neg hc73, if_neg hc83, if_pos hc92]) | (rw [if_neg hc34, if_neg hc47, if_neg hc62, if_neg hc73, if_neg hc83, if_neg hc92, if_pos hc102]) | (rw [if_neg hc34, if_neg hc47, if_neg hc62, if_neg hc73, if_neg hc83, if_neg hc92, if_neg hc102])
           have hN : wrN l (1) = wrN l 0 ++ textB ((l.getD 0 default).s.take 40) := by rw [← hw]; rfl
           have hNL : (wrN l (1)).length = (wrN l 0).length + (textB ((l.getD 0 default).s.take 40)).length := by rw [hN, List.length_append]
           exact ⟨.used (1) ⟨by omega, by omega, wrN_ne (.inr (wrF_ne (by first | exact .inl (by omega) | exact .inr h40)))⟩, by show l.length - 1 < l.length; omega, StLe.mk [(1000, 1000), (1008, 1016)] rfl rfl ⟨⟨_, rfl, by rfl, rfl⟩, ⟨_, rfl, by rfl, rfl⟩, ⟨_, rfl, by rfl, rfl⟩, ⟨_, rfl, by (exact congrArg AV.str (by rw [hN]; first | done | rfl)), rfl⟩, ⟨_, rfl, by rfl, rfl⟩, trivial⟩ ⟨⟨_, _, rfl, rfl, by (simp only [AV.ren, AV.renL]; exact congrArg (fun z => AV.agg [.ptr 1000 0, .sl 1008 0 z 1]) (by rw [hNL]; first | done | (simp only [wrN, List.length_nil, length_textB]; done) | (simp only [wrN, List.length_nil, length_textB]; omega))), rfl, id, rfl⟩, ⟨_, _, rfl, rfl, by (exact congrArg AV.aggB (by rw [hN]; first | done | rfl)), rfl, id, rfl⟩, ⟨_, _, rfl, rfl, rfl, rfl, (fun h => by cases h), rfl⟩, ⟨_, _, rfl, rfl, rfl, rfl, (fun h => by cases h), rfl⟩, ⟨_, _, rfl, rfl, rfl, rfl, (fun h => by cases h), rfl⟩, ⟨_, _, rfl, rfl, offC_ren _ o (rowsC_flat (fun _ => rfl) l), rfl, (fun h => by cases h), offC_nm _ o (rowsC_flat (fun _ => rfl) l)⟩, trivial⟩⟩
   ·simp only [decide_eq_false_iff_not] at hc16
    refine .exit ?_
    show Ev _ _ _ _ _
    refine .seq ?_
    refine .region ?_
    refine .q (op_call (U := []) [(500, 1000)] [] (bytes0_ev) Tryd.func21 (by kernel_rfl) rfl rfl rfl (⟨⟨_, rfl, rfl, rfl⟩, trivial⟩) (⟨⟨_, _, rfl, rfl, rfl, rfl, (fun h => by cases h), rfl⟩, trivial⟩) (trivial) (⟨(fun h => by cases h), trivial⟩) rfl) trivial rfl ?_
    refine .q (op_move rfl) trivial rfl ?_
    refine .q (op_eqS rfl rfl rfl) trivial rfl ?_
    refine .q (op_assign rfl) trivial rfl ?_
    refine .nil ?_
    show Ev _ _ _ _ _
    refine .ret ?_
    show RetOk _ _ _ _ _ _ _
    exact ret1v rfl (.inl rfl) rfl (congrArg AV.bool (by first | exact beq_self_eq_true _ | rfl | (simp [hk.2.2.2]; done))) trivial
  ·simp only [decide_eq_false_iff_not] at hg13
   refine .no ⟨_, rfl, rfl⟩ rfl ?_
   refine .no ⟨_, rfl, rfl⟩ rfl ?_
   refine .q (op_pick_false rfl rfl rfl) trivial rfl ?_
   refine .nil ?_
   show Ev _ _ _ _ _
   refine .cond_false rfl rfl ?_
   refine .exit ?_
   show Ev _ _ _ _ _
   refine .seq ?_
   refine .region ?_
   refine .q (op_call (U := []) [(500, 1000)] [] (bytes0_ev) Tryd.func21 (by kernel_rfl) rfl rfl rfl (⟨⟨_, rfl, rfl, rfl⟩, trivial⟩) (⟨⟨_, _, rfl, rfl, rfl, rfl, (fun h => by cases h), rfl⟩, trivial⟩) (trivial) (⟨(fun h => by cases h), trivial⟩) rfl) trivial rfl ?_
   refine .q (op_move rfl) trivial rfl ?_
   refine .q (op_eqS rfl rfl rfl) trivial rfl ?_
   refine .q (op_assign rfl) trivial rfl ?_
   refine .nil ?_
   show Ev _ _ _ _ _
   refine .ret ?_
   show RetOk _ _ _ _ _ _ _
   exact ret1v rfl (.inl rfl) rfl (congrArg AV.bool (by first | exact beq_self_eq_true _ | rfl | (simp [hk.2.2.2]; done))) trivial
 ·try dsimp only
  have hwl := wrN_len l k
  have hfj := few_join (l.getD k default).l
  have hfs := fewL_sum (l.getD k default).l
  have hfl := fewL_len (l.getD k default).l
  have hu := uns40 (l.getD k default).s
  have h4l : ((l.getD k default).s.take 40).length ≤ 40 := List.length_take_le 40 _
  refine .seq ?_
  refine .seq ?_
  refine .region ?_
  refine .q (op_move rfl) trivial rfl ?_
  refine .q (op_move rfl) trivial rfl ?_
  refine .q (op_len_sl Tryd.underlying22 rfl) trivial rfl ?_
  refine .q (op_cmpI rfl rfl rfl) trivial rfl ?_
  refine .q (op_move rfl) trivial rfl ?_
  refine .split (fun hg13 => ?_) (fun hg13 => ?_)
  ·simp only [decide_eq_true_eq] at hg13
   refine .q (op_move rfl) ⟨_, rfl, rfl⟩ rfl ?_
   refine .q (op_cmpI rfl rfl rfl) ⟨_, rfl, rfl⟩ rfl ?_
   refine .q (op_pick_true rfl rfl rfl) trivial rfl ?_
   refine .nil ?_
   show Ev _ _ _ _ _
   refine .cond rfl (fun hc16 => ?_) (fun hc16 => ?_)
   ·simp only [decide_eq_true_eq] at hc16
    refine .skip ?_
    show Ev _ _ _ _ _
    refine .seq ?_
    refine .block ?_
    refine .seq ?_
    refine .region ?_
    refine .q (op_move rfl) trivial rfl ?_
    refine .q (op_move rfl) trivial rfl ?_
    refine .q (op_indexAddr (z := 4) Tryd.underlying22 (by kernel_rfl) rfl rfl rfl (show k < l.length by omega)) trivial rfl ?_
    refine .q (op_loadPart (m := 4) (r := .agg [.i64 (l.getD k default).k, .u64 (l.getD k default).n, .str (l.getD k default).s, .dsl (l.getD k default).l]) (cs := fvR (l.getD k default)) Tryd.underlying33 rfl (by kernel_rfl) rfl rfl rfl rfl (fvR_row o k l (show k < l.length by omega)) (by rw [offC_len, rowsC_len (f := fvR) (z := 4) (fun _ => rfl)]; omega)) trivial rfl ?_
    refine .q (op_call (U := []) [] [] (few_ev (l.getD k default).k (l.getD k default).n (l.getD k default).s (l.getD k default).l (Nat.le_trans (l.getD k default).hs (by decide)) (Nat.le_trans (l.getD k default).hl (by decide)) (fun j => Nat.le_trans ((l.getD k default).hb j) (by decide))) Tryd.func8 (by kernel_rfl) rfl rfl rfl (⟨⟨_, rfl, rfl, rfl⟩, trivial⟩) (trivial) (trivial) (trivial) rfl) trivial rfl ?_
    refine .as (.agg [.i64 (l.getD k default).k, .u64 (l.getD k default).n, .str ((l.getD k default).s.take 40), .dsl (fewL (l.getD k default).l)]) rfl ?_
    refine .a (op_allocRow zero33 rel_zero33 rfl) trivial rfl ?_
    refine .w (op_storeRow (by kernel_rfl) rfl rfl rfl rfl rfl (rfl) (rfl)) trivial rfl ?_
    refine .nil ?_
    show Ev _ _ _ _ _
    refine .seq ?_
    refine .region ?_
    refine .q (op_fieldAddr (m := 0) Tryd.underlying33 rfl (by kernel_rfl) rfl) trivial rfl ?_
    refine .as (.ptr 1008 0) rfl ?_
    refine .q (op_load Tryd.underlying3 rfl rfl rfl rfl (by show 0 < 4; decide)) trivial rfl ?_
    refine .nil ?_
    show Ev _ _ _ _ _
    refine .block ?_
    refine .seq ?_
    refine .region ?_
    refine .q (op_cmpI rfl rfl rfl) trivial rfl ?_
    refine .q (op_assign rfl) trivial rfl ?_
    refine .nil ?_
    show Ev _ _ _ _ _
    refine .cond rfl (fun hc34 => ?_) (fun hc34 => ?_)
    ·simp only [beq_iff_eq] at hc34
     refine .seq ?_
     refine .region ?_
     refine .q (op_fieldAddr (m := 0) Tryd.underlying33 rfl (by kernel_rfl) rfl) trivial rfl ?_
     refine .as (.ptr 1008 1) rfl ?_
     refine .q (op_load Tryd.underlying30 rfl rfl rfl rfl (by show 1 < 4; decide)) trivial rfl ?_
     refine .q (op_conv Tryd.underlying30 Tryd.underlying5 rfl rfl) trivial rfl ?_
     refine .a (op_call (U := [(1000, some ⟨.agg [.ptr 1000 0, .sl 1016 0 (1) 1], 29, true⟩), (1016, some ⟨.aggB ([(l.getD k default).n.toUInt8]), 5, true⟩)]) [(500, 1000)] [(1016, 1000)] (byte1_ev (l.getD k default).n.toUInt8) Tryd.func9 (by kernel_rfl) rfl rfl rfl (⟨⟨_, rfl, rfl, rfl⟩, ⟨_, rfl, rfl, rfl⟩, trivial⟩) (⟨⟨_, _, rfl, rfl, rfl, rfl, id, rfl⟩, trivial⟩) (⟨⟨500, _, rfl, rfl, rfl, rfl, .inr ⟨rfl, _, rfl, rfl⟩⟩, ⟨1000, _, rfl, rfl, rfl, rfl, .inl rfl⟩, trivial⟩) (⟨(fun _ => ⟨1000, _, rfl, rfl⟩), trivial⟩) rfl) trivial rfl ?_
     refine .nil ?_
     show Ev _ _ _ _ _
     refine .region ?_
     refine .q (op_move rfl) trivial rfl ?_
     refine .q (op_fieldAddr (m := 0) Tryd.underlying33 rfl (by kernel_rfl) rfl) trivial rfl ?_
     refine .as (.ptr 1008 1) rfl ?_
     refine .q (op_load Tryd.underlying30 rfl rfl rfl rfl (by show 1 < 4; decide)) trivial rfl ?_
     refine .q (op_conv Tryd.underlying30 Tryd.underlying5 rfl rfl) trivial rfl ?_
     refine .a (ap_build (us := [.u8 (l.getD k default).n.toUInt8]) (c := .aggB [(l.getD k default).n.toUInt8]) Tryd.underlying25 inf5 rfl (by decide) (by decide) ⟨rfl, rfl, rfl, trivial⟩ rfl) trivial rfl ?_
     refine .q (op_bytes_str Tryd.underlying25 Tryd.underlying5 Tryd.underlying9 rfl rfl rfl (by show 0 + 1 ≤ 1; decide)) trivial rfl ?_
     refine .as (.str ([(l.getD k default).n.toUInt8])) (congrArg AV.str (by rfl)) ?_
     refine .q (op_addS rfl rfl (by first | omega | (simp only [List.length_cons, List.length_nil]; omega))) trivial rfl ?_
     refine .q (op_assign rfl) trivial rfl ?_
     refine .nil ?_
     show Ev _ _ _ _ _
     refine .region ?_
     refine .q (op_move rfl) trivial rfl ?_
     refine .q (op_addI rfl rfl ⟨by omega, by omega⟩) trivial rfl ?_
     refine .q (op_assign rfl) trivial rfl ?_
     refine .nil ?_
     have hw : wrF (l.getD k default) = [(l.getD k default).n.toUInt8] := by unfold wrF; first | (rw [if_pos hc34]) | (rw [if_neg hc34, if_pos hc47]) | (rw [if_neg hc34, if_neg hc47, if_pos hc62]) | (rw [if_neg hc34, if_neg hc47, if_neg hc62, if_pos hc73]) | (rw [if_neg hc34, if_neg hc47, if_neg hc62, if_neg hc73, if_pos hc83]) | (rw [if_neg hc34, if_neg hc47, if_neg hc62, if_neg hc73, if_neg hc83, if_pos hc92]) | (rw [if_neg hc34, if_neg hc47, if_neg hc62, if_neg hc73, if_neg hc83, if_neg hc92, if_pos hc102]) | (rw [if_neg hc34, if_neg hc47, if_neg hc62, if_neg hc73, if_neg hc83, if_neg hc92, if_neg hc102])
     have hN : wrN l (k + 1) = wrN l k ++ [(l.getD k default).n.toUInt8] := by rw [← hw]; rfl
     have hNL : (wrN l (k + 1)).length = (wrN l k).length + ([(l.getD k default).n.toUInt8]).length := by rw [hN, List.length_append]
     have hM : wrN l (k + 1) = [(l.getD k default).n.toUInt8] := by rw [hN, hk.2.2.2]; rfl
     have hML : (wrN l (k + 1)).length = ([(l.getD k default).n.toUInt8]).length := by rw [hM]
     exact ⟨.used (k + 1) ⟨by omega, by omega, wrN_ne (.inr (wrF_ne (by first | exact .inl (by omega) | exact .inr h40)))⟩, by show l.length - (k + 1) < l.length - k; omega, StLe.mk [(1000, 1000), (1008, 1016)] rfl rfl ⟨⟨_, rfl, by rfl, rfl⟩, ⟨_, rfl, by rfl, rfl⟩, ⟨_, rfl, by rfl, rfl⟩, ⟨_, rfl, by (exact congrArg AV.str (by rw [hN]; first | done | rfl)), rfl⟩, ⟨_, rfl, by rfl, rfl⟩, trivial⟩ ⟨⟨_, _, rfl, rfl, by (simp only [AV.ren, AV.renL]; exact congrArg (fun z => AV.agg [.ptr 1000 0, .sl 1008 0 z 1]) (by rw [hML]; first | done | (simp only [List.length_nil, List.length_cons]; done) | (simp only [wrN, List.length_nil, length_boolB, length_numB, length_namesB, big_len, length_textB, List.length_cons]; omega))), rfl, id, rfl⟩, ⟨_, _, rfl, rfl, by (exact congrArg AV.aggB (by rw [hM]; first | done | rfl)), rfl, id, rfl⟩, ⟨_, _, rfl, rfl, rfl, rfl, (fun h => by cases h), rfl⟩, ⟨_, _, rfl, rfl, rfl, rfl, (fun h => by cases h), rfl⟩, ⟨_, _, rfl, rfl, rfl, rfl, (fun h => by cases h), rfl⟩, ⟨_, _, rfl, rfl, offC_ren _ o (rowsC_flat (fun _ => rfl) l), rfl, (fun h => by cases h), offC_nm _ o (rowsC_flat (fun _ => rfl) l)⟩, trivial⟩⟩
    ·simp only [ne_eq, beq_eq_false_iff_ne] at hc34
     refine .seq ?_
     refine .region ?_
     refine .q (op_cmpI rfl rfl rfl) trivial rfl ?_
     refine .q (op_assign rfl) trivial rfl ?_
     refine .nil ?_
     show Ev _ _ _ _ _
     refine .cond rfl (fun hc47 => ?_) (fun hc47 => ?_)
     ·simp only [beq_iff_eq] at hc47
      refine .seq ?_
      refine .region ?_
      refine .q (op_fieldAddr (m := 0) Tryd.underlying33 rfl (by kernel_rfl) rfl) trivial rfl ?_
      refine .as (.ptr 1008 1) rfl ?_
      refine .q (op_load Tryd.underlying30 rfl rfl rfl rfl (by show 1 < 4; decide)) trivial rfl ?_
      refine .q (op_rem64 rfl rfl (by decide)) trivial rfl ?_
      refine .q (op_bin64 rfl rfl rfl) trivial rfl ?_
      refine .as (.bool ((l.getD k default).n % 2 == 1)) rfl ?_
      refine .a (op_call (U := [(1000, some ⟨.agg [.ptr 1000 0, .sl 1016 0 (1) 1], 29, true⟩), (1016, some ⟨.aggB (boolB ((l.getD k default).n % 2 == 1)), 5, true⟩)]) [(500, 1000)] [(1016, 1000)] (bool1_ev ((l.getD k default).n % 2 == 1)) Tryd.func10 (by kernel_rfl) rfl rfl rfl (⟨⟨_, rfl, rfl, rfl⟩, ⟨_, rfl, rfl, rfl⟩, trivial⟩) (⟨⟨_, _, rfl, rfl, rfl, rfl, id, rfl⟩, trivial⟩) (⟨⟨500, _, rfl, rfl, rfl, rfl, .inr ⟨rfl, _, rfl, rfl⟩⟩, ⟨1000, _, rfl, rfl, rfl, rfl, .inl rfl⟩, trivial⟩) (⟨(fun _ => ⟨1000, _, rfl, rfl⟩), trivial⟩) rfl) trivial rfl ?_
      refine .nil ?_
      show Ev _ _ _ _ _
      refine .region ?_
      refine .q (op_move rfl) trivial rfl ?_
      refine .q (op_fieldAddr (m := 0) Tryd.underlying33 rfl (by kernel_rfl) rfl) trivial rfl ?_
      refine .as (.ptr 1008 1) rfl ?_
      refine .q (op_load Tryd.underlying30 rfl rfl rfl rfl (by show 1 < 4; decide)) trivial rfl ?_
      refine .q (op_rem64 rfl rfl (by decide)) trivial rfl ?_
      refine .q (op_conv Tryd.underlying30 Tryd.underlying5 rfl rfl) trivial rfl ?_
      refine .a (ap_build (us := [.u8 ((l.getD k default).n % 2).toUInt8]) (c := .aggB [((l.getD k default).n % 2).toUInt8]) Tryd.underlying25 inf5 rfl (by decide) (by decide) ⟨rfl, rfl, rfl, trivial⟩ rfl) trivial rfl ?_
      refine .q (op_bytes_str Tryd.underlying25 Tryd.underlying5 Tryd.underlying9 rfl rfl rfl (by show 0 + 1 ≤ 1; decide)) trivial rfl ?_
      refine .as (.str (boolB ((l.getD k default).n % 2 == 1))) (congrArg AV.str (by exact bool_byte (l.getD k default).n)) ?_
      refine .q (op_addS rfl rfl (by first | omega | (simp only [length_boolB]; omega))) trivial rfl ?_
      refine .q (op_assign rfl) trivial rfl ?_
      refine .nil ?_
      show Ev _ _ _ _ _
      refine .region ?_
      refine .q (op_move rfl) trivial rfl ?_
      refine .q (op_addI rfl rfl ⟨by omega, by omega⟩) trivial rfl ?_
      refine .q (op_assign rfl) trivial rfl ?_
      refine .nil ?_
      have hw : wrF (l.getD k default) = boolB ((l.getD k default).n % 2 == 1) := by unfold wrF; first | (rw [if_pos hc34]) | (rw [if_neg hc34, if_pos hc47]) | (rw [if_neg hc34, if_neg hc47, if_pos hc62]) | (rw [if_neg hc34, if_neg hc47, if_neg hc62, if_pos hc73]) | (rw [if_neg hc34, if_neg hc47, if_neg hc62, if_neg hc73, if_pos hc83]) | (rw [if_neg hc34, if_neg hc47, if_neg hc62, if_neg hc73, if_neg hc83, if_pos hc92]) | (rw [if_neg hc34, if_neg hc47, if_neg hc62, if_neg hc73, if_neg hc83, if_neg hc92, if_pos hc102]) | (rw [if_neg hc34, if_neg hc47, if_neg hc62, if_neg hc73, if_neg hc83, if_neg hc92, if_neg hc102])
      have hN : wrN l (k + 1) = wrN l k ++ boolB ((l.getD k default).n % 2 == 1) := by rw [← hw]; rfl
      have hNL : (wrN l (k + 1)).length = (wrN l k).length + (boolB ((l.getD k default).n % 2 == 1)).length := by rw [hN, List.length_append]
      have hM : wrN l (k + 1) = boolB ((l.getD k default).n % 2 == 1) := by rw [hN, hk.2.2.2]; rfl
      have hML : (wrN l (k + 1)).length = (boolB ((l.getD k default).n % 2 == 1)).length := by rw [hM]
      exact ⟨.used (k + 1) ⟨by omega, by omega, wrN_ne (.inr (wrF_ne (by first | exact .inl (by omega) | exact .inr h40)))⟩, by show l.length - (k + 1) < l.length - k; omega, StLe.mk [(1000, 1000), (1008, 1016)] rfl rfl ⟨⟨_, rfl, by rfl, rfl⟩, ⟨_, rfl, by rfl, rfl⟩, ⟨_, rfl, by rfl, rfl⟩, ⟨_, rfl, by (exact congrArg AV.str (by rw [hN]; first | done | rfl)), rfl⟩, ⟨_, rfl, by rfl, rfl⟩, trivial⟩ ⟨⟨_, _, rfl, rfl, by (simp only [AV.ren, AV.renL]; exact congrArg (fun z => AV.agg [.ptr 1000 0, .sl 1008 0 z 1]) (by rw [hML]; first | done | (simp only [length_boolB]; done) | (simp only [wrN, List.length_nil, length_boolB, length_numB, length_namesB, big_len, length_textB, List.length_cons]; omega))), rfl, id, rfl⟩, ⟨_, _, rfl, rfl, by (exact congrArg AV.aggB (by rw [hM]; first | done | rfl)), rfl, id, rfl⟩, ⟨_, _, rfl, rfl, rfl, rfl, (fun h => by cases h), rfl⟩, ⟨_, _, rfl, rfl, rfl, rfl, (fun h => by cases h), rfl⟩, ⟨_, _, rfl, rfl, rfl, rfl, (fun h => by cases h), rfl⟩, ⟨_, _, rfl, rfl, offC_ren _ o (rowsC_flat (fun _ => rfl) l), rfl, (fun h => by cases h), offC_nm _ o (rowsC_flat (fun _ => rfl) l)⟩, trivial⟩⟩
     ·simp only [ne_eq, beq_eq_false_iff_ne] at hc47
      refine .seq ?_
      refine .region ?_
      refine .q (op_cmpI rfl rfl rfl) trivial rfl ?_
      refine .q (op_assign rfl) trivial rfl ?_
      refine .nil ?_
      show Ev _ _ _ _ _
      refine .cond rfl (fun hc62 => ?_) (fun hc62 => ?_)
      ·simp only [beq_iff_eq] at hc62
       refine .seq ?_
       refine .region ?_
       refine .q (op_fieldAddr (m := 0) Tryd.underlying33 rfl (by kernel_rfl) rfl) trivial rfl ?_
       refine .as (.ptr 1008 1) rfl ?_
       refine .q (op_load Tryd.underlying30 rfl rfl rfl rfl (by show 1 < 4; decide)) trivial rfl ?_
       refine .q (op_conv Tryd.underlying30 Tryd.underlying39 rfl rfl) trivial rfl ?_
       refine .a (op_call (U := [(1000, some ⟨.agg [.ptr 1000 0, .sl 1016 0 (4) 1], 29, true⟩), (1016, some ⟨.aggB (numB (l.getD k default).n.toUInt32.toUInt64 4 4), 5, true⟩)]) [(500, 1000)] [(1016, 1000)] (u321_ev (l.getD k default).n.toUInt32) Tryd.func11 (by kernel_rfl) rfl rfl rfl (⟨⟨_, rfl, rfl, rfl⟩, ⟨_, rfl, rfl, rfl⟩, trivial⟩) (⟨⟨_, _, rfl, rfl, rfl, rfl, id, rfl⟩, trivial⟩) (⟨⟨500, _, rfl, rfl, rfl, rfl, .inr ⟨rfl, _, rfl, rfl⟩⟩, ⟨1000, _, rfl, rfl, rfl, rfl, .inl rfl⟩, trivial⟩) (⟨(fun _ => ⟨1000, _, rfl, rfl⟩), trivial⟩) rfl) trivial rfl ?_
       refine .nil ?_
       show Ev _ _ _ _ _
       refine .region ?_
       refine .q (op_move rfl) trivial rfl ?_
       refine .q (op_fieldAddr (m := 0) Tryd.underlying33 rfl (by kernel_rfl) rfl) trivial rfl ?_
       refine .as (.ptr 1008 1) rfl ?_
       refine .q (op_load Tryd.underlying30 rfl rfl rfl rfl (by show 1 < 4; decide)) trivial rfl ?_
       refine .q (op_call (U := []) [] [] (rnumB_ev (l.getD k default).n 4 (by decide)) Tryd.func12 (by kernel_rfl) rfl rfl rfl (⟨⟨_, rfl, rfl, rfl⟩, ⟨_, rfl, rfl, rfl⟩, trivial⟩) (trivial) (trivial) (trivial) rfl) trivial rfl ?_
       refine .as (.str (numB (l.getD k default).n.toUInt32.toUInt64 4 4)) (congrArg AV.str (by exact tl_u32 (l.getD k default).n)) ?_
       refine .q (op_addS rfl rfl (by first | omega | (simp only [length_numB]; omega))) trivial rfl ?_
       refine .q (op_assign rfl) trivial rfl ?_
       refine .nil ?_
       show Ev _ _ _ _ _
       refine .region ?_
       refine .q (op_move rfl) trivial rfl ?_
       refine .q (op_addI rfl rfl ⟨by omega, by omega⟩) trivial rfl ?_
       refine .q (op_assign rfl) trivial rfl ?_
       refine .nil ?_
       have hw : wrF (l.getD k default) = numB (l.getD k default).n.toUInt32.toUInt64 4 4 := by unfold wrF; first | (rw [if_pos hc34]) | (rw [if_neg hc34, if_pos hc47]) | (rw [if_neg hc34, if_neg hc47, if_pos hc62]) | (rw [if_neg hc34, if_neg hc47, if_neg hc62, if_pos hc73]) | (rw [if_neg hc34, if_neg hc47, if_neg hc62, if_neg hc73, if_pos hc83]) | (rw [if_neg hc34, if_neg hc47, if_neg hc62, if_neg hc73, if_neg hc83, if_pos hc92]) | (rw [if_neg hc34, if_neg hc47, if_neg hc62, if_neg hc73, if_neg hc83, if_neg hc92, if_pos hc102]) | (rw [if_neg hc34, if_neg hc47, if_neg hc62, if_neg hc73, if_neg hc83, if_neg hc92, if_neg hc102])
       have hN : wrN l (k + 1) = wrN l k ++ numB (l.getD k default).n.toUInt32.toUInt64 4 4 := by rw [← hw]; rfl
       have hNL : (wrN l (k + 1)).length = (wrN l k).length + (numB (l.getD k default).n.toUInt32.toUInt64 4 4).length := by rw [hN, List.length_append]
       have hM : wrN l (k + 1) = numB (l.getD k default).n.toUInt32.toUInt64 4 4 := by rw [hN, hk.2.2.2]; rfl
       have hML : (wrN l (k + 1)).length = (numB (l.getD k default).n.toUInt32.toUInt64 4 4).length := by rw [hM]
       exact ⟨.used (k + 1) ⟨by omega, by omega, wrN_ne (.inr (wrF_ne (by first | exact .inl (by omega) | exact .inr h40)))⟩, by show l.length - (k + 1) < l.length - k; omega, StLe.mk [(1000, 1000), (1008, 1016)] rfl rfl ⟨⟨_, rfl, by rfl, rfl⟩, ⟨_, rfl, by rfl, rfl⟩, ⟨_, rfl, by rfl, rfl⟩, ⟨_, rfl, by (exact congrArg AV.str (by rw [hN]; first | done | rfl)), rfl⟩, ⟨_, rfl, by rfl, rfl⟩, trivial⟩ ⟨⟨_, _, rfl, rfl, by (simp only [AV.ren, AV.renL]; exact congrArg (fun z => AV.agg [.ptr 1000 0, .sl 1008 0 z 1]) (by rw [hML]; first | done | (simp only [length_numB]; done) | (simp only [wrN, List.length_nil, length_boolB, length_numB, length_namesB, big_len, length_textB, List.length_cons]; omega))), rfl, id, rfl⟩, ⟨_, _, rfl, rfl, by (exact congrArg AV.aggB (by rw [hM]; first | done | rfl)), rfl, id, rfl⟩, ⟨_, _, rfl, rfl, rfl, rfl, (fun h => by cases h), rfl⟩, ⟨_, _, rfl, rfl, rfl, rfl, (fun h => by cases h), rfl⟩, ⟨_, _, rfl, rfl, rfl, rfl, (fun h => by cases h), rfl⟩, ⟨_, _, rfl, rfl, offC_ren _ o (rowsC_flat (fun _ => rfl) l), rfl, (fun h => by cases h), offC_nm _ o (rowsC_flat (fun _ => rfl) l)⟩, trivial⟩⟩
      ·simp only [ne_eq, beq_eq_false_iff_ne] at hc62
       refine .seq ?_
       refine .region ?_
       refine .q (op_cmpI rfl rfl rfl) trivial rfl ?_
       refine .q (op_assign rfl) trivial rfl ?_
       refine .nil ?_
       show Ev _ _ _ _ _
       refine .cond rfl (fun hc73 => ?_) (fun hc73 => ?_)
       ·simp only [beq_iff_eq] at hc73
        refine .seq ?_
        refine .region ?_
        refine .q (op_fieldAddr (m := 0) Tryd.underlying33 rfl (by kernel_rfl) rfl) trivial rfl ?_
        refine .as (.ptr 1008 1) rfl ?_
        refine .q (op_load Tryd.underlying30 rfl rfl rfl rfl (by show 1 < 4; decide)) trivial rfl ?_
        refine .a (op_call (U := [(1000, some ⟨.agg [.ptr 1000 0, .sl 1016 0 (8) 1], 29, true⟩), (1016, some ⟨.aggB (numB (l.getD k default).n 8 8), 5, true⟩)]) [(500, 1000)] [(1016, 1000)] (u641_ev (l.getD k default).n) Tryd.func13 (by kernel_rfl) rfl rfl rfl (⟨⟨_, rfl, rfl, rfl⟩, ⟨_, rfl, rfl, rfl⟩, trivial⟩) (⟨⟨_, _, rfl, rfl, rfl, rfl, id, rfl⟩, trivial⟩) (⟨⟨500, _, rfl, rfl, rfl, rfl, .inr ⟨rfl, _, rfl, rfl⟩⟩, ⟨1000, _, rfl, rfl, rfl, rfl, .inl rfl⟩, trivial⟩) (⟨(fun _ => ⟨1000, _, rfl, rfl⟩), trivial⟩) rfl) trivial rfl ?_
        refine .nil ?_
        show Ev _ _ _ _ _
        refine .region ?_
        refine .q (op_move rfl) trivial rfl ?_
        refine .q (op_fieldAddr (m := 0) Tryd.underlying33 rfl (by kernel_rfl) rfl) trivial rfl ?_
        refine .as (.ptr 1008 1) rfl ?_
        refine .q (op_load Tryd.underlying30 rfl rfl rfl rfl (by show 1 < 4; decide)) trivial rfl ?_
        refine .q (op_call (U := []) [] [] (rnumB_ev (l.getD k default).n 8 (by decide)) Tryd.func12 (by kernel_rfl) rfl rfl rfl (⟨⟨_, rfl, rfl, rfl⟩, ⟨_, rfl, rfl, rfl⟩, trivial⟩) (trivial) (trivial) (trivial) rfl) trivial rfl ?_
        refine .as (.str (numB (l.getD k default).n 8 8)) (congrArg AV.str (by exact tl_num8 (l.getD k default).n)) ?_
        refine .q (op_addS rfl rfl (by first | omega | (simp only [length_numB]; omega))) trivial rfl ?_
        refine .q (op_assign rfl) trivial rfl ?_
        refine .nil ?_
        show Ev _ _ _ _ _
        refine .region ?_
        refine .q (op_move rfl) trivial rfl ?_
        refine .q (op_addI rfl rfl ⟨by omega, by omega⟩) trivial rfl ?_
        refine .q (op_assign rfl) trivial rfl ?_
        refine .nil ?_
        have hw : wrF (l.getD k default) = numB (l.getD k default).n 8 8 := by unfold wrF; first | (rw [if_pos hc34]) | (rw [if_neg hc34, if_pos hc47]) | (rw [if_neg hc34, if_neg hc47, if_pos hc62]) | (rw [if_neg hc34, if_neg hc47, if_neg hc62, if_pos hc73]) | (rw [if_neg hc34, if_neg hc47, if_neg hc62, if_neg hc73, if_pos hc83]) | (rw [if_neg hc34, if_neg hc47, if_neg hc62, if_neg hc73, if_neg hc83, if_pos hc92]) | (rw [if_neg hc34, if_neg hc47, if_neg hc62, if_neg hc73, if_neg hc83, if_neg hc92, if_pos hc102]) | (rw [if_neg hc34, if_neg hc47, if_neg hc62, if_neg hc73, if_neg hc83, if_neg hc92, if_neg hc102])
        have hN : wrN l (k + 1) = wrN l k ++ numB (l.getD k default).n 8 8 := by rw [← hw]; rfl
        have hNL : (wrN l (k + 1)).length = (wrN l k).length + (numB (l.getD k default).n 8 8).length := by rw [hN, List.length_append]
        have hM : wrN l (k + 1) = numB (l.getD k default).n 8 8 := by rw [hN, hk.2.2.2]; rfl
        have hML : (wrN l (k + 1)).length = (numB (l.getD k default).n 8 8).length := by rw [hM]
        exact ⟨.used (k + 1) ⟨by omega, by omega, wrN_ne (.inr (wrF_ne (by first | exact .inl (by omega) | exact .inr h40)))⟩, by show l.length - (k + 1) < l.length - k; omega, StLe.mk [(1000, 1000), (1008, 1016)] rfl rfl ⟨⟨_, rfl, by rfl, rfl⟩, ⟨_, rfl, by rfl, rfl⟩, ⟨_, rfl, by rfl, rfl⟩, ⟨_, rfl, by (exact congrArg AV.str (by rw [hN]; first | done | rfl)), rfl⟩, ⟨_, rfl, by rfl, rfl⟩, trivial⟩ ⟨⟨_, _, rfl, rfl, by (simp only [AV.ren, AV.renL]; exact congrArg (fun z => AV.agg [.ptr 1000 0, .sl 1008 0 z 1]) (by rw [hML]; first | done | (simp only [length_numB]; done) | (simp only [wrN, List.length_nil, length_boolB, length_numB, length_namesB, big_len, length_textB, List.length_cons]; omega))), rfl, id, rfl⟩, ⟨_, _, rfl, rfl, by (exact congrArg AV.aggB (by rw [hM]; first | done | rfl)), rfl, id, rfl⟩, ⟨_, _, rfl, rfl, rfl, rfl, (fun h => by cases h), rfl⟩, ⟨_, _, rfl, rfl, rfl, rfl, (fun h => by cases h), rfl⟩, ⟨_, _, rfl, rfl, rfl, rfl, (fun h => by cases h), rfl⟩, ⟨_, _, rfl, rfl, offC_ren _ o (rowsC_flat (fun _ => rfl) l), rfl, (fun h => by cases h), offC_nm _ o (rowsC_flat (fun _ => rfl) l)⟩, trivial⟩⟩
       ·simp only [ne_eq, beq_eq_false_iff_ne] at hc73
        refine .seq ?_
        refine .region ?_
        refine .q (op_cmpI rfl rfl rfl) trivial rfl ?_
        refine .q (op_assign rfl) trivial rfl ?_
        refine .nil ?_
        show Ev _ _ _ _ _
        refine .cond rfl (fun hc83 => ?_) (fun hc83 => ?_)
        ·simp only [beq_iff_eq] at hc83
         refine .seq ?_
         refine .region ?_
         refine .q (op_fieldAddr (m := 0) Tryd.underlying33 rfl (by kernel_rfl) rfl) trivial rfl ?_
         refine .as (.ptr 1008 2) rfl ?_
         refine .q (op_load Tryd.underlying9 rfl rfl rfl rfl (by show 2 < 4; decide)) trivial rfl ?_
         refine dite (((l.getD k default).s.take 40) = []) (fun h40 => ?_) (fun h40 => ?_)
         ·refine .a (op_call (U := [(1000, some ⟨.agg [.ptr 1000 0, .nilsl], 29, true⟩)]) [(500, 1000)] [] (raw1e_ev ((l.getD k default).s.take 40) h40) Tryd.func14 (by kernel_rfl) rfl rfl rfl (⟨⟨_, rfl, rfl, rfl⟩, ⟨_, rfl, rfl, rfl⟩, trivial⟩) (⟨⟨_, _, rfl, rfl, rfl, rfl, id, rfl⟩, trivial⟩) (⟨⟨500, _, rfl, rfl, rfl, rfl, .inr ⟨rfl, _, rfl, rfl⟩⟩, trivial⟩) (⟨(fun _ => ⟨1000, _, rfl, rfl⟩), trivial⟩) rfl) trivial rfl ?_
          refine .nil ?_
          show Ev _ _ _ _ _
          refine .region ?_
          refine .q (op_move rfl) trivial rfl ?_
          refine .q (op_fieldAddr (m := 0) Tryd.underlying33 rfl (by kernel_rfl) rfl) trivial rfl ?_
          refine .as (.ptr 1008 2) rfl ?_
          refine .q (op_load Tryd.underlying9 rfl rfl rfl rfl (by show 2 < 4; decide)) trivial rfl ?_
          refine .q (op_addS rfl rfl (by first | omega | (simp only [List.length_cons, List.length_nil, length_boolB, length_numB, length_namesB, big_len, length_textB]; omega))) trivial rfl ?_
          refine .q (op_assign rfl) trivial rfl ?_
          refine .nil ?_
          show Ev _ _ _ _ _
          refine .region ?_
          refine .q (op_move rfl) trivial rfl ?_
          refine .q (op_addI rfl rfl ⟨by omega, by omega⟩) trivial rfl ?_
          refine .q (op_assign rfl) trivial rfl ?_
          refine .nil ?_
          have hN := (show wrN l (k + 1) = [] by rw [show wrN l (k + 1) = wrN l k ++ wrF (l.getD k default) from rfl, wrF_4n hc83 h40, hk.2.2.2]; rfl)
          exact ⟨.touched (k + 1) ⟨by omega, by omega, by omega, hN⟩, by show l.length - (k + 1) < l.length - k; omega, StLe.mk [(1000, 1000)] rfl rfl ⟨⟨_, rfl, by rfl, rfl⟩, ⟨_, rfl, by rfl, rfl⟩, ⟨_, rfl, by rfl, rfl⟩, ⟨_, rfl, by (show AV.str _ = AV.str (wrN l (k + 1)); exact congrArg AV.str (by rw [hN]; first | (rw [h40]; rfl) | (rw [h40, hk.2.2.2]; rfl))), rfl⟩, ⟨_, rfl, by rfl, rfl⟩, trivial⟩ ⟨⟨_, _, rfl, rfl, rfl, rfl, id, rfl⟩, ⟨_, _, rfl, rfl, rfl, rfl, (fun h => by cases h), rfl⟩, ⟨_, _, rfl, rfl, rfl, rfl, (fun h => by cases h), rfl⟩, ⟨_, _, rfl, rfl, rfl, rfl, (fun h => by cases h), rfl⟩, ⟨_, _, rfl, rfl, offC_ren _ o (rowsC_flat (fun _ => rfl) l), rfl, (fun h => by cases h), offC_nm _ o (rowsC_flat (fun _ => rfl) l)⟩, trivial⟩⟩
         ·refine .a (op_call (U := [(1000, some ⟨.agg [.ptr 1000 0, .sl 1016 0 (((l.getD k default).s.take 40).length) 1], 29, true⟩), (1016, some ⟨.aggB (((l.getD k default).s.take 40)), 5, true⟩)]) [(500, 1000)] [(1016, 1000)] (raw1_ev ((l.getD k default).s.take 40) (List.length_pos_iff.2 h40) (by omega)) Tryd.func14 (by kernel_rfl) rfl rfl rfl (⟨⟨_, rfl, rfl, rfl⟩, ⟨_, rfl, rfl, rfl⟩, trivial⟩) (⟨⟨_, _, rfl, rfl, rfl, rfl, id, rfl⟩, trivial⟩) (⟨⟨500, _, rfl, rfl, rfl, rfl, .inr ⟨rfl, _, rfl, rfl⟩⟩, ⟨1000, _, rfl, rfl, rfl, rfl, .inl rfl⟩, trivial⟩) (⟨(fun _ => ⟨1000, _, rfl, rfl⟩), trivial⟩) rfl) trivial rfl ?_
          refine .nil ?_
          show Ev _ _ _ _ _
          refine .region ?_
          refine .q (op_move rfl) trivial rfl ?_
          refine .q (op_fieldAddr (m := 0) Tryd.underlying33 rfl (by kernel_rfl) rfl) trivial rfl ?_
          refine .as (.ptr 1008 2) rfl ?_
          refine .q (op_load Tryd.underlying9 rfl rfl rfl rfl (by show 2 < 4; decide)) trivial rfl ?_
          refine .q (op_addS rfl rfl (by first | omega | (simp only [List.length_cons, List.length_nil, length_boolB, length_numB, length_namesB, big_len, length_textB]; omega))) trivial rfl ?_
          refine .q (op_assign rfl) trivial rfl ?_
          refine .nil ?_
          show Ev _ _ _ _ _
          refine .region ?_
          refine .q (op_move rfl) trivial rfl ?_
          refine .q (op_addI rfl rfl ⟨by omega, by omega⟩) trivial rfl ?_
          refine .q (op_assign rfl) trivial rfl ?_
          refine .nil ?_
          have hw : wrF (l.getD k default) = ((l.getD k default).s.take 40) := by unfold wrF; first | (rw [if_pos hc34]) | (rw [if_neg hc34, if_pos hc47]) | (rw [if_neg hc34, if_neg hc47, if_pos hc62]) | (rw [if_neg hc34, if_neg hc47, if_neg hc62, if_pos hc73]) | (rw [if_neg hc34, if_neg hc47, if_neg hc62, if_neg hc73, if_pos hc83]) | (rw [if_neg hc34, if_neg hc47, if_neg hc62, if_neg hc73, if_neg hc83, if_pos hc92]) | (rw [if_neg hc34, if_neg hc47, if_neg hc62, if_neg hc73, if_neg hc83, if_neg hc92, if_pos hc102]) | (rw [if_neg hc34, if_neg hc47, if_neg hc62, if_neg hc73, if_neg hc83, if_neg hc92, if_neg hc102])
          have hN : wrN l (k + 1) = wrN l k ++ ((l.getD k default).s.take 40) := by rw [← hw]; rfl
          have hNL : (wrN l (k + 1)).length = (wrN l k).length + (((l.getD k default).s.take 40)).length := by rw [hN, List.length_append]
          have hM : wrN l (k + 1) = ((l.getD k default).s.take 40) := by rw [hN, hk.2.2.2]; rfl
          have hML : (wrN l (k + 1)).length = (((l.getD k default).s.take 40)).length := by rw [hM]
          exact ⟨.used (k + 1) ⟨by omega, by omega, wrN_ne (.inr (wrF_ne (by first | exact .inl (by omega) | exact .inr h40)))⟩, by show l.length - (k + 1) < l.length - k; omega, StLe.mk [(1000, 1000), (1008, 1016)] rfl rfl ⟨⟨_, rfl, by rfl, rfl⟩, ⟨_, rfl, by rfl, rfl⟩, ⟨_, rfl, by rfl, rfl⟩, ⟨_, rfl, by (exact congrArg AV.str (by rw [hN]; first | done | rfl)), rfl⟩, ⟨_, rfl, by rfl, rfl⟩, trivial⟩ ⟨⟨_, _, rfl, rfl, by (simp only [AV.ren, AV.renL]; exact congrArg (fun z => AV.agg [.ptr 1000 0, .sl 1008 0 z 1]) (by rw [hML]; first | done | (simp only [wrN, List.length_nil, length_boolB, length_numB, length_namesB, big_len, length_textB, List.length_cons]; done) | (simp only [wrN, List.length_nil, length_boolB, length_numB, length_namesB, big_len, length_textB, List.length_cons]; omega))), rfl, id, rfl⟩, ⟨_, _, rfl, rfl, by (exact congrArg AV.aggB (by rw [hM]; first | done | rfl)), rfl, id, rfl⟩, ⟨_, _, rfl, rfl, rfl, rfl, (fun h => by cases h), rfl⟩, ⟨_, _, rfl, rfl, rfl, rfl, (fun h => by cases h), rfl⟩, ⟨_, _, rfl, rfl, rfl, rfl, (fun h => by cases h), rfl⟩, ⟨_, _, rfl, rfl, offC_ren _ o (rowsC_flat (fun _ => rfl) l), rfl, (fun h => by cases h), offC_nm _ o (rowsC_flat (fun _ => rfl) l)⟩, trivial⟩⟩
        ·simp only [ne_eq, beq_eq_false_iff_ne] at hc83
         refine .seq ?_
         refine .region ?_
         refine .q (op_cmpI rfl rfl rfl) trivial rfl ?_
         refine .q (op_assign rfl) trivial rfl ?_
         refine .nil ?_
         show Ev _ _ _ _ _
         refine .cond rfl (fun hc92 => ?_) (fun hc92 => ?_)
         ·simp only [beq_iff_eq] at hc92
          refine .seq ?_
          refine .region ?_
          refine .q (op_fieldAddr (m := 0) Tryd.underlying33 rfl (by kernel_rfl) rfl) trivial rfl ?_
          refine .as (.ptr 1008 3) rfl ?_
          refine .q (op_load Tryd.underlying31 rfl rfl rfl rfl (by show 3 < 4; decide)) trivial rfl ?_
          refine .a (op_call (U := [(1000, some ⟨.agg [.ptr 1000 0, .sl 1016 0 ((4 + (joinB (fewL (l.getD k default).l)).length)) 1], 29, true⟩), (1016, some ⟨.aggB (namesB (fewL (l.getD k default).l)), 5, true⟩)]) [(500, 1000)] [(1016, 1000)] (names1_ev (fewL (l.getD k default).l) (by omega) (by omega)) Tryd.func15 (by kernel_rfl) rfl rfl rfl (⟨⟨_, rfl, rfl, rfl⟩, ⟨_, rfl, rfl, rfl⟩, trivial⟩) (⟨⟨_, _, rfl, rfl, rfl, rfl, id, rfl⟩, trivial⟩) (⟨⟨500, _, rfl, rfl, rfl, rfl, .inr ⟨rfl, _, rfl, rfl⟩⟩, ⟨1000, _, rfl, rfl, rfl, rfl, .inl rfl⟩, trivial⟩) (⟨(fun _ => ⟨1000, _, rfl, rfl⟩), trivial⟩) rfl) trivial rfl ?_
          refine .nil ?_
          show Ev _ _ _ _ _
          refine .region ?_
          refine .q (op_move rfl) trivial rfl ?_
          refine .q (op_fieldAddr (m := 0) Tryd.underlying33 rfl (by kernel_rfl) rfl) trivial rfl ?_
          refine .as (.ptr 1008 3) rfl ?_
          refine .q (op_load Tryd.underlying31 rfl rfl rfl rfl (by show 3 < 4; decide)) trivial rfl ?_
          refine .q (op_call (U := []) [] [] (rnamesB_ev (fewL (l.getD k default).l) (by omega) (by omega)) Tryd.func16 (by kernel_rfl) rfl rfl rfl (⟨⟨_, rfl, rfl, rfl⟩, trivial⟩) (trivial) (trivial) (trivial) rfl) trivial rfl ?_
          refine .q (op_addS rfl rfl (by first | omega | (simp only [length_namesB]; omega))) trivial rfl ?_
          refine .q (op_assign rfl) trivial rfl ?_
          refine .nil ?_
          show Ev _ _ _ _ _
          refine .region ?_
          refine .q (op_move rfl) trivial rfl ?_
          refine .q (op_addI rfl rfl ⟨by omega, by omega⟩) trivial rfl ?_
          refine .q (op_assign rfl) trivial rfl ?_
          refine .nil ?_
          have hw : wrF (l.getD k default) = namesB (fewL (l.getD k default).l) := by unfold wrF; first | (rw [if_pos hc34]) | (rw [if_neg hc34, if_pos hc47]) | (rw [if_neg hc34, if_neg hc47, if_pos hc62]) | (rw [if_neg hc34, if_neg hc47, if_neg hc62, if_pos hc73]) | (rw [if_neg hc34, if_neg hc47, if_neg hc62, if_neg hc73, if_pos hc83]) | (rw [if_neg hc34, if_neg hc47, if_neg hc62, if_neg hc73, if_neg hc83, if_pos hc92]) | (rw [if_neg hc34, if_neg hc47, if_neg hc62, if_neg hc73, if_neg hc83, if_neg hc92, if_pos hc102]) | (rw [if_neg hc34, if_neg hc47, if_neg hc62, if_neg hc73, if_neg hc83, if_neg hc92, if_neg hc102])
          have hN : wrN l (k + 1) = wrN l k ++ namesB (fewL (l.getD k default).l) := by rw [← hw]; rfl
          have hNL : (wrN l (k + 1)).length = (wrN l k).length + (namesB (fewL (l.getD k default).l)).length := by rw [hN, List.length_append]
          have hM : wrN l (k + 1) = namesB (fewL (l.getD k default).l) := by rw [hN, hk.2.2.2]; rfl
          have hML : (wrN l (k + 1)).length = (namesB (fewL (l.getD k default).l)).length := by rw [hM]
          exact ⟨.used (k + 1) ⟨by omega, by omega, wrN_ne (.inr (wrF_ne (by first | exact .inl (by omega) | exact .inr h40)))⟩, by show l.length - (k + 1) < l.length - k; omega, StLe.mk [(1000, 1000), (1008, 1016)] rfl rfl ⟨⟨_, rfl, by rfl, rfl⟩, ⟨_, rfl, by rfl, rfl⟩, ⟨_, rfl, by rfl, rfl⟩, ⟨_, rfl, by (exact congrArg AV.str (by rw [hN]; first | done | rfl)), rfl⟩, ⟨_, rfl, by rfl, rfl⟩, trivial⟩ ⟨⟨_, _, rfl, rfl, by (simp only [AV.ren, AV.renL]; exact congrArg (fun z => AV.agg [.ptr 1000 0, .sl 1008 0 z 1]) (by rw [hML]; first | done | (simp only [length_namesB]; done) | (simp only [wrN, List.length_nil, length_boolB, length_numB, length_namesB, big_len, length_textB, List.length_cons]; omega))), rfl, id, rfl⟩, ⟨_, _, rfl, rfl, by (exact congrArg AV.aggB (by rw [hM]; first | done | rfl)), rfl, id, rfl⟩, ⟨_, _, rfl, rfl, rfl, rfl, (fun h => by cases h), rfl⟩, ⟨_, _, rfl, rfl, rfl, rfl, (fun h => by cases h), rfl⟩, ⟨_, _, rfl, rfl, rfl, rfl, (fun h => by cases h), rfl⟩, ⟨_, _, rfl, rfl, offC_ren _ o (rowsC_flat (fun _ => rfl) l), rfl, (fun h => by cases h), offC_nm _ o (rowsC_flat (fun _ => rfl) l)⟩, trivial⟩⟩
         ·simp only [ne_eq, beq_eq_false_iff_ne] at hc92
          refine .seq ?_
          refine .region ?_
          refine .q (op_cmpI rfl rfl rfl) trivial rfl ?_
          refine .q (op_assign rfl) trivial rfl ?_
          refine .nil ?_
          show Ev _ _ _ _ _
          refine .cond rfl (fun hc102 => ?_) (fun hc102 => ?_)
          ·simp only [beq_iff_eq] at hc102
           refine .seq ?_
           refine .region ?_
           refine .q (op_fieldAddr (m := 0) Tryd.underlying33 rfl (by kernel_rfl) rfl) trivial rfl ?_
           refine .as (.ptr 1008 2) rfl ?_
           refine .q (op_load Tryd.underlying9 rfl rfl rfl rfl (by show 2 < 4; decide)) trivial rfl ?_
           refine .a (op_call (U := [(1000, some ⟨.agg [.ptr 1000 0, .sl 1016 0 ((4 + (unsB (shortB ((l.getD k default).s.take 40))).length)) 1], 29, true⟩), (1016, some ⟨.aggB (bigB ((l.getD k default).s.take 40)), 5, true⟩)]) [(500, 1000)] [(1016, 1000)] (big1_ev ((l.getD k default).s.take 40) (by omega)) Tryd.func17 (by kernel_rfl) rfl rfl rfl (⟨⟨_, rfl, rfl, rfl⟩, ⟨_, rfl, rfl, rfl⟩, trivial⟩) (⟨⟨_, _, rfl, rfl, rfl, rfl, id, rfl⟩, trivial⟩) (⟨⟨500, _, rfl, rfl, rfl, rfl, .inr ⟨rfl, _, rfl, rfl⟩⟩, ⟨1000, _, rfl, rfl, rfl, rfl, .inl rfl⟩, trivial⟩) (⟨(fun _ => ⟨1000, _, rfl, rfl⟩), trivial⟩) rfl) trivial rfl ?_
           refine .nil ?_
           show Ev _ _ _ _ _
           refine .region ?_
           refine .q (op_move rfl) trivial rfl ?_
           refine .q (op_fieldAddr (m := 0) Tryd.underlying33 rfl (by kernel_rfl) rfl) trivial rfl ?_
           refine .as (.ptr 1008 2) rfl ?_
           refine .q (op_load Tryd.underlying9 rfl rfl rfl rfl (by show 2 < 4; decide)) trivial rfl ?_
           refine .q (op_call (U := []) [] [] (rbigB_ev ((l.getD k default).s.take 40) (by omega)) Tryd.func18 (by kernel_rfl) rfl rfl rfl (⟨⟨_, rfl, rfl, rfl⟩, trivial⟩) (trivial) (trivial) (trivial) rfl) trivial rfl ?_
           refine .as (.str (bigB ((l.getD k default).s.take 40))) (congrArg AV.str (by exact textR_eq (by omega))) ?_
           refine .q (op_addS rfl rfl (by first | omega | (simp only [big_len]; omega))) trivial rfl ?_
           refine .q (op_assign rfl) trivial rfl ?_
           refine .nil ?_
           show Ev _ _ _ _ _
           refine .region ?_
           refine .q (op_move rfl) trivial rfl ?_
           refine .q (op_addI rfl rfl ⟨by omega, by omega⟩) trivial rfl ?_
           refine .q (op_assign rfl) trivial rfl ?_
           refine .nil ?_
           have hw : wrF (l.getD k default) = bigB ((l.getD k default).s.take 40) := by unfold wrF; first | (rw [if_pos hc34]) | (rw [if_neg hc34, if_pos hc47]) | (rw [if_neg hc34, if_neg hc47, if_pos hc62]) | (rw [if_neg hc34, if_neg hc47, if_neg hc62, if_pos hc73]) | (rw [if_neg hc34, if_neg hc47, if_neg hc62, if_neg hc73, if_pos hc83]) | (rw [if_neg hc34, if_neg hc47, if_neg hc62, if_neg hc73, if_neg hc83, if_pos hc92]) | (rw [if_neg hc34, if_neg hc47, if_neg hc62, if_neg hc73, if_neg hc83, if_neg hc92, if_pos hc102]) | (rw [if_neg hc34, if_neg hc47, if_neg hc62, if_neg hc73, if_neg hc83, if_neg hc92, if_neg hc102])
           have hN : wrN l (k + 1) = wrN l k ++ bigB ((l.getD k default).s.take 40) := by rw [← hw]; rfl
           have hNL : (wrN l (k + 1)).length = (wrN l k).length + (bigB ((l.getD k default).s.take 40)).length := by rw [hN, List.length_append]
           have hM : wrN l (k + 1) = bigB ((l.getD k default).s.take 40) := by rw [hN, hk.2.2.2]; rfl
           have hML : (wrN l (k + 1)).length = (bigB ((l.getD k default).s.take 40)).length := by rw [hM]
           exact ⟨.used (k + 1) ⟨by omega, by omega, wrN_ne (.inr (wrF_ne (by first | exact .inl (by omega) | exact .inr h40)))⟩, by show l.length - (k + 1) < l.length - k; omega, StLe.mk [(1000, 1000), (1008, 1016)] rfl rfl ⟨⟨_, rfl, by rfl, rfl⟩, ⟨_, rfl, by rfl, rfl⟩, ⟨_, rfl, by rfl, rfl⟩, ⟨_, rfl, by (exact congrArg AV.str (by rw [hN]; first | done | rfl)), rfl⟩, ⟨_, rfl, by rfl, rfl⟩, trivial⟩ ⟨⟨_, _, rfl, rfl, by (simp only [AV.ren, AV.renL]; exact congrArg (fun z => AV.agg [.ptr 1000 0, .sl 1008 0 z 1]) (by rw [hML]; first | done | (simp only [big_len]; done) | (simp only [wrN, List.length_nil, length_boolB, length_numB, length_namesB, big_len, length_textB, List.length_cons]; omega))), rfl, id, rfl⟩, ⟨_, _, rfl, rfl, by (exact congrArg AV.aggB (by rw [hM]; first | done | rfl)), rfl, id, rfl⟩, ⟨_, _, rfl, rfl, rfl, rfl, (fun h => by cases h), rfl⟩, ⟨_, _, rfl, rfl, rfl, rfl, (fun h => by cases h), rfl⟩, ⟨_, _, rfl, rfl, rfl, rfl, (fun h => by cases h), rfl⟩, ⟨_, _, rfl, rfl, offC_ren _ o (rowsC_flat (fun _ => rfl) l), rfl, (fun h => by cases h), offC_nm _ o (rowsC_flat (fun _ => rfl) l)⟩, trivial⟩⟩
          ·simp only [ne_eq, beq_eq_false_iff_ne] at hc102
           refine .seq ?_
           refine .region ?_
           refine .q (op_fieldAddr (m := 0) Tryd.underlying33 rfl (by kernel_rfl) rfl) trivial rfl ?_
           refine .as (.ptr 1008 2) rfl ?_
           refine .q (op_load Tryd.underlying9 rfl rfl rfl rfl (by show 2 < 4; decide)) trivial rfl ?_
           refine .a (op_call (U := [(1000, some ⟨.agg [.ptr 1000 0, .sl 1016 0 ((4 + ((l.getD k default).s.take 40).length)) 1], 29, true⟩), (1016, some ⟨.aggB (textB ((l.getD k default).s.take 40)), 5, true⟩)]) [(500, 1000)] [(1016, 1008)] (text1_ev ((l.getD k default).s.take 40) (by omega)) Tryd.func19 (by kernel_rfl) rfl rfl rfl (⟨⟨_, rfl, rfl, rfl⟩, ⟨_, rfl, rfl, rfl⟩, trivial⟩) (⟨⟨_, _, rfl, rfl, rfl, rfl, id, rfl⟩, trivial⟩) (⟨⟨500, _, rfl, rfl, rfl, rfl, .inr ⟨rfl, _, rfl, rfl⟩⟩, ⟨1008, _, rfl, rfl, rfl, rfl, .inl rfl⟩, trivial⟩) (⟨(fun _ => ⟨1000, _, rfl, rfl⟩), trivial⟩) rfl) trivial rfl ?_
           refine .nil ?_
           show Ev _ _ _ _ _
           refine .region ?_
           refine .q (op_move rfl) trivial rfl ?_
           refine .q (op_fieldAddr (m := 0) Tryd.underlying33 rfl (by kernel_rfl) rfl) trivial rfl ?_
           refine .as (.ptr 1008 2) rfl ?_
           refine .q (op_load Tryd.underlying9 rfl rfl rfl rfl (by show 2 < 4; decide)) trivial rfl ?_
           refine .q (op_call (U := []) [] [] (rtextB_ev ((l.getD k default).s.take 40) (by omega)) Tryd.func20 (by kernel_rfl) rfl rfl rfl (⟨⟨_, rfl, rfl, rfl⟩, trivial⟩) (trivial) (trivial) (trivial) rfl) trivial rfl ?_
           refine .as (.str (textB ((l.getD k default).s.take 40))) (congrArg AV.str (by exact textR_eq (by omega))) ?_
           refine .q (op_addS rfl rfl (by first | omega | (simp only [length_textB]; omega))) trivial rfl ?_
           refine .q (op_assign rfl) trivial rfl ?_
           refine .nil ?_
           show Ev _ _ _ _ _
           refine .region ?_
           refine .q (op_move rfl) trivial rfl ?_
           refine .q (op_addI rfl rfl ⟨by omega, by omega⟩) trivial rfl ?_
           refine .q (op_assign rfl) trivial rfl ?_
           refine .nil ?_
           have hw : wrF (l.getD k default) = textB ((l.getD k default).s.take 40) := by unfold wrF; first | (rw [if_pos hc34]) | (rw [if_neg hc34, if_pos hc47]) | (rw [if_neg hc34, if_neg hc47, if_pos hc62]) | (rw [if_neg hc34, if_neg hc47, if_neg hc62, if_pos hc73]) | (rw [if_neg hc34, if_neg hc47, if_neg hc62, if_neg hc73, if_pos hc83]) | (rw [if_neg hc34, if_neg hc47, if_neg hc62, if_neg hc73, if_neg hc83, if_pos hc92]) | (rw [if_neg hc34, if_neg hc47, if_neg hc62, if_neg hc73, if_neg hc83, if_neg hc92, if_pos hc102]) | (rw [if_neg hc34, if_neg hc47, if_neg hc62, if_neg hc73, if_neg hc83, if_neg hc92, if_neg hc102])
           have hN : wrN l (k + 1) = wrN l k ++ textB ((l.getD k default).s.take 40) := by rw [← hw]; rfl
           have hNL : (wrN l (k + 1)).length = (wrN l k).length + (textB ((l.getD k default).s.take 40)).length := by rw [hN, List.length_append]
           have hM : wrN l (k + 1) = textB ((l.getD k default).s.take 40) := by rw [hN, hk.2.2.2]; rfl
           have hML : (wrN l (k + 1)).length = (textB ((l.getD k default).s.take 40)).length := by rw [hM]
           exact ⟨.used (k + 1) ⟨by omega, by omega, wrN_ne (.inr (wrF_ne (by first | exact .inl (by omega) | exact .inr h40)))⟩, by show l.length - (k + 1) < l.length - k; omega, StLe.mk [(1000, 1000), (1008, 1016)] rfl rfl ⟨⟨_, rfl, by rfl, rfl⟩, ⟨_, rfl, by rfl, rfl⟩, ⟨_, rfl, by rfl, rfl⟩, ⟨_, rfl, by (exact congrArg AV.str (by rw [hN]; first | done | rfl)), rfl⟩, ⟨_, rfl, by rfl, rfl⟩, trivial⟩ ⟨⟨_, _, rfl, rfl, by (simp only [AV.ren, AV.renL]; exact congrArg (fun z => AV.agg [.ptr 1000 0, .sl 1008 0 z 1]) (by rw [hML]; first | done | (simp only [length_textB]; done) | (simp only [wrN, List.length_nil, length_boolB, length_numB, length_namesB, big_len, length_textB, List.length_cons]; omega))), rfl, id, rfl⟩, ⟨_, _, rfl, rfl, by (exact congrArg AV.aggB (by rw [hM]; first | done | rfl)), rfl, id, rfl⟩, ⟨_, _, rfl, rfl, rfl, rfl, (fun h => by cases h), rfl⟩, ⟨_, _, rfl, rfl, rfl, rfl, (fun h => by cases h), rfl⟩, ⟨_, _, rfl, rfl, rfl, rfl, (fun h => by cases h), rfl⟩, ⟨_, _, rfl, rfl, offC_ren _ o (rowsC_flat (fun _ => rfl) l), rfl, (fun h => by cases h), offC_nm _ o (rowsC_flat (fun _ => rfl) l)⟩, trivial⟩⟩
   ·simp only [decide_eq_false_iff_not] at hc16
    refine .exit ?_
    show Ev _ _ _ _ _
    refine .seq ?_
    refine .region ?_
    refine .q (op_call (U := []) [(500, 1000)] [] (bytes1_ev) Tryd.func21 (by kernel_rfl) rfl rfl rfl (⟨⟨_, rfl, rfl, rfl⟩, trivial⟩) (⟨⟨_, _, rfl, rfl, rfl, rfl, (fun h => by cases h), rfl⟩, trivial⟩) (trivial) (⟨(fun h => by cases h), trivial⟩) rfl) trivial rfl ?_
    refine .q (op_move rfl) trivial rfl ?_
    refine .q (op_eqS rfl rfl rfl) trivial rfl ?_
    refine .q (op_assign rfl) trivial rfl ?_
    refine .nil ?_
    show Ev _ _ _ _ _
    refine .ret ?_
    show RetOk _ _ _ _ _ _ _
    exact ret1v rfl (.inl rfl) rfl (congrArg AV.bool (by first | exact beq_self_eq_true _ | rfl | (simp [hk.2.2.2]; done))) trivial
  ·simp only [decide_eq_false_iff_not] at hg13
   refine .no ⟨_, rfl, rfl⟩ rfl ?_
   refine .no ⟨_, rfl, rfl⟩ rfl ?_
   refine .q (op_pick_false rfl rfl rfl) trivial rfl ?_
   refine .nil ?_
   show Ev _ _ _ _ _
   refine .cond_false rfl rfl ?_
   refine .exit ?_
   show Ev _ _ _ _ _
   refine .seq ?_
   refine .region ?_
   refine .q (op_call (U := []) [(500, 1000)] [] (bytes1_ev) Tryd.func21 (by kernel_rfl) rfl rfl rfl (⟨⟨_, rfl, rfl, rfl⟩, trivial⟩) (⟨⟨_, _, rfl, rfl, rfl, rfl, (fun h => by cases h), rfl⟩, trivial⟩) (trivial) (⟨(fun h => by cases h), trivial⟩) rfl) trivial rfl ?_
   refine .q (op_move rfl) trivial rfl ?_
   refine .q (op_eqS rfl rfl rfl) trivial rfl ?_
   refine .q (op_assign rfl) trivial rfl ?_
   refine .nil ?_
   show Ev _ _ _ _ _
   refine .ret ?_
   show RetOk _ _ _ _ _ _ _
   exact ret1v rfl (.inl rfl) rfl (congrArg AV.bool (by first | exact beq_self_eq_true _ | rfl | (simp [hk.2.2.2]; done))) trivial
 ·try dsimp only
  have hwl := wrN_len l k
  have hfj := few_join (l.getD k default).l
  have hfs := fewL_sum (l.getD k default).l
  have hfl := fewL_len (l.getD k default).l
  have hu := uns40 (l.getD k default).s
  have h4l : ((l.getD k default).s.take 40).length ≤ 40 := List.length_take_le 40 _
  refine .seq ?_
  refine .seq ?_
  refine .region ?_
  refine .q (op_move rfl) trivial rfl ?_
  refine .q (op_move rfl) trivial rfl ?_
  refine .q (op_len_sl Tryd.underlying22 rfl) trivial rfl ?_
  refine .q (op_cmpI rfl rfl rfl) trivial rfl ?_
  refine .q (op_move rfl) trivial rfl ?_
  refine .split (fun hg13 => ?_) (fun hg13 => ?_)
  ·simp only [decide_eq_true_eq] at hg13
   refine .q (op_move rfl) ⟨_, rfl, rfl⟩ rfl ?_
   refine .q (op_cmpI rfl rfl rfl) ⟨_, rfl, rfl⟩ rfl ?_
   refine .q (op_pick_true rfl rfl rfl) trivial rfl ?_
   refine .nil ?_
   show Ev _ _ _ _ _
   refine .cond rfl (fun hc16 => ?_) (fun hc16 => ?_)
   ·simp only [decide_eq_true_eq] at hc16
    refine .skip ?_
    show Ev _ _ _ _ _
    refine .seq ?_
    refine .block ?_
    refine .seq ?_
    refine .region ?_
    refine .q (op_move rfl) trivial rfl ?_
    refine .q (op_move rfl) trivial rfl ?_
    refine .q (op_indexAddr (z := 4) Tryd.underlying22 (by kernel_rfl) rfl rfl rfl (show k < l.length by omega)) trivial rfl ?_
    refine .q (op_loadPart (m := 4) (r := .agg [.i64 (l.getD k default).k, .u64 (l.getD k default).n, .str (l.getD k default).s, .dsl (l.getD k default).l]) (cs := fvR (l.getD k default)) Tryd.underlying33 rfl (by kernel_rfl) rfl rfl rfl rfl (fvR_row o k l (show k < l.length by omega)) (by rw [offC_len, rowsC_len (f := fvR) (z := 4) (fun _ => rfl)]; omega)) trivial rfl ?_
    refine .q (op_call (U := []) [] [] (few_ev (l.getD k default).k (l.getD k default).n (l.getD k default).s (l.getD k default).l (Nat.le_trans (l.getD k default).hs (by decide)) (Nat.le_trans (l.getD k default).hl (by decide)) (fun j => Nat.le_trans ((l.getD k default).hb j) (by decide))) Tryd.func8 (by kernel_rfl) rfl rfl rfl (⟨⟨_, rfl, rfl, rfl⟩, trivial⟩) (trivial) (trivial) (trivial) rfl) trivial rfl ?_
    refine .as (.agg [.i64 (l.getD k default).k, .u64 (l.getD k default).n, .str ((l.getD k default).s.take 40), .dsl (fewL (l.getD k default).l)]) rfl ?_
    refine .a (op_allocRow zero33 rel_zero33 rfl) trivial rfl ?_
    refine .w (op_storeRow (by kernel_rfl) rfl rfl rfl rfl rfl (rfl) (rfl)) trivial rfl ?_
    refine .nil ?_
    show Ev _ _ _ _ _
    refine .seq ?_
    refine .region ?_
    refine .q (op_fieldAddr (m := 0) Tryd.underlying33 rfl (by kernel_rfl) rfl) trivial rfl ?_
    refine .as (.ptr 1016 0) rfl ?_
    refine .q (op_load Tryd.underlying3 rfl rfl rfl rfl (by show 0 < 4; decide)) trivial rfl ?_
    refine .nil ?_
    show Ev _ _ _ _ _
    refine .block ?_
    refine .seq ?_
    refine .region ?_
    refine .q (op_cmpI rfl rfl rfl) trivial rfl ?_
    refine .q (op_assign rfl) trivial rfl ?_
    refine .nil ?_
    show Ev _ _ _ _ _
    refine .cond rfl (fun hc34 => ?_) (fun hc34 => ?_)
    ·simp only [beq_iff_eq] at hc34
     refine .seq ?_
     refine .region ?_
     refine .q (op_fieldAddr (m := 0) Tryd.underlying33 rfl (by kernel_rfl) rfl) trivial rfl ?_
     refine .as (.ptr 1016 1) rfl ?_
     refine .q (op_load Tryd.underlying30 rfl rfl rfl rfl (by show 1 < 4; decide)) trivial rfl ?_
     refine .q (op_conv Tryd.underlying30 Tryd.underlying5 rfl rfl) trivial rfl ?_
     refine .a (op_call (U := [(1000, some ⟨.agg [.ptr 1000 0, .sl 1024 0 ((wrN l k).length + 1) 1], 29, true⟩), (1024, some ⟨.aggB ((wrN l k) ++ [(l.getD k default).n.toUInt8]), 5, true⟩), (1008, none)]) [(500, 1000), (501, 1008)] [(1024, 1000)] (byte2_ev (l.getD k default).n.toUInt8 ((wrN l k)) ((wrN l k).length) (by first | exact hn | (simp; done) | (simp [length_numB, length_lenB, length_textB]; omega) | omega | decide +kernel) (by omega)) Tryd.func9 (by kernel_rfl) rfl rfl rfl (⟨⟨_, rfl, rfl, rfl⟩, ⟨_, rfl, rfl, rfl⟩, trivial⟩) (⟨⟨_, _, rfl, rfl, rfl, rfl, id, rfl⟩, ⟨_, _, rfl, rfl, rfl, rfl, id, rfl⟩, trivial⟩) (⟨⟨500, _, rfl, rfl, rfl, rfl, .inr ⟨rfl, _, rfl, rfl⟩⟩, ⟨1000, _, rfl, rfl, rfl, rfl, .inl rfl⟩, trivial⟩) (⟨(fun _ => ⟨1000, _, rfl, rfl⟩), (fun _ => ⟨1008, _, rfl, rfl⟩), trivial⟩) rfl) trivial rfl ?_
     refine .nil ?_
     show Ev _ _ _ _ _
     refine .region ?_
     refine .q (op_move rfl) trivial rfl ?_
     refine .q (op_fieldAddr (m := 0) Tryd.underlying33 rfl (by kernel_rfl) rfl) trivial rfl ?_
     refine .as (.ptr 1016 1) rfl ?_
     refine .q (op_load Tryd.underlying30 rfl rfl rfl rfl (by show 1 < 4; decide)) trivial rfl ?_
     refine .q (op_conv Tryd.underlying30 Tryd.underlying5 rfl rfl) trivial rfl ?_
     refine .a (ap_build (us := [.u8 (l.getD k default).n.toUInt8]) (c := .aggB [(l.getD k default).n.toUInt8]) Tryd.underlying25 inf5 rfl (by decide) (by decide) ⟨rfl, rfl, rfl, trivial⟩ rfl) trivial rfl ?_
     refine .q (op_bytes_str Tryd.underlying25 Tryd.underlying5 Tryd.underlying9 rfl rfl rfl (by show 0 + 1 ≤ 1; decide)) trivial rfl ?_
     refine .as (.str ([(l.getD k default).n.toUInt8])) (congrArg AV.str (by rfl)) ?_
     refine .q (op_addS rfl rfl (by first | omega | (simp only [List.length_cons, List.length_nil]; omega))) trivial rfl ?_
     refine .q (op_assign rfl) trivial rfl ?_
     refine .nil ?_
     show Ev _ _ _ _ _
     refine .region ?_
     refine .q (op_move rfl) trivial rfl ?_
     refine .q (op_addI rfl rfl ⟨by omega, by omega⟩) trivial rfl ?_
     refine .q (op_assign rfl) trivial rfl ?_
     refine .nil ?_
     have hw : wrF (l.getD k default) = [(l.getD k default).n.toUInt8] := by unfold wrF; first | (rw [if_pos hc34]) | (rw [if_neg hc34, if_pos hc47]) | (rw [if_neg hc34, if_neg hc47, if_pos hc62]) | (rw [if_neg hc34, if_neg hc47, if_neg hc62, if_pos hc73]) | (rw [if_neg hc34, if_neg hc47, if_neg hc62, if_neg hc73, if_pos hc83]) | (rw [if_neg hc34, if_neg hc47, if_neg hc62, if_neg hc73, if_neg hc83, if_pos hc92]) | (rw [if_neg hc34, if_neg hc47, if_neg hc62, if_neg hc73, if_neg hc83, if_neg hc92, if_pos hc102]) | (rw [if_neg hc34, if_neg hc47, if_neg hc62, if_neg hc73, if_neg hc83, if_neg hc92, if_neg hc102])
     have hN : wrN l (k + 1) = wrN l k ++ [(l.getD k default).n.toUInt8] := by rw [← hw]; rfl
     have hNL : (wrN l (k + 1)).length = (wrN l k).length + ([(l.getD k default).n.toUInt8]).length := by rw [hN, List.length_append]
     exact ⟨.used (k + 1) ⟨by omega, by omega, wrN_ne (.inl hk.2.2)⟩, by show l.length - (k + 1) < l.length - k; omega, StLe.mk [(1000, 1000), (1008, 1024)] rfl rfl ⟨⟨_, rfl, by rfl, rfl⟩, ⟨_, rfl, by rfl, rfl⟩, ⟨_, rfl, by rfl, rfl⟩, ⟨_, rfl, by (exact congrArg AV.str (by rw [hN]; first | done | rfl)), rfl⟩, ⟨_, rfl, by rfl, rfl⟩, trivial⟩ ⟨⟨_, _, rfl, rfl, by (simp only [AV.ren, AV.renL]; exact congrArg (fun z => AV.agg [.ptr 1000 0, .sl 1008 0 z 1]) (by rw [hNL]; first | done | (simp only [List.length_nil, List.length_cons]; done) | (simp only [wrN, List.length_nil, length_boolB, length_numB, length_namesB, big_len, length_textB, List.length_cons]; omega))), rfl, id, rfl⟩, ⟨_, _, rfl, rfl, by (exact congrArg AV.aggB (by rw [hN]; first | done | rfl)), rfl, id, rfl⟩, ⟨_, _, rfl, rfl, rfl, rfl, (fun h => by cases h), rfl⟩, ⟨_, _, rfl, rfl, rfl, rfl, (fun h => by cases h), rfl⟩, ⟨_, _, rfl, rfl, rfl, rfl, (fun h => by cases h), rfl⟩, ⟨_, _, rfl, rfl, offC_ren _ o (rowsC_flat (fun _ => rfl) l), rfl, (fun h => by cases h), offC_nm _ o (rowsC_flat (fun _ => rfl) l)⟩, trivial⟩⟩
    ·simp only [ne_eq, beq_eq_false_iff_ne] at hc34
     refine .seq ?_
     refine .region ?_
     refine .q (op_cmpI rfl rfl rfl) trivial rfl ?_
     refine .q (op_assign rfl) trivial rfl ?_
     refine .nil ?_
     show Ev _ _ _ _ _
     refine .cond rfl (fun hc47 => ?_) (fun hc47 => ?_)
     ·simp only [beq_iff_eq] at hc47
      refine .seq ?_
      refine .region ?_
      refine .q (op_fieldAddr (m := 0) Tryd.underlying33 rfl (by kernel_rfl) rfl) trivial rfl ?_
      refine .as (.ptr 1016 1) rfl ?_
      refine .q (op_load Tryd.underlying30 rfl rfl rfl rfl (by show 1 < 4; decide)) trivial rfl ?_
      refine .q (op_rem64 rfl rfl (by decide)) trivial rfl ?_
      refine .q (op_bin64 rfl rfl rfl) trivial rfl ?_
      refine .as (.bool ((l.getD k default).n % 2 == 1)) rfl ?_
      refine .a (op_call (U := [(1000, some ⟨.agg [.ptr 1000 0, .sl 1024 0 ((wrN l k).length + 1) 1], 29, true⟩), (1024, some ⟨.aggB ((wrN l k) ++ boolB ((l.getD k default).n % 2 == 1)), 5, true⟩), (1008, none)]) [(500, 1000), (501, 1008)] [(1024, 1000)] (bool2_ev ((l.getD k default).n % 2 == 1) ((wrN l k)) ((wrN l k).length) (by first | exact hn | (simp; done) | (simp [length_numB, length_lenB, length_textB]; omega) | omega | decide +kernel) (by omega)) Tryd.func10 (by kernel_rfl) rfl rfl rfl (⟨⟨_, rfl, rfl, rfl⟩, ⟨_, rfl, rfl, rfl⟩, trivial⟩) (⟨⟨_, _, rfl, rfl, rfl, rfl, id, rfl⟩, ⟨_, _, rfl, rfl, rfl, rfl, id, rfl⟩, trivial⟩) (⟨⟨500, _, rfl, rfl, rfl, rfl, .inr ⟨rfl, _, rfl, rfl⟩⟩, ⟨1000, _, rfl, rfl, rfl, rfl, .inl rfl⟩, trivial⟩) (⟨(fun _ => ⟨1000, _, rfl, rfl⟩), (fun _ => ⟨1008, _, rfl, rfl⟩), trivial⟩) rfl) trivial rfl ?_
      refine .nil ?_
      show Ev _ _ _ _ _
      refine .region ?_
      refine .q (op_move rfl) trivial rfl ?_
      refine .q (op_fieldAddr (m := 0) Tryd.underlying33 rfl (by kernel_rfl) rfl) trivial rfl ?_
      refine .as (.ptr 1016 1) rfl ?_
      refine .q (op_load Tryd.underlying30 rfl rfl rfl rfl (by show 1 < 4; decide)) trivial rfl ?_
      refine .q (op_rem64 rfl rfl (by decide)) trivial rfl ?_
      refine .q (op_conv Tryd.underlying30 Tryd.underlying5 rfl rfl) trivial rfl ?_
      refine .a (ap_build (us := [.u8 ((l.getD k default).n % 2).toUInt8]) (c := .aggB [((l.getD k default).n % 2).toUInt8]) Tryd.underlying25 inf5 rfl (by decide) (by decide) ⟨rfl, rfl, rfl, trivial⟩ rfl) trivial rfl ?_
      refine .q (op_bytes_str Tryd.underlying25 Tryd.underlying5 Tryd.underlying9 rfl rfl rfl (by show 0 + 1 ≤ 1; decide)) trivial rfl ?_
      refine .as (.str (boolB ((l.getD k default).n % 2 == 1))) (congrArg AV.str (by exact bool_byte (l.getD k default).n)) ?_
      refine .q (op_addS rfl rfl (by first | omega | (simp only [length_boolB]; omega))) trivial rfl ?_
      refine .q (op_assign rfl) trivial rfl ?_
      refine .nil ?_
      show Ev _ _ _ _ _
      refine .region ?_
      refine .q (op_move rfl) trivial rfl ?_
      refine .q (op_addI rfl rfl ⟨by omega, by omega⟩) trivial rfl ?_
      refine .q (op_assign rfl) trivial rfl ?_
      refine .nil ?_
      have hw : wrF (l.getD k default) = boolB ((l.getD k default).n % 2 == 1) := by unfold wrF; first | (rw [if_pos hc34]) | (rw [if_neg hc34, if_pos hc47]) | (rw [if_neg hc34, if_neg hc47, if_pos hc62]) | (rw [if_neg hc34, if_neg hc47, if_neg hc62, if_pos hc73]) | (rw [if_neg hc34, if_neg hc47, if_neg hc62, if_neg hc73, if_pos hc83]) | (rw [if_neg hc34, if_neg hc47, if_neg hc62, if_neg hc73, if_neg hc83, if_pos hc92]) | (rw [if_neg hc34, if_neg hc47, if_neg hc62, if_neg hc73, if_neg hc83, if_neg hc92, if_pos hc102]) | (rw [if_neg hc34, if_neg hc47, if_neg hc62, if_neg hc73, if_neg hc83, if_neg hc92, if_neg hc102])
      have hN : wrN l (k + 1) = wrN l k ++ boolB ((l.getD k default).n % 2 == 1) := by rw [← hw]; rfl
      have hNL : (wrN l (k + 1)).length = (wrN l k).length + (boolB ((l.getD k default).n % 2 == 1)).length := by rw [hN, List.length_append]
      exact ⟨.used (k + 1) ⟨by omega, by omega, wrN_ne (.inl hk.2.2)⟩, by show l.length - (k + 1) < l.length - k; omega, StLe.mk [(1000, 1000), (1008, 1024)] rfl rfl ⟨⟨_, rfl, by rfl, rfl⟩, ⟨_, rfl, by rfl, rfl⟩, ⟨_, rfl, by rfl, rfl⟩, ⟨_, rfl, by (exact congrArg AV.str (by rw [hN]; first | done | rfl)), rfl⟩, ⟨_, rfl, by rfl, rfl⟩, trivial⟩ ⟨⟨_, _, rfl, rfl, by (simp only [AV.ren, AV.renL]; exact congrArg (fun z => AV.agg [.ptr 1000 0, .sl 1008 0 z 1]) (by rw [hNL]; first | done | (simp only [length_boolB]; done) | (simp only [wrN, List.length_nil, length_boolB, length_numB, length_namesB, big_len, length_textB, List.length_cons]; omega))), rfl, id, rfl⟩, ⟨_, _, rfl, rfl, by (exact congrArg AV.aggB (by rw [hN]; first | done | rfl)), rfl, id, rfl⟩, ⟨_, _, rfl, rfl, rfl, rfl, (fun h => by cases h), rfl⟩, ⟨_, _, rfl, rfl, rfl, rfl, (fun h => by cases h), rfl⟩, ⟨_, _, rfl, rfl, rfl, rfl, (fun h => by cases h), rfl⟩, ⟨_, _, rfl, rfl, offC_ren _ o (rowsC_flat (fun _ => rfl) l), rfl, (fun h => by cases h), offC_nm _ o (rowsC_flat (fun _ => rfl) l)⟩, trivial⟩⟩
     ·simp only [ne_eq, beq_eq_false_iff_ne] at hc47
      refine .seq ?_
      refine .region ?_
      refine .q (op_cmpI rfl rfl rfl) trivial rfl ?_
      refine .q (op_assign rfl) trivial rfl ?_
      refine .nil ?_
      show Ev _ _ _ _ _
      refine .cond rfl (fun hc62 => ?_) (fun hc62 => ?_)
      ·simp only [beq_iff_eq] at hc62
       refine .seq ?_
       refine .region ?_
       refine .q (op_fieldAddr (m := 0) Tryd.underlying33 rfl (by kernel_rfl) rfl) trivial rfl ?_
       refine .as (.ptr 1016 1) rfl ?_
       refine .q (op_load Tryd.underlying30 rfl rfl rfl rfl (by show 1 < 4; decide)) trivial rfl ?_
       refine .q (op_conv Tryd.underlying30 Tryd.underlying39 rfl rfl) trivial rfl ?_
       refine .a (op_call (U := [(1000, some ⟨.agg [.ptr 1000 0, .sl 1024 0 ((wrN l k).length + 4) 1], 29, true⟩), (1024, some ⟨.aggB ((wrN l k) ++ numB (l.getD k default).n.toUInt32.toUInt64 4 4), 5, true⟩), (1008, none)]) [(500, 1000), (501, 1008)] [(1024, 1000)] (u322_ev (l.getD k default).n.toUInt32 ((wrN l k)) ((wrN l k).length) (by first | exact hn | (simp; done) | (simp [length_numB, length_lenB, length_textB]; omega) | omega | decide +kernel) (by omega)) Tryd.func11 (by kernel_rfl) rfl rfl rfl (⟨⟨_, rfl, rfl, rfl⟩, ⟨_, rfl, rfl, rfl⟩, trivial⟩) (⟨⟨_, _, rfl, rfl, rfl, rfl, id, rfl⟩, ⟨_, _, rfl, rfl, rfl, rfl, id, rfl⟩, trivial⟩) (⟨⟨500, _, rfl, rfl, rfl, rfl, .inr ⟨rfl, _, rfl, rfl⟩⟩, ⟨1000, _, rfl, rfl, rfl, rfl, .inl rfl⟩, trivial⟩) (⟨(fun _ => ⟨1000, _, rfl, rfl⟩), (fun _ => ⟨1008, _, rfl, rfl⟩), trivial⟩) rfl) trivial rfl ?_
       refine .nil ?_
       show Ev _ _ _ _ _
       refine .region ?_
       refine .q (op_move rfl) trivial rfl ?_
       refine .q (op_fieldAddr (m := 0) Tryd.underlying33 rfl (by kernel_rfl) rfl) trivial rfl ?_
       refine .as (.ptr 1016 1) rfl ?_
       refine .q (op_load Tryd.underlying30 rfl rfl rfl rfl (by show 1 < 4; decide)) trivial rfl ?_
       refine .q (op_call (U := []) [] [] (rnumB_ev (l.getD k default).n 4 (by decide)) Tryd.func12 (by kernel_rfl) rfl rfl rfl (⟨⟨_, rfl, rfl, rfl⟩, ⟨_, rfl, rfl, rfl⟩, trivial⟩) (trivial) (trivial) (trivial) rfl) trivial rfl ?_
       refine .as (.str (numB (l.getD k default).n.toUInt32.toUInt64 4 4)) (congrArg AV.str (by exact tl_u32 (l.getD k default).n)) ?_
       refine .q (op_addS rfl rfl (by first | omega | (simp only [length_numB]; omega))) trivial rfl ?_
       refine .q (op_assign rfl) trivial rfl ?_
       refine .nil ?_
       show Ev _ _ _ _ _
       refine .region ?_
       refine .q (op_move rfl) trivial rfl ?_
       refine .q (op_addI rfl rfl ⟨by omega, by omega⟩) trivial rfl ?_
       refine .q (op_assign rfl) trivial rfl ?_
       refine .nil ?_
       have hw : wrF (l.getD k default) = numB (l.getD k default).n.toUInt32.toUInt64 4 4 := by unfold wrF; first | (rw [if_pos hc34]) | (rw [if_neg hc34, if_pos hc47]) | (rw [if_neg hc34, if_neg hc47, if_pos hc62]) | (rw [if_neg hc34, if_neg hc47, if_neg hc62, if_pos hc73]) | (rw [if_neg hc34, if_neg hc47, if_neg hc62, if_neg hc73, if_pos hc83]) | (rw [if_neg hc34, if_neg hc47, if_neg hc62, if_neg hc73, if_neg hc83, if_pos hc92]) | (rw [if_neg hc34, if_neg hc47, if_neg hc62, if_neg hc73, if_neg hc83, if_neg hc92, if_pos hc102]) | (rw [if_neg hc34, if_neg hc47, if_neg hc62, if_neg hc73, if_neg hc83, if_neg hc92, if_neg hc102])
       have hN : wrN l (k + 1) = wrN l k ++ numB (l.getD k default).n.toUInt32.toUInt64 4 4 := by rw [← hw]; rfl
       have hNL : (wrN l (k + 1)).length = (wrN l k).length + (numB (l.getD k default).n.toUInt32.toUInt64 4 4).length := by rw [hN, List.length_append]
       exact ⟨.used (k + 1) ⟨by omega, by omega, wrN_ne (.inl hk.2.2)⟩, by show l.length - (k + 1) < l.length - k; omega, StLe.mk [(1000, 1000), (1008, 1024)] rfl rfl ⟨⟨_, rfl, by rfl, rfl⟩, ⟨_, rfl, by rfl, rfl⟩, ⟨_, rfl, by rfl, rfl⟩, ⟨_, rfl, by (exact congrArg AV.str (by rw [hN]; first | done | rfl)), rfl⟩, ⟨_, rfl, by rfl, rfl⟩, trivial⟩ ⟨⟨_, _, rfl, rfl, by (simp only [AV.ren, AV.renL]; exact congrArg (fun z => AV.agg [.ptr 1000 0, .sl 1008 0 z 1]) (by rw [hNL]; first | done | (simp only [length_numB]; done) | (simp only [wrN, List.length_nil, length_boolB, length_numB, length_namesB, big_len, length_textB, List.length_cons]; omega))), rfl, id, rfl⟩, ⟨_, _, rfl, rfl, by (exact congrArg AV.aggB (by rw [hN]; first | done | rfl)), rfl, id, rfl⟩, ⟨_, _, rfl, rfl, rfl, rfl, (fun h => by cases h), rfl⟩, ⟨_, _, rfl, rfl, rfl, rfl, (fun h => by cases h), rfl⟩, ⟨_, _, rfl, rfl, rfl, rfl, (fun h => by cases h), rfl⟩, ⟨_, _, rfl, rfl, offC_ren _ o (rowsC_flat (fun _ => rfl) l), rfl, (fun h => by cases h), offC_nm _ o (rowsC_flat (fun _ => rfl) l)⟩, trivial⟩⟩
      ·simp only [ne_eq, beq_eq_false_iff_ne] at hc62
       refine .seq ?_
       refine .region ?_
       refine .q (op_cmpI rfl rfl rfl) trivial rfl ?_
       refine .q (op_assign rfl) trivial rfl ?_
       refine .nil ?_
       show Ev _ _ _ _ _
       refine .cond rfl (fun hc73 => ?_) (fun hc73 => ?_)
       ·simp only [beq_iff_eq] at hc73
        refine .seq ?_
        refine .region ?_
        refine .q (op_fieldAddr (m := 0) Tryd.underlying33 rfl (by kernel_rfl) rfl) trivial rfl ?_
        refine .as (.ptr 1016 1) rfl ?_
        refine .q (op_load Tryd.underlying30 rfl rfl rfl rfl (by show 1 < 4; decide)) trivial rfl ?_
        refine .a (op_call (U := [(1000, some ⟨.agg [.ptr 1000 0, .sl 1024 0 ((wrN l k).length + 8) 1], 29, true⟩), (1024, some ⟨.aggB ((wrN l k) ++ numB (l.getD k default).n 8 8), 5, true⟩), (1008, none)]) [(500, 1000), (501, 1008)] [(1024, 1000)] (u642_ev (l.getD k default).n ((wrN l k)) ((wrN l k).length) (by first | exact hn | (simp; done) | (simp [length_numB, length_lenB, length_textB]; omega) | omega | decide +kernel) (by omega)) Tryd.func13 (by kernel_rfl) rfl rfl rfl (⟨⟨_, rfl, rfl, rfl⟩, ⟨_, rfl, rfl, rfl⟩, trivial⟩) (⟨⟨_, _, rfl, rfl, rfl, rfl, id, rfl⟩, ⟨_, _, rfl, rfl, rfl, rfl, id, rfl⟩, trivial⟩) (⟨⟨500, _, rfl, rfl, rfl, rfl, .inr ⟨rfl, _, rfl, rfl⟩⟩, ⟨1000, _, rfl, rfl, rfl, rfl, .inl rfl⟩, trivial⟩) (⟨(fun _ => ⟨1000, _, rfl, rfl⟩), (fun _ => ⟨1008, _, rfl, rfl⟩), trivial⟩) rfl) trivial rfl ?_
        refine .nil ?_
        show Ev _ _ _ _ _
        refine .region ?_
        refine .q (op_move rfl) trivial rfl ?_
        refine .q (op_fieldAddr (m := 0) Tryd.underlying33 rfl (by kernel_rfl) rfl) trivial rfl ?_
        refine .as (.ptr 1016 1) rfl ?_
        refine .q (op_load Tryd.underlying30 rfl rfl rfl rfl (by show 1 < 4; decide)) trivial rfl ?_
        refine .q (op_call (U := []) [] [] (rnumB_ev (l.getD k default).n 8 (by decide)) Tryd.func12 (by kernel_rfl) rfl rfl rfl (⟨⟨_, rfl, rfl, rfl⟩, ⟨_, rfl, rfl, rfl⟩, trivial⟩) (trivial) (trivial) (trivial) rfl) trivial rfl ?_
        refine .as (.str (numB (l.getD k default).n 8 8)) (congrArg AV.str (by exact tl_num8 (l.getD k default).n)) ?_
        refine .q (op_addS rfl rfl (by first | omega | (simp only [length_numB]; omega))) trivial rfl ?_
        refine .q (op_assign rfl) trivial rfl ?_
        refine .nil ?_
        show Ev _ _ _ _ _
        refine .region ?_
        refine .q (op_move rfl) trivial rfl ?_
        refine .q (op_addI rfl rfl ⟨by omega, by omega⟩) trivial rfl ?_
        refine .q (op_assign rfl) trivial rfl ?_
        refine .nil ?_
        have hw : wrF (l.getD k default) = numB (l.getD k default).n 8 8 := by unfold wrF; first | (rw [if_pos hc34]) | (rw [if_neg hc34, if_pos hc47]) | (rw [if_neg hc34, if_neg hc47, if_pos hc62]) | (rw [if_neg hc34, if_neg hc47, if_neg hc62, if_pos hc73]) | (rw [if_neg hc34, if_neg hc47, if_neg hc62, if_neg hc73, if_pos hc83]) | (rw [if_neg hc34, if_neg hc47, if_neg hc62, if_neg hc73, if_neg hc83, if_pos hc92]) | (rw [if_neg hc34, if_neg hc47, if_neg hc62, if_neg hc73, if_neg hc83, if_neg hc92, if_pos hc102]) | (rw [if_neg hc34, if_neg hc47, if_neg hc62, if_neg hc73, if_neg hc83, if_neg hc92, if_neg hc102])
        have hN : wrN l (k + 1) = wrN l k ++ numB (l.getD k default).n 8 8 := by rw [← hw]; rfl
        have hNL : (wrN l (k + 1)).length = (wrN l k).length + (numB (l.getD k default).n 8 8).length := by rw [hN, List.length_append]
        exact ⟨.used (k + 1) ⟨by omega, by omega, wrN_ne (.inl hk.2.2)⟩, by show l.length - (k + 1) < l.length - k; omega, StLe.mk [(1000, 1000), (1008, 1024)] rfl rfl ⟨⟨_, rfl, by rfl, rfl⟩, ⟨_, rfl, by rfl, rfl⟩, ⟨_, rfl, by rfl, rfl⟩, ⟨_, rfl, by (exact congrArg AV.str (by rw [hN]; first | done | rfl)), rfl⟩, ⟨_, rfl, by rfl, rfl⟩, trivial⟩ ⟨⟨_, _, rfl, rfl, by (simp only [AV.ren, AV.renL]; exact congrArg (fun z => AV.agg [.ptr 1000 0, .sl 1008 0 z 1]) (by rw [hNL]; first | done | (simp only [length_numB]; done) | (simp only [wrN, List.length_nil, length_boolB, length_numB, length_namesB, big_len, length_textB, List.length_cons]; omega))), rfl, id, rfl⟩, ⟨_, _, rfl, rfl, by (exact congrArg AV.aggB (by rw [hN]; first | done | rfl)), rfl, id, rfl⟩, ⟨_, _, rfl, rfl, rfl, rfl, (fun h => by cases h), rfl⟩, ⟨_, _, rfl, rfl, rfl, rfl, (fun h => by cases h), rfl⟩, ⟨_, _, rfl, rfl, rfl, rfl, (fun h => by cases h), rfl⟩, ⟨_, _, rfl, rfl, offC_ren _ o (rowsC_flat (fun _ => rfl) l), rfl, (fun h => by cases h), offC_nm _ o (rowsC_flat (fun _ => rfl) l)⟩, trivial⟩⟩
       ·simp only [ne_eq, beq_eq_false_iff_ne] at hc73
        refine .seq ?_
        refine .region ?_
        refine .q (op_cmpI rfl rfl rfl) trivial rfl ?_
        refine .q (op_assign rfl) trivial rfl ?_
        refine .nil ?_
        show Ev _ _ _ _ _
        refine .cond rfl (fun hc83 => ?_) (fun hc83 => ?_)
        ·simp only [beq_iff_eq] at hc83
         refine .seq ?_
         refine .region ?_
         refine .q (op_fieldAddr (m := 0) Tryd.underlying33 rfl (by kernel_rfl) rfl) trivial rfl ?_
         refine .as (.ptr 1016 2) rfl ?_
         refine .q (op_load Tryd.underlying9 rfl rfl rfl rfl (by show 2 < 4; decide)) trivial rfl ?_
         refine .a (op_call (U := [(1000, some ⟨.agg [.ptr 1000 0, .sl 1024 0 ((wrN l k).length + ((l.getD k default).s.take 40).length) 1], 29, true⟩), (1024, some ⟨.aggB ((wrN l k) ++ ((l.getD k default).s.take 40)), 5, true⟩), (1008, none)]) [(500, 1000), (501, 1008)] [(1024, 1000)] (raw2_ev ((l.getD k default).s.take 40) (by omega) ((wrN l k)) ((wrN l k).length) (by first | exact hn | (simp; done) | (simp [length_numB, length_lenB, length_textB]; omega) | omega | decide +kernel) (by omega)) Tryd.func14 (by kernel_rfl) rfl rfl rfl (⟨⟨_, rfl, rfl, rfl⟩, ⟨_, rfl, rfl, rfl⟩, trivial⟩) (⟨⟨_, _, rfl, rfl, rfl, rfl, id, rfl⟩, ⟨_, _, rfl, rfl, rfl, rfl, id, rfl⟩, trivial⟩) (⟨⟨500, _, rfl, rfl, rfl, rfl, .inr ⟨rfl, _, rfl, rfl⟩⟩, ⟨1000, _, rfl, rfl, rfl, rfl, .inl rfl⟩, trivial⟩) (⟨(fun _ => ⟨1000, _, rfl, rfl⟩), (fun _ => ⟨1008, _, rfl, rfl⟩), trivial⟩) rfl) trivial rfl ?_
         refine .nil ?_
         show Ev _ _ _ _ _
         refine .region ?_
         refine .q (op_move rfl) trivial rfl ?_
         refine .q (op_fieldAddr (m := 0) Tryd.underlying33 rfl (by kernel_rfl) rfl) trivial rfl ?_
         refine .as (.ptr 1016 2) rfl ?_
         refine .q (op_load Tryd.underlying9 rfl rfl rfl rfl (by show 2 < 4; decide)) trivial rfl ?_
         refine .q (op_addS rfl rfl (by first | omega | (simp only [List.length_cons, List.length_nil, length_boolB, length_numB, length_namesB, big_len, length_textB]; omega))) trivial rfl ?_
         refine .q (op_assign rfl) trivial rfl ?_
         refine .nil ?_
         show Ev _ _ _ _ _
         refine .region ?_
         refine .q (op_move rfl) trivial rfl ?_
         refine .q (op_addI rfl rfl ⟨by omega, by omega⟩) trivial rfl ?_
         refine .q (op_assign rfl) trivial rfl ?_
         refine .nil ?_
         have hw : wrF (l.getD k default) = ((l.getD k default).s.take 40) := by unfold wrF; first | (rw [if_pos hc34]) | (rw [if_neg hc34, if_pos hc47]) | (rw [if_neg hc34, if_neg hc47, if_pos hc62]) | (rw [if_neg hc34, if_neg hc47, if_neg hc62, if_pos hc73]) | (rw [if_neg hc34, if_neg hc47, if_neg hc62, if_neg hc73, if_pos hc83]) | (rw [if_neg hc34, if_neg hc47, if_neg hc62, if_neg hc73, if_neg hc83, if_pos hc92]) | (rw [if_neg hc34, if_neg hc47, if_neg hc62, if_neg hc73, if_neg hc83, if_neg hc92, if_pos hc102]) | (rw [if_neg hc34, if_neg hc47, if_neg hc62, if_neg hc73, if_neg hc83, if_neg hc92, if_neg hc102])
         have hN : wrN l (k + 1) = wrN l k ++ ((l.getD k default).s.take 40) := by rw [← hw]; rfl
         have hNL : (wrN l (k + 1)).length = (wrN l k).length + (((l.getD k default).s.take 40)).length := by rw [hN, List.length_append]
         exact ⟨.used (k + 1) ⟨by omega, by omega, wrN_ne (.inl hk.2.2)⟩, by show l.length - (k + 1) < l.length - k; omega, StLe.mk [(1000, 1000), (1008, 1024)] rfl rfl ⟨⟨_, rfl, by rfl, rfl⟩, ⟨_, rfl, by rfl, rfl⟩, ⟨_, rfl, by rfl, rfl⟩, ⟨_, rfl, by (exact congrArg AV.str (by rw [hN]; first | done | rfl)), rfl⟩, ⟨_, rfl, by rfl, rfl⟩, trivial⟩ ⟨⟨_, _, rfl, rfl, by (simp only [AV.ren, AV.renL]; exact congrArg (fun z => AV.agg [.ptr 1000 0, .sl 1008 0 z 1]) (by rw [hNL]; first | done | (simp only [wrN, List.length_nil, length_boolB, length_numB, length_namesB, big_len, length_textB, List.length_cons]; done) | (simp only [wrN, List.length_nil, length_boolB, length_numB, length_namesB, big_len, length_textB, List.length_cons]; omega))), rfl, id, rfl⟩, ⟨_, _, rfl, rfl, by (exact congrArg AV.aggB (by rw [hN]; first | done | rfl)), rfl, id, rfl⟩, ⟨_, _, rfl, rfl, rfl, rfl, (fun h => by cases h), rfl⟩, ⟨_, _, rfl, rfl, rfl, rfl, (fun h => by cases h), rfl⟩, ⟨_, _, rfl, rfl, rfl, rfl, (fun h => by cases h), rfl⟩, ⟨_, _, rfl, rfl, offC_ren _ o (rowsC_flat (fun _ => rfl) l), rfl, (fun h => by cases h), offC_nm _ o (rowsC_flat (fun _ => rfl) l)⟩, trivial⟩⟩
        ·simp only [ne_eq, beq_eq_false_iff_ne] at hc83
         refine .seq ?_
         refine .region ?_
         refine .q (op_cmpI rfl rfl rfl) trivial rfl ?_
         refine .q (op_assign rfl) trivial rfl ?_
         refine .nil ?_
         show Ev _ _ _ _ _
         refine .cond rfl (fun hc92 => ?_) (fun hc92 => ?_)
         ·simp only [beq_iff_eq] at hc92
          refine .seq ?_
          refine .region ?_
          refine .q (op_fieldAddr (m := 0) Tryd.underlying33 rfl (by kernel_rfl) rfl) trivial rfl ?_
          refine .as (.ptr 1016 3) rfl ?_
          refine .q (op_load Tryd.underlying31 rfl rfl rfl rfl (by show 3 < 4; decide)) trivial rfl ?_
          refine .a (op_call (U := [(1000, some ⟨.agg [.ptr 1000 0, .sl 1024 0 ((wrN l k).length + (4 + (joinB (fewL (l.getD k default).l)).length)) 1], 29, true⟩), (1024, some ⟨.aggB ((wrN l k) ++ namesB (fewL (l.getD k default).l)), 5, true⟩), (1008, none)]) [(500, 1000), (501, 1008)] [(1024, 1000)] (names2_ev (fewL (l.getD k default).l) (by omega) (by omega) ((wrN l k)) ((wrN l k).length) (by first | exact hn | (simp; done) | (simp [length_numB, length_lenB, length_textB]; omega) | omega | decide +kernel) (by omega)) Tryd.func15 (by kernel_rfl) rfl rfl rfl (⟨⟨_, rfl, rfl, rfl⟩, ⟨_, rfl, rfl, rfl⟩, trivial⟩) (⟨⟨_, _, rfl, rfl, rfl, rfl, id, rfl⟩, ⟨_, _, rfl, rfl, rfl, rfl, id, rfl⟩, trivial⟩) (⟨⟨500, _, rfl, rfl, rfl, rfl, .inr ⟨rfl, _, rfl, rfl⟩⟩, ⟨1000, _, rfl, rfl, rfl, rfl, .inl rfl⟩, trivial⟩) (⟨(fun _ => ⟨1000, _, rfl, rfl⟩), (fun _ => ⟨1008, _, rfl, rfl⟩), trivial⟩) rfl) trivial rfl ?_
          refine .nil ?_
          show Ev _ _ _ _ _
          refine .region ?_
          refine .q (op_move rfl) trivial rfl ?_
          refine .q (op_fieldAddr (m := 0) Tryd.underlying33 rfl (by kernel_rfl) rfl) trivial rfl ?_
          refine .as (.ptr 1016 3) rfl ?_
          refine .q (op_load Tryd.underlying31 rfl rfl rfl rfl (by show 3 < 4; decide)) trivial rfl ?_
          refine .q (op_call (U := []) [] [] (rnamesB_ev (fewL (l.getD k default).l) (by omega) (by omega)) Tryd.func16 (by kernel_rfl) rfl rfl rfl (⟨⟨_, rfl, rfl, rfl⟩, trivial⟩) (trivial) (trivial) (trivial) rfl) trivial rfl ?_
          refine .q (op_addS rfl rfl (by first | omega | (simp only [length_namesB]; omega))) trivial rfl ?_
          refine .q (op_assign rfl) trivial rfl ?_
          refine .nil ?_
          show Ev _ _ _ _ _
          refine .region ?_
          refine .q (op_move rfl) trivial rfl ?_
          refine .q (op_addI rfl rfl ⟨by omega, by omega⟩) trivial rfl ?_
          refine .q (op_assign rfl) trivial rfl ?_
          refine .nil ?_
          have hw : wrF (l.getD k default) = namesB (fewL (l.getD k default).l) := by unfold wrF; first | (rw [if_pos hc34]) | (rw [if_neg hc34, if_pos hc47]) | (rw [if_neg hc34, if_neg hc47, if_pos hc62]) | (rw [if_neg hc34, if_neg hc47, if_neg hc62, if_pos hc73]) | (rw [if_neg hc34, if_neg hc47, if_neg hc62, if_neg hc73, if_pos hc83]) | (rw [if_neg hc34, if_neg hc47, if_neg hc62, if_neg hc73, if_neg hc83, if_pos hc92]) | (rw [if_neg hc34, if_neg hc47, if_neg hc62, if_neg hc73, if_neg hc83, if_neg hc92, if_pos hc102]) | (rw [if_neg hc34, if_neg hc47, if_neg hc62, if_neg hc73, if_neg hc83, if_neg hc92, if_neg hc102])
          have hN : wrN l (k + 1) = wrN l k ++ namesB (fewL (l.getD k default).l) := by rw [← hw]; rfl
          have hNL : (wrN l (k + 1)).length = (wrN l k).length + (namesB (fewL (l.getD k default).l)).length := by rw [hN, List.length_append]
          exact ⟨.used (k + 1) ⟨by omega, by omega, wrN_ne (.inl hk.2.2)⟩, by show l.length - (k + 1) < l.length - k; omega, StLe.mk [(1000, 1000), (1008, 1024)] rfl rfl ⟨⟨_, rfl, by rfl, rfl⟩, ⟨_, rfl, by rfl, rfl⟩, ⟨_, rfl, by rfl, rfl⟩, ⟨_, rfl, by (exact congrArg AV.str (by rw [hN]; first | done | rfl)), rfl⟩, ⟨_, rfl, by rfl, rfl⟩, trivial⟩ ⟨⟨_, _, rfl, rfl, by (simp only [AV.ren, AV.renL]; exact congrArg (fun z => AV.agg [.ptr 1000 0, .sl 1008 0 z 1]) (by rw [hNL]; first | done | (simp only [length_namesB]; done) | (simp only [wrN, List.length_nil, length_boolB, length_numB, length_namesB, big_len, length_textB, List.length_cons]; omega))), rfl, id, rfl⟩, ⟨_, _, rfl, rfl, by (exact congrArg AV.aggB (by rw [hN]; first | done | rfl)), rfl, id, rfl⟩, ⟨_, _, rfl, rfl, rfl, rfl, (fun h => by cases h), rfl⟩, ⟨_, _, rfl, rfl, rfl, rfl, (fun h => by cases h), rfl⟩, ⟨_, _, rfl, rfl, rfl, rfl, (fun h => by cases h), rfl⟩, ⟨_, _, rfl, rfl, offC_ren _ o (rowsC_flat (fun _ => rfl) l), rfl, (fun h => by cases h), offC_nm _ o (rowsC_flat (fun _ => rfl) l)⟩, trivial⟩⟩
         ·simp only [ne_eq, beq_eq_false_iff_ne] at hc92
          refine .seq ?_
          refine .region ?_
          refine .q (op_cmpI rfl rfl rfl) trivial rfl ?_
          refine .q (op_assign rfl) trivial rfl ?_
          refine .nil ?_
          show Ev _ _ _ _ _
          refine .cond rfl (fun hc102 => ?_) (fun hc102 => ?_)
          ·simp only [beq_iff_eq] at hc102
           refine .seq ?_
           refine .region ?_
           refine .q (op_fieldAddr (m := 0) Tryd.underlying33 rfl (by kernel_rfl) rfl) trivial rfl ?_
           refine .as (.ptr 1016 2) rfl ?_
           refine .q (op_load Tryd.underlying9 rfl rfl rfl rfl (by show 2 < 4; decide)) trivial rfl ?_
           refine .a (op_call (U := [(1000, some ⟨.agg [.ptr 1000 0, .sl 1024 0 ((wrN l k).length + (4 + (unsB (shortB ((l.getD k default).s.take 40))).length)) 1], 29, true⟩), (1024, some ⟨.aggB ((wrN l k) ++ bigB ((l.getD k default).s.take 40)), 5, true⟩), (1008, none)]) [(500, 1000), (501, 1008)] [(1024, 1000)] (big2_ev ((l.getD k default).s.take 40) (by omega) ((wrN l k)) ((wrN l k).length) (by first | exact hn | (simp; done) | (simp [length_numB, length_lenB, length_textB]; omega) | omega | decide +kernel) (by omega)) Tryd.func17 (by kernel_rfl) rfl rfl rfl (⟨⟨_, rfl, rfl, rfl⟩, ⟨_, rfl, rfl, rfl⟩, trivial⟩) (⟨⟨_, _, rfl, rfl, rfl, rfl, id, rfl⟩, ⟨_, _, rfl, rfl, rfl, rfl, id, rfl⟩, trivial⟩) (⟨⟨500, _, rfl, rfl, rfl, rfl, .inr ⟨rfl, _, rfl, rfl⟩⟩, ⟨1000, _, rfl, rfl, rfl, rfl, .inl rfl⟩, trivial⟩) (⟨(fun _ => ⟨1000, _, rfl, rfl⟩), (fun _ => ⟨1008, _, rfl, rfl⟩), trivial⟩) rfl) trivial rfl ?_
           refine .nil ?_
           show Ev _ _ _ _ _
           refine .region ?_
           refine .q (op_move rfl) trivial rfl ?_
           refine .q (op_fieldAddr (m := 0) Tryd.underlying33 rfl (by kernel_rfl) rfl) trivial rfl ?_
           refine .as (.ptr 1016 2) rfl ?_
           refine .q (op_load Tryd.underlying9 rfl rfl rfl rfl (by show 2 < 4; decide)) trivial rfl ?_
           refine .q (op_call (U := []) [] [] (rbigB_ev ((l.getD k default).s.take 40) (by omega)) Tryd.func18 (by kernel_rfl) rfl rfl rfl (⟨⟨_, rfl, rfl, rfl⟩, trivial⟩) (trivial) (trivial) (trivial) rfl) trivial rfl ?_
           refine .as (.str (bigB ((l.getD k default).s.take 40))) (congrArg AV.str (by exact textR_eq (by omega))) ?_
           refine .q (op_addS rfl rfl (by first | omega | (simp only [big_len]; omega))) trivial rfl ?_
           refine .q (op_assign rfl) trivial rfl ?_
           refine .nil ?_
           show Ev _ _ _ _ _
           refine .region ?_
           refine .q (op_move rfl) trivial rfl ?_
           refine .q (op_addI rfl rfl ⟨by omega, by omega⟩) trivial rfl ?_
           refine .q (op_assign rfl) trivial rfl ?_
           refine .nil ?_
           have hw : wrF (l.getD k default) = bigB ((l.getD k default).s.take 40) := by unfold wrF; first | (rw [if_pos hc34]) | (rw [if_neg hc34, if_pos hc47]) | (rw [if_neg hc34, if_neg hc47, if_pos hc62]) | (rw [if_neg hc34, if_neg hc47, if_neg hc62, if_pos hc73]) | (rw [if_neg hc34, if_neg hc47, if_neg hc62, if_neg hc73, if_pos hc83]) | (rw [if_neg hc34, if_neg hc47, if_neg hc62, if_neg hc73, if_neg hc83, if_pos hc92]) | (rw [if_neg hc34, if_neg hc47, if_neg hc62, if_neg hc73, if_neg hc83, if_neg hc92, if_pos hc102]) | (rw [if_neg hc34, if_neg hc47, if_neg hc62, if_neg hc73, if_neg hc83, if_neg hc92, if_neg hc102])
           have hN : wrN l (k + 1) = wrN l k ++ bigB ((l.getD k default).s.take 40) := by rw [← hw]; rfl
           have hNL : (wrN l (k + 1)).length = (wrN l k).length + (bigB ((l.getD k default).s.take 40)).length := by rw [hN, List.length_append]
           exact ⟨.used (k + 1) ⟨by omega, by omega, wrN_ne (.inl hk.2.2)⟩, by show l.length - (k + 1) < l.length - k; omega, StLe.mk [(1000, 1000), (1008, 1024)] rfl rfl ⟨⟨_, rfl, by rfl, rfl⟩, ⟨_, rfl, by rfl, rfl⟩, ⟨_, rfl, by rfl, rfl⟩, ⟨_, rfl, by (exact congrArg AV.str (by rw [hN]; first | done | rfl)), rfl⟩, ⟨_, rfl, by rfl, rfl⟩, trivial⟩ ⟨⟨_, _, rfl, rfl, by (simp only [AV.ren, AV.renL]; exact congrArg (fun z => AV.agg [.ptr 1000 0, .sl 1008 0 z 1]) (by rw [hNL]; first | done | (simp only [big_len]; done) | (simp only [wrN, List.length_nil, length_boolB, length_numB, length_namesB, big_len, length_textB, List.length_cons]; omega))), rfl, id, rfl⟩, ⟨_, _, rfl, rfl, by (exact congrArg AV.aggB (by rw [hN]; first | done | rfl)), rfl, id, rfl⟩, ⟨_, _, rfl, rfl, rfl, rfl, (fun h => by cases h), rfl⟩, ⟨_, _, rfl, rfl, rfl, rfl, (fun h => by cases h), rfl⟩, ⟨_, _, rfl, rfl, rfl, rfl, (fun h => by cases h), rfl⟩, ⟨_, _, rfl, rfl, offC_ren _ o (rowsC_flat (fun _ => rfl) l), rfl, (fun h => by cases h), offC_nm _ o (rowsC_flat (fun _ => rfl) l)⟩, trivial⟩⟩
          ·simp only [ne_eq, beq_eq_false_iff_ne] at hc102
           refine .seq ?_
           refine .region ?_
           refine .q (op_fieldAddr (m := 0) Tryd.underlying33 rfl (by kernel_rfl) rfl) trivial rfl ?_
           refine .as (.ptr 1016 2) rfl ?_
           refine .q (op_load Tryd.underlying9 rfl rfl rfl rfl (by show 2 < 4; decide)) trivial rfl ?_
           refine .a (op_call (U := [(1000, some ⟨.agg [.ptr 1000 0, .sl 1024 0 ((wrN l k).length + (4 + ((l.getD k default).s.take 40).length)) 1], 29, true⟩), (1024, some ⟨.aggB ((wrN l k) ++ textB ((l.getD k default).s.take 40)), 5, true⟩), (1008, none)]) [(500, 1000), (501, 1008)] [(1024, 1008)] (text2_ev ((l.getD k default).s.take 40) (by omega) ((wrN l k)) ((wrN l k).length) (by first | exact hn | (simp; done) | (simp [length_numB, length_lenB, length_textB]; omega) | omega | decide +kernel) (by omega)) Tryd.func19 (by kernel_rfl) rfl rfl rfl (⟨⟨_, rfl, rfl, rfl⟩, ⟨_, rfl, rfl, rfl⟩, trivial⟩) (⟨⟨_, _, rfl, rfl, rfl, rfl, id, rfl⟩, ⟨_, _, rfl, rfl, rfl, rfl, id, rfl⟩, trivial⟩) (⟨⟨500, _, rfl, rfl, rfl, rfl, .inr ⟨rfl, _, rfl, rfl⟩⟩, ⟨1008, _, rfl, rfl, rfl, rfl, .inl rfl⟩, trivial⟩) (⟨(fun _ => ⟨1000, _, rfl, rfl⟩), (fun _ => ⟨1008, _, rfl, rfl⟩), trivial⟩) rfl) trivial rfl ?_
           refine .nil ?_
           show Ev _ _ _ _ _
           refine .region ?_
           refine .q (op_move rfl) trivial rfl ?_
           refine .q (op_fieldAddr (m := 0) Tryd.underlying33 rfl (by kernel_rfl) rfl) trivial rfl ?_
           refine .as (.ptr 1016 2) rfl ?_
           refine .q (op_load Tryd.underlying9 rfl rfl rfl rfl (by show 2 < 4; decide)) trivial rfl ?_
           refine .q (op_call (U := []) [] [] (rtextB_ev ((l.getD k default).s.take 40) (by omega)) Tryd.func20 (by kernel_rfl) rfl rfl rfl (⟨⟨_, rfl, rfl, rfl⟩, trivial⟩) (trivial) (trivial) (trivial) rfl) trivial rfl ?_
           refine .as (.str (textB ((l.getD k default).s.take 40))) (congrArg AV.str (by exact textR_eq (by omega))) ?_
           refine .q (op_addS rfl rfl (by first | omega | (simp only [length_textB]; omega))) trivial rfl ?_
           refine .q (op_assign rfl) trivial rfl ?_
           refine .nil ?_
           show Ev _ _ _ _ _
           refine .region ?_
           refine .q (op_move rfl) trivial rfl ?_
           refine .q (op_addI rfl rfl ⟨by omega, by omega⟩) trivial rfl ?_
           refine .q (op_assign rfl) trivial rfl ?_
           refine .nil ?_
           have hw : wrF (l.getD k default) = textB ((l.getD k default).s.take 40) := by unfold wrF; first | (rw [if_pos hc34]) | (rw [if_neg hc34, if_pos hc47]) | (rw [if_neg hc34, if_neg hc47, if_pos hc62]) | (rw [if_neg hc34, if_neg hc47, if_neg hc62, if_pos hc73]) | (rw [if_neg hc34, if_neg hc47, if_neg hc62, if_neg hc73, if_pos hc83]) | (rw [if_neg hc34, if_neg hc47, if_neg hc62, if_neg hc73, if_neg hc83, if_pos hc92]) | (rw [if_neg hc34, if_neg hc47, if_neg hc62, if_neg hc73, if_neg hc83, if_neg hc92, if_pos hc102]) | (rw [if_neg hc34, if_neg hc47, if_neg hc62, if_neg hc73, if_neg hc83, if_neg hc92, if_neg hc102])
           have hN : wrN l (k + 1) = wrN l k ++ textB ((l.getD k default).s.take 40) := by rw [← hw]; rfl
           have hNL : (wrN l (k + 1)).length = (wrN l k).length + (textB ((l.getD k default).s.take 40)).length := by rw [hN, List.length_append]
           exact ⟨.used (k + 1) ⟨by omega, by omega, wrN_ne (.inl hk.2.2)⟩, by show l.length - (k + 1) < l.length - k; omega, StLe.mk [(1000, 1000), (1008, 1024)] rfl rfl ⟨⟨_, rfl, by rfl, rfl⟩, ⟨_, rfl, by rfl, rfl⟩, ⟨_, rfl, by rfl, rfl⟩, ⟨_, rfl, by (exact congrArg AV.str (by rw [hN]; first | done | rfl)), rfl⟩, ⟨_, rfl, by rfl, rfl⟩, trivial⟩ ⟨⟨_, _, rfl, rfl, by (simp only [AV.ren, AV.renL]; exact congrArg (fun z => AV.agg [.ptr 1000 0, .sl 1008 0 z 1]) (by rw [hNL]; first | done | (simp only [length_textB]; done) | (simp only [wrN, List.length_nil, length_boolB, length_numB, length_namesB, big_len, length_textB, List.length_cons]; omega))), rfl, id, rfl⟩, ⟨_, _, rfl, rfl, by (exact congrArg AV.aggB (by rw [hN]; first | done | rfl)), rfl, id, rfl⟩, ⟨_, _, rfl, rfl, rfl, rfl, (fun h => by cases h), rfl⟩, ⟨_, _, rfl, rfl, rfl, rfl, (fun h => by cases h), rfl⟩, ⟨_, _, rfl, rfl, rfl, rfl, (fun h => by cases h), rfl⟩, ⟨_, _, rfl, rfl, offC_ren _ o (rowsC_flat (fun _ => rfl) l), rfl, (fun h => by cases h), offC_nm _ o (rowsC_flat (fun _ => rfl) l)⟩, trivial⟩⟩
   ·simp only [decide_eq_false_iff_not] at hc16
    refine .exit ?_
    show Ev _ _ _ _ _
    refine .seq ?_
    refine .region ?_
    refine .a (op_call (U := [(1008, some ⟨.aggB (wrN l k), (frz + 5), false⟩)]) [(500, 1000), (501, 1008)] [] (bytes2_ev (wrN l k) (wrN l k).length rfl (List.length_pos_iff.2 hk.2.2) (by omega)) Tryd.func21 (by kernel_rfl) rfl rfl rfl (⟨⟨_, rfl, rfl, rfl⟩, trivial⟩) (⟨⟨_, _, rfl, rfl, rfl, rfl, (fun h => by cases h), rfl⟩, ⟨_, _, rfl, rfl, rfl, rfl, id, rfl⟩, trivial⟩) (⟨⟨501, _, rfl, rfl, rfl, rfl, .inr ⟨rfl, _, rfl, rfl⟩⟩, trivial⟩) (⟨(fun h => by cases h), (fun _ => ⟨1008, _, rfl, rfl⟩), trivial⟩) rfl) trivial rfl ?_
    refine .q (op_move rfl) trivial rfl ?_
    refine .q (op_eqS rfl rfl rfl) trivial rfl ?_
    refine .q (op_assign rfl) trivial rfl ?_
    refine .nil ?_
    show Ev _ _ _ _ _
    refine .ret ?_
    show RetOk _ _ _ _ _ _ _
    exact ret1v rfl (.inl rfl) rfl (congrArg AV.bool (by first | exact beq_self_eq_true _ | rfl | (simp [hk.2.2.2]; done))) trivial
  ·simp only [decide_eq_false_iff_not] at hg13
   refine .no ⟨_, rfl, rfl⟩ rfl ?_
   refine .no ⟨_, rfl, rfl⟩ rfl ?_
   refine .q (op_pick_false rfl rfl rfl) trivial rfl ?_
   refine .nil ?_
   show Ev _ _ _ _ _
   refine .cond_false rfl rfl ?_
   refine .exit ?_
   show Ev _ _ _ _ _
   refine .seq ?_
   refine .region ?_
   refine .a (op_call (U := [(1008, some ⟨.aggB (wrN l k), (frz + 5), false⟩)]) [(500, 1000), (501, 1008)] [] (bytes2_ev (wrN l k) (wrN l k).length rfl (List.length_pos_iff.2 hk.2.2) (by omega)) Tryd.func21 (by kernel_rfl) rfl rfl rfl (⟨⟨_, rfl, rfl, rfl⟩, trivial⟩) (⟨⟨_, _, rfl, rfl, rfl, rfl, (fun h => by cases h), rfl⟩, ⟨_, _, rfl, rfl, rfl, rfl, id, rfl⟩, trivial⟩) (⟨⟨501, _, rfl, rfl, rfl, rfl, .inr ⟨rfl, _, rfl, rfl⟩⟩, trivial⟩) (⟨(fun h => by cases h), (fun _ => ⟨1008, _, rfl, rfl⟩), trivial⟩) rfl) trivial rfl ?_
   refine .q (op_move rfl) trivial rfl ?_
   refine .q (op_eqS rfl rfl rfl) trivial rfl ?_
   refine .q (op_assign rfl) trivial rfl ?_
   refine .nil ?_
   show Ev _ _ _ _ _
   refine .ret ?_
   show RetOk _ _ _ _ _ _ _
   exact ret1v rfl (.inl rfl) rfl (congrArg AV.bool (by first | exact beq_self_eq_true _ | rfl | (simp [hk.2.2.2]; done))) trivial
end Go.Proofs.YtoigppbkfhfllaaDoor
