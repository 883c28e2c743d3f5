/-
  Texts of this claim.
-/
import Derived.Test.YtoigppbkfhfllaaDoorGE
import Derived.Test.YtoigppbkfhfllaaDoorGX1
import Derived.Test.YtoigppbkfhfllaaDoorGY2
import Derived.Test.YtoigppbkfhfllaaDoorGY3
namespace Go.Proofs.YtoigppbkfhfllaaDoor
open Go.RowKit
set_option maxRecDepth 100000 in
theorem count_ev (s : List UInt8) (c : UInt8) : Meets Tryd.prog 77 [.str s, .str [c]] [] (.i64 ((s.count c : Nat) : Int)) [] := by
 refine meets_of_ev (nt := 34) Tryd.func77 rfl rfl (Nat.le_of_ble_eq_true rfl) ?_
 refine .seq ?_
 refine .region ?_
 refine .q (op_assign rfl) trivial rfl ?_
 refine .nil ?_
 show Ev _ _ _ _ _
 refine .seq ?_
 refine .seq ?_
 refine .region ?_
 refine .q (op_move rfl) trivial rfl ?_
 refine .q (op_len_str Tryd.underlying9 rfl) trivial rfl ?_
 refine .q (op_cmpI rfl rfl rfl) trivial rfl ?_
 refine .nil ?_
 show Ev _ _ _ _ _
 refine .cond_false rfl (rfl) ?_
 refine .skip ?_
 show Ev _ _ _ _ _
 refine .seq ?_
 refine .seq ?_
 refine .region ?_
 refine .q (op_move rfl) trivial rfl ?_
 refine .q (op_len_str Tryd.underlying9 rfl) trivial rfl ?_
 refine .q (op_cmpI rfl rfl rfl) trivial rfl ?_
 refine .nil ?_
 show Ev _ _ _ _ _
 refine .cond_true rfl (rfl) ?_
 refine .seq ?_
 refine .region ?_
 refine .q (op_move rfl) trivial rfl ?_
 refine .q (op_move rfl) trivial rfl ?_
 refine .q (op_index_str Tryd.underlying9 rfl rfl rfl (by first | omega | (skip; omega) | (skip; omega) | assumption | (simp; done))) trivial rfl ?_
 refine .q (op_countStr Tryd.func92 (by kernel_rfl) (by kernel_rfl) (by kernel_rfl) (by kernel_rfl) rfl rfl) trivial rfl ?_
 refine .q (op_assign rfl) trivial rfl ?_
 refine .nil ?_
 show Ev _ _ _ _ _
 refine .ret ?_
 show RetOk _ _ _ _ _ _ _
 exact ret1v rfl (.inl rfl) rfl (rfl) trivial
set_option maxRecDepth 100000 in
theorem idxb_ev (s : List UInt8) (c : UInt8) : Meets Tryd.prog 100 [.str s, .u8 c] [] (.i64 (Lib.indexByte s c)) [] := by
 refine meets_of_ev (nt := 8) Tryd.func100 rfl rfl (Nat.le_of_ble_eq_true rfl) ?_
 refine .seq ?_
 refine .region ?_
 refine .q (op_assign rfl) trivial rfl ?_
 refine .nil ?_
 show Ev _ _ _ _ _
 refine .seq ?_
 refine .region ?_
 refine .q (op_move rfl) trivial rfl ?_
 refine .q (op_move rfl) trivial rfl ?_
 refine .q (op_indexByteStr Tryd.func106 (by kernel_rfl) (by kernel_rfl) (by kernel_rfl) (by kernel_rfl) rfl rfl) trivial rfl ?_
 refine .q (op_assign rfl) trivial rfl ?_
 refine .nil ?_
 show Ev _ _ _ _ _
 refine .ret ?_
 show RetOk _ _ _ _ _ _ _
 exact ret1v rfl (.inl rfl) rfl (rfl) trivial
set_option maxRecDepth 100000 in
theorem sidx_ev (s : List UInt8) (c : UInt8) : Meets Tryd.prog 97 [.str s, .str [c]] [] (.i64 (Lib.indexByte s c)) [] := by
 refine meets_of_ev (nt := 143) Tryd.func97 rfl rfl (Nat.le_of_ble_eq_true rfl) ?_
 refine .seq ?_
 refine .region ?_
 refine .q (op_assign rfl) trivial rfl ?_
 refine .nil ?_
 show Ev _ _ _ _ _
 refine .seq ?_
 refine .region ?_
 refine .q (op_move rfl) trivial rfl ?_
 refine .q (op_len_str Tryd.underlying9 rfl) trivial rfl ?_
 refine .q (op_assign rfl) trivial rfl ?_
 refine .nil ?_
 show Ev _ _ _ _ _
 refine .seq ?_
 refine .block ?_
 refine .seq ?_
 refine .region ?_
 refine .q (op_move rfl) trivial rfl ?_
 refine .q (op_cmpI rfl rfl rfl) trivial rfl ?_
 refine .q (op_move rfl) trivial rfl ?_
 refine .know (b' := false) (rfl) ?_
 refine .q (op_move rfl) ⟨_, rfl, rfl⟩ rfl ?_
 refine .q (op_move rfl) ⟨_, rfl, rfl⟩ rfl ?_
 refine .q (op_eqS rfl rfl rfl) ⟨_, rfl, rfl⟩ rfl ?_
 refine .q (op_pick_false rfl rfl rfl) trivial rfl ?_
 refine .q (op_assign rfl) trivial rfl ?_
 refine .nil ?_
 show Ev _ _ _ _ _
 refine .cond rfl (fun hc16 => ?_) (fun hc16 => ?_)
 ·simp only [beq_iff_eq] at hc16
  refine .seq ?_
  refine .region ?_
  refine .q (op_assign rfl) trivial rfl ?_
  refine .nil ?_
  show Ev _ _ _ _ _
  refine .ret ?_
  show RetOk _ _ _ _ _ _ _
  exact ret1v rfl (.inl rfl) rfl (by first | rfl | (subst hc16; simp [Lib.indexByte]; done)) trivial
 ·simp only [ne_eq, beq_eq_false_iff_ne] at hc16
  refine .seq ?_
  refine .region ?_
  refine .q (op_move rfl) trivial rfl ?_
  refine .q (op_cmpI rfl rfl rfl) trivial rfl ?_
  refine .q (op_assign rfl) trivial rfl ?_
  refine .nil ?_
  show Ev _ _ _ _ _
  refine .cond_true rfl (rfl) ?_
  refine .seq ?_
  refine .region ?_
  refine .q (op_move rfl) trivial rfl ?_
  refine .q (op_move rfl) trivial rfl ?_
  refine .q (op_index_str Tryd.underlying9 rfl rfl rfl (by first | omega | (skip; omega) | (skip; omega) | assumption | (simp; done))) trivial rfl ?_
  refine .q (op_call (U := []) [] [] (idxb_ev s c) Tryd.func100 (by kernel_rfl) rfl rfl rfl (⟨⟨_, rfl, rfl, rfl⟩, ⟨_, rfl, rfl, rfl⟩, trivial⟩) (trivial) (trivial) (trivial) rfl) trivial rfl ?_
  refine .q (op_assign rfl) trivial rfl ?_
  refine .nil ?_
  show Ev _ _ _ _ _
  refine .ret ?_
  show RetOk _ _ _ _ _ _ _
  exact ret1v rfl (.inl rfl) rfl (by first | rfl | (subst hc16; simp [Lib.indexByte]; done)) trivial
set_option maxRecDepth 100000 in
theorem index_ev (s : List UInt8) (c : UInt8) : Meets Tryd.prog 90 [.str s, .str [c]] [] (.i64 (Lib.indexByte s c)) [] := by
 refine meets_of_ev (nt := 8) Tryd.func90 rfl rfl (Nat.le_of_ble_eq_true rfl) ?_
 refine .seq ?_
 refine .region ?_
 refine .q (op_assign rfl) trivial rfl ?_
 refine .nil ?_
 show Ev _ _ _ _ _
 refine .seq ?_
 refine .region ?_
 refine .q (op_move rfl) trivial rfl ?_
 refine .q (op_move rfl) trivial rfl ?_
 refine .q (op_call (U := []) [] [] (sidx_ev s c) Tryd.func97 (by kernel_rfl) rfl rfl rfl (⟨⟨_, rfl, rfl, rfl⟩, ⟨_, rfl, rfl, rfl⟩, trivial⟩) (trivial) (trivial) (trivial) rfl) trivial rfl ?_
 refine .q (op_assign rfl) trivial rfl ?_
 refine .nil ?_
 show Ev _ _ _ _ _
 refine .ret ?_
 show RetOk _ _ _ _ _ _ _
 exact ret1v rfl (.inl rfl) rfl (rfl) trivial
end Go.Proofs.YtoigppbkfhfllaaDoor
namespace Go.Proofs.YtoigppbkfhfllaaDoor
open Go.RowKit
/-- Some parts are done, q is what is left of the text. -/
structure SpI (s : List UInt8) where
  d : List (List UInt8)
  q : List UInt8
  h : splitC s = d ++ splitC q
  c : d.length + q.count 44 = s.count 44
  l : q.length ≤ s.length
def SpI.next {s : List UInt8} (i : SpI s) (m : Nat) (h3 : splitC i.q = i.q.take m :: splitC (i.q.drop (m + 1))) (h4 : (i.q.drop (m + 1)).count 44 + 1 = i.q.count 44) : SpI s :=
  ⟨i.d ++ [i.q.take m], i.q.drop (m + 1), by rw [i.h, h3]; simp, by have := i.c; simp only [List.length_append, List.length_cons, List.length_nil]; omega, by have := i.l; simp only [List.length_drop]; omega⟩
def SpI.cells {s : List UInt8} (i : SpI s) : List (List UInt8) := i.d ++ List.replicate (s.count 44 + 1 - i.d.length) []
theorem SpI.set {s : List UInt8} (i : SpI s) (x : List UInt8) (h : i.d.length < s.count 44 + 1) : i.cells.set i.d.length x = i.d ++ [x] ++ List.replicate (s.count 44 + 1 - (i.d.length + 1)) [] := by
  unfold SpI.cells
  rw [List.set_append_right _ _ (Nat.le_refl _), Nat.sub_self, show s.count 44 + 1 - i.d.length = (s.count 44 + 1 - (i.d.length + 1)) + 1 by omega, List.replicate_succ]
  simp
theorem SpI.fin {s : List UInt8} (i : SpI s) (hz : i.q.count 44 = 0) : i.cells.set i.d.length i.q = splitC s := by
  have hc := i.c
  rw [SpI.set _ _ (by omega), show s.count 44 + 1 - (i.d.length + 1) = 0 by omega, i.h, splitC_none _ hz]
  simp
set_option maxRecDepth 100000 in
theorem gensplit_ev (s : List UInt8) (hs : s.length ≤ 100000000) : Meets Tryd.prog 73 [.str s, .str [44], .i64 0, .i64 (-1)] [] (.sl 1000 0 (splitC s).length 1) [(1000, some ⟨.aggS (splitC s), 9, true⟩)] := by
 have hcl := List.count_le_length (a := (44 : UInt8)) (l := s)
 refine meets_of_ev (nt := 66) Tryd.func73 rfl rfl (Nat.le_of_ble_eq_true rfl) ?_
 refine .seq ?_
 refine .region ?_
 refine .q (op_assign rfl) trivial rfl ?_
 refine .nil ?_
 show Ev _ _ _ _ _
 refine .seq ?_
 refine .seq ?_
 refine .region ?_
 refine .q (op_move rfl) trivial rfl ?_
 refine .q (op_cmpI rfl rfl rfl) trivial rfl ?_
 refine .nil ?_
 show Ev _ _ _ _ _
 refine .cond_false rfl (rfl) ?_
 refine .skip ?_
 show Ev _ _ _ _ _
 refine .seq ?_
 refine .seq ?_
 refine .region ?_
 refine .q (op_move rfl) trivial rfl ?_
 refine .q (op_eqS rfl rfl rfl) trivial rfl ?_
 refine .nil ?_
 show Ev _ _ _ _ _
 refine .cond_false rfl (rfl) ?_
 refine .skip ?_
 show Ev _ _ _ _ _
 refine .seq ?_
 refine .seq ?_
 refine .region ?_
 refine .q (op_move rfl) trivial rfl ?_
 refine .q (op_cmpI rfl rfl rfl) trivial rfl ?_
 refine .nil ?_
 show Ev _ _ _ _ _
 refine .cond_true rfl (rfl) ?_
 refine .region ?_
 refine .q (op_move rfl) trivial rfl ?_
 refine .q (op_move rfl) trivial rfl ?_
 refine .q (op_call (U := []) [] [] (count_ev s 44) Tryd.func77 (by kernel_rfl) rfl rfl rfl (⟨⟨_, rfl, rfl, rfl⟩, ⟨_, rfl, rfl, rfl⟩, trivial⟩) (trivial) (trivial) (trivial) rfl) trivial rfl ?_
 refine .q (op_addI rfl rfl ⟨by have := List.count_le_length (a := (44 : UInt8)) (l := s); omega, by have := List.count_le_length (a := (44 : UInt8)) (l := s); omega⟩) trivial rfl ?_
 refine .q (op_assign rfl) trivial rfl ?_
 refine .nil ?_
 show Ev _ _ _ _ _
 refine .seq ?_
 refine .region ?_
 refine .q (op_move rfl) trivial rfl ?_
 refine .q (op_move rfl) trivial rfl ?_
 refine .q (op_len_str Tryd.underlying9 rfl) trivial rfl ?_
 refine .q (op_addI rfl rfl ⟨by omega, by omega⟩) trivial rfl ?_
 refine .q (op_minI rfl rfl) trivial rfl ?_
 refine .as (.i64 ((s.count 44 + 1 : Nat) : Int)) (congrArg AV.i64 (by have := List.count_le_length (a := (44 : UInt8)) (l := s); omega)) ?_
 refine .q (op_assign rfl) trivial rfl ?_
 refine .nil ?_
 show Ev _ _ _ _ _
 refine .seq ?_
 refine .region ?_
 refine .q (op_move rfl) trivial rfl ?_
 refine .a (ap_make (n := s.count 44 + 1) (c := .aggS (List.replicate (s.count 44 + 1) [])) Tryd.underlying31 inf9 rfl rfl rfl rfl (by have := List.count_le_length (a := (44 : UInt8)) (l := s); omega) rel_zero9 rfl (by simp [AV.list, AV.parts])) trivial rfl ?_
 refine .q (op_assign rfl) trivial rfl ?_
 refine .nil ?_
 show Ev _ _ _ _ _
 refine .seq ?_
 refine .region ?_
 refine .q (op_move rfl) trivial rfl ?_
 refine .q (op_subI rfl rfl ⟨by have := List.count_le_length (a := (44 : UInt8)) (l := s); omega, by have := List.count_le_length (a := (44 : UInt8)) (l := s); omega⟩) trivial rfl ?_
 refine .as (.i64 ((s.count 44 : Nat) : Int)) (congrArg AV.i64 (by omega)) ?_
 refine .q (op_assign rfl) trivial rfl ?_
 refine .nil ?_
 show Ev _ _ _ _ _
 refine .seq ?_
 refine .region ?_
 refine .q (op_assign rfl) trivial rfl ?_
 refine .nil ?_
 show Ev _ _ _ _ _
 refine .seq ?_
 refine .block ?_
 refine Ev.loop (ι := SpI s) (fun q => ⟨[(0, .str q.q), (1, .str [44]), (2, .i64 0), (3, .i64 ((s.count 44 : Nat) : Int)), (9, .sl 1000 0 (s.count 44 + 1) 1), (10, .i64 ((q.d.length : Nat) : Int))], [(1000, some ⟨.aggS q.cells, 9, true⟩)], 1008⟩) (fun q => q.q.count 44) ⟨[], s, rfl, by simp, Nat.le_refl _⟩ (StLe.mk [(1000, 1000)] rfl rfl ⟨⟨_, rfl, by rfl, rfl⟩, ⟨_, rfl, by rfl, rfl⟩, ⟨_, rfl, by rfl, rfl⟩, ⟨_, rfl, by rfl, rfl⟩, ⟨_, rfl, by rfl, rfl⟩, ⟨_, rfl, by rfl, rfl⟩, trivial⟩ ⟨⟨_, _, rfl, rfl, rfl, rfl, id, rfl⟩, trivial⟩) ?_
 rintro q
 try dsimp only
 refine .seq ?_
 refine .seq ?_
 refine .region ?_
 refine .q (op_move rfl) trivial rfl ?_
 refine .q (op_move rfl) trivial rfl ?_
 refine .q (op_cmpI rfl rfl rfl) trivial rfl ?_
 refine .nil ?_
 show Ev _ _ _ _ _
 refine .cond rfl (fun hc36 => ?_) (fun hc36 => ?_)
 ·simp only [decide_eq_true_eq] at hc36
  refine .skip ?_
  show Ev _ _ _ _ _
  refine .block ?_
  refine .seq ?_
  refine .region ?_
  have hpos : 0 < q.q.count 44 := by have := q.c; omega
  obtain ⟨m, h1, h2, h3, h4⟩ := splitC_idx q.q hpos
  have hql := q.l
  have hqc := q.c
  refine .q (op_move rfl) trivial rfl ?_
  refine .q (op_move rfl) trivial rfl ?_
  refine .q (op_call (U := []) [] [] (index_ev q.q 44) Tryd.func90 (by kernel_rfl) rfl rfl rfl (⟨⟨_, rfl, rfl, rfl⟩, ⟨_, rfl, rfl, rfl⟩, trivial⟩) (trivial) (trivial) (trivial) rfl) trivial rfl ?_
  refine .as (.i64 ((m : Nat) : Int)) (congrArg AV.i64 h1) ?_
  refine .q (op_assign rfl) trivial rfl ?_
  refine .nil ?_
  show Ev _ _ _ _ _
  refine .seq ?_
  refine .seq ?_
  refine .region ?_
  refine .q (op_move rfl) trivial rfl ?_
  refine .q (op_cmpI rfl rfl rfl) trivial rfl ?_
  refine .nil ?_
  show Ev _ _ _ _ _
  refine .cond_false rfl (decide_eq_false (by omega)) ?_
  refine .skip ?_
  show Ev _ _ _ _ _
  refine .seq ?_
  refine .region ?_
  refine .q (op_move rfl) trivial rfl ?_
  refine .q (op_move rfl) trivial rfl ?_
  refine .q (op_move rfl) trivial rfl ?_
  refine .q (op_move rfl) trivial rfl ?_
  refine .q (op_move rfl) trivial rfl ?_
  refine .q (op_addI rfl rfl ⟨by omega, by omega⟩) trivial rfl ?_
  refine .as (.i64 ((m : Nat) : Int)) (congrArg AV.i64 (by omega)) ?_
  refine .q (ap_slice_str_hi Tryd.underlying9 rfl (bnd_some rfl rfl) (by omega)) trivial rfl ?_
  refine .q (ap_idx0 Tryd.underlying31 inf9.sz rfl rfl rfl (by omega)) trivial rfl ?_
  refine .w (op_store inf9.sz rfl rfl rfl rfl rfl (by show _ < q.cells.length; unfold SpI.cells; simp; omega)) trivial rfl ?_
  refine .nil ?_
  show Ev _ _ _ _ _
  refine .seq ?_
  refine .region ?_
  refine .q (op_move rfl) trivial rfl ?_
  refine .q (op_move rfl) trivial rfl ?_
  refine .q (op_move rfl) trivial rfl ?_
  refine .q (op_len_str Tryd.underlying9 rfl) trivial rfl ?_
  refine .as (.i64 1) rfl ?_
  refine .q (op_addI rfl rfl ⟨by omega, by omega⟩) trivial rfl ?_
  refine .as (.i64 ((m + 1 : Nat) : Int)) rfl ?_
  refine .q (ap_slice_str_lo Tryd.underlying9 rfl (bnd_some rfl rfl) (by omega)) trivial rfl ?_
  refine .q (op_assign rfl) trivial rfl ?_
  refine .nil ?_
  show Ev _ _ _ _ _
  refine .region ?_
  refine .q (op_move rfl) trivial rfl ?_
  refine .q (op_addI rfl rfl ⟨by omega, by omega⟩) trivial rfl ?_
  refine .q (op_assign rfl) trivial rfl ?_
  refine .nil ?_
  exact ⟨q.next m h3 h4, by (try dsimp only); show (q.q.drop (m + 1)).count 44 < q.q.count 44; omega, StLe.mk [(1000, 1000)] rfl rfl ⟨⟨_, rfl, by rfl, rfl⟩, ⟨_, rfl, by rfl, rfl⟩, ⟨_, rfl, by rfl, rfl⟩, ⟨_, rfl, by rfl, rfl⟩, ⟨_, rfl, by rfl, rfl⟩, ⟨_, rfl, by (show AV.i64 _ = AV.i64 _; simp [SpI.next]), rfl⟩, trivial⟩ ⟨⟨_, _, rfl, rfl, by (show AV.aggS _ = AV.aggS _; rw [SpI.set _ _ (by omega)]; simp [SpI.next, SpI.cells]), rfl, id, rfl⟩, trivial⟩⟩
 ·simp only [decide_eq_false_iff_not] at hc36
  refine .exit ?_
  show Ev _ _ _ _ _
  refine .seq ?_
  refine .region ?_
  have hqc := q.c
  have hz : q.q.count 44 = 0 := by omega
  refine .q (op_move rfl) trivial rfl ?_
  refine .q (op_move rfl) trivial rfl ?_
  refine .q (op_move rfl) trivial rfl ?_
  refine .q (ap_idx0 Tryd.underlying31 inf9.sz rfl rfl rfl (by omega)) trivial rfl ?_
  refine .w (op_store inf9.sz rfl rfl rfl rfl rfl (by show _ < q.cells.length; unfold SpI.cells; simp; omega)) trivial rfl ?_
  refine .nil ?_
  show Ev _ _ _ _ _
  refine .seq ?_
  refine .region ?_
  refine .q (op_move rfl) trivial rfl ?_
  refine .q (op_move rfl) trivial rfl ?_
  refine .q (op_addI rfl rfl ⟨by omega, by omega⟩) trivial rfl ?_
  refine .as (.i64 ((s.count 44 + 1 : Nat) : Int)) (congrArg AV.i64 (by omega)) ?_
  refine .q (ap_slice_sl_hi Tryd.underlying31 inf9.sz rfl (bnd_some rfl rfl) (by omega)) trivial rfl ?_
  refine .q (op_assign rfl) trivial rfl ?_
  refine .nil ?_
  show Ev _ _ _ _ _
  refine .ret ?_
  show RetOk _ _ _ _ _ _ _
  exact ret1v rfl (.inl rfl) rfl (congrArg (fun n => AV.sl 1000 0 n 1) (splitC_len s).symm) ⟨congrArg (fun l => some (ABlk.mk (AV.aggS l) 9 true)) (SpI.fin q hz), trivial⟩
end Go.Proofs.YtoigppbkfhfllaaDoor
namespace Go.Proofs.YtoigppbkfhfllaaDoor
open Go.RowKit
theorem splitC_mem : ∀ (s x : List UInt8), x ∈ splitC s → x.length ≤ s.length
  | [], x, h => by simp [splitC] at h; subst h; simp
  | c :: s, x, h => by
    by_cases hc : c = 44
    · subst hc
      simp only [splitC, if_true, List.mem_cons] at h
      rcases h with rfl | h
      · simp
      · have := splitC_mem s x h; simp only [List.length_cons]; omega
    · obtain ⟨y, l, h1, h2⟩ := splitC_cons_ne (s := s) hc
      rw [h2] at h
      rcases List.mem_cons.1 h with rfl | h
      · have := splitC_mem s y (by rw [h1]; simp); simp only [List.length_cons]; omega
      · have := splitC_mem s x (by rw [h1]; simp [h]); simp only [List.length_cons]; omega
theorem splitC_get (s : List UInt8) (j : Nat) : ((splitC s).getD j []).length ≤ s.length := by
  rcases Nat.lt_or_ge j (splitC s).length with h | h
  · rw [show (splitC s).getD j [] = (splitC s)[j] by simp [List.getD_eq_getElem?_getD, h]]
    exact splitC_mem _ _ (List.getElem_mem h)
  · rw [List.getD_eq_getElem?_getD, List.getElem?_eq_none h]; simp
theorem all_get {l : List (List UInt8)} (h : l.all nameOk = true) {j : Nat} (hj : j < l.length) : nameOk (l.getD j []) = true := by
  rw [show l.getD j [] = l[j] by simp [List.getD_eq_getElem?_getD, hj]]
  exact List.all_eq_true.1 h _ (List.getElem_mem hj)
theorem not_all {l : List (List UInt8)} (h : ¬ l.all nameOk = true) : ∃ b, b < l.length ∧ nameOk (l.getD b []) = false := by
  have h1 : l.all nameOk = false := by simpa using h
  rw [List.all_eq_false] at h1
  obtain ⟨x, hx, hn⟩ := h1
  obtain ⟨b, hb, rfl⟩ := List.mem_iff_getElem.1 hx
  exact ⟨b, hb, by rw [show l.getD b [] = l[b] by simp [List.getD_eq_getElem?_getD, hb]]; simpa using hn⟩
set_option maxRecDepth 100000 in
theorem split_ev (s : List UInt8) (hs : s.length ≤ 100000000) : Meets Tryd.prog 54 [.str s, .str [44]] [] (.sl 1000 0 (splitC s).length 1) [(1000, some ⟨.aggS (splitC s), 9, true⟩)] := by
 refine meets_of_ev (nt := 8) Tryd.func54 rfl rfl (Nat.le_of_ble_eq_true rfl) ?_
 refine .seq ?_
 refine .region ?_
 refine .q (op_assign rfl) trivial rfl ?_
 refine .nil ?_
 show Ev _ _ _ _ _
 refine .seq ?_
 refine .region ?_
 refine .q (op_move rfl) trivial rfl ?_
 refine .q (op_move rfl) trivial rfl ?_
 refine .a (op_call (U := [(1000, some ⟨.aggS (splitC s), 9, true⟩)]) [] [(1000, 1000)] (gensplit_ev s hs) Tryd.func73 (by kernel_rfl) rfl rfl rfl (⟨⟨_, rfl, rfl, rfl⟩, ⟨_, rfl, rfl, rfl⟩, ⟨_, rfl, rfl, rfl⟩, ⟨_, rfl, rfl, rfl⟩, trivial⟩) (trivial) (⟨⟨1000, _, rfl, rfl, rfl, rfl, .inl rfl⟩, trivial⟩) (trivial) rfl) trivial rfl ?_
 refine .q (op_assign rfl) trivial rfl ?_
 refine .nil ?_
 show Ev _ _ _ _ _
 refine .ret ?_
 show RetOk _ _ _ _ _ _ _
 exact ret1v rfl (.inl rfl) rfl rfl ⟨rfl, trivial⟩
set_option maxRecDepth 100000 in
theorem names_nil (i : DI) (hr : i.r.length ≤ 90000000) (h0 : (textD i 4096).2 = []) (eo : Nat → Nat × Nat) : Meets Tryd.prog 27 [.ptr 500 0] [(500, some ⟨.agg [.str (i).r, .err 161 ((i).e) (offE eo ((i).e))], 82, true⟩), (3, some ⟨.agg [.err 161 (2) (offE eo (2))], errT, false⟩), (0, some ⟨.agg [.err 161 (4) (offE eo (4))], errT, false⟩), (1, some ⟨.agg [.err 161 (3) (offE eo (3))], errT, false⟩)] .nilsl [(500, some ⟨.agg [.str ((textD i 4096).1).r, .err 161 (((textD i 4096).1).e) (offE eo (((textD i 4096).1).e))], 82, true⟩)] := by
 have hl := (textD_len_le i 4096).1
 have hn : (splitC (textD i 4096).2).length ≤ 90000001 := by
  rw [splitC_len]; have := List.count_le_length (a := (44 : UInt8)) (l := (textD i 4096).2); omega
 refine meets_of_ev (nt := 27) Tryd.func27 rfl rfl (Nat.le_of_ble_eq_true rfl) ?_
 refine .seq ?_
 refine .region ?_
 refine .q (op_assign rfl) trivial rfl ?_
 refine .nil ?_
 show Ev _ _ _ _ _
 refine .seq ?_
 refine .region ?_
 refine .q (op_move rfl) trivial rfl ?_
 refine .a (op_call (U := [(500, some ⟨.agg [.str ((textD i 4096).1).r, .err 161 (((textD i 4096).1).e) (offE eo (((textD i 4096).1).e))], 82, true⟩)]) [(500, 500)] [] (itext_ev i 4096 eo) Tryd.func25 (by kernel_rfl) rfl rfl rfl (⟨⟨_, rfl, rfl, rfl⟩, ⟨_, rfl, rfl, rfl⟩, trivial⟩) (⟨⟨_, _, rfl, rfl, rfl, rfl, id, rfl⟩, ⟨_, _, rfl, rfl, rfl, rfl, (fun h => by cases h), rfl⟩, ⟨_, _, rfl, rfl, rfl, rfl, (fun h => by cases h), rfl⟩, trivial⟩) (⟨⟨500, _, rfl, rfl, rfl, rfl, .inr ⟨rfl, _, rfl, rfl⟩⟩, trivial⟩) (⟨(fun _ => ⟨500, _, rfl, rfl⟩), (fun h => by cases h), (fun h => by cases h), trivial⟩) rfl) trivial rfl ?_
 refine .q (op_assign rfl) trivial rfl ?_
 refine .nil ?_
 show Ev _ _ _ _ _
 refine .seq ?_
 refine .seq ?_
 refine .region ?_
 refine .q (op_move rfl) trivial rfl ?_
 refine .q (op_eqS rfl rfl rfl) trivial rfl ?_
 refine .nil ?_
 show Ev _ _ _ _ _
 refine .cond_true rfl (by rw [h0]; rfl) ?_
 refine .seq ?_
 refine .region ?_
 refine .q (op_assign rfl) trivial rfl ?_
 refine .nil ?_
 show Ev _ _ _ _ _
 refine .ret ?_
 show RetOk _ _ _ _ _ _ _
 exact ret1v rfl (.inl rfl) rfl rfl ⟨rfl, trivial⟩
set_option maxRecDepth 100000 in
theorem names_ok (i : DI) (hr : i.r.length ≤ 90000000) (h0 : ¬ (textD i 4096).2 = []) (h : (splitC (textD i 4096).2).all nameOk = true) (eo : Nat → Nat × Nat) : Meets Tryd.prog 27 [.ptr 500 0] [(500, some ⟨.agg [.str (i).r, .err 161 ((i).e) (offE eo ((i).e))], 82, true⟩), (3, some ⟨.agg [.err 161 (2) (offE eo (2))], errT, false⟩), (0, some ⟨.agg [.err 161 (4) (offE eo (4))], errT, false⟩), (1, some ⟨.agg [.err 161 (3) (offE eo (3))], errT, false⟩)] (.sl 1008 0 (splitC (textD i 4096).2).length 1) [(500, some ⟨.agg [.str ((textD i 4096).1).r, .err 161 (((textD i 4096).1).e) (offE eo (((textD i 4096).1).e))], 82, true⟩), (1008, some ⟨.aggS (splitC (textD i 4096).2), 9, true⟩)] := by
 have hl := (textD_len_le i 4096).1
 have hn : (splitC (textD i 4096).2).length ≤ 90000001 := by
  rw [splitC_len]; have := List.count_le_length (a := (44 : UInt8)) (l := (textD i 4096).2); omega
 refine meets_of_ev (nt := 27) Tryd.func27 rfl rfl (Nat.le_of_ble_eq_true rfl) ?_
 refine .seq ?_
 refine .region ?_
 refine .q (op_assign rfl) trivial rfl ?_
 refine .nil ?_
 show Ev _ _ _ _ _
 refine .seq ?_
 refine .region ?_
 refine .q (op_move rfl) trivial rfl ?_
 refine .a (op_call (U := [(500, some ⟨.agg [.str ((textD i 4096).1).r, .err 161 (((textD i 4096).1).e) (offE eo (((textD i 4096).1).e))], 82, true⟩)]) [(500, 500)] [] (itext_ev i 4096 eo) Tryd.func25 (by kernel_rfl) rfl rfl rfl (⟨⟨_, rfl, rfl, rfl⟩, ⟨_, rfl, rfl, rfl⟩, trivial⟩) (⟨⟨_, _, rfl, rfl, rfl, rfl, id, rfl⟩, ⟨_, _, rfl, rfl, rfl, rfl, (fun h => by cases h), rfl⟩, ⟨_, _, rfl, rfl, rfl, rfl, (fun h => by cases h), rfl⟩, trivial⟩) (⟨⟨500, _, rfl, rfl, rfl, rfl, .inr ⟨rfl, _, rfl, rfl⟩⟩, trivial⟩) (⟨(fun _ => ⟨500, _, rfl, rfl⟩), (fun h => by cases h), (fun h => by cases h), trivial⟩) rfl) trivial rfl ?_
 refine .q (op_assign rfl) trivial rfl ?_
 refine .nil ?_
 show Ev _ _ _ _ _
 refine .seq ?_
 refine .seq ?_
 refine .region ?_
 refine .q (op_move rfl) trivial rfl ?_
 refine .q (op_eqS rfl rfl rfl) trivial rfl ?_
 refine .nil ?_
 show Ev _ _ _ _ _
 refine .cond_false rfl (beq_eq_false_iff_ne.2 h0) ?_
 refine .skip ?_
 show Ev _ _ _ _ _
 refine .seq ?_
 refine .region ?_
 refine .q (op_move rfl) trivial rfl ?_
 refine .a (op_call (U := [(1008, some ⟨.aggS (splitC (textD i 4096).2), 9, true⟩)]) [] [(1008, 1000)] (split_ev (textD i 4096).2 (by omega)) Tryd.func54 (by kernel_rfl) rfl rfl rfl (⟨⟨_, rfl, rfl, rfl⟩, ⟨_, rfl, rfl, rfl⟩, trivial⟩) (trivial) (⟨⟨1000, _, rfl, rfl, rfl, rfl, .inl rfl⟩, trivial⟩) (trivial) rfl) trivial rfl ?_
 refine .q (op_assign rfl) trivial rfl ?_
 refine .nil ?_
 show Ev _ _ _ _ _
 refine .seq ?_
 refine .seq ?_
 refine .region ?_
 refine .q (op_move rfl) trivial rfl ?_
 refine .q (op_len_sl Tryd.underlying31 rfl) trivial rfl ?_
 refine .q (op_move rfl) trivial rfl ?_
 refine .nil ?_
 show Ev _ _ _ _ _
 refine .block ?_
 refine Ev.loop (ι := { j : Nat // j ≤ (splitC (textD i 4096).2).length }) (fun q => ⟨[(0, .ptr 500 0), (4, .sl 1008 0 (splitC (textD i 4096).2).length 1), (13, .sl 1008 0 (splitC (textD i 4096).2).length 1), (14, .i64 ((splitC (textD i 4096).2).length : Int)), (15, .i64 (q.1 : Int))], [(500, some ⟨.agg [.str ((textD i 4096).1).r, .err 161 (((textD i 4096).1).e) (offE eo (((textD i 4096).1).e))], 82, true⟩), (1008, some ⟨.aggS (splitC (textD i 4096).2), 9, true⟩), (1, some ⟨.agg [.err 161 (3) (offE eo (3))], errT, false⟩)], 1016⟩) (fun q => (splitC (textD i 4096).2).length - q.1) ⟨0, Nat.zero_le _⟩ (StLe.mk [(1008, 1008)] rfl rfl ⟨⟨_, rfl, by first | rfl | (simp only [AV.ren]; congr 1; omega), rfl⟩, ⟨_, rfl, by first | rfl | (simp only [AV.ren]; congr 1; omega), rfl⟩, ⟨_, rfl, by first | rfl | (simp only [AV.ren]; congr 1; omega), rfl⟩, ⟨_, rfl, by first | rfl | (simp only [AV.ren]; congr 1; omega), rfl⟩, ⟨_, rfl, by first | rfl | (simp only [AV.ren]; congr 1; omega), rfl⟩, trivial⟩ ⟨⟨_, _, rfl, rfl, rfl, rfl, id, rfl⟩, ⟨_, _, rfl, rfl, rfl, rfl, id, rfl⟩, ⟨_, _, rfl, rfl, rfl, rfl, id, rfl⟩, trivial⟩) ?_
 rintro ⟨j, hj⟩
 try dsimp only
 refine .seq ?_
 refine .region ?_
 refine .q (op_cmpI rfl rfl rfl) trivial rfl ?_
 refine .nil ?_
 show Ev _ _ _ _ _
 refine .seq ?_
 refine .cond rfl (fun hc16 => ?_) (fun hc16 => ?_)
 ·simp only [decide_eq_true_eq] at hc16
  refine .skip ?_
  show Ev _ _ _ _ _
  refine .seq ?_
  refine .block ?_
  refine .seq ?_
  refine .region ?_
  refine .q (ap_idx0 Tryd.underlying31 inf9.sz rfl rfl rfl (by omega)) trivial rfl ?_
  refine .q (op_load Tryd.underlying9 rfl rfl rfl rfl (by show j < (splitC (textD i 4096).2).length; omega)) trivial rfl ?_
  refine .q (op_assign rfl) trivial rfl ?_
  refine .nil ?_
  show Ev _ _ _ _ _
  refine .seq ?_
  refine .region ?_
  refine .q (op_move rfl) trivial rfl ?_
  refine .q (op_call (U := []) [] [] (wname_ev ((splitC (textD i 4096).2).getD j []) (by have := splitC_get (textD i 4096).2 j; omega)) Tryd.func55 (by kernel_rfl) rfl rfl rfl (⟨⟨_, rfl, rfl, rfl⟩, trivial⟩) (trivial) (trivial) (trivial) rfl) trivial rfl ?_
  refine .q (op_notB rfl) trivial rfl ?_
  refine .nil ?_
  show Ev _ _ _ _ _
  refine .cond_false rfl (by rw [all_get h (show j < _ by omega)]; rfl) ?_
  refine .skip ?_
  show Ev _ _ _ _ _
  refine .region ?_
  refine .q (op_addI rfl rfl ⟨by omega, by omega⟩) trivial rfl ?_
  refine .q (op_move rfl) trivial rfl ?_
  refine .nil ?_
  exact ⟨⟨j + 1, by omega⟩, by (try dsimp only); omega, StLe.mk [(1008, 1008)] rfl rfl ⟨⟨_, rfl, by first | rfl | (simp only [AV.ren]; congr 1; omega), rfl⟩, ⟨_, rfl, by first | rfl | (simp only [AV.ren]; congr 1; omega), rfl⟩, ⟨_, rfl, by first | rfl | (simp only [AV.ren]; congr 1; omega), rfl⟩, ⟨_, rfl, by first | rfl | (simp only [AV.ren]; congr 1; omega), rfl⟩, ⟨_, rfl, by first | rfl | (simp only [AV.ren]; congr 1; omega), rfl⟩, trivial⟩ ⟨⟨_, _, rfl, rfl, rfl, rfl, id, rfl⟩, ⟨_, _, rfl, rfl, rfl, rfl, id, rfl⟩, ⟨_, _, rfl, rfl, rfl, rfl, id, rfl⟩, trivial⟩⟩
 ·simp only [decide_eq_false_iff_not] at hc16
  refine .exit ?_
  show Ev _ _ _ _ _
  refine .seq ?_
  refine .region ?_
  refine .q (op_move rfl) trivial rfl ?_
  refine .q (op_assign rfl) trivial rfl ?_
  refine .nil ?_
  show Ev _ _ _ _ _
  refine .ret ?_
  show RetOk _ _ _ _ _ _ _
  exact ret1v rfl (.inl rfl) rfl rfl ⟨rfl, rfl, trivial⟩
set_option maxRecDepth 100000 in
theorem names_bad (i : DI) (hr : i.r.length ≤ 90000000) (h0 : ¬ (textD i 4096).2 = []) (b : Nat) (hb : b < (splitC (textD i 4096).2).length) (hbad : nameOk ((splitC (textD i 4096).2).getD b []) = false) (eo : Nat → Nat × Nat) : Meets Tryd.prog 27 [.ptr 500 0] [(500, some ⟨.agg [.str (i).r, .err 161 ((i).e) (offE eo ((i).e))], 82, true⟩), (3, some ⟨.agg [.err 161 (2) (offE eo (2))], errT, false⟩), (0, some ⟨.agg [.err 161 (4) (offE eo (4))], errT, false⟩), (1, some ⟨.agg [.err 161 (3) (offE eo (3))], errT, false⟩)] .nilsl [(500, some ⟨.agg [.str (failD (textD i 4096).1 3).r, .err 161 ((failD (textD i 4096).1 3).e) (offE eo ((failD (textD i 4096).1 3).e))], 82, true⟩)] := by
 have hl := (textD_len_le i 4096).1
 have hn : (splitC (textD i 4096).2).length ≤ 90000001 := by
  rw [splitC_len]; have := List.count_le_length (a := (44 : UInt8)) (l := (textD i 4096).2); omega
 refine meets_of_ev (nt := 27) Tryd.func27 rfl rfl (Nat.le_of_ble_eq_true rfl) ?_
 refine .seq ?_
 refine .region ?_
 refine .q (op_assign rfl) trivial rfl ?_
 refine .nil ?_
 show Ev _ _ _ _ _
 refine .seq ?_
 refine .region ?_
 refine .q (op_move rfl) trivial rfl ?_
 refine .a (op_call (U := [(500, some ⟨.agg [.str ((textD i 4096).1).r, .err 161 (((textD i 4096).1).e) (offE eo (((textD i 4096).1).e))], 82, true⟩)]) [(500, 500)] [] (itext_ev i 4096 eo) Tryd.func25 (by kernel_rfl) rfl rfl rfl (⟨⟨_, rfl, rfl, rfl⟩, ⟨_, rfl, rfl, rfl⟩, trivial⟩) (⟨⟨_, _, rfl, rfl, rfl, rfl, id, rfl⟩, ⟨_, _, rfl, rfl, rfl, rfl, (fun h => by cases h), rfl⟩, ⟨_, _, rfl, rfl, rfl, rfl, (fun h => by cases h), rfl⟩, trivial⟩) (⟨⟨500, _, rfl, rfl, rfl, rfl, .inr ⟨rfl, _, rfl, rfl⟩⟩, trivial⟩) (⟨(fun _ => ⟨500, _, rfl, rfl⟩), (fun h => by cases h), (fun h => by cases h), trivial⟩) rfl) trivial rfl ?_
 refine .q (op_assign rfl) trivial rfl ?_
 refine .nil ?_
 show Ev _ _ _ _ _
 refine .seq ?_
 refine .seq ?_
 refine .region ?_
 refine .q (op_move rfl) trivial rfl ?_
 refine .q (op_eqS rfl rfl rfl) trivial rfl ?_
 refine .nil ?_
 show Ev _ _ _ _ _
 refine .cond_false rfl (beq_eq_false_iff_ne.2 h0) ?_
 refine .skip ?_
 show Ev _ _ _ _ _
 refine .seq ?_
 refine .region ?_
 refine .q (op_move rfl) trivial rfl ?_
 refine .a (op_call (U := [(1008, some ⟨.aggS (splitC (textD i 4096).2), 9, true⟩)]) [] [(1008, 1000)] (split_ev (textD i 4096).2 (by omega)) Tryd.func54 (by kernel_rfl) rfl rfl rfl (⟨⟨_, rfl, rfl, rfl⟩, ⟨_, rfl, rfl, rfl⟩, trivial⟩) (trivial) (⟨⟨1000, _, rfl, rfl, rfl, rfl, .inl rfl⟩, trivial⟩) (trivial) rfl) trivial rfl ?_
 refine .q (op_assign rfl) trivial rfl ?_
 refine .nil ?_
 show Ev _ _ _ _ _
 refine .seq ?_
 refine .seq ?_
 refine .region ?_
 refine .q (op_move rfl) trivial rfl ?_
 refine .q (op_len_sl Tryd.underlying31 rfl) trivial rfl ?_
 refine .q (op_move rfl) trivial rfl ?_
 refine .nil ?_
 show Ev _ _ _ _ _
 refine .block ?_
 refine Ev.loop (ι := { j : Nat // j ≤ b }) (fun q => ⟨[(0, .ptr 500 0), (4, .sl 1008 0 (splitC (textD i 4096).2).length 1), (13, .sl 1008 0 (splitC (textD i 4096).2).length 1), (14, .i64 ((splitC (textD i 4096).2).length : Int)), (15, .i64 (q.1 : Int))], [(500, some ⟨.agg [.str ((textD i 4096).1).r, .err 161 (((textD i 4096).1).e) (offE eo (((textD i 4096).1).e))], 82, true⟩), (1008, some ⟨.aggS (splitC (textD i 4096).2), 9, true⟩), (1, some ⟨.agg [.err 161 (3) (offE eo (3))], errT, false⟩)], 1016⟩) (fun q => b - q.1) ⟨0, Nat.zero_le _⟩ (StLe.mk [(1008, 1008)] rfl rfl ⟨⟨_, rfl, by first | rfl | (simp only [AV.ren]; congr 1; omega), rfl⟩, ⟨_, rfl, by first | rfl | (simp only [AV.ren]; congr 1; omega), rfl⟩, ⟨_, rfl, by first | rfl | (simp only [AV.ren]; congr 1; omega), rfl⟩, ⟨_, rfl, by first | rfl | (simp only [AV.ren]; congr 1; omega), rfl⟩, ⟨_, rfl, by first | rfl | (simp only [AV.ren]; congr 1; omega), rfl⟩, trivial⟩ ⟨⟨_, _, rfl, rfl, rfl, rfl, id, rfl⟩, ⟨_, _, rfl, rfl, rfl, rfl, id, rfl⟩, ⟨_, _, rfl, rfl, rfl, rfl, id, rfl⟩, trivial⟩) ?_
 rintro ⟨j, hj⟩
 try dsimp only
 refine .seq ?_
 refine .region ?_
 refine .q (op_cmpI rfl rfl rfl) trivial rfl ?_
 refine .nil ?_
 show Ev _ _ _ _ _
 refine .seq ?_
 refine .cond_true rfl (decide_eq_true (by omega)) ?_
 refine .skip ?_
 show Ev _ _ _ _ _
 refine .seq ?_
 refine .block ?_
 refine .seq ?_
 refine .region ?_
 refine .q (ap_idx0 Tryd.underlying31 inf9.sz rfl rfl rfl (by omega)) trivial rfl ?_
 refine .q (op_load Tryd.underlying9 rfl rfl rfl rfl (by show j < (splitC (textD i 4096).2).length; omega)) trivial rfl ?_
 refine .q (op_assign rfl) trivial rfl ?_
 refine .nil ?_
 show Ev _ _ _ _ _
 refine .seq ?_
 refine .region ?_
 refine .q (op_move rfl) trivial rfl ?_
 refine .q (op_call (U := []) [] [] (wname_ev ((splitC (textD i 4096).2).getD j []) (by have := splitC_get (textD i 4096).2 j; omega)) Tryd.func55 (by kernel_rfl) rfl rfl rfl (⟨⟨_, rfl, rfl, rfl⟩, trivial⟩) (trivial) (trivial) (trivial) rfl) trivial rfl ?_
 refine .q (op_notB rfl) trivial rfl ?_
 refine .nil ?_
 show Ev _ _ _ _ _
 refine .cond rfl (fun hc21 => ?_) (fun hc21 => ?_)
 ·skip
  refine .seq ?_
  refine .region ?_
  refine .q (op_move rfl) trivial rfl ?_
  refine .q (op_load Tryd.underlying56 rfl rfl rfl rfl (by first | omega | (simp only [AV.len]; omega) | (simp only [AV.len]; omega) | assumption | (simp [AV.len]; done))) trivial rfl ?_
  refine .a (op_call (U := [(500, some ⟨.agg [.str (failD (textD i 4096).1 3).r, .err 161 ((failD (textD i 4096).1 3).e) (offE eo ((failD (textD i 4096).1 3).e))], 82, true⟩)]) [(500, 500)] [] (fail_ev (textD i 4096).1 3 eo) Tryd.func52 (by kernel_rfl) rfl rfl rfl (⟨⟨_, rfl, rfl, rfl⟩, ⟨_, rfl, rfl, rfl⟩, trivial⟩) (⟨⟨_, _, rfl, rfl, rfl, rfl, id, rfl⟩, trivial⟩) (⟨⟨500, _, rfl, rfl, rfl, rfl, .inr ⟨rfl, _, rfl, rfl⟩⟩, trivial⟩) (⟨(fun _ => ⟨500, _, rfl, rfl⟩), trivial⟩) rfl) trivial rfl ?_
  refine .nil ?_
  show Ev _ _ _ _ _
  refine .seq ?_
  refine .region ?_
  refine .q (op_assign rfl) trivial rfl ?_
  refine .nil ?_
  show Ev _ _ _ _ _
  refine .ret ?_
  show RetOk _ _ _ _ _ _ _
  exact ret1v rfl (.inl rfl) rfl rfl ⟨rfl, trivial⟩
 ·skip
  refine .skip ?_
  show Ev _ _ _ _ _
  refine .region ?_
  refine .q (op_addI rfl rfl ⟨by omega, by omega⟩) trivial rfl ?_
  refine .q (op_move rfl) trivial rfl ?_
  refine .nil ?_
  exact ⟨⟨j + 1, (by have : j ≠ b := fun e => (by subst e; rw [hbad] at hc21; cases hc21); omega)⟩, by (try dsimp only); first | omega | (have : j ≠ b := fun e => (by subst e; rw [hbad] at hc21; cases hc21); omega), StLe.mk [(1008, 1008)] rfl rfl ⟨⟨_, rfl, by first | rfl | (simp only [AV.ren]; congr 1; omega), rfl⟩, ⟨_, rfl, by first | rfl | (simp only [AV.ren]; congr 1; omega), rfl⟩, ⟨_, rfl, by first | rfl | (simp only [AV.ren]; congr 1; omega), rfl⟩, ⟨_, rfl, by first | rfl | (simp only [AV.ren]; congr 1; omega), rfl⟩, ⟨_, rfl, by first | rfl | (simp only [AV.ren]; congr 1; omega), rfl⟩, trivial⟩ ⟨⟨_, _, rfl, rfl, rfl, rfl, id, rfl⟩, ⟨_, _, rfl, rfl, rfl, rfl, id, rfl⟩, ⟨_, _, rfl, rfl, rfl, rfl, id, rfl⟩, trivial⟩⟩
end Go.Proofs.YtoigppbkfhfllaaDoor
namespace Go.Proofs.YtoigppbkfhfllaaDoor
open Go.RowKit
set_option maxRecDepth 100000 in
theorem namesd_nil (i : DI) (hr : i.r.length ≤ 90000000) (h0 : (textD i 4096).2 = []) (eo : Nat → Nat × Nat) : Meets Tryd.prog 27 [.ptr 500 0] [(500, some ⟨.agg [.str (i).r, .err 161 ((i).e) (offE eo ((i).e))], 82, true⟩), (3, some ⟨.agg [.err 161 (2) (offE eo (2))], errT, false⟩), (0, some ⟨.agg [.err 161 (4) (offE eo (4))], errT, false⟩), (1, some ⟨.agg [.err 161 (3) (offE eo (3))], errT, false⟩)] (.dsl []) [(500, some ⟨.agg [.str ((textD i 4096).1).r, .err 161 (((textD i 4096).1).e) (offE eo (((textD i 4096).1).e))], 82, true⟩)] := by
 have hl := (textD_len_le i 4096).1
 have hn : (splitC (textD i 4096).2).length ≤ 90000001 := by
  rw [splitC_len]; have := List.count_le_length (a := (44 : UInt8)) (l := (textD i 4096).2); omega
 refine meets_of_ev (nt := 27) Tryd.func27 rfl rfl (Nat.le_of_ble_eq_true rfl) ?_
 refine .seq ?_
 refine .region ?_
 refine .q (op_assign rfl) trivial rfl ?_
 refine .nil ?_
 show Ev _ _ _ _ _
 refine .seq ?_
 refine .region ?_
 refine .q (op_move rfl) trivial rfl ?_
 refine .a (op_call (U := [(500, some ⟨.agg [.str ((textD i 4096).1).r, .err 161 (((textD i 4096).1).e) (offE eo (((textD i 4096).1).e))], 82, true⟩)]) [(500, 500)] [] (itext_ev i 4096 eo) Tryd.func25 (by kernel_rfl) rfl rfl rfl (⟨⟨_, rfl, rfl, rfl⟩, ⟨_, rfl, rfl, rfl⟩, trivial⟩) (⟨⟨_, _, rfl, rfl, rfl, rfl, id, rfl⟩, ⟨_, _, rfl, rfl, rfl, rfl, (fun h => by cases h), rfl⟩, ⟨_, _, rfl, rfl, rfl, rfl, (fun h => by cases h), rfl⟩, trivial⟩) (⟨⟨500, _, rfl, rfl, rfl, rfl, .inr ⟨rfl, _, rfl, rfl⟩⟩, trivial⟩) (⟨(fun _ => ⟨500, _, rfl, rfl⟩), (fun h => by cases h), (fun h => by cases h), trivial⟩) rfl) trivial rfl ?_
 refine .q (op_assign rfl) trivial rfl ?_
 refine .nil ?_
 show Ev _ _ _ _ _
 refine .seq ?_
 refine .seq ?_
 refine .region ?_
 refine .q (op_move rfl) trivial rfl ?_
 refine .q (op_eqS rfl rfl rfl) trivial rfl ?_
 refine .nil ?_
 show Ev _ _ _ _ _
 refine .cond_true rfl (by rw [h0]; rfl) ?_
 refine .seq ?_
 refine .region ?_
 refine .q (op_assign rfl) trivial rfl ?_
 refine .asR (.dsl []) nil_dsl ?_
 refine .nil ?_
 show Ev _ _ _ _ _
 refine .ret ?_
 show RetOk _ _ _ _ _ _ _
 exact ret1v rfl (.inl rfl) rfl rfl ⟨rfl, trivial⟩
set_option maxRecDepth 100000 in
theorem namesd_ok (i : DI) (hr : i.r.length ≤ 90000000) (h0 : ¬ (textD i 4096).2 = []) (h : (splitC (textD i 4096).2).all nameOk = true) (eo : Nat → Nat × Nat) : Meets Tryd.prog 27 [.ptr 500 0] [(500, some ⟨.agg [.str (i).r, .err 161 ((i).e) (offE eo ((i).e))], 82, true⟩), (3, some ⟨.agg [.err 161 (2) (offE eo (2))], errT, false⟩), (0, some ⟨.agg [.err 161 (4) (offE eo (4))], errT, false⟩), (1, some ⟨.agg [.err 161 (3) (offE eo (3))], errT, false⟩)] (.dsl (splitC (textD i 4096).2)) [(500, some ⟨.agg [.str ((textD i 4096).1).r, .err 161 (((textD i 4096).1).e) (offE eo (((textD i 4096).1).e))], 82, true⟩)] := by
 have hl := (textD_len_le i 4096).1
 have hn : (splitC (textD i 4096).2).length ≤ 90000001 := by
  rw [splitC_len]; have := List.count_le_length (a := (44 : UInt8)) (l := (textD i 4096).2); omega
 refine meets_of_ev (nt := 27) Tryd.func27 rfl rfl (Nat.le_of_ble_eq_true rfl) ?_
 refine .seq ?_
 refine .region ?_
 refine .q (op_assign rfl) trivial rfl ?_
 refine .nil ?_
 show Ev _ _ _ _ _
 refine .seq ?_
 refine .region ?_
 refine .q (op_move rfl) trivial rfl ?_
 refine .a (op_call (U := [(500, some ⟨.agg [.str ((textD i 4096).1).r, .err 161 (((textD i 4096).1).e) (offE eo (((textD i 4096).1).e))], 82, true⟩)]) [(500, 500)] [] (itext_ev i 4096 eo) Tryd.func25 (by kernel_rfl) rfl rfl rfl (⟨⟨_, rfl, rfl, rfl⟩, ⟨_, rfl, rfl, rfl⟩, trivial⟩) (⟨⟨_, _, rfl, rfl, rfl, rfl, id, rfl⟩, ⟨_, _, rfl, rfl, rfl, rfl, (fun h => by cases h), rfl⟩, ⟨_, _, rfl, rfl, rfl, rfl, (fun h => by cases h), rfl⟩, trivial⟩) (⟨⟨500, _, rfl, rfl, rfl, rfl, .inr ⟨rfl, _, rfl, rfl⟩⟩, trivial⟩) (⟨(fun _ => ⟨500, _, rfl, rfl⟩), (fun h => by cases h), (fun h => by cases h), trivial⟩) rfl) trivial rfl ?_
 refine .q (op_assign rfl) trivial rfl ?_
 refine .nil ?_
 show Ev _ _ _ _ _
 refine .seq ?_
 refine .seq ?_
 refine .region ?_
 refine .q (op_move rfl) trivial rfl ?_
 refine .q (op_eqS rfl rfl rfl) trivial rfl ?_
 refine .nil ?_
 show Ev _ _ _ _ _
 refine .cond_false rfl (beq_eq_false_iff_ne.2 h0) ?_
 refine .skip ?_
 show Ev _ _ _ _ _
 refine .seq ?_
 refine .region ?_
 refine .q (op_move rfl) trivial rfl ?_
 refine .a (op_call (U := [(1008, some ⟨.aggS (splitC (textD i 4096).2), 9, true⟩)]) [] [(1008, 1000)] (split_ev (textD i 4096).2 (by omega)) Tryd.func54 (by kernel_rfl) rfl rfl rfl (⟨⟨_, rfl, rfl, rfl⟩, ⟨_, rfl, rfl, rfl⟩, trivial⟩) (trivial) (⟨⟨1000, _, rfl, rfl, rfl, rfl, .inl rfl⟩, trivial⟩) (trivial) rfl) trivial rfl ?_
 refine .q (op_assign rfl) trivial rfl ?_
 refine .nil ?_
 show Ev _ _ _ _ _
 refine .seq ?_
 refine .seq ?_
 refine Ev.weak (StLe.freeze (t := 4) (b := 1008) (o := 0) (n := (splitC (textD i 4096).2).length) (e := 9) (L := splitC (textD i 4096).2) (Nat.le_of_ble_eq_true rfl) rfl rfl (by omega)) ?_
 refine Ev.asR (T1 := []) (.dsl (splitC (textD i 4096).2)) (fun E y h => by rw [List.drop_zero, List.take_length] at h; exact h) ?_
 show Ev _ _ _ _ _
 refine .region ?_
 refine .q (op_move rfl) trivial rfl ?_
 refine .q (op_len_dsl Tryd.underlying31 rfl) trivial rfl ?_
 refine .q (op_move rfl) trivial rfl ?_
 refine .nil ?_
 show Ev _ _ _ _ _
 refine .block ?_
 refine Ev.loop (ι := { j : Nat // j ≤ (splitC (textD i 4096).2).length }) (fun q => ⟨[(0, .ptr 500 0), (4, .dsl (splitC (textD i 4096).2)), (13, .dsl (splitC (textD i 4096).2)), (14, .i64 ((splitC (textD i 4096).2).length : Int)), (15, .i64 (q.1 : Int))], [(500, some ⟨.agg [.str ((textD i 4096).1).r, .err 161 (((textD i 4096).1).e) (offE eo (((textD i 4096).1).e))], 82, true⟩), (1, some ⟨.agg [.err 161 (3) (offE eo (3))], errT, false⟩)], 1016⟩) (fun q => (splitC (textD i 4096).2).length - q.1) ⟨0, Nat.zero_le _⟩ (StLe.mk [] rfl rfl ⟨⟨_, rfl, by first | rfl | (simp only [AV.ren]; congr 1; omega), rfl⟩, ⟨_, rfl, by first | rfl | (simp only [AV.ren]; congr 1; omega), rfl⟩, ⟨_, rfl, by first | rfl | (simp only [AV.ren]; congr 1; omega), rfl⟩, ⟨_, rfl, by first | rfl | (simp only [AV.ren]; congr 1; omega), rfl⟩, ⟨_, rfl, by first | rfl | (simp only [AV.ren]; congr 1; omega), rfl⟩, trivial⟩ ⟨⟨_, _, rfl, rfl, rfl, rfl, id, rfl⟩, ⟨_, _, rfl, rfl, rfl, rfl, id, rfl⟩, trivial⟩) ?_
 rintro ⟨j, hj⟩
 try dsimp only
 refine .seq ?_
 refine .region ?_
 refine .q (op_cmpI rfl rfl rfl) trivial rfl ?_
 refine .nil ?_
 show Ev _ _ _ _ _
 refine .seq ?_
 refine .cond rfl (fun hc16 => ?_) (fun hc16 => ?_)
 ·simp only [decide_eq_true_eq] at hc16
  refine .skip ?_
  show Ev _ _ _ _ _
  refine .seq ?_
  refine .block ?_
  refine .seq ?_
  refine .region ?_
  refine .q (op_indexAddr_dsl Tryd.underlying31 inf9.sz rfl rfl rfl (by omega)) trivial rfl ?_
  refine .q (op_load_dptr Tryd.underlying9 rfl rfl (drop_get (by omega))) trivial rfl ?_
  refine .q (op_assign rfl) trivial rfl ?_
  refine .nil ?_
  show Ev _ _ _ _ _
  refine .seq ?_
  refine .region ?_
  refine .q (op_move rfl) trivial rfl ?_
  refine .q (op_call (U := []) [] [] (wname_ev ((splitC (textD i 4096).2).getD j []) (by have := splitC_get (textD i 4096).2 j; omega)) Tryd.func55 (by kernel_rfl) rfl rfl rfl (⟨⟨_, rfl, rfl, rfl⟩, trivial⟩) (trivial) (trivial) (trivial) rfl) trivial rfl ?_
  refine .q (op_notB rfl) trivial rfl ?_
  refine .nil ?_
  show Ev _ _ _ _ _
  refine .cond_false rfl (by rw [all_get h (show j < _ by omega)]; rfl) ?_
  refine .skip ?_
  show Ev _ _ _ _ _
  refine .region ?_
  refine .q (op_addI rfl rfl ⟨by omega, by omega⟩) trivial rfl ?_
  refine .q (op_move rfl) trivial rfl ?_
  refine .nil ?_
  exact ⟨⟨j + 1, by omega⟩, by (try dsimp only); omega, StLe.mk [] rfl rfl ⟨⟨_, rfl, by first | rfl | (simp only [AV.ren]; congr 1; omega), rfl⟩, ⟨_, rfl, by first | rfl | (simp only [AV.ren]; congr 1; omega), rfl⟩, ⟨_, rfl, by first | rfl | (simp only [AV.ren]; congr 1; omega), rfl⟩, ⟨_, rfl, by first | rfl | (simp only [AV.ren]; congr 1; omega), rfl⟩, ⟨_, rfl, by first | rfl | (simp only [AV.ren]; congr 1; omega), rfl⟩, trivial⟩ ⟨⟨_, _, rfl, rfl, rfl, rfl, id, rfl⟩, ⟨_, _, rfl, rfl, rfl, rfl, id, rfl⟩, trivial⟩⟩
 ·simp only [decide_eq_false_iff_not] at hc16
  refine .exit ?_
  show Ev _ _ _ _ _
  refine .seq ?_
  refine .region ?_
  refine .q (op_move rfl) trivial rfl ?_
  refine .q (op_assign rfl) trivial rfl ?_
  refine .nil ?_
  show Ev _ _ _ _ _
  refine .ret ?_
  show RetOk _ _ _ _ _ _ _
  exact ret1v rfl (.inl rfl) rfl rfl ⟨rfl, trivial⟩
set_option maxRecDepth 100000 in
theorem namesd_bad (i : DI) (hr : i.r.length ≤ 90000000) (h0 : ¬ (textD i 4096).2 = []) (b : Nat) (hb : b < (splitC (textD i 4096).2).length) (hbad : nameOk ((splitC (textD i 4096).2).getD b []) = false) (eo : Nat → Nat × Nat) : Meets Tryd.prog 27 [.ptr 500 0] [(500, some ⟨.agg [.str (i).r, .err 161 ((i).e) (offE eo ((i).e))], 82, true⟩), (3, some ⟨.agg [.err 161 (2) (offE eo (2))], errT, false⟩), (0, some ⟨.agg [.err 161 (4) (offE eo (4))], errT, false⟩), (1, some ⟨.agg [.err 161 (3) (offE eo (3))], errT, false⟩)] (.dsl []) [(500, some ⟨.agg [.str (failD (textD i 4096).1 3).r, .err 161 ((failD (textD i 4096).1 3).e) (offE eo ((failD (textD i 4096).1 3).e))], 82, true⟩)] := by
 have hl := (textD_len_le i 4096).1
 have hn : (splitC (textD i 4096).2).length ≤ 90000001 := by
  rw [splitC_len]; have := List.count_le_length (a := (44 : UInt8)) (l := (textD i 4096).2); omega
 refine meets_of_ev (nt := 27) Tryd.func27 rfl rfl (Nat.le_of_ble_eq_true rfl) ?_
 refine .seq ?_
 refine .region ?_
 refine .q (op_assign rfl) trivial rfl ?_
 refine .nil ?_
 show Ev _ _ _ _ _
 refine .seq ?_
 refine .region ?_
 refine .q (op_move rfl) trivial rfl ?_
 refine .a (op_call (U := [(500, some ⟨.agg [.str ((textD i 4096).1).r, .err 161 (((textD i 4096).1).e) (offE eo (((textD i 4096).1).e))], 82, true⟩)]) [(500, 500)] [] (itext_ev i 4096 eo) Tryd.func25 (by kernel_rfl) rfl rfl rfl (⟨⟨_, rfl, rfl, rfl⟩, ⟨_, rfl, rfl, rfl⟩, trivial⟩) (⟨⟨_, _, rfl, rfl, rfl, rfl, id, rfl⟩, ⟨_, _, rfl, rfl, rfl, rfl, (fun h => by cases h), rfl⟩, ⟨_, _, rfl, rfl, rfl, rfl, (fun h => by cases h), rfl⟩, trivial⟩) (⟨⟨500, _, rfl, rfl, rfl, rfl, .inr ⟨rfl, _, rfl, rfl⟩⟩, trivial⟩) (⟨(fun _ => ⟨500, _, rfl, rfl⟩), (fun h => by cases h), (fun h => by cases h), trivial⟩) rfl) trivial rfl ?_
 refine .q (op_assign rfl) trivial rfl ?_
 refine .nil ?_
 show Ev _ _ _ _ _
 refine .seq ?_
 refine .seq ?_
 refine .region ?_
 refine .q (op_move rfl) trivial rfl ?_
 refine .q (op_eqS rfl rfl rfl) trivial rfl ?_
 refine .nil ?_
 show Ev _ _ _ _ _
 refine .cond_false rfl (beq_eq_false_iff_ne.2 h0) ?_
 refine .skip ?_
 show Ev _ _ _ _ _
 refine .seq ?_
 refine .region ?_
 refine .q (op_move rfl) trivial rfl ?_
 refine .a (op_call (U := [(1008, some ⟨.aggS (splitC (textD i 4096).2), 9, true⟩)]) [] [(1008, 1000)] (split_ev (textD i 4096).2 (by omega)) Tryd.func54 (by kernel_rfl) rfl rfl rfl (⟨⟨_, rfl, rfl, rfl⟩, ⟨_, rfl, rfl, rfl⟩, trivial⟩) (trivial) (⟨⟨1000, _, rfl, rfl, rfl, rfl, .inl rfl⟩, trivial⟩) (trivial) rfl) trivial rfl ?_
 refine .q (op_assign rfl) trivial rfl ?_
 refine .nil ?_
 show Ev _ _ _ _ _
 refine .seq ?_
 refine .seq ?_
 refine Ev.weak (StLe.freeze (t := 4) (b := 1008) (o := 0) (n := (splitC (textD i 4096).2).length) (e := 9) (L := splitC (textD i 4096).2) (Nat.le_of_ble_eq_true rfl) rfl rfl (by omega)) ?_
 refine Ev.asR (T1 := []) (.dsl (splitC (textD i 4096).2)) (fun E y h => by rw [List.drop_zero, List.take_length] at h; exact h) ?_
 show Ev _ _ _ _ _
 refine .region ?_
 refine .q (op_move rfl) trivial rfl ?_
 refine .q (op_len_dsl Tryd.underlying31 rfl) trivial rfl ?_
 refine .q (op_move rfl) trivial rfl ?_
 refine .nil ?_
 show Ev _ _ _ _ _
 refine .block ?_
 refine Ev.loop (ι := { j : Nat // j ≤ b }) (fun q => ⟨[(0, .ptr 500 0), (4, .dsl (splitC (textD i 4096).2)), (13, .dsl (splitC (textD i 4096).2)), (14, .i64 ((splitC (textD i 4096).2).length : Int)), (15, .i64 (q.1 : Int))], [(500, some ⟨.agg [.str ((textD i 4096).1).r, .err 161 (((textD i 4096).1).e) (offE eo (((textD i 4096).1).e))], 82, true⟩), (1, some ⟨.agg [.err 161 (3) (offE eo (3))], errT, false⟩)], 1016⟩) (fun q => b - q.1) ⟨0, Nat.zero_le _⟩ (StLe.mk [] rfl rfl ⟨⟨_, rfl, by first | rfl | (simp only [AV.ren]; congr 1; omega), rfl⟩, ⟨_, rfl, by first | rfl | (simp only [AV.ren]; congr 1; omega), rfl⟩, ⟨_, rfl, by first | rfl | (simp only [AV.ren]; congr 1; omega), rfl⟩, ⟨_, rfl, by first | rfl | (simp only [AV.ren]; congr 1; omega), rfl⟩, ⟨_, rfl, by first | rfl | (simp only [AV.ren]; congr 1; omega), rfl⟩, trivial⟩ ⟨⟨_, _, rfl, rfl, rfl, rfl, id, rfl⟩, ⟨_, _, rfl, rfl, rfl, rfl, id, rfl⟩, trivial⟩) ?_
 rintro ⟨j, hj⟩
 try dsimp only
 refine .seq ?_
 refine .region ?_
 refine .q (op_cmpI rfl rfl rfl) trivial rfl ?_
 refine .nil ?_
 show Ev _ _ _ _ _
 refine .seq ?_
 refine .cond_true rfl (decide_eq_true (by omega)) ?_
 refine .skip ?_
 show Ev _ _ _ _ _
 refine .seq ?_
 refine .block ?_
 refine .seq ?_
 refine .region ?_
 refine .q (op_indexAddr_dsl Tryd.underlying31 inf9.sz rfl rfl rfl (by omega)) trivial rfl ?_
 refine .q (op_load_dptr Tryd.underlying9 rfl rfl (drop_get (by omega))) trivial rfl ?_
 refine .q (op_assign rfl) trivial rfl ?_
 refine .nil ?_
 show Ev _ _ _ _ _
 refine .seq ?_
 refine .region ?_
 refine .q (op_move rfl) trivial rfl ?_
 refine .q (op_call (U := []) [] [] (wname_ev ((splitC (textD i 4096).2).getD j []) (by have := splitC_get (textD i 4096).2 j; omega)) Tryd.func55 (by kernel_rfl) rfl rfl rfl (⟨⟨_, rfl, rfl, rfl⟩, trivial⟩) (trivial) (trivial) (trivial) rfl) trivial rfl ?_
 refine .q (op_notB rfl) trivial rfl ?_
 refine .nil ?_
 show Ev _ _ _ _ _
 refine .cond rfl (fun hc21 => ?_) (fun hc21 => ?_)
 ·skip
  refine .seq ?_
  refine .region ?_
  refine .q (op_move rfl) trivial rfl ?_
  refine .q (op_load Tryd.underlying56 rfl rfl rfl rfl (by first | omega | (simp only [AV.len]; omega) | (simp only [AV.len]; omega) | assumption | (simp [AV.len]; done))) trivial rfl ?_
  refine .a (op_call (U := [(500, some ⟨.agg [.str (failD (textD i 4096).1 3).r, .err 161 ((failD (textD i 4096).1 3).e) (offE eo ((failD (textD i 4096).1 3).e))], 82, true⟩)]) [(500, 500)] [] (fail_ev (textD i 4096).1 3 eo) Tryd.func52 (by kernel_rfl) rfl rfl rfl (⟨⟨_, rfl, rfl, rfl⟩, ⟨_, rfl, rfl, rfl⟩, trivial⟩) (⟨⟨_, _, rfl, rfl, rfl, rfl, id, rfl⟩, trivial⟩) (⟨⟨500, _, rfl, rfl, rfl, rfl, .inr ⟨rfl, _, rfl, rfl⟩⟩, trivial⟩) (⟨(fun _ => ⟨500, _, rfl, rfl⟩), trivial⟩) rfl) trivial rfl ?_
  refine .nil ?_
  show Ev _ _ _ _ _
  refine .seq ?_
  refine .region ?_
  refine .q (op_assign rfl) trivial rfl ?_
  refine .asR (.dsl []) nil_dsl ?_
  refine .nil ?_
  show Ev _ _ _ _ _
  refine .ret ?_
  show RetOk _ _ _ _ _ _ _
  exact ret1v rfl (.inl rfl) rfl rfl ⟨rfl, trivial⟩
 ·skip
  refine .skip ?_
  show Ev _ _ _ _ _
  refine .region ?_
  refine .q (op_addI rfl rfl ⟨by omega, by omega⟩) trivial rfl ?_
  refine .q (op_move rfl) trivial rfl ?_
  refine .nil ?_
  exact ⟨⟨j + 1, (by have : j ≠ b := fun e => (by subst e; rw [hbad] at hc21; cases hc21); omega)⟩, by (try dsimp only); first | omega | (have : j ≠ b := fun e => (by subst e; rw [hbad] at hc21; cases hc21); omega), StLe.mk [] rfl rfl ⟨⟨_, rfl, by first | rfl | (simp only [AV.ren]; congr 1; omega), rfl⟩, ⟨_, rfl, by first | rfl | (simp only [AV.ren]; congr 1; omega), rfl⟩, ⟨_, rfl, by first | rfl | (simp only [AV.ren]; congr 1; omega), rfl⟩, ⟨_, rfl, by first | rfl | (simp only [AV.ren]; congr 1; omega), rfl⟩, ⟨_, rfl, by first | rfl | (simp only [AV.ren]; congr 1; omega), rfl⟩, trivial⟩ ⟨⟨_, _, rfl, rfl, rfl, rfl, id, rfl⟩, ⟨_, _, rfl, rfl, rfl, rfl, id, rfl⟩, trivial⟩⟩
theorem namesd_ev (i : DI) (hr : i.r.length ≤ 90000000) (eo : Nat → Nat × Nat) : Meets Tryd.prog 27 [.ptr 500 0] [(500, some ⟨.agg [.str (i).r, .err 161 ((i).e) (offE eo ((i).e))], 82, true⟩), (3, some ⟨.agg [.err 161 (2) (offE eo (2))], errT, false⟩), (0, some ⟨.agg [.err 161 (4) (offE eo (4))], errT, false⟩), (1, some ⟨.agg [.err 161 (3) (offE eo (3))], errT, false⟩)] (.dsl (namesD i).2) [(500, some ⟨.agg [.str ((namesD i).1).r, .err 161 (((namesD i).1).e) (offE eo (((namesD i).1).e))], 82, true⟩)] := by
 unfold namesD
 by_cases h0 : (textD i 4096).2 = []
 ·rw [if_pos h0]; exact namesd_nil i hr h0 eo
 ·rw [if_neg h0]
  by_cases h : (splitC (textD i 4096).2).all nameOk = true
  ·rw [if_pos h]; exact namesd_ok i hr h0 h eo
  ·rw [if_neg h]
   obtain ⟨b, hb, hbad⟩ := not_all h
   exact namesd_bad i hr h0 b hb hbad eo
set_option maxRecDepth 100000 in
theorem same_true (a : List (List UInt8)) (ha : a.length ≤ 1000000) : Meets Tryd.prog 26 [.dsl a, .dsl a] [] (.bool true) [] := by
 refine meets_of_ev (nt := 26) Tryd.func26 rfl rfl (Nat.le_of_ble_eq_true rfl) ?_
 refine .seq ?_
 refine .region ?_
 refine .q (op_assign rfl) trivial rfl ?_
 refine .nil ?_
 show Ev _ _ _ _ _
 refine .seq ?_
 refine .seq ?_
 refine .region ?_
 refine .q (op_move rfl) trivial rfl ?_
 refine .q (op_len_dsl Tryd.underlying31 rfl) trivial rfl ?_
 refine .q (op_move rfl) trivial rfl ?_
 refine .q (op_len_dsl Tryd.underlying31 rfl) trivial rfl ?_
 refine .q (op_cmpI rfl rfl rfl) trivial rfl ?_
 refine .nil ?_
 show Ev _ _ _ _ _
 refine .cond_false rfl (bne_self_eq_false _) ?_
 refine .skip ?_
 show Ev _ _ _ _ _
 refine .seq ?_
 refine .seq ?_
 refine .region ?_
 refine .q (op_move rfl) trivial rfl ?_
 refine .q (op_len_dsl Tryd.underlying31 rfl) trivial rfl ?_
 refine .q (op_move rfl) trivial rfl ?_
 refine .nil ?_
 show Ev _ _ _ _ _
 refine .block ?_
 refine Ev.loop (ι := { k : Nat // k ≤ a.length }) (fun q => ⟨[(0, .dsl a), (1, .dsl a), (11, .dsl a), (12, .i64 ((a.length : Nat) : Int)), (13, .i64 ((q.1 : Nat) : Int))], [], 1000⟩) (fun q => a.length - q.1) ⟨0, Nat.zero_le _⟩ (StLe.mk [] rfl rfl ⟨⟨_, rfl, by first | rfl | (simp only [AV.ren]; congr 1; omega), rfl⟩, ⟨_, rfl, by first | rfl | (simp only [AV.ren]; congr 1; omega), rfl⟩, ⟨_, rfl, by first | rfl | (simp only [AV.ren]; congr 1; omega), rfl⟩, ⟨_, rfl, by first | rfl | (simp only [AV.ren]; congr 1; omega), rfl⟩, ⟨_, rfl, by first | rfl | (simp only [AV.ren]; congr 1; omega), rfl⟩, trivial⟩ trivial) ?_
 rintro ⟨k, hk⟩
 try dsimp only
 refine .seq ?_
 refine .region ?_
 refine .q (op_cmpI rfl rfl rfl) trivial rfl ?_
 refine .nil ?_
 show Ev _ _ _ _ _
 refine .seq ?_
 refine .cond rfl (fun hc14 => ?_) (fun hc14 => ?_)
 ·simp only [decide_eq_true_eq] at hc14
  refine .skip ?_
  show Ev _ _ _ _ _
  refine .seq ?_
  refine .block ?_
  refine .seq ?_
  refine .region ?_
  refine .q (op_move rfl) trivial rfl ?_
  refine .q (op_assign rfl) trivial rfl ?_
  refine .nil ?_
  show Ev _ _ _ _ _
  refine .seq ?_
  refine .drawn [[], [], [0, 1], [0, 1, 2], [], [], [4, 5], [4, 5, 6], [0, 1, 2, 3, 4, 5, 6, 7]] [3, 7] [] (by kernel_rfl) (by kernel_rfl) rfl ?_
  show DK _ [0, 1, 2, 3, 4, 5, 6, 7, 8] _ _ _
  refine .q rfl (op_move rfl) trivial ?_
  refine .q rfl (op_move rfl) trivial ?_
  refine .q rfl (op_indexAddr_dsl Tryd.underlying31 inf9.sz rfl rfl rfl (by first | omega | (simp only [AV.len]; omega) | (simp only [AV.len, List.length_set]; omega) | assumption | (simp [AV.len]; done))) trivial ?_
  refine .q rfl (op_load_dptr Tryd.underlying9 rfl rfl (drop_get (by omega))) trivial ?_
  refine .q rfl (op_move rfl) trivial ?_
  refine .q rfl (op_move rfl) trivial ?_
  refine .q rfl (op_indexAddr_dsl Tryd.underlying31 inf9.sz rfl rfl rfl (by first | omega | (simp only [AV.len]; omega) | (simp only [AV.len, List.length_set]; omega) | assumption | (simp [AV.len]; done))) trivial ?_
  refine .q rfl (op_load_dptr Tryd.underlying9 rfl rfl (drop_get (by omega))) trivial ?_
  refine .q rfl (op_eqS rfl rfl rfl) trivial ?_
  refine .nil ?_
  show Ev _ _ _ _ _
  refine .cond_false rfl (bne_self_eq_false _) ?_
  refine .skip ?_
  show Ev _ _ _ _ _
  refine .region ?_
  refine .q (op_addI rfl rfl ⟨by omega, by omega⟩) trivial rfl ?_
  refine .q (op_move rfl) trivial rfl ?_
  refine .nil ?_
  exact ⟨⟨k + 1, by omega⟩, by (try dsimp only); omega, StLe.mk [] rfl rfl ⟨⟨_, rfl, by first | rfl | (simp only [AV.ren]; congr 1; omega), rfl⟩, ⟨_, rfl, by first | rfl | (simp only [AV.ren]; congr 1; omega), rfl⟩, ⟨_, rfl, by first | rfl | (simp only [AV.ren]; congr 1; omega), rfl⟩, ⟨_, rfl, by first | rfl | (simp only [AV.ren]; congr 1; omega), rfl⟩, ⟨_, rfl, by first | rfl | (simp only [AV.ren]; congr 1; omega), rfl⟩, trivial⟩ trivial⟩
 ·simp only [decide_eq_false_iff_not] at hc14
  refine .exit ?_
  show Ev _ _ _ _ _
  refine .seq ?_
  refine .region ?_
  refine .q (op_assign rfl) trivial rfl ?_
  refine .nil ?_
  show Ev _ _ _ _ _
  refine .ret ?_
  show RetOk _ _ _ _ _ _ _
  exact ret1v rfl (.inl rfl) rfl rfl trivial
end Go.Proofs.YtoigppbkfhfllaaDoor
