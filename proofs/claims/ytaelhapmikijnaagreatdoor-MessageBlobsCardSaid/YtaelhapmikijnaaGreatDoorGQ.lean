/-
  The field of 2^255 - 19 of the reference, walked.
-/
import Derived.Test.YtaelhapmikijnaaGreatDoorGL
import Derived.Test.YtaelhapmikijnaaGreatDoorGJ
namespace Go.Proofs.YtaelhapmikijnaaGreatDoor
open Go.RowKit
/-- Some parts are done, q is what is left of the text. -/
structure SpI (s : List UInt8) where
  d : List (List UInt8)
  q : List UInt8
  h : splitC s = d ++ splitC q
  c : d.length + q.count 44 = s.count 44
  l : q.length ≤ s.length
def SpI.next {s : List UInt8} (i : SpI s) (m : Nat) (h3 : splitC i.q = i.q.take m :: splitC (i.q.drop (m + 1))) (h4 : (i.q.drop (m + 1)).count 44 + 1 = i.q.count 44) : SpI s :=
  ⟨i.d ++ [i.q.take m], i.q.drop (m + 1), by rw [i.h, h3]; simp, by have := i.c; simp only [List.length_append, List.length_cons, List.length_nil]; omega, by have := i.l; simp only [List.length_drop]; omega⟩
def SpI.cells {s : List UInt8} (i : SpI s) : List (List UInt8) := i.d ++ List.replicate (s.count 44 + 1 - i.d.length) []
theorem SpI.set {s : List UInt8} (i : SpI s) (x : List UInt8) (h : i.d.length < s.count 44 + 1) : i.cells.set i.d.length x = i.d ++ [x] ++ List.replicate (s.count 44 + 1 - (i.d.length + 1)) [] := by
  unfold SpI.cells
  rw [List.set_append_right _ _ (Nat.le_refl _), Nat.sub_self, show s.count 44 + 1 - i.d.length = (s.count 44 + 1 - (i.d.length + 1)) + 1 by omega, List.replicate_succ]
  simp
theorem SpI.fin {s : List UInt8} (i : SpI s) (hz : i.q.count 44 = 0) : i.cells.set i.d.length i.q = splitC s := by
  have hc := i.c
  rw [SpI.set _ _ (by omega), show s.count 44 + 1 - (i.d.length + 1) = 0 by omega, i.h, splitC_none _ hz]
  simp
set_option maxRecDepth 100000 in
theorem gensplit_ev (s : List UInt8) (hs : s.length ≤ 100000000) : Meets Tryz.prog 77 [.str s, .str [44], .i64 0, .i64 (-1)] [] (.sl 1000 0 (splitC s).length 1) [(1000, some ⟨.aggS (splitC s), 9, true⟩)] := by
 have hcl := List.count_le_length (a := (44 : UInt8)) (l := s)
 refine meets_of_ev (nt := 66) Tryz.func77 rfl rfl (Nat.le_of_ble_eq_true rfl) ?_
 refine .seq ?_
 refine .region ?_
 refine .q (op_assign rfl) trivial rfl ?_
 refine .nil ?_
 show Ev _ _ _ _ _
 refine .seq ?_
 refine .seq ?_
 refine .region ?_
 refine .q (op_move rfl) trivial rfl ?_
 refine .q (op_cmpI rfl rfl rfl) trivial rfl ?_
 refine .nil ?_
 show Ev _ _ _ _ _
 refine .cond_false rfl (rfl) ?_
 refine .skip ?_
 show Ev _ _ _ _ _
 refine .seq ?_
 refine .seq ?_
 refine .region ?_
 refine .q (op_move rfl) trivial rfl ?_
 refine .q (op_eqS rfl rfl rfl) trivial rfl ?_
 refine .nil ?_
 show Ev _ _ _ _ _
 refine .cond_false rfl (rfl) ?_
 refine .skip ?_
 show Ev _ _ _ _ _
 refine .seq ?_
 refine .seq ?_
 refine .region ?_
 refine .q (op_move rfl) trivial rfl ?_
 refine .q (op_cmpI rfl rfl rfl) trivial rfl ?_
 refine .nil ?_
 show Ev _ _ _ _ _
 refine .cond_true rfl (rfl) ?_
 refine .region ?_
 refine .q (op_move rfl) trivial rfl ?_
 refine .q (op_move rfl) trivial rfl ?_
 refine .q (op_call (U := []) [] [] (count_ev s 44) Tryz.func73 (by kernel_rfl) rfl rfl rfl (⟨⟨_, rfl, rfl, rfl⟩, ⟨_, rfl, rfl, rfl⟩, trivial⟩) (trivial) (trivial) (trivial) rfl) trivial rfl ?_
 refine .q (op_addI rfl rfl ⟨by have := List.count_le_length (a := (44 : UInt8)) (l := s); omega, by have := List.count_le_length (a := (44 : UInt8)) (l := s); omega⟩) trivial rfl ?_
 refine .q (op_assign rfl) trivial rfl ?_
 refine .nil ?_
 show Ev _ _ _ _ _
 refine .seq ?_
 refine .region ?_
 refine .q (op_move rfl) trivial rfl ?_
 refine .q (op_move rfl) trivial rfl ?_
 refine .q (op_len_str Tryz.underlying9 rfl) trivial rfl ?_
 refine .q (op_addI rfl rfl ⟨by omega, by omega⟩) trivial rfl ?_
 refine .q (op_minI rfl rfl) trivial rfl ?_
 refine .as (.i64 ((s.count 44 + 1 : Nat) : Int)) (congrArg AV.i64 (by have := List.count_le_length (a := (44 : UInt8)) (l := s); omega)) ?_
 refine .q (op_assign rfl) trivial rfl ?_
 refine .nil ?_
 show Ev _ _ _ _ _
 refine .seq ?_
 refine .region ?_
 refine .q (op_move rfl) trivial rfl ?_
 refine .a (ap_make (n := s.count 44 + 1) (c := .aggS (List.replicate (s.count 44 + 1) [])) Tryz.underlying36 inf9 rfl rfl rfl rfl (by have := List.count_le_length (a := (44 : UInt8)) (l := s); omega) rel_zero9 rfl (by simp [AV.list, AV.parts])) trivial rfl ?_
 refine .q (op_assign rfl) trivial rfl ?_
 refine .nil ?_
 show Ev _ _ _ _ _
 refine .seq ?_
 refine .region ?_
 refine .q (op_move rfl) trivial rfl ?_
 refine .q (op_subI rfl rfl ⟨by have := List.count_le_length (a := (44 : UInt8)) (l := s); omega, by have := List.count_le_length (a := (44 : UInt8)) (l := s); omega⟩) trivial rfl ?_
 refine .as (.i64 ((s.count 44 : Nat) : Int)) (congrArg AV.i64 (by omega)) ?_
 refine .q (op_assign rfl) trivial rfl ?_
 refine .nil ?_
 show Ev _ _ _ _ _
 refine .seq ?_
 refine .region ?_
 refine .q (op_assign rfl) trivial rfl ?_
 refine .nil ?_
 show Ev _ _ _ _ _
 refine .seq ?_
 refine .block ?_
 refine Ev.loop (ι := SpI s) (fun q => ⟨[(0, .str q.q), (1, .str [44]), (2, .i64 0), (3, .i64 ((s.count 44 : Nat) : Int)), (9, .sl 1000 0 (s.count 44 + 1) 1), (10, .i64 ((q.d.length : Nat) : Int))], [(1000, some ⟨.aggS q.cells, 9, true⟩)], 1008⟩) (fun q => q.q.count 44) ⟨[], s, rfl, by simp, Nat.le_refl _⟩ (StLe.mk [(1000, 1000)] rfl rfl ⟨⟨_, rfl, by rfl, rfl⟩, ⟨_, rfl, by rfl, rfl⟩, ⟨_, rfl, by rfl, rfl⟩, ⟨_, rfl, by rfl, rfl⟩, ⟨_, rfl, by rfl, rfl⟩, ⟨_, rfl, by rfl, rfl⟩, trivial⟩ ⟨⟨_, _, rfl, rfl, rfl, rfl, id, rfl⟩, trivial⟩) ?_
 rintro q
 try dsimp only
 refine .seq ?_
 refine .seq ?_
 refine .region ?_
 refine .q (op_move rfl) trivial rfl ?_
 refine .q (op_move rfl) trivial rfl ?_
 refine .q (op_cmpI rfl rfl rfl) trivial rfl ?_
 refine .nil ?_
 show Ev _ _ _ _ _
 refine .cond rfl (fun hc36 => ?_) (fun hc36 => ?_)
 ·simp only [decide_eq_true_eq] at hc36
  refine .skip ?_
  show Ev _ _ _ _ _
  refine .block ?_
  refine .seq ?_
  refine .region ?_
  have hpos : 0 < q.q.count 44 := by have := q.c; omega
  obtain ⟨m, h1, h2, h3, h4⟩ := splitC_idx q.q hpos
  have hql := q.l
  have hqc := q.c
  refine .q (op_move rfl) trivial rfl ?_
  refine .q (op_move rfl) trivial rfl ?_
  refine .q (op_call (U := []) [] [] (index_ev q.q 44) Tryz.func81 (by kernel_rfl) rfl rfl rfl (⟨⟨_, rfl, rfl, rfl⟩, ⟨_, rfl, rfl, rfl⟩, trivial⟩) (trivial) (trivial) (trivial) rfl) trivial rfl ?_
  refine .as (.i64 ((m : Nat) : Int)) (congrArg AV.i64 h1) ?_
  refine .q (op_assign rfl) trivial rfl ?_
  refine .nil ?_
  show Ev _ _ _ _ _
  refine .seq ?_
  refine .seq ?_
  refine .region ?_
  refine .q (op_move rfl) trivial rfl ?_
  refine .q (op_cmpI rfl rfl rfl) trivial rfl ?_
  refine .nil ?_
  show Ev _ _ _ _ _
  refine .cond_false rfl (decide_eq_false (by omega)) ?_
  refine .skip ?_
  show Ev _ _ _ _ _
  refine .seq ?_
  refine .region ?_
  refine .q (op_move rfl) trivial rfl ?_
  refine .q (op_move rfl) trivial rfl ?_
  refine .q (op_move rfl) trivial rfl ?_
  refine .q (op_move rfl) trivial rfl ?_
  refine .q (op_move rfl) trivial rfl ?_
  refine .q (op_addI rfl rfl ⟨by omega, by omega⟩) trivial rfl ?_
  refine .as (.i64 ((m : Nat) : Int)) (congrArg AV.i64 (by omega)) ?_
  refine .q (ap_slice_str_hi Tryz.underlying9 rfl (bnd_some rfl rfl) (by omega)) trivial rfl ?_
  refine .q (ap_idx0 Tryz.underlying36 inf9.sz rfl rfl rfl (by omega)) trivial rfl ?_
  refine .w (op_store inf9.sz rfl rfl rfl rfl rfl (by show _ < q.cells.length; unfold SpI.cells; simp; omega)) trivial rfl ?_
  refine .nil ?_
  show Ev _ _ _ _ _
  refine .seq ?_
  refine .region ?_
  refine .q (op_move rfl) trivial rfl ?_
  refine .q (op_move rfl) trivial rfl ?_
  refine .q (op_move rfl) trivial rfl ?_
  refine .q (op_len_str Tryz.underlying9 rfl) trivial rfl ?_
  refine .as (.i64 1) rfl ?_
  refine .q (op_addI rfl rfl ⟨by omega, by omega⟩) trivial rfl ?_
  refine .as (.i64 ((m + 1 : Nat) : Int)) rfl ?_
  refine .q (ap_slice_str_lo Tryz.underlying9 rfl (bnd_some rfl rfl) (by omega)) trivial rfl ?_
  refine .q (op_assign rfl) trivial rfl ?_
  refine .nil ?_
  show Ev _ _ _ _ _
  refine .region ?_
  refine .q (op_move rfl) trivial rfl ?_
  refine .q (op_addI rfl rfl ⟨by omega, by omega⟩) trivial rfl ?_
  refine .q (op_assign rfl) trivial rfl ?_
  refine .nil ?_
  exact ⟨q.next m h3 h4, by (try dsimp only); show (q.q.drop (m + 1)).count 44 < q.q.count 44; omega, StLe.mk [(1000, 1000)] rfl rfl ⟨⟨_, rfl, by rfl, rfl⟩, ⟨_, rfl, by rfl, rfl⟩, ⟨_, rfl, by rfl, rfl⟩, ⟨_, rfl, by rfl, rfl⟩, ⟨_, rfl, by rfl, rfl⟩, ⟨_, rfl, by (show AV.i64 _ = AV.i64 _; simp [SpI.next]), rfl⟩, trivial⟩ ⟨⟨_, _, rfl, rfl, by (show AV.aggS _ = AV.aggS _; rw [SpI.set _ _ (by omega)]; simp [SpI.next, SpI.cells]), rfl, id, rfl⟩, trivial⟩⟩
 ·simp only [decide_eq_false_iff_not] at hc36
  refine .exit ?_
  show Ev _ _ _ _ _
  refine .seq ?_
  refine .region ?_
  have hqc := q.c
  have hz : q.q.count 44 = 0 := by omega
  refine .q (op_move rfl) trivial rfl ?_
  refine .q (op_move rfl) trivial rfl ?_
  refine .q (op_move rfl) trivial rfl ?_
  refine .q (ap_idx0 Tryz.underlying36 inf9.sz rfl rfl rfl (by omega)) trivial rfl ?_
  refine .w (op_store inf9.sz rfl rfl rfl rfl rfl (by show _ < q.cells.length; unfold SpI.cells; simp; omega)) trivial rfl ?_
  refine .nil ?_
  show Ev _ _ _ _ _
  refine .seq ?_
  refine .region ?_
  refine .q (op_move rfl) trivial rfl ?_
  refine .q (op_move rfl) trivial rfl ?_
  refine .q (op_addI rfl rfl ⟨by omega, by omega⟩) trivial rfl ?_
  refine .as (.i64 ((s.count 44 + 1 : Nat) : Int)) (congrArg AV.i64 (by omega)) ?_
  refine .q (ap_slice_sl_hi Tryz.underlying36 inf9.sz rfl (bnd_some rfl rfl) (by omega)) trivial rfl ?_
  refine .q (op_assign rfl) trivial rfl ?_
  refine .nil ?_
  show Ev _ _ _ _ _
  refine .ret ?_
  show RetOk _ _ _ _ _ _ _
  exact ret1v rfl (.inl rfl) rfl (congrArg (fun n => AV.sl 1000 0 n 1) (splitC_len s).symm) ⟨congrArg (fun l => some (ABlk.mk (AV.aggS l) 9 true)) (SpI.fin q hz), trivial⟩
end Go.Proofs.YtaelhapmikijnaaGreatDoor
namespace Go.Proofs.YtaelhapmikijnaaGreatDoor
open Go.RowKit
theorem splitC_mem : ∀ (s x : List UInt8), x ∈ splitC s → x.length ≤ s.length
  | [], x, h => by simp [splitC] at h; subst h; simp
  | c :: s, x, h => by
    by_cases hc : c = 44
    · subst hc
      simp only [splitC, if_true, List.mem_cons] at h
      rcases h with rfl | h
      · simp
      · have := splitC_mem s x h; simp only [List.length_cons]; omega
    · obtain ⟨y, l, h1, h2⟩ := splitC_cons_ne (s := s) hc
      rw [h2] at h
      rcases List.mem_cons.1 h with rfl | h
      · have := splitC_mem s y (by rw [h1]; simp); simp only [List.length_cons]; omega
      · have := splitC_mem s x (by rw [h1]; simp [h]); simp only [List.length_cons]; omega
theorem splitC_get (s : List UInt8) (j : Nat) : ((splitC s).getD j []).length ≤ s.length := by
  rcases Nat.lt_or_ge j (splitC s).length with h | h
  · rw [show (splitC s).getD j [] = (splitC s)[j] by simp [List.getD_eq_getElem?_getD, h]]
    exact splitC_mem _ _ (List.getElem_mem h)
  · rw [List.getD_eq_getElem?_getD, List.getElem?_eq_none h]; simp
theorem all_get {l : List (List UInt8)} (h : l.all nameOk = true) {j : Nat} (hj : j < l.length) : nameOk (l.getD j []) = true := by
  rw [show l.getD j [] = l[j] by simp [List.getD_eq_getElem?_getD, hj]]
  exact List.all_eq_true.1 h _ (List.getElem_mem hj)
theorem not_all {l : List (List UInt8)} (h : ¬ l.all nameOk = true) : ∃ b, b < l.length ∧ nameOk (l.getD b []) = false := by
  have h1 : l.all nameOk = false := by simpa using h
  rw [List.all_eq_false] at h1
  obtain ⟨x, hx, hn⟩ := h1
  obtain ⟨b, hb, rfl⟩ := List.mem_iff_getElem.1 hx
  exact ⟨b, hb, by rw [show l.getD b [] = l[b] by simp [List.getD_eq_getElem?_getD, hb]]; simpa using hn⟩
set_option maxRecDepth 100000 in
theorem split_ev (s : List UInt8) (hs : s.length ≤ 100000000) : Meets Tryz.prog 68 [.str s, .str [44]] [] (.sl 1000 0 (splitC s).length 1) [(1000, some ⟨.aggS (splitC s), 9, true⟩)] := by
 refine meets_of_ev (nt := 8) Tryz.func68 rfl rfl (Nat.le_of_ble_eq_true rfl) ?_
 refine .seq ?_
 refine .region ?_
 refine .q (op_assign rfl) trivial rfl ?_
 refine .nil ?_
 show Ev _ _ _ _ _
 refine .seq ?_
 refine .region ?_
 refine .q (op_move rfl) trivial rfl ?_
 refine .q (op_move rfl) trivial rfl ?_
 refine .a (op_call (U := [(1000, some ⟨.aggS (splitC s), 9, true⟩)]) [] [(1000, 1000)] (gensplit_ev s hs) Tryz.func77 (by kernel_rfl) rfl rfl rfl (⟨⟨_, rfl, rfl, rfl⟩, ⟨_, rfl, rfl, rfl⟩, ⟨_, rfl, rfl, rfl⟩, ⟨_, rfl, rfl, rfl⟩, trivial⟩) (trivial) (⟨⟨1000, _, rfl, rfl, rfl, rfl, .inl rfl⟩, trivial⟩) (trivial) rfl) trivial rfl ?_
 refine .q (op_assign rfl) trivial rfl ?_
 refine .nil ?_
 show Ev _ _ _ _ _
 refine .ret ?_
 show RetOk _ _ _ _ _ _ _
 exact ret1v rfl (.inl rfl) rfl rfl ⟨rfl, trivial⟩
set_option maxRecDepth 100000 in
theorem names_nil (i : DI) (hr : i.r.length ≤ 90000000) (h0 : (textD i 4096).2 = []) (eo : Nat → Nat × Nat) : Meets Tryz.prog 49 [.ptr 500 0] [(500, some ⟨.agg [.str (i).r, .err 165 ((i).e) (offE eo ((i).e))], 107, true⟩), (3, some ⟨.agg [.err 165 (2) (offE eo (2))], errT, false⟩), (5, some ⟨.agg [.err 165 (4) (offE eo (4))], errT, false⟩), (4, some ⟨.agg [.err 165 (3) (offE eo (3))], errT, false⟩)] .nilsl [(500, some ⟨.agg [.str ((textD i 4096).1).r, .err 165 (((textD i 4096).1).e) (offE eo (((textD i 4096).1).e))], 107, true⟩)] := by
 have hl := (textD_len_le i 4096).1
 have hn : (splitC (textD i 4096).2).length ≤ 90000001 := by
  rw [splitC_len]; have := List.count_le_length (a := (44 : UInt8)) (l := (textD i 4096).2); omega
 refine meets_of_ev (nt := 27) Tryz.func49 rfl rfl (Nat.le_of_ble_eq_true rfl) ?_
 refine .seq ?_
 refine .region ?_
 refine .q (op_assign rfl) trivial rfl ?_
 refine .nil ?_
 show Ev _ _ _ _ _
 refine .seq ?_
 refine .region ?_
 refine .q (op_move rfl) trivial rfl ?_
 refine .a (op_call (U := [(500, some ⟨.agg [.str ((textD i 4096).1).r, .err 165 (((textD i 4096).1).e) (offE eo (((textD i 4096).1).e))], 107, true⟩)]) [(500, 500)] [] (itext_ev i 4096 eo) Tryz.func36 (by kernel_rfl) rfl rfl rfl (⟨⟨_, rfl, rfl, rfl⟩, ⟨_, rfl, rfl, rfl⟩, trivial⟩) (⟨⟨_, _, rfl, rfl, rfl, rfl, id, rfl⟩, ⟨_, _, rfl, rfl, rfl, rfl, (fun h => by cases h), rfl⟩, ⟨_, _, rfl, rfl, rfl, rfl, (fun h => by cases h), rfl⟩, trivial⟩) (⟨⟨500, _, rfl, rfl, rfl, rfl, .inr ⟨rfl, _, rfl, rfl⟩⟩, trivial⟩) (⟨(fun _ => ⟨500, _, rfl, rfl⟩), (fun h => by cases h), (fun h => by cases h), trivial⟩) rfl) trivial rfl ?_
 refine .q (op_assign rfl) trivial rfl ?_
 refine .nil ?_
 show Ev _ _ _ _ _
 refine .seq ?_
 refine .seq ?_
 refine .region ?_
 refine .q (op_move rfl) trivial rfl ?_
 refine .q (op_eqS rfl rfl rfl) trivial rfl ?_
 refine .nil ?_
 show Ev _ _ _ _ _
 refine .cond_true rfl (by rw [h0]; rfl) ?_
 refine .seq ?_
 refine .region ?_
 refine .q (op_assign rfl) trivial rfl ?_
 refine .nil ?_
 show Ev _ _ _ _ _
 refine .ret ?_
 show RetOk _ _ _ _ _ _ _
 exact ret1v rfl (.inl rfl) rfl rfl ⟨rfl, trivial⟩
set_option maxRecDepth 100000 in
theorem names_ok (i : DI) (hr : i.r.length ≤ 90000000) (h0 : ¬ (textD i 4096).2 = []) (h : (splitC (textD i 4096).2).all nameOk = true) (eo : Nat → Nat × Nat) : Meets Tryz.prog 49 [.ptr 500 0] [(500, some ⟨.agg [.str (i).r, .err 165 ((i).e) (offE eo ((i).e))], 107, true⟩), (3, some ⟨.agg [.err 165 (2) (offE eo (2))], errT, false⟩), (5, some ⟨.agg [.err 165 (4) (offE eo (4))], errT, false⟩), (4, some ⟨.agg [.err 165 (3) (offE eo (3))], errT, false⟩)] (.sl 1008 0 (splitC (textD i 4096).2).length 1) [(500, some ⟨.agg [.str ((textD i 4096).1).r, .err 165 (((textD i 4096).1).e) (offE eo (((textD i 4096).1).e))], 107, true⟩), (1008, some ⟨.aggS (splitC (textD i 4096).2), 9, true⟩)] := by
 have hl := (textD_len_le i 4096).1
 have hn : (splitC (textD i 4096).2).length ≤ 90000001 := by
  rw [splitC_len]; have := List.count_le_length (a := (44 : UInt8)) (l := (textD i 4096).2); omega
 refine meets_of_ev (nt := 27) Tryz.func49 rfl rfl (Nat.le_of_ble_eq_true rfl) ?_
 refine .seq ?_
 refine .region ?_
 refine .q (op_assign rfl) trivial rfl ?_
 refine .nil ?_
 show Ev _ _ _ _ _
 refine .seq ?_
 refine .region ?_
 refine .q (op_move rfl) trivial rfl ?_
 refine .a (op_call (U := [(500, some ⟨.agg [.str ((textD i 4096).1).r, .err 165 (((textD i 4096).1).e) (offE eo (((textD i 4096).1).e))], 107, true⟩)]) [(500, 500)] [] (itext_ev i 4096 eo) Tryz.func36 (by kernel_rfl) rfl rfl rfl (⟨⟨_, rfl, rfl, rfl⟩, ⟨_, rfl, rfl, rfl⟩, trivial⟩) (⟨⟨_, _, rfl, rfl, rfl, rfl, id, rfl⟩, ⟨_, _, rfl, rfl, rfl, rfl, (fun h => by cases h), rfl⟩, ⟨_, _, rfl, rfl, rfl, rfl, (fun h => by cases h), rfl⟩, trivial⟩) (⟨⟨500, _, rfl, rfl, rfl, rfl, .inr ⟨rfl, _, rfl, rfl⟩⟩, trivial⟩) (⟨(fun _ => ⟨500, _, rfl, rfl⟩), (fun h => by cases h), (fun h => by cases h), trivial⟩) rfl) trivial rfl ?_
 refine .q (op_assign rfl) trivial rfl ?_
 refine .nil ?_
 show Ev _ _ _ _ _
 refine .seq ?_
 refine .seq ?_
 refine .region ?_
 refine .q (op_move rfl) trivial rfl ?_
 refine .q (op_eqS rfl rfl rfl) trivial rfl ?_
 refine .nil ?_
 show Ev _ _ _ _ _
 refine .cond_false rfl (beq_eq_false_iff_ne.2 h0) ?_
 refine .skip ?_
 show Ev _ _ _ _ _
 refine .seq ?_
 refine .region ?_
 refine .q (op_move rfl) trivial rfl ?_
 refine .a (op_call (U := [(1008, some ⟨.aggS (splitC (textD i 4096).2), 9, true⟩)]) [] [(1008, 1000)] (split_ev (textD i 4096).2 (by omega)) Tryz.func68 (by kernel_rfl) rfl rfl rfl (⟨⟨_, rfl, rfl, rfl⟩, ⟨_, rfl, rfl, rfl⟩, trivial⟩) (trivial) (⟨⟨1000, _, rfl, rfl, rfl, rfl, .inl rfl⟩, trivial⟩) (trivial) rfl) trivial rfl ?_
 refine .q (op_assign rfl) trivial rfl ?_
 refine .nil ?_
 show Ev _ _ _ _ _
 refine .seq ?_
 refine .seq ?_
 refine .region ?_
 refine .q (op_move rfl) trivial rfl ?_
 refine .q (op_len_sl Tryz.underlying36 rfl) trivial rfl ?_
 refine .q (op_move rfl) trivial rfl ?_
 refine .nil ?_
 show Ev _ _ _ _ _
 refine .block ?_
 refine Ev.loop (ι := { j : Nat // j ≤ (splitC (textD i 4096).2).length }) (fun q => ⟨[(0, .ptr 500 0), (4, .sl 1008 0 (splitC (textD i 4096).2).length 1), (13, .sl 1008 0 (splitC (textD i 4096).2).length 1), (14, .i64 ((splitC (textD i 4096).2).length : Int)), (15, .i64 (q.1 : Int))], [(500, some ⟨.agg [.str ((textD i 4096).1).r, .err 165 (((textD i 4096).1).e) (offE eo (((textD i 4096).1).e))], 107, true⟩), (1008, some ⟨.aggS (splitC (textD i 4096).2), 9, true⟩), (4, some ⟨.agg [.err 165 (3) (offE eo (3))], errT, false⟩)], 1016⟩) (fun q => (splitC (textD i 4096).2).length - q.1) ⟨0, Nat.zero_le _⟩ (StLe.mk [(1008, 1008)] rfl rfl ⟨⟨_, rfl, by first | rfl | (simp only [AV.ren]; congr 1; omega), rfl⟩, ⟨_, rfl, by first | rfl | (simp only [AV.ren]; congr 1; omega), rfl⟩, ⟨_, rfl, by first | rfl | (simp only [AV.ren]; congr 1; omega), rfl⟩, ⟨_, rfl, by first | rfl | (simp only [AV.ren]; congr 1; omega), rfl⟩, ⟨_, rfl, by first | rfl | (simp only [AV.ren]; congr 1; omega), rfl⟩, trivial⟩ ⟨⟨_, _, rfl, rfl, rfl, rfl, id, rfl⟩, ⟨_, _, rfl, rfl, rfl, rfl, id, rfl⟩, ⟨_, _, rfl, rfl, rfl, rfl, id, rfl⟩, trivial⟩) ?_
 rintro ⟨j, hj⟩
 try dsimp only
 refine .seq ?_
 refine .region ?_
 refine .q (op_cmpI rfl rfl rfl) trivial rfl ?_
 refine .nil ?_
 show Ev _ _ _ _ _
 refine .seq ?_
 refine .cond rfl (fun hc16 => ?_) (fun hc16 => ?_)
 ·simp only [decide_eq_true_eq] at hc16
  refine .skip ?_
  show Ev _ _ _ _ _
  refine .seq ?_
  refine .block ?_
  refine .seq ?_
  refine .region ?_
  refine .q (ap_idx0 Tryz.underlying36 inf9.sz rfl rfl rfl (by omega)) trivial rfl ?_
  refine .q (op_load Tryz.underlying9 rfl rfl rfl rfl (by show j < (splitC (textD i 4096).2).length; omega)) trivial rfl ?_
  refine .q (op_assign rfl) trivial rfl ?_
  refine .nil ?_
  show Ev _ _ _ _ _
  refine .seq ?_
  refine .region ?_
  refine .q (op_move rfl) trivial rfl ?_
  refine .q (op_call (U := []) [] [] (wname_ev ((splitC (textD i 4096).2).getD j []) (by have := splitC_get (textD i 4096).2 j; omega)) Tryz.func69 (by kernel_rfl) rfl rfl rfl (⟨⟨_, rfl, rfl, rfl⟩, trivial⟩) (trivial) (trivial) (trivial) rfl) trivial rfl ?_
  refine .q (op_notB rfl) trivial rfl ?_
  refine .nil ?_
  show Ev _ _ _ _ _
  refine .cond_false rfl (by rw [all_get h (show j < _ by omega)]; rfl) ?_
  refine .skip ?_
  show Ev _ _ _ _ _
  refine .region ?_
  refine .q (op_addI rfl rfl ⟨by omega, by omega⟩) trivial rfl ?_
  refine .q (op_move rfl) trivial rfl ?_
  refine .nil ?_
  exact ⟨⟨j + 1, by omega⟩, by (try dsimp only); omega, StLe.mk [(1008, 1008)] rfl rfl ⟨⟨_, rfl, by first | rfl | (simp only [AV.ren]; congr 1; omega), rfl⟩, ⟨_, rfl, by first | rfl | (simp only [AV.ren]; congr 1; omega), rfl⟩, ⟨_, rfl, by first | rfl | (simp only [AV.ren]; congr 1; omega), rfl⟩, ⟨_, rfl, by first | rfl | (simp only [AV.ren]; congr 1; omega), rfl⟩, ⟨_, rfl, by first | rfl | (simp only [AV.ren]; congr 1; omega), rfl⟩, trivial⟩ ⟨⟨_, _, rfl, rfl, rfl, rfl, id, rfl⟩, ⟨_, _, rfl, rfl, rfl, rfl, id, rfl⟩, ⟨_, _, rfl, rfl, rfl, rfl, id, rfl⟩, trivial⟩⟩
 ·simp only [decide_eq_false_iff_not] at hc16
  refine .exit ?_
  show Ev _ _ _ _ _
  refine .seq ?_
  refine .region ?_
  refine .q (op_move rfl) trivial rfl ?_
  refine .q (op_assign rfl) trivial rfl ?_
  refine .nil ?_
  show Ev _ _ _ _ _
  refine .ret ?_
  show RetOk _ _ _ _ _ _ _
  exact ret1v rfl (.inl rfl) rfl rfl ⟨rfl, rfl, trivial⟩
set_option maxRecDepth 100000 in
theorem names_bad (i : DI) (hr : i.r.length ≤ 90000000) (h0 : ¬ (textD i 4096).2 = []) (b : Nat) (hb : b < (splitC (textD i 4096).2).length) (hbad : nameOk ((splitC (textD i 4096).2).getD b []) = false) (eo : Nat → Nat × Nat) : Meets Tryz.prog 49 [.ptr 500 0] [(500, some ⟨.agg [.str (i).r, .err 165 ((i).e) (offE eo ((i).e))], 107, true⟩), (3, some ⟨.agg [.err 165 (2) (offE eo (2))], errT, false⟩), (5, some ⟨.agg [.err 165 (4) (offE eo (4))], errT, false⟩), (4, some ⟨.agg [.err 165 (3) (offE eo (3))], errT, false⟩)] .nilsl [(500, some ⟨.agg [.str (failD (textD i 4096).1 3).r, .err 165 ((failD (textD i 4096).1 3).e) (offE eo ((failD (textD i 4096).1 3).e))], 107, true⟩)] := by
 have hl := (textD_len_le i 4096).1
 have hn : (splitC (textD i 4096).2).length ≤ 90000001 := by
  rw [splitC_len]; have := List.count_le_length (a := (44 : UInt8)) (l := (textD i 4096).2); omega
 refine meets_of_ev (nt := 27) Tryz.func49 rfl rfl (Nat.le_of_ble_eq_true rfl) ?_
 refine .seq ?_
 refine .region ?_
 refine .q (op_assign rfl) trivial rfl ?_
 refine .nil ?_
 show Ev _ _ _ _ _
 refine .seq ?_
 refine .region ?_
 refine .q (op_move rfl) trivial rfl ?_
 refine .a (op_call (U := [(500, some ⟨.agg [.str ((textD i 4096).1).r, .err 165 (((textD i 4096).1).e) (offE eo (((textD i 4096).1).e))], 107, true⟩)]) [(500, 500)] [] (itext_ev i 4096 eo) Tryz.func36 (by kernel_rfl) rfl rfl rfl (⟨⟨_, rfl, rfl, rfl⟩, ⟨_, rfl, rfl, rfl⟩, trivial⟩) (⟨⟨_, _, rfl, rfl, rfl, rfl, id, rfl⟩, ⟨_, _, rfl, rfl, rfl, rfl, (fun h => by cases h), rfl⟩, ⟨_, _, rfl, rfl, rfl, rfl, (fun h => by cases h), rfl⟩, trivial⟩) (⟨⟨500, _, rfl, rfl, rfl, rfl, .inr ⟨rfl, _, rfl, rfl⟩⟩, trivial⟩) (⟨(fun _ => ⟨500, _, rfl, rfl⟩), (fun h => by cases h), (fun h => by cases h), trivial⟩) rfl) trivial rfl ?_
 refine .q (op_assign rfl) trivial rfl ?_
 refine .nil ?_
 show Ev _ _ _ _ _
 refine .seq ?_
 refine .seq ?_
 refine .region ?_
 refine .q (op_move rfl) trivial rfl ?_
 refine .q (op_eqS rfl rfl rfl) trivial rfl ?_
 refine .nil ?_
 show Ev _ _ _ _ _
 refine .cond_false rfl (beq_eq_false_iff_ne.2 h0) ?_
 refine .skip ?_
 show Ev _ _ _ _ _
 refine .seq ?_
 refine .region ?_
 refine .q (op_move rfl) trivial rfl ?_
 refine .a (op_call (U := [(1008, some ⟨.aggS (splitC (textD i 4096).2), 9, true⟩)]) [] [(1008, 1000)] (split_ev (textD i 4096).2 (by omega)) Tryz.func68 (by kernel_rfl) rfl rfl rfl (⟨⟨_, rfl, rfl, rfl⟩, ⟨_, rfl, rfl, rfl⟩, trivial⟩) (trivial) (⟨⟨1000, _, rfl, rfl, rfl, rfl, .inl rfl⟩, trivial⟩) (trivial) rfl) trivial rfl ?_
 refine .q (op_assign rfl) trivial rfl ?_
 refine .nil ?_
 show Ev _ _ _ _ _
 refine .seq ?_
 refine .seq ?_
 refine .region ?_
 refine .q (op_move rfl) trivial rfl ?_
 refine .q (op_len_sl Tryz.underlying36 rfl) trivial rfl ?_
 refine .q (op_move rfl) trivial rfl ?_
 refine .nil ?_
 show Ev _ _ _ _ _
 refine .block ?_
 refine Ev.loop (ι := { j : Nat // j ≤ b }) (fun q => ⟨[(0, .ptr 500 0), (4, .sl 1008 0 (splitC (textD i 4096).2).length 1), (13, .sl 1008 0 (splitC (textD i 4096).2).length 1), (14, .i64 ((splitC (textD i 4096).2).length : Int)), (15, .i64 (q.1 : Int))], [(500, some ⟨.agg [.str ((textD i 4096).1).r, .err 165 (((textD i 4096).1).e) (offE eo (((textD i 4096).1).e))], 107, true⟩), (1008, some ⟨.aggS (splitC (textD i 4096).2), 9, true⟩), (4, some ⟨.agg [.err 165 (3) (offE eo (3))], errT, false⟩)], 1016⟩) (fun q => b - q.1) ⟨0, Nat.zero_le _⟩ (StLe.mk [(1008, 1008)] rfl rfl ⟨⟨_, rfl, by first | rfl | (simp only [AV.ren]; congr 1; omega), rfl⟩, ⟨_, rfl, by first | rfl | (simp only [AV.ren]; congr 1; omega), rfl⟩, ⟨_, rfl, by first | rfl | (simp only [AV.ren]; congr 1; omega), rfl⟩, ⟨_, rfl, by first | rfl | (simp only [AV.ren]; congr 1; omega), rfl⟩, ⟨_, rfl, by first | rfl | (simp only [AV.ren]; congr 1; omega), rfl⟩, trivial⟩ ⟨⟨_, _, rfl, rfl, rfl, rfl, id, rfl⟩, ⟨_, _, rfl, rfl, rfl, rfl, id, rfl⟩, ⟨_, _, rfl, rfl, rfl, rfl, id, rfl⟩, trivial⟩) ?_
 rintro ⟨j, hj⟩
 try dsimp only
 refine .seq ?_
 refine .region ?_
 refine .q (op_cmpI rfl rfl rfl) trivial rfl ?_
 refine .nil ?_
 show Ev _ _ _ _ _
 refine .seq ?_
 refine .cond_true rfl (decide_eq_true (by omega)) ?_
 refine .skip ?_
 show Ev _ _ _ _ _
 refine .seq ?_
 refine .block ?_
 refine .seq ?_
 refine .region ?_
 refine .q (ap_idx0 Tryz.underlying36 inf9.sz rfl rfl rfl (by omega)) trivial rfl ?_
 refine .q (op_load Tryz.underlying9 rfl rfl rfl rfl (by show j < (splitC (textD i 4096).2).length; omega)) trivial rfl ?_
 refine .q (op_assign rfl) trivial rfl ?_
 refine .nil ?_
 show Ev _ _ _ _ _
 refine .seq ?_
 refine .region ?_
 refine .q (op_move rfl) trivial rfl ?_
 refine .q (op_call (U := []) [] [] (wname_ev ((splitC (textD i 4096).2).getD j []) (by have := splitC_get (textD i 4096).2 j; omega)) Tryz.func69 (by kernel_rfl) rfl rfl rfl (⟨⟨_, rfl, rfl, rfl⟩, trivial⟩) (trivial) (trivial) (trivial) rfl) trivial rfl ?_
 refine .q (op_notB rfl) trivial rfl ?_
 refine .nil ?_
 show Ev _ _ _ _ _
 refine .cond rfl (fun hc21 => ?_) (fun hc21 => ?_)
 ·skip
  refine .seq ?_
  refine .region ?_
  refine .q (op_move rfl) trivial rfl ?_
  refine .q (op_load Tryz.underlying30 rfl rfl rfl rfl (by first | omega | (simp only [AV.len]; omega) | (simp only [AV.len]; omega) | assumption | (simp [AV.len]; done))) trivial rfl ?_
  refine .a (op_call (U := [(500, some ⟨.agg [.str (failD (textD i 4096).1 3).r, .err 165 ((failD (textD i 4096).1 3).e) (offE eo ((failD (textD i 4096).1 3).e))], 107, true⟩)]) [(500, 500)] [] (fail_ev (textD i 4096).1 3 eo) Tryz.func52 (by kernel_rfl) rfl rfl rfl (⟨⟨_, rfl, rfl, rfl⟩, ⟨_, rfl, rfl, rfl⟩, trivial⟩) (⟨⟨_, _, rfl, rfl, rfl, rfl, id, rfl⟩, trivial⟩) (⟨⟨500, _, rfl, rfl, rfl, rfl, .inr ⟨rfl, _, rfl, rfl⟩⟩, trivial⟩) (⟨(fun _ => ⟨500, _, rfl, rfl⟩), trivial⟩) rfl) trivial rfl ?_
  refine .nil ?_
  show Ev _ _ _ _ _
  refine .seq ?_
  refine .region ?_
  refine .q (op_assign rfl) trivial rfl ?_
  refine .nil ?_
  show Ev _ _ _ _ _
  refine .ret ?_
  show RetOk _ _ _ _ _ _ _
  exact ret1v rfl (.inl rfl) rfl rfl ⟨rfl, trivial⟩
 ·skip
  refine .skip ?_
  show Ev _ _ _ _ _
  refine .region ?_
  refine .q (op_addI rfl rfl ⟨by omega, by omega⟩) trivial rfl ?_
  refine .q (op_move rfl) trivial rfl ?_
  refine .nil ?_
  exact ⟨⟨j + 1, (by have : j ≠ b := fun e => (by subst e; rw [hbad] at hc21; cases hc21); omega)⟩, by (try dsimp only); first | omega | (have : j ≠ b := fun e => (by subst e; rw [hbad] at hc21; cases hc21); omega), StLe.mk [(1008, 1008)] rfl rfl ⟨⟨_, rfl, by first | rfl | (simp only [AV.ren]; congr 1; omega), rfl⟩, ⟨_, rfl, by first | rfl | (simp only [AV.ren]; congr 1; omega), rfl⟩, ⟨_, rfl, by first | rfl | (simp only [AV.ren]; congr 1; omega), rfl⟩, ⟨_, rfl, by first | rfl | (simp only [AV.ren]; congr 1; omega), rfl⟩, ⟨_, rfl, by first | rfl | (simp only [AV.ren]; congr 1; omega), rfl⟩, trivial⟩ ⟨⟨_, _, rfl, rfl, rfl, rfl, id, rfl⟩, ⟨_, _, rfl, rfl, rfl, rfl, id, rfl⟩, ⟨_, _, rfl, rfl, rfl, rfl, id, rfl⟩, trivial⟩⟩
end Go.Proofs.YtaelhapmikijnaaGreatDoor
namespace Go.Proofs.YtaelhapmikijnaaGreatDoor
open Go.RowKit
/-- So many bytes are read: the names that are whole, and the beginning of the next one. -/
structure RnI (s : List UInt8) where
  k : Nat
  d : List (List UInt8)
  w : List UInt8
  hk : k ≤ s.length + 1
  h1 : k ≤ s.length → splitC s = d ++ joinW w (splitC (s.drop k))
  h2 : k = s.length + 1 → d = splitC s
  hw : w.length ≤ k
theorem RnI.len {s : List UInt8} (q : RnI s) (h : q.k ≤ s.length) : q.d.length < (splitC s).length := by
  rw [q.h1 h, List.length_append]
  cases splitC (s.drop q.k) with
  | nil => simp [joinW]
  | cons x l => simp [joinW]
theorem RnI.at {s : List UInt8} (q : RnI s) (h : q.k ≤ s.length) (he : q.k = s.length ∨ s.getD q.k 0 = 44) : (splitC s).getD q.d.length [] = q.w ∧ ∃ l, splitC s = q.d ++ q.w :: l ∧ (q.k < s.length → l = splitC (s.drop (q.k + 1))) ∧ (q.k = s.length → l = []) := by
  have hj : ∃ l, joinW q.w (splitC (s.drop q.k)) = q.w :: l ∧ (q.k < s.length → l = splitC (s.drop (q.k + 1))) ∧ (q.k = s.length → l = []) := by
    rcases Nat.lt_or_ge q.k s.length with hl | hl
    · have h44 : s.getD q.k 0 = 44 := he.resolve_left (by omega)
      rw [drop_cons hl, h44, joinW_comma]
      exact ⟨_, rfl, fun _ => rfl, fun e => absurd e (by omega)⟩
    · rw [List.drop_of_length_le hl]
      exact ⟨[], by simp [splitC, joinW], fun e => absurd e (by omega), fun _ => rfl⟩
  obtain ⟨l, hj, hl1, hl2⟩ := hj
  have h0 := q.h1 h
  rw [hj] at h0
  exact ⟨by rw [h0]; simp [List.getD_eq_getElem?_getD], l, h0, hl1, hl2⟩
def RnI.more {s : List UInt8} (q : RnI s) (h : q.k < s.length) (hc : ¬ s.getD q.k 0 = 44) : RnI s :=
  ⟨q.k + 1, q.d, q.w ++ [s.getD q.k 0], by omega, fun _ => by rw [q.h1 (by omega), drop_cons h, joinW_step hc], fun e => absurd e (by omega), by have := q.hw; simp; omega⟩
def RnI.name {s : List UInt8} (q : RnI s) (h : q.k ≤ s.length) (he : q.k = s.length ∨ s.getD q.k 0 = 44) : RnI s :=
  ⟨q.k + 1, q.d ++ [q.w], [], by omega, fun hk => by
    obtain ⟨_, l, h1, h2, _⟩ := q.at h he
    rw [h1, h2 (by omega), joinW_nil]; simp, fun hk => by
    obtain ⟨_, l, h1, _, h3⟩ := q.at h he
    rw [h1, h3 (by omega)], by simp⟩
end Go.Proofs.YtaelhapmikijnaaGreatDoor
namespace Go.Proofs.YtaelhapmikijnaaGreatDoor
open Go.RowKit
def dvB (x : UInt64) : Nat → UInt64
  | 0 => x
  | k + 1 => dvB x k / 256
/-- The last k bytes of a number. -/
def tlB (x : UInt64) : Nat → List UInt8
  | 0 => []
  | k + 1 => (dvB x k % 256).toUInt8 :: tlB x k
theorem length_tlB (x : UInt64) (k : Nat) : (tlB x k).length = k := by induction k with | zero => rfl | succ k ih => simp [tlB, ih]
set_option maxRecDepth 100000 in
theorem rnumB_ev (x : UInt64) (n : Nat) (hn : n ≤ 1000000) : Meets Tryz.prog 37 [.u64 x, .i64 (n : Int)] [] (.str (tlB x n)) [] := by
 refine meets_of_ev (nt := 23) Tryz.func37 rfl rfl (Nat.le_of_ble_eq_true rfl) ?_
 refine .seq ?_
 refine .region ?_
 refine .q (op_assign rfl) trivial rfl ?_
 refine .nil ?_
 show Ev _ _ _ _ _
 refine .seq ?_
 refine .region ?_
 refine .a (ap_build0 (z := 1) (c := .aggB []) Tryz.underlying26 inf5 rfl) trivial rfl ?_
 refine .q (op_assign rfl) trivial rfl ?_
 refine .nil ?_
 show Ev _ _ _ _ _
 refine .seq ?_
 refine .seq ?_
 refine .region ?_
 refine .q (op_assign rfl) trivial rfl ?_
 refine .nil ?_
 show Ev _ _ _ _ _
 refine .block ?_
 refine Ev.loop (ι := { k : Nat // k ≤ n }) (fun q => ⟨[(0, .u64 (dvB x q.1)), (1, .i64 (n : Int)), (5, .sl 1000 0 q.1 1), (6, .i64 ((q.1 : Nat) : Int))], [(1000, some ⟨.aggB (tlB x q.1), 5, true⟩)], 1008⟩) (fun q => n - q.1) ⟨0, Nat.zero_le _⟩ (StLe.mk [(1000, 1000)] rfl rfl ⟨⟨_, rfl, by first | rfl | (simp only [AV.ren]; congr 1; omega), rfl⟩, ⟨_, rfl, by first | rfl | (simp only [AV.ren]; congr 1; omega), rfl⟩, ⟨_, rfl, by first | rfl | (simp only [AV.ren]; congr 1; omega), rfl⟩, ⟨_, rfl, by first | rfl | (simp only [AV.ren]; congr 1; omega), rfl⟩, trivial⟩ ⟨⟨_, _, rfl, rfl, rfl, rfl, id, rfl⟩, trivial⟩) ?_
 rintro ⟨k, hk⟩
 try dsimp only
 have hl := length_tlB x k
 refine .seq ?_
 refine .seq ?_
 refine .region ?_
 refine .q (op_move rfl) trivial rfl ?_
 refine .q (op_move rfl) trivial rfl ?_
 refine .q (op_cmpI rfl rfl rfl) trivial rfl ?_
 refine .nil ?_
 show Ev _ _ _ _ _
 refine .cond rfl (fun hc10 => ?_) (fun hc10 => ?_)
 ·simp only [decide_eq_true_eq] at hc10
  refine .skip ?_
  show Ev _ _ _ _ _
  refine .seq ?_
  refine .block ?_
  refine .seq ?_
  refine .region ?_
  refine .q (op_move rfl) trivial rfl ?_
  refine .q (op_rem64 rfl rfl (by decide)) trivial rfl ?_
  refine .q (op_conv Tryz.underlying89 Tryz.underlying5 rfl rfl) trivial rfl ?_
  refine .a (ap_build (us := [_]) (c := .aggB [_]) Tryz.underlying26 inf5 rfl (by decide) (by decide) ⟨rfl, rfl, rfl, trivial⟩ rfl) trivial rfl ?_
  refine .q (op_move rfl) trivial rfl ?_
  refine .a (ap_cat Tryz.underlying26 inf5 rfl rfl rfl rfl (by first | rfl | omega | (simp only [AV.len, List.length_cons, List.length_nil, length_tlB]; done) | (simp only [AV.len, List.length_cons, List.length_nil, length_tlB]; omega)) rfl rfl (by first | rfl | omega | (simp only [AV.len, length_tlB]; done) | (simp only [AV.len, List.length_cons, List.length_nil, length_tlB]; omega)) rfl (by first | rfl | omega | (simp only [AV.len, List.length_cons, List.length_nil, length_tlB]; done) | (simp only [AV.len, List.length_cons, List.length_nil, length_tlB]; omega))) trivial rfl ?_
  refine .q (op_assign rfl) trivial rfl ?_
  refine .nil ?_
  show Ev _ _ _ _ _
  refine .region ?_
  refine .q (op_move rfl) trivial rfl ?_
  refine .q (op_quo64 rfl rfl (by decide)) trivial rfl ?_
  refine .q (op_assign rfl) trivial rfl ?_
  refine .nil ?_
  show Ev _ _ _ _ _
  refine .region ?_
  refine .q (op_move rfl) trivial rfl ?_
  refine .q (op_addI rfl rfl ⟨by omega, by omega⟩) trivial rfl ?_
  refine .q (op_assign rfl) trivial rfl ?_
  refine .nil ?_
  exact ⟨⟨k + 1, by omega⟩, by (try dsimp only); omega, StLe.mk [(1000, 1016)] rfl rfl ⟨⟨_, rfl, by rfl, rfl⟩, ⟨_, rfl, by rfl, rfl⟩, ⟨_, rfl, by (exact congrArg (fun z => AV.sl 1000 0 z 1) (by simp only [List.length_cons, List.length_nil, length_tlB]; omega)), rfl⟩, ⟨_, rfl, by rfl, rfl⟩, trivial⟩ ⟨⟨_, _, rfl, rfl, rfl, rfl, id, rfl⟩, trivial⟩⟩
 ·simp only [decide_eq_false_iff_not] at hc10
  refine .exit ?_
  show Ev _ _ _ _ _
  refine .seq ?_
  refine .region ?_
  refine .q (op_move rfl) trivial rfl ?_
  refine .q (op_bytes_str Tryz.underlying26 Tryz.underlying5 Tryz.underlying9 rfl rfl rfl (by rw [length_tlB]; omega)) trivial rfl ?_
  refine .q (op_assign rfl) trivial rfl ?_
  refine .nil ?_
  show Ev _ _ _ _ _
  refine .ret ?_
  show RetOk _ _ _ _ _ _ _
  have e : k = n := by omega
  subst e
  exact ret1v rfl (.inl rfl) rfl (by rw [List.drop_zero, List.take_of_length_le (by rw [length_tlB]; omega)]) trivial
def lenR (s : List UInt8) : List UInt8 := tlB (UInt64.ofInt (s.length : Int)) 4
def textR (s : List UInt8) : List UInt8 := lenR s ++ s
set_option maxRecDepth 100000 in
theorem rtextB_ev (s : List UInt8) (hs : s.length ≤ 1000000) : Meets Tryz.prog 21 [.str s] [] (.str (textR s)) [] := by
 refine meets_of_ev (nt := 9) Tryz.func21 rfl rfl (Nat.le_of_ble_eq_true rfl) ?_
 refine .seq ?_
 refine .region ?_
 refine .q (op_assign rfl) trivial rfl ?_
 refine .nil ?_
 show Ev _ _ _ _ _
 refine .seq ?_
 refine .region ?_
 refine .q (op_move rfl) trivial rfl ?_
 refine .q (op_len_str Tryz.underlying9 rfl) trivial rfl ?_
 refine .q (op_conv Tryz.underlying3 Tryz.underlying89 rfl rfl) trivial rfl ?_
 refine .q (op_call (U := []) [] [] (rnumB_ev _ 4 (by decide)) Tryz.func37 (by kernel_rfl) rfl rfl rfl (⟨⟨_, rfl, rfl, rfl⟩, ⟨_, rfl, rfl, rfl⟩, trivial⟩) (trivial) (trivial) (trivial) rfl) trivial rfl ?_
 refine .q (op_move rfl) trivial rfl ?_
 refine .q (op_addS rfl rfl (by simp only [length_tlB]; omega)) trivial rfl ?_
 refine .q (op_assign rfl) trivial rfl ?_
 refine .nil ?_
 show Ev _ _ _ _ _
 refine .ret ?_
 show RetOk _ _ _ _ _ _ _
 exact ret1v rfl (.inl rfl) rfl rfl trivial
end Go.Proofs.YtaelhapmikijnaaGreatDoor
