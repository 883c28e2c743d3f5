/-
  Texts of this claim.
-/
import Derived.Test.YtgnicenhnchglaaDoorGRJ
import Derived.Test.YtgnicenhnchglaaDoorGRY
import Derived.Test.YtgnicenhnchglaaDoorGRS
import Derived.Test.YtgnicenhnchglaaDoorGRO
namespace Go.Proofs.YtgnicenhnchglaaDoor
open Go.RowKit
theorem get_names {l : List (List (List UInt8))} {k : Nat} (h : k < l.length) : ((l.map AV.dsl).drop (k * 1))[0]? = some (.dsl (l.getD k [])) := by
  rw [List.getElem?_drop, Nat.mul_one, Nat.add_zero, List.getElem?_map, List.getElem?_eq_getElem h]; simp [List.getD, List.getElem?_eq_getElem h]
theorem all_nth {l : List (List UInt8)} (h : l.all nameOk = true) {j : Nat} (hj : j < l.length) : nameOk (l.getD j []) = true := by
  rw [show l.getD j [] = l[j] by simp [List.getD_eq_getElem?_getD, hj]]
  exact List.all_eq_true.1 h _ (List.getElem_mem hj)
theorem name_len {s : List UInt8} (h : nameOk s = true) : s.length ≤ 64 := by
  unfold nameOk at h
  simp only [Bool.and_eq_true, Bool.not_eq_true', decide_eq_false_iff_not] at h
  omega
theorem join_bounds {l : List (List UInt8)} (h : (joinB l).length ≤ 4096) : l.length ≤ 4097 ∧ sumB l ≤ 4096 := by
  rw [joinB_len] at h; omega
set_option maxRecDepth 100000 in
theorem toolong_f (k : Int) (us : List UInt32) (ss : List (List UInt8)) (ns : List (List (List UInt8))) (bs : List Bool) (hnl : ns.length ≤ 1000) (hsl : ss.length ≤ 1000) (hss : ∀ i, (ss.getD i []).length ≤ 32768) (hnj : ∀ i, (joinB (ns.getD i [])).length ≤ 4096) : Meets Tryd.prog 21 [.agg [.i64 k, .fsl (List.map AV.u32 us) (us).length 1, .dsl ss, .fsl (List.map AV.dsl ns) (ns).length 1, .fsl (List.map AV.bool bs) (bs).length 1]] [] (.bool false) [] := by
 refine meets_of_ev (nt := 30) Tryd.func21 rfl rfl (Nat.le_of_ble_eq_true rfl) ?_
 refine .seq ?_
 refine .region ?_
 refine .a (op_boxRow rfl rfl) trivial rfl ?_
 refine .q (op_assign rfl) trivial rfl ?_
 refine .nil ?_
 show Ev _ _ _ _ _
 refine .seq ?_
 refine .seq ?_
 refine .region ?_
 refine .q (op_fieldAddr (m := 0) Tryd.underlying30 rfl (by kernel_rfl) rfl) trivial rfl ?_
 refine .as (.ptr 1000 2) rfl ?_
 refine .q (op_load Tryd.underlying23 rfl rfl rfl rfl (by show 2 < 5; decide)) trivial rfl ?_
 refine .q (op_len_dsl Tryd.underlying23 rfl) trivial rfl ?_
 refine .q (op_move rfl) trivial rfl ?_
 refine .nil ?_
 show Ev _ _ _ _ _
 refine .block ?_
 refine Ev.loop (ι := { i : Nat // i ≤ ss.length }) (fun q => ⟨[(1, .ptr 1000 0), (8, .dsl ss), (9, .i64 ((ss.length : Nat) : Int)), (10, .i64 ((q.1 : Nat) : Int))], [(1000, some ⟨.agg [.i64 k, .fsl (List.map AV.u32 us) (us).length 1, .dsl ss, .fsl (List.map AV.dsl ns) (ns).length 1, .fsl (List.map AV.bool bs) (bs).length 1], 30, true⟩)], 1008⟩) (fun q => ss.length - q.1) ⟨0, Nat.zero_le _⟩ (StLe.mk [(1000, 1000)] rfl rfl ⟨⟨_, rfl, by first | rfl | (simp only [AV.ren]; congr 1; omega), rfl⟩, ⟨_, rfl, by first | rfl | (simp only [AV.ren]; congr 1; omega), rfl⟩, ⟨_, rfl, by first | rfl | (simp only [AV.ren]; congr 1; omega), rfl⟩, ⟨_, rfl, by first | rfl | (simp only [AV.ren]; congr 1; omega), rfl⟩, trivial⟩ ⟨⟨_, _, rfl, rfl, rfl, rfl, id, rfl⟩, trivial⟩) ?_
 rintro ⟨i, hi⟩
 try dsimp only
 refine .seq ?_
 refine .region ?_
 refine .q (op_cmpI rfl rfl rfl) trivial rfl ?_
 refine .nil ?_
 show Ev _ _ _ _ _
 refine .seq ?_
 refine .cond rfl (fun hc11 => ?_) (fun hc11 => ?_)
 ·first | replace hc11 := of_decide_eq_true hc11 | replace hc11 := of_decide_eq_false hc11 | replace hc11 := eq_of_beq hc11 | replace hc11 := ne_of_beq_false hc11 | simp only [bne_iff_ne, ne_eq] at hc11 | simp only [bne_eq_false_iff_eq] at hc11
  refine .skip ?_
  show Ev _ _ _ _ _
  refine .seq ?_
  refine .block ?_
  refine .seq ?_
  refine .region ?_
  refine .q (op_indexAddr_dsl Tryd.underlying23 inf9.sz rfl rfl rfl (by first | omega | (simp only [AV.len]; omega) | (simp only [AV.len, List.length_set]; omega) | assumption | (simp [AV.len]; done))) trivial rfl ?_
  refine .q (op_load_dptr Tryd.underlying9 rfl rfl (drop_get (by omega))) trivial rfl ?_
  refine .q (op_assign rfl) trivial rfl ?_
  refine .nil ?_
  show Ev _ _ _ _ _
  refine .seq ?_
  refine .region ?_
  refine .q (op_move rfl) trivial rfl ?_
  refine .q (op_len_str Tryd.underlying9 rfl) trivial rfl ?_
  refine .q (op_cmpI rfl rfl rfl) trivial rfl ?_
  refine .nil ?_
  show Ev _ _ _ _ _
  refine .cond_false rfl (decide_eq_false (by have := hss i; omega)) ?_
  refine .skip ?_
  show Ev _ _ _ _ _
  refine .region ?_
  refine .q (op_addI rfl rfl ⟨by first | omega | (simp only [AV.len]; omega) | (simp only [AV.len, List.length_set]; omega) | assumption | (simp [AV.len]; done), by first | omega | (simp only [AV.len]; omega) | (simp only [AV.len, List.length_set]; omega) | assumption | (simp [AV.len]; done)⟩) trivial rfl ?_
  refine .q (op_move rfl) trivial rfl ?_
  refine .nil ?_
  exact ⟨⟨i + 1, by omega⟩, by (try dsimp only); omega, StLe.mk [(1000, 1000)] rfl rfl ⟨⟨_, rfl, by first | rfl | (simp only [AV.ren]; congr 1; omega), rfl⟩, ⟨_, rfl, by first | rfl | (simp only [AV.ren]; congr 1; omega), rfl⟩, ⟨_, rfl, by first | rfl | (simp only [AV.ren]; congr 1; omega), rfl⟩, ⟨_, rfl, by first | rfl | (simp only [AV.ren]; congr 1; omega), rfl⟩, trivial⟩ ⟨⟨_, _, rfl, rfl, rfl, rfl, id, rfl⟩, trivial⟩⟩
 ·first | replace hc11 := of_decide_eq_true hc11 | replace hc11 := of_decide_eq_false hc11 | replace hc11 := eq_of_beq hc11 | replace hc11 := ne_of_beq_false hc11 | simp only [bne_iff_ne, ne_eq] at hc11 | simp only [bne_eq_false_iff_eq] at hc11
  refine .exit ?_
  show Ev _ _ _ _ _
  refine .seq ?_
  refine .seq ?_
  refine .region ?_
  refine .q (op_fieldAddr (m := 0) Tryd.underlying30 rfl (by kernel_rfl) rfl) trivial rfl ?_
  refine .as (.ptr 1000 3) rfl ?_
  refine .q (op_load Tryd.underlying24 rfl rfl rfl rfl (by show 3 < 5; decide)) trivial rfl ?_
  refine .q (op_len_fsl Tryd.underlying24 rfl) trivial rfl ?_
  refine .q (op_move rfl) trivial rfl ?_
  refine .nil ?_
  show Ev _ _ _ _ _
  refine .block ?_
  refine Ev.loop (ι := { i : Nat // i ≤ ns.length }) (fun q => ⟨[(19, .fsl (List.map AV.dsl ns) ns.length 1), (20, .i64 ((ns.length : Nat) : Int)), (21, .i64 ((q.1 : Nat) : Int))], [], 1008⟩) (fun q => ns.length - q.1) ⟨0, Nat.zero_le _⟩ (StLe.mk [] rfl rfl ⟨⟨_, rfl, by first | rfl | (simp only [AV.ren]; congr 1; omega), rfl⟩, ⟨_, rfl, by first | rfl | (simp only [AV.ren]; congr 1; omega), rfl⟩, ⟨_, rfl, by first | rfl | (simp only [AV.ren]; congr 1; omega), rfl⟩, trivial⟩ trivial) ?_
  rintro ⟨i, hi⟩
  try dsimp only
  refine .seq ?_
  refine .region ?_
  refine .q (op_cmpI rfl rfl rfl) trivial rfl ?_
  refine .nil ?_
  show Ev _ _ _ _ _
  refine .seq ?_
  refine .cond rfl (fun hc22 => ?_) (fun hc22 => ?_)
  ·first | replace hc22 := of_decide_eq_true hc22 | replace hc22 := of_decide_eq_false hc22 | replace hc22 := eq_of_beq hc22 | replace hc22 := ne_of_beq_false hc22 | simp only [bne_iff_ne, ne_eq] at hc22 | simp only [bne_eq_false_iff_eq] at hc22
   refine .skip ?_
   show Ev _ _ _ _ _
   refine .seq ?_
   refine .block ?_
   refine .seq ?_
   refine .region ?_
   refine .q (op_indexAddr_fsl (z := 1) Tryd.underlying24 inf23.sz (by decide) rfl rfl rfl (by first | omega | (simp only [AV.len]; omega) | (simp only [AV.len, List.length_set]; omega) | assumption | (simp [AV.len]; done))) trivial rfl ?_
   refine .q (op_load_fptr Tryd.underlying23 rfl rfl (get_names (by omega))) trivial rfl ?_
   refine .q (op_assign rfl) trivial rfl ?_
   refine .nil ?_
   show Ev _ _ _ _ _
   refine .seq ?_
   refine .region ?_
   refine .q (op_move rfl) trivial rfl ?_
   refine .q (op_call (U := []) [] [] (join_ev (ns.getD i []) (by have := (join_bounds (hnj i)).1; omega) (by have := (join_bounds (hnj i)).2; omega)) Tryd.func44 (by kernel_rfl) rfl rfl rfl (⟨⟨_, rfl, rfl, rfl⟩, ⟨_, rfl, rfl, rfl⟩, trivial⟩) (trivial) (trivial) (trivial) rfl) trivial rfl ?_
   refine .q (op_len_str Tryd.underlying9 rfl) trivial rfl ?_
   refine .q (op_cmpI rfl rfl rfl) trivial rfl ?_
   refine .nil ?_
   show Ev _ _ _ _ _
   refine .cond_false rfl (decide_eq_false (by have := hnj i; omega)) ?_
   refine .skip ?_
   show Ev _ _ _ _ _
   refine .region ?_
   refine .q (op_addI rfl rfl ⟨by first | omega | (simp only [AV.len]; omega) | (simp only [AV.len, List.length_set]; omega) | assumption | (simp [AV.len]; done), by first | omega | (simp only [AV.len]; omega) | (simp only [AV.len, List.length_set]; omega) | assumption | (simp [AV.len]; done)⟩) trivial rfl ?_
   refine .q (op_move rfl) trivial rfl ?_
   refine .nil ?_
   exact ⟨⟨i + 1, by omega⟩, by (try dsimp only); omega, StLe.mk [] rfl rfl ⟨⟨_, rfl, by first | rfl | (simp only [AV.ren]; congr 1; omega), rfl⟩, ⟨_, rfl, by first | rfl | (simp only [AV.ren]; congr 1; omega), rfl⟩, ⟨_, rfl, by first | rfl | (simp only [AV.ren]; congr 1; omega), rfl⟩, trivial⟩ trivial⟩
  ·first | replace hc22 := of_decide_eq_true hc22 | replace hc22 := of_decide_eq_false hc22 | replace hc22 := eq_of_beq hc22 | replace hc22 := ne_of_beq_false hc22 | simp only [bne_iff_ne, ne_eq] at hc22 | simp only [bne_eq_false_iff_eq] at hc22
   refine .exit ?_
   show Ev _ _ _ _ _
   refine .seq ?_
   refine .region ?_
   refine .q (op_assign rfl) trivial rfl ?_
   refine .nil ?_
   show Ev _ _ _ _ _
   refine .ret ?_
   show RetOk _ _ _ _ _ _ _
   exact ret1v rfl (.inl rfl) rfl (rfl) trivial
end Go.Proofs.YtgnicenhnchglaaDoor
namespace Go.Proofs.YtgnicenhnchglaaDoor
open Go.RowKit
/-- So many bytes are read: the names that are whole, and the beginning of the next one. -/
structure RnI (s : List UInt8) where
  k : Nat
  d : List (List UInt8)
  w : List UInt8
  hk : k ≤ s.length + 1
  h1 : k ≤ s.length → splitC s = d ++ joinW w (splitC (s.drop k))
  h2 : k = s.length + 1 → d = splitC s
  hw : w.length ≤ k
theorem RnI.len {s : List UInt8} (q : RnI s) (h : q.k ≤ s.length) : q.d.length < (splitC s).length := by
  rw [q.h1 h, List.length_append]
  cases splitC (s.drop q.k) with
  | nil => simp [joinW]
  | cons x l => simp [joinW]
theorem RnI.at {s : List UInt8} (q : RnI s) (h : q.k ≤ s.length) (he : q.k = s.length ∨ s.getD q.k 0 = 44) : (splitC s).getD q.d.length [] = q.w ∧ ∃ l, splitC s = q.d ++ q.w :: l ∧ (q.k < s.length → l = splitC (s.drop (q.k + 1))) ∧ (q.k = s.length → l = []) := by
  have hj : ∃ l, joinW q.w (splitC (s.drop q.k)) = q.w :: l ∧ (q.k < s.length → l = splitC (s.drop (q.k + 1))) ∧ (q.k = s.length → l = []) := by
    rcases Nat.lt_or_ge q.k s.length with hl | hl
    · have h44 : s.getD q.k 0 = 44 := he.resolve_left (by omega)
      rw [drop_cons hl, h44, joinW_comma]
      exact ⟨_, rfl, fun _ => rfl, fun e => absurd e (by omega)⟩
    · rw [List.drop_of_length_le hl]
      exact ⟨[], by simp [splitC, joinW], fun e => absurd e (by omega), fun _ => rfl⟩
  obtain ⟨l, hj, hl1, hl2⟩ := hj
  have h0 := q.h1 h
  rw [hj] at h0
  exact ⟨by rw [h0]; simp [List.getD_eq_getElem?_getD], l, h0, hl1, hl2⟩
def RnI.more {s : List UInt8} (q : RnI s) (h : q.k < s.length) (hc : ¬ s.getD q.k 0 = 44) : RnI s :=
  ⟨q.k + 1, q.d, q.w ++ [s.getD q.k 0], by omega, fun _ => by rw [q.h1 (by omega), drop_cons h, joinW_step hc], fun e => absurd e (by omega), by have := q.hw; simp; omega⟩
def RnI.name {s : List UInt8} (q : RnI s) (h : q.k ≤ s.length) (he : q.k = s.length ∨ s.getD q.k 0 = 44) : RnI s :=
  ⟨q.k + 1, q.d ++ [q.w], [], by omega, fun hk => by
    obtain ⟨_, l, h1, h2, _⟩ := q.at h he
    rw [h1, h2 (by omega), joinW_nil]; simp, fun hk => by
    obtain ⟨_, l, h1, _, h3⟩ := q.at h he
    rw [h1, h3 (by omega)], by simp⟩
end Go.Proofs.YtgnicenhnchglaaDoor
namespace Go.Proofs.YtgnicenhnchglaaDoor
open Go.RowKit
set_option maxRecDepth 100000 in
theorem rnamesd_nil (i : DI) (hi : i.ok) (hr : i.r.length ≤ 90000000) (h0 : (textD i 4096).2 = []) : Meets Tryd.prog 35 [.agg [.str (i).r, .i64 (((i).e : Nat) : Int)]] [] (.tup [.agg [.str ((textD i 4096).1).r, .i64 ((((textD i 4096).1).e : Nat) : Int)], .dsl []]) [] := by
 have hl := (textD_len_le i 4096).1
 have hn : (splitC (textD i 4096).2).length ≤ 90000001 := by
  rw [splitC_len]; have := List.count_le_length (a := (44 : UInt8)) (l := (textD i 4096).2); omega
 refine meets_of_ev (nt := 51) Tryd.func35 rfl rfl (Nat.le_of_ble_eq_true rfl) ?_
 refine .seq ?_
 refine .region ?_
 refine .a (op_boxRow rfl rfl) trivial rfl ?_
 refine .a (op_allocRow zero71 rel_zero71 rfl) trivial rfl ?_
 refine .q (op_assign rfl) trivial rfl ?_
 refine .nil ?_
 show Ev _ _ _ _ _
 refine .seq ?_
 refine .region ?_
 refine .q (op_loadRow Tryd.underlying71 rfl (by kernel_rfl) rfl rfl rfl (rfl)) trivial rfl ?_
 refine .q (op_call (U := []) [] [] (rtext_ev i hi 4096) Tryd.func36 (by kernel_rfl) rfl rfl rfl (⟨⟨_, rfl, rfl, rfl⟩, ⟨_, rfl, rfl, rfl⟩, trivial⟩) (trivial) (trivial) (trivial) rfl) trivial rfl ?_
 refine .q (op_move rfl) trivial rfl ?_
 refine .q (op_extract rfl rfl) trivial rfl ?_
 refine .q (op_extract rfl rfl) trivial rfl ?_
 refine .a (op_allocRow zero71 rel_zero71 rfl) trivial rfl ?_
 refine .w (op_storeRow (by kernel_rfl) rfl rfl rfl rfl rfl (rfl) (rfl)) trivial rfl ?_
 refine .q (op_assign rfl) trivial rfl ?_
 refine .nil ?_
 show Ev _ _ _ _ _
 refine .seq ?_
 refine .seq ?_
 refine .region ?_
 refine .q (op_move rfl) trivial rfl ?_
 refine .q (op_eqS rfl rfl rfl) trivial rfl ?_
 refine .nil ?_
 show Ev _ _ _ _ _
 refine .cond_true rfl (by rw [h0]; rfl) ?_
 refine .seq ?_
 refine .region ?_
 refine .q (op_loadRow Tryd.underlying71 rfl (by kernel_rfl) rfl rfl rfl (rfl)) trivial rfl ?_
 refine .w (op_storeRow (by kernel_rfl) rfl rfl rfl rfl rfl (rfl) (rfl)) trivial rfl ?_
 refine .q (op_assign rfl) trivial rfl ?_
 refine .nil ?_
 show Ev _ _ _ _ _
 refine Ev.asR (T1 := []) (.dsl []) nil_dsl ?_
 show Ev _ _ _ _ _
 refine .ret ?_
 show RetOk _ _ _ _ _ _ _
 exact retc2 rfl (.inl rfl) ⟨_, _, _, _, rfl, rfl, rfl, rfl, rfl, Tryd.underlying71, rfl, (by kernel_rfl)⟩ rfl trivial
set_option maxRecDepth 100000 in
theorem rnamesd_ok (i : DI) (hi : i.ok) (hr : i.r.length ≤ 90000000) (h0 : ¬ (textD i 4096).2 = []) (h : (splitC (textD i 4096).2).all nameOk = true) : Meets Tryd.prog 35 [.agg [.str (i).r, .i64 (((i).e : Nat) : Int)]] [] (.tup [.agg [.str ((textD i 4096).1).r, .i64 ((((textD i 4096).1).e : Nat) : Int)], .dsl (splitC (textD i 4096).2)]) [] := by
 have hl := (textD_len_le i 4096).1
 have hn : (splitC (textD i 4096).2).length ≤ 90000001 := by
  rw [splitC_len]; have := List.count_le_length (a := (44 : UInt8)) (l := (textD i 4096).2); omega
 refine meets_of_ev (nt := 51) Tryd.func35 rfl rfl (Nat.le_of_ble_eq_true rfl) ?_
 refine .seq ?_
 refine .region ?_
 refine .a (op_boxRow rfl rfl) trivial rfl ?_
 refine .a (op_allocRow zero71 rel_zero71 rfl) trivial rfl ?_
 refine .q (op_assign rfl) trivial rfl ?_
 refine .nil ?_
 show Ev _ _ _ _ _
 refine .seq ?_
 refine .region ?_
 refine .q (op_loadRow Tryd.underlying71 rfl (by kernel_rfl) rfl rfl rfl (rfl)) trivial rfl ?_
 refine .q (op_call (U := []) [] [] (rtext_ev i hi 4096) Tryd.func36 (by kernel_rfl) rfl rfl rfl (⟨⟨_, rfl, rfl, rfl⟩, ⟨_, rfl, rfl, rfl⟩, trivial⟩) (trivial) (trivial) (trivial) rfl) trivial rfl ?_
 refine .q (op_move rfl) trivial rfl ?_
 refine .q (op_extract rfl rfl) trivial rfl ?_
 refine .q (op_extract rfl rfl) trivial rfl ?_
 refine .a (op_allocRow zero71 rel_zero71 rfl) trivial rfl ?_
 refine .w (op_storeRow (by kernel_rfl) rfl rfl rfl rfl rfl (rfl) (rfl)) trivial rfl ?_
 refine .q (op_assign rfl) trivial rfl ?_
 refine .nil ?_
 show Ev _ _ _ _ _
 refine .seq ?_
 refine .seq ?_
 refine .region ?_
 refine .q (op_move rfl) trivial rfl ?_
 refine .q (op_eqS rfl rfl rfl) trivial rfl ?_
 refine .nil ?_
 show Ev _ _ _ _ _
 refine .cond_false rfl (beq_eq_false_iff_ne.2 h0) ?_
 refine .skip ?_
 show Ev _ _ _ _ _
 refine .seq ?_
 refine .region ?_
 refine .a (ap_build0 (z := 1) (c := .aggS []) Tryd.underlying23 inf9 rfl) trivial rfl ?_
 refine .q (op_assign rfl) trivial rfl ?_
 refine .nil ?_
 show Ev _ _ _ _ _
 refine .seq ?_
 refine .region ?_
 refine .q (op_assign rfl) trivial rfl ?_
 refine .nil ?_
 show Ev _ _ _ _ _
 refine .seq ?_
 refine .seq ?_
 refine .region ?_
 refine .q (op_assign rfl) trivial rfl ?_
 refine .nil ?_
 show Ev _ _ _ _ _
 refine .block ?_
 refine Ev.loop (ι := RnI (textD i 4096).2) (fun q => ⟨[(2, .ptr 1008 0), (4, .ptr 1016 0), (5, .str (textD i 4096).2), (6, .sl 1024 0 q.d.length 1), (7, .str q.w), (8, .i64 ((q.k : Nat) : Int))], [(1008, some ⟨.agg [.str [], .i64 0], 71, true⟩), (1016, some ⟨.agg [.str ((textD i 4096).1).r, .i64 ((((textD i 4096).1).e : Nat) : Int)], 71, true⟩), (1024, some ⟨.aggS q.d, 9, true⟩)], 1032⟩) (fun q => (textD i 4096).2.length + 1 - q.k) ⟨0, [], [], by omega, fun _ => by rw [List.drop_zero, joinW_nil]; rfl, fun e => absurd e (by omega), by simp⟩ (StLe.mk [(1008, 1008), (1016, 1016), (1024, 1024)] rfl rfl ⟨⟨_, rfl, by rfl, rfl⟩, ⟨_, rfl, by rfl, rfl⟩, ⟨_, rfl, by rfl, rfl⟩, ⟨_, rfl, by rfl, rfl⟩, ⟨_, rfl, by rfl, rfl⟩, ⟨_, rfl, by rfl, rfl⟩, trivial⟩ ⟨⟨_, _, rfl, rfl, rfl, rfl, id, rfl⟩, ⟨_, _, rfl, rfl, rfl, rfl, id, rfl⟩, ⟨_, _, rfl, rfl, rfl, rfl, id, rfl⟩, trivial⟩) ?_
 rintro q
 try dsimp only
 refine .seq ?_
 refine .seq ?_
 refine .region ?_
 refine .q (op_move rfl) trivial rfl ?_
 refine .q (op_move rfl) trivial rfl ?_
 refine .q (op_len_str Tryd.underlying9 rfl) trivial rfl ?_
 refine .q (op_cmpI rfl rfl rfl) trivial rfl ?_
 refine .nil ?_
 show Ev _ _ _ _ _
 refine .cond rfl (fun hc21 => ?_) (fun hc21 => ?_)
 ·first | replace hc21 := of_decide_eq_true hc21 | replace hc21 := of_decide_eq_false hc21 | replace hc21 := eq_of_beq hc21 | replace hc21 := ne_of_beq_false hc21 | simp only [bne_iff_ne, ne_eq] at hc21 | simp only [bne_eq_false_iff_eq] at hc21
  refine .skip ?_
  show Ev _ _ _ _ _
  refine .seq ?_
  refine .block ?_
  refine .seq ?_
  refine .seq ?_
  refine .region ?_
  have hk := q.hk
  have hqw := q.hw
  have hdn : q.k ≤ (textD i 4096).2.length → q.d.length < (splitC (textD i 4096).2).length := q.len
  refine .q (op_move rfl) trivial rfl ?_
  refine .q (op_move rfl) trivial rfl ?_
  refine .q (op_len_str Tryd.underlying9 rfl) trivial rfl ?_
  refine .q (op_cmpI rfl rfl rfl) trivial rfl ?_
  refine .q (op_move rfl) trivial rfl ?_
  refine .split (fun hg28 => ?_) (fun hg28 => ?_)
  ·first | replace hg28 := of_decide_eq_true hg28 | replace hg28 := of_decide_eq_false hg28 | replace hg28 := eq_of_beq hg28 | replace hg28 := ne_of_beq_false hg28 | simp only [bne_iff_ne, ne_eq] at hg28 | simp only [bne_eq_false_iff_eq] at hg28
   refine .q (op_move rfl) ⟨_, rfl, rfl⟩ rfl ?_
   refine .q (op_move rfl) ⟨_, rfl, rfl⟩ rfl ?_
   refine .q (op_index_str Tryd.underlying9 rfl rfl rfl (by omega)) ⟨_, rfl, rfl⟩ rfl ?_
   refine .q (op_bin8 rfl rfl rfl) ⟨_, rfl, rfl⟩ rfl ?_
   refine .q (op_pick_true rfl rfl rfl) trivial rfl ?_
   refine .nil ?_
   show Ev _ _ _ _ _
   refine .cond rfl (fun hc33 => ?_) (fun hc33 => ?_)
   ·first | replace hc33 := of_decide_eq_true hc33 | replace hc33 := of_decide_eq_false hc33 | replace hc33 := eq_of_beq hc33 | replace hc33 := ne_of_beq_false hc33 | simp only [bne_iff_ne, ne_eq] at hc33 | simp only [bne_eq_false_iff_eq] at hc33
    refine .seq ?_
    refine .region ?_
    refine .q (op_move rfl) trivial rfl ?_
    refine .q (op_move rfl) trivial rfl ?_
    refine .q (op_move rfl) trivial rfl ?_
    refine .q (op_move rfl) trivial rfl ?_
    refine .q (op_addI rfl rfl ⟨by omega, by omega⟩) trivial rfl ?_
    refine .q (op_slice_str Tryd.underlying9 rfl (bnd_some rfl rfl) (bnd_some rfl (show ((q.k : Nat) : Int) + 1 = ((q.k + 1 : Nat) : Int) from rfl)) (by omega) (by omega)) trivial rfl ?_
    refine .as (.str [(textD i 4096).2.getD q.k 0]) (congrArg AV.str (slice_one (by omega))) ?_
    refine .q (op_addS rfl rfl (by simp only [List.length_cons, List.length_nil]; omega)) trivial rfl ?_
    refine .q (op_assign rfl) trivial rfl ?_
    refine .nil ?_
    show Ev _ _ _ _ _
    refine .exit ?_
    show Ev _ _ _ _ _
    refine .region ?_
    refine .q (op_move rfl) trivial rfl ?_
    refine .q (op_addI rfl rfl ⟨by omega, by omega⟩) trivial rfl ?_
    refine .q (op_assign rfl) trivial rfl ?_
    refine .nil ?_
    exact ⟨q.more (by omega) hc33, by (try dsimp only); (show (textD i 4096).2.length + 1 - (q.k + 1) < (textD i 4096).2.length + 1 - q.k; omega), StLe.mk [(1008, 1008), (1016, 1016), (1024, 1024)] rfl rfl ⟨⟨_, rfl, by rfl, rfl⟩, ⟨_, rfl, by rfl, rfl⟩, ⟨_, rfl, by rfl, rfl⟩, ⟨_, rfl, by rfl, rfl⟩, ⟨_, rfl, by rfl, rfl⟩, ⟨_, rfl, by rfl, rfl⟩, trivial⟩ ⟨⟨_, _, rfl, rfl, rfl, rfl, id, rfl⟩, ⟨_, _, rfl, rfl, rfl, rfl, id, rfl⟩, ⟨_, _, rfl, rfl, rfl, rfl, id, rfl⟩, trivial⟩⟩
   ·first | replace hc33 := of_decide_eq_true hc33 | replace hc33 := of_decide_eq_false hc33 | replace hc33 := eq_of_beq hc33 | replace hc33 := ne_of_beq_false hc33 | simp only [bne_iff_ne, ne_eq] at hc33 | simp only [bne_eq_false_iff_eq] at hc33
    refine .skip ?_
    show Ev _ _ _ _ _
    refine .seq ?_
    refine .seq ?_
    refine .region ?_
    refine .q (op_move rfl) trivial rfl ?_
    refine .q (op_call (U := []) [] [] (rname_ev q.w (by have := q.hw; have := q.hk; omega)) Tryd.func23 (by kernel_rfl) rfl rfl rfl (⟨⟨_, rfl, rfl, rfl⟩, trivial⟩) (trivial) (trivial) (trivial) rfl) trivial rfl ?_
    refine .q (op_notB rfl) trivial rfl ?_
    refine .nil ?_
    show Ev _ _ _ _ _
    refine .cond_false rfl (by rw [← (q.at (by omega) (by first | exact .inr (bne_eq_false_iff_eq.1 hc33) | exact .inl (by omega))).1, all_get h (hdn (by omega))]; rfl) ?_
    refine .skip ?_
    show Ev _ _ _ _ _
    refine .seq ?_
    refine .region ?_
    refine .q (op_move rfl) trivial rfl ?_
    refine .q (op_move rfl) trivial rfl ?_
    refine .a (ap_build (us := [_]) (c := .aggS [_]) Tryd.underlying23 inf9 rfl (by decide) (by decide) ⟨rfl, rfl, rfl, trivial⟩ rfl) trivial rfl ?_
    refine .a (ap_cat Tryd.underlying23 inf9 rfl rfl rfl rfl (by first | rfl | omega | (simp [AV.len]; done) | (have := hdn (by omega); omega)) rfl rfl (by first | rfl | omega | (simp [AV.len]; done) | (have := hdn (by omega); omega)) rfl (by first | rfl | omega | (simp [AV.len]; done) | (have := hdn (by omega); omega))) trivial rfl ?_
    refine .q (op_assign rfl) trivial rfl ?_
    refine .nil ?_
    show Ev _ _ _ _ _
    refine .region ?_
    refine .q (op_assign rfl) trivial rfl ?_
    refine .nil ?_
    show Ev _ _ _ _ _
    refine .region ?_
    refine .q (op_move rfl) trivial rfl ?_
    refine .q (op_addI rfl rfl ⟨by omega, by omega⟩) trivial rfl ?_
    refine .q (op_assign rfl) trivial rfl ?_
    refine .nil ?_
    exact ⟨q.name (by omega) (by first | exact .inr (bne_eq_false_iff_eq.1 hc33) | exact .inl (by omega)), by (try dsimp only); (show (textD i 4096).2.length + 1 - (q.k + 1) < (textD i 4096).2.length + 1 - q.k; omega), StLe.mk [(1008, 1008), (1016, 1016), (1024, 1040)] rfl rfl ⟨⟨_, rfl, by rfl, rfl⟩, ⟨_, rfl, by rfl, rfl⟩, ⟨_, rfl, by rfl, rfl⟩, ⟨_, rfl, by (show AV.sl _ _ _ _ = AV.sl _ _ _ _; simp [RnI.name]; rfl), rfl⟩, ⟨_, rfl, by rfl, rfl⟩, ⟨_, rfl, by rfl, rfl⟩, trivial⟩ ⟨⟨_, _, rfl, rfl, rfl, rfl, id, rfl⟩, ⟨_, _, rfl, rfl, rfl, rfl, id, rfl⟩, ⟨_, _, rfl, rfl, rfl, rfl, id, rfl⟩, trivial⟩⟩
  ·first | replace hg28 := of_decide_eq_true hg28 | replace hg28 := of_decide_eq_false hg28 | replace hg28 := eq_of_beq hg28 | replace hg28 := ne_of_beq_false hg28 | simp only [bne_iff_ne, ne_eq] at hg28 | simp only [bne_eq_false_iff_eq] at hg28
   refine .no ⟨_, rfl, rfl⟩ rfl ?_
   refine .no ⟨_, rfl, rfl⟩ rfl ?_
   refine .no ⟨_, rfl, rfl⟩ rfl ?_
   refine .no ⟨_, rfl, rfl⟩ rfl ?_
   refine .q (op_pick_false rfl rfl rfl) trivial rfl ?_
   refine .nil ?_
   show Ev _ _ _ _ _
   refine .cond_false rfl rfl ?_
   refine .skip ?_
   show Ev _ _ _ _ _
   refine .seq ?_
   refine .seq ?_
   refine .region ?_
   refine .q (op_move rfl) trivial rfl ?_
   refine .q (op_call (U := []) [] [] (rname_ev q.w (by have := q.hw; have := q.hk; omega)) Tryd.func23 (by kernel_rfl) rfl rfl rfl (⟨⟨_, rfl, rfl, rfl⟩, trivial⟩) (trivial) (trivial) (trivial) rfl) trivial rfl ?_
   refine .q (op_notB rfl) trivial rfl ?_
   refine .nil ?_
   show Ev _ _ _ _ _
   refine .cond_false rfl (by rw [← (q.at (by omega) (by first | exact .inr (bne_eq_false_iff_eq.1 hc33) | exact .inl (by omega))).1, all_get h (hdn (by omega))]; rfl) ?_
   refine .skip ?_
   show Ev _ _ _ _ _
   refine .seq ?_
   refine .region ?_
   refine .q (op_move rfl) trivial rfl ?_
   refine .q (op_move rfl) trivial rfl ?_
   refine .a (ap_build (us := [_]) (c := .aggS [_]) Tryd.underlying23 inf9 rfl (by decide) (by decide) ⟨rfl, rfl, rfl, trivial⟩ rfl) trivial rfl ?_
   refine .a (ap_cat Tryd.underlying23 inf9 rfl rfl rfl rfl (by first | rfl | omega | (simp [AV.len]; done) | (have := hdn (by omega); omega)) rfl rfl (by first | rfl | omega | (simp [AV.len]; done) | (have := hdn (by omega); omega)) rfl (by first | rfl | omega | (simp [AV.len]; done) | (have := hdn (by omega); omega))) trivial rfl ?_
   refine .q (op_assign rfl) trivial rfl ?_
   refine .nil ?_
   show Ev _ _ _ _ _
   refine .region ?_
   refine .q (op_assign rfl) trivial rfl ?_
   refine .nil ?_
   show Ev _ _ _ _ _
   refine .region ?_
   refine .q (op_move rfl) trivial rfl ?_
   refine .q (op_addI rfl rfl ⟨by omega, by omega⟩) trivial rfl ?_
   refine .q (op_assign rfl) trivial rfl ?_
   refine .nil ?_
   exact ⟨q.name (by omega) (by first | exact .inr (bne_eq_false_iff_eq.1 hc33) | exact .inl (by omega)), by (try dsimp only); (show (textD i 4096).2.length + 1 - (q.k + 1) < (textD i 4096).2.length + 1 - q.k; omega), StLe.mk [(1008, 1008), (1016, 1016), (1024, 1040)] rfl rfl ⟨⟨_, rfl, by rfl, rfl⟩, ⟨_, rfl, by rfl, rfl⟩, ⟨_, rfl, by rfl, rfl⟩, ⟨_, rfl, by (show AV.sl _ _ _ _ = AV.sl _ _ _ _; simp [RnI.name]; rfl), rfl⟩, ⟨_, rfl, by rfl, rfl⟩, ⟨_, rfl, by rfl, rfl⟩, trivial⟩ ⟨⟨_, _, rfl, rfl, rfl, rfl, id, rfl⟩, ⟨_, _, rfl, rfl, rfl, rfl, id, rfl⟩, ⟨_, _, rfl, rfl, rfl, rfl, id, rfl⟩, trivial⟩⟩
 ·first | replace hc21 := of_decide_eq_true hc21 | replace hc21 := of_decide_eq_false hc21 | replace hc21 := eq_of_beq hc21 | replace hc21 := ne_of_beq_false hc21 | simp only [bne_iff_ne, ne_eq] at hc21 | simp only [bne_eq_false_iff_eq] at hc21
  refine .exit ?_
  show Ev _ _ _ _ _
  refine .seq ?_
  refine .region ?_
  refine .q (op_loadRow Tryd.underlying71 rfl (by kernel_rfl) rfl rfl rfl (rfl)) trivial rfl ?_
  refine .q (op_move rfl) trivial rfl ?_
  refine .w (op_storeRow (by kernel_rfl) rfl rfl rfl rfl rfl (rfl) (rfl)) trivial rfl ?_
  refine .q (op_assign rfl) trivial rfl ?_
  refine .nil ?_
  show Ev _ _ _ _ _
  refine Ev.freeze (t := 3) (b := 1024) (o := 0) (n := q.d.length) (e := 9) (L := q.d) (Nat.le_of_ble_eq_true rfl) rfl rfl (by omega) ?_
  show Ev _ _ _ _ _
  refine .ret ?_
  show RetOk _ _ _ _ _ _ _
  exact retc2 rfl (.inl rfl) ⟨_, _, _, _, rfl, rfl, rfl, rfl, rfl, Tryd.underlying71, rfl, (by kernel_rfl)⟩ (by have e := q.h2 (by have := q.hk; omega); rw [← e]; show some (AV.dsl _) = _; rw [List.drop_zero, List.take_length]) trivial
set_option maxRecDepth 100000 in
theorem rnamesd_bad (i : DI) (hi : i.ok) (hr : i.r.length ≤ 90000000) (h0 : ¬ (textD i 4096).2 = []) (b : Nat) (hb : b < (splitC (textD i 4096).2).length) (hbad : nameOk ((splitC (textD i 4096).2).getD b []) = false) : Meets Tryd.prog 35 [.agg [.str (i).r, .i64 (((i).e : Nat) : Int)]] [] (.tup [.agg [.str [], .i64 3], .dsl []]) [] := by
 have hl := (textD_len_le i 4096).1
 have hn : (splitC (textD i 4096).2).length ≤ 90000001 := by
  rw [splitC_len]; have := List.count_le_length (a := (44 : UInt8)) (l := (textD i 4096).2); omega
 refine meets_of_ev (nt := 51) Tryd.func35 rfl rfl (Nat.le_of_ble_eq_true rfl) ?_
 refine .seq ?_
 refine .region ?_
 refine .a (op_boxRow rfl rfl) trivial rfl ?_
 refine .a (op_allocRow zero71 rel_zero71 rfl) trivial rfl ?_
 refine .q (op_assign rfl) trivial rfl ?_
 refine .nil ?_
 show Ev _ _ _ _ _
 refine .seq ?_
 refine .region ?_
 refine .q (op_loadRow Tryd.underlying71 rfl (by kernel_rfl) rfl rfl rfl (rfl)) trivial rfl ?_
 refine .q (op_call (U := []) [] [] (rtext_ev i hi 4096) Tryd.func36 (by kernel_rfl) rfl rfl rfl (⟨⟨_, rfl, rfl, rfl⟩, ⟨_, rfl, rfl, rfl⟩, trivial⟩) (trivial) (trivial) (trivial) rfl) trivial rfl ?_
 refine .q (op_move rfl) trivial rfl ?_
 refine .q (op_extract rfl rfl) trivial rfl ?_
 refine .q (op_extract rfl rfl) trivial rfl ?_
 refine .a (op_allocRow zero71 rel_zero71 rfl) trivial rfl ?_
 refine .w (op_storeRow (by kernel_rfl) rfl rfl rfl rfl rfl (rfl) (rfl)) trivial rfl ?_
 refine .q (op_assign rfl) trivial rfl ?_
 refine .nil ?_
 show Ev _ _ _ _ _
 refine .seq ?_
 refine .seq ?_
 refine .region ?_
 refine .q (op_move rfl) trivial rfl ?_
 refine .q (op_eqS rfl rfl rfl) trivial rfl ?_
 refine .nil ?_
 show Ev _ _ _ _ _
 refine .cond_false rfl (beq_eq_false_iff_ne.2 h0) ?_
 refine .skip ?_
 show Ev _ _ _ _ _
 refine .seq ?_
 refine .region ?_
 refine .a (ap_build0 (z := 1) (c := .aggS []) Tryd.underlying23 inf9 rfl) trivial rfl ?_
 refine .q (op_assign rfl) trivial rfl ?_
 refine .nil ?_
 show Ev _ _ _ _ _
 refine .seq ?_
 refine .region ?_
 refine .q (op_assign rfl) trivial rfl ?_
 refine .nil ?_
 show Ev _ _ _ _ _
 refine .seq ?_
 refine .seq ?_
 refine .region ?_
 refine .q (op_assign rfl) trivial rfl ?_
 refine .nil ?_
 show Ev _ _ _ _ _
 refine .block ?_
 refine Ev.loop (ι := { q : RnI (textD i 4096).2 // q.d.length ≤ b }) (fun q => ⟨[(2, .ptr 1008 0), (4, .ptr 1016 0), (5, .str (textD i 4096).2), (6, .sl 1024 0 q.1.d.length 1), (7, .str q.1.w), (8, .i64 ((q.1.k : Nat) : Int))], [(1008, some ⟨.agg [.str [], .i64 0], 71, true⟩), (1016, some ⟨.agg [.str ((textD i 4096).1).r, .i64 ((((textD i 4096).1).e : Nat) : Int)], 71, true⟩), (1024, some ⟨.aggS q.1.d, 9, true⟩)], 1032⟩) (fun q => (textD i 4096).2.length + 1 - q.1.k) ⟨⟨0, [], [], by omega, fun _ => by rw [List.drop_zero, joinW_nil]; rfl, fun e => absurd e (by omega), by simp⟩, Nat.zero_le _⟩ (StLe.mk [(1008, 1008), (1016, 1016), (1024, 1024)] rfl rfl ⟨⟨_, rfl, by rfl, rfl⟩, ⟨_, rfl, by rfl, rfl⟩, ⟨_, rfl, by rfl, rfl⟩, ⟨_, rfl, by rfl, rfl⟩, ⟨_, rfl, by rfl, rfl⟩, ⟨_, rfl, by rfl, rfl⟩, trivial⟩ ⟨⟨_, _, rfl, rfl, rfl, rfl, id, rfl⟩, ⟨_, _, rfl, rfl, rfl, rfl, id, rfl⟩, ⟨_, _, rfl, rfl, rfl, rfl, id, rfl⟩, trivial⟩) ?_
 rintro ⟨q, hqb⟩
 try dsimp only
 refine .seq ?_
 refine .seq ?_
 refine .region ?_
 refine .q (op_move rfl) trivial rfl ?_
 refine .q (op_move rfl) trivial rfl ?_
 refine .q (op_len_str Tryd.underlying9 rfl) trivial rfl ?_
 refine .q (op_cmpI rfl rfl rfl) trivial rfl ?_
 refine .nil ?_
 show Ev _ _ _ _ _
 refine .cond_true rfl (decide_eq_true (by have hk := q.hk; by_cases e : q.k = (textD i 4096).2.length + 1; (have := congrArg List.length (q.h2 e); omega); omega)) ?_
 refine .skip ?_
 show Ev _ _ _ _ _
 refine .seq ?_
 refine .block ?_
 refine .seq ?_
 refine .seq ?_
 refine .region ?_
 have hk := q.hk
 have hqw := q.hw
 have hdn : q.k ≤ (textD i 4096).2.length → q.d.length < (splitC (textD i 4096).2).length := q.len
 have hkl : q.k ≤ (textD i 4096).2.length := by
  by_cases e : q.k = (textD i 4096).2.length + 1
  ·have := congrArg List.length (q.h2 e); omega
  ·omega
 refine .q (op_move rfl) trivial rfl ?_
 refine .q (op_move rfl) trivial rfl ?_
 refine .q (op_len_str Tryd.underlying9 rfl) trivial rfl ?_
 refine .q (op_cmpI rfl rfl rfl) trivial rfl ?_
 refine .q (op_move rfl) trivial rfl ?_
 refine .split (fun hg28 => ?_) (fun hg28 => ?_)
 ·first | replace hg28 := of_decide_eq_true hg28 | replace hg28 := of_decide_eq_false hg28 | replace hg28 := eq_of_beq hg28 | replace hg28 := ne_of_beq_false hg28 | simp only [bne_iff_ne, ne_eq] at hg28 | simp only [bne_eq_false_iff_eq] at hg28
  refine .q (op_move rfl) ⟨_, rfl, rfl⟩ rfl ?_
  refine .q (op_move rfl) ⟨_, rfl, rfl⟩ rfl ?_
  refine .q (op_index_str Tryd.underlying9 rfl rfl rfl (by omega)) ⟨_, rfl, rfl⟩ rfl ?_
  refine .q (op_bin8 rfl rfl rfl) ⟨_, rfl, rfl⟩ rfl ?_
  refine .q (op_pick_true rfl rfl rfl) trivial rfl ?_
  refine .nil ?_
  show Ev _ _ _ _ _
  refine .cond rfl (fun hc33 => ?_) (fun hc33 => ?_)
  ·first | replace hc33 := of_decide_eq_true hc33 | replace hc33 := of_decide_eq_false hc33 | replace hc33 := eq_of_beq hc33 | replace hc33 := ne_of_beq_false hc33 | simp only [bne_iff_ne, ne_eq] at hc33 | simp only [bne_eq_false_iff_eq] at hc33
   refine .seq ?_
   refine .region ?_
   refine .q (op_move rfl) trivial rfl ?_
   refine .q (op_move rfl) trivial rfl ?_
   refine .q (op_move rfl) trivial rfl ?_
   refine .q (op_move rfl) trivial rfl ?_
   refine .q (op_addI rfl rfl ⟨by omega, by omega⟩) trivial rfl ?_
   refine .q (op_slice_str Tryd.underlying9 rfl (bnd_some rfl rfl) (bnd_some rfl (show ((q.k : Nat) : Int) + 1 = ((q.k + 1 : Nat) : Int) from rfl)) (by omega) (by omega)) trivial rfl ?_
   refine .as (.str [(textD i 4096).2.getD q.k 0]) (congrArg AV.str (slice_one (by omega))) ?_
   refine .q (op_addS rfl rfl (by simp only [List.length_cons, List.length_nil]; omega)) trivial rfl ?_
   refine .q (op_assign rfl) trivial rfl ?_
   refine .nil ?_
   show Ev _ _ _ _ _
   refine .exit ?_
   show Ev _ _ _ _ _
   refine .region ?_
   refine .q (op_move rfl) trivial rfl ?_
   refine .q (op_addI rfl rfl ⟨by omega, by omega⟩) trivial rfl ?_
   refine .q (op_assign rfl) trivial rfl ?_
   refine .nil ?_
   exact ⟨⟨q.more (by omega) hc33, hqb⟩, by (try dsimp only); (show (textD i 4096).2.length + 1 - (q.k + 1) < (textD i 4096).2.length + 1 - q.k; omega), StLe.mk [(1008, 1008), (1016, 1016), (1024, 1024)] rfl rfl ⟨⟨_, rfl, by rfl, rfl⟩, ⟨_, rfl, by rfl, rfl⟩, ⟨_, rfl, by rfl, rfl⟩, ⟨_, rfl, by rfl, rfl⟩, ⟨_, rfl, by rfl, rfl⟩, ⟨_, rfl, by rfl, rfl⟩, trivial⟩ ⟨⟨_, _, rfl, rfl, rfl, rfl, id, rfl⟩, ⟨_, _, rfl, rfl, rfl, rfl, id, rfl⟩, ⟨_, _, rfl, rfl, rfl, rfl, id, rfl⟩, trivial⟩⟩
  ·first | replace hc33 := of_decide_eq_true hc33 | replace hc33 := of_decide_eq_false hc33 | replace hc33 := eq_of_beq hc33 | replace hc33 := ne_of_beq_false hc33 | simp only [bne_iff_ne, ne_eq] at hc33 | simp only [bne_eq_false_iff_eq] at hc33
   refine .skip ?_
   show Ev _ _ _ _ _
   refine .seq ?_
   refine .seq ?_
   refine .region ?_
   refine .q (op_move rfl) trivial rfl ?_
   refine .q (op_call (U := []) [] [] (rname_ev q.w (by have := q.hw; have := q.hk; omega)) Tryd.func23 (by kernel_rfl) rfl rfl rfl (⟨⟨_, rfl, rfl, rfl⟩, trivial⟩) (trivial) (trivial) (trivial) rfl) trivial rfl ?_
   refine .q (op_notB rfl) trivial rfl ?_
   refine .nil ?_
   show Ev _ _ _ _ _
   refine .cond rfl (fun hc43 => ?_) (fun hc43 => ?_)
   ·skip
    refine .seq ?_
    refine .region ?_
    refine .q (op_buildS (r := .agg [.str [], .i64 3]) Tryd.underlying71 rfl zero71 rel_zero71 rfl rfl rfl rfl) trivial rfl ?_
    refine .w (op_storeRow (by kernel_rfl) rfl rfl rfl rfl rfl (rfl) (rfl)) trivial rfl ?_
    refine .q (op_assign rfl) trivial rfl ?_
    refine .nil ?_
    show Ev _ _ _ _ _
    refine Ev.asR (T1 := []) (.dsl []) nil_dsl ?_
    show Ev _ _ _ _ _
    refine .ret ?_
    show RetOk _ _ _ _ _ _ _
    exact retc2 rfl (.inl rfl) ⟨_, _, _, _, rfl, rfl, rfl, rfl, rfl, Tryd.underlying71, rfl, (by kernel_rfl)⟩ rfl trivial
   ·skip
    refine .skip ?_
    show Ev _ _ _ _ _
    refine .seq ?_
    refine .region ?_
    refine .q (op_move rfl) trivial rfl ?_
    refine .q (op_move rfl) trivial rfl ?_
    refine .a (ap_build (us := [_]) (c := .aggS [_]) Tryd.underlying23 inf9 rfl (by decide) (by decide) ⟨rfl, rfl, rfl, trivial⟩ rfl) trivial rfl ?_
    refine .a (ap_cat Tryd.underlying23 inf9 rfl rfl rfl rfl (by first | rfl | omega | (simp [AV.len]; done) | (have := hdn (by omega); omega)) rfl rfl (by first | rfl | omega | (simp [AV.len]; done) | (have := hdn (by omega); omega)) rfl (by first | rfl | omega | (simp [AV.len]; done) | (have := hdn (by omega); omega))) trivial rfl ?_
    refine .q (op_assign rfl) trivial rfl ?_
    refine .nil ?_
    show Ev _ _ _ _ _
    refine .region ?_
    refine .q (op_assign rfl) trivial rfl ?_
    refine .nil ?_
    show Ev _ _ _ _ _
    refine .region ?_
    refine .q (op_move rfl) trivial rfl ?_
    refine .q (op_addI rfl rfl ⟨by omega, by omega⟩) trivial rfl ?_
    refine .q (op_assign rfl) trivial rfl ?_
    refine .nil ?_
    exact ⟨⟨q.name (by omega) (by first | exact .inr (bne_eq_false_iff_eq.1 hc33) | exact .inl (by omega)), (by show (q.d ++ [q.w]).length ≤ b; have hne : q.d.length ≠ b := fun e => (by have h9 := (q.at (by omega) (by first | exact .inr (bne_eq_false_iff_eq.1 hc33) | exact .inl (by omega))).1; rw [e, ] at h9; rw [← h9, hbad] at hc43; cases hc43); simp only [List.length_append, List.length_cons, List.length_nil]; omega)⟩, by (try dsimp only); (show (textD i 4096).2.length + 1 - (q.k + 1) < (textD i 4096).2.length + 1 - q.k; omega), StLe.mk [(1008, 1008), (1016, 1016), (1024, 1040)] rfl rfl ⟨⟨_, rfl, by rfl, rfl⟩, ⟨_, rfl, by rfl, rfl⟩, ⟨_, rfl, by rfl, rfl⟩, ⟨_, rfl, by (show AV.sl _ _ _ _ = AV.sl _ _ _ _; simp [RnI.name]; rfl), rfl⟩, ⟨_, rfl, by rfl, rfl⟩, ⟨_, rfl, by rfl, rfl⟩, trivial⟩ ⟨⟨_, _, rfl, rfl, rfl, rfl, id, rfl⟩, ⟨_, _, rfl, rfl, rfl, rfl, id, rfl⟩, ⟨_, _, rfl, rfl, rfl, rfl, id, rfl⟩, trivial⟩⟩
 ·first | replace hg28 := of_decide_eq_true hg28 | replace hg28 := of_decide_eq_false hg28 | replace hg28 := eq_of_beq hg28 | replace hg28 := ne_of_beq_false hg28 | simp only [bne_iff_ne, ne_eq] at hg28 | simp only [bne_eq_false_iff_eq] at hg28
  refine .no ⟨_, rfl, rfl⟩ rfl ?_
  refine .no ⟨_, rfl, rfl⟩ rfl ?_
  refine .no ⟨_, rfl, rfl⟩ rfl ?_
  refine .no ⟨_, rfl, rfl⟩ rfl ?_
  refine .q (op_pick_false rfl rfl rfl) trivial rfl ?_
  refine .nil ?_
  show Ev _ _ _ _ _
  refine .cond_false rfl rfl ?_
  refine .skip ?_
  show Ev _ _ _ _ _
  refine .seq ?_
  refine .seq ?_
  refine .region ?_
  refine .q (op_move rfl) trivial rfl ?_
  refine .q (op_call (U := []) [] [] (rname_ev q.w (by have := q.hw; have := q.hk; omega)) Tryd.func23 (by kernel_rfl) rfl rfl rfl (⟨⟨_, rfl, rfl, rfl⟩, trivial⟩) (trivial) (trivial) (trivial) rfl) trivial rfl ?_
  refine .q (op_notB rfl) trivial rfl ?_
  refine .nil ?_
  show Ev _ _ _ _ _
  refine .cond rfl (fun hc43 => ?_) (fun hc43 => ?_)
  ·skip
   refine .seq ?_
   refine .region ?_
   refine .q (op_buildS (r := .agg [.str [], .i64 3]) Tryd.underlying71 rfl zero71 rel_zero71 rfl rfl rfl rfl) trivial rfl ?_
   refine .w (op_storeRow (by kernel_rfl) rfl rfl rfl rfl rfl (rfl) (rfl)) trivial rfl ?_
   refine .q (op_assign rfl) trivial rfl ?_
   refine .nil ?_
   show Ev _ _ _ _ _
   refine Ev.asR (T1 := []) (.dsl []) nil_dsl ?_
   show Ev _ _ _ _ _
   refine .ret ?_
   show RetOk _ _ _ _ _ _ _
   exact retc2 rfl (.inl rfl) ⟨_, _, _, _, rfl, rfl, rfl, rfl, rfl, Tryd.underlying71, rfl, (by kernel_rfl)⟩ rfl trivial
  ·skip
   refine .skip ?_
   show Ev _ _ _ _ _
   refine .seq ?_
   refine .region ?_
   refine .q (op_move rfl) trivial rfl ?_
   refine .q (op_move rfl) trivial rfl ?_
   refine .a (ap_build (us := [_]) (c := .aggS [_]) Tryd.underlying23 inf9 rfl (by decide) (by decide) ⟨rfl, rfl, rfl, trivial⟩ rfl) trivial rfl ?_
   refine .a (ap_cat Tryd.underlying23 inf9 rfl rfl rfl rfl (by first | rfl | omega | (simp [AV.len]; done) | (have := hdn (by omega); omega)) rfl rfl (by first | rfl | omega | (simp [AV.len]; done) | (have := hdn (by omega); omega)) rfl (by first | rfl | omega | (simp [AV.len]; done) | (have := hdn (by omega); omega))) trivial rfl ?_
   refine .q (op_assign rfl) trivial rfl ?_
   refine .nil ?_
   show Ev _ _ _ _ _
   refine .region ?_
   refine .q (op_assign rfl) trivial rfl ?_
   refine .nil ?_
   show Ev _ _ _ _ _
   refine .region ?_
   refine .q (op_move rfl) trivial rfl ?_
   refine .q (op_addI rfl rfl ⟨by omega, by omega⟩) trivial rfl ?_
   refine .q (op_assign rfl) trivial rfl ?_
   refine .nil ?_
   exact ⟨⟨q.name (by omega) (by first | exact .inr (bne_eq_false_iff_eq.1 hc33) | exact .inl (by omega)), (by show (q.d ++ [q.w]).length ≤ b; have hne : q.d.length ≠ b := fun e => (by have h9 := (q.at (by omega) (by first | exact .inr (bne_eq_false_iff_eq.1 hc33) | exact .inl (by omega))).1; rw [e, ] at h9; rw [← h9, hbad] at hc43; cases hc43); simp only [List.length_append, List.length_cons, List.length_nil]; omega)⟩, by (try dsimp only); (show (textD i 4096).2.length + 1 - (q.k + 1) < (textD i 4096).2.length + 1 - q.k; omega), StLe.mk [(1008, 1008), (1016, 1016), (1024, 1040)] rfl rfl ⟨⟨_, rfl, by rfl, rfl⟩, ⟨_, rfl, by rfl, rfl⟩, ⟨_, rfl, by rfl, rfl⟩, ⟨_, rfl, by (show AV.sl _ _ _ _ = AV.sl _ _ _ _; simp [RnI.name]; rfl), rfl⟩, ⟨_, rfl, by rfl, rfl⟩, ⟨_, rfl, by rfl, rfl⟩, trivial⟩ ⟨⟨_, _, rfl, rfl, rfl, rfl, id, rfl⟩, ⟨_, _, rfl, rfl, rfl, rfl, id, rfl⟩, ⟨_, _, rfl, rfl, rfl, rfl, id, rfl⟩, trivial⟩⟩
theorem textD_e2 {i : DI} (h : i.ok) {m : Int} (hs : (textD i m).2 ≠ []) : (textD i m).1.e = 0 := by
 refine Decidable.byContradiction fun he => hs ?_
 have hr : ∀ {i : DI} {n : Nat}, i.ok → (rawD i n).1.e ≠ 0 → (rawD i n).2 = [] := fun {i n} hi he => by
  by_cases e0 : i.e = 0
  ·unfold rawD at he ⊢
   split
   ·next hl => rw [if_pos hl] at he; exact absurd e0 he
   ·rfl
  ·rw [rawD_err hi e0]
 unfold textD at he ⊢
 split
 ·rfl
 ·next hm => rw [if_neg hm] at he; exact hr (rawD_ok h 4) he
theorem rnamesd_ev (i : DI) (hi : i.ok) (hr : i.r.length ≤ 90000000) : Meets Tryd.prog 35 [.agg [.str (i).r, .i64 (((i).e : Nat) : Int)]] [] (.tup [.agg [.str ((namesD i).1).r, .i64 ((((namesD i).1).e : Nat) : Int)], .dsl (namesD i).2]) [] := by
 unfold namesD
 by_cases h0 : (textD i 4096).2 = []
 ·rw [if_pos h0]; exact rnamesd_nil i hi hr h0
 ·rw [if_neg h0]
  by_cases h : (splitC (textD i 4096).2).all nameOk = true
  ·rw [if_pos h]; exact rnamesd_ok i hi hr h0 h
  ·rw [if_neg h]
   obtain ⟨b, hb, hbad⟩ := not_all h
   have h9 := rnamesd_bad i hi hr h0 b hb hbad
   have he : (textD i 4096).1.e = 0 := textD_e2 hi h0
   show Meets _ _ _ _ (.tup [.agg [.str [], .i64 ((orE (textD i 4096).1.e 3 : Nat) : Int)], .dsl []]) _
   rw [he]; exact h9
end Go.Proofs.YtgnicenhnchglaaDoor
